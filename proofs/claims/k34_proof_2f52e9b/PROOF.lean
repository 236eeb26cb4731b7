import PyProof.Rows.All
import Wide.All
import OpenK.AllK
import Wide.FinOn
import PyProof.EqAt
import PyProof.EqKinds
import PyProof.TupleCall
import PyProof.StrLoop
import PyProof.StrWalks
import PyProof.CompFree
import PyProof.NeKinds
import PyProof.Rows.RuleN_isinstance
import PyProof.ConsumeWalk
import PyProof.IsiPairs
import PyProof.IsiSeqPairs
import PyProof.IsiHeapPairs
import PyProof.IsiNone
import PyProof.PureStr
import PyProof.StrCalls
import PyProof.Rows.SortStr
import PyProof.Rows.StrJoin2
import PyProof.CallStr
import PyProof.WalkInts
import PyProof.Rows.StrDigits
import PyProof.DictWalks
import PyProof.DictTruth
import PyProof.CollectWalk
import PyProof.WalkLemmas
import PyProof.Rows.SortShellK
import PyProof.Rows.SortWalk
import PyProof.SetKind
import PyProof.FactsAll.set
import PyProof.Rows.SetFrom
import PyProof.TupleKey
import PyProof.IsRules
import PyProof.WalksMore
import PyProof.SetRoads
import PyProof.DictCompW
import PyProof.ListRange
import PyProof.FString5
import PyProof.MeetsSeq2
import PyProof.FactsAll.tuple_0
import PyProof.FactsAll.tuple_2
import PyProof.FactsAll.tuple_3
import PyProof.EnumFor
import PyProof.EnumMake
import PyProof.EnumStmt
import PyProof.Rows.EnumRows
import PyProof.SumWalk
import PyProof.Rows.SeqCalls
import KE.KRevSl
import PyProof.ZipIter
import PyProof.TupleIter
import PyProof.AttrMiss
import KE.KDictOf
import KE.KDictLaws
import PyProof.TupleOfStr
import PyProof.StrCalls2
import PyProof.Rows.StrNews2
import PyProof.Rows.StrItems
import PyProof.Rows.StrSplitAre
import PyProof.Rows.StrGen4
import PyProof.Rows.RegStrFacts
import PyProof.Rows.FStr
import PyProof.SetNew
import PyProof.Rows.SetObj
import PyProof.Seq
import PyProof.Rows.SortShell
import PyProof.FactsAll.list_3
import KE.KIntText
import PyProof.StrCalls6
import PyProof.FitsReplace
import PyProof.ToksMono
import PyProof.FactsAll.str_4
import PyProof.StrBlock
import PyProof.RangeIter
import PyProof.CodeObj
import PyProof.Rows.CallKwBuiltin
import PyProof.ListMulRoad
import PyProof.StrLawsTight
import PyProof.Rows.StrPartPair
import PyProof.Rows.CatFin
import PyProof.Rows.StrClose
import PyProof.Rows.StrNext
import PyProof.Rows.StrBetween
import Lean
import PySem.Challenge.RW_onefolk_k34_whole_best_side_by_side
open Option renaming some->O,none->Y3
abbrev Y:=List
abbrev S:=Option
theorem Y2{α:Sort u}{a:α}:a=a:=rfl
open PySem renaming Value->A0,Addr->A1,Shared->A2,Program->A3,World->A4,Around->A5,Heap->A6,wpAny->A7,model->A8,starEach->A9,sizeLine->AA,Stmt->AB,Keyword->AC,backTo->AD,Obj->AE,codeAny->AF,compareOp->AG,bootBuiltins->AH,Paired->AI,Str->AJ
open PyProof.Rows renaming envOfC->AK,wpS_bind->AL,arrOf->AM
open PySem.W (instObj methodObj keepIn cellsFrom_some fnOf codeIn nsIn mg_of)
set_option maxRecDepth 100000
set_option maxHeartbeats 4000000
set_option linter.all false
set_option Elab.async false
open PySem PySem.Spec PyProof.Rows
variable{w:A4}{i:Nat}{t:SetTable}{x:AJ}{a:A1}{prog:A3}{us:Y A0}{u:A0}{κ:Type}{h:A6}{items:Array A0}{P:A3}{α β:Type}{e:Expr}{n:Nat}{mg:AJ->S A0}{base:A6}{l:A1}{env:Env}{m:Y (AJ×AJ)}{AN:Y (A1×AE)}{s:A2}{it:A1}{j:Nat}{M:Model}{A:A5}{Q:S A0->A2->Prop}{hi:S Int}{D:A1}{es:Y Expr}{pos:Pos}{c:Expr}{y:AJ}{hs:Y Int}{tg:Expr}{body:Y AB}{fp:Y A1}{iter:Expr}{lo:S Int}{pl:Y Nat}{C:A1}{op:CmpOp}{AQ:Y A0}{name:AJ}{tpos:Pos}{fd:FuncData}{apos:Pos}{qual:AJ}{scope:Scope}{osl:Array (S A0)}{p2 cpos:Pos}{XP:(AJ->S A0)->A6->Prop}{YP:A4->A6->Prop}{cl:Y (AJ×A1)}{is:Y Nat}{ifs:Y Expr}{elt tgt:Expr}{el:A1->Env->Sem Unit}{RR:A0->A1->Result->A2->Prop}{ep mask:Nat}{owner:Array (S Nat)}{elts:Y Expr}{x1:Nat}{γ δ:Type}{os:OsState}{bmB:Y A0}{newId initId:String}{a_:A1}
abbrev AZ:=Y PySem.Str
abbrev B8:=PySem.Value->PySem.Shared->Prop
abbrev B4:=PySem.W.Frag
abbrev B7:=Y Int
abbrev zd:=@wpAny_bind
abbrev ze:=@Heap.get?_push_of_some
abbrev zg:=@wpAny_pure
abbrev zh:=@List.mem_cons_self
abbrev zi:=@List.mem_cons_of_mem
abbrev zk:=@Nat.le_refl
abbrev zo:=@List.map_cons
abbrev zr:=@if_pos
abbrev zt:=@List.length_map
abbrev zv:=@Bool.false_eq_true
abbrev zw:=@List.length_append
abbrev zC:=@Heap.get?_push_size
abbrev zD:=@Heap.lt_size
abbrev zI:=@if_neg
abbrev zS:=@List.size_toArray
abbrev z4:=@Nat.ne_of_lt
abbrev z5:=@List.getElem?_eq_getElem
abbrev Zl:=@decide_eq_true_eq
abbrev Zp:=@List.mem_append_left
abbrev Zs:=@Nat.le_of_ble_eq_true
abbrev ZA:=@List.mem_append_right
abbrev ZE:=@List.getElem?_map
abbrev ZH:=@decide_eq_true
abbrev ZI:=@Nat.le_trans
abbrev ZN:=@decide_eq_false
abbrev ZO:=@Bool.false_ne_true
abbrev ZT:=@Bool.and_eq_true
abbrev ZU:=@if_false
abbrev ZY:=@List.getElem?_append_left
abbrev ZZ:=@Nat.lt_of_lt_of_le
abbrev Z3:=@List.length_cons
abbrev qa:=@List.getElem?_cons_succ
abbrev qc:=@List.map_append
abbrev qf:=@Nat.lt_succ_self
abbrev qh:=@Array.getElem?_eq_getElem
abbrev qi:=@of_decide_eq_true
abbrev qk:=@Heap.size_push
abbrev qo:=@wpAny_newObj_type
abbrev qq:=@List.append_assoc
abbrev qr:=@List.getElem?_eq_none
abbrev qv:=@List.append_nil
abbrev qA:=@Array.length_toList
abbrev qB:=@List.all_eq_true
abbrev qS:=@List.foldl_cons
abbrev qV:=@Nat.lt_succ_of_lt
abbrev Qb:=@List.nodup_nil
abbrev Qr:=@PySem.W.mg_none_of
abbrev QA:=@List.getElem?_append_right
abbrev QE:=@if_true
abbrev QI:=@Array.getElem?_toList
abbrev QN:=@wpAny_mono
abbrev QO:=@List.map_map
abbrev QP:=@List.map_congr_left
abbrev QQ:=@wpAny_holding
abbrev QR:=@List.mem_of_getElem?
abbrev QU:=@Nat.zero_le
abbrev QY:=@List.getElem?_replicate
abbrev Q1:=@List.mem_append
abbrev Q2:=@Bool.eq_iff_iff
abbrev Q3:=@wpAny_typeOf
abbrev Q4:=@List.any_eq_true
abbrev ja:=@wpAny_setState_of
abbrev js:=@Bool.not_eq_true'
abbrev jv:=@List.length_filter_le
abbrev jI:=@List.mem_cons
abbrev jS:=@Nat.le_of_lt
abbrev j0:=@decide_eq_false_iff_not
abbrev j3:=@Or.inr
abbrev Jn:=@List.sum_cons
abbrev JA:=@List.getElem_of_mem
abbrev JE:=@Option.some.inj
abbrev JI:=@List.not_mem_nil
abbrev JJ:=@wpAny_comprehension_free
abbrev JO:=@wpAny_truthy_bool
abbrev JP:=@List.nodup_append
abbrev JS:=@List.flatten_cons
abbrev JU:=@List.flatMap_cons
abbrev JY:=@List.filter_cons_of_pos
abbrev ka:=@List.filter_cons_of_neg
abbrev kb:=@Heap.get?_update_ne
abbrev kc:=@Nat.lt_irrefl
abbrev ke:=@wpAny_call_entry
abbrev kf:=@List.length_take
abbrev kg:=@List.rel_of_pairwise_cons
abbrev ki:=@codeAny_builtin
abbrev km:=@List.cons.injEq
abbrev ko:=@List.map_nil
abbrev kq:=@List.map_id'
abbrev kr:=@List.filter_congr
abbrev ku:=@Or.inl
abbrev ky:=@List.any_cons
abbrev kz:=@List.Pairwise.imp_of_mem
abbrev kA:=@PySem.mem_of_lookup
abbrev kB:=@List.getElem?_range
abbrev kC:=@wpAny_isInstance
abbrev kD:=@List.length_drop
abbrev kK:=@wpAny_passesOwn
abbrev kL:=@Nat.not_lt_zero
abbrev kM:=@List.nil_append
abbrev kN:=@List.mem_filter
abbrev kP:=@List.length_set
abbrev kQ:=@List.find?_cons
abbrev kR:=@List.all_cons
abbrev kU:=@Bool.not_true
abbrev kX:=@List.lookup_cons_self
abbrev k4:=@List.reverse_cons
abbrev k5:=@Nat.le_succ
abbrev k6:=@Bool.not_false
abbrev k7:=@List.mem_erase_of_ne
abbrev k8:=@decide_false
abbrev k9:=@Nat.ne_of_gt
abbrev Kb:=@List.replicate_succ
abbrev Ki:=@List.filterMap_cons
abbrev Kj:=@wpAny_standAt
abbrev Kk:=@wpAny_rule
abbrev Kn:=@Nat.lt_of_le_of_lt
abbrev Kt:=@Int.le_refl
abbrev Kx:=@wpAny_getItem_str_slice
abbrev KA:=@List.pairwise_mergeSort
abbrev KB:=@Ne.symm
abbrev KF:=@List.mem_map
abbrev KG:=@Bool.false_and
abbrev KI:=@List.length_range
abbrev KL:=@Int.toNat_natCast
abbrev KM:=@Array.size_append
abbrev KO:=@Array.getElem?_eq_none
abbrev KP:=@List.getElem?_zipWith
abbrev KS:=@Heap.get?_update_self
abbrev KU:=@Bool.and_true
abbrev KW:=@decide_true
abbrev K0:=@List.perm_cons_erase
abbrev K2:=@Bool.or_eq_true
abbrev ya:=@List.mergeSort_perm
abbrev yb:=@Int.toNat_of_nonneg
abbrev ye:=@Nat.zero_add
abbrev yf:=@wpAny_load
abbrev yi:=@List.mem_range
abbrev yk:=@Bool.and_false
abbrev ym:=@Option.isSome_some
abbrev yn:=@Obj.data_mapFields
abbrev yo:=@Calls.call_function_entry
abbrev yv:=@wpAny_pyIter_list
abbrev yz:=@List.pairwise_map
abbrev yA:=@List.getElem?_set
abbrev yB:=@wpAny_newList
abbrev yT:=@Bool.true_and
abbrev yY:=@PySem.F.args_tuple_add_2
abbrev y0:=@Prod.ext
abbrev y7:=@wpAny_askSetting
abbrev y8:=@List.nodup_range
abbrev y9:=@List.getElem_mem
abbrev Ya:=@wpAny_callSpecial?_slot
abbrev Yf:=@PySem.F.entry_tuple_add
abbrev YA:=@F.plain_set_update_loop
variable{K:B4}{N:AZ}{E:B8}{ys ts ps n_:AZ}
namespace L2
abbrev AY:=Sum Int AJ
def mK:AY->A0->Bool
 |.inl k,v=>Value.isInt k v
 |.inr x,v=>Value.isStrOf x v
def UE(w:A4):AY->Int
 |.inl k=>hashInt k
 |.inr x=>hashStr w x
theorem bU:∀{k:AY} {v:A0},mK k v=true->(∃i t,k=Sum.inl i/\v=Value.int i t)\/(∃x t,k=Sum.inr x/\v=Value.str x t)
 |.inl i,v,h=>by
  obtain⟨t,e⟩:=Value.isInt_shape (k:=i) (v:=v) h;exact .inl ⟨i,t,rfl,e⟩
 |.inr x,v,h=>by
  obtain⟨t,e⟩:=Value.isStrOf_shape (x:=x) (v:=v) h;exact .inr ⟨x,t,rfl,e⟩
theorem Yh(i:Int)(t:Tok):mK (.inl i) (.int i t)=true:=by simp[mK,Value.isInt]
theorem Yi(x:AJ)(t:Tok):mK (.inr x) (.str x t)=true:=by simp[mK,Value.isStrOf]
theorem gz(a b:Int):decide ((Sum.inl a:AY)=Sum.inl b)=(a==b):=by
 by_cases e:a=b
 ·subst e;simp
 ·have h:¬ (Sum.inl a:AY)=Sum.inl b:=λq=>e (Sum.inl.inj q);rw[ZN h];exact(beq_eq_false_iff_ne.mpr e).symm
theorem YI(a b:AJ):decide ((Sum.inr a:AY)=Sum.inr b)=decide (a=b):=by
 by_cases e:a=b
 ·subst e;simp
 ·have h:¬ (Sum.inr a:AY)=Sum.inr b:=λq=>e (Sum.inr.inj q);rw[ZN h,ZN e]
theorem kw(a:Int)(b:AJ):decide ((Sum.inl a:AY)=Sum.inr b)=false:=ZN (λq=>nomatch q)
theorem gL(a:AJ)(b:Int):decide ((Sum.inr a:AY)=Sum.inl b)=false:=ZN (λq=>nomatch q)
def bF(prog:A3)(w:A4):PySem.KeyKind prog w AY where
 is:=mK
 hash:=UE w
 inj:=λv a b f hb=>by
  rcases bU f with⟨i,t,rfl,rfl⟩|⟨x,t,rfl,rfl⟩
  ·rcases bU hb with⟨j,u,rfl,e⟩|⟨y,u,rfl,e⟩
   ·injection e with e1 _;rw[e1]
   ·exact nomatch e
  ·rcases bU hb with⟨j,u,rfl,e⟩|⟨y,u,rfl,e⟩
   ·exact nomatch e
   ·injection e with e1 _;rw[e1]
 byValue:=λk v h=>by
  rcases bU h with⟨i,t,rfl,rfl⟩|⟨x,t,rfl,rfl⟩<;>rfl
 pyHash:=λc h=>by
  rcases bU c with⟨i,t,rfl,rfl⟩|⟨x,t,rfl,rfl⟩
  ·exact wpAny_pyHash_int h
  ·exact wpAny_pyHash_str h
 eqBool:=λd c h=>by
  rcases bU d with⟨i,t,rfl,rfl⟩|⟨x,t,rfl,rfl⟩
  ·rcases bU c with⟨j,u,rfl,rfl⟩|⟨y,u,rfl,rfl⟩
   ·rw[gz]at h;exact wpAny_eqBool_int h
   ·rw[kw]at h;exact SeqAt.EqAt.int_str i t y u _ _ _ _ h
  ·rcases bU c with⟨j,u,rfl,rfl⟩|⟨y,u,rfl,rfl⟩
   ·rw[gL]at h;exact SeqAt.EqAt.str_int x t j u _ _ _ _ h
   ·rw[YI]at h;exact wpAny_eqBool_str h
 «strs»:=λk x t v h=>by
  rcases bU h with⟨i,u,rfl,e⟩|⟨y,u,rfl,e⟩
  ·exact nomatch e
  ·injection e with e1 _;subst e1;cases v<;>rfl
theorem QT(prog:A3)(w:A4)(i:Int)(t:Tok):(bF prog w).is (.inl i) (.int i t)=true:=Yh i t
theorem QW(prog:A3)(w:A4)(x:AJ)(t:Tok):(bF prog w).is (.inr x) (.str x t)=true:=Yi x t
end L2
namespace L2
inductive V where
 |non|bl (b:Bool)|int (i:Int)|str (x:Str)|byt (b:Array UInt8)|flt (b:UInt64)|ref (a:Addr)|ty (n:String)
 deriving DecidableEq
def Au:V->A0->Prop
 |.non,u=>u=Value.none
 |.bl b,u=>u=Value.bool b
 |.int i,u=>∃t,u=Value.int i t
 |.str x,u=>∃t,u=Value.str x t
 |.byt b,u=>∃t,u=Value.bytes b t
 |.flt b,u=>∃t,u=Value.float b t
 |.ref a,u=>u=Value.ref a
 |.ty n,u=>u=Value.type n
abbrev AX:Y V->Y A0->Prop:=AI Au
theorem AX.length{xs:Y V}{us:Y A0}(r:AX xs us):xs.length=us.length:=Paired.length r
theorem AX.get:∀{xs:Y V} {us:Y A0} {i:Nat} {x:V},AX xs us->xs[i]?=O x->∃u,us[i]?=O u/\Au x u
 |_,_,_,_,.nil,e=>by simp at e
 |_,_,0,_,.cons r _,e=>by simp at e;subst e;exact⟨_,rfl,r⟩
 |_,_,i+1,x,.cons _ t,e=>by
  obtain⟨u,h1,h2⟩:=AX.get (i:=i) (x:=x) t (by simpa using e);exact⟨u,by simpa using h1,h2⟩
theorem AX.set{x:V}{u:A0}(r:Au x u):∀{xs:Y V} {us:Y A0} (i:Nat),AX xs us->AX (xs.set i x) (us.set i u)
 |_,_,_,.nil=>.nil
 |_,_,0,.cons _ t=>.cons r t
 |_,_,i+1,.cons q t=>.cons q (AX.set r i t)
theorem AX.append:∀{xs ys:Y V} {us a:Y A0},AX xs us->AX ys a->AX (xs++ys) (us++a)
 |_,_,_,_,.nil,s=>s
 |_,_,_,_,.cons r t,s=>.cons r (AX.append t s)
theorem AX.take:∀{xs:Y V} {us:Y A0} (n:Nat),AX xs us->AX (xs.take n) (us.take n)
 |_,_,0,_=>.nil
 |_,_,_+1,.nil=>.nil
 |_,_,n+1,.cons r t=>.cons r (AX.take n t)
theorem AX.drop:∀{xs:Y V} {us:Y A0} (n:Nat),AX xs us->AX (xs.drop n) (us.drop n)
 |_,_,0,r=>r
 |_,_,_+1,.nil=>.nil
 |_,_,n+1,.cons _ t=>AX.drop n t
def Hf:S V->S A0->Prop
 |some v,O u=>Au v u
 |none,Y3=>True
 |_,_=>False
def KV:Y (κ×V)->Y (κ×A0)->Prop:=AI λ(p:κ×V) (q:κ×A0)=>p.1=q.1/\Au p.2 q.2
def kV:AY->V
 |.inl i=>.int i
 |.inr x=>.str x
inductive HO where
 |lst (xs:List V)
 |tup (xs:List V)
 |dK (AO:List (AY×V))|dT (AO:List (List AY×V))
 |set (S:Int->Bool) (n:Nat)
 |ins (C dx:Addr) (fs:List (Str×V))
 |own (x:Addr)
 |xd (fs:List (Str×V))
 |met (f x:Addr)
 |rng (lo hi:Int)
 |tH (o:Obj) (u:HO)
 |tbl (ps:Array Value)
 |ext (φ:Heap->Prop)
abbrev Hp:=A1->S HO
def B6(H:Hp)(a:A1)(o:HO):Hp:=λb=>if b=a then O o else H b
theorem bH{H:Hp}{o:HO}:B6 H a o a=O o:=by unfold B6;rw[zr rfl]
theorem aR{H:Hp}{b:A1}{o:HO}(h:b≠a):B6 H a o b=H b:=by unfold B6;rw[zI h]
def wF(h:A6)(a:A1)(items:Array A0):Prop:=∃o,h.get? a=O o/\o.cls=.type "tuple" ∧ (∃n,o.data=.seq items n)/\o.dict=Y3
theorem wF.weak(x:wF h a items):IsTup h a items:=let ⟨o,e,c,d,_⟩:=x;⟨o,e,c,d⟩
theorem wF.new(h:A6)(items:Array A0):wF (h.push { cls:=.type "tuple",data:=.seq items }) h.objs.size items:=⟨_,zC _ rfl,rfl,⟨_,rfl⟩,rfl⟩
theorem qw{H:Hp}{b:A1}{o u:HO}(h:H a=O o)(h':H b=O u)(d:o≠u):a≠b:=by
 intro e;subst e;rw[h]at h';exact d (JE h')
theorem dH{H:Hp}{b:A1}{o:HO}(h:H a=O o)(h':H b=Y3):a≠b:=by
 intro e;subst e;rw[h]at h';cases h'
section
variable(P:A3)(w:A4)
def iY(H:Hp)(h:A6)(a:A1):HO->Prop
 |.lst xs=>xs.length<=AA/\∃(AQ:Y A0) (n:Nat),AX xs AQ/\h.get? a=O { cls:=.type "list",data:=.seq AQ.toArray n }
 |.tup xs=>xs.length<=AA/\∃AQ:Y A0,AX xs AQ/\wF h a AQ.toArray
 |.dK AO=>AO.length<=AA/\(a==sysModules)=false/\∃vs,KV AO vs/\h.DictOf (bF P w) a vs
 |.dT AO=>AO.length<=AA/\(a==sysModules)=false/\∃xs:Y (Y AY×A1×A0),
   AI (λ(p:Y AY×V) (q:Y AY×A1×A0)=>p.1=q.1/\H q.2.1=O (.tup (p.1.map kV))/\Au p.2 q.2.2) AO xs ∧
   ∃o es ep,h.get? a=O o/\o.ExactDict/\o.data=.dict es ep/\es.toList=xs.map (entryOfKey (tupleKind (bF P w)))/\(xs.map (·.1)).Nodup
 |.set S n=>h.SetOf (intKind P w) a S n
 |.ins C dx fs=>H dx=O (.own a)/\fs.length<=1000/\dx≠a/\h.get? a=O (instObj C dx) ∧
   ∃mA,h.Ns1 dx mA/\(∀f,Hf (fs.lookup f) (mA f))/\PySem.Within mA (fs.map (·.1))
 |.own _=>∃o,h.get? a=O o
 |.xd fs=>∃mA,h.Ns1 a mA/\∀f,Hf (fs.lookup f) (mA f)
 |.rng lo hi=>∃t u v,h.get? a=O { cls:=.type "range",data:=.fields #[.int lo t,.int hi u,.int 1 v] }
 |.tH o u=>h.get? a=O o/\iY H h a u
 |.tbl ps=>h.get? a=O { cls:=.none,data:=.fields ps }
 |.met f x=>h.get? a=O (methodObj (.ref f) (.ref x))
 |.ext b=>b h/\(∃o,h.get? a=O o)/\∀h1 h2:A6,b h1->(∀o,h1.get? a=O o->h2.get? a=O o)->b h2
def zW(H:Hp)(h:A6):Prop:=∀a o,H a=O o->iY P w H h a o
end
section
variable{H H':Hp}{h':A6}{o:HO}
theorem iY.lt(x:iY P w H h a o):a<h.objs.size:=by
 cases o with
 |lst xs=>obtain⟨_,_,_,_,e⟩:=x;exact zD e
 |tup xs=>obtain⟨_,_,_,p⟩:=x;exact p.weak.lt
 |dK AO=>obtain⟨_,_,_,_,o,_,_,e,_⟩:=x;exact zD e
 |dT AO=>obtain⟨_,_,_,_,o,_,_,e,_⟩:=x;exact zD e
 |set S n=>obtain⟨o,_,_,_,e,_⟩:=x;exact zD e
 |ins C dx fs=>obtain⟨_,_,_,e,_⟩:=x;exact zD e
 |own y=>obtain⟨_,e⟩:=x;exact zD e
 |xd fs=>obtain⟨_,⟨_,_,_,e,_⟩,_⟩:=x;exact zD e
 |rng lo hi=>obtain⟨_,_,_,e⟩:=x;exact zD e
 |tH c u=>obtain⟨e,_⟩:=x;exact zD e
 |tbl ps=>exact zD (show h.get? a=O _ from x)
 |met f y=>exact zD (show h.get? a=O _ from x)
 |ext b=>obtain⟨_,⟨_,e⟩,_⟩:=x;exact zD e
theorem Paired.acV{α β:Type}{F G:α->β->Prop}:∀{c:Y α} {d:Y β},AI F c d->(∀a b,F a b->G a b)->AI G c d
 |_,_,.nil,_=>.nil
 |_,_,.cons r t,f=>.cons (f _ _ r) (Paired.acV t f)
theorem Paired.imp'{F G:α->β->Prop}(f:∀a b,F a b->G a b){c:Y α}{d:Y β}(r:AI F c d):AI G c d:=Paired.acV r f
theorem iY.stay(x:iY P w H h a o)(k:∀b u,(b=a\/H b=O (.own a))->h.get? b=O u->h'.get? b=O u)
  (s:∀b,H b=O (.own a)->H' b=O (.own a)) (m:∀b xs,H b=O (.tup xs)->H' b=O (.tup xs)):iY P w H' h' a o:=by
 induction o with
 |lst xs=>obtain⟨z,AQ,n,r,e⟩:=x;exact⟨z,AQ,n,r,k _ _ (.inl Y2) e⟩
 |tup xs=>obtain⟨z,AQ,r,g,e,c⟩:=x;exact⟨z,AQ,r,g,k _ _ (.inl Y2) e,c⟩
 |dK AO=>obtain⟨z,y,vs,r,g,es,ep,e,c⟩:=x;exact⟨z,y,vs,r,g,es,ep,k _ _ (.inl Y2) e,c⟩
 |dT AO=>
  obtain⟨z,y,xs,r,g,es,ep,e,c⟩:=x;exact⟨z,y,xs,Paired.acV r λp q z=>⟨z.1,m _ _ z.2.1,z.2.2⟩,g,es,ep,k _ _ (.inl Y2) e,c⟩
 |set S n=>obtain⟨g,es,ep,t,e,c⟩:=x;exact⟨g,es,ep,t,k _ _ (.inl Y2) e,c⟩
 |ins C dx fs=>
  obtain⟨d,z,j,e,mA,⟨i,es,ep,e2,c⟩,r⟩:=x;exact⟨s _ d,z,j,k _ _ (.inl Y2) e,mA,⟨i,es,ep,k _ _ (.inr d) e2,c⟩,r⟩
 |own y=>obtain⟨g,e⟩:=x;exact⟨g,k _ _ (.inl Y2) e⟩
 |xd fs=>obtain⟨mA,⟨i,es,ep,e,c⟩,r⟩:=x;exact⟨mA,⟨i,es,ep,k _ _ (.inl Y2) e,c⟩,r⟩
 |rng lo hi=>obtain⟨t,u,v,e⟩:=x;exact⟨t,u,v,k _ _ (.inl Y2) e⟩
 |tH g u l=>obtain⟨e,q⟩:=x;exact⟨k _ _ (.inl Y2) e,l q⟩
 |tbl ps=>
  have e:h.get? a=O { cls:=.none,data:=.fields ps }:=x;show h'.get? a=O { cls:=.none,data:=.fields ps };exact k a _ (.inl Y2) e
 |met f y=>
  have e:h.get? a=O (methodObj (.ref f) (.ref y)):=x;show h'.get? a=O (methodObj (.ref f) (.ref y));exact k a _ (.inl Y2) e
 |ext A=>obtain⟨p,⟨o,e⟩,st⟩:=x;exact⟨st _ _ p λo q=>k _ _ (.inl Y2) q,⟨o,k _ _ (.inl Y2) e⟩,st⟩
theorem zW.lt(x:zW P w H h)(e:H a=O o):a<h.objs.size:=(x a o e).lt
theorem zW.fresh(x:zW P w H h)(e:h.objs.size<=a):H a=Y3:=by
 cases q:H a with
 |none=>rfl
 |some u=>exact absurd (ZZ (x.lt q) e) (kc _)
theorem zW.kept(x:zW P w H h)(k:∀b u,h.get? b=O u->h'.get? b=O u):zW P w H h':=λa o e=>
 (x a o e).stay (λb u _ q=>k b u q) (λ_ q=>q) λ_ _ q=>q
theorem zW.laid(x:zW P w H h)(k:∀b u,h.get? b=O u->h'.get? b=O u)(hp:h.objs.size<=a)(new:iY P w (B6 H a o) h' a o):zW P w (B6 H a o) h':=λb u e=>by
 have d:=x.fresh hp;by_cases hb:b=a
 ·subst hb;rw[bH]at e;cases e;exact new
 ·rw[aR hb]at e;exact(x b u e).stay (λc v _ q=>k c v q) (λc q=>by rw[aR (dH q d)];exact q) λc xs q=>by rw[aR (dH q d)];exact q
end
def Rd(H:Hp)(a:A1)(u:HO):Prop:=H a=O u\/∃o,H a=O (.tH o u)
theorem Rd.ok{H:Hp}{u:HO}(r:Rd H a u)(x:zW P w H h):iY P w H h a u:=by
 rcases r with r|⟨o,r⟩
 ·exact x a u r
 ·obtain⟨_,q⟩:=x a _ r;exact q
def F0:S HO->Prop
 |some (.lst _)=>True
 |some (.dK _)=>True
 |some (.dT _)=>True
 |some (.set _ _)=>True
 |some (.ins _ _ _)=>True
 |some (.ext _)=>True
 |_=>False
section
variable{H:Hp}{h':A6}{x e:A1}{o':HO}
theorem zW.write(ok:zW P w H h)(d:F0 (H x))(he:e=x\/H e=O (.own x))(k:∀b u,b≠e->h.get? b=O u->h'.get? b=O u)(j:∃u,h'.get? e=O u)
  (new:iY P w (B6 H x o') h' x o'):zW P w (B6 H x o') h':=λb u q=>by
 have i:∀c y,H c=O (.own y)->c≠x:=λc y r z=>by subst z;rw[r]at d;exact d
 have l:∀c xs,H c=O (.tup xs)->c≠x:=λc xs r z=>by subst z;rw[r]at d;exact d
 by_cases hb:b=x
 ·subst hb;rw[bH]at q;cases q;exact new
 ·rw[aR hb]at q;by_cases f:b=e
  ·have g:H b=O (.own x):=by
    rcases he with z|z
    ·exact absurd (f.trans z) hb
    ·rw[f];exact z
   rw[q]at g;cases g;obtain⟨v,m⟩:=j;exact⟨v,by rw[f];exact m⟩
  ·refine(ok b u q).stay (λc v a r=>k c v ?_ r) (λc r=>by rw[aR (i c b r)];exact r) λc xs r=>by rw[aR (l c xs r)];exact r
   rcases a with rfl|a
   ·exact f
   ·rintro rfl;rcases he with z|z
    ·exact i c b a z
    ·rw[a]at z;cases z;exact hb rfl
end
structure Un (fs ex:List Addr) (H H':Hp) (h h':Heap):Prop where
 keep:∀b o,h.get? b=some o->H b=none->b∉fs->b∉ex->h'.get? b=some o
 slot:∀b o,h.get? b=some o->H b=none->b∈fs->b∉ex->∃sl,h'.get? b=some { o with slots:=sl }
 free:∀b o,h.get? b=some o->H b=none->b∉ex->H' b=none
 there:∀b o,h.get? b=some o->b∉ex->∃o',h'.get? b=some o'
 tups:∀b xs,H b=some (.tup xs)->H' b=some (.tup xs)
 Fi:∀b o u,H b=some (.tH o u)->H' b=some (.tH o u)
 Kh:∀b ps,H b=some (.tbl ps)->∃more,H' b=some (.tbl (ps++more))
section
variable{fs fs' ex ex':Y A1}{H H1 H2:Hp}{h1 h2 h':A6}{x e:A1}{o:HO}
theorem Un.any(u:Un fs ex H H1 h h1){b:A1}{a:AE}(q:h.get? b=O a)(n:H b=Y3)(hx:b∉ex):∃sl,h1.get? b=O { a with slots:=sl }:=by
 by_cases hb:b∈fs
 ·exact u.slot b a q n hb hx
 ·exact⟨a.slots,u.keep b a q n hb hx⟩
theorem Un.kept(k:∀b u,h.get? b=O u->h'.get? b=O u):Un fs ex H H h h':=
 ⟨λb a q _ _ _=>k b a q,λb a q _ _ _=>⟨a.slots,k b a q⟩,λ_ _ _ n _=>n,λb a q _=>⟨a,k b a q⟩,λ_ _ q=>q,λ_ _ _ q=>q,λ_ ps q=>⟨#[],by rw[q];simp⟩⟩
theorem Un.refl:Un fs ex H H h h:=Un.kept λ_ _ q=>q
theorem Un.laid(k:∀b u,h.get? b=O u->h'.get? b=O u)(hp:h.objs.size<=a)(c:H a=Y3):Un fs ex H (B6 H a o) h h' where
 keep:=λb u q _ _ _=>k b u q
 slot:=λb u q _ _ _=>⟨u.slots,k b u q⟩
 free:=λb u q n _=>by rw[aR (z4 (ZZ (zD q) hp))];exact n
 there:=λb u q _=>⟨u,k b u q⟩
 tups:=λb xs q=>by rw[aR (dH q c)];exact q
 Fi:=λb u xs q=>by rw[aR (dH q c)];exact q
 Kh:=λb ps q=>⟨#[],by rw[aR (dH q c),q];simp⟩
theorem Un.write(a:F0 (H x))(he:e=x\/H e=O (.own x))(k:∀b u,b≠e->h.get? b=O u->h'.get? b=O u)(f:∃u,h'.get? e=O u):Un fs ex H (B6 H x o) h h':=by
 have hx:∀b,H b=Y3->b≠x:=λb n z=>by subst z;rw[n]at a;exact a
 have hb:∀b,H b=Y3->b≠e:=λb n z=>by
  subst z;rcases he with r|r
  ·exact hx b n r
  ·rw[n]at r;cases r
 have c:∀b u,H b=O u->¬ F0 (O u)->b≠x:=λb u q nm z=>by subst z;rw[q]at a;exact nm a
 refine⟨λb u q n _ _=>k b u (hb b n) q,λb u q n _ _=>⟨u.slots,k b u (hb b n) q⟩,λb u q n _=>by rw[aR (hx b n)];exact n,λb u q _=>?_,
  λb xs q=>by rw[aR (c b _ q λz=>z)];exact q,λb u xs q=>by rw[aR (c b _ q λz=>z)];exact q,λb ps q=>⟨#[],by rw[aR (c b _ q λz=>z),q];simp⟩⟩
 by_cases d:b=e
 ·subst d;exact f
 ·exact⟨u,k b u d q⟩
end
def GE(h:A6)(H:Hp):Y A1:=(List.range h.objs.size).filter λa=>(H a).isSome
def N8(h:A6)(H:Hp):A6:=PySem.W.hideAll h (GE h H)
theorem Yj(h:A6)(H:Hp):(N8 h H).objs.size=h.objs.size:=PySem.W.hideAll_size _ _
theorem ZX{H:Hp}{b:A1}{o:AE}(e:h.get? b=O o)(n:H b=Y3):(N8 h H).get? b=O o:=
 PySem.W.hideAll_get _ e λa=>by
  have q:(H b).isSome=true:=(List.mem_filter.mp a).2;rw[n]at q;simp at q
theorem UY{H:Hp}{b:A1}{o:AE}(e:(N8 h H).get? b=O o):h.get? b=O o/\H b=Y3:=by
 have e':h.get? b=O o:=PySem.W.of_hideAll (GE h H) e;refine⟨e',?_⟩;cases q:H b with
 |none=>rfl
 |some x=>
  have a:b∈GE h H:=List.mem_filter.mpr ⟨List.mem_range.mpr (zD e'),by simp[q]⟩;have z:(N8 h H).get? b=Y3:=PySem.W.hideAll_none (GE h H) a;rw[z]at e;cases e
def UV(g h:A6)(L:A1):Y (A1×AE):=(List.range h.objs.size).filterMap λa=>if a=L\/(g.get? a).isSome=true then Y3 else(h.get? a).map λo=>(a,o)
def AS(g h:A6)(L d:A1):Y (A1×AE):=(UV g h L).filter λp=>decide (p.1≠d)
end L2
namespace L2
structure Mod (K:B4) (mg:Str->Option Value) (base:Heap):Prop where
 kin:K.In base
 glob:base.Ns mainGlobals mg
 blt:∃mb,base.Ns builtinsNs mb/\∀x:Str,x ≠ "__name__" → mb x=bootBuiltins x
 nolimit:base.NoLimit
structure Cx where
 prog:Program
 w:World
 K:B4
 mg:Str->Option Value
 base:Heap
 A:Around
 N:AZ
 s₀:Shared
 H₀:Hp
 env:Env
 outer:List Env
 stack:List Env
 ex:List Addr
 fn:Str->Bool
 calm:Bool
 pn:List (Addr×Obj)
 xe:B8
def CM(l:Y Env):Y A1:=l.filterMap (·.frame)
abbrev Cx.fs(X:Cx):Y A1:=CM X.outer
def ZK(a:Scope)(x:AJ):Prop:=a.names.lookup x=O .local\/a.names.lookup x=O .cell\/a.names.lookup x=O .free
def Ch(a:Scope)(x:AJ):Prop:=a.names.lookup x=O .local\/a.names.lookup x=O .cell
def IY(env:Env)(h:A6)(m:AJ->S A0)(x:AJ)(u:A0):Prop:=
 (env.kindOf x=O .local/\m x=O u)\/((env.kindOf x=O .cell\/env.kindOf x=O .free)/\∃c,env.cells.lookup x=O c/\h.IsCell c (O u))
structure Cx.Ok (X:Cx):Prop where
 mod:Mod X.K X.mg X.base
 kind:X.env.scope.kind=.function
 glob:X.env.globals=mainGlobals
 blt:X.env.builtins=builtinsNs
 above:X.s₀.heap.objs.size<=X.env.locals
 inj:∀x y c,X.env.cells.lookup x=some c->X.env.cells.lookup y=some c->x=y
 has:∀x,(X.env.kindOf x=some .cell\/X.env.kindOf x=some .free)->∃c,X.env.cells.lookup x=some c
 cab:∀x c,X.fn x=true->X.env.cells.lookup x=some c->X.s₀.heap.objs.size<=c
 hd:X.calm=true->X.A.handled=none
 frames:X.A.frames=some X.stack
 stk:X.stack=X.outer\/(X.stack=X.env::X.outer/\X.env.frame=some X.env.locals)
 exf:∀b∈X.ex,b≠X.env.locals/\∀x c,X.env.cells.lookup x=some c->c≠b
 bs:∀b o,X.base.get? b=some o->X.s₀.heap.get? b=some o/\X.H₀ b=none
 bsz:X.base.objs.size<=X.s₀.heap.objs.size
 Z0:∀b o,X.base.get? b=some o->b∉X.ex
 acY:∀b∈X.ex,b∉X.fs
 Hg:X.s₀.heap.FunFrames X.base X.outer
 frf:∀b∈X.fs,X.H₀ b=none
structure AU (X:Cx) (AN:List (Addr×Obj)) (σ:List (Option V)) (H:Hp) (s:Shared):Prop where
 ok:X.Ok
 os:s.os=X.s₀.os
 bare:AllBare s.gens
 base:Un X.fs X.ex X.H₀ H X.s₀.heap s.heap
 loc:∃m,s.heap.Ns X.env.locals m/\∀(i:Nat) (x:Str) (v:V),X.N[i]?=some x->σ[i]?=some (some v)->ZK X.env.scope x->∃u,Au v u/\IY X.env s.heap m x u
 cell:∀x c,X.env.cells.lookup x=some c->∃v,s.heap.IsCell c v
 free:H X.env.locals=none
 su:∀x c,X.env.cells.lookup x=some c->H c=none
 pin:∀p∈X.pn++AN,s.heap.get? p.1=some p.2/\H p.1=none/\p.1≠X.env.locals/\p.1∉X.fs/\∀v,p.2.data≠.cell v
 hok:zW X.prog X.w H s.heap
 len:σ.length=X.N.length
section
variable{X:Cx}{σ:Y (S V)}{H H':Hp}{h':A6}
theorem Cx.Ok.akL(ok:X.Ok){b:A1}{o:AE}(e:X.base.get? b=O o):b∉X.fs:=λhb=>by
 have:=(ok.Hg.mem hb).1;rw[e]at this;cases this
theorem AU.bs(I:AU X AN σ H s):∀b o,X.base.get? b=O o->s.heap.get? b=O o/\H b=Y3:=λb o e=>
 ⟨I.base.keep b o (I.ok.bs b o e).1 (I.ok.bs b o e).2 (I.ok.akL e) (I.ok.Z0 b o e),I.base.free b o (I.ok.bs b o e).1 (I.ok.bs b o e).2 (I.ok.Z0 b o e)⟩
theorem AU.bk(I:AU X AN σ H s):∀b o,X.base.get? b=O o->s.heap.get? b=O o:=λb o e=>(I.bs b o e).1
theorem AU.mod(I:AU X AN σ H s):Mod X.K X.mg X.base:=I.ok.mod
theorem AU.kIn(I:AU X AN σ H s):X.K.In s.heap:=I.ok.mod.kin.keeps I.bk
theorem AU.lt(I:AU X AN σ H s):X.env.locals<s.heap.objs.size:=let ⟨_,hn,_⟩:=I.loc;hn.lt
theorem AU.sz(I:AU X AN σ H s):X.s₀.heap.objs.size<=s.heap.objs.size:=ZI I.ok.above (jS I.lt)
theorem AU.akM(I:AU X AN σ H s)(h:s.heap.objs.size<=a):a∉X.fs:=λhb=>by
 obtain⟨_,o,b,_⟩:=I.ok.Hg.mem hb;exact absurd (ZZ (zD b) (ZI I.sz h)) (kc _)
theorem AU.cne(I:AU X AN σ H s):∀x c,X.env.cells.lookup x=O c->c≠X.env.locals:=λx c e z=>by
 obtain⟨v,o,a,hd⟩:=I.cell x c e;obtain⟨m,⟨o',es,ep,d,b,_⟩,_⟩:=I.loc;rw[z,d]at a;cases a;rw[b]at hd;cases hd
theorem AU.Hg(I:AU X AN σ H s):s.heap.FunFrames X.base X.outer:=by
 have all:∀(l:Y Env),(∀b∈CM l,b∈X.fs)->X.s₀.heap.FunFrames X.base l->s.heap.FunFrames X.base l:=by
  intro l
  induction l with
  |nil=>intro _ _;trivial
  |cons env r h=>
   intro hs f;obtain⟨d,⟨L,o,c,g,j,hd⟩,i⟩:=f;have a:L∈X.fs:=hs L (by unfold CM;rw[Ki,c];exact zh);obtain⟨sl,e⟩:=I.base.slot L o j (I.ok.frf L a) a λz=>I.ok.acY L z a;exact⟨d,⟨L,_,c,g,e,hd⟩,h (λb hb=>hs b (by unfold CM;rw[Ki,c];exact zi _ hb)) i⟩
 exact all X.outer (λ_ hb=>hb) I.ok.Hg
theorem AU.stack(I:AU X AN σ H s):s.heap.FunFrames X.base X.stack:=by
 rcases I.ok.stk with e|⟨e,b⟩
 ·rw[e];exact I.Hg
 ·rw[e];obtain⟨m,a,_⟩:=I.loc;refine .cons (by rw[I.ok.kind];decide) b a ?_ I.Hg;exact Heap.get?_none_of_le (ZI I.ok.bsz I.ok.above)
theorem AU.Oa(I:AU X AN σ H s):∀b∈CM X.stack,b∈X.env.locals::X.fs:=λb hb=>by
 rcases I.ok.stk with e|⟨e,a⟩
 ·rw[e]at hb;exact zi _ hb
 ·rw[e]at hb;unfold CM at hb;rw[Ki,a]at hb;exact hb
theorem AU.Ws(I:AU X AN σ H s):∀b∈CM X.stack,H b=Y3:=λb hb=>by
 rcases List.mem_cons.mp (I.Oa b hb)with e|hb
 ·rw[e];exact I.free
 ·obtain⟨_,o,a,_⟩:=I.ok.Hg.mem hb;exact I.base.free b o a (I.ok.frf b hb) λz=>I.ok.acY b z hb
theorem AU.step{g':Array GenState}{t':Nat}{d':Drawn}{ch:Y A1}(I:AU X AN σ H s)
  (f:∀b∈ch,(b∈X.ex\/X.s₀.heap.objs.size<=b)/\b≠X.env.locals/\(∀x c,X.env.cells.lookup x=O c->c≠b)/\∀p∈X.pn++AN,p.1≠b)
  (keep:∀b o,b≠X.env.locals->b∉X.fs->b∉ch->s.heap.get? b=O o->H b=Y3->h'.get? b=O o)
  (slot:∀b o,b≠X.env.locals->b∈X.fs->b∉ch->s.heap.get? b=O o->H b=Y3->∃sl,h'.get? b=O { o with slots:=sl }) (free:∀b o,b∉ch->s.heap.get? b=O o->H b=Y3->H' b=Y3)
  (D:∀b o,b∉ch->s.heap.get? b=O o->∃o',h'.get? b=O o')
  (G:∀b xs,H b=O (.tup xs)->H' b=O (.tup xs)) (L:∀b o u,H b=O (.tH o u)->H' b=O (.tH o u)) (E:∀b ps,H b=O (.tbl ps)->∃more,H' b=O (.tbl (ps++more)))
  (K:∀m,s.heap.Ns X.env.locals m->h'.Ns X.env.locals m) (M:zW X.prog X.w H' h') (J:AllBare g'):
  AU X AN σ H' { s with heap:=h',gens:=g',drawn:=d',toks:=t' }:=by
 have t:∀b o,X.s₀.heap.get? b=O o->b≠X.env.locals:=λb o e=>z4 (ZZ (zD e) I.ok.above);have h:∀b o,X.s₀.heap.get? b=O o->b∉X.ex->b∉ch:=λb o e hx hb=>by
  rcases(f b hb).1 with z|z
  ·exact hx z
  ·exact absurd (ZZ (zD e) z) (kc _)
 have B:∀x c,X.env.cells.lookup x=O c->∀v,s.heap.IsCell c v->h'.IsCell c v:=λx c e v ⟨o,a,hd⟩=>by
  have g:c∉ch:=λz=>(f c z).2.2.1 x c e rfl;by_cases j:c∈X.fs
  ·obtain⟨sl,q⟩:=slot c o (I.cne x c e) j g a (I.su x c e);exact⟨_,q,hd⟩
  ·exact⟨o,keep c o (I.cne x c e) j g a (I.su x c e),hd⟩
 refine⟨I.ok,I.os,J,⟨λb o e n hb hx=>?_,λb o e n hb hx=>?_,λb o e n hx=>?_,λb o e hx=>?_,λb xs e=>G b xs (I.base.tups b xs e),λb o xs e=>L b o xs (I.base.Fi b o xs e),λb ps e=>?_⟩,?_,λx c e=>?_,?_,λx c e=>?_,λp hp=>?_,M,I.len⟩
 ·exact keep b o (t b o e) hb (h b o e hx) (I.base.keep b o e n hb hx) (I.base.free b o e n hx)
 ·obtain⟨sl,e1⟩:=I.base.slot b o e n hb hx;obtain⟨F,e2⟩:=slot b _ (t b o e) hb (h b o e hx) e1 (I.base.free b o e n hx);exact⟨F,e2⟩
 ·obtain⟨o',e1⟩:=I.base.there b o e hx;exact free b o' (h b o e hx) e1 (I.base.free b o e n hx)
 ·obtain⟨o',e1⟩:=I.base.there b o e hx;exact D b o' (h b o e hx) e1
 ·obtain⟨N,e1⟩:=I.base.Kh b ps e;obtain⟨P,e2⟩:=E b _ e1;exact⟨N++P,by rw[e2,Array.append_assoc]⟩
 ·obtain⟨m,Q,C⟩:=I.loc;refine⟨m,K m Q,λi x v e1 e2 e3=>?_⟩;obtain⟨u,r,l⟩:=C i x v e1 e2 e3;refine⟨u,r,?_⟩;rcases l with l|⟨k,c,e,z⟩
  ·exact .inl l
  ·exact .inr ⟨k,c,e,B x c e _ z⟩
 ·obtain⟨v,z⟩:=I.cell x c e;exact⟨v,B x c e v z⟩
 ·obtain⟨m,⟨o,_,_,a,_⟩,_⟩:=I.loc;exact free _ o (λz=>(f _ z).2.1 Y2) a I.free
 ·obtain⟨v,o,a,hd⟩:=I.cell x c e;exact free c o (λz=>(f c z).2.2.1 x c e Y2) a (I.su x c e)
 ·obtain⟨e,n,y,A,d⟩:=I.pin p hp;have g:p.1∉ch:=λz=>(f p.1 z).2.2.2 p hp rfl;exact⟨keep p.1 p.2 y A g e n,free p.1 p.2 g e n,y,A,d⟩
theorem AU.un{t':Nat}(I:AU X AN σ H s)(u:Un X.fs [] H H' s.heap h')(j:zW X.prog X.w H' h'):AU X AN σ H' { s with heap:=h',toks:=t' }:=by
 obtain⟨m,⟨o,es,ep,c,r⟩,_⟩:=id I.loc;obtain⟨sl,i⟩:=u.any c I.free (by simp);exact I.step (g':=s.gens) (d':=s.drawn) (ch:=[]) (λ_ z=>nomatch z) (λb o _ hb _ e n=>u.keep b o e n hb (by simp)) (λb o _ hb _ e n=>u.slot b o e n hb (by simp)) (λb o _ e n=>u.free b o e n (by simp)) (λb o _ e=>u.there b o e (by simp)) u.tups u.Fi u.Kh (λl h=>by
  obtain⟨o',d,f,a,g⟩:=h;rw[c]at a;cases a;exact⟨_,d,f,i,g⟩) j I.bare
theorem AU.call{g':Array GenState}{t':Nat}{d':Drawn}{ch:Y A1}(I:AU X AN σ H s)(u:Un (CM X.stack) ch H H' s.heap h')(t:zW X.prog X.w H' h')(l:AllBare g')
  (f:∀b∈ch,(b∈X.ex\/X.s₀.heap.objs.size<=b)/\b≠X.env.locals/\(∀x c,X.env.cells.lookup x=O c->c≠b)/\∀p∈X.pn++AN,p.1≠b):
  AU X AN σ H' { s with heap:=h',gens:=g',drawn:=d',toks:=t' }:=by
 obtain⟨m,⟨o,es,ep,h,r⟩,_⟩:=id I.loc;obtain⟨sl,d⟩:=u.any h I.free λz=>(f _ z).2.1 rfl;exact I.step (ch:=ch) f (λb o d hb a e n=>u.keep b o e n (λz=>(List.mem_cons.mp (I.Oa b z)).elim d hb) a) (λb o _ _ a e n=>u.any e n a) (λb o a e n=>u.free b o e n a) (λb o a e=>u.there b o e a) u.tups u.Fi u.Kh (λy v=>by
  obtain⟨o',i,j,g,q⟩:=v;rw[h]at g;cases g;exact⟨_,i,j,d,q⟩) t l
theorem AU.turned{t':Nat}(I:AU X AN σ H s)(k:∀b o,b≠it->s.heap.get? b=O o->h'.get? b=O o)(g:H it=Y3)(f:it≠X.env.locals)(h1:it∈X.ex\/X.s₀.heap.objs.size<=it)(h2:∀x c,X.env.cells.lookup x=O c->c≠it)(h:∀p∈X.pn++AN,p.1≠it):AU X AN σ H { s with heap:=h',toks:=t' }:=by
 have d:∀b u,H b=O u->b≠it:=λb u e z=>by rw[z,g]at e;cases e
 refine I.step (g':=s.gens) (d':=s.drawn) (ch:=[it]) (λb hb=>?_) (λb o _ _ a e _=>k b o (λz=>a (by simp[z])) e) (λb o _ _ a e _=>⟨o.slots,k b o (λz=>a (by simp[z])) e⟩) (λ_ _ _ _ n=>n)
  (λb o a e=>⟨o,k b o (λz=>a (by simp[z])) e⟩) (λ_ _ e=>e) (λ_ _ _ e=>e) (λb ps e=>⟨#[],by rw[e];simp⟩) (λm i=>?_) (λb u e=>?_) I.bare
 ·have e:b=it:=by simpa using hb
  subst e;exact⟨h1,f,h2,h⟩
 ·obtain⟨o,es,ep,j,r⟩:=i;exact⟨o,es,ep,k _ o (KB f) j,r⟩
 ·refine(I.hok b u e).stay (λc v a q=>k c v ?_ q) (λ_ q=>q) λ_ _ q=>q;rcases a with z|z
  ·rw[z];exact d b u e
  ·exact d c _ z
theorem AU.tok(I:AU X AN σ H s)(t:Nat):AU X AN σ H { s with toks:=t }:=I.un (h':=s.heap) (t':=t) Un.refl I.hok
theorem AU.kept{t':Nat}(I:AU X AN σ H s)(k:∀b u,s.heap.get? b=O u->h'.get? b=O u):AU X AN σ H { s with heap:=h',toks:=t' }:=I.un (Un.kept k) (I.hok.kept k)
theorem AU.laid{a:A1}{o:HO}{t':Nat}(I:AU X AN σ H s)(k:∀b u,s.heap.get? b=O u->h'.get? b=O u)(hp:s.heap.objs.size<=a)(new:iY X.prog X.w (B6 H a o) h' a o):
  AU X AN σ (B6 H a o) { s with heap:=h',toks:=t' }:=I.un (Un.laid k hp (I.hok.fresh hp)) (I.hok.laid k hp new)
theorem AU.write{x e:A1}{o:HO}{t':Nat}(I:AU X AN σ H s)(c:F0 (H x))(he:e=x\/H e=O (.own x))(k:∀b u,b≠e->s.heap.get? b=O u->h'.get? b=O u)(a:∃u,h'.get? e=O u)
  (new:iY X.prog X.w (B6 H x o) h' x o):AU X AN σ (B6 H x o) { s with heap:=h',toks:=t' }:=I.un (Un.write c he k a) (I.hok.write c he k a new)
theorem AU.Ob{a:Y (A1×AE)}(I:AU X AN σ H s)(h:∀p∈a,s.heap.get? p.1=O p.2/\H p.1=Y3/\p.1≠X.env.locals/\p.1∉X.fs/\∀v,p.2.data≠.cell v):AU X a σ H s:=
 ⟨I.ok,I.os,I.bare,I.base,I.loc,I.cell,I.free,I.su,λp hp=>(List.mem_append.mp hp).elim (λz=>I.pin p (Zp _ z)) (h p),I.hok,I.len⟩
theorem QX(c:N.Nodup)(a:N[i]?=O x)(b:N[j]?=O x):i=j:=by
 obtain⟨h1,e1⟩:=List.getElem?_eq_some_iff.mp a;obtain⟨h2,e2⟩:=List.getElem?_eq_some_iff.mp b;exact(List.getElem_inj c).mp (e1.trans e2.symm)
theorem Yk{v:V}{Q:Unit->A2->Prop}(I:AU X AN σ H s)(hN:X.N.Nodup)(hi:X.N[i]?=O x)(hx:Ch X.env.scope x)(r:Au v u)(h:∀s',AU X AN (σ.set i (O v)) H s'->(∃a,Heap.SameBut a s.heap s'.heap/\(a=X.env.locals\/X.env.cells.lookup x=O a))->Q () s')(hf:X.fn x=true\/X.env.scope.names.lookup x=O .local:=by first|exact .inl rfl|exact .inr rfl|assumption):A7 M A (storeName X.env x u) Q E s:=by
 obtain⟨m,L,P⟩:=id I.loc;have b0:(X.env.scope.kind==.class||(X.env.scope.kind==.module&&X.env.locals !=X.env.globals))=false:=by rw[I.ok.kind];rfl
 have Z:i<σ.length:=by rw[I.len];exact(List.getElem?_eq_some_iff.mp hi).1
 have cne:=I.cne;have W:∀{a:A1} {h':A6},(∃o,s.heap.get? a=O o/\H a=Y3)->Heap.SameBut a s.heap h'->zW X.prog X.w H h':=λ{a h'} ha hs b ob e=>by
  obtain⟨_,_,a0⟩:=ha;refine(I.hok b ob e).stay (λc B f q=>(hs.2 c ?_).trans q) (λ_ q=>q) λ_ _ q=>q;rintro rfl;rcases f with rfl|f
  ·rw[a0]at e;cases e
  ·rw[a0]at f;cases f
 rcases hx with g|g
 ·refine wpAny_storeName_local g L (λh' a4 hs=>?_) b0;obtain⟨oL,_,_,b3,_⟩:=id L;refine h _ ⟨I.ok,I.os,I.bare,⟨λb o e n hb hx=>?_,λb o e n hb hx=>?_,I.base.free,λb o e hx=>?_,I.base.tups,I.base.Fi,I.base.Kh⟩,⟨_,a4,λj y D e1 e2 e3=>?_⟩,λy c e=>?_,I.free,I.su,λp hp=>?_,W ⟨oL,b3,I.free⟩ hs,by simpa using I.len⟩ ⟨_,hs,.inl rfl⟩
  ·exact(hs.2 b (z4 (ZZ (zD e) I.ok.above))).trans (I.base.keep b o e n hb hx)
  ·obtain⟨sl,e1⟩:=I.base.slot b o e n hb hx;exact⟨sl,(hs.2 b (z4 (ZZ (zD e) I.ok.above))).trans e1⟩
  ·obtain⟨o',e1⟩:=I.base.there b o e hx;exact⟨o',(hs.2 b (z4 (ZZ (zD e) I.ok.above))).trans e1⟩
  ·by_cases l:j=i
   ·subst l;rw[hi]at e1;cases e1;rw[List.getElem?_set_self Z]at e2;cases e2;exact⟨u,r,.inl ⟨g,by simp⟩⟩
   ·rw[List.getElem?_set_ne (KB l)]at e2;obtain⟨J,K,q⟩:=P j y D e1 e2 e3;refine⟨J,K,?_⟩;rcases q with⟨k,e⟩|⟨k,c,e,z⟩
    ·refine .inl ⟨k,?_⟩;have:y≠x:=λe=>l (QX hN e1 (e▸hi));simp[this,e]
    ·exact .inr ⟨k,c,e,z.sameBut hs (cne y c e)⟩
  ·obtain⟨B,z⟩:=I.cell y c e;exact⟨B,z.sameBut hs (cne y c e)⟩
  ·obtain⟨e,n,t,F,d⟩:=I.pin p hp;exact⟨(hs.2 p.1 t).trans e,n,t,F,d⟩
 ·have G:X.fn x=true:=by
   rcases hf with z|z
   ·exact z
   ·rw[z]at g;cases g
  obtain⟨c,f⟩:=I.ok.has x (.inl g);obtain⟨B,z⟩:=I.cell x c f;refine wpAny_storeName_cell I.ok.kind g f z (λh' a2 hs=>?_);obtain⟨U,a3,a5⟩:=id z;refine h { s with heap:=h' } ⟨I.ok,I.os,I.bare,⟨λb o e n hb hx=>?_,λb o e n hb hx=>?_,I.base.free,λb o e hx=>?_,I.base.tups,I.base.Fi,I.base.Kh⟩,⟨m,L.sameBut hs (KB (cne x c f)),λj y D e1 e2 e3=>?_⟩,λy C e=>?_,I.free,I.su,λp hp=>?_,W ⟨U,a3,I.su x c f⟩ hs,by simpa using I.len⟩ ⟨c,hs,.inr f⟩
  ·exact(hs.2 b (z4 (ZZ (zD e) (I.ok.cab x c G f)))).trans (I.base.keep b o e n hb hx)
  ·obtain⟨sl,e1⟩:=I.base.slot b o e n hb hx;exact⟨sl,(hs.2 b (z4 (ZZ (zD e) (I.ok.cab x c G f)))).trans e1⟩
  ·obtain⟨o',e1⟩:=I.base.there b o e hx;exact⟨o',(hs.2 b (z4 (ZZ (zD e) (I.ok.cab x c G f)))).trans e1⟩
  ·by_cases l:j=i
   ·subst l;rw[hi]at e1;cases e1;rw[List.getElem?_set_self Z]at e2;cases e2;exact⟨u,r,.inr ⟨.inl g,c,f,a2⟩⟩
   ·rw[List.getElem?_set_ne (KB l)]at e2;obtain⟨J,K,q⟩:=P j y D e1 e2 e3;refine⟨J,K,?_⟩;rcases q with q|⟨k,C,e,z'⟩
    ·exact .inl q
    ·refine .inr ⟨k,C,e,z'.sameBut hs ?_⟩;rintro rfl;exact l (QX hN e1 (I.ok.inj _ _ _ e f▸hi))
  ·by_cases a1:C=c
   ·subst a1;exact⟨_,a2⟩
   ·obtain⟨w2,z2⟩:=I.cell y C e;exact⟨w2,z2.sameBut hs a1⟩
  ·obtain⟨e,n,t,F,d⟩:=I.pin p hp;refine⟨(hs.2 p.1 ?_).trans e,n,t,F,d⟩;intro q;rw[q,a3]at e;have q':U=p.2:=JE e;exact d B (by rw[<-q'];exact a5)
theorem zY{v:V}{Q:Unit->A2->Prop}(I:AU X AN σ H s)(a:X.N.Nodup)(hi:X.N[i]?=O x)(hx:Ch X.env.scope x)(r:Au v u)(h:∀s',AU X AN (σ.set i (O v)) H s'->Q () s')(b:X.fn x=true\/X.env.scope.names.lookup x=O .local:=by first|exact .inl rfl|exact .inr rfl|assumption):A7 M A (storeName X.env x u) Q E s:=
 Yk I a hi hx r (λs' c _=>h s' c) b
theorem AU.call'{s':A2}{ch:Y A1}(I:AU X AN σ H s)(g:s'.os=s.os)(u:Un (CM X.stack) ch H H' s.heap s'.heap)(f:zW X.prog X.w H' s'.heap)(a:AllBare s'.gens)
  (d:∀b∈ch,(b∈X.ex\/X.s₀.heap.objs.size<=b)/\b≠X.env.locals/\(∀x c,X.env.cells.lookup x=O c->c≠b)/\∀p∈X.pn++AN,p.1≠b):AU X AN σ H' s':=by
 obtain⟨h',g',d',t',o'⟩:=s';have e:o'=s.os:=g;subst e;exact I.call (g':=g') (t':=t') (d':=d') u f a d
end
abbrev XK:=A0->S A1->Hp->Prop
abbrev St:=Y (S V)
abbrev VK:=V->Hp->Prop
abbrev TE:=St->Hp->VK->Prop
abbrev TT:=St->Hp->(Bool->Hp->Prop)->Prop
abbrev TA:=St->Hp->(Y V->Hp->Prop)->Prop
structure C3 where
 nx:St->Hp->Prop
 rt:VK
 bk:St->Hp->Prop:=λ_ _=>False
 ct:St->Hp->Prop:=λ_ _=>False
abbrev TS:=C3->St->Hp->Prop
def EP(X:Cx)(AN:Y (A1×AE))(σ:St)(Q:VK)(u:A0)(s':A2):Prop:=∃v H',AU X AN σ H' s'/\Au v u/\Q v H'
def TP(X:Cx)(AN:Y (A1×AE))(σ:St)(Q:Bool->Hp->Prop)(b:Bool)(s':A2):Prop:=∃H',AU X AN σ H' s'/\Q b H'
def AP(X:Cx)(AN:Y (A1×AE))(σ:St)(Q:Y V->Hp->Prop)(us:Y A0)(s':A2):Prop:=∃vs H',AU X AN σ H' s'/\AX vs us/\Q vs H'
def SP(X:Cx)(AN:Y (A1×AE))(D:C3)(f:Flow)(s':A2):Prop:=
 match f with
 |.next=>∃ σ' H',AU X AN σ' H' s'/\D.nx σ' H'
 |.brk=>∃ σ' H',AU X AN σ' H' s'/\D.bk σ' H'
 |.cont=>∃ σ' H',AU X AN σ' H' s'/\D.ct σ' H'
 |.ret u=>∃v σ' H',AU X AN σ' H' s'/\Au v u/\D.rt v H'
def PE(X:Cx)(e:Expr)(t:TE):Prop:=
 ∀(AN:Y (A1×AE)) (s:A2) (σ:St) (H:Hp) (Q:VK),AU X AN σ H s->t σ H Q->A7 (A8 X.prog X.w) X.A (eval e X.env) (EP X AN σ Q) X.xe s
def PT(X:Cx)(e:Expr)(t:TT):Prop:=
 ∀(AN:Y (A1×AE)) (s:A2) (σ:St) (H:Hp) (Q:Bool->Hp->Prop),AU X AN σ H s->t σ H Q->A7 (A8 X.prog X.w) X.A (isTrue e X.env (eval e X.env)) (TP X AN σ Q) X.xe s
def PW(X:Cx)(e:Expr)(t:TT):Prop:=
 ∀(a:Sem A0) (AN:Y (A1×AE)) (s:A2) (σ:St) (H:Hp) (Q:Bool->Hp->Prop),AU X AN σ H s->t σ H Q->A7 (A8 X.prog X.w) X.A (isTrue e X.env a) (TP X AN σ Q) X.xe s
theorem PW.pt{X:Cx}{t:TT}(h:PW X e t):PT X e t:=h _
def PA(X:Cx)(es:Y Expr)(t:TA):Prop:=
 ∀(pos:Pos) (AN:Y (A1×AE)) (s:A2) (σ:St) (H:Hp) (Q:Y V->Hp->Prop),AU X AN σ H s->t σ H Q->A7 (A8 X.prog X.w) X.A (spliced (AD pos (A9 es X.env))) (AP X AN σ Q) X.xe s
def PS(X:Cx)(st:AB)(t:TS):Prop:=
 ∀(AN:Y (A1×AE)) (s:A2) (σ:St) (H:Hp) (D:C3),AU X AN σ H s->t D σ H->A7 (A8 X.prog X.w) X.A (exec st X.env) (SP X AN D) X.xe s
def Uv(X:Cx)(st:Y AB)(t:TS):Prop:=
 ∀(AN:Y (A1×AE)) (s:A2) (σ:St) (H:Hp) (D:C3),AU X AN σ H s->t D σ H->A7 (A8 X.prog X.w) X.A (execs st X.env) (SP X AN D) X.xe s
theorem iZ{t:Sem α}{Q b:α->A2->Prop}(h:A7 M A t Q E s)(c:∀a s,Q a s->b a s):A7 M A t b E s:=QN h c λ_ _ x=>x
end L2
namespace L2
section
variable{X:Cx}
def NL(i:Nat):TE:=λσ H Q=>∃v,σ[i]?=O (O v)/\Q v H
def tC(v:V):TE:=λ_ H Q=>Q v H
theorem wG(p:X.N[i]?=O x)(n:ZK X.env.scope x)(hd:(x==("__debug__":AJ))=false:=by decide)(o:(x==("__classdict__":AJ))=false:=by decide):PE X (.Name x pos) (NL i):=by
 intro AN s σ H Q I h;obtain⟨v,e,h⟩:=h;obtain⟨m,j,g⟩:=I.loc;obtain⟨u,r,l⟩:=g i x v p e n;have b:EP X AN σ Q u s:=⟨v,H,I,r,h⟩;rcases l with⟨a,q⟩|⟨a,c,d,f⟩
 ·exact wpAny_Name (wpAny_loadName_local I.ok.kind a j q b) hd
 ·rcases a with a|a
  ·exact wpAny_Name (wpAny_loadName_cell I.ok.kind a d f b) hd
  ·exact wpAny_Name (wpAny_loadName_free I.ok.kind a d f b o) hd
theorem de{i j pos}:PE X (.Constant (.int i) j pos) (tC (.int i)):=λ_ _ _ H _ I h=>wpAny_Constant_int ⟨.int i,H,I.tok _,⟨_,rfl⟩,h⟩
theorem YU{b j pos}:PE X (.Constant (.bool b) j pos) (tC (.bl b)):=λ_ _ _ H _ I h=>Constant_bool ⟨.bl b,H,I,rfl,h⟩
theorem gg{j pos}:PE X (.Constant .none j pos) (tC .non):=λ_ _ _ H _ I h=>Constant_none ⟨.non,H,I,rfl,h⟩
theorem ai{x j pos}:PE X (.Constant (.str x) j pos) (tC (.str x)):=λ_ _ _ H _ I h=>Calls.Constant_str ⟨.str x,H,I.tok _,⟨_,rfl⟩,h⟩
def Gl(X:Cx)(x:AJ):Prop:=X.env.kindOf x=O .globalImplicit
theorem Wt{σ:St}{H:Hp}{Q:B8}(I:AU X AN σ H s)(a:Gl X x)(b:X.mg x=O u)(h:Q u s)(hd:(x==("__debug__":AJ))=false:=by decide):A7 (A8 X.prog X.w) X.A (eval (.Name x pos) X.env) Q E s:=
 Calls.Name_function_global I.ok.kind a (Calls.loadGlobal_global (by rw[I.ok.glob];exact I.mod.glob.keeps I.bk) b h) hd
theorem Oc{σ:St}{H:Hp}{Q:B8}(I:AU X AN σ H s)(a:Gl X x)(d:X.mg x=Y3)(c:AH x=O u)(h:Q u s)(b:x ≠ "__name__":=by decide)(hd:(x==("__debug__":AJ))=false:=by decide):A7 (A8 X.prog X.w) X.A (eval (.Name x pos) X.env) Q E s:=by
 obtain⟨e,h1,h2⟩:=I.mod.blt;exact Calls.Name_function_global I.ok.kind a (Calls.loadGlobal_builtin (by rw[I.ok.glob];exact I.mod.glob.keeps I.bk) d (by rw[I.ok.blt];exact h1.keeps I.bk) ((h2 x b).trans c) h) hd
theorem TM{v:V}(a:Gl X x)(b:X.mg x=O u)(r:Au v u)(hd:(x==("__debug__":AJ))=false:=by decide):PE X (.Name x pos) (tC v):=
 λ_ _ _ H _ I h=>Wt I a b ⟨v,H,I,r,h⟩ hd
variable{a b:Expr}{ta tb:TE}
variable{tA tB':TT}{AS:Y Expr}
def MV(t u:TT):TT:=λσ H Q=>t σ H λc H1=>if c=true then u σ H1 Q else Q false H1
def NN(t u:TT):TT:=λσ H Q=>t σ H λc H1=>if c=true then Q true H1 else u σ H1 Q
def P3(t:TT):TT:=λσ H Q=>t σ H λc H1=>Q (!c) H1
theorem ay(b:PT X a tA):PW X (.BoolOp .And [a] pos) tA:=by
 intro f AN s σ H Q I h;refine isTrue_and (iZ (b AN s σ H Q I h) λc d e=>?_);cases c with
 |true=>exact isTrue_and_nil e
 |false=>exact e
theorem T'(b:PT X a tA):PW X (.BoolOp .Or [a] pos) tA:=by
 intro f AN s σ H Q I h;refine isTrue_or (iZ (b AN s σ H Q I h) λc d e=>?_);cases c with
 |false=>exact isTrue_or_nil e
 |true=>exact e
theorem iN(d:PT X a tA)(hb:PW X (.BoolOp .And (b::AS) pos) tB'):PW X (.BoolOp .And (a::b::AS) pos) (MV tA tB'):=by
 intro e AN s σ H Q I h;refine isTrue_and (iZ (d AN s σ H _ I h) λc s1 ⟨H1,I1,q1⟩=>?_);cases c with
 |true=>exact hb e AN s1 σ H1 Q I1 q1
 |false=>exact⟨H1,I1,q1⟩
theorem fR(d:PT X a tA)(hb:PW X (.BoolOp .Or (b::AS) pos) tB'):PW X (.BoolOp .Or (a::b::AS) pos) (NN tA tB'):=by
 intro e AN s σ H Q I h;refine isTrue_or (iZ (d AN s σ H _ I h) λc s1 ⟨H1,I1,q1⟩=>?_);cases c with
 |true=>exact⟨H1,I1,q1⟩
 |false=>exact hb e AN s1 σ H1 Q I1 q1
theorem i8(b:PT X a tA):PT X (.UnaryOp .Not a pos) (P3 tA):=by
 intro AN s σ H Q I h;exact isTrue_not (b AN s σ H (λc H1=>Q (!c) H1) I h)
def cy(ta tb:TE):TE:=λσ H Q=>ta σ H λx H1=>∃c,x=.bl c/\if c=true then tb σ H1 Q else Q (.bl false) H1
theorem gh{op}{t:TE}(h:PE X a t):PE X (.BoolOp op [a] pos) t:=λAN s σ H Q I b=>BoolOp_one (h AN s σ H Q I b)
theorem UX(d:PE X a ta)(hb:PE X (.BoolOp .And (b::AS) pos) tb):PE X (.BoolOp .And (a::b::AS) pos) (cy ta tb):=by
 intro AN s σ H Q I h;refine BoolOp_and (iZ (d AN s σ H _ I h) λv s1 ⟨x,H1,I1,r1,q1⟩=>?_);obtain⟨c,rfl,q1⟩:=q1;cases r1;refine JO ?_;cases c with
 |true=>exact hb AN s1 σ H1 Q I1 q1
 |false=>exact⟨.bl false,H1,I1,rfl,q1⟩
def ck(t:TT)(ta tb:TE):TE:=λσ H Q=>t σ H λc H1=>if c=true then ta σ H1 Q else tb σ H1 Q
theorem Z1(e:PT X c tA)(f:PE X a ta)(hb:PE X b tb):PE X (.IfExp c a b pos) (ck tA ta tb):=by
 intro AN s σ H Q I h;refine wpAny_IfExp (iZ (e AN s σ H _ I h) λd s1 ⟨H1,I1,q1⟩=>?_);cases d with
 |true=>exact f AN s1 σ H1 Q I1 q1
 |false=>exact hb AN s1 σ H1 Q I1 q1
end
end L2
namespace L2
def uN(K:B4)(H:Hp)(a:A1)(xs:Y V):Prop:=
 Rd H a (.lst xs) ∨
  ∃(o:AE) (AQ:Array A0) (n:Nat),K.lookup a=O o/\o.cls=.type "list" ∧ o.dict=Y3/\o.data=.seq AQ n/\AQ.size<=AA/\AX xs AQ.toList
def Cy(K:B4)(H:Hp)(a:A1)(xs:Y V):Prop:=
 Rd H a (.tup xs) ∨
  ∃(o:AE) (AQ:Array A0) (n:Nat),K.lookup a=O o/\(o.cls=.type "tuple" ∧ o.dict=Y3)/\o.data=.seq AQ n/\AQ.size<=AA/\AX xs AQ.toList
def GV:A0->S V
 |.none=>O .non
 |.bool b=>O (.bl b)
 |.int i _=>O (.int i)
 |.str x _=>O (.str x)
 |.bytes b _=>O (.byt b)
 |.float b _=>O (.flt b)
 |.ref a=>O (.ref a)
 |.type n=>O (.ty n)
 |_=>Y3
theorem Au.abs{x:V}(r:Au x u):GV u=O x:=by
 cases x with
 |non=>cases r;rfl
 |bl _=>cases r;rfl
 |int _=>obtain⟨t,rfl⟩:=r;rfl
 |str _=>obtain⟨t,rfl⟩:=r;rfl
 |byt _=>obtain⟨t,rfl⟩:=r;rfl
 |flt _=>obtain⟨t,rfl⟩:=r;rfl
 |ref _=>cases r;rfl
 |ty _=>cases r;rfl
theorem Au.inj{x y:V}{u:A0}(r:Au x u)(q:Au y u):x=y:=JE (r.abs.symm.trans q.abs)
theorem AX.inj:∀{xs ys:Y V} {us:Y A0},AX xs us->AX ys us->xs=ys
 |_,_,_,.nil,.nil=>rfl
 |_,_,_,.cons r t,.cons r' t'=>by rw[r.inj r',AX.inj t t']
section
variable{X:Cx}{σ:St}{H:Hp}{xs ys:Y V}
theorem AU.list(I:AU X AN σ H s)(h:uN X.K H a xs):∃AQ:Y A0,AX xs AQ/\PlainL s.heap a AQ.toArray/\xs.length<=AA:=by
 rcases h with h|⟨o,AQ,n,b,c,hd,hs,d,r⟩
 ·obtain⟨z,AQ,n,r,e⟩:=h.ok I.hok;exact⟨AQ,r,⟨_,n,e,rfl,rfl,rfl⟩,z⟩
 ·refine⟨AQ.toList,r,⟨o,n,I.kIn a o b,c,hd,by simpa using hs⟩,?_⟩;have e:=r.length;simp only[qA]at e;omega
theorem AU.tuple(I:AU X AN σ H s)(h:Cy X.K H a xs):∃AQ:Y A0,AX xs AQ/\IsTup s.heap a AQ.toArray/\xs.length<=AA:=by
 rcases h with h|⟨o,AQ,n,b,c,hs,d,r⟩
 ·obtain⟨z,AQ,r,p⟩:=h.ok I.hok;exact⟨AQ,r,p.weak,z⟩
 ·refine⟨AQ.toList,r,⟨o,I.kIn a o b,c.1,n,by simpa using hs⟩,?_⟩;have e:=r.length;simp only[qA]at e;omega
theorem AU.Hh(I:AU X AN σ H s)(h:uN X.K H a xs)(h':uN X.K H a ys):xs=ys:=by
 obtain⟨AQ,r,⟨o,n,e,_,_,d⟩,_⟩:=I.list h;obtain⟨f,c,⟨o',i,e',_,_,b⟩,_⟩:=I.list h';rw[e]at e';cases e';rw[d]at b;injection b with g _;have:AQ=f:=by simpa using congrArg Array.toList g
 subst this;exact r.inj c
theorem AU.LK(I:AU X AN σ H s)(h:Cy X.K H a xs)(h':Cy X.K H a ys):xs=ys:=by
 obtain⟨AQ,r,⟨o,e,_,n,d⟩,_⟩:=I.tuple h;obtain⟨f,c,⟨o',e',_,i,b⟩,_⟩:=I.tuple h';rw[e]at e';cases e';rw[d]at b;injection b with g _;have:AQ=f:=by simpa using congrArg Array.toList g
 subst this;exact r.inj c
end
abbrev Cx.wish(X:Cx)(E:B8):Cx:={ X with xe:=E }
abbrev Cx.nox(X:Cx):Cx:=X.wish λ_ _=>False
theorem Cx.Ok.wish{X:Cx}(ok:X.Ok)(E:B8):(X.wish E).Ok:=
 ⟨ok.mod,ok.kind,ok.glob,ok.blt,ok.above,ok.inj,ok.has,ok.cab,ok.hd,ok.frames,ok.stk,ok.exf,ok.bs,ok.bsz,ok.Z0,ok.acY,ok.Hg,ok.frf⟩
theorem Cx.Ok.wH{X:Cx}(ok:(X.wish E).Ok):X.Ok:=
 ⟨ok.mod,ok.kind,ok.glob,ok.blt,ok.above,ok.inj,ok.has,ok.cab,ok.hd,ok.frames,ok.stk,ok.exf,ok.bs,ok.bsz,ok.Z0,ok.acY,ok.Hg,ok.frf⟩
section
variable{X:Cx}{σ:St}{H:Hp}
theorem AU.wish(I:AU X AN σ H s)(E:B8):AU (X.wish E) AN σ H s:=⟨I.ok.wish E,I.os,I.bare,I.base,I.loc,I.cell,I.free,I.su,I.pin,I.hok,I.len⟩
theorem AU.wH(I:AU (X.wish E) AN σ H s):AU X AN σ H s:=⟨I.ok.wH,I.os,I.bare,I.base,I.loc,I.cell,I.free,I.su,I.pin,I.hok,I.len⟩
theorem SP.wH{D:C3}{f:Flow}{s':A2}(h:SP (X.wish E) AN D f s'):SP X AN D f s':=by
 cases f with
 |next=>obtain⟨σ',H',I,q⟩:=h;exact⟨σ',H',I.wH,q⟩
 |brk=>obtain⟨σ',H',I,q⟩:=h;exact⟨σ',H',I.wH,q⟩
 |cont=>obtain⟨σ',H',I,q⟩:=h;exact⟨σ',H',I.wH,q⟩
 |ret u=>obtain⟨v,σ',H',I,r,q⟩:=h;exact⟨v,σ',H',I.wH,r,q⟩
theorem Uv.nox{st:Y AB}{t:TS}(h:Uv X.nox st t):Uv X st t:=λAN s σ H D I a=>
 QN (h AN s σ H D (I.wish _) a) (λ_ _ q=>q.wH) λ_ _ z=>False.elim z
end
section
variable{X:Cx}{st:AB}{AS:Y AB}{t u:TS}{te:TE}
def fF:TS:=λD σ H=>D.nx σ H
def SC(t u:TS):TS:=λD σ H=>t { D with nx:=u D } σ H
theorem Z':Uv X [] fF:=λ_ _ σ H _ I h=>wpAny_execs_nil ⟨σ,H,I,h⟩
theorem Z2(h1:PS X st t)(h2:Uv X AS u):Uv X (st::AS) (SC t u):=by
 intro AN s σ H D I h;refine wpAny_execs_cons (iZ (h1 AN s σ H { D with nx:=u D } I h) λf a q=>?_);cases f with
 |next=>
  obtain⟨σ',H',b,q⟩:=q;exact h2 AN a σ' H' D b q
 |ret v=>exact q
 |brk=>exact q
 |cont=>exact q
theorem AU.quiet{σ:St}{H:Hp}(I:AU X AN σ H s):interactive X.env=false:=by simp[interactive,I.ok.kind]
def e7(te:TE):TS:=λD σ H=>te σ H λ_ H1=>D.nx σ H1
theorem Od(he:PE X e te)(hs:swapsWith e Y3 pos.line X.env=pure false:=by rfl):PS X (.Expr e pos) (e7 te):=by
 intro AN s σ H D I h;exact wpAny_Expr_any (iZ (he AN s σ H _ I h) λv s1 ⟨x,H1,I1,r1,q1⟩=>⟨σ,H1,I1,q1⟩) I.quiet hs
def cm(te:TE):TS:=λD σ H=>te σ H D.rt
theorem Z4(he:PE X e te):PS X (.Return (O e) pos) (cm te):=by
 intro AN s σ H D I h;exact wpAny_Return_some (iZ (he AN s σ H _ I h) λv s1 ⟨x,H1,I1,r1,q1⟩=>⟨x,σ,H1,I1,r1,q1⟩)
def Ta(c:TT)(t u:TS):TS:=λD σ H=>c σ H λb H1=>if b=true then t D σ H1 else u D σ H1
theorem Pm{a b:Y AB}{tc:TT}(e:PT X c tc)(f:Uv X a t)(hb:Uv X b u):PS X (.If c a b pos) (Ta tc t u):=by
 intro AN s σ H D I h;refine wpAny_If (iZ (e AN s σ H _ I h) λd s1 ⟨H1,I1,q1⟩=>?_);cases d with
 |true=>exact f AN s1 σ H1 D I1 q1
 |false=>exact hb AN s1 σ H1 D I1 q1
end
abbrev TG:=V->St->Hp->(St->Hp->Prop)->Prop
abbrev DD:=Y V->St->Hp->(St->Hp->Prop)->Prop
def PG(X:Cx)(a:Expr)(t:TG):Prop:=
 ∀(AN:Y (A1×AE)) (s:A2) (σ:St) (H:Hp) (v:V) (u:A0) (Q:St->Hp->Prop),AU X AN σ H s->Au v u->t v σ H Q →
  A7 (A8 X.prog X.w) X.A (assign a X.env u) (λ_ s'=>∃ σ' H',AU X AN σ' H' s'/\Q σ' H') X.xe s
def Uw(X:Cx)(ts:Y Expr)(t:DD):Prop:=
 ∀(AN:Y (A1×AE)) (s:A2) (σ:St) (H:Hp) (vs:Y V) (us:Y A0) (Q:St->Hp->Prop),AU X AN σ H s->AX vs us->t vs σ H Q →
  A7 (A8 X.prog X.w) X.A (assignInOrder ((assignEach ts X.env).map (·.2)) us) (λ_ s'=>∃ σ' H',AU X AN σ' H' s'/\Q σ' H') X.xe s
section
variable{X:Cx}
def OC(i:Nat):TG:=λv σ H Q=>Q (σ.set i (O v)) H
theorem Wu(a:X.N.Nodup)(hi:X.N[i]?=O x)(hx:Ch X.env.scope x)(b:X.fn x=true\/X.env.scope.names.lookup x=O .local:=by first|exact .inl rfl|exact .inr rfl|assumption):PG X (.Name x pos) (OC i):=by
 intro AN s σ H v u Q I r h;exact wpAny_assign_Name (zY I a hi hx r (λs' c=>⟨_,H,c,h⟩) b)
def T0:DD:=λvs σ H Q=>vs=[]/\Q σ H
def hZ(t:TG)(u:DD):DD:=λvs σ H Q=>∃v r,vs=v::r/\t v σ H λσ' H'=>u r σ' H' Q
theorem UR:Uw X [] T0:=by
 intro AN s σ H vs us Q I r h;obtain⟨e,h⟩:=h;subst e;cases r;exact assignInOrder_nil ⟨σ,H,I,h⟩
theorem Z5{t:TG}{u:DD}(h1:PG X e t)(h2:Uw X es u)(hs:(assignEach (e::es) X.env).map (·.2)=assign e X.env::(assignEach es X.env).map (·.2):=by rfl):Uw X (e::es) (hZ t u):=by
 intro AN s σ H vs us Q I r h;obtain⟨v,b,e1,h⟩:=h;subst e1;cases r with
 |cons r a=>
  rw[hs];refine assignInOrder_cons (iZ (h1 AN s σ H _ _ _ I r h) λ_ s1 ⟨σ1,H1,I1,q1⟩=>?_);exact h2 AN s1 σ1 H1 _ _ Q I1 a q1
def gi(K:B4)(n:Nat)(t:DD):TG:=λv σ H Q=>∃a xs,v=.ref a/\Cy K H a xs/\xs.length=n/\t xs σ H Q
theorem Op{k:Nat}{t:DD}(f:X.calm=true)(h:Uw X es t)(l:(assignEach es X.env).length=n:=by rfl)(i:(assignEach es X.env).findIdx? (·.1)=Y3:=by rfl):PG X (.Tuple es k pos) (gi X.K n t):=by
 intro AN s σ H v u Q I r c;obtain⟨a,xs,e1,j,g,c⟩:=c;subst e1;cases r;obtain⟨AQ,d,p,q⟩:=I.tuple j;refine assign_Tuple_tuple (I.ok.hd f) p (by simp[l,<-g,d.length]) i λh' hx=>?_;have m:AU X AN σ H { s with heap:=h' }:=I.kept (t':=s.toks) λb o e=>hx b o (z4 (zD e)) e;exact h AN _ σ H xs _ Q m (by simpa using d) c
def No(te:TE)(g:TG):TS:=λD σ H=>te σ H λx H1=>g x σ H1 D.nx
theorem Pc{te:TE}{g:TG}(he:PE X e te)(a:PG X tg g)(hs:swapsWithSole [tg] e pos.line X.env=pure false:=by rfl)(b:swappedStores [tg] e X.env=pure Y3:=by rfl)(h1:(assignEach [tg] X.env).map (·.2)=[assign tg X.env]:=by rfl):PS X (.Assign [tg] e pos) (No te g):=by
 intro AN s σ H D I h;refine wpAny_Assign_stores (iZ (he AN s σ H _ I h) λv s1 ⟨x,H1,I1,r1,q1⟩=>?_) hs b;rw[h1];exact iZ (a AN s1 σ H1 x v _ I1 r1 q1) λ_ c q=>q
theorem Z6{te:TE}{pos':Pos}(b:X.N.Nodup)(hi:X.N[i]?=O x)(hx:Ch X.env.scope x)(he:PE X e te)(hs:swapsWith e (O (.Name x pos')) pos.line X.env=pure false:=by rfl)(c:X.fn x=true\/X.env.scope.names.lookup x=O .local:=by first|exact .inl rfl|exact .inr rfl|assumption):
  PS X (.Assign [.Name x pos'] e pos) (No te (OC i)):=by
 intro AN s σ H D I h;refine wpAny_Assign_Name (iZ (he AN s σ H _ I h) λv s1 ⟨y,H1,I1,r1,q1⟩=>?_) hs;exact zY I1 b hi hx r1 (λd a=>⟨_,H1,a,q1⟩) c
def ca(i j:Nat)(ta:TA):TS:=λD σ H=>ta σ H λvs H1=>∃v w,vs=[v,w]/\D.nx ((σ.set i (O v)).set j (O w)) H1
theorem XO{a b:Expr}{ta:TA}{px py pt:Pos}{kt k2 pt2}(m:X.calm=true)(f:X.N.Nodup)(hi:X.N[i]?=O x)(G:X.N[j]?=O y)(z:i≠j)(hx:X.env.scope.names.lookup x=O .local)(l:X.env.scope.names.lookup y=O .local)(u:PA X [a,b] ta)(t:swappedStores [.Tuple [.Name x px,.Name y py] kt pt] (.Tuple [a,b] k2 pt2) X.env=pure (O [x,y]))(hs:swapsWithSole [.Tuple [.Name x px,.Name y py] kt pt] (.Tuple [a,b] k2 pt2) pos.line X.env=pure false:=by rfl):
  PS X (.Assign [.Tuple [.Name x px,.Name y py] kt pt] (.Tuple [a,b] k2 pt2) pos) (ca i j ta):=by
 intro AN s σ H D I h;rw[exec_Assign_arm];refine zd (Kj ?_);rw[hs];refine zd (zg ?_);rw[zI (by decide)];refine zd (Tuple_ (iZ (u _ AN s σ H _ I h) λus s1 ⟨vs,H1,I1,r1,q1⟩=>?_));obtain⟨v,w,e1,q1⟩:=q1;subst e1;obtain⟨d,c,rfl,K,n⟩:∃d c,us=[d,c]/\Au v d/\Au w c:=by
  cases r1 with
  |cons p q=>
   cases q with
   |cons p' B=>
    cases B;exact⟨_,_,rfl,p,p'⟩
 refine qo ?_ (by show 2<=AA;decide);have J:AU X AN σ H1 { s1 with heap:=s1.heap.push { cls:=.type "tuple",data:=.seq [d,c].toArray } }:=I1.kept (t':=s1.toks) λb o e=>ze _ e;rw[t];refine zd (zg ?_);show A7 (A8 X.prog X.w) X.A (do rule "assign.swapped-stores"; let items <-unpackItems (.ref s1.heap.objs.size) 2 Y3;assignInOrder [λv=>bindName X.env y v,λv=>bindName X.env x v] items.reverse;pure Flow.next) _ _ _;refine zd (Kk (zd (unpackItems_tuple (items:=#[d,c]) (I.ok.hd m) (IsTup.new s1.heap _) λh' F=>?_)));have E:=J.kept (h':=h') (t':=s1.toks) λb o e=>F b o (z4 (zD e)) e;show A7 _ _ (assignInOrder [λv=>bindName X.env y v,λv=>bindName X.env x v] [c,d] >>= λ_=>pure Flow.next) _ _ _;refine zd (assignInOrder_cons (wpAny_bindName (zY E f G (.inl l) n (λM C=>?_) (.inr l))));refine assignInOrder_cons (wpAny_bindName (zY C f hi (.inl hx) K (λL g=>assignInOrder_nil (zg ?_)) (.inr hx)));rw[List.set_comm _ _ (KB z)]at g;exact⟨_,H1,g,q1⟩
def RS(c:TT)(tb:TS):TS:=λD σ H=>∃W:Nat->St->Hp->Prop,(∃m,W m σ H)/\∀m σ H,W m σ H →
 c σ H λb H1=>if b=true then ∃N:St->Hp->Prop,(∀ σ' H',N σ' H'->∃a,a<m/\W a σ' H')/\tb { D with nx:=N,ct:=N,bk:=D.nx } σ H1 else D.nx σ H1
theorem Z7{tc:TT}{tb:TS}(hp:PassesOwn (A8 X.prog X.w) X.A X.env X.xe)(q:PT X c tc)(hb:Uv X body tb):PS X (.While c body [] pos) (RS tc tb):=by
 intro AN s σ H D I h;obtain⟨W,⟨y,z⟩,turn⟩:=h;refine wpAny_While (codeAny_whileLoop (λn s'=>∃ σ' H',AU X AN σ' H' s'/\W n σ' H') ?_ y ⟨σ,H,I,z⟩);rintro n x ⟨g,H1,t,u⟩;refine kK hp (iZ (q AN x g H1 _ t (turn n g H1 u)) λb s2 ⟨H2,I2,q2⟩=>?_);cases b with
 |true=>
  obtain⟨N,p,q2⟩:=q2;rw[zr rfl];refine kK hp (iZ (hb AN s2 g H2 _ I2 q2) λf B e=>?_);cases f with
  |next=>
   obtain⟨a,d,i,j⟩:=e;obtain⟨l,m,o⟩:=p a d j;exact⟨l,m,a,d,i,o⟩
  |cont=>
   obtain⟨a,d,i,j⟩:=e;obtain⟨l,m,o⟩:=p a d j;exact⟨l,m,a,d,i,o⟩
  |brk=>exact e
  |ret v=>exact e
 |false=>
  rw[zI ZO];exact wpAny_execs_nil ⟨g,H2,I2,q2⟩
end
structure It where
 go:Nat->Hp->Prop
 yld:Nat->Hp->V->Hp->Prop
 stop:Nat->Hp->Prop
def tK(X:Cx)(AN:Y (A1×AE))(H:Hp)(b:A1):Prop:=
 H b=Y3/\b≠X.env.locals/\b∉X.fs/\(b∈X.ex\/X.s₀.heap.objs.size<=b)/\(∀x c,X.env.cells.lookup x=O c->c≠b)/\∀p∈X.pn++AN,p.1≠b
theorem AU.QZ{X:Cx}{σ:St}{H H':Hp}{b:A1}(I:AU X AN σ H s)(hb:s.heap.objs.size<=b)(a:H' b=Y3):tK X AN H' b:=by
 refine⟨a,k9 (ZZ I.lt hb),I.akM hb,.inr (ZI I.sz hb),λx c e z=>?_,λp hp z=>?_⟩
 ·obtain⟨v,q⟩:=I.cell x c e;exact absurd (ZZ q.lt (by rw[z];exact hb)) (kc _)
 ·exact absurd (ZZ (zD (I.pin p hp).1) (by rw[z];exact hb)) (kc _)
structure C4 (P:Program) (w:World) (K:B4) (tg:Expr) (J:It) (fp:List Addr) (it:Addr) (tn:Nat->Heap->Prop):Prop where
 mem:it∈fp
 obj:∀i h,tn i h->∀b∈fp,∃o,h.get? b=some o/\∀v,o.data≠.cell v
 keep:∀i h h',tn i h->(∀b∈fp,∀o,h.get? b=some o->h'.get? b=some o)->tn i h'
 item:∀(X:Cx),X.prog=P->X.w=w->X.K=K->X.calm=true->∀(i:Nat) (AN:List (Addr×Obj)) (s:Shared) (σ:St) (H:Hp) (E:B8),AU X AN σ H s->(∀b∈fp,tK X AN H b)->tn i s.heap->J.go i H →
  wpAny (model P w) X.A (pyNext (.ref it)) (λr s1=>∃u,r=some u ∧
   wpAny (model P w) X.A (letOwnedTupleGo tg (.ref it) u) (λ_ s2=>∃x H',AU X AN σ H' s2/\Au x u/\J.yld i H x H'/\tn (i+1) s2.heap/\∀b∈fp,H' b=none) E s1) E s
 done:∀(X:Cx),X.prog=P->X.w=w->X.K=K->X.calm=true->∀(i:Nat) (AN:List (Addr×Obj)) (s:Shared) (σ:St) (H:Hp) (E:B8),AU X AN σ H s->(∀b∈fp,tK X AN H b)->tn i s.heap->J.stop i H →
  wpAny (model P w) X.A (pyNext (.ref it)) (λr s1=>r=none/\AU X AN σ H s1) E s
 self:∀(A:Around) (i:Nat) (s:Shared) (Q:B8) (E:B8),tn i s.heap->Q (.ref it) s->wpAny (model P w) A (pyIter (.ref it)) Q E s
abbrev TI:=St->Hp->(It->Hp->Prop)->Prop
def LD(X:Cx)(AN:Y (A1×AE))(σ:St)(tg:Expr)(R:It->Hp->Prop)(c:A0)(a:A2):Prop:=
 ∃(it:A1) (fp:Y A1) (tn:Nat->A6->Prop) (J:It) (H':Hp),c=.ref it/\AU X AN σ H' a/\C4 X.prog X.w X.K tg J fp it tn/\tn 0 a.heap/\(∀b∈fp,tK X AN H' b)/\R J H'
def PI(X:Cx)(tg iter:Expr)(b:TI):Prop:=
 ∀(AN:Y (A1×AE)) (s:A2) (σ:St) (H:Hp) (R:It->Hp->Prop),AU X AN σ H s->b σ H R →
  A7 (A8 X.prog X.w) X.A (eval iter X.env) (λv a=>A7 (A8 X.prog X.w) X.A (pyIter v) (LD X AN σ tg R) X.xe a) X.xe s
theorem LQ{o:AE}{n:String}{vs:Array A0}{Q:Unit->A2->Prop}(d:s.heap.get? it=O o)(c:o.cls=.type n)(hd:o.data=.fields vs)(b:["enumerate","zip","dict_itemiterator","dict_reverseitemiterator","odict_iterator","itertools.zip_longest","itertools.pairwise"].contains n=false)(a:Q () s):A7 M A (letOwnedTupleGo tg (.ref it) u) Q E s:=by
 unfold letOwnedTupleGo;cases tg<;>first
  |exact zg a
  |(cases u<;>first
    |exact zg a
    |(refine zd (yf d ?_)
      rw[c,hd];show A7 M A (if(["enumerate","zip","dict_itemiterator","dict_reverseitemiterator","odict_iterator","itertools.zip_longest","itertools.pairwise"].contains n&&vs[0]?==O (rawInt _))=true then _ else _) Q E s;rw[zI (by intro h;rw[b,KG]at h;cases h)];exact zg a))
def GH(K:B4)(a:A1):It:=
 ⟨λi H=>∃xs x,uN K H a xs/\xs[i]?=O x,λi H x H'=>H'=H/\∀xs,uN K H a xs->xs[i]?=O x,λi H=>∃xs,uN K H a xs/\xs.length<=i⟩
def GU(K:B4)(a:A1):It:=
 ⟨λi H=>∃xs x,Cy K H a xs/\xs[i]?=O x,λi H x H'=>H'=H/\∀xs,Cy K H a xs->xs[i]?=O x,λi H=>∃xs,Cy K H a xs/\xs.length<=i⟩
def GI(lo:Int)(n:Nat):It:=⟨λi _=>i<n,λi H x H'=>H'=H/\x=.int (lo+i),λi _=>n<=i⟩
theorem Yl(a it:A1):C4 P w K tg (GH K a) [it] it (λi h=>h.IsListIter it a i) where
 mem:=by simp
 obj:=λi h st b hb=>by
  have e:b=it:=by simpa using hb
  subst e;obtain⟨o,e,c,d⟩:=st;exact⟨o,e,λv z=>by rw[d]at z;cases z⟩
 keep:=λi h h' st k=>st.at λo e=>k it (by simp) o e
 item:=by
  intro X l m j B i AN s σ H E I f st q;subst l m j;obtain⟨xs,x,g,hx⟩:=q;obtain⟨AQ,A,p,J⟩:=I.list g;obtain⟨u,L,G⟩:=A.get hx;obtain⟨f0,f1,f2,t,y,n⟩:=f it (by simp);refine wpAny_pyNext_list_item st p.isList (x:=u) (by simpa using L) λh' C D=>?_;have F:AU X AN σ H { s with heap:=h' }:=I.turned (t':=s.toks) (λb o hb e=>(D.2 b hb).trans e) f0 f1 t y n;obtain⟨o,e,c,d⟩:=id C;exact⟨u,rfl,LQ (s:={ s with heap:=h' }) e c d (by decide) ⟨x,H,F,G,⟨rfl,λys M=>by rw[I.Hh M g];exact hx⟩,C,λb hb=>(f b hb).1⟩⟩
 done:=by
  intro X l m j B i AN s σ H E I f st q;subst l m j;obtain⟨xs,g,hx⟩:=q;obtain⟨AQ,A,p,J⟩:=I.list g;obtain⟨f0,f1,f2,t,y,n⟩:=f it (by simp);have N:=A.length;exact wpAny_pyNext_list_end (I.ok.hd B) st p.isList (by simp;omega) λh' eb=>⟨rfl,I.turned (t':=s.toks) (λb o hb e=>eb b o hb e) f0 f1 t y n⟩
 self:=λ_ _ _ _ _ st h=>wpAny_pyIter_listiter st h
theorem Ux(a it:A1):C4 P w K tg (GU K a) [it] it (λi h=>h.IsTupleIter it a i) where
 mem:=by simp
 obj:=λi h st b hb=>by
  have e:b=it:=by simpa using hb
  subst e;obtain⟨o,e,c,d⟩:=st;exact⟨o,e,λv z=>by rw[d]at z;cases z⟩
 keep:=λi h h' st k=>st.at λo e=>k it (by simp) o e
 item:=by
  intro X l m j B i AN s σ H E I f st q;subst l m j;obtain⟨xs,x,g,hx⟩:=q;obtain⟨AQ,A,p,J⟩:=I.tuple g;obtain⟨u,L,G⟩:=A.get hx;obtain⟨f0,f1,f2,t,y,n⟩:=f it (by simp);refine wpAny_pyNext_tuple_item st (show s.heap.IsTuple a AQ.toArray from p) (x:=u) (by simpa using L) λh' C D=>?_;have F:AU X AN σ H { s with heap:=h' }:=I.turned (t':=s.toks) (λb o hb e=>(D.2 b hb).trans e) f0 f1 t y n;obtain⟨o,e,c,d⟩:=id C;exact⟨u,rfl,LQ (s:={ s with heap:=h' }) e c d (by decide) ⟨x,H,F,G,⟨rfl,λys M=>by rw[I.LK M g];exact hx⟩,C,λb hb=>(f b hb).1⟩⟩
 done:=by
  intro X l m j B i AN s σ H E I f st q;subst l m j;obtain⟨xs,g,hx⟩:=q;obtain⟨AQ,A,p,J⟩:=I.tuple g;obtain⟨f0,f1,f2,t,y,n⟩:=f it (by simp);have N:=A.length;exact wpAny_pyNext_tuple_end (I.ok.hd B) st (show s.heap.IsTuple a AQ.toArray from p) (by simp;omega) λh' eb=>⟨rfl,I.turned (t':=s.toks) (λb o hb e=>eb b o hb e) f0 f1 t y n⟩
 self:=λ_ _ _ _ _ st h=>wpAny_pyIter_tupleiter st h
theorem Uy(it:A1)(lo:Int)(n:Nat):C4 P w K tg (GI lo n) [it] it (λi h=>IsRangeIter h it (lo+(i:Nat)*1) ((n:Int)-(i:Nat)) 1) where
 mem:=by simp
 obj:=λi h st b hb=>by
  have e:b=it:=by simpa using hb
  subst e;exact⟨_,st,λv z=>by
   have u:Data.fields _=Data.cell v:=z;cases u⟩
 keep:=λi h h' st k=>k it (by simp) _ st
 item:=by
  intro X l f j c i AN s σ H E I a st g;subst l f j;obtain⟨f0,f1,f2,m,d,p⟩:=a it (by simp);have W:=Walks.range (prog:=X.prog) (w:=X.w) (I.ok.hd c) it lo 1 n;refine W.item i s _ _ g st λv h' tk y q kk=>?_;obtain⟨t,rfl⟩:=y;have x:AU X AN σ H { s with heap:=h',toks:=tk }:=I.turned (λb o hb e=>kk b o (by simpa using hb) e) f0 f1 m d p;refine⟨_,rfl,LQ (s:={ s with heap:=h',toks:=tk }) (n :="range_iterator") q Y2 Y2 (by decide) ⟨.int (lo+i),H,x,⟨t,?_⟩,⟨rfl,rfl⟩,q,λb hb=>(a b hb).1⟩⟩;rw[Int.mul_one]
 done:=by
  intro X l f j c i AN s σ H E I a st g;subst l f j;obtain⟨f0,f1,f2,m,d,p⟩:=a it (by simp);exact wpAny_pyNext_range_end (I.ok.hd c) st (by have:n<=i:=g;omega) λh' eb=>⟨rfl,I.turned (t':=s.toks) (λb o hb e=>eb b o hb e) f0 f1 m d p⟩
 self:=λ_ _ _ _ _ st h=>wpAny_pyIter_rangeiter st h
end L2
namespace L2
section
variable{X:Cx}
theorem Z8{σ:St}{H:Hp}{R:It->Hp->Prop}{lo hi:Int}{t u v:Tok}{tk:Nat}(I:AU X AN σ H s)(h1 : -(2 ^ 62)<=lo)(h2:lo<2 ^ 62)(c : -(2 ^ 62)<=hi)(d:hi<2 ^ 62)(q:R (GI lo (hi-lo).toNat) H):A7 (A8 X.prog X.w) X.A (pyIter (.ref s.heap.objs.size)) (LD X AN σ tg R) E { s with heap:=s.heap.push { cls:=.type "range",data:=.fields #[.int lo t,.int hi u,.int 1 v] },toks:=tk }:=by
 refine wpAny_pyIter_range (IsRange.new ..) (small_one h1 h2 c d) ?_;have a:AU X AN σ H { s with heap:=s.heap.push { cls:=.type "range",data:=.fields #[.int lo t,.int hi u,.int 1 v] },toks:=tk }:=I.kept λb o e=>ze _ e;refine⟨(s.heap.push { cls:=.type "range",data:=.fields #[.int lo t,.int hi u,.int 1 v] }).objs.size,[(s.heap.push { cls:=.type "range",data:=.fields #[.int lo t,.int hi u,.int 1 v] }).objs.size],_,_,H,rfl,
  a.kept (t':=tk) λb o e=>ze _ e,Uy _ lo (hi-lo).toNat,?_,λb hb=>?_,q⟩
 ·have e1:lo+((0:Nat):Int)*1=lo:=by simp
  have e2:(((hi-lo).toNat:Nat):Int)-((0:Nat):Int)=Builtin.Range.rangeSize lo hi 1:=by rw[rangeSize_one];split<;>omega
  show IsRangeIter _ _ (lo+((0:Nat):Int)*1) ((((hi-lo).toNat:Nat):Int)-((0:Nat):Int)) 1;rw[e1,e2];exact zC _ rfl
 ·have e:b=(s.heap.push { cls:=.type "range",data:=.fields #[.int lo t,.int hi u,.int 1 v] }).objs.size:=by simpa using hb
  subst e;exact a.QZ (zk _) (a.hok.fresh (zk _))
def Sj(ta:TA):TI:=λσ H R=>ta σ H λvs H1=>∃j:Int,vs=[.int j] ∧ -(2 ^ 62)<=j/\j<2 ^ 62/\R (GI 0 j.toNat) H1
theorem Ym{a:Expr}{ta:TA}{p:Pos}(b:Gl X "range")(d:X.mg "range"=Y3)(f:PA X [a] ta)(hs:A9 [a] X.env=[(false,eval a X.env)]:=by rfl):PI X tg (.Call (.Name "range" p) [a] [] pos) (Sj ta):=by
 intro AN s σ H R I h;refine Call_ (Oc I b d boot_range (PyProof.Rows.callWith_type1 (iZ (f pos AN s σ H _ I h) λus s1 ⟨vs,H1,I1,r1,q1⟩=>?_) hs Y2));obtain⟨j,e,q1,q2,q⟩:=q1;subst e;cases r1 with
 |cons r c=>
  cases c;obtain⟨t,rfl⟩:=r;exact call_range_1 (Z8 I1 (by omega) (by omega) q1 q2 (by simpa using q))
def VX(c:TI)(g:TG)(tb:TS):TS:=λD σ H=>c σ H λJ H1=>∃W:Nat->Nat->St->Hp->Prop,(∃m,W 0 m σ H1)/\∀i m σ H,W i m σ H →
 (J.stop i H/\D.nx σ H)\/(J.go i H/\∃N:St->Hp->Prop,(∀ σ' H',N σ' H'->∃a,a<m/\W (i+1) a σ' H')/\∀x H',J.yld i H x H'->g x σ H' λb H2=>tb { D with nx:=N,ct:=N,bk:=D.nx } b H2)
def CG(fp:Y A1)(h:A6):Y (A1×AE):=fp.filterMap λb=>(h.get? b).map λo=>(b,o)
theorem uO{b:A1}{o:AE}(hb:b∈fp)(e:h.get? b=O o):(b,o)∈CG fp h:=List.mem_filterMap.mpr ⟨b,hb,by rw[e];rfl⟩
theorem Yn{p:A1×AE}(hp:p∈CG fp h):p.1∈fp/\h.get? p.1=O p.2:=by
 obtain⟨b,hb,e⟩:=List.mem_filterMap.mp hp;cases q:h.get? b with
 |none=>rw[q]at e;cases e
 |some o=>
  rw[q]at e;have e':(b,o)=p:=JE e;subst e';exact⟨hb,q⟩
theorem AU.pinned{σ:St}{H:Hp}(I:AU X AN σ H s)(a:∀b∈fp,tK X AN H b)(c:∀b∈fp,∃o,s.heap.get? b=O o/\∀v,o.data≠.cell v):AU X (AN++CG fp s.heap) σ H s:=
 I.Ob λp hp=>(List.mem_append.mp hp).elim (λz=>I.pin p (ZA _ z)) λz=>by
  obtain⟨hb,e⟩:=Yn z;obtain⟨f0,f1,f2,_⟩:=a p.1 hb;obtain⟨o,e',d⟩:=c p.1 hb;rw[e]at e';cases e';exact⟨e,f0,f1,f2,d⟩
theorem AU.wI{pl:Y (A1×AE)}{σ:St}{H:Hp}(I:AU X (AN++pl) σ H s):AU X AN σ H s:=I.Ob λp hp=>I.pin p (ZA _ (Zp _ hp))
theorem Z9{C:TI}{g:TG}{tb:TS}(hp:PassesOwn (A8 X.prog X.w) X.A X.env X.xe)(B:X.calm=true)(hi:PI X tg iter C)(hg:PG X tg g)(hb:Uv X body tb)(hs:∀x,foldedSetIterable iter X.env x=pure x:=by intro _;rfl):PS X (.For tg iter body [] pos) (VX C g tb):=by
 intro AN s σ H D I h;refine wpAny_For (iZ (hi AN s σ H _ I h) λv s1 h1=>iZ h1 λa2 s2 h2=>?_) hs;obtain⟨it,fp,tn,J,H2,e,I2,T,a0,f2,W,⟨Q,w0⟩,turn⟩:=h2;subst e;have y:∀{H':Hp},(∀b∈fp,H' b=Y3)->∀b∈fp,tK X AN H' b:=λhn b hb=>⟨hn b hb,(f2 b hb).2⟩;refine codeAny_forLoop_any (λn s'=>∃i σ' H',AU X AN σ' H' s'/\tn i s'.heap/\(∀b∈fp,H' b=Y3)/\W i n σ' H') ?_ Q ⟨0,σ,H2,I2,a0,λb hb=>(f2 b hb).1,w0⟩;rintro n E ⟨i,p,t,G,F,K,w3⟩;rcases turn i n p t w3 with⟨a1,Z⟩|⟨go,N,hN,step⟩
 ·refine kK hp (iZ (T.done X Y2 Y2 Y2 B i AN E p t X.xe G (y K) F a1) λr s4 ⟨hr,I4⟩=>?_);subst hr;exact wpAny_execs_nil ⟨p,t,I4,Z⟩
 ·refine kK hp (iZ (T.item X Y2 Y2 Y2 B i AN E p t X.xe G (y K) F go) λr s4 ⟨u,hr,h4⟩=>?_);subst hr;refine kK hp (iZ h4 λ_ s5 ⟨x,H5,I5,r5,y5,st5,fr5⟩=>?_);have P:=I5.pinned (y fr5) (T.obj _ _ st5);refine kK hp (iZ (hg _ s5 p H5 x u _ P r5 (step x H5 y5)) λ_ s6 ⟨σ6,H6,I6,q6⟩=>?_);refine kK hp (iZ (hb _ s6 σ6 H6 _ I6 q6) λf z l=>?_);have again:∀{a:St} {c:Hp},AU X (AN++CG fp s5.heap) a c z->N a c->∃m,m<n/\∃i σ' H',AU X AN σ' H' z/\tn i z.heap/\(∀b∈fp,H' b=Y3)/\W i m σ' H':=λ{a c} j q=>by
   obtain⟨m',U,M⟩:=hN a c q;refine⟨m',U,i+1,a,c,j.wI,T.keep _ _ _ st5 λb hb o e=>(j.pin (b,o) (ZA _ (ZA _ (uO hb e)))).1,λb hb=>?_,M⟩;obtain⟨o,e,d⟩:=T.obj _ _ st5 b hb;exact(j.pin (b,o) (ZA _ (ZA _ (uO hb e)))).2.1
  cases f with
  |next=>obtain⟨a,c,j,q⟩:=l;exact again j q
  |cont=>obtain⟨a,c,j,q⟩:=l;exact again j q
  |brk=>obtain⟨a,c,j,l⟩:=l;exact⟨a,c,j.wI,l⟩
  |ret v=>obtain⟨x7,a,c,j,L,l⟩:=l;exact⟨x7,a,c,j.wI,L,l⟩
end
end L2
namespace L2
abbrev R2:=V->V->Hp->VK->Prop
def yM(X:Cx)(f:A0->A0->Sem A0)(r:R2):Prop:=
 ∀(AN:Y (A1×AE)) (s:A2) (σ:St) (H:Hp) (x y:V) (v u:A0) (Q:VK),AU X AN σ H s->Au x v->Au y u->r x y H Q →
  A7 (A8 X.prog X.w) X.A (f v u) (EP X AN σ Q) X.xe s
def DI(X:Cx)(f:A0->Sem A0)(r:V->Hp->VK->Prop):Prop:=
 ∀(AN:Y (A1×AE)) (s:A2) (σ:St) (H:Hp) (x:V) (v:A0) (Q:VK),AU X AN σ H s->Au x v->r x H Q →
  A7 (A8 X.prog X.w) X.A (f v) (EP X AN σ Q) X.xe s
def jK(X:Cx)(f:A0)(r:Y V->Hp->VK->Prop):Prop:=
 ∀(AN:Y (A1×AE)) (s:A2) (σ:St) (H:Hp) (xs:Y V) (us:Y A0) (Q:VK),AU X AN σ H s->AX xs us->r xs H Q →
  A7 (A8 X.prog X.w) X.A (call f us) (EP X AN σ Q) X.xe s
def Y1(X:Cx)(r:V->Hp->(Bool->Hp->Prop)->Prop):Prop:=
 ∀(AN:Y (A1×AE)) (s:A2) (σ:St) (H:Hp) (x:V) (v:A0) (Q:Bool->Hp->Prop),AU X AN σ H s->Au x v->r x H Q →
  A7 (A8 X.prog X.w) X.A (truthy v) (TP X AN σ Q) X.xe s
def FM(r:R2)(ta tb:TE):TE:=λσ H Q=>ta σ H λx H1=>tb σ H1 λy H2=>r x y H2 Q
def L8(r:V->Hp->VK->Prop)(ta:TE):TE:=λσ H Q=>ta σ H λx H1=>r x H1 Q
def rI(C:Int->Int->Prop)(g:Int->Int->V):R2:=λx y H Q=>∃i j,x=.int i/\y=.int j/\C i j/\Q (g i j) H
def DM(g:Int->Int->V):R2:=λx y H Q=>∃i j,x=.int i/\y=.int j/\Q (g i j) H
def rU(g:Int->V):V->Hp->VK->Prop:=λx H Q=>∃i,x=.int i/\Q (g i) H
section
variable{X:Cx}{a b:Expr}{ta tb tc:TE}
theorem IH(i:PE X a ta)(hb:PE X b tb){σ:St}{H:Hp}{R:V->V->Hp->Prop}(I:AU X AN σ H s)(h:ta σ H λx H1=>tb σ H1 λy H2=>R x y H2){Q:B8}{f:A0->A0->Sem A0}(g:∀v u c x y H2,AU X AN σ H2 c->Au x v->Au y u->R x y H2->A7 (A8 X.prog X.w) X.A (f v u) Q X.xe c):
  A7 (A8 X.prog X.w) X.A (eval a X.env) (λv d=>A7 (A8 X.prog X.w) X.A (eval b X.env) (λu e=>A7 (A8 X.prog X.w) X.A (f v u) Q X.xe e) X.xe d) X.xe s:=by
 refine iZ (i AN s σ H _ I h) λv s1 ⟨x,H1,I1,r1,q1⟩=>?_;refine iZ (hb AN s1 σ H1 _ I1 q1) λu c ⟨y,H2,I2,r2,q2⟩=>?_;exact g v u c x y H2 I2 r1 r2 q2
theorem VY{op:Operator}{r:R2}(i:yM X (binaryOp op) r)(g:PE X a ta)(hb:PE X b tb):PE X (.BinOp a op b pos) (FM r ta tb):=by
 intro AN s σ H Q I h;exact wpAny_BinOp (IH g hb I h λv u f x y H2 c e d q=>i AN f σ H2 x y v u Q c e d q)
theorem dQ{op:UnaryOp}{r:V->Hp->VK->Prop}(c:DI X (unaryOp op) r)(b:PE X a ta):PE X (.UnaryOp op a pos) (L8 r ta):=by
 intro AN s σ H Q I h;exact UnaryOp_ (iZ (b AN s σ H _ I h) λv s1 ⟨x,H1,I1,r1,q1⟩=>c AN s1 σ H1 x v Q I1 r1 q1)
theorem Ff{f:A0->A0->Sem A0}{C:Int->Int->Prop}{g:Int->Int->Int}
  (d:∀(i j:Int) (t u:Tok) (s:A2) (Q:B8) (E:B8),C i j->Q (.int (g i j) s.toks) { s with toks:=s.toks+1 }->A7 (A8 X.prog X.w) X.A (f (.int i t) (.int j u)) Q E s):
  yM X f (rI C λi j=>.int (g i j)):=by
 intro AN s σ H x y v u Q I c e h;obtain⟨i,j,rfl,rfl,a,q⟩:=h;obtain⟨t,rfl⟩:=c;obtain⟨b,rfl⟩:=e;exact d i j t b s _ _ a ⟨.int (g i j),H,I.tok _,⟨_,rfl⟩,q⟩
theorem NB{f:A0->A0->Sem A0}{g:Int->Int->Int}
  (c:∀(i j:Int) (t u:Tok) (s:A2) (Q:B8) (E:B8),Q (.int (g i j) s.toks) { s with toks:=s.toks+1 }->A7 (A8 X.prog X.w) X.A (f (.int i t) (.int j u)) Q E s):
  yM X f (DM λi j=>.int (g i j)):=by
 intro AN s σ H x y v u Q I d a h;obtain⟨i,j,rfl,rfl,q⟩:=h;obtain⟨t,rfl⟩:=d;obtain⟨b,rfl⟩:=a;exact c i j t b s _ _ ⟨.int (g i j),H,I.tok _,⟨_,rfl⟩,q⟩
theorem GS{f:A0->A0->Sem A0}{g:Int->Int->Bool}
  (a:∀(i j:Int) (t u:Tok) (s:A2) (Q:B8) (E:B8),Q (.bool (g i j)) s->A7 (A8 X.prog X.w) X.A (f (.int i t) (.int j u)) Q E s):
  yM X f (DM λi j=>.bl (g i j)):=by
 intro AN s σ H x y v u Q I d c h;obtain⟨i,j,rfl,rfl,q⟩:=h;obtain⟨t,rfl⟩:=d;obtain⟨b,rfl⟩:=c;exact a i j t b s _ _ ⟨.bl (g i j),H,I,rfl,q⟩
def gp(i j:Int):Prop:=0<j/\j<1073741824
def SY(i j:Int):Prop:=0<=j/\j<=1000000/\i.natAbs<2 ^ 64
def Hc(i j:Int):Prop:=(-(2 ^ 64)<i/\i<2 ^ 64)\/(-(2 ^ 64)<j/\j<2 ^ 64)
theorem Hc.ok{i j:Int}(h:Hc i j):IntMulOk i j:=by
 rcases h with⟨h1,h2⟩|⟨h1,h2⟩
 ·exact .of_left (intBits_le_64 h1 h2)
 ·exact .of_right (intBits_le_64 h1 h2)
theorem SO:yM X (binaryOp .Add) (DM λi j=>.int (i+j)):=NB λ_ _ _ _ _ _ _ q=>add_int q
theorem Po:yM X (binaryOp .Sub) (DM λi j=>.int (i-j)):=NB λ_ _ _ _ _ _ _ q=>sub_int q
theorem ij:yM X (binaryOp .Mult) (rI Hc λi j=>.int (i*j)):=Ff λ_ _ _ _ _ _ _ a q=>mul_int q a.ok
theorem Of:yM X (binaryOp .FloorDiv) (rI gp λi j=>.int (i / j)):=Ff λi j _ _ _ _ _ a q=>by
 have h1:(0:Int)<j:=a.1;have h2:j<1073741824:=a.2;exact floordiv_int (by omega) (by rw[Int.fdiv_eq_ediv_of_nonneg i (by omega)];exact q) (.inl (PyProof.noPylong_small (by omega)))
theorem ae:yM X (binaryOp .Mod) (rI (λ_ j=>0<j) λi j=>.int (i%j)):=Ff λi j _ _ _ _ _ a q=>by
 have h1:(0:Int)<j:=a;exact mod_int' (by omega) (by rw[Int.fmod_eq_emod_of_nonneg i (by omega)];exact q)
theorem PH:yM X (binaryOp .Pow) (rI SY λi j=>.int (i ^ j.toNat)):=Ff λ_ _ _ _ _ _ _ a q=>pow_int_small a.1 a.2.1 a.2.2 q
theorem Pl{f:A0->Sem A0}{g:Int->Int}
  (a:∀(i:Int) (t:Tok) (s:A2) (Q:B8) (E:B8),Q (.int (g i) s.toks) { s with toks:=s.toks+1 }->A7 (A8 X.prog X.w) X.A (f (.int i t)) Q E s):
  DI X f (rU λi=>.int (g i)):=by
 intro AN s σ H x v Q I b h;obtain⟨i,rfl,q⟩:=h;obtain⟨t,rfl⟩:=b;exact a i t s _ _ ⟨.int (g i),H,I.tok _,⟨_,rfl⟩,q⟩
theorem X9:DI X (unaryOp .USub) (rU λi=>.int (-i)):=Pl λ_ _ _ _ _ q=>neg_int q
theorem Uz{σ:St}{H:Hp}{Q:VK}{k a:Bool}(I:AU X AN σ H s)(q:Q (.bl k) H)(e:k=a):EP X AN σ Q (.bool a) s:=by
 subst e;exact⟨.bl k,H,I,rfl,q⟩
theorem SK:yM X (AG .Lt) (DM λi j=>.bl (decide (i<j))):=GS λ_ _ _ _ _ _ _ q=>lt_int q
theorem f8:yM X (AG .LtE) (DM λi j=>.bl (decide (i<=j))):=GS λ_ _ _ _ _ _ _ q=>le_int q
theorem PY:yM X (AG .Gt) (DM λi j=>.bl (decide (j<i))):=GS λ_ _ _ _ _ _ _ q=>gt_int q
theorem Wl:yM X (AG .GtE) (DM λi j=>.bl (decide (j<=i))):=GS λ_ _ _ _ _ _ _ q=>ge_int q
theorem Yo:yM X (AG .In) (λx y H Q=>∃i j,x=.str i/\y=.str j/\Q (.bl (!(Builtin.Str.occurrences j i 0 j.length 1).isEmpty)) H):=by
 intro AN s σ H x y v u Q I b a h;obtain⟨i,j,rfl,rfl,q⟩:=h;obtain⟨t,rfl⟩:=b;obtain⟨c,rfl⟩:=a;exact in_str (Uz I q Y2)
theorem RU:yM X (AG .Is) (λx y H Q=>y=.non/\Q (.bl (decide (x=.non))) H):=by
 intro AN s σ H x y v u Q I a b h;obtain⟨rfl,q⟩:=h;cases b;refine is_none_gen (Uz I q ?_);cases x<;>first
  |(cases a;rfl)
  |(obtain⟨t,rfl⟩:=a;rfl)
theorem RC:yM X (AG .IsNot) (λx y H Q=>y=.non/\Q (.bl (!decide (x=.non))) H):=by
 intro AN s σ H x y v u Q I a b h;obtain⟨rfl,q⟩:=h;cases b;refine isnot_none_gen (Uz I q ?_);cases x<;>first
  |(cases a;rfl)
  |(obtain⟨t,rfl⟩:=a;rfl)
theorem cN(b:Expr)(h:op≠.In:=by decide)(h2:op≠.NotIn:=by decide):behindInMarks op b=false:=by
 have e1:(op==CmpOp.In)=false:=by cases op<;>first|rfl|exact absurd Y2 h
 have e2:(op==CmpOp.NotIn)=false:=by cases op<;>first|rfl|exact absurd Y2 h2
 cases b<;>simp[behindInMarks,e1,e2]
theorem RY{r:R2}(j:yM X (AG op) r)(e:PE X a ta)(hb:PE X b tb)(g:behindInMarks op b=false):PE X (.Compare a [op] [b] pos) (FM r ta tb):=by
 intro AN s σ H Q I h;exact wpAny_Compare1 (IH e hb I h λv u f x y H2 c d i q=>j AN f σ H2 x y v u Q c d i q) g
def ii(t:TE):TT:=λσ H Q=>t σ H λx H'=>∃k,x=.bl k/\Q k H'
theorem eQ{r:R2}(g:yM X (AG op) r)(f:PE X a ta)(hb:PE X b tb)(d:behindInMarks op b=false):PT X (.Compare a [op] [b] pos) (ii (FM r ta tb)):=by
 intro AN s σ H Q I h;refine wpAny_isTrue_Compare1 (iZ (f AN s σ H _ I h) λv s1 ⟨x,H1,I1,r1,q1⟩=>iZ (hb AN s1 σ H1 _ I1 q1) λu s2 ⟨y,H2,I2,r2,q2⟩=>
  iZ (g AN s2 σ H2 x y v u _ I2 r1 r2 q2) λc s3 ⟨z,H3,I3,r3,k,e,q3⟩=>?_) d
 subst e;cases r3;exact JO ⟨H3,I3,q3⟩
def LV(r c:R2)(ta tb tc:TE):TE:=λσ H Q=>ta σ H λx H1=>tb σ H1 λy H2=>r x y H2 λz a=>∃k,z=.bl k ∧
 (if k=true then tc σ a λb d=>c y b d Q else Q (.bl false) a)
theorem gE{f:CmpOp}{r g:R2}(n:yM X (AG op) r)(j:yM X (AG f) g)(m:PE X a ta)(hb:PE X b tb)(i:PE X c tc)(l:lastMarks [op,f] [b,c]=false:=by with_unfolding_all rfl):PE X (.Compare a [op,f] [b,c] pos) (LV r g ta tb tc):=by
 intro AN s σ H Q I h;refine Compare_chain (iZ (m AN s σ H _ I h) λv s1 ⟨x,H1,I1,r1,q1⟩=>chain_link (iZ (hb AN s1 σ H1 _ I1 q1) λu s2 ⟨y,H2,I2,r2,q2⟩=>
  iZ (n AN s2 σ H2 x y v u _ I2 r1 r2 q2) λd s3 ⟨z,H3,I3,r3,k,e,q3⟩=>?_)) l
 subst e;cases r3;refine JO ?_;cases k with
 |false=>exact ite_ff ⟨.bl false,H3,I3,rfl,q3⟩
 |true=>exact ite_tt (chain_last (iZ (i AN s3 σ H3 _ I3 q3) λw' s4 ⟨z',H4,I4,r4,q4⟩=>j AN s4 σ H4 y z' u w' Q I4 r2 r4 q4))
def Ix(K:B4)(x:V)(H:Hp)(k:Bool):Prop:=
 match x with
 |.non=>k=false
 |.bl b=>k=b
 |.int i=>k=(i != 0)
 |.str y=>y.length<=AA/\k=((y.length:Int) != 0)
 |.byt y=>y.size<=AA/\k=((y.size:Int) != 0)
 |.ref p=>(∃xs,uN K H p xs/\k=!xs.isEmpty)\/(∃xs,Cy K H p xs/\k=!xs.isEmpty)\/∃AO,H p=O (.dK AO)/\k=!AO.isEmpty
 |_=>False
theorem UG{AO:Y (κ×V)}{vs:Y (κ×A0)}(r:KV AO vs):(!vs.isEmpty)=!AO.isEmpty:=by
 cases r<;>rfl
theorem Hi{xs:Y V}(r:AX xs AQ):(!AQ.toArray.isEmpty)=!xs.isEmpty:=by
 cases r<;>simp
theorem CJ:(AA:Nat)<2 ^ 63:=by rw[sizeLine_eq];decide
theorem NO:Y1 X (λx H Q=>∃k,Ix X.K x H k/\Q k H):=by
 intro AN s σ H x v Q I a h;obtain⟨k,e,q⟩:=h;have j:=CJ;have hs:AA=16777216:=sizeLine_eq;cases x with
 |non=>
  cases a;have e':k=false:=e;subst e';exact truthy_none ⟨H,I,q⟩
 |bl b=>
  cases a;have e':k=b:=e;subst e';exact JO ⟨H,I,q⟩
 |int i=>
  obtain⟨t,rfl⟩:=a;have e':k=(i != 0):=e;subst e';exact PySem.P.truthy_int ⟨H,I,q⟩
 |str y=>
  obtain⟨t,rfl⟩:=a;obtain⟨g,e'⟩:y.length<=AA/\k=((y.length:Int) != 0):=e;subst e';exact PySem.P.truthy_str (by omega) ⟨H,I.tok _,q⟩
 |byt y=>
  obtain⟨t,rfl⟩:=a;obtain⟨g,e'⟩:y.size<=AA/\k=((y.size:Int) != 0):=e;subst e';exact PySem.W.truthy_bytes (by omega) ⟨H,I.tok _,q⟩
 |ref p=>
  cases a;have e':(∃xs,uN X.K H p xs/\k=!xs.isEmpty)\/(∃xs,Cy X.K H p xs/\k=!xs.isEmpty)\/∃AO,H p=O (.dK AO)/\k=!AO.isEmpty:=e;rcases e' with⟨xs,hx,e'⟩|⟨xs,hx,e'⟩|⟨AO,hx,e'⟩
  ·subst e';obtain⟨AQ,r,pl,d⟩:=I.list hx;have c:=r.length;exact wpAny_truthy_list pl.isList (by simp only[zS];omega) ⟨H,I.tok _,by rw[Hi r];exact q⟩
  ·subst e';obtain⟨AQ,r,pl,d⟩:=I.tuple hx;have c:=r.length;exact truthy_tuple pl (by simp only[zS];omega) ⟨H,I.tok _,by rw[Hi r];exact q⟩
  ·subst e';obtain⟨d,f,vs,r,m⟩:AO.length<=AA/\(p==sysModules)=false/\∃vs,KV AO vs/\s.heap.DictOf (bF X.prog X.w) p vs:=I.hok p _ hx;have c:AO.length=vs.length:=Paired.length r;exact wpAny_truthy_dict f m (by omega) ⟨H,I.tok _,by rw[UG r];exact q⟩
 |_=>exact(show False from e).elim
theorem cv(c:PE X a ta)(he:∀b,isTrue a X.env b=(do let v <-b;standAt a.pos;holding [v] (truthy v))):
  PT X a (λσ H Q=>ta σ H λx H'=>∃k,Ix X.K x H' k/\Q k H'):=by
 intro AN s σ H Q I h;exact isTrue_plain (iZ (c AN s σ H _ I h) λv s1 ⟨x,H1,I1,r1,q1⟩=>NO AN s1 σ H1 x v Q I1 r1 q1) (he _)
theorem UJ:yM X (binaryOp .Add) (λx y H Q=>∃i j,x=.str i/\y=.str j/\i.length+j.length<=AA/\Q (.str (i++j)) H):=by
 intro AN s σ H x y v u Q I d c h;obtain⟨i,j,rfl,rfl,a,q⟩:=h;obtain⟨t,rfl⟩:=d;obtain⟨b,rfl⟩:=c;exact add_str (λb tk=>⟨.str (i++j),H,I.tok _,⟨_,rfl⟩,q⟩) a
theorem BB{x:V}(r:AX [x] us):∃u,us=[u]/\Au x u:=by
 cases r with
 |cons b a=>cases a;exact⟨_,rfl,b⟩
theorem ac:jK X (.builtin "abs") (λxs H Q=>∃i,xs=[.int i]/\Q (.int (if i<0 then -i else i)) H):=by
 intro AN s σ H xs us Q I r h;obtain⟨i,rfl,q⟩:=h;obtain⟨u,rfl,t,rfl⟩:=BB r;exact call_abs_int λu tk=>⟨.int (if i<0 then -i else i),H,I.tok _,⟨_,rfl⟩,q⟩
theorem Yp:jK X (.type "int") (λxs H Q=>(∃i,xs=[.int i]/\Q (.int i) H)\/∃k,xs=[.bl k]/\Q (.int (if k then 1 else 0)) H):=by
 intro AN s σ H xs us Q I r h;rcases h with⟨i,rfl,q⟩|⟨k,rfl,q⟩
 ·obtain⟨u,rfl,t,rfl⟩:=BB r;exact call_int_int ⟨.int i,H,I,⟨_,rfl⟩,q⟩
 ·obtain⟨u,rfl,a⟩:=BB r;cases a;exact call_int_bool ⟨.int (if k then 1 else 0),H,I.tok _,⟨_,rfl⟩,q⟩
end
end L2
namespace L2
structure Uf (h:Heap) (x dx C:Addr) (mA:Str->Option Value):Prop where
 obj:h.get? x=some (instObj C dx)
 ns:h.Ns1 dx mA
 ne:dx≠x
section
variable{x dx f:A1}{mA:AJ->S A0}{v:A0}
end
theorem Hf.some_of{v:V}{o:S A0}(r:Hf (O v) o):∃u,o=O u/\Au v u:=by
 cases o with
 |none=>exact(show False from r).elim
 |some u=>exact⟨u,rfl,r⟩
section
variable{H H':Hp}{h':A6}{dx:A1}{fs fs':Y (AJ×V)}
theorem Gp(c:zW P w H h)(e:H a=O (.ins C dx fs)):∃mA,Uf h a dx C mA/\(∀f,Hf (fs.lookup f) (mA f))/\PySem.Within mA (fs.map (·.1))/\fs.length<=1000/\H dx=O (.own a):=by
 obtain⟨d,z,b,g,mA,n,r,q⟩:=(show iY P w H h a (.ins C dx fs) from c a _ e);exact⟨mA,⟨g,n,b⟩,r,q,z,d⟩
end
structure DN (K:B4) (C:Addr) (f:Str) (v:V) (u:Value):Prop where
 at_:PySem.W.findIn K (.ref C) f=some (some u)
 rel:Au v u
 get:PySem.W.specialIn K u "__get__"=some none
 cp:PySem.W.copiedNames.contains f=false
section
variable{X:Cx}{σ:St}{H:Hp}{dx:A1}{fs:Y (AJ×V)}{f:AJ}{v:V}
end
section
variable{X:Cx}{o value:Expr}{f:AJ}{pos':Pos}{ta tv:TE}
end
section
variable{X:Cx}{σ:St}{H:Hp}{Q:B8}{c:A0}{b:Bool}
end
end L2
namespace L2
structure pB (k:Nat) (A:Around):Prop where
 hd:A.handled=none
 dp:A.depth+3*k+5<recursionLimit
 un:A.units+16*k+200<cLine
theorem pB.mono{k:Nat}(r:pB k A)(h:j<=k):pB j A:=⟨r.hd,by have:=r.dp;omega,by have:=r.un;omega⟩
theorem pB.deeper{k:Nat}(r:pB (k+1) A)(env:Env):pB k (A.deeper env):=
 ⟨r.hd,by have:=r.dp;show A.depth+1+3*k+5<_;omega,by have:=r.un;show A.units+3+16*k+200<_;omega⟩
theorem pB.depth{k:Nat}(r:pB k A):A.depth<recursionLimit:=by have:=r.dp;omega
def g4:TA:=λ_ H Q=>Q [] H
def du(ta:TE)(a:TA):TA:=λσ H Q=>ta σ H λx H1=>a σ H1 λxs H2=>Q (x::xs) H2
section
variable{X:Cx}{te:TE}{t:TA}
theorem Hj:PA X [] g4:=λ_ _ _ _ H Q I h=>Calls.spliced_nil ⟨[],H,I,.nil,h⟩
theorem xX(a:PE X e te)(b:PA X es t)(hs:A9 (e::es) X.env=(false,eval e X.env)::A9 es X.env:=by rfl):PA X (e::es) (du te t):=by
 intro pos AN s σ H Q I h;rw[hs];show A7 _ _ (spliced ((false,eval e X.env)::AD pos (A9 es X.env))) _ _ s;refine Calls.spliced_cons (iZ (a AN s σ H _ I h) λu s1 ⟨x,H1,I1,r1,q1⟩=>?_);exact iZ (b pos AN s1 σ H1 _ I1 q1) λus s2 ⟨xs,H2,I2,r2,q2⟩=>⟨x::xs,H2,I2,.cons r1 r2,q2⟩
def WH(t:TA):TE:=λσ H Q=>t σ H λxs H1=>xs.length<=AA/\∀p,H1 p=Y3->Q (.ref p) (B6 H1 p (.tup xs))
def Pv(t:TA):TE:=λσ H Q=>t σ H λxs H1=>xs.length<=AA/\∀p,H1 p=Y3->Q (.ref p) (B6 H1 p (.lst xs))
theorem Tk{x1}(h:PA X es t):PE X (.Tuple es x1 pos) (WH t):=by
 intro AN s σ H Q I c;refine wpAny_Tuple_spliced (iZ (h pos AN s σ H _ I c) λus s1 ⟨xs,H1,I1,r,z,q⟩=>⟨by rw[<-r.length];exact z,?_⟩);have a:H1 s1.heap.objs.size=Y3:=I1.hok.fresh (zk _);refine⟨.ref s1.heap.objs.size,B6 H1 s1.heap.objs.size (.tup xs),I1.laid (t':=s1.toks) (λb u e=>ze _ e) (zk _) ?_,rfl,q _ a⟩;exact⟨z,us,r,⟨_,zC _ rfl,rfl,⟨_,rfl⟩,rfl⟩⟩
theorem iq(h:PA X es t):PE X (.List es pos) (Pv t):=by
 intro AN s σ H Q I c;refine wpAny_List_spliced (iZ (h pos AN s σ H _ I c) λus s1 ⟨xs,H1,I1,r,z,q⟩=>⟨by rw[<-r.length];exact z,?_⟩);have a:H1 s1.heap.objs.size=Y3:=I1.hok.fresh (zk _);refine⟨.ref s1.heap.objs.size,B6 H1 s1.heap.objs.size (.lst xs),I1.laid (t':=s1.toks) (λb u e=>ze _ e) (zk _) ?_,rfl,q _ a⟩;exact⟨z,us,0,r,zC _ rfl⟩
end
abbrev Sp:=Y V->Hp->VK->XK->Prop
abbrev ZL:=Y Env->Hp->A2->XK->A0->A2->Prop
structure G2 (P:Program) (w:World) (K:B4) (mg:Str->Option Value) (base:Heap) (A:Around) (outer:List Env) (s:Shared) (H:Hp):Prop where
 frames:A.frames=some outer
 mod:Mod K mg base
 bs:∀b o,base.get? b=some o->s.heap.get? b=some o/\H b=none
 bsz:base.objs.size<=s.heap.objs.size
 Hg:s.heap.FunFrames base outer
 frf:∀b∈CM outer,H b=none
 hok:zW P w H s.heap
 bare:AllBare s.gens
def CE(outer:Y Env)(P:A3)(w:A4)(H:Hp)(s:A2)(Q:VK)(u:A0)(s':A2):Prop:=
 ∃v H',s'.os=s.os/\AllBare s'.gens/\Un (CM outer) [] H H' s.heap s'.heap/\zW P w H' s'.heap/\Au v u/\Q v H'
def CR(CX:ZL)(outer:Y Env)(P:A3)(w:A4)(H:Hp)(s:A2)(Q:VK)(E:XK)(r:Result)(s':A2):Prop:=
 match r with
 |.ok (.ret u)=>CE outer P w H s Q u s'
 |.ok _=>False
 |.error e=>CX outer H s E e s'
structure uP (P:Program) (w:World) (K:B4) (mg:Str->Option Value) (base:Heap) (CX:ZL) (k:Nat) (f:Addr) (fd:FuncData) (ps:AZ) (sp:Sp):Prop where
 len:∀vs H Q E,sp vs H Q E->vs.length=ps.length
 run:∀(A:Around) (outer:List Env) (s:Shared) (H:Hp) (args:Args) (us:List Value) (vs:List V) (Q:VK) (E:XK),pB k A->G2 P w K mg base A outer s H->BindsTo s fd args (ps.zip us)->AX vs us->sp vs H Q E →
  codeAny (model P w) A (.call (.ref f) args) (CR CX outer P w H s Q E) s
section
variable{X:Cx}{σ:St}{H:Hp}{s':A2}
theorem AU.env0(I:AU X AN σ H s):G2 X.prog X.w X.K X.mg X.base X.A X.stack s H:=
 ⟨I.ok.frames,I.ok.mod,I.bs,ZI I.ok.bsz I.sz,I.stack,I.Ws,I.hok,I.bare⟩
theorem AU.after{Q:VK}(I:AU X AN σ H s)(h:CE X.stack X.prog X.w H s Q u s'):EP X AN σ Q u s':=by
 obtain⟨v,H',os,f,un,e,r,q⟩:=h;obtain⟨a,g,d,t,c⟩:=s';obtain rfl:c=s.os:=os;exact⟨v,H',I.call (h':=a) (g':=g) (d':=d) (t':=t) (ch:=[]) un e f (λb z=>absurd z (by simp)),r,q⟩
end
def dC(sp:Sp)(dvs:Y V)(E:XK)(t:TA):TE:=λσ H Q=>t σ H λvs H1=>sp (vs++dvs) H1 Q E
def BQ(K:B4)(fd:FuncData)(ps:AZ)(ds:Y A0):Prop:=
 ∀(s:A2) (us:Y A0),K.In s.heap->(us++ds).length=ps.length->BindsTo s fd ⟨us,[]⟩ (ps.zip (us++ds))
theorem BQ.all(h:∀us:Y A0,us.length=ps.length->bindArgs fd ⟨us,[]⟩=pure (ps.zip us)):BQ K fd ps []:=λs us _ a=>by
 rw[qv]at a ⊢;exact .of_eq (h us a)
def C8(CX:ZL)(X:Cx)(E:XK):Prop:=∀(AN:Y (A1×AE)) (σ:St) (H:Hp) (s:A2) (e:A0) (s':A2),AU X AN σ H s->CX X.stack H s E e s'->X.xe e s'
section
variable{X:Cx}{CX:ZL}{k:Nat}{f:A1}{sp:Sp}{dvs:Y V}{ds:Y A0}{E:XK}{m:AJ}{p:Pos}{o:Expr}{ta:TE}{t:TA}
theorem S4{σ:St}{H:Hp}{Q:VK}{vs:Y V}(F:uP X.prog X.w X.K X.mg X.base CX k f fd ps sp)(d:pB k X.A)(hb:BQ X.K fd ps ds)(hd:AX dvs ds)(hx:C8 CX X E)(I:AU X AN σ H s)(r:AX vs us)(h:sp (vs++dvs) H Q E):A7 (A8 X.prog X.w) X.A (call (.ref f) us) (EP X AN σ Q) X.xe s:=by
 have b:AX (vs++dvs) (us++ds):=r.append hd;have c:(us++ds).length=ps.length:=by rw[<-b.length];exact F.len _ _ _ _ h
 refine wpAny_call (codeAny_mono (F.run X.A X.stack s H ⟨us,[]⟩ (us++ds) (vs++dvs) Q E d I.env0 (hb s us I.kIn c) b h) λr s' a=>?_);cases r with
 |error e=>exact hx AN σ H s e s' I a
 |ok fl=>
  cases fl with
  |ret u=>exact I.after a
  |next=>exact False.elim a
  |brk=>exact False.elim a
  |cont=>exact False.elim a
theorem Wv(F:uP X.prog X.w X.K X.mg X.base CX k f fd ps sp)(g:pB k X.A)(c:Gl X x)(i:X.mg x=O (.ref f))(a:keepIn X.K (.ref f)=true)(hb:BQ X.K fd ps ds)(hd:AX dvs ds)(hx:C8 CX X E)
  (j:PA X (e::es) t) (d:(x==("__debug__":AJ))=false:=by decide) (he:A9 (e::es) X.env=(false,eval e X.env)::A9 es X.env:=by rfl) (b:(AD pos (A9 es X.env)).any (·.1)=false:=by rfl):
  PE X (.Call (.Name x p) (e::es) [] pos) (dC sp dvs E t):=by
 intro AN s σ H Q I h;refine wpAny_Call_Name_kw (Wt I c i ?_ d);refine PySem.W.callWith_K (h₀:=X.base) I.ok.mod.kin a (iZ (j pos AN s σ H _ I h) λus s1 ⟨vs,H1,I1,r,q⟩=>⟨I1.kIn,?_⟩) he b;exact S4 F g hb hd hx I1 r q
end
section
variable{X:Cx}{CX:ZL}{k:Nat}{f:A1}{ks:AZ}{sp:Sp}{E:XK}{m:AJ}{p kpos:Pos}{o:Expr}{kws:Y AC}{te ta:TE}{t tk:TA}{nm:S AJ}
variable{g:Y A0->Y A0->Y A0}{gV:Y V->Y V->Y V}
end
structure bI (N P:AZ) (sc:Scope):Prop where
 kind:sc.kind=.function
 co:sc.isCoroutine=false
 gen:sc.isGenerator=false
 nd:N.Nodup
 pre:N.take P.length=P
 par:∀x∈P,sc.names.lookup x=some .local\/sc.names.lookup x=some .cell
 agG:∀y∈sc.names,y.2≠.free
theorem LR{a:AJ->S NameKind}{x:AJ}:∀{binds:Y (AJ×A0)} {m:AJ->S A0},(∀v,(x,v)∉binds)->bindL a binds m x=m x
 |[],_,_=>rfl
 |(n,v)::r,m,h=>by
  unfold bindL;rw[LR λw b=>h w (zi _ b)];split
  ·have:x≠n:=by rintro rfl;exact h v zh
   simp[this]
  ·rfl
theorem Ma{a:AJ->S NameKind}{x:AJ}:∀{binds:Y (AJ×A0)} {m:AJ->S A0},(∀v,(x,v)∉binds)->bindC a binds m x=m x
 |[],_,_=>rfl
 |(n,v)::r,m,h=>by
  unfold bindC;rw[Ma λw b=>h w (zi _ b)];split
  ·rfl
  ·have:x≠n:=by rintro rfl;exact h v zh
   simp[this]
theorem Mf{a:AJ->S NameKind}{x:AJ}{v:A0}:∀{P:AZ} {vs:Y A0} {i:Nat} {m:AJ->S A0},P.Nodup->P[i]?=O x->vs[i]?=O v->a x=O .local →
  bindL a (P.zip vs) m x=O v
 |[],_,_,_,_,h,_,_=>by simp at h
 |_::_,[],_,_,_,_,h,_=>by simp at h
 |p::P,w::vs,0,m,nd,h1,h2,hk=>by
  simp at h1 h2;subst h1;subst h2;show bindL a ((p,w)::P.zip vs) m p=_;unfold bindL;rw[LR λv b=>(List.nodup_cons.mp nd).1 (List.of_mem_zip b).1,zr hk];simp
 |p::P,w::vs,i+1,m,nd,h1,h2,hk=>by
  show bindL a ((p,w)::P.zip vs) m x=_;unfold bindL;exact Mf (i:=i) (List.nodup_cons.mp nd).2 (by simpa using h1) (by simpa using h2) hk
theorem Mg{a:AJ->S NameKind}{x:AJ}{v:A0}:∀{P:AZ} {vs:Y A0} {i:Nat} {m:AJ->S A0},P.Nodup->P[i]?=O x->vs[i]?=O v->a x≠O .local →
  bindC a (P.zip vs) m x=O v
 |[],_,_,_,_,h,_,_=>by simp at h
 |_::_,[],_,_,_,_,h,_=>by simp at h
 |p::P,w::vs,0,m,nd,h1,h2,hk=>by
  simp at h1 h2;subst h1;subst h2;show bindC a ((p,w)::P.zip vs) m p=_;unfold bindC;rw[Ma λv b=>(List.nodup_cons.mp nd).1 (List.of_mem_zip b).1,zI hk];simp
 |p::P,w::vs,i+1,m,nd,h1,h2,hk=>by
  show bindC a ((p,w)::P.zip vs) m x=_;unfold bindC;exact Mg (i:=i) (List.nodup_cons.mp nd).2 (by simpa using h1) (by simpa using h2) hk
def start(N:AZ)(vs:Y V):St:=vs.map O++List.replicate (N.length-vs.length) Y3
def Hl(CX:ZL)(P:A3)(w:A4)(K:B4)(mg:AJ->S A0)(base:A6)(N:AZ)(qual:AJ)(scope:Scope)(f:A1)(a:A0)(A:A5)(outer:Y Env)(s:A2)(H:Hp)(E:XK):Cx where
 prog:=P
 w:=w
 K:=K
 mg:=mg
 base:=base
 A:=A.deeper (AK qual scope s.heap.objs.size f a)
 N:=N
 s₀:=s
 H₀:=H
 env:=AK qual scope s.heap.objs.size f a
 outer:=outer
 stack:=AK qual scope s.heap.objs.size f a::outer
 ex:=[]
 calm:=true
 fn:=λ_=>true
 pn:=[]
 xe:=λe s'=>A7 (A8 P w) (A.deeper (AK qual scope s.heap.objs.size f a)) (leaving (AK qual scope s.heap.objs.size f a) e) (λ_ b=>CX outer H s E e b) (λe' b=>CX outer H s E e' b) s'
theorem Q0{a:Scope}(h:a.names.lookup x=O .cell):∃c,(cellsFrom n a.names []).lookup x=O c:=by
 have q:=cellsFrom_some a.names n [] (.inl h);exact Option.isSome_iff_exists.mp q
theorem Yq{CX:ZL}{f:A1}{g:A0}{outer:Y Env}{o:A2}{H:Hp}{E:XK}{vs:Y V}(S:bI N ps scope)(hd:A.handled=Y3)(e0:G2 P w K mg base A outer s H)(D:vs.length=ps.length)(r:AX vs us)(x:InCallC s s.heap.objs.size (bindL (AK qual scope s.heap.objs.size f g).kindOf (ps.zip us) λ_=>Y3) (cellsFrom (s.heap.objs.size+1) scope.names []) (bindC (AK qual scope s.heap.objs.size f g).kindOf (ps.zip us) λ_=>Y3) o):
  AU (Hl CX P w K mg base N qual scope f g A outer s H E) [] (start N vs) H o:=by
 have F:ps.length<=N.length:=by have:=congrArg List.length S.pre;rw[kf]at this;omega
 obtain⟨h1,tk,rfl,l⟩:=x.done;have j:∀b:A1,b∉(Hl CX P w K mg base N qual scope f g A outer s H E).ex:=λb z=>absurd (show b∈([]:Y A1) from z) (by simp);refine⟨⟨e0.mod,S.kind,rfl,rfl,zk _,λy z c h1 h2=>?_,λy d=>?_,λy c _ h=>?_,λ_=>hd,Around.frames_deeper e0.frames,.inr ⟨rfl,rfl⟩,λb z=>absurd z (j b),e0.bs,e0.bsz,λb _ _=>j b,λb z=>absurd z (j b),e0.Hg,e0.frf⟩,
  rfl,e0.bare,Un.kept l,⟨_,x.toInCall.ns,λi y v h1 h2 G=>?_⟩,λy c h=>⟨_,x.cell y c h⟩,e0.hok.fresh (zk _),λy c h=>?_,λp hp=>absurd (show p∈([]:Y (A1×AE)) from hp) (by simp),e0.hok.kept l,?_⟩
 ·exact name_of_addr x.apart (kA h1) (kA h2)
 ·have d:scope.names.lookup y=O .cell\/scope.names.lookup y=O .free:=d;rcases d with d|d
  ·exact Q0 d
  ·exact absurd Y2 (S.agG _ (kA d))
 ·exact jS (x.above y c (kA h))
 ·have hi:i<vs.length:=by
   unfold start at h2;by_cases hi:i<vs.length
   ·exact hi
   ·rw[QA (by simpa using hi)]at h2;rw[QY]at h2;split at h2<;>cases h2
  have C:vs[i]?=O v:=by
   unfold start at h2;rw[ZY (by simpa using hi),ZE]at h2;cases e:vs[i]? with
   |none=>rw[e]at h2;cases h2
   |some a=>rw[e]at h2;cases h2;rfl
  obtain⟨u,t,B⟩:=r.get C;have hp:ps[i]?=O y:=by
   rw[<-S.pre,List.getElem?_take_of_lt (by omega)];exact h1
  have m:ps.Nodup:=by rw[<-S.pre];exact S.nd.sublist (List.take_sublist _ _)
  refine⟨u,B,?_⟩;rcases S.par y (QR hp)with k|k
  ·exact .inl ⟨k,Mf m hp t k⟩
  ·obtain⟨c,e⟩:=Q0 (n:=s.heap.objs.size+1) k;refine .inr ⟨.inl k,c,e,?_⟩;have q:=x.cell y c e;rw[Mg m hp t (by show scope.names.lookup y≠_;rw[k];decide)]at q;exact q
 ·exact e0.hok.fresh (jS (x.above y c (kA h)))
 ·unfold start;show _=N.length;rw[zw,zt,List.length_replicate];omega
theorem SI{CX:ZL}{k:Nat}{f:A1}{l:Arguments}{j kV m z a ct D:A0}{p M:Option A1}{sp:Sp}(lk:K.lookup f=O ⟨D,M,.func (fnOf name qual l body scope j kV m z p a ct),osl⟩)(U:codeIn K a qual=true)(S:bI N ps scope)(len:∀vs H Q E,sp vs H Q E->vs.length=ps.length)(L:∀(A:A5) (outer:Y Env) (s:A2) (H:Hp) (vs:Y V) (Q:VK) (E:XK),pB k (A.deeper (AK qual scope s.heap.objs.size f a))->sp vs H Q E →
   ∃t,Uv (Hl CX P w K mg base N qual scope f a A outer s H E) body t/\t { nx:=λ_ H'=>Q .non H',rt:=Q } (start N vs) H):
  uP P w K mg base CX (k+1) f (fnOf name qual l body scope j kV m z p a ct) ps sp:=by
 refine⟨len,λA outer s H a0 us vs Q E c e0 hb r h=>?_⟩;have C:=len _ _ _ _ h;have g:K.In s.heap:=e0.mod.kin.keeps λb o e=>(e0.bs b o e).1;have X:s.heap.NoLimit:=e0.mod.nolimit.keeps λb o e=>(e0.bs b o e).1;have F:∀y∈ps.zip us,scope.names.lookup y.1=O .local\/(scope.names.lookup y.1=O .cell/\((cellsFrom (s.heap.objs.size+1) scope.names []).lookup y.1).isSome=true):=λ⟨n,v⟩ hy=>by
  rcases S.par n (List.of_mem_zip hy).1 with q|q
  ·exact .inl q
  ·exact .inr ⟨q,cellsFrom_some _ _ _ (.inl q)⟩
 refine codeAny_call_function c.depth (g _ _ lk) Y2 S.co S.gen Y2 (PySem.W.codeRec_of g U) (hb _ _ _ _ ?_);refine wpAny_newFunctionEnv_cells S.kind F λenv G B x=>?_;subst G;refine⟨X.keeps x.toInCall.keep,codeAny_func ?_⟩;obtain⟨t,ht,Z⟩:=L A outer s H vs Q E (c.deeper _) h;have I:AU (Hl CX P w K mg base N qual scope f a A outer s H E) [] (start N vs) H B:=Yq S c.hd e0 C r x;refine QN (ht [] B (start N vs) H _ I Z) (λfl s' hs=>?_) λe s' hs=>hs;have i:∀{σ':St} {H':Hp} {v:V} {u:A0},AU (Hl CX P w K mg base N qual scope f a A outer s H E) [] σ' H' s'->Au v u->Q v H'->CE outer P w H s Q u s':=
  λ{σ' H' v u} J d q=>⟨v,H',J.os,J.bare,J.base,J.hok,d,q⟩
 cases fl with
 |ret u=>
  obtain⟨v,σ',H',J,d,q⟩:=hs;exact i J d q
 |next=>
  obtain⟨σ',H',J,q⟩:=hs;exact i (v:=V.non) (u:=Value.none) J Y2 q
 |brk=>
  obtain⟨_,_,_,q⟩:=hs;exact False.elim q
 |cont=>
  obtain⟨_,_,_,q⟩:=hs;exact False.elim q
end L2
namespace L2
section
variable{X:Cx}{p:Pos}{t:TA}{id T:String}{r:Y V->Hp->VK->Prop}
def HA(r:Y V->Hp->VK->Prop)(t:TA):TE:=λσ H Q=>t σ H λvs H1=>r vs H1 Q
theorem Q5(a:jK X (.builtin id) r)(c:Gl X x)(i:X.mg x=Y3)(g:AH x=O (.builtin id))(j:PA X (e::es) t)(f:x ≠ "__name__":=by decide)(d:(x==("__debug__":AJ))=false:=by decide)
  (he:A9 (e::es) X.env=(false,eval e X.env)::A9 es X.env:=by rfl) (b:(AD pos (A9 es X.env)).any (·.1)=false:=by rfl):PE X (.Call (.Name x p) (e::es) [] pos) (HA r t):=by
 intro AN s σ H Q I h;refine wpAny_Call_Name_kw (Oc I c i g ?_ f d);exact PyProof.Rows.callWith_builtin1 (iZ (j pos AN s σ H _ I h) λus s1 ⟨vs,H1,I1,r1,q1⟩=>a AN s1 σ H1 vs us Q I1 r1 q1) he b
theorem Mh(a:jK X (.type T) r)(c:Gl X x)(i:X.mg x=Y3)(g:AH x=O (.type T))(j:PA X (e::es) t)(f:x ≠ "__name__":=by decide)(d:(x==("__debug__":AJ))=false:=by decide)
  (he:A9 (e::es) X.env=(false,eval e X.env)::A9 es X.env:=by rfl) (b:(AD pos (A9 es X.env)).any (·.1)=false:=by rfl):PE X (.Call (.Name x p) (e::es) [] pos) (HA r t):=by
 intro AN s σ H Q I h;refine wpAny_Call_Name_kw (Oc I c i g ?_ f d);exact PyProof.Rows.callWith_type1 (iZ (j pos AN s σ H _ I h) λus s1 ⟨vs,H1,I1,r1,q1⟩=>a AN s1 σ H1 vs us Q I1 r1 q1) he b
end
end L2
namespace HT
open PySem PyProof.Rows
section
open PySem.SeqAt
open PySem.AutoSeq1 (wpAny_loadPart')
open PySem.MeetsSeq PySem.MeetsSeq2 PySem.MeetsSeq3
end
theorem ada{t b:A1}{vs a:Y A0}{Q:B8}(q:IsTup s.heap t vs.toArray)(hb:IsTup s.heap b a.toArray)(o:vs≠[])
  (h1:a=[]->Q (.ref t) s) (h2:a≠[]->Q (.ref s.heap.objs.size) { s with heap:=s.heap.push { cls:=.type "tuple",data:=.seq (vs++a).toArray } })
  (hsz:vs.length+a.length<=AA):A7 (A8 prog w) A (binaryOp .Add (.ref t) (.ref b)) Q E s:=by
 obtain⟨⟨cls,m,data,sl⟩,f,g,n,hd⟩:=id q;obtain⟨⟨cls2,p,u,l⟩,c,i,h,j⟩:=id hb;simp only at g hd i j;subst g hd i j;have e:vs.toArray++a.toArray=(vs++a).toArray:=by simp
 by_cases d:a=[]
 ·exact concat_meets ⟨_,f,rfl⟩ ⟨_,c,rfl⟩ noFill_tuple_add seq_tuple_add PySem.F.slot_tuple_add Yf (yY _ _)
   (tuple_addW1 t b vs.toArray a.toArray n h m p sl l (by simpa using o) (by simp[d])) ⟨f,c,h1 d⟩
 ·refine concat_meets ⟨_,f,rfl⟩ ⟨_,c,rfl⟩ noFill_tuple_add seq_tuple_add PySem.F.slot_tuple_add Yf (yY _ _)
   (tuple_addW2 t b vs.toArray a.toArray n h m p sl l (by simpa using o) (by simpa using d) (by rw[zS,zS];exact hsz)) ⟨f,c,?_⟩
  rw[e];exact h2 d
def jL(n d:Nat):S Int->Nat
 |none=>d
 |some v=>if v<0 then(v+(n:Int)).toNat else min v.toNat n
theorem Q6(n d:Nat):jL n d Y3=d:=rfl
theorem Ww(n d k:Nat):jL n d (O (k:Int))=min k n:=by
 show(if(k:Int)<0 then((k:Int)+(n:Int)).toNat else min (k:Int).toNat n)=min k n;rw[zI (by omega),KL]
theorem WB(n d:Nat)(hd:d<=n)(o:S Int):jL n d o<=n:=by
 cases o with
 |none=>exact hd
 |some v=>
  show(if v<0 then(v+(n:Int)).toNat else min v.toNat n)<=n;by_cases a:v<0
  ·rw[zr a];omega
  ·rw[zI a];exact Nat.min_le_right _ _
theorem Wx(v:Int)(n d:Nat):(if v<0 then max (v+(n:Int)) 0 else min v (n:Int))=((jL n d (O v):Nat):Int):=by
 show(if v<0 then max (v+(n:Int)) 0 else min v (n:Int))=(((if v<0 then(v+(n:Int)).toNat else min v.toNat n):Nat):Int);by_cases a:v<0
 ·simp only[zr a];omega
 ·simp only[zI a];omega
theorem UL(lo hi:S Int)(n:Nat):Builtin.Slice.sliceAdjust lo hi 1 (n:Int)=(((jL n 0 lo:Nat):Int),((jL n n hi:Nat):Int)):=by
 have h1:¬ ((1:Int)<0):=by omega
 unfold Builtin.Slice.sliceAdjust;simp only[h1,ZU];refine y0 ?_ ?_
 ·cases lo with
  |none=>rfl
  |some v=>exact Wx v n 0
 ·cases hi with
  |none=>rfl
  |some v=>exact Wx v n n
theorem UW(i j:Nat):Builtin.Slice.slicePlaces (i:Int) (j:Int) 1=j-i:=by
 unfold Builtin.Slice.slicePlaces;have h1:(1:Int)>0:=by omega
 simp only[h1,QE,Int.ediv_one];split<;>omega
theorem Ho{v:A0}{o:S Int}{Q:S Int->A2->Prop}(p:IsPart v o)(h:Q o s):A7 (A8 prog w) A (Builtin.Slice.slicePartIndex v) Q E s:=by
 cases p with
 |none=>exact slicePart_none h
 |int i t=>exact slicePart_int h
theorem uw{sl:A1}{a b:A0}{Q:Int×Int×Nat->A2->Prop}(hs:s.heap.IsSliceOf sl a b .none)(pl:IsPart a lo)(e:IsPart b hi)(h:Q (((jL n 0 lo:Nat):Int),1,jL n n hi-jL n 0 lo) s):A7 (A8 prog w) A (Builtin.Slice.sliceApplied (.ref sl) (pure (n:Int))) Q E s:=by
 obtain⟨os,d,f,c⟩:=id hs;unfold Builtin.Slice.sliceApplied Builtin.Slice.sliceFields;refine zd (zd (wpAny_field d c (x:=a) Y2 (zd (wpAny_field d c (x:=b) Y2 (zd (wpAny_field d c (x:=.none) Y2 (zg ?_)))))));refine zd (slicePart_none ?_);show A7 _ _ (if((1:Int)==0)=true then _ else _) _ _ s;rw[zI (by decide)];refine zd (Ho pl (zd (Ho e (zd (zg ?_)))));show A7 _ _ (match Builtin.Slice.sliceAdjust lo hi 1 (n:Int)with|(lo,hi)=>pure (lo,(1:Int),Builtin.Slice.slicePlaces lo hi 1)) _ _ s;rw[UL lo hi n];show A7 _ _ (pure (((jL n 0 lo:Nat):Int),(1:Int),Builtin.Slice.slicePlaces ((jL n 0 lo:Nat):Int) ((jL n n hi:Nat):Int) 1)) _ _ s;rw[UW];exact zg h
theorem a6(xs:Array A0)(i k:Nat):((List.range k).filterMap λ(m:Nat)=>xs[((i:Int)+(m:Int)*1).toNat]?).toArray=((xs.toList.drop i).take k).toArray:=by
 have e:(λ(m:Nat)=>xs[((i:Int)+(m:Int)*1).toNat]?)=λm=>xs[i+m]?:=by
  funext m;have:((i:Int)+(m:Int)*1).toNat=i+m:=by omega
  rw[this]
 rw[e];have:=pick_run xs i k;rw[List.filterMap_map]at this;have e2:((λx=>xs[x]?) ∘ λx=>i+x)=λm=>xs[i+m]?:=rfl;rw[e2]at this;rw[this]
theorem zZ{t sl:A1}{c d:A0}{Q:B8}(b:IsTup s.heap t items)(hs:s.heap.IsSliceOf sl c d .none)(pl:IsPart c lo)(e:IsPart d hi)(l:¬ (jL items.size 0 lo=0/\jL items.size items.size hi=items.size))(h:Q (.ref s.heap.objs.size) { s with heap:=s.heap.push { cls:=.type "tuple",data:=.seq ((items.toList.drop (jL items.size 0 lo)).take (jL items.size items.size hi-jL items.size 0 lo)).toArray } })(hsz:items.size<=AA):A7 (A8 prog w) A (getItem (.ref t) (.ref sl)) Q E s:=by
 have a:sizeOk (.seq ((items.toList.drop (jL items.size 0 lo)).take (jL items.size items.size hi-jL items.size 0 lo)).toArray):=by
  show((items.toList.drop (jL items.size 0 lo)).take (jL items.size items.size hi-jL items.size 0 lo)).toArray.size<=AA;rw[zS,kf,kD,qA];omega
 have n:jL items.size items.size hi<=items.size:=WB _ _ (zk _) hi;obtain⟨os,j,f,o⟩:=id hs;have g:s.TypeIs (.ref sl) "slice":=⟨os,j,f⟩;unfold getItem
 try with_reducible refine QQ ?_
 first|refine zd (zg ?_)|skip
 refine zd (wpAny_sequenceKey b.typeIs (by decide) ?_);refine zd (Ya (name:=Str.ofString "__getitem__") b.typeIs PyProof.Rows.slot_tuple_getitem
  (ke PyProof.Rows.slot_tuple_getitem b.typeIs entry_tuple_getitem ?_ (args_tuple_getitem _ _)))
 show A7 _ _ (Builtin.Tuple.tupleItemsOf (.ref t) >>= _) _ _ s;refine zd (tupleItemsOf_ b ?_);refine zd (Q3 g ?_);rw[zr (by decide)];refine zd (uw hs pl e ?_);have i:¬ ((((jL items.size 0 lo:Nat):Int)==0&&(1:Int)==1&&(jL items.size items.size hi-jL items.size 0 lo)==items.size)=true):=by
  intro q;rw[ZT,ZT]at q;have q1:((jL items.size 0 lo:Nat):Int)=0:=eq_of_beq q.1.1;have q2:jL items.size items.size hi-jL items.size 0 lo=items.size:=eq_of_beq q.2;exact l ⟨by omega,by omega⟩
 show A7 _ _ (if(((jL items.size 0 lo:Nat):Int)==0&&(1:Int)==1&&(jL items.size items.size hi-jL items.size 0 lo)==items.size)=true then _ else _) _ _ s;rw[zI i,a6]
 first
  |exact zd (m:=Builtin.Tuple.tupleExact _) (qo (zg ⟨_,rfl,zg h⟩) a)
  |exact zd (m:=Builtin.Tuple.tupleExact _) (qo (zd (zg (zg ⟨_,rfl,zg h⟩))) a)
  |exact zd (zd (m:=Builtin.Tuple.tupleExact _) (qo (zg (zg ⟨_,rfl,zg h⟩)) a))
  |exact zd (zd (m:=Builtin.Tuple.tupleExact _) (qo (zg ⟨_,rfl,zg h⟩) a))
end HT
namespace L2
abbrev TO:=St->Hp->(S Int->Hp->Prop)->Prop
def PO(X:Cx)(e:S Expr)(t:TO):Prop:=
 ∀(AN:Y (A1×AE)) (s:A2) (σ:St) (H:Hp) (Q:S Int->Hp->Prop),AU X AN σ H s->t σ H Q →
  A7 (A8 X.prog X.w) X.A (evalPart e X.env) (λu s'=>∃o H',AU X AN σ H' s'/\IsPart u o/\Q o H') X.xe s
def VW:TO:=λ_ H Q=>Q Y3 H
def eP(t:TE):TO:=λσ H Q=>t σ H λx H1=>∃i,x=.int i/\Q (O i) H1
section
variable{X:Cx}{te:TE}{lo hi:S Expr}{tl th:TO}
theorem iP:PO X Y3 VW:=by
 intro AN s σ H Q I h;rw[evalPart_none];exact zg ⟨Y3,H,I,.none,h⟩
theorem b8(h:PE X e te):PO X (O e) (eP te):=by
 intro AN s σ H Q I a;rw[evalPart_some];refine iZ (h AN s σ H _ I a) λu s1 ⟨x,H1,I1,r1,q1⟩=>?_;obtain⟨i,rfl,q⟩:=q1;obtain⟨t,rfl⟩:=r1;exact⟨O i,H1,I1,.int i t,q⟩
def FX(X:Cx)(r:V->S Int->S Int->Hp->VK->Prop):Prop:=
 ∀(AN:Y (A1×AE)) (s:A2) (σ:St) (H:Hp) (x:V) (v a b:A0) (lo hi:S Int) (sl:A1) (Q:VK),AU X AN σ H s->Au x v->s.heap.IsSliceOf sl a b .none->IsPart a lo->IsPart b hi->r x lo hi H Q →
  ∃T id,typeLookup (.type T) "__getitem__"=pure (O (.builtin id))/\s.TypeIs v T/\A7 (A8 X.prog X.w) X.A (getItem v (.ref sl)) (EP X AN σ Q) X.xe s
def U'(r:V->S Int->S Int->Hp->VK->Prop)(te:TE)(tl th:TO):TE:=λσ H Q=>te σ H λx H1=>tl σ H1 λl H2=>th σ H2 λu a=>r x l u a Q
theorem Sr{r:V->S Int->S Int->Hp->VK->Prop}(g:FX X r)(he:PE X e te)(a:PO X lo tl)(i:PO X hi th):PE X (.Subscript e (.Slice lo hi Y3 p2) pos) (U' r te tl th):=by
 intro AN s σ H Q I h;refine Subscript_ (iZ (he AN s σ H _ I h) λv s1 ⟨x,H1,I1,r1,q1⟩=>?_);refine wpAny_Slice (iZ (a AN s1 σ H1 _ I1 q1) λvl s2 ⟨l,H2,I2,pl,q2⟩=>iZ (i AN s2 σ H2 _ I2 q2) λvu s3 ⟨u,H3,I3,pu,q3⟩=>?_);rw[evalPart_none];refine zg ?_;have j:AU X AN σ H3 { s3 with heap:=s3.heap.push { cls:=.type "slice",data:=.fields #[vl,vu,.none] } }:=I3.kept (t':=s3.toks) λb m q=>ze _ q;obtain⟨T,id,d,f,c⟩:=g AN { s3 with heap:=s3.heap.push { cls:=.type "slice",data:=.fields #[vl,vu,.none] } } σ H3 x v vl vu l u s3.heap.objs.size Q j r1 (Heap.IsSliceOf.new ..) pl pu q3;show A7 (A8 X.prog X.w) X.A (subscriptTail e (.Slice lo hi Y3 p2) v (.ref s3.heap.objs.size)) (EP X AN σ Q) X.xe { s3 with heap:=s3.heap.push { cls:=.type "slice",data:=.fields #[vl,vu,.none] } };exact tail_any (ops:=[.ref s3.heap.objs.size,v]) f d c (by with_unfolding_all rfl)
def Q7(xs:Y V)(lo hi:S Int):Y V:=(xs.drop (HT.jL xs.length 0 lo)).take (HT.jL xs.length xs.length hi-HT.jL xs.length 0 lo)
theorem DP(xs:Y V)(lo hi:S Int):(Q7 xs lo hi).length<=xs.length:=by
 unfold Q7;rw[kf,kD];omega
def VS(K:B4):V->S Int->S Int->Hp->VK->Prop:=λx lo hi H Q=>∃a xs,x=.ref a/\Cy K H a xs ∧
 ¬ (HT.jL xs.length 0 lo=0/\HT.jL xs.length xs.length hi=xs.length)/\∀p,H p=Y3->Q (.ref p) (B6 H p (.tup (Q7 xs lo hi)))
theorem US:FX X (VS X.K):=by
 intro AN s σ H x v l m lo hi sl Q I g hs pl f h;obtain⟨a,xs,rfl,hx,i,q⟩:=h;cases g;obtain⟨AQ,r,e,d⟩:=I.tuple hx;have c:AQ.toArray.size=xs.length:=by rw[zS];exact r.length.symm
 refine⟨"tuple", _,PyProof.Rows.slot_tuple_getitem.lookup,e.typeIs,?_⟩;refine HT.zZ e hs pl f (by rw[c];exact i) ?_ (by rw[c];exact d);rw[c];refine⟨.ref s.heap.objs.size,_,I.laid (t':=s.toks) (o:=.tup (Q7 xs lo hi)) (λb j q=>ze _ q) (zk _) ?_,rfl,q _ (I.hok.fresh (zk _))⟩;exact⟨ZI (DP xs lo hi) d,_,(r.drop (HT.jL xs.length 0 lo)).take (HT.jL xs.length xs.length hi-HT.jL xs.length 0 lo),wF.new _ _⟩
def YR(K:B4):R2:=λx y H Q=>∃a b xs ys,x=.ref a/\y=.ref b/\Cy K H a xs/\Cy K H b ys/\xs≠[]/\xs.length+ys.length<=AA ∧
 (ys=[]->Q (.ref a) H)/\(ys≠[]->∀p,H p=Y3->Q (.ref p) (B6 H p (.tup (xs++ys))))
theorem AX.z6{xs:Y V}(r:AX xs us):us=[]↔xs=[]:=by
 cases r with
 |nil=>simp
 |cons _ _=>simp
theorem XA:yM X (binaryOp .Add) (YR X.K):=by
 intro AN s σ H x y v u Q I g f h;obtain⟨a,b,xs,ys,rfl,rfl,i,hb,hx,e,q1,q2⟩:=h;cases g;cases f;obtain⟨AQ,d,p1,_⟩:=I.tuple i;obtain⟨j,c,p2,_⟩:=I.tuple hb;refine HT.ada p1 p2 (λz=>hx (d.z6.mp z)) (λz=>⟨.ref a,H,I,rfl,q1 (c.z6.mp z)⟩) (λz=>?_) (by rw[<-d.length,<-c.length];exact e);refine⟨.ref s.heap.objs.size,_,I.laid (t':=s.toks) (o:=.tup (xs++ys)) (λb l q=>ze _ q) (zk _) ?_,rfl,q2 (λw=>z (c.z6.mpr w)) _ (I.hok.fresh (zk _))⟩;exact⟨by rw[zw];exact e,_,d.append c,wF.new _ _⟩
end
end L2
namespace L2
def EJ(n:Nat)(i:Int):S Nat:=if 0<=i then(if i<n then O i.toNat else Y3)else if -(n:Int)<=i then O (i+n).toNat else Y3
def Kl(xs:Y α)(i:Int):S α:=(EJ xs.length i).bind λj=>xs[j]?
theorem br{i:Int}(h:EJ n i=O j):seqIndex? i n=O j/\j<n ∧ -(n:Int)<=i/\i<n:=by
 unfold EJ at h;by_cases h0:0<=i
 ·rw[zr h0]at h;by_cases h1:i<n
  ·rw[zr h1]at h;have e:i.toNat=j:=JE h;exact⟨by rw[seqIndex_of h0 h1,e],by omega,by omega,h1⟩
  ·rw[zI h1]at h;cases h
 ·rw[zI h0]at h;by_cases h1 : -(n:Int)<=i
  ·rw[zr h1]at h;have e:(i+n).toNat=j:=JE h;exact⟨by rw[seqIndex_neg (by omega) h1,e],by omega,h1,by omega⟩
  ·rw[zI h1]at h;cases h
theorem Oe{xs:Y α}{i:Int}{v:α}(h:Kl xs i=O v):∃j,seqIndex? i xs.length=O j/\xs[j]?=O v/\j<xs.length ∧ -(xs.length:Int)<=i/\i<xs.length:=by
 unfold Kl at h;cases e:EJ xs.length i with
 |none=>rw[e]at h;cases h
 |some j=>
  rw[e]at h;obtain⟨h1,h2,a,b⟩:=br e;exact⟨j,h1,h,h2,a,b⟩
def Wz(b:Expr):Prop:=∀o i,subscripted b false o i=operate [o,i] (getItem o i)
def Cs(X:Cx)(r:R2):Prop:=
 ∀(value a:Expr) (AN:Y (A1×AE)) (s:A2) (σ:St) (H:Hp) (x y:V) (v u:A0) (Q:VK),AU X AN σ H s->Au x v->Au y u->r x y H Q →
  subscripted a false v u=operate [v,u] (getItem v u)->A7 (A8 X.prog X.w) X.A (subscriptTail value a v u) (EP X AN σ Q) X.xe s
def NF(X:Cx)(id:String)(r:V->Y V->Hp->VK->Prop):Prop:=
 ∀(AN:Y (A1×AE)) (s:A2) (σ:St) (H:Hp) (x:V) (xs:Y V) (v:A0) (us:Y A0) (Q:VK),AU X AN σ H s->Au x v->AX xs us->r x xs H Q →
  A7 (A8 X.prog X.w) X.A (call (.builtin id) (v::us)) (EP X AN σ Q) X.xe s
section
variable{X:Cx}{a b:Expr}{ta tb:TE}
theorem Cs.or{r a:R2}(h:Cs X r)(h':Cs X a):Cs X (λx y H Q=>r x y H Q\/a x y H Q):=by
 intro value b AN s σ H x y v u Q I d c q hs;rcases q with q|q
 ·exact h value b AN s σ H x y v u Q I d c q hs
 ·exact h' value b AN s σ H x y v u Q I d c q hs
theorem fE{r:R2}(g:Cs X r)(e:PE X a ta)(hb:PE X b tb)(hs:Wz b):PE X (.Subscript a b pos) (FM r ta tb):=by
 intro AN s σ H Q I h;exact Subscript_ (IH e hb I h λv u f x y H2 c d i q=>g a b AN f σ H2 x y v u Q c d i q (hs _ _))
def Mk(K:B4):R2:=λx y H Q=>∃p xs i v,x=.ref p/\y=.int i/\uN K H p xs/\Kl xs i=O v/\Q v H
def ON(K:B4):R2:=λx y H Q=>∃p xs i v,x=.ref p/\y=.int i/\Cy K H p xs/\Kl xs i=O v/\Q v H
def Ll:R2:=λx y H Q=>∃z i c,x=.str z/\y=.int i/\z.length<=AA/\Kl z.cps.toList i=O c/\Q (.str ⟨#[c]⟩) H
theorem fg:Cs X (Mk X.K):=by
 intro value A AN s σ H x y v u Q I f o h hs;obtain⟨p,xs,i,z,rfl,rfl,m,n,q⟩:=h;cases f;obtain⟨t,rfl⟩:=o;obtain⟨AQ,r,pl,B⟩:=I.list m;obtain⟨j,h1,h2,D,l,g⟩:=Oe n;obtain⟨w,b,d⟩:=r.get h2;have e:=r.length;have C:=CJ;have c:EP X AN σ Q w s:=⟨z,H,I,d,q⟩;by_cases h0:0<=i
 ·have a:i.toNat=j:=by
   rw[seqIndex_of h0 g]at h1;exact JE h1
  exact item_listR pl.isList h0 (by omega) (by rw[a];simpa using b) c hs
 ·have a:(i+(AQ.toArray.size:Int)).toNat=j:=by
   rw[seqIndex_neg (by omega) l]at h1;rw[zS,<-e];exact JE h1
  exact subscriptTail_builtinR (x:=w) pl.isList.typeIs slot_list_getitem.lookup
   (wpAny_getItem_list_neg (Q:=λr s'=>r=w/\EP X AN σ Q r s') pl.isList (by omega) (by rw[zS]<;>omega) (by omega) (by rw[a];simpa using b) ⟨rfl,c⟩) hs
theorem ag:Cs X (ON X.K):=by
 intro value o AN s σ H x y v u Q I c g h hs;obtain⟨p,xs,i,z,rfl,rfl,d,f,q⟩:=h;cases c;obtain⟨t,rfl⟩:=g;obtain⟨AQ,r,pl,A⟩:=I.tuple d;obtain⟨j,h1,h2,C,n,m⟩:=Oe f;obtain⟨w,e,a⟩:=r.get h2;have b:=r.length;have B:=CJ;have l:EP X AN σ Q w s:=⟨z,H,I,a,q⟩;exact subscriptTail_builtinR (x:=w) pl.typeIs slot_tuple_getitem.lookup
  (getItem_tuple (j:=j) (Q:=λr s'=>r=w/\EP X AN σ Q r s') pl (by omega) (by omega) (by rw[zS,<-b];exact h1) (by simpa using e) ⟨rfl,l⟩) hs
theorem e6:Cs X Ll:=by
 intro value m AN s σ H x y v u Q I b g h hs;obtain⟨z,i,c,rfl,rfl,n,f,q⟩:=h;obtain⟨t,rfl⟩:=b;obtain⟨l,rfl⟩:=g;obtain⟨j,h1,h2,p,e,d⟩:=Oe f;have a:z.cps.toList.length=z.length:=by simp[Str.length]
 rw[a]at h1 e d;have o:=CJ;exact tail_any (typeIs_str s z t) slot_str_getitem.lookup (getItem_str (c:=c) (by
  have e1:decide (i < -(2 ^ 63:Int))=false:=ZN (by omega);have e2:decide (i>=2 ^ 63)=false:=ZN (by omega);rw[e1,e2,Bool.or_false]) (by rw[h1];simpa using h2) ⟨.str ⟨#[c]⟩,H,I.tok _,⟨_,rfl⟩,q⟩) hs
def S'(K:B4):R2:=λx y H Q=>Mk K x y H Q\/ON K x y H Q\/Ll x y H Q
theorem XT:Cs X (S' X.K):=fg.or (ag.or e6)
theorem AU.lst{σ:St}{H:Hp}{p:A1}{xs:Y V}(I:AU X AN σ H s)(h:H p=O (.lst xs)):
  ∃(AQ:Y A0) (n:Nat),AX xs AQ/\s.heap.get? p=O { cls:=.type "list",data:=.seq AQ.toArray n }/\xs.length<=AA:=by
 obtain⟨z,AQ,n,r,e⟩:=I.hok p _ h;exact⟨AQ,n,r,e,z⟩
theorem Og(lo hi:S Int)(n:Nat):(sliceBounds lo hi Y3 n).1=((HT.jL n 0 lo:Nat):Int)/\(sliceBounds lo hi Y3 n).2.1=((HT.jL n n hi:Nat):Int)/\(sliceBounds lo hi Y3 n).2.2=1:=by
 refine⟨?_,?_,rfl⟩
 ·cases lo with
  |none=>simp[sliceBounds,HT.jL]
  |some i=>
   simp only[sliceBounds,HT.jL,Option.getD_none,show(1:Int)>0 by decide,QE];by_cases h:i<0
   ·simp only[h,QE]<;>omega
   ·simp only[h,ZU]<;>omega
 ·cases hi with
  |none=>simp[sliceBounds,HT.jL]
  |some i=>
   simp only[sliceBounds,HT.jL,Option.getD_none,show(1:Int)>0 by decide,QE];by_cases h:i<0
   ·simp only[h,QE]<;>omega
   ·simp only[h,ZU]<;>omega
theorem Km(AQ:Y A0)(lo hi:S Int):slicePick AQ.toArray lo hi Y3=((AQ.drop (HT.jL AQ.length 0 lo)).take (HT.jL AQ.length AQ.length hi-HT.jL AQ.length 0 lo)).toArray:=by
 obtain⟨h1,h2,a⟩:=Og lo hi AQ.toArray.size;unfold slicePick;rw[h1,h2,a];simp only[sliceRange_one,pick_run,zS]<;>rfl
def f6(K:B4):V->S Int->S Int->Hp->VK->Prop:=λx lo hi H Q=>∃a xs,x=.ref a/\uN K H a xs/\∀p,H p=Y3->Q (.ref p) (B6 H p (.lst (Q7 xs lo hi)))
theorem O':FX X (f6 X.K):=by
 intro AN s σ H x v j l lo hi sl Q I f hs pl d h;obtain⟨a,xs,rfl,hx,q⟩:=h;cases f;obtain⟨AQ,r,c,g⟩:=I.list hx;have e:=r.length;refine⟨"list", _,slot_list_getitem.lookup,c.isList.typeIs,?_⟩;refine wpAny_getItem_list_slice c.isList hs pl d .none (by simp) ?_ (by rw[zS]<;>omega);rw[Km,<-e];refine⟨.ref s.heap.objs.size,_,I.laid (t':=s.toks) (o:=.lst (Q7 xs lo hi)) (λb i q=>ze _ q) (zk _) ?_,rfl,q _ (I.hok.fresh (zk _))⟩;exact⟨ZI (DP xs lo hi) g,_,0,(r.drop (HT.jL xs.length 0 lo)).take (HT.jL xs.length xs.length hi-HT.jL xs.length 0 lo),zC _ rfl⟩
def vR:V->Bool
 |.non=>true
 |.bl _=>true
 |.int _=>true
 |.str _=>true
 |_=>false
def D7:V->V->Bool
 |.non,.non=>true
 |.bl a,.bl b=>a==b
 |.bl a,.int b=>(if a then 1 else 0)==b
 |.int a,.bl b=>a==(if b then 1 else 0)
 |.int a,.int b=>a==b
 |.str a,.str b=>a==b
 |_,_=>false
theorem T1{y x:V}{v:A0}(e:Au y u)(c:Au x v)(fy:vR y=true)(fx:vR x=true):SeqAt.EqAt A s u v (D7 y x):=by
 cases y with
 |non=>
  cases e;cases x with
  |non=>cases c;exact SeqAt.EqAt.same _
  |bl b=>cases c;exact SeqAt.EqAt.none_bool b
  |int b=>obtain⟨t,rfl⟩:=c;exact SeqAt.EqAt.none_int b t
  |str b=>obtain⟨t,rfl⟩:=c;exact SeqAt.EqAt.none_str b t
  |_=>exact absurd (show false=true from fx) ZO
 |bl a=>
  cases e;cases x with
  |non=>cases c;exact SeqAt.EqAt.bool_none a
  |bl b=>cases c;exact SeqAt.EqAt.bool_bool a b
  |int b=>obtain⟨t,rfl⟩:=c;exact SeqAt.EqAt.bool_int a b t
  |str b=>obtain⟨t,rfl⟩:=c;exact SeqAt.EqAt.bool_str a b t
  |_=>exact absurd (show false=true from fx) ZO
 |int a=>
  obtain⟨d,rfl⟩:=e;cases x with
  |non=>cases c;exact SeqAt.EqAt.int_none a d
  |bl b=>cases c;exact SeqAt.EqAt.int_bool a d b
  |int b=>obtain⟨t,rfl⟩:=c;exact SeqAt.EqAt.int_int a d b t
  |str b=>obtain⟨t,rfl⟩:=c;exact SeqAt.EqAt.int_str a d b t
  |_=>exact absurd (show false=true from fx) ZO
 |str a=>
  obtain⟨d,rfl⟩:=e;cases x with
  |non=>cases c;exact SeqAt.EqAt.str_none a d
  |bl b=>cases c;exact SeqAt.EqAt.str_bool a d b
  |int b=>obtain⟨t,rfl⟩:=c;exact SeqAt.EqAt.str_int a d b t
  |str b=>obtain⟨t,rfl⟩:=c;exact SeqAt.EqAt.str_str a d b t
  |_=>exact absurd (show false=true from fx) ZO
 |_=>exact absurd (show false=true from fy) ZO
def D9(x:V)(u:A0):Bool:=match u with
 |.none=>D7 .non x
 |.bool b=>D7 (.bl b) x
 |.int i _=>D7 (.int i) x
 |.str z _=>D7 (.str z) x
 |_=>false
theorem MO{x y:V}(r:Au y u)(f:vR y=true):D9 x u=D7 y x:=by
 cases y with
 |non=>cases r;rfl
 |bl b=>cases r;rfl
 |int i=>obtain⟨t,rfl⟩:=r;rfl
 |str z=>obtain⟨t,rfl⟩:=r;rfl
 |_=>exact absurd (show false=true from f) ZO
theorem Oh{x:V}:∀{xs:Y V} {us:Y A0},AX xs us->xs.all vR=true->us.any (D9 x)=xs.any λy=>D7 y x
 |_,_,.nil,_=>rfl
 |y::xs,u::us,.cons r t,f=>by
  rw[kR,ZT]at f;rw[ky,ky,MO r f.1,Oh t f.2]
theorem Hq{A:A5}{s:A2}{x:V}{v:A0}(b:Au x v)(fx:vR x=true):∀{xs:Y V} {us:Y A0},AX xs us->xs.all vR=true->∀u∈us,SeqAt.EqAt A s u v (D9 x u)
 |_,_,.nil,_=>λu a=>by cases a
 |y::xs,u::us,.cons r t,f=>λc a=>by
  rw[kR,ZT]at f;rcases List.mem_cons.mp a with rfl|a
  ·rw[MO r f.1];exact T1 r b f.1 fx
  ·exact Hq b fx t f.2 c a
def FY(x:V)(xs:Y V):Bool:=xs.any λy=>D7 y x
def Wp(K:B4)(a:Bool):R2:=λx y H Q=>∃p xs,y=.ref p/\(uN K H p xs\/Cy K H p xs)/\vR x=true/\xs.all vR=true/\Q (.bl (if a then !FY x xs else FY x xs)) H
theorem Yr:yM X (AG .In) (Wp X.K false):=by
 intro AN s σ H x y v u Q I c e h;obtain⟨p,xs,rfl,a,fx,fs,q⟩:=h;cases e;rcases a with a|a
 ·obtain⟨AQ,r,pl,d⟩:=I.list a;refine SeqAt.in_listAt (D9 x) pl.isList (λw b=>Hq c fx r fs w (by simpa using b)) ⟨.bl _,H,I,rfl,?_⟩;rw[show AQ.toArray.any (D9 x)=AQ.any (D9 x) by simp,Oh r fs];exact q
 ·obtain⟨AQ,r,pl,d⟩:=I.tuple a;refine SeqAt.in_tupleAt (D9 x) pl (λw b=>Hq c fx r fs w (by simpa using b)) ⟨.bl _,H,I,rfl,?_⟩;rw[show AQ.toArray.any (D9 x)=AQ.any (D9 x) by simp,Oh r fs];exact q
theorem Oi:jK X (.builtin "len") (λxs H Q=>∃p ys,xs=[.ref p]/\(uN X.K H p ys\/Cy X.K H p ys)/\Q (.int ys.length) H):=by
 intro AN s σ H xs us Q I r h;obtain⟨p,ys,rfl,a,q⟩:=h;obtain⟨u,rfl,d⟩:=BB r;cases d;have f:=CJ;rcases a with a|a
 ·obtain⟨AQ,c,pl,e⟩:=I.list a;have b:=c.length;exact Calls.call_len_list pl.isList (by simp only[zS]<;>omega) ⟨.int ys.length,H,I.tok _,⟨s.toks+1,by rw[zS,b]⟩,q⟩
 ·obtain⟨AQ,c,pl,e⟩:=I.tuple a;have b:=c.length;exact len_tuple pl (by simp only[zS]<;>omega) ⟨.int ys.length,H,I.tok _,⟨s.toks+1,by rw[zS,b]⟩,q⟩
theorem Oj:jK X (.builtin "len") (λxs H Q=>∃z,xs=[.str z]/\z.length<=AA/\Q (.int z.length) H):=by
 intro AN s σ H xs us Q I r h;obtain⟨z,rfl,b,q⟩:=h;obtain⟨u,rfl,t,rfl⟩:=BB r;have a:=CJ;exact len_str (by omega) ⟨.int z.length,H,I.tok _,⟨_,rfl⟩,q⟩
theorem jK.or{f:A0}{r b:Y V->Hp->VK->Prop}(h:jK X f r)(h':jK X f b):jK X f (λxs H Q=>r xs H Q\/b xs H Q):=by
 intro AN s σ H xs us Q I a q;rcases q with q|q
 ·exact h AN s σ H xs us Q I a q
 ·exact h' AN s σ H xs us Q I a q
theorem Ko:jK X (.type "tuple") (λxs H Q=>∃p ys,xs=[.ref p]/\((uN X.K H p ys/\∀l,H l=Y3->Q (.ref l) (B6 H l (.tup ys)))\/(Cy X.K H p ys/\Q (.ref p) H))):=by
 intro AN s σ H xs us Q I r h;obtain⟨p,ys,rfl,h⟩:=h;obtain⟨u,rfl,i⟩:=BB r;cases i;rcases h with⟨a,q⟩|⟨a,q⟩
 ·obtain⟨AQ,c,pl,d⟩:=I.list a;have j:=c.length;refine call_tuple_list pl.isList (λh' kp=>?_) (by simp only[zS]<;>omega);have f:AU X AN σ H { s with heap:=h' }:=I.kept (t':=s.toks) kp;have g:AU X AN σ (B6 H h'.objs.size (.tup ys)) { s with heap:=h'.push { cls:=.type "tuple",data:=.seq AQ.toArray } }:=
   f.laid (t':=s.toks) (λb o e=>ze _ e) (zk _) (show iY X.prog X.w _ _ _ (.tup ys) from⟨d,AQ,c,wF.new _ _⟩)
  exact⟨.ref h'.objs.size,_,g,rfl,q _ (f.hok.fresh (zk _))⟩
 ·obtain⟨AQ,c,pl,d⟩:=I.tuple a;exact call_tuple_same pl ⟨.ref p,H,I,rfl,q⟩
def LB(K:B4)(T:String)(x:V)(H:Hp):Prop:=match x with
 |.str _=>T ="str"
 |.int _=>T ="int"
 |.ref p=>(T ="list" ∧ ∃xs,uN K H p xs)\/(T ="tuple" ∧ ∃o,K.lookup p=O o/\o.cls=.type "tuple" ∧ o.dict=Y3) ∨
   (T ="dict" ∧ ((∃AO,H p=O (.dK AO))\/∃AO,H p=O (.dT AO)))\/(T ="set" ∧ ∃S n,H p=O (.set S n))
 |_=>False
theorem eC{σ:St}{H:Hp}{T:String}{x:V}{v:A0}(I:AU X AN σ H s)(r:Au x v)(ty:LB X.K T x H):
  s.TypeIs v T/\∀a,v=.ref a->∃d,s.heap.get? a=O d/\d.dict=Y3:=by
 cases x with
 |str z=>
  obtain⟨t,rfl⟩:=r;cases(show T ="str" from ty);exact⟨typeIs_str s z t,λ_ e=>nomatch e⟩
 |int i=>
  obtain⟨t,rfl⟩:=r;cases(show T ="int" from ty);exact⟨typeIs_int s i t,λ_ e=>nomatch e⟩
 |ref p=>
  cases r;rcases ty with⟨rfl,xs,g⟩|⟨rfl,o,b,f,hd⟩|⟨rfl,b⟩|⟨rfl,S,n,b⟩
  ·obtain⟨AQ,_,pl,_⟩:=I.list g;refine⟨pl.isList.typeIs,λa e=>?_⟩;cases e;obtain⟨o,n,e,c,hd,_⟩:=pl;exact⟨o,e,hd⟩
  ·refine⟨⟨o,I.kIn p o b,f⟩,λa e=>?_⟩;cases e;exact⟨o,I.kIn _ o b,hd⟩
  ·have z:∃o,s.heap.get? p=O o/\o.ExactDict:=by
    rcases b with⟨AO,b⟩|⟨AO,b⟩
    ·obtain⟨_,_,_,_,o,_,_,e,ex,_⟩:=I.hok p _ b;exact⟨o,e,ex⟩
    ·obtain⟨_,_,_,_,o,_,_,e,ex,_⟩:=I.hok p _ b;exact⟨o,e,ex⟩
   obtain⟨o,e,ex⟩:=z;refine⟨⟨o,e,ex.1⟩,λa e2=>?_⟩;cases e2;exact⟨o,e,ex.2.1⟩
  ·obtain⟨o,_,_,_,e,ex,_⟩:=I.hok p _ b;refine⟨⟨o,e,ex.1⟩,λa e2=>?_⟩;cases e2;exact⟨o,e,ex.2.1⟩
 |_=>exact False.elim ty
def WS(K:B4)(T:String)(r:V->Y V->Hp->VK->Prop)(to:TE)(t:TA):TE:=λσ H Q=>to σ H λx H1=>LB K T x H1/\t σ H1 λxs H2=>r x xs H2 Q
variable{o:Expr}{to:TE}{t:TA}{T id:String}{r:V->Y V->Hp->VK->Prop}
theorem I0(pa:PlainAttrs T)(slot:Slot T name id)(i:typeOf (.builtin id)=pure (.type "method_descriptor"))(j:NF X id r)(b:PE X o to)(g:PA X (e::es) t)
  (c:attributeBase o name X.env (eval o X.env)=eval o X.env:=by rfl)
  (l:((AD cpos (A9 (e::es) X.env)).all (λx=>!x.1)&&(backToKw cpos (keywordEach [] X.env)).all (λx=>x.1.isSome)
   && decide ((e::es).length+([]:Y AC).length+(if([]:Y AC).isEmpty then 0 else 1)<30))=true:=by rfl)
  (d:(apos.endLine==cpos.line)=true:=by rfl) (hs:A9 (e::es) X.env=(false,eval e X.env)::A9 es X.env:=by rfl) (f:(AD cpos (A9 es X.env)).any (·.1)=false:=by rfl):
  PE X (.Call (.Attribute o name apos) (e::es) [] cpos) (WS X.K T r to t):=by
 intro AN s σ H Q I h;refine wpAny_Call_method_late c l d Y2 (iZ (b AN s σ H _ I h) λv s1 ⟨x,H1,I1,r1,ty,q1⟩=>?_);obtain⟨h1,h2⟩:=eC I1 r1 ty;refine⟨T,id,pa,slot,i,h1,h2,?_⟩;have a:=g cpos AN s1 σ H1 _ I1 q1;rw[hs]at a ⊢;refine Calls.callWith_builtin (by show(false||(AD cpos (A9 es X.env)).any (·.1))=false;rw[f]<;>rfl) (Calls.evalArgs_plain ?_);exact iZ a λus s2 ⟨vs,H2,I2,r2,q2⟩=>j AN s2 σ H2 x vs v us Q I2 r1 r2 q2
end
end L2
namespace L2
def LI(X:Cx)(id:String)(r:V->Y V->Hp->VK->Prop):Prop:=
 ∀(AN:Y (A1×AE)) (s:A2) (σ:St) (H:Hp) (x:V) (xs:Y V) (v:A0) (us:Y A0) (Q:VK),AU X AN σ H s->Au x v->AX xs us->r x xs H Q →
  A7 (A8 X.prog X.w) X.A (call (.builtin id) (v::us)) (EP X AN σ Q) X.xe s
theorem AX.one:∀{x:V} {us:Y A0},AX [x] us->∃u,us=[u]/\Au x u
 |_,_,.cons r .nil=>⟨_,rfl,r⟩
theorem AX.two:∀{x y:V} {us:Y A0},AX [x,y] us->∃u v,us=[u,v]/\Au x u/\Au y v
 |_,_,_,.cons r (.cons q .nil)=>⟨_,_,rfl,r,q⟩
theorem AX.eraseIdx:∀{xs:Y V} {us:Y A0} (i:Nat),AX xs us->AX (xs.eraseIdx i) (us.eraseIdx i)
 |_,_,_,.nil=>.nil
 |_,_,0,.cons _ t=>t
 |_,_,i+1,.cons r t=>.cons r (AX.eraseIdx i t)
theorem AX.reverse{xs:Y V}(h:AX xs us):AX xs.reverse us.reverse:=by
 induction h with
 |nil=>exact .nil
 |cons r t a=>rw[k4,k4];exact AX.append a (.cons r .nil)
theorem Mi{α:Type}:∀(l:Y α) (i:Nat),(l.eraseIdx i).length<=l.length
 |[],_=>zk _
 |_::_,0=>k5 _
 |_::r,i+1=>Nat.succ_le_succ (Mi r i)
section
variable{X:Cx}{σ:St}{H:Hp}{b:A1}{xs ys zs:Y V}
theorem AU.aal{its':Y A0}{f:Array A0->Array A0}{t':Nat}(I:AU X AN σ H s)(b:H l=O (.lst xs))(e:s.heap.get? l=O { cls:=.type "list",data:=.seq AQ.toArray n })(g:f AQ.toArray=its'.toArray)(c:AX ys its')(a:ys.length<=AA):
  AU X AN σ (B6 H l (.lst ys)) { s with heap:=s.heap.update l (Obj.mapSeq f),toks:=t' }:=by
 have q:=PySem.IsL.update e f;rw[g]at q;refine I.write (x:=l) (e:=l) (by rw[b];exact trivial) (.inl Y2) (λh u hb d=>(Heap.get?_update_other s.heap (Obj.mapSeq f) (KB hb)).trans d) ⟨_,q⟩ ?_;exact⟨a,its',_,c,q⟩
theorem AU.aja(I:AU X AN σ H s)(a:H l=O (.lst xs)):xs.length<=AA/\∃(AQ:Y A0) (n:Nat),AX xs AQ/\xs.length=AQ.length/\s.heap.get? l=O { cls:=.type "list",data:=.seq AQ.toArray n }:=by
 obtain⟨z,AQ,n,r,e⟩:=I.hok l _ a;exact⟨z,AQ,n,r,r.length,e⟩
end
section
variable{X:Cx}
def YE:V->Y V->Hp->VK->Prop:=λx vs H Q=>∃l xs y,x=.ref l/\vs=[y]/\H l=O (.lst xs)/\xs.length<AA/\Q .non (B6 H l (.lst (xs++[y])))
theorem Mj:LI X "list.append" YE:=by
 intro AN s σ H x vs v us Q I d b h;obtain⟨l,xs,y,rfl,rfl,a,g,q⟩:=h;cases d;obtain⟨u,rfl,c⟩:=b.one;obtain⟨z,AQ,n,r,f,e⟩:=I.aja a;refine call_meets F.slot_list_append ⟨_,e,rfl⟩ F.entry_list_append (F.args_list_append_2 _ _) (PySem.list_append l AQ.toArray n u (by rw[zS];omega)) ⟨e,?_⟩;refine⟨.non,_,I.aal (its':=AQ++[u]) a e (by simp) (r.append (.cons c .nil)) ?_,rfl,q⟩;rw[zw,List.length_singleton];omega
def l0:V->Y V->Hp->VK->Prop:=λx vs H Q=>∃l xs i k y,x=.ref l/\vs=[.int i]/\H l=O (.lst xs) ∧ -(2 ^ 63)<=i/\i<2 ^ 63/\seqIndex? i xs.length=O k/\xs[k]?=O y/\Q y (B6 H l (.lst (xs.eraseIdx k)))
theorem d4:LI X "list.pop" l0:=by
 intro AN s σ H x vs v us Q I m g h;obtain⟨l,xs,i,k,y,rfl,rfl,a,h1,h2,b,d,q⟩:=h;cases m;obtain⟨u,rfl,j⟩:=g.one;obtain⟨t,rfl⟩:=j;obtain⟨z,AQ,n,r,f,e⟩:=I.aja a;obtain⟨w,o,c⟩:=r.get d;refine call_meets F.slot_list_pop ⟨_,e,rfl⟩ F.entry_list_pop (F.args_list_pop_2 _ _)
  (MeetsSeq.list_pop_at l AQ.toArray n i t k w (fitsIndex_both h1 h2) (by rw[zS,<-f];exact b) (by rw[<-QI];exact o) (by rw[zS];omega)) ⟨e,?_⟩
 refine⟨y,_,I.aal (its':=AQ.eraseIdx k) a e ?_ (r.eraseIdx k) ?_,c,q⟩
 ·show AQ.toArray.eraseIdxIfInBounds k=(AQ.eraseIdx k).toArray;rw[List.eraseIdxIfInBounds_toArray]
 ·have:=Mi xs k;omega
end
section
variable{X:Cx}
end
end L2
namespace L2
section
variable [DecidableEq κ]
def CK(AO:Y (κ×V))(k:κ):S V:=(AO.find? λa=>decide (a.1=k)).map (·.2)
def BD(AO:Y (κ×V))(k:κ)(v:V):Y (κ×V):=
 if(AO.any λa=>decide (a.1=k))=true then AO.map (λa=>if a.1=k then(a.1,v)else a)else AO++[(k,v)]
theorem z8{p:κ×V}{r:Y (κ×V)}{k:κ}(e:p.1=k):CK (p::r) k=O p.2:=by simp[CK,kQ,e]
theorem z9{p:κ×V}{r:Y (κ×V)}{k:κ}(e:¬ p.1=k):CK (p::r) k=CK r k:=by simp[CK,kQ,e]
theorem Q8(k:κ):∀AO:Y (κ×V),(AO.any λa=>decide (a.1=k))=(CK AO k).isSome
 |[]=>rfl
 |p::r=>by
  rw[ky];by_cases e:p.1=k
  ·simp only[z8 e,ZH e,Bool.true_or,ym]
  ·rw[z9 e,ZN e,Bool.false_or];exact Q8 k r
theorem pC(AO:Y (κ×V))(k:κ)(v:V):(BD AO k v).length<=AO.length+1:=by
 unfold BD;split
 ·rw[zt];omega
 ·rw[zw,Z3,List.length_nil];omega
theorem Hf.CN{o:S V}{u:S A0}(r:Hf o u):o.isSome=u.isSome:=by
 cases o with
 |none=>cases u with
  |none=>rfl
  |some _=>exact(show False from r).elim
 |some _=>cases u with
  |none=>exact(show False from r).elim
  |some _=>rfl
theorem KV.val{AO:Y (κ×V)}{vs:Y (κ×A0)}(r:KV AO vs)(k:κ):Hf (CK AO k) (valueAt vs k):=by
 unfold KV at r
 induction r with
 |nil=>exact True.intro
 |@cons p q ps a h t c=>
  obtain⟨h1,h2⟩:=h;by_cases e:p.1=k
  ·have e':q.1=k:=h1.symm.trans e;have b:valueAt (q::a) k=O q.2:=by simp[valueAt,kQ,e']
   rw[z8 e,b];exact h2
  ·have e':¬ q.1=k:=λz=>e (h1.trans z);have b:valueAt (q::a) k=valueAt a k:=by simp[valueAt,kQ,e']
   rw[z9 e,b];exact c
theorem KV.any{AO:Y (κ×V)}{vs:Y (κ×A0)}(r:KV AO vs)(k:κ):(AO.any λa=>decide (a.1=k))=vs.any λa=>decide (a.1=k):=by
 unfold KV at r
 induction r with
 |nil=>rfl
 |cons h t b=>rw[ky,ky,b,h.1]
theorem KV.repl{AO:Y (κ×V)}{vs:Y (κ×A0)}(r:KV AO vs)(k:κ){y:V}(c:Au y u):
  KV (AO.map λa=>if a.1=k then(a.1,y)else a) (vs.map λa=>if a.1=k then(a.1,u)else a):=by
 unfold KV at r ⊢
 induction r with
 |nil=>exact .nil
 |@cons p q ps d h t b=>
  rw[zo,zo];refine .cons ?_ b;obtain⟨h1,h2⟩:=h;by_cases e:p.1=k
  ·rw[zr e,zr (h1.symm.trans e)];exact⟨h1,c⟩
  ·rw[zI e,zI (λz=>e (h1.trans z))];exact⟨h1,h2⟩
theorem KV.put{AO:Y (κ×V)}{vs:Y (κ×A0)}(r:KV AO vs)(k:κ){y:V}(a:Au y u):KV (BD AO k y) (stored vs k u):=by
 unfold BD stored;rw[r.any k];by_cases e:(vs.any λb=>decide (b.1=k))=true
 ·rw[zr e,zr e];exact r.repl k a
 ·rw[zI e,zI e];exact Paired.snoc r ⟨rfl,a⟩
theorem KV.length{AO:Y (κ×V)}{vs:Y (κ×A0)}(r:KV AO vs):AO.length=vs.length:=Paired.length r
end
theorem Hr{k:AY}(r:Au (kV k) u):(bF P w).is k u=true:=by
 cases k with
 |inl i=>obtain⟨t,e⟩:=(show ∃t,u=Value.int i t from r);subst e;exact QT P w i t
 |inr x=>obtain⟨t,e⟩:=(show ∃t,u=Value.str x t from r);subst e;exact QW P w x t
theorem Ml{P:A3}{w:A4}:∀{ks:Y AY} {us:Y A0},AX (ks.map kV) us->ItemsAre (bF P w) ks us
 |[],_,r=>by rw[ko]at r;cases r;exact .nil
 |k::ks,_,r=>by
  rw[zo]at r;cases r with
  |cons h t=>exact .cons (Hr h) (Ml t)
abbrev KT(H:Hp):Y (Y AY×V)->Y (Y AY×A1×A0)->Prop:=AI λp q=>p.1=q.1/\H q.2.1=O (.tup (p.1.map kV))/\Au p.2 q.2.2
theorem KT.val{H:Hp}{AO:Y (Y AY×V)}{xs:Y (Y AY×A1×A0)}(r:KT H AO xs)(k:Y AY):Hf (CK AO k) ((atKey xs k).map (·.2)):=by
 induction r with
 |nil=>exact True.intro
 |@cons p q ps a h t c=>
  obtain⟨h1,_,h2⟩:=h;by_cases e:p.1=k
  ·have e':q.1=k:=h1.symm.trans e;have b:atKey (q::a) k=O q.2:=by simp[atKey,kQ,e']
   rw[z8 e,b];exact h2
  ·have e':¬ q.1=k:=λz=>e (h1.trans z);have b:atKey (q::a) k=atKey a k:=by simp[atKey,kQ,e']
   rw[z9 e,b];exact c
theorem KT.repl{H:Hp}{AO:Y (Y AY×V)}{xs:Y (Y AY×A1×A0)}(r:KT H AO xs)(k:Y AY){y:V}(d:Au y u):
  KT H (AO.map λa=>if a.1=k then(a.1,y)else a) (xs.map (putAt k u)):=by
 induction r with
 |nil=>exact .nil
 |@cons p q ps f h t b=>
  rw[zo,zo];refine .cons ?_ b;obtain⟨h1,h2,c⟩:=h;unfold putAt;by_cases e:p.1=k
  ·rw[zr e,zr (h1.symm.trans e)];exact⟨h1,h2,d⟩
  ·rw[zI e,zI (λz=>e (h1.trans z))];exact⟨h1,h2,c⟩
theorem KT.put{H:Hp}{AO:Y (Y AY×V)}{xs:Y (Y AY×A1×A0)}(r:KT H AO xs)(k:Y AY){b:A1}{y:V}(hb:H b=O (.tup (k.map kV)))(a:Au y u):
  KT H (BD AO k y) (storedH xs k b u):=by
 have e:(AO.any λc=>decide (c.1=k))=(atKey xs k).isSome:=by
  rw[Q8,(r.val k).CN,Option.isSome_map]
 unfold BD storedH;rw[e];by_cases q:(atKey xs k).isSome=true
 ·rw[zr q,zr q];exact r.repl k a
 ·rw[zI q,zI q];exact Paired.snoc r ⟨rfl,hb,a⟩
theorem KT.keeps{H H':Hp}{AO:Y (Y AY×V)}{xs:Y (Y AY×A1×A0)}(r:KT H AO xs)(a:∀b ys,H b=O (.tup ys)->H' b=O (.tup ys)):KT H' AO xs:=
 Paired.acV r λ_ _ z=>⟨z.1,a _ _ z.2.1,z.2.2⟩
section
variable{H:Hp}
theorem MB{u:HO}(ok:zW P w H h)(e:Rd H a u):iY P w H h a u:=e.ok ok
theorem vU{AO:Y (AY×V)}(ok:zW P w H h)(e:Rd H a (.dK AO)):AO.length<=AA/\(a==sysModules)=false/\∃vs,KV AO vs/\h.DictOf (bF P w) a vs:=
 show iY P w H h a (.dK AO) from MB ok e
theorem HL{AO:Y (AY×V)}(ok:zW P w H h)(e:H a=O (.dK AO)):AO.length<=AA/\(a==sysModules)=false/\∃vs,KV AO vs/\h.DictOf (bF P w) a vs:=vU ok (.inl e)
theorem Ol{ks:Y AY}(ok:zW P w H h)(e:H a=O (.tup (ks.map kV))):(tupleKind (bF P w)).is h ks a:=by
 obtain⟨_,AQ,r,o,h1,h2,⟨n,b⟩,_⟩:=(show iY P w H h a (.tup (ks.map kV)) from ok a _ e);exact⟨o,AQ.toArray,n,h1,h2,b,by simpa using Ml r⟩
theorem WD{AO:Y (Y AY×V)}(ok:zW P w H h)(e:Rd H a (.dT AO)):AO.length<=AA/\(a==sysModules)=false ∧
  ∃xs,KT H AO xs/\h.DictOfH (tupleKind (bF P w)) a xs:=by
 obtain⟨z,y,xs,r,o,es,ep,h1,h2,g,d,c⟩:=(show iY P w H h a (.dT AO) from MB ok e);refine⟨z,y,xs,r,o,es,ep,h1,h2,g,d,λx hx=>?_,c⟩;have all:∀{l:Y (Y AY×V)} {m:Y (Y AY×A1×A0)},KT H l m->∀x∈m,(tupleKind (bF P w)).is h x.1 x.2.1:=by
  intro l m q
  induction q with
  |nil=>intro x hx;exact nomatch hx
  |@cons p q ps i b t f=>
   intro x hx;rcases List.mem_cons.mp hx with e|hx
   ·subst e;exact Ol ok (by rw[<-b.1];exact b.2.1)
   ·exact f x hx
 exact all r x hx
theorem TU{AO:Y (Y AY×V)}(ok:zW P w H h)(e:H a=O (.dT AO)):AO.length<=AA/\(a==sysModules)=false ∧
  ∃xs,KT H AO xs/\h.DictOfH (tupleKind (bF P w)) a xs:=WD ok (.inl e)
end
def ES(H:Hp)(a:A1)(y:V)(r:S V):Prop:=
 (∃AO k,Rd H a (.dK AO)/\y=kV k/\r=CK AO k)\/∃AO k b,Rd H a (.dT AO)/\y=.ref b/\H b=O (.tup (k.map kV))/\r=CK AO k
def EU(H:Hp)(a:A1)(y v:V)(H':Hp):Prop:=
 (∃AO k,H a=O (.dK AO)/\y=kV k/\AO.length<AA/\H'=B6 H a (.dK (BD AO k v))) ∨
 ∃AO k b,H a=O (.dT AO)/\y=.ref b/\H b=O (.tup (k.map kV))/\AO.length<AA/\H'=B6 H a (.dT (BD AO k v))
theorem EU.k{H:Hp}{a:A1}{AO:Y (AY×V)}{k:AY}{v:V}(e:H a=O (.dK AO))(b:AO.length<AA):EU H a (kV k) v (B6 H a (.dK (BD AO k v))):=.inl ⟨AO,k,e,rfl,b,rfl⟩
section
variable{X:Cx}{σ:St}{H:Hp}{y v:V}{r:A0}{o:S V}
theorem AU.big(I:AU X AN σ H s):sysModules<s.heap.objs.size:=by
 have h:mainGlobals<s.heap.objs.size:=(I.mod.glob.keeps I.bk).lt;exact Nat.lt_trans (by decide) h
theorem Ys{Q:B8}(q:A.units+1<cLine)(I:AU X AN σ H s)(g:ES H a y (O v))(n:Au y u)(h:∀c s',AU X AN σ H s'->Au v c->Q c s'):
  A7 (A8 X.prog X.w) A (getItem (.ref a) u) Q E s:=by
 rcases g with⟨AO,k,e,m,l⟩|⟨AO,k,b,e,m,eb,l⟩
 ·subst m;obtain⟨z,hd,vs,i,f⟩:=vU I.hok e;obtain⟨c,j,d⟩:=Hf.some_of (v:=v) (o:=valueAt vs k) (by rw[l];exact i.val k);exact wpAny_getItem_of (Hr n) f.mapOf j (h c _ (I.tok _) d)
 ·subst m;cases(show u=Value.ref b from n);obtain⟨z,hd,xs,i,f⟩:=WD I.hok e;obtain⟨c,j,d⟩:=Hf.some_of (v:=v) (o:=(atKey xs k).map (·.2)) (by rw[l];exact i.val k);obtain⟨p,hp,t⟩:=Option.map_eq_some_iff.mp j;refine wpAny_getItem_heap (tupleKind_room_in1 q) (Ol I.hok eb) f hp ?_;rw[t];exact h c _ (I.tok _) d
theorem dS{Q:B8}(j:A.units+1<cLine)(I:AU X AN σ H s)(g:ES H a y o)(i:Au y u)(h:∀s',AU X AN σ H s'->Q (.bool (!o.isSome)) s'):
  A7 (A8 X.prog X.w) A (AG .NotIn u (.ref a)) Q E s:=by
 rcases g with⟨AO,k,e,f,l⟩|⟨AO,k,b,e,f,eb,l⟩
 ·subst f;obtain⟨z,hd,vs,d,c⟩:=vU I.hok e;refine wpAny_notIn_of (Hr i) hd c.mapOf ?_;rw[<-(d.val k).CN,<-l];exact h _ (I.tok _)
 ·subst f;cases(show u=Value.ref b from i);obtain⟨z,hd,xs,d,c⟩:=WD I.hok e;refine wpAny_notIn_heap (tupleKind_room_in1 j) (Ol I.hok eb) hd c ?_;have q:=(d.val k).CN;rw[Option.isSome_map]at q;rw[<-q,<-l];exact h _ (I.tok _)
theorem Gq{h':A6}{t':Nat}{c:HO}(I:AU X AN σ H s)(d:F0 (H a))(hs:Heap.SameBut a s.heap h')(he:∃q,h'.get? a=O q)(new:iY X.prog X.w (B6 H a c) h' a c):
  AU X AN σ (B6 H a c) { s with heap:=h',toks:=t' }:=
 I.write (x:=a) (e:=a) d (.inl Y2) (λb q hb z=>(hs.2 b hb).trans z) he new
theorem U0{H':Hp}{h':A6}{AO:Y (AY×V)}{vs:Y (AY×A0)}(z:AO.length<=AA)(hd:(a==sysModules)=false)(c:KV AO vs)(b:h'.DictOf (bF P w) a vs):
  iY P w H' h' a (.dK AO):=⟨z,hd,vs,c,b⟩
theorem Yt{H':Hp}{Q:Unit->A2->Prop}(G:A.units+1<cLine)(I:AU X AN σ H s)(g:EU H a y v H')(B:Au y u)(t:Au v r)(h:∀s',AU X AN σ H' s'->Q () s'):
  A7 (A8 X.prog X.w) A (setItem (.ref a) u r) Q E s:=by
 rcases g with⟨AO,k,e,p,l,j⟩|⟨AO,k,b,e,p,eb,l,j⟩
 ·subst p j;obtain⟨z,hd,vs,d,o⟩:=HL I.hok e;have n:vs.length<=AA:=by rw[<-d.length];exact z
  have m:(BD AO k v).length<=AA:=by have:=pC AO k v;omega
  refine wpAny_setItem_pairs (hsz:=n) (Hr B) o λh' f hs=>h _ ?_;have F:∃q,h'.get? a=O q:=let ⟨q,_,_,i,_⟩:=f;⟨q,i⟩;exact Gq I (by rw[e];exact True.intro) hs F (U0 m hd (d.put k t) f)
 ·subst p j;cases(show u=Value.ref b from B);obtain⟨z,hd,xs,d,o⟩:=TU I.hok e;have n:xs.length<=AA:=by rw[<-Paired.length d];exact z
  have m:(BD AO k v).length<=AA:=by have:=pC AO k v;omega
  refine wpAny_setItem_heap (hsz:=n) (tupleKind_room_in1 G) (Ol I.hok eb) o λh' f hs=>h _ ?_;obtain⟨q,es,ep,i,h2,J,D,_,C⟩:=f;refine Gq I (by rw[e];exact True.intro) hs ⟨q,i⟩ ⟨m,hd,_,(d.put k eb t).keeps λc ys x=>?_,q,es,ep,i,h2,J,D,C⟩;rw[aR (qw x e (λz=>nomatch z))];exact x
end
section
variable{X:Cx}{σ:St}{H:Hp}{AO:Y (AY×V)}{k:AY}
end
def Ha(i:Expr):Prop:=∀a iv,subscripted i false a iv=operate [a,iv] (getItem a iv)
theorem SU{value a:Expr}{T id:String}{Q:B8}(j:typeLookup (.type T) "__getitem__"=pure (O (.builtin id)))(hs:Ha a)(h:A7 (A8 prog w) A (eval value env) (λo e=>A7 (A8 prog w) A (eval a env) (λi b=>b.TypeIs o T/\A7 (A8 prog w) A (getItem o i) Q E b) E e) E s):
  A7 (A8 prog w) A (eval (.Subscript value a pos) env) Q E s:=by
 refine Subscript_ (QN h (λo e m=>QN m (λi b c=>?_) λ_ _ x=>x) λ_ _ x=>x);obtain⟨f,c⟩:=c;unfold subscriptTail;refine zd ?_;rw[getitemInPython_of_ne f.not_modules];refine zd (wpAny_specialOf f j ?_);have d:A7 (A8 prog w) A (subscripted a false o i) (λr g=>A7 (A8 prog w) A (letTemporaryGo value o r >>= λ_=>pure r) Q E g) E b:=by
  rw[hs o i];exact wpAny_operating (QN c (λr g l=>zd (wpAny_letTemporaryGo (zg l))) λ_ _ x=>x)
 first
  |exact zg (zd d)
  |exact zd (zg (zd d))
  |exact zd d
theorem Q9{X:Cx}{σ:St}{H:Hp}{y:V}{o:S V}(I:AU X AN σ H s)(g:ES H a y o):s.TypeIs (.ref a) "dict":=by
 rcases g with⟨AO,k,e,_,_⟩|⟨AO,k,b,e,_,_,_⟩
 ·obtain⟨_,_,vs,_,c⟩:=vU I.hok e;exact c.typeIs
 ·obtain⟨_,_,xs,_,c⟩:=WD I.hok e;exact c.typeIs
def gu(td ty:TE):TE:=λσ H Q=>td σ H λx H1=>ty σ H1 λy H2=>∃a v,x=.ref a/\ES H2 a y (O v)/\Q v H2
def XW(td ty tv:TE):TS:=λD σ H=>tv σ H λv H1=>td σ H1 λx H2=>ty σ H2 λy c=>∃a b,x=.ref a/\EU c a y v b/\D.nx σ b
section
variable{X:Cx}{o i value:Expr}{pos':Pos}{td ty tv:TE}
theorem c5(d:X.A.units+1<cLine)(e:PE X o td)(hi:PE X i ty)(hs:Ha i):PE X (.Subscript o i pos) (gu td ty):=by
 intro AN s σ H Q I h;refine SU PySem.F.slot_dict_getitem.lookup hs (iZ (e AN s σ H _ I h) λu s1 ⟨x,H1,I1,rx,q1⟩=>iZ (hi AN s1 σ H1 _ I1 q1) λiv s2 ⟨y,H2,I2,ry,a,v,ex,g,q2⟩=>?_);subst ex;obtain rfl:u=Value.ref a:=rx;exact⟨Q9 I2 g,Ys d I2 g ry λf j c b=>⟨v,H2,c,b,q2⟩⟩
theorem eK(c:X.A.units+1<cLine)(e:PE X o td)(hi:PE X i ty)(b:PE X value tv)(hs:swapsWith value (O (.Subscript o i pos')) pos.line X.env=pure false):
  PS X (.Assign [.Subscript o i pos'] value pos) (XW td ty tv):=by
 intro AN s σ H D I h;refine wpAny_Assign_Subscript (iZ (b AN s σ H _ I h) λr s1 ⟨v,H1,I1,rv,q1⟩=>iZ (e AN s1 σ H1 _ I1 q1) λu s2 ⟨x,H2,I2,rx,q2⟩=>iZ (hi AN s2 σ H2 _ I2 q2) λiv s3 ⟨y,H3,I3,ry,a,H4,ex,g,q3⟩=>?_) hs;subst ex;obtain rfl:u=Value.ref a:=rx;exact Yt c I3 g ry rv λf d=>⟨σ,H4,d,q3⟩
end
theorem Ht{H:Hp}(h:A6)(hb:sysModules<h.objs.size):iY P w H (h.push { cls:=.type "dict",data:=.dict #[] }) h.objs.size (.dK []):=
 ⟨QU _,beq_eq_false_iff_ne.mpr (KB (z4 hb)),[],.nil,Heap.DictOf.new h⟩
section
variable{X:Cx}
end
def U3:Y (TE×TE)->St->Hp->(Y (V×V)->Hp->Prop)->Prop
 |[],_,H,Q=>Q [] H
 |(tk,tv)::r,σ,H,Q=>tk σ H λx H1=>tv σ H1 λy H2=>U3 r σ H2 λps a=>Q ((x,y)::ps) a
abbrev VV:Y (V×V)->Y (A0×A0)->Prop:=AI λp q=>Au p.1 q.1/\Au p.2 q.2
def Fa(X:Cx)(pos:Pos)(b:Y (S Expr))(c:Y Expr)(a:Y (TE×TE)):Prop:=
 ∀(AN:Y (A1×AE)) (s:A2) (σ:St) (H:Hp) (Q:Y (V×V)->Hp->Prop),AU X AN σ H s->U3 a σ H Q →
  A7 (A8 X.prog X.w) X.A (evalPairs (pairTrees b c X.env pos)) (λvs s'=>∃ps H',AU X AN σ H' s'/\VV ps vs/\Q ps H') X.xe s
theorem io{X:Cx}:Fa X pos [] [] []:=λAN s σ H Q I h=>pairTrees_nil_walk ⟨[],H,I,.nil,h⟩
theorem g7{X:Cx}{k v:Expr}{ks:Y (S Expr)}{vs:Y Expr}{tk tv:TE}{a:Y (TE×TE)}(b:PE X k tk)(c:PE X v tv)(d:Fa X pos ks vs a):
  Fa X pos (O k::ks) (v::vs) ((tk,tv)::a):=λAN s σ H Q I h=>
 pairTrees_cons_walk (iZ (b AN s σ H _ I h) λu s1 ⟨x,H1,I1,rx,q1⟩=>iZ (c AN s1 σ H1 _ I1 q1) λw2 s2 ⟨y,H2,I2,ry,q2⟩=>
  iZ (d AN s2 σ H2 _ I2 q2) λws s3 ⟨ps,H3,I3,rel,q3⟩=>⟨(x,y)::ps,H3,I3,.cons ⟨rx,ry⟩ rel,q3⟩)
def CP(AO more:Y (AY×V)):Y (AY×V):=more.foldl (λb a=>BD b a.1 a.2) AO
theorem KV.merge:∀{more:Y (AY×V)} {rs:Y (AY×A0)} {AO:Y (AY×V)} {vs:Y (AY×A0)},KV more rs->KV AO vs->KV (CP AO more) (merged vs rs):=by
 intro more rs AO vs r;unfold KV at r
 induction r generalizing AO vs with
 |nil=>intro q;exact q
 |@cons p q ps c h t a=>
  intro b;have e:KV (BD AO p.1 p.2) (stored vs q.1 q.2):=by
   have:=b.put p.1 h.2;rw[<-h.1];exact this
  exact a e
theorem yN:∀(more AO:Y (AY×V)),(CP AO more).length<=AO.length+more.length
 |[],AO=>by show AO.length<=AO.length+0;omega
 |p::r,AO=>by
  have h1:=yN r (BD AO p.1 p.2);have h2:=pC AO p.1 p.2;show(CP (BD AO p.1 p.2) r).length<=_;rw[Z3];omega
theorem Hu{P:A3}{w:A4}:∀{AO:Y (AY×V)} {d:Y (A0×A0)},VV (AO.map λe=>(kV e.1,e.2)) d->∃rs,Carries (bF P w) d rs/\KV AO rs
 |[],_,r=>by rw[ko]at r;cases r;exact⟨[],True.intro,.nil⟩
 |p::AO,_,r=>by
  rw[zo]at r;cases r with
  |@cons a b as bs h t=>
   obtain⟨rs,c,q⟩:=Hu (P:=P) (w:=w) t;obtain⟨b1,b2⟩:=b;exact⟨(p.1,b2)::rs,⟨Hr h.1,rfl,c⟩,.cons ⟨rfl,h.2⟩ q⟩
def cS(b:Y (TE×TE)):TE:=λσ H Q=>∀p,H p=Y3->U3 b σ (B6 H p (.dK [])) λps H2=>H2 p=O (.dK [])/\∃AO:Y (AY×V),ps=AO.map (λa=>(kV a.1,a.2))/\AO.length<=15/\Q (.ref p) (B6 H2 p (.dK (CP [] AO)))
theorem Sz{X:Cx}{b:Y (S Expr)}{d:Y Expr}{f:Y (TE×TE)}(h:Fa X pos b d f)(x:b.all (·.isSome)=true)(i:b.length=d.length)(h0:b≠[])(l:b.length<=15):PE X (.Dict b d pos) (cS f):=by
 intro AN s σ H Q I q;have p:=I.hok.fresh (zk s.heap.objs.size);have t:=I.laid (a:=s.heap.objs.size) (o:=.dK []) (h':=s.heap.push { cls:=.type "dict",data:=.dict #[] }) (t':=s.toks) (λ_ _ q=>ze _ q) (zk _) (Ht s.heap I.big);refine wpAny_Dict_walk (knd:=bF X.prog X.w) x i h0 l (iZ (h AN _ σ _ _ t (q _ p)) λws s2 ⟨ps,H2,I2,rel,e,AO,ep,lk,q2⟩=>?_);subst ep;obtain⟨j,c,rk⟩:=Hu (P:=X.prog) (w:=X.w) rel;obtain⟨z,hd,y,v,u⟩:=HL I2.hok e;cases v;refine⟨j,c,u,λh' g hs=>⟨.ref s.heap.objs.size,_,?_,rfl,q2⟩⟩;have m:(CP [] AO).length<=AA:=by
  have h1:=yN AO [];rw[List.length_nil]at h1;rw[sizeLine_eq];omega
 have n:∃q,h'.get? s.heap.objs.size=O q:=let ⟨q,_,_,hq,_⟩:=g;⟨q,hq⟩;exact Gq I2 (by rw[e];exact True.intro) hs n (U0 m hd (rk.merge .nil) g)
structure M1 (X:Cx) (o:Expr) (m:Str) (apos:Pos) (e:Expr) (cpos:Pos):Prop where
 base:attributeBase o m X.env (eval o X.env)=eval o X.env
 few:((backTo cpos (starEach [e] X.env)).all (λx=>!x.1)&&(backToKw cpos (keywordEach [] X.env)).all (λx=>x.1.isSome)
  && decide (([e]:List Expr).length+([]:List Keyword).length+(if([]:List Keyword).isEmpty then 0 else 1)<30))=true
 line:(apos.endLine==cpos.line)=true
 trees:backTo cpos (starEach [e] X.env)=[(false,eval e X.env)]
structure M2 (X:Cx) (o:Expr) (m:Str) (apos:Pos) (e f:Expr) (cpos:Pos):Prop where
 base:attributeBase o m X.env (eval o X.env)=eval o X.env
 few:((backTo cpos (starEach [e,f] X.env)).all (λx=>!x.1)&&(backToKw cpos (keywordEach [] X.env)).all (λx=>x.1.isSome)
  && decide (([e,f]:List Expr).length+([]:List Keyword).length+(if([]:List Keyword).isEmpty then 0 else 1)<30))=true
 line:(apos.endLine==cpos.line)=true
 trees:backTo cpos (starEach [e,f] X.env)=[(false,eval e X.env),(false,eval f X.env)]
section
variable{X:Cx}{σ:St}{H:Hp}{y d:V}{r:A0}{o:S V}
end
section
variable{X:Cx}{o f:Expr}{td ty tx:TE}
end
section
variable{X:Cx}{σ:St}{H:Hp}{AO:Y (AY×V)}
end
section
variable{X:Cx}{σ:St}{H:Hp}{y:V}
end
end L2
namespace Att
open PySem PySem.W PySem.Calls PyProof.Rows
theorem Fj{P:Params}:∀(c:Y Int) (vs:Y A0),WellAll P h vs (c.map WData.int)->IntsAre vs c:=by
 intro c
 induction c with
 |nil=>
  intro vs w;rw[ko]at w;cases w;exact .nil
 |cons n c d=>
  intro vs w;rw[zo]at w;cases w with
  |cons a b=>
   cases a;exact .cons _ _ (d _ b)
theorem Yu{l:OpenLaw}(s:l.most=O n){P:Params}{args:Y WData}{g:Y A0}(i:l.row.toRowW.claim.pre args=true)(p:WellAll P h g args):
  ∃a vs b,g=[Value.ref a]/\args=[WData.list (b.map WData.int)]/\h.get? a=O { cls:=.type "list",data:=.seq vs.toArray }/\IntsAre vs b/\b.length<=n:=by
 have u:WShape.hasAll [] args [.list .int]=true:=(pre_splitW i).1;have f:l.pre.holds [] { args:=args }=true:=(pre_splitW i).2;obtain⟨d,r,rfl,h1,h2⟩:=hasAllW_cons u;obtain rfl:=hasAllW_nil h2;obtain⟨xs,rfl,v⟩:=hasW_list h1;obtain⟨b,rfl⟩:=items_int v;have j:b.length<=n:=by
  unfold OpenLaw.pre at f;have e:(WTm.not (.lt (.lit (.int (n:Int))) (.len (.arg 0)))).holds [] { args:=[.list (b.map .int)] }=true:=by
   have e:=(holds_andW f).1;rw[s]at e;exact e
  have c:=condW_of e (w_not (w_lt w_lit (w_len_list (w_arg Y2))));rw[zt]at c;refine Nat.le_of_not_lt λq=>?_;have o:(n:Int)<((b.length:Nat):Int):=by omega
  first
   |(rw[ZH o]at c;exact absurd c (by decide))
   |(simp at c;omega)
 cases p with
 |cons t m=>
  cases m;cases t with
  |list x w=>exact⟨_,_,b,rfl,rfl,x,Fj b _ w,j⟩
theorem Yv(l:OpenLaw)(args:Y WData):l.row.toRowW.claim.post args (.bool true) args=true:=
 postW_of (r:=l.row.toRowW) (X:=(true==true))
  (show WShape.has [] (.bool true) .bool=true by first|rfl|decide|simp[WShape.has,WShape.arms,WShape.armsAll])
  (show(WTm.eq .res (.lit (.bool true))).value [] { args:=args,res:=O (.bool true),after:=args }=O (.bool (true==true)) from w_eq_bool (w_res Y2) w_lit) rfl
theorem Ra{l:OpenLaw}{q:A3}{loose:AZ}{d:DefRec}(I:l.most=O n)(v:d.params.defaults=[])(call:∀(w:A4) (j b:A2) (mg g:AJ->S A0) (fa:A1) (o:AE) (i c h:A0) (a:A1) (vs:List A0) (e:List Int),
   Ground q loose [] XP w j mg g b.heap->YP w b.heap →
   b.heap.get? fa=O o->o.data=.func (docDef d.name d.params d.body d.scope i c h)->b.heap.CodeRec c d.name->mg d.name=O (.ref fa) →
   b.heap.get? a=O { cls:=.type "list",data:=.seq vs.toArray }->IntsAre vs e->e.length<=n->b.gens=#[] →
   AF (A8 l.prog w) callerA (.call (.ref fa) ⟨[.ref a],[]⟩) (λr s'=>r=.ok (.ret (.bool true))/\OldK b.heap s'.heap/\s'.os=b.os/\AllBare s'.gens) b):
  WalkO q loose XP YP l.row.toRowW d [] (λf vs=>PySem.call f vs):=by
 intro w j b mg g G Y fa o i c h y kV B hd z m F C N J as E M K D L;obtain rfl:y=.none:=Dflts.none m v;obtain rfl:kV=.none:=Dflts.noKw m;obtain⟨a,vs,e,rfl,rfl,p,u,x⟩:=Yu I E D;refine enter_call (codeAny_mono (call w j b mg g fa o i c h a vs e G Y B (fd_plain hd) z F p u x C) λr s' H=>?_);obtain⟨rfl,h2,A,s⟩:=H;exact⟨.inl ⟨.bool true,.bool true,[],rfl,λ_=>Y2,.bool true,Yv l _,λ_=>⟨List.Pairwise.nil,λ_ t=>(nomatch t)⟩⟩,h2,A,s⟩
section
variable{K:Frag}
end
end Att
namespace L2
theorem xY:∀{vs:Y A0} {a:Y Int},IntsAre vs a->AX (a.map V.int) vs
 |_,_,.nil=>.nil
 |_,_,.cons n t h=>.cons ⟨t,rfl⟩ (xY h)
def CI(H:Hp):Prop:=∀b,H b=Y3\/∃o xs,H b=O (.tH o (.lst xs))
theorem Pe{l:AJ->S A0}{CX:ZL}{k:Nat}{fa:A1}{sp:Sp}{c:A2}{vs:Y A0}{g:Y Int}(y:K.In c.heap)(D:c.heap.Ns mainGlobals mg)(hb:c.heap.Ns builtinsNs l)(M:∀x:AJ,x ≠ "__name__" → l x=AH x)(a0:c.heap.NoLimit)(hg:c.gens=#[])(i:c.heap.get? a=O { cls:=.type "list",data:=.seq vs.toArray })(hi:IntsAre vs g)(t:g.length<=AA)(hr:pB k callerA)(F:∀base:A6,K.In base->base.Ns mainGlobals mg->uP P w K mg base CX k fa fd [x] sp)(X:∀(s:A2) (u:A0),BindsTo s fd ⟨[u],[]⟩ [(x,u)])(U:∀H:Hp,CI H->uN K H a (g.map V.int)->sp [.ref a] H (λv _=>v=.bl true) λ_ _ _=>False)(a2:∀H e s',CX [] H c (λ_ _ _=>False) e s'->False):
  AF (A8 P w) callerA (.call (.ref fa) ⟨[.ref a],[]⟩) (λr s'=>r=.ok (.ret (.bool true))/\OldK c.heap s'.heap/\s'.os=c.os/\AllBare s'.gens) c:=by
 have I:=xY hi;have a1:=hi.length;have A:∀H:Hp,CI H->uN K H a (g.map V.int)->zW P w H c.heap->(∀b,H b≠Y3->b=a)->(H a≠Y3->K.lookup a=Y3) →
   AF (A8 P w) callerA (.call (.ref fa) ⟨[.ref a],[]⟩) (λr s'=>r=.ok (.ret (.bool true))/\OldK c.heap s'.heap/\s'.os=c.os/\AllBare s'.gens) c:=by
  intro H J hS G C N;have B:∀{b:A1} {o:AE},c.heap.get? b=O o->H b=Y3->(N8 c.heap H).get? b=O o:=λe n=>ZX e n;have L:∀{b:A1} {o:AE} {es:Array DictEntry} {ep:Nat},c.heap.get? b=O o->o.data=.dict es ep->H b=Y3:=λ{b o es ep} e d=>by
   cases q:H b with
   |none=>rfl
   |some u=>
    have e':b=a:=C b (by rw[q];simp);subst e';rw[i]at e;cases e;have W:Data.seq vs.toArray _=Data.dict es ep:=d;cases W
  have j:∀{b:A1} {m:AJ->S A0},c.heap.Ns b m->(N8 c.heap H).Ns b m:=λ{b m} ⟨o,es,ep,e,d,r⟩=>⟨o,es,ep,B e (L e d),d,r⟩;have E:K.In (N8 c.heap H):=λb o e=>B (y b o e) (by
   cases q:H b with
   |none=>rfl
   |some u=>
    have e':b=a:=C b (by rw[q];simp);subst e';rw[N (by rw[q];simp)]at e;cases e)
  have Q:Mod K mg (N8 c.heap H):=⟨E,j D,⟨l,j hb,M⟩,let ⟨mc,h1,h2⟩:=a0;⟨mc,j h1,h2⟩⟩;have e0:G2 P w K mg (N8 c.heap H) callerA [] c H:=⟨rfl,Q,λb o e=>UY e,Nat.le_of_eq (Yj _ _),trivial,λb hb=>absurd (show b∈([]:Y A1) from hb) (by simp),G,.of_eq hg⟩;refine codeAny_mono ((F _ E (j D)).run callerA [] c H ⟨[.ref a],[]⟩ [.ref a] [.ref a] _ _ hr e0 (X c (.ref a)) (.cons Y2 .nil) (U H J hS)) λr s' h=>?_;cases r with
  |error e=>exact(a2 H e s' h).elim
  |ok fl=>
   cases fl with
   |next=>exact False.elim h
   |brk=>exact False.elim h
   |cont=>exact False.elim h
   |ret u=>
    obtain⟨v,H',os,a4,un,a3,r',q⟩:=h;have Z:v=.bl true:=q;subst Z;obtain rfl:u=Value.bool true:=r';refine⟨rfl,OldK.of_keep λb o e=>?_,os,a4⟩;cases q:H b with
    |none=>exact un.keep b o e q (by intro z;exact absurd (show b∈([]:Y A1) from z) (by simp)) (by simp)
    |some u=>
     rcases J b with z|⟨ob,xs,z⟩
     ·rw[q]at z;cases z
     ·have z2:=un.Fi b ob _ z;obtain⟨e1,_⟩:=G b _ z;obtain⟨e2,_⟩:=a3 b _ z2;rw[e]at e1;cases e1;exact e2
 cases p:K.lookup a with
 |some o=>
  have e:=y a o p;rw[i]at e;cases e;refine A (λ_=>Y3) (λ_=>.inl Y2) (.inr ⟨_,vs.toArray,_,p,rfl,rfl,rfl,by rw[zS,a1];exact t,by simpa using I⟩) (λb u z=>by have f:(Y3:S HO)=O u:=z;cases f) (λb z=>absurd Y2 z) λz=>absurd Y2 z
 |none=>
  refine A (λb=>if b=a then O (.tH { cls:=.type "list",data:=.seq vs.toArray } (.lst (g.map V.int)))else Y3) (λb=>?_) (.inl (.inr ⟨{ cls:=.type "list",data:=.seq vs.toArray },zr rfl⟩)) (λb u z=>?_) (λb z=>?_) λ_=>p
  ·by_cases hb:b=a
   ·exact .inr ⟨_,_,zr hb⟩
   ·exact .inl (zI hb)
  ·by_cases hb:b=a
   ·have f:=(zr hb).symm.trans z;cases f;subst hb;exact⟨i,by rw[zt];exact t,vs,_,I,i⟩
   ·have f:=(zI hb).symm.trans z;cases f
  ·by_cases hb:b=a
   ·exact hb
   ·exact absurd (zI hb) z
end L2
namespace L2
theorem WJ{l:PySem.W.OpenLaw}{k:Nat}{q:A3}{loose:AZ}{d:DefRec}{K:Params->B4}{CX:A4->ZL}{sp:A4->Sp}(M:l.most=O n)(C:n<=AA)(z:d.params.defaults=[])(B:pB k callerA)(L:∀(w:A4) (h:A6),YP w h->(K w.params).In h)(F:∀(w:A4) (mg:AJ->S A0) (fa:A1) (h:A6),(K w.params).In h->h.Ns mainGlobals mg->mg d.name=O (.ref fa) →
   ∃fd:FuncData,(∀(s:A2) (u:A0),BindsTo s fd ⟨[u],[]⟩ [(x,u)]) ∧
    ∀base:A6,(K w.params).In base->base.Ns mainGlobals mg->uP l.prog w (K w.params) mg base (CX w) k fa fd [x] (sp w))(t:∀(w:A4) (H:Hp) (a:A1) (c:List Int),c.length<=n->CI H->uN (K w.params) H a (c.map V.int)->sp w [.ref a] H (λv _=>v=.bl true) λ_ _ _=>False)(I:∀(w:A4) (H:Hp) (s:A2) (e:A0) (s':A2),CX w [] H s (λ_ _ _=>False) e s'->False):
  PySem.W.WalkO q loose XP YP l.row.toRowW d [] (λf vs=>PySem.call f vs):=by
 refine Att.Ra M z λw a0 m mg P fa o pm Z X a vs c G Y U hd Q E p y j D=>?_;have i:=L w _ Y;obtain⟨fd,hb,A⟩:=F w mg fa _ i G.T.g E;exact Pe i G.T.g G.T.b G.T.builtins G.T.nolimit D p y (ZI j C) B A hb (λH N J=>t w H a c j N J) λH e s'=>I w H m e s'
theorem SH{l:PySem.W.OpenLaw}{k:Nat}{q:A3}{loose:AZ}{d:DefRec}{K:Params->B4}{CX:ZL}{sp:B4->Sp}(j:l.most=O n)(t:n<=AA)(c:d.params.defaults=[])(o:pB k callerA)(i:∀(w:A4) (h:A6),YP w h->(K w.params).In h)(F:∀(w:A4) (mg:AJ->S A0) (fa:A1) (h:A6),(K w.params).In h->h.Ns mainGlobals mg->mg d.name=O (.ref fa) →
   ∃fd:FuncData,(∀(s:A2) (u:A0),BindsTo s fd ⟨[u],[]⟩ [(x,u)]) ∧
    ∀base:A6,(K w.params).In base->base.Ns mainGlobals mg->uP l.prog w (K w.params) mg base CX k fa fd [x] (sp (K w.params)))(m:∀(K:B4) (H:Hp) (a:A1) (b:Y Int),b.length<=n->CI H->uN K H a (b.map V.int)->sp K [.ref a] H (λv _=>v=.bl true) λ_ _ _=>False)(g:∀(H:Hp) (s:A2) (e:A0) (s':A2),CX [] H s (λ_ _ _=>False) e s'->False):
  PySem.W.WalkO q loose XP YP l.row.toRowW d [] (λf vs=>PySem.call f vs):=
 WJ (K:=K) (CX:=λ_=>CX) (sp:=λw=>sp (K w.params)) j t c o i F (λw H a b h1 h2 p=>m (K w.params) H a b h1 h2 p) λ_ H s e s'=>g H s e s'
end L2
namespace L2
def uQ(s:AB):Arguments:=match s with
 |.FunctionDef _ a _ _ _ _ _ _ _ _=>a
 |_=>{ posonlyargs:=[],args:=[],vararg:=Y3,kwonlyargs:=[],kw_defaults:=[],kwarg:=Y3,defaults:=[] }
def j4(s:AB):Y AB:=match s with
 |.FunctionDef _ _ b _ _ _ _ _ _ _=>b
 |_=>[]
def aQ(s:AB):Scope:=match s with
 |.FunctionDef _ _ _ _ _ _ a _ _ _=>a
 |_=>{ kind:=.function,names:=[],isGenerator:=false,isCoroutine:=false }
abbrev Kq:ZL:=λ_ _ _ _ _ _=>False
abbrev E0:XK:=λ_ _ _=>False
theorem N9{X:Cx}:C8 Kq X E0:=λ_ _ _ _ _ _ _ h=>h.elim
structure Cb (K:B4) (x qual:Str) (st:Stmt) (f:Addr) (fd:FuncData):Prop where
 ex:∃(oc:Value) (od:Option Addr) (kV doc pm:Value) (an:Option Addr) (cdv ct:Value) (osl:Array (Option Value)),
  fd=fnOf x qual (uQ st) (j4 st) (aQ st) .none kV doc pm an cdv ct/\K.lookup f=some ⟨oc,od,.func fd,osl⟩/\codeIn K cdv qual=true
 kp:keepIn K (.ref f)=true
theorem Cb.ok{st:AB}{f:A1}{k:Nat}{sp:Sp}(F:Cb K x qual st f fd)(S:bI N ps (aQ st))(len:∀vs H Q E,sp vs H Q E->vs.length=ps.length)(b:∀(a:A0) (A:A5) (outer:Y Env) (s:A2) (H:Hp) (vs:Y V) (Q:VK) (E:XK),pB k (A.deeper (AK qual (aQ st) s.heap.objs.size f a))->sp vs H Q E →
   ∃t,Uv (Hl Kq P w K mg base N qual (aQ st) f a A outer s H E).nox (j4 st) t/\t { nx:=λ_ H'=>Q .non H',rt:=Q } (start N vs) H):uP P w K mg base Kq (k+1) f fd ps sp:=by
 obtain⟨j,n,kV,i,m,l,a,ct,osl,rfl,c,g⟩:=F.ex;refine SI c g S len λA outer s H vs Q E e d=>?_;obtain⟨t,h,q⟩:=b a A outer s H vs Q E e d;exact⟨t,h.nox,q⟩
theorem Cb.binds{st:AB}{f:A1}(F:Cb K x qual st f fd)(h:∀(kV a c:A0) (b:S A1) (d ct:A0) (us:Y A0),us.length=ps.length->bindArgs (fnOf x qual (uQ st) (j4 st) (aQ st) .none kV a c b d ct) ⟨us,[]⟩=pure (ps.zip us)):BQ K fd ps []:=by
 obtain⟨e,g,kV,a,c,b,d,ct,osl,rfl,i,j⟩:=F.ex;exact .all (h kV a c b d ct)
theorem Mo{st:AB}{f:A1}{g:A0}{h d:S A1}{kV b e a ct:A0}(l:K.lookup f=O ⟨g,h,.func (fnOf x qual (uQ st) (j4 st) (aQ st) .none kV b e d a ct),osl⟩)(c:codeIn K a qual=true)(k:keepIn K (.ref f)=true):Cb K x qual st f (fnOf x qual (uQ st) (j4 st) (aQ st) .none kV b e d a ct):=⟨⟨g,h,kV,b,e,d,a,ct,osl,rfl,l,c⟩,k⟩
section
variable{X:Cx}
theorem pv(i:Nat)(b:X.N[i]?=O x:=by rfl)(c:ZK X.env.scope x:=by first|exact ku rfl|exact j3 (ku Y2)|exact j3 (j3 Y2))(hd:(x==("__debug__":AJ))=false:=by decide)(a:(x==("__classdict__":AJ))=false:=by decide):PE X (.Name x pos) (NL i):=wG b c hd a
end
def AV(H H':Hp):Prop:=∀b o,H b=O o->H' b=O o
theorem AV.refl(H:Hp):AV H H:=λ_ _ h=>h
theorem AV.trans{H H1 H2:Hp}(a:AV H H1)(b:AV H1 H2):AV H H2:=λc o h=>b c o (a c o h)
theorem AV.free{H H':Hp}(e:AV H H')(h:H' l=Option.none):H l=Option.none:=by
 cases q:H l with
 |none=>rfl
 |some o=>
  rw[e l o q]at h;cases h
theorem AV.seq{H H':Hp}{xs:Y V}(e:AV H H')(h:uN K H a xs):uN K H' a xs:=by
 rcases h with (h|⟨o,h⟩)|h
 ·exact .inl (.inl (e _ _ h))
 ·exact .inl (.inr ⟨o,e _ _ h⟩)
 ·exact .inr h
end L2
variable{xs:Y L2.V}{H:L2.Hp}{o:L2.HO}{X:L2.Cx}{σ:L2.St}{v:L2.V}{ta te:L2.TE}{J:L2.It}{vs:Y L2.V}{sp:L2.Sp}{ks:Y L2.AY}{zs:Y (Y L2.AY×A1)}{H0 Hs:L2.Hp}{cZ:Y (Y L2.AY)}
namespace P1
open L2
inductive Dt where
 |non|bl (b:Bool)|int (i:Int)|str (x:Str)|tup (xs:List Dt)|lst (xs:List Dt)|emp
inductive Bx where
 |z (d:Dt)|l (ds:List Dt)|o (ds:List Dt)|n (AO:List (AY×Dt))|m (AO:List (AY×Dt)) (w:Option Addr)
abbrev Ev:=Y (S Bx)
def FH(K:B4)(H:Hp)(a:A1)(xs:Y V):Prop:=
 (∃o,H a=O (.tH o (.lst xs))) ∨
  ∃(o:AE) (AQ:Array A0) (n:Nat),K.lookup a=O o/\o.cls=.type "list" ∧ o.dict=Y3/\o.data=.seq AQ n/\AQ.size<=AA/\AX xs AQ.toList
theorem FH.sq(h:FH K H a xs):uN K H a xs:=by
 rcases h with h|h
 ·exact .inl (.inr h)
 ·exact .inr h
mutual
def AW(K:B4)(H:Hp):Dt->V->Prop
 |.non,v=>v=.non
 |.bl b,v=>v=.bl b
 |.int i,v=>v=.int i
 |.str x,v=>v=.str x/\x.length<=AA
 |.tup ds,v=>∃a vs,v=.ref a/\Cy K H a vs/\aO K H ds vs
 |.lst ds,v=>∃a vs,v=.ref a/\FH K H a vs/\aO K H ds vs
 |.emp,v=>∃a o,v=.ref a/\H a=O (.tH o (.dK []))
def aO(K:B4)(H:Hp):Y Dt->Y V->Prop
 |[],vs=>vs=[]
 |d::ds,vs=>∃v r,vs=v::r/\AW K H d v/\aO K H ds r
end
structure Kp (H H':Hp):Prop where
 t:∀a xs,H a=some (.tup xs)->H' a=some (.tup xs)
 f:∀a o u,H a=some (.tH o u)->H' a=some (.tH o u)
theorem Kp.of{H':Hp}(s:AV H H'):Kp H H':=⟨λa _ h=>s a _ h,λa _ _ h=>s a _ h⟩
theorem Kp.sqT{H':Hp}(k:Kp H H')(h:Cy K H a xs):Cy K H' a xs:=by
 rcases h with (h|⟨o,h⟩)|h
 ·exact .inl (.inl (k.t _ _ h))
 ·exact .inl (.inr ⟨o,k.f _ _ _ h⟩)
 ·exact .inr h
theorem Kp.fzL{H':Hp}(k:Kp H H')(h:FH K H a xs):FH K H' a xs:=by
 rcases h with⟨o,h⟩|h
 ·exact .inl ⟨o,k.f _ _ _ h⟩
 ·exact .inr h
theorem Kp.lst(h:H a=O (.lst xs)):Kp H (B6 H a o):=by
 refine⟨λb ys e=>?_,λb c u e=>?_⟩
 ·rw[aR (qw e h (by intro z;cases z))];exact e
 ·rw[aR (qw e h (by intro z;cases z))];exact e
theorem Kp.dk{xs:Y (AY×V)}(h:H a=O (.dK xs)):Kp H (B6 H a o):=by
 refine⟨λb ys e=>?_,λb c u e=>?_⟩
 ·rw[aR (qw e h (by intro z;cases z))];exact e
 ·rw[aR (qw e h (by intro z;cases z))];exact e
mutual
theorem AW.kp{K:B4}{H H':Hp}(k:Kp H H'):∀{d:Dt} {v:V},AW K H d v->AW K H' d v
 |.non,_,h=>by simpa only[AW]using h
 |.bl _,_,h=>by simpa only[AW]using h
 |.int _,_,h=>by simpa only[AW]using h
 |.str _,_,h=>by simpa only[AW]using h
 |.tup ds,_,h=>by
  simp only[AW]at h ⊢;obtain⟨a,vs,e,q,r⟩:=h;exact⟨a,vs,e,k.sqT q,aO.kp k r⟩
 |.lst ds,_,h=>by
  simp only[AW]at h ⊢;obtain⟨a,vs,e,q,r⟩:=h;exact⟨a,vs,e,k.fzL q,aO.kp k r⟩
 |.emp,_,h=>by
  simp only[AW]at h ⊢;obtain⟨a,o,e,q⟩:=h;exact⟨a,o,e,k.f _ _ _ q⟩
theorem aO.kp{K:B4}{H H':Hp}(k:Kp H H'):∀{ds:Y Dt} {vs:Y V},aO K H ds vs->aO K H' ds vs
 |[],_,h=>by simpa only[aO]using h
 |d::ds,_,h=>by
  simp only[aO]at h ⊢;obtain⟨v,r,e,q,t⟩:=h;exact⟨v,r,e,AW.kp k q,aO.kp k t⟩
end
theorem aO.length{K:B4}{H:Hp}:∀{ds:Y Dt} {vs:Y V},aO K H ds vs->vs.length=ds.length
 |[],_,h=>by simp only[aO]at h;subst h;rfl
 |d::ds,_,h=>by
  simp only[aO]at h;obtain⟨v,r,rfl,_,t⟩:=h;simp[aO.length t]
theorem aO.nil:aO K H [] []:=by simp only[aO]
theorem aO.cons{K:B4}{H:Hp}{d:Dt}{v:V}{ds:Y Dt}{vs:Y V}(h:AW K H d v)(t:aO K H ds vs):aO K H (d::ds) (v::vs):=by
 simp only[aO];exact⟨v,vs,rfl,h,t⟩
theorem aO.append{K:B4}{H:Hp}:∀{ds es:Y Dt} {vs us:Y V},aO K H ds vs->aO K H es us->aO K H (ds++es) (vs++us)
 |[],_,_,_,h,t=>by simp only[aO]at h;subst h;exact t
 |d::ds,_,_,_,h,t=>by
  simp only[aO]at h;obtain⟨v,r,rfl,q,h⟩:=h;exact aO.cons q (aO.append h t)
theorem aO.drop{K:B4}{H:Hp}:∀(n:Nat) {ds:Y Dt} {vs:Y V},aO K H ds vs->aO K H (ds.drop n) (vs.drop n)
 |0,_,_,h=>h
 |n+1,[],_,h=>by simp only[aO]at h;subst h;exact aO.nil
 |n+1,d::ds,_,h=>by
  simp only[aO]at h;obtain⟨v,r,rfl,q,h⟩:=h;exact aO.drop n h
theorem aO.take{K:B4}{H:Hp}:∀(n:Nat) {ds:Y Dt} {vs:Y V},aO K H ds vs->aO K H (ds.take n) (vs.take n)
 |0,_,_,_=>aO.nil
 |n+1,[],_,h=>by simp only[aO]at h;subst h;exact aO.nil
 |n+1,d::ds,_,h=>by
  simp only[aO]at h;obtain⟨v,r,rfl,q,h⟩:=h;exact aO.cons q (aO.take n h)
theorem aO.get{K:B4}{H:Hp}:∀{ds:Y Dt} {vs:Y V} {i:Nat} {d:Dt},aO K H ds vs->ds[i]?=O d->∃v,vs[i]?=O v/\AW K H d v
 |[],_,_,_,_,e=>by simp at e
 |d::ds,_,0,_,h,e=>by
  simp only[aO]at h;obtain⟨v,r,rfl,q,h⟩:=h;simp at e;subst e;exact⟨v,rfl,q⟩
 |d::ds,_,i+1,_,h,e=>by
  simp only[aO]at h;obtain⟨v,r,rfl,q,h⟩:=h;obtain⟨u,e1,e2⟩:=aO.get h (i:=i) (by simpa using e);exact⟨u,by simpa using e1,e2⟩
def DA:AY->Prop
 |.inl _=>True
 |.inr x=>x.length<=AA
def gk(K:B4)(H:Hp)(AO:Y (AY×Dt))(ks:Y (AY×V)):Prop:=ks.map (·.1)=AO.map (·.1)/\aO K H (AO.map (·.2)) (ks.map (·.2))/\∀p∈AO,DA p.1
theorem gk.kp{K:B4}{H H':Hp}{AO:Y (AY×Dt)}{ks:Y (AY×V)}(h:gk K H AO ks)(k:Kp H H'):gk K H' AO ks:=⟨h.1,h.2.1.kp k,h.2.2⟩
def bC(K:B4)(H:Hp):Bx->V->Prop
 |.z d,v=>AW K H d v
 |.l ds,v=>∃a vs,v=.ref a/\Rd H a (.lst vs)/\aO K H ds vs
 |.o ds,v=>∃a vs,v=.ref a/\H a=O (.lst vs)/\aO K H ds vs
 |.n AO,v=>∃a ks,v=.ref a/\Rd H a (.dK ks)/\gk K H AO ks
 |.m AO w,v=>∃a ks,v=.ref a/\H a=O (.dK ks)/\gk K H AO ks/\∀b,w=O b->b=a
theorem bC.same{H':Hp}(s:AV H H'){b:Bx}(h:bC K H b v):bC K H' b v:=by
 cases b with
 |z d=>exact AW.kp (.of s) h
 |l ds=>
  obtain⟨a,vs,e,q,r⟩:=h;refine⟨a,vs,e,?_,r.kp (.of s)⟩;rcases q with q|⟨o,q⟩
  ·exact .inl (s _ _ q)
  ·exact .inr ⟨o,s _ _ q⟩
 |o ds=>
  obtain⟨a,vs,e,q,r⟩:=h;exact⟨a,vs,e,s _ _ q,r.kp (.of s)⟩
 |n AO=>
  obtain⟨a,vs,e,q,r⟩:=h;refine⟨a,vs,e,?_,r.kp (.of s)⟩;rcases q with q|⟨o,q⟩
  ·exact .inl (s _ _ q)
  ·exact .inr ⟨o,s _ _ q⟩
 |m AO _=>
  obtain⟨a,vs,e,q,r⟩:=h;exact⟨a,vs,e,s _ _ q,r.1.kp (.of s),r.2⟩
def rz:Bx->S (Y Dt)
 |.z (.lst ds)=>O ds
 |.l ds=>O ds
 |.o ds=>O ds
 |_=>Y3
theorem bC.Hv{b:Bx}{ds:Y Dt}(h:bC K H b v)(e:rz b=O ds):∃a vs,v=.ref a/\uN K H a vs/\aO K H ds vs:=by
 cases b with
 |z d=>
  cases d<;>first|(cases e;done)|skip;cases e;simp only[bC,AW]at h;obtain⟨a,vs,e,q,r⟩:=h;exact⟨a,vs,e,q.sq,r⟩
 |l c=>
  cases e;obtain⟨a,vs,e,q,r⟩:=h;exact⟨a,vs,e,.inl q,r⟩
 |o c=>
  cases e;obtain⟨a,vs,e,q,r⟩:=h;exact⟨a,vs,e,.inl (.inl q),r⟩
 |n _=>cases e
 |m _ _=>cases e
abbrev ux(K:B4)(H:Hp):Y Bx->Y V->Prop:=AI (bC K H)
def Nw(H:Hp):Bx->V->Prop
 |.o _,v=>∀a,v=.ref a->H a=Y3
 |.m _ _,v=>∀a,v=.ref a->H a=Y3
 |_,_=>True
theorem Nw.old{H1:Hp}(s:AV H H1){b:Bx}(h:Nw H1 b v):Nw H b v:=by
 cases b with
 |o ds=>exact λa e=>s.free (h a e)
 |m ds _=>exact λa e=>s.free (h a e)
 |_=>trivial
def loose:Bx->Bool
 |.z _=>false
 |_=>true
def uR:Bx->Bool
 |.o _=>true
 |.m _ _=>true
 |_=>false
structure bR (K:B4) (H0 H:Hp) (σ:L2.St) (ρ:Ev):Prop where
 len:σ.length=ρ.length
 val:∀(i:Nat) b,ρ[i]?=some (some b)->∃v,σ[i]?=some (some v)/\bC K H b v
 own:∀(i j:Nat) c a b,ρ[i]?=some (some c)->uR c=true->σ[i]?=some (some (.ref a))->ρ[j]?=some (some b)->loose b=true->σ[j]?=some (some (.ref a))->i=j
 base:AV H0 H
 new:∀(i:Nat) c a,ρ[i]?=some (some c)->uR c=true->σ[i]?=some (some (.ref a))->H0 a=none
theorem bR.grow{H':Hp}{ρ:Ev}(r:bR K H0 H σ ρ)(s:AV H H'):bR K H0 H' σ ρ:=
 ⟨r.len,λi b e=>let ⟨v,e1,h⟩:=r.val i b e;⟨v,e1,h.same s⟩,r.own,r.base.trans s,r.new⟩
def tF(K:B4)(f:Ev->S Bx):TE:=λσ H Q=>∃H0 ρ b,bR K H0 H σ ρ/\f ρ=O b/\∀v H',AV H H'->Nw H b v->bC K H' b v->Q v H'
def OW(K:B4)(f:Ev->S (Y Bx)):TA:=λσ H Q=>∃H0 ρ bs,bR K H0 H σ ρ/\f ρ=O bs/\∀vs H',AV H H'->ux K H' bs vs->Q vs H'
def Co(K:B4)(f:Ev->S Bool):TT:=λσ H Q=>∃H0 ρ b,bR K H0 H σ ρ/\f ρ=O b/\∀H',AV H H'->Q b H'
def PV(X:Cx)(e:Expr)(f:Ev->S Bx):Prop:=PE X e (tF X.K f)
structure QV (X:Cx) (e:Expr) (f:Ev->Option Bx):Prop where
 run:PV X e f
def FL(X:Cx)(es:Y Expr)(f:Ev->S (Y Bx)):Prop:=PA X es (OW X.K f)
structure Yw (X:Cx) (es:List Expr) (f:Ev->Option (List Bx)):Prop where
 run:FL X es f
def PB(X:Cx)(e:Expr)(f:Ev->S Bool):Prop:=PT X e (Co X.K f)
structure QB (X:Cx) (e:Expr) (f:Ev->Option Bool):Prop where
 run:PB X e f
theorem Mp{t t':TE}(h:PE X e t)(m:∀ σ H Q,t' σ H Q->t σ H Q):PE X e t':=λAN s σ H Q I q=>h AN s σ H Q I (m σ H Q q)
theorem Me{e:Y Expr}{t t':TA}(h:PA X e t)(m:∀ σ H Q,t' σ H Q->t σ H Q):PA X e t':=λpos AN s σ H Q I q=>h pos AN s σ H Q I (m σ H Q q)
theorem IG{t t':TT}(h:PT X e t)(m:∀ σ H Q,t' σ H Q->t σ H Q):PT X e t':=λAN s σ H Q I q=>h AN s σ H Q I (m σ H Q q)
theorem OI{t t':TT}(h:PW X e t)(m:∀ σ H Q,t' σ H Q->t σ H Q):PW X e t':=λa AN s σ H Q I q=>h a AN s σ H Q I (m σ H Q q)
theorem WL{e:AB}{t t':TS}(h:PS X e t)(m:∀D σ H,t' D σ H->t D σ H):PS X e t':=λAN s σ H D I q=>h AN s σ H D I (m D σ H q)
theorem Go{e:Y AB}{t t':TS}(h:Uv X e t)(m:∀D σ H,t' D σ H->t D σ H):Uv X e t':=λAN s σ H D I q=>h AN s σ H D I (m D σ H q)
def rF(K:B4)(g:Bx->Bx->S Bx):R2:=λx y H Q=>∃a b c,bC K H a x/\bC K H b y/\g a b=O c/\∀w H',AV H H'->Nw H c w->bC K H' c w->Q w H'
def L6(K:B4)(g:Bx->S Bx):V->Hp->VK->Prop:=λx H Q=>∃a c,bC K H a x/\g a=O c/\∀w H',AV H H'->Nw H c w->bC K H' c w->Q w H'
def Lm(K:B4)(g:Y Bx->S Bx):Y V->Hp->VK->Prop:=λxs H Q=>∃bs c,ux K H bs xs/\g bs=O c/\∀w H',AV H H'->Nw H c w->bC K H' c w->Q w H'
abbrev Gs(X:Cx)(f:A0->A0->Sem A0)(g:Bx->Bx->S Bx):Prop:=yM X f (rF X.K g)
abbrev ML(X:Cx)(f:A0->Sem A0)(g:Bx->S Bx):Prop:=DI X f (L6 X.K g)
abbrev rA(X:Cx)(f:A0)(g:Y Bx->S Bx):Prop:=jK X f (Lm X.K g)
theorem yM.imp{f:A0->A0->Sem A0}{r a:R2}(h:yM X f r)(m:∀x y H Q,a x y H Q->r x y H Q):yM X f a:=λAN s σ H x y v u Q I c b q=>h AN s σ H x y v u Q I c b (m x y H Q q)
theorem DI.imp{f:A0->Sem A0}{r a:V->Hp->VK->Prop}(h:DI X f r)(m:∀x H Q,a x H Q->r x H Q):DI X f a:=λAN s σ H x v Q I b q=>h AN s σ H x v Q I b (m x H Q q)
theorem jK.imp{f:A0}{r a:Y V->Hp->VK->Prop}(h:jK X f r)(m:∀x H Q,a x H Q->r x H Q):jK X f a:=λAN s σ H xs us Q I b q=>h AN s σ H xs us Q I b (m xs H Q q)
def b2(g:Bx->Bx->S Bx)(fa fb:Ev->S Bx):Ev->S Bx:=λρ=>(fa ρ).bind λx=>(fb ρ).bind λy=>g x y
def b1(g:Bx->S Bx)(fa:Ev->S Bx):Ev->S Bx:=λρ=>(fa ρ).bind g
def cT(g:Y Bx->S Bx)(fs:Ev->S (Y Bx)):Ev->S Bx:=λρ=>(fs ρ).bind g
theorem AT{o:S α}{f:α->S β}{b:β}(h:o.bind f=O b):∃a,o=O a/\f a=O b:=by
 cases o with
 |none=>cases h
 |some a=>exact⟨a,rfl,h⟩
theorem HG{g:Bx->Bx->S Bx}{fa fb:Ev->S Bx}(σ:L2.St)(H:Hp)(Q:VK)(h:tF K (b2 g fa fb) σ H Q):FM (rF K g) (tF K fa) (tF K fb) σ H Q:=by
 obtain⟨H0,ρ,c,E,e,q⟩:=h;obtain⟨a,ea,e⟩:=AT e;obtain⟨b,eb,e⟩:=AT e;refine⟨H0,ρ,a,E,ea,λv H1 f p m=>⟨H0,ρ,b,E.grow f,eb,λu H2 d s j=>?_⟩⟩;exact⟨a,b,c,m.same d,j,e,λw i n l o=>q w i ((f.trans d).trans n) (l.old (f.trans d)) o⟩
theorem iS{g:Bx->S Bx}{fa:Ev->S Bx}(σ:L2.St)(H:Hp)(Q:VK)(h:tF K (b1 g fa) σ H Q):L8 (L6 K g) (tF K fa) σ H Q:=by
 obtain⟨H0,ρ,c,E,e,q⟩:=h;obtain⟨a,ea,e⟩:=AT e;exact⟨H0,ρ,a,E,ea,λv H1 b m f=>⟨a,c,f,e,λw d j i l=>q w d (b.trans j) (i.old b) l⟩⟩
theorem Db{g:Y Bx->S Bx}{fs:Ev->S (Y Bx)}(σ:L2.St)(H:Hp)(Q:VK)(h:tF K (cT g fs) σ H Q):HA (Lm K g) (OW K fs) σ H Q:=by
 obtain⟨H0,ρ,c,E,e,q⟩:=h;obtain⟨a,ea,e⟩:=AT e;exact⟨H0,ρ,a,E,ea,λv H1 b f=>⟨a,c,f,e,λw d j i l=>q w d (b.trans j) (i.old b) l⟩⟩
section
variable{a b:Expr}{fa fb fc f:Ev->S Bx}{fs:Ev->S (Y Bx)}
theorem aV{op:Operator}{g:Bx->Bx->S Bx}(d:Gs X (binaryOp op) g)(c:QV X a fa)(hb:QV X b fb):QV X (.BinOp a op b pos) (b2 g fa fb):=⟨have c:=c.run;have hb:=hb.run;Mp (VY d c hb) HG⟩
theorem im{op:UnaryOp}{g:Bx->S Bx}(c:ML X (unaryOp op) g)(b:QV X a fa):QV X (.UnaryOp op a pos) (b1 g fa):=⟨have b:=b.run;Mp (dQ c b) iS⟩
theorem Hw{g:Bx->Bx->S Bx}(e:Gs X (AG op) g)(c:QV X a fa)(hb:QV X b fb)(d:behindInMarks op b=false):QV X (.Compare a [op] [b] pos) (b2 g fa fb):=⟨have c:=c.run;have hb:=hb.run;Mp (RY e c hb d) HG⟩
def Om:Bx->S Bool
 |.z (.bl b)=>O b
 |_=>Y3
theorem Hx{b:Bx}{k:Bool}(h:bC K H b v)(e:Om b=O k):v=.bl k:=by
 cases b with
 |z d=>
  cases d<;>first|(cases e;done)|skip;cases e;simpa only[bC,AW]using h
 |_=>cases e
theorem SR(σ:L2.St)(H:Hp)(Q:Bool->Hp->Prop)(h:Co K (λρ=>(f ρ).bind Om) σ H Q):tF K f σ H (λx H'=>∃k,x=.bl k/\Q k H'):=by
 obtain⟨H0,ρ,k,E,e,q⟩:=h;obtain⟨b,eb,e⟩:=AT e;exact⟨H0,ρ,b,E,eb,λv H1 a d c=>⟨k,Hx c e,q H1 a⟩⟩
theorem bY{g:Bx->Bx->S Bx}(e:Gs X (AG op) g)(c:QV X a fa)(hb:QV X b fb)(d:behindInMarks op b=false):QB X (.Compare a [op] [b] pos) (λρ=>(b2 g fa fb ρ).bind Om):=⟨have c:=c.run;have hb:=hb.run;IG (eQ e c hb d) λσ H Q h=>HG σ H _ (SR σ H Q h)⟩
def EX(g g':Bx->Bx->S Bx)(fa fb fc:Ev->S Bx):Ev->S Bx:=λρ=>(fa ρ).bind λx=>(fb ρ).bind λy=>(g x y).bind λr=>(Om r).bind λk=>if k=true then(fc ρ).bind λw=>g' y w else O (.z (.bl false))
theorem Sf{g g':Bx->Bx->S Bx}(σ:L2.St)(H:Hp)(Q:VK)(h:tF K (EX g g' fa fb fc) σ H Q):LV (rF K g) (rF K g') (tF K fa) (tF K fb) (tF K fc) σ H Q:=by
 obtain⟨H0,ρ,d,E,e,q⟩:=h;obtain⟨a,ea,e⟩:=AT e;obtain⟨b,eb,e⟩:=AT e;obtain⟨r,er,e⟩:=AT e;obtain⟨k,ek,e⟩:=AT e;refine⟨H0,ρ,a,E,ea,λv H1 n I z=>⟨H0,ρ,b,E.grow n,eb,λu H2 l F j=>?_⟩⟩;refine⟨a,b,r,z.same l,j,er,λw C i G D=>⟨k,Hx D ek,?_⟩⟩;have c:=(n.trans l).trans i;cases k with
 |false=>
  rw[zI ZO]at e ⊢;cases e;exact q _ C c trivial (by simp only[bC,AW])
 |true=>
  rw[zr rfl]at e ⊢;obtain⟨m,B,e⟩:=AT e;refine⟨H0,ρ,m,E.grow c,B,λx J f L A=>?_⟩;exact⟨b,m,d,(j.same i).same f,A,e,λy t s p o=>q y t ((c.trans f).trans s) (p.old (c.trans f)) o⟩
theorem d5{e:CmpOp}{g g':Bx->Bx->S Bx}(j:Gs X (AG op) g)(h:Gs X (AG e) g')(f:QV X a fa)(hb:QV X b fb)(d:QV X c fc)(i:lastMarks [op,e] [b,c]=false:=by with_unfolding_all rfl):QV X (.Compare a [op,e] [b,c] pos) (EX g g' fa fb fc):=⟨have f:=f.run;have hb:=hb.run;have d:=d.run;Mp (gE j h f hb d i) Sf⟩
def zq(ρ:Ev)(i:Nat):S Bx:=match ρ[i]? with
 |some (O (.o ds))=>O (.l ds)
 |some (O (.m AO _))=>O (.n AO)
 |some (O b)=>O b
 |_=>Y3
theorem Rb{ρ:Ev}{b:Bx}(E:bR K H0 H σ ρ)(e:zq ρ i=O b):∃v,σ[i]?=O (O v)/\bC K H b v:=by
 unfold zq at e;split at e
 ·rename_i ds h;cases e;obtain⟨v,e1,a,vs,e2,q,r⟩:=E.val i _ h;exact⟨v,e1,a,vs,e2,.inl q,r⟩
 ·rename_i ds h;cases e;obtain⟨v,e1,a,vs,e2,q,r⟩:=E.val i _ h;exact⟨v,e1,a,vs,e2,.inl q,r.1⟩
 ·rename_i c h;cases e;exact E.val i _ h
 ·cases e
theorem Aa{ρ:Ev}{b:Bx}(e:zq ρ i=O b):uR b=false:=by
 unfold zq at e;split at e
 ·cases e;rfl
 ·cases e;rfl
 ·rename_i c h1 h2 a;cases e;cases b with
  |o ds=>exact absurd Y2 (h1 ds)
  |m ds _=>exact absurd Y2 (h2 ds _)
  |_=>rfl
 ·cases e
theorem ak(i:Nat)(c:X.N[i]?=O x:=by rfl)(d:ZK X.env.scope x:=by first|exact ku rfl|exact j3 (ku Y2)|exact j3 (j3 Y2))(hd:(x==("__debug__":AJ))=false:=by decide)(a:(x==("__classdict__":AJ))=false:=by decide):QV X (.Name x pos) (λρ=>zq ρ i):=⟨Mp (wG c d hd a) λσ H Q h=>by
 obtain⟨H0,ρ,b,E,e,q⟩:=h;obtain⟨v,e1,r⟩:=Rb E e;refine⟨v,e1,q v H (AV.refl H) ?_ r⟩;cases b with
 |o ds=>have:=Aa e;cases this
 |m ds _=>have:=Aa e;cases this
 |_=>trivial⟩
def cB(d:Dt):Ev->S Bx:=λ_=>O (.z d)
theorem EL{d:Dt}(h:PE X e (tC v))(r:∀H,AW X.K H d v):PV X e (cB d):=Mp h λσ H Q q=>by
 obtain⟨H0,ρ,b,E,e,q⟩:=q;cases e;exact q v H (AV.refl H) trivial (r H)
theorem aB{i j}:QV X (.Constant (.int i) j pos) (cB (.int i)):=⟨EL de λH=>by simp only[AW]⟩
theorem Hy{i j}:QV X (.Constant (.bool i) j pos) (cB (.bl i)):=⟨EL YU λH=>by simp only[AW]⟩
theorem rB{j}:QV X (.Constant .none j pos) (cB .non):=⟨EL gg λH=>by simp only[AW]⟩
theorem LP{j}(hx:x.length<=AA:=by decide):PV X (.Constant (.str x) j pos) (cB (.str x)):=EL ai λH=>by unfold AW;exact⟨rfl,hx⟩
theorem Rc{i:Int}{t:Tok}(a:Gl X x)(b:X.mg x=O (.int i t))(hd:(x==("__debug__":AJ))=false:=by decide):QV X (.Name x pos) (cB (.int i)):=⟨EL (TM a b (v:=.int i) ⟨t,rfl⟩ hd) λH=>by simp only[AW]⟩
def U4:Bx->S Bool
 |.z .non=>O false
 |.z (.bl b)=>O b
 |.z (.int i)=>O (i != 0)
 |.z (.str x)=>O ((x.length:Int) != 0)
 |.z (.tup ds)=>O (!ds.isEmpty)
 |.z (.lst ds)=>O (!ds.isEmpty)
 |.l ds=>O (!ds.isEmpty)
 |.o ds=>O (!ds.isEmpty)
 |.z .emp=>Y3
 |.n _=>Y3
 |.m _ _=>Y3
theorem aO.isEmpty{ds:Y Dt}(h:aO K H ds vs):(!ds.isEmpty)=!vs.isEmpty:=by
 have:=h.length;cases ds<;>cases vs<;>simp_all
theorem WM{b:Bx}{k:Bool}(r:bC K H b v)(e:U4 b=O k):Ix K v H k:=by
 cases b with
 |z d=>
  cases d with
  |non=>cases e;simp only[bC,AW]at r;subst r;rfl
  |bl b=>cases e;simp only[bC,AW]at r;subst r;rfl
  |int b=>cases e;simp only[bC,AW]at r;subst r;rfl
  |str x=>cases e;simp only[bC,AW]at r;obtain⟨rfl,h⟩:=r;exact⟨h,rfl⟩
  |tup ds=>
   cases e;simp only[bC,AW]at r;obtain⟨a,vs,rfl,q,r⟩:=r;exact .inr (.inl ⟨vs,q,r.isEmpty⟩)
  |lst ds=>
   cases e;obtain⟨a,vs,rfl,q,r⟩:=r.Hv rfl;exact .inl ⟨vs,q,r.isEmpty⟩
  |emp=>cases e
 |l ds=>
  cases e;obtain⟨a,vs,rfl,q,r⟩:=r.Hv rfl;exact .inl ⟨vs,q,r.isEmpty⟩
 |o ds=>
  cases e;obtain⟨a,vs,rfl,q,r⟩:=r.Hv rfl;exact .inl ⟨vs,q,r.isEmpty⟩
 |n _=>cases e
 |m _ _=>cases e
theorem CQ(h:QV X e f)(he:∀a,isTrue e X.env a=(do let v <-a;standAt e.pos;holding [v] (truthy v)):=by intro _;rfl):QB X e (λρ=>(f ρ).bind U4):=⟨have h:=h.run;IG (cv h he) λσ H Q q=>by
 obtain⟨H0,ρ,k,E,e,q⟩:=q;obtain⟨b,eb,e⟩:=AT e;exact⟨H0,ρ,b,E,eb,λv H1 c g d=>⟨k,WM d e,q H1 c⟩⟩⟩
def Rf(p q:Ev->S Bool):Ev->S Bool:=λρ=>(p ρ).bind λc=>if c=true then q ρ else O false
def D0(p q:Ev->S Bool):Ev->S Bool:=λρ=>(p ρ).bind λc=>if c=true then O true else q ρ
def Yx(p:Ev->S Bool):Ev->S Bool:=λρ=>(p ρ).bind λc=>O (!c)
def UD(X:Cx)(e:Expr)(f:Ev->S Bool):Prop:=PW X e (Co X.K f)
structure Dx (X:Cx) (e:Expr) (f:Ev->Option Bool):Prop where
 run:UD X e f
variable{p q:Ev->S Bool}{AS:Y Expr}
theorem Ab(b:QB X a p):Dx X (.BoolOp .And [a] pos) p:=⟨have b:=b.run;ay b⟩
theorem Gu(b:QB X a p):Dx X (.BoolOp .Or [a] pos) p:=⟨have b:=b.run;T' b⟩
theorem We(σ:L2.St)(H:Hp)(Q:Bool->Hp->Prop)(h:Co K (Rf p q) σ H Q):MV (Co K p) (Co K q) σ H Q:=by
 obtain⟨H0,ρ,k,E,e,w⟩:=h;obtain⟨c,d,e⟩:=AT e;refine⟨H0,ρ,c,E,d,λH1 a=>?_⟩;cases c with
 |true=>rw[zr rfl]at e ⊢;exact⟨H0,ρ,k,E.grow a,e,λH2 b=>w H2 (a.trans b)⟩
 |false=>rw[zI ZO]at e ⊢;cases e;exact w H1 a
theorem hV(σ:L2.St)(H:Hp)(Q:Bool->Hp->Prop)(h:Co K (D0 p q) σ H Q):NN (Co K p) (Co K q) σ H Q:=by
 obtain⟨H0,ρ,k,E,e,w⟩:=h;obtain⟨c,d,e⟩:=AT e;refine⟨H0,ρ,c,E,d,λH1 a=>?_⟩;cases c with
 |true=>rw[zr rfl]at e ⊢;cases e;exact w H1 a
 |false=>rw[zI ZO]at e ⊢;exact⟨H0,ρ,k,E.grow a,e,λH2 b=>w H2 (a.trans b)⟩
theorem Gv(c:QB X a p)(hb:Dx X (.BoolOp .And (b::AS) pos) q):Dx X (.BoolOp .And (a::b::AS) pos) (Rf p q):=⟨have c:=c.run;have hb:=hb.run;OI (iN c hb) We⟩
theorem Hz(c:QB X a p)(hb:Dx X (.BoolOp .Or (b::AS) pos) q):Dx X (.BoolOp .Or (a::b::AS) pos) (D0 p q):=⟨have c:=c.run;have hb:=hb.run;OI (fR c hb) hV⟩
theorem Rh(h:Dx X e p):QB X e p:=⟨have h:=h.run;h.pt⟩
theorem U5(b:QB X a p):QB X (.UnaryOp .Not a pos) (Yx p):=⟨have b:=b.run;IG (i8 b) λσ H Q h=>by
 obtain⟨H0,ρ,k,E,e,w⟩:=h;obtain⟨c,f,e⟩:=AT e;cases e;exact⟨H0,ρ,c,E,f,λH1 d=>w H1 d⟩⟩
def FF(fa fb:Ev->S Bx):Ev->S Bx:=λρ=>((fa ρ).bind Om).bind λc=>if c=true then fb ρ else O (.z (.bl false))
theorem aaz{op}(h:QV X a fa):QV X (.BoolOp op [a] pos) fa:=⟨have h:=h.run;gh h⟩
theorem LL(f:QV X a fa)(hb:QV X (.BoolOp .And (b::AS) pos) fb):QV X (.BoolOp .And (a::b::AS) pos) (FF fa fb):=⟨have f:=f.run;have hb:=hb.run;Mp (UX f hb) λσ H Q h=>by
 obtain⟨H0,ρ,k,E,e,w⟩:=h;obtain⟨c,g,e⟩:=AT e;obtain⟨x,ex,g⟩:=AT g;refine⟨H0,ρ,x,E,ex,λv H1 d n l=>⟨c,Hx l g,?_⟩⟩;cases c with
 |true=>rw[zr rfl]at e ⊢;exact⟨H0,ρ,k,E.grow d,e,λv H2 j i m=>w v H2 (d.trans j) (i.old d) m⟩
 |false=>rw[zI ZO]at e ⊢;cases e;exact w _ H1 d trivial (by simp only[bC,AW])⟩
def FS(p:Ev->S Bool)(fa fb:Ev->S Bx):Ev->S Bx:=λρ=>(p ρ).bind λc=>if c=true then fa ρ else fb ρ
theorem bu(f:QB X c p)(i:QV X a fa)(hb:QV X b fb):QV X (.IfExp c a b pos) (FS p fa fb):=⟨have f:=f.run;have i:=i.run;have hb:=hb.run;Mp (Z1 f i hb) λσ H Q h=>by
 obtain⟨H0,ρ,k,E,e,w⟩:=h;obtain⟨c,m,e⟩:=AT e;refine⟨H0,ρ,c,E,m,λH1 d=>?_⟩;cases c with
 |true=>rw[zr rfl]at e ⊢;exact⟨H0,ρ,k,E.grow d,e,λv H2 j g l=>w v H2 (d.trans j) (g.old d) l⟩
 |false=>rw[zI ZO]at e ⊢;exact⟨H0,ρ,k,E.grow d,e,λv H2 j g l=>w v H2 (d.trans j) (g.old d) l⟩⟩
theorem WQ:FL X [] (λ_=>O []):=Me Hj λσ H Q h=>by
 obtain⟨H0,ρ,bs,E,e,q⟩:=h;cases e;exact q [] H (AV.refl H) .nil
def aq(f:Ev->S Bx)(fs:Ev->S (Y Bx)):Ev->S (Y Bx):=λρ=>(f ρ).bind λb=>(fs ρ).bind λbs=>O (b::bs)
theorem Ri(h1:PV X e f)(h2:FL X es fs)(hs:A9 (e::es) X.env=(false,eval e X.env)::A9 es X.env:=by rfl):FL X (e::es) (aq f fs):=Me (xX h1 h2 hs) λσ H Q h=>by
 obtain⟨H0,ρ,bs,E,e,q⟩:=h;obtain⟨b,eb,e⟩:=AT e;obtain⟨d,i,e⟩:=AT e;cases e;refine⟨H0,ρ,b,E,eb,λv H1 c l g=>⟨H0,ρ,d,E.grow c,i,λvs H2 a j=>?_⟩⟩;exact q (v::vs) H2 (c.trans a) (.cons (g.same a) j)
def wD:Bx->S Bx
 |.z d=>O (.z d)
 |.o ds=>O (.z (.lst ds))
 |.l _=>Y3
 |.n _=>Y3
 |.m _ _=>Y3
theorem HB{a:A1}(I:L2.AU X AN σ H s)(h:H a=O (.lst vs)):∃o,L2.AU X AN σ (B6 H a (.tH o (.lst vs))) s:=by
 obtain⟨z,AQ,n,r,e⟩:=I.hok a _ h;refine⟨{ cls:=.type "list",data:=.seq AQ.toArray n },⟨I.ok,I.os,I.bare,⟨I.base.keep,I.base.slot,λb d q1 q2 f=>?_,I.base.there,λb xs q=>?_,λb d u q=>?_,λb ps q=>?_⟩,I.loc,I.cell,?_,λx c q=>?_,λp hp=>?_,?_,I.len⟩⟩
 ·have:=I.base.free b d q1 q2 f;rw[aR (dH h this).symm];exact this
 ·have:=I.base.tups b xs q;rw[aR (qw this h (by intro z;cases z))];exact this
 ·have:=I.base.Fi b d u q;rw[aR (qw this h (by intro z;cases z))];exact this
 ·obtain⟨m,this⟩:=I.base.Kh b ps q;rw[aR (qw this h (by intro z;cases z))];exact⟨m,this⟩
 ·rw[aR (dH h I.free).symm];exact I.free
 ·rw[aR (dH h (I.su x c q)).symm];exact I.su x c q
 ·obtain⟨q1,q2,f⟩:=I.pin p hp;refine⟨q1,?_,f⟩;rw[aR (dH h q2).symm];exact q2
 ·intro b u q;by_cases hb:b=a
  ·subst hb;rw[bH]at q;cases q;exact⟨e,z,AQ,n,r,e⟩
  ·rw[aR hb]at q;refine(I.hok b u q).stay (λc v _ w=>w) (λc w=>?_) λc xs w=>?_
   ·rw[aR (qw w h (by intro z;cases z))];exact w
   ·rw[aR (qw w h (by intro z;cases z))];exact w
theorem gn(h:QV X e f):QV X e (b1 wD f):=⟨by
 have h:=h.run;intro AN s σ H Q I q;obtain⟨H0,ρ,b,E,e,q⟩:=q;obtain⟨x,ex,e⟩:=AT e;cases x with
 |z d=>
  cases e;exact h AN s σ H Q I ⟨H0,ρ,_,E,ex,λv H' s' i g=>q v H' s' trivial g⟩
 |l ds=>cases e
 |n ds=>cases e
 |m ds _=>cases e
 |o ds=>
  cases e;refine iZ (h AN s σ H (λv H'=>AV H H'/\Nw H (.o ds) v/\bC X.K H' (.o ds) v) I ⟨H0,ρ,_,E,ex,λv H' s' i g=>⟨s',i,g⟩⟩) λu D B=>?_;obtain⟨v,H1,C,w,s',i,g⟩:=B;obtain⟨a,vs,rfl,p,y⟩:=g;obtain⟨o,t⟩:=HB C p;refine⟨.ref a,_,t,w,q _ _ (λc A j=>?_) trivial ?_⟩
  ·rw[aR (dH j (i a Y2))];exact s' c A j
  ·simp only[bC,AW];exact⟨a,vs,rfl,.inl ⟨o,bH⟩,y.kp (.lst p)⟩⟩
def Oo:Y Bx->S (Y Dt)
 |[]=>O []
 |.z d::r=>(Oo r).bind λds=>O (d::ds)
 |_=>Y3
theorem HD{K:B4}{H:Hp}:∀{bs:Y Bx} {vs:Y V} {ds:Y Dt},ux K H bs vs->Oo bs=O ds->aO K H ds vs
 |_,_,_,.nil,e=>by cases e;exact aO.nil
 |b::bs,_,_,.cons h t,e=>by
  cases b with
  |z d=>
   simp only[Oo]at e;obtain⟨a,e1,e2⟩:=AT e;cases e2;exact aO.cons h (HD t e1)
  |_=>cases e
theorem HF:∀{bs:Y Bx} {ds:Y Dt},Oo bs=O ds->ds.length=bs.length
 |[],_,e=>by cases e;rfl
 |.z d::r,_,e=>by
  simp only[Oo]at e;obtain⟨a,e1,e2⟩:=AT e;cases e2;simp[HF e1]
 |.l _::_,_,e=>by cases e
 |.o _::_,_,e=>by cases e
 |.n _::_,_,e=>by cases e
 |.m _ _::_,_,e=>by cases e
def iG(bs:Y Bx):S Bx:=if bs.length<=1000 then(Oo bs).bind λds=>O (.z (.tup ds))else Y3
def rC(bs:Y Bx):S Bx:=if bs.length<=1000 then(Oo bs).bind λds=>O (.o ds)else Y3
theorem cg{p:A1}(h:H p=Y3):AV H (B6 H p o):=λb u e=>by rw[aR (dH e h)];exact e
theorem N4(h:n<=1000):n<=AA:=ZI h (by decide)
theorem dI{x1}(h:Yw X es fs):QV X (.Tuple es x1 pos) (cT iG fs):=⟨have h:=h.run;Mp (Tk h) λσ H Q q=>by
 obtain⟨H0,ρ,c,E,e,q⟩:=q;obtain⟨bs,g,e⟩:=AT e;refine⟨H0,ρ,bs,E,g,λvs H1 d f=>?_⟩;unfold iG at e;split at e
 ·rename_i b;obtain⟨ds,e1,e⟩:=AT e;cases e;have a:=HD f e1;refine⟨N4 (by rw[a.length,HF e1];exact b),λp hp=>q _ _ (d.trans (cg hp)) trivial ?_⟩;simp only[bC,AW];exact⟨p,vs,rfl,.inl (.inl bH),a.kp (.of (cg hp))⟩
 ·cases e⟩
theorem kZ(h:Yw X es fs):QV X (.List es pos) (cT rC fs):=⟨have h:=h.run;Mp (iq h) λσ H Q q=>by
 obtain⟨H0,ρ,c,E,e,q⟩:=q;obtain⟨bs,i,e⟩:=AT e;refine⟨H0,ρ,bs,E,i,λvs H1 b g=>?_⟩;unfold rC at e;split at e
 ·rename_i f;obtain⟨ds,e1,e⟩:=AT e;cases e;have d:=HD g e1;refine⟨N4 (by rw[d.length,HF e1];exact f),λp hp=>q _ _ (b.trans (cg hp)) (λa ea=>by cases ea;exact b.free hp) ?_⟩;exact⟨p,vs,rfl,bH,d.kp (.of (cg hp))⟩
 ·cases e⟩
theorem cG{id:String}{g:Y Bx->S Bx}{p:Pos}(b:rA X (.builtin id) g)(d:Gl X x)(j:X.mg x=Y3)(i:AH x=O (.builtin id))(a:Yw X (e::es) fs)(h:x ≠ "__name__":=by decide)(f:(x==("__debug__":AJ))=false:=by decide)(he:A9 (e::es) X.env=(false,eval e X.env)::A9 es X.env:=by rfl)(c:(AD pos (A9 es X.env)).any (·.1)=false:=by rfl):QV X (.Call (.Name x p) (e::es) [] pos) (cT g fs):=⟨have a:=a.run;Mp (Q5 b d j i a h f he c) Db⟩
theorem d8{T:String}{g:Y Bx->S Bx}{p:Pos}(b:rA X (.type T) g)(d:Gl X x)(j:X.mg x=Y3)(i:AH x=O (.type T))(a:Yw X (e::es) fs)(h:x ≠ "__name__":=by decide)(f:(x==("__debug__":AJ))=false:=by decide)(he:A9 (e::es) X.env=(false,eval e X.env)::A9 es X.env:=by rfl)(c:(AD pos (A9 es X.env)).any (·.1)=false:=by rfl):QV X (.Call (.Name x p) (e::es) [] pos) (cT g fs):=⟨have a:=a.run;Mp (Mh b d j i a h f he c) Db⟩
end
inductive Ap where
 |nx (ρ:Ev)|rt (b:Bx)|bk (ρ:Ev)|ct (ρ:Ev)
def U6(K:B4)(H0:Hp)(D:C3):Ap->Prop
 |.nx ρ=>∀ σ H,bR K H0 H σ ρ->D.nx σ H
 |.rt b=>∀v H,AV H0 H->Nw H0 b v->bC K H b v->D.rt v H
 |.bk ρ=>∀ σ H,bR K H0 H σ ρ->D.bk σ H
 |.ct ρ=>∀ σ H,bR K H0 H σ ρ->D.ct σ H
def tG(K:B4)(g:Ev->S Ap):TS:=λD σ H=>∃H0 ρ r,bR K H0 H σ ρ/\g ρ=O r/\U6 K H0 D r
def HI(X:Cx)(st:AB)(g:Ev->S Ap):Prop:=PS X st (tG X.K g)
structure Rj (X:Cx) (st:Stmt) (g:Ev->Option Ap):Prop where
 run:HI X st g
def Uw(X:Cx)(st:Y AB)(g:Ev->S Ap):Prop:=Uv X st (tG X.K g)
structure U7 (X:Cx) (st:List Stmt) (g:Ev->Option Ap):Prop where
 run:Uw X st g
def aF(g1 g2:Ev->S Ap):Ev->S Ap:=λρ=>(g1 ρ).bind λr=>match r with
 |.nx a=>g2 a
 |r=>O r
section
variable{a b:Expr}{fa fb fc f:Ev->S Bx}{fs:Ev->S (Y Bx)}{st:AB}{AS:Y AB}{g g1 g2:Ev->S Ap}
theorem aK  :U7 X [] (λρ=>O (.nx ρ)):=⟨Go Z' λD σ H h=>by
 obtain⟨H0,ρ,r,E,e,q⟩:=h;cases e;exact q σ H E⟩
theorem au(h1:Rj X st g1)(h2:U7 X AS g2):U7 X (st::AS) (aF g1 g2):=⟨have h1:=h1.run;have h2:=h2.run;Go (Z2 h1 h2) λD σ H h=>by
 obtain⟨H0,ρ,r,E,e,q⟩:=h;obtain⟨c,e1,e⟩:=AT e;refine⟨H0,ρ,c,E,e1,?_⟩;cases c with
 |nx a=>exact λσ' H' d=>⟨H0,a,r,d,e,q⟩
 |rt b=>cases e;exact q
 |bk a=>cases e;exact q
 |ct a=>cases e;exact q⟩
def EO:Bx->S Ap
 |.l _=>Y3
 |.n _=>Y3
 |b=>O (.rt b)
theorem cH(h:QV X e f):Rj X (.Return (O e) pos) (λρ=>(f ρ).bind EO):=⟨have h:=h.run;WL (Z4 h) λD σ H h=>by
 obtain⟨H0,ρ,r,E,e,q⟩:=h;obtain⟨b,eb,e⟩:=AT e;refine⟨H0,ρ,b,E,eb,λv H1 a g c=>?_⟩;cases b with
 |l ds=>cases e
 |z d=>cases e;exact q v H1 (E.base.trans a) trivial c
 |o ds=>cases e;exact q v H1 (E.base.trans a) (g.old E.base) c
 |n ds=>cases e
 |m ds _=>cases e;exact q v H1 (E.base.trans a) (g.old E.base) c⟩
def HJ(i:Nat)(ρ:Ev):S Ap:=match ρ[i]? with
 |some (O b)=>EO b
 |_=>Y3
theorem Gw(i:Nat){p:Pos}(g:X.N[i]?=O x:=by rfl)(j:ZK X.env.scope x:=by first|exact ku rfl|exact j3 (ku Y2)|exact j3 (j3 Y2))(hd:(x==("__debug__":AJ))=false:=by decide)(f:(x==("__classdict__":AJ))=false:=by decide):Rj X (.Return (O (.Name x p)) pos) (HJ i):=⟨WL (Z4 (wG g j hd f)) λD σ H h=>by
 obtain⟨H0,ρ,r,E,e,q⟩:=h;unfold HJ at e;split at e
 ·rename_i b hb;obtain⟨v,e1,c⟩:=E.val i b hb;refine⟨v,e1,?_⟩;cases b with
  |l ds=>cases e
  |z d=>cases e;exact q v H E.base trivial c
  |o ds=>cases e;exact q v H E.base (λa ea=>E.new i _ a hb Y2 (by rw[e1,ea])) c
  |n ds=>cases e
  |m ds _=>cases e;exact q v H E.base (λa ea=>E.new i _ a hb Y2 (by rw[e1,ea])) c
 ·cases e⟩
def xZ(p:Ev->S Bool)(g1 g2:Ev->S Ap):Ev->S Ap:=λρ=>(p ρ).bind λk=>if k=true then g1 ρ else g2 ρ
theorem iw{p:Ev->S Bool}{u v:Y AB}(a:QB X c p)(b:U7 X u g1)(hb:U7 X v g2):Rj X (.If c u v pos) (xZ p g1 g2):=⟨have a:=a.run;have b:=b.run;have hb:=hb.run;WL (Pm a b hb) λD σ H h=>by
 obtain⟨H0,ρ,r,E,e,q⟩:=h;obtain⟨k,ek,e⟩:=AT e;refine⟨H0,ρ,k,E,ek,λH1 d=>?_⟩;cases k with
 |true=>rw[zr rfl]at e ⊢;exact⟨H0,ρ,r,E.grow d,e,q⟩
 |false=>rw[zI ZO]at e ⊢;exact⟨H0,ρ,r,E.grow d,e,q⟩⟩
theorem BA{l:Y α}{x y:α}(h:(l.set i x)[j]?=O y):(j=i/\y=x/\i<l.length)\/(j≠i/\l[j]?=O y):=by
 rw[yA]at h;by_cases e:i=j
 ·subst e;rw[zr rfl]at h;split at h
  ·cases h;exact .inl ⟨rfl,rfl,by assumption⟩
  ·cases h
 ·rw[zI e]at h;exact .inr ⟨λz=>e z.symm,h⟩
theorem HN{l:Y α}(x:α)(h:i<l.length):(l.set i x)[i]?=O x:=by
 rw[yA,zr rfl,zr h]
theorem HS{l:Y α}(x:α)(h:j≠i):(l.set i x)[j]?=l[j]?:=by
 rw[yA,zI (KB h)]
theorem bR.set{H1:Hp}{ρ:Ev}{b:Bx}(E:bR K H0 H σ ρ)(s:AV H H1)(r:bC K H1 b v)(u:uR b=true\/loose b=false)(n:Nw H b v):bR K H0 H1 (σ.set i (O v)) (ρ.set i (O b)):=by
 have C:=E.grow s;have D:∀(j:Nat) (g:Bx) (a:A1),ρ[j]?=O (O g)->loose g=true->σ[j]?=O (O (.ref a))->H a≠Y3:=λj g a e1 e2 e3 z=>by
  obtain⟨I,h,x⟩:=E.val j g e1;rw[e3]at h;cases h;cases g with
  |z d=>cases e2
  |l ds=>
   obtain⟨A,vs,f,q,_⟩:=x;cases f;rcases q with q|⟨o,q⟩<;>(rw[z]at q;cases q)
  |o ds=>
   obtain⟨A,vs,f,q,_⟩:=x;cases f;rw[z]at q;cases q
  |n ds=>
   obtain⟨A,vs,f,q,_⟩:=x;cases f;rcases q with q|⟨o,q⟩<;>(rw[z]at q;cases q)
  |m ds _=>
   obtain⟨A,vs,f,q,_⟩:=x;cases f;rw[z]at q;cases q
 have B:uR b=true->∀a,v=.ref a->H a=Y3:=λG=>by
  cases b with
  |o ds=>exact n
  |m ds _=>exact n
  |_=>cases G
 refine⟨by rw[kP,kP];exact E.len,λj g e=>?_,λj k c a g e1 p e2 e3 h f=>?_,C.base,λj c a e1 p e2=>?_⟩
 ·rcases BA e with⟨rfl,e',hi⟩|⟨w,e'⟩
  ·cases e';exact⟨v,HN _ (by rw[E.len];exact hi),r⟩
  ·rw[HS _ w];exact C.val j g e'
 ·rcases BA e1 with⟨rfl,e',hi⟩|⟨w,e'⟩
  ·cases e';rw[HN _ (by rw[E.len];exact hi)]at e2;cases e2;rcases BA e3 with⟨rfl,t,_⟩|⟨y,t⟩
   ·rfl
   ·rw[HS _ y]at f;exact absurd (B p a Y2) (D k g a t h f)
  ·rw[HS _ w]at e2;rcases BA e3 with⟨rfl,t,hi⟩|⟨y,t⟩
   ·cases t;rw[HN _ (by rw[E.len];exact hi)]at f;cases f;have F:loose c=true:=by cases c<;>first|rfl|cases p
    rcases u with u|u
    ·exact absurd (B u a Y2) (D j _ a e' F e2)
    ·rw[u]at h;cases h
   ·rw[HS _ y]at f;exact E.own j k c a g e' p e2 t h f
 ·rcases BA e1 with⟨rfl,e',hi⟩|⟨w,e'⟩
  ·cases e';rw[HN _ (by rw[E.len];exact hi)]at e2;cases e2;exact E.base.free (B p a Y2)
  ·rw[HS _ w]at e2;exact E.new j c a e' p e2
def Yy(ρ:Ev)(i:Nat):Bx->S Ev
 |.l _=>Y3
 |.n _=>Y3
 |b=>O (ρ.set i (O b))
theorem WR{H1:Hp}{ρ ρ':Ev}{b:Bx}(E:bR K H0 H σ ρ)(s:AV H H1)(r:bC K H1 b v)(n:Nw H b v)(e:Yy ρ i b=O ρ'):bR K H0 H1 (σ.set i (O v)) ρ':=by
 cases b with
 |l ds=>cases e
 |z d=>cases e;exact E.set s r (.inr Y2) n
 |o d=>cases e;exact E.set s r (.inl Y2) n
 |n ds=>cases e
 |m d _=>cases e;exact E.set s r (.inl Y2) n
theorem aY(i:Nat){p:Pos}(j:X.N.Nodup)(he:QV X e f)(hi:X.N[i]?=O x:=by rfl)(hx:Ch X.env.scope x:=by first|exact ku rfl|exact j3 Y2)(hs:swapsWith e (O (.Name x p)) pos.line X.env=pure false:=by rfl)(l:X.fn x=true\/X.env.scope.names.lookup x=O .local:=by first|exact .inl rfl|exact .inr Y2):Rj X (.Assign [.Name x p] e pos) (λρ=>(f ρ).bind λb=>(Yy ρ i b).bind λρ'=>O (.nx ρ')):=⟨have he:=he.run;WL (Z6 j hi hx he hs l) λD σ H h=>by
 obtain⟨H0,ρ,r,E,e,q⟩:=h;obtain⟨b,eb,e⟩:=AT e;obtain⟨ρ',c,e⟩:=AT e;cases e;exact⟨H0,ρ,b,E,eb,λv H1 d a g=>q _ _ (WR E d g a c)⟩⟩
def Lo(σ:L2.St)(ρ:Ev)(σ':L2.St)(ρ':Ev):Prop:=∀(j:Nat) b,loose b=true->ρ'[j]?=O (O b)->ρ[j]?=O (O b)/\σ'[j]?=σ[j]?
theorem Lo.refl{ρ:Ev}:Lo σ ρ σ ρ:=λ_ _ _ e=>⟨e,rfl⟩
theorem Lo.trans{σ g d:L2.St}{ρ f h:Ev}(a:Lo σ ρ g f)(b:Lo g f d h):Lo σ ρ d h:=λj c l e=>by
 obtain⟨e1,e2⟩:=b j c l e;obtain⟨e3,i⟩:=a j c l e1;exact⟨e3,e2.trans i⟩
theorem Lo.set{ρ:Ev}(i:Nat)(v:V)(d:Dt):Lo σ ρ (σ.set i (O v)) (ρ.set i (O (.z d))):=λj b l e=>by
 rcases BA e with⟨rfl,e',_⟩|⟨a,e'⟩
 ·cases e';cases l
 ·exact⟨e',HS _ a⟩
def M3(K:B4)(g:Dt->Ev->S Ev):TG:=λv σ H Q=>∃H0 ρ d a,bR K H0 H σ ρ/\AW K H d v/\g d ρ=O a/\∀ σ',bR K H0 H σ' a->Lo σ ρ σ' a->Q σ' H
def FA(X:Cx)(t:Expr)(g:Dt->Ev->S Ev):Prop:=PG X t (M3 X.K g)
structure ZM (X:Cx) (t:Expr) (g:Dt->Ev->Option Ev):Prop where
 run:FA X t g
theorem aP(i:Nat)(a:X.N.Nodup)(hi:X.N[i]?=O x:=by rfl)(hx:Ch X.env.scope x:=by first|exact ku rfl|exact j3 Y2)(c:X.fn x=true\/X.env.scope.names.lookup x=O .local:=by first|exact .inl rfl|exact .inr Y2):ZM X (.Name x pos) (λd ρ=>O (ρ.set i (O (.z d)))):=⟨λAN s σ H v u Q I r h=>by
 obtain⟨H0,ρ,d,g,E,f,e,q⟩:=h;cases e;exact Wu a hi hx c AN s σ H v u Q I r (q _ (E.set (b:=.z d) (AV.refl H) f (.inr Y2) trivial) (Lo.set i v d))⟩
def TK(K:B4)(g:Y Dt->Ev->S Ev):DD:=λvs σ H Q=>∃H0 ρ ds a,bR K H0 H σ ρ/\aO K H ds vs/\g ds ρ=O a/\∀ σ',bR K H0 H σ' a->Lo σ ρ σ' a->Q σ' H
def Os(X:Cx)(t:Y Expr)(g:Y Dt->Ev->S Ev):Prop:=L2.Uw X t (TK X.K g)
structure G1 (X:Cx) (t:List Expr) (g:List Dt->Ev->Option Ev):Prop where
 run:Os X t g
def rD:Y Dt->Ev->S Ev
 |[],ρ=>O ρ
 |_,_=>Y3
def bN(g:Dt->Ev->S Ev)(gs:Y Dt->Ev->S Ev):Y Dt->Ev->S Ev
 |d::ds,ρ=>(g d ρ).bind (gs ds)
 |_,_=>Y3
theorem lG  :G1 X [] rD:=⟨λAN s σ H vs us Q I r h=>by
 obtain⟨H0,ρ,ds,b,E,a,e,q⟩:=h;cases ds with
 |nil=>cases e;unfold aO at a;exact UR AN s σ H vs us Q I r ⟨a,q _ E Lo.refl⟩
 |cons d ds=>cases e⟩
theorem bw{t:Expr}{ts:Y Expr}{gt:Dt->Ev->S Ev}{gs:Y Dt->Ev->S Ev}(h1:ZM X t gt)(h2:G1 X ts gs)(hs:(assignEach (t::ts) X.env).map (·.2)=assign t X.env::(assignEach ts X.env).map (·.2):=by rfl):G1 X (t::ts) (bN gt gs):=⟨have h1:=h1.run;have h2:=h2.run;λAN s σ H vs us Q I r h=>by
 obtain⟨H0,ρ,ds,m,E,b,e,q⟩:=h;cases ds with
 |nil=>cases e
 |cons d ds=>
  unfold aO at b;obtain⟨v,n,rfl,l,o⟩:=b;simp only[bN]at e;obtain⟨a,e1,e⟩:=AT e;exact Z5 h1 h2 hs AN s σ H _ us Q I r ⟨v,n,rfl,H0,ρ,d,a,E,l,e1,λp f g=>⟨H0,a,ds,m,f,o,e,λc j i=>q c j (g.trans i)⟩⟩⟩
def pD(n:Nat)(gs:Y Dt->Ev->S Ev):Dt->Ev->S Ev
 |.tup ds,ρ=>if ds.length=n then gs ds ρ else Y3
 |_,_=>Y3
theorem pY{ts:Y Expr}{k:Nat}{gs:Y Dt->Ev->S Ev}(f:X.calm=true)(h:G1 X ts gs)(l:(assignEach ts X.env).length=n:=by rfl)(i:(assignEach ts X.env).findIdx? (·.1)=Y3:=by rfl):ZM X (.Tuple ts k pos) (pD n gs):=⟨have h:=h.run;λAN s σ H v u Q I r m=>by
 obtain⟨H0,ρ,d,o,E,c,e,q⟩:=m;cases d with
 |tup ds=>
  simp only[pD]at e;split at e
  ·rename_i g;unfold AW at c;obtain⟨a,vs,rfl,j,b⟩:=c;exact Op f h l i AN s σ H _ u Q I r ⟨a,vs,rfl,j,by rw[b.length];exact g,H0,ρ,ds,o,E,b,e,q⟩
  ·cases e
 |_=>cases e⟩
theorem zu{gt:Dt->Ev->S Ev}(he:QV X e f)(a:ZM X tg gt)(hs:swapsWithSole [tg] e pos.line X.env=pure false:=by rfl)(l:swappedStores [tg] e X.env=pure Y3:=by rfl)(h1:(assignEach [tg] X.env).map (·.2)=[assign tg X.env]:=by rfl):Rj X (.Assign [tg] e pos) (λρ=>(f ρ).bind λb=>match b with|.z d=>(gt d ρ).bind λρ'=>O (.nx ρ')|_=>Y3):=⟨have he:=he.run;have a:=a.run;WL (Pc he a hs l h1) λD σ H h=>by
 obtain⟨H0,ρ,r,E,e,q⟩:=h;obtain⟨b,eb,e⟩:=AT e;refine⟨H0,ρ,b,E,eb,λv H1 i m j=>?_⟩;cases b with
 |z d=>
  obtain⟨ρ',c,e⟩:=AT e;cases e;exact⟨H0,ρ,d,ρ',E.grow i,j,c,λσ' g _=>q _ _ g⟩
 |_=>cases e⟩
def GT(i j:Nat)(ρ:Ev):Y Bx->S Ap
 |[.z d,.z d']=>O (.nx ((ρ.set i (O (.z d))).set j (O (.z d'))))
 |_=>Y3
theorem OR(i j:Nat){px py pt:Pos}{kt k2 pt2}(f:X.calm=true)(w:X.N.Nodup)(c:Yw X [a,b] fs)(hi:X.N[i]?=O x:=by rfl)(o:X.N[j]?=O y:=by rfl)(l:i≠j:=by decide)(hx:X.env.scope.names.lookup x=O .local:=by rfl)(g:X.env.scope.names.lookup y=O .local:=by rfl)(v:swappedStores [.Tuple [.Name x px,.Name y py] kt pt] (.Tuple [a,b] k2 pt2) X.env=pure (O [x,y]):=by rfl)(hs:swapsWithSole [.Tuple [.Name x px,.Name y py] kt pt] (.Tuple [a,b] k2 pt2) pos.line X.env=pure false:=by rfl):Rj X (.Assign [.Tuple [.Name x px,.Name y py] kt pt] (.Tuple [a,b] k2 pt2) pos) (λρ=>(fs ρ).bind (GT i j ρ)):=⟨have c:=c.run;WL (XO f w hi o l hx g c v hs) λD σ H h=>by
 obtain⟨H0,ρ,r,E,e,q⟩:=h;obtain⟨bs,eb,e⟩:=AT e;refine⟨H0,ρ,bs,E,eb,λvs H1 s u=>?_⟩;unfold GT at e;split at e
 ·rename_i d n;cases e;cases u with
  |cons p t=>
   cases t with
   |cons p' m=>
    cases m;refine⟨_,_,rfl,q _ _ ?_⟩;exact((E.grow s).set (b:=.z d) (AV.refl H1) p (.inr Y2) trivial).set (b:=.z n) (AV.refl H1) p' (.inr Y2) trivial
 ·cases e⟩
def G0(ρ:Ev)(i:Nat):Bx->S Ap
 |.z d=>match ρ[i]? with
  |some (O (.o ds))=>if ds.length<AA then O (.nx (ρ.set i (O (.o (ds++[d])))))else Y3
  |_=>Y3
 |_=>Y3
theorem bR.agU{ρ:Ev}{t c1:Bx}{a:A1}{u:HO}(E:bR K H0 H σ ρ)(h:ρ[i]?=O (O t))(w:uR t=true)(hs:σ[i]?=O (O (.ref a)))(k:Kp H (B6 H a u))(r:bC K (B6 H a u) c1 (.ref a)):
  bR K H0 (B6 H a u) σ (ρ.set i (O c1)):=by
 have hi:i<ρ.length:=(List.getElem?_eq_some_iff.mp h).1;have hb:H0 a=Y3:=E.new i t a h w hs;have lo:∀c,uR c=true->loose c=true:=λc G=>by cases c<;>first|rfl|cases G
 refine⟨by rw[kP];exact E.len,λj y e=>?_,λj F c f y e1 B e2 e3 M N=>?_,λc o e=>?_,λj c f e1 B e2=>?_⟩
 ·rcases BA e with⟨rfl,e',_⟩|⟨C,e'⟩
  ·cases e';exact⟨_,hs,r⟩
  ·obtain⟨v,e1,x⟩:=E.val j y e';refine⟨v,e1,?_⟩;have A:∀f,v=.ref f->loose y=true->f≠a:=λf ev I z=>by
    subst z;exact C (E.own i j t _ _ h w hs e' I (by rw[e1,ev])).symm
   cases y with
   |z d=>exact AW.kp k x
   |l D=>
    obtain⟨f,s,rfl,q,p⟩:=x;refine⟨f,s,rfl,?_,p.kp k⟩;have g:=A f Y2 rfl;rcases q with q|⟨o,q⟩
    ·exact .inl (by rw[aR g];exact q)
    ·exact .inr ⟨o,by rw[aR g];exact q⟩
   |o D=>
    obtain⟨f,s,rfl,q,p⟩:=x;have g:=A f Y2 rfl;exact⟨f,s,rfl,by rw[aR g];exact q,p.kp k⟩
   |n D=>
    obtain⟨f,s,rfl,q,p⟩:=x;refine⟨f,s,rfl,?_,p.kp k⟩;have g:=A f Y2 rfl;rcases q with q|⟨o,q⟩
    ·exact .inl (by rw[aR g];exact q)
    ·exact .inr ⟨o,by rw[aR g];exact q⟩
   |m D=>
    obtain⟨f,s,rfl,q,p⟩:=x;have g:=A f Y2 rfl;exact⟨f,s,rfl,by rw[aR g];exact q,p.1.kp k,p.2⟩
 ·have back:∀(m:Nat) (b:Bx),(ρ.set i (O c1))[m]?=O (O b)->loose b=true->∃b0,ρ[m]?=O (O b0)/\loose b0=true/\(uR b=true->uR b0=true):=λm b e l=>by
   rcases BA e with⟨rfl,e',_⟩|⟨C,e'⟩
   ·exact⟨_,h,lo _ w,λ_=>w⟩
   ·exact⟨b,e',l,λz=>z⟩
  obtain⟨b0,q1,q2,L⟩:=back j _ e1 (lo _ B);obtain⟨b1,P,J,_⟩:=back F _ e3 M;exact E.own j F b0 f b1 q1 (L B) e2 P J N
 ·rw[aR (dH e hb)];exact E.base c o e
 ·rcases BA e1 with⟨rfl,e',_⟩|⟨C,e'⟩
  ·exact E.new _ t f h w e2
  ·exact E.new j c f e' B e2
theorem bR.aal{ρ:Ev}{ds es:Y Dt}{a:A1}{us:Y V}(E:bR K H0 H σ ρ)(h:ρ[i]?=O (O (.o ds)))(hs:σ[i]?=O (O (.ref a)))(b:H a=O (.lst vs))(r:aO K H es us):
  bR K H0 (B6 H a (.lst us)) σ (ρ.set i (O (.o es))):=E.agU h Y2 hs (.lst b) ⟨a,us,rfl,bH,r.kp (.lst b)⟩
theorem rE(i:Nat){p:Pos}(he:QV X e f)(B:X.N[i]?=O x:=by rfl)(y:ZK X.env.scope x:=by first|exact ku rfl|exact j3 (ku Y2)|exact j3 (j3 Y2))(hd:(x==("__debug__":AJ))=false:=by decide)(A:(x==("__classdict__":AJ))=false:=by decide)(l:A9 [e] X.env=[(false,eval e X.env)]:=by rfl)(s:attributeBase (.Name x p) "append" X.env (eval (.Name x p) X.env)=eval (.Name x p) X.env:=by rfl)(C:((AD cpos (A9 [e] X.env)).all (λx=>!x.1)&&(backToKw cpos (keywordEach [] X.env)).all (λx=>x.1.isSome)&&decide ([e].length+([]:Y AC).length+(if([]:Y AC).isEmpty then 0 else 1)<30))=true:=by rfl)(o:(apos.endLine==cpos.line)=true:=by rfl)(hs:swapsWith (.Call (.Attribute (.Name x p) "append" apos) [e] [] cpos) Y3 pos.line X.env=pure false:=by rfl):Rj X (.Expr (.Call (.Attribute (.Name x p) "append" apos) [e] [] cpos) pos) (λρ=>(f ρ).bind (G0 ρ i)):=⟨have he:=he.run;WL (Od (I0 PySem.F.plainAttrs_list PySem.F.slot_list_append PySem.F.type_list_append Mj (wG (i:=i) B y hd A) (xX he Hj (by rw[l]<;>rfl)) s C o (by rw[l]<;>rfl) Y2) hs) λD σ H h=>by
  obtain⟨H0,ρ,r,E,e,q⟩:=h;obtain⟨b,eb,e⟩:=AT e;cases b with
  |z d=>
   simp only[G0]at e;split at e
   ·rename_i ds m;split at e
    ·rename_i n;cases e;obtain⟨v,e1,a,vs,rfl,g,j⟩:=E.val i _ m;refine⟨_,e1,.inl ⟨rfl,vs,.inl (.inl g)⟩,H0,ρ,_,E,eb,λu H1 c G w=>?_⟩;have t:=E.grow c;refine⟨a,vs,u,rfl,rfl,c _ _ g,by rw[j.length];exact n,q _ _ ?_⟩;exact t.aal m e1 (c _ _ g) ((j.kp (.of c)).append (aO.cons w aO.nil))
    ·cases e
   ·cases e
  |_=>cases e⟩
end
def HU(x:AJ):It:=⟨λi _=>i<x.cps.size,λi H v H'=>H'=H/\∃c,x.cps[i]?=O c/\v=.str ⟨#[c]⟩,λi _=>x.cps.size<=i⟩
def P8(h:A6)(it:A1)(x:AJ)(i:Nat):Prop:=∃t,h.IsStrIter it "str_ascii_iterator" x t i\/h.IsStrIter it "str_iterator" x t i
theorem Rk(it:A1)(x:AJ):C4 P w K tg (HU x) [it] it (λi h=>P8 h it x i) where
 mem:=by simp
 obj:=λi h st b hb=>by
  have e:b=it:=by simpa using hb
  subst e;obtain⟨t,⟨o,e,c,d⟩|⟨o,e,c,d⟩⟩:=st
  ·exact⟨o,e,λv z=>by rw[d]at z;cases z⟩
  ·exact⟨o,e,λv z=>by rw[d]at z;cases z⟩
 keep:=λi h h' st k=>by
  obtain⟨t,⟨o,e,c⟩|⟨o,e,c⟩⟩:=st
  ·exact⟨t,.inl ⟨o,k it (by simp) o e,c⟩⟩
  ·exact⟨t,.inr ⟨o,k it (by simp) o e,c⟩⟩
 item:=by
  intro X A p u m i AN s σ H E I l st q;subst A p u;obtain⟨f0,f1,f2,g,a,j⟩:=l it (by simp);have hi:i<x.cps.size:=q;have hx:x.cps[i]?=O x.cps[i]:=by simp[hi]
  obtain⟨t,st|st⟩:=st
  ·refine wpAny_pyNext_ascii_item st hx λh' f n=>?_;have y:L2.AU X AN σ H { s with heap:=h',toks:=s.toks+1 }:=I.turned (λb o hb e=>(n.2 b hb).trans e) f0 f1 g a j;obtain⟨o,e,c,d⟩:=id f;exact⟨_,rfl,LQ (s:={ s with heap:=h',toks:=s.toks+1 }) e c d (by decide) ⟨.str ⟨#[x.cps[i]]⟩,H,y,⟨_,rfl⟩,⟨rfl,_,hx,rfl⟩,⟨t,.inl f⟩,λb hb=>(l b hb).1⟩⟩
  ·refine wpAny_pyNext_wide_item st hx λh' f n=>?_;have y:L2.AU X AN σ H { s with heap:=h',toks:=s.toks+1 }:=I.turned (λb o hb e=>(n.2 b hb).trans e) f0 f1 g a j;obtain⟨o,e,c,d⟩:=id f;exact⟨_,rfl,LQ (s:={ s with heap:=h',toks:=s.toks+1 }) e c d (by decide) ⟨.str ⟨#[x.cps[i]]⟩,H,y,⟨_,rfl⟩,⟨rfl,_,hx,rfl⟩,⟨t,.inr f⟩,λb hb=>(l b hb).1⟩⟩
 done:=by
  intro X A p u m i AN s σ H E I l st q;subst A p u;obtain⟨f0,f1,f2,g,a,j⟩:=l it (by simp);have hx:x.cps[i]?=Y3:=by have:x.cps.size<=i:=q;simp[this]
  obtain⟨t,st|st⟩:=st
  ·exact wpAny_pyNext_ascii_end (I.ok.hd m) st hx λh' eb=>⟨rfl,I.turned (t':=s.toks) (λb o hb e=>eb b o hb e) f0 f1 g a j⟩
  ·exact wpAny_pyNext_wide_end (I.ok.hd m) st hx λh' eb=>⟨rfl,I.turned (t':=s.toks) (λb o hb e=>eb b o hb e) f0 f1 g a j⟩
 self:=λ_ _ _ _ _ st h=>by
  obtain⟨t,st|st⟩:=st
  ·exact wpAny_pyIter_striter_ascii st h
  ·exact wpAny_pyIter_striter_wide st h
def PC(K:B4)(tl:TE):TI:=λσ H R=>tl σ H λx H1=>(∃a,x=.ref a/\(∃xs,uN K H1 a xs)/\R (GH K a) H1)\/(∃a,x=.ref a/\(∃xs,Cy K H1 a xs)/\R (GU K a) H1)\/∃y,x=.str y/\R (HU y) H1
theorem U8{l:Expr}{tl:TE}(g:PE X l tl):PI X tg l (PC X.K tl):=by
 intro AN s σ H R I h;refine iZ (g AN s σ H _ I h) λv s1 ⟨x,H1,I1,r1,q1⟩=>?_;have c:∀(o:AE) (b:A1),b∈[s1.heap.objs.size]->tK X AN H1 b:=λo b hb=>by
  have e:b=s1.heap.objs.size:=by simpa using hb
  subst e;exact I1.QZ (zk _) (I1.hok.fresh (zk _))
 rcases q1 with⟨a,e,⟨xs,d⟩,q⟩|⟨a,e,⟨xs,d⟩,q⟩|⟨y,e,q⟩
 ·subst e;cases r1;obtain⟨AQ,i,p,j⟩:=I1.list d;refine yv p.isList ?_;exact⟨s1.heap.objs.size,[s1.heap.objs.size],_,_,H1,rfl,I1.kept (t':=s1.toks) λb o e=>ze _ e,Yl a _,⟨_,zC _ rfl,rfl,rfl⟩,c default,q⟩
 ·subst e;cases r1;obtain⟨AQ,i,p,j⟩:=I1.tuple d;refine wpAny_pyIter_tuple (show s1.heap.IsTuple a AQ.toArray from p) ?_;exact⟨s1.heap.objs.size,[s1.heap.objs.size],_,_,H1,rfl,I1.kept (t':=s1.toks) λb o e=>ze _ e,Ux a _,⟨_,zC _ rfl,rfl,rfl⟩,c default,q⟩
 ·subst e;obtain⟨t,rfl⟩:=r1;cases f:y.cps.all (· < 128)with
  |true=>
   refine wpAny_pyIter_ascii f ?_;exact⟨s1.heap.objs.size,[s1.heap.objs.size],_,_,H1,rfl,I1.kept (t':=s1.toks) λb o e=>ze _ e,Rk _ y,⟨t,.inl ⟨_,zC _ rfl,rfl,rfl⟩⟩,c default,q⟩
  |false=>
   refine wpAny_pyIter_wide f ?_;exact⟨s1.heap.objs.size,[s1.heap.objs.size],_,_,H1,rfl,I1.kept (t':=s1.toks) λb o e=>ze _ e,Rk _ y,⟨t,.inr ⟨_,zC _ rfl,rfl,rfl⟩⟩,c default,q⟩
def B0(K:B4)(J:It)(ds:Y Dt)(Hs:Hp):Prop:=∀(i:Nat) (H:Hp),AV Hs H →
 (∀d,ds[i]?=O d->J.go i H/\∀x H',J.yld i H x H'->AV H H'/\AW K H' d x)/\(ds.length<=i->J.stop i H)
theorem B0.of{ds:Y Dt}(h:∀(i:Nat) (H:Hp),AV Hs H →
  (∀d,ds[i]?=O d->J.go i H/\∀x H',J.yld i H x H'->H'=H/\AW K H d x)/\(ds.length<=i->J.stop i H)):B0 K J ds Hs:=λi H s=>
 ⟨λd e=>⟨((h i H s).1 d e).1,λx H' y=>by
  obtain⟨rfl,r⟩:=((h i H s).1 d e).2 x H' y;exact⟨AV.refl _,r⟩⟩,(h i H s).2⟩
def Bz(x:AJ):Y Dt:=x.cps.toList.map λc=>.str ⟨#[c]⟩
theorem B0.list{ds:Y Dt}(h:uN K Hs a vs)(r:aO K Hs ds vs):B0 K (GH K a) ds Hs:=.of λi H s=>by
 have h':=s.seq h;have c:=r.kp (.of s);refine⟨λd e=>?_,λe=>⟨vs,h',by rw[r.length];exact e⟩⟩;obtain⟨v,ev,b⟩:=c.get e;refine⟨⟨vs,v,h',ev⟩,λx H' y=>?_⟩;obtain⟨y1,y2⟩:=y;have:=y2 vs h';rw[ev]at this;cases this;exact⟨y1,b⟩
theorem B0.tup{ds:Y Dt}(h:Cy K Hs a vs)(r:aO K Hs ds vs):B0 K (GU K a) ds Hs:=.of λi H s=>by
 have h':=(Kp.of s).sqT h;have c:=r.kp (.of s);refine⟨λd e=>?_,λe=>⟨vs,h',by rw[r.length];exact e⟩⟩;obtain⟨v,ev,b⟩:=c.get e;refine⟨⟨vs,v,h',ev⟩,λx H' y=>?_⟩;obtain⟨y1,y2⟩:=y;have:=y2 vs h';rw[ev]at this;cases this;exact⟨y1,b⟩
theorem B0.str(x:AJ):B0 K (HU x) (Bz x) Hs:=.of λi H s=>by
 refine⟨λd e=>?_,λe=>?_⟩
 ·unfold Bz at e;rw[ZE]at e;cases h:x.cps.toList[i]? with
  |none=>rw[h]at e;cases e
  |some c=>
   rw[h]at e;cases e;have b:x.cps[i]?=O c:=by simpa using h
   have hi:i<x.cps.size:=by
    have:=(List.getElem?_eq_some_iff.mp h).1;simpa using this
   refine⟨hi,λv H' y=>?_⟩;obtain⟨y1,f,a,rfl⟩:=y;rw[b]at a;cases a;refine⟨y1,?_⟩;unfold AW;exact⟨rfl,by show(1:Nat)<=AA;decide⟩
 ·have:(Bz x).length=x.cps.size:=by simp[Bz]
  show x.cps.size<=i;omega
def Rn(lo:Int)(n:Nat):Y Dt:=(List.range n).map λk=>.int (lo+(k:Nat))
theorem B0.rng(lo:Int)(n:Nat):B0 K (GI lo n) (Rn lo n) Hs:=.of λi H s=>by
 refine⟨λd e=>?_,λe=>?_⟩
 ·unfold Rn at e;rw[ZE]at e;by_cases hi:i<n
  ·rw[kB hi]at e;cases e;refine⟨hi,λv H' y=>?_⟩;obtain⟨y1,y2⟩:=y;refine⟨y1,?_⟩;unfold AW;exact y2
  ·rw[qr (by simp;omega)]at e;cases e
 ·have:(Rn lo n).length=n:=by simp[Rn]
  show n<=i;omega
def iF(K:B4)(f:Ev->S (Y Dt)):TI:=λσ H R=>∃H0 ρ ds,bR K H0 H σ ρ/\f ρ=O ds/\∀J H',AV H H' →
 (∀Hs,AV Hs H'->(∀a,H a=Y3->Hs a=H' a)->(∀a o u,H' a=O (.tH o u)->Hs a=H' a)->(∀a vs,H' a=O (.tup vs)->Hs a=H' a)->B0 K J ds Hs)->R J H'
def MH(X:Cx)(tg iter:Expr)(f:Ev->S (Y Dt)):Prop:=PI X tg iter (iF X.K f)
structure EW (X:Cx) (tg iter:Expr) (f:Ev->Option (List Dt)):Prop where
 run:MH X tg iter f
def FG:Bx->S (Y Dt)
 |.z (.lst ds)=>O ds
 |.z (.tup ds)=>O ds
 |.z (.str x)=>O (Bz x)
 |.o ds=>O ds
 |_=>Y3
section
variable{f:Ev->S Bx}{fs:Ev->S (Y Bx)}
mutual
theorem AW.part{K:B4}{H Hs:Hp}(b:∀a o u,H a=O (.tH o u)->Hs a=H a)(c:∀a vs,H a=O (.tup vs)->Hs a=H a):∀{d:Dt} {v:V},AW K H d v->AW K Hs d v
 |.non,_,h=>by simpa only[AW]using h
 |.bl _,_,h=>by simpa only[AW]using h
 |.int _,_,h=>by simpa only[AW]using h
 |.str _,_,h=>by simpa only[AW]using h
 |.tup ds,_,h=>by
  simp only[AW]at h ⊢;obtain⟨a,vs,e,q,r⟩:=h;refine⟨a,vs,e,?_,aO.part b c r⟩;rcases q with (q|⟨o,q⟩)|q
  ·exact .inl (.inl ((c _ _ q).trans q))
  ·exact .inl (.inr ⟨o,(b _ _ _ q).trans q⟩)
  ·exact .inr q
 |.lst ds,_,h=>by
  simp only[AW]at h ⊢;obtain⟨a,vs,e,q,r⟩:=h;refine⟨a,vs,e,?_,aO.part b c r⟩;rcases q with⟨o,q⟩|q
  ·exact .inl ⟨o,(b _ _ _ q).trans q⟩
  ·exact .inr q
 |.emp,_,h=>by
  simp only[AW]at h ⊢;obtain⟨a,o,e,q⟩:=h;exact⟨a,o,e,(b _ _ _ q).trans q⟩
theorem aO.part{K:B4}{H Hs:Hp}(c:∀a o u,H a=O (.tH o u)->Hs a=H a)(b:∀a vs,H a=O (.tup vs)->Hs a=H a):∀{ds:Y Dt} {vs:Y V},aO K H ds vs->aO K Hs ds vs
 |[],_,h=>by simpa only[aO]using h
 |d::ds,_,h=>by
  simp only[aO]at h ⊢;obtain⟨v,r,e,q,t⟩:=h;exact⟨v,r,e,AW.part c b q,aO.part c b t⟩
end
theorem Gx(h:QV X e f):EW X tg e (λρ=>(f ρ).bind FG):=⟨have h:=h.run;λAN s σ H R I q=>by
 refine U8 h AN s σ H R I ?_;obtain⟨H0,ρ,ds,E,e,q⟩:=q;obtain⟨b,eb,e⟩:=AT e;refine⟨H0,ρ,b,E,eb,λv H1 w y j=>?_⟩;cases b with
 |z d=>
  cases d with
  |tup t=>
   cases e;simp only[bC,AW]at j;obtain⟨a,vs,rfl,c,p⟩:=j;refine .inr (.inl ⟨a,rfl,⟨vs,c⟩,q _ _ w λHs hs u g i=>.tup ?_ (p.part g i)⟩);rcases c with (c|⟨o,c⟩)|c
   ·exact .inl (.inl ((i _ _ c).trans c))
   ·exact .inl (.inr ⟨o,(g _ _ _ c).trans c⟩)
   ·exact .inr c
  |lst t=>
   cases e;simp only[bC,AW]at j;obtain⟨a,vs,rfl,c,p⟩:=j;refine .inl ⟨a,rfl,⟨vs,c.sq⟩,q _ _ w λHs hs u g i=>.list ?_ (p.part g i)⟩;rcases c with⟨o,c⟩|c
   ·exact .inl (.inr ⟨o,(g _ _ _ c).trans c⟩)
   ·exact .inr c
  |str x=>
   cases e;simp only[bC,AW]at j;obtain⟨rfl,_⟩:=j;exact .inr (.inr ⟨x,rfl,q _ _ w λHs hs u g i=>.str x⟩)
  |_=>cases e
 |l t=>cases e
 |n t=>cases e
 |m t=>cases e
 |o t=>
  cases e;obtain⟨a,vs,rfl,c,p⟩:=j;refine .inl ⟨a,rfl,⟨vs,.inl (.inl c)⟩,q _ _ w λHs hs u g i=>.list (.inl (.inl ((u a (y a Y2)).trans c))) (p.part g i)⟩⟩
def HE:Y Bx->S (Y Dt)
 |[.z (.int j)]=>if -(2 ^ 62)<=j/\j<2 ^ 62 then O (Rn 0 j.toNat)else Y3
 |_=>Y3
theorem pF{p:Pos}(c:Gl X "range")(g:X.mg "range"=Y3)(a:Yw X [e] fs)(hs:A9 [e] X.env=[(false,eval e X.env)]:=by rfl):EW X tg (.Call (.Name "range" p) [e] [] pos) (λρ=>(fs ρ).bind HE):=⟨have a:=a.run;λAN s σ H R I q=>by
 refine Ym c g a hs AN s σ H R I ?_;obtain⟨H0,ρ,ds,E,e,q⟩:=q;obtain⟨bs,eb,e⟩:=AT e;refine⟨H0,ρ,bs,E,eb,λvs H1 d f=>?_⟩;unfold HE at e;split at e
 ·rename_i j;split at e
  ·rename_i b;cases e;cases f with
   |cons p t=>
    cases t;simp only[bC,AW]at p;subst p;exact⟨j,rfl,b.1,b.2,q _ _ d λHs _ _ _ _=>.rng 0 _⟩
  ·cases e
 ·cases e⟩
def rW(gt:Dt->Ev->S Ev)(gb:Ev->S Ap):Y Dt->Ev->S Ap
 |[],ρ=>O (.nx ρ)
 |d::ds,ρ=>(gt d ρ).bind λc=>(gb c).bind λr=>match r with
  |.nx a=>rW gt gb ds a
  |.ct a=>rW gt gb ds a
  |.bk a=>O (.nx a)
  |.rt b=>O (.rt b)
noncomputable def iB(H:Hp)(σ:L2.St)(ρ:Ev):Hp:=λa=>@ite _ (∃(i:Nat) (c:Bx),ρ[i]?=O (O c)/\uR c=true/\σ[i]?=O (O (.ref a))) (Classical.propDecidable _) Y3 (H a)
theorem Ad{ρ:Ev}:AV (iB H σ ρ) H:=λa o e=>by
 unfold iB at e;split at e
 ·cases e
 ·exact e
theorem bR.rebase{ρ:Ev}(E:bR K Hs H σ ρ)(s:AV H0 Hs):bR K H0 H σ ρ:=⟨E.len,E.val,E.own,s.trans E.base,λi c a e1 b e2=>s.free (E.new i c a e1 b e2)⟩
theorem bR.sans{ρ:Ev}(E:bR K H0 H σ ρ):bR K (iB H σ ρ) H σ ρ:=⟨E.len,E.val,E.own,Ad,λi c a e1 b e2=>by
 unfold iB;rw[zr ⟨i,c,e1,b,e2⟩]⟩
theorem bR.sub{ρ:Ev}(E:bR K H0 H σ ρ):AV H0 (iB H σ ρ):=λa o e=>by
 unfold iB;split
 ·rename_i h;obtain⟨i,c,e1,b,e2⟩:=h;rw[E.new i c a e1 b e2]at e;cases e
 ·exact E.base a o e
theorem j5{ρ:Ev}(E:bR K H0 H σ ρ)(h:∀vs,H a≠O (.lst vs))(h2:∀vs,H a≠O (.dK vs)):iB H σ ρ a=H a:=by
 unfold iB;split
 ·rename_i g;obtain⟨i,c,e1,e,e2⟩:=g;obtain⟨v,e3,d⟩:=E.val i _ e1;rw[e2]at e3;cases e3;cases c with
  |o ds=>obtain⟨f,vs,b,q,_⟩:=d;cases b;exact absurd q (h vs)
  |m ds _=>obtain⟨f,vs,b,q,_⟩:=d;cases b;exact absurd q (h2 vs)
  |_=>cases e
 ·rfl
theorem U6.rebase{K:B4}{H0 Hs:Hp}{D:C3}{r:Ap}(s:AV H0 Hs)(h:U6 K H0 D r):U6 K Hs D r:=by
 cases r with
 |nx ρ=>exact λσ H E=>h σ H (E.rebase s)
 |bk ρ=>exact λσ H E=>h σ H (E.rebase s)
 |ct ρ=>exact λσ H E=>h σ H (E.rebase s)
 |rt b=>exact λv H s' n r=>h v H (s.trans s') (n.old s) r
theorem uy{gt:Dt->Ev->S Ev}{gb:Ev->S Ap}{ds:List Dt}{H1:Hp}{ρ:Ev}{D:C3}{r:Ap}(s:bR X.K H0 H1 σ ρ)(Y:B0 X.K J ds (iB H1 σ ρ))(e:rW gt gb ds ρ=O r)(q:U6 X.K H0 D r):
  ∃W:Nat->Nat->L2.St->Hp->Prop,(∃m,W 0 m σ H1)/\∀i m σ H,W i m σ H →
   (J.stop i H/\D.nx σ H)\/(J.go i H/\∃N:L2.St->Hp->Prop,(∀ σ' H',N σ' H'->∃n,n<m/\W (i+1) n σ' H')/\∀x H',J.yld i H x H'->M3 X.K gt x σ H' λc H2=>tG X.K gb { D with nx:=N,ct:=N,bk:=D.nx } c H2):=by
 have p:=s.sans;have q2:=q.rebase s.sub;generalize iB H1 σ ρ=Hs at Y p q2;refine⟨λi m σ' H'=>m=ds.length-i/\i<=ds.length/\∃d,bR X.K Hs H' σ' d/\rW gt gb (ds.drop i) d=O r,⟨ds.length,by simp,QU _,ρ,p,by simpa using e⟩,?_⟩;rintro i m σ' H' ⟨rfl,C,d,g,e'⟩;obtain⟨y1,y2⟩:=Y i H' g.base;by_cases j:i<ds.length
 ·right;have hd:ds[i]?=O ds[i]:=by simp[j]
  obtain⟨y,w⟩:=y1 _ hd;rw[List.drop_eq_getElem_cons j]at e';simp only[rW]at e';obtain⟨t,e1,e'⟩:=AT e';obtain⟨l,e2,e'⟩:=AT e';refine⟨y,λc H2=>∃a,bR X.K Hs H2 c a/\rW gt gb (ds.drop (i+1)) a=O r,λc H2 ⟨a,f,e3⟩=>⟨ds.length-(i+1),by omega,rfl,j,a,f,e3⟩,λx H2 z=>?_⟩;obtain⟨u,v⟩:=w x H2 z;refine⟨Hs,d,ds[i],t,g.grow u,v,e1,λB f _=>⟨Hs,t,l,f,e2,?_⟩⟩;cases l with
  |nx a=>exact λc A h=>⟨a,h,e'⟩
  |ct a=>exact λc A h=>⟨a,h,e'⟩
  |bk a=>cases e';exact q2
  |rt b=>cases e';exact q2
 ·left;have o:ds.length<=i:=by omega
  refine⟨y2 o,?_⟩;rw[List.drop_eq_nil_of_le o]at e';cases e';exact q2 σ' H' g
theorem wJ{fi:Ev->S (Y Dt)}{gt:Dt->Ev->S Ev}{gb:Ev->S Ap}(hp:PassesOwn (A8 X.prog X.w) X.A X.env X.xe)(n:X.calm=true)(hi:EW X tg iter fi)(f:ZM X tg gt)(hb:U7 X body gb)(hs:∀x,foldedSetIterable iter X.env x=pure x:=by intro _;rfl):Rj X (.For tg iter body [] pos) (λρ=>(fi ρ).bind λds=>rW gt gb ds ρ):=⟨have hi:=hi.run;have f:=f.run;have hb:=hb.run;WL (Z9 hp n hi f hb hs) λD σ H h=>by
 obtain⟨H0,ρ,r,E,e,q⟩:=h;obtain⟨ds,l,e⟩:=AT e;refine⟨H0,ρ,ds,E,l,λJ H1 t y=>?_⟩;have d:=E.grow t;refine uy d ?_ e q;refine y _ Ad (λa b=>?_) (λa o u b=>j5 d (λvs z=>by rw[b]at z;cases z) (λvs z=>by rw[b]at z;cases z)) λa vs b=>j5 d (λvs z=>by rw[b]at z;cases z) (λvs z=>by rw[b]at z;cases z);unfold iB;split
 ·rename_i B;obtain⟨i,c,e1,p,e2⟩:=B;obtain⟨v,e3,j⟩:=E.val i _ e1;rw[e2]at e3;cases e3;cases c with
  |o ds=>obtain⟨s,vs,g,q,_⟩:=j;cases g;rw[b]at q;cases q
  |m ds _=>obtain⟨s,vs,g,q,_⟩:=j;cases g;rw[b]at q;cases q
  |_=>cases p
 ·rfl⟩
theorem bR.lend{ρ:Ev}{ds:Y Dt}(E:bR K H0 H σ ρ)(h:ρ[i]?=O (O (.o ds))):bR K H0 H σ (ρ.set i (O (.l ds))):=by
 have back:∀(j:Nat) (b:Bx),(ρ.set i (O (.l ds)))[j]?=O (O b)->(j=i/\b=.l ds)\/(j≠i/\ρ[j]?=O (O b)):=λj b e=>by
  rcases BA e with⟨rfl,e',_⟩|⟨f,e'⟩
  ·cases e';exact .inl ⟨rfl,rfl⟩
  ·exact .inr ⟨f,e'⟩
 refine⟨by rw[kP];exact E.len,λj b e=>?_,λj k c a b e1 d e2 e3 m g=>?_,E.base,λj c a e1 d e2=>?_⟩
 ·rcases back j b e with⟨rfl,rfl⟩|⟨f,e'⟩
  ·obtain⟨v,e1,a,vs,e2,q,r⟩:=E.val _ _ h;exact⟨v,e1,a,vs,e2,.inl q,r⟩
  ·exact E.val j b e'
 ·rcases back j _ e1 with⟨rfl,z⟩|⟨f,e'⟩
  ·subst z;cases d
  ·rcases back k _ e3 with⟨rfl,z⟩|⟨p,n⟩
   ·exact E.own j _ c a _ e' d e2 h Y2 g
   ·exact E.own j k c a b e' d e2 n m g
 ·rcases back j _ e1 with⟨rfl,z⟩|⟨f,e'⟩
  ·subst z;cases d
  ·exact E.new j c a e' d e2
def rY(i:Nat)(gt:Dt->Ev->S Ev)(gb:Ev->S Ap)(ρ:Ev):S Ap:=match ρ[i]? with
 |some (O (.o ds))=>rW gt gb ds (ρ.set i (O (.l ds)))
 |some (O (.l ds))=>rW gt gb ds ρ
 |some (O b)=>(FG b).bind λds=>rW gt gb ds ρ
 |_=>Y3
theorem MS{ρ:Ev}{ds:Y Dt}(E:bR X.K H0 H σ ρ)(h:ρ[i]?=O (O (.l ds))):∃a vs,σ[i]?=O (O (.ref a))/\uN X.K H a vs/\B0 X.K (GH X.K a) ds (iB H σ ρ):=by
 obtain⟨v,e1,a,vs,rfl,q,r⟩:=E.val i _ h;have d:iB H σ ρ a=H a:=by
  unfold iB;split
  ·rename_i f;obtain⟨j,c,e2,e,e3⟩:=f;have:=E.own j i c a _ e2 e e3 h Y2 e1;subst this;rw[h]at e2;cases e2;cases e
  ·rfl
 refine⟨a,vs,e1,.inl q,.list (.inl ?_) (r.part (λb o u hb=>j5 E (λvs z=>by rw[hb]at z;cases z) (λvs z=>by rw[hb]at z;cases z)) λb g hb=>j5 E (λvs z=>by rw[hb]at z;cases z) (λvs z=>by rw[hb]at z;cases z))⟩;rcases q with q|⟨o,q⟩
 ·exact .inl (d.trans q)
 ·exact .inr ⟨o,d.trans q⟩
theorem Ae(i:Nat){p:Pos}{gt:Dt->Ev->S Ev}{gb:Ev->S Ap}(hp:PassesOwn (A8 X.prog X.w) X.A X.env X.xe)(J:X.calm=true)(C:ZM X tg gt)(hb:U7 X body gb)(P:X.N[i]?=O x:=by rfl)(L:ZK X.env.scope x:=by first|exact ku rfl|exact j3 (ku Y2)|exact j3 (j3 Y2))(hd:(x==("__debug__":AJ))=false:=by decide)(M:(x==("__classdict__":AJ))=false:=by decide)(hs:∀y,foldedSetIterable (.Name x p) X.env y=pure y:=by intro _;rfl):Rj X (.For tg (.Name x p) body [] pos) (rY i gt gb):=⟨have C:=C.run;have hb:=hb.run;WL (Z9 hp J (U8 (wG (i:=i) P L hd M)) C hb hs) λD σ H h=>by
 obtain⟨H0,ρ,r,E,e,q⟩:=h;unfold rY at e;split at e
 ·rename_i ds g;have I:=E.lend g;have hi:i<ρ.length:=(List.getElem?_eq_some_iff.mp g).1;obtain⟨a,vs,e1,sq,Y⟩:=MS I (HN _ hi);exact⟨_,e1,.inl ⟨a,rfl,⟨vs,sq⟩,uy I Y e q⟩⟩
 ·rename_i ds g;obtain⟨a,vs,e1,sq,Y⟩:=MS E g;exact⟨_,e1,.inl ⟨a,rfl,⟨vs,sq⟩,uy E Y e q⟩⟩
 ·rename_i b K Q g;obtain⟨ds,f,e⟩:=AT e;obtain⟨v,e1,j⟩:=E.val i _ g;have t:∀b o u,H b=O (.tH o u)->iB H σ ρ b=H b:=λb o u hb=>j5 E (λvs z=>by rw[hb]at z;cases z) (λvs z=>by rw[hb]at z;cases z);have F:∀b G,H b=O (.tup G)->iB H σ ρ b=H b:=λb G hb=>j5 E (λvs z=>by rw[hb]at z;cases z) (λvs z=>by rw[hb]at z;cases z);cases b with
  |z d=>
   cases d with
   |tup s=>
    cases f;simp only[bC,AW]at j;obtain⟨a,vs,rfl,c,B⟩:=j;refine⟨_,e1,.inr (.inl ⟨a,rfl,⟨vs,c⟩,uy E (.tup ?_ (B.part t F)) e q⟩)⟩;rcases c with (c|⟨o,c⟩)|c
    ·exact .inl (.inl ((F _ _ c).trans c))
    ·exact .inl (.inr ⟨o,(t _ _ _ c).trans c⟩)
    ·exact .inr c
   |lst s=>
    cases f;simp only[bC,AW]at j;obtain⟨a,vs,rfl,c,B⟩:=j;refine⟨_,e1,.inl ⟨a,rfl,⟨vs,c.sq⟩,uy E (.list ?_ (B.part t F)) e q⟩⟩;rcases c with⟨o,c⟩|c
    ·exact .inl (.inr ⟨o,(t _ _ _ c).trans c⟩)
    ·exact .inr c
   |str x=>
    cases f;simp only[bC,AW]at j;obtain⟨rfl,_⟩:=j;exact⟨_,e1,.inr (.inr ⟨x,rfl,uy E (.str x) e q⟩)⟩
   |_=>cases f
  |l s=>cases f
  |o s=>exact absurd Y2 (K s)
  |n s=>cases f
  |m s=>cases f
 ·cases e⟩
end
def C6(a:Y (AJ×A1)):Y (AJ×A1)->Prop
 |[]=>True
 |(n,c)::r=>a.lookup n=O c/\C6 a r
theorem C6.get{a:Y (AJ×A1)}:∀{cl:Y (AJ×A1)},C6 a cl->∀{x:AJ} {c:A1},cl.lookup x=O c->a.lookup x=O c
 |[],_,_,_,e=>by cases e
 |(n,d)::r,h,x,c,e=>by
  rw[List.lookup_cons]at e;by_cases hx:x==n
  ·simp only[hx]at e;cases e;have:x=n:=by simpa using hx
   rw[this];exact h.1
  ·have hx:(x==n)=false:=by simpa using hx
   simp only[hx]at e;exact C6.get h.2 e
structure MQ (X:Cx) (scope:Scope) (cl:List (Str×Addr)) (x:Str) (i:Nat):Prop where
 n:X.N[i]?=some x
 k:X.env.kindOf x=some .cell\/X.env.kindOf x=some .free
 k':(relabel scope X.env).names.lookup x=some .cell\/(relabel scope X.env).names.lookup x=some .free
 c:∃c,cl.lookup x=some c
def Kr(X:Cx)(scope:Scope)(cl:Y (AJ×A1)):AZ->Y Nat->Prop
 |[],[]=>True
 |x::xs,i::is=>MQ X scope cl x i/\Kr X scope cl xs is
 |_,_=>False
theorem Kr.get{X:Cx}{scope:Scope}{cl:Y (AJ×A1)}:∀{xs:AZ} {is:Y Nat},Kr X scope cl xs is->xs.length=is.length/\∀(j:Nat) (x:AJ),xs[j]?=O x->∃i,is[j]?=O i/\MQ X scope cl x i
 |[],[],_=>⟨rfl,λj x e=>by simp at e⟩
 |x::xs,i::is,h=>by
  obtain⟨h1,h2⟩:=h;obtain⟨l,g⟩:=Kr.get h2;refine⟨by simp[l],λj y e=>?_⟩;cases j with
  |zero=>simp at e;subst e;exact⟨i,rfl,h1⟩
  |succ j=>obtain⟨k,e1,e2⟩:=g j y (by simpa using e);exact⟨k,by simpa using e1,e2⟩
 |[],_::_,h=>h.elim
 |_::_,[],h=>h.elim
def II(a:Y (AJ×NameKind))(x:AJ):Bool:=match a.lookup x with
 |some .cell=>true
 |_=>false
def yO(X:Cx)(a:AZ)(scope:Scope)(cl:Y (AJ×A1))(C:A1)(s₀:A2)(H₀:Hp)(fp:Y A1):Cx:=
 { X with N:=a,s₀:=s₀,H₀:=H₀,env:=compEnvC scope (cellsFrom (C+1) scope.names cl) C X.env,outer:=X.stack,ex:=fp,fn:=II scope.names,pn:=[],xe:=λ_ _=>False }
structure IP (h:Heap) (cs:List (Str×Addr)):Prop where
 inj:∀x y c,cs.lookup x=some c->cs.lookup y=some c->x=y
 cell:∀x c,cs.lookup x=some c->∃v,h.IsCell c v
theorem lX{n:AJ}{a:α}{l:Y (AJ×α)}(h:x≠n):((n,a)::l).lookup x=l.lookup x:=by
 rw[List.lookup_cons,beq_eq_false_iff_ne.mpr h]
theorem IX:∀(i:Y (AJ×NameKind)) (h:A6) (d:Y (AJ×A1)),IP h d->IP (pushCells h i) (cellsFrom h.objs.size i d)
 |[],_,_,x=>x
 |(n,k)::r,h,d,x=>by
  unfold pushCells cellsFrom;split
  ·have g:∀y c,d.lookup y=O c->c≠h.objs.size:=λy c e=>let ⟨_,q⟩:=x.cell y c e;z4 q.lt;have:=IX r (h.push { cls:=.type "cell",data:=.cell Y3 }) ((n,h.objs.size)::d) ⟨λy z c e1 e2=>?_,λy c e=>?_⟩
   ·rwa [qk]at this
   ·by_cases a:y=n<;>by_cases f:z=n
    ·rw[a,f]
    ·subst a;rw[kX]at e1;rw[lX f]at e2;cases e1;exact absurd Y2 (g _ _ e2)
    ·subst f;rw[kX]at e2;rw[lX a]at e1;cases e2;exact absurd Y2 (g _ _ e1)
    ·rw[lX a]at e1;rw[lX f]at e2;exact x.inj y z c e1 e2
   ·by_cases a:y=n
    ·subst a;rw[kX]at e;cases e;exact⟨Y3,_,zC _ rfl,rfl⟩
    ·rw[lX a]at e;obtain⟨v,q⟩:=x.cell y c e;exact⟨v,q.keeps λb o e=>ze _ e⟩
  ·exact IX r h d x
theorem Af:∀(b:Y (AJ×NameKind)) (n:Nat) (a:Y (AJ×A1)) (x:AJ) (c:A1),(cellsFrom n b a).lookup x=O c->a.lookup x=O c\/n<=c
 |[],_,_,_,_,e=>.inl e
 |(m,k)::r,n,a,x,c,e=>by
  unfold cellsFrom at e;split at e
  ·rcases Af r _ _ x c e with h|h
   ·by_cases hx:x=m
    ·subst hx;rw[kX]at h;cases h;exact .inr (zk _)
    ·rw[lX hx]at h;exact .inl h
   ·exact .inr (by omega)
  ·exact Af r _ _ x c e
theorem Oq:∀(b:Y (AJ×NameKind)) (n:Nat) (a:Y (AJ×A1)) (x:AJ),(x,NameKind.cell)∉b->(cellsFrom n b a).lookup x=a.lookup x
 |[],_,_,_,_=>rfl
 |(m,k)::r,n,a,x,h=>by
  unfold cellsFrom;have c:(x,NameKind.cell)∉r:=λz=>h (zi _ z);split
  ·rename_i d;rw[Oq r _ _ x c,lX λz=>h (by rw[z,<-beq_iff_eq.mp d];exact zh ..)]
  ·exact Oq r _ _ x c
theorem U9:∀(b:Y (AJ×NameKind)) (n:Nat) (a:Y (AJ×A1)) (x:AJ),((x,NameKind.cell)∈b\/∃c,a.lookup x=O c)->∃c,(cellsFrom n b a).lookup x=O c
 |[],_,_,_,h=>h.elim (λz=>by simp at z) λz=>z
 |(m,k)::r,n,a,x,h=>by
  unfold cellsFrom;split
  ·refine U9 r _ _ x ?_;by_cases hx:x=m
   ·exact .inr ⟨n,by rw[hx,kX]⟩
   ·rw[lX hx];exact h.imp_left λz=>(List.mem_cons.mp z).elim (λz=>absurd (congrArg Prod.fst z) hx) λz=>z
  ·rename_i d;exact U9 r _ _ x (h.imp_left λz=>(List.mem_cons.mp z).elim (λz=>by cases z;exact absurd Y2 d) λz=>z)
theorem Yz{g:A1}{Q:Env->A2->Prop}(h:Q (newEnv scope s.heap.objs.size g (cellsFrom (s.heap.objs.size+1) scope.names cl) qual Y3 .none (O env) builtinsNs) { s with heap:=pushCells (s.heap.push { cls:=.type "dict",data:=.dict #[] }) scope.names }):
  A7 M A (newFunctionEnv scope g cl [] qual Y3 .none (O env)) Q E s:=by
 simp only[newFunctionEnv,ym,QE];refine zd (wpAny_alloc ?_);refine zd (wpAny_layCells _ (λname a b=>by cases a==NameKind.cell<;>simp) _ _ _ _ ?_);rw[show({ s with heap:=s.heap.push { cls:=.type "dict",data:=.dict #[] } }:A2).heap.objs.size=s.heap.objs.size+1 from qk ..];rw[List.forIn_nil];exact zd (zg (zg h))
structure tL (X:Cx) (scope:Scope) (cl:List (Str×Addr)) (xs:AZ) (is:List Nat):Prop where
 clos:closureFor scope X.env=pure cl
 kind:scope.kind=.function
 cell:∀y∈scope.names,y.2=.cell->cl.lookup y.1=none
 names:∀y∈scope.names,y.2=.local->scope.names.lookup y.1=some .local
 sub:C6 X.env.cells cl
 has:∀x,((relabel scope X.env).names.lookup x=some .cell\/(relabel scope X.env).names.lookup x=some .free)->(x,NameKind.cell)∈scope.names\/∃c,cl.lookup x=some c
 cap:Kr X scope cl xs is
def zx(is:Y Nat)(σ:L2.St):L2.St:=is.map λi=>(σ[i]?).bind λv=>v
def lq(is:Y Nat)(ρ:Ev):Ev:=is.map λi=>zq ρ i
def YB(n m:Nat)(g:Dt->Ev->S Ev):Prop:=∀d ρ a,g d ρ=O a->a.length=ρ.length/\∀j,j<n\/m<=j->a[j]?=ρ[j]?
def GG(n m:Nat)(g:Y Dt->Ev->S Ev):Prop:=∀d ρ a,g d ρ=O a->a.length=ρ.length/\∀j,j<n\/m<=j->a[j]?=ρ[j]?
theorem cj{m:Nat}(h:n<=i:=by decide)(h':i<m:=by decide):YB n m (λd ρ=>O (ρ.set i (O (.z d)))):=λd ρ b e=>by
 cases e;exact⟨by rw[kP],λj a=>HS _ (by omega)⟩
theorem Gy{m:Nat}:GG n m rD:=λd ρ a e=>by
 cases d with
 |nil=>cases e;exact⟨rfl,λ_ _=>Y2⟩
 |cons=>cases e
theorem gR{m:Nat}{g:Dt->Ev->S Ev}{gs:Y Dt->Ev->S Ev}(h:YB n m g)(hs:GG n m gs):GG n m (bN g gs):=λd ρ o e=>by
 cases d with
 |nil=>cases e
 |cons d ds=>
  simp only[bN]at e;obtain⟨l,e1,e⟩:=AT e;obtain⟨a,b⟩:=h _ _ _ e1;obtain⟨f,i⟩:=hs _ _ _ e;exact⟨f.trans a,λj c=>(i j c).trans (b j c)⟩
theorem Ot{m k:Nat}{gs:Y Dt->Ev->S Ev}(hs:GG n m gs):YB n m (pD k gs):=λd ρ a e=>by
 cases d with
 |tup ds=>
  simp only[pD]at e;split at e
  ·exact hs _ _ _ e
  ·cases e
 |_=>cases e
def CT(gt:Dt->Ev->S Ev)(p:Ev->S Bool)(fs:Ev->S (Y Dt))(ρ:Ev):Y Dt->S (Y Dt)
 |[]=>O []
 |d::ds=>(gt d ρ).bind λa=>(p a).bind λk=>if k=true then(fs a).bind λys=>(CT gt p fs ρ ds).bind λzs=>O (ys++zs)else CT gt p fs ρ ds
def G':Bx->S (Y Dt)
 |.z y=>O [y]
 |_=>Y3
def DR(gt:Dt->Ev->S Ev)(p:Ev->S Bool)(fe:Ev->S Bx)(ρ:Ev):Y Dt->S (Y Dt):=CT gt p (λρ=>(fe ρ).bind G') ρ
theorem CV{b:Bx}{ys:Y Dt}(h:G' b=O ys):∃y,b=.z y/\ys=[y]:=by
 cases b<;>cases h;exact⟨_,rfl,rfl⟩
theorem yc{gt:Dt->Ev->S Ev}{p:Ev->S Bool}{fe:Ev->S Bx}{ρ:Ev}:∀{ds out:Y Dt},DR gt p fe ρ ds=O out->out.length<=ds.length
 |[],_,e=>by cases e;exact zk _
 |d::ds,out,e=>by
  simp only[DR,CT]at e;obtain⟨f,_,e⟩:=AT e;obtain⟨k,_,e⟩:=AT e;cases k with
  |false=>
   rw[zI ZO]at e;exact ZI (yc (gt:=gt) (p:=p) (fe:=fe) e) (by simp)
  |true=>
   rw[zr rfl]at e;obtain⟨ys,a,e⟩:=AT e;obtain⟨zs,c,e⟩:=AT e;obtain⟨b,_,a⟩:=AT a;obtain⟨y,_,rfl⟩:=CV a;cases e;simpa using yc (gt:=gt) (p:=p) (fe:=fe) c
def C5(X:Cx)(ifs:Y Expr)(p:Ev->S Bool):Prop:=(ifs=[]/\p=λ_=>O true)\/∃c,ifs=[c]/\PB X c p
structure wK (X:Cx) (ifs:List Expr) (p:Ev->Option Bool):Prop where
 run:C5 X ifs p
section
variable{xs:AZ}{gt:Dt->Ev->S Ev}{p:Ev->S Bool}{fe:Ev->S Bx}{fi:Ev->S (Y Dt)}
theorem dE{m:Hp}{d:A2}(a:L2.AU X AN σ m d)(O:tL X scope cl xs is)(t:∀b∈fp,tK X AN m b)(A:∀b∈fp,b<d.heap.objs.size):
  L2.AU (yO X (xs++ts) scope cl d.heap.objs.size d m fp) [] (zx is σ++List.replicate ts.length Y3) m { d with heap:=pushCells (d.heap.push { cls:=.type "dict",data:=.dict #[] }) scope.names }:=by
 obtain⟨G,E⟩:=O.cap.get;have g:=O.sub;have M:(d.heap.push { cls:=.type "dict",data:=.dict #[] }).objs.size=d.heap.objs.size+1:=qk ..;have w:∀b o,d.heap.get? b=some o->(pushCells (d.heap.push { cls:=.type "dict",data:=.dict #[] }) scope.names).get? b=some o:=λb o e=>pushCells_keeps _ _ b o (ze _ e);have C:IP (pushCells (d.heap.push { cls:=.type "dict",data:=.dict #[] }) scope.names) (cellsFrom (d.heap.objs.size+1) scope.names cl):=by
  rw[<-M];refine IX _ _ _ ⟨λx y c e1 e2=>a.ok.inj x y c (g.get e1) (g.get e2),λx c e=>?_⟩;obtain⟨v,q⟩:=a.cell x c (g.get e);exact⟨v,q.keeps λb o e=>ze _ e⟩
 have B:∀x c,(cellsFrom (d.heap.objs.size+1) scope.names cl).lookup x=some c->X.env.cells.lookup x=some c\/d.heap.objs.size<c:=λx c e=>(Af _ _ _ x c e).imp_left g.get;refine⟨⟨a.ok.mod,O.kind,a.ok.glob,a.ok.blt,zk _,C.inj,λx hx=>U9 _ _ _ x (O.has x hx),λx c hx e=>?_,a.ok.hd,a.ok.frames,.inl rfl,λb hb=>⟨z4 (A b hb),λx c e=>?_⟩,a.bs,ZI a.ok.bsz a.sz,λb o e hb=>?_,λb hb K=>?_,a.stack,a.Ws⟩,
  rfl,a.bare,Un.kept w,⟨_,(Heap.Ns.new d.heap (.type "dict")).keeps (pushCells_keeps _ _),λj x v e1 e2 _=>?_⟩,C.cell,a.hok.fresh (zk _),λx c e=>(B x c e).elim (a.su x c) λh=>a.hok.fresh (jS h),λq W=>absurd (show q∈([]:Y (A1×AE)) from W) (by simp),a.hok.kept w,?_⟩
 ·refine(Af _ _ _ x c e).elim (λh=>?_) λh=>jS h;have hx:(x,NameKind.cell)∈scope.names:=by
   have hx:II scope.names x=true:=hx;unfold II at hx;split at hx
   ·rename_i q;exact mem_of_lookup q
   ·cases hx
  rw[O.cell _ hx rfl]at h;cases h
 ·rcases B x c e with h|h
  ·exact(t b hb).2.2.2.2.1 x c h
  ·exact k9 (Nat.lt_trans (A b hb) h)
 ·obtain⟨_,_,_,z,_⟩:=t b hb;rcases z with z|z
  ·exact a.ok.Z0 b o e z
  ·exact absurd (ZZ (zD e) (ZI a.ok.bsz z)) (kc _)
 ·obtain⟨_,J,F,_⟩:=t b hb;rcases List.mem_cons.mp (a.Oa b K)with z|z
  ·exact J z
  ·exact F z
 ·have D:j<is.length:=by
   by_cases D:j<is.length
   ·exact D
   ·rw[QA (by simp[zx];omega)]at e2;rw[QY]at e2;split at e2<;>cases e2
  have H:xs[j]?=some x:=by
   have e1:(xs++ts)[j]?=some x:=e1;rw[ZY (by omega)]at e1;exact e1
  obtain⟨i,Q,f⟩:=E j x H;have e3:σ[i]?=some (some v):=by
   rw[ZY (by simp[zx];omega)]at e2;unfold zx at e2;rw[ZE,Q]at e2;cases q:σ[i]? with
   |none=>rw[Option.map_some,q]at e2;cases e2
   |some o=>
    rw[Option.map_some,q]at e2;have:o=some v:=by simpa using e2
    rw[this]
  have L:ZK X.env.scope x:=by
   rcases f.k with k|k
   ·exact .inr (.inl k)
   ·exact .inr (.inr k)
  obtain⟨m',Z,U⟩:=a.loc;obtain⟨u,r,l⟩:=U i x v f.n e3 L;refine⟨u,r,?_⟩;rcases l with⟨k,_⟩|⟨k,c,N,I⟩
  ·rcases f.k with s|s<;>(rw[k]at s;cases s)
  ·obtain⟨c',p⟩:=f.c;have:=g.get p;rw[N]at this;cases this;refine .inr ⟨f.k',c,(Oq _ _ _ x λz=>by rw[O.cell _ z rfl]at p;cases p).trans p,?_⟩;obtain⟨o,P,hd⟩:=I;exact⟨o,w c o P,hd⟩
 ·show(zx is σ++List.replicate ts.length Y3).length=(xs++ts).length;simp[zx,G]
theorem bR.caps{ρ:Ev}(E:bR K H0 H σ ρ)(is:Y Nat)(n:Nat):bR K H H (zx is σ++List.replicate n Y3) (lq is ρ++List.replicate n Y3):=by
 have f:∀(j:Nat) c,(lq is ρ++List.replicate n Y3)[j]?=O (O c)->uR c=false:=λj c e=>by
  by_cases g:j<is.length
  ·rw[ZY (by simp[lq];omega)]at e;unfold lq at e;rw[ZE]at e;cases q:is[j]? with
   |none=>rw[q]at e;cases e
   |some i=>
    rw[q]at e;have:zq ρ i=O c:=by simpa using e
    exact Aa this
  ·rw[QA (by simp[lq];omega),QY]at e;split at e<;>cases e
 refine⟨by simp[zx,lq],λj b e=>?_,λj k c a b e d=>absurd d (by rw[f j c e];exact ZO),AV.refl H,λj c a e d=>absurd d (by rw[f j c e];exact ZO)⟩;by_cases g:j<is.length
 ·rw[ZY (by simp[lq];omega)]at e;rw[ZY (by simp[zx];omega)];unfold lq at e;unfold zx;rw[ZE]at e ⊢;cases q:is[j]? with
  |none=>rw[q]at e;cases e
  |some i=>
   rw[q]at e;have:zq ρ i=O b:=by simpa using e
   obtain⟨v,e1,r⟩:=Rb E this;exact⟨v,by simp[e1],r⟩
 ·rw[QA (by simp[lq];omega),QY]at e;split at e<;>cases e
theorem bR.forget{ρ ρ':Ev}(E:bR K H0 H σ ρ')(g:ρ'.length=ρ.length)(h:∀(j:Nat) b,ρ[j]?=O (O b)->ρ'[j]?=O (O b)):bR K H0 H σ ρ:=
 ⟨E.len.trans g,λj b e=>E.val j b (h j b e),λi j c a b e1 d e2 e3 l f=>E.own i j c a b (h _ _ e1) d e2 (h _ _ e3) l f,E.base,λi c a e1 d e2=>E.new i c a (h _ _ e1) d e2⟩
structure D2 (Hb:Hp) (σ:L2.St) (ρ:Ev) (n:Nat):Prop where
 own:∀(j:Nat) c,ρ[j]?=some (some c)->uR c=false
 lt:∀(j:Nat) b,ρ[j]?=some (some b)->j<n
 old:∀(j:Nat) c a,ρ[j]?=some (some c)->loose c=true->σ[j]?=some (some (.ref a))->Hb a≠none
def Fx(σ σ':L2.St)(ρ:Ev):Prop:=∀(j:Nat) c,loose c=true->ρ[j]?=O (O c)->σ'[j]?=σ[j]?
theorem D2.fx{d:Hp}{σ':L2.St}{ρ:Ev}(P:D2 d σ ρ n)(f:Fx σ σ' ρ):D2 d σ' ρ n:=⟨P.own,P.lt,λj c a e b ea=>P.old j c a e b (by rw[<-f j c b e];exact ea)⟩
theorem F8{ρ:Ev}(E:bR K H0 H σ ρ)(j:Nat)(c:Bx)(a:A1)(e:ρ[j]?=O (O c))(h:loose c=true)(ea:σ[j]?=O (O (.ref a))):H a≠Y3:=λz=>by
 obtain⟨v,e1,b⟩:=E.val j _ e;rw[ea]at e1;cases e1;cases c with
 |z d=>cases h
 |l f=>
  obtain⟨g,vs,e2,q,_⟩:=b;cases e2;rcases q with q|⟨o,q⟩<;>(rw[z]at q;cases q)
 |n f=>
  obtain⟨g,vs,e2,q,_⟩:=b;cases e2;rcases q with q|⟨o,q⟩<;>(rw[z]at q;cases q)
 |o f=>
  obtain⟨g,vs,e2,q,_⟩:=b;cases e2;rw[z]at q;cases q
 |m f _=>
  obtain⟨g,vs,e2,q,_⟩:=b;cases e2;rw[z]at q;cases q
theorem bR.grown{g:Hp}{ρ:Ev}(E:bR K g H σ ρ)(P:D2 g σ ρ n)(h:g D=Y3)(kp:Kp H (B6 H D o)):bR K g (B6 H D o) σ ρ:=by
 refine⟨E.len,λj b e=>?_,λj k c a b e s=>absurd s (by rw[P.own j c e];exact ZO),λc o e=>?_,λj c a e s=>absurd s (by rw[P.own j c e];exact ZO)⟩
 ·obtain⟨v,ev,i⟩:=E.val j b e;refine⟨v,ev,?_⟩;cases b with
  |z d=>exact AW.kp kp i
  |o t=>have:=P.own j _ e;cases this
  |m t _=>have:=P.own j _ e;cases this
  |n t=>
   obtain⟨a,vs,rfl,q,p⟩:=i;refine⟨a,vs,rfl,?_,p.kp kp⟩;have f:a≠D:=λz=>P.old j _ _ e Y2 ev (by rw[z];exact h);exact q.imp (λq=>by rw[aR f];exact q) λ⟨o,q⟩=>⟨o,by rw[aR f];exact q⟩
  |l t=>
   obtain⟨a,vs,rfl,q,p⟩:=i;refine⟨a,vs,rfl,?_,p.kp kp⟩;have f:a≠D:=λz=>P.old j _ _ e Y2 ev (by rw[z];exact h);exact q.imp (λq=>by rw[aR f];exact q) λ⟨o,q⟩=>⟨o,by rw[aR f];exact q⟩
 ·rw[aR (dH e h)];exact E.base c o e
def Va(X:Cx)(el:A1->Env->Sem Unit)(fs:Ev->S (Y Dt))(Ac:A1->Hp->Y Dt->HO->Prop)(N n:Nat):Prop:=∀(AN:Y (A1×AE)) (s:A2) (σ:L2.St) (H a:Hp) (ρ:Ev) (D:A1) (o:HO) (o1 ys:Y Dt),L2.AU X AN σ H s->bR X.K a H σ ρ->D2 a σ ρ n->a D=Y3->fs ρ=O ys->H D=O o->Ac D H o1 o->o1.length+ys.length<=N →
 A7 (A8 X.prog X.w) X.A (el D X.env) (λ_ s'=>∃ σ' H' o',L2.AU X AN σ' H' s'/\bR X.K a H' σ' ρ/\Fx σ σ' ρ/\H' D=O o'/\Ac D H' (o1++ys) o') X.xe s
theorem NS{fs:Ev->S (Y Dt)}{Ac:A1->Hp->Y Dt->HO->Prop}{N:Nat}(h:∀(AN:Y (A1×AE)) (s:A2) (σ:L2.St) (H b:Hp) (ρ:Ev) (D:A1) (o:HO) (o1 ys:Y Dt),L2.AU X AN σ H s->bR X.K b H σ ρ->fs ρ=O ys->H D=O o->Ac D H o1 o->o1.length+ys.length<=N →
  A7 (A8 X.prog X.w) X.A (el D X.env) (λ_ s'=>∃a o',L2.AU X AN σ (B6 a D o') s'/\AV H a/\Kp a (B6 a D o')/\Ac D (B6 a D o') (o1++ys) o') X.xe s):Va X el fs Ac N n:=λAN s σ H b ρ D o o1 ys I E P c e1 e2 a1 l=>by
 refine QN (h AN s σ H b ρ D o o1 ys I E e1 e2 a1 l) (λ_ s' ⟨a,o',I',s9,kp,a'⟩=>?_) λ_ _ z=>z;exact⟨σ,_,o',I',(E.grow s9).grown P c kp,λ_ _ _ _=>Y2,bH,a'⟩
structure WT (B:Around->Bool->Prop) (P:Program) (w:World) (K:B4) (tg:Expr) (J:It) (fp:List Addr) (it:Addr) (tn:Nat->Heap->Prop):Prop where
 obj:∀i h,tn i h->∀b∈fp,∃o,h.get? b=some o/\∀v,o.data≠.cell v
 keep:∀i h h',tn i h->(∀b∈fp,∀o,h.get? b=some o->h'.get? b=some o)->tn i h'
 item:∀(X:Cx),X.prog=P->X.w=w->X.K=K->B X.A X.calm->∀(i:Nat) (AN:List (Addr×Obj)) (s:Shared) (σ:L2.St) (H:Hp) (E:B8),L2.AU X AN σ H s->(∀b∈fp,tK X AN H b)->tn i s.heap->J.go i H →
  wpAny (model P w) X.A (pyNext (.ref it)) (λr s1=>∃u,r=some u ∧
   wpAny (model P w) X.A (letOwnedTupleGo tg (.ref it) u) (λ_ s2=>∃x H',L2.AU X AN σ H' s2/\Au x u/\J.yld i H x H'/\tn (i+1) s2.heap/\∀b∈fp,H' b=none) E s1) E s
 done:∀(X:Cx),X.prog=P->X.w=w->X.K=K->B X.A X.calm->∀(i:Nat) (AN:List (Addr×Obj)) (s:Shared) (σ:L2.St) (H:Hp) (E:B8),L2.AU X AN σ H s->(∀b∈fp,tK X AN H b)->tn i s.heap->J.stop i H →
  wpAny (model P w) X.A (pyNext (.ref it)) (λr s1=>r=none/\L2.AU X AN σ H s1) E s
 self:∀(A:Around) (i:Nat) (s:Shared) (Q:B8) (E:B8),tn i s.heap->Q (.ref it) s->wpAny (model P w) A (pyIter (.ref it)) Q E s
abbrev Ag:A5->Bool->Prop:=λ_ c=>c=true
theorem DW{tn:Nat->A6->Prop}(T:C4 P w K tg J fp it tn):WT Ag P w K tg J fp it tn:=⟨T.obj,T.keep,T.item,T.done,T.self⟩
theorem Mq{B:A5->Bool->Prop}{comp:Expr}{d:Nat}{h0:Pos}{Ac:A1->Hp->List Dt->HO->Prop}{fs:Ev->S (List Dt)}{N m:Nat}{l:Hp}{tn:Nat->A6->Prop}{ds o0 out:List Dt}{ρ:Ev}{R:Result->A2->Prop}(d0:B X.A X.calm)(hx:X.xe=λ_ _=>False)(Mr:FA X tgt gt)(f1:C5 X ifs p)(e2:Va X el fs Ac N m)(f2:YB n m gt)(f5:n<=m)(I:L2.AU X AN σ H s)(E:bR X.K l H σ ρ)(P:D2 l σ ρ n)(hD:l D=Y3)(d1:H D=O o)(hA:Ac D H o0 o)(T:WT B X.prog X.w X.K tgt J fp it tn)(st:tn 0 s.heap)(hf:∀b∈fp,tK X AN H b)(Y:B0 X.K J ds l)(h2:CT gt p fs ρ ds=O out)(hN:o0.length+out.length<=N)(b3:∀{D:A1} {H H':Hp} {o1:List Dt} {o:HO},Kp H H'->Ac D H o1 o->Ac D H' o1 o)(d2:∀(it:A0) (D:A1) (env:Env),compTurn comp d it (.ref D) env=(standAt h0 >>= λ_=>pyNext it >>= λr=>match r with
   |none=>pure (.done .next)
   |some v=>letOwnedTupleGo tgt it v >>= λ_=>assign tgt env v >>= λ_=>(forIn ifs true λc r=>if r=true then isTrue c env (eval c env) >>= λok=>pure (ForInStep.yield ok)else pure (ForInStep.yield r)) >>= λok=>if ok=true then el D env >>= λ_=>again (.compLoop comp d it (.ref D) env)else again (.compLoop comp d it (.ref D) env)))(d3:∀{it b4:A0} {env:Env} {Q:Fin->A2->Prop} {E:B8} {s:A2},A7 (A8 X.prog X.w) X.A ((compTurn comp d it b4 env).onRaise (λx=>noteFrame x env >>= λ_=>theTreesLotGoes x)) Q E s->A7 (A8 X.prog X.w) (X.A.under (.compLoop comp d it b4 env)) ((A8 X.prog X.w).den (.compLoop comp d it b4 env)) Q E s)(hR:∀s' σ' H' o',L2.AU X AN σ' H' s'->bR X.K l H' σ' ρ->Fx σ σ' ρ->H' D=O o'->Ac D H' (o0++out) o'->R (.ok .next) s'):
  AF (A8 X.prog X.w) X.A (.compLoop comp d (.ref it) (.ref D) X.env) R s:=by
 have a4:∀{H':Hp},(∀b∈fp,H' b=Y3)->∀b∈fp,tK X AN H' b:=λ{H'} hn b hb=>⟨hn b hb,(hf b hb).2⟩;refine codeAny_loop Y2 (λk s'=>∃(i:Nat) (σ':L2.St) (H':Hp) (o1 o2:List Dt) (o:HO),k=ds.length-i/\i<=ds.length/\L2.AU X AN σ' H' s'/\tn i s'.heap/\(∀b∈fp,H' b=Y3)/\bR X.K l H' σ' ρ/\Fx σ σ' ρ/\H' D=O o/\Ac D H' o1 o/\CT gt p fs ρ (ds.drop i)=O o2/\o1++o2=o0++out) ?_ ds.length
  ⟨0,σ,H,o0,out,o,by simp,QU _,I,st,λb hb=>(hf b hb).1,E,λ_ _ _ _=>Y2,d1,hA,by simpa using h2,rfl⟩
 rintro k s4 ⟨i,U,H4,o1,o2,o,rfl,hi,I4,c8,b9,E4,F4,a2,r4,g,W⟩;have P4:=P.fx F4;refine d3 (wpAny_noted ?_);rw[d2];obtain⟨y1,y2⟩:=Y i H4 E4.base;by_cases a3:i<ds.length
 ·have hd:ds[i]?=O ds[i]:=by simp[a3]
  obtain⟨go,yl⟩:=y1 _ hd;rw[List.drop_eq_getElem_cons a3]at g;simp only[CT]at g;obtain⟨t,e1,g⟩:=AT g;obtain⟨k,ek,g⟩:=AT g;obtain⟨e0,b0⟩:=f2 _ _ _ e1;have back:∀{a0:L2.St} {H5:Hp},bR X.K l H5 a0 t->bR X.K l H5 a0 ρ:=λE5=>E5.forget e0 λj b e=>by rw[b0 j (.inl (P.lt j b e))];exact e
  refine zd (Kj (zd ?_));refine iZ (T.item X Y2 Y2 Y2 d0 i AN s4 U H4 _ I4 (a4 b9) c8 go) λr s5 ⟨u,hr,h5⟩=>?_;subst hr;refine zd (iZ h5 λ_ s6 ⟨x,H6,I6,r6,y6,st6,fr6⟩=>?_);obtain⟨sm,rx⟩:=yl x H6 y6;have E4:=E4.grow sm;have a2:=sm _ _ a2;have r4:=b3 (.of sm) r4;have f0:=I6.pinned (a4 fr6) (T.obj _ _ st6);have ha:=Mr _ s6 U H6 x u (λσ' H'=>H'=H6/\bR X.K l H6 σ' t/\Lo U ρ σ' t) f0 r6 ⟨l,ρ,ds[i],t,E4,rx,e1,λσ' E' L'=>⟨rfl,E',L'⟩⟩;rw[hx]at ha;refine zd (QN ha (λ_ s7 h7=>?_) λ_ _ z=>z.elim);obtain⟨L,M,I7,rfl,E7,L7⟩:=h7;have P7:D2 l L t m:=by
   refine⟨λj c e=>?_,λj c e=>?_,λj c a e y ea=>?_⟩
   ·cases c with
    |o ds=>exact P.own j _ (L7 j _ Y2 e).1
    |m ds _=>exact P.own j _ (L7 j _ Y2 e).1
    |_=>rfl
   ·refine Nat.lt_of_not_le λh=>?_;rw[b0 j (.inr h)]at e;exact absurd (ZZ (P.lt j c e) f5) (Nat.not_lt.mpr h)
   ·obtain⟨e',ee⟩:=L7 j c y e;exact P4.old j c a e' y (by rw[<-ee];exact ea)
  have c0:∀{a0:L2.St},Fx L a0 t->Fx σ a0 ρ:=λf j c y e=>by
   have e':t[j]?=O (O c):=by rw[b0 j (.inl (P.lt j c e))];exact e
   exact(f j c y e').trans ((L7 j c y e').2.trans (F4 j c y e))
  have ht:A7 (A8 X.prog X.w) X.A (forIn ifs true λc r=>if r=true then do let ok <-isTrue c X.env (eval c X.env);pure (ForInStep.yield ok)else pure (ForInStep.yield r))
    (λok F=>ok=k/\∃q,L2.AU X (AN++CG fp s6.heap) L q F/\AV M q) (notedBy (A8 X.prog X.w) X.A X.env λe s'=>R (.error e) s') s7:=by
   rcases f1 with⟨rfl,rfl⟩|⟨c,rfl,hc⟩
   ·cases ek;exact wpAny_tests_nil ⟨rfl,M,I7,AV.refl M⟩
   ·refine wpAny_tests_one ?_;have:=hc _ s7 L M (λb q=>b=k/\AV M q) I7 ⟨l,t,k,E7,ek,λq F=>⟨rfl,F⟩⟩;rw[hx]at this;exact QN this (λb F ⟨q,I8,eb,s8'⟩=>⟨eb,q,I8,s8'⟩) λ_ _ z=>z.elim
  refine zd (QN ht (λok F h8=>?_) λ_ _ z=>z);obtain⟨rfl,q,I8,G⟩:=h8;have c3:∀{a1:L2.St} {C:Hp} {s9:A2},L2.AU X (AN++CG fp s6.heap) a1 C s9->L2.AU X AN a1 C s9/\tn (i+1) s9.heap/\∀b∈fp,C b=Y3:=λ{a1 C s9} Z=>by
   refine⟨Z.wI,T.keep _ _ _ st6 λb hb o e=>(Z.pin (b,o) (ZA _ (ZA _ (uO hb e)))).1,λb hb=>?_⟩;obtain⟨o,e,d⟩:=T.obj _ _ st6 b hb;exact(Z.pin (b,o) (ZA _ (ZA _ (uO hb e)))).2.1
  cases ok with
  |false=>
   rw[zI ZO]at g;obtain⟨Z,e3,f3⟩:=c3 I8;exact zg ⟨rfl,ds.length-(i+1),by omega,i+1,L,q,o1,o2,o,rfl,a3,Z,e3,f3,back (E7.grow G),c0 (λ_ _ _ _=>Y2),G _ _ a2,b3 (.of G) r4,g,W⟩
  |true=>
   rw[zr rfl]at g;obtain⟨ys,eb,g⟩:=AT g;obtain⟨zs,e5,g⟩:=AT g;cases g;have y:=congrArg List.length W;simp only[zw]at y;have he:=e2 _ F L q l t D o o1 ys I8 (E7.grow G) P7 hD eb (G _ _ a2) (b3 (.of G) r4) (by omega);rw[hx]at he;refine zd (QN he (λ_ h6 h4=>?_) λ_ _ z=>z.elim);obtain⟨a1,C,o',h1,E9,F9,h3,a5⟩:=h4;obtain⟨f4,g0,g6⟩:=c3 h1;exact zg ⟨rfl,ds.length-(i+1),by omega,i+1,a1,C,o1++ys,zs,o',rfl,a3,f4,g0,g6,back E9,c0 F9,h3,a5,e5,by rw[qq];exact W⟩
 ·have c6:ds.length<=i:=by omega
  rw[List.drop_eq_nil_of_le c6]at g;cases g;refine zd (Kj (zd ?_));refine iZ (T.done X Y2 Y2 Y2 d0 i AN s4 U H4 _ I4 (a4 b9) c8 (y2 c6)) λr s5 ⟨hr,I5⟩=>?_;subst hr;rw[qv]at W;exact zg (hR s5 U H4 o I5 E4 F4 a2 (by rw[<-W];exact r4))
theorem Ms{R:Result->A2->Prop}{d:Nat}{f:Expr}{it a:A0}(g:(clausesOf e)[d]?=O ⟨f,iter,ifs,0⟩)(hd:∀{Q:Fin->A2->Prop} {E:B8},A7 (A8 prog w) A ((compStart e d it a env).onRaise (λx=>do noteFrame x env;standAt theWindowsPlace)) Q E s->A7 (A8 prog w) (A.under (.compStart e d it a env)) ((A8 prog w).den (.compStart e d it a env)) Q E s)(c:Code.quiet (.compLoop e d it a env)=true:=by rfl)(h0:AF (A8 prog w) A (.compLoop e d it a env) R s)(h:A7 (A8 prog w) A (pyIter it) (λb s'=>AF (A8 prog w) A (.compLoop e d b a env) R s') (notedBy (A8 prog w) A env λx s'=>R (.error x) s') s):
  AF (A8 prog w) A (.compStart e d it a env) R s:=by
 refine codeAny_of_tree (hd ?_);refine wpAny_notedAt ?_;unfold compStart;rw[g];show A7 _ _ (ask >>= _) _ _ s;refine zd (y7 (wpAny_ite ?_));split
 ·exact zg (And.intro c h0)
 ·refine zd (Kk ?_);show A7 _ _ (standAt iter.pos >>= _) _ _ s;exact zd (Kj (zd (QN h (λb s' h'=>zg (And.intro c h')) λ_ _ x=>x)))
def DX(H:Hp)(D:A1):Hp:=λb=>if b=D then Y3 else H b
theorem wL{b:A1}(h:b≠D):DX H D b=H b:=zI h
theorem HW:AV (DX H D) H:=λb o e=>by
 by_cases h:b=D
 ·rw[DX,zr h]at e;cases e
 ·rw[wL h]at e;exact e
theorem bR.onto{f b:Hp}{ρ:Ev}(E:bR K f H σ ρ)(P:∀(j:Nat) c,ρ[j]?=O (O c)->uR c=false)(s:AV b H):bR K b H σ ρ:=
 ⟨E.len,E.val,E.own,s,λj c a e d=>absurd d (by rw[P j c e];exact ZO)⟩
def E8(fi:Ev->S (Y Dt))(gt:Dt->Ev->S Ev)(p:Ev->S Bool)(fs:Ev->S (Y Dt)):Ev->S (Y Dt):=λρ=>(fi ρ).bind λds=>CT gt p fs ρ ds
theorem Ro{comp:Expr}{d:Nat}{Ac:A1->Hp->List Dt->HO->Prop}{fs:Ev->S (List Dt)}{N m:Nat}(a3:X.calm=true)(hx:X.xe=λ_ _=>False)(hi:MH X tgt iter fi)(Z:FA X tgt gt)(a2:C5 X ifs p)(W:Va X el fs Ac N m)(a4:YB n m gt)(b0:n<=m)(F:∀{D:A1} {H H':Hp} {o1:List Dt} {o:HO},Kp H H'->Ac D H o1 o->Ac D H' o1 o)(M:∀{D:A1} {H:Hp} {o1:List Dt} {o:HO},Ac D H o1 o->(∀L u,o≠.tH L u)/\∀vs,o≠.tup vs)(hs:∀x,foldedSetIterable iter X.env x=pure x)(b3:∀(it:A0) (D:A1) (env:Env),compTurn comp d it (.ref D) env=(standAt iter.pos >>= λ_=>pyNext it >>= λr=>match r with
   |none=>pure (.done .next)
   |some v=>letOwnedTupleGo tgt it v >>= λ_=>assign tgt env v >>= λ_=>(forIn ifs true λc r=>if r=true then isTrue c env (eval c env) >>= λok=>pure (ForInStep.yield ok)else pure (ForInStep.yield r)) >>= λok=>if ok=true then el D env >>= λ_=>again (.compLoop comp d it (.ref D) env)else again (.compLoop comp d it (.ref D) env)))(b9:∀{it f:A0} {env:Env} {R:Result->A2->Prop} {s:A2},AF (A8 X.prog X.w) X.A (.compLoop comp d it f env) R s->A7 (A8 X.prog X.w) X.A (pyIter it) (λa1 s'=>AF (A8 X.prog X.w) X.A (.compLoop comp d a1 f env) R s') (notedBy (A8 X.prog X.w) X.A env λx s'=>R (.error x) s') s->AF (A8 X.prog X.w) X.A (.compStart comp d it f env) R s)(b4:∀{it f:A0} {env:Env} {Q:Fin->A2->Prop} {E:B8} {s:A2},A7 (A8 X.prog X.w) X.A ((compTurn comp d it f env).onRaise (λx=>noteFrame x env >>= λ_=>theTreesLotGoes x)) Q E s->A7 (A8 X.prog X.w) (X.A.under (.compLoop comp d it f env)) ((A8 X.prog X.w).den (.compLoop comp d it f env)) Q E s):
  Va X (λD env=>do let x <-eval iter env;standAt iter.pos;let x <-foldedSetIterable iter env x;let _ <-runOwn (.compStart comp d (<-holding [x] (pyIter x)) (.ref D) env) env) (E8 fi gt p fs) Ac N n:=by
 intro AN s σ H C ρ D o o1 ys I E P hD e U q i;obtain⟨ds,ed,e⟩:=AT e;refine zd (QN (hi AN s σ H (λJ H'=>AV H H'/\∀Hs,AV Hs H'->(∀a,H a=Y3->Hs a=H' a)->(∀a o u,H' a=O (.tH o u)->Hs a=H' a)->(∀a vs,H' a=O (.tup vs)->Hs a=H' a)->B0 X.K J ds Hs) I ⟨C,ρ,ds,E,ed,λJ H' s' y=>⟨s',y⟩⟩) (λv s1 h1=>?_) λ_ _ z=>z);refine zd (Kj (zd (wpAny_of_eq (hs v) (zd (QQ (QN h1 (λc0 s2 h2=>?_) λ_ _ z=>z))))));obtain⟨it,fp,tn,J,H2,rfl,I2,T,st,hf,g,Y⟩:=h2;have l:=g _ _ U;have a0:=F (.of g) q;have Yb:B0 X.K J ds (DX H2 D):=Y _ HW (λa b=>wL λz=>by rw[z,U]at b;cases b) (λa L u b=>wL λz=>by rw[z,l]at b;cases b;exact(M q).1 _ _ Y2) λa vs b=>wL λz=>by rw[z,l]at b;cases b;exact(M q).2 _ rfl
 have t:AV C (DX H2 D):=λa u ea=>by rw[wL (dH ea hD)];exact g _ _ (E.base _ _ ea)
 have E2:bR X.K (DX H2 D) H2 σ ρ:=(E.grow g).onto P.own HW;have P2:D2 (DX H2 D) σ ρ n:=⟨P.own,P.lt,λj c a ec i ea z=>P.old j c a ec i ea (t.free z)⟩;have lp:∀{R:Result->A2->Prop},(∀s' σ' H' o',L2.AU X AN σ' H' s'->bR X.K (DX H2 D) H' σ' ρ->Fx σ σ' ρ->H' D=O o'->Ac D H' (o1++ys) o'->R (.ok .next) s')->AF (A8 X.prog X.w) X.A (.compStart comp d (.ref it) (.ref D) X.env) R s2:=λhR=>
  have h:=Mq (B:=Ag) a3 hx Z a2 W a4 b0 I2 E2 P2 (zr Y2) l a0 (DW T) st hf Yb e i F b3 b4 hR
  b9 h (T.self _ 0 _ _ _ st h)
 exact zd (wpAny_runOwn (lp λs' σ' H' o' I' G F' a5 a'=>zg ⟨σ',H',o',I',G.onto P.own (t.trans G.base),F',a5,a'⟩))
theorem yd{B:A5->Bool->Prop}{comp:Expr}{mk:Sem A0}{o0:AE}{O0:HO}{Ac:A1->Hp->List Dt->HO->Prop}{fs:Ev->S (List Dt)}{N m:Nat}{H2:Hp}{a:A2}{tn:Nat->A6->Prop}{ds out:List Dt}{ρ:Ev}(O:tL X scope cl xs is)(c8:B X.A X.calm)(Mr:∀C n l fp,FA (yO X (xs++ts) scope cl C n l fp) tgt gt)(c0:∀C n l fp,C5 (yO X (xs++ts) scope cl C n l fp) ifs p)(a3:∀C n l fp,Va (yO X (xs++ts) scope cl C n l fp) el fs Ac N m)(d0:YB is.length m gt)(e2:is.length<=m)(I2:L2.AU X AN σ H2 a)(I:bR X.K H2 H2 (zx is σ++List.replicate ts.length Y3) (lq is ρ++List.replicate ts.length Y3))(T:WT B X.prog X.w X.K tgt J fp it tn)(st:tn 0 a.heap)(Z:∀b∈fp,tK X AN H2 b)(Y:B0 X.K J ds H2)(c6:CT gt p fs (lq is ρ++List.replicate ts.length Y3) ds=some out)(c3:out.length<=N)(e3:∀(D C:A1) (s':A2) (H':Hp) (o:HO),H2 D=Y3->L2.AU X AN σ H' s'->tK X AN H' C->(∃m,s'.heap.Ns C m)->AV H2 H'->H' D=some o->Ac D H' out o->RR (.ref D) C (.ok .next) s')(d2:∀{Q:B8},Q (.ref a.heap.objs.size) { a with heap:=a.heap.push o0 }->A7 (A8 X.prog X.w) X.A mk Q E a)(e1:∀H,iY X.prog X.w H (a.heap.push o0) a.heap.objs.size O0)(d1:∀H,Ac a.heap.objs.size H [] O0)(b3:∀{D:A1} {H H':Hp} {o1:List Dt} {o:HO},Kp H H'->Ac D H o1 o->Ac D H' o1 o)(e4:∀(it:A0) (D:A1) (env:Env),compTurn comp 0 it (.ref D) env=(standAt iter.pos >>= λ_=>pyNext it >>= λr=>match r with
   |none=>pure (.done .next)
   |some v=>letOwnedTupleGo tgt it v >>= λ_=>assign tgt env v >>= λ_=>(forIn ifs true λc r=>if r=true then isTrue c env (eval c env) >>= λok=>pure (ForInStep.yield ok)else pure (ForInStep.yield r)) >>= λok=>if ok=true then el D env >>= λ_=>again (.compLoop comp 0 it (.ref D) env)else again (.compLoop comp 0 it (.ref D) env)))(g0:∀{it d:A0} {env:Env} {R:Result->A2->Prop} {s:A2},AF (A8 X.prog X.w) X.A (.compLoop comp 0 it d env) R s->A7 (A8 X.prog X.w) X.A (pyIter it) (λb9 s'=>AF (A8 X.prog X.w) X.A (.compLoop comp 0 b9 d env) R s') (notedBy (A8 X.prog X.w) X.A env λx s'=>R (.error x) s') s->AF (A8 X.prog X.w) X.A (.compStart comp 0 it d env) R s)(e5:∀{it d:A0} {env:Env} {Q:Fin->A2->Prop} {E:B8} {s:A2},A7 (A8 X.prog X.w) X.A ((compTurn comp 0 it d env).onRaise (λx=>noteFrame x env >>= λ_=>theTreesLotGoes x)) Q E s->A7 (A8 X.prog X.w) (X.A.under (.compLoop comp 0 it d env)) ((A8 X.prog X.w).den (.compLoop comp 0 it d env)) Q E s):
  A7 (A8 X.prog X.w) X.A mk (λd b0=>A7 (A8 X.prog X.w) X.A (newFunctionEnv scope X.env.globals cl [] X.env.qual Y3 .none (some X.env)) (λa0 e0=>
   AF (A8 X.prog X.w) X.A (.compStart comp 0 (.ref it) d { a0 with scope:=relabel scope X.env }) (RR d a0.locals) e0) E b0) E a:=by
 refine d2 (Yz ?_);have F:H2 a.heap.objs.size=Y3:=I2.hok.fresh (zk _);have u:L2.AU X AN σ (B6 H2 a.heap.objs.size O0) { a with heap:=a.heap.push o0 }:=
  I2.laid (t':=a.toks) (λb o e=>ze _ e) (zk _) (e1 _)
 have M:∀b∈fp,b<a.heap.objs.size:=λb hb=>let ⟨o,e,_⟩:=T.obj 0 _ st b hb;zD e;have y:∀b∈fp,tK X AN (B6 H2 a.heap.objs.size O0) b:=λb hb=>⟨by rw[aR (z4 (M b hb))];exact(Z b hb).1,(Z b hb).2⟩;have L:tn 0 (a.heap.push o0):=T.keep 0 _ _ st λb hb o e=>ze _ e;have t:∀b∈fp,b<(a.heap.push o0).objs.size:=λb hb=>by rw[qk];exact qV (M b hb)
 generalize b4:({ a with heap:=a.heap.push o0 }:A2)=s3 at *
 have a4:s3.heap=a.heap.push o0:=by rw[<-b4]
 rw[<-a4]at L t;have IC:=dE (ts:=ts) u O y t;have a1:tn 0 (pushCells (s3.heap.push { cls:=.type "dict",data:=.dict #[] }) scope.names):=T.keep 0 _ _ L λb hb o e=>pushCells_keeps _ _ b o (ze _ e);have a2:∀b∈fp,tK (yO X (xs++ts) scope cl s3.heap.objs.size s3 (B6 H2 a.heap.objs.size O0) fp) [] (B6 H2 a.heap.objs.size O0) b:=λb hb=>by
  obtain⟨f0,f1,f2,f3,G,W⟩:=y b hb;refine⟨f0,z4 (t b hb),λz=>?_,.inl hb,λx c e z=>?_,λq hq=>absurd (show q∈([]:List (A1×AE)) from hq) (by simp)⟩
  ·rcases List.mem_cons.mp (u.Oa b z)with q|q
   ·exact f1 q
   ·exact f2 q
  ·rcases Af _ _ _ x c e with h|h
   ·exact G x c (O.sub.get h) z
   ·rw[z]at h;exact absurd (ZZ (t b hb) (Nat.le_of_succ_le h)) (kc _)
 have P0:D2 H2 (zx is σ++List.replicate ts.length Y3) (lq is ρ++List.replicate ts.length Y3) is.length:=by
  have g:∀(j:Nat) c,(lq is ρ++List.replicate ts.length Y3)[j]?=some (some c)->j<is.length/\uR c=false:=λj c e=>by
   by_cases hj:j<is.length
   ·refine⟨hj,?_⟩;rw[ZY (by simp[lq];omega)]at e;unfold lq at e;rw[ZE]at e;cases q:is[j]? with
    |none=>rw[q]at e;cases e
    |some i=>rw[q]at e;exact Aa (by simpa using e)
   ·rw[QA (by simp[lq];omega),QY]at e;split at e<;>cases e
  exact⟨λj c e=>(g j c e).2,λj c e=>(g j c e).1,F8 I⟩
 have h:=Mq (B:=B) (X:=yO X (xs++ts) scope cl s3.heap.objs.size s3 (B6 H2 a.heap.objs.size O0) fp) (R:=RR (.ref a.heap.objs.size) s3.heap.objs.size) (o0:=[]) c8 Y2 (Mr _ _ _ _) (c0 _ _ _ _) (a3 _ _ _ _) d0 e2 IC (I.grow (cg F)) P0 F bH (d1 _) T a1 a2 Y c6 (by simpa using c3) b3 e4 e5 λP g6 U o5 f E5 _ d3 a5=>by
  have IB:L2.AU X AN σ U P:=u.call' (ch:=fp) f.os f.base f.hok f.bare λb hb=>by
   obtain⟨f0,f1,f2,f3,G,W⟩:=y b hb;exact⟨f3,f1,G,W⟩
  obtain⟨m,hn,_⟩:=f.loc;exact e3 _ _ P U o5 F IB (u.QZ (zk _) f.free) ⟨m,hn⟩ E5.base d3 a5
 exact g0 h (T.self _ 0 _ _ _ a1 h)
def ZP(K:B4)(_:A1)(H:Hp)(o1:Y Dt)(o:HO):Prop:=∃us,o=.lst us/\aO K H o1 us
theorem ZP.kp{K:B4}{D:A1}{H H':Hp}{o1:Y Dt}{o:HO}(k:Kp H H'):ZP K D H o1 o->ZP K D H' o1 o:=λ⟨us,e,r⟩=>⟨us,e,r.kp k⟩
def Vb(fe:Ev->S Bx):Ev->S (Y Dt):=λρ=>(fe ρ).bind G'
theorem WW(h:PV X elt fe):Va X (λD env=>do let _ <-call (.builtin "list.append") [.ref D,<-eval elt env]) (Vb fe) (ZP X.K) 100000 n:=by
 refine NS λAN s σ H Hb ρ D o o1 ys I En g hD ⟨us,e,r4⟩ hl=>?_;subst e;obtain⟨b,eb,g⟩:=AT g;obtain⟨y,rfl,rfl⟩:=CV g;refine zd (QN (h AN s σ H (λv a=>AV H a/\AW X.K a y v) I ⟨Hb,ρ,_,En,eb,λv a i _ d=>⟨i,d⟩⟩) (λv i t=>?_) λ_ _ z=>z);obtain⟨c,a,m,p,f,d⟩:=t;have l:=f _ _ hD;refine zd (QN ((Mj (X:=X)) _ i σ a (.ref D) [c] (.ref D) [v] (λw j=>j=B6 a D (.lst (us++[c]))) m Y2 (.cons p .nil) ⟨_,us,c,rfl,rfl,l,by rw[r4.length];have h0:(100000:Nat)<AA:=(by decide);simp at hl;omega,rfl⟩) (λw A q=>?_) λ_ _ z=>z);obtain⟨x,j,u,_,rfl⟩:=q;have kp:Kp a (B6 a D (.lst (us++[c]))):=.lst l;exact zg ⟨a,_,u,f,kp,us++[c],rfl,((r4.kp (.of f)).append (aO.cons d aO.nil)).kp kp⟩
theorem Ah{B:A5->Bool->Prop}{H2:Hp}{l:A2}{tn:Nat->A6->Prop}{ds out:List Dt}{ρ:Ev}(O:tL X scope cl xs is)(I:B X.A X.calm)(F:∀C j i fp,FA (yO X (xs++ts) scope cl C j i fp) tgt gt)(x:∀C j i fp,C5 (yO X (xs++ts) scope cl C j i fp) ifs p)(v:∀C j i fp,PV (yO X (xs++ts) scope cl C j i fp) elt fe)(M:YB is.length (is.length+ts.length) gt)(u:L2.AU X AN σ H2 l)(y:bR X.K H2 H2 (zx is σ++List.replicate ts.length Y3) (lq is ρ++List.replicate ts.length Y3))(T:WT B X.prog X.w X.K tgt J fp it tn)(st:tn 0 l.heap)(L:∀b∈fp,tK X AN H2 b)(Y:B0 X.K J ds H2)(z:ds.length<=100000)(s:DR gt p fe (lq is ρ++List.replicate ts.length Y3) ds=some out)(G:∀(D C:A1) (s':A2) (H':Hp) (us:List V),H2 D=Y3->L2.AU X AN σ H' s'->tK X AN H' C->(∃m,s'.heap.Ns C m)->AV H2 H'->H' D=some (.lst us)->aO X.K H' out us->RR (.ref D) C (.ok .next) s'):
  A7 (A8 X.prog X.w) X.A (newList []) (λn H=>A7 (A8 X.prog X.w) X.A (newFunctionEnv scope X.env.globals cl [] X.env.qual Y3 .none (some X.env)) (λq t=>
   AF (A8 X.prog X.w) X.A (.compStart (.ListComp elt [⟨tgt,iter,ifs,0⟩] scope pos) 0 (.ref it) n { q with scope:=relabel scope X.env }) (RR n q.locals) t) E H) E l:=
 yd (B:=B) (Ac:=ZP X.K) (O0:=.lst []) (N:=100000) O I F x (λC j i fp=>WW (v C j i fp)) M (Nat.le_add_right ..) u y T st L Y s (ZI (yc s) z) (λD C s' H' o a b c d e f g=>by obtain⟨us,rfl,r⟩:=g;exact G D C s' H' us a b c d e f r)
  qo (λ_=>⟨QU _,[],0,.nil,zC _ rfl⟩) (λ_=>⟨[],rfl,aO.nil⟩) ZP.kp (λ_ _ _=>Y2) codeAny_compStart_list λh=>h
end
def iC(K:B4)(f:Ev->S (Y Dt)):TI:=λσ H R=>∃H0 ρ ds,bR K H0 H σ ρ/\f ρ=O ds/\∀J H',AV H H'->B0 K J ds H'->R J H'
def ND(X:Cx)(tg iter:Expr)(f:Ev->S (Y Dt)):Prop:=PI X tg iter (iC X.K f)
structure EF (X:Cx) (tg iter:Expr) (f:Ev->Option (List Dt)):Prop where
 run:ND X tg iter f
def FU:Bx->S (Y Dt)
 |.z (.lst ds)=>O ds
 |.z (.tup ds)=>O ds
 |.z (.str x)=>O (Bz x)
 |.o ds=>O ds
 |.l ds=>O ds
 |_=>Y3
section
variable{f:Ev->S Bx}{fs:Ev->S (Y Bx)}{xs:AZ}{gt:Dt->Ev->S Ev}{p:Ev->S Bool}{fe:Ev->S Bx}{fi:Ev->S (Y Dt)}
theorem NE(h:EW X tgt iter fi):EF X tgt iter fi:=⟨have h:=h.run;λAN s σ H R I q=>by
 obtain⟨H0,ρ,ds,E,e,q⟩:=q;exact h AN s σ H R I ⟨H0,ρ,ds,E,e,λJ H' s' y=>q J H' s' (y H' (AV.refl H') (λ_ _=>Y2) (λ_ _ _ _=>Y2) λ_ _ _=>Y2)⟩⟩
theorem iD(h:QV X e f):EF X tgt e (λρ=>(f ρ).bind FU):=⟨have h:=h.run;λAN s σ H R I q=>by
 refine U8 h AN s σ H R I ?_;obtain⟨H0,ρ,ds,E,e,q⟩:=q;obtain⟨b,eb,e⟩:=AT e;refine⟨H0,ρ,b,E,eb,λv H1 j t i=>?_⟩;cases b with
 |z d=>
  cases d with
  |tup p=>
   cases e;simp only[bC,AW]at i;obtain⟨a,vs,rfl,c,g⟩:=i;exact .inr (.inl ⟨a,rfl,⟨vs,c⟩,q _ _ j (.tup c g)⟩)
  |lst p=>
   cases e;obtain⟨a,vs,rfl,c,g⟩:=i.Hv rfl;exact .inl ⟨a,rfl,⟨vs,c⟩,q _ _ j (.list c g)⟩
  |str x=>
   cases e;simp only[bC,AW]at i;obtain⟨rfl,_⟩:=i;exact .inr (.inr ⟨x,rfl,q _ _ j (.str x)⟩)
  |_=>cases e
 |l p=>
  cases e;obtain⟨a,vs,rfl,c,g⟩:=i.Hv rfl;exact .inl ⟨a,rfl,⟨vs,c⟩,q _ _ j (.list c g)⟩
 |o p=>
  cases e;obtain⟨a,vs,rfl,c,g⟩:=i.Hv rfl;exact .inl ⟨a,rfl,⟨vs,c⟩,q _ _ j (.list c g)⟩
 |n _=>cases e
 |m _ _=>cases e⟩
def fM(fi:Ev->S (Y Dt))(gt:Dt->Ev->S Ev)(p:Ev->S Bool)(fe:Ev->S Bx)(is:Y Nat)(n:Nat):Ev->S Bx:=λρ=>(fi ρ).bind λds=>
 if ds.length<=100000 then(DR gt p fe (lq is ρ++List.replicate n Y3) ds).bind λa=>O (.o a)else Y3
theorem lH(ts:AZ)(O:tL X scope cl xs is)(G:X.calm=true)(hi:EF X tgt iter fi)(i:∀C d c fp,ZM (yO X (xs++ts) scope cl C d c fp) tgt gt)(j:∀C d c fp,wK (yO X (xs++ts) scope cl C d c fp) ifs p)(f:∀C d c fp,QV (yO X (xs++ts) scope cl C d c fp) elt fe)(M:YB is.length (is.length+ts.length) gt)(hs:∀x,foldedSetIterable iter X.env x=pure x:=by intro _;rfl):QV X (.ListComp elt [⟨tgt,iter,ifs,0⟩] scope pos) (fM fi gt p fe is ts.length):=⟨have hi:=hi.run;have i:=λC d c fp=>(i C d c fp).run;have j:=λC d c fp=>(j C d c fp).run;have f:=λC d c fp=>(f C d c fp).run;λAN s σ H Q I h=>by
 obtain⟨H0,ρ,b,E,e,q⟩:=h;obtain⟨ds,N,e⟩:=AT e;split at e
 ·rename_i z;obtain⟨a2,n,e⟩:=AT e;cases e;rw[eval_ListComp];refine JJ (use:=Y3) Y2 hs O.clos O.kind O.names ?_;refine iZ (hi AN s σ H (λJ H'=>AV H H'/\B0 X.K J ds H') I ⟨H0,ρ,ds,E,N,λJ H' s' y=>⟨s',y⟩⟩) λv s1 h1=>iZ h1 λa1 s2 h2=>?_;obtain⟨it,fp,tn,J,H2,rfl,W,T,st,L,g,Y⟩:=h2;refine Ah (B:=Ag) (RR:=λa0 C=>compPost (A8 X.prog X.w) X.A X.xe Y3 (EP X AN σ Q) a0 C) (ts:=ts) (xs:=xs) O G i j f M W ((E.grow g).caps is ts.length) (DW T) st L Y z n ?_;intro D C s' H' us P u l ⟨m,hn⟩ s2' hD' r';refine⟨m,hn,λh' t=>⟨.ref D,H',?_,rfl,q _ _ (g.trans s2') (λa ea=>by cases ea;exact g.free P) ⟨D,us,rfl,hD',r'⟩⟩⟩;obtain⟨f0,f1,f2,U,Z,F⟩:=l;exact u.turned (t':=s'.toks) (λb o hb e=>(t.2 b hb).trans e) f0 f1 U Z F
 ·cases e⟩
theorem Gz(i:Nat){py spos:Pos}(ts:AZ)(O:tL X scope cl xs is)(a4:X.calm=true)(hN:X.N.Nodup)(hi:EF X tgt iter fi)(n:∀C d c fp,ZM (yO X (xs++ts) scope cl C d c fp) tgt gt)(u:∀C d c fp,wK (yO X (xs++ts) scope cl C d c fp) ifs p)(j:∀C d c fp,QV (yO X (xs++ts) scope cl C d c fp) elt fe)(a5:YB is.length (is.length+ts.length) gt)(b0:swapsWith (.ListComp elt [⟨tgt,iter,ifs,0⟩] scope pos) (some (.Name y py)) spos.line X.env=pure true:=by with_unfolding_all rfl)(hy:X.N[i]?=some y:=by rfl)(hx:Ch X.env.scope y:=by first|exact ku rfl|exact j3 Y2)(hf:X.fn y=true\/X.env.scope.names.lookup y=some .local:=by first|exact .inl rfl|exact .inr Y2)(hs:∀x,foldedSetIterable iter X.env x=pure x:=by intro _;rfl):Rj X (.Assign [.Name y py] (.ListComp elt [⟨tgt,iter,ifs,0⟩] scope pos) spos) (λρ=>(fM fi gt p fe is ts.length ρ).bind λb=>(Yy ρ i b).bind λρ'=>some (.nx ρ')):=⟨have hi:=hi.run;have n:=λC d c fp=>(n C d c fp).run;have u:=λC d c fp=>(u C d c fp).run;have j:=λC d c fp=>(j C d c fp).run;λAN s σ H D I h=>by
 obtain⟨H0,ρ,r,E,e,q⟩:=h;obtain⟨b,eb,e⟩:=AT e;obtain⟨ds,ed,eb⟩:=AT eb;split at eb
 ·rename_i a1;obtain⟨a0,M,eb⟩:=AT eb;cases eb;cases e;rw[exec_Assign_Name_used _ _ _ _ b0];refine zd (Kj (zd ?_));show A7 _ X.A (do let _ <-comprehension (.ListComp elt [⟨tgt,iter,ifs,0⟩] scope pos) scope X.env _ (newList []) false (eval iter X.env) (some (assign (.Name y py) X.env))) _ _ s;refine zd (QN (JJ (use:=some (assign (.Name y py) X.env)) (Q:=λ_ s'=>SP X AN D .next s') Y2 hs O.clos O.kind O.names ?_) (λ_ s' hq=>zg (zg hq)) λ_ _ e=>e);refine iZ (hi AN s σ H (λJ H'=>AV H H'/\B0 X.K J ds H') I ⟨H0,ρ,ds,E,ed,λJ H' s' y=>⟨s',y⟩⟩) λv s1 h1=>iZ h1 λc0 s2 h2=>?_;obtain⟨it,fp,tn,J,H2,rfl,I2,T,st,a2,l,Y⟩:=h2;refine Ah (B:=Ag) (RR:=λb9 C=>compPost (A8 X.prog X.w) X.A X.xe (some (assign (.Name y py) X.env)) (λ_ s'=>SP X AN D .next s') b9 C) (ts:=ts) (xs:=xs) O a4 n u j a5 I2 ((E.grow l).caps is ts.length) (DW T) st a2 Y a1 M ?_;intro f C s' H' us hD F P ⟨m,hn⟩ s2' hD' r';show A7 _ X.A (assign (.Name y py) X.env (.ref f)) _ _ s';obtain⟨f0,f1,f2,f3,f4,f5⟩:=P;obtain⟨g,W,ep,b3,L,b4⟩:=id hn;have a3:L2.AU X (AN++[(C,g)]) σ H' s':=F.Ob λG hp=>by
   rcases List.mem_append.mp hp with z|z
   ·exact F.pin G (ZA _ z)
   ·have:G=(C,g):=by simpa using z
    subst this;exact⟨b3,f0,f1,f2,λv z=>by rw[L]at z;cases z⟩
  refine iZ (L2.Wu hN hy hx hf (AN++[(C,g)]) s' σ H' (.ref f) (.ref f) (λσ' t=>σ'=σ.set i (some (.ref f))/\t=H') a3 Y2 ⟨rfl,rfl⟩) λ_ s'' ⟨σ',t,J',e1,e2⟩=>?_;subst e1 e2;have Z:=(J'.pin (C,g) (by simp)).1;refine⟨m,⟨g,W,ep,Z,L,b4⟩,λh' U=>?_⟩;refine⟨σ.set i (some (.ref f)),t,J'.wI.turned (t':=s''.toks) (λb o hb e=>(U.2 b hb).trans e) f0 f1 f3 f4 f5,q _ _ ?_⟩;exact E.set (l.trans s2') (b:=.o a0) ⟨f,us,rfl,hD',r'⟩ (.inl Y2) λa ea=>by cases ea;exact l.free hD
 ·cases eb⟩
def lend:Bx->Bx
 |.o ds=>.l ds
 |.m ds _=>.n ds
 |b=>b
def l8:Bx->Bool
 |.o _=>true
 |.m _ _=>true
 |_=>false
def Cf(K:B4)(n:Nat)(F:Y Bx->S Bx):Sp:=λvs H Q _=>vs.length=n/\∃bs r,ux K H bs vs/\bs.all (λb=>!l8 b)=true/\F bs=O r/\∀v H',AV H H'->Nw H r v->bC K H' r v->Q v H'
def dJ(n:Nat)(g:Ev->S Ap):Y Bx->S Bx:=λbs=>(g (bs.map O++List.replicate (n-bs.length) Y3)).bind λr=>match r with
 |.rt b=>O b
 |.nx _=>O (.z .non)
 |_=>Y3
theorem bR.start{K:B4}{H:Hp}{N:AZ}{bs:Y Bx}{vs:Y V}(r:ux K H bs vs)(l:bs.all (λb=>!l8 b)=true):bR K H H (L2.start N vs) (bs.map O++List.replicate (N.length-bs.length) Y3):=by
 have g:bs.length=vs.length:=Paired.length r;have get:∀(i:Nat) b,(bs.map O++List.replicate (N.length-bs.length) Y3)[i]?=O (O b)->bs[i]?=O b:=λi b e=>by
  by_cases hi:i<bs.length
  ·rw[ZY (by simpa using hi),ZE]at e;cases q:bs[i]? with
   |none=>rw[q]at e;cases e
   |some n=>rw[q]at e;simpa using e
  ·rw[QA (by simp;omega),QY]at e;split at e<;>cases e
 have f:∀(i:Nat) c,(bs.map O++List.replicate (N.length-bs.length) Y3)[i]?=O (O c)->uR c=true->False:=λi c e d=>by
  have:=List.all_eq_true.mp l _ (QR (get i _ e));cases c with
  |o ds=>cases this
  |m ds _=>cases this
  |_=>cases d
 refine⟨?_,λi b e=>?_,λi j c a b e d=>(f i c e d).elim,AV.refl H,λi c a e d=>(f i c e d).elim⟩
 ·unfold L2.start;simp[g]
 ·have e':=get i b e;have hi:i<bs.length:=(List.getElem?_eq_some_iff.mp e').1;have:∀{bs:Y Bx} {vs:Y V} {i:Nat} {b:Bx},AI (bC K H) bs vs->bs[i]?=O b->∃v,vs[i]?=O v/\bC K H b v:=by
   intro bs vs i b r
   induction r generalizing i with
   |nil=>intro e;simp at e
   |cons p t h=>
    intro e;cases i with
    |zero=>simp at e;subst e;exact⟨_,rfl,p⟩
    |succ i=>obtain⟨v,e1,e2⟩:=h (i:=i) (by simpa using e);exact⟨v,by simpa using e1,e2⟩
  obtain⟨v,e1,e2⟩:=this r e';refine⟨v,?_,e2⟩;unfold L2.start;rw[ZY (by simp;omega),ZE,e1];rfl
end
theorem XL{st:AB}{f:A1}{k:Nat}{g:Ev->Option Ap}(F:Cb K x qual st f fd)(S:bI N ps (aQ st))(d:∀(c:A0) (A:A5) (outer:Y Env) (s:A2) (H:Hp) (E:XK),pB k (A.deeper (AK qual (aQ st) s.heap.objs.size f c))->Uw (Hl Kq P w K mg base N qual (aQ st) f c A outer s H E).nox (j4 st) g):
  uP P w K mg base Kq (k+1) f fd ps (Cf K ps.length (dJ N.length g)):=by
 refine F.ok S (λvs H Q E h=>h.1) λc A outer s H vs Q E l h=>?_;obtain⟨o,bs,r,j,n,e,q⟩:=h;refine⟨_,d c A outer s H E l,?_⟩;obtain⟨a,er,e⟩:=AT e;refine⟨H,_,a,bR.start j n,er,?_⟩;cases a with
 |rt b=>cases e;exact λv H' s' i a=>q v H' s' i a
 |nx ρ=>cases e;exact λσ H' m=>q _ H' m.base trivial (by unfold bC AW;rfl)
 |bk ρ=>cases e
 |ct ρ=>cases e
section
variable{k:Nat}{f:A1}{F:Y Bx->S Bx}{p:Pos}{fs:Ev->S (Y Bx)}
theorem Rp{K:B4}{H:Hp}:∀{bs:Y Bx} {vs:Y V},ux K H bs vs->ux K H (bs.map lend) vs
 |_,_,.nil=>.nil
 |b::bs,_,.cons h t=>by
  refine .cons ?_ (Rp t);cases b with
  |z d=>exact h
  |l ds=>exact h
  |o ds=>obtain⟨a,vs,e,q,r⟩:=h;exact⟨a,vs,e,.inl q,r⟩
  |n ds=>exact h
  |m ds _=>obtain⟨a,vs,e,q,r⟩:=h;exact⟨a,vs,e,.inl q,r.1⟩
theorem WX:∀bs:Y Bx,(bs.map lend).all (λb=>!l8 b)=true
 |[]=>rfl
 |b::bs=>by
  rw[zo,kR,WX bs];cases b<;>rfl
def bO(n:Nat)(F:Y Bx->S Bx)(fs:Ev->S (Y Bx)):Ev->S Bx:=λρ=>(fs ρ).bind λbs=>if bs.length=n then F (bs.map lend)else Y3
theorem yg(G:uP X.prog X.w X.K X.mg X.base Kq k f fd ps (Cf X.K n F))(s:pB k X.A)(j:Gl X x)(t:X.mg x=O (.ref f))(d:keepIn X.K (.ref f)=true)(hb:BQ X.K fd ps [])(a:Yw X (e::es) fs)(l:(x==("__debug__":AJ))=false:=by decide)(he:A9 (e::es) X.env=(false,eval e X.env)::A9 es X.env:=by rfl)(i:(AD pos (A9 es X.env)).any (·.1)=false:=by rfl):QV X (.Call (.Name x p) (e::es) [] pos) (bO n F fs):=⟨have a:=a.run;Mp (Wv G s j t d hb .nil (N9) a l he i) λσ H Q h=>by
 obtain⟨H0,ρ,r,E,e,q⟩:=h;obtain⟨bs,eb,e⟩:=AT e;refine⟨H0,ρ,bs,E,eb,λvs H1 c b=>?_⟩;split at e
 ·rename_i m;rw[qv];exact⟨by rw[<-Paired.length b];exact m,_,r,Rp b,WX bs,e,λv H2 o g u=>q v H2 (c.trans o) (g.old c) u⟩
 ·cases e⟩
end
end P1
variable{b:P1.Bx}{d:P1.Dt}{G:A1->Y (L2.AY×P1.Dt)->Y P1.Bx->S (Y (L2.AY×P1.Dt))}{f:P1.Ev->S P1.Bx}{q:P1.Ev->S Bool}{g:P1.Ev->S P1.Ap}{p:P1.Ev->S Bool}{AO:Y (L2.AY×P1.Dt)}{ds:Y P1.Dt}{fa:P1.Ev->S P1.Bx}{ρ:P1.Ev}{fb fc:P1.Ev->S P1.Bx}{gt:P1.Dt->P1.Ev->S P1.Ev}{gb:P1.Ev->S P1.Ap}{fi:P1.Ev->S (Y P1.Dt)}{fe:P1.Ev->S P1.Bx}{Ac:A1->L2.Hp->Y P1.Dt->L2.HO->Prop}{o1:Y P1.Dt}{fk fo fv f1:P1.Ev->S P1.Bx}{gx:P1.Ev->S P1.Dt}{fj b_1:P1.Bx}
namespace P1
open L2 SeqAt
open AutoSeq1 (wpAny_loadPart')
def Ku(h:A6)(a:A1):Prop:=∃o ep,h.get? a=O o/\o.ExactDict/\o.data=.dict #[] ep
section
variable{b:A1}
theorem Ai{AO:Y (AY×V)}{vs:Y (AY×A0)}(q:AO=[])(r:KV AO vs)(d:h.DictOf (bF P w) a vs):Ku h a:=by
 subst q;cases r;obtain⟨o,es,ep,h1,h2,c,_,b,_⟩:=d;have:es=#[]:=by
  have:=b.length;apply Array.eq_empty_of_size_eq_zero;simpa using this
 subst this;exact⟨o,ep,h1,h2,c⟩
theorem Ku.dict(P:A3)(w:A4)(x:Ku h a):h.DictOf (strKind P w) a []:=by
 obtain⟨o,ep,h1,h2,b⟩:=x;exact⟨o,#[],ep,h1,h2,b,λe c=>by simp at c,.nil,Qb⟩
theorem MG(f:(a==sysModules)=false)(hb:(b==sysModules)=false)(c:Ku s.heap a)(e:Ku s.heap b)(d:A.units<cLine):RcAt A s (.ref a) (.ref b) true:=λprog w E Q h=>
 PySem.W.keq_eq (knd:=strKind prog w) f hb (c.dict prog w) (e.dict prog w) d (λ_=>.nil) h
theorem OY(f:(a==sysModules)=false)(hb:(b==sysModules)=false)(c:Ku s.heap a)(e:Ku s.heap b)(d:A.units<cLine):RcNeAt A s (.ref a) (.ref b) false:=λprog w E Q h=>
 PySem.W.keq_ne (r:=true) (knd:=strKind prog w) f hb (c.dict prog w) (e.dict prog w) d (λ_=>.nil) h
theorem Rq(o:AE)(b:AJ)(u:Tok):Meets (Builtin.«dict.__eq__» ⟨[.ref a,.str b u],[]⟩) (λ_ R s=>(s.heap.get? a=O o/\o.cls=.type "dict")/\R (.ok (.ret .notImplemented)) s):=
 .of_wp λprog w A R s h=>by
  have c:s.TypeIs (.ref a) "dict":=⟨o,h.1.1,h.1.2⟩;show A7 _ _ (Builtin.Dict.dictSlotArgs "__eq__" ⟨[.ref a,.str b u],[]⟩ >>= _) _ _ s;refine zd ?_;unfold Builtin.Dict.dictSlotArgs;refine zd (wpAny_notOrdered_dict c ?_);show A7 _ _ (pure (Value.ref a,Value.str b u)) _ _ s;refine zg ?_;refine zd (kC (T :="str") (typeIs_str s b u) PySem.F.sub_str_dict ?_);simp only[k6,QE];refine zd (Kk ?_);exact zg ⟨_,rfl,h.2⟩
theorem Rr(b:AJ)(u:Tok)(es:Array DictEntry)(ep:Nat)(e:S A1)(sl:Array (S A0)):Meets (Builtin.«str.__eq__» ⟨[.str b u,.ref a],[]⟩) (λ_ R s=>s.heap.get? a=O { cls:=.type "dict",dict:=e,data:=.dict es ep,slots:=sl }/\R (.ok (.ret .notImplemented)) s):=
 .of_wp λprog w A R s h=>by obtain⟨hp,g,d,tk,os⟩:=s;obtain⟨c,h⟩:=h;wp_walk using wpAny_loadPart' c,yf c;exact⟨_,rfl,h⟩
theorem Mt(x:AJ)(t:Tok)(d:Ku s.heap a)(i:A.units<cLine):RcAt A s (.str x t) (.ref a) false:=λprog w E Q h=>by
 obtain⟨⟨j,g,l,sl⟩,ep,c,⟨e,hd,hs⟩,f⟩:=d;simp only at e f;subst e f;exact rc_eq_decline_or (k:=false) (typeIs_str s x t) ⟨_,c,rfl⟩ (by decide) PySem.F.sub_dict_str PySem.F.slot_str_eq PySem.F.slot_dict_eq_refl
  (λ_ b=>call_meets PySem.F.slot_str_eq (typeIs_str s x t) PySem.F.entry_str_eq (PySem.F.args_str_eq_2 _ _) (Rr x t #[] ep g sl) ⟨c,b⟩)
  (λ_ b=>call_meets PySem.F.slot_dict_eq_refl ⟨_,c,rfl⟩ PySem.F.entry_dict_eq (PySem.F.args_dict_eq_2 _ _) (Rq _ x t) ⟨⟨c,rfl⟩,b⟩)
  (λ_ b=>wpAny_of_eq (rfl:isSame (.str x t) (.ref a)=pure false) b) (.inr i) h
theorem Rt(o:AE)(b:AJ)(u:Tok):Meets (Builtin.«dict.__ne__» ⟨[.ref a,.str b u],[]⟩) (λ_ R s=>(s.heap.get? a=O o/\o.cls=.type "dict")/\R (.ok (.ret .notImplemented)) s):=
 .of_wp λprog w A R s h=>by
  have c:s.TypeIs (.ref a) "dict":=⟨o,h.1.1,h.1.2⟩;show A7 _ _ (Builtin.Dict.dictSlotArgs "__ne__" ⟨[.ref a,.str b u],[]⟩ >>= _) _ _ s;refine zd ?_;unfold Builtin.Dict.dictSlotArgs;refine zd (wpAny_notOrdered_dict c ?_);show A7 _ _ (pure (Value.ref a,Value.str b u)) _ _ s;refine zg ?_;refine zd (kC (T :="str") (typeIs_str s b u) PySem.F.sub_str_dict ?_);simp only[k6,QE];refine zd (Kk ?_);exact zg ⟨_,rfl,h.2⟩
theorem Ru(b:AJ)(u:Tok)(es:Array DictEntry)(ep:Nat)(e:S A1)(sl:Array (S A0)):Meets (Builtin.«str.__ne__» ⟨[.str b u,.ref a],[]⟩) (λ_ R s=>s.heap.get? a=O { cls:=.type "dict",dict:=e,data:=.dict es ep,slots:=sl }/\R (.ok (.ret .notImplemented)) s):=
 .of_wp λprog w A R s h=>by obtain⟨hp,g,d,tk,os⟩:=s;obtain⟨c,h⟩:=h;wp_walk using wpAny_loadPart' c,yf c;exact⟨_,rfl,h⟩
theorem YC(x:AJ)(t:Tok)(d:Ku s.heap a)(i:A.units<cLine):RcNeAt A s (.str x t) (.ref a) true:=λprog w E Q h=>by
 obtain⟨⟨j,g,l,sl⟩,ep,c,⟨e,hd,hs⟩,f⟩:=d;simp only at e f;subst e f;exact rc_ne_decline_or (k:=false) (typeIs_str s x t) ⟨_,c,rfl⟩ (by decide) PySem.F.sub_dict_str PySem.F.slot_str_ne PySem.F.slot_dict_ne_refl
  (λ_ b=>call_meets PySem.F.slot_str_ne (typeIs_str s x t) PySem.F.entry_str_ne (PySem.F.args_str_ne_2 _ _) (Ru x t #[] ep g sl) ⟨c,b⟩)
  (λ_ b=>call_meets PySem.F.slot_dict_ne_refl ⟨_,c,rfl⟩ PySem.F.entry_dict_ne (PySem.F.args_dict_ne_2 _ _) (Rt _ x t) ⟨⟨c,rfl⟩,b⟩)
  (λ_ b=>wpAny_of_eq (rfl:isSame (.str x t) (.ref a)=pure false) b) (.inr i) h
theorem YD(x:AJ)(t:Tok)(d:Ku s.heap a)(b:A.units<cLine):EqAt A s (.str x t) (.ref a) false:=λprog w E Q h=>by
 unfold eqBool;refine QQ ?_;refine wpAny_ite_split (λc=>absurd (eq_of_beq c) nofun) (λ_=>?_);exact zd (Mt x t d b prog w E _ (JO h))
end
mutual
def yP:Dt->Nat
 |.tup xs=>wM xs+1
 |.lst xs=>wM xs+1
 |_=>1
def wM:Y Dt->Nat
 |[]=>0
 |d::ds=>max (yP d) (wM ds)
end
mutual
def Fl:Dt->Dt->S Bool
 |.non,.non=>O true
 |.non,.bl _=>O false|.non,.int _=>O false|.non,.str _=>O false|.non,.tup _=>O false|.non,.lst _=>O false
 |.bl a,.bl b=>O (a==b)
 |.bl a,.int b=>O ((if a then 1 else 0)==b)
 |.bl _,.non=>O false|.bl _,.str _=>O false|.bl _,.tup _=>O false|.bl _,.lst _=>O false
 |.int a,.int b=>O (a==b)
 |.int a,.bl b=>O (a==(if b then 1 else 0))
 |.int _,.non=>O false|.int _,.str _=>O false|.int _,.tup _=>O false|.int _,.lst _=>O false
 |.str a,.str b=>O (a==b)
 |.str _,.non=>O false|.str _,.bl _=>O false|.str _,.int _=>O false|.str _,.tup _=>O false|.str _,.lst _=>O false|.str _,.emp=>O false
 |.tup xs,.tup ys=>nW xs ys
 |.tup _,.non=>O false|.tup _,.bl _=>O false|.tup _,.int _=>O false|.tup _,.str _=>O false|.tup _,.lst _=>O false
 |.lst xs,.lst ys=>nW xs ys
 |.emp,.emp=>O true
 |.lst _,.non=>O false|.lst _,.bl _=>O false|.lst _,.int _=>O false|.lst _,.str _=>O false|.lst _,.tup _=>O false
 |_,_=>Y3
def nW:Y Dt->Y Dt->S Bool
 |[],[]=>O true
 |[],_::_=>O false
 |_::_,[]=>O false
 |x::xs,y::ys=>match Fl x y with
  |some b=>match nW xs ys with
   |some c=>O (b&&c)
   |none=>Y3
  |none=>Y3
end
mutual
theorem Rv:∀{d:Dt} {k:Bool},Fl d d=O k->k=true
 |.non,_,e=>by cases e;rfl
 |.bl b,_,e=>by cases e;simp
 |.int b,_,e=>by cases e;simp
 |.str b,_,e=>by cases e;simp
 |.tup xs,_,e=>CW (ds:=xs) e
 |.lst xs,_,e=>CW (ds:=xs) e
 |.emp,_,e=>by cases e;rfl
theorem CW:∀{ds:Y Dt} {k:Bool},nW ds ds=O k->k=true
 |[],_,e=>by simp only[nW]at e;cases e;rfl
 |d::ds,_,e=>by
  simp only[nW]at e;cases h:Fl d d with
  |none=>rw[h]at e;cases e
  |some b=>
   rw[h]at e;simp only at e;cases h2:nW ds ds with
   |none=>rw[h2]at e;cases e
   |some c=>
    rw[h2]at e;cases e;rw[Rv h,CW h2];rfl
end
theorem GC(xs ys:Y Dt):Fl (.tup xs) (.tup ys)=nW xs ys:=rfl
theorem wN:∀{xs ys:Y Dt} {k:Bool},nW xs ys=O k->∃e:Nat->Bool,(∀(j:Nat) x y,xs[j]?=O x->ys[j]?=O y->Fl x y=O (e j))/\k=((List.range (min xs.length ys.length)).all e&&xs.length==ys.length)
 |[],[],k,h=>by simp only[nW]at h;cases h;exact⟨λ_=>true,λj x y e=>by simp at e,by simp⟩
 |[],y::ys,k,h=>by simp only[nW]at h;cases h;exact⟨λ_=>true,λj x y e=>by simp at e,by simp⟩
 |x::xs,[],k,h=>by simp only[nW]at h;cases h;exact⟨λ_=>true,λj x y _ e=>by simp at e,by simp⟩
 |x::xs,y::ys,k,h=>by
  simp only[nW]at h;cases h1:Fl x y with
  |none=>rw[h1]at h;cases h
  |some b=>
   rw[h1]at h;simp only at h;cases h2:nW xs ys with
   |none=>rw[h2]at h;cases h
   |some c=>
    rw[h2]at h;cases h;obtain⟨e,g,d⟩:=wN h2;refine⟨λj=>match j with|0=>b|j+1=>e j,λj u v a ev=>?_,?_⟩
    ·cases j with
     |zero=>simp at a ev;subst a ev;exact h1
     |succ j=>exact g j u v (by simpa using a) (by simpa using ev)
    ·have:min (x::xs).length (y::ys).length=min xs.length ys.length+1:=by simp only[Z3];omega
     rw[this,List.range_succ_eq_map,kR,List.all_map,d];have hb:((x::xs).length==(y::ys).length)=(xs.length==ys.length):=by
      rw[Q2];simp
     rw[hb,Bool.and_assoc];rfl
theorem wO:∀{ds:Y Dt} {j:Nat} {d:Dt},ds[j]?=O d->yP d<=wM ds
 |[],_,_,e=>by simp at e
 |d::ds,0,_,e=>by simp at e;subst e;simp only[wM];exact Nat.le_max_left _ _
 |d::ds,j+1,_,e=>by
  simp only[wM];exact ZI (wO (ds:=ds) (j:=j) (by simpa using e)) (Nat.le_max_right _ _)
theorem GD(I:L2.AU X AN σ H s)(h:Cy X.K H a vs):∃b,s.heap.get? a=O b/\b.cls=.type "tuple":=by
 obtain⟨AQ,_,⟨b,e,c,_⟩,_⟩:=I.tuple h;exact⟨b,e,c⟩
theorem GF(I:L2.AU X AN σ H s)(h:uN X.K H a vs):∃b,s.heap.get? a=O b/\b.cls=.type "list":=by
 obtain⟨AQ,_,⟨b,n,e,c,_⟩,_⟩:=I.list h;exact⟨b,e,c⟩
theorem GJ(I:L2.AU X AN σ H s){o:AE}(h:H a=O (.tH o (.dK []))):∃b,s.heap.get? a=O b/\b.cls=.type "dict":=by
 obtain⟨e,_,_,vs,_,b,es,ep,e2,ex,_⟩:=I.hok a _ h;exact⟨b,e2,ex.1⟩
theorem CZ{n m:String}(h:∃b,s.heap.get? a=O b/\b.cls=.type n)(q:∃b,s.heap.get? a=O b/\b.cls=.type m)(f:n≠m):False:=by
 obtain⟨o,e,c⟩:=h;obtain⟨o',e',d⟩:=q;rw[e]at e';cases e';rw[c]at d;exact f (by injection d)
mutual
theorem AW.inj(I:L2.AU X AN σ H s):∀{d e:Dt} {v:V},AW X.K H d v->AW X.K H e v->d=e
 |.non,e,v,h,q=>by
  simp only[AW]at h;subst h;cases e<;>simp only[AW]at q<;>first|rfl|(cases q;done)|(obtain⟨a,b,z,_⟩:=q;cases z;done)|(obtain⟨z,_⟩:=q;cases z;done)
 |.bl _,e,v,h,q=>by
  simp only[AW]at h;subst h;cases e<;>simp only[AW]at q<;>first|(cases q;rfl)|(cases q;done)|(obtain⟨a,b,z,_⟩:=q;cases z;done)|(obtain⟨z,_⟩:=q;cases z;done)
 |.int _,e,v,h,q=>by
  simp only[AW]at h;subst h;cases e<;>simp only[AW]at q<;>first|(cases q;rfl)|(cases q;done)|(obtain⟨a,b,z,_⟩:=q;cases z;done)|(obtain⟨z,_⟩:=q;cases z;done)
 |.str x,e,v,h,q=>by
  simp only[AW]at h;have g:v=.str x:=h.1;subst g;cases e with
  |str y=>
   simp only[AW]at q;have z:V.str x=V.str y:=q.1;injection z with z;rw[z]
  |tup es=>simp only[AW]at q;obtain⟨a,b,z,_⟩:=q;cases z
  |lst es=>simp only[AW]at q;obtain⟨a,b,z,_⟩:=q;cases z
  |emp=>simp only[AW]at q;obtain⟨a,b,z,_⟩:=q;cases z
  |_=>simp only[AW]at q;cases q
 |.tup ds,e,v,h,q=>by
  simp only[AW]at h;obtain⟨a,vs,rfl,sq,r⟩:=h;cases e with
  |tup es=>
   simp only[AW]at q;obtain⟨b,us,z,c,f⟩:=q;cases z;have:=I.LK sq c;subst this;rw[aO.inj I r f]
  |lst es=>
   simp only[AW]at q;obtain⟨b,us,z,c,f⟩:=q;cases z;exact(CZ (GD I sq) (GF I c.sq) (by decide)).elim
  |emp=>
   simp only[AW]at q;obtain⟨b,o,z,c⟩:=q;cases z;exact(CZ (GD I sq) (GJ I c) (by decide)).elim
  |str x=>simp only[AW]at q;have z:=q.1;cases z
  |_=>simp only[AW]at q;cases q
 |.lst ds,e,v,h,q=>by
  simp only[AW]at h;obtain⟨a,vs,rfl,sq,r⟩:=h;cases e with
  |lst es=>
   simp only[AW]at q;obtain⟨b,us,z,c,f⟩:=q;cases z;have:=I.Hh sq.sq c.sq;subst this;rw[aO.inj I r f]
  |tup es=>
   simp only[AW]at q;obtain⟨b,us,z,c,f⟩:=q;cases z;exact(CZ (GF I sq.sq) (GD I c) (by decide)).elim
  |emp=>
   simp only[AW]at q;obtain⟨b,o,z,c⟩:=q;cases z;exact(CZ (GF I sq.sq) (GJ I c) (by decide)).elim
  |str x=>simp only[AW]at q;have z:=q.1;cases z
  |_=>simp only[AW]at q;cases q
 |.emp,e,v,h,q=>by
  simp only[AW]at h;obtain⟨a,o,rfl,sq⟩:=h;cases e with
  |emp=>rfl
  |tup es=>
   simp only[AW]at q;obtain⟨b,us,z,c,f⟩:=q;cases z;exact(CZ (GJ I sq) (GD I c) (by decide)).elim
  |lst es=>
   simp only[AW]at q;obtain⟨b,us,z,c,f⟩:=q;cases z;exact(CZ (GJ I sq) (GF I c.sq) (by decide)).elim
  |str x=>simp only[AW]at q;have z:=q.1;cases z
  |_=>simp only[AW]at q;cases q
theorem aO.inj(I:L2.AU X AN σ H s):∀{ds es:Y Dt} {vs:Y V},aO X.K H ds vs->aO X.K H es vs->ds=es
 |[],es,vs,h,q=>by
  simp only[aO]at h;subst h;cases es with
  |nil=>rfl
  |cons e es=>simp only[aO]at q;obtain⟨_,_,z,_⟩:=q;cases z
 |d::ds,es,vs,h,q=>by
  simp only[aO]at h;obtain⟨v,r,rfl,h1,h2⟩:=h;cases es with
  |nil=>simp only[aO]at q;cases q
  |cons e es=>
   simp only[aO]at q;obtain⟨a,b,z,q1,q2⟩:=q;cases z;rw[AW.inj I h1 q1,aO.inj I h2 q2]
end
theorem LA(I:L2.AU X AN σ H s):∀(n:Nat) {A:A5} {d e:Dt} {x y:V} {u v:A0} {k:Bool},min (yP d) (yP e)<=n->A.units+n<cLine->AW X.K H d x->AW X.K H e y->Au x u->Au y v->Fl d e=O k->EqAt A s u v k:=by
 intro n
 induction n with
 |zero=>
  intro A d e x y u v k Q;have h1:1<=yP d:=by cases d<;>simp only[yP]<;>omega
  have h2:1<=yP e:=by cases e<;>simp only[yP]<;>omega
  omega
 |succ n ih=>
  intro A d e x y u v k Q hA m c w g ek;have h:A.units<cLine:=by omega
  by_cases L:u=v/\∃a,u=.ref a
  ·obtain⟨rfl,a,rfl⟩:=L;have hx:x=.ref a:=by have:=w.abs;simpa[GV]using this.symm
   have hy:y=.ref a:=by have:=g.abs;simpa[GV]using this.symm
   subst hx hy;have:=AW.inj I m c;subst this;rw[Rv ek];exact EqAt.same _
  ·have items:∀{ds es:Y Dt} {vs us:Y V} {AQ l:Y A0} {f:Nat->Bool},min (wM ds) (wM es)<=n->aO X.K H ds vs->aO X.K H es us->AX vs AQ->AX us l->(∀(j:Nat) x y,ds[j]?=O x->es[j]?=O y->Fl x y=O (f j)) →
     ∀j (h1:j<AQ.toArray.size) (h2:j<l.toArray.size),EqAt A.in1 s AQ.toArray[j] l.toArray[j] (f j):=by
    intro ds es vs us AQ l f hm r1 W Z U D j h1 h2;have l1:=Z.length;have l2:=U.length;have l3:=r1.length;have l4:=W.length;have j1:j<AQ.length:=by simpa using h1
    have j2:j<l.length:=by simpa using h2
    have P:ds[j]?=O ds[j]:=by simp
    have d2:es[j]?=O es[j]:=by simp
    obtain⟨a,ea,C⟩:=r1.get P;obtain⟨b,eb,B⟩:=W.get d2;obtain⟨p,ep,rp⟩:=Z.get ea;obtain⟨q,eq,rq⟩:=U.get eb;have e1:AQ.toArray[j]=p:=by simpa[j1]using ep
    have e2:l.toArray[j]=q:=by simpa[j2]using eq
    rw[e1,e2];have m1:=wO P;have m2:=wO d2;exact ih (by omega) (by rw[units_in1];omega) C B rp rq (D j _ _ P d2)
   cases d with
   |non=>
    cases m;cases w;cases e with
    |non=>cases c;cases g;cases ek;exact EqAt.same _
    |bl b=>cases c;cases g;cases ek;exact EqAt.none_bool b
    |int b=>cases c;obtain⟨t,rfl⟩:=g;cases ek;exact EqAt.none_int b t
    |str b=>obtain⟨rfl,_⟩:=c;obtain⟨t,rfl⟩:=g;cases ek;exact EqAt.none_str b t
    |tup es=>obtain⟨b,us,rfl,sq,_⟩:=c;cases g;cases ek;obtain⟨_,_,p,_⟩:=I.tuple sq;exact EqAt.none_tuple p h
    |lst es=>obtain⟨b,us,rfl,sq,_⟩:=c;cases g;cases ek;obtain⟨_,_,p,_⟩:=I.list sq.sq;exact EqAt.none_list p.isList h
    |emp=>cases ek
   |bl a=>
    cases m;cases w;cases e with
    |non=>cases c;cases g;cases ek;exact EqAt.bool_none a
    |bl b=>cases c;cases g;cases ek;exact EqAt.bool_bool a b
    |int b=>cases c;obtain⟨t,rfl⟩:=g;cases ek;exact EqAt.bool_int a b t
    |str b=>obtain⟨rfl,_⟩:=c;obtain⟨t,rfl⟩:=g;cases ek;exact EqAt.bool_str a b t
    |tup es=>obtain⟨b,us,rfl,sq,_⟩:=c;cases g;cases ek;obtain⟨_,_,p,_⟩:=I.tuple sq;exact EqAt.bool_tuple a p h
    |lst es=>obtain⟨b,us,rfl,sq,_⟩:=c;cases g;cases ek;obtain⟨_,_,p,_⟩:=I.list sq.sq;exact EqAt.bool_list a p.isList h
    |emp=>cases ek
   |int a=>
    cases m;obtain⟨i,rfl⟩:=w;cases e with
    |non=>cases c;cases g;cases ek;exact EqAt.int_none a i
    |bl b=>cases c;cases g;cases ek;exact EqAt.int_bool a i b
    |int b=>cases c;obtain⟨t,rfl⟩:=g;cases ek;exact EqAt.int_int a i b t
    |str b=>obtain⟨rfl,_⟩:=c;obtain⟨t,rfl⟩:=g;cases ek;exact EqAt.int_str a i b t
    |tup es=>obtain⟨b,us,rfl,sq,_⟩:=c;cases g;cases ek;obtain⟨_,_,p,_⟩:=I.tuple sq;exact EqAt.int_tuple a i p h
    |lst es=>obtain⟨b,us,rfl,sq,_⟩:=c;cases g;cases ek;obtain⟨_,_,p,_⟩:=I.list sq.sq;exact EqAt.int_list a i p.isList h
    |emp=>cases ek
   |str a=>
    obtain⟨rfl,_⟩:=m;obtain⟨i,rfl⟩:=w;cases e with
    |non=>cases c;cases g;cases ek;exact EqAt.str_none a i
    |bl b=>cases c;cases g;cases ek;exact EqAt.str_bool a i b
    |int b=>cases c;obtain⟨t,rfl⟩:=g;cases ek;exact EqAt.str_int a i b t
    |str b=>obtain⟨rfl,_⟩:=c;obtain⟨t,rfl⟩:=g;cases ek;exact EqAt.str_str a i b t
    |tup es=>obtain⟨b,us,rfl,sq,_⟩:=c;cases g;cases ek;obtain⟨_,_,p,_⟩:=I.tuple sq;exact EqAt.str_tuple a i p h
    |lst es=>obtain⟨b,us,rfl,sq,_⟩:=c;cases g;cases ek;obtain⟨_,_,p,_⟩:=I.list sq.sq;exact EqAt.str_list a i p.isList h
    |emp=>
     simp only[AW]at c;obtain⟨p,o,rfl,e⟩:=c;cases g;cases ek;obtain⟨_,_,vs,r,q⟩:=vU I.hok (.inr ⟨o,e⟩);exact YD a i (Ai Y2 r q) h
   |tup ds=>
    obtain⟨a,vs,rfl,N,C⟩:=m;cases w;obtain⟨AQ,E,p,_⟩:=I.tuple N;cases e with
    |non=>cases c;cases g;cases ek;exact EqAt.tuple_none p h
    |bl b=>cases c;cases g;cases ek;exact EqAt.tuple_bool b p h
    |int b=>cases c;obtain⟨t,rfl⟩:=g;cases ek;exact EqAt.tuple_int b t p h
    |str b=>obtain⟨rfl,_⟩:=c;obtain⟨t,rfl⟩:=g;cases ek;exact EqAt.tuple_str b t p h
    |lst es=>obtain⟨b,us,rfl,sq,_⟩:=c;cases g;cases ek;obtain⟨_,_,p2,_⟩:=I.list sq.sq;exact EqAt.tuple_list p p2.isList h
    |tup es=>
     obtain⟨b,us,rfl,M,B⟩:=c;cases g;obtain⟨l,F,p2,_⟩:=I.tuple M;change nW _ _=O _ at ek;obtain⟨f,D,rfl⟩:=wN ek;have J:a≠b:=λz=>L ⟨by rw[z],a,rfl⟩;have z:=EqAt.of_refs J (RcAt.tuples (A:=A) (e:=f) p p2 h (items (by simp only[yP]at Q;omega) C B E F D));have q1:AQ.toArray.size=ds.length:=by rw[zS,<-E.length,C.length]
     have q2:l.toArray.size=es.length:=by rw[zS,<-F.length,B.length]
     rw[q1,q2]at z;exact z
    |emp=>cases ek
   |lst ds=>
    obtain⟨a,vs,rfl,N,C⟩:=m;cases w;obtain⟨AQ,E,p,_⟩:=I.list N.sq;cases e with
    |non=>cases c;cases g;cases ek;exact EqAt.list_none p.isList h
    |bl b=>cases c;cases g;cases ek;exact EqAt.list_bool b p.isList h
    |int b=>cases c;obtain⟨t,rfl⟩:=g;cases ek;exact EqAt.list_int b t p.isList h
    |str b=>obtain⟨rfl,_⟩:=c;obtain⟨t,rfl⟩:=g;cases ek;exact EqAt.list_str b t p.isList h
    |tup es=>obtain⟨b,us,rfl,sq,_⟩:=c;cases g;cases ek;obtain⟨_,_,p2,_⟩:=I.tuple sq;exact EqAt.list_tuple p.isList p2 h
    |lst es=>
     obtain⟨b,us,rfl,M,B⟩:=c;cases g;obtain⟨l,F,p2,_⟩:=I.list M.sq;change nW _ _=O _ at ek;obtain⟨f,D,rfl⟩:=wN ek;have J:a≠b:=λz=>L ⟨by rw[z],a,rfl⟩;have q1:AQ.toArray.size=ds.length:=by rw[zS,<-E.length,C.length]
     have q2:l.toArray.size=es.length:=by rw[zS,<-F.length,B.length]
     by_cases a0:AQ.toArray.size=l.toArray.size
     ·have z:=EqAt.of_refs J (RcAt.lists (A:=A) (e:=f) p.isList p2.isList a0 h (items (by simp only[yP]at Q;omega) C B E F D));have G:ds.length=es.length:=by omega
      rw[q1]at z;rw[G,Nat.min_self,beq_self_eq_true,KU,<-G];exact z
     ·have G:(ds.length==es.length)=false:=by rw[beq_eq_false_iff_ne];omega
      rw[G,yk];exact EqAt.of_refs J (RcAt.lists_lengths p.isList p2.isList (by simpa using a0) h)
    |emp=>cases ek
   |emp=>
    cases e<;>first|(cases ek;done)|skip;simp only[AW]at m c;obtain⟨a,o,rfl,e1⟩:=m;obtain⟨b,o',rfl,e2⟩:=c;cases w;cases g;cases ek;obtain⟨_,m1,vs,r,q⟩:=vU I.hok (.inr ⟨o,e1⟩);obtain⟨_,m2,a1,r',q'⟩:=vU I.hok (.inr ⟨o',e2⟩);exact EqAt.of_refs (λz=>L ⟨by rw[z],a,rfl⟩) (MG m1 m2 (Ai Y2 r q) (Ai Y2 r' q') h)
theorem Rw(I:L2.AU X AN σ H s){es:Y Dt}{us:Y V}{c:Y A0}{f:Nat->Bool}(B:min (wM ds) (wM es)<=n)(F:A.units+n+1<cLine)(i:aO X.K H ds vs)(g:aO X.K H es us)(h:AX vs AQ)(e:AX us c)(o:∀(j:Nat) x y,ds[j]?=O x->es[j]?=O y->Fl x y=O (f j)):∀j (h1:j<AQ.toArray.size) (h2:j<c.toArray.size),EqAt A.in1 s AQ.toArray[j] c.toArray[j] (f j):=by
 intro j h1 h2;have D:=h.length;have C:=e.length;have l3:=i.length;have E:=g.length;have t:j<AQ.length:=by simpa using h1
 have z:j<c.length:=by simpa using h2
 have d:ds[j]?=O (ds[j]'(by omega)):=by simp
 have d2:es[j]?=O (es[j]'(by omega)):=by simp
 obtain⟨a,ea,u⟩:=i.get d;obtain⟨b,eb,l⟩:=g.get d2;obtain⟨p,ep,m⟩:=h.get ea;obtain⟨q,w,v⟩:=e.get eb;have e1:AQ.toArray[j]=p:=by simpa[t]using ep
 have e2:c.toArray[j]=q:=by simpa[z]using w
 rw[e1,e2];have G:=wO d;have J:=wO d2;exact LA I n (by omega) (by rw[units_in1];omega) u l m v (o j _ _ d d2)
def Ee(K:B4)(H:Hp):Dt->V->Prop
 |.lst ds,v=>∃a vs,v=.ref a/\uN K H a vs/\aO K H ds vs
 |d,v=>AW K H d v
def wQ:Bx->Bool
 |.n _=>true
 |.m _ _=>true
 |_=>false
def toD:Bx->Dt
 |.z d=>d
 |.l ds=>.lst ds
 |.o ds=>.lst ds
 |.n _=>.non
 |.m _ _=>.non
theorem bC.toD(h:bC K H b v)(a:wQ b=false):Ee K H (toD b) v:=by
 cases b with
 |z d=>
  cases d with
  |lst ds=>exact h.Hv rfl
  |_=>exact h
 |l ds=>exact h.Hv rfl
 |o ds=>exact h.Hv rfl
 |n _=>cases a
 |m _ _=>cases a
theorem WY(I:L2.AU X AN σ H s){e:Dt}{x y:V}{v:A0}{k:Bool}(M:min (yP d) (yP e)<=100)(hA:X.A.units+100<cLine)(z:Ee X.K H d x)(h:Ee X.K H e y)(B:Au x u)(i:Au y v)(ek:Fl d e=O k):RcAt X.A s u v k/\RcNeAt X.A s u v (!k):=by
 have g:X.A.units<cLine:=by omega
 cases d with
 |non=>
  cases z;cases B;cases e with
  |non=>
   cases h;cases i;cases ek;exact⟨.none_none,.none_none⟩
  |bl c=>
   cases h;cases i;cases ek;exact⟨.none_bool c,.none_bool c⟩
  |int c=>
   cases h;obtain⟨t2,rfl⟩:=i;cases ek;exact⟨.none_int c t2,.none_int c t2⟩
  |str c=>
   obtain⟨rfl,_⟩:=h;obtain⟨t2,rfl⟩:=i;cases ek;exact⟨.none_str c t2,.none_str c t2⟩
  |tup c=>
   obtain⟨a2,w,rfl,j,m⟩:=h;cases i;obtain⟨t,l,p2,_⟩:=I.tuple j;cases ek;exact⟨.none_tuple p2 g,.none_tuple p2 g⟩
  |lst c=>
   obtain⟨a2,w,rfl,j,m⟩:=h;cases i;obtain⟨t,l,p2,_⟩:=I.list j;cases ek;exact⟨.none_list p2.isList g,.none_list p2.isList g⟩
  |emp=>cases ek
 |bl x1=>
  cases z;cases B;cases e with
  |non=>
   cases h;cases i;cases ek;exact⟨.bool_none x1,.bool_none x1⟩
  |bl c=>
   cases h;cases i;cases ek;exact⟨.bool_bool x1 c,.bool_bool x1 c⟩
  |int c=>
   cases h;obtain⟨t2,rfl⟩:=i;cases ek;exact⟨.bool_int x1 c t2,.bool_int x1 c t2⟩
  |str c=>
   obtain⟨rfl,_⟩:=h;obtain⟨t2,rfl⟩:=i;cases ek;exact⟨.bool_str x1 c t2,.bool_str x1 c t2⟩
  |tup c=>
   obtain⟨a2,w,rfl,j,m⟩:=h;cases i;obtain⟨t,l,p2,_⟩:=I.tuple j;cases ek;exact⟨.bool_tuple x1 p2 g,.bool_tuple x1 p2 g⟩
  |lst c=>
   obtain⟨a2,w,rfl,j,m⟩:=h;cases i;obtain⟨t,l,p2,_⟩:=I.list j;cases ek;exact⟨.bool_list x1 p2.isList g,.bool_list x1 p2.isList g⟩
  |emp=>cases ek
 |int x1=>
  cases z;obtain⟨t1,rfl⟩:=B;cases e with
  |non=>
   cases h;cases i;cases ek;exact⟨.int_none x1 t1,.int_none x1 t1⟩
  |bl c=>
   cases h;cases i;cases ek;exact⟨.int_bool x1 t1 c,.int_bool x1 t1 c⟩
  |int c=>
   cases h;obtain⟨t2,rfl⟩:=i;cases ek;exact⟨.int_int x1 t1 c t2,.int_int x1 t1 c t2⟩
  |str c=>
   obtain⟨rfl,_⟩:=h;obtain⟨t2,rfl⟩:=i;cases ek;exact⟨.int_str x1 t1 c t2,.int_str x1 t1 c t2⟩
  |tup c=>
   obtain⟨a2,w,rfl,j,m⟩:=h;cases i;obtain⟨t,l,p2,_⟩:=I.tuple j;cases ek;exact⟨.int_tuple x1 t1 p2 g,.int_tuple x1 t1 p2 g⟩
  |lst c=>
   obtain⟨a2,w,rfl,j,m⟩:=h;cases i;obtain⟨t,l,p2,_⟩:=I.list j;cases ek;exact⟨.int_list x1 t1 p2.isList g,.int_list x1 t1 p2.isList g⟩
  |emp=>cases ek
 |str x1=>
  obtain⟨rfl,_⟩:=z;obtain⟨t1,rfl⟩:=B;cases e with
  |non=>
   cases h;cases i;cases ek;exact⟨.str_none x1 t1,.str_none x1 t1⟩
  |bl c=>
   cases h;cases i;cases ek;exact⟨.str_bool x1 t1 c,.str_bool x1 t1 c⟩
  |int c=>
   cases h;obtain⟨t2,rfl⟩:=i;cases ek;exact⟨.str_int x1 t1 c t2,.str_int x1 t1 c t2⟩
  |str c=>
   obtain⟨rfl,_⟩:=h;obtain⟨t2,rfl⟩:=i;cases ek;exact⟨.str_str x1 t1 c t2,.str_str x1 t1 c t2⟩
  |tup c=>
   obtain⟨a2,w,rfl,j,m⟩:=h;cases i;obtain⟨t,l,p2,_⟩:=I.tuple j;cases ek;exact⟨.str_tuple x1 t1 p2 g,.str_tuple x1 t1 p2 g⟩
  |lst c=>
   obtain⟨a2,w,rfl,j,m⟩:=h;cases i;obtain⟨t,l,p2,_⟩:=I.list j;cases ek;exact⟨.str_list x1 t1 p2.isList g,.str_list x1 t1 p2.isList g⟩
  |emp=>
   simp only[Ee,AW]at h;obtain⟨p,o,rfl,e⟩:=h;cases i;cases ek;obtain⟨_,_,vs,r,q⟩:=vU I.hok (.inr ⟨o,e⟩);exact⟨Mt x1 t1 (Ai Y2 r q) g,YC x1 t1 (Ai Y2 r q) g⟩
 |tup x1=>
  obtain⟨a1,W,rfl,J,D⟩:=z;cases B;obtain⟨F,C,p1,_⟩:=I.tuple J;cases e with
  |non=>
   cases h;cases i;cases ek;exact⟨.tuple_none p1 g,.tuple_none p1 g⟩
  |bl c=>
   cases h;cases i;cases ek;exact⟨.tuple_bool c p1 g,.tuple_bool c p1 g⟩
  |int c=>
   cases h;obtain⟨t2,rfl⟩:=i;cases ek;exact⟨.tuple_int c t2 p1 g,.tuple_int c t2 p1 g⟩
  |str c=>
   obtain⟨rfl,_⟩:=h;obtain⟨t2,rfl⟩:=i;cases ek;exact⟨.tuple_str c t2 p1 g,.tuple_str c t2 p1 g⟩
  |tup c=>
   obtain⟨a2,w,rfl,j,m⟩:=h;cases i;obtain⟨t,l,p2,_⟩:=I.tuple j;change nW _ _=O _ at ek;obtain⟨f,L,rfl⟩:=wN ek;have q1:F.toArray.size=x1.length:=by rw[zS,<-C.length,D.length]
   have q2:t.toArray.size=c.length:=by rw[zS,<-l.length,m.length]
   have it:=Rw I (n:=99) (A:=X.A) (by simp only[yP]at M;omega) (by omega) D m C l L;rw[<-q1,<-q2];exact⟨.tuples p1 p2 g it,.tuples p1 p2 g it⟩
  |lst c=>
   obtain⟨a2,w,rfl,j,m⟩:=h;cases i;obtain⟨t,l,p2,_⟩:=I.list j;cases ek;exact⟨.tuple_list p1 p2.isList g,.tuple_list p1 p2.isList g⟩
  |emp=>cases ek
 |lst x1=>
  obtain⟨a1,W,rfl,J,D⟩:=z;cases B;obtain⟨F,C,p1,_⟩:=I.list J;cases e with
  |non=>
   cases h;cases i;cases ek;exact⟨.list_none p1.isList g,.list_none p1.isList g⟩
  |bl c=>
   cases h;cases i;cases ek;exact⟨.list_bool c p1.isList g,.list_bool c p1.isList g⟩
  |int c=>
   cases h;obtain⟨t2,rfl⟩:=i;cases ek;exact⟨.list_int c t2 p1.isList g,.list_int c t2 p1.isList g⟩
  |str c=>
   obtain⟨rfl,_⟩:=h;obtain⟨t2,rfl⟩:=i;cases ek;exact⟨.list_str c t2 p1.isList g,.list_str c t2 p1.isList g⟩
  |tup c=>
   obtain⟨a2,w,rfl,j,m⟩:=h;cases i;obtain⟨t,l,p2,_⟩:=I.tuple j;cases ek;exact⟨.list_tuple p1.isList p2 g,.list_tuple p1.isList p2 g⟩
  |lst c=>
   obtain⟨a2,w,rfl,j,m⟩:=h;cases i;obtain⟨t,l,p2,_⟩:=I.list j;change nW _ _=O _ at ek;obtain⟨f,L,rfl⟩:=wN ek;have q1:F.toArray.size=x1.length:=by rw[zS,<-C.length,D.length]
   have q2:t.toArray.size=c.length:=by rw[zS,<-l.length,m.length]
   have it:=Rw I (n:=99) (A:=X.A) (by simp only[yP]at M;omega) (by omega) D m C l L;by_cases G:F.toArray.size=t.toArray.size
   ·have E:x1.length=c.length:=by omega
    rw[E,Nat.min_self,beq_self_eq_true,KU,<-E,<-q1];exact⟨.lists p1.isList p2.isList G g it,.lists p1.isList p2.isList G g it⟩
   ·have E:(x1.length==c.length)=false:=by rw[beq_eq_false_iff_ne];omega
    rw[E,yk];exact⟨.lists_lengths p1.isList p2.isList (by simpa using G) g,.lists_lengths p1.isList p2.isList (by simpa using G) g⟩
  |emp=>cases ek
 |emp=>
  cases e<;>first|(cases ek;done)|skip;simp only[Ee,AW]at z h;obtain⟨a,o,rfl,e1⟩:=z;obtain⟨b,o',rfl,e2⟩:=h;cases B;cases i;cases ek;obtain⟨_,P,vs,r,q⟩:=vU I.hok (.inr ⟨o,e1⟩);obtain⟨_,U,Z,Q,N⟩:=vU I.hok (.inr ⟨o',e2⟩);exact⟨MG P U (Ai Y2 r q) (Ai Y2 Q N) g,OY P U (Ai Y2 r q) (Ai Y2 Q N) g⟩
def C0(a b:Bx):S Bx:=if wQ a=true\/wQ b=true then Y3 else if min (yP (toD a)) (yP (toD b))<=100 then(Fl (toD a) (toD b)).bind λk=>O (.z (.bl k))else Y3
def W0(a b:Bx):S Bx:=if wQ a=true\/wQ b=true then Y3 else if min (yP (toD a)) (yP (toD b))<=100 then(Fl (toD a) (toD b)).bind λk=>O (.z (.bl (!k)))else Y3
theorem of_eq(l:X.A.units+100<cLine):Gs X (AG .Eq) C0:=by
 intro AN s σ H x y v u Q I f n h;obtain⟨a,b,c,i,j,e,q⟩:=h;unfold C0 at e;split at e
 ·cases e
 rename_i d;have g:wQ a=false:=by cases h:wQ a with|false=>rfl|true=>exact absurd (.inl h) d
 have hb:wQ b=false:=by cases h:wQ b with|false=>rfl|true=>exact absurd (.inr h) d
 split at e
 ·rename_i m;obtain⟨k,ek,e⟩:=AT e;cases e;exact(WY I m l (i.toD g) (j.toD hb) f n ek).1 X.prog X.w X.xe _ ⟨.bl k,H,I,rfl,q _ H (AV.refl H) trivial (by unfold bC AW;rfl)⟩
 ·cases e
theorem DY(l:X.A.units+100<cLine):Gs X (AG .NotEq) W0:=by
 intro AN s σ H x y v u Q I f n h;obtain⟨a,b,c,i,j,e,q⟩:=h;unfold W0 at e;split at e
 ·cases e
 rename_i d;have g:wQ a=false:=by cases h:wQ a with|false=>rfl|true=>exact absurd (.inl h) d
 have hb:wQ b=false:=by cases h:wQ b with|false=>rfl|true=>exact absurd (.inr h) d
 split at e
 ·rename_i m;obtain⟨k,ek,e⟩:=AT e;cases e;exact(WY I m l (i.toD g) (j.toD hb) f n ek).2 X.prog X.w X.xe _ ⟨.bl (!k),H,I,rfl,q _ H (AV.refl H) trivial (by unfold bC AW;rfl)⟩
 ·cases e
theorem Fo{i:Int}:bC K H (.z (.int i)) (.int i):=by unfold bC AW;rfl
theorem FK{b:Bool}:bC K H (.z (.bl b)) (.bl b):=by unfold bC AW;rfl
theorem GL(h:x.length<=AA):bC K H (.z (.str x)) (.str x):=by unfold bC AW;exact⟨rfl,h⟩
theorem Mu{i:Int}(h:bC K H (.z (.int i)) v):v=.int i:=by simpa only[bC,AW]using h
theorem YF(h:bC K H (.z (.str x)) v):v=.str x/\x.length<=AA:=by simpa only[bC,AW]using h
theorem EN(h:bC K H (.z (.tup ds)) v):∃a vs,v=.ref a/\Cy K H a vs/\aO K H ds vs:=by simpa only[bC,AW]using h
def i2(g:Int->Int->S Dt):Bx->Bx->S Bx
 |.z (.int i),.z (.int j)=>(g i j).bind λd=>O (.z d)
 |_,_=>Y3
theorem HY{f:A0->A0->Sem A0}{r:R2}{g:Int->Int->S Dt}(p:yM X f r)(h:∀i j d H Q,g i j=O d->(∀v,AW X.K H d v->Q v H)->r (.int i) (.int j) H Q):Gs X f (i2 g):=yM.imp p λx y H Q q=>by
 obtain⟨a,b,c,n,o,e,q⟩:=q;unfold i2 at e;split at e
 ·rename_i i j;obtain⟨d,l,e⟩:=AT e;cases e;rw[Mu n,Mu o];exact h i j d H Q l λv m=>q v H (AV.refl H) trivial m
 ·cases e
theorem Fh{i:Int}:AW K H (.int i) (.int i):=by unfold AW;rfl
theorem EQ{b:Bool}:AW K H (.bl b) (.bl b):=by unfold AW;rfl
abbrev Bi:=i2 λi j=>O (.int (i-j))
abbrev FC:=i2 λi j=>O (.bl (decide (i<=j)))
abbrev DO:=i2 λi j=>O (.bl (decide (j<i)))
abbrev GM:=i2 λi j=>O (.bl (decide (j<=i)))
abbrev Mv:=i2 λi j=>if 0<j/\j<1073741824 then O (.int (i / j))else Y3
abbrev jg:=i2 λi j=>if 0<j then O (.int (i%j))else Y3
abbrev IE:=i2 λi j=>if 0<=j/\j<=1000/\i.natAbs<2 ^ 64 then O (.int (i ^ j.toNat))else Y3
theorem zy:Gs X (binaryOp .Sub) Bi:=HY Po λi j d H Q e q=>by cases e;exact⟨i,j,rfl,rfl,q _ Fh⟩
theorem CO:Gs X (AG .LtE) FC:=HY f8 λi j d H Q e q=>by cases e;exact⟨i,j,rfl,rfl,q _ EQ⟩
theorem Mw:Gs X (AG .Gt) DO:=HY PY λi j d H Q e q=>by cases e;exact⟨i,j,rfl,rfl,q _ EQ⟩
theorem N3:Gs X (AG .GtE) GM:=HY Wl λi j d H Q e q=>by cases e;exact⟨i,j,rfl,rfl,q _ EQ⟩
theorem GK:Gs X (binaryOp .FloorDiv) Mv:=HY Of λi j d H Q e q=>by
 split at e
 ·rename_i h;cases e;exact⟨i,j,rfl,rfl,h,q _ Fh⟩
 ·cases e
theorem cV:Gs X (binaryOp .Mod) jg:=HY ae λi j d H Q e q=>by
 split at e
 ·rename_i h;cases e;exact⟨i,j,rfl,rfl,h,q _ Fh⟩
 ·cases e
theorem RI:Gs X (binaryOp .Pow) IE:=HY PH λi j d H Q e q=>by
 split at e
 ·rename_i h;cases e;exact⟨i,j,rfl,rfl,⟨h.1,by omega,h.2.2⟩,q _ Fh⟩
 ·cases e
def FD:Bx->S Bx
 |.z (.int i)=>O (.z (.int (-i)))
 |_=>Y3
theorem WZ:ML X (unaryOp .USub) FD:=DI.imp X9 λx H Q q=>by
 obtain⟨a,c,b,e,q⟩:=q;unfold FD at e;split at e
 ·rename_i i;cases e;exact⟨i,Mu b,q _ H (AV.refl H) trivial Fo⟩
 ·cases e
def Ve:Nat:=1000000
theorem Su:Ve<=AA:=by decide
theorem XX{b:A1}{us:Y V}{Q:VK}(I:L2.AU X AN σ H s)(j:uN X.K H l vs)(hb:uN X.K H b us)(n:vs.length+us.length<=AA)(q:∀p,H p=Y3->Q (.ref p) (B6 H p (.lst (vs++us)))):
  A7 (A8 X.prog X.w) X.A (binaryOp .Add (.ref l) (.ref b)) (EP X AN σ Q) X.xe s:=by
 obtain⟨AQ,f,⟨⟨D,v,u,sl⟩,m,e1,c1,g,h⟩,z1⟩:=I.list j;obtain⟨a,d,⟨⟨cls2,C,B,t⟩,i,e2,c2,d2,c⟩,z2⟩:=I.list hb;simp only at c1 g h c2 d2 c;subst c1 g h c2 d2 c;have z:=f.length;have x:=d.length;have e:AQ.toArray++a.toArray=(AQ++a).toArray:=by simp
 refine concat_meets ⟨_,e1,rfl⟩ ⟨_,e2,rfl⟩ noFill_list_add seq_list_add PySem.F.slot_list_add PySem.F.entry_list_add (PySem.F.args_list_add_2 _ _) (list_addW l b AQ.toArray a.toArray m i Y3 Y3 sl t (by rw[zS,zS];omega)) ⟨e1,e2,?_⟩;rw[e];exact⟨.ref s.heap.objs.size,_,I.laid (t':=s.toks) (o:=.lst (vs++us)) (λb y q=>ze _ q) (zk _) ⟨by rw[zw];exact n,_,0,f.append d,zC _ rfl⟩,rfl,q _ (I.hok.fresh (zk _))⟩
theorem Pf{b:A1}{us:Y V}{Q:VK}(I:L2.AU X AN σ H s)(c:Cy X.K H l vs)(hb:Cy X.K H b us)(j:vs.length+us.length<=AA)(i:vs=[]->Q (.ref b) H)(q1:us=[]->Q (.ref l) H)(q2:∀p,H p=Y3->Q (.ref p) (B6 H p (.tup (vs++us)))):
  A7 (A8 X.prog X.w) X.A (binaryOp .Add (.ref l) (.ref b)) (EP X AN σ Q) X.xe s:=by
 by_cases a:vs=[]
 ·obtain⟨AQ,n,⟨⟨t,m,u,sl⟩,e1,c1,g,d⟩,z1⟩:=I.tuple c;obtain⟨h,x,⟨⟨cls2,o,v,q⟩,e2,c2,f,e⟩,z2⟩:=I.tuple hb;simp only at c1 d c2 e;subst c1 d c2 e;have:AQ=[]:=n.z6.mpr a;exact concat_meets ⟨_,e1,rfl⟩ ⟨_,e2,rfl⟩ noFill_tuple_add seq_tuple_add PySem.F.slot_tuple_add Yf (yY _ _)
   (tuple_addW0 l b AQ.toArray h.toArray g f m o sl q (by simp[this])) ⟨e1,e2,⟨.ref b,H,I,rfl,i a⟩⟩
 ·exact XA AN s σ H (.ref l) (.ref b) (.ref l) (.ref b) Q I Y2 Y2 ⟨l,b,vs,us,rfl,rfl,c,hb,a,j,q1,λ_=>q2⟩
def eU:Bx->Bx->S Bx
 |.z (.int i),.z (.int j)=>O (.z (.int (i+j)))
 |.z (.str i),.z (.str j)=>if i.length+j.length<=Ve then O (.z (.str (i++j)))else Y3
 |.z (.tup xs),.z (.tup ys)=>if xs.length+ys.length<=Ve then O (.z (.tup (xs++ys)))else Y3
 |a,b=>(rz a).bind λxs=>(rz b).bind λys=>if xs.length+ys.length<=Ve then O (.o (xs++ys))else Y3
theorem D5(i j:AJ):(i++j).length=i.length+j.length:=by
 show(i.cps++j.cps).size=_;rw[KM];rfl
theorem bZ:Gs X (binaryOp .Add) eU:=by
 intro AN s σ H x y v u Q I g t h;obtain⟨a,b,c,n,o,e,q⟩:=h;have A:=Su;unfold eU at e;split at e
 ·rename_i i j;cases e;exact SO AN s σ H x y v u Q I g t ⟨i,j,Mu n,Mu o,q _ H (AV.refl H) trivial Fo⟩
 ·rename_i i j;split at e
  ·rename_i w;cases e;exact UJ AN s σ H x y v u Q I g t ⟨i,j,(YF n).1,(YF o).1,by omega,q _ H (AV.refl H) trivial (GL (by rw[D5];omega))⟩
  ·cases e
 ·rename_i xs ys;split at e
  ·rename_i w;cases e;obtain⟨l,vs,rfl,sl,d⟩:=EN n;obtain⟨m,us,rfl,f,rm⟩:=EN o;cases g;cases t;have h1:=d.length;have h2:=rm.length;refine Pf I sl f (by omega) (λz=>q _ H (AV.refl H) trivial ?_) (λz=>q _ H (AV.refl H) trivial ?_) λp hp=>q _ _ (cg hp) trivial ?_
   ·unfold bC AW;refine⟨m,us,rfl,f,?_⟩;have:xs=[]:=by subst z;exact List.eq_nil_of_length_eq_zero (by simpa using h1.symm)
    rw[this,kM];exact rm
   ·unfold bC AW;refine⟨l,vs,rfl,sl,?_⟩;have:ys=[]:=by subst z;exact List.eq_nil_of_length_eq_zero (by simpa using h2.symm)
    rw[this,qv];exact d
   ·unfold bC AW;exact⟨p,_,rfl,.inl (.inl bH),(d.append rm).kp (.of (cg hp))⟩
  ·cases e
 ·obtain⟨xs,ea,e⟩:=AT e;obtain⟨ys,eb,e⟩:=AT e;split at e
  ·rename_i w;cases e;obtain⟨l,vs,rfl,sl,d⟩:=n.Hv ea;obtain⟨m,us,rfl,f,rm⟩:=o.Hv eb;cases g;cases t;have h1:=d.length;have h2:=rm.length;refine XX I sl f (by omega) λp hp=>q _ _ (cg hp) (λa ea=>by cases ea;exact hp) ⟨p,_,rfl,bH,(d.append rm).kp (.of (cg hp))⟩
  ·cases e
def yH:Bx->Bx->S Bx
 |.z (.int i),.z (.int j)=>if(-(2 ^ 64)<i/\i<2 ^ 64)\/(-(2 ^ 64)<j/\j<2 ^ 64)then O (.z (.int (i*j)))else Y3
 |.z (.str x),.z (.int n)=>if n<=1000 ∧ -1000<=n/\x.length<=1000 then O (.z (.str (Txt.mul x n)))else Y3
 |_,_=>Y3
theorem yQ(x:Array Nat):∀(n:Nat) (a:Array Nat),((List.replicate n x).foldl (·++·) a).size=a.size+n*x.size
 |0,a=>by simp
 |n+1,a=>by
  rw[Kb,qS,yQ x n,KM,Nat.succ_mul];omega
theorem Ou(x:AJ)(n:Int):(Txt.mul x n).length<=n.toNat*x.length+x.length:=by
 unfold Txt.mul;split
 ·exact QU _
 ·split
  ·exact Nat.le_add_left _ _
  ·show((List.replicate n.toNat x.cps).foldl (·++·) #[]).size<=_;rw[yQ];show(#[]:Array Nat).size+n.toNat*x.cps.size<=n.toNat*x.cps.size+x.cps.size;simp
theorem tM:Gs X (binaryOp .Mult) yH:=by
 intro AN s σ H x y v u Q I g o h;obtain⟨a,b,c,l,m,e,q⟩:=h;unfold yH at e;split at e
 ·rename_i i j;split at e
  ·rename_i f;cases e;exact ij AN s σ H x y v u Q I g o ⟨i,j,Mu l,Mu m,f,q _ H (AV.refl H) trivial Fo⟩
  ·cases e
 ·rename_i d n;split at e
  ·rename_i f;cases e;obtain⟨rfl,hx⟩:=YF l;have p:=Mu m;subst p;obtain⟨t,rfl⟩:=g;obtain⟨w,rfl⟩:=o;have hs:AA=16777216:=sizeLine_eq;have A:n.toNat*d.length<=1000*1000:=Nat.mul_le_mul (by omega) f.2.2;refine SB.mul ⟨?_,λh1 h2=>?_,λh1 h2=>?_⟩ λw k=>⟨.str _,H,I.tok _,⟨_,rfl⟩,q _ H (AV.refl H) trivial (GL (ZI (Ou d n) (by omega)))⟩
   ·have e1:decide (n < -(2 ^ 63:Int))=false:=ZN (by omega);have e2:decide (n>=2 ^ 63)=false:=ZN (by omega);rw[e1,e2];rfl
   ·have z:0<n:=by omega
    have:(1000:Int)<=(2 ^ 63-1) / n:=(Int.le_ediv_iff_mul_le z).mpr (by omega);omega
   ·show decide (d.length*n.toNat>AA)=false;rw[Nat.mul_comm];exact ZN (by omega)
  ·cases e
 ·cases e
def Na(i j:AJ):Bool:=!(Builtin.Str.occurrences j i 0 j.length 1).isEmpty
def Aj:Dt->Bool
 |.non=>true
 |.bl _=>true
 |.int _=>true
 |.str _=>true
 |_=>false
def CY(x:Dt)(ys:Y Dt):S Bool:=if Aj x=true/\ys.all Aj=true then O (ys.any λy=>match Fl y x with|some true=>true|_=>false)else Y3
def wR:Bx->S (Y Dt)
 |.z (.lst ds)=>O ds
 |.z (.tup ds)=>O ds
 |.l ds=>O ds
 |.o ds=>O ds
 |_=>Y3
def GO:Bx->Bx->S Bool
 |.z (.str i),.z (.str j)=>O (Na i j)
 |.z d,b=>(wR b).bind λys=>CY d ys
 |_,_=>Y3
def DS(a b:Bx):S Bx:=(GO a b).bind λk=>O (.z (.bl k))
theorem Rx(r:AW K H d v)(f:Aj d=true):vR v=true:=by
 cases d<;>first|(cases f;done)|skip
 all_goals simp only[AW]at r
 ·subst r;rfl
 ·subst r;rfl
 ·subst r;rfl
 ·obtain⟨rfl,_⟩:=r;rfl
theorem Mx{K:B4}{H:Hp}:∀{ds:Y Dt} {vs:Y V},aO K H ds vs->ds.all Aj=true->vs.all vR=true
 |[],_,h,_=>by simp only[aO]at h;subst h;rfl
 |d::ds,_,h,f=>by
  simp only[aO]at h;obtain⟨v,r,rfl,h1,h2⟩:=h;rw[kR,ZT]at f;rw[kR,Rx h1 f.1,Mx h2 f.2];rfl
theorem Ov(b:Bool):(match O b with|some true=>true|_=>false)=b:=by cases b<;>rfl
theorem l6{e:Dt}{x y:V}(a:AW K H d x)(b:AW K H e y)(fd:Aj d=true)(fe:Aj e=true):D7 x y=(match Fl d e with|some true=>true|_=>false):=by
 cases d<;>first|(cases fd;done)|skip
 all_goals (cases e<;>first|(cases fe;done)|skip)
 all_goals simp only[AW]at a b
 all_goals first
  |(subst a;subst b;exact(Ov _).symm)
  |(obtain⟨rfl,_⟩:=a;subst b;exact(Ov _).symm)
  |(subst a;obtain⟨rfl,_⟩:=b;exact(Ov _).symm)
  |(obtain⟨rfl,_⟩:=a;obtain⟨rfl,_⟩:=b;exact(Ov _).symm)
theorem W2{K:B4}{H:Hp}{d:Dt}{x:V}(a:AW K H d x)(fd:Aj d=true):∀{ds:Y Dt} {vs:Y V},aO K H ds vs->ds.all Aj=true->FY x vs=ds.any λy=>match Fl y d with|some true=>true|_=>false
 |[],_,h,_=>by simp only[aO]at h;subst h;rfl
 |e::ds,_,h,f=>by
  simp only[aO]at h;obtain⟨v,r,rfl,h1,h2⟩:=h;rw[kR,ZT]at f;have:=W2 a fd h2 f.2;unfold FY at this ⊢;rw[ky,ky,l6 h1 a f.1 fd,this]
theorem Ak(h:bC K H b v)(e:wR b=O ds):∃a vs,v=.ref a/\(uN K H a vs\/Cy K H a vs)/\aO K H ds vs:=by
 cases b with
 |z d=>
  cases d<;>first|(cases e;done)|skip
  ·cases e;obtain⟨a,vs,e,q,r⟩:=EN h;exact⟨a,vs,e,.inr q,r⟩
  ·cases e;obtain⟨a,vs,e,q,r⟩:=h.Hv rfl;exact⟨a,vs,e,.inl q,r⟩
 |l c=>
  cases e;obtain⟨a,vs,e,q,r⟩:=h.Hv rfl;exact⟨a,vs,e,.inl q,r⟩
 |o c=>
  cases e;obtain⟨a,vs,e,q,r⟩:=h.Hv rfl;exact⟨a,vs,e,.inl q,r⟩
 |n _=>cases e
 |m _ _=>cases e
theorem YG{a:Bx}{x y:V}{k:Bool}(g:bC X.K H a x)(h:bC X.K H b y)(e:GO a b=O k):
  (∃i j,x=.str i/\y=.str j/\k=Na i j)\/(∃p xs,y=.ref p/\(uN X.K H p xs\/Cy X.K H p xs)/\vR x=true/\xs.all vR=true/\k=FY x xs):=by
 unfold GO at e;split at e
 ·rename_i i j;cases e;exact .inl ⟨i,j,(YF g).1,(YF h).1,rfl⟩
 ·rename_i d _;obtain⟨ys,m,e⟩:=AT e;unfold CY at e;split at e
  ·rename_i c;cases e;obtain⟨p,vs,rfl,sq,f⟩:=Ak h m;have l:AW X.K H d x:=g;exact .inr ⟨p,vs,rfl,sq,Rx l c.1,Mx f c.2,(W2 l c.1 f c.2).symm⟩
  ·cases e
 ·cases e
theorem Ry:Gs X (AG .In) DS:=by
 intro AN s σ H x y v u Q I f d h;obtain⟨a,b,c,g,l,e,q⟩:=h;obtain⟨k,ek,e⟩:=AT e;cases e;rcases YG g l ek with⟨i,j,rfl,rfl,rfl⟩|⟨p,xs,rfl,sq,f1,f2,rfl⟩
 ·exact Yo AN s σ H _ _ v u Q I f d ⟨i,j,rfl,rfl,q _ H (AV.refl H) trivial FK⟩
 ·exact Yr AN s σ H _ _ v u Q I f d ⟨p,xs,rfl,sq,f1,f2,q _ H (AV.refl H) trivial FK⟩
def Ia:Bx->Bool
 |.z .non=>true
 |_=>false
theorem Mz(h:bC K H b v):decide (v=.non)=Ia b:=by
 cases b with
 |z d=>
  cases d<;>simp only[bC,AW]at h
  ·subst h;rfl
  ·subst h;rfl
  ·subst h;rfl
  ·obtain⟨rfl,_⟩:=h;rfl
  ·obtain⟨_,_,rfl,_⟩:=h;rfl
  ·obtain⟨_,_,rfl,_⟩:=h;rfl
  ·obtain⟨_,_,rfl,_⟩:=h;rfl
 |l ds=>obtain⟨_,_,rfl,_⟩:=h;rfl
 |o ds=>obtain⟨_,_,rfl,_⟩:=h;rfl
 |n ds=>obtain⟨_,_,rfl,_⟩:=h;rfl
 |m ds _=>obtain⟨_,_,rfl,_⟩:=h;rfl
def DC(a:Bx):Bx->S Bx
 |.z .non=>O (.z (.bl (Ia a)))
 |_=>Y3
def Ib(a:Bx):Bx->S Bx
 |.z .non=>O (.z (.bl (!Ia a)))
 |_=>Y3
theorem DF:Gs X (AG .Is) DC:=yM.imp RU λx y H Q q=>by
 obtain⟨a,b,c,f,d,e,q⟩:=q;unfold DC at e;split at e
 ·cases e;simp only[bC,AW]at d;exact⟨d,by rw[Mz f];exact q _ H (AV.refl H) trivial FK⟩
 ·cases e
theorem Ox:Gs X (AG .IsNot) Ib:=yM.imp RC λx y H Q q=>by
 obtain⟨a,b,c,f,d,e,q⟩:=q;unfold Ib at e;split at e
 ·cases e;simp only[bC,AW]at d;exact⟨d,by rw[Mz f];exact q _ H (AV.refl H) trivial FK⟩
 ·cases e
def eF:Bx->Bx->S Bx
 |.z (.str x),.z (.int i)=>(Kl x.cps.toList i).bind λc=>O (.z (.str ⟨#[c]⟩))
 |b,.z (.int i)=>(wR b).bind λds=>(Kl ds i).bind λd=>O (.z d)
 |_,_=>Y3
theorem X0{i:Int}(r:aO K H ds vs)(e:Kl ds i=O d):∃v,Kl vs i=O v/\AW K H d v:=by
 unfold Kl at e ⊢;rw[r.length];obtain⟨j,a,e⟩:=AT e;rw[a];exact r.get e
theorem aW{a b:Expr}(j:QV X a fa)(hb:QV X b fb)(hs:Wz b:=by intro _ _;with_unfolding_all rfl):QV X (.Subscript a b pos) (b2 eF fa fb):=⟨have j:=j.run;have hb:=hb.run;Mp (fE XT j hb hs) λσ H Q h=>by
 obtain⟨H0,ρ,c,E,e,q⟩:=h;obtain⟨a,ea,e⟩:=AT e;obtain⟨b,eb,e⟩:=AT e;refine⟨H0,ρ,a,E,ea,λv H1 g C B=>⟨H0,ρ,b,E.grow g,eb,λu H2 f D o=>?_⟩⟩;have l:=B.same f;unfold eF at e;split at e
 ·rename_i x i;obtain⟨z,A,e⟩:=AT e;cases e;exact .inr (.inr ⟨_,_,z,(YF l).1,Mu o,(YF l).2,A,q _ _ (g.trans f) trivial (GL (by show(1:Nat)<=AA;decide))⟩)
 ·obtain⟨ds,s,e⟩:=AT e;obtain⟨d,y,e⟩:=AT e;cases e;obtain⟨p,vs,rfl,sq,t⟩:=Ak l s;obtain⟨w,n,m⟩:=X0 t y;have hi:=Mu o;rcases sq with sq|sq
  ·exact .inl ⟨p,vs,_,w,rfl,hi,sq,n,q _ _ (g.trans f) trivial m⟩
  ·exact .inr (.inl ⟨p,vs,_,w,rfl,hi,sq,n,q _ _ (g.trans f) trivial m⟩)
 ·cases e⟩
theorem f':AH "int"=O (.type "int"):=by decide +kernel
theorem iH:AH "tuple"=O (.type "tuple"):=by decide +kernel
theorem bp:AH "list"=O (.type "list"):=by decide +kernel
theorem tO:AH "len"=O (.builtin "len"):=by decide +kernel
theorem i7:AH "abs"=O (.builtin "abs"):=by decide +kernel
theorem XU:AH "any"=O (.builtin "any"):=by decide +kernel
theorem Vf:AH "min"=O (.builtin "min"):=by decide +kernel
theorem Dc:AH "max"=O (.builtin "max"):=by decide +kernel
theorem uz:AH "sorted"=O (.builtin "sorted"):=by decide +kernel
theorem VE:AH "sum"=O (.builtin "sum"):=by decide +kernel
def dr(K:B4)(f:Ev->S (S Int)):TO:=λσ H Q=>∃H0 ρ o,bR K H0 H σ ρ/\f ρ=O o/\∀H',AV H H'->Q o H'
def b6(X:Cx)(e:S Expr)(f:Ev->S (S Int)):Prop:=PO X e (dr X.K f)
structure Fn (X:Cx) (e:Option Expr) (f:Ev->Option (Option Int)):Prop where
 run:b6 X e f
theorem Lv{e:S Expr}{t t':TO}(h:PO X e t)(m:∀ σ H Q,t' σ H Q->t σ H Q):PO X e t':=λAN s σ H Q I q=>h AN s σ H Q I (m σ H Q q)
def rG:Ev->S (S Int):=λ_=>O Y3
theorem mL  :Fn X Y3 rG:=⟨Lv iP λσ H Q h=>by
 obtain⟨H0,ρ,o,E,e,q⟩:=h;cases e;exact q H (AV.refl H)⟩
def IR:Bx->S (S Int)
 |.z (.int i)=>O (O i)
 |_=>Y3
def vV(f:Ev->S Bx):Ev->S (S Int):=λρ=>(f ρ).bind IR
theorem mO(h:QV X e f):Fn X (O e) (vV f):=⟨have h:=h.run;Lv (b8 h) λσ H Q q=>by
 obtain⟨H0,ρ,o,E,e,q⟩:=q;obtain⟨b,eb,e⟩:=AT e;refine⟨H0,ρ,b,E,eb,λv H1 a d c=>?_⟩;unfold IR at e;split at e
 ·rename_i i;cases e;exact⟨i,Mu c,q H1 a⟩
 ·cases e⟩
def C2(xs:Y Dt)(lo hi:S Int):Y Dt:=(xs.drop (HT.jL xs.length 0 lo)).take (HT.jL xs.length xs.length hi-HT.jL xs.length 0 lo)
theorem Rz(r:aO K H ds vs)(lo hi:S Int):aO K H (C2 ds lo hi) (Q7 vs lo hi):=by
 unfold C2 Q7;rw[r.length];exact(r.drop _).take _
theorem SV(ds:Y Dt)(h1:HT.jL ds.length 0 lo=0)(h2:HT.jL ds.length ds.length hi=ds.length):C2 ds lo hi=ds:=by
 unfold C2;rw[h1,h2];simp
theorem Al{t sl:A1}{b c:A0}{Q:B8}(a:IsTup s.heap t items)(hs:s.heap.IsSliceOf sl b c .none)(pl:IsPart b lo)(d:IsPart c hi)(h1:HT.jL items.size 0 lo=0)(h2:HT.jL items.size items.size hi=items.size)(h:Q (.ref t) s):A7 (A8 prog w) A (getItem (.ref t) (.ref sl)) Q E s:=by
 obtain⟨os,g,e,j⟩:=id hs;have i:s.TypeIs (.ref sl) "slice":=⟨os,g,e⟩;unfold getItem
 try with_reducible refine QQ ?_
 first|refine zd (zg ?_)|skip
 refine zd (wpAny_sequenceKey a.typeIs (by decide) ?_);refine zd (Ya (name:=Str.ofString "__getitem__") a.typeIs PyProof.Rows.slot_tuple_getitem
  (ke PyProof.Rows.slot_tuple_getitem a.typeIs entry_tuple_getitem ?_ (args_tuple_getitem _ _)))
 show A7 _ _ (Builtin.Tuple.tupleItemsOf (.ref t) >>= _) _ _ s;refine zd (tupleItemsOf_ a ?_);refine zd (Q3 i ?_);rw[zr (by decide)];refine zd (HT.uw hs pl d ?_);have f:(((HT.jL items.size 0 lo:Nat):Int)==0&&(1:Int)==1&&(HT.jL items.size items.size hi-HT.jL items.size 0 lo)==items.size)=true:=by
  rw[h1,h2];simp
 show A7 _ _ (if(((HT.jL items.size 0 lo:Nat):Int)==0&&(1:Int)==1&&(HT.jL items.size items.size hi-HT.jL items.size 0 lo)==items.size)=true then _ else _) _ _ s;rw[zr f]
 first
  |refine zd (zd (Q3 a.typeIs (zg ?_)))
  |refine zd (Q3 a.typeIs (zd (zg ?_)))
  |refine zd (Q3 a.typeIs ?_)
 rw[zr (by decide)]
 first
  |exact zd (Kk (zg ⟨_,rfl,zg h⟩))
  |exact zd (Kk (zd (zg (zg ⟨_,rfl,zg h⟩))))
def EI(b:Bx)(lo hi:S Int):S Bx:=match b with
 |.z (.str x)=>O (.z (.str (Txt.slice x lo hi)))
 |.z (.tup ds)=>O (.z (.tup (C2 ds lo hi)))
 |b=>(rz b).bind λds=>O (.o (C2 ds lo hi))
def bm(K:B4):V->S Int->S Int->Hp->VK->Prop:=λx lo hi H Q=>∃b c,bC K H b x/\EI b lo hi=O c/\∀w H',AV H H'->Nw H c w->bC K H' c w->Q w H'
theorem T2:FX X (bm X.K):=by
 intro AN s σ H x v E G lo hi sl Q I n hs pl d h;obtain⟨b,c,w,e,q⟩:=h;unfold EI at e;split at e
 ·rename_i y;cases e;obtain⟨rfl,f⟩:=YF w;obtain⟨t,rfl⟩:=n;refine⟨"str", _,F.slot_str_getitem.lookup,typeIs_str _ _ _,?_⟩;obtain⟨o,e1,e2,e3⟩:=hs;have z:∀D k,EP X AN σ Q (.str (Txt.slice y lo hi) D) { s with toks:=k }:=λD k=>⟨.str _,H,I.tok _,⟨_,rfl⟩,q _ H (AV.refl H) trivial (GL (ZI (Txt.slice_le y _ _) f))⟩;cases pl with
  |none=>
   cases d with
   |none=>exact Kx (l:=Y3) (u:=Y3) (st:=Y3) ⟨o,e1,e2,e3⟩ Y2 (post_val_or_str ⟨ZI (Txt.slice_le y _ _) f,z⟩)
   |int j A=>exact Kx (l:=Y3) (u:=O (j,A)) (st:=Y3) ⟨o,e1,e2,e3⟩ Y2 (post_val_or_str ⟨ZI (Txt.slice_le y _ _) f,z⟩)
  |int i B=>
   cases d with
   |none=>exact Kx (l:=O (i,B)) (u:=Y3) (st:=Y3) ⟨o,e1,e2,e3⟩ Y2 (post_val_or_str ⟨ZI (Txt.slice_le y _ _) f,z⟩)
   |int j A=>exact Kx (l:=O (i,B)) (u:=O (j,A)) (st:=Y3) ⟨o,e1,e2,e3⟩ Y2 (post_val_or_str ⟨ZI (Txt.slice_le y _ _) f,z⟩)
 ·rename_i ds;cases e;obtain⟨a,vs,rfl,sq,g⟩:=EN w;by_cases m:HT.jL vs.length 0 lo=0/\HT.jL vs.length vs.length hi=vs.length
  ·cases n;obtain⟨AQ,r,J,M⟩:=I.tuple sq;have C:AQ.toArray.size=vs.length:=by rw[zS];exact r.length.symm
   refine⟨"tuple", _,PyProof.Rows.slot_tuple_getitem.lookup,J.typeIs,Al J hs pl d (by rw[C];exact m.1) (by rw[C];exact m.2) ⟨.ref a,H,I,rfl,q _ H (AV.refl H) trivial ?_⟩⟩;rw[SV ds (by rw[<-g.length];exact m.1) (by rw[<-g.length];exact m.2)];exact w
  ·refine US AN s σ H _ v E G lo hi sl Q I n hs pl d ⟨a,vs,rfl,sq,m,λp hp=>q _ _ (cg hp) trivial ?_⟩;unfold bC AW;exact⟨p,_,rfl,.inl (.inl bH),(Rz g lo hi).kp (.of (cg hp))⟩
 ·obtain⟨ds,L,e⟩:=AT e;cases e;obtain⟨a,vs,rfl,sq,g⟩:=w.Hv L;exact O' AN s σ H _ v E G lo hi sl Q I n hs pl d ⟨a,vs,rfl,sq,λp hp=>q _ _ (cg hp) (λa ea=>by cases ea;exact hp) ⟨p,_,rfl,bH,(Rz g lo hi).kp (.of (cg hp))⟩⟩
def Ut(f:Ev->S Bx)(fl fh:Ev->S (S Int)):Ev->S Bx:=λρ=>(f ρ).bind λb=>(fl ρ).bind λlo=>(fh ρ).bind λhi=>EI b lo hi
theorem Am{lo hi:S Expr}{fl fh:Ev->S (S Int)}(he:QV X e f)(a:Fn X lo fl)(d:Fn X hi fh):QV X (.Subscript e (.Slice lo hi Y3 p2) pos) (Ut f fl fh):=⟨have he:=he.run;have a:=a.run;have d:=d.run;Mp (Sr T2 he a d) λσ H Q h=>by
 obtain⟨H0,ρ,c,E,e,q⟩:=h;obtain⟨b,eb,e⟩:=AT e;obtain⟨lo,el,e⟩:=AT e;obtain⟨hi,m,e⟩:=AT e;refine⟨H0,ρ,b,E,eb,λv H1 i u p=>⟨H0,ρ,lo,E.grow i,el,λH2 g=>⟨H0,ρ,hi,E.grow (i.trans g),m,λx j=>?_⟩⟩⟩;have l:=(i.trans g).trans j;exact⟨b,c,(p.same g).same j,e,λw n t s o=>q w n (l.trans t) (s.old l) o⟩⟩
def uT:Y Bx->S Bx
 |[.z (.str x)]=>O (.z (.int x.length))
 |[b]=>(wR b).bind λds=>O (.z (.int ds.length))
 |_=>Y3
theorem BH(r:ux K H [b] vs):∃v,vs=[v]/\bC K H b v:=by
 cases r with
 |cons p t=>cases t;exact⟨_,rfl,p⟩
theorem EK{c:Bx}(r:ux K H [b,c] vs):∃v u,vs=[v,u]/\bC K H b v/\bC K H c u:=by
 cases r with
 |cons p t=>
  cases t with
  |cons p' a=>cases a;exact⟨_,_,rfl,p,p'⟩
theorem tW:rA X (.builtin "len") uT:=jK.imp (Oi.or Oj) λxs H Q q=>by
 obtain⟨bs,c,b,e,q⟩:=q;unfold uT at e;split at e
 ·rename_i x;cases e;obtain⟨v,rfl,a⟩:=BH b;obtain⟨rfl,hx⟩:=YF a;exact .inr ⟨x,rfl,hx,q _ H (AV.refl H) trivial Fo⟩
 ·obtain⟨ds,d,e⟩:=AT e;cases e;obtain⟨v,rfl,a⟩:=BH b;obtain⟨p,vs,rfl,sq,f⟩:=Ak a d;exact .inl ⟨p,vs,rfl,sq,by rw[f.length];exact q _ H (AV.refl H) trivial Fo⟩
 ·cases e
def EV:Y Bx->S Bx
 |[.z (.int i)]=>O (.z (.int (if i<0 then -i else i)))
 |_=>Y3
theorem WI:rA X (.builtin "abs") EV:=jK.imp ac λxs H Q q=>by
 obtain⟨bs,c,a,e,q⟩:=q;unfold EV at e;split at e
 ·rename_i i;cases e;obtain⟨v,rfl,b⟩:=BH a;have:=Mu b;subst this;exact⟨i,rfl,q _ H (AV.refl H) trivial Fo⟩
 ·cases e
def Eg:Y Bx->S Bx
 |[.z (.int i)]=>O (.z (.int i))
 |[.z (.bl k)]=>O (.z (.int (if k then 1 else 0)))
 |_=>Y3
theorem RE:rA X (.type "int") Eg:=jK.imp Yp λxs H Q q=>by
 obtain⟨bs,c,b,e,q⟩:=q;unfold Eg at e;split at e
 ·rename_i i;cases e;obtain⟨v,rfl,a⟩:=BH b;have:=Mu a;subst this;exact .inl ⟨i,rfl,q _ H (AV.refl H) trivial Fo⟩
 ·rename_i k;cases e;obtain⟨v,rfl,a⟩:=BH b;simp only[bC,AW]at a;subst a;exact .inr ⟨k,rfl,q _ H (AV.refl H) trivial Fo⟩
 ·cases e
def iI:Y Bx->S Bx
 |[b]=>(wR b).bind λds=>O (.z (.tup ds))
 |_=>Y3
theorem iJ:rA X (.type "tuple") iI:=jK.imp Ko λxs H Q q=>by
 obtain⟨bs,c,f,e,q⟩:=q;unfold iI at e;split at e
 ·obtain⟨ds,d,e⟩:=AT e;cases e;obtain⟨v,rfl,g⟩:=BH f;obtain⟨p,vs,rfl,sq,b⟩:=Ak g d;refine⟨p,vs,rfl,?_⟩;rcases sq with sq|sq
  ·refine .inl ⟨sq,λl a=>q _ _ (cg a) trivial ?_⟩;unfold bC AW;exact⟨l,vs,rfl,.inl (.inl bH),b.kp (.of (cg a))⟩
  ·refine .inr ⟨sq,q _ H (AV.refl H) trivial ?_⟩;unfold bC AW;exact⟨p,vs,rfl,sq,b⟩
 ·cases e
def MF:Y Dt->S (Y Bool)
 |[]=>O []
 |.bl b::ds=>(MF ds).bind λbs=>O (b::bs)
 |_=>Y3
theorem Ie{K:B4}{H:Hp}:∀{ds:Y Dt} {bs:Y Bool} {vs:Y V} {us:Y A0},MF ds=O bs->aO K H ds vs->AX vs us->us=bs.map Value.bool
 |[],_,_,_,e,r,w=>by
  cases e;simp only[aO]at r;subst r;cases w;rfl
 |d::ds,_,_,_,e,r,w=>by
  simp only[aO]at r;obtain⟨v,a,rfl,h1,h2⟩:=r;cases d<;>first|(cases e;done)|skip;simp only[MF]at e;obtain⟨bs,e1,e⟩:=AT e;cases e;simp only[AW]at h1;subst h1;cases w with
  |cons p t=>
   cases p;rw[Ie e1 h2 t];rfl
theorem CF(bs:Y Bool):((List.range bs.length).any λi=>bs.getD i false)=bs.any id:=by
 rw[Q2,Q4,Q4];constructor
 ·rintro⟨i,hi,h⟩;have hi:i<bs.length:=by simpa using hi
  exact⟨bs[i],y9 hi,by simpa[List.getD,hi]using h⟩
 ·rintro⟨b,hb,h⟩;obtain⟨i,hi,rfl⟩:=List.mem_iff_getElem.mp hb;exact⟨i,by simpa using hi,by simpa[List.getD,hi]using h⟩
def CS:Y Bx->S Bx
 |[b]=>(rz b).bind λds=>(MF ds).bind λbs=>O (.z (.bl (bs.any id)))
 |_=>Y3
theorem RB(bs:Y Bool):TruthOf prog w A (λi v=>(bs.map Value.bool).toArray[i]?=O v) λi=>bs.getD i false:=λi v s Q E h q=>by
 have h':(bs.map Value.bool)[i]?=O v:=by simpa using h
 rw[ZE]at h';cases e:bs[i]? with
 |none=>rw[e]at h';cases h'
 |some b=>
  rw[e]at h';cases h';have:bs.getD i false=b:=by simp[List.getD,e]
  have a:Q b s:=by rw[<-this];exact q
  exact JO a
theorem YO(g:X.calm=true):rA X (.builtin "any") CS:=by
 intro AN s σ H xs us Q I r h;obtain⟨bs,c,z,e,q⟩:=h;unfold CS at e;split at e
 ·obtain⟨ds,f,e⟩:=AT e;obtain⟨ks,ek,e⟩:=AT e;cases e;obtain⟨v,rfl,p⟩:=BH z;obtain⟨a,vs,rfl,sq,m⟩:=p.Hv f;obtain⟨u,rfl,l⟩:=BB r;cases l;obtain⟨AQ,w,pl,D⟩:=I.list sq;have d:=Ie ek m w;have t:a<s.heap.objs.size:=by obtain⟨o,n,e,_⟩:=pl;exact zD e
  refine call_any_walk (yv pl.isList ?_);refine⟨s.heap.objs.size,_,_,_,_,_,λi=>ks.getD i false,rfl,Walks.list (by show X.A.handled=Y3;exact I.ok.hd g) s.heap.objs.size a (z4 t) AQ.toArray,⟨⟨_,zC _ rfl,rfl,rfl⟩,pl.isList.push _⟩,?_,λh' tk k=>?_⟩
  ·rw[d];exact RB ks
  ·have x:AQ.toArray.size=ks.length:=by rw[d];simp
   rw[x,CF];have y:L2.AU X AN σ H { s with heap:=s.heap.push { cls:=.type "list_iterator",data:=.fields #[.ref a,.int 0 0] } }:=I.kept (t':=s.toks) λb o e=>ze _ e;refine⟨.bl _,H,?_,rfl,q _ H (AV.refl H) trivial FK⟩;obtain⟨f0,f1,f2,B,j,C⟩:=I.QZ (b:=s.heap.objs.size) (H':=H) (zk _) (I.hok.fresh (zk _));exact y.turned (it:=s.heap.objs.size) (λb o hb e=>k b o (by simpa using hb) e) f0 f1 B j C
 ·cases e
end P1
namespace P1
open L2
def gv(i:Nat):Ev->S Bx:=λρ=>zq ρ i
def rZ(g:Bx->Bx->S Bx)(fa fb:Ev->S Bx):Ev->S Bool:=λρ=>(b2 g fa fb ρ).bind Om
def tV(f:Ev->S Bx):Ev->S Bool:=λρ=>(f ρ).bind U4
def aH:Ev->S (Y Bx):=λ_=>O []
def fu:Ev->S Ap:=λρ=>O (.nx ρ)
def gM(f:Ev->S Bx):Ev->S Ap:=λρ=>(f ρ).bind EO
def As(i:Nat)(f:Ev->S Bx):Ev->S Ap:=λρ=>(f ρ).bind λb=>(Yy ρ i b).bind λa=>O (.nx a)
def Oz(gt:Dt->Ev->S Ev)(f:Ev->S Bx):Ev->S Ap:=λρ=>(f ρ).bind λb=>match b with|.z d=>(gt d ρ).bind λa=>O (.nx a)|_=>Y3
def Fm(i j:Nat)(fs:Ev->S (Y Bx)):Ev->S Ap:=λρ=>(fs ρ).bind (GT i j ρ)
def Dd(i:Nat)(f:Ev->S Bx):Ev->S Ap:=λρ=>(f ρ).bind (G0 ρ i)
def yI(fi:Ev->S (Y Dt))(gt:Dt->Ev->S Ev)(gb:Ev->S Ap):Ev->S Ap:=λρ=>(fi ρ).bind λds=>rW gt gb ds ρ
def DJ(f:Ev->S Bx):Ev->S (Y Dt):=λρ=>(f ρ).bind FG
def Kv(f:Ev->S Bx):Ev->S (Y Dt):=λρ=>(f ρ).bind FU
def W3(fs:Ev->S (Y Bx)):Ev->S (Y Dt):=λρ=>(fs ρ).bind HE
def jh(i:Nat):Dt->Ev->S Ev:=λd ρ=>O (ρ.set i (O (.z d)))
def tX:Ev->S Bool:=λ_=>O true
theorem dR:wK X [] tX:=⟨.inl ⟨rfl,rfl⟩⟩
theorem ji(h:QB X c p):wK X [c] p:=⟨have h:=h.run;.inr ⟨c,rfl,h⟩⟩
theorem bz:Kr X scope cl [] []:=trivial
theorem fq{xs:AZ}(n:X.N[i]?=O x)(k:X.env.kindOf x=O .cell\/X.env.kindOf x=O .free)(a:(relabel scope X.env).names.lookup x=O .cell\/(relabel scope X.env).names.lookup x=O .free)(c:∃c,cl.lookup x=O c)(r:Kr X scope cl xs is):Kr X scope cl (x::xs) (i::is):=⟨⟨n,k,a,c⟩,r⟩
theorem mem_of_lookup{a:Y (AJ×NameKind)}{x:AJ}{k:NameKind}:a.lookup x=O k->(x,k)∈a:=kA
theorem cK{xs:AZ}(clos:closureFor scope X.env=pure cl)(kind:scope.kind=.function)(cell:scope.names.all (λy=>decide (y.2≠.cell)||(cl.lookup y.1).isNone)=true)(names:scope.names.all (λy=>decide (y.2=.local->scope.names.lookup y.1=O .local))=true)(sub:C6 X.env.cells cl)(has:(relabel scope X.env).names.all (λy=>!(y.2==.cell||y.2==.free)||(cl.lookup y.1).isSome||scope.names.contains (y.1,.cell))=true)(cap:Kr X scope cl xs is):tL X scope cl xs is where
 clos:=clos
 kind:=kind
 cell:=λy a b=>by
  have:=List.all_eq_true.mp cell y a;simp only[b,ne_eq,not_true_eq_false,k8,Bool.false_or,Option.isNone_iff_eq_none]at this;exact this
 names:=λy a=>qi (List.all_eq_true.mp names y a)
 sub:=sub
 has:=λx hx=>by
  have h:∃k,(relabel scope X.env).names.lookup x=O k/\(k==NameKind.cell||k==NameKind.free)=true:=by
   rcases hx with hx|hx
   ·exact⟨_,hx,rfl⟩
   ·exact⟨_,hx,rfl⟩
  obtain⟨k,e,c⟩:=h;have:=List.all_eq_true.mp has _ (mem_of_lookup e);simp only[c,kU,Bool.false_or,K2]at this;rcases this with h|h
  ·exact .inr (Option.isSome_iff_exists.mp h)
  ·exact .inl (List.contains_iff_mem.mp h)
 cap:=cap
theorem OD{k:Nat}(r:pB k A):A.units+100<cLine:=by have:=r.un;omega
theorem ar{F:Y Bx->S Bx}(h:∀b:Y Int,b.length<=63->F [.z (.lst (b.map .int))]=O (.z (.bl true)))(i:∀b:Y Int,b.length<=63->F [.l (b.map .int)]=O (.z (.bl true)))(K:B4)(H:Hp)(a:A1)(b:Y Int)(f:b.length<=63)(_:CI H)(c:uN K H a (b.map V.int)):
  Cf K 1 F [.ref a] H (λv _=>v=.bl true) λ_ _ _=>False:=by
 have e:∀d:Y Int,aO K H (d.map Dt.int) (d.map V.int):=λd=>by
  induction d with
  |nil=>exact aO.nil
  |cons m d j=>exact aO.cons (by unfold AW;rfl) j
 have g:∀v (H':Hp),AV H H'->Nw H (.z (.bl true)) v->bC K H' (.z (.bl true)) v->v=.bl true:=λv H' _ _ r=>by simpa only[bC,AW]using r
 rcases c with c|c
 ·exact⟨rfl,[.l (b.map .int)],_,.cons ⟨a,_,rfl,c,e b⟩ .nil,rfl,i b f,g⟩
 ·refine⟨rfl,[.z (.lst (b.map .int))],_,.cons ?_ .nil,rfl,h b f,g⟩;unfold bC AW;exact⟨a,_,rfl,.inr c,e b⟩
theorem O3{st:AB}{f:A1}{k m:Nat}(F:Cb K x qual st f fd)(S:bI N ps (aQ st))(b:N.length=n)(d:ps.length=m)(c:∀(a:A0) (A:A5) (outer:Y Env) (s:A2) (H:Hp) (E:XK),pB k (A.deeper (AK qual (aQ st) s.heap.objs.size f a))->Uw (Hl Kq P w K mg base N qual (aQ st) f a A outer s H E).nox (j4 st) g):
  uP P w K mg base Kq (k+1) f fd ps (Cf K m (dJ n g)):=by
 subst b d;exact XL F S c
section
variable{st:Expr}{fs:Ev->S Bx}
theorem OJ{α β:Type}{f:α->S β}{g:α->β}:∀l:Y α,(∀a∈l,f a=O (g a))->l.filterMap f=l.map g
 |[],_=>rfl
 |a::l,h=>by
  rw[Ki,h a (zh ..),zo,OJ l λb hb=>h b (zi _ hb)]
theorem aO.rev{K:B4}{H:Hp}:∀{ds:Y Dt} {vs:Y V},aO K H ds vs->aO K H ds.reverse vs.reverse
 |[],_,h=>by simp only[aO]at h;subst h;exact aO.nil
 |d::ds,_,h=>by
  simp only[aO]at h;obtain⟨v,r,rfl,hd,a⟩:=h;rw[k4,k4];exact aO.append (aO.rev a) (aO.cons hd aO.nil)
theorem Sm{st:Y AB}:Uw X st (λ_=>Y3):=λD AN s σ H I q=>by
 obtain⟨H0,ρ,r,E,e,q⟩:=q;cases e
end
def EG:Bx->Bx->S Bx
 |.z (.int i),.z (.int j)=>O (.z (.bl (decide (i<j))))
 |.z (.str x),.z (.str y)=>O (.z (.bl (decide (x.cps.toList<y.cps.toList))))
 |_,_=>Y3
theorem NM:Gs X (AG .Lt) EG:=by
 intro AN s σ H x y v u Q I d l h;obtain⟨a,b,c,f,g,e,q⟩:=h;unfold EG at e;split at e
 ·rename_i i j;cases e;exact SK AN s σ H x y v u Q I d l ⟨i,j,Mu f,Mu g,q _ H (AV.refl H) trivial (by unfold bC;exact EQ)⟩
 ·rename_i i j;cases e;obtain⟨rfl,_⟩:=YF f;obtain⟨rfl,_⟩:=YF g;obtain⟨t,rfl⟩:=d;obtain⟨m,rfl⟩:=l;exact PySem.P.lt_str ⟨.bl _,H,I,rfl,q _ H (AV.refl H) trivial (by unfold bC;exact EQ)⟩
 ·cases e
def Ea:Y Dt->S AZ
 |[]=>O []
 |.str x::r=>(Ea r).bind λys=>O (x::ys)
 |_=>Y3
theorem yh{K:B4}{H:Hp}:∀{ds:Y Dt} {vs:Y V} {ys:AZ},aO K H ds vs->Ea ds=O ys->vs=ys.map V.str/\∀y∈ys,y.length<=AA
 |[],_,_,h,e=>by cases e;simp only[aO]at h;subst h;exact⟨rfl,λy a=>by cases a⟩
 |.str x::ds,_,_,h,e=>by
  simp only[Ea]at e;obtain⟨ys,e1,e2⟩:=AT e;cases e2;simp only[aO]at h;obtain⟨v,r,rfl,hd,b⟩:=h;obtain⟨rfl,hx⟩:v=.str x/\x.length<=AA:=by simpa only[AW]using hd
  obtain⟨rfl,h2⟩:=yh b e1;refine⟨rfl,λy a=>?_⟩;rcases List.mem_cons.mp a with rfl|a
  ·exact hx
  ·exact h2 y a
 |.non::_,_,_,_,e=>by cases e
 |.bl _::_,_,_,_,e=>by cases e
 |.int _::_,_,_,_,e=>by cases e
 |.tup _::_,_,_,_,e=>by cases e
 |.lst _::_,_,_,_,e=>by cases e
 |.emp::_,_,_,_,e=>by cases e
theorem Ao{K:B4}{H:Hp}:∀{ys:AZ},(∀y∈ys,y.length<=AA)->aO K H (ys.map Dt.str) (ys.map V.str)
 |[],_=>aO.nil
 |y::ys,h=>aO.cons (by unfold AW;exact⟨rfl,h y (zh ..)⟩) (Ao λz a=>h z (zi _ a))
theorem uU:∀{ys:AZ} {AQ:Y A0},AX (ys.map V.str) AQ->StrsAre AQ ys
 |[],_,h=>by cases h;exact .nil
 |y::ys,_,h=>by
  cases h with
  |cons r t=>
   obtain⟨tk,rfl⟩:=r;exact .cons y tk (uU t)
theorem yj:∀{AQ:Y A0} {ys:AZ},StrsAre AQ ys->AX (ys.map V.str) AQ
 |_,_,.nil=>.nil
 |_,_,.cons y t h=>.cons ⟨t,rfl⟩ (yj h)
theorem O1:jK X (.builtin "sorted") (λxs H Q=>∃p ys,xs=[.ref p]/\uN X.K H p (ys.map V.str)/\ys.length<64/\∀l zs,H l=Y3->zs.Perm ys->sortedS zs=true->Q (.ref l) (B6 H l (.lst (zs.map V.str)))):=by
 intro AN s σ H xs us Q I r h;obtain⟨p,ys,rfl,m,v,q⟩:=h;obtain⟨u,rfl,i⟩:=BB r;cases i;obtain⟨AQ,f,pl,d⟩:=I.list m;have g:=f.length;rw[zt]at g d;refine sorted_strs pl.isList (uU f) (by omega) λc zs hs hp t=>?_;obtain⟨n,j⟩:=sortedAll_at s.heap AQ c;refine⟨.ref (s.heap.objs.size+1),_,I.laid (t':=s.toks) (a:=s.heap.objs.size+1) (o:=.lst (zs.map V.str)) (λb o e=>sortedAll_old e) (k5 _) ?_,rfl,q _ zs (I.hok.fresh (k5 _)) hp t⟩;refine⟨by rw[zt,hp.length_eq];exact d,c.toList,n,yj hs,?_⟩;rw[j]
def qy(a b:AJ):Prop:=ltCps b.cps.toList a.cps.toList=false
theorem Aq:∀(p:AJ) (l:AZ),risingS p l=true->(p::l).Pairwise qy
 |p,[],_=>by simp
 |p,x::r,h=>by
  have h':(!ltCps x.cps.toList p.cps.toList&&risingS x r)=true:=h;rw[ZT]at h';have c:=Aq x r h'.2;have hx:qy p x:=by simpa[qy]using h'.1
  refine List.pairwise_cons.mpr ⟨λy b=>?_,c⟩;rcases List.mem_cons.mp b with rfl|b
  ·exact hx
  ·have a:qy x y:=kg c b;unfold qy at hx a ⊢;rw[ltCps_eq]at hx a ⊢;simp only[j0]at hx a ⊢;exact List.le_trans (α:=Nat) hx a
theorem O2{l:AZ}(h:sortedS l=true):l.Pairwise qy:=by
 cases l with
 |nil=>exact .nil
 |cons p l=>exact Aq p l h
theorem Ig{a b:AJ}(h:qy a b)(h':qy b a):a=b:=by
 unfold qy at h h';rw[ltCps_eq]at h h';simp only[j0]at h h';have:=List.le_antisymm (as:=a.cps.toList) (bs:=b.cps.toList) h h';cases a;cases b;simp only[Str.mk.injEq];exact Array.toList_inj.mp this
theorem O4:∀{l l':AZ},l.Perm l'->l.Pairwise qy->l'.Pairwise qy->l=l'
 |[],l',h,_,_=>by rw[List.nil_perm.mp h]
 |a::l,[],h,_,_=>by cases List.perm_nil.mp h
 |a::l,b::l',h,p,p'=>by
  have e:a=b:=by
   have c:a∈b::l':=h.mem_iff.mp (zh ..);have hb:b∈a::l:=h.mem_iff.mpr (zh ..);rcases List.mem_cons.mp c with h1|h1
   ·exact h1
   ·rcases List.mem_cons.mp hb with h2|h2
    ·exact h2.symm
    ·exact Ig (kg p h2) (kg p' h1)
  subst e;rw[O4 ((List.perm_cons a).mp h) (List.pairwise_cons.mp p).2 (List.pairwise_cons.mp p').2]
def YH(a b:AJ):Bool:=!ltCps b.cps.toList a.cps.toList
def pG(ys:AZ):AZ:=ys.mergeSort YH
theorem jk(ys:AZ):(pG ys).Perm ys:=ya ys YH
theorem zA(ys:AZ):(pG ys).Pairwise qy:=by
 have h:=KA (le:=YH) (λa b c h1 h2=>by
  unfold YH at *
  rw[ltCps_eq]at *
  simp only[js,j0]at *
  exact List.le_trans (α:=Nat) h1 h2) (λa b=>by
  unfold YH;rw[ltCps_eq,ltCps_eq];simp only[K2,js,j0];exact List.le_total a.cps.toList b.cps.toList) ys
 exact h.imp λ{a b} hh=>by simpa[YH,qy]using hh
theorem RD{zs:AZ}(hp:zs.Perm ys)(hs:sortedS zs=true):zs=pG ys:=O4 (hp.trans (jk ys).symm) (O2 hs) (zA ys)
def MJ:Y Bx->S Bx
 |[b]=>(rz b).bind λds=>(Ea ds).bind λys=>if ys.length<64 then O (.o ((pG ys).map Dt.str))else Y3
 |_=>Y3
theorem YJ:rA X (.builtin "sorted") MJ:=jK.imp O1 λxs H Q q=>by
 obtain⟨bs,c,m,e,q⟩:=q;unfold MJ at e;split at e
 ·rename_i b;obtain⟨ds,f,e⟩:=AT e;obtain⟨ys,o,e⟩:=AT e;split at e
  ·rename_i j;cases e;obtain⟨v,rfl,n⟩:=BH m;obtain⟨p,vs,rfl,sq,i⟩:=n.Hv f;obtain⟨rfl,g⟩:=yh i o;refine⟨p,ys,rfl,sq,j,λl zs d hp hs=>?_⟩;rw[RD hp hs];refine q _ _ (cg d) (λa ea=>by cases ea;exact d) ⟨l,_,rfl,bH,Ao λy h=>g y ((jk ys).mem_iff.mp h)⟩
  ·cases e
 ·cases e
def RG(x:AJ)(b:Bx):S Bx:=(rz b).bind λds=>(Ea ds).bind λys=>if(ys.map (·.length)).sum+ys.length*x.length<=100000 then O (.z (.str (Txt.join x ys)))else Y3
theorem TZ:NF X "str.join" (λx xs H Q=>∃y p ys,x=.str y/\xs=[.ref p]/\uN X.K H p (ys.map V.str)/\(ys.map (·.length)).sum+ys.length*y.length<=100000/\Q (.str (Txt.join y ys)) H):=by
 intro AN s σ H x xs v us Q I c b h;obtain⟨y,p,ys,rfl,rfl,sq,hb,q⟩:=h;obtain⟨t,rfl⟩:=c;obtain⟨u,rfl,a⟩:=BB b;cases a;obtain⟨AQ,d,pl,f⟩:=I.list sq;exact join_list pl.isList (uU d) (by omega) λe k=>⟨.str _,H,I.tok _,⟨_,rfl⟩,q⟩
theorem UQ{p1:Pos}(h:QV X e f)(hx:x.length<=AA:=by decide)(g:attributeBase (.Constant (.str x) j p1) "join" X.env (eval (.Constant (.str x) j p1) X.env)=eval (.Constant (.str x) j p1) X.env:=by rfl)(u:((AD cpos (A9 [e] X.env)).all (λx=>!x.1)&&(backToKw cpos (keywordEach [] X.env)).all (λx=>x.1.isSome)&&decide ([e].length+([]:Y AC).length+(if([]:Y AC).isEmpty then 0 else 1)<30))=true:=by rfl)(i:(apos.endLine==cpos.line)=true:=by rfl)(hs:A9 [e] X.env=(false,eval e X.env)::A9 [] X.env:=by rfl):QV X (.Call (.Attribute (.Constant (.str x) j p1) "join" apos) [e] [] cpos) (b1 (RG x) f):=⟨have h:=h.run;Mp (I0 (T :="str") F.plainAttrs_str F.slot_str_join F.type_str_join TZ (LP (hx:=hx)) (Ri h WQ hs) g u i hs Y2) λσ H Q q=>by
  obtain⟨H0,ρ,c,E,e,q⟩:=q;obtain⟨a,ea,e⟩:=AT e;refine⟨H0,ρ,_,E,rfl,λv H1 b z o=>?_⟩;obtain⟨rfl,B⟩:v=.str x/\x.length<=AA:=by simpa only[bC,AW]using o
  refine⟨rfl,H0,ρ,[a],E.grow b,by simp only[aq,ea,Option.bind_some],λvs H2 n t=>?_⟩;obtain⟨w,rfl,m⟩:=BH t;unfold RG at e;obtain⟨ds,d,e⟩:=AT e;obtain⟨ys,s,e⟩:=AT e;split at e
  ·rename_i hb;cases e;obtain⟨p,y,rfl,sq,l⟩:=m.Hv d;obtain⟨rfl,A⟩:=yh l s;refine⟨x,p,ys,rfl,rfl,sq,hb,q _ _ (b.trans n) trivial ?_⟩;unfold bC AW;exact⟨rfl,joinOk_length (joinOk_of (by omega))⟩
  ·cases e⟩
def Kw:Y Bx->S Bx
 |[.z (.int a),.z (.int b)]=>O (.z (.int (if b>a then b else a)))
 |_=>Y3
def YK:Y Bx->S Bx
 |[.z (.int a),.z (.int b)]=>O (.z (.int (if b<a then b else a)))
 |_=>Y3
theorem HM{a:Bx}(h:ux K H [a,b] vs):∃v w,vs=[v,w]/\bC K H a v/\bC K H b w:=by
 cases h with
 |cons p t=>
  cases t with
  |cons p' c=>cases c;exact⟨_,_,rfl,p,p'⟩
theorem Dg(d:X.calm=true):rA X (.builtin "max") Kw:=by
 intro AN s σ H xs us Q I r h;obtain⟨bs,c,i,e,q⟩:=h;unfold Kw at e;split at e
 ·rename_i a b;cases e;obtain⟨v,w,rfl,g,n⟩:=HM i;have j:=Mu g;have m:=Mu n;subst j m;obtain⟨u,p,rfl,f,l⟩:=AX.two r;obtain⟨t,rfl⟩:=f;obtain⟨o,rfl⟩:=l;refine max_two_ints (I.ok.hd d) λh' tk kp=>?_;by_cases hb:b>a
  ·rw[zr hb]at q ⊢;exact⟨.int b,H,I.kept kp,⟨_,rfl⟩,q _ H (AV.refl H) trivial Fo⟩
  ·rw[zI hb]at q ⊢;exact⟨.int a,H,I.kept kp,⟨_,rfl⟩,q _ H (AV.refl H) trivial Fo⟩
 ·cases e
theorem OF(d:X.calm=true):rA X (.builtin "min") YK:=by
 intro AN s σ H xs us Q I r h;obtain⟨bs,c,i,e,q⟩:=h;unfold YK at e;split at e
 ·rename_i a b;cases e;obtain⟨v,w,rfl,g,n⟩:=HM i;have j:=Mu g;have m:=Mu n;subst j m;obtain⟨u,p,rfl,f,l⟩:=AX.two r;obtain⟨t,rfl⟩:=f;obtain⟨o,rfl⟩:=l;refine min_two_ints (I.ok.hd d) λh' tk kp=>?_;by_cases hb:b<a
  ·rw[zr hb]at q ⊢;exact⟨.int b,H,I.kept kp,⟨_,rfl⟩,q _ H (AV.refl H) trivial Fo⟩
  ·rw[zI hb]at q ⊢;exact⟨.int a,H,I.kept kp,⟨_,rfl⟩,q _ H (AV.refl H) trivial Fo⟩
 ·cases e
def Ih(AO:Y (AY×Dt))(x:AY):S Dt:=(AO.find? λa=>decide (a.1=x)).map (·.2)
def O5(AO:Y (AY×Dt))(x:AY)(d:Dt):Y (AY×Dt):=
 if(AO.any λa=>decide (a.1=x))=true then AO.map (λa=>if a.1=x then(a.1,d)else a)else AO++[(x,d)]
theorem gk.nil:gk K H [] []:=⟨rfl,aO.nil,λp hp=>by cases hp⟩
theorem gk.inv{p:AY×Dt}{ks:Y (AY×V)}(h:gk K H (p::AO) ks):∃v r,ks=(p.1,v)::r/\AW K H p.2 v/\DA p.1/\gk K H AO r:=by
 obtain⟨h1,h2,a⟩:=h;cases ks with
 |nil=>simp at h1
 |cons q r=>
  simp only[zo,km]at h1;obtain⟨e,h1⟩:=h1;simp only[zo,aO]at h2;obtain⟨v,d,e2,c,b⟩:=h2;simp only[km]at e2;obtain⟨rfl,rfl⟩:=e2;exact⟨q.2,r,by rw[<-e],c,a p (zh ..),h1,b,λx hx=>a x (zi _ hx)⟩
theorem gk.cons{p:AY×Dt}{AO:Y (AY×Dt)}{v:V}{r:Y (AY×V)}(a:AW K H p.2 v)(hp:DA p.1)(h:gk K H AO r):gk K H (p::AO) ((p.1,v)::r):=
 ⟨by simp[h.1],aO.cons a h.2.1,λx hx=>by
  rcases List.mem_cons.mp hx with rfl|hx
  ·exact hp
  ·exact h.2.2 x hx⟩
theorem gk.append{AO:Y (AY×Dt)}{ks:Y (AY×V)}{x:AY}{d:Dt}{v:V}(h:gk K H AO ks)(a:AW K H d v)(hx:DA x):gk K H (AO++[(x,d)]) (ks++[(x,v)]):=
 ⟨by simp[h.1],by rw[qc,qc];exact aO.append h.2.1 (aO.cons a aO.nil),λp hp=>by
  rcases List.mem_append.mp hp with hp|hp
  ·exact h.2.2 p hp
  ·cases List.mem_singleton.mp hp;exact hx⟩
theorem gk.len{ks:Y (AY×V)}(h:gk K H AO ks):ks.length=AO.length:=by
 have:=congrArg List.length h.1;simpa using this
theorem gk.look:∀{AO:Y (AY×Dt)} {ks:Y (AY×V)} {x:AY} {d:Dt},gk K H AO ks->Ih AO x=O d->∃v,CK ks x=O v/\AW K H d v
 |[],_,_,_,_,e=>by cases e
 |p::AO,_,x,d,h,e=>by
  obtain⟨v,r,rfl,b,c,a⟩:=h.inv;unfold Ih at e;by_cases hp:p.1=x
  ·rw[List.find?_cons_of_pos (by simpa using hp)]at e;cases e;exact⟨v,z8 (by rw[hp]),b⟩
  ·rw[List.find?_cons_of_neg (by simpa using hp)]at e;obtain⟨w,e1,e2⟩:=gk.look a e;exact⟨w,(z9 (by simpa using hp)).trans e1,e2⟩
theorem gk.any:∀{AO:Y (AY×Dt)} {ks:Y (AY×V)} {x:AY},gk K H AO ks->(ks.any λa=>decide (a.1=x))=AO.any λa=>decide (a.1=x)
 |[],ks,_,h=>by
  have:=h.len;cases ks with
  |nil=>rfl
  |cons _ _=>simp at this
 |p::AO,_,x,h=>by
  obtain⟨v,r,rfl,d,c,b⟩:=h.inv;rw[ky,ky,gk.any b]
theorem gk.aaV:∀{AO:Y (AY×Dt)} {ks:Y (AY×V)} {x:AY} {d:Dt} {v:V},gk K H AO ks->AW K H d v->gk K H (AO.map λa=>if a.1=x then(a.1,d)else a) (ks.map λa=>if a.1=x then(a.1,v)else a)
 |[],ks,_,_,_,h,_=>by
  have:=h.len;cases ks with
  |nil=>exact gk.nil
  |cons _ _=>simp at this
 |p::AO,_,x,d,v,h,hd=>by
  obtain⟨w,r,rfl,f,b,e⟩:=h.inv;rw[zo,zo];have c:=gk.aaV (x:=x) e hd;by_cases hp:p.1=x
  ·rw[zr hp,zr (by simp[hp])];exact gk.cons (p:=(p.1,d)) hd b c
  ·rw[zI hp,zI (by simpa using hp)];exact gk.cons f b c
theorem gk.put{ks:Y (AY×V)}{x:AY}(h:gk K H AO ks)(a:AW K H d v)(hx:DA x):gk K H (O5 AO x d) (BD ks x v):=by
 unfold O5 BD;rw[h.any];split
 ·exact h.aaV a
 ·exact h.append a hx
section
variable{ek o:Expr}{pos':Pos}
def Cc:Bx->S AY
 |.z (.str x)=>O (.inr x)
 |.z (.int i)=>O (.inl i)
 |_=>Y3
theorem O6{k:AY}(e:Cc b=O k)(r:bC K H b v):v=kV k/\DA k:=by
 unfold Cc at e;split at e
 ·cases e;simp only[bC,AW]at r;exact r
 ·cases e;simp only[bC,AW]at r;exact⟨r,trivial⟩
 ·cases e
def lY:Bx->Bx->S Bx
 |.n AO,b=>(Cc b).bind λk=>(Ih AO k).bind λd=>O (.z d)
 |_,_=>Y3
theorem Vg{a c:Bx}(h:lY a b=O c):∃AO k d,a=.n AO/\Cc b=O k/\Ih AO k=O d/\c=.z d:=by
 unfold lY at h;split at h
 ·obtain⟨k,ek,h⟩:=AT h;obtain⟨d,e,h⟩:=AT h;cases h;exact⟨_,k,d,rfl,ek,e,rfl⟩
 ·cases h
theorem jl(C:X.A.units+100<cLine)(g:QV X o fo)(f:QV X ek fk)(hs:Ha ek:=by intro _ _;rfl):QV X (.Subscript o ek pos) (b2 lY fo fk):=⟨have g:=g.run;have f:=f.run;Mp (c5 (by omega) g f hs) λσ H Q h=>by
 obtain⟨H0,ρ,c,E,e,q⟩:=h;obtain⟨a,ea,e⟩:=AT e;obtain⟨b,eb,e⟩:=AT e;refine⟨H0,ρ,a,E,ea,λv H1 j z t=>⟨H0,ρ,b,E.grow j,eb,λw H2 i B y=>?_⟩⟩;obtain⟨AO,x,d,rfl,s,l,rfl⟩:=Vg e;obtain⟨p,ks,rfl,u,rm⟩:=t.same i;obtain⟨n,ev,m⟩:=rm.look l;obtain⟨rfl,_⟩:=O6 s y;exact⟨p,n,rfl,.inl ⟨ks,x,u,rfl,ev.symm⟩,q _ _ (j.trans i) trivial m⟩⟩
def RJ(ρ:Ev)(i:Nat):Bx->Bx->S Ap
 |.z d,b=>(Cc b).bind λx=>match ρ[i]? with
  |some (O (.m AO w))=>if AO.length<1000 then O (.nx (ρ.set i (O (.m (O5 AO x d) w))))else Y3
  |_=>Y3
 |_,_=>Y3
def W4(i:Nat)(f fk:Ev->S Bx):Ev->S Ap:=λρ=>(f ρ).bind λb=>(fk ρ).bind λk=>RJ ρ i b k
theorem Vh{k:Bx}{r:Ap}(h:RJ ρ i b k=O r):∃d y AO w,b=.z d/\Cc k=O y/\ρ[i]?=O (O (.m AO w))/\AO.length<1000/\r=.nx (ρ.set i (O (.m (O5 AO y d) w))):=by
 unfold RJ at h;split at h
 ·obtain⟨y,e,h⟩:=AT h;split at h
  ·rename_i a;split at h
   ·rename_i c;cases h;exact⟨_,y,_,_,rfl,e,a,c,rfl⟩
   ·cases h
  ·cases h
 ·cases h
theorem W5(i:Nat){p:Pos}(Q:X.A.units+100<cLine)(he:QV X e f)(g:QV X ek fk)(F:X.N[i]?=O x:=by rfl)(K:ZK X.env.scope x:=by first|exact ku rfl|exact j3 (ku Y2)|exact j3 (j3 Y2))(hd:(x==("__debug__":AJ))=false:=by decide)(z:(x==("__classdict__":AJ))=false:=by decide)(hs:swapsWith e (O (.Subscript (.Name x p) ek pos')) pos.line X.env=pure false:=by rfl):Rj X (.Assign [.Subscript (.Name x p) ek pos'] e pos) (λρ=>(f ρ).bind λb=>(fk ρ).bind λk=>RJ ρ i b k):=⟨have he:=he.run;have g:=g.run;WL (eK (by omega) (wG (i:=i) F K hd z) g he hs) λD σ H h=>by
  obtain⟨H0,ρ,r,E,e,q⟩:=h;obtain⟨b,eb,e⟩:=AT e;obtain⟨k,ek,e⟩:=AT e;refine⟨H0,ρ,b,E,eb,λv H1 J M t=>?_⟩;obtain⟨d,y,AO,P,rfl,G,m,n,rfl⟩:=Vh e;have j:=E.grow J;obtain⟨w,e1,a,ks,rfl,s,rm,I⟩:=j.val i _ m;refine⟨_,e1,H0,ρ,_,j,ek,λu H2 c L o=>?_⟩;obtain⟨rfl,B⟩:=O6 G o;have C:=j.grow c;have l:=c _ _ s;have kp:Kp H2 (B6 H2 a (.dK (BD ks y v))):=.dk l;refine⟨a,_,rfl,EU.k (k:=y) l (by rw[rm.len];exact Nat.lt_trans n (by decide)),q _ _ ?_⟩;exact C.agU m Y2 e1 kp ⟨a,_,rfl,bH,((rm.kp (.of c)).put (x:=y) (bC.same c t) B).kp kp,I⟩⟩
end
section
variable{a b:Expr}{fs:Ev->S (Y Bx)}
theorem Vi{j}(hx:x.length<=AA:=by decide):QV X (.Constant (.str x) j pos) (cB (.str x)):=⟨P1.LP (hx:=hx)⟩
end
section
variable{a b:Expr}{fs:Ev->S (Y Bx)}
variable{AS:Y Expr}
theorem aj(h1:QV X e f)(h2:Yw X es fs)(hs:A9 (e::es) X.env=(false,eval e X.env)::A9 es X.env:=by rfl):Yw X (e::es) (aq f fs):=⟨P1.Ri (h1:=h1.run) (h2:=h2.run) (hs:=hs)⟩
theorem aA  :Yw X [] (λ_=>O []):=⟨P1.WQ ⟩
end
theorem L3{st:AB}{f:A1}{k m:Nat}(F:Cb K x qual st f fd)(S:bI N ps (aQ st))(c:N.length=n)(e:ps.length=m)(b:∀(a:A0) (A:A5) (outer:Y Env) (s:A2) (H:Hp) (E:XK),pB k (A.deeper (AK qual (aQ st) s.heap.objs.size f a))->U7 (Hl Kq P w K mg base N qual (aQ st) f a A outer s H E).nox (j4 st) g):
  uP P w K mg base Kq (k+1) f fd ps (Cf K m (dJ n g)):=O3 F S c e λa A outer s H E d=>(b a A outer s H E d).run
theorem Eb:∀(vs:Y A0) (ys:AZ),vs.length=ys.length->(∀(j:Nat) v,vs[j]?=O v->∃y t,ys[j]?=O y/\v=.str y t)->StrsAre vs ys
 |[],[],_,_=>.nil
 |v::vs,y::ys,hl,h=>by
  obtain⟨b,t,e,rfl⟩:=h 0 v rfl;cases e;exact .cons y t (Eb vs ys (by simpa using hl) λj v a=>h (j+1) v (by simpa using a))
theorem Vj{AO:Y (AY×A0)}(a:AO.map (·.1)=ys.map Sum.inr){c:Array A0}(h:ItemsOf (λi v=>∃k x,AO[i]?=O (k,x)/\(bF prog w).is k v=true) c AO.length):StrsAre c.toList ys:=by
 have d:AO.length=ys.length:=by have:=congrArg List.length a;simpa using this
 refine Eb _ _ (by rw[qA,h.1,d]) λj v g=>?_;obtain⟨k,x,e,hi⟩:=h.2 j v (by simpa using g);have e1:(AO.map (·.1))[j]?=O k:=by rw[ZE,e];rfl
 rw[a,ZE]at e1;cases b:ys[j]? with
 |none=>rw[b]at e1;cases e1
 |some y=>
  rw[b]at e1;cases e1;have f:mK (Sum.inr y) v=true:=hi;rcases bU f with⟨i,t,e2,e3⟩|⟨z,t,e2,e3⟩
  ·cases e2
  ·cases e2;exact⟨_,t,rfl,e3⟩
def YL:Y (AY×Dt)->S AZ
 |[]=>O []
 |(.inr x,_)::r=>(YL r).bind λys=>O (x::ys)
 |(.inl _,_)::_=>Y3
theorem yq:∀{AO:Y (AY×Dt)} {ys:AZ},YL AO=O ys->AO.map (·.1)=ys.map Sum.inr
 |[],_,e=>by cases e;rfl
 |(.inr x,_)::r,_,e=>by
  obtain⟨ys,e1,e⟩:=AT e;cases e;rw[zo,zo,yq e1]
 |(.inl _,_)::_,_,e=>by cases e
theorem UM(e:YL AO=O ys)(h:∀p∈AO,DA p.1)(y:AJ)(a:y∈ys):y.length<=AA:=by
 have:(Sum.inr y:AY)∈AO.map (·.1):=by rw[yq e];exact List.mem_map.mpr ⟨y,a,rfl⟩
 obtain⟨p,hp,ep⟩:=List.mem_map.mp this;have:=h p hp;rw[ep]at this;exact this
theorem W6:∀{ks:Y (AY×V)} {vs:Y (AY×A0)},KV ks vs->vs.map (·.1)=ks.map (·.1)
 |_,_,.nil=>rfl
 |_,_,.cons h t=>by rw[zo,zo,W6 t,h.1]
theorem bR.ajB(E:bR K H0 H σ ρ)(i:Nat):bR K H0 H σ (ρ.set i Y3):=by
 have back:∀(j:Nat) (b:Bx),(ρ.set i Y3)[j]?=O (O b)->ρ[j]?=O (O b):=λj b e=>by
  rw[yA]at e;split at e
  ·split at e<;>cases e
  ·exact e
 refine⟨by rw[kP];exact E.len,λj b e=>E.val j b (back j b e),λj k c a b e1 d e2 e3 g f=>E.own j k c a b (back _ _ e1) d e2 (back _ _ e3) g f,E.base,λj c a e1 d e2=>E.new j c a (back _ _ e1) d e2⟩
def kill(is:Y Nat)(ρ:Ev):Ev:=is.foldl (λρ i=>ρ.set i Y3) ρ
theorem bR.kill{K:B4}{H0 H:Hp}{σ:L2.St}:∀(is:Y Nat) {ρ:Ev},bR K H0 H σ ρ->bR K H0 H σ (P1.kill is ρ)
 |[],_,E=>E
 |i::is,_,E=>bR.kill is (E.ajB i)
def dG(is:Y Nat):Ev->S Ap:=λρ=>O (.nx (kill is ρ))
theorem bq{a:Y AB}(is:Y Nat)(h:Uw X a g):Uw X a (aF g (dG is)):=Go h λD σ H q=>by
 obtain⟨H0,ρ,r,E,e,q⟩:=q;obtain⟨c,e1,e⟩:=AT e;refine⟨H0,ρ,c,E,e1,?_⟩;cases c with
 |nx f=>cases e;exact λσ' H' d=>q σ' H' (d.kill is)
 |rt b=>cases e;exact q
 |bk b=>cases e;exact q
 |ct b=>cases e;exact q
theorem bx{a:Y AB}(is:Y Nat)(h:U7 X a g):U7 X a (aF g (dG is)):=⟨bq is h.run⟩
end P1
namespace S1
section
variable(rk:A0->Nat)
def at_(xs:Array Keyed)(i:Nat):Nat:=match xs[i]? with
 |some p=>rk p.1
 |none=>0
def Up(xs:Array Keyed)(k:Nat):Prop:=∀i j,i<=j->j<k->at_ rk xs i<=at_ rk xs j
def CB(xs:Array Keyed)(k:Nat):Prop:=∀i j,i<=j->j<k->at_ rk xs j<=at_ rk xs i
structure Bs (kd:SortKind) (b:Array Keyed) (st:SortSt):Prop where
 pm:(arrOf st).Perm b
 kd:kindOf st=kd
 fl:failedOf st=none
 pd:pendingOf st=#[]
variable{rk}{kd:SortKind}{b:Array Keyed}
theorem Bs.sz{st:SortSt}(h:Bs kd b st):(AM st).size=b.size:=h.pm.size_eq
theorem Bs.arr{st:SortSt}{xs:Array Keyed}(h:Bs kd b st)(hp:xs.Perm (AM st)):Bs kd b (PyProof.Rows.setArr st xs):=⟨hp.trans h.pm,h.kd,h.fl,h.pd⟩
theorem wU{xs ys:Array Keyed}(h:xs[i]?=ys[j]?):at_ rk xs i=at_ rk ys j:=by unfold at_;rw[h]
theorem Lc{xs:Array Keyed}{p d:Nat}(hs:p<xs.size)(hd:d<=p)(k:Nat):at_ rk (bubble xs p d) k=if k=p-d then at_ rk xs p else if p-d<k/\k<=p then at_ rk xs (k-1)else at_ rk xs k:=by
 have e:=getElem?_bubble hs d hd k;by_cases q:k=p-d
 ·simp only[zr q]at e ⊢;exact wU e
 ·simp only[zI q]at e ⊢;by_cases q2:p-d<k/\k<=p
  ·simp only[zr q2]at e ⊢;exact wU e
  ·simp only[zI q2]at e ⊢;exact wU e
theorem Vk{xs:Array Keyed}(a:j<=xs.size)(k:Nat):at_ rk (mirror xs i j ((j-i) / 2)) k=if i<=k/\k<j then at_ rk xs (i+j-1-k)else at_ rk xs k:=by
 have e:=getElem?_mirror_all (i:=i) a k;by_cases q:i<=k/\k<j
 ·simp only[zr q]at e ⊢;exact wU e
 ·simp only[zI q]at e ⊢;exact wU e
theorem Ar{xs:Array Keyed}(a:j<=xs.size)(he:∀k,i<=k->k<j->at_ rk xs k=at_ rk xs (j-1))(k:Nat):at_ rk (mirror xs i j ((j-i) / 2)) k=at_ rk xs k:=by
 rw[Vk a];by_cases q:i<=k/\k<j
 ·rw[zr q,he (i+j-1-k) (by omega) (by omega),he k q.1 q.2]
 ·rw[zI q]
end
section
variable{b:Array Keyed}{kd:SortKind}{rk:A0->Nat}
def ZQ(prog:A3)(w:A4)(A:A5)(s:A2)(kd:SortKind)(rk:A0->Nat)(b:Array Keyed):Prop:=
 ∀(E:B8) (p q:Keyed) (Q:Bool->A2->Prop),p∈b.toList->q∈b.toList->Q (decide (rk p.1<rk q.1)) s->A7 (A8 prog w) A (keyLt' kd p.1 q.1) Q E s
theorem RK{st:SortSt}{Q:S Bool->SortSt->Prop}(f:ZQ prog w A s kd rk b)(B:Bs kd b st)(hi:i<b.size)(e:j<b.size)(h:Q (O (decide (at_ rk (AM st) i<at_ rk (AM st) j))) st):wpS (A8 prog w) A E s (ltAt' i j) Q st:=by
 have get:∀k,k<b.size->∃p,(AM st)[k]?=O p/\p∈b.toList:=λk a=>by
  have g:k<(AM st).size:=by rw[B.sz];exact a
  exact⟨(AM st)[k],getElem?_pos _ k g,(Array.perm_iff_toList_perm.mp B.pm).mem_iff.mp (by simp)⟩
 obtain⟨p,e1,c⟩:=get i hi;obtain⟨q,e2,d⟩:=get j e;have h:Q (O (decide (rk p.1<rk q.1))) st:=by unfold at_ at h;rw[e1,e2]at h;exact h
 rw[ltAt'_eq];refine AL (wpS_get ?_);show wpS _ _ _ _ (elem' (AM st) i >>= λx=>elem' (AM st) j >>= λy=>lt' x y) Q st;rw[elem'_eq,elem'_eq,e1,e2];refine AL (wpS_pure ?_);refine AL (wpS_pure ?_);rw[lt'_eq];refine AL (wpS_get ?_);rw[B.kd];exact AL (wpS_lift (wpAny_attempt (f _ p q _ c d ⟨rfl,wpS_pure h⟩)))
theorem MD{st:SortSt}{a:Nat}{Q:AscSt->SortSt->Prop}(o:ZQ prog w A s kd rk b)(v:n<=b.size)(y:1<=a)(l:a<=n)(B:Bs kd b st)(hs:Up rk (AM st) a)(h:∀m,a<=m->m<=n->Up rk (AM st) m->(m=n\/at_ rk (AM st) m<at_ rk (AM st) (m-1))->Q (Y3,m) st):wpS (A8 prog w) A E s (ascLoop a n) Q st:=by
 unfold ascLoop;refine wpS_forRange (I:=λx c t=>t=st/\c=(Y3,x)/\Up rk (AM st) x) ?_ ?_ ⟨rfl,rfl,hs⟩
 ·rintro x c t g p ⟨rfl,rfl,d⟩;refine AL (RK o B (by omega) (by omega) ?_);by_cases q:at_ rk (AM t) x<at_ rk (AM t) (x-1)
  ·simp only[q,KW,QE];exact wpS_pure (h x g (by omega) d (.inr q))
  ·simp only[q,k8,zv,ZU];refine wpS_pure ⟨rfl,rfl,λi j f u=>?_⟩;by_cases hx:j<x
   ·exact d i j f hx
   ·have e:j=x:=by omega
    subst e;by_cases hi:i=j
    ·rw[hi];exact zk _
    ·have:=d i (j-1) (by omega) (by omega);omega
 ·rintro c t ⟨rfl,rfl,d⟩;rw[show max a n=n by omega]at d ⊢;exact h n l (zk _) d (.inl Y2)
theorem t3{st:SortSt}{m:Nat}{Q:S Nat->SortSt->Prop}(l:ZQ prog w A s kd rk b)(e:n<=b.size)(h1:1<=m)(g:m<=n)(B:Bs kd b st)(hs:CB rk (AM st) m)(h:∀k t,Bs kd b t->1<=k->k<=n->Up rk (AM t) k->Q (O k) t):wpS (A8 prog w) A E s (tail3 m n) Q st:=by
 unfold tail3;have c:m<=(AM st).size:=by rw[B.sz];omega
 refine AL (wpS_reverse ?_);have a:Bs kd b (PyProof.Rows.setArr st (mirror (AM st) 0 m ((m-0) / 2))):=B.arr (mirror_perm _ _ _ _);refine AL (MD l e h1 g a (λi j o q=>?_) λk p f d _=>wpS_pure (h k _ a (by omega) f d));show at_ rk (mirror (AM st) 0 m ((m-0) / 2)) i<=at_ rk (mirror (AM st) 0 m ((m-0) / 2)) j;rw[Vk c,Vk c,zr ⟨by omega,by omega⟩,zr ⟨by omega,by omega⟩];exact hs _ _ (by omega) (by omega)
theorem SE{st:SortSt}{m:Nat}{Q:DescSt->SortSt->Prop}(l:ZQ prog w A s kd rk b)(G:n<=b.size)(h1:1<=m)(y:m<=n)(B:Bs kd b st)(hs:CB rk (AM st) m)(h:∀k e t,Bs kd b t->m<=k->k<=n->CB rk (AM t) k->e+1<=k->(∀i,k-(e+1)<=i->i<k->at_ rk (AM t) i=at_ rk (AM t) (k-1))->Q (Y3,k,e) t):wpS (A8 prog w) A E s (descLoop m n) Q st:=by
 unfold descLoop;refine wpS_forRange (I:=λx c t=>∃e,c=(Y3,x,e)/\Bs kd b t/\CB rk (AM t) x/\e+1<=x/\∀i,x-(e+1)<=i->i<x->at_ rk (AM t) i=at_ rk (AM t) (x-1)) ?_ ?_ ⟨0,rfl,B,hs,by omega,λi q1 q2=>by rw[show i=m-1 by omega]⟩
 ·rintro x c t u D ⟨e,rfl,a,dn,f,d⟩;have p:x<=(AM t).size:=by rw[a.sz];omega
  have grow:∀xs:Array Keyed,(∀k,at_ rk xs k=at_ rk (AM t) k)->at_ rk (AM t) x<=at_ rk (AM t) (x-1)->CB rk xs (x+1):=λxs g z i j o F=>by
   rw[g,g];by_cases hx:j<x
   ·exact dn i j o hx
   ·have v:j=x:=by omega
    subst v;by_cases hi:i=j
    ·rw[hi];exact zk _
    ·have:=dn i (j-1) (by omega) (by omega);omega
  dsimp only;refine AL (RK l a (by omega) (by omega) ?_);by_cases q:at_ rk (AM t) x<at_ rk (AM t) (x-1)
  ·simp only[q,KW,QE];by_cases h0:e>0
   ·rw[zr h0];exact AL (wpS_reverse (wpS_pure ⟨0,rfl,a.arr (mirror_perm _ _ _ _),grow _ (Ar p d) (by omega),by omega,λi q1 q2=>by rw[show i=x by omega];rfl⟩))
   ·rw[zI h0];exact wpS_pure ⟨0,rfl,a,grow _ (λ_=>Y2) (by omega),by omega,λi q1 q2=>by rw[show i=x by omega];rfl⟩
  ·simp only[q,k8,zv,ZU];refine AL (RK l a (by omega) (by omega) ?_);by_cases q2:at_ rk (AM t) (x-1)<at_ rk (AM t) x
   ·simp only[q2,KW,QE];exact wpS_pure (h x e t a u (by omega) dn f d)
   ·simp only[q2,k8,zv,ZU];refine wpS_pure ⟨e+1,rfl,a,grow _ (λ_=>Y2) (by omega),by omega,λi C H=>?_⟩;rw[show x+1-1=x by omega];by_cases hi:i=x
    ·rw[hi]
    ·rw[d i (by omega) (by omega)];omega
 ·rintro c t ⟨e,rfl,a,dn,f,d⟩;rw[show max m n=n by omega]at dn f d ⊢;exact h n e t a y (zk _) dn f d
theorem LF{st:SortSt}{m:Nat}{Q:S Nat->SortSt->Prop}(d:ZQ prog w A s kd rk b)(c:n<=b.size)(q:m+1<=n)(B:Bs kd b st)(hs:CB rk (AM st) (m+1))(h:∀k t,Bs kd b t->1<=k->k<=n->Up rk (AM t) k->Q (O k) t):wpS (A8 prog w) A E s (descPart m n) Q st:=by
 unfold descPart;refine AL (wpS_lift (Kk ⟨rfl,?_⟩));refine AL (SE d c (by omega) q B hs λk e t a u g dn v l=>?_);have f:k<=(AM t).size:=by rw[a.sz];omega
 by_cases h0:e>0
 ·simp only[zr h0];refine AL (wpS_reverse (t3 d c (by omega) g (a.arr (mirror_perm _ _ _ _)) (λi j o p=>?_) h));show at_ rk (mirror (AM t) _ _ _) j<=at_ rk (mirror (AM t) _ _ _) i;rw[Ar f l,Ar f l];exact dn i j o p
 ·simp only[zI h0];exact t3 d c (by omega) g a dn h
theorem P5{st:SortSt}{Q:S Nat->SortSt->Prop}(c:ZQ prog w A s kd rk b)(d:n<=b.size)(h1:1<=n)(B:Bs kd b st)(h:∀k t,Bs kd b t->1<=k->k<=n->Up rk (AM t) k->Q (O k) t):wpS (A8 prog w) A E s (countRun' 0 n) Q st:=by
 rw[countRun0_eq];refine AL (MD c d (zk 1) h1 B (λi j f o=>by rw[show i=j by omega];exact zk _) λm g p a or=>?_);by_cases e:m=n
 ·simp only[zr (show(m==n)=true by simpa using e)];exact wpS_pure (h m st B g p a)
 ·simp only[zI (show ¬ (m==n)=true by simpa using e)];have lt:=or.resolve_left e;have l:m<=(AM st).size:=by rw[B.sz];omega
  by_cases g1:m>1
  ·rw[zr g1];refine AL (RK c B (by omega) (by omega) ?_);by_cases q:at_ rk (AM st) 0<at_ rk (AM st) (m-1)
   ·simp only[q,KW,QE];exact wpS_pure (h m st B g p a)
   ·simp only[q,k8,zv,ZU];have all:∀k,0<=k->k<m->at_ rk (AM st) k=at_ rk (AM st) (m-1):=λk _ u=>by
     have a1:=a 0 k (by omega) u;have a2:=a k (m-1) (by omega) (by omega);omega
    refine AL (wpS_reverse (LF c d (by omega) (B.arr (mirror_perm _ _ _ _)) (λi j f o=>?_) h));show at_ rk (mirror (AM st) _ _ _) j<=at_ rk (mirror (AM st) _ _ _) i;rw[Ar l all,Ar l all];by_cases v:j<m
    ·rw[all i (by omega) (by omega),all j (by omega) v];exact zk _
    ·have x:j=m:=by omega
     subst x;by_cases hi:i=j
     ·rw[hi];exact zk _
     ·rw[all i (by omega) (by omega)];omega
  ·rw[zI g1];have e1:m=1:=by omega
   subst e1;refine LF c d (by omega) B (λi j f o=>?_) h;by_cases hi:i=j
   ·rw[hi];exact zk _
   ·rw[show i=0 by omega,show j=1 by omega];exact jS lt
theorem Hk{st:SortSt}{g:Nat}{Q:Bool->SortSt->Prop}(C:ZQ prog w A s kd rk b)(K:n<=b.size)(H:g<=n)(B:Bs kd b st)(hs:Up rk (AM st) g)(h:∀t,Bs kd b t->Up rk (AM t) n->Q true t):wpS (A8 prog w) A E s (binarySort' 0 n g) Q st:=by
 rw[binarySort'_eq];simp only[ye];refine AL (wpS_mono (wpS_forRange (I:=λk c t=>c=(Y3,())/\Bs kd b t/\Up rk (AM t) (min k n)) (Q:=λc t=>c=(Y3,())/\Bs kd b t/\Up rk (AM t) n) ?_ ?_ ?_) ?_)
 ·rintro k c t J L ⟨rfl,f,d⟩;rw[show min k n=k by omega]at d;have u:k<b.size:=by omega
  refine AL (wpS_mono (wpS_forRange (I:=λx c a=>a=t/\∃l r,c=(Y3,l,r)/\l<=r/\r<=k/\r-l<=k-x/\(∀i,i<l->at_ rk (AM t) i<=at_ rk (AM t) k)/\(∀i,r<=i->i<k->at_ rk (AM t) k<at_ rk (AM t) i))
   (Q:=λc a=>a=t/\∃l r,c=(Y3,l,r)/\l<=k/\(∀i,i<l->at_ rk (AM t) i<=at_ rk (AM t) k)/\(∀i,l<=i->i<k->at_ rk (AM t) k<at_ rk (AM t) i)) ?_ ?_ ?_) ?_)
  ·rintro x c a _ hx ⟨rfl,l,r,rfl,D,m,G,lo,hi⟩;dsimp only;by_cases v:l>=r
   ·rw[zr v];have e:l=r:=by omega
    subst e;exact wpS_pure ⟨rfl,l,l,rfl,m,lo,hi⟩
   ·rw[zI v];refine AL (RK C f u (by omega) ?_);by_cases q:at_ rk (AM a) k<at_ rk (AM a) ((l+r) / 2)
    ·simp only[q,KW,QE];refine wpS_pure ⟨rfl,l,(l+r) / 2,rfl,by omega,by omega,by omega,lo,λi q1 q2=>?_⟩;have:=d ((l+r) / 2) i q1 q2;omega
    ·simp only[q,k8,zv,ZU];refine wpS_pure ⟨rfl,(l+r) / 2+1,r,rfl,by omega,by omega,by omega,λi q1=>?_,hi⟩;have:=d i ((l+r) / 2) (by omega) (by omega);omega
  ·rintro c a ⟨rfl,l,r,rfl,D,m,G,lo,hi⟩;have e:l=r:=by omega
   subst e;exact⟨rfl,l,l,rfl,m,lo,hi⟩
  ·exact⟨rfl,0,k,rfl,by omega,by omega,by omega,λi hi=>by omega,λi q1 q2=>by omega⟩
  ·rintro c a ⟨rfl,l,r,rfl,M,lo,hi⟩;show wpS _ _ _ _ (moveDown' k l >>= λ_=>pure (ForInStep.yield (Y3,()))) _ _;rw[moveDown'_eq];refine AL (wpS_modify (wpS_pure ⟨rfl,f.arr (bubble_perm _ _ _),?_⟩));rw[show min (k+1) n=k+1 by omega];have p:k<(AM a).size:=by rw[f.sz];exact u
   intro i j o F;show at_ rk (bubble (AM a) k (k-l)) i<=at_ rk (bubble (AM a) k (k-l)) j;rw[Lc p (by omega),Lc p (by omega),show k-(k-l)=l by omega]
   repeat' split
   all_goals first
    |(exfalso;omega)
    |exact zk _
    |exact lo _ (by omega)
    |exact jS (hi _ (by omega) (by omega))
    |exact d _ _ (by omega) (by omega)
 ·rintro c t ⟨y,f,d⟩;refine⟨y,f,?_⟩;rwa [show min (max (max g 1) n) n=n by omega]at d
 ·refine⟨rfl,B,λi j o F=>?_⟩;by_cases z:g=0
  ·rw[show i=j by omega];exact zk _
  ·exact hs i j o (by omega)
 ·rintro c t ⟨rfl,f,d⟩;exact wpS_pure (h t f d)
def Dn(kd:SortKind)(rk:A0->Nat)(b:Array Keyed)(st:SortSt):Prop:=(AM st).Perm b/\failedOf st=Y3/\pendingOf st=#[(0,b.size,0)]/\Up rk (AM st) b.size
theorem Bs.dn{st:SortSt}(B:Bs kd b st)(a:Up rk (AM st) b.size):Dn kd rk b (setPending st ((pendingOf st).push (0,b.size,0))):=⟨B.pm,B.fl,(by show(pendingOf st).push _=_;rw[B.pd];rfl),a⟩
theorem Ic{st:SortSt}{Q:Unit->SortSt->Prop}(g:ZQ prog w A s kd rk b)(B:Bs kd b st)(h2:2<=b.size)(o:b.size<64)
  (h:∀t,(AM t).Perm b->failedOf t=Y3->Up rk (AM t) b.size->Q () t):wpS (A8 prog w) A E s sortRuns' Q st:=by
 rw[sortRuns'_eq];refine AL (wpS_get ?_);have l:minRun' b.size b.size 0=b.size:=by
  obtain⟨f,v⟩:∃f,b.size=f+1:=⟨b.size-1,by omega⟩;have q:minRun' (f+1) b.size 0=b.size:=(minRun'_succ f b.size 0).trans (zr o);rwa [<-v]at q
 simp only[B.sz,l];have back:∀{t:SortSt},Bs kd b t->(pendingOf t).back?=Y3:=λB=>by rw[B.pd];rfl
 refine AL (wpS_mono (wpS_forRange (I:=λx c t=>(x=0/\c=(Y3,0)/\Bs kd b t)\/(1<=x/\c=(Y3,b.size)/\Dn kd rk b t)) (Q:=λc t=>c=(Y3,b.size)/\Dn kd rk b t) ?_ ?_ (.inl ⟨rfl,rfl,B⟩)) ?_)
 ·rintro x c t _ hx (⟨rfl,rfl,n⟩|⟨y,rfl,D⟩)
  ·dsimp only;rw[zI (by omega)];simp only[Nat.sub_zero,Nat.min_self,ye];refine AL (P5 g (zk _) (by omega) n λm t2 B2 z p d=>?_);dsimp only;by_cases lt:m<b.size
   ·rw[zr lt];refine AL (wpS_lift (Kk ⟨rfl,AL (Hk g (zk _) p B2 d λt3 a j=>?_)⟩));simp only[kU,zv,ZU];refine AL (wpS_get ?_);rw[back a];exact AL (wpS_modify (wpS_pure (.inr ⟨by omega,rfl,a.dn j⟩)))
   ·rw[zI lt];have e:m=b.size:=by omega
    subst e;refine AL (wpS_get ?_);rw[back B2];exact AL (wpS_modify (wpS_pure (.inr ⟨by omega,rfl,B2.dn d⟩)))
  ·dsimp only;rw[zr (zk _)];exact wpS_pure ⟨rfl,D⟩
 ·rintro c t (⟨hx,_,_⟩|⟨_,i,D⟩)
  ·omega
  ·exact⟨i,D⟩
 ·rintro c t ⟨rfl,D⟩;dsimp only;refine AL (wpS_mono (wpS_forRange (I:=λ_ c u=>u=t/\c=(Y3,())) (Q:=λc u=>u=t/\c=(Y3,())) ?_ (λ_ _ q=>q) ⟨rfl,rfl⟩) ?_)
  ·rintro x c u _ _ ⟨rfl,rfl⟩;refine AL (wpS_get ?_);rw[zr (by rw[D.2.2.1];exact zk 1)];exact wpS_pure ⟨rfl,rfl⟩
  ·rintro c u ⟨rfl,rfl⟩;exact wpS_pure (h _ D.1 D.2.1 D.2.2.2)
def F7(a:A1)(s s':A2):Prop:=∀c o,c≠a->s.heap.get? c=O o->s'.heap.get? c=O o
theorem NI{vs:Y A0}{P:Fin->A2->Prop}(f:s.heap.get? a=O (seqObj "list" vs.toArray n))(u:2<=vs.length->∀s',F7 a s s'->∀Q:SortKind->A2->Prop,Q kd s'->A7 (A8 prog w) A (keyKind' vs.toArray) Q E s')(x:∀s',F7 a s s'->ZQ prog w A s' kd rk (pairsOf vs))(m:vs.length<64)(h:∀st:SortSt,(AM st).Perm (pairsOf vs)->Up rk (AM st) (pairsOf vs).size->P (.done (.ret .none)) { s with heap:=sortedHeap s.heap a vs ((AM st).map (·.2)) }):
  A7 (A8 prog w) A (Builtin.«list.sort» ⟨[.ref a],[]⟩) P E s:=by
 rw[list_sort_plain];have z:=zD f;refine zd (listItems_at f Y2 (zd (listUpdate_at f Y2 ?_)));obtain⟨e1,g1⟩:∃e1,(s.heap.update a (Obj.mapSeq λ_=>#[])).get? a=O (seqObj "list" #[] e1):=⟨_,get?_update_seq f λ_=>#[]⟩;refine zd (seqEpoch_at g1 Y2 (zd (wpAny_newTuple (zd (yB (QQ ?_))))));have z1:(s.heap.update a (Obj.mapSeq λ_=>#[])).objs.size=s.heap.objs.size:=Heap.size_update ..;have keep:∀c,c<s.heap.objs.size->(((s.heap.update a (Obj.mapSeq λ_=>#[])).push (seqObj "tuple" vs.toArray 0)).push (seqObj "list" #[] 0)).get? c=(s.heap.update a (Obj.mapSeq λ_=>#[])).get? c:=λc b=>by
  rw[Heap.get?_push_ne _ _ _ (by rw[size_push',z1];exact z4 (qV b)),Heap.get?_push_ne _ _ _ (by rw[z1];exact z4 b)]
 have d:=(keep a z).trans g1;have old:F7 a s { s with heap:=((s.heap.update a (Obj.mapSeq λ_=>#[])).push (seqObj "tuple" vs.toArray 0)).push (seqObj "list" #[] 0) }:=λc o b e=>by
  show(((s.heap.update a (Obj.mapSeq λ_=>#[])).push (seqObj "tuple" vs.toArray 0)).push (seqObj "list" #[] 0)).get? c=O o;rw[keep c (zD e),kb _ _ _ _ b];exact e
 show A7 _ _ _ _ _ { s with heap:=((s.heap.update a (Obj.mapSeq λ_=>#[])).push (seqObj "tuple" vs.toArray 0)).push (seqObj "list" #[] 0) };have C:vs.toArray.size=vs.length:=by simp
 have g:∀st:SortSt,(AM st).Perm (pairsOf vs)->((AM st).map (·.2)).size<=AA+1:=λst hp=>by
  have q:((AM st).map (·.2)).size=vs.length:=(Array.size_map ..).trans (hp.size_eq.trans (pairsOf_size _));rw[q,sizeLine_eq];omega
 by_cases h2:vs.toArray.size<2
 ·simp only[zr h2];refine zd (zg ?_);rw[StateT.run_pure];refine zd (zg (zd (seqEpoch_at d Y2 (zd (listUpdate_at d Y2 ?_ (hsz2:=g (SortSt.mk' general' (pairsOf vs) #[] 7 Y3) (Array.Perm.refl _)))))));simp only[bne_self_eq_false,zv,ZU];refine zg (h (SortSt.mk' general' (pairsOf vs) #[] 7 Y3) (Array.Perm.refl _) λi j B v=>?_);rw[pairsOf_size]at v;rw[show i=j by omega];exact zk _
 ·simp only[zI h2];refine zd (u (by omega) _ old _ ?_);refine zd (QN (Ic (x _ old) (st:=SortSt.mk' kd (pairsOf vs) #[] 7 Y3) (Q:=λ_ t=>(AM t).Perm (pairsOf vs)/\failedOf t=Y3/\Up rk (AM t) (pairsOf vs).size) ⟨Array.Perm.refl _,rfl,rfl,rfl⟩ (by rw[pairsOf_size];omega) (by rw[pairsOf_size];exact m) λt q1 q2 l=>⟨q1,q2,l⟩) ?_ λ_ _ q=>q);rintro⟨⟨⟩,t⟩ s' ⟨rfl,hp,y,p⟩;dsimp only;refine zd (seqEpoch_at d Y2 (zd (listUpdate_at d Y2 ?_ (hsz2:=g t hp))));rw[y];simp only[bne_self_eq_false,zv,ZU];exact zg (h t hp p)
theorem YM{x:A0}{vs:Y A0}{Q:B8}(t:∀(b:B8) (f:Y A0->A2->Prop),(∀h' tk,s.heap.objs.size<=h'.objs.size->(∀c o,s.heap.get? c=O o->h'.get? c=O o)->f vs { s with heap:=h',toks:=tk })->A7 (A8 prog w) A.in1 (collect x) f b s)
  (p:2<=vs.length->∀(b:B8) (a:A5) (s':A2),(∀c o,s.heap.get? c=O o->s'.heap.get? c=O o)->∀Q:SortKind->A2->Prop,Q kd s'->A7 (A8 prog w) a (keyKind' vs.toArray) Q b s') (u:∀(a:A5) (s':A2),(∀c o,s.heap.get? c=O o->s'.heap.get? c=O o)->ZQ prog w a s' kd rk (pairsOf vs)) (j:vs.length<64)
  (h:∀(l:A1) (h':A6) (tk n:Nat) (st:SortSt),(AM st).Perm (pairsOf vs)->Up rk (AM st) (pairsOf vs).size->s.heap.objs.size<=l->(∀c o,s.heap.get? c=O o->h'.get? c=O o)->h'.get? l=O (seqObj "list" ((AM st).map (·.2)) n)->Q (.ref l) { s with heap:=h',toks:=tk }):
  A7 (A8 prog w) A (call (.builtin "sorted") [x]) Q E s:=by
 refine yo kind_sorted plain_sorted entry_sorted (args_sorted1 _) ?_;unfold Builtin.«sorted»;refine zd (m:=checkCount "sorted" 1 1 _) (zg (zd (t _ _ λh1 tk g ext=>zd (yB ?_))));have d:(h1.push (seqObj "list" vs.toArray 0)).get? h1.objs.size=O (seqObj "list" vs.toArray 0):=zC _ rfl;have old:∀s':A2,F7 h1.objs.size { s with heap:=h1.push (seqObj "list" vs.toArray 0),toks:=tk } s'->∀c o,s.heap.get? c=O o->s'.heap.get? c=O o:=λs' q c o e=>
  q c o (z4 (zD (ext c o e))) (ze _ (ext c o e))
 refine zd (QQ (ke slot_list_sort ⟨_,d,rfl⟩ entry_list_sort (NI d (λq s' o=>p q _ _ s' (old s' o)) (λs' o=>u _ s' (old s' o)) j λst q1 q2=>⟨_,rfl,zg ⟨_,rfl,?_⟩⟩) (args_list_sort _)));obtain⟨n,i⟩:=sortedHeap_at (out:=(AM st).map (·.2)) d;refine h h1.objs.size _ tk n st q1 q2 g (λc o e=>?_) i;have hb:=zD (ext c o e);rw[sortedHeap_old (z4 hb) (by rw[qk];exact qV hb)];exact ze _ (ext c o e)
end
end S1
namespace S1
open L2
theorem YQ(fb:Bool)(x y:A0):keyLt' (tuples' fb) x y=(do
  let xs <-Builtin.List.listItems x
  let ys <-Builtin.List.listItems y
  for ((p,q),i) in (xs.toList.zip ys.toList).zipIdx do
   if !(<-eqBool p q)then return <-oneLt' (fb&&i==0) p q
  return decide (xs.size<ys.size)):=rfl
def W7:AY->AY->Bool
 |.inl a,.inl b=>decide (a<b)
 |.inr x,.inr y=>decide (x.cps.toList<y.cps.toList)
 |.inl _,.inr _=>true
 |.inr _,.inl _=>false
def W8:AY->AY->Bool
 |.inl _,.inl _=>true
 |.inr _,.inr _=>true
 |_,_=>false
def pZ:Y AY->Y AY->Bool
 |[],[]=>false
 |[],_::_=>true
 |_::_,[]=>false
 |x::xs,y::ys=>if x=y then pZ xs ys else W7 x y
def Ct:Y AY->Y AY->Prop
 |x::xs,y::ys=>W8 x y=true/\Ct xs ys
 |_,_=>True
theorem EC{x y:AY}{p q:A0}{Q:Bool->A2->Prop}(hp:mK x p=true)(c:mK y q=true)(h:Q (decide (x=y)) s):A7 (A8 prog w) A (eqBool p q) Q E s:=
 (bF prog w).eqBool (a:=x) (b:=y) hp c h
theorem RF{fb:Bool}{x y:AY}{p q:A0}{Q:Bool->A2->Prop}(hs:W8 x y=true)(hp:mK x p=true)(a:mK y q=true)(h:Q (W7 x y) s):A7 (A8 prog w) A (oneLt' fb p q) Q E s:=by
 rcases bU hp with⟨i,t,rfl,rfl⟩|⟨z,t,rfl,rfl⟩
 ·rcases bU a with⟨j,u,rfl,rfl⟩|⟨z,u,rfl,rfl⟩
  ·cases fb with
   |true=>exact oneLt_int h
   |false=>
    rw[oneLt'_eq];simp only[zv,ZU];refine zd (show A7 _ _ (AG .Lt (.int i t) (.int j u)) _ _ _ from lt_int ?_);exact JO h
  ·cases hs
 ·rcases bU a with⟨j,u,rfl,rfl⟩|⟨b,u,rfl,rfl⟩
  ·cases hs
  ·cases fb with
   |true=>exact oneLt_str h
   |false=>
    rw[oneLt'_eq];simp only[zv,ZU];refine zd (show A7 _ _ (AG .Lt (.str z t) (.str b u)) _ _ _ from PySem.P.lt_str ?_);exact JO h
def Ks(ks:Y AY)(AQ:Y A0):Prop:=AI (λk v=>mK k v=true) ks AQ
def De:Y AY->Y AY->S Bool
 |x::xs,y::ys=>if x=y then De xs ys else O (W7 x y)
 |_,_=>Y3
theorem MM:∀ks a:Y AY,pZ ks a=match De ks a with|some r=>r|none=>decide (ks.length<a.length)
 |[],[]=>rfl
 |[],_::_=>by simp[pZ,De]
 |_::_,[]=>rfl
 |x::xs,y::ys=>by
  simp only[pZ,De];by_cases e:x=y
  ·rw[zr e,zr e,MM xs ys];simp only[Z3,Nat.add_lt_add_iff_right]
  ·rw[zI e,zI e]
def turn(fb:Bool):(A0×A0)×Nat->S Bool×Unit->Sem (ForInStep (S Bool×Unit)):=λx _=>match x with
 |((p,q),i)=>do
  let e <-eqBool p q
  if(!e)=true then do
    let r <-oneLt' (fb&&i==0) p q
    pure (ForInStep.done (O r,()))
   else pure (ForInStep.yield (Y3,()))
theorem F1(fb:Bool):∀(ks b:Y AY) (AQ a:Y A0) (i:Nat) (R:S Bool×Unit->A2->Prop),Ks ks AQ->Ks b a->Ct ks b->R (De ks b,()) s->A7 (A8 prog w) A (forIn ((AQ.zip a).zipIdx i) ((Y3,()):S Bool×Unit) (turn fb)) R E s
 |[],_,_,_,_,R,.nil,_,_,h=>zg h
 |_::_,[],_::_,_,_,R,_,.nil,_,h=>zg h
 |x::xs,y::ys,p::AQ,q::a,i,R,.cons hp hk,.cons hq hl,hs,h=>by
  rw[List.zip_cons_cons,List.zipIdx_cons,List.forIn_cons];refine zd ?_;show A7 _ _ (eqBool p q >>= _) _ _ _;refine zd (EC hp hq ?_);by_cases e:x=y
  ·simp only[e,KW,kU,zv,ZU];refine zg (F1 fb xs ys AQ a (i+1) R hk hl hs.2 ?_);simp only[De,zr e]at h;exact h
  ·simp only[e,k8,k6,QE];refine zd (RF hs.1 hp hq (zg (zg ?_)));simp only[De,zI e]at h;exact h
theorem Tx{fb:Bool}{c:A1}{j i:AE}{d:Y A0}{m:Nat}{b:Y AY}{Q:Bool->A2->Prop}(u:s.heap.get? a=O j)(q:j.data=.seq AQ.toArray n)(l:s.heap.get? c=O i)(p:i.data=.seq d.toArray m)(f:Ks ks AQ)(g:Ks b d)(hs:Ct ks b)(h:Q (pZ ks b) s):A7 (A8 prog w) A (keyLt' (tuples' fb) (.ref a) (.ref c)) Q E s:=by
 rw[YQ];refine zd (listItems_at u q (zd (listItems_at l p ?_)));have t:AQ.length=ks.length:=(Paired.length f).symm;have o:d.length=b.length:=(Paired.length g).symm;refine zd (F1 fb ks b AQ d 0 _ f g hs ?_);rw[MM]at h;cases e:De ks b with
 |some r=>rw[e]at h;exact zg h
 |none=>
  rw[e]at h;refine zg ?_;simpa[t,o]using h
theorem aT(x:AY):W7 x x=false:=by
 cases x with
 |inl a=>simp[W7]
 |inr a=>simp[W7]
theorem YS{x y z:AY}(h:W7 x y=true)(h':W7 y z=true):W7 x z=true:=by
 cases x<;>cases y<;>cases z<;>simp only[W7,Zl,zv,reduceCtorEq]at h h' ⊢
 ·omega
 ·exact List.lt_trans h h'
theorem cc{x y:AY}(h:W7 x y=false)(h':W7 y x=false):x=y:=by
 cases x<;>cases y<;>simp only[W7,j0,Bool.true_eq_false,reduceCtorEq]at h h'
 ·congr 1;omega
 ·rename_i a b;have:=List.le_antisymm (as:=a.cps.toList) (bs:=b.cps.toList) h' h;cases a;cases b;simp only at this;rw[Array.toList_inj.mp this]
theorem Ii:∀xs:Y AY,pZ xs xs=false
 |[]=>rfl
 |x::xs=>by simp only[pZ,QE];exact Ii xs
theorem rH:∀{xs ys zs:Y AY},pZ xs ys=true->pZ ys zs=true->pZ xs zs=true
 |[],[],_,h,_=>by cases h
 |[],_::_,[],_,h'=>by cases h'
 |[],_::_,_::_,_,_=>rfl
 |_::_,[],_,h,_=>by cases h
 |_::_,_::_,[],_,h'=>by cases h'
 |x::xs,y::ys,z::zs,h,h'=>by
  simp only[pZ]at h h' ⊢;by_cases e1:x=y
  ·subst e1;rw[zr rfl]at h;by_cases e2:x=z
   ·subst e2;rw[zr rfl]at h' ⊢;exact rH h h'
   ·rw[zI e2]at h' ⊢;exact h'
  ·rw[zI e1]at h;by_cases e2:y=z
   ·subst e2;rw[zI e1];exact h
   ·rw[zI e2]at h';have:=YS h h';rw[zI (λe=>by subst e;rw[aT]at this;cases this)];exact this
theorem Av:∀{xs ys:Y AY},pZ xs ys=false->pZ ys xs=false->xs=ys
 |[],[],_,_=>rfl
 |[],_::_,h,_=>by cases h
 |_::_,[],_,h'=>by cases h'
 |x::xs,y::ys,h,h'=>by
  simp only[pZ]at h h';by_cases e:x=y
  ·subst e;rw[zr rfl]at h h';rw[Av h h']
  ·rw[zI e]at h;rw[zI (KB e)]at h';exact absurd (cc h h') e
def wV(xs ys:Y AY):Bool:=!pZ ys xs
theorem zB(a b c:Y AY)(h:wV a b=true)(h':wV b c=true):wV a c=true:=by
 unfold wV at *
 simp only[js]at *
 cases d:pZ c a with
 |false=>rfl
 |true=>
  cases f:pZ a b with
  |true=>rw[rH d f]at h';cases h'
  |false=>
   have e:=Av f h;subst e;rw[d]at h';cases h'
theorem zF(a b:Y AY):(wV a b||wV b a)=true:=by
 unfold wV;cases h:pZ b a with
 |false=>rfl
 |true=>
  cases h':pZ a b with
  |false=>rfl
  |true=>have:=rH h h';rw[Ii]at this;cases this
theorem MK{a b:Y AY}(h:wV a b=true)(h':wV b a=true):a=b:=by
 unfold wV at *
 simp only[js]at *
 exact Av h' h
theorem sy{α:Type}{le:α->α->Prop}(c:∀a b,le a b->le b a->a=b):∀{l l':Y α},l.Perm l'->l.Pairwise le->l'.Pairwise le->l=l'
 |[],l',h,_,_=>by rw[List.nil_perm.mp h]
 |a::l,[],h,_,_=>by cases List.perm_nil.mp h
 |a::l,b::l',h,p,p'=>by
  have e:a=b:=by
   have d:a∈b::l':=h.mem_iff.mp (zh ..);have hb:b∈a::l:=h.mem_iff.mpr (zh ..);rcases List.mem_cons.mp d with h1|h1
   ·exact h1
   ·rcases List.mem_cons.mp hb with h2|h2
    ·exact h2.symm
    ·exact c a b (kg p h2) (kg p' h1)
  subst e;rw[sy c ((List.perm_cons a).mp h) (List.pairwise_cons.mp p).2 (List.pairwise_cons.mp p').2]
def mQ(cZ:Y (Y AY)):Y (Y AY):=cZ.mergeSort wV
theorem pH(cZ:Y (Y AY)):(mQ cZ).Perm cZ:=ya ..
theorem wW(cZ:Y (Y AY)):(mQ cZ).Pairwise (λa b=>wV a b=true):=KA zB zF cZ
theorem uD{out:Y (Y AY)}(hp:out.Perm cZ)(hs:out.Pairwise (λa b=>wV a b=true)):out=mQ cZ:=sy (λ_ _=>MK) (hp.trans (pH cZ).symm) hs (wW cZ)
def CD(cZ:Y (Y AY))(k:Y AY):Nat:=cZ.countP λu=>pZ u k
theorem MN{α:Type}{p q:α->Bool}:∀{l:Y α},(∀x∈l,p x=true->q x=true)->(∃x∈l,p x=false/\q x=true)->l.countP p<l.countP q
 |[],_,⟨x,hx,_⟩=>by cases hx
 |a::l,h,⟨x,hx,h1,h2⟩=>by
  have le:l.countP p<=l.countP q:=List.countP_mono_left λy b=>h y (zi _ b);rw[List.countP_cons,List.countP_cons];rcases List.mem_cons.mp hx with rfl|hx
  ·rw[h1,h2];simp;omega
  ·have:=MN (λy b=>h y (zi _ b)) ⟨x,hx,h1,h2⟩;have c:=h a (zh ..);cases hp:p a with
   |true=>rw[c hp];simp;omega
   |false=>simp;omega
theorem W9{a b:Y AY}(d:a∈cZ):decide (CD cZ a<CD cZ b)=pZ a b:=by
 cases h:pZ a b with
 |true=>
  refine ZH (MN (λu _ c=>rH c h) ⟨a,d,Ii a,h⟩)
 |false=>
  refine ZN (Nat.not_lt.mpr (List.countP_mono_left λu _ c=>?_));cases hb:pZ b a with
  |true=>exact rH c hb
  |false=>rw[Av h hb];exact c
def lu(h:A6)(ks:Y AY)(v:A0):Prop:=∃(a:A1) (o:AE) (AQ:Y A0) (n:Nat),v=.ref a/\h.get? a=O o/\o.cls=.type "tuple" ∧ o.data=.seq AQ.toArray n/\Ks ks AQ
theorem lu.keep{h':A6}{v:A0}(q:lu h ks v)(k:∀c o,h.get? c=O o->h'.get? c=O o):lu h' ks v:=by
 obtain⟨a,o,AQ,n,e,g,c,d,p⟩:=q;exact⟨a,o,AQ,n,e,k _ _ g,c,d,p⟩
theorem b7{k l:AY}{v:A0}(h:mK k v=true)(h':mK l v=true):k=l:=by
 rcases bU h with⟨i,t,rfl,rfl⟩|⟨x,t,rfl,rfl⟩
 ·rcases bU h' with⟨j,u,rfl,e⟩|⟨y,u,rfl,e⟩
  ·cases e;rfl
  ·cases e
 ·rcases bU h' with⟨j,u,rfl,e⟩|⟨y,u,rfl,e⟩
  ·cases e
  ·cases e;rfl
theorem Ks.inj:∀{ks a:Y AY} {AQ:Y A0},Ks ks AQ->Ks a AQ->ks=a
 |_,_,[],h,h'=>by cases h;cases h';rfl
 |_,_,v::AQ,h,h'=>by
  cases h with
  |cons p t=>cases h' with
   |cons p' t'=>rw[b7 p p',Ks.inj t t']
theorem lu.inj{h:A6}{ks f:Y AY}{v:A0}(q:lu h ks v)(j:lu h f v):ks=f:=by
 obtain⟨a,o,AQ,n,rfl,g,c,d,p⟩:=q;obtain⟨t,o',l,s,e,i,m,b,p'⟩:=j;cases e;rw[g]at i;cases i;rw[d]at b;injection b with e1 e2;have e3:AQ=l:=by simpa using congrArg Array.toList e1
 subst e3;exact p.inj p'
theorem O7{α β:Type}{f:α->Sem β}:∀(xs:Y α) (ys:Y β) (Q:Y β->A2->Prop),AI (λx y=>∀(b:B8) (a:β->A2->Prop),a y s->A7 (A8 prog w) A (f x) a b s) xs ys->Q ys s->A7 (A8 prog w) A (xs.mapM f) Q E s
 |[],_,Q,.nil,h=>by rw[List.mapM_nil];exact zg h
 |x::xs,y::ys,Q,.cons h t,q=>by
  rw[List.mapM_cons];exact zd (h _ _ (zd (O7 xs ys _ t (zg q))))
theorem aa(v:A0):firstOfTuple' v=(do
  if(<-typeOf v) != .type "tuple" then return Y3
  return (<-Builtin.List.listItems v)[0]?):=rfl
theorem YT{k:AY}{v:A0}(q:lu s.heap (k::ks) v):∃u,mK k u=true/\∀(e:B8) (b:S A0->A2->Prop),b (O u) s->A7 (A8 prog w) A (firstOfTuple' v) b e s:=by
 obtain⟨a,o,AQ,n,rfl,g,c,d,p⟩:=q;cases p with
 |@cons _ u _ AQ hp t=>
  refine⟨u,hp,λe b h=>?_⟩;rw[aa];refine zd (Q3 (T :="tuple") ⟨o,g,c⟩ ?_);rw[zI (by decide)];exact zd (listItems_at g d (zg h))
theorem XY{k:AY}(h:mK k u=true)(b:B8)(a:B8)(q:a (.type (if k.isLeft then "int" else "str")) s):A7 (A8 prog w) A (typeOf u) a b s:=by
 rcases bU h with⟨i,t,rfl,rfl⟩|⟨x,t,rfl,rfl⟩
 ·exact Q3 (typeIs_int s i t) q
 ·exact Q3 (typeIs_str s x t) q
theorem MP{vs:Y A0}{Q:SortKind->A2->Prop}(m:AI (lu s.heap) cZ vs)(i:∀k∈cZ,k≠[])(D:∀k∈cZ,∀l∈cZ,Ct k l)(h2:1<=vs.length)(h:Q (tuples' true) s):A7 (A8 prog w) A (keyKind' vs.toArray) Q E s:=by
 have step:∀(cZ:Y (Y AY)) (vs:Y A0),AI (lu s.heap) cZ vs->(∀k∈cZ,k≠[])->∃us:Y A0,AI (λv u=>∀(c:B8) (a:S A0->A2->Prop),a (O u) s->A7 (A8 prog w) A (firstOfTuple' v) a c s) vs us/\AI (λ(k:Y AY) u=>∃x r,k=x::r/\mK x u=true) cZ us:=by
  intro cZ vs m
  induction m with
  |nil=>intro _;exact⟨[],.nil,.nil⟩
  |@cons k v cZ vs q t d=>
   intro i;obtain⟨us,p1,p2⟩:=d λk e=>i k (zi _ e);cases k with
   |nil=>exact absurd Y2 (i _ (zh ..))
   |cons x r=>
    obtain⟨u,f,o⟩:=YT (prog:=prog) (w:=w) (A:=A) q;exact⟨u::us,.cons o p1,.cons ⟨x,r,rfl,f⟩ p2⟩
 obtain⟨us,p1,p2⟩:=step cZ vs m i;have p:us.length=vs.length:=(Paired.length p1).symm;have F:∀{l:Y A0} {n:Y A0},AI (λv u=>∀(c:B8) (a:S A0->A2->Prop),a (O u) s->A7 (A8 prog w) A (firstOfTuple' v) a c s) l n->AI (λv u=>∀(c:B8) (a:S A0->A2->Prop),a u s->A7 (A8 prog w) A (firstOfTuple' v) a c s) l (n.map O):=λh=>by
  induction h with
  |nil=>exact .nil
  |cons q t d=>exact .cons q d
 rw[keyKind'_eq,List.mapM_toArray,map_eq_pure_bind];refine zd (zd (O7 vs (us.map O) _ (F p1) (zg ?_)));have C:(us.map O).toArray.all (·.isSome)=true:=by simp
 rw[zr C];refine zd (Kk ?_);have B:(us.map O).toArray.filterMap id=us.toArray:=by simp
 rw[B,oneTypeOnly'_eq,List.mapM_toArray,map_eq_pure_bind];have ty:∀(cZ:Y (Y AY)) (us:Y A0),AI (λ(k:Y AY) u=>∃x r,k=x::r/\mK x u=true) cZ us->∃ts:Y A0,AI (λu t=>∀(c:B8) (a:B8),a t s->A7 (A8 prog w) A (typeOf u) a c s) us ts/\AI (λ(k:Y AY) t=>∃x r,k=x::r/\t=.type (if x.isLeft then "int" else "str")) cZ ts:=by
  intro cZ us hp
  induction hp with
  |nil=>exact⟨[],.nil,.nil⟩
  |@cons k u cZ us q t d=>
   obtain⟨ts,q1,q2⟩:=d;obtain⟨x,r,rfl,hx⟩:=q;exact⟨_::ts,.cons (λc a h=>XY hx c a h) q1,.cons ⟨x,r,rfl,rfl⟩ q2⟩
 obtain⟨ts,q1,q2⟩:=ty cZ us p2;refine zd (zd (zd (O7 us ts _ q1 (zg ?_))));have lt:ts.length=vs.length:=by rw[<-Paired.length q1,p]
 cases q2 with
 |nil=>simp at lt;omega
 |@cons I H G j h0 y=>
  obtain⟨b,r,rfl,rfl⟩:=h0;have same:∀t∈j,t=Value.type (if b.isLeft then "int" else "str"):=by
   have z:∀(cZ:Y (Y AY)) (ts:Y A0),AI (λ(k:Y AY) t=>∃x r,k=x::r/\t=Value.type (if x.isLeft then "int" else "str")) cZ ts->(∀k∈cZ,Ct (b::r) k)->∀t∈ts,t=Value.type (if b.isLeft then "int" else "str"):=by
    intro cZ ts hp
    induction hp with
    |nil=>intro _ t g;cases g
    |@cons k t cZ ts q _ d=>
     intro hs u f;rcases List.mem_cons.mp f with rfl|f
     ·obtain⟨x,J,rfl,rfl⟩:=q;have:=(hs _ (zh ..)).1;cases b<;>cases x<;>first|rfl|cases this
     ·exact d (λk e=>hs k (zi _ e)) u f
   exact z _ _ y λk e=>D _ (zh ..) k (zi _ e)
  have e0:(Value.type (if b.isLeft then "int" else "str")::j).toArray[0]?=O (Value.type (if b.isLeft then "int" else "str")):=by simp
  have e1:((Value.type (if b.isLeft then "int" else "str")::j).toArray.all λx=>x==Value.type (if b.isLeft then "int" else "str"))=true:=by
   simp only[List.all_toArray,qB];intro t g;rcases List.mem_cons.mp g with rfl|g
   ·simp
   ·rw[same t g];simp
  rw[e0];simp only[e1,QE];refine zg (zg ?_);have e2:((O (Value.type (if b.isLeft then "int" else "str"))).any λx=>x !=Value.type "tuple")=true:=by
   cases b with
   |inl _=>exact(by decide:((O (Value.type "int")).any λx=>x !=Value.type "tuple")=true)
   |inr _=>exact(by decide:((O (Value.type "str")).any λx=>x !=Value.type "tuple")=true)
  rw[e2];exact h
def BE(cZ:Y (Y AY))(vs:Y A0)(v:A0):Y AY:=match (vs.zip cZ).find? (λp=>p.1==v)with
 |some p=>p.2
 |none=>[]
theorem nY{h:A6}:∀{cZ:Y (Y AY)} {vs:Y A0},AI (lu h) cZ vs->∀v∈vs,BE cZ vs v∈cZ/\lu h (BE cZ vs v) v
 |_,_,.nil,v,hv=>by cases hv
 |k::cZ,u::vs,.cons q t,v,hv=>by
  unfold BE;rw[List.zip_cons_cons,kQ];by_cases e:u=v
  ·subst e;simp only[beq_self_eq_true];exact⟨zh ..,q⟩
  ·have e':(u==v)=false:=by simpa using e
   simp only[e'];have b:v∈vs:=by
    rcases List.mem_cons.mp hv with h|h
    ·exact absurd h.symm e
    ·exact h
   have a:=nY t v b;exact⟨zi _ a.1,a.2⟩
theorem Ed{h:A6}:∀{cZ:Y (Y AY)} {vs:Y A0},AI (lu h) cZ vs->∀(K:A0->Y AY),(∀v∈vs,lu h (K v) v)->vs.map K=cZ
 |_,_,.nil,_,_=>rfl
 |k::cZ,v::vs,.cons q t,K,hK=>by
  rw[zo,(hK v (zh ..)).inj q,Ed t K λu a=>hK u (zi _ a)]
theorem zG{h:A6}:∀{vs:Y A0} {K:A0->Y AY},(∀v∈vs,lu h (K v) v)->AI (lu h) (vs.map K) vs
 |[],_,_=>.nil
 |v::vs,K,hK=>.cons (hK v (zh ..)) (zG λu a=>hK u (zi _ a))
theorem RM{vs:Y A0}(i:AI (lu s.heap) cZ vs)(y:∀k∈cZ,∀l∈cZ,Ct k l):ZQ prog w A s (tuples' true) (λv=>CD cZ (BE cZ vs v)) (pairsOf vs):=by
 intro E p q Q hp f h;rw[pairsOf_toList]at hp f;obtain⟨b,t1⟩:=nY i p.1 (mem_zip_self hp).2;obtain⟨u,t2⟩:=nY i q.1 (mem_zip_self f).2;rw[W9 b]at h;have m:=y _ b _ u;obtain⟨a,o,AQ,n,e,g,c,d,k⟩:=t1;obtain⟨z,o',D,C,e',x,B,j,t⟩:=t2;rw[e,e'];exact Tx g d x j k t m h
theorem RN{vs:Y A0}(a:AI (lu h) cZ vs){xs:Array Keyed}(hp:xs.Perm (pairsOf vs))(l:Up (λv=>CD cZ (BE cZ vs v)) xs (pairsOf vs).size):AI (lu h) (mQ cZ) (xs.map (·.2)).toList:=by
 have c:xs.toList.Perm (vs.zip vs):=by rw[<-pairsOf_toList];exact Array.perm_iff_toList_perm.mp hp
 have d:∀p∈xs.toList,p.1=p.2/\p.1∈vs:=λp q=>mem_zip_self (c.mem_iff.mp q);have e:(xs.map (·.2)).toList=xs.toList.map (·.1):=by
  rw[Array.toList_map];exact QP λp q=>(d p q).1.symm
 have pv:(xs.toList.map (·.1)).Perm vs:=by
  have:=c.map Prod.fst;rwa [List.map_fst_zip (zk _)]at this
 have m:mQ cZ=(xs.toList.map (·.1)).map (BE cZ vs):=by
  refine(uD ?_ ?_).symm
  ·have:=pv.map (BE cZ vs);rwa [Ed a _ λv q=>(nY a v q).2]at this
  ·rw[List.pairwise_iff_getElem];intro i j hi o g;have f:i<xs.size:=by simpa using hi
   have b:j<xs.size:=by simpa using o
   have u:=l i j (jS g) (by rw[<-hp.size_eq];exact b);unfold at_ at u;rw[getElem?_pos xs i f,getElem?_pos xs j b]at u;have n:=(nY a xs[j].1 (d xs[j] (by simp)).2).1;simp only[List.getElem_map,Array.getElem_toList];unfold wV;rw[<-W9 n,ZN (Nat.not_lt.mpr u)];rfl
 rw[m,e];refine zG λv q=>(nY a v ?_).2;exact pv.mem_iff.mp q
end S1
namespace P1
open L2 S1
theorem Ij{o:AE}{T:String}{vs:Y A0}{Q:Y A0->A2->Prop}(f:s.heap.get? l=O o)(a:o.cls=.type T)(b:T ="list" ∨ T ="tuple")(hd:o.data=.seq vs.toArray n)(i:vs.length<=AA)(h:∀h' tk,s.heap.objs.size<=h'.objs.size->(∀c o,s.heap.get? c=O o->h'.get? c=O o)->Q vs { s with heap:=h',toks:=tk }):A7 (A8 prog w) A (collect (.ref l)) Q E s:=by
 unfold collect;refine zd (wpAny_runValue (ki entry_proto_collect' ?_));show A7 _ _ (newList [] >>= λq=>again (.builtin "list.__iadd__" ⟨[q,.ref l],[]⟩)) _ _ s;refine zd (yB (zg ⟨Code.quiet_builtin _ (by decide +kernel),ki entry_list_iadd' ?_⟩));show A7 _ _ (Builtin.List.listExtendWith (.ref s.heap.objs.size) (.ref l) (.ref s.heap.objs.size)) _ _ _;unfold Builtin.List.listExtendWith;have g1:(s.heap.push (seqObj "list" #[] 0)).get? l=O o:=ze _ f;refine zd (Q3 (T:=T) ⟨o,g1,a⟩ ?_);have d:(Value.type T==Value.type "list" || Value.type T==Value.type "tuple")=true:=by rcases b with rfl|rfl<;>decide
 rw[zr (by rw[Bool.or_assoc,d];simp)];refine zd (listItems_at g1 hd (zd (listItems_at (xs:=#[]) (n:=0) (zC _ Y2) Y2 ?_)));rw[zI (by simp)];have g2:(s.heap.push (seqObj "list" #[] 0)).get? s.heap.objs.size=O (seqObj "list" #[] 0):=zC _ rfl;refine zd (listUpdate_at (xs:=#[]) (n:=0) g2 Y2 (zg ?_) (QU _) (by show(#[]++vs.toArray).size<=AA+1;simp only[KM,zS,List.length_nil];omega));show A7 (A8 prog w) A (load s.heap.objs.size >>= _) Q E _;refine zd (yf (get?_update_seq g2 _) ?_);show A7 _ _ (pure ((#[]:Array A0)++vs.toArray).toList) Q E _;rw[show((#[]:Array A0)++vs.toArray).toList=vs by simp];refine zg (h _ s.toks ?_ λc g e=>?_)
 ·rw[Heap.size_update,size_push'];exact k5 _
 ·rw[kb _ _ _ _ (z4 (zD e))];exact ze _ e
def GB:Dt->S AY
 |.int i=>O (.inl i)
 |.str x=>O (.inr x)
 |_=>Y3
def Ef:Y Dt->S (Y AY)
 |[]=>O []
 |d::ds=>(GB d).bind λk=>(Ef ds).bind λks=>O (k::ks)
def Ik:Dt->S (Y AY)
 |.tup ds=>Ef ds
 |_=>Y3
def uV:Y Dt->S (Y (Y AY))
 |[]=>O []
 |d::ds=>(Ik d).bind λk=>(uV ds).bind λks=>O (k::ks)
def dK:AY->Dt
 |.inl i=>.int i
 |.inr x=>.str x
def BF(ks:Y AY):Dt:=.tup (ks.map dK)
theorem TR{k:AY}(h:GB d=O k):d=dK k:=by
 cases d<;>cases h<;>rfl
theorem RQ:∀{ds:Y Dt} {ks:Y AY},Ef ds=O ks->ds=ks.map dK
 |[],_,h=>by cases h;rfl
 |d::ds,_,h=>by
  obtain⟨k,e1,h⟩:=AT h;obtain⟨ks,e2,h⟩:=AT h;cases h;rw[zo,TR e1,RQ e2]
theorem RV(h:Ik d=O ks):d=BF ks:=by
 cases d with
 |tup ds=>exact congrArg Dt.tup (RQ h)
 |_=>cases h
theorem Dh:∀{ds:Y Dt} {cZ:Y (Y AY)},uV ds=O cZ->ds=cZ.map BF
 |[],_,h=>by cases h;rfl
 |d::ds,_,h=>by
  obtain⟨k,e1,h⟩:=AT h;obtain⟨ks,e2,h⟩:=AT h;cases h;rw[zo,RV e1,Dh e2]
theorem Tl{k:AY}(h:AW K H (dK k) v):v=kV k:=by
 cases k with
 |inl i=>exact(show v=.int i by simpa only[dK,AW]using h)
 |inr x=>exact(show v=.str x/\x.length<=AA by simpa only[dK,AW]using h).1
theorem M4{K:B4}{H:Hp}:∀{ks:Y AY} {vs:Y V},aO K H (ks.map dK) vs->vs=ks.map kV
 |[],_,h=>by simp only[ko,aO]at h;exact h
 |k::ks,_,h=>by
  simp only[zo,aO]at h;obtain⟨v,r,rfl,h1,h2⟩:=h;rw[Tl h1,M4 h2,zo]
theorem XV(X:Cx):∀{us:Y A0},AX (ks.map kV) us->Ks ks us:=by
 induction ks with
 |nil=>intro us h;cases h;exact .nil
 |cons k ks a=>
  intro us h;cases h with
  |cons r t=>exact .cons (Hr (P:=X.prog) (w:=X.w) r) (a t)
theorem sE{AN:Y (A1×AE)}{σ:L2.St}{H:Hp}{s:A2}(I:AU X AN σ H s):∀{cZ:Y (Y AY)} {vs:Y V} {AQ:Y A0},aO X.K H (cZ.map BF) vs->AX vs AQ->AI (lu s.heap) cZ AQ
 |[],_,_,h,r=>by
  simp only[ko,aO]at h;subst h;cases r;exact .nil
 |k::cZ,_,_,h,r=>by
  simp only[zo,aO]at h;obtain⟨v,vs,rfl,h1,h2⟩:=h;cases r with
  |cons f i=>
   refine .cons ?_ (sE I h2 i);simp only[BF,AW]at h1;obtain⟨a,j,rfl,sq,e⟩:=h1;obtain⟨AQ,b,⟨o,g,c,n,d⟩,_⟩:=I.tuple sq;cases f;rw[M4 e]at b;exact⟨a,o,AQ,n,rfl,g,c,d,XV X b⟩
theorem Di{AN:Y (A1×AE)}{σ:L2.St}{H:Hp}{s:A2}(I:AU X AN σ H s){cZ:Y (Y AY)}{vs:Y V}{AQ:Y A0}(h:aO X.K H (cZ.map BF) vs)(r:AX vs AQ):∀{ZR:Y (Y AY)} {out:Y A0},AI (lu s.heap) ZR out->(∀u∈out,u∈AQ)->∃zs,AX zs out/\aO X.K H (ZR.map BF) zs
 |_,_,.nil,_=>⟨[],.nil,aO.nil⟩
 |l::ZR,u::out,.cons q t,hm=>by
  obtain⟨zs,z1,z2⟩:=Di I h r t λx hx=>hm x (zi _ hx);have f:∀(cZ:Y (Y AY)) (vs:Y V) (AQ:Y A0),aO X.K H (cZ.map BF) vs->AX vs AQ->u∈AQ->∃v,Au v u/\AW X.K H (BF l) v:=by
   intro cZ
   induction cZ with
   |nil=>
    intro vs AQ h r a;simp only[ko,aO]at h;subst h;cases r;cases a
   |cons k cZ d=>
    intro vs AQ h r a;simp only[zo,aO]at h;obtain⟨v,vs,rfl,h1,h2⟩:=h;cases r with
    |@cons _ i _ _ b g=>
     rcases List.mem_cons.mp a with rfl|a
     ·have e:k=l:=by
       have:=sE I (cZ:=[k]) (vs:=[v]) (AQ:=[u]) (by simp only[zo,ko];exact aO.cons h1 aO.nil) (.cons b .nil);cases this with
       |cons c _=>exact c.inj q
      subst e;exact⟨v,b,h1⟩
     ·exact d vs _ h2 g a
  obtain⟨v,b,h1⟩:=f cZ vs AQ h r (hm u (zh ..));exact⟨v::zs,.cons b z1,by rw[zo];exact aO.cons h1 z2⟩
def O8(k l:Y AY):Bool:=((k.zip l).all λp=>W8 p.1 p.2)
theorem Il:∀{k l:Y AY},O8 k l=true->Ct k l
 |[],_,_=>by simp[Ct]
 |_::_,[],_=>by simp[Ct]
 |x::k,y::l,h=>by
  unfold O8 at h;rw[List.zip_cons_cons,kR,ZT]at h;exact⟨h.1,Il h.2⟩
def Fp(cZ:Y (Y AY)):Bool:=decide (cZ.length<64)&&(cZ.all (λk=>!k.isEmpty)&&cZ.all λk=>cZ.all λl=>O8 k l)
def uW:Y Bx->S Bx
 |[b]=>(wR b).bind λds=>(uV ds).bind λcZ=>if Fp cZ=true then O (.o ((mQ cZ).map BF))else Y3
 |_=>Y3
theorem GP(h:bC K H b v)(e:wR b=O ds):∃a vs,v=.ref a/\(uN K H a vs\/Cy K H a vs)/\aO K H ds vs:=by
 cases b with
 |z d=>
  cases d<;>first|(cases e;done)|skip
  ·cases e;simp only[bC,AW]at h;obtain⟨a,vs,e,q,r⟩:=h;exact⟨a,vs,e,.inr q,r⟩
  ·cases e;simp only[bC,AW]at h;obtain⟨a,vs,e,q,r⟩:=h;exact⟨a,vs,e,.inl q.sq,r⟩
 |l c=>cases e;obtain⟨a,vs,e,q,r⟩:=h;exact⟨a,vs,e,.inl (.inl q),r⟩
 |o c=>cases e;obtain⟨a,vs,e,q,r⟩:=h;exact⟨a,vs,e,.inl (.inl (.inl q)),r⟩
 |n _=>cases e
 |m _ _=>cases e
theorem Im:rA X (.builtin "sorted") uW:=by
 intro AN s σ H xs us Q I M h;obtain⟨bs,c,G,e,q⟩:=h;unfold uW at e;split at e
 ·rename_i b;obtain⟨ds,Z,e⟩:=AT e;obtain⟨cZ,ek,e⟩:=AT e;split at e
  ·rename_i hs;cases e;simp only[Fp,ZT,Zl,qB,js]at hs;obtain⟨a0,F,B⟩:=hs;obtain⟨v,rfl,U⟩:=BH G;obtain⟨p,vs,rfl,sq,x⟩:=GP U Z;obtain⟨u,rfl,L⟩:=BB M;cases L;have a1:=Dh ek;subst a1;have a2:∃(AQ:Y A0) (o:AE) (T:String) (n:Nat),AX vs AQ/\s.heap.get? p=O o/\o.cls=.type T/\(T ="list" ∨ T ="tuple")/\o.data=.seq AQ.toArray n/\vs.length<=AA:=by
    rcases sq with sq|sq
    ·obtain⟨AQ,f,pl,j⟩:=I.list sq;obtain⟨o,g,c,n,d⟩:=pl.isList;exact⟨AQ,o,_,n,f,g,c,.inl rfl,d,j⟩
    ·obtain⟨AQ,f,⟨o,g,c,n,d⟩,j⟩:=I.tuple sq;exact⟨AQ,o,_,n,f,g,c,.inr rfl,d,j⟩
   obtain⟨AQ,o,T,n,f,g,C,P,hd,j⟩:=a2;have a3:AQ.length=cZ.length:=by rw[<-f.length,x.length,zt]
   have tv:=sE I x f;refine YM (kd:=tuples' true) (rk:=λv=>CD cZ (BE cZ AQ v)) (vs:=AQ) (λJ Q' y=>Ij g C P hd (by rw[<-f.length];exact j) y)
    (λh2 J D s' k Q' y=>MP (Paired.imp' (λ_ _ z=>lu.keep z k) tv) (λk t=>by have:=F k t;cases k with|nil=>cases this|cons _ _=>exact List.cons_ne_nil _ _) (λk t l i=>Il (B k t l i)) (by omega) y)
    (λD s' k=>RM (Paired.imp' (λ_ _ z=>lu.keep z k) tv) λk t l i=>Il (B k t l i)) (by omega) λl h' tk m st hp up i ext hL=>?_
   have E:=RN tv hp up;have mem:∀u∈((AM st).map (·.2)).toList,u∈AQ:=λu A=>by
    rw[Array.toList_map]at A;obtain⟨pr,K,rfl⟩:=List.mem_map.mp A;have N:pr∈AQ.zip AQ:=by rw[<-pairsOf_toList];exact(Array.perm_iff_toList_perm.mp hp).mem_iff.mp K
    have:=mem_zip_self N;rw[<-this.1];exact this.2
   obtain⟨zs,z1,z2⟩:=Di I x f E mem;have W:zs.length=cZ.length:=by rw[z2.length,zt,(pH cZ).length_eq]
   have w:H l=Y3:=I.hok.fresh i;refine⟨.ref l,_,I.laid (t':=tk) (a:=l) (o:=.lst zs) ext i ⟨by rw[W];exact jS (ZZ a0 (by decide)),_,m,z1,?_⟩,rfl,q _ _ (cg w) (λa ea=>by cases ea;exact w) ⟨l,zs,rfl,bH,z2.kp (.of (cg w))⟩⟩;rw[hL]
  ·cases e
 ·cases e
end P1
namespace S6
theorem YW{b:Source}{Q:Nat->A2->Prop}(a:n≠0)(h:∀i d,i<n->Q i { s with drawn:=d }):A7 M A (choose b n) Q E s:=
 λc p e=>⟨a,h _ _ (Nat.mod_lt _ (Nat.pos_of_ne_zero a))⟩
theorem O9{α:Type}:∀{xs:Y α} {i:Nat} (hi:i<xs.length),(xs[i]::xs.eraseIdx i).Perm xs
 |x::xs,0,_=>List.Perm.refl _
 |x::xs,i+1,h=>by
  rw[List.eraseIdx_cons_succ,List.getElem_cons_succ];exact(List.Perm.swap _ _ _).trans ((O9 (xs:=xs) (i:=i) (by simpa using h)).cons x)
theorem gc:∀(n:Nat) (xs:Y α) (s:A2) (Q:Y α->A2->Prop),xs.length=n->(∀ys d,ys.Perm xs->Q ys { s with drawn:=d })->A7 M A (drawOrder n xs) Q E s:=by
 intro n
 induction n with
 |zero=>
  intro xs s Q a h;cases xs with
  |nil=>
   unfold drawOrder;exact zg (h [] s.drawn (List.Perm.refl _))
  |cons x xs=>simp at a
 |succ n c=>
  intro xs s Q a h;cases xs with
  |nil=>simp at a
  |cons x xs=>
   unfold drawOrder;refine zd (YW (by simp) λi d hi=>?_);have e:(x::xs)[i]?=O (x::xs)[i]:=by simp[hi]
   rw[e];dsimp only;refine zd (c ((x::xs).eraseIdx i) _ _ (by rw[List.length_eraseIdx,zr hi];simp at a ⊢;omega) λys b hp=>zg ?_);exact h _ b ((List.Perm.cons _ hp).trans (O9 hi))
theorem Xa{α:Type}(next:Nat->Nat):∀(n k:Nat) (xs:Y α) (out:Array α),xs.length=n->(pickOrder.go next n k xs out).toList.Perm (out.toList++xs)
 |0,k,[],out,_=>by unfold pickOrder.go;simp
 |n+1,k,x::xs,out,hl=>by
  unfold pickOrder.go;have hi:next k%(x::xs).length<(x::xs).length:=Nat.mod_lt _ (by simp);have e:(x::xs)[next k%(x::xs).length]?=O (x::xs)[next k%(x::xs).length]:=by rw[z5 hi]
  rw[e];dsimp only;refine(Xa next n (k+1) _ _ (by rw[List.length_eraseIdx,zr hi];simp at hl ⊢;omega)).trans ?_;rw[Array.toList_push,qq];exact(List.Perm.refl _).append (O9 hi)
theorem YX(next:Nat->Nat)(xs:Array α):(pickOrder next xs).toList.Perm xs.toList:=by
 have:=Xa next xs.size 0 xs.toList #[] (by simp);simpa[pickOrder]using this
structure Wk (w:World) (h:Heap) (a:Addr) (es:Array (Int×Value)) (ep:Nat) (t:SetTable):Prop where
 at_:∃o,h.get? a=some o/\o.cls=.type "set" ∧ o.data=.set es ep t
 fit:t.fits es.size=true
 led:w.params.followText "set-order"=false->t.led=true
 non:1<es.size->t.plain=false
theorem Wk.keep{h':A6}{es:Array (Int×A0)}(x:Wk w h a es ep t)(k:∀o,h.get? a=O o->h'.get? a=O o):Wk w h' a es ep t:=
 ⟨let ⟨o,e,r⟩:=x.at_;⟨o,k o e,r⟩,x.fit,x.led,x.non⟩
def It(h:A6)(it a:A1)(first:A0)(i n ep:Nat):Prop:=∃o,h.get? it=O o/\o.cls=.type "set_iterator" ∧ o.data=.fields #[first,.int (i:Int) 0,.ref a,.int (n:Int) 0,.int (ep:Int) 0]
theorem It.keep{h':A6}{f:A0}(x:It h it a f i n ep)(k:∀o,h.get? it=O o->h'.get? it=O o):It h' it a f i n ep:=
 let ⟨o,e,r⟩:=x;⟨o,k o e,r⟩
theorem It.ty{f:A0}(x:It s.heap it a f i n ep):s.TypeIs (.ref it) "set_iterator":=let ⟨o,e,c,_⟩:=x;⟨o,e,c⟩
theorem j6:Slot "set_iterator" "__next__" "set_iterator.__next__":=
 .of (owner :="set_iterator") (n :="__next__") (by rw[typeLookup_type,builtinLookup_eq_fast];kernel_rfl) (by decide +kernel) (by decide +kernel) (by decide +kernel)
  (by first|exact .inl (by decide +kernel)|exact .inr (by decide +kernel)) (by rw[isSubtype_type];kernel_rfl)
theorem Aw:Slot "set_iterator" "__iter__" "set_iterator.__iter__":=
 .of (owner :="set_iterator") (n :="__iter__") (by rw[typeLookup_type,builtinLookup_eq_fast];kernel_rfl) (by decide +kernel) (by decide +kernel) (by decide +kernel)
  (by first|exact .inl (by decide +kernel)|exact .inr (by decide +kernel)) (by rw[isSubtype_type];kernel_rfl)
theorem Kz:entryFor table "set_iterator.__next__"=O Builtin.«set_iterator.__next__»:=entryFor_of_tree (by kernel_rfl)
theorem Fq:entryFor table "set.__iter__"=O Builtin.«frozenset.__iter__»:=entryFor_alias (id' :="frozenset.__iter__") (by kernel_rfl) Y2 (by decide +kernel) (by kernel_rfl)
theorem KC:entryFor table "set_iterator.__iter__"=O Builtin.«dict_keyiterator.__iter__»:=entryFor_alias (id' :="dict_keyiterator.__iter__") (by kernel_rfl) Y2 (by decide +kernel) (by kernel_rfl)
theorem NA:Manifest.owners.lookup (String.ofList "rotareti_tes".toList.reverse)=O Manifest.sig_set_iterator:=by kernel_rfl
theorem Pa(a:A0):argsOk "set_iterator.__next__" ⟨[a],[]⟩:=by
 unfold argsOk;rw[signature?_of (id :="set_iterator.__next__") (n :="__txen__".toList) (o :="rotareti_tes".toList) (by kernel_rfl) NA];kernel_rfl
theorem Pb(a:A0):argsOk "set_iterator.__iter__" ⟨[a],[]⟩:=by
 unfold argsOk;rw[signature?_of (id :="set_iterator.__iter__") (n :="__reti__".toList) (o :="rotareti_tes".toList) (by kernel_rfl) NA];kernel_rfl
section
variable{es:Array (Int×A0)}
theorem GQ{first:A0}(d:It s.heap it a first i es.size ep)(g:Wk w s.heap a es ep t)(h:A7 (A8 prog w) A.in1 (if let .int slot _:=first then(do
    match <-setNext a slot.toNat (i:Int).toNat (ep:Int).toNat with
    |some (x,next)=>
     setField (.ref it) 0 (rawInt next)
     setField (.ref it) 1 (rawInt ((i:Int)+1))
     ret x
    |none=>setField (.ref it) 2 .none;raiseNew (<-newExc (.type "StopIteration") []))
   else(do
    let O places <-seqItems? first|unsupported "internal:set_iterator"
    match places[(i:Int).toNat]? with
    |some (.int place _)=>
     let x <-setNextDrawn a place.toNat (ep:Int).toNat
     setField (.ref it) 1 (rawInt ((i:Int)+1))
     ret x
    |some _=>unsupported "internal:set_iterator"
    |none=>setField (.ref it) 0 (rawInt 0);setField (.ref it) 2 .none;raiseNew (<-newExc (.type "StopIteration") []))) (λf s'=>∃v,f=.done (.ret v)/\Q (O v) s') (λe s'=>s'.TypeIs e "StopIteration" ∧ Q Y3 s') s):A7 (A8 prog w) A (pyNext (.ref it)) Q E s:=by
 obtain⟨o,n,p,hd⟩:=id d;obtain⟨u,j,q,l⟩:=g.at_;unfold pyNext;refine zd (wpAny_attempt (Ya (name:=Str.ofString "__next__") d.ty j6 (ke j6 d.ty Kz ?_ (Pa _))));unfold Builtin.«set_iterator.__next__»;refine zd (zg ?_);refine zd (wpAny_fieldsOf n hd ?_);show A7 _ _ (setEntries a >>= _) _ _ s;refine zd (wpAny_setEntries_of j l g.fit ?_);rw[zI (by simp)];refine QN h (λf s' c=>?_) λe s' c=>?_
 ·obtain⟨v,rfl,m⟩:=c;exact⟨v,rfl,zg m⟩
 ·refine zd (kC (T :="StopIteration") (b:=true) c.1 isSubtype_stop ?_);exact zg c.2
theorem Xb{hp:A6}(c:A.handled=Y3)(h:∀h',(∀b o,hp.get? b=O o->h'.get? b=O o)->Q Y3 { s with heap:=h' }):
  A7 (A8 prog w) A.in1 (do raiseNew (<-newExc (.type "StopIteration") [])) (λ(d:Fin) s'=>∃v,d=.done (.ret v)/\Q (O v) s') (λe s'=>s'.TypeIs e "StopIteration" ∧ Q Y3 s') { s with heap:=hp }:=by
 refine zd ?_;simp only[newExc,newTuple];refine zd (qo ?_ (by size_fits));refine zd (m:=firstArgMember _ _) (wpAny_of_eq (a:=Value.none) (by first|rfl|(simp only[firstArgMember];rfl)) ?_);refine qo ?_ (by size_fits);simp only[raiseNew];refine zd (wpAny_handled ?_);rw[show A.in1.handled=Y3 from c];refine zd (zg (wpAny_throw ⟨⟨_,zC _ rfl,rfl⟩,?_⟩));exact h _ λb o e=>ze _ (ze _ e)
theorem It.put{f:A0}(c:It h it a f i n ep)(x:A0):It (h.update it (Obj.mapFields (·.setIfInBounds 0 x))) it a x i n ep:=by
 obtain⟨o,d,b,hd⟩:=c;exact⟨_,KS _ d (Obj.isFreed_of_fields (yn hd _)),(Obj.cls_mapFields ..).trans b,by rw[yn hd];simp⟩
theorem It.step{f:A0}(c:It h it a f i n ep):It (h.update it (Obj.mapFields (·.setIfInBounds 1 (rawInt ((i:Int)+1))))) it a f (i+1) n ep:=by
 obtain⟨o,d,b,hd⟩:=c;exact⟨_,KS _ d (Obj.isFreed_of_fields (yn hd _)),(Obj.cls_mapFields ..).trans b,by rw[yn hd];simp[rawInt]⟩
theorem It.field{f:A0}{k:Nat}{x:A0}{Q:Unit->A2->Prop}(c:It s.heap it a f i n ep)(b:k<5)(h:Q () { s with heap:=s.heap.update it (Obj.mapFields (·.setIfInBounds k x)) }):A7 (A8 prog w) A (setField (.ref it) k x) Q E s:=by
 obtain⟨o,d,e,hd⟩:=c;exact wpAny_setField d hd (by simpa using b) h
theorem uF{f:AE->AE}{b:A1}{o:AE}(hb:b≠it)(e:h.get? b=O o):(h.update it f).get? b=O o:=by rw[kb _ _ _ _ hb];exact e
theorem Nd{slot next:Nat}{x:A0}(c:It s.heap it a (.int (slot:Int) 0) i es.size ep)(l:Wk w s.heap a es ep t)(f:∀{g:A5} {j:B8} {d:S (A0×Nat)->A2->Prop},d (O (x,next)) s->A7 (A8 prog w) g (setNext a slot i ep) d j s)(h:∀h',It h' it a (.int (next:Int) 0) (i+1) es.size ep->(∀b o,b≠it->s.heap.get? b=O o->h'.get? b=O o)->Q (O x) { s with heap:=h' }):A7 (A8 prog w) A (pyNext (.ref it)) Q E s:=by
 refine GQ c l ?_;show A7 _ _ (setNext a slot i ep >>= _) _ _ s;refine zd (f ?_);refine zd (c.field (by decide) ?_);refine zd ((c.put _).field (s:={ s with heap:=_ }) (by decide) ?_);exact zg ⟨x,rfl,h _ ((c.put _).step) λb o hb e=>uF hb (uF hb e)⟩
theorem Io{slot:Nat}(l:A.handled=Y3)(c:It s.heap it a (.int (slot:Int) 0) i es.size ep)(j:Wk w s.heap a es ep t)(f:∀{g:A5} {m:B8} {d:S (A0×Nat)->A2->Prop},d Y3 s->A7 (A8 prog w) g (setNext a slot i ep) d m s)(h:∀h',(∀b o,b≠it->s.heap.get? b=O o->h'.get? b=O o)->Q Y3 { s with heap:=h' }):A7 (A8 prog w) A (pyNext (.ref it)) Q E s:=by
 refine GQ c j ?_;show A7 _ _ (setNext a slot i ep >>= _) _ _ s;refine zd (f ?_);refine zd (c.field (by decide) (Xb l λh' k=>h h' λb o hb e=>k b o (uF hb e)))
theorem bS{tp:A1}{g:AE}{c:Nat}{x:Int×A0}(d:It s.heap it a (.ref tp) i es.size ep)(f:Wk w s.heap a es ep t)(q:s.heap.get? tp=O g)(hd:g.data=.seq (pl.map λ(k:Nat)=>rawInt (k:Int)).toArray c)(l:pl[i]?=O j)(hx:es[j]?=O x)(h:∀h',It h' it a (.ref tp) (i+1) es.size ep->(∀b o,b≠it->s.heap.get? b=O o->h'.get? b=O o)->Q (O x.2) { s with heap:=h' }):A7 (A8 prog w) A (pyNext (.ref it)) Q E s:=by
 refine GQ d f ?_;show A7 _ _ (seqItems? (.ref tp) >>= _) _ _ s;refine zd (m:=seqItems? (.ref tp)) ?_;unfold seqItems?;refine zd (yf q ?_);rw[hd];refine zg ?_;dsimp only;rw[KL,show((pl.map λ(k:Nat)=>rawInt (k:Int)).toArray)[i]?=O (rawInt (j:Int)) by simp[l]];show A7 _ _ (setNextDrawn a j ep >>= _) _ _ s;obtain⟨v,n,u,p⟩:=f.at_;refine zd (m:=setNextDrawn a j ep) ?_;unfold setNextDrawn;refine zd (ja n p f.fit ?_);dsimp only;rw[zI (by simp),hx];refine zg ?_;refine zd (d.field (by decide) ?_);exact zg ⟨x.2,rfl,h _ d.step λb o hb e=>uF hb e⟩
theorem RW{tp:A1}{f:AE}{c:Nat}(l:A.handled=Y3)(d:It s.heap it a (.ref tp) i es.size ep)(n:Wk w s.heap a es ep t)(j:s.heap.get? tp=O f)(hd:f.data=.seq (pl.map λ(k:Nat)=>rawInt (k:Int)).toArray c)(g:pl[i]?=Y3)(h:∀h',(∀b o,b≠it->s.heap.get? b=O o->h'.get? b=O o)->Q Y3 { s with heap:=h' }):A7 (A8 prog w) A (pyNext (.ref it)) Q E s:=by
 refine GQ d n ?_;show A7 _ _ (seqItems? (.ref tp) >>= _) _ _ s;refine zd (m:=seqItems? (.ref tp)) ?_;unfold seqItems?;refine zd (yf j ?_);rw[hd];refine zg ?_;dsimp only;rw[KL,show((pl.map λ(k:Nat)=>rawInt (k:Int)).toArray)[i]?=Y3 by simpa using g];refine zd (d.field (by decide) ?_);refine zd ((d.put _).field (s:={ s with heap:=_ }) (by decide) (Xb l λh' k=>h h' λb o hb e=>k b o (uF hb (uF hb e))))
theorem yr{Q:Bool->A2->Prop}(h:Q (w.params.followText "set-order") s):A7 (A8 prog w) A setsByText Q E s:=by
 unfold setsByText;exact zd (y7 (zg h))
theorem Pg{f:A0}{Q:B8}(b:It s.heap it a f i n ep)(h:Q (.ref it) s):A7 (A8 prog w) A (pyIter (.ref it)) Q E s:=by
 refine wpAny_pyIter_slot b.ty Aw (ke Aw b.ty KC ?_ (Pb _));show A7 _ _ (ret (.ref it)) _ _ s;exact zg ⟨_,rfl,"set_iterator", _,b.ty,j6.lookup,h⟩
def Ph(w:A4)(a:A1)(ep:Nat)(es:Array (Int×A0)):Y A0:=(pickOrder (w.params.setOrder a ep) es).toList.map (·.2)
theorem Dj:(Ph w a ep es).Perm (es.toList.map (·.2)):=(YX _ _).map _
theorem M5{slot:Nat}{Q:S (A0×Nat)->A2->Prop}(f:w.params.followText "set-order"=true)(b:Wk w s.heap a es ep t)(h:Q (((Ph w a ep es)[i]?).map λv=>(v,slot)) s):A7 (A8 prog w) A (setNext a slot i ep) Q E s:=by
 obtain⟨j,c,g,d⟩:=b.at_;unfold setNext;refine zd (ja c d b.fit (zd (yr ?_)));rw[f];simp only[↓reduceIte,bne_self_eq_false,zv];refine zd (m:=setWalk a) ?_;unfold setWalk;refine zd (ja c d b.fit (zd (yr ?_)));rw[f];simp only[↓reduceIte];refine zd (y7 (zg (zg ?_)));have e:(pickOrder (w.params.setOrder a ep) es)[i]?.map (λe=>(e.2,slot))=((Ph w a ep es)[i]?).map λv=>(v,slot):=by
  unfold Ph;rw[ZE,Option.map_map,QI];rfl
 rw[<-e]at h;exact h
theorem Vl(p:A.handled=Y3)(j:w.params.followText "set-order"=true)(n:a≠it)(c:es.size<=AA):Walks prog w A it [it,a] [it] es.size (λi v=>(Ph w a ep es)[i]?=O v) (λi h=>It h it a (.int 0 0) i es.size ep/\Wk w h a es ep t) where
 sub:=λb hb=>by simp at hb;simp[hb]
 frame:=λ_ _ _ st f=>⟨st.1.keep λo e=>f it (by simp) o e,st.2.keep λo e=>f a (by simp) o e⟩
 item:=λi s Q E hi st d=>by
  have m:(Ph w a ep es).length=es.size:=by rw[Dj.length_eq];simp
  obtain⟨v,g⟩:∃v,(Ph w a ep es)[i]?=O v:=⟨(Ph w a ep es)[i]'(by omega),by rw[z5]⟩;refine Nd (slot:=0) (next:=0) (x:=v) st.1 st.2 (λ{A' E' Q'} hq=>M5 j st.2 (by rw[g];exact hq)) λh' l k=>?_;exact d v h' s.toks g ⟨l,st.2.keep λo e=>k a o n e⟩ λb o hb e=>k b o (λx=>hb (by simp[x])) e
 done:=λs Q E st d=>by
  have m:(Ph w a ep es).length=es.size:=by rw[Dj.length_eq];simp
  refine Io (slot:=0) p st.1 st.2 (λ{A' E' Q'} hq=>M5 j st.2 (by rw[qr (by omega)];exact hq)) λh' k=>?_;exact d h' s.toks λb o hb e=>k b o (λx=>hb (by simp[x])) e
 self:=λ_ _ _ _ st d=>Pg st.1 d
def YZ(pl:Y Nat)(es:Array (Int×A0)):Y A0:=pl.filterMap λj=>es[j]?.map (·.2)
theorem Y0(h:pl.Perm (List.range es.size)):(YZ pl es).Perm (es.toList.map (·.2)):=by
 refine(h.filterMap _).trans ?_;rw[show(List.range es.size).filterMap (λj=>es[j]?.map (·.2))=((List.range es.size).filterMap λj=>es[j]?).map (·.2) by rw[List.map_filterMap],filterMap_getElem?_range]
theorem RX:∀{pl:Y Nat},(∀j∈pl,j<es.size)->∀(i:Nat) (j:Nat),pl[i]?=O j->(YZ pl es)[i]?=es[j]?.map (·.2)
 |[],_,_,_,h=>by simp at h
 |k::pl,hb,i,j,h=>by
  have a:=hb k (zh ..);have e:YZ (k::pl) es=es[k].2::YZ pl es:=by simp[YZ,a]
  rw[e];cases i with
  |zero=>cases(show k=j by simpa using h);simp[a]
  |succ i=>rw[qa];exact RX (λj b=>hb j (zi _ b)) i j (by simpa using h)
theorem Vm{tp:A1}(u:A.handled=Y3)(p:a≠it)(q:tp≠it)(hp:pl.Perm (List.range es.size)):Walks prog w A it [it,a,tp] [it] es.size (λi v=>(YZ pl es)[i]?=O v)
  (λi h=>It h it a (.ref tp) i es.size ep/\Wk w h a es ep t/\∃d c,h.get? tp=O d/\d.data=.seq (pl.map λ(k:Nat)=>rawInt (k:Int)).toArray c) where
 sub:=λb hb=>by simp at hb;simp[hb]
 frame:=λ_ _ _ st l=>⟨st.1.keep λo e=>l it (by simp) o e,st.2.1.keep λo e=>l a (by simp) o e,let ⟨d,c,e,r⟩:=st.2.2;⟨d,c,l tp (by simp) d e,r⟩⟩
 item:=λi s Q E hi st f=>by
  obtain⟨d,c,e1,e2⟩:=st.2.2;have n:pl.length=es.size:=by rw[hp.length_eq];simp
  have hb:∀j∈pl,j<es.size:=λj g=>List.mem_range.mp (hp.mem_iff.mp g);have g:pl[i]?=O (pl[i]'(by omega)):=by rw[z5]
  have hx:es[pl[i]'(by omega)]?=O (es[pl[i]'(by omega)]'(hb _ (y9 _))):=by rw[qh]
  refine bS st.1 st.2.1 e1 e2 g hx λh' m k=>?_;exact f _ h' s.toks (by rw[RX hb i _ g,hx];rfl) ⟨m,st.2.1.keep λo e=>k a o p e,d,c,k tp d q e1,e2⟩ λb o hb e=>k b o (λx=>hb (by simp[x])) e
 done:=λs Q E st f=>by
  obtain⟨d,c,e1,e2⟩:=st.2.2;have n:pl.length=es.size:=by rw[hp.length_eq];simp
  refine RW u st.1 st.2.1 e1 e2 (by rw[qr (by omega)]) λh' k=>?_;exact f h' s.toks λb o hb e=>k b o (λx=>hb (by simp[x])) e
 self:=λ_ _ _ _ st f=>Pg st.1 f
def wX(t:SetTable)(i:Nat):Nat:=if i=0 then 0 else t.place.getD 0 0+1
theorem dt(j:Nat):SetTable.below #[j] 0=0:=by
 show SetTable.below.go #[j] 0 1 0 1=0;unfold SetTable.below.go;rw[zr (by decide)];show(if #[j].getD 0 0<0 then _ else SetTable.below.go #[j] 0 0 0 0)=0;rw[zI (kL _)];rfl
theorem PR(j:Nat):SetTable.below #[j] (j+1)=1:=by
 show SetTable.below.go #[j] (j+1) 1 0 1=1;unfold SetTable.below.go;rw[zr (by decide)];show(if j<j+1 then SetTable.below.go #[j] (j+1) 0 1 1 else _)=1;rw[zr (qf _)];rfl
theorem Y4{P:S (A0×Nat)->Prop}{r:S (A0×Nat)}(hp:t.place.size=es.size)(c:es.size<=1)(hi:i<=es.size)
  (b:r=match es[SetTable.below t.place (wX t i)]?,t.place[SetTable.below t.place (wX t i)]? with
   |some (_,x),O j=>O (x,j+1)
   |_,_=>Y3) (h:P (((es.toList.map (·.2))[i]?).map λv=>(v,wX t (i+1)))):P r:=by
 subst b;by_cases h0:es.size=0
 ·have e:es=#[]:=Array.eq_empty_of_size_eq_zero h0;subst e;simpa using h
 ·have h1:es.size=1:=by omega
  obtain⟨x,rfl⟩:=Array.size_eq_one_iff.mp h1;obtain⟨j,a⟩:=Array.size_eq_one_iff.mp (hp.trans h1);have hi:i=0\/i=1:=by omega
  rcases hi with rfl|rfl
  ·have e1:wX t 0=0:=rfl;have e2:wX t (0+1)=j+1:=by unfold wX;rw[a];rfl
   rw[e2]at h;rw[e1,a,dt];exact h
  ·have e2:wX t 1=j+1:=by unfold wX;rw[a];rfl
   rw[e2,a,PR];exact h
theorem Ip{Q:S (A0×Nat)->A2->Prop}(d:w.params.followText "set-order"=false)(b:Wk w s.heap a es ep t)(g:es.size<=1)(hi:i<=es.size)(h:Q (((es.toList.map (·.2))[i]?).map λv=>(v,wX t (i+1))) s):A7 (A8 prog w) A (setNext a (wX t i) i ep) Q E s:=by
 obtain⟨n,j,m,l⟩:=b.at_;have hp:t.place.size=es.size:=by
  have:=b.fit;simp only[SetTable.fits,ZT,beq_iff_eq]at this;exact this.1
 unfold setNext;refine zd (ja j l b.fit (zd (yr ?_)));rw[d];simp only[zv,↓reduceIte];split
 ·rename_i c;have c:(!t.plain&&decide (es.size>1))=true:=c;simp at c;omega
 ·have f:A7 (A8 prog w) A (if(!t.led&&!es.isEmpty)=true then unsupported "set:maker-not-led" else pure PUnit.unit) (λ_ s'=>s'=s) E s:=by
   rw[b.led d];exact zg rfl
  refine zd (QN f (λ_ s' e=>?_) λ_ _ x=>x);subst e;refine zg ?_;exact Y4 (P:=λr=>Q r s') hp g hi Y2 h
theorem RZ(n:A.handled=Y3)(j:w.params.followText "set-order"=false)(f:es.size<=1)(m:a≠it):Walks prog w A it [it,a] [it] es.size (λi v=>(es.toList.map (·.2))[i]?=O v) (λi h=>It h it a (.int (wX t i:Nat) 0) i es.size ep/\Wk w h a es ep t) where
 sub:=λb hb=>by simp at hb;simp[hb]
 frame:=λ_ _ _ st d=>⟨st.1.keep λo e=>d it (by simp) o e,st.2.keep λo e=>d a (by simp) o e⟩
 item:=λi s Q E hi st c=>by
  obtain⟨v,g⟩:∃v,(es.toList.map (·.2))[i]?=O v:=⟨(es.toList.map (·.2))[i]'(by simpa using hi),by rw[z5]⟩;refine Nd (x:=v) st.1 st.2 (λ{A' E' Q'} hq=>Ip j st.2 f (jS hi) (by rw[g];exact hq)) λh' l k=>?_;exact c v h' s.toks g ⟨l,st.2.keep λo e=>k a o m e⟩ λb o hb e=>k b o (λx=>hb (by simp[x])) e
 done:=λs Q E st c=>by
  refine Io n st.1 st.2 (λ{A' E' Q'} hq=>Ip j st.2 f (zk _) (by rw[qr (by simp)];exact hq)) λh' k=>?_;exact c h' s.toks λb o hb e=>k b o (λx=>hb (by simp[x])) e
 self:=λ_ _ _ _ st c=>Pg st.1 c
theorem VZ(c:Wk w s.heap a es ep t)(y:es.size<=AA){Q:B8}
  (h:∀(it:A1) (h':A6) (d:Drawn) (fp:Y A1) (St:Nat->A6->Prop) (C:Y A0),C.Perm (es.toList.map (·.2))->(∀j:A5,j.handled=Y3->Walks prog w j it fp [it] es.size (λi v=>C[i]?=O v) St)->St 0 h'->s.heap.objs.size<=it->it<h'.objs.size →
   (∀b∈fp,b=a\/s.heap.objs.size<=b)->(∀b∈fp,b<h'.objs.size)->(∀b o,s.heap.get? b=O o->h'.get? b=O o)->Q (.ref it) { s with heap:=h',drawn:=d }):A7 (A8 prog w) A (pyIter (.ref a)) Q E s:=by
 obtain⟨K,f,I,n⟩:=id c.at_;have B:s.TypeIs (.ref a) "set":=⟨K,f,I⟩;have l:a<s.heap.objs.size:=zD f;refine wpAny_pyIter_slot B F.slot_set_iter (ke F.slot_set_iter B Fq ?_ (F.args_set_iter_1 _));show A7 _ _ (Builtin.Frozenset.sizeOf a >>= _) _ _ s;refine zd (m:=Builtin.Frozenset.sizeOf a) (zd (wpAny_setEntries_of f n c.fit (zg ?_)));have hd:A7 (A8 prog w) A.in1 (setDrawn a) (λb s'=>s'=s/\b=(!(w.params.followText "set-order")&&(!t.plain&&decide (es.size>1)))) E s:=by
  unfold setDrawn;exact zd (ja f n c.fit (zd (yr (zg ⟨rfl,rfl⟩))))
 refine zd (QN hd (λb s' e=>?_) λ_ _ x=>x);obtain⟨rfl,rfl⟩:=e;dsimp only;by_cases g:w.params.followText "set-order"=true
 ·rw[g];simp only[kU,KG,zv,ZU];refine zd (zg ?_);refine zd (m:=setEpoch a) (wpAny_setEpoch_of f n c.fit ?_);refine zd (qo (zg ⟨_,rfl,"set_iterator", _,⟨_,zC _ rfl,rfl⟩,j6.lookup,?_⟩));have:=h s'.heap.objs.size (s'.heap.push { cls:=.type "set_iterator",data:=.fields #[.int 0 0,.int 0 0,.ref a,.int es.size 0,.int ep 0] }) s'.drawn [s'.heap.objs.size,a] _ _ Dj (λj p=>Vl p g (t:=t) (ep:=ep) (z4 l) y)
   ⟨⟨_,zC _ rfl,rfl,rfl⟩,c.keep λo e=>ze _ e⟩ (zk _) (by rw[qk];exact qf _) (λb hb=>by simp at hb;rcases hb with rfl|rfl;exact .inr (zk _);exact .inl Y2)
   (λb hb=>by simp at hb;rw[qk];rcases hb with rfl|rfl;exact qf _;exact qV l) λb o e=>ze _ e
  exact this
 ·have g:w.params.followText "set-order"=false:=by simpa using g
  rw[g];simp only[k6,yT];by_cases J:es.size<=1
  ·rw[zI (by simp;omega)];refine zd (zg ?_);refine zd (m:=setEpoch a) (wpAny_setEpoch_of f n c.fit ?_);refine zd (qo (zg ⟨_,rfl,"set_iterator", _,⟨_,zC _ rfl,rfl⟩,j6.lookup,?_⟩));have:=h s'.heap.objs.size (s'.heap.push { cls:=.type "set_iterator",data:=.fields #[.int 0 0,.int 0 0,.ref a,.int es.size 0,.int ep 0] }) s'.drawn [s'.heap.objs.size,a] _ _ (List.Perm.refl _) (λj p=>RZ p g J (t:=t) (ep:=ep) (z4 l))
    ⟨⟨_,zC _ rfl,rfl,rfl⟩,c.keep λo e=>ze _ e⟩ (zk _) (by rw[qk];exact qf _) (λb hb=>by simp at hb;rcases hb with rfl|rfl;exact .inr (zk _);exact .inl Y2)
    (λb hb=>by simp at hb;rw[qk];rcases hb with rfl|rfl;exact qf _;exact qV l) λb o e=>ze _ e
   exact this
  ·rw[zr (by rw[c.non (by omega)];simp;omega)];refine zd (gc _ _ _ _ (by simp) λpl d hp=>?_);refine zd (wpAny_newTuple ?_ (by rw[zt,hp.length_eq,KI];exact y));refine zd (m:=setEpoch a) (wpAny_setEpoch_of (ze _ f) n c.fit ?_);refine zd (qo (zg ⟨_,rfl,"set_iterator", _,⟨_,zC _ rfl,rfl⟩,j6.lookup,?_⟩));generalize u:s'.heap.push { cls:=.type "tuple",data:=.seq (pl.map λ(k:Nat)=>rawInt (k:Int)).toArray }=G;have q:G.objs.size=s'.heap.objs.size+1:=by rw[<-u,qk]
   have H:G.get? s'.heap.objs.size=O { cls:=.type "tuple",data:=.seq (pl.map λ(k:Nat)=>rawInt (k:Int)).toArray }:=by rw[<-u];exact zC _ rfl
   have D:∀b o,s'.heap.get? b=O o->G.get? b=O o:=λb o e=>by rw[<-u];exact ze _ e
   have z:a<G.objs.size:=by rw[q];exact qV l
   have:=h G.objs.size (G.push { cls:=.type "set_iterator",data:=.fields #[.ref s'.heap.objs.size,.int 0 0,.ref a,.int es.size 0,.int ep 0] }) d [G.objs.size,a,s'.heap.objs.size] _ _ (Y0 hp) (λj p=>Vm p (t:=t) (ep:=ep) (tp:=s'.heap.objs.size) (z4 z) (by rw[q];exact z4 (qf _)) hp)
    ⟨⟨_,zC _ rfl,rfl,rfl⟩,c.keep λo e=>ze _ (D _ _ e),_,0,ze _ H,rfl⟩ (by rw[q];exact k5 _) (by rw[qk];exact qf _)
    (λb hb=>by simp at hb;rcases hb with rfl|rfl|rfl;exact .inr (by rw[q];exact k5 _);exact .inl rfl;exact .inr (zk _))
    (λb hb=>by
     simp at hb;rw[qk];rcases hb with rfl|rfl|rfl
     ·exact qf _
     ·exact qV z
     ·exact qV (by rw[q];exact qf _)) λb o e=>ze _ (D _ _ e)
   exact this
end
end S6
namespace S6
open P1
section
variable{es:Array (Int×A0)}
theorem Y5{b:Y A0}{a:Array A0}(f:b.length=n)(h:ItemsOf (λi v=>b[i]?=O v) a n):a.toList=b:=by
 apply List.ext_getElem?;intro j;by_cases d:j<n
 ·have c:j<a.size:=by rw[h.1];exact d
  have e:a.toList[j]?=O a[j]:=by simp[c]
  rw[e,h.2 j a[j] (by simp[c])]
 ·rw[qr (by rw[qA,h.1];omega),qr (by omega)]
theorem R0{Q:Y A0->A2->Prop}(z:A.handled=Y3)(y:Wk w s.heap a es ep t)(v:es.size<=AA)
  (Z:∀f h' d tk,f.Perm (es.toList.map (·.2))->s.heap.objs.size<=h'.objs.size->(∀b o,s.heap.get? b=O o->h'.get? b=O o)->Q f { s with heap:=h',drawn:=d,toks:=tk }):
  A7 (A8 prog w) A (collect (.ref a)) Q E s:=by
 obtain⟨l,h,m,a3⟩:=id y.at_;have hT:s.TypeIs (.ref a) "set":=⟨l,h,m⟩;have D:a<s.heap.objs.size:=zD h;unfold collect;refine zd (wpAny_runValue (ki F.entry_proto_collect ?_));rw[Around.under_plainId F.plain_proto_collect _];show A7 _ A.in1 (newList [] >>= λq=>again (.builtin "list.__iadd__" ⟨[q,.ref a],[]⟩)) _ _ s;refine zd (qo (zg ⟨plainId_quiet F.plain_list_iadd _,ki F.entry_list_iadd ?_⟩));rw[Around.under_plainId F.plain_list_iadd _];show A7 _ A.in1 (Builtin.List.listExtendWith (.ref s.heap.objs.size) (.ref a) (.ref s.heap.objs.size)) _ _ _;unfold Builtin.List.listExtendWith;generalize i:(s.heap.push { cls:=.type "list",data:=.seq ([]:Y A0).toArray })=H;have g:∀b o,s.heap.get? b=O o->H.get? b=O o:=λb o e=>by rw[<-i];exact ze _ e
 have I:H.objs.size=s.heap.objs.size+1:=by rw[<-i,qk]
 have gH:H.get? s.heap.objs.size=O (seqObj "list" #[] 0):=by rw[<-i];exact zC _ rfl
 have a0:Wk w H a es ep t:=y.keep λo e=>g a o e;refine zd (Q3 (T :="set") ⟨l,g _ _ h,m⟩ ?_);have h1:Builtin.List.listSameRef (.ref s.heap.objs.size) (.ref a)=false:=by simp[Builtin.List.listSameRef];exact k9 D
 simp only[h1,show(Value.type "set"==Value.type "list")=false by decide,show(Value.type "set"==Value.type "tuple")=false by decide,Bool.or_false,zv,ZU];refine zd (VZ (s:={ s with heap:=H }) a0 v λit G d fp St f hp W M a2 a5 L a4 u=>?_);refine zd (QQ ?_);unfold Builtin.List.listLengthHint;have p:Shared.TypeIs { s with heap:=G,drawn:=d } (.ref a) "set":=⟨l,u _ _ (g _ _ h),m⟩;refine zd (wpAny_specialOf (T :="set") p F.slot_set_len.lookup ?_)
 wp_delta
 refine zd (kC (T :="set") (b:=true) p (by rw[isSubtype_type];kernel_rfl) ?_);show A7 _ A.in1 (typeOf (Value.ref a) >>= _) _ _ _;refine zd (Q3 (T :="set") p (zg ?_));rw[zr (by decide)];show A7 _ A.in1 (Builtin.List.listTouch (Value.ref s.heap.objs.size) >>= λ_=>again (Code.builtin "list.extend.loop" ⟨[Value.ref s.heap.objs.size,Value.ref it,Value.ref s.heap.objs.size],[]⟩)) _ _ _;have n:G.get? s.heap.objs.size=O (seqObj "list" #[] 0):=u _ _ gH;unfold Builtin.List.listTouch;refine zd (zd (listUpdate_at n Y2 (listUpdate_at (get?_update_seq n _) Y2 ?_ (by show _<=_;decide) (by show _<=_;decide)) (by show _<=_;decide) (by show _<=_;decide)));have J:s.heap.objs.size∉fp:=λc=>by
  rcases L _ c with e|e
  ·exact k9 D e
  ·have e:H.objs.size<=s.heap.objs.size:=e;rw[I]at e;exact absurd e (Nat.not_succ_le_self _)
 have B:=get?_update_seq (get?_update_seq n (λx=>x.push Value.none)) (λx=>x.pop);generalize hU:(G.update s.heap.objs.size (Obj.mapSeq λx=>x.push Value.none)).update s.heap.objs.size (Obj.mapSeq λx=>x.pop)=U at B;have keep:∀b,b≠s.heap.objs.size->U.get? b=G.get? b:=λb hb=>by rw[<-hU,kb _ _ _ _ hb,kb _ _ _ _ hb]
 have a1:St 0 U:=(W A z).frame 0 G U M λb hb o e=>by rw[keep b λx=>J (x▸hb)];exact e
 show A7 _ A.in1 (again _) _ _ { s with heap:=U,drawn:=d };have ho:f.length=es.size:=by rw[hp.length_eq];simp
 refine zg ⟨plainId_quiet F.plain_extend_loop _,codeAny_extend_loopS (W A.in1 z).toS v s.heap.objs.size J _ es.size 0 { s with heap:=U,drawn:=d } #[] _ Y2 (QU _) a1 B (ItemsOf.nil _) λs' X c' j K N=>?_⟩;show A7 _ A (load s.heap.objs.size >>= _) _ _ s';refine zd (yf K (zg ?_));show Q X.toList s';rw[Y5 ho N];have C:=Z f s'.heap s'.drawn s'.toks hp (jS (zD K)) λb P e=>by
  have hb:=zD e;refine j.heap b P (λc=>?_) ((keep b (z4 hb)).trans (u _ _ (g _ _ e)));simp only[jI,JI,or_false]at c;rcases c with c|c
  ·exact z4 hb c
  ·have:H.objs.size<=it:=a2;rw[I,<-c]at this;exact absurd hb (Nat.not_lt.mpr (Nat.le_of_succ_le this))
 have e1:s'.gens=s.gens:=j.gens;have e2:s'.os=s.os:=j.os;rw[<-e1,<-e2]at C;exact C
end
theorem GR{α:Type}[DecidableEq α]:∀{xs ys:Y α},xs.Nodup->ys.Nodup->(∀z,z∈xs↔z∈ys)->xs.Perm ys
 |[],ys,_,_,h=>by
  have:ys=[]:=List.eq_nil_iff_forall_not_mem.mpr λz a=>by simpa using(h z).mpr a
  subst this;exact .refl _
 |x::xs,ys,hx,hy,h=>by
  have c:x∈ys:=(h x).mp (zh ..);have b:=List.nodup_cons.mp hx;refine((GR b.2 (hy.erase x) λz=>?_).cons x).trans (K0 c).symm;rw[hy.mem_erase_iff];constructor
  ·intro a;exact⟨λe=>b.1 (e▸a),(h z).mp (zi _ a)⟩
  ·intro⟨hn,a⟩;rcases List.mem_cons.mp ((h z).mpr a)with e|e
   ·exact absurd e hn
   ·exact e
theorem Eh{R:α->β->Prop}:∀{l l':Y β},l'.Perm l->∀{ys:Y α},AI R ys l->∃a,a.Perm ys/\AI R a l':=by
 intro l l' hp
 replace hp:=hp.symm
 induction hp with
 |nil=>intro ys h;exact⟨ys,.refl _,h⟩
 |cons x _ f=>intro ys h;cases h with|cons r t=>obtain⟨zs,z1,z2⟩:=f t;exact⟨_::zs,z1.cons _,.cons r z2⟩
 |swap x y l=>intro ys h;cases h with|cons r t=>cases t with|cons e b=>exact⟨_,List.Perm.swap _ _ _,.cons e (.cons r b)⟩
 |trans _ _ c g=>intro ys h;obtain⟨zs,z1,z2⟩:=c h;obtain⟨us,i,d⟩:=g z2;exact⟨us,i.trans z1,d⟩
theorem Vn{R:α->β->Prop}{xs:Y α}{us:Y β}{ys:Y α}{vs:Y β}(h:AI R xs us)(k:AI R ys vs):AI R (xs++ys) (us++vs):=by
 induction h with
 |nil=>exact k
 |cons r _ a=>exact .cons r a
def BO(w:A4):AE:={ cls:=.type "set",dict:=Y3,data:=.set #[] 0 (.fresh 0 0 (!w.params.followText "set-order")) }
structure EA (prog:Program) (w:World) (S:Addr) (wr:List Addr) {κ:Type} (C:Heap->List κ->Prop) (P:Nat->Value->Prop) (val:Nat->κ) (n:Nat):Prop where
 keep:∀h h' ys,C h ys->(∀b o,b∉wr->h.get? b=some o->h'.get? b=some o)->C h' ys
 add:∀(A:Around) (E:B8) (s:Shared) (i:Nat) (v:Value) (ys:List κ) (Q:Bool->Shared->Prop),A.units<cLine->i<n->P i v->C s.heap ys->ys.length<=i →
  (∀b h' tk ys',Heap.SameBut S s.heap h'->C h' ys'->(∀z,z∈ys'↔z∈ys\/z=val i)->ys'.length<=i+1->s.toks<=tk->Q b { s with heap:=h',toks:=tk })->wpAny (model prog w) A (setAdd S v) Q E s
section
variable{R:Result->A2->Prop}{I:A1}{wr:Y A1}{P:Nat->A0->Prop}{St:Nat->A2->Prop}{C:A6->Y κ->Prop}{val:Nat->κ}
theorem c4(W:WalksS prog w A.in1 I fp wr (λa b=>b=a) n P St)(S:A1)(M:S∉fp)(ad:EA prog w S wr C P val n)(N:A.units+1<cLine):
  ∀(k i:Nat) (s:A2) (ys:Y κ),n-i=k->i<=n->St i s->C s.heap ys->(∀z,z∈ys↔∃j,j<i/\z=val j)->ys.length<=i →
   (∀s' d,Moved (S::wr) (λa b=>b=a) s s'->C s'.heap d->(∀z,z∈d↔∃j,j<n/\z=val j)->R (.ok (.ret .none)) s') →
   AF (A8 prog w) A (.builtin "set.update.loop" ⟨[.ref S,.ref I],[]⟩) R s:=by
 have sub:∀b,b∈wr->b∈S::wr:=λb q=>zi _ q;intro k
 induction k with
 |zero=>
  intro i s ys G hi st f g p l;have:i=n:=by omega
  subst this;refine ki F.entry_set_update_loop ?_;rw[Around.under_plainId YA _];show A7 _ A.in1 (pyNext (.ref I) >>= _) _ _ s;refine zd (W.done s _ _ st λs' c=>?_);show A7 _ A.in1 (ret Value.none) _ _ s';exact zg (l s' ys (c.mono sub) (ad.keep _ _ _ f c.heap) g)
 |succ k D=>
  intro i s ys G hi st f g p l;have h:i<n:=by omega
  refine ki F.entry_set_update_loop ?_;rw[Around.under_plainId YA _];show A7 _ A.in1 (pyNext (.ref I) >>= _) _ _ s;refine zd (W.item i s _ _ h st λv s' u y c=>?_);show A7 _ A.in1 (holding [v] (setAdd S v) >>= _) _ _ s';refine zd (QQ (ad.add _ _ s' i v ys _ N h u (ad.keep _ _ _ f c.heap) p λb h' tk d m J Q x t=>?_));refine zg ⟨plainId_quiet YA _,D (i+1) _ d (by omega) h (W.frame _ s' _ _ y t λb hb o e=>?_) J (λz=>?_) x λK E U B L=>?_⟩
  ·rw[m.2 b λq=>M (q▸hb)];exact e
  ·rw[Q z,g z];constructor
   ·rintro(⟨j,H,e⟩|e)
    ·exact⟨j,by omega,e⟩
    ·exact⟨i,by omega,e⟩
   ·rintro⟨j,H,e⟩;by_cases q:j=i
    ·exact .inr (q▸e)
    ·exact .inl ⟨j,by omega,e⟩
  ·refine l K E (Moved.trans W.gtrans ((c.mono sub).then_heap t λb o hb e=>?_) U) B L;rw[m.2 b λq=>hb (by rw[q];exact zh)];exact e
end
theorem Vo(x:A0){Q₁:B8}(h:Q₁ (.ref s.heap.objs.size) { s with heap:=s.heap.push (BO w) }):
  AF (A8 prog w) A (.call (.builtin "set.__new__") ⟨[.type "set",x],[]⟩) (wants Q₁ E) s:=by
 refine codeAny_of_tree ?_;show A7 _ A.in1 (do checkBuiltinCall "set.__new__" ⟨[.type "set",x],[]⟩;again (.builtin "set.__new__" ⟨[.type "set",x],[]⟩)) _ _ s;refine zd (wpAny_of_eq (F.newCall_set_1 x) (zg ⟨plainId_quiet F.plain_set_new _,ki F.entry_set_new ?_⟩));rw[Around.under_plainId F.plain_set_new _];unfold Builtin.«set.__new__» Builtin.Frozenset.newClass;have a:=sub_set_self;obtain⟨hp,g,d,tk,os⟩:=s;dsimp only
 wp_walk
 refine y7 (zg ?_);dsimp only;simp only[newObj];refine zd (wpAny_alloc (zg ?_));exact zg h
theorem Bn:isSubtype (.type "tuple") (.type "set")=pure false:=by rw[isSubtype_type];kernel_rfl
theorem BG:isSubtype (.type "tuple") (.type "frozenset")=pure false:=by rw[isSubtype_type];kernel_rfl
theorem NR(hU:A.units+60<cLine){T:String}{o:AE}{C:A6->Y κ->Prop}{P:Nat->A0->Prop}{val:Nat->κ}{Q:B8}(hh:A.handled=Y3)(K:s.heap.get? l=O o)(a3:o.cls=.type T)(t:T ="list" ∨ T ="tuple")(a5:∀(d:A5) (Z:B8) (M:B8) (h0:A6),d.handled=Y3->(∀b a,s.heap.get? b=O a->h0.get? b=O a) →
   (∀(h':A6) (St:Nat->A6->Prop),(∀d,d.handled=Y3->Walks prog w d h0.objs.size [h0.objs.size,l] [h0.objs.size] n P St)->St 0 h'->(∀b a,h0.get? b=O a->h'.get? b=O a)->M (.ref h0.objs.size) { s with heap:=h' })->A7 (A8 prog w) d (pyIter (.ref l)) M Z { s with heap:=h0 })(ad:EA prog w s.heap.objs.size [s.heap.objs.size+1] C P val n)(a0:∀h',h'.get? s.heap.objs.size=O (BO w)->(∀b a,s.heap.get? b=O a->h'.get? b=O a)->C h' [])(h:∀(h':A6) (tk:Nat) (ys:Y κ),C h' ys->(∀z,z∈ys↔∃j,j<n/\z=val j)->(∀b a,s.heap.get? b=O a->h'.get? b=O a)->Q (.ref s.heap.objs.size) { s with heap:=h',toks:=tk }):
  A7 (A8 prog w) A (call (.type "set") [.ref l]) Q E s:=by
 obtain⟨c,tl,d1⟩:=F.called_set.mro;have c6:=F.called_set.made;have d0:=F.called_set.sub;have b0:l<s.heap.objs.size:=zD K;refine wpAny_call (codeAny_of_tree ?_);show A7 _ _ (callAny (.type "set") _) _ _ _;refine zg ⟨Code.quiet_builtin _ (by decide +kernel),ki F.entry_type_call ?_⟩;rw[Around.under_plain (weight_type_call_type "set" [.ref l] []) rfl];have h1:=F.called_set.notType;have h2:=F.called_set.canCreate;have b9:=F.typeCall_set_1 (.ref l)
 repeat (any_goals (first|assumption|wp_step))
 refine codeAny_mono (Vo (.ref l) (E:=E) (Q₁:=λI D=>I=.ref s.heap.objs.size/\D={ s with heap:=s.heap.push (BO w) }) ⟨rfl,rfl⟩) λr D v=>?_;cases r with
 |error e=>exact v
 |ok fl=>
  cases fl with
  |ret I=>
   obtain⟨rfl,rfl⟩:=v;generalize p:s.heap.push (BO w)=H;have L:H.objs.size=s.heap.objs.size+1:=by rw[<-p,qk]
   have x:H.get? s.heap.objs.size=O (BO w):=by rw[<-p];exact zC _ rfl
   have i:∀b a,s.heap.get? b=O a->H.get? b=O a:=λb a e=>by rw[<-p];exact ze _ e
   have a1:Shared.TypeIs { s with heap:=H } (.ref s.heap.objs.size) "set":=⟨_,x,rfl⟩;have b3:=F.called_set.init.lookup;have c8:=F.called_set.init.bind (.ref s.heap.objs.size)
   repeat (any_goals (first|assumption|wp_step))
   refine codeAny_mono (codeAny_call_builtin (R:=wants (λr f=>r=.none/\∃h' tk ys,f={ s with heap:=h',toks:=tk }/\C h' ys/\(∀z,z∈ys↔∃j,j<n/\z=val j)/\(∀b a,s.heap.get? b=O a->h'.get? b=O a)) E) F.called_set.init.plain F.entry_set_init (check_set_init_1 a1 ?_)) λU f m=>?_
   ·have y:Shared.TypeIs { s with heap:=H } (.ref l) T:=⟨o,i _ _ K,a3⟩;have i1:isSubtype (.type T) (.type "set")=pure false:=by rcases t with rfl|rfl;exact F.sub_list_set;exact Bn
    have i2:isSubtype (.type T) (.type "frozenset")=pure false:=by rcases t with rfl|rfl;exact F.sub_list_frozenset;exact BG
    have i3:(Value.type T==Value.type "dict")=false:=by rcases t with rfl|rfl<;>decide
    show A7 _ _ (Builtin.«set.__init__» ⟨[.ref s.heap.objs.size,.ref l],[]⟩) _ _ _;have N:∀d:A5,d.handled=Y3->d.units+4<cLine->A7 (A8 prog w) d (Builtin.Frozenset.updateFrom "set.__init__" s.heap.objs.size (.ref l)) (λ_ f=>∃h' tk ys,f={ s with heap:=h',toks:=tk }/\C h' ys/\(∀z,z∈ys↔∃j,j<n/\z=val j)/\(∀b a,s.heap.get? b=O a->h'.get? b=O a)) E { s with heap:=H }:=by
     intro d J b4;unfold Builtin.Frozenset.updateFrom Builtin.Frozenset.isAnySet;refine zd (zd (kC y i1 ?_));refine kC y i2 ?_;simp only[zv,ZU];refine zd (Q3 y ?_);simp only[i3,zv,ZU];refine zd (a5 d _ _ H J i λG St W X B=>?_);rw[L]at W;rw[L];have a4:s.heap.objs.size∉[s.heap.objs.size+1,l]:=λq=>by
      simp only[jI,JI,or_false]at q;rcases q with q|q
      ·exact z4 (qf _) q
      ·exact k9 b0 q
     refine zd (wpAny_runValue (c4 (W d.in1 J).toS s.heap.objs.size a4 ad (by omega) (n-0) 0 _ [] Y2 (QU _) X (a0 G (B _ _ x) λb a e=>B _ _ (i _ _ e)) (λz=>⟨λq=>(by cases q),λ⟨j,q,_⟩=>absurd q (kL _)⟩) (zk _) λs' ys g c1 c2=>?_));refine zg ⟨s'.heap,s'.toks,ys,?_,c1,c2,λb a e=>?_⟩
     ·have e1:s'.gens=s.gens:=g.gens;have e2:s'.os=s.os:=g.os;have e3:s'.drawn=s.drawn:=g.drawn;rw[<-e1,<-e2,<-e3]
     ·have hb:=zD e;refine g.heap b a (λq=>?_) (B _ _ (i _ _ e));simp only[jI,JI,or_false]at q;rcases q with q|q
      ·exact z4 hb q
      ·exact z4 (qV hb) q
    have hb:(BO w).data=.set #[] 0 (.fresh 0 0 (!w.params.followText "set-order")):=rfl;unfold Builtin.«set.__init__» noKeywords;generalize c0:Builtin.Frozenset.updateFrom=UF at N ⊢;unfold BO at x
    wp_walk
    refine QN (N _ (by simp[hh]) (by simp;omega)) (λu f q=>?_) λ_ _ q=>q;obtain⟨h',tk,ys,rfl,q⟩:=q;show A7 _ _ (ret Value.none) _ _ _;exact zg ⟨rfl,h',tk,ys,rfl,q⟩
   ·cases U with
    |error e=>exact m
    |ok a2=>
     cases a2 with
     |ret r=>
      obtain⟨rfl,h',tk,ys,rfl,c1,c2,c3⟩:=m
      repeat (any_goals (first|assumption|wp_step))
      exact h _ _ _ c1 c2 c3
     |_=>exact False.elim m
  |_=>exact False.elim v
end S6
namespace S6
open PySem
def Vp(xs:Array Nat):Prop:=∀i j,i<j->j<xs.size->xs.getD i 0<xs.getD j 0
theorem D8{xs:Array Nat}{k a b:Nat}(h:k<xs.size):xs.getD k a=xs.getD k b:=by simp[Array.getD,h]
theorem iL{xs:Array Nat}{k a:Nat}(h:xs[k]?=O j):k<xs.size/\xs.getD k a=j:=by
 have b:k<xs.size:=by
  by_cases q:k<xs.size
  ·exact q
  ·rw[KO (by omega)]at h;cases h
 refine⟨b,?_⟩;rw[qh b]at h;cases h;simp[Array.getD,b]
theorem XZ{xs:Array Nat}{k a:Nat}(b:k<xs.size)(h:xs.getD k a=j):xs[k]?=O j:=by
 rw[qh b];simp[Array.getD,b]at h;rw[h]
theorem Ir(xs:Array Nat)(j:Nat)(a:Vp xs):∀(fuel lo hi:Nat),lo<=hi->hi<=xs.size->hi-lo<=fuel->(∀k,k<lo->xs.getD k 0<j)->(∀k,hi<=k->k<xs.size->j<=xs.getD k 0) →
  SetTable.below.go xs j fuel lo hi<=xs.size/\(∀k,k<SetTable.below.go xs j fuel lo hi->xs.getD k 0<j)/\∀k,SetTable.below.go xs j fuel lo hi<=k->k<xs.size->j<=xs.getD k 0
 |0,lo,hi,h1,h2,h3,h4,h5=>by
  have e:lo=hi:=by omega
  subst e;unfold SetTable.below.go;exact⟨h2,h4,h5⟩
 |fuel+1,lo,hi,h1,h2,h3,h4,h5=>by
  unfold SetTable.below.go;by_cases c:lo<hi
  ·rw[zr c];dsimp only;have d:(lo+hi) / 2<xs.size:=by omega
   rw[D8 (b:=0) d];by_cases q:xs.getD ((lo+hi) / 2) 0<j
   ·rw[zr q];refine Ir xs j a fuel _ hi (by omega) h2 (by omega) (λk f=>?_) h5;by_cases e:k=(lo+hi) / 2
    ·rw[e];exact q
    ·exact Nat.lt_trans (a k _ (by omega) d) q
   ·rw[zI q];refine Ir xs j a fuel lo _ (by omega) (by omega) (by omega) h4 λk f hs=>?_;by_cases e:k=(lo+hi) / 2
    ·rw[e];omega
    ·have:=a _ k (by omega:(lo+hi) / 2<k) hs;omega
  ·rw[zI c];have e:lo=hi:=by omega
   subst e;exact⟨h2,h4,h5⟩
theorem BU{xs:Array Nat}(a:Vp xs)(j:Nat):SetTable.below xs j<=xs.size/\(∀k,k<SetTable.below xs j->xs.getD k 0<j)/\∀k,SetTable.below xs j<=k->k<xs.size->j<=xs.getD k 0:=
 Ir xs j a xs.size 0 xs.size (QU _) (zk _) (by omega) (λk h=>absurd h (kL _)) λk h h'=>absurd h' (by omega)
theorem Iu{xs:Array Nat}(b:Vp xs)(h:xs[i]?=O j):SetTable.below xs j=i:=by
 obtain⟨h1,h2,c⟩:=BU b j;obtain⟨hi,e⟩:=iL (a:=0) h;rcases Nat.lt_trichotomy (SetTable.below xs j) i with q|q|q
 ·have:=c _ (zk _) (by omega);have:=b _ _ q hi;omega
 ·exact q
 ·have:=h2 _ q;omega
theorem Xc(j:Nat):SetTable.has #[] j=false:=by
 unfold SetTable.has;simp
structure Tb (t:SetTable):Prop where
 mask:t.mask=7\/t.mask=31\/t.mask=127
 dum:t.dummies=#[]
 rise:Vp t.place
 bd:∀j:Nat,j∈t.place->j<=t.mask
 full:t.place.size<=t.mask
theorem Dk(h:Tb t)(e:t.place[i]?=O j):t.slot j=.live i:=by
 unfold SetTable.slot;simp only[Iu h.rise e,e,beq_self_eq_true,QE]
theorem Y6(h:Tb t)(e:j∉t.place):t.slot j=.empty:=by
 unfold SetTable.slot;have:(t.place[SetTable.below t.place j]?==O j)=false:=by
  cases q:t.place[SetTable.below t.place j]? with
  |none=>rfl
  |some x=>
   by_cases hx:x=j
   ·subst hx;exact absurd (Array.mem_of_getElem? q) e
   ·simp[hx]
 simp only[this,zv,ZU,h.dum,Xc]
def KD(mask:Nat)(p:SetTable.Probe):SetTable.Probe:=
 if p.more>0 then { p with j:=p.j+1,more:=p.more-1 }else
 { p with j:=(SetTable.leap mask p.i p.perturb).1,more:=SetTable.runEnd mask (SetTable.leap mask p.i p.perturb).1-(SetTable.leap mask p.i p.perturb).1,i:=(SetTable.leap mask p.i p.perturb).1,perturb:=(SetTable.leap mask p.i p.perturb).2 }
theorem MZ(t:SetTable)(p:SetTable.Probe):t.advance p=KD t.mask p:=rfl
def ED(mask i perturb:Nat):SetTable.Probe:={ j:=i,more:=SetTable.runEnd mask i-i,i,perturb,dummy:=Y3 }
def jc(mask:Nat)(h:Int):Nat->SetTable.Probe
 |0=>ED mask (SetTable.bits h%(mask+1)) (SetTable.bits h)
 |n+1=>KD mask (jc mask h n)
theorem Xd(mask:Nat)(h:Int):∀n,(jc mask h n).dummy=Y3
 |0=>rfl
 |n+1=>by
  have:=Xd mask h n;unfold jc KD;split<;>exact this
theorem R3{t:SetTable}(b:Tb t)(a:Nat->Int)(h:Int):∀(d fuel n:Nat),d<fuel->(∀m,n<=m->m<n+d->∃i,t.place[i]?=O (jc t.mask h m).j/\a i≠h) →
  ((jc t.mask h (n+d)).j∉t.place->SetTable.probe.go t a h fuel (jc t.mask h n)=O (.empty (jc t.mask h (n+d)).j Y3)) ∧
  ∀i,t.place[i]?=O (jc t.mask h (n+d)).j->a i=h->SetTable.probe.go t a h fuel (jc t.mask h n)=O (.candidate (jc t.mask h (n+d)).j i (jc t.mask h (n+d+1)))
 |0,fuel+1,n,_,_=>by
  refine⟨λe=>?_,λi e1 e2=>?_⟩
  ·unfold SetTable.probe.go;rw[Nat.add_zero]at e ⊢;rw[Y6 b e];simp only[Xd]
  ·unfold SetTable.probe.go;rw[Nat.add_zero]at e1 ⊢;rw[Dk b e1];simp only[e2,beq_self_eq_true,QE,MZ];rfl
 |d+1,fuel+1,n,hd,hp=>by
  obtain⟨i,e1,e2⟩:=hp n (zk _) (by omega);have c:=R3 b a h d fuel (n+1) (by omega) λm h1 h2=>hp m (by omega) (by omega);have e:SetTable.probe.go t a h (fuel+1) (jc t.mask h n)=SetTable.probe.go t a h fuel (jc t.mask h (n+1)):=by
   conv=>lhs;unfold SetTable.probe.go
   rw[Dk b e1];simp only[beq_iff_eq,e2,ZU,MZ];rfl
  rw[e,show n+(d+1)=n+1+d by omega];exact c
theorem Vq:∀(xs ys:Y Nat),xs.Nodup->(∀x,x∈xs->x∈ys)->xs.length<=ys.length
 |[],_,_,_=>QU _
 |x::xs,ys,hn,hs=>by
  have a:=List.nodup_cons.mp hn;have c:=hs x (zh ..);have:=Vq xs (ys.erase x) a.2 λz b=>(k7 (λe:z=x=>a.1 (by rw[<-e];exact b))).mpr (hs z (zi _ b));have:=List.length_erase_of_mem c;have:0<ys.length:=List.length_pos_of_mem c;simp only[Z3];omega
def nx(M i:Nat):Nat:=(i*5+1)%M
def R4(M:Nat):Nat->Nat->Nat
 |0,i=>i
 |k+1,i=>R4 M k (nx M i)
theorem GX(M:Nat):∀(a b i:Nat),R4 M (a+b) i=R4 M b (R4 M a i)
 |0,b,i=>by rw[ye];rfl
 |a+1,b,i=>by rw[Nat.succ_add];exact GX M a b _
theorem SF:(∀r,r<8->∃k,k<8/\R4 8 k 0=r)/\R4 8 8 0=0:=by decide +kernel
theorem S0:(∀r,r<32->∃k,k<32/\R4 32 k 0=r)/\R4 32 32 0=0:=by decide +kernel
theorem P6:(∀r,r<128->∃k,k<128/\R4 128 k 0=r)/\R4 128 128 0=0:=by decide +kernel
theorem IM{M:Nat}(h:(∀r,r<M->∃k,k<M/\R4 M k 0=r)/\R4 M M 0=0){r:Nat}(hi:i<M)(c:r<M):∃k,k<M/\R4 M k i=r:=by
 obtain⟨a,d,rfl⟩:=h.1 i hi;obtain⟨b,hb,rfl⟩:=h.1 r c;by_cases q:a<=b
 ·exact⟨b-a,by omega,by rw[<-GX,show a+(b-a)=b by omega]⟩
 ·exact⟨M-a+b,by omega,by rw[<-GX,show a+(M-a+b)=M+b by omega,GX,h.2]⟩
theorem ZB(h:mask=7\/mask=31\/mask=127){r:Nat}(hi:i<mask+1)(a:r<mask+1):∃k,k<mask+1/\R4 (mask+1) k i=r:=by
 rcases h with rfl|rfl|rfl
 ·exact IM SF hi a
 ·exact IM S0 hi a
 ·exact IM P6 hi a
def lp(mask:Nat)(h:Int):Nat->Nat×Nat
 |0=>(SetTable.bits h%(mask+1),SetTable.bits h)
 |l+1=>SetTable.leap mask (lp mask h l).1 (lp mask h l).2
theorem Iv(mask i:Nat):i<=SetTable.runEnd mask i/\SetTable.runEnd mask i<=i+9:=by unfold SetTable.runEnd;split<;>omega
theorem Lu(h:i<=mask):SetTable.runEnd mask i<=mask:=by unfold SetTable.runEnd;split<;>omega
theorem Ax{mask:Nat}{h:Int}{s i p:Nat}(e:jc mask h s=ED mask i p):∀k,k<=SetTable.runEnd mask i-i->jc mask h (s+k)={ ED mask i p with j:=i+k,more:=SetTable.runEnd mask i-i-k }
 |0,_=>by rw[Nat.add_zero,e];rfl
 |k+1,hk=>by
  have a:=Ax e k (by omega);show KD mask (jc mask h (s+k))=_;rw[a];unfold KD;rw[zr (by dsimp only;omega)];rfl
theorem R5{h:Int}{s p:Nat}(e:jc mask h s=ED mask i p):jc mask h (s+(SetTable.runEnd mask i-i)+1)=ED mask (SetTable.leap mask i p).1 (SetTable.leap mask i p).2:=by
 show KD mask (jc mask h (s+(SetTable.runEnd mask i-i)))=_;rw[Ax e _ (zk _)];unfold KD;rw[zI (by dsimp only;omega)];rfl
theorem N0(mask:Nat)(h:Int):∀l,∃s,s<=10*l/\jc mask h s=ED mask (lp mask h l).1 (lp mask h l).2
 |0=>⟨0,by omega,rfl⟩
 |l+1=>by
  obtain⟨s,hs,e⟩:=N0 mask h l;have:=Iv mask (lp mask h l).1;exact⟨_,by omega,R5 e⟩
theorem YV(mask:Nat)(h:Int):∀l,(lp mask h l).1<mask+1
 |0=>Nat.mod_lt _ (Nat.succ_pos _)
 |l+1=>Nat.mod_lt _ (Nat.succ_pos _)
theorem R6(mask:Nat)(h:Int):∀l,(lp mask h l).2*32 ^ l<=SetTable.bits h
 |0=>by simp[lp]
 |l+1=>by
  have a:=R6 mask h l;show(lp mask h l).2 / 32*32 ^ (l+1)<=_;have h1:(lp mask h l).2 / 32*32<=(lp mask h l).2:=Nat.div_mul_le_self _ _;have h2:=Nat.mul_le_mul_right (32 ^ l) h1;rw[Nat.pow_succ,Nat.mul_comm (32 ^ l) 32,<-Nat.mul_assoc];exact ZI h2 a
theorem VQ(h:Int):SetTable.bits h<18446744073709551616:=by
 unfold SetTable.bits;have h1:h%18446744073709551616<18446744073709551616:=Int.emod_lt_of_pos _ (by decide);have h2:0<=h%18446744073709551616:=Int.emod_nonneg _ (by decide);show(h%18446744073709551616).toNat<_;omega
theorem Xe(mask:Nat)(h:Int):∀k,(lp mask h (12+k)).2<32
 |0=>by
  have h1:=R6 mask h 12;have h2:=VQ h;rw[show(32:Nat) ^ 12=1152921504606846976 from rfl]at h1;show(lp mask h 12).2<32;omega
 |k+1=>by
  have:=Xe mask h k;show(lp mask h (12+k)).2 / 32<32;omega
theorem XG(mask:Nat)(h:Int):∀k,(lp mask h (12+k)).1=R4 (mask+1) k (lp mask h 12).1:=by
 have step:∀k,(lp mask h (12+k+1)).1=nx (mask+1) (lp mask h (12+k)).1:=λk=>by
  have:=Xe mask h k;show((lp mask h (12+k)).1*5+1+(lp mask h (12+k)).2 / 32)%(mask+1)=_;rw[show(lp mask h (12+k)).2 / 32=0 by omega];rfl
 have b:∀k i,R4 (mask+1) k (nx (mask+1) i)=nx (mask+1) (R4 (mask+1) k i):=λk=>by
  induction k with
  |zero=>intro i;rfl
  |succ k a=>intro i;exact a _
 intro k
 induction k with
 |zero=>rfl
 |succ k a=>
  rw[show 12+(k+1)=12+k+1 by omega,step,a];exact(b k _).symm
theorem My(a:mask=7\/mask=31\/mask=127)(h:Int){r:Nat}(b:r<mask+1):∃l,l<mask+13/\(lp mask h l).1=r:=by
 obtain⟨k,c,e⟩:=ZB a (YV mask h 12) b;exact⟨12+k,by omega,by rw[XG,e]⟩
theorem RO(h:Tb t):∃r,r<t.mask+1/\r∉t.place:=by
 by_cases q:∃r,r<t.mask+1/\r∉t.place
 ·exact q
 ·exfalso;have:=Vq (List.range (t.mask+1)) t.place.toList y8 λx hx=>by
   rw[yi]at hx;by_cases a:x∈t.place
   ·exact Array.mem_toList_iff.mpr a
   ·exact absurd ⟨x,hx,a⟩ q
  rw[KI,qA]at this;have:=h.full;omega
theorem g5(a:Tb t)(h:Int):∃n,n<10*SetTable.turns t.mask/\(jc t.mask h n).j∉t.place:=by
 obtain⟨r,c,b⟩:=RO a;obtain⟨l,d,e⟩:=My a.mask h c;obtain⟨s,hs,e'⟩:=N0 t.mask h l;refine⟨s,by unfold SetTable.turns;omega,?_⟩;rw[e'];show(lp t.mask h l).1∉_;rw[e];exact b
theorem Vr(c:Tb t)(h:Int):∃n,n<10*SetTable.turns t.mask/\(jc t.mask h n).j∉t.place/\∀m,m<n->(jc t.mask h m).j∈t.place:=by
 obtain⟨n,g,f⟩:=g5 c h;have:∀k,(∃n,n<=k/\(jc t.mask h n).j∉t.place/\∀m,m<n->(jc t.mask h m).j∈t.place)\/∀m,m<=k->(jc t.mask h m).j∈t.place:=λk=>by
  induction k with
  |zero=>
   by_cases q:(jc t.mask h 0).j∈t.place
   ·exact .inr λm b=>by rw[show m=0 by omega];exact q
   ·exact .inl ⟨0,zk _,q,λm b=>absurd b (kL _)⟩
  |succ k a=>
   rcases a with⟨n,h1,h2⟩|a
   ·exact .inl ⟨n,by omega,h2⟩
   ·by_cases q:(jc t.mask h (k+1)).j∈t.place
    ·exact .inr λm b=>by
      by_cases e:m=k+1
      ·rw[e];exact q
      ·exact a m (by omega)
    ·exact .inl ⟨k+1,zk _,q,λm b=>a m (by omega)⟩
 rcases this n with⟨m,h1,h2,d⟩|q
 ·exact⟨m,by omega,h2,d⟩
 ·exact absurd (q n (zk _)) f
theorem gD(xs:Array α)(k:Nat)(a:α):xs.getD k a=xs[k]?.getD a:=by
 by_cases h:k<xs.size
 ·rw[qh h];simp[Array.getD,h]
 ·rw[KO (by omega)];simp[Array.getD,h]
structure Tok (t:SetTable) (es:Array (Int×Value)):Prop extends Tb t where
 size:t.place.size=es.size
 reach:∀(i j:Nat) e,t.place[i]?=some j->es[i]?=some e->∃n,n<10*SetTable.turns t.mask/\(jc t.mask e.1 n).j=j/\∀m,m<n->(jc t.mask e.1 m).j∈t.place
theorem Ay(xs:Array α)(p:Nat)(x:α):(SetTable.insertAt xs p x).toList=xs.toList.take p++x::xs.toList.drop p:=by
 unfold SetTable.insertAt;simp[Array.toList_extract,List.take_of_length_le]
theorem Gp{xs:Array α}{p:Nat}(hp:p<=xs.size)(x:α)(i:Nat):(SetTable.insertAt xs p x)[i]?=if i<p then xs[i]? else if i=p then O x else xs[i-1]?:=by
 rw[<-QI,Ay,List.getElem?_append];have a:(xs.toList.take p).length=p:=by rw[kf,qA];omega
 rw[a];by_cases h1:i<p
 ·rw[zr h1,zr h1,List.getElem?_take,zr h1,QI]
 ·rw[zI h1,zI h1];by_cases h2:i=p
  ·rw[zr h2,h2,Nat.sub_self];rfl
  ·rw[zI h2,show i-p=(i-p-1)+1 by omega,qa,List.getElem?_drop,QI,show p+(i-p-1)=i-1 by omega]
theorem wY(xs:Array α)(p:Nat)(x:α):(SetTable.insertAt xs p x).size=xs.size+1:=by
 rw[<-qA,Ay,zw,Z3,kf,kD,qA];omega
theorem Xf{xs:Array α}{p:Nat}{x y:α}:y∈SetTable.insertAt xs p x↔y∈xs\/y=x:=by
 rw[<-Array.mem_toList_iff,Ay,Q1,jI,<-Array.mem_toList_iff];constructor
 ·rintro(h|h|h)
  ·exact .inl (List.mem_of_mem_take h)
  ·exact .inr h
  ·exact .inl (List.mem_of_mem_drop h)
 ·rintro(h|h)
  ·rw[<-List.take_append_drop p xs.toList,Q1]at h;rcases h with h|h
   ·exact .inl h
   ·exact .inr (.inr h)
  ·exact .inr (.inl h)
theorem WA{xs:Array Nat}(c:Vp xs)(g:j∉xs):Vp (SetTable.insertAt xs (SetTable.below xs j) j):=by
 obtain⟨h1,h2,h⟩:=BU c j;intro a b f hb;rw[wY]at hb;have d:∀i,i<xs.size+1->(SetTable.insertAt xs (SetTable.below xs j) j).getD i 0=if i<SetTable.below xs j then xs.getD i 0 else if i=SetTable.below xs j then j else xs.getD (i-1) 0:=λi hi=>by
  rw[gD,Gp h1];by_cases q1:i<SetTable.below xs j
  ·rw[zr q1,zr q1,<-gD]
  ·rw[zI q1,zI q1];by_cases q2:i=SetTable.below xs j
   ·rw[zr q2,zr q2];rfl
   ·rw[zI q2,zI q2,<-gD]
 have gt:∀k,SetTable.below xs j<=k->k<xs.size->j<xs.getD k 0:=λk e hs=>by
  have q:=h k e hs;rcases Nat.lt_or_eq_of_le q with q|q
  ·exact q
  ·exact absurd (Array.mem_of_getElem? (XZ hs q.symm)) g
 rw[d a (by omega),d b hb];by_cases a1:a<SetTable.below xs j
 ·rw[zr a1];by_cases b1:b<SetTable.below xs j
  ·rw[zr b1];exact c a b f (by omega)
  ·rw[zI b1];have:=h2 a a1;by_cases b2:b=SetTable.below xs j
   ·rw[zr b2];exact this
   ·rw[zI b2];exact Nat.lt_trans this (gt _ (by omega) (by omega))
 ·rw[zI a1];by_cases a2:a=SetTable.below xs j
  ·rw[zr a2,zI (by omega),zI (by omega)];exact gt _ (by omega) (by omega)
  ·rw[zI a2,zI (by omega),zI (by omega)];exact c _ _ (by omega) (by omega)
theorem cq{es:Array (Int×A0)}(h:Tok t es){d:Int}{x:A0}(s:n<10*SetTable.turns t.mask)(w:(jc t.mask d n).j∉t.place)(hp:∀m,m<n->(jc t.mask d m).j∈t.place)(u:(jc t.mask d n).j<=t.mask)(hs:es.size+1<=t.mask):
  Tok (t.put (jc t.mask d n).j).1 (SetTable.insertAt es (t.put (jc t.mask d n).j).2 (d,x))/\(t.put (jc t.mask d n).j).1.led=t.led/\(t.put (jc t.mask d n).j).1.plain=t.plain/\(t.put (jc t.mask d n).j).1.mask=t.mask:=by
 have hd:=h.dum;have p:t.put (jc t.mask d n).j=({ t with place:=SetTable.insertAt t.place (SetTable.below t.place (jc t.mask d n).j) (jc t.mask d n).j,dummies:=#[] },SetTable.below t.place (jc t.mask d n).j):=by
  unfold SetTable.put;rw[hd];simp only[Xc,zv,ZU]
 rw[p];have l:=h.size;have hb:=(BU h.rise (jc t.mask d n).j).1;refine⟨{ mask:=h.mask,dum:=rfl,rise:=WA h.rise w,bd:=λj o=>?_,full:=?_,size:=?_,reach:=λi j e h1 h2=>?_ },rfl,rfl,rfl⟩
 ·rcases Xf.mp o with q|q
  ·exact h.bd j q
  ·rw[q];exact u
 ·show(SetTable.insertAt _ _ _).size<=t.mask;rw[wY];omega
 ·show(SetTable.insertAt _ _ _).size=_;rw[wY,wY,l]
 ·have h1:(SetTable.insertAt t.place (SetTable.below t.place (jc t.mask d n).j) (jc t.mask d n).j)[i]?=O j:=h1;rw[Gp hb]at h1;rw[Gp (by rw[<-l];exact hb)]at h2;have f:∀e':Int×A0,(∃n,n<10*SetTable.turns t.mask/\(jc t.mask e'.1 n).j=j/\∀m,m<n->(jc t.mask e'.1 m).j∈t.place)->∃g,g<10*SetTable.turns t.mask/\(jc t.mask e'.1 g).j=j/\∀m,m<g->(jc t.mask e'.1 m).j∈SetTable.insertAt t.place (SetTable.below t.place (jc t.mask d n).j) (jc t.mask d n).j:=
   λe' ⟨n,a,b,c⟩=>⟨n,a,b,λm v=>Xf.mpr (.inl (c m v))⟩
  by_cases q1:i<SetTable.below t.place (jc t.mask d n).j
  ·rw[zr q1]at h1 h2;exact f e (h.reach i j e h1 h2)
  ·rw[zI q1]at h1 h2;by_cases q2:i=SetTable.below t.place (jc t.mask d n).j
   ·rw[zr q2]at h1 h2;cases h1;cases h2;exact f (d,x) ⟨n,s,rfl,hp⟩
   ·rw[zI q2]at h1 h2;exact f e (h.reach (i-1) j e h1 h2)
theorem OG{mask:Nat}(h:Int):∀n,(jc mask h n).j+(jc mask h n).more<=mask
 |0=>by
  have h1:SetTable.bits h%(mask+1)<mask+1:=Nat.mod_lt _ (Nat.succ_pos _);have:=Lu (mask:=mask) (i:=SetTable.bits h%(mask+1)) (by omega);have:=Iv mask (SetTable.bits h%(mask+1));show SetTable.bits h%(mask+1)+(SetTable.runEnd mask (SetTable.bits h%(mask+1))-SetTable.bits h%(mask+1))<=mask;omega
 |n+1=>by
  have b:=OG (mask:=mask) h n;show(KD mask (jc mask h n)).j+(KD mask (jc mask h n)).more<=mask;unfold KD;split
  ·dsimp only;omega
  ·dsimp only;generalize a:(SetTable.leap mask (jc mask h n).i (jc mask h n).perturb).1=i;have h1:i<mask+1:=by rw[<-a];exact Nat.mod_lt _ (Nat.succ_pos _)
   have:=Lu (mask:=mask) (i:=i) (by omega);have:=Iv mask i;omega
theorem Vs(h:Int)(n:Nat):(jc mask h n).j<=mask:=by have:=OG (mask:=mask) h n;omega
def Vt(owner:Array (S Nat))(j:Nat):Prop:=(owner.getD j (O 0)).isNone=false
theorem M6{mask:Nat}{h:Int}{owner:Array (S Nat)}:∀(fuel l s j:Nat),jc mask h s=ED mask (lp mask h l).1 (lp mask h l).2->s<=10*l->(∀m,m<s->Vt owner (jc mask h m).j) →
  SetTable.layClean.free mask owner fuel (lp mask h l).1 (lp mask h l).2=O j->∃n,n<10*(l+fuel)/\(jc mask h n).j=j/\(owner.getD j (O 0)).isNone=true/\∀m,m<n->Vt owner (jc mask h m).j
 |0,l,s,j,_,_,_,e=>by unfold SetTable.layClean.free at e;cases e
 |fuel+1,l,s,j,hs,hl,ho,e=>by
  have i:=Iv mask (lp mask h l).1;unfold SetTable.layClean.free at e;cases c:(List.range (SetTable.runEnd mask (lp mask h l).1+1-(lp mask h l).1)).find? λk=>(owner.getD ((lp mask h l).1+k) (O 0)).isNone with
  |some k=>
   rw[c]at e;cases e;obtain⟨h1,h2,f⟩:=List.find?_range_eq_some.mp c;rw[yi]at h2;refine⟨s+k,by omega,?_,h1,λm g=>?_⟩
   ·rw[Ax hs k (by omega)]
   ·by_cases q:m<s
    ·exact ho m q
    ·have d:=f (m-s) (by omega);rw[show m=s+(m-s) by omega,Ax hs (m-s) (by omega)];simpa[Vt]using d
  |none=>
   rw[c]at e;have f:=List.find?_range_eq_none.mp c;obtain⟨n,a,b⟩:=M6 fuel (l+1) _ j (R5 hs) (by omega) (λm g=>by
    by_cases q:m<s
    ·exact ho m q
    ·have d:=f (m-s) (by omega);rw[show m=s+(m-s) by omega,Ax hs (m-s) (by omega)];simpa[Vt]using d) e
   exact⟨n,by omega,b⟩
theorem M7{mask:Nat}{h:Int}{owner:Array (S Nat)}:∀(fuel l:Nat),SetTable.layClean.free mask owner fuel (lp mask h l).1 (lp mask h l).2=Y3->∀l',l<=l'->l'<l+fuel->Vt owner (lp mask h l').1
 |0,l,_,l',h1,h2=>by omega
 |fuel+1,l,e,l',h1,h2=>by
  have d:=Iv mask (lp mask h l).1;unfold SetTable.layClean.free at e;cases a:(List.range (SetTable.runEnd mask (lp mask h l).1+1-(lp mask h l).1)).find? λk=>(owner.getD ((lp mask h l).1+k) (O 0)).isNone with
  |some k=>rw[a]at e;cases e
  |none=>
   rw[a]at e;have b:=List.find?_range_eq_none.mp a;by_cases q:l'=l
   ·subst q;have c:=b 0 (by omega);simpa[Vt]using c
   ·exact M7 fuel (l+1) e l' (by omega) (by omega)
structure Ow (mask:Nat) (hs:List Int) (owner:Array (Option Nat)):Prop where
 size:owner.size=mask+1
 lt:∀(j idx:Nat),owner[j]?=some (some idx)->idx<hs.length
 all:∀(idx:Nat) h,hs[idx]?=some h->∃j,owner[j]?=some (some idx)/\∃n,n<10*SetTable.turns mask/\(jc mask h n).j=j/\∀m,m<n->Vt owner (jc mask h m).j
 inj:∀(j j' idx:Nat),owner[j]?=some (some idx)->owner[j']?=some (some idx)->j=j'
theorem MR(o:Ow mask hs owner)(c:j<=mask):Vt owner j↔∃b,owner[j]?=O (O b):=by
 unfold Vt;have a:j<owner.size:=by rw[o.size];omega
 rw[gD,qh a];cases owner[j]with
 |none=>simp
 |some i=>simp
theorem Y7{f:Nat->Nat}:∀{xs:Y Nat},xs.Nodup->(∀x∈xs,∀y∈xs,f x=f y->x=y)->(xs.map f).Nodup:=λ{xs} hn hi=>
 List.pairwise_map.mpr (kz (λa hb b e=>b (hi _ a _ hb e)) hn)
theorem a8(o:Ow mask hs owner)(g:hs.length<=mask):∃r,r<mask+1/\¬ Vt owner r:=by
 by_cases q:∃r,r<mask+1/\¬ Vt owner r
 ·exact q
 ·exfalso;have all:∀r,r<mask+1->∃d,owner[r]?=O (O d):=λr a=>by
   by_cases c:Vt owner r
   ·exact(MR o (by omega)).mp c
   ·exact absurd ⟨r,a,c⟩ q
  have f:∀r,r<mask+1->owner[r]?=O (O ((owner[r]?.getD Y3).getD 0)):=λr a=>by
   obtain⟨d,e⟩:=all r a;rw[e];rfl
  have:=Vq ((List.range (mask+1)).map λr=>(owner[r]?.getD Y3).getD 0) (List.range hs.length) (Y7 y8 λx hx y b e=>by
   rw[yi]at hx b;have e1:=f x hx;have e2:=f y b;rw[e]at e1;exact o.inj x y _ e1 e2) λx hx=>by
    obtain⟨r,a,rfl⟩:=List.mem_map.mp hx;rw[yi]at a;exact List.mem_range.mpr (o.lt r _ (f r a))
  rw[zt,KI,KI]at this;omega
theorem fN(f:mask=7\/mask=31\/mask=127)(o:Ow mask hs owner)(u:hs.length<=mask)(h:Int):
  ∃j,SetTable.layClean.free mask owner (SetTable.turns mask) (SetTable.bits h%(mask+1)) (SetTable.bits h)=O j/\Ow mask (hs++[h]) (owner.setIfInBounds j (O hs.length)):=by
 obtain⟨r,z,x⟩:=a8 o u;cases s:SetTable.layClean.free mask owner (SetTable.turns mask) (SetTable.bits h%(mask+1)) (SetTable.bits h)with
 |none=>
  obtain⟨l,B,e⟩:=My f h z;have:=M7 (h:=h) (owner:=owner) (SetTable.turns mask) 0 s l (QU _) (by unfold SetTable.turns;omega);rw[e]at this;exact absurd this x
 |some j=>
  obtain⟨n,h1,h2,p,w⟩:=M6 (h:=h) (owner:=owner) (SetTable.turns mask) 0 0 j Y2 (zk _) (λm f=>absurd f (kL _)) s;rw[ye]at h1;have A:j<=mask:=by rw[<-h2];exact Vs h n
  have t:j<owner.size:=by rw[o.size];omega
  have get:∀k:Nat,(owner.setIfInBounds j (O hs.length))[k]?=if k=j then O (O hs.length)else owner[k]?:=λk=>by
   rw[Array.getElem?_setIfInBounds];by_cases q:k=j
   ·rw[zr q,zr q.symm,zr t]
   ·rw[zI q,zI (λe=>q e.symm)]
  have old:∀k d:Nat,owner[k]?=O (O d)->k≠j:=λk d e q=>by
   subst q;rw[gD,e]at p;cases p
  have i:∀k,Vt owner k->Vt (owner.setIfInBounds j (O hs.length)) k:=λk q=>by
   unfold Vt at q ⊢;rw[gD]at q ⊢;rw[get];by_cases e:k=j
   ·rw[zr e];rfl
   ·rw[zI e];exact q
  refine⟨j,rfl,⟨by rw[Array.size_setIfInBounds];exact o.size,λk d e=>?_,λd g e=>?_,λa b d e1 e2=>?_⟩⟩
  ·rw[get]at e;rw[zw];by_cases q:k=j
   ·rw[zr q]at e;cases e;simp
   ·rw[zI q]at e;have:=o.lt k d e;simp;omega
  ·by_cases q:d<hs.length
   ·rw[ZY q]at e;obtain⟨k,e1,y,a,b,c⟩:=o.all d g e;exact⟨k,by rw[get,zI (old k d e1)];exact e1,y,a,b,λm f=>i _ (c m f)⟩
   ·rw[QA (by omega)]at e;have:d-hs.length=0:=by
     by_cases v:d-hs.length=0
     ·exact v
     ·rw[qr (by simp;omega)]at e;cases e
    rw[this]at e;cases e;have:d=hs.length:=by omega
    subst this;exact⟨j,by rw[get,zr rfl],n,h1,h2,λm f=>i _ (w m f)⟩
  ·rw[get]at e1 e2;by_cases q1:a=j
   ·by_cases q2:b=j
    ·rw[q1,q2]
    ·rw[zr q1]at e1;rw[zI q2]at e2;cases e1;have:=o.lt b _ e2;omega
   ·by_cases q2:b=j
    ·rw[zI q1]at e1;rw[zr q2]at e2;cases e2;have:=o.lt a _ e1;omega
    ·rw[zI q1]at e1;rw[zI q2]at e2;exact o.inj a b d e1 e2
theorem aE(mask:Nat):Ow mask [] (Array.replicate (mask+1) Y3):=by
 have no:∀(j a:Nat),(Array.replicate (mask+1) (Y3:S Nat))[j]?≠O (O a):=λj a e=>by
  rw[Array.getElem?_replicate]at e;split at e<;>cases e
 exact⟨Array.size_replicate,λj a e=>absurd e (no j a),λa h e=>by simp at e,λj b a e=>absurd e (no j a)⟩
theorem VM(i:mask=7\/mask=31\/mask=127)(hs:Y Int)(a:hs.length<=mask):∃owner,SetTable.layClean mask hs.toArray=O owner/\Ow mask hs owner:=by
 have d:∀(ys xs:Y Int) (owner:Array (S Nat)),Ow mask xs owner->xs.length+ys.length<=mask->∃b,ys.foldl (λ(g:S (Array (S Nat)×Nat)) h=>do
   let (owner,k) <-g
   let j <-SetTable.layClean.free mask owner (SetTable.turns mask) (SetTable.bits h%(mask+1)) (SetTable.bits h)
   pure (owner.setIfInBounds j (O k),k+1)) (O (owner,xs.length))=O (b,xs.length+ys.length)/\Ow mask (xs++ys) b:=by
  intro ys
  induction ys with
  |nil=>intro xs owner o _;exact⟨owner,rfl,by rw[qv];exact o⟩
  |cons y ys f=>
   intro xs owner o a;rw[Z3]at a;obtain⟨j,e,o'⟩:=fN i o (by omega) y;obtain⟨ow,e2,c⟩:=f (xs++[y]) _ o' (by simp;omega);refine⟨ow,?_,by rw[qq]at c;exact c⟩;rw[qS];simp only[Option.bind_eq_bind,Option.bind_some,e,pure];rw[show(xs++[y]).length=xs.length+1 by simp]at e2;rw[Z3,show xs.length+(ys.length+1)=xs.length+1+ys.length by omega];exact e2
 obtain⟨ow,e,o⟩:=d hs [] _ (aE mask) (by simpa using a);refine⟨ow,?_,by simpa using o⟩;unfold SetTable.layClean;rw[List.foldl_toArray];exact congrArg (Option.map (·.1)) e
theorem OJ{α β:Type}{f:α->S β}{g:α->β}:∀{xs:Y α},(∀x∈xs,f x=O (g x))->xs.filterMap f=xs.map g
 |[],_=>rfl
 |x::xs,h=>by
  rw[Ki,h x (zh ..),zo,OJ λy a=>h y (zi _ a)]
theorem g9{xs:Y Nat}(h:xs.Pairwise (· < ·)):Vp xs.toArray:=by
 intro i j c b;have a:j<xs.length:=by simpa using b
 rw[gD,gD,List.getElem?_toArray,List.getElem?_toArray,z5 a,z5 (by omega)];exact List.pairwise_iff_getElem.mp h i j (by omega) a c
theorem Y8{es:Array (Int×A0)}{wanted:Nat}(C:SetTable.sizeAbove wanted-1=7\/SetTable.sizeAbove wanted-1=31\/SetTable.sizeAbove wanted-1=127)(G:es.size<=SetTable.sizeAbove wanted-1):
  ∃t' A,t.relaid (es.map (·.1)) wanted=O (t',A)/\(A.filterMap (es[·]?)).toList.Perm es.toList/\Tok t' (A.filterMap (es[·]?))/\t'.led=t.led/\t'.plain=t.plain/\t'.mask=SetTable.sizeAbove wanted-1:=by
 generalize I:SetTable.sizeAbove wanted-1=mask at C G ⊢;have hs:(es.toList.map (·.1)).length=es.size:=by simp
 obtain⟨ow,e,o⟩:=VM C (es.toList.map (·.1)) (by omega);have ea:es.map (·.1)=(es.toList.map (·.1)).toArray:=by
  apply Array.ext';simp
 let L:Y (Nat×Nat):=(List.range (mask+1)).filterMap λj=>(ow.getD j Y3).map λk=>(j,k)
 have d:∀j k,(j,k)∈L↔ow[j]?=O (O k):=λj k=>by
  show(j,k)∈List.filterMap _ _↔_;rw[List.mem_filterMap];constructor
  ·rintro⟨a,f,q⟩;rw[gD]at q;cases h1:ow[a]? with
   |none=>rw[h1]at q;cases q
   |some x=>
    rw[h1]at q;cases x with
    |none=>cases q
    |some y=>cases q;exact h1
  ·intro q;refine⟨j,List.mem_range.mpr ?_,?_⟩
   ·by_cases h:j<ow.size
    ·rw[<-o.size];exact h
    ·rw[KO (by omega)]at q;cases q
   ·rw[gD,q];rfl
 have E:L.Pairwise λa b=>a.1<b.1:=by
  refine List.pairwise_filterMap.mpr (List.pairwise_lt_range.imp λ{a b} hab x hx y hy=>?_);cases h1:ow.getD a Y3 with
  |none=>rw[h1]at hx;cases hx
  |some u=>
   cases h2:ow.getD b Y3 with
   |none=>rw[h2]at hy;cases hy
   |some v=>rw[h1]at hx;rw[h2]at hy;cases hx;cases hy;exact hab
 have K:(L.map (·.2)).Nodup:=by
  refine List.pairwise_map.mpr (kz (λ{a b} f hb hab e=>?_) E);have h1:=(d a.1 a.2).mp f;have h2:=(d b.1 b.2).mp hb;rw[e]at h1;have:=o.inj _ _ _ h1 h2;omega
 have s:(L.map (·.2)).Perm (List.range es.size):=GR K y8 λz=>by
  rw[KF,yi];constructor
  ·rintro⟨a,f,rfl⟩;have:=o.lt _ _ ((d a.1 a.2).mp f);omega
  ·intro M;obtain⟨j,h1,_⟩:=o.all z ((es.toList.map (·.1))[z]'(by omega)) (z5 (by omega));exact⟨(j,z),(d j z).mpr h1,rfl⟩
 let g:Nat->Int×A0:=λk=>es.getD k (0,.none)
 have w:∀k,k<es.size->es[k]?=O (g k):=λk l=>by
  show _=O (es.getD k _);rw[gD,qh l];rfl
 have D:(L.map (·.2)).filterMap (λk=>es[k]?)=(L.map (·.2)).map g:=OJ λk l=>w k (List.mem_range.mp (s.mem_iff.mp l));have eL:((L.map (·.2)).toArray.filterMap (λk=>es[k]?)).toList=L.map λp=>g p.2:=by
  rw[Array.toList_filterMap,D,QO];rfl
 refine⟨{ mask:=mask,place:=(L.map (·.1)).toArray,dummies:=#[],finger:=t.finger,led:=t.led,moves:=t.movedTo mask,plain:=t.plain },(L.map (·.2)).toArray,?_,?_,?_,rfl,rfl,rfl⟩
 ·unfold SetTable.relaid SetTable.laid;rw[I,ea,e];rfl
 ·rw[Array.toList_filterMap,D];refine(s.map g).trans ?_;have:(List.range es.size).map g=es.toList:=by
   apply List.ext_getElem?;intro i;rw[ZE];by_cases h:i<es.size
   ·rw[kB h,QI,w i h];rfl
   ·rw[qr (by simp;omega),qr (by simp;omega)];rfl
  rw[this]
 ·have sz:L.length=es.size:=by
   have:=s.length_eq;rw[zt,KI]at this;exact this
  refine { mask:=C,dum:=rfl,rise:=g9 (List.pairwise_map.mpr E),bd:=λj B=>?_,full:=?_,size:=?_,reach:=λi j x h1 h2=>?_ }
  ·have B:j∈L.map (·.1):=by simpa using B
   obtain⟨a,f,rfl⟩:=List.mem_map.mp B;have q:=(d a.1 a.2).mp f;have:a.1<ow.size:=by
    by_cases h:a.1<ow.size
    ·exact h
    ·rw[KO (by omega)]at q;cases q
   have:=o.size;show a.1<=mask;omega
  ·show(L.map (·.1)).toArray.size<=mask;simp only[zS,zt];omega
  ·rw[<-qA (xs:=Array.filterMap _ _),eL];simp
  ·have h1:(L.map (·.1)).toArray[i]?=O j:=h1;rw[List.getElem?_toArray,ZE]at h1;rw[<-QI,eL,ZE]at h2;cases hi:L[i]? with
   |none=>rw[hi]at h1;cases h1
   |some p=>
    rw[hi]at h1 h2;cases h1;cases h2;have hp:(p.1,p.2)∈L:=QR hi;have q:=(d p.1 p.2).mp hp;have l:p.2<es.size:=List.mem_range.mp (s.mem_iff.mp (List.mem_map.mpr ⟨p,hp,rfl⟩));have J:(es.toList.map (·.1))[p.2]?=O (g p.2).1:=by
     rw[ZE,QI,w _ l];rfl
    obtain⟨F,q1,n,a,b,c⟩:=o.all _ _ J;have:F=p.1:=o.inj _ _ _ q1 q;subst this;refine⟨n,a,b,λm H=>?_⟩;obtain⟨k,q2⟩:=(MR o (Vs _ _)).mp (c m H);show _∈(L.map (·.1)).toArray;rw[List.mem_toArray];exact List.mem_map.mpr ⟨(_,k),(d _ _).mpr q2,rfl⟩
end S6
namespace S6
open P1 L2
abbrev cR(prog:A3)(w:A4)(ks:Y AY):Int:=tupleKeyHash (bF prog w) ks
def TE(prog:A3)(w:A4)(h:A6)(z:Y AY×A1)(e:Int×A0):Prop:=e=(cR prog w z.1,.ref z.2)/\IsTupleKey (bF prog w) h z.1 z.2
structure GA (prog:Program) (w:World) (h:Heap) (zs:List (List AY×Addr)) (es:Array (Int×Value)) (t:SetTable):Prop where
 rel:Paired (TE prog w h) zs es.toList
 nd:(zs.map (·.1)).Nodup
 tok:Tok t es
 load:es.size*5<t.mask*3
 led:w.params.followText "set-order"=false->t.led=true
 non:0<es.size->t.plain=false
def Tu(prog:A3)(w:A4)(h:A6)(a:A1)(zs:Y (Y AY×A1)):Prop:=∃o es ep t,h.get? a=O o/\o.ExactSet/\o.data=.set es ep t/\GA prog w h zs es t
theorem Xg{h':A6}{b:A1}(x:IsTupleKey (bF prog w) h ks b)(k:∀o,h.get? b=O o->o.cls=.type "tuple" → h'.get? b=O o):IsTupleKey (bF prog w) h' ks b:=
 let ⟨o,AQ,n,e,c,r⟩:=x;⟨o,AQ,n,k o e c,c,r⟩
theorem R7{h':A6}{l:Y (Int×A0)}(k:∀b o,h.get? b=O o->o.cls=.type "tuple" → h'.get? b=O o)(r:AI (TE prog w h) zs l):AI (TE prog w h') zs l:=by
 induction r with
 |nil=>exact .nil
 |cons q _ a=>exact .cons ⟨q.1,Xg q.2 λo e c=>k _ o e c⟩ a
theorem GA.size{es:Array (Int×A0)}(x:GA prog w h zs es t):es.size=zs.length:=by rw[x.rel.length];simp
theorem Tok.fits{t:SetTable}{es:Array (Int×A0)}(h:Tok t es):t.fits es.size=true:=by
 unfold SetTable.fits SetTable.fill;have h1:=h.full;have h2:=h.size;rw[h.dum];simp[h2];omega
theorem Tok.odd{es:Array (Int×A0)}(h:Tok t es):t.gaveWay=false:=by
 unfold SetTable.gaveWay;rcases h.mask with e|e|e<;>rw[e]<;>rfl
theorem M8{d:Nat}{b:A1}{Q:Bool->A2->Prop}(e:IsTupleKey (bF prog w) s.heap ks b)(h:Q false s):A7 (A8 prog w) A (ofAClassStatement (d+1) (.ref b)) Q E s:=by
 have i:=e.typeIs;obtain⟨o,items,n,l,_,hd,hi⟩:=e;unfold ofAClassStatement;refine zd (Q3 i ?_);dsimp only;refine zd (zg ?_);simp only[kU,zv,ZU];refine zd (wpAny_seqItems l hd ?_);dsimp only;refine zd ?_;rw[<-Array.forIn_toList];refine wpAny_forIn_list _ (λAS r s'=>r.1=Y3/\s'=s/\∀v∈AS,carriedByValue v=true) _ ?_ ?_ _ _ ⟨rfl,rfl,hi.byValue⟩
 ·rintro v AS r s' ⟨c,rfl,f⟩;have j:ofAClassStatement d v=pure false:=by
   have:=f v zh;cases v with
   |ref a=>simp[carriedByValue]at this
   |_=>unfold ofAClassStatement;rfl
  rw[j];refine zd (zg ?_);simp only[zv,ZU];exact zg ⟨rfl,rfl,λu g=>f u (zi _ g)⟩
 ·rintro⟨m,p⟩ s' ⟨c,rfl,_⟩;simp only at c;subst c;exact zg h
theorem SG{b:A1}{Q:Bool->A2->Prop}(e:IsTupleKey (bF prog w) s.heap ks b)(vs:Y A0)(j:∀v∈vs,∃c a,v=.ref c/\IsTupleKey (bF prog w) s.heap a c)(h:Q false s):A7 (A8 prog w) A (searchCouldBeSeen (.ref b) vs) Q E s:=by
 unfold searchCouldBeSeen;refine zd ?_;refine wpAny_forIn_list _ (λAS r s'=>r.1=Y3/\s'=s/\∀v∈AS,∃c a,v=.ref c/\IsTupleKey (bF prog w) s.heap a c) _ ?_ ?_ _ _ ⟨rfl,rfl,j⟩
 ·rintro v AS r s' ⟨d,rfl,i⟩;obtain⟨c,a,rfl,g⟩:=i v zh;have f:∀v∈AS,∃c a,v=.ref c/\IsTupleKey (bF prog w) s'.heap a c:=λu l=>i u (zi _ l);dsimp only;split
  ·exact zg ⟨rfl,rfl,f⟩
  ·refine zd (wpAny_eqIsQuiet_tuple e ?_);simp only[kU,zv,ZU];refine zd (wpAny_eqIsQuiet_tuple g ?_);simp only[kU,zv,ZU];refine zd (M8 e ?_);simp only[zv,ZU];refine zd (M8 g ?_);simp only[zv,ZU];exact zg ⟨rfl,rfl,f⟩
 ·rintro⟨m,n⟩ s' ⟨d,rfl,_⟩;simp only at d;subst d;exact zg h
theorem Pj{h:A6}:∀{zs:Y (Y AY×A1)} {l:Y (Int×A0)},AI (TE prog w h) zs l->∀{i:Nat} {e},l[i]?=O e->∃z,zs[i]?=O z/\TE prog w h z e
 |_,_,.nil,i,e,q=>by simp at q
 |_,_,.cons r _,0,e,q=>by simp at q;subst q;exact⟨_,rfl,r⟩
 |_,_,.cons _ t,i+1,e,q=>by
  rw[qa]at q;obtain⟨z,z1,z2⟩:=Pj t q;exact⟨z,by rw[qa];exact z1,z2⟩
theorem Az{h:A6}:∀{zs:Y (Y AY×A1)} {l:Y (Int×A0)},AI (TE prog w h) zs l->∀{i:Nat} {z},zs[i]?=O z->∃e,l[i]?=O e/\TE prog w h z e
 |_,_,.nil,i,e,q=>by simp at q
 |_,_,.cons r _,0,e,q=>by simp at q;subst q;exact⟨_,rfl,r⟩
 |_,_,.cons _ t,i+1,e,q=>by
  rw[qa]at q;obtain⟨z,z1,z2⟩:=Az t q;exact⟨z,by rw[qa];exact z1,z2⟩
theorem DH(p:Nat->Prop):∀(k n:Nat),p (n+k)->∃d,d<=k/\p (n+d)/\∀m,n<=m->m<n+d->¬ p m
 |0,n,h=>⟨0,zk _,h,λm h1 h2=>absurd h2 (by omega)⟩
 |k+1,n,h=>by
  by_cases q:p n
  ·exact⟨0,QU _,q,λm h1 h2=>absurd h2 (by omega)⟩
  ·obtain⟨d,h1,h2,c⟩:=DH p k (n+1) (by rw[show n+1+k=n+(k+1) by omega];exact h);refine⟨d+1,by omega,by rw[show n+(d+1)=n+1+d by omega];exact h2,λm a b=>?_⟩;by_cases e:m=n
   ·rw[e];exact q
   ·exact c m (by omega) (by omega)
theorem E6{o:AE}{es:Array (Int×A0)}{b:A1}(hu:A.units<cLine)(P:s.heap.get? a=O o)(hd:o.data=.set es ep t)(x:GA prog w s.heap zs es t)(M:IsTupleKey (bF prog w) s.heap ks b){N:Nat}(hN:N<10*SetTable.turns t.mask)(g:(jc t.mask (cR prog w ks) N).j∉t.place)(hp:∀m,m<N->(jc t.mask (cR prog w ks) m).j∈t.place){Q:SetFound->A2->Prop}(h1:ks∈zs.map (·.1)->Q (.there Y3) s)(h2:ks∉zs.map (·.1)->Q (.free (jc t.mask (cR prog w ks) N).j false) s):
  ∀(k n fuel:Nat) (D:S SetTable.Probe),n+k=N->k<fuel->D.getD (t.probeStart (cR prog w ks))=jc t.mask (cR prog w ks) n->(∀m,m<n->∀i:Nat,t.place[i]?=O (jc t.mask (cR prog w ks) m).j->∀z:Y AY×A1,zs[i]?=O z->z.1≠ks) →
   A7 (A8 prog w) A (setSearchFrom a (.ref b) (cR prog w ks) true fuel D) Q E s:=by
 have get:∀{i:Nat} {e},es[i]?=O e->∃z,zs[i]?=O z/\TE prog w s.heap z e:=λ{i e} q=>Pj x.rel (by rw[QI];exact q);have W:=x.tok.fits;intro k
 induction k using Nat.strongRecOn with
 |ind k ih=>
  intro n fuel D hn a3 a0 hb;cases fuel with
  |zero=>omega
  |succ fuel=>
  unfold setSearchFrom;refine zd (ja P hd W ?_);dsimp only;rw[zI (by rw[x.tok.odd];decide)];refine zd (zg ?_);rw[a0];obtain⟨d,d1,d2,G⟩:=DH (λm=>m=N\/∃i:Nat,t.place[i]?=O (jc t.mask (cR prog w ks) m).j/\∃e:Int×A0,es[i]?=O e/\e.1=cR prog w ks) k n (.inl hn);have live:∀m,m<N->∃i:Nat,t.place[i]?=O (jc t.mask (cR prog w ks) m).j/\∃e,es[i]?=O e:=λm l=>by
   obtain⟨i,hi,e⟩:=Array.getElem_of_mem (hp m l);have f:i<es.size:=by rw[<-x.tok.size];exact hi
   exact⟨i,by rw[qh hi,e],es[i],qh f⟩
  have pr:=R3 x.tok.toTb (λi=>(es[i]?.map (·.1)).getD 0) (cR prog w ks) d (10*SetTable.turns t.mask) n (by omega) λm a1 a2=>by
   have q:=G m a1 a2;obtain⟨i,e1,e,e2⟩:=live m (by omega);refine⟨i,e1,λq'=>q (.inr ⟨i,e1,e,e2,?_⟩)⟩;simpa[e2]using q'
  have L:t.probe (λi=>(es[i]?.map (·.1)).getD 0) (cR prog w ks) (jc t.mask (cR prog w ks) n)=SetTable.probe.go t (λi=>(es[i]?.map (·.1)).getD 0) (cR prog w ks) (10*SetTable.turns t.mask) (jc t.mask (cR prog w ks) n):=rfl;by_cases C:n+d=N
  ·have p1:=pr.1 (by rw[C];exact g);rw[C]at p1;show A7 _ _ (match t.probe (λi=>(es[i]?.map (·.1)).getD 0) (cR prog w ks) (jc t.mask (cR prog w ks) n)with|some met=>_|_=>_) _ _ _;rw[L,p1];dsimp only;refine zg (h2 λl=>?_);obtain⟨z,hz,H⟩:=List.mem_map.mp l;obtain⟨i,hi,e⟩:=JA hz;obtain⟨p,e1,e2⟩:=Az x.rel (show zs[i]?=O z by rw[z5 hi,e]);rw[QI]at e1;have f:i<t.place.size:=by rw[x.tok.size,x.size];exact hi
   obtain⟨h,b1,b2,K⟩:=x.tok.reach i _ p (qh f) e1;rw[e2.1,H]at b2 K;have lt:h<N:=by
    rcases Nat.lt_trichotomy h N with q|q|q
    ·exact q
    ·exfalso;rw[<-q]at g;rw[b2]at g;exact g (Array.getElem_mem f)
    ·exact absurd (K N q) g
   by_cases q:h<n
   ·exact hb h q i (by rw[b2];exact qh f) z (by rw[z5 hi,e]) H
   ·exact G h (by omega) (by omega) (.inr ⟨i,by rw[b2];exact qh f,p,e1,by rw[e2.1,H]⟩)
  ·rcases d2 with q|⟨i,i1,e,i2,i3⟩
   ·exact absurd q C
   ·have p2:=pr.2 i i1 (by simpa[i2]using i3);show A7 _ _ (match t.probe (λi=>(es[i]?.map (·.1)).getD 0) (cR prog w ks) (jc t.mask (cR prog w ks) n)with|some met=>_|_=>_) _ _ _;rw[L,p2];dsimp only;obtain⟨z,z1,z2⟩:=get i2;have I:∀v∈((es.filter (·.1==cR prog w ks)).toList.map (·.2)),∃c ls,v=.ref c/\IsTupleKey (bF prog w) s.heap ls c:=λv I=>by
     obtain⟨u,J,rfl⟩:=List.mem_map.mp I;rw[Array.toList_filter,kN]at J;obtain⟨jj,hj,Z⟩:=JA J.1;obtain⟨y,y1,y2⟩:=Pj x.rel (show es.toList[jj]?=O u by rw[z5 hj,Z]);exact⟨y.2,y.1,by rw[y2.1],y2.2⟩
    have U:A7 (A8 prog w) A (do
      let O (_,y):=es[i]?|unsupported "internal:set-entry"
      let equal <-holding [y] (eqBool y (.ref b))
      let (es',_,t') <-setState a
      if(true&&equal)=true then return SetFound.there Y3
      let O same:=t'.sameMemory t.moves t.mask|unsupported "set.changed-during-lookup:is-the-new-block-at-the-old-address"
      let still <-match (if same then t'.slot (jc t.mask (cR prog w ks) (n+d)).j else .empty)with
       |.live i'=>match es'[i']? with
        |some (_,y')=>do pure (if <-isSame y' y then O i' else Y3)
        |none=>pure Y3
       |_=>pure Y3
      match still with
      |none=>rule "set.search.anew"; setSearchFrom a (.ref b) (cR prog w ks) true fuel Y3
      |some i'=>if equal then return .there (O i')else setSearchFrom a (.ref b) (cR prog w ks) true fuel (O (jc t.mask (cR prog w ks) (n+d+1)))) Q E s:=by
     rw[i2,z2.1];dsimp only;refine zd (QQ (wpAny_eqBool_tuple hu z2.2 M ?_));refine zd (ja P hd W ?_);dsimp only;by_cases B:z.1=ks
     ·rw[ZH B];simp only[Bool.and_self,QE];exact zg (h1 (List.mem_map.mpr ⟨z,QR z1,B⟩))
     ·rw[ZN B];simp only[yk,zv,ZU];have X:t.sameMemory t.moves t.mask=O true:=by unfold SetTable.sameMemory;simp
      rw[X];dsimp only;simp only[QE];rw[Dk x.tok.toTb i1];dsimp only;rw[i2,z2.1];dsimp only;refine zd (wpAny_isSame_ref_self (zd (zg ?_)));simp only[QE];refine ih (N-(n+d+1)) (by omega) (n+d+1) fuel _ (by omega) (by omega) Y2 λm l i' F y y1=>?_;by_cases c1:m<n
      ·exact hb m c1 i' F y y1
      ·by_cases c2:m=n+d
       ·subst c2;have:i'=i:=by
         have s1:=Iu x.tok.rise F;have s2:=Iu x.tok.rise i1;omega
        subst this;rw[z1]at y1;cases y1;exact B
       ·have q:=G m (by omega) (by omega);intro e';obtain⟨p,e1,e2⟩:=Az x.rel y1;rw[QI]at e1;exact q (.inr ⟨i',F,p,e1,by rw[e2.1,e']⟩)
    split
    ·refine zd (SG M _ I ?_);simp only[zv,ZU];exact U
    ·exact U
def EH(ks:Y AY):Prop:=∃x:AJ,(Sum.inr x:AY)∈ks
theorem gI{b:A1}{Q:Bool->A2->Prop}(c:IsTupleKey (bF prog w) s.heap ks b)(hx:EH ks)(h:Q false s):A7 (A8 prog w) A (hashByValue 8 (.ref b)) Q E s:=by
 have f:=c.typeIs;obtain⟨o,items,n,l,_,hd,hi⟩:=c;unfold hashByValue;refine zd (wpAny_specialOf f F.slot_tuple_hash.lookup ?_);dsimp only;refine zd (wpAny_seqItems l hd ?_);show A7 _ _ (forIn items _ _ >>= _) _ _ s;refine zd ?_;rw[<-Array.forIn_toList];refine wpAny_forIn_list _ (λAS r s'=>r.1=Y3/\s'=s/\∃left,ItemsAre (bF prog w) left AS/\EH left) _ ?_ ?_ _ _ ⟨rfl,rfl,ks,hi,hx⟩
 ·rintro v AS r s' ⟨g,rfl,left,a,x,hx⟩;cases a with
  |@cons k _ d _ h1 j=>
   rcases bU h1 with⟨i,t,rfl,rfl⟩|⟨y,t,rfl,rfl⟩
   ·have e:hashByValue 7 (.int i t)=pure true:=by unfold hashByValue;rfl
    rw[e];refine zd (zg ?_);simp only[kU,zv,ZU];refine zg ⟨rfl,rfl,d,j,x,?_⟩;rcases List.mem_cons.mp hx with q|q
    ·cases q
    ·exact q
   ·have e:hashByValue 7 (.str y t)=pure false:=by unfold hashByValue;rfl
    rw[e];refine zd (zg ?_);simp only[k6,QE];exact zg (zg h)
 ·rintro⟨m,p⟩ s' ⟨g,rfl,left,a,x,hx⟩;cases a;cases hx
theorem Y9{es:Array (Int×A0)}(h:Tok t es):Tok { t with plain:=false } es:={ mask:=h.mask,dum:=h.dum,rise:=h.rise,bd:=h.bd,full:=h.full,size:=h.size,reach:=h.reach }
theorem Rl{b:A1}{Q:Bool->A2->Prop}(hu:A.units<cLine)(hS:Tu prog w s.heap a zs)(U:IsTupleKey (bF prog w) s.heap ks b)(hx:EH ks)(d2:zs.length+1<=70)(h:∀r h' M,Heap.SameBut a s.heap h'->Tu prog w h' a M->(∀z,z∈M↔z∈zs\/(z=(ks,b)/\ks∉zs.map (·.1)))->M.length<=zs.length+1->Q r { s with heap:=h' }):A7 (A8 prog w) A (setAddHashed a (.ref b) (cR prog w ks)) Q E s:=by
 obtain⟨o,es,ep,t,y,J,hd,x⟩:=id hS;have d1:=x.size;have b0:=x.tok.fits;have a0:=x.load;have c8:o.cls≠.type "tuple":=by rw[J.1];decide
 obtain⟨N,n,Z,n3⟩:=Vr x.tok.toTb (cR prog w ks);have d3:10*SetTable.turns t.mask<100000:=by
  unfold SetTable.turns;rcases x.tok.mask with e|e|e<;>rw[e]<;>decide
 unfold setAddHashed setAddHashedIn;refine QQ (zd (ja y hd b0 ?_));dsimp only;have hb:byScan (.ref b) es=false:=by unfold byScan;rfl
 rw[hb];simp only[zv,ZU];unfold setSearch;refine zd (E6 hu y hd x U n Z n3 (λl=>?_) (λl=>?_) N 0 100000 Y3 (by omega) (by omega) Y2 λm l=>absurd l (kL _))
 ·dsimp only;exact zg (h _ s.heap zs (Heap.SameBut.refl a s.heap) hS (λz=>⟨.inl,λq=>q.elim id λq=>absurd l q.2⟩) (k5 _))
 ·dsimp only;refine zd (ja y hd b0 ?_);dsimp only;have hj:=Vs (mask:=t.mask) (cR prog w ks) N;have c3:es.size+1<=t.mask:=by rcases x.tok.mask with e|e|e<;>rw[e]at a0 ⊢<;>omega
  obtain⟨pt,pl,pp,W⟩:=cq (x:=.ref b) x.tok n Z n3 hj c3;generalize hP:t.put (jc t.mask (cR prog w ks) N).j=P at pt pl pp W ⊢;obtain⟨t1,p⟩:=P;dsimp only at pt pl pp W ⊢;have b9:(SetTable.insertAt es p (cR prog w ks,.ref b)).toList.Perm (es.toList++[(cR prog w ks,.ref b)]):=by
   rw[Ay];refine(List.perm_middle).trans ?_;rw[List.take_append_drop];exact(List.perm_append_singleton _ _).symm
  have r0:AI (TE prog w s.heap) (zs++[(ks,b)]) (es.toList++[(cR prog w ks,.ref b)]):=Vn x.rel (.cons ⟨rfl,U⟩ .nil);obtain⟨I,q1,r1⟩:=Eh b9 r0;have a1:(I.map (·.1)).Nodup:=(q1.map (·.1)).nodup_iff.mpr (by
   rw[qc];exact List.nodup_append.mpr ⟨x.nd,by simp,λu c0 v hv=>by simp at hv;subst hv;exact λe=>l (e▸c0)⟩)
  have m1:∀z,z∈I↔z∈zs\/(z=(ks,b)/\ks∉zs.map (·.1)):=λz=>by
   rw[q1.mem_iff,Q1,List.mem_singleton];exact⟨λq=>q.imp id λe=>⟨e,l⟩,λq=>q.imp id λe=>e.1⟩
  have l1:I.length=zs.length+1:=by rw[q1.length_eq];simp
  have B:(SetTable.insertAt es p (cR prog w ks,Value.ref b)).size=es.size+1:=wY _ _ _;have up:∀(hp:A6) (H:AE) (e1 e2:Array (Int×A0)) (n:Nat) (u1 f:SetTable),hp.get? a=O H->H.data=.set e1 n u1->(hp.update a (Obj.putSet e2 f)).get? a=O { H with data:=.set e2 (n+1) f }:=λhp H e1 e2 n u1 f g q=>by
   have:=KS (Obj.putSet e2 f) g (by rw[putSet_of e2 f q];rfl);rw[putSet_of e2 f q]at this;exact this
  have kp:∀{h':A6},Heap.SameBut a s.heap h'->∀c D,s.heap.get? c=O D->D.cls=.type "tuple" → h'.get? c=O D:=λsb c D e ec=>by
   rw[sb.2 c λq=>by subst q;rw[y]at e;cases e;exact c8 ec];exact e
  have a3:∀t2:SetTable,Tok t2 (SetTable.insertAt es p (cR prog w ks,.ref b))->t2.led=t1.led->t2.plain=false->t2.mask=t1.mask->A7 (A8 prog w) A (do
    storeSet a (SetTable.insertAt es p (cR prog w ks,.ref b)) t2
    if(!false&&t2.tooFull)=true then setRelay a (SetTable.grown (es.size+1))
    pure true) Q E s:=by
   intro t2 F l2 p2 m2;have g1:=up s.heap o es (SetTable.insertAt es p (cR prog w ks,.ref b)) ep t t2 y hd;refine zd (wpAny_storeSet_of y hd ?_ (fits_of_scanBound (by rw[B];have:scanBound=4096:=rfl;omega)));have K:Heap.SameBut a s.heap (s.heap.update a (Obj.putSet (SetTable.insertAt es p (cR prog w ks,.ref b)) t2)):=Heap.SameBut.update ..;have b3:t2.fill=es.size+1:=by unfold SetTable.fill;rw[F.dum,F.size,B];rfl
   have a2:w.params.followText "set-order"=false->t2.led=true:=λq=>l2.trans (pl.trans (x.led q));by_cases d:t2.tooFull=true
   ·rw[d];simp only[k6,Bool.and_self,QE];have hf:t2.fill*5>=t2.mask*3:=by unfold SetTable.tooFull at d;simpa using d
    rw[b3,m2,W]at hf;have hg:SetTable.grown (es.size+1)=(es.size+1)*4:=by unfold SetTable.grown;rw[zI (by omega)]
    have b4:(es.size=4/\t.mask=7)\/(es.size=18/\t.mask=31):=by
     rcases x.tok.mask with e|e|e<;>rw[e]at hf a0
     ·exact .inl ⟨by omega,e⟩
     ·exact .inr ⟨by omega,e⟩
     ·omega
    have G:(es.size=4->SetTable.sizeAbove (SetTable.grown (es.size+1))=32)/\(es.size=18->SetTable.sizeAbove (SetTable.grown (es.size+1))=128):=by
     rw[hg];exact⟨λe=>by rw[e];decide,λe=>by rw[e];decide⟩
    have L:SetTable.sizeAbove (SetTable.grown (es.size+1))-1=31/\es.size=4\/SetTable.sizeAbove (SetTable.grown (es.size+1))-1=127/\es.size=18:=by
     rcases b4 with⟨e,_⟩|⟨e,_⟩
     ·exact .inl ⟨by rw[G.1 e],e⟩
     ·exact .inr ⟨by rw[G.2 e],e⟩
    obtain⟨t3,C,e3,a5,k3,l3,p3,m3⟩:=Y8 (t:=t2) (es:=SetTable.insertAt es p (cR prog w ks,.ref b)) (wanted:=SetTable.grown (es.size+1)) (by rcases L with⟨e,_⟩|⟨e,_⟩<;>rw[e]<;>simp) (by rw[B];rcases L with⟨e,e'⟩|⟨e,e'⟩<;>rw[e,e']<;>decide);unfold setRelay;refine zd (zd (ja g1 Y2 F.fits ?_));dsimp only;have d0:¬ (SetTable.sizeAbove (SetTable.grown (es.size+1))>AA):=by
     rcases b4 with⟨e,_⟩|⟨e,_⟩
     ·rw[G.1 e];decide
     ·rw[G.2 e];decide
    rw[zI d0];have X:(C.filterMap (λi=>(SetTable.insertAt es p (cR prog w ks,Value.ref b))[i]?)).size=(SetTable.insertAt es p (cR prog w ks,Value.ref b)).size:=by
     rw[<-qA,a5.length_eq,qA]
    rw[e3];refine zd ?_;show A7 _ _ (if((C.filterMap (λi=>(SetTable.insertAt es p (cR prog w ks,Value.ref b))[i]?)).size !=(SetTable.insertAt es p (cR prog w ks,Value.ref b)).size)=true then _ else pure (C.filterMap (λi=>(SetTable.insertAt es p (cR prog w ks,Value.ref b))[i]?),t3)) _ _ _;rw[zI (by rw[X];simp)];refine zg ?_;dsimp only;refine wpAny_storeSet_of g1 Y2 ?_ (fits_of_scanBound (by rw[X,B];have:scanBound=4096:=rfl;omega));have g2:=up _ _ (SetTable.insertAt es p (cR prog w ks,.ref b)) (C.filterMap (λi=>(SetTable.insertAt es p (cR prog w ks,Value.ref b))[i]?)) _ t2 t3 g1 rfl;have a4:Heap.SameBut a s.heap ((s.heap.update a (Obj.putSet (SetTable.insertAt es p (cR prog w ks,.ref b)) t2)).update a (Obj.putSet (C.filterMap (λi=>(SetTable.insertAt es p (cR prog w ks,Value.ref b))[i]?)) t3)):=K.trans (Heap.SameBut.update ..);obtain⟨c6,q2,r2⟩:=Eh a5 r1;refine zg (h _ _ c6 a4 ⟨_,_,_,t3,g2,J,rfl,⟨R7 (kp a4) r2,(q2.map (·.1)).nodup_iff.mpr a1,k3,?_,λq=>l3.trans (a2 q),λ_=>p3.trans p2⟩⟩ (λz=>by rw[q2.mem_iff];exact m1 z) (by rw[q2.length_eq];omega));rw[X,B,m3];rcases L with⟨e,e'⟩|⟨e,e'⟩<;>rw[e,e']<;>decide
   ·have d:t2.tooFull=false:=by simpa using d
    rw[d];simp only[yk,zv,ZU];refine zd (zg ?_);refine zg (h _ _ I K ⟨_,_,_,t2,g1,J,rfl,⟨R7 (kp K) r1,a1,F,?_,a2,λ_=>p2⟩⟩ m1 (by omega));unfold SetTable.tooFull at d;rw[b3]at d;rw[B];simpa using d
  split
  ·refine zd (gI U hx ?_);simp only[zv,ZU];exact a3 { t1 with plain:=false } (Y9 pt) Y2 Y2 rfl
  ·rename_i hp;refine zd (zg ?_);simp only[QE];exact a3 t1 pt Y2 (by simpa using hp) rfl
end S6
namespace S1
open L2
theorem Vu{x:A0}(G:Y A0->Prop)(kd:SortKind)(rk:Y A0->A0->Nat){Q:B8}(v:∀(f:B8) (j:Y A0->A2->Prop),(∀vs h' d tk,G vs->s.heap.objs.size<=h'.objs.size->(∀c o,s.heap.get? c=O o->h'.get? c=O o)->j vs { s with heap:=h',drawn:=d,toks:=tk })->A7 (A8 prog w) A.in1 (collect x) j f s)
  (u:∀vs,G vs->2<=vs.length->∀(f:B8) (b:A5) (s':A2),(∀c o,s.heap.get? c=O o->s'.heap.get? c=O o)->∀Q:SortKind->A2->Prop,Q kd s'->A7 (A8 prog w) b (keyKind' vs.toArray) Q f s') (y:∀vs,G vs->∀(b:A5) (s':A2),(∀c o,s.heap.get? c=O o->s'.heap.get? c=O o)->ZQ prog w b s' kd (rk vs) (pairsOf vs)) (i:∀vs,G vs->vs.length<64)
  (h:∀vs,G vs->∀(l:A1) (h':A6) (d:Drawn) (tk n:Nat) (st:SortSt),(AM st).Perm (pairsOf vs)->Up (rk vs) (AM st) (pairsOf vs).size->s.heap.objs.size<=l->(∀c o,s.heap.get? c=O o->h'.get? c=O o)->h'.get? l=O (seqObj "list" ((AM st).map (·.2)) n)->Q (.ref l) { s with heap:=h',drawn:=d,toks:=tk }):
  A7 (A8 prog w) A (call (.builtin "sorted") [x]) Q E s:=by
 refine yo kind_sorted plain_sorted entry_sorted (args_sorted1 _) ?_;unfold Builtin.«sorted»;refine zd (m:=checkCount "sorted" 1 1 _) (zg (zd (v _ _ λvs h1 d tk a p ext=>?_)));have z:=i vs a;refine zd (yB ?_);have g:(h1.push (seqObj "list" vs.toArray 0)).get? h1.objs.size=O (seqObj "list" vs.toArray 0):=zC _ rfl;have old:∀s':A2,F7 h1.objs.size { s with heap:=h1.push (seqObj "list" vs.toArray 0),drawn:=d,toks:=tk } s'->∀c o,s.heap.get? c=O o->s'.heap.get? c=O o:=λs' q c o e=>
  q c o (z4 (zD (ext c o e))) (ze _ (ext c o e))
 refine zd (QQ (ke slot_list_sort ⟨_,g,rfl⟩ entry_list_sort (NI g (λq s' o=>u vs a q _ _ s' (old s' o)) (λs' o=>y vs a _ s' (old s' o)) (i vs a) λst q1 q2=>⟨_,rfl,zg ⟨_,rfl,?_⟩⟩) (args_list_sort _)));obtain⟨n,t⟩:=sortedHeap_at (out:=(AM st).map (·.2)) g;refine h vs a h1.objs.size _ d tk n st q1 q2 p (λc o e=>?_) t;have hb:=zD (ext c o e);rw[sortedHeap_old (z4 hb) (by rw[qk];exact qV hb)];exact ze _ (ext c o e)
end S1
namespace P1
open L2 S6
section
theorem Za{d:Drawn}(I:AU X AN σ H s):AU X AN σ H { s with drawn:=d }:=⟨I.ok,I.os,I.bare,I.base,I.loc,I.cell,I.free,I.su,I.pin,I.hok,I.len⟩
variable{fs:Ev->S AZ}{p:Pos}
end
section
variable{xs:AZ}
end
section
variable{xs:AZ}
variable{fs:Ev->S AZ}{p':Pos}
end
end P1
namespace P1
open L2 S1 S6
def Ts(prog:A3)(w:A4)(h:A6)(a:A1)(zs:Y (Y AY×A1)):Prop:=∃o es ep t,h.get? a=O o/\o.ExactSet/\o.data=.set es ep t/\es.toList=zs.map (λz=>(cR prog w z.1,(.ref z.2:A0)))/\t.fits es.size=true/\(w.params.followText "set-order"=false->t.led=true)/\(0<es.size->t.plain=false)
theorem R8{prog:A3}{w:A4}{h:A6}:∀{zs:Y (Y AY×A1)} {l:Y (Int×A0)},AI (TE prog w h) zs l->l=zs.map (λz=>(cR prog w z.1,(.ref z.2:A0)))
 |_,_,.nil=>rfl
 |_,_,.cons r t=>by rw[zo,<-R8 t,r.1]
theorem Ts.of(x:Tu prog w h a zs):Ts prog w h a zs:=
 let ⟨o,es,ep,t,e,r,d,q⟩:=x;⟨o,es,ep,t,e,r,d,R8 q.rel,q.tok.fits,q.led,q.non⟩
theorem Ts.keep{h':A6}(x:Ts prog w h a zs)(k:∀o,h.get? a=O o->h'.get? a=O o):Ts prog w h' a zs:=
 let ⟨o,es,ep,t,e,r⟩:=x;⟨o,es,ep,t,k o e,r⟩
def F2(X:Cx)(a:A1)(zs:Y (Y AY×A1)):HO:=.ext λh=>Ts X.prog X.w h a zs
theorem SA(X:Cx)(h:Ks ks us):ItemsAre (bF X.prog X.w) ks us:=by
 induction h with
 |nil=>exact .nil
 |cons r _ a=>exact .cons r a
theorem fz(X:Cx)(h:ItemsAre (bF X.prog X.w) ks us):Ks ks us:=by
 induction h with
 |nil=>exact .nil
 |cons r _ a=>exact .cons r a
theorem R9(X:Cx){v:A0}(q:lu h ks v):∃b,v=.ref b/\IsTupleKey (bF X.prog X.w) h ks b:=by
 obtain⟨a,o,AQ,n,e,g,c,d,p⟩:=q;exact⟨a,e,o,AQ.toArray,n,g,c,d,by simpa using SA X p⟩
theorem X1(X:Cx){b:A1}(q:IsTupleKey (bF X.prog X.w) h ks b):lu h ks (.ref b):=by
 obtain⟨o,AQ,n,g,c,d,p⟩:=q;exact⟨b,o,AQ.toList,n,rfl,g,c,by simpa using d,fz X p⟩
def bj(X:Cx):Y V->Hp->VK->Prop:=λxs H Q=>∃v b ds cZ,xs=[v]/\bC X.K H b v/\wR b=O ds/\uV ds=O cZ/\cZ.length<=64/\(∀k∈cZ,EH k) ∧
 ∀a zs H',AV H H'->H' a=O (F2 X a zs)->(∀k,k∈zs.map (·.1)↔k∈cZ)->(zs.map (·.1)).Nodup->(∀z∈zs,AW X.K H' (BF z.1) (.ref z.2))->Q (.ref a) H'
def CU(X:Cx)(S:A1)(AQ:Y A0)(h:A6)(ys:Y (Y AY)):Prop:=∃zs,zs.map (·.1)=ys/\Tu X.prog X.w h S zs/\∀z∈zs,(.ref z.2:A0)∈AQ
theorem Bb{h:A6}:∀{cZ:Y (Y AY)} {vs:Y A0},AI (lu h) cZ vs->∀{i:Nat} {v:A0},vs[i]?=O v->∃k,cZ[i]?=O k/\lu h k v
 |_,_,.nil,i,v,q=>by simp at q
 |_,_,.cons r _,0,v,q=>by simp at q;subst q;exact⟨_,rfl,r⟩
 |_,_,.cons _ t,i+1,v,q=>by
  rw[qa]at q;obtain⟨z,z1,z2⟩:=Bb t q;exact⟨z,by rw[qa];exact z1,z2⟩
theorem Sg{h0:A6}{S:A1}(hs:AI (lu h0) cZ AQ)(W:cZ.length<=64)(hx:∀k∈cZ,EH k)(x:h0.objs.size=S):EA X.prog X.w S [S+1] (λh zs=>(∀b o,h0.get? b=O o->h.get? b=O o)/\CU X S AQ h zs) (λi v=>AQ.toArray[i]?=O v) (λi=>cZ.getD i []) AQ.length where
 keep:=λh h' ys t k=>by
  obtain⟨p,zs,e,t,m⟩:=t;have u:∀b o,(b=S\/b<S)->h.get? b=O o->h'.get? b=O o:=λb o hb e=>k b o (by
   simp only[jI,JI,or_false];rcases hb with rfl|hb
   ·exact z4 (qf _)
   ·exact z4 (qV hb)) e
  have old:∀b o,h0.get? b=O o->h'.get? b=O o:=λb o e=>u b o (.inr (by rw[<-x];exact zD e)) (p b o e);refine⟨old,zs,e,?_,m⟩;obtain⟨o,es,ep,H,g,r,d,q⟩:=t;refine⟨o,es,ep,H,u S o (.inl Y2) g,r,d,⟨?_,q.nd,q.tok,q.load,q.led,q.non⟩⟩;have N:∀{zs:Y (Y AY×A1)} {l:Y (Int×A0)},AI (TE X.prog X.w h) zs l->(∀z∈zs,(.ref z.2:A0)∈AQ)->AI (TE X.prog X.w h') zs l:=by
   intro zs l r
   induction r with
   |nil=>intro _;exact .nil
   |cons q _ K=>
    intro m;refine .cons ⟨q.1,Xg q.2 λo e c=>?_⟩ (K λz n=>m z (zi _ n));obtain⟨i,hi,M⟩:=JA (m _ (zh ..));obtain⟨kk,_,tv⟩:=Bb hs (show AQ[i]?=O _ by rw[z5 hi,M]);obtain⟨b,eb,⟨ob,_,_,gb,_⟩⟩:=R9 X tv;cases eb;exact u _ o (.inr (by rw[<-x];exact zD gb)) e
  exact N q.rel m
 add:=λA E s i v ys Q G hi j L n h=>by
  obtain⟨p,zs,e,t,m⟩:=L;have j:AQ[i]?=O v:=by simpa using j
  obtain⟨ks,e1,tv⟩:=Bb hs j;have J:=tv.keep p;obtain⟨b,rfl,F⟩:=R9 X J;have U:cZ.getD i []=ks:=by simp[List.getD,e1]
  have Z:AQ.length=cZ.length:=hs.length.symm;have a0:zs.length=ys.length:=by rw[<-e,zt]
  unfold setAdd;refine QQ (zd (wpAny_pyHash_tuple G F ?_));refine Rl (s:={ s with toks:=s.toks+(ks.length+1) }) G t F (hx ks (QR e1)) (by omega) λr h' D C I a l=>?_;refine h r h' _ (D.map (·.1)) C ⟨λc o g=>?_,D,rfl,I,λz n=>?_⟩ (λz=>?_) (by rw[zt];omega) (Nat.le_add_right _ _)
  ·rw[C.2 c λq=>by subst q;have:=zD g;rw[x]at this;exact kc _ this];exact p c o g
  ·rcases(a z).mp n with q|⟨q,_⟩
   ·exact m z q
   ·subst q;exact QR j
  ·rw[U,<-e,KF,KF];constructor
   ·rintro⟨y,f,rfl⟩;rcases(a y).mp f with q|⟨q,_⟩
    ·exact .inl ⟨y,q,rfl⟩
    ·exact .inr (congrArg Prod.fst q)
   ·rintro(⟨y,f,B⟩|P)
    ·exact⟨y,(a y).mpr (.inl f),B⟩
    ·rw[P];by_cases q:ks∈zs.map (·.1)
     ·obtain⟨y,f,B⟩:=List.mem_map.mp q;exact⟨y,(a y).mpr (.inl f),B⟩
     ·exact⟨(ks,b),(a _).mpr (.inr ⟨rfl,q⟩),rfl⟩
theorem Se(hc:X.calm=true)(hu:X.A.units+100<cLine):jK X (.type "set") (bj X):=by
 intro AN s σ H xs us Q I r h;obtain⟨v,b,ds,cZ,rfl,rb,ed,ek,W,hx,q⟩:=h;obtain⟨u,rfl,ru⟩:=BB r;obtain⟨p,vs,rfl,sq,E⟩:=GP rb ed;have b3:=Dh ek;subst b3;cases ru;have hh:=I.ok.hd hc;have a1:∀(h':A6) (tk:Nat) (ys:Y (Y AY)) (AQ:Y A0),AX vs AQ->((∀b o,s.heap.get? b=O o->h'.get? b=O o)/\CU X s.heap.objs.size AQ h' ys)->(∀z,z∈ys↔∃j,j<AQ.length/\z=cZ.getD j [])->(∀b F,s.heap.get? b=O F->h'.get? b=O F)->EP X AN σ Q (.ref s.heap.objs.size) { s with heap:=h',toks:=tk }:=by
  intro h' tk ys AQ N cu C k;obtain⟨_,zs,e,t,m⟩:=cu;have a3:=I.hok.fresh (zk s.heap.objs.size);have a2:AQ.length=cZ.length:=by rw[<-N.length,E.length,zt]
  have tv:=sE I E N;refine⟨.ref s.heap.objs.size,_,I.laid (t':=tk) (a:=s.heap.objs.size) (o:=F2 X s.heap.objs.size zs) k (zk _) ?_,rfl,q _ zs _ (cg a3) bH (λz=>?_) ?_ λz l=>?_⟩
  ·obtain⟨o,es,ep,t',M,_⟩:=id t;exact⟨Ts.of t,⟨o,M⟩,λh1 h2 t1 k1=>Ts.keep t1 k1⟩
  ·rw[e,C z];constructor
   ·rintro⟨j,f,rfl⟩;rw[a2]at f;simp[List.getD,f]
   ·intro l;obtain⟨j,f,e⟩:=JA l;exact⟨j,by rw[a2];exact f,by simp[List.getD,f,e]⟩
  ·obtain⟨o,es,ep,t',M,_,_,x⟩:=t;exact x.nd
  ·obtain⟨o,es,ep,t',M,_,_,x⟩:=t;obtain⟨i,hi,ei⟩:=JA l;obtain⟨ee,_,te⟩:=Az x.rel (show zs[i]?=O z by rw[z5 hi,ei]);have tz:=X1 X te.2;have b0:=m z l;obtain⟨j,f,ej⟩:=JA b0;obtain⟨kk,_,a4⟩:=Bb tv (show AQ[j]?=O (.ref z.2) by rw[z5 f,ej]);have ek:kk=z.1:=(a4.keep k).inj tz;obtain⟨w1,L,Z⟩:=Di I E N (ZR:=[kk]) (out:=[.ref z.2]) (.cons a4 .nil) (λu hu=>by cases List.mem_singleton.mp hu;exact b0);cases L with
   |@cons w0 _ _ _ r0 L=>
    cases L;simp only[zo,ko,aO]at Z;obtain⟨v0,B,ev,K,_⟩:=Z;simp only[km]at ev;rw[<-ev.1]at K;have hw:w0=V.ref z.2:=by
     have q1:=K;simp only[BF,AW]at q1;obtain⟨a0,ws,e0,_⟩:=q1;subst e0;cases r0;rfl
    rw[<-ek,<-hw];exact K.kp (.of (cg a3))
 have a5:∀h':A6,h'.get? s.heap.objs.size=O (BO X.w)->∀AQ:Y A0,CU X s.heap.objs.size AQ h' []:=λh' e AQ=>
  ⟨[],rfl,⟨_,#[],0,_,e,⟨rfl,rfl,rfl⟩,rfl,⟨.nil,Qb,{ mask:=.inl rfl,dum:=rfl,rise:=λi j _ f=>absurd f (kL _),bd:=λj f=>by simp[SetTable.fresh]at f,full:=QU _,size:=rfl,reach:=λi j e h1=>by simp[SetTable.fresh]at h1 },(show 0*5<7*3 by decide),λq=>by simp[SetTable.fresh,q],λq=>absurd q (kc _)⟩⟩,λz l=>by cases l⟩
 rcases sq with sq|sq
 ·obtain⟨AQ,B,pl,l⟩:=I.list sq;obtain⟨o,g,c,n,d⟩:=pl.isList;refine NR (by omega) (T :="list") hh g c (.inl Y2) (P:=λi v=>AQ.toArray[i]?=O v) (n:=AQ.length) (λG E' Q' h0 D y U=>?_) (Sg (sE I E B) W hx Y2) (λh' e k=>⟨k,a5 h' e AQ⟩) λh' tk zs tx C k=>a1 h' tk zs AQ B tx C k;refine yv (items:=AQ.toArray) ⟨o,y _ _ g,c,n,d⟩ ?_;have J:p≠h0.objs.size:=z4 (zD (y _ _ g));refine U _ (λi h=>h.IsListIter h0.objs.size p i/\h.IsList p AQ.toArray) (λG D=>by have:=Walks.list (prog:=X.prog) (w:=X.w) D h0.objs.size p J AQ.toArray;rw[zS]at this;exact this) ⟨⟨_,zC _ rfl,rfl,rfl⟩,⟨o,ze _ (y _ _ g),c,n,d⟩⟩ λb F e=>ze _ e
 ·obtain⟨AQ,B,pl,l⟩:=I.tuple sq;obtain⟨o,g,c,n,d⟩:=id pl;refine NR (by omega) (T :="tuple") hh g c (.inr Y2) (P:=λi v=>AQ.toArray[i]?=O v) (n:=AQ.length) (λG E' Q' h0 D y U=>?_) (Sg (sE I E B) W hx Y2) (λh' e k=>⟨k,a5 h' e AQ⟩) λh' tk zs tx C k=>a1 h' tk zs AQ B tx C k;refine wpAny_pyIter_tuple (items:=AQ.toArray) ⟨o,y _ _ g,c,n,d⟩ ?_;have J:p≠h0.objs.size:=z4 (zD (y _ _ g));refine U _ (λi h=>h.IsTupleIter h0.objs.size p i/\h.IsTuple p AQ.toArray) (λG D=>by have:=Walks.tuple (prog:=X.prog) (w:=X.w) D h0.objs.size p J AQ.toArray;rw[zS]at this;exact this) ⟨⟨_,zC _ rfl,rfl,rfl⟩,⟨o,ze _ (y _ _ g),c,n,d⟩⟩ λb F e=>ze _ e
theorem UP(I:AU X AN σ H s)(h:H a=O (F2 X a zs)):Ts X.prog X.w s.heap a zs:=(I.hok _ _ h).1
def dm(X:Cx):Y V->Hp->VK->Prop:=λxs H Q=>∃a zs,xs=[.ref a]/\H a=O (F2 X a zs)/\Fp (zs.map (·.1))=true/\(∀z∈zs,AW X.K H (BF z.1) (.ref z.2))/\∀l H' us,AV H H'->H l=Y3->H' l=O (.lst us)->aO X.K H' ((mQ (zs.map (·.1))).map BF) us->Q (.ref l) H'
theorem eR(hc:X.calm=true):jK X (.builtin "sorted") (dm X):=by
 intro AN s σ H xs us Q I r h;obtain⟨a,zs,rfl,P,hs,A,q⟩:=h;obtain⟨u,rfl,ru⟩:=BB r;cases ru;simp only[Fp,ZT,Zl,qB,js]at hs;obtain⟨G,N,L⟩:=hs;rw[zt]at G;obtain⟨o,es,ep,t,ho,a4,hd,D,ft,c0,a1⟩:=UP I P;have f:es.size=zs.length:=by rw[<-qA,D,zt]
 have W:Wk X.w s.heap a es ep t:=⟨⟨o,ho,a4.1,hd⟩,ft,c0,λq=>a1 (by omega)⟩;have U:aO X.K H ((zs.map (·.1)).map BF) (zs.map λz=>(V.ref z.2))/\AX (zs.map λz=>(V.ref z.2)) (zs.map λz=>(.ref z.2:A0)):=by
  clear D P q G N L f W a1
  induction zs with
  |nil=>exact⟨aO.nil,.nil⟩
  |cons z zs x=>
   obtain⟨i1,i2⟩:=x λy hy=>A y (zi _ hy);exact⟨aO.cons (A z (zh ..)) i1,.cons Y2 i2⟩
 have a5:=sE I U.1 U.2;have tz:∀z∈zs,lu s.heap z.1 (.ref z.2):=λz m=>by
  have:=sE I (cZ:=[z.1]) (vs:=[V.ref z.2]) (AQ:=[.ref z.2]) (aO.cons (A z m) aO.nil) (.cons Y2 .nil);cases this with
  |cons q' _=>exact q'
 refine Vu (λvs=>∃ys:Y (Y AY×A1),ys.Perm zs/\vs=ys.map λz=>(.ref z.2:A0)) (tuples' true) (λvs v=>CD (vs.map λu=>BE (zs.map (·.1)) (zs.map λz=>(.ref z.2:A0)) u) (BE (vs.map λu=>BE (zs.map (·.1)) (zs.map λz=>(.ref z.2:A0)) u) vs v))
  (λE' Q' J=>R0 (by exact I.ok.hd hc) W (by rw[f,sizeLine_eq];omega) λp h1 d tk hp a3 ext=>J p h1 d tk ?_ a3 ext) ?_ ?_ ?_ ?_
 ·rw[D,QO]at hp;have:∀{p vs:Y A0},p.Perm vs->∀zs:Y (Y AY×A1),vs=zs.map (λz=>(.ref z.2:A0))->∃ys:Y (Y AY×A1),ys.Perm zs/\p=ys.map λz=>(.ref z.2:A0):=by
   intro p vs hp
   induction hp with
   |nil=>intro zs e;cases zs with|nil=>exact⟨[],.refl _,rfl⟩|cons _ _=>cases e
   |cons y _ x=>
    intro zs e;cases zs with
    |nil=>cases e
    |cons z zs=>
     rw[zo]at e;injection e with e1 e2;obtain⟨ys,p1,p2⟩:=x zs e2;exact⟨z::ys,p1.cons _,by rw[zo,e1,p2]⟩
   |swap y1 y2 l=>
    intro zs e
    match zs,e with
    |z1::z2::zs,e=>
     simp only[zo,km]at e;exact⟨z2::z1::zs,List.Perm.swap _ _ _,by simp only[zo];rw[e.1,e.2.1,e.2.2]⟩
    |[_],e=>simp at e
    |[],e=>cases e
   |trans _ _ b3 c3=>
    intro zs e;obtain⟨ys,p1,p2⟩:=c3 zs e;obtain⟨us,q1,q2⟩:=b3 ys p2;exact⟨us,q1.trans p1,q2⟩
  exact this hp zs rfl
 all_goals
  intro vs hG;obtain⟨ys,py,rfl⟩:=hG;have hm:∀v∈(ys.map λz=>(.ref z.2:A0)),v∈(zs.map λz=>(.ref z.2:A0)):=λv M=>((py.map _).mem_iff).mp M;have a0:∀v∈(ys.map λz=>(.ref z.2:A0)),lu s.heap (BE (zs.map (·.1)) (zs.map λz=>(.ref z.2:A0)) v) v:=λv M=>(nY a5 v (hm v M)).2;have tv:=zG a0;have Z:(ys.map λz=>(.ref z.2:A0)).map (λu=>BE (zs.map (·.1)) (zs.map λz=>(.ref z.2:A0)) u)=ys.map (·.1):=by
   rw[QO];refine QP λz f=>?_;have m:=py.mem_iff.mp f;exact(a0 (.ref z.2) (List.mem_map.mpr ⟨z,f,rfl⟩)).inj (tz z m)
  have mk:∀k∈(ys.map λz=>(.ref z.2:A0)).map (λu=>BE (zs.map (·.1)) (zs.map λz=>(.ref z.2:A0)) u),k∈zs.map (·.1):=λk c=>by
   rw[Z]at c;exact((py.map _).mem_iff).mp c
 ·intro h2 E' A' s' k Q' J;exact MP (Paired.imp' (λ_ _ z=>lu.keep z k) tv) (λk c=>by have:=N k (mk k c);cases k with|nil=>cases this|cons _ _=>exact List.cons_ne_nil _ _) (λk c l g=>Il (L k (mk k c) l (mk l g))) (by omega) J
 ·intro A' s' k;exact RM (Paired.imp' (λ_ _ z=>lu.keep z k) tv) λk c l g=>Il (L k (mk k c) l (mk l g))
 ·rw[zt,py.length_eq];exact G
 ·intro l h' d tk n st hp up g ext hL;have j:=RN tv hp up;have mem:∀u∈((AM st).map (·.2)).toList,u∈(ys.map λz=>(.ref z.2:A0)):=λu B=>by
   rw[Array.toList_map]at B;obtain⟨pr,b0,rfl⟩:=List.mem_map.mp B;have b4:pr∈(ys.map λz=>(.ref z.2:A0)).zip (ys.map λz=>(.ref z.2:A0)):=by rw[<-pairsOf_toList];exact(Array.perm_iff_toList_perm.mp hp).mem_iff.mp b0
   have:=mem_zip_self b4;rw[<-this.1];exact this.2
  have C:H l=Y3:=I.hok.fresh g;have back:∀{F:Y (Y AY)} {j:Y A0},AI (lu s.heap) F j->(∀u∈j,u∈(ys.map λz=>(.ref z.2:A0)))->∃b,AX b j/\aO X.K H (F.map BF) b:=by
   intro F j pr
   induction pr with
   |nil=>intro _;exact⟨[],.nil,aO.nil⟩
   |cons q0 _ x=>
    intro a2;obtain⟨b,E,i⟩:=x λu B=>a2 u (zi _ B);obtain⟨z,f,ez⟩:=List.mem_map.mp (a2 _ (zh ..));subst ez;have m:=py.mem_iff.mp f;have ek:=q0.inj (tz z m);refine⟨.ref z.2::b,.cons Y2 E,?_⟩;rw[zo,ek];exact aO.cons (A z m) i
  obtain⟨b,E,i⟩:=back j mem;rw[Z]at i;have es:mQ (ys.map (·.1))=mQ (zs.map (·.1)):=uD ((pH _).trans (py.map _)) (wW _);rw[es]at i;have b9:b.length=zs.length:=by rw[i.length,zt,(pH _).length_eq,zt]
  refine⟨.ref l,_,Za (d:=d) (I.laid (t':=tk) (a:=l) (o:=.lst b) ext g ⟨by rw[b9,sizeLine_eq];omega,_,n,E,?_⟩),rfl,q _ _ b (cg C) C bH (i.kp (.of (cg C)))⟩;rw[hL]
def Ft{α:Type}[DecidableEq α]:Y α->Y α
 |[]=>[]
 |y::ys=>if y∈ys then Ft ys else y::Ft ys
section
variable [DecidableEq α]
theorem qz:∀{ys:Y α} {z:α},z∈Ft ys↔z∈ys
 |[],z=>by simp[Ft]
 |y::ys,z=>by
  unfold Ft;split
  ·rename_i h;rw[qz,jI];exact⟨.inr,λq=>q.elim (λe=>e▸h) id⟩
  ·rw[jI,jI,qz]
theorem Iw:∀(ys:Y α),(Ft ys).Nodup
 |[]=>Qb
 |y::ys=>by
  unfold Ft;split
  ·exact Iw ys
  ·rename_i h;exact List.nodup_cons.mpr ⟨λq=>h (qz.mp q),Iw ys⟩
theorem Bc:∀(ys:Y α),(Ft ys).length<=ys.length
 |[]=>zk _
 |y::ys=>by
  have:=Bc ys;unfold Ft;split<;>simp<;>omega
theorem Pk{β:Type}[DecidableEq β]{f:α->β}(hi:∀a b,f a=f b->a=b):∀(ys:Y α),Ft (ys.map f)=(Ft ys).map f
 |[]=>rfl
 |y::ys=>by
  have c:f y∈ys.map f↔y∈ys:=⟨λq=>by obtain⟨z,d,e⟩:=List.mem_map.mp q;rw[<-hi _ _ e];exact d,λq=>List.mem_map.mpr ⟨y,q,rfl⟩⟩;rw[zo];unfold Ft;by_cases q:y∈ys
  ·rw[zr q,zr (c.mpr q),Pk hi ys]
  ·rw[zI q,zI λh=>q (c.mp h),zo,Pk hi ys]
end
section
def Pn(ks:Y AY):Bool:=ks.any λk=>k.isRight
theorem aI(h:Pn ks=true):EH ks:=by
 unfold Pn at h;rw[Q4]at h;obtain⟨k,a,e⟩:=h;cases k with
 |inl i=>cases e
 |inr x=>exact⟨x,a⟩
def tU(X:Cx)(f:Ev->S (Y (Y AY))):L2.TE:=λσ H Q=>∃H0 ρ cZ,bR X.K H0 H σ ρ/\f ρ=O cZ/\∀a zs H',AV H H'->H' a=O (F2 X a zs)->(∀k,k∈zs.map (·.1)↔k∈cZ)->(zs.map (·.1)).Nodup->(∀z∈zs,AW X.K H' (BF z.1) (.ref z.2))->Q (.ref a) H'
def VT(X:Cx)(e:Expr)(f:Ev->S (Y (Y AY))):Prop:=PE X e (tU X f)
structure LM (X:Cx) (e:Expr) (f:Ev->Option (List (List AY))):Prop where
 run:VT X e f
def IS(b:Bx):S (Y (Y AY)):=(wR b).bind λds=>(uV ds).bind λcZ=>if cZ.length<=64/\cZ.all Pn=true then O cZ else Y3
def KH(f:Ev->S Bx):Ev->S (Y (Y AY)):=λρ=>(f ρ).bind IS
def Ei(fs:Ev->S (Y (Y AY))):Ev->S Bx:=λρ=>(fs ρ).bind λcZ=>if Fp cZ=true then O (.o ((mQ (Ft cZ)).map BF))else Y3
variable{fs:Ev->S (Y (Y AY))}{p:Pos}
theorem Pq(i:X.calm=true)(u:X.A.units+100<cLine)(l:Gl X "set")(w:X.mg "set"=Y3)(x:QV X e f)(he:A9 (e::[]) X.env=(false,eval e X.env)::A9 [] X.env:=by rfl):LM X (.Call (.Name "set" p) [e] [] pos) (KH f):=by
 refine⟨Mp (Mh (T :="set") (Se i u) l w Y2 (xX x.run Hj he) (he:=he)) λσ H Q h=>?_⟩;obtain⟨H0,ρ,cZ,E,c,q⟩:=h;obtain⟨b,eb,c⟩:=AT c;obtain⟨ds,g,c⟩:=AT c;obtain⟨z,ek,c⟩:=AT c;split at c
 ·rename_i d;cases c;rw[qB]at d;exact⟨H0,ρ,b,E,eb,λv H1 t y s=>⟨v,b,ds,cZ,rfl,s,g,ek,d.1,λk j=>aI (d.2 k j),λa zs H2 o e2 m nd n=>q a zs H2 (t.trans o) e2 m nd n⟩⟩
 ·cases c
theorem dL{ZR:Y (Y AY)}(h:Fp cZ=true)(d:ZR.length<=cZ.length)(b:∀k∈ZR,k∈cZ):Fp ZR=true:=by
 simp only[Fp,ZT,Zl,qB,js]at h ⊢;exact⟨by omega,λk a=>h.2.1 k (b k a),λk a l c=>h.2.2 k (b k a) l (b l c)⟩
theorem Pr(g:X.calm=true)(o:Gl X "sorted")(v:X.mg "sorted"=Y3)(x:LM X e fs)(he:A9 (e::[]) X.env=(false,eval e X.env)::A9 [] X.env:=by rfl):QV X (.Call (.Name "sorted" p) [e] [] pos) (Ei fs):=by
 refine⟨Mp (Q5 (id :="sorted") (eR g) o v Y2 (xX x.run Hj he) (he:=he)) λσ H Q h=>?_⟩;obtain⟨H0,ρ,b,E,c,q⟩:=h;obtain⟨cZ,w,c⟩:=AT c;split at c
 ·rename_i n;cases c;refine⟨H0,ρ,cZ,E,w,λa zs H1 f e1 m nd j=>⟨a,zs,rfl,e1,?_,j,λl H2 us u s e2 d=>?_⟩⟩
  ·have e3:=(GR nd (Iw cZ) λz=>by rw[m z,qz]).length_eq;have:=Bc cZ;exact dL n (by omega) λk i=>(m k).mp i
  ·have t:=GR nd (Iw cZ) λz=>by rw[m z,qz]
   have es:mQ (zs.map (·.1))=mQ (Ft cZ):=uD ((pH _).trans t) (wW _);rw[es]at d;exact q _ H2 (f.trans u) (λa ea=>by cases ea;exact f.free s) ⟨l,us,rfl,e2,d⟩
 ·cases c
end
end P1
namespace P1
open L2
def Bd:Bx->Bx->S Bx
 |.z (.str k),.z d=>O (.z (.tup [.str k,d]))
 |_,_=>Y3
theorem Vv{a:Bx}{y:Dt}(h:Bd a b=O (.z y)):∃k d,a=.z (.str k)/\b=.z d/\y=.tup [.str k,d]:=by
 unfold Bd at h;split at h
 ·cases h;exact⟨_,_,rfl,rfl,rfl⟩
 ·cases h
def Hn(AO:Y (AY×Dt)):Dt->Y (AY×Dt)
 |.tup [.str k,d]=>O5 AO (.inr k) d
 |_=>AO
def dictOf(out:Y Dt):Y (AY×Dt):=out.foldl Hn []
theorem Sh(out:Y Dt)(k:AJ)(d:Dt):dictOf (out++[.tup [.str k,d]])=O5 (dictOf out) (.inr k) d:=by
 unfold dictOf;rw[List.foldl_append];rfl
theorem Zb{AO:Y (AY×V)}{k:AY}{r:A0}{Q:Unit->A2->Prop}(I:L2.AU X AN σ H s)(e:H a=O (.dK AO))(l:AO.length<AA)(m:Au (kV k) u)(f:Au v r)(h:∀s',L2.AU X AN σ (B6 H a (.dK (BD AO k v))) s'->Q () s'):
  A7 (A8 X.prog X.w) A (dictSet a u r) Q E s:=by
 obtain⟨z,hd,vs,c,i⟩:=HL I.hok e;have g:vs.length<=AA:=by rw[<-c.length];exact z
 have d:(BD AO k v).length<=AA:=by have:=pC AO k v;omega
 refine wpAny_dictSet_pairs (hsz:=g) (Hr m) i λh' b hs=>h _ ?_;have j:∃q,h'.get? a=O q:=let ⟨q,_,_,hq,_⟩:=b;⟨q,hq⟩;exact Gq I (by rw[e];exact True.intro) hs j (U0 d hd (c.put k f) b)
section
variable{kx vx:Expr}{xs:AZ}
def ZS(K:B4)(_:A1)(H:Hp)(o1:Y Dt)(o:HO):Prop:=∃us,o=.dK us/\gk K H (dictOf o1) us/\us.length<=o1.length
theorem ZS.kp{K:B4}{D:A1}{H H':Hp}{o1:Y Dt}{o:HO}(k:Kp H H'):ZS K D H o1 o->ZS K D H' o1 o:=λ⟨us,e,r,z⟩=>⟨us,e,r.kp k,z⟩
theorem Xh(G:PV X kx fk)(P:PV X vx fv):Va X (λD env=>do let g <-eval kx env;let vv <-holding [g] (eval vx env);standAt { kx.pos with endLine:=vx.pos.endLine,endCol:=vx.pos.endCol };holding [g,vv] (dictSet D g vv)) (Vb (b2 Bd fk fv)) (ZS X.K) 999 n:=by
 refine NS λAN s σ H H0 ρ D o o1 ys I En eb hD ⟨us,e,r4,hl⟩ hi=>?_;subst e;obtain⟨b,e0,e1⟩:=AT eb;obtain⟨y,rfl,rfl⟩:=CV e1;obtain⟨bk,E,eb⟩:=AT e0;obtain⟨Q,L,eb⟩:=AT eb;obtain⟨c,F,rfl,rfl,rfl⟩:=Vv eb;refine zd (QN (G AN s σ H (λv a=>AV H a/\bC X.K a (.z (.str c)) v) I ⟨H0,ρ,_,En,E,λv a f _ d=>⟨f,d⟩⟩) (λg C j=>?_) λ_ _ z=>z);obtain⟨w,p,M,rk,l,u⟩:=j;refine zd (QQ (QN (P AN C σ p (λv a=>AV p a/\AW X.K a F v) M ⟨H0,ρ,_,En.grow l,L,λv a f _ d=>⟨f,d⟩⟩) (λv f j=>?_) λ_ _ z=>z));obtain⟨h,a,q,N,B,d⟩:=j;have i:=l.trans B;have m:a D=O (.dK us):=i _ _ hD;obtain⟨rfl,J⟩:w=.str c/\c.length<=AA:=by simpa only[bC,AW]using u
 have kp:Kp a (B6 a D (.dK (BD us (Sum.inr c) h))):=.dk m;refine zd (Kj (QQ ?_));simp only[List.length_singleton]at hi;refine Zb q m (by have:(1000:Nat)<AA:=(by decide);omega) (k:=Sum.inr c) rk N λU A=>?_;have t:=((r4.kp (.of i)).put (x:=Sum.inr c) d J).kp kp;exact⟨a,_,A,i,kp,BD us (Sum.inr c) h,rfl,by rw[Sh];exact t,by have:=pC us (Sum.inr c) h;simp;omega⟩
def Xi(fi:Ev->S (Y Dt))(gt:Dt->Ev->S Ev)(p:Ev->S Bool)(fk fv:Ev->S Bx)(is:Y Nat)(n:Nat):Ev->S Bx:=λρ=>(fi ρ).bind λds=>
 if ds.length<1000 then(DR gt p (b2 Bd fk fv) (lq is ρ++List.replicate n Y3) ds).bind λa=>O (.m (dictOf a) Y3)else Y3
theorem cE(hu:X.A.units+100<cLine)(ts:AZ)(O:tL X scope cl xs is)(L:X.calm=true)(hi:EF X tgt iter fi)
  (t:∀C d c fp,ZM (yO X (xs++ts) scope cl C d c fp) tgt gt) (z:∀C d c fp,wK (yO X (xs++ts) scope cl C d c fp) ifs p) (j:∀C d c fp,QV (yO X (xs++ts) scope cl C d c fp) kx fk) (a2:∀C d c fp,QV (yO X (xs++ts) scope cl C d c fp) vx fv) (P:YB is.length (is.length+ts.length) gt)
  (hs:∀x,foldedSetIterable iter X.env x=pure x:=by intro _;rfl):QV X (.DictComp kx vx [⟨tgt,iter,ifs,0⟩] scope pos) (Xi fi gt p fk fv is ts.length):=⟨λAN s σ H Q I h=>by
 obtain⟨H0,ρ,b,E,e,q⟩:=h;obtain⟨ds,U,e⟩:=AT e;split at e
 ·rename_i F;obtain⟨a4,g,e⟩:=AT e;cases e;rw[arm_eval_DictComp];refine JJ (use:=Y3) Y2 hs O.clos O.kind O.names ?_;refine iZ (hi.run AN s σ H (λJ H'=>AV H H'/\B0 X.K J ds H') I ⟨H0,ρ,ds,E,U,λJ H' s' y=>⟨s',y⟩⟩) λv s1 h1=>iZ h1 λa3 s2 h2=>?_;obtain⟨it,fp,tn,J,H2,rfl,i,T,st,M,f,Y⟩:=h2;refine yd (B:=Ag) (Ac:=ZS X.K) (O0:=.dK []) (N:=999) (RR:=λa1 C=>compPost (A8 X.prog X.w) X.A X.xe Y3 (EP X AN σ Q) a1 C) (ts:=ts) (xs:=xs) O L (λC d c fp=>(t C d c fp).run) (λC d c fp=>(z C d c fp).run) (λC d c fp=>Xh (j C d c fp).run (a2 C d c fp).run) P (Nat.le_add_right ..) i ((E.grow f).caps is ts.length) (DW T) st M Y g (ZI (yc g) (Nat.le_of_lt_succ F)) ?_
   qo (λ_=>Ht s2.heap i.big) (λ_=>⟨[],rfl,gk.nil,zk _⟩) ZS.kp (λ_ _ _=>Y2) codeAny_compStart_dict λh=>h
  rintro D C s' H' o Z u l ⟨m,hn⟩ W a0 ⟨us,rfl,rm,_⟩;refine⟨m,hn,λh' n=>⟨.ref D,H',?_,rfl,q (.ref D) H' (f.trans W) (λa ea=>by cases ea;exact f.free Z) ⟨D,us,rfl,a0,rm,λb hb=>by cases hb⟩⟩⟩;obtain⟨f0,f1,f2,f3,f4,G⟩:=l;exact u.turned (t':=s'.toks) (λb o hb e=>(n.2 b hb).trans e) f0 f1 f3 f4 G
 ·cases e⟩
end
section
variable{ks:Y (AY×V)}{o:AE}
theorem Sq(hb:∀f u,X.H₀ a≠O (.tH f u))(I:L2.AU X AN σ H s)(e:H a=O (.tH o (.dK ks))):L2.AU X AN σ (B6 H a (.dK ks)) s:=by
 have h:∀{b:A1} {u:HO},H b=O u->u≠.tH o (.dK ks)->b≠a:=λq n z=>by subst z;rw[e]at q;cases q;exact n rfl
 have g:∀{b:A1},H b=Y3->b≠a:=λq z=>by subst z;rw[e]at q;cases q
 refine⟨I.ok,I.os,I.bare,⟨I.base.keep,I.base.slot,λb f q n hx=>?_,I.base.there,λb xs q=>?_,λb f u q=>?_,λb ps q=>?_⟩,I.loc,I.cell,?_,λx c q=>?_,λp hp=>?_,λb f q=>?_,I.len⟩
 ·have:=I.base.free b f q n hx;rw[aR (g this)];exact this
 ·have:=I.base.tups b xs q;rw[aR (h this λz=>by cases z)];exact this
 ·have:=I.base.Fi b f u q;rw[aR (λz=>by subst z;exact hb _ _ q)];exact this
 ·obtain⟨m,this⟩:=I.base.Kh b ps q;exact⟨m,by rw[aR (h this λz=>by cases z)];exact this⟩
 ·have:=I.free;rw[aR (g this)];exact this
 ·have:=I.su x c q;rw[aR (g this)];exact this
 ·obtain⟨p1,p2,p3⟩:=I.pin p hp;exact⟨p1,by rw[aR (g p2)];exact p2,p3⟩
 ·have st:∀{c:A1} {w:HO},iY X.prog X.w H s.heap c w->iY X.prog X.w (B6 H a (.dK ks)) s.heap c w:=λx=>
   x.stay (λ_ _ _ r=>r) (λd r=>by rw[aR (h r λz=>by cases z)];exact r) λd xs r=>by rw[aR (h r λz=>by cases z)];exact r
  by_cases i:b=a
  ·subst i;rw[bH]at q;cases q;exact st (I.hok _ _ e).2
  ·rw[aR i]at q;exact st (I.hok _ _ q)
theorem l5(I:L2.AU X AN σ H s)(e:H a=O (.dK ks))(b:s.heap.get? a=O o):L2.AU X AN σ (B6 H a (.tH o (.dK ks))) s:=by
 have:=I.write (t':=s.toks) (h':=s.heap) (x:=a) (e:=a) (o:=.tH o (.dK ks)) (by rw[e];exact True.intro) (.inl Y2) (λ_ _ _ z=>z) ⟨o,b⟩ ⟨b,(I.hok _ _ e).stay (λ_ _ _ r=>r) (λd r=>by rw[aR (qw r e (by intro z;cases z))];exact r) λd xs r=>by rw[aR (qw r e (by intro z;cases z))];exact r⟩;exact this
theorem Sk(I:L2.AU X AN σ H s)(e:H a=O (.dK ks)):∀b u,X.H₀ a≠O (.tH b u):=λb u q=>by
 have:=I.base.Fi a b u q;rw[e]at this;cases this
mutual
theorem AW.Sq{K:B4}(e:H a=O (.tH o (.dK ks)))(f:ks≠[]):∀{d:Dt} {v:V},AW K H d v->AW K (B6 H a (.dK ks)) d v
 |.non,_,h=>by simpa only[AW]using h
 |.bl _,_,h=>by simpa only[AW]using h
 |.int _,_,h=>by simpa only[AW]using h
 |.str _,_,h=>by simpa only[AW]using h
 |.tup ds,_,h=>by
  simp only[AW]at h ⊢;obtain⟨b,vs,e1,q,r⟩:=h;refine⟨b,vs,e1,?_,aO.Sq e f r⟩;rcases q with (q|⟨c,q⟩)|q
  ·exact .inl (.inl (by rw[aR (λz=>by subst z;rw[e]at q;cases q)];exact q))
  ·exact .inl (.inr ⟨c,by rw[aR (λz=>by subst z;rw[e]at q;cases q)];exact q⟩)
  ·exact .inr q
 |.lst ds,_,h=>by
  simp only[AW]at h ⊢;obtain⟨b,vs,e1,q,r⟩:=h;refine⟨b,vs,e1,?_,aO.Sq e f r⟩;rcases q with⟨c,q⟩|q
  ·exact .inl ⟨c,by rw[aR (λz=>by subst z;rw[e]at q;cases q)];exact q⟩
  ·exact .inr q
 |.emp,_,h=>by
  simp only[AW]at h ⊢;obtain⟨b,c,e1,q⟩:=h;exact⟨b,c,e1,by rw[aR (λz=>by subst z;rw[e]at q;cases q;exact f Y2)];exact q⟩
theorem aO.Sq{K:B4}(e:H a=O (.tH o (.dK ks)))(b:ks≠[]):∀{ds:Y Dt} {vs:Y V},aO K H ds vs->aO K (B6 H a (.dK ks)) ds vs
 |[],_,h=>by simpa only[aO]using h
 |d::ds,_,h=>by
  simp only[aO]at h ⊢;obtain⟨v,r,e1,q,t⟩:=h;exact⟨v,r,e1,AW.Sq e b q,aO.Sq e b t⟩
end
def Mc(a:A1)(o:AE)(ks:Y (AY×V)):It:=
 ⟨λi H=>H a=O (.tH o (.dK ks))/\i<ks.length,λi H x H'=>H'=H/\(ks.map λk=>kV k.1)[i]?=O x,λi H=>H a=O (.tH o (.dK ks))/\ks.length<=i⟩
theorem Xj(x:iY P w H h a (.tH o (.dK ks))){es:Array DictEntry}(hd:o.data=.dict es ep):∃vs,KV ks vs/\h.DictAt (bF P w) a vs ep:=by
 obtain⟨e,_,_,vs,b,i,g,f,e2,c,d,r⟩:=x;rw[e]at e2;cases e2;rw[hd]at d;cases d;exact⟨vs,b,o,es,e,c,hd,r⟩
theorem Mm:∀{ks:Y (AY×V)} {vs:Y (AY×A0)},KV ks vs->∀{i:Nat} {p},ks[i]?=O p->∃x,vs[i]?=O (p.1,x)
 |_,_,.nil,i,p,q=>by simp at q
 |_,_,.cons h _,0,p,q=>by simp at q;subst q;exact⟨_,by rw[List.getElem?_cons_zero,h.1]⟩
 |_,_,.cons _ t,i+1,p,q=>by
  rw[qa]at q;obtain⟨x,hx⟩:=Mm t q;exact⟨x,by rw[qa];exact hx⟩
theorem M9(it:A1){es:Array DictEntry}(hd:o.data=.dict es ep)(U:a≠it):C4 P w K tg (Mc a o ks) [it] it (λi h=>h.IsKeyIter it a i ks.length ep) where
 mem:=by simp
 obj:=λi h st b hb=>by
  have e:b=it:=by simpa using hb
  subst e;obtain⟨f,e,c,d⟩:=st;exact⟨f,e,λv z=>by rw[d]at z;cases z⟩
 keep:=λi h h' st k=>st.at λf e=>k it (by simp) f e
 item:=by
  intro X q u n G i AN s σ H E I m st C;subst q u n;obtain⟨y,hi⟩:=C;obtain⟨vs,l,p⟩:=Xj (I.hok _ _ y) hd;have g:ks.length=vs.length:=l.length;obtain⟨x,hx⟩:=Mm l (show ks[i]?=O ks[i] by simp[hi]);obtain⟨f0,f1,f2,D,F,B⟩:=m it (by simp);rw[g]at st;refine wpAny_pyNext_dict_item st p hx λJ h' N A L=>?_;rw[<-g]at A;have M:L2.AU X AN σ H { s with heap:=h' }:=I.turned (t':=s.toks) (λb f hb e=>(L.2 b hb).trans e) f0 f1 D F B;obtain⟨f,e,c,d⟩:=id A;refine⟨J,rfl,LQ (s:={ s with heap:=h' }) e c d (by decide) ⟨kV (ks[i]).1,H,M,?_,⟨rfl,by rw[ZE,z5 hi];rfl⟩,A,λb hb=>(m b hb).1⟩⟩;have Q:mK (ks[i]).1 J=true:=N;rcases bU Q with⟨j,t,e2,e3⟩|⟨z,t,e2,e3⟩
  ·rw[e2,e3];exact⟨t,rfl⟩
  ·rw[e2,e3];exact⟨t,rfl⟩
 done:=by
  intro X q u n G i AN s σ H E I m st C;subst q u n;obtain⟨y,hi⟩:=C;obtain⟨vs,l,p⟩:=Xj (I.hok _ _ y) hd;have g:ks.length=vs.length:=l.length;obtain⟨f0,f1,f2,D,F,B⟩:=m it (by simp);rw[g]at st;exact wpAny_pyNext_dict_end (I.ok.hd G) st p (qr (by omega)) λh' eb=>⟨rfl,I.turned (t':=s.toks) (λb f hb e=>eb b f hb e) f0 f1 D F B⟩
 self:=λ_ _ _ _ _ st h=>wpAny_pyIter_keyiter st h
def Vw:AY->Dt
 |.inl i=>.int i
 |.inr x=>.str x
theorem hW{k:AY}(h:DA k):AW K H (Vw k) (kV k):=by
 cases k with
 |inl i=>unfold Vw AW;rfl
 |inr x=>unfold Vw AW;exact⟨rfl,h⟩
def D6:Bx->S (Y Dt)
 |.n AO=>O (AO.map λp=>Vw p.1)
 |_=>Y3
theorem Zc(h:D6 b=O ds):∃AO,b=.n AO/\ds=AO.map λp=>Vw p.1:=by
 unfold D6 at h;split at h
 ·cases h;exact⟨_,rfl,rfl⟩
 ·cases h
theorem Ej(c:Hs a=O (.tH o (.dK ks)))(rm:gk K Hs AO ks):B0 K (Mc a o ks) (AO.map λp=>Vw p.1) Hs:=.of λi H s=>by
 have f:=rm.len;refine⟨λd e=>?_,λe=>⟨s _ _ c,by rw[zt]at e;omega⟩⟩;rw[ZE]at e;cases hp:AO[i]? with
 |none=>rw[hp]at e;cases e
 |some p=>
  rw[hp]at e;cases e;have hi:i<AO.length:=(List.getElem?_eq_some_iff.mp hp).1;refine⟨⟨s _ _ c,by omega⟩,λx H' y=>?_⟩;obtain⟨y1,y2⟩:=y;refine⟨y1,?_⟩;have h1:(ks.map (·.1))[i]?=O p.1:=by rw[rm.1,ZE,hp];rfl
  rw[ZE]at h1 y2;cases b:ks[i]? with
  |none=>rw[b]at h1;cases h1
  |some q=>
   rw[b]at h1 y2;cases y2;have:q.1=p.1:=by simpa using h1
   show AW K H (Vw p.1) (kV q.1);rw[this];exact hW (rm.2.2 p (QR hp))
theorem Vx{H1:Hp}(e:H1 a=O (.dK ks))(E:bR K H1 H1 (zx is σ++List.replicate n Y3) (lq is ρ++List.replicate n Y3)):bR K (B6 H1 a (.tH o (.dK ks))) (B6 H1 a (.tH o (.dK ks))) (zx is σ++List.replicate n Y3) (lq is ρ++List.replicate n Y3):=by
 have kp:Kp H1 (B6 H1 a (.tH o (.dK ks))):=.dk e;have f:∀(j:Nat) c,(lq is ρ++List.replicate n Y3)[j]?=O (O c)->uR c=false:=λj c e=>by
  by_cases p:j<is.length
  ·rw[ZY (by simp[lq];omega)]at e;unfold lq at e;rw[ZE]at e;cases q:is[j]? with
   |none=>rw[q]at e;cases e
   |some i=>
    rw[q]at e;have:zq ρ i=O c:=by simpa using e
    exact Aa this
  ·rw[QA (by simp[lq];omega),QY]at e;split at e<;>cases e
 refine⟨E.len,λj b eb=>?_,λj k c a b e h=>absurd h (by rw[f j c e];exact ZO),AV.refl _,λj c a e h=>absurd h (by rw[f j c e];exact ZO)⟩;obtain⟨v,ev,r⟩:=E.val j b eb;refine⟨v,ev,?_⟩;cases b with
 |z d=>exact AW.kp kp r
 |o ds=>have:=f j _ eb;cases this
 |m ds _=>have:=f j _ eb;cases this
 |l ds=>
  obtain⟨b,vs,e1,q,r⟩:=r;refine⟨b,vs,e1,?_,r.kp kp⟩;rcases q with q|⟨g,q⟩
  ·exact .inl (by rw[aR (qw q e (by intro z;cases z))];exact q)
  ·exact .inr ⟨g,by rw[aR (qw q e (by intro z;cases z))];exact q⟩
 |n ds=>
  obtain⟨b,vs,e1,q,r⟩:=r;refine⟨b,vs,e1,?_,r.kp kp⟩;by_cases hb:b=a
  ·subst hb;rcases q with q|⟨g,q⟩
   ·rw[e]at q;cases q;exact .inr ⟨o,bH⟩
   ·rw[e]at q;cases q
  ·rcases q with q|⟨g,q⟩
   ·exact .inl (by rw[aR hb];exact q)
   ·exact .inr ⟨g,by rw[aR hb];exact q⟩
end
section
variable{fd:Ev->S Bx}{xs:AZ}
def Ss(fd:Ev->S Bx):Ev->S (Y Dt):=λρ=>(fd ρ).bind D6
theorem Zd(ρ:Ev):DR gt p fe ρ []=O []:=rfl
theorem Sv(ts:AZ)(O:tL X scope cl xs is)(a5:X.calm=true)(hi:QV X iter fd)
  (Mr:∀C d c fp,ZM (yO X (xs++ts) scope cl C d c fp) tgt gt) (a3:∀C d c fp,wK (yO X (xs++ts) scope cl C d c fp) ifs p) (a1:∀C d c fp,QV (yO X (xs++ts) scope cl C d c fp) elt fe) (b0:YB is.length (is.length+ts.length) gt)
  (hs:∀x,foldedSetIterable iter X.env x=pure x:=by intro _;rfl):QV X (.ListComp elt [⟨tgt,iter,ifs,0⟩] scope pos) (fM (Ss fd) gt p fe is ts.length):=⟨λAN s σ H Q I h=>by
 obtain⟨H0,ρ,b,E,e,q⟩:=h;obtain⟨ds,N,e⟩:=AT e;split at e
 ·rename_i a4;obtain⟨c3,l,e⟩:=AT e;cases e;obtain⟨bd,d0,N⟩:=AT N;obtain⟨AO,rfl,rfl⟩:=Zc N;rw[eval_ListComp];refine JJ (use:=Y3) Y2 hs O.clos O.kind O.names ?_;refine iZ (hi.run AN s σ H (λv H1=>AV H H1/\bC X.K H1 (.n AO) v) I ⟨H0,ρ,_,E,d0,λv H1 f _ L=>⟨f,L⟩⟩) λv f ⟨v',H1,I1,rv,s01,L⟩=>?_;obtain⟨a,ks,rfl,g,rm⟩:=L;cases rv;obtain⟨_,d1,vs,kv,t,es,ep,J⟩:=vU I1.hok g;have a0:=J.1;have c0:=J.2.2.1;refine wpAny_pyIter_dict d1 (⟨t,es,J⟩:f.heap.DictAt (bF X.prog X.w) a vs ep) ?_;have b3:a<f.heap.objs.size:=zD a0;have hl:ks.length=vs.length:=kv.length;have b4:∀{H':Hp},L2.AU X AN σ H' f->∀b∈[f.heap.objs.size],tK X AN H' b:=λi b hb=>by
   have e:b=f.heap.objs.size:=by simpa using hb
   subst e;exact i.QZ (zk _) (i.hok.fresh (zk _))
  have a2:Heap.IsKeyIter (f.heap.push { cls:=.type "dict_keyiterator",data:=.fields #[.ref a,.int 0 0,.int vs.length 0,.int ep 0] }) f.heap.objs.size a 0 ks.length ep:=⟨_,zC _ rfl,rfl,by rw[hl];rfl⟩;rcases g with g|⟨o',g⟩
  ·
   have I2:=l5 I1 g a0;have P:L2.AU X AN σ (B6 H1 a (.tH t (.dK ks))) { f with heap:=f.heap.push { cls:=.type "dict_keyiterator",data:=.fields #[.ref a,.int 0 0,.int vs.length 0,.int ep 0] } }:=I2.kept (t':=f.toks) λb o e=>ze _ e;have d2:gk X.K (B6 H1 a (.tH t (.dK ks))) AO ks:=rm.kp (.dk g);refine Ah (B:=Ag) (RR:=λZ C=>compPost (A8 X.prog X.w) X.A X.xe Y3 (EP X AN σ Q) Z C) (ts:=ts) (xs:=xs) O a5 (λC d c fp=>(Mr C d c fp).run) (λC d c fp=>(a3 C d c fp).run) (λC d c fp=>(a1 C d c fp).run) b0 P (Vx g ((E.grow s01).caps is ts.length)) (DW (M9 f.heap.objs.size c0 (z4 b3))) a2 (b4 I2) (Ej bH d2) a4 l ?_;intro D C s' H' us j i G ⟨m,hn⟩ s2' hD' r';have y:H' a=some (.tH t (.dK ks)):=s2' _ _ bH;have b9:D≠a:=λz=>by subst z;rw[bH]at j;cases j
   have c6:H1 D=Y3:=by rw[aR b9]at j;exact j
   have sm:AV H1 (B6 H' a (.dK ks)):=λb u e=>by
    by_cases hb:b=a
    ·subst hb;rw[g]at e;cases e;exact bH
    ·rw[aR hb];exact s2' b u (by rw[aR hb];exact e)
   have rr:aO X.K (B6 H' a (.dK ks)) c3 us:=by
    by_cases hk:ks=[]
    ·have:AO=[]:=by have:=rm.len;rw[hk]at this;exact List.length_eq_zero_iff.mp (by simpa using this.symm)
     subst this;simp only[ko]at l;rw[Zd]at l;cases l;simpa only[aO]using r'
    ·exact aO.Sq y hk r'
   refine⟨m,hn,λh' F=>⟨.ref D,B6 H' a (.dK ks),?_,rfl,q _ _ (s01.trans sm) (λa ea=>by cases ea;exact s01.free c6) ⟨D,us,rfl,by rw[aR b9];exact hD',rr⟩⟩⟩;obtain⟨f0,f1,f2,U,W,M⟩:=G;have c8:C≠a:=λz=>by subst z;rw[y]at f0;cases f0
   exact(Sq (Sk I1 g) i y).turned (t':=s'.toks) (λb o hb e=>(F.2 b hb).trans e) (by rw[aR c8];exact f0) f1 U W M
  ·have d3:o'=t:=by
    have:=(I1.hok _ _ g).1;rw[a0]at this;cases this;rfl
   subst d3;have P:L2.AU X AN σ H1 { f with heap:=f.heap.push { cls:=.type "dict_keyiterator",data:=.fields #[.ref a,.int 0 0,.int vs.length 0,.int ep 0] } }:=I1.kept (t':=f.toks) λb o e=>ze _ e;refine Ah (B:=Ag) (RR:=λZ C=>compPost (A8 X.prog X.w) X.A X.xe Y3 (EP X AN σ Q) Z C) (ts:=ts) (xs:=xs) O a5 (λC d c fp=>(Mr C d c fp).run) (λC d c fp=>(a3 C d c fp).run) (λC d c fp=>(a1 C d c fp).run) b0 P ((E.grow s01).caps is ts.length) (DW (M9 f.heap.objs.size c0 (z4 b3))) a2 (b4 I1) (Ej g rm) a4 l ?_;intro D C s' H' us j i G ⟨m,hn⟩ s2' hD' r';refine⟨m,hn,λh' F=>⟨.ref D,H',?_,rfl,q _ _ (s01.trans s2') (λa ea=>by cases ea;exact s01.free j) ⟨D,us,rfl,hD',r'⟩⟩⟩;obtain⟨f0,f1,f2,U,W,M⟩:=G;exact i.turned (t':=s'.toks) (λb o hb e=>(F.2 b hb).trans e) f0 f1 U W M
 ·cases e⟩
end
theorem Sw{R:Result->A2->Prop}{d:A1}{AO:Y (AY×A0)}(J:A.handled=Y3)(hd:(d==sysModules)=false)(g:s.heap.DictAt (bF prog w) d AO ep)(W:AO.length<=AA)(S:A1)(p:d≠S)(l:A0)(y:Nat)(u:s.heap.get? S=O { cls:=.type "list",data:=.seq #[] y })(M:∀h' tk j a,(∀b o,b≠S->s.heap.get? b=O o->h'.get? b=O o)->h'.get? S=O { cls:=.type "list",dict:=Y3,data:=.seq j a,slots:=#[] } →
   ItemsOf (λi v=>∃k x,AO[i]?=O (k,x)/\(bF prog w).is k v=true) j AO.length->R (.ok (.ret l)) { s with heap:=h',toks:=tk }):
  A7 (A8 prog w) A.in1 (Builtin.List.listExtendWith (.ref S) (.ref d) l)
   (λD s'=>match D with|.done f=>R (.ok f) s'|.again a=>a.quiet=true/\AF (A8 prog w) A a R s') (λe s'=>R (.error e) s') s:=by
 have L:d<s.heap.objs.size:=by obtain⟨o,_,K,_⟩:=g;exact zD K
 have N:S<s.heap.objs.size:=zD u;unfold Builtin.List.listExtendWith;refine zd (Q3 (T :="dict") g.dictOf.typeIs ?_);have h1:Builtin.List.listSameRef (.ref S) (.ref d)=false:=by simp[Builtin.List.listSameRef];exact λe=>p e.symm
 simp only[h1,show(Value.type "dict"==Value.type "list")=false by decide,show(Value.type "dict"==Value.type "tuple")=false by decide,Bool.or_false,zv,ZU];refine zd (wpAny_pyIter_dict hd g ?_);refine zd (QQ ?_);have c:=g.at' (h':=s.heap.push { cls:=.type "dict_keyiterator",data:=.fields #[.ref d,.int 0 0,.int AO.length 0,.int ep 0] }) λo e=>ze _ e;unfold Builtin.List.listLengthHint;refine zd (wpAny_specialOf (T :="dict") c.dictOf.typeIs F.slot_dict_len.lookup ?_)
 wp_delta
 refine zd (kC (T :="dict") (b:=true) c.dictOf.typeIs (by rw[isSubtype_type];kernel_rfl) ?_);show A7 _ A.in1 (typeOf (Value.ref d) >>= _) _ _ _;refine zd (Q3 (T :="dict") c.dictOf.typeIs (zg ?_));rw[zr (by decide)];show A7 _ A.in1 (Builtin.List.listTouch (Value.ref S) >>= λ_=>again (Code.builtin "list.extend.loop" ⟨[Value.ref S,Value.ref s.heap.objs.size,l],[]⟩)) _ _ _;generalize m:s.heap.push { cls:=.type "dict_keyiterator",data:=.fields #[.ref d,.int 0 0,.int AO.length 0,.int ep 0] }=G at c ⊢;have n:G.get? S=O { cls:=.type "list",data:=.seq #[] y }:=by
  rw[<-m];exact ze _ u
 have B:G.get? s.heap.objs.size=O { cls:=.type "dict_keyiterator",data:=.fields #[.ref d,.int 0 0,.int AO.length 0,.int ep 0] }:=by
  rw[<-m];exact zC _ rfl
 unfold Builtin.List.listTouch;refine zd (zd (listUpdate_at n Y2 (listUpdate_at (get?_update_seq n _) Y2 ?_ (by show _<=_;decide) (by show _<=_;decide)) (by show _<=_;decide) (by show _<=_;decide)));have z:s.heap.objs.size≠S:=k9 N;have t:=get?_update_seq (get?_update_seq n (λx=>x.push Value.none)) (λx=>x.pop);generalize Q:(G.update S (Obj.mapSeq λx=>x.push Value.none)).update S (Obj.mapSeq λx=>x.pop)=U at t;have keep:∀b,b≠S->U.get? b=G.get? b:=λb hb=>by rw[<-Q,kb _ _ _ _ hb,kb _ _ _ _ hb]
 have C:U.IsKeyIter s.heap.objs.size d 0 AO.length ep/\U.DictAt (bF prog w) d AO ep:=⟨⟨_,(keep _ z).trans B,rfl,rfl⟩,c.at' λo e=>(keep d p).trans e⟩;show A7 _ A.in1 (again _) _ _ { s with heap:=U };have P:S∉[s.heap.objs.size,d]:=λh=>by
  simp only[jI,JI,or_false]at h;rcases h with h|h
  ·exact z h.symm
  ·exact p h.symm
 refine zg ⟨plainId_quiet F.plain_extend_loop _,codeAny_extend_loopS (Walks.dictKeys (A:=A.in1) J s.heap.objs.size d (z4 L) AO ep).toS W S P _ AO.length 0 { s with heap:=U } #[] _ Y2 (QU _) C t (ItemsOf.nil _) λs' j a q X E=>?_⟩;rw[Moved.eq_with q];refine M s'.heap s'.toks j a (λb I hb e=>?_) X E;have H:=zD e;refine q.heap b I (λh=>?_) ((keep b hb).trans ?_)
 ·simp only[jI,JI,or_false]at h;rcases h with h|h
  ·exact hb h
  ·exact z4 H h
 ·rw[<-m];exact ze _ e
theorem Iz{Q:B8}{d:A1}{AO:Y (AY×A0)}(y:A.handled=Y3)(hd:(d==sysModules)=false)(j:s.heap.DictAt (bF prog w) d AO ep)(D:AO.length<=AA)(u:∀h' tk c f,(∀b o,s.heap.get? b=O o->h'.get? b=O o) →
   h'.get? s.heap.objs.size=O { cls:=.type "list",dict:=Y3,data:=.seq c f,slots:=#[] }->ItemsOf (λi v=>∃k x,AO[i]?=O (k,x)/\(bF prog w).is k v=true) c AO.length->Q (.ref s.heap.objs.size) { s with heap:=h',toks:=tk }):
  A7 (A8 prog w) A (call (.type "list") [.ref d]) Q E s:=by
 have n:d<s.heap.objs.size:=by obtain⟨o,_,z,_⟩:=j;exact zD z
 refine callType_codes (Q₁:=λl h=>l=.ref s.heap.objs.size/\h={ s with heap:=s.heap.push { cls:=.type "list",data:=.seq #[] } }) F.called_list (F.typeCall_list_1 _) F.entry_list_init
  (code_list_new _ ⟨rfl,rfl⟩) λl h t=>?_
 obtain⟨rfl,rfl⟩:=t;have a:(s.heap.push { cls:=.type "list",data:=.seq #[] }).get? s.heap.objs.size=O { cls:=.type "list",data:=.seq #[] }:=zC _ rfl;have g:=j.at' (h':=s.heap.push { cls:=.type "list",data:=.seq #[] }) λo e=>ze _ e;refine⟨⟨_,a,rfl⟩,F.args_list_init_2 _ _,?_⟩;generalize p:s.heap.push { cls:=.type "list",data:=.seq #[] }=H at a g ⊢;show A7 _ _ (do let old <-Builtin.List.listItems (.ref s.heap.objs.size);Builtin.List.listUpdate (.ref s.heap.objs.size) (λ_=>#[]);letGo old.toList.reverse;Builtin.List.listExtendWith (.ref s.heap.objs.size) (.ref d) .none) _ _ { s with heap:=H };refine zd ?_;unfold Builtin.List.listItems;refine zd (wpAny_seqItems a Y2 (zg ?_));show A7 _ _ (updateSeq s.heap.objs.size (λ_=>#[]) >>= λ_=>letGo (#[]:Array A0).toList.reverse >>= λ_=>Builtin.List.listExtendWith (.ref s.heap.objs.size) (.ref d) .none) _ _ _;refine zd (wpAny_updateSeq a Y2 ?_);have C:=KS (Obj.mapSeq (λ_=>(#[]:Array A0))) a rfl;have m:∀b o,b≠s.heap.objs.size->H.get? b=O o->(H.update s.heap.objs.size (Obj.mapSeq (λ_=>(#[]:Array A0)))).get? b=O o:=
  λb o hb e=>(Heap.get?_update_other _ _ (KB hb)).trans e
 refine zd (wpAny_letGo ?_);refine Sw (A:=A.in1) y hd (g.at' λo e=>m d o (z4 n) e) D s.heap.objs.size (z4 n) .none _ C λh' tk c f B G q=>?_;exact⟨rfl,u h' tk c f (λb o e=>B b o (z4 (zD e)) (m b o (z4 (zD e)) (by rw[<-p];exact ze _ e))) G q⟩
theorem aS{P:Nat->A0->Prop}(val:Nat->AJ)(a:∀i v,P i v->∃t,v=.str (val i) t):CmpOf prog w A .Lt P (λi j=>decide ((val i).cps.toList<(val j).cps.toList)):=λi j d b s Q E hi c h=>by
 obtain⟨t,rfl⟩:=a i d hi;obtain⟨u,rfl⟩:=a j b c;exact richCompare_gives (op:=.Lt) (typeIs_str s _ t) (typeIs_str s _ u) F.slot_str_lt F.entry_str_lt (F.args_str_lt_2 _ _) (gives_str_lt _ _ t u) (λx=>nomatch x) h
def two(a b:AJ)(i:Nat):AJ:=if i=0 then a else b
theorem et{a b:AJ}{t u:Tok}(i:Nat)(v:A0)(h:(#[Value.str a t,Value.str b u])[i]?=O v):∃t',v=.str (two a b i) t':=by
 match i,h with
 |0,h=>cases h;exact⟨t,rfl⟩
 |1,h=>cases h;exact⟨u,rfl⟩
 |_+2,h=>simp at h
theorem gN{a b:AJ}{t u:Tok}{Q:B8}{d:Nat->Nat->Bool}(B:A.handled=Y3)(f:CmpOf prog w A.in1 op (λi v=>(#[Value.str a t,Value.str b u])[i]?=O v) d)(h:∀h' tk,(∀c o,s.heap.get? c=O o->h'.get? c=O o)->Q (if d 1 0=true then .str b u else .str a t) { s with heap:=h',toks:=tk }):
  A7 (A8 prog w) A.in1 (pyIter (.ref s.heap.objs.size)) (λit j=>∃I fp wr n P St d,it=.ref I/\Walks prog w A.in1 I fp wr n P St/\St 0 j.heap/\(∀b∈fp,b<j.heap.objs.size)/\0<n/\CmpOf prog w A.in1 op P d ∧
   ∀v h' tk,P (argBest d (n-1)) v->(∀b o,b∉wr->j.heap.get? b=O o->h'.get? b=O o)->Q v { j with heap:=h',toks:=tk }) E
   { s with heap:=s.heap.push { cls:=.type "tuple",data:=.seq #[.str a t,.str b u] } }:=by
 have q:(s.heap.push { cls:=.type "tuple",data:=.seq #[.str a t,.str b u] }).IsTuple s.heap.objs.size #[.str a t,.str b u]:=⟨_,zC _ rfl,rfl,0,rfl⟩;refine wpAny_pyIter_tuple q ?_;have l:(s.heap.push { cls:=.type "tuple",data:=.seq #[.str a t,.str b u] }).objs.size=s.heap.objs.size+1:=qk ..;refine⟨_,[_,s.heap.objs.size],[_],_,_,_,d,rfl,Walks.tuple (A:=A.in1) B _ s.heap.objs.size (by rw[l];exact z4 (qf _)) #[.str a t,.str b u],
  ⟨⟨_,zC _ rfl,rfl,rfl⟩,q.push _⟩,λc f=>?_,by simp,f,λv h' tk y x=>?_⟩
 ·show c<((s.heap.push _).push _).objs.size;rw[qk,l];rcases List.mem_cons.mp f with rfl|f
  ·rw[l];exact qf _
  ·rcases List.mem_cons.mp f with rfl|f
   ·exact qV (qf _)
   ·cases f
 ·have hold:∀c o,s.heap.get? c=O o->h'.get? c=O o:=λc o e=>by
   refine x c o (λm=>?_) (ze _ (ze _ e));rcases List.mem_cons.mp m with e1|m
   ·have:=zD e;rw[e1,l]at this;exact kc _ (Nat.lt_of_succ_lt this)
   ·cases m
  have:=h h' tk hold;have z:v=if d 1 0=true then Value.str b u else Value.str a t:=by
   have g:(#[Value.str a t,Value.str b u])[argBest d 1]?=O v:=y;unfold argBest argBest at g;by_cases p:d 1 0=true
   ·rw[zr p]at g ⊢;exact(by simpa using g.symm)
   ·rw[zI p]at g ⊢;exact(by simpa using g.symm)
  rw[z];exact this
def IK:Y Bx->S Bx
 |[.z (.str a),.z (.str b)]=>O (.z (.str (if ahw b a=true then b else a)))
 |_=>Y3
where ahw (x y:AJ):Bool:=decide (x.cps.toList<y.cps.toList)
theorem gf(g:X.calm=true):rA X (.builtin "min") IK:=by
 intro AN s σ H xs us Q I r h;obtain⟨bs,c,j,e,q⟩:=h;unfold IK at e;split at e
 ·rename_i a b;cases e;obtain⟨v,w,rfl,d,f⟩:=HM j;obtain⟨rfl,h1⟩:=YF d;obtain⟨rfl,h2⟩:=YF f;obtain⟨u,n,rfl,i,l⟩:=AX.two r;obtain⟨t,rfl⟩:=i;obtain⟨m,rfl⟩:=l;refine call_min_two (gN (I.ok.hd g) (aS (two a b) et) λh' tk kp=>?_);show EP X AN σ Q (if IK.ahw b a=true then _ else _) _;by_cases hb:IK.ahw b a=true
  ·rw[zr hb]at q ⊢;exact⟨.str b,H,I.kept kp,⟨_,rfl⟩,q _ H (AV.refl H) trivial f⟩
  ·rw[zI hb]at q ⊢;exact⟨.str a,H,I.kept kp,⟨_,rfl⟩,q _ H (AV.refl H) trivial d⟩
 ·cases e
def IV:Y Bx->S Bx
 |[.n AO]=>(YL AO).bind λys=>O (.o (ys.map Dt.str))
 |_=>Y3
theorem aw(g:X.calm=true):rA X (.type "list") IV:=by
 intro AN s σ H xs us Q I r h;obtain⟨bs,c,i,e,q⟩:=h;unfold IV at e;split at e
 ·rename_i AO;obtain⟨ys,b,e⟩:=AT e;cases e;have l:AO.length=ys.length:=by have:=congrArg List.length (yq b);simpa using this
  obtain⟨v,rfl,p⟩:=BH i;obtain⟨a,ks,rfl,C,rm⟩:=p;obtain⟨u,rfl,m⟩:=BB r;cases m;obtain⟨n,A,vs,d,o,es,ep,j⟩:=vU I.hok C;have t:vs.map (·.1)=ys.map Sum.inr:=by rw[W6 d,rm.1];exact yq b
  have E:ks.length=vs.length:=d.length;refine Iz (I.ok.hd g) A ⟨o,es,j⟩ (by omega) λh' tk D B ext x z=>?_;have z1:=Vj t z;have w:∀y∈ys,y.length<=AA:=UM b rm.2.2;have f:=I.hok.fresh (zk s.heap.objs.size);refine⟨.ref s.heap.objs.size,_,I.laid (t':=tk) (a:=s.heap.objs.size) (o:=.lst (ys.map V.str)) ext (zk _) ?_,rfl,q _ _ (cg f) (λa ea=>by cases ea;exact f) ⟨_,_,rfl,bH,Ao w⟩⟩;refine⟨by rw[zt,<-l,<-rm.len];exact n,D.toList,B,yj z1,?_⟩;rw[x]
 ·cases e
def CC(H:Hp)(a:A1):Hp:=λb=>if b=a then Y3 else H b
theorem Xk{b:A1}(h:b≠a):CC H a b=H b:=zI h
theorem Xl:CC H a a=Y3:=zr rfl
def DL:Bx->Bool
 |.z _=>true
 |_=>false
def FR(K:B4)(n:Nat)(G:A1->Y (AY×Dt)->Y Bx->S (Y (AY×Dt))):Sp:=λvs H Q _=>vs.length=n+1/\∃a ks AO AS bs b,vs=.ref a::AS/\H a=O (.dK ks)/\gk K H AO ks/\ux K H bs AS/\bs.all DL=true/\G a AO bs=O b/\∀H' c,AV (CC H a) H'->H' a=O (.dK c)->gk K H' b c->Q .non H'
def Sx(n:Nat)(g:Ev->S Ap):A1->Y (AY×Dt)->Y Bx->S (Y (AY×Dt)):=λa AO bs=>(g ((Bx.m AO (O a)::bs).map O++List.replicate (n-(bs.length+1)) Y3)).bind λr=>match r with
 |.nx ρ=>match ρ[0]? with
  |some (O (Bx.m kvs' (O b)))=>if b=a then O kvs' else Y3
  |_=>Y3
 |_=>Y3
theorem Vy{c:Y (AY×Dt)}{bs:Y Bx}(h:Sx n g a AO bs=O c):∃ ρ,g ((Bx.m AO (O a)::bs).map O++List.replicate (n-(bs.length+1)) Y3)=O (.nx ρ)/\ρ[0]?=O (O (.m c (O a))):=by
 obtain⟨r,er,h⟩:=AT h;cases r with
 |nx ρ=>
  dsimp only at h;split at h
  ·rename_i k b e;split at h
   ·rename_i hb;cases h;subst hb;exact⟨ρ,er,e⟩
   ·cases h
  ·cases h
 |rt _=>cases h
 |bk _=>cases h
 |ct _=>cases h
theorem IW{α β:Type}{R:α->β->Prop}:∀{xs:Y α} {ys:Y β},AI R xs ys->∀{i:Nat} {x:α},xs[i]?=O x->∃y,ys[i]?=O y/\R x y
 |_,_,.nil,i,x,q=>by simp at q
 |_,_,.cons r _,0,x,q=>by simp at q;subst q;exact⟨_,rfl,r⟩
 |_,_,.cons _ t,i+1,x,q=>by
  rw[qa]at q;obtain⟨y,y1,y2⟩:=IW t q;exact⟨y,by rw[qa];exact y1,y2⟩
theorem bR.startM{bs:Y Bx}{AS:Y V}{ks:Y (AY×V)}(s:H a=O (.dK ks))(rm:gk K H AO ks)(r:ux K H bs AS)(p:bs.all DL=true):bR K (CC H a) H (L2.start N (.ref a::AS)) ((Bx.m AO (O a)::bs).map O++List.replicate (N.length-(bs.length+1)) Y3):=by
 have n:bs.length=AS.length:=Paired.length r;have u:ux K H (.m AO (O a)::bs) (.ref a::AS):=.cons ⟨a,ks,rfl,s,rm,λb h=>by cases h;rfl⟩ r;have get:∀(i:Nat) b,((Bx.m AO (O a)::bs).map O++List.replicate (N.length-(bs.length+1)) Y3)[i]?=O (O b)->(Bx.m AO (O a)::bs)[i]?=O b:=λi b e=>by
  by_cases hi:i<(Bx.m AO (O a)::bs).length
  ·rw[ZY (by simpa using hi),ZE]at e;cases q:(Bx.m AO (O a)::bs)[i]? with
   |none=>rw[q]at e;cases e
   |some w=>rw[q]at e;simpa using e
  ·rw[QA (by simp at hi ⊢;omega),QY]at e;split at e<;>cases e
 have l:∀(i:Nat) b,((Bx.m AO (O a)::bs).map O++List.replicate (N.length-(bs.length+1)) Y3)[i]?=O (O b)->i≠0->loose b=false:=λi b e hi=>by
  have e2:=get i b e;cases i with
  |zero=>exact absurd Y2 hi
  |succ j=>
   rw[qa]at e2;have:=List.all_eq_true.mp p b (QR e2);cases b<;>first|rfl|cases this
 have g:∀c,uR c=true->loose c=true:=λc d=>by cases c<;>first|rfl|cases d
 have zero:∀(i:Nat) c,((Bx.m AO (O a)::bs).map O++List.replicate (N.length-(bs.length+1)) Y3)[i]?=O (O c)->loose c=true->i=0:=λi c e d=>by
  by_cases hi:i=0
  ·exact hi
  ·rw[l i c e hi]at d;cases d
 have st:∀i v,(Value.ref a=Value.ref a)->(V.ref a::AS)[i]?=O v->(L2.start N (.ref a::AS))[i]?=O (O v):=λi v _ e=>by
  have hi:i<(V.ref a::AS).length:=(List.getElem?_eq_some_iff.mp e).1;unfold L2.start;rw[ZY (by simpa using hi),ZE,e];rfl
 refine⟨by unfold L2.start;simp[n],λi b e=>?_,λi j c x b e1 f _ e3 hb _=>?_,λb o e=>?_,λi c x e f e2=>?_⟩
 ·obtain⟨v,e1,t⟩:=IW u (get i b e);exact⟨v,st i v Y2 e1,t⟩
 ·rw[zero i c e1 (g c f),zero j b e3 hb]
 ·by_cases hb:b=a
  ·subst hb;rw[Xl]at e;cases e
  ·rw[Xk hb]at e;exact e
 ·have hi:=zero i c e (g c f);subst hi;rw[st 0 (.ref a) Y2 rfl]at e2;cases e2;exact Xl
theorem UU{st:AB}{f:A1}{k m:Nat}(F:Cb K x qual st f fd)(S:bI N ps (aQ st))(p:N.length=n)(z:ps.length=m+1)(i:∀(c:A0) (A:A5) (outer:Y Env) (s:A2) (H:Hp) (E:XK),pB k (A.deeper (AK qual (aQ st) s.heap.objs.size f c))->U7 (Hl Kq P w K mg base N qual (aQ st) f c A outer s H E).nox (j4 st) g):
  uP P w K mg base Kq (k+1) f fd ps (FR K m (Sx n g)):=by
 subst p;refine F.ok S (λvs H Q E h=>by rw[z];exact h.1) λc A outer s H vs Q E y h=>?_;obtain⟨C,a,ks,AO,AS,bs,D,rfl,B,rm,t,j,e,q⟩:=h;refine⟨_,(i c A outer s H E y).run,?_⟩;obtain⟨ρ,er,e0⟩:=Vy e;refine⟨CC H a,_,_,bR.startM B rm t j,er,?_⟩;intro σ' H' d;obtain⟨v,ev,b,o,rfl,hb,l,u⟩:=d.val 0 _ e0;have:=u a rfl;subst this;exact q H' o d.base hb l
open Classical in
noncomputable def Ja(i n:Nat)(G:A1->Y (AY×Dt)->Y Bx->S (Y (AY×Dt)))(fs:Ev->S (Y Bx)):Ev->S Ap:=λρ=>match ρ[i]? with
 |some (O (.m AO w))=>(fs ρ).bind λbs=>if h:bs.length=n/\bs.all DL=true/\∃b,∀a,G a AO bs=O b then O (.nx (ρ.set i (O (.m (Classical.choose h.2.2) w))))else Y3
 |_=>Y3
theorem Vz{fs:Ev->S (Y Bx)}{r:Ap}(h:Ja i n G fs ρ=O r):∃AO w bs c,ρ[i]?=O (O (.m AO w))/\fs ρ=O bs/\bs.length=n/\bs.all DL=true/\(∀a,G a AO bs=O c)/\r=.nx (ρ.set i (O (.m c w))):=by
 unfold Ja at h;split at h
 ·rename_i AO w e;obtain⟨bs,eb,h⟩:=AT h;split at h
  ·rename_i b;cases h;exact⟨AO,w,bs,_,e,eb,b.1,b.2.1,Classical.choose_spec b.2.2,rfl⟩
  ·cases h
 ·cases h
theorem fA{fs:Ev->S (Y Bx)}{b:Y (AY×Dt)}{w:S A1}{bs:Y Bx}(e:ρ[i]?=O (O (.m AO w)))(eb:fs ρ=O bs)(g:bs.length=n)(h:bs.all DL=true)(c:∀a,G a AO bs=O b):Ja i n G fs ρ=O (.nx (ρ.set i (O (.m b w)))):=by
 unfold Ja;rw[e];simp only[eb,alC];have d:bs.length=n/\bs.all DL=true/\∃b,∀a,G a AO bs=O b:=⟨g,h,b,c⟩;rw[dif_pos d];have:=Classical.choose_spec d.2.2 0;rw[c 0]at this;injection this with this;rw[<-this]
where alC {α β:Type} (a:α) (f:α->S β):(O a).bind f=f a:=rfl
theorem bR.ajQ{H':Hp}{D:Y (AY×Dt)}{w:S A1}{ks I:Y (AY×V)}(E:bR K H0 H σ ρ)(h:ρ[i]?=O (O (.m AO w)))(hs:σ[i]?=O (O (.ref a)))(J:H a=O (.dK ks))(M:AV (CC H a) H')(L:H' a=O (.dK I))(rm:gk K H' D I)(Z:∀b,w=O b->b=a):
  bR K H0 H' σ (ρ.set i (O (.m D w))):=by
 have hi:i<ρ.length:=(List.getElem?_eq_some_iff.mp h).1;have hb:H0 a=Y3:=E.new i _ a h Y2 hs;have g:∀b u,b≠a->H b=O u->H' b=O u:=λb u C e=>M b u (by rw[Xk C];exact e);have kp:Kp H H':=⟨λb xs e=>g b _ (qw e J (by intro z;cases z)) e,λb ob u e=>g b _ (qw e J (by intro z;cases z)) e⟩;refine⟨by rw[kP];exact E.len,λj A e=>?_,λj Q c f A e1 F e2 e3 W X=>?_,λc o e=>?_,λj c f e1 F e2=>?_⟩
 ·rcases BA e with⟨rfl,e',_⟩|⟨C,e'⟩
  ·cases e';exact⟨_,hs,a,I,rfl,L,rm,Z⟩
  ·obtain⟨v,e1,x⟩:=E.val j A e';refine⟨v,e1,?_⟩;have B:∀f,v=.ref f->loose A=true->f≠a:=λf ev N z=>by
    subst z;exact C (E.own i j _ _ _ h Y2 hs e' N (by rw[e1,ev])).symm
   cases A with
   |z d=>exact AW.kp kp x
   |l G=>
    obtain⟨f,p,rfl,q,s⟩:=x;have y:=B f Y2 rfl;exact⟨f,p,rfl,q.imp (g _ _ y) λ⟨o,q⟩=>⟨o,g _ _ y q⟩,s.kp kp⟩
   |o G=>
    obtain⟨f,p,rfl,q,s⟩:=x;exact⟨f,p,rfl,g _ _ (B f Y2 Y2) q,s.kp kp⟩
   |n G=>
    obtain⟨f,p,rfl,q,s⟩:=x;have y:=B f Y2 rfl;exact⟨f,p,rfl,q.imp (g _ _ y) λ⟨o,q⟩=>⟨o,g _ _ y q⟩,s.kp kp⟩
   |m G _=>
    obtain⟨f,p,rfl,q,s,P⟩:=x;exact⟨f,p,rfl,g _ _ (B f Y2 Y2) q,s.kp kp,P⟩
 ·have back:∀{j:Nat} {c:Bx},(ρ.set i (O (.m D w)))[j]?=O (O c)->∃t,ρ[j]?=O (O t)/\(uR c=true->uR t=true)/\(loose c=true->loose t=true):=λ{j c} e=>by
   rcases BA e with⟨rfl,e',_⟩|⟨_,e'⟩
   ·exact⟨_,h,λ_=>Y2,λ_=>Y2⟩
   ·exact⟨c,e',id,id⟩
  obtain⟨t,p1,p2,_⟩:=back e1;obtain⟨b2,q1,_,U⟩:=back e3;exact E.own j Q t f b2 p1 (p2 F) e2 q1 (U W) X
 ·have e2:=E.base c o e;exact g c o (λz=>by subst z;rw[hb]at e;cases e) e2
 ·rcases BA e1 with⟨rfl,e',_⟩|⟨_,e'⟩
  ·exact E.new _ _ f h Y2 e2
  ·exact E.new j c f e' F e2
section
variable{fs:Ev->S (Y Bx)}{p px spos:Pos}{k:Nat}{f:A1}
theorem eW(i:Nat)(F:uP X.prog X.w X.K X.mg X.base Kq k f fd ps (FR X.K n G))(u:pB k X.A)(I:Gl X x)(o:X.mg x=O (.ref f))(C:keepIn X.K (.ref f)=true)(hb:BQ X.K fd ps [])
  (s:Yw X es fs) (P:X.N[i]?=O y:=by rfl) (Z:ZK X.env.scope y:=by first|exact ku rfl|exact j3 (ku Y2)|exact j3 (j3 Y2)) (hd:(y==("__debug__":AJ))=false:=by decide)
  (z:(y==("__classdict__":AJ))=false:=by decide) (L:(x==("__debug__":AJ))=false:=by decide) (he:A9 (.Name y px::es) X.env=(false,eval (.Name y px) X.env)::A9 es X.env:=by rfl) (U:(AD pos (A9 es X.env)).any (·.1)=false:=by rfl) (hs:swapsWith (.Call (.Name x p) (.Name y px::es) [] pos) Y3 spos.line X.env=pure false:=by rfl):
  Rj X (.Expr (.Call (.Name x p) (.Name y px::es) [] pos) spos) (Ja i n G fs):=⟨WL (Od (Wv F u I o C hb .nil N9 (xX (wG (i:=i) P Z hd z) s.run he) L he U) hs) λD σ H h=>by
 obtain⟨H0,ρ,r,E,e,q⟩:=h;obtain⟨AO,w,bs,m,g,eb,l,t,B,rfl⟩:=Vz e;obtain⟨v,e1,a,ks,rfl,Q,rm,W⟩:=E.val i _ g;refine⟨_,e1,H0,ρ,bs,E,eb,λvs H1 b c=>?_⟩;have d:=b _ _ Q;refine⟨by simp only[qv,Z3];rw[<-Paired.length c,l],a,ks,AO,vs,bs,m,by simp,d,rm.kp (.of b),c,t,B a,λH' a0 j M J=>?_⟩;exact q σ H' ((E.grow b).ajQ g e1 d j M J W)⟩
end
def DV:S Bool->Bool
 |some true=>true
 |_=>false
def FB(x:Dt)(ys:Y Dt):S Bool:=if(ys.all λy=>(Fl y x).isSome&&decide (min (yP y) (yP x)<=60))=true then O (ys.any λy=>DV (Fl y x))else Y3
def VB(a b:Bx):S Bx:=match a with
 |.z d=>(wR b).bind λys=>(FB d ys).bind λk=>O (.z (.bl (!k)))
 |_=>Y3
theorem NY(I:L2.AU X AN σ H s)(G:X.A.units+100<cLine){x:V}(B:AW X.K H d x)(z:Au x u){ys:Y Dt}(rs:aO X.K H ys vs)(n:AX vs AQ){k:Bool}(a:FB d ys=O k):
  ∃e:A0->Bool,(∀y,y∈AQ->SeqAt.EqAt X.A.in1 s y u (e y))/\AQ.any e=k:=by
 unfold FB at a;split at a
 ·rename_i o;injection a with a;rw[qB]at o;have at_:∀(i:Nat) y,AQ[i]?=O y->∃c,ys[i]?=O c/\SeqAt.EqAt X.A.in1 s y u (DV (Fl c d)):=λi y l=>by
   have t:=n.length;have D:=rs.length;have hi:i<AQ.length:=(List.getElem?_eq_some_iff.mp l).1;have f:i<ys.length:=by omega
   obtain⟨v,ev,C⟩:=rs.get (show ys[i]?=O ys[i] by simp[f]);obtain⟨F,p,w⟩:=n.get ev;rw[l]at p;cases p;refine⟨ys[i],by simp[f],?_⟩;have g:=o ys[i] (y9 f);rw[ZT]at g;obtain⟨b,hb⟩:=Option.isSome_iff_exists.mp g.1;have:=LA I 60 (A:=X.A.in1) (qi g.2) (by rw[units_in1];omega) C B w z hb;rw[hb];cases b<;>exact this
  classical
  refine⟨λy=>decide (∃(i:Nat) (c:Dt),AQ[i]?=O y/\ys[i]?=O c/\DV (Fl c d)=true),λy l=>?_,?_⟩
  ·dsimp only;by_cases q:∃(i:Nat) (c:Dt),AQ[i]?=O y/\ys[i]?=O c/\DV (Fl c d)=true
   ·rw[ZH q];obtain⟨i,c,h1,h2,j⟩:=q;obtain⟨J,e1,e2⟩:=at_ i y h1;rw[h2]at e1;cases e1;rw[j]at e2;exact e2
   ·rw[ZN q];obtain⟨i,hi,m⟩:=JA l;have h1:AQ[i]?=O y:=by rw[z5 hi,m]
    obtain⟨c,e1,e2⟩:=at_ i y h1;have:DV (Fl c d)=false:=by
     cases E:DV (Fl c d)with
     |false=>rfl
     |true=>exact absurd ⟨i,c,h1,e1,E⟩ q
    rw[this]at e2;exact e2
  ·rw[<-a,Q2,Q4,Q4];constructor
   ·rintro⟨y,l,h⟩;obtain⟨i,c,h1,h2,j⟩:=qi h;exact⟨c,QR h2,j⟩
   ·rintro⟨c,g,j⟩;obtain⟨i,hi,m⟩:=JA g;have t:=n.length;have D:=rs.length;have f:i<AQ.length:=by omega
    exact⟨AQ[i],y9 f,ZH ⟨i,c,by simp[f],by rw[z5 hi,m],j⟩⟩
 ·cases a
theorem Pu(n:X.A.units+100<cLine):Gs X (AG .NotIn) VB:=by
 intro AN s σ H x y v u Q I l B h;obtain⟨a,b,c,m,t,e,q⟩:=h;unfold VB at e;split at e
 ·rename_i d;obtain⟨ys,z,e⟩:=AT e;obtain⟨k,ek,e⟩:=AT e;cases e;obtain⟨p,vs,rfl,sq,j⟩:=GP t z;cases B;rcases sq with sq|sq
  ·obtain⟨AQ,i,pl,o⟩:=I.list sq;obtain⟨f,f1,f2⟩:=NY I n m l j i ek;refine SeqAt.notIn_listAt f pl.isList (λw g=>f1 w (by simpa using g)) ⟨.bl (!k),H,I,by rw[show AQ.toArray.any f=AQ.any f by simp,f2];rfl,q _ H (AV.refl H) trivial (by simp only[bC,AW])⟩
  ·obtain⟨AQ,i,pl,o⟩:=I.tuple sq;obtain⟨f,f1,f2⟩:=NY I n m l j i ek;refine SeqAt.notIn_tupleAt f pl (λw g=>f1 w (by simpa using g)) ⟨.bl (!k),H,I,by rw[show AQ.toArray.any f=AQ.any f by simp,f2];rfl,q _ H (AV.refl H) trivial (by simp only[bC,AW])⟩
 ·cases e
section
variable{st:Y AB}
def K'(i:Nat)(ρ:Ev):S Ev:=match ρ[i]? with
 |some (O (.o ds))=>O (ρ.set i (O (.z (.lst ds))))
 |_=>Y3
def FE(i:Nat)(g:Ev->S Ap):Ev->S Ap:=λρ=>(K' i ρ).bind g
theorem dy(h:Uw X st g):Uw X st (FE i g):=by
 intro AN s σ H D I q;obtain⟨H0,ρ,r,E,e,f⟩:=q;obtain⟨m,e1,e2⟩:=AT e;unfold K' at e1;split at e1
 ·rename_i ds b;cases e1;obtain⟨v,l,a,vs,rfl,c,j⟩:=E.val i _ b;obtain⟨o,d⟩:=HB I c;have kp:Kp H (B6 H a (.tH o (.lst vs))):=.lst c;refine h AN s σ _ D d ⟨H0,_,r,E.agU b Y2 l kp ?_,e2,f⟩;simp only[bC,AW];exact⟨a,vs,rfl,.inl ⟨o,bH⟩,j.kp kp⟩
 ·cases e1
theorem cb(h:U7 X st g):U7 X st (FE i g):=⟨dy h.run⟩
end
open AutoSeq1 (wpAny_loadPart')
open SeqAt
section
variable{o:Expr}{fx:Ev->S Bx}
end
section
variable{t:Ev->S Bool}
def Ze(t:Ev->S Bool)(g:Ev->S Ap):Nat->Ev->S Ap
 |0,_=>Y3
 |n+1,ρ=>(t ρ).bind λb=>if b=true then(g ρ).bind λr=>match r with
  |.nx ρ'=>Ze t g n ρ'
  |.ct ρ'=>Ze t g n ρ'
  |.bk ρ'=>O (.nx ρ')
  |.rt b=>O (.rt b)
  else O (.nx ρ)
theorem WC(n:Nat)(hp:PassesOwn (A8 X.prog X.w) X.A X.env X.xe)(l:PB X c t)(hb:Uw X body g):HI X (.While c body [] pos) (Ze t g n):=
 WL (Z7 hp l hb) λD σ H q=>by
  obtain⟨H0,ρ,r,E,e,f⟩:=q;refine⟨λm σ H=>∃H0 ρ r,bR X.K H0 H σ ρ/\Ze t g m ρ=O r/\U6 X.K H0 D r,⟨n,H0,ρ,r,E,e,f⟩,?_⟩;rintro m σ H ⟨H0,ρ,r,E,e,f⟩;cases m with
  |zero=>cases e
  |succ m=>
   obtain⟨b,eb,e⟩:=AT e;refine⟨H0,ρ,b,E,eb,λH1 i=>?_⟩;cases b with
   |false=>
    rw[zI (by decide)]at e ⊢;cases e;exact f σ H1 (E.grow i)
   |true=>
    rw[zr rfl]at e ⊢;obtain⟨h,er,e⟩:=AT e;refine⟨λσ' H'=>∃j,j<m+1/\∃H0 ρ r,bR X.K H0 H' σ' ρ/\Ze t g j ρ=O r/\U6 X.K H0 D r,λσ' H' z=>z,H0,ρ,h,E.grow i,er,?_⟩;cases h with
    |nx d=>exact λσ' H' a=>⟨m,qf m,H0,d,r,a,e,f⟩
    |ct d=>exact λσ' H' a=>⟨m,qf m,H0,d,r,a,e,f⟩
    |bk d=>cases e;exact λσ' H' a=>f σ' H' a
    |rt b=>cases e;exact f
theorem Sy(n:Nat)(hp:PassesOwn (A8 X.prog X.w) X.A X.env X.xe)(a:QB X c t)(hb:U7 X body g):Rj X (.While c body [] pos) (Ze t g n):=⟨WC n hp a.run hb.run⟩
end
section
variable{h':A6}
theorem TW{t':Nat}{e:A1}(I:L2.AU X AN σ H s)(k:∀b o,b≠e->b≠it->s.heap.get? b=O o->h'.get? b=O o)(fe:tK X AN H e)(fi:tK X AN H it)(he:∃o,h'.get? e=O o)(hi:∃o,h'.get? it=O o)(new:iY X.prog X.w (B6 H s.heap.objs.size (.tup xs)) h' s.heap.objs.size (.tup xs)):L2.AU X AN σ (B6 H s.heap.objs.size (.tup xs)) { s with heap:=h',toks:=t' }:=by
 have h:H s.heap.objs.size=Y3:=I.hok.fresh (zk _);have nd:∀b u,H b=O u->b≠s.heap.objs.size:=λb u q z=>by rw[z,h]at q;cases q
 have f:∀b u,H b=O u->b≠e/\b≠it:=λb u q=>⟨λz=>(by rw[z,fe.1]at q;cases q),λz=>(by rw[z,fi.1]at q;cases q)⟩;have d:∀b,b∉[e,it]->b≠e/\b≠it:=λb hb=>⟨λz=>hb (by simp[z]),λz=>hb (by simp[z])⟩;refine I.step (g':=s.gens) (d':=s.drawn) (ch:=[e,it]) (λb hb=>?_) (λb o _ _ a q _=>k b o (d b a).1 (d b a).2 q) (λb o _ _ a q _=>⟨o.slots,k b o (d b a).1 (d b a).2 q⟩) (λb o _ q n=>?_)
  (λb o a q=>⟨o,k b o (d b a).1 (d b a).2 q⟩) (λb ys q=>?_) (λb o u q=>?_) (λb ps q=>⟨#[],?_⟩) (λm g=>?_) (λb u q=>?_) I.bare
 ·rcases List.mem_cons.mp hb with rfl|hb
  ·exact⟨fe.2.2.2.1,fe.2.1,fe.2.2.2.2.1,fe.2.2.2.2.2⟩
  ·cases List.mem_singleton.mp hb;exact⟨fi.2.2.2.1,fi.2.1,fi.2.2.2.2.1,fi.2.2.2.2.2⟩
 ·rw[aR (z4 (zD q))];exact n
 ·rw[aR (nd b _ q)];exact q
 ·rw[aR (nd b _ q)];exact q
 ·rw[aR (nd b _ q),q];simp
 ·obtain⟨o,es,ep,i,r⟩:=g;exact⟨o,es,ep,k _ o (KB fe.2.1) (KB fi.2.1) i,r⟩
 ·by_cases hb:b=s.heap.objs.size
  ·subst hb;rw[bH]at q;cases q;exact new
  ·rw[aR hb]at q;refine(I.hok b u q).stay (λc v a w=>k c v ?_ ?_ w) (λc w=>?_) λc ys w=>?_
   ·rcases a with rfl|z
    ·exact(f _ _ q).1
    ·exact(f _ _ z).1
   ·rcases a with rfl|z
    ·exact(f _ _ q).2
    ·exact(f _ _ z).2
   ·rw[aR (nd c _ w)];exact w
   ·rw[aR (nd c _ w)];exact w
end
def IU(K:B4)(l:A1):It:=
 ⟨λi H=>∃xs x,uN K H l xs/\xs[i]?=O x,λi H v H'=>∃p x,H p=Y3/\(∀xs,uN K H l xs->xs[i]?=O x)/\v=.ref p/\H'=B6 H p (.tup [.int i,x]),λi H=>∃xs,uN K H l xs/\xs.length<=i⟩
theorem Zf(l e it:A1)(A:e≠it):
  C4 P w K (.Tuple elts x1 tpos) (IU K l) [e,it] e (λi h=>(∃old,IsEnum h e it i old)/\h.IsListIter it l i) where
 mem:=by simp
 obj:=λi h st b hb=>by
  obtain⟨⟨old,h1⟩,o,h2,_,Q⟩:=st;rcases List.mem_cons.mp hb with rfl|hb
  ·exact⟨_,h1,λv z=>by cases z⟩
  ·cases List.mem_singleton.mp hb;exact⟨o,h2,λv z=>by rw[Q]at z;cases z⟩
 keep:=λi h h' st k=>by
  obtain⟨⟨old,h1⟩,h2⟩:=st;exact⟨⟨old,k e (by simp) _ h1⟩,h2.at λo q=>k it (by simp) o q⟩
 item:=by
  intro X f g d t i AN s σ H E I a st m;subst f g d;obtain⟨⟨old,h1⟩,h2⟩:=st;obtain⟨xs,x,c,hx⟩:=m;obtain⟨AQ,n,p,J⟩:=I.list c;obtain⟨u,hu,G⟩:=n.get hx;have fe:=a e (by simp);have fi:=a it (by simp);refine wpAny_pyNext_enum_item h1 h2 p.isList (x:=u) (by simpa using hu) A λa2 U M L a3 W=>⟨_,rfl,?_⟩;refine wpAny_letOwnedTupleGo_enum U λy B j=>?_;have elt:e<s.heap.objs.size:=zD h1;have a1:it<s.heap.objs.size:=by obtain⟨_,q,_⟩:=h2;exact zD q
  have a0:y.get? s.heap.objs.size=O { cls:=.type "tuple",data:=.seq #[.int i s.toks,u] }:=(j.2 _ (k9 elt)).trans L;have D:y.IsListIter it l (i+1):=M.at λo q=>(j.2 it (KB A)).trans q;refine⟨.ref s.heap.objs.size,B6 H s.heap.objs.size (.tup [.int i,x]),TW (t':=s.toks+1) I (λb o C F q=>(j.2 b C).trans (W b o C F q)) fe fi ⟨_,B⟩ (by obtain⟨o,q,_⟩:=D;exact⟨o,q⟩) ?_,rfl,⟨_,x,I.hok.fresh (zk _),λys hy=>by rw[I.Hh hy c];exact hx,rfl,rfl⟩,⟨⟨_,by simpa using B⟩,D⟩,λb hb=>?_⟩
  ·exact⟨by show 2<=AA;decide,[.int i s.toks,u],.cons ⟨_,rfl⟩ (.cons G .nil),_,a0,rfl,⟨_,rfl⟩,rfl⟩
  ·rcases List.mem_cons.mp hb with rfl|hb
   ·rw[aR (z4 elt)];exact fe.1
   ·cases List.mem_singleton.mp hb;rw[aR (z4 a1)];exact fi.1
 done:=by
  intro X f g d t i AN s σ H E I a st m;subst f g d;obtain⟨⟨old,h1⟩,h2⟩:=st;obtain⟨xs,c,hx⟩:=m;obtain⟨AQ,n,p,J⟩:=I.list c;obtain⟨f0,f1,f2,Z,f4,N⟩:=a it (by simp);have hl:=n.length;exact wpAny_pyNext_enum_end (I.ok.hd t) h1 h2 p.isList (by simp;omega) λh' eb=>⟨rfl,I.turned (t':=s.toks) (λb o hb e=>eb b o hb e) f0 f1 Z f4 N⟩
 self:=λ_ _ _ _ _ st h=>by
  obtain⟨⟨old,h1⟩,_⟩:=st;exact wpAny_pyIter_enum h1 h
def Ek(ds:Y Dt):Y Dt:=(List.range ds.length).zipWith (λk d=>.tup [.int (k:Nat),d]) ds
theorem Nb(ds:Y Dt):(Ek ds).length=ds.length:=by simp[Ek]
theorem Zg(h:(Ek ds)[i]?=O d):∃c,ds[i]?=O c/\d=.tup [.int (i:Nat),c]:=by
 have hi:i<ds.length:=by
  have:=(List.getElem?_eq_some_iff.mp h).1;rwa [Nb]at this
 refine⟨ds[i],by simp[hi],?_⟩;unfold Ek at h;rw[KP]at h;simp[hi]at h;exact h.symm
theorem B0.enum(h:uN K Hs l vs)(r:aO K Hs ds vs):B0 K (IU K l) (Ek ds) Hs:=λi H s=>by
 have h':=s.seq h;have g:=r.kp (.of s);refine⟨λd e=>?_,λe=>⟨vs,h',by rw[Nb]at e;rw[r.length];exact e⟩⟩;obtain⟨c,m,rfl⟩:=Zg e;obtain⟨v,ev,f⟩:=g.get m;refine⟨⟨vs,v,h',ev⟩,λx H' y=>?_⟩;obtain⟨p,n,hp,j,rfl,rfl⟩:=y;have:=j vs h';rw[ev]at this;cases this;have a:AV H (B6 H p (.tup [.int (i:Nat),v])):=λb o q=>by rw[aR (dH q hp)];exact q
 refine⟨a,?_⟩;simp only[AW];exact⟨p,_,rfl,.inl (.inl bH),aO.cons (by simp only[AW]) (aO.cons (AW.kp (.of a) f) aO.nil)⟩
section
variable{p:Pos}{fs:Ev->S (Y Bx)}
def TD(K:B4)(ta:TA):TI:=λσ H R=>ta σ H λvs H1=>∃l,vs=[.ref l]/\(∃xs,uN K H1 l xs)/\R (IU K l) H1
theorem SL{ta:TA}(f:Gl X "enumerate")(j:X.mg "enumerate"=Y3)(m:PA X [e] ta)(hs:A9 [e] X.env=[(false,eval e X.env)]:=by rfl):PI X (.Tuple elts x1 tpos) (.Call (.Name "enumerate" p) [e] [] pos) (TD X.K ta):=by
 intro AN s σ H R I h;refine Call_ (Oc I f j boot_enumerate (PyProof.Rows.callWith_type1 (iZ (m pos AN s σ H _ I h) λus s1 ⟨vs,H1,I1,r1,q1⟩=>?_) hs Y2));obtain⟨l,rfl,⟨xs,i⟩,q⟩:=q1;obtain⟨u,rfl,d⟩:=BB r1;cases d;obtain⟨AQ,n,p,o⟩:=I1.list i;refine call_enumerate_list p.isList λh' a g t c=>?_;refine wpAny_pyIter_enum a ?_;refine⟨s1.heap.objs.size+1,[s1.heap.objs.size+1,s1.heap.objs.size],_,_,H1,rfl,I1.kept (t':=s1.toks) c,Zf l _ _ (k9 (qf _)),⟨⟨_,a⟩,g⟩,λb hb=>?_,q⟩;rcases List.mem_cons.mp hb with rfl|hb
 ·exact I1.QZ (k5 _) (I1.hok.fresh (k5 _))
 ·cases List.mem_singleton.mp hb;exact I1.QZ (zk _) (I1.hok.fresh (zk _))
def SJ:Y Bx->S (Y Dt)
 |[b]=>(rz b).bind λds=>O (Ek ds)
 |_=>Y3
theorem PZ(g:Gl X "enumerate")(l:X.mg "enumerate"=Y3)(m:FL X [e] fs)(hs:A9 [e] X.env=[(false,eval e X.env)]:=by rfl):ND X (.Tuple elts x1 tpos) (.Call (.Name "enumerate" p) [e] [] pos) (λρ=>(fs ρ).bind SJ):=λAN s σ H R I q=>by
 refine SL g l m hs AN s σ H R I ?_;obtain⟨H0,ρ,ds,E,e,q⟩:=q;obtain⟨bs,eb,e⟩:=AT e;refine⟨H0,ρ,bs,E,eb,λvs H1 i j=>?_⟩;unfold SJ at e;split at e
 ·rename_i b;obtain⟨n,c,e⟩:=AT e;cases e;obtain⟨v,rfl,h⟩:=BH j;obtain⟨a,d,rfl,sq,f⟩:=h.Hv c;exact⟨a,rfl,⟨d,sq⟩,q _ _ i (.enum sq f)⟩
 ·cases e
theorem eJ(a:Gl X "enumerate")(b:X.mg "enumerate"=Y3)(c:Yw X [e] fs)(hs:A9 [e] X.env=[(false,eval e X.env)]:=by rfl):EF X (.Tuple elts x1 tpos) (.Call (.Name "enumerate" p) [e] [] pos) (λρ=>(fs ρ).bind SJ):=⟨PZ a b c.run hs⟩
end
def ER(j i:Nat)(f:Ev->S Bx):Ev->S Ap:=λρ=>(f ρ).bind λb=>match b with
 |.z (.int k)=>match ρ[i]? with
  |some (O (.o ds))=>if -(2 ^ 62)<=k/\k<2 ^ 62 then(seqIndex? k ds.length).bind λm=>(ds[m]?).bind λd=>(Yy (ρ.set i (O (.o (ds.eraseIdx m)))) j (.z d)).bind λa=>O (.nx a)else Y3
  |_=>Y3
 |_=>Y3
theorem Jb{K:B4}{H:Hp}:∀(m:Nat) {ds:Y Dt} {vs:Y V},aO K H ds vs->aO K H (ds.eraseIdx m) (vs.eraseIdx m)
 |m,[],vs,h=>by
  cases vs with
  |nil=>exact h
  |cons v vs=>have:=h.length;simp at this
 |m,d::ds,vs,h=>by
  cases vs with
  |nil=>have:=h.length;simp at this
  |cons v vs=>
   obtain⟨a,r,e,q,t⟩:∃a r,v::vs=a::r/\AW K H d a/\aO K H ds r:=by
    simpa only[aO]using h
   cases e;cases m with
   |zero=>exact t
   |succ m=>exact aO.cons q (Jb m t)
theorem eg(j i:Nat){p:Pos}(nd:X.N.Nodup)(he:PV X e f)(Q:X.N[i]?=O x:=by rfl)(hv:ZK X.env.scope x:=by first|exact ku rfl|exact j3 (ku Y2)|exact j3 (j3 Y2))(hd:(x==("__debug__":AJ))=false:=by decide)(C:(x==("__classdict__":AJ))=false:=by decide)(n:A9 [e] X.env=[(false,eval e X.env)]:=by rfl)(J:attributeBase (.Name x p) "pop" X.env (eval (.Name x p) X.env)=eval (.Name x p) X.env:=by rfl)(a1:((AD cpos (A9 [e] X.env)).all (λx=>!x.1)&&(backToKw cpos (keywordEach [] X.env)).all (λx=>x.1.isSome)
   && decide ([e].length+([]:Y AC).length+(if([]:Y AC).isEmpty then 0 else 1)<30))=true:=by rfl)(K:(apos.endLine==cpos.line)=true:=by rfl)(L:X.N[j]?=O y:=by rfl)(Z:Ch X.env.scope y:=by first|exact ku rfl|exact j3 Y2)(hs:swapsWith (.Call (.Attribute (.Name x p) "pop" apos) [e] [] cpos) (O (.Name y p2)) pos.line X.env=pure false:=by rfl)(G:X.fn y=true\/X.env.scope.names.lookup y=O .local:=by first|exact .inl rfl|exact .inr Y2):
  HI X (.Assign [.Name y p2] (.Call (.Attribute (.Name x p) "pop" apos) [e] [] cpos) pos) (ER j i f):=
 WL (Z6 nd L Z (I0 PySem.F.plainAttrs_list PySem.F.slot_list_pop PySem.F.type_list_pop d4 (wG (i:=i) Q hv hd C) (xX he Hj (by rw[n]<;>rfl)) J a1 K (by rw[n]<;>rfl) Y2) hs G) λD σ H h=>by
  obtain⟨H0,ρ,r,E,e,q⟩:=h;obtain⟨b,eb,e⟩:=AT e;split at e
  ·rename_i k;split at e
   ·rename_i ds s;split at e
    ·rename_i hb;obtain⟨m,W,e⟩:=AT e;obtain⟨d,I,e⟩:=AT e;obtain⟨a2,a0,e⟩:=AT e;cases e;obtain⟨v,e1,a,vs,rfl,l,o⟩:=E.val i _ s;refine⟨_,e1,.inl ⟨rfl,vs,.inl (.inl l)⟩,H0,ρ,_,E,eb,λu H1 g n1 B=>?_⟩;have E1:=E.grow g;have t:=o.kp (.of g);obtain⟨w,U,A⟩:=t.get I;have P:u=.int k:=by simpa only[bC,AW]using B
     subst P;have c:=g _ _ l;refine⟨a,vs,k,m,w,rfl,rfl,c,by omega,by omega,by rw[o.length];exact W,U,?_⟩;have M:=E1.aal s e1 c (Jb m t);have kp:Kp H1 (B6 H1 a (.lst (vs.eraseIdx m))):=.lst c;exact q _ _ (WR M (AV.refl _) (b:=.z d) (by simp only[bC];exact AW.kp kp A) trivial a0)
    ·cases e
   ·cases e
  ·cases e
theorem SZ(j i:Nat){p:Pos}(nd:X.N.Nodup)(he:QV X e f)(m:X.N[i]?=O x:=by rfl)(h:ZK X.env.scope x:=by first|exact ku rfl|exact j3 (ku Y2)|exact j3 (j3 Y2))(hd:(x==("__debug__":AJ))=false:=by decide)(l:(x==("__classdict__":AJ))=false:=by decide)(d:A9 [e] X.env=[(false,eval e X.env)]:=by rfl)(b:attributeBase (.Name x p) "pop" X.env (eval (.Name x p) X.env)=eval (.Name x p) X.env:=by rfl)(o:((AD cpos (A9 [e] X.env)).all (λx=>!x.1)&&(backToKw cpos (keywordEach [] X.env)).all (λx=>x.1.isSome)
   && decide ([e].length+([]:Y AC).length+(if([]:Y AC).isEmpty then 0 else 1)<30))=true:=by rfl)(c:(apos.endLine==cpos.line)=true:=by rfl)(g:X.N[j]?=O y:=by rfl)(a:Ch X.env.scope y:=by first|exact ku rfl|exact j3 Y2)(hs:swapsWith (.Call (.Attribute (.Name x p) "pop" apos) [e] [] cpos) (O (.Name y p2)) pos.line X.env=pure false:=by rfl)(n:X.fn y=true\/X.env.scope.names.lookup y=O .local:=by first|exact .inl rfl|exact .inr Y2):
  Rj X (.Assign [.Name y p2] (.Call (.Attribute (.Name x p) "pop" apos) [e] [] cpos) pos) (ER j i f):=
 ⟨eg j i nd he.run m h hd l d b o c g a hs n⟩
def Nf:Y Dt->S B7
 |[]=>O []
 |.int k::r=>(Nf r).bind λks=>O (k::ks)
 |_=>Y3
def EE(ks:Y Int):Bool:=decide (ks.length<=1000)&&ks.all λk=>decide (-1000000000000<=k/\k<=1000000000000)
def EM:Y Bx->S Bx
 |[b]=>(rz b).bind λds=>(Nf ds).bind λks=>if EE ks=true then O (.z (.int ks.sum))else Y3
 |_=>Y3
theorem Jc{K:B4}{H:Hp}:∀{ds:Y Dt} {ks:Y Int} {vs:Y V} {AQ:Y A0},Nf ds=O ks->aO K H ds vs->AX vs AQ->AQ.length=ks.length/\∀i v,AQ[i]?=O v->∃t,v=Value.int (ks.getD i 0) t
 |[],ks,vs,AQ,e,r,w=>by
  cases e;simp only[aO]at r;subst r;cases w;exact⟨rfl,λi v h=>by simp at h⟩
 |d::ds,ks,vs,AQ,e,r,w=>by
  cases d with
  |int k=>
   simp only[Nf]at e;obtain⟨n,e1,e2⟩:=AT e;cases e2;obtain⟨a,b,rfl,q,t⟩:∃a b,vs=a::b/\AW K H (.int k) a/\aO K H ds b:=by
    simpa only[aO]using r
   have m:a=.int k:=by simpa only[AW]using q
   subst m;cases w with
   |cons g f=>
    obtain⟨l,rfl⟩:=g;obtain⟨j,c⟩:=Jc e1 t f;refine⟨by simp[j],λi v h=>?_⟩;cases i with
    |zero=>simp at h;exact⟨l,h.symm⟩
    |succ i=>simpa using c i v (by simpa using h)
  |_=>cases e
theorem BT(ks:Y Int):∀n,n<=ks.length->preSum (λi=>ks.getD i 0) n=(ks.take n).sum
 |0,_=>by simp[preSum]
 |n+1,h=>by
  have a:n<ks.length:=by omega
  rw[preSum,BT ks n (by omega),List.take_succ_eq_append_getElem a,List.sum_append];simp[a]
theorem LY:∀(ks:Y Int),(∀k∈ks,-1000000000000<=k/\k<=1000000000000) → -(1000000000000*(ks.length:Int))<=ks.sum/\ks.sum<=1000000000000*(ks.length:Int)
 |[],_=>by simp
 |k::ks,h=>by
  have h1:=h k (zh ..);have h2:=LY ks λx hx=>h x (zi _ hx);rw[Jn,Z3]
  push_cast
  omega
theorem VU(m:X.calm=true):rA X (.builtin "sum") EM:=by
 intro AN s σ H xs us Q I r h;obtain⟨bs,c,t,e,q⟩:=h;unfold EM at e;split at e
 ·obtain⟨ds,E,e⟩:=AT e;obtain⟨ks,ek,e⟩:=AT e;split at e
  ·rename_i d;cases e;obtain⟨v,rfl,C⟩:=BH t;obtain⟨a,vs,rfl,sq,K⟩:=C.Hv E;obtain⟨u,rfl,z⟩:=BB r;cases z;obtain⟨AQ,w,pl,N⟩:=I.list sq;obtain⟨f,M⟩:=Jc ek K w;unfold EE at d;rw[ZT,Zl,qB]at d;have l:∀k∈ks,-1000000000000<=k/\k<=1000000000000:=λk F=>qi (d.2 k F);have g:a<s.heap.objs.size:=by obtain⟨o,n,e,_⟩:=pl;exact zD e
   refine call_sum_walk (yv pl.isList ?_);refine⟨s.heap.objs.size,_,_,_,_,_,λi=>ks.getD i 0,rfl,Walks.list (by show X.A.handled=Y3;exact I.ok.hd m) s.heap.objs.size a (z4 g) AQ.toArray,⟨⟨_,zC _ rfl,rfl,rfl⟩,pl.isList.push _⟩,?_,λi v hp=>?_,λj U=>?_,λh' tk t' k=>?_⟩
   ·intro b hb;have B:(s.heap.push { cls:=.type "list_iterator",data:=.fields #[.ref a,.int 0 0] }).objs.size=s.heap.objs.size+1:=qk ..;simp only[jI,JI,or_false]at hb;show b<(s.heap.push { cls:=.type "list_iterator",data:=.fields #[.ref a,.int 0 0] }).objs.size;rw[B];rcases hb with rfl|rfl
    ·exact qf _
    ·exact qV g
   ·exact M i v (by simpa using hp)
   ·have y:j<ks.length:=by
     have:AQ.toArray.size=ks.length:=by simpa using f
     omega
    have b1:=l (ks.getD j 0) (by simp[y]);have b2:=LY (ks.take (j+1)) λx hx=>l x (List.mem_of_mem_take hx);have P:(ks.take (j+1)).length<=1000:=by rw[kf];omega
    rw[BT ks (j+1) (by omega)];unfold InLong;dsimp only;refine⟨⟨by omega,by omega⟩,by omega,by omega⟩
   ·have L:AQ.toArray.size=ks.length:=by simpa using f
    rw[L,BT ks ks.length (zk _),List.take_length];have p:L2.AU X AN σ H { s with heap:=s.heap.push { cls:=.type "list_iterator",data:=.fields #[.ref a,.int 0 0] } }:=I.kept (t':=s.toks) λb o e=>ze _ e;refine⟨.int _,H,?_,⟨_,rfl⟩,q _ H (AV.refl H) trivial (by simp only[bC,AW])⟩;obtain⟨f0,f1,f2,G,J,D⟩:=I.QZ (b:=s.heap.objs.size) (H':=H) (zk _) (I.hok.fresh (zk _));exact p.turned (it:=s.heap.objs.size) (λb o hb e=>k b o (by simpa using hb) e) f0 f1 G J D
  ·cases e
 ·cases e
section
variable{ek ev:Expr}{st:AB}
def HH:Ev->S Ap:=λ_=>Y3
theorem bX:Rj X st HH:=⟨λD AN s σ H I q=>by
 obtain⟨H0,ρ,r,E,e,q⟩:=q;cases e⟩
def Xm(f:Ev->S Bx):Ev->S Ap:=λρ=>(f ρ).bind λ_=>O (.nx ρ)
theorem Pp(he:QV X e f)(hs:swapsWith e Y3 pos.line X.env=pure false:=by rfl):Rj X (.Expr e pos) (Xm f):=⟨WL (Od he.run hs) λD σ H h=>by
 obtain⟨H0,ρ,r,E,e,q⟩:=h;obtain⟨b,eb,e⟩:=AT e;cases e;exact⟨H0,ρ,b,E,eb,λv H1 a c d=>q _ _ (E.grow a)⟩⟩
def Ng:Bx->Bx->S Bx
 |.z (.str x),.z d=>O (.m [(.inr x,d)] Y3)
 |_,_=>Y3
theorem VD{a c:Bx}(h:Ng a b=O c):∃x d,a=.z (.str x)/\b=.z d/\c=.m [(.inr x,d)] Y3:=by
 unfold Ng at h;split at h
 ·cases h;exact⟨_,_,rfl,rfl,rfl⟩
 ·cases h
theorem U2(l:QV X ek fk)(s:QV X ev fv):QV X (.Dict [O ek] [ev] pos) (b2 Ng fk fv):=⟨Mp (Sz (g7 l.run s.run io) Y2 Y2 (by simp) (Zs Y2)) λσ H Q h=>by
 obtain⟨H0,ρ,c,E,e,q⟩:=h;obtain⟨a,ea,e⟩:=AT e;obtain⟨b,eb,e⟩:=AT e;intro p hp;have g:AV H (B6 H p (.dK [])):=cg hp;refine⟨H0,ρ,a,E.grow g,ea,λv H1 f u m=>⟨H0,ρ,b,(E.grow g).grow f,eb,λw H2 j y t=>?_⟩⟩;obtain⟨x,d,rfl,rfl,rfl⟩:=VD e;obtain⟨rfl,hx⟩:v=.str x/\x.length<=AA:=by simpa only[bC,AW]using m
 have i:H2 p=O (.dK []):=j _ _ (f _ _ bH);have kp:Kp H2 (B6 H2 p (.dK (CP [] [(Sum.inr x,w)]))):=.dk i;refine⟨i,[(Sum.inr x,w)],rfl,Zs rfl,q _ _ ?_ (λa ea=>by cases ea;exact hp) ⟨p,_,rfl,bH,?_,λb h=>by cases h⟩⟩
 ·intro b o hb;have n:b≠p:=λz=>by rw[z,hp]at hb;cases hb
  rw[aR n];exact j _ _ (f _ _ (g _ _ hb))
 ·exact gk.cons (p:=(Sum.inr x,d)) (AW.kp kp t) hx gk.nil⟩
def Fs(AO:Y (AY×α))(x:AY):Bool:=AO.any λa=>decide (a.1=x)
def Zh(a:Bx):Bx->S Bx
 |.n AO=>(Cc a).bind λx=>O (.z (.bl (!Fs AO x)))
 |_=>Y3
theorem gk.alE{p:A1}{ks:Y (AY×V)}(a:Rd H p (.dK ks))(rm:gk K H AO ks)(x:AY):∃o,ES H p (kV x) o/\o.isSome=Fs AO x:=by
 refine⟨CK ks x,.inl ⟨ks,x,a,rfl,rfl⟩,?_⟩;unfold Fs CK;rw[<-rm.any,Option.isSome_map,Q2,List.find?_isSome,Q4]
theorem Xn(t:X.A.units+100<cLine):Gs X (AG .NotIn) Zh:=by
 intro AN s σ H x y v u Q I d m h;obtain⟨a,b,c,f,i,e,q⟩:=h;unfold Zh at e;split at e
 ·rename_i AO;obtain⟨k,ek,e⟩:=AT e;cases e;obtain⟨p,ks,rfl,j,rm⟩:=i;obtain⟨rfl,_⟩:=O6 ek f;cases m;obtain⟨o,g,n⟩:=rm.alE j k;exact dS (by omega) I g d λs' l=>⟨.bl (!o.isSome),H,l,rfl,q _ H (AV.refl H) trivial (by simp only[bC,AW];rw[n])⟩
 ·cases e
end
section
variable{st:Expr}{fs:Ev->S Bx}
def Zi(a b:Bx):S Bx:=(rz a).bind λds=>match b with
 |.z (.int i)=>if i = -1 then O (.o ds.reverse)else Y3
 |_=>Y3
theorem Zj{a c:Bx}(h:Zi a b=O c):∃ds,rz a=O ds/\b=.z (.int (-1))/\c=.o ds.reverse:=by
 unfold Zi at h;obtain⟨ds,d,h'⟩:=AT h;clear h;split at h'
 ·split at h'
  ·rename_i hi;subst hi;injection h' with h';exact⟨ds,d,rfl,h'.symm⟩
  ·cases h'
 ·cases h'
theorem aer(he:QV X e f)(G:QV X st fs)(L:∀v i:A0,subscripted (.Slice Y3 Y3 (O st) p2) false v i=operate [v,i] (getItem v i):=by intro _ _;with_unfolding_all rfl):QV X (.Subscript e (.Slice Y3 Y3 (O st) p2) pos) (b2 Zi f fs):=by
 refine⟨?_⟩;intro AN s σ H Q I h;obtain⟨H0,ρ,c,E,g,q⟩:=h;obtain⟨a,ea,g⟩:=AT g;obtain⟨b,eb,g⟩:=AT g;refine Subscript_ (iZ (he.run AN s σ H (λx H1=>AV H H1/\bC X.K H1 a x) I ⟨H0,ρ,a,E,ea,λv H1 l M j=>⟨l,j⟩⟩) λv l ⟨x,H1,I1,j,sm1,BH⟩=>?_);refine wpAny_Slice ?_;rw[evalPart_none];refine zg ?_;refine zg ?_;rw[evalPart_some];refine iZ (G.run AN l σ H1 (λy H2=>AV H1 H2/\bC X.K H2 b y) I1 ⟨H0,ρ,b,E.grow sm1,eb,λv H2 d N t=>⟨d,t⟩⟩) λvk d ⟨y,H2,I2,t,sm2,EK⟩=>?_;obtain⟨ds,C,rfl,rfl⟩:=Zj g;have D:y=.int (-1):=by simpa only[bC,AW]using EK
 subst D;obtain⟨tk,rfl⟩:=t;obtain⟨p,vs,rfl,sq,F⟩:=(BH.same sm2).Hv C;cases j;have m:L2.AU X AN σ H2 { d with heap:=d.heap.push { cls:=.type "slice",data:=.fields #[.none,.none,.int (-1) tk] } }:=I2.kept (t':=d.toks) λb J q=>ze _ q;obtain⟨AQ,r,B,u⟩:=m.list sq;show A7 (A8 X.prog X.w) X.A (subscriptTail e (.Slice Y3 Y3 (O st) p2) (.ref p) (.ref d.heap.objs.size)) (EP X AN σ Q) X.xe { d with heap:=d.heap.push { cls:=.type "slice",data:=.fields #[.none,.none,.int (-1) tk] } };refine tail_any (ops:=[.ref p,.ref d.heap.objs.size]) B.isList.typeIs list_getitem_lookup (wpAny_getItem_list_slice B.isList (Heap.IsSliceOf.new ..) .none .none (.int _ _) (by decide) ?_ (by rw[zS,<-r.length];exact u)) (L _ _);rw[PySem.W.krv_pick];have n:=m.hok.fresh (zk _);refine⟨.ref _,_,m.laid (t':=d.toks) (o:=.lst vs.reverse) (λb J q=>ze _ q) (zk _) ?_,rfl,q _ _ ((sm1.trans sm2).trans (cg n)) (λa z=>by cases z;exact(sm1.trans sm2).free n) ?_⟩
 ·exact⟨by rw[List.length_reverse];exact u,AQ.reverse,0,r.reverse,zC _ rfl⟩
 ·exact⟨_,_,rfl,bH,(aO.rev F).kp (.of (cg n))⟩
end
theorem ad{a b:Nat}(h:a≠b):@Ne A1 a b:=h
section
variable{K:Type} [DecidableEq K] {knd:KeyKind prog w K}
end
section
variable{ea eb:Expr}{p1 pos1 pos2:Pos}
end
theorem tY(xs:AZ)(is:Y Nat)(a:closureFor scope X.env=pure cl:=by with_unfolding_all rfl)(d:scope.kind=.function:=by rfl)(b:scope.names.all (λy=>decide (y.2≠.cell)||(cl.lookup y.1).isNone)=true:=by rfl)(e:scope.names.all (λy=>decide (y.2=.local->scope.names.lookup y.1=O .local))=true:=by decide +kernel)(sub:C6 X.env.cells cl:=by repeat (first|exact trivial|refine⟨rfl,?_⟩))(has:(relabel scope X.env).names.all (λy=>!(y.2==.cell||y.2==.free)||(cl.lookup y.1).isSome||scope.names.contains (y.1,.cell))=true:=by rfl)(c:Kr X scope cl xs is:=by repeat (first|exact bz|refine fq Y2 (by first|exact .inl rfl|exact .inr Y2) (by first|exact .inl rfl|exact .inr Y2) ⟨_,rfl⟩ ?_)):tL X scope cl xs is:=cK a d b e sub has c
theorem lA{a:Scope}(h1:a.kind=.function:=by rfl)(h2:a.isCoroutine=false:=by rfl)(f:a.isGenerator=false:=by rfl)(d:N.Nodup:=by decide +kernel)(c:N.take ps.length=ps:=by rfl)(b:∀x∈ps,a.names.lookup x=O .local\/a.names.lookup x=O .cell:=by decide +kernel)(e:∀y∈a.names,y.2≠.free:=by decide +kernel):bI N ps a:=⟨h1,h2,f,d,c,b,e⟩
instance:Inhabited Dt:=⟨.non⟩
theorem At(a:α)(f:α->S β):(O a).bind f=f a:=(Option.bind_some a f).trans (Eq.refl _)
def hold:S Prop->Prop
 |none=>True
 |some p=>p
def bD:S Prop->S Prop->S Prop
 |none,q=>q
 |some p,Y3=>O p
 |some p,O q=>O (p/\q)
def Dl(c:Prop):S Prop->S Prop
 |none=>Y3
 |some p=>O (c->p)
theorem aD{p q:S Prop}(h:hold (bD p q)):hold p/\hold q:=by
 cases p with
 |none=>exact⟨trivial,h⟩
 |some p=>cases q with
  |none=>exact⟨h,trivial⟩
  |some q=>exact h
theorem jM{c:Prop}{p:S Prop}(h:hold (Dl c p))(a:c):hold p:=by
 cases p with
 |none=>trivial
 |some p=>exact h a
structure R {α β:Type} (f:Ev->Option β) (ρ:Ev) (c:α->β) where
 v:α
 D:Option Prop
 ok:hold D->f ρ=some (c v)
abbrev zE(e:α->Dt):α->Bx:=λa=>.z (e a)
abbrev oE(e:α->Dt):Y α->Bx:=λxs=>.o (xs.map e)
abbrev lE(e:α->Dt):Y α->Bx:=λxs=>.l (xs.map e)
abbrev tE:Bool->Bool:=λb=>b
abbrev iE(e:α->Dt):Y α->Y Dt:=λxs=>xs.map e
abbrev eI:Int->Dt:=Dt.int
abbrev eB:Bool->Dt:=Dt.bl
abbrev eS:AJ->Dt:=Dt.str
abbrev eN:Unit->Dt:=λ_=>.non
abbrev eL(e:α->Dt):Y α->Dt:=λxs=>.lst (xs.map e)
abbrev eT(e:α->Dt):Y α->Dt:=λxs=>.tup (xs.map e)
abbrev eO(e:α->Dt):S α->Dt:=λo=>match o with|none=>.non|some a=>e a
abbrev N1(a:α->Dt):α->Dt:=λx=>.tup [a x]
abbrev Xo(a:α->Dt)(b:β->Dt):α×β->Dt:=λx=>.tup [a x.1,b x.2]
abbrev DB(a:α->Dt)(b:β->Dt)(c:γ->Dt):α×β×γ->Dt:=λx=>.tup [a x.1,b x.2.1,c x.2.2]
abbrev D3(a:α->Dt)(b:β->Dt)(c:γ->Dt)(d:δ->Dt):α×β×γ×δ->Dt:=λx=>.tup [a x.1,b x.2.1,c x.2.2.1,d x.2.2.2]
structure RL {α:Type} (f:Ev->Option Bx) (ρ:Ev) (e:α->Dt) where
 v:List α
 D:Option Prop
 b:Bx
 lk:rz b=some (v.map e)
 ok:hold D->f ρ=some b
section
variable{fs:Ev->S (Y Bx)}{e:α->Dt}{e':β->Dt}
def mU(a:R f ρ (oE e)):RL f ρ e:=⟨a.v,a.D,_,rfl,a.ok⟩
def gJ(a:R f ρ (lE e)):RL f ρ e:=⟨a.v,a.D,_,rfl,a.ok⟩
def yJ(a:R f ρ (zE (eL e))):RL f ρ e:=⟨a.v,a.D,_,rfl,a.ok⟩
def Lp(b:Bx)(ds:Y Dt):Prop:=b=.z (.lst ds)\/b=.l ds
theorem Lp.Hv(h:Lp b ds):rz b=O ds:=by rcases h with rfl|rfl<;>rfl
theorem Lp.get{b:Bx}{ds:Y Dt}{i:Nat}(h:Lp b ds)(hi:ρ[i]?=O (O b)):zq ρ i=O b:=by
 rcases h with rfl|rfl<;>(unfold zq;rw[hi])
theorem lZ(h:rz b=O ds):Lp (P1.lend b) ds:=by
 cases b with
 |z d=>cases d<;>cases h;exact .inl rfl
 |l d=>cases h;exact .inr rfl
 |o d=>cases h;exact .inr rfl
 |n d=>cases h
 |m d _=>cases h
def ao(i:Nat)(c:α->Bx)(a:α)(h:zq ρ i=O (c a)):R (gv i) ρ c:=⟨a,Y3,λ_=>h⟩
def eG(i:Nat)(e:α->Dt)(a:Y α)(h:Lp b (a.map e))(hi:ρ[i]?=O (O b)):RL (gv i) ρ e:=⟨a,Y3,b,h.Hv,λ_=>h.get hi⟩
def vW(d:Dt)(e:α->Dt)(a:α)(h:d=e a):R (cB d) ρ (zE e):=⟨a,Y3,λ_=>by rw[h];rfl⟩
def Jd(a:R f ρ (zE e)):R f ρ (zE (eO e)):=⟨O a.v,a.D,a.ok⟩
def Px:R (cB .non) ρ (zE (eO e)):=⟨Y3,Y3,λ_=>Y2⟩
def wZ[Inhabited α](a:R f ρ (zE (eO e))):R f ρ (zE e):=⟨a.v.getD default,bD a.D (O (a.v.isSome=true)),λh=>by
 obtain⟨h1,h2⟩:=aD h;rw[a.ok h1];have h2:a.v.isSome=true:=h2;cases b:a.v with
 |none=>rw[b]at h2;cases h2
 |some x=>rfl⟩
def Py(a:R f ρ (oE e)):R (b1 wD f) ρ (zE (eL e)):=⟨a.v,a.D,λh=>by simp only[b1,a.ok h,At,wD]⟩
def jN(a:R f ρ (zE e)):R (b1 wD f) ρ (zE e):=⟨a.v,a.D,λh=>by simp only[b1,a.ok h,At,wD]⟩
def fB(a:R fa ρ (zE eI))(b:R fb ρ (zE eI)):R (b2 eU fa fb) ρ (zE eI):=⟨a.v+b.v,bD a.D b.D,λh=>by
 obtain⟨h1,h2⟩:=aD h;simp only[b2,a.ok h1,b.ok h2,At,eU]⟩
def Bf(a:R fa ρ (zE eI))(b:R fb ρ (zE eI)):R (b2 Bi fa fb) ρ (zE eI):=⟨a.v-b.v,bD a.D b.D,λh=>by
 obtain⟨h1,h2⟩:=aD h;simp only[b2,a.ok h1,b.ok h2,At,i2]⟩
def GN(a b:Int):Prop:=(-18446744073709551616<a/\a<18446744073709551616)\/(-18446744073709551616<b/\b<18446744073709551616)
def NC(a:R fa ρ (zE eI))(b:R fb ρ (zE eI)):R (b2 yH fa fb) ρ (zE eI):=⟨a.v*b.v,bD (bD a.D b.D) (O (GN a.v b.v)),λh=>by
 obtain⟨h,c⟩:=aD h;obtain⟨h1,h2⟩:=aD h;simp only[b2,a.ok h1,b.ok h2,At];exact zr c⟩
def Je(n:Int)(a : -18446744073709551616<n/\n<18446744073709551616)(b:R fb ρ (zE eI)):R (b2 yH (cB (.int n)) fb) ρ (zE eI):=⟨n*b.v,b.D,λh=>by
 simp only[b2,b.ok h,At,cB];exact zr (.inl a)⟩
def Xp(a:R fa ρ (zE eI))(n:Int)(b : -18446744073709551616<n/\n<18446744073709551616):R (b2 yH fa (cB (.int n))) ρ (zE eI):=⟨a.v*n,a.D,λh=>by
 simp only[b2,a.ok h,At,cB];exact zr (.inr b)⟩
def GZ(a:R fa ρ (zE eI))(n:Int)(b:0<n/\n<1073741824):R (b2 Mv fa (cB (.int n))) ρ (zE eI):=⟨a.v / n,a.D,λh=>by
 simp only[b2,a.ok h,At,i2,cB,zr b]⟩
def El(a:R fa ρ (zE eI))(b:R fb ρ (zE eI)):R (b2 jg fa fb) ρ (zE eI):=⟨a.v%b.v,bD (bD a.D b.D) (O (0<b.v)),λh=>by
 obtain⟨h,c⟩:=aD h;obtain⟨h1,h2⟩:=aD h;have c:0<b.v:=c;simp only[b2,a.ok h1,b.ok h2,At,i2,zr c]⟩
def d9(a:R fa ρ (zE eI))(n:Int)(b:0<n):R (b2 jg fa (cB (.int n))) ρ (zE eI):=⟨a.v%n,a.D,λh=>by
 simp only[b2,a.ok h,At,i2,cB,zr b]⟩
def VO(a b:Int)(n:Nat)(h:0<=b/\b<=1000/\a.natAbs<18446744073709551616)(hb:b.toNat=n):R (b2 IE (cB (.int a)) (cB (.int b))) ρ (zE eI):=⟨a ^ n,Y3,λ_=>by
 simp only[b2,At,cB];show((if 0<=b/\b<=1000/\a.natAbs<2 ^ 64 then O (Dt.int (a ^ b.toNat))else Y3).bind λd=>O (Bx.z d))=_;rw[zr h,hb];rfl⟩
def HK(a:R fa ρ (zE eI))(b:R fb ρ (zE eI)):R (b2 FC fa fb) ρ (zE eB):=⟨decide (a.v<=b.v),bD a.D b.D,λh=>by
 obtain⟨h1,h2⟩:=aD h;simp only[b2,a.ok h1,b.ok h2,At,i2]⟩
def Zk(a:R fa ρ (zE eI))(b:R fb ρ (zE eI)):R (b2 DO fa fb) ρ (zE eB):=⟨decide (b.v<a.v),bD a.D b.D,λh=>by
 obtain⟨h1,h2⟩:=aD h;simp only[b2,a.ok h1,b.ok h2,At,i2]⟩
def F5(a:R fa ρ (zE eI))(b:R fb ρ (zE eI)):R (b2 GM fa fb) ρ (zE eB):=⟨decide (b.v<=a.v),bD a.D b.D,λh=>by
 obtain⟨h1,h2⟩:=aD h;simp only[b2,a.ok h1,b.ok h2,At,i2]⟩
def OL(a:R fa ρ (zE eI))(b:R fb ρ (zE eI)):R (b2 EG fa fb) ρ (zE eB):=⟨decide (a.v<b.v),bD a.D b.D,λh=>by
 obtain⟨h1,h2⟩:=aD h;simp only[b2,a.ok h1,b.ok h2,At,EG]⟩
def uq(x y:AJ):Bool:=decide (x.cps.toList<y.cps.toList)
end
class B9 {α:Type} [DecidableEq α] (e:α->Dt) (n:outParam Nat):Prop where
 eq:∀a b,Fl (e a) (e b)=some (decide (a=b))
 dp:∀a,yP (e a)<=n
class CH {α:Type} (e:α->Dt):Prop where
 l:∀a,Fl .non (e a)=some false
 r:∀a,Fl (e a) .non=some false
instance:B9 eI 1:=⟨λa b=>rfl,λa=>by simp[yP]⟩
instance:B9 eB 1:=⟨λa b=>rfl,λa=>by simp[yP]⟩
instance:B9 eS 1:=⟨λa b=>rfl,λa=>by simp[yP]⟩
instance:CH eI:=⟨λa=>rfl,λa=>rfl⟩
instance:CH eB:=⟨λa=>rfl,λa=>rfl⟩
instance:CH eS:=⟨λa=>rfl,λa=>rfl⟩
section
variable [DecidableEq α] [DecidableEq β] [DecidableEq γ] [DecidableEq δ] {e:α->Dt}{e':β->Dt}{e'':γ->Dt}{e3:δ->Dt}{m k l:Nat}
theorem Jf[B9 e n]:∀xs ys:Y α,nW (xs.map e) (ys.map e)=O (decide (xs=ys))
 |[],[]=>by simp[nW]
 |[],y::ys=>by simp[nW]
 |x::xs,[]=>by simp[nW]
 |x::xs,y::ys=>by
  simp only[zo,nW,B9.eq,Jf xs ys];congr 1;by_cases h:x=y<;>by_cases h':xs=ys<;>simp[h,h']
theorem Jg[B9 e n]:∀xs:Y α,wM (xs.map e)<=n
 |[]=>by simp[wM]
 |x::xs=>by
  have:=B9.dp (e:=e) x;have:=Jg xs;simp only[zo,wM];omega
instance [B9 e n]:B9 (eL e) (n+1):=⟨λa b=>Jf a b,λa=>by simp only[yP];have:=Jg (e:=e) a;omega⟩
instance [B9 e n]:B9 (eT e) (n+1):=⟨λa b=>Jf a b,λa=>by simp only[yP];have:=Jg (e:=e) a;omega⟩
instance:CH (eL e):=⟨λa=>rfl,λa=>rfl⟩
instance:CH (eT e):=⟨λa=>rfl,λa=>rfl⟩
instance:CH (N1 e):=⟨λa=>rfl,λa=>rfl⟩
instance:CH (Xo e e'):=⟨λa=>rfl,λa=>rfl⟩
instance:CH (DB e e' e''):=⟨λa=>rfl,λa=>rfl⟩
instance:CH (D3 e e' e'' e3):=⟨λa=>rfl,λa=>rfl⟩
instance [B9 e n]:B9 (N1 e) (n+1):=⟨λa b=>by
 simp only[GC,nW,B9.eq,KU],λa=>by
 have:=B9.dp (e:=e) a;simp only[yP,wM];omega⟩
instance [B9 e n] [B9 e' m]:B9 (Xo e e') (max n m+1):=⟨λa b=>by
 obtain⟨a,a'⟩:=a;obtain⟨b,b'⟩:=b;simp only[GC,nW,B9.eq,Prod.mk.injEq,Bool.decide_and,KU],λa=>by
 have:=B9.dp (e:=e) a.1;have:=B9.dp (e:=e') a.2;simp only[yP,wM];omega⟩
instance [B9 e n] [B9 e' m] [B9 e'' k]:B9 (DB e e' e'') (max n (max m k)+1):=⟨λa b=>by
 obtain⟨a,a',a2⟩:=a;obtain⟨b,b',b2⟩:=b;simp only[GC,nW,B9.eq,Prod.mk.injEq,Bool.decide_and,KU],λa=>by
 have:=B9.dp (e:=e) a.1;have:=B9.dp (e:=e') a.2.1;have:=B9.dp (e:=e'') a.2.2;simp only[yP,wM];omega⟩
instance [B9 e n] [B9 e' m] [B9 e'' k] [B9 e3 l]:B9 (D3 e e' e'' e3) (max n (max m (max k l))+1):=⟨λa b=>by
 obtain⟨a,a',a2,a3⟩:=a;obtain⟨b,b',b2,b3⟩:=b;simp only[GC,nW,B9.eq,Prod.mk.injEq,Bool.decide_and,KU],λa=>by
 have:=B9.dp (e:=e) a.1;have:=B9.dp (e:=e') a.2.1;have:=B9.dp (e:=e'') a.2.2.1;have:=B9.dp (e:=e3) a.2.2.2;simp only[yP,wM];omega⟩
instance [B9 e n] [CH e]:B9 (eO e) (n+1):=⟨λa b=>by
 cases a with
 |none=>cases b with
  |none=>exact rfl
  |some b=>exact(CH.l (e:=e) b).trans (by simp)
 |some a=>cases b with
  |none=>exact(CH.r (e:=e) a).trans (by simp)
  |some b=>exact(B9.eq (e:=e) a b).trans (by simp),λa=>by
 cases a with
 |none=>show yP .non<=n+1;simp[yP]
 |some a=>exact Nat.le_succ_of_le (B9.dp (e:=e) a)⟩
end
section
variable{fs:Ev->S (Y Bx)}{e:α->Dt}{e':β->Dt}
def BI[DecidableEq α][B9 e n](c:n<=100)(a:R fa ρ (zE e))(b:R fb ρ (zE e)):R (b2 C0 fa fb) ρ (zE eB):=⟨decide (a.v=b.v),bD a.D b.D,λh=>by
 obtain⟨h1,h2⟩:=aD h;have:=B9.dp (e:=e) a.v;simp only[b2,a.ok h1,b.ok h2,At,C0,wQ,toD,zv,or_self,ZU,B9.eq];rw[zr (by omega)]⟩
def KJ[DecidableEq α][B9 e n](c:n<=100)(a:R fa ρ (zE e))(b:R fb ρ (zE e)):R (b2 W0 fa fb) ρ (zE eB):=⟨!decide (a.v=b.v),bD a.D b.D,λh=>by
 obtain⟨h1,h2⟩:=aD h;have:=B9.dp (e:=e) a.v;simp only[b2,a.ok h1,b.ok h2,At,W0,wQ,toD,zv,or_self,ZU,B9.eq];rw[zr (by omega)]⟩
theorem sI(h:rz b=O ds):toD b=.lst ds/\wQ b=false:=by
 cases b with
 |z d=>cases d<;>cases h;exact⟨rfl,rfl⟩
 |l d=>cases h;exact⟨rfl,rfl⟩
 |o d=>cases h;exact⟨rfl,rfl⟩
 |n d=>cases h
 |m d _=>cases h
def TB[DecidableEq α][B9 e n](c:n+1<=100)(a:RL fa ρ e)(b:RL fb ρ e):R (b2 C0 fa fb) ρ (zE eB):=⟨decide (a.v=b.v),bD a.D b.D,λh=>by
 obtain⟨h1,h2⟩:=aD h;have:=B9.dp (e:=eL e) a.v;simp only[b2,a.ok h1,b.ok h2,At,C0,(sI a.lk).1,(sI a.lk).2,(sI b.lk).1,(sI b.lk).2,zv,or_self,ZU];have e1:=B9.eq (e:=eL e) a.v b.v;rw[zr (ZI (Nat.min_le_left _ _) (ZI (B9.dp (e:=eL e) a.v) c)),e1,At]⟩
def NW[DecidableEq α][B9 e n](c:n+1<=100)(a:RL fa ρ e)(b:RL fb ρ e):R (b2 W0 fa fb) ρ (zE eB):=⟨!decide (a.v=b.v),bD a.D b.D,λh=>by
 obtain⟨h1,h2⟩:=aD h;simp only[b2,a.ok h1,b.ok h2,At,W0,(sI a.lk).1,(sI a.lk).2,(sI b.lk).1,(sI b.lk).2,zv,or_self,ZU];have e1:=B9.eq (e:=eL e) a.v b.v;rw[zr (ZI (Nat.min_le_left _ _) (ZI (B9.dp (e:=eL e) a.v) c)),e1,At]⟩
def ir(a:R fa ρ (zE (eO e)))(b:∀x,Ia (.z (e x))=false):R (b2 DC fa (cB .non)) ρ (zE eB):=⟨a.v.isNone,a.D,λh=>by
 simp only[b2,a.ok h,At,cB,DC];cases c:a.v with
 |none=>rfl
 |some x=>simp only[Option.isNone_some,b]⟩
def Pz(a:R fa ρ (zE (eO e)))(b:∀x,Ia (.z (e x))=false):R (b2 Ib fa (cB .non)) ρ (zE eB):=⟨a.v.isSome,a.D,λh=>by
 simp only[b2,a.ok h,At,cB,Ib];cases c:a.v with
 |none=>rfl
 |some x=>simp only[ym,b,k6]⟩
def LJ(a:R fa ρ (zE eB))(b:R fb ρ (zE eB)):R (FF fa fb) ρ (zE eB):=⟨a.v&&b.v,bD a.D (Dl (a.v=true) b.D),λh=>by
 obtain⟨h1,h2⟩:=aD h;simp only[FF,a.ok h1,At,Om];cases c:a.v with
 |true=>simp only[QE,yT];exact b.ok (jM h2 c)
 |false=>simp only[zv,ZU,KG]⟩
def Fc(a:R fa ρ (zE eB)):R (tV fa) ρ tE:=⟨a.v,a.D,λh=>by simp only[tV,a.ok h,At,U4]⟩
def jp(a:R fa ρ (zE (eT e))):R (tV fa) ρ tE:=⟨!a.v.isEmpty,a.D,λh=>by
 simp only[tV,a.ok h,At,U4,List.isEmpty_map]⟩
def Xq(a:RL fa ρ e):R (tV fa) ρ tE:=⟨!a.v.isEmpty,a.D,λh=>by
 have:U4 a.b=O (!(a.v.map e).isEmpty):=by
  have:=a.lk;generalize a.v.map e=ds at this
  revert this
  generalize a.b=b;intro this;cases b with
  |z d=>cases d<;>cases this;rfl
  |l d=>cases this;rfl
  |o d=>cases this;rfl
  |n d=>cases this
  |m d _=>cases this
 simp only[tV,a.ok h,At,this,List.isEmpty_map]⟩
def cW{g:Bx->Bx->S Bx}(a:R (b2 g fa fb) ρ (zE eB)):R (rZ g fa fb) ρ tE:=⟨a.v,a.D,λh=>by simp only[rZ,a.ok h,At,Om]⟩
def Xr(a:R p ρ tE)(b:R q ρ tE):R (Rf p q) ρ tE:=⟨a.v&&b.v,bD a.D (Dl (a.v=true) b.D),λh=>by
 obtain⟨h1,h2⟩:=aD h;simp only[Rf,a.ok h1,At];cases c:a.v with
 |true=>simp only[QE,yT];exact b.ok (jM h2 c)
 |false=>simp only[zv,ZU,KG]⟩
def VF(a:R p ρ tE)(b:R q ρ tE):R (D0 p q) ρ tE:=⟨a.v||b.v,bD a.D (Dl (a.v=false) b.D),λh=>by
 obtain⟨h1,h2⟩:=aD h;simp only[D0,a.ok h1,At];cases c:a.v with
 |true=>simp only[QE,Bool.true_or]
 |false=>simp only[zv,ZU,Bool.false_or];exact b.ok (jM h2 c)⟩
def Xu(a:R p ρ tE):R (Yx p) ρ tE:=⟨!a.v,a.D,λh=>by simp only[Yx,a.ok h,At]⟩
def fT{g g':Bx->Bx->S Bx}(a:R (b2 g fa fb) ρ (zE eB))(b:R (b2 g' fb fc) ρ (zE eB)):R (EX g g' fa fb fc) ρ (zE eB):=⟨a.v&&b.v,bD a.D (Dl (a.v=true) b.D),λh=>by
 obtain⟨h1,e⟩:=aD h;have e1:=a.ok h1;simp only[b2]at e1;obtain⟨x,ex,e1⟩:=AT e1;obtain⟨y,c,e1⟩:=AT e1;simp only[EX,ex,c,At,e1,Om];cases d:a.v with
 |true=>
  have e2:=b.ok (jM e d);simp only[b2,c,At]at e2;simp only[QE,yT];exact e2
 |false=>simp only[zv,ZU,KG]⟩
def g3{c:α->Bx}(t:R p ρ tE)(a:R fa ρ c)(b:R fb ρ c):R (FS p fa fb) ρ c:=⟨if t.v=true then a.v else b.v,bD t.D (bD (Dl (t.v=true) a.D) (Dl (t.v=false) b.D)),λh=>by
 obtain⟨h1,h2⟩:=aD h;obtain⟨h2,e⟩:=aD h2;simp only[FS,t.ok h1,At];cases d:t.v with
 |true=>simp only[QE];exact a.ok (jM h2 d)
 |false=>simp only[zv,ZU];exact b.ok (jM e d)⟩
end
section
variable{ε:Type}{fd:Ev->S Bx}{fs:Ev->S (Y Bx)}{e:α->Dt}{e':β->Dt}{e'':γ->Dt}{e3:δ->Dt}
def Dm(e:α->Dt):R (cT iG aH) ρ (zE (eT e)):=⟨[],Y3,λ_=>Y2⟩
def i9(a:R fa ρ (zE e))(b:R fb ρ (zE e')):R (cT iG (aq fa (aq fb aH))) ρ (zE (Xo e e')):=⟨(a.v,b.v),bD a.D b.D,λh=>by
 obtain⟨h1,h2⟩:=aD h;simp only[cT,aq,aH,a.ok h1,b.ok h2,At];rfl⟩
def gY(a:R fa ρ (zE e))(b:R fb ρ (zE e'))(c:R fc ρ (zE e'')):R (cT iG (aq fa (aq fb (aq fc aH)))) ρ (zE (DB e e' e'')):=⟨(a.v,b.v,c.v),bD a.D (bD b.D c.D),λh=>by
 obtain⟨h1,h⟩:=aD h;obtain⟨h2,d⟩:=aD h;simp only[cT,aq,aH,a.ok h1,b.ok h2,c.ok d,At];rfl⟩
def tZ(a:R fa ρ (zE e))(b:R fb ρ (zE e'))(c:R fc ρ (zE e''))(d:R fd ρ (zE e3)):R (cT iG (aq fa (aq fb (aq fc (aq fd aH))))) ρ (zE (D3 e e' e'' e3)):=⟨(a.v,b.v,c.v,d.v),bD a.D (bD b.D (bD c.D d.D)),λh=>by
 obtain⟨h1,h⟩:=aD h;obtain⟨h2,h⟩:=aD h;obtain⟨f,g⟩:=aD h;simp only[cT,aq,aH,a.ok h1,b.ok h2,c.ok f,d.ok g,At];rfl⟩
def iK(e:α->Dt):R aH ρ (λxs:Y α=>xs.map (zE e)):=⟨[],Y3,λ_=>Y2⟩
def jo(a:R fa ρ (zE e))(t:R fs ρ (λxs:Y α=>xs.map (zE e))):R (aq fa fs) ρ (λxs:Y α=>xs.map (zE e)):=⟨a.v::t.v,bD a.D t.D,λh=>by
 obtain⟨h1,h2⟩:=aD h;simp only[aq,a.ok h1,t.ok h2,At,zo]⟩
theorem Jh:∀xs:Y α,Oo (xs.map (zE e))=O (xs.map e)
 |[]=>rfl
 |x::xs=>by simp only[zo,Oo,Jh xs,At]
def qx(t:R fs ρ (λxs:Y α=>xs.map (zE e)))(a:t.v.length<=1000):R (cT rC fs) ρ (oE e):=⟨t.v,t.D,λh=>by
 simp only[cT,t.ok h,At,rC,zt,zr a,Jh]⟩
def PJ(t:R fs ρ (λxs:Y α=>xs.map (zE e)))(a:t.v.length<=1000):R (cT iG fs) ρ (zE (eT e)):=⟨t.v,t.D,λh=>by
 simp only[cT,t.ok h,At,iG,zt,zr a,Jh]⟩
def at'[Inhabited α](xs:Y α)(i:Int):α:=(Kl xs i).getD default
def In(n:Nat)(i:Int):Prop:=-(n:Int)<=i/\i<n
theorem PK{xs:Y α}{i:Int}(h:In xs.length i):∃x,Kl xs i=O x:=by
 obtain⟨h1,h2⟩:=h;unfold Kl EJ;by_cases h0:0<=i
 ·rw[zr h0,zr h2];exact⟨xs[i.toNat]'(by omega),z5 (by omega)⟩
 ·rw[zI h0,zr h1];exact⟨xs[(i+xs.length).toNat]'(by omega),z5 (by omega)⟩
theorem X2{xs:Y α}{i:Int}{x:α}(h:Kl xs i=O x):Kl (xs.map e) i=O (e x):=by
 unfold Kl at h ⊢;rw[zt];obtain⟨j,a,h⟩:=AT h;rw[a,At,ZE,h];rfl
theorem MI[Inhabited α]{xs:Y α}{i:Int}(h:In xs.length i):Kl (xs.map e) i=O (e (at' xs i)):=by
 obtain⟨x,hx⟩:=PK h;rw[X2 hx];unfold at';rw[hx];rfl
theorem gm{i:Int}(h:rz b=O ds):eF b (.z (.int i))=(Kl ds i).bind λd=>O (.z d):=by
 cases b with
 |z d=>cases d<;>cases h;rfl
 |l d=>cases h;rfl
 |o d=>cases h;rfl
 |n d=>cases h
 |m d _=>cases h
def iW[Inhabited α](a:RL fa ρ e)(b:R fb ρ (zE eI)):R (b2 eF fa fb) ρ (zE e):=⟨at' a.v b.v,bD (bD a.D b.D) (O (In a.v.length b.v)),λh=>by
 obtain⟨h,c⟩:=aD h;obtain⟨h1,h2⟩:=aD h;simp only[b2,a.ok h1,b.ok h2,At,gm a.lk,MI (show In a.v.length b.v from c)]⟩
def HZ[Inhabited α](a:R fa ρ (zE (eT e)))(b:R fb ρ (zE eI)):R (b2 eF fa fb) ρ (zE e):=⟨at' a.v b.v,bD (bD a.D b.D) (O (In a.v.length b.v)),λh=>by
 obtain⟨h,c⟩:=aD h;obtain⟨h1,h2⟩:=aD h;simp only[b2,a.ok h1,b.ok h2,At,eF,wR,MI (show In a.v.length b.v from c)]⟩
def ch(x:AJ)(i:Int):AJ:=⟨#[(Kl x.cps.toList i).getD 0]⟩
def Xv(a:R fa ρ (zE eS))(b:R fb ρ (zE eI)):R (b2 eF fa fb) ρ (zE eS):=⟨ch a.v b.v,bD (bD a.D b.D) (O (In a.v.length b.v)),λh=>by
 obtain⟨h,c⟩:=aD h;obtain⟨h1,h2⟩:=aD h;obtain⟨x,hx⟩:=PK (xs:=a.v.cps.toList) (i:=b.v) (show In a.v.length b.v from c);simp only[b2,a.ok h1,b.ok h2,At,eF,hx,ch,Option.getD_some]⟩
def bQ(a:R fa ρ (zE e))(g:α->β)(e':β->Dt)(i:Int)(h:∀x,eF (.z (e x)) (.z (.int i))=O (.z (e' (g x)))):R (b2 eF fa (cB (.int i))) ρ (zE e'):=⟨g a.v,a.D,λhd=>by
 simp only[b2,a.ok hd,At,cB,h]⟩
def BN(xs:Y α)(lo hi:S Int):Y α:=(xs.drop (HT.jL xs.length 0 lo)).take (HT.jL xs.length xs.length hi-HT.jL xs.length 0 lo)
theorem UK(xs:Y α)(lo hi:S Int):C2 (xs.map e) lo hi=(BN xs lo hi).map e:=by
 unfold C2 BN;rw[zt,List.map_take,List.map_drop]
abbrev pE:S Int->S Int:=λo=>o
def Zm:R rG ρ pE:=⟨Y3,Y3,λ_=>Y2⟩
def Zn(a:R fa ρ (zE eI)):R (vV fa) ρ pE:=⟨O a.v,a.D,λh=>by simp only[vV,a.ok h,At,IR]⟩
variable{fl fh:Ev->S (S Int)}
theorem hX(h:rz b=O ds):EI b lo hi=O (.o (C2 ds lo hi)):=by
 cases b with
 |z d=>cases d<;>cases h;rfl
 |l d=>cases h;rfl
 |o d=>cases h;rfl
 |n d=>cases h
 |m d _=>cases h
def Fk(a:RL fa ρ e)(l:R fl ρ pE)(u:R fh ρ pE):R (Ut fa fl fh) ρ (oE e):=⟨BN a.v l.v u.v,bD a.D (bD l.D u.D),λh=>by
 obtain⟨h1,h⟩:=aD h;obtain⟨h2,b⟩:=aD h;simp only[Ut,a.ok h1,l.ok h2,u.ok b,At,hX a.lk,UK]⟩
def OH(a:R fa ρ (zE eS))(l:R fl ρ pE)(u:R fh ρ pE):R (Ut fa fl fh) ρ (zE eS):=⟨Txt.slice a.v l.v u.v,bD a.D (bD l.D u.D),λh=>by
 obtain⟨h1,h⟩:=aD h;obtain⟨h2,b⟩:=aD h;simp only[Ut,a.ok h1,l.ok h2,u.ok b,At,EI]⟩
def zH(n:Nat):Prop:=n<=1000000
def VG(a:R fa ρ (zE eS))(b:R fb ρ (zE eS)):R (b2 eU fa fb) ρ (zE eS):=⟨a.v++b.v,bD (bD a.D b.D) (O (zH (a.v.length+b.v.length))),λh=>by
 obtain⟨h,c⟩:=aD h;obtain⟨h1,h2⟩:=aD h;simp only[b2,a.ok h1,b.ok h2,At,eU,zr (show a.v.length+b.v.length<=Ve from c)]⟩
def Ji(a:R fa ρ (zE (eT e)))(b:R fb ρ (zE (eT e))):R (b2 eU fa fb) ρ (zE (eT e)):=⟨a.v++b.v,bD (bD a.D b.D) (O (zH (a.v.length+b.v.length))),λh=>by
 obtain⟨h,c⟩:=aD h;obtain⟨h1,h2⟩:=aD h;simp only[b2,a.ok h1,b.ok h2,At,eU,zt,zr (show a.v.length+b.v.length<=Ve from c),zE,eT,qc]⟩
theorem TL{e:Bx}{f:Y Dt}(h:rz b=O ds)(h':rz e=O f)(c:ds.length+f.length<=Ve):eU b e=O (.o (ds++f)):=by
 cases b with
 |z d=>
  cases d<;>cases h;cases e with
  |z a=>cases a<;>cases h';exact zr c
  |l a=>cases h';exact zr c
  |o a=>cases h';exact zr c
  |n a=>cases h'
  |m a=>cases h'
 |l d=>
  cases h;cases e with
  |z a=>cases a<;>cases h';exact zr c
  |l a=>cases h';exact zr c
  |o a=>cases h';exact zr c
  |n a=>cases h'
  |m a=>cases h'
 |o d=>
  cases h;cases e with
  |z a=>cases a<;>cases h';exact zr c
  |l a=>cases h';exact zr c
  |o a=>cases h';exact zr c
  |n a=>cases h'
  |m a=>cases h'
 |n d=>cases h
 |m d _=>cases h
def MC(a:RL fa ρ e)(b:RL fb ρ e):R (b2 eU fa fb) ρ (oE e):=⟨a.v++b.v,bD (bD a.D b.D) (O (zH (a.v.length+b.v.length))),λh=>by
 obtain⟨h,c⟩:=aD h;obtain⟨h1,h2⟩:=aD h;simp only[b2,a.ok h1,b.ok h2,At];rw[TL a.lk b.lk (by rw[zt,zt];exact c)];simp only[oE,qc]⟩
def df(a:R fa ρ (zE eS))(b:R fb ρ (zE eI)):R (b2 yH fa fb) ρ (zE eS):=⟨Txt.mul a.v b.v,bD (bD a.D b.D) (O (b.v<=1000 ∧ -1000<=b.v/\a.v.length<=1000)),λh=>by
 obtain⟨h,c⟩:=aD h;obtain⟨h1,h2⟩:=aD h;simp only[b2,a.ok h1,b.ok h2,At];exact zr c⟩
theorem VC(h:rz b=O ds):uT [b]=O (.z (.int ds.length)):=by
 cases b with
 |z d=>cases d<;>cases h;rfl
 |l d=>cases h;rfl
 |o d=>cases h;rfl
 |n d=>cases h
 |m d _=>cases h
theorem ce(h:rz b=O ds):wR b=O ds:=by
 cases b with
 |z d=>cases d<;>cases h;rfl
 |l d=>cases h;rfl
 |o d=>cases h;rfl
 |n d=>cases h
 |m d _=>cases h
def F3(a:RL fa ρ e):R (cT uT (aq fa aH)) ρ (zE eI):=⟨(a.v.length:Int),a.D,λh=>by
 simp only[cT,aq,aH,a.ok h,At,VC a.lk,zt]⟩
def w5(a:R fa ρ (zE (eT e))):R (cT uT (aq fa aH)) ρ (zE eI):=⟨(a.v.length:Int),a.D,λh=>by
 simp only[cT,aq,aH,a.ok h,At,uT,wR,zt]⟩
def ff(a:R fa ρ (zE eS)):R (cT uT (aq fa aH)) ρ (zE eI):=⟨(a.v.length:Int),a.D,λh=>by
 simp only[cT,aq,aH,a.ok h,At,uT]⟩
def jH(a:RL fa ρ e):R (cT iI (aq fa aH)) ρ (zE (eT e)):=⟨a.v,a.D,λh=>by
 simp only[cT,aq,aH,a.ok h,At,iI,ce a.lk]⟩
def bE(a:R fa ρ (zE eI)):R (cT EV (aq fa aH)) ρ (zE eI):=⟨if a.v<0 then -a.v else a.v,a.D,λh=>by
 simp only[cT,aq,aH,a.ok h,At,EV]⟩
def P9(a:R fa ρ (zE eB)):R (cT Eg (aq fa aH)) ρ (zE eI):=⟨if a.v=true then 1 else 0,a.D,λh=>by
 simp only[cT,aq,aH,a.ok h,At,Eg]⟩
theorem Nh:∀l:Y Bool,MF (l.map eB)=O l
 |[]=>rfl
 |a::l=>by simp only[zo,MF,Nh l,At]
def X'(a:RL fa ρ eB):R (cT CS (aq fa aH)) ρ (zE eB):=⟨a.v.any id,a.D,λh=>by
 simp only[cT,aq,aH,a.ok h,At,CS,a.lk,Nh]⟩
def Ni(a:R fa ρ (zE eI))(b:R fb ρ (zE eI)):R (cT Kw (aq fa (aq fb aH))) ρ (zE eI):=⟨if b.v>a.v then b.v else a.v,bD a.D b.D,λh=>by
 obtain⟨h1,h2⟩:=aD h;simp only[cT,aq,aH,a.ok h1,b.ok h2,At,Kw]⟩
def OE(a:R fa ρ (zE eI))(b:R fb ρ (zE eI)):R (cT YK (aq fa (aq fb aH))) ρ (zE eI):=⟨if b.v<a.v then b.v else a.v,bD a.D b.D,λh=>by
 obtain⟨h1,h2⟩:=aD h;simp only[cT,aq,aH,a.ok h1,b.ok h2,At,YK]⟩
theorem BM:∀l:AZ,Ea (l.map eS)=O l
 |[]=>rfl
 |a::l=>by simp only[zo,Ea,BM l,At]
def S3(s:AJ)(a:RL fa ρ eS):R (b1 (RG s) fa) ρ (zE eS):=⟨Txt.join s a.v,bD a.D (O ((a.v.map (·.length)).sum+a.v.length*s.length<=100000)),λh=>by
 obtain⟨h,b⟩:=aD h;simp only[b1,a.ok h,At,RG,a.lk,BM];exact zr b⟩
def UO(a:RL fa ρ eS):R (cT MJ (aq fa aH)) ρ (oE eS):=⟨pG a.v,bD a.D (O (a.v.length<64)),λh=>by
 obtain⟨h,b⟩:=aD h;simp only[cT,aq,aH,a.ok h,At,MJ,a.lk,BM];exact zr b⟩
def GW(a:R fa ρ (zE e))(g:α->β)(e':β->Dt)(lo hi:S Int)(c:fl ρ=O lo)(b:fh ρ=O hi)(h:∀x,EI (.z (e x)) lo hi=O (.z (e' (g x)))):R (Ut fa fl fh) ρ (zE e'):=⟨g a.v,a.D,λhd=>by
 simp only[Ut,a.ok hd,c,b,At,h]⟩
class C7 {α:Type} (e:α->Dt):Prop where
 f:∀a,Aj (e a)=true
instance:C7 eI:=⟨λ_=>rfl⟩
instance:C7 eB:=⟨λ_=>rfl⟩
instance:C7 eS:=⟨λ_=>rfl⟩
theorem WF[DecidableEq α][B9 e n][C7 e](x:α)(ys:Y α):CY (e x) (ys.map e)=O (decide (x∈ys)):=by
 unfold CY;rw[zr ⟨C7.f x,by rw[List.all_map];exact List.all_eq_true.mpr λy _=>C7.f y⟩,List.any_map];congr 1;rw[Q2,Q4,decide_eq_true_iff];constructor
 ·rintro⟨y,a,h⟩;simp only[Function.comp,B9.eq]at h;by_cases e1:y=x
  ·rw[<-e1];exact a
  ·simp only[e1,k8]at h;cases h
 ·intro h;exact⟨x,h,by simp only[Function.comp,B9.eq,KW]⟩
theorem iX:GO (.z d) (.z (.tup ds))=CY d ds:=by cases d<;>rfl
def SM[DecidableEq α][B9 e n][C7 e](a:R fa ρ (zE e))(b:R fb ρ (zE (eT e))):R (b2 DS fa fb) ρ (zE eB):=⟨decide (a.v∈b.v),bD a.D b.D,λh=>by
 obtain⟨h1,h2⟩:=aD h;simp only[b2,a.ok h1,b.ok h2,At,DS,iX,WF]⟩
end
structure AR {γ:Type} (cA:γ->List Bx->Prop) (fs:Ev->Option (List Bx)) (ρ:Ev) where
 v:γ
 D:Option Prop
 bs:List Bx
 h:cA v bs
 ok:hold D->fs ρ=some bs
section
variable{ε σ:Type}{fd:Ev->S Bx}{fs:Ev->S (Y Bx)}{e:α->Dt}{e':β->Dt}{e'':γ->Dt}{e3:δ->Dt}
def aN:Unit->Y Bx->Prop:=λ_ bs=>bs=[]
def aZ(e:α->Dt)(t:γ->Y Bx->Prop):α×γ->Y Bx->Prop:=λx bs=>∃r,bs=.z (e x.1)::r/\t x.2 r
def aL(e:α->Dt)(t:γ->Y Bx->Prop):Y α×γ->Y Bx->Prop:=λx bs=>∃b r,bs=b::r/\rz b=O (x.1.map e)/\t x.2 r
def aX:AR aN aH ρ:=⟨(),Y3,[],rfl,λ_=>Y2⟩
def bV{t:γ->Y Bx->Prop}(a:R fa ρ (zE e))(r:AR t fs ρ):AR (aZ e t) (aq fa fs) ρ:=⟨(a.v,r.v),bD a.D r.D,_,⟨_,rfl,r.h⟩,λh=>by
 obtain⟨h1,h2⟩:=aD h;simp only[aq,a.ok h1,r.ok h2,At]⟩
def mJ{t:γ->Y Bx->Prop}(a:RL fa ρ e)(r:AR t fs ρ):AR (aL e t) (aq fa fs) ρ:=⟨(a.v,r.v),bD a.D r.D,_,⟨_,_,rfl,a.lk,r.h⟩,λh=>by
 obtain⟨h1,h2⟩:=aD h;simp only[aq,a.ok h1,r.ok h2,At]⟩
def An{d:γ->Y Bx->Prop}{F:Y Bx->Option Bx}{c:α->Bx}{T:γ->α}{b:γ->Option Prop}(S:∀v bs,d v bs->bs.length=n/\(hold (b v)->F (bs.map lend)=O (c (T v))))(a:AR d fs ρ):R (bO n F fs) ρ c:=⟨T a.v,bD a.D (b a.v),λh=>by
 obtain⟨h1,h2⟩:=aD h;obtain⟨e,f⟩:=S a.v a.bs a.h;simp only[bO,a.ok h1,At,zr e,f h2]⟩
theorem Md{bs:Y Bx}{c:α->Bx}(x:R g (bs.map O++List.replicate (n-bs.length) Y3) (λr=>Ap.rt (c r)))(h:hold x.D):dJ n g bs=O (c x.v):=by
 unfold dJ;rw[x.ok h];rfl
def FO(xs:Y α)(P:α->S Prop):S Prop:=O (∀x∈xs,hold (P x))
theorem Jj{fs:Ev->S (Y Dt)}{b:Ev}{g:α->Y Dt}{π:α->Bool}:∀xs:Y α,(∀x∈xs,∃a,gt (e x) b=O a/\p a=O (π x)/\(π x=true->fs a=O (g x)))->CT gt p fs b (xs.map e)=O ((xs.filter π).flatMap g)
 |[],_=>rfl
 |x::xs,h=>by
  obtain⟨a,h1,h2,f⟩:=h x (zh ..);have c:=Jj (g:=g) (π:=π) xs λy d=>h y (zi _ d);cases hp:π x with
  |true=>simp only[zo,CT,h1,At,h2,hp,QE,f hp,c,List.filter_cons,JU]
  |false=>simp only[zo,CT,h1,At,h2,hp,c,List.filter_cons,zv,ZU]
theorem SN{g:α->β}:∀xs:Y α,xs.flatMap (λx=>[e' (g x)])=(xs.map g).map e'
 |[]=>rfl
 |x::xs=>by rw[JU,SN xs];rfl
theorem Jk{b:Ev}{g:α->β}{π:α->Bool}(xs:Y α)(h:∀x∈xs,∃a,gt (e x) b=O a/\p a=O (π x)/\(π x=true->fe a=O (.z (e' (g x))))):DR gt p fe b (xs.map e)=O (((xs.filter π).map g).map e'):=by
 rw[<-SN];exact Jj xs λx hx=>let ⟨a,h1,h2,h3⟩:=h x hx;⟨a,h1,h2,λhp=>by rw[h3 hp];rfl⟩
theorem BY{b:Ev}{g:α->β}(xs:Y α)(h:∀x∈xs,∃a,gt (e x) b=O a/\fe a=O (.z (e' (g x)))):DR gt tX fe b (xs.map e)=O ((xs.map g).map e'):=
 (Jk (π:=λ_=>true) xs λx hx=>let ⟨a,h1,h2⟩:=h x hx;⟨a,h1,rfl,λ_=>h2⟩).trans (by rw[List.filter_eq_self.mpr λ_ _=>Y2])
def VH(it:R fi ρ (iE e))(a:α->Ev)(d:∀x,gt (e x) (lq is ρ++List.replicate n Y3)=O (a x))(b:∀x,R fe (a x) (zE e')):R (fM fi gt tX fe is n) ρ (oE e'):=⟨it.v.map λx=>(b x).v,bD (bD it.D (O (it.v.length<=100000))) (FO it.v λx=>(b x).D),λh=>by
 obtain⟨h,c⟩:=aD h;obtain⟨h1,h2⟩:=aD h;have c:∀x∈it.v,hold (b x).D:=c;simp only[fM,it.ok h1,At,zt,zr (show it.v.length<=100000 from h2),BY it.v λx hx=>⟨a x,d x,(b x).ok (c x hx)⟩]⟩
def mV(it:R fi ρ (iE e))(a:α->Ev)(c:∀x,gt (e x) (lq is ρ++List.replicate n Y3)=O (a x))(b:∀x,R fe (a x) (zE e'))(hb:∀x,(b x).D=Y3):R (fM fi gt tX fe is n) ρ (oE e'):=⟨it.v.map λx=>(b x).v,bD it.D (O (it.v.length<=100000)),λh=>by
 obtain⟨h1,h2⟩:=aD h;simp only[fM,it.ok h1,At,zt,zr (show it.v.length<=100000 from h2),BY it.v λx hx=>⟨a x,c x,(b x).ok (by rw[hb x];trivial)⟩]⟩
def Bg(it:R fi ρ (iE e))(a:α->Ev)(d:∀x,gt (e x) (lq is ρ++List.replicate n Y3)=O (a x))(t:∀x,R p (a x) tE)(b:∀x,R fe (a x) (zE e')):R (fM fi gt p fe is n) ρ (oE e'):=⟨(it.v.filter λx=>(t x).v).map λx=>(b x).v,bD (bD it.D (O (it.v.length<=100000))) (FO it.v λx=>bD (t x).D (Dl ((t x).v=true) (b x).D)),λh=>by
 obtain⟨h,c⟩:=aD h;obtain⟨h1,h2⟩:=aD h;have c:∀x∈it.v,hold (bD (t x).D (Dl ((t x).v=true) (b x).D)):=c;simp only[fM,it.ok h1,At,zt,zr (show it.v.length<=100000 from h2),Jk it.v λx hx=>⟨a x,d x,(t x).ok (aD (c x hx)).1,λf=>(b x).ok (jM (aD (c x hx)).2 f)⟩]⟩
def Bh(it:R fi ρ (iE e))(a:α->Ev)(c:∀x,gt (e x) (lq is ρ++List.replicate n Y3)=O (a x))(t:∀x,R p (a x) tE)(b:∀x,R fe (a x) (zE e'))(d:∀x,(t x).D=Y3)(hb:∀x,(b x).D=Y3):R (fM fi gt p fe is n) ρ (oE e'):=⟨(it.v.filter λx=>(t x).v).map λx=>(b x).v,bD it.D (O (it.v.length<=100000)),λh=>by
 obtain⟨h1,h2⟩:=aD h;simp only[fM,it.ok h1,At,zt,zr (show it.v.length<=100000 from h2),Jk it.v λx hx=>⟨a x,c x,(t x).ok (by rw[d x];trivial),λ_=>(b x).ok (by rw[hb x];trivial)⟩]⟩
def PL(a:RL fa ρ e):R (Kv fa) ρ (iE e):=⟨a.v,a.D,λh=>by
 have:FU a.b=O (a.v.map e):=by
  have:=a.lk
  revert this
  generalize a.b=b;generalize a.v.map e=ds;intro this;cases b with
  |z d=>cases d<;>cases this;rfl
  |l d=>cases this;rfl
  |o d=>cases this;rfl
  |n d=>cases this
  |m d _=>cases this
 simp only[Kv,a.ok h,At,this]⟩
def Fv(a:R fa ρ (zE (eT e))):R (Kv fa) ρ (iE e):=⟨a.v,a.D,λh=>by simp only[Kv,a.ok h,At,FU]⟩
def Gc(a:R fa ρ (oE e)):R (DJ fa) ρ (iE e):=⟨a.v,a.D,λh=>by simp only[DJ,a.ok h,At,FG]⟩
def UB(a:R fa ρ (zE (eT e))):R (DJ fa) ρ (iE e):=⟨a.v,a.D,λh=>by simp only[DJ,a.ok h,At,FG]⟩
def rng(i:Int)(n:Nat):Y Int:=(List.range n).map λk:Nat=>i+(k:Int)
theorem UT(i:Int)(n:Nat):Rn i n=(rng i n).map eI:=by
 unfold Rn rng;rw[QO];rfl
def Rg(j:Int):Prop:=-4611686018427387904<=j/\j<4611686018427387904
def Em(a:R fa ρ (zE eI)):R (W3 (aq fa aH)) ρ (iE eI):=⟨rng 0 a.v.toNat,bD a.D (O (Rg a.v)),λh=>by
 obtain⟨h,b⟩:=aD h;simp only[W3,aq,aH,a.ok h,At];show(if -(2 ^ 62)<=a.v/\a.v<2 ^ 62 then O (Rn 0 a.v.toNat)else Y3)=_;exact(zr b).trans (by rw[UT])⟩
end
section
variable{ε σ τ:Type}{fd:Ev->S Bx}{fs:Ev->S (Y Bx)}{e:α->Dt}{e':β->Dt}{g1 g2 k:Ev->S Ap}{cO:γ->Ap}
theorem mX{ρ':Ev}(h:g1 ρ=O (.nx ρ')):aF g1 k ρ=k ρ':=by
 unfold aF;rw[h];rfl
def bJ(x:R (aF g (aF g1 k)) ρ cO):R (aF (aF g g1) k) ρ cO:=⟨x.v,x.D,λh=>by
 rw[<-x.ok h];unfold aF;cases g ρ with
 |none=>rfl
 |some o=>cases o<;>rfl⟩
def bT(x:R k ρ cO):R (aF fu k) ρ cO:=⟨x.v,x.D,λh=>x.ok h⟩
def bM(x:γ)(h:cO x=.nx (kill is ρ)):R (dG is) ρ cO:=⟨x,Y3,λ_=>by rw[h];rfl⟩
def cU{c:α->Bx}(inj:α->γ)(a:R f ρ c)(h:∀x,cO (inj x)=.rt (c x))(b:∀x,EO (c x)=O (.rt (c x))):R (aF (gM f) k) ρ cO:=⟨inj a.v,a.D,λhd=>by
 have:gM f ρ=O (.rt (c a.v)):=by unfold gM;rw[a.ok hd,At,b]
 unfold aF;rw[this,h];rfl⟩
def Jl{c:α->Bx}(i:Nat)(inj:α->γ)(a:α)(hi:ρ[i]?=O (O (c a)))(h:∀x,cO (inj x)=.rt (c x))(b:∀x,EO (c x)=O (.rt (c x))):R (aF (HJ i) k) ρ cO:=⟨inj a,Y3,λhd=>by
 have:HJ i ρ=O (.rt (c a)):=by unfold HJ;rw[hi];exact b a
 unfold aF;rw[this,h];rfl⟩
def bA{c:α->Bx}(i:Nat)(a:R f ρ c)(b:∀x,Yy ρ i (c x)=O (ρ.set i (O (c x))))(K:∀x,R k (ρ.set i (O (c x))) cO):R (aF (As i f) k) ρ cO:=⟨(K a.v).v,bD a.D (K a.v).D,λhd=>by
 obtain⟨h1,h2⟩:=aD hd;rw[mX (ρ':=ρ.set i (O (c a.v))) (by unfold As;rw[a.ok h1,At,b,At])];exact(K a.v).ok h2⟩
def Jm(a:R f ρ (zE e))(b:α->Ev)(c:∀x,gt (e x) ρ=O (b x))(K:∀x,R k (b x) cO):R (aF (Oz gt f) k) ρ cO:=⟨(K a.v).v,bD a.D (K a.v).D,λhd=>by
 obtain⟨h1,h2⟩:=aD hd;rw[mX (ρ':=b a.v) (by unfold Oz;rw[a.ok h1,At];simp only[c,At])];exact(K a.v).ok h2⟩
def L5(i j:Nat)(a:R fa ρ (zE e))(b:R fb ρ (zE e'))(K:∀x y,R k ((ρ.set i (O (.z (e x)))).set j (O (.z (e' y)))) cO):R (aF (Fm i j (aq fa (aq fb aH))) k) ρ cO:=⟨(K a.v b.v).v,bD (bD a.D b.D) (K a.v b.v).D,λhd=>by
 obtain⟨h1,c⟩:=aD hd;obtain⟨h1,h2⟩:=aD h1;rw[mX (ρ':=(ρ.set i (O (.z (e a.v)))).set j (O (.z (e' b.v)))) (by unfold Fm;simp only[aq,aH,a.ok h1,b.ok h2,At,GT])];exact(K a.v b.v).ok c⟩
def w6(i:Nat)(xs:Y α)(hi:ρ[i]?=O (O (.o (xs.map e))))(a:R f ρ (zE e))(K:∀ys:Y α,R k (ρ.set i (O (.o (ys.map e)))) cO):R (aF (Dd i f) k) ρ cO:=⟨(K (xs++[a.v])).v,bD (bD a.D (O (zH xs.length))) (K (xs++[a.v])).D,λhd=>by
 obtain⟨h1,b⟩:=aD hd;obtain⟨h1,h2⟩:=aD h1;have h2:xs.length<=1000000:=h2;rw[mX (ρ':=ρ.set i (O (.o ((xs++[a.v]).map e)))) (by
  unfold Dd;rw[a.ok h1,At];simp only[G0,hi,zt,qc,zo,ko];rw[zr (Kn h2 (by decide))])]
 exact(K _).ok b⟩
def mj(t:R p ρ tE)(a:R (aF g1 k) ρ cO)(b:R (aF g2 k) ρ cO):R (aF (xZ p g1 g2) k) ρ cO:=⟨if t.v=true then a.v else b.v,bD t.D (bD (Dl (t.v=true) a.D) (Dl (t.v=false) b.D)),λhd=>by
 obtain⟨h1,h2⟩:=aD hd;obtain⟨h2,f⟩:=aD h2;have e1:∀c,t.v=c->aF (xZ p g1 g2) k ρ=aF (if c=true then g1 else g2) k ρ:=λc e=>by
  unfold aF xZ;rw[t.ok h1,At,e];cases c<;>rfl
 cases d:t.v with
 |true=>rw[e1 true d];simp only[QE];exact a.ok (jM h2 d)
 |false=>rw[e1 false d];simp only[zv,ZU];exact b.ok (jM f d)⟩
def xg(E:σ->Ev)(t:R p ρ tE)(a:R g1 ρ (λs=>Ap.nx (E s)))(b:R g2 ρ (λs=>Ap.nx (E s)))(K:∀s,R k (E s) cO):R (aF (xZ p g1 g2) k) ρ cO:=⟨(K (if t.v=true then a.v else b.v)).v,bD (bD t.D (bD (Dl (t.v=true) a.D) (Dl (t.v=false) b.D))) (K (if t.v=true then a.v else b.v)).D,λhd=>by
 obtain⟨h,e⟩:=aD hd;obtain⟨h1,h2⟩:=aD h;obtain⟨h2,d⟩:=aD h2;rw[mX (ρ':=E (if t.v=true then a.v else b.v)) (by
  unfold xZ;rw[t.ok h1,At];cases c:t.v with
  |true=>simp only[QE];exact a.ok (jM h2 c)
  |false=>simp only[zv,ZU];exact b.ok (jM d c))]
 exact(K _).ok e⟩
def nU(step:σ->α->σ)(P:σ->α->S Prop):Y α->σ->Prop
 |[],_=>True
 |x::xs,s=>hold (P s x)/\nU step P xs (step s x)
theorem Bj{gb:Ev->S Ap}(E:σ->Ev)(a:σ->α->Ev)(b:∀s x,gt (e x) (E s)=O (a s x))(body:∀s x,R gb (a s x) (λs=>Ap.nx (E s))):∀(xs:Y α) (s:σ),nU (λs x=>(body s x).v) (λs x=>(body s x).D) xs s->rW gt gb (xs.map e) (E s)=O (.nx (E (xs.foldl (λs x=>(body s x).v) s)))
 |[],s,_=>rfl
 |x::xs,s,h=>by
  simp only[zo,rW,b,At,(body s x).ok h.1,qS];exact Bj E a b body xs _ h.2
def Jo(E:σ->Ev)(a:σ)(c:ρ=E a)(it:R fi ρ (iE e))(b:σ->α->Ev)(d:∀s x,gt (e x) (E s)=O (b s x))(body:∀s x,R gb (b s x) (λs=>Ap.nx (E s)))(K:∀s,R k (E s) cO):R (aF (yI fi gt gb) k) ρ cO:=⟨(K (it.v.foldl (λs x=>(body s x).v) a)).v,bD (bD it.D (O (nU (λs x=>(body s x).v) (λs x=>(body s x).D) it.v a))) (K (it.v.foldl (λs x=>(body s x).v) a)).D,λhd=>by
 obtain⟨h,f⟩:=aD hd;obtain⟨h1,h2⟩:=aD h;rw[mX (ρ':=E (it.v.foldl (λs x=>(body s x).v) a)) (by
  unfold yI;rw[it.ok h1,At];subst c;exact Bj E b d body it.v a h2)]
 exact(K _).ok f⟩
def V'(E:σ->Ev)(a:σ)(d:ρ=E a)(it:R fi ρ (iE e))(b:σ->α->Ev)(c:∀s x,gt (e x) (E s)=O (b s x))(body:∀s x,R gb (b s x) (λs=>Ap.nx (E s)))(hb:∀s x,(body s x).D=Y3)(K:∀s,R k (E s) cO):R (aF (yI fi gt gb) k) ρ cO:=⟨(K (it.v.foldl (λs x=>(body s x).v) a)).v,bD it.D (K (it.v.foldl (λs x=>(body s x).v) a)).D,λhd=>by
 obtain⟨h1,f⟩:=aD hd;have h2:∀(xs:Y α) (s:σ),nU (λs x=>(body s x).v) (λs x=>(body s x).D) xs s:=λxs=>by
  induction xs with
  |nil=>intro s;trivial
  |cons x xs g=>intro s;exact⟨by show hold (body s x).D;rw[hb s x];trivial,g _⟩
 rw[mX (ρ':=E (it.v.foldl (λs x=>(body s x).v) a)) (by
  unfold yI;rw[it.ok h1,At];subst d;exact Bj E b c body it.v a (h2 _ _))]
 exact(K _).ok f⟩
inductive wC (σ τ:Type) where
 |nx (s:σ)|rt (r:τ)|bk (s:σ)|ct (s:σ)
def cC(E:σ->Ev)(c:τ->Bx):wC σ τ->Ap
 |.nx s=>.nx (E s)
 |.rt r=>.rt (c r)
 |.bk s=>.bk (E s)
 |.ct s=>.ct (E s)
def xq(step:σ->α->wC σ τ):Y α->σ->wC σ τ
 |[],s=>.nx s
 |x::xs,s=>match step s x with
  |.nx s'=>xq step xs s'
  |.ct s'=>xq step xs s'
  |.bk s'=>.nx s'
  |.rt r=>.rt r
def Nj(step:σ->α->wC σ τ)(P:σ->α->S Prop):Y α->σ->Prop
 |[],_=>True
 |x::xs,s=>hold (P s x)/\match step s x with
  |.nx s'=>Nj step P xs s'
  |.ct s'=>Nj step P xs s'
  |.bk _=>True
  |.rt _=>True
theorem PN{c:τ->Bx}(E:σ->Ev)(a:σ->α->Ev)(b:∀s x,gt (e x) (E s)=O (a s x))(body:∀s x,R gb (a s x) (cC E c)):∀(xs:Y α) (s:σ),Nj (λs x=>(body s x).v) (λs x=>(body s x).D) xs s->rW gt gb (xs.map e) (E s)=O (cC E c (xq (λs x=>(body s x).v) xs s))
 |[],s,_=>rfl
 |x::xs,s,h=>by
  obtain⟨h1,h2⟩:=h;dsimp only at h2;simp only[zo,rW,b,At,(body s x).ok h1,xq]
  revert h2
  cases(body s x).v with
  |nx s'=>intro h2;exact PN E a b body xs s' h2
  |ct s'=>intro h2;exact PN E a b body xs s' h2
  |bk s'=>intro _;rfl
  |rt r=>intro _;rfl
theorem Jp(step:σ->α->wC σ τ):∀(xs:Y α) (s:σ),(∃s',xq step xs s=.nx s')\/∃r,xq step xs s=.rt r
 |[],s=>.inl ⟨s,rfl⟩
 |x::xs,s=>by
  unfold xq;cases step s x with
  |nx s'=>exact Jp step xs s'
  |ct s'=>exact Jp step xs s'
  |bk s'=>exact .inl ⟨s',rfl⟩
  |rt r=>exact .inr ⟨r,rfl⟩
def BS(r:wC σ τ)(inj:τ->γ)(K:σ->γ):γ:=match r with
 |.rt r=>inj r
 |.nx s=>K s
 |.bk s=>K s
 |.ct s=>K s
def Bl(r:wC σ τ)(K:σ->Prop):Prop:=match r with
 |.rt _=>True
 |.nx s=>K s
 |.bk s=>K s
 |.ct s=>K s
def Xw(r:wC σ τ)(K:σ->S Prop):S Prop:=O (Bl r λs=>hold (K s))
theorem WG(h:ρ[i]?=O (O (.o ds))):rY i gt gb ρ=rW gt gb ds (ρ.set i (O (.l ds))):=by unfold rY;rw[h]
theorem OX(h:ρ[i]?=O (O (.l ds))):rY i gt gb ρ=rW gt gb ds ρ:=by unfold rY;rw[h]
theorem VJ(h:ρ[i]?=O (O (.z (.tup ds)))):rY i gt gb ρ=rW gt gb ds ρ:=by unfold rY;rw[h];rfl
theorem PQ(h:ρ[i]?=O (O (.z (.lst ds)))):rY i gt gb ρ=rW gt gb ds ρ:=by unfold rY;rw[h];rfl
theorem NG(hp:Lp b ds)(h:ρ[i]?=O (O b)):rY i gt gb ρ=rW gt gb ds ρ:=by
 rcases hp with rfl|rfl
 ·exact PQ h
 ·exact OX h
def Jq(i:Nat){ρ':Ev}(xs:Y α)(g:rY i gt gb ρ=rW gt gb (xs.map e) ρ')(E:σ->Ev)(a:σ)(c:ρ'=E a)(b:σ->α->Ev)(d:∀s x,gt (e x) (E s)=O (b s x))(body:∀s x,R gb (b s x) (λs=>Ap.nx (E s)))(K:∀s,R k (E s) cO):R (aF (rY i gt gb) k) ρ cO:=⟨(K (xs.foldl (λs x=>(body s x).v) a)).v,bD (O (nU (λs x=>(body s x).v) (λs x=>(body s x).D) xs a)) (K (xs.foldl (λs x=>(body s x).v) a)).D,λhd=>by
 obtain⟨h2,f⟩:=aD hd;rw[mX (ρ':=E (xs.foldl (λs x=>(body s x).v) a)) (by
  rw[g,c];exact Bj E b d body xs a h2)]
 exact(K _).ok f⟩
def Sa{c:τ->Bx}(i:Nat){ρ':Ev}(xs:Y α)(j:rY i gt gb ρ=rW gt gb (xs.map e) ρ')(E:σ->Ev)(a:σ)(g:ρ'=E a)(b:σ->α->Ev)(f:∀s x,gt (e x) (E s)=O (b s x))(body:∀s x,R gb (b s x) (cC E c))(inj:τ->γ)(h:∀r,cO (inj r)=.rt (c r))(K:∀s,R k (E s) cO):R (aF (rY i gt gb) k) ρ cO:=⟨BS (xq (λs x=>(body s x).v) xs a) inj λs=>(K s).v,bD (O (Nj (λs x=>(body s x).v) (λs x=>(body s x).D) xs a)) (Xw (xq (λs x=>(body s x).v) xs a) λs=>(K s).D),λhd=>by
 obtain⟨h2,d⟩:=aD hd;have e1:rY i gt gb ρ=O (cC E c (xq (λs x=>(body s x).v) xs a)):=by
  rw[j,g];exact PN E b f body xs a h2
 rcases Jp (λs x=>(body s x).v) xs a with⟨s',es⟩|⟨r,es⟩
 ·rw[es]at e1 d ⊢;rw[mX e1];exact(K s').ok d
 ·rw[es]at e1 ⊢;show aF (rY i gt gb) k ρ=O (cO (inj r));unfold aF;rw[e1,h];rfl⟩
class Ky {κ:Type} (c:κ->AY):Prop where
 inj:∀a b,c a=c b->a=b
abbrev kS:AJ->AY:=Sum.inr
abbrev kI:Int->AY:=Sum.inl
instance:Ky kS:=⟨λ_ _ h=>by cases h;rfl⟩
instance:Ky kI:=⟨λ_ _ h=>by cases h;rfl⟩
abbrev mE(e:α->Dt):Y (AJ×α)->Bx:=λm=>.m (m.map λq=>(kS q.1,e q.2)) Y3
abbrev nE(e:α->Dt):Y (AJ×α)->Bx:=λm=>.n (m.map λq=>(kS q.1,e q.2))
section
variable [DecidableEq κ] {c:κ->AY}
def look[Inhabited α](m:Y (κ×α))(x:κ):α:=((m.find? λq=>decide (q.1=x)).map (·.2)).getD default
def has(m:Y (κ×α))(x:κ):Bool:=m.any λq=>decide (q.1=x)
def put(m:Y (κ×α))(x:κ)(a:α):Y (κ×α):=if has m x=true then m.map (λq=>if q.1=x then(q.1,a)else q)else m++[(x,a)]
theorem IF[Ky c](a b:κ):decide (c a=c b)=decide (a=b):=by
 by_cases h:a=b
 ·rw[h];simp
 ·rw[ZN h,ZN λz=>h (Ky.inj (c:=c) _ _ z)]
theorem WN[Ky c](m:Y (κ×α))(x:κ):Ih (m.map λq=>(c q.1,e q.2)) (c x)=((m.find? λq=>decide (q.1=x)).map (·.2)).map e:=by
 unfold Ih;rw[List.find?_map];simp only[Option.map_map,Function.comp_def,IF]
theorem am[Ky c][Inhabited α]{m:Y (κ×α)}{x:κ}(h:has m x=true):Ih (m.map λq=>(c q.1,e q.2)) (c x)=O (e (look m x)):=by
 rw[WN];unfold look;unfold has at h;rw[Q4]at h;obtain⟨q,b,hx⟩:=h;cases a:m.find? λq=>decide (q.1=x)with
 |none=>exact absurd hx (by simpa using List.find?_eq_none.mp a q b)
 |some q=>rfl
theorem Xx[Ky c](m:Y (κ×α))(x:κ)(a:α):O5 (m.map λq=>(c q.1,e q.2)) (c x) (e a)=(put m x a).map λq=>(c q.1,e q.2):=by
 unfold O5 put has;rw[List.any_map];simp only[Function.comp_def,IF];by_cases h:(m.any λq=>decide (q.1=x))=true
 ·rw[zr h,zr h];rw[QO,QO];refine QP λq _=>?_;simp only[Function.comp];by_cases b:q.1=x
  ·simp[b]
  ·have h':¬ c q.1=c x:=λz=>b (Ky.inj (c:=c) _ _ z);simp[b,h']
 ·rw[zI h,zI h];simp
end
theorem SQ:∀m:Y (AJ×α),YL (m.map λq=>(kS q.1,e q.2))=O (m.map (·.1))
 |[]=>rfl
 |q::m=>by rw[zo,YL,SQ m,At];rfl
def jO[Inhabited α](a:R fa ρ (nE e))(b:R fb ρ (zE eS)):R (b2 lY fa fb) ρ (zE e):=⟨look a.v b.v,bD (bD a.D b.D) (O (has a.v b.v=true)),λh=>by
 obtain⟨h,d⟩:=aD h;obtain⟨h1,h2⟩:=aD h;simp only[b2,a.ok h1,b.ok h2,At,lY,Cc,am (c:=kS) (show has a.v b.v=true from d)]⟩
end
section
variable{fs:Ev->S AZ}{e:α->Dt}
theorem G3(h:rz b=O ds):wR b=O ds:=by
 cases b with
 |z d=>cases d<;>first|exact h|(cases h;done)
 |l _=>exact h
 |o _=>exact h
 |n _=>cases h
 |m _ _=>cases h
end
end P1
namespace P1
open L2 S1 S6
class sJ {α:Type} (e:α->Dt) where
 k:α->AY
 ok:∀a,GB (e a)=some (k a)
 inj:∀a b,k a=k b->a=b
 same:∀a b,W8 (k a) (k b)=true
instance:sJ eI:=⟨λi=>.inl i,λ_=>rfl,λa b h=>by cases h;rfl,λ_ _=>rfl⟩
instance:sJ eS:=⟨λi=>.inr i,λ_=>rfl,λa b h=>by cases h;rfl,λ_ _=>rfl⟩
class ur {α:Type} (e:α->Dt) where
 k:α->List AY
 ok:∀a,Ik (e a)=some (k a)
 inj:∀a b,k a=k b->a=b
 shp:∀a b,O8 (k a) (k b)=true
 ne:∀a,(k a).isEmpty=false
class VL {α:Type} (e:α->Dt) [ur e]:Prop where
 tx:∀a,Pn (ur.k e a)=true
section
variable{e:α->Dt}{e':β->Dt}{e'':γ->Dt}{e3:δ->Dt}
instance [sJ e] [sJ e']:ur (Xo e e'):=⟨λq=>[sJ.k e q.1,sJ.k e' q.2],λq=>by simp only[Ik,Ef,sJ.ok,At],λa b h=>by
 simp only[km,and_true]at h;exact y0 (sJ.inj _ _ h.1) (sJ.inj _ _ h.2),λa b=>by simp[O8,sJ.same],λ_=>rfl⟩
instance [sJ e] [sJ e'] [sJ e'']:ur (DB e e' e''):=⟨λq=>[sJ.k e q.1,sJ.k e' q.2.1,sJ.k e'' q.2.2],λq=>by simp only[Ik,Ef,sJ.ok,At],λa b h=>by
 simp only[km,and_true]at h;exact y0 (sJ.inj _ _ h.1) (y0 (sJ.inj _ _ h.2.1) (sJ.inj _ _ h.2.2)),λa b=>by simp[O8,sJ.same],λ_=>rfl⟩
instance [sJ e] [sJ e'] [sJ e''] [sJ e3]:ur (D3 e e' e'' e3):=⟨λq=>[sJ.k e q.1,sJ.k e' q.2.1,sJ.k e'' q.2.2.1,sJ.k e3 q.2.2.2],λq=>by simp only[Ik,Ef,sJ.ok,At],λa b h=>by
 simp only[km,and_true]at h;exact y0 (sJ.inj _ _ h.1) (y0 (sJ.inj _ _ h.2.1) (y0 (sJ.inj _ _ h.2.2.1) (sJ.inj _ _ h.2.2.2))),λa b=>by simp[O8,sJ.same],λ_=>rfl⟩
instance [sJ e]:VL (Xo e eS):=⟨λa=>by simp[ur.k,Pn,sJ.k]⟩
instance [sJ e] [sJ e']:VL (DB e eS e'):=⟨λa=>by simp[ur.k,Pn,sJ.k]⟩
instance [sJ e] [sJ e'] [sJ e'']:VL (D3 e eS e' e''):=⟨λa=>by simp[ur.k,Pn,sJ.k]⟩
variable{fs:Ev->S (Y (Y AY))}
theorem uX[ur e]:∀xs:Y α,uV (xs.map e)=O (xs.map (ur.k e))
 |[]=>rfl
 |x::xs=>by simp only[zo,uV,ur.ok,At,uX xs]
def Hm(e:α->Dt)[ur e](a b:α):Bool:=wV (ur.k e a) (ur.k e b)
def mq(e:α->Dt)[ur e](xs:Y α):Y α:=xs.mergeSort (Hm e)
theorem gq[ur e](xs:Y α):(mq e xs).Perm xs:=ya ..
theorem VN[ur e](xs:Y α):(mq e xs).Pairwise (λa b=>Hm e a b=true):=KA (le:=Hm e) (λa b c=>zB (ur.k e a) (ur.k e b) (ur.k e c)) (λa b=>zF (ur.k e a) (ur.k e b)) xs
theorem Nk[ur e](xs:Y α):mQ (xs.map (ur.k e))=(mq e xs).map (ur.k e):=by
 refine(uD ((gq xs).map _) (List.pairwise_map.mpr (VN xs))).symm
theorem MW[ur e](xs:Y α):(xs.map (ur.k e)).map BF=xs.map e:=by
 rw[QO];exact QP λa _=>(RV (ur.ok a)).symm
theorem SX[ur e](xs:Y α)(h:xs.length<64):Fp (xs.map (ur.k e))=true:=by
 simp only[Fp,ZT,Zl,qB,js,zt,KF,forall_exists_index,and_imp,forall_apply_eq_imp_iff₂];exact⟨h,λa _=>ur.ne a,λa _ b _=>ur.shp a b⟩
def OM[ur e](a:RL fa ρ e):R (cT uW (aq fa aH)) ρ (oE e):=⟨mq e a.v,bD a.D (O (a.v.length<64)),λh=>by
 obtain⟨h,b⟩:=aD h;simp only[cT,aq,aH,a.ok h,At,uW,G3 a.lk,uX,SX a.v b,QE,Nk,MW]⟩
abbrev uE(e:α->Dt)[ur e]:Y α->Y (Y AY):=λxs=>xs.map (ur.k e)
def LX[ur e][VL e](a:RL fa ρ e):R (KH fa) ρ (uE e):=⟨a.v,bD a.D (O (a.v.length<=64)),λh=>by
 obtain⟨h,b⟩:=aD h;have b:a.v.length<=64:=b;have c:(a.v.map (ur.k e)).all Pn=true:=by
  rw[List.all_map,qB];exact λx _=>VL.tx x
 simp only[KH,a.ok h,At,IS,G3 a.lk,uX];rw[zr ⟨by rw[zt];exact b,c⟩]⟩
def WE[ur e][VL e](a:R fa ρ (zE (eT e))):R (KH fa) ρ (uE e):=⟨a.v,bD a.D (O (a.v.length<=64)),λh=>by
 obtain⟨h,b⟩:=aD h;have b:a.v.length<=64:=b;have c:(a.v.map (ur.k e)).all Pn=true:=by
  rw[List.all_map,qB];exact λx _=>VL.tx x
 simp only[KH,a.ok h,At,IS,wR,eT,uX];rw[zr ⟨by rw[zt];exact b,c⟩]⟩
def VP[DecidableEq α][ur e](a:R fs ρ (uE e)):R (Ei fs) ρ (oE e):=⟨mq e (Ft a.v),bD a.D (O (a.v.length<64)),λh=>by
 obtain⟨h,b⟩:=aD h;simp only[Ei,a.ok h,At,SX a.v b,QE,Pk ur.inj,Nk,MW]⟩
end
end P1
namespace P1
open L2
section
variable{fd:Ev->S Bx}{fs:Ev->S (Y Bx)}{e:α->Dt}{e':β->Dt}{k:Ev->S Ap}{cO:γ->Ap}
abbrev mW(w:S A1)(e:α->Dt):Y (AJ×α)->Bx:=λm=>.m (m.map λq=>(kS q.1,e q.2)) w
def aM(e:α->Dt)(t:γ->Y Bx->Prop):Y (AJ×α)×γ->Y Bx->Prop:=λx bs=>∃b r,bs=b::r/\(b=nE e x.1\/b=mE e x.1)/\t x.2 r
def L0{t:γ->Y Bx->Prop}(a:R fa ρ (nE e))(r:AR t fs ρ):AR (aM e t) (aq fa fs) ρ:=⟨(a.v,r.v),bD a.D r.D,_,⟨_,_,rfl,.inl rfl,r.h⟩,λh=>by
 obtain⟨h1,h2⟩:=aD h;simp only[aq,a.ok h1,r.ok h2,At]⟩
def OP{t:γ->Y Bx->Prop}(a:R fa ρ (mE e))(r:AR t fs ρ):AR (aM e t) (aq fa fs) ρ:=⟨(a.v,r.v),bD a.D r.D,_,⟨_,_,rfl,.inr rfl,r.h⟩,λh=>by
 obtain⟨h1,h2⟩:=aD h;simp only[aq,a.ok h1,r.ok h2,At]⟩
def Xy(w:S A1)(i:Nat)(m:Y (AJ×α))(hi:ρ[i]?=O (O (mW w e m)))(a:R fa ρ (zE e))(b:R fb ρ (zE eS))(K:∀c:Y (AJ×α),R k (ρ.set i (O (mW w e c))) cO):R (aF (W4 i fa fb) k) ρ cO:=⟨(K (put m b.v a.v)).v,bD (bD (bD a.D b.D) (O (m.length<1000))) (K (put m b.v a.v)).D,λhd=>by
 obtain⟨h,d⟩:=aD hd;obtain⟨h,f⟩:=aD h;obtain⟨h1,h2⟩:=aD h;rw[mX (ρ':=ρ.set i (O (mW w e (put m b.v a.v)))) (by
  unfold W4;rw[a.ok h1,At,b.ok h2,At];simp only[RJ,Cc,At,hi,mW,zt,zr (show m.length<1000 from f),Xx])]
 exact(K _).ok d⟩
def Do(a:Y (AJ×β)):Y (AJ×β):=a.foldl (λm q=>put m q.1 q.2) []
theorem Jr(a:Y (AJ×β)):dictOf (a.map (Xo eS e'))=(Do a).map λq=>(kS q.1,e' q.2):=by
 unfold dictOf Do;have:∀(a:Y (AJ×β)) (m:Y (AJ×β)),(a.map (Xo eS e')).foldl Hn (m.map λq=>(kS q.1,e' q.2))=(a.foldl (λm q=>put m q.1 q.2) m).map λq=>(kS q.1,e' q.2):=by
  intro a
  induction a with
  |nil=>intro m;rfl
  |cons q a b=>
   intro m;rw[zo,qS,qS];show(a.map (Xo eS e')).foldl Hn (O5 (m.map λq=>(kS q.1,e' q.2)) (kS q.1) (e' q.2))=_;rw[Xx (c:=kS)];exact b _
 exact this a []
def Xz(a:R fk ρ (zE eS))(b:R fv ρ (zE e)):R (b2 Bd fk fv) ρ (zE (Xo eS e)):=⟨(a.v,b.v),bD a.D b.D,λh=>by
 obtain⟨h1,h2⟩:=aD h;simp only[b2,a.ok h1,b.ok h2,At,Bd]⟩
def On(i:R fi ρ (iE e))(a:R (fM fi gt p (b2 Bd fk fv) is n) ρ (oE (Xo eS e'))):R (Xi fi gt p fk fv is n) ρ (mE e'):=⟨Do a.v,bD (bD i.D (O (i.v.length<1000))) a.D,λh=>by
 obtain⟨h,d⟩:=aD h;obtain⟨h1,h2⟩:=aD h;have h2:i.v.length<1000:=h2;have b:=a.ok d;unfold fM at b;unfold Xi;rw[i.ok h1,At]at b ⊢;rw[zr (by rw[zt];omega)]at b;rw[zr (by rw[zt];exact h2)];obtain⟨f,c,b⟩:=AT b;rw[c,At];injection b with b;injection b with b;rw[b,Jr]⟩
def MU(a:R fd ρ (nE e)):R (Ss fd) ρ (iE eS):=⟨a.v.map (·.1),a.D,λh=>by
 simp only[Ss,a.ok h,At,D6,QO];rfl⟩
def ib(a:R fa ρ (nE e)):R (cT IV (aq fa aH)) ρ (oE eS):=⟨a.v.map (·.1),a.D,λh=>by
 simp only[cT,aq,aH,a.ok h,At,IV,SQ]⟩
def OZ(a:R fa ρ (zE eS))(b:R fb ρ (zE eS)):R (cT IK (aq fa (aq fb aH))) ρ (zE eS):=⟨if uq b.v a.v=true then b.v else a.v,bD a.D b.D,λh=>by
 obtain⟨h1,h2⟩:=aD h;simp only[cT,aq,aH,a.ok h1,b.ok h2,At,IK];rfl⟩
theorem RH{bs:Y Bx}{m:Y (AJ×α)}{c:Y (AJ×α)->Ev}(x:R g ((mW (O a) e m::bs).map O++List.replicate (n-(bs.length+1)) Y3) (λb=>Ap.nx (c b)))(h:hold x.D)(h0:∀b,(c b)[0]?=O (O (mW (O a) e b))):Sx n g a (m.map λq=>(kS q.1,e q.2)) bs=O (x.v.map λq=>(kS q.1,e q.2)):=by
 unfold Sx;rw[x.ok h,At];simp only[h0,QE]
def NJ{c:γ->Y Bx->Prop}{cO:δ->Ap}{T:Y (AJ×α)->γ->Y (AJ×α)}{b:Y (AJ×α)->γ->Option Prop}(w:Option A1)(i:Nat)(m:Y (AJ×α))(hi:ρ[i]?=O (O (mW w e m)))(S:∀m v bs,c v bs->bs.length=n/\bs.all DL=true/\(hold (b m v)->∀a,G a (m.map λq=>(kS q.1,e q.2)) bs=O ((T m v).map λq=>(kS q.1,e q.2))))(a:AR c fs ρ)(K:∀j:Y (AJ×α),R k (ρ.set i (O (mW w e j))) cO):R (aF (Ja i n G fs) k) ρ cO:=⟨(K (T m a.v)).v,bD (bD a.D (b m a.v)) (K (T m a.v)).D,λhd=>by
 obtain⟨h,d⟩:=aD hd;obtain⟨h1,h2⟩:=aD h;obtain⟨g,f,l⟩:=S m a.v a.bs a.h;rw[mX (fA hi (a.ok h1) g f (l h2))];exact(K _).ok d⟩
end
section
variable{e:α->Dt}
def mY[DecidableEq α](x:α)(ys:Y α):Bool:=decide (x∈ys)
theorem jP[DecidableEq α]{x:α}{ys:Y α}:mY x ys=true↔x∈ys:=by unfold mY;rw[Zl]
theorem gT[DecidableEq α][B9 e n](b:n<=60)(x:α)(ys:Y α):FB (e x) (ys.map e)=O (decide (x∈ys)):=by
 unfold FB;rw[zr]
 ·congr 1;rw[List.any_map,Q2,Q4,Zl];constructor
  ·rintro⟨y,a,h⟩;simp only[Function.comp,B9.eq]at h;by_cases q:y=x
   ·exact q▸a
   ·simp[q,DV]at h
  ·intro h;exact⟨x,h,by simp[Function.comp,B9.eq,DV]⟩
 ·rw[List.all_map,qB];intro y _;have:=B9.dp (e:=e) y;simp only[Function.comp,B9.eq,ym,yT,Zl];omega
def VR[DecidableEq α][B9 e n](c:n<=60)(a:R fa ρ (zE e))(b:RL fb ρ e):R (b2 VB fa fb) ρ (zE eB):=⟨!mY a.v b.v,bD a.D b.D,λh=>by
 obtain⟨h1,h2⟩:=aD h;simp only[b2,a.ok h1,b.ok h2,At,VB,G3 b.lk,gT c,mY]⟩
end
end P1
namespace P1
open L2 S1 S6
def kT(xs:AZ):Y AY:=xs.map Sum.inr
theorem dP{a b:AZ}(h:kT a=kT b):a=b:=by
 unfold kT at h
 induction a generalizing b with
 |nil=>cases b with|nil=>rfl|cons _ _=>simp at h
 |cons x a c=>cases b with
  |nil=>simp at h
  |cons y b=>
   simp only[zo,km]at h;rw[Sum.inr.inj h.1,c h.2]
theorem S5:∀(xs:AZ),Ef (xs.map eS)=O (kT xs)
 |[]=>rfl
 |x::xs=>by simp only[zo,Ef,GB,At,S5 xs];rfl
theorem Np:∀(a:Y AZ),uV (a.map (eT eS))=O (a.map kT)
 |[]=>rfl
 |x::a=>by simp only[zo,uV,Ik,eT,S5,At,Np a]
def KN(a b:AZ):Bool:=wV (kT a) (kT b)
def rJ(a:Y AZ):Y AZ:=a.mergeSort KN
theorem xG(xs:Y AZ):(rJ xs).Perm xs:=ya ..
theorem xH(xs:Y AZ):(rJ xs).Pairwise (λa b=>KN a b=true):=KA (le:=KN) (λa b c=>zB (kT a) (kT b) (kT c)) (λa b=>zF (kT a) (kT b)) xs
theorem Nq{a b:AZ}(h:KN a b=true)(h':KN b a=true):a=b:=dP (MK h h')
theorem Zo{xs out:Y AZ}(hp:out.Perm xs)(hs:out.Pairwise (λa b=>KN a b=true)):out=rJ xs:=sy (λ_ _=>Nq) (hp.trans (xG xs).symm) hs (xH xs)
theorem V0(xs:Y AZ):mQ (xs.map kT)=(rJ xs).map kT:=(uD ((xG xs).map _) (List.pairwise_map.mpr (xH xs))).symm
theorem Si(xs:Y AZ):(xs.map kT).map BF=xs.map (eT eS):=by
 rw[QO];refine QP λa _=>?_;show Dt.tup ((kT a).map dK)=Dt.tup (a.map eS);unfold kT;rw[QO];rfl
theorem Pd(a b:AZ):O8 (kT a) (kT b)=true:=by
 unfold O8 kT;rw[qB];rintro⟨x,y⟩ h;obtain⟨h1,h2⟩:=List.of_mem_zip h;obtain⟨p,_,rfl⟩:=List.mem_map.mp h1;obtain⟨q,_,rfl⟩:=List.mem_map.mp h2;rfl
theorem hJ(xs:Y AZ)(h:xs.length<64)(c:∀x∈xs,x.isEmpty=false):Fp (xs.map kT)=true:=by
 simp only[Fp,ZT,Zl,qB,js,zt,KF,forall_exists_index,and_imp,forall_apply_eq_imp_iff₂];refine⟨h,λa d=>?_,λa _ b _=>Pd a b⟩;have:=c a d;cases a with
 |nil=>cases this
 |cons _ _=>rfl
def XC(a:RL fa ρ (eT eS)):R (cT uW (aq fa aH)) ρ (oE (eT eS)):=⟨rJ a.v,bD a.D (O (a.v.length<64/\∀x∈a.v,x.isEmpty=false)),λh=>by
 obtain⟨h,b⟩:=aD h;obtain⟨b,c⟩:a.v.length<64/\∀x∈a.v,x.isEmpty=false:=b;simp only[cT,aq,aH,a.ok h,At,uW,G3 a.lk,Np,hJ a.v b c,QE,V0,Si]⟩
section
variable{e:α->Dt}
theorem map_some(e:α->Dt)(xs:Y α):(xs.map O).map (eO e)=xs.map e:=by rw[QO];rfl
end
end P1
namespace P1
open L2
section
variable{k:Ev->S Ap}{cO:α->Ap}
def VA(i:Nat)(E:Ev)(a:K' i ρ=O E)(K:R k E cO):R (FE i k) ρ cO:=⟨K.v,K.D,λh=>by
 unfold FE;rw[a];exact K.ok h⟩
end
section
variable{e:α->Dt}
end
section
variable{σ τ:Type}{k:Ev->S Ap}{cO:γ->Ap}
def Nr(a:σ->Bool)(step:σ->wC σ τ):Nat->σ->wC σ τ
 |0,s=>.nx s
 |n+1,s=>if a s=true then(match step s with
  |.nx s'=>Nr a step n s'
  |.ct s'=>Nr a step n s'
  |.bk s'=>.nx s'
  |.rt r=>.rt r)else .nx s
def DU(a:σ->Bool)(b:σ->S Prop)(step:σ->wC σ τ)(P:σ->S Prop):Nat->σ->Prop
 |0,_=>False
 |n+1,s=>hold (b s)/\(a s=true->hold (P s)/\match step s with
  |.nx s'=>DU a b step P n s'
  |.ct s'=>DU a b step P n s'
  |.bk _=>True
  |.rt _=>True)
theorem PX(a:σ->Bool)(step:σ->wC σ τ):∀(n:Nat) (s:σ),(∃s',Nr a step n s=.nx s')\/∃r,Nr a step n s=.rt r
 |0,s=>.inl ⟨s,rfl⟩
 |n+1,s=>by
  unfold Nr;split
  ·cases step s with
   |nx s'=>exact PX a step n s'
   |ct s'=>exact PX a step n s'
   |bk s'=>exact .inl ⟨s',rfl⟩
   |rt r=>exact .inr ⟨r,rfl⟩
  ·exact .inl ⟨s,rfl⟩
theorem V1{c:τ->Bx}(E:σ->Ev)(a:∀s,R p (E s) tE)(body:∀s,R gb (E s) (cC E c)):∀(n:Nat) (s:σ),DU (λs=>(a s).v) (λs=>(a s).D) (λs=>(body s).v) (λs=>(body s).D) n s->Ze p gb n (E s)=O (cC E c (Nr (λs=>(a s).v) (λs=>(body s).v) n s))
 |0,s,h=>absurd h id
 |n+1,s,h=>by
  obtain⟨h1,h2⟩:=h;have e:p (E s)=O (a s).v:=(a s).ok h1;unfold Ze Nr;rw[e,At];cases d:(a s).v with
  |false=>rfl
  |true=>
   obtain⟨f,b⟩:=h2 d;rw[zr rfl,zr rfl,(body s).ok f,At];cases hb:(body s).v with
   |nx s'=>dsimp only at b;rw[hb]at b;exact V1 E a body n s' b
   |ct s'=>dsimp only at b;rw[hb]at b;exact V1 E a body n s' b
   |bk s'=>rfl
   |rt r=>rfl
def XD{c:τ->Bx}(n:Nat)(E:σ->Ev)(b:σ)(e:ρ=E b)(a:∀s,R p (E s) tE)(body:∀s,R gb (E s) (cC E c))(inj:τ->γ)(f:∀r,cO (inj r)=.rt (c r))(K:∀s,R k (E s) cO):R (aF (Ze p gb n) k) ρ cO:=
 ⟨BS (Nr (λs=>(a s).v) (λs=>(body s).v) n b) inj λs=>(K s).v,bD (O (DU (λs=>(a s).v) (λs=>(a s).D) (λs=>(body s).v) (λs=>(body s).D) n b)) (Xw (Nr (λs=>(a s).v) (λs=>(body s).v) n b) λs=>(K s).D),λhd=>by
 obtain⟨h2,d⟩:=aD hd;have e1:Ze p gb n ρ=O (cC E c (Nr (λs=>(a s).v) (λs=>(body s).v) n b)):=by
  subst e;exact V1 E a body n b h2
 rcases PX (λs=>(a s).v) (λs=>(body s).v) n b with⟨s',es⟩|⟨r,es⟩
 ·rw[es]at e1 d ⊢;rw[mX e1];exact(K s').ok d
 ·rw[es]at e1 ⊢;show aF (Ze p gb n) k ρ=O (cO (inj r));unfold aF;rw[e1,f];rfl⟩
end
section
variable{e:α->Dt}
def IZ(fs:Ev->S (Y Bx)):Ev->S (Y Dt):=λρ=>(fs ρ).bind SJ
def xJ(xs:Y α):Y (Int×α):=(List.range xs.length).zipWith (λ(k:Nat) x=>((k:Int),x)) xs
theorem Zq(xs:Y α):Ek (xs.map e)=(xJ xs).map (Xo eI e):=by
 unfold Ek xJ;rw[zt,List.zipWith_map_right,List.map_zipWith]
def U1(a:RL fa ρ e):R (IZ (aq fa aH)) ρ (iE (Xo eI e)):=⟨xJ a.v,a.D,λh=>by
 simp only[IZ,aq,aH,a.ok h,At,SJ,a.lk,Zq]⟩
end
section
variable{σ τ:Type}
theorem XF{step:σ->α->σ}{P:σ->α->S Prop}(I:Nat->σ->Prop):∀(xs:Y α) (m:Nat) (a:σ),I m a->(∀k x s,xs[k]?=O x->I (m+k) s->hold (P s x)/\I (m+k+1) (step s x))->nU step P xs a/\I (m+xs.length) (xs.foldl step a)
 |[],m,a,h0,_=>⟨trivial,h0⟩
 |x::xs,m,a,h0,hs=>by
  obtain⟨h1,h2⟩:=hs 0 x a Y2 h0;have:=XF I xs (m+1) (step a x) h2 λk y s e h=>by
   have:=hs (k+1) y s (by simpa using e) (by rw[show m+(k+1)=m+1+k by omega];exact h);rw[show m+(k+1)+1=m+1+k+1 by omega]at this;exact this
  refine⟨⟨h1,this.1⟩,?_⟩;rw[Z3,show m+(xs.length+1)=m+1+xs.length by omega];exact this.2
theorem Xs{i:Int}{k:Nat}{x:Int}(h:(rng i n)[k]?=O x):x=i+k/\k<n:=by
 unfold rng at h;rw[ZE]at h;cases a:(List.range n)[k]? with
 |none=>rw[a]at h;cases h
 |some j=>
  rw[a]at h;have b:k<n:=by simpa using(List.getElem?_eq_some_iff.mp a).1
  have:j=k:=by
   rw[kB b]at a;cases a;rfl
  subst this;cases h;exact⟨rfl,b⟩
theorem yw(i:Int)(n:Nat):(rng i n).length=n:=by unfold rng;simp
theorem uG{step:σ->Int->σ}{P:σ->Int->S Prop}(I:Nat->σ->Prop)(n:Nat)(a:σ)(h0:I 0 a)(hs:∀(k:Nat) s,k<n->I k s->hold (P s k)/\I (k+1) (step s k)):nU step P (rng 0 n) a/\I n ((rng 0 n).foldl step a):=by
 have:=XF (P:=P) I (rng 0 n) 0 a h0 λk x s e h=>by
  obtain⟨rfl,b⟩:=Xs e;rw[ye]at h ⊢;rw[Int.zero_add];exact hs k s b h
 rw[yw,ye]at this;exact this
theorem mZ[Inhabited α]{xs:Y α}{i:Int}(h:In xs.length i):at' xs i∈xs:=by
 obtain⟨x,hx⟩:=PK h;unfold at';rw[hx];unfold Kl at hx;obtain⟨j,_,hx⟩:=AT hx;exact QR hx
theorem OU[Inhabited α]{xs:Y α}{k:Nat}{x:α}(h:xs[k]?=O x):at' xs (k:Int)=x:=by
 have a:k<xs.length:=(List.getElem?_eq_some_iff.mp h).1;unfold at' Kl EJ;rw[zr (by omega),zr (by omega),At,KL,h];rfl
theorem Js[Inhabited α](xs:Y α)(k:Nat)(h:k<xs.length):at' xs (k:Int)=xs[k]:=OU (z5 h)
theorem BC{i:Int}(h0:0<=i)(h1:i<n):In n i:=⟨by omega,h1⟩
theorem xK{k:Nat}(h:k<n):In n (k:Int):=⟨by omega,by omega⟩
theorem uY{x m:Int}(a:0<m)(h:m<=n):In n (x%m):=BC (Int.emod_nonneg _ (by omega)) (Int.lt_of_lt_of_le (Int.emod_lt_of_pos _ a) h)
theorem iz(x:Int){m:Int}(a:0<m):0<=x%m/\x%m<m:=⟨Int.emod_nonneg _ (by omega),Int.emod_lt_of_pos _ a⟩
theorem Eo{j:Int}(h0:0<=j)(h1:j<=1000000):Rg j:=⟨by omega,by omega⟩
theorem OB{a b:Int}(h0:0<=a)(h1:a<18446744073709551616):GN a b:=.inl ⟨by omega,h1⟩
theorem SD{xs:Y α}{k:Nat}(h:k<=xs.length):BN xs (O (k:Int)) Y3=xs.drop k:=by
 unfold BN;rw[HT.Ww,HT.Q6,Nat.min_eq_left h,List.take_of_length_le (by simp)]
theorem Sn{xs:Y α}{k:Nat}(h:k<=xs.length):BN xs Y3 (O (k:Int))=xs.take k:=by
 unfold BN;rw[HT.Ww,HT.Q6,Nat.min_eq_left h,Nat.sub_zero,List.drop_zero]
theorem pI(x y:AJ):(x++y).length=x.length+y.length:=by
 show(x.cps++y.cps).size=_;rw[KM];rfl
theorem zJ(x:AJ)(i:Int):(ch x i).length=1:=rfl
theorem slice_le(x:AJ)(l u:S Int):(Txt.slice x l u).length<=x.length:=PyProof.Txt.length_slice_le x l u
end
section
variable [Inhabited α] {e:α->Dt}{k:Ev->S Ap}{cO:γ->Ap}
def Ps(j i:Nat)(xs:Y α)(hi:ρ[i]?=O (O (.o (xs.map e))))(a:R f ρ (zE eI))(K:∀(ys:Y α) (y:α),R k ((ρ.set i (O (.o (ys.map e)))).set j (O (zE e y))) cO):R (aF (ER j i f) k) ρ cO:=
 ⟨(K (xs.drop 1) (at' xs 0)).v,bD (bD a.D (O (a.v=0/\0<xs.length))) (K (xs.drop 1) (at' xs 0)).D,λhd=>by
 obtain⟨h1,b⟩:=aD hd;obtain⟨h1,h2⟩:=aD h1;obtain⟨h0,c⟩:a.v=0/\0<xs.length:=h2;rw[mX (ρ':=(ρ.set i (O (.o ((xs.drop 1).map e)))).set j (O (zE e (at' xs 0)))) (by
  unfold ER;rw[a.ok h1,At];show(match (Bx.z (Dt.int a.v))with|.z (.int k)=>_|_=>Y3)=_;dsimp only;rw[hi];dsimp only;rw[h0];cases xs with
  |nil=>simp at c
  |cons x xs=>
   have e1:at' (x::xs) 0=x:=OU (xs:=x::xs) (k:=0) rfl;rw[e1,zr (by decide)];have e2:seqIndex? 0 ((x::xs).map e).length=O 0:=by
    rw[PySem.seqIndex_of (by decide) (by simp)];rfl
   rw[e2];rfl)]
 exact(K (xs.drop 1) (at' xs 0)).ok b⟩
end
theorem Nt:∀xs:Y Int,Nf (xs.map eI)=O xs
 |[]=>rfl
 |x::xs=>by simp only[zo,eI,Nf,Nt xs,At]
def NX(a:RL fa ρ eI):R (cT EM (aq fa aH)) ρ (zE eI):=⟨a.v.sum,bD a.D (O (EE a.v=true)),λh=>by
 obtain⟨h1,h2⟩:=aD h;have h2:EE a.v=true:=h2;simp only[cT,aq,aH,a.ok h1,At,EM,a.lk,Nt,h2,QE]⟩
section
variable{e:α->Dt}{k:Ev->S Ap}{cO:γ->Ap}
end
section
variable{e:α->Dt}{k:Ev->S Ap}{cO:γ->Ap}
def XB[Inhabited γ]:R (aF HH k) ρ cO:=⟨default,O False,λh=>absurd h id⟩
def c9{c:α->Bx}(a:R f ρ c)(K:R k ρ cO):R (aF (Xm f) k) ρ cO:=⟨K.v,bD a.D K.D,λhd=>by
 obtain⟨h1,h2⟩:=aD hd;rw[mX (ρ':=ρ) (by unfold Xm;rw[a.ok h1,At])];exact K.ok h2⟩
def f7(a:R fa ρ (zE eS))(b:R fb ρ (zE e)):R (b2 Ng fa fb) ρ (mE e):=⟨[(a.v,b.v)],bD a.D b.D,λh=>by
 obtain⟨h1,h2⟩:=aD h;simp only[b2,a.ok h1,b.ok h2,At,Ng];rfl⟩
theorem WO[DecidableEq κ]{c:κ->AY}[Ky c](m:Y (κ×α))(x:κ):Fs (m.map λq=>(c q.1,e q.2)) (c x)=has m x:=by
 unfold Fs has;rw[List.any_map];simp only[Function.comp_def,IF]
def Mn(a:R fa ρ (zE eS))(b:R fb ρ (nE e)):R (b2 Zh fa fb) ρ (zE eB):=⟨!has b.v a.v,bD a.D b.D,λh=>by
 obtain⟨h1,h2⟩:=aD h;simp only[b2,a.ok h1,b.ok h2,At,Zh,Cc,nE,WO]⟩
theorem Sb{bs:Y Bx}{a:γ->Ev}(x:R g (bs.map O++List.replicate (n-bs.length) Y3) (λr=>Ap.nx (a r)))(h:hold x.D):dJ n g bs=O (.z .non):=by
 unfold dJ;rw[x.ok h];rfl
end
section
variable{e:α->Dt}
def Pw(a:RL fa ρ e):R (b2 Zi fa (b1 FD (cB (.int 1)))) ρ (oE e):=⟨a.v.reverse,a.D,λh=>by
 simp only[b2,b1,a.ok h,At,cB,FD,Zi,a.lk,QE,oE,List.map_reverse]⟩
end
section
variable{e:α->Dt}{e':β->Dt}
end
def RP(f:Ev->S β)(ρ:Ev)(c:α->β)(v:α)(D:S Prop):Prop:=hold D->f ρ=O (c v)
theorem R.tp{f:Ev->S β}{c:α->β}{a:α}{b:S Prop}(x:R f ρ c)(e:x.v=a:=by kernel_rfl)(d:x.D=b:=by kernel_rfl):RP f ρ c a b:=λh=>by
 subst e d;exact x.ok h
def RP.r{f:Ev->S β}{c:α->β}{v:α}{D:S Prop}(h:RP f ρ c v D):R f ρ c:=⟨v,D,h⟩
theorem IL{p:Y α->Prop}(h:∀a,p [a]):∀us:Y α,us.length=1->p us
 |[a],_=>h a
theorem IT{p:Y α->Prop}(h:∀a b,p [a,b]):∀us:Y α,us.length=2->p us
 |[a,b],_=>h a b
theorem Sl{p:Y α->Prop}(h:∀a b c,p [a,b,c]):∀us:Y α,us.length=3->p us
 |[a,b,c],_=>h a b c
theorem PF{p:Y α->Prop}(h:∀a b c d,p [a,b,c,d]):∀us:Y α,us.length=4->p us
 |[a,b,c,d],_=>h a b c d
theorem ah{p:Y α->Prop}(h:∀a b c d e,p [a,b,c,d,e]):∀us:Y α,us.length=5->p us
 |[a,b,c,d,e],_=>h a b c d e
end P1
namespace P1
open L2 S1
theorem V2{o:AE}{T:String}{vs:Y A0}{Q:B8}(q:s.heap.get? l=O o)(f:o.cls=.type T)(j:T ="list" ∨ T ="tuple")(hd:o.data=.seq vs.toArray n)(a:StrsAre vs ys)(d:vs.length<64)(h:∀(l:A1) (h':A6) (tk:Nat) (out:Array A0) (zs:AZ) (n:Nat),s.heap.objs.size<=l->(∀b o,s.heap.get? b=O o->h'.get? b=O o)->h'.get? l=O (seqObj "list" out n)->StrsAre out.toList zs->zs.Perm ys->sortedS zs=true->Q (.ref l) { s with heap:=h',toks:=tk }):
  A7 (A8 prog w) A (call (.builtin "sorted") [.ref l]) Q E s:=by
 refine yo kind_sorted plain_sorted entry_sorted (args_sorted1 _) ?_;unfold Builtin.«sorted»;refine zd (m:=checkCount "sorted" 1 1 _) (zg (zd (Ij q f j hd (ZI (jS d) (by decide)) λh1 tk g ext=>?_)));refine zd (yB ?_);have c:(h1.push (seqObj "list" vs.toArray 0)).get? h1.objs.size=O (seqObj "list" vs.toArray 0):=zC _ rfl;refine zd (QQ (ke slot_list_sort ⟨_,c,rfl⟩ entry_list_sort (list_sort_treeK strKind_oneLt c a.keysOf (λu t AS e=>keyKind_strs (by rw[<-e];exact a)) d λp a1 a2=>⟨_,rfl,zg ⟨_,rfl,?_⟩⟩) (args_list_sort _)));obtain⟨zs,z1,z2,z3⟩:=sorted_out_str a a1 a2;obtain⟨n,i⟩:=sortedHeap_at (out:=(AM p).map (·.2)) c;exact h h1.objs.size _ tk _ zs n g (λb o e=>by
  have e1:=ext b o e;have hb:=zD e1;rw[sortedHeap_old (z4 hb) (by rw[qk];exact qV hb)];exact ze _ e1) i z1 z2 z3
def Jt:Y Bx->S Bx
 |[b]=>(wR b).bind λds=>(Ea ds).bind λys=>if ys.length<64 then O (.o ((pG ys).map Dt.str))else Y3
 |_=>Y3
theorem iO:rA X (.builtin "sorted") Jt:=by
 intro AN s σ H xs us Q I A h;obtain⟨bs,c,x,e,q⟩:=h;unfold Jt at e;split at e
 ·rename_i b;obtain⟨ds,E,e⟩:=AT e;obtain⟨ys,N,e⟩:=AT e;split at e
  ·rename_i L;cases e;obtain⟨v,rfl,D⟩:=BH x;obtain⟨p,vs,rfl,sq,J⟩:=GP D E;obtain⟨u,rfl,z⟩:=BB A;cases z;obtain⟨rfl,G⟩:=yh J N;have M:∃(AQ:Y A0) (o:AE) (T:String) (n:Nat),AX (ys.map V.str) AQ/\s.heap.get? p=O o/\o.cls=.type T/\(T ="list" ∨ T ="tuple")/\o.data=.seq AQ.toArray n:=by
    rcases sq with sq|sq
    ·obtain⟨AQ,f,pl,B⟩:=I.list sq;obtain⟨o,g,c,n,d⟩:=pl.isList;exact⟨AQ,o,_,n,f,g,c,.inl rfl,d⟩
    ·obtain⟨AQ,f,⟨o,g,c,n,d⟩,B⟩:=I.tuple sq;exact⟨AQ,o,_,n,f,g,c,.inr rfl,d⟩
   obtain⟨AQ,o,T,n,f,g,m,C,hd⟩:=M;have t:=f.length;rw[zt]at t;refine V2 g m C hd (uU f) (by omega) λl h' tk w zs n i ext K z1 z2 z3=>?_;have F:=RD z2 z3;subst F;have j:=I.hok.fresh i;refine⟨.ref l,_,I.laid (t':=tk) (a:=l) (o:=.lst ((pG ys).map V.str)) ext i ?_,rfl,q _ _ (cg j) (λa ea=>by cases ea;exact j) ⟨l,_,rfl,bH,Ao λy h=>G y ((jk ys).mem_iff.mp h)⟩⟩;refine⟨by rw[zt,(jk _).length_eq];exact ZI (jS L) (by decide),w.toList,n,yj z1,?_⟩;rw[K]
  ·cases e
 ·cases e
def UH(a:R fa ρ (zE (eT eS))):R (cT Jt (aq fa aH)) ρ (oE eS):=⟨pG a.v,bD a.D (O (a.v.length<64)),λh=>by
 obtain⟨h,b⟩:=aD h;simp only[cT,aq,aH,a.ok h,At,Jt,wR,eT,BM];exact zr b⟩
end P1
namespace P1
open L2
section
variable{fs:Ev->S (Y Bx)}{g1 g2:Ev->S Ap}
end
section
variable{st:AB}{AS:Y AB}{g1 g2:Ev->S Ap}
end
section
variable{ks:Y V}{o:AE}
end
section
variable{M0 M1 M2 er:Expr}{f0 f2:Ev->S Bx}{d0 d2:Dt}{z0 z1 z2 z3:Pos}
end
section
variable{st:Y AB}{fr:Ev->S Bx}{i':Nat}{W:Y Nat}{z:Pos}
end
section
variable{a b c g1 g2:Ev->S Ap}{k:Nat}
end
end P1
namespace P1
open L2 S6
section
variable{kx vx t1 i1 t2 i2:Expr}{f1 f2:Y Expr}{xs:AZ}{g1 g2:Dt->Ev->S Ev}{p1 p2:Ev->S Bool}{fi1 fi2:Ev->S (Y Dt)}{fs:Ev->S (Y Dt)}{N m:Nat}
def cls2(fi:Ev->S (Y Dt))(gt:Dt->Ev->S Ev)(p:Ev->S Bool)(fs:Ev->S (Y Dt))(is:Y Nat)(n:Nat):Ev->S (Y Dt):=λρ=>(fi ρ).bind λds=>CT gt p fs (lq is ρ++List.replicate n Y3) ds
def Qa(fi:Ev->S (Y Dt))(gt:Dt->Ev->S Ev)(p:Ev->S Bool)(fs:Ev->S (Y Dt))(is:Y Nat)(n:Nat):Ev->S Bx:=λρ=>(cls2 fi gt p fs is n ρ).bind λa=>if a.length<=100000 then O (.o a)else Y3
structure Fu (X:Cx) (ts:AZ) (m:Nat) (scope:Scope) (cl:List (Str×Addr)) (xs:AZ) (is:List Nat) (t1 i1:Expr) (f1:List Expr) (t2 i2:Expr) (f2:List Expr) (fi1 fi2:Ev->Option (List Dt)) (g1 g2:Dt->Ev->Option Ev) (p1 p2:Ev->Option Bool):Prop where
 ok:tL X scope cl xs is
 calm:X.calm=true
 it1:EF X t1 i1 fi1
 tg1:∀C s₀ H₀ fp,ZM (yO X (xs++ts) scope cl C s₀ H₀ fp) t1 g1
 c1:∀C s₀ H₀ fp,wK (yO X (xs++ts) scope cl C s₀ H₀ fp) f1 p1
 k1:YB is.length m g1
 it2:∀C s₀ H₀ fp,EW (yO X (xs++ts) scope cl C s₀ H₀ fp) t2 i2 fi2
 tg2:∀C s₀ H₀ fp,ZM (yO X (xs++ts) scope cl C s₀ H₀ fp) t2 g2
 c2:∀C s₀ H₀ fp,wK (yO X (xs++ts) scope cl C s₀ H₀ fp) f2 p2
 k2:YB m (is.length+ts.length) g2
 hm:is.length<=m:=by decide
 hm2:m<=is.length+ts.length:=by decide
 hs:∀x,foldedSetIterable i1 X.env x=pure x:=by intro _;rfl
 hs2:∀C x,foldedSetIterable i2 (compEnvC scope (cellsFrom (C+1) scope.names cl) C X.env) x=pure x:=by intro _ _;rfl
theorem ZP.no:ZP K D H o1 o->(∀a u,o≠.tH a u)/\∀vs,o≠.tup vs:=λ⟨_,e,_⟩=>by subst e;exact⟨λ_ _ z=>(by cases z),λ_ z=>(by cases z)⟩
theorem UZ(ts:AZ)(W:Fu X ts m scope cl xs is t1 i1 f1 t2 i2 f2 fi1 fi2 g1 g2 p1 p2)(he:∀C f c fp,QV (yO X (xs++ts) scope cl C f c fp) elt fe):
  QV X (.ListComp elt [⟨t1,i1,f1,0⟩,⟨t2,i2,f2,0⟩] scope pos) (Qa fi1 g1 p1 (E8 fi2 g2 p2 (Vb fe)) is ts.length):=⟨λAN s σ H Q I h=>by
 obtain⟨H0,ρ,b,E,e,q⟩:=h;obtain⟨a2,g,e⟩:=AT e;obtain⟨ds,x,g⟩:=AT g;split at e
 ·rename_i p;cases e;rw[eval_ListComp];refine JJ (use:=Y3) Y2 W.hs W.ok.clos W.ok.kind W.ok.names ?_;refine iZ (W.it1.run AN s σ H (λJ H'=>AV H H'/\B0 X.K J ds H') I ⟨H0,ρ,ds,E,x,λJ H' s' y=>⟨s',y⟩⟩) λv s1 h1=>iZ h1 λa1 s2 h2=>?_;obtain⟨it,fp,tn,J,H2,rfl,L,T,st,u,i,Y⟩:=h2;refine yd (B:=Ag) (Ac:=ZP X.K) (O0:=.lst []) (N:=100000) (RR:=λa0 C=>compPost (A8 X.prog X.w) X.A X.xe Y3 (EP X AN σ Q) a0 C) (ts:=ts) (xs:=xs) W.ok W.calm (λC f c fp=>(W.tg1 C f c fp).run) (λC f c fp=>(W.c1 C f c fp).run)
   (λC f c fp=>Ro (X:=yO X (xs++ts) scope cl C f c fp) (comp:=.ListComp elt [⟨t1,i1,f1,0⟩,⟨t2,i2,f2,0⟩] scope pos) (d:=1) W.calm Y2 (W.it2 C f c fp).run (W.tg2 C f c fp).run (W.c2 C f c fp).run (WW (he C f c fp).run) W.k2 W.hm2 ZP.kp ZP.no (W.hs2 C) (λ_ _ _=>Y2) (Ms Y2 λh=>h) λh=>h)
   W.k1 W.hm L ((E.grow i).caps is ts.length) (DW T) st u Y g p ?_
   qo (λ_=>⟨QU _,[],0,.nil,zC _ rfl⟩) (λ_=>⟨[],rfl,aO.nil⟩) ZP.kp (λ_ _ _=>by simp only[bind_assoc,pure_bind];rfl) codeAny_compStart_list λh=>h
  rintro D C s' H' o F n l ⟨m,Z⟩ z M ⟨us,rfl,U⟩;refine⟨m,Z,λh' j=>⟨.ref D,H',?_,rfl,q _ _ (i.trans z) (λa ea=>by cases ea;exact i.free F) ⟨D,us,rfl,M,U⟩⟩⟩;obtain⟨f0,f1,f2,G,P,t⟩:=l;exact n.turned (t':=s'.toks) (λb o hb e=>(j.2 b hb).trans e) f0 f1 G P t
 ·cases e⟩
end
end P1
namespace P1
open L2
section
variable{e:α->Dt}{e':β->Dt}{fs:Ev->S (Y Dt)}
theorem S7{g:α->Y β}:∀xs:Y α,(xs.flatMap g).map e'=xs.flatMap λx=>(g x).map e'
 |[]=>rfl
 |x::xs=>by rw[JU,qc,S7 xs];rfl
def MY(it:R fi ρ (iE e))(a:α->Ev)(c:∀x,gt (e x) (lq is ρ++List.replicate n Y3)=O (a x))(b:∀x,R fs (a x) (iE e')):R (cls2 fi gt tX fs is n) ρ (iE e'):=⟨it.v.flatMap λx=>(b x).v,bD it.D (FO it.v λx=>(b x).D),λh=>by
 obtain⟨h1,h2⟩:=aD h;have h2:∀x∈it.v,hold (b x).D:=h2;simp only[cls2,it.ok h1,At];rw[Jj (π:=λ_=>true) (g:=λx=>(b x).v.map e') it.v λx hx=>⟨a x,c x,rfl,λ_=>(b x).ok (h2 x hx)⟩,List.filter_eq_self.mpr λ_ _=>Y2];rw[iE,S7]⟩
def L4(it:R fi ρ (iE e))(a:α->Ev)(c:∀x,gt (e x) ρ=O (a x))(b:∀x,R fe (a x) (zE e')):R (E8 fi gt tX (Vb fe)) ρ (iE e'):=⟨it.v.map λx=>(b x).v,bD it.D (FO it.v λx=>(b x).D),λh=>by
 obtain⟨h1,h2⟩:=aD h;have h2:∀x∈it.v,hold (b x).D:=h2;simp only[E8,it.ok h1,At];exact BY it.v λx hx=>⟨a x,c x,(b x).ok (h2 x hx)⟩⟩
def XI(a:R (cls2 fi gt p fs is n) ρ (iE e)):R (Qa fi gt p fs is n) ρ (oE e):=⟨a.v,bD a.D (O (a.v.length<=100000)),λh=>by
 obtain⟨h1,h2⟩:=aD h;simp only[Qa,a.ok h1,At,zt,zr (show a.v.length<=100000 from h2)]⟩
end
def hx(h:A6)(a:A1):HO:=.ext λh'=>h'.get? a=h.get? a
section
variable{H2:Hp}{as:Y A1}
end
section
variable{gs:Y (Int×A1×Y Dt)}{k:Int}{x:Dt}{u:V}
end
section
variable{e1 e2 ev:Expr}{f2:Ev->S Bx}{w:AJ}{pw py py2 py3 px p1 p3 p4 pl a1 a2 c1 c2:Pos}
end
end P1
namespace P1
open L2 S6
section
variable{kx vx t1 i1 t2 i2:Expr}{f1 f2:Y Expr}{xs:AZ}{g1 g2:Dt->Ev->S Ev}{p1 p2:Ev->S Bool}{fi1 fi2:Ev->S (Y Dt)}{m:Nat}
def Qc(fi:Ev->S (Y Dt))(gt:Dt->Ev->S Ev)(p:Ev->S Bool)(fs:Ev->S (Y Dt))(is:Y Nat)(n:Nat):Ev->S Bx:=λρ=>(cls2 fi gt p fs is n ρ).bind λa=>if a.length<1000 then O (.m (dictOf a) Y3)else Y3
theorem ZS.no:ZS K D H o1 o->(∀a u,o≠.tH a u)/\∀vs,o≠.tup vs:=λ⟨_,e,_⟩=>by subst e;exact⟨λ_ _ z=>(by cases z),λ_ z=>(by cases z)⟩
theorem Zr(ts:AZ)(W:Fu X ts m scope cl xs is t1 i1 f1 t2 i2 f2 fi1 fi2 g1 g2 p1 p2)(l:∀C f c fp,QV (yO X (xs++ts) scope cl C f c fp) kx fk)(a1:∀C f c fp,QV (yO X (xs++ts) scope cl C f c fp) vx fv):
  QV X (.DictComp kx vx [⟨t1,i1,f1,0⟩,⟨t2,i2,f2,0⟩] scope pos) (Qc fi1 g1 p1 (E8 fi2 g2 p2 (Vb (b2 Bd fk fv))) is ts.length):=⟨λAN s σ H Q I h=>by
 obtain⟨H0,ρ,b,E,e,q⟩:=h;obtain⟨a3,g,e⟩:=AT e;obtain⟨ds,F,g⟩:=AT g;split at e
 ·rename_i u;cases e;rw[arm_eval_DictComp];refine JJ (use:=Y3) Y2 W.hs W.ok.clos W.ok.kind W.ok.names ?_;refine iZ (W.it1.run AN s σ H (λJ H'=>AV H H'/\B0 X.K J ds H') I ⟨H0,ρ,ds,E,F,λJ H' s' y=>⟨s',y⟩⟩) λv s1 h1=>iZ h1 λa2 M h2=>?_;obtain⟨it,fp,tn,J,H2,rfl,j,T,st,z,i,Y⟩:=h2;refine yd (B:=Ag) (Ac:=ZS X.K) (O0:=.dK []) (N:=999) (RR:=λa0 C=>compPost (A8 X.prog X.w) X.A X.xe Y3 (EP X AN σ Q) a0 C) (ts:=ts) (xs:=xs) W.ok W.calm (λC f c fp=>(W.tg1 C f c fp).run) (λC f c fp=>(W.c1 C f c fp).run)
   (λC f c fp=>Ro (X:=yO X (xs++ts) scope cl C f c fp) (comp:=.DictComp kx vx [⟨t1,i1,f1,0⟩,⟨t2,i2,f2,0⟩] scope pos) (d:=1) W.calm Y2 (W.it2 C f c fp).run (W.tg2 C f c fp).run (W.c2 C f c fp).run (Xh (l C f c fp).run (a1 C f c fp).run) W.k2 W.hm2 ZS.kp ZS.no (W.hs2 C) (λ_ _ _=>Y2) (Ms Y2 λh=>h) λh=>h)
   W.k1 W.hm j ((E.grow i).caps is ts.length) (DW T) st z Y g (Nat.le_of_lt_succ u) ?_
   qo (λ_=>Ht M.heap j.big) (λ_=>⟨[],rfl,gk.nil,zk _⟩) ZS.kp (λ_ _ _=>by simp only[bind_assoc,pure_bind];rfl) codeAny_compStart_dict λh=>h
  rintro D C s' H' o L t p ⟨m,hn⟩ G U ⟨us,rfl,rm,_⟩;refine⟨m,hn,λh' n=>⟨.ref D,H',?_,rfl,q (.ref D) H' (i.trans G) (λa ea=>by cases ea;exact i.free L) ⟨D,us,rfl,U,rm,λb hb=>by cases hb⟩⟩⟩;obtain⟨f0,f1,f2,P,Z,x⟩:=p;exact t.turned (t':=s'.toks) (λb o hb e=>(n.2 b hb).trans e) f0 f1 P Z x
 ·cases e⟩
end
end P1
namespace P1
open L2
section
variable{e:α->Dt}{e0:β->Dt}{fd f2:Ev->S Bx}{kk:Ev->S Ap}{cO:γ->Ap}
end
section
variable{e:α->Dt}{fs:Ev->S (Y Dt)}
def Th(a:R (cls2 fi gt p fs is n) ρ (iE (Xo eS e))):R (Qc fi gt p fs is n) ρ (mE e):=⟨Do a.v,bD a.D (O (a.v.length<1000)),λh=>by
 obtain⟨h1,h2⟩:=aD h;simp only[Qc,a.ok h1,At,iE,zt,zr (show a.v.length<1000 from h2),Jr]⟩
end
section
variable{a:Expr}
def FV(fa:Ev->S Bx):Ev->S Bx:=λρ=>((fa ρ).bind U4).bind λc=>O (.z (.bl (!c)))
theorem UC(i:QV X a fa):QV X (.UnaryOp .Not a pos) (FV fa):=⟨λAN s σ H Q I h=>by
 obtain⟨H0,ρ,k,E,e,w⟩:=h;obtain⟨c,d,e⟩:=AT e;obtain⟨x,ex,d⟩:=AT d;cases e;refine UnaryOp_ (iZ (i.run AN s σ H (λv H1=>AV H H1/\bC X.K H1 x v) I ⟨H0,ρ,x,E,ex,λv H1 f _ b=>⟨f,b⟩⟩) λv f ⟨x',H1,I1,b,s1',q1⟩=>?_);exact not_of (iZ (NO AN f σ H1 x' v (λk H2=>k=c/\H2=H1) I1 b ⟨c,WM q1 d,rfl,rfl⟩) λk j h2=>by
  obtain⟨H2,g,rfl,rfl⟩:=h2;exact⟨.bl (!k),H2,g,rfl,w _ H2 s1' trivial (by simp only[bC,AW])⟩)⟩
end
theorem cF{bs:Y Bx}{c:α->Bx}{v:α}{D:S Prop}(x:RP g (bs.map O++List.replicate (n-bs.length) Y3) (λr=>Ap.rt (c r)) v D)(h:hold D):dJ n g bs=O (c v):=Md x.r h
section
variable{e:α->Dt}
def bn(a:RL fa ρ e):R (FV fa) ρ (zE eB):=⟨a.v.isEmpty,a.D,λh=>by
 have h1:=(Xq a).ok h;unfold tV at h1;unfold FV;rw[h1];simp[Xq,At]⟩
end
open PySem.Builtin PySem.Builtin.Str
section
variable{o:Expr}{fx:Ev->S Bx}
end
section
variable{g:Ev->S AJ}
end
section
variable{e1 e2 e3:Expr}{gr:Ev->S Ap}{fx:Ev->S Dt}{tR tQ:TS}{xr xj y1 y2:AJ}{AS no:Y AB}{kk:Nat}{p0 p00 p01 p02 q1 q2 pt pj pa px pb pif pf2 px3 a1 c1 pe1 pr a2 pj2 c2 pe2:Pos}
end
section
variable{e:α->Dt}{ea:β->Dt}{eb:δ->Dt}{kk:Ev->S Ap}{cO:γ->Ap}
end
end P1
namespace P1
open L2 S1
section
variable{k:Nat}{f:A1}{F:Y Bx->S Bx}{p:Pos}
end
end P1
namespace P1
open L2 S1 S6
theorem HC{p:Y α->Prop}(h:p []):∀us:Y α,us.length=0->p us
 |[],_=>h
section
variable{e:α->Dt}{g:Ev->S Bx}{c:α->Bx}
end
def B5(i:Int):R (cB (.int i)) ρ (zE eI):=vW (.int i) eI i rfl
def He(s:AJ):R (cB (.str s)) ρ (zE eS):=vW (.str s) eS s rfl
abbrev Nn(K:B4)(n:AJ)(f:A1):Prop:=nsIn K mainGlobals n=O (O (.ref f))
abbrev Lk(K:B4)(f:A1)(n:AJ)(st:AB)(a:A0)(e:S A1)(sl:Array (S A0))(kV d c:A0)(b:S A1)(g ct:A0):Prop:=K.lookup f=O ⟨a,e,.func (fnOf n n (uQ st) (j4 st) (aQ st) .none kV d c b g ct),sl⟩
end P1
namespace P1
open L2
section
variable{e:α->Dt}
end
section
variable{Ex:B8}{outer:Y Env}{L e T:A1}{C fl:A0}{dx:S A1}{Q:Unit->A2->Prop}
end
section
variable{H':Hp}{h':A6}{ch:Y A1}
end
section
variable{g:Array GenState}{d:Drawn}{t:Nat}{fI e:A1}{AS:Y A0}{B:String}
end
section
variable{g:Array GenState}{d:Drawn}{t:Nat}{e:A1}
end
section
variable{g:Array GenState}{d:Drawn}{t:Nat}{e dx:A1}{v:A0}{vs:Array A0}{sl:Array (S A0)}{m:AJ->S A0}
end
section
variable{o value:Expr}{tv:TE}{f:AJ}{pos' p:Pos}{B:String}{t:TA}
end
section
variable{f:AJ}{p:Pos}{B:String}
end
section
variable{E:XK}
end
section
variable{Cn f:A1}{iv iy k:Nat}{n cn:AJ}{np hp p py pa:Pos}{b0:AB}{suite:Y AB}{ts:A1->TS}{tf:TE}{t:TA}
end
section
variable{d:A1}{fs:Y (AJ×V)}{f:AJ}{o:Expr}
end
section
variable{f:AJ}{E:XK}{gy:Ev->S Dt}{p:Pos}{st:AB}{AS a b:Y AB}{B:String}{pc:Ev->S Bool}
end
section
variable{k:Nat}{f h:A1}{F:Y Bx->S Bx}{fs:Ev->S (Y Bx)}{p q:Pos}
end
end P1
namespace P1
open L2 S6
section
variable{xs:AZ}
end
section
variable{e2 se:Expr}{fS:Ev->S AZ}{fx:Ev->S Dt}{no AS:Y AB}{tR tQ:TS}{p0 p02 px pb pif pk:Pos}{f:AJ}{E:XK}
end
end P1
namespace P1
open L2
section
variable{e1 e2 e3:Expr}{gr:Ev->S Ap}{xr xj y1 y2:AJ}{AS no:Y AB}{kk:Nat}{p0 p00 p01 p02 q1 q2 pt pj pa px pb pif pf2 px3 a1 c1 pe1 pr a2 pj2 c2 pe2:Pos}{fx:Ev->S Dt}{f:AJ}{E:XK}
end
section
variable{Cn f:A1}{iv k:Nat}{n cn:AJ}{np hp p pa:Pos}{b0:AB}{suite:Y AB}{ts:A1->TS}{tf:TE}{t:TA}
end
section
variable{fx:Ev->S Bx}
end
section
variable{xs:Array A0}
end
theorem xY:∀{AQ:Y A0} {a:Y Int},IntsAre AQ a->AX (a.map V.int) AQ
 |_,_,.nil=>.nil
 |_,_,.cons y t h=>.cons ⟨t,rfl⟩ (xY h)
section
variable{e:α->Dt}
end
section
variable{e:α->Dt}{ea:β->Dt}{eb:δ->Dt}{fx:Ev->S Dt}
end
section
variable{e:α->Dt}{g:Ev->S β}{c:γ->β}
end
section
variable{E:XK}
end
section
variable{f:AJ}{E:XK}{fs:Ev->S (Y Bx)}{gy:Ev->S Dt}{p p1 epos:Pos}{st:AB}{AS:Y AB}
end
section
variable{o:Expr}
def Nc:Dt->Bool
 |.non=>true
 |.tup _=>true
 |_=>false
def N2:Dt->Bool
 |.non=>true
 |_=>false
end
section
variable{o l:Expr}{fs:Ev->S (Y Bx)}{z:AJ}
end
instance {σ τ:Type} [Inhabited σ]:Inhabited (wC σ τ):=⟨.nx default⟩
section
variable{e:α->Dt}
theorem MT(a:∀x,∃ds,e x=.tup ds)(ys:Y (S α)):(ys.map (eO e)).all Nc=true/\(N2 ∘ eO e)=Option.isNone:=by
 refine⟨?_,?_⟩
 ·rw[qB];intro d hd;obtain⟨o,_,rfl⟩:=List.mem_map.mp hd;cases o with
  |none=>rfl
  |some x=>obtain⟨ds,q⟩:=a x;show Nc (e x)=true;rw[q];rfl
 ·funext o;cases o with
  |none=>rfl
  |some x=>obtain⟨ds,q⟩:=a x;show N2 (e x)=false;rw[q];rfl
end
section
variable{o e2:Expr}{fx fy:Ev->S Bx}
end
section
variable{f:AJ}{E:XK}{gy:Ev->S Dt}{st:AB}{sts AS:Y AB}{p0 p00 p01 p02:Pos}
end
structure DQ (K:B4) (mg:Str->Option Value) (x:Str) (st:Stmt) (ps:AZ) where
 f:Addr
 fd:FuncData
 F:Cb K x x st f fd
 b:BQ K fd ps []
 m:mg x=some (.ref f)
 k:keepIn K (.ref f)=true
def lC{st:AB}{f:A1}{m b:S A1}{sl:Array (S A0)}{i kV j d e ct:A0}(X:K.In h)(G:h.Ns mainGlobals mg)(a:Nn K x f)(l:Lk K f x st i m sl kV j d b e ct)(c:codeIn K e x=true)(k:keepIn K (.ref f)=true)(hb:∀(kV g d:A0) (b:S A1) (n ct:A0) (us:Y A0),us.length=ps.length->bindArgs (fnOf x x (uQ st) (j4 st) (aQ st) .none kV g d b n ct) ⟨us,[]⟩=pure (ps.zip us):=by intro _ _ _ _ _ _;first|exact P1.IL λ_=>Y2|exact P1.IT λ_ _=>Y2|exact P1.Sl λ_ _ _=>Y2|exact P1.PF λ_ _ _ _=>Y2|exact P1.ah λ_ _ _ _ _=>Y2|exact P1.HC Y2):DQ K mg x st ps:=
 ⟨f,_,Mo l c k,(Mo l c k).binds hb,mg_of X G a,k⟩
theorem LG{v:Tok->A0}{tk:Tok}(X:K.In h)(G:h.Ns mainGlobals mg)(c:nsIn K mainGlobals x=O (O (v tk))):∃tk,mg x=O (v tk):=⟨tk,mg_of X G c⟩
abbrev Ok(P:A3)(w:A4)(base:A6){st:AB}(d:DQ K mg x st ps)(k n:Nat)(F:Y Bx->S Bx):Prop:=uP P w K mg base Kq k d.f d.fd ps (Cf K n F)
theorem zX{st:AB}{k m:Nat}(d:DQ K mg x st ps)(S:bI N ps (aQ st))(c:∀(a:A0) (A:A5) (outer:Y Env) (s:A2) (H:Hp) (E:XK),pB k (A.deeper (AK x (aQ st) s.heap.objs.size d.f a))->(A.deeper (AK x (aQ st) s.heap.objs.size d.f a)).units+100<cLine->N.Nodup->U7 (Hl Kq P w K mg base N x (aQ st) d.f a A outer s H E).nox (j4 st) g)(e:N.length=n:=by rfl)(h:ps.length=m:=by rfl):Ok P w base d (k+1) m (dJ n g):=L3 d.F S e h λa A outer s H E b=>c a A outer s H E b (OD b) S.nd
section
variable{k m:Nat}{st:AB}{F:Y Bx->S Bx}{fs:Ev->S (Y Bx)}{p:Pos}
theorem cL(d:DQ X.K X.mg x st ps)(G:Ok X.prog X.w X.base d k n F)(h:pB m X.A)(i:Yw X (e::es) fs)(f:Gl X x:=by rfl)(a:k<=m:=by decide)(g:(x==("__debug__":AJ))=false:=by decide)(he:A9 (e::es) X.env=(false,eval e X.env)::A9 es X.env:=by rfl)(c:(AD pos (A9 es X.env)).any (·.1)=false:=by rfl):QV X (.Call (.Name x p) (e::es) [] pos) (bO n F fs):=
 yg G (h.mono a) f d.m d.k d.b i g he c
end
theorem FI{l:PySem.W.OpenLaw}{q:A3}{loose:AZ}{d:DefRec}{K:Params->B4}{T:B4->(AJ->S A0)->Type}{k:Nat}{st:AB}{F_law:Y Bx->S Bx}(c:∀{K mg},T K mg->DQ K mg "law" st [x])(v:pB k callerA)(hd:d.name ="law")(G:∀(w:A4) (mg:AJ->S A0) (base:A6) (t:T (K w.params) mg),Ok l.prog w base (c t) k 1 F_law)(D:l.most=O 63)(p:d.params.defaults=[])(h1:∀b:Y Int,b.length<=63->F_law [.z (.lst (b.map .int))]=O (.z (.bl true)))(h2:∀b:Y Int,b.length<=63->F_law [.l (b.map .int)]=O (.z (.bl true)))(hb:∀(kV g j:A0) (i:S A1) (o ct u:A0),bindArgs (fnOf "law" "law" (uQ st) (j4 st) (aQ st) .none kV g j i o ct) ⟨[u],[]⟩=pure [(x,u)])(C:∀(w:A4) (h:A6),YP w h->(K w.params).In h)(F:∀(w:A4) (mg:AJ->S A0) (h:A6),(K w.params).In h->h.Ns mainGlobals mg->T (K w.params) mg):
  PySem.W.WalkO q loose XP YP l.row.toRowW d [] (λf vs=>PySem.call f vs):=
 L2.SH (n:=63) (k:=k) (x:=x) (CX:=Kq) (sp:=λK=>Cf K 1 F_law) D (by decide) p v C (λw mg fa h X N e=>by
  have t:=F w mg h X N;have y:=(c t).m;rw[hd,y]at e;cases e;refine⟨(c t).fd,λs u=>?_,λbase _ _=>G w mg base t⟩;obtain⟨I,J,kV,g,j,i,o,ct,osl,e,L,M⟩:=(c t).F.ex;rw[e];exact .of_eq (hb kV g j i o ct u)) (λK H a b B E A=>ar h1 h2 K H a b B E A) λ_ _ _ _ z=>z
section
variable{k:Nat}{f:A1}{sp:A1->Y V->Hp->VK->Prop}{p:Pos}{t:TA}
end
section
variable{p0 p1:Pos}{xs:AZ}{e:A1}{a:Expr}{ta:TA}
end
section
variable{f:AJ}{E:XK}{fs:Ev->S (Y Bx)}{p:Pos}
end
section
variable{g:Array GenState}{d:Drawn}{t:Nat}{AS:Y A0}{B:String}
end
section
variable{E:XK}{p:Pos}{B:String}{k:Nat}{t:TA}
end
section
variable{p kp cp:Pos}{fs:Ev->S (Y Bx)}{j:Int}{kk:Nat}
end
section
variable{e:α->Dt}
end
section
variable{g:Ev->S AJ}
variable{e:α->Dt}
end
section
variable{e:α->Dt}{σ' τ:Type}
def qE(e:α->Dt):S (Y α)->Bx
 |none=>.z .non
 |some l=>.o (l.map e)
def ET(e:α->Dt):S (Y α)->Bx
 |none=>.z .non
 |some l=>.l (l.map e)
def XH:R (cB .non) ρ (qE e):=⟨Y3,Y3,λ_=>Y2⟩
def af(a:R fa ρ (oE e)):R fa ρ (qE e):=⟨O a.v,a.D,λh=>a.ok h⟩
theorem Oy{v:S (Y α)}(h:ρ[i]?=O (O (qE e v))):zq ρ i=O (ET e v):=by
 unfold zq;rw[h];cases v<;>rfl
def Nl(i:Nat)(e:α->Dt)(v:S (Y α))(h:ρ[i]?=O (O (qE e v))):R (gv i) ρ (ET e):=⟨v,Y3,λ_=>Oy h⟩
class HQ (c:Option (List α)->Bx) (e:outParam (α->Dt)):Prop where
 d:∀v,toD (c v)=eO (eL e) v/\wQ (c v)=false
instance:HQ (qE e) e:=⟨λv=>by cases v<;>exact⟨rfl,rfl⟩⟩
instance:HQ (ET e) e:=⟨λv=>by cases v<;>exact⟨rfl,rfl⟩⟩
instance:HQ (zE (eO (eL e))) e:=⟨λv=>⟨rfl,rfl⟩⟩
def di(a:R fa ρ (ET e)):R (b2 DC fa (cB .non)) ρ (zE eB):=⟨a.v.isNone,a.D,λh=>by
 simp only[b2,a.ok h,At,cB,DC];cases a.v<;>rfl⟩
end
section
variable{p:Pos}{fs:Ev->S (Y Bx)}
end
section
variable{e:α->Dt}
end
theorem SS:fillsNumberSlot (.type "tuple") "mul"=pure false:=
 PySem.fillsNumberSlot_seq (r:=O (.builtin "tuple.__rmul__")) (id :="tuple.__mul__") F.slot_tuple_mul.lookup (by decide +kernel) F.slot_tuple_rmul.lookup (by decide +kernel)
theorem PP:seqRepeat? (.type "tuple")=pure (O (.builtin "tuple.__mul__")):=by
 unfold seqRepeat?;rw[PySem.seqSlot_of (name :="__mul__") (T :="tuple") (id :="tuple.__mul__") F.slot_tuple_mul.lookup (by decide +kernel),PySem.seqSlot_of (name :="__rmul__") (T :="tuple") (id :="tuple.__rmul__") F.slot_tuple_rmul.lookup (by decide +kernel)];rfl
theorem Pi(a:Int)(t:Tok)(l:A1)(items:Array A0)(n:Nat)(b:S A1)(sl:Array (S A0)):
  Meets (Builtin.«int.__rmul__» ⟨[.int a t,.ref l],[]⟩) (λ_ R s=>s.heap.get? l=O { cls:=.type "tuple",dict:=b,data:=.seq items n,slots:=sl }/\R (.ok (.ret Value.notImplemented)) s):=
 .of_wp λprog w A R s h=>by obtain⟨hp,g,d,tk,os⟩:=s;obtain⟨c,h⟩:=h;wp_walk;exact⟨_,rfl,h⟩
theorem d6(t:Tok)(l:A1)(items:Array A0)(n:Nat)(a:S A1)(sl:Array (S A0)):
  Meets (Builtin.«tuple.__mul__» ⟨[.ref l,.int 1 t],[]⟩) (λ_ R s=>s.heap.get? l=O { cls:=.type "tuple",dict:=a,data:=.seq items n,slots:=sl }/\R (.ok (.ret (.ref l))) s):=
 .of_wp λprog w A R s h=>by obtain⟨hp,g,d,tk,os⟩:=s;obtain⟨b,h⟩:=h;have f1:=AutoSeq1.idx_int;wp_walk using wpAny_loadPart' b;exact⟨_,rfl,h⟩
theorem bP(t:Tok)(l:A1)(items:Array A0)(n:Nat)(a:S A1)(sl:Array (S A0))(he:¬ items.isEmpty=true):
  Meets (Builtin.«tuple.__mul__» ⟨[.ref l,.int 0 t],[]⟩) (λ_ R s=>s.heap.get? l=O { cls:=.type "tuple",dict:=a,data:=.seq items n,slots:=sl }/\R (.ok (.ret (.ref s.heap.objs.size))) { s with heap:=s.heap.push { cls:=.type "tuple",data:=.seq #[] } }):=
 .of_wp λprog w A R s h=>by obtain⟨hp,g,d,tk,os⟩:=s;obtain⟨b,h⟩:=h;have f1:=AutoSeq1.idx_int;wp_walk using wpAny_loadPart' b;exact⟨_,rfl,h⟩
def S8:Bx->Bx->S Bx
 |.z (.tup ds),.z (.int k)=>if k=1 then O (.z (.tup ds))else if k=0/\ds.isEmpty=false then O (.z (.tup []))else Y3
 |_,_=>Y3
theorem e8:Gs X (binaryOp .Mult) S8:=by
 intro AN s σ H x y v u Q I D M h;obtain⟨a,b,c,j,C,e,q⟩:=h;unfold S8 at e;split at e
 ·rename_i ds k;obtain⟨l,vs,rfl,sl,B⟩:=EN j;have K:=Mu C;subst K;cases D;obtain⟨t,rfl⟩:=M;obtain⟨AQ,E,⟨⟨W,d,N,g⟩,e1,c1,f,m⟩,z1⟩:=I.tuple sl;simp only at c1 m;subst c1 m;have i:∀{n:B8},A7 (A8 X.prog X.w) X.A (call (.builtin "tuple.__mul__") [.ref l,.int k t]) n X.xe s->A7 (A8 X.prog X.w) X.A (binaryOp .Mult (.ref l) (.int k t)) n X.xe s:=λp=>
   wpAny_binaryOp_repeat_ref (T :="tuple") (U :="int") (by decide) ⟨_,e1,rfl⟩ (λs'=>typeIs_int s' k t) SS F.fills_int_mul F.slot_int_rmul PP F.slot_int_index.lookup
    (call_meets F.slot_int_rmul (typeIs_int s k t) F.entry_int_rmul (F.args_int_rmul_2 _ _) (Pi k t l AQ.toArray f d g) ⟨e1,rfl,⟨_,e1,rfl⟩,p⟩)
  split at e
  ·rename_i h1;cases e;subst h1;refine i (call_meets F.slot_tuple_mul ⟨_,e1,rfl⟩ F.entry_tuple_mul (F.args_tuple_mul_2 _ _) (d6 t l AQ.toArray f d g) ⟨e1,?_⟩);exact⟨.ref l,H,I,rfl,q _ H (AV.refl H) trivial j⟩
  ·split at e
   ·rename_i h1 h2;cases e;obtain⟨h2,G⟩:=h2;subst h2;have L:¬ AQ.toArray.isEmpty=true:=λz=>by
     have z:AQ=[]:=by simpa using z
     have:vs=[]:=E.z6.mp z;have:=B.length;subst vs;cases ds with
     |nil=>cases G
     |cons _ _=>cases this
    refine i (call_meets F.slot_tuple_mul ⟨_,e1,rfl⟩ F.entry_tuple_mul (F.args_tuple_mul_2 _ _) (bP t l AQ.toArray f d g L) ⟨e1,?_⟩);have J:=I.hok.fresh (zk s.heap.objs.size);refine⟨.ref s.heap.objs.size,_,I.laid (t':=s.toks) (o:=.tup []) (λb P q=>ze _ q) (zk _) ?_,rfl,q _ _ (cg J) trivial ⟨_,[],rfl,?_,aO.nil⟩⟩
    ·exact⟨by decide,[],.nil,_,zC _ rfl,rfl,⟨0,rfl⟩,rfl⟩
    ·exact .inl (.inl bH)
   ·cases e
 ·cases e
section
variable{e:α->Dt}
def eD(a:R fa ρ (zE (eT e)))(b:R fb ρ (zE eI)):R (b2 S8 fa fb) ρ (zE (eT e)):=⟨(List.replicate b.v.toNat a.v).flatten,bD (bD a.D b.D) (O ((b.v=0\/b.v=1)/\a.v.isEmpty=false)),λh=>by
 obtain⟨h,c⟩:=aD h;obtain⟨h1,h2⟩:=aD h;obtain⟨c,d⟩:(b.v=0\/b.v=1)/\a.v.isEmpty=false:=c;simp only[b2,a.ok h1,b.ok h2,At,S8,zE,eI,eT];rcases c with c|c
 ·rw[c,zI (by decide),zr ⟨rfl,by rw[List.isEmpty_map];exact d⟩];rfl
 ·rw[c,zr rfl];show O (Bx.z (.tup _))=O (Bx.z (.tup (List.map e (List.replicate 1 a.v).flatten)));simp⟩
end
section
variable{e:α->Dt}
end
end P1
namespace P1
open L2 S1 S6
section
variable{e:α->Dt}
def So(a:R fa ρ (ET e)):R fa ρ (lE e):=⟨a.v.getD [],bD a.D (O (a.v.isSome=true)),λh=>by
 obtain⟨h1,h2⟩:=aD h;have h2:a.v.isSome=true:=h2;rw[a.ok h1];cases z:a.v with
 |none=>rw[z]at h2;cases h2
 |some l=>rfl⟩
end
end P1
namespace P1
open L2
theorem C1(a b:AJ):uq a b=true↔qy a b/\a≠b:=by
 unfold uq qy;rw[ltCps_eq];simp only[Zl,j0];constructor
 ·intro h;exact⟨List.lt_asymm h,λe=>by subst e;exact List.lt_irrefl _ h⟩
 ·intro⟨h,hn⟩;by_cases q:a.cps.toList<b.cps.toList
  ·exact q
  ·exact absurd (Ig (a:=a) (b:=b) (by unfold qy;rw[ltCps_eq];simpa using h) (by unfold qy;rw[ltCps_eq];simpa using q)) hn
theorem G4{i:Int}(h:i∈rng 0 n):∃k:Nat,k<n/\i=(k:Int):=by
 unfold rng at h;obtain⟨k,a,rfl⟩:=List.mem_map.mp h;exact⟨k,List.mem_range.mp a,by omega⟩
end P1
namespace P1
open L2 S1 S6
theorem Ju[DecidableEq α]{xs ys:Y α}(h1:xs.Nodup)(h2:ys.Nodup)(h:∀x,x∈xs↔x∈ys):xs.Perm ys:=by
 rw[List.perm_iff_count];intro a;by_cases b:a∈xs
 ·rw[h1.count,h2.count,zr b,zr ((h a).mp b)]
 ·rw[h1.count,h2.count,zI b,zI λz=>b ((h a).mpr z)]
structure Wd (U:AZ) (w:List AZ):Prop where
 ne:∀s∈w,s≠[]
 so:∀s∈w,s.Pairwise qy
 nd:w.flatten.Nodup
 sub:∀x∈w.flatten,x∈U
 st:w.Pairwise (λa b=>KN a b=true)
def same(w:Y AZ)(x y:AJ):Prop:=∃s∈w,x∈s/\y∈s
theorem G5{α:Type}:∀{w:Y (Y α)},w.flatten.Nodup->∀{s t:Y α} {x:α},s∈w->t∈w->x∈s->x∈t->s=t
 |a::w,h,s,t,x,hs,ht,xs,xt=>by
  rw[JS,JP]at h;rcases List.mem_cons.mp hs with e1|e1<;>rcases List.mem_cons.mp ht with e2|e2
  ·rw[e1,e2]
  ·exact absurd Y2 (h.2.2 x (by rw[<-e1];exact xs) x (List.mem_flatten.mpr ⟨t,e2,xt⟩))
  ·exact absurd Y2 (h.2.2 x (by rw[<-e2];exact xt) x (List.mem_flatten.mpr ⟨s,e1,xs⟩))
  ·exact G5 h.2.1 e1 e2 xs xt
theorem Jv{α:Type}:∀{w:Y (Y α)},w.flatten.Nodup->∀{s:Y α},s∈w->s.Nodup
 |a::w,h,s,hs=>by
  rw[JS,JP]at h;rcases List.mem_cons.mp hs with e|e
  ·rw[e];exact h.1
  ·exact Jv h.2.1 e
theorem Bm{α:Type}:∀{w:Y (Y α)},w.flatten.Nodup->(∀s∈w,s≠[])->w.Nodup
 |[],_,_=>Qb
 |a::w,h,hn=>by
  have h':=h;rw[JS,JP]at h;refine List.nodup_cons.mpr ⟨λz=>?_,Bm h.2.1 λs hs=>hn s (zi _ hs)⟩;obtain⟨x,hx⟩:=List.exists_mem_of_ne_nil a (hn a (zh ..));exact absurd Y2 (h.2.2 x hx x (List.mem_flatten.mpr ⟨a,z,hx⟩))
theorem Wd.XJ{U:AZ}{w:Y AZ}(W:Wd U w){s:AZ}(hs:s∈w)(hx:x∈s):same w x y↔y∈s:=
 ⟨λ⟨t,ht,xt,yt⟩=>by rw[G5 W.nd hs ht hx xt];exact yt,λa=>⟨s,hs,hx,a⟩⟩
theorem XM{U:AZ}{w b:Y AZ}(W:Wd U w)(c:Wd U b)(h1:∀x,x∈w.flatten↔x∈b.flatten)(h2:∀x y,same w x y↔same b x y){s:AZ}(hs:s∈w):s∈b:=by
 obtain⟨x,hx⟩:=List.exists_mem_of_ne_nil s (W.ne s hs);obtain⟨t,a,d⟩:=List.mem_flatten.mp ((h1 x).mp (List.mem_flatten.mpr ⟨s,hs,hx⟩));have:s=t:=O4 (Ju (Jv W.nd hs) (Jv c.nd a) λy=>by rw[<-W.XJ hs hx,h2,c.XJ a d]) (W.so s hs) (c.so t a);rw[this];exact a
theorem PM{U:AZ}{w b:Y AZ}(W:Wd U w)(a:Wd U b)(h1:∀x,x∈w.flatten↔x∈b.flatten)(h2:∀x y,same w x y↔same b x y):w=b:=
 sy (λ_ _=>Nq) (Ju (Bm W.nd W.ne) (Bm a.nd a.ne) λs=>⟨XM W a h1 h2,XM a W (λx=>(h1 x).symm) λx y=>(h2 x y).symm⟩) W.st a.st
end P1
section
set_option maxHeartbeats 1000000
namespace P1
open L2
open PySem.Builtin PySem.Builtin.Str
abbrev cs(s:AJ):Y Nat:=s.cps.toList
theorem Qd(a b:AJ):cs (a++b)=cs a++cs b:=Array.toList_append
theorem xM(a:AJ):a.length=(cs a).length:=by simp[Str.length]
theorem RA(y p q:AJ)(ps:AZ):Str.join y (p::q::ps)=p++y++Str.join y (q::ps):=rfl
theorem S9(h:n<=x.length):cs (Txt.slice x (O (n:Int)) Y3)=(cs x).drop n:=by
 rw[slice_from_eq (b:=x.length) (by omega) (by omega) rfl];show((cs x).drop ((n:Int).toNat)).take _=_;rw[KL,List.take_of_length_le (by rw[kD,<-xM];omega)]
theorem Tc(h:n<=x.length):cs (Txt.slice x Y3 (O (n:Int)))=(cs x).take n:=by
 have:=slice_closes_to (x:=x) (j:=(n:Int)) ⟨by omega,by rw[show x.cps.toList.length=x.length by simp[Str.length]];omega⟩;rw[eq_of_beq this];show((cs x).drop 0).take _=_;simp
theorem TH:∀(y p:AJ) (ps:AZ),cs (Txt.join y (p::ps))=cs p++ps.flatMap λq=>cs y++cs q:=by
 intro y p ps;rw[show Txt.join y (p::ps)=Str.join y (p::ps) from StrLaws.glued_eq_join y _]
 induction ps generalizing p with
 |nil=>simp[Str.join]
 |cons q ps a=>rw[RA,Qd,Qd,a,JU,qq,qq]
end P1
end
section
set_option maxHeartbeats 1000000
namespace P1
open L2 S1 S6
section
variable [Inhabited α]
end
theorem fw(a b c:AJ)(h1:uq a b=true)(h2:uq b c=true):uq a c=true:=by
 unfold uq at *
 simp only[Zl]at *
 exact List.lt_trans h1 h2
section
variable{e:α->Dt} [ur e]
end
end P1
end
namespace P1
open L2
open PySem.Builtin PySem.Builtin.Str
end P1
section
set_option maxHeartbeats 1000000
namespace P1
open L2
open PySem.Builtin PySem.Builtin.Str
end P1
end
section
set_option synthInstance.maxSize 100000
namespace G34
open L2 P1
noncomputable section
abbrev l7:=Y P1.Dt
abbrev aC:Type:=Int×AJ×AJ×Int
abbrev aG:aC->Dt:=D3 eI eS eS eI
abbrev dM:Type:=AJ×AJ×Int
abbrev dW:dM->Dt:=DB eS eS eI
abbrev dw:Type:=AZ×(Y aC)×(Y dM)
abbrev bL:dw->Dt:=DB (eT eS) (eT aG) (eT dW)
abbrev GY:Type:=Int×AZ
abbrev EZ:Type:=(Y AZ)×Int×Int
abbrev jJ:EZ->Dt:=DB (eL (eT eS)) eI eI
abbrev To:Type:=Int×Int
abbrev IJ:To->Dt:=Xo eI eI
def top(i:Nat):AB:=PySem.Challenge.pw_onefolk_k34_whole_best_side_by_side.main.body.getD i (.Pass ⟨0,0,0,0⟩)
abbrev Jw:AB:=top 30
abbrev yR:AB:=top 31
abbrev Ep:AB:=top 32
abbrev Bo:AB:=top 33
abbrev Bp:AB:=top 7
abbrev Bq:AB:=top 8
abbrev Jx:AB:=top 6
abbrev yS:AB:=top 10
abbrev Br:AB:=top 9
abbrev Jy:AB:=top 5
abbrev Jz:AB:=top 4
abbrev xO:AB:=top 24
abbrev uH:AB:=top 25
abbrev Er:AB:=top 22
abbrev Es:AB:=top 14
abbrev JB:AB:=top 13
abbrev Td:AB:=top 12
abbrev Bt:AB:=top 28
abbrev xP:AB:=top 27
abbrev Et:AB:=top 26
abbrev JC:AB:=top 21
abbrev uI:AB:=top 19
abbrev Nu:AB:=top 23
abbrev yU:AB:=top 35
abbrev Bu:AB:=top 36
abbrev xQ:AB:=top 37
abbrev rK:AB:=top 40
abbrev Bv:AB:=top 38
abbrev JD:AB:=top 39
abbrev yV:AB:=top 20
abbrev Nv:AB:=top 18
abbrev s_law:AB:=top 41
def fuel:Nat:=32
def yW:Ev->S Ap:=(aF (aF (As 2 (b2 jg (b2 eU (b2 yH (gv 2) (cB (.int 69621))) (gv 3)) (cB (.int 2147483647)))) fu) (dG [3]))
def uZ:Ev->S Ap:=(aF (xZ (rZ EG (gv 1) (cT uT (aq (gv 0) aH))) (aF (gM (b2 eF (gv 0) (gv 1))) fu) fu) (aF (As 2 (b2 jg (b2 yH (cB (.int 48271)) (b2 eU (b2 eU (b2 yH (gv 1) (gv 1)) (b2 yH (cB (.int 7)) (gv 1))) (cB (.int 11)))) (cB (.int 2147483647)))) (aF (yI (DJ (Ut (gv 0) rG (vV (cB (.int 3))))) (jh 3) yW) (aF (gM (gv 2)) fu))))
def jQ:Y Bx->S Bx:=dJ 4 uZ
def nZ:Ev->S Ap:=(aF (aF (As 3 (b2 jg (b2 eU (b2 eU (b2 yH (gv 3) (b2 eU (b2 jg (gv 3) (cB (.int 65521))) (cB (.int 40487)))) (b2 yH (cB (.int 7)) (gv 5))) (cB (.int 5))) (cB (.int 1999999973)))) (aF (Dd 2 (b2 eF (cT rC (aq (gv 3) (aq (b2 jg (gv 4) (cB (.int 1000000))) aH))) (cT Eg (aq (b2 DO (gv 4) (cB (.int 0))) aH)))) (aF (As 4 (b2 Mv (gv 4) (cB (.int 1000000)))) fu))) (dG [5]))
def oU:Ev->S Ap:=(aF (As 2 (cT rC aH)) (aF (As 3 (b2 jg (b2 yH (b2 eU (b2 jg (gv 0) (cB (.int 1999999973))) (cB (.int 31))) (cB (.int 765432101))) (cB (.int 1999999973)))) (aF (As 4 (cB (.int 0))) (aF (xZ (D0 (rZ EG (gv 0) (cB (.int 0))) (rZ GM (gv 0) (b2 IE (cB (.int 10)) (cB (.int 18))))) (aF (aF (As 4 (cT EV (aq (gv 0) aH))) fu) (dG [])) (aF fu (dG []))) (aF (yI (W3 (aq (gv 1) aH)) (jh 5) nZ) (aF (HJ 2) fu))))))
def fP:Y Bx->S Bx:=dJ 6 oU
def rM:Ev->S Ap:=(aF (aF (As 7 (b2 eF (gv 2) (b2 jg (b2 eU (gv 6) (b2 eF (gv 0) (cB (.int 2)))) (cB (.int 15))))) (aF (As 8 (b2 eU (b2 eU (Ut (gv 3) rG (vV (gv 4))) (gv 7)) (Ut (gv 3) (vV (gv 4)) rG))) (aF (xZ (rZ C0 (b2 jg (b2 eF (gv 0) (cB (.int 3))) (cB (.int 3))) (cB (.int 1))) (aF (aF (As 8 (b2 yH (b2 eF (gv 2) (b2 Mv (gv 6) (cB (.int 8)))) (b2 eU (cB (.int 1)) (b2 jg (gv 6) (cB (.int 8)))))) fu) (dG [])) (aF fu (dG []))) (aF (Dd 5 (gv 8)) fu)))) (dG [6,7,8]))
def sO:Ev->S Ap:=(aF (As 2 (cB (.str "abcdefghijklmnopqrstuvwxyz"))) (aF (As 3 (b1 (RG "") (fM (W3 (aq (b2 jg (b2 eF (gv 0) (cB (.int 0))) (cB (.int 6))) aH)) (jh 2) tX (b2 eF (gv 0) (b2 jg (b2 Mv (b2 eF (gv 1) (gv 2)) (cB (.int 40))) (cB (.int 26)))) [2,0] 1))) (aF (As 4 (b2 jg (b2 eF (gv 0) (cB (.int 1))) (b2 eU (cT uT (aq (gv 3) aH)) (cB (.int 1))))) (aF (As 5 (cT rC aH)) (aF (yI (W3 (aq (gv 1) aH)) (jh 6) rM) (aF (HJ 5) fu))))))
def pJ:Y Bx->S Bx:=dJ 9 sO
def p7:Ev->S Ap:=(aF (aF (As 9 (bO 2 fP (aq (b1 wD (bO 2 jQ (aq (gv 0) (aq (b1 wD (b2 eU (b2 eU (gv 1) (cB (.int 1))) (gv 8))) aH)))) (aq (cB (.int 4)) aH)))) (aF (Fm 10 11 (aq (b2 jg (b2 eF (gv 9) (cB (.int 0))) (cT Kw (aq (cB (.int 1)) (aq (gv 2) aH)))) (aq (b2 jg (b2 eF (gv 9) (cB (.int 1))) (cT Kw (aq (cB (.int 1)) (aq (gv 2) aH)))) aH))) (aF (As 12 (b2 eF (cT rC (aq (b1 wD (b2 eU (cB (.int 1)) (b2 jg (b2 eF (gv 9) (cB (.int 2))) (cB (.int 3))))) (aq (b1 wD (b2 eU (cB (.int 1)) (b2 jg (b2 eF (gv 9) (cB (.int 2))) (cB (.int 9))))) (aq (b1 wD (b2 eU (cB (.int 1)) (b2 jg (b2 eF (gv 9) (cB (.int 2))) (cB (.int 1000))))) aH)))) (b2 jg (b2 eF (gv 5) (cB (.int 4))) (cB (.int 3))))) (aF (xZ (rZ W0 (gv 10) (gv 11)) (aF (aF (Dd 7 (cT iG (aq (b2 Bi (cB (.int 0)) (gv 12)) (aq (b2 eF (gv 6) (cT YK (aq (gv 10) (aq (gv 11) aH)))) (aq (b2 eF (gv 6) (cT Kw (aq (gv 10) (aq (gv 11) aH)))) (aq (b2 eF (cT rC (aq (cB (.int 0)) (aq (cB (.int 2)) (aq (cB (.int 10)) aH)))) (b2 jg (b2 eF (gv 9) (cB (.int 3))) (cB (.int 3)))) aH)))))) fu) (dG [])) (aF fu (dG []))) fu)))) (dG [8,9,10,11,12]))
def p8:Ev->S Ap:=(aF (aF (As 9 (bO 2 fP (aq (b1 wD (bO 2 jQ (aq (gv 0) (aq (b1 wD (b2 eU (b2 eU (gv 1) (cB (.int 1))) (gv 8))) aH)))) (aq (cB (.int 8)) aH)))) (aF (Fm 10 11 (aq (b2 jg (b2 eF (gv 9) (cB (.int 5))) (cT Kw (aq (cB (.int 1)) (aq (gv 2) aH)))) (aq (b2 jg (b2 eF (gv 9) (cB (.int 6))) (cT Kw (aq (cB (.int 1)) (aq (gv 2) aH)))) aH))) (aF (xZ (rZ W0 (gv 10) (gv 11)) (aF (aF (Dd 14 (cT iG (aq (b2 eF (gv 6) (cT YK (aq (gv 10) (aq (gv 11) aH)))) (aq (b2 eF (gv 6) (cT Kw (aq (gv 10) (aq (gv 11) aH)))) (aq (b2 eF (cT rC (aq (cB (.int 2)) (aq (cB (.int 10)) aH))) (b2 jg (b2 eF (gv 9) (cB (.int 7))) (cB (.int 2)))) aH))))) fu) (dG [])) (aF fu (dG []))) fu))) (dG [8,9,10,11]))
def qC:Ev->S Ap:=(aF (As 5 (bO 2 fP (aq (b1 wD (bO 2 jQ (aq (gv 0) (aq (gv 1) aH)))) (aq (cB (.int 6)) aH)))) (aF (As 6 (cT MJ (aq (bO 2 pJ (aq (gv 5) (aq (gv 2) aH))) aH))) (aF (As 7 (cT rC aH)) (aF (yI (W3 (aq (gv 3) aH)) (jh 8) p7) (aF (As 13 (fM (Kv (Ei (KH (gv 7)))) (pD 4 (bN (jh 0) (bN (jh 1) (bN (jh 2) (bN (jh 3) rD))))) tX (cT iG (aq (b2 Bi (cB (.int 0)) (gv 0)) (aq (gv 1) (aq (gv 2) (aq (gv 3) aH))))) [] 4)) (aF (As 14 (cT rC aH)) (aF (yI (W3 (aq (gv 4) aH)) (jh 8) p8) (aF (gM (cT iG (aq (cT iI (aq (gv 6) aH)) (aq (cT iI (aq (gv 13) aH)) (aq (cT iI (aq (Ei (KH (gv 14))) aH)) aH))))) fu))))))))
def qD:Y Bx->S Bx:=dJ 15 qC
def qF:Ev->S Ap:=(aF (gM (Xi (Kv (gv 0)) (jh 0) tX (gv 0) (gv 0) [] 1)) fu)
def qG:Y Bx->S Bx:=dJ 1 qF
def vX:Ev->S Ap:=(aF (aF (xZ (D0 (rZ C0 (b2 lY (gv 0) (gv 4)) (gv 1)) (rZ C0 (b2 lY (gv 0) (gv 4)) (gv 2))) (aF (aF (W4 0 (gv 3) (gv 4)) fu) (dG [])) (aF fu (dG []))) fu) (dG [4]))
def qH:Ev->S Ap:=(aF (aF (As 3 (cT IK (aq (gv 1) (aq (gv 2) aH)))) (aF (yI (DJ (cT IV (aq (gv 0) aH))) (jh 4) vX) fu)) (dG [3,4]))
def m5:A1->Y (AY×Dt)->Y Bx->S (Y (AY×Dt)):=Sx 5 qH
def uc:Ev->S Ap:=(aF (aF (Ja 2 2 m5 (aq (b2 lY (gv 2) (gv 4)) (aq (b2 lY (gv 2) (gv 5)) aH))) fu) (dG [3,4,5,6]))
def n6:Ev->S Ap:=(aF (As 2 (bO 1 qG (aq (gv 0) aH))) (aF (rY 1 (pD 4 (bN (jh 3) (bN (jh 4) (bN (jh 5) (bN (jh 6) rD))))) uc) (aF (HJ 2) fu)))
def lO:Y Bx->S Bx:=dJ 7 n6
def oV:Ev->S Ap:=(aF (gM (cT iI (aq (fM (Ss (gv 0)) (jh 2) (rZ C0 (b2 lY (gv 1) (gv 2)) (gv 0)) (gv 2) [1,0] 1) aH))) fu)
def oW:Y Bx->S Bx:=dJ 2 oV
def qI:Ev->S Ap:=(aF (gM (fM (Ss (gv 0)) (jh 1) (rZ C0 (b2 lY (gv 0) (gv 1)) (gv 1)) (b1 wD (bO 2 oW (aq (gv 0) (aq (gv 1) aH)))) [0] 1)) fu)
def qJ:Y Bx->S Bx:=dJ 1 qI
def n8:Ev->S Ap:=(aF (gM (bO 1 qJ (aq (bO 2 lO (aq (gv 0) (aq (gv 1) aH))) aH))) fu)
def jq:Y Bx->S Bx:=dJ 2 n8
def u0:Ev->S Ap:=(aF (gM (bO 2 jq (aq (b2 eF (gv 0) (cB (.int 0))) (aq (b2 eF (gv 0) (cB (.int 1))) aH)))) fu)
def oh:Y Bx->S Bx:=dJ 1 u0
def m7:Ev->S Ap:=(aF (Oz (pD 3 (bN (jh 1) (bN (jh 2) (bN (jh 3) rD)))) (gv 0)) (aF (gM (fM (Kv (bO 1 oh (aq (gv 0) aH))) (jh 2) tX (cT iG (aq (gv 2) (aq (cT iI (aq (fM (Kv (gv 0)) (jh 1) (rZ DS (b2 eF (gv 1) (cB (.int 1))) (gv 0)) (gv 1) [2] 1) aH)) (aq (cT iI (aq (fM (Kv (gv 1)) (jh 1) (Rf (rZ DS (b2 eF (gv 1) (cB (.int 0))) (gv 0)) (rZ DS (b2 eF (gv 1) (cB (.int 1))) (gv 0))) (gv 1) [2] 1) aH)) aH)))) [2,3] 1)) fu))
def ni:Y Bx->S Bx:=dJ 4 m7
def j7:Ev->S Ap:=(aF (aF (Oz (pD 3 (bN (jh 1) (bN (jh 2) (bN (jh 3) rD)))) (gv 0)) (aF (xZ (Rf (tV (gv 3)) (D0 (rZ DO (cT uT (aq (gv 1) aH)) (cB (.int 8))) (rZ DO (cT uT (aq (gv 2) aH)) (cB (.int 12))))) (aF HH fu) fu) fu)) (dG [1,2,3]))
def j8:Y Bx->S Bx:=dJ 4 j7
def mC:Ev->S Ap:=(aF (gM (cT EM (aq (fM (Kv (gv 0)) (jh 0) tX (b2 eF (gv 0) (cB (.int 0))) [] 1) aH))) fu)
def dX:Y Bx->S Bx:=dJ 1 mC
def sS:Ev->S Ap:=(aF (xZ (rZ C0 (b2 eF (gv 0) (cB (.int 1))) (gv 1)) (aF (gM (b2 eF (gv 0) (cB (.int 2)))) fu) fu) (aF (xZ (rZ C0 (b2 eF (gv 0) (cB (.int 2))) (gv 1)) (aF (gM (b2 eF (gv 0) (cB (.int 1)))) fu) fu) (aF (gM (cB .non)) fu)))
def mD:Y Bx->S Bx:=dJ 2 sS
def yX:Ev->S Ap:=(aF (aF (Dd 2 (b2 lY (gv 0) (gv 3))) (aF (As 3 (bO 2 mD (aq (b2 lY (gv 0) (gv 3)) (aq (gv 3) aH)))) fu)) (dG []))
def u5:Ev->S Ap:=(aF (As 2 (cT rC aH)) (aF (As 3 (gv 1)) (aF (Ze (rZ Ib (b2 lY (gv 0) (gv 3)) (cB .non)) yX 70) (aF (HJ 2) fu))))
def u6:Y Bx->S Bx:=dJ 4 u5
def Eu:Ev->S Ap:=(aF (aF (As 7 (bO 2 mD (aq (gv 6) (aq (gv 5) aH)))) (aF (xZ (Rf (rZ Ib (gv 7) (cB .non)) (rZ Zh (gv 7) (gv 3))) (aF (aF (W4 3 (gv 6) (gv 7)) (aF (Dd 4 (gv 7)) fu)) (dG [])) (aF fu (dG []))) fu)) (dG [6,7]))
def Ew:Ev->S Ap:=(aF (aF (ER 5 4 (cB (.int 0))) (aF (rY 0 (jh 6) Eu) fu)) (dG [5,6,7]))
def Bw:Ev->S Ap:=(aF (As 3 (b2 Ng (gv 1) (cB .non))) (aF (As 4 (cT rC (aq (gv 1) aH))) (aF (Ze (tV (gv 4)) Ew 70) (aF (xZ (rZ Zh (gv 2) (gv 3)) (aF (gM (cB .non)) fu) fu) (aF (gM (b2 Zi (bO 2 u6 (aq (gv 3) (aq (gv 2) aH))) (b1 FD (cB (.int 1))))) fu)))))
def BJ:Y Bx->S Bx:=dJ 8 Bw
def vY:Ev->S Ap:=(aF (aF (xZ (rZ C0 (b2 lY (gv 6) (b2 eF (gv 7) (cB (.int 0)))) (b2 lY (gv 6) (b2 eF (gv 7) (cB (.int 1))))) (aF (gM (bO 3 BJ (aq (gv 5) (aq (b2 eF (gv 7) (cB (.int 0))) (aq (b2 eF (gv 7) (cB (.int 1))) aH))))) fu) fu) fu) (dG [7]))
def qK:Ev->S Ap:=(aF (Oz (pD 3 (bN (jh 2) (bN (jh 3) (bN (jh 4) rD)))) (gv 0)) (aF (As 5 (fM (Kv (gv 3)) (jh 1) (rZ VB (gv 1) (gv 0)) (gv 1) [1] 1)) (aF (As 6 (bO 2 lO (aq (gv 2) (aq (gv 5) aH)))) (aF (rY 4 (jh 7) vY) (aF (gM (cB .non)) fu)))))
def nj:Y Bx->S Bx:=dJ 8 qK
def nq(iM:Y Bx->S Bx):Ev->S Ap:=(aF (xZ (rZ GM (bO 1 dX (aq (gv 2) aH)) (gv 3)) (aF (gM (cB .non)) fu) fu) (aF (As 4 (bO 2 nj (aq (gv 0) (aq (gv 2) aH)))) (aF (xZ (rZ DC (gv 4) (cB .non)) (aF (gM (gv 2)) fu) fu) (aF (As 5 (fM (Kv (gv 4)) (jh 1) (rZ VB (gv 1) (gv 0)) (gv 1) [1] 1)) (aF (xZ (Yx (tV (gv 5))) (aF (gM (cB .non)) fu) fu) (aF (As 6 (bO 4 iM (aq (gv 0) (aq (gv 1) (aq (b1 wD (b2 eU (gv 2) (Ut (gv 5) rG (vV (cB (.int 1)))))) (aq (gv 3) aH)))))) (aF (xZ (rZ Ib (gv 6) (cB .non)) (aF (aF (As 3 (bO 1 dX (aq (gv 6) aH))) fu) (dG [])) (aF fu (dG []))) (aF (As 7 (bO 4 iM (aq (gv 0) (aq (b1 wD (b2 eU (gv 1) (Ut (gv 5) rG (vV (cB (.int 1)))))) (aq (gv 2) (aq (gv 3) aH)))))) (aF (gM (b1 wD (FS (rZ DC (gv 7) (cB .non)) (gv 6) (gv 7)))) fu)))))))))
def dB:Nat->Y Bx->S Bx
 |0=>dJ 8 λ_=>Y3
 |n+1=>dJ 8 (nq (dB n))
def iM:Y Bx->S Bx:=dB fuel
def sU:Ev->S Ap:=(aF (Oz (pD 3 (bN (jh 1) (bN (jh 2) (bN (jh 3) rD)))) (gv 0)) (aF (As 4 (bO 4 iM (aq (gv 0) (aq (b1 wD (cT rC aH)) (aq (b1 wD (cT rC aH)) (aq (b1 wD (b2 eU (bO 1 dX (aq (gv 2) aH)) (cB (.int 1)))) aH)))))) (aF (gM (bO 2 jq (aq (gv 1) (aq (b1 wD (fM (Kv (gv 2)) (jh 1) (rZ VB (gv 1) (gv 0)) (gv 1) [4] 1)) aH)))) fu)))
def sV:Y Bx->S Bx:=dJ 5 sU
def u9:Ev->S Ap:=(aF (gM (Qc (IZ (aq (gv 0) aH)) (pD 2 (bN (jh 0) (bN (jh 1) rD))) tX (E8 (DJ (gv 1)) (jh 2) tX (Vb (b2 Bd (gv 2) (gv 0)))) [] 3)) fu)
def ou:Y Bx->S Bx:=dJ 1 u9
def j9:Ev->S Ap:=(aF (As 2 (bO 1 ou (aq (gv 0) aH))) (aF (gM (fM (Kv (gv 1)) (jh 1) (rZ C0 (b2 lY (gv 0) (b2 eF (gv 1) (cB (.int 1)))) (b2 lY (gv 0) (b2 eF (gv 1) (cB (.int 2))))) (gv 1) [2] 1)) fu))
def fZ:Y Bx->S Bx:=dJ 3 j9
def BK:Ev->S Ap:=(aF (aF (Xm (bO 1 j8 (aq (gv 2) aH))) fu) (dG [2]))
def yx:Ev->S Ap:=(aF (As 1 (bO 1 ni (aq (gv 0) aH))) (aF (rY 1 (jh 2) BK) (aF (As 3 (cT uW (aq (Qa (Kv (gv 1)) (jh 0) tX (E8 (DJ (bO 1 sV (aq (gv 0) aH))) (jh 1) tX (Vb (gv 1))) [] 2) aH))) (aF (As 4 (bO 1 dX (aq (b1 wD (bO 2 fZ (aq (gv 3) (aq (b2 eF (gv 0) (cB (.int 1))) aH)))) aH))) (FE 3 (aF (gM (cT iG (aq (gv 3) (aq (gv 4) (aq (b2 Bi (bO 1 dX (aq (b2 eF (gv 0) (cB (.int 1))) aH)) (gv 4)) aH))))) fu))))))
def gO:Y Bx->S Bx:=dJ 5 yx
def jE:Ev->S Ap:=(aF (As 1 (cT uW (aq (fM (Kv (gv 0)) (pD 4 (bN (jh 0) (bN (jh 1) (bN (jh 2) (bN (jh 3) rD))))) tX (cT iG (aq (b2 Bi (cB (.int 0)) (gv 0)) (aq (gv 1) (aq (gv 2) (aq (gv 3) aH))))) [] 4) aH))) (aF (gM (cT iI (aq (fM (Kv (gv 1)) (pD 4 (bN (jh 0) (bN (jh 1) (bN (jh 2) (bN (jh 3) rD))))) tX (cT iG (aq (b2 Bi (cB (.int 0)) (gv 0)) (aq (gv 1) (aq (gv 2) (aq (gv 3) aH))))) [] 4) aH))) fu))
def eV:Y Bx->S Bx:=dJ 2 jE
def vZ:Ev->S Ap:=(aF (aF (xZ (rZ DO (b2 jg (b2 eF (gv 0) (b2 eU (cB (.int 2)) (gv 4))) (cB (.int 3))) (cB (.int 0))) (aF (aF (Dd 3 (cT iG (aq (b1 wD (b2 eU (cB (.int 1)) (b2 jg (b2 eF (gv 0) (cB (.int 1))) (cB (.int 9))))) (aq (b2 eF (gv 2) (gv 4)) (aq (b2 eF (gv 2) (b2 eU (gv 4) (cB (.int 1)))) (aq (gv 4) aH)))))) fu) (dG [])) (aF fu (dG []))) fu) (dG [4]))
def qL:Ev->S Ap:=(aF (As 1 (b2 eU (cB (.int 1)) (b2 jg (b2 eF (gv 0) (cB (.int 0))) (cB (.int 3))))) (aF (As 2 (fM (W3 (aq (gv 1) aH)) (jh 0) tX (b1 wD (b2 eU (cB (.str "zzzzzzz")) (b2 eF (cB (.str "abc")) (gv 0)))) [] 1)) (aF (As 3 (cT rC aH)) (aF (yI (W3 (aq (b2 Bi (gv 1) (cB (.int 1))) aH)) (jh 4) vZ) (aF (As 3 (cT iI (aq (gv 3) aH))) (aF (As 5 (cT rC aH)) (aF (xZ (Rf (rZ C0 (gv 1) (cB (.int 3))) (rZ C0 (b2 jg (b2 eF (gv 0) (cB (.int 4))) (cB (.int 2))) (cB (.int 1)))) (aF (aF (Dd 5 (cT iG (aq (b2 eF (gv 2) (cB (.int 0))) (aq (b2 eF (gv 2) (cB (.int 2))) (aq (cB (.int 0)) aH))))) fu) (dG [])) (aF fu (dG []))) (aF (gM (cT iG (aq (cT iI (aq (gv 2) aH)) (aq (b1 wD (bO 1 eV (aq (gv 3) aH))) (aq (cT iI (aq (gv 5) aH)) aH))))) fu))))))))
def qM:Y Bx->S Bx:=dJ 6 qL
def nu:Ev->S Ap:=(aF (As 4 (cT iI (aq (cT Jt (aq (b2 eU (b2 eF (gv 0) (cB (.int 0))) (b2 eF (gv 1) (cB (.int 0)))) aH)) aH))) (aF (As 5 (Ei (KH (b2 eU (b2 eU (b2 eF (gv 0) (cB (.int 2))) (b2 eF (gv 1) (cB (.int 2)))) (gv 3))))) (aF (gM (cT iG (aq (gv 4) (aq (b1 wD (bO 1 eV (aq (b1 wD (b2 eU (b2 eU (b2 eF (gv 0) (cB (.int 1))) (b2 eF (gv 1) (cB (.int 1)))) (gv 2))) aH))) (aq (cT iI (aq (gv 5) aH)) aH))))) fu)))
def jR:Y Bx->S Bx:=dJ 6 nu
def jr:Ev->S Ap:=(aF (As 3 (bO 1 qM (aq (gv 2) aH))) (aF (As 4 (bO 1 gO (aq (gv 3) aH))) (aF (As 5 (b2 eF (b2 eF (gv 0) (cB (.int 0))) (b2 jg (b2 eF (gv 2) (cB (.int 5))) (cT uT (aq (b2 eF (gv 0) (cB (.int 0))) aH))))) (aF (As 6 (b2 eF (b2 eF (gv 3) (cB (.int 0))) (b2 jg (b2 eF (gv 2) (cB (.int 6))) (cT uT (aq (b2 eF (gv 3) (cB (.int 0))) aH))))) (aF (As 7 (b2 S8 (cT iG (aq (cT iG (aq (gv 5) (aq (gv 6) (aq (cB (.int 3)) aH)))) aH)) (b2 jg (b2 eF (gv 2) (cB (.int 7))) (cB (.int 2))))) (aF (As 8 (bO 1 gO (aq (b1 wD (bO 4 jR (aq (gv 0) (aq (gv 3) (aq (cT iG aH) (aq (gv 7) aH)))))) aH))) (aF (xZ (rZ W0 (Ut (gv 8) (vV (cB (.int 1))) rG) (cT iG (aq (b1 wD (b2 eU (b2 eF (gv 1) (cB (.int 1))) (b2 eF (gv 4) (cB (.int 1))))) (aq (b1 wD (b2 eU (b2 eF (gv 1) (cB (.int 2))) (b2 eF (gv 4) (cB (.int 2))))) aH)))) (aF (gM (cB (.bl false))) fu) fu) (aF (As 9 (b2 eU (cB (.int 1)) (b2 jg (b2 eF (gv 2) (cB (.int 7))) (cB (.int 9))))) (aF (xZ (rZ DO (b2 eU (cT uT (aq (b2 eF (gv 0) (cB (.int 0))) aH)) (cT uT (aq (b2 eF (gv 3) (cB (.int 0))) aH))) (cB (.int 8))) (aF (gM (cB (.bl true))) fu) fu) (aF (As 10 (b2 eF (bO 1 gO (aq (b1 wD (bO 4 jR (aq (gv 0) (aq (gv 3) (aq (cT iG (aq (cT iG (aq (gv 9) (aq (gv 5) (aq (gv 6) (aq (cB (.int 9)) aH))))) aH)) (aq (cT iG aH) aH)))))) aH)) (cB (.int 1)))) (aF (gM (EX FC FC (b2 eU (b2 eF (gv 1) (cB (.int 1))) (b2 eF (gv 4) (cB (.int 1)))) (gv 10) (b2 eU (b2 eU (b2 eF (gv 1) (cB (.int 1))) (b2 eF (gv 4) (cB (.int 1)))) (gv 9)))) fu)))))))))))
def jt:Y Bx->S Bx:=dJ 11 jr
def wg:Ev->S Ap:=(aF (aF (Oz (pD 4 (bN (jh 4) (bN (jh 5) (bN (jh 6) (bN (jh 7) rD))))) (b2 eF (gv 0) (gv 3))) (aF (As 8 (b2 jg (b2 Mv (b2 eU (gv 4) (gv 1)) (cB (.int 2))) (gv 4))) (aF (xZ (rZ DO (gv 8) (cB (.int 0))) (aF (aF (Dd 2 (cT iG (aq (gv 8) (aq (gv 5) (aq (gv 6) (aq (b2 yH (cB (.int 2)) (gv 3)) aH)))))) fu) (dG [])) (aF fu (dG []))) (aF (Dd 2 (cT iG (aq (b2 Bi (gv 4) (gv 8)) (aq (gv 5) (aq (gv 6) (aq (b1 wD (b2 eU (b2 yH (cB (.int 2)) (gv 3)) (cB (.int 1)))) aH)))))) fu)))) (dG [3,4,5,6,7,8]))
def qN:Ev->S Ap:=(aF (As 2 (cT rC aH)) (aF (yI (W3 (aq (cT uT (aq (gv 0) aH)) aH)) (jh 3) wg) (aF (gM (bO 1 eV (aq (gv 2) aH))) fu)))
def qO:Y Bx->S Bx:=dJ 9 qN
def yZ:Ev->S Ap:=(aF (aF (xZ (tV (cT CS (aq (fM (Kv (gv 1)) (jh 1) tX (FF (b2 DS (b2 eF (gv 0) (cB (.int 1))) (gv 1)) (b2 DS (b2 eF (gv 0) (cB (.int 2))) (gv 1))) [3] 1) aH))) (aF (aF (Dd 2 (gv 3)) fu) (dG [])) (aF fu (dG []))) fu) (dG [3]))
def vA:Ev->S Ap:=(aF (As 2 (cT rC aH)) (aF (rY 0 (jh 3) yZ) (aF (gM (cT iI (aq (gv 2) aH))) fu)))
def vB:Y Bx->S Bx:=dJ 4 vA
def oX:Ev->S Ap:=(aF (As 2 (bO 1 ou (aq (gv 0) aH))) (aF (gM (fM (Kv (gv 1)) (jh 1) (rZ C0 (b2 lY (gv 0) (b2 eF (gv 1) (cB (.int 0)))) (b2 lY (gv 0) (b2 eF (gv 1) (cB (.int 1))))) (gv 1) [2] 1)) fu))
def oY:Y Bx->S Bx:=dJ 3 oX
def yC:Ev->S Ap:=(aF (Oz (pD 3 (bN (jh 2) (bN (jh 3) (bN (jh 4) rD)))) (gv 0)) (aF (As 5 (bO 2 fZ (aq (gv 1) (aq (gv 3) aH)))) (aF (gM (FF (FV (bO 2 oY (aq (gv 1) (aq (gv 4) aH)))) (b2 C0 (bO 2 jq (aq (gv 2) (aq (gv 5) aH))) (cT uW (aq (gv 1) aH))))) fu)))
def yD:Y Bx->S Bx:=dJ 6 yC
def XQ:Ev->S Ap:=(aF (As 1 (bO 2 fP (aq (b1 wD (bO 2 jQ (aq (gv 0) (aq (cB (.int 0)) aH)))) (aq (cB (.int 20)) aH)))) (aF (As 2 (bO 5 qD (aq (gv 0) (aq (cB (.int 0)) (aq (b1 wD (b2 eU (cB (.int 2)) (b2 jg (b2 eF (gv 1) (cB (.int 6))) (cB (.int 6))))) (aq (b2 jg (b2 eF (gv 1) (cB (.int 7))) (cB (.int 10))) (aq (b2 jg (b2 eF (gv 1) (cB (.int 8))) (cB (.int 5))) aH))))))) (aF (Oz (pD 3 (bN (jh 3) (bN (jh 4) (bN (jh 5) rD)))) (gv 2)) (aF (As 6 (bO 1 gO (aq (gv 2) aH))) (aF (xZ (Yx (tV (bO 3 jt (aq (gv 2) (aq (gv 6) (aq (b1 wD (Ut (gv 1) (vV (cB (.int 9))) rG)) aH)))))) (aF (gM (cB (.bl false))) fu) fu) (aF (xZ (rZ FC (cT uT (aq (gv 4) aH)) (cB (.int 6))) (aF (As 7 (bO 2 qO (aq (gv 4) (aq (b2 eF (gv 1) (cB (.int 17))) aH)))) (aF (xZ (rZ W0 (Ut (bO 1 gO (aq (cT iG (aq (gv 3) (aq (gv 7) (aq (gv 5) aH)))) aH)) (vV (cB (.int 1))) rG) (Ut (gv 6) (vV (cB (.int 1))) rG)) (aF (gM (cB (.bl false))) fu) fu) fu)) fu) (aF (As 8 (bO 2 vB (aq (gv 4) (aq (b2 eF (gv 6) (cB (.int 0))) aH)))) (aF (As 9 (bO 1 gO (aq (cT iG (aq (gv 3) (aq (gv 8) (aq (gv 5) aH)))) aH))) (aF (xZ (rZ W0 (gv 9) (cT iG (aq (b2 eF (gv 6) (cB (.int 0))) (aq (b2 eF (gv 6) (cB (.int 1))) (aq (cB (.int 0)) aH))))) (aF (gM (cB (.bl false))) fu) fu) (aF (xZ (Yx (tV (bO 2 yD (aq (cT iG (aq (gv 3) (aq (gv 8) (aq (gv 5) aH)))) (aq (b2 eF (gv 6) (cB (.int 0))) aH))))) (aF (gM (cB (.bl false))) fu) fu) (aF (As 10 (bO 1 gO (aq (cT iG (aq (gv 3) (aq (gv 4) (aq (cT iG aH) aH)))) aH))) (aF (xZ (D0 (rZ W0 (b2 eF (gv 10) (cB (.int 0))) (bO 1 oh (aq (gv 2) aH))) (D0 (rZ W0 (b2 eF (gv 10) (cB (.int 2))) (cB (.int 0))) (rZ W0 (b2 eF (gv 10) (cB (.int 1))) (b2 eU (b2 eF (gv 6) (cB (.int 1))) (b2 eF (gv 6) (cB (.int 2))))))) (aF (gM (cB (.bl false))) fu) fu) (aF (gM (b2 C0 (bO 1 gO (aq (cT iG (aq (gv 3) (aq (cT iG aH) (aq (gv 5) aH)))) aH)) (cT iG (aq (b1 wD (fM (Kv (gv 3)) (jh 0) tX (cT iG (aq (gv 0) aH)) [] 1)) (aq (cB (.int 0)) (aq (cB (.int 0)) aH)))))) fu)))))))))))))
def F_law:Y Bx->S Bx:=dJ 11 XQ
end
end G34
end
section
set_option synthInstance.maxSize 100000
namespace G34
open L2 P1
structure T (K:B4) (mg:Str->Option Value) where
 jT:DQ K mg "_law_cell" Jw ["_law_script","_law_k"]
 fQ:DQ K mg "_law_numbers" yR ["_law_cell_here","_law_many"]
 sW:DQ K mg "_law_names" Ep ["_law_xs","_law_many"]
 qP:DQ K mg "_law_ground" Bo ["_law_script","_law_at","_law_many","_law_reasons","_law_bars"]
 qQ:DQ K mg "lone_heads" Bp ["names"]
 gU:DQ K mg "join_heads" Bq ["heads","one","other"]
 oA:DQ K mg "heads_by" Jx ["names","reasons"]
 oZ:DQ K mg "names_under" yS ["heads","head"]
 qR:DQ K mg "sets_under" Br ["heads"]
 jU:DQ K mg "parts_by" Jy ["names","reasons"]
 oF:DQ K mg "parts_of" Jz ["ground"]
 nA:DQ K mg "part_grounds" xO ["ground"]
 kh:DQ K mg "refuse_no_room" uH ["own"]
 cQ:DQ K mg "weight_of" Er ["reasons"]
 mF:DQ K mg "other_end" Es ["reason","name"]
 vC:DQ K mg "way_back" JB ["came_by","end"]
 BL:DQ K mg "way_by" Td ["reasons","start","end"]
 gW:DQ K mg "barred_way" Bt ["own","cut"]
 cI:DQ K mg "lightest_cut" xP ["own","held","cut","limit"]
 sX:DQ K mg "best_sets" Et ["own"]
 oG:DQ K mg "homes_of" JC ["sets"]
 f9:DQ K mg "reasons_within" uI ["sets","reasons"]
 gP:DQ K mg "best_of" Nu ["ground"]
 fU:DQ K mg "_law_ordered" yU ["_law_reasons"]
 qT:DQ K mg "_law_beside" Bu ["_law_xs"]
 jV:DQ K mg "_law_together" xQ ["_law_one","_law_other","_law_more","_law_bars"]
 ju:DQ K mg "_law_beside_right" rK ["_law_ground_here","_law_told","_law_xs"]
 qU:DQ K mg "_law_in_two" Bv ["_law_reasons","_law_x"]
 vD:DQ K mg "_law_left" JD ["_law_reasons","_law_sets"]
 o7:DQ K mg "bars_within" yV ["sets","bars"]
 yE:DQ K mg "is_good" Nv ["ground","sets"]
 x_law:DQ K mg "law" s_law ["_law_script"]
 aj4:mg "abs"=none
 aj5:mg "any"=none
 Te:mg "enumerate"=none
 aj6:mg "int"=none
 zc:mg "len"=none
 ah9:mg "list"=none
 Nx:mg "max"=none
 acg:mg "min"=none
 sY:mg "range"=none
 ach:mg "set"=none
 pK:mg "sorted"=none
 aj7:mg "sum"=none
 kj:mg "tuple"=none
 JF:∃tk,mg "MOST_REASONS"=some (.int 12 tk)
 Tf:∃tk,mg "MOST_ROWS"=some (.int 8 tk)
section
variable(t:T K mg)
theorem Ti:bI ["_law_script","_law_k","_law_state","_law_cell_here"] ["_law_script","_law_k"] (aQ Jw):=lA
theorem Tj:Ok P w base t.jT 1 2 jQ:=zX (g:=uZ) t.jT Ti λ_ _ _ _ _ _ b a nd=>(au (iw (bY NM (ak 1) (cG tW Y2 t.zc tO (aj (ak 0) aA)) (cN _)) (au (cH (aW (ak 0) (ak 1))) aK) aK) (au (aY 2 nd (aV cV (aV tM aB (aV bZ (aV bZ (aV tM (ak 1) (ak 1)) (aV tM aB (ak 1))) aB)) aB)) (au (wJ PassesOwn.never Y2 (Gx (Am (ak 0) mL (mO aB))) (aP 3 nd) (bx [3] (au (aY 2 nd (aV cV (aV bZ (aV tM (ak 2) aB) (ak 3)) aB)) aK))) (au (cH (ak 2)) aK))))
theorem JG:bI ["_law_cell_here","_law_many","_law_found","_law_state","_law_digits","_law_k"] ["_law_cell_here","_law_many"] (aQ yR):=lA
theorem JH:Ok P w base t.fQ 1 2 fP:=zX (g:=oU) t.fQ JG λ_ _ _ _ _ _ b a nd=>(au (aY 2 nd (kZ aA)) (au (aY 3 nd (aV cV (aV tM (aV bZ (aV cV (ak 0) aB) aB) aB) aB)) (au (aY 4 nd aB) (au (iw (Rh (Hz (bY NM (ak 0) aB (cN _)) (Gu (bY N3 (ak 0) (aV RI aB aB) (cN _))))) (bx [] (au (aY 4 nd (cG WI Y2 t.aj4 i7 (aj (ak 0) aA))) aK)) (bx [] aK)) (au (wJ PassesOwn.never Y2 (pF Y2 t.sY (aj (ak 1) aA)) (aP 5 nd) (bx [5] (au (aY 3 nd (aV cV (aV bZ (aV bZ (aV tM (ak 3) (aV bZ (aV cV (ak 3) aB) aB)) (aV tM aB (ak 5))) aB) aB)) (au (rE 2 (aW (kZ (aj (ak 3) (aj (aV cV (ak 4) aB) aA))) (d8 RE Y2 t.aj6 f' (aj (Hw Mw (ak 4) aB (cN _)) aA)))) (au (aY 4 nd (aV GK (ak 4) aB)) aK))))) (au (Gw 2) aK))))))
theorem Qe:bI ["_law_xs","_law_many","_law_letters","_law_stem","_law_at","_law_found","_law_k","_law_mark","_law_name"] ["_law_xs","_law_many"] (aQ Ep):=lA
theorem Qf:Ok P w base t.sW 1 2 pJ:=zX (g:=sO) t.sW Qe λ_ _ _ _ _ _ b a nd=>(au (aY 2 nd Vi) (au (aY 3 nd (UQ (lH ["_law_k"] (tY ["_law_letters","_law_xs"] [2,0]) Y2 (NE (pF Y2 t.sY (aj (aV cV (aW (ak 0) aB) aB) aA))) (λ_ _ _ _=>(aP 2 (by show List.Nodup (_++_);decide +kernel))) (λ_ _ _ _=>dR) (λ_ _ _ _=>(aW (ak 0) (aV cV (aV GK (aW (ak 1) (ak 2)) aB) aB))) (cj)))) (au (aY 4 nd (aV cV (aW (ak 0) aB) (aV bZ (cG tW Y2 t.zc tO (aj (ak 3) aA)) aB))) (au (aY 5 nd (kZ aA)) (au (wJ PassesOwn.never Y2 (pF Y2 t.sY (aj (ak 1) aA)) (aP 6 nd) (bx [6,7,8] (au (aY 7 nd (aW (ak 2) (aV cV (aV bZ (ak 6) (aW (ak 0) aB)) aB))) (au (aY 8 nd (aV bZ (aV bZ (Am (ak 3) mL (mO (ak 4))) (ak 7)) (Am (ak 3) (mO (ak 4)) mL))) (au (iw (bY (of_eq a) (aV cV (aW (ak 0) aB) aB) aB (cN _)) (bx [] (au (aY 8 nd (aV tM (aW (ak 2) (aV GK (ak 6) aB)) (aV bZ aB (aV cV (ak 6) aB)))) aK)) (bx [] aK)) (au (rE 5 (ak 8)) aK)))))) (au (Gw 5) aK))))))
theorem KQ:bI ["_law_script","_law_at","_law_many","_law_reasons","_law_bars","_law_head","_law_names_here","_law_told","_law_k","_law_xs","_law_a","_law_b","_law_weight","_law_found","_law_shut"] ["_law_script","_law_at","_law_many","_law_reasons","_law_bars"] (aQ Bo):=lA
theorem KR(d:Ok P w base t.jT 1 2 jQ)(e:Ok P w base t.sW 1 2 pJ)(c:Ok P w base t.fQ 1 2 fP):Ok P w base t.qP 2 5 qD:=zX (g:=qC) t.qP KQ λ_ _ _ _ _ _ a b nd=>(au (aY 5 nd (cL t.fQ c a (aj (gn (cL t.jT d a (aj (ak 0) (aj (ak 1) aA)))) (aj aB aA)))) (au (aY 6 nd (cG YJ Y2 t.pK uz (aj (cL t.sW e a (aj (ak 5) (aj (ak 2) aA))) aA))) (au (aY 7 nd (kZ aA)) (au (wJ PassesOwn.never Y2 (pF Y2 t.sY (aj (ak 3) aA)) (aP 8 nd) (bx [8,9,10,11,12] (au (aY 9 nd (cL t.fQ c a (aj (gn (cL t.jT d a (aj (ak 0) (aj (gn (aV bZ (aV bZ (ak 1) aB) (ak 8))) aA)))) (aj aB aA)))) (au (OR 10 11 Y2 nd (aj (aV cV (aW (ak 9) aB) (cG (Dg Y2) Y2 t.Nx Dc (aj aB (aj (ak 2) aA)))) (aj (aV cV (aW (ak 9) aB) (cG (Dg Y2) Y2 t.Nx Dc (aj aB (aj (ak 2) aA)))) aA))) (au (aY 12 nd (aW (kZ (aj (gn (aV bZ aB (aV cV (aW (ak 9) aB) aB))) (aj (gn (aV bZ aB (aV cV (aW (ak 9) aB) aB))) (aj (gn (aV bZ aB (aV cV (aW (ak 9) aB) aB))) aA)))) (aV cV (aW (ak 5) aB) aB))) (au (iw (bY (DY b) (ak 10) (ak 11) (cN _)) (bx [] (au (rE 7 (dI (aj (aV zy aB (ak 12)) (aj (aW (ak 6) (cG (OF Y2) Y2 t.acg Vf (aj (ak 10) (aj (ak 11) aA)))) (aj (aW (ak 6) (cG (Dg Y2) Y2 t.Nx Dc (aj (ak 10) (aj (ak 11) aA)))) (aj (aW (kZ (aj aB (aj aB (aj aB aA)))) (aV cV (aW (ak 9) aB) aB)) aA)))))) aK)) (bx [] aK)) aK)))))) (au (Gz 13 ["_law_weight","_law_a","_law_b","_law_k"] (tY [] []) Y2 nd (iD (Pr Y2 Y2 t.pK (Pq Y2 b Y2 t.ach (ak 7)))) (λ_ _ _ _=>(pY Y2 (bw (aP 0 (by show List.Nodup (_++_);decide +kernel)) (bw (aP 1 (by show List.Nodup (_++_);decide +kernel)) (bw (aP 2 (by show List.Nodup (_++_);decide +kernel)) (bw (aP 3 (by show List.Nodup (_++_);decide +kernel)) lG)))))) (λ_ _ _ _=>dR) (λ_ _ _ _=>(dI (aj (aV zy aB (ak 0)) (aj (ak 1) (aj (ak 2) (aj (ak 3) aA)))))) (Ot (gR (cj) (gR (cj) (gR (cj) (gR (cj) Gy)))))) (au (aY 14 nd (kZ aA)) (au (wJ PassesOwn.never Y2 (pF Y2 t.sY (aj (ak 4) aA)) (aP 8 nd) (bx [8,9,10,11] (au (aY 9 nd (cL t.fQ c a (aj (gn (cL t.jT d a (aj (ak 0) (aj (gn (aV bZ (aV bZ (ak 1) aB) (ak 8))) aA)))) (aj aB aA)))) (au (OR 10 11 Y2 nd (aj (aV cV (aW (ak 9) aB) (cG (Dg Y2) Y2 t.Nx Dc (aj aB (aj (ak 2) aA)))) (aj (aV cV (aW (ak 9) aB) (cG (Dg Y2) Y2 t.Nx Dc (aj aB (aj (ak 2) aA)))) aA))) (au (iw (bY (DY b) (ak 10) (ak 11) (cN _)) (bx [] (au (rE 14 (dI (aj (aW (ak 6) (cG (OF Y2) Y2 t.acg Vf (aj (ak 10) (aj (ak 11) aA)))) (aj (aW (ak 6) (cG (Dg Y2) Y2 t.Nx Dc (aj (ak 10) (aj (ak 11) aA)))) (aj (aW (kZ (aj aB (aj aB aA))) (aV cV (aW (ak 9) aB) aB)) aA))))) aK)) (bx [] aK)) aK))))) (au (cH (dI (aj (d8 iJ Y2 t.kj iH (aj (ak 6) aA)) (aj (d8 iJ Y2 t.kj iH (aj (ak 13) aA)) (aj (d8 iJ Y2 t.kj iH (aj (Pr Y2 Y2 t.pK (Pq Y2 b Y2 t.ach (ak 14))) aA)) aA))))) aK))))))))
theorem KY:bI ["names"] ["names"] (aQ Bp):=lA
theorem KZ:Ok P w base t.qQ 1 1 qG:=zX (g:=qF) t.qQ KY λ_ _ _ _ _ _ b a nd=>(au (cH (cE a ["name"] (tY [] []) Y2 (iD (ak 0)) (λ_ _ _ _=>(aP 0 (by show List.Nodup (_++_);decide +kernel))) (λ_ _ _ _=>dR) (λ_ _ _ _=>(ak 0)) (λ_ _ _ _=>(ak 0)) (cj))) aK)
theorem zf:bI ["heads","one","other","head","name"] ["heads","one","other"] (aQ Bq):=lA
theorem K1:uP P w K mg base Kq 1 t.gU.f t.gU.fd ["heads","one","other"] (FR K 2 m5):=by
 unfold m5;refine UU (k:=0) (g:=qH) t.gU.F zf Y2 Y2 λc A outer s H E b=>?_;have a:=OD b;have nd:=zf.nd;exact(bx [3,4] (au (aY 3 nd (cG (gf Y2) Y2 t.acg Vf (aj (ak 1) (aj (ak 2) aA)))) (au (wJ PassesOwn.never Y2 (Gx (d8 (aw Y2) Y2 t.ah9 bp (aj (ak 0) aA))) (aP 4 nd) (bx [4] (au (iw (Rh (Hz (bY (of_eq a) (jl a (ak 0) (ak 4)) (ak 1) (cN _)) (Gu (bY (of_eq a) (jl a (ak 0) (ak 4)) (ak 2) (cN _))))) (bx [] (au (W5 0 a (ak 3) (ak 4)) aK)) (bx [] aK)) aK))) aK)))
theorem Tn:bI ["names","reasons","heads","weight","one","other","number"] ["names","reasons"] (aQ Jx):=lA
theorem Tp(d:uP P w K mg base Kq 1 t.gU.f t.gU.fd ["heads","one","other"] (FR K 2 m5))(e:Ok P w base t.qQ 1 1 qG):Ok P w base t.oA 2 2 lO:=zX (g:=n6) t.oA Tn λ_ _ _ _ _ _ c a nd=>(au (aY 2 nd (cL t.qQ e c (aj (ak 0) aA))) (au (Ae 1 PassesOwn.never Y2 (pY Y2 (bw (aP 3 nd) (bw (aP 4 nd) (bw (aP 5 nd) (bw (aP 6 nd) lG))))) (bx [3,4,5,6] (au (eW 2 d (c.mono (by decide)) Y2 t.gU.m t.gU.k t.gU.b (aj (jl a (ak 2) (ak 4)) (aj (jl a (ak 2) (ak 5)) aA))) aK))) (au (Gw 2) aK)))
theorem JK:bI ["heads","head"] ["heads","head"] (aQ yS):=lA
theorem JL:Ok P w base t.oZ 1 2 oW:=zX (g:=oV) t.oZ JK λ_ _ _ _ _ _ b a nd=>(au (cH (d8 iJ Y2 t.kj iH (aj (Sv ["name"] (tY ["head","heads"] [1,0]) Y2 (ak 0) (λ_ _ _ _=>(aP 2 (by show List.Nodup (_++_);decide +kernel))) (λ_ _ _ _=>(ji (bY (of_eq a) (jl a (ak 1) (ak 2)) (ak 0) (cN _)))) (λ_ _ _ _=>(ak 2)) (cj)) aA))) aK)
theorem K3:bI ["heads"] ["heads"] (aQ Br):=lA
theorem K4(b:Ok P w base t.oZ 1 2 oW):Ok P w base t.qR 2 1 qJ:=zX (g:=qI) t.qR K3 λ_ _ _ _ _ _ c a nd=>(au (cH (Sv ["name"] (tY ["heads"] [0]) Y2 (ak 0) (λ_ _ _ _=>(aP 1 (by show List.Nodup (_++_);decide +kernel))) (λ_ _ _ _=>(ji (bY (of_eq a) (jl a (ak 0) (ak 1)) (ak 1) (cN _)))) (λ_ _ _ _=>(gn (cL t.oZ b c (aj (ak 0) (aj (ak 1) aA))))) (cj))) aK)
theorem Tq:bI ["names","reasons"] ["names","reasons"] (aQ Jy):=lA
theorem Tt(b:Ok P w base t.oA 2 2 lO)(c:Ok P w base t.qR 2 1 qJ):Ok P w base t.jU 3 2 jq:=zX (g:=n8) t.jU Tq λ_ _ _ _ _ _ a d nd=>(au (cH (cL t.qR c a (aj (cL t.oA b a (aj (ak 0) (aj (ak 1) aA))) aA))) aK)
theorem Tv:bI ["ground"] ["ground"] (aQ Jz):=lA
theorem Tw(b:Ok P w base t.jU 3 2 jq):Ok P w base t.oF 4 1 oh:=zX (g:=u0) t.oF Tv λ_ _ _ _ _ _ a c nd=>(au (cH (cL t.jU b a (aj (aW (ak 0) aB) (aj (aW (ak 0) aB) aA)))) aK)
theorem Fw:bI ["ground","names","reasons","bars"] ["ground"] (aQ xO):=lA
theorem Fy(a:Ok P w base t.oF 4 1 oh):Ok P w base t.nA 5 1 ni:=zX (g:=m7) t.nA Fw λ_ _ _ _ _ _ b c nd=>(au (zu (ak 0) (pY Y2 (bw (aP 1 nd) (bw (aP 2 nd) (bw (aP 3 nd) lG))))) (au (cH (lH ["part"] (tY ["reasons","bars"] [2,3]) Y2 (iD (cL t.oF a b (aj (ak 0) aA))) (λ_ _ _ _=>(aP 2 (by show List.Nodup (_++_);decide +kernel))) (λ_ _ _ _=>dR) (λ_ _ _ _=>(dI (aj (ak 2) (aj (d8 iJ Y2 t.kj iH (aj (lH ["reason"] (tY ["part"] [2]) Y2 (iD (ak 0)) (λ_ _ _ _=>(aP 1 (by show List.Nodup (_++_);decide +kernel))) (λ_ _ _ _=>(ji (bY Ry (aW (ak 1) aB) (ak 0) (by with_unfolding_all rfl)))) (λ_ _ _ _=>(ak 1)) (cj)) aA)) (aj (d8 iJ Y2 t.kj iH (aj (lH ["bar"] (tY ["part"] [2]) Y2 (iD (ak 1)) (λ_ _ _ _=>(aP 1 (by show List.Nodup (_++_);decide +kernel))) (λ_ _ _ _=>(ji (Rh (Gv (bY Ry (aW (ak 1) aB) (ak 0) (by with_unfolding_all rfl)) (Ab (bY Ry (aW (ak 1) aB) (ak 0) (by with_unfolding_all rfl))))))) (λ_ _ _ _=>(ak 1)) (cj)) aA)) aA))))) (cj))) aK))
theorem BP:bI ["own","names","reasons","bars"] ["own"] (aQ uH):=lA
theorem BR:Ok P w base t.kh 1 1 j8:=zX (g:=j7) t.kh BP λ_ _ _ _ _ _ e f nd=>by
 obtain⟨d,a⟩:=t.JF;obtain⟨c,b⟩:=t.Tf;exact(bx [1,2,3] (au (zu (ak 0) (pY Y2 (bw (aP 1 nd) (bw (aP 2 nd) (bw (aP 3 nd) lG))))) (au (iw (Rh (Gv (CQ (ak 3)) (Ab (Rh (Hz (bY Mw (cG tW Y2 t.zc tO (aj (ak 1) aA)) (Rc Y2 b) (cN _)) (Gu (bY Mw (cG tW Y2 t.zc tO (aj (ak 2) aA)) (Rc Y2 a) (cN _)))))))) (au bX aK) aK) aK)))
theorem Qg:bI ["reasons"] ["reasons"] (aQ Er):=lA
theorem Qh:Ok P w base t.cQ 1 1 dX:=zX (g:=mC) t.cQ Qg λ_ _ _ _ _ _ b a nd=>(au (cH (cG (VU Y2) Y2 t.aj7 VE (aj (lH ["reason"] (tY [] []) Y2 (iD (ak 0)) (λ_ _ _ _=>(aP 0 (by show List.Nodup (_++_);decide +kernel))) (λ_ _ _ _=>dR) (λ_ _ _ _=>(aW (ak 0) aB)) (cj)) aA))) aK)
theorem Qi:bI ["reason","name"] ["reason","name"] (aQ Es):=lA
theorem Qj:Ok P w base t.mF 1 2 mD:=zX (g:=sS) t.mF Qi λ_ _ _ _ _ _ b a nd=>(au (iw (bY (of_eq a) (aW (ak 0) aB) (ak 1) (cN _)) (au (cH (aW (ak 0) aB)) aK) aK) (au (iw (bY (of_eq a) (aW (ak 0) aB) (ak 1) (cN _)) (au (cH (aW (ak 0) aB)) aK) aK) (au (cH rB) aK)))
theorem TF:bI ["came_by","end","way","here"] ["came_by","end"] (aQ JB):=lA
theorem TJ(b:Ok P w base t.mF 1 2 mD):Ok P w base t.vC 2 2 u6:=zX (g:=u5) t.vC TF λ_ _ _ _ _ _ c a nd=>(au (aY 2 nd (kZ aA)) (au (aY 3 nd (ak 1)) (au (Sy 70 PassesOwn.never (bY Ox (jl a (ak 0) (ak 3)) rB (cN _)) (bx [] (au (rE 2 (jl a (ak 0) (ak 3))) (au (aY 3 nd (cL t.mF b c (aj (jl a (ak 0) (ak 3)) (aj (ak 3) aA)))) aK)))) (au (Gw 2) aK))))
theorem Zt:bI ["reasons","start","end","came_by","reached","here","reason","there"] ["reasons","start","end"] (aQ Td):=lA
theorem Zu(c:Ok P w base t.mF 1 2 mD)(d:Ok P w base t.vC 2 2 u6):Ok P w base t.BL 3 3 BJ:=zX (g:=Bw) t.BL Zt λ_ _ _ _ _ _ b a nd=>(au (aY 3 nd (U2 (ak 1) rB)) (au (aY 4 nd (kZ (aj (ak 1) aA))) (au (Sy 70 PassesOwn.never (CQ (ak 4)) (bx [5,6,7] (au (SZ 5 4 nd aB) (au (Ae 0 PassesOwn.never Y2 (aP 6 nd) (bx [6,7] (au (aY 7 nd (cL t.mF c b (aj (ak 6) (aj (ak 5) aA)))) (au (iw (Rh (Gv (bY Ox (ak 7) rB (cN _)) (Ab (bY (Xn a) (ak 7) (ak 3) (by with_unfolding_all rfl))))) (bx [] (au (W5 3 a (ak 6) (ak 7)) (au (rE 4 (ak 7)) aK))) (bx [] aK)) aK)))) aK)))) (au (iw (bY (Xn a) (ak 2) (ak 3) (by with_unfolding_all rfl)) (au (cH rB) aK) aK) (au (cH (aer (cL t.vC d b (aj (ak 3) (aj (ak 2) aA))) (im WZ aB))) aK)))))
theorem K5:bI ["own","cut","names","reasons","bars","left","heads","bar"] ["own","cut"] (aQ Bt):=lA
theorem K6(c:Ok P w base t.oA 2 2 lO)(d:Ok P w base t.BL 3 3 BJ):Ok P w base t.gW 4 2 nj:=zX (g:=qK) t.gW K5 λ_ _ _ _ _ _ b a nd=>(au (zu (ak 0) (pY Y2 (bw (aP 2 nd) (bw (aP 3 nd) (bw (aP 4 nd) lG))))) (au (Gz 5 ["reason"] (tY ["cut"] [1]) Y2 nd (iD (ak 3)) (λ_ _ _ _=>(aP 1 (by show List.Nodup (_++_);decide +kernel))) (λ_ _ _ _=>(ji (bY (Pu a) (ak 1) (ak 0) (by with_unfolding_all rfl)))) (λ_ _ _ _=>(ak 1)) (cj)) (au (aY 6 nd (cL t.oA c b (aj (ak 2) (aj (ak 5) aA)))) (au (Ae 4 PassesOwn.never Y2 (aP 7 nd) (bx [7] (au (iw (bY (of_eq a) (jl a (ak 6) (aW (ak 7) aB)) (jl a (ak 6) (aW (ak 7) aB)) (cN _)) (au (cH (cL t.BL d b (aj (ak 5) (aj (aW (ak 7) aB) (aj (aW (ak 7) aB) aA))))) aK) aK) aK))) (au (cH rB) aK)))))
theorem qb:bI ["own","held","cut","limit","way","choices","with_cut","with_held"] ["own","held","cut","limit"] (aQ xP):=lA
theorem uJ(d:uP P w K mg base Kq 4 t.gW.f t.gW.fd ["own","cut"] (Cf K 2 nj))(c:uP P w K mg base Kq 1 t.cQ.f t.cQ.fd ["reasons"] (Cf K 1 dX)):∀n:Nat,uP P w K mg base Kq (n+5) t.cI.f t.cI.fd ["own","held","cut","limit"] (Cf K 4 (dB n))
 |0=>O3 (k:=0+4) (g:=λ_=>Y3) t.cI.F qb Y2 Y2 λh A outer s H E a=>Sm
 |n+1=>by
  have e:=uJ d c n;rw[show n+1+5=(n+5)+1 by omega];refine L3 (k:=n+5) (g:=nq (dB n)) t.cI.F qb Y2 Y2 λh A outer s H E a=>?_;have i:=OD a;have nd:=qb.nd;exact(au (iw (bY N3 (yg c (a.mono (by omega)) Y2 t.cQ.m t.cQ.k t.cQ.b (aj (ak 2) aA)) (ak 3) (cN _)) (au (cH rB) aK) aK) (au (aY 4 nd (yg d (a.mono (by omega)) Y2 t.gW.m t.gW.k t.gW.b (aj (ak 0) (aj (ak 2) aA)))) (au (iw (bY DF (ak 4) rB (cN _)) (au (cH (ak 2)) aK) aK) (au (Gz 5 ["reason"] (tY ["held"] [1]) Y2 nd (iD (ak 4)) (λ_ _ _ _=>(aP 1 (by show List.Nodup (_++_);decide +kernel))) (λ_ _ _ _=>(ji (bY (Pu i) (ak 1) (ak 0) (by with_unfolding_all rfl)))) (λ_ _ _ _=>(ak 1)) (cj)) (au (iw (U5 (CQ (ak 5))) (au (cH rB) aK) aK) (au (aY 6 nd (yg e (a.mono (by omega)) Y2 t.cI.m t.cI.k t.cI.b (aj (ak 0) (aj (ak 1) (aj (gn (aV bZ (ak 2) (Am (ak 5) mL (mO aB)))) (aj (ak 3) aA)))))) (au (iw (bY Ox (ak 6) rB (cN _)) (bx [] (au (aY 3 nd (yg c (a.mono (by omega)) Y2 t.cQ.m t.cQ.k t.cQ.b (aj (ak 6) aA))) aK)) (bx [] aK)) (au (aY 7 nd (yg e (a.mono (by omega)) Y2 t.cI.m t.cI.k t.cI.b (aj (ak 0) (aj (gn (aV bZ (ak 1) (Am (ak 5) mL (mO aB)))) (aj (ak 2) (aj (ak 3) aA)))))) (au (cH (gn (bu (bY DF (ak 7) rB (cN _)) (ak 6) (ak 7)))) aK)))))))))
theorem Fz(a:Ok P w base t.gW 4 2 nj)(b:Ok P w base t.cQ 1 1 dX):Ok P w base t.cI 37 4 iM:=uJ t a b fuel
theorem Qk:bI ["own","names","reasons","bars","cut"] ["own"] (aQ Et):=lA
theorem Ql(c:Ok P w base t.cI 37 4 iM)(b:Ok P w base t.jU 3 2 jq)(e:Ok P w base t.cQ 1 1 dX):Ok P w base t.sX 38 1 sV:=zX (g:=sU) t.sX Qk λ_ _ _ _ _ _ a d nd=>(au (zu (ak 0) (pY Y2 (bw (aP 1 nd) (bw (aP 2 nd) (bw (aP 3 nd) lG))))) (au (aY 4 nd (cL t.cI c a (aj (ak 0) (aj (gn (kZ aA)) (aj (gn (kZ aA)) (aj (gn (aV bZ (cL t.cQ e a (aj (ak 2) aA)) aB)) aA)))))) (au (cH (cL t.jU b a (aj (ak 1) (aj (gn (lH ["reason"] (tY ["cut"] [4]) Y2 (iD (ak 2)) (λ_ _ _ _=>(aP 1 (by show List.Nodup (_++_);decide +kernel))) (λ_ _ _ _=>(ji (bY (Pu d) (ak 1) (ak 0) (by with_unfolding_all rfl)))) (λ_ _ _ _=>(ak 1)) (cj))) aA)))) aK)))
theorem TQ:bI ["sets"] ["sets"] (aQ JC):=lA
theorem TV:Ok P w base t.oG 1 1 ou:=zX (g:=u9) t.oG TQ λ_ _ _ _ _ _ b a nd=>(au (cH (Zr ["at","names","name"] (Fu.mk (m:=2) (tY [] []) Y2 (eJ Y2 t.Te (aj (ak 0) aA)) (λ_ _ _ _=>(pY Y2 (bw (aP 0 (by show List.Nodup (_++_);decide +kernel)) (bw (aP 1 (by show List.Nodup (_++_);decide +kernel)) lG)))) (λ_ _ _ _=>dR) (Ot (gR (cj) (gR (cj) Gy))) (λ_ _ _ _=>(Gx (ak 1))) (λ_ _ _ _=>(aP 2 (by show List.Nodup (_++_);decide +kernel))) (λ_ _ _ _=>dR) (cj)) (λ_ _ _ _=>(ak 2)) (λ_ _ _ _=>(ak 0)))) aK)
theorem BW:bI ["sets","reasons","homes"] ["sets","reasons"] (aQ uI):=lA
theorem BX(b:Ok P w base t.oG 1 1 ou):Ok P w base t.f9 2 2 fZ:=zX (g:=j9) t.f9 BW λ_ _ _ _ _ _ c a nd=>(au (aY 2 nd (cL t.oG b c (aj (ak 0) aA))) (au (cH (lH ["reason"] (tY ["homes"] [2]) Y2 (iD (ak 1)) (λ_ _ _ _=>(aP 1 (by show List.Nodup (_++_);decide +kernel))) (λ_ _ _ _=>(ji (bY (of_eq a) (jl a (ak 0) (aW (ak 1) aB)) (jl a (ak 0) (aW (ak 1) aB)) (cN _)))) (λ_ _ _ _=>(ak 1)) (cj))) aK))
theorem V3:bI ["ground","grounds","own","sets","kept"] ["ground"] (aQ Nu):=lA
theorem V4(d:Ok P w base t.sX 38 1 sV)(f:Ok P w base t.nA 5 1 ni)(c:Ok P w base t.f9 2 2 fZ)(e:Ok P w base t.kh 1 1 j8)(b:Ok P w base t.cQ 1 1 dX):Ok P w base t.gP 39 1 gO:=zX (g:=yx) t.gP V3 λ_ _ _ _ _ _ a h nd=>(au (aY 1 nd (cL t.nA f a (aj (ak 0) aA))) (au (Ae 1 PassesOwn.never Y2 (aP 2 nd) (bx [2] (au (Pp (cL t.kh e a (aj (ak 2) aA))) aK))) (au (aY 3 nd (cG Im Y2 t.pK uz (aj (UZ ["own","names"] (Fu.mk (m:=1) (tY [] []) Y2 (iD (ak 1)) (λ_ _ _ _=>(aP 0 (by show List.Nodup (_++_);decide +kernel))) (λ_ _ _ _=>dR) (cj) (λ_ _ _ _=>(Gx (cL t.sX d a (aj (ak 0) aA)))) (λ_ _ _ _=>(aP 1 (by show List.Nodup (_++_);decide +kernel))) (λ_ _ _ _=>dR) (cj)) (λ_ _ _ _=>(ak 1))) aA))) (au (aY 4 nd (cL t.cQ b a (aj (gn (cL t.f9 c a (aj (ak 3) (aj (aW (ak 0) aB) aA)))) aA))) (cb (i:=3) (au (cH (dI (aj (ak 3) (aj (ak 4) (aj (aV zy (cL t.cQ b a (aj (aW (ak 0) aB) aA)) (ak 4)) aA))))) aK))))))
theorem JQ:bI ["_law_reasons","_law_some"] ["_law_reasons"] (aQ yU):=lA
theorem JR:Ok P w base t.fU 1 1 eV:=zX (g:=jE) t.fU JQ λ_ _ _ _ _ _ b a nd=>(au (aY 1 nd (cG Im Y2 t.pK uz (aj (lH ["_law_w","_law_a","_law_b","_law_k"] (tY [] []) Y2 (iD (ak 0)) (λ_ _ _ _=>(pY Y2 (bw (aP 0 (by show List.Nodup (_++_);decide +kernel)) (bw (aP 1 (by show List.Nodup (_++_);decide +kernel)) (bw (aP 2 (by show List.Nodup (_++_);decide +kernel)) (bw (aP 3 (by show List.Nodup (_++_);decide +kernel)) lG)))))) (λ_ _ _ _=>dR) (λ_ _ _ _=>(dI (aj (aV zy aB (ak 0)) (aj (ak 1) (aj (ak 2) (aj (ak 3) aA)))))) (Ot (gR (cj) (gR (cj) (gR (cj) (gR (cj) Gy)))))) aA))) (au (cH (d8 iJ Y2 t.kj iH (aj (lH ["_law_w","_law_a","_law_b","_law_k"] (tY [] []) Y2 (iD (ak 1)) (λ_ _ _ _=>(pY Y2 (bw (aP 0 (by show List.Nodup (_++_);decide +kernel)) (bw (aP 1 (by show List.Nodup (_++_);decide +kernel)) (bw (aP 2 (by show List.Nodup (_++_);decide +kernel)) (bw (aP 3 (by show List.Nodup (_++_);decide +kernel)) lG)))))) (λ_ _ _ _=>dR) (λ_ _ _ _=>(dI (aj (aV zy aB (ak 0)) (aj (ak 1) (aj (ak 2) (aj (ak 3) aA)))))) (Ot (gR (cj) (gR (cj) (gR (cj) (gR (cj) Gy)))))) aA))) aK))
theorem K7:bI ["_law_xs","_law_many","_law_names_here","_law_reasons","_law_k","_law_bars"] ["_law_xs"] (aQ Bu):=lA
theorem K8(b:Ok P w base t.fU 1 1 eV):Ok P w base t.qT 2 1 qM:=zX (g:=qL) t.qT K7 λ_ _ _ _ _ _ c a nd=>(au (aY 1 nd (aV bZ aB (aV cV (aW (ak 0) aB) aB))) (au (Gz 2 ["_law_k"] (tY [] []) Y2 nd (NE (pF Y2 t.sY (aj (ak 1) aA))) (λ_ _ _ _=>(aP 0 (by show List.Nodup (_++_);decide +kernel))) (λ_ _ _ _=>dR) (λ_ _ _ _=>(gn (aV bZ Vi (aW Vi (ak 0))))) (cj)) (au (aY 3 nd (kZ aA)) (au (wJ PassesOwn.never Y2 (pF Y2 t.sY (aj (aV zy (ak 1) aB) aA)) (aP 4 nd) (bx [4] (au (iw (bY Mw (aV cV (aW (ak 0) (aV bZ aB (ak 4))) aB) aB (cN _)) (bx [] (au (rE 3 (dI (aj (gn (aV bZ aB (aV cV (aW (ak 0) aB) aB))) (aj (aW (ak 2) (ak 4)) (aj (aW (ak 2) (aV bZ (ak 4) aB)) (aj (ak 4) aA)))))) aK)) (bx [] aK)) aK))) (au (aY 3 nd (d8 iJ Y2 t.kj iH (aj (ak 3) aA))) (au (aY 5 nd (kZ aA)) (au (iw (Rh (Gv (bY (of_eq a) (ak 1) aB (cN _)) (Ab (bY (of_eq a) (aV cV (aW (ak 0) aB) aB) aB (cN _))))) (bx [] (au (rE 5 (dI (aj (aW (ak 2) aB) (aj (aW (ak 2) aB) (aj aB aA))))) aK)) (bx [] aK)) (au (cH (dI (aj (d8 iJ Y2 t.kj iH (aj (ak 2) aA)) (aj (gn (cL t.fU b c (aj (ak 3) aA))) (aj (d8 iJ Y2 t.kj iH (aj (ak 5) aA)) aA))))) aK))))))))
theorem FJ:bI ["_law_one","_law_other","_law_more","_law_bars","_law_names_here","_law_shut"] ["_law_one","_law_other","_law_more","_law_bars"] (aQ xQ):=lA
theorem FN(a:Ok P w base t.fU 1 1 eV):Ok P w base t.jV 2 4 jR:=zX (g:=nu) t.jV FJ λ_ _ _ _ _ _ c b nd=>(au (aY 4 nd (d8 iJ Y2 t.kj iH (aj (cG iO Y2 t.pK uz (aj (aV bZ (aW (ak 0) aB) (aW (ak 1) aB)) aA)) aA))) (au (aY 5 nd (Pr Y2 Y2 t.pK (Pq Y2 b Y2 t.ach (aV bZ (aV bZ (aW (ak 0) aB) (aW (ak 1) aB)) (ak 3))))) (au (cH (dI (aj (ak 4) (aj (gn (cL t.fU a c (aj (gn (aV bZ (aV bZ (aW (ak 0) aB) (aW (ak 1) aB)) (ak 2))) aA))) (aj (d8 iJ Y2 t.kj iH (aj (ak 5) aA)) aA))))) aK)))
theorem yK:bI ["_law_ground_here","_law_told","_law_xs","_law_other","_law_more","_law_a","_law_b","_law_between","_law_both","_law_w","_law_kept"] ["_law_ground_here","_law_told","_law_xs"] (aQ rK):=lA
theorem yL(d:Ok P w base t.qT 2 1 qM)(c:Ok P w base t.jV 2 4 jR)(b:Ok P w base t.gP 39 1 gO):Ok P w base t.ju 40 3 jt:=zX (g:=jr) t.ju yK λ_ _ _ _ _ _ a e nd=>(au (aY 3 nd (cL t.qT d a (aj (ak 2) aA))) (au (aY 4 nd (cL t.gP b a (aj (ak 3) aA))) (au (aY 5 nd (aW (aW (ak 0) aB) (aV cV (aW (ak 2) aB) (cG tW Y2 t.zc tO (aj (aW (ak 0) aB) aA))))) (au (aY 6 nd (aW (aW (ak 3) aB) (aV cV (aW (ak 2) aB) (cG tW Y2 t.zc tO (aj (aW (ak 3) aB) aA))))) (au (aY 7 nd (aV e8 (dI (aj (dI (aj (ak 5) (aj (ak 6) (aj aB aA)))) aA)) (aV cV (aW (ak 2) aB) aB))) (au (aY 8 nd (cL t.gP b a (aj (gn (cL t.jV c a (aj (ak 0) (aj (ak 3) (aj (dI aA) (aj (ak 7) aA)))))) aA))) (au (iw (bY (DY e) (Am (ak 8) (mO aB) mL) (dI (aj (gn (aV bZ (aW (ak 1) aB) (aW (ak 4) aB))) (aj (gn (aV bZ (aW (ak 1) aB) (aW (ak 4) aB))) aA))) (cN _)) (au (cH Hy) aK) aK) (au (aY 9 nd (aV bZ aB (aV cV (aW (ak 2) aB) aB))) (au (iw (bY Mw (aV bZ (cG tW Y2 t.zc tO (aj (aW (ak 0) aB) aA)) (cG tW Y2 t.zc tO (aj (aW (ak 3) aB) aA))) aB (cN _)) (au (cH Hy) aK) aK) (au (aY 10 nd (aW (cL t.gP b a (aj (gn (cL t.jV c a (aj (ak 0) (aj (ak 3) (aj (dI (aj (dI (aj (ak 9) (aj (ak 5) (aj (ak 6) (aj aB aA))))) aA)) (aj (dI aA) aA)))))) aA)) aB)) (au (cH (d5 CO CO (aV bZ (aW (ak 1) aB) (aW (ak 4) aB)) (ak 10) (aV bZ (aV bZ (aW (ak 1) aB) (aW (ak 4) aB)) (ak 9)))) aK)))))))))))
theorem K9:bI ["_law_reasons","_law_x","_law_found","_law_j","_law_w","_law_a","_law_b","_law_k","_law_first"] ["_law_reasons","_law_x"] (aQ Bv):=lA
theorem La(a:Ok P w base t.fU 1 1 eV):Ok P w base t.qU 2 2 qO:=zX (g:=qN) t.qU K9 λ_ _ _ _ _ _ b c nd=>(au (aY 2 nd (kZ aA)) (au (wJ PassesOwn.never Y2 (pF Y2 t.sY (aj (cG tW Y2 t.zc tO (aj (ak 0) aA)) aA)) (aP 3 nd) (bx [3,4,5,6,7,8] (au (zu (aW (ak 0) (ak 3)) (pY Y2 (bw (aP 4 nd) (bw (aP 5 nd) (bw (aP 6 nd) (bw (aP 7 nd) lG)))))) (au (aY 8 nd (aV cV (aV GK (aV bZ (ak 4) (ak 1)) aB) (ak 4))) (au (iw (bY Mw (ak 8) aB (cN _)) (bx [] (au (rE 2 (dI (aj (ak 8) (aj (ak 5) (aj (ak 6) (aj (aV tM aB (ak 3)) aA)))))) aK)) (bx [] aK)) (au (rE 2 (dI (aj (aV zy (ak 4) (ak 8)) (aj (ak 5) (aj (ak 6) (aj (gn (aV bZ (aV tM aB (ak 3)) aB)) aA)))))) aK)))))) (au (cH (cL t.fU a b (aj (ak 2) aA))) aK)))
theorem TX:bI ["_law_reasons","_law_sets","_law_found","_law_reason"] ["_law_reasons","_law_sets"] (aQ JD):=lA
theorem TY:Ok P w base t.vD 1 2 vB:=zX (g:=vA) t.vD TX λ_ _ _ _ _ _ b a nd=>(au (aY 2 nd (kZ aA)) (au (Ae 0 PassesOwn.never Y2 (aP 3 nd) (bx [3] (au (iw (CQ (cG (YO Y2) Y2 t.aj5 XU (aj (lH ["_law_part"] (tY ["_law_reason"] [3]) Y2 (iD (ak 1)) (λ_ _ _ _=>(aP 1 (by show List.Nodup (_++_);decide +kernel))) (λ_ _ _ _=>dR) (λ_ _ _ _=>(LL (Hw Ry (aW (ak 0) aB) (ak 1) (by with_unfolding_all rfl)) (aaz (Hw Ry (aW (ak 0) aB) (ak 1) (by with_unfolding_all rfl))))) (cj)) aA))) (bx [] (au (rE 2 (ak 3)) aK)) (bx [] aK)) aK))) (au (cH (d8 iJ Y2 t.kj iH (aj (ak 2) aA))) aK)))
theorem JT:bI ["sets","bars","homes"] ["sets","bars"] (aQ yV):=lA
theorem JV(b:Ok P w base t.oG 1 1 ou):Ok P w base t.o7 2 2 oY:=zX (g:=oX) t.o7 JT λ_ _ _ _ _ _ c a nd=>(au (aY 2 nd (cL t.oG b c (aj (ak 0) aA))) (au (cH (lH ["bar"] (tY ["homes"] [2]) Y2 (iD (ak 1)) (λ_ _ _ _=>(aP 1 (by show List.Nodup (_++_);decide +kernel))) (λ_ _ _ _=>(ji (bY (of_eq a) (jl a (ak 0) (aW (ak 1) aB)) (jl a (ak 0) (aW (ak 1) aB)) (cN _)))) (λ_ _ _ _=>(ak 1)) (cj))) aK))
theorem V5:bI ["ground","sets","names","reasons","bars","inner"] ["ground","sets"] (aQ Nv):=lA
theorem V6(e:Ok P w base t.o7 2 2 oY)(c:Ok P w base t.jU 3 2 jq)(b:Ok P w base t.f9 2 2 fZ):Ok P w base t.yE 4 2 yD:=zX (g:=yC) t.yE V5 λ_ _ _ _ _ _ a d nd=>(au (zu (ak 0) (pY Y2 (bw (aP 2 nd) (bw (aP 3 nd) (bw (aP 4 nd) lG))))) (au (aY 5 nd (cL t.f9 b a (aj (ak 1) (aj (ak 3) aA)))) (au (cH (LL (UC (cL t.o7 e a (aj (ak 1) (aj (ak 4) aA)))) (aaz (Hw (of_eq d) (cL t.jU c a (aj (ak 2) (aj (ak 5) aA))) (cG Im Y2 t.pK uz (aj (ak 1) aA)) (cN _))))) aK)))
theorem Sc:bI ["_law_script","_law_head","_law_ground_here","_law_names_here","_law_reasons","_law_bars","_law_told","_law_halved","_law_left_here","_law_again","_law_free"] ["_law_script"] (aQ s_law):=lA
theorem S2(h:Ok P w base t.ju 40 3 jt)(f:Ok P w base t.jT 1 2 jQ)(j:Ok P w base t.qP 2 5 qD)(e:Ok P w base t.qU 2 2 qO)(l:Ok P w base t.vD 1 2 vB)(d:Ok P w base t.fQ 1 2 fP)(c:Ok P w base t.gP 39 1 gO)(m:Ok P w base t.yE 4 2 yD)(i:Ok P w base t.oF 4 1 oh):Ok P w base t.x_law 41 1 F_law:=zX (g:=XQ) t.x_law Sc λ_ _ _ _ _ _ a b nd=>(au (aY 1 nd (cL t.fQ d a (aj (gn (cL t.jT f a (aj (ak 0) (aj aB aA)))) (aj aB aA)))) (au (aY 2 nd (cL t.qP j a (aj (ak 0) (aj aB (aj (gn (aV bZ aB (aV cV (aW (ak 1) aB) aB))) (aj (aV cV (aW (ak 1) aB) aB) (aj (aV cV (aW (ak 1) aB) aB) aA))))))) (au (zu (ak 2) (pY Y2 (bw (aP 3 nd) (bw (aP 4 nd) (bw (aP 5 nd) lG))))) (au (aY 6 nd (cL t.gP c a (aj (ak 2) aA))) (au (iw (U5 (CQ (cL t.ju h a (aj (ak 2) (aj (ak 6) (aj (gn (Am (ak 1) (mO aB) mL)) aA)))))) (au (cH Hy) aK) aK) (au (iw (bY CO (cG tW Y2 t.zc tO (aj (ak 4) aA)) aB (cN _)) (au (aY 7 nd (cL t.qU e a (aj (ak 4) (aj (aW (ak 1) aB) aA)))) (au (iw (bY (DY b) (Am (cL t.gP c a (aj (dI (aj (ak 3) (aj (ak 7) (aj (ak 5) aA)))) aA)) (mO aB) mL) (Am (ak 6) (mO aB) mL) (cN _)) (au (cH Hy) aK) aK) aK)) aK) (au (aY 8 nd (cL t.vD l a (aj (ak 4) (aj (aW (ak 6) aB) aA)))) (au (aY 9 nd (cL t.gP c a (aj (dI (aj (ak 3) (aj (ak 8) (aj (ak 5) aA)))) aA))) (au (iw (bY (DY b) (ak 9) (dI (aj (aW (ak 6) aB) (aj (aW (ak 6) aB) (aj aB aA)))) (cN _)) (au (cH Hy) aK) aK) (au (iw (U5 (CQ (cL t.yE m a (aj (dI (aj (ak 3) (aj (ak 8) (aj (ak 5) aA)))) (aj (aW (ak 6) aB) aA))))) (au (cH Hy) aK) aK) (au (aY 10 nd (cL t.gP c a (aj (dI (aj (ak 3) (aj (ak 4) (aj (dI aA) aA)))) aA))) (au (iw (Rh (Hz (bY (DY b) (aW (ak 10) aB) (cL t.oF i a (aj (ak 2) aA)) (cN _)) (Hz (bY (DY b) (aW (ak 10) aB) aB (cN _)) (Gu (bY (DY b) (aW (ak 10) aB) (aV bZ (aW (ak 6) aB) (aW (ak 6) aB)) (cN _)))))) (au (cH Hy) aK) aK) (au (cH (Hw (of_eq b) (cL t.gP c a (aj (dI (aj (ak 3) (aj (dI aA) (aj (ak 5) aA)))) aA)) (dI (aj (gn (lH ["_law_name"] (tY [] []) Y2 (iD (ak 3)) (λ_ _ _ _=>(aP 0 (by show List.Nodup (_++_);decide +kernel))) (λ_ _ _ _=>dR) (λ_ _ _ _=>(dI (aj (ak 0) aA))) (cj))) (aj aB (aj aB aA)))) (cN _))) aK)))))))))))))
theorem EB:Ok P w base t.x_law 41 1 F_law:=by
 have d:=Tj (P:=P) (w:=w) (base:=base) t;have g:=JH (P:=P) (w:=w) (base:=base) t;have v:=Qf (P:=P) (w:=w) (base:=base) t;have I:=KR (P:=P) (w:=w) (base:=base) t d v g;have F:=KZ (P:=P) (w:=w) (base:=base) t;have o:=K1 (P:=P) (w:=w) (base:=base) t;have e:=Tp (P:=P) (w:=w) (base:=base) t o F;have z:=JL (P:=P) (w:=w) (base:=base) t;have G:=K4 (P:=P) (w:=w) (base:=base) t z;have b:=Tt (P:=P) (w:=w) (base:=base) t e G;have i:=Tw (P:=P) (w:=w) (base:=base) t b;have J:=Fy (P:=P) (w:=w) (base:=base) t i;have y:=BR (P:=P) (w:=w) (base:=base) t;have c:=Qh (P:=P) (w:=w) (base:=base) t;have l:=Qj (P:=P) (w:=w) (base:=base) t;have p:=TJ (P:=P) (w:=w) (base:=base) t l;have n:=Zu (P:=P) (w:=w) (base:=base) t l p;have H:=K6 (P:=P) (w:=w) (base:=base) t e n;have x:=Fz (P:=P) (w:=w) (base:=base) t H c;have C:=Ql (P:=P) (w:=w) (base:=base) t x b c;have f:=TV (P:=P) (w:=w) (base:=base) t;have h:=BX (P:=P) (w:=w) (base:=base) t f;have j:=V4 (P:=P) (w:=w) (base:=base) t C J h y c;have a:=JR (P:=P) (w:=w) (base:=base) t;have B:=K8 (P:=P) (w:=w) (base:=base) t a;have D:=FN (P:=P) (w:=w) (base:=base) t a;have m:=yL (P:=P) (w:=w) (base:=base) t B D j;have u:=La (P:=P) (w:=w) (base:=base) t a;have E:=TY (P:=P) (w:=w) (base:=base) t;have q:=JV (P:=P) (w:=w) (base:=base) t f;have s:=V6 (P:=P) (w:=w) (base:=base) t q b h;have A:=S2 (P:=P) (w:=w) (base:=base) t m d I u E g j s i;exact A
end
end G34
end
section
set_option synthInstance.maxSize 100000
namespace G34
open L2 P1
noncomputable section
def zj(a:Int)(b:Int):Int:=(let a:=(((a*69621)+b)%2147483647);a)
theorem Lb(d:B7)(e:Lp fj (d.map eI))(c:Int)(a:Int)(b:Int):RP yW [O fj,O (zE eI c),O (zE eI a),O (zE eI b)] (λs=>Ap.nx ((λa:Int=>[O fj,O (zE eI c),O (zE eI a),Y3]) s)) (zj  a b) (Y3):=R.tp (bJ (bA 2 (d9 (fB (Xp (ao 2 (zE eI) a Y2) 69621 (by decide)) (ao 3 (zE eI) b Y2)) 2147483647 (by decide)) (λ_=>Y2) λa=>(bT (bM a Y2))))
def bh(c:B7)(b:Int):Int:=(if(decide (b<(c.length:Int)))=true then(at' c b)else(let a:=((48271*(((b*b)+(7*b))+11))%2147483647);(let a:Int:=((BN c Y3 (O 3)).foldl (λ(a:Int) (d:Int)=>(zj  a d)) a);a)))
def jX(b:B7)(a:Int):Prop:=(((decide (a<(b.length:Int)))=true->In b.length a)/\((decide (a<(b.length:Int)))=false->GN a a))
theorem V7(b:B7)(d:Lp fj (b.map eI))(a:Int):RP uZ [O fj,O (zE eI a),Y3,Y3] (λr=>Ap.rt (zE eI r)) (bh b a) (O (jX b a)):=R.tp (mj (cW (OL (ao 1 (zE eI) a Y2) (F3 (eG 0 eI b d Y2)))) (bJ (cU (λr=>r) (iW (eG 0 eI b d Y2) (ao 1 (zE eI) a Y2)) (λ_=>Y2) λ_=>Y2)) (bT (bA 2 (d9 (Je 48271 (by decide) (fB (fB (NC (ao 1 (zE eI) a Y2) (ao 1 (zE eI) a Y2)) (Je 7 (by decide) (ao 1 (zE eI) a Y2))) (B5 11))) 2147483647 (by decide)) (λ_=>Y2) λc=>(V' (λc:Int=>[O fj,O (zE eI a),O (zE eI c),Y3]) c Y2 (Gc (Fk (eG 0 eI b d Y2) Zm (Zn (B5 3)))) _ (λ_ _=>Y2) (λ(c:Int) (e:Int)=>(Lb b d a c e).r) (λ_ _=>Y2) λc=>(cU (λr=>r) (ao 2 (zE eI) c Y2) (λ_=>Y2) λ_=>Y2)))))
theorem vM:∀v bs,(aL eI (aZ eI aN)) v bs->bs.length=2/\(hold (O (jX v.1 v.2.1))->jQ (bs.map lend)=O ((zE eI) (bh v.1 v.2.1))):=by
 rintro⟨c,a,_⟩ _ ⟨fj,_,rfl,b,⟨_,rfl,rfl⟩⟩;exact⟨rfl,λh=>cF (g:=uZ) (n:=4) (bs:=[lend fj,.z (eI a)]) (V7 c (lZ b) a) h⟩
def cX(a:Int×B7×Int)(d:Int):Int×B7×Int:=(let b:=((((a.1*((a.1%65521)+40487))+(7*d))+5)%1999999973);(let c:=a.2.1++[(at' [b,(a.2.2%1000000)] (if(decide ((0:Int)<a.2.2))=true then(1:Int)else 0))];(let e:=(a.2.2 / (1000000:Int));(b,c,e))))
def kJ(a:Int×B7×Int)(c:Int):Prop:=(GN a.1 ((a.1%65521)+40487)/\(let b:=((((a.1*((a.1%65521)+40487))+(7*c))+5)%1999999973);(In [b,(a.2.2%1000000)].length (if(decide ((0:Int)<a.2.2))=true then(1:Int)else 0)/\zH a.2.1.length)))
theorem Dq(e:Int)(c:Int)(a:Int×B7×Int)(b:Int):RP nZ [O (zE eI e),O (zE eI c),O ((oE eI) a.2.1),O ((zE eI) a.1),O ((zE eI) a.2.2),O (zE eI b)] (λs=>Ap.nx ((λa:Int×B7×Int=>[O (zE eI e),O (zE eI c),O ((oE eI) a.2.1),O ((zE eI) a.1),O ((zE eI) a.2.2),Y3]) s)) (cX  a b) (O (kJ  a b)):=R.tp (bJ (bA 3 (d9 (fB (fB (NC (ao 3 (zE eI) a.1 Y2) (fB (d9 (ao 3 (zE eI) a.1 Y2) 65521 (by decide)) (B5 40487))) (Je 7 (by decide) (ao 5 (zE eI) b Y2))) (B5 5)) 1999999973 (by decide)) (λ_=>Y2) λd=>(bJ (w6 2 a.2.1 Y2 (iW (mU (qx (jo (ao 3 (zE eI) d Y2) (jo (d9 (ao 4 (zE eI) a.2.2 Y2) 1000000 (by decide)) (iK eI))) (Zs Y2))) (P9 (Zk (ao 4 (zE eI) a.2.2 Y2) (B5 0)))) λf=>(bJ (bA 4 (GZ (ao 4 (zE eI) a.2.2 Y2) 1000000 (by decide)) (λ_=>Y2) λg=>(bT (bM (d,f,g) Y2))))))))
def kO(g:Int)(b:Int)(c:B7)(f:Int)(e:Int):B7:=(let a:Int×B7×Int:=((rng 0 b.toNat).foldl (λ(a:Int×B7×Int) (d:Int)=>(cX  a d)) (f,c,e));a.2.1)
def oN(g:Int)(c:Int)(d:B7)(f:Int)(e:Int):Prop:=(Rg c/\nU (λ(b:Int×B7×Int) (a:Int)=>(cX  b a)) (λ(b:Int×B7×Int) (a:Int)=>O (kJ  b a)) (rng 0 c.toNat) (f,d,e))
def Dr:Ev->S Ap:=(aF (yI (W3 (aq (gv 1) aH)) (jh 5) nZ) (aF (HJ 2) fu))
theorem Ds(c:Int)(b:Int)(d:B7)(f:Int)(e:Int):RP Dr [O (zE eI c),O (zE eI b),O (oE eI d),O (zE eI f),O (zE eI e),Y3] (λr=>Ap.rt (oE eI r)) (kO c b d f e) (O (oN c b d f e)):=R.tp (Jo (λa:Int×B7×Int=>[O (zE eI c),O (zE eI b),O ((oE eI) a.2.1),O ((zE eI) a.1),O ((zE eI) a.2.2),Y3]) (f,d,e) Y2 (Em (ao 1 (zE eI) b Y2)) _ (λ_ _=>Y2) (λ(a:Int×B7×Int) (g:Int)=>(Dq c b a g).r) λa=>(Jl 2 (λr=>r) a.2.1 Y2 (λ_=>Y2) λ_=>Y2))
def bf(a:Int)(c:Int):B7:=(let d:=([]:Y Int);(let e:=((((a%1999999973)+31)*765432101)%1999999973);(let b:=(0:Int);(let b:Int:=(if((decide (a<0))||(decide (((10:Int) ^ 18)<=a)))=true then(let b:=(if a<0 then -a else a);b)else b);(kO a c d e b)))))
def gZ(a:Int)(c:Int):Prop:=(let d:=([]:Y Int);(let e:=((((a%1999999973)+31)*765432101)%1999999973);(let b:=(0:Int);(let b:Int:=(if((decide (a<0))||(decide (((10:Int) ^ 18)<=a)))=true then(let b:=(if a<0 then -a else a);b)else b);(oN a c d e b)))))
theorem Ld(a:Int)(c:Int):RP oU [O (zE eI a),O (zE eI c),Y3,Y3,Y3,Y3] (λr=>Ap.rt (oE eI r)) (bf a c) (O (gZ a c)):=R.tp (bA 2 (qx (iK eI) (Zs Y2)) (λ_=>Y2) λd=>(bA 3 (d9 (Xp (fB (d9 (ao 0 (zE eI) a Y2) 1999999973 (by decide)) (B5 31)) 765432101 (by decide)) 1999999973 (by decide)) (λ_=>Y2) λe=>(bA 4 (B5 0) (λ_=>Y2) λb=>(xg (λb:Int=>[O (zE eI a),O (zE eI c),O (oE eI d),O (zE eI e),O (zE eI b),Y3]) (VF (cW (OL (ao 0 (zE eI) a Y2) (B5 0))) (cW (F5 (ao 0 (zE eI) a Y2) (VO 10 18 18 (by decide) Y2)))) (bJ (bA 4 (bE (ao 0 (zE eI) a Y2)) (λ_=>Y2) λb=>(bT (bM b Y2)))) (bT (bM b Y2)) λb=>(Ds a c d e b).r))))
theorem o8:∀v bs,(aZ eI (aZ eI aN)) v bs->bs.length=2/\(hold (O (gZ v.1 v.2.1))->fP (bs.map lend)=O ((oE eI) (bf v.1 v.2.1))):=by
 rintro⟨b,a,_⟩ _ ⟨_,rfl,⟨_,rfl,rfl⟩⟩;exact⟨rfl,λh=>cF (g:=oU) (n:=6) (bs:=[.z (eI b),.z (eI a)]) (Ld b a) h⟩
def gw(e:B7)(d:AJ)(f:AJ)(g:Int)(b:AZ)(c:Int):AZ:=(let h:=(ch d ((c+(at' e 2))%15));(let a:=(((Txt.slice f Y3 (O g))++h)++(Txt.slice f (O g) Y3));(let a:AJ:=(if(decide (((at' e 3)%3)=1))=true then(let a:=(Txt.mul (ch d (c / (8:Int))) (1+(c%8)));a)else a);(let b:=b++[a];b))))
def nD(b:B7)(c:AJ)(d:AJ)(e:Int)(h:AZ)(a:Int):Prop:=((In b.length 2/\In c.length ((a+(at' b 2))%15))/\(let g:=(ch c ((a+(at' b 2))%15));((zH ((Txt.slice d Y3 (O e)).length+g.length)/\zH (((Txt.slice d Y3 (O e))++g).length+(Txt.slice d (O e) Y3).length))/\(let f:=(((Txt.slice d Y3 (O e))++g)++(Txt.slice d (O e) Y3));((In b.length 3/\((decide (((at' b 3)%3)=1))=true->(In c.length (a / (8:Int))/\((1+(a%8))<=1000 ∧ -1000<=(1+(a%8))/\(ch c (a / (8:Int))).length<=1000))))/\(let f:AJ:=(if(decide (((at' b 3)%3)=1))=true then(let f:=(Txt.mul (ch c (a / (8:Int))) (1+(a%8)));f)else f);zH h.length))))))
theorem JW(g:B7)(i:Lp fj (g.map eI))(h:Int)(b:AJ)(e:AJ)(f:Int)(a:AZ)(d:Int):RP rM [O fj,O (zE eI h),O (zE eS b),O (zE eS e),O (zE eI f),O (oE eS a),O (zE eI d),Y3,Y3] (λs=>Ap.nx ((λa:AZ=>[O fj,O (zE eI h),O (zE eS b),O (zE eS e),O (zE eI f),O (oE eS a),Y3,Y3,Y3]) s)) (gw g b e f a d) (O (nD g b e f a d)):=R.tp (bJ (bA 7 (Xv (ao 2 (zE eS) b Y2) (d9 (fB (ao 6 (zE eI) d Y2) (iW (eG 0 eI g i Y2) (B5 2))) 15 (by decide))) (λ_=>Y2) λj=>(bJ (bA 8 (VG (VG (OH (ao 3 (zE eS) e Y2) Zm (Zn (ao 4 (zE eI) f Y2))) (ao 7 (zE eS) j Y2)) (OH (ao 3 (zE eS) e Y2) (Zn (ao 4 (zE eI) f Y2)) Zm)) (λ_=>Y2) λc=>(bJ (xg (λc:AJ=>[O fj,O (zE eI h),O (zE eS b),O (zE eS e),O (zE eI f),O (oE eS a),O (zE eI d),O (zE eS j),O (zE eS c)]) (cW (BI (by decide) (d9 (iW (eG 0 eI g i Y2) (B5 3)) 3 (by decide)) (B5 1))) (bJ (bA 8 (df (Xv (ao 2 (zE eS) b Y2) (GZ (ao 6 (zE eI) d Y2) 8 (by decide))) (fB (B5 1) (d9 (ao 6 (zE eI) d Y2) 8 (by decide)))) (λ_=>Y2) λc=>(bT (bM c Y2)))) (bT (bM c Y2)) λc=>(bJ (w6 5 a Y2 (ao 8 (zE eS) c Y2) λa=>(bT (bM a Y2))))))))))
def nF(b:B7)(d:Int)(e:AJ)(c:AJ):AZ:=(let g:=((at' b 1)%((c.length:Int)+1));(let a:=([]:AZ);(let a:AZ:=((rng 0 d.toNat).foldl (λ(a:AZ) (f:Int)=>(gw b e c g a f)) a);a)))
def rO(b:B7)(e:Int)(f:AJ)(c:AJ):Prop:=((In b.length 1/\0<((c.length:Int)+1))/\(let g:=((at' b 1)%((c.length:Int)+1));(let a:=([]:AZ);(Rg e/\nU (λ(a:AZ) (d:Int)=>(gw b f c g a d)) (λ(a:AZ) (d:Int)=>O (nD b f c g a d)) (rng 0 e.toNat) a))))
def JX:Ev->S Ap:=(aF (As 4 (b2 jg (b2 eF (gv 0) (cB (.int 1))) (b2 eU (cT uT (aq (gv 3) aH)) (cB (.int 1))))) (aF (As 5 (cT rC aH)) (aF (yI (W3 (aq (gv 1) aH)) (jh 6) rM) (aF (HJ 5) fu))))
theorem JZ(e:B7)(f:Lp fj (e.map eI))(b:Int)(d:AJ)(c:AJ):RP JX [O fj,O (zE eI b),O (zE eS d),O (zE eS c),Y3,Y3,Y3,Y3,Y3] (λr=>Ap.rt (oE eS r)) (nF e b d c) (O (rO e b d c)):=R.tp (bA 4 (El (iW (eG 0 eI e f Y2) (B5 1)) (fB (ff (ao 3 (zE eS) c Y2)) (B5 1))) (λ_=>Y2) λg=>(bA 5 (qx (iK eS) (Zs Y2)) (λ_=>Y2) λa=>(Jo (λa:AZ=>[O fj,O (zE eI b),O (zE eS d),O (zE eS c),O (zE eI g),O (oE eS a),Y3,Y3,Y3]) a Y2 (Em (ao 1 (zE eI) b Y2)) _ (λ_ _=>Y2) (λ(a:AZ) (h:Int)=>(JW e f b d c g a h).r) λa=>(Jl 5 (λr=>r) a Y2 (λ_=>Y2) λ_=>Y2))))
def cM(a:B7)(c:Int):AZ:=(let b:=("abcdefghijklmnopqrstuvwxyz":AJ);(let e:=(Txt.join "" ((rng 0 ((at' a 0)%6).toNat).map λd:Int=>(ch b (((at' a d) / (40:Int))%26))));(nF a c b e)))
def sZ(a:B7)(d:Int):Prop:=(let c:=("abcdefghijklmnopqrstuvwxyz":AJ);(((((In a.length 0/\Rg ((at' a 0)%6))/\(rng 0 ((at' a 0)%6).toNat).length<=100000)/\(∀b∈(rng 0 ((at' a 0)%6).toNat),(In a.length b/\In c.length (((at' a b) / (40:Int))%26))))/\(((rng 0 ((at' a 0)%6).toNat).map λb:Int=>(ch c (((at' a b) / (40:Int))%26))).map (·.length)).sum+((rng 0 ((at' a 0)%6).toNat).map λb:Int=>(ch c (((at' a b) / (40:Int))%26))).length*("":AJ).length<=100000)/\(let e:=(Txt.join "" ((rng 0 ((at' a 0)%6).toNat).map λb:Int=>(ch c (((at' a b) / (40:Int))%26))));(rO a d c e))))
theorem T3(a:B7)(c:Lp fj (a.map eI))(b:Int):RP sO [O fj,O (zE eI b),Y3,Y3,Y3,Y3,Y3,Y3,Y3] (λr=>Ap.rt (oE eS r)) (cM a b) (O (sZ a b)):=R.tp (bA 2 (He "abcdefghijklmnopqrstuvwxyz") (λ_=>Y2) λd=>(bA 3 (S3 "" (mU (VH (Em (d9 (iW (eG 0 eI a c Y2) (B5 0)) 6 (by decide))) _ (λ_=>Y2) (λe:Int=>(Xv (ao 0 (zE eS) d Y2) (d9 (GZ (iW (eG 1 eI a c (congrArg O (c.get Y2))) (ao 2 (zE eI) e Y2)) 40 (by decide)) 26 (by decide))))))) (λ_=>Y2) λf=>(JZ a c b d f).r))
theorem T4:∀v bs,(aL eI (aZ eI aN)) v bs->bs.length=2/\(hold (O (sZ v.1 v.2.1))->pJ (bs.map lend)=O ((oE eS) (cM v.1 v.2.1))):=by
 rintro⟨b,a,_⟩ _ ⟨fj,_,rfl,c,⟨_,rfl,rfl⟩⟩;exact⟨rfl,λh=>cF (g:=sO) (n:=9) (bs:=[lend fj,.z (eI a)]) (T3 b (lZ c) a) h⟩
def dD(h:B7)(g:Int)(e:Int)(l:B7)(f:AZ)(b:Y aC)(i:Int):(Y aC):=(let a:=(bf (bh h ((g+1)+i)) 4);(let y1:=((at' a 0)%(if e>1 then e else 1));let y2:=((at' a 1)%(if e>1 then e else 1));let c:=y1;let d:=y2;(let j:=(at' [(1+((at' a 2)%3)),(1+((at' a 2)%9)),(1+((at' a 2)%1000))] ((at' l 4)%3));(let b:(Y aC):=(if(!decide (c=d))=true then(let b:=b++[(((0:Int)-j),(at' f (if d<c then d else c)),(at' f (if d>c then d else c)),(at' [(0:Int),(2:Int),(10:Int)] ((at' a 3)%3)))];b)else b);b))))
def jB(f:B7)(e:Int)(b:Int)(h:B7)(i:AZ)(j:Y aC)(g:Int):Prop:=(((jX f ((e+1)+g))/\(gZ (bh f ((e+1)+g)) 4))/\(let a:=(bf (bh f ((e+1)+g)) 4);(((In a.length 0/\0<(if b>1 then b else 1))/\(In a.length 1/\0<(if b>1 then b else 1)))/\(let y1:=((at' a 0)%(if b>1 then b else 1));let y2:=((at' a 1)%(if b>1 then b else 1));let c:=y1;let d:=y2;((((In a.length 2/\(In a.length 2/\In a.length 2))/\In h.length 4)/\In [(1+((at' a 2)%3)),(1+((at' a 2)%9)),(1+((at' a 2)%1000))].length ((at' h 4)%3))/\(let l:=(at' [(1+((at' a 2)%3)),(1+((at' a 2)%9)),(1+((at' a 2)%1000))] ((at' h 4)%3));((!decide (c=d))=true->((In i.length (if d<c then d else c)/\(In i.length (if d>c then d else c)/\(In a.length 3/\In [(0:Int),(2:Int),(10:Int)].length ((at' a 3)%3))))/\zH j.length))))))))
theorem FP(h:B7)(o:Lp fj (h.map eI))(f:Int)(b:Int)(m:Int)(l:Int)(e:B7)(c:AZ)(a:Y aC)(g:Int):RP p7 [O fj,O (zE eI f),O (zE eI b),O (zE eI m),O (zE eI l),O (oE eI e),O (oE eS c),O (oE aG a),O (zE eI g),Y3,Y3,Y3,Y3,Y3,Y3] (λs=>Ap.nx ((λa:(Y aC)=>[O fj,O (zE eI f),O (zE eI b),O (zE eI m),O (zE eI l),O (oE eI e),O (oE eS c),O (oE aG a),Y3,Y3,Y3,Y3,Y3,Y3,Y3]) s)) (dD h f b e c a g) (O (jB h f b e c a g)):=R.tp (bJ (bA 9 (An o8 (bV (jN (An vM (mJ (eG 0 eI h o Y2) (bV (jN (fB (fB (ao 1 (zE eI) f Y2) (B5 1)) (ao 8 (zE eI) g Y2))) aX)))) (bV (B5 4) aX))) (λ_=>Y2) λd=>(bJ (L5 10 11 (El (iW (gJ (ao 9 (lE eI) d Y2)) (B5 0)) (Ni (B5 1) (ao 2 (zE eI) b Y2))) (El (iW (gJ (ao 9 (lE eI) d Y2)) (B5 1)) (Ni (B5 1) (ao 2 (zE eI) b Y2))) λi j=>(bJ (bA 12 (iW (mU (qx (jo (jN (fB (B5 1) (d9 (iW (gJ (ao 9 (lE eI) d Y2)) (B5 2)) 3 (by decide)))) (jo (jN (fB (B5 1) (d9 (iW (gJ (ao 9 (lE eI) d Y2)) (B5 2)) 9 (by decide)))) (jo (jN (fB (B5 1) (d9 (iW (gJ (ao 9 (lE eI) d Y2)) (B5 2)) 1000 (by decide)))) (iK eI)))) (Zs Y2))) (d9 (iW (gJ (ao 5 (lE eI) e Y2)) (B5 4)) 3 (by decide))) (λ_=>Y2) λn=>(bJ (xg (λa:(Y aC)=>[O fj,O (zE eI f),O (zE eI b),O (zE eI m),O (zE eI l),O (oE eI e),O (oE eS c),O (oE aG a),O (zE eI g),O (oE eI d),O (zE eI i),O (zE eI j),O (zE eI n),Y3,Y3]) (cW (KJ (by decide) (ao 10 (zE eI) i Y2) (ao 11 (zE eI) j Y2))) (bJ (w6 7 a Y2 (tZ (Bf (B5 0) (ao 12 (zE eI) n Y2)) (iW (gJ (ao 6 (lE eS) c Y2)) (OE (ao 10 (zE eI) i Y2) (ao 11 (zE eI) j Y2))) (iW (gJ (ao 6 (lE eS) c Y2)) (Ni (ao 10 (zE eI) i Y2) (ao 11 (zE eI) j Y2))) (iW (mU (qx (jo (B5 0) (jo (B5 2) (jo (B5 10) (iK eI)))) (Zs Y2))) (d9 (iW (gJ (ao 9 (lE eI) d Y2)) (B5 3)) 3 (by decide)))) λa=>(bT (bM a Y2)))) (bT (bM a Y2)) λa=>(bT (bM a Y2))))))))))
def dY(h:B7)(l:Int)(d:Int)(f:AZ)(a:Y dM)(i:Int):(Y dM):=(let e:=(bf (bh h ((l+1)+i)) 8);(let g:=((at' e 5)%(if d>1 then d else 1));let j:=((at' e 6)%(if d>1 then d else 1));let b:=g;let c:=j;(let a:(Y dM):=(if(!decide (b=c))=true then(let a:=a++[((at' f (if c<b then c else b)),(at' f (if c>b then c else b)),(at' [(2:Int),(10:Int)] ((at' e 7)%2)))];a)else a);a)))
def jC(e:B7)(g:Int)(a:Int)(h:AZ)(j:Y dM)(f:Int):Prop:=(((jX e ((g+1)+f))/\(gZ (bh e ((g+1)+f)) 8))/\(let b:=(bf (bh e ((g+1)+f)) 8);(((In b.length 5/\0<(if a>1 then a else 1))/\(In b.length 6/\0<(if a>1 then a else 1)))/\(let i:=((at' b 5)%(if a>1 then a else 1));let l:=((at' b 6)%(if a>1 then a else 1));let c:=i;let d:=l;((!decide (c=d))=true->((In h.length (if d<c then d else c)/\(In h.length (if d>c then d else c)/\(In b.length 7/\In [(2:Int),(10:Int)].length ((at' b 7)%2))))/\zH j.length))))))
theorem FQ(f:B7)(p:Lp fj (f.map eI))(d:Int)(b:Int)(o:Int)(l:Int)(m:B7)(c:AZ)(n:Y aC)(j:Y aC)(a:Y dM)(e:Int):RP p8 [O fj,O (zE eI d),O (zE eI b),O (zE eI o),O (zE eI l),O (oE eI m),O (oE eS c),O (oE aG n),O (zE eI e),Y3,Y3,Y3,Y3,O (oE aG j),O (oE dW a)] (λs=>Ap.nx ((λa:(Y dM)=>[O fj,O (zE eI d),O (zE eI b),O (zE eI o),O (zE eI l),O (oE eI m),O (oE eS c),O (oE aG n),Y3,Y3,Y3,Y3,Y3,O (oE aG j),O (oE dW a)]) s)) (dY f d b c a e) (O (jC f d b c a e)):=R.tp (bJ (bA 9 (An o8 (bV (jN (An vM (mJ (eG 0 eI f p Y2) (bV (jN (fB (fB (ao 1 (zE eI) d Y2) (B5 1)) (ao 8 (zE eI) e Y2))) aX)))) (bV (B5 8) aX))) (λ_=>Y2) λg=>(bJ (L5 10 11 (El (iW (gJ (ao 9 (lE eI) g Y2)) (B5 5)) (Ni (B5 1) (ao 2 (zE eI) b Y2))) (El (iW (gJ (ao 9 (lE eI) g Y2)) (B5 6)) (Ni (B5 1) (ao 2 (zE eI) b Y2))) λh i=>(bJ (xg (λa:(Y dM)=>[O fj,O (zE eI d),O (zE eI b),O (zE eI o),O (zE eI l),O (oE eI m),O (oE eS c),O (oE aG n),O (zE eI e),O (oE eI g),O (zE eI h),O (zE eI i),Y3,O (oE aG j),O (oE dW a)]) (cW (KJ (by decide) (ao 10 (zE eI) h Y2) (ao 11 (zE eI) i Y2))) (bJ (w6 14 a Y2 (gY (iW (gJ (ao 6 (lE eS) c Y2)) (OE (ao 10 (zE eI) h Y2) (ao 11 (zE eI) i Y2))) (iW (gJ (ao 6 (lE eS) c Y2)) (Ni (ao 10 (zE eI) h Y2) (ao 11 (zE eI) i Y2))) (iW (mU (qx (jo (B5 2) (jo (B5 10) (iK eI))) (Zs Y2))) (d9 (iW (gJ (ao 9 (lE eI) g Y2)) (B5 7)) 2 (by decide)))) λa=>(bT (bM a Y2)))) (bT (bM a Y2)) λa=>(bT (bM a Y2))))))))
def qd(f:B7)(e:Int)(d:Int)(m:Int)(i:Int)(l:B7)(c:AZ)(j:Y aC):dw:=(let g:=((mq aG (Ft j)).map λb:aC=>(((0:Int)-b.1),b.2.1,b.2.2.1,b.2.2.2));(let a:=([]:Y dM);(let a:(Y dM):=((rng 0 i.toNat).foldl (λ(a:Y dM) (h:Int)=>(dY f e d c a h)) a);(c,g,(mq dW (Ft a))))))
def qe(h:B7)(g:Int)(e:Int)(m:Int)(i:Int)(l:B7)(f:AZ)(d:Y aC):Prop:=(((d.length<=64/\d.length<64)/\(mq aG (Ft d)).length<=100000)/\(let j:=((mq aG (Ft d)).map λc:aC=>(((0:Int)-c.1),c.2.1,c.2.2.1,c.2.2.2));(let a:=([]:Y dM);((Rg i/\nU (λ(a:Y dM) (b:Int)=>(dY h g e f a b)) (λ(a:Y dM) (b:Int)=>O (jC h g e f a b)) (rng 0 i.toNat) a)/\(let a:(Y dM):=((rng 0 i.toNat).foldl (λ(a:Y dM) (b:Int)=>(dY h g e f a b)) a);(a.length<=64/\a.length<64))))))
def wj:Ev->S Ap:=(aF (As 13 (fM (Kv (Ei (KH (gv 7)))) (pD 4 (bN (jh 0) (bN (jh 1) (bN (jh 2) (bN (jh 3) rD))))) tX (cT iG (aq (b2 Bi (cB (.int 0)) (gv 0)) (aq (gv 1) (aq (gv 2) (aq (gv 3) aH))))) [] 4)) (aF (As 14 (cT rC aH)) (aF (yI (W3 (aq (gv 4) aH)) (jh 8) p8) (aF (gM (cT iG (aq (cT iI (aq (gv 6) aH)) (aq (cT iI (aq (gv 13) aH)) (aq (cT iI (aq (Ei (KH (gv 14))) aH)) aH))))) fu))))
theorem FT(i:B7)(m:Lp fj (i.map eI))(g:Int)(e:Int)(h:Int)(c:Int)(f:B7)(b:AZ)(d:Y aC):RP wj [O fj,O (zE eI g),O (zE eI e),O (zE eI h),O (zE eI c),O (oE eI f),O (oE eS b),O (oE aG d),Y3,Y3,Y3,Y3,Y3,Y3,Y3] (λr=>Ap.rt (zE bL r)) (qd i g e h c f b d) (O (qe i g e h c f b d)):=R.tp (bA 13 (mV (PL (mU (VP (LX (gJ (ao 7 (lE aG) d Y2)))))) _ (λ_=>Y2) (λj:aC=>(tZ (Bf (B5 0) (ao 0 (zE eI) j.1 Y2)) (ao 1 (zE eS) j.2.1 Y2) (ao 2 (zE eS) j.2.2.1 Y2) (ao 3 (zE eI) j.2.2.2 Y2))) λ_=>Y2) (λ_=>Y2) λl=>(bA 14 (qx (iK dW) (Zs Y2)) (λ_=>Y2) λa=>(Jo (λa:(Y dM)=>[O fj,O (zE eI g),O (zE eI e),O (zE eI h),O (zE eI c),O (oE eI f),O (oE eS b),O (oE aG d),Y3,Y3,Y3,Y3,Y3,O (oE aG l),O (oE dW a)]) a Y2 (Em (ao 4 (zE eI) c Y2)) _ (λ_ _=>Y2) (λ(a:Y dM) (n:Int)=>(FQ i m g e h c f b d l a n).r) λa=>(cU (λr=>r) (gY (jH (gJ (ao 6 (lE eS) b Y2))) (jH (gJ (ao 13 (lE aG) l Y2))) (jH (mU (VP (LX (gJ (ao 14 (lE dW) a Y2))))))) (λ_=>Y2) λ_=>Y2))))
def qg(d:B7)(f:Int)(b:Int)(g:Int)(i:Int)(e:B7)(c:AZ):dw:=(let a:=([]:Y aC);(let a:(Y aC):=((rng 0 g.toNat).foldl (λ(a:Y aC) (h:Int)=>(dD d f b e c a h)) a);(qd d f b g i e c a)))
def qj(f:B7)(e:Int)(c:Int)(h:Int)(i:Int)(g:B7)(d:AZ):Prop:=(let a:=([]:Y aC);((Rg h/\nU (λ(a:Y aC) (b:Int)=>(dD f e c g d a b)) (λ(a:Y aC) (b:Int)=>O (jB f e c g d a b)) (rng 0 h.toNat) a)/\(let a:(Y aC):=((rng 0 h.toNat).foldl (λ(a:Y aC) (b:Int)=>(dD f e c g d a b)) a);(qe f e c h i g d a))))
def wz:Ev->S Ap:=(aF (As 7 (cT rC aH)) (aF (yI (W3 (aq (gv 3) aH)) (jh 8) p7) wj))
theorem FW(h:B7)(i:Lp fj (h.map eI))(g:Int)(c:Int)(b:Int)(e:Int)(f:B7)(d:AZ):RP wz [O fj,O (zE eI g),O (zE eI c),O (zE eI b),O (zE eI e),O (oE eI f),O (oE eS d),Y3,Y3,Y3,Y3,Y3,Y3,Y3,Y3] (λr=>Ap.rt (zE bL r)) (qg h g c b e f d) (O (qj h g c b e f d)):=R.tp (bA 7 (qx (iK aG) (Zs Y2)) (λ_=>Y2) λa=>(Jo (λa:(Y aC)=>[O fj,O (zE eI g),O (zE eI c),O (zE eI b),O (zE eI e),O (oE eI f),O (oE eS d),O (oE aG a),Y3,Y3,Y3,Y3,Y3,Y3,Y3]) a Y2 (Em (ao 3 (zE eI) b Y2)) _ (λ_ _=>Y2) (λ(a:Y aC) (j:Int)=>(FP h i g c b e f d a j).r) λa=>(FT h i g c b e f d a).r))
def ql(d:B7)(f:Int)(a:Int)(g:Int)(e:Int)(b:B7):dw:=(let c:=(pG (cM b a));(qg d f a g e b c))
def qm(d:B7)(f:Int)(a:Int)(g:Int)(e:Int)(b:B7):Prop:=(((sZ b a)/\(cM b a).length<64)/\(let c:=(pG (cM b a));(qj d f a g e b c)))
def FZ:Ev->S Ap:=(aF (As 6 (cT MJ (aq (bO 2 pJ (aq (gv 5) (aq (gv 2) aH))) aH))) wz)
theorem Ga(c:B7)(h:Lp fj (c.map eI))(e:Int)(a:Int)(f:Int)(d:Int)(b:B7):RP FZ [O fj,O (zE eI e),O (zE eI a),O (zE eI f),O (zE eI d),O (oE eI b),Y3,Y3,Y3,Y3,Y3,Y3,Y3,Y3,Y3] (λr=>Ap.rt (zE bL r)) (ql c e a f d b) (O (qm c e a f d b)):=R.tp (bA 6 (UO (mU (An T4 (mJ (gJ (ao 5 (lE eI) b Y2)) (bV (ao 2 (zE eI) a Y2) aX))))) (λ_=>Y2) λg=>(FW c h e a f d b g).r)
def fJ(a:B7)(b:Int)(c:Int)(f:Int)(d:Int):dw:=(let e:=(bf (bh a b) 6);(ql a b c f d e))
def nG(a:B7)(b:Int)(c:Int)(f:Int)(d:Int):Prop:=(((jX a b)/\(gZ (bh a b) 6))/\(let e:=(bf (bh a b) 6);(qm a b c f d e)))
theorem Qm(a:B7)(f:Lp fj (a.map eI))(b:Int)(c:Int)(e:Int)(d:Int):RP qC [O fj,O (zE eI b),O (zE eI c),O (zE eI e),O (zE eI d),Y3,Y3,Y3,Y3,Y3,Y3,Y3,Y3,Y3,Y3] (λr=>Ap.rt (zE bL r)) (fJ a b c e d) (O (nG a b c e d)):=R.tp (bA 5 (An o8 (bV (jN (An vM (mJ (eG 0 eI a f Y2) (bV (ao 1 (zE eI) b Y2) aX)))) (bV (B5 6) aX))) (λ_=>Y2) λg=>(Ga a f b c e d g).r)
theorem Qn:∀v bs,(aL eI (aZ eI (aZ eI (aZ eI (aZ eI aN))))) v bs->bs.length=5/\(hold (O (nG v.1 v.2.1 v.2.2.1 v.2.2.2.1 v.2.2.2.2.1))->qD (bs.map lend)=O ((zE bL) (fJ v.1 v.2.1 v.2.2.1 v.2.2.2.1 v.2.2.2.2.1))):=by
 rintro⟨f,c,a,d,b,_⟩ _ ⟨fj,_,rfl,e,⟨_,rfl,⟨_,rfl,⟨_,rfl,⟨_,rfl,rfl⟩⟩⟩⟩⟩;exact⟨rfl,λh=>cF (g:=qC) (n:=15) (bs:=[lend fj,.z (eI c),.z (eI a),.z (eI d),.z (eI b)]) (Qm f (lZ e) c a d b) h⟩
def cY(a:AZ):(Y (AJ×AJ)):=(Do (a.map λvs:AJ=>(vs,vs)))
def nH(a:AZ):Prop:=(a.length<1000/\a.length<=100000)
theorem Qo(a:AZ):RP qF [O ((zE (eT eS)) a)] (λr=>Ap.rt (mE eS r)) (cY a) (O (nH a)):=R.tp (cU (λr=>r) (On (Fv (ao 0 (zE (eT eS)) a Y2)) (mV (Fv (ao 0 (zE (eT eS)) a Y2)) _ (λ_=>Y2) (λvs:AJ=>(Xz (ao 0 (zE eS) vs Y2) (ao 0 (zE eS) vs Y2))) λ_=>Y2)) (λ_=>Y2) λ_=>Y2)
theorem BZ:∀v bs,(aZ (eT eS) aN) v bs->bs.length=1/\(hold (O (nH v.1))->qG (bs.map lend)=O ((mE eS) (cY v.1))):=by
 rintro⟨a,_⟩ _ ⟨_,rfl,rfl⟩;exact⟨rfl,λh=>cF (g:=qF) (n:=1) (bs:=[.z (eT eS a)]) (Qo a) h⟩
def dZ(c:AJ)(b:AJ)(d:AJ)(a:(Y (AJ×AJ)))(vs:AJ):(Y (AJ×AJ)):=(let a:(Y (AJ×AJ)):=(if((decide ((look a vs)=c))||(decide ((look a vs)=b)))=true then(let a:=put a vs d;a)else a);a)
def qp(b:AJ)(c:AJ)(d:AJ)(a:(Y (AJ×AJ)))(vs:AJ):Prop:=((has a vs=true/\((decide ((look a vs)=b))=false->has a vs=true))/\(((decide ((look a vs)=b))||(decide ((look a vs)=c)))=true->a.length<1000))
theorem Gd(c:AJ)(b:AJ)(d:AJ)(a:(Y (AJ×AJ)))(vs:AJ):RP vX [O ((mW (O a_) eS) a),O (zE eS c),O (zE eS b),O (zE eS d),O (zE eS vs)] (λs=>Ap.nx ((λa:(Y (AJ×AJ))=>[O ((mW (O a_) eS) a),O (zE eS c),O (zE eS b),O (zE eS d),Y3]) s)) (dZ c b d a vs) (O (qp c b d a vs)):=R.tp (bJ (xg (λa:(Y (AJ×AJ))=>[O ((mW (O a_) eS) a),O (zE eS c),O (zE eS b),O (zE eS d),O (zE eS vs)]) (VF (cW (BI (by decide) (jO (ao 0 (nE eS) a Y2) (ao 4 (zE eS) vs Y2)) (ao 1 (zE eS) c Y2))) (cW (BI (by decide) (jO (ao 0 (nE eS) a Y2) (ao 4 (zE eS) vs Y2)) (ao 2 (zE eS) b Y2)))) (bJ (Xy (O a_) 0 a Y2 (ao 3 (zE eS) d Y2) (ao 4 (zE eS) vs Y2) λa=>(bT (bM a Y2)))) (bT (bM a Y2)) λa=>(bT (bM a Y2))))
def nJ(a:(Y (AJ×AJ)))(b:AJ)(c:AJ):(Y (AJ×AJ)):=(let d:=(if uq c b=true then c else b);(let a:(Y (AJ×AJ)):=((a.map (·.1)).foldl (λ(a:(Y (AJ×AJ))) (vs:AJ)=>(dZ b c d a vs)) a);a))
def nM(a:(Y (AJ×AJ)))(b:AJ)(c:AJ):Prop:=(let d:=(if uq c b=true then c else b);nU (λ(a:(Y (AJ×AJ))) (vs:AJ)=>(dZ b c d a vs)) (λ(a:(Y (AJ×AJ))) (vs:AJ)=>O (qp b c d a vs)) (a.map (·.1)) a)
def vN(a:(Y (AJ×AJ)))(b:AJ)(c:AJ):R qH [O ((mW (O a_) eS) a),O (zE eS b),O (zE eS c),Y3,Y3] (λe=>Ap.nx [O ((mW (O a_) eS) e),O (zE eS b),O (zE eS c),Y3,Y3]):=(bJ (bA 3 (OZ (ao 1 (zE eS) b Y2) (ao 2 (zE eS) c Y2)) (λ_=>Y2) λd=>(bJ (Jo (λa:(Y (AJ×AJ))=>[O ((mW (O a_) eS) a),O (zE eS b),O (zE eS c),O (zE eS d),Y3]) a Y2 (Gc (ib (ao 0 (nE eS) a Y2))) _ (λ_ _=>Y2) (λ(a:(Y (AJ×AJ))) (vs:AJ)=>(Gd b c d a vs).r) λa=>(bT (bM a Y2))))))
theorem Le(b:(Y (AJ×AJ)))(a:AJ)(c:AJ):(vN (a_:=a_) b a c).v=nJ b a c:=by kernel_rfl
theorem Lf(b:(Y (AJ×AJ)))(a:AJ)(c:AJ):(vN (a_:=a_) b a c).D=O (nM b a c):=by kernel_rfl
theorem Ca:∀(b:(Y (AJ×AJ))) v bs,(aZ eS (aZ eS aN)) v bs->bs.length=2/\bs.all DL=true/\(hold (O (nM b v.1 v.2.1))->∀a,m5 a (b.map λq=>(kS q.1,eS q.2)) bs=O ((nJ b v.1 v.2.1).map λq=>(kS q.1,eS q.2))):=by
 rintro b ⟨c,d,_⟩ _ ⟨_,rfl,⟨_,rfl,rfl⟩⟩;exact⟨rfl,rfl,λh a=>(RH (g:=qH) (n:=5) (bs:=[.z (eS c),.z (eS d)]) (vN (a_:=a) b c d) ((congrArg hold (Lf (a_:=a) b c d)).mpr h) (λ_=>Y2)).trans (congrArg (λr:(Y (AJ×AJ))=>O (r.map λq=>(kS q.1,eS q.2))) (Le (a_:=a) b c d))⟩
def g8(a:(Y (AJ×AJ)))(q1:aC):(Y (AJ×AJ)):=(let a:=(nJ a (look a q1.2.1) (look a q1.2.2.1));a)
def ug(a:(Y (AJ×AJ)))(q1:aC):Prop:=((has a q1.2.1=true/\has a q1.2.2.1=true)/\(nM a (look a q1.2.1) (look a q1.2.2.1)))
theorem Lg(c:AZ)(b:Y aC)(a:(Y (AJ×AJ)))(q1:aC):RP uc [O ((zE (eT eS)) c),O ((zE (eT aG)) b),O (mE eS a),O ((zE eI) q1.1),O ((zE eS) q1.2.1),O ((zE eS) q1.2.2.1),O ((zE eI) q1.2.2.2)] (λs=>Ap.nx ((λa:(Y (AJ×AJ))=>[O ((zE (eT eS)) c),O ((zE (eT aG)) b),O (mE eS a),Y3,Y3,Y3,Y3]) s)) (g8  a q1) (O (ug  a q1)):=R.tp (bJ (NJ Y3 2 a Y2 Ca (bV (jO (ao 2 (nE eS) a Y2) (ao 4 (zE eS) q1.2.1 Y2)) (bV (jO (ao 2 (nE eS) a Y2) (ao 5 (zE eS) q1.2.2.1 Y2)) aX)) λa=>(bT (bM a Y2))))
def jx(c:AZ)(b:Y aC):(Y (AJ×AJ)):=(let a:=(cY c);(let a:(Y (AJ×AJ)):=(b.foldl (λ(a:(Y (AJ×AJ))) (q1:aC)=>(g8  a q1)) a);a))
def vO(b:AZ)(c:Y aC):Prop:=((nH b)/\(let a:=(cY b);nU (λ(a:(Y (AJ×AJ))) (q1:aC)=>(g8  a q1)) (λ(a:(Y (AJ×AJ))) (q1:aC)=>O (ug  a q1)) c a))
theorem V8(c:AZ)(b:Y aC):RP n6 [O ((zE (eT eS)) c),O ((zE (eT aG)) b),Y3,Y3,Y3,Y3,Y3] (λr=>Ap.rt (mE eS r)) (jx c b) (O (vO c b)):=R.tp (bA 2 (An BZ (bV (ao 0 (zE (eT eS)) c Y2) aX)) (λ_=>Y2) λa=>(Jq 1 b (VJ Y2) (λa:(Y (AJ×AJ))=>[O ((zE (eT eS)) c),O ((zE (eT aG)) b),O (mE eS a),Y3,Y3,Y3,Y3]) a Y2 _ (λ_ _=>Y2) (λ(a:(Y (AJ×AJ))) (q1:aC)=>(Lg c b a q1).r) λa=>(Jl 2 (λr=>r) a Y2 (λ_=>Y2) λ_=>Y2)))
theorem V9:∀v bs,(aZ (eT eS) (aZ (eT aG) aN)) v bs->bs.length=2/\(hold (O (vO v.1 v.2.1))->lO (bs.map lend)=O ((mE eS) (jx v.1 v.2.1))):=by
 rintro⟨b,a,_⟩ _ ⟨_,rfl,⟨_,rfl,rfl⟩⟩;exact⟨rfl,λh=>cF (g:=n6) (n:=7) (bs:=[.z (eT eS b),.z (eT aG a)]) (V8 b a) h⟩
def lD(a:(Y (AJ×AJ)))(b:AJ):AZ:=(((a.map (·.1)).filter λvs:AJ=>(decide ((look a vs)=b))).map λvs:AJ=>vs)
def o9(a:(Y (AJ×AJ)))(b:AJ):Prop:=((a.map (·.1)).length<=100000/\(∀vs∈(a.map (·.1)),has a vs=true))
theorem Lh(a:(Y (AJ×AJ)))(b:AJ):RP oV [O (nE eS a),O (zE eS b)] (λr=>Ap.rt ((zE (eT eS)) r)) (lD a b) (O (o9 a b)):=R.tp (cU (λr=>r) (jH (mU (Bg (MU (ao 0 (nE eS) a Y2)) _ (λ_=>Y2) (λvs:AJ=>(cW (BI (by decide) (jO (ao 1 (nE eS) a Y2) (ao 2 (zE eS) vs Y2)) (ao 0 (zE eS) b Y2)))) (λvs:AJ=>(ao 2 (zE eS) vs Y2))))) (λ_=>Y2) λ_=>Y2)
theorem Li:∀v bs,(aM eS (aZ eS aN)) v bs->bs.length=2/\(hold (O (o9 v.1 v.2.1))->oW (bs.map lend)=O ((zE (eT eS)) (lD v.1 v.2.1))):=by
 rintro⟨a,b,_⟩ _ ⟨_,_,rfl,(rfl|rfl),⟨_,rfl,rfl⟩⟩
 all_goals exact⟨rfl,λh=>cF (g:=oV) (n:=2) (bs:=[nE eS a,.z (eS b)]) (Lh a b) h⟩
def eY(a:(Y (AJ×AJ))):(Y AZ):=(((a.map (·.1)).filter λvs:AJ=>(decide ((look a vs)=vs))).map λvs:AJ=>(lD a vs))
def jy(a:(Y (AJ×AJ))):Prop:=((a.map (·.1)).length<=100000/\(∀vs∈(a.map (·.1)),(has a vs=true/\((decide ((look a vs)=vs))=true->(o9 a vs)))))
theorem Qp(a:(Y (AJ×AJ))):RP qI [O (nE eS a)] (λr=>Ap.rt ((oE (eT eS)) r)) (eY a) (O (jy a)):=R.tp (cU (λr=>r) (Bg (MU (ao 0 (nE eS) a Y2)) _ (λ_=>Y2) (λvs:AJ=>(cW (BI (by decide) (jO (ao 0 (nE eS) a Y2) (ao 1 (zE eS) vs Y2)) (ao 1 (zE eS) vs Y2)))) (λvs:AJ=>(jN (An Li (L0 (ao 0 (nE eS) a Y2) (bV (ao 1 (zE eS) vs Y2) aX)))))) (λ_=>Y2) λ_=>Y2)
theorem Cd:∀v bs,(aM eS aN) v bs->bs.length=1/\(hold (O (jy v.1))->qJ (bs.map lend)=O ((oE (eT eS)) (eY v.1))):=by
 rintro⟨a,_⟩ _ ⟨_,_,rfl,(rfl|rfl),rfl⟩
 all_goals exact⟨rfl,λh=>cF (g:=qI) (n:=1) (bs:=[nE eS a]) (Qp a) h⟩
def zM(b:AZ)(a:Y aC):(Y AZ):=(eY (jx b a))
def zN(b:AZ)(a:Y aC):Prop:=((vO b a)/\(jy (jx b a)))
theorem Wa(b:AZ)(a:Y aC):RP n8 [O ((zE (eT eS)) b),O ((zE (eT aG)) a)] (λr=>Ap.rt ((oE (eT eS)) r)) (zM b a) (O (zN b a)):=R.tp (cU (λr=>r) (An Cd (OP (An V9 (bV (ao 0 (zE (eT eS)) b Y2) (bV (ao 1 (zE (eT aG)) a Y2) aX))) aX)) (λ_=>Y2) λ_=>Y2)
theorem Wb:∀v bs,(aZ (eT eS) (aZ (eT aG) aN)) v bs->bs.length=2/\(hold (O (zN v.1 v.2.1))->jq (bs.map lend)=O ((oE (eT eS)) (zM v.1 v.2.1))):=by
 rintro⟨b,a,_⟩ _ ⟨_,rfl,⟨_,rfl,rfl⟩⟩;exact⟨rfl,λh=>cF (g:=n8) (n:=2) (bs:=[.z (eT eS b),.z (eT aG a)]) (Wa b a) h⟩
def gA(a:dw):(Y AZ):=(zM a.1 a.2.1)
def lU(a:dw):Prop:=(zN a.1 a.2.1)
theorem Wc(a:dw):RP u0 [O (zE bL a)] (λr=>Ap.rt ((oE (eT eS)) r)) (gA a) (O (lU a)):=R.tp (cU (λr=>r) (An Wb (bV (bQ (ao 0 (zE bL) a Y2) (λq=>q.1) (eT eS) 0 λ_=>Y2) (bV (bQ (ao 0 (zE bL) a Y2) (λq=>q.2.1) (eT aG) 1 λ_=>Y2) aX))) (λ_=>Y2) λ_=>Y2)
theorem zO:∀v bs,(aZ bL aN) v bs->bs.length=1/\(hold (O (lU v.1))->oh (bs.map lend)=O ((oE (eT eS)) (gA v.1))):=by
 rintro⟨a,_⟩ _ ⟨_,rfl,rfl⟩;exact⟨rfl,λh=>cF (g:=u0) (n:=1) (bs:=[.z (bL a)]) (Wc a) h⟩
def iR(c:dw):(Y dw):=(let q1:=c;((gA c).map λa:AZ=>(a,((q1.2.1.filter λvx:aC=>(decide (vx.2.1∈a))).map λvx:aC=>vx),((q1.2.2.filter λb:dM=>((decide (b.1∈a))&&(decide (b.2.1∈a)))).map λb:dM=>b))))
def rP(a:dw):Prop:=(let q1:=a;(((lU a)/\(gA a).length<=100000)/\(∀b∈(gA a),(q1.2.1.length<=100000/\q1.2.2.length<=100000))))
theorem J0(a:dw):RP m7 [O (zE bL a),Y3,Y3,Y3] (λr=>Ap.rt (oE bL r)) (iR a) (O (rP a)):=R.tp (Jm (ao 0 (zE bL) a Y2) _ (λ_=>Y2) λq1=>(cU (λr=>r) (VH (PL (mU (An zO (bV (ao 0 (zE bL) a Y2) aX)))) _ (λ_=>Y2) (λb:AZ=>(gY (ao 2 (zE (eT eS)) b Y2) (jH (mU (Bh (Fv (ao 0 (zE (eT aG)) q1.2.1 Y2)) _ (λ_=>Y2) (λvx:aC=>(cW (SM (bQ (ao 1 (zE aG) vx Y2) (λq=>q.2.1) eS 1 λ_=>Y2) (ao 0 (zE (eT eS)) b Y2)))) (λvx:aC=>(ao 1 (zE aG) vx Y2)) (λ_=>Y2) λ_=>Y2))) (jH (mU (Bh (Fv (ao 1 (zE (eT dW)) q1.2.2 Y2)) _ (λ_=>Y2) (λc:dM=>(Xr (cW (SM (bQ (ao 1 (zE dW) c Y2) (λq=>q.1) eS 0 λ_=>Y2) (ao 0 (zE (eT eS)) b Y2))) (cW (SM (bQ (ao 1 (zE dW) c Y2) (λq=>q.2.1) eS 1 λ_=>Y2) (ao 0 (zE (eT eS)) b Y2))))) (λc:dM=>(ao 1 (zE dW) c Y2)) (λ_=>Y2) λ_=>Y2)))))) (λ_=>Y2) λ_=>Y2))
theorem J1:∀v bs,(aZ bL aN) v bs->bs.length=1/\(hold (O (rP v.1))->ni (bs.map lend)=O ((oE bL) (iR v.1))):=by
 rintro⟨a,_⟩ _ ⟨_,rfl,rfl⟩;exact⟨rfl,λh=>cF (g:=m7) (n:=4) (bs:=[.z (bL a)]) (J0 a) h⟩
def uK(a:dw):Unit:=(let q1:=a;(if((!q1.2.2.isEmpty)&&((decide ((8:Int)<(q1.1.length:Int)))||(decide ((12:Int)<(q1.2.1.length:Int)))))=true then default else()))
def oO(a:dw):Prop:=(let q1:=a;(((!q1.2.2.isEmpty)&&((decide ((8:Int)<(q1.1.length:Int)))||(decide ((12:Int)<(q1.2.1.length:Int)))))=true->False))
theorem Du(a:dw):RP j7 [O (zE bL a),Y3,Y3,Y3] (λ_:Unit=>Ap.nx [O (zE bL a),Y3,Y3,Y3]) (uK a) (O (oO a)):=R.tp (bJ (Jm (ao 0 (zE bL) a Y2) _ (λ_=>Y2) λq1=>(bJ (mj (Xr (jp (ao 3 (zE (eT dW)) q1.2.2 Y2)) (VF (cW (Zk (w5 (ao 1 (zE (eT eS)) q1.1 Y2)) (B5 8))) (cW (Zk (w5 (ao 2 (zE (eT aG)) q1.2.1 Y2)) (B5 12))))) (bJ XB) (bT (bT (bM () Y2)))))))
theorem Dv:∀v bs,(aZ bL aN) v bs->bs.length=1/\(hold (O (oO v.1))->j8 (bs.map lend)=O ((zE eN) (uK v.1))):=by
 rintro⟨a,_⟩ _ ⟨_,rfl,rfl⟩;exact⟨rfl,λh=>Sb (g:=j7) (n:=4) (bs:=[.z (bL a)]) (Du a).r h⟩
def jd(a:Y aC):Int:=(a.map λvx:aC=>vx.1).sum
def pP(a:Y aC):Prop:=(a.length<=100000/\EE (a.map λvx:aC=>vx.1)=true)
theorem T5(a:Y aC):RP mC [O ((zE (eT aG)) a)] (λr=>Ap.rt (zE eI r)) (jd a) (O (pP a)):=R.tp (cU (λr=>r) (NX (mU (mV (Fv (ao 0 (zE (eT aG)) a Y2)) _ (λ_=>Y2) (λvx:aC=>(bQ (ao 0 (zE aG) vx Y2) (λq=>q.1) eI 0 λ_=>Y2)) λ_=>Y2))) (λ_=>Y2) λ_=>Y2)
theorem Ey:∀v bs,(aZ (eT aG) aN) v bs->bs.length=1/\(hold (O (pP v.1))->dX (bs.map lend)=O ((zE eI) (jd v.1))):=by
 rintro⟨a,_⟩ _ ⟨_,rfl,rfl⟩;exact⟨rfl,λh=>cF (g:=mC) (n:=1) (bs:=[.z (eT aG a)]) (T5 a) h⟩
def fW(a:Y aC):Int:=(a.map λvx:aC=>vx.1).sum
def fX(a:Y aC):Prop:=(a.length<=100000/\EE (a.map λvx:aC=>vx.1)=true)
theorem Lj(a:Y aC)(b:Lp fj (a.map aG)):RP mC [O fj] (λr=>Ap.rt (zE eI r)) (fW a) (O (fX a)):=R.tp (cU (λr=>r) (NX (mU (mV (PL (eG 0 aG a b Y2)) _ (λ_=>Y2) (λvx:aC=>(bQ (ao 0 (zE aG) vx Y2) (λq=>q.1) eI 0 λ_=>Y2)) λ_=>Y2))) (λ_=>Y2) λ_=>Y2)
theorem uh:∀v bs,(aL aG aN) v bs->bs.length=1/\(hold (O (fX v.1))->dX (bs.map lend)=O ((zE eI) (fW v.1))):=by
 rintro⟨a,_⟩ _ ⟨fj,_,rfl,b,rfl⟩;exact⟨rfl,λh=>cF (g:=mC) (n:=1) (bs:=[lend fj]) (Lj a (lZ b)) h⟩
def qt(a:(Y (AJ×AJ)))(q1:aC):(Y (AJ×AJ)):=(let a:=(nJ a (look a q1.2.1) (look a q1.2.2.1));a)
def wA(a:(Y (AJ×AJ)))(q1:aC):Prop:=((has a q1.2.1=true/\has a q1.2.2.1=true)/\(nM a (look a q1.2.1) (look a q1.2.2.1)))
theorem Ge(b:AZ)(c:Y aC)(d:Lp b_1 (c.map aG))(a:(Y (AJ×AJ)))(q1:aC):RP uc [O ((zE (eT eS)) b),O b_1,O (mE eS a),O ((zE eI) q1.1),O ((zE eS) q1.2.1),O ((zE eS) q1.2.2.1),O ((zE eI) q1.2.2.2)] (λs=>Ap.nx ((λa:(Y (AJ×AJ))=>[O ((zE (eT eS)) b),O b_1,O (mE eS a),Y3,Y3,Y3,Y3]) s)) (qt  a q1) (O (wA  a q1)):=R.tp (bJ (NJ Y3 2 a Y2 Ca (bV (jO (ao 2 (nE eS) a Y2) (ao 4 (zE eS) q1.2.1 Y2)) (bV (jO (ao 2 (nE eS) a Y2) (ao 5 (zE eS) q1.2.2.1 Y2)) aX)) λa=>(bT (bM a Y2))))
def dU(c:AZ)(b:Y aC):(Y (AJ×AJ)):=(let a:=(cY c);(let a:(Y (AJ×AJ)):=(b.foldl (λ(a:(Y (AJ×AJ))) (q1:aC)=>(qt  a q1)) a);a))
def jz(b:AZ)(c:Y aC):Prop:=((nH b)/\(let a:=(cY b);nU (λ(a:(Y (AJ×AJ))) (q1:aC)=>(qt  a q1)) (λ(a:(Y (AJ×AJ))) (q1:aC)=>O (wA  a q1)) c a))
theorem Qq(b:AZ)(c:Y aC)(d:Lp b_1 (c.map aG)):RP n6 [O ((zE (eT eS)) b),O b_1,Y3,Y3,Y3,Y3,Y3] (λr=>Ap.rt (mE eS r)) (dU b c) (O (jz b c)):=R.tp (bA 2 (An BZ (bV (ao 0 (zE (eT eS)) b Y2) aX)) (λ_=>Y2) λa=>(Jq 1 c (NG d Y2) (λa:(Y (AJ×AJ))=>[O ((zE (eT eS)) b),O b_1,O (mE eS a),Y3,Y3,Y3,Y3]) a Y2 _ (λ_ _=>Y2) (λ(a:(Y (AJ×AJ))) (q1:aC)=>(Ge b c d a q1).r) λa=>(Jl 2 (λr=>r) a Y2 (λ_=>Y2) λ_=>Y2)))
theorem Ce:∀v bs,(aZ (eT eS) (aL aG aN)) v bs->bs.length=2/\(hold (O (jz v.1 v.2.1))->lO (bs.map lend)=O ((mE eS) (dU v.1 v.2.1))):=by
 rintro⟨a,b,_⟩ _ ⟨_,rfl,⟨b_1,_,rfl,c,rfl⟩⟩;exact⟨rfl,λh=>cF (g:=n6) (n:=7) (bs:=[.z (eT eS a),lend b_1]) (Qq a b (lZ c)) h⟩
def bK(vx:aC)(vs:AJ):(S AJ):=(if(decide (vx.2.1=vs))=true then(O vx.2.2.1)else(if(decide (vx.2.2.1=vs))=true then(O vx.2.1)else Y3))
theorem T6(vx:aC)(vs:AJ):RP sS [O (zE aG vx),O (zE eS vs)] (λr=>Ap.rt ((zE (eO eS)) r)) (bK vx vs) Y3:=R.tp (mj (cW (BI (by decide) (bQ (ao 0 (zE aG) vx Y2) (λq=>q.2.1) eS 1 λ_=>Y2) (ao 1 (zE eS) vs Y2))) (bJ (cU (λr=>r) (Jd (bQ (ao 0 (zE aG) vx Y2) (λq=>q.2.2.1) eS 2 λ_=>Y2)) (λ_=>Y2) λ_=>Y2)) (bT (mj (cW (BI (by decide) (bQ (ao 0 (zE aG) vx Y2) (λq=>q.2.2.1) eS 2 λ_=>Y2) (ao 1 (zE eS) vs Y2))) (bJ (cU (λr=>r) (Jd (bQ (ao 0 (zE aG) vx Y2) (λq=>q.2.1) eS 1 λ_=>Y2)) (λ_=>Y2) λ_=>Y2)) (bT (cU (λr=>r) Px (λ_=>Y2) λ_=>Y2)))))
theorem Ez:∀v bs,(aZ aG (aZ eS aN)) v bs->bs.length=2/\(hold (Y3)->mD (bs.map lend)=O ((zE (eO eS)) (bK v.1 v.2.1))):=by
 rintro⟨vx,vs,_⟩ _ ⟨_,rfl,⟨_,rfl,rfl⟩⟩;exact⟨rfl,λh=>cF (g:=sS) (n:=2) (bs:=[.z (aG vx),.z (eS vs)]) (T6 vx vs) h⟩
def fY(b:(Y (AJ×(S aC))))(a:(Y aC)×AJ):wC ((Y aC)×AJ) (Y aC):=(let d:=a.1++[((look b a.2).getD default)];(let c:=((bK ((look b a.2).getD default) a.2).getD default);(wC.nx (d,c))))
def lF(b:(Y (AJ×(S aC))))(a:(Y aC)×AJ):Prop:=(((has b a.2=true/\(look b a.2).isSome=true)/\zH a.1.length)/\(let c:=a.1++[((look b a.2).getD default)];((has b a.2=true/\(look b a.2).isSome=true)/\(bK ((look b a.2).getD default) a.2).isSome=true)))
theorem Ln(b:(Y (AJ×(S aC))))(c:AJ)(a:(Y aC)×AJ):RP yX [O ((nE (eO aG)) b),O (zE eS c),O ((oE aG) a.1),O ((zE eS) a.2)] (cC (λa:(Y aC)×AJ=>[O ((nE (eO aG)) b),O (zE eS c),O ((oE aG) a.1),O ((zE eS) a.2)]) (oE aG)) (fY b a ) (O (lF b a )):=R.tp (bJ (w6 2 a.1 Y2 (wZ (jO (ao 0 (nE (eO aG)) b Y2) (ao 3 (zE eS) a.2 Y2))) λe=>(bJ (bA 3 (wZ (An Ez (bV (wZ (jO (ao 0 (nE (eO aG)) b Y2) (ao 3 (zE eS) a.2 Y2))) (bV (ao 3 (zE eS) a.2 Y2) aX)))) (λ_=>Y2) λd=>(bT (bM (.nx (e,d)) Y2))))))
def jY(b:(Y (AJ×(S aC))))(d:AJ):(Y aC):=(let e:=([]:Y aC);(let c:=d;(BS (Nr (λa:(Y aC)×AJ=>(look b a.2).isSome) (λa:(Y aC)×AJ=>((fY b a):wC ((Y aC)×AJ) (Y aC))) 70 (e,c)) (λr=>r) λa:(Y aC)×AJ=>a.1)))
def rQ(b:(Y (AJ×(S aC))))(e:AJ):Prop:=(let d:=([]:Y aC);(let c:=e;(DU (λa:(Y aC)×AJ=>(look b a.2).isSome) (λa:(Y aC)×AJ=>O (has b a.2=true)) (λa:(Y aC)×AJ=>((fY b a):wC ((Y aC)×AJ) (Y aC))) (λa:(Y aC)×AJ=>O (lF b a)) 70 (d,c)/\(Bl (Nr (λa:(Y aC)×AJ=>(look b a.2).isSome) (λa:(Y aC)×AJ=>((fY b a):wC ((Y aC)×AJ) (Y aC))) 70 (d,c)) λa:(Y aC)×AJ=>True))))
theorem Wf(b:(Y (AJ×(S aC))))(c:AJ):RP u5 [O ((nE (eO aG)) b),O (zE eS c),Y3,Y3] (λr=>Ap.rt (oE aG r)) (jY b c) (O (rQ b c)):=R.tp (bA 2 (qx (iK aG) (Zs Y2)) (λ_=>Y2) λe=>(bA 3 (ao 1 (zE eS) c Y2) (λ_=>Y2) λd=>(XD 70 (λa:(Y aC)×AJ=>[O ((nE (eO aG)) b),O (zE eS c),O ((oE aG) a.1),O ((zE eS) a.2)]) (e,d) Y2 (λa:(Y aC)×AJ=>(cW (Pz (jO (ao 0 (nE (eO aG)) b Y2) (ao 3 (zE eS) a.2 Y2)) λ_=>Y2))) (λa:(Y aC)×AJ=>((Ln b c a).r:R _ _ (cC (λa:(Y aC)×AJ=>[O ((nE (eO aG)) b),O (zE eS c),O ((oE aG) a.1),O ((zE eS) a.2)]) (oE aG)))) (λr=>r) (λ_=>Y2) λa=>(Jl 2 (λr=>r) a.1 Y2 (λ_=>Y2) λ_=>Y2))))
theorem Wg:∀v bs,(aM (eO aG) (aZ eS aN)) v bs->bs.length=2/\(hold (O (rQ v.1 v.2.1))->u6 (bs.map lend)=O ((oE aG) (jY v.1 v.2.1))):=by
 rintro⟨b,a,_⟩ _ ⟨_,_,rfl,(rfl|rfl),⟨_,rfl,rfl⟩⟩
 all_goals exact⟨rfl,λh=>cF (g:=u5) (n:=4) (bs:=[nE (eO aG) b,.z (eS a)]) (Wf b a) h⟩
def d7(e:AJ)(a:(Y (AJ×(S aC)))×AZ)(vx:aC):(Y (AJ×(S aC)))×AZ:=(let b:=(bK vx e);(let c:(Y (AJ×(S aC)))×AZ:=(if(b.isSome&&(!has a.1 (b.getD default)))=true then(let f:=put a.1 (b.getD default) (O vx);(let d:=a.2++[(b.getD default)];(f,d)))else(a.1,a.2));(c.1,c.2)))
def je(c:AJ)(b:(Y (AJ×(S aC)))×AZ)(vx:aC):Prop:=(let a:=(bK vx c);((a.isSome=true->a.isSome=true)/\((a.isSome&&(!has b.1 (a.getD default)))=true->((a.isSome=true/\b.1.length<1000)/\(let d:=put b.1 (a.getD default) (O vx);(a.isSome=true/\zH b.2.length))))))
theorem T7(h:Y aC)(j:Lp fj (h.map aG))(e:AJ)(f:AJ)(b:AJ)(a:(Y (AJ×(S aC)))×AZ)(vx:aC):RP Eu [O fj,O (zE eS e),O (zE eS f),O ((mE (eO aG)) a.1),O ((oE eS) a.2),O (zE eS b),O (zE aG vx),Y3] (λs=>Ap.nx ((λa:(Y (AJ×(S aC)))×AZ=>[O fj,O (zE eS e),O (zE eS f),O ((mE (eO aG)) a.1),O ((oE eS) a.2),O (zE eS b),Y3,Y3]) s)) (d7 b a vx) (O (je b a vx)):=R.tp (bJ (bA 7 (An Ez (bV (ao 6 (zE aG) vx Y2) (bV (ao 5 (zE eS) b Y2) aX))) (λ_=>Y2) λc=>(bJ (xg (λd:(Y (AJ×(S aC)))×AZ=>[O fj,O (zE eS e),O (zE eS f),O ((mE (eO aG)) d.1),O ((oE eS) d.2),O (zE eS b),O (zE aG vx),O ((zE (eO eS)) c)]) (Xr (cW (Pz (ao 7 (zE (eO eS)) c Y2) λ_=>Y2)) (cW (Mn (wZ (ao 7 (zE (eO eS)) c Y2)) (ao 3 (nE (eO aG)) a.1 Y2)))) (bJ (Xy Y3 3 a.1 Y2 (Jd (ao 6 (zE aG) vx Y2)) (wZ (ao 7 (zE (eO eS)) c Y2)) λi=>(bJ (w6 4 a.2 Y2 (wZ (ao 7 (zE (eO eS)) c Y2)) λg=>(bT (bM (i,g) Y2)))))) (bT (bM (a.1,a.2) Y2)) λd=>(bT (bM (d.1,d.2) Y2))))))
def jf(e:Y aC)(c:AZ×(Y (AJ×(S aC)))):wC (AZ×(Y (AJ×(S aC)))) (S (Y aC)):=(let b:=c.1;let d:=b.drop 1;let f:=at' b 0;(let a:(Y (AJ×(S aC)))×AZ:=(e.foldl (λ(a:(Y (AJ×(S aC)))×AZ) (vx:aC)=>(d7 f a vx)) (c.2,d));(wC.nx (a.2,a.1))))
def tB(f:Y aC)(a:AZ×(Y (AJ×(S aC)))):Prop:=(((0:Int)=0/\0<a.1.length)/\(let c:=a.1;let e:=c.drop 1;let d:=at' c 0;nU (λ(b:(Y (AJ×(S aC)))×AZ) (vx:aC)=>(d7 d b vx)) (λ(b:(Y (AJ×(S aC)))×AZ) (vx:aC)=>O (je d b vx)) f (a.2,e)))
theorem T8(c:Y aC)(f:Lp fj (c.map aG))(d:AJ)(e:AJ)(a:AZ×(Y (AJ×(S aC)))):RP Ew [O fj,O (zE eS d),O (zE eS e),O ((mE (eO aG)) a.2),O ((oE eS) a.1),Y3,Y3,Y3] (cC (λa:AZ×(Y (AJ×(S aC)))=>[O fj,O (zE eS d),O (zE eS e),O ((mE (eO aG)) a.2),O ((oE eS) a.1),Y3,Y3,Y3]) (qE aG)) (jf c a ) (O (tB c a )):=R.tp (bJ (Ps 5 4 a.1 Y2 (B5 0) λh g=>(bJ (Jq 0 c (NG f Y2) (λb:(Y (AJ×(S aC)))×AZ=>[O fj,O (zE eS d),O (zE eS e),O ((mE (eO aG)) b.1),O ((oE eS) b.2),O (zE eS g),Y3,Y3]) (a.2,h) Y2 _ (λ_ _=>Y2) (λ(b:(Y (AJ×(S aC)))×AZ) (vx:aC)=>(T7 c f d e g b vx).r) λb=>(bT (bM (.nx (b.2,b.1)) Y2))))))
def pQ(e:Y aC)(b:AJ)(c:AJ):(S (Y aC)):=(let f:=([(b,Y3)]:(Y (AJ×(S aC))));(let d:=[b];(BS (Nr (λa:AZ×(Y (AJ×(S aC)))=>(!a.1.isEmpty)) (λa:AZ×(Y (AJ×(S aC)))=>((jf e a):wC (AZ×(Y (AJ×(S aC)))) (S (Y aC)))) 70 (d,f)) (λr=>r) λa:AZ×(Y (AJ×(S aC)))=>(if(!has a.2 c)=true then Y3 else(O (jY a.2 c).reverse)))))
def xU(b:Y aC)(d:AJ)(f:AJ):Prop:=(let e:=([(d,Y3)]:(Y (AJ×(S aC))));(let c:=[d];(DU (λa:AZ×(Y (AJ×(S aC)))=>(!a.1.isEmpty)) (λa:AZ×(Y (AJ×(S aC)))=>Y3) (λa:AZ×(Y (AJ×(S aC)))=>((jf b a):wC (AZ×(Y (AJ×(S aC)))) (S (Y aC)))) (λa:AZ×(Y (AJ×(S aC)))=>O (tB b a)) 70 (c,e)/\(Bl (Nr (λa:AZ×(Y (AJ×(S aC)))=>(!a.1.isEmpty)) (λa:AZ×(Y (AJ×(S aC)))=>((jf b a):wC (AZ×(Y (AJ×(S aC)))) (S (Y aC)))) 70 (c,e)) λa:AZ×(Y (AJ×(S aC)))=>((!has a.2 f)=false->(rQ a.2 f))))))
theorem e9(d:Y aC)(f:Lp fj (d.map aG))(b:AJ)(c:AJ):RP Bw [O fj,O (zE eS b),O (zE eS c),Y3,Y3,Y3,Y3,Y3] (λr=>Ap.rt (qE aG r)) (pQ d b c) (O (xU d b c)):=R.tp (bA 3 (f7 (ao 1 (zE eS) b Y2) Px) (λ_=>Y2) λh=>(bA 4 (qx (jo (ao 1 (zE eS) b Y2) (iK eS)) (Zs Y2)) (λ_=>Y2) λg=>(XD 70 (λa:AZ×(Y (AJ×(S aC)))=>[O fj,O (zE eS b),O (zE eS c),O ((mE (eO aG)) a.2),O ((oE eS) a.1),Y3,Y3,Y3]) (g,h) Y2 (λa:AZ×(Y (AJ×(S aC)))=>(Xq (gJ (ao 4 (lE eS) a.1 Y2)))) (λa:AZ×(Y (AJ×(S aC)))=>((T8 d f b c a).r:R _ _ (cC (λa:AZ×(Y (AJ×(S aC)))=>[O fj,O (zE eS b),O (zE eS c),O ((mE (eO aG)) a.2),O ((oE eS) a.1),Y3,Y3,Y3]) (qE aG)))) (λr=>r) (λ_=>Y2) λa=>(mj (cW (Mn (ao 2 (zE eS) c Y2) (ao 3 (nE (eO aG)) a.2 Y2))) (bJ (cU (λr=>r) (XH (e:=aG)) (λ_=>Y2) (λv=>by cases v<;>rfl))) (bT (cU (λr=>r) (af (Pw (mU (An Wg (L0 (ao 3 (nE (eO aG)) a.2 Y2) (bV (ao 2 (zE eS) c Y2) aX)))))) (λ_=>Y2) (λv=>by cases v<;>rfl)))))))
theorem bi:∀v bs,(aL aG (aZ eS (aZ eS aN))) v bs->bs.length=3/\(hold (O (xU v.1 v.2.1 v.2.2.1))->BJ (bs.map lend)=O ((qE aG) (pQ v.1 v.2.1 v.2.2.1))):=by
 rintro⟨d,a,b,_⟩ _ ⟨fj,_,rfl,c,⟨_,rfl,⟨_,rfl,rfl⟩⟩⟩;exact⟨rfl,λh=>cF (g:=Bw) (n:=8) (bs:=[lend fj,.z (eS a),.z (eS b)]) (e9 d (lZ c) a b) h⟩
def cP(c:Y aC)(b:(Y (AJ×AJ)))(d:Unit)(a:dM):wC (Unit) (S (Y aC)):=(if(decide ((look b a.1)=(look b a.2.1)))=true then(wC.rt (pQ c a.1 a.2.1))else(wC.nx ()))
def lJ(c:Y aC)(b:(Y (AJ×AJ)))(d:Unit)(a:dM):Prop:=((has b a.1=true/\has b a.2.1=true)/\((decide ((look b a.1)=(look b a.2.1)))=true->(xU c a.1 a.2.1)))
theorem Gf(g:dw)(i:Y aC)(j:Lp b_1 (i.map aG))(e:AZ)(f:Y aC)(h:Y dM)(c:Y aC)(b:(Y (AJ×AJ)))(d:Unit)(a:dM):RP vY [O (zE bL g),O b_1,O ((zE (eT eS)) e),O ((zE (eT aG)) f),O ((zE (eT dW)) h),O (oE aG c),O (mE eS b),O (zE dW a)] (cC (λd:Unit=>[O (zE bL g),O b_1,O ((zE (eT eS)) e),O ((zE (eT aG)) f),O ((zE (eT dW)) h),O (oE aG c),O (mE eS b),Y3]) (qE aG)) (cP c b d a) (O (lJ c b d a)):=R.tp (bJ (mj (cW (BI (by decide) (jO (ao 6 (nE eS) b Y2) (bQ (ao 7 (zE dW) a Y2) (λq=>q.1) eS 0 λ_=>Y2)) (jO (ao 6 (nE eS) b Y2) (bQ (ao 7 (zE dW) a Y2) (λq=>q.2.1) eS 1 λ_=>Y2)))) (bJ (cU .rt (An bi (mJ (gJ (ao 5 (lE aG) c Y2)) (bV (bQ (ao 7 (zE dW) a Y2) (λq=>q.1) eS 0 λ_=>Y2) (bV (bQ (ao 7 (zE dW) a Y2) (λq=>q.2.1) eS 1 λ_=>Y2) aX)))) (λ_=>Y2) (λv=>by cases v<;>rfl))) (bT (bT (bM (.nx ()) Y2)))))
def eZ(e:dw)(d:Y aC):(S (Y aC)):=(let q1:=e;(let a:=((q1.2.1.filter λvx:aC=>(!mY vx d)).map λvx:aC=>vx);(let f:=(dU q1.1 a);(BS (xq (λ(b:Unit) (c:dM)=>((cP a f b c):wC (Unit) (S (Y aC)))) q1.2.2 ()) (λr=>r) λb:Unit=>Y3))))
def kW(f:dw)(e:Y aC):Prop:=(let q1:=f;(q1.2.1.length<=100000/\(let c:=((q1.2.1.filter λvx:aC=>(!mY vx e)).map λvx:aC=>vx);((jz q1.1 c)/\(let d:=(dU q1.1 c);(Nj (λ(a:Unit) (b:dM)=>((cP c d a b):wC (Unit) (S (Y aC)))) (λ(a:Unit) (b:dM)=>O (lJ c d a b)) q1.2.2 ()/\(Bl (xq (λ(a:Unit) (b:dM)=>((cP c d a b):wC (Unit) (S (Y aC)))) q1.2.2 ()) λa:Unit=>True)))))))
theorem Qs(a:dw)(b:Y aC)(f:Lp b_1 (b.map aG)):RP qK [O (zE bL a),O b_1,Y3,Y3,Y3,Y3,Y3,Y3] (λr=>Ap.rt (qE aG r)) (eZ a b) (O (kW a b)):=R.tp (Jm (ao 0 (zE bL) a Y2) _ (λ_=>Y2) λq1=>(bA 5 (Bh (Fv (ao 3 (zE (eT aG)) q1.2.1 Y2)) _ (λ_=>Y2) (λvx:aC=>(cW (VR (by decide) (ao 1 (zE aG) vx Y2) (eG 0 aG b f (congrArg O (f.get Y2)))))) (λvx:aC=>(ao 1 (zE aG) vx Y2)) (λ_=>Y2) λ_=>Y2) (λ_=>Y2) λc=>(bA 6 (An Ce (bV (ao 2 (zE (eT eS)) q1.1 Y2) (mJ (gJ (ao 5 (lE aG) c Y2)) aX))) (λ_=>Y2) λg=>(Sa 4 q1.2.2 (VJ Y2) (λd:Unit=>[O (zE bL a),O b_1,O ((zE (eT eS)) q1.1),O ((zE (eT aG)) q1.2.1),O ((zE (eT dW)) q1.2.2),O (oE aG c),O (mE eS g),Y3]) () Y2 _ (λ_ _=>Y2) (λ(d:Unit) (h:dM)=>((Gf a b f q1.1 q1.2.1 q1.2.2 c g d h).r:R _ _ (cC (λd:Unit=>[O (zE bL a),O b_1,O ((zE (eT eS)) q1.1),O ((zE (eT aG)) q1.2.1),O ((zE (eT dW)) q1.2.2),O (oE aG c),O (mE eS g),Y3]) (qE aG)))) (λr=>r) (λ_=>Y2) λd=>(cU (λr=>r) (XH (e:=aG)) (λ_=>Y2) (λv=>by cases v<;>rfl))))))
theorem Qt:∀v bs,(aZ bL (aL aG aN)) v bs->bs.length=2/\(hold (O (kW v.1 v.2.1))->nj (bs.map lend)=O ((qE aG) (eZ v.1 v.2.1))):=by
 rintro⟨a,b,_⟩ _ ⟨_,rfl,⟨b_1,_,rfl,c,rfl⟩⟩;exact⟨rfl,λh=>cF (g:=qK) (n:=8) (bs:=[.z (bL a),lend b_1]) (Qs a b (lZ c)) h⟩
def aJ:Nat->dw->(Y aC)->(S (Y aC))->Int->(S (Y aC))
 |0,_,_,_,_=>default
 |n+1,vz,Dw,nT,a=>(if(decide (a<=(fW (nT.getD default))))=true then Y3 else(let e:=(eZ vz (nT.getD default));(if e.isNone=true then nT else(let b:=(((e.getD []).filter λvx:aC=>(!mY vx Dw)).map λvx:aC=>vx);(if(!(!b.isEmpty))=true then Y3 else(let c:=(aJ n vz Dw (O ((nT.getD default)++(BN b Y3 (O 1)))) a);(let a:Int:=(if c.isSome=true then(let a:=(fW (c.getD default));a)else a);(let d:=(aJ n vz (Dw++(BN b Y3 (O 1))) nT a);(if d.isNone=true then c else d)))))))))
def bW:Nat->dw->(Y aC)->(S (Y aC))->Int->Prop
 |0,_,_,_,_=>False
 |n+1,vz,Dw,nT,a=>((nT.isSome=true/\(fX (nT.getD default)))/\((decide (a<=(fW (nT.getD default))))=false->((nT.isSome=true/\(kW vz (nT.getD default)))/\(let d:=(eZ vz (nT.getD default));(d.isNone=false->((d.isSome=true/\(d.getD []).length<=100000)/\(let b:=(((d.getD []).filter λvx:aC=>(!mY vx Dw)).map λvx:aC=>vx);((!(!b.isEmpty))=false->(((nT.isSome=true/\zH ((nT.getD default).length+(BN b Y3 (O 1)).length))/\(bW n vz Dw (O ((nT.getD default)++(BN b Y3 (O 1)))) a))/\(let c:=(aJ n vz Dw (O ((nT.getD default)++(BN b Y3 (O 1)))) a);((c.isSome=true->(c.isSome=true/\(fX (c.getD default))))/\(let a:Int:=(if c.isSome=true then(let a:=(fW (c.getD default));a)else a);(zH (Dw.length+(BN b Y3 (O 1)).length)/\(bW n vz (Dw++(BN b Y3 (O 1))) nT a))))))))))))))
def rR(n:Nat)(j:∀v bs,(aZ bL (aL aG (aZ (eO (eL aG)) (aZ eI aN)))) v bs->bs.length=4/\(hold (O (bW n v.1 v.2.1 v.2.2.1 v.2.2.2.1))->dB n (bs.map lend)=O ((zE (eO (eL aG))) (aJ n v.1 v.2.1 v.2.2.1 v.2.2.2.1))))(c:dw)(d:Y aC)(g:Lp b_1 (d.map aG))(b:(S (Y aC)))(a:Int):R (nq (dB n)) [O (zE bL c),O b_1,O ((zE (eO (eL aG))) b),O (zE eI a),Y3,Y3,Y3,Y3] (λr=>Ap.rt ((zE (eO (eL aG))) r)):=(mj (cW (F5 (An uh (mJ (yJ (wZ (ao 2 (zE (eO (eL aG))) b Y2))) aX)) (ao 3 (zE eI) a Y2))) (bJ (cU (λr=>r) Px (λ_=>Y2) λ_=>Y2)) (bT (bA 4 (An Qt (bV (ao 0 (zE bL) c Y2) (mJ (yJ (wZ (ao 2 (zE (eO (eL aG))) b Y2))) aX))) (λv=>by cases v<;>rfl) λh=>(mj (cW (di (Nl 4 aG h Y2))) (bJ (cU (λr=>r) (ao 2 (zE (eO (eL aG))) b Y2) (λ_=>Y2) λ_=>Y2)) (bT (bA 5 (Bh (PL (gJ (So (Nl 4 aG h Y2)))) _ (λ_=>Y2) (λvx:aC=>(cW (VR (by decide) (ao 1 (zE aG) vx Y2) (eG 0 aG d g (congrArg O (g.get Y2)))))) (λvx:aC=>(ao 1 (zE aG) vx Y2)) (λ_=>Y2) λ_=>Y2) (λ_=>Y2) λe=>(mj (Xu (Xq (gJ (ao 5 (lE aG) e Y2)))) (bJ (cU (λr=>r) Px (λ_=>Y2) λ_=>Y2)) (bT (bA 6 (An j (bV (ao 0 (zE bL) c Y2) (mJ (eG 1 aG d g Y2) (bV (Jd (Py (MC (yJ (wZ (ao 2 (zE (eO (eL aG))) b Y2))) (mU (Fk (gJ (ao 5 (lE aG) e Y2)) Zm (Zn (B5 1))))))) (bV (ao 3 (zE eI) a Y2) aX))))) (λ_=>Y2) λf=>(xg (λa:Int=>[O (zE bL c),O b_1,O ((zE (eO (eL aG))) b),O (zE eI a),O (qE aG h),O (oE aG e),O ((zE (eO (eL aG))) f),Y3]) (cW (Pz (ao 6 (zE (eO (eL aG))) f Y2) λ_=>Y2)) (bJ (bA 3 (An uh (mJ (yJ (wZ (ao 6 (zE (eO (eL aG))) f Y2))) aX)) (λ_=>Y2) λa=>(bT (bM a Y2)))) (bT (bM a Y2)) λa=>(bA 7 (An j (bV (ao 0 (zE bL) c Y2) (mJ (yJ (Py (MC (eG 1 aG d g Y2) (mU (Fk (gJ (ao 5 (lE aG) e Y2)) Zm (Zn (B5 1))))))) (bV (ao 2 (zE (eO (eL aG))) b Y2) (bV (ao 3 (zE eI) a Y2) aX))))) (λ_=>Y2) λi=>(cU (λr=>r) (jN (g3 (cW (ir (ao 7 (zE (eO (eL aG))) i Y2) λ_=>Y2)) (ao 6 (zE (eO (eL aG))) f Y2) (ao 7 (zE (eO (eL aG))) i Y2))) (λ_=>Y2) λ_=>Y2))))))))))))
theorem Gg(n:Nat)(f:∀v bs,(aZ bL (aL aG (aZ (eO (eL aG)) (aZ eI aN)))) v bs->bs.length=4/\(hold (O (bW n v.1 v.2.1 v.2.2.1 v.2.2.2.1))->dB n (bs.map lend)=O ((zE (eO (eL aG))) (aJ n v.1 v.2.1 v.2.2.1 v.2.2.2.1))))(d:dw)(a:Y aC)(e:Lp b_1 (a.map aG))(c:(S (Y aC)))(b:Int):(rR n f d a e c b).v=aJ (n+1) d a c b:=by kernel_rfl
theorem Gh(n:Nat)(f:∀v bs,(aZ bL (aL aG (aZ (eO (eL aG)) (aZ eI aN)))) v bs->bs.length=4/\(hold (O (bW n v.1 v.2.1 v.2.2.1 v.2.2.2.1))->dB n (bs.map lend)=O ((zE (eO (eL aG))) (aJ n v.1 v.2.1 v.2.2.1 v.2.2.2.1))))(d:dw)(a:Y aC)(e:Lp b_1 (a.map aG))(c:(S (Y aC)))(b:Int):(rR n f d a e c b).D=O (bW (n+1) d a c b):=by kernel_rfl
theorem nO:∀(n:Nat),∀v bs,(aZ bL (aL aG (aZ (eO (eL aG)) (aZ eI aN)))) v bs->bs.length=4/\(hold (O (bW n v.1 v.2.1 v.2.2.1 v.2.2.2.1))->dB n (bs.map lend)=O ((zE (eO (eL aG))) (aJ n v.1 v.2.1 v.2.2.1 v.2.2.2.1)))
 |0=>by
  rintro⟨c,d,b,a,_⟩ _ ⟨_,rfl,⟨b_1,_,rfl,e,⟨_,rfl,⟨_,rfl,rfl⟩⟩⟩⟩;exact⟨rfl,λh=>absurd h id⟩
 |n+1=>by
  rintro⟨c,d,b,a,_⟩ _ ⟨_,rfl,⟨b_1,_,rfl,e,⟨_,rfl,⟨_,rfl,rfl⟩⟩⟩⟩;exact⟨rfl,λh=>(Md (g:=nq (dB n)) (n:=8) (bs:=[.z (bL c),lend b_1,.z ((eO (eL aG)) b),.z (eI a)]) (rR n (nO n) c d (lZ e) b a) ((congrArg hold (Gh n (nO n) c d (lZ e) b a)).mpr h)).trans (congrArg (λr=>O ((zE (eO (eL aG))) r)) (Gg n (nO n) c d (lZ e) b a))⟩
def nP(b:AZ)(a:Y aC):(Y AZ):=(eY (dU b a))
def nQ(b:AZ)(a:Y aC):Prop:=((jz b a)/\(jy (dU b a)))
theorem Qu(b:AZ)(a:Y aC)(c:Lp b_1 (a.map aG)):RP n8 [O ((zE (eT eS)) b),O b_1] (λr=>Ap.rt ((oE (eT eS)) r)) (nP b a) (O (nQ b a)):=R.tp (cU (λr=>r) (An Cd (OP (An Ce (bV (ao 0 (zE (eT eS)) b Y2) (mJ (eG 1 aG a c Y2) aX))) aX)) (λ_=>Y2) λ_=>Y2)
theorem Ci:∀v bs,(aZ (eT eS) (aL aG aN)) v bs->bs.length=2/\(hold (O (nQ v.1 v.2.1))->jq (bs.map lend)=O ((oE (eT eS)) (nP v.1 v.2.1))):=by
 rintro⟨a,b,_⟩ _ ⟨_,rfl,⟨b_1,_,rfl,c,rfl⟩⟩;exact⟨rfl,λh=>cF (g:=n8) (n:=2) (bs:=[.z (eT eS a),lend b_1]) (Qu a b (lZ c)) h⟩
def dN(a:dw):(Y AZ):=(let q1:=a;(let b:=(aJ fuel a [] (O []) ((jd q1.2.1)+1));(nP q1.1 ((q1.2.1.filter λvx:aC=>(!mY vx (b.getD default))).map λvx:aC=>vx))))
def pU(a:dw):Prop:=(let q1:=a;(((pP q1.2.1)/\(bW fuel a [] (O []) ((jd q1.2.1)+1)))/\(let b:=(aJ fuel a [] (O []) ((jd q1.2.1)+1));((q1.2.1.length<=100000/\(∀vx∈q1.2.1,b.isSome=true))/\(nQ q1.1 ((q1.2.1.filter λvx:aC=>(!mY vx (b.getD default))).map λvx:aC=>vx))))))
theorem T9(a:dw):RP sU [O (zE bL a),Y3,Y3,Y3,Y3] (λr=>Ap.rt ((oE (eT eS)) r)) (dN a) (O (pU a)):=R.tp (Jm (ao 0 (zE bL) a Y2) _ (λ_=>Y2) λq1=>(bA 4 (An (nO fuel) (bV (ao 0 (zE bL) a Y2) (mJ (yJ (Py (qx (iK aG) (Zs Y2)))) (bV (Jd (Py (qx (iK aG) (Zs Y2)))) (bV (jN (fB (An Ey (bV (ao 2 (zE (eT aG)) q1.2.1 Y2) aX)) (B5 1))) aX))))) (λ_=>Y2) λb=>(cU (λr=>r) (An Ci (bV (ao 1 (zE (eT eS)) q1.1 Y2) (mJ (yJ (Py (Bg (Fv (ao 2 (zE (eT aG)) q1.2.1 Y2)) _ (λ_=>Y2) (λvx:aC=>(cW (VR (by decide) (ao 1 (zE aG) vx Y2) (yJ (wZ (ao 0 (zE (eO (eL aG))) b Y2)))))) (λvx:aC=>(ao 1 (zE aG) vx Y2))))) aX))) (λ_=>Y2) λ_=>Y2)))
theorem Ua:∀v bs,(aZ bL aN) v bs->bs.length=1/\(hold (O (pU v.1))->sV (bs.map lend)=O ((oE (eT eS)) (dN v.1))):=by
 rintro⟨a,_⟩ _ ⟨_,rfl,rfl⟩;exact⟨rfl,λh=>cF (g:=sU) (n:=5) (bs:=[.z (bL a)]) (T9 a) h⟩
def gB(a:Y AZ):(Y (AJ×Int)):=(Do ((xJ a).flatMap λq1:GY=>(q1.2.map λvs:AJ=>(vs,q1.1))))
def rT(a:Y AZ):Prop:=((∀q1∈(xJ a),(∀vs∈q1.2,True))/\((xJ a).flatMap λq1:GY=>(q1.2.map λvs:AJ=>(vs,q1.1))).length<1000)
theorem Wi(a:Y AZ)(b:Lp fj (a.map (eT eS))):RP u9 [O fj] (λr=>Ap.rt (mE eI r)) (gB a) (O (rT a)):=R.tp (cU (λr=>r) (Th (MY (U1 (eG 0 (eT eS) a b Y2)) _ (λ_=>Y2) (λq1:GY=>(L4 (UB (ao 1 (zE (eT eS)) q1.2 Y2)) _ (λ_=>Y2) (λvs:AJ=>(Xz (ao 2 (zE eS) vs Y2) (ao 0 (zE eI) q1.1 Y2))))))) (λ_=>Y2) λ_=>Y2)
theorem J3:∀v bs,(aL (eT eS) aN) v bs->bs.length=1/\(hold (O (rT v.1))->ou (bs.map lend)=O ((mE eI) (gB v.1))):=by
 rintro⟨b,_⟩ _ ⟨fj,_,rfl,a,rfl⟩;exact⟨rfl,λh=>cF (g:=u9) (n:=1) (bs:=[lend fj]) (Wi b (lZ a)) h⟩
def cJ(c:Y AZ)(b:Y aC):(Y aC):=(let a:=(gB c);((b.filter λvx:aC=>(decide ((look a vx.2.1)=(look a vx.2.2.1)))).map λvx:aC=>vx))
def iT(b:Y AZ)(a:Y aC):Prop:=((rT b)/\(let c:=(gB b);(a.length<=100000/\(∀vx∈a,(has c vx.2.1=true/\has c vx.2.2.1=true)))))
theorem Dy(b:Y AZ)(d:Lp fj (b.map (eT eS)))(a:Y aC):RP j9 [O fj,O ((zE (eT aG)) a),Y3] (λr=>Ap.rt (oE aG r)) (cJ b a) (O (iT b a)):=R.tp (bA 2 (An J3 (mJ (eG 0 (eT eS) b d Y2) aX)) (λ_=>Y2) λc=>(cU (λr=>r) (Bg (Fv (ao 1 (zE (eT aG)) a Y2)) _ (λ_=>Y2) (λvx:aC=>(cW (BI (by decide) (jO (ao 0 (nE eI) c Y2) (bQ (ao 1 (zE aG) vx Y2) (λq=>q.2.1) eS 1 λ_=>Y2)) (jO (ao 0 (nE eI) c Y2) (bQ (ao 1 (zE aG) vx Y2) (λq=>q.2.2.1) eS 2 λ_=>Y2))))) (λvx:aC=>(ao 1 (zE aG) vx Y2))) (λ_=>Y2) λ_=>Y2))
theorem uL:∀v bs,(aL (eT eS) (aZ (eT aG) aN)) v bs->bs.length=2/\(hold (O (iT v.1 v.2.1))->fZ (bs.map lend)=O ((oE aG) (cJ v.1 v.2.1))):=by
 rintro⟨c,a,_⟩ _ ⟨fj,_,rfl,b,⟨_,rfl,rfl⟩⟩;exact⟨rfl,λh=>cF (g:=j9) (n:=3) (bs:=[lend fj,.z (eT aG a)]) (Dy c (lZ b) a) h⟩
def qX(a:Unit)(b:dw):Unit:=()
def Cj(b:Unit)(a:dw):Prop:=(oO a)
theorem Qv(d:dw)(c:Y dw)(b:Unit)(a:dw):RP BK [O (zE bL d),O (lE bL c),O (zE bL a),Y3,Y3] (λs=>Ap.nx ((λb:Unit=>[O (zE bL d),O (lE bL c),Y3,Y3,Y3]) s)) (qX  b a) (O (Cj  b a)):=R.tp (bJ (c9 (An Dv (bV (ao 2 (zE bL) a Y2) aX)) (bT (bM () Y2))))
def bG(a:dw):EZ:=(let d:=(iR a);(let f:Unit:=(d.foldl (λ(f:Unit) (b:dw)=>(qX  f b)) ());(let e:=(rJ (d.flatMap λb:dw=>((dN b).map λg:AZ=>g)));(let c:=(fW (cJ e a.2.1));(e,c,((jd a.2.1)-c))))))
def dO(d:dw):Prop:=((rP d)/\(let c:=(iR d);(nU (λ(e:Unit) (a:dw)=>(qX  e a)) (λ(e:Unit) (a:dw)=>O (Cj  e a)) c ()/\(let e:Unit:=(c.foldl (λ(e:Unit) (a:dw)=>(qX  e a)) ());((((∀a∈c,((pU a)/\(∀b∈(dN a),True)))/\(c.flatMap λa:dw=>((dN a).map λb:AZ=>b)).length<=100000)/\((c.flatMap λa:dw=>((dN a).map λb:AZ=>b)).length<64/\∀x∈(c.flatMap λa:dw=>((dN a).map λb:AZ=>b)),x.isEmpty=false))/\(let f:=(rJ (c.flatMap λa:dw=>((dN a).map λb:AZ=>b)));(((iT f d.2.1)/\(fX (cJ f d.2.1)))/\(let g:=(fW (cJ f d.2.1));(pP d.2.1)))))))))
theorem Zv(a:dw):RP yx [O (zE bL a),Y3,Y3,Y3,Y3] (λr=>Ap.rt (zE jJ r)) (bG a) (O (dO a)):=R.tp (bA 1 (An J1 (bV (ao 0 (zE bL) a Y2) aX)) (λ_=>Y2) λb=>(Jq 1 b (WG Y2) (λe:Unit=>[O (zE bL a),O (lE bL b),Y3,Y3,Y3]) () Y2 _ (λ_ _=>Y2) (λ(e:Unit) (f:dw)=>(Qv a b e f).r) λe=>(bA 3 (XC (mU (XI (MY (PL (gJ (ao 1 (lE bL) b Y2))) _ (λ_=>Y2) (λf:dw=>(L4 (Gc (An Ua (bV (ao 0 (zE bL) f Y2) aX))) _ (λ_=>Y2) (λg:AZ=>(ao 1 (zE (eT eS)) g Y2)))))))) (λ_=>Y2) λd=>(bA 4 (An uh (mJ (yJ (Py (An uL (mJ (gJ (ao 3 (lE (eT eS)) d Y2)) (bV (bQ (ao 0 (zE bL) a Y2) (λq=>q.2.1) (eT aG) 1 λ_=>Y2) aX))))) aX)) (λ_=>Y2) λc=>(VA 3 [O (zE bL a),O (lE bL b),Y3,O ((zE (eL (eT eS))) d),O (zE eI c)] Y2 (cU (λr=>r) (gY (ao 3 (zE (eL (eT eS))) d Y2) (ao 4 (zE eI) c Y2) (Bf (An Ey (bV (bQ (ao 0 (zE bL) a Y2) (λq=>q.2.1) (eT aG) 1 λ_=>Y2) aX)) (ao 4 (zE eI) c Y2))) (λ_=>Y2) λ_=>Y2))))))
theorem iU:∀v bs,(aZ bL aN) v bs->bs.length=1/\(hold (O (dO v.1))->gO (bs.map lend)=O ((zE jJ) (bG v.1))):=by
 rintro⟨a,_⟩ _ ⟨_,rfl,rfl⟩;exact⟨rfl,λh=>cF (g:=yx) (n:=5) (bs:=[.z (bL a)]) (Zv a) h⟩
def fD(b:Y aC):(Y aC):=(let a:=(mq aG (b.map λq1:aC=>(((0:Int)-q1.1),q1.2.1,q1.2.2.1,q1.2.2.2)));(a.map λq2:aC=>(((0:Int)-q2.1),q2.2.1,q2.2.2.1,q2.2.2.2)))
def jD(a:Y aC):Prop:=((a.length<=100000/\(a.map λq1:aC=>(((0:Int)-q1.1),q1.2.1,q1.2.2.1,q1.2.2.2)).length<64)/\(let b:=(mq aG (a.map λq1:aC=>(((0:Int)-q1.1),q1.2.1,q1.2.2.1,q1.2.2.2)));b.length<=100000))
theorem Gi(a:Y aC):RP jE [O ((zE (eT aG)) a),Y3] (λr=>Ap.rt ((zE (eT aG)) r)) (fD a) (O (jD a)):=R.tp (bA 1 (OM (mU (mV (Fv (ao 0 (zE (eT aG)) a Y2)) _ (λ_=>Y2) (λq1:aC=>(tZ (Bf (B5 0) (ao 0 (zE eI) q1.1 Y2)) (ao 1 (zE eS) q1.2.1 Y2) (ao 2 (zE eS) q1.2.2.1 Y2) (ao 3 (zE eI) q1.2.2.2 Y2))) λ_=>Y2))) (λ_=>Y2) λb=>(cU (λr=>r) (jH (mU (mV (PL (gJ (ao 1 (lE aG) b Y2))) _ (λ_=>Y2) (λq2:aC=>(tZ (Bf (B5 0) (ao 0 (zE eI) q2.1 Y2)) (ao 1 (zE eS) q2.2.1 Y2) (ao 2 (zE eS) q2.2.2.1 Y2) (ao 3 (zE eI) q2.2.2.2 Y2))) λ_=>Y2))) (λ_=>Y2) λ_=>Y2))
theorem wB:∀v bs,(aZ (eT aG) aN) v bs->bs.length=1/\(hold (O (jD v.1))->eV (bs.map lend)=O ((zE (eT aG)) (fD v.1))):=by
 rintro⟨a,_⟩ _ ⟨_,rfl,rfl⟩;exact⟨rfl,λh=>cF (g:=jE) (n:=2) (bs:=[.z (eT aG a)]) (Gi a) h⟩
def fG(d:B7)(c:AZ)(a:Y aC)(b:Int):(Y aC):=(let a:(Y aC):=(if(decide ((0:Int)<((at' d (2+b))%3)))=true then(let a:=a++[((1+((at' d 1)%9)),(at' c b),(at' c (b+1)),b)];a)else a);a)
def qu(b:B7)(c:AZ)(d:Y aC)(a:Int):Prop:=(In b.length (2+a)/\((decide ((0:Int)<((at' b (2+a))%3)))=true->((In b.length 1/\(In c.length a/\In c.length (a+1)))/\zH d.length)))
theorem Gj(d:B7)(f:Lp fj (d.map eI))(e:Int)(c:AZ)(a:Y aC)(b:Int):RP vZ [O fj,O (zE eI e),O (oE eS c),O (oE aG a),O (zE eI b),Y3] (λs=>Ap.nx ((λa:(Y aC)=>[O fj,O (zE eI e),O (oE eS c),O (oE aG a),Y3,Y3]) s)) (fG d c a b) (O (qu d c a b)):=R.tp (bJ (xg (λa:(Y aC)=>[O fj,O (zE eI e),O (oE eS c),O (oE aG a),O (zE eI b),Y3]) (cW (Zk (d9 (iW (eG 0 eI d f Y2) (fB (B5 2) (ao 4 (zE eI) b Y2))) 3 (by decide)) (B5 0))) (bJ (w6 3 a Y2 (tZ (jN (fB (B5 1) (d9 (iW (eG 0 eI d f Y2) (B5 1)) 9 (by decide)))) (iW (gJ (ao 2 (lE eS) c Y2)) (ao 4 (zE eI) b Y2)) (iW (gJ (ao 2 (lE eS) c Y2)) (fB (ao 4 (zE eI) b Y2) (B5 1))) (ao 4 (zE eI) b Y2)) λa=>(bT (bM a Y2)))) (bT (bM a Y2)) λa=>(bT (bM a Y2))))
def fK(e:B7):dw:=(let d:=(1+((at' e 0)%3));(let c:=((rng 0 d.toNat).map λf:Int=>(("zzzzzzz":AJ)++(ch ("abc":AJ) f)));(let a:=([]:Y aC);(let a:(Y aC):=((rng 0 (d-1).toNat).foldl (λ(a:Y aC) (f:Int)=>(fG e c a f)) a);(let a:=a;(let b:=([]:Y dM);(let b:(Y dM):=(if((decide (d=3))&&(decide (((at' e 4)%2)=1)))=true then(let b:=b++[((at' c 0),(at' c 2),(0:Int))];b)else b);(c,(fD a),b))))))))
def nR(d:B7):Prop:=(In d.length 0/\(let b:=(1+((at' d 0)%3));(((Rg b/\(rng 0 b.toNat).length<=100000)/\(∀c∈(rng 0 b.toNat),(In ("abc":AJ).length c/\zH (("zzzzzzz":AJ).length+(ch ("abc":AJ) c).length))))/\(let e:=((rng 0 b.toNat).map λc:Int=>(("zzzzzzz":AJ)++(ch ("abc":AJ) c)));(let a:=([]:Y aC);((Rg (b-1)/\nU (λ(a:Y aC) (c:Int)=>(fG d e a c)) (λ(a:Y aC) (c:Int)=>O (qu d e a c)) (rng 0 (b-1).toNat) a)/\(let a:(Y aC):=((rng 0 (b-1).toNat).foldl (λ(a:Y aC) (c:Int)=>(fG d e a c)) a);(let a:=a;(let f:=([]:Y dM);((((decide (b=3))=true->In d.length 4)/\(((decide (b=3))&&(decide (((at' d 4)%2)=1)))=true->((In e.length 0/\In e.length 2)/\zH f.length)))/\(let f:(Y dM):=(if((decide (b=3))&&(decide (((at' d 4)%2)=1)))=true then(let f:=f++[((at' e 0),(at' e 2),(0:Int))];f)else f);(jD a))))))))))))
theorem Qx(e:B7)(f:Lp fj (e.map eI)):RP qL [O fj,Y3,Y3,Y3,Y3,Y3] (λr=>Ap.rt (zE bL r)) (fK e) (O (nR e)):=R.tp (bA 1 (fB (B5 1) (d9 (iW (eG 0 eI e f Y2) (B5 0)) 3 (by decide))) (λ_=>Y2) λc=>(bA 2 (VH (Em (ao 1 (zE eI) c Y2)) _ (λ_=>Y2) (λg:Int=>(jN (VG (He "zzzzzzz") (Xv (He "abc") (ao 0 (zE eI) g Y2)))))) (λ_=>Y2) λd=>(bA 3 (qx (iK aG) (Zs Y2)) (λ_=>Y2) λa=>(Jo (λa:(Y aC)=>[O fj,O (zE eI c),O (oE eS d),O (oE aG a),Y3,Y3]) a Y2 (Em (Bf (ao 1 (zE eI) c Y2) (B5 1))) _ (λ_ _=>Y2) (λ(a:Y aC) (g:Int)=>(Gj e f c d a g).r) λa=>(bA 3 (jH (gJ (ao 3 (lE aG) a Y2))) (λ_=>Y2) λa=>(bA 5 (qx (iK dW) (Zs Y2)) (λ_=>Y2) λb=>(xg (λb:(Y dM)=>[O fj,O (zE eI c),O (oE eS d),O ((zE (eT aG)) a),Y3,O (oE dW b)]) (Xr (cW (BI (by decide) (ao 1 (zE eI) c Y2) (B5 3))) (cW (BI (by decide) (d9 (iW (eG 0 eI e f Y2) (B5 4)) 2 (by decide)) (B5 1)))) (bJ (w6 5 b Y2 (gY (iW (gJ (ao 2 (lE eS) d Y2)) (B5 0)) (iW (gJ (ao 2 (lE eS) d Y2)) (B5 2)) (B5 0)) λb=>(bT (bM b Y2)))) (bT (bM b Y2)) λb=>(cU (λr=>r) (gY (jH (gJ (ao 2 (lE eS) d Y2))) (jN (An wB (bV (ao 3 (zE (eT aG)) a Y2) aX))) (jH (gJ (ao 5 (lE dW) b Y2)))) (λ_=>Y2) λ_=>Y2))))))))
theorem Qy:∀v bs,(aL eI aN) v bs->bs.length=1/\(hold (O (nR v.1))->qM (bs.map lend)=O ((zE bL) (fK v.1))):=by
 rintro⟨a,_⟩ _ ⟨fj,_,rfl,b,rfl⟩;exact⟨rfl,λh=>cF (g:=qL) (n:=6) (bs:=[lend fj]) (Qx a (lZ b)) h⟩
def aU(b:dw)(a:dw)(e:Y aC)(f:Y dM):dw:=(let c:=(pG (b.1++a.1));(let d:=(mq dW (Ft ((b.2.2++a.2.2)++f)));(c,(fD ((b.2.1++a.2.1)++e)),d)))
def jZ(b:dw)(a:dw)(d:Y aC)(c:Y dM):Prop:=((zH (b.1.length+a.1.length)/\(b.1++a.1).length<64)/\(let e:=(pG (b.1++a.1));((((zH (b.2.2.length+a.2.2.length)/\zH ((b.2.2++a.2.2).length+c.length))/\((b.2.2++a.2.2)++c).length<=64)/\((b.2.2++a.2.2)++c).length<64)/\(let f:=(mq dW (Ft ((b.2.2++a.2.2)++c)));((zH (b.2.1.length+a.2.1.length)/\zH ((b.2.1++a.2.1).length+d.length))/\(jD ((b.2.1++a.2.1)++d)))))))
theorem J4(b:dw)(a:dw)(c:Y aC)(d:Y dM):RP nu [O (zE bL b),O (zE bL a),O ((zE (eT aG)) c),O ((zE (eT dW)) d),Y3,Y3] (λr=>Ap.rt (zE bL r)) (aU b a c d) (O (jZ b a c d)):=R.tp (bA 4 (jH (mU (UH (Ji (bQ (ao 0 (zE bL) b Y2) (λq=>q.1) (eT eS) 0 λ_=>Y2) (bQ (ao 1 (zE bL) a Y2) (λq=>q.1) (eT eS) 0 λ_=>Y2))))) (λ_=>Y2) λe=>(bA 5 (VP (WE (Ji (Ji (bQ (ao 0 (zE bL) b Y2) (λq=>q.2.2) (eT dW) 2 λ_=>Y2) (bQ (ao 1 (zE bL) a Y2) (λq=>q.2.2) (eT dW) 2 λ_=>Y2)) (ao 3 (zE (eT dW)) d Y2)))) (λ_=>Y2) λf=>(cU (λr=>r) (gY (ao 4 (zE (eT eS)) e Y2) (jN (An wB (bV (jN (Ji (Ji (bQ (ao 0 (zE bL) b Y2) (λq=>q.2.1) (eT aG) 1 λ_=>Y2) (bQ (ao 1 (zE bL) a Y2) (λq=>q.2.1) (eT aG) 1 λ_=>Y2)) (ao 2 (zE (eT aG)) c Y2))) aX))) (jH (gJ (ao 5 (lE dW) f Y2)))) (λ_=>Y2) λ_=>Y2)))
theorem xV:∀v bs,(aZ bL (aZ bL (aZ (eT aG) (aZ (eT dW) aN)))) v bs->bs.length=4/\(hold (O (jZ v.1 v.2.1 v.2.2.1 v.2.2.2.1))->jR (bs.map lend)=O ((zE bL) (aU v.1 v.2.1 v.2.2.1 v.2.2.2.1))):=by
 rintro⟨c,b,d,a,_⟩ _ ⟨_,rfl,⟨_,rfl,⟨_,rfl,⟨_,rfl,rfl⟩⟩⟩⟩;exact⟨rfl,λh=>cF (g:=nu) (n:=6) (bs:=[.z (bL c),.z (bL b),.z (eT aG d),.z (eT dW a)]) (J4 c b d a) h⟩
def eE(b:dw)(e:EZ)(c:B7):Bool:=(let a:=(fK c);(let d:=(bG a);(let f:=(at' b.1 ((at' c 5)%(b.1.length:Int)));(let i:=(at' a.1 ((at' c 6)%(a.1.length:Int)));(let val:=(List.replicate ((at' c 7)%2).toNat [(f,i,(3:Int))]).flatten;(let j:=(bG (aU b a ([]:Y aC) val));(if(!decide ((j.2.1,j.2.2)=((e.2.1+d.2.1),(e.2.2+d.2.2))))=true then false else(let g:=(1+((at' c 7)%9));(if(decide ((8:Int)<((b.1.length:Int)+(a.1.length:Int))))=true then true else(let h:=(bG (aU b a [(g,f,i,(9:Int))] ([]:Y dM))).2.1;((decide ((e.2.1+d.2.1)<=h))&&(decide (h<=((e.2.1+d.2.1)+g))))))))))))))
def gC(c:dw)(i:EZ)(a:B7):Prop:=((nR a)/\(let b:=(fK a);((dO b)/\(let f:=(bG b);(((In a.length 5/\0<(c.1.length:Int))/\In c.1.length ((at' a 5)%(c.1.length:Int)))/\(let d:=(at' c.1 ((at' a 5)%(c.1.length:Int)));(((In a.length 6/\0<(b.1.length:Int))/\In b.1.length ((at' a 6)%(b.1.length:Int)))/\(let e:=(at' b.1 ((at' a 6)%(b.1.length:Int)));((In a.length 7/\((((at' a 7)%2)=0\/((at' a 7)%2)=1)/\[(d,e,(3:Int))].isEmpty=false))/\(let val:=(List.replicate ((at' a 7)%2).toNat [(d,e,(3:Int))]).flatten;(((jZ c b ([]:Y aC) val)/\(dO (aU c b ([]:Y aC) val)))/\(let h:=(bG (aU c b ([]:Y aC) val));((!decide ((h.2.1,h.2.2)=((i.2.1+f.2.1),(i.2.2+f.2.2))))=false->(In a.length 7/\(let g:=(1+((at' a 7)%9));((decide ((8:Int)<((c.1.length:Int)+(b.1.length:Int))))=false->((jZ c b [(g,d,e,(9:Int))] ([]:Y dM))/\(dO (aU c b [(g,d,e,(9:Int))] ([]:Y dM))))))))))))))))))))
theorem zQ(a:dw)(c:EZ)(b:B7){g:Bx}(e:Lp g (b.map eI)):RP jr [O (zE bL a),O (zE jJ c),O g,Y3,Y3,Y3,Y3,Y3,Y3,Y3,Y3] (λr=>Ap.rt (zE eB r)) (eE a c b) (O (gC a c b)):=R.tp (bA 3 (An Qy (mJ (eG 2 eI b e Y2) aX)) (λ_=>Y2) λd=>(bA 4 (An iU (bV (ao 3 (zE bL) d Y2) aX)) (λ_=>Y2) λf=>(bA 5 (HZ (bQ (ao 0 (zE bL) a Y2) (λq=>q.1) (eT eS) 0 λ_=>Y2) (El (iW (eG 2 eI b e Y2) (B5 5)) (w5 (bQ (ao 0 (zE bL) a Y2) (λq=>q.1) (eT eS) 0 λ_=>Y2)))) (λ_=>Y2) λh=>(bA 6 (HZ (bQ (ao 3 (zE bL) d Y2) (λq=>q.1) (eT eS) 0 λ_=>Y2) (El (iW (eG 2 eI b e Y2) (B5 6)) (w5 (bQ (ao 3 (zE bL) d Y2) (λq=>q.1) (eT eS) 0 λ_=>Y2)))) (λ_=>Y2) λl=>(bA 7 (eD (PJ (jo (gY (ao 5 (zE eS) h Y2) (ao 6 (zE eS) l Y2) (B5 3)) (iK dW)) (Zs Y2)) (d9 (iW (eG 2 eI b e Y2) (B5 7)) 2 (by decide))) (λ_=>Y2) λval=>(bA 8 (An iU (bV (jN (An xV (bV (ao 0 (zE bL) a Y2) (bV (ao 3 (zE bL) d Y2) (bV (Dm aG) (bV (ao 7 (zE (eT dW)) val Y2) aX)))))) aX)) (λ_=>Y2) λm=>(mj (cW (KJ (by decide) (GW (ao 8 (zE jJ) m Y2) (λq=>(q.2.1,q.2.2)) IJ (O 1) Y3 Y2 Y2 λ_=>Y2) (i9 (jN (fB (bQ (ao 1 (zE jJ) c Y2) (λq=>q.2.1) eI 1 λ_=>Y2) (bQ (ao 4 (zE jJ) f Y2) (λq=>q.2.1) eI 1 λ_=>Y2))) (jN (fB (bQ (ao 1 (zE jJ) c Y2) (λq=>q.2.2) eI 2 λ_=>Y2) (bQ (ao 4 (zE jJ) f Y2) (λq=>q.2.2) eI 2 λ_=>Y2)))))) (bJ (cU (λr=>r) (vW (.bl false) eB false Y2) (λ_=>Y2) λ_=>Y2)) (bT (bA 9 (fB (B5 1) (d9 (iW (eG 2 eI b e Y2) (B5 7)) 9 (by decide))) (λ_=>Y2) λi=>(mj (cW (Zk (fB (w5 (bQ (ao 0 (zE bL) a Y2) (λq=>q.1) (eT eS) 0 λ_=>Y2)) (w5 (bQ (ao 3 (zE bL) d Y2) (λq=>q.1) (eT eS) 0 λ_=>Y2))) (B5 8))) (bJ (cU (λr=>r) (vW (.bl true) eB true Y2) (λ_=>Y2) λ_=>Y2)) (bT (bA 10 (bQ (An iU (bV (jN (An xV (bV (ao 0 (zE bL) a Y2) (bV (ao 3 (zE bL) d Y2) (bV (PJ (jo (tZ (ao 9 (zE eI) i Y2) (ao 5 (zE eS) h Y2) (ao 6 (zE eS) l Y2) (B5 9)) (iK aG)) (Zs Y2)) (bV (Dm dW) aX)))))) aX)) (λq=>q.2.1) eI 1 λ_=>Y2) (λ_=>Y2) λj=>(cU (λr=>r) (fT (HK (fB (bQ (ao 1 (zE jJ) c Y2) (λq=>q.2.1) eI 1 λ_=>Y2) (bQ (ao 4 (zE jJ) f Y2) (λq=>q.2.1) eI 1 λ_=>Y2)) (ao 10 (zE eI) j Y2)) (HK (ao 10 (zE eI) j Y2) (fB (fB (bQ (ao 1 (zE jJ) c Y2) (λq=>q.2.1) eI 1 λ_=>Y2) (bQ (ao 4 (zE jJ) f Y2) (λq=>q.2.1) eI 1 λ_=>Y2)) (ao 9 (zE eI) i Y2)))) (λ_=>Y2) λ_=>Y2)))))))))))))
theorem zR:∀v bs,(aZ bL (aZ jJ (aL eI aN))) v bs->bs.length=3/\(hold (O (gC v.1 v.2.1 v.2.2.1))->jt (bs.map lend)=O ((zE eB) (eE v.1 v.2.1 v.2.2.1))):=by
 rintro⟨a,b,c,_⟩ _ ⟨_,rfl,⟨_,rfl,⟨e,_,rfl,d,rfl⟩⟩⟩;exact⟨rfl,λh=>cF (g:=jr) (n:=11) (bs:=[.z (bL a),.z (jJ b),lend e]) (zQ a b c (lZ d)) h⟩
def pq(b:Y aC):(Y aC):=(let a:=(mq aG (b.map λq1:aC=>(((0:Int)-q1.1),q1.2.1,q1.2.2.1,q1.2.2.2)));(a.map λq2:aC=>(((0:Int)-q2.1),q2.2.1,q2.2.2.1,q2.2.2.2)))
def um(a:Y aC):Prop:=((a.length<=100000/\(a.map λq1:aC=>(((0:Int)-q1.1),q1.2.1,q1.2.2.1,q1.2.2.2)).length<64)/\(let b:=(mq aG (a.map λq1:aC=>(((0:Int)-q1.1),q1.2.1,q1.2.2.1,q1.2.2.2)));b.length<=100000))
theorem Lq(a:Y aC)(c:Lp fj (a.map aG)):RP jE [O fj,Y3] (λr=>Ap.rt ((zE (eT aG)) r)) (pq a) (O (um a)):=R.tp (bA 1 (OM (mU (mV (PL (eG 0 aG a c Y2)) _ (λ_=>Y2) (λq1:aC=>(tZ (Bf (B5 0) (ao 0 (zE eI) q1.1 Y2)) (ao 1 (zE eS) q1.2.1 Y2) (ao 2 (zE eS) q1.2.2.1 Y2) (ao 3 (zE eI) q1.2.2.2 Y2))) λ_=>Y2))) (λ_=>Y2) λb=>(cU (λr=>r) (jH (mU (mV (PL (gJ (ao 1 (lE aG) b Y2))) _ (λ_=>Y2) (λq2:aC=>(tZ (Bf (B5 0) (ao 0 (zE eI) q2.1 Y2)) (ao 1 (zE eS) q2.2.1 Y2) (ao 2 (zE eS) q2.2.2.1 Y2) (ao 3 (zE eI) q2.2.2.2 Y2))) λ_=>Y2))) (λ_=>Y2) λ_=>Y2))
theorem Lr:∀v bs,(aL aG aN) v bs->bs.length=1/\(hold (O (um v.1))->eV (bs.map lend)=O ((zE (eT aG)) (pq v.1))):=by
 rintro⟨b,_⟩ _ ⟨fj,_,rfl,a,rfl⟩;exact⟨rfl,λh=>cF (g:=jE) (n:=2) (bs:=[lend fj]) (Lq b (lZ a)) h⟩
def fH(e:Y aC)(d:Int)(a:Y aC)(c:Int):(Y aC):=(let q1:=(at' e c);(let b:=(((q1.1+d) / (2:Int))%q1.1);(let a:(Y aC):=(if(decide ((0:Int)<b))=true then(let a:=a++[(b,q1.2.1,q1.2.2.1,(2*c))];a)else a);(let a:=a++[((q1.1-b),q1.2.1,q1.2.2.1,((2*c)+1))];a))))
def lK(d:Y aC)(e:Int)(a:Y aC)(c:Int):Prop:=(In d.length c/\(let q1:=(at' d c);(0<q1.1/\(let b:=(((q1.1+e) / (2:Int))%q1.1);(((decide ((0:Int)<b))=true->zH a.length)/\(let a:(Y aC):=(if(decide ((0:Int)<b))=true then(let a:=a++[(b,q1.2.1,q1.2.2.1,(2*c))];a)else a);zH a.length))))))
theorem Gn(d:Y aC)(c:Int)(a:Y aC)(b:Int):RP wg [O ((zE (eT aG)) d),O (zE eI c),O (oE aG a),O (zE eI b),Y3,Y3,Y3,Y3,Y3] (λs=>Ap.nx ((λa:(Y aC)=>[O ((zE (eT aG)) d),O (zE eI c),O (oE aG a),Y3,Y3,Y3,Y3,Y3,Y3]) s)) (fH d c a b) (O (lK d c a b)):=R.tp (bJ (Jm (HZ (ao 0 (zE (eT aG)) d Y2) (ao 3 (zE eI) b Y2)) _ (λ_=>Y2) λq1=>(bJ (bA 8 (El (GZ (fB (ao 4 (zE eI) q1.1 Y2) (ao 1 (zE eI) c Y2)) 2 (by decide)) (ao 4 (zE eI) q1.1 Y2)) (λ_=>Y2) λe=>(bJ (xg (λa:(Y aC)=>[O ((zE (eT aG)) d),O (zE eI c),O (oE aG a),O (zE eI b),O ((zE eI) q1.1),O ((zE eS) q1.2.1),O ((zE eS) q1.2.2.1),O ((zE eI) q1.2.2.2),O (zE eI e)]) (cW (Zk (ao 8 (zE eI) e Y2) (B5 0))) (bJ (w6 2 a Y2 (tZ (ao 8 (zE eI) e Y2) (ao 5 (zE eS) q1.2.1 Y2) (ao 6 (zE eS) q1.2.2.1 Y2) (Je 2 (by decide) (ao 3 (zE eI) b Y2))) λa=>(bT (bM a Y2)))) (bT (bM a Y2)) λa=>(bJ (w6 2 a Y2 (tZ (Bf (ao 4 (zE eI) q1.1 Y2) (ao 8 (zE eI) e Y2)) (ao 5 (zE eS) q1.2.1 Y2) (ao 6 (zE eS) q1.2.2.1 Y2) (jN (fB (Je 2 (by decide) (ao 3 (zE eI) b Y2)) (B5 1)))) λa=>(bT (bM a Y2))))))))))
def dF(b:Y aC)(c:Int):(Y aC):=(let a:=([]:Y aC);(let a:(Y aC):=((rng 0 (b.length:Int).toNat).foldl (λ(a:Y aC) (d:Int)=>(fH b c a d)) a);(pq a)))
def kY(b:Y aC)(d:Int):Prop:=(let a:=([]:Y aC);((Rg (b.length:Int)/\nU (λ(a:Y aC) (c:Int)=>(fH b d a c)) (λ(a:Y aC) (c:Int)=>O (lK b d a c)) (rng 0 (b.length:Int).toNat) a)/\(let a:(Y aC):=((rng 0 (b.length:Int).toNat).foldl (λ(a:Y aC) (c:Int)=>(fH b d a c)) a);(um a))))
theorem Qz(b:Y aC)(c:Int):RP qN [O ((zE (eT aG)) b),O (zE eI c),Y3,Y3,Y3,Y3,Y3,Y3,Y3] (λr=>Ap.rt ((zE (eT aG)) r)) (dF b c) (O (kY b c)):=R.tp (bA 2 (qx (iK aG) (Zs Y2)) (λ_=>Y2) λa=>(Jo (λa:(Y aC)=>[O ((zE (eT aG)) b),O (zE eI c),O (oE aG a),Y3,Y3,Y3,Y3,Y3,Y3]) a Y2 (Em (w5 (ao 0 (zE (eT aG)) b Y2))) _ (λ_ _=>Y2) (λ(a:Y aC) (d:Int)=>(Gn b c a d).r) λa=>(cU (λr=>r) (An Lr (mJ (gJ (ao 2 (lE aG) a Y2)) aX)) (λ_=>Y2) λ_=>Y2)))
theorem QC:∀v bs,(aZ (eT aG) (aZ eI aN)) v bs->bs.length=2/\(hold (O (kY v.1 v.2.1))->qO (bs.map lend)=O ((zE (eT aG)) (dF v.1 v.2.1))):=by
 rintro⟨b,a,_⟩ _ ⟨_,rfl,⟨_,rfl,rfl⟩⟩;exact⟨rfl,λh=>cF (g:=qN) (n:=9) (bs:=[.z (eT aG b),.z (eI a)]) (Qz b a) h⟩
def ig(d:Y AZ)(a:Y aC)(b:aC):(Y aC):=(let a:(Y aC):=(if((d.map λc:AZ=>((decide (b.2.1∈c))&&(decide (b.2.2.1∈c)))).any id)=true then(let a:=a++[b];a)else a);a)
def pA(c:Y AZ)(d:Y aC)(b:aC):Prop:=(c.length<=100000/\(((c.map λa:AZ=>((decide (b.2.1∈a))&&(decide (b.2.2.1∈a)))).any id)=true->zH d.length))
theorem Lx(d:Y aC)(c:Y AZ)(f:Lp b_1 (c.map (eT eS)))(a:Y aC)(b:aC):RP yZ [O ((zE (eT aG)) d),O b_1,O (oE aG a),O (zE aG b)] (λs=>Ap.nx ((λa:(Y aC)=>[O ((zE (eT aG)) d),O b_1,O (oE aG a),Y3]) s)) (ig c a b) (O (pA c a b)):=R.tp (bJ (xg (λa:(Y aC)=>[O ((zE (eT aG)) d),O b_1,O (oE aG a),O (zE aG b)]) (Fc (X' (mU (mV (PL (eG 1 (eT eS) c f Y2)) _ (λ_=>Y2) (λe:AZ=>(LJ (SM (bQ (ao 0 (zE aG) b Y2) (λq=>q.2.1) eS 1 λ_=>Y2) (ao 1 (zE (eT eS)) e Y2)) (SM (bQ (ao 0 (zE aG) b Y2) (λq=>q.2.2.1) eS 2 λ_=>Y2) (ao 1 (zE (eT eS)) e Y2)))) λ_=>Y2)))) (bJ (w6 2 a Y2 (ao 3 (zE aG) b Y2) λa=>(bT (bM a Y2)))) (bT (bM a Y2)) λa=>(bT (bM a Y2))))
def lV(d:Y aC)(b:Y AZ):(Y aC):=(let a:=([]:Y aC);(let a:(Y aC):=(d.foldl (λ(a:Y aC) (c:aC)=>(ig b a c)) a);a))
def oR(d:Y aC)(c:Y AZ):Prop:=(let a:=([]:Y aC);nU (λ(a:Y aC) (b:aC)=>(ig c a b)) (λ(a:Y aC) (b:aC)=>O (pA c a b)) d a)
theorem Wj(b:Y aC)(c:Y AZ)(d:Lp b_1 (c.map (eT eS))):RP vA [O ((zE (eT aG)) b),O b_1,Y3,Y3] (λr=>Ap.rt ((zE (eT aG)) r)) (lV b c) (O (oR b c)):=R.tp (bA 2 (qx (iK aG) (Zs Y2)) (λ_=>Y2) λa=>(Jq 0 b (VJ Y2) (λa:(Y aC)=>[O ((zE (eT aG)) b),O b_1,O (oE aG a),Y3]) a Y2 _ (λ_ _=>Y2) (λ(a:Y aC) (e:aC)=>(Lx b c d a e).r) λa=>(cU (λr=>r) (jH (gJ (ao 2 (lE aG) a Y2))) (λ_=>Y2) λ_=>Y2)))
theorem J5:∀v bs,(aZ (eT aG) (aL (eT eS) aN)) v bs->bs.length=2/\(hold (O (oR v.1 v.2.1))->vB (bs.map lend)=O ((zE (eT aG)) (lV v.1 v.2.1))):=by
 rintro⟨a,b,_⟩ _ ⟨_,rfl,⟨b_1,_,rfl,c,rfl⟩⟩;exact⟨rfl,λh=>cF (g:=vA) (n:=4) (bs:=[.z (eT aG a),lend b_1]) (Wj a b (lZ c)) h⟩
def jF(d:Y AZ)(c:Y dM):(Y dM):=(let b:=(gB d);((c.filter λa:dM=>(decide ((look b a.1)=(look b a.2.1)))).map λa:dM=>a))
def uo(b:Y AZ)(a:Y dM):Prop:=((rT b)/\(let d:=(gB b);(a.length<=100000/\(∀c∈a,(has d c.1=true/\has d c.2.1=true)))))
theorem Ly(b:Y AZ)(e:Lp fj (b.map (eT eS)))(c:Y dM):RP oX [O fj,O ((zE (eT dW)) c),Y3] (λr=>Ap.rt (oE dW r)) (jF b c) (O (uo b c)):=R.tp (bA 2 (An J3 (mJ (eG 0 (eT eS) b e Y2) aX)) (λ_=>Y2) λd=>(cU (λr=>r) (Bg (Fv (ao 1 (zE (eT dW)) c Y2)) _ (λ_=>Y2) (λa:dM=>(cW (BI (by decide) (jO (ao 0 (nE eI) d Y2) (bQ (ao 1 (zE dW) a Y2) (λq=>q.1) eS 0 λ_=>Y2)) (jO (ao 0 (nE eI) d Y2) (bQ (ao 1 (zE dW) a Y2) (λq=>q.2.1) eS 1 λ_=>Y2))))) (λa:dM=>(ao 1 (zE dW) a Y2))) (λ_=>Y2) λ_=>Y2))
theorem Lz:∀v bs,(aL (eT eS) (aZ (eT dW) aN)) v bs->bs.length=2/\(hold (O (uo v.1 v.2.1))->oY (bs.map lend)=O ((oE dW) (jF v.1 v.2.1))):=by
 rintro⟨c,a,_⟩ _ ⟨fj,_,rfl,b,⟨_,rfl,rfl⟩⟩;exact⟨rfl,λh=>cF (g:=oX) (n:=3) (bs:=[lend fj,.z (eT dW a)]) (Ly c (lZ b) a) h⟩
def mH(c:dw)(a:Y AZ):Bool:=(let q1:=c;(let b:=(cJ a q1.2.1);((jF a q1.2.2).isEmpty&&(decide ((nP q1.1 b)=(rJ a))))))
def q8(c:dw)(a:Y AZ):Prop:=(let q1:=c;((iT a q1.2.1)/\(let b:=(cJ a q1.2.1);((uo a q1.2.2)/\((jF a q1.2.2).isEmpty=true->((nQ q1.1 b)/\(a.length<64/\∀x∈a,x.isEmpty=false)))))))
theorem Zw(b:dw)(a:Y AZ)(c:Lp b_1 (a.map (eT eS))):RP yC [O (zE bL b),O b_1,Y3,Y3,Y3,Y3] (λr=>Ap.rt (zE eB r)) (mH b a) (O (q8 b a)):=R.tp (Jm (ao 0 (zE bL) b Y2) _ (λ_=>Y2) λq1=>(bA 5 (An uL (mJ (eG 1 (eT eS) a c Y2) (bV (ao 3 (zE (eT aG)) q1.2.1 Y2) aX))) (λ_=>Y2) λd=>(cU (λr=>r) (LJ (bn (mU (An Lz (mJ (eG 1 (eT eS) a c Y2) (bV (ao 4 (zE (eT dW)) q1.2.2 Y2) aX))))) (TB (by decide) (mU (An Ci (bV (ao 2 (zE (eT eS)) q1.1 Y2) (mJ (gJ (ao 5 (lE aG) d Y2)) aX)))) (mU (XC (eG 1 (eT eS) a c Y2))))) (λ_=>Y2) λ_=>Y2)))
theorem Ny:∀v bs,(aZ bL (aL (eT eS) aN)) v bs->bs.length=2/\(hold (O (q8 v.1 v.2.1))->yD (bs.map lend)=O ((zE eB) (mH v.1 v.2.1))):=by
 rintro⟨a,c,_⟩ _ ⟨_,rfl,⟨b_1,_,rfl,b,rfl⟩⟩;exact⟨rfl,λh=>cF (g:=yC) (n:=6) (bs:=[.z (bL a),lend b_1]) (Zw a c (lZ b)) h⟩
def Uc(h:B7):Bool:=(let e:=(bf (bh h 0) 20);(let c:=(fJ h 0 (2+((at' e 6)%6)) ((at' e 7)%10) ((at' e 8)%5));(let q1:=c;(let a:=(bG c);(if(!(eE c a (BN e (O 9) Y3)))=true then false else(if(decide ((q1.2.1.length:Int)<=6))=true then(let i:=(dF q1.2.1 (at' e 17));(if(!decide (((bG (q1.1,i,q1.2.2)).2.1,(bG (q1.1,i,q1.2.2)).2.2)=(a.2.1,a.2.2)))=true then false else(let d:=(lV q1.2.1 a.1);(let g:=(bG (q1.1,d,q1.2.2));(if(!decide (g=(a.1,a.2.1,(0:Int))))=true then false else(if(!(mH (q1.1,d,q1.2.2) a.1))=true then false else(let b:=(bG (q1.1,q1.2.1,([]:Y dM)));(if((!decide (b.1=(gA c)))||((!decide (b.2.2=0))||(!decide (b.2.1=(a.2.1+a.2.2)))))=true then false else(decide ((bG (q1.1,([]:Y aC),q1.2.2))=((q1.1.map λf:AJ=>[f]),(0:Int),(0:Int))))))))))))else(let d:=(lV q1.2.1 a.1);(let g:=(bG (q1.1,d,q1.2.2));(if(!decide (g=(a.1,a.2.1,(0:Int))))=true then false else(if(!(mH (q1.1,d,q1.2.2) a.1))=true then false else(let b:=(bG (q1.1,q1.2.1,([]:Y dM)));(if((!decide (b.1=(gA c)))||((!decide (b.2.2=0))||(!decide (b.2.1=(a.2.1+a.2.2)))))=true then false else(decide ((bG (q1.1,([]:Y aC),q1.2.2))=((q1.1.map λf:AJ=>[f]),(0:Int),(0:Int))))))))))))))))
def Ud(f:B7):Prop:=(((jX f 0)/\(gZ (bh f 0) 20))/\(let b:=(bf (bh f 0) 20);(((In b.length 6/\(In b.length 7/\In b.length 8))/\(nG f 0 (2+((at' b 6)%6)) ((at' b 7)%10) ((at' b 8)%5)))/\(let c:=(fJ f 0 (2+((at' b 6)%6)) ((at' b 7)%10) ((at' b 8)%5));(let q1:=c;((dO c)/\(let a:=(bG c);((gC c a (BN b (O 9) Y3))/\((!(eE c a (BN b (O 9) Y3)))=false->(((decide ((q1.2.1.length:Int)<=6))=true->((In b.length 17/\(kY q1.2.1 (at' b 17)))/\(let g:=(dF q1.2.1 (at' b 17));((dO (q1.1,g,q1.2.2))/\((!decide (((bG (q1.1,g,q1.2.2)).2.1,(bG (q1.1,g,q1.2.2)).2.2)=(a.2.1,a.2.2)))=false->((oR q1.2.1 a.1)/\(let d:=(lV q1.2.1 a.1);((dO (q1.1,d,q1.2.2))/\(let h:=(bG (q1.1,d,q1.2.2));((!decide (h=(a.1,a.2.1,(0:Int))))=false->((q8 (q1.1,d,q1.2.2) a.1)/\((!(mH (q1.1,d,q1.2.2) a.1))=false->((dO (q1.1,q1.2.1,([]:Y dM)))/\(let e:=(bG (q1.1,q1.2.1,([]:Y dM)));((lU c)/\(((!decide (e.1=(gA c)))||((!decide (e.2.2=0))||(!decide (e.2.1=(a.2.1+a.2.2)))))=false->((dO (q1.1,([]:Y aC),q1.2.2))/\q1.1.length<=100000)))))))))))))))))/\((decide ((q1.2.1.length:Int)<=6))=false->((oR q1.2.1 a.1)/\(let d:=(lV q1.2.1 a.1);((dO (q1.1,d,q1.2.2))/\(let h:=(bG (q1.1,d,q1.2.2));((!decide (h=(a.1,a.2.1,(0:Int))))=false->((q8 (q1.1,d,q1.2.2) a.1)/\((!(mH (q1.1,d,q1.2.2) a.1))=false->((dO (q1.1,q1.2.1,([]:Y dM)))/\(let e:=(bG (q1.1,q1.2.1,([]:Y dM)));((lU c)/\(((!decide (e.1=(gA c)))||((!decide (e.2.2=0))||(!decide (e.2.1=(a.2.1+a.2.2)))))=false->((dO (q1.1,([]:Y aC),q1.2.2))/\q1.1.length<=100000)))))))))))))))))))))))
theorem cr(d:B7)(i:Lp fj (d.map eI)):RP XQ [O fj,Y3,Y3,Y3,Y3,Y3,Y3,Y3,Y3,Y3,Y3] (λr=>Ap.rt (zE eB r)) (Uc d) (O (Ud d)):=R.tp (bA 1 (An o8 (bV (jN (An vM (mJ (eG 0 eI d i Y2) (bV (B5 0) aX)))) (bV (B5 20) aX))) (λ_=>Y2) λf=>(bA 2 (An Qn (mJ (eG 0 eI d i Y2) (bV (B5 0) (bV (jN (fB (B5 2) (d9 (iW (gJ (ao 1 (lE eI) f Y2)) (B5 6)) 6 (by decide)))) (bV (d9 (iW (gJ (ao 1 (lE eI) f Y2)) (B5 7)) 10 (by decide)) (bV (d9 (iW (gJ (ao 1 (lE eI) f Y2)) (B5 8)) 5 (by decide)) aX)))))) (λ_=>Y2) λc=>(Jm (ao 2 (zE bL) c Y2) _ (λ_=>Y2) λq1=>(bA 6 (An iU (bV (ao 2 (zE bL) c Y2) aX)) (λ_=>Y2) λa=>(mj (Xu (Fc (An zR (bV (ao 2 (zE bL) c Y2) (bV (ao 6 (zE jJ) a Y2) (mJ (yJ (Py (Fk (gJ (ao 1 (lE eI) f Y2)) (Zn (B5 9)) Zm))) aX)))))) (bJ (cU (λr=>r) (vW (.bl false) eB false Y2) (λ_=>Y2) λ_=>Y2)) (bT (mj (cW (HK (w5 (ao 4 (zE (eT aG)) q1.2.1 Y2)) (B5 6))) (bJ (bA 7 (An QC (bV (ao 4 (zE (eT aG)) q1.2.1 Y2) (bV (iW (gJ (ao 1 (lE eI) f Y2)) (B5 17)) aX))) (λ_=>Y2) λj=>(bJ (mj (cW (KJ (by decide) (GW (An iU (bV (gY (ao 3 (zE (eT eS)) q1.1 Y2) (ao 7 (zE (eT aG)) j Y2) (ao 5 (zE (eT dW)) q1.2.2 Y2)) aX)) (λq=>(q.2.1,q.2.2)) IJ (O 1) Y3 Y2 Y2 λ_=>Y2) (GW (ao 6 (zE jJ) a Y2) (λq=>(q.2.1,q.2.2)) IJ (O 1) Y3 Y2 Y2 λ_=>Y2))) (bJ (cU (λr=>r) (vW (.bl false) eB false Y2) (λ_=>Y2) λ_=>Y2)) (bT (bT (bA 8 (An J5 (bV (ao 4 (zE (eT aG)) q1.2.1 Y2) (mJ (yJ (bQ (ao 6 (zE jJ) a Y2) (λq=>q.1) (eL (eT eS)) 0 λ_=>Y2)) aX))) (λ_=>Y2) λe=>(bA 9 (An iU (bV (gY (ao 3 (zE (eT eS)) q1.1 Y2) (ao 8 (zE (eT aG)) e Y2) (ao 5 (zE (eT dW)) q1.2.2 Y2)) aX)) (λ_=>Y2) λh=>(mj (cW (KJ (by decide) (ao 9 (zE jJ) h Y2) (gY (bQ (ao 6 (zE jJ) a Y2) (λq=>q.1) (eL (eT eS)) 0 λ_=>Y2) (bQ (ao 6 (zE jJ) a Y2) (λq=>q.2.1) eI 1 λ_=>Y2) (B5 0)))) (bJ (cU (λr=>r) (vW (.bl false) eB false Y2) (λ_=>Y2) λ_=>Y2)) (bT (mj (Xu (Fc (An Ny (bV (gY (ao 3 (zE (eT eS)) q1.1 Y2) (ao 8 (zE (eT aG)) e Y2) (ao 5 (zE (eT dW)) q1.2.2 Y2)) (mJ (yJ (bQ (ao 6 (zE jJ) a Y2) (λq=>q.1) (eL (eT eS)) 0 λ_=>Y2)) aX))))) (bJ (cU (λr=>r) (vW (.bl false) eB false Y2) (λ_=>Y2) λ_=>Y2)) (bT (bA 10 (An iU (bV (gY (ao 3 (zE (eT eS)) q1.1 Y2) (ao 4 (zE (eT aG)) q1.2.1 Y2) (Dm dW)) aX)) (λ_=>Y2) λb=>(mj (VF (cW (NW (by decide) (yJ (bQ (ao 10 (zE jJ) b Y2) (λq=>q.1) (eL (eT eS)) 0 λ_=>Y2)) (mU (An zO (bV (ao 2 (zE bL) c Y2) aX))))) (VF (cW (KJ (by decide) (bQ (ao 10 (zE jJ) b Y2) (λq=>q.2.2) eI 2 λ_=>Y2) (B5 0))) (cW (KJ (by decide) (bQ (ao 10 (zE jJ) b Y2) (λq=>q.2.1) eI 1 λ_=>Y2) (fB (bQ (ao 6 (zE jJ) a Y2) (λq=>q.2.1) eI 1 λ_=>Y2) (bQ (ao 6 (zE jJ) a Y2) (λq=>q.2.2) eI 2 λ_=>Y2)))))) (bJ (cU (λr=>r) (vW (.bl false) eB false Y2) (λ_=>Y2) λ_=>Y2)) (bT (cU (λr=>r) (BI (by decide) (An iU (bV (gY (ao 3 (zE (eT eS)) q1.1 Y2) (Dm aG) (ao 5 (zE (eT dW)) q1.2.2 Y2)) aX)) (gY (Py (mV (Fv (ao 3 (zE (eT eS)) q1.1 Y2)) _ (λ_=>Y2) (λg:AJ=>(PJ (jo (ao 0 (zE eS) g Y2) (iK eS)) (Zs Y2))) λ_=>Y2)) (B5 0) (B5 0))) (λ_=>Y2) λ_=>Y2)))))))))))))))) (bT (bA 8 (An J5 (bV (ao 4 (zE (eT aG)) q1.2.1 Y2) (mJ (yJ (bQ (ao 6 (zE jJ) a Y2) (λq=>q.1) (eL (eT eS)) 0 λ_=>Y2)) aX))) (λ_=>Y2) λe=>(bA 9 (An iU (bV (gY (ao 3 (zE (eT eS)) q1.1 Y2) (ao 8 (zE (eT aG)) e Y2) (ao 5 (zE (eT dW)) q1.2.2 Y2)) aX)) (λ_=>Y2) λh=>(mj (cW (KJ (by decide) (ao 9 (zE jJ) h Y2) (gY (bQ (ao 6 (zE jJ) a Y2) (λq=>q.1) (eL (eT eS)) 0 λ_=>Y2) (bQ (ao 6 (zE jJ) a Y2) (λq=>q.2.1) eI 1 λ_=>Y2) (B5 0)))) (bJ (cU (λr=>r) (vW (.bl false) eB false Y2) (λ_=>Y2) λ_=>Y2)) (bT (mj (Xu (Fc (An Ny (bV (gY (ao 3 (zE (eT eS)) q1.1 Y2) (ao 8 (zE (eT aG)) e Y2) (ao 5 (zE (eT dW)) q1.2.2 Y2)) (mJ (yJ (bQ (ao 6 (zE jJ) a Y2) (λq=>q.1) (eL (eT eS)) 0 λ_=>Y2)) aX))))) (bJ (cU (λr=>r) (vW (.bl false) eB false Y2) (λ_=>Y2) λ_=>Y2)) (bT (bA 10 (An iU (bV (gY (ao 3 (zE (eT eS)) q1.1 Y2) (ao 4 (zE (eT aG)) q1.2.1 Y2) (Dm dW)) aX)) (λ_=>Y2) λb=>(mj (VF (cW (NW (by decide) (yJ (bQ (ao 10 (zE jJ) b Y2) (λq=>q.1) (eL (eT eS)) 0 λ_=>Y2)) (mU (An zO (bV (ao 2 (zE bL) c Y2) aX))))) (VF (cW (KJ (by decide) (bQ (ao 10 (zE jJ) b Y2) (λq=>q.2.2) eI 2 λ_=>Y2) (B5 0))) (cW (KJ (by decide) (bQ (ao 10 (zE jJ) b Y2) (λq=>q.2.1) eI 1 λ_=>Y2) (fB (bQ (ao 6 (zE jJ) a Y2) (λq=>q.2.1) eI 1 λ_=>Y2) (bQ (ao 6 (zE jJ) a Y2) (λq=>q.2.2) eI 2 λ_=>Y2)))))) (bJ (cU (λr=>r) (vW (.bl false) eB false Y2) (λ_=>Y2) λ_=>Y2)) (bT (cU (λr=>r) (BI (by decide) (An iU (bV (gY (ao 3 (zE (eT eS)) q1.1 Y2) (Dm aG) (ao 5 (zE (eT dW)) q1.2.2 Y2)) aX)) (gY (Py (mV (Fv (ao 3 (zE (eT eS)) q1.1 Y2)) _ (λ_=>Y2) (λg:AJ=>(PJ (jo (ao 0 (zE eS) g Y2) (iK eS)) (Zs Y2))) λ_=>Y2)) (B5 0) (B5 0))) (λ_=>Y2) λ_=>Y2))))))))))))))))))
theorem OV:∀v bs,(aL eI aN) v bs->bs.length=1/\(hold (O (Ud v.1))->F_law (bs.map lend)=O ((zE eB) (Uc v.1))):=by
 rintro⟨b,_⟩ _ ⟨fj,_,rfl,a,rfl⟩;exact⟨rfl,λh=>cF (g:=XQ) (n:=11) (bs:=[lend fj]) (cr b (lZ a)) h⟩
theorem OK(h:∀a:Y Int,a.length<=63->Ud a/\Uc a=true):(∀a:Y Int,a.length<=63->F_law [.z (.lst (a.map .int))]=O (.z (.bl true)))/\∀a:Y Int,a.length<=63->F_law [.l (a.map .int)]=O (.z (.bl true)):=
 ⟨λa b=>((OV (a,()) [.z (.lst (a.map .int))] ⟨_,_,rfl,rfl,rfl⟩).2 (h a b).1).trans (by rw[(h a b).2]),λa b=>((OV (a,()) [.l (a.map .int)] ⟨_,_,rfl,rfl,rfl⟩).2 (h a b).1).trans (by rw[(h a b).2])⟩
end
end G34
end
section
set_option synthInstance.maxSize 100000
namespace G34
open L2 P1
theorem QD(a:Y Int)(k:Int)(h0:0<=k)(h1:k<=1000):jX a k:=by
 unfold jX;exact⟨λh=>BC h0 (by simpa using h),λ_=>OB h0 (by omega)⟩
theorem Re(k:Nat)(s:Int×Y Int×Int)(d:k<1000)(h:(0<=s.1/\s.1<1999999973)/\s.2.1.length=k/\(∀x∈s.2.1,0<=x)/\0<=s.2.2):kJ s k/\(0<=(cX s k).1/\(cX s k).1<1999999973)/\(cX s k).2.1.length=k+1/\(∀x∈(cX s k).2.1,0<=x)/\0<=(cX s k).2.2:=by
 obtain⟨h1,h2,c,b⟩:=h;have a:In 2 (if(decide ((0:Int)<s.2.2))=true then(1:Int)else 0):=by split<;>exact BC (by omega) (by omega)
 refine⟨⟨OB h1.1 (by omega),a,?_⟩,iz _ (by decide),?_,?_,Int.ediv_nonneg b (by decide)⟩
 ·show s.2.1.length<=1000000;omega
 ·show(s.2.1++[_]).length=k+1;rw[zw,h2];rfl
 ·intro x hx;rcases List.mem_append.mp hx with hx|hx
  ·exact c x hx
  ·cases List.mem_singleton.mp hx;have:=mZ (xs:=[((((s.1*((s.1%65521)+40487))+(7*k))+5)%1999999973),(s.2.2%1000000)]) a;simp only[jI,JI,or_false]at this;rcases this with e|e<;>rw[e]
   ·exact(iz _ (by decide)).1
   ·exact(iz _ (by decide)).1
theorem J7(c m:Int)(h0:0<=m)(h1:m<=1000):gZ c m/\(bf c m).length=m.toNat/\∀x∈bf c m,0<=x:=by
 have b:∀st a:Int,(0<=st/\st<1999999973)->0<=a->oN c m [] st a/\(kO c m [] st a).length=m.toNat/\∀x∈kO c m [] st a,0<=x:=λst a hs hd=>by
  have:=uG (P:=λs k=>O (kJ s k)) (λk s=>(0<=s.1/\s.1<1999999973)/\s.2.1.length=k/\(∀x∈s.2.1,0<=x)/\0<=s.2.2) (step:=λs k=>cX s k) m.toNat (st,[],a) ⟨hs,rfl,λx h=>(by cases h),hd⟩ λk s d h=>Re k s (by omega) h;exact⟨⟨Eo h0 (by omega),this.1⟩,this.2.2.1,this.2.2.2.1⟩
 refine b _ _ (iz _ (by decide)) ?_;dsimp only;split<;>(try split)<;>omega
theorem lM{m:Y (AJ×α)}:has m x=true↔x∈m.map (·.1):=by
 unfold has;rw[Q4,KF];constructor
 ·rintro⟨q,a,h⟩;exact⟨q,a,qi h⟩
 ·rintro⟨q,a,h⟩;exact⟨q,a,ZH h⟩
theorem Ck[Inhabited α]{pre AS:Y (AJ×α)}{n:AJ}{h:α}(a:n∉pre.map (·.1)):look (pre++(n,h)::AS) n=h:=by
 unfold look;have:pre.find? (λq=>decide (q.1=n))=Y3:=List.find?_eq_none.mpr λq b e=>a (List.mem_map.mpr ⟨q,b,qi e⟩);rw[List.find?_append,this];simp
theorem ik{pre AS:Y (AJ×α)}{n:AJ}{h v:α}(d:n∉pre.map (·.1))(f:n∉AS.map (·.1)):put (pre++(n,h)::AS) n v=pre++(n,v)::AS:=by
 unfold put;rw[zr (lM.mpr (by simp))];have a:∀l:Y (AJ×α),n∉l.map (·.1)->l.map (λq=>if q.1=n then(q.1,v)else q)=l:=λl b=>by
  conv=>rhs;rw[<-List.map_id l]
  refine QP λq c=>?_;rw[zI λe=>b (List.mem_map.mpr ⟨q,c,e⟩)];rfl
 rw[qc,zo,a pre d,a AS f];simp
theorem Nz[Inhabited α]{m:Y (AJ×α)}(h:x∈m.map (·.1)):(x,look m x)∈m:=by
 unfold look;cases a:m.find? λq=>decide (q.1=x)with
 |none=>
  obtain⟨q,b,rfl⟩:=List.mem_map.mp h;have:=List.find?_eq_none.mp a q b;simp at this
 |some q=>
  have h1:=List.mem_of_find?_eq_some a;have h2:q.1=x:=by simpa using List.find?_some a
  show(x,q.2)∈m;rw[<-h2];exact h1
theorem Cp[Inhabited α]{m:Y (AJ×α)}(nd:(m.map (·.1)).Nodup){q:AJ×α}(h:q∈m):look m q.1=q.2:=by
 obtain⟨a,AS,rfl⟩:=List.append_of_mem h;have:q.1∉a.map (·.1):=λe=>by
  rw[qc,zo,JP]at nd;exact nd.2.2 _ e _ (zh ..) rfl
 exact Ck this
def mn(one a:AJ):AJ:=if uq a one=true then a else one
def jn(one a h:AJ):AJ:=if h=one\/h=a then mn one a else h
theorem Ue(a b:AJ):mn a b=a\/mn a b=b:=by unfold mn;split;exact .inr rfl;exact .inl rfl
def jm(m:Y (AJ×AJ))(one a:AJ):Y (AJ×AJ):=m.map λq=>(q.1,jn one a q.2)
theorem XR(m:Y (AJ×AJ))(one a:AJ):(jm m one a).map (·.1)=m.map (·.1):=by unfold jm;rw[QO];rfl
theorem eM{one a:AJ}(nd:(m.map (·.1)).Nodup)(h:x∈m.map (·.1)):look (jm m one a) x=jn one a (look m x):=by
 have h1:=Nz h;have:(x,jn one a (look m x))∈jm m one a:=List.mem_map.mpr ⟨_,h1,rfl⟩;exact Cp (by rw[XR];exact nd) this
theorem By(one a:AJ):∀(b pre:Y (AJ×AJ)),((pre++b).map (·.1)).Nodup->(pre++b).length<1000 →
  nU (λ(c:(Y (AJ×AJ))) (name:AJ)=>(dZ one a (mn one a) c name)) (λ(c:(Y (AJ×AJ))) (name:AJ)=>O (qp one a (mn one a) c name)) (b.map (·.1)) (pre++b) ∧
  (b.map (·.1)).foldl (λ(c:(Y (AJ×AJ))) (name:AJ)=>(dZ one a (mn one a) c name)) (pre++b)=pre++jm b one a
 |[],pre,_,_=>⟨trivial,rfl⟩
 |(n,h)::AS,pre,nd,hl=>by
  have f:n∉pre.map (·.1):=λe=>by
   rw[qc,zo,JP]at nd;exact nd.2.2 _ e _ (zh ..) rfl
  have i:n∉AS.map (·.1):=by
   rw[qc,zo,JP,List.nodup_cons]at nd;exact nd.2.1.1
  have g:has (pre++(n,h)::AS) n=true:=lM.mpr (by simp);have e:dZ one a (mn one a) (pre++(n,h)::AS) n=pre++(n,jn one a h)::AS:=by
   unfold dZ;dsimp only;rw[Ck f];unfold jn;by_cases q:h=one\/h=a
   ·rw[zr q,zr (by simpa using q),ik f i]
   ·rw[zI q,zI (by simpa using q)]
  have d:=By one a AS (pre++[(n,jn one a h)]) (by simpa using nd) (by simpa using hl);rw[qq]at d;refine⟨⟨⟨⟨g,λ_=>g⟩,λ_=>hl⟩,?_⟩,?_⟩
  ·show nU _ _ _ (dZ one a (mn one a) (pre++(n,h)::AS) n);rw[e];exact d.1
  ·rw[zo,qS,e];rw[show pre++(n,jn one a h)::AS=pre++([(n,jn one a h)]++AS) by simp,d.2];unfold jm;simp
theorem ap(one a:AJ)(nd:(m.map (·.1)).Nodup)(b:m.length<1000):nM m one a/\nJ m one a=jm m one a:=By one a m [] nd b
theorem XS:∀(a m:Y (AJ×AJ)),((m++a).map (·.1)).Nodup->a.foldl (λm q=>put m q.1 q.2) m=m++a
 |[],m,_=>by simp
 |q::a,m,nd=>by
  rw[qS];have:put m q.1 q.2=m++[q]:=by
   unfold put;rw[zI];intro e;have e:=lM.mp e;rw[qc,zo,JP]at nd;exact nd.2.2 _ e _ (zh ..) rfl
  rw[this,XS a (m++[q]) (by simpa using nd)];simp
theorem Cq(n_:AZ)(nd:n_.Nodup)(a:n_.length<1000):nH n_/\cY n_=n_.map λn=>(n,n):=by
 refine⟨⟨a,by omega⟩,?_⟩;unfold cY Do;rw[XS _ [] (by rw[kM,QO];show(n_.map id).Nodup;rw[List.map_id];exact nd)];rfl
structure Hd (n_:AZ) (m:List (Str×Str)):Prop where
 keys:m.map (·.1)=n_
 nd:n_.Nodup
 len:n_.length<1000
 mem:∀x∈n_,look m x∈n_
 idem:∀x∈n_,look m (look m x)=look m x
theorem Hd.kn(h:Hd n_ m):(m.map (·.1)).Nodup:=by rw[h.keys];exact h.nd
theorem Hd.ml(h:Hd n_ m):m.length<1000:=by rw[<-zt (f:=(·.1)),h.keys];exact h.len
theorem Hd.has(h:Hd n_ m)(hx:x∈n_):has m x=true:=lM.mpr (by rw[h.keys];exact hx)
theorem Hd.lone(nd:n_.Nodup)(b:n_.length<1000):Hd n_ (n_.map λn=>(n,n)):=by
 have k:(n_.map λn=>(n,n)).map (·.1)=n_:=by rw[QO];show n_.map id=n_;rw[List.map_id]
 have a:∀x∈n_,look (n_.map λn=>(n,n)) x=x:=λx hx=>Cp (q:=(x,x)) (by rw[k];exact nd) (List.mem_map.mpr ⟨x,hx,rfl⟩);exact⟨k,nd,b,λx hx=>by rw[a x hx];exact hx,λx hx=>by rw[a x hx,a x hx]⟩
theorem q9(nd:n_.Nodup)(hx:x∈n_):look (n_.map λn=>(n,n)) x=x:=
 Cp (q:=(x,x)) (by rw[QO];show(n_.map id).Nodup;rw[List.map_id];exact nd) (List.mem_map.mpr ⟨x,hx,rfl⟩)
theorem Hd.zm(h:Hd n_ m){one a:AJ}(hx:x∈n_):look (jm m one a) x=jn one a (look m x):=eM h.kn (by rw[h.keys];exact hx)
theorem Hd.join(h:Hd n_ m){a b:AJ}(c:a∈n_)(hb:b∈n_):Hd n_ (jm m (look m a) (look m b)):=by
 have f:=h.mem a c;have g:=h.mem b hb;refine⟨(XR _ _ _).trans h.keys,h.nd,h.len,λx hx=>?_,λx hx=>?_⟩
 ·rw[h.zm hx];unfold jn;split
  ·rcases Ue (look m a) (look m b)with e|e<;>rw[e]<;>assumption
  ·exact h.mem x hx
 ·have d:jn (look m a) (look m b) (look m x)∈n_:=by
   unfold jn;split
   ·rcases Ue (look m a) (look m b)with e|e<;>rw[e]<;>assumption
   ·exact h.mem x hx
  rw[h.zm hx,h.zm d];unfold jn;by_cases q:look m x=look m a\/look m x=look m b
  ·rw[zr q];rcases Ue (look m a) (look m b)with e|e
   ·rw[e,h.idem a c,zr (.inl Y2)]
   ·rw[e,h.idem b hb,zr (.inr Y2)]
  ·rw[zI q,h.idem x hx,zI q]
abbrev c7:=Int×AJ×AJ×Int
def Rs(n_:AZ)(rs:Y c7):Prop:=∀r∈rs,r.2.1∈n_/\r.2.2.1∈n_
def jb(m:Y (AJ×AJ))(r:c7):Y (AJ×AJ):=jm m (look m r.2.1) (look m r.2.2.1)
def hb(n_:AZ)(rs:Y c7):Y (AJ×AJ):=rs.foldl jb (cY n_)
theorem IQ(nd:n_.Nodup)(a:n_.length<1000):Hd n_ (cY n_):=by rw[(Cq n_ nd a).2];exact Hd.lone nd a
theorem G7(n_:AZ)(rs:Y c7)(r:c7):hb n_ (rs++[r])=jb (hb n_ rs) r:=List.foldl_append (l:=rs) (l':=[r])
theorem J8(a:AJ):qy a a:=by unfold qy;rw[ltCps_eq];simp
theorem NK{a b c:AJ}(h:qy a b)(h':qy b c):qy a c:=by
 unfold qy at *
 rw[ltCps_eq]at *
 simp only[j0]at *
 exact List.le_trans (α:=Nat) h h'
theorem MA(a b:AJ):qy (mn a b) a/\qy (mn a b) b:=by
 unfold mn;by_cases h:uq b a=true
 ·rw[zr h];exact⟨((C1 b a).mp h).1,J8 b⟩
 ·rw[zI h];refine⟨J8 a,?_⟩;have h:uq b a=false:=by simpa using h
  unfold uq at h;unfold qy;rw[ltCps_eq];exact h
def D4(n_:AZ)(m:Y (AJ×AJ)):Prop:=∀x∈n_,qy (look m x) x
theorem cz(nd:n_.Nodup)(a:n_.length<1000):D4 n_ (cY n_):=λx hx=>by
 rw[(Cq n_ nd a).2,q9 nd hx];exact J8 x
theorem D4.jb(l:D4 n_ m)(h:Hd n_ m)(r:c7):D4 n_ (jb m r):=λx hx=>by
 show qy (look (jm m (look m r.2.1) (look m r.2.2.1)) x) x;rw[h.zm hx];unfold jn;split
 ·rename_i e;rcases e with e|e
  ·exact NK (MA _ _).1 (e▸l x hx)
  ·exact NK (MA _ _).2 (e▸l x hx)
 ·exact l x hx
theorem QF{α:Type}[DecidableEq α]:∀{xs ys:Y α},xs.Nodup->ys.Nodup->(∀x,x∈xs↔x∈ys)->xs.Perm ys
 |[],ys,_,_,h=>by
  cases ys with
  |nil=>exact .refl _
  |cons y ys=>exact absurd ((h y).mpr (zh ..)) (by simp)
 |x::xs,ys,nx,ny,h=>by
  obtain⟨b,c⟩:=List.nodup_cons.mp nx;have hx:=(h x).mp (zh ..);refine(List.Perm.cons x (QF (ys:=ys.erase x) c (ny.erase x) λz=>?_)).trans (K0 hx).symm;constructor
  ·intro a;have:z≠x:=λe=>b (e▸a);exact(k7 this).mpr ((h z).mp (zi _ a))
  ·intro a;have d:z≠x:=λe=>by subst e;exact(List.Nodup.not_mem_erase ny) a
   have:=(h z).mpr (List.mem_of_mem_erase a);rcases List.mem_cons.mp this with e|e
   ·exact absurd e d
   ·exact e
theorem Be{α:Type}(c:Array α):∀(n:Nat) (a:Array α),((List.replicate n c).foldl (·++·) a).size=a.size+n*c.size
 |0,a=>by simp
 |n+1,a=>by
  rw[Kb,qS,Be c n,KM,Nat.succ_mul];omega
theorem Ou(x:AJ)(k:Int):(Txt.mul x k).length<=x.length*k.toNat:=by
 unfold Txt.mul;split
 ·exact QU _
 split
 ·rename_i h0 h;simp only[K2,beq_iff_eq]at h;rcases h with h|h
  ·subst h;simp
  ·rw[h];simp
 ·show(Array.size _)<=_;rw[Be];have:x.cps.size=x.length:=rfl;rw[this,Nat.mul_comm];simp
def LT:AJ:=("abcdefghijklmnopqrstuvwxyz":AJ)
theorem Wm:LT.length=26:=by decide +kernel
theorem iu(h:n<=1000):zH n:=ZI h (by decide)
theorem Wn(xs:Y Int)(g:6<=xs.length)(b:AJ)(hs:b.length<=5)(at_:Int)(k:Nat)(a:AZ)(f:k<200)(h:a.length=k/\∀n∈a,n.length<=12):nD xs LT b at_ a k/\(gw xs LT b at_ a k).length=k+1/\∀n∈gw xs LT b at_ a k,n.length<=12:=by
 have l:=ZI (slice_le b Y3 (O at_)) hs;have j:=ZI (slice_le b (O at_) Y3) hs;have c1:=zJ LT ((↑k+at' xs 2)%15);have i:=iz (k:Int) (m:=8) (by decide);have hd:(0:Int)<=(k:Int) / 8/\(k:Int) / 8<26:=by omega
 refine⟨⟨⟨BC (by decide) (by omega),uY (by decide) (by rw[Wm];decide)⟩,⟨iu (by omega),iu (by rw[pI];omega)⟩,⟨BC (by decide) (by omega),λ_=>⟨BC hd.1 (by rw[Wm];exact hd.2),by omega,by omega,by rw[zJ];decide⟩⟩,iu (by omega)⟩,?_⟩;have d:∀n:AJ,n.length<=12->(a++[n]).length=k+1/\∀m∈a++[n],m.length<=12:=λn e=>⟨by simp[h.1],λm c=>by
  rcases List.mem_append.mp c with c|c
  ·exact h.2 m c
  ·cases List.mem_singleton.mp c;exact e⟩
 unfold gw;dsimp only;split
 ·exact d _ (by have:=Ou (ch LT ((k:Int) / 8)) (1+(k:Int)%8);rw[zJ]at this;exact ZI this (by omega))
 ·exact d _ (by rw[pI,pI,c1];omega)
theorem OT(xs:AZ)(n:Nat)(h:∀x∈xs,x.length<=n):(Txt.join "" xs).length<=xs.length*n:=by
 have h1:=StrLaws.join_length_le ("":AJ) xs;rw[<-StrLaws.glued_eq_join]at h1;have h2:(xs.map (·.length)).sum<=xs.length*n:=by
  clear h1
  induction xs with
  |nil=>simp
  |cons a l b=>
   have:=b λx hx=>h x (zi _ hx);have:=h a (zh ..);simp only[zo,Jn,Z3,Nat.succ_mul];omega
 have c:("":AJ).length=0:=rfl;rw[c,Nat.mul_zero]at h1;exact ZI h1 (by omega)
theorem VI(xs:AZ)(h:∀x∈xs,x.length=1):(xs.map (·.length)).sum=xs.length:=by
 induction xs with
 |nil=>rfl
 |cons a l b=>
  have:=b λx hx=>h x (zi _ hx);have:=h a (zh ..);simp only[zo,Jn,Z3];omega
theorem Ug(xs:Y Int)(e:6<=xs.length)(a:Int)(h0:0<=a)(h1:a<=200):sZ xs a/\(cM xs a).length=a.toNat/\∀n∈cM xs a,n.length<=12:=by
 have g:=iz (at' xs 0) (m:=6) (by decide);have st:∀b:AJ,b.length<=5->rO xs a LT b/\(nF xs a LT b).length=a.toNat/\∀n∈nF xs a LT b,n.length<=12:=λb hs=>by
  have:=uG (P:=λf k=>O (nD xs LT b (at' xs 1%((b.length:Int)+1)) f k)) (step:=λf k=>gw xs LT b (at' xs 1%((b.length:Int)+1)) f k) (λk s=>s.length=k/\∀n∈s,n.length<=12) a.toNat [] ⟨rfl,λn h=>(by cases h)⟩ λk s d h=>Wn xs e b hs _ k s (by omega) h;exact⟨⟨⟨BC (by decide) (by omega),by omega⟩,Eo h0 (by omega),this.1⟩,this.2⟩
 have c1:∀x∈((rng 0 (at' xs 0%6).toNat).map λc:Int=>ch LT (at' xs c / 40%26)),x.length=1:=λx hx=>by
  obtain⟨k,_,rfl⟩:=List.mem_map.mp hx;exact zJ _ _
 have:=st (Txt.join "" ((rng 0 (at' xs 0%6).toNat).map λc:Int=>ch LT (at' xs c / 40%26))) (by
  have:=OT _ 1 λx hx=>Nat.le_of_eq (c1 x hx);rw[zt,yw]at this;omega)
 refine⟨⟨⟨⟨⟨⟨BC (by decide) (by omega),Eo g.1 (by omega)⟩,by rw[yw];omega⟩,λk d=>?_⟩,?_⟩,this.1⟩,this.2⟩
 ·obtain⟨j,l,rfl⟩:=G4 d;exact⟨BC (by omega) (by omega),uY (by decide) (by rw[show("abcdefghijklmnopqrstuvwxyz":AJ)=LT from rfl,Wm];decide)⟩
 ·rw[show("abcdefghijklmnopqrstuvwxyz":AJ)=LT from rfl,VI _ c1,zt,yw];have i:("":AJ).length=0:=rfl;rw[i];omega
def Tr(F:Y c7):AJ->Y c7->AJ->Prop
 |s,[],e=>s=e
 |s,r::p,e=>r∈F/\∃t,bK r s=O t/\Tr F t p e
def DN(F:Y c7)(x y:AJ):Prop:=∃p,Tr F x p y
theorem qY{r:c7}(h:bK r x=O y):(r.2.1=x/\r.2.2.1=y)\/(r.2.2.1=x/\r.2.1=y):=by
 unfold bK at h;by_cases h1:r.2.1=x
 ·rw[ZH h1,zr rfl]at h;exact .inl ⟨h1,JE h⟩
 ·rw[ZN h1,zI (by decide)]at h;by_cases h2:r.2.2.1=x
  ·rw[ZH h2,zr rfl]at h;exact .inr ⟨h2,JE h⟩
  ·rw[ZN h2,zI (by decide)]at h;cases h
theorem X3{r:c7}(a:r.2.1≠r.2.2.1)(h:bK r x=O y):bK r y=O x:=by
 unfold bK;rcases qY h with⟨h1,h2⟩|⟨h1,h2⟩
 ·have:r.2.1≠y:=λz=>a (z.trans h2.symm);rw[ZN this,zI (by decide),ZH h2,zr rfl,h1]
 ·rw[ZH h2,zr rfl,h1]
theorem Tr.app{F:Y c7}:∀{p:Y c7} {x y z:AJ} {q:Y c7},Tr F x p y->Tr F y q z->Tr F x (p++q) z
 |[],_,_,_,_,h,h'=>by cases h;exact h'
 |_::_,_,_,_,_,⟨m,t,e,h⟩,h'=>⟨m,t,e,h.app h'⟩
theorem Tr.rev{F:Y c7}(a:∀r∈F,r.2.1≠r.2.2.1):∀{p:Y c7} {x y:AJ},Tr F x p y->Tr F y p.reverse x
 |[],_,_,h=>by cases h;rfl
 |r::p,x,y,⟨m,t,e,h⟩=>by
  rw[k4];exact(h.rev a).app ⟨m,x,X3 (a r m) e,rfl⟩
theorem DN.symm{F:Y c7}(a:∀r∈F,r.2.1≠r.2.2.1){x y:AJ}:DN F x y->DN F y x:=λ⟨p,h⟩=>⟨_,h.rev a⟩
theorem DN.trans{F:Y c7}{z:AJ}:DN F x y->DN F y z->DN F x z:=λ⟨_,h⟩ ⟨_,h'⟩=>⟨_,h.app h'⟩
theorem Tr.mono{F G:Y c7}:∀{p:Y c7} {x y:AJ},Tr F x p y->(∀r∈p,r∈G)->Tr G x p y
 |[],_,_,h,_=>h
 |r::p,_,_,⟨_,t,e,h⟩,hg=>⟨hg r (zh ..),t,e,h.mono λz a=>hg z (zi _ a)⟩
theorem Tr.mem{F:Y c7}:∀{p:Y c7} {x y:AJ},Tr F x p y->∀r∈p,r∈F
 |[],_,_,_,_,h=>by cases h
 |r::p,_,_,⟨m,_,_,h⟩,z,a=>by
  rcases List.mem_cons.mp a with rfl|a
  ·exact m
  ·exact h.mem z a
theorem BV{P:Y α->Prop}(h0:P [])(h1:∀l x,P l->P (l++[x]))(l:Y α):P l:=by
 have:∀m:Y α,P m.reverse:=λm=>by
  induction m with
  |nil=>exact h0
  |cons x m a=>rw[k4];exact h1 _ x a
 have:=this l.reverse;rwa [List.reverse_reverse]at this
theorem Hd.hb(nd:n_.Nodup)(b:n_.length<1000){rs:Y c7}:Rs n_ rs->Hd n_ (hb n_ rs):=by
 induction rs using BV with
 |h0=>intro _;exact IQ nd b
 |h1 rs r e=>
  intro a;obtain⟨f,d⟩:=a r (by simp);rw[G7];exact(e λz c=>a z (Zp _ c)).join f d
theorem ax(nd:n_.Nodup)(f:n_.length<1000){pre:Y c7}:∀{a:Y c7},Rs n_ (pre++a)->∀x∈n_,∀y∈n_,look (hb n_ pre) x=look (hb n_ pre) y->look (hb n_ (pre++a)) x=look (hb n_ (pre++a)) y:=λ{a}=>by
 induction a using BV with
 |h0=>intro _ x hx y b e;rw[qv];exact e
 |h1 a r h=>
  intro d x hx y b e;rw[<-qq]at d ⊢;have c:Rs n_ (pre++a):=λz g=>d z (Zp _ g);have H:=Hd.hb nd f c;rw[G7];unfold jb;rw[H.zm hx,H.zm b,h c x hx y b e]
theorem Uh(nd:n_.Nodup)(f:n_.length<1000){rs:Y c7}(d:Rs n_ rs){r:c7}(h:r∈rs):look (hb n_ rs) r.2.1=look (hb n_ rs) r.2.2.1:=by
 obtain⟨a,b,rfl⟩:=List.append_of_mem h;have j:Rs n_ ((a++[r])++b):=λz c=>d z (by simpa using c);obtain⟨i,g⟩:=d r h;have e:a++r::b=(a++[r])++b:=by simp
 rw[e];refine ax nd f j _ i _ g ?_;have H:=Hd.hb nd f (rs:=a) λz c=>d z (Zp _ c);rw[G7];unfold jb;rw[H.zm i,H.zm g];unfold jn;rw[zr (.inl Y2),zr (.inr Y2)]
theorem Ui{n_:AZ}(nd:n_.Nodup)(a:n_.length<1000){F:Y c7}(b:Rs n_ F):∀{p:Y c7} {x y:AJ},Tr F x p y->look (hb n_ F) x=look (hb n_ F) y
 |[],_,_,h=>by cases h;rfl
 |r::p,_,_,⟨m,t,e,h⟩=>by
  rw[<-Ui nd a b h];have:=Uh nd a b m;rcases qY e with⟨h1,h2⟩|⟨h1,h2⟩
  ·rw[<-h1,<-h2];exact this
  ·rw[<-h1,<-h2];exact this.symm
theorem NH(n_:AZ):∀(rs:Y c7) (m:Y (AJ×AJ)),Rs n_ rs->Hd n_ m →
  nU (λ(a:(Y (AJ×AJ))) (q1:aC)=>(g8 a q1)) (λ(a:(Y (AJ×AJ))) (q1:aC)=>O (ug a q1)) rs m/\rs.foldl (λ(a:(Y (AJ×AJ))) (q1:aC)=>(g8 a q1)) m=rs.foldl jb m/\Hd n_ (rs.foldl jb m)
 |[],m,_,h=>⟨trivial,rfl,h⟩
 |r::rs,m,hr,h=>by
  obtain⟨b,hb⟩:=hr r (zh ..);obtain⟨d,e⟩:=ap (look m r.2.1) (look m r.2.2.1) h.kn h.ml;have e:g8 m r=jb m r:=e;obtain⟨i1,i2,c⟩:=NH n_ rs (jb m r) (λx hx=>hr x (zi _ hx)) (h.join b hb);refine⟨⟨⟨⟨h.has b,h.has hb⟩,d⟩,?_⟩,?_,c⟩
  ·show nU _ _ rs (g8 m r);rw[e];exact i1
  ·rw[qS,qS,e];exact i2
theorem J9(nd:n_.Nodup)(a:n_.length<1000){rs:Y c7}(c:Rs n_ rs):vO n_ rs/\jx n_ rs=hb n_ rs/\Hd n_ (hb n_ rs):=by
 obtain⟨i1,i2,b⟩:=NH n_ rs _ c (IQ nd a);exact⟨⟨(Cq n_ nd a).1,i1⟩,i2,b⟩
theorem LS{n_:AZ}(nd:n_.Nodup)(a:n_.length<1000):∀(rs:Y c7) (m:Y (AJ×AJ)),Rs n_ rs->Hd n_ m->D4 n_ m->D4 n_ (rs.foldl jb m)
 |[],m,_,_,l=>l
 |r::rs,m,hr,h,l=>by
  obtain⟨b,hb⟩:=hr r (zh ..);exact LS nd a rs (jb m r) (λx hx=>hr x (zi _ hx)) (h.join b hb) (l.jb h r)
theorem LU(h:Hd n_ m)(z:AJ):o9 m z/\lD m z=n_.filter λy=>decide (look m y=z):=by
 have l:=h.len;refine⟨⟨by rw[h.keys];omega,λy a=>h.has (by rw[<-h.keys];exact a)⟩,?_⟩;unfold lD;rw[h.keys];exact kq _
def pt(n_:AZ)(m:Y (AJ×AJ))(x:AJ):AZ:=n_.filter λy=>decide (look m y=look m x)
def st(n_:AZ)(m:Y (AJ×AJ)):Y AZ:=(n_.filter λw=>decide (look m w=w)).map (pt n_ m)
theorem G8(h:Hd n_ m):jy m/\eY m=st n_ m:=by
 have l:=h.len;refine⟨⟨by rw[h.keys];omega,λw a=>⟨h.has (by rw[<-h.keys];exact a),λ_=>(LU h w).1⟩⟩,?_⟩;unfold eY st;rw[h.keys];refine QP λw a=>?_;have e:look m w=w:=qi (List.mem_filter.mp a).2;rw[(LU h w).2];unfold pt;rw[e]
theorem Ka(r:c7):bK r r.2.1=O r.2.2.1:=by
 unfold bK;rw[ZH rfl,zr rfl]
theorem DN.more{F G:Y c7}(h:∀r∈F,r∈G):DN F x y->DN G x y:=λ⟨p,t⟩=>⟨p,t.mono λz a=>h z (t.mem z a)⟩
theorem bg(nd:N.Nodup)(g:N.length<1000){rs:Y c7}:Rs N rs->(∀r∈rs,r.2.1≠r.2.2.1)->∀x∈N,∀y∈N,look (hb N rs) x=look (hb N rs) y->DN rs x y:=by
 induction rs using BV with
 |h0=>
  intro _ _ x hx y a h;have e:hb N []=cY N:=rfl;rw[e,(Cq N nd g).2,q9 nd hx,q9 nd a]at h;exact⟨[],h⟩
 |h1 rs r c=>
  intro l f x hx y a h;have i:Rs N rs:=λz b=>l z (Zp _ b);have c:=c i λz b=>f z (Zp _ b);have H:=Hd.hb nd g i;have n:r∈rs++[r]:=by simp
  obtain⟨p,q⟩:=l r n;rw[G7]at h;unfold jb at h;rw[H.zm hx,H.zm a]at h;have d:∀{u v:AJ},DN rs u v->DN (rs++[r]) u v:=DN.more λz b=>Zp _ b;have o:DN (rs++[r]) r.2.1 r.2.2.1:=⟨[r],n,_,Ka r,rfl⟩;have j:∀u∈N,look (hb N rs) u=look (hb N rs) r.2.1\/look (hb N rs) u=look (hb N rs) r.2.2.1->DN (rs++[r]) u r.2.1:=λu m z=>by
   rcases z with z|z
   ·exact d (c u m _ p z)
   ·exact(d (c u m _ q z)).trans (o.symm f)
  by_cases px:look (hb N rs) x=look (hb N rs) r.2.1\/look (hb N rs) x=look (hb N rs) r.2.2.1<;>by_cases py:look (hb N rs) y=look (hb N rs) r.2.1\/look (hb N rs) y=look (hb N rs) r.2.2.1
  ·exact(j x hx px).trans ((j y a py).symm f)
  ·unfold jn at h;rw[zr px,zI py]at h;rcases Ue (look (hb N rs) r.2.1) (look (hb N rs) r.2.2.1)with e|e
   ·exact absurd (.inl (h.symm.trans e)) py
   ·exact absurd (.inr (h.symm.trans e)) py
  ·unfold jn at h;rw[zI px,zr py]at h;rcases Ue (look (hb N rs) r.2.1) (look (hb N rs) r.2.2.1)with e|e
   ·exact absurd (.inl (h.trans e)) px
   ·exact absurd (.inr (h.trans e)) px
  ·unfold jn at h;rw[zI px,zI py]at h;exact d (c x hx y a h)
theorem Cr(nd:N.Nodup)(a:N.length<1000){rs:Y c7}(b:Rs N rs)(d:∀r∈rs,r.2.1≠r.2.2.1)(hx:x∈N)(c:y∈N):look (hb N rs) x=look (hb N rs) y↔DN rs x y:=
 ⟨bg nd a b d x hx y c,λ⟨_,t⟩=>Ui nd a b t⟩
theorem Uj{α:Type}[DecidableEq α]:∀{xs ys:Y α},xs.Nodup->(∀x∈xs,x∈ys)->xs.length<=ys.length
 |[],_,_,_=>QU _
 |x::xs,ys,nd,h=>by
  obtain⟨b,c⟩:=List.nodup_cons.mp nd;have hx:=h x (zh ..);have:=Uj (ys:=ys.erase x) c λz a=>(k7 (λe:z=x=>b (e▸a))).mpr (h z (zi _ a));rw[List.length_erase_of_mem hx]at this;have:=List.length_pos_of_mem hx;rw[Z3];omega
abbrev Cm:=Y (AJ×(S aC))
inductive Bk (F:List c7) (s:Str):Cm->Prop
 |base:Bk F s [(s,none)]
 |snoc {L:Cm} {x:Str} {r:c7} {y:Str}:Bk F s L->x∉L.map (·.1)->r∈F->bK r x=some y->y∈L.map (·.1)->Bk F s (L++[(x,some r)])
theorem Bk.facts{F:Y c7}{s:AJ}(d:Rs n_ F)(hs:s∈n_){L:Cm}(h:Bk F s L):(L.map (·.1)).Nodup/\(∀x∈L.map (·.1),x∈n_)/\s∈L.map (·.1):=by
 induction h with
 |base=>exact⟨List.nodup_cons.mpr ⟨λz=>(by cases z),Qb⟩,λx hx=>by cases List.mem_singleton.mp hx;exact hs,List.mem_singleton.mpr rfl⟩
 |@snoc L x r y h hx m o i g=>
  obtain⟨i1,i2,f⟩:=g;rw[qc];refine⟨List.nodup_append.mpr ⟨i1,List.nodup_cons.mpr ⟨λz=>(by cases z),Qb⟩,λa e b hb z=>?_⟩,λz c=>?_,Zp _ f⟩
  ·cases List.mem_singleton.mp hb;have z:a=x:=z;rw[z]at e;exact hx e
  ·rcases List.mem_append.mp c with c|c
   ·exact i2 z c
   ·cases List.mem_singleton.mp c;rcases qY o with⟨h1,_⟩|⟨h1,_⟩
    ·show x∈n_;rw[<-h1];exact(d r m).1
    ·show x∈n_;rw[<-h1];exact(d r m).2
theorem Bk.len{F:Y c7}{s:AJ}(a:Rs n_ F)(hs:s∈n_){L:Cm}(h:Bk F s L):L.length<=n_.length:=by
 obtain⟨h1,h2,_⟩:=h.facts a hs;have:=Uj h1 h2;rwa [zt]at this
theorem Xt{L:Cm}{v:S c7}(h:x∉L.map (·.1)):put L x v=L++[(x,v)]:=by
 unfold put;rw[zI λz=>h (lM.mp z)]
theorem DE{n_:AZ}{F:Y c7}{s:AJ}(v:Rs n_ F)(hs:s∈n_)(x:n_.length<64)(p:∀r∈F,r.2.1≠r.2.2.1){here:AJ}:∀(R:Y c7),(∀r∈R,r∈F)->∀(L:Cm) (q:AZ),Bk F s L->here∈L.map (·.1)->q.length<=L.length →
  nU (λ(i:Cm×AZ) (g:aC)=>(d7 here i g)) (λ(i:Cm×AZ) (g:aC)=>O (je here i g)) R (L,q) ∧
  ∃a ad,R.foldl (λ(i:Cm×AZ) (g:aC)=>(d7 here i g)) (L,q)=(a,q++ad)/\a.map (·.1)=L.map (·.1)++ad/\Bk F s a/\∀r∈R,∀y,bK r here=O y->y∈a.map (·.1)
 |[],_,L,q,b,_,_=>⟨trivial,L,[],by rw[qv];rfl,by rw[qv],b,λr h=>(by cases h)⟩
 |r::R,hR,L,q,b,hh,hq=>by
  have w:=hR r (zh ..);have D:=b.len v hs;have o:∀(l:Cm) (a1:AZ),d7 here (L,q) r=(l,q++a1)->je here (L,q) r->l.map (·.1)=L.map (·.1)++a1->Bk F s l->(∀y,bK r here=O y->y∈l.map (·.1))->(q++a1).length<=l.length->(nU (λ(i:Cm×AZ) (g:aC)=>(d7 here i g)) (λ(i:Cm×AZ) (g:aC)=>O (je here i g)) (r::R) (L,q)/\∃a ad,(r::R).foldl (λ(i:Cm×AZ) (g:aC)=>(d7 here i g)) (L,q)=(a,q++ad)/\a.map (·.1)=L.map (·.1)++ad/\Bk F s a/\∀z∈r::R,∀y,bK z here=O y->y∈a.map (·.1)):=λl a1 e d k b1 c C=>by
   obtain⟨i1,a,ad,i2,u,A,B⟩:=DE v hs x p R (λz m=>hR z (zi _ m)) l (q++a1) b1 (by rw[k];exact Zp _ hh) C;refine⟨⟨d,by show nU _ _ R (d7 here (L,q) r);rw[e];exact i1⟩,a,a1++ad,?_,?_,A,λz m y f=>?_⟩
   ·rw[qS,e,i2,qq]
   ·rw[u,k,qq]
   ·rcases List.mem_cons.mp m with rfl|m
    ·rw[u];exact Zp _ (c y f)
    ·exact B z m y f
  cases j:bK r here with
  |none=>
   refine o L [] ?_ ?_ (by rw[qv]) b (λy f=>by rw[j]at f;cases f) (by rw[qv];exact hq)
   ·unfold d7;dsimp only;rw[j,qv];rfl
   ·unfold je;dsimp only;rw[j];exact⟨λz=>z,λz=>(by cases z)⟩
  |some t=>
   by_cases n:t∈L.map (·.1)
   ·have c:(!has L t)=false:=by rw[lM.mpr n];rfl
    refine o L [] ?_ ?_ (by rw[qv]) b (λy f=>by rw[j]at f;cases f;exact n) (by rw[qv];exact hq)
    ·unfold d7;dsimp only;rw[j,qv,show(!has L ((O t).getD default))=false from c];rfl
    ·unfold je;dsimp only;rw[j,show(!has L ((O t).getD default))=false from c];exact⟨λz=>z,λz=>(by cases z)⟩
   ·have c:(!has L t)=true:=by
     cases q:has L t with
     |false=>rfl
     |true=>exact absurd (lM.mp q) n
    refine o (L++[(t,O r)]) [t] ?_ ?_ (by rw[qc];rfl) (.snoc b n w (X3 (p r w) j) hh) (λy f=>by rw[j]at f;cases f;rw[qc];exact ZA _ (List.mem_singleton.mpr Y2)) (by rw[zw,zw];show _+1<=_+1;omega)
    ·unfold d7;dsimp only;rw[j,show(!has L ((O t).getD default))=true from c];show(put L t (O r),q++[t])=_;rw[Xt n]
    ·unfold je;dsimp only;rw[j];exact⟨λz=>z,λ_=>⟨⟨rfl,by omega⟩,rfl,iu (by show q.length<=1000;omega)⟩⟩
structure Iq (F:List c7) (s:Str) (q:AZ) (L:Cm):Prop where
 b:Bk F s L
 sub:∀x∈q,x∈L.map (·.1)
 len:q.length<=L.length
 cl:∀x∈L.map (·.1),x∉q->∀r∈F,∀y,bK r x=some y->y∈L.map (·.1)
theorem outer{n_:AZ}{F:Y c7}{s:AJ}(g:Rs n_ F)(hs:s∈n_)(j:n_.length<64)(m:∀r∈F,r.2.1≠r.2.2.1):∀(n:Nat) (q:AZ) (L:Cm),Iq F s q L->n_.length-L.length+q.length<n->∃f,Iq F s [] f ∧
  Nr (λa:AZ×Cm=>(!a.1.isEmpty)) (λa:AZ×Cm=>((jf F a):wC (AZ×Cm) (S (Y aC)))) n (q,L)=.nx ([],f) ∧
  DU (λa:AZ×Cm=>(!a.1.isEmpty)) (λa:AZ×Cm=>Y3) (λa:AZ×Cm=>((jf F a):wC (AZ×Cm) (S (Y aC)))) (λa:AZ×Cm=>O (tB F a)) n (q,L)
 |0,_,_,_,h=>by omega
 |n+1,[],L,i,_=>⟨L,i,rfl,trivial,λz=>(by cases z)⟩
 |n+1,h::q,L,i,hm=>by
  have B:=i.sub h (zh ..);have t:=i.len;rw[Z3]at t hm;obtain⟨d,f,ad,e,k,b,c⟩:=DE g hs j m (here:=h) F (λr h=>h) L q i.b B (by omega);have D:f.length=L.length+ad.length:=by
   have:=congrArg List.length k;rwa [zw,zt,zt]at this
  have C:=b.len g hs;have i':Iq F s (q++ad) f:=by
   refine⟨b,λx hx=>?_,by rw[zw];omega,λx hx o=>?_⟩
   ·rw[k];rcases List.mem_append.mp hx with hx|hx
    ·exact Zp _ (i.sub x (zi _ hx))
    ·exact ZA _ hx
   ·rw[k]at hx;rcases List.mem_append.mp hx with hx|hx
    ·by_cases l:x=h
     ·subst l;exact c
     ·intro r v y p;rw[k];refine Zp _ (i.cl x hx (λz=>?_) r v y p);rcases List.mem_cons.mp z with z|z
      ·exact l z
      ·exact o (Zp _ z)
    ·exact absurd (ZA _ hx) o
  have st:jf F (h::q,L)=.nx (q++ad,f):=by
   unfold jf;dsimp only;rw[show at' (h::q) (0:Int)=h from Js _ 0 (by simp),show(h::q).drop 1=q from rfl,e]
  obtain⟨w,i2,A,u⟩:=outer g hs j m n (q++ad) f i' (by rw[zw];omega);refine⟨w,i2,?_,trivial,λ_=>⟨?_,?_⟩⟩
  ·unfold Nr;rw[zr (show(!(h::q,L).1.isEmpty)=true from Y2),st];exact A
  ·show tB F (h::q,L);refine⟨⟨rfl,by show 0<(h::q).length;simp⟩,?_⟩;dsimp only;rw[show at' (h::q) (0:Int)=h from Js _ 0 (by simp)];exact d
  ·dsimp only;rw[st];exact u
theorem back{F:Y c7}{s:AJ}(H:∀r∈F,r.2.1≠r.2.2.1){L:Cm}(h:Bk F s L):(L.map (·.1)).Nodup->∀x∈L.map (·.1),∃w,Tr F x w s/\w.Nodup/\(∀r∈w,r.2.1∈L.map (·.1)/\r.2.2.1∈L.map (·.1))/\w.length<L.length ∧
  ∀(a:Cm),(∀k∈L.map (·.1),look a k=look L k/\has a k=true)->∀(n:Nat) (c:Y c7),w.length<n->c.length+w.length<=100 →
   Nr (λd:(Y aC)×AJ=>(look a d.2).isSome) (λd:(Y aC)×AJ=>((fY a d):wC ((Y aC)×AJ) (Y aC))) n (c,x)=.nx (c++w,s) ∧
   DU (λd:(Y aC)×AJ=>(look a d.2).isSome) (λd:(Y aC)×AJ=>O (has a d.2=true)) (λd:(Y aC)×AJ=>((fY a d):wC ((Y aC)×AJ) (Y aC))) (λd:(Y aC)×AJ=>O (lF a d)) n (c,x):=by
 induction h with
 |base=>
  intro _ x hx;cases List.mem_singleton.mp hx;refine⟨[],rfl,Qb,λr h=>(by cases h),Nat.zero_lt_succ _,λa h2 n c i _=>?_⟩;obtain⟨l,g⟩:=h2 s (List.mem_singleton.mpr Y2);have l:look a s=Y3:=l.trans (Ck (pre:=[]) (AS:=[]) (λz=>by cases z));cases n with
  |zero=>cases i
  |succ n=>
   refine⟨?_,g,λz=>?_⟩
   ·unfold Nr;rw[zI (by show ¬ (look a s).isSome=true;rw[l];decide),qv]
   ·have z:(look a s).isSome=true:=z;rw[l]at z;cases z
 |@snoc L y r z b t m o j v=>
  intro nd x hx;rw[qc]at nd hx ⊢;have u:=(List.nodup_append.mp nd).1;have A:∀k∈L.map (·.1),look (L++[(y,O r)]) k=look L k:=λk e=>by
   have:=Nz e;have h1:(k,look L k)∈L++[(y,O r)]:=Zp _ this;exact Cp (m:=L++[(y,O r)]) (by rw[qc];exact nd) h1
  rcases List.mem_append.mp hx with hx|hx
  ·obtain⟨w,t1,t2,t3,B,p⟩:=v u x hx;refine⟨w,t1,t2,λq f=>⟨Zp _ (t3 q f).1,Zp _ (t3 q f).2⟩,by rw[zw];omega,λa h2=>p a λk e=>?_⟩;obtain⟨a1,a2⟩:=h2 k (Zp _ e);exact⟨a1.trans (A k e),a2⟩
  ·have ex:x=y:=List.mem_singleton.mp hx;subst ex;obtain⟨w,t1,t2,t3,B,p⟩:=v u z j;have E:r∉w:=λq=>by
    obtain⟨a1,a2⟩:=t3 r q;rcases qY o with⟨h1,_⟩|⟨h1,_⟩
    ·exact t (h1▸a1)
    ·exact t (h1▸a2)
   refine⟨r::w,⟨m,z,o,t1⟩,List.nodup_cons.mpr ⟨E,t2⟩,λq f=>?_,by rw[zw,Z3];show _+1<_+1;omega,λa h2 n c i G=>?_⟩
   ·rcases List.mem_cons.mp f with rfl|f
    ·rcases qY o with⟨h1,h2⟩|⟨h1,h2⟩
     ·exact⟨ZA _ (by rw[h1];exact List.mem_singleton.mpr Y2),Zp _ (by rw[h2];exact j)⟩
     ·exact⟨Zp _ (by rw[h2];exact j),ZA _ (by rw[h1];exact List.mem_singleton.mpr Y2)⟩
    ·exact⟨Zp _ (t3 q f).1,Zp _ (t3 q f).2⟩
   ·obtain⟨l,g⟩:=h2 x (ZA _ (List.mem_singleton.mpr Y2));have l:look a x=O r:=l.trans (Ck (pre:=L) (AS:=[]) t);rw[Z3]at i G;cases n with
    |zero=>cases i
    |succ n=>
     have st:fY a (c,x)=.nx (c++[r],z):=by
      unfold fY;dsimp only;rw[l];show wC.nx (c++[r],(bK r x).getD default)=_;rw[o];rfl
     obtain⟨D,C⟩:=p a (λk e=>by
      obtain⟨a1,a2⟩:=h2 k (Zp _ e);exact⟨a1.trans (A k e),a2⟩) n (c++[r]) (by omega) (by rw[zw];show _+1+_<=100;omega)
     refine⟨?_,g,λ_=>⟨?_,?_⟩⟩
     ·unfold Nr;rw[zr (by show(look a x).isSome=true;rw[l];rfl),st];show Nr _ _ n (c++[r],z)=_;rw[D,qq];rfl
     ·show lF a (c,x);unfold lF;dsimp only;rw[l];exact⟨⟨⟨g,rfl⟩,iu (by show c.length<=1000;omega)⟩,⟨g,rfl⟩,by show(bK r x).isSome=true;rw[o];rfl⟩
     ·dsimp only;rw[st];exact C
theorem a7{F:Y c7}(f:Rs n_ F)(l:n_.length<64)(d:∀r∈F,r.2.1≠r.2.2.1){s e:AJ}(hs:s∈n_):xU F s e/\(∀p,pQ F s e=O p->Tr F s p e/\p.Nodup)/\(pQ F s e=Y3->¬ DN F s e):=by
 have H:Iq F s [s] [(s,Y3)]:=⟨.base,λx hx=>hx,zk _,λx hx G=>absurd hx G⟩;obtain⟨L,i,A,g⟩:=outer f hs l d 70 [s] [(s,Y3)] H (by show n_.length-1+1<70;omega);have J:0<n_.length:=List.length_pos_of_mem hs;obtain⟨f1,f2,E⟩:=i.b.facts f hs;have K:=i.b.len f hs;have D:∀{p:Y c7} {x y:AJ},Tr F x p y->x∈L.map (·.1)->y∈L.map (·.1):=by
  intro p
  induction p with
  |nil=>intro x y h hx;cases h;exact hx
  |cons r p B=>
   intro x y h hx;obtain⟨m,t,o,h⟩:=h;exact B h (i.cl x hx (λz=>by cases z) r m t o)
 unfold xU pQ;dsimp only;rw[A];by_cases a:e∈L.map (·.1)
 ·have c:(!has L e)=false:=by rw[lM.mpr a];rfl
  obtain⟨w,t1,t2,t3,I,v⟩:=back d i.b f1 e a;obtain⟨j,n⟩:=v L (λk C=>⟨rfl,lM.mpr C⟩) 70 [] (by omega) (by show 0+_<=100;omega);have tb:jY L e=w:=by
   unfold jY;dsimp only;rw[j];rfl
  have u:rQ L e:=by
   unfold rQ;dsimp only;rw[j];exact⟨n,trivial⟩
  refine⟨⟨g,λ_=>u⟩,λp hp=>?_,λh=>?_⟩
  ·have hp:(if(!has L e)=true then Y3 else(O (jY L e).reverse))=O p:=hp;rw[c,zI (by decide),tb]at hp;cases hp;exact⟨t1.rev d,(List.reverse_perm w).nodup_iff.mpr t2⟩
  ·have h:(if(!has L e)=true then Y3 else(O (jY L e).reverse))=Y3:=h;rw[c,zI (by decide)]at h;cases h
 ·have c:(!has L e)=true:=by
   cases q:has L e with
   |false=>rfl
   |true=>exact absurd (lM.mp q) a
  refine⟨⟨g,λz=>?_⟩,λp hp=>?_,λ_ ⟨p,h⟩=>a (D h E)⟩
  ·rw[c]at z;cases z
  ·have hp:(if(!has L e)=true then Y3 else(O (jY L e).reverse))=O p:=hp;rw[c,zr rfl]at hp;cases hp
abbrev CA:=AJ×AJ×Int
def wt(L:Y c7):Int:=(L.map λr:c7=>r.1).sum
theorem Kc:wt []=0:=rfl
theorem fL(r:c7)(L:Y c7):wt (r::L)=r.1+wt L:=by unfold wt;rw[zo,Jn]
theorem Wo(A B:Y c7):wt (A++B)=wt A+wt B:=by unfold wt;rw[qc,List.sum_append_int]
theorem Cv{A B:Y c7}(h:A.Perm B):wt A=wt B:=by
 induction h with
 |nil=>rfl
 |cons x _ a=>rw[fL,fL,a]
 |swap x y l=>rw[fL,fL,fL,fL];omega
 |trans _ _ i1 i2=>exact i1.trans i2
theorem zT:∀{L:Y c7},(∀r∈L,1<=r.1)->0<=wt L
 |[],_=>Kt 0
 |r::L,h=>by
  have:=zT (L:=L) λz a=>h z (zi _ a);have:=h r (zh ..);rw[fL];omega
theorem QG:∀{A B:Y c7},A.Nodup->(∀r∈A,r∈B)->(∀r∈B,1<=r.1)->wt A<=wt B
 |[],B,_,_,h=>zT h
 |a::A,B,nd,hs,h=>by
  obtain⟨c,d⟩:=List.nodup_cons.mp nd;have hx:=hs a (zh ..);have:=QG (A:=A) (B:=B.erase a) d (λz b=>(k7 (λe:z=a=>c (e▸b))).mpr (hs z (zi _ b))) λr f=>h r (List.mem_of_mem_erase f);rw[Cv (K0 hx),fL,fL];omega
theorem Cw(p:c7->Bool):∀L:Y c7,wt (L.filter p)+wt (L.filter λr=>!p r)=wt L
 |[]=>rfl
 |r::L=>by
  have:=Cw p L;cases h:p r with
  |true=>rw[JY h,ka (by rw[h];decide),fL,fL];omega
  |false=>rw[ka (by rw[h];decide),JY (by rw[h];rfl),fL,fL];omega
def lf(R C:Y c7):Y c7:=R.filter λx=>!mY x C
theorem lW{R C:Y c7}{r:c7}:r∈lf R C↔r∈R/\r∉C:=by
 unfold lf;rw[kN,js,<-Bool.not_eq_true,jP]
def Fe(R:Y c7)(B:Y CA)(C:Y c7):Prop:=∀b∈B,¬ DN (lf R C) b.1 b.2.1
structure Gb (N:AZ) (R:List c7) (B:List CA):Prop where
 nd:N.Nodup
 len:N.length<64
 rs:Rs N R
 ne:∀r∈R,r.2.1≠r.2.2.1
 rd:R.Nodup
 rl:R.length<64
 va:∀r∈R,1<=r.1/\r.1<=1000000
 bs:∀b∈B,(b.1∈N/\b.2.1∈N)/\b.1≠b.2.1
 bl:B.length<1000
variable{R:Y c7}{B:Y CA}
theorem Gb.l3(g:Gb N R B):N.length<1000:=by have:=g.len;omega
theorem F6{L:Y c7}(b:L.length<=1000)(h:∀r∈L,1<=r.1/\r.1<=1000000):pP L:=by
 refine⟨by omega,?_⟩;unfold EE;rw[ZT,Zl,zt,qB];refine⟨b,λk a=>?_⟩;obtain⟨r,c,rfl⟩:=List.mem_map.mp a;have:=h r c;exact ZH (show _/\_ by omega)
theorem X4(g:Gb N R B)(C:Y c7):∀a:Y CA,(∀b∈a,b∈B) →
  Nj (λ(i:Unit) (f:dM)=>((cP (lf R C) (hb N (lf R C)) i f):wC (Unit) (S (Y aC)))) (λ(i:Unit) (f:dM)=>O (lJ (lf R C) (hb N (lf R C)) i f)) a () ∧
  ((xq (λ(i:Unit) (f:dM)=>((cP (lf R C) (hb N (lf R C)) i f):wC (Unit) (S (Y aC)))) a ()=.nx ()/\∀b∈a,¬ DN (lf R C) b.1 b.2.1) ∨
   ∃p,xq (λ(i:Unit) (f:dM)=>((cP (lf R C) (hb N (lf R C)) i f):wC (Unit) (S (Y aC)))) a ()=.rt (O p)/\p.Nodup/\∃b∈B,Tr (lf R C) b.1 p b.2.1)
 |[],_=>⟨trivial,.inl ⟨rfl,λb h=>(by cases h)⟩⟩
 |b::a,hB=>by
  have sub:∀r∈lf R C,r∈R:=λr l=>(lW.mp l).1;have m:Rs N (lf R C):=λr l=>g.rs r (sub r l);have o:∀r∈lf R C,r.2.1≠r.2.2.1:=λr l=>g.ne r (sub r l);obtain⟨⟨n,s⟩,-⟩:=g.bs b (hB b (zh ..));have H:=Hd.hb g.nd g.l3 m;obtain⟨d,a1,a2⟩:=a7 m g.len o (e:=b.2.1) n;have u:=Cr g.nd g.l3 m o n s;obtain⟨i1,i2⟩:=X4 g C a λz j=>hB z (zi _ j);have t:lJ (lf R C) (hb N (lf R C)) () b:=⟨⟨H.has n,H.has s⟩,λ_=>d⟩;by_cases c:look (hb N (lf R C)) b.1=look (hb N (lf R C)) b.2.1
  ·have st:cP (lf R C) (hb N (lf R C)) () b=.rt (pQ (lf R C) b.1 b.2.1):=by
    unfold cP;rw[ZH c];rfl
   cases q:pQ (lf R C) b.1 b.2.1 with
   |none=>exact absurd (u.mp c) (a2 q)
   |some p=>
    rw[q]at st;refine⟨⟨t,by dsimp only;rw[st];trivial⟩,.inr ⟨p,by unfold xq;rw[st],(a1 p q).2,b,hB b (zh ..),(a1 p q).1⟩⟩
  ·have st:cP (lf R C) (hb N (lf R C)) () b=.nx ():=by
    unfold cP;rw[ZN c];rfl
   refine⟨⟨t,by dsimp only;rw[st];exact i1⟩,?_⟩;rcases i2 with⟨e1,e2⟩|⟨p,e1,e2⟩
   ·refine .inl ⟨by unfold xq;rw[st];exact e1,λz j=>?_⟩;rcases List.mem_cons.mp j with rfl|j
    ·exact λw=>c (u.mpr w)
    ·exact e2 z j
   ·exact .inr ⟨p,by unfold xq;rw[st];exact e1,e2⟩
theorem M'(g:Gb N R B)(C:Y c7):kW (N,R,B) C/\((eZ (N,R,B) C=Y3/\Fe R B C)\/∃p,eZ (N,R,B) C=O p/\p.Nodup/\∃b∈B,Tr (lf R C) b.1 p b.2.1):=by
 have sub:∀r∈lf R C,r∈R:=λr a=>(lW.mp a).1;have e:Rs N (lf R C):=λr a=>g.rs r (sub r a);obtain⟨c,e1,-⟩:=J9 g.nd g.l3 e;have c:jz N (lf R C):=c;have e1:dU N (lf R C)=hb N (lf R C):=e1;obtain⟨i1,i2⟩:=X4 g C B λb h=>h;have f:=g.rl;unfold kW eZ;dsimp only;rw[kq];have d:(R.filter λvx:aC=>!mY vx C)=lf R C:=rfl;rw[d,e1];refine⟨⟨by omega,c,i1,?_⟩,?_⟩
 ·unfold Bl;split<;>trivial
 ·rcases i2 with⟨q1,q2⟩|⟨p,q1,q2⟩
  ·rw[q1];exact .inl ⟨rfl,q2⟩
  ·rw[q1];exact .inr ⟨p,rfl,q2⟩
theorem OQ(n:Nat)(g:dw)(b a:Y c7)(c:Int):aJ (n+1) g b (O a) c=(if(decide (c<=wt a))=true then Y3 else(let h:=(eZ g a);(if h.isNone=true then O a else(let d:=(((h.getD []).filter λvx:aC=>(!mY vx b)).map λvx:aC=>vx);(if(!(!d.isEmpty))=true then Y3 else(let e:=(aJ n g b (O (a++(BN d Y3 (O 1)))) c);(let i:Int:=(if e.isSome=true then wt (e.getD default)else c);(let f:=(aJ n g (b++(BN d Y3 (O 1))) (O a) i);(if f.isNone=true then e else f))))))))):=rfl
theorem ME(n:Nat)(g:dw)(c a:Y c7)(e:Int):bW (n+1) g c (O a) e=(((O a).isSome=true/\(fX a))/\((decide (e<=wt a))=false->(((O a).isSome=true/\(kW g a))/\(let f:=(eZ g a);(f.isNone=false->((f.isSome=true/\(f.getD []).length<=100000)/\(let b:=(((f.getD []).filter λvx:aC=>(!mY vx c)).map λvx:aC=>vx);((!(!b.isEmpty))=false->((((O a).isSome=true/\zH (a.length+(BN b Y3 (O 1)).length))/\(bW n g c (O (a++(BN b Y3 (O 1)))) e))/\(let d:=(aJ n g c (O (a++(BN b Y3 (O 1)))) e);((d.isSome=true->(d.isSome=true/\(fX (d.getD default))))/\(let h:Int:=(if d.isSome=true then wt (d.getD default)else e);(zH (c.length+(BN b Y3 (O 1)).length)/\(bW n g (c++(BN b Y3 (O 1))) (O a) h)))))))))))))):=rfl
structure Cu (R:List c7) (B:List CA) (held cu C:List c7):Prop where
 nd:C.Nodup
 sub:∀r∈C,r∈R
 fe:Fe R B C
 co:∀r∈cu,r∈C
 av:∀r∈held,r∉C
theorem PD(x:α)(xs:Y α):P1.BN (x::xs) Y3 (O 1)=[x]:=by
 have:=Sn (xs:=x::xs) (k:=1) (by simp);exact this
theorem IN(g:Gb N R B):∀(n:Nat) (f i:Y c7) (m:Int),(f++i).Nodup->(∀r∈f++i,r∈R)->R.length<n+(f++i).length →
  bW n (N,R,B) f (O i) m ∧
  (aJ n (N,R,B) f (O i) m=Y3->∀C,Cu R B f i C->m<=wt C) ∧
  (∀C,aJ n (N,R,B) f (O i) m=O C->Cu R B [] [] C/\wt C<m/\∀l,Cu R B f i l->wt C<=wt l)
 |0,f,i,m,nd,sub,hl=>by
  have:=Uj nd sub;omega
 |n+1,f,i,m,nd,sub,hl=>by
  obtain⟨nh,t,dj⟩:=List.nodup_append.mp nd;have u:∀r∈i,r∈R:=λr d=>sub r (ZA _ d);have al:=Uj nd sub;have rl:=g.rl;rw[zw]at al hl;have v:∀{L:Y c7},L.Nodup->(∀r∈L,r∈R)->fX L:=λ{L} n1 A=>by
   have:=Uj n1 A;exact F6 (by omega) λr d=>g.va r (A r d)
  have pos:∀r∈R,1<=r.1:=λr d=>(g.va r d).1;obtain⟨E,bo⟩:=M' g i;rw[OQ,ME];by_cases H:m<=wt i
  ·rw[ZH H];refine⟨⟨⟨rfl,v t u⟩,λz=>(by cases z)⟩,λ_ C j=>?_,λC z=>(by cases z)⟩;exact Int.le_trans H (QG t j.co λr d=>pos r (j.sub r d))
  rw[ZN H,zI (by decide)];rcases bo with⟨b1,b2⟩|⟨p,b1,b2,b,hb,b3⟩
  ·rw[b1];refine⟨⟨⟨rfl,v t u⟩,λ_=>⟨⟨rfl,E⟩,λz=>(by cases z)⟩⟩,λz=>(by cases z),λC z=>?_⟩;cases z;exact⟨⟨t,u,b2,λr h=>(by cases h),λr h=>(by cases h)⟩,by omega,λl j=>QG t j.co λr d=>pos r (j.sub r d)⟩
  ·rw[b1];dsimp only;rw[show(O p).getD []=p from rfl,kq];have F:∀r∈p,r∈R/\r∉i:=λr d=>lW.mp (b3.mem r d);have b0:∀C,Cu R B f i C->∃r∈p,r∈C/\r∉f:=λC j=>by
    refine Classical.byContradiction λz=>j.fe b hb ⟨p,b3.mono λr d=>lW.mpr ⟨(F r d).1,λy=>z ⟨r,d,y,λw=>j.av r w y⟩⟩⟩
   have pl:=Uj b2 λr d=>(F r d).1;cases hv:p.filter λvx:aC=>!mY vx f with
   |nil=>
    have no:∀C,¬ Cu R B f i C:=λC j=>by
     obtain⟨r,h1,h2,h3⟩:=b0 C j;have:r∈p.filter λvx:aC=>!mY vx f:=List.mem_filter.mpr ⟨h1,by
      cases q:mY r f with
      |false=>rfl
      |true=>exact absurd (jP.mp q) h3⟩
     rw[hv]at this;cases this
    refine⟨⟨⟨rfl,v t u⟩,λ_=>⟨⟨rfl,E⟩,λ_=>⟨⟨rfl,by omega⟩,λz=>(by cases z)⟩⟩⟩,λ_ C j=>absurd j (no C),λC z=>(by cases z)⟩
   |cons c cs=>
    have G:=List.mem_filter.mp (show c∈p.filter λvx:aC=>!mY vx f by rw[hv];exact zh ..);have a2:c∉f:=λz=>by have:=G.2;rw[jP.mpr z]at this;cases this
    have a5:=(F c G.1).2;have a1:=(F c G.1).1;rw[PD];have X:(f++(i++[c])).Nodup:=by
     rw[<-qq];refine List.nodup_append.mpr ⟨nd,List.nodup_cons.mpr ⟨λz=>(by cases z),Qb⟩,λa x b' a4 e=>?_⟩;cases List.mem_singleton.mp a4;rcases List.mem_append.mp x with x|x
     ·exact a2 (e▸x)
     ·exact a5 (e▸x)
    have a3:((f++[c])++i).Nodup:=by
     have:((f++[c])++i).Perm (f++(i++[c])):=by
      rw[qq];exact List.Perm.append_left _ List.perm_append_comm
     exact this.nodup_iff.mpr X
    have A:∀r∈f++(i++[c]),r∈R:=λr d=>by
     rw[<-qq]at d;rcases List.mem_append.mp d with d|d
     ·exact sub r d
     ·cases List.mem_singleton.mp d;exact a1
    have s2:∀r∈(f++[c])++i,r∈R:=λr d=>A r (by
     rcases List.mem_append.mp d with d|d
     ·rcases List.mem_append.mp d with d|d
      ·exact Zp _ d
      ·exact ZA _ (ZA _ d)
     ·exact ZA _ (Zp _ d))
    obtain⟨x1,x2,x3⟩:=IN g n f (i++[c]) m X A (by rw[zw,zw];show _<_+(_+(_+1));omega);have split:∀l,Cu R B f i l->Cu R B f (i++[c]) l\/Cu R B (f++[c]) i l:=λl h=>by
     by_cases z:c∈l
     ·refine .inl ⟨h.nd,h.sub,h.fe,λr d=>?_,h.av⟩;rcases List.mem_append.mp d with d|d
      ·exact h.co r d
      ·cases List.mem_singleton.mp d;exact z
     ·refine .inr ⟨h.nd,h.sub,h.fe,h.co,λr d=>?_⟩;rcases List.mem_append.mp d with d|d
      ·exact h.av r d
      ·cases List.mem_singleton.mp d;exact z
    have W:=λlm=>IN g n (f++[c]) i lm a3 s2 (by rw[zw,zw];show _<_+((_+1)+_);omega);have U:zH (i.length+[c].length):=iu (by show _+1<=1000;omega);have P:zH (f.length+[c].length):=iu (by show _+1<=1000;omega);cases hx:aJ n (N,R,B) f (O (i++[c])) m with
    |none=>
     obtain⟨y1,y2,M⟩:=W m;have a0:=x2 hx;refine⟨⟨⟨rfl,v t u⟩,λ_=>⟨⟨rfl,E⟩,λ_=>⟨⟨rfl,by show p.length<=_;omega⟩,λ_=>⟨⟨⟨rfl,U⟩,x1⟩,λz=>(by cases z),P,y1⟩⟩⟩⟩,?_,?_⟩
     ·intro z C j;have z:(if(aJ n (N,R,B) (f++[c]) (O i) m).isNone=true then Y3 else aJ n (N,R,B) (f++[c]) (O i) m)=Y3:=z;cases o:aJ n (N,R,B) (f++[c]) (O i) m with
      |none=>exact(split C j).elim (a0 C) (y2 o C)
      |some D=>rw[o]at z;cases z
     ·intro C z;have z:(if(aJ n (N,R,B) (f++[c]) (O i) m).isNone=true then Y3 else aJ n (N,R,B) (f++[c]) (O i) m)=O C:=z;cases o:aJ n (N,R,B) (f++[c]) (O i) m with
      |none=>rw[o]at z;cases z
      |some D=>
       rw[o]at z;cases z;obtain⟨I,Q,K⟩:=M _ o;exact⟨I,Q,λl j=>(split l j).elim (λq=>by have:=a0 l q;omega) (K l)⟩
    |some s=>
     obtain⟨y1,y2,M⟩:=W (wt s);obtain⟨J,v2,Z⟩:=x3 _ hx;refine⟨⟨⟨rfl,v t u⟩,λ_=>⟨⟨rfl,E⟩,λ_=>⟨⟨rfl,by show p.length<=_;omega⟩,λ_=>⟨⟨⟨rfl,U⟩,x1⟩,λ_=>⟨rfl,v J.nd J.sub⟩,P,y1⟩⟩⟩⟩,?_,?_⟩
     ·intro z C j;have z:(if(aJ n (N,R,B) (f++[c]) (O i) (wt s)).isNone=true then O s else aJ n (N,R,B) (f++[c]) (O i) (wt s))=Y3:=z;cases o:aJ n (N,R,B) (f++[c]) (O i) (wt s)with
      |none=>rw[o]at z;cases z
      |some D=>rw[o]at z;cases z
     ·intro C z;have z:(if(aJ n (N,R,B) (f++[c]) (O i) (wt s)).isNone=true then O s else aJ n (N,R,B) (f++[c]) (O i) (wt s))=O C:=z;cases o:aJ n (N,R,B) (f++[c]) (O i) (wt s)with
      |none=>
       rw[o]at z;cases z;exact⟨J,v2,λl j=>(split l j).elim (Z l) (y2 o l)⟩
      |some D=>
       rw[o]at z;cases z;obtain⟨I,Q,K⟩:=M _ o;exact⟨I,by omega,λl j=>(split l j).elim (λq=>by have:=Z l q;omega) (K l)⟩
theorem Gb.sub(g:Gb N R B){R':Y c7}(h:∀r∈R',r∈R):Rs N R'/\∀r∈R',r.2.1≠r.2.2.1:=⟨λr a=>g.rs r (h r a),λr a=>g.ne r (h r a)⟩
theorem zU{C:Y c7}:∀r∈lf R C,r∈R:=λr a=>(lW.mp a).1
def ct(g:dw):Y c7:=(aJ fuel g [] (O []) (jd g.2.1+1)).getD default
theorem ia(g:Gb N R B):Cu R B [] [] R:=by
 refine⟨g.rd,λr h=>h,λb hb ⟨p,t⟩=>?_,λr h=>(by cases h),λr h=>(by cases h)⟩;cases p with
 |nil=>exact(g.bs b hb).2 t
 |cons r p=>exact(lW.mp t.1).2 (lW.mp t.1).1
theorem X5(g:Gb N R B)(o:B=[]\/R.length<=12):pU (N,R,B)/\Cu R B [] [] (ct (N,R,B))/\(∀a,Cu R B [] [] a->wt (ct (N,R,B))<=wt a)/\dN (N,R,B)=st N (hb N (lf R (ct (N,R,B)))):=by
 have pos:∀r∈R,1<=r.1:=λr c=>(g.va r c).1;have x:=g.rl;have m:bW fuel (N,R,B) [] (O []) (wt R+1)/\∃C,aJ fuel (N,R,B) [] (O []) (wt R+1)=O C/\Cu R B [] [] C/\∀a,Cu R B [] [] a->wt C<=wt a:=by
  rcases o with e|c
  ·obtain⟨l,w⟩:=M' g [];have v:¬ wt R+1<=wt []:=by have:=zT pos;rw[Kc];omega
   have b1:eZ (N,R,B) []=Y3/\Fe R B []:=by
    rcases w with b|⟨p,_,_,b,hb,_⟩
    ·exact b
    ·rw[e]at hb;cases hb
   show bW (31+1) (N,R,B) [] (O []) (wt R+1)/\∃C,aJ (31+1) (N,R,B) [] (O []) (wt R+1)=O C/\_;rw[OQ,ME,ZN v,b1.1];refine⟨⟨⟨rfl,F6 (by decide) λr h=>(by cases h)⟩,λ_=>⟨⟨rfl,l⟩,λz=>(by cases z)⟩⟩,[],rfl,⟨Qb,λr h=>(by cases h),b1.2,λr h=>(by cases h),λr h=>(by cases h)⟩,λa j=>?_⟩;rw[Kc];exact zT λr c=>pos r (j.sub r c)
  ·obtain⟨x1,u,t⟩:=IN g fuel [] [] (wt R+1) Qb (λr h=>(by cases h)) (by show R.length<32+0;omega);refine⟨x1,?_⟩;cases h:aJ fuel (N,R,B) [] (O []) (wt R+1)with
   |none=>have:=u h R (ia g);omega
   |some C=>
    obtain⟨y1,y2,n⟩:=t C h;exact⟨C,rfl,y1,n⟩
 obtain⟨d,C,e,c1,c2⟩:=m;have s:ct (N,R,B)=C:=by
  show(aJ fuel (N,R,B) [] (O []) (wt R+1)).getD default=C;rw[e];rfl
 rw[s];have q:=(g.sub (R':=lf R C) zU).1;obtain⟨f,e1,h1⟩:=J9 g.nd g.l3 q;have f:jz N (lf R C):=f;have e1:dU N (lf R C)=hb N (lf R C):=e1;have i:=G8 h1;unfold pU dN;dsimp only;rw[kq,show jd R=wt R from rfl,e];refine⟨⟨⟨F6 (by omega) g.va,d⟩,⟨by omega,λ_ _=>Y2⟩,?_⟩,c1,c2,?_⟩
 ·show nQ N (lf R C);refine⟨f,?_⟩;rw[e1];exact i.1
 ·show eY (dU N (lf R C))=_;rw[e1];exact i.2
theorem iV:y∈pt N m x↔y∈N/\look m y=look m x:=by
 unfold pt;rw[kN,Zl]
theorem ID(h:look m x=look m y):pt N m x=pt N m y:=by
 unfold pt;rw[h]
theorem jG(h:Hd N m){p:AZ}:p∈st N m↔∃x∈N,p=pt N m x:=by
 unfold st;rw[KF];constructor
 ·rintro⟨w,a,rfl⟩;exact⟨w,(List.mem_filter.mp a).1,rfl⟩
 ·rintro⟨x,hx,rfl⟩;exact⟨look m x,List.mem_filter.mpr ⟨h.mem x hx,ZH (h.idem x hx)⟩,ID (h.idem x hx)⟩
theorem qZ(h:Hd N m):(st N m).flatten.Perm N:=by
 refine QF ?_ h.nd λx=>?_
 ·unfold List.Nodup;rw[List.pairwise_flatten];refine⟨λl c=>?_,?_⟩
  ·obtain⟨x,hx,rfl⟩:=(jG h).mp c;exact h.nd.filter _
  ·unfold st;rw[yz];refine kz (λ{a b} ha hb z x hx y d e=>z ?_) (h.nd.filter _);have a1:=qi (List.mem_filter.mp ha).2;have b1:=qi (List.mem_filter.mp hb).2;subst e;rw[<-a1,<-b1,<-(iV.mp hx).2,<-(iV.mp d).2]
 ·rw[List.mem_flatten];constructor
  ·rintro⟨l,c,hx⟩;obtain⟨y,d,rfl⟩:=(jG h).mp c;exact(iV.mp hx).1
  ·intro hx;exact⟨pt N m x,(jG h).mpr ⟨x,hx,rfl⟩,iV.mpr ⟨hx,rfl⟩⟩
theorem Kd(h:Hd N m)(x y:AJ):P1.same (st N m) x y↔x∈N/\y∈N/\look m x=look m y:=by
 constructor
 ·rintro⟨s,hs,hx,a⟩;obtain⟨z,b,rfl⟩:=(jG h).mp hs;have h1:=iV.mp hx;have h2:=iV.mp a;exact⟨h1.1,h2.1,h1.2.trans h2.2.symm⟩
 ·rintro⟨hx,a,e⟩;exact⟨pt N m x,(jG h).mpr ⟨x,hx,rfl⟩,iV.mpr ⟨hx,rfl⟩,iV.mpr ⟨a,e.symm⟩⟩
theorem Ke(h:Hd N m){s:AZ}(hs:s∈st N m):s≠[]:=by
 obtain⟨x,hx,rfl⟩:=(jG h).mp hs;intro z;have:x∈pt N m x:=iV.mpr ⟨hx,rfl⟩;rw[z]at this;cases this
theorem Uk(d:N.Pairwise qy)(l:D4 N m){n:AJ}(f:n∈N)(e:look m n=n):∃t,pt N m n=n::t:=by
 have a:n∈pt N m n:=iV.mpr ⟨f,rfl⟩;have hs:(pt N m n).Pairwise qy:=d.filter _;cases b:pt N m n with
 |nil=>rw[b]at a;cases a
 |cons y t=>
  have c:=iV.mp (show y∈pt N m n by rw[b];exact zh ..);have h1:qy n y:=by have:=l y c.1;rw[c.2,e]at this;exact this
  rw[b]at a hs;rcases List.mem_cons.mp a with e2|e2
  ·exact⟨t,by rw[e2]⟩
  ·have:=Ig h1 ((List.pairwise_cons.mp hs).1 n e2);exact⟨t,by rw[this]⟩
theorem UA{a b:AJ}{xs:AZ}(h:qy a b)(c:a≠b):KN (a::xs) (b::ys)=true:=by
 unfold KN S1.wV;show(!S1.pZ (Sum.inr b::kT ys) (Sum.inr a::kT xs))=true;unfold S1.pZ;rw[zI (λe=>c (Sum.inr.inj e).symm)];unfold S1.W7;unfold qy at h;rw[ltCps_eq]at h;simpa using h
theorem NV(c:N.Pairwise qy)(h:Hd N m)(l:D4 N m):Wd N (st N m):=by
 have f:=qZ h;refine⟨λs hs=>Ke h hs,λs hs=>?_,f.nodup_iff.mpr h.nd,λx hx=>f.mem_iff.mp hx,?_⟩
 ·obtain⟨x,hx,rfl⟩:=(jG h).mp hs;exact c.filter _
 ·unfold st;rw[yz];have g:(N.filter λname:AJ=>decide (look m name=name)).Pairwise λa b=>qy a b/\a≠b:=(c.filter _).and (h.nd.filter _);refine kz ?_ g;intro a b d hb e;rw[kN,Zl]at d hb;obtain⟨t1,e1⟩:=Uk c l d.1 d.2;obtain⟨t2,e2⟩:=Uk c l hb.1 hb.2;rw[e1,e2];exact UA e.1 e.2
theorem C9{α:Type}(f g:α->Int):∀ps:Y α,(ps.map λp=>f p+g p).sum=(ps.map f).sum+(ps.map g).sum
 |[]=>rfl
 |p::ps=>by
  have:=C9 f g ps;rw[zo,zo,zo,Jn,Jn,Jn];omega
theorem L9{α:Type}{f g:α->Int}:∀{ps:Y α},(∀p∈ps,f p<=g p)->(ps.map f).sum<=(ps.map g).sum
 |[],_=>Kt _
 |p::ps,h=>by
  have:=L9 (f:=f) (g:=g) (ps:=ps) λq a=>h q (zi _ a);have:=h p (zh ..);rw[zo,zo,Jn,Jn];omega
theorem LH{w:Int}{x:AJ}:∀{ps:Y AZ},x∉ps.flatten->(ps.map λp=>if x∈p then w else 0).sum=0
 |[],_=>rfl
 |p::ps,h=>by
  rw[JS,Q1]at h;rw[zo,Jn,zI λz=>h (.inl z),LH λz=>h (.inr z)];rfl
theorem NU{w:Int}{x:AJ}:∀{ps:Y AZ},ps.flatten.Nodup->x∈ps.flatten->(ps.map λp=>if x∈p then w else 0).sum=w
 |[],_,h=>by cases h
 |p::ps,nd,h=>by
  rw[JS]at nd h;obtain⟨c,a,b⟩:=List.nodup_append.mp nd;rw[zo,Jn];by_cases hx:x∈p
  ·rw[zr hx,LH λz=>b x hx x z rfl];omega
  ·rw[zI hx,NU a ((List.mem_append.mp h).resolve_left hx)];omega
theorem Dz{ps:Y AZ}(nd:ps.flatten.Nodup):∀L:Y c7,(∀r∈L,r.2.1∈ps.flatten)->wt L=(ps.map λp=>wt (L.filter λr=>decide (r.2.1∈p))).sum
 |[],_=>by
  have:∀a:Y AZ,(a.map λp=>wt (([]:Y c7).filter λr=>decide (r.2.1∈p))).sum=0:=λa=>by
   induction a with
   |nil=>rfl
   |cons p ps b=>
    rw[zo,Jn,b];rfl
  rw[this];rfl
 |r::L,h=>by
  have b:=Dz nd L λz c=>h z (zi _ c);have e:(ps.map λp=>wt ((r::L).filter λr=>decide (r.2.1∈p)))=ps.map λp=>(if r.2.1∈p then r.1 else 0)+wt (L.filter λr=>decide (r.2.1∈p)):=QP λp _=>by
   by_cases hp:r.2.1∈p
   ·rw[JY (by simpa using hp),fL,zr hp]
   ·rw[ka (by simpa using hp),zI hp];omega
  rw[e,C9,NU nd (h r (zh ..)),fL,b]
def Sd(S:AZ)(rs:Y c7):Prop:=∀r∈rs,(r.2.1∈S/\r.2.2.1∈S)\/(r.2.1∉S/\r.2.2.1∉S)
theorem QH{S:AZ}{F:Y c7}(sd:Sd S F):∀{p:Y c7} {x y:AJ},Tr F x p y->x∈S->Tr (F.filter λr=>decide (r.2.1∈S)) x p y/\y∈S
 |[],x,y,h,hx=>⟨h,by cases h;exact hx⟩
 |r::p,x,y,⟨m,t,e,h⟩,hx=>by
  rcases sd r m with⟨a,b⟩|⟨a,b⟩
  ·have c:t∈S:=by
    rcases qY e with⟨h1,h2⟩|⟨h1,h2⟩
    ·rw[<-h2];exact b
    ·rw[<-h2];exact a
   obtain⟨i1,i2⟩:=QH sd h c;exact⟨⟨List.mem_filter.mpr ⟨m,ZH a⟩,t,e,i1⟩,i2⟩
  ·exfalso;rcases qY e with⟨h1,h2⟩|⟨h1,h2⟩
   ·exact a (h1▸hx)
   ·exact b (h1▸hx)
def ow(R:Y c7)(B:Y CA)(p:AZ):dw:=(p,R.filter (λr=>decide (r.2.1∈p)),B.filter λb=>decide (b.1∈p)&&decide (b.2.1∈p))
theorem Zy{p:AZ}{r:c7}:r∈(ow R B p).2.1↔r∈R/\r.2.1∈p:=by
 show r∈R.filter _↔_;rw[kN,Zl]
theorem IA{p:AZ}{b:CA}:b∈(ow R B p).2.2↔b∈B/\b.1∈p/\b.2.1∈p:=by
 show b∈B.filter _↔_;rw[kN,ZT,Zl,Zl]
def Rm(N:AZ)(R:Y c7)(B:Y CA):Prop:=∀p∈st N (hb N R),(ow R B p).2.2=[]\/(p.length<=8/\(ow R B p).2.1.length<=12)
theorem Gb.hd(g:Gb N R B):Hd N (hb N R):=Hd.hb g.nd g.l3 g.rs
theorem Gb.sd(g:Gb N R B){p:AZ}(hp:p∈st N (hb N R)):Sd p R:=λr a=>by
 obtain⟨x,hx,rfl⟩:=(jG g.hd).mp hp;have j:=Uh g.nd g.l3 g.rs a;obtain⟨b,c⟩:=g.rs r a;by_cases h:look (hb N R) r.2.1=look (hb N R) x
 ·exact .inl ⟨iV.mpr ⟨b,h⟩,iV.mpr ⟨c,j▸h⟩⟩
 ·exact .inr ⟨λz=>h (iV.mp z).2,λz=>h (j.trans (iV.mp z).2)⟩
theorem Gb.own(g:Gb N R B){p:AZ}(hp:p∈st N (hb N R)):Gb p (ow R B p).2.1 (ow R B p).2.2:=by
 obtain⟨x,hx,e⟩:=(jG g.hd).mp hp;have fl:=jv (λy=>decide (look (hb N R) y=look (hb N R) x)) N;have c:=jv (λr:c7=>decide (r.2.1∈p)) R;have bl:=jv (λb:CA=>decide (b.1∈p)&&decide (b.2.1∈p)) B;have f:=g.len;have d:=g.rl;have l3:=g.bl;refine⟨by rw[e];exact g.nd.filter _,?_,λr a=>?_,λr a=>g.ne r (Zy.mp a).1,g.rd.filter _,?_,λr a=>g.va r (Zy.mp a).1,λb hb=>?_,?_⟩
 ·rw[e];exact Kn fl f
 ·obtain⟨h1,h2⟩:=Zy.mp a;rcases g.sd hp r h1 with z|z
  ·exact z
  ·exact absurd h2 z.1
 ·exact Kn c d
 ·obtain⟨h1,h2⟩:=IA.mp hb;exact⟨h2,(g.bs b h1).2⟩
 ·exact Kn bl l3
def kp(N:AZ)(R:Y c7)(B:Y CA):Y c7:=R.filter λr=>!mY r (ct (ow R B (pt N (hb N R) r.2.1)))
theorem DG:∀r∈kp N R B,r∈R:=λr a=>(List.mem_filter.mp a).1
theorem Y'(g:Gb N R B){p:AZ}(hp:p∈st N (hb N R)):(kp N R B).filter (λr=>decide (r.2.1∈p))=lf (ow R B p).2.1 (ct (ow R B p)):=by
 obtain⟨x,hx,e⟩:=(jG g.hd).mp hp;unfold kp lf;show _=(R.filter λr:c7=>decide (r.2.1∈p)).filter _;rw[List.filter_filter,List.filter_filter];refine kr λr a=>?_;by_cases h:r.2.1∈p
 ·have:pt N (hb N R) r.2.1=p:=by
   rw[e]at h ⊢;exact ID (iV.mp h).2
  rw[this];exact Bool.and_comm _ _
 ·rw[ZN h,KG,yk]
theorem Kf(g:Gb N R B){p:AZ}(hp:p∈st N (hb N R))(hx:x∈p):DN (kp N R B) x y↔y∈p/\DN (lf (ow R B p).2.1 (ct (ow R B p))) x y:=by
 rw[<-Y' g hp];constructor
 ·rintro⟨q,t⟩;obtain⟨h1,h2⟩:=QH (λr a=>g.sd hp r (DG r a)) t hx;exact⟨h2,q,h1⟩
 ·rintro⟨_,c⟩;exact c.more λr a=>(List.mem_filter.mp a).1
theorem Gb.af4(g:Gb N R B)(hx:x∈N):pt N (hb N R) x∈st N (hb N R)/\x∈pt N (hb N R) x:=⟨(jG g.hd).mpr ⟨x,hx,rfl⟩,iV.mpr ⟨hx,rfl⟩⟩
theorem X6{p:AZ}(rm:Rm N R B)(hp:p∈st N (hb N R)):(ow R B p).2.2=[]\/(ow R B p).2.1.length<=12:=(rm p hp).imp id λz=>z.2
theorem Fd(g:Gb N R B)(rm:Rm N R B):∀b∈B,¬ DN (kp N R B) b.1 b.2.1:=λb hb c=>by
 obtain⟨a,bb⟩:=(g.bs b hb).1;obtain⟨hp,hx⟩:=g.af4 a;obtain⟨h1,h2⟩:=(Kf g hp hx).mp c;obtain⟨-,c1,-⟩:=X5 (g.own hp) (X6 rm hp);exact c1.fe b (IA.mpr ⟨hb,hx,h1⟩) h2
theorem Zz{r:c7}:r∈lf R (kp N R B)↔r∈R/\r∈ct (ow R B (pt N (hb N R) r.2.1)):=by
 rw[lW];refine⟨λ⟨h1,h2⟩=>⟨h1,?_⟩,λ⟨h1,h2⟩=>⟨h1,λz=>?_⟩⟩
 ·refine Classical.byContradiction λz=>h2 (List.mem_filter.mpr ⟨h1,?_⟩);cases q:mY r (ct (ow R B (pt N (hb N R) r.2.1)))with
  |false=>rfl
  |true=>exact absurd (jP.mp q) z
 ·have:=(List.mem_filter.mp z).2;rw[jP.mpr h2]at this;cases this
theorem LZ(g:Gb N R B)(rm:Rm N R B){C:Y c7}(d:Cu R B [] [] C):wt (lf R (kp N R B))<=wt C:=by
 have i:=qZ g.hd;have nd:(st N (hb N R)).flatten.Nodup:=i.nodup_iff.mpr g.nd;have l:∀r∈R,r.2.1∈(st N (hb N R)).flatten:=λr a=>i.mem_iff.mpr (g.rs r a).1;rw[Dz nd (lf R (kp N R B)) λr a=>l r (zU r a),Dz nd C λr a=>l r (d.sub r a)];refine L9 λp hp=>?_;obtain⟨-,c1,c2,-⟩:=X5 (g.own hp) (X6 rm hp);have e:wt ((lf R (kp N R B)).filter λr=>decide (r.2.1∈p))=wt (ct (ow R B p)):=by
  refine Cv (QF ((g.rd.filter _).filter _) c1.nd λr=>?_);rw[kN,Zz,Zl];have j:r.2.1∈p->pt N (hb N R) r.2.1=p:=λh=>by
   obtain⟨x,hx,e⟩:=(jG g.hd).mp hp;rw[e]at h ⊢;exact ID (iV.mp h).2
  constructor
  ·rintro⟨⟨h1,h2⟩,f⟩;rw[j f]at h2;exact h2
  ·intro h;obtain⟨h1,h2⟩:=Zy.mp (c1.sub r h);refine⟨⟨h1,?_⟩,h2⟩;rw[j h2];exact h
 rw[e];refine c2 _ ⟨d.nd.filter _,λr a=>?_,λb hb c=>?_,λr h=>(by cases h),λr h=>(by cases h)⟩
 ·obtain⟨h1,h2⟩:=List.mem_filter.mp a;exact Zy.mpr ⟨d.sub r h1,qi h2⟩
 ·refine d.fe b (IA.mp hb).1 (c.more λr a=>?_);obtain⟨h1,h2⟩:=lW.mp a;obtain⟨f,m⟩:=Zy.mp h1;exact lW.mpr ⟨f,λz=>h2 (List.mem_filter.mpr ⟨z,ZH m⟩)⟩
theorem Kg(g:Gb N R B):Rs N (kp N R B)/\∀r∈kp N R B,r.2.1≠r.2.2.1:=g.sub DG
theorem pX(g:Gb N R B)(hx:x∈N)(a:y∈N):look (hb N (kp N R B)) x=look (hb N (kp N R B)) y↔DN (kp N R B) x y:=Cr g.nd g.l3 (Kg g).1 (Kg g).2 hx a
theorem X7(g:Gb N R B):Hd N (hb N (kp N R B)):=Hd.hb g.nd g.l3 (Kg g).1
theorem OA(K:Y c7)(a:K=R.filter λr=>mY r K):wt K+wt (lf R K)=wt R:=by
 have:=Cw (λr=>mY r K) R;rw[<-a]at this;exact this
theorem yF(g:Gb N R B):kp N R B=R.filter λr=>mY r (kp N R B):=by
 conv=>lhs;unfold kp
 refine kr λr a=>?_;cases q:mY r (kp N R B)with
 |true=>exact(List.mem_filter.mp (jP.mp q)).2
 |false=>
  cases z:(!mY r (ct (ow R B (pt N (hb N R) r.2.1))))with
  |false=>rfl
  |true=>
   have:r∈kp N R B:=List.mem_filter.mpr ⟨a,z⟩;rw[jP.mpr this]at q;cases q
theorem Iy(g:Gb N R B)(rm:Rm N R B){r:c7}(d:r∈R):r∈kp N R B↔DN (kp N R B) r.2.1 r.2.2.1:=by
 refine⟨λh=>⟨[r],h,_,Ka r,rfl⟩,λc=>Classical.byContradiction λA=>?_⟩;have fe:=Fd g rm;have F:Cu R B [] [] (R.filter λz=>!decide (look (hb N (kp N R B)) z.2.1=look (hb N (kp N R B)) z.2.2.1)):=by
  refine⟨g.rd.filter _,λz a=>(List.mem_filter.mp a).1,λb hbB ⟨p,t⟩=>?_,λr h=>(by cases h),λr h=>(by cases h)⟩;obtain⟨j,bb⟩:=(g.bs b hbB).1;refine fe b hbB ((pX g j bb).mp ?_);have u:∀{p:Y c7} {x y:AJ},Tr (lf R (R.filter λz=>!decide (look (hb N (kp N R B)) z.2.1=look (hb N (kp N R B)) z.2.2.1))) x p y->look (hb N (kp N R B)) x=look (hb N (kp N R B)) y:=by
   intro p
   induction p with
   |nil=>intro x y t;cases t;rfl
   |cons z p E=>
    intro x y t;obtain⟨m,t1,o,t2⟩:=t;obtain⟨n,C⟩:=lW.mp m;have e:look (hb N (kp N R B)) z.2.1=look (hb N (kp N R B)) z.2.2.1:=Classical.byContradiction λq=>C (List.mem_filter.mpr ⟨n,by rw[ZN q];rfl⟩);rw[<-E t2];rcases qY o with⟨h1,h2⟩|⟨h1,h2⟩
    ·rw[<-h1,<-h2];exact e
    ·rw[<-h1,<-h2];exact e.symm
  exact u t
 have h1:=LZ g rm F;have pos:∀z∈lf R (kp N R B),1<=z.1:=λz a=>(g.va z (zU z a)).1;have f:r∈lf R (kp N R B):=lW.mpr ⟨d,A⟩;obtain⟨w,D⟩:=g.rs r d;have h2:wt (R.filter λz=>!decide (look (hb N (kp N R B)) z.2.1=look (hb N (kp N R B)) z.2.2.1))<=wt ((lf R (kp N R B)).erase r):=by
  refine QG (g.rd.filter _) (λz a=>?_) λz a=>pos z (List.mem_of_mem_erase a);obtain⟨z1,z2⟩:=List.mem_filter.mp a;have s:z≠r:=λe=>by
   subst e;rw[ZH ((pX g w D).mpr c)]at z2;cases z2
  refine(k7 s).mpr (lW.mpr ⟨z1,λi=>?_⟩);obtain⟨v,l⟩:=g.rs z z1;rw[ZH ((pX g v l).mpr ⟨[z],i,_,Ka z,rfl⟩)]at z2;cases z2
 have G:=Cv (K0 f);rw[fL]at G;have:=pos r f;omega
def wf[DecidableEq α](f:AJ->α)(R:Y c7):Int:=wt (R.filter λr=>decide (f r.2.1=f r.2.2.1))
theorem DK(g:Gb N R B)(rm:Rm N R B)[DecidableEq α](f:AJ->α)(n:∀b∈B,f b.1≠f b.2.1):wf f R<=wt (kp N R B):=by
 have l:Cu R B [] [] (R.filter λz=>!decide (f z.2.1=f z.2.2.1)):=by
  refine⟨g.rd.filter _,λz c=>(List.mem_filter.mp c).1,λb hb ⟨p,t⟩=>n b hb ?_,λr h=>(by cases h),λr h=>(by cases h)⟩;have d:∀{p:Y c7} {x y:AJ},Tr (lf R (R.filter λz=>!decide (f z.2.1=f z.2.2.1))) x p y->f x=f y:=by
   intro p
   induction p with
   |nil=>intro x y t;cases t;rfl
   |cons z p j=>
    intro x y t;obtain⟨m,t1,o,t2⟩:=t;obtain⟨a,i⟩:=lW.mp m;have e:f z.2.1=f z.2.2.1:=Classical.byContradiction λq=>i (List.mem_filter.mpr ⟨a,by rw[ZN q];rfl⟩);rw[<-j t2];rcases qY o with⟨h1,h2⟩|⟨h1,h2⟩
    ·rw[<-h1,<-h2];exact e
    ·rw[<-h1,<-h2];exact e.symm
  exact d t
 have h1:=LZ g rm l;have h2:=OA (kp N R B) (yF g);have s:=Cw (λz=>decide (f z.2.1=f z.2.2.1)) R;unfold wf;omega
theorem Ul(g:Gb N R B)(rm:Rm N R B):wf (look (hb N (kp N R B))) R=wt (kp N R B):=by
 unfold wf;have:(R.filter λr=>decide (look (hb N (kp N R B)) r.2.1=look (hb N (kp N R B)) r.2.2.1))=kp N R B:=by
  conv=>rhs;rw[yF g]
  refine kr λr a=>?_;obtain⟨c,b⟩:=g.rs r a;rw[Q2,Zl,pX g c b,jP,Iy g rm a]
 rw[this]
theorem LN{β:Type}:∀(a m:Y (AJ×β)),((m++a).map (·.1)).Nodup->a.foldl (λm q=>put m q.1 q.2) m=m++a
 |[],m,_=>by simp
 |q::a,m,nd=>by
  have b:¬ has m q.1=true:=λe=>by
   rw[qc,zo,JP]at nd;exact nd.2.2 _ (lM.mp e) _ (zh ..) rfl
  have e:put m q.1 q.2=m++[q]:=by unfold put;rw[zI b]
  rw[qS,e,LN a (m++[q]) (by rw[qq];exact nd),qq];rfl
theorem gS{xs:Y α}{q:Int×α}:q∈xJ xs↔∃k:Nat,q.1=(k:Int)/\xs[k]?=O q.2:=by
 unfold xJ;rw[List.mem_iff_getElem?];constructor
 ·rintro⟨k,h⟩;rw[KP]at h;by_cases c:k<xs.length
  ·rw[kB c,z5 c]at h;simp only[Option.some.injEq]at h;subst h;exact⟨k,rfl,z5 c⟩
  ·rw[qr (l:=xs) (by omega)]at h;cases d:(List.range xs.length)[k]?<;>rw[d]at h<;>simp at h
 ·rintro⟨k,e,h⟩;obtain⟨c,e2⟩:=List.getElem?_eq_some_iff.mp h;refine⟨k,?_⟩;rw[KP,kB c,h];obtain⟨a,b⟩:=q;simp only at e;rw[e]
theorem iA(xs:Y α):(xJ xs).map (·.2)=xs:=by
 unfold xJ;refine List.ext_getElem? λk=>?_;rw[ZE,KP];by_cases a:k<xs.length
 ·rw[kB a,z5 a];rfl
 ·rw[qr (l:=xs) (by omega)];cases(List.range xs.length)[k]?<;>rfl
structure Pt (n_:AZ) (sets:List AZ):Prop where
 ne:∀s∈sets,s≠[]
 so:∀s∈sets,s.Pairwise qy
 pm:sets.flatten.Perm n_
def HP(sets:Y AZ):Y (AJ×Int):=(xJ sets).flatMap λq1:(Int×AZ)=>(q1.2.map λa:AJ=>(a,q1.1))
theorem G9(sets:Y AZ):(HP sets).map (·.1)=sets.flatten:=by
 have:∀es:Y (Int×AZ),(es.flatMap λq1:(Int×AZ)=>(q1.2.map λb:AJ=>(b,q1.1))).map (·.1)=(es.map (·.2)).flatten:=λes=>by
  induction es with
  |nil=>rfl
  |cons q es a=>
   rw[JU,qc,a,zo,JS,QO];congr 1;exact kq _
 unfold HP;rw[this,iA]
section
variable{sets:Y AZ}(pZ:Pt n_ sets)(nd:n_.Nodup)
include pZ nd
theorem Pt.fn:sets.flatten.Nodup:=pZ.pm.nodup_iff.mpr nd
theorem Um:gB sets=HP sets:=by
 have:=LN (HP sets) [] (by rw[kM,G9];exact pZ.fn nd);rw[kM]at this;exact this
theorem Uo{k:Nat}{s:AZ}(a:sets[k]?=O s)(hx:x∈s):look (gB sets) x=(k:Int):=by
 rw[Um pZ nd];have:(x,(k:Int))∈HP sets:=List.mem_flatMap.mpr ⟨((k:Int),s),gS.mpr ⟨k,rfl,a⟩,List.mem_map.mpr ⟨x,hx,rfl⟩⟩;exact Cp (by rw[G9];exact pZ.fn nd) this
theorem NP(hx:x∈n_)(n:y∈n_):look (gB sets) x=look (gB sets) y↔P1.same sets x y:=by
 obtain⟨s,hs,xs⟩:=List.mem_flatten.mp (pZ.pm.mem_iff.mpr hx);obtain⟨t,g,b⟩:=List.mem_flatten.mp (pZ.pm.mem_iff.mpr n);obtain⟨i,hi⟩:=List.mem_iff_getElem?.mp hs;obtain⟨j,a⟩:=List.mem_iff_getElem?.mp g;rw[Uo pZ nd hi xs,Uo pZ nd a b];constructor
 ·intro e;have:i=j:=by omega
  subst this;rw[hi]at a;cases a;exact⟨s,hs,xs,b⟩
 ·rintro⟨u,l,o,q⟩;have e1:=G5 (pZ.fn nd) hs l xs o;have e2:=G5 (pZ.fn nd) g l b q;subst e1 e2;have m:=Bm (pZ.fn nd) pZ.ne;have:i=j:=by
   obtain⟨d,f⟩:=List.getElem?_eq_some_iff.mp hi;obtain⟨c,h⟩:=List.getElem?_eq_some_iff.mp a;have pw:=List.pairwise_iff_getElem.mp m;rcases Nat.lt_trichotomy i j with z|z|z
   ·exact absurd (f.trans h.symm) (pw i j d c z)
   ·exact z
   ·exact absurd (h.trans f.symm) (pw j i c d z)
  rw[this]
theorem yG(hx:x∈n_):has (gB sets) x=true:=lM.mpr (by rw[Um pZ nd,G9];exact pZ.pm.mem_iff.mpr hx)
theorem X8(a:n_.length<64):rT sets:=by
 refine⟨λ_ _ _ _=>trivial,?_⟩;have:(HP sets).length=n_.length:=by rw[<-pZ.pm.length_eq,<-G9,zt]
 show(HP sets).length<1000;omega
end
theorem xW:∀{w:Y AZ},(∀s∈w,s≠[])->w.length<=w.flatten.length
 |[],_=>QU _
 |s::w,h=>by
  have:=xW λs hs=>h s (zi _ hs);have:=List.length_pos_iff.mpr (h s (zh ..));rw[JS,zw,Z3];omega
theorem NQ{α:Type}{step:Unit->α->Unit}{P:Unit->α->S Prop}:∀(xs:Y α),(∀x∈xs,hold (P () x))->nU step P xs ()
 |[],_=>trivial
 |x::xs,h=>⟨h x (zh ..),NQ xs λz a=>h z (zi _ a)⟩
theorem NT{α:Type}{g:Y α->Y (Y α)}:∀{l:Y (Y α)},(∀p∈l,(g p).flatten.Perm p)->(l.flatMap g).flatten.Perm l.flatten
 |[],_=>.refl _
 |p::l,h=>by
  rw[JU,List.flatten_append,JS];exact(h p (zh ..)).append (NT λq a=>h q (zi _ a))
theorem Gb.lst(g:Gb N R B){R':Y c7}(h:∀r∈R',r∈R):D4 N (hb N R'):=LS g.nd g.l3 R' _ (g.sub h).1 (IQ g.nd g.l3) (cz g.nd g.l3)
theorem eA(g:Gb N R B)(l:N.Pairwise qy):rJ ((st N (hb N R)).flatMap λp=>st p (hb p (lf (ow R B p).2.1 (ct (ow R B p)))))=st N (hb N (kp N R B))/\((st N (hb N R)).flatMap λp=>st p (hb p (lf (ow R B p).2.1 (ct (ow R B p))))).flatten.Perm N/\∀s∈((st N (hb N R)).flatMap λp=>st p (hb p (lf (ow R B p).2.1 (ct (ow R B p))))),s≠[]:=by
 have hd:∀p∈st N (hb N R),Hd p (hb p (lf (ow R B p).2.1 (ct (ow R B p)))):=λp hp=>Hd.hb (g.own hp).nd (g.own hp).l3 ((g.own hp).sub zU).1;have ps:∀p∈st N (hb N R),p.Pairwise qy:=λp hp=>by
  obtain⟨x,hx,rfl⟩:=(jG g.hd).mp hp;exact l.filter _
 have fp:((st N (hb N R)).flatMap λp=>st p (hb p (lf (ow R B p).2.1 (ct (ow R B p))))).flatten.Perm N:=(NT λp hp=>qZ (hd p hp)).trans (qZ g.hd);have j:∀s∈((st N (hb N R)).flatMap λp=>st p (hb p (lf (ow R B p).2.1 (ct (ow R B p))))),s≠[]:=λs hs=>by
  obtain⟨p,hp,hs⟩:=List.mem_flatMap.mp hs;exact Ke (hd p hp) hs
 refine⟨?_,fp,j⟩;have sp:=xG ((st N (hb N R)).flatMap λp=>st p (hb p (lf (ow R B p).2.1 (ct (ow R B p)))));have f:=sp.flatten.trans fp;have n:Wd N (rJ ((st N (hb N R)).flatMap λp=>st p (hb p (lf (ow R B p).2.1 (ct (ow R B p)))))):=by
  refine⟨λs hs=>j s (sp.mem_iff.mp hs),λs hs=>?_,f.nodup_iff.mpr g.nd,λx hx=>f.mem_iff.mp hx,xH _⟩;obtain⟨p,hp,hs⟩:=List.mem_flatMap.mp (sp.mem_iff.mp hs);obtain⟨x,hx,rfl⟩:=(jG (hd p hp)).mp hs;exact(ps p hp).filter _
 have h:=X7 g;refine PM n (NV l h (g.lst DG)) (λx=>by rw[f.mem_iff,(qZ h).mem_iff]) λx y=>?_;rw[Kd h];constructor
 ·rintro⟨s,hs,hx,i⟩;obtain⟨p,hp,hs⟩:=List.mem_flatMap.mp (sp.mem_iff.mp hs);obtain⟨a,b,e⟩:=(Kd (hd p hp) x y).mp ⟨s,hs,hx,i⟩;have o:=g.own hp;have q:=o.sub (R':=lf (ow R B p).2.1 (ct (ow R B p))) zU;have c:=(Cr o.nd o.l3 q.1 q.2 a b).mp e;have d:∀z∈p,z∈N:=λz m=>by
   obtain⟨w,t,rfl⟩:=(jG g.hd).mp hp;exact(iV.mp m).1
  exact⟨d x a,d y b,(pX g (d x a) (d y b)).mpr ((Kf g hp a).mpr ⟨b,c⟩)⟩
 ·rintro⟨hx,i,e⟩;obtain⟨hp,a⟩:=g.af4 hx;obtain⟨b,c⟩:=(Kf g hp a).mp ((pX g hx i).mp e);have o:=g.own hp;have q:=o.sub (R':=lf (ow R B (pt N (hb N R) x)).2.1 (ct (ow R B (pt N (hb N R) x)))) zU;obtain⟨s,hs,h1,h2⟩:=(Kd (hd _ hp) x y).mpr ⟨a,b,(Cr o.nd o.l3 q.1 q.2 a b).mpr c⟩;exact⟨s,sp.mem_iff.mpr (List.mem_flatMap.mpr ⟨_,hp,hs⟩),h1,h2⟩
theorem Mb(a:N.Pairwise qy)(h:Hd N m):Pt N (st N m):=⟨λs hs=>Ke h hs,λs hs=>by
 obtain⟨x,hx,rfl⟩:=(jG h).mp hs;exact a.filter _,qZ h⟩
theorem NZ(f:N.Pairwise qy)(nd:N.Nodup)(e:N.length<64)(h:Hd N m){L:Y c7}(b:Rs N L)(g:L.length<1000):iT (st N m) L/\cJ (st N m) L=L.filter λr=>decide (look m r.2.1=look m r.2.2.1):=by
 have p:=Mb f h;refine⟨⟨X8 p nd e,by omega,λr a=>⟨yG p nd (b r a).1,yG p nd (b r a).2⟩⟩,?_⟩;unfold cJ;rw[kq];refine kr λr a=>?_;obtain⟨c,d⟩:=b r a;rw[Q2,Zl,Zl,NP p nd c d,Kd h];exact⟨λz=>z.2.2,λz=>⟨c,d,z⟩⟩
theorem tD(g:Gb N R B)(i:N.Pairwise qy)(rm:Rm N R B):dO (N,R,B)/\bG (N,R,B)=(st N (hb N (kp N R B)),wt (kp N R B),wt R-wt (kp N R B)):=by
 obtain⟨x,e1,h1⟩:=J9 g.nd g.l3 g.rs;obtain⟨d2,e2⟩:=G8 h1;have f:gA (N,R,B)=st N (hb N R):=by
  show eY (jx N R)=_;rw[e1];exact e2
 have m:lU (N,R,B):=by
  refine⟨x,?_⟩;show jy (jx N R);rw[e1];exact d2
 have C:iR (N,R,B)=(st N (hb N R)).map (ow R B):=by
  unfold iR;dsimp only;rw[f];refine QP λp hp=>?_;rw[kq,kq];rfl
 have F:=g.rl;have bl:=g.bl;have J:=g.len;obtain⟨D,A,e⟩:=eA g i;have v:((st N (hb N R)).map (ow R B)).flatMap (λE:dw=>((dN E).map λd:AZ=>d))=(st N (hb N R)).flatMap λp=>st p (hb p (lf (ow R B p).2.1 (ct (ow R B p)))):=by
  rw[List.flatMap_map];have:∀ps:Y AZ,(∀p∈ps,p∈st N (hb N R))->ps.flatMap (λa=>List.map (λd:AZ=>d) (dN (ow R B a)))=ps.flatMap λp=>st p (hb p (lf (ow R B p).2.1 (ct (ow R B p)))):=λps=>by
   induction ps with
   |nil=>intro _;rfl
   |cons p ps o=>
    intro h;rw[JU,JU,o λq b=>h q (zi _ b),kq];have hp:=h p (zh ..);have:=(X5 (g.own hp) (X6 rm hp)).2.2.2;rw[show dN (ow R B p)=_ from this];rfl
  exact this _ λp hp=>hp
 have sl:(st N (hb N R)).length<=N.length:=by
  have:=xW (w:=st N (hb N R)) λs hs=>Ke g.hd hs;rw[(qZ g.hd).length_eq]at this;exact this
 have fl:((st N (hb N R)).flatMap λp=>st p (hb p (lf (ow R B p).2.1 (ct (ow R B p))))).length<=N.length:=by
  have:=xW e;rw[A.length_eq]at this;exact this
 obtain⟨n,j⟩:=NZ i g.nd g.len (X7 g) g.rs (by omega);have u:cJ (st N (hb N (kp N R B))) R=kp N R B:=by
  rw[j]
  conv=>rhs;rw[yF g]
  refine kr λr c=>?_;obtain⟨y,l⟩:=g.rs r c;rw[Q2,Zl,pX g y l,jP,Iy g rm c]
 have I:(kp N R B).length<=R.length:=jv _ _;unfold dO bG;dsimp only;rw[C,v,D,u];refine⟨⟨⟨⟨m,by rw[f];omega⟩,λp hp=>⟨by show R.length<=_;omega,by show B.length<=_;omega⟩⟩,NQ _ λq b=>?_,⟨⟨λq b=>⟨?_,λ_ _=>trivial⟩,by omega⟩,by omega,λs hs=>?_⟩,⟨n,F6 (by omega) λr c=>g.va r (DG r c)⟩,F6 (by omega) g.va⟩,rfl⟩
 ·obtain⟨p,hp,rfl⟩:=List.mem_map.mp b;show _->False;intro z;rw[ZT,K2,Zl,Zl]at z;rcases rm p hp with t|⟨H,G⟩
  ·have z1:=z.1;rw[t]at z1;cases z1
  ·have:(ow R B p).1=p:=rfl;rw[this]at z;omega
 ·obtain⟨p,hp,rfl⟩:=List.mem_map.mp b;exact(X5 (g.own hp) (X6 rm hp)).1
 ·have:=e s hs;cases s with
  |nil=>exact absurd Y2 this
  |cons _ _=>rfl
theorem uM(g:Gb N R B)(h1:N.length<=8)(h2:R.length<=12):Rm N R B:=λp hp=>by
 obtain⟨x,hx,rfl⟩:=(jG g.hd).mp hp;exact .inr ⟨ZI (jv _ _) h1,ZI (jv _ _) h2⟩
theorem Yc:Rm N R []:=λp hp=>.inl rfl
def CL(xs:Y Int)(a:AJ)(at_:Int)(k:Int):AJ:=if(decide (((at' xs 3)%3)=1))=true then(Txt.mul (ch LT (k / (8:Int))) (1+(k%8)))else(((Txt.slice a Y3 (O at_))++(ch LT ((k+(at' xs 2))%15)))++(Txt.slice a (O at_) Y3))
theorem zV{α β:Type}(g:β->α):∀(l:Y β) (f:Y α),l.foldl (λf k=>f++[g k]) f=f++l.map g
 |[],f=>by simp
 |k::l,f=>by rw[qS,zV g l];simp
theorem be(xs:Y Int)(a:Int):∃b at_,cM xs a=(rng 0 a.toNat).map (CL xs b at_):=by
 refine⟨_,_,(zV (CL xs _ _) _ []).trans (kM _)⟩
theorem Wq{a b m c:AJ}(h:(a++m)++b=(a++c)++b):m=c:=by
 have h:=congrArg (λs:AJ=>s.cps.toList) h;have h:((a.cps++m.cps)++b.cps).toList=((a.cps++c.cps)++b.cps).toList:=h;simp only[Array.toList_append]at h;have:=List.append_cancel_left (List.append_cancel_right h);cases m;cases c;congr 1;exact Array.ext' this
theorem UN:∀i:Fin 30,∀j:Fin 30,Txt.mul (ch LT ((i.val:Int) / 8)) (1+(i.val:Int)%8)=Txt.mul (ch LT ((j.val:Int) / 8)) (1+(j.val:Int)%8)->i=j:=by decide +kernel
theorem gX:∀i:Fin 15,∀j:Fin 15,ch LT (i.val:Int)=ch LT (j.val:Int)->i=j:=by decide +kernel
theorem b5{x y:Int}(hx:0<=x/\x<15)(a:0<=y/\y<15)(h:ch LT x=ch LT y):x=y:=by
 have:=gX ⟨x.toNat,by omega⟩ ⟨y.toNat,by omega⟩ (by
  show ch LT ((x.toNat:Nat):Int)=ch LT ((y.toNat:Nat):Int);rw[yb hx.1,yb a.1];exact h)
 have:=congrArg Fin.val this;have:x.toNat=y.toNat:=this;omega
theorem a9{xs:Y Int}{a:AJ}{at_:Int}(hi:i<15)(b:j<15)(h:CL xs a at_ i=CL xs a at_ j):i=j:=by
 unfold CL at h;by_cases e:(decide (((at' xs 3)%3)=1))=true
 ·rw[zr e,zr e]at h;exact congrArg Fin.val (UN ⟨i,by omega⟩ ⟨j,by omega⟩ h)
 ·rw[zI e,zI e]at h;have:=b5 (iz _ (by decide)) (iz _ (by decide)) (Wq h);omega
theorem MT{g:Int->AJ}(h:∀i j:Nat,i<n->j<n->g i=g j->i=j):((rng 0 n).map g).Nodup:=by
 unfold rng;rw[QO];unfold List.Nodup;rw[yz];refine kz ?_ (y8 (n:=n));intro a b c hb d e;refine d (h a b (List.mem_range.mp c) (List.mem_range.mp hb) ?_);have e:g (0+(a:Int))=g (0+(b:Int)):=e;rwa [Int.zero_add,Int.zero_add]at e
theorem ie(xs:Y Int)(a:Int)(h:a<=15):(cM xs a).Nodup:=by
 obtain⟨b,at_,e⟩:=be xs a;rw[e];exact MT λi j hi c=>a9 (by omega) (by omega)
def Lw(c:Nat):Prop:=97<=c/\c<=122
def Nm(s:AJ):Prop:=1<=s.length/\s.length<=8/\∀c∈cs s,Lw c
theorem WP(c:Nat)(n:Int)(h:1<=n):cs (Txt.mul ⟨#[c]⟩ n)=List.replicate n.toNat c:=by
 unfold Txt.mul;split
 ·omega
 split
 ·rename_i h;simp only[K2,beq_iff_eq]at h;rcases h with h|h
  ·subst h;rfl
  ·cases h
 ·have:∀(k:Nat) (a:Array Nat),((List.replicate k (#[c]:Array Nat)).foldl (·++·) a).toList=a.toList++List.replicate k c:=by
   intro k
   induction k with
   |zero=>intro a;simp
   |succ k b=>
    intro a;rw[Kb,qS,b,Array.toList_append,Kb];simp
  exact(this _ _).trans (by simp)
theorem HR{i:Int}(h:0<=i/\i<26):ch LT i=⟨#[97+i.toNat]⟩:=by
 have:∀i:Fin 26,ch LT (i.val:Int)=⟨#[97+i.val]⟩:=by decide +kernel
 have:=this ⟨i.toNat,by omega⟩;rwa [show((⟨i.toNat,by omega⟩:Fin 26).val:Int)=i by show(i.toNat:Int)=i;omega]at this
theorem YN{i n:Int}(h:0<=i/\i<26)(h1:1<=n)(b:n<=8):Nm (Txt.mul (ch LT i) n):=by
 have e:=WP (97+i.toNat) n h1;rw[<-HR h]at e;refine⟨?_,?_,λc a=>?_⟩
 ·rw[xM,e,List.length_replicate];omega
 ·rw[xM,e,List.length_replicate];omega
 ·rw[e]at a;rw[(List.mem_replicate.mp a).2];unfold Lw;omega
theorem cx{l:AZ}{c:Nat}(h:c∈cs (Txt.join "" l)):∃q∈l,c∈cs q:=by
 cases l with
 |nil=>cases h
 |cons p ps=>
  rw[TH]at h;rcases List.mem_append.mp h with h|h
  ·exact⟨p,zh ..,h⟩
  ·obtain⟨q,a,h⟩:=List.mem_flatMap.mp h;exact⟨q,zi _ a,h⟩
theorem N5(xs:Y Int)(e:Int):∃(b:AJ) (at_:Int),(∀c∈cs b,Lw c)/\b.length<=5/\0<=at_/\at_<=(b.length:Int)/\cM xs e=(rng 0 e.toNat).map (CL xs b at_):=by
 have g:=iz (at' xs 0) (m:=6) (by decide);have mem:∀x∈((rng 0 (at' xs 0%6).toNat).map λa:Int=>ch LT (at' xs a / 40%26)),x.length=1/\∀c∈cs x,Lw c:=λx hx=>by
  obtain⟨k,_,rfl⟩:=List.mem_map.mp hx;refine⟨zJ _ _,λc d=>?_⟩;rw[HR (iz _ (by decide))]at d;cases List.mem_singleton.mp d;have:=iz (at' xs k / 40) (m:=26) (by decide);unfold Lw;omega
 refine⟨Txt.join "" ((rng 0 (at' xs 0%6).toNat).map λa:Int=>ch LT (at' xs a / 40%26)),at' xs 1%(((Txt.join "" ((rng 0 (at' xs 0%6).toNat).map λa:Int=>ch LT (at' xs a / 40%26))).length:Int)+1),λc d=>?_,?_,?_,?_,(zV (CL xs _ _) _ []).trans (kM _)⟩
 ·obtain⟨q,f,h⟩:=cx d;exact(mem q f).2 c h
 ·have:=OT _ 1 λx hx=>Nat.le_of_eq (mem x hx).1;rw[zt,yw]at this;omega
 ·exact(iz _ (by omega)).1
 ·have:=(iz (at' xs 1) (m:=((Txt.join "" ((rng 0 (at' xs 0%6).toNat).map λa:Int=>ch LT (at' xs a / 40%26))).length:Int)+1) (by omega)).2;omega
theorem MX{xs:Y Int}{a:AJ}{at_:Int}(h1:∀c∈cs a,Lw c)(h2:a.length<=5)(h:0<=at_)(l:at_<=(a.length:Int)){k:Int}(j:0<=k/\k<15):Nm (CL xs a at_ k):=by
 unfold CL;split
 ·exact YN (by omega) (by omega) (by omega)
 ·have f:=Tc (x:=a) (n:=at_.toNat) (by omega);have g:=S9 (x:=a) (n:=at_.toNat) (by omega);rw[yb h]at f g;have c1:=HR (i:=(k+at' xs 2)%15) (by have:=iz (k+at' xs 2) (m:=15) (by decide);omega);have m:=iz (k+at' xs 2) (m:=15) (by decide);have e:cs ((Txt.slice a Y3 (O at_)++ch LT ((k+at' xs 2)%15))++Txt.slice a (O at_) Y3)=((cs a).take at_.toNat++[97+((k+at' xs 2)%15).toNat])++(cs a).drop at_.toNat:=by
   rw[Qd,Qd,f,g,c1]
  have d:((Txt.slice a Y3 (O at_)++ch LT ((k+at' xs 2)%15))++Txt.slice a (O at_) Y3).length=a.length+1:=by
   rw[xM,e,zw,zw,kf,kD,<-xM];show _+1+_=_;omega
  refine⟨by rw[d];omega,by rw[d];omega,λc b=>?_⟩;rw[e]at b;rcases List.mem_append.mp b with b|b
  ·rcases List.mem_append.mp b with b|b
   ·exact h1 c (List.mem_of_mem_take b)
   ·cases List.mem_singleton.mp b;unfold Lw;omega
  ·exact h1 c (List.mem_of_mem_drop b)
theorem WU(xs:Y Int)(a:Int)(h:a<=15):∀n∈cM xs a,Nm n:=by
 obtain⟨g,at_,h1,h2,f,c,e⟩:=N5 xs a;rw[e];intro n d;obtain⟨k,b,rfl⟩:=List.mem_map.mp d;obtain⟨j,i,rfl⟩:=G4 b;exact MX h1 h2 f c (by omega)
def z7:AJ:=("zzzzzzz":AJ)
theorem LO:∀(n:Nat) (l:Y Nat),l.length<n->(∀c∈l,c<=122)->l<List.replicate n 122
 |0,_,h,_=>by omega
 |n+1,[],_,_=>List.nil_lt_cons ..
 |n+1,c::l,h,hc=>by
  rw[Kb,List.cons_lt_cons_iff];have h1:=hc c (zh ..);by_cases e:c=122
  ·exact .inr ⟨e,LO n l (by simpa using h) λx hx=>hc x (zi _ hx)⟩
  ·exact .inl (by omega)
theorem SW{s:AJ}(h:s.length<=6)(a:∀c∈cs s,Lw c):uq s z7=true:=by
 unfold uq;refine ZH ?_;have e:z7.cps.toList=List.replicate 7 122:=by decide +kernel
 rw[e];refine LO 7 _ ?_ λc h=>(a c h).2;have:s.cps.toList.length=s.length:=rfl;omega
theorem XN:∀i:Fin 7,uq (Txt.mul (ch LT ((i.val:Int) / 8)) (1+(i.val:Int)%8)) z7=true:=by decide +kernel
theorem P'(xs:Y Int)(a:Int)(h:a<=7):∀n∈cM xs a,uq n z7=true:=by
 obtain⟨b,at_,h1,h2,f,i,e⟩:=N5 xs a;rw[e];intro n l;obtain⟨k,g,rfl⟩:=List.mem_map.mp l;obtain⟨j,m,rfl⟩:=G4 g;have nm:=MX (xs:=xs) h1 h2 f i (k:=(j:Int)) (by omega);by_cases e:(decide (((at' xs 3)%3)=1))=true
 ·unfold CL;rw[zr e];exact XN ⟨j,by omega⟩
 ·refine SW ?_ nm.2.2;unfold CL;rw[zI e,pI,pI,zJ];have d:=Tc (x:=b) (n:=at_.toNat) (by omega);have c:=S9 (x:=b) (n:=at_.toNat) (by omega);rw[yb f]at d c;rw[xM,xM,d,c,kf,kD,<-xM];omega
theorem QJ{a b:Int}(c:0<=a/\a<n)(hb:0<=b/\b<n):In n (if b<a then b else a):=by split<;>exact BC (by omega) (by omega)
theorem QK{a b:Int}(c:0<=a/\a<n)(hb:0<=b/\b<n):In n (if b>a then b else a):=by split<;>exact BC (by omega) (by omega)
theorem Yd{a:Int}(b:n=a.toNat){x y:Int}(h:(!decide (x%(if a>1 then a else 1)=y%(if a>1 then a else 1)))=true):(0<=x%(if a>1 then a else 1)/\x%(if a>1 then a else 1)<n)/\(0<=y%(if a>1 then a else 1)/\y%(if a>1 then a else 1)<n):=by
 by_cases e:a>1
 ·rw[zr e]at h ⊢;have h1:=iz x (m:=a) (by omega);have h2:=iz y (m:=a) (by omega);omega
 ·rw[zI e]at h;simp at h
theorem Uq{a:Int}:0<(if a>1 then a else 1):=by split<;>omega
def RT(r:c7):Prop:=((-1000:Int)<=r.1/\r.1 ≤ -1)/\uq r.2.1 r.2.2.1=true/\0<=r.2.2.2
theorem Ye(c:n_.Pairwise λa b=>uq a b=true){i j:Int}(h0:0<=i)(h1:i<j)(h2:j<n_.length):uq (at' n_ i) (at' n_ j)=true:=by
 obtain⟨a,rfl⟩:∃a:Nat,i=(a:Int):=⟨i.toNat,by omega⟩;obtain⟨b,rfl⟩:∃b:Nat,j=(b:Int):=⟨j.toNat,by omega⟩;rw[Js n_ a (by omega),Js n_ b (by omega)];exact List.pairwise_iff_getElem.mp c a b (by omega) (by omega) (by omega)
theorem ZC(e:Y Int)(at_ d:Int)(z:0<=at_)(a1:at_<=500)(g:Y Int)(C:6<=g.length)(n_:AZ)(t:n_.length=d.toNat)(k:Nat)(D:k<60)(f:Y c7)(s:n_.Pairwise λa b=>uq a b=true)(h:f.length<=k/\Rs n_ f/\∀r∈f,RT r):
  jB e at_ d g n_ f k/\(dD e at_ d g n_ f k).length<=k+1/\Rs n_ (dD e at_ d g n_ f k)/\∀r∈dD e at_ d g n_ f k,RT r:=by
 obtain⟨q,n,v⟩:=J7 (bh e ((at_+1)+k)) 4 (by decide) (by decide);have n:(bf (bh e ((at_+1)+k)) 4).length=4:=n;unfold jB dD;dsimp only;generalize bf (bh e ((at_+1)+k)) 4=xs at *
 have o:=λx y=>Yd (x:=x) (y:=y) t;have p:=@Uq d;generalize (if d>1 then d else 1)=mm at *
 have j:∀i:Nat,i<4->In xs.length (i:Int):=λi hi=>xK (by omega);refine⟨⟨⟨QD _ _ (by omega) (by omega),q⟩,⟨⟨j 0 (by decide),p⟩,j 1 (by decide),p⟩,⟨⟨⟨j 2 (by decide),j 2 (by decide),j 2 (by decide)⟩,BC (by decide) (by omega)⟩,uY (by decide) (Kt 3)⟩,λl=>?_⟩,?_⟩
 ·have:=o _ _ l;exact⟨⟨QJ this.1 this.2,QK this.1 this.2,j 3 (by decide),uY (by decide) (by decide)⟩,iu (by omega)⟩
 ·split
  ·rename_i l;have:=o _ _ l;refine⟨by rw[zw];show _+1<=_;omega,λr c=>?_,λr c=>?_⟩
   ·rcases List.mem_append.mp c with c|c
    ·exact h.2.1 r c
    ·cases List.mem_singleton.mp c;exact⟨mZ (QJ this.1 this.2),mZ (QK this.1 this.2)⟩
   ·rcases List.mem_append.mp c with c|c
    ·exact h.2.2 r c
    ·cases List.mem_singleton.mp c;have w:=mZ (xs:=[1+at' xs 2%3,1+at' xs 2%9,1+at' xs 2%1000]) (i:=at' g 4%3) (uY (by decide) (Kt 3));have u:=mZ (xs:=[(0:Int),(2:Int),(10:Int)]) (i:=at' xs 3%3) (uY (by decide) (Kt 3));have A:=iz (at' xs 2) (m:=3) (by decide);have B:=iz (at' xs 2) (m:=9) (by decide);have bk:=iz (at' xs 2) (m:=1000) (by decide);simp only[jI,JI,or_false]at w u;have l:at' xs 0%mm≠at' xs 1%mm:=by simpa using l
     refine⟨?_,?_,?_⟩
     ·show _<=0 - _/\(0:Int) - _<=_;omega
     ·show uq (at' n_ _) (at' n_ _)=true;split<;>split<;>first|exact Ye s (by omega) (by omega) (by omega)|(exfalso;omega)
     ·show 0<=at' _ _;omega
  ·exact⟨by omega,h.2⟩
theorem ZD(d:Y Int)(at_ c:Int)(t:0<=at_)(a1:at_<=500)(n_:AZ)(p:n_.length=c.toNat)(k:Nat)(s:k<60)(e:Y (AJ×AJ×Int))(q:n_.Pairwise λa b=>uq a b=true)(h:e.length<=k/\∀b∈e,(b.1∈n_/\b.2.1∈n_)/\uq b.1 b.2.1=true):
  jC d at_ c n_ e k/\(dY d at_ c n_ e k).length<=k+1/\∀b∈dY d at_ c n_ e k,(b.1∈n_/\b.2.1∈n_)/\uq b.1 b.2.1=true:=by
 obtain⟨o,l,u⟩:=J7 (bh d ((at_+1)+k)) 8 (by decide) (by decide);have l:(bf (bh d ((at_+1)+k)) 8).length=8:=l;unfold jC dY;dsimp only;generalize bf (bh d ((at_+1)+k)) 8=xs at *
 have m:=λx y=>Yd (x:=x) (y:=y) p;have n:=@Uq c;generalize (if c>1 then c else 1)=mm at *
 have j:∀i:Nat,i<8->In xs.length (i:Int):=λi hi=>xK (by omega);refine⟨⟨⟨QD _ _ (by omega) (by omega),o⟩,⟨⟨j 5 (by decide),n⟩,j 6 (by decide),n⟩,λf=>?_⟩,?_⟩
 ·have:=m _ _ f;exact⟨⟨QJ this.1 this.2,QK this.1 this.2,j 7 (by decide),uY (by decide) (by decide)⟩,iu (by omega)⟩
 ·split
  ·rename_i f;have:=m _ _ f;refine⟨by rw[zw];show _+1<=_;omega,λr g=>?_⟩;rcases List.mem_append.mp g with g|g
   ·exact h.2 r g
   ·cases List.mem_singleton.mp g;have f:at' xs 5%mm≠at' xs 6%mm:=by simpa using f
    refine⟨⟨mZ (QJ this.1 this.2),mZ (QK this.1 this.2)⟩,?_⟩;show uq (at' n_ _) (at' n_ _)=true;split<;>split<;>first|exact Ye q (by omega) (by omega) (by omega)|(exfalso;omega)
  ·exact⟨by omega,h.2⟩
structure Gr (g:AZ×(List c7)×(List (Str×Str×Int))):Prop where
 nd:g.1.Nodup
 len:g.1.length<=7
 rs:Rs g.1 g.2.1
 rl:g.2.1.length<=9
 so:g.1.Pairwise qy
 nm:∀n∈g.1,Nm n
 va:∀r∈g.2.1,(1<=r.1/\r.1<=1000)/\uq r.2.1 r.2.2.1=true/\0<=r.2.2.2
 rd:g.2.1.Nodup
 bl:g.2.2.length<=4
 bs:∀b∈g.2.2,(b.1∈g.1/\b.2.1∈g.1)/\uq b.1 b.2.1=true
 zz:∀n∈g.1,uq n z7=true
theorem Rs.turn{rs:Y c7}(h:Rs n_ rs):Rs n_ (rs.map λa:(Int×AJ×AJ×Int)=>(((0:Int)-a.1),a.2.1,a.2.2.1,a.2.2.2)):=λr c=>by
 obtain⟨q,b,rfl⟩:=List.mem_map.mp c;exact h q b
theorem dA{rs:Y c7}(h:∀r∈rs,RT r):∀r∈(rs.map λa:(Int×AJ×AJ×Int)=>(((0:Int)-a.1),a.2.1,a.2.2.1,a.2.2.2)),(1<=r.1/\r.1<=1000)/\uq r.2.1 r.2.2.1=true/\0<=r.2.2.2:=λr d=>by
 obtain⟨q,c,rfl⟩:=List.mem_map.mp d;obtain⟨f,b,e⟩:=h q c;exact⟨⟨show(1:Int)<=0-q.1 by omega,show(0:Int)-q.1<=1000 by omega⟩,b,e⟩
theorem ZF(g:Y Int)(at_ c i j:Int)(p:0<=at_)(a1:at_<=500)(D:0<=c)(M:c<=7)(H:0<=i)(W:i<=9)(b0:0<=j)(b1:j<=4):nG g at_ c i j/\Gr (fJ g at_ c i j):=by
 obtain⟨F,o,U⟩:=J7 (bh g at_) 6 (by decide) (by decide);have o:(bf (bh g at_) 6).length=6:=o;have L:∀d:Y Int,6<=d.length->qm g at_ c i j d/\Gr (ql g at_ c i j d):=λd v=>by
  obtain⟨N,u,Z⟩:=Ug d v c D (by omega);have knd:=ie d c (by omega);have m:(pG (cM d c)).length=c.toNat:=by rw[(jk _).length_eq,u]
  have nd:(pG (cM d c)).Nodup:=(jk _).nodup_iff.mpr knd;have J:∀n_:AZ,n_.length=c.toNat->n_.Nodup->n_.Pairwise qy->(∀n∈n_,Nm n)->(∀n∈n_,uq n z7=true)->qj g at_ c i j d n_/\Gr (qg g at_ c i j d n_):=λn_ m nd y nm B=>by
   have w:n_.Pairwise λa b=>uq a b=true:=(y.and nd).imp λh=>(C1 _ _).mpr h;obtain⟨t1,t2,t3⟩:=uG (P:=λf k=>O (jB g at_ c d n_ f k)) (step:=λf k=>dD g at_ c d n_ f k) (λk s=>s.length<=k/\Rs n_ s/\∀r∈s,RT r) i.toNat [] ⟨zk 0,λr h=>(by cases h),λr h=>(by cases h)⟩ λk s K h=>ZC g at_ c p a1 d v n_ m k (by omega) s w h;obtain⟨Q,x,E⟩:=uG (P:=λf k=>O (jC g at_ c n_ f k)) (step:=λf k=>dY g at_ c n_ f k) (λk s=>s.length<=k/\∀b∈s,(b.1∈n_/\b.2.1∈n_)/\uq b.1 b.2.1=true) j.toNat [] ⟨zk 0,λr h=>(by cases h)⟩ λk s K h=>ZD g at_ c p a1 n_ m k (by omega) s w h;have sl:=Kn x (show j.toNat<64 by omega);have I:∀l:Y c7,l.length<=i.toNat->(Rs n_ l/\∀r∈l,RT r)->qe g at_ c i j d n_ l/\Gr (qd g at_ c i j d n_ l):=λl tl ⟨tr,tv⟩=>by
    have X:=Bc l;have sp:=(gq (e:=D3 eI eS eS eI) (Ft l)).length_eq;refine⟨⟨⟨⟨by omega,by omega⟩,by rw[sp];omega⟩,⟨Eo b0 (by omega),Q⟩,jS sl,sl⟩,nd,?_,?_,?_,y,nm,dA λr t=>tv r (qz.mp ((gq _).mem_iff.mp t)),?_,?_,?_,B⟩
    ·show n_.length<=7;omega
    ·exact Rs.turn λr t=>tr r (qz.mp ((gq _).mem_iff.mp t))
    ·show(List.map _ _).length<=9;rw[zt,sp];omega
    ·show(List.map _ (mq (D3 eI eS eS eI) (Ft l))).Nodup;unfold List.Nodup;rw[yz];exact List.Pairwise.imp (λ{a b} h e=>h (by
      obtain⟨a1,a2,C,A⟩:=a;obtain⟨b1,b2,G,z⟩:=b;injection e with e1 e2;injection e2 with e2 e3;injection e3 with e3 q;have e1:(0:Int)-a1=0-b1:=e1;have e2:a2=b2:=e2;have e3:C=G:=e3;have q:A=z:=q;rw[show a1=b1 by omega,e2,e3,q])) ((gq _).nodup_iff.mpr (Iw l))
    ·show(mq _ _).length<=4;rw[(gq _).length_eq];exact ZI (Bc _) (ZI x (by omega))
    ·exact λb hb=>E b (qz.mp ((gq _).mem_iff.mp hb))
   have:=I _ t2 t3;exact⟨⟨⟨Eo H (by omega),t1⟩,this.1⟩,this.2⟩
  have mem:∀n,n∈pG (cM d c)->n∈cM d c:=λn h=>(jk _).mem_iff.mp h;have:=J _ m nd (zA _) (λn h=>WU d c (by omega) n (mem n h)) λn h=>P' d c M n (mem n h);exact⟨⟨⟨N,by rw[u];omega⟩,this.1⟩,this.2⟩
 have:=L _ (Nat.le_of_eq o.symm);exact⟨⟨⟨QD _ _ p (by omega),F⟩,this.1⟩,this.2⟩
theorem Wr(b:Y Int)(at_ a d f:Int)(e:0<=a)(g:a<=7):(fJ b at_ a d f).1.length=a.toNat:=by
 have c:(bf (bh b at_) 6).length=6:=(J7 (bh b at_) 6 (by decide) (by decide)).2.1;show(pG (cM (bf (bh b at_) 6) a)).length=_;rw[(jk _).length_eq,(Ug _ (Nat.le_of_eq c.symm) a e (by omega)).2.1]
def wq(q:AJ->AJ->Bool)(R:Y c7):Int:=wt (R.filter λr=>q r.2.1 r.2.2.1)
theorem N6[DecidableEq α](f:AJ->α)(R:Y c7):wf f R=wq (λa b=>decide (f a=f b)) R:=rfl
theorem vQ(q:AJ->AJ->Bool)(A B:Y c7):wq q (A++B)=wq q A+wq q B:=by unfold wq;rw[List.filter_append,Wo]
theorem QL(q:AJ->AJ->Bool){A B:Y c7}(h:A.Perm B):wq q A=wq q B:=Cv (h.filter _)
theorem Ur{q a:AJ->AJ->Bool}(h:∀r∈R,q r.2.1 r.2.2.1=a r.2.1 r.2.2.1):wq q R=wq a R:=by
 unfold wq;rw[kr h]
theorem OO{q:AJ->AJ->Bool}(h:∀r∈R,1<=r.1):0<=wq q R/\wq q R<=wt R:=by
 have h1:=Cw (λr=>q r.2.1 r.2.2.1) R;have h2:=zT (L:=R.filter λr=>q r.2.1 r.2.2.1) λr a=>h r (List.mem_filter.mp a).1;have b:=zT (L:=R.filter λr=>!q r.2.1 r.2.2.1) λr a=>h r (List.mem_filter.mp a).1;unfold wq;omega
variable{A Z:AZ}{R1 R2 M:Y c7}{B1 B2 bb:Y CA}
theorem TN:∀{L:Y c7},(∀r∈L,1<=r.1)->wt L<=0->L=[]
 |[],_,_=>rfl
 |r::L,h,hw=>by
  have:=zT (L:=L) λz a=>h z (zi _ a);have:=h r (zh ..);rw[fL]at hw;omega
theorem LW(g:Gb N R B)(rm:Rm N R B)[DecidableEq α](f:AJ->α)(d:∀b∈B,f b.1≠f b.2.1)(e:∀r∈R,f r.2.1=f r.2.2.1):kp N R B=R:=by
 have h1:=DK g rm f d;have h2:wf f R=wt R:=by
  unfold wf;rw[List.filter_eq_self.mpr λr a=>ZH (e r a)]
 have h:=OA (kp N R B) (yF g);have c:=TN (L:=lf R (kp N R B)) (λr a=>(g.va r (zU r a)).1) (by omega);rw[yF g];refine List.filter_eq_self.mpr λr a=>?_;refine Classical.byContradiction λz=>?_;have:r∈lf R (kp N R B):=lW.mpr ⟨a,λy=>z (jP.mpr y)⟩;rw[c]at this;cases this
def Yg(A:AZ)(b a:Y (AJ×AJ))(x:AJ):Bool×AJ:=if x∈A then(true,look b x)else(false,look a x)
structure Tg (A Z:AZ) (R1 R2 M:List c7) (B1 B2 bb:List CA) (N:AZ) (R:List c7) (B:List CA):Prop where
 g1:Gb A R1 B1
 g2:Gb Z R2 B2
 dj:∀x∈A,x∉Z
 pN:N.Perm (A++Z)
 pR:R.Perm ((R1++R2)++M)
 mB:∀b,b∈B↔b∈B1\/b∈B2\/b∈bb
 bB:∀b∈bb,b.1∈A/\b.2.1∈Z
 g:Gb N R B
theorem Tg.kept(t:Tg A Z R1 R2 M B1 B2 bb N R B)(i:Rm A R1 B1)(j:Rm Z R2 B2)(rm:Rm N R B):wt (kp A R1 B1)+wt (kp Z R2 B2)<=wt (kp N R B)/\wt (kp N R B)<=wt (kp A R1 B1)+wt (kp Z R2 B2)+wt M:=by
 have l:∀r∈M,1<=r.1:=λr f=>(t.g.va r (t.pR.mem_iff.mpr (ZA _ f))).1;have p:∀r∈R1,r.2.1∈A/\r.2.2.1∈A:=t.g1.rs;have m:∀r∈R2,r.2.1∈Z/\r.2.2.1∈Z:=t.g2.rs;constructor
 ·
  have n:∀b∈B,(Yg A (hb A (kp A R1 B1)) (hb Z (kp Z R2 B2))) b.1≠(Yg A (hb A (kp A R1 B1)) (hb Z (kp Z R2 B2))) b.2.1:=λb hb z=>by
   rcases(t.mB b).mp hb with h|h|h
   ·obtain⟨d,c⟩:=(t.g1.bs b h).1;unfold Yg at z;rw[zr d,zr c]at z;exact Fd t.g1 i b h ((pX t.g1 d c).mp (Prod.mk.inj z).2)
   ·obtain⟨d,c⟩:=(t.g2.bs b h).1;unfold Yg at z;rw[zI λy=>t.dj _ y d,zI λy=>t.dj _ y c]at z;exact Fd t.g2 j b h ((pX t.g2 d c).mp (Prod.mk.inj z).2)
   ·obtain⟨d,c⟩:=t.bB b h;unfold Yg at z;rw[zr d,zI λy=>t.dj _ y c]at z;exact absurd (Prod.mk.inj z).1 (by decide)
  have o:=DK t.g rm (Yg A (hb A (kp A R1 B1)) (hb Z (kp Z R2 B2))) n;rw[N6,QL _ t.pR,vQ,vQ]at o;have e1:wq (λa b=>decide ((Yg A (hb A (kp A R1 B1)) (hb Z (kp Z R2 B2))) a=(Yg A (hb A (kp A R1 B1)) (hb Z (kp Z R2 B2))) b)) R1=wt (kp A R1 B1):=by
   rw[<-Ul t.g1 i,N6];refine Ur λr f=>?_;obtain⟨a,b⟩:=p r f;unfold Yg;rw[zr a,zr b,Q2,Zl,Zl];exact⟨λz=>(Prod.mk.inj z).2,λz=>by rw[z]⟩
  have e2:wq (λa b=>decide ((Yg A (hb A (kp A R1 B1)) (hb Z (kp Z R2 B2))) a=(Yg A (hb A (kp A R1 B1)) (hb Z (kp Z R2 B2))) b)) R2=wt (kp Z R2 B2):=by
   rw[<-Ul t.g2 j,N6];refine Ur λr f=>?_;obtain⟨a,b⟩:=m r f;unfold Yg;rw[zI λy=>t.dj _ y a,zI λy=>t.dj _ y b,Q2,Zl,Zl];exact⟨λz=>(Prod.mk.inj z).2,λz=>by rw[z]⟩
  rw[e1,e2]at o;have:=(OO (q:=λa b=>decide ((Yg A (hb A (kp A R1 B1)) (hb Z (kp Z R2 B2))) a=(Yg A (hb A (kp A R1 B1)) (hb Z (kp Z R2 B2))) b)) l).1;omega
 ·
  have v:∀b∈B,look (hb N (kp N R B)) b.1≠look (hb N (kp N R B)) b.2.1:=λb hb z=>by
   obtain⟨d,c⟩:=(t.g.bs b hb).1;exact Fd t.g rm b hb ((pX t.g d c).mp z)
  have o1:=DK t.g1 i (look (hb N (kp N R B))) λb hb=>v b ((t.mB b).mpr (.inl hb));have s:=DK t.g2 j (look (hb N (kp N R B))) λb hb=>v b ((t.mB b).mpr (.inr (.inl hb)));have e:=Ul t.g rm;rw[N6,QL _ t.pR,vQ,vQ]at e;rw[N6]at o1 s;have:=(OO (q:=λa b=>decide (look (hb N (kp N R B)) a=look (hb N (kp N R B)) b)) l).2;omega
theorem Tg.wt(t:Tg A Z R1 R2 M B1 B2 bb N R B):wt R=wt R1+wt R2+wt M:=by
 rw[Cv t.pR,Wo,Wo]
theorem Tg.rm(t:Tg A Z R1 R2 [] B1 B2 bb N R B)(a1:A.length<=8)(a2:R1.length<=12)(z1:Z.length<=8)(z2:R2.length<=12):Rm N R B:=λp hp=>by
 obtain⟨x,hx,rfl⟩:=(jG t.g.hd).mp hp;have b:∀r,r∈R->r∈R1\/r∈R2:=λr a=>by
  have:=t.pR.mem_iff.mp a;rw[qv]at this;exact List.mem_append.mp this
 have d:∀(S:AZ) (L:Y c7),x∈S->Sd S R->(∀r∈R,r.2.1∈S->r∈L)->S.length<=8->L.length<=12->(pt N (hb N R) x).length<=8/\(ow R B (pt N (hb N R) x)).2.1.length<=12:=λS L e sd m l i=>by
  have sub:∀y∈pt N (hb N R) x,y∈S:=λy f=>by
   obtain⟨j,o⟩:=iV.mp f;obtain⟨q,n⟩:=(Cr t.g.nd t.g.l3 t.g.rs t.g.ne hx j).mp o.symm;exact(QH sd n e).2
  refine⟨ZI (Uj (t.g.nd.filter _) sub) l,ZI (Uj (t.g.rd.filter _) λr a=>?_) i⟩;obtain⟨h1,h2⟩:=List.mem_filter.mp a;exact m r h1 (sub _ (qi h2))
 right;rcases List.mem_append.mp (t.pN.mem_iff.mp hx)with h|h
 ·refine d A R1 h (λr a=>?_) (λr a c=>?_) a1 a2
  ·rcases b r a with z|z
   ·exact .inl (t.g1.rs r z)
   ·exact .inr ⟨λy=>t.dj _ y (t.g2.rs r z).1,λy=>t.dj _ y (t.g2.rs r z).2⟩
  ·rcases b r a with z|z
   ·exact z
   ·exact absurd (t.g2.rs r z).1 (t.dj _ c)
 ·refine d Z R2 h (λr a=>?_) (λr a c=>?_) z1 z2
  ·rcases b r a with z|z
   ·exact .inr ⟨λy=>t.dj _ (t.g1.rs r z).1 y,λy=>t.dj _ (t.g1.rs r z).2 y⟩
   ·exact .inl (t.g2.rs r z)
  ·rcases b r a with z|z
   ·exact absurd c (t.dj _ (t.g1.rs r z).1)
   ·exact z
def tn(q:c7):c7:=((0:Int)-q.1,q.2.1,q.2.2.1,q.2.2.2)
theorem UI(rs:Y c7):(rs.map tn).map tn=rs:=by
 rw[QO];refine(QP (g:=id) λq _=>?_).trans (List.map_id _);obtain⟨a,b,c,d⟩:=q;show((0:Int)-(0-a),b,c,d)=_;rw[show(0:Int)-(0-a)=a by omega];rfl
theorem QM(L:Y c7):(fD L).Perm L:=by
 have:=((gq (e:=D3 eI eS eS eI) (L.map tn)).map tn);rwa [UI]at this
theorem HV{L:Y c7}(h:L.length<64):jD L:=by
 refine⟨⟨by omega,by rw[zt];exact h⟩,?_⟩;show(mq _ _).length<=_;rw[(gq _).length_eq,zt];omega
def DZ(m:Int):AZ:=(rng 0 m.toNat).map λa:Int=>(("zzzzzzz":AJ)++(ch ("abc":AJ) a))
theorem TC:∀m:Fin 4,(DZ (m.val:Int)).length=m.val/\(DZ (m.val:Int)).Pairwise (λa b=>uq a b=true)/\(∀x∈DZ (m.val:Int),uq z7 x=true):=by decide +kernel
structure Bs (Z:AZ) (R2:List c7) (B2:List CA):Prop where
 g:Gb Z R2 B2
 so:Z.Pairwise qy
 len:Z.length<=3
 pos:0<Z.length
 rl:R2.length<=2
 bl:B2.length<=1
 zz:∀x∈Z,uq z7 x=true
theorem N7{a b:AJ}(h:uq a b=true):a≠b:=((C1 _ _).mp h).2
theorem ZG(xs:Y Int)(hx:xs.length=11):nR xs/\Bs (fK xs).1 (fK xs).2.1 (fK xs).2.2:=by
 have K:=iz (at' xs 0) (m:=3) (by decide);have l:∀i:Nat,i<11->In xs.length (i:Int):=λi hi=>xK (by omega);have E:∀m:Nat,1<=m->m<=3->(DZ (m:Int)).length=m/\(DZ (m:Int)).Pairwise (λa b=>uq a b=true)/\(∀x∈DZ (m:Int),uq z7 x=true):=λm h1 h2=>TC ⟨m,by omega⟩;obtain⟨m,B⟩:∃m:Nat,1+at' xs 0%3=(m:Int):=⟨(1+at' xs 0%3).toNat,by omega⟩;obtain⟨G,n,l3⟩:=E m (by omega) (by omega);unfold nR fK;dsimp only;rw[B];have d0:∀o∈rng 0 (m:Int).toNat,(In ("abc":AJ).length o/\zH (("zzzzzzz":AJ).length+(ch ("abc":AJ) o).length)):=λv g=>by
  obtain⟨j,J,rfl⟩:=G4 g;exact⟨xK (by show j<3;omega),iu (by rw[zJ];decide +kernel)⟩
 rw[show((rng 0 (m:Int).toNat).map λo:Int=>(("zzzzzzz":AJ)++(ch ("abc":AJ) o)))=DZ (m:Int) from rfl];generalize DZ (m:Int)=vc at *
 have A:(rng 0 (m:Int).toNat).length<=100000:=by rw[yw];omega
 obtain⟨t1,t2,t3,y⟩:=uG (P:=λf k=>O (qu xs vc f k)) (step:=λf k=>fG xs vc f k) (λk s=>s.length<=k/\(∀r∈s,((1<=r.1/\r.1<=9)/\r.2.2.2<(k:Int))/\(r.2.1∈vc/\r.2.2.1∈vc)/\uq r.2.1 r.2.2.1=true)/\s.Nodup) ((m:Int)-1).toNat [] ⟨zk 0,λr h=>(by cases h),Qb⟩ λk s I h=>by
  have i1:In vc.length (k:Int):=xK (by omega);have i2:In vc.length ((k:Int)+1):=BC (by omega) (by omega);have H:=iz (at' xs 1) (m:=9) (by decide);refine⟨⟨by have:=l (2+k) (by omega);rwa [show((2+k:Nat):Int)=2+(k:Int) by omega]at this,λ_=>⟨⟨l 1 (by decide),i1,i2⟩,iu (by omega)⟩⟩,?_⟩;unfold fG;dsimp only;split
  ·refine⟨by rw[zw];show _+1<=_;omega,λr c=>?_,List.nodup_append.mpr ⟨h.2.2,List.nodup_cons.mpr ⟨λz=>(by cases z),Qb⟩,λa C b hb e=>?_⟩⟩
   ·rcases List.mem_append.mp c with c|c
    ·obtain⟨⟨q1,q2⟩,q⟩:=h.2.1 r c;exact⟨⟨q1,by omega⟩,q⟩
    ·cases List.mem_singleton.mp c;refine⟨⟨⟨show(1:Int)<=1+at' xs 1%9 by omega,show(1:Int)+at' xs 1%9<=9 by omega⟩,show(k:Int)<((k+1:Nat):Int) by omega⟩,⟨mZ i1,mZ i2⟩,?_⟩;exact Ye n (by omega) (by omega) (by omega)
   ·cases List.mem_singleton.mp hb;have:=(h.2.1 a C).1.2;rw[e]at this;exact absurd this (Int.lt_irrefl _)
  ·refine⟨by omega,λr c=>?_,h.2.2⟩;obtain⟨⟨q1,q2⟩,q⟩:=h.2.1 r c;exact⟨⟨q1,by omega⟩,q⟩
 generalize (rng 0 ((m:Int)-1).toNat).foldl (λf k=>fG xs vc f k) []=va at *
 have D:va.length<=2:=by omega
 have nd:vc.Nodup:=n.imp λh=>N7 h;have F:vc.Pairwise qy:=n.imp λh=>((C1 _ _).mp h).1;have d:=QM va;have w:In vc.length 0:=BC (by decide) (by omega);have t:∀p:Y dM,(p=[]\/(m=3/\p=[((at' vc 0),(at' vc 2),(0:Int))]))->Bs vc (fD va) p:=λp g=>by
  refine⟨⟨nd,by omega,λr c=>(t3 r (d.mem_iff.mp c)).2.1,λr c=>N7 (t3 r (d.mem_iff.mp c)).2.2,d.nodup_iff.mpr y,by rw[d.length_eq];omega,λr c=>?_,λb hb=>?_,?_⟩,F,by omega,by omega,by rw[d.length_eq];exact D,?_,l3⟩
  ·have:=(t3 r (d.mem_iff.mp c)).1.1;omega
  ·rcases g with rfl|⟨u,rfl⟩
   ·cases hb
   ·cases List.mem_singleton.mp hb;exact⟨⟨mZ w,mZ (BC (by decide) (by omega))⟩,N7 (Ye n (by decide) (by decide) (by omega))⟩
  ·rcases g with rfl|⟨u,rfl⟩
   ·decide
   ·show 1<1000;decide
  ·rcases g with rfl|⟨u,rfl⟩
   ·decide
   ·show 1<=1;decide
 refine⟨⟨l 0 (by decide),⟨⟨Eo (by omega) (by omega),A⟩,d0⟩,⟨Eo (by omega) (by omega),t1⟩,⟨λ_=>l 4 (by decide),λz=>?_⟩,HV (by omega)⟩,?_⟩
 ·have z:=qi ((ZT _ _).mp z).1;exact⟨⟨w,BC (by decide) (by omega)⟩,iu (by show 0<=1000;decide)⟩
 ·split
  ·rename_i z;have z:=qi ((ZT _ _).mp z).1;exact t _ (.inr ⟨by omega,rfl⟩)
  ·exact t _ (.inl Y2)
theorem Fg(g1:Gb A R1 B1)(a1:A.length<=7)(a2:R1.length<=9)(q:B1.length<=4)(p:∀x∈A,uq x z7=true)(s:Bs Z R2 B2)
  (d:∀r∈M,(r.2.1∈A/\r.2.2.1∈Z)/\(1<=r.1/\r.1<=1000000)) (mn:M.Nodup) (ml:M.length<=1) (j:∀b∈bb,b.1∈A/\b.2.1∈Z) (bl:bb.length<=1):
  jZ (A,R1,B1) (Z,R2,B2) M bb/\(aU (A,R1,B1) (Z,R2,B2) M bb).1.Pairwise qy ∧
  Tg A Z R1 R2 M B1 B2 bb (aU (A,R1,B1) (Z,R2,B2) M bb).1 (aU (A,R1,B1) (Z,R2,B2) M bb).2.1 (aU (A,R1,B1) (Z,R2,B2) M bb).2.2:=by
 have c:∀x∈A,x∉Z:=λx hx n=>by
  have:=fw _ _ _ (p x hx) (s.zz x n);exact absurd Y2 (N7 this)
 have C:=s.len;have w:=s.rl;have t:=s.bl;have f:=jk (A++Z);have i:=QM ((R1++R2)++M);have m:∀b,b∈mq dW (Ft ((B1++B2)++bb))↔b∈B1\/b∈B2\/b∈bb:=λb=>by
  rw[(gq _).mem_iff,qz,Q1,Q1,or_assoc]
 have o:(A++Z).Nodup:=List.nodup_append.mpr ⟨g1.nd,s.g.nd,λx hx y h e=>c x hx (e▸h)⟩;have B:(A++Z).length<=10:=by rw[zw];omega
 have u:((R1++R2)++M).length<=12:=by rw[zw,zw];omega
 have v:((B1++B2)++bb).length<=6:=by rw[zw,zw];omega
 have l:∀r∈(R1++R2)++M,r∈R1\/r∈R2\/r∈M:=λr a=>by
  rw[Q1,Q1,or_assoc]at a;exact a
 have G:Gb (pG (A++Z)) (fD ((R1++R2)++M)) (mq dW (Ft ((B1++B2)++bb))):=by
  refine⟨f.nodup_iff.mpr o,by rw[f.length_eq];omega,λr a=>?_,λr a=>?_,i.nodup_iff.mpr ?_,by rw[i.length_eq];omega,λr a=>?_,λb hb=>?_,?_⟩
  ·rw[f.mem_iff,f.mem_iff,Q1,Q1];rcases l r (i.mem_iff.mp a)with z|z|z
   ·exact⟨.inl (g1.rs r z).1,.inl (g1.rs r z).2⟩
   ·exact⟨.inr (s.g.rs r z).1,.inr (s.g.rs r z).2⟩
   ·exact⟨.inl (d r z).1.1,.inr (d r z).1.2⟩
  ·rcases l r (i.mem_iff.mp a)with z|z|z
   ·exact g1.ne r z
   ·exact s.g.ne r z
   ·exact λe=>c _ (d r z).1.1 (e▸(d r z).1.2)
  ·refine List.nodup_append.mpr ⟨List.nodup_append.mpr ⟨g1.rd,s.g.rd,λx hx y h e=>?_⟩,mn,λx hx y h e=>?_⟩
   ·subst e;exact c _ (g1.rs x hx).1 (s.g.rs x h).1
   ·subst e;rcases List.mem_append.mp hx with z|z
    ·exact c _ (g1.rs x z).2 (d x h).1.2
    ·exact c _ (d x h).1.1 (s.g.rs x z).1
  ·rcases l r (i.mem_iff.mp a)with z|z|z
   ·exact g1.va r z
   ·exact s.g.va r z
   ·exact(d r z).2
  ·rw[f.mem_iff,f.mem_iff,Q1,Q1];rcases(m b).mp hb with z|z|z
   ·exact⟨⟨.inl (g1.bs b z).1.1,.inl (g1.bs b z).1.2⟩,(g1.bs b z).2⟩
   ·exact⟨⟨.inr (s.g.bs b z).1.1,.inr (s.g.bs b z).1.2⟩,(s.g.bs b z).2⟩
   ·exact⟨⟨.inl (j b z).1,.inr (j b z).2⟩,λe=>c _ (j b z).1 (e▸(j b z).2)⟩
  ·rw[(gq _).length_eq];have:=Bc ((B1++B2)++bb);omega
 refine⟨⟨⟨iu (by show A.length+Z.length<=1000;omega),by show(A++Z).length<64;omega⟩,⟨⟨⟨iu (by show B1.length+B2.length<=1000;omega),iu (by show(B1++B2).length+bb.length<=1000;rw[zw];omega)⟩,by show((B1++B2)++bb).length<=64;omega⟩,by show((B1++B2)++bb).length<64;omega⟩,⟨iu (by show R1.length+R2.length<=1000;omega),iu (by show(R1++R2).length+M.length<=1000;rw[zw];omega)⟩,HV (by show((R1++R2)++M).length<64;omega)⟩,zA _,g1,s.g,c,f,i,m,j,G⟩
theorem WV(g:Gb N R B)(Z:R.length<=6)(x:Int):kY R x/\Gb N (dF R x) B/\(dF R x).length<=12/\∀q,wq q (dF R x)=wq q R:=by
 have L:=uG (P:=λf k=>O (lK R x f k)) (step:=λf k=>fH R x f k) (λk s=>s.length<=2*k/\(∀r∈s,(r.2.1∈N/\r.2.2.1∈N)/\r.2.1≠r.2.2.1/\(1<=r.1/\r.1<=1000000)/\r.2.2.2<2*(k:Int))/\s.Nodup/\∀q,wq q s=wq q (R.take k)) (R.length:Int).toNat [] ⟨zk 0,λr h=>(by cases h),Qb,λq=>Y2⟩ λk s l h=>by
  have l:k<R.length:=by omega
  have i1:In R.length (k:Int):=xK l;have p:at' R (k:Int)∈R:=mZ i1;have H:at' R (k:Int)=R[k]:=Js R k l;have va:=g.va _ p;obtain⟨U,G⟩:=g.rs _ p;have Q:=g.ne _ p;have tk:R.take (k+1)=R.take k++[at' R (k:Int)]:=by rw[List.take_succ_eq_append_getElem l,H]
  have X:=iz ((( at' R (k:Int)).1+x) / 2) (m:=(at' R (k:Int)).1) (by omega);obtain⟨h1,h2,y,u⟩:=h;unfold lK fH;dsimp only;generalize (((at' R (k:Int)).1+x) / 2)%(at' R (k:Int)).1=f at *
  generalize at' R (k:Int)=r at *
  have t:∀(w:Int) (n:Int) (s':Y c7),1<=w->w<=1000000->n<2*(((k+1:Nat)):Int)->(∀z∈s',(z.2.1∈N/\z.2.2.1∈N)/\z.2.1≠z.2.2.1/\(1<=z.1/\z.1<=1000000)/\z.2.2.2<n)->s'.Nodup->(∀z∈s'++[(w,r.2.1,r.2.2.1,n)],(z.2.1∈N/\z.2.2.1∈N)/\z.2.1≠z.2.2.1/\(1<=z.1/\z.1<=1000000)/\z.2.2.2<=n)/\(s'++[(w,r.2.1,r.2.2.1,n)]).Nodup:=λw n s' M F _ hs nd=>by
   refine⟨λz c=>?_,List.nodup_append.mpr ⟨nd,List.nodup_cons.mpr ⟨λz=>(by cases z),Qb⟩,λa I b hb e=>?_⟩⟩
   ·rcases List.mem_append.mp c with c|c
    ·obtain⟨q1,q2,d,o⟩:=hs z c;exact⟨q1,q2,d,by omega⟩
    ·cases List.mem_singleton.mp c;exact⟨⟨U,G⟩,Q,⟨M,F⟩,Kt _⟩
   ·cases List.mem_singleton.mp hb;have:=(hs a I).2.2.2;rw[e]at this;exact absurd this (Int.lt_irrefl _)
  have one:∀(q:AJ->AJ->Bool) (w n:Int),wq q [(w,r.2.1,r.2.2.1,n)]=if q r.2.1 r.2.2.1=true then w else 0:=λq w n=>by
   unfold wq;cases C:q r.2.1 r.2.2.1 with
   |true=>rw[JY (by exact C)];show wt [_]=_;rw[fL,Kc];show w+0=w;omega
   |false=>rw[ka (by rw[C];decide)];rfl
  have D:∀(q:AJ->AJ->Bool),wq q [r]=if q r.2.1 r.2.2.1=true then r.1 else 0:=λq=>one q r.1 r.2.2.2;by_cases A:0<f
  ·rw[ZH A];simp only[QE];obtain⟨x1,W⟩:=t f (2*(k:Int)) s (by omega) (by omega) (by omega) h2 y;obtain⟨y1,y2⟩:=t (r.1-f) (2*(k:Int)+1) _ (by omega) (by omega) (by omega) (λz c=>by
    obtain⟨q1,q2,d,o⟩:=x1 z c;exact⟨q1,q2,d,by omega⟩) W
   have sl:(s++[(f,r.2.1,r.2.2.1,2*(k:Int))]).length=s.length+1:=by rw[zw];rfl
   refine⟨⟨i1,by omega,λ_=>iu (by omega),iu (by omega)⟩,by rw[zw,sl];show _+1+1<=_;omega,λz c=>?_,y2,λq=>?_⟩
   ·obtain⟨q1,q2,d,o⟩:=y1 z c;exact⟨q1,q2,d,by omega⟩
   ·rw[vQ,vQ,tk,vQ,u q,one,one,D];split<;>omega
  ·rw[ZN A];simp only[zv,ZU];obtain⟨y1,y2⟩:=t (r.1-f) (2*(k:Int)+1) s (by omega) (by omega) (by omega) (λz c=>by
    obtain⟨q1,q2,d,o⟩:=h2 z c;exact⟨q1,q2,d,by omega⟩) y
   refine⟨⟨i1,by omega,λz=>(by cases z),iu (by omega)⟩,by rw[zw];show _+1<=_;omega,λz c=>?_,y2,λq=>?_⟩
   ·obtain⟨q1,q2,d,o⟩:=y1 z c;exact⟨q1,q2,d,by omega⟩
   ·rw[vQ,tk,vQ,u q,one,D,show f=0 by omega];split<;>omega
 obtain⟨t1,t2,t3,E,J⟩:=L;unfold kY dF;dsimp only;generalize (rng 0 (R.length:Int).toNat).foldl (λf k=>fH R x f k) []=v at *
 have i:(pq v).Perm v:=QM v;have K:v.length<=12:=by omega
 refine⟨⟨⟨Eo (by omega) (by omega),t1⟩,HV (by omega)⟩,⟨g.nd,g.len,λr j=>(t3 r (i.mem_iff.mp j)).1,λr j=>(t3 r (i.mem_iff.mp j)).2.1,i.nodup_iff.mpr E,by rw[i.length_eq];omega,λr j=>(t3 r (i.mem_iff.mp j)).2.2.1,g.bs,g.bl⟩,by rw[i.length_eq];exact K,λq=>?_⟩;rw[QL q i,J q,show(R.length:Int).toNat=R.length by omega,List.take_length]
theorem ip{R':Y c7}(g:Gb N R B)(rm:Rm N R B)(g':Gb N R' B)(e:Rm N R' B)(h:∀q,wq q R'=wq q R):wt (kp N R' B)=wt (kp N R B)/\wt R'=wt R:=by
 have all:∀L:Y c7,wq (λ_ _=>true) L=wt L:=λL=>by
  unfold wq;rw[List.filter_eq_self.mpr λ_ _=>Y2]
 have v:∀b∈B,look (hb N (kp N R B)) b.1≠look (hb N (kp N R B)) b.2.1:=λb a z=>by
  obtain⟨d,c⟩:=(g.bs b a).1;exact Fd g rm b a ((pX g d c).mp z)
 have f:∀b∈B,look (hb N (kp N R' B)) b.1≠look (hb N (kp N R' B)) b.2.1:=λb a z=>by
  obtain⟨d,c⟩:=(g.bs b a).1;exact Fd g' e b a ((pX g' d c).mp z)
 have o1:=DK g' e _ v;have i:=DK g rm _ f;have e1:=Ul g rm;have e2:=Ul g' e;rw[N6]at o1 i e1 e2;rw[h]at o1 e2;have:=h λ_ _=>true;rw[all,all]at this;exact⟨by omega,this⟩
theorem PU(g:Gb N R B)(rm:Rm N R B):oR R (st N (hb N (kp N R B)))/\lV R (st N (hb N (kp N R B)))=kp N R B:=by
 have i:=X7 g;have sl:(st N (hb N (kp N R B))).length<=N.length:=by
  have:=xW (w:=st N (hb N (kp N R B))) λs hs=>Ke i hs;rw[(qZ i).length_eq]at this;exact this
 have G:=g.len;have F:=g.rl;have x:∀r∈R,(((st N (hb N (kp N R B))).map λq:AZ=>((decide (r.2.1∈q))&&(decide (r.2.2.1∈q)))).any id)=mY r (kp N R B):=λr n=>by
  obtain⟨o,j⟩:=g.rs r n;rw[Q2,jP,Iy g rm n,<-pX g o j,Q4];constructor
  ·rintro⟨b,C,e⟩;obtain⟨s,hs,rfl⟩:=List.mem_map.mp C;have e:(decide (r.2.1∈s)&&decide (r.2.2.1∈s))=true:=e;rw[ZT,Zl,Zl]at e;exact((Kd i _ _).mp ⟨s,hs,e.1,e.2⟩).2.2
  ·intro e;obtain⟨s,hs,h1,h2⟩:=(Kd i r.2.1 r.2.2.1).mpr ⟨o,j,e⟩;refine⟨_,List.mem_map.mpr ⟨s,hs,rfl⟩,?_⟩;show(decide (r.2.1∈s)&&decide (r.2.2.1∈s))=true;rw[ZH h1,ZH h2];rfl
 have E:∀(L:Y c7) (v:Y c7),(∀r∈L,r∈R)->v.length+L.length<=100->nU (λ(c:Y aC) (a:aC)=>(ig (st N (hb N (kp N R B))) c a)) (λ(c:Y aC) (a:aC)=>O (pA (st N (hb N (kp N R B))) c a)) L v/\L.foldl (λ(c:Y aC) (a:aC)=>(ig (st N (hb N (kp N R B))) c a)) v=v++L.filter λr=>mY r (kp N R B):=by
  intro L
  induction L with
  |nil=>intro v _ _;exact⟨trivial,by simp⟩
  |cons r L l=>
   intro v p u;rw[Z3]at u;have t:=x r (p r (zh ..));have e:ig (st N (hb N (kp N R B))) v r=if mY r (kp N R B)=true then v++[r]else v:=by
    unfold ig;dsimp only;rw[t]
   have d:pA (st N (hb N (kp N R B))) v r:=⟨by omega,λ_=>iu (by omega)⟩;have m:∀z∈L,z∈R:=λz A=>p z (zi _ A);cases f:mY r (kp N R B)with
   |true=>
    rw[f,zr rfl]at e;obtain⟨i1,i2⟩:=l (v++[r]) m (by rw[zw];show _+1+_<=_;omega);refine⟨⟨d,by dsimp only;rw[e];exact i1⟩,?_⟩;rw[qS,e,i2,JY (by exact f)];simp
   |false=>
    rw[f,zI (by decide)]at e;obtain⟨i1,i2⟩:=l v m (by omega);refine⟨⟨d,by dsimp only;rw[e];exact i1⟩,?_⟩;rw[qS,e,i2,ka (by rw[f];decide)]
 obtain⟨D,y⟩:=E R [] (λr h=>h) (by show 0+R.length<=100;omega);refine⟨D,?_⟩;show R.foldl _ []=_;rw[y,kM,<-yF g]
theorem ZJ{w:Y AZ}(h:w.Pairwise (λa b=>KN a b=true)):rJ w=w:=(Zo (.refl _) h).symm
theorem cw(g:Gb N R B)(e:N.Pairwise qy)(rm:Rm N R B):q8 (N,kp N R B,B) (st N (hb N (kp N R B)))/\mH (N,kp N R B,B) (st N (hb N (kp N R B)))=true:=by
 have a:=X7 g;have p:=Mb e a;have u:=g.rl;have bl:=g.bl;have x:=g.len;have v:(kp N R B).length<=R.length:=jv _ _;have d:=Kg g;obtain⟨q,l⟩:=NZ e g.nd g.len a d.1 (by omega);have t:cJ (st N (hb N (kp N R B))) (kp N R B)=kp N R B:=by
  rw[l];refine List.filter_eq_self.mpr λr j=>ZH ?_;obtain⟨m,o⟩:=d.1 r j;exact(pX g m o).mpr ⟨[r],j,_,Ka r,rfl⟩
 have b1:jF (st N (hb N (kp N R B))) B=[]:=by
  unfold jF;rw[kq];refine List.filter_eq_nil_iff.mpr λb c z=>?_;obtain⟨h,i⟩:=(g.bs b c).1;have z:=(NP p g.nd h i).mp (qi z);exact Fd g rm b c ((pX g h i).mp ((Kd a _ _).mp z).2.2)
 obtain⟨f,e1,h1⟩:=J9 g.nd g.l3 d.1;have f:jz N (kp N R B):=f;have e1:dU N (kp N R B)=hb N (kp N R B):=e1;obtain⟨d2,e2⟩:=G8 h1;have n:nP N (kp N R B)=st N (hb N (kp N R B)):=by
  show eY (dU N (kp N R B))=_;rw[e1];exact e2
 have sl:(st N (hb N (kp N R B))).length<=N.length:=by
  have:=xW (w:=st N (hb N (kp N R B))) λs hs=>Ke a hs;rw[(qZ a).length_eq]at this;exact this
 unfold q8 mH;dsimp only;rw[t,b1,n,ZJ (NV e a (g.lst DG)).st];refine⟨⟨q,⟨X8 p g.nd g.len,by omega,λb c=>⟨yG p g.nd (g.bs b c).1.1,yG p g.nd (g.bs b c).1.2⟩⟩,λ_=>⟨⟨f,?_⟩,by omega,λs hs=>?_⟩⟩,?_⟩
 ·rw[e1];exact d2
 ·have:=Ke a hs;cases s with
  |nil=>exact absurd Y2 this
  |cons _ _=>rfl
 ·rw[ZH rfl];rfl
theorem XE(nd:N.Nodup)(c:N.length<1000):st N (hb N [])=N.map λx=>[x]:=by
 have e:hb N []=cY N:=rfl;unfold st;rw[e,(Cq N nd c).2,List.filter_eq_self.mpr λx hx=>ZH (q9 nd hx)];refine QP λx hx=>?_;unfold pt;have:(N.filter λy=>decide (look (N.map λn=>(n,n)) y=look (N.map λn=>(n,n)) x))=N.filter λy=>decide (y=x):=kr λy b=>by rw[q9 nd b,q9 nd hx]
 rw[this];clear this e
 induction N with
 |nil=>cases hx
 |cons a N g=>
  obtain⟨d,f⟩:=List.nodup_cons.mp nd;by_cases h:a=x
  ·subst h;rw[JY (by simp),List.filter_eq_nil_iff (p:=λy=>decide (y=a)).mpr λy b z=>d ((qi z)▸b)]
  ·rw[ka (by simpa using h)];exact g f (by rw[Z3]at c;omega) ((List.mem_cons.mp hx).resolve_left λz=>h z.symm)
theorem YY(g:Gb N R B)(a0:0<N.length)(a1:N.length<=7)(a2:R.length<=9)(p:B.length<=4)(w:∀x∈N,uq x z7=true)(rm:Rm N R B)(xs:Y Int)(hx:xs.length=11):
  gC (N,R,B) (st N (hb N (kp N R B)),wt (kp N R B),wt R-wt (kp N R B)) xs/\eE (N,R,B) (st N (hb N (kp N R B)),wt (kp N R B),wt R-wt (kp N R B)) xs=true:=by
 obtain⟨X,bs⟩:=ZG xs hx;have d:∀i:Nat,i<11->In xs.length (i:Int):=λi hi=>xK (by omega);unfold gC eE;dsimp only;generalize fK xs=o at *
 obtain⟨Z,R2,B2⟩:=o;dsimp only at bs ⊢;have zl:=bs.len;have zp:=bs.pos;have z2:=bs.rl;have j:Rm Z R2 B2:=uM bs.g (by omega) (by omega);obtain⟨p1,p2⟩:=tD bs.g bs.so j;have u:In N.length (at' xs 5%(N.length:Int)):=uY (by omega) (Kt _);have y:In Z.length (at' xs 6%(Z.length:Int)):=uY (by omega) (Kt _);have v:=mZ u;have t:=mZ y;generalize at' N (at' xs 5%(N.length:Int))=a at *
 generalize at' Z (at' xs 6%(Z.length:Int))=z at *
 have m2:=iz (at' xs 7) (m:=2) (by decide);have m9:=iz (at' xs 7) (m:=9) (by decide);have W:∀b∈(List.replicate (at' xs 7%2).toNat [(a,z,(3:Int))]).flatten,b.1∈N/\b.2.1∈Z:=λb J=>by
  obtain⟨l,E,n⟩:=List.mem_flatten.mp J;rw[(List.mem_replicate.mp E).2]at n;cases List.mem_singleton.mp n;exact⟨v,t⟩
 have U:(List.replicate (at' xs 7%2).toNat [(a,z,(3:Int))]).flatten.length<=1:=by
  have:(at' xs 7%2).toNat=0\/(at' xs 7%2).toNat=1:=by omega
  rcases this with h|h
  ·rw[h];show 0<=1;decide
  ·rw[h];show 1<=1;decide
 obtain⟨t1,t2,t3⟩:=Fg (M:=[]) g a1 a2 p w bs (λr h=>by cases h) Qb (by decide) W U;generalize (List.replicate (at' xs 7%2).toNat [(a,z,(3:Int))]).flatten=bb at *
 have q:=t3.rm (by omega) (by omega) (by omega) (by omega);obtain⟨q1,q2⟩:=tD t3.g t2 q;obtain⟨k1,H⟩:=t3.kept rm j q;have D:=t3.wt;rw[Kc]at H D;obtain⟨I,G,c⟩:=Fg (M:=[(1+at' xs 7%9,a,z,(9:Int))]) (bb:=[]) g a1 a2 p w bs (λr h=>by
  cases List.mem_singleton.mp h;exact⟨⟨v,t⟩,show(1:Int)<=1+at' xs 7%9 by omega,show(1:Int)+at' xs 7%9<=1000000 by omega⟩) (List.nodup_cons.mpr ⟨λz=>(by cases z),Qb⟩) (zk 1) (λb h=>by cases h) (by decide)
 rw[p2];have tq:bG (aU (N,R,B) (Z,R2,B2) [] bb)=_:=q2;rw[tq];dsimp only;have Q:(wt (kp (aU (N,R,B) (Z,R2,B2) [] bb).1 (aU (N,R,B) (Z,R2,B2) [] bb).2.1 (aU (N,R,B) (Z,R2,B2) [] bb).2.2),wt (aU (N,R,B) (Z,R2,B2) [] bb).2.1-wt (kp (aU (N,R,B) (Z,R2,B2) [] bb).1 (aU (N,R,B) (Z,R2,B2) [] bb).2.1 (aU (N,R,B) (Z,R2,B2) [] bb).2.2))=(wt (kp N R B)+wt (kp Z R2 B2),(wt R-wt (kp N R B))+(wt R2-wt (kp Z R2 B2))):=by
  have e1:wt (kp (aU (N,R,B) (Z,R2,B2) [] bb).1 (aU (N,R,B) (Z,R2,B2) [] bb).2.1 (aU (N,R,B) (Z,R2,B2) [] bb).2.2)=wt (kp N R B)+wt (kp Z R2 B2):=by omega
  rw[e1,D];exact y0 Y2 (show _=_ by omega)
 rw[Q,ZH rfl];have A:decide ((8:Int)<(N.length:Int)+(Z.length:Int))=false->dO (aU (N,R,B) (Z,R2,B2) [(1+at' xs 7%9,a,z,(9:Int))] [])/\wt (kp N R B)+wt (kp Z R2 B2)<=(bG (aU (N,R,B) (Z,R2,B2) [(1+at' xs 7%9,a,z,(9:Int))] [])).2.1/\(bG (aU (N,R,B) (Z,R2,B2) [(1+at' xs 7%9,a,z,(9:Int))] [])).2.1<=wt (kp N R B)+wt (kp Z R2 B2)+(1+at' xs 7%9):=λh=>by
  have h:=of_decide_eq_false h;have P:=c.pN.length_eq;have f:=c.pR.length_eq;rw[zw]at P;rw[zw,zw]at f;have f:_=R.length+R2.length+1:=f;have C:Rm _ _ _:=uM c.g (by omega) (by omega);obtain⟨K,F⟩:=tD c.g G C;obtain⟨L,s⟩:=c.kept rm j C;have e:bG (aU (N,R,B) (Z,R2,B2) [(1+at' xs 7%9,a,z,(9:Int))] [])=_:=F;have e1:wt [(1+at' xs 7%9,a,z,(9:Int))]=1+at' xs 7%9:=by rw[fL,Kc];show(1:Int)+at' xs 7%9+0=_;omega
  rw[e1]at s;rw[e];exact⟨K,L,s⟩
 refine⟨⟨X,p1,⟨⟨d 5 (by decide),by omega⟩,u⟩,⟨⟨d 6 (by decide),by omega⟩,y⟩,⟨d 7 (by decide),by omega,rfl⟩,⟨t1,q1⟩,λ_=>⟨d 7 (by decide),λh=>⟨I,(A h).1⟩⟩⟩,?_⟩;rw[zI (by decide)];cases h:decide ((8:Int)<(N.length:Int)+(Z.length:Int))with
 |true=>rfl
 |false=>
  obtain⟨-,s1,s2⟩:=A h;rw[zI (by decide),ZH s1,ZH s2];rfl
theorem OS(a:Y Int)(_:a.length<=63):Ud a/\Uc a=true:=by
 obtain⟨I,j,n3⟩:=J7 (bh a 0) 20 (by decide) (by decide);have j:(bf (bh a 0) 20).length=20:=j;have c1:(BN (bf (bh a 0) 20) (O 9) Y3).length=11:=by
  rw[show BN (bf (bh a 0) 20) (O 9) Y3=_ from SD (k:=9) (by omega),kD,j]
 unfold Ud Uc;dsimp only;generalize bf (bh a 0) 20=xs at *
 have f:∀i:Nat,i<20->In xs.length (i:Int):=λi hi=>xK (by omega);have m1:=iz (at' xs 6) (m:=6) (by decide);have m2:=iz (at' xs 7) (m:=10) (by decide);have m3:=iz (at' xs 8) (m:=5) (by decide);obtain⟨gd,s,D⟩:nG a 0 (2+at' xs 6%6) (at' xs 7%10) (at' xs 8%5)/\Gr (fJ a 0 (2+at' xs 6%6) (at' xs 7%10) (at' xs 8%5))/\2<=(fJ a 0 (2+at' xs 6%6) (at' xs 7%10) (at' xs 8%5)).1.length:=by
  obtain⟨h1,h2⟩:=ZF a 0 (2+at' xs 6%6) (at' xs 7%10) (at' xs 8%5) (by decide) (by decide) (by omega) (by omega) m2.1 (by omega) m3.1 (by omega);have h3:=Wr a 0 (2+at' xs 6%6) (at' xs 7%10) (at' xs 8%5) (by omega) (by omega);exact⟨h1,h2,by omega⟩
 generalize fJ a 0 (2+at' xs 6%6) (at' xs 7%10) (at' xs 8%5)=gr at *
 obtain⟨N,R,B⟩:=gr;have len:N.length<=7:=s.len;have F:R.length<=9:=s.rl;have bl:B.length<=4:=s.bl;have d:N.Pairwise qy:=s.so;have D:2<=N.length:=D;have g:Gb N R B:=⟨s.nd,by omega,s.rs,λr c=>N7 (s.va r c).2.1,s.rd,by omega,λr c=>⟨(s.va r c).1.1,by have:=(s.va r c).1.2;omega⟩,λb e=>⟨(s.bs b e).1,N7 (s.bs b e).2⟩,by omega⟩;have rm:Rm N R B:=uM g (by omega) (by omega);obtain⟨b1,b2⟩:=tD g d rm;obtain⟨s1,s2⟩:=YY g (by omega) len F bl s.zz rm _ c1;obtain⟨l,K⟩:=PU g rm;have kl:(kp N R B).length<=R.length:=jv _ _;have n:Gb N (kp N R B) B:=⟨g.nd,g.len,(Kg g).1,(Kg g).2,g.rd.filter _,by omega,λr c=>g.va r (DG r c),g.bs,g.bl⟩;have t:Rm N (kp N R B) B:=uM n (by omega) (by omega);have kk:kp N (kp N R B) B=kp N R B:=LW n t (look (hb N (kp N R B))) (λb e z=>by
  obtain⟨J,Q⟩:=(g.bs b e).1;exact Fd g rm b e ((pX g J Q).mp z)) λr c=>by
  obtain⟨W,G⟩:=(Kg g).1 r c;exact(pX g W G).mpr ⟨[r],c,_,Ka r,rfl⟩
 obtain⟨y,c2⟩:=tD n d t;rw[kk]at c2;obtain⟨x,d2⟩:=cw g d rm;have o:Gb N R []:=⟨g.nd,g.len,g.rs,g.ne,g.rd,g.rl,g.va,λb h=>(by cases h),by decide⟩;have H:kp N R []=R:=LW o Yc (λ_=>()) (λb h=>(by cases h)) λ_ _=>Y2;obtain⟨e1,e2⟩:=tD o d Yc;rw[H]at e2;obtain⟨a0,C,X⟩:=J9 g.nd g.l3 g.rs;obtain⟨U,L⟩:=G8 X;have M:gA (N,R,B)=st N (hb N R):=by
  show eY (jx N R)=_;rw[C];exact L
 have u:lU (N,R,B):=by
  refine⟨a0,?_⟩;show jy (jx N R);rw[C];exact U
 have p:Gb N [] B:=⟨g.nd,g.len,λr h=>(by cases h),λr h=>(by cases h),Qb,by decide,λr h=>(by cases h),g.bs,g.bl⟩;obtain⟨f1,f2⟩:=tD p d (uM p (by omega) (by decide));have Z:kp N [] B=[]:=rfl;rw[Z,XE g.nd g.l3]at f2;dsimp only;rw[b2,s2];dsimp only;rw[K,c2,d2,e2,M,f2];have P:wt ([]:Y c7)=0:=rfl;rw[P];have z1:wt (kp N R B)-wt (kp N R B)=0:=by omega
 have z2:wt R-wt R=0:=by omega
 have z3:wt R=wt (kp N R B)+(wt R-wt (kp N R B)):=by omega
 rw[z1,z2,<-z3];have a1:((!decide ((st N (hb N (kp N R B)),wt (kp N R B),(0:Int))=(st N (hb N (kp N R B)),wt (kp N R B),(0:Int))))=false):=by rw[ZH rfl];rfl
 have DT:(oR R (st N (hb N (kp N R B))))/\True:=⟨l,trivial⟩;have iv:∀h:R.length<=6,kY R (at' xs 17)/\dO (N,dF R (at' xs 17),B)/\((bG (N,dF R (at' xs 17),B)).2.1,(bG (N,dF R (at' xs 17),B)).2.2)=(wt (kp N R B),wt R-wt (kp N R B)):=λh=>by
  obtain⟨t1,t2,t3,E⟩:=WV g h (at' xs 17);have v:Rm N (dF R (at' xs 17)) B:=uM t2 (by omega) t3;obtain⟨x1,x2⟩:=tD t2 d v;obtain⟨y1,y2⟩:=ip g rm t2 v E;refine⟨t1,x1,?_⟩;rw[x2];show(_,_)=(_,_);rw[y1,y2]
 refine⟨⟨⟨QD _ _ (by decide) (by decide),I⟩,⟨⟨f 6 (by decide),f 7 (by decide),f 8 (by decide)⟩,gd⟩,b1,s1,λ_=>⟨λh=>?_,λh=>?_⟩⟩,?_⟩
 ·have h:(R.length:Int)<=6:=qi h;obtain⟨w,A,q⟩:=iv (by omega);exact⟨⟨f 17 (by decide),w⟩,A,λ_=>⟨l,y,λ_=>⟨x,λ_=>⟨e1,u,λ_=>⟨f1,by omega⟩⟩⟩⟩⟩
 ·exact⟨l,y,λ_=>⟨x,λ_=>⟨e1,u,λ_=>⟨f1,by omega⟩⟩⟩⟩
 ·by_cases h:(R.length:Int)<=6
  ·obtain⟨w,A,q⟩:=iv (by omega);rw[q,ZH h];simp
  ·rw[ZN h];simp
theorem H1:∀a:Y Int,a.length<=63->F_law [.z (.lst (a.map .int))]=O (.z (.bl true)):=(OK OS).1
theorem H2:∀a:Y Int,a.length<=63->F_law [.l (a.map .int)]=O (.z (.bl true)):=(OK OS).2
end G34
end
open PySem PySem.W PyProof.Rows
namespace PySem.W.Fast
def tw11430849144456997338:=0
def tw5866106199781032888:=0
def tw16874587542006881106:=0
def tw14278975640995119916:=0
def tw15565277552430417010:=0
def tw14321523781541537921:=0
def tw17259332096741201243:=0
def tw11324993868178624499:=0
def tw17598106054669673569:=0
def tw7316549479969274341:=0
def tw17654292453420852061:=0
def tw7437775488463763176:=0
def tw12048407812453379361:=0
def tw524924775655877030:=0
def tw4592012945564626212:=0
def tw2452437542242906754:=0
def tw15120169427845054108:=0
def tw8308709333599168021:=0
def tw10966507072510210849:=0
def tw14735667393376573591:=0
def tw6586530548376349489:=0
def tw2313750670073064296:=0
def tw5488218706010493262:=0
def tw7195780135023106738:=0
def tw15405198180035157371:=0
def tw9159863463113657909:=0
def tw15175238084189528500:=0
def tw2655233108175267432:=0
def tw17318650947137683283:=0
def tw12652410994755364036:=0
def tw16060612432443658102:=0
def tw9741835256077155449:=0
def tw9202561652688773920:=0
def tw6867969491345347916:=0
def tw9171129319146830909:=0
def tw5333294589047704245:=0
def tw10660933834205617830:=0
def tw338988592633246881:=0
def tw6103168583932858540:=0
def tw15863099147916267540:=0
def tw16547152086284360607:=0
def tw11746993558409599534:=0
def tw13593605362901843858:=0
def tw9820070400486349194:=0
def tw11102805386096818067:=0
def tw14495361455831805164:=0
def tw10893653213548326011:=0
def tw17558852360696336925:=0
def tw11672175343258610375:=0
def tw9830709518435636945:=0
def tw3161953825639743747:=0
def tw9952922728811248570:=0
def tw10962091518608023165:=0
def tw4067332617682557531:=0
def tw10872915499294812070:=0
def tw3024589755288404233:=0
def tw10643730385160683244:=0
def tw18351775550837290526:=0
def tw4237378753586722355:=0
def tw13716289042816700712:=0
def tw10012804950029846411:=0
def tw7523862920273039494:=0
def tw17147312123490797988:=0
def tw6943232760275722857:=0
def tw176626832023220454:=0
def tw14195623404494072821:=0
def tw16355203468303620738:=0
def tw17997861198481292014:=0
def tw6521121650688384873:=0
def tw2073603212129011736:=0
def tw4472844430908032397:=0
def tw9047071186108437855:=0
def tw11549281808530310645:=0
def tw11675802000933704347:=0
def tw15993829721523373899:=0
def tw17927030280366647960:=0
def tw8823766331907399380:=0
def tw14418356137625790699:=0
def tw1436891470856299222:=0
def tw8453721975798693652:=0
def tw8282539307463600214:=0
def tw16914659342095453745:=0
def tw13654011709969890456:=0
def tw2697945824217509554:=0
def tw13715154350587046649:=0
def tw15970306188605267752:=0
def tw2588716962423743746:=0
def tw4159627081490364742:=0
def tw14057136962330559862:=0
def tw9274028331617993035:=0
def tw7987929706759241326:=0
def tw8570906425019690757:=0
def tw637703450490272228:=0
def tw17803280604421211543:=0
def tw10199788146395144743:=0
def tw8066798136100664600:=0
def tw16468632026158144438:=0
def tw7986957422634554372:=0
def tw11231267953593798759:=0
def tw8066621437937096709:=0
def tw6942264302635863788:=0
def tw12192382736257628153:=0
def tw13214473181519652150:=0
def tw15308225086588819802:=0
def tw15741433170104940601:=0
def tw13080518868238400917:=0
def tw9147982110006836564:=0
def tw10031938668022872024:=0
def tw18188037695946976115:=0
def tw5492767673559751624:=0
def tw18152993173355179612:=0
def tw10756623610039419528:=0
def tw6386521256297562830:=0
def tw10943984395475906843:=0
def tw12182653550659470362:=0
def tw4779488327495115730:=0
def tw7178284345363907261:=0
def tw2357417600383961523:=0
def tw3087409707822610795:=0
def tw11711417550066693607:=0
def tw6625083983710605472:=0
def tw7003133548494770015:=0
def tw7695266179609146904:=0
def tw8743234561709881462:=0
def tw17879886413785004871:=0
def tw16542547285589692592:=0
def tw17359841845207070927:=0
def tw18133605032751687326:=0
def tw13941110709725034589:=0
def tw5221891942127701388:=0
def tw3993509540254026638:=0
def tw6095253726991050482:=0
def tw5802710081112113759:=0
def tw5245416662063966552:=0
def tw16164611768854172878:=0
def tw13714141620243848324:=0
def tw16601427400421692271:=0
def tw12681713176132281094:=0
def tw6690291111810086317:=0
def tw7443794125296486073:=0
def tw5209609824248181037:=0
def tw18392400583088698111:=0
def tw16863137770845378526:=0
def tw17257336413120749198:=0
def tw10866778713357953802:=0
def tw2734567194940519599:=0
def tw7951120546075114027:=0
def tw1193329724502169243:=0
def tw9211381159771653392:=0
def tw2436075773235003946:=0
def tw11856157066145177875:=0
def tw6936194499282316394:=0
def tw15559699368964055786:=0
def tw8084667617859169274:=0
def tw7499755803608093971:=0
def tw18262733596366696563:=0
def tw1800318138857894201:=0
def tw4134362422467232562:=0
def tw1905520423131246401:=0
def tw12955959855884131058:=0
def tw803381924062499404:=0
def tw1472403228937861085:=0
def tw6551484494759851730:=0
def tw1456690423772931348:=0
def tw13542655227325554014:=0
def tw14462318562137196862:=0
def tw17575868985783731888:=0
def tw13413991731227182072:=0
def tw13092829672989679626:=0
def tw2662792494300077523:=0
def tw15295492165292734856:=0
def tw920476476506203488:=0
def tw1066350257761040638:=0
def tw11655622300356236591:=0
def tw4240848862114691847:=0
def tw1320572306963703527:=0
def tw2951752170827931010:=0
def tw12408346669944657789:=0
def tw13113002035335893978:=0
def tw2280983676645330842:=0
def tw9355702653889366511:=0
def tw13495823820420474398:=0
def tw8654764507774480174:=0
def tw3355166268134249523:=0
def tw7387324044147294275:=0
def tw9948006695792870991:=0
def tw13814307693124631299:=0
def tw17124679656229717971:=0
def tw17708666643560110617:=0
def tw15375475721434635453:=0
end PySem.W.Fast
set_option maxRecDepth 100000 in
set_option maxHeartbeats 0 in
theorem PySem.Challenge.cw_onefolk_k34_whole_best_side_by_side_holds : PySem.Challenge.rw_onefolk_k34_whole_best_side_by_side.Holds := by
 w_on;refine PySem.W.holds_law (by decide +kernel) λsaid=>?_
 k_head;(case hw=>w_witness2)
 k_fill
 refine P1.FI (l:=PySem.Challenge.rw_onefolk_k34_whole_best_side_by_side) (T:=G34.T) (k:=41) (x := "_law_script") (st:=G34.s_law) (F_law:=G34.F_law) (λt=>t.x_law) ⟨rfl,by decide,by decide⟩ rfl (λw mg base t=>G34.EB t) rfl rfl G34.H1 G34.H2 (λ_ _ _ _ _ _ _=>rfl) (λw h Y=>PySem.W.kIn_of Y) ?F
 case F=>
  intro w mg h KX G
  refine' ⟨P1.lC KX G _ _ _ _,P1.lC KX G _ _ _ _,P1.lC KX G _ _ _ _,P1.lC KX G _ _ _ _,P1.lC KX G _ _ _ _,P1.lC KX G _ _ _ _,P1.lC KX G _ _ _ _,P1.lC KX G _ _ _ _,P1.lC KX G _ _ _ _,P1.lC KX G _ _ _ _,P1.lC KX G _ _ _ _,P1.lC KX G _ _ _ _,P1.lC KX G _ _ _ _,P1.lC KX G _ _ _ _,P1.lC KX G _ _ _ _,P1.lC KX G _ _ _ _,P1.lC KX G _ _ _ _,P1.lC KX G _ _ _ _,P1.lC KX G _ _ _ _,P1.lC KX G _ _ _ _,P1.lC KX G _ _ _ _,P1.lC KX G _ _ _ _,P1.lC KX G _ _ _ _,P1.lC KX G _ _ _ _,P1.lC KX G _ _ _ _,P1.lC KX G _ _ _ _,P1.lC KX G _ _ _ _,P1.lC KX G _ _ _ _,P1.lC KX G _ _ _ _,P1.lC KX G _ _ _ _,P1.lC KX G _ _ _ _,P1.lC KX G _ _ _ _,Qr KX G _,Qr KX G _,Qr KX G _,Qr KX G _,Qr KX G _,Qr KX G _,Qr KX G _,Qr KX G _,Qr KX G _,Qr KX G _,Qr KX G _,Qr KX G _,Qr KX G _,P1.LG KX G _,P1.LG KX G _⟩
  all_goals try (show _=_;k_is)
  all_goals try kernel_rfl
