import PyProof.Rows.All
import Wide.All
import OpenK.AllK
import Wide.FinOn
import PyProof.EqAt
import PyProof.EqKinds
import PyProof.TupleCall
import PyProof.StrLoop
import PyProof.StrWalks
import PyProof.CompFree
import PyProof.NeKinds
import PyProof.Rows.RuleN_isinstance
import PyProof.ConsumeWalk
import PyProof.IsiPairs
import PyProof.IsiSeqPairs
import PyProof.IsiHeapPairs
import PyProof.IsiNone
import PyProof.PureStr
import PyProof.StrCalls
import PyProof.Rows.SortStr
import PyProof.Rows.StrJoin2
import PyProof.CallStr
import PyProof.WalkInts
import PyProof.Rows.StrDigits
import PyProof.DictWalks
import PyProof.DictTruth
import PyProof.CollectWalk
import PyProof.WalkLemmas
import PyProof.Rows.SortShellK
import PyProof.Rows.SortWalk
import PyProof.SetKind
import PyProof.FactsAll.set
import PyProof.Rows.SetFrom
import PyProof.TupleKey
import PyProof.IsRules
import PyProof.WalksMore
import PyProof.SetRoads
import PyProof.DictCompW
import PyProof.ListRange
import PyProof.FString5
import PyProof.MeetsSeq2
import PyProof.FactsAll.tuple_0
import PyProof.FactsAll.tuple_2
import PyProof.FactsAll.tuple_3
import PyProof.EnumFor
import PyProof.EnumMake
import PyProof.EnumStmt
import PyProof.Rows.EnumRows
import PyProof.SumWalk
import PyProof.Rows.SeqCalls
import KE.KRevSl
import PyProof.ZipIter
import PyProof.TupleIter
import PyProof.AttrMiss
import KE.KDictOf
import KE.KDictLaws
import PyProof.TupleOfStr
import PyProof.StrCalls2
import PyProof.Rows.StrNews2
import PyProof.Rows.StrItems
import PyProof.Rows.StrSplitAre
import PyProof.Rows.StrGen4
import PyProof.Rows.RegStrFacts
import PyProof.Rows.FStr
import PyProof.SetNew
import PyProof.Rows.SetObj
import PyProof.Seq
import PyProof.Rows.SortShell
import PyProof.FactsAll.list_3
import KE.KIntText
import PyProof.StrCalls6
import PyProof.FitsReplace
import PyProof.ToksMono
import PyProof.FactsAll.str_4
import PyProof.StrBlock
import PyProof.RangeIter
import PyProof.CodeObj
import PyProof.Rows.CallKwBuiltin
import PyProof.ListMulRoad
import PyProof.StrLawsTight
import PyProof.Rows.StrPartPair
import PyProof.Rows.CatFin
import PyProof.Rows.StrClose
import PyProof.Rows.StrNext
import PyProof.Rows.StrBetween
import Lean
import PySem.Challenge.RW_onefolk_k28_whole_fates_say_why
open Option renaming some->Z,none->O
abbrev Y:=List
abbrev S:=Option
theorem Y3{α:Sort u}{a:α}:a=a:=rfl
open PySem renaming Value->A0,Addr->A1,Shared->A2,Program->A3,World->A4,Around->A5,Heap->A6,wpAny->A7,model->A8,starEach->A9,sizeLine->AA,Stmt->AB,Keyword->AC,backTo->AD,Obj->AE,codeAny->AF,compareOp->AG,bootBuiltins->AH,Paired->AI,Str->AJ
open PyProof.Rows renaming envOfC->AK,wpS_bind->AL,arrOf->AM
open PySem.W (instObj methodObj keepIn cellsFrom_some fnOf codeIn nsIn mg_of)
set_option maxRecDepth 100000
set_option maxHeartbeats 4000000
set_option linter.all false
set_option Elab.async false
open PySem PySem.Spec PyProof.Rows
variable{w:A4}{i:Nat}{t:SetTable}{x:AJ}{a:A1}{prog:A3}{us:Y A0}{u:A0}{κ:Type}{h:A6}{items:Array A0}{P:A3}{α β:Type}{e:Expr}{n:Nat}{mg:AJ->S A0}{base:A6}{l:PySem.W.OpenLaw}{env:Env}{m:Y (AJ×AJ)}{AN:Y (A1×AE)}{s:A2}{it:A1}{j:Nat}{M:Model}{A:A5}{Q:S A0->A2->Prop}{hi:S Int}{D:A1}{es:Y Expr}{pos:Pos}{y:AJ}{c tg:Expr}{body:Y AB}{fp:Y A1}{iter:Expr}{lo:S Int}{pl:Y Nat}{C:A1}{op:CmpOp}{AQ:Y A0}{name:AJ}{tpos:Pos}{fd:FuncData}{apos:Pos}{qual:AJ}{scope:Scope}{osl:Array (S A0)}{p2 cpos:Pos}{XP:(AJ->S A0)->A6->Prop}{YP:A4->A6->Prop}{cl:Y (AJ×A1)}{is:Y Nat}{ifs:Y Expr}{elt tgt:Expr}{el:A1->Env->Sem Unit}{RR:A0->A1->Result->A2->Prop}{ep mask:Nat}{owner:Array (S Nat)}{elts:Y Expr}{x1:Nat}{γ δ:Type}{os:OsState}{bmB:Y A0}{newId initId:String}{a_:A1}
abbrev AZ:=Y PySem.Str
abbrev BB:=PySem.Value->PySem.Shared->Prop
abbrev B0:=PySem.W.Frag
abbrev B9:=Y Int
abbrev zb:=@wpAny_bind
abbrev zd:=@Heap.get?_push_of_some
abbrev ze:=@wpAny_pure
abbrev zg:=@List.mem_append_left
abbrev zh:=@List.mem_cons_self
abbrev zi:=@List.mem_cons_of_mem
abbrev zk:=@Nat.le_refl
abbrev zl:=@Bool.false_eq_true
abbrev zo:=@if_pos
abbrev zr:=@List.length_map
abbrev zt:=@List.map_cons
abbrev zv:=@Heap.get?_push_size
abbrev zw:=@if_neg
abbrev zz:=@Heap.lt_size
abbrev zC:=@List.size_toArray
abbrev zD:=@List.length_append
abbrev zI:=@Nat.ne_of_lt
abbrev zS:=@Nat.le_of_ble_eq_true
abbrev z4:=@decide_eq_true
abbrev z5:=@List.getElem?_eq_getElem
abbrev Zl:=@List.getElem?_map
abbrev Zp:=@decide_eq_false
abbrev Zs:=@List.mem_append_right
abbrev ZA:=@Bool.false_ne_true
abbrev ZE:=@Nat.le_trans
abbrev ZH:=@Bool.and_eq_true
abbrev ZI:=@if_false
abbrev ZN:=@List.length_cons
abbrev ZO:=@List.append_nil
abbrev ZT:=@List.getElem?_append_left
abbrev ZU:=@Nat.lt_of_lt_of_le
abbrev ZY:=@decide_eq_true_eq
abbrev ZZ:=@List.getElem?_cons_succ
abbrev Z3:=@Array.getElem?_eq_getElem
abbrev qa:=@List.append_assoc
abbrev qc:=@Nat.lt_succ_self
abbrev qf:=@PySem.W.mg_none_of
abbrev qh:=@List.map_append
abbrev qi:=@List.foldl_cons
abbrev qk:=@Array.length_toList
abbrev qo:=@List.all_eq_true
abbrev qq:=@Heap.size_push
abbrev qr:=@List.replicate_succ
abbrev qv:=@List.getElem?_append_right
abbrev qA:=@if_true
abbrev qB:=@Array.getElem?_toList
abbrev qS:=@wpAny_newObj_type
abbrev qV:=@Nat.lt_succ_of_lt
abbrev Qb:=@List.getElem?_eq_none
abbrev Qr:=@List.mem_of_getElem?
abbrev QA:=@wpAny_mono
abbrev QE:=@List.map_map
abbrev QI:=@of_decide_eq_true
abbrev QN:=@List.getElem?_replicate
abbrev QO:=@Nat.zero_le
abbrev QP:=@wpAny_holding
abbrev QQ:=@wpAny_typeOf
abbrev QR:=@List.map_congr_left
abbrev QU:=@wpAny_setState_of
abbrev QY:=@List.mem_cons
abbrev Q1:=@Option.some.inj
abbrev Q2:=@decide_eq_false_iff_not
abbrev Q3:=@Or.inr
abbrev Q4:=@wpAny_truthy_bool
abbrev ja:=@List.find?_cons_of_pos
abbrev jv:=@List.getElem_of_mem
abbrev jI:=@List.not_mem_nil
abbrev jS:=@Nat.le_of_lt
abbrev j0:=@List.flatten_cons
abbrev j3:=@Bool.not_eq_true'
abbrev Jn:=@List.nil_append
abbrev JA:=@Heap.get?_update_ne
abbrev JE:=@Nat.lt_irrefl
abbrev JI:=@List.nodup_nil
abbrev JJ:=@List.rel_of_pairwise_cons
abbrev JO:=@List.mem_of_find?_eq_some
abbrev JP:=@codeAny_builtin
abbrev JS:=@List.map_nil
abbrev JU:=@Or.inl
abbrev JY:=@List.any_cons
abbrev ka:=@PySem.mem_of_lookup
abbrev kb:=@wpAny_isInstance
abbrev kc:=@wpAny_call_entry
abbrev ke:=@List.length_take
abbrev kf:=@List.any_eq_true
abbrev kg:=@List.find?_cons_of_neg
abbrev ki:=@wpAny_passesOwn
abbrev km:=@Nat.not_lt_zero
abbrev ko:=@List.length_set
abbrev kq:=@List.find?_cons
abbrev ku:=@List.cons.injEq
abbrev ky:=@Bool.eq_iff_iff
abbrev kz:=@List.all_cons
abbrev kA:=@Bool.not_true
abbrev kB:=@List.lookup_cons_self
abbrev kC:=@List.reverse_cons
abbrev kD:=@Bool.not_false
abbrev kF:=@List.filter_cons
abbrev kK:=@List.filterMap_cons
abbrev kL:=@wpAny_comprehension_free
abbrev kM:=@List.append_of_mem
abbrev kN:=@wpAny_getItem_str_slice
abbrev kP:=@List.filter_cons_of_pos
abbrev kQ:=@decide_false
abbrev kR:=@Bool.false_and
abbrev kT:=@List.length_range
abbrev kU:=@List.foldl_append
abbrev kX:=@Array.size_append
abbrev k4:=@List.length_pos_of_mem
abbrev k5:=@Array.getElem?_eq_none
abbrev k6:=@Heap.get?_update_self
abbrev k7:=@wpAny_rule
abbrev k8:=@List.length_drop
abbrev k9:=@Bool.and_true
abbrev Kb:=@Nat.le_succ
abbrev Ki:=@List.map_id
abbrev Kj:=@Bool.or_eq_true
abbrev Kk:=@Nat.zero_add
abbrev Kn:=@Nat.ne_of_gt
abbrev Kt:=@wpAny_load
abbrev Kx:=@List.mem_range
abbrev KA:=@Bool.and_false
abbrev KB:=@Option.isSome_some
abbrev KF:=@Obj.data_mapFields
abbrev KG:=@Ne.symm
abbrev KI:=@decide_true
abbrev KL:=@wpAny_pyIter_list
abbrev KM:=@List.pairwise_map
abbrev KO:=@List.nodup_append
abbrev KP:=@List.getElem?_set
abbrev KS:=@Int.toNat_natCast
abbrev KU:=@wpAny_standAt
abbrev KW:=@Bool.true_and
abbrev K0:=@PySem.F.args_tuple_add_2
abbrev K2:=@List.Pairwise.imp_of_mem
abbrev ya:=@List.nodup_range
abbrev yb:=@List.getElem_mem
abbrev ye:=@wpAny_callSpecial?_slot
abbrev yf:=@PySem.F.entry_tuple_add
abbrev yi:=@List.pairwise_mergeSort
abbrev yk:=@List.filter_cons_of_neg
abbrev ym:=@F.plain_set_update_loop
variable{K:B0}{N:AZ}{E:BB}{ts ps n_:AZ}
namespace L2
abbrev AY:=Sum Int AJ
def kh:AY->A0->Bool
 |.inl k,v=>Value.isInt k v
 |.inr x,v=>Value.isStrOf x v
def a7(w:A4):AY->Int
 |.inl k=>hashInt k
 |.inr x=>hashStr w x
theorem bM:∀{k:AY} {v:A0},kh k v=true->(∃i t,k=Sum.inl i/\v=Value.int i t)\/(∃x t,k=Sum.inr x/\v=Value.str x t)
 |.inl i,v,h=>by
  obtain⟨t,e⟩:=Value.isInt_shape (k:=i) (v:=v) h;exact .inl ⟨i,t,rfl,e⟩
 |.inr x,v,h=>by
  obtain⟨t,e⟩:=Value.isStrOf_shape (x:=x) (v:=v) h;exact .inr ⟨x,t,rfl,e⟩
theorem Vt(i:Int)(t:Tok):kh (.inl i) (.int i t)=true:=by simp[kh,Value.isInt]
theorem Vu(x:AJ)(t:Tok):kh (.inr x) (.str x t)=true:=by simp[kh,Value.isStrOf]
theorem ag(a b:Int):decide ((Sum.inl a:AY)=Sum.inl b)=(a==b):=by
 by_cases e:a=b
 ·subst e;simp
 ·have h:¬ (Sum.inl a:AY)=Sum.inl b:=λq=>e (Sum.inl.inj q);rw[Zp h];exact(beq_eq_false_iff_ne.mpr e).symm
theorem W1(a b:AJ):decide ((Sum.inr a:AY)=Sum.inr b)=decide (a=b):=by
 by_cases e:a=b
 ·subst e;simp
 ·have h:¬ (Sum.inr a:AY)=Sum.inr b:=λq=>e (Sum.inr.inj q);rw[Zp h,Zp e]
theorem UX(a:Int)(b:AJ):decide ((Sum.inl a:AY)=Sum.inr b)=false:=Zp (λq=>nomatch q)
theorem SK(a:AJ)(b:Int):decide ((Sum.inr a:AY)=Sum.inl b)=false:=Zp (λq=>nomatch q)
def bx(prog:A3)(w:A4):PySem.KeyKind prog w AY where
 is:=kh
 hash:=a7 w
 inj:=λv a b f hb=>by
  rcases bM f with⟨i,t,rfl,rfl⟩|⟨x,t,rfl,rfl⟩
  ·rcases bM hb with⟨j,u,rfl,e⟩|⟨y,u,rfl,e⟩
   ·injection e with e1 _;rw[e1]
   ·exact nomatch e
  ·rcases bM hb with⟨j,u,rfl,e⟩|⟨y,u,rfl,e⟩
   ·exact nomatch e
   ·injection e with e1 _;rw[e1]
 byValue:=λk v h=>by
  rcases bM h with⟨i,t,rfl,rfl⟩|⟨x,t,rfl,rfl⟩<;>rfl
 pyHash:=λc h=>by
  rcases bM c with⟨i,t,rfl,rfl⟩|⟨x,t,rfl,rfl⟩
  ·exact wpAny_pyHash_int h
  ·exact wpAny_pyHash_str h
 eqBool:=λd c h=>by
  rcases bM d with⟨i,t,rfl,rfl⟩|⟨x,t,rfl,rfl⟩
  ·rcases bM c with⟨j,u,rfl,rfl⟩|⟨y,u,rfl,rfl⟩
   ·rw[ag]at h;exact wpAny_eqBool_int h
   ·rw[UX]at h;exact SeqAt.EqAt.int_str i t y u _ _ _ _ h
  ·rcases bM c with⟨j,u,rfl,rfl⟩|⟨y,u,rfl,rfl⟩
   ·rw[SK]at h;exact SeqAt.EqAt.str_int x t j u _ _ _ _ h
   ·rw[W1]at h;exact wpAny_eqBool_str h
 «strs»:=λk x t v h=>by
  rcases bM h with⟨i,u,rfl,e⟩|⟨y,u,rfl,e⟩
  ·exact nomatch e
  ·injection e with e1 _;subst e1;cases v<;>rfl
theorem Nh(prog:A3)(w:A4)(i:Int)(t:Tok):(bx prog w).is (.inl i) (.int i t)=true:=Vt i t
theorem Ni(prog:A3)(w:A4)(x:AJ)(t:Tok):(bx prog w).is (.inr x) (.str x t)=true:=Vu x t
end L2
namespace L2
inductive V where
 |non|bl (b:Bool)|int (i:Int)|str (x:Str)|byt (b:Array UInt8)|flt (b:UInt64)|ref (a:Addr)|ty (n:String)
 deriving DecidableEq
def As:V->A0->Prop
 |.non,u=>u=Value.none
 |.bl b,u=>u=Value.bool b
 |.int i,u=>∃t,u=Value.int i t
 |.str x,u=>∃t,u=Value.str x t
 |.byt b,u=>∃t,u=Value.bytes b t
 |.flt b,u=>∃t,u=Value.float b t
 |.ref a,u=>u=Value.ref a
 |.ty n,u=>u=Value.type n
abbrev AX:Y V->Y A0->Prop:=AI As
theorem AX.length{xs:Y V}{us:Y A0}(r:AX xs us):xs.length=us.length:=Paired.length r
theorem AX.get:∀{xs:Y V} {us:Y A0} {i:Nat} {x:V},AX xs us->xs[i]?=Z x->∃u,us[i]?=Z u/\As x u
 |_,_,_,_,.nil,e=>by simp at e
 |_,_,0,_,.cons r _,e=>by simp at e;subst e;exact⟨_,rfl,r⟩
 |_,_,i+1,x,.cons _ t,e=>by
  obtain⟨u,h1,h2⟩:=AX.get (i:=i) (x:=x) t (by simpa using e);exact⟨u,by simpa using h1,h2⟩
theorem AX.set{x:V}{u:A0}(r:As x u):∀{xs:Y V} {us:Y A0} (i:Nat),AX xs us->AX (xs.set i x) (us.set i u)
 |_,_,_,.nil=>.nil
 |_,_,0,.cons _ t=>.cons r t
 |_,_,i+1,.cons q t=>.cons q (AX.set r i t)
theorem AX.append:∀{xs ys:Y V} {us a:Y A0},AX xs us->AX ys a->AX (xs++ys) (us++a)
 |_,_,_,_,.nil,s=>s
 |_,_,_,_,.cons r t,s=>.cons r (AX.append t s)
theorem AX.take:∀{xs:Y V} {us:Y A0} (n:Nat),AX xs us->AX (xs.take n) (us.take n)
 |_,_,0,_=>.nil
 |_,_,_+1,.nil=>.nil
 |_,_,n+1,.cons r t=>.cons r (AX.take n t)
theorem AX.drop:∀{xs:Y V} {us:Y A0} (n:Nat),AX xs us->AX (xs.drop n) (us.drop n)
 |_,_,0,r=>r
 |_,_,_+1,.nil=>.nil
 |_,_,n+1,.cons _ t=>AX.drop n t
def Dz:S V->S A0->Prop
 |some v,Z u=>As v u
 |none,O=>True
 |_,_=>False
def KV:Y (κ×V)->Y (κ×A0)->Prop:=AI λ(p:κ×V) (q:κ×A0)=>p.1=q.1/\As p.2 q.2
def kV:AY->V
 |.inl i=>.int i
 |.inr x=>.str x
inductive HO where
 |lst (xs:List V)
 |tup (xs:List V)
 |dK (AO:List (AY×V))|dT (AO:List (List AY×V))
 |set (S:Int->Bool) (n:Nat)
 |ins (C dx:Addr) (fs:List (Str×V))
 |own (x:Addr)
 |xd (fs:List (Str×V))
 |met (f x:Addr)
 |rng (lo hi:Int)
 |sS (o:Obj) (u:HO)
 |tbl (ps:Array Value)
 |ext (φ:Heap->Prop)
abbrev Hp:=A1->S HO
def B6(H:Hp)(a:A1)(o:HO):Hp:=λb=>if b=a then Z o else H b
theorem bJ{H:Hp}{o:HO}:B6 H a o a=Z o:=by unfold B6;rw[zo rfl]
theorem aQ{H:Hp}{b:A1}{o:HO}(h:b≠a):B6 H a o b=H b:=by unfold B6;rw[zw h]
def uN(h:A6)(a:A1)(items:Array A0):Prop:=∃o,h.get? a=Z o/\o.cls=.type "tuple" ∧ (∃n,o.data=.seq items n)/\o.dict=O
theorem uN.weak(x:uN h a items):IsTup h a items:=let ⟨o,e,c,d,_⟩:=x;⟨o,e,c,d⟩
theorem uN.new(h:A6)(items:Array A0):uN (h.push { cls:=.type "tuple",data:=.seq items }) h.objs.size items:=⟨_,zv _ rfl,rfl,⟨_,rfl⟩,rfl⟩
theorem oM{H:Hp}{b:A1}{o u:HO}(h:H a=Z o)(h':H b=Z u)(d:o≠u):a≠b:=by
 intro e;subst e;rw[h]at h';exact d (Q1 h')
theorem dW{H:Hp}{b:A1}{o:HO}(h:H a=Z o)(h':H b=O):a≠b:=by
 intro e;subst e;rw[h]at h';cases h'
section
variable(P:A3)(w:A4)
def iu(H:Hp)(h:A6)(a:A1):HO->Prop
 |.lst xs=>xs.length<=AA/\∃(AQ:Y A0) (n:Nat),AX xs AQ/\h.get? a=Z { cls:=.type "list",data:=.seq AQ.toArray n }
 |.tup xs=>xs.length<=AA/\∃AQ:Y A0,AX xs AQ/\uN h a AQ.toArray
 |.dK AO=>AO.length<=AA/\(a==sysModules)=false/\∃vs,KV AO vs/\h.DictOf (bx P w) a vs
 |.dT AO=>AO.length<=AA/\(a==sysModules)=false/\∃xs:Y (Y AY×A1×A0),
   AI (λ(p:Y AY×V) (q:Y AY×A1×A0)=>p.1=q.1/\H q.2.1=Z (.tup (p.1.map kV))/\As p.2 q.2.2) AO xs ∧
   ∃o es ep,h.get? a=Z o/\o.ExactDict/\o.data=.dict es ep/\es.toList=xs.map (entryOfKey (tupleKind (bx P w)))/\(xs.map (·.1)).Nodup
 |.set S n=>h.SetOf (intKind P w) a S n
 |.ins C dx fs=>H dx=Z (.own a)/\fs.length<=1000/\dx≠a/\h.get? a=Z (instObj C dx) ∧
   ∃mA,h.Ns1 dx mA/\(∀f,Dz (fs.lookup f) (mA f))/\PySem.Within mA (fs.map (·.1))
 |.own _=>∃o,h.get? a=Z o
 |.xd fs=>∃mA,h.Ns1 a mA/\∀f,Dz (fs.lookup f) (mA f)
 |.rng lo hi=>∃t u v,h.get? a=Z { cls:=.type "range",data:=.fields #[.int lo t,.int hi u,.int 1 v] }
 |.sS o u=>h.get? a=Z o/\iu H h a u
 |.tbl ps=>h.get? a=Z { cls:=.none,data:=.fields ps }
 |.met f x=>h.get? a=Z (methodObj (.ref f) (.ref x))
 |.ext b=>b h/\(∃o,h.get? a=Z o)/\∀h1 h2:A6,b h1->(∀o,h1.get? a=Z o->h2.get? a=Z o)->b h2
def yu(H:Hp)(h:A6):Prop:=∀a o,H a=Z o->iu P w H h a o
end
section
variable{H H':Hp}{h':A6}{o:HO}
theorem iu.lt(x:iu P w H h a o):a<h.objs.size:=by
 cases o with
 |lst xs=>obtain⟨_,_,_,_,e⟩:=x;exact zz e
 |tup xs=>obtain⟨_,_,_,p⟩:=x;exact p.weak.lt
 |dK AO=>obtain⟨_,_,_,_,o,_,_,e,_⟩:=x;exact zz e
 |dT AO=>obtain⟨_,_,_,_,o,_,_,e,_⟩:=x;exact zz e
 |set S n=>obtain⟨o,_,_,_,e,_⟩:=x;exact zz e
 |ins C dx fs=>obtain⟨_,_,_,e,_⟩:=x;exact zz e
 |own y=>obtain⟨_,e⟩:=x;exact zz e
 |xd fs=>obtain⟨_,⟨_,_,_,e,_⟩,_⟩:=x;exact zz e
 |rng lo hi=>obtain⟨_,_,_,e⟩:=x;exact zz e
 |sS b u=>obtain⟨e,_⟩:=x;exact zz e
 |tbl ps=>exact zz (show h.get? a=Z _ from x)
 |met f y=>exact zz (show h.get? a=Z _ from x)
 |ext c=>obtain⟨_,⟨_,e⟩,_⟩:=x;exact zz e
theorem Paired.abo{α β:Type}{F G:α->β->Prop}:∀{d:Y α} {c:Y β},AI F d c->(∀a b,F a b->G a b)->AI G d c
 |_,_,.nil,_=>.nil
 |_,_,.cons r t,f=>.cons (f _ _ r) (Paired.abo t f)
theorem Paired.imp'{F G:α->β->Prop}(f:∀a b,F a b->G a b){d:Y α}{c:Y β}(r:AI F d c):AI G d c:=Paired.abo r f
theorem iu.stay(x:iu P w H h a o)(k:∀b u,(b=a\/H b=Z (.own a))->h.get? b=Z u->h'.get? b=Z u)
  (ho:∀b,H b=Z (.own a)->H' b=Z (.own a)) (l:∀b xs,H b=Z (.tup xs)->H' b=Z (.tup xs)):iu P w H' h' a o:=by
 induction o with
 |lst xs=>obtain⟨z,AQ,n,r,e⟩:=x;exact⟨z,AQ,n,r,k _ _ (.inl Y3) e⟩
 |tup xs=>obtain⟨z,AQ,r,g,e,c⟩:=x;exact⟨z,AQ,r,g,k _ _ (.inl Y3) e,c⟩
 |dK AO=>obtain⟨z,y,vs,r,g,es,ep,e,c⟩:=x;exact⟨z,y,vs,r,g,es,ep,k _ _ (.inl Y3) e,c⟩
 |dT AO=>
  obtain⟨z,y,xs,r,g,es,ep,e,c⟩:=x;exact⟨z,y,xs,Paired.abo r λp q z=>⟨z.1,l _ _ z.2.1,z.2.2⟩,g,es,ep,k _ _ (.inl Y3) e,c⟩
 |set S n=>obtain⟨g,es,ep,t,e,c⟩:=x;exact⟨g,es,ep,t,k _ _ (.inl Y3) e,c⟩
 |ins C dx fs=>
  obtain⟨d,z,ne,e,mA,⟨i,es,ep,e2,c⟩,r⟩:=x;exact⟨ho _ d,z,ne,k _ _ (.inl Y3) e,mA,⟨i,es,ep,k _ _ (.inr d) e2,c⟩,r⟩
 |own y=>obtain⟨g,e⟩:=x;exact⟨g,k _ _ (.inl Y3) e⟩
 |xd fs=>obtain⟨mA,⟨i,es,ep,e,c⟩,r⟩:=x;exact⟨mA,⟨i,es,ep,k _ _ (.inl Y3) e,c⟩,r⟩
 |rng lo hi=>obtain⟨t,u,v,e⟩:=x;exact⟨t,u,v,k _ _ (.inl Y3) e⟩
 |sS g u j=>obtain⟨e,q⟩:=x;exact⟨k _ _ (.inl Y3) e,j q⟩
 |tbl ps=>
  have e:h.get? a=Z { cls:=.none,data:=.fields ps }:=x;show h'.get? a=Z { cls:=.none,data:=.fields ps };exact k a _ (.inl Y3) e
 |met f y=>
  have e:h.get? a=Z (methodObj (.ref f) (.ref y)):=x;show h'.get? a=Z (methodObj (.ref f) (.ref y));exact k a _ (.inl Y3) e
 |ext m=>obtain⟨p,⟨o,e⟩,st⟩:=x;exact⟨st _ _ p λo q=>k _ _ (.inl Y3) q,⟨o,k _ _ (.inl Y3) e⟩,st⟩
theorem yu.lt(x:yu P w H h)(e:H a=Z o):a<h.objs.size:=(x a o e).lt
theorem yu.fresh(x:yu P w H h)(e:h.objs.size<=a):H a=O:=by
 cases q:H a with
 |none=>rfl
 |some u=>exact absurd (ZU (x.lt q) e) (JE _)
theorem yu.kept(x:yu P w H h)(k:∀b u,h.get? b=Z u->h'.get? b=Z u):yu P w H h':=λa o e=>
 (x a o e).stay (λb u _ q=>k b u q) (λ_ q=>q) λ_ _ q=>q
theorem yu.laid(x:yu P w H h)(k:∀b u,h.get? b=Z u->h'.get? b=Z u)(hp:h.objs.size<=a)(new:iu P w (B6 H a o) h' a o):yu P w (B6 H a o) h':=λb u e=>by
 have d:=x.fresh hp;by_cases hb:b=a
 ·subst hb;rw[bJ]at e;cases e;exact new
 ·rw[aQ hb]at e;exact(x b u e).stay (λc v _ q=>k c v q) (λc q=>by rw[aQ (dW q d)];exact q) λc xs q=>by rw[aQ (dW q d)];exact q
end
def Rd(H:Hp)(a:A1)(u:HO):Prop:=H a=Z u\/∃o,H a=Z (.sS o u)
theorem Rd.ok{H:Hp}{u:HO}(r:Rd H a u)(x:yu P w H h):iu P w H h a u:=by
 rcases r with r|⟨o,r⟩
 ·exact x a u r
 ·obtain⟨_,q⟩:=x a _ r;exact q
def EX:S HO->Prop
 |some (.lst _)=>True
 |some (.dK _)=>True
 |some (.dT _)=>True
 |some (.set _ _)=>True
 |some (.ins _ _ _)=>True
 |some (.ext _)=>True
 |_=>False
section
variable{H:Hp}{h':A6}{x e:A1}{o':HO}
theorem yu.write(ok:yu P w H h)(d:EX (H x))(he:e=x\/H e=Z (.own x))(k:∀b u,b≠e->h.get? b=Z u->h'.get? b=Z u)(l:∃u,h'.get? e=Z u)
  (new:iu P w (B6 H x o') h' x o'):yu P w (B6 H x o') h':=λb u q=>by
 have g:∀c y,H c=Z (.own y)->c≠x:=λc y r z=>by subst z;rw[r]at d;exact d
 have j:∀c xs,H c=Z (.tup xs)->c≠x:=λc xs r z=>by subst z;rw[r]at d;exact d
 by_cases hb:b=x
 ·subst hb;rw[bJ]at q;cases q;exact new
 ·rw[aQ hb]at q;by_cases f:b=e
  ·have i:H b=Z (.own x):=by
    rcases he with z|z
    ·exact absurd (f.trans z) hb
    ·rw[f];exact z
   rw[q]at i;cases i;obtain⟨v,m⟩:=l;exact⟨v,by rw[f];exact m⟩
  ·refine(ok b u q).stay (λc v a r=>k c v ?_ r) (λc r=>by rw[aQ (g c b r)];exact r) λc xs r=>by rw[aQ (j c xs r)];exact r
   rcases a with rfl|a
   ·exact f
   ·rintro rfl;rcases he with z|z
    ·exact g c b a z
    ·rw[a]at z;cases z;exact hb rfl
end
structure Un (fs ex:List Addr) (H H':Hp) (h h':Heap):Prop where
 keep:∀b o,h.get? b=some o->H b=none->b∉fs->b∉ex->h'.get? b=some o
 slot:∀b o,h.get? b=some o->H b=none->b∈fs->b∉ex->∃sl,h'.get? b=some { o with slots:=sl }
 free:∀b o,h.get? b=some o->H b=none->b∉ex->H' b=none
 there:∀b o,h.get? b=some o->b∉ex->∃o',h'.get? b=some o'
 tups:∀b xs,H b=some (.tup xs)->H' b=some (.tup xs)
 Cj:∀b o u,H b=some (.sS o u)->H' b=some (.sS o u)
 Ht:∀b ps,H b=some (.tbl ps)->∃more,H' b=some (.tbl (ps++more))
section
variable{fs fs' ex ex':Y A1}{H H1 H2:Hp}{h1 h2 h':A6}{x e:A1}{o:HO}
theorem Un.any(u:Un fs ex H H1 h h1){b:A1}{a:AE}(q:h.get? b=Z a)(n:H b=O)(hx:b∉ex):∃sl,h1.get? b=Z { a with slots:=sl }:=by
 by_cases hb:b∈fs
 ·exact u.slot b a q n hb hx
 ·exact⟨a.slots,u.keep b a q n hb hx⟩
theorem Un.kept(k:∀b u,h.get? b=Z u->h'.get? b=Z u):Un fs ex H H h h':=
 ⟨λb a q _ _ _=>k b a q,λb a q _ _ _=>⟨a.slots,k b a q⟩,λ_ _ _ n _=>n,λb a q _=>⟨a,k b a q⟩,λ_ _ q=>q,λ_ _ _ q=>q,λ_ ps q=>⟨#[],by rw[q];simp⟩⟩
theorem Un.refl:Un fs ex H H h h:=Un.kept λ_ _ q=>q
theorem Un.laid(k:∀b u,h.get? b=Z u->h'.get? b=Z u)(hp:h.objs.size<=a)(c:H a=O):Un fs ex H (B6 H a o) h h' where
 keep:=λb u q _ _ _=>k b u q
 slot:=λb u q _ _ _=>⟨u.slots,k b u q⟩
 free:=λb u q n _=>by rw[aQ (zI (ZU (zz q) hp))];exact n
 there:=λb u q _=>⟨u,k b u q⟩
 tups:=λb xs q=>by rw[aQ (dW q c)];exact q
 Cj:=λb u xs q=>by rw[aQ (dW q c)];exact q
 Ht:=λb ps q=>⟨#[],by rw[aQ (dW q c),q];simp⟩
theorem Un.write(a:EX (H x))(he:e=x\/H e=Z (.own x))(k:∀b u,b≠e->h.get? b=Z u->h'.get? b=Z u)(f:∃u,h'.get? e=Z u):Un fs ex H (B6 H x o) h h':=by
 have hx:∀b,H b=O->b≠x:=λb n z=>by subst z;rw[n]at a;exact a
 have hb:∀b,H b=O->b≠e:=λb n z=>by
  subst z;rcases he with r|r
  ·exact hx b n r
  ·rw[n]at r;cases r
 have c:∀b u,H b=Z u->¬ EX (Z u)->b≠x:=λb u q nm z=>by subst z;rw[q]at a;exact nm a
 refine⟨λb u q n _ _=>k b u (hb b n) q,λb u q n _ _=>⟨u.slots,k b u (hb b n) q⟩,λb u q n _=>by rw[aQ (hx b n)];exact n,λb u q _=>?_,
  λb xs q=>by rw[aQ (c b _ q λz=>z)];exact q,λb u xs q=>by rw[aQ (c b _ q λz=>z)];exact q,λb ps q=>⟨#[],by rw[aQ (c b _ q λz=>z),q];simp⟩⟩
 by_cases d:b=e
 ·subst d;exact f
 ·exact⟨u,k b u d q⟩
end
def FU(h:A6)(H:Hp):Y A1:=(List.range h.objs.size).filter λa=>(H a).isSome
def Ka(h:A6)(H:Hp):A6:=PySem.W.hideAll h (FU h H)
theorem Vv(h:A6)(H:Hp):(Ka h H).objs.size=h.objs.size:=PySem.W.hideAll_size _ _
theorem Xv{H:Hp}{b:A1}{o:AE}(e:h.get? b=Z o)(n:H b=O):(Ka h H).get? b=Z o:=
 PySem.W.hideAll_get _ e λa=>by
  have q:(H b).isSome=true:=(List.mem_filter.mp a).2;rw[n]at q;simp at q
theorem YY{H:Hp}{b:A1}{o:AE}(e:(Ka h H).get? b=Z o):h.get? b=Z o/\H b=O:=by
 have e':h.get? b=Z o:=PySem.W.of_hideAll (FU h H) e;refine⟨e',?_⟩;cases q:H b with
 |none=>rfl
 |some x=>
  have a:b∈FU h H:=List.mem_filter.mpr ⟨List.mem_range.mpr (zz e'),by simp[q]⟩;have z:(Ka h H).get? b=O:=PySem.W.hideAll_none (FU h H) a;rw[z]at e;cases e
def cv(g h:A6)(L:A1):Y (A1×AE):=(List.range h.objs.size).filterMap λa=>if a=L\/(g.get? a).isSome=true then O else(h.get? a).map λo=>(a,o)
def AS(g h:A6)(L d:A1):Y (A1×AE):=(cv g h L).filter λp=>decide (p.1≠d)
end L2
namespace L2
structure Mod (K:B0) (mg:Str->Option Value) (base:Heap):Prop where
 kin:K.In base
 glob:base.Ns mainGlobals mg
 blt:∃mb,base.Ns builtinsNs mb/\∀x:Str,x ≠ "__name__" → mb x=bootBuiltins x
 nolimit:base.NoLimit
structure Cx where
 prog:Program
 w:World
 K:B0
 mg:Str->Option Value
 base:Heap
 A:Around
 N:AZ
 s₀:Shared
 H₀:Hp
 env:Env
 outer:List Env
 stack:List Env
 ex:List Addr
 fn:Str->Bool
 calm:Bool
 pn:List (Addr×Obj)
 xe:BB
def CY(l:Y Env):Y A1:=l.filterMap (·.frame)
abbrev Cx.fs(X:Cx):Y A1:=CY X.outer
def Xj(a:Scope)(x:AJ):Prop:=a.names.lookup x=Z .local\/a.names.lookup x=Z .cell\/a.names.lookup x=Z .free
def DC(a:Scope)(x:AJ):Prop:=a.names.lookup x=Z .local\/a.names.lookup x=Z .cell
def HM(env:Env)(h:A6)(m:AJ->S A0)(x:AJ)(u:A0):Prop:=
 (env.kindOf x=Z .local/\m x=Z u)\/((env.kindOf x=Z .cell\/env.kindOf x=Z .free)/\∃c,env.cells.lookup x=Z c/\h.IsCell c (Z u))
structure Cx.Ok (X:Cx):Prop where
 mod:Mod X.K X.mg X.base
 kind:X.env.scope.kind=.function
 glob:X.env.globals=mainGlobals
 blt:X.env.builtins=builtinsNs
 above:X.s₀.heap.objs.size<=X.env.locals
 inj:∀x y c,X.env.cells.lookup x=some c->X.env.cells.lookup y=some c->x=y
 has:∀x,(X.env.kindOf x=some .cell\/X.env.kindOf x=some .free)->∃c,X.env.cells.lookup x=some c
 cab:∀x c,X.fn x=true->X.env.cells.lookup x=some c->X.s₀.heap.objs.size<=c
 hd:X.calm=true->X.A.handled=none
 frames:X.A.frames=some X.stack
 stk:X.stack=X.outer\/(X.stack=X.env::X.outer/\X.env.frame=some X.env.locals)
 exf:∀b∈X.ex,b≠X.env.locals/\∀x c,X.env.cells.lookup x=some c->c≠b
 bs:∀b o,X.base.get? b=some o->X.s₀.heap.get? b=some o/\X.H₀ b=none
 bsz:X.base.objs.size<=X.s₀.heap.objs.size
 Xw:∀b o,X.base.get? b=some o->b∉X.ex
 abr:∀b∈X.ex,b∉X.fs
 DG:X.s₀.heap.FunFrames X.base X.outer
 frf:∀b∈X.fs,X.H₀ b=none
structure AU (X:Cx) (AN:List (Addr×Obj)) (σ:List (Option V)) (H:Hp) (s:Shared):Prop where
 ok:X.Ok
 os:s.os=X.s₀.os
 bare:AllBare s.gens
 base:Un X.fs X.ex X.H₀ H X.s₀.heap s.heap
 loc:∃m,s.heap.Ns X.env.locals m/\∀(i:Nat) (x:Str) (v:V),X.N[i]?=some x->σ[i]?=some (some v)->Xj X.env.scope x->∃u,As v u/\HM X.env s.heap m x u
 cell:∀x c,X.env.cells.lookup x=some c->∃v,s.heap.IsCell c v
 free:H X.env.locals=none
 qD:∀x c,X.env.cells.lookup x=some c->H c=none
 pin:∀p∈X.pn++AN,s.heap.get? p.1=some p.2/\H p.1=none/\p.1≠X.env.locals/\p.1∉X.fs/\∀v,p.2.data≠.cell v
 hok:yu X.prog X.w H s.heap
 len:σ.length=X.N.length
section
variable{X:Cx}{σ:Y (S V)}{H H':Hp}{h':A6}
theorem Cx.Ok.ajf(ok:X.Ok){b:A1}{o:AE}(e:X.base.get? b=Z o):b∉X.fs:=λhb=>by
 have:=(ok.DG.mem hb).1;rw[e]at this;cases this
theorem AU.bs(I:AU X AN σ H s):∀b o,X.base.get? b=Z o->s.heap.get? b=Z o/\H b=O:=λb o e=>
 ⟨I.base.keep b o (I.ok.bs b o e).1 (I.ok.bs b o e).2 (I.ok.ajf e) (I.ok.Xw b o e),I.base.free b o (I.ok.bs b o e).1 (I.ok.bs b o e).2 (I.ok.Xw b o e)⟩
theorem AU.bk(I:AU X AN σ H s):∀b o,X.base.get? b=Z o->s.heap.get? b=Z o:=λb o e=>(I.bs b o e).1
theorem AU.mod(I:AU X AN σ H s):Mod X.K X.mg X.base:=I.ok.mod
theorem AU.kIn(I:AU X AN σ H s):X.K.In s.heap:=I.ok.mod.kin.keeps I.bk
theorem AU.lt(I:AU X AN σ H s):X.env.locals<s.heap.objs.size:=let ⟨_,hn,_⟩:=I.loc;hn.lt
theorem AU.sz(I:AU X AN σ H s):X.s₀.heap.objs.size<=s.heap.objs.size:=ZE I.ok.above (jS I.lt)
theorem AU.ajg(I:AU X AN σ H s)(h:s.heap.objs.size<=a):a∉X.fs:=λhb=>by
 obtain⟨_,o,ho,_⟩:=I.ok.DG.mem hb;exact absurd (ZU (zz ho) (ZE I.sz h)) (JE _)
theorem AU.cne(I:AU X AN σ H s):∀x c,X.env.cells.lookup x=Z c->c≠X.env.locals:=λx c e z=>by
 obtain⟨v,o,ho,a⟩:=I.cell x c e;obtain⟨m,⟨o',es,ep,b,d,_⟩,_⟩:=I.loc;rw[z,b]at ho;cases ho;rw[d]at a;cases a
theorem AU.DG(I:AU X AN σ H s):s.heap.FunFrames X.base X.outer:=by
 have all:∀(l:Y Env),(∀b∈CY l,b∈X.fs)->X.s₀.heap.FunFrames X.base l->s.heap.FunFrames X.base l:=by
  intro l
  induction l with
  |nil=>intro _ _;trivial
  |cons env r g=>
   intro hs d;obtain⟨f,⟨L,o,a,j,ho,i⟩,h⟩:=d;have c:L∈X.fs:=hs L (by unfold CY;rw[kK,a];exact zh);obtain⟨sl,e⟩:=I.base.slot L o ho (I.ok.frf L c) c λz=>I.ok.abr L z c;exact⟨f,⟨L,_,a,j,e,i⟩,g (λb hb=>hs b (by unfold CY;rw[kK,a];exact zi _ hb)) h⟩
 exact all X.outer (λ_ hb=>hb) I.ok.DG
theorem AU.stack(I:AU X AN σ H s):s.heap.FunFrames X.base X.stack:=by
 rcases I.ok.stk with e|⟨e,b⟩
 ·rw[e];exact I.DG
 ·rw[e];obtain⟨m,a,_⟩:=I.loc;refine .cons (by rw[I.ok.kind];decide) b a ?_ I.DG;exact Heap.get?_none_of_le (ZE I.ok.bsz I.ok.above)
theorem AU.Kc(I:AU X AN σ H s):∀b∈CY X.stack,b∈X.env.locals::X.fs:=λb hb=>by
 rcases I.ok.stk with e|⟨e,a⟩
 ·rw[e]at hb;exact zi _ hb
 ·rw[e]at hb;unfold CY at hb;rw[kK,a]at hb;exact hb
theorem AU.Tv(I:AU X AN σ H s):∀b∈CY X.stack,H b=O:=λb hb=>by
 rcases List.mem_cons.mp (I.Kc b hb)with e|hb
 ·rw[e];exact I.free
 ·obtain⟨_,o,ho,_⟩:=I.ok.DG.mem hb;exact I.base.free b o ho (I.ok.frf b hb) λz=>I.ok.abr b z hb
theorem AU.step{g':Array GenState}{t':Nat}{d':Drawn}{ch:Y A1}(I:AU X AN σ H s)
  (f:∀b∈ch,(b∈X.ex\/X.s₀.heap.objs.size<=b)/\b≠X.env.locals/\(∀x c,X.env.cells.lookup x=Z c->c≠b)/\∀p∈X.pn++AN,p.1≠b)
  (keep:∀b o,b≠X.env.locals->b∉X.fs->b∉ch->s.heap.get? b=Z o->H b=O->h'.get? b=Z o)
  (slot:∀b o,b≠X.env.locals->b∈X.fs->b∉ch->s.heap.get? b=Z o->H b=O->∃sl,h'.get? b=Z { o with slots:=sl }) (free:∀b o,b∉ch->s.heap.get? b=Z o->H b=O->H' b=O)
  (P:∀b o,b∉ch->s.heap.get? b=Z o->∃o',h'.get? b=Z o')
  (B:∀b xs,H b=Z (.tup xs)->H' b=Z (.tup xs)) (G:∀b o u,H b=Z (.sS o u)->H' b=Z (.sS o u)) (C:∀b ps,H b=Z (.tbl ps)->∃more,H' b=Z (.tbl (ps++more)))
  (E:∀m,s.heap.Ns X.env.locals m->h'.Ns X.env.locals m) (N:yu X.prog X.w H' h') (J:AllBare g'):
  AU X AN σ H' { s with heap:=h',gens:=g',drawn:=d',toks:=t' }:=by
 have y:∀b o,X.s₀.heap.get? b=Z o->b≠X.env.locals:=λb o e=>zI (ZU (zz e) I.ok.above);have g:∀b o,X.s₀.heap.get? b=Z o->b∉X.ex->b∉ch:=λb o e hx hb=>by
  rcases(f b hb).1 with z|z
  ·exact hx z
  ·exact absurd (ZU (zz e) z) (JE _)
 have A:∀x c,X.env.cells.lookup x=Z c->∀v,s.heap.IsCell c v->h'.IsCell c v:=λx c e v ⟨o,ho,h⟩=>by
  have a:c∉ch:=λz=>(f c z).2.2.1 x c e rfl;by_cases j:c∈X.fs
  ·obtain⟨sl,q⟩:=slot c o (I.cne x c e) j a ho (I.qD x c e);exact⟨_,q,h⟩
  ·exact⟨o,keep c o (I.cne x c e) j a ho (I.qD x c e),h⟩
 refine⟨I.ok,I.os,J,⟨λb o e n hb hx=>?_,λb o e n hb hx=>?_,λb o e n hx=>?_,λb o e hx=>?_,λb xs e=>B b xs (I.base.tups b xs e),λb o xs e=>G b o xs (I.base.Cj b o xs e),λb ps e=>?_⟩,?_,λx c e=>?_,?_,λx c e=>?_,λp hp=>?_,N,I.len⟩
 ·exact keep b o (y b o e) hb (g b o e hx) (I.base.keep b o e n hb hx) (I.base.free b o e n hx)
 ·obtain⟨sl,e1⟩:=I.base.slot b o e n hb hx;obtain⟨D,e2⟩:=slot b _ (y b o e) hb (g b o e hx) e1 (I.base.free b o e n hx);exact⟨D,e2⟩
 ·obtain⟨o',e1⟩:=I.base.there b o e hx;exact free b o' (g b o e hx) e1 (I.base.free b o e n hx)
 ·obtain⟨o',e1⟩:=I.base.there b o e hx;exact P b o' (g b o e hx) e1
 ·obtain⟨K,e1⟩:=I.base.Ht b ps e;obtain⟨L,e2⟩:=C b _ e1;exact⟨K++L,by rw[e2,Array.append_assoc]⟩
 ·obtain⟨m,F,M⟩:=I.loc;refine⟨m,E m F,λi x v e1 e2 e3=>?_⟩;obtain⟨u,r,l⟩:=M i x v e1 e2 e3;refine⟨u,r,?_⟩;rcases l with l|⟨k,c,e,z⟩
  ·exact .inl l
  ·exact .inr ⟨k,c,e,A x c e _ z⟩
 ·obtain⟨v,z⟩:=I.cell x c e;exact⟨v,A x c e v z⟩
 ·obtain⟨m,⟨o,_,_,ho,_⟩,_⟩:=I.loc;exact free _ o (λz=>(f _ z).2.1 Y3) ho I.free
 ·obtain⟨v,o,ho,h⟩:=I.cell x c e;exact free c o (λz=>(f c z).2.2.1 x c e Y3) ho (I.qD x c e)
 ·obtain⟨e,n,ne,t,d⟩:=I.pin p hp;have a:p.1∉ch:=λz=>(f p.1 z).2.2.2 p hp rfl;exact⟨keep p.1 p.2 ne t a e n,free p.1 p.2 a e n,ne,t,d⟩
theorem AU.un{t':Nat}(I:AU X AN σ H s)(u:Un X.fs [] H H' s.heap h')(g:yu X.prog X.w H' h'):AU X AN σ H' { s with heap:=h',toks:=t' }:=by
 obtain⟨m,⟨o,es,ep,ho,r⟩,_⟩:=id I.loc;obtain⟨sl,i⟩:=u.any ho I.free (by simp);exact I.step (g':=s.gens) (d':=s.drawn) (ch:=[]) (λ_ z=>nomatch z) (λb o _ hb _ e n=>u.keep b o e n hb (by simp)) (λb o _ hb _ e n=>u.slot b o e n hb (by simp)) (λb o _ e n=>u.free b o e n (by simp)) (λb o _ e=>u.there b o e (by simp)) u.tups u.Cj u.Ht (λj d=>by
  obtain⟨o',c,f,a,h⟩:=d;rw[ho]at a;cases a;exact⟨_,c,f,i,h⟩) g I.bare
theorem AU.call{g':Array GenState}{t':Nat}{d':Drawn}{ch:Y A1}(I:AU X AN σ H s)(u:Un (CY X.stack) ch H H' s.heap h')(q:yu X.prog X.w H' h')(h:AllBare g')
  (f:∀b∈ch,(b∈X.ex\/X.s₀.heap.objs.size<=b)/\b≠X.env.locals/\(∀x c,X.env.cells.lookup x=Z c->c≠b)/\∀p∈X.pn++AN,p.1≠b):
  AU X AN σ H' { s with heap:=h',gens:=g',drawn:=d',toks:=t' }:=by
 obtain⟨m,⟨o,es,ep,ho,r⟩,_⟩:=id I.loc;obtain⟨sl,d⟩:=u.any ho I.free λz=>(f _ z).2.1 rfl;exact I.step (ch:=ch) f (λb o d hb a e n=>u.keep b o e n (λz=>(List.mem_cons.mp (I.Kc b z)).elim d hb) a) (λb o _ _ a e n=>u.any e n a) (λb o a e n=>u.free b o e n a) (λb o a e=>u.there b o e a) u.tups u.Cj u.Ht (λv j=>by
  obtain⟨o',i,l,g,t⟩:=j;rw[ho]at g;cases g;exact⟨_,i,l,d,t⟩) q h
theorem AU.turned{t':Nat}(I:AU X AN σ H s)(k:∀b o,b≠it->s.heap.get? b=Z o->h'.get? b=Z o)(i:H it=O)(f:it≠X.env.locals)(h1:it∈X.ex\/X.s₀.heap.objs.size<=it)(h2:∀x c,X.env.cells.lookup x=Z c->c≠it)(h:∀p∈X.pn++AN,p.1≠it):AU X AN σ H { s with heap:=h',toks:=t' }:=by
 have d:∀b u,H b=Z u->b≠it:=λb u e z=>by rw[z,i]at e;cases e
 refine I.step (g':=s.gens) (d':=s.drawn) (ch:=[it]) (λb hb=>?_) (λb o _ _ a e _=>k b o (λz=>a (by simp[z])) e) (λb o _ _ a e _=>⟨o.slots,k b o (λz=>a (by simp[z])) e⟩) (λ_ _ _ _ n=>n)
  (λb o a e=>⟨o,k b o (λz=>a (by simp[z])) e⟩) (λ_ _ e=>e) (λ_ _ _ e=>e) (λb ps e=>⟨#[],by rw[e];simp⟩) (λm g=>?_) (λb u e=>?_) I.bare
 ·have e:b=it:=by simpa using hb
  subst e;exact⟨h1,f,h2,h⟩
 ·obtain⟨o,es,ep,ho,r⟩:=g;exact⟨o,es,ep,k _ o (KG f) ho,r⟩
 ·refine(I.hok b u e).stay (λc v a q=>k c v ?_ q) (λ_ q=>q) λ_ _ q=>q;rcases a with z|z
  ·rw[z];exact d b u e
  ·exact d c _ z
theorem AU.tok(I:AU X AN σ H s)(t:Nat):AU X AN σ H { s with toks:=t }:=I.un (h':=s.heap) (t':=t) Un.refl I.hok
theorem AU.kept{t':Nat}(I:AU X AN σ H s)(k:∀b u,s.heap.get? b=Z u->h'.get? b=Z u):AU X AN σ H { s with heap:=h',toks:=t' }:=I.un (Un.kept k) (I.hok.kept k)
theorem AU.laid{a:A1}{o:HO}{t':Nat}(I:AU X AN σ H s)(k:∀b u,s.heap.get? b=Z u->h'.get? b=Z u)(hp:s.heap.objs.size<=a)(new:iu X.prog X.w (B6 H a o) h' a o):
  AU X AN σ (B6 H a o) { s with heap:=h',toks:=t' }:=I.un (Un.laid k hp (I.hok.fresh hp)) (I.hok.laid k hp new)
theorem AU.write{x e:A1}{o:HO}{t':Nat}(I:AU X AN σ H s)(c:EX (H x))(he:e=x\/H e=Z (.own x))(k:∀b u,b≠e->s.heap.get? b=Z u->h'.get? b=Z u)(a:∃u,h'.get? e=Z u)
  (new:iu X.prog X.w (B6 H x o) h' x o):AU X AN σ (B6 H x o) { s with heap:=h',toks:=t' }:=I.un (Un.write c he k a) (I.hok.write c he k a new)
theorem AU.Kd{a:Y (A1×AE)}(I:AU X AN σ H s)(h:∀p∈a,s.heap.get? p.1=Z p.2/\H p.1=O/\p.1≠X.env.locals/\p.1∉X.fs/\∀v,p.2.data≠.cell v):AU X a σ H s:=
 ⟨I.ok,I.os,I.bare,I.base,I.loc,I.cell,I.free,I.qD,λp hp=>(List.mem_append.mp hp).elim (λz=>I.pin p (zg _ z)) (h p),I.hok,I.len⟩
theorem Nj(c:N.Nodup)(a:N[i]?=Z x)(b:N[j]?=Z x):i=j:=by
 obtain⟨h1,e1⟩:=List.getElem?_eq_some_iff.mp a;obtain⟨h2,e2⟩:=List.getElem?_eq_some_iff.mp b;exact(List.getElem_inj c).mp (e1.trans e2.symm)
theorem Vw{v:V}{Q:Unit->A2->Prop}(I:AU X AN σ H s)(L:X.N.Nodup)(hi:X.N[i]?=Z x)(hx:DC X.env.scope x)(r:As v u)(h:∀s',AU X AN (σ.set i (Z v)) H s'->(∃a,Heap.SameBut a s.heap s'.heap/\(a=X.env.locals\/X.env.cells.lookup x=Z a))->Q () s')(hf:X.fn x=true\/X.env.scope.names.lookup x=Z .local:=by first|exact .inl rfl|exact .inr rfl|assumption):A7 M A (storeName X.env x u) Q E s:=by
 obtain⟨m,F,hl⟩:=id I.loc;have b0:(X.env.scope.kind==.class||(X.env.scope.kind==.module&&X.env.locals !=X.env.globals))=false:=by rw[I.ok.kind];rfl
 have a2:i<σ.length:=by rw[I.len];exact(List.getElem?_eq_some_iff.mp hi).1
 have cne:=I.cne;have a0:∀{a:A1} {h':A6},(∃o,s.heap.get? a=Z o/\H a=O)->Heap.SameBut a s.heap h'->yu X.prog X.w H h':=λ{a h'} ha hs b ob e=>by
  obtain⟨_,_,P⟩:=ha;refine(I.hok b ob e).stay (λc t f q=>(hs.2 c ?_).trans q) (λ_ q=>q) λ_ _ q=>q;rintro rfl;rcases f with rfl|f
  ·rw[P]at e;cases e
  ·rw[P]at f;cases f
 rcases hx with g|g
 ·refine wpAny_storeName_local g F (λh' a5 hs=>?_) b0;obtain⟨oL,_,_,a4,_⟩:=id F;refine h _ ⟨I.ok,I.os,I.bare,⟨λb o e n hb hx=>?_,λb o e n hb hx=>?_,I.base.free,λb o e hx=>?_,I.base.tups,I.base.Cj,I.base.Ht⟩,⟨_,a5,λj y C e1 e2 e3=>?_⟩,λy c e=>?_,I.free,I.qD,λp hp=>?_,a0 ⟨oL,a4,I.free⟩ hs,by simpa using I.len⟩ ⟨_,hs,.inl rfl⟩
  ·exact(hs.2 b (zI (ZU (zz e) I.ok.above))).trans (I.base.keep b o e n hb hx)
  ·obtain⟨sl,e1⟩:=I.base.slot b o e n hb hx;exact⟨sl,(hs.2 b (zI (ZU (zz e) I.ok.above))).trans e1⟩
  ·obtain⟨o',e1⟩:=I.base.there b o e hx;exact⟨o',(hs.2 b (zI (ZU (zz e) I.ok.above))).trans e1⟩
  ·by_cases l:j=i
   ·subst l;rw[hi]at e1;cases e1;rw[List.getElem?_set_self a2]at e2;cases e2;exact⟨u,r,.inl ⟨g,by simp⟩⟩
   ·rw[List.getElem?_set_ne (KG l)]at e2;obtain⟨K,G,q⟩:=hl j y C e1 e2 e3;refine⟨K,G,?_⟩;rcases q with⟨k,e⟩|⟨k,c,e,z⟩
    ·refine .inl ⟨k,?_⟩;have:y≠x:=λe=>l (Nj L e1 (e▸hi));simp[this,e]
    ·exact .inr ⟨k,c,e,z.sameBut hs (cne y c e)⟩
  ·obtain⟨t,z⟩:=I.cell y c e;exact⟨t,z.sameBut hs (cne y c e)⟩
  ·obtain⟨e,n,ne,D,d⟩:=I.pin p hp;exact⟨(hs.2 p.1 ne).trans e,n,ne,D,d⟩
 ·have J:X.fn x=true:=by
   rcases hf with z|z
   ·exact z
   ·rw[z]at g;cases g
  obtain⟨c,f⟩:=I.ok.has x (.inl g);obtain⟨t,z⟩:=I.cell x c f;refine wpAny_storeName_cell I.ok.kind g f z (λh' a1 hs=>?_);obtain⟨oc,W,a3⟩:=id z;refine h { s with heap:=h' } ⟨I.ok,I.os,I.bare,⟨λb o e n hb hx=>?_,λb o e n hb hx=>?_,I.base.free,λb o e hx=>?_,I.base.tups,I.base.Cj,I.base.Ht⟩,⟨m,F.sameBut hs (KG (cne x c f)),λj y C e1 e2 e3=>?_⟩,λy B e=>?_,I.free,I.qD,λp hp=>?_,a0 ⟨oc,W,I.qD x c f⟩ hs,by simpa using I.len⟩ ⟨c,hs,.inr f⟩
  ·exact(hs.2 b (zI (ZU (zz e) (I.ok.cab x c J f)))).trans (I.base.keep b o e n hb hx)
  ·obtain⟨sl,e1⟩:=I.base.slot b o e n hb hx;exact⟨sl,(hs.2 b (zI (ZU (zz e) (I.ok.cab x c J f)))).trans e1⟩
  ·obtain⟨o',e1⟩:=I.base.there b o e hx;exact⟨o',(hs.2 b (zI (ZU (zz e) (I.ok.cab x c J f)))).trans e1⟩
  ·by_cases l:j=i
   ·subst l;rw[hi]at e1;cases e1;rw[List.getElem?_set_self a2]at e2;cases e2;exact⟨u,r,.inr ⟨.inl g,c,f,a1⟩⟩
   ·rw[List.getElem?_set_ne (KG l)]at e2;obtain⟨K,G,q⟩:=hl j y C e1 e2 e3;refine⟨K,G,?_⟩;rcases q with q|⟨k,B,e,z'⟩
    ·exact .inl q
    ·refine .inr ⟨k,B,e,z'.sameBut hs ?_⟩;rintro rfl;exact l (Nj L e1 (I.ok.inj _ _ _ e f▸hi))
  ·by_cases U:B=c
   ·subst U;exact⟨_,a1⟩
   ·obtain⟨w2,z2⟩:=I.cell y B e;exact⟨w2,z2.sameBut hs U⟩
  ·obtain⟨e,n,ne,D,d⟩:=I.pin p hp;refine⟨(hs.2 p.1 ?_).trans e,n,ne,D,d⟩;intro q;rw[q,W]at e;have q':oc=p.2:=Q1 e;exact d t (by rw[<-q'];exact a3)
theorem yx{v:V}{Q:Unit->A2->Prop}(I:AU X AN σ H s)(a:X.N.Nodup)(hi:X.N[i]?=Z x)(hx:DC X.env.scope x)(r:As v u)(h:∀s',AU X AN (σ.set i (Z v)) H s'->Q () s')(b:X.fn x=true\/X.env.scope.names.lookup x=Z .local:=by first|exact .inl rfl|exact .inr rfl|assumption):A7 M A (storeName X.env x u) Q E s:=
 Vw I a hi hx r (λs' c _=>h s' c) b
theorem AU.call'{s':A2}{ch:Y A1}(I:AU X AN σ H s)(ho:s'.os=s.os)(u:Un (CY X.stack) ch H H' s.heap s'.heap)(d:yu X.prog X.w H' s'.heap)(a:AllBare s'.gens)
  (f:∀b∈ch,(b∈X.ex\/X.s₀.heap.objs.size<=b)/\b≠X.env.locals/\(∀x c,X.env.cells.lookup x=Z c->c≠b)/\∀p∈X.pn++AN,p.1≠b):AU X AN σ H' s':=by
 obtain⟨h',g',d',t',o'⟩:=s';have e:o'=s.os:=ho;subst e;exact I.call (g':=g') (t':=t') (d':=d') u d a f
end
abbrev XK:=A0->S A1->Hp->Prop
abbrev St:=Y (S V)
abbrev VK:=V->Hp->Prop
abbrev TE:=St->Hp->VK->Prop
abbrev TT:=St->Hp->(Bool->Hp->Prop)->Prop
abbrev TA:=St->Hp->(Y V->Hp->Prop)->Prop
structure C5 where
 nx:St->Hp->Prop
 rt:VK
 bk:St->Hp->Prop:=λ_ _=>False
 ct:St->Hp->Prop:=λ_ _=>False
abbrev TS:=C5->St->Hp->Prop
def EP(X:Cx)(AN:Y (A1×AE))(σ:St)(Q:VK)(u:A0)(s':A2):Prop:=∃v H',AU X AN σ H' s'/\As v u/\Q v H'
def TP(X:Cx)(AN:Y (A1×AE))(σ:St)(Q:Bool->Hp->Prop)(b:Bool)(s':A2):Prop:=∃H',AU X AN σ H' s'/\Q b H'
def AP(X:Cx)(AN:Y (A1×AE))(σ:St)(Q:Y V->Hp->Prop)(us:Y A0)(s':A2):Prop:=∃vs H',AU X AN σ H' s'/\AX vs us/\Q vs H'
def SP(X:Cx)(AN:Y (A1×AE))(D:C5)(f:Flow)(s':A2):Prop:=
 match f with
 |.next=>∃ σ' H',AU X AN σ' H' s'/\D.nx σ' H'
 |.brk=>∃ σ' H',AU X AN σ' H' s'/\D.bk σ' H'
 |.cont=>∃ σ' H',AU X AN σ' H' s'/\D.ct σ' H'
 |.ret u=>∃v σ' H',AU X AN σ' H' s'/\As v u/\D.rt v H'
def PE(X:Cx)(e:Expr)(t:TE):Prop:=
 ∀(AN:Y (A1×AE)) (s:A2) (σ:St) (H:Hp) (Q:VK),AU X AN σ H s->t σ H Q->A7 (A8 X.prog X.w) X.A (eval e X.env) (EP X AN σ Q) X.xe s
def PT(X:Cx)(e:Expr)(t:TT):Prop:=
 ∀(AN:Y (A1×AE)) (s:A2) (σ:St) (H:Hp) (Q:Bool->Hp->Prop),AU X AN σ H s->t σ H Q->A7 (A8 X.prog X.w) X.A (isTrue e X.env (eval e X.env)) (TP X AN σ Q) X.xe s
def PW(X:Cx)(e:Expr)(t:TT):Prop:=
 ∀(a:Sem A0) (AN:Y (A1×AE)) (s:A2) (σ:St) (H:Hp) (Q:Bool->Hp->Prop),AU X AN σ H s->t σ H Q->A7 (A8 X.prog X.w) X.A (isTrue e X.env a) (TP X AN σ Q) X.xe s
theorem PW.pt{X:Cx}{t:TT}(h:PW X e t):PT X e t:=h _
def PA(X:Cx)(es:Y Expr)(t:TA):Prop:=
 ∀(pos:Pos) (AN:Y (A1×AE)) (s:A2) (σ:St) (H:Hp) (Q:Y V->Hp->Prop),AU X AN σ H s->t σ H Q->A7 (A8 X.prog X.w) X.A (spliced (AD pos (A9 es X.env))) (AP X AN σ Q) X.xe s
def PS(X:Cx)(st:AB)(t:TS):Prop:=
 ∀(AN:Y (A1×AE)) (s:A2) (σ:St) (H:Hp) (D:C5),AU X AN σ H s->t D σ H->A7 (A8 X.prog X.w) X.A (exec st X.env) (SP X AN D) X.xe s
def QM(X:Cx)(st:Y AB)(t:TS):Prop:=
 ∀(AN:Y (A1×AE)) (s:A2) (σ:St) (H:Hp) (D:C5),AU X AN σ H s->t D σ H->A7 (A8 X.prog X.w) X.A (execs st X.env) (SP X AN D) X.xe s
theorem iM{t:Sem α}{Q b:α->A2->Prop}(h:A7 M A t Q E s)(c:∀a s,Q a s->b a s):A7 M A t b E s:=QA h c λ_ _ x=>x
end L2
namespace L2
section
variable{X:Cx}
def Lm(i:Nat):TE:=λσ H Q=>∃v,σ[i]?=Z (Z v)/\Q v H
def tC(v:V):TE:=λ_ H Q=>Q v H
theorem uO(j:X.N[i]?=Z x)(t:Xj X.env.scope x)(b:(x==("__debug__":AJ))=false:=by decide)(n:(x==("__classdict__":AJ))=false:=by decide):PE X (.Name x pos) (Lm i):=by
 intro AN s σ H Q I h;obtain⟨v,e,h⟩:=h;obtain⟨m,q,o⟩:=I.loc;obtain⟨u,r,l⟩:=o i x v j e t;have d:EP X AN σ Q u s:=⟨v,H,I,r,h⟩;rcases l with⟨a,p⟩|⟨a,c,f,g⟩
 ·exact wpAny_Name (wpAny_loadName_local I.ok.kind a q p d) b
 ·rcases a with a|a
  ·exact wpAny_Name (wpAny_loadName_cell I.ok.kind a f g d) b
  ·exact wpAny_Name (wpAny_loadName_free I.ok.kind a f g d n) b
theorem Th{i j pos}:PE X (.Constant (.int i) j pos) (tC (.int i)):=λ_ _ _ H _ I h=>wpAny_Constant_int ⟨.int i,H,I.tok _,⟨_,rfl⟩,h⟩
theorem UM{b j pos}:PE X (.Constant (.bool b) j pos) (tC (.bl b)):=λ_ _ _ H _ I h=>Constant_bool ⟨.bl b,H,I,rfl,h⟩
theorem XY{j pos}:PE X (.Constant .none j pos) (tC .non):=λ_ _ _ H _ I h=>Constant_none ⟨.non,H,I,rfl,h⟩
theorem VW{x j pos}:PE X (.Constant (.str x) j pos) (tC (.str x)):=λ_ _ _ H _ I h=>Calls.Constant_str ⟨.str x,H,I.tok _,⟨_,rfl⟩,h⟩
def Gl(X:Cx)(x:AJ):Prop:=X.env.kindOf x=Z .globalImplicit
theorem Tw{σ:St}{H:Hp}{Q:BB}(I:AU X AN σ H s)(b:Gl X x)(a:X.mg x=Z u)(h:Q u s)(c:(x==("__debug__":AJ))=false:=by decide):A7 (A8 X.prog X.w) X.A (eval (.Name x pos) X.env) Q E s:=
 Calls.Name_function_global I.ok.kind b (Calls.loadGlobal_global (by rw[I.ok.glob];exact I.mod.glob.keeps I.bk) a h) c
theorem Ke{σ:St}{H:Hp}{Q:BB}(I:AU X AN σ H s)(a:Gl X x)(b:X.mg x=O)(e:AH x=Z u)(h:Q u s)(d:x ≠ "__name__":=by decide)(c:(x==("__debug__":AJ))=false:=by decide):A7 (A8 X.prog X.w) X.A (eval (.Name x pos) X.env) Q E s:=by
 obtain⟨f,h1,h2⟩:=I.mod.blt;exact Calls.Name_function_global I.ok.kind a (Calls.loadGlobal_builtin (by rw[I.ok.glob];exact I.mod.glob.keeps I.bk) b (by rw[I.ok.blt];exact h1.keeps I.bk) ((h2 x d).trans e) h) c
theorem Tz{v:V}(b:Gl X x)(a:X.mg x=Z u)(r:As v u)(c:(x==("__debug__":AJ))=false:=by decide):PE X (.Name x pos) (tC v):=
 λ_ _ _ H _ I h=>Tw I b a ⟨v,H,I,r,h⟩ c
theorem yC{v:V}(a:Gl X x)(b:X.mg x=O)(e:AH x=Z u)(r:As v u)(d:x ≠ "__name__":=by decide)(c:(x==("__debug__":AJ))=false:=by decide):PE X (.Name x pos) (tC v):=
 λ_ _ _ H _ I h=>Ke I a b e ⟨v,H,I,r,h⟩ d c
variable{a b:Expr}{ta tb:TE}
variable{tA tB':TT}{AS:Y Expr}
def L0(t u:TT):TT:=λσ H Q=>t σ H λc H1=>if c=true then u σ H1 Q else Q false H1
def MA(t u:TT):TT:=λσ H Q=>t σ H λc H1=>if c=true then Q true H1 else u σ H1 Q
def UP(t:TT):TT:=λσ H Q=>t σ H λc H1=>Q (!c) H1
theorem cz(b:PT X a tA):PW X (.BoolOp .And [a] pos) tA:=by
 intro d AN s σ H Q I h;refine isTrue_and (iM (b AN s σ H Q I h) λc f e=>?_);cases c with
 |true=>exact isTrue_and_nil e
 |false=>exact e
theorem P8(b:PT X a tA):PW X (.BoolOp .Or [a] pos) tA:=by
 intro d AN s σ H Q I h;refine isTrue_or (iM (b AN s σ H Q I h) λc f e=>?_);cases c with
 |false=>exact isTrue_or_nil e
 |true=>exact e
theorem Tl(e:PT X a tA)(hb:PW X (.BoolOp .And (b::AS) pos) tB'):PW X (.BoolOp .And (a::b::AS) pos) (L0 tA tB'):=by
 intro d AN s σ H Q I h;refine isTrue_and (iM (e AN s σ H _ I h) λc s1 ⟨H1,I1,q1⟩=>?_);cases c with
 |true=>exact hb d AN s1 σ H1 Q I1 q1
 |false=>exact⟨H1,I1,q1⟩
theorem RU(e:PT X a tA)(hb:PW X (.BoolOp .Or (b::AS) pos) tB'):PW X (.BoolOp .Or (a::b::AS) pos) (MA tA tB'):=by
 intro d AN s σ H Q I h;refine isTrue_or (iM (e AN s σ H _ I h) λc s1 ⟨H1,I1,q1⟩=>?_);cases c with
 |true=>exact⟨H1,I1,q1⟩
 |false=>exact hb d AN s1 σ H1 Q I1 q1
theorem RY(b:PT X a tA):PT X (.UnaryOp .Not a pos) (UP tA):=by
 intro AN s σ H Q I h;exact isTrue_not (b AN s σ H (λc H1=>Q (!c) H1) I h)
def SI(ta tb:TE):TE:=λσ H Q=>ta σ H λx H1=>∃c,x=.bl c/\if c=true then tb σ H1 Q else Q (.bl false) H1
def Oy(ta:TE):TE:=λσ H Q=>ta σ H λx H1=>∃c,x=.bl c/\Q (.bl (!c)) H1
theorem T2{op}{t:TE}(h:PE X a t):PE X (.BoolOp op [a] pos) t:=λAN s σ H Q I b=>BoolOp_one (h AN s σ H Q I b)
theorem UA(d:PE X a ta)(hb:PE X (.BoolOp .And (b::AS) pos) tb):PE X (.BoolOp .And (a::b::AS) pos) (SI ta tb):=by
 intro AN s σ H Q I h;refine BoolOp_and (iM (d AN s σ H _ I h) λv s1 ⟨x,H1,I1,r1,q1⟩=>?_);obtain⟨c,rfl,q1⟩:=q1;cases r1;refine Q4 ?_;cases c with
 |true=>exact hb AN s1 σ H1 Q I1 q1
 |false=>exact⟨.bl false,H1,I1,rfl,q1⟩
theorem VZ(b:PE X a ta):PE X (.UnaryOp .Not a pos) (Oy ta):=by
 intro AN s σ H Q I h;refine UnaryOp_ (iM (b AN s σ H _ I h) λv s1 ⟨x,H1,I1,r1,q1⟩=>?_);obtain⟨c,rfl,q1⟩:=q1;cases r1;exact not_of (Q4 ⟨.bl (!c),H1,I1,rfl,q1⟩)
end
end L2
namespace L2
def uP(K:B0)(H:Hp)(a:A1)(xs:Y V):Prop:=
 Rd H a (.lst xs) ∨
  ∃(o:AE) (AQ:Array A0) (n:Nat),K.lookup a=Z o/\o.cls=.type "list" ∧ o.dict=O/\o.data=.seq AQ n/\AQ.size<=AA/\AX xs AQ.toList
def z9(K:B0)(H:Hp)(a:A1)(xs:Y V):Prop:=
 Rd H a (.tup xs) ∨
  ∃(o:AE) (AQ:Array A0) (n:Nat),K.lookup a=Z o/\(o.cls=.type "tuple" ∧ o.dict=O)/\o.data=.seq AQ n/\AQ.size<=AA/\AX xs AQ.toList
def GO:A0->S V
 |.none=>Z .non
 |.bool b=>Z (.bl b)
 |.int i _=>Z (.int i)
 |.str x _=>Z (.str x)
 |.bytes b _=>Z (.byt b)
 |.float b _=>Z (.flt b)
 |.ref a=>Z (.ref a)
 |.type n=>Z (.ty n)
 |_=>O
theorem As.abs{x:V}(r:As x u):GO u=Z x:=by
 cases x with
 |non=>cases r;rfl
 |bl _=>cases r;rfl
 |int _=>obtain⟨t,rfl⟩:=r;rfl
 |str _=>obtain⟨t,rfl⟩:=r;rfl
 |byt _=>obtain⟨t,rfl⟩:=r;rfl
 |flt _=>obtain⟨t,rfl⟩:=r;rfl
 |ref _=>cases r;rfl
 |ty _=>cases r;rfl
theorem As.inj{x y:V}{u:A0}(r:As x u)(q:As y u):x=y:=Q1 (r.abs.symm.trans q.abs)
theorem AX.inj:∀{xs ys:Y V} {us:Y A0},AX xs us->AX ys us->xs=ys
 |_,_,_,.nil,.nil=>rfl
 |_,_,_,.cons r t,.cons r' t'=>by rw[r.inj r',AX.inj t t']
section
variable{X:Cx}{σ:St}{H:Hp}{xs ys:Y V}
theorem AU.list(I:AU X AN σ H s)(h:uP X.K H a xs):∃AQ:Y A0,AX xs AQ/\PlainL s.heap a AQ.toArray/\xs.length<=AA:=by
 rcases h with h|⟨o,AQ,n,c,b,d,hs,f,r⟩
 ·obtain⟨z,AQ,n,r,e⟩:=h.ok I.hok;exact⟨AQ,r,⟨_,n,e,rfl,rfl,rfl⟩,z⟩
 ·refine⟨AQ.toList,r,⟨o,n,I.kIn a o c,b,d,by simpa using hs⟩,?_⟩;have e:=r.length;simp only[qk]at e;omega
theorem AU.tuple(I:AU X AN σ H s)(h:z9 X.K H a xs):∃AQ:Y A0,AX xs AQ/\IsTup s.heap a AQ.toArray/\xs.length<=AA:=by
 rcases h with h|⟨o,AQ,n,c,b,hs,d,r⟩
 ·obtain⟨z,AQ,r,p⟩:=h.ok I.hok;exact⟨AQ,r,p.weak,z⟩
 ·refine⟨AQ.toList,r,⟨o,I.kIn a o c,b.1,n,by simpa using hs⟩,?_⟩;have e:=r.length;simp only[qk]at e;omega
theorem AU.Nk(I:AU X AN σ H s)(h:uP X.K H a xs)(h':uP X.K H a ys):xs=ys:=by
 obtain⟨AQ,r,⟨o,n,e,_,_,d⟩,_⟩:=I.list h;obtain⟨g,f,⟨o',i,e',_,_,b⟩,_⟩:=I.list h';rw[e]at e';cases e';rw[d]at b;injection b with c _;have:AQ=g:=by simpa using congrArg Array.toList c
 subst this;exact r.inj f
theorem AU.Je(I:AU X AN σ H s)(h:z9 X.K H a xs)(h':z9 X.K H a ys):xs=ys:=by
 obtain⟨AQ,r,⟨o,e,_,n,d⟩,_⟩:=I.tuple h;obtain⟨g,f,⟨o',e',_,i,b⟩,_⟩:=I.tuple h';rw[e]at e';cases e';rw[d]at b;injection b with c _;have:AQ=g:=by simpa using congrArg Array.toList c
 subst this;exact r.inj f
end
abbrev Cx.wish(X:Cx)(E:BB):Cx:={ X with xe:=E }
abbrev Cx.nox(X:Cx):Cx:=X.wish λ_ _=>False
theorem Cx.Ok.wish{X:Cx}(ok:X.Ok)(E:BB):(X.wish E).Ok:=
 ⟨ok.mod,ok.kind,ok.glob,ok.blt,ok.above,ok.inj,ok.has,ok.cab,ok.hd,ok.frames,ok.stk,ok.exf,ok.bs,ok.bsz,ok.Xw,ok.abr,ok.DG,ok.frf⟩
theorem Cx.Ok.uQ{X:Cx}(ok:(X.wish E).Ok):X.Ok:=
 ⟨ok.mod,ok.kind,ok.glob,ok.blt,ok.above,ok.inj,ok.has,ok.cab,ok.hd,ok.frames,ok.stk,ok.exf,ok.bs,ok.bsz,ok.Xw,ok.abr,ok.DG,ok.frf⟩
section
variable{X:Cx}{σ:St}{H:Hp}
theorem AU.wish(I:AU X AN σ H s)(E:BB):AU (X.wish E) AN σ H s:=⟨I.ok.wish E,I.os,I.bare,I.base,I.loc,I.cell,I.free,I.qD,I.pin,I.hok,I.len⟩
theorem AU.uQ(I:AU (X.wish E) AN σ H s):AU X AN σ H s:=⟨I.ok.uQ,I.os,I.bare,I.base,I.loc,I.cell,I.free,I.qD,I.pin,I.hok,I.len⟩
theorem SP.uQ{D:C5}{f:Flow}{s':A2}(h:SP (X.wish E) AN D f s'):SP X AN D f s':=by
 cases f with
 |next=>obtain⟨σ',H',I,q⟩:=h;exact⟨σ',H',I.uQ,q⟩
 |brk=>obtain⟨σ',H',I,q⟩:=h;exact⟨σ',H',I.uQ,q⟩
 |cont=>obtain⟨σ',H',I,q⟩:=h;exact⟨σ',H',I.uQ,q⟩
 |ret u=>obtain⟨v,σ',H',I,r,q⟩:=h;exact⟨v,σ',H',I.uQ,r,q⟩
theorem QM.nox{st:Y AB}{t:TS}(h:QM X.nox st t):QM X st t:=λAN s σ H D I a=>
 QA (h AN s σ H D (I.wish _) a) (λ_ _ q=>q.uQ) λ_ _ z=>False.elim z
end
section
variable{X:Cx}{st:AB}{AS:Y AB}{t u:TS}{te:TE}
def N3:TS:=λD σ H=>D.nx σ H
def OO(t u:TS):TS:=λD σ H=>t { D with nx:=u D } σ H
theorem Pf:QM X [] N3:=λ_ _ σ H _ I h=>wpAny_execs_nil ⟨σ,H,I,h⟩
theorem Xx(h1:PS X st t)(h2:QM X AS u):QM X (st::AS) (OO t u):=by
 intro AN s σ H D I h;refine wpAny_execs_cons (iM (h1 AN s σ H { D with nx:=u D } I h) λf a q=>?_);cases f with
 |next=>
  obtain⟨σ',H',b,q⟩:=q;exact h2 AN a σ' H' D b q
 |ret v=>exact q
 |brk=>exact q
 |cont=>exact q
theorem AU.quiet{σ:St}{H:Hp}(I:AU X AN σ H s):interactive X.env=false:=by simp[interactive,I.ok.kind]
def VU(te:TE):TS:=λD σ H=>te σ H λ_ H1=>D.nx σ H1
theorem Kf(he:PE X e te)(hs:swapsWith e O pos.line X.env=pure false:=by rfl):PS X (.Expr e pos) (VU te):=by
 intro AN s σ H D I h;exact wpAny_Expr_any (iM (he AN s σ H _ I h) λv s1 ⟨x,H1,I1,r1,q1⟩=>⟨σ,H1,I1,q1⟩) I.quiet hs
def XG(te:TE):TS:=λD σ H=>te σ H D.rt
theorem Xy(he:PE X e te):PS X (.Return (Z e) pos) (XG te):=by
 intro AN s σ H D I h;exact wpAny_Return_some (iM (he AN s σ H _ I h) λv s1 ⟨x,H1,I1,r1,q1⟩=>⟨x,σ,H1,I1,r1,q1⟩)
def Pw(c:TT)(t u:TS):TS:=λD σ H=>c σ H λb H1=>if b=true then t D σ H1 else u D σ H1
theorem Re{a b:Y AB}{tc:TT}(e:PT X c tc)(f:QM X a t)(hb:QM X b u):PS X (.If c a b pos) (Pw tc t u):=by
 intro AN s σ H D I h;refine wpAny_If (iM (e AN s σ H _ I h) λd s1 ⟨H1,I1,q1⟩=>?_);cases d with
 |true=>exact f AN s1 σ H1 D I1 q1
 |false=>exact hb AN s1 σ H1 D I1 q1
end
abbrev TG:=V->St->Hp->(St->Hp->Prop)->Prop
abbrev DT:=Y V->St->Hp->(St->Hp->Prop)->Prop
def PG(X:Cx)(a:Expr)(t:TG):Prop:=
 ∀(AN:Y (A1×AE)) (s:A2) (σ:St) (H:Hp) (v:V) (u:A0) (Q:St->Hp->Prop),AU X AN σ H s->As v u->t v σ H Q →
  A7 (A8 X.prog X.w) X.A (assign a X.env u) (λ_ s'=>∃ σ' H',AU X AN σ' H' s'/\Q σ' H') X.xe s
def TF(X:Cx)(ts:Y Expr)(t:DT):Prop:=
 ∀(AN:Y (A1×AE)) (s:A2) (σ:St) (H:Hp) (vs:Y V) (us:Y A0) (Q:St->Hp->Prop),AU X AN σ H s->AX vs us->t vs σ H Q →
  A7 (A8 X.prog X.w) X.A (assignInOrder ((assignEach ts X.env).map (·.2)) us) (λ_ s'=>∃ σ' H',AU X AN σ' H' s'/\Q σ' H') X.xe s
section
variable{X:Cx}
def M3(i:Nat):TG:=λv σ H Q=>Q (σ.set i (Z v)) H
theorem TJ(a:X.N.Nodup)(hi:X.N[i]?=Z x)(hx:DC X.env.scope x)(b:X.fn x=true\/X.env.scope.names.lookup x=Z .local:=by first|exact .inl rfl|exact .inr rfl|assumption):PG X (.Name x pos) (M3 i):=by
 intro AN s σ H v u Q I r h;exact wpAny_assign_Name (yx I a hi hx r (λs' c=>⟨_,H,c,h⟩) b)
def OV:DT:=λvs σ H Q=>vs=[]/\Q σ H
def Sz(t:TG)(u:DT):DT:=λvs σ H Q=>∃v r,vs=v::r/\t v σ H λσ' H'=>u r σ' H' Q
theorem UR:TF X [] OV:=by
 intro AN s σ H vs us Q I r h;obtain⟨e,h⟩:=h;subst e;cases r;exact assignInOrder_nil ⟨σ,H,I,h⟩
theorem Xz{t:TG}{u:DT}(h1:PG X e t)(h2:TF X es u)(hs:(assignEach (e::es) X.env).map (·.2)=assign e X.env::(assignEach es X.env).map (·.2):=by rfl):TF X (e::es) (Sz t u):=by
 intro AN s σ H vs us Q I r h;obtain⟨v,b,e1,h⟩:=h;subst e1;cases r with
 |cons r a=>
  rw[hs];refine assignInOrder_cons (iM (h1 AN s σ H _ _ _ I r h) λ_ s1 ⟨σ1,H1,I1,q1⟩=>?_);exact h2 AN s1 σ1 H1 _ _ Q I1 a q1
def WV(K:B0)(n:Nat)(t:DT):TG:=λv σ H Q=>∃a xs,v=.ref a/\z9 K H a xs/\xs.length=n/\t xs σ H Q
theorem ay{k:Nat}{t:DT}(f:X.calm=true)(h:TF X es t)(l:(assignEach es X.env).length=n:=by rfl)(i:(assignEach es X.env).findIdx? (·.1)=O:=by rfl):PG X (.Tuple es k pos) (WV X.K n t):=by
 intro AN s σ H v u Q I r c;obtain⟨a,xs,e1,m,g,c⟩:=c;subst e1;cases r;obtain⟨AQ,d,j,q⟩:=I.tuple m;refine assign_Tuple_tuple (I.ok.hd f) j (by simp[l,<-g,d.length]) i λh' hx=>?_;have p:AU X AN σ H { s with heap:=h' }:=I.kept (t':=s.toks) λb o e=>hx b o (zI (zz e)) e;exact h AN _ σ H xs _ Q p (by simpa using d) c
def L3(te:TE)(g:TG):TS:=λD σ H=>te σ H λx H1=>g x σ H1 D.nx
theorem WP{te:TE}{g:TG}(he:PE X e te)(a:PG X tg g)(hs:swapsWithSole [tg] e pos.line X.env=pure false:=by rfl)(b:swappedStores [tg] e X.env=pure O:=by rfl)(h1:(assignEach [tg] X.env).map (·.2)=[assign tg X.env]:=by rfl):PS X (.Assign [tg] e pos) (L3 te g):=by
 intro AN s σ H D I h;refine wpAny_Assign_stores (iM (he AN s σ H _ I h) λv s1 ⟨x,H1,I1,r1,q1⟩=>?_) hs b;rw[h1];exact iM (a AN s1 σ H1 x v _ I1 r1 q1) λ_ c q=>q
theorem XC{te:TE}{pos':Pos}(a:X.N.Nodup)(hi:X.N[i]?=Z x)(hx:DC X.env.scope x)(he:PE X e te)(hs:swapsWith e (Z (.Name x pos')) pos.line X.env=pure false:=by rfl)(c:X.fn x=true\/X.env.scope.names.lookup x=Z .local:=by first|exact .inl rfl|exact .inr rfl|assumption):
  PS X (.Assign [.Name x pos'] e pos) (L3 te (M3 i)):=by
 intro AN s σ H D I h;refine wpAny_Assign_Name (iM (he AN s σ H _ I h) λv s1 ⟨y,H1,I1,r1,q1⟩=>?_) hs;exact yx I1 a hi hx r1 (λd b=>⟨_,H1,b,q1⟩) c
def TB(i j:Nat)(ta:TA):TS:=λD σ H=>ta σ H λvs H1=>∃v w,vs=[v,w]/\D.nx ((σ.set i (Z v)).set j (Z w)) H1
theorem TK{a b:Expr}{ta:TA}{px py pt:Pos}{kt k2 pt2}(n:X.calm=true)(f:X.N.Nodup)(hi:X.N[i]?=Z x)(m:X.N[j]?=Z y)(u:i≠j)(hx:X.env.scope.names.lookup x=Z .local)(l:X.env.scope.names.lookup y=Z .local)(F:PA X [a,b] ta)(B:swappedStores [.Tuple [.Name x px,.Name y py] kt pt] (.Tuple [a,b] k2 pt2) X.env=pure (Z [x,y]))(hs:swapsWithSole [.Tuple [.Name x px,.Name y py] kt pt] (.Tuple [a,b] k2 pt2) pos.line X.env=pure false:=by rfl):
  PS X (.Assign [.Tuple [.Name x px,.Name y py] kt pt] (.Tuple [a,b] k2 pt2) pos) (TB i j ta):=by
 intro AN s σ H D I h;rw[exec_Assign_arm];refine zb (KU ?_);rw[hs];refine zb (ze ?_);rw[zw (by decide)];refine zb (Tuple_ (iM (F _ AN s σ H _ I h) λus s1 ⟨vs,H1,I1,r1,q1⟩=>?_));obtain⟨v,w,e1,q1⟩:=q1;subst e1;obtain⟨d,c,rfl,J,G⟩:∃d c,us=[d,c]/\As v d/\As w c:=by
  cases r1 with
  |cons p q=>
   cases q with
   |cons p' t=>
    cases t;exact⟨_,_,rfl,p,p'⟩
 refine qS ?_ (by show 2<=AA;decide);have E:AU X AN σ H1 { s1 with heap:=s1.heap.push { cls:=.type "tuple",data:=.seq [d,c].toArray } }:=I1.kept (t':=s1.toks) λb o e=>zd _ e;rw[B];refine zb (ze ?_);show A7 (A8 X.prog X.w) X.A (do rule "assign.swapped-stores"; let items <-unpackItems (.ref s1.heap.objs.size) 2 O;assignInOrder [λv=>bindName X.env y v,λv=>bindName X.env x v] items.reverse;pure Flow.next) _ _ _;refine zb (k7 (zb (unpackItems_tuple (items:=#[d,c]) (I.ok.hd n) (IsTup.new s1.heap _) λh' z=>?_)));have K:=E.kept (h':=h') (t':=s1.toks) λb o e=>z b o (zI (zz e)) e;show A7 _ _ (assignInOrder [λv=>bindName X.env y v,λv=>bindName X.env x v] [c,d] >>= λ_=>pure Flow.next) _ _ _;refine zb (assignInOrder_cons (wpAny_bindName (yx K f m (.inl l) G (λM C=>?_) (.inr l))));refine assignInOrder_cons (wpAny_bindName (yx C f hi (.inl hx) J (λL g=>assignInOrder_nil (ze ?_)) (.inr hx)));rw[List.set_comm _ _ (KG u)]at g;exact⟨_,H1,g,q1⟩
def My(c:TT)(tb:TS):TS:=λD σ H=>∃W:Nat->St->Hp->Prop,(∃m,W m σ H)/\∀m σ H,W m σ H →
 c σ H λb H1=>if b=true then ∃N:St->Hp->Prop,(∀ σ' H',N σ' H'->∃a,a<m/\W a σ' H')/\tb { D with nx:=N,ct:=N,bk:=D.nx } σ H1 else D.nx σ H1
theorem XD{tc:TT}{tb:TS}(hp:PassesOwn (A8 X.prog X.w) X.A X.env X.xe)(q:PT X c tc)(hb:QM X body tb):PS X (.While c body [] pos) (My tc tb):=by
 intro AN s σ H D I h;obtain⟨W,⟨x,t⟩,turn⟩:=h;refine wpAny_While (codeAny_whileLoop (λn s'=>∃ σ' H',AU X AN σ' H' s'/\W n σ' H') ?_ x ⟨σ,H,I,t⟩);rintro n z ⟨e,H1,y,u⟩;refine ki hp (iM (q AN z e H1 _ y (turn n e H1 u)) λb s2 ⟨H2,I2,q2⟩=>?_);cases b with
 |true=>
  obtain⟨N,p,q2⟩:=q2;rw[zo rfl];refine ki hp (iM (hb AN s2 e H2 _ I2 q2) λf B g=>?_);cases f with
  |next=>
   obtain⟨d,a,o,m⟩:=g;obtain⟨i,j,l⟩:=p d a m;exact⟨i,j,d,a,o,l⟩
  |cont=>
   obtain⟨d,a,o,m⟩:=g;obtain⟨i,j,l⟩:=p d a m;exact⟨i,j,d,a,o,l⟩
  |brk=>exact g
  |ret v=>exact g
 |false=>
  rw[zw ZA];exact wpAny_execs_nil ⟨e,H2,I2,q2⟩
end
structure It where
 go:Nat->Hp->Prop
 yld:Nat->Hp->V->Hp->Prop
 stop:Nat->Hp->Prop
def sU(X:Cx)(AN:Y (A1×AE))(H:Hp)(b:A1):Prop:=
 H b=O/\b≠X.env.locals/\b∉X.fs/\(b∈X.ex\/X.s₀.heap.objs.size<=b)/\(∀x c,X.env.cells.lookup x=Z c->c≠b)/\∀p∈X.pn++AN,p.1≠b
theorem AU.Vx{X:Cx}{σ:St}{H H':Hp}{b:A1}(I:AU X AN σ H s)(hb:s.heap.objs.size<=b)(a:H' b=O):sU X AN H' b:=by
 refine⟨a,Kn (ZU I.lt hb),I.ajg hb,.inr (ZE I.sz hb),λx c e z=>?_,λp hp z=>?_⟩
 ·obtain⟨v,q⟩:=I.cell x c e;exact absurd (ZU q.lt (by rw[z];exact hb)) (JE _)
 ·exact absurd (ZU (zz (I.pin p hp).1) (by rw[z];exact hb)) (JE _)
structure CA (P:Program) (w:World) (K:B0) (tg:Expr) (J:It) (fp:List Addr) (it:Addr) (tn:Nat->Heap->Prop):Prop where
 mem:it∈fp
 obj:∀i h,tn i h->∀b∈fp,∃o,h.get? b=some o/\∀v,o.data≠.cell v
 keep:∀i h h',tn i h->(∀b∈fp,∀o,h.get? b=some o->h'.get? b=some o)->tn i h'
 item:∀(X:Cx),X.prog=P->X.w=w->X.K=K->X.calm=true->∀(i:Nat) (AN:List (Addr×Obj)) (s:Shared) (σ:St) (H:Hp) (E:BB),AU X AN σ H s->(∀b∈fp,sU X AN H b)->tn i s.heap->J.go i H →
  wpAny (model P w) X.A (pyNext (.ref it)) (λr s1=>∃u,r=some u ∧
   wpAny (model P w) X.A (letOwnedTupleGo tg (.ref it) u) (λ_ s2=>∃x H',AU X AN σ H' s2/\As x u/\J.yld i H x H'/\tn (i+1) s2.heap/\∀b∈fp,H' b=none) E s1) E s
 done:∀(X:Cx),X.prog=P->X.w=w->X.K=K->X.calm=true->∀(i:Nat) (AN:List (Addr×Obj)) (s:Shared) (σ:St) (H:Hp) (E:BB),AU X AN σ H s->(∀b∈fp,sU X AN H b)->tn i s.heap->J.stop i H →
  wpAny (model P w) X.A (pyNext (.ref it)) (λr s1=>r=none/\AU X AN σ H s1) E s
 self:∀(A:Around) (i:Nat) (s:Shared) (Q:BB) (E:BB),tn i s.heap->Q (.ref it) s->wpAny (model P w) A (pyIter (.ref it)) Q E s
abbrev TI:=St->Hp->(It->Hp->Prop)->Prop
def IM(X:Cx)(AN:Y (A1×AE))(σ:St)(tg:Expr)(R:It->Hp->Prop)(c:A0)(a:A2):Prop:=
 ∃(it:A1) (fp:Y A1) (tn:Nat->A6->Prop) (J:It) (H':Hp),c=.ref it/\AU X AN σ H' a/\CA X.prog X.w X.K tg J fp it tn/\tn 0 a.heap/\(∀b∈fp,sU X AN H' b)/\R J H'
def PI(X:Cx)(tg iter:Expr)(b:TI):Prop:=
 ∀(AN:Y (A1×AE)) (s:A2) (σ:St) (H:Hp) (R:It->Hp->Prop),AU X AN σ H s->b σ H R →
  A7 (A8 X.prog X.w) X.A (eval iter X.env) (λv a=>A7 (A8 X.prog X.w) X.A (pyIter v) (IM X AN σ tg R) X.xe a) X.xe s
theorem Jf{o:AE}{n:String}{vs:Array A0}{Q:Unit->A2->Prop}(ho:s.heap.get? it=Z o)(b:o.cls=.type n)(d:o.data=.fields vs)(c:["enumerate","zip","dict_itemiterator","dict_reverseitemiterator","odict_iterator","itertools.zip_longest","itertools.pairwise"].contains n=false)(a:Q () s):A7 M A (letOwnedTupleGo tg (.ref it) u) Q E s:=by
 unfold letOwnedTupleGo;cases tg<;>first
  |exact ze a
  |(cases u<;>first
    |exact ze a
    |(refine zb (Kt ho ?_)
      rw[b,d];show A7 M A (if(["enumerate","zip","dict_itemiterator","dict_reverseitemiterator","odict_iterator","itertools.zip_longest","itertools.pairwise"].contains n&&vs[0]?==Z (rawInt _))=true then _ else _) Q E s;rw[zw (by intro h;rw[c,kR]at h;cases h)];exact ze a))
def FD(K:B0)(a:A1):It:=
 ⟨λi H=>∃xs x,uP K H a xs/\xs[i]?=Z x,λi H x H'=>H'=H/\∀xs,uP K H a xs->xs[i]?=Z x,λi H=>∃xs,uP K H a xs/\xs.length<=i⟩
def GE(K:B0)(a:A1):It:=
 ⟨λi H=>∃xs x,z9 K H a xs/\xs[i]?=Z x,λi H x H'=>H'=H/\∀xs,z9 K H a xs->xs[i]?=Z x,λi H=>∃xs,z9 K H a xs/\xs.length<=i⟩
def F'(lo:Int)(n:Nat):It:=⟨λi _=>i<n,λi H x H'=>H'=H/\x=.int (lo+i),λi _=>n<=i⟩
theorem Vy(a it:A1):CA P w K tg (FD K a) [it] it (λi h=>h.IsListIter it a i) where
 mem:=by simp
 obj:=λi h st b hb=>by
  have e:b=it:=by simpa using hb
  subst e;obtain⟨o,e,c,d⟩:=st;exact⟨o,e,λv z=>by rw[d]at z;cases z⟩
 keep:=λi h h' st k=>st.at λo e=>k it (by simp) o e
 item:=by
  intro X j l m B i AN s σ H E I f st q;subst j l m;obtain⟨xs,x,g,hx⟩:=q;obtain⟨AQ,A,p,J⟩:=I.list g;obtain⟨u,M,D⟩:=A.get hx;obtain⟨f0,f1,f2,y,n,t⟩:=f it (by simp);refine wpAny_pyNext_list_item st p.isList (x:=u) (by simpa using M) λh' C F=>?_;have G:AU X AN σ H { s with heap:=h' }:=I.turned (t':=s.toks) (λb o hb e=>(F.2 b hb).trans e) f0 f1 y n t;obtain⟨o,e,c,d⟩:=id C;exact⟨u,rfl,Jf (s:={ s with heap:=h' }) e c d (by decide) ⟨x,H,G,D,⟨rfl,λys L=>by rw[I.Nk L g];exact hx⟩,C,λb hb=>(f b hb).1⟩⟩
 done:=by
  intro X j l m B i AN s σ H E I f st q;subst j l m;obtain⟨xs,g,hx⟩:=q;obtain⟨AQ,A,p,J⟩:=I.list g;obtain⟨f0,f1,f2,y,n,t⟩:=f it (by simp);have N:=A.length;exact wpAny_pyNext_list_end (I.ok.hd B) st p.isList (by simp;omega) λh' eb=>⟨rfl,I.turned (t':=s.toks) (λb o hb e=>eb b o hb e) f0 f1 y n t⟩
 self:=λ_ _ _ _ _ st h=>wpAny_pyIter_listiter st h
theorem QS(a it:A1):CA P w K tg (GE K a) [it] it (λi h=>h.IsTupleIter it a i) where
 mem:=by simp
 obj:=λi h st b hb=>by
  have e:b=it:=by simpa using hb
  subst e;obtain⟨o,e,c,d⟩:=st;exact⟨o,e,λv z=>by rw[d]at z;cases z⟩
 keep:=λi h h' st k=>st.at λo e=>k it (by simp) o e
 item:=by
  intro X j l m B i AN s σ H E I f st q;subst j l m;obtain⟨xs,x,g,hx⟩:=q;obtain⟨AQ,A,p,J⟩:=I.tuple g;obtain⟨u,M,D⟩:=A.get hx;obtain⟨f0,f1,f2,y,n,t⟩:=f it (by simp);refine wpAny_pyNext_tuple_item st (show s.heap.IsTuple a AQ.toArray from p) (x:=u) (by simpa using M) λh' C F=>?_;have G:AU X AN σ H { s with heap:=h' }:=I.turned (t':=s.toks) (λb o hb e=>(F.2 b hb).trans e) f0 f1 y n t;obtain⟨o,e,c,d⟩:=id C;exact⟨u,rfl,Jf (s:={ s with heap:=h' }) e c d (by decide) ⟨x,H,G,D,⟨rfl,λys L=>by rw[I.Je L g];exact hx⟩,C,λb hb=>(f b hb).1⟩⟩
 done:=by
  intro X j l m B i AN s σ H E I f st q;subst j l m;obtain⟨xs,g,hx⟩:=q;obtain⟨AQ,A,p,J⟩:=I.tuple g;obtain⟨f0,f1,f2,y,n,t⟩:=f it (by simp);have N:=A.length;exact wpAny_pyNext_tuple_end (I.ok.hd B) st (show s.heap.IsTuple a AQ.toArray from p) (by simp;omega) λh' eb=>⟨rfl,I.turned (t':=s.toks) (λb o hb e=>eb b o hb e) f0 f1 y n t⟩
 self:=λ_ _ _ _ _ st h=>wpAny_pyIter_tupleiter st h
theorem QT(it:A1)(lo:Int)(n:Nat):CA P w K tg (F' lo n) [it] it (λi h=>IsRangeIter h it (lo+(i:Nat)*1) ((n:Int)-(i:Nat)) 1) where
 mem:=by simp
 obj:=λi h st b hb=>by
  have e:b=it:=by simpa using hb
  subst e;exact⟨_,st,λv z=>by
   have u:Data.fields _=Data.cell v:=z;cases u⟩
 keep:=λi h h' st k=>k it (by simp) _ st
 item:=by
  intro X f m p g i AN s σ H E I a st d;subst f m p;obtain⟨f0,f1,f2,c,j,l⟩:=a it (by simp);have W:=Walks.range (prog:=X.prog) (w:=X.w) (I.ok.hd g) it lo 1 n;refine W.item i s _ _ d st λv h' tk x q kk=>?_;obtain⟨t,rfl⟩:=x;have y:AU X AN σ H { s with heap:=h',toks:=tk }:=I.turned (λb o hb e=>kk b o (by simpa using hb) e) f0 f1 c j l;refine⟨_,rfl,Jf (s:={ s with heap:=h',toks:=tk }) (n :="range_iterator") q Y3 Y3 (by decide) ⟨.int (lo+i),H,y,⟨t,?_⟩,⟨rfl,rfl⟩,q,λb hb=>(a b hb).1⟩⟩;rw[Int.mul_one]
 done:=by
  intro X f m p g i AN s σ H E I a st d;subst f m p;obtain⟨f0,f1,f2,c,j,l⟩:=a it (by simp);exact wpAny_pyNext_range_end (I.ok.hd g) st (by have:n<=i:=d;omega) λh' eb=>⟨rfl,I.turned (t':=s.toks) (λb o hb e=>eb b o hb e) f0 f1 c j l⟩
 self:=λ_ _ _ _ _ st h=>wpAny_pyIter_rangeiter st h
end L2
namespace L2
section
variable{X:Cx}
theorem XF{σ:St}{H:Hp}{R:It->Hp->Prop}{lo hi:Int}{t u v:Tok}{tk:Nat}(I:AU X AN σ H s)(h1 : -(2 ^ 62)<=lo)(h2:lo<2 ^ 62)(c : -(2 ^ 62)<=hi)(d:hi<2 ^ 62)(q:R (F' lo (hi-lo).toNat) H):A7 (A8 X.prog X.w) X.A (pyIter (.ref s.heap.objs.size)) (IM X AN σ tg R) E { s with heap:=s.heap.push { cls:=.type "range",data:=.fields #[.int lo t,.int hi u,.int 1 v] },toks:=tk }:=by
 refine wpAny_pyIter_range (IsRange.new ..) (small_one h1 h2 c d) ?_;have a:AU X AN σ H { s with heap:=s.heap.push { cls:=.type "range",data:=.fields #[.int lo t,.int hi u,.int 1 v] },toks:=tk }:=I.kept λb o e=>zd _ e;refine⟨(s.heap.push { cls:=.type "range",data:=.fields #[.int lo t,.int hi u,.int 1 v] }).objs.size,[(s.heap.push { cls:=.type "range",data:=.fields #[.int lo t,.int hi u,.int 1 v] }).objs.size],_,_,H,rfl,
  a.kept (t':=tk) λb o e=>zd _ e,QT _ lo (hi-lo).toNat,?_,λb hb=>?_,q⟩
 ·have e1:lo+((0:Nat):Int)*1=lo:=by simp
  have e2:(((hi-lo).toNat:Nat):Int)-((0:Nat):Int)=Builtin.Range.rangeSize lo hi 1:=by rw[rangeSize_one];split<;>omega
  show IsRangeIter _ _ (lo+((0:Nat):Int)*1) ((((hi-lo).toNat:Nat):Int)-((0:Nat):Int)) 1;rw[e1,e2];exact zv _ rfl
 ·have e:b=(s.heap.push { cls:=.type "range",data:=.fields #[.int lo t,.int hi u,.int 1 v] }).objs.size:=by simpa using hb
  subst e;exact a.Vx (zk _) (a.hok.fresh (zk _))
def WU(ta:TA):TI:=λσ H R=>ta σ H λvs H1=>∃j:Int,vs=[.int j] ∧ -(2 ^ 62)<=j/\j<2 ^ 62/\R (F' 0 j.toNat) H1
theorem Vz{a:Expr}{ta:TA}{p:Pos}(d:Gl X "range")(b:X.mg "range"=O)(c:PA X [a] ta)(hs:A9 [a] X.env=[(false,eval a X.env)]:=by rfl):PI X tg (.Call (.Name "range" p) [a] [] pos) (WU ta):=by
 intro AN s σ H R I h;refine Call_ (Ke I d b boot_range (PyProof.Rows.callWith_type1 (iM (c pos AN s σ H _ I h) λus s1 ⟨vs,H1,I1,r1,q1⟩=>?_) hs Y3));obtain⟨j,e,q1,q2,q⟩:=q1;subst e;cases r1 with
 |cons r f=>
  cases f;obtain⟨t,rfl⟩:=r;exact call_range_1 (XF I1 (by omega) (by omega) q1 q2 (by simpa using q))
def SD(c:TI)(g:TG)(tb:TS):TS:=λD σ H=>c σ H λJ H1=>∃W:Nat->Nat->St->Hp->Prop,(∃m,W 0 m σ H1)/\∀i m σ H,W i m σ H →
 (J.stop i H/\D.nx σ H)\/(J.go i H/\∃N:St->Hp->Prop,(∀ σ' H',N σ' H'->∃a,a<m/\W (i+1) a σ' H')/\∀x H',J.yld i H x H'->g x σ H' λb H2=>tb { D with nx:=N,ct:=N,bk:=D.nx } b H2)
def Ab(fp:Y A1)(h:A6):Y (A1×AE):=fp.filterMap λb=>(h.get? b).map λo=>(b,o)
theorem sV{b:A1}{o:AE}(hb:b∈fp)(e:h.get? b=Z o):(b,o)∈Ab fp h:=List.mem_filterMap.mpr ⟨b,hb,by rw[e];rfl⟩
theorem VB{p:A1×AE}(hp:p∈Ab fp h):p.1∈fp/\h.get? p.1=Z p.2:=by
 obtain⟨b,hb,e⟩:=List.mem_filterMap.mp hp;cases q:h.get? b with
 |none=>rw[q]at e;cases e
 |some o=>
  rw[q]at e;have e':(b,o)=p:=Q1 e;subst e';exact⟨hb,q⟩
theorem AU.pinned{σ:St}{H:Hp}(I:AU X AN σ H s)(a:∀b∈fp,sU X AN H b)(ho:∀b∈fp,∃o,s.heap.get? b=Z o/\∀v,o.data≠.cell v):AU X (AN++Ab fp s.heap) σ H s:=
 I.Kd λp hp=>(List.mem_append.mp hp).elim (λz=>I.pin p (Zs _ z)) λz=>by
  obtain⟨hb,e⟩:=VB z;obtain⟨f0,f1,f2,_⟩:=a p.1 hb;obtain⟨o,e',d⟩:=ho p.1 hb;rw[e]at e';cases e';exact⟨e,f0,f1,f2,d⟩
theorem AU.uR{pl:Y (A1×AE)}{σ:St}{H:Hp}(I:AU X (AN++pl) σ H s):AU X AN σ H s:=I.Kd λp hp=>I.pin p (Zs _ (zg _ hp))
theorem XH{F:TI}{g:TG}{tb:TS}(hp:PassesOwn (A8 X.prog X.w) X.A X.env X.xe)(C:X.calm=true)(hi:PI X tg iter F)(hg:PG X tg g)(hb:QM X body tb)(hs:∀x,foldedSetIterable iter X.env x=pure x:=by intro _;rfl):PS X (.For tg iter body [] pos) (SD F g tb):=by
 intro AN s σ H D I h;refine wpAny_For (iM (hi AN s σ H _ I h) λv s1 h1=>iM h1 λa3 s2 h2=>?_) hs;obtain⟨it,fp,tn,J,H2,e,I2,T,a1,f2,W,⟨P,M⟩,turn⟩:=h2;subst e;have y:∀{H':Hp},(∀b∈fp,H' b=O)->∀b∈fp,sU X AN H' b:=λhn b hb=>⟨hn b hb,(f2 b hb).2⟩;refine codeAny_forLoop_any (λn s'=>∃i σ' H',AU X AN σ' H' s'/\tn i s'.heap/\(∀b∈fp,H' b=O)/\W i n σ' H') ?_ P ⟨0,σ,H2,I2,a1,λb hb=>(f2 b hb).1,M⟩;rintro n E ⟨i,q,t,G,B,K,w3⟩;rcases turn i n q t w3 with⟨a2,Q⟩|⟨go,N,U,step⟩
 ·refine ki hp (iM (T.done X Y3 Y3 Y3 C i AN E q t X.xe G (y K) B a2) λr s4 ⟨hr,I4⟩=>?_);subst hr;exact wpAny_execs_nil ⟨q,t,I4,Q⟩
 ·refine ki hp (iM (T.item X Y3 Y3 Y3 C i AN E q t X.xe G (y K) B go) λr s4 ⟨u,hr,h4⟩=>?_);subst hr;refine ki hp (iM h4 λ_ s5 ⟨x,H5,I5,r5,y5,st5,fr5⟩=>?_);have a0:=I5.pinned (y fr5) (T.obj _ _ st5);refine ki hp (iM (hg _ s5 q H5 x u _ a0 r5 (step x H5 y5)) λ_ s6 ⟨σ6,H6,I6,q6⟩=>?_);refine ki hp (iM (hb _ s6 σ6 H6 _ I6 q6) λf z l=>?_);have again:∀{j:St} {a:Hp},AU X (AN++Ab fp s5.heap) j a z->N j a->∃m,m<n/\∃i σ' H',AU X AN σ' H' z/\tn i z.heap/\(∀b∈fp,H' b=O)/\W i m σ' H':=λ{j a} c p=>by
   obtain⟨m',hm,w7⟩:=U j a p;refine⟨m',hm,i+1,j,a,c.uR,T.keep _ _ _ st5 λb hb o e=>(c.pin (b,o) (Zs _ (Zs _ (sV hb e)))).1,λb hb=>?_,w7⟩;obtain⟨o,e,d⟩:=T.obj _ _ st5 b hb;exact(c.pin (b,o) (Zs _ (Zs _ (sV hb e)))).2.1
  cases f with
  |next=>obtain⟨j,a,c,p⟩:=l;exact again c p
  |cont=>obtain⟨j,a,c,p⟩:=l;exact again c p
  |brk=>obtain⟨j,a,c,l⟩:=l;exact⟨j,a,c.uR,l⟩
  |ret v=>obtain⟨x7,j,a,c,L,l⟩:=l;exact⟨x7,j,a,c.uR,L,l⟩
end
end L2
namespace L2
abbrev R2:=V->V->Hp->VK->Prop
def vR(X:Cx)(f:A0->A0->Sem A0)(r:R2):Prop:=
 ∀(AN:Y (A1×AE)) (s:A2) (σ:St) (H:Hp) (x y:V) (v u:A0) (Q:VK),AU X AN σ H s->As x v->As y u->r x y H Q →
  A7 (A8 X.prog X.w) X.A (f v u) (EP X AN σ Q) X.xe s
def DF(X:Cx)(f:A0->Sem A0)(r:V->Hp->VK->Prop):Prop:=
 ∀(AN:Y (A1×AE)) (s:A2) (σ:St) (H:Hp) (x:V) (v:A0) (Q:VK),AU X AN σ H s->As x v->r x H Q →
  A7 (A8 X.prog X.w) X.A (f v) (EP X AN σ Q) X.xe s
def f9(X:Cx)(f:A0)(r:Y V->Hp->VK->Prop):Prop:=
 ∀(AN:Y (A1×AE)) (s:A2) (σ:St) (H:Hp) (xs:Y V) (us:Y A0) (Q:VK),AU X AN σ H s->AX xs us->r xs H Q →
  A7 (A8 X.prog X.w) X.A (call f us) (EP X AN σ Q) X.xe s
def UU(X:Cx)(r:V->Hp->(Bool->Hp->Prop)->Prop):Prop:=
 ∀(AN:Y (A1×AE)) (s:A2) (σ:St) (H:Hp) (x:V) (v:A0) (Q:Bool->Hp->Prop),AU X AN σ H s->As x v->r x H Q →
  A7 (A8 X.prog X.w) X.A (truthy v) (TP X AN σ Q) X.xe s
def F0(r:R2)(ta tb:TE):TE:=λσ H Q=>ta σ H λx H1=>tb σ H1 λy H2=>r x y H2 Q
def IA(r:V->Hp->VK->Prop)(ta:TE):TE:=λσ H Q=>ta σ H λx H1=>r x H1 Q
def rI(C:Int->Int->Prop)(g:Int->Int->V):R2:=λx y H Q=>∃i j,x=.int i/\y=.int j/\C i j/\Q (g i j) H
def DJ(g:Int->Int->V):R2:=λx y H Q=>∃i j,x=.int i/\y=.int j/\Q (g i j) H
def rU(g:Int->V):V->Hp->VK->Prop:=λx H Q=>∃i,x=.int i/\Q (g i) H
section
variable{X:Cx}{a b:Expr}{ta tb tc:TE}
theorem GM(d:PE X a ta)(hb:PE X b tb){σ:St}{H:Hp}{R:V->V->Hp->Prop}(I:AU X AN σ H s)(h:ta σ H λx H1=>tb σ H1 λy H2=>R x y H2){Q:BB}{f:A0->A0->Sem A0}(e:∀v u c x y H2,AU X AN σ H2 c->As x v->As y u->R x y H2->A7 (A8 X.prog X.w) X.A (f v u) Q X.xe c):
  A7 (A8 X.prog X.w) X.A (eval a X.env) (λv i=>A7 (A8 X.prog X.w) X.A (eval b X.env) (λu g=>A7 (A8 X.prog X.w) X.A (f v u) Q X.xe g) X.xe i) X.xe s:=by
 refine iM (d AN s σ H _ I h) λv s1 ⟨x,H1,I1,r1,q1⟩=>?_;refine iM (hb AN s1 σ H1 _ I1 q1) λu c ⟨y,H2,I2,r2,q2⟩=>?_;exact e v u c x y H2 I2 r1 r2 q2
theorem OZ{op:Operator}{r:R2}(ho:vR X (binaryOp op) r)(d:PE X a ta)(hb:PE X b tb):PE X (.BinOp a op b pos) (F0 r ta tb):=by
 intro AN s σ H Q I h;exact wpAny_BinOp (GM d hb I h λv u f x y H2 c g e q=>ho AN f σ H2 x y v u Q c g e q)
theorem Sm{op:UnaryOp}{r:V->Hp->VK->Prop}(ho:DF X (unaryOp op) r)(b:PE X a ta):PE X (.UnaryOp op a pos) (IA r ta):=by
 intro AN s σ H Q I h;exact UnaryOp_ (iM (b AN s σ H _ I h) λv s1 ⟨x,H1,I1,r1,q1⟩=>ho AN s1 σ H1 x v Q I1 r1 q1)
theorem FB{f:A0->A0->Sem A0}{C:Int->Int->Prop}{g:Int->Int->Int}
  (a:∀(i j:Int) (t u:Tok) (s:A2) (Q:BB) (E:BB),C i j->Q (.int (g i j) s.toks) { s with toks:=s.toks+1 }->A7 (A8 X.prog X.w) X.A (f (.int i t) (.int j u)) Q E s):
  vR X f (rI C λi j=>.int (g i j)):=by
 intro AN s σ H x y v u Q I d c h;obtain⟨i,j,rfl,rfl,b,q⟩:=h;obtain⟨t,rfl⟩:=d;obtain⟨e,rfl⟩:=c;exact a i j t e s _ _ b ⟨.int (g i j),H,I.tok _,⟨_,rfl⟩,q⟩
theorem LU{f:A0->A0->Sem A0}{g:Int->Int->Int}
  (d:∀(i j:Int) (t u:Tok) (s:A2) (Q:BB) (E:BB),Q (.int (g i j) s.toks) { s with toks:=s.toks+1 }->A7 (A8 X.prog X.w) X.A (f (.int i t) (.int j u)) Q E s):
  vR X f (DJ λi j=>.int (g i j)):=by
 intro AN s σ H x y v u Q I a c h;obtain⟨i,j,rfl,rfl,q⟩:=h;obtain⟨t,rfl⟩:=a;obtain⟨b,rfl⟩:=c;exact d i j t b s _ _ ⟨.int (g i j),H,I.tok _,⟨_,rfl⟩,q⟩
theorem FY{f:A0->A0->Sem A0}{g:Int->Int->Bool}
  (a:∀(i j:Int) (t u:Tok) (s:A2) (Q:BB) (E:BB),Q (.bool (g i j)) s->A7 (A8 X.prog X.w) X.A (f (.int i t) (.int j u)) Q E s):
  vR X f (DJ λi j=>.bl (g i j)):=by
 intro AN s σ H x y v u Q I b c h;obtain⟨i,j,rfl,rfl,q⟩:=h;obtain⟨t,rfl⟩:=b;obtain⟨d,rfl⟩:=c;exact a i j t d s _ _ ⟨.bl (g i j),H,I,rfl,q⟩
def YV(i j:Int):Prop:=0<j/\j<1073741824
def Po(i j:Int):Prop:=0<=j/\j<=1000000/\i.natAbs<2 ^ 64
def Hc(i j:Int):Prop:=(-(2 ^ 64)<i/\i<2 ^ 64)\/(-(2 ^ 64)<j/\j<2 ^ 64)
theorem Hc.ok{i j:Int}(h:Hc i j):IntMulOk i j:=by
 rcases h with⟨h1,h2⟩|⟨h1,h2⟩
 ·exact .of_left (intBits_le_64 h1 h2)
 ·exact .of_right (intBits_le_64 h1 h2)
theorem Os:vR X (binaryOp .Add) (DJ λi j=>.int (i+j)):=LU λ_ _ _ _ _ _ _ q=>add_int q
theorem S2:vR X (binaryOp .Sub) (DJ λi j=>.int (i-j)):=LU λ_ _ _ _ _ _ _ q=>sub_int q
theorem WB:vR X (binaryOp .Mult) (rI Hc λi j=>.int (i*j)):=FB λ_ _ _ _ _ _ _ a q=>mul_int q a.ok
theorem YN:vR X (binaryOp .FloorDiv) (rI YV λi j=>.int (i / j)):=FB λi j _ _ _ _ _ a q=>by
 have h1:(0:Int)<j:=a.1;have h2:j<1073741824:=a.2;exact floordiv_int (by omega) (by rw[Int.fdiv_eq_ediv_of_nonneg i (by omega)];exact q) (.inl (PyProof.noPylong_small (by omega)))
theorem aw:vR X (binaryOp .Mod) (rI (λ_ j=>0<j) λi j=>.int (i%j)):=FB λi j _ _ _ _ _ a q=>by
 have h1:(0:Int)<j:=a;exact mod_int' (by omega) (by rw[Int.fmod_eq_emod_of_nonneg i (by omega)];exact q)
theorem NH:vR X (binaryOp .Pow) (rI Po λi j=>.int (i ^ j.toNat)):=FB λ_ _ _ _ _ _ _ a q=>pow_int_small a.1 a.2.1 a.2.2 q
theorem UN{f:A0->Sem A0}{g:Int->Int}
  (b:∀(i:Int) (t:Tok) (s:A2) (Q:BB) (E:BB),Q (.int (g i) s.toks) { s with toks:=s.toks+1 }->A7 (A8 X.prog X.w) X.A (f (.int i t)) Q E s):
  DF X f (rU λi=>.int (g i)):=by
 intro AN s σ H x v Q I a h;obtain⟨i,rfl,q⟩:=h;obtain⟨t,rfl⟩:=a;exact b i t s _ _ ⟨.int (g i),H,I.tok _,⟨_,rfl⟩,q⟩
theorem Pp:DF X (unaryOp .USub) (rU λi=>.int (-i)):=UN λ_ _ _ _ _ q=>neg_int q
theorem QW{σ:St}{H:Hp}{Q:VK}{k a:Bool}(I:AU X AN σ H s)(q:Q (.bl k) H)(e:k=a):EP X AN σ Q (.bool a) s:=by
 subst e;exact⟨.bl k,H,I,rfl,q⟩
theorem Ps:vR X (AG .Lt) (DJ λi j=>.bl (decide (i<j))):=FY λ_ _ _ _ _ _ _ q=>lt_int q
theorem R':vR X (AG .LtE) (DJ λi j=>.bl (decide (i<=j))):=FY λ_ _ _ _ _ _ _ q=>le_int q
theorem XE:vR X (AG .Gt) (DJ λi j=>.bl (decide (j<i))):=FY λ_ _ _ _ _ _ _ q=>gt_int q
theorem VA:vR X (AG .GtE) (DJ λi j=>.bl (decide (j<=i))):=FY λ_ _ _ _ _ _ _ q=>ge_int q
theorem VD:vR X (AG .In) (λx y H Q=>∃i j,x=.str i/\y=.str j/\Q (.bl (!(Builtin.Str.occurrences j i 0 j.length 1).isEmpty)) H):=by
 intro AN s σ H x y v u Q I a b h;obtain⟨i,j,rfl,rfl,q⟩:=h;obtain⟨t,rfl⟩:=a;obtain⟨c,rfl⟩:=b;exact in_str (QW I q Y3)
theorem P':vR X (AG .Is) (λx y H Q=>y=.non/\Q (.bl (decide (x=.non))) H):=by
 intro AN s σ H x y v u Q I a b h;obtain⟨rfl,q⟩:=h;cases b;refine is_none_gen (QW I q ?_);cases x<;>first
  |(cases a;rfl)
  |(obtain⟨t,rfl⟩:=a;rfl)
theorem XA:vR X (AG .IsNot) (λx y H Q=>y=.non/\Q (.bl (!decide (x=.non))) H):=by
 intro AN s σ H x y v u Q I a b h;obtain⟨rfl,q⟩:=h;cases b;refine isnot_none_gen (QW I q ?_);cases x<;>first
  |(cases a;rfl)
  |(obtain⟨t,rfl⟩:=a;rfl)
theorem bN(b:Expr)(h:op≠.In:=by decide)(h2:op≠.NotIn:=by decide):behindInMarks op b=false:=by
 have e1:(op==CmpOp.In)=false:=by cases op<;>first|rfl|exact absurd Y3 h
 have e2:(op==CmpOp.NotIn)=false:=by cases op<;>first|rfl|exact absurd Y3 h2
 cases b<;>simp[behindInMarks,e1,e2]
theorem SZ{r:R2}(ho:vR X (AG op) r)(d:PE X a ta)(hb:PE X b tb)(f:behindInMarks op b=false):PE X (.Compare a [op] [b] pos) (F0 r ta tb):=by
 intro AN s σ H Q I h;exact wpAny_Compare1 (GM d hb I h λv u g x y H2 c i e q=>ho AN g σ H2 x y v u Q c i e q) f
def XL(t:TE):TT:=λσ H Q=>t σ H λx H'=>∃k,x=.bl k/\Q k H'
theorem OL{r:R2}(ho:vR X (AG op) r)(f:PE X a ta)(hb:PE X b tb)(d:behindInMarks op b=false):PT X (.Compare a [op] [b] pos) (XL (F0 r ta tb)):=by
 intro AN s σ H Q I h;refine wpAny_isTrue_Compare1 (iM (f AN s σ H _ I h) λv s1 ⟨x,H1,I1,r1,q1⟩=>iM (hb AN s1 σ H1 _ I1 q1) λu s2 ⟨y,H2,I2,r2,q2⟩=>
  iM (ho AN s2 σ H2 x y v u _ I2 r1 r2 q2) λc s3 ⟨z,H3,I3,r3,k,e,q3⟩=>?_) d
 subst e;cases r3;exact Q4 ⟨H3,I3,q3⟩
def XJ(r c:R2)(ta tb tc:TE):TE:=λσ H Q=>ta σ H λx H1=>tb σ H1 λy H2=>r x y H2 λz a=>∃k,z=.bl k ∧
 (if k=true then tc σ a λd b=>c y d b Q else Q (.bl false) a)
theorem XM{f:CmpOp}{r g:R2}(ho:vR X (AG op) r)(j:vR X (AG f) g)(l:PE X a ta)(hb:PE X b tb)(i:PE X c tc)(m:lastMarks [op,f] [b,c]=false:=by with_unfolding_all rfl):PE X (.Compare a [op,f] [b,c] pos) (XJ r g ta tb tc):=by
 intro AN s σ H Q I h;refine Compare_chain (iM (l AN s σ H _ I h) λv s1 ⟨x,H1,I1,r1,q1⟩=>chain_link (iM (hb AN s1 σ H1 _ I1 q1) λu s2 ⟨y,H2,I2,r2,q2⟩=>
  iM (ho AN s2 σ H2 x y v u _ I2 r1 r2 q2) λd s3 ⟨z,H3,I3,r3,k,e,q3⟩=>?_)) m
 subst e;cases r3;refine Q4 ?_;cases k with
 |false=>exact ite_ff ⟨.bl false,H3,I3,rfl,q3⟩
 |true=>exact ite_tt (chain_last (iM (i AN s3 σ H3 _ I3 q3) λw' s4 ⟨z',H4,I4,r4,q4⟩=>j AN s4 σ H4 y z' u w' Q I4 r2 r4 q4))
def GW(K:B0)(x:V)(H:Hp)(k:Bool):Prop:=
 match x with
 |.non=>k=false
 |.bl b=>k=b
 |.int i=>k=(i != 0)
 |.str y=>y.length<=AA/\k=((y.length:Int) != 0)
 |.byt y=>y.size<=AA/\k=((y.size:Int) != 0)
 |.ref p=>(∃xs,uP K H p xs/\k=!xs.isEmpty)\/(∃xs,z9 K H p xs/\k=!xs.isEmpty)\/∃AO,H p=Z (.dK AO)/\k=!AO.isEmpty
 |_=>False
theorem QX{AO:Y (κ×V)}{vs:Y (κ×A0)}(r:KV AO vs):(!vs.isEmpty)=!AO.isEmpty:=by
 cases r<;>rfl
theorem DK{xs:Y V}(r:AX xs AQ):(!AQ.toArray.isEmpty)=!xs.isEmpty:=by
 cases r<;>simp
theorem Ad:(AA:Nat)<2 ^ 63:=by rw[sizeLine_eq];decide
theorem Pl:UU X (λx H Q=>∃k,GW X.K x H k/\Q k H):=by
 intro AN s σ H x v Q I a h;obtain⟨k,e,q⟩:=h;have j:=Ad;have hs:AA=16777216:=sizeLine_eq;cases x with
 |non=>
  cases a;have e':k=false:=e;subst e';exact truthy_none ⟨H,I,q⟩
 |bl b=>
  cases a;have e':k=b:=e;subst e';exact Q4 ⟨H,I,q⟩
 |int i=>
  obtain⟨t,rfl⟩:=a;have e':k=(i != 0):=e;subst e';exact PySem.P.truthy_int ⟨H,I,q⟩
 |str y=>
  obtain⟨t,rfl⟩:=a;obtain⟨g,e'⟩:y.length<=AA/\k=((y.length:Int) != 0):=e;subst e';exact PySem.P.truthy_str (by omega) ⟨H,I.tok _,q⟩
 |byt y=>
  obtain⟨t,rfl⟩:=a;obtain⟨g,e'⟩:y.size<=AA/\k=((y.size:Int) != 0):=e;subst e';exact PySem.W.truthy_bytes (by omega) ⟨H,I.tok _,q⟩
 |ref p=>
  cases a;have e':(∃xs,uP X.K H p xs/\k=!xs.isEmpty)\/(∃xs,z9 X.K H p xs/\k=!xs.isEmpty)\/∃AO,H p=Z (.dK AO)/\k=!AO.isEmpty:=e;rcases e' with⟨xs,hx,e'⟩|⟨xs,hx,e'⟩|⟨AO,hx,e'⟩
  ·subst e';obtain⟨AQ,r,pl,d⟩:=I.list hx;have c:=r.length;exact wpAny_truthy_list pl.isList (by simp only[zC];omega) ⟨H,I.tok _,by rw[DK r];exact q⟩
  ·subst e';obtain⟨AQ,r,pl,d⟩:=I.tuple hx;have c:=r.length;exact truthy_tuple pl (by simp only[zC];omega) ⟨H,I.tok _,by rw[DK r];exact q⟩
  ·subst e';obtain⟨d,f,vs,r,m⟩:AO.length<=AA/\(p==sysModules)=false/\∃vs,KV AO vs/\s.heap.DictOf (bx X.prog X.w) p vs:=I.hok p _ hx;have c:AO.length=vs.length:=Paired.length r;exact wpAny_truthy_dict f m (by omega) ⟨H,I.tok _,by rw[QX r];exact q⟩
 |_=>exact(show False from e).elim
theorem XQ(c:PE X a ta)(he:∀b,isTrue a X.env b=(do let v <-b;standAt a.pos;holding [v] (truthy v))):
  PT X a (λσ H Q=>ta σ H λx H'=>∃k,GW X.K x H' k/\Q k H'):=by
 intro AN s σ H Q I h;exact isTrue_plain (iM (c AN s σ H _ I h) λv s1 ⟨x,H1,I1,r1,q1⟩=>Pl AN s1 σ H1 x v Q I1 r1 q1) (he _)
theorem QZ:vR X (binaryOp .Add) (λx y H Q=>∃i j,x=.str i/\y=.str j/\i.length+j.length<=AA/\Q (.str (i++j)) H):=by
 intro AN s σ H x y v u Q I b c h;obtain⟨i,j,rfl,rfl,a,q⟩:=h;obtain⟨t,rfl⟩:=b;obtain⟨d,rfl⟩:=c;exact add_str (λd tk=>⟨.str (i++j),H,I.tok _,⟨_,rfl⟩,q⟩) a
theorem BF{x:V}(r:AX [x] us):∃u,us=[u]/\As x u:=by
 cases r with
 |cons a b=>cases b;exact⟨_,rfl,a⟩
theorem C4{x y:V}(r:AX [x,y] us):∃u a,us=[u,a]/\As x u/\As y a:=by
 cases r with
 |cons d e=>
  cases e with
  |cons b c=>cases c;exact⟨_,_,rfl,d,b⟩
theorem XR:f9 X (.builtin "abs") (λxs H Q=>∃i,xs=[.int i]/\Q (.int (if i<0 then -i else i)) H):=by
 intro AN s σ H xs us Q I r h;obtain⟨i,rfl,q⟩:=h;obtain⟨u,rfl,t,rfl⟩:=BF r;exact call_abs_int λu tk=>⟨.int (if i<0 then -i else i),H,I.tok _,⟨_,rfl⟩,q⟩
theorem VF:f9 X (.type "int") (λxs H Q=>(∃i,xs=[.int i]/\Q (.int i) H)\/∃k,xs=[.bl k]/\Q (.int (if k then 1 else 0)) H):=by
 intro AN s σ H xs us Q I r h;rcases h with⟨i,rfl,q⟩|⟨k,rfl,q⟩
 ·obtain⟨u,rfl,t,rfl⟩:=BF r;exact call_int_int ⟨.int i,H,I,⟨_,rfl⟩,q⟩
 ·obtain⟨u,rfl,a⟩:=BF r;cases a;exact call_int_bool ⟨.int (if k then 1 else 0),H,I.tok _,⟨_,rfl⟩,q⟩
end
end L2
namespace L2
structure ca (h:Heap) (x dx C:Addr) (mA:Str->Option Value):Prop where
 obj:h.get? x=some (instObj C dx)
 ns:h.Ns1 dx mA
 ne:dx≠x
section
variable{x dx f:A1}{mA:AJ->S A0}{v:A0}
end
theorem Dz.some_of{v:V}{o:S A0}(r:Dz (Z v) o):∃u,o=Z u/\As v u:=by
 cases o with
 |none=>exact(show False from r).elim
 |some u=>exact⟨u,rfl,r⟩
section
variable{H H':Hp}{h':A6}{dx:A1}{fs fs':Y (AJ×V)}
theorem CZ(c:yu P w H h)(e:H a=Z (.ins C dx fs)):∃mA,ca h a dx C mA/\(∀f,Dz (fs.lookup f) (mA f))/\PySem.Within mA (fs.map (·.1))/\fs.length<=1000/\H dx=Z (.own a):=by
 obtain⟨d,z,ne,b,mA,n,r,q⟩:=(show iu P w H h a (.ins C dx fs) from c a _ e);exact⟨mA,⟨b,n,ne⟩,r,q,z,d⟩
end
structure ig (K:B0) (C:Addr) (f:Str) (v:V) (u:Value):Prop where
 at_:PySem.W.findIn K (.ref C) f=some (some u)
 rel:As v u
 get:PySem.W.specialIn K u "__get__"=some none
 cp:PySem.W.copiedNames.contains f=false
section
variable{X:Cx}{σ:St}{H:Hp}{dx:A1}{fs:Y (AJ×V)}{f:AJ}{v:V}
end
section
variable{X:Cx}{o value:Expr}{f:AJ}{pos':Pos}{ta tv:TE}
end
section
variable{X:Cx}{σ:St}{H:Hp}{Q:BB}{c:A0}{b:Bool}
end
end L2
namespace L2
structure nF (k:Nat) (A:Around):Prop where
 hd:A.handled=none
 dp:A.depth+3*k+5<recursionLimit
 un:A.units+16*k+200<cLine
theorem nF.mono{k:Nat}(r:nF k A)(h:j<=k):nF j A:=⟨r.hd,by have:=r.dp;omega,by have:=r.un;omega⟩
theorem nF.deeper{k:Nat}(r:nF (k+1) A)(env:Env):nF k (A.deeper env):=
 ⟨r.hd,by have:=r.dp;show A.depth+1+3*k+5<_;omega,by have:=r.un;show A.units+3+16*k+200<_;omega⟩
theorem nF.depth{k:Nat}(r:nF k A):A.depth<recursionLimit:=by have:=r.dp;omega
def VG:TA:=λ_ H Q=>Q [] H
def uT(ta:TE)(a:TA):TA:=λσ H Q=>ta σ H λx H1=>a σ H1 λxs H2=>Q (x::xs) H2
section
variable{X:Cx}{te:TE}{t:TA}
theorem rB:PA X [] VG:=λ_ _ _ _ H Q I h=>Calls.spliced_nil ⟨[],H,I,.nil,h⟩
theorem gn(a:PE X e te)(b:PA X es t)(hs:A9 (e::es) X.env=(false,eval e X.env)::A9 es X.env:=by rfl):PA X (e::es) (uT te t):=by
 intro pos AN s σ H Q I h;rw[hs];show A7 _ _ (spliced ((false,eval e X.env)::AD pos (A9 es X.env))) _ _ s;refine Calls.spliced_cons (iM (a AN s σ H _ I h) λu s1 ⟨x,H1,I1,r1,q1⟩=>?_);exact iM (b pos AN s1 σ H1 _ I1 q1) λus s2 ⟨xs,H2,I2,r2,q2⟩=>⟨x::xs,H2,I2,.cons r1 r2,q2⟩
def X1(t:TA):TE:=λσ H Q=>t σ H λxs H1=>xs.length<=AA/\∀p,H1 p=O->Q (.ref p) (B6 H1 p (.tup xs))
def SC(t:TA):TE:=λσ H Q=>t σ H λxs H1=>xs.length<=AA/\∀p,H1 p=O->Q (.ref p) (B6 H1 p (.lst xs))
theorem SR{x1}(h:PA X es t):PE X (.Tuple es x1 pos) (X1 t):=by
 intro AN s σ H Q I a;refine wpAny_Tuple_spliced (iM (h pos AN s σ H _ I a) λus s1 ⟨xs,H1,I1,r,z,q⟩=>⟨by rw[<-r.length];exact z,?_⟩);have c:H1 s1.heap.objs.size=O:=I1.hok.fresh (zk _);refine⟨.ref s1.heap.objs.size,B6 H1 s1.heap.objs.size (.tup xs),I1.laid (t':=s1.toks) (λb u e=>zd _ e) (zk _) ?_,rfl,q _ c⟩;exact⟨z,us,r,⟨_,zv _ rfl,rfl,⟨_,rfl⟩,rfl⟩⟩
theorem am(h:PA X es t):PE X (.List es pos) (SC t):=by
 intro AN s σ H Q I a;refine wpAny_List_spliced (iM (h pos AN s σ H _ I a) λus s1 ⟨xs,H1,I1,r,z,q⟩=>⟨by rw[<-r.length];exact z,?_⟩);have c:H1 s1.heap.objs.size=O:=I1.hok.fresh (zk _);refine⟨.ref s1.heap.objs.size,B6 H1 s1.heap.objs.size (.lst xs),I1.laid (t':=s1.toks) (λb u e=>zd _ e) (zk _) ?_,rfl,q _ c⟩;exact⟨z,us,0,r,zv _ rfl⟩
end
abbrev Sp:=Y V->Hp->VK->XK->Prop
abbrev Xk:=Y Env->Hp->A2->XK->A0->A2->Prop
structure Fu (P:Program) (w:World) (K:B0) (mg:Str->Option Value) (base:Heap) (A:Around) (outer:List Env) (s:Shared) (H:Hp):Prop where
 frames:A.frames=some outer
 mod:Mod K mg base
 bs:∀b o,base.get? b=some o->s.heap.get? b=some o/\H b=none
 bsz:base.objs.size<=s.heap.objs.size
 DG:s.heap.FunFrames base outer
 frf:∀b∈CY outer,H b=none
 hok:yu P w H s.heap
 bare:AllBare s.gens
def CE(outer:Y Env)(P:A3)(w:A4)(H:Hp)(s:A2)(Q:VK)(u:A0)(s':A2):Prop:=
 ∃v H',s'.os=s.os/\AllBare s'.gens/\Un (CY outer) [] H H' s.heap s'.heap/\yu P w H' s'.heap/\As v u/\Q v H'
def CR(CX:Xk)(outer:Y Env)(P:A3)(w:A4)(H:Hp)(s:A2)(Q:VK)(E:XK)(r:Result)(s':A2):Prop:=
 match r with
 |.ok (.ret u)=>CE outer P w H s Q u s'
 |.ok _=>False
 |.error e=>CX outer H s E e s'
structure uU (P:Program) (w:World) (K:B0) (mg:Str->Option Value) (base:Heap) (CX:Xk) (k:Nat) (f:Addr) (fd:FuncData) (ps:AZ) (sp:Sp):Prop where
 len:∀vs H Q E,sp vs H Q E->vs.length=ps.length
 run:∀(A:Around) (outer:List Env) (s:Shared) (H:Hp) (args:Args) (us:List Value) (vs:List V) (Q:VK) (E:XK),nF k A->Fu P w K mg base A outer s H->BindsTo s fd args (ps.zip us)->AX vs us->sp vs H Q E →
  codeAny (model P w) A (.call (.ref f) args) (CR CX outer P w H s Q E) s
section
variable{X:Cx}{σ:St}{H:Hp}{s':A2}
theorem AU.env0(I:AU X AN σ H s):Fu X.prog X.w X.K X.mg X.base X.A X.stack s H:=
 ⟨I.ok.frames,I.ok.mod,I.bs,ZE I.ok.bsz I.sz,I.stack,I.Tv,I.hok,I.bare⟩
theorem AU.after{Q:VK}(I:AU X AN σ H s)(h:CE X.stack X.prog X.w H s Q u s'):EP X AN σ Q u s':=by
 obtain⟨v,H',os,a,un,e,r,q⟩:=h;obtain⟨c,g,d,t,f⟩:=s';obtain rfl:f=s.os:=os;exact⟨v,H',I.call (h':=c) (g':=g) (d':=d) (t':=t) (ch:=[]) un e a (λb z=>absurd z (by simp)),r,q⟩
end
def bq(sp:Sp)(dvs:Y V)(E:XK)(t:TA):TE:=λσ H Q=>t σ H λvs H1=>sp (vs++dvs) H1 Q E
def BY(K:B0)(fd:FuncData)(ps:AZ)(ds:Y A0):Prop:=
 ∀(s:A2) (us:Y A0),K.In s.heap->(us++ds).length=ps.length->BindsTo s fd ⟨us,[]⟩ (ps.zip (us++ds))
theorem BY.all(h:∀us:Y A0,us.length=ps.length->bindArgs fd ⟨us,[]⟩=pure (ps.zip us)):BY K fd ps []:=λs us _ a=>by
 rw[ZO]at a ⊢;exact .of_eq (h us a)
def C9(CX:Xk)(X:Cx)(E:XK):Prop:=∀(AN:Y (A1×AE)) (σ:St) (H:Hp) (s:A2) (e:A0) (s':A2),AU X AN σ H s->CX X.stack H s E e s'->X.xe e s'
section
variable{X:Cx}{CX:Xk}{k:Nat}{f:A1}{sp:Sp}{dvs:Y V}{ds:Y A0}{E:XK}{m:AJ}{p:Pos}{o:Expr}{ta:TE}{t:TA}
theorem cS{σ:St}{H:Hp}{Q:VK}{vs:Y V}(F:uU X.prog X.w X.K X.mg X.base CX k f fd ps sp)(d:nF k X.A)(hb:BY X.K fd ps ds)(g:AX dvs ds)(hx:C9 CX X E)(I:AU X AN σ H s)(r:AX vs us)(h:sp (vs++dvs) H Q E):A7 (A8 X.prog X.w) X.A (call (.ref f) us) (EP X AN σ Q) X.xe s:=by
 have b:AX (vs++dvs) (us++ds):=r.append g;have c:(us++ds).length=ps.length:=by rw[<-b.length];exact F.len _ _ _ _ h
 refine wpAny_call (codeAny_mono (F.run X.A X.stack s H ⟨us,[]⟩ (us++ds) (vs++dvs) Q E d I.env0 (hb s us I.kIn c) b h) λr s' a=>?_);cases r with
 |error e=>exact hx AN σ H s e s' I a
 |ok fl=>
  cases fl with
  |ret u=>exact I.after a
  |next=>exact False.elim a
  |brk=>exact False.elim a
  |cont=>exact False.elim a
theorem TQ(F:uU X.prog X.w X.K X.mg X.base CX k f fd ps sp)(g:nF k X.A)(a:Gl X x)(d:X.mg x=Z (.ref f))(b:keepIn X.K (.ref f)=true)(hb:BY X.K fd ps ds)(i:AX dvs ds)(hx:C9 CX X E)
  (c:PA X (e::es) t) (l:(x==("__debug__":AJ))=false:=by decide) (he:A9 (e::es) X.env=(false,eval e X.env)::A9 es X.env:=by rfl) (j:(AD pos (A9 es X.env)).any (·.1)=false:=by rfl):
  PE X (.Call (.Name x p) (e::es) [] pos) (bq sp dvs E t):=by
 intro AN s σ H Q I h;refine wpAny_Call_Name_kw (Tw I a d ?_ l);refine PySem.W.callWith_K (h₀:=X.base) I.ok.mod.kin b (iM (c pos AN s σ H _ I h) λus s1 ⟨vs,H1,I1,r,q⟩=>⟨I1.kIn,?_⟩) he j;exact cS F g hb i hx I1 r q
end
section
variable{X:Cx}{CX:Xk}{k:Nat}{f:A1}{ks:AZ}{sp:Sp}{E:XK}{m:AJ}{p kpos:Pos}{o:Expr}{kws:Y AC}{te ta:TE}{t tk:TA}{nm:S AJ}
variable{g:Y A0->Y A0->Y A0}{gV:Y V->Y V->Y V}
end
structure bL (N P:AZ) (sc:Scope):Prop where
 kind:sc.kind=.function
 co:sc.isCoroutine=false
 gen:sc.isGenerator=false
 nd:N.Nodup
 pre:N.take P.length=P
 par:∀x∈P,sc.names.lookup x=some .local\/sc.names.lookup x=some .cell
 ae5:∀y∈sc.names,y.2≠.free
theorem Jg{a:AJ->S NameKind}{x:AJ}:∀{binds:Y (AJ×A0)} {m:AJ->S A0},(∀v,(x,v)∉binds)->bindL a binds m x=m x
 |[],_,_=>rfl
 |(n,v)::r,m,h=>by
  unfold bindL;rw[Jg λw b=>h w (zi _ b)];split
  ·have:x≠n:=by rintro rfl;exact h v zh
   simp[this]
  ·rfl
theorem Jh{a:AJ->S NameKind}{x:AJ}:∀{binds:Y (AJ×A0)} {m:AJ->S A0},(∀v,(x,v)∉binds)->bindC a binds m x=m x
 |[],_,_=>rfl
 |(n,v)::r,m,h=>by
  unfold bindC;rw[Jh λw b=>h w (zi _ b)];split
  ·rfl
  ·have:x≠n:=by rintro rfl;exact h v zh
   simp[this]
theorem Ji{a:AJ->S NameKind}{x:AJ}{v:A0}:∀{P:AZ} {vs:Y A0} {i:Nat} {m:AJ->S A0},P.Nodup->P[i]?=Z x->vs[i]?=Z v->a x=Z .local →
  bindL a (P.zip vs) m x=Z v
 |[],_,_,_,_,h,_,_=>by simp at h
 |_::_,[],_,_,_,_,h,_=>by simp at h
 |p::P,w::vs,0,m,nd,h1,h2,hk=>by
  simp at h1 h2;subst h1;subst h2;show bindL a ((p,w)::P.zip vs) m p=_;unfold bindL;rw[Jg λv b=>(List.nodup_cons.mp nd).1 (List.of_mem_zip b).1,zo hk];simp
 |p::P,w::vs,i+1,m,nd,h1,h2,hk=>by
  show bindL a ((p,w)::P.zip vs) m x=_;unfold bindL;exact Ji (i:=i) (List.nodup_cons.mp nd).2 (by simpa using h1) (by simpa using h2) hk
theorem Jj{a:AJ->S NameKind}{x:AJ}{v:A0}:∀{P:AZ} {vs:Y A0} {i:Nat} {m:AJ->S A0},P.Nodup->P[i]?=Z x->vs[i]?=Z v->a x≠Z .local →
  bindC a (P.zip vs) m x=Z v
 |[],_,_,_,_,h,_,_=>by simp at h
 |_::_,[],_,_,_,_,h,_=>by simp at h
 |p::P,w::vs,0,m,nd,h1,h2,hk=>by
  simp at h1 h2;subst h1;subst h2;show bindC a ((p,w)::P.zip vs) m p=_;unfold bindC;rw[Jh λv b=>(List.nodup_cons.mp nd).1 (List.of_mem_zip b).1,zw hk];simp
 |p::P,w::vs,i+1,m,nd,h1,h2,hk=>by
  show bindC a ((p,w)::P.zip vs) m x=_;unfold bindC;exact Jj (i:=i) (List.nodup_cons.mp nd).2 (by simpa using h1) (by simpa using h2) hk
def start(N:AZ)(vs:Y V):St:=vs.map Z++List.replicate (N.length-vs.length) O
def DN(CX:Xk)(P:A3)(w:A4)(K:B0)(mg:AJ->S A0)(base:A6)(N:AZ)(qual:AJ)(scope:Scope)(f:A1)(a:A0)(A:A5)(outer:Y Env)(s:A2)(H:Hp)(E:XK):Cx where
 prog:=P
 w:=w
 K:=K
 mg:=mg
 base:=base
 A:=A.deeper (AK qual scope s.heap.objs.size f a)
 N:=N
 s₀:=s
 H₀:=H
 env:=AK qual scope s.heap.objs.size f a
 outer:=outer
 stack:=AK qual scope s.heap.objs.size f a::outer
 ex:=[]
 calm:=true
 fn:=λ_=>true
 pn:=[]
 xe:=λe s'=>A7 (A8 P w) (A.deeper (AK qual scope s.heap.objs.size f a)) (leaving (AK qual scope s.heap.objs.size f a) e) (λ_ b=>CX outer H s E e b) (λe' b=>CX outer H s E e' b) s'
theorem Np{a:Scope}(h:a.names.lookup x=Z .cell):∃c,(cellsFrom n a.names []).lookup x=Z c:=by
 have q:=cellsFrom_some a.names n [] (.inl h);exact Option.isSome_iff_exists.mp q
theorem VH{CX:Xk}{f:A1}{g:A0}{outer:Y Env}{t:A2}{H:Hp}{E:XK}{vs:Y V}(S:bL N ps scope)(D:A.handled=O)(e0:Fu P w K mg base A outer s H)(F:vs.length=ps.length)(r:AX vs us)(x:InCallC s s.heap.objs.size (bindL (AK qual scope s.heap.objs.size f g).kindOf (ps.zip us) λ_=>O) (cellsFrom (s.heap.objs.size+1) scope.names []) (bindC (AK qual scope s.heap.objs.size f g).kindOf (ps.zip us) λ_=>O) t):
  AU (DN CX P w K mg base N qual scope f g A outer s H E) [] (start N vs) H t:=by
 have I:ps.length<=N.length:=by have:=congrArg List.length S.pre;rw[ke]at this;omega
 obtain⟨h1,tk,rfl,l⟩:=x.done;have j:∀b:A1,b∉(DN CX P w K mg base N qual scope f g A outer s H E).ex:=λb z=>absurd (show b∈([]:Y A1) from z) (by simp);refine⟨⟨e0.mod,S.kind,rfl,rfl,zk _,λy z c h1 h2=>?_,λy d=>?_,λy c _ h=>?_,λ_=>D,Around.frames_deeper e0.frames,.inr ⟨rfl,rfl⟩,λb z=>absurd z (j b),e0.bs,e0.bsz,λb _ _=>j b,λb z=>absurd z (j b),e0.DG,e0.frf⟩,
  rfl,e0.bare,Un.kept l,⟨_,x.toInCall.ns,λi y v h1 h2 G=>?_⟩,λy c h=>⟨_,x.cell y c h⟩,e0.hok.fresh (zk _),λy c h=>?_,λp hp=>absurd (show p∈([]:Y (A1×AE)) from hp) (by simp),e0.hok.kept l,?_⟩
 ·exact name_of_addr x.apart (ka h1) (ka h2)
 ·have d:scope.names.lookup y=Z .cell\/scope.names.lookup y=Z .free:=d;rcases d with d|d
  ·exact Np d
  ·exact absurd Y3 (S.ae5 _ (ka d))
 ·exact jS (x.above y c (ka h))
 ·have hi:i<vs.length:=by
   unfold start at h2;by_cases hi:i<vs.length
   ·exact hi
   ·rw[qv (by simpa using hi)]at h2;rw[QN]at h2;split at h2<;>cases h2
  have B:vs[i]?=Z v:=by
   unfold start at h2;rw[ZT (by simpa using hi),Zl]at h2;cases e:vs[i]? with
   |none=>rw[e]at h2;cases h2
   |some a=>rw[e]at h2;cases h2;rfl
  obtain⟨u,o,C⟩:=r.get B;have hp:ps[i]?=Z y:=by
   rw[<-S.pre,List.getElem?_take_of_lt (by omega)];exact h1
  have m:ps.Nodup:=by rw[<-S.pre];exact S.nd.sublist (List.take_sublist _ _)
  refine⟨u,C,?_⟩;rcases S.par y (Qr hp)with k|k
  ·exact .inl ⟨k,Ji m hp o k⟩
  ·obtain⟨c,e⟩:=Np (n:=s.heap.objs.size+1) k;refine .inr ⟨.inl k,c,e,?_⟩;have q:=x.cell y c e;rw[Jj m hp o (by show scope.names.lookup y≠_;rw[k];decide)]at q;exact q
 ·exact e0.hok.fresh (jS (x.above y c (ka h)))
 ·unfold start;show _=N.length;rw[zD,zr,List.length_replicate];omega
theorem aI{CX:Xk}{k:Nat}{f:A1}{h:Arguments}{p kV g z a ct oc:A0}{i X:Option A1}{sp:Sp}(D:K.lookup f=Z ⟨oc,X,.func (fnOf name qual h body scope p kV g z i a ct),osl⟩)(L:codeIn K a qual=true)(S:bL N ps scope)(len:∀vs H Q E,sp vs H Q E->vs.length=ps.length)(M:∀(A:A5) (outer:Y Env) (s:A2) (H:Hp) (vs:Y V) (Q:VK) (E:XK),nF k (A.deeper (AK qual scope s.heap.objs.size f a))->sp vs H Q E →
   ∃t,QM (DN CX P w K mg base N qual scope f a A outer s H E) body t/\t { nx:=λ_ H'=>Q .non H',rt:=Q } (start N vs) H):
  uU P w K mg base CX (k+1) f (fnOf name qual h body scope p kV g z i a ct) ps sp:=by
 refine⟨len,λA outer s H a0 us vs Q E d e0 hb r m=>?_⟩;have hl:=len _ _ _ _ m;have B:K.In s.heap:=e0.mod.kin.keeps λb o e=>(e0.bs b o e).1;have G:s.heap.NoLimit:=e0.mod.nolimit.keeps λb o e=>(e0.bs b o e).1;have C:∀y∈ps.zip us,scope.names.lookup y.1=Z .local\/(scope.names.lookup y.1=Z .cell/\((cellsFrom (s.heap.objs.size+1) scope.names []).lookup y.1).isSome=true):=λ⟨n,v⟩ hy=>by
  rcases S.par n (List.of_mem_zip hy).1 with q|q
  ·exact .inl q
  ·exact .inr ⟨q,cellsFrom_some _ _ _ (.inl q)⟩
 refine codeAny_call_function d.depth (B _ _ D) Y3 S.co S.gen Y3 (PySem.W.codeRec_of B L) (hb _ _ _ _ ?_);refine wpAny_newFunctionEnv_cells S.kind C λenv U j x=>?_;subst U;refine⟨G.keeps x.toInCall.keep,codeAny_func ?_⟩;obtain⟨t,F,hq⟩:=M A outer s H vs Q E (d.deeper _) m;have I:AU (DN CX P w K mg base N qual scope f a A outer s H E) [] (start N vs) H j:=VH S d.hd e0 hl r x;refine QA (F [] j (start N vs) H _ I hq) (λfl s' hs=>?_) λe s' hs=>hs;have l:∀{σ':St} {H':Hp} {v:V} {u:A0},AU (DN CX P w K mg base N qual scope f a A outer s H E) [] σ' H' s'->As v u->Q v H'->CE outer P w H s Q u s':=
  λ{σ' H' v u} J c q=>⟨v,H',J.os,J.bare,J.base,J.hok,c,q⟩
 cases fl with
 |ret u=>
  obtain⟨v,σ',H',J,c,q⟩:=hs;exact l J c q
 |next=>
  obtain⟨σ',H',J,q⟩:=hs;exact l (v:=V.non) (u:=Value.none) J Y3 q
 |brk=>
  obtain⟨_,_,_,q⟩:=hs;exact False.elim q
 |cont=>
  obtain⟨_,_,_,q⟩:=hs;exact False.elim q
end L2
namespace L2
section
variable{X:Cx}{p:Pos}{t:TA}{id T:String}{r:Y V->Hp->VK->Prop}
def GL(r:Y V->Hp->VK->Prop)(t:TA):TE:=λσ H Q=>t σ H λvs H1=>r vs H1 Q
theorem pR(b:f9 X (.builtin id) r)(a:Gl X x)(d:X.mg x=O)(j:AH x=Z (.builtin id))(c:PA X (e::es) t)(g:x ≠ "__name__":=by decide)(i:(x==("__debug__":AJ))=false:=by decide)
  (he:A9 (e::es) X.env=(false,eval e X.env)::A9 es X.env:=by rfl) (f:(AD pos (A9 es X.env)).any (·.1)=false:=by rfl):PE X (.Call (.Name x p) (e::es) [] pos) (GL r t):=by
 intro AN s σ H Q I h;refine wpAny_Call_Name_kw (Ke I a d j ?_ g i);exact PyProof.Rows.callWith_builtin1 (iM (c pos AN s σ H _ I h) λus s1 ⟨vs,H1,I1,r1,q1⟩=>b AN s1 σ H1 vs us Q I1 r1 q1) he f
theorem Jk(b:f9 X (.type T) r)(a:Gl X x)(d:X.mg x=O)(j:AH x=Z (.type T))(c:PA X (e::es) t)(g:x ≠ "__name__":=by decide)(i:(x==("__debug__":AJ))=false:=by decide)
  (he:A9 (e::es) X.env=(false,eval e X.env)::A9 es X.env:=by rfl) (f:(AD pos (A9 es X.env)).any (·.1)=false:=by rfl):PE X (.Call (.Name x p) (e::es) [] pos) (GL r t):=by
 intro AN s σ H Q I h;refine wpAny_Call_Name_kw (Ke I a d j ?_ g i);exact PyProof.Rows.callWith_type1 (iM (c pos AN s σ H _ I h) λus s1 ⟨vs,H1,I1,r1,q1⟩=>b AN s1 σ H1 vs us Q I1 r1 q1) he f
end
end L2
namespace HT
open PySem PyProof.Rows
section
open PySem.SeqAt
open PySem.AutoSeq1 (wpAny_loadPart')
open PySem.MeetsSeq PySem.MeetsSeq2 PySem.MeetsSeq3
end
theorem abD{t b:A1}{vs a:Y A0}{Q:BB}(q:IsTup s.heap t vs.toArray)(hb:IsTup s.heap b a.toArray)(p:vs≠[])
  (h1:a=[]->Q (.ref t) s) (h2:a≠[]->Q (.ref s.heap.objs.size) { s with heap:=s.heap.push { cls:=.type "tuple",data:=.seq (vs++a).toArray } })
  (hsz:vs.length+a.length<=AA):A7 (A8 prog w) A (binaryOp .Add (.ref t) (.ref b)) Q E s:=by
 obtain⟨⟨cls,l,data,sl⟩,ho,h,n,o⟩:=id q;obtain⟨⟨cls2,f,u,i⟩,c,m,j,g⟩:=id hb;simp only at h o m g;subst h o m g;have e:vs.toArray++a.toArray=(vs++a).toArray:=by simp
 by_cases d:a=[]
 ·exact concat_meets ⟨_,ho,rfl⟩ ⟨_,c,rfl⟩ noFill_tuple_add seq_tuple_add PySem.F.slot_tuple_add yf (K0 _ _)
   (tuple_addW1 t b vs.toArray a.toArray n j l f sl i (by simpa using p) (by simp[d])) ⟨ho,c,h1 d⟩
 ·refine concat_meets ⟨_,ho,rfl⟩ ⟨_,c,rfl⟩ noFill_tuple_add seq_tuple_add PySem.F.slot_tuple_add yf (K0 _ _)
   (tuple_addW2 t b vs.toArray a.toArray n j l f sl i (by simpa using p) (by simpa using d) (by rw[zC,zC];exact hsz)) ⟨ho,c,?_⟩
  rw[e];exact h2 d
def jc(n d:Nat):S Int->Nat
 |none=>d
 |some v=>if v<0 then(v+(n:Int)).toNat else min v.toNat n
theorem d6(n d:Nat)(b:d<=n)(o:S Int):jc n d o<=n:=by
 cases o with
 |none=>exact b
 |some v=>
  show(if v<0 then(v+(n:Int)).toNat else min v.toNat n)<=n;by_cases a:v<0
  ·rw[zo a];omega
  ·rw[zw a];exact Nat.min_le_right _ _
theorem TV(v:Int)(n d:Nat):(if v<0 then max (v+(n:Int)) 0 else min v (n:Int))=((jc n d (Z v):Nat):Int):=by
 show(if v<0 then max (v+(n:Int)) 0 else min v (n:Int))=(((if v<0 then(v+(n:Int)).toNat else min v.toNat n):Nat):Int);by_cases a:v<0
 ·simp only[zo a];omega
 ·simp only[zw a];omega
theorem Q0(lo hi:S Int)(n:Nat):Builtin.Slice.sliceAdjust lo hi 1 (n:Int)=(((jc n 0 lo:Nat):Int),((jc n n hi:Nat):Int)):=by
 have h1:¬ ((1:Int)<0):=by omega
 unfold Builtin.Slice.sliceAdjust;simp only[h1,ZI];refine Prod.ext ?_ ?_
 ·cases lo with
  |none=>rfl
  |some v=>exact TV v n 0
 ·cases hi with
  |none=>rfl
  |some v=>exact TV v n n
theorem Q5(i j:Nat):Builtin.Slice.slicePlaces (i:Int) (j:Int) 1=j-i:=by
 unfold Builtin.Slice.slicePlaces;have h1:(1:Int)>0:=by omega
 simp only[h1,qA,Int.ediv_one];split<;>omega
theorem DP{v:A0}{o:S Int}{Q:S Int->A2->Prop}(p:IsPart v o)(h:Q o s):A7 (A8 prog w) A (Builtin.Slice.slicePartIndex v) Q E s:=by
 cases p with
 |none=>exact slicePart_none h
 |int i t=>exact slicePart_int h
theorem rO{sl:A1}{b d:A0}{Q:Int×Int×Nat->A2->Prop}(hs:s.heap.IsSliceOf sl b d .none)(pl:IsPart b lo)(e:IsPart d hi)(h:Q (((jc n 0 lo:Nat):Int),1,jc n n hi-jc n 0 lo) s):A7 (A8 prog w) A (Builtin.Slice.sliceApplied (.ref sl) (pure (n:Int))) Q E s:=by
 obtain⟨os,a,f,c⟩:=id hs;unfold Builtin.Slice.sliceApplied Builtin.Slice.sliceFields;refine zb (zb (wpAny_field a c (x:=b) Y3 (zb (wpAny_field a c (x:=d) Y3 (zb (wpAny_field a c (x:=.none) Y3 (ze ?_)))))));refine zb (slicePart_none ?_);show A7 _ _ (if((1:Int)==0)=true then _ else _) _ _ s;rw[zw (by decide)];refine zb (DP pl (zb (DP e (zb (ze ?_)))));show A7 _ _ (match Builtin.Slice.sliceAdjust lo hi 1 (n:Int)with|(lo,hi)=>pure (lo,(1:Int),Builtin.Slice.slicePlaces lo hi 1)) _ _ s;rw[Q0 lo hi n];show A7 _ _ (pure (((jc n 0 lo:Nat):Int),(1:Int),Builtin.Slice.slicePlaces ((jc n 0 lo:Nat):Int) ((jc n n hi:Nat):Int) 1)) _ _ s;rw[Q5];exact ze h
theorem XS(xs:Array A0)(i k:Nat):((List.range k).filterMap λ(m:Nat)=>xs[((i:Int)+(m:Int)*1).toNat]?).toArray=((xs.toList.drop i).take k).toArray:=by
 have e:(λ(m:Nat)=>xs[((i:Int)+(m:Int)*1).toNat]?)=λm=>xs[i+m]?:=by
  funext m;have:((i:Int)+(m:Int)*1).toNat=i+m:=by omega
  rw[this]
 rw[e];have:=pick_run xs i k;rw[List.filterMap_map]at this;have e2:((λx=>xs[x]?) ∘ λx=>i+x)=λm=>xs[i+m]?:=rfl;rw[e2]at this;rw[this]
theorem yD{t sl:A1}{c d:A0}{Q:BB}(a:IsTup s.heap t items)(hs:s.heap.IsSliceOf sl c d .none)(pl:IsPart c lo)(e:IsPart d hi)(j:¬ (jc items.size 0 lo=0/\jc items.size items.size hi=items.size))(h:Q (.ref s.heap.objs.size) { s with heap:=s.heap.push { cls:=.type "tuple",data:=.seq ((items.toList.drop (jc items.size 0 lo)).take (jc items.size items.size hi-jc items.size 0 lo)).toArray } })(hsz:items.size<=AA):A7 (A8 prog w) A (getItem (.ref t) (.ref sl)) Q E s:=by
 have b:sizeOk (.seq ((items.toList.drop (jc items.size 0 lo)).take (jc items.size items.size hi-jc items.size 0 lo)).toArray):=by
  show((items.toList.drop (jc items.size 0 lo)).take (jc items.size items.size hi-jc items.size 0 lo)).toArray.size<=AA;rw[zC,ke,k8,qk];omega
 have n:jc items.size items.size hi<=items.size:=d6 _ _ (zk _) hi;obtain⟨os,f,i,o⟩:=id hs;have l:s.TypeIs (.ref sl) "slice":=⟨os,f,i⟩;unfold getItem
 try with_reducible refine QP ?_
 first|refine zb (ze ?_)|skip
 refine zb (wpAny_sequenceKey a.typeIs (by decide) ?_);refine zb (ye (name:=Str.ofString "__getitem__") a.typeIs PyProof.Rows.slot_tuple_getitem
  (kc PyProof.Rows.slot_tuple_getitem a.typeIs entry_tuple_getitem ?_ (args_tuple_getitem _ _)))
 show A7 _ _ (Builtin.Tuple.tupleItemsOf (.ref t) >>= _) _ _ s;refine zb (tupleItemsOf_ a ?_);refine zb (QQ l ?_);rw[zo (by decide)];refine zb (rO hs pl e ?_);have g:¬ ((((jc items.size 0 lo:Nat):Int)==0&&(1:Int)==1&&(jc items.size items.size hi-jc items.size 0 lo)==items.size)=true):=by
  intro q;rw[ZH,ZH]at q;have q1:((jc items.size 0 lo:Nat):Int)=0:=eq_of_beq q.1.1;have q2:jc items.size items.size hi-jc items.size 0 lo=items.size:=eq_of_beq q.2;exact j ⟨by omega,by omega⟩
 show A7 _ _ (if(((jc items.size 0 lo:Nat):Int)==0&&(1:Int)==1&&(jc items.size items.size hi-jc items.size 0 lo)==items.size)=true then _ else _) _ _ s;rw[zw g,XS]
 first
  |exact zb (m:=Builtin.Tuple.tupleExact _) (qS (ze ⟨_,rfl,ze h⟩) b)
  |exact zb (m:=Builtin.Tuple.tupleExact _) (qS (zb (ze (ze ⟨_,rfl,ze h⟩))) b)
  |exact zb (zb (m:=Builtin.Tuple.tupleExact _) (qS (ze (ze ⟨_,rfl,ze h⟩)) b))
  |exact zb (zb (m:=Builtin.Tuple.tupleExact _) (qS (ze ⟨_,rfl,ze h⟩) b))
end HT
namespace L2
abbrev TO:=St->Hp->(S Int->Hp->Prop)->Prop
def PO(X:Cx)(e:S Expr)(t:TO):Prop:=
 ∀(AN:Y (A1×AE)) (s:A2) (σ:St) (H:Hp) (Q:S Int->Hp->Prop),AU X AN σ H s->t σ H Q →
  A7 (A8 X.prog X.w) X.A (evalPart e X.env) (λu s'=>∃o H',AU X AN σ H' s'/\IsPart u o/\Q o H') X.xe s
def b6:TO:=λ_ H Q=>Q O H
def NA(t:TE):TO:=λσ H Q=>t σ H λx H1=>∃i,x=.int i/\Q (Z i) H1
section
variable{X:Cx}{te:TE}{lo hi:S Expr}{tl th:TO}
theorem Op:PO X O b6:=by
 intro AN s σ H Q I h;rw[evalPart_none];exact ze ⟨O,H,I,.none,h⟩
theorem RC(h:PE X e te):PO X (Z e) (NA te):=by
 intro AN s σ H Q I a;rw[evalPart_some];refine iM (h AN s σ H _ I a) λu s1 ⟨x,H1,I1,r1,q1⟩=>?_;obtain⟨i,rfl,q⟩:=q1;obtain⟨t,rfl⟩:=r1;exact⟨Z i,H1,I1,.int i t,q⟩
def Fh(X:Cx)(r:V->S Int->S Int->Hp->VK->Prop):Prop:=
 ∀(AN:Y (A1×AE)) (s:A2) (σ:St) (H:Hp) (x:V) (v a b:A0) (lo hi:S Int) (sl:A1) (Q:VK),AU X AN σ H s->As x v->s.heap.IsSliceOf sl a b .none->IsPart a lo->IsPart b hi->r x lo hi H Q →
  ∃T id,typeLookup (.type T) "__getitem__"=pure (Z (.builtin id))/\s.TypeIs v T/\A7 (A8 X.prog X.w) X.A (getItem v (.ref sl)) (EP X AN σ Q) X.xe s
def XU(r:V->S Int->S Int->Hp->VK->Prop)(te:TE)(tl th:TO):TE:=λσ H Q=>te σ H λx H1=>tl σ H1 λl H2=>th σ H2 λu a=>r x l u a Q
theorem X3{r:V->S Int->S Int->Hp->VK->Prop}(d:Fh X r)(he:PE X e te)(c:PO X lo tl)(g:PO X hi th):PE X (.Subscript e (.Slice lo hi O p2) pos) (XU r te tl th):=by
 intro AN s σ H Q I h;refine Subscript_ (iM (he AN s σ H _ I h) λv s1 ⟨x,H1,I1,r1,q1⟩=>?_);refine wpAny_Slice (iM (c AN s1 σ H1 _ I1 q1) λvl s2 ⟨l,H2,I2,pl,q2⟩=>iM (g AN s2 σ H2 _ I2 q2) λvu s3 ⟨u,H3,I3,pu,q3⟩=>?_);rw[evalPart_none];refine ze ?_;have i:AU X AN σ H3 { s3 with heap:=s3.heap.push { cls:=.type "slice",data:=.fields #[vl,vu,.none] } }:=I3.kept (t':=s3.toks) λb m q=>zd _ q;obtain⟨T,id,j,f,a⟩:=d AN { s3 with heap:=s3.heap.push { cls:=.type "slice",data:=.fields #[vl,vu,.none] } } σ H3 x v vl vu l u s3.heap.objs.size Q i r1 (Heap.IsSliceOf.new ..) pl pu q3;show A7 (A8 X.prog X.w) X.A (subscriptTail e (.Slice lo hi O p2) v (.ref s3.heap.objs.size)) (EP X AN σ Q) X.xe { s3 with heap:=s3.heap.push { cls:=.type "slice",data:=.fields #[vl,vu,.none] } };exact tail_any (ops:=[.ref s3.heap.objs.size,v]) f j a (by with_unfolding_all rfl)
def Nq(xs:Y V)(lo hi:S Int):Y V:=(xs.drop (HT.jc xs.length 0 lo)).take (HT.jc xs.length xs.length hi-HT.jc xs.length 0 lo)
theorem Bp(xs:Y V)(lo hi:S Int):(Nq xs lo hi).length<=xs.length:=by
 unfold Nq;rw[ke,k8];omega
def WG(K:B0):V->S Int->S Int->Hp->VK->Prop:=λx lo hi H Q=>∃a xs,x=.ref a/\z9 K H a xs ∧
 ¬ (HT.jc xs.length 0 lo=0/\HT.jc xs.length xs.length hi=xs.length)/\∀p,H p=O->Q (.ref p) (B6 H p (.tup (Nq xs lo hi)))
theorem RH:Fh X (WG X.K):=by
 intro AN s σ H x v l m lo hi sl Q I i hs pl f h;obtain⟨a,xs,rfl,hx,g,q⟩:=h;cases i;obtain⟨AQ,r,e,d⟩:=I.tuple hx;have c:AQ.toArray.size=xs.length:=by rw[zC];exact r.length.symm
 refine⟨"tuple", _,PyProof.Rows.slot_tuple_getitem.lookup,e.typeIs,?_⟩;refine HT.yD e hs pl f (by rw[c];exact g) ?_ (by rw[c];exact d);rw[c];refine⟨.ref s.heap.objs.size,_,I.laid (t':=s.toks) (o:=.tup (Nq xs lo hi)) (λb j q=>zd _ q) (zk _) ?_,rfl,q _ (I.hok.fresh (zk _))⟩;exact⟨ZE (Bp xs lo hi) d,_,(r.drop (HT.jc xs.length 0 lo)).take (HT.jc xs.length xs.length hi-HT.jc xs.length 0 lo),uN.new _ _⟩
def Sa(K:B0):R2:=λx y H Q=>∃a b xs ys,x=.ref a/\y=.ref b/\z9 K H a xs/\z9 K H b ys/\xs≠[]/\xs.length+ys.length<=AA ∧
 (ys=[]->Q (.ref a) H)/\(ys≠[]->∀p,H p=O->Q (.ref p) (B6 H p (.tup (xs++ys))))
theorem AX.Dc{xs:Y V}(r:AX xs us):us=[]↔xs=[]:=by
 cases r with
 |nil=>simp
 |cons _ _=>simp
theorem Tx:vR X (binaryOp .Add) (Sa X.K):=by
 intro AN s σ H x y v u Q I i g h;obtain⟨a,b,xs,ys,rfl,rfl,f,hb,hx,e,q1,q2⟩:=h;cases i;cases g;obtain⟨AQ,d,p1,_⟩:=I.tuple f;obtain⟨l,c,p2,_⟩:=I.tuple hb;refine HT.abD p1 p2 (λz=>hx (d.Dc.mp z)) (λz=>⟨.ref a,H,I,rfl,q1 (c.Dc.mp z)⟩) (λz=>?_) (by rw[<-d.length,<-c.length];exact e);refine⟨.ref s.heap.objs.size,_,I.laid (t':=s.toks) (o:=.tup (xs++ys)) (λb j q=>zd _ q) (zk _) ?_,rfl,q2 (λw=>z (c.Dc.mpr w)) _ (I.hok.fresh (zk _))⟩;exact⟨by rw[zD];exact e,_,d.append c,uN.new _ _⟩
end
end L2
namespace L2
def EG(n:Nat)(i:Int):S Nat:=if 0<=i then(if i<n then Z i.toNat else O)else if -(n:Int)<=i then Z (i+n).toNat else O
def Hu(xs:Y α)(i:Int):S α:=(EG xs.length i).bind λj=>xs[j]?
theorem We{i:Int}(h:EG n i=Z j):seqIndex? i n=Z j/\j<n ∧ -(n:Int)<=i/\i<n:=by
 unfold EG at h;by_cases h0:0<=i
 ·rw[zo h0]at h;by_cases h1:i<n
  ·rw[zo h1]at h;have e:i.toNat=j:=Q1 h;exact⟨by rw[seqIndex_of h0 h1,e],by omega,by omega,h1⟩
  ·rw[zw h1]at h;cases h
 ·rw[zw h0]at h;by_cases h1 : -(n:Int)<=i
  ·rw[zo h1]at h;have e:(i+n).toNat=j:=Q1 h;exact⟨by rw[seqIndex_neg (by omega) h1,e],by omega,h1,by omega⟩
  ·rw[zw h1]at h;cases h
theorem Kg{xs:Y α}{i:Int}{v:α}(h:Hu xs i=Z v):∃j,seqIndex? i xs.length=Z j/\xs[j]?=Z v/\j<xs.length ∧ -(xs.length:Int)<=i/\i<xs.length:=by
 unfold Hu at h;cases e:EG xs.length i with
 |none=>rw[e]at h;cases h
 |some j=>
  rw[e]at h;obtain⟨h1,h2,a,b⟩:=We e;exact⟨j,h1,h,h2,a,b⟩
def TY(b:Expr):Prop:=∀o i,subscripted b false o i=operate [o,i] (getItem o i)
def D2(X:Cx)(r:R2):Prop:=
 ∀(value a:Expr) (AN:Y (A1×AE)) (s:A2) (σ:St) (H:Hp) (x y:V) (v u:A0) (Q:VK),AU X AN σ H s->As x v->As y u->r x y H Q →
  subscripted a false v u=operate [v,u] (getItem v u)->A7 (A8 X.prog X.w) X.A (subscriptTail value a v u) (EP X AN σ Q) X.xe s
def Ll(X:Cx)(id:String)(r:V->Y V->Hp->VK->Prop):Prop:=
 ∀(AN:Y (A1×AE)) (s:A2) (σ:St) (H:Hp) (x:V) (xs:Y V) (v:A0) (us:Y A0) (Q:VK),AU X AN σ H s->As x v->AX xs us->r x xs H Q →
  A7 (A8 X.prog X.w) X.A (call (.builtin id) (v::us)) (EP X AN σ Q) X.xe s
section
variable{X:Cx}{a b:Expr}{ta tb:TE}
theorem D2.or{r a:R2}(h:D2 X r)(h':D2 X a):D2 X (λx y H Q=>r x y H Q\/a x y H Q):=by
 intro value d AN s σ H x y v u Q I b c q hs;rcases q with q|q
 ·exact h value d AN s σ H x y v u Q I b c q hs
 ·exact h' value d AN s σ H x y v u Q I b c q hs
theorem RF{r:R2}(g:D2 X r)(d:PE X a ta)(hb:PE X b tb)(hs:TY b):PE X (.Subscript a b pos) (F0 r ta tb):=by
 intro AN s σ H Q I h;exact Subscript_ (GM d hb I h λv u f x y H2 c i e q=>g a b AN f σ H2 x y v u Q c i e q (hs _ _))
def LY(K:B0):R2:=λx y H Q=>∃p xs i v,x=.ref p/\y=.int i/\uP K H p xs/\Hu xs i=Z v/\Q v H
def IP(K:B0):R2:=λx y H Q=>∃p xs i v,x=.ref p/\y=.int i/\z9 K H p xs/\Hu xs i=Z v/\Q v H
def IZ:R2:=λx y H Q=>∃z i c,x=.str z/\y=.int i/\z.length<=AA/\Hu z.cps.toList i=Z c/\Q (.str ⟨#[c]⟩) H
theorem ba:D2 X (LY X.K):=by
 intro value D AN s σ H x y v u Q I n g h hs;obtain⟨p,xs,i,z,rfl,rfl,o,m,q⟩:=h;cases n;obtain⟨t,rfl⟩:=g;obtain⟨AQ,r,pl,A⟩:=I.list o;obtain⟨j,h1,h2,B,e,d⟩:=Kg m;obtain⟨w,b,l⟩:=r.get h2;have f:=r.length;have C:=Ad;have c:EP X AN σ Q w s:=⟨z,H,I,l,q⟩;by_cases h0:0<=i
 ·have a:i.toNat=j:=by
   rw[seqIndex_of h0 d]at h1;exact Q1 h1
  exact item_listR pl.isList h0 (by omega) (by rw[a];simpa using b) c hs
 ·have a:(i+(AQ.toArray.size:Int)).toNat=j:=by
   rw[seqIndex_neg (by omega) e]at h1;rw[zC,<-f];exact Q1 h1
  exact subscriptTail_builtinR (x:=w) pl.isList.typeIs slot_list_getitem.lookup
   (wpAny_getItem_list_neg (Q:=λr s'=>r=w/\EP X AN σ Q r s') pl.isList (by omega) (by rw[zC]<;>omega) (by omega) (by rw[a];simpa using b) ⟨rfl,c⟩) hs
theorem XX:D2 X (IP X.K):=by
 intro value C AN s σ H x y v u Q I e b h hs;obtain⟨p,xs,i,z,rfl,rfl,l,d,q⟩:=h;cases e;obtain⟨t,rfl⟩:=b;obtain⟨AQ,r,pl,o⟩:=I.tuple l;obtain⟨j,h1,h2,A,n,m⟩:=Kg d;obtain⟨w,f,c⟩:=r.get h2;have a:=r.length;have B:=Ad;have g:EP X AN σ Q w s:=⟨z,H,I,c,q⟩;exact subscriptTail_builtinR (x:=w) pl.typeIs slot_tuple_getitem.lookup
  (getItem_tuple (j:=j) (Q:=λr s'=>r=w/\EP X AN σ Q r s') pl (by omega) (by omega) (by rw[zC,<-a];exact h1) (by simpa using f) ⟨rfl,g⟩) hs
theorem ai:D2 X IZ:=by
 intro value p AN s σ H x y v u Q I f e h hs;obtain⟨z,i,c,rfl,rfl,l,g,q⟩:=h;obtain⟨t,rfl⟩:=f;obtain⟨n,rfl⟩:=e;obtain⟨j,h1,h2,m,b,a⟩:=Kg g;have d:z.cps.toList.length=z.length:=by simp[Str.length]
 rw[d]at h1 b a;have o:=Ad;exact tail_any (typeIs_str s z t) slot_str_getitem.lookup (getItem_str (c:=c) (by
  have e1:decide (i < -(2 ^ 63:Int))=false:=Zp (by omega);have e2:decide (i>=2 ^ 63)=false:=Zp (by omega);rw[e1,e2,Bool.or_false]) (by rw[h1];simpa using h2) ⟨.str ⟨#[c]⟩,H,I.tok _,⟨_,rfl⟩,q⟩) hs
def a6(K:B0):R2:=λx y H Q=>LY K x y H Q\/IP K x y H Q\/IZ x y H Q
theorem Su:D2 X (a6 X.K):=ba.or (XX.or ai)
theorem AU.lst{σ:St}{H:Hp}{p:A1}{xs:Y V}(I:AU X AN σ H s)(h:H p=Z (.lst xs)):
  ∃(AQ:Y A0) (n:Nat),AX xs AQ/\s.heap.get? p=Z { cls:=.type "list",data:=.seq AQ.toArray n }/\xs.length<=AA:=by
 obtain⟨z,AQ,n,r,e⟩:=I.hok p _ h;exact⟨AQ,n,r,e,z⟩
theorem Kh(lo hi:S Int)(n:Nat):(sliceBounds lo hi O n).1=((HT.jc n 0 lo:Nat):Int)/\(sliceBounds lo hi O n).2.1=((HT.jc n n hi:Nat):Int)/\(sliceBounds lo hi O n).2.2=1:=by
 refine⟨?_,?_,rfl⟩
 ·cases lo with
  |none=>simp[sliceBounds,HT.jc]
  |some i=>
   simp only[sliceBounds,HT.jc,Option.getD_none,show(1:Int)>0 by decide,qA];by_cases h:i<0
   ·simp only[h,qA]<;>omega
   ·simp only[h,ZI]<;>omega
 ·cases hi with
  |none=>simp[sliceBounds,HT.jc]
  |some i=>
   simp only[sliceBounds,HT.jc,Option.getD_none,show(1:Int)>0 by decide,qA];by_cases h:i<0
   ·simp only[h,qA]<;>omega
   ·simp only[h,ZI]<;>omega
theorem Hv(AQ:Y A0)(lo hi:S Int):slicePick AQ.toArray lo hi O=((AQ.drop (HT.jc AQ.length 0 lo)).take (HT.jc AQ.length AQ.length hi-HT.jc AQ.length 0 lo)).toArray:=by
 obtain⟨h1,h2,a⟩:=Kh lo hi AQ.toArray.size;unfold slicePick;rw[h1,h2,a];simp only[sliceRange_one,pick_run,zC]<;>rfl
def ce(K:B0):V->S Int->S Int->Hp->VK->Prop:=λx lo hi H Q=>∃a xs,x=.ref a/\uP K H a xs/\∀p,H p=O->Q (.ref p) (B6 H p (.lst (Nq xs lo hi)))
theorem UC:Fh X (ce X.K):=by
 intro AN s σ H x v j l lo hi sl Q I g hs pl d h;obtain⟨a,xs,rfl,hx,q⟩:=h;cases g;obtain⟨AQ,r,c,f⟩:=I.list hx;have e:=r.length;refine⟨"list", _,slot_list_getitem.lookup,c.isList.typeIs,?_⟩;refine wpAny_getItem_list_slice c.isList hs pl d .none (by simp) ?_ (by rw[zC]<;>omega);rw[Hv,<-e];refine⟨.ref s.heap.objs.size,_,I.laid (t':=s.toks) (o:=.lst (Nq xs lo hi)) (λb i q=>zd _ q) (zk _) ?_,rfl,q _ (I.hok.fresh (zk _))⟩;exact⟨ZE (Bp xs lo hi) f,_,0,(r.drop (HT.jc xs.length 0 lo)).take (HT.jc xs.length xs.length hi-HT.jc xs.length 0 lo),zv _ rfl⟩
def uw:V->Bool
 |.non=>true
 |.bl _=>true
 |.int _=>true
 |.str _=>true
 |_=>false
def C':V->V->Bool
 |.non,.non=>true
 |.bl a,.bl b=>a==b
 |.bl a,.int b=>(if a then 1 else 0)==b
 |.int a,.bl b=>a==(if b then 1 else 0)
 |.int a,.int b=>a==b
 |.str a,.str b=>a==b
 |_,_=>false
theorem Y2{y x:V}{v:A0}(e:As y u)(c:As x v)(fy:uw y=true)(fx:uw x=true):SeqAt.EqAt A s u v (C' y x):=by
 cases y with
 |non=>
  cases e;cases x with
  |non=>cases c;exact SeqAt.EqAt.same _
  |bl b=>cases c;exact SeqAt.EqAt.none_bool b
  |int b=>obtain⟨t,rfl⟩:=c;exact SeqAt.EqAt.none_int b t
  |str b=>obtain⟨t,rfl⟩:=c;exact SeqAt.EqAt.none_str b t
  |_=>exact absurd (show false=true from fx) ZA
 |bl a=>
  cases e;cases x with
  |non=>cases c;exact SeqAt.EqAt.bool_none a
  |bl b=>cases c;exact SeqAt.EqAt.bool_bool a b
  |int b=>obtain⟨t,rfl⟩:=c;exact SeqAt.EqAt.bool_int a b t
  |str b=>obtain⟨t,rfl⟩:=c;exact SeqAt.EqAt.bool_str a b t
  |_=>exact absurd (show false=true from fx) ZA
 |int a=>
  obtain⟨d,rfl⟩:=e;cases x with
  |non=>cases c;exact SeqAt.EqAt.int_none a d
  |bl b=>cases c;exact SeqAt.EqAt.int_bool a d b
  |int b=>obtain⟨t,rfl⟩:=c;exact SeqAt.EqAt.int_int a d b t
  |str b=>obtain⟨t,rfl⟩:=c;exact SeqAt.EqAt.int_str a d b t
  |_=>exact absurd (show false=true from fx) ZA
 |str a=>
  obtain⟨d,rfl⟩:=e;cases x with
  |non=>cases c;exact SeqAt.EqAt.str_none a d
  |bl b=>cases c;exact SeqAt.EqAt.str_bool a d b
  |int b=>obtain⟨t,rfl⟩:=c;exact SeqAt.EqAt.str_int a d b t
  |str b=>obtain⟨t,rfl⟩:=c;exact SeqAt.EqAt.str_str a d b t
  |_=>exact absurd (show false=true from fx) ZA
 |_=>exact absurd (show false=true from fy) ZA
def D1(x:V)(u:A0):Bool:=match u with
 |.none=>C' .non x
 |.bool b=>C' (.bl b) x
 |.int i _=>C' (.int i) x
 |.str z _=>C' (.str z) x
 |_=>false
theorem X4{x y:V}(r:As y u)(f:uw y=true):D1 x u=C' y x:=by
 cases y with
 |non=>cases r;rfl
 |bl b=>cases r;rfl
 |int i=>obtain⟨t,rfl⟩:=r;rfl
 |str z=>obtain⟨t,rfl⟩:=r;rfl
 |_=>exact absurd (show false=true from f) ZA
theorem Kl{x:V}:∀{xs:Y V} {us:Y A0},AX xs us->xs.all uw=true->us.any (D1 x)=xs.any λy=>C' y x
 |_,_,.nil,_=>rfl
 |y::xs,u::us,.cons r t,f=>by
  rw[kz,ZH]at f;rw[JY,JY,X4 r f.1,Kl t f.2]
theorem DR{A:A5}{s:A2}{x:V}{v:A0}(b:As x v)(fx:uw x=true):∀{xs:Y V} {us:Y A0},AX xs us->xs.all uw=true->∀u∈us,SeqAt.EqAt A s u v (D1 x u)
 |_,_,.nil,_=>λu a=>by cases a
 |y::xs,u::us,.cons r t,f=>λc a=>by
  rw[kz,ZH]at f;rcases List.mem_cons.mp a with rfl|a
  ·rw[X4 r f.1];exact Y2 r b f.1 fx
  ·exact DR b fx t f.2 c a
def Fk(x:V)(xs:Y V):Bool:=xs.any λy=>C' y x
def ah(K:B0)(a:Bool):R2:=λx y H Q=>∃p xs,y=.ref p/\(uP K H p xs\/z9 K H p xs)/\uw x=true/\xs.all uw=true/\Q (.bl (if a then !Fk x xs else Fk x xs)) H
theorem VJ:vR X (AG .In) (ah X.K false):=by
 intro AN s σ H x y v u Q I c e h;obtain⟨p,xs,rfl,a,fx,fs,q⟩:=h;cases e;rcases a with a|a
 ·obtain⟨AQ,r,pl,d⟩:=I.list a;refine SeqAt.in_listAt (D1 x) pl.isList (λw b=>DR c fx r fs w (by simpa using b)) ⟨.bl _,H,I,rfl,?_⟩;rw[show AQ.toArray.any (D1 x)=AQ.any (D1 x) by simp,Kl r fs];exact q
 ·obtain⟨AQ,r,pl,d⟩:=I.tuple a;refine SeqAt.in_tupleAt (D1 x) pl (λw b=>DR c fx r fs w (by simpa using b)) ⟨.bl _,H,I,rfl,?_⟩;rw[show AQ.toArray.any (D1 x)=AQ.any (D1 x) by simp,Kl r fs];exact q
theorem Km:f9 X (.builtin "len") (λxs H Q=>∃p ys,xs=[.ref p]/\(uP X.K H p ys\/z9 X.K H p ys)/\Q (.int ys.length) H):=by
 intro AN s σ H xs us Q I r h;obtain⟨p,ys,rfl,a,q⟩:=h;obtain⟨u,rfl,e⟩:=BF r;cases e;have f:=Ad;rcases a with a|a
 ·obtain⟨AQ,b,pl,d⟩:=I.list a;have c:=b.length;exact Calls.call_len_list pl.isList (by simp only[zC]<;>omega) ⟨.int ys.length,H,I.tok _,⟨s.toks+1,by rw[zC,c]⟩,q⟩
 ·obtain⟨AQ,b,pl,d⟩:=I.tuple a;have c:=b.length;exact len_tuple pl (by simp only[zC]<;>omega) ⟨.int ys.length,H,I.tok _,⟨s.toks+1,by rw[zC,c]⟩,q⟩
theorem Ko:f9 X (.builtin "len") (λxs H Q=>∃z,xs=[.str z]/\z.length<=AA/\Q (.int z.length) H):=by
 intro AN s σ H xs us Q I r h;obtain⟨z,rfl,a,q⟩:=h;obtain⟨u,rfl,t,rfl⟩:=BF r;have b:=Ad;exact len_str (by omega) ⟨.int z.length,H,I.tok _,⟨_,rfl⟩,q⟩
theorem f9.or{f:A0}{r a:Y V->Hp->VK->Prop}(h:f9 X f r)(h':f9 X f a):f9 X f (λxs H Q=>r xs H Q\/a xs H Q):=by
 intro AN s σ H xs us Q I rs q;rcases q with q|q
 ·exact h AN s σ H xs us Q I rs q
 ·exact h' AN s σ H xs us Q I rs q
theorem Hw:f9 X (.type "tuple") (λxs H Q=>∃p ys,xs=[.ref p]/\((uP X.K H p ys/\∀l,H l=O->Q (.ref l) (B6 H l (.tup ys)))\/(z9 X.K H p ys/\Q (.ref p) H))):=by
 intro AN s σ H xs us Q I r h;obtain⟨p,ys,rfl,h⟩:=h;obtain⟨u,rfl,i⟩:=BF r;cases i;rcases h with⟨c,q⟩|⟨c,q⟩
 ·obtain⟨AQ,a,pl,d⟩:=I.list c;have j:=a.length;refine call_tuple_list pl.isList (λh' kp=>?_) (by simp only[zC]<;>omega);have f:AU X AN σ H { s with heap:=h' }:=I.kept (t':=s.toks) kp;have g:AU X AN σ (B6 H h'.objs.size (.tup ys)) { s with heap:=h'.push { cls:=.type "tuple",data:=.seq AQ.toArray } }:=
   f.laid (t':=s.toks) (λb o e=>zd _ e) (zk _) (show iu X.prog X.w _ _ _ (.tup ys) from⟨d,AQ,a,uN.new _ _⟩)
  exact⟨.ref h'.objs.size,_,g,rfl,q _ (f.hok.fresh (zk _))⟩
 ·obtain⟨AQ,a,pl,d⟩:=I.tuple c;exact call_tuple_same pl ⟨.ref p,H,I,rfl,q⟩
def Mk(K:B0)(T:String)(x:V)(H:Hp):Prop:=match x with
 |.str _=>T ="str"
 |.int _=>T ="int"
 |.ref p=>(T ="list" ∧ ∃xs,uP K H p xs)\/(T ="tuple" ∧ ∃o,K.lookup p=Z o/\o.cls=.type "tuple" ∧ o.dict=O) ∨
   (T ="dict" ∧ ((∃AO,H p=Z (.dK AO))\/∃AO,H p=Z (.dT AO)))\/(T ="set" ∧ ∃S n,H p=Z (.set S n))
 |_=>False
theorem NJ{σ:St}{H:Hp}{T:String}{x:V}{v:A0}(I:AU X AN σ H s)(r:As x v)(ty:Mk X.K T x H):
  s.TypeIs v T/\∀a,v=.ref a->∃f,s.heap.get? a=Z f/\f.dict=O:=by
 cases x with
 |str z=>
  obtain⟨t,rfl⟩:=r;cases(show T ="str" from ty);exact⟨typeIs_str s z t,λ_ e=>nomatch e⟩
 |int i=>
  obtain⟨t,rfl⟩:=r;cases(show T ="int" from ty);exact⟨typeIs_int s i t,λ_ e=>nomatch e⟩
 |ref p=>
  cases r;rcases ty with⟨rfl,xs,h⟩|⟨rfl,o,b,g,d⟩|⟨rfl,b⟩|⟨rfl,S,n,b⟩
  ·obtain⟨AQ,_,pl,_⟩:=I.list h;refine⟨pl.isList.typeIs,λa e=>?_⟩;cases e;obtain⟨o,n,e,c,d,_⟩:=pl;exact⟨o,e,d⟩
  ·refine⟨⟨o,I.kIn p o b,g⟩,λa e=>?_⟩;cases e;exact⟨o,I.kIn _ o b,d⟩
  ·have z:∃o,s.heap.get? p=Z o/\o.ExactDict:=by
    rcases b with⟨AO,b⟩|⟨AO,b⟩
    ·obtain⟨_,_,_,_,o,_,_,e,ex,_⟩:=I.hok p _ b;exact⟨o,e,ex⟩
    ·obtain⟨_,_,_,_,o,_,_,e,ex,_⟩:=I.hok p _ b;exact⟨o,e,ex⟩
   obtain⟨o,e,ex⟩:=z;refine⟨⟨o,e,ex.1⟩,λa e2=>?_⟩;cases e2;exact⟨o,e,ex.2.1⟩
  ·obtain⟨o,_,_,_,e,ex,_⟩:=I.hok p _ b;refine⟨⟨o,e,ex.1⟩,λa e2=>?_⟩;cases e2;exact⟨o,e,ex.2.1⟩
 |_=>exact False.elim ty
def OA(K:B0)(T:String)(r:V->Y V->Hp->VK->Prop)(to:TE)(t:TA):TE:=λσ H Q=>to σ H λx H1=>Mk K T x H1/\t σ H1 λxs H2=>r x xs H2 Q
variable{o:Expr}{to:TE}{t:TA}{T id:String}{r:V->Y V->Hp->VK->Prop}
theorem X5(pa:PlainAttrs T)(slot:Slot T name id)(j:typeOf (.builtin id)=pure (.type "method_descriptor"))(i:Ll X id r)(ho:PE X o to)(f:PA X (e::es) t)
  (c:attributeBase o name X.env (eval o X.env)=eval o X.env:=by rfl)
  (d:((AD cpos (A9 (e::es) X.env)).all (λx=>!x.1)&&(backToKw cpos (keywordEach [] X.env)).all (λx=>x.1.isSome)
   && decide ((e::es).length+([]:Y AC).length+(if([]:Y AC).isEmpty then 0 else 1)<30))=true:=by rfl)
  (g:(apos.endLine==cpos.line)=true:=by rfl) (hs:A9 (e::es) X.env=(false,eval e X.env)::A9 es X.env:=by rfl) (b:(AD cpos (A9 es X.env)).any (·.1)=false:=by rfl):
  PE X (.Call (.Attribute o name apos) (e::es) [] cpos) (OA X.K T r to t):=by
 intro AN s σ H Q I h;refine wpAny_Call_method_late c d g Y3 (iM (ho AN s σ H _ I h) λv s1 ⟨x,H1,I1,r1,ty,q1⟩=>?_);obtain⟨h1,h2⟩:=NJ I1 r1 ty;refine⟨T,id,pa,slot,j,h1,h2,?_⟩;have a:=f cpos AN s1 σ H1 _ I1 q1;rw[hs]at a ⊢;refine Calls.callWith_builtin (by show(false||(AD cpos (A9 es X.env)).any (·.1))=false;rw[b]<;>rfl) (Calls.evalArgs_plain ?_);exact iM a λus s2 ⟨vs,H2,I2,r2,q2⟩=>i AN s2 σ H2 x vs v us Q I2 r1 r2 q2
end
end L2
namespace L2
def Mn(X:Cx)(id:String)(r:V->Y V->Hp->VK->Prop):Prop:=
 ∀(AN:Y (A1×AE)) (s:A2) (σ:St) (H:Hp) (x:V) (xs:Y V) (v:A0) (us:Y A0) (Q:VK),AU X AN σ H s->As x v->AX xs us->r x xs H Q →
  A7 (A8 X.prog X.w) X.A (call (.builtin id) (v::us)) (EP X AN σ Q) X.xe s
theorem AX.one:∀{x:V} {us:Y A0},AX [x] us->∃u,us=[u]/\As x u
 |_,_,.cons r .nil=>⟨_,rfl,r⟩
theorem AX.two:∀{x y:V} {us:Y A0},AX [x,y] us->∃u v,us=[u,v]/\As x u/\As y v
 |_,_,_,.cons r (.cons q .nil)=>⟨_,_,rfl,r,q⟩
theorem AX.eraseIdx:∀{xs:Y V} {us:Y A0} (i:Nat),AX xs us->AX (xs.eraseIdx i) (us.eraseIdx i)
 |_,_,_,.nil=>.nil
 |_,_,0,.cons _ t=>t
 |_,_,i+1,.cons r t=>.cons r (AX.eraseIdx i t)
theorem AX.reverse{xs:Y V}(h:AX xs us):AX xs.reverse us.reverse:=by
 induction h with
 |nil=>exact .nil
 |cons r t a=>rw[kC,kC];exact AX.append a (.cons r .nil)
theorem AX.rep{xs:Y V}{us:Y A0}(h:AX xs us):∀k:Nat,AX (List.replicate k xs).flatten (List.replicate k us).flatten
 |0=>.nil
 |k+1=>by
  rw[qr,qr,j0,j0];exact AX.append h (AX.rep h k)
theorem Jl{α:Type}:∀(l:Y α) (i:Nat),(l.eraseIdx i).length<=l.length
 |[],_=>zk _
 |_::_,0=>Kb _
 |_::r,i+1=>Nat.succ_le_succ (Jl r i)
theorem C0(AQ:Y A0):∀(k:Nat) (a:Y A0),
  List.foldl (λx1 b=>x1++b) a.toArray (List.replicate k AQ.toArray)=(a++(List.replicate k AQ).flatten).toArray
 |0,a=>by simp
 |k+1,a=>by
  have e:a.toArray++AQ.toArray=(a++AQ).toArray:=by simp
  have e2:(a++AQ)++(List.replicate k AQ).flatten=a++(List.replicate (k+1) AQ).flatten:=by
   rw[qr,j0,qa]
  rw[<-e2,<-C0 AQ k (a++AQ),<-e,qr,qi]
section
variable{X:Cx}{σ:St}{H:Hp}{l b:A1}{xs ys zs:Y V}
theorem AU.X6{its':Y A0}{f:Array A0->Array A0}{t':Nat}(I:AU X AN σ H s)(c:H l=Z (.lst xs))(e:s.heap.get? l=Z { cls:=.type "list",data:=.seq AQ.toArray n })(b:f AQ.toArray=its'.toArray)(g:AX ys its')(a:ys.length<=AA):
  AU X AN σ (B6 H l (.lst ys)) { s with heap:=s.heap.update l (Obj.mapSeq f),toks:=t' }:=by
 have q:=PySem.IsL.update e f;rw[b]at q;refine I.write (x:=l) (e:=l) (by rw[c];exact trivial) (.inl Y3) (λh u hb d=>(Heap.get?_update_other s.heap (Obj.mapSeq f) (KG hb)).trans d) ⟨_,q⟩ ?_;exact⟨a,its',_,g,q⟩
theorem AU.ajB{t':Nat}(I:AU X AN σ H s)(b:AX ys AQ)(a:ys.length<=AA):
  AU X AN σ (B6 H s.heap.objs.size (.lst ys)) { s with heap:=s.heap.push { cls:=.type "list",data:=.seq AQ.toArray },toks:=t' }:=
 I.laid (λ_ _ q=>zd _ q) (zk _) ⟨a,AQ,0,b,zv _ rfl⟩
theorem AU.fresh(I:AU X AN σ H s):H s.heap.objs.size=O:=I.hok.fresh (zk _)
theorem AU.afd(I:AU X AN σ H s)(a:H l=Z (.lst xs)):xs.length<=AA/\∃(AQ:Y A0) (n:Nat),AX xs AQ/\xs.length=AQ.length/\s.heap.get? l=Z { cls:=.type "list",data:=.seq AQ.toArray n }:=by
 obtain⟨z,AQ,n,r,e⟩:=I.hok l _ a;exact⟨z,AQ,n,r,r.length,e⟩
theorem X7(h:n<=AA):Builtin.List.listTooLong n=false:=by
 unfold Builtin.List.listTooLong;exact Zp (by omega)
end
section
variable{X:Cx}
def YE:V->Y V->Hp->VK->Prop:=λx vs H Q=>∃l xs y,x=.ref l/\vs=[y]/\H l=Z (.lst xs)/\xs.length<AA/\Q .non (B6 H l (.lst (xs++[y])))
theorem Jm:Mn X "list.append" YE:=by
 intro AN s σ H x vs v us Q I d c h;obtain⟨l,xs,y,rfl,rfl,a,f,q⟩:=h;cases d;obtain⟨u,rfl,b⟩:=c.one;obtain⟨z,AQ,n,r,g,e⟩:=I.afd a;refine call_meets F.slot_list_append ⟨_,e,rfl⟩ F.entry_list_append (F.args_list_append_2 _ _) (PySem.list_append l AQ.toArray n u (by rw[zC];omega)) ⟨e,?_⟩;refine⟨.non,_,I.X6 (its':=AQ++[u]) a e (by simp) (r.append (.cons b .nil)) ?_,rfl,q⟩;rw[zD,List.length_singleton];omega
def Sc:V->Y V->Hp->VK->Prop:=λx vs H Q=>∃l xs i k y,x=.ref l/\vs=[.int i]/\H l=Z (.lst xs) ∧ -(2 ^ 63)<=i/\i<2 ^ 63/\seqIndex? i xs.length=Z k/\xs[k]?=Z y/\Q y (B6 H l (.lst (xs.eraseIdx k)))
theorem X8:Mn X "list.pop" Sc:=by
 intro AN s σ H x vs v us Q I o j h;obtain⟨l,xs,i,k,y,rfl,rfl,a,h1,h2,c,m,q⟩:=h;cases o;obtain⟨u,rfl,d⟩:=j.one;obtain⟨t,rfl⟩:=d;obtain⟨z,AQ,n,r,b,e⟩:=I.afd a;obtain⟨w,g,f⟩:=r.get m;refine call_meets F.slot_list_pop ⟨_,e,rfl⟩ F.entry_list_pop (F.args_list_pop_2 _ _)
  (MeetsSeq.list_pop_at l AQ.toArray n i t k w (fitsIndex_both h1 h2) (by rw[zC,<-b];exact c) (by rw[<-qB];exact g) (by rw[zC];omega)) ⟨e,?_⟩
 refine⟨y,_,I.X6 (its':=AQ.eraseIdx k) a e ?_ (r.eraseIdx k) ?_,f,q⟩
 ·show AQ.toArray.eraseIdxIfInBounds k=(AQ.eraseIdx k).toArray;rw[List.eraseIdxIfInBounds_toArray]
 ·have:=Jl xs k;omega
def RA:R2:=λx y H Q=>∃l k xs,x=.ref l/\y=.int k/\H l=Z (.lst xs) ∧ -(2 ^ 63)<=k/\k<2 ^ 63/\xs.length*k.toNat<=AA ∧
 ∀p,H p=O->Q (.ref p) (B6 H p (.lst (List.replicate k.toNat xs).flatten))
theorem D0(xs:Y α)(k:Nat):(List.replicate k xs).flatten.length=k*xs.length:=by
 induction k with
 |zero=>simp
 |succ k a=>rw[qr,j0,zD,a,Nat.succ_mul,Nat.add_comm]
theorem VQ:vR X (binaryOp .Mult) RA:=by
 intro AN s σ H x y v u Q I o i h;obtain⟨l,k,xs,rfl,rfl,w,h1,h2,c,q⟩:=h;cases o;obtain⟨t,rfl⟩:=i;obtain⟨z,AQ,n,r,f,e⟩:=I.afd w;have d:AQ.toArray.size*k.toNat<=AA:=by rw[zC,<-f];exact c
 have A:¬ AQ.toArray.size*k.toNat>(2 ^ 63-1) / 8:=by
  have:(AA:Nat)<=(2 ^ 63-1) / 8:=by decide
  omega
 have p:¬ (!Builtin.List.listFitsIndex k)=true:=by
  rw[fitsIndex_both h1 h2];exact ZA
 have j:¬ Builtin.List.listTooLong (AQ.toArray.size*k.toNat)=true:=by
  rw[X7 d];exact ZA
 have g:List.foldl (λx1 b=>x1++b) #[] (List.replicate (if AQ.toArray.isEmpty=true then 0 else k.toNat) AQ.toArray)=(List.replicate k.toNat AQ).flatten.toArray:=by
  have f0:∀m:Nat,List.foldl (λx1 b=>x1++b) #[] (List.replicate m AQ.toArray)=(List.replicate m AQ).flatten.toArray:=λm=>by
   have:=C0 AQ m [];rw[Jn]at this;exact this
  rw[f0];cases AQ with
  |nil=>simp
  |cons a B=>rw[zw (by simp)]
 refine wpAny_binaryOp_repeat_ref (T :="list") (U :="int") (by decide) ⟨_,e,rfl⟩ (λs'=>typeIs_int s' k t) noFill_list_mul F.fills_int_mul F.slot_int_rmul repeat_list F.slot_int_index.lookup
  (call_meets F.slot_int_rmul (typeIs_int s k t) F.entry_int_rmul (F.args_int_rmul_2 _ _) (int___rmul___int_list k t l AQ.toArray n)
   ⟨e,rfl,⟨_,e,rfl⟩,call_meets F.slot_list_mul ⟨_,e,rfl⟩ F.entry_list_mul (F.args_list_mul_2 _ _) (AutoListH.list___mul___list_int_3 l AQ.toArray n k t p A j) ⟨e,?_⟩⟩)
 rw[g];exact⟨.ref _,_,I.ajB (t':=s.toks) (r.rep k.toNat) (by rw[D0,Nat.mul_comm];exact c),rfl,q _ I.fresh⟩
end
section
variable{X:Cx}
end
end L2
namespace L2
section
variable [DecidableEq κ]
def Ae(AO:Y (κ×V))(k:κ):S V:=(AO.find? λa=>decide (a.1=k)).map (·.2)
def BD(AO:Y (κ×V))(k:κ)(v:V):Y (κ×V):=
 if(AO.any λa=>decide (a.1=k))=true then AO.map (λa=>if a.1=k then(a.1,v)else a)else AO++[(k,v)]
theorem yE{p:κ×V}{r:Y (κ×V)}{k:κ}(e:p.1=k):Ae (p::r) k=Z p.2:=by simp[Ae,kq,e]
theorem yF{p:κ×V}{r:Y (κ×V)}{k:κ}(e:¬ p.1=k):Ae (p::r) k=Ae r k:=by simp[Ae,kq,e]
theorem Nr(k:κ):∀AO:Y (κ×V),(AO.any λa=>decide (a.1=k))=(Ae AO k).isSome
 |[]=>rfl
 |p::r=>by
  rw[JY];by_cases e:p.1=k
  ·simp only[yE e,z4 e,Bool.true_or,KB]
  ·rw[yF e,Zp e,Bool.false_or];exact Nr k r
theorem nG(AO:Y (κ×V))(k:κ)(v:V):(BD AO k v).length<=AO.length+1:=by
 unfold BD;split
 ·rw[zr];omega
 ·rw[zD,ZN,List.length_nil];omega
theorem Dz.Af{o:S V}{u:S A0}(r:Dz o u):o.isSome=u.isSome:=by
 cases o with
 |none=>cases u with
  |none=>rfl
  |some _=>exact(show False from r).elim
 |some _=>cases u with
  |none=>exact(show False from r).elim
  |some _=>rfl
theorem KV.val{AO:Y (κ×V)}{vs:Y (κ×A0)}(r:KV AO vs)(k:κ):Dz (Ae AO k) (valueAt vs k):=by
 unfold KV at r
 induction r with
 |nil=>exact True.intro
 |@cons p q ps a h t c=>
  obtain⟨h1,h2⟩:=h;by_cases e:p.1=k
  ·have e':q.1=k:=h1.symm.trans e;have b:valueAt (q::a) k=Z q.2:=by simp[valueAt,kq,e']
   rw[yE e,b];exact h2
  ·have e':¬ q.1=k:=λz=>e (h1.trans z);have b:valueAt (q::a) k=valueAt a k:=by simp[valueAt,kq,e']
   rw[yF e,b];exact c
theorem KV.any{AO:Y (κ×V)}{vs:Y (κ×A0)}(r:KV AO vs)(k:κ):(AO.any λa=>decide (a.1=k))=vs.any λa=>decide (a.1=k):=by
 unfold KV at r
 induction r with
 |nil=>rfl
 |cons h t b=>rw[JY,JY,b,h.1]
theorem KV.repl{AO:Y (κ×V)}{vs:Y (κ×A0)}(r:KV AO vs)(k:κ){y:V}(b:As y u):
  KV (AO.map λa=>if a.1=k then(a.1,y)else a) (vs.map λa=>if a.1=k then(a.1,u)else a):=by
 unfold KV at r ⊢
 induction r with
 |nil=>exact .nil
 |@cons p q ps d h t c=>
  rw[zt,zt];refine .cons ?_ c;obtain⟨h1,h2⟩:=h;by_cases e:p.1=k
  ·rw[zo e,zo (h1.symm.trans e)];exact⟨h1,b⟩
  ·rw[zw e,zw (λz=>e (h1.trans z))];exact⟨h1,h2⟩
theorem KV.put{AO:Y (κ×V)}{vs:Y (κ×A0)}(r:KV AO vs)(k:κ){y:V}(a:As y u):KV (BD AO k y) (stored vs k u):=by
 unfold BD stored;rw[r.any k];by_cases e:(vs.any λb=>decide (b.1=k))=true
 ·rw[zo e,zo e];exact r.repl k a
 ·rw[zw e,zw e];exact Paired.snoc r ⟨rfl,a⟩
theorem KV.length{AO:Y (κ×V)}{vs:Y (κ×A0)}(r:KV AO vs):AO.length=vs.length:=Paired.length r
end
theorem DW{k:AY}(r:As (kV k) u):(bx P w).is k u=true:=by
 cases k with
 |inl i=>obtain⟨t,e⟩:=(show ∃t,u=Value.int i t from r);subst e;exact Nh P w i t
 |inr x=>obtain⟨t,e⟩:=(show ∃t,u=Value.str x t from r);subst e;exact Ni P w x t
theorem Jo{P:A3}{w:A4}:∀{ks:Y AY} {us:Y A0},AX (ks.map kV) us->ItemsAre (bx P w) ks us
 |[],_,r=>by rw[JS]at r;cases r;exact .nil
 |k::ks,_,r=>by
  rw[zt]at r;cases r with
  |cons h t=>exact .cons (DW h) (Jo t)
abbrev KT(H:Hp):Y (Y AY×V)->Y (Y AY×A1×A0)->Prop:=AI λp q=>p.1=q.1/\H q.2.1=Z (.tup (p.1.map kV))/\As p.2 q.2.2
theorem KT.val{H:Hp}{AO:Y (Y AY×V)}{xs:Y (Y AY×A1×A0)}(r:KT H AO xs)(k:Y AY):Dz (Ae AO k) ((atKey xs k).map (·.2)):=by
 induction r with
 |nil=>exact True.intro
 |@cons p q ps a h t c=>
  obtain⟨h1,_,h2⟩:=h;by_cases e:p.1=k
  ·have e':q.1=k:=h1.symm.trans e;have b:atKey (q::a) k=Z q.2:=by simp[atKey,kq,e']
   rw[yE e,b];exact h2
  ·have e':¬ q.1=k:=λz=>e (h1.trans z);have b:atKey (q::a) k=atKey a k:=by simp[atKey,kq,e']
   rw[yF e,b];exact c
theorem KT.repl{H:Hp}{AO:Y (Y AY×V)}{xs:Y (Y AY×A1×A0)}(r:KT H AO xs)(k:Y AY){y:V}(b:As y u):
  KT H (AO.map λa=>if a.1=k then(a.1,y)else a) (xs.map (putAt k u)):=by
 induction r with
 |nil=>exact .nil
 |@cons p q ps f h t c=>
  rw[zt,zt];refine .cons ?_ c;obtain⟨h1,h2,d⟩:=h;unfold putAt;by_cases e:p.1=k
  ·rw[zo e,zo (h1.symm.trans e)];exact⟨h1,h2,b⟩
  ·rw[zw e,zw (λz=>e (h1.trans z))];exact⟨h1,h2,d⟩
theorem KT.put{H:Hp}{AO:Y (Y AY×V)}{xs:Y (Y AY×A1×A0)}(r:KT H AO xs)(k:Y AY){b:A1}{y:V}(hb:H b=Z (.tup (k.map kV)))(a:As y u):
  KT H (BD AO k y) (storedH xs k b u):=by
 have e:(AO.any λc=>decide (c.1=k))=(atKey xs k).isSome:=by
  rw[Nr,(r.val k).Af,Option.isSome_map]
 unfold BD storedH;rw[e];by_cases q:(atKey xs k).isSome=true
 ·rw[zo q,zo q];exact r.repl k a
 ·rw[zw q,zw q];exact Paired.snoc r ⟨rfl,hb,a⟩
theorem KT.keeps{H H':Hp}{AO:Y (Y AY×V)}{xs:Y (Y AY×A1×A0)}(r:KT H AO xs)(a:∀b ys,H b=Z (.tup ys)->H' b=Z (.tup ys)):KT H' AO xs:=
 Paired.abo r λ_ _ z=>⟨z.1,a _ _ z.2.1,z.2.2⟩
section
variable{H:Hp}
theorem IU{u:HO}(ok:yu P w H h)(e:Rd H a u):iu P w H h a u:=e.ok ok
theorem ux{AO:Y (AY×V)}(ok:yu P w H h)(e:Rd H a (.dK AO)):AO.length<=AA/\(a==sysModules)=false/\∃vs,KV AO vs/\h.DictOf (bx P w) a vs:=
 show iu P w H h a (.dK AO) from IU ok e
theorem Yb{AO:Y (AY×V)}(ok:yu P w H h)(e:H a=Z (.dK AO)):AO.length<=AA/\(a==sysModules)=false/\∃vs,KV AO vs/\h.DictOf (bx P w) a vs:=ux ok (.inl e)
theorem Kq{ks:Y AY}(ok:yu P w H h)(e:H a=Z (.tup (ks.map kV))):(tupleKind (bx P w)).is h ks a:=by
 obtain⟨_,AQ,r,o,h1,h2,⟨n,b⟩,_⟩:=(show iu P w H h a (.tup (ks.map kV)) from ok a _ e);exact⟨o,AQ.toArray,n,h1,h2,b,by simpa using Jo r⟩
theorem T3{AO:Y (Y AY×V)}(ok:yu P w H h)(e:Rd H a (.dT AO)):AO.length<=AA/\(a==sysModules)=false ∧
  ∃xs,KT H AO xs/\h.DictOfH (tupleKind (bx P w)) a xs:=by
 obtain⟨z,y,xs,r,o,es,ep,h1,h2,g,d,c⟩:=(show iu P w H h a (.dT AO) from IU ok e);refine⟨z,y,xs,r,o,es,ep,h1,h2,g,d,λx hx=>?_,c⟩;have all:∀{l:Y (Y AY×V)} {m:Y (Y AY×A1×A0)},KT H l m->∀x∈m,(tupleKind (bx P w)).is h x.1 x.2.1:=by
  intro l m q
  induction q with
  |nil=>intro x hx;exact nomatch hx
  |@cons p q ps i b t f=>
   intro x hx;rcases List.mem_cons.mp hx with e|hx
   ·subst e;exact Kq ok (by rw[<-b.1];exact b.2.1)
   ·exact f x hx
 exact all r x hx
theorem PD{AO:Y (Y AY×V)}(ok:yu P w H h)(e:H a=Z (.dT AO)):AO.length<=AA/\(a==sysModules)=false ∧
  ∃xs,KT H AO xs/\h.DictOfH (tupleKind (bx P w)) a xs:=T3 ok (.inl e)
end
def Yc(H:Hp)(a:A1)(y:V)(r:S V):Prop:=
 (∃AO k,Rd H a (.dK AO)/\y=kV k/\r=Ae AO k)\/∃AO k b,Rd H a (.dT AO)/\y=.ref b/\H b=Z (.tup (k.map kV))/\r=Ae AO k
def Yd(H:Hp)(a:A1)(y v:V)(H':Hp):Prop:=
 (∃AO k,H a=Z (.dK AO)/\y=kV k/\AO.length<AA/\H'=B6 H a (.dK (BD AO k v))) ∨
 ∃AO k b,H a=Z (.dT AO)/\y=.ref b/\H b=Z (.tup (k.map kV))/\AO.length<AA/\H'=B6 H a (.dT (BD AO k v))
theorem Yd.k{H:Hp}{a:A1}{AO:Y (AY×V)}{k:AY}{v:V}(e:H a=Z (.dK AO))(b:AO.length<AA):Yd H a (kV k) v (B6 H a (.dK (BD AO k v))):=.inl ⟨AO,k,e,rfl,b,rfl⟩
section
variable{X:Cx}{σ:St}{H:Hp}{y v:V}{r:A0}{o:S V}
theorem AU.big(I:AU X AN σ H s):sysModules<s.heap.objs.size:=by
 have h:mainGlobals<s.heap.objs.size:=(I.mod.glob.keeps I.bk).lt;exact Nat.lt_trans (by decide) h
theorem VL{Q:BB}(x:A.units+1<cLine)(I:AU X AN σ H s)(g:Yc H a y (Z v))(n:As y u)(h:∀c s',AU X AN σ H s'->As v c->Q c s'):
  A7 (A8 X.prog X.w) A (getItem (.ref a) u) Q E s:=by
 rcases g with⟨AO,k,e,d,l⟩|⟨AO,k,b,e,d,eb,l⟩
 ·subst d;obtain⟨z,t,vs,f,m⟩:=ux I.hok e;obtain⟨c,j,i⟩:=Dz.some_of (v:=v) (o:=valueAt vs k) (by rw[l];exact f.val k);exact wpAny_getItem_of (DW n) m.mapOf j (h c _ (I.tok _) i)
 ·subst d;cases(show u=Value.ref b from n);obtain⟨z,t,xs,f,m⟩:=T3 I.hok e;obtain⟨c,j,i⟩:=Dz.some_of (v:=v) (o:=(atKey xs k).map (·.2)) (by rw[l];exact f.val k);obtain⟨p,hp,q⟩:=Option.map_eq_some_iff.mp j;refine wpAny_getItem_heap (tupleKind_room_in1 x) (Kq I.hok eb) m hp ?_;rw[q];exact h c _ (I.tok _) i
theorem Se{Q:BB}(m:A.units+1<cLine)(I:AU X AN σ H s)(g:Yc H a y o)(j:As y u)(h:∀s',AU X AN σ H s'->Q (.bool (!o.isSome)) s'):
  A7 (A8 X.prog X.w) A (AG .NotIn u (.ref a)) Q E s:=by
 rcases g with⟨AO,k,e,c,l⟩|⟨AO,k,b,e,c,eb,l⟩
 ·subst c;obtain⟨z,i,vs,d,f⟩:=ux I.hok e;refine wpAny_notIn_of (DW j) i f.mapOf ?_;rw[<-(d.val k).Af,<-l];exact h _ (I.tok _)
 ·subst c;cases(show u=Value.ref b from j);obtain⟨z,i,xs,d,f⟩:=T3 I.hok e;refine wpAny_notIn_heap (tupleKind_room_in1 m) (Kq I.hok eb) i f ?_;have q:=(d.val k).Af;rw[Option.isSome_map]at q;rw[<-q,<-l];exact h _ (I.tok _)
theorem Dd{h':A6}{t':Nat}{c:HO}(I:AU X AN σ H s)(d:EX (H a))(hs:Heap.SameBut a s.heap h')(he:∃q,h'.get? a=Z q)(new:iu X.prog X.w (B6 H a c) h' a c):
  AU X AN σ (B6 H a c) { s with heap:=h',toks:=t' }:=
 I.write (x:=a) (e:=a) d (.inl Y3) (λb q hb z=>(hs.2 b hb).trans z) he new
theorem Q6{H':Hp}{h':A6}{AO:Y (AY×V)}{vs:Y (AY×A0)}(z:AO.length<=AA)(d:(a==sysModules)=false)(c:KV AO vs)(b:h'.DictOf (bx P w) a vs):
  iu P w H' h' a (.dK AO):=⟨z,d,vs,c,b⟩
theorem VN{H':Hp}{Q:Unit->A2->Prop}(K:A.units+1<cLine)(I:AU X AN σ H s)(g:Yd H a y v H')(x:As y u)(C:As v r)(h:∀s',AU X AN σ H' s'->Q () s'):
  A7 (A8 X.prog X.w) A (setItem (.ref a) u r) Q E s:=by
 rcases g with⟨AO,k,e,j,l,m⟩|⟨AO,k,b,e,j,eb,l,m⟩
 ·subst j m;obtain⟨z,t,vs,d,p⟩:=Yb I.hok e;have n:vs.length<=AA:=by rw[<-d.length];exact z
  have o:(BD AO k v).length<=AA:=by have:=nG AO k v;omega
  refine wpAny_setItem_pairs (hsz:=n) (DW x) p λh' i hs=>h _ ?_;have G:∃q,h'.get? a=Z q:=let ⟨q,_,_,f,_⟩:=i;⟨q,f⟩;exact Dd I (by rw[e];exact True.intro) hs G (Q6 o t (d.put k C) i)
 ·subst j m;cases(show u=Value.ref b from x);obtain⟨z,t,xs,d,p⟩:=PD I.hok e;have n:xs.length<=AA:=by rw[<-Paired.length d];exact z
  have o:(BD AO k v).length<=AA:=by have:=nG AO k v;omega
  refine wpAny_setItem_heap (hsz:=n) (tupleKind_room_in1 K) (Kq I.hok eb) p λh' i hs=>h _ ?_;obtain⟨q,es,ep,f,h2,J,F,_,D⟩:=i;refine Dd I (by rw[e];exact True.intro) hs ⟨q,f⟩ ⟨o,t,_,(d.put k eb C).keeps λc ys B=>?_,q,es,ep,f,h2,J,F,D⟩;rw[aQ (oM B e (λz=>nomatch z))];exact B
end
section
variable{X:Cx}{σ:St}{H:Hp}{AO:Y (AY×V)}{k:AY}
end
def HQ(i:Expr):Prop:=∀a iv,subscripted i false a iv=operate [a,iv] (getItem a iv)
theorem af{value b:Expr}{T id:String}{Q:BB}(j:typeLookup (.type T) "__getitem__"=pure (Z (.builtin id)))(hs:HQ b)(h:A7 (A8 prog w) A (eval value env) (λo f=>A7 (A8 prog w) A (eval b env) (λi a=>a.TypeIs o T/\A7 (A8 prog w) A (getItem o i) Q E a) E f) E s):
  A7 (A8 prog w) A (eval (.Subscript value b pos) env) Q E s:=by
 refine Subscript_ (QA h (λo f m=>QA m (λi a d=>?_) λ_ _ x=>x) λ_ _ x=>x);obtain⟨g,d⟩:=d;unfold subscriptTail;refine zb ?_;rw[getitemInPython_of_ne g.not_modules];refine zb (wpAny_specialOf g j ?_);have c:A7 (A8 prog w) A (subscripted b false o i) (λr e=>A7 (A8 prog w) A (letTemporaryGo value o r >>= λ_=>pure r) Q E e) E a:=by
  rw[hs o i];exact wpAny_operating (QA d (λr e l=>zb (wpAny_letTemporaryGo (ze l))) λ_ _ x=>x)
 first
  |exact ze (zb c)
  |exact zb (ze (zb c))
  |exact zb c
theorem Nt{X:Cx}{σ:St}{H:Hp}{y:V}{o:S V}(I:AU X AN σ H s)(g:Yc H a y o):s.TypeIs (.ref a) "dict":=by
 rcases g with⟨AO,k,e,_,_⟩|⟨AO,k,b,e,_,_,_⟩
 ·obtain⟨_,_,vs,_,c⟩:=ux I.hok e;exact c.typeIs
 ·obtain⟨_,_,xs,_,c⟩:=T3 I.hok e;exact c.typeIs
def WH(td ty:TE):TE:=λσ H Q=>td σ H λx H1=>ty σ H1 λy H2=>∃a v,x=.ref a/\Yc H2 a y (Z v)/\Q v H2
def cK(td ty tv:TE):TS:=λD σ H=>tv σ H λv H1=>td σ H1 λx H2=>ty σ H2 λy c=>∃a b,x=.ref a/\Yd c a y v b/\D.nx σ b
section
variable{X:Cx}{o i value:Expr}{pos':Pos}{td ty tv:TE}
theorem SE(d:X.A.units+1<cLine)(ho:PE X o td)(hi:PE X i ty)(hs:HQ i):PE X (.Subscript o i pos) (WH td ty):=by
 intro AN s σ H Q I h;refine af PySem.F.slot_dict_getitem.lookup hs (iM (ho AN s σ H _ I h) λu s1 ⟨x,H1,I1,rx,q1⟩=>iM (hi AN s1 σ H1 _ I1 q1) λiv s2 ⟨y,H2,I2,ry,a,v,ex,g,q2⟩=>?_);subst ex;obtain rfl:u=Value.ref a:=rx;exact⟨Nt I2 g,VL d I2 g ry λf e c b=>⟨v,H2,c,b,q2⟩⟩
theorem Pc(b:X.A.units+1<cLine)(ho:PE X o td)(hi:PE X i ty)(d:PE X value tv)(hs:swapsWith value (Z (.Subscript o i pos')) pos.line X.env=pure false):
  PS X (.Assign [.Subscript o i pos'] value pos) (cK td ty tv):=by
 intro AN s σ H D I h;refine wpAny_Assign_Subscript (iM (d AN s σ H _ I h) λr s1 ⟨v,H1,I1,rv,q1⟩=>iM (ho AN s1 σ H1 _ I1 q1) λu s2 ⟨x,H2,I2,rx,q2⟩=>iM (hi AN s2 σ H2 _ I2 q2) λiv s3 ⟨y,H3,I3,ry,a,H4,ex,g,q3⟩=>?_) hs;subst ex;obtain rfl:u=Value.ref a:=rx;exact VN b I3 g ry rv λe c=>⟨σ,H4,c,q3⟩
end
theorem Nu{H:Hp}(h:A6)(hb:sysModules<h.objs.size):iu P w H (h.push { cls:=.type "dict",data:=.dict #[] }) h.objs.size (.dK []):=
 ⟨QO _,beq_eq_false_iff_ne.mpr (KG (zI hb)),[],.nil,Heap.DictOf.new h⟩
section
variable{X:Cx}
end
def Q7:Y (TE×TE)->St->Hp->(Y (V×V)->Hp->Prop)->Prop
 |[],_,H,Q=>Q [] H
 |(tk,tv)::r,σ,H,Q=>tk σ H λx H1=>tv σ H1 λy H2=>Q7 r σ H2 λps a=>Q ((x,y)::ps) a
abbrev VV:Y (V×V)->Y (A0×A0)->Prop:=AI λp q=>As p.1 q.1/\As p.2 q.2
def FS(X:Cx)(pos:Pos)(c:Y (S Expr))(a:Y Expr)(b:Y (TE×TE)):Prop:=
 ∀(AN:Y (A1×AE)) (s:A2) (σ:St) (H:Hp) (Q:Y (V×V)->Hp->Prop),AU X AN σ H s->Q7 b σ H Q →
  A7 (A8 X.prog X.w) X.A (evalPairs (pairTrees c a X.env pos)) (λvs s'=>∃ps H',AU X AN σ H' s'/\VV ps vs/\Q ps H') X.xe s
theorem TH{X:Cx}:FS X pos [] [] []:=λAN s σ H Q I h=>pairTrees_nil_walk ⟨[],H,I,.nil,h⟩
theorem Ye{X:Cx}{k v:Expr}{ks:Y (S Expr)}{vs:Y Expr}{tk tv:TE}{a:Y (TE×TE)}(b:PE X k tk)(d:PE X v tv)(c:FS X pos ks vs a):
  FS X pos (Z k::ks) (v::vs) ((tk,tv)::a):=λAN s σ H Q I h=>
 pairTrees_cons_walk (iM (b AN s σ H _ I h) λu s1 ⟨x,H1,I1,rx,q1⟩=>iM (d AN s1 σ H1 _ I1 q1) λw2 s2 ⟨y,H2,I2,ry,q2⟩=>
  iM (c AN s2 σ H2 _ I2 q2) λws s3 ⟨ps,H3,I3,rel,q3⟩=>⟨(x,y)::ps,H3,I3,.cons ⟨rx,ry⟩ rel,q3⟩)
def Ag(AO more:Y (AY×V)):Y (AY×V):=more.foldl (λb a=>BD b a.1 a.2) AO
theorem KV.merge:∀{more:Y (AY×V)} {rs:Y (AY×A0)} {AO:Y (AY×V)} {vs:Y (AY×A0)},KV more rs->KV AO vs->KV (Ag AO more) (merged vs rs):=by
 intro more rs AO vs r;unfold KV at r
 induction r generalizing AO vs with
 |nil=>intro q;exact q
 |@cons p q ps c h t b=>
  intro a;have e:KV (BD AO p.1 p.2) (stored vs q.1 q.2):=by
   have:=a.put p.1 h.2;rw[<-h.1];exact this
  exact b e
theorem wQ:∀(more AO:Y (AY×V)),(Ag AO more).length<=AO.length+more.length
 |[],AO=>by show AO.length<=AO.length+0;omega
 |p::r,AO=>by
  have h1:=wQ r (BD AO p.1 p.2);have h2:=nG AO p.1 p.2;show(Ag (BD AO p.1 p.2) r).length<=_;rw[ZN];omega
theorem DX{P:A3}{w:A4}:∀{AO:Y (AY×V)} {e:Y (A0×A0)},VV (AO.map λd=>(kV d.1,d.2)) e->∃rs,Carries (bx P w) e rs/\KV AO rs
 |[],_,r=>by rw[JS]at r;cases r;exact⟨[],True.intro,.nil⟩
 |p::AO,_,r=>by
  rw[zt]at r;cases r with
  |@cons a b as bs h t=>
   obtain⟨rs,c,q⟩:=DX (P:=P) (w:=w) t;obtain⟨b1,b2⟩:=b;exact⟨(p.1,b2)::rs,⟨DW h.1,rfl,c⟩,.cons ⟨rfl,h.2⟩ q⟩
def dP(b:Y (TE×TE)):TE:=λσ H Q=>∀p,H p=O->Q7 b σ (B6 H p (.dK [])) λps H2=>H2 p=Z (.dK [])/\∃AO:Y (AY×V),ps=AO.map (λa=>(kV a.1,a.2))/\AO.length<=15/\Q (.ref p) (B6 H2 p (.dK (Ag [] AO)))
theorem cy{X:Cx}{b:Y (S Expr)}{d:Y Expr}{g:Y (TE×TE)}(h:FS X pos b d g)(u:b.all (·.isSome)=true)(m:b.length=d.length)(h0:b≠[])(l:b.length<=15):PE X (.Dict b d pos) (dP g):=by
 intro AN s σ H Q I q;have v:=I.hok.fresh (zk s.heap.objs.size);have x:=I.laid (a:=s.heap.objs.size) (o:=.dK []) (h':=s.heap.push { cls:=.type "dict",data:=.dict #[] }) (t':=s.toks) (λ_ _ q=>zd _ q) (zk _) (Nu s.heap I.big);refine wpAny_Dict_walk (knd:=bx X.prog X.w) u m h0 l (iM (h AN _ σ _ _ x (q _ v)) λws s2 ⟨ps,H2,I2,rel,e,AO,ep,lk,q2⟩=>?_);subst ep;obtain⟨rs,c,rk⟩:=DX (P:=X.prog) (w:=X.w) rel;obtain⟨z,p,y,i,n⟩:=Yb I2.hok e;cases i;refine⟨rs,c,n,λh' f hs=>⟨.ref s.heap.objs.size,_,?_,rfl,q2⟩⟩;have j:(Ag [] AO).length<=AA:=by
  have h1:=wQ AO [];rw[List.length_nil]at h1;rw[sizeLine_eq];omega
 have t:∃q,h'.get? s.heap.objs.size=Z q:=let ⟨q,_,_,hq,_⟩:=f;⟨q,hq⟩;exact Dd I2 (by rw[e];exact True.intro) hs t (Q6 j p (rk.merge .nil) f)
structure M1 (X:Cx) (o:Expr) (m:Str) (apos:Pos) (e:Expr) (cpos:Pos):Prop where
 base:attributeBase o m X.env (eval o X.env)=eval o X.env
 few:((backTo cpos (starEach [e] X.env)).all (λx=>!x.1)&&(backToKw cpos (keywordEach [] X.env)).all (λx=>x.1.isSome)
  && decide (([e]:List Expr).length+([]:List Keyword).length+(if([]:List Keyword).isEmpty then 0 else 1)<30))=true
 line:(apos.endLine==cpos.line)=true
 trees:backTo cpos (starEach [e] X.env)=[(false,eval e X.env)]
structure M2 (X:Cx) (o:Expr) (m:Str) (apos:Pos) (e f:Expr) (cpos:Pos):Prop where
 base:attributeBase o m X.env (eval o X.env)=eval o X.env
 few:((backTo cpos (starEach [e,f] X.env)).all (λx=>!x.1)&&(backToKw cpos (keywordEach [] X.env)).all (λx=>x.1.isSome)
  && decide (([e,f]:List Expr).length+([]:List Keyword).length+(if([]:List Keyword).isEmpty then 0 else 1)<30))=true
 line:(apos.endLine==cpos.line)=true
 trees:backTo cpos (starEach [e,f] X.env)=[(false,eval e X.env),(false,eval f X.env)]
section
variable{X:Cx}{σ:St}{H:Hp}{y d:V}{r:A0}{o:S V}
end
section
variable{X:Cx}{o f:Expr}{td ty tx:TE}
end
section
variable{X:Cx}{σ:St}{H:Hp}{AO:Y (AY×V)}
end
section
variable{X:Cx}{σ:St}{H:Hp}{y:V}
end
end L2
namespace Att
open PySem PySem.W PySem.Calls PyProof.Rows
theorem Ck{P:Params}:∀(c:Y Int) (vs:Y A0),WellAll P h vs (c.map WData.int)->IntsAre vs c:=by
 intro c
 induction c with
 |nil=>
  intro vs w;rw[JS]at w;cases w;exact .nil
 |cons n c d=>
  intro vs w;rw[zt]at w;cases w with
  |cons a b=>
   cases a;exact .cons _ _ (d _ b)
theorem VP{l:OpenLaw}(v:l.most=Z n){P:Params}{args:Y WData}{i:Y A0}(f:l.row.toRowW.claim.pre args=true)(j:WellAll P h i args):
  ∃a vs b,i=[Value.ref a]/\args=[WData.list (b.map WData.int)]/\h.get? a=Z { cls:=.type "list",data:=.seq vs.toArray }/\IntsAre vs b/\b.length<=n:=by
 have p:WShape.hasAll [] args [.list .int]=true:=(pre_splitW f).1;have g:l.pre.holds [] { args:=args }=true:=(pre_splitW f).2;obtain⟨d,r,rfl,h1,h2⟩:=hasAllW_cons p;obtain rfl:=hasAllW_nil h2;obtain⟨xs,rfl,t⟩:=hasW_list h1;obtain⟨b,rfl⟩:=items_int t;have m:b.length<=n:=by
  unfold OpenLaw.pre at g;have e:(WTm.not (.lt (.lit (.int (n:Int))) (.len (.arg 0)))).holds [] { args:=[.list (b.map .int)] }=true:=by
   have e:=(holds_andW g).1;rw[v]at e;exact e
  have c:=condW_of e (w_not (w_lt w_lit (w_len_list (w_arg Y3))));rw[zr]at c;refine Nat.le_of_not_lt λq=>?_;have s:(n:Int)<((b.length:Nat):Int):=by omega
  first
   |(rw[z4 s]at c;exact absurd c (by decide))
   |(simp at c;omega)
 cases j with
 |cons o w=>
  cases w;cases o with
  |list ho u=>exact⟨_,_,b,rfl,rfl,ho,Ck b _ u,m⟩
theorem VR(l:OpenLaw)(args:Y WData):l.row.toRowW.claim.post args (.bool true) args=true:=
 postW_of (r:=l.row.toRowW) (X:=(true==true))
  (show WShape.has [] (.bool true) .bool=true by first|rfl|decide|simp[WShape.has,WShape.arms,WShape.armsAll])
  (show(WTm.eq .res (.lit (.bool true))).value [] { args:=args,res:=Z (.bool true),after:=args }=Z (.bool (true==true)) from w_eq_bool (w_res Y3) w_lit) rfl
theorem Nv{l:OpenLaw}{q:A3}{loose:AZ}{d:DefRec}(A:l.most=Z n)(t:d.params.defaults=[])(call:∀(w:A4) (i b:A2) (mg h:AJ->S A0) (fa:A1) (o:AE) (j c g:A0) (a:A1) (vs:List A0) (e:List Int),
   Ground q loose [] XP w i mg h b.heap->YP w b.heap →
   b.heap.get? fa=Z o->o.data=.func (docDef d.name d.params d.body d.scope j c g)->b.heap.CodeRec c d.name->mg d.name=Z (.ref fa) →
   b.heap.get? a=Z { cls:=.type "list",data:=.seq vs.toArray }->IntsAre vs e->e.length<=n->b.gens=#[] →
   AF (A8 l.prog w) callerA (.call (.ref fa) ⟨[.ref a],[]⟩) (λr s'=>r=.ok (.ret (.bool true))/\OldK b.heap s'.heap/\s'.os=b.os/\AllBare s'.gens) b):
  WalkO q loose XP YP l.row.toRowW d [] (λf vs=>PySem.call f vs):=by
 intro w i b mg h G Y fa o j c g E kV ho y x m p C J N as u L M v K;obtain rfl:E=.none:=Dflts.none m t;obtain rfl:kV=.none:=Dflts.noKw m;obtain⟨a,vs,e,rfl,rfl,F,s,H⟩:=VP A u v;refine enter_call (codeAny_mono (call w i b mg h fa o j c g a vs e G Y ho (fd_plain y) x p F s H C) λr s' I=>?_);obtain⟨rfl,h2,z,B⟩:=I;exact⟨.inl ⟨.bool true,.bool true,[],rfl,λ_=>Y3,.bool true,VR l _,λ_=>⟨List.Pairwise.nil,λ_ D=>(nomatch D)⟩⟩,h2,z,B⟩
section
variable{K:Frag}
end
end Att
namespace L2
theorem vU:∀{vs:Y A0} {a:Y Int},IntsAre vs a->AX (a.map V.int) vs
 |_,_,.nil=>.nil
 |_,_,.cons n t h=>.cons ⟨t,rfl⟩ (vU h)
def CS(H:Hp):Prop:=∀b,H b=O\/∃o xs,H b=Z (.sS o (.lst xs))
theorem Yg{l:AJ->S A0}{CX:Xk}{k:Nat}{fa:A1}{sp:Sp}{c:A2}{vs:Y A0}{f:Y Int}(J:K.In c.heap)(D:c.heap.Ns mainGlobals mg)(hb:c.heap.Ns builtinsNs l)(Q:∀x:AJ,x ≠ "__name__" → l x=AH x)(a2:c.heap.NoLimit)(hg:c.gens=#[])(j:c.heap.get? a=Z { cls:=.type "list",data:=.seq vs.toArray })(hi:IntsAre vs f)(E:f.length<=AA)(hr:nF k callerA)(F:∀base:A6,K.In base->base.Ns mainGlobals mg->uU P w K mg base CX k fa fd [x] sp)(a0:∀(s:A2) (u:A0),BindsTo s fd ⟨[u],[]⟩ [(x,u)])(a3:∀H:Hp,CS H->uP K H a (f.map V.int)->sp [.ref a] H (λv _=>v=.bl true) λ_ _ _=>False)(a4:∀H e s',CX [] H c (λ_ _ _=>False) e s'->False):
  AF (A8 P w) callerA (.call (.ref fa) ⟨[.ref a],[]⟩) (λr s'=>r=.ok (.ret (.bool true))/\OldK c.heap s'.heap/\s'.os=c.os/\AllBare s'.gens) c:=by
 have G:=vU hi;have L:=hi.length;have C:∀H:Hp,CS H->uP K H a (f.map V.int)->yu P w H c.heap->(∀b,H b≠O->b=a)->(H a≠O->K.lookup a=O) →
   AF (A8 P w) callerA (.call (.ref fa) ⟨[.ref a],[]⟩) (λr s'=>r=.ok (.ret (.bool true))/\OldK c.heap s'.heap/\s'.os=c.os/\AllBare s'.gens) c:=by
  intro H B hS I y W;have t:∀{b:A1} {o:AE},c.heap.get? b=Z o->H b=O->(Ka c.heap H).get? b=Z o:=λe n=>Xv e n;have U:∀{b:A1} {o:AE} {es:Array DictEntry} {ep:Nat},c.heap.get? b=Z o->o.data=.dict es ep->H b=O:=λ{b o es ep} e d=>by
   cases q:H b with
   |none=>rfl
   |some u=>
    have e':b=a:=y b (by rw[q];simp);subst e';rw[j]at e;cases e;have d':Data.seq vs.toArray _=Data.dict es ep:=d;cases d'
  have i:∀{b:A1} {m:AJ->S A0},c.heap.Ns b m->(Ka c.heap H).Ns b m:=λ{b m} ⟨o,es,ep,e,d,r⟩=>⟨o,es,ep,t e (U e d),d,r⟩;have A:K.In (Ka c.heap H):=λb o e=>t (J b o e) (by
   cases q:H b with
   |none=>rfl
   |some u=>
    have e':b=a:=y b (by rw[q];simp);subst e';rw[W (by rw[q];simp)]at e;cases e)
  have hM:Mod K mg (Ka c.heap H):=⟨A,i D,⟨l,i hb,Q⟩,let ⟨mc,h1,h2⟩:=a2;⟨mc,i h1,h2⟩⟩;have e0:Fu P w K mg (Ka c.heap H) callerA [] c H:=⟨rfl,hM,λb o e=>YY e,Nat.le_of_eq (Vv _ _),trivial,λb hb=>absurd (show b∈([]:Y A1) from hb) (by simp),I,.of_eq hg⟩;refine codeAny_mono ((F _ A (i D)).run callerA [] c H ⟨[.ref a],[]⟩ [.ref a] [.ref a] _ _ hr e0 (a0 c (.ref a)) (.cons Y3 .nil) (a3 H B hS)) λr s' h=>?_;cases r with
  |error e=>exact(a4 H e s' h).elim
  |ok fl=>
   cases fl with
   |next=>exact False.elim h
   |brk=>exact False.elim h
   |cont=>exact False.elim h
   |ret u=>
    obtain⟨v,H',os,a1,un,M,X,q⟩:=h;have N:v=.bl true:=q;subst N;obtain rfl:u=Value.bool true:=X;refine⟨rfl,OldK.of_keep λb o e=>?_,os,a1⟩;cases q:H b with
    |none=>exact un.keep b o e q (by intro z;exact absurd (show b∈([]:Y A1) from z) (by simp)) (by simp)
    |some u=>
     rcases B b with z|⟨ob,xs,z⟩
     ·rw[q]at z;cases z
     ·have z2:=un.Cj b ob _ z;obtain⟨e1,_⟩:=I b _ z;obtain⟨e2,_⟩:=M b _ z2;rw[e]at e1;cases e1;exact e2
 cases p:K.lookup a with
 |some o=>
  have e:=J a o p;rw[j]at e;cases e;refine C (λ_=>O) (λ_=>.inl Y3) (.inr ⟨_,vs.toArray,_,p,rfl,rfl,rfl,by rw[zC,L];exact E,by simpa using G⟩) (λb u z=>by have g:(O:S HO)=Z u:=z;cases g) (λb z=>absurd Y3 z) λz=>absurd Y3 z
 |none=>
  refine C (λb=>if b=a then Z (.sS { cls:=.type "list",data:=.seq vs.toArray } (.lst (f.map V.int)))else O) (λb=>?_) (.inl (.inr ⟨{ cls:=.type "list",data:=.seq vs.toArray },zo rfl⟩)) (λb u z=>?_) (λb z=>?_) λ_=>p
  ·by_cases hb:b=a
   ·exact .inr ⟨_,_,zo hb⟩
   ·exact .inl (zw hb)
  ·by_cases hb:b=a
   ·have g:=(zo hb).symm.trans z;cases g;subst hb;exact⟨j,by rw[zr];exact E,vs,_,G,j⟩
   ·have g:=(zw hb).symm.trans z;cases g
  ·by_cases hb:b=a
   ·exact hb
   ·exact absurd (zw hb) z
end L2
namespace L2
theorem bP{k:Nat}{q:A3}{loose:AZ}{d:DefRec}{K:Params->B0}{CX:A4->Xk}{sp:A4->Sp}(D:l.most=Z n)(z:n<=AA)(A:d.params.defaults=[])(N:nF k callerA)(p:∀(w:A4) (h:A6),YP w h->(K w.params).In h)(F:∀(w:A4) (mg:AJ->S A0) (fa:A1) (h:A6),(K w.params).In h->h.Ns mainGlobals mg->mg d.name=Z (.ref fa) →
   ∃fd:FuncData,(∀(s:A2) (u:A0),BindsTo s fd ⟨[u],[]⟩ [(x,u)]) ∧
    ∀base:A6,(K w.params).In base->base.Ns mainGlobals mg->uU l.prog w (K w.params) mg base (CX w) k fa fd [x] (sp w))(I:∀(w:A4) (H:Hp) (a:A1) (c:List Int),c.length<=n->CS H->uP (K w.params) H a (c.map V.int)->sp w [.ref a] H (λv _=>v=.bl true) λ_ _ _=>False)(M:∀(w:A4) (H:Hp) (s:A2) (e:A0) (s':A2),CX w [] H s (λ_ _ _=>False) e s'->False):
  PySem.W.WalkO q loose XP YP l.row.toRowW d [] (λf vs=>PySem.call f vs):=by
 refine Att.Nv D A λw a0 B mg U fa o pm Q P a vs c G Y ho hd X t J y i E=>?_;have j:=p w _ Y;obtain⟨fd,hb,m⟩:=F w mg fa _ j G.T.g t;exact Yg j G.T.g G.T.b G.T.builtins G.T.nolimit E J y (ZE i z) N m hb (λH C L=>I w H a c i C L) λH e s'=>M w H B e s'
theorem Yh{k:Nat}{q:A3}{loose:AZ}{d:DefRec}{K:Params->B0}{CX:Xk}{sp:B0->Sp}(o:l.most=Z n)(j:n<=AA)(t:d.params.defaults=[])(i:nF k callerA)(g:∀(w:A4) (h:A6),YP w h->(K w.params).In h)(F:∀(w:A4) (mg:AJ->S A0) (fa:A1) (h:A6),(K w.params).In h->h.Ns mainGlobals mg->mg d.name=Z (.ref fa) →
   ∃fd:FuncData,(∀(s:A2) (u:A0),BindsTo s fd ⟨[u],[]⟩ [(x,u)]) ∧
    ∀base:A6,(K w.params).In base->base.Ns mainGlobals mg->uU l.prog w (K w.params) mg base CX k fa fd [x] (sp (K w.params)))(p:∀(K:B0) (H:Hp) (a:A1) (b:Y Int),b.length<=n->CS H->uP K H a (b.map V.int)->sp K [.ref a] H (λv _=>v=.bl true) λ_ _ _=>False)(c:∀(H:Hp) (s:A2) (e:A0) (s':A2),CX [] H s (λ_ _ _=>False) e s'->False):
  PySem.W.WalkO q loose XP YP l.row.toRowW d [] (λf vs=>PySem.call f vs):=
 bP (K:=K) (CX:=λ_=>CX) (sp:=λw=>sp (K w.params)) o j t i g F (λw H a b h1 h2 m=>p (K w.params) H a b h1 h2 m) λ_ H s e s'=>c H s e s'
end L2
namespace L2
def sW(s:AB):Arguments:=match s with
 |.FunctionDef _ a _ _ _ _ _ _ _ _=>a
 |_=>{ posonlyargs:=[],args:=[],vararg:=O,kwonlyargs:=[],kw_defaults:=[],kwarg:=O,defaults:=[] }
def jd(s:AB):Y AB:=match s with
 |.FunctionDef _ _ b _ _ _ _ _ _ _=>b
 |_=>[]
def aP(s:AB):Scope:=match s with
 |.FunctionDef _ _ _ _ _ _ a _ _ _=>a
 |_=>{ kind:=.function,names:=[],isGenerator:=false,isCoroutine:=false }
abbrev Kr:Xk:=λ_ _ _ _ _ _=>False
abbrev E0:XK:=λ_ _ _=>False
theorem LJ{X:Cx}:C9 Kr X E0:=λ_ _ _ _ _ _ _ h=>h.elim
structure Co (K:B0) (x qual:Str) (st:Stmt) (f:Addr) (fd:FuncData):Prop where
 ex:∃(oc:Value) (od:Option Addr) (kV doc pm:Value) (an:Option Addr) (cdv ct:Value) (osl:Array (Option Value)),
  fd=fnOf x qual (sW st) (jd st) (aP st) .none kV doc pm an cdv ct/\K.lookup f=some ⟨oc,od,.func fd,osl⟩/\codeIn K cdv qual=true
 kp:keepIn K (.ref f)=true
theorem Co.ok{st:AB}{f:A1}{k:Nat}{sp:Sp}(F:Co K x qual st f fd)(S:bL N ps (aP st))(len:∀vs H Q E,sp vs H Q E->vs.length=ps.length)(d:∀(a:A0) (A:A5) (outer:Y Env) (s:A2) (H:Hp) (vs:Y V) (Q:VK) (E:XK),nF k (A.deeper (AK qual (aP st) s.heap.objs.size f a))->sp vs H Q E →
   ∃t,QM (DN Kr P w K mg base N qual (aP st) f a A outer s H E).nox (jd st) t/\t { nx:=λ_ H'=>Q .non H',rt:=Q } (start N vs) H):uU P w K mg base Kr (k+1) f fd ps sp:=by
 obtain⟨j,n,kV,i,m,l,a,ct,osl,rfl,c,b⟩:=F.ex;refine aI c b S len λA outer s H vs Q E e g=>?_;obtain⟨t,h,q⟩:=d a A outer s H vs Q E e g;exact⟨t,h.nox,q⟩
theorem Co.binds{st:AB}{f:A1}(F:Co K x qual st f fd)(h:∀(kV a d:A0) (c:S A1) (b ct:A0) (us:Y A0),us.length=ps.length->bindArgs (fnOf x qual (sW st) (jd st) (aP st) .none kV a d c b ct) ⟨us,[]⟩=pure (ps.zip us)):BY K fd ps []:=by
 obtain⟨e,j,kV,a,d,c,b,ct,osl,rfl,i,g⟩:=F.ex;exact .all (h kV a d c b ct)
theorem Yi{st:AB}{f:A1}{g:A0}{h d:S A1}{kV b e a ct:A0}(l:K.lookup f=Z ⟨g,h,.func (fnOf x qual (sW st) (jd st) (aP st) .none kV b e d a ct),osl⟩)(c:codeIn K a qual=true)(k:keepIn K (.ref f)=true):Co K x qual st f (fnOf x qual (sW st) (jd st) (aP st) .none kV b e d a ct):=⟨⟨g,h,kV,b,e,d,a,ct,osl,rfl,l,c⟩,k⟩
section
variable{X:Cx}
theorem pv(i:Nat)(a:X.N[i]?=Z x:=by rfl)(c:Xj X.env.scope x:=by first|exact JU rfl|exact Q3 (JU Y3)|exact Q3 (Q3 Y3))(b:(x==("__debug__":AJ))=false:=by decide)(d:(x==("__classdict__":AJ))=false:=by decide):PE X (.Name x pos) (Lm i):=uO a c b d
end
def AV(H H':Hp):Prop:=∀b o,H b=Z o->H' b=Z o
theorem AV.refl(H:Hp):AV H H:=λ_ _ h=>h
theorem AV.trans{H H1 H2:Hp}(a:AV H H1)(b:AV H1 H2):AV H H2:=λc o h=>b c o (a c o h)
theorem AV.free{H H':Hp}(e:AV H H'){l:A1}(h:H' l=Option.none):H l=Option.none:=by
 cases q:H l with
 |none=>rfl
 |some o=>
  rw[e l o q]at h;cases h
theorem AV.seq{H H':Hp}{xs:Y V}(e:AV H H')(h:uP K H a xs):uP K H' a xs:=by
 rcases h with (h|⟨o,h⟩)|h
 ·exact .inl (.inl (e _ _ h))
 ·exact .inl (.inr ⟨o,e _ _ h⟩)
 ·exact .inr h
end L2
variable{xs:Y L2.V}{H:L2.Hp}{o:L2.HO}{X:L2.Cx}{σ:L2.St}{v:L2.V}{ta te:L2.TE}{J:L2.It}{vs:Y L2.V}{sp:L2.Sp}{ks:Y L2.AY}{zs:Y (Y L2.AY×A1)}{H0 Hs:L2.Hp}{cR:Y (Y L2.AY)}
namespace P1
open L2
inductive Dt where
 |non|bl (b:Bool)|int (i:Int)|str (x:Str)|tup (xs:List Dt)|lst (xs:List Dt)|emp
inductive Bx where
 |z (d:Dt)|l (ds:List Dt)|o (ds:List Dt)|n (AO:List (AY×Dt))|m (AO:List (AY×Dt)) (w:Option Addr)
abbrev Ev:=Y (S Bx)
def Ee(K:B0)(H:Hp)(a:A1)(xs:Y V):Prop:=
 (∃o,H a=Z (.sS o (.lst xs))) ∨
  ∃(o:AE) (AQ:Array A0) (n:Nat),K.lookup a=Z o/\o.cls=.type "list" ∧ o.dict=O/\o.data=.seq AQ n/\AQ.size<=AA/\AX xs AQ.toList
theorem Ee.sq(h:Ee K H a xs):uP K H a xs:=by
 rcases h with h|h
 ·exact .inl (.inr h)
 ·exact .inr h
mutual
def AW(K:B0)(H:Hp):Dt->V->Prop
 |.non,v=>v=.non
 |.bl b,v=>v=.bl b
 |.int i,v=>v=.int i
 |.str x,v=>v=.str x/\x.length<=AA
 |.tup ds,v=>∃a vs,v=.ref a/\z9 K H a vs/\aO K H ds vs
 |.lst ds,v=>∃a vs,v=.ref a/\Ee K H a vs/\aO K H ds vs
 |.emp,v=>∃a o,v=.ref a/\H a=Z (.sS o (.dK []))
def aO(K:B0)(H:Hp):Y Dt->Y V->Prop
 |[],vs=>vs=[]
 |d::ds,vs=>∃v r,vs=v::r/\AW K H d v/\aO K H ds r
end
structure Kp (H H':Hp):Prop where
 t:∀a xs,H a=some (.tup xs)->H' a=some (.tup xs)
 f:∀a o u,H a=some (.sS o u)->H' a=some (.sS o u)
theorem Kp.of{H':Hp}(s:AV H H'):Kp H H':=⟨λa _ h=>s a _ h,λa _ _ h=>s a _ h⟩
theorem Kp.sqT{H':Hp}(k:Kp H H')(h:z9 K H a xs):z9 K H' a xs:=by
 rcases h with (h|⟨o,h⟩)|h
 ·exact .inl (.inl (k.t _ _ h))
 ·exact .inl (.inr ⟨o,k.f _ _ _ h⟩)
 ·exact .inr h
theorem Kp.fzL{H':Hp}(k:Kp H H')(h:Ee K H a xs):Ee K H' a xs:=by
 rcases h with⟨o,h⟩|h
 ·exact .inl ⟨o,k.f _ _ _ h⟩
 ·exact .inr h
theorem Kp.lst(h:H a=Z (.lst xs)):Kp H (B6 H a o):=by
 refine⟨λb ys e=>?_,λb c u e=>?_⟩
 ·rw[aQ (oM e h (by intro z;cases z))];exact e
 ·rw[aQ (oM e h (by intro z;cases z))];exact e
theorem Kp.dk{xs:Y (AY×V)}(h:H a=Z (.dK xs)):Kp H (B6 H a o):=by
 refine⟨λb ys e=>?_,λb c u e=>?_⟩
 ·rw[aQ (oM e h (by intro z;cases z))];exact e
 ·rw[aQ (oM e h (by intro z;cases z))];exact e
mutual
theorem AW.kp{K:B0}{H H':Hp}(k:Kp H H'):∀{d:Dt} {v:V},AW K H d v->AW K H' d v
 |.non,_,h=>by simpa only[AW]using h
 |.bl _,_,h=>by simpa only[AW]using h
 |.int _,_,h=>by simpa only[AW]using h
 |.str _,_,h=>by simpa only[AW]using h
 |.tup ds,_,h=>by
  simp only[AW]at h ⊢;obtain⟨a,vs,e,q,r⟩:=h;exact⟨a,vs,e,k.sqT q,aO.kp k r⟩
 |.lst ds,_,h=>by
  simp only[AW]at h ⊢;obtain⟨a,vs,e,q,r⟩:=h;exact⟨a,vs,e,k.fzL q,aO.kp k r⟩
 |.emp,_,h=>by
  simp only[AW]at h ⊢;obtain⟨a,o,e,q⟩:=h;exact⟨a,o,e,k.f _ _ _ q⟩
theorem aO.kp{K:B0}{H H':Hp}(k:Kp H H'):∀{ds:Y Dt} {vs:Y V},aO K H ds vs->aO K H' ds vs
 |[],_,h=>by simpa only[aO]using h
 |d::ds,_,h=>by
  simp only[aO]at h ⊢;obtain⟨v,r,e,q,t⟩:=h;exact⟨v,r,e,AW.kp k q,aO.kp k t⟩
end
theorem aO.length{K:B0}{H:Hp}:∀{ds:Y Dt} {vs:Y V},aO K H ds vs->vs.length=ds.length
 |[],_,h=>by simp only[aO]at h;subst h;rfl
 |d::ds,_,h=>by
  simp only[aO]at h;obtain⟨v,r,rfl,_,t⟩:=h;simp[aO.length t]
theorem aO.nil:aO K H [] []:=by simp only[aO]
theorem aO.cons{K:B0}{H:Hp}{d:Dt}{v:V}{ds:Y Dt}{vs:Y V}(h:AW K H d v)(t:aO K H ds vs):aO K H (d::ds) (v::vs):=by
 simp only[aO];exact⟨v,vs,rfl,h,t⟩
theorem aO.append{K:B0}{H:Hp}:∀{ds es:Y Dt} {vs us:Y V},aO K H ds vs->aO K H es us->aO K H (ds++es) (vs++us)
 |[],_,_,_,h,t=>by simp only[aO]at h;subst h;exact t
 |d::ds,_,_,_,h,t=>by
  simp only[aO]at h;obtain⟨v,r,rfl,q,h⟩:=h;exact aO.cons q (aO.append h t)
theorem aO.drop{K:B0}{H:Hp}:∀(n:Nat) {ds:Y Dt} {vs:Y V},aO K H ds vs->aO K H (ds.drop n) (vs.drop n)
 |0,_,_,h=>h
 |n+1,[],_,h=>by simp only[aO]at h;subst h;exact aO.nil
 |n+1,d::ds,_,h=>by
  simp only[aO]at h;obtain⟨v,r,rfl,q,h⟩:=h;exact aO.drop n h
theorem aO.take{K:B0}{H:Hp}:∀(n:Nat) {ds:Y Dt} {vs:Y V},aO K H ds vs->aO K H (ds.take n) (vs.take n)
 |0,_,_,_=>aO.nil
 |n+1,[],_,h=>by simp only[aO]at h;subst h;exact aO.nil
 |n+1,d::ds,_,h=>by
  simp only[aO]at h;obtain⟨v,r,rfl,q,h⟩:=h;exact aO.cons q (aO.take n h)
theorem aO.get{K:B0}{H:Hp}:∀{ds:Y Dt} {vs:Y V} {i:Nat} {d:Dt},aO K H ds vs->ds[i]?=Z d->∃v,vs[i]?=Z v/\AW K H d v
 |[],_,_,_,_,e=>by simp at e
 |d::ds,_,0,_,h,e=>by
  simp only[aO]at h;obtain⟨v,r,rfl,q,h⟩:=h;simp at e;subst e;exact⟨v,rfl,q⟩
 |d::ds,_,i+1,_,h,e=>by
  simp only[aO]at h;obtain⟨v,r,rfl,q,h⟩:=h;obtain⟨u,e1,e2⟩:=aO.get h (i:=i) (by simpa using e);exact⟨u,by simpa using e1,e2⟩
def Yj:AY->Prop
 |.inl _=>True
 |.inr x=>x.length<=AA
def fH(K:B0)(H:Hp)(AO:Y (AY×Dt))(ks:Y (AY×V)):Prop:=ks.map (·.1)=AO.map (·.1)/\aO K H (AO.map (·.2)) (ks.map (·.2))/\∀p∈AO,Yj p.1
theorem fH.kp{K:B0}{H H':Hp}{AO:Y (AY×Dt)}{ks:Y (AY×V)}(h:fH K H AO ks)(k:Kp H H'):fH K H' AO ks:=⟨h.1,h.2.1.kp k,h.2.2⟩
def aW(K:B0)(H:Hp):Bx->V->Prop
 |.z d,v=>AW K H d v
 |.l ds,v=>∃a vs,v=.ref a/\Rd H a (.lst vs)/\aO K H ds vs
 |.o ds,v=>∃a vs,v=.ref a/\H a=Z (.lst vs)/\aO K H ds vs
 |.n AO,v=>∃a ks,v=.ref a/\Rd H a (.dK ks)/\fH K H AO ks
 |.m AO w,v=>∃a ks,v=.ref a/\H a=Z (.dK ks)/\fH K H AO ks/\∀b,w=Z b->b=a
theorem aW.same{H':Hp}(s:AV H H'){b:Bx}(h:aW K H b v):aW K H' b v:=by
 cases b with
 |z d=>exact AW.kp (.of s) h
 |l ds=>
  obtain⟨a,vs,e,q,r⟩:=h;refine⟨a,vs,e,?_,r.kp (.of s)⟩;rcases q with q|⟨o,q⟩
  ·exact .inl (s _ _ q)
  ·exact .inr ⟨o,s _ _ q⟩
 |o ds=>
  obtain⟨a,vs,e,q,r⟩:=h;exact⟨a,vs,e,s _ _ q,r.kp (.of s)⟩
 |n AO=>
  obtain⟨a,vs,e,q,r⟩:=h;refine⟨a,vs,e,?_,r.kp (.of s)⟩;rcases q with q|⟨o,q⟩
  ·exact .inl (s _ _ q)
  ·exact .inr ⟨o,s _ _ q⟩
 |m AO _=>
  obtain⟨a,vs,e,q,r⟩:=h;exact⟨a,vs,e,s _ _ q,r.1.kp (.of s),r.2⟩
def qz:Bx->S (Y Dt)
 |.z (.lst ds)=>Z ds
 |.l ds=>Z ds
 |.o ds=>Z ds
 |_=>O
theorem aW.Hj{b:Bx}{ds:Y Dt}(h:aW K H b v)(e:qz b=Z ds):∃a vs,v=.ref a/\uP K H a vs/\aO K H ds vs:=by
 cases b with
 |z d=>
  cases d<;>first|(cases e;done)|skip;cases e;simp only[aW,AW]at h;obtain⟨a,vs,e,q,r⟩:=h;exact⟨a,vs,e,q.sq,r⟩
 |l c=>
  cases e;obtain⟨a,vs,e,q,r⟩:=h;exact⟨a,vs,e,.inl q,r⟩
 |o c=>
  cases e;obtain⟨a,vs,e,q,r⟩:=h;exact⟨a,vs,e,.inl (.inl q),r⟩
 |n _=>cases e
 |m _ _=>cases e
abbrev rP(K:B0)(H:Hp):Y Bx->Y V->Prop:=AI (aW K H)
def Nw(H:Hp):Bx->V->Prop
 |.o _,v=>∀a,v=.ref a->H a=O
 |.m _ _,v=>∀a,v=.ref a->H a=O
 |_,_=>True
theorem Nw.old{H1:Hp}(s:AV H H1){b:Bx}(h:Nw H1 b v):Nw H b v:=by
 cases b with
 |o ds=>exact λa e=>s.free (h a e)
 |m ds _=>exact λa e=>s.free (h a e)
 |_=>trivial
def loose:Bx->Bool
 |.z _=>false
 |_=>true
def uL:Bx->Bool
 |.o _=>true
 |.m _ _=>true
 |_=>false
structure bR (K:B0) (H0 H:Hp) (σ:L2.St) (ρ:Ev):Prop where
 len:σ.length=ρ.length
 val:∀(i:Nat) b,ρ[i]?=some (some b)->∃v,σ[i]?=some (some v)/\aW K H b v
 own:∀(i j:Nat) c a b,ρ[i]?=some (some c)->uL c=true->σ[i]?=some (some (.ref a))->ρ[j]?=some (some b)->loose b=true->σ[j]?=some (some (.ref a))->i=j
 base:AV H0 H
 new:∀(i:Nat) c a,ρ[i]?=some (some c)->uL c=true->σ[i]?=some (some (.ref a))->H0 a=none
theorem bR.grow{H':Hp}{ρ:Ev}(r:bR K H0 H σ ρ)(s:AV H H'):bR K H0 H' σ ρ:=
 ⟨r.len,λi b e=>let ⟨v,e1,h⟩:=r.val i b e;⟨v,e1,h.same s⟩,r.own,r.base.trans s,r.new⟩
def tF(K:B0)(f:Ev->S Bx):TE:=λσ H Q=>∃H0 ρ b,bR K H0 H σ ρ/\f ρ=Z b/\∀v H',AV H H'->Nw H b v->aW K H' b v->Q v H'
def IE(K:B0)(f:Ev->S (Y Bx)):TA:=λσ H Q=>∃H0 ρ bs,bR K H0 H σ ρ/\f ρ=Z bs/\∀vs H',AV H H'->rP K H' bs vs->Q vs H'
def Ct(K:B0)(f:Ev->S Bool):TT:=λσ H Q=>∃H0 ρ b,bR K H0 H σ ρ/\f ρ=Z b/\∀H',AV H H'->Q b H'
def PV(X:Cx)(e:Expr)(f:Ev->S Bx):Prop:=PE X e (tF X.K f)
structure QV (X:Cx) (e:Expr) (f:Ev->Option Bx):Prop where
 run:PV X e f
def FX(X:Cx)(es:Y Expr)(f:Ev->S (Y Bx)):Prop:=PA X es (IE X.K f)
structure Xl (X:Cx) (es:List Expr) (f:Ev->Option (List Bx)):Prop where
 run:FX X es f
def PB(X:Cx)(e:Expr)(f:Ev->S Bool):Prop:=PT X e (Ct X.K f)
structure QB (X:Cx) (e:Expr) (f:Ev->Option Bool):Prop where
 run:PB X e f
theorem Cp{t t':TE}(h:PE X e t)(m:∀ σ H Q,t' σ H Q->t σ H Q):PE X e t':=λAN s σ H Q I q=>h AN s σ H Q I (m σ H Q q)
theorem II{e:Y Expr}{t t':TA}(h:PA X e t)(m:∀ σ H Q,t' σ H Q->t σ H Q):PA X e t':=λpos AN s σ H Q I q=>h pos AN s σ H Q I (m σ H Q q)
theorem He{t t':TT}(h:PT X e t)(m:∀ σ H Q,t' σ H Q->t σ H Q):PT X e t':=λAN s σ H Q I q=>h AN s σ H Q I (m σ H Q q)
theorem MG{t t':TT}(h:PW X e t)(m:∀ σ H Q,t' σ H Q->t σ H Q):PW X e t':=λa AN s σ H Q I q=>h a AN s σ H Q I (m σ H Q q)
theorem T5{e:AB}{t t':TS}(h:PS X e t)(m:∀D σ H,t' D σ H->t D σ H):PS X e t':=λAN s σ H D I q=>h AN s σ H D I (m D σ H q)
theorem HP{e:Y AB}{t t':TS}(h:QM X e t)(m:∀D σ H,t' D σ H->t D σ H):QM X e t':=λAN s σ H D I q=>h AN s σ H D I (m D σ H q)
def rF(K:B0)(g:Bx->Bx->S Bx):R2:=λx y H Q=>∃a b c,aW K H a x/\aW K H b y/\g a b=Z c/\∀w H',AV H H'->Nw H c w->aW K H' c w->Q w H'
def Lu(K:B0)(g:Bx->S Bx):V->Hp->VK->Prop:=λx H Q=>∃a c,aW K H a x/\g a=Z c/\∀w H',AV H H'->Nw H c w->aW K H' c w->Q w H'
def MQ(K:B0)(g:Y Bx->S Bx):Y V->Hp->VK->Prop:=λxs H Q=>∃bs c,rP K H bs xs/\g bs=Z c/\∀w H',AV H H'->Nw H c w->aW K H' c w->Q w H'
abbrev Cq(X:Cx)(f:A0->A0->Sem A0)(g:Bx->Bx->S Bx):Prop:=vR X f (rF X.K g)
abbrev LV(X:Cx)(f:A0->Sem A0)(g:Bx->S Bx):Prop:=DF X f (Lu X.K g)
abbrev qF(X:Cx)(f:A0)(g:Y Bx->S Bx):Prop:=f9 X f (MQ X.K g)
theorem vR.imp{f:A0->A0->Sem A0}{r a:R2}(h:vR X f r)(m:∀x y H Q,a x y H Q->r x y H Q):vR X f a:=λAN s σ H x y v u Q I b c q=>h AN s σ H x y v u Q I b c (m x y H Q q)
theorem DF.imp{f:A0->Sem A0}{r a:V->Hp->VK->Prop}(h:DF X f r)(m:∀x H Q,a x H Q->r x H Q):DF X f a:=λAN s σ H x v Q I b q=>h AN s σ H x v Q I b (m x H Q q)
theorem f9.imp{f:A0}{r a:Y V->Hp->VK->Prop}(h:f9 X f r)(m:∀x H Q,a x H Q->r x H Q):f9 X f a:=λAN s σ H xs us Q I b q=>h AN s σ H xs us Q I b (m xs H Q q)
def b2(g:Bx->Bx->S Bx)(fa fb:Ev->S Bx):Ev->S Bx:=λρ=>(fa ρ).bind λx=>(fb ρ).bind λy=>g x y
def b1(g:Bx->S Bx)(fa:Ev->S Bx):Ev->S Bx:=λρ=>(fa ρ).bind g
def cZ(g:Y Bx->S Bx)(fs:Ev->S (Y Bx)):Ev->S Bx:=λρ=>(fs ρ).bind g
theorem AT{o:S α}{f:α->S β}{b:β}(h:o.bind f=Z b):∃a,o=Z a/\f a=Z b:=by
 cases o with
 |none=>cases h
 |some a=>exact⟨a,rfl,h⟩
theorem Yk{g:Bx->Bx->S Bx}{fa fb:Ev->S Bx}(σ:L2.St)(H:Hp)(Q:VK)(h:tF K (b2 g fa fb) σ H Q):F0 (rF K g) (tF K fa) (tF K fb) σ H Q:=by
 obtain⟨H0,ρ,c,E,e,q⟩:=h;obtain⟨a,ea,e⟩:=AT e;obtain⟨b,eb,e⟩:=AT e;refine⟨H0,ρ,a,E,ea,λv H1 f p m=>⟨H0,ρ,b,E.grow f,eb,λu H2 d s o=>?_⟩⟩;exact⟨a,b,c,m.same d,o,e,λw l i n j=>q w l ((f.trans d).trans i) (n.old (f.trans d)) j⟩
theorem Pt{g:Bx->S Bx}{fa:Ev->S Bx}(σ:L2.St)(H:Hp)(Q:VK)(h:tF K (b1 g fa) σ H Q):IA (Lu K g) (tF K fa) σ H Q:=by
 obtain⟨H0,ρ,c,E,e,q⟩:=h;obtain⟨a,ea,e⟩:=AT e;exact⟨H0,ρ,a,E,ea,λv H1 b m j=>⟨a,c,j,e,λw i d l f=>q w i (b.trans d) (l.old b) f⟩⟩
theorem DE{g:Y Bx->S Bx}{fs:Ev->S (Y Bx)}(σ:L2.St)(H:Hp)(Q:VK)(h:tF K (cZ g fs) σ H Q):GL (MQ K g) (IE K fs) σ H Q:=by
 obtain⟨H0,ρ,c,E,e,q⟩:=h;obtain⟨a,ea,e⟩:=AT e;exact⟨H0,ρ,a,E,ea,λv H1 b j=>⟨a,c,j,e,λw i d l f=>q w i (b.trans d) (l.old b) f⟩⟩
section
variable{a b:Expr}{fa fb fc f:Ev->S Bx}{fs:Ev->S (Y Bx)}
theorem bI{op:Operator}{g:Bx->Bx->S Bx}(ho:Cq X (binaryOp op) g)(c:QV X a fa)(hb:QV X b fb):QV X (.BinOp a op b pos) (b2 g fa fb):=⟨have c:=c.run;have hb:=hb.run;Cp (OZ ho c hb) Yk⟩
theorem aS{op:UnaryOp}{g:Bx->S Bx}(ho:LV X (unaryOp op) g)(b:QV X a fa):QV X (.UnaryOp op a pos) (b1 g fa):=⟨have b:=b.run;Cp (Sm ho b) Pt⟩
theorem xG{g:Bx->Bx->S Bx}(ho:Cq X (AG op) g)(c:QV X a fa)(hb:QV X b fb)(d:behindInMarks op b=false):QV X (.Compare a [op] [b] pos) (b2 g fa fb):=⟨have c:=c.run;have hb:=hb.run;Cp (SZ ho c hb d) Yk⟩
def DY:Bx->S Bool
 |.z (.bl b)=>Z b
 |_=>O
theorem yG{b:Bx}{k:Bool}(h:aW K H b v)(e:DY b=Z k):v=.bl k:=by
 cases b with
 |z d=>
  cases d<;>first|(cases e;done)|skip;cases e;simpa only[aW,AW]using h
 |_=>cases e
theorem VT(σ:L2.St)(H:Hp)(Q:Bool->Hp->Prop)(h:Ct K (λρ=>(f ρ).bind DY) σ H Q):tF K f σ H (λx H'=>∃k,x=.bl k/\Q k H'):=by
 obtain⟨H0,ρ,k,E,e,q⟩:=h;obtain⟨b,eb,e⟩:=AT e;exact⟨H0,ρ,b,E,eb,λv H1 c d a=>⟨k,yG a e,q H1 c⟩⟩
theorem bT{g:Bx->Bx->S Bx}(ho:Cq X (AG op) g)(c:QV X a fa)(hb:QV X b fb)(d:behindInMarks op b=false):QB X (.Compare a [op] [b] pos) (λρ=>(b2 g fa fb ρ).bind DY):=⟨have c:=c.run;have hb:=hb.run;He (OL ho c hb d) λσ H Q h=>Yk σ H _ (VT σ H Q h)⟩
def EH(g g':Bx->Bx->S Bx)(fa fb fc:Ev->S Bx):Ev->S Bx:=λρ=>(fa ρ).bind λx=>(fb ρ).bind λy=>(g x y).bind λr=>(DY r).bind λk=>if k=true then(fc ρ).bind λw=>g' y w else Z (.z (.bl false))
theorem Sk{g g':Bx->Bx->S Bx}(σ:L2.St)(H:Hp)(Q:VK)(h:tF K (EH g g' fa fb fc) σ H Q):XJ (rF K g) (rF K g') (tF K fa) (tF K fb) (tF K fc) σ H Q:=by
 obtain⟨H0,ρ,d,E,e,q⟩:=h;obtain⟨a,ea,e⟩:=AT e;obtain⟨b,eb,e⟩:=AT e;obtain⟨r,er,e⟩:=AT e;obtain⟨k,ek,e⟩:=AT e;refine⟨H0,ρ,a,E,ea,λv H1 m F C=>⟨H0,ρ,b,E.grow m,eb,λu H2 l L n=>?_⟩⟩;refine⟨a,b,r,C.same l,n,er,λw A j G s=>⟨k,yG s ek,?_⟩⟩;have c:=(m.trans l).trans j;cases k with
 |false=>
  rw[zw ZA]at e ⊢;cases e;exact q _ A c trivial (by simp only[aW,AW])
 |true=>
  rw[zo rfl]at e ⊢;obtain⟨i,t,e⟩:=AT e;refine⟨H0,ρ,i,E.grow c,t,λx I f J B=>?_⟩;exact⟨b,i,d,(n.same j).same f,B,e,λy o z p D=>q y o ((c.trans f).trans z) (p.old (c.trans f)) D⟩
theorem Nx{d:CmpOp}{g g':Bx->Bx->S Bx}(ho:Cq X (AG op) g)(h:Cq X (AG d) g')(f:QV X a fa)(hb:QV X b fb)(e:QV X c fc)(i:lastMarks [op,d] [b,c]=false:=by with_unfolding_all rfl):QV X (.Compare a [op,d] [b,c] pos) (EH g g' fa fb fc):=⟨have f:=f.run;have hb:=hb.run;have e:=e.run;Cp (XM ho h f hb e i) Sk⟩
def xH(ρ:Ev)(i:Nat):S Bx:=match ρ[i]? with
 |some (Z (.o ds))=>Z (.l ds)
 |some (Z (.m AO _))=>Z (.n AO)
 |some (Z b)=>Z b
 |_=>O
theorem Ny{ρ:Ev}{b:Bx}(E:bR K H0 H σ ρ)(e:xH ρ i=Z b):∃v,σ[i]?=Z (Z v)/\aW K H b v:=by
 unfold xH at e;split at e
 ·rename_i ds h;cases e;obtain⟨v,e1,a,vs,e2,q,r⟩:=E.val i _ h;exact⟨v,e1,a,vs,e2,.inl q,r⟩
 ·rename_i ds h;cases e;obtain⟨v,e1,a,vs,e2,q,r⟩:=E.val i _ h;exact⟨v,e1,a,vs,e2,.inl q,r.1⟩
 ·rename_i c h;cases e;exact E.val i _ h
 ·cases e
theorem yH{ρ:Ev}{b:Bx}(e:xH ρ i=Z b):uL b=false:=by
 unfold xH at e;split at e
 ·cases e;rfl
 ·cases e;rfl
 ·rename_i c h1 h2 a;cases e;cases b with
  |o ds=>exact absurd Y3 (h1 ds)
  |m ds _=>exact absurd Y3 (h2 ds _)
  |_=>rfl
 ·cases e
theorem aj(i:Nat)(a:X.N[i]?=Z x:=by rfl)(d:Xj X.env.scope x:=by first|exact JU rfl|exact Q3 (JU Y3)|exact Q3 (Q3 Y3))(c:(x==("__debug__":AJ))=false:=by decide)(f:(x==("__classdict__":AJ))=false:=by decide):QV X (.Name x pos) (λρ=>xH ρ i):=⟨Cp (uO a d c f) λσ H Q h=>by
 obtain⟨H0,ρ,b,E,e,q⟩:=h;obtain⟨v,e1,r⟩:=Ny E e;refine⟨v,e1,q v H (AV.refl H) ?_ r⟩;cases b with
 |o ds=>have:=yH e;cases this
 |m ds _=>have:=yH e;cases this
 |_=>trivial⟩
def cB(d:Dt):Ev->S Bx:=λ_=>Z (.z d)
theorem V0{d:Dt}(h:PE X e (tC v))(r:∀H,AW X.K H d v):PV X e (cB d):=Cp h λσ H Q q=>by
 obtain⟨H0,ρ,b,E,e,q⟩:=q;cases e;exact q v H (AV.refl H) trivial (r H)
theorem aF{i j}:QV X (.Constant (.int i) j pos) (cB (.int i)):=⟨V0 Th λH=>by simp only[AW]⟩
theorem yI{i j}:QV X (.Constant (.bool i) j pos) (cB (.bl i)):=⟨V0 UM λH=>by simp only[AW]⟩
theorem uV{j}:QV X (.Constant .none j pos) (cB .non):=⟨V0 XY λH=>by simp only[AW]⟩
theorem Yl{j}(hx:x.length<=AA:=by decide):PV X (.Constant (.str x) j pos) (cB (.str x)):=V0 VW λH=>by unfold AW;exact⟨rfl,hx⟩
theorem Nz{i:Int}{t:Tok}(b:Gl X x)(a:X.mg x=Z (.int i t))(c:(x==("__debug__":AJ))=false:=by decide):QV X (.Name x pos) (cB (.int i)):=⟨V0 (Tz b a (v:=.int i) ⟨t,rfl⟩ c) λH=>by simp only[AW]⟩
theorem Ym{t:Tok}(b:Gl X x)(d:X.mg x=Z (.str y t))(a:y.length<=AA:=by decide)(c:(x==("__debug__":AJ))=false:=by decide):QV X (.Name x pos) (cB (.str y)):=⟨V0 (Tz b d (v:=.str y) ⟨t,rfl⟩ c) λH=>by unfold AW;exact⟨rfl,a⟩⟩
def Yn:Bx->S Bool
 |.z .non=>Z false
 |.z (.bl b)=>Z b
 |.z (.int i)=>Z (i != 0)
 |.z (.str x)=>Z ((x.length:Int) != 0)
 |.z (.tup ds)=>Z (!ds.isEmpty)
 |.z (.lst ds)=>Z (!ds.isEmpty)
 |.l ds=>Z (!ds.isEmpty)
 |.o ds=>Z (!ds.isEmpty)
 |.z .emp=>O
 |.n _=>O
 |.m _ _=>O
theorem aO.isEmpty{ds:Y Dt}(h:aO K H ds vs):(!ds.isEmpty)=!vs.isEmpty:=by
 have:=h.length;cases ds<;>cases vs<;>simp_all
theorem N1{b:Bx}{k:Bool}(r:aW K H b v)(e:Yn b=Z k):GW K v H k:=by
 cases b with
 |z d=>
  cases d with
  |non=>cases e;simp only[aW,AW]at r;subst r;rfl
  |bl b=>cases e;simp only[aW,AW]at r;subst r;rfl
  |int b=>cases e;simp only[aW,AW]at r;subst r;rfl
  |str x=>cases e;simp only[aW,AW]at r;obtain⟨rfl,h⟩:=r;exact⟨h,rfl⟩
  |tup ds=>
   cases e;simp only[aW,AW]at r;obtain⟨a,vs,rfl,q,r⟩:=r;exact .inr (.inl ⟨vs,q,r.isEmpty⟩)
  |lst ds=>
   cases e;obtain⟨a,vs,rfl,q,r⟩:=r.Hj rfl;exact .inl ⟨vs,q,r.isEmpty⟩
  |emp=>cases e
 |l ds=>
  cases e;obtain⟨a,vs,rfl,q,r⟩:=r.Hj rfl;exact .inl ⟨vs,q,r.isEmpty⟩
 |o ds=>
  cases e;obtain⟨a,vs,rfl,q,r⟩:=r.Hj rfl;exact .inl ⟨vs,q,r.isEmpty⟩
 |n _=>cases e
 |m _ _=>cases e
theorem Ah(h:QV X e f)(he:∀a,isTrue e X.env a=(do let v <-a;standAt e.pos;holding [v] (truthy v)):=by intro _;rfl):QB X e (λρ=>(f ρ).bind Yn):=⟨have h:=h.run;He (XQ h he) λσ H Q q=>by
 obtain⟨H0,ρ,k,E,e,q⟩:=q;obtain⟨b,eb,e⟩:=AT e;exact⟨H0,ρ,b,E,eb,λv H1 d g c=>⟨k,N1 c e,q H1 d⟩⟩⟩
def Ea(p q:Ev->S Bool):Ev->S Bool:=λρ=>(p ρ).bind λc=>if c=true then q ρ else Z false
def Yo(p q:Ev->S Bool):Ev->S Bool:=λρ=>(p ρ).bind λc=>if c=true then Z true else q ρ
def Q8(p:Ev->S Bool):Ev->S Bool:=λρ=>(p ρ).bind λc=>Z (!c)
def OY(X:Cx)(e:Expr)(f:Ev->S Bool):Prop:=PW X e (Ct X.K f)
structure E8 (X:Cx) (e:Expr) (f:Ev->Option Bool):Prop where
 run:OY X e f
variable{p q:Ev->S Bool}{AS:Y Expr}
theorem pU(b:QB X a p):E8 X (.BoolOp .And [a] pos) p:=⟨have b:=b.run;cz b⟩
theorem sX(b:QB X a p):E8 X (.BoolOp .Or [a] pos) p:=⟨have b:=b.run;P8 b⟩
theorem br(σ:L2.St)(H:Hp)(Q:Bool->Hp->Prop)(h:Ct K (Ea p q) σ H Q):L0 (Ct K p) (Ct K q) σ H Q:=by
 obtain⟨H0,ρ,k,E,e,w⟩:=h;obtain⟨c,d,e⟩:=AT e;refine⟨H0,ρ,c,E,d,λH1 a=>?_⟩;cases c with
 |true=>rw[zo rfl]at e ⊢;exact⟨H0,ρ,k,E.grow a,e,λH2 b=>w H2 (a.trans b)⟩
 |false=>rw[zw ZA]at e ⊢;cases e;exact w H1 a
theorem OT(σ:L2.St)(H:Hp)(Q:Bool->Hp->Prop)(h:Ct K (Yo p q) σ H Q):MA (Ct K p) (Ct K q) σ H Q:=by
 obtain⟨H0,ρ,k,E,e,w⟩:=h;obtain⟨c,d,e⟩:=AT e;refine⟨H0,ρ,c,E,d,λH1 a=>?_⟩;cases c with
 |true=>rw[zo rfl]at e ⊢;cases e;exact w H1 a
 |false=>rw[zw ZA]at e ⊢;exact⟨H0,ρ,k,E.grow a,e,λH2 b=>w H2 (a.trans b)⟩
theorem sY(c:QB X a p)(hb:E8 X (.BoolOp .And (b::AS) pos) q):E8 X (.BoolOp .And (a::b::AS) pos) (Ea p q):=⟨have c:=c.run;have hb:=hb.run;MG (Tl c hb) br⟩
theorem xJ(c:QB X a p)(hb:E8 X (.BoolOp .Or (b::AS) pos) q):E8 X (.BoolOp .Or (a::b::AS) pos) (Yo p q):=⟨have c:=c.run;have hb:=hb.run;MG (RU c hb) OT⟩
theorem yJ(h:E8 X e p):QB X e p:=⟨have h:=h.run;h.pt⟩
theorem Ku(b:QB X a p):QB X (.UnaryOp .Not a pos) (Q8 p):=⟨have b:=b.run;He (RY b) λσ H Q h=>by
 obtain⟨H0,ρ,k,E,e,w⟩:=h;obtain⟨c,f,e⟩:=AT e;cases e;exact⟨H0,ρ,c,E,f,λH1 d=>w H1 d⟩⟩
def yK(fa fb:Ev->S Bx):Ev->S Bx:=λρ=>((fa ρ).bind DY).bind λc=>if c=true then fb ρ else Z (.z (.bl false))
def FA(fa:Ev->S Bx):Ev->S Bx:=λρ=>((fa ρ).bind DY).bind λc=>Z (.z (.bl (!c)))
theorem Ai{op}(h:QV X a fa):QV X (.BoolOp op [a] pos) fa:=⟨have h:=h.run;T2 h⟩
theorem pW(f:QV X a fa)(hb:QV X (.BoolOp .And (b::AS) pos) fb):QV X (.BoolOp .And (a::b::AS) pos) (yK fa fb):=⟨have f:=f.run;have hb:=hb.run;Cp (UA f hb) λσ H Q h=>by
 obtain⟨H0,ρ,k,E,e,w⟩:=h;obtain⟨c,g,e⟩:=AT e;obtain⟨x,ex,g⟩:=AT g;refine⟨H0,ρ,x,E,ex,λv H1 d n j=>⟨c,yG j g,?_⟩⟩;cases c with
 |true=>rw[zo rfl]at e ⊢;exact⟨H0,ρ,k,E.grow d,e,λv H2 l i m=>w v H2 (d.trans l) (i.old d) m⟩
 |false=>rw[zw ZA]at e ⊢;cases e;exact w _ H1 d trivial (by simp only[aW,AW])⟩
theorem Sj(b:QV X a fa):QV X (.UnaryOp .Not a pos) (FA fa):=⟨have b:=b.run;Cp (VZ b) λσ H Q h=>by
 obtain⟨H0,ρ,k,E,e,w⟩:=h;obtain⟨c,d,e⟩:=AT e;obtain⟨x,ex,d⟩:=AT d;cases e;exact⟨H0,ρ,x,E,ex,λv H1 g i f=>⟨c,yG f d,w _ H1 g trivial (by simp only[aW,AW])⟩⟩⟩
theorem T6:FX X [] (λ_=>Z []):=II rB λσ H Q h=>by
 obtain⟨H0,ρ,bs,E,e,q⟩:=h;cases e;exact q [] H (AV.refl H) .nil
def aq(f:Ev->S Bx)(fs:Ev->S (Y Bx)):Ev->S (Y Bx):=λρ=>(f ρ).bind λb=>(fs ρ).bind λbs=>Z (b::bs)
theorem NK(h1:PV X e f)(h2:FX X es fs)(hs:A9 (e::es) X.env=(false,eval e X.env)::A9 es X.env:=by rfl):FX X (e::es) (aq f fs):=II (gn h1 h2 hs) λσ H Q h=>by
 obtain⟨H0,ρ,bs,E,e,q⟩:=h;obtain⟨b,eb,e⟩:=AT e;obtain⟨d,g,e⟩:=AT e;cases e;refine⟨H0,ρ,b,E,eb,λv H1 c l i=>⟨H0,ρ,d,E.grow c,g,λvs H2 a j=>?_⟩⟩;exact q (v::vs) H2 (c.trans a) (.cons (i.same a) j)
def Aa:Bx->S Bx
 |.z d=>Z (.z d)
 |.o ds=>Z (.z (.lst ds))
 |.l _=>O
 |.n _=>O
 |.m _ _=>O
theorem Eb{a:A1}(I:L2.AU X AN σ H s)(h:H a=Z (.lst vs)):∃o,L2.AU X AN σ (B6 H a (.sS o (.lst vs))) s:=by
 obtain⟨z,AQ,n,r,e⟩:=I.hok a _ h;refine⟨{ cls:=.type "list",data:=.seq AQ.toArray n },⟨I.ok,I.os,I.bare,⟨I.base.keep,I.base.slot,λb d q1 q2 f=>?_,I.base.there,λb xs q=>?_,λb d u q=>?_,λb ps q=>?_⟩,I.loc,I.cell,?_,λx c q=>?_,λp hp=>?_,?_,I.len⟩⟩
 ·have:=I.base.free b d q1 q2 f;rw[aQ (dW h this).symm];exact this
 ·have:=I.base.tups b xs q;rw[aQ (oM this h (by intro z;cases z))];exact this
 ·have:=I.base.Cj b d u q;rw[aQ (oM this h (by intro z;cases z))];exact this
 ·obtain⟨m,this⟩:=I.base.Ht b ps q;rw[aQ (oM this h (by intro z;cases z))];exact⟨m,this⟩
 ·rw[aQ (dW h I.free).symm];exact I.free
 ·rw[aQ (dW h (I.qD x c q)).symm];exact I.qD x c q
 ·obtain⟨q1,q2,f⟩:=I.pin p hp;refine⟨q1,?_,f⟩;rw[aQ (dW h q2).symm];exact q2
 ·intro b u q;by_cases hb:b=a
  ·subst hb;rw[bJ]at q;cases q;exact⟨e,z,AQ,n,r,e⟩
  ·rw[aQ hb]at q;refine(I.hok b u q).stay (λc v _ w=>w) (λc w=>?_) λc xs w=>?_
   ·rw[aQ (oM w h (by intro z;cases z))];exact w
   ·rw[aQ (oM w h (by intro z;cases z))];exact w
theorem jz(h:QV X e f):QV X e (b1 Aa f):=⟨by
 have h:=h.run;intro AN s σ H Q I q;obtain⟨H0,ρ,b,E,e,q⟩:=q;obtain⟨x,ex,e⟩:=AT e;cases x with
 |z d=>
  cases e;exact h AN s σ H Q I ⟨H0,ρ,_,E,ex,λv H' s' i g=>q v H' s' trivial g⟩
 |l ds=>cases e
 |n ds=>cases e
 |m ds _=>cases e
 |o ds=>
  cases e;refine iM (h AN s σ H (λv H'=>AV H H'/\Nw H (.o ds) v/\aW X.K H' (.o ds) v) I ⟨H0,ρ,_,E,ex,λv H' s' i g=>⟨s',i,g⟩⟩) λu C A=>?_;obtain⟨v,H1,B,y,s',i,g⟩:=A;obtain⟨a,vs,rfl,p,rs⟩:=g;obtain⟨o,w⟩:=Eb B p;refine⟨.ref a,_,w,y,q _ _ (λc t j=>?_) trivial ?_⟩
  ·rw[aQ (dW j (i a Y3))];exact s' c t j
  ·simp only[aW,AW];exact⟨a,vs,rfl,.inl ⟨o,bJ⟩,rs.kp (.lst p)⟩⟩
def Kv:Y Bx->S (Y Dt)
 |[]=>Z []
 |.z d::r=>(Kv r).bind λds=>Z (d::ds)
 |_=>O
theorem Ed{K:B0}{H:Hp}:∀{bs:Y Bx} {vs:Y V} {ds:Y Dt},rP K H bs vs->Kv bs=Z ds->aO K H ds vs
 |_,_,_,.nil,e=>by cases e;exact aO.nil
 |b::bs,_,_,.cons h t,e=>by
  cases b with
  |z d=>
   simp only[Kv]at e;obtain⟨a,e1,e2⟩:=AT e;cases e2;exact aO.cons h (Ed t e1)
  |_=>cases e
theorem Ef:∀{bs:Y Bx} {ds:Y Dt},Kv bs=Z ds->ds.length=bs.length
 |[],_,e=>by cases e;rfl
 |.z d::r,_,e=>by
  simp only[Kv]at e;obtain⟨a,e1,e2⟩:=AT e;cases e2;simp[Ef e1]
 |.l _::_,_,e=>by cases e
 |.o _::_,_,e=>by cases e
 |.n _::_,_,e=>by cases e
 |.m _ _::_,_,e=>by cases e
def jC(bs:Y Bx):S Bx:=if bs.length<=1000 then(Kv bs).bind λds=>Z (.z (.tup ds))else O
def nH(bs:Y Bx):S Bx:=if bs.length<=1000 then(Kv bs).bind λds=>Z (.o ds)else O
theorem bU{p:A1}(h:H p=O):AV H (B6 H p o):=λb u e=>by rw[aQ (dW e h)];exact e
theorem MS(h:n<=1000):n<=AA:=ZE h (by decide)
theorem gA{x1}(h:Xl X es fs):QV X (.Tuple es x1 pos) (cZ jC fs):=⟨have h:=h.run;Cp (SR h) λσ H Q q=>by
 obtain⟨H0,ρ,c,E,e,q⟩:=q;obtain⟨bs,d,e⟩:=AT e;refine⟨H0,ρ,bs,E,d,λvs H1 g f=>?_⟩;unfold jC at e;split at e
 ·rename_i b;obtain⟨ds,e1,e⟩:=AT e;cases e;have a:=Ed f e1;refine⟨MS (by rw[a.length,Ef e1];exact b),λp hp=>q _ _ (g.trans (bU hp)) trivial ?_⟩;simp only[aW,AW];exact⟨p,vs,rfl,.inl (.inl bJ),a.kp (.of (bU hp))⟩
 ·cases e⟩
theorem gO(h:Xl X es fs):QV X (.List es pos) (cZ nH fs):=⟨have h:=h.run;Cp (am h) λσ H Q q=>by
 obtain⟨H0,ρ,c,E,e,q⟩:=q;obtain⟨bs,g,e⟩:=AT e;refine⟨H0,ρ,bs,E,g,λvs H1 b i=>?_⟩;unfold nH at e;split at e
 ·rename_i f;obtain⟨ds,e1,e⟩:=AT e;cases e;have d:=Ed i e1;refine⟨MS (by rw[d.length,Ef e1];exact f),λp hp=>q _ _ (b.trans (bU hp)) (λa ea=>by cases ea;exact b.free hp) ?_⟩;exact⟨p,vs,rfl,bJ,d.kp (.of (bU hp))⟩
 ·cases e⟩
theorem cg{id:String}{g:Y Bx->S Bx}{p:Pos}(c:qF X (.builtin id) g)(b:Gl X x)(d:X.mg x=O)(j:AH x=Z (.builtin id))(a:Xl X (e::es) fs)(h:x ≠ "__name__":=by decide)(i:(x==("__debug__":AJ))=false:=by decide)(he:A9 (e::es) X.env=(false,eval e X.env)::A9 es X.env:=by rfl)(f:(AD pos (A9 es X.env)).any (·.1)=false:=by rfl):QV X (.Call (.Name x p) (e::es) [] pos) (cZ g fs):=⟨have a:=a.run;Cp (pR c b d j a h i he f) DE⟩
theorem iD{T:String}{g:Y Bx->S Bx}{p:Pos}(c:qF X (.type T) g)(b:Gl X x)(d:X.mg x=O)(j:AH x=Z (.type T))(a:Xl X (e::es) fs)(h:x ≠ "__name__":=by decide)(i:(x==("__debug__":AJ))=false:=by decide)(he:A9 (e::es) X.env=(false,eval e X.env)::A9 es X.env:=by rfl)(f:(AD pos (A9 es X.env)).any (·.1)=false:=by rfl):QV X (.Call (.Name x p) (e::es) [] pos) (cZ g fs):=⟨have a:=a.run;Cp (Jk c b d j a h i he f) DE⟩
end
inductive Ap where
 |nx (ρ:Ev)|rt (b:Bx)|bk (ρ:Ev)|ct (ρ:Ev)
def Q9(K:B0)(H0:Hp)(D:C5):Ap->Prop
 |.nx ρ=>∀ σ H,bR K H0 H σ ρ->D.nx σ H
 |.rt b=>∀v H,AV H0 H->Nw H0 b v->aW K H b v->D.rt v H
 |.bk ρ=>∀ σ H,bR K H0 H σ ρ->D.bk σ H
 |.ct ρ=>∀ σ H,bR K H0 H σ ρ->D.ct σ H
def tG(K:B0)(g:Ev->S Ap):TS:=λD σ H=>∃H0 ρ r,bR K H0 H σ ρ/\g ρ=Z r/\Q9 K H0 D r
def Ha(X:Cx)(st:AB)(g:Ev->S Ap):Prop:=PS X st (tG X.K g)
structure NP (X:Cx) (st:Stmt) (g:Ev->Option Ap):Prop where
 run:Ha X st g
def TF(X:Cx)(st:Y AB)(g:Ev->S Ap):Prop:=QM X st (tG X.K g)
structure Ra (X:Cx) (st:List Stmt) (g:Ev->Option Ap):Prop where
 run:TF X st g
def aH(g1 g2:Ev->S Ap):Ev->S Ap:=λρ=>(g1 ρ).bind λr=>match r with
 |.nx a=>g2 a
 |r=>Z r
section
variable{a b:Expr}{fa fb fc f:Ev->S Bx}{fs:Ev->S (Y Bx)}{st:AB}{AS:Y AB}{g g1 g2:Ev->S Ap}
theorem aJ  :Ra X [] (λρ=>Z (.nx ρ)):=⟨HP Pf λD σ H h=>by
 obtain⟨H0,ρ,r,E,e,q⟩:=h;cases e;exact q σ H E⟩
theorem au(h1:NP X st g1)(h2:Ra X AS g2):Ra X (st::AS) (aH g1 g2):=⟨have h1:=h1.run;have h2:=h2.run;HP (Xx h1 h2) λD σ H h=>by
 obtain⟨H0,ρ,r,E,e,q⟩:=h;obtain⟨c,e1,e⟩:=AT e;refine⟨H0,ρ,c,E,e1,?_⟩;cases c with
 |nx a=>exact λσ' H' d=>⟨H0,a,r,d,e,q⟩
 |rt b=>cases e;exact q
 |bk a=>cases e;exact q
 |ct a=>cases e;exact q⟩
def Yp:Bx->S Ap
 |.l _=>O
 |.n _=>O
 |b=>Z (.rt b)
theorem cF(h:QV X e f):NP X (.Return (Z e) pos) (λρ=>(f ρ).bind Yp):=⟨have h:=h.run;T5 (Xy h) λD σ H h=>by
 obtain⟨H0,ρ,r,E,e,q⟩:=h;obtain⟨b,eb,e⟩:=AT e;refine⟨H0,ρ,b,E,eb,λv H1 c g a=>?_⟩;cases b with
 |l ds=>cases e
 |z d=>cases e;exact q v H1 (E.base.trans c) trivial a
 |o ds=>cases e;exact q v H1 (E.base.trans c) (g.old E.base) a
 |n ds=>cases e
 |m ds _=>cases e;exact q v H1 (E.base.trans c) (g.old E.base) a⟩
def Eh(i:Nat)(ρ:Ev):S Ap:=match ρ[i]? with
 |some (Z b)=>Yp b
 |_=>O
theorem Dg(i:Nat){p:Pos}(f:X.N[i]?=Z x:=by rfl)(s:Xj X.env.scope x:=by first|exact JU rfl|exact Q3 (JU Y3)|exact Q3 (Q3 Y3))(j:(x==("__debug__":AJ))=false:=by decide)(g:(x==("__classdict__":AJ))=false:=by decide):NP X (.Return (Z (.Name x p)) pos) (Eh i):=⟨T5 (Xy (uO f s j g)) λD σ H h=>by
 obtain⟨H0,ρ,r,E,e,q⟩:=h;unfold Eh at e;split at e
 ·rename_i b hb;obtain⟨v,e1,c⟩:=E.val i b hb;refine⟨v,e1,?_⟩;cases b with
  |l ds=>cases e
  |z d=>cases e;exact q v H E.base trivial c
  |o ds=>cases e;exact q v H E.base (λa ea=>E.new i _ a hb Y3 (by rw[e1,ea])) c
  |n ds=>cases e
  |m ds _=>cases e;exact q v H E.base (λa ea=>E.new i _ a hb Y3 (by rw[e1,ea])) c
 ·cases e⟩
def vV(p:Ev->S Bool)(g1 g2:Ev->S Ap):Ev->S Ap:=λρ=>(p ρ).bind λk=>if k=true then g1 ρ else g2 ρ
theorem gj{p:Ev->S Bool}{u v:Y AB}(a:QB X c p)(b:Ra X u g1)(hb:Ra X v g2):NP X (.If c u v pos) (vV p g1 g2):=⟨have a:=a.run;have b:=b.run;have hb:=hb.run;T5 (Re a b hb) λD σ H h=>by
 obtain⟨H0,ρ,r,E,e,q⟩:=h;obtain⟨k,ek,e⟩:=AT e;refine⟨H0,ρ,k,E,ek,λH1 d=>?_⟩;cases k with
 |true=>rw[zo rfl]at e ⊢;exact⟨H0,ρ,r,E.grow d,e,q⟩
 |false=>rw[zw ZA]at e ⊢;exact⟨H0,ρ,r,E.grow d,e,q⟩⟩
theorem BC{l:Y α}{x y:α}(h:(l.set i x)[j]?=Z y):(j=i/\y=x/\i<l.length)\/(j≠i/\l[j]?=Z y):=by
 rw[KP]at h;by_cases e:i=j
 ·subst e;rw[zo rfl]at h;split at h
  ·cases h;exact .inl ⟨rfl,rfl,by assumption⟩
  ·cases h
 ·rw[zw e]at h;exact .inr ⟨λz=>e z.symm,h⟩
theorem Ei{l:Y α}(x:α)(h:i<l.length):(l.set i x)[i]?=Z x:=by
 rw[KP,zo rfl,zo h]
theorem Ej{l:Y α}(x:α)(h:j≠i):(l.set i x)[j]?=l[j]?:=by
 rw[KP,zw (KG h)]
theorem bR.set{H1:Hp}{ρ:Ev}{b:Bx}(E:bR K H0 H σ ρ)(s:AV H H1)(r:aW K H1 b v)(u:uL b=true\/loose b=false)(n:Nw H b v):bR K H0 H1 (σ.set i (Z v)) (ρ.set i (Z b)):=by
 have C:=E.grow s;have D:∀(j:Nat) (g:Bx) (a:A1),ρ[j]?=Z (Z g)->loose g=true->σ[j]?=Z (Z (.ref a))->H a≠O:=λj g a e1 e2 e3 z=>by
  obtain⟨G,h,x⟩:=E.val j g e1;rw[e3]at h;cases h;cases g with
  |z d=>cases e2
  |l ds=>
   obtain⟨A,vs,f,q,_⟩:=x;cases f;rcases q with q|⟨o,q⟩<;>(rw[z]at q;cases q)
  |o ds=>
   obtain⟨A,vs,f,q,_⟩:=x;cases f;rw[z]at q;cases q
  |n ds=>
   obtain⟨A,vs,f,q,_⟩:=x;cases f;rcases q with q|⟨o,q⟩<;>(rw[z]at q;cases q)
  |m ds _=>
   obtain⟨A,vs,f,q,_⟩:=x;cases f;rw[z]at q;cases q
 have y:uL b=true->∀a,v=.ref a->H a=O:=λho=>by
  cases b with
  |o ds=>exact n
  |m ds _=>exact n
  |_=>cases ho
 refine⟨by rw[ko,ko];exact E.len,λj g e=>?_,λj k c a g e1 t e2 e3 h f=>?_,C.base,λj c a e1 t e2=>?_⟩
 ·rcases BC e with⟨rfl,e',hi⟩|⟨w,e'⟩
  ·cases e';exact⟨v,Ei _ (by rw[E.len];exact hi),r⟩
  ·rw[Ej _ w];exact C.val j g e'
 ·rcases BC e1 with⟨rfl,e',hi⟩|⟨w,e'⟩
  ·cases e';rw[Ei _ (by rw[E.len];exact hi)]at e2;cases e2;rcases BC e3 with⟨rfl,p,_⟩|⟨B,p⟩
   ·rfl
   ·rw[Ej _ B]at f;exact absurd (y t a Y3) (D k g a p h f)
  ·rw[Ej _ w]at e2;rcases BC e3 with⟨rfl,p,hi⟩|⟨B,p⟩
   ·cases p;rw[Ei _ (by rw[E.len];exact hi)]at f;cases f;have F:loose c=true:=by cases c<;>first|rfl|cases t
    rcases u with u|u
    ·exact absurd (y u a Y3) (D j _ a e' F e2)
    ·rw[u]at h;cases h
   ·rw[Ej _ B]at f;exact E.own j k c a g e' t e2 p h f
 ·rcases BC e1 with⟨rfl,e',hi⟩|⟨w,e'⟩
  ·cases e';rw[Ei _ (by rw[E.len];exact hi)]at e2;cases e2;exact E.base.free (y t a Y3)
  ·rw[Ej _ w]at e2;exact E.new j c a e' t e2
def V1(ρ:Ev)(i:Nat):Bx->S Ev
 |.l _=>O
 |.n _=>O
 |b=>Z (ρ.set i (Z b))
theorem T7{H1:Hp}{ρ ρ':Ev}{b:Bx}(E:bR K H0 H σ ρ)(s:AV H H1)(r:aW K H1 b v)(n:Nw H b v)(e:V1 ρ i b=Z ρ'):bR K H0 H1 (σ.set i (Z v)) ρ':=by
 cases b with
 |l ds=>cases e
 |z d=>cases e;exact E.set s r (.inr Y3) n
 |o d=>cases e;exact E.set s r (.inl Y3) n
 |n ds=>cases e
 |m d _=>cases e;exact E.set s r (.inl Y3) n
theorem bC(i:Nat){p:Pos}(a:X.N.Nodup)(he:QV X e f)(hi:X.N[i]?=Z x:=by rfl)(hx:DC X.env.scope x:=by first|exact JU rfl|exact Q3 Y3)(hs:swapsWith e (Z (.Name x p)) pos.line X.env=pure false:=by rfl)(g:X.fn x=true\/X.env.scope.names.lookup x=Z .local:=by first|exact .inl rfl|exact .inr Y3):NP X (.Assign [.Name x p] e pos) (λρ=>(f ρ).bind λb=>(V1 ρ i b).bind λρ'=>Z (.nx ρ')):=⟨have he:=he.run;T5 (XC a hi hx he hs g) λD σ H h=>by
 obtain⟨H0,ρ,r,E,e,q⟩:=h;obtain⟨b,eb,e⟩:=AT e;obtain⟨ρ',j,e⟩:=AT e;cases e;exact⟨H0,ρ,b,E,eb,λv H1 l c d=>q _ _ (T7 E l d c j)⟩⟩
def Lo(σ:L2.St)(ρ:Ev)(σ':L2.St)(ρ':Ev):Prop:=∀(j:Nat) b,loose b=true->ρ'[j]?=Z (Z b)->ρ[j]?=Z (Z b)/\σ'[j]?=σ[j]?
theorem Lo.refl{ρ:Ev}:Lo σ ρ σ ρ:=λ_ _ _ e=>⟨e,rfl⟩
theorem Lo.trans{σ g d:L2.St}{ρ f h:Ev}(a:Lo σ ρ g f)(b:Lo g f d h):Lo σ ρ d h:=λj c l e=>by
 obtain⟨e1,e2⟩:=b j c l e;obtain⟨e3,i⟩:=a j c l e1;exact⟨e3,e2.trans i⟩
theorem Lo.set{ρ:Ev}(i:Nat)(v:V)(d:Dt):Lo σ ρ (σ.set i (Z v)) (ρ.set i (Z (.z d))):=λj b l e=>by
 rcases BC e with⟨rfl,e',_⟩|⟨a,e'⟩
 ·cases e';cases l
 ·exact⟨e',Ej _ a⟩
def MB(K:B0)(g:Dt->Ev->S Ev):TG:=λv σ H Q=>∃H0 ρ d a,bR K H0 H σ ρ/\AW K H d v/\g d ρ=Z a/\∀ σ',bR K H0 H σ' a->Lo σ ρ σ' a->Q σ' H
def FR(X:Cx)(t:Expr)(g:Dt->Ev->S Ev):Prop:=PG X t (MB X.K g)
structure Cf (X:Cx) (t:Expr) (g:Dt->Ev->Option Ev):Prop where
 run:FR X t g
theorem aR(i:Nat)(c:X.N.Nodup)(hi:X.N[i]?=Z x:=by rfl)(hx:DC X.env.scope x:=by first|exact JU rfl|exact Q3 Y3)(f:X.fn x=true\/X.env.scope.names.lookup x=Z .local:=by first|exact .inl rfl|exact .inr Y3):Cf X (.Name x pos) (λd ρ=>Z (ρ.set i (Z (.z d)))):=⟨λAN s σ H v u Q I r h=>by
 obtain⟨H0,ρ,d,g,E,a,e,q⟩:=h;cases e;exact TJ c hi hx f AN s σ H v u Q I r (q _ (E.set (b:=.z d) (AV.refl H) a (.inr Y3) trivial) (Lo.set i v d))⟩
def cx(K:B0)(g:Y Dt->Ev->S Ev):DT:=λvs σ H Q=>∃H0 ρ ds a,bR K H0 H σ ρ/\aO K H ds vs/\g ds ρ=Z a/\∀ σ',bR K H0 H σ' a->Lo σ ρ σ' a->Q σ' H
def av(X:Cx)(t:Y Expr)(g:Y Dt->Ev->S Ev):Prop:=L2.TF X t (cx X.K g)
structure Ff (X:Cx) (t:List Expr) (g:List Dt->Ev->Option Ev):Prop where
 run:av X t g
def rQ:Y Dt->Ev->S Ev
 |[],ρ=>Z ρ
 |_,_=>O
def bZ(g:Dt->Ev->S Ev)(gs:Y Dt->Ev->S Ev):Y Dt->Ev->S Ev
 |d::ds,ρ=>(g d ρ).bind (gs ds)
 |_,_=>O
theorem mJ  :Ff X [] rQ:=⟨λAN s σ H vs us Q I r h=>by
 obtain⟨H0,ρ,ds,b,E,a,e,q⟩:=h;cases ds with
 |nil=>cases e;unfold aO at a;exact UR AN s σ H vs us Q I r ⟨a,q _ E Lo.refl⟩
 |cons d ds=>cases e⟩
theorem bK{t:Expr}{ts:Y Expr}{gt:Dt->Ev->S Ev}{gs:Y Dt->Ev->S Ev}(h1:Cf X t gt)(h2:Ff X ts gs)(hs:(assignEach (t::ts) X.env).map (·.2)=assign t X.env::(assignEach ts X.env).map (·.2):=by rfl):Ff X (t::ts) (bZ gt gs):=⟨have h1:=h1.run;have h2:=h2.run;λAN s σ H vs us Q I r h=>by
 obtain⟨H0,ρ,ds,n,E,b,e,q⟩:=h;cases ds with
 |nil=>cases e
 |cons d ds=>
  unfold aO at b;obtain⟨v,i,rfl,l,o⟩:=b;simp only[bZ]at e;obtain⟨a,e1,e⟩:=AT e;exact Xz h1 h2 hs AN s σ H _ us Q I r ⟨v,i,rfl,H0,ρ,d,a,E,l,e1,λp f j=>⟨H0,a,ds,n,f,o,e,λg m c=>q g m (j.trans c)⟩⟩⟩
def pX(n:Nat)(gs:Y Dt->Ev->S Ev):Dt->Ev->S Ev
 |.tup ds,ρ=>if ds.length=n then gs ds ρ else O
 |_,_=>O
theorem rC{ts:Y Expr}{k:Nat}{gs:Y Dt->Ev->S Ev}(c:X.calm=true)(h:Ff X ts gs)(l:(assignEach ts X.env).length=n:=by rfl)(i:(assignEach ts X.env).findIdx? (·.1)=O:=by rfl):Cf X (.Tuple ts k pos) (pX n gs):=⟨have h:=h.run;λAN s σ H v u Q I r g=>by
 obtain⟨H0,ρ,d,j,E,b,e,q⟩:=g;cases d with
 |tup ds=>
  simp only[pX]at e;split at e
  ·rename_i f;unfold AW at b;obtain⟨a,vs,rfl,m,rs⟩:=b;exact ay c h l i AN s σ H _ u Q I r ⟨a,vs,rfl,m,by rw[rs.length];exact f,H0,ρ,ds,j,E,rs,e,q⟩
  ·cases e
 |_=>cases e⟩
theorem Ek{gt:Dt->Ev->S Ev}(he:QV X e f)(a:Cf X tg gt)(hs:swapsWithSole [tg] e pos.line X.env=pure false:=by rfl)(g:swappedStores [tg] e X.env=pure O:=by rfl)(h1:(assignEach [tg] X.env).map (·.2)=[assign tg X.env]:=by rfl):NP X (.Assign [tg] e pos) (λρ=>(f ρ).bind λb=>match b with|.z d=>(gt d ρ).bind λρ'=>Z (.nx ρ')|_=>O):=⟨have he:=he.run;have a:=a.run;T5 (WP he a hs g h1) λD σ H h=>by
 obtain⟨H0,ρ,r,E,e,q⟩:=h;obtain⟨b,eb,e⟩:=AT e;refine⟨H0,ρ,b,E,eb,λv H1 l m i=>?_⟩;cases b with
 |z d=>
  obtain⟨ρ',j,e⟩:=AT e;cases e;exact⟨H0,ρ,d,ρ',E.grow l,i,j,λσ' c _=>q _ _ c⟩
 |_=>cases e⟩
def FG(i j:Nat)(ρ:Ev):Y Bx->S Ap
 |[.z d,.z d']=>Z (.nx ((ρ.set i (Z (.z d))).set j (Z (.z d'))))
 |_=>O
theorem Rb(i j:Nat){px py pt:Pos}{kt k2 pt2}(m:X.calm=true)(f:X.N.Nodup)(c:Xl X [a,b] fs)(hi:X.N[i]?=Z x:=by rfl)(g:X.N[j]?=Z y:=by rfl)(w:i≠j:=by decide)(hx:X.env.scope.names.lookup x=Z .local:=by rfl)(o:X.env.scope.names.lookup y=Z .local:=by rfl)(n:swappedStores [.Tuple [.Name x px,.Name y py] kt pt] (.Tuple [a,b] k2 pt2) X.env=pure (Z [x,y]):=by rfl)(hs:swapsWithSole [.Tuple [.Name x px,.Name y py] kt pt] (.Tuple [a,b] k2 pt2) pos.line X.env=pure false:=by rfl):NP X (.Assign [.Tuple [.Name x px,.Name y py] kt pt] (.Tuple [a,b] k2 pt2) pos) (λρ=>(fs ρ).bind (FG i j ρ)):=⟨have c:=c.run;T5 (TK m f hi g w hx o c n hs) λD σ H h=>by
 obtain⟨H0,ρ,r,E,e,q⟩:=h;obtain⟨bs,eb,e⟩:=AT e;refine⟨H0,ρ,bs,E,eb,λvs H1 v s=>?_⟩;unfold FG at e;split at e
 ·rename_i d l;cases e;cases s with
  |cons p t=>
   cases t with
   |cons p' u=>
    cases u;refine⟨_,_,rfl,q _ _ ?_⟩;exact((E.grow v).set (b:=.z d) (AV.refl H1) p (.inr Y3) trivial).set (b:=.z l) (AV.refl H1) p' (.inr Y3) trivial
 ·cases e⟩
def FL(ρ:Ev)(i:Nat):Bx->S Ap
 |.z d=>match ρ[i]? with
  |some (Z (.o ds))=>if ds.length<AA then Z (.nx (ρ.set i (Z (.o (ds++[d])))))else O
  |_=>O
 |_=>O
theorem bR.afm{ρ:Ev}{w c1:Bx}{a:A1}{u:HO}(E:bR K H0 H σ ρ)(h:ρ[i]?=Z (Z w))(ho:uL w=true)(hs:σ[i]?=Z (Z (.ref a)))(k:Kp H (B6 H a u))(r:aW K (B6 H a u) c1 (.ref a)):
  bR K H0 (B6 H a u) σ (ρ.set i (Z c1)):=by
 have hi:i<ρ.length:=(List.getElem?_eq_some_iff.mp h).1;have hb:H0 a=O:=E.new i w a h ho hs;have lo:∀c,uL c=true->loose c=true:=λc G=>by cases c<;>first|rfl|cases G
 refine⟨by rw[ko];exact E.len,λj x e=>?_,λj D c f x e1 A e2 e3 L F=>?_,λc o e=>?_,λj c f e1 A e2=>?_⟩
 ·rcases BC e with⟨rfl,e',_⟩|⟨C,e'⟩
  ·cases e';exact⟨_,hs,r⟩
  ·obtain⟨v,e1,t⟩:=E.val j x e';refine⟨v,e1,?_⟩;have y:∀f,v=.ref f->loose x=true->f≠a:=λf ev M z=>by
    subst z;exact C (E.own i j w _ _ h ho hs e' M (by rw[e1,ev])).symm
   cases x with
   |z d=>exact AW.kp k t
   |l B=>
    obtain⟨f,s,rfl,q,p⟩:=t;refine⟨f,s,rfl,?_,p.kp k⟩;have g:=y f Y3 rfl;rcases q with q|⟨o,q⟩
    ·exact .inl (by rw[aQ g];exact q)
    ·exact .inr ⟨o,by rw[aQ g];exact q⟩
   |o B=>
    obtain⟨f,s,rfl,q,p⟩:=t;have g:=y f Y3 rfl;exact⟨f,s,rfl,by rw[aQ g];exact q,p.kp k⟩
   |n B=>
    obtain⟨f,s,rfl,q,p⟩:=t;refine⟨f,s,rfl,?_,p.kp k⟩;have g:=y f Y3 rfl;rcases q with q|⟨o,q⟩
    ·exact .inl (by rw[aQ g];exact q)
    ·exact .inr ⟨o,by rw[aQ g];exact q⟩
   |m B=>
    obtain⟨f,s,rfl,q,p⟩:=t;have g:=y f Y3 rfl;exact⟨f,s,rfl,by rw[aQ g];exact q,p.1.kp k,p.2⟩
 ·have back:∀(m:Nat) (b:Bx),(ρ.set i (Z c1))[m]?=Z (Z b)->loose b=true->∃b0,ρ[m]?=Z (Z b0)/\loose b0=true/\(uL b=true->uL b0=true):=λm b e l=>by
   rcases BC e with⟨rfl,e',_⟩|⟨C,e'⟩
   ·exact⟨_,h,lo _ ho,λ_=>ho⟩
   ·exact⟨b,e',l,λz=>z⟩
  obtain⟨b0,q1,q2,J⟩:=back j _ e1 (lo _ A);obtain⟨b1,N,I,_⟩:=back D _ e3 L;exact E.own j D b0 f b1 q1 (J A) e2 N I F
 ·rw[aQ (dW e hb)];exact E.base c o e
 ·rcases BC e1 with⟨rfl,e',_⟩|⟨C,e'⟩
  ·exact E.new _ w f h ho e2
  ·exact E.new j c f e' A e2
theorem bR.X6{ρ:Ev}{ds es:Y Dt}{a:A1}{us:Y V}(E:bR K H0 H σ ρ)(h:ρ[i]?=Z (Z (.o ds)))(hs:σ[i]?=Z (Z (.ref a)))(b:H a=Z (.lst vs))(r:aO K H es us):
  bR K H0 (B6 H a (.lst us)) σ (ρ.set i (Z (.o es))):=E.afm h Y3 hs (.lst b) ⟨a,us,rfl,bJ,r.kp (.lst b)⟩
theorem sZ(i:Nat){p:Pos}(he:QV X e f)(m:X.N[i]?=Z x:=by rfl)(C:Xj X.env.scope x:=by first|exact JU rfl|exact Q3 (JU Y3)|exact Q3 (Q3 Y3))(B:(x==("__debug__":AJ))=false:=by decide)(o:(x==("__classdict__":AJ))=false:=by decide)(j:A9 [e] X.env=[(false,eval e X.env)]:=by rfl)(s:attributeBase (.Name x p) "append" X.env (eval (.Name x p) X.env)=eval (.Name x p) X.env:=by rfl)(t:((AD cpos (A9 [e] X.env)).all (λx=>!x.1)&&(backToKw cpos (keywordEach [] X.env)).all (λx=>x.1.isSome)&&decide ([e].length+([]:Y AC).length+(if([]:Y AC).isEmpty then 0 else 1)<30))=true:=by rfl)(y:(apos.endLine==cpos.line)=true:=by rfl)(hs:swapsWith (.Call (.Attribute (.Name x p) "append" apos) [e] [] cpos) O pos.line X.env=pure false:=by rfl):NP X (.Expr (.Call (.Attribute (.Name x p) "append" apos) [e] [] cpos) pos) (λρ=>(f ρ).bind (FL ρ i)):=⟨have he:=he.run;T5 (Kf (X5 PySem.F.plainAttrs_list PySem.F.slot_list_append PySem.F.type_list_append Jm (uO (i:=i) m C B o) (gn he rB (by rw[j]<;>rfl)) s t y (by rw[j]<;>rfl) Y3) hs) λD σ H h=>by
  obtain⟨H0,ρ,r,E,e,q⟩:=h;obtain⟨b,eb,e⟩:=AT e;cases b with
  |z d=>
   simp only[FL]at e;split at e
   ·rename_i ds l;split at e
    ·rename_i w;cases e;obtain⟨v,e1,a,vs,rfl,g,rs⟩:=E.val i _ l;refine⟨_,e1,.inl ⟨rfl,vs,.inl (.inl g)⟩,H0,ρ,_,E,eb,λu H1 c G A=>?_⟩;have n:=E.grow c;refine⟨a,vs,u,rfl,rfl,c _ _ g,by rw[rs.length];exact w,q _ _ ?_⟩;exact n.X6 l e1 (c _ _ g) ((rs.kp (.of c)).append (aO.cons A aO.nil))
    ·cases e
   ·cases e
  |_=>cases e⟩
end
def GV(x:AJ):It:=⟨λi _=>i<x.cps.size,λi H v H'=>H'=H/\∃c,x.cps[i]?=Z c/\v=.str ⟨#[c]⟩,λi _=>x.cps.size<=i⟩
def NM(h:A6)(it:A1)(x:AJ)(i:Nat):Prop:=∃t,h.IsStrIter it "str_ascii_iterator" x t i\/h.IsStrIter it "str_iterator" x t i
theorem NQ(it:A1)(x:AJ):CA P w K tg (GV x) [it] it (λi h=>NM h it x i) where
 mem:=by simp
 obj:=λi h st b hb=>by
  have e:b=it:=by simpa using hb
  subst e;obtain⟨t,⟨o,e,c,d⟩|⟨o,e,c,d⟩⟩:=st
  ·exact⟨o,e,λv z=>by rw[d]at z;cases z⟩
  ·exact⟨o,e,λv z=>by rw[d]at z;cases z⟩
 keep:=λi h h' st k=>by
  obtain⟨t,⟨o,e,c⟩|⟨o,e,c⟩⟩:=st
  ·exact⟨t,.inl ⟨o,k it (by simp) o e,c⟩⟩
  ·exact⟨t,.inr ⟨o,k it (by simp) o e,c⟩⟩
 item:=by
  intro X p u y q i AN s σ H E I j st n;subst p u y;obtain⟨f0,f1,f2,a,l,f⟩:=j it (by simp);have hi:i<x.cps.size:=n;have hx:x.cps[i]?=Z x.cps[i]:=by simp[hi]
  obtain⟨t,st|st⟩:=st
  ·refine wpAny_pyNext_ascii_item st hx λh' g m=>?_;have A:L2.AU X AN σ H { s with heap:=h',toks:=s.toks+1 }:=I.turned (λb o hb e=>(m.2 b hb).trans e) f0 f1 a l f;obtain⟨o,e,c,d⟩:=id g;exact⟨_,rfl,Jf (s:={ s with heap:=h',toks:=s.toks+1 }) e c d (by decide) ⟨.str ⟨#[x.cps[i]]⟩,H,A,⟨_,rfl⟩,⟨rfl,_,hx,rfl⟩,⟨t,.inl g⟩,λb hb=>(j b hb).1⟩⟩
  ·refine wpAny_pyNext_wide_item st hx λh' g m=>?_;have A:L2.AU X AN σ H { s with heap:=h',toks:=s.toks+1 }:=I.turned (λb o hb e=>(m.2 b hb).trans e) f0 f1 a l f;obtain⟨o,e,c,d⟩:=id g;exact⟨_,rfl,Jf (s:={ s with heap:=h',toks:=s.toks+1 }) e c d (by decide) ⟨.str ⟨#[x.cps[i]]⟩,H,A,⟨_,rfl⟩,⟨rfl,_,hx,rfl⟩,⟨t,.inr g⟩,λb hb=>(j b hb).1⟩⟩
 done:=by
  intro X p u y q i AN s σ H E I j st n;subst p u y;obtain⟨f0,f1,f2,a,l,f⟩:=j it (by simp);have hx:x.cps[i]?=O:=by have:x.cps.size<=i:=n;simp[this]
  obtain⟨t,st|st⟩:=st
  ·exact wpAny_pyNext_ascii_end (I.ok.hd q) st hx λh' eb=>⟨rfl,I.turned (t':=s.toks) (λb o hb e=>eb b o hb e) f0 f1 a l f⟩
  ·exact wpAny_pyNext_wide_end (I.ok.hd q) st hx λh' eb=>⟨rfl,I.turned (t':=s.toks) (λb o hb e=>eb b o hb e) f0 f1 a l f⟩
 self:=λ_ _ _ _ _ st h=>by
  obtain⟨t,st|st⟩:=st
  ·exact wpAny_pyIter_striter_ascii st h
  ·exact wpAny_pyIter_striter_wide st h
def UB(K:B0)(tl:TE):TI:=λσ H R=>tl σ H λx H1=>(∃a,x=.ref a/\(∃xs,uP K H1 a xs)/\R (FD K a) H1)\/(∃a,x=.ref a/\(∃xs,z9 K H1 a xs)/\R (GE K a) H1)\/∃y,x=.str y/\R (GV y) H1
theorem Rc{l:Expr}{tl:TE}(g:PE X l tl):PI X tg l (UB X.K tl):=by
 intro AN s σ H R I h;refine iM (g AN s σ H _ I h) λv s1 ⟨x,H1,I1,r1,q1⟩=>?_;have c:∀(o:AE) (b:A1),b∈[s1.heap.objs.size]->sU X AN H1 b:=λo b hb=>by
  have e:b=s1.heap.objs.size:=by simpa using hb
  subst e;exact I1.Vx (zk _) (I1.hok.fresh (zk _))
 rcases q1 with⟨a,e,⟨xs,d⟩,q⟩|⟨a,e,⟨xs,d⟩,q⟩|⟨y,e,q⟩
 ·subst e;cases r1;obtain⟨AQ,j,p,i⟩:=I1.list d;refine KL p.isList ?_;exact⟨s1.heap.objs.size,[s1.heap.objs.size],_,_,H1,rfl,I1.kept (t':=s1.toks) λb o e=>zd _ e,Vy a _,⟨_,zv _ rfl,rfl,rfl⟩,c default,q⟩
 ·subst e;cases r1;obtain⟨AQ,j,p,i⟩:=I1.tuple d;refine wpAny_pyIter_tuple (show s1.heap.IsTuple a AQ.toArray from p) ?_;exact⟨s1.heap.objs.size,[s1.heap.objs.size],_,_,H1,rfl,I1.kept (t':=s1.toks) λb o e=>zd _ e,QS a _,⟨_,zv _ rfl,rfl,rfl⟩,c default,q⟩
 ·subst e;obtain⟨t,rfl⟩:=r1;cases f:y.cps.all (· < 128)with
  |true=>
   refine wpAny_pyIter_ascii f ?_;exact⟨s1.heap.objs.size,[s1.heap.objs.size],_,_,H1,rfl,I1.kept (t':=s1.toks) λb o e=>zd _ e,NQ _ y,⟨t,.inl ⟨_,zv _ rfl,rfl,rfl⟩⟩,c default,q⟩
  |false=>
   refine wpAny_pyIter_wide f ?_;exact⟨s1.heap.objs.size,[s1.heap.objs.size],_,_,H1,rfl,I1.kept (t':=s1.toks) λb o e=>zd _ e,NQ _ y,⟨t,.inr ⟨_,zv _ rfl,rfl,rfl⟩⟩,c default,q⟩
def B4(K:B0)(J:It)(ds:Y Dt)(Hs:Hp):Prop:=∀(i:Nat) (H:Hp),AV Hs H →
 (∀d,ds[i]?=Z d->J.go i H/\∀x H',J.yld i H x H'->AV H H'/\AW K H' d x)/\(ds.length<=i->J.stop i H)
theorem B4.of{ds:Y Dt}(h:∀(i:Nat) (H:Hp),AV Hs H →
  (∀d,ds[i]?=Z d->J.go i H/\∀x H',J.yld i H x H'->H'=H/\AW K H d x)/\(ds.length<=i->J.stop i H)):B4 K J ds Hs:=λi H s=>
 ⟨λd e=>⟨((h i H s).1 d e).1,λx H' y=>by
  obtain⟨rfl,r⟩:=((h i H s).1 d e).2 x H' y;exact⟨AV.refl _,r⟩⟩,(h i H s).2⟩
def BI(x:AJ):Y Dt:=x.cps.toList.map λc=>.str ⟨#[c]⟩
theorem B4.list{ds:Y Dt}(h:uP K Hs a vs)(r:aO K Hs ds vs):B4 K (FD K a) ds Hs:=.of λi H s=>by
 have h':=s.seq h;have c:=r.kp (.of s);refine⟨λd e=>?_,λe=>⟨vs,h',by rw[r.length];exact e⟩⟩;obtain⟨v,ev,b⟩:=c.get e;refine⟨⟨vs,v,h',ev⟩,λx H' y=>?_⟩;obtain⟨y1,y2⟩:=y;have:=y2 vs h';rw[ev]at this;cases this;exact⟨y1,b⟩
theorem B4.tup{ds:Y Dt}(h:z9 K Hs a vs)(r:aO K Hs ds vs):B4 K (GE K a) ds Hs:=.of λi H s=>by
 have h':=(Kp.of s).sqT h;have c:=r.kp (.of s);refine⟨λd e=>?_,λe=>⟨vs,h',by rw[r.length];exact e⟩⟩;obtain⟨v,ev,b⟩:=c.get e;refine⟨⟨vs,v,h',ev⟩,λx H' y=>?_⟩;obtain⟨y1,y2⟩:=y;have:=y2 vs h';rw[ev]at this;cases this;exact⟨y1,b⟩
theorem B4.str(x:AJ):B4 K (GV x) (BI x) Hs:=.of λi H s=>by
 refine⟨λd e=>?_,λe=>?_⟩
 ·unfold BI at e;rw[Zl]at e;cases h:x.cps.toList[i]? with
  |none=>rw[h]at e;cases e
  |some c=>
   rw[h]at e;cases e;have b:x.cps[i]?=Z c:=by simpa using h
   have hi:i<x.cps.size:=by
    have:=(List.getElem?_eq_some_iff.mp h).1;simpa using this
   refine⟨hi,λv H' y=>?_⟩;obtain⟨y1,f,a,rfl⟩:=y;rw[b]at a;cases a;refine⟨y1,?_⟩;unfold AW;exact⟨rfl,by show(1:Nat)<=AA;decide⟩
 ·have:(BI x).length=x.cps.size:=by simp[BI]
  show x.cps.size<=i;omega
def NT(lo:Int)(n:Nat):Y Dt:=(List.range n).map λk=>.int (lo+(k:Nat))
theorem B4.rng(lo:Int)(n:Nat):B4 K (F' lo n) (NT lo n) Hs:=.of λi H s=>by
 refine⟨λd e=>?_,λe=>?_⟩
 ·unfold NT at e;rw[Zl]at e;by_cases hi:i<n
  ·rw[List.getElem?_range hi]at e;cases e;refine⟨hi,λv H' y=>?_⟩;obtain⟨y1,y2⟩:=y;refine⟨y1,?_⟩;unfold AW;exact y2
  ·rw[Qb (by simp;omega)]at e;cases e
 ·have:(NT lo n).length=n:=by simp[NT]
  show n<=i;omega
def iF(K:B0)(f:Ev->S (Y Dt)):TI:=λσ H R=>∃H0 ρ ds,bR K H0 H σ ρ/\f ρ=Z ds/\∀J H',AV H H' →
 (∀Hs,AV Hs H'->(∀a,H a=O->Hs a=H' a)->(∀a o u,H' a=Z (.sS o u)->Hs a=H' a)->(∀a vs,H' a=Z (.tup vs)->Hs a=H' a)->B4 K J ds Hs)->R J H'
def aT(X:Cx)(tg iter:Expr)(f:Ev->S (Y Dt)):Prop:=PI X tg iter (iF X.K f)
structure FI (X:Cx) (tg iter:Expr) (f:Ev->Option (List Dt)):Prop where
 run:aT X tg iter f
def V2:Bx->S (Y Dt)
 |.z (.lst ds)=>Z ds
 |.z (.tup ds)=>Z ds
 |.z (.str x)=>Z (BI x)
 |.o ds=>Z ds
 |_=>O
section
variable{f:Ev->S Bx}{fs:Ev->S (Y Bx)}
mutual
theorem AW.part{K:B0}{H Hs:Hp}(b:∀a o u,H a=Z (.sS o u)->Hs a=H a)(c:∀a vs,H a=Z (.tup vs)->Hs a=H a):∀{d:Dt} {v:V},AW K H d v->AW K Hs d v
 |.non,_,h=>by simpa only[AW]using h
 |.bl _,_,h=>by simpa only[AW]using h
 |.int _,_,h=>by simpa only[AW]using h
 |.str _,_,h=>by simpa only[AW]using h
 |.tup ds,_,h=>by
  simp only[AW]at h ⊢;obtain⟨a,vs,e,q,r⟩:=h;refine⟨a,vs,e,?_,aO.part b c r⟩;rcases q with (q|⟨o,q⟩)|q
  ·exact .inl (.inl ((c _ _ q).trans q))
  ·exact .inl (.inr ⟨o,(b _ _ _ q).trans q⟩)
  ·exact .inr q
 |.lst ds,_,h=>by
  simp only[AW]at h ⊢;obtain⟨a,vs,e,q,r⟩:=h;refine⟨a,vs,e,?_,aO.part b c r⟩;rcases q with⟨o,q⟩|q
  ·exact .inl ⟨o,(b _ _ _ q).trans q⟩
  ·exact .inr q
 |.emp,_,h=>by
  simp only[AW]at h ⊢;obtain⟨a,o,e,q⟩:=h;exact⟨a,o,e,(b _ _ _ q).trans q⟩
theorem aO.part{K:B0}{H Hs:Hp}(b:∀a o u,H a=Z (.sS o u)->Hs a=H a)(c:∀a vs,H a=Z (.tup vs)->Hs a=H a):∀{ds:Y Dt} {vs:Y V},aO K H ds vs->aO K Hs ds vs
 |[],_,h=>by simpa only[aO]using h
 |d::ds,_,h=>by
  simp only[aO]at h ⊢;obtain⟨v,r,e,q,t⟩:=h;exact⟨v,r,e,AW.part b c q,aO.part b c t⟩
end
theorem Dh(h:QV X e f):FI X tg e (λρ=>(f ρ).bind V2):=⟨have h:=h.run;λAN s σ H R I q=>by
 refine Rc h AN s σ H R I ?_;obtain⟨H0,ρ,ds,E,e,q⟩:=q;obtain⟨b,eb,e⟩:=AT e;refine⟨H0,ρ,b,E,eb,λv H1 u w i=>?_⟩;cases b with
 |z d=>
  cases d with
  |tup p=>
   cases e;simp only[aW,AW]at i;obtain⟨a,vs,rfl,c,rs⟩:=i;refine .inr (.inl ⟨a,rfl,⟨vs,c⟩,q _ _ u λHs hs t g j=>.tup ?_ (rs.part g j)⟩);rcases c with (c|⟨o,c⟩)|c
   ·exact .inl (.inl ((j _ _ c).trans c))
   ·exact .inl (.inr ⟨o,(g _ _ _ c).trans c⟩)
   ·exact .inr c
  |lst p=>
   cases e;simp only[aW,AW]at i;obtain⟨a,vs,rfl,c,rs⟩:=i;refine .inl ⟨a,rfl,⟨vs,c.sq⟩,q _ _ u λHs hs t g j=>.list ?_ (rs.part g j)⟩;rcases c with⟨o,c⟩|c
   ·exact .inl (.inr ⟨o,(g _ _ _ c).trans c⟩)
   ·exact .inr c
  |str x=>
   cases e;simp only[aW,AW]at i;obtain⟨rfl,_⟩:=i;exact .inr (.inr ⟨x,rfl,q _ _ u λHs hs t g j=>.str x⟩)
  |_=>cases e
 |l p=>cases e
 |n p=>cases e
 |m p=>cases e
 |o p=>
  cases e;obtain⟨a,vs,rfl,c,rs⟩:=i;refine .inl ⟨a,rfl,⟨vs,.inl (.inl c)⟩,q _ _ u λHs hs t g j=>.list (.inl (.inl ((t a (w a Y3)).trans c))) (rs.part g j)⟩⟩
def GN:Y Bx->S (Y Dt)
 |[.z (.int j)]=>if -(2 ^ 62)<=j/\j<2 ^ 62 then Z (NT 0 j.toNat)else O
 |_=>O
theorem rR{p:Pos}(c:Gl X "range")(d:X.mg "range"=O)(a:Xl X [e] fs)(hs:A9 [e] X.env=[(false,eval e X.env)]:=by rfl):FI X tg (.Call (.Name "range" p) [e] [] pos) (λρ=>(fs ρ).bind GN):=⟨have a:=a.run;λAN s σ H R I q=>by
 refine Vz c d a hs AN s σ H R I ?_;obtain⟨H0,ρ,ds,E,e,q⟩:=q;obtain⟨bs,eb,e⟩:=AT e;refine⟨H0,ρ,bs,E,eb,λvs H1 g f=>?_⟩;unfold GN at e;split at e
 ·rename_i j;split at e
  ·rename_i b;cases e;cases f with
   |cons p t=>
    cases t;simp only[aW,AW]at p;subst p;exact⟨j,rfl,b.1,b.2,q _ _ g λHs _ _ _ _=>.rng 0 _⟩
  ·cases e
 ·cases e⟩
def rD(gt:Dt->Ev->S Ev)(gb:Ev->S Ap):Y Dt->Ev->S Ap
 |[],ρ=>Z (.nx ρ)
 |d::ds,ρ=>(gt d ρ).bind λc=>(gb c).bind λr=>match r with
  |.nx a=>rD gt gb ds a
  |.ct a=>rD gt gb ds a
  |.bk a=>Z (.nx a)
  |.rt b=>Z (.rt b)
noncomputable def gw(H:Hp)(σ:L2.St)(ρ:Ev):Hp:=λa=>@ite _ (∃(i:Nat) (c:Bx),ρ[i]?=Z (Z c)/\uL c=true/\σ[i]?=Z (Z (.ref a))) (Classical.propDecidable _) O (H a)
theorem yL{ρ:Ev}:AV (gw H σ ρ) H:=λa o e=>by
 unfold gw at e;split at e
 ·cases e
 ·exact e
theorem bR.rebase{ρ:Ev}(E:bR K Hs H σ ρ)(s:AV H0 Hs):bR K H0 H σ ρ:=⟨E.len,E.val,E.own,s.trans E.base,λi c a e1 b e2=>s.free (E.new i c a e1 b e2)⟩
theorem bR.sans{ρ:Ev}(E:bR K H0 H σ ρ):bR K (gw H σ ρ) H σ ρ:=⟨E.len,E.val,E.own,yL,λi c a e1 b e2=>by
 unfold gw;rw[zo ⟨i,c,e1,b,e2⟩]⟩
theorem bR.sub{ρ:Ev}(E:bR K H0 H σ ρ):AV H0 (gw H σ ρ):=λa o e=>by
 unfold gw;split
 ·rename_i h;obtain⟨i,c,e1,b,e2⟩:=h;rw[E.new i c a e1 b e2]at e;cases e
 ·exact E.base a o e
theorem je{ρ:Ev}(E:bR K H0 H σ ρ)(h:∀vs,H a≠Z (.lst vs))(h2:∀vs,H a≠Z (.dK vs)):gw H σ ρ a=H a:=by
 unfold gw;split
 ·rename_i g;obtain⟨i,c,e1,f,e2⟩:=g;obtain⟨v,e3,d⟩:=E.val i _ e1;rw[e2]at e3;cases e3;cases c with
  |o ds=>obtain⟨e,vs,b,q,_⟩:=d;cases b;exact absurd q (h vs)
  |m ds _=>obtain⟨e,vs,b,q,_⟩:=d;cases b;exact absurd q (h2 vs)
  |_=>cases f
 ·rfl
theorem Q9.rebase{K:B0}{H0 Hs:Hp}{D:C5}{r:Ap}(s:AV H0 Hs)(h:Q9 K H0 D r):Q9 K Hs D r:=by
 cases r with
 |nx ρ=>exact λσ H E=>h σ H (E.rebase s)
 |bk ρ=>exact λσ H E=>h σ H (E.rebase s)
 |ct ρ=>exact λσ H E=>h σ H (E.rebase s)
 |rt b=>exact λv H s' n r=>h v H (s.trans s') (n.old s) r
theorem rT{gt:Dt->Ev->S Ev}{gb:Ev->S Ap}{ds:List Dt}{H1:Hp}{ρ:Ev}{D:C5}{r:Ap}(o:bR X.K H0 H1 σ ρ)(Y:B4 X.K J ds (gw H1 σ ρ))(e:rD gt gb ds ρ=Z r)(q:Q9 X.K H0 D r):
  ∃W:Nat->Nat->L2.St->Hp->Prop,(∃m,W 0 m σ H1)/\∀i m σ H,W i m σ H →
   (J.stop i H/\D.nx σ H)\/(J.go i H/\∃N:L2.St->Hp->Prop,(∀ σ' H',N σ' H'->∃n,n<m/\W (i+1) n σ' H')/\∀x H',J.yld i H x H'->MB X.K gt x σ H' λc H2=>tG X.K gb { D with nx:=N,ct:=N,bk:=D.nx } c H2):=by
 have t:=o.sans;have q2:=q.rebase o.sub;generalize gw H1 σ ρ=Hs at Y t q2;refine⟨λi m σ' H'=>m=ds.length-i/\i<=ds.length/\∃d,bR X.K Hs H' σ' d/\rD gt gb (ds.drop i) d=Z r,⟨ds.length,by simp,QO _,ρ,t,by simpa using e⟩,?_⟩;rintro i m σ' H' ⟨rfl,E,d,f,e'⟩;obtain⟨y1,y2⟩:=Y i H' f.base;by_cases j:i<ds.length
 ·right;have z:ds[i]?=Z ds[i]:=by simp[j]
  obtain⟨A,w⟩:=y1 _ z;rw[List.drop_eq_getElem_cons j]at e';simp only[rD]at e';obtain⟨l,e1,e'⟩:=AT e';obtain⟨s,e2,e'⟩:=AT e';refine⟨A,λc H2=>∃a,bR X.K Hs H2 c a/\rD gt gb (ds.drop (i+1)) a=Z r,λc H2 ⟨a,g,e3⟩=>⟨ds.length-(i+1),by omega,rfl,j,a,g,e3⟩,λx H2 y=>?_⟩;obtain⟨u,v⟩:=w x H2 y;refine⟨Hs,d,ds[i],l,f.grow u,v,e1,λC g _=>⟨Hs,l,s,g,e2,?_⟩⟩;cases s with
  |nx a=>exact λc B h=>⟨a,h,e'⟩
  |ct a=>exact λc B h=>⟨a,h,e'⟩
  |bk a=>cases e';exact q2
  |rt b=>cases e';exact q2
 ·left;have p:ds.length<=i:=by omega
  refine⟨y2 p,?_⟩;rw[List.drop_eq_nil_of_le p]at e';cases e';exact q2 σ' H' f
theorem tu{fi:Ev->S (Y Dt)}{gt:Dt->Ev->S Ev}{gb:Ev->S Ap}(hp:PassesOwn (A8 X.prog X.w) X.A X.env X.xe)(l:X.calm=true)(hi:FI X tg iter fi)(g:Cf X tg gt)(hb:Ra X body gb)(hs:∀x,foldedSetIterable iter X.env x=pure x:=by intro _;rfl):NP X (.For tg iter body [] pos) (λρ=>(fi ρ).bind λds=>rD gt gb ds ρ):=⟨have hi:=hi.run;have g:=g.run;have hb:=hb.run;T5 (XH hp l hi g hb hs) λD σ H h=>by
 obtain⟨H0,ρ,r,E,e,q⟩:=h;obtain⟨ds,s,e⟩:=AT e;refine⟨H0,ρ,ds,E,s,λJ H1 B y=>?_⟩;have d:=E.grow B;refine rT d ?_ e q;refine y _ yL (λa b=>?_) (λa o u b=>je d (λvs z=>by rw[b]at z;cases z) (λvs z=>by rw[b]at z;cases z)) λa vs b=>je d (λvs z=>by rw[b]at z;cases z) (λvs z=>by rw[b]at z;cases z);unfold gw;split
 ·rename_i t;obtain⟨i,c,e1,p,e2⟩:=t;obtain⟨v,e3,j⟩:=E.val i _ e1;rw[e2]at e3;cases e3;cases c with
  |o ds=>obtain⟨n,vs,f,q,_⟩:=j;cases f;rw[b]at q;cases q
  |m ds _=>obtain⟨n,vs,f,q,_⟩:=j;cases f;rw[b]at q;cases q
  |_=>cases p
 ·rfl⟩
theorem bR.lend{ρ:Ev}{ds:Y Dt}(E:bR K H0 H σ ρ)(h:ρ[i]?=Z (Z (.o ds))):bR K H0 H σ (ρ.set i (Z (.l ds))):=by
 have back:∀(j:Nat) (b:Bx),(ρ.set i (Z (.l ds)))[j]?=Z (Z b)->(j=i/\b=.l ds)\/(j≠i/\ρ[j]?=Z (Z b)):=λj b e=>by
  rcases BC e with⟨rfl,e',_⟩|⟨f,e'⟩
  ·cases e';exact .inl ⟨rfl,rfl⟩
  ·exact .inr ⟨f,e'⟩
 refine⟨by rw[ko];exact E.len,λj b e=>?_,λj k c a b e1 d e2 e3 n g=>?_,E.base,λj c a e1 d e2=>?_⟩
 ·rcases back j b e with⟨rfl,rfl⟩|⟨f,e'⟩
  ·obtain⟨v,e1,a,vs,e2,q,r⟩:=E.val _ _ h;exact⟨v,e1,a,vs,e2,.inl q,r⟩
  ·exact E.val j b e'
 ·rcases back j _ e1 with⟨rfl,z⟩|⟨f,e'⟩
  ·subst z;cases d
  ·rcases back k _ e3 with⟨rfl,z⟩|⟨p,m⟩
   ·exact E.own j _ c a _ e' d e2 h Y3 g
   ·exact E.own j k c a b e' d e2 m n g
 ·rcases back j _ e1 with⟨rfl,z⟩|⟨f,e'⟩
  ·subst z;cases d
  ·exact E.new j c a e' d e2
def rW(i:Nat)(gt:Dt->Ev->S Ev)(gb:Ev->S Ap)(ρ:Ev):S Ap:=match ρ[i]? with
 |some (Z (.o ds))=>rD gt gb ds (ρ.set i (Z (.l ds)))
 |some (Z (.l ds))=>rD gt gb ds ρ
 |some (Z b)=>(V2 b).bind λds=>rD gt gb ds ρ
 |_=>O
theorem Yq{ρ:Ev}{ds:Y Dt}(E:bR X.K H0 H σ ρ)(h:ρ[i]?=Z (Z (.l ds))):∃a vs,σ[i]?=Z (Z (.ref a))/\uP X.K H a vs/\B4 X.K (FD X.K a) ds (gw H σ ρ):=by
 obtain⟨v,e1,a,vs,rfl,q,r⟩:=E.val i _ h;have d:gw H σ ρ a=H a:=by
  unfold gw;split
  ·rename_i f;obtain⟨j,c,e2,e,e3⟩:=f;have:=E.own j i c a _ e2 e e3 h Y3 e1;subst this;rw[h]at e2;cases e2;cases e
  ·rfl
 refine⟨a,vs,e1,.inl q,.list (.inl ?_) (r.part (λb o u hb=>je E (λvs z=>by rw[hb]at z;cases z) (λvs z=>by rw[hb]at z;cases z)) λb g hb=>je E (λvs z=>by rw[hb]at z;cases z) (λvs z=>by rw[hb]at z;cases z))⟩;rcases q with q|⟨o,q⟩
 ·exact .inl (d.trans q)
 ·exact .inr ⟨o,d.trans q⟩
theorem yM(i:Nat){p:Pos}{gt:Dt->Ev->S Ev}{gb:Ev->S Ap}(hp:PassesOwn (A8 X.prog X.w) X.A X.env X.xe)(K:X.calm=true)(B:Cf X tg gt)(hb:Ra X body gb)(I:X.N[i]?=Z x:=by rfl)(P:Xj X.env.scope x:=by first|exact JU rfl|exact Q3 (JU Y3)|exact Q3 (Q3 Y3))(M:(x==("__debug__":AJ))=false:=by decide)(J:(x==("__classdict__":AJ))=false:=by decide)(hs:∀y,foldedSetIterable (.Name x p) X.env y=pure y:=by intro _;rfl):NP X (.For tg (.Name x p) body [] pos) (rW i gt gb):=⟨have B:=B.run;have hb:=hb.run;T5 (XH hp K (Rc (uO (i:=i) I P M J)) B hb hs) λD σ H h=>by
 obtain⟨H0,ρ,r,E,e,q⟩:=h;unfold rW at e;split at e
 ·rename_i ds s;have F:=E.lend s;have hi:i<ρ.length:=(List.getElem?_eq_some_iff.mp s).1;obtain⟨a,vs,e1,sq,Y⟩:=Yq F (Ei _ hi);exact⟨_,e1,.inl ⟨a,rfl,⟨vs,sq⟩,rT F Y e q⟩⟩
 ·rename_i ds s;obtain⟨a,vs,e1,sq,Y⟩:=Yq E s;exact⟨_,e1,.inl ⟨a,rfl,⟨vs,sq⟩,rT E Y e q⟩⟩
 ·rename_i b L Q s;obtain⟨ds,f,e⟩:=AT e;obtain⟨v,e1,g⟩:=E.val i _ s;have t:∀b o u,H b=Z (.sS o u)->gw H σ ρ b=H b:=λb o u hb=>je E (λvs z=>by rw[hb]at z;cases z) (λvs z=>by rw[hb]at z;cases z);have C:∀b G,H b=Z (.tup G)->gw H σ ρ b=H b:=λb G hb=>je E (λvs z=>by rw[hb]at z;cases z) (λvs z=>by rw[hb]at z;cases z);cases b with
  |z d=>
   cases d with
   |tup j=>
    cases f;simp only[aW,AW]at g;obtain⟨a,vs,rfl,c,rs⟩:=g;refine⟨_,e1,.inr (.inl ⟨a,rfl,⟨vs,c⟩,rT E (.tup ?_ (rs.part t C)) e q⟩)⟩;rcases c with (c|⟨o,c⟩)|c
    ·exact .inl (.inl ((C _ _ c).trans c))
    ·exact .inl (.inr ⟨o,(t _ _ _ c).trans c⟩)
    ·exact .inr c
   |lst j=>
    cases f;simp only[aW,AW]at g;obtain⟨a,vs,rfl,c,rs⟩:=g;refine⟨_,e1,.inl ⟨a,rfl,⟨vs,c.sq⟩,rT E (.list ?_ (rs.part t C)) e q⟩⟩;rcases c with⟨o,c⟩|c
    ·exact .inl (.inr ⟨o,(t _ _ _ c).trans c⟩)
    ·exact .inr c
   |str x=>
    cases f;simp only[aW,AW]at g;obtain⟨rfl,_⟩:=g;exact⟨_,e1,.inr (.inr ⟨x,rfl,rT E (.str x) e q⟩)⟩
   |_=>cases f
  |l j=>cases f
  |o j=>exact absurd Y3 (L j)
  |n j=>cases f
  |m j=>cases f
 ·cases e⟩
end
def C7(a:Y (AJ×A1)):Y (AJ×A1)->Prop
 |[]=>True
 |(n,c)::r=>a.lookup n=Z c/\C7 a r
theorem C7.get{a:Y (AJ×A1)}:∀{cl:Y (AJ×A1)},C7 a cl->∀{x:AJ} {c:A1},cl.lookup x=Z c->a.lookup x=Z c
 |[],_,_,_,e=>by cases e
 |(n,d)::r,h,x,c,e=>by
  rw[List.lookup_cons]at e;by_cases hx:x==n
  ·simp only[hx]at e;cases e;have:x=n:=by simpa using hx
   rw[this];exact h.1
  ·have hx:(x==n)=false:=by simpa using hx
   simp only[hx]at e;exact C7.get h.2 e
structure IH (X:Cx) (scope:Scope) (cl:List (Str×Addr)) (x:Str) (i:Nat):Prop where
 n:X.N[i]?=some x
 k:X.env.kindOf x=some .cell\/X.env.kindOf x=some .free
 k':(relabel scope X.env).names.lookup x=some .cell\/(relabel scope X.env).names.lookup x=some .free
 c:∃c,cl.lookup x=some c
def Hx(X:Cx)(scope:Scope)(cl:Y (AJ×A1)):AZ->Y Nat->Prop
 |[],[]=>True
 |x::xs,i::is=>IH X scope cl x i/\Hx X scope cl xs is
 |_,_=>False
theorem Hx.get{X:Cx}{scope:Scope}{cl:Y (AJ×A1)}:∀{xs:AZ} {is:Y Nat},Hx X scope cl xs is->xs.length=is.length/\∀(j:Nat) (x:AJ),xs[j]?=Z x->∃i,is[j]?=Z i/\IH X scope cl x i
 |[],[],_=>⟨rfl,λj x e=>by simp at e⟩
 |x::xs,i::is,h=>by
  obtain⟨h1,h2⟩:=h;obtain⟨l,g⟩:=Hx.get h2;refine⟨by simp[l],λj y e=>?_⟩;cases j with
  |zero=>simp at e;subst e;exact⟨i,rfl,h1⟩
  |succ j=>obtain⟨k,e1,e2⟩:=g j y (by simpa using e);exact⟨k,by simpa using e1,e2⟩
 |[],_::_,h=>h.elim
 |_::_,[],h=>h.elim
def HR(a:Y (AJ×NameKind))(x:AJ):Bool:=match a.lookup x with
 |some .cell=>true
 |_=>false
def Hl(X:Cx)(a:AZ)(scope:Scope)(cl:Y (AJ×A1))(C:A1)(s₀:A2)(H₀:Hp)(fp:Y A1):Cx:=
 { X with N:=a,s₀:=s₀,H₀:=H₀,env:=compEnvC scope (cellsFrom (C+1) scope.names cl) C X.env,outer:=X.stack,ex:=fp,fn:=HR scope.names,pn:=[],xe:=λ_ _=>False }
structure HZ (h:Heap) (cs:List (Str×Addr)):Prop where
 inj:∀x y c,cs.lookup x=some c->cs.lookup y=some c->x=y
 cell:∀x c,cs.lookup x=some c->∃v,h.IsCell c v
theorem jX{n:AJ}{a:α}{l:Y (AJ×α)}(h:x≠n):((n,a)::l).lookup x=l.lookup x:=by
 rw[List.lookup_cons,beq_eq_false_iff_ne.mpr h]
theorem Yr:∀(g:Y (AJ×NameKind)) (h:A6) (d:Y (AJ×A1)),HZ h d->HZ (pushCells h g) (cellsFrom h.objs.size g d)
 |[],_,_,x=>x
 |(n,k)::r,h,d,x=>by
  unfold pushCells cellsFrom;split
  ·have i:∀y c,d.lookup y=Z c->c≠h.objs.size:=λy c e=>let ⟨_,q⟩:=x.cell y c e;zI q.lt;have:=Yr r (h.push { cls:=.type "cell",data:=.cell O }) ((n,h.objs.size)::d) ⟨λy z c e1 e2=>?_,λy c e=>?_⟩
   ·rwa [qq]at this
   ·by_cases a:y=n<;>by_cases f:z=n
    ·rw[a,f]
    ·subst a;rw[kB]at e1;rw[jX f]at e2;cases e1;exact absurd Y3 (i _ _ e2)
    ·subst f;rw[kB]at e2;rw[jX a]at e1;cases e2;exact absurd Y3 (i _ _ e1)
    ·rw[jX a]at e1;rw[jX f]at e2;exact x.inj y z c e1 e2
   ·by_cases a:y=n
    ·subst a;rw[kB]at e;cases e;exact⟨O,_,zv _ rfl,rfl⟩
    ·rw[jX a]at e;obtain⟨v,q⟩:=x.cell y c e;exact⟨v,q.keeps λb o e=>zd _ e⟩
  ·exact Yr r h d x
theorem yN:∀(b:Y (AJ×NameKind)) (n:Nat) (a:Y (AJ×A1)) (x:AJ) (c:A1),(cellsFrom n b a).lookup x=Z c->a.lookup x=Z c\/n<=c
 |[],_,_,_,_,e=>.inl e
 |(m,k)::r,n,a,x,c,e=>by
  unfold cellsFrom at e;split at e
  ·rcases yN r _ _ x c e with h|h
   ·by_cases hx:x=m
    ·subst hx;rw[kB]at h;cases h;exact .inr (zk _)
    ·rw[jX hx]at h;exact .inl h
   ·exact .inr (by omega)
  ·exact yN r _ _ x c e
theorem Kw:∀(b:Y (AJ×NameKind)) (n:Nat) (a:Y (AJ×A1)) (x:AJ),(x,NameKind.cell)∉b->(cellsFrom n b a).lookup x=a.lookup x
 |[],_,_,_,_=>rfl
 |(m,k)::r,n,a,x,h=>by
  unfold cellsFrom;have c:(x,NameKind.cell)∉r:=λz=>h (zi _ z);split
  ·rename_i d;rw[Kw r _ _ x c,jX λz=>h (by rw[z,<-beq_iff_eq.mp d];exact zh ..)]
  ·exact Kw r _ _ x c
theorem Rf:∀(b:Y (AJ×NameKind)) (n:Nat) (a:Y (AJ×A1)) (x:AJ),((x,NameKind.cell)∈b\/∃c,a.lookup x=Z c)->∃c,(cellsFrom n b a).lookup x=Z c
 |[],_,_,_,h=>h.elim (λz=>by simp at z) λz=>z
 |(m,k)::r,n,a,x,h=>by
  unfold cellsFrom;split
  ·refine Rf r _ _ x ?_;by_cases hx:x=m
   ·exact .inr ⟨n,by rw[hx,kB]⟩
   ·rw[jX hx];exact h.imp_left λz=>(List.mem_cons.mp z).elim (λz=>absurd (congrArg Prod.fst z) hx) λz=>z
  ·rename_i d;exact Rf r _ _ x (h.imp_left λz=>(List.mem_cons.mp z).elim (λz=>by cases z;exact absurd Y3 d) λz=>z)
theorem V3{g:A1}{Q:Env->A2->Prop}(h:Q (newEnv scope s.heap.objs.size g (cellsFrom (s.heap.objs.size+1) scope.names cl) qual O .none (Z env) builtinsNs) { s with heap:=pushCells (s.heap.push { cls:=.type "dict",data:=.dict #[] }) scope.names }):
  A7 M A (newFunctionEnv scope g cl [] qual O .none (Z env)) Q E s:=by
 simp only[newFunctionEnv,KB,qA];refine zb (wpAny_alloc ?_);refine zb (wpAny_layCells _ (λname a b=>by cases a==NameKind.cell<;>simp) _ _ _ _ ?_);rw[show({ s with heap:=s.heap.push { cls:=.type "dict",data:=.dict #[] } }:A2).heap.objs.size=s.heap.objs.size+1 from qq ..];rw[List.forIn_nil];exact zb (ze (ze h))
structure tB (X:Cx) (scope:Scope) (cl:List (Str×Addr)) (xs:AZ) (is:List Nat):Prop where
 clos:closureFor scope X.env=pure cl
 kind:scope.kind=.function
 cell:∀y∈scope.names,y.2=.cell->cl.lookup y.1=none
 names:∀y∈scope.names,y.2=.local->scope.names.lookup y.1=some .local
 sub:C7 X.env.cells cl
 has:∀x,((relabel scope X.env).names.lookup x=some .cell\/(relabel scope X.env).names.lookup x=some .free)->(x,NameKind.cell)∈scope.names\/∃c,cl.lookup x=some c
 cap:Hx X scope cl xs is
def xK(is:Y Nat)(σ:L2.St):L2.St:=is.map λi=>(σ[i]?).bind λv=>v
def jP(is:Y Nat)(ρ:Ev):Ev:=is.map λi=>xH ρ i
def Ch(n m:Nat)(g:Dt->Ev->S Ev):Prop:=∀d ρ a,g d ρ=Z a->a.length=ρ.length/\∀j,j<n\/m<=j->a[j]?=ρ[j]?
def FF(n m:Nat)(g:Y Dt->Ev->S Ev):Prop:=∀d ρ a,g d ρ=Z a->a.length=ρ.length/\∀j,j<n\/m<=j->a[j]?=ρ[j]?
theorem dh{m:Nat}(h:n<=i:=by decide)(h':i<m:=by decide):Ch n m (λd ρ=>Z (ρ.set i (Z (.z d)))):=λd ρ b e=>by
 cases e;exact⟨by rw[ko],λj a=>Ej _ (by omega)⟩
theorem Kz{m:Nat}:FF n m rQ:=λd ρ a e=>by
 cases d with
 |nil=>cases e;exact⟨rfl,λ_ _=>Y3⟩
 |cons=>cases e
theorem iw{m:Nat}{g:Dt->Ev->S Ev}{gs:Y Dt->Ev->S Ev}(h:Ch n m g)(hs:FF n m gs):FF n m (bZ g gs):=λd ρ o e=>by
 cases d with
 |nil=>cases e
 |cons d ds=>
  simp only[bZ]at e;obtain⟨l,e1,e⟩:=AT e;obtain⟨a,b⟩:=h _ _ _ e1;obtain⟨f,i⟩:=hs _ _ _ e;exact⟨f.trans a,λj c=>(i j c).trans (b j c)⟩
theorem Rh{m k:Nat}{gs:Y Dt->Ev->S Ev}(hs:FF n m gs):Ch n m (pX k gs):=λd ρ a e=>by
 cases d with
 |tup ds=>
  simp only[pX]at e;split at e
  ·exact hs _ _ _ e
  ·cases e
 |_=>cases e
def Cr(gt:Dt->Ev->S Ev)(p:Ev->S Bool)(fs:Ev->S (Y Dt))(ρ:Ev):Y Dt->S (Y Dt)
 |[]=>Z []
 |d::ds=>(gt d ρ).bind λa=>(p a).bind λk=>if k=true then(fs a).bind λys=>(Cr gt p fs ρ ds).bind λzs=>Z (ys++zs)else Cr gt p fs ρ ds
def GT:Bx->S (Y Dt)
 |.z y=>Z [y]
 |_=>O
def Bq(gt:Dt->Ev->S Ev)(p:Ev->S Bool)(fe:Ev->S Bx)(ρ:Ev):Y Dt->S (Y Dt):=Cr gt p (λρ=>(fe ρ).bind GT) ρ
theorem Aj{b:Bx}{ys:Y Dt}(h:GT b=Z ys):∃y,b=.z y/\ys=[y]:=by
 cases b<;>cases h;exact⟨_,rfl,rfl⟩
theorem vW{gt:Dt->Ev->S Ev}{p:Ev->S Bool}{fe:Ev->S Bx}{ρ:Ev}:∀{ds out:Y Dt},Bq gt p fe ρ ds=Z out->out.length<=ds.length
 |[],_,e=>by cases e;exact zk _
 |d::ds,out,e=>by
  simp only[Bq,Cr]at e;obtain⟨f,_,e⟩:=AT e;obtain⟨k,_,e⟩:=AT e;cases k with
  |false=>
   rw[zw ZA]at e;exact ZE (vW (gt:=gt) (p:=p) (fe:=fe) e) (by simp)
  |true=>
   rw[zo rfl]at e;obtain⟨ys,a,e⟩:=AT e;obtain⟨zs,c,e⟩:=AT e;obtain⟨b,_,a⟩:=AT a;obtain⟨y,_,rfl⟩:=Aj a;cases e;simpa using vW (gt:=gt) (p:=p) (fe:=fe) c
def CC(X:Cx)(ifs:Y Expr)(p:Ev->S Bool):Prop:=(ifs=[]/\p=λ_=>Z true)\/∃c,ifs=[c]/\PB X c p
structure Ak (X:Cx) (ifs:List Expr) (p:Ev->Option Bool):Prop where
 run:CC X ifs p
section
variable{xs:AZ}{gt:Dt->Ev->S Ev}{p:Ev->S Bool}{fe:Ev->S Bx}{fi:Ev->S (Y Dt)}
theorem Ys{p:Hp}{d:A2}(a:L2.AU X AN σ p d)(O:tB X scope cl xs is)(s:∀b∈fp,sU X AN p b)(D:∀b∈fp,b<d.heap.objs.size):
  L2.AU (Hl X (xs++ts) scope cl d.heap.objs.size d p fp) [] (xK is σ++List.replicate ts.length none) p { d with heap:=pushCells (d.heap.push { cls:=.type "dict",data:=.dict #[] }) scope.names }:=by
 obtain⟨M,E⟩:=O.cap.get;have f:=O.sub;have G:(d.heap.push { cls:=.type "dict",data:=.dict #[] }).objs.size=d.heap.objs.size+1:=qq ..;have t:∀b o,d.heap.get? b=Z o->(pushCells (d.heap.push { cls:=.type "dict",data:=.dict #[] }) scope.names).get? b=Z o:=λb o e=>pushCells_keeps _ _ b o (zd _ e);have C:HZ (pushCells (d.heap.push { cls:=.type "dict",data:=.dict #[] }) scope.names) (cellsFrom (d.heap.objs.size+1) scope.names cl):=by
  rw[<-G];refine Yr _ _ _ ⟨λx y c e1 e2=>a.ok.inj x y c (f.get e1) (f.get e2),λx c e=>?_⟩;obtain⟨v,q⟩:=a.cell x c (f.get e);exact⟨v,q.keeps λb o e=>zd _ e⟩
 have B:∀x c,(cellsFrom (d.heap.objs.size+1) scope.names cl).lookup x=Z c->X.env.cells.lookup x=Z c\/d.heap.objs.size<c:=λx c e=>(yN _ _ _ x c e).imp_left f.get;refine⟨⟨a.ok.mod,O.kind,a.ok.glob,a.ok.blt,zk _,C.inj,λx hx=>Rf _ _ _ x (O.has x hx),λx c hx e=>?_,a.ok.hd,a.ok.frames,.inl rfl,λb hb=>⟨zI (D b hb),λx c e=>?_⟩,a.bs,ZE a.ok.bsz a.sz,λb o e hb=>?_,λb hb J=>?_,a.stack,a.Tv⟩,
  rfl,a.bare,Un.kept t,⟨_,(Heap.Ns.new d.heap (.type "dict")).keeps (pushCells_keeps _ _),λj x v e1 e2 _=>?_⟩,C.cell,a.hok.fresh (zk _),λx c e=>(B x c e).elim (a.qD x c) λh=>a.hok.fresh (jS h),λq Q=>absurd (show q∈([]:Y (A1×AE)) from Q) (by simp),a.hok.kept t,?_⟩
 ·refine(yN _ _ _ x c e).elim (λh=>?_) λh=>jS h;have hx:(x,NameKind.cell)∈scope.names:=by
   have hx:HR scope.names x=true:=hx;unfold HR at hx;split at hx
   ·rename_i q;exact mem_of_lookup q
   ·cases hx
  rw[O.cell _ hx rfl]at h;cases h
 ·rcases B x c e with h|h
  ·exact(s b hb).2.2.2.2.1 x c h
  ·exact Kn (Nat.lt_trans (D b hb) h)
 ·obtain⟨_,_,_,z,_⟩:=s b hb;rcases z with z|z
  ·exact a.ok.Xw b o e z
  ·exact absurd (ZU (zz e) (ZE a.ok.bsz z)) (JE _)
 ·obtain⟨_,F,P,_⟩:=s b hb;rcases List.mem_cons.mp (a.Kc b J)with z|z
  ·exact F z
  ·exact P z
 ·have A:j<is.length:=by
   by_cases A:j<is.length
   ·exact A
   ·rw[qv (by simp[xK];omega)]at e2;rw[QN]at e2;split at e2<;>cases e2
  have K:xs[j]?=Z x:=by
   have e1:(xs++ts)[j]?=Z x:=e1;rw[ZT (by omega)]at e1;exact e1
  obtain⟨i,W,g⟩:=E j x K;have e3:σ[i]?=Z (Z v):=by
   rw[ZT (by simp[xK];omega)]at e2;unfold xK at e2;rw[Zl,W]at e2;cases q:σ[i]? with
   |none=>rw[Option.map_some,q]at e2;cases e2
   |some o=>
    rw[Option.map_some,q]at e2;have:o=Z v:=by simpa using e2
    rw[this]
  have H:Xj X.env.scope x:=by
   rcases g.k with k|k
   ·exact .inr (.inl k)
   ·exact .inr (.inr k)
  obtain⟨m',a0,L⟩:=a.loc;obtain⟨u,r,l⟩:=L i x v g.n e3 H;refine⟨u,r,?_⟩;rcases l with⟨k,_⟩|⟨k,c,N,U⟩
  ·rcases g.k with w|w<;>(rw[k]at w;cases w)
  ·obtain⟨c',m⟩:=g.c;have:=f.get m;rw[N]at this;cases this;refine .inr ⟨g.k',c,(Kw _ _ _ x λz=>by rw[O.cell _ z rfl]at m;cases m).trans m,?_⟩;obtain⟨o,ho,I⟩:=U;exact⟨o,t c o ho,I⟩
 ·show(xK is σ++List.replicate ts.length none).length=(xs++ts).length;simp[xK,M]
theorem bR.caps{ρ:Ev}(E:bR K H0 H σ ρ)(is:Y Nat)(n:Nat):bR K H H (xK is σ++List.replicate n O) (jP is ρ++List.replicate n O):=by
 have f:∀(j:Nat) c,(jP is ρ++List.replicate n O)[j]?=Z (Z c)->uL c=false:=λj c e=>by
  by_cases g:j<is.length
  ·rw[ZT (by simp[jP];omega)]at e;unfold jP at e;rw[Zl]at e;cases q:is[j]? with
   |none=>rw[q]at e;cases e
   |some i=>
    rw[q]at e;have:xH ρ i=Z c:=by simpa using e
    exact yH this
  ·rw[qv (by simp[jP];omega),QN]at e;split at e<;>cases e
 refine⟨by simp[xK,jP],λj b e=>?_,λj k c a b e d=>absurd d (by rw[f j c e];exact ZA),AV.refl H,λj c a e d=>absurd d (by rw[f j c e];exact ZA)⟩;by_cases g:j<is.length
 ·rw[ZT (by simp[jP];omega)]at e;rw[ZT (by simp[xK];omega)];unfold jP at e;unfold xK;rw[Zl]at e ⊢;cases q:is[j]? with
  |none=>rw[q]at e;cases e
  |some i=>
   rw[q]at e;have:xH ρ i=Z b:=by simpa using e
   obtain⟨v,e1,r⟩:=Ny E this;exact⟨v,by simp[e1],r⟩
 ·rw[qv (by simp[jP];omega),QN]at e;split at e<;>cases e
theorem bR.forget{ρ ρ':Ev}(E:bR K H0 H σ ρ')(f:ρ'.length=ρ.length)(h:∀(j:Nat) b,ρ[j]?=Z (Z b)->ρ'[j]?=Z (Z b)):bR K H0 H σ ρ:=
 ⟨E.len.trans f,λj b e=>E.val j b (h j b e),λi j c a b e1 d e2 e3 g l=>E.own i j c a b (h _ _ e1) d e2 (h _ _ e3) g l,E.base,λi c a e1 d e2=>E.new i c a (h _ _ e1) d e2⟩
structure DO (Hb:Hp) (σ:L2.St) (ρ:Ev) (n:Nat):Prop where
 own:∀(j:Nat) c,ρ[j]?=some (some c)->uL c=false
 lt:∀(j:Nat) b,ρ[j]?=some (some b)->j<n
 old:∀(j:Nat) c a,ρ[j]?=some (some c)->loose c=true->σ[j]?=some (some (.ref a))->Hb a≠none
def Fx(σ σ':L2.St)(ρ:Ev):Prop:=∀(j:Nat) c,loose c=true->ρ[j]?=Z (Z c)->σ'[j]?=σ[j]?
theorem DO.fx{d:Hp}{σ':L2.St}{ρ:Ev}(P:DO d σ ρ n)(f:Fx σ σ' ρ):DO d σ' ρ n:=⟨P.own,P.lt,λj c a e b ea=>P.old j c a e b (by rw[<-f j c b e];exact ea)⟩
theorem ES{ρ:Ev}(E:bR K H0 H σ ρ)(j:Nat)(c:Bx)(a:A1)(e:ρ[j]?=Z (Z c))(h:loose c=true)(ea:σ[j]?=Z (Z (.ref a))):H a≠O:=λz=>by
 obtain⟨v,e1,b⟩:=E.val j _ e;rw[ea]at e1;cases e1;cases c with
 |z d=>cases h
 |l g=>
  obtain⟨f,vs,e2,q,_⟩:=b;cases e2;rcases q with q|⟨o,q⟩<;>(rw[z]at q;cases q)
 |n g=>
  obtain⟨f,vs,e2,q,_⟩:=b;cases e2;rcases q with q|⟨o,q⟩<;>(rw[z]at q;cases q)
 |o g=>
  obtain⟨f,vs,e2,q,_⟩:=b;cases e2;rw[z]at q;cases q
 |m g _=>
  obtain⟨f,vs,e2,q,_⟩:=b;cases e2;rw[z]at q;cases q
theorem bR.grown{g:Hp}{ρ:Ev}(E:bR K g H σ ρ)(P:DO g σ ρ n)(t:g D=O)(kp:Kp H (B6 H D o)):bR K g (B6 H D o) σ ρ:=by
 refine⟨E.len,λj b e=>?_,λj k c a b e p=>absurd p (by rw[P.own j c e];exact ZA),λc o e=>?_,λj c a e p=>absurd p (by rw[P.own j c e];exact ZA)⟩
 ·obtain⟨v,ev,i⟩:=E.val j b e;refine⟨v,ev,?_⟩;cases b with
  |z d=>exact AW.kp kp i
  |o h=>have:=P.own j _ e;cases this
  |m h _=>have:=P.own j _ e;cases this
  |n h=>
   obtain⟨a,vs,rfl,q,s⟩:=i;refine⟨a,vs,rfl,?_,s.kp kp⟩;have f:a≠D:=λz=>P.old j _ _ e Y3 ev (by rw[z];exact t);exact q.imp (λq=>by rw[aQ f];exact q) λ⟨o,q⟩=>⟨o,by rw[aQ f];exact q⟩
  |l h=>
   obtain⟨a,vs,rfl,q,s⟩:=i;refine⟨a,vs,rfl,?_,s.kp kp⟩;have f:a≠D:=λz=>P.old j _ _ e Y3 ev (by rw[z];exact t);exact q.imp (λq=>by rw[aQ f];exact q) λ⟨o,q⟩=>⟨o,by rw[aQ f];exact q⟩
 ·rw[aQ (dW e t)];exact E.base c o e
def Yt(X:Cx)(el:A1->Env->Sem Unit)(fs:Ev->S (Y Dt))(Ac:A1->Hp->Y Dt->HO->Prop)(N n:Nat):Prop:=∀(AN:Y (A1×AE)) (s:A2) (σ:L2.St) (H a:Hp) (ρ:Ev) (D:A1) (o:HO) (b ys:Y Dt),L2.AU X AN σ H s->bR X.K a H σ ρ->DO a σ ρ n->a D=O->fs ρ=Z ys->H D=Z o->Ac D H b o->b.length+ys.length<=N →
 A7 (A8 X.prog X.w) X.A (el D X.env) (λ_ s'=>∃ σ' H' o',L2.AU X AN σ' H' s'/\bR X.K a H' σ' ρ/\Fx σ σ' ρ/\H' D=Z o'/\Ac D H' (b++ys) o') X.xe s
theorem Yu{fs:Ev->S (Y Dt)}{Ac:A1->Hp->Y Dt->HO->Prop}{N:Nat}(h:∀(AN:Y (A1×AE)) (s:A2) (σ:L2.St) (H c:Hp) (ρ:Ev) (D:A1) (o:HO) (b ys:Y Dt),L2.AU X AN σ H s->bR X.K c H σ ρ->fs ρ=Z ys->H D=Z o->Ac D H b o->b.length+ys.length<=N →
  A7 (A8 X.prog X.w) X.A (el D X.env) (λ_ s'=>∃a o',L2.AU X AN σ (B6 a D o') s'/\AV H a/\Kp a (B6 a D o')/\Ac D (B6 a D o') (b++ys) o') X.xe s):Yt X el fs Ac N n:=λAN s σ H c ρ D o b ys I E P d e1 e2 a1 l=>by
 refine QA (h AN s σ H c ρ D o b ys I E e1 e2 a1 l) (λ_ s' ⟨a,o',I',s9,kp,a'⟩=>?_) λ_ _ z=>z;exact⟨σ,_,o',I',(E.grow s9).grown P d kp,λ_ _ _ _=>Y3,bJ,a'⟩
structure T8 (B:Around->Bool->Prop) (P:Program) (w:World) (K:B0) (tg:Expr) (J:It) (fp:List Addr) (it:Addr) (tn:Nat->Heap->Prop):Prop where
 obj:∀i h,tn i h->∀b∈fp,∃o,h.get? b=some o/\∀v,o.data≠.cell v
 keep:∀i h h',tn i h->(∀b∈fp,∀o,h.get? b=some o->h'.get? b=some o)->tn i h'
 item:∀(X:Cx),X.prog=P->X.w=w->X.K=K->B X.A X.calm->∀(i:Nat) (AN:List (Addr×Obj)) (s:Shared) (σ:L2.St) (H:Hp) (E:BB),L2.AU X AN σ H s->(∀b∈fp,sU X AN H b)->tn i s.heap->J.go i H →
  wpAny (model P w) X.A (pyNext (.ref it)) (λr s1=>∃u,r=some u ∧
   wpAny (model P w) X.A (letOwnedTupleGo tg (.ref it) u) (λ_ s2=>∃x H',L2.AU X AN σ H' s2/\As x u/\J.yld i H x H'/\tn (i+1) s2.heap/\∀b∈fp,H' b=none) E s1) E s
 done:∀(X:Cx),X.prog=P->X.w=w->X.K=K->B X.A X.calm->∀(i:Nat) (AN:List (Addr×Obj)) (s:Shared) (σ:L2.St) (H:Hp) (E:BB),L2.AU X AN σ H s->(∀b∈fp,sU X AN H b)->tn i s.heap->J.stop i H →
  wpAny (model P w) X.A (pyNext (.ref it)) (λr s1=>r=none/\L2.AU X AN σ H s1) E s
 self:∀(A:Around) (i:Nat) (s:Shared) (Q:BB) (E:BB),tn i s.heap->Q (.ref it) s->wpAny (model P w) A (pyIter (.ref it)) Q E s
abbrev Jp:A5->Bool->Prop:=λ_ c=>c=true
theorem NZ{tn:Nat->A6->Prop}(T:CA P w K tg J fp it tn):T8 Jp P w K tg J fp it tn:=⟨T.obj,T.keep,T.item,T.done,T.self⟩
theorem V4{B:A5->Bool->Prop}{F:Expr}{d:Nat}{d1:Pos}{Ac:A1->Hp->List Dt->HO->Prop}{fs:Ev->S (List Dt)}{N m:Nat}{l:Hp}{tn:Nat->A6->Prop}{ds o0 out:List Dt}{ρ:Ev}{R:Result->A2->Prop}(c6:B X.A X.calm)(hx:X.xe=λ_ _=>False)(Nf:FR X tgt gt)(e8:CC X ifs p)(d3:Yt X el fs Ac N m)(d0:Ch n m gt)(e9:n<=m)(I:L2.AU X AN σ H s)(E:bR X.K l H σ ρ)(P:DO l σ ρ n)(hD:l D=O)(f4:H D=Z o)(hA:Ac D H o0 o)(T:T8 B X.prog X.w X.K tgt J fp it tn)(st:tn 0 s.heap)(hf:∀b∈fp,sU X AN H b)(Y:B4 X.K J ds l)(f0:Cr gt p fs ρ ds=Z out)(hN:o0.length+out.length<=N)(b0:∀{D:A1} {H H':Hp} {y:List Dt} {o:HO},Kp H H'->Ac D H y o->Ac D H' y o)(f5:∀(it:A0) (D:A1) (env:Env),compTurn F d it (.ref D) env=(standAt d1 >>= λ_=>pyNext it >>= λr=>match r with
   |none=>pure (.done .next)
   |some v=>letOwnedTupleGo tgt it v >>= λ_=>assign tgt env v >>= λ_=>(forIn ifs true λc r=>if r=true then isTrue c env (eval c env) >>= λok=>pure (ForInStep.yield ok)else pure (ForInStep.yield r)) >>= λok=>if ok=true then el D env >>= λ_=>again (.compLoop F d it (.ref D) env)else again (.compLoop F d it (.ref D) env)))(f3:∀{it b9:A0} {env:Env} {Q:Fin->A2->Prop} {E:BB} {s:A2},A7 (A8 X.prog X.w) X.A ((compTurn F d it b9 env).onRaise (λx=>noteFrame x env >>= λ_=>theTreesLotGoes x)) Q E s->A7 (A8 X.prog X.w) (X.A.under (.compLoop F d it b9 env)) ((A8 X.prog X.w).den (.compLoop F d it b9 env)) Q E s)(hR:∀s' σ' H' o',L2.AU X AN σ' H' s'->bR X.K l H' σ' ρ->Fx σ σ' ρ->H' D=Z o'->Ac D H' (o0++out) o'->R (.ok .next) s'):
  AF (A8 X.prog X.w) X.A (.compLoop F d (.ref it) (.ref D) X.env) R s:=by
 have b3:∀{H':Hp},(∀b∈fp,H' b=O)->∀b∈fp,sU X AN H' b:=λ{H'} hn b hb=>⟨hn b hb,(hf b hb).2⟩;refine codeAny_loop Y3 (λk s'=>∃(i:Nat) (σ':L2.St) (H':Hp) (y o2:List Dt) (o:HO),k=ds.length-i/\i<=ds.length/\L2.AU X AN σ' H' s'/\tn i s'.heap/\(∀b∈fp,H' b=O)/\bR X.K l H' σ' ρ/\Fx σ σ' ρ/\H' D=Z o/\Ac D H' y o/\Cr gt p fs ρ (ds.drop i)=Z o2/\y++o2=o0++out) ?_ ds.length
  ⟨0,σ,H,o0,out,o,by simp,QO _,I,st,λb hb=>(hf b hb).1,E,λ_ _ _ _=>Y3,f4,hA,by simpa using f0,rfl⟩
 rintro k s4 ⟨i,a1,H4,y,o2,o,rfl,hi,I4,c3,c1,E4,F4,a0,r4,g,ho⟩;have P4:=P.fx F4;refine f3 (wpAny_noted ?_);rw[f5];obtain⟨y1,y2⟩:=Y i H4 E4.base;by_cases a3:i<ds.length
 ·have hd:ds[i]?=Z ds[i]:=by simp[a3]
  obtain⟨go,yl⟩:=y1 _ hd;rw[List.drop_eq_getElem_cons a3]at g;simp only[Cr]at g;obtain⟨t,e1,g⟩:=AT g;obtain⟨k,ek,g⟩:=AT g;obtain⟨f7,a4⟩:=d0 _ _ _ e1;have back:∀{W:L2.St} {H5:Hp},bR X.K l H5 W t->bR X.K l H5 W ρ:=λE5=>E5.forget f7 λj b e=>by rw[a4 j (.inl (P.lt j b e))];exact e
  refine zb (KU (zb ?_));refine iM (T.item X Y3 Y3 Y3 c6 i AN s4 a1 H4 _ I4 (b3 c1) c3 go) λr s5 ⟨u,hr,h5⟩=>?_;subst hr;refine zb (iM h5 λ_ s6 ⟨x,H6,I6,r6,y6,st6,fr6⟩=>?_);obtain⟨sm,rx⟩:=yl x H6 y6;have E4:=E4.grow sm;have a0:=sm _ _ a0;have r4:=b0 (.of sm) r4;have f2:=I6.pinned (b3 fr6) (T.obj _ _ st6);have ha:=Nf _ s6 a1 H6 x u (λσ' H'=>H'=H6/\bR X.K l H6 σ' t/\Lo a1 ρ σ' t) f2 r6 ⟨l,ρ,ds[i],t,E4,rx,e1,λσ' E' L'=>⟨rfl,E',L'⟩⟩;rw[hx]at ha;refine zb (QA ha (λ_ s7 h7=>?_) λ_ _ z=>z.elim);obtain⟨M,H7,I7,rfl,E7,L7⟩:=h7;have P7:DO l M t m:=by
   refine⟨λj c e=>?_,λj c e=>?_,λj c a e C ea=>?_⟩
   ·cases c with
    |o ds=>exact P.own j _ (L7 j _ Y3 e).1
    |m ds _=>exact P.own j _ (L7 j _ Y3 e).1
    |_=>rfl
   ·refine Nat.lt_of_not_le λh=>?_;rw[a4 j (.inr h)]at e;exact absurd (ZU (P.lt j c e) e9) (Nat.not_lt.mpr h)
   ·obtain⟨e',ee⟩:=L7 j c C e;exact P4.old j c a e' C (by rw[<-ee];exact ea)
  have c0:∀{W:L2.St},Fx M W t->Fx σ W ρ:=λf j c C e=>by
   have e':t[j]?=Z (Z c):=by rw[a4 j (.inl (P.lt j c e))];exact e
   exact(f j c C e').trans ((L7 j c C e').2.trans (F4 j c C e))
  have ht:A7 (A8 X.prog X.w) X.A (forIn ifs true λc r=>if r=true then do let ok <-isTrue c X.env (eval c X.env);pure (ForInStep.yield ok)else pure (ForInStep.yield r))
    (λok U=>ok=k/\∃q,L2.AU X (AN++Ab fp s6.heap) M q U/\AV H7 q) (notedBy (A8 X.prog X.w) X.A X.env λe s'=>R (.error e) s') s7:=by
   rcases e8 with⟨rfl,rfl⟩|⟨c,rfl,hc⟩
   ·cases ek;exact wpAny_tests_nil ⟨rfl,H7,I7,AV.refl H7⟩
   ·refine wpAny_tests_one ?_;have:=hc _ s7 M H7 (λb q=>b=k/\AV H7 q) I7 ⟨l,t,k,E7,ek,λq U=>⟨rfl,U⟩⟩;rw[hx]at this;exact QA this (λb U ⟨q,I8,eb,s8'⟩=>⟨eb,q,I8,s8'⟩) λ_ _ z=>z.elim
  refine zb (QA ht (λok U h8=>?_) λ_ _ z=>z);obtain⟨rfl,q,I8,G⟩:=h8;have Yv:∀{a2:L2.St} {L:Hp} {s9:A2},L2.AU X (AN++Ab fp s6.heap) a2 L s9->L2.AU X AN a2 L s9/\tn (i+1) s9.heap/\∀b∈fp,L b=O:=λ{a2 L s9} I9=>by
   refine⟨I9.uR,T.keep _ _ _ st6 λb hb o e=>(I9.pin (b,o) (Zs _ (Zs _ (sV hb e)))).1,λb hb=>?_⟩;obtain⟨o,e,d⟩:=T.obj _ _ st6 b hb;exact(I9.pin (b,o) (Zs _ (Zs _ (sV hb e)))).2.1
  cases ok with
  |false=>
   rw[zw ZA]at g;obtain⟨I9,d2,c8⟩:=Yv I8;exact ze ⟨rfl,ds.length-(i+1),by omega,i+1,M,q,y,o2,o,rfl,a3,I9,d2,c8,back (E7.grow G),c0 (λ_ _ _ _=>Y3),G _ _ a0,b0 (.of G) r4,g,ho⟩
  |true=>
   rw[zo rfl]at g;obtain⟨ys,eb,g⟩:=AT g;obtain⟨zs,e5,g⟩:=AT g;cases g;have C:=congrArg List.length ho;simp only[zD]at C;have he:=d3 _ U M q l t D o y ys I8 (E7.grow G) P7 hD eb (G _ _ a0) (b0 (.of G) r4) (by omega);rw[hx]at he;refine zb (QA he (λ_ f8 e0=>?_) λ_ _ z=>z.elim);obtain⟨a2,L,o',f1,E9,F9,e3,a5⟩:=e0;obtain⟨e7,e6,f6⟩:=Yv f1;exact ze ⟨rfl,ds.length-(i+1),by omega,i+1,a2,L,y++ys,zs,o',rfl,a3,e7,e6,f6,back E9,c0 F9,e3,a5,e5,by rw[qa];exact ho⟩
 ·have c2:ds.length<=i:=by omega
  rw[List.drop_eq_nil_of_le c2]at g;cases g;refine zb (KU (zb ?_));refine iM (T.done X Y3 Y3 Y3 c6 i AN s4 a1 H4 _ I4 (b3 c1) c3 (y2 c2)) λr s5 ⟨hr,I5⟩=>?_;subst hr;rw[ZO]at ho;exact ze (hR s5 a1 H4 o I5 E4 F4 a0 (by rw[<-ho];exact r4))
theorem Jq{B:A5->Bool->Prop}{f:Expr}{mk:Sem A0}{o0:AE}{O0:HO}{Ac:A1->Hp->List Dt->HO->Prop}{fs:Ev->S (List Dt)}{N m:Nat}{H2:Hp}{a:A2}{tn:Nat->A6->Prop}{ds out:List Dt}{ρ:Ev}(O:tB X scope cl xs is)(d0:B X.A X.calm)(Nf:∀C t n fp,FR (Hl X (xs++ts) scope cl C t n fp) tgt gt)(c3:∀C t n fp,CC (Hl X (xs++ts) scope cl C t n fp) ifs p)(e1:∀C t n fp,Yt (Hl X (xs++ts) scope cl C t n fp) el fs Ac N m)(d3:Ch is.length m gt)(c8:is.length<=m)(I2:L2.AU X AN σ H2 a)(Ec:bR X.K H2 H2 (xK is σ++List.replicate ts.length none) (jP is ρ++List.replicate ts.length none))(T:T8 B X.prog X.w X.K tgt J fp it tn)(st:tn 0 a.heap)(U:∀b∈fp,sU X AN H2 b)(Y:B4 X.K J ds H2)(d1:Cr gt p fs (jP is ρ++List.replicate ts.length none) ds=Z out)(e0:out.length<=N)(b9:∀(D C:A1) (s':A2) (H':Hp) (o:HO),H2 D=none->L2.AU X AN σ H' s'->sU X AN H' C->(∃m,s'.heap.Ns C m)->AV H2 H'->H' D=Z o->Ac D H' out o->RR (.ref D) C (.ok .next) s')(e4:∀{Q:BB},Q (.ref a.heap.objs.size) { a with heap:=a.heap.push o0 }->A7 (A8 X.prog X.w) X.A mk Q E a)(c1:∀H,iu X.prog X.w H (a.heap.push o0) a.heap.objs.size O0)(a3:∀H,Ac a.heap.objs.size H [] O0)(b3:∀{D:A1} {H H':Hp} {o1:List Dt} {o:HO},Kp H H'->Ac D H o1 o->Ac D H' o1 o)(c0:∀(it:A0) (D:A1) (env:Env),compTurn f 0 it (.ref D) env=(standAt iter.pos >>= λ_=>pyNext it >>= λr=>match r with
   |none=>pure (.done .next)
   |some v=>letOwnedTupleGo tgt it v >>= λ_=>assign tgt env v >>= λ_=>(forIn ifs true λc r=>if r=true then isTrue c env (eval c env) >>= λok=>pure (ForInStep.yield ok)else pure (ForInStep.yield r)) >>= λok=>if ok=true then el D env >>= λ_=>again (.compLoop f 0 it (.ref D) env)else again (.compLoop f 0 it (.ref D) env)))(a2:∀{it d:A0} {env:Env} {R:Result->A2->Prop} {s:A2},AF (A8 X.prog X.w) X.A (.compLoop f 0 it d env) R s->A7 (A8 X.prog X.w) X.A (pyIter it) (λd2 s'=>AF (A8 X.prog X.w) X.A (.compLoop f 0 d2 d env) R s') (notedBy (A8 X.prog X.w) X.A env λx s'=>R (.error x) s') s->AF (A8 X.prog X.w) X.A (.compStart f 0 it d env) R s)(b0:∀{it d:A0} {env:Env} {Q:Fin->A2->Prop} {E:BB} {s:A2},A7 (A8 X.prog X.w) X.A ((compTurn f 0 it d env).onRaise (λx=>noteFrame x env >>= λ_=>theTreesLotGoes x)) Q E s->A7 (A8 X.prog X.w) (X.A.under (.compLoop f 0 it d env)) ((A8 X.prog X.w).den (.compLoop f 0 it d env)) Q E s):
  A7 (A8 X.prog X.w) X.A mk (λd e3=>A7 (A8 X.prog X.w) X.A (newFunctionEnv scope X.env.globals cl [] X.env.qual none .none (Z X.env)) (λa1 a4=>
   AF (A8 X.prog X.w) X.A (.compStart f 0 (.ref it) d { a1 with scope:=relabel scope X.env }) (RR d a1.locals) a4) E e3) E a:=by
 refine e4 (V3 ?_);have F:H2 a.heap.objs.size=none:=I2.hok.fresh (zk _);have y:L2.AU X AN σ (B6 H2 a.heap.objs.size O0) { a with heap:=a.heap.push o0 }:=
  I2.laid (t':=a.toks) (λb o e=>zd _ e) (zk _) (c1 _)
 have P:∀b∈fp,b<a.heap.objs.size:=λb hb=>let ⟨o,e,_⟩:=T.obj 0 _ st b hb;zz e;have I:∀b∈fp,sU X AN (B6 H2 a.heap.objs.size O0) b:=λb hb=>⟨by rw[aQ (zI (P b hb))];exact(U b hb).1,(U b hb).2⟩;have L:tn 0 (a.heap.push o0):=T.keep 0 _ _ st λb hb o e=>zd _ e;have u:∀b∈fp,b<(a.heap.push o0).objs.size:=λb hb=>by rw[qq];exact qV (P b hb)
 generalize c2:({ a with heap:=a.heap.push o0 }:A2)=s3 at *
 have e5:s3.heap=a.heap.push o0:=by rw[<-c2]
 rw[<-e5]at L u;have IC:=Ys (ts:=ts) y O I u;have a0:tn 0 (pushCells (s3.heap.push { cls:=.type "dict",data:=.dict #[] }) scope.names):=T.keep 0 _ _ L λb hb o e=>pushCells_keeps _ _ b o (zd _ e);have c6:∀b∈fp,sU (Hl X (xs++ts) scope cl s3.heap.objs.size s3 (B6 H2 a.heap.objs.size O0) fp) [] (B6 H2 a.heap.objs.size O0) b:=λb hb=>by
  obtain⟨f0,f1,f2,f3,G,f5⟩:=I b hb;refine⟨f0,zI (u b hb),λz=>?_,.inl hb,λx c e z=>?_,λq hq=>absurd (show q∈([]:List (A1×AE)) from hq) (by simp)⟩
  ·rcases List.mem_cons.mp (y.Kc b z)with q|q
   ·exact f1 q
   ·exact f2 q
  ·rcases yN _ _ _ x c e with h|h
   ·exact G x c (O.sub.get h) z
   ·rw[z]at h;exact absurd (ZU (u b hb) (Nat.le_of_succ_le h)) (JE _)
 have P0:DO H2 (xK is σ++List.replicate ts.length none) (jP is ρ++List.replicate ts.length none) is.length:=by
  have g:∀(j:Nat) c,(jP is ρ++List.replicate ts.length none)[j]?=Z (Z c)->j<is.length/\uL c=false:=λj c e=>by
   by_cases hj:j<is.length
   ·refine⟨hj,?_⟩;rw[ZT (by simp[jP];omega)]at e;unfold jP at e;rw[Zl]at e;cases q:is[j]? with
    |none=>rw[q]at e;cases e
    |some i=>rw[q]at e;exact yH (by simpa using e)
   ·rw[qv (by simp[jP];omega),QN]at e;split at e<;>cases e
  exact⟨λj c e=>(g j c e).2,λj c e=>(g j c e).1,ES Ec⟩
 have h:=V4 (B:=B) (X:=Hl X (xs++ts) scope cl s3.heap.objs.size s3 (B6 H2 a.heap.objs.size O0) fp) (R:=RR (.ref a.heap.objs.size) s3.heap.objs.size) (o0:=[]) d0 Y3 (Nf _ _ _ _) (c3 _ _ _ _) (e1 _ _ _ _) d3 c8 IC (Ec.grow (bU F)) P0 F bJ (a3 _) T a0 c6 Y d1 (by simpa using e0) b3 c0 b0 λW e7 M o5 l E5 _ e6 a5=>by
  have IB:L2.AU X AN σ M W:=y.call' (ch:=fp) l.os l.base l.hok l.bare λb hb=>by
   obtain⟨f0,f1,f2,f3,G,f5⟩:=I b hb;exact⟨f3,f1,G,f5⟩
  obtain⟨m,hn,_⟩:=l.loc;exact b9 _ _ W M o5 F IB (y.Vx (zk _) l.free) ⟨m,hn⟩ E5.base e6 a5
 exact a2 h (T.self _ 0 _ _ _ a0 h)
def EE(K:B0)(_:A1)(H:Hp)(a:Y Dt)(o:HO):Prop:=∃us,o=.lst us/\aO K H a us
theorem EE.kp{K:B0}{D:A1}{H H':Hp}{a:Y Dt}{o:HO}(k:Kp H H'):EE K D H a o->EE K D H' a o:=λ⟨us,e,r⟩=>⟨us,e,r.kp k⟩
def IJ(fe:Ev->S Bx):Ev->S (Y Dt):=λρ=>(fe ρ).bind GT
theorem WE(h:PV X elt fe):Yt X (λD env=>do let _ <-call (.builtin "list.append") [.ref D,<-eval elt env]) (IJ fe) (EE X.K) 100000 n:=by
 refine Yu λAN s σ H Hb ρ D o o1 ys I En d hD ⟨us,e,r4⟩ hl=>?_;subst e;obtain⟨b,eb,d⟩:=AT d;obtain⟨y,rfl,rfl⟩:=Aj d;refine zb (QA (h AN s σ H (λv a=>AV H a/\AW X.K a y v) I ⟨Hb,ρ,_,En,eb,λv a g _ i=>⟨g,i⟩⟩) (λv g m=>?_) λ_ _ z=>z);obtain⟨c,a,u,p,f,i⟩:=m;have j:=f _ _ hD;refine zb (QA ((Jm (X:=X)) _ g σ a (.ref D) [c] (.ref D) [v] (λw l=>l=B6 a D (.lst (us++[c]))) u Y3 (.cons p .nil) ⟨_,us,c,rfl,rfl,j,by rw[r4.length];have h0:(100000:Nat)<AA:=(by decide);simp at hl;omega,rfl⟩) (λw x t=>?_) λ_ _ z=>z);obtain⟨A,l,q,_,rfl⟩:=t;have kp:Kp a (B6 a D (.lst (us++[c]))):=.lst j;exact ze ⟨a,_,q,f,kp,us++[c],rfl,((r4.kp (.of f)).append (aO.cons i aO.nil)).kp kp⟩
theorem yO{B:A5->Bool->Prop}{H2:Hp}{l:A2}{tn:Nat->A6->Prop}{ds out:List Dt}{ρ:Ev}(O:tB X scope cl xs is)(I:B X.A X.calm)(y:∀C j i fp,FR (Hl X (xs++ts) scope cl C j i fp) tgt gt)(F:∀C j i fp,CC (Hl X (xs++ts) scope cl C j i fp) ifs p)(v:∀C j i fp,PV (Hl X (xs++ts) scope cl C j i fp) elt fe)(M:Ch is.length (is.length+ts.length) gt)(t:L2.AU X AN σ H2 l)(L:bR X.K H2 H2 (xK is σ++List.replicate ts.length none) (jP is ρ++List.replicate ts.length none))(T:T8 B X.prog X.w X.K tgt J fp it tn)(st:tn 0 l.heap)(G:∀b∈fp,sU X AN H2 b)(Y:B4 X.K J ds H2)(u:ds.length<=100000)(s:Bq gt p fe (jP is ρ++List.replicate ts.length none) ds=Z out)(z:∀(D C:A1) (s':A2) (H':Hp) (us:List V),H2 D=none->L2.AU X AN σ H' s'->sU X AN H' C->(∃m,s'.heap.Ns C m)->AV H2 H'->H' D=Z (.lst us)->aO X.K H' out us->RR (.ref D) C (.ok .next) s'):
  A7 (A8 X.prog X.w) X.A (newList []) (λq x=>A7 (A8 X.prog X.w) X.A (newFunctionEnv scope X.env.globals cl [] X.env.qual none .none (Z X.env)) (λn H=>
   AF (A8 X.prog X.w) X.A (.compStart (.ListComp elt [⟨tgt,iter,ifs,0⟩] scope pos) 0 (.ref it) q { n with scope:=relabel scope X.env }) (RR q n.locals) H) E x) E l:=
 Jq (B:=B) (Ac:=EE X.K) (O0:=.lst []) (N:=100000) O I y F (λC j i fp=>WE (v C j i fp)) M (Nat.le_add_right ..) t L T st G Y s (ZE (vW s) u) (λD C s' H' o a b c d e f g=>by obtain⟨us,rfl,r⟩:=g;exact z D C s' H' us a b c d e f r)
  qS (λ_=>⟨QO _,[],0,.nil,zv _ rfl⟩) (λ_=>⟨[],rfl,aO.nil⟩) EE.kp (λ_ _ _=>Y3) codeAny_compStart_list λh=>h
end
def iC(K:B0)(f:Ev->S (Y Dt)):TI:=λσ H R=>∃H0 ρ ds,bR K H0 H σ ρ/\f ρ=Z ds/\∀J H',AV H H'->B4 K J ds H'->R J H'
def N2(X:Cx)(tg iter:Expr)(f:Ev->S (Y Dt)):Prop:=PI X tg iter (iC X.K f)
structure Eg (X:Cx) (tg iter:Expr) (f:Ev->Option (List Dt)):Prop where
 run:N2 X tg iter f
def Yw:Bx->S (Y Dt)
 |.z (.lst ds)=>Z ds
 |.z (.tup ds)=>Z ds
 |.z (.str x)=>Z (BI x)
 |.o ds=>Z ds
 |.l ds=>Z ds
 |_=>O
section
variable{f:Ev->S Bx}{fs:Ev->S (Y Bx)}{xs:AZ}{gt:Dt->Ev->S Ev}{p:Ev->S Bool}{fe:Ev->S Bx}{fi:Ev->S (Y Dt)}
theorem WS(h:FI X tgt iter fi):Eg X tgt iter fi:=⟨have h:=h.run;λAN s σ H R I q=>by
 obtain⟨H0,ρ,ds,E,e,q⟩:=q;exact h AN s σ H R I ⟨H0,ρ,ds,E,e,λJ H' s' y=>q J H' s' (y H' (AV.refl H') (λ_ _=>Y3) (λ_ _ _ _=>Y3) λ_ _ _=>Y3)⟩⟩
theorem jL(h:QV X e f):Eg X tgt e (λρ=>(f ρ).bind Yw):=⟨have h:=h.run;λAN s σ H R I q=>by
 refine Rc h AN s σ H R I ?_;obtain⟨H0,ρ,ds,E,e,q⟩:=q;obtain⟨b,eb,e⟩:=AT e;refine⟨H0,ρ,b,E,eb,λv H1 i p g=>?_⟩;cases b with
 |z d=>
  cases d with
  |tup j=>
   cases e;simp only[aW,AW]at g;obtain⟨a,vs,rfl,c,rs⟩:=g;exact .inr (.inl ⟨a,rfl,⟨vs,c⟩,q _ _ i (.tup c rs)⟩)
  |lst j=>
   cases e;obtain⟨a,vs,rfl,c,rs⟩:=g.Hj rfl;exact .inl ⟨a,rfl,⟨vs,c⟩,q _ _ i (.list c rs)⟩
  |str x=>
   cases e;simp only[aW,AW]at g;obtain⟨rfl,_⟩:=g;exact .inr (.inr ⟨x,rfl,q _ _ i (.str x)⟩)
  |_=>cases e
 |l j=>
  cases e;obtain⟨a,vs,rfl,c,rs⟩:=g.Hj rfl;exact .inl ⟨a,rfl,⟨vs,c⟩,q _ _ i (.list c rs)⟩
 |o j=>
  cases e;obtain⟨a,vs,rfl,c,rs⟩:=g.Hj rfl;exact .inl ⟨a,rfl,⟨vs,c⟩,q _ _ i (.list c rs)⟩
 |n _=>cases e
 |m _ _=>cases e⟩
def gk(fi:Ev->S (Y Dt))(gt:Dt->Ev->S Ev)(p:Ev->S Bool)(fe:Ev->S Bx)(is:Y Nat)(n:Nat):Ev->S Bx:=λρ=>(fi ρ).bind λds=>
 if ds.length<=100000 then(Bq gt p fe (jP is ρ++List.replicate n O) ds).bind λout=>Z (.o out)else O
theorem oU(ts:AZ)(O:tB X scope cl xs is)(G:X.calm=true)(hi:Eg X tgt iter fi)(g:∀C d c fp,Cf (Hl X (xs++ts) scope cl C d c fp) tgt gt)(i:∀C d c fp,Ak (Hl X (xs++ts) scope cl C d c fp) ifs p)(j:∀C d c fp,QV (Hl X (xs++ts) scope cl C d c fp) elt fe)(L:Ch is.length (is.length+ts.length) gt)(hs:∀x,foldedSetIterable iter X.env x=pure x:=by intro _;rfl):QV X (.ListComp elt [⟨tgt,iter,ifs,0⟩] scope pos) (gk fi gt p fe is ts.length):=⟨have hi:=hi.run;have g:=λC d c fp=>(g C d c fp).run;have i:=λC d c fp=>(i C d c fp).run;have j:=λC d c fp=>(j C d c fp).run;λAN s σ H Q I h=>by
 obtain⟨H0,ρ,b,E,e,q⟩:=h;obtain⟨ds,ed,e⟩:=AT e;split at e
 ·rename_i U;obtain⟨out,N,e⟩:=AT e;cases e;rw[eval_ListComp];refine kL (use:=none) Y3 hs O.clos O.kind O.names ?_;refine iM (hi AN s σ H (λJ H'=>AV H H'/\B4 X.K J ds H') I ⟨H0,ρ,ds,E,ed,λJ H' s' y=>⟨s',y⟩⟩) λv s1 h1=>iM h1 λa0 s2 h2=>?_;obtain⟨it,fp,tn,J,H2,rfl,P,T,st,l,f,Y⟩:=h2;refine yO (B:=Jp) (RR:=λW C=>compPost (A8 X.prog X.w) X.A X.xe none (EP X AN σ Q) W C) (ts:=ts) (xs:=xs) O G g i j L P ((E.grow f).caps is ts.length) (NZ T) st l Y U N ?_;intro D C s' H' us t I' n ⟨m,hn⟩ s2' hD' r';refine⟨m,hn,λh' u=>⟨.ref D,H',?_,rfl,q _ _ (f.trans s2') (λa ea=>by cases ea;exact f.free t) ⟨D,us,rfl,hD',r'⟩⟩⟩;obtain⟨f0,f1,f2,M,z,F⟩:=n;exact I'.turned (t':=s'.toks) (λb o hb e=>(u.2 b hb).trans e) f0 f1 M z F
 ·cases e⟩
theorem KC(i:Nat){py spos:Pos}(ts:AZ)(O:tB X scope cl xs is)(a2:X.calm=true)(W:X.N.Nodup)(hi:Eg X tgt iter fi)(l:∀C d c fp,Cf (Hl X (xs++ts) scope cl C d c fp) tgt gt)(n:∀C d c fp,Ak (Hl X (xs++ts) scope cl C d c fp) ifs p)(u:∀C d c fp,QV (Hl X (xs++ts) scope cl C d c fp) elt fe)(a5:Ch is.length (is.length+ts.length) gt)(b9:swapsWith (.ListComp elt [⟨tgt,iter,ifs,0⟩] scope pos) (Z (.Name y py)) spos.line X.env=pure true:=by with_unfolding_all rfl)(hy:X.N[i]?=Z y:=by rfl)(hx:DC X.env.scope y:=by first|exact JU rfl|exact Q3 Y3)(M:X.fn y=true\/X.env.scope.names.lookup y=Z .local:=by first|exact .inl rfl|exact .inr Y3)(hs:∀x,foldedSetIterable iter X.env x=pure x:=by intro _;rfl):NP X (.Assign [.Name y py] (.ListComp elt [⟨tgt,iter,ifs,0⟩] scope pos) spos) (λρ=>(gk fi gt p fe is ts.length ρ).bind λb=>(V1 ρ i b).bind λρ'=>Z (.nx ρ')):=⟨have hi:=hi.run;have l:=λC d c fp=>(l C d c fp).run;have n:=λC d c fp=>(n C d c fp).run;have u:=λC d c fp=>(u C d c fp).run;λAN s σ H D I h=>by
 obtain⟨H0,ρ,r,E,e,q⟩:=h;obtain⟨b,eb,e⟩:=AT e;obtain⟨ds,ed,eb⟩:=AT eb;split at eb
 ·rename_i b0;obtain⟨out,eo,eb⟩:=AT eb;cases eb;cases e;rw[exec_Assign_Name_used _ _ _ _ b9];refine zb (KU (zb ?_));show A7 _ X.A (do let _ <-comprehension (.ListComp elt [⟨tgt,iter,ifs,0⟩] scope pos) scope X.env _ (newList []) false (eval iter X.env) (Z (assign (.Name y py) X.env))) _ _ s;refine zb (QA (kL (use:=Z (assign (.Name y py) X.env)) (Q:=λ_ s'=>SP X AN D .next s') Y3 hs O.clos O.kind O.names ?_) (λ_ s' hq=>ze (ze hq)) λ_ _ e=>e);refine iM (hi AN s σ H (λJ H'=>AV H H'/\B4 X.K J ds H') I ⟨H0,ρ,ds,E,ed,λJ H' s' y=>⟨s',y⟩⟩) λv s1 h1=>iM h1 λc1 s2 h2=>?_;obtain⟨it,fp,tn,J,H2,rfl,I2,T,st,P,j,Y⟩:=h2;refine yO (B:=Jp) (RR:=λb3 C=>compPost (A8 X.prog X.w) X.A X.xe (Z (assign (.Name y py) X.env)) (λ_ s'=>SP X AN D .next s') b3 C) (ts:=ts) (xs:=xs) O a2 l n u a5 I2 ((E.grow j).caps is ts.length) (NZ T) st P Y b0 eo ?_;intro f C s' H' us hD L U ⟨m,hn⟩ s2' hD' r';show A7 _ X.A (assign (.Name y py) X.env (.ref f)) _ _ s';obtain⟨f0,f1,f2,f3,f4,f5⟩:=U;obtain⟨g,a1,ep,c0,F,a0⟩:=id hn;have a4:L2.AU X (AN++[(C,g)]) σ H' s':=L.Kd λG hp=>by
   rcases List.mem_append.mp hp with z|z
   ·exact L.pin G (Zs _ z)
   ·have:G=(C,g):=by simpa using z
    subst this;exact⟨c0,f0,f1,f2,λv z=>by rw[F]at z;cases z⟩
  refine iM (L2.TJ W hy hx M (AN++[(C,g)]) s' σ H' (.ref f) (.ref f) (λσ' t=>σ'=σ.set i (Z (.ref f))/\t=H') a4 Y3 ⟨rfl,rfl⟩) λ_ s'' ⟨σ',t,J',e1,e2⟩=>?_;subst e1 e2;have a3:=(J'.pin (C,g) (by simp)).1;refine⟨m,⟨g,a1,ep,a3,F,a0⟩,λh' sb=>?_⟩;refine⟨σ.set i (Z (.ref f)),t,J'.uR.turned (t':=s''.toks) (λb o hb e=>(sb.2 b hb).trans e) f0 f1 f3 f4 f5,q _ _ ?_⟩;exact E.set (j.trans s2') (b:=.o out) ⟨f,us,rfl,hD',r'⟩ (.inl Y3) λa ea=>by cases ea;exact j.free hD
 ·cases eb⟩
def lend:Bx->Bx
 |.o ds=>.l ds
 |.m ds _=>.n ds
 |b=>b
def de:Bx->Bool
 |.o _=>true
 |.m _ _=>true
 |_=>false
def Dx(K:B0)(n:Nat)(F:Y Bx->S Bx):Sp:=λvs H Q _=>vs.length=n/\∃bs r,rP K H bs vs/\bs.all (λb=>!de b)=true/\F bs=Z r/\∀v H',AV H H'->Nw H r v->aW K H' r v->Q v H'
def dX(n:Nat)(g:Ev->S Ap):Y Bx->S Bx:=λbs=>(g (bs.map Z++List.replicate (n-bs.length) O)).bind λr=>match r with
 |.rt b=>Z b
 |.nx _=>Z (.z .non)
 |_=>O
theorem bR.start{K:B0}{H:Hp}{N:AZ}{bs:Y Bx}{vs:Y V}(r:rP K H bs vs)(ho:bs.all (λb=>!de b)=true):bR K H H (L2.start N vs) (bs.map Z++List.replicate (N.length-bs.length) O):=by
 have g:bs.length=vs.length:=Paired.length r;have get:∀(i:Nat) b,(bs.map Z++List.replicate (N.length-bs.length) O)[i]?=Z (Z b)->bs[i]?=Z b:=λi b e=>by
  by_cases hi:i<bs.length
  ·rw[ZT (by simpa using hi),Zl]at e;cases q:bs[i]? with
   |none=>rw[q]at e;cases e
   |some l=>rw[q]at e;simpa using e
  ·rw[qv (by simp;omega),QN]at e;split at e<;>cases e
 have f:∀(i:Nat) c,(bs.map Z++List.replicate (N.length-bs.length) O)[i]?=Z (Z c)->uL c=true->False:=λi c e d=>by
  have:=List.all_eq_true.mp ho _ (Qr (get i _ e));cases c with
  |o ds=>cases this
  |m ds _=>cases this
  |_=>cases d
 refine⟨?_,λi b e=>?_,λi j c a b e d=>(f i c e d).elim,AV.refl H,λi c a e d=>(f i c e d).elim⟩
 ·unfold L2.start;simp[g]
 ·have e':=get i b e;have hi:i<bs.length:=(List.getElem?_eq_some_iff.mp e').1;have:∀{bs:Y Bx} {vs:Y V} {i:Nat} {b:Bx},AI (aW K H) bs vs->bs[i]?=Z b->∃v,vs[i]?=Z v/\aW K H b v:=by
   intro bs vs i b r
   induction r generalizing i with
   |nil=>intro e;simp at e
   |cons p t h=>
    intro e;cases i with
    |zero=>simp at e;subst e;exact⟨_,rfl,p⟩
    |succ i=>obtain⟨v,e1,e2⟩:=h (i:=i) (by simpa using e);exact⟨v,by simpa using e1,e2⟩
  obtain⟨v,e1,e2⟩:=this r e';refine⟨v,?_,e2⟩;unfold L2.start;rw[ZT (by simp;omega),Zl,e1];rfl
end
theorem PZ{st:AB}{f:A1}{k:Nat}{g:Ev->Option Ap}(F:Co K x qual st f fd)(S:bL N ps (aP st))(j:∀(a:A0) (A:A5) (outer:Y Env) (s:A2) (H:Hp) (E:XK),nF k (A.deeper (AK qual (aP st) s.heap.objs.size f a))->TF (DN Kr P w K mg base N qual (aP st) f a A outer s H E).nox (jd st) g):
  uU P w K mg base Kr (k+1) f fd ps (Dx K ps.length (dX N.length g)):=by
 refine F.ok S (λvs H Q E h=>h.1) λa A outer s H vs Q E m h=>?_;obtain⟨n,bs,r,d,ho,e,q⟩:=h;refine⟨_,j a A outer s H E m,?_⟩;obtain⟨c,er,e⟩:=AT e;refine⟨H,_,c,bR.start d ho,er,?_⟩;cases c with
 |rt b=>cases e;exact λv H' s' l c=>q v H' s' l c
 |nx ρ=>cases e;exact λσ H' i=>q _ H' i.base trivial (by unfold aW AW;rfl)
 |bk ρ=>cases e
 |ct ρ=>cases e
section
variable{k:Nat}{f:A1}{F:Y Bx->S Bx}{p:Pos}{fs:Ev->S (Y Bx)}
theorem N5{K:B0}{H:Hp}:∀{bs:Y Bx} {vs:Y V},rP K H bs vs->rP K H (bs.map lend) vs
 |_,_,.nil=>.nil
 |b::bs,_,.cons h t=>by
  refine .cons ?_ (N5 t);cases b with
  |z d=>exact h
  |l ds=>exact h
  |o ds=>obtain⟨a,vs,e,q,r⟩:=h;exact⟨a,vs,e,.inl q,r⟩
  |n ds=>exact h
  |m ds _=>obtain⟨a,vs,e,q,r⟩:=h;exact⟨a,vs,e,.inl q,r.1⟩
theorem T9:∀bs:Y Bx,(bs.map lend).all (λb=>!de b)=true
 |[]=>rfl
 |b::bs=>by
  rw[zt,kz,T9 bs];cases b<;>rfl
def bY(n:Nat)(F:Y Bx->S Bx)(fs:Ev->S (Y Bx)):Ev->S Bx:=λρ=>(fs ρ).bind λbs=>if bs.length=n then F (bs.map lend)else O
theorem SL(G:uU X.prog X.w X.K X.mg X.base Kr k f fd ps (Dx X.K n F))(m:nF k X.A)(d:Gl X x)(j:X.mg x=Z (.ref f))(g:keepIn X.K (.ref f)=true)(hb:BY X.K fd ps [])(a:Xl X (e::es) fs)(t:(x==("__debug__":AJ))=false:=by decide)(he:A9 (e::es) X.env=(false,eval e X.env)::A9 es X.env:=by rfl)(o:(AD pos (A9 es X.env)).any (·.1)=false:=by rfl):QV X (.Call (.Name x p) (e::es) [] pos) (bY n F fs):=⟨have a:=a.run;Cp (TQ G m d j g hb .nil (LJ) a t he o) λσ H Q h=>by
 obtain⟨H0,ρ,r,E,e,q⟩:=h;obtain⟨bs,eb,e⟩:=AT e;refine⟨H0,ρ,bs,E,eb,λvs H1 c b=>?_⟩;split at e
 ·rename_i s;rw[ZO];exact⟨by rw[<-Paired.length b];exact s,_,r,N5 b,T9 bs,e,λv H2 l i u=>q v H2 (c.trans l) (i.old c) u⟩
 ·cases e⟩
end
end P1
variable{b:P1.Bx}{d:P1.Dt}{G:A1->Y (L2.AY×P1.Dt)->Y P1.Bx->S (Y (L2.AY×P1.Dt))}{f:P1.Ev->S P1.Bx}{q:P1.Ev->S Bool}{g:P1.Ev->S P1.Ap}{p:P1.Ev->S Bool}{AO:Y (L2.AY×P1.Dt)}{ds:Y P1.Dt}{fa:P1.Ev->S P1.Bx}{ρ:P1.Ev}{fb fc:P1.Ev->S P1.Bx}{gt:P1.Dt->P1.Ev->S P1.Ev}{gb:P1.Ev->S P1.Ap}{fi:P1.Ev->S (Y P1.Dt)}{fe:P1.Ev->S P1.Bx}{Ac:A1->L2.Hp->Y P1.Dt->L2.HO->Prop}{fk fo fv f1:P1.Ev->S P1.Bx}{gx:P1.Ev->S P1.Dt}{fU:P1.Bx}
namespace P1
open L2 SeqAt
open AutoSeq1 (wpAny_loadPart')
def Hy(h:A6)(a:A1):Prop:=∃o ep,h.get? a=Z o/\o.ExactDict/\o.data=.dict #[] ep
section
variable{b:A1}
theorem yP{AO:Y (AY×V)}{vs:Y (AY×A0)}(q:AO=[])(r:KV AO vs)(d:h.DictOf (bx P w) a vs):Hy h a:=by
 subst q;cases r;obtain⟨o,es,ep,h1,h2,c,_,b,_⟩:=d;have:es=#[]:=by
  have:=b.length;apply Array.eq_empty_of_size_eq_zero;simpa using this
 subst this;exact⟨o,ep,h1,h2,c⟩
theorem Hy.dict(P:A3)(w:A4)(x:Hy h a):h.DictOf (strKind P w) a []:=by
 obtain⟨o,ep,h1,h2,b⟩:=x;exact⟨o,#[],ep,h1,h2,b,λe c=>by simp at c,.nil,JI⟩
theorem MM(d:(a==sysModules)=false)(hb:(b==sysModules)=false)(f:Hy s.heap a)(e:Hy s.heap b)(c:A.units<cLine):RcAt A s (.ref a) (.ref b) true:=λprog w E Q h=>
 PySem.W.keq_eq (knd:=strKind prog w) d hb (f.dict prog w) (e.dict prog w) c (λ_=>.nil) h
theorem X2(d:(a==sysModules)=false)(hb:(b==sysModules)=false)(f:Hy s.heap a)(e:Hy s.heap b)(c:A.units<cLine):RcNeAt A s (.ref a) (.ref b) false:=λprog w E Q h=>
 PySem.W.keq_ne (r:=true) (knd:=strKind prog w) d hb (f.dict prog w) (e.dict prog w) c (λ_=>.nil) h
theorem N6(o:AE)(b:AJ)(u:Tok):Meets (Builtin.«dict.__eq__» ⟨[.ref a,.str b u],[]⟩) (λ_ R s=>(s.heap.get? a=Z o/\o.cls=.type "dict")/\R (.ok (.ret .notImplemented)) s):=
 .of_wp λprog w A R s h=>by
  have c:s.TypeIs (.ref a) "dict":=⟨o,h.1.1,h.1.2⟩;show A7 _ _ (Builtin.Dict.dictSlotArgs "__eq__" ⟨[.ref a,.str b u],[]⟩ >>= _) _ _ s;refine zb ?_;unfold Builtin.Dict.dictSlotArgs;refine zb (wpAny_notOrdered_dict c ?_);show A7 _ _ (pure (Value.ref a,Value.str b u)) _ _ s;refine ze ?_;refine zb (kb (T :="str") (typeIs_str s b u) PySem.F.sub_str_dict ?_);simp only[kD,qA];refine zb (k7 ?_);exact ze ⟨_,rfl,h.2⟩
theorem N7(b:AJ)(u:Tok)(es:Array DictEntry)(ep:Nat)(e:S A1)(sl:Array (S A0)):Meets (Builtin.«str.__eq__» ⟨[.str b u,.ref a],[]⟩) (λ_ R s=>s.heap.get? a=Z { cls:=.type "dict",dict:=e,data:=.dict es ep,slots:=sl }/\R (.ok (.ret .notImplemented)) s):=
 .of_wp λprog w A R s h=>by obtain⟨hp,g,d,tk,os⟩:=s;obtain⟨c,h⟩:=h;wp_walk using wpAny_loadPart' c,Kt c;exact⟨_,rfl,h⟩
theorem Jr(x:AJ)(t:Tok)(d:Hy s.heap a)(g:A.units<cLine):RcAt A s (.str x t) (.ref a) false:=λprog w E Q h=>by
 obtain⟨⟨j,f,i,sl⟩,ep,ho,⟨c,l,hs⟩,e⟩:=d;simp only at c e;subst c e;exact rc_eq_decline_or (k:=false) (typeIs_str s x t) ⟨_,ho,rfl⟩ (by decide) PySem.F.sub_dict_str PySem.F.slot_str_eq PySem.F.slot_dict_eq_refl
  (λ_ b=>call_meets PySem.F.slot_str_eq (typeIs_str s x t) PySem.F.entry_str_eq (PySem.F.args_str_eq_2 _ _) (N7 x t #[] ep f sl) ⟨ho,b⟩)
  (λ_ b=>call_meets PySem.F.slot_dict_eq_refl ⟨_,ho,rfl⟩ PySem.F.entry_dict_eq (PySem.F.args_dict_eq_2 _ _) (N6 _ x t) ⟨⟨ho,rfl⟩,b⟩)
  (λ_ b=>wpAny_of_eq (rfl:isSame (.str x t) (.ref a)=pure false) b) (.inr g) h
theorem N8(o:AE)(b:AJ)(u:Tok):Meets (Builtin.«dict.__ne__» ⟨[.ref a,.str b u],[]⟩) (λ_ R s=>(s.heap.get? a=Z o/\o.cls=.type "dict")/\R (.ok (.ret .notImplemented)) s):=
 .of_wp λprog w A R s h=>by
  have c:s.TypeIs (.ref a) "dict":=⟨o,h.1.1,h.1.2⟩;show A7 _ _ (Builtin.Dict.dictSlotArgs "__ne__" ⟨[.ref a,.str b u],[]⟩ >>= _) _ _ s;refine zb ?_;unfold Builtin.Dict.dictSlotArgs;refine zb (wpAny_notOrdered_dict c ?_);show A7 _ _ (pure (Value.ref a,Value.str b u)) _ _ s;refine ze ?_;refine zb (kb (T :="str") (typeIs_str s b u) PySem.F.sub_str_dict ?_);simp only[kD,qA];refine zb (k7 ?_);exact ze ⟨_,rfl,h.2⟩
theorem Oa(b:AJ)(u:Tok)(es:Array DictEntry)(ep:Nat)(e:S A1)(sl:Array (S A0)):Meets (Builtin.«str.__ne__» ⟨[.str b u,.ref a],[]⟩) (λ_ R s=>s.heap.get? a=Z { cls:=.type "dict",dict:=e,data:=.dict es ep,slots:=sl }/\R (.ok (.ret .notImplemented)) s):=
 .of_wp λprog w A R s h=>by obtain⟨hp,g,d,tk,os⟩:=s;obtain⟨c,h⟩:=h;wp_walk using wpAny_loadPart' c,Kt c;exact⟨_,rfl,h⟩
theorem V5(x:AJ)(t:Tok)(d:Hy s.heap a)(g:A.units<cLine):RcNeAt A s (.str x t) (.ref a) true:=λprog w E Q h=>by
 obtain⟨⟨j,f,i,sl⟩,ep,ho,⟨c,l,hs⟩,e⟩:=d;simp only at c e;subst c e;exact rc_ne_decline_or (k:=false) (typeIs_str s x t) ⟨_,ho,rfl⟩ (by decide) PySem.F.sub_dict_str PySem.F.slot_str_ne PySem.F.slot_dict_ne_refl
  (λ_ b=>call_meets PySem.F.slot_str_ne (typeIs_str s x t) PySem.F.entry_str_ne (PySem.F.args_str_ne_2 _ _) (Oa x t #[] ep f sl) ⟨ho,b⟩)
  (λ_ b=>call_meets PySem.F.slot_dict_ne_refl ⟨_,ho,rfl⟩ PySem.F.entry_dict_ne (PySem.F.args_dict_ne_2 _ _) (N8 _ x t) ⟨⟨ho,rfl⟩,b⟩)
  (λ_ b=>wpAny_of_eq (rfl:isSame (.str x t) (.ref a)=pure false) b) (.inr g) h
theorem V6(x:AJ)(t:Tok)(d:Hy s.heap a)(b:A.units<cLine):EqAt A s (.str x t) (.ref a) false:=λprog w E Q h=>by
 unfold eqBool;refine QP ?_;refine wpAny_ite_split (λc=>absurd (eq_of_beq c) nofun) (λ_=>?_);exact zb (Jr x t d b prog w E _ (Q4 h))
end
mutual
def vX:Dt->Nat
 |.tup xs=>uW xs+1
 |.lst xs=>uW xs+1
 |_=>1
def uW:Y Dt->Nat
 |[]=>0
 |d::ds=>max (vX d) (uW ds)
end
mutual
def yQ:Dt->Dt->S Bool
 |.non,.non=>Z true
 |.non,.bl _=>Z false|.non,.int _=>Z false|.non,.str _=>Z false|.non,.tup _=>Z false|.non,.lst _=>Z false
 |.bl a,.bl b=>Z (a==b)
 |.bl a,.int b=>Z ((if a then 1 else 0)==b)
 |.bl _,.non=>Z false|.bl _,.str _=>Z false|.bl _,.tup _=>Z false|.bl _,.lst _=>Z false
 |.int a,.int b=>Z (a==b)
 |.int a,.bl b=>Z (a==(if b then 1 else 0))
 |.int _,.non=>Z false|.int _,.str _=>Z false|.int _,.tup _=>Z false|.int _,.lst _=>Z false
 |.str a,.str b=>Z (a==b)
 |.str _,.non=>Z false|.str _,.bl _=>Z false|.str _,.int _=>Z false|.str _,.tup _=>Z false|.str _,.lst _=>Z false|.str _,.emp=>Z false
 |.tup xs,.tup ys=>lQ xs ys
 |.tup _,.non=>Z false|.tup _,.bl _=>Z false|.tup _,.int _=>Z false|.tup _,.str _=>Z false|.tup _,.lst _=>Z false
 |.lst xs,.lst ys=>lQ xs ys
 |.emp,.emp=>Z true
 |.lst _,.non=>Z false|.lst _,.bl _=>Z false|.lst _,.int _=>Z false|.lst _,.str _=>Z false|.lst _,.tup _=>Z false
 |_,_=>O
def lQ:Y Dt->Y Dt->S Bool
 |[],[]=>Z true
 |[],_::_=>Z false
 |_::_,[]=>Z false
 |x::xs,y::ys=>match yQ x y with
  |some b=>match lQ xs ys with
   |some c=>Z (b&&c)
   |none=>O
  |none=>O
end
mutual
theorem Ob:∀{d:Dt} {k:Bool},yQ d d=Z k->k=true
 |.non,_,e=>by cases e;rfl
 |.bl b,_,e=>by cases e;simp
 |.int b,_,e=>by cases e;simp
 |.str b,_,e=>by cases e;simp
 |.tup xs,_,e=>Al (ds:=xs) e
 |.lst xs,_,e=>Al (ds:=xs) e
 |.emp,_,e=>by cases e;rfl
theorem Al:∀{ds:Y Dt} {k:Bool},lQ ds ds=Z k->k=true
 |[],_,e=>by simp only[lQ]at e;cases e;rfl
 |d::ds,_,e=>by
  simp only[lQ]at e;cases h:yQ d d with
  |none=>rw[h]at e;cases e
  |some b=>
   rw[h]at e;simp only at e;cases h2:lQ ds ds with
   |none=>rw[h2]at e;cases e
   |some c=>
    rw[h2]at e;cases e;rw[Ob h,Al h2];rfl
end
theorem Di(xs ys:Y Dt):yQ (.tup xs) (.tup ys)=lQ xs ys:=rfl
theorem uX:∀{xs ys:Y Dt} {k:Bool},lQ xs ys=Z k->∃e:Nat->Bool,(∀(j:Nat) x y,xs[j]?=Z x->ys[j]?=Z y->yQ x y=Z (e j))/\k=((List.range (min xs.length ys.length)).all e&&xs.length==ys.length)
 |[],[],k,h=>by simp only[lQ]at h;cases h;exact⟨λ_=>true,λj x y e=>by simp at e,by simp⟩
 |[],y::ys,k,h=>by simp only[lQ]at h;cases h;exact⟨λ_=>true,λj x y e=>by simp at e,by simp⟩
 |x::xs,[],k,h=>by simp only[lQ]at h;cases h;exact⟨λ_=>true,λj x y _ e=>by simp at e,by simp⟩
 |x::xs,y::ys,k,h=>by
  simp only[lQ]at h;cases h1:yQ x y with
  |none=>rw[h1]at h;cases h
  |some b=>
   rw[h1]at h;simp only at h;cases h2:lQ xs ys with
   |none=>rw[h2]at h;cases h
   |some c=>
    rw[h2]at h;cases h;obtain⟨e,g,d⟩:=uX h2;refine⟨λj=>match j with|0=>b|j+1=>e j,λj u v a ev=>?_,?_⟩
    ·cases j with
     |zero=>simp at a ev;subst a ev;exact h1
     |succ j=>exact g j u v (by simpa using a) (by simpa using ev)
    ·have:min (x::xs).length (y::ys).length=min xs.length ys.length+1:=by simp only[ZN];omega
     rw[this,List.range_succ_eq_map,kz,List.all_map,d];have hb:((x::xs).length==(y::ys).length)=(xs.length==ys.length):=by
      rw[ky];simp
     rw[hb,Bool.and_assoc];rfl
theorem uY:∀{ds:Y Dt} {j:Nat} {d:Dt},ds[j]?=Z d->vX d<=uW ds
 |[],_,_,e=>by simp at e
 |d::ds,0,_,e=>by simp at e;subst e;simp only[uW];exact Nat.le_max_left _ _
 |d::ds,j+1,_,e=>by
  simp only[uW];exact ZE (uY (ds:=ds) (j:=j) (by simpa using e)) (Nat.le_max_right _ _)
theorem Dj(I:L2.AU X AN σ H s)(h:z9 X.K H a vs):∃b,s.heap.get? a=Z b/\b.cls=.type "tuple":=by
 obtain⟨AQ,_,⟨b,e,c,_⟩,_⟩:=I.tuple h;exact⟨b,e,c⟩
theorem Dk(I:L2.AU X AN σ H s)(h:uP X.K H a vs):∃b,s.heap.get? a=Z b/\b.cls=.type "list":=by
 obtain⟨AQ,_,⟨b,n,e,c,_⟩,_⟩:=I.list h;exact⟨b,e,c⟩
theorem oV(I:L2.AU X AN σ H s){o:AE}(h:H a=Z (.sS o (.dK []))):∃b,s.heap.get? a=Z b/\b.cls=.type "dict":=by
 obtain⟨e,_,_,vs,_,b,es,ep,e2,ex,_⟩:=I.hok a _ h;exact⟨b,e2,ex.1⟩
theorem Am{n m:String}(h:∃b,s.heap.get? a=Z b/\b.cls=.type n)(q:∃b,s.heap.get? a=Z b/\b.cls=.type m)(f:n≠m):False:=by
 obtain⟨o,e,c⟩:=h;obtain⟨o',e',d⟩:=q;rw[e]at e';cases e';rw[c]at d;exact f (by injection d)
mutual
theorem AW.inj(I:L2.AU X AN σ H s):∀{d e:Dt} {v:V},AW X.K H d v->AW X.K H e v->d=e
 |.non,e,v,h,q=>by
  simp only[AW]at h;subst h;cases e<;>simp only[AW]at q<;>first|rfl|(cases q;done)|(obtain⟨a,b,z,_⟩:=q;cases z;done)|(obtain⟨z,_⟩:=q;cases z;done)
 |.bl _,e,v,h,q=>by
  simp only[AW]at h;subst h;cases e<;>simp only[AW]at q<;>first|(cases q;rfl)|(cases q;done)|(obtain⟨a,b,z,_⟩:=q;cases z;done)|(obtain⟨z,_⟩:=q;cases z;done)
 |.int _,e,v,h,q=>by
  simp only[AW]at h;subst h;cases e<;>simp only[AW]at q<;>first|(cases q;rfl)|(cases q;done)|(obtain⟨a,b,z,_⟩:=q;cases z;done)|(obtain⟨z,_⟩:=q;cases z;done)
 |.str x,e,v,h,q=>by
  simp only[AW]at h;have g:v=.str x:=h.1;subst g;cases e with
  |str y=>
   simp only[AW]at q;have z:V.str x=V.str y:=q.1;injection z with z;rw[z]
  |tup es=>simp only[AW]at q;obtain⟨a,b,z,_⟩:=q;cases z
  |lst es=>simp only[AW]at q;obtain⟨a,b,z,_⟩:=q;cases z
  |emp=>simp only[AW]at q;obtain⟨a,b,z,_⟩:=q;cases z
  |_=>simp only[AW]at q;cases q
 |.tup ds,e,v,h,q=>by
  simp only[AW]at h;obtain⟨a,vs,rfl,sq,r⟩:=h;cases e with
  |tup es=>
   simp only[AW]at q;obtain⟨b,us,z,c,f⟩:=q;cases z;have:=I.Je sq c;subst this;rw[aO.inj I r f]
  |lst es=>
   simp only[AW]at q;obtain⟨b,us,z,c,f⟩:=q;cases z;exact(Am (Dj I sq) (Dk I c.sq) (by decide)).elim
  |emp=>
   simp only[AW]at q;obtain⟨b,o,z,c⟩:=q;cases z;exact(Am (Dj I sq) (oV I c) (by decide)).elim
  |str x=>simp only[AW]at q;have z:=q.1;cases z
  |_=>simp only[AW]at q;cases q
 |.lst ds,e,v,h,q=>by
  simp only[AW]at h;obtain⟨a,vs,rfl,sq,r⟩:=h;cases e with
  |lst es=>
   simp only[AW]at q;obtain⟨b,us,z,c,f⟩:=q;cases z;have:=I.Nk sq.sq c.sq;subst this;rw[aO.inj I r f]
  |tup es=>
   simp only[AW]at q;obtain⟨b,us,z,c,f⟩:=q;cases z;exact(Am (Dk I sq.sq) (Dj I c) (by decide)).elim
  |emp=>
   simp only[AW]at q;obtain⟨b,o,z,c⟩:=q;cases z;exact(Am (Dk I sq.sq) (oV I c) (by decide)).elim
  |str x=>simp only[AW]at q;have z:=q.1;cases z
  |_=>simp only[AW]at q;cases q
 |.emp,e,v,h,q=>by
  simp only[AW]at h;obtain⟨a,o,rfl,sq⟩:=h;cases e with
  |emp=>rfl
  |tup es=>
   simp only[AW]at q;obtain⟨b,us,z,c,f⟩:=q;cases z;exact(Am (oV I sq) (Dj I c) (by decide)).elim
  |lst es=>
   simp only[AW]at q;obtain⟨b,us,z,c,f⟩:=q;cases z;exact(Am (oV I sq) (Dk I c.sq) (by decide)).elim
  |str x=>simp only[AW]at q;have z:=q.1;cases z
  |_=>simp only[AW]at q;cases q
theorem aO.inj(I:L2.AU X AN σ H s):∀{ds es:Y Dt} {vs:Y V},aO X.K H ds vs->aO X.K H es vs->ds=es
 |[],es,vs,h,q=>by
  simp only[aO]at h;subst h;cases es with
  |nil=>rfl
  |cons e es=>simp only[aO]at q;obtain⟨_,_,z,_⟩:=q;cases z
 |d::ds,es,vs,h,q=>by
  simp only[aO]at h;obtain⟨v,r,rfl,h1,h2⟩:=h;cases es with
  |nil=>simp only[aO]at q;cases q
  |cons e es=>
   simp only[aO]at q;obtain⟨a,b,z,q1,q2⟩:=q;cases z;rw[AW.inj I h1 q1,aO.inj I h2 q2]
end
theorem MI(I:L2.AU X AN σ H s):∀(n:Nat) {A:A5} {d e:Dt} {x y:V} {u v:A0} {k:Bool},min (vX d) (vX e)<=n->A.units+n<cLine->AW X.K H d x->AW X.K H e y->As x u->As y v->yQ d e=Z k->EqAt A s u v k:=by
 intro n
 induction n with
 |zero=>
  intro A d e x y u v k N;have h1:1<=vX d:=by cases d<;>simp only[vX]<;>omega
  have h2:1<=vX e:=by cases e<;>simp only[vX]<;>omega
  omega
 |succ n ih=>
  intro A d e x y u v k N hA m c w g ek;have h:A.units<cLine:=by omega
  by_cases G:u=v/\∃a,u=.ref a
  ·obtain⟨rfl,a,rfl⟩:=G;have hx:x=.ref a:=by have:=w.abs;simpa[GO]using this.symm
   have hy:y=.ref a:=by have:=g.abs;simpa[GO]using this.symm
   subst hx hy;have:=AW.inj I m c;subst this;rw[Ob ek];exact EqAt.same _
  ·have items:∀{ds es:Y Dt} {vs us:Y V} {AQ l:Y A0} {f:Nat->Bool},min (uW ds) (uW es)<=n->aO X.K H ds vs->aO X.K H es us->AX vs AQ->AX us l->(∀(j:Nat) x y,ds[j]?=Z x->es[j]?=Z y->yQ x y=Z (f j)) →
     ∀j (h1:j<AQ.toArray.size) (h2:j<l.toArray.size),EqAt A.in1 s AQ.toArray[j] l.toArray[j] (f j):=by
    intro ds es vs us AQ l f hm r1 W w1 w2 E j h1 h2;have l1:=w1.length;have l2:=w2.length;have l3:=r1.length;have l4:=W.length;have j1:j<AQ.length:=by simpa using h1
    have j2:j<l.length:=by simpa using h2
    have M:ds[j]?=Z ds[j]:=by simp
    have d2:es[j]?=Z es[j]:=by simp
    obtain⟨a,ea,C⟩:=r1.get M;obtain⟨b,eb,B⟩:=W.get d2;obtain⟨p,ep,rp⟩:=w1.get ea;obtain⟨q,eq,rq⟩:=w2.get eb;have e1:AQ.toArray[j]=p:=by simpa[j1]using ep
    have e2:l.toArray[j]=q:=by simpa[j2]using eq
    rw[e1,e2];have m1:=uY M;have m2:=uY d2;exact ih (by omega) (by rw[units_in1];omega) C B rp rq (E j _ _ M d2)
   cases d with
   |non=>
    cases m;cases w;cases e with
    |non=>cases c;cases g;cases ek;exact EqAt.same _
    |bl b=>cases c;cases g;cases ek;exact EqAt.none_bool b
    |int b=>cases c;obtain⟨t,rfl⟩:=g;cases ek;exact EqAt.none_int b t
    |str b=>obtain⟨rfl,_⟩:=c;obtain⟨t,rfl⟩:=g;cases ek;exact EqAt.none_str b t
    |tup es=>obtain⟨b,us,rfl,sq,_⟩:=c;cases g;cases ek;obtain⟨_,_,p,_⟩:=I.tuple sq;exact EqAt.none_tuple p h
    |lst es=>obtain⟨b,us,rfl,sq,_⟩:=c;cases g;cases ek;obtain⟨_,_,p,_⟩:=I.list sq.sq;exact EqAt.none_list p.isList h
    |emp=>cases ek
   |bl a=>
    cases m;cases w;cases e with
    |non=>cases c;cases g;cases ek;exact EqAt.bool_none a
    |bl b=>cases c;cases g;cases ek;exact EqAt.bool_bool a b
    |int b=>cases c;obtain⟨t,rfl⟩:=g;cases ek;exact EqAt.bool_int a b t
    |str b=>obtain⟨rfl,_⟩:=c;obtain⟨t,rfl⟩:=g;cases ek;exact EqAt.bool_str a b t
    |tup es=>obtain⟨b,us,rfl,sq,_⟩:=c;cases g;cases ek;obtain⟨_,_,p,_⟩:=I.tuple sq;exact EqAt.bool_tuple a p h
    |lst es=>obtain⟨b,us,rfl,sq,_⟩:=c;cases g;cases ek;obtain⟨_,_,p,_⟩:=I.list sq.sq;exact EqAt.bool_list a p.isList h
    |emp=>cases ek
   |int a=>
    cases m;obtain⟨i,rfl⟩:=w;cases e with
    |non=>cases c;cases g;cases ek;exact EqAt.int_none a i
    |bl b=>cases c;cases g;cases ek;exact EqAt.int_bool a i b
    |int b=>cases c;obtain⟨t,rfl⟩:=g;cases ek;exact EqAt.int_int a i b t
    |str b=>obtain⟨rfl,_⟩:=c;obtain⟨t,rfl⟩:=g;cases ek;exact EqAt.int_str a i b t
    |tup es=>obtain⟨b,us,rfl,sq,_⟩:=c;cases g;cases ek;obtain⟨_,_,p,_⟩:=I.tuple sq;exact EqAt.int_tuple a i p h
    |lst es=>obtain⟨b,us,rfl,sq,_⟩:=c;cases g;cases ek;obtain⟨_,_,p,_⟩:=I.list sq.sq;exact EqAt.int_list a i p.isList h
    |emp=>cases ek
   |str a=>
    obtain⟨rfl,_⟩:=m;obtain⟨i,rfl⟩:=w;cases e with
    |non=>cases c;cases g;cases ek;exact EqAt.str_none a i
    |bl b=>cases c;cases g;cases ek;exact EqAt.str_bool a i b
    |int b=>cases c;obtain⟨t,rfl⟩:=g;cases ek;exact EqAt.str_int a i b t
    |str b=>obtain⟨rfl,_⟩:=c;obtain⟨t,rfl⟩:=g;cases ek;exact EqAt.str_str a i b t
    |tup es=>obtain⟨b,us,rfl,sq,_⟩:=c;cases g;cases ek;obtain⟨_,_,p,_⟩:=I.tuple sq;exact EqAt.str_tuple a i p h
    |lst es=>obtain⟨b,us,rfl,sq,_⟩:=c;cases g;cases ek;obtain⟨_,_,p,_⟩:=I.list sq.sq;exact EqAt.str_list a i p.isList h
    |emp=>
     simp only[AW]at c;obtain⟨p,o,rfl,e⟩:=c;cases g;cases ek;obtain⟨_,_,vs,r,q⟩:=ux I.hok (.inr ⟨o,e⟩);exact V6 a i (yP Y3 r q) h
   |tup ds=>
    obtain⟨a,vs,rfl,Q,C⟩:=m;cases w;obtain⟨AQ,F,p,_⟩:=I.tuple Q;cases e with
    |non=>cases c;cases g;cases ek;exact EqAt.tuple_none p h
    |bl b=>cases c;cases g;cases ek;exact EqAt.tuple_bool b p h
    |int b=>cases c;obtain⟨t,rfl⟩:=g;cases ek;exact EqAt.tuple_int b t p h
    |str b=>obtain⟨rfl,_⟩:=c;obtain⟨t,rfl⟩:=g;cases ek;exact EqAt.tuple_str b t p h
    |lst es=>obtain⟨b,us,rfl,sq,_⟩:=c;cases g;cases ek;obtain⟨_,_,p2,_⟩:=I.list sq.sq;exact EqAt.tuple_list p p2.isList h
    |tup es=>
     obtain⟨b,us,rfl,P,B⟩:=c;cases g;obtain⟨l,D,p2,_⟩:=I.tuple P;change lQ _ _=Z _ at ek;obtain⟨f,E,rfl⟩:=uX ek;have L:a≠b:=λz=>G ⟨by rw[z],a,rfl⟩;have z:=EqAt.of_refs L (RcAt.tuples (A:=A) (e:=f) p p2 h (items (by simp only[vX]at N;omega) C B F D E));have q1:AQ.toArray.size=ds.length:=by rw[zC,<-F.length,C.length]
     have q2:l.toArray.size=es.length:=by rw[zC,<-D.length,B.length]
     rw[q1,q2]at z;exact z
    |emp=>cases ek
   |lst ds=>
    obtain⟨a,vs,rfl,Q,C⟩:=m;cases w;obtain⟨AQ,F,p,_⟩:=I.list Q.sq;cases e with
    |non=>cases c;cases g;cases ek;exact EqAt.list_none p.isList h
    |bl b=>cases c;cases g;cases ek;exact EqAt.list_bool b p.isList h
    |int b=>cases c;obtain⟨t,rfl⟩:=g;cases ek;exact EqAt.list_int b t p.isList h
    |str b=>obtain⟨rfl,_⟩:=c;obtain⟨t,rfl⟩:=g;cases ek;exact EqAt.list_str b t p.isList h
    |tup es=>obtain⟨b,us,rfl,sq,_⟩:=c;cases g;cases ek;obtain⟨_,_,p2,_⟩:=I.tuple sq;exact EqAt.list_tuple p.isList p2 h
    |lst es=>
     obtain⟨b,us,rfl,P,B⟩:=c;cases g;obtain⟨l,D,p2,_⟩:=I.list P.sq;change lQ _ _=Z _ at ek;obtain⟨f,E,rfl⟩:=uX ek;have L:a≠b:=λz=>G ⟨by rw[z],a,rfl⟩;have q1:AQ.toArray.size=ds.length:=by rw[zC,<-F.length,C.length]
     have q2:l.toArray.size=es.length:=by rw[zC,<-D.length,B.length]
     by_cases U:AQ.toArray.size=l.toArray.size
     ·have z:=EqAt.of_refs L (RcAt.lists (A:=A) (e:=f) p.isList p2.isList U h (items (by simp only[vX]at N;omega) C B F D E));have J:ds.length=es.length:=by omega
      rw[q1]at z;rw[J,Nat.min_self,beq_self_eq_true,k9,<-J];exact z
     ·have J:(ds.length==es.length)=false:=by rw[beq_eq_false_iff_ne];omega
      rw[J,KA];exact EqAt.of_refs L (RcAt.lists_lengths p.isList p2.isList (by simpa using U) h)
    |emp=>cases ek
   |emp=>
    cases e<;>first|(cases ek;done)|skip;simp only[AW]at m c;obtain⟨a,o,rfl,e1⟩:=m;obtain⟨b,o',rfl,e2⟩:=c;cases w;cases g;cases ek;obtain⟨_,m1,vs,r,q⟩:=ux I.hok (.inr ⟨o,e1⟩);obtain⟨_,m2,a0,r',q'⟩:=ux I.hok (.inr ⟨o',e2⟩);exact EqAt.of_refs (λz=>G ⟨by rw[z],a,rfl⟩) (MM m1 m2 (yP Y3 r q) (yP Y3 r' q') h)
theorem Oc(I:L2.AU X AN σ H s){es:Y Dt}{us:Y V}{c:Y A0}{f:Nat->Bool}(F:min (uW ds) (uW es)<=n)(C:A.units+n+1<cLine)(i:aO X.K H ds vs)(e:aO X.K H es us)(h:AX vs AQ)(g:AX us c)(l:∀(j:Nat) x y,ds[j]?=Z x->es[j]?=Z y->yQ x y=Z (f j)):∀j (h1:j<AQ.toArray.size) (h2:j<c.toArray.size),EqAt A.in1 s AQ.toArray[j] c.toArray[j] (f j):=by
 intro j h1 h2;have D:=h.length;have B:=g.length;have l3:=i.length;have E:=e.length;have t:j<AQ.length:=by simpa using h1
 have z:j<c.length:=by simpa using h2
 have d:ds[j]?=Z (ds[j]'(by omega)):=by simp
 have d2:es[j]?=Z (es[j]'(by omega)):=by simp
 obtain⟨a,ea,v⟩:=i.get d;obtain⟨b,eb,o⟩:=e.get d2;obtain⟨p,ep,u⟩:=h.get ea;obtain⟨q,m,w⟩:=g.get eb;have e1:AQ.toArray[j]=p:=by simpa[t]using ep
 have e2:c.toArray[j]=q:=by simpa[z]using m
 rw[e1,e2];have G:=uY d;have J:=uY d2;exact MI I n (by omega) (by rw[units_in1];omega) v o u w (l j _ _ d d2)
def fJ(K:B0)(H:Hp):Dt->V->Prop
 |.lst ds,v=>∃a vs,v=.ref a/\uP K H a vs/\aO K H ds vs
 |d,v=>AW K H d v
def jQ:Bx->Bool
 |.n _=>true
 |.m _ _=>true
 |_=>false
def toD:Bx->Dt
 |.z d=>d
 |.l ds=>.lst ds
 |.o ds=>.lst ds
 |.n _=>.non
 |.m _ _=>.non
theorem aW.toD(h:aW K H b v)(a:jQ b=false):fJ K H (toD b) v:=by
 cases b with
 |z d=>
  cases d with
  |lst ds=>exact h.Hj rfl
  |_=>exact h
 |l ds=>exact h.Hj rfl
 |o ds=>exact h.Hj rfl
 |n _=>cases a
 |m _ _=>cases a
theorem Ua(I:L2.AU X AN σ H s){e:Dt}{x y:V}{v:A0}{k:Bool}(P:min (vX d) (vX e)<=100)(hA:X.A.units+100<cLine)(z:fJ X.K H d x)(h:fJ X.K H e y)(B:As x u)(i:As y v)(ek:yQ d e=Z k):RcAt X.A s u v k/\RcNeAt X.A s u v (!k):=by
 have g:X.A.units<cLine:=by omega
 cases d with
 |non=>
  cases z;cases B;cases e with
  |non=>
   cases h;cases i;cases ek;exact⟨.none_none,.none_none⟩
  |bl c=>
   cases h;cases i;cases ek;exact⟨.none_bool c,.none_bool c⟩
  |int c=>
   cases h;obtain⟨t2,rfl⟩:=i;cases ek;exact⟨.none_int c t2,.none_int c t2⟩
  |str c=>
   obtain⟨rfl,_⟩:=h;obtain⟨t2,rfl⟩:=i;cases ek;exact⟨.none_str c t2,.none_str c t2⟩
  |tup c=>
   obtain⟨a2,w,rfl,j,l⟩:=h;cases i;obtain⟨t,m,p2,_⟩:=I.tuple j;cases ek;exact⟨.none_tuple p2 g,.none_tuple p2 g⟩
  |lst c=>
   obtain⟨a2,w,rfl,j,l⟩:=h;cases i;obtain⟨t,m,p2,_⟩:=I.list j;cases ek;exact⟨.none_list p2.isList g,.none_list p2.isList g⟩
  |emp=>cases ek
 |bl x1=>
  cases z;cases B;cases e with
  |non=>
   cases h;cases i;cases ek;exact⟨.bool_none x1,.bool_none x1⟩
  |bl c=>
   cases h;cases i;cases ek;exact⟨.bool_bool x1 c,.bool_bool x1 c⟩
  |int c=>
   cases h;obtain⟨t2,rfl⟩:=i;cases ek;exact⟨.bool_int x1 c t2,.bool_int x1 c t2⟩
  |str c=>
   obtain⟨rfl,_⟩:=h;obtain⟨t2,rfl⟩:=i;cases ek;exact⟨.bool_str x1 c t2,.bool_str x1 c t2⟩
  |tup c=>
   obtain⟨a2,w,rfl,j,l⟩:=h;cases i;obtain⟨t,m,p2,_⟩:=I.tuple j;cases ek;exact⟨.bool_tuple x1 p2 g,.bool_tuple x1 p2 g⟩
  |lst c=>
   obtain⟨a2,w,rfl,j,l⟩:=h;cases i;obtain⟨t,m,p2,_⟩:=I.list j;cases ek;exact⟨.bool_list x1 p2.isList g,.bool_list x1 p2.isList g⟩
  |emp=>cases ek
 |int x1=>
  cases z;obtain⟨t1,rfl⟩:=B;cases e with
  |non=>
   cases h;cases i;cases ek;exact⟨.int_none x1 t1,.int_none x1 t1⟩
  |bl c=>
   cases h;cases i;cases ek;exact⟨.int_bool x1 t1 c,.int_bool x1 t1 c⟩
  |int c=>
   cases h;obtain⟨t2,rfl⟩:=i;cases ek;exact⟨.int_int x1 t1 c t2,.int_int x1 t1 c t2⟩
  |str c=>
   obtain⟨rfl,_⟩:=h;obtain⟨t2,rfl⟩:=i;cases ek;exact⟨.int_str x1 t1 c t2,.int_str x1 t1 c t2⟩
  |tup c=>
   obtain⟨a2,w,rfl,j,l⟩:=h;cases i;obtain⟨t,m,p2,_⟩:=I.tuple j;cases ek;exact⟨.int_tuple x1 t1 p2 g,.int_tuple x1 t1 p2 g⟩
  |lst c=>
   obtain⟨a2,w,rfl,j,l⟩:=h;cases i;obtain⟨t,m,p2,_⟩:=I.list j;cases ek;exact⟨.int_list x1 t1 p2.isList g,.int_list x1 t1 p2.isList g⟩
  |emp=>cases ek
 |str x1=>
  obtain⟨rfl,_⟩:=z;obtain⟨t1,rfl⟩:=B;cases e with
  |non=>
   cases h;cases i;cases ek;exact⟨.str_none x1 t1,.str_none x1 t1⟩
  |bl c=>
   cases h;cases i;cases ek;exact⟨.str_bool x1 t1 c,.str_bool x1 t1 c⟩
  |int c=>
   cases h;obtain⟨t2,rfl⟩:=i;cases ek;exact⟨.str_int x1 t1 c t2,.str_int x1 t1 c t2⟩
  |str c=>
   obtain⟨rfl,_⟩:=h;obtain⟨t2,rfl⟩:=i;cases ek;exact⟨.str_str x1 t1 c t2,.str_str x1 t1 c t2⟩
  |tup c=>
   obtain⟨a2,w,rfl,j,l⟩:=h;cases i;obtain⟨t,m,p2,_⟩:=I.tuple j;cases ek;exact⟨.str_tuple x1 t1 p2 g,.str_tuple x1 t1 p2 g⟩
  |lst c=>
   obtain⟨a2,w,rfl,j,l⟩:=h;cases i;obtain⟨t,m,p2,_⟩:=I.list j;cases ek;exact⟨.str_list x1 t1 p2.isList g,.str_list x1 t1 p2.isList g⟩
  |emp=>
   simp only[fJ,AW]at h;obtain⟨p,o,rfl,e⟩:=h;cases i;cases ek;obtain⟨_,_,vs,r,q⟩:=ux I.hok (.inr ⟨o,e⟩);exact⟨Jr x1 t1 (yP Y3 r q) g,V5 x1 t1 (yP Y3 r q) g⟩
 |tup x1=>
  obtain⟨a1,W,rfl,L,C⟩:=z;cases B;obtain⟨G,D,p1,_⟩:=I.tuple L;cases e with
  |non=>
   cases h;cases i;cases ek;exact⟨.tuple_none p1 g,.tuple_none p1 g⟩
  |bl c=>
   cases h;cases i;cases ek;exact⟨.tuple_bool c p1 g,.tuple_bool c p1 g⟩
  |int c=>
   cases h;obtain⟨t2,rfl⟩:=i;cases ek;exact⟨.tuple_int c t2 p1 g,.tuple_int c t2 p1 g⟩
  |str c=>
   obtain⟨rfl,_⟩:=h;obtain⟨t2,rfl⟩:=i;cases ek;exact⟨.tuple_str c t2 p1 g,.tuple_str c t2 p1 g⟩
  |tup c=>
   obtain⟨a2,w,rfl,j,l⟩:=h;cases i;obtain⟨t,m,p2,_⟩:=I.tuple j;change lQ _ _=Z _ at ek;obtain⟨f,J,rfl⟩:=uX ek;have q1:G.toArray.size=x1.length:=by rw[zC,<-D.length,C.length]
   have q2:t.toArray.size=c.length:=by rw[zC,<-m.length,l.length]
   have it:=Oc I (n:=99) (A:=X.A) (by simp only[vX]at P;omega) (by omega) C l D m J;rw[<-q1,<-q2];exact⟨.tuples p1 p2 g it,.tuples p1 p2 g it⟩
  |lst c=>
   obtain⟨a2,w,rfl,j,l⟩:=h;cases i;obtain⟨t,m,p2,_⟩:=I.list j;cases ek;exact⟨.tuple_list p1 p2.isList g,.tuple_list p1 p2.isList g⟩
  |emp=>cases ek
 |lst x1=>
  obtain⟨a1,W,rfl,L,C⟩:=z;cases B;obtain⟨G,D,p1,_⟩:=I.list L;cases e with
  |non=>
   cases h;cases i;cases ek;exact⟨.list_none p1.isList g,.list_none p1.isList g⟩
  |bl c=>
   cases h;cases i;cases ek;exact⟨.list_bool c p1.isList g,.list_bool c p1.isList g⟩
  |int c=>
   cases h;obtain⟨t2,rfl⟩:=i;cases ek;exact⟨.list_int c t2 p1.isList g,.list_int c t2 p1.isList g⟩
  |str c=>
   obtain⟨rfl,_⟩:=h;obtain⟨t2,rfl⟩:=i;cases ek;exact⟨.list_str c t2 p1.isList g,.list_str c t2 p1.isList g⟩
  |tup c=>
   obtain⟨a2,w,rfl,j,l⟩:=h;cases i;obtain⟨t,m,p2,_⟩:=I.tuple j;cases ek;exact⟨.list_tuple p1.isList p2 g,.list_tuple p1.isList p2 g⟩
  |lst c=>
   obtain⟨a2,w,rfl,j,l⟩:=h;cases i;obtain⟨t,m,p2,_⟩:=I.list j;change lQ _ _=Z _ at ek;obtain⟨f,J,rfl⟩:=uX ek;have q1:G.toArray.size=x1.length:=by rw[zC,<-D.length,C.length]
   have q2:t.toArray.size=c.length:=by rw[zC,<-m.length,l.length]
   have it:=Oc I (n:=99) (A:=X.A) (by simp only[vX]at P;omega) (by omega) C l D m J;by_cases E:G.toArray.size=t.toArray.size
   ·have F:x1.length=c.length:=by omega
    rw[F,Nat.min_self,beq_self_eq_true,k9,<-F,<-q1];exact⟨.lists p1.isList p2.isList E g it,.lists p1.isList p2.isList E g it⟩
   ·have F:(x1.length==c.length)=false:=by rw[beq_eq_false_iff_ne];omega
    rw[F,KA];exact⟨.lists_lengths p1.isList p2.isList (by simpa using E) g,.lists_lengths p1.isList p2.isList (by simpa using E) g⟩
  |emp=>cases ek
 |emp=>
  cases e<;>first|(cases ek;done)|skip;simp only[fJ,AW]at z h;obtain⟨a,o,rfl,e1⟩:=z;obtain⟨b,o',rfl,e2⟩:=h;cases B;cases i;cases ek;obtain⟨_,Q,vs,r,q⟩:=ux I.hok (.inr ⟨o,e1⟩);obtain⟨_,U,a0,N,M⟩:=ux I.hok (.inr ⟨o',e2⟩);exact⟨MM Q U (yP Y3 r q) (yP Y3 N M) g,X2 Q U (yP Y3 r q) (yP Y3 N M) g⟩
def BQ(a b:Bx):S Bx:=if jQ a=true\/jQ b=true then O else if min (vX (toD a)) (vX (toD b))<=100 then(yQ (toD a) (toD b)).bind λk=>Z (.z (.bl k))else O
def KD(a b:Bx):S Bx:=if jQ a=true\/jQ b=true then O else if min (vX (toD a)) (vX (toD b))<=100 then(yQ (toD a) (toD b)).bind λk=>Z (.z (.bl (!k)))else O
theorem of_eq(m:X.A.units+100<cLine):Cq X (AG .Eq) BQ:=by
 intro AN s σ H x y v u Q I l i h;obtain⟨a,b,c,n,f,e,q⟩:=h;unfold BQ at e;split at e
 ·cases e
 rename_i d;have g:jQ a=false:=by cases h:jQ a with|false=>rfl|true=>exact absurd (.inl h) d
 have hb:jQ b=false:=by cases h:jQ b with|false=>rfl|true=>exact absurd (.inr h) d
 split at e
 ·rename_i j;obtain⟨k,ek,e⟩:=AT e;cases e;exact(Ua I j m (n.toD g) (f.toD hb) l i ek).1 X.prog X.w X.xe _ ⟨.bl k,H,I,rfl,q _ H (AV.refl H) trivial (by unfold aW AW;rfl)⟩
 ·cases e
theorem uZ(m:X.A.units+100<cLine):Cq X (AG .NotEq) KD:=by
 intro AN s σ H x y v u Q I l i h;obtain⟨a,b,c,n,f,e,q⟩:=h;unfold KD at e;split at e
 ·cases e
 rename_i d;have g:jQ a=false:=by cases h:jQ a with|false=>rfl|true=>exact absurd (.inl h) d
 have hb:jQ b=false:=by cases h:jQ b with|false=>rfl|true=>exact absurd (.inr h) d
 split at e
 ·rename_i j;obtain⟨k,ek,e⟩:=AT e;cases e;exact(Ua I j m (n.toD g) (f.toD hb) l i ek).2 X.prog X.w X.xe _ ⟨.bl (!k),H,I,rfl,q _ H (AV.refl H) trivial (by unfold aW AW;rfl)⟩
 ·cases e
theorem Cu{i:Int}:aW K H (.z (.int i)) (.int i):=by unfold aW AW;rfl
theorem Hz{b:Bool}:aW K H (.z (.bl b)) (.bl b):=by unfold aW AW;rfl
theorem FM(h:x.length<=AA):aW K H (.z (.str x)) (.str x):=by unfold aW AW;exact⟨rfl,h⟩
theorem KH{i:Int}(h:aW K H (.z (.int i)) v):v=.int i:=by simpa only[aW,AW]using h
theorem V7(h:aW K H (.z (.str x)) v):v=.str x/\x.length<=AA:=by simpa only[aW,AW]using h
theorem Fn(h:aW K H (.z (.tup ds)) v):∃a vs,v=.ref a/\z9 K H a vs/\aO K H ds vs:=by simpa only[aW,AW]using h
def i2(g:Int->Int->S Dt):Bx->Bx->S Bx
 |.z (.int i),.z (.int j)=>(g i j).bind λd=>Z (.z d)
 |_,_=>O
theorem Em{f:A0->A0->Sem A0}{r:R2}{g:Int->Int->S Dt}(ho:vR X f r)(h:∀i j d H Q,g i j=Z d->(∀v,AW X.K H d v->Q v H)->r (.int i) (.int j) H Q):Cq X f (i2 g):=vR.imp ho λx y H Q q=>by
 obtain⟨a,b,c,o,m,e,q⟩:=q;unfold i2 at e;split at e
 ·rename_i i j;obtain⟨d,n,e⟩:=AT e;cases e;rw[KH o,KH m];exact h i j d H Q n λv l=>q v H (AV.refl H) trivial l
 ·cases e
theorem FE{i:Int}:AW K H (.int i) (.int i):=by unfold AW;rfl
theorem EM{b:Bool}:AW K H (.bl b) (.bl b):=by unfold AW;rfl
abbrev C8:=i2 λi j=>Z (.int (i-j))
abbrev EI:=i2 λi j=>Z (.bl (decide (i<=j)))
abbrev FO:=i2 λi j=>Z (.bl (decide (j<i)))
abbrev FV:=i2 λi j=>Z (.bl (decide (j<=i)))
abbrev Od:=i2 λi j=>if 0<j/\j<1073741824 then Z (.int (i / j))else O
abbrev j9:=i2 λi j=>if 0<j then Z (.int (i%j))else O
abbrev HG:=i2 λi j=>if 0<=j/\j<=1000/\i.natAbs<2 ^ 64 then Z (.int (i ^ j.toNat))else O
theorem KJ:Cq X (binaryOp .Sub) C8:=Em S2 λi j d H Q e q=>by cases e;exact⟨i,j,rfl,rfl,q _ FE⟩
theorem CB:Cq X (AG .LtE) EI:=Em R' λi j d H Q e q=>by cases e;exact⟨i,j,rfl,rfl,q _ EM⟩
theorem ID:Cq X (AG .Gt) FO:=Em XE λi j d H Q e q=>by cases e;exact⟨i,j,rfl,rfl,q _ EM⟩
theorem Lc:Cq X (AG .GtE) FV:=Em VA λi j d H Q e q=>by cases e;exact⟨i,j,rfl,rfl,q _ EM⟩
theorem KN:Cq X (binaryOp .FloorDiv) Od:=Em YN λi j d H Q e q=>by
 split at e
 ·rename_i h;cases e;exact⟨i,j,rfl,rfl,h,q _ FE⟩
 ·cases e
theorem d7:Cq X (binaryOp .Mod) j9:=Em aw λi j d H Q e q=>by
 split at e
 ·rename_i h;cases e;exact⟨i,j,rfl,rfl,h,q _ FE⟩
 ·cases e
theorem Ta:Cq X (binaryOp .Pow) HG:=Em NH λi j d H Q e q=>by
 split at e
 ·rename_i h;cases e;exact⟨i,j,rfl,rfl,⟨h.1,by omega,h.2.2⟩,q _ FE⟩
 ·cases e
def Yx:Bx->S Bx
 |.z (.int i)=>Z (.z (.int (-i)))
 |_=>O
theorem Xs:LV X (unaryOp .USub) Yx:=DF.imp Pp λx H Q q=>by
 obtain⟨a,c,b,e,q⟩:=q;unfold Yx at e;split at e
 ·rename_i i;cases e;exact⟨i,KH b,q _ H (AV.refl H) trivial Cu⟩
 ·cases e
def V8:Nat:=1000000
theorem SU:V8<=AA:=by decide
theorem NL{l b:A1}{us:Y V}{Q:VK}(I:L2.AU X AN σ H s)(m:uP X.K H l vs)(hb:uP X.K H b us)(j:vs.length+us.length<=AA)(q:∀p,H p=O->Q (.ref p) (B6 H p (.lst (vs++us)))):
  A7 (A8 X.prog X.w) X.A (binaryOp .Add (.ref l) (.ref b)) (EP X AN σ Q) X.xe s:=by
 obtain⟨AQ,g,⟨⟨D,y,v,sl⟩,i,e1,c1,c,h⟩,z1⟩:=I.list m;obtain⟨a,f,⟨⟨cls2,u,B,n⟩,t,e2,c2,d2,d⟩,z2⟩:=I.list hb;simp only at c1 c h c2 d2 d;subst c1 c h c2 d2 d;have z:=g.length;have x:=f.length;have e:AQ.toArray++a.toArray=(AQ++a).toArray:=by simp
 refine concat_meets ⟨_,e1,rfl⟩ ⟨_,e2,rfl⟩ noFill_list_add seq_list_add PySem.F.slot_list_add PySem.F.entry_list_add (PySem.F.args_list_add_2 _ _) (list_addW l b AQ.toArray a.toArray i t O O sl n (by rw[zC,zC];omega)) ⟨e1,e2,?_⟩;rw[e];exact⟨.ref s.heap.objs.size,_,I.laid (t':=s.toks) (o:=.lst (vs++us)) (λb C q=>zd _ q) (zk _) ⟨by rw[zD];exact j,_,0,g.append f,zv _ rfl⟩,rfl,q _ (I.hok.fresh (zk _))⟩
theorem UE{l b:A1}{us:Y V}{Q:VK}(I:L2.AU X AN σ H s)(c:z9 X.K H l vs)(hb:z9 X.K H b us)(h:vs.length+us.length<=AA)(g:vs=[]->Q (.ref b) H)(q1:us=[]->Q (.ref l) H)(q2:∀p,H p=O->Q (.ref p) (B6 H p (.tup (vs++us)))):
  A7 (A8 X.prog X.w) X.A (binaryOp .Add (.ref l) (.ref b)) (EP X AN σ Q) X.xe s:=by
 by_cases a:vs=[]
 ·obtain⟨AQ,q,⟨⟨u,o,t,sl⟩,e1,c1,i,e⟩,z1⟩:=I.tuple c;obtain⟨j,v,⟨⟨cls2,f,x,m⟩,e2,c2,n,d⟩,z2⟩:=I.tuple hb;simp only at c1 e c2 d;subst c1 e c2 d;have:AQ=[]:=q.Dc.mpr a;exact concat_meets ⟨_,e1,rfl⟩ ⟨_,e2,rfl⟩ noFill_tuple_add seq_tuple_add PySem.F.slot_tuple_add yf (K0 _ _)
   (tuple_addW0 l b AQ.toArray j.toArray i n o f sl m (by simp[this])) ⟨e1,e2,⟨.ref b,H,I,rfl,g a⟩⟩
 ·exact Tx AN s σ H (.ref l) (.ref b) (.ref l) (.ref b) Q I Y3 Y3 ⟨l,b,vs,us,rfl,rfl,c,hb,a,h,q1,λ_=>q2⟩
def jf:Bx->Bx->S Bx
 |.z (.int i),.z (.int j)=>Z (.z (.int (i+j)))
 |.z (.str i),.z (.str j)=>if i.length+j.length<=V8 then Z (.z (.str (i++j)))else O
 |.z (.tup xs),.z (.tup ys)=>if xs.length+ys.length<=V8 then Z (.z (.tup (xs++ys)))else O
 |a,b=>(qz a).bind λxs=>(qz b).bind λys=>if xs.length+ys.length<=V8 then Z (.o (xs++ys))else O
theorem D6(i j:AJ):(i++j).length=i.length+j.length:=by
 show(i.cps++j.cps).size=_;rw[kX];rfl
theorem fB:Cq X (binaryOp .Add) jf:=by
 intro AN s σ H x y v u Q I t o h;obtain⟨a,b,c,w,n,e,q⟩:=h;have B:=SU;unfold jf at e;split at e
 ·rename_i i j;cases e;exact Os AN s σ H x y v u Q I t o ⟨i,j,KH w,KH n,q _ H (AV.refl H) trivial Cu⟩
 ·rename_i i j;split at e
  ·rename_i A;cases e;exact QZ AN s σ H x y v u Q I t o ⟨i,j,(V7 w).1,(V7 n).1,by omega,q _ H (AV.refl H) trivial (FM (by rw[D6];omega))⟩
  ·cases e
 ·rename_i xs ys;split at e
  ·rename_i A;cases e;obtain⟨l,vs,rfl,sl,d⟩:=Fn w;obtain⟨m,us,rfl,g,f⟩:=Fn n;cases t;cases o;have h1:=d.length;have h2:=f.length;refine UE I sl g (by omega) (λz=>q _ H (AV.refl H) trivial ?_) (λz=>q _ H (AV.refl H) trivial ?_) λp hp=>q _ _ (bU hp) trivial ?_
   ·unfold aW AW;refine⟨m,us,rfl,g,?_⟩;have:xs=[]:=by subst z;exact List.eq_nil_of_length_eq_zero (by simpa using h1.symm)
    rw[this,Jn];exact f
   ·unfold aW AW;refine⟨l,vs,rfl,sl,?_⟩;have:ys=[]:=by subst z;exact List.eq_nil_of_length_eq_zero (by simpa using h2.symm)
    rw[this,ZO];exact d
   ·unfold aW AW;exact⟨p,_,rfl,.inl (.inl bJ),(d.append f).kp (.of (bU hp))⟩
  ·cases e
 ·obtain⟨xs,ea,e⟩:=AT e;obtain⟨ys,eb,e⟩:=AT e;split at e
  ·rename_i A;cases e;obtain⟨l,vs,rfl,sl,d⟩:=w.Hj ea;obtain⟨m,us,rfl,g,f⟩:=n.Hj eb;cases t;cases o;have h1:=d.length;have h2:=f.length;refine NL I sl g (by omega) λp hp=>q _ _ (bU hp) (λa ea=>by cases ea;exact hp) ⟨p,_,rfl,bJ,(d.append f).kp (.of (bU hp))⟩
  ·cases e
def yR:Bx->Bx->S Bx
 |.z (.int i),.z (.int j)=>if(-(2 ^ 64)<i/\i<2 ^ 64)\/(-(2 ^ 64)<j/\j<2 ^ 64)then Z (.z (.int (i*j)))else O
 |.z (.str x),.z (.int n)=>if n<=1000 ∧ -1000<=n/\x.length<=1000 then Z (.z (.str (Txt.mul x n)))else O
 |_,_=>O
theorem wR(x:Array Nat):∀(n:Nat) (a:Array Nat),((List.replicate n x).foldl (·++·) a).size=a.size+n*x.size
 |0,a=>by simp
 |n+1,a=>by
  rw[qr,qi,wR x n,kX,Nat.succ_mul];omega
theorem KQ(x:AJ)(n:Int):(Txt.mul x n).length<=n.toNat*x.length+x.length:=by
 unfold Txt.mul;split
 ·exact QO _
 ·split
  ·exact Nat.le_add_left _ _
  ·show((List.replicate n.toNat x.cps).foldl (·++·) #[]).size<=_;rw[wR];show(#[]:Array Nat).size+n.toNat*x.cps.size<=n.toNat*x.cps.size+x.cps.size;simp
theorem u0:Cq X (binaryOp .Mult) yR:=by
 intro AN s σ H x y v u Q I m l h;obtain⟨a,b,c,o,g,e,q⟩:=h;unfold yR at e;split at e
 ·rename_i i j;split at e
  ·rename_i d;cases e;exact WB AN s σ H x y v u Q I m l ⟨i,j,KH o,KH g,d,q _ H (AV.refl H) trivial Cu⟩
  ·cases e
 ·rename_i f n;split at e
  ·rename_i d;cases e;obtain⟨rfl,hx⟩:=V7 o;have p:=KH g;subst p;obtain⟨t,rfl⟩:=m;obtain⟨w,rfl⟩:=l;have hs:AA=16777216:=sizeLine_eq;have A:n.toNat*f.length<=1000*1000:=Nat.mul_le_mul (by omega) d.2.2;refine SB.mul ⟨?_,λh1 h2=>?_,λh1 h2=>?_⟩ λw k=>⟨.str _,H,I.tok _,⟨_,rfl⟩,q _ H (AV.refl H) trivial (FM (ZE (KQ f n) (by omega)))⟩
   ·have e1:decide (n < -(2 ^ 63:Int))=false:=Zp (by omega);have e2:decide (n>=2 ^ 63)=false:=Zp (by omega);rw[e1,e2];rfl
   ·have z:0<n:=by omega
    have:(1000:Int)<=(2 ^ 63-1) / n:=(Int.le_ediv_iff_mul_le z).mpr (by omega);omega
   ·show decide (f.length*n.toNat>AA)=false;rw[Nat.mul_comm];exact Zp (by omega)
  ·cases e
 ·cases e
def Js(i j:AJ):Bool:=!(Builtin.Str.occurrences j i 0 j.length 1).isEmpty
def yS:Dt->Bool
 |.non=>true
 |.bl _=>true
 |.int _=>true
 |.str _=>true
 |_=>false
def EQ(x:Dt)(ys:Y Dt):S Bool:=if yS x=true/\ys.all yS=true then Z (ys.any λy=>match yQ y x with|some true=>true|_=>false)else O
def u5:Bx->S (Y Dt)
 |.z (.lst ds)=>Z ds
 |.z (.tup ds)=>Z ds
 |.l ds=>Z ds
 |.o ds=>Z ds
 |_=>O
def G0:Bx->Bx->S Bool
 |.z (.str i),.z (.str j)=>Z (Js i j)
 |.z d,b=>(u5 b).bind λys=>EQ d ys
 |_,_=>O
def Fs(a b:Bx):S Bx:=(G0 a b).bind λk=>Z (.z (.bl k))
theorem Oe(r:AW K H d v)(f:yS d=true):uw v=true:=by
 cases d<;>first|(cases f;done)|skip
 all_goals simp only[AW]at r
 ·subst r;rfl
 ·subst r;rfl
 ·subst r;rfl
 ·obtain⟨rfl,_⟩:=r;rfl
theorem Jt{K:B0}{H:Hp}:∀{ds:Y Dt} {vs:Y V},aO K H ds vs->ds.all yS=true->vs.all uw=true
 |[],_,h,_=>by simp only[aO]at h;subst h;rfl
 |d::ds,_,h,f=>by
  simp only[aO]at h;obtain⟨v,r,rfl,h1,h2⟩:=h;rw[kz,ZH]at f;rw[kz,Oe h1 f.1,Jt h2 f.2];rfl
theorem KR(b:Bool):(match Z b with|some true=>true|_=>false)=b:=by cases b<;>rfl
theorem dC{e:Dt}{x y:V}(a:AW K H d x)(b:AW K H e y)(fd:yS d=true)(fe:yS e=true):C' x y=(match yQ d e with|some true=>true|_=>false):=by
 cases d<;>first|(cases fd;done)|skip
 all_goals (cases e<;>first|(cases fe;done)|skip)
 all_goals simp only[AW]at a b
 all_goals first
  |(subst a;subst b;exact(KR _).symm)
  |(obtain⟨rfl,_⟩:=a;subst b;exact(KR _).symm)
  |(subst a;obtain⟨rfl,_⟩:=b;exact(KR _).symm)
  |(obtain⟨rfl,_⟩:=a;obtain⟨rfl,_⟩:=b;exact(KR _).symm)
theorem Ub{K:B0}{H:Hp}{d:Dt}{x:V}(a:AW K H d x)(fd:yS d=true):∀{ds:Y Dt} {vs:Y V},aO K H ds vs->ds.all yS=true->Fk x vs=ds.any λy=>match yQ y d with|some true=>true|_=>false
 |[],_,h,_=>by simp only[aO]at h;subst h;rfl
 |e::ds,_,h,f=>by
  simp only[aO]at h;obtain⟨v,r,rfl,h1,h2⟩:=h;rw[kz,ZH]at f;have:=Ub a fd h2 f.2;unfold Fk at this ⊢;rw[JY,JY,dC h1 a f.1 fd,this]
theorem yU(h:aW K H b v)(e:u5 b=Z ds):∃a vs,v=.ref a/\(uP K H a vs\/z9 K H a vs)/\aO K H ds vs:=by
 cases b with
 |z d=>
  cases d<;>first|(cases e;done)|skip
  ·cases e;obtain⟨a,vs,e,q,r⟩:=Fn h;exact⟨a,vs,e,.inr q,r⟩
  ·cases e;obtain⟨a,vs,e,q,r⟩:=h.Hj rfl;exact⟨a,vs,e,.inl q,r⟩
 |l c=>
  cases e;obtain⟨a,vs,e,q,r⟩:=h.Hj rfl;exact⟨a,vs,e,.inl q,r⟩
 |o c=>
  cases e;obtain⟨a,vs,e,q,r⟩:=h.Hj rfl;exact⟨a,vs,e,.inl q,r⟩
 |n _=>cases e
 |m _ _=>cases e
theorem V9{a:Bx}{x y:V}{k:Bool}(g:aW X.K H a x)(f:aW X.K H b y)(e:G0 a b=Z k):
  (∃i j,x=.str i/\y=.str j/\k=Js i j)\/(∃p xs,y=.ref p/\(uP X.K H p xs\/z9 X.K H p xs)/\uw x=true/\xs.all uw=true/\k=Fk x xs):=by
 unfold G0 at e;split at e
 ·rename_i i j;cases e;exact .inl ⟨i,j,(V7 g).1,(V7 f).1,rfl⟩
 ·rename_i d _;obtain⟨ys,l,e⟩:=AT e;unfold EQ at e;split at e
  ·rename_i c;cases e;obtain⟨p,vs,rfl,sq,rs⟩:=yU f l;have h:AW X.K H d x:=g;exact .inr ⟨p,vs,rfl,sq,Oe h c.1,Jt rs c.2,(Ub h c.1 rs c.2).symm⟩
  ·cases e
 ·cases e
theorem V':Cq X (AG .In) Fs:=by
 intro AN s σ H x y v u Q I d f h;obtain⟨a,b,c,l,g,e,q⟩:=h;obtain⟨k,ek,e⟩:=AT e;cases e;rcases V9 l g ek with⟨i,j,rfl,rfl,rfl⟩|⟨p,xs,rfl,sq,f1,f2,rfl⟩
 ·exact VD AN s σ H _ _ v u Q I d f ⟨i,j,rfl,rfl,q _ H (AV.refl H) trivial Hz⟩
 ·exact VJ AN s σ H _ _ v u Q I d f ⟨p,xs,rfl,sq,f1,f2,q _ H (AV.refl H) trivial Hz⟩
def Eo:Bx->Bool
 |.z .non=>true
 |_=>false
theorem Ju(h:aW K H b v):decide (v=.non)=Eo b:=by
 cases b with
 |z d=>
  cases d<;>simp only[aW,AW]at h
  ·subst h;rfl
  ·subst h;rfl
  ·subst h;rfl
  ·obtain⟨rfl,_⟩:=h;rfl
  ·obtain⟨_,_,rfl,_⟩:=h;rfl
  ·obtain⟨_,_,rfl,_⟩:=h;rfl
  ·obtain⟨_,_,rfl,_⟩:=h;rfl
 |l ds=>obtain⟨_,_,rfl,_⟩:=h;rfl
 |o ds=>obtain⟨_,_,rfl,_⟩:=h;rfl
 |n ds=>obtain⟨_,_,rfl,_⟩:=h;rfl
 |m ds _=>obtain⟨_,_,rfl,_⟩:=h;rfl
def EW(a:Bx):Bx->S Bx
 |.z .non=>Z (.z (.bl (Eo a)))
 |_=>O
def yV(a:Bx):Bx->S Bx
 |.z .non=>Z (.z (.bl (!Eo a)))
 |_=>O
theorem EU:Cq X (AG .Is) EW:=vR.imp P' λx y H Q q=>by
 obtain⟨a,b,c,f,d,e,q⟩:=q;unfold EW at e;split at e
 ·cases e;simp only[aW,AW]at d;exact⟨d,by rw[Ju f];exact q _ H (AV.refl H) trivial Hz⟩
 ·cases e
theorem KY:Cq X (AG .IsNot) yV:=vR.imp XA λx y H Q q=>by
 obtain⟨a,b,c,f,d,e,q⟩:=q;unfold yV at e;split at e
 ·cases e;simp only[aW,AW]at d;exact⟨d,by rw[Ju f];exact q _ H (AV.refl H) trivial Hz⟩
 ·cases e
def fu:Bx->Bx->S Bx
 |.z (.str x),.z (.int i)=>(Hu x.cps.toList i).bind λc=>Z (.z (.str ⟨#[c]⟩))
 |b,.z (.int i)=>(u5 b).bind λds=>(Hu ds i).bind λd=>Z (.z d)
 |_,_=>O
theorem OB{i:Int}(r:aO K H ds vs)(e:Hu ds i=Z d):∃v,Hu vs i=Z v/\AW K H d v:=by
 unfold Hu at e ⊢;rw[r.length];obtain⟨j,a,e⟩:=AT e;rw[a];exact r.get e
theorem bf{a b:Expr}(l:QV X a fa)(hb:QV X b fb)(hs:TY b:=by intro _ _;with_unfolding_all rfl):QV X (.Subscript a b pos) (b2 fu fa fb):=⟨have l:=l.run;have hb:=hb.run;Cp (RF Su l hb hs) λσ H Q h=>by
 obtain⟨H0,ρ,c,E,e,q⟩:=h;obtain⟨a,ea,e⟩:=AT e;obtain⟨b,eb,e⟩:=AT e;refine⟨H0,ρ,a,E,ea,λv H1 g B y=>⟨H0,ρ,b,E.grow g,eb,λu H2 f C m=>?_⟩⟩;have j:=y.same f;unfold fu at e;split at e
 ·rename_i x i;obtain⟨t,s,e⟩:=AT e;cases e;exact .inr (.inr ⟨_,_,t,(V7 j).1,KH m,(V7 j).2,s,q _ _ (g.trans f) trivial (FM (by show(1:Nat)<=AA;decide))⟩)
 ·obtain⟨ds,z,e⟩:=AT e;obtain⟨d,A,e⟩:=AT e;cases e;obtain⟨p,vs,rfl,sq,rs⟩:=yU j z;obtain⟨w,o,n⟩:=OB rs A;have hi:=KH m;rcases sq with sq|sq
  ·exact .inl ⟨p,vs,_,w,rfl,hi,sq,o,q _ _ (g.trans f) trivial n⟩
  ·exact .inr (.inl ⟨p,vs,_,w,rfl,hi,sq,o,q _ _ (g.trans f) trivial n⟩)
 ·cases e⟩
theorem SA:AH "bool"=Z (.type "bool"):=by decide +kernel
theorem Rk:AH "int"=Z (.type "int"):=by decide +kernel
theorem SV:AH "str"=Z (.type "str"):=by decide +kernel
theorem nJ:AH "tuple"=Z (.type "tuple"):=by decide +kernel
theorem Uc:AH "list"=Z (.type "list"):=by decide +kernel
theorem jD:AH "isinstance"=Z (.builtin "isinstance"):=by decide +kernel
theorem Ep:AH "len"=Z (.builtin "len"):=by decide +kernel
theorem RO:AH "abs"=Z (.builtin "abs"):=by decide +kernel
theorem Yz:AH "all"=Z (.builtin "all"):=by decide +kernel
theorem KZ:AH "min"=Z (.builtin "min"):=by decide +kernel
theorem xM:AH "max"=Z (.builtin "max"):=by decide +kernel
theorem vY:AH "sorted"=Z (.builtin "sorted"):=by decide +kernel
theorem YB:AH "sum"=Z (.builtin "sum"):=by decide +kernel
def BN:Dt->Bool
 |.bl _=>true
 |_=>false
theorem YC(I:L2.AU X AN σ H s){x:V}{v:A0}{Q:VK}(f:fJ X.K H d x)(g:As x v)(q:Q (.bl (BN d)) H):A7 (A8 X.prog X.w) X.A (call (.builtin "isinstance") [v,.type "bool"]) (EP X AN σ Q) X.xe s:=by
 cases d with
 |non=>simp only[fJ,AW]at f;subst f;cases g;exact IsiPair.NoneType_bool ⟨.bl _,H,I.tok _,rfl,q⟩
 |bl b=>simp only[fJ,AW]at f;subst f;cases g;exact IsiPair.bool_bool ⟨.bl _,H,I,rfl,q⟩
 |int b=>simp only[fJ,AW]at f;subst f;obtain⟨t,rfl⟩:=g;exact IsiPair.int_bool ⟨.bl _,H,I.tok _,rfl,q⟩
 |str b=>simp only[fJ,AW]at f;obtain⟨rfl,_⟩:=f;obtain⟨t,rfl⟩:=g;exact IsiPair.str_bool ⟨.bl _,H,I.tok _,rfl,q⟩
 |tup ds=>simp only[fJ,AW]at f;obtain⟨a,vs,rfl,sq,_⟩:=f;cases g;obtain⟨_,_,p,_⟩:=I.tuple sq;exact IsiPair.isTuple_bool p (λ_ _ e=>e) ⟨.bl _,H,I.tok _,rfl,q⟩
 |lst ds=>simp only[fJ]at f;obtain⟨a,vs,rfl,sq,_⟩:=f;cases g;obtain⟨_,_,p,_⟩:=I.list sq;exact IsiPair.isList_bool p.isList (λ_ _ e=>e) ⟨.bl _,H,I.tok _,rfl,q⟩
 |emp=>simp only[fJ,AW]at f;obtain⟨a,o,rfl,sq⟩:=f;cases g;obtain⟨h,e,c⟩:=oV I sq;exact IsiPair.dict_bool e c ⟨.bl _,H,I.tok _,rfl,q⟩
theorem Og{p:Pos}(he:QV X e f)(d:Gl X "isinstance")(n:X.mg "isinstance"=O)(t:Gl X "bool")(o:X.mg "bool"=O)(hs:A9 [e,.Name "bool" p2] X.env=[(false,eval e X.env),(false,eval (.Name "bool" p2) X.env)]:=by rfl):QV X (.Call (.Name "isinstance" p) [e,.Name "bool" p2] [] pos) (b1 (λb=>if jQ b=true then O else Z (.z (.bl (BN (toD b))))) f):=⟨by
 have he:=he.run;have g:f9 X (.builtin "isinstance") (λxs H Q=>∃b x,xs=[x,.ty "bool"]/\aW X.K H b x/\jQ b=false/\Q (.bl (BN (toD b))) H):=by
  intro AN s σ H xs us Q I r h;obtain⟨b,x,rfl,i,m,q⟩:=h;obtain⟨u,B,rfl,a,y⟩:=C4 r;cases y;exact YC I (i.toD m) a q
 have l:PA X [e,.Name "bool" p2] (uT (tF X.K f) (uT (tC (.ty "bool")) VG)):=gn he (gn (yC t o (v:=.ty "bool") (u:=.type "bool") SA Y3) rB) (by rw[hs]<;>rfl);refine Cp (pR g d n jD l (by decide) (by decide) (by rw[hs]<;>rfl) Y3) λσ H Q h=>?_;obtain⟨H0,ρ,c,E,e,q⟩:=h;obtain⟨b,eb,e⟩:=AT e;split at e
 ·cases e
 rename_i j;cases e;exact⟨H0,ρ,b,E,eb,λv H1 w A a=>⟨b,v,rfl,a,by simpa using j,q _ _ w trivial Hz⟩⟩⟩
def Ao:Dt->Bool
 |.bl _=>true
 |.int _=>true
 |_=>false
theorem PC(I:L2.AU X AN σ H s){x:V}{v:A0}{Q:VK}(f:fJ X.K H d x)(g:As x v)(q:Q (.bl (Ao d)) H):A7 (A8 X.prog X.w) X.A (call (.builtin "isinstance") [v,.type "int"]) (EP X AN σ Q) X.xe s:=by
 cases d with
 |non=>simp only[fJ,AW]at f;subst f;cases g;exact IsiPair.NoneType_int ⟨.bl _,H,I.tok _,rfl,q⟩
 |bl b=>simp only[fJ,AW]at f;subst f;cases g;exact IsiPair.bool_int ⟨.bl _,H,I,rfl,q⟩
 |int b=>simp only[fJ,AW]at f;subst f;obtain⟨t,rfl⟩:=g;exact IsiPair.int_int ⟨.bl _,H,I,rfl,q⟩
 |str b=>simp only[fJ,AW]at f;obtain⟨rfl,_⟩:=f;obtain⟨t,rfl⟩:=g;exact IsiPair.str_int ⟨.bl _,H,I.tok _,rfl,q⟩
 |tup ds=>simp only[fJ,AW]at f;obtain⟨a,vs,rfl,sq,_⟩:=f;cases g;obtain⟨_,_,p,_⟩:=I.tuple sq;exact IsiPair.isTuple_int p (λ_ _ e=>e) ⟨.bl _,H,I.tok _,rfl,q⟩
 |lst ds=>simp only[fJ]at f;obtain⟨a,vs,rfl,sq,_⟩:=f;cases g;obtain⟨_,_,p,_⟩:=I.list sq;exact IsiPair.isList_int p.isList (λ_ _ e=>e) ⟨.bl _,H,I.tok _,rfl,q⟩
 |emp=>simp only[fJ,AW]at f;obtain⟨a,o,rfl,sq⟩:=f;cases g;obtain⟨h,e,c⟩:=oV I sq;exact IsiPair.dict_int e c ⟨.bl _,H,I.tok _,rfl,q⟩
theorem Rm{p:Pos}(he:QV X e f)(d:Gl X "isinstance")(n:X.mg "isinstance"=O)(t:Gl X "int")(o:X.mg "int"=O)(hs:A9 [e,.Name "int" p2] X.env=[(false,eval e X.env),(false,eval (.Name "int" p2) X.env)]:=by rfl):QV X (.Call (.Name "isinstance" p) [e,.Name "int" p2] [] pos) (b1 (λb=>if jQ b=true then O else Z (.z (.bl (Ao (toD b))))) f):=⟨by
 have he:=he.run;have g:f9 X (.builtin "isinstance") (λxs H Q=>∃b x,xs=[x,.ty "int"]/\aW X.K H b x/\jQ b=false/\Q (.bl (Ao (toD b))) H):=by
  intro AN s σ H xs us Q I r h;obtain⟨b,x,rfl,i,m,q⟩:=h;obtain⟨u,B,rfl,a,y⟩:=C4 r;cases y;exact PC I (i.toD m) a q
 have l:PA X [e,.Name "int" p2] (uT (tF X.K f) (uT (tC (.ty "int")) VG)):=gn he (gn (yC t o (v:=.ty "int") (u:=.type "int") Rk Y3) rB) (by rw[hs]<;>rfl);refine Cp (pR g d n jD l (by decide) (by decide) (by rw[hs]<;>rfl) Y3) λσ H Q h=>?_;obtain⟨H0,ρ,c,E,e,q⟩:=h;obtain⟨b,eb,e⟩:=AT e;split at e
 ·cases e
 rename_i j;cases e;exact⟨H0,ρ,b,E,eb,λv H1 w A a=>⟨b,v,rfl,a,by simpa using j,q _ _ w trivial Hz⟩⟩⟩
def pY:Dt->Bool
 |.str _=>true
 |_=>false
theorem b4(I:L2.AU X AN σ H s){x:V}{v:A0}{Q:VK}(f:fJ X.K H d x)(g:As x v)(q:Q (.bl (pY d)) H):A7 (A8 X.prog X.w) X.A (call (.builtin "isinstance") [v,.type "str"]) (EP X AN σ Q) X.xe s:=by
 cases d with
 |non=>simp only[fJ,AW]at f;subst f;cases g;exact IsiPair.NoneType_str ⟨.bl _,H,I.tok _,rfl,q⟩
 |bl b=>simp only[fJ,AW]at f;subst f;cases g;exact IsiPair.bool_str ⟨.bl _,H,I.tok _,rfl,q⟩
 |int b=>simp only[fJ,AW]at f;subst f;obtain⟨t,rfl⟩:=g;exact IsiPair.int_str ⟨.bl _,H,I.tok _,rfl,q⟩
 |str b=>simp only[fJ,AW]at f;obtain⟨rfl,_⟩:=f;obtain⟨t,rfl⟩:=g;exact IsiPair.str_str ⟨.bl _,H,I,rfl,q⟩
 |tup ds=>simp only[fJ,AW]at f;obtain⟨a,vs,rfl,sq,_⟩:=f;cases g;obtain⟨_,_,p,_⟩:=I.tuple sq;exact IsiPair.isTuple_str p (λ_ _ e=>e) ⟨.bl _,H,I.tok _,rfl,q⟩
 |lst ds=>simp only[fJ]at f;obtain⟨a,vs,rfl,sq,_⟩:=f;cases g;obtain⟨_,_,p,_⟩:=I.list sq;exact IsiPair.isList_str p.isList (λ_ _ e=>e) ⟨.bl _,H,I.tok _,rfl,q⟩
 |emp=>simp only[fJ,AW]at f;obtain⟨a,o,rfl,sq⟩:=f;cases g;obtain⟨h,e,c⟩:=oV I sq;exact IsiPair.dict_str e c ⟨.bl _,H,I.tok _,rfl,q⟩
theorem Rn{p:Pos}(he:QV X e f)(d:Gl X "isinstance")(n:X.mg "isinstance"=O)(t:Gl X "str")(o:X.mg "str"=O)(hs:A9 [e,.Name "str" p2] X.env=[(false,eval e X.env),(false,eval (.Name "str" p2) X.env)]:=by rfl):QV X (.Call (.Name "isinstance" p) [e,.Name "str" p2] [] pos) (b1 (λb=>if jQ b=true then O else Z (.z (.bl (pY (toD b))))) f):=⟨by
 have he:=he.run;have g:f9 X (.builtin "isinstance") (λxs H Q=>∃b x,xs=[x,.ty "str"]/\aW X.K H b x/\jQ b=false/\Q (.bl (pY (toD b))) H):=by
  intro AN s σ H xs us Q I r h;obtain⟨b,x,rfl,i,m,q⟩:=h;obtain⟨u,B,rfl,a,y⟩:=C4 r;cases y;exact b4 I (i.toD m) a q
 have l:PA X [e,.Name "str" p2] (uT (tF X.K f) (uT (tC (.ty "str")) VG)):=gn he (gn (yC t o (v:=.ty "str") (u:=.type "str") SV Y3) rB) (by rw[hs]<;>rfl);refine Cp (pR g d n jD l (by decide) (by decide) (by rw[hs]<;>rfl) Y3) λσ H Q h=>?_;obtain⟨H0,ρ,c,E,e,q⟩:=h;obtain⟨b,eb,e⟩:=AT e;split at e
 ·cases e
 rename_i j;cases e;exact⟨H0,ρ,b,E,eb,λv H1 w A a=>⟨b,v,rfl,a,by simpa using j,q _ _ w trivial Hz⟩⟩⟩
def B1:Dt->Bool
 |.tup _=>true
 |_=>false
theorem Wa(I:L2.AU X AN σ H s){x:V}{v:A0}{Q:VK}(f:fJ X.K H d x)(g:As x v)(q:Q (.bl (B1 d)) H):A7 (A8 X.prog X.w) X.A (call (.builtin "isinstance") [v,.type "tuple"]) (EP X AN σ Q) X.xe s:=by
 cases d with
 |non=>simp only[fJ,AW]at f;subst f;cases g;exact IsiPair.NoneType_tuple ⟨.bl _,H,I.tok _,rfl,q⟩
 |bl b=>simp only[fJ,AW]at f;subst f;cases g;exact IsiPair.bool_tuple ⟨.bl _,H,I.tok _,rfl,q⟩
 |int b=>simp only[fJ,AW]at f;subst f;obtain⟨t,rfl⟩:=g;exact IsiPair.int_tuple ⟨.bl _,H,I.tok _,rfl,q⟩
 |str b=>simp only[fJ,AW]at f;obtain⟨rfl,_⟩:=f;obtain⟨t,rfl⟩:=g;exact IsiPair.str_tuple ⟨.bl _,H,I.tok _,rfl,q⟩
 |tup ds=>simp only[fJ,AW]at f;obtain⟨a,vs,rfl,sq,_⟩:=f;cases g;obtain⟨_,_,p,_⟩:=I.tuple sq;exact IsiPair.isTuple_tuple p (λ_ _ e=>e) ⟨.bl _,H,I,rfl,q⟩
 |lst ds=>simp only[fJ]at f;obtain⟨a,vs,rfl,sq,_⟩:=f;cases g;obtain⟨_,_,p,_⟩:=I.list sq;exact IsiPair.isList_tuple p.isList (λ_ _ e=>e) ⟨.bl _,H,I.tok _,rfl,q⟩
 |emp=>simp only[fJ,AW]at f;obtain⟨a,o,rfl,sq⟩:=f;cases g;obtain⟨h,e,c⟩:=oV I sq;exact IsiPair.dict_tuple e c ⟨.bl _,H,I.tok _,rfl,q⟩
theorem K1{p:Pos}(he:QV X e f)(d:Gl X "isinstance")(n:X.mg "isinstance"=O)(t:Gl X "tuple")(o:X.mg "tuple"=O)(hs:A9 [e,.Name "tuple" p2] X.env=[(false,eval e X.env),(false,eval (.Name "tuple" p2) X.env)]:=by rfl):QV X (.Call (.Name "isinstance" p) [e,.Name "tuple" p2] [] pos) (b1 (λb=>if jQ b=true then O else Z (.z (.bl (B1 (toD b))))) f):=⟨by
 have he:=he.run;have g:f9 X (.builtin "isinstance") (λxs H Q=>∃b x,xs=[x,.ty "tuple"]/\aW X.K H b x/\jQ b=false/\Q (.bl (B1 (toD b))) H):=by
  intro AN s σ H xs us Q I r h;obtain⟨b,x,rfl,i,m,q⟩:=h;obtain⟨u,B,rfl,a,y⟩:=C4 r;cases y;exact Wa I (i.toD m) a q
 have l:PA X [e,.Name "tuple" p2] (uT (tF X.K f) (uT (tC (.ty "tuple")) VG)):=gn he (gn (yC t o (v:=.ty "tuple") (u:=.type "tuple") nJ Y3) rB) (by rw[hs]<;>rfl);refine Cp (pR g d n jD l (by decide) (by decide) (by rw[hs]<;>rfl) Y3) λσ H Q h=>?_;obtain⟨H0,ρ,c,E,e,q⟩:=h;obtain⟨b,eb,e⟩:=AT e;split at e
 ·cases e
 rename_i j;cases e;exact⟨H0,ρ,b,E,eb,λv H1 w A a=>⟨b,v,rfl,a,by simpa using j,q _ _ w trivial Hz⟩⟩⟩
def BH:Dt->Bool
 |.lst _=>true
 |_=>false
theorem YD(I:L2.AU X AN σ H s){x:V}{v:A0}{Q:VK}(f:fJ X.K H d x)(g:As x v)(q:Q (.bl (BH d)) H):A7 (A8 X.prog X.w) X.A (call (.builtin "isinstance") [v,.type "list"]) (EP X AN σ Q) X.xe s:=by
 cases d with
 |non=>simp only[fJ,AW]at f;subst f;cases g;exact IsiPair.NoneType_list ⟨.bl _,H,I.tok _,rfl,q⟩
 |bl b=>simp only[fJ,AW]at f;subst f;cases g;exact IsiPair.bool_list ⟨.bl _,H,I.tok _,rfl,q⟩
 |int b=>simp only[fJ,AW]at f;subst f;obtain⟨t,rfl⟩:=g;exact IsiPair.int_list ⟨.bl _,H,I.tok _,rfl,q⟩
 |str b=>simp only[fJ,AW]at f;obtain⟨rfl,_⟩:=f;obtain⟨t,rfl⟩:=g;exact IsiPair.str_list ⟨.bl _,H,I.tok _,rfl,q⟩
 |tup ds=>simp only[fJ,AW]at f;obtain⟨a,vs,rfl,sq,_⟩:=f;cases g;obtain⟨_,_,p,_⟩:=I.tuple sq;exact IsiPair.isTuple_list p (λ_ _ e=>e) ⟨.bl _,H,I.tok _,rfl,q⟩
 |lst ds=>simp only[fJ]at f;obtain⟨a,vs,rfl,sq,_⟩:=f;cases g;obtain⟨_,_,p,_⟩:=I.list sq;exact IsiPair.isList_list p.isList (λ_ _ e=>e) ⟨.bl _,H,I,rfl,q⟩
 |emp=>simp only[fJ,AW]at f;obtain⟨a,o,rfl,sq⟩:=f;cases g;obtain⟨h,e,c⟩:=oV I sq;exact IsiPair.dict_list e c ⟨.bl _,H,I.tok _,rfl,q⟩
theorem Oh{p:Pos}(he:QV X e f)(d:Gl X "isinstance")(n:X.mg "isinstance"=O)(t:Gl X "list")(o:X.mg "list"=O)(hs:A9 [e,.Name "list" p2] X.env=[(false,eval e X.env),(false,eval (.Name "list" p2) X.env)]:=by rfl):QV X (.Call (.Name "isinstance" p) [e,.Name "list" p2] [] pos) (b1 (λb=>if jQ b=true then O else Z (.z (.bl (BH (toD b))))) f):=⟨by
 have he:=he.run;have g:f9 X (.builtin "isinstance") (λxs H Q=>∃b x,xs=[x,.ty "list"]/\aW X.K H b x/\jQ b=false/\Q (.bl (BH (toD b))) H):=by
  intro AN s σ H xs us Q I r h;obtain⟨b,x,rfl,i,m,q⟩:=h;obtain⟨u,B,rfl,a,y⟩:=C4 r;cases y;exact YD I (i.toD m) a q
 have l:PA X [e,.Name "list" p2] (uT (tF X.K f) (uT (tC (.ty "list")) VG)):=gn he (gn (yC t o (v:=.ty "list") (u:=.type "list") Uc Y3) rB) (by rw[hs]<;>rfl);refine Cp (pR g d n jD l (by decide) (by decide) (by rw[hs]<;>rfl) Y3) λσ H Q h=>?_;obtain⟨H0,ρ,c,E,e,q⟩:=h;obtain⟨b,eb,e⟩:=AT e;split at e
 ·cases e
 rename_i j;cases e;exact⟨H0,ρ,b,E,eb,λv H1 w A a=>⟨b,v,rfl,a,by simpa using j,q _ _ w trivial Hz⟩⟩⟩
def RS(K:B0)(f:Ev->S (S Int)):TO:=λσ H Q=>∃H0 ρ o,bR K H0 H σ ρ/\f ρ=Z o/\∀H',AV H H'->Q o H'
def cm(X:Cx)(e:S Expr)(f:Ev->S (S Int)):Prop:=PO X e (RS X.K f)
structure FC (X:Cx) (e:Option Expr) (f:Ev->Option (Option Int)):Prop where
 run:cm X e f
theorem Hm{e:S Expr}{t t':TO}(h:PO X e t)(m:∀ σ H Q,t' σ H Q->t σ H Q):PO X e t':=λAN s σ H Q I q=>h AN s σ H Q I (m σ H Q q)
def xO:Ev->S (S Int):=λ_=>Z O
theorem u6  :FC X O xO:=⟨Hm Op λσ H Q h=>by
 obtain⟨H0,ρ,o,E,e,q⟩:=h;cases e;exact q H (AV.refl H)⟩
def HA:Bx->S (S Int)
 |.z (.int i)=>Z (Z i)
 |_=>O
def Br(f:Ev->S Bx):Ev->S (S Int):=λρ=>(f ρ).bind HA
theorem u9(h:QV X e f):FC X (Z e) (Br f):=⟨have h:=h.run;Hm (RC h) λσ H Q q=>by
 obtain⟨H0,ρ,o,E,e,q⟩:=q;obtain⟨b,eb,e⟩:=AT e;refine⟨H0,ρ,b,E,eb,λv H1 c d a=>?_⟩;unfold HA at e;split at e
 ·rename_i i;cases e;exact⟨i,KH a,q H1 c⟩
 ·cases e⟩
def C3(xs:Y Dt)(lo hi:S Int):Y Dt:=(xs.drop (HT.jc xs.length 0 lo)).take (HT.jc xs.length xs.length hi-HT.jc xs.length 0 lo)
theorem Oi(r:aO K H ds vs)(lo hi:S Int):aO K H (C3 ds lo hi) (Nq vs lo hi):=by
 unfold C3 Nq;rw[r.length];exact(r.drop _).take _
theorem YF(ds:Y Dt)(h1:HT.jc ds.length 0 lo=0)(h2:HT.jc ds.length ds.length hi=ds.length):C3 ds lo hi=ds:=by
 unfold C3;rw[h1,h2];simp
theorem yW{t sl:A1}{b c:A0}{Q:BB}(a:IsTup s.heap t items)(hs:s.heap.IsSliceOf sl b c .none)(pl:IsPart b lo)(d:IsPart c hi)(h1:HT.jc items.size 0 lo=0)(h2:HT.jc items.size items.size hi=items.size)(h:Q (.ref t) s):A7 (A8 prog w) A (getItem (.ref t) (.ref sl)) Q E s:=by
 obtain⟨os,e,f,j⟩:=id hs;have i:s.TypeIs (.ref sl) "slice":=⟨os,e,f⟩;unfold getItem
 try with_reducible refine QP ?_
 first|refine zb (ze ?_)|skip
 refine zb (wpAny_sequenceKey a.typeIs (by decide) ?_);refine zb (ye (name:=Str.ofString "__getitem__") a.typeIs PyProof.Rows.slot_tuple_getitem
  (kc PyProof.Rows.slot_tuple_getitem a.typeIs entry_tuple_getitem ?_ (args_tuple_getitem _ _)))
 show A7 _ _ (Builtin.Tuple.tupleItemsOf (.ref t) >>= _) _ _ s;refine zb (tupleItemsOf_ a ?_);refine zb (QQ i ?_);rw[zo (by decide)];refine zb (HT.rO hs pl d ?_);have g:(((HT.jc items.size 0 lo:Nat):Int)==0&&(1:Int)==1&&(HT.jc items.size items.size hi-HT.jc items.size 0 lo)==items.size)=true:=by
  rw[h1,h2];simp
 show A7 _ _ (if(((HT.jc items.size 0 lo:Nat):Int)==0&&(1:Int)==1&&(HT.jc items.size items.size hi-HT.jc items.size 0 lo)==items.size)=true then _ else _) _ _ s;rw[zo g]
 first
  |refine zb (zb (QQ a.typeIs (ze ?_)))
  |refine zb (QQ a.typeIs (zb (ze ?_)))
  |refine zb (QQ a.typeIs ?_)
 rw[zo (by decide)]
 first
  |exact zb (k7 (ze ⟨_,rfl,ze h⟩))
  |exact zb (k7 (zb (ze (ze ⟨_,rfl,ze h⟩))))
def ER(b:Bx)(lo hi:S Int):S Bx:=match b with
 |.z (.str x)=>Z (.z (.str (Txt.slice x lo hi)))
 |.z (.tup ds)=>Z (.z (.tup (C3 ds lo hi)))
 |b=>(qz b).bind λds=>Z (.o (C3 ds lo hi))
def X9(K:B0):V->S Int->S Int->Hp->VK->Prop:=λx lo hi H Q=>∃b c,aW K H b x/\ER b lo hi=Z c/\∀w H',AV H H'->Nw H c w->aW K H' c w->Q w H'
theorem Wp:Fh X (X9 X.K):=by
 intro AN s σ H x v B C lo hi sl Q I n hs pl d h;obtain⟨b,c,m,e,q⟩:=h;unfold ER at e;split at e
 ·rename_i y;cases e;obtain⟨rfl,g⟩:=V7 m;obtain⟨t,rfl⟩:=n;refine⟨"str", _,F.slot_str_getitem.lookup,typeIs_str _ _ _,?_⟩;obtain⟨o,e1,e2,e3⟩:=hs;have w:∀E k,EP X AN σ Q (.str (Txt.slice y lo hi) E) { s with toks:=k }:=λE k=>⟨.str _,H,I.tok _,⟨_,rfl⟩,q _ H (AV.refl H) trivial (FM (ZE (Txt.slice_le y _ _) g))⟩;cases pl with
  |none=>
   cases d with
   |none=>exact kN (l:=O) (u:=O) (st:=O) ⟨o,e1,e2,e3⟩ Y3 (post_val_or_str ⟨ZE (Txt.slice_le y _ _) g,w⟩)
   |int j z=>exact kN (l:=O) (u:=Z (j,z)) (st:=O) ⟨o,e1,e2,e3⟩ Y3 (post_val_or_str ⟨ZE (Txt.slice_le y _ _) g,w⟩)
  |int i G=>
   cases d with
   |none=>exact kN (l:=Z (i,G)) (u:=O) (st:=O) ⟨o,e1,e2,e3⟩ Y3 (post_val_or_str ⟨ZE (Txt.slice_le y _ _) g,w⟩)
   |int j z=>exact kN (l:=Z (i,G)) (u:=Z (j,z)) (st:=O) ⟨o,e1,e2,e3⟩ Y3 (post_val_or_str ⟨ZE (Txt.slice_le y _ _) g,w⟩)
 ·rename_i ds;cases e;obtain⟨a,vs,rfl,sq,rs⟩:=Fn m;by_cases f:HT.jc vs.length 0 lo=0/\HT.jc vs.length vs.length hi=vs.length
  ·cases n;obtain⟨AQ,r,D,L⟩:=I.tuple sq;have A:AQ.toArray.size=vs.length:=by rw[zC];exact r.length.symm
   refine⟨"tuple", _,PyProof.Rows.slot_tuple_getitem.lookup,D.typeIs,yW D hs pl d (by rw[A];exact f.1) (by rw[A];exact f.2) ⟨.ref a,H,I,rfl,q _ H (AV.refl H) trivial ?_⟩⟩;rw[YF ds (by rw[<-rs.length];exact f.1) (by rw[<-rs.length];exact f.2)];exact m
  ·refine RH AN s σ H _ v B C lo hi sl Q I n hs pl d ⟨a,vs,rfl,sq,f,λp hp=>q _ _ (bU hp) trivial ?_⟩;unfold aW AW;exact⟨p,_,rfl,.inl (.inl bJ),(Oi rs lo hi).kp (.of (bU hp))⟩
 ·obtain⟨ds,J,e⟩:=AT e;cases e;obtain⟨a,vs,rfl,sq,rs⟩:=m.Hj J;exact UC AN s σ H _ v B C lo hi sl Q I n hs pl d ⟨a,vs,rfl,sq,λp hp=>q _ _ (bU hp) (λa ea=>by cases ea;exact hp) ⟨p,_,rfl,bJ,(Oi rs lo hi).kp (.of (bU hp))⟩⟩
def Xm(f:Ev->S Bx)(fl fh:Ev->S (S Int)):Ev->S Bx:=λρ=>(f ρ).bind λb=>(fl ρ).bind λlo=>(fh ρ).bind λhi=>ER b lo hi
theorem Oj{lo hi:S Expr}{fl fh:Ev->S (S Int)}(he:QV X e f)(a:FC X lo fl)(g:FC X hi fh):QV X (.Subscript e (.Slice lo hi O p2) pos) (Xm f fl fh):=⟨have he:=he.run;have a:=a.run;have g:=g.run;Cp (X3 Wp he a g) λσ H Q h=>by
 obtain⟨H0,ρ,c,E,e,q⟩:=h;obtain⟨b,eb,e⟩:=AT e;obtain⟨lo,el,e⟩:=AT e;obtain⟨hi,m,e⟩:=AT e;refine⟨H0,ρ,b,E,eb,λv H1 i u p=>⟨H0,ρ,lo,E.grow i,el,λH2 d=>⟨H0,ρ,hi,E.grow (i.trans d),m,λx j=>?_⟩⟩⟩;have l:=(i.trans d).trans j;exact⟨b,c,(p.same d).same j,e,λw t n s o=>q w t (l.trans n) (s.old l) o⟩⟩
def Aq:Y Bx->S Bx
 |[.z (.str x)]=>Z (.z (.int x.length))
 |[b]=>(u5 b).bind λds=>Z (.z (.int ds.length))
 |_=>O
theorem BS(r:rP K H [b] vs):∃v,vs=[v]/\aW K H b v:=by
 cases r with
 |cons p t=>cases t;exact⟨_,rfl,p⟩
theorem F1{c:Bx}(r:rP K H [b,c] vs):∃v u,vs=[v,u]/\aW K H b v/\aW K H c u:=by
 cases r with
 |cons p t=>
  cases t with
  |cons p' a=>cases a;exact⟨_,_,rfl,p,p'⟩
theorem Er:qF X (.builtin "len") Aq:=f9.imp (Km.or Ko) λxs H Q q=>by
 obtain⟨bs,c,b,e,q⟩:=q;unfold Aq at e;split at e
 ·rename_i x;cases e;obtain⟨v,rfl,a⟩:=BS b;obtain⟨rfl,hx⟩:=V7 a;exact .inr ⟨x,rfl,hx,q _ H (AV.refl H) trivial Cu⟩
 ·obtain⟨ds,d,e⟩:=AT e;cases e;obtain⟨v,rfl,a⟩:=BS b;obtain⟨p,vs,rfl,sq,rs⟩:=yU a d;exact .inl ⟨p,vs,rfl,sq,by rw[rs.length];exact q _ H (AV.refl H) trivial Cu⟩
 ·cases e
def YG:Y Bx->S Bx
 |[.z (.int i)]=>Z (.z (.int (if i<0 then -i else i)))
 |_=>O
theorem Pd:qF X (.builtin "abs") YG:=f9.imp XR λxs H Q q=>by
 obtain⟨bs,c,b,e,q⟩:=q;unfold YG at e;split at e
 ·rename_i i;cases e;obtain⟨v,rfl,a⟩:=BS b;have:=KH a;subst this;exact⟨i,rfl,q _ H (AV.refl H) trivial Cu⟩
 ·cases e
def Wb:Y Bx->S Bx
 |[.z (.int i)]=>Z (.z (.int i))
 |[.z (.bl k)]=>Z (.z (.int (if k then 1 else 0)))
 |_=>O
theorem YH:qF X (.type "int") Wb:=f9.imp VF λxs H Q q=>by
 obtain⟨bs,c,b,e,q⟩:=q;unfold Wb at e;split at e
 ·rename_i i;cases e;obtain⟨v,rfl,a⟩:=BS b;have:=KH a;subst this;exact .inl ⟨i,rfl,q _ H (AV.refl H) trivial Cu⟩
 ·rename_i k;cases e;obtain⟨v,rfl,a⟩:=BS b;simp only[aW,AW]at a;subst a;exact .inr ⟨k,rfl,q _ H (AV.refl H) trivial Cu⟩
 ·cases e
def kE:Y Bx->S Bx
 |[b]=>(u5 b).bind λds=>Z (.z (.tup ds))
 |_=>O
theorem pZ:qF X (.type "tuple") kE:=f9.imp Hw λxs H Q q=>by
 obtain⟨bs,c,f,e,q⟩:=q;unfold kE at e;split at e
 ·obtain⟨ds,b,e⟩:=AT e;cases e;obtain⟨v,rfl,d⟩:=BS f;obtain⟨p,vs,rfl,sq,rs⟩:=yU d b;refine⟨p,vs,rfl,?_⟩;rcases sq with sq|sq
  ·refine .inl ⟨sq,λl a=>q _ _ (bU a) trivial ?_⟩;unfold aW AW;exact⟨l,vs,rfl,.inl (.inl bJ),rs.kp (.of (bU a))⟩
  ·refine .inr ⟨sq,q _ H (AV.refl H) trivial ?_⟩;unfold aW AW;exact⟨p,vs,rfl,sq,rs⟩
 ·cases e
def Jv:Y Dt->S (Y Bool)
 |[]=>Z []
 |.bl b::ds=>(Jv ds).bind λbs=>Z (b::bs)
 |_=>O
theorem Es{K:B0}{H:Hp}:∀{ds:Y Dt} {bs:Y Bool} {vs:Y V} {us:Y A0},Jv ds=Z bs->aO K H ds vs->AX vs us->us=bs.map Value.bool
 |[],_,_,_,e,r,w=>by
  cases e;simp only[aO]at r;subst r;cases w;rfl
 |d::ds,_,_,_,e,r,w=>by
  simp only[aO]at r;obtain⟨v,a,rfl,h1,h2⟩:=r;cases d<;>first|(cases e;done)|skip;simp only[Jv]at e;obtain⟨bs,e1,e⟩:=AT e;cases e;simp only[AW]at h1;subst h1;cases w with
  |cons p t=>
   cases p;rw[Es e1 h2 t];rfl
theorem CI(bs:Y Bool):((List.range bs.length).all λi=>bs.getD i false)=bs.all id:=by
 rw[ky,qo,qo];constructor
 ·intro h b hb;obtain⟨i,hi,rfl⟩:=List.mem_iff_getElem.mp hb;have:=h i (by simpa using hi);simpa[List.getD,hi]using this
 ·intro h i hi;have hi:i<bs.length:=by simpa using hi
  have:=h bs[i] (yb hi);simpa[List.getD,hi]using this
def CL:Y Bx->S Bx
 |[b]=>(qz b).bind λds=>(Jv ds).bind λbs=>Z (.z (.bl (bs.all id)))
 |_=>O
theorem Ol(bs:Y Bool):TruthOf prog w A (λi v=>(bs.map Value.bool).toArray[i]?=Z v) λi=>bs.getD i false:=λi v s Q E h q=>by
 have h':(bs.map Value.bool)[i]?=Z v:=by simpa using h
 rw[Zl]at h';cases e:bs[i]? with
 |none=>rw[e]at h';cases h'
 |some b=>
  rw[e]at h';cases h';have:bs.getD i false=b:=by simp[List.getD,e]
  have a:Q b s:=by rw[<-this];exact q
  exact Q4 a
theorem YJ(g:X.calm=true):qF X (.builtin "all") CL:=by
 intro AN s σ H xs us Q I r h;obtain⟨bs,c,l,e,q⟩:=h;unfold CL at e;split at e
 ·obtain⟨ds,x,e⟩:=AT e;obtain⟨ks,ek,e⟩:=AT e;cases e;obtain⟨v,rfl,y⟩:=BS l;obtain⟨a,vs,rfl,sq,rs⟩:=y.Hj x;obtain⟨u,rfl,j⟩:=BF r;cases j;obtain⟨AQ,w,pl,C⟩:=I.list sq;have d:=Es ek rs w;have m:a<s.heap.objs.size:=by obtain⟨o,n,e,_⟩:=pl;exact zz e
  refine call_all_walk (KL pl.isList ?_);refine⟨s.heap.objs.size,_,_,_,_,_,λi=>ks.getD i false,rfl,Walks.list (by show X.A.handled=O;exact I.ok.hd g) s.heap.objs.size a (zI m) AQ.toArray,⟨⟨_,zv _ rfl,rfl,rfl⟩,pl.isList.push _⟩,?_,λh' tk k=>?_⟩
  ·rw[d];exact Ol ks
  ·have z:AQ.toArray.size=ks.length:=by rw[d];simp
   rw[z,CI];have B:L2.AU X AN σ H { s with heap:=s.heap.push { cls:=.type "list_iterator",data:=.fields #[.ref a,.int 0 0] } }:=I.kept (t':=s.toks) λb o e=>zd _ e;refine⟨.bl _,H,?_,rfl,q _ H (AV.refl H) trivial Hz⟩;obtain⟨f0,f1,f2,f,t,p⟩:=I.Vx (b:=s.heap.objs.size) (H':=H) (zk _) (I.hok.fresh (zk _));exact B.turned (it:=s.heap.objs.size) (λb o hb e=>k b o (by simpa using hb) e) f0 f1 f t p
 ·cases e
end P1
namespace P1
open L2
def gv(i:Nat):Ev->S Bx:=λρ=>xH ρ i
def qC(g:Bx->Bx->S Bx)(fa fb:Ev->S Bx):Ev->S Bool:=λρ=>(b2 g fa fb ρ).bind DY
def tV(f:Ev->S Bx):Ev->S Bool:=λρ=>(f ρ).bind Yn
def aK:Ev->S (Y Bx):=λ_=>Z []
def Et(p:Dt->Bool)(f:Ev->S Bx):Ev->S Bx:=b1 (λb=>if jQ b=true then O else Z (.z (.bl (p (toD b))))) f
def d8:Ev->S Ap:=λρ=>Z (.nx ρ)
def gB(f:Ev->S Bx):Ev->S Ap:=λρ=>(f ρ).bind Yp
def Au(i:Nat)(f:Ev->S Bx):Ev->S Ap:=λρ=>(f ρ).bind λb=>(V1 ρ i b).bind λa=>Z (.nx a)
def Ro(gt:Dt->Ev->S Ev)(f:Ev->S Bx):Ev->S Ap:=λρ=>(f ρ).bind λb=>match b with|.z d=>(gt d ρ).bind λa=>Z (.nx a)|_=>O
def YK(i j:Nat)(fs:Ev->S (Y Bx)):Ev->S Ap:=λρ=>(fs ρ).bind (FG i j ρ)
def Eu(i:Nat)(f:Ev->S Bx):Ev->S Ap:=λρ=>(f ρ).bind (FL ρ i)
def rE(fi:Ev->S (Y Dt))(gt:Dt->Ev->S Ev)(gb:Ev->S Ap):Ev->S Ap:=λρ=>(fi ρ).bind λds=>rD gt gb ds ρ
def Cc(f:Ev->S Bx):Ev->S (Y Dt):=λρ=>(f ρ).bind V2
def K3(f:Ev->S Bx):Ev->S (Y Dt):=λρ=>(f ρ).bind Yw
def Xn(fs:Ev->S (Y Bx)):Ev->S (Y Dt):=λρ=>(fs ρ).bind GN
def jR(i:Nat):Dt->Ev->S Ev:=λd ρ=>Z (ρ.set i (Z (.z d)))
def xP:Ev->S Bool:=λ_=>Z true
theorem fV:Ak X [] xP:=⟨.inl ⟨rfl,rfl⟩⟩
theorem p7(h:QB X c p):Ak X [c] p:=⟨have h:=h.run;.inr ⟨c,rfl,h⟩⟩
theorem c4:Hx X scope cl [] []:=trivial
theorem ck{xs:AZ}(n:X.N[i]?=Z x)(k:X.env.kindOf x=Z .cell\/X.env.kindOf x=Z .free)(a:(relabel scope X.env).names.lookup x=Z .cell\/(relabel scope X.env).names.lookup x=Z .free)(c:∃c,cl.lookup x=Z c)(r:Hx X scope cl xs is):Hx X scope cl (x::xs) (i::is):=⟨⟨n,k,a,c⟩,r⟩
theorem mem_of_lookup{a:Y (AJ×NameKind)}{x:AJ}{k:NameKind}:a.lookup x=Z k->(x,k)∈a:=ka
theorem Pv{xs:AZ}(clos:closureFor scope X.env=pure cl)(kind:scope.kind=.function)(cell:scope.names.all (λy=>decide (y.2≠.cell)||(cl.lookup y.1).isNone)=true)(names:scope.names.all (λy=>decide (y.2=.local->scope.names.lookup y.1=Z .local))=true)(sub:C7 X.env.cells cl)(has:(relabel scope X.env).names.all (λy=>!(y.2==.cell||y.2==.free)||(cl.lookup y.1).isSome||scope.names.contains (y.1,.cell))=true)(cap:Hx X scope cl xs is):tB X scope cl xs is where
 clos:=clos
 kind:=kind
 cell:=λy a b=>by
  have:=List.all_eq_true.mp cell y a;simp only[b,ne_eq,not_true_eq_false,kQ,Bool.false_or,Option.isNone_iff_eq_none]at this;exact this
 names:=λy a=>QI (List.all_eq_true.mp names y a)
 sub:=sub
 has:=λx hx=>by
  have h:∃k,(relabel scope X.env).names.lookup x=Z k/\(k==NameKind.cell||k==NameKind.free)=true:=by
   rcases hx with hx|hx
   ·exact⟨_,hx,rfl⟩
   ·exact⟨_,hx,rfl⟩
  obtain⟨k,e,c⟩:=h;have:=List.all_eq_true.mp has _ (mem_of_lookup e);simp only[c,kA,Bool.false_or,Kj]at this;rcases this with h|h
  ·exact .inr (Option.isSome_iff_exists.mp h)
  ·exact .inl (List.contains_iff_mem.mp h)
 cap:=cap
theorem Ud{k:Nat}(r:nF k A):A.units+100<cLine:=by have:=r.un;omega
theorem Nd{F:Y Bx->S Bx}(h:∀b:Y Int,b.length<=63->F [.z (.lst (b.map .int))]=Z (.z (.bl true)))(g:∀b:Y Int,b.length<=63->F [.l (b.map .int)]=Z (.z (.bl true)))(K:B0)(H:Hp)(a:A1)(b:Y Int)(f:b.length<=63)(_:CS H)(c:uP K H a (b.map V.int)):
  Dx K 1 F [.ref a] H (λv _=>v=.bl true) λ_ _ _=>False:=by
 have rs:∀d:Y Int,aO K H (d.map Dt.int) (d.map V.int):=λd=>by
  induction d with
  |nil=>exact aO.nil
  |cons m d i=>exact aO.cons (by unfold AW;rfl) i
 have e:∀v (H':Hp),AV H H'->Nw H (.z (.bl true)) v->aW K H' (.z (.bl true)) v->v=.bl true:=λv H' _ _ r=>by simpa only[aW,AW]using r
 rcases c with c|c
 ·exact⟨rfl,[.l (b.map .int)],_,.cons ⟨a,_,rfl,c,rs b⟩ .nil,rfl,g b f,e⟩
 ·refine⟨rfl,[.z (.lst (b.map .int))],_,.cons ?_ .nil,rfl,h b f,e⟩;unfold aW AW;exact⟨a,_,rfl,.inr c,rs b⟩
theorem W'{st:AB}{f:A1}{k m:Nat}(F:Co K x qual st f fd)(S:bL N ps (aP st))(d:N.length=n)(b:ps.length=m)(c:∀(a:A0) (A:A5) (outer:Y Env) (s:A2) (H:Hp) (E:XK),nF k (A.deeper (AK qual (aP st) s.heap.objs.size f a))->TF (DN Kr P w K mg base N qual (aP st) f a A outer s H E).nox (jd st) g):
  uU P w K mg base Kr (k+1) f fd ps (Dx K m (dX n g)):=by
 subst d b;exact PZ F S c
section
variable{st:Expr}{fs:Ev->S Bx}
theorem K4{α β:Type}{f:α->S β}{g:α->β}:∀l:Y α,(∀a∈l,f a=Z (g a))->l.filterMap f=l.map g
 |[],_=>rfl
 |a::l,h=>by
  rw[kK,h a (zh ..),zt,K4 l λb hb=>h b (zi _ hb)]
theorem aO.rev{K:B0}{H:Hp}:∀{ds:Y Dt} {vs:Y V},aO K H ds vs->aO K H ds.reverse vs.reverse
 |[],_,h=>by simp only[aO]at h;subst h;exact aO.nil
 |d::ds,_,h=>by
  simp only[aO]at h;obtain⟨v,r,rfl,b,a⟩:=h;rw[kC,kC];exact aO.append (aO.rev a) (aO.cons b aO.nil)
end
def DA:Bx->Bx->S Bx
 |.z (.int i),.z (.int j)=>Z (.z (.bl (decide (i<j))))
 |.z (.str x),.z (.str y)=>Z (.z (.bl (decide (x.cps.toList<y.cps.toList))))
 |_,_=>O
theorem Rp:Cq X (AG .Lt) DA:=by
 intro AN s σ H x y v u Q I g f h;obtain⟨a,b,c,l,d,e,q⟩:=h;unfold DA at e;split at e
 ·rename_i i j;cases e;exact Ps AN s σ H x y v u Q I g f ⟨i,j,KH l,KH d,q _ H (AV.refl H) trivial (by unfold aW;exact EM)⟩
 ·rename_i i j;cases e;obtain⟨rfl,_⟩:=V7 l;obtain⟨rfl,_⟩:=V7 d;obtain⟨t,rfl⟩:=g;obtain⟨m,rfl⟩:=f;exact PySem.P.lt_str ⟨.bl _,H,I,rfl,q _ H (AV.refl H) trivial (by unfold aW;exact EM)⟩
 ·cases e
def Ew:Y Dt->S AZ
 |[]=>Z []
 |.str x::r=>(Ew r).bind λys=>Z (x::ys)
 |_=>O
theorem Ar{K:B0}{H:Hp}:∀{ds:Y Dt} {vs:Y V} {ys:AZ},aO K H ds vs->Ew ds=Z ys->vs=ys.map V.str/\∀y∈ys,y.length<=AA
 |[],_,_,h,e=>by cases e;simp only[aO]at h;subst h;exact⟨rfl,λy a=>by cases a⟩
 |.str x::ds,_,_,h,e=>by
  simp only[Ew]at e;obtain⟨ys,e1,e2⟩:=AT e;cases e2;simp only[aO]at h;obtain⟨v,r,rfl,c,b⟩:=h;obtain⟨rfl,hx⟩:v=.str x/\x.length<=AA:=by simpa only[AW]using c
  obtain⟨rfl,h2⟩:=Ar b e1;refine⟨rfl,λy a=>?_⟩;rcases List.mem_cons.mp a with rfl|a
  ·exact hx
  ·exact h2 y a
 |.non::_,_,_,_,e=>by cases e
 |.bl _::_,_,_,_,e=>by cases e
 |.int _::_,_,_,_,e=>by cases e
 |.tup _::_,_,_,_,e=>by cases e
 |.lst _::_,_,_,_,e=>by cases e
 |.emp::_,_,_,_,e=>by cases e
theorem Ey{K:B0}{H:Hp}:∀{ys:AZ},(∀y∈ys,y.length<=AA)->aO K H (ys.map Dt.str) (ys.map V.str)
 |[],_=>aO.nil
 |y::ys,h=>aO.cons (by unfold AW;exact⟨rfl,h y (zh ..)⟩) (Ey λz a=>h z (zi _ a))
theorem xQ:∀{ys:AZ} {AQ:Y A0},AX (ys.map V.str) AQ->StrsAre AQ ys
 |[],_,h=>by cases h;exact .nil
 |y::ys,_,h=>by
  cases h with
  |cons r t=>
   obtain⟨tk,rfl⟩:=r;exact .cons y tk (xQ t)
theorem Av:∀{AQ:Y A0} {ys:AZ},StrsAre AQ ys->AX (ys.map V.str) AQ
 |_,_,.nil=>.nil
 |_,_,.cons y t h=>.cons ⟨t,rfl⟩ (Av h)
theorem K5:f9 X (.builtin "sorted") (λxs H Q=>∃p ys,xs=[.ref p]/\uP X.K H p (ys.map V.str)/\ys.length<64/\∀l zs,H l=O->zs.Perm ys->sortedS zs=true->Q (.ref l) (B6 H l (.lst (zs.map V.str)))):=by
 intro AN s σ H xs us Q I r h;obtain⟨p,ys,rfl,j,t,q⟩:=h;obtain⟨u,rfl,i⟩:=BF r;cases i;obtain⟨AQ,c,pl,d⟩:=I.list j;have g:=c.length;rw[zr]at g d;refine sorted_strs pl.isList (xQ c) (by omega) λout zs hs hp m=>?_;obtain⟨n,f⟩:=sortedAll_at s.heap AQ out;refine⟨.ref (s.heap.objs.size+1),_,I.laid (t':=s.toks) (a:=s.heap.objs.size+1) (o:=.lst (zs.map V.str)) (λb o e=>sortedAll_old e) (Kb _) ?_,rfl,q _ zs (I.hok.fresh (Kb _)) hp m⟩;refine⟨by rw[zr,hp.length_eq];exact d,out.toList,n,Av hs,?_⟩;rw[f]
def yw(a b:AJ):Prop:=ltCps b.cps.toList a.cps.toList=false
theorem yX:∀(p:AJ) (l:AZ),risingS p l=true->(p::l).Pairwise yw
 |p,[],_=>by simp
 |p,x::r,h=>by
  have h':(!ltCps x.cps.toList p.cps.toList&&risingS x r)=true:=h;rw[ZH]at h';have c:=yX x r h'.2;have hx:yw p x:=by simpa[yw]using h'.1
  refine List.pairwise_cons.mpr ⟨λy b=>?_,c⟩;rcases List.mem_cons.mp b with rfl|b
  ·exact hx
  ·have a:yw x y:=JJ c b;unfold yw at hx a ⊢;rw[ltCps_eq]at hx a ⊢;simp only[Q2]at hx a ⊢;exact List.le_trans (α:=Nat) hx a
theorem K6{l:AZ}(h:sortedS l=true):l.Pairwise yw:=by
 cases l with
 |nil=>exact .nil
 |cons p l=>exact yX p l h
theorem Ez{a b:AJ}(h:yw a b)(h':yw b a):a=b:=by
 unfold yw at h h';rw[ltCps_eq]at h h';simp only[Q2]at h h';have:=List.le_antisymm (as:=a.cps.toList) (bs:=b.cps.toList) h h';cases a;cases b;simp only[Str.mk.injEq];exact Array.toList_inj.mp this
theorem Ue:∀{l l':AZ},l.Perm l'->l.Pairwise yw->l'.Pairwise yw->l=l'
 |[],l',h,_,_=>by rw[List.nil_perm.mp h]
 |a::l,[],h,_,_=>by cases List.perm_nil.mp h
 |a::l,b::l',h,p,p'=>by
  have e:a=b:=by
   have c:a∈b::l':=h.mem_iff.mp (zh ..);have hb:b∈a::l:=h.mem_iff.mpr (zh ..);rcases List.mem_cons.mp c with h1|h1
   ·exact h1
   ·rcases List.mem_cons.mp hb with h2|h2
    ·exact h2.symm
    ·exact Ez (JJ p h2) (JJ p' h1)
  subst e;rw[Ue ((List.perm_cons a).mp h) (List.pairwise_cons.mp p).2 (List.pairwise_cons.mp p').2]
def Wc(a b:AJ):Bool:=!ltCps b.cps.toList a.cps.toList
def wU(ys:AZ):AZ:=ys.mergeSort Wc
theorem p8(ys:AZ):(wU ys).Perm ys:=List.mergeSort_perm ys Wc
theorem EY(ys:AZ):(wU ys).Pairwise yw:=by
 have h:=yi (le:=Wc) (λa b c h1 h2=>by
  unfold Wc at *
  rw[ltCps_eq]at *
  simp only[j3,Q2]at *
  exact List.le_trans (α:=Nat) h1 h2) (λa b=>by
  unfold Wc;rw[ltCps_eq,ltCps_eq];simp only[Kj,j3,Q2];exact List.le_total a.cps.toList b.cps.toList) ys
 exact h.imp λ{a b} hh=>by simpa[Wc,yw]using hh
theorem YL{ys zs:AZ}(hp:zs.Perm ys)(hs:sortedS zs=true):zs=wU ys:=Ue (hp.trans (p8 ys).symm) (K6 hs) (EY ys)
def Jw:Y Bx->S Bx
 |[b]=>(qz b).bind λds=>(Ew ds).bind λys=>if ys.length<64 then Z (.o ((wU ys).map Dt.str))else O
 |_=>O
theorem Wd:qF X (.builtin "sorted") Jw:=f9.imp K5 λxs H Q q=>by
 obtain⟨bs,c,g,e,q⟩:=q;unfold Jw at e;split at e
 ·rename_i b;obtain⟨ds,i,e⟩:=AT e;obtain⟨ys,f,e⟩:=AT e;split at e
  ·rename_i n;cases e;obtain⟨v,rfl,j⟩:=BS g;obtain⟨p,vs,rfl,sq,rs⟩:=j.Hj i;obtain⟨rfl,m⟩:=Ar rs f;refine⟨p,ys,rfl,sq,n,λl zs d hp hs=>?_⟩;rw[YL hp hs];refine q _ _ (bU d) (λa ea=>by cases ea;exact d) ⟨l,_,rfl,bJ,Ey λy h=>m y ((p8 ys).mem_iff.mp h)⟩
  ·cases e
 ·cases e
def Om(x:AJ)(b:Bx):S Bx:=(qz b).bind λds=>(Ew ds).bind λys=>if(ys.map (·.length)).sum+ys.length*x.length<=100000 then Z (.z (.str (Txt.join x ys)))else O
theorem NS:Ll X "str.join" (λx xs H Q=>∃y p ys,x=.str y/\xs=[.ref p]/\uP X.K H p (ys.map V.str)/\(ys.map (·.length)).sum+ys.length*y.length<=100000/\Q (.str (Txt.join y ys)) H):=by
 intro AN s σ H x xs v us Q I b rs h;obtain⟨y,p,ys,rfl,rfl,sq,hb,q⟩:=h;obtain⟨t,rfl⟩:=b;obtain⟨u,rfl,a⟩:=BF rs;cases a;obtain⟨AQ,c,pl,d⟩:=I.list sq;exact join_list pl.isList (xQ c) (by omega) λe k=>⟨.str _,H,I.tok _,⟨_,rfl⟩,q⟩
theorem VM{p1:Pos}(h:QV X e f)(hx:x.length<=AA:=by decide)(i:attributeBase (.Constant (.str x) j p1) "join" X.env (eval (.Constant (.str x) j p1) X.env)=eval (.Constant (.str x) j p1) X.env:=by rfl)(l:((AD cpos (A9 [e] X.env)).all (λx=>!x.1)&&(backToKw cpos (keywordEach [] X.env)).all (λx=>x.1.isSome)&&decide ([e].length+([]:Y AC).length+(if([]:Y AC).isEmpty then 0 else 1)<30))=true:=by rfl)(m:(apos.endLine==cpos.line)=true:=by rfl)(hs:A9 [e] X.env=(false,eval e X.env)::A9 [] X.env:=by rfl):QV X (.Call (.Attribute (.Constant (.str x) j p1) "join" apos) [e] [] cpos) (b1 (Om x) f):=⟨have h:=h.run;Cp (X5 (T :="str") F.plainAttrs_str F.slot_str_join F.type_str_join NS (Yl (hx:=hx)) (NK h T6 hs) i l m hs Y3) λσ H Q q=>by
  obtain⟨H0,ρ,c,E,e,q⟩:=q;obtain⟨a,ea,e⟩:=AT e;refine⟨H0,ρ,_,E,rfl,λv H1 b y o=>?_⟩;obtain⟨rfl,u⟩:v=.str x/\x.length<=AA:=by simpa only[aW,AW]using o
  refine⟨rfl,H0,ρ,[a],E.grow b,by simp only[aq,ea,Option.bind_some],λvs H2 n t=>?_⟩;obtain⟨w,rfl,d⟩:=BS t;unfold Om at e;obtain⟨ds,s,e⟩:=AT e;obtain⟨ys,g,e⟩:=AT e;split at e
  ·rename_i hb;cases e;obtain⟨p,A,rfl,sq,rs⟩:=d.Hj s;obtain⟨rfl,z⟩:=Ar rs g;refine⟨x,p,ys,rfl,rfl,sq,hb,q _ _ (b.trans n) trivial ?_⟩;unfold aW AW;exact⟨rfl,joinOk_length (joinOk_of (by omega))⟩
  ·cases e⟩
def Fb:Y Bx->S Bx
 |[.z (.int a),.z (.int b)]=>Z (.z (.int (if b>a then b else a)))
 |_=>O
def Rq:Y Bx->S Bx
 |[.z (.int a),.z (.int b)]=>Z (.z (.int (if b<a then b else a)))
 |_=>O
theorem YM{a:Bx}(h:rP K H [a,b] vs):∃v w,vs=[v,w]/\aW K H a v/\aW K H b w:=by
 cases h with
 |cons p t=>
  cases t with
  |cons p' c=>cases c;exact⟨_,_,rfl,p,p'⟩
theorem xR(d:X.calm=true):qF X (.builtin "max") Fb:=by
 intro AN s σ H xs us Q I r h;obtain⟨bs,c,f,e,q⟩:=h;unfold Fb at e;split at e
 ·rename_i a b;cases e;obtain⟨v,w,rfl,j,n⟩:=YM f;have m:=KH j;have i:=KH n;subst m i;obtain⟨u,o,rfl,g,l⟩:=AX.two r;obtain⟨t,rfl⟩:=g;obtain⟨p,rfl⟩:=l;refine max_two_ints (I.ok.hd d) λh' tk kp=>?_;by_cases hb:b>a
  ·rw[zo hb]at q ⊢;exact⟨.int b,H,I.kept kp,⟨_,rfl⟩,q _ H (AV.refl H) trivial Cu⟩
  ·rw[zw hb]at q ⊢;exact⟨.int a,H,I.kept kp,⟨_,rfl⟩,q _ H (AV.refl H) trivial Cu⟩
 ·cases e
theorem Rr(d:X.calm=true):qF X (.builtin "min") Rq:=by
 intro AN s σ H xs us Q I r h;obtain⟨bs,c,f,e,q⟩:=h;unfold Rq at e;split at e
 ·rename_i a b;cases e;obtain⟨v,w,rfl,j,n⟩:=YM f;have m:=KH j;have i:=KH n;subst m i;obtain⟨u,o,rfl,g,l⟩:=AX.two r;obtain⟨t,rfl⟩:=g;obtain⟨p,rfl⟩:=l;refine min_two_ints (I.ok.hd d) λh' tk kp=>?_;by_cases hb:b<a
  ·rw[zo hb]at q ⊢;exact⟨.int b,H,I.kept kp,⟨_,rfl⟩,q _ H (AV.refl H) trivial Cu⟩
  ·rw[zw hb]at q ⊢;exact⟨.int a,H,I.kept kp,⟨_,rfl⟩,q _ H (AV.refl H) trivial Cu⟩
 ·cases e
def Fd(AO:Y (AY×Dt))(x:AY):S Dt:=(AO.find? λa=>decide (a.1=x)).map (·.2)
def K7(AO:Y (AY×Dt))(x:AY)(d:Dt):Y (AY×Dt):=
 if(AO.any λa=>decide (a.1=x))=true then AO.map (λa=>if a.1=x then(a.1,d)else a)else AO++[(x,d)]
theorem fH.nil:fH K H [] []:=⟨rfl,aO.nil,λp hp=>by cases hp⟩
theorem fH.inv{p:AY×Dt}{ks:Y (AY×V)}(h:fH K H (p::AO) ks):∃v r,ks=(p.1,v)::r/\AW K H p.2 v/\Yj p.1/\fH K H AO r:=by
 obtain⟨h1,h2,a⟩:=h;cases ks with
 |nil=>simp at h1
 |cons q r=>
  simp only[zt,ku]at h1;obtain⟨e,h1⟩:=h1;simp only[zt,aO]at h2;obtain⟨v,d,e2,c,b⟩:=h2;simp only[ku]at e2;obtain⟨rfl,rfl⟩:=e2;exact⟨q.2,r,by rw[<-e],c,a p (zh ..),h1,b,λx hx=>a x (zi _ hx)⟩
theorem fH.cons{p:AY×Dt}{AO:Y (AY×Dt)}{v:V}{r:Y (AY×V)}(a:AW K H p.2 v)(hp:Yj p.1)(h:fH K H AO r):fH K H (p::AO) ((p.1,v)::r):=
 ⟨by simp[h.1],aO.cons a h.2.1,λx hx=>by
  rcases List.mem_cons.mp hx with rfl|hx
  ·exact hp
  ·exact h.2.2 x hx⟩
theorem fH.append{AO:Y (AY×Dt)}{ks:Y (AY×V)}{x:AY}{d:Dt}{v:V}(h:fH K H AO ks)(a:AW K H d v)(hx:Yj x):fH K H (AO++[(x,d)]) (ks++[(x,v)]):=
 ⟨by simp[h.1],by rw[qh,qh];exact aO.append h.2.1 (aO.cons a aO.nil),λp hp=>by
  rcases List.mem_append.mp hp with hp|hp
  ·exact h.2.2 p hp
  ·cases List.mem_singleton.mp hp;exact hx⟩
theorem fH.len{ks:Y (AY×V)}(h:fH K H AO ks):ks.length=AO.length:=by
 have:=congrArg List.length h.1;simpa using this
theorem fH.look:∀{AO:Y (AY×Dt)} {ks:Y (AY×V)} {x:AY} {d:Dt},fH K H AO ks->Fd AO x=Z d->∃v,Ae ks x=Z v/\AW K H d v
 |[],_,_,_,_,e=>by cases e
 |p::AO,_,x,d,h,e=>by
  obtain⟨v,r,rfl,b,c,a⟩:=h.inv;unfold Fd at e;by_cases hp:p.1=x
  ·rw[ja (by simpa using hp)]at e;cases e;exact⟨v,yE (by rw[hp]),b⟩
  ·rw[kg (by simpa using hp)]at e;obtain⟨w,e1,e2⟩:=fH.look a e;exact⟨w,(yF (by simpa using hp)).trans e1,e2⟩
theorem fH.any:∀{AO:Y (AY×Dt)} {ks:Y (AY×V)} {x:AY},fH K H AO ks->(ks.any λa=>decide (a.1=x))=AO.any λa=>decide (a.1=x)
 |[],ks,_,h=>by
  have:=h.len;cases ks with
  |nil=>rfl
  |cons _ _=>simp at this
 |p::AO,_,x,h=>by
  obtain⟨v,r,rfl,d,c,b⟩:=h.inv;rw[JY,JY,fH.any b]
theorem fH.YQ:∀{AO:Y (AY×Dt)} {ks:Y (AY×V)} {x:AY} {d:Dt} {v:V},fH K H AO ks->AW K H d v->fH K H (AO.map λa=>if a.1=x then(a.1,d)else a) (ks.map λa=>if a.1=x then(a.1,v)else a)
 |[],ks,_,_,_,h,_=>by
  have:=h.len;cases ks with
  |nil=>exact fH.nil
  |cons _ _=>simp at this
 |p::AO,_,x,d,v,h,hd=>by
  obtain⟨w,r,rfl,e,c,f⟩:=h.inv;rw[zt,zt];have b:=fH.YQ (x:=x) f hd;by_cases hp:p.1=x
  ·rw[zo hp,zo (by simp[hp])];exact fH.cons (p:=(p.1,d)) hd c b
  ·rw[zw hp,zw (by simpa using hp)];exact fH.cons e c b
theorem fH.put{ks:Y (AY×V)}{x:AY}(h:fH K H AO ks)(a:AW K H d v)(hx:Yj x):fH K H (K7 AO x d) (BD ks x v):=by
 unfold K7 BD;rw[h.any];split
 ·exact h.YQ a
 ·exact h.append a hx
section
variable{ek o:Expr}{pos':Pos}
def Cs:Bx->S AY
 |.z (.str x)=>Z (.inr x)
 |.z (.int i)=>Z (.inl i)
 |_=>O
theorem K8{k:AY}(e:Cs b=Z k)(r:aW K H b v):v=kV k/\Yj k:=by
 unfold Cs at e;split at e
 ·cases e;simp only[aW,AW]at r;exact r
 ·cases e;simp only[aW,AW]at r;exact⟨r,trivial⟩
 ·cases e
def jY:Bx->Bx->S Bx
 |.n AO,b=>(Cs b).bind λk=>(Fd AO k).bind λd=>Z (.z d)
 |_,_=>O
theorem Rt{a c:Bx}(h:jY a b=Z c):∃AO k d,a=.n AO/\Cs b=Z k/\Fd AO k=Z d/\c=.z d:=by
 unfold jY at h;split at h
 ·obtain⟨k,ek,h⟩:=AT h;obtain⟨d,e,h⟩:=AT h;cases h;exact⟨_,k,d,rfl,ek,e,rfl⟩
 ·cases h
theorem gP(C:X.A.units+100<cLine)(ho:QV X o fo)(f:QV X ek fk)(hs:HQ ek:=by intro _ _;rfl):QV X (.Subscript o ek pos) (b2 jY fo fk):=⟨have ho:=ho.run;have f:=f.run;Cp (SE (by omega) ho f hs) λσ H Q h=>by
 obtain⟨H0,ρ,c,E,e,q⟩:=h;obtain⟨a,ea,e⟩:=AT e;obtain⟨b,eb,e⟩:=AT e;refine⟨H0,ρ,a,E,ea,λv H1 i z m=>⟨H0,ρ,b,E.grow i,eb,λw H2 g B y=>?_⟩⟩;obtain⟨AO,x,d,rfl,l,n,rfl⟩:=Rt e;obtain⟨p,ks,rfl,t,u⟩:=m.same g;obtain⟨j,ev,s⟩:=u.look n;obtain⟨rfl,_⟩:=K8 l y;exact⟨p,j,rfl,.inl ⟨ks,x,t,rfl,ev.symm⟩,q _ _ (i.trans g) trivial s⟩⟩
def Oo(ρ:Ev)(i:Nat):Bx->Bx->S Ap
 |.z d,b=>(Cs b).bind λx=>match ρ[i]? with
  |some (Z (.m AO w))=>if AO.length<1000 then Z (.nx (ρ.set i (Z (.m (K7 AO x d) w))))else O
  |_=>O
 |_,_=>O
def Ug(i:Nat)(f fk:Ev->S Bx):Ev->S Ap:=λρ=>(f ρ).bind λb=>(fk ρ).bind λk=>Oo ρ i b k
theorem Ru{k:Bx}{r:Ap}(h:Oo ρ i b k=Z r):∃d y AO w,b=.z d/\Cs k=Z y/\ρ[i]?=Z (Z (.m AO w))/\AO.length<1000/\r=.nx (ρ.set i (Z (.m (K7 AO y d) w))):=by
 unfold Oo at h;split at h
 ·obtain⟨y,e,h⟩:=AT h;split at h
  ·rename_i a;split at h
   ·rename_i c;cases h;exact⟨_,y,_,_,rfl,e,a,c,rfl⟩
   ·cases h
  ·cases h
 ·cases h
theorem Uh(i:Nat){p:Pos}(W:X.A.units+100<cLine)(he:QV X e f)(g:QV X ek fk)(t:X.N[i]?=Z x:=by rfl)(G:Xj X.env.scope x:=by first|exact JU rfl|exact Q3 (JU Y3)|exact Q3 (Q3 Y3))(B:(x==("__debug__":AJ))=false:=by decide)(z:(x==("__classdict__":AJ))=false:=by decide)(hs:swapsWith e (Z (.Subscript (.Name x p) ek pos')) pos.line X.env=pure false:=by rfl):NP X (.Assign [.Subscript (.Name x p) ek pos'] e pos) (λρ=>(f ρ).bind λb=>(fk ρ).bind λk=>Oo ρ i b k):=⟨have he:=he.run;have g:=g.run;T5 (Pc (by omega) (uO (i:=i) t G B z) g he hs) λD σ H h=>by
  obtain⟨H0,ρ,r,E,e,q⟩:=h;obtain⟨b,eb,e⟩:=AT e;obtain⟨k,ek,e⟩:=AT e;refine⟨H0,ρ,b,E,eb,λv H1 C P L=>?_⟩;obtain⟨d,y,AO,Q,rfl,o,m,J,rfl⟩:=Ru e;have j:=E.grow C;obtain⟨w,e1,a,ks,rfl,K,n,s⟩:=j.val i _ m;refine⟨_,e1,H0,ρ,_,j,ek,λu H2 c U F=>?_⟩;obtain⟨rfl,I⟩:=K8 o F;have M:=j.grow c;have l:=c _ _ K;have kp:Kp H2 (B6 H2 a (.dK (BD ks y v))):=.dk l;refine⟨a,_,rfl,Yd.k (k:=y) l (by rw[n.len];exact Nat.lt_trans J (by decide)),q _ _ ?_⟩;exact M.afm m Y3 e1 kp ⟨a,_,rfl,bJ,((n.kp (.of c)).put (x:=y) (aW.same c L) I).kp kp,s⟩⟩
end
section
variable{a b:Expr}{fs:Ev->S (Y Bx)}
theorem tD{j}(hx:x.length<=AA:=by decide):QV X (.Constant (.str x) j pos) (cB (.str x)):=⟨P1.Yl (hx:=hx)⟩
end
section
variable{a b:Expr}{fs:Ev->S (Y Bx)}
variable{AS:Y Expr}
theorem ak(h1:QV X e f)(h2:Xl X es fs)(hs:A9 (e::es) X.env=(false,eval e X.env)::A9 es X.env:=by rfl):Xl X (e::es) (aq f fs):=⟨P1.NK (h1:=h1.run) (h2:=h2.run) (hs:=hs)⟩
theorem aC  :Xl X [] (λ_=>Z []):=⟨P1.T6 ⟩
end
theorem P9{st:AB}{f:A1}{k m:Nat}(F:Co K x qual st f fd)(S:bL N ps (aP st))(e:N.length=n)(b:ps.length=m)(c:∀(a:A0) (A:A5) (outer:Y Env) (s:A2) (H:Hp) (E:XK),nF k (A.deeper (AK qual (aP st) s.heap.objs.size f a))->Ra (DN Kr P w K mg base N qual (aP st) f a A outer s H E).nox (jd st) g):
  uU P w K mg base Kr (k+1) f fd ps (Dx K m (dX n g)):=W' F S e b λa A outer s H E d=>(c a A outer s H E d).run
theorem Bt:∀(vs:Y A0) (ys:AZ),vs.length=ys.length->(∀(j:Nat) v,vs[j]?=Z v->∃y t,ys[j]?=Z y/\v=.str y t)->StrsAre vs ys
 |[],[],_,_=>.nil
 |v::vs,y::ys,hl,h=>by
  obtain⟨b,t,e,rfl⟩:=h 0 v rfl;cases e;exact .cons y t (Bt vs ys (by simpa using hl) λj v a=>h (j+1) v (by simpa using a))
theorem Rv{AO:Y (AY×A0)}{ys:AZ}(a:AO.map (·.1)=ys.map Sum.inr){b:Array A0}(h:ItemsOf (λi v=>∃k x,AO[i]?=Z (k,x)/\(bx prog w).is k v=true) b AO.length):StrsAre b.toList ys:=by
 have f:AO.length=ys.length:=by have:=congrArg List.length a;simpa using this
 refine Bt _ _ (by rw[qk,h.1,f]) λj v g=>?_;obtain⟨k,x,e,hi⟩:=h.2 j v (by simpa using g);have e1:(AO.map (·.1))[j]?=Z k:=by rw[Zl,e];rfl
 rw[a,Zl]at e1;cases c:ys[j]? with
 |none=>rw[c]at e1;cases e1
 |some y=>
  rw[c]at e1;cases e1;have d:kh (Sum.inr y) v=true:=hi;rcases bM d with⟨i,t,e2,e3⟩|⟨z,t,e2,e3⟩
  ·cases e2
  ·cases e2;exact⟨_,t,rfl,e3⟩
def Wf:Y (AY×Dt)->S AZ
 |[]=>Z []
 |(.inr x,_)::r=>(Wf r).bind λys=>Z (x::ys)
 |(.inl _,_)::_=>O
theorem vZ:∀{AO:Y (AY×Dt)} {ys:AZ},Wf AO=Z ys->AO.map (·.1)=ys.map Sum.inr
 |[],_,e=>by cases e;rfl
 |(.inr x,_)::r,_,e=>by
  obtain⟨ys,e1,e⟩:=AT e;cases e;rw[zt,zt,vZ e1]
 |(.inl _,_)::_,_,e=>by cases e
theorem NV{ys:AZ}(e:Wf AO=Z ys)(h:∀p∈AO,Yj p.1)(y:AJ)(a:y∈ys):y.length<=AA:=by
 have:(Sum.inr y:AY)∈AO.map (·.1):=by rw[vZ e];exact List.mem_map.mpr ⟨y,a,rfl⟩
 obtain⟨p,hp,ep⟩:=List.mem_map.mp this;have:=h p hp;rw[ep]at this;exact this
theorem Ui:∀{ks:Y (AY×V)} {vs:Y (AY×A0)},KV ks vs->vs.map (·.1)=ks.map (·.1)
 |_,_,.nil=>rfl
 |_,_,.cons h t=>by rw[zt,zt,Ui t,h.1]
theorem bR.ahP(E:bR K H0 H σ ρ)(i:Nat):bR K H0 H σ (ρ.set i O):=by
 have back:∀(j:Nat) (b:Bx),(ρ.set i O)[j]?=Z (Z b)->ρ[j]?=Z (Z b):=λj b e=>by
  rw[KP]at e;split at e
  ·split at e<;>cases e
  ·exact e
 refine⟨by rw[ko];exact E.len,λj b e=>E.val j b (back j b e),λj k c a b e1 d e2 e3 f g=>E.own j k c a b (back _ _ e1) d e2 (back _ _ e3) f g,E.base,λj c a e1 d e2=>E.new j c a (back _ _ e1) d e2⟩
def kill(is:Y Nat)(ρ:Ev):Ev:=is.foldl (λρ i=>ρ.set i O) ρ
theorem bR.kill{K:B0}{H0 H:Hp}{σ:L2.St}:∀(is:Y Nat) {ρ:Ev},bR K H0 H σ ρ->bR K H0 H σ (P1.kill is ρ)
 |[],_,E=>E
 |i::is,_,E=>bR.kill is (E.ahP i)
def cT(is:Y Nat):Ev->S Ap:=λρ=>Z (.nx (kill is ρ))
theorem YS{c:Y AB}(is:Y Nat)(h:TF X c g):TF X c (aH g (cT is)):=HP h λD σ H q=>by
 obtain⟨H0,ρ,r,E,e,q⟩:=q;obtain⟨a,e1,e⟩:=AT e;refine⟨H0,ρ,a,E,e1,?_⟩;cases a with
 |nx f=>cases e;exact λσ' H' d=>q σ' H' (d.kill is)
 |rt b=>cases e;exact q
 |bk b=>cases e;exact q
 |ct b=>cases e;exact q
theorem aV{a:Y AB}(is:Y Nat)(h:Ra X a g):Ra X a (aH g (cT is)):=⟨YS is h.run⟩
end P1
namespace S1
section
variable(rk:A0->Nat)
def at_(xs:Array Keyed)(i:Nat):Nat:=match xs[i]? with
 |some p=>rk p.1
 |none=>0
def Up(xs:Array Keyed)(k:Nat):Prop:=∀i j,i<=j->j<k->at_ rk xs i<=at_ rk xs j
def CH(xs:Array Keyed)(k:Nat):Prop:=∀i j,i<=j->j<k->at_ rk xs j<=at_ rk xs i
structure Bs (kd:SortKind) (b:Array Keyed) (st:SortSt):Prop where
 pm:(arrOf st).Perm b
 kd:kindOf st=kd
 fl:failedOf st=none
 pd:pendingOf st=#[]
variable{rk}{kd:SortKind}{b:Array Keyed}
theorem Bs.sz{st:SortSt}(h:Bs kd b st):(AM st).size=b.size:=h.pm.size_eq
theorem Bs.arr{st:SortSt}{xs:Array Keyed}(h:Bs kd b st)(hp:xs.Perm (AM st)):Bs kd b (PyProof.Rows.setArr st xs):=⟨hp.trans h.pm,h.kd,h.fl,h.pd⟩
theorem vA{xs ys:Array Keyed}(h:xs[i]?=ys[j]?):at_ rk xs i=at_ rk ys j:=by unfold at_;rw[h]
theorem YT{xs:Array Keyed}{p d:Nat}(hs:p<xs.size)(a:d<=p)(k:Nat):at_ rk (bubble xs p d) k=if k=p-d then at_ rk xs p else if p-d<k/\k<=p then at_ rk xs (k-1)else at_ rk xs k:=by
 have e:=getElem?_bubble hs d a k;by_cases q:k=p-d
 ·simp only[zo q]at e ⊢;exact vA e
 ·simp only[zw q]at e ⊢;by_cases q2:p-d<k/\k<=p
  ·simp only[zo q2]at e ⊢;exact vA e
  ·simp only[zw q2]at e ⊢;exact vA e
theorem Rw{xs:Array Keyed}(a:j<=xs.size)(k:Nat):at_ rk (mirror xs i j ((j-i) / 2)) k=if i<=k/\k<j then at_ rk xs (i+j-1-k)else at_ rk xs k:=by
 have e:=getElem?_mirror_all (i:=i) a k;by_cases q:i<=k/\k<j
 ·simp only[zo q]at e ⊢;exact vA e
 ·simp only[zw q]at e ⊢;exact vA e
theorem yZ{xs:Array Keyed}(a:j<=xs.size)(he:∀k,i<=k->k<j->at_ rk xs k=at_ rk xs (j-1))(k:Nat):at_ rk (mirror xs i j ((j-i) / 2)) k=at_ rk xs k:=by
 rw[Rw a];by_cases q:i<=k/\k<j
 ·rw[zo q,he (i+j-1-k) (by omega) (by omega),he k q.1 q.2]
 ·rw[zw q]
end
section
variable{b:Array Keyed}{kd:SortKind}{rk:A0->Nat}
def Xo(prog:A3)(w:A4)(A:A5)(s:A2)(kd:SortKind)(rk:A0->Nat)(b:Array Keyed):Prop:=
 ∀(E:BB) (p q:Keyed) (Q:Bool->A2->Prop),p∈b.toList->q∈b.toList->Q (decide (rk p.1<rk q.1)) s->A7 (A8 prog w) A (keyLt' kd p.1 q.1) Q E s
theorem Oq{st:SortSt}{Q:S Bool->SortSt->Prop}(g:Xo prog w A s kd rk b)(B:Bs kd b st)(hi:i<b.size)(a:j<b.size)(h:Q (Z (decide (at_ rk (AM st) i<at_ rk (AM st) j))) st):wpS (A8 prog w) A E s (ltAt' i j) Q st:=by
 have get:∀k,k<b.size->∃p,(AM st)[k]?=Z p/\p∈b.toList:=λk e=>by
  have f:k<(AM st).size:=by rw[B.sz];exact e
  exact⟨(AM st)[k],getElem?_pos _ k f,(Array.perm_iff_toList_perm.mp B.pm).mem_iff.mp (by simp)⟩
 obtain⟨p,e1,c⟩:=get i hi;obtain⟨q,e2,d⟩:=get j a;have h:Q (Z (decide (rk p.1<rk q.1))) st:=by unfold at_ at h;rw[e1,e2]at h;exact h
 rw[ltAt'_eq];refine AL (wpS_get ?_);show wpS _ _ _ _ (elem' (AM st) i >>= λx=>elem' (AM st) j >>= λy=>lt' x y) Q st;rw[elem'_eq,elem'_eq,e1,e2];refine AL (wpS_pure ?_);refine AL (wpS_pure ?_);rw[lt'_eq];refine AL (wpS_get ?_);rw[B.kd];exact AL (wpS_lift (wpAny_attempt (g _ p q _ c d ⟨rfl,wpS_pure h⟩)))
theorem MO{st:SortSt}{a:Nat}{Q:AscSt->SortSt->Prop}(o:Xo prog w A s kd rk b)(y:n<=b.size)(u:1<=a)(g:a<=n)(B:Bs kd b st)(hs:Up rk (AM st) a)(h:∀m,a<=m->m<=n->Up rk (AM st) m->(m=n\/at_ rk (AM st) m<at_ rk (AM st) (m-1))->Q (O,m) st):wpS (A8 prog w) A E s (ascLoop a n) Q st:=by
 unfold ascLoop;refine wpS_forRange (I:=λx c t=>t=st/\c=(O,x)/\Up rk (AM st) x) ?_ ?_ ⟨rfl,rfl,hs⟩
 ·rintro x c t l v ⟨rfl,rfl,d⟩;refine AL (Oq o B (by omega) (by omega) ?_);by_cases q:at_ rk (AM t) x<at_ rk (AM t) (x-1)
  ·simp only[q,KI,qA];exact wpS_pure (h x l (by omega) d (.inr q))
  ·simp only[q,kQ,zl,ZI];refine wpS_pure ⟨rfl,rfl,λi j f p=>?_⟩;by_cases hx:j<x
   ·exact d i j f hx
   ·have e:j=x:=by omega
    subst e;by_cases hi:i=j
    ·rw[hi];exact zk _
    ·have:=d i (j-1) (by omega) (by omega);omega
 ·rintro c t ⟨rfl,rfl,d⟩;rw[show max a n=n by omega]at d ⊢;exact h n g (zk _) d (.inl Y3)
theorem t3{st:SortSt}{m:Nat}{Q:S Nat->SortSt->Prop}(l:Xo prog w A s kd rk b)(g:n<=b.size)(h1:1<=m)(e:m<=n)(B:Bs kd b st)(hs:CH rk (AM st) m)(h:∀k t,Bs kd b t->1<=k->k<=n->Up rk (AM t) k->Q (Z k) t):wpS (A8 prog w) A E s (tail3 m n) Q st:=by
 unfold tail3;have a:m<=(AM st).size:=by rw[B.sz];omega
 refine AL (wpS_reverse ?_);have c:Bs kd b (PyProof.Rows.setArr st (mirror (AM st) 0 m ((m-0) / 2))):=B.arr (mirror_perm _ _ _ _);refine AL (MO l g h1 e c (λi j q p=>?_) λk o f d _=>wpS_pure (h k _ c (by omega) f d));show at_ rk (mirror (AM st) 0 m ((m-0) / 2)) i<=at_ rk (mirror (AM st) 0 m ((m-0) / 2)) j;rw[Rw a,Rw a,zo ⟨by omega,by omega⟩,zo ⟨by omega,by omega⟩];exact hs _ _ (by omega) (by omega)
theorem NR{st:SortSt}{m:Nat}{Q:DescSt->SortSt->Prop}(l:Xo prog w A s kd rk b)(F:n<=b.size)(h1:1<=m)(y:m<=n)(B:Bs kd b st)(hs:CH rk (AM st) m)(h:∀k e t,Bs kd b t->m<=k->k<=n->CH rk (AM t) k->e+1<=k->(∀i,k-(e+1)<=i->i<k->at_ rk (AM t) i=at_ rk (AM t) (k-1))->Q (O,k,e) t):wpS (A8 prog w) A E s (descLoop m n) Q st:=by
 unfold descLoop;refine wpS_forRange (I:=λx c t=>∃e,c=(O,x,e)/\Bs kd b t/\CH rk (AM t) x/\e+1<=x/\∀i,x-(e+1)<=i->i<x->at_ rk (AM t) i=at_ rk (AM t) (x-1)) ?_ ?_ ⟨0,rfl,B,hs,by omega,λi q1 q2=>by rw[show i=m-1 by omega]⟩
 ·rintro x c t u D ⟨e,rfl,a,dn,f,d⟩;have p:x<=(AM t).size:=by rw[a.sz];omega
  have grow:∀xs:Array Keyed,(∀k,at_ rk xs k=at_ rk (AM t) k)->at_ rk (AM t) x<=at_ rk (AM t) (x-1)->CH rk xs (x+1):=λxs g C i j o z=>by
   rw[g,g];by_cases hx:j<x
   ·exact dn i j o hx
   ·have v:j=x:=by omega
    subst v;by_cases hi:i=j
    ·rw[hi];exact zk _
    ·have:=dn i (j-1) (by omega) (by omega);omega
  dsimp only;refine AL (Oq l a (by omega) (by omega) ?_);by_cases q:at_ rk (AM t) x<at_ rk (AM t) (x-1)
  ·simp only[q,KI,qA];by_cases h0:e>0
   ·rw[zo h0];exact AL (wpS_reverse (wpS_pure ⟨0,rfl,a.arr (mirror_perm _ _ _ _),grow _ (yZ p d) (by omega),by omega,λi q1 q2=>by rw[show i=x by omega];rfl⟩))
   ·rw[zw h0];exact wpS_pure ⟨0,rfl,a,grow _ (λ_=>Y3) (by omega),by omega,λi q1 q2=>by rw[show i=x by omega];rfl⟩
  ·simp only[q,kQ,zl,ZI];refine AL (Oq l a (by omega) (by omega) ?_);by_cases q2:at_ rk (AM t) (x-1)<at_ rk (AM t) x
   ·simp only[q2,KI,qA];exact wpS_pure (h x e t a u (by omega) dn f d)
   ·simp only[q2,kQ,zl,ZI];refine wpS_pure ⟨e+1,rfl,a,grow _ (λ_=>Y3) (by omega),by omega,λi H G=>?_⟩;rw[show x+1-1=x by omega];by_cases hi:i=x
    ·rw[hi]
    ·rw[d i (by omega) (by omega)];omega
 ·rintro c t ⟨e,rfl,a,dn,f,d⟩;rw[show max m n=n by omega]at dn f d ⊢;exact h n e t a y (zk _) dn f d
theorem ME{st:SortSt}{m:Nat}{Q:S Nat->SortSt->Prop}(d:Xo prog w A s kd rk b)(c:n<=b.size)(q:m+1<=n)(B:Bs kd b st)(hs:CH rk (AM st) (m+1))(h:∀k t,Bs kd b t->1<=k->k<=n->Up rk (AM t) k->Q (Z k) t):wpS (A8 prog w) A E s (descPart m n) Q st:=by
 unfold descPart;refine AL (wpS_lift (k7 ⟨rfl,?_⟩));refine AL (NR d c (by omega) q B hs λk e t a u l dn v g=>?_);have f:k<=(AM t).size:=by rw[a.sz];omega
 by_cases h0:e>0
 ·simp only[zo h0];refine AL (wpS_reverse (t3 d c (by omega) l (a.arr (mirror_perm _ _ _ _)) (λi j p o=>?_) h));show at_ rk (mirror (AM t) _ _ _) j<=at_ rk (mirror (AM t) _ _ _) i;rw[yZ f g,yZ f g];exact dn i j p o
 ·simp only[zw h0];exact t3 d c (by omega) l a dn h
theorem XV{st:SortSt}{Q:S Nat->SortSt->Prop}(c:Xo prog w A s kd rk b)(e:n<=b.size)(h1:1<=n)(B:Bs kd b st)(h:∀k t,Bs kd b t->1<=k->k<=n->Up rk (AM t) k->Q (Z k) t):wpS (A8 prog w) A E s (countRun' 0 n) Q st:=by
 rw[countRun0_eq];refine AL (MO c e (zk 1) h1 B (λi j o f=>by rw[show i=j by omega];exact zk _) λm g l a or=>?_);by_cases d:m=n
 ·simp only[zo (show(m==n)=true by simpa using d)];exact wpS_pure (h m st B g l a)
 ·simp only[zw (show ¬ (m==n)=true by simpa using d)];have lt:=or.resolve_left d;have p:m<=(AM st).size:=by rw[B.sz];omega
  by_cases g1:m>1
  ·rw[zo g1];refine AL (Oq c B (by omega) (by omega) ?_);by_cases q:at_ rk (AM st) 0<at_ rk (AM st) (m-1)
   ·simp only[q,KI,qA];exact wpS_pure (h m st B g l a)
   ·simp only[q,kQ,zl,ZI];have all:∀k,0<=k->k<m->at_ rk (AM st) k=at_ rk (AM st) (m-1):=λk _ v=>by
     have a1:=a 0 k (by omega) v;have a2:=a k (m-1) (by omega) (by omega);omega
    refine AL (wpS_reverse (ME c e (by omega) (B.arr (mirror_perm _ _ _ _)) (λi j o f=>?_) h));show at_ rk (mirror (AM st) _ _ _) j<=at_ rk (mirror (AM st) _ _ _) i;rw[yZ p all,yZ p all];by_cases u:j<m
    ·rw[all i (by omega) (by omega),all j (by omega) u];exact zk _
    ·have x:j=m:=by omega
     subst x;by_cases hi:i=j
     ·rw[hi];exact zk _
     ·rw[all i (by omega) (by omega)];omega
  ·rw[zw g1];have e1:m=1:=by omega
   subst e1;refine ME c e (by omega) B (λi j o f=>?_) h;by_cases hi:i=j
   ·rw[hi];exact zk _
   ·rw[show i=0 by omega,show j=1 by omega];exact jS lt
theorem Hk{st:SortSt}{g:Nat}{Q:Bool->SortSt->Prop}(G:Xo prog w A s kd rk b)(K:n<=b.size)(M:g<=n)(B:Bs kd b st)(hs:Up rk (AM st) g)(h:∀t,Bs kd b t->Up rk (AM t) n->Q true t):wpS (A8 prog w) A E s (binarySort' 0 n g) Q st:=by
 rw[binarySort'_eq];simp only[Kk];refine AL (wpS_mono (wpS_forRange (I:=λk c t=>c=(O,())/\Bs kd b t/\Up rk (AM t) (min k n)) (Q:=λc t=>c=(O,())/\Bs kd b t/\Up rk (AM t) n) ?_ ?_ ?_) ?_)
 ·rintro k c t J L ⟨rfl,f,d⟩;rw[show min k n=k by omega]at d;have p:k<b.size:=by omega
  refine AL (wpS_mono (wpS_forRange (I:=λx c a=>a=t/\∃l r,c=(O,l,r)/\l<=r/\r<=k/\r-l<=k-x/\(∀i,i<l->at_ rk (AM t) i<=at_ rk (AM t) k)/\(∀i,r<=i->i<k->at_ rk (AM t) k<at_ rk (AM t) i))
   (Q:=λc a=>a=t/\∃l r,c=(O,l,r)/\l<=k/\(∀i,i<l->at_ rk (AM t) i<=at_ rk (AM t) k)/\(∀i,l<=i->i<k->at_ rk (AM t) k<at_ rk (AM t) i)) ?_ ?_ ?_) ?_)
  ·rintro x c a _ hx ⟨rfl,l,r,rfl,D,m,F,lo,hi⟩;dsimp only;by_cases v:l>=r
   ·rw[zo v];have e:l=r:=by omega
    subst e;exact wpS_pure ⟨rfl,l,l,rfl,m,lo,hi⟩
   ·rw[zw v];refine AL (Oq G f p (by omega) ?_);by_cases q:at_ rk (AM a) k<at_ rk (AM a) ((l+r) / 2)
    ·simp only[q,KI,qA];refine wpS_pure ⟨rfl,l,(l+r) / 2,rfl,by omega,by omega,by omega,lo,λi q1 q2=>?_⟩;have:=d ((l+r) / 2) i q1 q2;omega
    ·simp only[q,kQ,zl,ZI];refine wpS_pure ⟨rfl,(l+r) / 2+1,r,rfl,by omega,by omega,by omega,λi q1=>?_,hi⟩;have:=d i ((l+r) / 2) (by omega) (by omega);omega
  ·rintro c a ⟨rfl,l,r,rfl,D,m,F,lo,hi⟩;have e:l=r:=by omega
   subst e;exact⟨rfl,l,l,rfl,m,lo,hi⟩
  ·exact⟨rfl,0,k,rfl,by omega,by omega,by omega,λi hi=>by omega,λi q1 q2=>by omega⟩
  ·rintro c a ⟨rfl,l,r,rfl,H,lo,hi⟩;show wpS _ _ _ _ (moveDown' k l >>= λ_=>pure (ForInStep.yield (O,()))) _ _;rw[moveDown'_eq];refine AL (wpS_modify (wpS_pure ⟨rfl,f.arr (bubble_perm _ _ _),?_⟩));rw[show min (k+1) n=k+1 by omega];have u:k<(AM a).size:=by rw[f.sz];exact p
   intro i j o y;show at_ rk (bubble (AM a) k (k-l)) i<=at_ rk (bubble (AM a) k (k-l)) j;rw[YT u (by omega),YT u (by omega),show k-(k-l)=l by omega]
   repeat' split
   all_goals first
    |(exfalso;omega)
    |exact zk _
    |exact lo _ (by omega)
    |exact jS (hi _ (by omega) (by omega))
    |exact d _ _ (by omega) (by omega)
 ·rintro c t ⟨C,f,d⟩;refine⟨C,f,?_⟩;rwa [show min (max (max g 1) n) n=n by omega]at d
 ·refine⟨rfl,B,λi j o y=>?_⟩;by_cases z:g=0
  ·rw[show i=j by omega];exact zk _
  ·exact hs i j o (by omega)
 ·rintro c t ⟨rfl,f,d⟩;exact wpS_pure (h t f d)
def Dn(kd:SortKind)(rk:A0->Nat)(b:Array Keyed)(st:SortSt):Prop:=(AM st).Perm b/\failedOf st=O/\pendingOf st=#[(0,b.size,0)]/\Up rk (AM st) b.size
theorem Bs.dn{st:SortSt}(B:Bs kd b st)(a:Up rk (AM st) b.size):Dn kd rk b (setPending st ((pendingOf st).push (0,b.size,0))):=⟨B.pm,B.fl,(by show(pendingOf st).push _=_;rw[B.pd];rfl),a⟩
theorem G1{st:SortSt}{Q:Unit->SortSt->Prop}(d:Xo prog w A s kd rk b)(B:Bs kd b st)(h2:2<=b.size)(p:b.size<64)
  (h:∀t,(AM t).Perm b->failedOf t=O->Up rk (AM t) b.size->Q () t):wpS (A8 prog w) A E s sortRuns' Q st:=by
 rw[sortRuns'_eq];refine AL (wpS_get ?_);have v:minRun' b.size b.size 0=b.size:=by
  obtain⟨f,n⟩:∃f,b.size=f+1:=⟨b.size-1,by omega⟩;have q:minRun' (f+1) b.size 0=b.size:=(minRun'_succ f b.size 0).trans (zo p);rwa [<-n]at q
 simp only[B.sz,v];have back:∀{t:SortSt},Bs kd b t->(pendingOf t).back?=O:=λB=>by rw[B.pd];rfl
 refine AL (wpS_mono (wpS_forRange (I:=λx c t=>(x=0/\c=(O,0)/\Bs kd b t)\/(1<=x/\c=(O,b.size)/\Dn kd rk b t)) (Q:=λc t=>c=(O,b.size)/\Dn kd rk b t) ?_ ?_ (.inl ⟨rfl,rfl,B⟩)) ?_)
 ·rintro x c t _ hx (⟨rfl,rfl,l⟩|⟨z,rfl,D⟩)
  ·dsimp only;rw[zw (by omega)];simp only[Nat.sub_zero,Nat.min_self,Kk];refine AL (XV d (zk _) (by omega) l λm t2 a y i g=>?_);dsimp only;by_cases lt:m<b.size
   ·rw[zo lt];refine AL (wpS_lift (k7 ⟨rfl,AL (Hk d (zk _) i a g λt3 B3 o=>?_)⟩));simp only[kA,zl,ZI];refine AL (wpS_get ?_);rw[back B3];exact AL (wpS_modify (wpS_pure (.inr ⟨by omega,rfl,B3.dn o⟩)))
   ·rw[zw lt];have e:m=b.size:=by omega
    subst e;refine AL (wpS_get ?_);rw[back a];exact AL (wpS_modify (wpS_pure (.inr ⟨by omega,rfl,a.dn g⟩)))
  ·dsimp only;rw[zo (zk _)];exact wpS_pure ⟨rfl,D⟩
 ·rintro c t (⟨hx,_,_⟩|⟨_,j,D⟩)
  ·omega
  ·exact⟨j,D⟩
 ·rintro c t ⟨rfl,D⟩;dsimp only;refine AL (wpS_mono (wpS_forRange (I:=λ_ c u=>u=t/\c=(O,())) (Q:=λc u=>u=t/\c=(O,())) ?_ (λ_ _ q=>q) ⟨rfl,rfl⟩) ?_)
  ·rintro x c u _ _ ⟨rfl,rfl⟩;refine AL (wpS_get ?_);rw[zo (by rw[D.2.2.1];exact zk 1)];exact wpS_pure ⟨rfl,rfl⟩
  ·rintro c u ⟨rfl,rfl⟩;exact wpS_pure (h _ D.1 D.2.1 D.2.2.2)
def EN(a:A1)(s s':A2):Prop:=∀c o,c≠a->s.heap.get? c=Z o->s'.heap.get? c=Z o
theorem MV{vs:Y A0}{P:Fin->A2->Prop}(ho:s.heap.get? a=Z (seqObj "list" vs.toArray n))(u:2<=vs.length->∀s',EN a s s'->∀Q:SortKind->A2->Prop,Q kd s'->A7 (A8 prog w) A (keyKind' vs.toArray) Q E s')(p:∀s',EN a s s'->Xo prog w A s' kd rk (pairsOf vs))(x:vs.length<64)(h:∀st:SortSt,(AM st).Perm (pairsOf vs)->Up rk (AM st) (pairsOf vs).size->P (.done (.ret .none)) { s with heap:=sortedHeap s.heap a vs ((AM st).map (·.2)) }):
  A7 (A8 prog w) A (Builtin.«list.sort» ⟨[.ref a],[]⟩) P E s:=by
 rw[list_sort_plain];have m:=zz ho;refine zb (listItems_at ho Y3 (zb (listUpdate_at ho Y3 ?_)));obtain⟨e1,g1⟩:∃e1,(s.heap.update a (Obj.mapSeq λ_=>#[])).get? a=Z (seqObj "list" #[] e1):=⟨_,get?_update_seq ho λ_=>#[]⟩;refine zb (seqEpoch_at g1 Y3 (zb (wpAny_newTuple (zb (wpAny_newList (QP ?_))))));have z1:(s.heap.update a (Obj.mapSeq λ_=>#[])).objs.size=s.heap.objs.size:=Heap.size_update ..;have keep:∀c,c<s.heap.objs.size->(((s.heap.update a (Obj.mapSeq λ_=>#[])).push (seqObj "tuple" vs.toArray 0)).push (seqObj "list" #[] 0)).get? c=(s.heap.update a (Obj.mapSeq λ_=>#[])).get? c:=λc b=>by
  rw[Heap.get?_push_ne _ _ _ (by rw[size_push',z1];exact zI (qV b)),Heap.get?_push_ne _ _ _ (by rw[z1];exact zI b)]
 have d:=(keep a m).trans g1;have old:EN a s { s with heap:=((s.heap.update a (Obj.mapSeq λ_=>#[])).push (seqObj "tuple" vs.toArray 0)).push (seqObj "list" #[] 0) }:=λc o b e=>by
  show(((s.heap.update a (Obj.mapSeq λ_=>#[])).push (seqObj "tuple" vs.toArray 0)).push (seqObj "list" #[] 0)).get? c=Z o;rw[keep c (zz e),JA _ _ _ _ b];exact e
 show A7 _ _ _ _ _ { s with heap:=((s.heap.update a (Obj.mapSeq λ_=>#[])).push (seqObj "tuple" vs.toArray 0)).push (seqObj "list" #[] 0) };have z:vs.toArray.size=vs.length:=by simp
 have f:∀st:SortSt,(AM st).Perm (pairsOf vs)->((AM st).map (·.2)).size<=AA+1:=λst hp=>by
  have q:((AM st).map (·.2)).size=vs.length:=(Array.size_map ..).trans (hp.size_eq.trans (pairsOf_size _));rw[q,sizeLine_eq];omega
 by_cases h2:vs.toArray.size<2
 ·simp only[zo h2];refine zb (ze ?_);rw[StateT.run_pure];refine zb (ze (zb (seqEpoch_at d Y3 (zb (listUpdate_at d Y3 ?_ (hsz2:=f (SortSt.mk' general' (pairsOf vs) #[] 7 O) (Array.Perm.refl _)))))));simp only[bne_self_eq_false,zl,ZI];refine ze (h (SortSt.mk' general' (pairsOf vs) #[] 7 O) (Array.Perm.refl _) λi j B g=>?_);rw[pairsOf_size]at g;rw[show i=j by omega];exact zk _
 ·simp only[zw h2];refine zb (u (by omega) _ old _ ?_);refine zb (QA (G1 (p _ old) (st:=SortSt.mk' kd (pairsOf vs) #[] 7 O) (Q:=λ_ t=>(AM t).Perm (pairsOf vs)/\failedOf t=O/\Up rk (AM t) (pairsOf vs).size) ⟨Array.Perm.refl _,rfl,rfl,rfl⟩ (by rw[pairsOf_size];omega) (by rw[pairsOf_size];exact x) λt q1 q2 y=>⟨q1,q2,y⟩) ?_ λ_ _ q=>q);rintro⟨⟨⟩,t⟩ s' ⟨rfl,hp,v,l⟩;dsimp only;refine zb (seqEpoch_at d Y3 (zb (listUpdate_at d Y3 ?_ (hsz2:=f t hp))));rw[v];simp only[bne_self_eq_false,zl,ZI];exact ze (h t hp l)
theorem Wg{x:A0}{vs:Y A0}{Q:BB}(i:∀(d:BB) (f:Y A0->A2->Prop),(∀h' tk,s.heap.objs.size<=h'.objs.size->(∀c o,s.heap.get? c=Z o->h'.get? c=Z o)->f vs { s with heap:=h',toks:=tk })->A7 (A8 prog w) A.in1 (collect x) f d s)
  (t:2<=vs.length->∀(d:BB) (b:A5) (s':A2),(∀c o,s.heap.get? c=Z o->s'.heap.get? c=Z o)->∀Q:SortKind->A2->Prop,Q kd s'->A7 (A8 prog w) b (keyKind' vs.toArray) Q d s') (p:∀(b:A5) (s':A2),(∀c o,s.heap.get? c=Z o->s'.heap.get? c=Z o)->Xo prog w b s' kd rk (pairsOf vs)) (u:vs.length<64)
  (h:∀(l:A1) (h':A6) (tk n:Nat) (st:SortSt),(AM st).Perm (pairsOf vs)->Up rk (AM st) (pairsOf vs).size->s.heap.objs.size<=l->(∀c o,s.heap.get? c=Z o->h'.get? c=Z o)->h'.get? l=Z (seqObj "list" ((AM st).map (·.2)) n)->Q (.ref l) { s with heap:=h',toks:=tk }):
  A7 (A8 prog w) A (call (.builtin "sorted") [x]) Q E s:=by
 refine Calls.call_function_entry kind_sorted plain_sorted entry_sorted (args_sorted1 _) ?_;unfold Builtin.«sorted»;refine zb (m:=checkCount "sorted" 1 1 _) (ze (zb (i _ _ λh1 tk j ext=>zb (wpAny_newList ?_))));have a:(h1.push (seqObj "list" vs.toArray 0)).get? h1.objs.size=Z (seqObj "list" vs.toArray 0):=zv _ rfl;have old:∀s':A2,EN h1.objs.size { s with heap:=h1.push (seqObj "list" vs.toArray 0),toks:=tk } s'->∀c o,s.heap.get? c=Z o->s'.heap.get? c=Z o:=λs' q c o e=>
  q c o (zI (zz (ext c o e))) (zd _ (ext c o e))
 refine zb (QP (kc slot_list_sort ⟨_,a,rfl⟩ entry_list_sort (MV a (λq s' o=>t q _ _ s' (old s' o)) (λs' o=>p _ s' (old s' o)) u λst q1 q2=>⟨_,rfl,ze ⟨_,rfl,?_⟩⟩) (args_list_sort _)));obtain⟨n,g⟩:=sortedHeap_at (out:=(AM st).map (·.2)) a;refine h h1.objs.size _ tk n st q1 q2 j (λc o e=>?_) g;have hb:=zz (ext c o e);rw[sortedHeap_old (zI hb) (by rw[qq];exact qV hb)];exact zd _ (ext c o e)
end
end S1
namespace S1
open L2
theorem Wh(fb:Bool)(x y:A0):keyLt' (tuples' fb) x y=(do
  let xs <-Builtin.List.listItems x
  let ys <-Builtin.List.listItems y
  for ((p,q),i) in (xs.toList.zip ys.toList).zipIdx do
   if !(<-eqBool p q)then return <-oneLt' (fb&&i==0) p q
  return decide (xs.size<ys.size)):=rfl
def Wi:AY->AY->Bool
 |.inl a,.inl b=>decide (a<b)
 |.inr x,.inr y=>decide (x.cps.toList<y.cps.toList)
 |.inl _,.inr _=>true
 |.inr _,.inl _=>false
def Uj:AY->AY->Bool
 |.inl _,.inl _=>true
 |.inr _,.inr _=>true
 |_,_=>false
def nW:Y AY->Y AY->Bool
 |[],[]=>false
 |[],_::_=>true
 |_::_,[]=>false
 |x::xs,y::ys=>if x=y then nW xs ys else Wi x y
def D9:Y AY->Y AY->Prop
 |x::xs,y::ys=>Uj x y=true/\D9 xs ys
 |_,_=>True
theorem DZ{x y:AY}{p q:A0}{Q:Bool->A2->Prop}(hp:kh x p=true)(c:kh y q=true)(h:Q (decide (x=y)) s):A7 (A8 prog w) A (eqBool p q) Q E s:=
 (bx prog w).eqBool (a:=x) (b:=y) hp c h
theorem UK{fb:Bool}{x y:AY}{p q:A0}{Q:Bool->A2->Prop}(hs:Uj x y=true)(hp:kh x p=true)(a:kh y q=true)(h:Q (Wi x y) s):A7 (A8 prog w) A (oneLt' fb p q) Q E s:=by
 rcases bM hp with⟨i,t,rfl,rfl⟩|⟨z,t,rfl,rfl⟩
 ·rcases bM a with⟨j,u,rfl,rfl⟩|⟨z,u,rfl,rfl⟩
  ·cases fb with
   |true=>exact oneLt_int h
   |false=>
    rw[oneLt'_eq];simp only[zl,ZI];refine zb (show A7 _ _ (AG .Lt (.int i t) (.int j u)) _ _ _ from lt_int ?_);exact Q4 h
  ·cases hs
 ·rcases bM a with⟨j,u,rfl,rfl⟩|⟨b,u,rfl,rfl⟩
  ·cases hs
  ·cases fb with
   |true=>exact oneLt_str h
   |false=>
    rw[oneLt'_eq];simp only[zl,ZI];refine zb (show A7 _ _ (AG .Lt (.str z t) (.str b u)) _ _ _ from PySem.P.lt_str ?_);exact Q4 h
def Ks(ks:Y AY)(AQ:Y A0):Prop:=AI (λk v=>kh k v=true) ks AQ
def DL:Y AY->Y AY->S Bool
 |x::xs,y::ys=>if x=y then DL xs ys else Z (Wi x y)
 |_,_=>O
theorem YW:∀ks a:Y AY,nW ks a=match DL ks a with|some r=>r|none=>decide (ks.length<a.length)
 |[],[]=>rfl
 |[],_::_=>by simp[nW,DL]
 |_::_,[]=>rfl
 |x::xs,y::ys=>by
  simp only[nW,DL];by_cases e:x=y
  ·rw[zo e,zo e,YW xs ys];simp only[ZN,Nat.add_lt_add_iff_right]
  ·rw[zw e,zw e]
def turn(fb:Bool):(A0×A0)×Nat->S Bool×Unit->Sem (ForInStep (S Bool×Unit)):=λx _=>match x with
 |((p,q),i)=>do
  let e <-eqBool p q
  if(!e)=true then do
    let r <-oneLt' (fb&&i==0) p q
    pure (ForInStep.done (Z r,()))
   else pure (ForInStep.yield (O,()))
theorem EO(fb:Bool):∀(ks b:Y AY) (AQ a:Y A0) (i:Nat) (R:S Bool×Unit->A2->Prop),Ks ks AQ->Ks b a->D9 ks b->R (DL ks b,()) s->A7 (A8 prog w) A (forIn ((AQ.zip a).zipIdx i) ((O,()):S Bool×Unit) (turn fb)) R E s
 |[],_,_,_,_,R,.nil,_,_,h=>ze h
 |_::_,[],_::_,_,_,R,_,.nil,_,h=>ze h
 |x::xs,y::ys,p::AQ,q::a,i,R,.cons hp hk,.cons hq hl,hs,h=>by
  rw[List.zip_cons_cons,List.zipIdx_cons,List.forIn_cons];refine zb ?_;show A7 _ _ (eqBool p q >>= _) _ _ _;refine zb (DZ hp hq ?_);by_cases e:x=y
  ·simp only[e,KI,kA,zl,ZI];refine ze (EO fb xs ys AQ a (i+1) R hk hl hs.2 ?_);simp only[DL,zo e]at h;exact h
  ·simp only[e,kQ,kD,qA];refine zb (UK hs.1 hp hq (ze (ze ?_)));simp only[DL,zw e]at h;exact h
theorem VC{fb:Bool}{c:A1}{j f:AE}{d:Y A0}{m:Nat}{b:Y AY}{Q:Bool->A2->Prop}(o:s.heap.get? a=Z j)(p:j.data=.seq AQ.toArray n)(l:s.heap.get? c=Z f)(t:f.data=.seq d.toArray m)(i:Ks ks AQ)(g:Ks b d)(hs:D9 ks b)(h:Q (nW ks b) s):A7 (A8 prog w) A (keyLt' (tuples' fb) (.ref a) (.ref c)) Q E s:=by
 rw[Wh];refine zb (listItems_at o p (zb (listItems_at l t ?_)));have u:AQ.length=ks.length:=(Paired.length i).symm;have q:d.length=b.length:=(Paired.length g).symm;refine zb (EO fb ks b AQ d 0 _ i g hs ?_);rw[YW]at h;cases e:DL ks b with
 |some r=>rw[e]at h;exact ze h
 |none=>
  rw[e]at h;refine ze ?_;simpa[u,q]using h
theorem SF(x:AY):Wi x x=false:=by
 cases x with
 |inl a=>simp[Wi]
 |inr a=>simp[Wi]
theorem Wj{x y z:AY}(h:Wi x y=true)(h':Wi y z=true):Wi x z=true:=by
 cases x<;>cases y<;>cases z<;>simp only[Wi,ZY,zl,reduceCtorEq]at h h' ⊢
 ·omega
 ·exact List.lt_trans h h'
theorem cq{x y:AY}(h:Wi x y=false)(h':Wi y x=false):x=y:=by
 cases x<;>cases y<;>simp only[Wi,Q2,Bool.true_eq_false,reduceCtorEq]at h h'
 ·congr 1;omega
 ·rename_i a b;have:=List.le_antisymm (as:=a.cps.toList) (bs:=b.cps.toList) h' h;cases a;cases b;simp only at this;rw[Array.toList_inj.mp this]
theorem Fe:∀xs:Y AY,nW xs xs=false
 |[]=>rfl
 |x::xs=>by simp only[nW,qA];exact Fe xs
theorem qd:∀{xs ys zs:Y AY},nW xs ys=true->nW ys zs=true->nW xs zs=true
 |[],[],_,h,_=>by cases h
 |[],_::_,[],_,h'=>by cases h'
 |[],_::_,_::_,_,_=>rfl
 |_::_,[],_,h,_=>by cases h
 |_::_,_::_,[],_,h'=>by cases h'
 |x::xs,y::ys,z::zs,h,h'=>by
  simp only[nW]at h h' ⊢;by_cases e1:x=y
  ·subst e1;rw[zo rfl]at h;by_cases e2:x=z
   ·subst e2;rw[zo rfl]at h' ⊢;exact qd h h'
   ·rw[zw e2]at h' ⊢;exact h'
  ·rw[zw e1]at h;by_cases e2:y=z
   ·subst e2;rw[zw e1];exact h
   ·rw[zw e2]at h';have:=Wj h h';rw[zw (λe=>by subst e;rw[SF]at this;cases this)];exact this
theorem za:∀{xs ys:Y AY},nW xs ys=false->nW ys xs=false->xs=ys
 |[],[],_,_=>rfl
 |[],_::_,h,_=>by cases h
 |_::_,[],_,h'=>by cases h'
 |x::xs,y::ys,h,h'=>by
  simp only[nW]at h h';by_cases e:x=y
  ·subst e;rw[zo rfl]at h h';rw[za h h']
  ·rw[zw e]at h;rw[zw (KG e)]at h';exact absurd (cq h h') e
def xT(xs ys:Y AY):Bool:=!nW ys xs
theorem Fg(a b c:Y AY)(h:xT a b=true)(h':xT b c=true):xT a c=true:=by
 unfold xT at *
 simp only[j3]at *
 cases d:nW c a with
 |false=>rfl
 |true=>
  cases f:nW a b with
  |true=>rw[qd d f]at h';cases h'
  |false=>
   have e:=za f h;subst e;rw[d]at h';cases h'
theorem Fi(a b:Y AY):(xT a b||xT b a)=true:=by
 unfold xT;cases h:nW b a with
 |false=>rfl
 |true=>
  cases h':nW a b with
  |false=>rfl
  |true=>have:=qd h h';rw[Fe]at this;cases this
theorem Jx{a b:Y AY}(h:xT a b=true)(h':xT b a=true):a=b:=by
 unfold xT at *
 simp only[j3]at *
 exact za h' h
theorem vB{α:Type}{le:α->α->Prop}(c:∀a b,le a b->le b a->a=b):∀{l l':Y α},l.Perm l'->l.Pairwise le->l'.Pairwise le->l=l'
 |[],l',h,_,_=>by rw[List.nil_perm.mp h]
 |a::l,[],h,_,_=>by cases List.perm_nil.mp h
 |a::l,b::l',h,p,p'=>by
  have e:a=b:=by
   have d:a∈b::l':=h.mem_iff.mp (zh ..);have hb:b∈a::l:=h.mem_iff.mpr (zh ..);rcases List.mem_cons.mp d with h1|h1
   ·exact h1
   ·rcases List.mem_cons.mp hb with h2|h2
    ·exact h2.symm
    ·exact c a b (JJ p h2) (JJ p' h1)
  subst e;rw[vB c ((List.perm_cons a).mp h) (List.pairwise_cons.mp p).2 (List.pairwise_cons.mp p').2]
def lR(cR:Y (Y AY)):Y (Y AY):=cR.mergeSort xT
theorem nM(cR:Y (Y AY)):(lR cR).Perm cR:=List.mergeSort_perm ..
theorem vC(cR:Y (Y AY)):(lR cR).Pairwise (λa b=>xT a b=true):=yi Fg Fi cR
theorem wg{out:Y (Y AY)}(hp:out.Perm cR)(hs:out.Pairwise (λa b=>xT a b=true)):out=lR cR:=vB (λ_ _=>Jx) (hp.trans (nM cR).symm) hs (vC cR)
def CM(cR:Y (Y AY))(k:Y AY):Nat:=cR.countP λu=>nW u k
theorem Jy{α:Type}{p q:α->Bool}:∀{l:Y α},(∀x∈l,p x=true->q x=true)->(∃x∈l,p x=false/\q x=true)->l.countP p<l.countP q
 |[],_,⟨x,hx,_⟩=>by cases hx
 |a::l,h,⟨x,hx,h1,h2⟩=>by
  have le:l.countP p<=l.countP q:=List.countP_mono_left λy b=>h y (zi _ b);rw[List.countP_cons,List.countP_cons];rcases List.mem_cons.mp hx with rfl|hx
  ·rw[h1,h2];simp;omega
  ·have:=Jy (λy b=>h y (zi _ b)) ⟨x,hx,h1,h2⟩;have c:=h a (zh ..);cases hp:p a with
   |true=>rw[c hp];simp;omega
   |false=>simp;omega
theorem Uk{a b:Y AY}(d:a∈cR):decide (CM cR a<CM cR b)=nW a b:=by
 cases h:nW a b with
 |true=>
  refine z4 (Jy (λu _ c=>qd c h) ⟨a,d,Fe a,h⟩)
 |false=>
  refine Zp (Nat.not_lt.mpr (List.countP_mono_left λu _ c=>?_));cases hb:nW b a with
  |true=>exact qd c hb
  |false=>rw[za h hb];exact c
def jE(h:A6)(ks:Y AY)(v:A0):Prop:=∃(a:A1) (o:AE) (AQ:Y A0) (n:Nat),v=.ref a/\h.get? a=Z o/\o.cls=.type "tuple" ∧ o.data=.seq AQ.toArray n/\Ks ks AQ
theorem jE.keep{h':A6}{v:A0}(q:jE h ks v)(k:∀c o,h.get? c=Z o->h'.get? c=Z o):jE h' ks v:=by
 obtain⟨a,o,AQ,n,e,g,c,d,p⟩:=q;exact⟨a,o,AQ,n,e,k _ _ g,c,d,p⟩
theorem PP{k l:AY}{v:A0}(h:kh k v=true)(h':kh l v=true):k=l:=by
 rcases bM h with⟨i,t,rfl,rfl⟩|⟨x,t,rfl,rfl⟩
 ·rcases bM h' with⟨j,u,rfl,e⟩|⟨y,u,rfl,e⟩
  ·cases e;rfl
  ·cases e
 ·rcases bM h' with⟨j,u,rfl,e⟩|⟨y,u,rfl,e⟩
  ·cases e
  ·cases e;rfl
theorem Ks.inj:∀{ks a:Y AY} {AQ:Y A0},Ks ks AQ->Ks a AQ->ks=a
 |_,_,[],h,h'=>by cases h;cases h';rfl
 |_,_,v::AQ,h,h'=>by
  cases h with
  |cons p t=>cases h' with
   |cons p' t'=>rw[PP p p',Ks.inj t t']
theorem jE.inj{h:A6}{ks i:Y AY}{v:A0}(q:jE h ks v)(j:jE h i v):ks=i:=by
 obtain⟨a,o,AQ,n,rfl,g,c,d,p⟩:=q;obtain⟨m,o',l,t,e,f,s,b,p'⟩:=j;cases e;rw[g]at f;cases f;rw[d]at b;injection b with e1 e2;have e3:AQ=l:=by simpa using congrArg Array.toList e1
 subst e3;exact p.inj p'
theorem K9{α β:Type}{f:α->Sem β}:∀(xs:Y α) (ys:Y β) (Q:Y β->A2->Prop),AI (λx y=>∀(b:BB) (a:β->A2->Prop),a y s->A7 (A8 prog w) A (f x) a b s) xs ys->Q ys s->A7 (A8 prog w) A (xs.mapM f) Q E s
 |[],_,Q,.nil,h=>by rw[List.mapM_nil];exact ze h
 |x::xs,y::ys,Q,.cons h t,q=>by
  rw[List.mapM_cons];exact zb (h _ _ (zb (K9 xs ys _ t (ze q))))
theorem YX(v:A0):firstOfTuple' v=(do
  if(<-typeOf v) != .type "tuple" then return O
  return (<-Builtin.List.listItems v)[0]?):=rfl
theorem Wm{k:AY}{v:A0}(q:jE s.heap (k::ks) v):∃u,kh k u=true/\∀(e:BB) (b:S A0->A2->Prop),b (Z u) s->A7 (A8 prog w) A (firstOfTuple' v) b e s:=by
 obtain⟨a,o,AQ,n,rfl,g,c,d,p⟩:=q;cases p with
 |@cons _ u _ AQ hp t=>
  refine⟨u,hp,λe b h=>?_⟩;rw[YX];refine zb (QQ (T :="tuple") ⟨o,g,c⟩ ?_);rw[zw (by decide)];exact zb (listItems_at g d (ze h))
theorem YZ{k:AY}(h:kh k u=true)(b:BB)(a:BB)(q:a (.type (if k.isLeft then "int" else "str")) s):A7 (A8 prog w) A (typeOf u) a b s:=by
 rcases bM h with⟨i,t,rfl,rfl⟩|⟨x,t,rfl,rfl⟩
 ·exact QQ (typeIs_int s i t) q
 ·exact QQ (typeIs_str s x t) q
theorem Jz{vs:Y A0}{Q:SortKind->A2->Prop}(j:AI (jE s.heap) cR vs)(i:∀k∈cR,k≠[])(p:∀k∈cR,∀l∈cR,D9 k l)(h2:1<=vs.length)(h:Q (tuples' true) s):A7 (A8 prog w) A (keyKind' vs.toArray) Q E s:=by
 have step:∀(cR:Y (Y AY)) (vs:Y A0),AI (jE s.heap) cR vs->(∀k∈cR,k≠[])->∃us:Y A0,AI (λv u=>∀(c:BB) (a:S A0->A2->Prop),a (Z u) s->A7 (A8 prog w) A (firstOfTuple' v) a c s) vs us/\AI (λ(k:Y AY) u=>∃x r,k=x::r/\kh x u=true) cR us:=by
  intro cR vs j
  induction j with
  |nil=>intro _;exact⟨[],.nil,.nil⟩
  |@cons k v cR vs q t d=>
   intro i;obtain⟨us,p1,p2⟩:=d λk g=>i k (zi _ g);cases k with
   |nil=>exact absurd Y3 (i _ (zh ..))
   |cons x r=>
    obtain⟨u,e,z⟩:=Wm (prog:=prog) (w:=w) (A:=A) q;exact⟨u::us,.cons z p1,.cons ⟨x,r,rfl,e⟩ p2⟩
 obtain⟨us,p1,p2⟩:=step cR vs j i;have D:us.length=vs.length:=(Paired.length p1).symm;have C:∀{l:Y A0} {n:Y A0},AI (λv u=>∀(c:BB) (a:S A0->A2->Prop),a (Z u) s->A7 (A8 prog w) A (firstOfTuple' v) a c s) l n->AI (λv u=>∀(c:BB) (a:S A0->A2->Prop),a u s->A7 (A8 prog w) A (firstOfTuple' v) a c s) l (n.map Z):=λh=>by
  induction h with
  |nil=>exact .nil
  |cons q t d=>exact .cons q d
 rw[keyKind'_eq,List.mapM_toArray,map_eq_pure_bind];refine zb (zb (K9 vs (us.map Z) _ (C p1) (ze ?_)));have F:(us.map Z).toArray.all (·.isSome)=true:=by simp
 rw[zo F];refine zb (k7 ?_);have o:(us.map Z).toArray.filterMap id=us.toArray:=by simp
 rw[o,oneTypeOnly'_eq,List.mapM_toArray,map_eq_pure_bind];have ty:∀(cR:Y (Y AY)) (us:Y A0),AI (λ(k:Y AY) u=>∃x r,k=x::r/\kh x u=true) cR us->∃ts:Y A0,AI (λu t=>∀(c:BB) (a:BB),a t s->A7 (A8 prog w) A (typeOf u) a c s) us ts/\AI (λ(k:Y AY) t=>∃x r,k=x::r/\t=.type (if x.isLeft then "int" else "str")) cR ts:=by
  intro cR us hp
  induction hp with
  |nil=>exact⟨[],.nil,.nil⟩
  |@cons k u cR us q t d=>
   obtain⟨ts,q1,q2⟩:=d;obtain⟨x,r,rfl,hx⟩:=q;exact⟨_::ts,.cons (λc a h=>YZ hx c a h) q1,.cons ⟨x,r,rfl,rfl⟩ q2⟩
 obtain⟨ts,q1,q2⟩:=ty cR us p2;refine zb (zb (zb (K9 us ts _ q1 (ze ?_))));have lt:ts.length=vs.length:=by rw[<-Paired.length q1,D]
 cases q2 with
 |nil=>simp at lt;omega
 |@cons G J I m h0 B=>
  obtain⟨b,r,rfl,rfl⟩:=h0;have same:∀t∈m,t=Value.type (if b.isLeft then "int" else "str"):=by
   have y:∀(cR:Y (Y AY)) (ts:Y A0),AI (λ(k:Y AY) t=>∃x r,k=x::r/\t=Value.type (if x.isLeft then "int" else "str")) cR ts->(∀k∈cR,D9 (b::r) k)->∀t∈ts,t=Value.type (if b.isLeft then "int" else "str"):=by
    intro cR ts hp
    induction hp with
    |nil=>intro _ t f;cases f
    |@cons k t cR ts q _ d=>
     intro hs u e;rcases List.mem_cons.mp e with rfl|e
     ·obtain⟨x,H,rfl,rfl⟩:=q;have:=(hs _ (zh ..)).1;cases b<;>cases x<;>first|rfl|cases this
     ·exact d (λk g=>hs k (zi _ g)) u e
   exact y _ _ B λk g=>p _ (zh ..) k (zi _ g)
  have e0:(Value.type (if b.isLeft then "int" else "str")::m).toArray[0]?=Z (Value.type (if b.isLeft then "int" else "str")):=by simp
  have e1:((Value.type (if b.isLeft then "int" else "str")::m).toArray.all λx=>x==Value.type (if b.isLeft then "int" else "str"))=true:=by
   simp only[List.all_toArray,qo];intro t f;rcases List.mem_cons.mp f with rfl|f
   ·simp
   ·rw[same t f];simp
  rw[e0];simp only[e1,qA];refine ze (ze ?_);have e2:((Z (Value.type (if b.isLeft then "int" else "str"))).any λx=>x !=Value.type "tuple")=true:=by
   cases b with
   |inl _=>exact(by decide:((Z (Value.type "int")).any λx=>x !=Value.type "tuple")=true)
   |inr _=>exact(by decide:((Z (Value.type "str")).any λx=>x !=Value.type "tuple")=true)
  rw[e2];exact h
def BE(cR:Y (Y AY))(vs:Y A0)(v:A0):Y AY:=match (vs.zip cR).find? (λp=>p.1==v)with
 |some p=>p.2
 |none=>[]
theorem lU{h:A6}:∀{cR:Y (Y AY)} {vs:Y A0},AI (jE h) cR vs->∀v∈vs,BE cR vs v∈cR/\jE h (BE cR vs v) v
 |_,_,.nil,v,hv=>by cases hv
 |k::cR,u::vs,.cons q t,v,hv=>by
  unfold BE;rw[List.zip_cons_cons,kq];by_cases e:u=v
  ·subst e;simp only[beq_self_eq_true];exact⟨zh ..,q⟩
  ·have e':(u==v)=false:=by simpa using e
   simp only[e'];have b:v∈vs:=by
    rcases List.mem_cons.mp hv with h|h
    ·exact absurd h.symm e
    ·exact h
   have a:=lU t v b;exact⟨zi _ a.1,a.2⟩
theorem Bu{h:A6}:∀{cR:Y (Y AY)} {vs:Y A0},AI (jE h) cR vs->∀(K:A0->Y AY),(∀v∈vs,jE h (K v) v)->vs.map K=cR
 |_,_,.nil,_,_=>rfl
 |k::cR,v::vs,.cons q t,K,hK=>by
  rw[zt,(hK v (zh ..)).inj q,Bu t K λu a=>hK u (zi _ a)]
theorem xU{h:A6}:∀{vs:Y A0} {K:A0->Y AY},(∀v∈vs,jE h (K v) v)->AI (jE h) (vs.map K) vs
 |[],_,_=>.nil
 |v::vs,K,hK=>.cons (hK v (zh ..)) (xU λu a=>hK u (zi _ a))
theorem Ot{vs:Y A0}(i:AI (jE s.heap) cR vs)(y:∀k∈cR,∀l∈cR,D9 k l):Xo prog w A s (tuples' true) (λv=>CM cR (BE cR vs v)) (pairsOf vs):=by
 intro E p q Q hp f h;rw[pairsOf_toList]at hp f;obtain⟨b,t1⟩:=lU i p.1 (mem_zip_self hp).2;obtain⟨j,t2⟩:=lU i q.1 (mem_zip_self f).2;rw[Uk b]at h;have t:=y _ b _ j;obtain⟨a,o,AQ,n,e,g,c,d,k⟩:=t1;obtain⟨z,o',D,C,e',u,B,m,x⟩:=t2;rw[e,e'];exact VC g d u m k x t h
theorem Ou{vs:Y A0}(a:AI (jE h) cR vs){xs:Array Keyed}(hp:xs.Perm (pairsOf vs))(m:Up (λv=>CM cR (BE cR vs v)) xs (pairsOf vs).size):AI (jE h) (lR cR) (xs.map (·.2)).toList:=by
 have c:xs.toList.Perm (vs.zip vs):=by rw[<-pairsOf_toList];exact Array.perm_iff_toList_perm.mp hp
 have d:∀p∈xs.toList,p.1=p.2/\p.1∈vs:=λp q=>mem_zip_self (c.mem_iff.mp q);have e:(xs.map (·.2)).toList=xs.toList.map (·.1):=by
  rw[Array.toList_map];exact QR λp q=>(d p q).1.symm
 have pv:(xs.toList.map (·.1)).Perm vs:=by
  have:=c.map Prod.fst;rwa [List.map_fst_zip (zk _)]at this
 have n:lR cR=(xs.toList.map (·.1)).map (BE cR vs):=by
  refine(wg ?_ ?_).symm
  ·have:=pv.map (BE cR vs);rwa [Bu a _ λv q=>(lU a v q).2]at this
  ·rw[List.pairwise_iff_getElem];intro i j hi g o;have f:i<xs.size:=by simpa using hi
   have b:j<xs.size:=by simpa using g
   have u:=m i j (jS o) (by rw[<-hp.size_eq];exact b);unfold at_ at u;rw[getElem?_pos xs i f,getElem?_pos xs j b]at u;have l:=(lU a xs[j].1 (d xs[j] (by simp)).2).1;simp only[List.getElem_map,Array.getElem_toList];unfold xT;rw[<-Uk l,Zp (Nat.not_lt.mpr u)];rfl
 rw[n,e];refine xU λv q=>(lU a v ?_).2;exact pv.mem_iff.mp q
end S1
namespace P1
open L2 S1
theorem Rx{l:A1}{o:AE}{T:String}{vs:Y A0}{Q:Y A0->A2->Prop}(ho:s.heap.get? l=Z o)(a:o.cls=.type T)(f:T ="list" ∨ T ="tuple")(b:o.data=.seq vs.toArray n)(i:vs.length<=AA)(h:∀h' tk,s.heap.objs.size<=h'.objs.size->(∀c o,s.heap.get? c=Z o->h'.get? c=Z o)->Q vs { s with heap:=h',toks:=tk }):A7 (A8 prog w) A (collect (.ref l)) Q E s:=by
 unfold collect;refine zb (wpAny_runValue (JP entry_proto_collect' ?_));show A7 _ _ (newList [] >>= λq=>again (.builtin "list.__iadd__" ⟨[q,.ref l],[]⟩)) _ _ s;refine zb (wpAny_newList (ze ⟨Code.quiet_builtin _ (by decide +kernel),JP entry_list_iadd' ?_⟩));show A7 _ _ (Builtin.List.listExtendWith (.ref s.heap.objs.size) (.ref l) (.ref s.heap.objs.size)) _ _ _;unfold Builtin.List.listExtendWith;have g1:(s.heap.push (seqObj "list" #[] 0)).get? l=Z o:=zd _ ho;refine zb (QQ (T:=T) ⟨o,g1,a⟩ ?_);have d:(Value.type T==Value.type "list" || Value.type T==Value.type "tuple")=true:=by rcases f with rfl|rfl<;>decide
 rw[zo (by rw[Bool.or_assoc,d];simp)];refine zb (listItems_at g1 b (zb (listItems_at (xs:=#[]) (n:=0) (zv _ Y3) Y3 ?_)));rw[zw (by simp)];have g2:(s.heap.push (seqObj "list" #[] 0)).get? s.heap.objs.size=Z (seqObj "list" #[] 0):=zv _ rfl;refine zb (listUpdate_at (xs:=#[]) (n:=0) g2 Y3 (ze ?_) (QO _) (by show(#[]++vs.toArray).size<=AA+1;simp only[kX,zC,List.length_nil];omega));show A7 (A8 prog w) A (load s.heap.objs.size >>= _) Q E _;refine zb (Kt (get?_update_seq g2 _) ?_);show A7 _ _ (pure ((#[]:Array A0)++vs.toArray).toList) Q E _;rw[show((#[]:Array A0)++vs.toArray).toList=vs by simp];refine ze (h _ s.toks ?_ λc g e=>?_)
 ·rw[Heap.size_update,size_push'];exact Kb _
 ·rw[JA _ _ _ _ (zI (zz e))];exact zd _ e
def Gc:Dt->S AY
 |.int i=>Z (.inl i)
 |.str x=>Z (.inr x)
 |_=>O
def JB:Y Dt->S (Y AY)
 |[]=>Z []
 |d::ds=>(Gc d).bind λk=>(JB ds).bind λks=>Z (k::ks)
def JC:Dt->S (Y AY)
 |.tup ds=>JB ds
 |_=>O
def xV:Y Dt->S (Y (Y AY))
 |[]=>Z []
 |d::ds=>(JC d).bind λk=>(xV ds).bind λks=>Z (k::ks)
def dK:AY->Dt
 |.inl i=>.int i
 |.inr x=>.str x
def BM(ks:Y AY):Dt:=.tup (ks.map dK)
theorem NY{k:AY}(h:Gc d=Z k):d=dK k:=by
 cases d<;>cases h<;>rfl
theorem Ov:∀{ds:Y Dt} {ks:Y AY},JB ds=Z ks->ds=ks.map dK
 |[],_,h=>by cases h;rfl
 |d::ds,_,h=>by
  obtain⟨k,e1,h⟩:=AT h;obtain⟨ks,e2,h⟩:=AT h;cases h;rw[zt,NY e1,Ov e2]
theorem Ox(h:JC d=Z ks):d=BM ks:=by
 cases d with
 |tup ds=>exact congrArg Dt.tup (Ov h)
 |_=>cases h
theorem Aw:∀{ds:Y Dt} {cR:Y (Y AY)},xV ds=Z cR->ds=cR.map BM
 |[],_,h=>by cases h;rfl
 |d::ds,_,h=>by
  obtain⟨k,e1,h⟩:=AT h;obtain⟨ks,e2,h⟩:=AT h;cases h;rw[zt,Ox e1,Aw e2]
theorem VS{k:AY}(h:AW K H (dK k) v):v=kV k:=by
 cases k with
 |inl i=>exact(show v=.int i by simpa only[dK,AW]using h)
 |inr x=>exact(show v=.str x/\x.length<=AA by simpa only[dK,AW]using h).1
theorem JD{K:B0}{H:Hp}:∀{ks:Y AY} {vs:Y V},aO K H (ks.map dK) vs->vs=ks.map kV
 |[],_,h=>by simp only[JS,aO]at h;exact h
 |k::ks,_,h=>by
  simp only[zt,aO]at h;obtain⟨v,r,rfl,h1,h2⟩:=h;rw[VS h1,JD h2,zt]
theorem PF(X:Cx):∀{us:Y A0},AX (ks.map kV) us->Ks ks us:=by
 induction ks with
 |nil=>intro us h;cases h;exact .nil
 |cons k ks a=>
  intro us h;cases h with
  |cons r t=>exact .cons (DW (P:=X.prog) (w:=X.w) r) (a t)
theorem qG{AN:Y (A1×AE)}{σ:L2.St}{H:Hp}{s:A2}(I:AU X AN σ H s):∀{cR:Y (Y AY)} {vs:Y V} {AQ:Y A0},aO X.K H (cR.map BM) vs->AX vs AQ->AI (jE s.heap) cR AQ
 |[],_,_,h,r=>by
  simp only[JS,aO]at h;subst h;cases r;exact .nil
 |k::cR,_,_,h,r=>by
  simp only[zt,aO]at h;obtain⟨v,vs,rfl,h1,h2⟩:=h;cases r with
  |cons e f=>
   refine .cons ?_ (qG I h2 f);simp only[BM,AW]at h1;obtain⟨a,i,rfl,sq,rs⟩:=h1;obtain⟨AQ,b,⟨o,g,c,n,d⟩,_⟩:=I.tuple sq;cases e;rw[JD rs]at b;exact⟨a,o,AQ,n,rfl,g,c,d,PF X b⟩
theorem Ax{AN:Y (A1×AE)}{σ:L2.St}{H:Hp}{s:A2}(I:AU X AN σ H s){cR:Y (Y AY)}{vs:Y V}{AQ:Y A0}(h:aO X.K H (cR.map BM) vs)(r:AX vs AQ):∀{Xp:Y (Y AY)} {out:Y A0},AI (jE s.heap) Xp out->(∀u∈out,u∈AQ)->∃zs,AX zs out/\aO X.K H (Xp.map BM) zs
 |_,_,.nil,_=>⟨[],.nil,aO.nil⟩
 |l::Xp,u::out,.cons q t,hm=>by
  obtain⟨zs,z1,z2⟩:=Ax I h r t λx hx=>hm x (zi _ hx);have c:∀(cR:Y (Y AY)) (vs:Y V) (AQ:Y A0),aO X.K H (cR.map BM) vs->AX vs AQ->u∈AQ->∃v,As v u/\AW X.K H (BM l) v:=by
   intro cR
   induction cR with
   |nil=>
    intro vs AQ h r a;simp only[JS,aO]at h;subst h;cases r;cases a
   |cons k cR d=>
    intro vs AQ h r a;simp only[zt,aO]at h;obtain⟨v,vs,rfl,h1,h2⟩:=h;cases r with
    |@cons _ i _ _ b g=>
     rcases List.mem_cons.mp a with rfl|a
     ·have e:k=l:=by
       have:=qG I (cR:=[k]) (vs:=[v]) (AQ:=[u]) (by simp only[zt,JS];exact aO.cons h1 aO.nil) (.cons b .nil);cases this with
       |cons f _=>exact f.inj q
      subst e;exact⟨v,b,h1⟩
     ·exact d vs _ h2 g a
  obtain⟨v,b,h1⟩:=c cR vs AQ h r (hm u (zh ..));exact⟨v::zs,.cons b z1,by rw[zt];exact aO.cons h1 z2⟩
def Ry(k l:Y AY):Bool:=((k.zip l).all λp=>Uj p.1 p.2)
theorem Fj:∀{k l:Y AY},Ry k l=true->D9 k l
 |[],_,_=>by simp[D9]
 |_::_,[],_=>by simp[D9]
 |x::k,y::l,h=>by
  unfold Ry at h;rw[List.zip_cons_cons,kz,ZH]at h;exact⟨h.1,Fj h.2⟩
def HB(cR:Y (Y AY)):Bool:=decide (cR.length<64)&&(cR.all (λk=>!k.isEmpty)&&cR.all λk=>cR.all λl=>Ry k l)
def xW:Y Bx->S Bx
 |[b]=>(u5 b).bind λds=>(xV ds).bind λcR=>if HB cR=true then Z (.o ((lR cR).map BM))else O
 |_=>O
theorem Dl(h:aW K H b v)(e:u5 b=Z ds):∃a vs,v=.ref a/\(uP K H a vs\/z9 K H a vs)/\aO K H ds vs:=by
 cases b with
 |z d=>
  cases d<;>first|(cases e;done)|skip
  ·cases e;simp only[aW,AW]at h;obtain⟨a,vs,e,q,r⟩:=h;exact⟨a,vs,e,.inr q,r⟩
  ·cases e;simp only[aW,AW]at h;obtain⟨a,vs,e,q,r⟩:=h;exact⟨a,vs,e,.inl q.sq,r⟩
 |l c=>cases e;obtain⟨a,vs,e,q,r⟩:=h;exact⟨a,vs,e,.inl (.inl q),r⟩
 |o c=>cases e;obtain⟨a,vs,e,q,r⟩:=h;exact⟨a,vs,e,.inl (.inl (.inl q)),r⟩
 |n _=>cases e
 |m _ _=>cases e
theorem Fl:qF X (.builtin "sorted") xW:=by
 intro AN s σ H xs us Q I C h;obtain⟨bs,c,G,e,q⟩:=h;unfold xW at e;split at e
 ·rename_i b;obtain⟨ds,ed,e⟩:=AT e;obtain⟨cR,ek,e⟩:=AT e;split at e
  ·rename_i hs;cases e;simp only[HB,ZH,ZY,qo,j3]at hs;obtain⟨D,a0,y⟩:=hs;obtain⟨v,rfl,r1⟩:=BS G;obtain⟨p,vs,rfl,sq,rs⟩:=Dl r1 ed;obtain⟨u,rfl,J⟩:=BF C;cases J;have P:=Aw ek;subst P;have a1:∃(AQ:Y A0) (o:AE) (T:String) (n:Nat),AX vs AQ/\s.heap.get? p=Z o/\o.cls=.type T/\(T ="list" ∨ T ="tuple")/\o.data=.seq AQ.toArray n/\vs.length<=AA:=by
    rcases sq with sq|sq
    ·obtain⟨AQ,f,pl,t⟩:=I.list sq;obtain⟨o,g,c,n,d⟩:=pl.isList;exact⟨AQ,o,_,n,f,g,c,.inl rfl,d,t⟩
    ·obtain⟨AQ,f,⟨o,g,c,n,d⟩,t⟩:=I.tuple sq;exact⟨AQ,o,_,n,f,g,c,.inr rfl,d,t⟩
   obtain⟨AQ,o,T,n,f,g,B,N,M,t⟩:=a1;have a2:AQ.length=cR.length:=by rw[<-f.length,rs.length,zr]
   have tv:=qG I rs f;refine Wg (kd:=tuples' true) (rk:=λv=>CM cR (BE cR AQ v)) (vs:=AQ) (λL Q' x=>Rx g B N M (by rw[<-f.length];exact t) x)
    (λh2 L U s' k Q' x=>Jz (Paired.imp' (λ_ _ z=>jE.keep z k) tv) (λk j=>by have:=a0 k j;cases k with|nil=>cases this|cons _ _=>exact List.cons_ne_nil _ _) (λk j l i=>Fj (y k j l i)) (by omega) x)
    (λU s' k=>Ot (Paired.imp' (λ_ _ z=>jE.keep z k) tv) λk j l i=>Fj (y k j l i)) (by omega) λl h' tk m st hp F i ext hL=>?_
   have out:=Ou tv hp F;have mem:∀u∈((AM st).map (·.2)).toList,u∈AQ:=λu A=>by
    rw[Array.toList_map]at A;obtain⟨pr,K,rfl⟩:=List.mem_map.mp A;have E:pr∈AQ.zip AQ:=by rw[<-pairsOf_toList];exact(Array.perm_iff_toList_perm.mp hp).mem_iff.mp K
    have:=mem_zip_self E;rw[<-this.1];exact this.2
   obtain⟨zs,z1,z2⟩:=Ax I rs f out mem;have W:zs.length=cR.length:=by rw[z2.length,zr,(nM cR).length_eq]
   have w:H l=O:=I.hok.fresh i;refine⟨.ref l,_,I.laid (t':=tk) (a:=l) (o:=.lst zs) ext i ⟨by rw[W];exact jS (ZU D (by decide)),_,m,z1,?_⟩,rfl,q _ _ (bU w) (λa ea=>by cases ea;exact w) ⟨l,zs,rfl,bJ,z2.kp (.of (bU w))⟩⟩;rw[hL]
  ·cases e
 ·cases e
end P1
namespace S6
theorem Wn{b:Source}{Q:Nat->A2->Prop}(a:n≠0)(h:∀i d,i<n->Q i { s with drawn:=d }):A7 M A (choose b n) Q E s:=
 λe p c=>⟨a,h _ _ (Nat.mod_lt _ (Nat.pos_of_ne_zero a))⟩
theorem La{α:Type}:∀{xs:Y α} {i:Nat} (hi:i<xs.length),(xs[i]::xs.eraseIdx i).Perm xs
 |x::xs,0,_=>List.Perm.refl _
 |x::xs,i+1,h=>by
  rw[List.eraseIdx_cons_succ,List.getElem_cons_succ];exact(List.Perm.swap _ _ _).trans ((La (xs:=xs) (i:=i) (by simpa using h)).cons x)
theorem TU:∀(n:Nat) (xs:Y α) (s:A2) (Q:Y α->A2->Prop),xs.length=n->(∀ys d,ys.Perm xs->Q ys { s with drawn:=d })->A7 M A (drawOrder n xs) Q E s:=by
 intro n
 induction n with
 |zero=>
  intro xs s Q a h;cases xs with
  |nil=>
   unfold drawOrder;exact ze (h [] s.drawn (List.Perm.refl _))
  |cons x xs=>simp at a
 |succ n c=>
  intro xs s Q a h;cases xs with
  |nil=>simp at a
  |cons x xs=>
   unfold drawOrder;refine zb (Wn (by simp) λi d hi=>?_);have e:(x::xs)[i]?=Z (x::xs)[i]:=by simp[hi]
   rw[e];dsimp only;refine zb (c ((x::xs).eraseIdx i) _ _ (by rw[List.length_eraseIdx,zo hi];simp at a ⊢;omega) λys b hp=>ze ?_);exact h _ b ((List.Perm.cons _ hp).trans (La hi))
theorem Ul{α:Type}(next:Nat->Nat):∀(n k:Nat) (xs:Y α) (out:Array α),xs.length=n->(pickOrder.go next n k xs out).toList.Perm (out.toList++xs)
 |0,k,[],out,_=>by unfold pickOrder.go;simp
 |n+1,k,x::xs,out,hl=>by
  unfold pickOrder.go;have hi:next k%(x::xs).length<(x::xs).length:=Nat.mod_lt _ (by simp);have e:(x::xs)[next k%(x::xs).length]?=Z (x::xs)[next k%(x::xs).length]:=by rw[z5 hi]
  rw[e];dsimp only;refine(Ul next n (k+1) _ _ (by rw[List.length_eraseIdx,zo hi];simp at hl ⊢;omega)).trans ?_;rw[Array.toList_push,qa];exact(List.Perm.refl _).append (La hi)
theorem Wo(next:Nat->Nat)(xs:Array α):(pickOrder next xs).toList.Perm xs.toList:=by
 have:=Ul next xs.size 0 xs.toList #[] (by simp);simpa[pickOrder]using this
structure Wk (w:World) (h:Heap) (a:Addr) (es:Array (Int×Value)) (ep:Nat) (t:SetTable):Prop where
 at_:∃o,h.get? a=some o/\o.cls=.type "set" ∧ o.data=.set es ep t
 fit:t.fits es.size=true
 led:w.params.followText "set-order"=false->t.led=true
 non:1<es.size->t.plain=false
theorem Wk.keep{h':A6}{es:Array (Int×A0)}(x:Wk w h a es ep t)(k:∀o,h.get? a=Z o->h'.get? a=Z o):Wk w h' a es ep t:=
 ⟨let ⟨o,e,r⟩:=x.at_;⟨o,k o e,r⟩,x.fit,x.led,x.non⟩
def It(h:A6)(it a:A1)(first:A0)(i n ep:Nat):Prop:=∃o,h.get? it=Z o/\o.cls=.type "set_iterator" ∧ o.data=.fields #[first,.int (i:Int) 0,.ref a,.int (n:Int) 0,.int (ep:Int) 0]
theorem It.keep{h':A6}{f:A0}(x:It h it a f i n ep)(k:∀o,h.get? it=Z o->h'.get? it=Z o):It h' it a f i n ep:=
 let ⟨o,e,r⟩:=x;⟨o,k o e,r⟩
theorem It.ty{f:A0}(x:It s.heap it a f i n ep):s.TypeIs (.ref it) "set_iterator":=let ⟨o,e,c,_⟩:=x;⟨o,e,c⟩
theorem jg:Slot "set_iterator" "__next__" "set_iterator.__next__":=
 .of (owner :="set_iterator") (n :="__next__") (by rw[typeLookup_type,builtinLookup_eq_fast];kernel_rfl) (by decide +kernel) (by decide +kernel) (by decide +kernel)
  (by first|exact .inl (by decide +kernel)|exact .inr (by decide +kernel)) (by rw[isSubtype_type];kernel_rfl)
theorem zc:Slot "set_iterator" "__iter__" "set_iterator.__iter__":=
 .of (owner :="set_iterator") (n :="__iter__") (by rw[typeLookup_type,builtinLookup_eq_fast];kernel_rfl) (by decide +kernel) (by decide +kernel) (by decide +kernel)
  (by first|exact .inl (by decide +kernel)|exact .inr (by decide +kernel)) (by rw[isSubtype_type];kernel_rfl)
theorem HD:entryFor table "set_iterator.__next__"=Z Builtin.«set_iterator.__next__»:=entryFor_of_tree (by kernel_rfl)
theorem Cv:entryFor table "set.__iter__"=Z Builtin.«frozenset.__iter__»:=entryFor_alias (id' :="frozenset.__iter__") (by kernel_rfl) Y3 (by decide +kernel) (by kernel_rfl)
theorem HF:entryFor table "set_iterator.__iter__"=Z Builtin.«dict_keyiterator.__iter__»:=entryFor_alias (id' :="dict_keyiterator.__iter__") (by kernel_rfl) Y3 (by decide +kernel) (by kernel_rfl)
theorem Y4:Manifest.owners.lookup (String.ofList "rotareti_tes".toList.reverse)=Z Manifest.sig_set_iterator:=by kernel_rfl
theorem Lb(a:A0):argsOk "set_iterator.__next__" ⟨[a],[]⟩:=by
 unfold argsOk;rw[signature?_of (id :="set_iterator.__next__") (n :="__txen__".toList) (o :="rotareti_tes".toList) (by kernel_rfl) Y4];kernel_rfl
theorem Ld(a:A0):argsOk "set_iterator.__iter__" ⟨[a],[]⟩:=by
 unfold argsOk;rw[signature?_of (id :="set_iterator.__iter__") (n :="__reti__".toList) (o :="rotareti_tes".toList) (by kernel_rfl) Y4];kernel_rfl
section
variable{es:Array (Int×A0)}
theorem Dm{first:A0}(d:It s.heap it a first i es.size ep)(f:Wk w s.heap a es ep t)(h:A7 (A8 prog w) A.in1 (if let .int slot _:=first then(do
    match <-setNext a slot.toNat (i:Int).toNat (ep:Int).toNat with
    |some (x,next)=>
     setField (.ref it) 0 (rawInt next)
     setField (.ref it) 1 (rawInt ((i:Int)+1))
     ret x
    |none=>setField (.ref it) 2 .none;raiseNew (<-newExc (.type "StopIteration") []))
   else(do
    let Z places <-seqItems? first|unsupported "internal:set_iterator"
    match places[(i:Int).toNat]? with
    |some (.int place _)=>
     let x <-setNextDrawn a place.toNat (ep:Int).toNat
     setField (.ref it) 1 (rawInt ((i:Int)+1))
     ret x
    |some _=>unsupported "internal:set_iterator"
    |none=>setField (.ref it) 0 (rawInt 0);setField (.ref it) 2 .none;raiseNew (<-newExc (.type "StopIteration") []))) (λg s'=>∃v,g=.done (.ret v)/\Q (Z v) s') (λe s'=>s'.TypeIs e "StopIteration" ∧ Q O s') s):A7 (A8 prog w) A (pyNext (.ref it)) Q E s:=by
 obtain⟨o,ho,p,l⟩:=id d;obtain⟨u,m,q,j⟩:=f.at_;unfold pyNext;refine zb (wpAny_attempt (ye (name:=Str.ofString "__next__") d.ty jg (kc jg d.ty HD ?_ (Lb _))));unfold Builtin.«set_iterator.__next__»;refine zb (ze ?_);refine zb (wpAny_fieldsOf ho l ?_);show A7 _ _ (setEntries a >>= _) _ _ s;refine zb (wpAny_setEntries_of m j f.fit ?_);rw[zw (by simp)];refine QA h (λg s' c=>?_) λe s' c=>?_
 ·obtain⟨v,rfl,n⟩:=c;exact⟨v,rfl,ze n⟩
 ·refine zb (kb (T :="StopIteration") (b:=true) c.1 isSubtype_stop ?_);exact ze c.2
theorem Um{hp:A6}(c:A.handled=O)(h:∀h',(∀b o,hp.get? b=Z o->h'.get? b=Z o)->Q O { s with heap:=h' }):
  A7 (A8 prog w) A.in1 (do raiseNew (<-newExc (.type "StopIteration") [])) (λ(d:Fin) s'=>∃v,d=.done (.ret v)/\Q (Z v) s') (λe s'=>s'.TypeIs e "StopIteration" ∧ Q O s') { s with heap:=hp }:=by
 refine zb ?_;simp only[newExc,newTuple];refine zb (qS ?_ (by size_fits));refine zb (m:=firstArgMember _ _) (wpAny_of_eq (a:=Value.none) (by first|rfl|(simp only[firstArgMember];rfl)) ?_);refine qS ?_ (by size_fits);simp only[raiseNew];refine zb (wpAny_handled ?_);rw[show A.in1.handled=O from c];refine zb (ze (wpAny_throw ⟨⟨_,zv _ rfl,rfl⟩,?_⟩));exact h _ λb o e=>zd _ (zd _ e)
theorem It.put{f:A0}(d:It h it a f i n ep)(x:A0):It (h.update it (Obj.mapFields (·.setIfInBounds 0 x))) it a x i n ep:=by
 obtain⟨o,ho,c,b⟩:=d;exact⟨_,k6 _ ho (Obj.isFreed_of_fields (KF b _)),(Obj.cls_mapFields ..).trans c,by rw[KF b];simp⟩
theorem It.step{f:A0}(d:It h it a f i n ep):It (h.update it (Obj.mapFields (·.setIfInBounds 1 (rawInt ((i:Int)+1))))) it a f (i+1) n ep:=by
 obtain⟨o,ho,c,b⟩:=d;exact⟨_,k6 _ ho (Obj.isFreed_of_fields (KF b _)),(Obj.cls_mapFields ..).trans c,by rw[KF b];simp[rawInt]⟩
theorem It.field{f:A0}{k:Nat}{x:A0}{Q:Unit->A2->Prop}(d:It s.heap it a f i n ep)(b:k<5)(h:Q () { s with heap:=s.heap.update it (Obj.mapFields (·.setIfInBounds k x)) }):A7 (A8 prog w) A (setField (.ref it) k x) Q E s:=by
 obtain⟨o,ho,e,c⟩:=d;exact wpAny_setField ho c (by simpa using b) h
theorem rY{f:AE->AE}{b:A1}{o:AE}(hb:b≠it)(e:h.get? b=Z o):(h.update it f).get? b=Z o:=by rw[JA _ _ _ _ hb];exact e
theorem Y5{slot next:Nat}{x:A0}(c:It s.heap it a (.int (slot:Int) 0) i es.size ep)(l:Wk w s.heap a es ep t)(f:∀{g:A5} {j:BB} {d:S (A0×Nat)->A2->Prop},d (Z (x,next)) s->A7 (A8 prog w) g (setNext a slot i ep) d j s)(h:∀h',It h' it a (.int (next:Int) 0) (i+1) es.size ep->(∀b o,b≠it->s.heap.get? b=Z o->h'.get? b=Z o)->Q (Z x) { s with heap:=h' }):A7 (A8 prog w) A (pyNext (.ref it)) Q E s:=by
 refine Dm c l ?_;show A7 _ _ (setNext a slot i ep >>= _) _ _ s;refine zb (f ?_);refine zb (c.field (by decide) ?_);refine zb ((c.put _).field (s:={ s with heap:=_ }) (by decide) ?_);exact ze ⟨x,rfl,h _ ((c.put _).step) λb o hb e=>rY hb (rY hb e)⟩
theorem Fp{slot:Nat}(m:A.handled=O)(d:It s.heap it a (.int (slot:Int) 0) i es.size ep)(l:Wk w s.heap a es ep t)(f:∀{g:A5} {j:BB} {c:S (A0×Nat)->A2->Prop},c O s->A7 (A8 prog w) g (setNext a slot i ep) c j s)(h:∀h',(∀b o,b≠it->s.heap.get? b=Z o->h'.get? b=Z o)->Q O { s with heap:=h' }):A7 (A8 prog w) A (pyNext (.ref it)) Q E s:=by
 refine Dm d l ?_;show A7 _ _ (setNext a slot i ep >>= _) _ _ s;refine zb (f ?_);refine zb (d.field (by decide) (Um m λh' k=>h h' λb o hb e=>k b o (rY hb e)))
theorem O'{tp:A1}{g:AE}{c:Nat}{x:Int×A0}(f:It s.heap it a (.ref tp) i es.size ep)(d:Wk w s.heap a es ep t)(q:s.heap.get? tp=Z g)(p:g.data=.seq (pl.map λ(k:Nat)=>rawInt (k:Int)).toArray c)(l:pl[i]?=Z j)(hx:es[j]?=Z x)(h:∀h',It h' it a (.ref tp) (i+1) es.size ep->(∀b o,b≠it->s.heap.get? b=Z o->h'.get? b=Z o)->Q (Z x.2) { s with heap:=h' }):A7 (A8 prog w) A (pyNext (.ref it)) Q E s:=by
 refine Dm f d ?_;show A7 _ _ (seqItems? (.ref tp) >>= _) _ _ s;refine zb (m:=seqItems? (.ref tp)) ?_;unfold seqItems?;refine zb (Kt q ?_);rw[p];refine ze ?_;dsimp only;rw[KS,show((pl.map λ(k:Nat)=>rawInt (k:Int)).toArray)[i]?=Z (rawInt (j:Int)) by simp[l]];show A7 _ _ (setNextDrawn a j ep >>= _) _ _ s;obtain⟨y,u,v,n⟩:=d.at_;refine zb (m:=setNextDrawn a j ep) ?_;unfold setNextDrawn;refine zb (QU u n d.fit ?_);dsimp only;rw[zw (by simp),hx];refine ze ?_;refine zb (f.field (by decide) ?_);exact ze ⟨x.2,rfl,h _ f.step λb o hb e=>rY hb e⟩
theorem Oz{tp:A1}{f:AE}{c:Nat}(l:A.handled=O)(d:It s.heap it a (.ref tp) i es.size ep)(j:Wk w s.heap a es ep t)(n:s.heap.get? tp=Z f)(p:f.data=.seq (pl.map λ(k:Nat)=>rawInt (k:Int)).toArray c)(g:pl[i]?=O)(h:∀h',(∀b o,b≠it->s.heap.get? b=Z o->h'.get? b=Z o)->Q O { s with heap:=h' }):A7 (A8 prog w) A (pyNext (.ref it)) Q E s:=by
 refine Dm d j ?_;show A7 _ _ (seqItems? (.ref tp) >>= _) _ _ s;refine zb (m:=seqItems? (.ref tp)) ?_;unfold seqItems?;refine zb (Kt n ?_);rw[p];refine ze ?_;dsimp only;rw[KS,show((pl.map λ(k:Nat)=>rawInt (k:Int)).toArray)[i]?=O by simpa using g];refine zb (d.field (by decide) ?_);refine zb ((d.put _).field (s:={ s with heap:=_ }) (by decide) (Um l λh' k=>h h' λb o hb e=>k b o (rY hb (rY hb e))))
theorem wj{Q:Bool->A2->Prop}(h:Q (w.params.followText "set-order") s):A7 (A8 prog w) A setsByText Q E s:=by
 unfold setsByText;exact zb (wpAny_askSetting (ze h))
theorem Le{f:A0}{Q:BB}(b:It s.heap it a f i n ep)(h:Q (.ref it) s):A7 (A8 prog w) A (pyIter (.ref it)) Q E s:=by
 refine wpAny_pyIter_slot b.ty zc (kc zc b.ty HF ?_ (Ld _));show A7 _ _ (ret (.ref it)) _ _ s;exact ze ⟨_,rfl,"set_iterator", _,b.ty,jg.lookup,h⟩
def Lf(w:A4)(a:A1)(ep:Nat)(es:Array (Int×A0)):Y A0:=(pickOrder (w.params.setOrder a ep) es).toList.map (·.2)
theorem Ay:(Lf w a ep es).Perm (es.toList.map (·.2)):=(Wo _ _).map _
theorem JF{slot:Nat}{Q:S (A0×Nat)->A2->Prop}(d:w.params.followText "set-order"=true)(b:Wk w s.heap a es ep t)(h:Q (((Lf w a ep es)[i]?).map λv=>(v,slot)) s):A7 (A8 prog w) A (setNext a slot i ep) Q E s:=by
 obtain⟨j,f,g,c⟩:=b.at_;unfold setNext;refine zb (QU f c b.fit (zb (wj ?_)));rw[d];simp only[↓reduceIte,bne_self_eq_false,zl];refine zb (m:=setWalk a) ?_;unfold setWalk;refine zb (QU f c b.fit (zb (wj ?_)));rw[d];simp only[↓reduceIte];refine zb (wpAny_askSetting (ze (ze ?_)));have e:(pickOrder (w.params.setOrder a ep) es)[i]?.map (λe=>(e.2,slot))=((Lf w a ep es)[i]?).map λv=>(v,slot):=by
  unfold Lf;rw[Zl,Option.map_map,qB];rfl
 rw[<-e]at h;exact h
theorem Rz(p:A.handled=O)(g:w.params.followText "set-order"=true)(n:a≠it)(c:es.size<=AA):Walks prog w A it [it,a] [it] es.size (λi v=>(Lf w a ep es)[i]?=Z v) (λi h=>It h it a (.int 0 0) i es.size ep/\Wk w h a es ep t) where
 sub:=λb hb=>by simp at hb;simp[hb]
 frame:=λ_ _ _ st f=>⟨st.1.keep λo e=>f it (by simp) o e,st.2.keep λo e=>f a (by simp) o e⟩
 item:=λi s Q E hi st d=>by
  have m:(Lf w a ep es).length=es.size:=by rw[Ay.length_eq];simp
  obtain⟨v,j⟩:∃v,(Lf w a ep es)[i]?=Z v:=⟨(Lf w a ep es)[i]'(by omega),by rw[z5]⟩;refine Y5 (slot:=0) (next:=0) (x:=v) st.1 st.2 (λ{A' E' Q'} hq=>JF g st.2 (by rw[j];exact hq)) λh' l k=>?_;exact d v h' s.toks j ⟨l,st.2.keep λo e=>k a o n e⟩ λb o hb e=>k b o (λx=>hb (by simp[x])) e
 done:=λs Q E st d=>by
  have m:(Lf w a ep es).length=es.size:=by rw[Ay.length_eq];simp
  refine Fp (slot:=0) p st.1 st.2 (λ{A' E' Q'} hq=>JF g st.2 (by rw[Qb (by omega)];exact hq)) λh' k=>?_;exact d h' s.toks λb o hb e=>k b o (λx=>hb (by simp[x])) e
 self:=λ_ _ _ _ st d=>Le st.1 d
def Wq(pl:Y Nat)(es:Array (Int×A0)):Y A0:=pl.filterMap λj=>es[j]?.map (·.2)
theorem Wr(h:pl.Perm (List.range es.size)):(Wq pl es).Perm (es.toList.map (·.2)):=by
 refine(h.filterMap _).trans ?_;rw[show(List.range es.size).filterMap (λj=>es[j]?.map (·.2))=((List.range es.size).filterMap λj=>es[j]?).map (·.2) by rw[List.map_filterMap],filterMap_getElem?_range]
theorem OD:∀{pl:Y Nat},(∀j∈pl,j<es.size)->∀(i:Nat) (j:Nat),pl[i]?=Z j->(Wq pl es)[i]?=es[j]?.map (·.2)
 |[],_,_,_,h=>by simp at h
 |k::pl,hb,i,j,h=>by
  have a:=hb k (zh ..);have e:Wq (k::pl) es=es[k].2::Wq pl es:=by simp[Wq,a]
  rw[e];cases i with
  |zero=>cases(show k=j by simpa using h);simp[a]
  |succ i=>rw[ZZ];exact OD (λj b=>hb j (zi _ b)) i j (by simpa using h)
theorem RB{tp:A1}(u:A.handled=O)(p:a≠it)(q:tp≠it)(hp:pl.Perm (List.range es.size)):Walks prog w A it [it,a,tp] [it] es.size (λi v=>(Wq pl es)[i]?=Z v)
  (λi h=>It h it a (.ref tp) i es.size ep/\Wk w h a es ep t/\∃d c,h.get? tp=Z d/\d.data=.seq (pl.map λ(k:Nat)=>rawInt (k:Int)).toArray c) where
 sub:=λb hb=>by simp at hb;simp[hb]
 frame:=λ_ _ _ st l=>⟨st.1.keep λo e=>l it (by simp) o e,st.2.1.keep λo e=>l a (by simp) o e,let ⟨d,c,e,r⟩:=st.2.2;⟨d,c,l tp (by simp) d e,r⟩⟩
 item:=λi s Q E hi st f=>by
  obtain⟨d,c,e1,e2⟩:=st.2.2;have n:pl.length=es.size:=by rw[hp.length_eq];simp
  have hb:∀j∈pl,j<es.size:=λj g=>List.mem_range.mp (hp.mem_iff.mp g);have g:pl[i]?=Z (pl[i]'(by omega)):=by rw[z5]
  have hx:es[pl[i]'(by omega)]?=Z (es[pl[i]'(by omega)]'(hb _ (yb _))):=by rw[Z3]
  refine O' st.1 st.2.1 e1 e2 g hx λh' m k=>?_;exact f _ h' s.toks (by rw[OD hb i _ g,hx];rfl) ⟨m,st.2.1.keep λo e=>k a o p e,d,c,k tp d q e1,e2⟩ λb o hb e=>k b o (λx=>hb (by simp[x])) e
 done:=λs Q E st f=>by
  obtain⟨d,c,e1,e2⟩:=st.2.2;have n:pl.length=es.size:=by rw[hp.length_eq];simp
  refine Oz u st.1 st.2.1 e1 e2 (by rw[Qb (by omega)]) λh' k=>?_;exact f h' s.toks λb o hb e=>k b o (λx=>hb (by simp[x])) e
 self:=λ_ _ _ _ st f=>Le st.1 f
def vD(t:SetTable)(i:Nat):Nat:=if i=0 then 0 else t.place.getD 0 0+1
theorem c9(j:Nat):SetTable.below #[j] 0=0:=by
 show SetTable.below.go #[j] 0 1 0 1=0;unfold SetTable.below.go;rw[zo (by decide)];show(if #[j].getD 0 0<0 then _ else SetTable.below.go #[j] 0 0 0 0)=0;rw[zw (km _)];rfl
theorem U2(j:Nat):SetTable.below #[j] (j+1)=1:=by
 show SetTable.below.go #[j] (j+1) 1 0 1=1;unfold SetTable.below.go;rw[zo (by decide)];show(if j<j+1 then SetTable.below.go #[j] (j+1) 0 1 1 else _)=1;rw[zo (qc _)];rfl
theorem Ws{P:S (A0×Nat)->Prop}{r:S (A0×Nat)}(hp:t.place.size=es.size)(c:es.size<=1)(hi:i<=es.size)
  (b:r=match es[SetTable.below t.place (vD t i)]?,t.place[SetTable.below t.place (vD t i)]? with
   |some (_,x),Z j=>Z (x,j+1)
   |_,_=>O) (h:P (((es.toList.map (·.2))[i]?).map λv=>(v,vD t (i+1)))):P r:=by
 subst b;by_cases h0:es.size=0
 ·have e:es=#[]:=Array.eq_empty_of_size_eq_zero h0;subst e;simpa using h
 ·have h1:es.size=1:=by omega
  obtain⟨x,rfl⟩:=Array.size_eq_one_iff.mp h1;obtain⟨j,a⟩:=Array.size_eq_one_iff.mp (hp.trans h1);have hi:i=0\/i=1:=by omega
  rcases hi with rfl|rfl
  ·have e1:vD t 0=0:=rfl;have e2:vD t (0+1)=j+1:=by unfold vD;rw[a];rfl
   rw[e2]at h;rw[e1,a,c9];exact h
  ·have e2:vD t 1=j+1:=by unfold vD;rw[a];rfl
   rw[e2,a,U2];exact h
theorem Fq{Q:S (A0×Nat)->A2->Prop}(d:w.params.followText "set-order"=false)(b:Wk w s.heap a es ep t)(l:es.size<=1)(hi:i<=es.size)(h:Q (((es.toList.map (·.2))[i]?).map λv=>(v,vD t (i+1))) s):A7 (A8 prog w) A (setNext a (vD t i) i ep) Q E s:=by
 obtain⟨n,j,m,f⟩:=b.at_;have hp:t.place.size=es.size:=by
  have:=b.fit;simp only[SetTable.fits,ZH,beq_iff_eq]at this;exact this.1
 unfold setNext;refine zb (QU j f b.fit (zb (wj ?_)));rw[d];simp only[zl,↓reduceIte];split
 ·rename_i c;have c:(!t.plain&&decide (es.size>1))=true:=c;simp at c;omega
 ·have g:A7 (A8 prog w) A (if(!t.led&&!es.isEmpty)=true then unsupported "set:maker-not-led" else pure PUnit.unit) (λ_ s'=>s'=s) E s:=by
   rw[b.led d];exact ze rfl
  refine zb (QA g (λ_ s' e=>?_) λ_ _ x=>x);subst e;refine ze ?_;exact Ws (P:=λr=>Q r s') hp l hi Y3 h
theorem OJ(n:A.handled=O)(f:w.params.followText "set-order"=false)(g:es.size<=1)(m:a≠it):Walks prog w A it [it,a] [it] es.size (λi v=>(es.toList.map (·.2))[i]?=Z v) (λi h=>It h it a (.int (vD t i:Nat) 0) i es.size ep/\Wk w h a es ep t) where
 sub:=λb hb=>by simp at hb;simp[hb]
 frame:=λ_ _ _ st d=>⟨st.1.keep λo e=>d it (by simp) o e,st.2.keep λo e=>d a (by simp) o e⟩
 item:=λi s Q E hi st c=>by
  obtain⟨v,j⟩:∃v,(es.toList.map (·.2))[i]?=Z v:=⟨(es.toList.map (·.2))[i]'(by simpa using hi),by rw[z5]⟩;refine Y5 (x:=v) st.1 st.2 (λ{A' E' Q'} hq=>Fq f st.2 g (jS hi) (by rw[j];exact hq)) λh' l k=>?_;exact c v h' s.toks j ⟨l,st.2.keep λo e=>k a o m e⟩ λb o hb e=>k b o (λx=>hb (by simp[x])) e
 done:=λs Q E st c=>by
  refine Fp n st.1 st.2 (λ{A' E' Q'} hq=>Fq f st.2 g (zk _) (by rw[Qb (by simp)];exact hq)) λh' k=>?_;exact c h' s.toks λb o hb e=>k b o (λx=>hb (by simp[x])) e
 self:=λ_ _ _ _ st c=>Le st.1 c
theorem Y6(c:Wk w s.heap a es ep t)(y:es.size<=AA){Q:BB}
  (h:∀(it:A1) (h':A6) (d:Drawn) (fp:Y A1) (St:Nat->A6->Prop) (z:Y A0),z.Perm (es.toList.map (·.2))->(∀p:A5,p.handled=O->Walks prog w p it fp [it] es.size (λi v=>z[i]?=Z v) St)->St 0 h'->s.heap.objs.size<=it->it<h'.objs.size →
   (∀b∈fp,b=a\/s.heap.objs.size<=b)->(∀b∈fp,b<h'.objs.size)->(∀b o,s.heap.get? b=Z o->h'.get? b=Z o)->Q (.ref it) { s with heap:=h',drawn:=d }):A7 (A8 prog w) A (pyIter (.ref a)) Q E s:=by
 obtain⟨H,f,L,j⟩:=id c.at_;have B:s.TypeIs (.ref a) "set":=⟨H,f,L⟩;have q:a<s.heap.objs.size:=zz f;refine wpAny_pyIter_slot B F.slot_set_iter (kc F.slot_set_iter B Cv ?_ (F.args_set_iter_1 _));show A7 _ _ (Builtin.Frozenset.sizeOf a >>= _) _ _ s;refine zb (m:=Builtin.Frozenset.sizeOf a) (zb (wpAny_setEntries_of f j c.fit (ze ?_)));have I:A7 (A8 prog w) A.in1 (setDrawn a) (λb s'=>s'=s/\b=(!(w.params.followText "set-order")&&(!t.plain&&decide (es.size>1)))) E s:=by
  unfold setDrawn;exact zb (QU f j c.fit (zb (wj (ze ⟨rfl,rfl⟩))))
 refine zb (QA I (λb s' e=>?_) λ_ _ x=>x);obtain⟨rfl,rfl⟩:=e;dsimp only;by_cases g:w.params.followText "set-order"=true
 ·rw[g];simp only[kA,kR,zl,ZI];refine zb (ze ?_);refine zb (m:=setEpoch a) (wpAny_setEpoch_of f j c.fit ?_);refine zb (qS (ze ⟨_,rfl,"set_iterator", _,⟨_,zv _ rfl,rfl⟩,jg.lookup,?_⟩));have:=h s'.heap.objs.size (s'.heap.push { cls:=.type "set_iterator",data:=.fields #[.int 0 0,.int 0 0,.ref a,.int es.size 0,.int ep 0] }) s'.drawn [s'.heap.objs.size,a] _ _ Ay (λp l=>Rz l g (t:=t) (ep:=ep) (zI q) y)
   ⟨⟨_,zv _ rfl,rfl,rfl⟩,c.keep λo e=>zd _ e⟩ (zk _) (by rw[qq];exact qc _) (λb hb=>by simp at hb;rcases hb with rfl|rfl;exact .inr (zk _);exact .inl Y3)
   (λb hb=>by simp at hb;rw[qq];rcases hb with rfl|rfl;exact qc _;exact qV q) λb o e=>zd _ e
  exact this
 ·have g:w.params.followText "set-order"=false:=by simpa using g
  rw[g];simp only[kD,KW];by_cases J:es.size<=1
  ·rw[zw (by simp;omega)];refine zb (ze ?_);refine zb (m:=setEpoch a) (wpAny_setEpoch_of f j c.fit ?_);refine zb (qS (ze ⟨_,rfl,"set_iterator", _,⟨_,zv _ rfl,rfl⟩,jg.lookup,?_⟩));have:=h s'.heap.objs.size (s'.heap.push { cls:=.type "set_iterator",data:=.fields #[.int 0 0,.int 0 0,.ref a,.int es.size 0,.int ep 0] }) s'.drawn [s'.heap.objs.size,a] _ _ (List.Perm.refl _) (λp l=>OJ l g J (t:=t) (ep:=ep) (zI q))
    ⟨⟨_,zv _ rfl,rfl,rfl⟩,c.keep λo e=>zd _ e⟩ (zk _) (by rw[qq];exact qc _) (λb hb=>by simp at hb;rcases hb with rfl|rfl;exact .inr (zk _);exact .inl Y3)
    (λb hb=>by simp at hb;rw[qq];rcases hb with rfl|rfl;exact qc _;exact qV q) λb o e=>zd _ e
   exact this
  ·rw[zo (by rw[c.non (by omega)];simp;omega)];refine zb (TU _ _ _ _ (by simp) λpl d hp=>?_);refine zb (wpAny_newTuple ?_ (by rw[zr,hp.length_eq,kT];exact y));refine zb (m:=setEpoch a) (wpAny_setEpoch_of (zd _ f) j c.fit ?_);refine zb (qS (ze ⟨_,rfl,"set_iterator", _,⟨_,zv _ rfl,rfl⟩,jg.lookup,?_⟩));generalize u:s'.heap.push { cls:=.type "tuple",data:=.seq (pl.map λ(k:Nat)=>rawInt (k:Int)).toArray }=G;have n:G.objs.size=s'.heap.objs.size+1:=by rw[<-u,qq]
   have K:G.get? s'.heap.objs.size=Z { cls:=.type "tuple",data:=.seq (pl.map λ(k:Nat)=>rawInt (k:Int)).toArray }:=by rw[<-u];exact zv _ rfl
   have D:∀b o,s'.heap.get? b=Z o->G.get? b=Z o:=λb o e=>by rw[<-u];exact zd _ e
   have C:a<G.objs.size:=by rw[n];exact qV q
   have:=h G.objs.size (G.push { cls:=.type "set_iterator",data:=.fields #[.ref s'.heap.objs.size,.int 0 0,.ref a,.int es.size 0,.int ep 0] }) d [G.objs.size,a,s'.heap.objs.size] _ _ (Wr hp) (λp l=>RB l (t:=t) (ep:=ep) (tp:=s'.heap.objs.size) (zI C) (by rw[n];exact zI (qc _)) hp)
    ⟨⟨_,zv _ rfl,rfl,rfl⟩,c.keep λo e=>zd _ (D _ _ e),_,0,zd _ K,rfl⟩ (by rw[n];exact Kb _) (by rw[qq];exact qc _)
    (λb hb=>by simp at hb;rcases hb with rfl|rfl|rfl;exact .inr (by rw[n];exact Kb _);exact .inl rfl;exact .inr (zk _))
    (λb hb=>by
     simp at hb;rw[qq];rcases hb with rfl|rfl|rfl
     ·exact qc _
     ·exact qV C
     ·exact qV (by rw[n];exact qc _)) λb o e=>zd _ (D _ _ e)
   exact this
end
end S6
namespace S6
open P1
section
variable{es:Array (Int×A0)}
theorem Wt{b:Y A0}{a:Array A0}(f:b.length=n)(h:ItemsOf (λi v=>b[i]?=Z v) a n):a.toList=b:=by
 apply List.ext_getElem?;intro j;by_cases d:j<n
 ·have c:j<a.size:=by rw[h.1];exact d
  have e:a.toList[j]?=Z a[j]:=by simp[c]
  rw[e,h.2 j a[j] (by simp[c])]
 ·rw[Qb (by rw[qk,h.1];omega),Qb (by omega)]
theorem O1{Q:Y A0->A2->Prop}(B:A.handled=O)(z:Wk w s.heap a es ep t)(v:es.size<=AA)
  (L:∀f h' d tk,f.Perm (es.toList.map (·.2))->s.heap.objs.size<=h'.objs.size->(∀b o,s.heap.get? b=Z o->h'.get? b=Z o)->Q f { s with heap:=h',drawn:=d,toks:=tk }):
  A7 (A8 prog w) A (collect (.ref a)) Q E s:=by
 obtain⟨i,g,l,a5⟩:=id z.at_;have hT:s.TypeIs (.ref a) "set":=⟨i,g,l⟩;have I:a<s.heap.objs.size:=zz g;unfold collect;refine zb (wpAny_runValue (JP F.entry_proto_collect ?_));rw[Around.under_plainId F.plain_proto_collect _];show A7 _ A.in1 (newList [] >>= λq=>again (.builtin "list.__iadd__" ⟨[q,.ref a],[]⟩)) _ _ s;refine zb (qS (ze ⟨plainId_quiet F.plain_list_iadd _,JP F.entry_list_iadd ?_⟩));rw[Around.under_plainId F.plain_list_iadd _];show A7 _ A.in1 (Builtin.List.listExtendWith (.ref s.heap.objs.size) (.ref a) (.ref s.heap.objs.size)) _ _ _;unfold Builtin.List.listExtendWith;generalize j:(s.heap.push { cls:=.type "list",data:=.seq ([]:Y A0).toArray })=H;have h:∀b o,s.heap.get? b=Z o->H.get? b=Z o:=λb o e=>by rw[<-j];exact zd _ e
 have y:H.objs.size=s.heap.objs.size+1:=by rw[<-j,qq]
 have gH:H.get? s.heap.objs.size=Z (seqObj "list" #[] 0):=by rw[<-j];exact zv _ rfl
 have a4:Wk w H a es ep t:=z.keep λo e=>h a o e;refine zb (QQ (T :="set") ⟨i,h _ _ g,l⟩ ?_);have h1:Builtin.List.listSameRef (.ref s.heap.objs.size) (.ref a)=false:=by simp[Builtin.List.listSameRef];exact Kn I
 simp only[h1,show(Value.type "set"==Value.type "list")=false by decide,show(Value.type "set"==Value.type "tuple")=false by decide,Bool.or_false,zl,ZI];refine zb (Y6 (s:={ s with heap:=H }) a4 v λit G d fp St f hp W a3 N b3 a2 b0 p=>?_);refine zb (QP ?_);unfold Builtin.List.listLengthHint;have u:Shared.TypeIs { s with heap:=G,drawn:=d } (.ref a) "set":=⟨i,p _ _ (h _ _ g),l⟩;refine zb (wpAny_specialOf (T :="set") u F.slot_set_len.lookup ?_)
 wp_delta
 refine zb (kb (T :="set") (b:=true) u (by rw[isSubtype_type];kernel_rfl) ?_);show A7 _ A.in1 (typeOf (Value.ref a) >>= _) _ _ _;refine zb (QQ (T :="set") u (ze ?_));rw[zo (by decide)];show A7 _ A.in1 (Builtin.List.listTouch (Value.ref s.heap.objs.size) >>= λ_=>again (Code.builtin "list.extend.loop" ⟨[Value.ref s.heap.objs.size,Value.ref it,Value.ref s.heap.objs.size],[]⟩)) _ _ _;have n:G.get? s.heap.objs.size=Z (seqObj "list" #[] 0):=p _ _ gH;unfold Builtin.List.listTouch;refine zb (zb (listUpdate_at n Y3 (listUpdate_at (get?_update_seq n _) Y3 ?_ (by show _<=_;decide) (by show _<=_;decide)) (by show _<=_;decide) (by show _<=_;decide)));have C:s.heap.objs.size∉fp:=λc=>by
  rcases a2 _ c with e|e
  ·exact Kn I e
  ·have e:H.objs.size<=s.heap.objs.size:=e;rw[y]at e;exact absurd e (Nat.not_succ_le_self _)
 have K:=get?_update_seq (get?_update_seq n (λx=>x.push Value.none)) (λx=>x.pop);generalize P:(G.update s.heap.objs.size (Obj.mapSeq λx=>x.push Value.none)).update s.heap.objs.size (Obj.mapSeq λx=>x.pop)=U at K;have keep:∀b,b≠s.heap.objs.size->U.get? b=G.get? b:=λb hb=>by rw[<-P,JA _ _ _ _ hb,JA _ _ _ _ hb]
 have a1:St 0 U:=(W A B).frame 0 G U a3 λb hb o e=>by rw[keep b λx=>C (x▸hb)];exact e
 show A7 _ A.in1 (again _) _ _ { s with heap:=U,drawn:=d };have ho:f.length=es.size:=by rw[hp.length_eq];simp
 refine ze ⟨plainId_quiet F.plain_extend_loop _,codeAny_extend_loopS (W A.in1 B).toS v s.heap.objs.size C _ es.size 0 { s with heap:=U,drawn:=d } #[] _ Y3 (QO _) a1 K (ItemsOf.nil _) λs' a0 c' m J M=>?_⟩;show A7 _ A (load s.heap.objs.size >>= _) _ _ s';refine zb (Kt J (ze ?_));show Q a0.toList s';rw[Wt ho M];have D:=L f s'.heap s'.drawn s'.toks hp (jS (zz J)) λb X e=>by
  have hb:=zz e;refine m.heap b X (λc=>?_) ((keep b (zI hb)).trans (p _ _ (h _ _ e)));simp only[QY,jI,or_false]at c;rcases c with c|c
  ·exact zI hb c
  ·have:H.objs.size<=it:=N;rw[y,<-c]at this;exact absurd hb (Nat.not_lt.mpr (Nat.le_of_succ_le this))
 have e1:s'.gens=s.gens:=m.gens;have e2:s'.os=s.os:=m.os;rw[<-e1,<-e2]at D;exact D
end
theorem Dp{α:Type}[DecidableEq α]:∀{xs ys:Y α},xs.Nodup->ys.Nodup->(∀z,z∈xs↔z∈ys)->xs.Perm ys
 |[],ys,_,_,h=>by
  have:ys=[]:=List.eq_nil_iff_forall_not_mem.mpr λz a=>by simpa using(h z).mpr a
  subst this;exact .refl _
 |x::xs,ys,hx,hy,h=>by
  have c:x∈ys:=(h x).mp (zh ..);have b:=List.nodup_cons.mp hx;refine((Dp b.2 (hy.erase x) λz=>?_).cons x).trans (List.perm_cons_erase c).symm;rw[hy.mem_erase_iff];constructor
  ·intro a;exact⟨λe=>b.1 (e▸a),(h z).mp (zi _ a)⟩
  ·intro⟨hn,a⟩;rcases List.mem_cons.mp ((h z).mpr a)with e|e
   ·exact absurd e hn
   ·exact e
theorem Bv{R:α->β->Prop}:∀{l l':Y β},l'.Perm l->∀{ys:Y α},AI R ys l->∃a,a.Perm ys/\AI R a l':=by
 intro l l' hp
 replace hp:=hp.symm
 induction hp with
 |nil=>intro ys h;exact⟨ys,.refl _,h⟩
 |cons x _ f=>intro ys h;cases h with|cons r t=>obtain⟨zs,z1,z2⟩:=f t;exact⟨_::zs,z1.cons _,.cons r z2⟩
 |swap x y l=>intro ys h;cases h with|cons r t=>cases t with|cons i g=>exact⟨_,List.Perm.swap _ _ _,.cons i (.cons r g)⟩
 |trans _ _ c d=>intro ys h;obtain⟨zs,z1,z2⟩:=c h;obtain⟨us,e,b⟩:=d z2;exact⟨us,e.trans z1,b⟩
theorem RD{R:α->β->Prop}{xs:Y α}{us:Y β}{ys:Y α}{vs:Y β}(h:AI R xs us)(k:AI R ys vs):AI R (xs++ys) (us++vs):=by
 induction h with
 |nil=>exact k
 |cons r _ a=>exact .cons r a
def BV(w:A4):AE:={ cls:=.type "set",dict:=O,data:=.set #[] 0 (.fresh 0 0 (!w.params.followText "set-order")) }
structure E6 (prog:Program) (w:World) (S:Addr) (wr:List Addr) {κ:Type} (C:Heap->List κ->Prop) (P:Nat->Value->Prop) (val:Nat->κ) (n:Nat):Prop where
 keep:∀h h' ys,C h ys->(∀b o,b∉wr->h.get? b=some o->h'.get? b=some o)->C h' ys
 add:∀(A:Around) (E:BB) (s:Shared) (i:Nat) (v:Value) (ys:List κ) (Q:Bool->Shared->Prop),A.units<cLine->i<n->P i v->C s.heap ys->ys.length<=i →
  (∀b h' tk ys',Heap.SameBut S s.heap h'->C h' ys'->(∀z,z∈ys'↔z∈ys\/z=val i)->ys'.length<=i+1->s.toks<=tk->Q b { s with heap:=h',toks:=tk })->wpAny (model prog w) A (setAdd S v) Q E s
section
variable{R:Result->A2->Prop}{I:A1}{wr:Y A1}{P:Nat->A0->Prop}{St:Nat->A2->Prop}{C:A6->Y κ->Prop}{val:Nat->κ}
theorem Y7(W:WalksS prog w A.in1 I fp wr (λa b=>b=a) n P St)(S:A1)(J:S∉fp)(ad:E6 prog w S wr C P val n)(B:A.units+1<cLine):
  ∀(k i:Nat) (s:A2) (ys:Y κ),n-i=k->i<=n->St i s->C s.heap ys->(∀z,z∈ys↔∃j,j<i/\z=val j)->ys.length<=i →
   (∀s' d,Moved (S::wr) (λa b=>b=a) s s'->C s'.heap d->(∀z,z∈d↔∃j,j<n/\z=val j)->R (.ok (.ret .none)) s') →
   AF (A8 prog w) A (.builtin "set.update.loop" ⟨[.ref S,.ref I],[]⟩) R s:=by
 have sub:∀b,b∈wr->b∈S::wr:=λb q=>zi _ q;intro k
 induction k with
 |zero=>
  intro i s ys D hi st f h t g;have:i=n:=by omega
  subst this;refine JP F.entry_set_update_loop ?_;rw[Around.under_plainId ym _];show A7 _ A.in1 (pyNext (.ref I) >>= _) _ _ s;refine zb (W.done s _ _ st λs' c=>?_);show A7 _ A.in1 (ret Value.none) _ _ s';exact ze (g s' ys (c.mono sub) (ad.keep _ _ _ f c.heap) h)
 |succ k Q=>
  intro i s ys D hi st f h t g;have l:i<n:=by omega
  refine JP F.entry_set_update_loop ?_;rw[Around.under_plainId ym _];show A7 _ A.in1 (pyNext (.ref I) >>= _) _ _ s;refine zb (W.item i s _ _ l st λv s' x G c=>?_);show A7 _ A.in1 (holding [v] (setAdd S v) >>= _) _ _ s';refine zb (QP (ad.add _ _ s' i v ys _ B l x (ad.keep _ _ _ f c.heap) t λb h' tk d m M L K p=>?_));refine ze ⟨plainId_quiet ym _,Q (i+1) _ d (by omega) l (W.frame _ s' _ _ G p λb hb o e=>?_) M (λz=>?_) K λy H U N E=>?_⟩
  ·rw[m.2 b λq=>J (q▸hb)];exact e
  ·rw[L z,h z];constructor
   ·rintro(⟨j,u,e⟩|e)
    ·exact⟨j,by omega,e⟩
    ·exact⟨i,by omega,e⟩
   ·rintro⟨j,u,e⟩;by_cases q:j=i
    ·exact .inr (q▸e)
    ·exact .inl ⟨j,by omega,e⟩
  ·refine g y H (Moved.trans W.gtrans ((c.mono sub).then_heap p λb o hb e=>?_) U) N E;rw[m.2 b λq=>hb (by rw[q];exact zh)];exact e
end
theorem RG(x:A0){Q₁:BB}(h:Q₁ (.ref s.heap.objs.size) { s with heap:=s.heap.push (BV w) }):
  AF (A8 prog w) A (.call (.builtin "set.__new__") ⟨[.type "set",x],[]⟩) (wants Q₁ E) s:=by
 refine codeAny_of_tree ?_;show A7 _ A.in1 (do checkBuiltinCall "set.__new__" ⟨[.type "set",x],[]⟩;again (.builtin "set.__new__" ⟨[.type "set",x],[]⟩)) _ _ s;refine zb (wpAny_of_eq (F.newCall_set_1 x) (ze ⟨plainId_quiet F.plain_set_new _,JP F.entry_set_new ?_⟩));rw[Around.under_plainId F.plain_set_new _];unfold Builtin.«set.__new__» Builtin.Frozenset.newClass;have a:=sub_set_self;obtain⟨hp,g,d,tk,os⟩:=s;dsimp only
 wp_walk
 refine wpAny_askSetting (ze ?_);dsimp only;simp only[newObj];refine zb (wpAny_alloc (ze ?_));exact ze h
theorem Bz:isSubtype (.type "tuple") (.type "set")=pure false:=by rw[isSubtype_type];kernel_rfl
theorem BO:isSubtype (.type "tuple") (.type "frozenset")=pure false:=by rw[isSubtype_type];kernel_rfl
theorem Y8(hU:A.units+60<cLine){T:String}{l:A1}{o:AE}{C:A6->Y κ->Prop}{P:Nat->A0->Prop}{val:Nat->κ}{Q:BB}(hh:A.handled=O)(ho:s.heap.get? l=Z o)(a1:o.cls=.type T)(t:T ="list" ∨ T ="tuple")(X:∀(d:A5) (E':BB) (L:BB) (h0:A6),d.handled=O->(∀b a,s.heap.get? b=Z a->h0.get? b=Z a) →
   (∀(h':A6) (St:Nat->A6->Prop),(∀d,d.handled=O->Walks prog w d h0.objs.size [h0.objs.size,l] [h0.objs.size] n P St)->St 0 h'->(∀b a,h0.get? b=Z a->h'.get? b=Z a)->L (.ref h0.objs.size) { s with heap:=h' })->A7 (A8 prog w) d (pyIter (.ref l)) L E' { s with heap:=h0 })(ad:E6 prog w s.heap.objs.size [s.heap.objs.size+1] C P val n)(N:∀h',h'.get? s.heap.objs.size=Z (BV w)->(∀b a,s.heap.get? b=Z a->h'.get? b=Z a)->C h' [])(h:∀(h':A6) (tk:Nat) (ys:Y κ),C h' ys->(∀z,z∈ys↔∃j,j<n/\z=val j)->(∀b a,s.heap.get? b=Z a->h'.get? b=Z a)->Q (.ref s.heap.objs.size) { s with heap:=h',toks:=tk }):
  A7 (A8 prog w) A (call (.type "set") [.ref l]) Q E s:=by
 obtain⟨c,tl,b3⟩:=F.called_set.mro;have d2:=F.called_set.made;have d1:=F.called_set.sub;have a4:l<s.heap.objs.size:=zz ho;refine wpAny_call (codeAny_of_tree ?_);show A7 _ _ (callAny (.type "set") _) _ _ _;refine ze ⟨Code.quiet_builtin _ (by decide +kernel),JP F.entry_type_call ?_⟩;rw[Around.under_plain (weight_type_call_type "set" [.ref l] []) rfl];have h1:=F.called_set.notType;have h2:=F.called_set.canCreate;have c6:=F.typeCall_set_1 (.ref l)
 repeat (any_goals (first|assumption|wp_step))
 refine codeAny_mono (RG (.ref l) (E:=E) (Q₁:=λK J=>K=.ref s.heap.objs.size/\J={ s with heap:=s.heap.push (BV w) }) ⟨rfl,rfl⟩) λr J x=>?_;cases r with
 |error e=>exact x
 |ok fl=>
  cases fl with
  |ret K=>
   obtain⟨rfl,rfl⟩:=x;generalize m:s.heap.push (BV w)=H;have I:H.objs.size=s.heap.objs.size+1:=by rw[<-m,qq]
   have v:H.get? s.heap.objs.size=Z (BV w):=by rw[<-m];exact zv _ rfl
   have i:∀b a,s.heap.get? b=Z a->H.get? b=Z a:=λb a e=>by rw[<-m];exact zd _ e
   have a2:Shared.TypeIs { s with heap:=H } (.ref s.heap.objs.size) "set":=⟨_,v,rfl⟩;have c0:=F.called_set.init.lookup;have b9:=F.called_set.init.bind (.ref s.heap.objs.size)
   repeat (any_goals (first|assumption|wp_step))
   refine codeAny_mono (codeAny_call_builtin (R:=wants (λr f=>r=.none/\∃h' tk ys,f={ s with heap:=h',toks:=tk }/\C h' ys/\(∀z,z∈ys↔∃j,j<n/\z=val j)/\(∀b a,s.heap.get? b=Z a->h'.get? b=Z a)) E) F.called_set.init.plain F.entry_set_init (check_set_init_1 a2 ?_)) λa0 f p=>?_
   ·have B:Shared.TypeIs { s with heap:=H } (.ref l) T:=⟨o,i _ _ ho,a1⟩;have i1:isSubtype (.type T) (.type "set")=pure false:=by rcases t with rfl|rfl;exact F.sub_list_set;exact Bz
    have i2:isSubtype (.type T) (.type "frozenset")=pure false:=by rcases t with rfl|rfl;exact F.sub_list_frozenset;exact BO
    have i3:(Value.type T==Value.type "dict")=false:=by rcases t with rfl|rfl<;>decide
    show A7 _ _ (Builtin.«set.__init__» ⟨[.ref s.heap.objs.size,.ref l],[]⟩) _ _ _;have M:∀d:A5,d.handled=O->d.units+4<cLine->A7 (A8 prog w) d (Builtin.Frozenset.updateFrom "set.__init__" s.heap.objs.size (.ref l)) (λ_ f=>∃h' tk ys,f={ s with heap:=h',toks:=tk }/\C h' ys/\(∀z,z∈ys↔∃j,j<n/\z=val j)/\(∀b a,s.heap.get? b=Z a->h'.get? b=Z a)) E { s with heap:=H }:=by
     intro d D d0;unfold Builtin.Frozenset.updateFrom Builtin.Frozenset.isAnySet;refine zb (zb (kb B i1 ?_));refine kb B i2 ?_;simp only[zl,ZI];refine zb (QQ B ?_);simp only[i3,zl,ZI];refine zb (X d _ _ H D i λG St W a5 y=>?_);rw[I]at W;rw[I];have a3:s.heap.objs.size∉[s.heap.objs.size+1,l]:=λq=>by
      simp only[QY,jI,or_false]at q;rcases q with q|q
      ·exact zI (qc _) q
      ·exact Kn a4 q
     refine zb (wpAny_runValue (Y7 (W d.in1 D).toS s.heap.objs.size a3 ad (by omega) (n-0) 0 _ [] Y3 (QO _) a5 (N G (y _ _ v) λb a e=>y _ _ (i _ _ e)) (λz=>⟨λq=>(by cases q),λ⟨j,q,_⟩=>absurd q (km _)⟩) (zk _) λs' ys g c1 c2=>?_));refine ze ⟨s'.heap,s'.toks,ys,?_,c1,c2,λb a e=>?_⟩
     ·have e1:s'.gens=s.gens:=g.gens;have e2:s'.os=s.os:=g.os;have e3:s'.drawn=s.drawn:=g.drawn;rw[<-e1,<-e2,<-e3]
     ·have hb:=zz e;refine g.heap b a (λq=>?_) (y _ _ (i _ _ e));simp only[QY,jI,or_false]at q;rcases q with q|q
      ·exact zI hb q
      ·exact zI (qV hb) q
    have hb:(BV w).data=.set #[] 0 (.fresh 0 0 (!w.params.followText "set-order")):=rfl;unfold Builtin.«set.__init__» noKeywords;generalize c8:Builtin.Frozenset.updateFrom=UF at M ⊢;unfold BV at v
    wp_walk
    refine QA (M _ (by simp[hh]) (by simp;omega)) (λu f q=>?_) λ_ _ q=>q;obtain⟨h',tk,ys,rfl,q⟩:=q;show A7 _ _ (ret Value.none) _ _ _;exact ze ⟨rfl,h',tk,ys,rfl,q⟩
   ·cases a0 with
    |error e=>exact p
    |ok b0=>
     cases b0 with
     |ret r=>
      obtain⟨rfl,h',tk,ys,rfl,c1,c2,U⟩:=p
      repeat (any_goals (first|assumption|wp_step))
      exact h _ _ _ c1 c2 U
     |_=>exact False.elim p
  |_=>exact False.elim x
end S6
namespace S6
open PySem
def RJ(xs:Array Nat):Prop:=∀i j,i<j->j<xs.size->xs.getD i 0<xs.getD j 0
theorem D7{xs:Array Nat}{k a b:Nat}(h:k<xs.size):xs.getD k a=xs.getD k b:=by simp[Array.getD,h]
theorem cE{xs:Array Nat}{k a:Nat}(h:xs[k]?=Z j):k<xs.size/\xs.getD k a=j:=by
 have b:k<xs.size:=by
  by_cases q:k<xs.size
  ·exact q
  ·rw[k5 (by omega)]at h;cases h
 refine⟨b,?_⟩;rw[Z3 b]at h;cases h;simp[Array.getD,b]
theorem T0{xs:Array Nat}{k a:Nat}(b:k<xs.size)(h:xs.getD k a=j):xs[k]?=Z j:=by
 rw[Z3 b];simp[Array.getD,b]at h;rw[h]
theorem Fv(xs:Array Nat)(j:Nat)(a:RJ xs):∀(fuel lo hi:Nat),lo<=hi->hi<=xs.size->hi-lo<=fuel->(∀k,k<lo->xs.getD k 0<j)->(∀k,hi<=k->k<xs.size->j<=xs.getD k 0) →
  SetTable.below.go xs j fuel lo hi<=xs.size/\(∀k,k<SetTable.below.go xs j fuel lo hi->xs.getD k 0<j)/\∀k,SetTable.below.go xs j fuel lo hi<=k->k<xs.size->j<=xs.getD k 0
 |0,lo,hi,h1,h2,h3,h4,h5=>by
  have e:lo=hi:=by omega
  subst e;unfold SetTable.below.go;exact⟨h2,h4,h5⟩
 |fuel+1,lo,hi,h1,h2,h3,h4,h5=>by
  unfold SetTable.below.go;by_cases d:lo<hi
  ·rw[zo d];dsimp only;have c:(lo+hi) / 2<xs.size:=by omega
   rw[D7 (b:=0) c];by_cases q:xs.getD ((lo+hi) / 2) 0<j
   ·rw[zo q];refine Fv xs j a fuel _ hi (by omega) h2 (by omega) (λk f=>?_) h5;by_cases e:k=(lo+hi) / 2
    ·rw[e];exact q
    ·exact Nat.lt_trans (a k _ (by omega) c) q
   ·rw[zw q];refine Fv xs j a fuel lo _ (by omega) (by omega) (by omega) h4 λk f hs=>?_;by_cases e:k=(lo+hi) / 2
    ·rw[e];omega
    ·have:=a _ k (by omega:(lo+hi) / 2<k) hs;omega
  ·rw[zw d];have e:lo=hi:=by omega
   subst e;exact⟨h2,h4,h5⟩
theorem Bi{xs:Array Nat}(a:RJ xs)(j:Nat):SetTable.below xs j<=xs.size/\(∀k,k<SetTable.below xs j->xs.getD k 0<j)/\∀k,SetTable.below xs j<=k->k<xs.size->j<=xs.getD k 0:=
 Fv xs j a xs.size 0 xs.size (QO _) (zk _) (by omega) (λk h=>absurd h (km _)) λk h h'=>absurd h' (by omega)
theorem Fw{xs:Array Nat}(b:RJ xs)(h:xs[i]?=Z j):SetTable.below xs j=i:=by
 obtain⟨h1,h2,c⟩:=Bi b j;obtain⟨hi,e⟩:=cE (a:=0) h;rcases Nat.lt_trichotomy (SetTable.below xs j) i with q|q|q
 ·have:=c _ (zk _) (by omega);have:=b _ _ q hi;omega
 ·exact q
 ·have:=h2 _ q;omega
theorem Uo(j:Nat):SetTable.has #[] j=false:=by
 unfold SetTable.has;simp
structure Tb (t:SetTable):Prop where
 mask:t.mask=7\/t.mask=31\/t.mask=127
 dum:t.dummies=#[]
 rise:RJ t.place
 bd:∀j:Nat,j∈t.place->j<=t.mask
 full:t.place.size<=t.mask
theorem Az(h:Tb t)(e:t.place[i]?=Z j):t.slot j=.live i:=by
 unfold SetTable.slot;simp only[Fw h.rise e,e,beq_self_eq_true,qA]
theorem Wu(h:Tb t)(e:j∉t.place):t.slot j=.empty:=by
 unfold SetTable.slot;have:(t.place[SetTable.below t.place j]?==Z j)=false:=by
  cases q:t.place[SetTable.below t.place j]? with
  |none=>rfl
  |some x=>
   by_cases hx:x=j
   ·subst hx;exact absurd (Array.mem_of_getElem? q) e
   ·simp[hx]
 simp only[this,zl,ZI,h.dum,Uo]
def HJ(mask:Nat)(p:SetTable.Probe):SetTable.Probe:=
 if p.more>0 then { p with j:=p.j+1,more:=p.more-1 }else
 { p with j:=(SetTable.leap mask p.i p.perturb).1,more:=SetTable.runEnd mask (SetTable.leap mask p.i p.perturb).1-(SetTable.leap mask p.i p.perturb).1,i:=(SetTable.leap mask p.i p.perturb).1,perturb:=(SetTable.leap mask p.i p.perturb).2 }
theorem Y9(t:SetTable)(p:SetTable.Probe):t.advance p=HJ t.mask p:=rfl
def EB(mask i perturb:Nat):SetTable.Probe:={ j:=i,more:=SetTable.runEnd mask i-i,i,perturb,dummy:=O }
def gJ(mask:Nat)(h:Int):Nat->SetTable.Probe
 |0=>EB mask (SetTable.bits h%(mask+1)) (SetTable.bits h)
 |n+1=>HJ mask (gJ mask h n)
theorem Uq(mask:Nat)(h:Int):∀n,(gJ mask h n).dummy=O
 |0=>rfl
 |n+1=>by
  have:=Uq mask h n;unfold gJ HJ;split<;>exact this
theorem O2{t:SetTable}(b:Tb t)(a:Nat->Int)(h:Int):∀(d fuel n:Nat),d<fuel->(∀m,n<=m->m<n+d->∃i,t.place[i]?=Z (gJ t.mask h m).j/\a i≠h) →
  ((gJ t.mask h (n+d)).j∉t.place->SetTable.probe.go t a h fuel (gJ t.mask h n)=Z (.empty (gJ t.mask h (n+d)).j O)) ∧
  ∀i,t.place[i]?=Z (gJ t.mask h (n+d)).j->a i=h->SetTable.probe.go t a h fuel (gJ t.mask h n)=Z (.candidate (gJ t.mask h (n+d)).j i (gJ t.mask h (n+d+1)))
 |0,fuel+1,n,_,_=>by
  refine⟨λe=>?_,λi e1 e2=>?_⟩
  ·unfold SetTable.probe.go;rw[Nat.add_zero]at e ⊢;rw[Wu b e];simp only[Uq]
  ·unfold SetTable.probe.go;rw[Nat.add_zero]at e1 ⊢;rw[Az b e1];simp only[e2,beq_self_eq_true,qA,Y9];rfl
 |d+1,fuel+1,n,hd,hp=>by
  obtain⟨i,e1,e2⟩:=hp n (zk _) (by omega);have c:=O2 b a h d fuel (n+1) (by omega) λm h1 h2=>hp m (by omega) (by omega);have e:SetTable.probe.go t a h (fuel+1) (gJ t.mask h n)=SetTable.probe.go t a h fuel (gJ t.mask h (n+1)):=by
   conv=>lhs;unfold SetTable.probe.go
   rw[Az b e1];simp only[beq_iff_eq,e2,ZI,Y9];rfl
  rw[e,show n+(d+1)=n+1+d by omega];exact c
theorem RK:∀(xs ys:Y Nat),xs.Nodup->(∀x,x∈xs->x∈ys)->xs.length<=ys.length
 |[],_,_,_=>QO _
 |x::xs,ys,hn,hs=>by
  have b:=List.nodup_cons.mp hn;have a:=hs x (zh ..);have:=RK xs (ys.erase x) b.2 λz c=>(List.mem_erase_of_ne (λe:z=x=>b.1 (by rw[<-e];exact c))).mpr (hs z (zi _ c));have:=List.length_erase_of_mem a;have:0<ys.length:=k4 a;simp only[ZN];omega
def nx(M i:Nat):Nat:=(i*5+1)%M
def O4(M:Nat):Nat->Nat->Nat
 |0,i=>i
 |k+1,i=>O4 M k (nx M i)
theorem Dq(M:Nat):∀(a b i:Nat),O4 M (a+b) i=O4 M b (O4 M a i)
 |0,b,i=>by rw[Kk];rfl
 |a+1,b,i=>by rw[Nat.succ_add];exact Dq M a b _
theorem TC:(∀r,r<8->∃k,k<8/\O4 8 k 0=r)/\O4 8 8 0=0:=by decide +kernel
theorem TW:(∀r,r<32->∃k,k<32/\O4 32 k 0=r)/\O4 32 32 0=0:=by decide +kernel
theorem WZ:(∀r,r<128->∃k,k<128/\O4 128 k 0=r)/\O4 128 128 0=0:=by decide +kernel
theorem HV{M:Nat}(h:(∀r,r<M->∃k,k<M/\O4 M k 0=r)/\O4 M M 0=0){r:Nat}(hi:i<M)(c:r<M):∃k,k<M/\O4 M k i=r:=by
 obtain⟨a,d,rfl⟩:=h.1 i hi;obtain⟨b,hb,rfl⟩:=h.1 r c;by_cases q:a<=b
 ·exact⟨b-a,by omega,by rw[<-Dq,show a+(b-a)=b by omega]⟩
 ·exact⟨M-a+b,by omega,by rw[<-Dq,show a+(M-a+b)=M+b by omega,Dq,h.2]⟩
theorem Y'(h:mask=7\/mask=31\/mask=127){r:Nat}(hi:i<mask+1)(a:r<mask+1):∃k,k<mask+1/\O4 (mask+1) k i=r:=by
 rcases h with rfl|rfl|rfl
 ·exact HV TC hi a
 ·exact HV TW hi a
 ·exact HV WZ hi a
def lp(mask:Nat)(h:Int):Nat->Nat×Nat
 |0=>(SetTable.bits h%(mask+1),SetTable.bits h)
 |l+1=>SetTable.leap mask (lp mask h l).1 (lp mask h l).2
theorem Fy(mask i:Nat):i<=SetTable.runEnd mask i/\SetTable.runEnd mask i<=i+9:=by unfold SetTable.runEnd;split<;>omega
theorem Za(h:i<=mask):SetTable.runEnd mask i<=mask:=by unfold SetTable.runEnd;split<;>omega
theorem zf{mask:Nat}{h:Int}{s i p:Nat}(e:gJ mask h s=EB mask i p):∀k,k<=SetTable.runEnd mask i-i->gJ mask h (s+k)={ EB mask i p with j:=i+k,more:=SetTable.runEnd mask i-i-k }
 |0,_=>by rw[Nat.add_zero,e];rfl
 |k+1,hk=>by
  have a:=zf e k (by omega);show HJ mask (gJ mask h (s+k))=_;rw[a];unfold HJ;rw[zo (by dsimp only;omega)];rfl
theorem O5{h:Int}{s p:Nat}(e:gJ mask h s=EB mask i p):gJ mask h (s+(SetTable.runEnd mask i-i)+1)=EB mask (SetTable.leap mask i p).1 (SetTable.leap mask i p).2:=by
 show HJ mask (gJ mask h (s+(SetTable.runEnd mask i-i)))=_;rw[zf e _ (zk _)];unfold HJ;rw[zw (by dsimp only;omega)];rfl
theorem Zb(mask:Nat)(h:Int):∀l,∃s,s<=10*l/\gJ mask h s=EB mask (lp mask h l).1 (lp mask h l).2
 |0=>⟨0,by omega,rfl⟩
 |l+1=>by
  obtain⟨s,hs,e⟩:=Zb mask h l;have:=Fy mask (lp mask h l).1;exact⟨_,by omega,O5 e⟩
theorem OP(mask:Nat)(h:Int):∀l,(lp mask h l).1<mask+1
 |0=>Nat.mod_lt _ (Nat.succ_pos _)
 |l+1=>Nat.mod_lt _ (Nat.succ_pos _)
theorem O6(mask:Nat)(h:Int):∀l,(lp mask h l).2*32 ^ l<=SetTable.bits h
 |0=>by simp[lp]
 |l+1=>by
  have a:=O6 mask h l;show(lp mask h l).2 / 32*32 ^ (l+1)<=_;have h1:(lp mask h l).2 / 32*32<=(lp mask h l).2:=Nat.div_mul_le_self _ _;have h2:=Nat.mul_le_mul_right (32 ^ l) h1;rw[Nat.pow_succ,Nat.mul_comm (32 ^ l) 32,<-Nat.mul_assoc];exact ZE h2 a
theorem S'(h:Int):SetTable.bits h<18446744073709551616:=by
 unfold SetTable.bits;have h1:h%18446744073709551616<18446744073709551616:=Int.emod_lt_of_pos _ (by decide);have h2:0<=h%18446744073709551616:=Int.emod_nonneg _ (by decide);show(h%18446744073709551616).toNat<_;omega
theorem Ur(mask:Nat)(h:Int):∀k,(lp mask h (12+k)).2<32
 |0=>by
  have h1:=O6 mask h 12;have h2:=S' h;rw[show(32:Nat) ^ 12=1152921504606846976 from rfl]at h1;show(lp mask h 12).2<32;omega
 |k+1=>by
  have:=Ur mask h k;show(lp mask h (12+k)).2 / 32<32;omega
theorem bp(mask:Nat)(h:Int):∀k,(lp mask h (12+k)).1=O4 (mask+1) k (lp mask h 12).1:=by
 have step:∀k,(lp mask h (12+k+1)).1=nx (mask+1) (lp mask h (12+k)).1:=λk=>by
  have:=Ur mask h k;show((lp mask h (12+k)).1*5+1+(lp mask h (12+k)).2 / 32)%(mask+1)=_;rw[show(lp mask h (12+k)).2 / 32=0 by omega];rfl
 have b:∀k i,O4 (mask+1) k (nx (mask+1) i)=nx (mask+1) (O4 (mask+1) k i):=λk=>by
  induction k with
  |zero=>intro i;rfl
  |succ k a=>intro i;exact a _
 intro k
 induction k with
 |zero=>rfl
 |succ k a=>
  rw[show 12+(k+1)=12+k+1 by omega,step,a];exact(b k _).symm
theorem Zc(a:mask=7\/mask=31\/mask=127)(h:Int){r:Nat}(b:r<mask+1):∃l,l<mask+13/\(lp mask h l).1=r:=by
 obtain⟨k,c,e⟩:=Y' a (OP mask h 12) b;exact⟨12+k,by omega,by rw[bp,e]⟩
theorem UT(h:Tb t):∃r,r<t.mask+1/\r∉t.place:=by
 by_cases q:∃r,r<t.mask+1/\r∉t.place
 ·exact q
 ·exfalso;have:=RK (List.range (t.mask+1)) t.place.toList ya λx hx=>by
   rw[Kx]at hx;by_cases a:x∈t.place
   ·exact Array.mem_toList_iff.mpr a
   ·exact absurd ⟨x,hx,a⟩ q
  rw[kT,qk]at this;have:=h.full;omega
theorem Zd(a:Tb t)(h:Int):∃n,n<10*SetTable.turns t.mask/\(gJ t.mask h n).j∉t.place:=by
 obtain⟨r,c,b⟩:=UT a;obtain⟨l,d,e⟩:=Zc a.mask h c;obtain⟨s,hs,e'⟩:=Zb t.mask h l;refine⟨s,by unfold SetTable.turns;omega,?_⟩;rw[e'];show(lp t.mask h l).1∉_;rw[e];exact b
theorem RM(d:Tb t)(h:Int):∃n,n<10*SetTable.turns t.mask/\(gJ t.mask h n).j∉t.place/\∀m,m<n->(gJ t.mask h m).j∈t.place:=by
 obtain⟨n,g,c⟩:=Zd d h;have:∀k,(∃n,n<=k/\(gJ t.mask h n).j∉t.place/\∀m,m<n->(gJ t.mask h m).j∈t.place)\/∀m,m<=k->(gJ t.mask h m).j∈t.place:=λk=>by
  induction k with
  |zero=>
   by_cases q:(gJ t.mask h 0).j∈t.place
   ·exact .inr λm b=>by rw[show m=0 by omega];exact q
   ·exact .inl ⟨0,zk _,q,λm b=>absurd b (km _)⟩
  |succ k a=>
   rcases a with⟨n,h1,h2⟩|a
   ·exact .inl ⟨n,by omega,h2⟩
   ·by_cases q:(gJ t.mask h (k+1)).j∈t.place
    ·exact .inr λm b=>by
      by_cases e:m=k+1
      ·rw[e];exact q
      ·exact a m (by omega)
    ·exact .inl ⟨k+1,zk _,q,λm b=>a m (by omega)⟩
 rcases this n with⟨m,h1,h2,f⟩|q
 ·exact⟨m,by omega,h2,f⟩
 ·exact absurd (q n (zk _)) c
theorem gD(xs:Array α)(k:Nat)(a:α):xs.getD k a=xs[k]?.getD a:=by
 by_cases h:k<xs.size
 ·rw[Z3 h];simp[Array.getD,h]
 ·rw[k5 (by omega)];simp[Array.getD,h]
structure Tok (t:SetTable) (es:Array (Int×Value)):Prop extends Tb t where
 size:t.place.size=es.size
 reach:∀(i j:Nat) e,t.place[i]?=some j->es[i]?=some e->∃n,n<10*SetTable.turns t.mask/\(gJ t.mask e.1 n).j=j/\∀m,m<n->(gJ t.mask e.1 m).j∈t.place
theorem zj(xs:Array α)(p:Nat)(x:α):(SetTable.insertAt xs p x).toList=xs.toList.take p++x::xs.toList.drop p:=by
 unfold SetTable.insertAt;simp[Array.toList_extract,List.take_of_length_le]
theorem CZ{xs:Array α}{p:Nat}(hp:p<=xs.size)(x:α)(i:Nat):(SetTable.insertAt xs p x)[i]?=if i<p then xs[i]? else if i=p then Z x else xs[i-1]?:=by
 rw[<-qB,zj,List.getElem?_append];have a:(xs.toList.take p).length=p:=by rw[ke,qk];omega
 rw[a];by_cases h1:i<p
 ·rw[zo h1,zo h1,List.getElem?_take,zo h1,qB]
 ·rw[zw h1,zw h1];by_cases h2:i=p
  ·rw[zo h2,h2,Nat.sub_self];rfl
  ·rw[zw h2,show i-p=(i-p-1)+1 by omega,ZZ,List.getElem?_drop,qB,show p+(i-p-1)=i-1 by omega]
theorem vG(xs:Array α)(p:Nat)(x:α):(SetTable.insertAt xs p x).size=xs.size+1:=by
 rw[<-qk,zj,zD,ZN,ke,k8,qk];omega
theorem Us{xs:Array α}{p:Nat}{x y:α}:y∈SetTable.insertAt xs p x↔y∈xs\/y=x:=by
 rw[<-Array.mem_toList_iff,zj,List.mem_append,QY,<-Array.mem_toList_iff];constructor
 ·rintro(h|h|h)
  ·exact .inl (List.mem_of_mem_take h)
  ·exact .inr h
  ·exact .inl (List.mem_of_mem_drop h)
 ·rintro(h|h)
  ·rw[<-List.take_append_drop p xs.toList,List.mem_append]at h;rcases h with h|h
   ·exact .inl h
   ·exact .inr (.inr h)
  ·exact .inr (.inl h)
theorem Ze{xs:Array Nat}(c:RJ xs)(e:j∉xs):RJ (SetTable.insertAt xs (SetTable.below xs j) j):=by
 obtain⟨h1,h2,h⟩:=Bi c j;intro a b g hb;rw[vG]at hb;have d:∀i,i<xs.size+1->(SetTable.insertAt xs (SetTable.below xs j) j).getD i 0=if i<SetTable.below xs j then xs.getD i 0 else if i=SetTable.below xs j then j else xs.getD (i-1) 0:=λi hi=>by
  rw[gD,CZ h1];by_cases q1:i<SetTable.below xs j
  ·rw[zo q1,zo q1,<-gD]
  ·rw[zw q1,zw q1];by_cases q2:i=SetTable.below xs j
   ·rw[zo q2,zo q2];rfl
   ·rw[zw q2,zw q2,<-gD]
 have gt:∀k,SetTable.below xs j<=k->k<xs.size->j<xs.getD k 0:=λk f hs=>by
  have q:=h k f hs;rcases Nat.lt_or_eq_of_le q with q|q
  ·exact q
  ·exact absurd (Array.mem_of_getElem? (T0 hs q.symm)) e
 rw[d a (by omega),d b hb];by_cases a1:a<SetTable.below xs j
 ·rw[zo a1];by_cases b1:b<SetTable.below xs j
  ·rw[zo b1];exact c a b g (by omega)
  ·rw[zw b1];have:=h2 a a1;by_cases b2:b=SetTable.below xs j
   ·rw[zo b2];exact this
   ·rw[zw b2];exact Nat.lt_trans this (gt _ (by omega) (by omega))
 ·rw[zw a1];by_cases a2:a=SetTable.below xs j
  ·rw[zo a2,zw (by omega),zw (by omega)];exact gt _ (by omega) (by omega)
  ·rw[zw a2,zw (by omega),zw (by omega)];exact c _ _ (by omega) (by omega)
theorem bX{es:Array (Int×A0)}(h:Tok t es){d:Int}{x:A0}(y:n<10*SetTable.turns t.mask)(u:(gJ t.mask d n).j∉t.place)(hp:∀m,m<n->(gJ t.mask d m).j∈t.place)(p:(gJ t.mask d n).j<=t.mask)(hs:es.size+1<=t.mask):
  Tok (t.put (gJ t.mask d n).j).1 (SetTable.insertAt es (t.put (gJ t.mask d n).j).2 (d,x))/\(t.put (gJ t.mask d n).j).1.led=t.led/\(t.put (gJ t.mask d n).j).1.plain=t.plain/\(t.put (gJ t.mask d n).j).1.mask=t.mask:=by
 have v:=h.dum;have w:t.put (gJ t.mask d n).j=({ t with place:=SetTable.insertAt t.place (SetTable.below t.place (gJ t.mask d n).j) (gJ t.mask d n).j,dummies:=#[] },SetTable.below t.place (gJ t.mask d n).j):=by
  unfold SetTable.put;rw[v];simp only[Uo,zl,ZI]
 rw[w];have l:=h.size;have hb:=(Bi h.rise (gJ t.mask d n).j).1;refine⟨{ mask:=h.mask,dum:=rfl,rise:=Ze h.rise u,bd:=λj o=>?_,full:=?_,size:=?_,reach:=λi j e h1 h2=>?_ },rfl,rfl,rfl⟩
 ·rcases Us.mp o with q|q
  ·exact h.bd j q
  ·rw[q];exact p
 ·show(SetTable.insertAt _ _ _).size<=t.mask;rw[vG];omega
 ·show(SetTable.insertAt _ _ _).size=_;rw[vG,vG,l]
 ·have h1:(SetTable.insertAt t.place (SetTable.below t.place (gJ t.mask d n).j) (gJ t.mask d n).j)[i]?=Z j:=h1;rw[CZ hb]at h1;rw[CZ (by rw[<-l];exact hb)]at h2;have f:∀e':Int×A0,(∃n,n<10*SetTable.turns t.mask/\(gJ t.mask e'.1 n).j=j/\∀m,m<n->(gJ t.mask e'.1 m).j∈t.place)->∃g,g<10*SetTable.turns t.mask/\(gJ t.mask e'.1 g).j=j/\∀m,m<g->(gJ t.mask e'.1 m).j∈SetTable.insertAt t.place (SetTable.below t.place (gJ t.mask d n).j) (gJ t.mask d n).j:=
   λe' ⟨n,a,b,c⟩=>⟨n,a,b,λm s=>Us.mpr (.inl (c m s))⟩
  by_cases q1:i<SetTable.below t.place (gJ t.mask d n).j
  ·rw[zo q1]at h1 h2;exact f e (h.reach i j e h1 h2)
  ·rw[zw q1]at h1 h2;by_cases q2:i=SetTable.below t.place (gJ t.mask d n).j
   ·rw[zo q2]at h1 h2;cases h1;cases h2;exact f (d,x) ⟨n,y,rfl,hp⟩
   ·rw[zw q2]at h1 h2;exact f e (h.reach (i-1) j e h1 h2)
theorem Zf{mask:Nat}(h:Int):∀n,(gJ mask h n).j+(gJ mask h n).more<=mask
 |0=>by
  have h1:SetTable.bits h%(mask+1)<mask+1:=Nat.mod_lt _ (Nat.succ_pos _);have:=Za (mask:=mask) (i:=SetTable.bits h%(mask+1)) (by omega);have:=Fy mask (SetTable.bits h%(mask+1));show SetTable.bits h%(mask+1)+(SetTable.runEnd mask (SetTable.bits h%(mask+1))-SetTable.bits h%(mask+1))<=mask;omega
 |n+1=>by
  have b:=Zf (mask:=mask) h n;show(HJ mask (gJ mask h n)).j+(HJ mask (gJ mask h n)).more<=mask;unfold HJ;split
  ·dsimp only;omega
  ·dsimp only;generalize a:(SetTable.leap mask (gJ mask h n).i (gJ mask h n).perturb).1=i;have h1:i<mask+1:=by rw[<-a];exact Nat.mod_lt _ (Nat.succ_pos _)
   have:=Za (mask:=mask) (i:=i) (by omega);have:=Fy mask i;omega
theorem RN(h:Int)(n:Nat):(gJ mask h n).j<=mask:=by have:=Zf (mask:=mask) h n;omega
def RQ(owner:Array (S Nat))(j:Nat):Prop:=(owner.getD j (Z 0)).isNone=false
theorem JG{mask:Nat}{h:Int}{owner:Array (S Nat)}:∀(fuel l s j:Nat),gJ mask h s=EB mask (lp mask h l).1 (lp mask h l).2->s<=10*l->(∀m,m<s->RQ owner (gJ mask h m).j) →
  SetTable.layClean.free mask owner fuel (lp mask h l).1 (lp mask h l).2=Z j->∃n,n<10*(l+fuel)/\(gJ mask h n).j=j/\(owner.getD j (Z 0)).isNone=true/\∀m,m<n->RQ owner (gJ mask h m).j
 |0,l,s,j,_,_,_,e=>by unfold SetTable.layClean.free at e;cases e
 |fuel+1,l,s,j,hs,hl,ho,e=>by
  have i:=Fy mask (lp mask h l).1;unfold SetTable.layClean.free at e;cases c:(List.range (SetTable.runEnd mask (lp mask h l).1+1-(lp mask h l).1)).find? λk=>(owner.getD ((lp mask h l).1+k) (Z 0)).isNone with
  |some k=>
   rw[c]at e;cases e;obtain⟨h1,h2,f⟩:=List.find?_range_eq_some.mp c;rw[Kx]at h2;refine⟨s+k,by omega,?_,h1,λm g=>?_⟩
   ·rw[zf hs k (by omega)]
   ·by_cases q:m<s
    ·exact ho m q
    ·have d:=f (m-s) (by omega);rw[show m=s+(m-s) by omega,zf hs (m-s) (by omega)];simpa[RQ]using d
  |none=>
   rw[c]at e;have f:=List.find?_range_eq_none.mp c;obtain⟨n,a,b⟩:=JG fuel (l+1) _ j (O5 hs) (by omega) (λm g=>by
    by_cases q:m<s
    ·exact ho m q
    ·have d:=f (m-s) (by omega);rw[show m=s+(m-s) by omega,zf hs (m-s) (by omega)];simpa[RQ]using d) e
   exact⟨n,by omega,b⟩
theorem JH{mask:Nat}{h:Int}{owner:Array (S Nat)}:∀(fuel l:Nat),SetTable.layClean.free mask owner fuel (lp mask h l).1 (lp mask h l).2=O->∀l',l<=l'->l'<l+fuel->RQ owner (lp mask h l').1
 |0,l,_,l',h1,h2=>by omega
 |fuel+1,l,e,l',h1,h2=>by
  have d:=Fy mask (lp mask h l).1;unfold SetTable.layClean.free at e;cases a:(List.range (SetTable.runEnd mask (lp mask h l).1+1-(lp mask h l).1)).find? λk=>(owner.getD ((lp mask h l).1+k) (Z 0)).isNone with
  |some k=>rw[a]at e;cases e
  |none=>
   rw[a]at e;have b:=List.find?_range_eq_none.mp a;by_cases q:l'=l
   ·subst q;have c:=b 0 (by omega);simpa[RQ]using c
   ·exact JH fuel (l+1) e l' (by omega) (by omega)
structure Ow (mask:Nat) (hs:List Int) (owner:Array (Option Nat)):Prop where
 size:owner.size=mask+1
 lt:∀(j idx:Nat),owner[j]?=some (some idx)->idx<hs.length
 all:∀(idx:Nat) h,hs[idx]?=some h->∃j,owner[j]?=some (some idx)/\∃n,n<10*SetTable.turns mask/\(gJ mask h n).j=j/\∀m,m<n->RQ owner (gJ mask h m).j
 inj:∀(j j' idx:Nat),owner[j]?=some (some idx)->owner[j']?=some (some idx)->j=j'
theorem Zg{hs:Y Int}(o:Ow mask hs owner)(c:j<=mask):RQ owner j↔∃b,owner[j]?=Z (Z b):=by
 unfold RQ;have a:j<owner.size:=by rw[o.size];omega
 rw[gD,Z3 a];cases owner[j]with
 |none=>simp
 |some i=>simp
theorem Wv{f:Nat->Nat}:∀{xs:Y Nat},xs.Nodup->(∀x∈xs,∀y∈xs,f x=f y->x=y)->(xs.map f).Nodup:=λ{xs} hn hi=>
 List.pairwise_map.mpr (K2 (λa hb b e=>b (hi _ a _ hb e)) hn)
theorem PR{hs:Y Int}(o:Ow mask hs owner)(g:hs.length<=mask):∃r,r<mask+1/\¬ RQ owner r:=by
 by_cases q:∃r,r<mask+1/\¬ RQ owner r
 ·exact q
 ·exfalso;have all:∀r,r<mask+1->∃d,owner[r]?=Z (Z d):=λr a=>by
   by_cases c:RQ owner r
   ·exact(Zg o (by omega)).mp c
   ·exact absurd ⟨r,a,c⟩ q
  have f:∀r,r<mask+1->owner[r]?=Z (Z ((owner[r]?.getD O).getD 0)):=λr a=>by
   obtain⟨d,e⟩:=all r a;rw[e];rfl
  have:=RK ((List.range (mask+1)).map λr=>(owner[r]?.getD O).getD 0) (List.range hs.length) (Wv ya λx hx y b e=>by
   rw[Kx]at hx b;have e1:=f x hx;have e2:=f y b;rw[e]at e1;exact o.inj x y _ e1 e2) λx hx=>by
    obtain⟨r,a,rfl⟩:=List.mem_map.mp hx;rw[Kx]at a;exact List.mem_range.mpr (o.lt r _ (f r a))
  rw[zr,kT,kT]at this;omega
theorem Yf(f:mask=7\/mask=31\/mask=127){hs:Y Int}(o:Ow mask hs owner)(u:hs.length<=mask)(h:Int):
  ∃j,SetTable.layClean.free mask owner (SetTable.turns mask) (SetTable.bits h%(mask+1)) (SetTable.bits h)=Z j/\Ow mask (hs++[h]) (owner.setIfInBounds j (Z hs.length)):=by
 obtain⟨r,w,z⟩:=PR o u;cases p:SetTable.layClean.free mask owner (SetTable.turns mask) (SetTable.bits h%(mask+1)) (SetTable.bits h)with
 |none=>
  obtain⟨l,B,e⟩:=Zc f h w;have:=JH (h:=h) (owner:=owner) (SetTable.turns mask) 0 p l (QO _) (by unfold SetTable.turns;omega);rw[e]at this;exact absurd this z
 |some j=>
  obtain⟨n,h1,h2,s,t⟩:=JG (h:=h) (owner:=owner) (SetTable.turns mask) 0 0 j Y3 (zk _) (λm f=>absurd f (km _)) p;rw[Kk]at h1;have A:j<=mask:=by rw[<-h2];exact RN h n
  have x:j<owner.size:=by rw[o.size];omega
  have get:∀k:Nat,(owner.setIfInBounds j (Z hs.length))[k]?=if k=j then Z (Z hs.length)else owner[k]?:=λk=>by
   rw[Array.getElem?_setIfInBounds];by_cases q:k=j
   ·rw[zo q,zo q.symm,zo x]
   ·rw[zw q,zw (λe=>q e.symm)]
  have old:∀k d:Nat,owner[k]?=Z (Z d)->k≠j:=λk d e q=>by
   subst q;rw[gD,e]at s;cases s
  have i:∀k,RQ owner k->RQ (owner.setIfInBounds j (Z hs.length)) k:=λk q=>by
   unfold RQ at q ⊢;rw[gD]at q ⊢;rw[get];by_cases e:k=j
   ·rw[zo e];rfl
   ·rw[zw e];exact q
  refine⟨j,rfl,⟨by rw[Array.size_setIfInBounds];exact o.size,λk d e=>?_,λd g e=>?_,λa b d e1 e2=>?_⟩⟩
  ·rw[get]at e;rw[zD];by_cases q:k=j
   ·rw[zo q]at e;cases e;simp
   ·rw[zw q]at e;have:=o.lt k d e;simp;omega
  ·by_cases q:d<hs.length
   ·rw[ZT q]at e;obtain⟨k,e1,v,a,b,c⟩:=o.all d g e;exact⟨k,by rw[get,zw (old k d e1)];exact e1,v,a,b,λm f=>i _ (c m f)⟩
   ·rw[qv (by omega)]at e;have:d-hs.length=0:=by
     by_cases y:d-hs.length=0
     ·exact y
     ·rw[Qb (by simp;omega)]at e;cases e
    rw[this]at e;cases e;have:d=hs.length:=by omega
    subst this;exact⟨j,by rw[get,zo rfl],n,h1,h2,λm f=>i _ (t m f)⟩
  ·rw[get]at e1 e2;by_cases q1:a=j
   ·by_cases q2:b=j
    ·rw[q1,q2]
    ·rw[zo q1]at e1;rw[zw q2]at e2;cases e1;have:=o.lt b _ e2;omega
   ·by_cases q2:b=j
    ·rw[zw q1]at e1;rw[zo q2]at e2;cases e2;have:=o.lt a _ e1;omega
    ·rw[zw q1]at e1;rw[zw q2]at e2;exact o.inj a b d e1 e2
theorem NF(mask:Nat):Ow mask [] (Array.replicate (mask+1) O):=by
 have no:∀(j a:Nat),(Array.replicate (mask+1) (O:S Nat))[j]?≠Z (Z a):=λj a e=>by
  rw[Array.getElem?_replicate]at e;split at e<;>cases e
 exact⟨Array.size_replicate,λj a e=>absurd e (no j a),λa h e=>by simp at e,λj b a e=>absurd e (no j a)⟩
theorem dE(l:mask=7\/mask=31\/mask=127)(hs:Y Int)(a:hs.length<=mask):∃owner,SetTable.layClean mask hs.toArray=Z owner/\Ow mask hs owner:=by
 have g:∀(ys xs:Y Int) (owner:Array (S Nat)),Ow mask xs owner->xs.length+ys.length<=mask->∃d,ys.foldl (λ(f:S (Array (S Nat)×Nat)) h=>do
   let (owner,k) <-f
   let j <-SetTable.layClean.free mask owner (SetTable.turns mask) (SetTable.bits h%(mask+1)) (SetTable.bits h)
   pure (owner.setIfInBounds j (Z k),k+1)) (Z (owner,xs.length))=Z (d,xs.length+ys.length)/\Ow mask (xs++ys) d:=by
  intro ys
  induction ys with
  |nil=>intro xs owner o _;exact⟨owner,rfl,by rw[ZO];exact o⟩
  |cons y ys i=>
   intro xs owner o a;rw[ZN]at a;obtain⟨j,e,o'⟩:=Yf l o (by omega) y;obtain⟨b,e2,c⟩:=i (xs++[y]) _ o' (by simp;omega);refine⟨b,?_,by rw[qa]at c;exact c⟩;rw[qi];simp only[Option.bind_eq_bind,Option.bind_some,e,pure];rw[show(xs++[y]).length=xs.length+1 by simp]at e2;rw[ZN,show xs.length+(ys.length+1)=xs.length+1+ys.length by omega];exact e2
 obtain⟨b,e,o⟩:=g hs [] _ (NF mask) (by simpa using a);refine⟨b,?_,by simpa using o⟩;unfold SetTable.layClean;rw[List.foldl_toArray];exact congrArg (Option.map (·.1)) e
theorem K4{α β:Type}{f:α->S β}{g:α->β}:∀{xs:Y α},(∀x∈xs,f x=Z (g x))->xs.filterMap f=xs.map g
 |[],_=>rfl
 |x::xs,h=>by
  rw[kK,h x (zh ..),zt,K4 λy a=>h y (zi _ a)]
theorem Tk{xs:Y Nat}(h:xs.Pairwise (· < ·)):RJ xs.toArray:=by
 intro i j c b;have a:j<xs.length:=by simpa using b
 rw[gD,gD,List.getElem?_toArray,List.getElem?_toArray,z5 a,z5 (by omega)];exact List.pairwise_iff_getElem.mp h i j (by omega) a c
theorem Ww{es:Array (Int×A0)}{wanted:Nat}(D:SetTable.sizeAbove wanted-1=7\/SetTable.sizeAbove wanted-1=31\/SetTable.sizeAbove wanted-1=127)(I:es.size<=SetTable.sizeAbove wanted-1):
  ∃t' C,t.relaid (es.map (·.1)) wanted=Z (t',C)/\(C.filterMap (es[·]?)).toList.Perm es.toList/\Tok t' (C.filterMap (es[·]?))/\t'.led=t.led/\t'.plain=t.plain/\t'.mask=SetTable.sizeAbove wanted-1:=by
 generalize H:SetTable.sizeAbove wanted-1=mask at D I ⊢;have hs:(es.toList.map (·.1)).length=es.size:=by simp
 obtain⟨d,e,o⟩:=dE D (es.toList.map (·.1)) (by omega);have ea:es.map (·.1)=(es.toList.map (·.1)).toArray:=by
  apply Array.ext';simp
 let L:Y (Nat×Nat):=(List.range (mask+1)).filterMap λj=>(d.getD j O).map λk=>(j,k)
 have f:∀j k,(j,k)∈L↔d[j]?=Z (Z k):=λj k=>by
  show(j,k)∈List.filterMap _ _↔_;rw[List.mem_filterMap];constructor
  ·rintro⟨a,l,q⟩;rw[gD]at q;cases h1:d[a]? with
   |none=>rw[h1]at q;cases q
   |some x=>
    rw[h1]at q;cases x with
    |none=>cases q
    |some y=>cases q;exact h1
  ·intro q;refine⟨j,List.mem_range.mpr ?_,?_⟩
   ·by_cases h:j<d.size
    ·rw[<-o.size];exact h
    ·rw[k5 (by omega)]at q;cases q
   ·rw[gD,q];rfl
 have E:L.Pairwise λa b=>a.1<b.1:=by
  refine List.pairwise_filterMap.mpr (List.pairwise_lt_range.imp λ{a b} hab x hx y hy=>?_);cases h1:d.getD a O with
  |none=>rw[h1]at hx;cases hx
  |some u=>
   cases h2:d.getD b O with
   |none=>rw[h2]at hy;cases hy
   |some v=>rw[h1]at hx;rw[h2]at hy;cases hx;cases hy;exact hab
 have K:(L.map (·.2)).Nodup:=by
  refine List.pairwise_map.mpr (K2 (λ{a b} l hb hab e=>?_) E);have h1:=(f a.1 a.2).mp l;have h2:=(f b.1 b.2).mp hb;rw[e]at h1;have:=o.inj _ _ _ h1 h2;omega
 have w:(L.map (·.2)).Perm (List.range es.size):=Dp K ya λz=>by
  rw[List.mem_map,Kx];constructor
  ·rintro⟨a,l,rfl⟩;have:=o.lt _ _ ((f a.1 a.2).mp l);omega
  ·intro N;obtain⟨j,h1,_⟩:=o.all z ((es.toList.map (·.1))[z]'(by omega)) (z5 (by omega));exact⟨(j,z),(f j z).mpr h1,rfl⟩
 let g:Nat->Int×A0:=λk=>es.getD k (0,.none)
 have B:∀k,k<es.size->es[k]?=Z (g k):=λk s=>by
  show _=Z (es.getD k _);rw[gD,Z3 s];rfl
 have F:(L.map (·.2)).filterMap (λk=>es[k]?)=(L.map (·.2)).map g:=K4 λk s=>B k (List.mem_range.mp (w.mem_iff.mp s));have eL:((L.map (·.2)).toArray.filterMap (λk=>es[k]?)).toList=L.map λp=>g p.2:=by
  rw[Array.toList_filterMap,F,QE];rfl
 refine⟨{ mask:=mask,place:=(L.map (·.1)).toArray,dummies:=#[],finger:=t.finger,led:=t.led,moves:=t.movedTo mask,plain:=t.plain },(L.map (·.2)).toArray,?_,?_,?_,rfl,rfl,rfl⟩
 ·unfold SetTable.relaid SetTable.laid;rw[H,ea,e];rfl
 ·rw[Array.toList_filterMap,F];refine(w.map g).trans ?_;have:(List.range es.size).map g=es.toList:=by
   apply List.ext_getElem?;intro i;rw[Zl];by_cases h:i<es.size
   ·rw[List.getElem?_range h,qB,B i h];rfl
   ·rw[Qb (by simp;omega),Qb (by simp;omega)];rfl
  rw[this]
 ·have sz:L.length=es.size:=by
   have:=w.length_eq;rw[zr,kT]at this;exact this
  refine { mask:=D,dum:=rfl,rise:=Tk (List.pairwise_map.mpr E),bd:=λj A=>?_,full:=?_,size:=?_,reach:=λi j x h1 h2=>?_ }
  ·have A:j∈L.map (·.1):=by simpa using A
   obtain⟨a,l,rfl⟩:=List.mem_map.mp A;have q:=(f a.1 a.2).mp l;have:a.1<d.size:=by
    by_cases h:a.1<d.size
    ·exact h
    ·rw[k5 (by omega)]at q;cases q
   have:=o.size;show a.1<=mask;omega
  ·show(L.map (·.1)).toArray.size<=mask;simp only[zC,zr];omega
  ·rw[<-qk (xs:=Array.filterMap _ _),eL];simp
  ·have h1:(L.map (·.1)).toArray[i]?=Z j:=h1;rw[List.getElem?_toArray,Zl]at h1;rw[<-qB,eL,Zl]at h2;cases hi:L[i]? with
   |none=>rw[hi]at h1;cases h1
   |some p=>
    rw[hi]at h1 h2;cases h1;cases h2;have hp:(p.1,p.2)∈L:=Qr hi;have q:=(f p.1 p.2).mp hp;have s:p.2<es.size:=List.mem_range.mp (w.mem_iff.mp (List.mem_map.mpr ⟨p,hp,rfl⟩));have M:(es.toList.map (·.1))[p.2]?=Z (g p.2).1:=by
     rw[Zl,qB,B _ s];rfl
    obtain⟨J,q1,n,a,b,c⟩:=o.all _ _ M;have:J=p.1:=o.inj _ _ _ q1 q;subst this;refine⟨n,a,b,λm G=>?_⟩;obtain⟨k,q2⟩:=(Zg o (RN _ _)).mp (c m G);show _∈(L.map (·.1)).toArray;rw[List.mem_toArray];exact List.mem_map.mpr ⟨(_,k),(f _ _).mpr q2,rfl⟩
end S6
namespace S6
open P1 L2
abbrev cG(prog:A3)(w:A4)(ks:Y AY):Int:=tupleKeyHash (bx prog w) ks
def TE(prog:A3)(w:A4)(h:A6)(z:Y AY×A1)(e:Int×A0):Prop:=e=(cG prog w z.1,.ref z.2)/\IsTupleKey (bx prog w) h z.1 z.2
structure F7 (prog:Program) (w:World) (h:Heap) (zs:List (List AY×Addr)) (es:Array (Int×Value)) (t:SetTable):Prop where
 rel:Paired (TE prog w h) zs es.toList
 nd:(zs.map (·.1)).Nodup
 tok:Tok t es
 load:es.size*5<t.mask*3
 led:w.params.followText "set-order"=false->t.led=true
 non:0<es.size->t.plain=false
def Tu(prog:A3)(w:A4)(h:A6)(a:A1)(zs:Y (Y AY×A1)):Prop:=∃o es ep t,h.get? a=Z o/\o.ExactSet/\o.data=.set es ep t/\F7 prog w h zs es t
theorem Ut{h':A6}{b:A1}(x:IsTupleKey (bx prog w) h ks b)(k:∀o,h.get? b=Z o->o.cls=.type "tuple" → h'.get? b=Z o):IsTupleKey (bx prog w) h' ks b:=
 let ⟨o,AQ,n,e,c,r⟩:=x;⟨o,AQ,n,k o e c,c,r⟩
theorem O7{h':A6}{l:Y (Int×A0)}(k:∀b o,h.get? b=Z o->o.cls=.type "tuple" → h'.get? b=Z o)(r:AI (TE prog w h) zs l):AI (TE prog w h') zs l:=by
 induction r with
 |nil=>exact .nil
 |cons q _ a=>exact .cons ⟨q.1,Ut q.2 λo e c=>k _ o e c⟩ a
theorem F7.size{es:Array (Int×A0)}(x:F7 prog w h zs es t):es.size=zs.length:=by rw[x.rel.length];simp
theorem Tok.fits{t:SetTable}{es:Array (Int×A0)}(h:Tok t es):t.fits es.size=true:=by
 unfold SetTable.fits SetTable.fill;have h1:=h.full;have h2:=h.size;rw[h.dum];simp[h2];omega
theorem Tok.odd{es:Array (Int×A0)}(h:Tok t es):t.gaveWay=false:=by
 unfold SetTable.gaveWay;rcases h.mask with e|e|e<;>rw[e]<;>rfl
theorem JK{d:Nat}{b:A1}{Q:Bool->A2->Prop}(e:IsTupleKey (bx prog w) s.heap ks b)(h:Q false s):A7 (A8 prog w) A (ofAClassStatement (d+1) (.ref b)) Q E s:=by
 have j:=e.typeIs;obtain⟨o,items,n,ho,_,i,hi⟩:=e;unfold ofAClassStatement;refine zb (QQ j ?_);dsimp only;refine zb (ze ?_);simp only[kA,zl,ZI];refine zb (wpAny_seqItems ho i ?_);dsimp only;refine zb ?_;rw[<-Array.forIn_toList];refine wpAny_forIn_list _ (λAS r s'=>r.1=O/\s'=s/\∀v∈AS,carriedByValue v=true) _ ?_ ?_ _ _ ⟨rfl,rfl,hi.byValue⟩
 ·rintro v AS r s' ⟨c,rfl,f⟩;have l:ofAClassStatement d v=pure false:=by
   have:=f v zh;cases v with
   |ref a=>simp[carriedByValue]at this
   |_=>unfold ofAClassStatement;rfl
  rw[l];refine zb (ze ?_);simp only[zl,ZI];exact ze ⟨rfl,rfl,λu g=>f u (zi _ g)⟩
 ·rintro⟨m,p⟩ s' ⟨c,rfl,_⟩;simp only at c;subst c;exact ze h
theorem Xt{b:A1}{Q:Bool->A2->Prop}(g:IsTupleKey (bx prog w) s.heap ks b)(vs:Y A0)(l:∀v∈vs,∃c a,v=.ref c/\IsTupleKey (bx prog w) s.heap a c)(h:Q false s):A7 (A8 prog w) A (searchCouldBeSeen (.ref b) vs) Q E s:=by
 unfold searchCouldBeSeen;refine zb ?_;refine wpAny_forIn_list _ (λAS r s'=>r.1=O/\s'=s/\∀v∈AS,∃c a,v=.ref c/\IsTupleKey (bx prog w) s.heap a c) _ ?_ ?_ _ _ ⟨rfl,rfl,l⟩
 ·rintro v AS r s' ⟨d,rfl,i⟩;obtain⟨c,a,rfl,f⟩:=i v zh;have e:∀v∈AS,∃c a,v=.ref c/\IsTupleKey (bx prog w) s'.heap a c:=λu j=>i u (zi _ j);dsimp only;split
  ·exact ze ⟨rfl,rfl,e⟩
  ·refine zb (wpAny_eqIsQuiet_tuple g ?_);simp only[kA,zl,ZI];refine zb (wpAny_eqIsQuiet_tuple f ?_);simp only[kA,zl,ZI];refine zb (JK g ?_);simp only[zl,ZI];refine zb (JK f ?_);simp only[zl,ZI];exact ze ⟨rfl,rfl,e⟩
 ·rintro⟨m,n⟩ s' ⟨d,rfl,_⟩;simp only at d;subst d;exact ze h
theorem Lg{h:A6}:∀{zs:Y (Y AY×A1)} {l:Y (Int×A0)},AI (TE prog w h) zs l->∀{i:Nat} {e},l[i]?=Z e->∃z,zs[i]?=Z z/\TE prog w h z e
 |_,_,.nil,i,e,q=>by simp at q
 |_,_,.cons r _,0,e,q=>by simp at q;subst q;exact⟨_,rfl,r⟩
 |_,_,.cons _ t,i+1,e,q=>by
  rw[ZZ]at q;obtain⟨z,z1,z2⟩:=Lg t q;exact⟨z,by rw[ZZ];exact z1,z2⟩
theorem zm{h:A6}:∀{zs:Y (Y AY×A1)} {l:Y (Int×A0)},AI (TE prog w h) zs l->∀{i:Nat} {z},zs[i]?=Z z->∃e,l[i]?=Z e/\TE prog w h z e
 |_,_,.nil,i,e,q=>by simp at q
 |_,_,.cons r _,0,e,q=>by simp at q;subst q;exact⟨_,rfl,r⟩
 |_,_,.cons _ t,i+1,e,q=>by
  rw[ZZ]at q;obtain⟨z,z1,z2⟩:=zm t q;exact⟨z,by rw[ZZ];exact z1,z2⟩
theorem DD(p:Nat->Prop):∀(k n:Nat),p (n+k)->∃d,d<=k/\p (n+d)/\∀m,n<=m->m<n+d->¬ p m
 |0,n,h=>⟨0,zk _,h,λm h1 h2=>absurd h2 (by omega)⟩
 |k+1,n,h=>by
  by_cases q:p n
  ·exact⟨0,QO _,q,λm h1 h2=>absurd h2 (by omega)⟩
  ·obtain⟨d,h1,h2,c⟩:=DD p k (n+1) (by rw[show n+1+k=n+(k+1) by omega];exact h);refine⟨d+1,by omega,by rw[show n+(d+1)=n+1+d by omega];exact h2,λm a b=>?_⟩;by_cases e:m=n
   ·rw[e];exact q
   ·exact c m (by omega) (by omega)
theorem De{o:AE}{es:Array (Int×A0)}{b:A1}(hu:A.units<cLine)(ho:s.heap.get? a=Z o)(L:o.data=.set es ep t)(x:F7 prog w s.heap zs es t)(K:IsTupleKey (bx prog w) s.heap ks b){N:Nat}(hN:N<10*SetTable.turns t.mask)(g:(gJ t.mask (cG prog w ks) N).j∉t.place)(hp:∀m,m<N->(gJ t.mask (cG prog w ks) m).j∈t.place){Q:SetFound->A2->Prop}(h1:ks∈zs.map (·.1)->Q (.there O) s)(h2:ks∉zs.map (·.1)->Q (.free (gJ t.mask (cG prog w ks) N).j false) s):
  ∀(k n fuel:Nat) (G:S SetTable.Probe),n+k=N->k<fuel->G.getD (t.probeStart (cG prog w ks))=gJ t.mask (cG prog w ks) n->(∀m,m<n->∀i:Nat,t.place[i]?=Z (gJ t.mask (cG prog w ks) m).j->∀z:Y AY×A1,zs[i]?=Z z->z.1≠ks) →
   A7 (A8 prog w) A (setSearchFrom a (.ref b) (cG prog w ks) true fuel G) Q E s:=by
 have get:∀{i:Nat} {e},es[i]?=Z e->∃z,zs[i]?=Z z/\TE prog w s.heap z e:=λ{i e} q=>Lg x.rel (by rw[qB];exact q);have W:=x.tok.fits;intro k
 induction k using Nat.strongRecOn with
 |ind k ih=>
  intro n fuel G hn a3 a0 hb;cases fuel with
  |zero=>omega
  |succ fuel=>
  unfold setSearchFrom;refine zb (QU ho L W ?_);dsimp only;rw[zw (by rw[x.tok.odd];decide)];refine zb (ze ?_);rw[a0];obtain⟨d,d1,d2,D⟩:=DD (λm=>m=N\/∃i:Nat,t.place[i]?=Z (gJ t.mask (cG prog w ks) m).j/\∃e:Int×A0,es[i]?=Z e/\e.1=cG prog w ks) k n (.inl hn);have live:∀m,m<N->∃i:Nat,t.place[i]?=Z (gJ t.mask (cG prog w ks) m).j/\∃e,es[i]?=Z e:=λm p=>by
   obtain⟨i,hi,e⟩:=Array.getElem_of_mem (hp m p);have f:i<es.size:=by rw[<-x.tok.size];exact hi
   exact⟨i,by rw[Z3 hi,e],es[i],Z3 f⟩
  have pr:=O2 x.tok.toTb (λi=>(es[i]?.map (·.1)).getD 0) (cG prog w ks) d (10*SetTable.turns t.mask) n (by omega) λm a1 a2=>by
   have q:=D m a1 a2;obtain⟨i,e1,e,e2⟩:=live m (by omega);refine⟨i,e1,λq'=>q (.inr ⟨i,e1,e,e2,?_⟩)⟩;simpa[e2]using q'
  have M:t.probe (λi=>(es[i]?.map (·.1)).getD 0) (cG prog w ks) (gJ t.mask (cG prog w ks) n)=SetTable.probe.go t (λi=>(es[i]?.map (·.1)).getD 0) (cG prog w ks) (10*SetTable.turns t.mask) (gJ t.mask (cG prog w ks) n):=rfl;by_cases I:n+d=N
  ·have p1:=pr.1 (by rw[I];exact g);rw[I]at p1;show A7 _ _ (match t.probe (λi=>(es[i]?.map (·.1)).getD 0) (cG prog w ks) (gJ t.mask (cG prog w ks) n)with|some met=>_|_=>_) _ _ _;rw[M,p1];dsimp only;refine ze (h2 λp=>?_);obtain⟨z,hz,F⟩:=List.mem_map.mp p;obtain⟨i,hi,e⟩:=jv hz;obtain⟨l,e1,e2⟩:=zm x.rel (show zs[i]?=Z z by rw[z5 hi,e]);rw[qB]at e1;have f:i<t.place.size:=by rw[x.tok.size,x.size];exact hi
   obtain⟨h,b1,b2,J⟩:=x.tok.reach i _ l (Z3 f) e1;rw[e2.1,F]at b2 J;have lt:h<N:=by
    rcases Nat.lt_trichotomy h N with q|q|q
    ·exact q
    ·exfalso;rw[<-q]at g;rw[b2]at g;exact g (Array.getElem_mem f)
    ·exact absurd (J N q) g
   by_cases q:h<n
   ·exact hb h q i (by rw[b2];exact Z3 f) z (by rw[z5 hi,e]) F
   ·exact D h (by omega) (by omega) (.inr ⟨i,by rw[b2];exact Z3 f,l,e1,by rw[e2.1,F]⟩)
  ·rcases d2 with q|⟨i,i1,e,i2,i3⟩
   ·exact absurd q I
   ·have p2:=pr.2 i i1 (by simpa[i2]using i3);show A7 _ _ (match t.probe (λi=>(es[i]?.map (·.1)).getD 0) (cG prog w ks) (gJ t.mask (cG prog w ks) n)with|some met=>_|_=>_) _ _ _;rw[M,p2];dsimp only;obtain⟨z,z1,z2⟩:=get i2;have H:∀v∈((es.filter (·.1==cG prog w ks)).toList.map (·.2)),∃c ls,v=.ref c/\IsTupleKey (bx prog w) s.heap ls c:=λv H=>by
     obtain⟨u,P,rfl⟩:=List.mem_map.mp H;rw[Array.toList_filter,List.mem_filter]at P;obtain⟨jj,X,ej⟩:=jv P.1;obtain⟨y,y1,y2⟩:=Lg x.rel (show es.toList[jj]?=Z u by rw[z5 X,ej]);exact⟨y.2,y.1,by rw[y2.1],y2.2⟩
    have U:A7 (A8 prog w) A (do
      let Z (_,y):=es[i]?|unsupported "internal:set-entry"
      let equal <-holding [y] (eqBool y (.ref b))
      let (es',_,t') <-setState a
      if(true&&equal)=true then return SetFound.there O
      let Z same:=t'.sameMemory t.moves t.mask|unsupported "set.changed-during-lookup:is-the-new-block-at-the-old-address"
      let still <-match (if same then t'.slot (gJ t.mask (cG prog w ks) (n+d)).j else .empty)with
       |.live i'=>match es'[i']? with
        |some (_,y')=>do pure (if <-isSame y' y then Z i' else O)
        |none=>pure O
       |_=>pure O
      match still with
      |none=>rule "set.search.anew"; setSearchFrom a (.ref b) (cG prog w ks) true fuel O
      |some i'=>if equal then return .there (Z i')else setSearchFrom a (.ref b) (cG prog w ks) true fuel (Z (gJ t.mask (cG prog w ks) (n+d+1)))) Q E s:=by
     rw[i2,z2.1];dsimp only;refine zb (QP (wpAny_eqBool_tuple hu z2.2 K ?_));refine zb (QU ho L W ?_);dsimp only;by_cases B:z.1=ks
     ·rw[z4 B];simp only[Bool.and_self,qA];exact ze (h1 (List.mem_map.mpr ⟨z,Qr z1,B⟩))
     ·rw[Zp B];simp only[KA,zl,ZI];have sm:t.sameMemory t.moves t.mask=Z true:=by unfold SetTable.sameMemory;simp
      rw[sm];dsimp only;simp only[qA];rw[Az x.tok.toTb i1];dsimp only;rw[i2,z2.1];dsimp only;refine zb (wpAny_isSame_ref_self (zb (ze ?_)));simp only[qA];refine ih (N-(n+d+1)) (by omega) (n+d+1) fuel _ (by omega) (by omega) Y3 λm p i' C y y1=>?_;by_cases c1:m<n
      ·exact hb m c1 i' C y y1
      ·by_cases c2:m=n+d
       ·subst c2;have:i'=i:=by
         have s1:=Fw x.tok.rise C;have s2:=Fw x.tok.rise i1;omega
        subst this;rw[z1]at y1;cases y1;exact B
       ·have q:=D m (by omega) (by omega);intro e';obtain⟨l,e1,e2⟩:=zm x.rel y1;rw[qB]at e1;exact q (.inr ⟨i',C,l,e1,by rw[e2.1,e']⟩)
    split
    ·refine zb (Xt K _ H ?_);simp only[zl,ZI];exact U
    ·exact U
def ED(ks:Y AY):Prop:=∃x:AJ,(Sum.inr x:AY)∈ks
theorem Zi{b:A1}{Q:Bool->A2->Prop}(c:IsTupleKey (bx prog w) s.heap ks b)(hx:ED ks)(h:Q false s):A7 (A8 prog w) A (hashByValue 8 (.ref b)) Q E s:=by
 have l:=c.typeIs;obtain⟨o,items,n,ho,_,j,hi⟩:=c;unfold hashByValue;refine zb (wpAny_specialOf l F.slot_tuple_hash.lookup ?_);dsimp only;refine zb (wpAny_seqItems ho j ?_);show A7 _ _ (forIn items _ _ >>= _) _ _ s;refine zb ?_;rw[<-Array.forIn_toList];refine wpAny_forIn_list _ (λAS r s'=>r.1=O/\s'=s/\∃left,ItemsAre (bx prog w) left AS/\ED left) _ ?_ ?_ _ _ ⟨rfl,rfl,ks,hi,hx⟩
 ·rintro v AS r s' ⟨g,rfl,left,a,x,hx⟩;cases a with
  |@cons k _ f _ h1 d=>
   rcases bM h1 with⟨i,t,rfl,rfl⟩|⟨y,t,rfl,rfl⟩
   ·have e:hashByValue 7 (.int i t)=pure true:=by unfold hashByValue;rfl
    rw[e];refine zb (ze ?_);simp only[kA,zl,ZI];refine ze ⟨rfl,rfl,f,d,x,?_⟩;rcases List.mem_cons.mp hx with q|q
    ·cases q
    ·exact q
   ·have e:hashByValue 7 (.str y t)=pure false:=by unfold hashByValue;rfl
    rw[e];refine zb (ze ?_);simp only[kD,qA];exact ze (ze h)
 ·rintro⟨m,p⟩ s' ⟨g,rfl,left,a,x,hx⟩;cases a;cases hx
theorem Wx{es:Array (Int×A0)}(h:Tok t es):Tok { t with plain:=false } es:={ mask:=h.mask,dum:=h.dum,rise:=h.rise,bd:=h.bd,full:=h.full,size:=h.size,reach:=h.reach }
theorem dA{b:A1}{Q:Bool->A2->Prop}(hu:A.units<cLine)(hS:Tu prog w s.heap a zs)(K:IsTupleKey (bx prog w) s.heap ks b)(hx:ED ks)(d2:zs.length+1<=70)(h:∀r h' L,Heap.SameBut a s.heap h'->Tu prog w h' a L->(∀z,z∈L↔z∈zs\/(z=(ks,b)/\ks∉zs.map (·.1)))->L.length<=zs.length+1->Q r { s with heap:=h' }):A7 (A8 prog w) A (setAddHashed a (.ref b) (cG prog w ks)) Q E s:=by
 obtain⟨o,es,ep,t,ho,J,C,x⟩:=id hS;have d0:=x.size;have b3:=x.tok.fits;have a3:=x.load;have c1:o.cls≠.type "tuple":=by rw[J.1];decide
 obtain⟨N,f,n2,n3⟩:=RM x.tok.toTb (cG prog w ks);have d1:10*SetTable.turns t.mask<100000:=by
  unfold SetTable.turns;rcases x.tok.mask with e|e|e<;>rw[e]<;>decide
 unfold setAddHashed setAddHashedIn;refine QP (zb (QU ho C b3 ?_));dsimp only;have hb:byScan (.ref b) es=false:=by unfold byScan;rfl
 rw[hb];simp only[zl,ZI];unfold setSearch;refine zb (De hu ho C x K f n2 n3 (λn=>?_) (λn=>?_) N 0 100000 O (by omega) (by omega) Y3 λm n=>absurd n (km _))
 ·dsimp only;exact ze (h _ s.heap zs (Heap.SameBut.refl a s.heap) hS (λz=>⟨.inl,λq=>q.elim id λq=>absurd n q.2⟩) (Kb _))
 ·dsimp only;refine zb (QU ho C b3 ?_);dsimp only;have hj:=RN (mask:=t.mask) (cG prog w ks) N;have c3:es.size+1<=t.mask:=by rcases x.tok.mask with e|e|e<;>rw[e]at a3 ⊢<;>omega
  obtain⟨pt,pl,pp,W⟩:=bX (x:=.ref b) x.tok f n2 n3 hj c3;generalize hP:t.put (gJ t.mask (cG prog w ks) N).j=P at pt pl pp W ⊢;obtain⟨t1,p⟩:=P;dsimp only at pt pl pp W ⊢;have c8:(SetTable.insertAt es p (cG prog w ks,.ref b)).toList.Perm (es.toList++[(cG prog w ks,.ref b)]):=by
   rw[zj];refine(List.perm_middle).trans ?_;rw[List.take_append_drop];exact(List.perm_append_singleton _ _).symm
  have r0:AI (TE prog w s.heap) (zs++[(ks,b)]) (es.toList++[(cG prog w ks,.ref b)]):=RD x.rel (.cons ⟨rfl,K⟩ .nil);obtain⟨D,q1,r1⟩:=Bv c8 r0;have b9:(D.map (·.1)).Nodup:=(q1.map (·.1)).nodup_iff.mpr (by
   rw[qh];exact List.nodup_append.mpr ⟨x.nd,by simp,λu c6 v hv=>by simp at hv;subst hv;exact λe=>n (e▸c6)⟩)
  have m1:∀z,z∈D↔z∈zs\/(z=(ks,b)/\ks∉zs.map (·.1)):=λz=>by
   rw[q1.mem_iff,List.mem_append,List.mem_singleton];exact⟨λq=>q.imp id λe=>⟨e,n⟩,λq=>q.imp id λe=>e.1⟩
  have l1:D.length=zs.length+1:=by rw[q1.length_eq];simp
  have l:(SetTable.insertAt es p (cG prog w ks,Value.ref b)).size=es.size+1:=vG _ _ _;have up:∀(hp:A6) (G:AE) (e1 e2:Array (Int×A0)) (f:Nat) (u1 y:SetTable),hp.get? a=Z G->G.data=.set e1 f u1->(hp.update a (Obj.putSet e2 y)).get? a=Z { G with data:=.set e2 (f+1) y }:=λhp G e1 e2 f u1 y g q=>by
   have:=k6 (Obj.putSet e2 y) g (by rw[putSet_of e2 y q];rfl);rw[putSet_of e2 y q]at this;exact this
  have kp:∀{h':A6},Heap.SameBut a s.heap h'->∀c I,s.heap.get? c=Z I->I.cls=.type "tuple" → h'.get? c=Z I:=λsb c I e ec=>by
   rw[sb.2 c λq=>by subst q;rw[ho]at e;cases e;exact c1 ec];exact e
  have b0:∀t2:SetTable,Tok t2 (SetTable.insertAt es p (cG prog w ks,.ref b))->t2.led=t1.led->t2.plain=false->t2.mask=t1.mask->A7 (A8 prog w) A (do
    storeSet a (SetTable.insertAt es p (cG prog w ks,.ref b)) t2
    if(!false&&t2.tooFull)=true then setRelay a (SetTable.grown (es.size+1))
    pure true) Q E s:=by
   intro t2 F l2 p2 m2;have g1:=up s.heap o es (SetTable.insertAt es p (cG prog w ks,.ref b)) ep t t2 ho C;refine zb (wpAny_storeSet_of ho C ?_ (fits_of_scanBound (by rw[l];have:scanBound=4096:=rfl;omega)));have X:Heap.SameBut a s.heap (s.heap.update a (Obj.putSet (SetTable.insertAt es p (cG prog w ks,.ref b)) t2)):=Heap.SameBut.update ..;have a0:t2.fill=es.size+1:=by unfold SetTable.fill;rw[F.dum,F.size,l];rfl
   have a4:w.params.followText "set-order"=false->t2.led=true:=λq=>l2.trans (pl.trans (x.led q));by_cases d:t2.tooFull=true
   ·rw[d];simp only[kD,Bool.and_self,qA];have hf:t2.fill*5>=t2.mask*3:=by unfold SetTable.tooFull at d;simpa using d
    rw[a0,m2,W]at hf;have hg:SetTable.grown (es.size+1)=(es.size+1)*4:=by unfold SetTable.grown;rw[zw (by omega)]
    have a1:(es.size=4/\t.mask=7)\/(es.size=18/\t.mask=31):=by
     rcases x.tok.mask with e|e|e<;>rw[e]at hf a3
     ·exact .inl ⟨by omega,e⟩
     ·exact .inr ⟨by omega,e⟩
     ·omega
    have H:(es.size=4->SetTable.sizeAbove (SetTable.grown (es.size+1))=32)/\(es.size=18->SetTable.sizeAbove (SetTable.grown (es.size+1))=128):=by
     rw[hg];exact⟨λe=>by rw[e];decide,λe=>by rw[e];decide⟩
    have U:SetTable.sizeAbove (SetTable.grown (es.size+1))-1=31/\es.size=4\/SetTable.sizeAbove (SetTable.grown (es.size+1))-1=127/\es.size=18:=by
     rcases a1 with⟨e,_⟩|⟨e,_⟩
     ·exact .inl ⟨by rw[H.1 e],e⟩
     ·exact .inr ⟨by rw[H.2 e],e⟩
    obtain⟨t3,B,e3,a5,k3,l3,p3,m3⟩:=Ww (t:=t2) (es:=SetTable.insertAt es p (cG prog w ks,.ref b)) (wanted:=SetTable.grown (es.size+1)) (by rcases U with⟨e,_⟩|⟨e,_⟩<;>rw[e]<;>simp) (by rw[l];rcases U with⟨e,e'⟩|⟨e,e'⟩<;>rw[e,e']<;>decide);unfold setRelay;refine zb (zb (QU g1 Y3 F.fits ?_));dsimp only;have c2:¬ (SetTable.sizeAbove (SetTable.grown (es.size+1))>AA):=by
     rcases a1 with⟨e,_⟩|⟨e,_⟩
     ·rw[H.1 e];decide
     ·rw[H.2 e];decide
    rw[zw c2];have M:(B.filterMap (λi=>(SetTable.insertAt es p (cG prog w ks,Value.ref b))[i]?)).size=(SetTable.insertAt es p (cG prog w ks,Value.ref b)).size:=by
     rw[<-qk,a5.length_eq,qk]
    rw[e3];refine zb ?_;show A7 _ _ (if((B.filterMap (λi=>(SetTable.insertAt es p (cG prog w ks,Value.ref b))[i]?)).size !=(SetTable.insertAt es p (cG prog w ks,Value.ref b)).size)=true then _ else pure (B.filterMap (λi=>(SetTable.insertAt es p (cG prog w ks,Value.ref b))[i]?),t3)) _ _ _;rw[zw (by rw[M];simp)];refine ze ?_;dsimp only;refine wpAny_storeSet_of g1 Y3 ?_ (fits_of_scanBound (by rw[M,l];have:scanBound=4096:=rfl;omega));have g2:=up _ _ (SetTable.insertAt es p (cG prog w ks,.ref b)) (B.filterMap (λi=>(SetTable.insertAt es p (cG prog w ks,Value.ref b))[i]?)) _ t2 t3 g1 rfl;have a2:Heap.SameBut a s.heap ((s.heap.update a (Obj.putSet (SetTable.insertAt es p (cG prog w ks,.ref b)) t2)).update a (Obj.putSet (B.filterMap (λi=>(SetTable.insertAt es p (cG prog w ks,Value.ref b))[i]?)) t3)):=X.trans (Heap.SameBut.update ..);obtain⟨c0,q2,r2⟩:=Bv a5 r1;refine ze (h _ _ c0 a2 ⟨_,_,_,t3,g2,J,rfl,⟨O7 (kp a2) r2,(q2.map (·.1)).nodup_iff.mpr b9,k3,?_,λq=>l3.trans (a4 q),λ_=>p3.trans p2⟩⟩ (λz=>by rw[q2.mem_iff];exact m1 z) (by rw[q2.length_eq];omega));rw[M,l,m3];rcases U with⟨e,e'⟩|⟨e,e'⟩<;>rw[e,e']<;>decide
   ·have d:t2.tooFull=false:=by simpa using d
    rw[d];simp only[KA,zl,ZI];refine zb (ze ?_);refine ze (h _ _ D X ⟨_,_,_,t2,g1,J,rfl,⟨O7 (kp X) r1,b9,F,?_,a4,λ_=>p2⟩⟩ m1 (by omega));unfold SetTable.tooFull at d;rw[a0]at d;rw[l];simpa using d
  split
  ·refine zb (Zi K hx ?_);simp only[zl,ZI];exact b0 { t1 with plain:=false } (Wx pt) Y3 Y3 rfl
  ·rename_i hp;refine zb (ze ?_);simp only[qA];exact b0 t1 pt Y3 (by simpa using hp) rfl
end S6
namespace S1
open L2
theorem RV{x:A0}(G:Y A0->Prop)(kd:SortKind)(rk:Y A0->A0->Nat){Q:BB}(t:∀(g:BB) (i:Y A0->A2->Prop),(∀vs h' d tk,G vs->s.heap.objs.size<=h'.objs.size->(∀c o,s.heap.get? c=Z o->h'.get? c=Z o)->i vs { s with heap:=h',drawn:=d,toks:=tk })->A7 (A8 prog w) A.in1 (collect x) i g s)
  (v:∀vs,G vs->2<=vs.length->∀(g:BB) (f:A5) (s':A2),(∀c o,s.heap.get? c=Z o->s'.heap.get? c=Z o)->∀Q:SortKind->A2->Prop,Q kd s'->A7 (A8 prog w) f (keyKind' vs.toArray) Q g s') (y:∀vs,G vs->∀(f:A5) (s':A2),(∀c o,s.heap.get? c=Z o->s'.heap.get? c=Z o)->Xo prog w f s' kd (rk vs) (pairsOf vs)) (j:∀vs,G vs->vs.length<64)
  (h:∀vs,G vs->∀(l:A1) (h':A6) (d:Drawn) (tk n:Nat) (st:SortSt),(AM st).Perm (pairsOf vs)->Up (rk vs) (AM st) (pairsOf vs).size->s.heap.objs.size<=l->(∀c o,s.heap.get? c=Z o->h'.get? c=Z o)->h'.get? l=Z (seqObj "list" ((AM st).map (·.2)) n)->Q (.ref l) { s with heap:=h',drawn:=d,toks:=tk }):
  A7 (A8 prog w) A (call (.builtin "sorted") [x]) Q E s:=by
 refine Calls.call_function_entry kind_sorted plain_sorted entry_sorted (args_sorted1 _) ?_;unfold Builtin.«sorted»;refine zb (m:=checkCount "sorted" 1 1 _) (ze (zb (t _ _ λvs h1 d tk a u ext=>?_)));have z:=j vs a;refine zb (wpAny_newList ?_);have b:(h1.push (seqObj "list" vs.toArray 0)).get? h1.objs.size=Z (seqObj "list" vs.toArray 0):=zv _ rfl;have old:∀s':A2,EN h1.objs.size { s with heap:=h1.push (seqObj "list" vs.toArray 0),drawn:=d,toks:=tk } s'->∀c o,s.heap.get? c=Z o->s'.heap.get? c=Z o:=λs' q c o e=>
  q c o (zI (zz (ext c o e))) (zd _ (ext c o e))
 refine zb (QP (kc slot_list_sort ⟨_,b,rfl⟩ entry_list_sort (MV b (λq s' o=>v vs a q _ _ s' (old s' o)) (λs' o=>y vs a _ s' (old s' o)) (j vs a) λst q1 q2=>⟨_,rfl,ze ⟨_,rfl,?_⟩⟩) (args_list_sort _)));obtain⟨n,p⟩:=sortedHeap_at (out:=(AM st).map (·.2)) b;refine h vs a h1.objs.size _ d tk n st q1 q2 u (λc o e=>?_) p;have hb:=zz (ext c o e);rw[sortedHeap_old (zI hb) (by rw[qq];exact qV hb)];exact zd _ (ext c o e)
end S1
namespace P1
open L2 S6
section
theorem Wy{d:Drawn}(I:AU X AN σ H s):AU X AN σ H { s with drawn:=d }:=⟨I.ok,I.os,I.bare,I.base,I.loc,I.cell,I.free,I.qD,I.pin,I.hok,I.len⟩
variable{fs:Ev->S AZ}{p:Pos}
end
section
variable{xs:AZ}
end
section
variable{xs:AZ}
variable{fs:Ev->S AZ}{p':Pos}
end
end P1
namespace P1
open L2 S1 S6
def Ts(prog:A3)(w:A4)(h:A6)(a:A1)(zs:Y (Y AY×A1)):Prop:=∃o es ep t,h.get? a=Z o/\o.ExactSet/\o.data=.set es ep t/\es.toList=zs.map (λz=>(cG prog w z.1,(.ref z.2:A0)))/\t.fits es.size=true/\(w.params.followText "set-order"=false->t.led=true)/\(0<es.size->t.plain=false)
theorem O8{prog:A3}{w:A4}{h:A6}:∀{zs:Y (Y AY×A1)} {l:Y (Int×A0)},AI (TE prog w h) zs l->l=zs.map (λz=>(cG prog w z.1,(.ref z.2:A0)))
 |_,_,.nil=>rfl
 |_,_,.cons r t=>by rw[zt,<-O8 t,r.1]
theorem Ts.of(x:Tu prog w h a zs):Ts prog w h a zs:=
 let ⟨o,es,ep,t,e,r,d,q⟩:=x;⟨o,es,ep,t,e,r,d,O8 q.rel,q.tok.fits,q.led,q.non⟩
theorem Ts.keep{h':A6}(x:Ts prog w h a zs)(k:∀o,h.get? a=Z o->h'.get? a=Z o):Ts prog w h' a zs:=
 let ⟨o,es,ep,t,e,r⟩:=x;⟨o,es,ep,t,k o e,r⟩
def F5(X:Cx)(a:A1)(zs:Y (Y AY×A1)):HO:=.ext λh=>Ts X.prog X.w h a zs
theorem Zj(X:Cx)(h:Ks ks us):ItemsAre (bx X.prog X.w) ks us:=by
 induction h with
 |nil=>exact .nil
 |cons r _ a=>exact .cons r a
theorem Zk(X:Cx)(h:ItemsAre (bx X.prog X.w) ks us):Ks ks us:=by
 induction h with
 |nil=>exact .nil
 |cons r _ a=>exact .cons r a
theorem O9(X:Cx){v:A0}(q:jE h ks v):∃b,v=.ref b/\IsTupleKey (bx X.prog X.w) h ks b:=by
 obtain⟨a,o,AQ,n,e,g,c,d,p⟩:=q;exact⟨a,e,o,AQ.toArray,n,g,c,d,by simpa using Zj X p⟩
theorem Zm(X:Cx){b:A1}(q:IsTupleKey (bx X.prog X.w) h ks b):jE h ks (.ref b):=by
 obtain⟨o,AQ,n,g,c,d,p⟩:=q;exact⟨b,o,AQ.toList,n,rfl,g,c,by simpa using d,Zk X p⟩
def d5(X:Cx):Y V->Hp->VK->Prop:=λxs H Q=>∃v b ds cR,xs=[v]/\aW X.K H b v/\u5 b=Z ds/\xV ds=Z cR/\cR.length<=64/\(∀k∈cR,ED k) ∧
 ∀a zs H',AV H H'->H' a=Z (F5 X a zs)->(∀k,k∈zs.map (·.1)↔k∈cR)->(zs.map (·.1)).Nodup->(∀z∈zs,AW X.K H' (BM z.1) (.ref z.2))->Q (.ref a) H'
def CU(X:Cx)(S:A1)(AQ:Y A0)(h:A6)(ys:Y (Y AY)):Prop:=∃zs,zs.map (·.1)=ys/\Tu X.prog X.w h S zs/\∀z∈zs,(.ref z.2:A0)∈AQ
theorem zq{h:A6}:∀{cR:Y (Y AY)} {vs:Y A0},AI (jE h) cR vs->∀{i:Nat} {v:A0},vs[i]?=Z v->∃k,cR[i]?=Z k/\jE h k v
 |_,_,.nil,i,v,q=>by simp at q
 |_,_,.cons r _,0,v,q=>by simp at q;subst q;exact⟨_,rfl,r⟩
 |_,_,.cons _ t,i+1,v,q=>by
  rw[ZZ]at q;obtain⟨z,z1,z2⟩:=zq t q;exact⟨z,by rw[ZZ];exact z1,z2⟩
theorem Pa{h0:A6}{S:A1}(hs:AI (jE h0) cR AQ)(hl:cR.length<=64)(hx:∀k∈cR,ED k)(B:h0.objs.size=S):E6 X.prog X.w S [S+1] (λh zs=>(∀b o,h0.get? b=Z o->h.get? b=Z o)/\CU X S AQ h zs) (λi v=>AQ.toArray[i]?=Z v) (λi=>cR.getD i []) AQ.length where
 keep:=λh h' ys t k=>by
  obtain⟨p,zs,e,t,m⟩:=t;have x:∀b o,(b=S\/b<S)->h.get? b=Z o->h'.get? b=Z o:=λb o hb e=>k b o (by
   simp only[QY,jI,or_false];rcases hb with rfl|hb
   ·exact zI (qc _)
   ·exact zI (qV hb)) e
  have old:∀b o,h0.get? b=Z o->h'.get? b=Z o:=λb o e=>x b o (.inr (by rw[<-B];exact zz e)) (p b o e);refine⟨old,zs,e,?_,m⟩;obtain⟨o,es,ep,I,g,r,d,q⟩:=t;refine⟨o,es,ep,I,x S o (.inl Y3) g,r,d,⟨?_,q.nd,q.tok,q.load,q.led,q.non⟩⟩;have K:∀{zs:Y (Y AY×A1)} {l:Y (Int×A0)},AI (TE X.prog X.w h) zs l->(∀z∈zs,(.ref z.2:A0)∈AQ)->AI (TE X.prog X.w h') zs l:=by
   intro zs l r
   induction r with
   |nil=>intro _;exact .nil
   |cons q _ M=>
    intro m;refine .cons ⟨q.1,Ut q.2 λo e c=>?_⟩ (M λz n=>m z (zi _ n));obtain⟨i,hi,U⟩:=jv (m _ (zh ..));obtain⟨kk,_,tv⟩:=zq hs (show AQ[i]?=Z _ by rw[z5 hi,U]);obtain⟨b,eb,⟨W,_,_,gb,_⟩⟩:=O9 X tv;cases eb;exact x _ o (.inr (by rw[<-B];exact zz gb)) e
  exact K q.rel m
 add:=λA E s i v ys Q G hi j P n h=>by
  obtain⟨p,zs,e,t,m⟩:=P;have j:AQ[i]?=Z v:=by simpa using j
  obtain⟨ks,e1,tv⟩:=zq hs j;have H:=tv.keep p;obtain⟨b,rfl,C⟩:=O9 X H;have L:cR.getD i []=ks:=by simp[List.getD,e1]
  have a1:AQ.length=cR.length:=hs.length.symm;have a0:zs.length=ys.length:=by rw[<-e,zr]
  unfold setAdd;refine QP (zb (wpAny_pyHash_tuple G C ?_));refine dA (s:={ s with toks:=s.toks+(ks.length+1) }) G t C (hx ks (Qr e1)) (by omega) λr h' F D N a l=>?_;refine h r h' _ (F.map (·.1)) D ⟨λc o g=>?_,F,rfl,N,λz n=>?_⟩ (λz=>?_) (by rw[zr];omega) (Nat.le_add_right _ _)
  ·rw[D.2 c λq=>by subst q;have:=zz g;rw[B]at this;exact JE _ this];exact p c o g
  ·rcases(a z).mp n with q|⟨q,_⟩
   ·exact m z q
   ·subst q;exact Qr j
  ·rw[L,<-e,List.mem_map,List.mem_map];constructor
   ·rintro⟨y,f,rfl⟩;rcases(a y).mp f with q|⟨q,_⟩
    ·exact .inl ⟨y,q,rfl⟩
    ·exact .inr (congrArg Prod.fst q)
   ·rintro(⟨y,f,u⟩|J)
    ·exact⟨y,(a y).mpr (.inl f),u⟩
    ·rw[J];by_cases q:ks∈zs.map (·.1)
     ·obtain⟨y,f,u⟩:=List.mem_map.mp q;exact⟨y,(a y).mpr (.inl f),u⟩
     ·exact⟨(ks,b),(a _).mpr (.inr ⟨rfl,q⟩),rfl⟩
theorem YO(hc:X.calm=true)(hu:X.A.units+100<cLine):f9 X (.type "set") (d5 X):=by
 intro AN s σ H xs us Q I r h;obtain⟨v,b,ds,cR,rfl,rb,ed,ek,hl,hx,q⟩:=h;obtain⟨u,rfl,ru⟩:=BF r;obtain⟨p,vs,rfl,sq,rs⟩:=Dl rb ed;have a4:=Aw ek;subst a4;cases ru;have W:=I.ok.hd hc;have a1:∀(h':A6) (tk:Nat) (ys:Y (Y AY)) (AQ:Y A0),AX vs AQ->((∀b o,s.heap.get? b=Z o->h'.get? b=Z o)/\CU X s.heap.objs.size AQ h' ys)->(∀z,z∈ys↔∃j,j<AQ.length/\z=cR.getD j [])->(∀b E,s.heap.get? b=Z E->h'.get? b=Z E)->EP X AN σ Q (.ref s.heap.objs.size) { s with heap:=h',toks:=tk }:=by
  intro h' tk ys AQ J cu D k;obtain⟨_,zs,e,t,m⟩:=cu;have U:=I.hok.fresh (zk s.heap.objs.size);have a2:AQ.length=cR.length:=by rw[<-J.length,rs.length,zr]
  have tv:=qG I rs J;refine⟨.ref s.heap.objs.size,_,I.laid (t':=tk) (a:=s.heap.objs.size) (o:=F5 X s.heap.objs.size zs) k (zk _) ?_,rfl,q _ zs _ (bU U) bJ (λz=>?_) ?_ λz l=>?_⟩
  ·obtain⟨o,es,ep,t',ho,_⟩:=id t;exact⟨Ts.of t,⟨o,ho⟩,λh1 h2 t1 k1=>Ts.keep t1 k1⟩
  ·rw[e,D z];constructor
   ·rintro⟨j,f,rfl⟩;rw[a2]at f;simp[List.getD,f]
   ·intro l;obtain⟨j,f,e⟩:=jv l;exact⟨j,by rw[a2];exact f,by simp[List.getD,f,e]⟩
  ·obtain⟨o,es,ep,t',ho,_,_,x⟩:=t;exact x.nd
  ·obtain⟨o,es,ep,t',ho,_,_,x⟩:=t;obtain⟨i,hi,ei⟩:=jv l;obtain⟨ee,_,te⟩:=zm x.rel (show zs[i]?=Z z by rw[z5 hi,ei]);have tz:=Zm X te.2;have a3:=m z l;obtain⟨j,f,ej⟩:=jv a3;obtain⟨kk,_,N⟩:=zq tv (show AQ[j]?=Z (.ref z.2) by rw[z5 f,ej]);have ek:kk=z.1:=(N.keep k).inj tz;obtain⟨w1,K,r2⟩:=Ax I rs J (Xp:=[kk]) (out:=[.ref z.2]) (.cons N .nil) (λu hu=>by cases List.mem_singleton.mp hu;exact a3);cases K with
   |@cons w0 _ _ _ r0 K=>
    cases K;simp only[zt,JS,aO]at r2;obtain⟨v0,B,ev,G,_⟩:=r2;simp only[ku]at ev;rw[<-ev.1]at G;have hw:w0=V.ref z.2:=by
     have q1:=G;simp only[BM,AW]at q1;obtain⟨a0,ws,e0,_⟩:=q1;subst e0;cases r0;rfl
    rw[<-ek,<-hw];exact G.kp (.of (bU U))
 have Zn:∀h':A6,h'.get? s.heap.objs.size=Z (BV X.w)->∀AQ:Y A0,CU X s.heap.objs.size AQ h' []:=λh' e AQ=>
  ⟨[],rfl,⟨_,#[],0,_,e,⟨rfl,rfl,rfl⟩,rfl,⟨.nil,JI,{ mask:=.inl rfl,dum:=rfl,rise:=λi j _ f=>absurd f (km _),bd:=λj f=>by simp[SetTable.fresh]at f,full:=QO _,size:=rfl,reach:=λi j e h1=>by simp[SetTable.fresh]at h1 },(show 0*5<7*3 by decide),λq=>by simp[SetTable.fresh,q],λq=>absurd q (JE _)⟩⟩,λz l=>by cases l⟩
 rcases sq with sq|sq
 ·obtain⟨AQ,B,pl,l⟩:=I.list sq;obtain⟨o,g,c,n,d⟩:=pl.isList;refine Y8 (by omega) (T :="list") W g c (.inl Y3) (P:=λi v=>AQ.toArray[i]?=Z v) (n:=AQ.length) (λF E' Q' h0 C y M=>?_) (Pa (qG I rs B) hl hx Y3) (λh' e k=>⟨k,Zn h' e AQ⟩) λh' tk zs tx D k=>a1 h' tk zs AQ B tx D k;refine KL (items:=AQ.toArray) ⟨o,y _ _ g,c,n,d⟩ ?_;have L:p≠h0.objs.size:=zI (zz (y _ _ g));refine M _ (λi h=>h.IsListIter h0.objs.size p i/\h.IsList p AQ.toArray) (λF C=>by have:=Walks.list (prog:=X.prog) (w:=X.w) C h0.objs.size p L AQ.toArray;rw[zC]at this;exact this) ⟨⟨_,zv _ rfl,rfl,rfl⟩,⟨o,zd _ (y _ _ g),c,n,d⟩⟩ λb E e=>zd _ e
 ·obtain⟨AQ,B,pl,l⟩:=I.tuple sq;obtain⟨o,g,c,n,d⟩:=id pl;refine Y8 (by omega) (T :="tuple") W g c (.inr Y3) (P:=λi v=>AQ.toArray[i]?=Z v) (n:=AQ.length) (λF E' Q' h0 C y M=>?_) (Pa (qG I rs B) hl hx Y3) (λh' e k=>⟨k,Zn h' e AQ⟩) λh' tk zs tx D k=>a1 h' tk zs AQ B tx D k;refine wpAny_pyIter_tuple (items:=AQ.toArray) ⟨o,y _ _ g,c,n,d⟩ ?_;have L:p≠h0.objs.size:=zI (zz (y _ _ g));refine M _ (λi h=>h.IsTupleIter h0.objs.size p i/\h.IsTuple p AQ.toArray) (λF C=>by have:=Walks.tuple (prog:=X.prog) (w:=X.w) C h0.objs.size p L AQ.toArray;rw[zC]at this;exact this) ⟨⟨_,zv _ rfl,rfl,rfl⟩,⟨o,zd _ (y _ _ g),c,n,d⟩⟩ λb E e=>zd _ e
theorem SO(I:AU X AN σ H s)(h:H a=Z (F5 X a zs)):Ts X.prog X.w s.heap a zs:=(I.hok _ _ h).1
def M'(X:Cx):Y V->Hp->VK->Prop:=λxs H Q=>∃a zs,xs=[.ref a]/\H a=Z (F5 X a zs)/\HB (zs.map (·.1))=true/\(∀z∈zs,AW X.K H (BM z.1) (.ref z.2))/\∀l H' us,AV H H'->H l=O->H' l=Z (.lst us)->aO X.K H' ((lR (zs.map (·.1))).map BM) us->Q (.ref l) H'
theorem bi(hc:X.calm=true):f9 X (.builtin "sorted") (M' X):=by
 intro AN s σ H xs us Q I r h;obtain⟨a,zs,rfl,ha,hs,x,q⟩:=h;obtain⟨u,rfl,ru⟩:=BF r;cases ru;simp only[HB,ZH,ZY,qo,j3]at hs;obtain⟨D,a2,B⟩:=hs;rw[zr]at D;obtain⟨o,es,ep,t,ho,a4,hd,F,ft,c2,N⟩:=SO I ha;have f:es.size=zs.length:=by rw[<-qk,F,zr]
 have U:Wk X.w s.heap a es ep t:=⟨⟨o,ho,a4.1,hd⟩,ft,c2,λq=>N (by omega)⟩;have W:aO X.K H ((zs.map (·.1)).map BM) (zs.map λz=>(V.ref z.2))/\AX (zs.map λz=>(V.ref z.2)) (zs.map λz=>(.ref z.2:A0)):=by
  clear F ha q D a2 B f U N
  induction zs with
  |nil=>exact⟨aO.nil,.nil⟩
  |cons z zs p=>
   obtain⟨i1,i2⟩:=p λy hy=>x y (zi _ hy);exact⟨aO.cons (x z (zh ..)) i1,.cons Y3 i2⟩
 have b3:=qG I W.1 W.2;have M:∀z∈zs,jE s.heap z.1 (.ref z.2):=λz i=>by
  have:=qG I (cR:=[z.1]) (vs:=[V.ref z.2]) (AQ:=[.ref z.2]) (aO.cons (x z i) aO.nil) (.cons Y3 .nil);cases this with
  |cons q' _=>exact q'
 refine RV (λvs=>∃ys:Y (Y AY×A1),ys.Perm zs/\vs=ys.map λz=>(.ref z.2:A0)) (tuples' true) (λvs v=>CM (vs.map λu=>BE (zs.map (·.1)) (zs.map λz=>(.ref z.2:A0)) u) (BE (vs.map λu=>BE (zs.map (·.1)) (zs.map λz=>(.ref z.2:A0)) u) vs v))
  (λE' Q' L=>O1 (by exact I.ok.hd hc) U (by rw[f,sizeLine_eq];omega) λm h1 d tk hp c0 ext=>L m h1 d tk ?_ c0 ext) ?_ ?_ ?_ ?_
 ·rw[F,QE]at hp;have:∀{m vs:Y A0},m.Perm vs->∀zs:Y (Y AY×A1),vs=zs.map (λz=>(.ref z.2:A0))->∃ys:Y (Y AY×A1),ys.Perm zs/\m=ys.map λz=>(.ref z.2:A0):=by
   intro m vs hp
   induction hp with
   |nil=>intro zs e;cases zs with|nil=>exact⟨[],.refl _,rfl⟩|cons _ _=>cases e
   |cons y _ p=>
    intro zs e;cases zs with
    |nil=>cases e
    |cons z zs=>
     rw[zt]at e;injection e with e1 e2;obtain⟨ys,p1,p2⟩:=p zs e2;exact⟨z::ys,p1.cons _,by rw[zt,e1,p2]⟩
   |swap y1 y2 l=>
    intro zs e
    match zs,e with
    |z1::z2::zs,e=>
     simp only[zt,ku]at e;exact⟨z2::z1::zs,List.Perm.swap _ _ _,by simp only[zt];rw[e.1,e.2.1,e.2.2]⟩
    |[_],e=>simp at e
    |[],e=>cases e
   |trans _ _ a3 b9=>
    intro zs e;obtain⟨ys,p1,p2⟩:=b9 zs e;obtain⟨us,q1,q2⟩:=a3 ys p2;exact⟨us,q1.trans p1,q2⟩
  exact this hp zs rfl
 all_goals
  intro vs hG;obtain⟨ys,py,rfl⟩:=hG;have hm:∀v∈(ys.map λz=>(.ref z.2:A0)),v∈(zs.map λz=>(.ref z.2:A0)):=λv G=>((py.map _).mem_iff).mp G;have a1:∀v∈(ys.map λz=>(.ref z.2:A0)),jE s.heap (BE (zs.map (·.1)) (zs.map λz=>(.ref z.2:A0)) v) v:=λv G=>(lU b3 v (hm v G)).2;have tv:=xU a1;have P:(ys.map λz=>(.ref z.2:A0)).map (λu=>BE (zs.map (·.1)) (zs.map λz=>(.ref z.2:A0)) u)=ys.map (·.1):=by
   rw[QE];refine QR λz f=>?_;have i:=py.mem_iff.mp f;exact(a1 (.ref z.2) (List.mem_map.mpr ⟨z,f,rfl⟩)).inj (M z i)
  have mk:∀k∈(ys.map λz=>(.ref z.2:A0)).map (λu=>BE (zs.map (·.1)) (zs.map λz=>(.ref z.2:A0)) u),k∈zs.map (·.1):=λk c=>by
   rw[P]at c;exact((py.map _).mem_iff).mp c
 ·intro h2 E' A' s' k Q' L;exact Jz (Paired.imp' (λ_ _ z=>jE.keep z k) tv) (λk c=>by have:=a2 k (mk k c);cases k with|nil=>cases this|cons _ _=>exact List.cons_ne_nil _ _) (λk c l j=>Fj (B k (mk k c) l (mk l j))) (by omega) L
 ·intro A' s' k;exact Ot (Paired.imp' (λ_ _ z=>jE.keep z k) tv) λk c l j=>Fj (B k (mk k c) l (mk l j))
 ·rw[zr,py.length_eq];exact D
 ·intro l h' d tk n st hp up j ext hL;have out:=Ou tv hp up;have mem:∀u∈((AM st).map (·.2)).toList,u∈(ys.map λz=>(.ref z.2:A0)):=λu A=>by
   rw[Array.toList_map]at A;obtain⟨pr,b0,rfl⟩:=List.mem_map.mp A;have a5:pr∈(ys.map λz=>(.ref z.2:A0)).zip (ys.map λz=>(.ref z.2:A0)):=by rw[<-pairsOf_toList];exact(Array.perm_iff_toList_perm.mp hp).mem_iff.mp b0
   have:=mem_zip_self a5;rw[<-this.1];exact this.2
  have C:H l=O:=I.hok.fresh j;have back:∀{E:Y (Y AY)} {out:Y A0},AI (jE s.heap) E out->(∀u∈out,u∈(ys.map λz=>(.ref z.2:A0)))->∃b,AX b out/\aO X.K H (E.map BM) b:=by
   intro E out pr
   induction pr with
   |nil=>intro _;exact⟨[],.nil,aO.nil⟩
   |cons q0 _ p=>
    intro a0;obtain⟨b,J,g⟩:=p λu A=>a0 u (zi _ A);obtain⟨z,f,ez⟩:=List.mem_map.mp (a0 _ (zh ..));subst ez;have i:=py.mem_iff.mp f;have ek:=q0.inj (M z i);refine⟨.ref z.2::b,.cons Y3 J,?_⟩;rw[zt,ek];exact aO.cons (x z i) g
  obtain⟨b,J,g⟩:=back out mem;rw[P]at g;have es:lR (ys.map (·.1))=lR (zs.map (·.1)):=wg ((nM _).trans (py.map _)) (vC _);rw[es]at g;have c1:b.length=zs.length:=by rw[g.length,zr,(nM _).length_eq,zr]
  refine⟨.ref l,_,Wy (d:=d) (I.laid (t':=tk) (a:=l) (o:=.lst b) ext j ⟨by rw[c1,sizeLine_eq];omega,_,n,J,?_⟩),rfl,q _ _ b (bU C) C bJ (g.kp (.of (bU C)))⟩;rw[hL]
def Ho{α:Type}[DecidableEq α]:Y α->Y α
 |[]=>[]
 |y::ys=>if y∈ys then Ho ys else y::Ho ys
section
variable [DecidableEq α]
theorem qH:∀{ys:Y α} {z:α},z∈Ho ys↔z∈ys
 |[],z=>by simp[Ho]
 |y::ys,z=>by
  unfold Ho;split
  ·rename_i h;rw[qH,QY];exact⟨.inr,λq=>q.elim (λe=>e▸h) id⟩
  ·rw[QY,QY,qH]
theorem Fz:∀(ys:Y α),(Ho ys).Nodup
 |[]=>JI
 |y::ys=>by
  unfold Ho;split
  ·exact Fz ys
  ·rename_i h;exact List.nodup_cons.mpr ⟨λq=>h (qH.mp q),Fz ys⟩
theorem Dr:∀(ys:Y α),(Ho ys).length<=ys.length
 |[]=>zk _
 |y::ys=>by
  have:=Dr ys;unfold Ho;split<;>simp<;>omega
theorem Lh{β:Type}[DecidableEq β]{f:α->β}(hi:∀a b,f a=f b->a=b):∀(ys:Y α),Ho (ys.map f)=(Ho ys).map f
 |[]=>rfl
 |y::ys=>by
  have c:f y∈ys.map f↔y∈ys:=⟨λq=>by obtain⟨z,d,e⟩:=List.mem_map.mp q;rw[<-hi _ _ e];exact d,λq=>List.mem_map.mpr ⟨y,q,rfl⟩⟩;rw[zt];unfold Ho;by_cases q:y∈ys
  ·rw[zo q,zo (c.mpr q),Lh hi ys]
  ·rw[zw q,zw λh=>q (c.mp h),zt,Lh hi ys]
end
section
def Pb(ks:Y AY):Bool:=ks.any λk=>k.isRight
theorem bz(h:Pb ks=true):ED ks:=by
 unfold Pb at h;rw[kf]at h;obtain⟨k,a,e⟩:=h;cases k with
 |inl i=>cases e
 |inr x=>exact⟨x,a⟩
def tU(X:Cx)(f:Ev->S (Y (Y AY))):L2.TE:=λσ H Q=>∃H0 ρ cR,bR X.K H0 H σ ρ/\f ρ=Z cR/\∀a zs H',AV H H'->H' a=Z (F5 X a zs)->(∀k,k∈zs.map (·.1)↔k∈cR)->(zs.map (·.1)).Nodup->(∀z∈zs,AW X.K H' (BM z.1) (.ref z.2))->Q (.ref a) H'
def b5(X:Cx)(e:Expr)(f:Ev->S (Y (Y AY))):Prop:=PE X e (tU X f)
structure IF (X:Cx) (e:Expr) (f:Ev->Option (List (List AY))):Prop where
 run:b5 X e f
def LM(b:Bx):S (Y (Y AY)):=(u5 b).bind λds=>(xV ds).bind λcR=>if cR.length<=64/\cR.all Pb=true then Z cR else O
def RW(f:Ev->S Bx):Ev->S (Y (Y AY)):=λρ=>(f ρ).bind LM
def FJ(fs:Ev->S (Y (Y AY))):Ev->S Bx:=λρ=>(fs ρ).bind λcR=>if HB cR=true then Z (.o ((lR (Ho cR)).map BM))else O
variable{fs:Ev->S (Y (Y AY))}{p:Pos}
theorem Uu(i:X.calm=true)(w:X.A.units+100<cLine)(g:Gl X "set")(s:X.mg "set"=O)(n:QV X e f)(he:A9 (e::[]) X.env=(false,eval e X.env)::A9 [] X.env:=by rfl):IF X (.Call (.Name "set" p) [e] [] pos) (RW f):=by
 refine⟨Cp (Jk (T :="set") (YO i w) g s Y3 (gn n.run rB he) (he:=he)) λσ H Q h=>?_⟩;obtain⟨H0,ρ,cR,E,c,q⟩:=h;obtain⟨b,eb,c⟩:=AT c;obtain⟨ds,u,c⟩:=AT c;obtain⟨y,ek,c⟩:=AT c;split at c
 ·rename_i d;cases c;rw[qo]at d;exact⟨H0,ρ,b,E,eb,λv H1 x z t=>⟨v,b,ds,cR,rfl,t,u,ek,d.1,λk l=>bz (d.2 k l),λa zs H2 o e2 m nd j=>q a zs H2 (x.trans o) e2 m nd j⟩⟩
 ·cases c
theorem Zo{Xp:Y (Y AY)}(h:HB cR=true)(d:Xp.length<=cR.length)(a:∀k∈Xp,k∈cR):HB Xp=true:=by
 simp only[HB,ZH,ZY,qo,j3]at h ⊢;exact⟨by omega,λk b=>h.2.1 k (a k b),λk b l c=>h.2.2 k (a k b) l (a l c)⟩
theorem Uv(j:X.calm=true)(i:Gl X "sorted")(u:X.mg "sorted"=O)(s:IF X e fs)(he:A9 (e::[]) X.env=(false,eval e X.env)::A9 [] X.env:=by rfl):QV X (.Call (.Name "sorted" p) [e] [] pos) (FJ fs):=by
 refine⟨Cp (pR (id :="sorted") (bi j) i u Y3 (gn s.run rB he) (he:=he)) λσ H Q h=>?_⟩;obtain⟨H0,ρ,b,E,c,q⟩:=h;obtain⟨cR,g,c⟩:=AT c;split at c
 ·rename_i n;cases c;refine⟨H0,ρ,cR,E,g,λa zs H1 f e1 m nd v=>⟨a,zs,rfl,e1,?_,v,λl H2 us t w e2 d=>?_⟩⟩
  ·have e3:=(Dp nd (Fz cR) λz=>by rw[m z,qH]).length_eq;have:=Dr cR;exact Zo n (by omega) λk o=>(m k).mp o
  ·have x:=Dp nd (Fz cR) λz=>by rw[m z,qH]
   have es:lR (zs.map (·.1))=lR (Ho cR):=wg ((nM _).trans x) (vC _);rw[es]at d;exact q _ H2 (f.trans t) (λa ea=>by cases ea;exact f.free w) ⟨l,us,rfl,e2,d⟩
 ·cases c
end
end P1
namespace P1
open L2
def FN:Bx->Bx->S Bx
 |.z (.str k),.z d=>Z (.z (.tup [.str k,d]))
 |_,_=>O
theorem RX{a:Bx}{y:Dt}(h:FN a b=Z (.z y)):∃k d,a=.z (.str k)/\b=.z d/\y=.tup [.str k,d]:=by
 unfold FN at h;split at h
 ·cases h;exact⟨_,_,rfl,rfl,rfl⟩
 ·cases h
def GG(AO:Y (AY×Dt)):Dt->Y (AY×Dt)
 |.tup [.str k,d]=>K7 AO (.inr k) d
 |_=>AO
def dictOf(out:Y Dt):Y (AY×Dt):=out.foldl GG []
theorem Pg(out:Y Dt)(k:AJ)(d:Dt):dictOf (out++[.tup [.str k,d]])=K7 (dictOf out) (.inr k) d:=by
 unfold dictOf;rw[kU];rfl
theorem Wz{AO:Y (AY×V)}{k:AY}{r:A0}{Q:Unit->A2->Prop}(I:L2.AU X AN σ H s)(e:H a=Z (.dK AO))(l:AO.length<AA)(g:As (kV k) u)(j:As v r)(h:∀s',L2.AU X AN σ (B6 H a (.dK (BD AO k v))) s'->Q () s'):
  A7 (A8 X.prog X.w) A (dictSet a u r) Q E s:=by
 obtain⟨z,m,vs,b,i⟩:=Yb I.hok e;have d:vs.length<=AA:=by rw[<-b.length];exact z
 have f:(BD AO k v).length<=AA:=by have:=nG AO k v;omega
 refine wpAny_dictSet_pairs (hsz:=d) (DW g) i λh' c hs=>h _ ?_;have n:∃q,h'.get? a=Z q:=let ⟨q,_,_,hq,_⟩:=c;⟨q,hq⟩;exact Dd I (by rw[e];exact True.intro) hs n (Q6 f m (b.put k j) c)
section
variable{kx vx:Expr}{xs:AZ}
def EF(K:B0)(_:A1)(H:Hp)(a:Y Dt)(o:HO):Prop:=∃us,o=.dK us/\fH K H (dictOf a) us/\us.length<=a.length
theorem EF.kp{K:B0}{D:A1}{H H':Hp}{a:Y Dt}{o:HO}(k:Kp H H'):EF K D H a o->EF K D H' a o:=λ⟨us,e,r,z⟩=>⟨us,e,r.kp k,z⟩
theorem d4(u:PV X kx fk)(F:PV X vx fv):Yt X (λD env=>do let f <-eval kx env;let vv <-holding [f] (eval vx env);standAt { kx.pos with endLine:=vx.pos.endLine,endCol:=vx.pos.endCol };holding [f,vv] (dictSet D f vv)) (IJ (b2 FN fk fv)) (EF X.K) 999 n:=by
 refine Yu λAN s σ H H0 ρ D o o1 ys I En eb hD ⟨us,e,r4,hl⟩ hi=>?_;subst e;obtain⟨b,e0,e1⟩:=AT eb;obtain⟨y,rfl,rfl⟩:=Aj e1;obtain⟨bk,N,eb⟩:=AT e0;obtain⟨Q,B,eb⟩:=AT eb;obtain⟨c,E,rfl,rfl,rfl⟩:=RX eb;refine zb (QA (u AN s σ H (λv a=>AV H a/\aW X.K a (.z (.str c)) v) I ⟨H0,ρ,_,En,N,λv a g _ d=>⟨g,d⟩⟩) (λf A j=>?_) λ_ _ z=>z);obtain⟨P,l,C,rk,m,q⟩:=j;refine zb (QP (QA (F AN A σ l (λv a=>AV l a/\AW X.K a E v) C ⟨H0,ρ,_,En.grow m,B,λv a g _ d=>⟨g,d⟩⟩) (λv g j=>?_) λ_ _ z=>z));obtain⟨h,a,w,J,G,d⟩:=j;have i:=m.trans G;have p:a D=Z (.dK us):=i _ _ hD;obtain⟨rfl,t⟩:P=.str c/\c.length<=AA:=by simpa only[aW,AW]using q
 have kp:Kp a (B6 a D (.dK (BD us (Sum.inr c) h))):=.dk p;refine zb (KU (QP ?_));simp only[List.length_singleton]at hi;refine Wz w p (by have:(1000:Nat)<AA:=(by decide);omega) (k:=Sum.inr c) rk J λU L=>?_;have M:=((r4.kp (.of i)).put (x:=Sum.inr c) d t).kp kp;exact⟨a,_,L,i,kp,BD us (Sum.inr c) h,rfl,by rw[Pg];exact M,by have:=nG us (Sum.inr c) h;simp;omega⟩
def Uw(fi:Ev->S (Y Dt))(gt:Dt->Ev->S Ev)(p:Ev->S Bool)(fk fv:Ev->S Bx)(is:Y Nat)(n:Nat):Ev->S Bx:=λρ=>(fi ρ).bind λds=>
 if ds.length<1000 then(Bq gt p (b2 FN fk fv) (jP is ρ++List.replicate n O) ds).bind λout=>Z (.m (dictOf out) O)else O
theorem Zq(hu:X.A.units+100<cLine)(ts:AZ)(O:tB X scope cl xs is)(a0:X.calm=true)(hi:Eg X tgt iter fi)
  (t:∀C d c fp,Cf (Hl X (xs++ts) scope cl C d c fp) tgt gt) (F:∀C d c fp,Ak (Hl X (xs++ts) scope cl C d c fp) ifs p) (U:∀C d c fp,QV (Hl X (xs++ts) scope cl C d c fp) kx fk) (j:∀C d c fp,QV (Hl X (xs++ts) scope cl C d c fp) vx fv) (a1:Ch is.length (is.length+ts.length) gt)
  (hs:∀x,foldedSetIterable iter X.env x=pure x:=by intro _;rfl):QV X (.DictComp kx vx [⟨tgt,iter,ifs,0⟩] scope pos) (Uw fi gt p fk fv is ts.length):=⟨λAN s σ H Q I h=>by
 obtain⟨H0,ρ,b,E,e,q⟩:=h;obtain⟨ds,ed,e⟩:=AT e;split at e
 ·rename_i a2;obtain⟨out,g,e⟩:=AT e;cases e;rw[arm_eval_DictComp];refine kL (use:=none) Y3 hs O.clos O.kind O.names ?_;refine iM (hi.run AN s σ H (λJ H'=>AV H H'/\B4 X.K J ds H') I ⟨H0,ρ,ds,E,ed,λJ H' s' y=>⟨s',y⟩⟩) λv s1 h1=>iM h1 λa5 u h2=>?_;obtain⟨it,fp,tn,J,H2,rfl,i,T,st,l,f,Y⟩:=h2;refine Jq (B:=Jp) (Ac:=EF X.K) (O0:=.dK []) (N:=999) (RR:=λa3 C=>compPost (A8 X.prog X.w) X.A X.xe none (EP X AN σ Q) a3 C) (ts:=ts) (xs:=xs) O a0 (λC d c fp=>(t C d c fp).run) (λC d c fp=>(F C d c fp).run) (λC d c fp=>d4 (U C d c fp).run (j C d c fp).run) a1 (Nat.le_add_right ..) i ((E.grow f).caps is ts.length) (NZ T) st l Y g (ZE (vW g) (Nat.le_of_lt_succ a2)) ?_
   qS (λ_=>Nu u.heap i.big) (λ_=>⟨[],rfl,fH.nil,zk _⟩) EF.kp (λ_ _ _=>Y3) codeAny_compStart_dict λh=>h
  rintro D C s' H' o z I' n ⟨m,G⟩ L a4 ⟨us,rfl,rm,_⟩;refine⟨m,G,λh' P=>⟨.ref D,H',?_,rfl,q (.ref D) H' (f.trans L) (λa ea=>by cases ea;exact f.free z) ⟨D,us,rfl,a4,rm,λb hb=>by cases hb⟩⟩⟩;obtain⟨f0,f1,f2,f3,M,W⟩:=n;exact I'.turned (t':=s'.toks) (λb o hb e=>(P.2 b hb).trans e) f0 f1 f3 M W
 ·cases e⟩
end
section
variable{ks:Y (AY×V)}{o:AE}
theorem Ph(hb:∀f u,X.H₀ a≠Z (.sS f u))(I:L2.AU X AN σ H s)(e:H a=Z (.sS o (.dK ks))):L2.AU X AN σ (B6 H a (.dK ks)) s:=by
 have ne:∀{b:A1} {u:HO},H b=Z u->u≠.sS o (.dK ks)->b≠a:=λq n z=>by subst z;rw[e]at q;cases q;exact n rfl
 have nn:∀{b:A1},H b=O->b≠a:=λq z=>by subst z;rw[e]at q;cases q
 refine⟨I.ok,I.os,I.bare,⟨I.base.keep,I.base.slot,λb f q n hx=>?_,I.base.there,λb xs q=>?_,λb f u q=>?_,λb ps q=>?_⟩,I.loc,I.cell,?_,λx c q=>?_,λp hp=>?_,λb f q=>?_,I.len⟩
 ·have:=I.base.free b f q n hx;rw[aQ (nn this)];exact this
 ·have:=I.base.tups b xs q;rw[aQ (ne this λz=>by cases z)];exact this
 ·have:=I.base.Cj b f u q;rw[aQ (λz=>by subst z;exact hb _ _ q)];exact this
 ·obtain⟨m,this⟩:=I.base.Ht b ps q;exact⟨m,by rw[aQ (ne this λz=>by cases z)];exact this⟩
 ·have:=I.free;rw[aQ (nn this)];exact this
 ·have:=I.qD x c q;rw[aQ (nn this)];exact this
 ·obtain⟨p1,p2,p3⟩:=I.pin p hp;exact⟨p1,by rw[aQ (nn p2)];exact p2,p3⟩
 ·have st:∀{c:A1} {w:HO},iu X.prog X.w H s.heap c w->iu X.prog X.w (B6 H a (.dK ks)) s.heap c w:=λx=>
   x.stay (λ_ _ _ r=>r) (λd r=>by rw[aQ (ne r λz=>by cases z)];exact r) λd xs r=>by rw[aQ (ne r λz=>by cases z)];exact r
  by_cases g:b=a
  ·subst g;rw[bJ]at q;cases q;exact st (I.hok _ _ e).2
  ·rw[aQ g]at q;exact st (I.hok _ _ q)
theorem UD(I:L2.AU X AN σ H s)(e:H a=Z (.dK ks))(ho:s.heap.get? a=Z o):L2.AU X AN σ (B6 H a (.sS o (.dK ks))) s:=by
 have:=I.write (t':=s.toks) (h':=s.heap) (x:=a) (e:=a) (o:=.sS o (.dK ks)) (by rw[e];exact True.intro) (.inl Y3) (λ_ _ _ z=>z) ⟨o,ho⟩ ⟨ho,(I.hok _ _ e).stay (λ_ _ _ r=>r) (λd r=>by rw[aQ (oM r e (by intro z;cases z))];exact r) λd xs r=>by rw[aQ (oM r e (by intro z;cases z))];exact r⟩;exact this
theorem YI(I:L2.AU X AN σ H s)(e:H a=Z (.dK ks)):∀b u,X.H₀ a≠Z (.sS b u):=λb u q=>by
 have:=I.base.Cj a b u q;rw[e]at this;cases this
mutual
theorem AW.Ph{K:B0}(e:H a=Z (.sS o (.dK ks)))(f:ks≠[]):∀{d:Dt} {v:V},AW K H d v->AW K (B6 H a (.dK ks)) d v
 |.non,_,h=>by simpa only[AW]using h
 |.bl _,_,h=>by simpa only[AW]using h
 |.int _,_,h=>by simpa only[AW]using h
 |.str _,_,h=>by simpa only[AW]using h
 |.tup ds,_,h=>by
  simp only[AW]at h ⊢;obtain⟨b,vs,e1,q,r⟩:=h;refine⟨b,vs,e1,?_,aO.Ph e f r⟩;rcases q with (q|⟨c,q⟩)|q
  ·exact .inl (.inl (by rw[aQ (λz=>by subst z;rw[e]at q;cases q)];exact q))
  ·exact .inl (.inr ⟨c,by rw[aQ (λz=>by subst z;rw[e]at q;cases q)];exact q⟩)
  ·exact .inr q
 |.lst ds,_,h=>by
  simp only[AW]at h ⊢;obtain⟨b,vs,e1,q,r⟩:=h;refine⟨b,vs,e1,?_,aO.Ph e f r⟩;rcases q with⟨c,q⟩|q
  ·exact .inl ⟨c,by rw[aQ (λz=>by subst z;rw[e]at q;cases q)];exact q⟩
  ·exact .inr q
 |.emp,_,h=>by
  simp only[AW]at h ⊢;obtain⟨b,c,e1,q⟩:=h;exact⟨b,c,e1,by rw[aQ (λz=>by subst z;rw[e]at q;cases q;exact f Y3)];exact q⟩
theorem aO.Ph{K:B0}(e:H a=Z (.sS o (.dK ks)))(b:ks≠[]):∀{ds:Y Dt} {vs:Y V},aO K H ds vs->aO K (B6 H a (.dK ks)) ds vs
 |[],_,h=>by simpa only[aO]using h
 |d::ds,_,h=>by
  simp only[aO]at h ⊢;obtain⟨v,r,e1,q,t⟩:=h;exact⟨v,r,e1,AW.Ph e b q,aO.Ph e b t⟩
end
def LA(a:A1)(o:AE)(ks:Y (AY×V)):It:=
 ⟨λi H=>H a=Z (.sS o (.dK ks))/\i<ks.length,λi H x H'=>H'=H/\(ks.map λk=>kV k.1)[i]?=Z x,λi H=>H a=Z (.sS o (.dK ks))/\ks.length<=i⟩
theorem Ux(x:iu P w H h a (.sS o (.dK ks))){es:Array DictEntry}(b:o.data=.dict es ep):∃vs,KV ks vs/\h.DictAt (bx P w) a vs ep:=by
 obtain⟨e,_,_,vs,f,g,i,j,e2,c,d,r⟩:=x;rw[e]at e2;cases e2;rw[b]at d;cases d;exact⟨vs,f,o,es,e,c,b,r⟩
theorem Zr:∀{ks:Y (AY×V)} {vs:Y (AY×A0)},KV ks vs->∀{i:Nat} {p},ks[i]?=Z p->∃x,vs[i]?=Z (p.1,x)
 |_,_,.nil,i,p,q=>by simp at q
 |_,_,.cons h _,0,p,q=>by simp at q;subst q;exact⟨_,by rw[List.getElem?_cons_zero,h.1]⟩
 |_,_,.cons _ t,i+1,p,q=>by
  rw[ZZ]at q;obtain⟨x,hx⟩:=Zr t q;exact⟨x,by rw[ZZ];exact hx⟩
theorem JL(it:A1){es:Array DictEntry}(J:o.data=.dict es ep)(W:a≠it):CA P w K tg (LA a o ks) [it] it (λi h=>h.IsKeyIter it a i ks.length ep) where
 mem:=by simp
 obj:=λi h st b hb=>by
  have e:b=it:=by simpa using hb
  subst e;obtain⟨f,e,c,d⟩:=st;exact⟨f,e,λv z=>by rw[d]at z;cases z⟩
 keep:=λi h h' st k=>st.at λf e=>k it (by simp) f e
 item:=by
  intro X n u y G i AN s σ H E I g st B;subst n u y;obtain⟨F,hi⟩:=B;obtain⟨vs,l,p⟩:=Ux (I.hok _ _ F) J;have m:ks.length=vs.length:=l.length;obtain⟨x,hx⟩:=Zr l (show ks[i]?=Z ks[i] by simp[hi]);obtain⟨f0,f1,f2,D,A,C⟩:=g it (by simp);rw[m]at st;refine wpAny_pyNext_dict_item st p hx λL h' N q Q=>?_;rw[<-m]at q;have U:L2.AU X AN σ H { s with heap:=h' }:=I.turned (t':=s.toks) (λb f hb e=>(Q.2 b hb).trans e) f0 f1 D A C;obtain⟨f,e,c,d⟩:=id q;refine⟨L,rfl,Jf (s:={ s with heap:=h' }) e c d (by decide) ⟨kV (ks[i]).1,H,U,?_,⟨rfl,by rw[Zl,z5 hi];rfl⟩,q,λb hb=>(g b hb).1⟩⟩;have M:kh (ks[i]).1 L=true:=N;rcases bM M with⟨j,t,e2,e3⟩|⟨z,t,e2,e3⟩
  ·rw[e2,e3];exact⟨t,rfl⟩
  ·rw[e2,e3];exact⟨t,rfl⟩
 done:=by
  intro X n u y G i AN s σ H E I g st B;subst n u y;obtain⟨F,hi⟩:=B;obtain⟨vs,l,p⟩:=Ux (I.hok _ _ F) J;have m:ks.length=vs.length:=l.length;obtain⟨f0,f1,f2,D,A,C⟩:=g it (by simp);rw[m]at st;exact wpAny_pyNext_dict_end (I.ok.hd G) st p (Qb (by omega)) λh' eb=>⟨rfl,I.turned (t':=s.toks) (λb f hb e=>eb b f hb e) f0 f1 D A C⟩
 self:=λ_ _ _ _ _ st h=>wpAny_pyIter_keyiter st h
def RZ:AY->Dt
 |.inl i=>.int i
 |.inr x=>.str x
theorem Zt{k:AY}(h:Yj k):AW K H (RZ k) (kV k):=by
 cases k with
 |inl i=>unfold RZ AW;rfl
 |inr x=>unfold RZ AW;exact⟨rfl,h⟩
def D5:Bx->S (Y Dt)
 |.n AO=>Z (AO.map λp=>RZ p.1)
 |_=>O
theorem WD(h:D5 b=Z ds):∃AO,b=.n AO/\ds=AO.map λp=>RZ p.1:=by
 unfold D5 at h;split at h
 ·cases h;exact⟨_,rfl,rfl⟩
 ·cases h
theorem Bw(f:Hs a=Z (.sS o (.dK ks)))(b:fH K Hs AO ks):B4 K (LA a o ks) (AO.map λp=>RZ p.1) Hs:=.of λi H s=>by
 have g:=b.len;refine⟨λd e=>?_,λe=>⟨s _ _ f,by rw[zr]at e;omega⟩⟩;rw[Zl]at e;cases hp:AO[i]? with
 |none=>rw[hp]at e;cases e
 |some p=>
  rw[hp]at e;cases e;have hi:i<AO.length:=(List.getElem?_eq_some_iff.mp hp).1;refine⟨⟨s _ _ f,by omega⟩,λx H' y=>?_⟩;obtain⟨y1,y2⟩:=y;refine⟨y1,?_⟩;have h1:(ks.map (·.1))[i]?=Z p.1:=by rw[b.1,Zl,hp];rfl
  rw[Zl]at h1 y2;cases c:ks[i]? with
  |none=>rw[c]at h1;cases h1
  |some q=>
   rw[c]at h1 y2;cases y2;have:q.1=p.1:=by simpa using h1
   show AW K H (RZ p.1) (kV q.1);rw[this];exact Zt (b.2.2 p (Qr hp))
theorem R0{H1:Hp}(e:H1 a=Z (.dK ks))(E:bR K H1 H1 (xK is σ++List.replicate n O) (jP is ρ++List.replicate n O)):bR K (B6 H1 a (.sS o (.dK ks))) (B6 H1 a (.sS o (.dK ks))) (xK is σ++List.replicate n O) (jP is ρ++List.replicate n O):=by
 have kp:Kp H1 (B6 H1 a (.sS o (.dK ks))):=.dk e;have g:∀(j:Nat) c,(jP is ρ++List.replicate n O)[j]?=Z (Z c)->uL c=false:=λj c e=>by
  by_cases p:j<is.length
  ·rw[ZT (by simp[jP];omega)]at e;unfold jP at e;rw[Zl]at e;cases q:is[j]? with
   |none=>rw[q]at e;cases e
   |some i=>
    rw[q]at e;have:xH ρ i=Z c:=by simpa using e
    exact yH this
  ·rw[qv (by simp[jP];omega),QN]at e;split at e<;>cases e
 refine⟨E.len,λj b eb=>?_,λj k c a b e h=>absurd h (by rw[g j c e];exact ZA),AV.refl _,λj c a e h=>absurd h (by rw[g j c e];exact ZA)⟩;obtain⟨v,ev,r⟩:=E.val j b eb;refine⟨v,ev,?_⟩;cases b with
 |z d=>exact AW.kp kp r
 |o ds=>have:=g j _ eb;cases this
 |m ds _=>have:=g j _ eb;cases this
 |l ds=>
  obtain⟨b,vs,e1,q,r⟩:=r;refine⟨b,vs,e1,?_,r.kp kp⟩;rcases q with q|⟨f,q⟩
  ·exact .inl (by rw[aQ (oM q e (by intro z;cases z))];exact q)
  ·exact .inr ⟨f,by rw[aQ (oM q e (by intro z;cases z))];exact q⟩
 |n ds=>
  obtain⟨b,vs,e1,q,r⟩:=r;refine⟨b,vs,e1,?_,r.kp kp⟩;by_cases hb:b=a
  ·subst hb;rcases q with q|⟨f,q⟩
   ·rw[e]at q;cases q;exact .inr ⟨o,bJ⟩
   ·rw[e]at q;cases q
  ·rcases q with q|⟨f,q⟩
   ·exact .inl (by rw[aQ hb];exact q)
   ·exact .inr ⟨f,by rw[aQ hb];exact q⟩
end
section
variable{fd:Ev->S Bx}{xs:AZ}
def Pj(fd:Ev->S Bx):Ev->S (Y Dt):=λρ=>(fd ρ).bind D5
theorem WK(ρ:Ev):Bq gt p fe ρ []=Z []:=rfl
theorem Pk(ts:AZ)(O:tB X scope cl xs is)(a5:X.calm=true)(hi:QV X iter fd)
  (Nf:∀C f c fp,Cf (Hl X (xs++ts) scope cl C f c fp) tgt gt) (a2:∀C f c fp,Ak (Hl X (xs++ts) scope cl C f c fp) ifs p) (b9:∀C f c fp,QV (Hl X (xs++ts) scope cl C f c fp) elt fe) (b0:Ch is.length (is.length+ts.length) gt)
  (hs:∀x,foldedSetIterable iter X.env x=pure x:=by intro _;rfl):QV X (.ListComp elt [⟨tgt,iter,ifs,0⟩] scope pos) (gk (Pj fd) gt p fe is ts.length):=⟨λAN s σ H Q I h=>by
 obtain⟨H0,ρ,b,E,e,q⟩:=h;obtain⟨ds,ed,e⟩:=AT e;split at e
 ·rename_i b3;obtain⟨out,t,e⟩:=AT e;cases e;obtain⟨bd,c6,ed⟩:=AT ed;obtain⟨AO,rfl,rfl⟩:=WD ed;rw[eval_ListComp];refine kL (use:=none) Y3 hs O.clos O.kind O.names ?_;refine iM (hi.run AN s σ H (λv H1=>AV H H1/\aW X.K H1 (.n AO) v) I ⟨H0,ρ,_,E,c6,λv H1 d _ W=>⟨d,W⟩⟩) λv d ⟨v',H1,I1,rv,s01,W⟩=>?_;obtain⟨a,ks,rfl,g,rm⟩:=W;cases rv;obtain⟨_,c1,vs,kv,l,es,ep,y⟩:=ux I1.hok g;have M:=y.1;have a3:=y.2.2.1;refine wpAny_pyIter_dict c1 (⟨l,es,y⟩:d.heap.DictAt (bx X.prog X.w) a vs ep) ?_;have c0:a<d.heap.objs.size:=zz M;have hl:ks.length=vs.length:=kv.length;have a0:∀{H':Hp},L2.AU X AN σ H' d->∀b∈[d.heap.objs.size],sU X AN H' b:=λj b hb=>by
   have e:b=d.heap.objs.size:=by simpa using hb
   subst e;exact j.Vx (zk _) (j.hok.fresh (zk _))
  have a4:Heap.IsKeyIter (d.heap.push { cls:=.type "dict_keyiterator",data:=.fields #[.ref a,.int 0 0,.int vs.length 0,.int ep 0] }) d.heap.objs.size a 0 ks.length ep:=⟨_,zv _ rfl,rfl,by rw[hl];rfl⟩;rcases g with g|⟨o',g⟩
  ·
   have I2:=UD I1 g M;have I3:L2.AU X AN σ (B6 H1 a (.sS l (.dK ks))) { d with heap:=d.heap.push { cls:=.type "dict_keyiterator",data:=.fields #[.ref a,.int 0 0,.int vs.length 0,.int ep 0] } }:=I2.kept (t':=d.toks) λb o e=>zd _ e;have c2:fH X.K (B6 H1 a (.sS l (.dK ks))) AO ks:=rm.kp (.dk g);refine yO (B:=Jp) (RR:=λU C=>compPost (A8 X.prog X.w) X.A X.xe none (EP X AN σ Q) U C) (ts:=ts) (xs:=xs) O a5 (λC f c fp=>(Nf C f c fp).run) (λC f c fp=>(a2 C f c fp).run) (λC f c fp=>(b9 C f c fp).run) b0 I3 (R0 g ((E.grow s01).caps is ts.length)) (NZ (JL d.heap.objs.size a3 (zI c0))) a4 (a0 I2) (Bw bJ c2) b3 t ?_;intro D C s' H' us i j F ⟨m,hn⟩ s2' hD' r';have G:H' a=Z (.sS l (.dK ks)):=s2' _ _ bJ;have a1:D≠a:=λz=>by subst z;rw[bJ]at i;cases i
   have c3:H1 D=none:=by rw[aQ a1]at i;exact i
   have sm:AV H1 (B6 H' a (.dK ks)):=λb u e=>by
    by_cases hb:b=a
    ·subst hb;rw[g]at e;cases e;exact bJ
    ·rw[aQ hb];exact s2' b u (by rw[aQ hb];exact e)
   have rr:aO X.K (B6 H' a (.dK ks)) out us:=by
    by_cases hk:ks=[]
    ·have:AO=[]:=by have:=rm.len;rw[hk]at this;exact List.length_eq_zero_iff.mp (by simpa using this.symm)
     subst this;simp only[JS]at t;rw[WK]at t;cases t;simpa only[aO]using r'
    ·exact aO.Ph G hk r'
   refine⟨m,hn,λh' J=>⟨.ref D,B6 H' a (.dK ks),?_,rfl,q _ _ (s01.trans sm) (λa ea=>by cases ea;exact s01.free c3) ⟨D,us,rfl,by rw[aQ a1];exact hD',rr⟩⟩⟩;obtain⟨f0,f1,f2,P,L,N⟩:=F;have d0:C≠a:=λz=>by subst z;rw[G]at f0;cases f0
   exact(Ph (YI I1 g) j G).turned (t':=s'.toks) (λb o hb e=>(J.2 b hb).trans e) (by rw[aQ d0];exact f0) f1 P L N
  ·have c8:o'=l:=by
    have:=(I1.hok _ _ g).1;rw[M]at this;cases this;rfl
   subst c8;have I3:L2.AU X AN σ H1 { d with heap:=d.heap.push { cls:=.type "dict_keyiterator",data:=.fields #[.ref a,.int 0 0,.int vs.length 0,.int ep 0] } }:=I1.kept (t':=d.toks) λb o e=>zd _ e;refine yO (B:=Jp) (RR:=λU C=>compPost (A8 X.prog X.w) X.A X.xe none (EP X AN σ Q) U C) (ts:=ts) (xs:=xs) O a5 (λC f c fp=>(Nf C f c fp).run) (λC f c fp=>(a2 C f c fp).run) (λC f c fp=>(b9 C f c fp).run) b0 I3 ((E.grow s01).caps is ts.length) (NZ (JL d.heap.objs.size a3 (zI c0))) a4 (a0 I1) (Bw g rm) b3 t ?_;intro D C s' H' us i j F ⟨m,hn⟩ s2' hD' r';refine⟨m,hn,λh' J=>⟨.ref D,H',?_,rfl,q _ _ (s01.trans s2') (λa ea=>by cases ea;exact s01.free i) ⟨D,us,rfl,hD',r'⟩⟩⟩;obtain⟨f0,f1,f2,P,L,N⟩:=F;exact j.turned (t':=s'.toks) (λb o hb e=>(J.2 b hb).trans e) f0 f1 P L N
 ·cases e⟩
end
theorem Pn{R:Result->A2->Prop}{d:A1}{AO:Y (AY×A0)}(E:A.handled=O)(H:(d==sysModules)=false)(j:s.heap.DictAt (bx prog w) d AO ep)(J:AO.length<=AA)(S:A1)(n:d≠S)(l:A0)(q:Nat)(t:s.heap.get? S=Z { cls:=.type "list",data:=.seq #[] q })(C:∀h' tk g a,(∀b o,b≠S->s.heap.get? b=Z o->h'.get? b=Z o)->h'.get? S=Z { cls:=.type "list",dict:=O,data:=.seq g a,slots:=#[] } →
   ItemsOf (λi v=>∃k x,AO[i]?=Z (k,x)/\(bx prog w).is k v=true) g AO.length->R (.ok (.ret l)) { s with heap:=h',toks:=tk }):
  A7 (A8 prog w) A.in1 (Builtin.List.listExtendWith (.ref S) (.ref d) l)
   (λP s'=>match P with|.done f=>R (.ok f) s'|.again a=>a.quiet=true/\AF (A8 prog w) A a R s') (λe s'=>R (.error e) s') s:=by
 have Q:d<s.heap.objs.size:=by obtain⟨o,_,ho,_⟩:=j;exact zz ho
 have M:S<s.heap.objs.size:=zz t;unfold Builtin.List.listExtendWith;refine zb (QQ (T :="dict") j.dictOf.typeIs ?_);have h1:Builtin.List.listSameRef (.ref S) (.ref d)=false:=by simp[Builtin.List.listSameRef];exact λe=>n e.symm
 simp only[h1,show(Value.type "dict"==Value.type "list")=false by decide,show(Value.type "dict"==Value.type "tuple")=false by decide,Bool.or_false,zl,ZI];refine zb (wpAny_pyIter_dict H j ?_);refine zb (QP ?_);have c:=j.at' (h':=s.heap.push { cls:=.type "dict_keyiterator",data:=.fields #[.ref d,.int 0 0,.int AO.length 0,.int ep 0] }) λo e=>zd _ e;unfold Builtin.List.listLengthHint;refine zb (wpAny_specialOf (T :="dict") c.dictOf.typeIs F.slot_dict_len.lookup ?_)
 wp_delta
 refine zb (kb (T :="dict") (b:=true) c.dictOf.typeIs (by rw[isSubtype_type];kernel_rfl) ?_);show A7 _ A.in1 (typeOf (Value.ref d) >>= _) _ _ _;refine zb (QQ (T :="dict") c.dictOf.typeIs (ze ?_));rw[zo (by decide)];show A7 _ A.in1 (Builtin.List.listTouch (Value.ref S) >>= λ_=>again (Code.builtin "list.extend.loop" ⟨[Value.ref S,Value.ref s.heap.objs.size,l],[]⟩)) _ _ _;generalize m:s.heap.push { cls:=.type "dict_keyiterator",data:=.fields #[.ref d,.int 0 0,.int AO.length 0,.int ep 0] }=G at c ⊢;have p:G.get? S=Z { cls:=.type "list",data:=.seq #[] q }:=by
  rw[<-m];exact zd _ t
 have X:G.get? s.heap.objs.size=Z { cls:=.type "dict_keyiterator",data:=.fields #[.ref d,.int 0 0,.int AO.length 0,.int ep 0] }:=by
  rw[<-m];exact zv _ rfl
 unfold Builtin.List.listTouch;refine zb (zb (listUpdate_at p Y3 (listUpdate_at (get?_update_seq p _) Y3 ?_ (by show _<=_;decide) (by show _<=_;decide)) (by show _<=_;decide) (by show _<=_;decide)));have z:s.heap.objs.size≠S:=Kn M;have y:=get?_update_seq (get?_update_seq p (λx=>x.push Value.none)) (λx=>x.pop);generalize D:(G.update S (Obj.mapSeq λx=>x.push Value.none)).update S (Obj.mapSeq λx=>x.pop)=U at y;have keep:∀b,b≠S->U.get? b=G.get? b:=λb hb=>by rw[<-D,JA _ _ _ _ hb,JA _ _ _ _ hb]
 have N:U.IsKeyIter s.heap.objs.size d 0 AO.length ep/\U.DictAt (bx prog w) d AO ep:=⟨⟨_,(keep _ z).trans X,rfl,rfl⟩,c.at' λo e=>(keep d n).trans e⟩;show A7 _ A.in1 (again _) _ _ { s with heap:=U };have L:S∉[s.heap.objs.size,d]:=λh=>by
  simp only[QY,jI,or_false]at h;rcases h with h|h
  ·exact z h.symm
  ·exact n h.symm
 refine ze ⟨plainId_quiet F.plain_extend_loop _,codeAny_extend_loopS (Walks.dictKeys (A:=A.in1) E s.heap.objs.size d (zI Q) AO ep).toS J S L _ AO.length 0 { s with heap:=U } #[] _ Y3 (QO _) N y (ItemsOf.nil _) λs' g a u W B=>?_⟩;rw[Moved.eq_with u];refine C s'.heap s'.toks g a (λb K hb e=>?_) W B;have I:=zz e;refine u.heap b K (λh=>?_) ((keep b hb).trans ?_)
 ·simp only[QY,jI,or_false]at h;rcases h with h|h
  ·exact hb h
  ·exact zI I h
 ·rw[<-m];exact zd _ e
theorem FP{Q:BB}{d:A1}{AO:Y (AY×A0)}(y:A.handled=O)(z:(d==sysModules)=false)(l:s.heap.DictAt (bx prog w) d AO ep)(B:AO.length<=AA)(p:∀h' tk c f,(∀b o,s.heap.get? b=Z o->h'.get? b=Z o) →
   h'.get? s.heap.objs.size=Z { cls:=.type "list",dict:=O,data:=.seq c f,slots:=#[] }->ItemsOf (λi v=>∃k x,AO[i]?=Z (k,x)/\(bx prog w).is k v=true) c AO.length->Q (.ref s.heap.objs.size) { s with heap:=h',toks:=tk }):
  A7 (A8 prog w) A (call (.type "list") [.ref d]) Q E s:=by
 have m:d<s.heap.objs.size:=by obtain⟨o,_,ho,_⟩:=l;exact zz ho
 refine callType_codes (Q₁:=λh g=>h=.ref s.heap.objs.size/\g={ s with heap:=s.heap.push { cls:=.type "list",data:=.seq #[] } }) F.called_list (F.typeCall_list_1 _) F.entry_list_init
  (code_list_new _ ⟨rfl,rfl⟩) λh g D=>?_
 obtain⟨rfl,rfl⟩:=D;have a:(s.heap.push { cls:=.type "list",data:=.seq #[] }).get? s.heap.objs.size=Z { cls:=.type "list",data:=.seq #[] }:=zv _ rfl;have j:=l.at' (h':=s.heap.push { cls:=.type "list",data:=.seq #[] }) λo e=>zd _ e;refine⟨⟨_,a,rfl⟩,F.args_list_init_2 _ _,?_⟩;generalize t:s.heap.push { cls:=.type "list",data:=.seq #[] }=H at a j ⊢;show A7 _ _ (do let old <-Builtin.List.listItems (.ref s.heap.objs.size);Builtin.List.listUpdate (.ref s.heap.objs.size) (λ_=>#[]);letGo old.toList.reverse;Builtin.List.listExtendWith (.ref s.heap.objs.size) (.ref d) .none) _ _ { s with heap:=H };refine zb ?_;unfold Builtin.List.listItems;refine zb (wpAny_seqItems a Y3 (ze ?_));show A7 _ _ (updateSeq s.heap.objs.size (λ_=>#[]) >>= λ_=>letGo (#[]:Array A0).toList.reverse >>= λ_=>Builtin.List.listExtendWith (.ref s.heap.objs.size) (.ref d) .none) _ _ _;refine zb (wpAny_updateSeq a Y3 ?_);have C:=k6 (Obj.mapSeq (λ_=>(#[]:Array A0))) a rfl;have n:∀b o,b≠s.heap.objs.size->H.get? b=Z o->(H.update s.heap.objs.size (Obj.mapSeq (λ_=>(#[]:Array A0)))).get? b=Z o:=
  λb o hb e=>(Heap.get?_update_other _ _ (KG hb)).trans e
 refine zb (wpAny_letGo ?_);refine Pn (A:=A.in1) y z (j.at' λo e=>n d o (zI m) e) B s.heap.objs.size (zI m) .none _ C λh' tk c f u G q=>?_;exact⟨rfl,p h' tk c f (λb o e=>u b o (zI (zz e)) (n b o (zI (zz e)) (by rw[<-t];exact zd _ e))) G q⟩
theorem b8{P:Nat->A0->Prop}(val:Nat->AJ)(a:∀i v,P i v->∃t,v=.str (val i) t):CmpOf prog w A .Lt P (λi j=>decide ((val i).cps.toList<(val j).cps.toList)):=λi j d b s Q E hi c h=>by
 obtain⟨t,rfl⟩:=a i d hi;obtain⟨u,rfl⟩:=a j b c;exact richCompare_gives (op:=.Lt) (typeIs_str s _ t) (typeIs_str s _ u) F.slot_str_lt F.entry_str_lt (F.args_str_lt_2 _ _) (gives_str_lt _ _ t u) (λx=>nomatch x) h
def two(a b:AJ)(i:Nat):AJ:=if i=0 then a else b
theorem Pe{a b:AJ}{t u:Tok}(i:Nat)(v:A0)(h:(#[Value.str a t,Value.str b u])[i]?=Z v):∃t',v=.str (two a b i) t':=by
 match i,h with
 |0,h=>cases h;exact⟨t,rfl⟩
 |1,h=>cases h;exact⟨u,rfl⟩
 |_+2,h=>simp at h
theorem Zu{a b:AJ}{t u:Tok}{Q:BB}{d:Nat->Nat->Bool}(B:A.handled=O)(f:CmpOf prog w A.in1 op (λi v=>(#[Value.str a t,Value.str b u])[i]?=Z v) d)(h:∀h' tk,(∀c o,s.heap.get? c=Z o->h'.get? c=Z o)->Q (if d 1 0=true then .str b u else .str a t) { s with heap:=h',toks:=tk }):
  A7 (A8 prog w) A.in1 (pyIter (.ref s.heap.objs.size)) (λit l=>∃I fp wr n P St d,it=.ref I/\Walks prog w A.in1 I fp wr n P St/\St 0 l.heap/\(∀b∈fp,b<l.heap.objs.size)/\0<n/\CmpOf prog w A.in1 op P d ∧
   ∀v h' tk,P (argBest d (n-1)) v->(∀b o,b∉wr->l.heap.get? b=Z o->h'.get? b=Z o)->Q v { l with heap:=h',toks:=tk }) E
   { s with heap:=s.heap.push { cls:=.type "tuple",data:=.seq #[.str a t,.str b u] } }:=by
 have q:(s.heap.push { cls:=.type "tuple",data:=.seq #[.str a t,.str b u] }).IsTuple s.heap.objs.size #[.str a t,.str b u]:=⟨_,zv _ rfl,rfl,0,rfl⟩;refine wpAny_pyIter_tuple q ?_;have j:(s.heap.push { cls:=.type "tuple",data:=.seq #[.str a t,.str b u] }).objs.size=s.heap.objs.size+1:=qq ..;refine⟨_,[_,s.heap.objs.size],[_],_,_,_,d,rfl,Walks.tuple (A:=A.in1) B _ s.heap.objs.size (by rw[j];exact zI (qc _)) #[.str a t,.str b u],
  ⟨⟨_,zv _ rfl,rfl,rfl⟩,q.push _⟩,λc f=>?_,by simp,f,λv h' tk x y=>?_⟩
 ·show c<((s.heap.push _).push _).objs.size;rw[qq,j];rcases List.mem_cons.mp f with rfl|f
  ·rw[j];exact qc _
  ·rcases List.mem_cons.mp f with rfl|f
   ·exact qV (qc _)
   ·cases f
 ·have hold:∀c o,s.heap.get? c=Z o->h'.get? c=Z o:=λc o e=>by
   refine y c o (λm=>?_) (zd _ (zd _ e));rcases List.mem_cons.mp m with e1|m
   ·have:=zz e;rw[e1,j]at this;exact JE _ (Nat.lt_of_succ_lt this)
   ·cases m
  have:=h h' tk hold;have z:v=if d 1 0=true then Value.str b u else Value.str a t:=by
   have g:(#[Value.str a t,Value.str b u])[argBest d 1]?=Z v:=x;unfold argBest argBest at g;by_cases p:d 1 0=true
   ·rw[zo p]at g ⊢;exact(by simpa using g.symm)
   ·rw[zw p]at g ⊢;exact(by simpa using g.symm)
  rw[z];exact this
def FQ:Y Bx->S Bx
 |[.z (.str a),.z (.str b)]=>Z (.z (.str (if afW b a=true then b else a)))
 |_=>O
where afW (x y:AJ):Bool:=decide (x.cps.toList<y.cps.toList)
theorem az(g:X.calm=true):qF X (.builtin "min") FQ:=by
 intro AN s σ H xs us Q I r h;obtain⟨bs,c,i,e,q⟩:=h;unfold FQ at e;split at e
 ·rename_i a b;cases e;obtain⟨v,w,rfl,d,f⟩:=YM i;obtain⟨rfl,h1⟩:=V7 d;obtain⟨rfl,h2⟩:=V7 f;obtain⟨u,m,rfl,j,l⟩:=AX.two r;obtain⟨t,rfl⟩:=j;obtain⟨n,rfl⟩:=l;refine call_min_two (Zu (I.ok.hd g) (b8 (two a b) Pe) λh' tk kp=>?_);show EP X AN σ Q (if FQ.afW b a=true then _ else _) _;by_cases hb:FQ.afW b a=true
  ·rw[zo hb]at q ⊢;exact⟨.str b,H,I.kept kp,⟨_,rfl⟩,q _ H (AV.refl H) trivial f⟩
  ·rw[zw hb]at q ⊢;exact⟨.str a,H,I.kept kp,⟨_,rfl⟩,q _ H (AV.refl H) trivial d⟩
 ·cases e
def FT:Y Bx->S Bx
 |[.n AO]=>(Wf AO).bind λys=>Z (.o (ys.map Dt.str))
 |_=>O
theorem Zv(i:X.calm=true):qF X (.type "list") FT:=by
 intro AN s σ H xs us Q I r h;obtain⟨bs,c,m,e,q⟩:=h;unfold FT at e;split at e
 ·rename_i AO;obtain⟨ys,b,e⟩:=AT e;cases e;have A:AO.length=ys.length:=by have:=congrArg List.length (vZ b);simpa using this
  obtain⟨v,rfl,D⟩:=BS m;obtain⟨a,ks,rfl,E,d⟩:=D;obtain⟨u,rfl,p⟩:=BF r;cases p;obtain⟨x,w,vs,f,o,es,ep,j⟩:=ux I.hok E;have n:vs.map (·.1)=ys.map Sum.inr:=by rw[Ui f,d.1];exact vZ b
  have F:ks.length=vs.length:=f.length;refine FP (I.ok.hd i) w ⟨o,es,j⟩ (by omega) λh' tk B t ext z l=>?_;have z1:=Rv n l;have C:∀y∈ys,y.length<=AA:=NV b d.2.2;have g:=I.hok.fresh (zk s.heap.objs.size);refine⟨.ref s.heap.objs.size,_,I.laid (t':=tk) (a:=s.heap.objs.size) (o:=.lst (ys.map V.str)) ext (zk _) ?_,rfl,q _ _ (bU g) (λa ea=>by cases ea;exact g) ⟨_,_,rfl,bJ,Ey C⟩⟩;refine⟨by rw[zr,<-A,<-d.len];exact x,B.toList,t,Av z1,?_⟩;rw[z]
 ·cases e
def CF(H:Hp)(a:A1):Hp:=λb=>if b=a then O else H b
theorem Uy{b:A1}(h:b≠a):CF H a b=H b:=zw h
theorem Uz:CF H a a=O:=zo rfl
def DI:Bx->Bool
 |.z _=>true
 |_=>false
def EZ(K:B0)(n:Nat)(G:A1->Y (AY×Dt)->Y Bx->S (Y (AY×Dt))):Sp:=λvs H Q _=>vs.length=n+1/\∃a ks AO AS bs b,vs=.ref a::AS/\H a=Z (.dK ks)/\fH K H AO ks/\rP K H bs AS/\bs.all DI=true/\G a AO bs=Z b/\∀H' c,AV (CF H a) H'->H' a=Z (.dK c)->fH K H' b c->Q .non H'
def Pq(n:Nat)(g:Ev->S Ap):A1->Y (AY×Dt)->Y Bx->S (Y (AY×Dt)):=λa AO bs=>(g ((Bx.m AO (Z a)::bs).map Z++List.replicate (n-(bs.length+1)) O)).bind λr=>match r with
 |.nx ρ=>match ρ[0]? with
  |some (Z (Bx.m kvs' (Z b)))=>if b=a then Z kvs' else O
  |_=>O
 |_=>O
theorem R3{c:Y (AY×Dt)}{bs:Y Bx}(h:Pq n g a AO bs=Z c):∃ ρ,g ((Bx.m AO (Z a)::bs).map Z++List.replicate (n-(bs.length+1)) O)=Z (.nx ρ)/\ρ[0]?=Z (Z (.m c (Z a))):=by
 obtain⟨r,er,h⟩:=AT h;cases r with
 |nx ρ=>
  dsimp only at h;split at h
  ·rename_i k b e;split at h
   ·rename_i hb;cases h;subst hb;exact⟨ρ,er,e⟩
   ·cases h
  ·cases h
 |rt _=>cases h
 |bk _=>cases h
 |ct _=>cases h
theorem FW{α β:Type}{R:α->β->Prop}:∀{xs:Y α} {ys:Y β},AI R xs ys->∀{i:Nat} {x:α},xs[i]?=Z x->∃y,ys[i]?=Z y/\R x y
 |_,_,.nil,i,x,q=>by simp at q
 |_,_,.cons r _,0,x,q=>by simp at q;subst q;exact⟨_,rfl,r⟩
 |_,_,.cons _ t,i+1,x,q=>by
  rw[ZZ]at q;obtain⟨y,y1,y2⟩:=FW t q;exact⟨y,by rw[ZZ];exact y1,y2⟩
theorem bR.startM{bs:Y Bx}{AS:Y V}{ks:Y (AY×V)}(n:H a=Z (.dK ks))(u:fH K H AO ks)(r:rP K H bs AS)(l:bs.all DI=true):bR K (CF H a) H (L2.start N (.ref a::AS)) ((Bx.m AO (Z a)::bs).map Z++List.replicate (N.length-(bs.length+1)) O):=by
 have p:bs.length=AS.length:=Paired.length r;have w:rP K H (.m AO (Z a)::bs) (.ref a::AS):=.cons ⟨a,ks,rfl,n,u,λb h=>by cases h;rfl⟩ r;have get:∀(i:Nat) b,((Bx.m AO (Z a)::bs).map Z++List.replicate (N.length-(bs.length+1)) O)[i]?=Z (Z b)->(Bx.m AO (Z a)::bs)[i]?=Z b:=λi b e=>by
  by_cases hi:i<(Bx.m AO (Z a)::bs).length
  ·rw[ZT (by simpa using hi),Zl]at e;cases q:(Bx.m AO (Z a)::bs)[i]? with
   |none=>rw[q]at e;cases e
   |some y=>rw[q]at e;simpa using e
  ·rw[qv (by simp at hi ⊢;omega),QN]at e;split at e<;>cases e
 have t:∀(i:Nat) b,((Bx.m AO (Z a)::bs).map Z++List.replicate (N.length-(bs.length+1)) O)[i]?=Z (Z b)->i≠0->loose b=false:=λi b e hi=>by
  have e2:=get i b e;cases i with
  |zero=>exact absurd Y3 hi
  |succ j=>
   rw[ZZ]at e2;have:=List.all_eq_true.mp l b (Qr e2);cases b<;>first|rfl|cases this
 have g:∀c,uL c=true->loose c=true:=λc d=>by cases c<;>first|rfl|cases d
 have zero:∀(i:Nat) c,((Bx.m AO (Z a)::bs).map Z++List.replicate (N.length-(bs.length+1)) O)[i]?=Z (Z c)->loose c=true->i=0:=λi c e d=>by
  by_cases hi:i=0
  ·exact hi
  ·rw[t i c e hi]at d;cases d
 have st:∀i v,(Value.ref a=Value.ref a)->(V.ref a::AS)[i]?=Z v->(L2.start N (.ref a::AS))[i]?=Z (Z v):=λi v _ e=>by
  have hi:i<(V.ref a::AS).length:=(List.getElem?_eq_some_iff.mp e).1;unfold L2.start;rw[ZT (by simpa using hi),Zl,e];rfl
 refine⟨by unfold L2.start;simp[p],λi b e=>?_,λi j c x b e1 f _ e3 hb _=>?_,λb o e=>?_,λi c x e f e2=>?_⟩
 ·obtain⟨v,e1,s⟩:=FW w (get i b e);exact⟨v,st i v Y3 e1,s⟩
 ·rw[zero i c e1 (g c f),zero j b e3 hb]
 ·by_cases hb:b=a
  ·subst hb;rw[Uz]at e;cases e
  ·rw[Uy hb]at e;exact e
 ·have hi:=zero i c e (g c f);subst hi;rw[st 0 (.ref a) Y3 rfl]at e2;cases e2;exact Uz
theorem NI{st:AB}{f:A1}{k m:Nat}(F:Co K x qual st f fd)(S:bL N ps (aP st))(B:N.length=n)(u:ps.length=m+1)(t:∀(c:A0) (A:A5) (outer:Y Env) (s:A2) (H:Hp) (E:XK),nF k (A.deeper (AK qual (aP st) s.heap.objs.size f c))->Ra (DN Kr P w K mg base N qual (aP st) f c A outer s H E).nox (jd st) g):
  uU P w K mg base Kr (k+1) f fd ps (EZ K m (Pq n g)):=by
 subst B;refine F.ok S (λvs H Q E h=>by rw[u];exact h.1) λc A outer s H vs Q E y h=>?_;obtain⟨G,a,ks,AO,AS,bs,D,rfl,p,C,o,l,e,q⟩:=h;refine⟨_,(t c A outer s H E y).run,?_⟩;obtain⟨ρ,er,e0⟩:=R3 e;refine⟨CF H a,_,_,bR.startM p C o l,er,?_⟩;intro σ' H' d;obtain⟨v,ev,b,j,rfl,hb,i,z⟩:=d.val 0 _ e0;have:=z a rfl;subst this;exact q H' j d.base hb i
open Classical in
noncomputable def BJ(i n:Nat)(G:A1->Y (AY×Dt)->Y Bx->S (Y (AY×Dt)))(fs:Ev->S (Y Bx)):Ev->S Ap:=λρ=>match ρ[i]? with
 |some (Z (.m AO w))=>(fs ρ).bind λbs=>if h:bs.length=n/\bs.all DI=true/\∃b,∀a,G a AO bs=Z b then Z (.nx (ρ.set i (Z (.m (Classical.choose h.2.2) w))))else O
 |_=>O
theorem R5{fs:Ev->S (Y Bx)}{r:Ap}(h:BJ i n G fs ρ=Z r):∃AO w bs c,ρ[i]?=Z (Z (.m AO w))/\fs ρ=Z bs/\bs.length=n/\bs.all DI=true/\(∀a,G a AO bs=Z c)/\r=.nx (ρ.set i (Z (.m c w))):=by
 unfold BJ at h;split at h
 ·rename_i AO w e;obtain⟨bs,eb,h⟩:=AT h;split at h
  ·rename_i b;cases h;exact⟨AO,w,bs,_,e,eb,b.1,b.2.1,Classical.choose_spec b.2.2,rfl⟩
  ·cases h
 ·cases h
theorem Zw{fs:Ev->S (Y Bx)}{b:Y (AY×Dt)}{w:S A1}{bs:Y Bx}(e:ρ[i]?=Z (Z (.m AO w)))(eb:fs ρ=Z bs)(h:bs.length=n)(g:bs.all DI=true)(c:∀a,G a AO bs=Z b):BJ i n G fs ρ=Z (.nx (ρ.set i (Z (.m b w)))):=by
 unfold BJ;rw[e];simp only[eb,aj7];have d:bs.length=n/\bs.all DI=true/\∃b,∀a,G a AO bs=Z b:=⟨h,g,b,c⟩;rw[dif_pos d];have:=Classical.choose_spec d.2.2 0;rw[c 0]at this;injection this with this;rw[<-this]
where aj7 {α β:Type} (a:α) (f:α->S β):(Z a).bind f=f a:=rfl
theorem bR.ah5{H':Hp}{C:Y (AY×Dt)}{w:S A1}{ks F:Y (AY×V)}(E:bR K H0 H σ ρ)(h:ρ[i]?=Z (Z (.m AO w)))(hs:σ[i]?=Z (Z (.ref a)))(J:H a=Z (.dK ks))(M:AV (CF H a) H')(P:H' a=Z (.dK F))(rm:fH K H' C F)(N:∀b,w=Z b->b=a):
  bR K H0 H' σ (ρ.set i (Z (.m C w))):=by
 have hi:i<ρ.length:=(List.getElem?_eq_some_iff.mp h).1;have hb:H0 a=O:=E.new i _ a h Y3 hs;have g:∀b u,b≠a->H b=Z u->H' b=Z u:=λb u I e=>M b u (by rw[Uy I];exact e);have kp:Kp H H':=⟨λb xs e=>g b _ (oM e J (by intro z;cases z)) e,λb ob u e=>g b _ (oM e J (by intro z;cases z)) e⟩;refine⟨by rw[ko];exact E.len,λj A e=>?_,λj k' c f A e1 G e2 e3 W L=>?_,λc o e=>?_,λj c f e1 G e2=>?_⟩
 ·rcases BC e with⟨rfl,e',_⟩|⟨I,e'⟩
  ·cases e';exact⟨_,hs,a,F,rfl,P,rm,N⟩
  ·obtain⟨v,e1,y⟩:=E.val j A e';refine⟨v,e1,?_⟩;have B:∀f,v=.ref f->loose A=true->f≠a:=λf ev X z=>by
    subst z;exact I (E.own i j _ _ _ h Y3 hs e' X (by rw[e1,ev])).symm
   cases A with
   |z d=>exact AW.kp kp y
   |l D=>
    obtain⟨f,p,rfl,q,s⟩:=y;have x:=B f Y3 rfl;exact⟨f,p,rfl,q.imp (g _ _ x) λ⟨o,q⟩=>⟨o,g _ _ x q⟩,s.kp kp⟩
   |o D=>
    obtain⟨f,p,rfl,q,s⟩:=y;exact⟨f,p,rfl,g _ _ (B f Y3 Y3) q,s.kp kp⟩
   |n D=>
    obtain⟨f,p,rfl,q,s⟩:=y;have x:=B f Y3 rfl;exact⟨f,p,rfl,q.imp (g _ _ x) λ⟨o,q⟩=>⟨o,g _ _ x q⟩,s.kp kp⟩
   |m D _=>
    obtain⟨f,p,rfl,q,s,Q⟩:=y;exact⟨f,p,rfl,g _ _ (B f Y3 Y3) q,s.kp kp,Q⟩
 ·have back:∀{j:Nat} {c:Bx},(ρ.set i (Z (.m C w)))[j]?=Z (Z c)->∃t,ρ[j]?=Z (Z t)/\(uL c=true->uL t=true)/\(loose c=true->loose t=true):=λ{j c} e=>by
   rcases BC e with⟨rfl,e',_⟩|⟨_,e'⟩
   ·exact⟨_,h,λ_=>Y3,λ_=>Y3⟩
   ·exact⟨c,e',id,id⟩
  obtain⟨t,p1,p2,_⟩:=back e1;obtain⟨b2,q1,_,U⟩:=back e3;exact E.own j k' t f b2 p1 (p2 G) e2 q1 (U W) L
 ·have e2:=E.base c o e;exact g c o (λz=>by subst z;rw[hb]at e;cases e) e2
 ·rcases BC e1 with⟨rfl,e',_⟩|⟨_,e'⟩
  ·exact E.new _ _ f h Y3 e2
  ·exact E.new j c f e' G e2
section
variable{fs:Ev->S (Y Bx)}{p px spos:Pos}{k:Nat}{f:A1}
theorem UG(i:Nat)(F:uU X.prog X.w X.K X.mg X.base Kr k f fd ps (EZ X.K n G))(hr:nF k X.A)(J:Gl X x)(M:X.mg x=Z (.ref f))(z:keepIn X.K (.ref f)=true)(hb:BY X.K fd ps [])
  (W:Xl X es fs) (o:X.N[i]?=Z y:=by rfl) (Q:Xj X.env.scope y:=by first|exact JU rfl|exact Q3 (JU Y3)|exact Q3 (Q3 Y3)) (C:(y==("__debug__":AJ))=false:=by decide)
  (u:(y==("__classdict__":AJ))=false:=by decide) (a1:(x==("__debug__":AJ))=false:=by decide) (he:A9 (.Name y px::es) X.env=(false,eval (.Name y px) X.env)::A9 es X.env:=by rfl) (a0:(AD pos (A9 es X.env)).any (·.1)=false:=by rfl) (hs:swapsWith (.Call (.Name x p) (.Name y px::es) [] pos) O spos.line X.env=pure false:=by rfl):
  NP X (.Expr (.Call (.Name x p) (.Name y px::es) [] pos) spos) (BJ i n G fs):=⟨T5 (Kf (TQ F hr J M z hb .nil LJ (gn (uO (i:=i) o Q C u) W.run he) a1 he a0) hs) λD σ H h=>by
 obtain⟨H0,ρ,r,E,e,q⟩:=h;obtain⟨AO,w,bs,j,c,eb,U,L,P,rfl⟩:=R5 e;obtain⟨v,e1,a,ks,rfl,B,s,m⟩:=E.val i _ c;refine⟨_,e1,H0,ρ,bs,E,eb,λvs H1 b g=>?_⟩;have d:=b _ _ B;refine⟨by simp only[ZO,ZN];rw[<-Paired.length g,U],a,ks,AO,vs,bs,j,by simp,d,s.kp (.of b),g,L,P a,λH' a2 l I t=>?_⟩;exact q σ H' ((E.grow b).ah5 c e1 d l I t m)⟩
end
def DS:S Bool->Bool
 |some true=>true
 |_=>false
def WL(x:Dt)(ys:Y Dt):S Bool:=if(ys.all λy=>(yQ y x).isSome&&decide (min (vX y) (vX x)<=60))=true then Z (ys.any λy=>DS (yQ y x))else O
def EJ(a b:Bx):S Bx:=match a with
 |.z d=>(u5 b).bind λys=>(WL d ys).bind λk=>Z (.z (.bl k))
 |_=>O
def Zx(a b:Bx):S Bx:=match a with
 |.z d=>(u5 b).bind λys=>(WL d ys).bind λk=>Z (.z (.bl (!k)))
 |_=>O
theorem Li(I:L2.AU X AN σ H s)(J:X.A.units+100<cLine){x:V}(t:AW X.K H d x)(w:As x u){ys:Y Dt}(rs:aO X.K H ys vs)(m:AX vs AQ){k:Bool}(a:WL d ys=Z k):
  ∃e:A0->Bool,(∀y,y∈AQ->SeqAt.EqAt X.A.in1 s y u (e y))/\AQ.any e=k:=by
 unfold WL at a;split at a
 ·rename_i o;injection a with a;rw[qo]at o;have at_:∀(i:Nat) y,AQ[i]?=Z y->∃c,ys[i]?=Z c/\SeqAt.EqAt X.A.in1 s y u (DS (yQ c d)):=λi y l=>by
   have C:=m.length;have B:=rs.length;have hi:i<AQ.length:=(List.getElem?_eq_some_iff.mp l).1;have f:i<ys.length:=by omega
   obtain⟨v,ev,D⟩:=rs.get (show ys[i]?=Z ys[i] by simp[f]);obtain⟨G,p,z⟩:=m.get ev;rw[l]at p;cases p;refine⟨ys[i],by simp[f],?_⟩;have g:=o ys[i] (yb f);rw[ZH]at g;obtain⟨b,hb⟩:=Option.isSome_iff_exists.mp g.1;have:=MI I 60 (A:=X.A.in1) (QI g.2) (by rw[units_in1];omega) D t z w hb;rw[hb];cases b<;>exact this
  classical
  refine⟨λy=>decide (∃(i:Nat) (c:Dt),AQ[i]?=Z y/\ys[i]?=Z c/\DS (yQ c d)=true),λy l=>?_,?_⟩
  ·dsimp only;by_cases q:∃(i:Nat) (c:Dt),AQ[i]?=Z y/\ys[i]?=Z c/\DS (yQ c d)=true
   ·rw[z4 q];obtain⟨i,c,h1,h2,j⟩:=q;obtain⟨F,e1,e2⟩:=at_ i y h1;rw[h2]at e1;cases e1;rw[j]at e2;exact e2
   ·rw[Zp q];obtain⟨i,hi,n⟩:=jv l;have h1:AQ[i]?=Z y:=by rw[z5 hi,n]
    obtain⟨c,e1,e2⟩:=at_ i y h1;have:DS (yQ c d)=false:=by
     cases E:DS (yQ c d)with
     |false=>rfl
     |true=>exact absurd ⟨i,c,h1,e1,E⟩ q
    rw[this]at e2;exact e2
  ·rw[<-a,ky,kf,kf];constructor
   ·rintro⟨y,l,h⟩;obtain⟨i,c,h1,h2,j⟩:=QI h;exact⟨c,Qr h2,j⟩
   ·rintro⟨c,g,j⟩;obtain⟨i,hi,n⟩:=jv g;have C:=m.length;have B:=rs.length;have f:i<AQ.length:=by omega
    exact⟨AQ[i],yb f,z4 ⟨i,c,by simp[f],by rw[z5 hi,n],j⟩⟩
 ·cases a
theorem Zy(l:X.A.units+100<cLine):Cq X (AG .In) EJ:=by
 intro AN s σ H x y v u Q I j z h;obtain⟨a,b,c,m,t,e,q⟩:=h;unfold EJ at e;split at e
 ·rename_i d;obtain⟨ys,n,e⟩:=AT e;obtain⟨k,ek,e⟩:=AT e;cases e;obtain⟨p,vs,rfl,sq,rs⟩:=Dl t n;cases z;rcases sq with sq|sq
  ·obtain⟨AQ,i,pl,o⟩:=I.list sq;obtain⟨f,f1,f2⟩:=Li I l m j rs i ek;refine SeqAt.in_listAt f pl.isList (λw g=>f1 w (by simpa using g)) ⟨.bl k,H,I,by rw[show AQ.toArray.any f=AQ.any f by simp,f2];rfl,q _ H (AV.refl H) trivial (by simp only[aW,AW])⟩
  ·obtain⟨AQ,i,pl,o⟩:=I.tuple sq;obtain⟨f,f1,f2⟩:=Li I l m j rs i ek;refine SeqAt.in_tupleAt f pl (λw g=>f1 w (by simpa using g)) ⟨.bl k,H,I,by rw[show AQ.toArray.any f=AQ.any f by simp,f2];rfl,q _ H (AV.refl H) trivial (by simp only[aW,AW])⟩
 ·cases e
theorem P5(l:X.A.units+100<cLine):Cq X (AG .NotIn) Zx:=by
 intro AN s σ H x y v u Q I j z h;obtain⟨a,b,c,m,t,e,q⟩:=h;unfold Zx at e;split at e
 ·rename_i d;obtain⟨ys,n,e⟩:=AT e;obtain⟨k,ek,e⟩:=AT e;cases e;obtain⟨p,vs,rfl,sq,rs⟩:=Dl t n;cases z;rcases sq with sq|sq
  ·obtain⟨AQ,i,pl,o⟩:=I.list sq;obtain⟨f,f1,f2⟩:=Li I l m j rs i ek;refine SeqAt.notIn_listAt f pl.isList (λw g=>f1 w (by simpa using g)) ⟨.bl (!k),H,I,by rw[show AQ.toArray.any f=AQ.any f by simp,f2];rfl,q _ H (AV.refl H) trivial (by simp only[aW,AW])⟩
  ·obtain⟨AQ,i,pl,o⟩:=I.tuple sq;obtain⟨f,f1,f2⟩:=Li I l m j rs i ek;refine SeqAt.notIn_tupleAt f pl (λw g=>f1 w (by simpa using g)) ⟨.bl (!k),H,I,by rw[show AQ.toArray.any f=AQ.any f by simp,f2];rfl,q _ H (AV.refl H) trivial (by simp only[aW,AW])⟩
 ·cases e
section
variable{st:Y AB}
def Zz(i:Nat)(ρ:Ev):S Ev:=match ρ[i]? with
 |some (Z (.o ds))=>Z (ρ.set i (Z (.z (.lst ds))))
 |_=>O
def D4(i:Nat)(g:Ev->S Ap):Ev->S Ap:=λρ=>(Zz i ρ).bind g
theorem SG(h:TF X st g):TF X st (D4 i g):=by
 intro AN s σ H D I q;obtain⟨H0,ρ,r,E,e,f⟩:=q;obtain⟨l,e1,e2⟩:=AT e;unfold Zz at e1;split at e1
 ·rename_i ds c;cases e1;obtain⟨v,j,a,vs,rfl,b,rs⟩:=E.val i _ c;obtain⟨o,d⟩:=Eb I b;have kp:Kp H (B6 H a (.sS o (.lst vs))):=.lst b;refine h AN s σ _ D d ⟨H0,_,r,E.afm c Y3 j kp ?_,e2,f⟩;simp only[aW,AW];exact⟨a,vs,rfl,.inl ⟨o,bJ⟩,rs.kp kp⟩
 ·cases e1
theorem R6(h:Ra X st g):Ra X st (D4 i g):=⟨SG h.run⟩
end
open AutoSeq1 (wpAny_loadPart')
open SeqAt
section
variable{o:Expr}{fx:Ev->S Bx}
end
section
variable{t:Ev->S Bool}
def WM(t:Ev->S Bool)(g:Ev->S Ap):Nat->Ev->S Ap
 |0,_=>O
 |n+1,ρ=>(t ρ).bind λb=>if b=true then(g ρ).bind λr=>match r with
  |.nx ρ'=>WM t g n ρ'
  |.ct ρ'=>WM t g n ρ'
  |.bk ρ'=>Z (.nx ρ')
  |.rt b=>Z (.rt b)
  else Z (.nx ρ)
theorem ZC(n:Nat)(hp:PassesOwn (A8 X.prog X.w) X.A X.env X.xe)(l:PB X c t)(hb:TF X body g):Ha X (.While c body [] pos) (WM t g n):=
 T5 (XD hp l hb) λD σ H q=>by
  obtain⟨H0,ρ,r,E,e,f⟩:=q;refine⟨λm σ H=>∃H0 ρ r,bR X.K H0 H σ ρ/\WM t g m ρ=Z r/\Q9 X.K H0 D r,⟨n,H0,ρ,r,E,e,f⟩,?_⟩;rintro m σ H ⟨H0,ρ,r,E,e,f⟩;cases m with
  |zero=>cases e
  |succ m=>
   obtain⟨b,eb,e⟩:=AT e;refine⟨H0,ρ,b,E,eb,λH1 j=>?_⟩;cases b with
   |false=>
    rw[zw (by decide)]at e ⊢;cases e;exact f σ H1 (E.grow j)
   |true=>
    rw[zo rfl]at e ⊢;obtain⟨i,er,e⟩:=AT e;refine⟨λσ' H'=>∃h,h<m+1/\∃H0 ρ r,bR X.K H0 H' σ' ρ/\WM t g h ρ=Z r/\Q9 X.K H0 D r,λσ' H' z=>z,H0,ρ,i,E.grow j,er,?_⟩;cases i with
    |nx d=>exact λσ' H' a=>⟨m,qc m,H0,d,r,a,e,f⟩
    |ct d=>exact λσ' H' a=>⟨m,qc m,H0,d,r,a,e,f⟩
    |bk d=>cases e;exact λσ' H' a=>f σ' H' a
    |rt b=>cases e;exact f
theorem Pr(n:Nat)(hp:PassesOwn (A8 X.prog X.w) X.A X.env X.xe)(a:QB X c t)(hb:Ra X body g):NP X (.While c body [] pos) (WM t g n):=⟨ZC n hp a.run hb.run⟩
end
section
variable{h':A6}
end
section
variable{p:Pos}{fs:Ev->S (Y Bx)}
end
def ZD(j i:Nat)(f:Ev->S Bx):Ev->S Ap:=λρ=>(f ρ).bind λb=>match b with
 |.z (.int k)=>match ρ[i]? with
  |some (Z (.o ds))=>if -(2 ^ 62)<=k/\k<2 ^ 62 then(seqIndex? k ds.length).bind λm=>(ds[m]?).bind λd=>(V1 (ρ.set i (Z (.o (ds.eraseIdx m)))) j (.z d)).bind λa=>Z (.nx a)else O
  |_=>O
 |_=>O
theorem FZ{K:B0}{H:Hp}:∀(m:Nat) {ds:Y Dt} {vs:Y V},aO K H ds vs->aO K H (ds.eraseIdx m) (vs.eraseIdx m)
 |m,[],vs,h=>by
  cases vs with
  |nil=>exact h
  |cons v vs=>have:=h.length;simp at this
 |m,d::ds,vs,h=>by
  cases vs with
  |nil=>have:=h.length;simp at this
  |cons v vs=>
   obtain⟨a,r,e,q,t⟩:∃a r,v::vs=a::r/\AW K H d a/\aO K H ds r:=by
    simpa only[aO]using h
   cases e;cases m with
   |zero=>exact t
   |succ m=>exact aO.cons q (FZ m t)
theorem P3(j i:Nat){p:Pos}(nd:X.N.Nodup)(he:PV X e f)(G:X.N[i]?=Z x:=by rfl)(U:Xj X.env.scope x:=by first|exact JU rfl|exact Q3 (JU Y3)|exact Q3 (Q3 Y3))(J:(x==("__debug__":AJ))=false:=by decide)(I:(x==("__classdict__":AJ))=false:=by decide)(l:A9 [e] X.env=[(false,eval e X.env)]:=by rfl)(W:attributeBase (.Name x p) "pop" X.env (eval (.Name x p) X.env)=eval (.Name x p) X.env:=by rfl)(A:((AD cpos (A9 [e] X.env)).all (λx=>!x.1)&&(backToKw cpos (keywordEach [] X.env)).all (λx=>x.1.isSome)
   && decide ([e].length+([]:Y AC).length+(if([]:Y AC).isEmpty then 0 else 1)<30))=true:=by rfl)(a0:(apos.endLine==cpos.line)=true:=by rfl)(t:X.N[j]?=Z y:=by rfl)(hy:DC X.env.scope y:=by first|exact JU rfl|exact Q3 Y3)(hs:swapsWith (.Call (.Attribute (.Name x p) "pop" apos) [e] [] cpos) (Z (.Name y p2)) pos.line X.env=pure false:=by rfl)(B:X.fn y=true\/X.env.scope.names.lookup y=Z .local:=by first|exact .inl rfl|exact .inr Y3):
  Ha X (.Assign [.Name y p2] (.Call (.Attribute (.Name x p) "pop" apos) [e] [] cpos) pos) (ZD j i f):=
 T5 (XC nd t hy (X5 PySem.F.plainAttrs_list PySem.F.slot_list_pop PySem.F.type_list_pop X8 (uO (i:=i) G U J I) (gn he rB (by rw[l]<;>rfl)) W A a0 (by rw[l]<;>rfl) Y3) hs B) λD σ H h=>by
  obtain⟨H0,ρ,r,E,e,q⟩:=h;obtain⟨b,eb,e⟩:=AT e;split at e
  ·rename_i k;split at e
   ·rename_i ds s;split at e
    ·rename_i hb;obtain⟨m,Q,e⟩:=AT e;obtain⟨d,ed,e⟩:=AT e;obtain⟨a1,C,e⟩:=AT e;cases e;obtain⟨v,e1,a,vs,rfl,o,rs⟩:=E.val i _ s;refine⟨_,e1,.inl ⟨rfl,vs,.inl (.inl o)⟩,H0,ρ,_,E,eb,λu H1 c n1 r1=>?_⟩;have M:=E.grow c;have n:=rs.kp (.of c);obtain⟨w,K,P⟩:=n.get ed;have hu:u=.int k:=by simpa only[aW,AW]using r1
     subst hu;have g:=c _ _ o;refine⟨a,vs,k,m,w,rfl,rfl,g,by omega,by omega,by rw[rs.length];exact Q,K,?_⟩;have L:=M.X6 s e1 g (FZ m n);have kp:Kp H1 (B6 H1 a (.lst (vs.eraseIdx m))):=.lst g;exact q _ _ (T7 L (AV.refl _) (b:=.z d) (by simp only[aW];exact AW.kp kp P) trivial C)
    ·cases e
   ·cases e
  ·cases e
theorem Si(j i:Nat){p:Pos}(nd:X.N.Nodup)(he:QV X e f)(a:X.N[i]?=Z x:=by rfl)(q:Xj X.env.scope x:=by first|exact JU rfl|exact Q3 (JU Y3)|exact Q3 (Q3 Y3))(n:(x==("__debug__":AJ))=false:=by decide)(c:(x==("__classdict__":AJ))=false:=by decide)(m:A9 [e] X.env=[(false,eval e X.env)]:=by rfl)(d:attributeBase (.Name x p) "pop" X.env (eval (.Name x p) X.env)=eval (.Name x p) X.env:=by rfl)(g:((AD cpos (A9 [e] X.env)).all (λx=>!x.1)&&(backToKw cpos (keywordEach [] X.env)).all (λx=>x.1.isSome)
   && decide ([e].length+([]:Y AC).length+(if([]:Y AC).isEmpty then 0 else 1)<30))=true:=by rfl)(h:(apos.endLine==cpos.line)=true:=by rfl)(b:X.N[j]?=Z y:=by rfl)(l:DC X.env.scope y:=by first|exact JU rfl|exact Q3 Y3)(hs:swapsWith (.Call (.Attribute (.Name x p) "pop" apos) [e] [] cpos) (Z (.Name y p2)) pos.line X.env=pure false:=by rfl)(o:X.fn y=true\/X.env.scope.names.lookup y=Z .local:=by first|exact .inl rfl|exact .inr Y3):
  NP X (.Assign [.Name y p2] (.Call (.Attribute (.Name x p) "pop" apos) [e] [] cpos) pos) (ZD j i f):=
 ⟨P3 j i nd he.run a q n c m d g h b l hs o⟩
def JM:Y Dt->S B9
 |[]=>Z []
 |.int k::r=>(JM r).bind λks=>Z (k::ks)
 |_=>O
def DH(ks:Y Int):Bool:=decide (ks.length<=1000)&&ks.all λk=>decide (-1000000000000<=k/\k<=1000000000000)
def WQ:Y Bx->S Bx
 |[b]=>(qz b).bind λds=>(JM ds).bind λks=>if DH ks=true then Z (.z (.int ks.sum))else O
 |_=>O
theorem Ga{K:B0}{H:Hp}:∀{ds:Y Dt} {ks:Y Int} {vs:Y V} {AQ:Y A0},JM ds=Z ks->aO K H ds vs->AX vs AQ->AQ.length=ks.length/\∀i v,AQ[i]?=Z v->∃t,v=Value.int (ks.getD i 0) t
 |[],ks,vs,AQ,e,r,w=>by
  cases e;simp only[aO]at r;subst r;cases w;exact⟨rfl,λi v h=>by simp at h⟩
 |d::ds,ks,vs,AQ,e,r,w=>by
  cases d with
  |int k=>
   simp only[JM]at e;obtain⟨n,e1,e2⟩:=AT e;cases e2;obtain⟨a,b,rfl,q,t⟩:∃a b,vs=a::b/\AW K H (.int k) a/\aO K H ds b:=by
    simpa only[aO]using r
   have l:a=.int k:=by simpa only[AW]using q
   subst l;cases w with
   |cons f m=>
    obtain⟨g,rfl⟩:=f;obtain⟨j,c⟩:=Ga e1 t m;refine⟨by simp[j],λi v h=>?_⟩;cases i with
    |zero=>simp at h;exact⟨g,h.symm⟩
    |succ i=>simpa using c i v (by simpa using h)
  |_=>cases e
theorem Bn(ks:Y Int):∀n,n<=ks.length->preSum (λi=>ks.getD i 0) n=(ks.take n).sum
 |0,_=>by simp[preSum]
 |n+1,h=>by
  have a:n<ks.length:=by omega
  rw[preSum,Bn ks n (by omega),List.take_succ_eq_append_getElem a,List.sum_append];simp[a]
theorem ZF:∀(ks:Y Int),(∀k∈ks,-1000000000000<=k/\k<=1000000000000) → -(1000000000000*(ks.length:Int))<=ks.sum/\ks.sum<=1000000000000*(ks.length:Int)
 |[],_=>by simp
 |k::ks,h=>by
  have h1:=h k (zh ..);have h2:=ZF ks λx hx=>h x (zi _ hx);rw[List.sum_cons,ZN]
  push_cast
  omega
theorem ZG(m:X.calm=true):qF X (.builtin "sum") WQ:=by
 intro AN s σ H xs us Q I r h;obtain⟨bs,c,y,e,q⟩:=h;unfold WQ at e;split at e
 ·obtain⟨ds,K,e⟩:=AT e;obtain⟨ks,ek,e⟩:=AT e;split at e
  ·rename_i d;cases e;obtain⟨v,rfl,L⟩:=BS y;obtain⟨a,vs,rfl,sq,rs⟩:=L.Hj K;obtain⟨u,rfl,B⟩:=BF r;cases B;obtain⟨AQ,w,pl,N⟩:=I.list sq;obtain⟨g,G⟩:=Ga ek rs w;unfold DH at d;rw[ZH,ZY,qo]at d;have f:∀k∈ks,-1000000000000<=k/\k<=1000000000000:=λk z=>QI (d.2 k z);have l:a<s.heap.objs.size:=by obtain⟨o,n,e,_⟩:=pl;exact zz e
   refine call_sum_walk (KL pl.isList ?_);refine⟨s.heap.objs.size,_,_,_,_,_,λi=>ks.getD i 0,rfl,Walks.list (by show X.A.handled=O;exact I.ok.hd m) s.heap.objs.size a (zI l) AQ.toArray,⟨⟨_,zv _ rfl,rfl,rfl⟩,pl.isList.push _⟩,?_,λi v hp=>?_,λj M=>?_,λh' tk t' k=>?_⟩
   ·intro b hb;have p:(s.heap.push { cls:=.type "list_iterator",data:=.fields #[.ref a,.int 0 0] }).objs.size=s.heap.objs.size+1:=qq ..;simp only[QY,jI,or_false]at hb;show b<(s.heap.push { cls:=.type "list_iterator",data:=.fields #[.ref a,.int 0 0] }).objs.size;rw[p];rcases hb with rfl|rfl
    ·exact qc _
    ·exact qV l
   ·exact G i v (by simpa using hp)
   ·have t:j<ks.length:=by
     have:AQ.toArray.size=ks.length:=by simpa using g
     omega
    have b1:=f (ks.getD j 0) (by simp[t]);have b2:=ZF (ks.take (j+1)) λx hx=>f x (List.mem_of_mem_take hx);have P:(ks.take (j+1)).length<=1000:=by rw[ke];omega
    rw[Bn ks (j+1) (by omega)];unfold InLong;dsimp only;refine⟨⟨by omega,by omega⟩,by omega,by omega⟩
   ·have C:AQ.toArray.size=ks.length:=by simpa using g
    rw[C,Bn ks ks.length (zk _),List.take_length];have E:L2.AU X AN σ H { s with heap:=s.heap.push { cls:=.type "list_iterator",data:=.fields #[.ref a,.int 0 0] } }:=I.kept (t':=s.toks) λb o e=>zd _ e;refine⟨.int _,H,?_,⟨_,rfl⟩,q _ H (AV.refl H) trivial (by simp only[aW,AW])⟩;obtain⟨f0,f1,f2,J,D,F⟩:=I.Vx (b:=s.heap.objs.size) (H':=H) (zk _) (I.hok.fresh (zk _));exact E.turned (it:=s.heap.objs.size) (λb o hb e=>k b o (by simpa using hb) e) f0 f1 J D F
  ·cases e
 ·cases e
section
variable{ek ev:Expr}{st:AB}
def HH:Ev->S Ap:=λ_=>O
theorem acV:NP X st HH:=⟨λD AN s σ H I q=>by
 obtain⟨H0,ρ,r,E,e,q⟩:=q;cases e⟩
def UJ(f:Ev->S Bx):Ev->S Ap:=λρ=>(f ρ).bind λ_=>Z (.nx ρ)
theorem TL(he:QV X e f)(hs:swapsWith e O pos.line X.env=pure false:=by rfl):NP X (.Expr e pos) (UJ f):=⟨T5 (Kf he.run hs) λD σ H h=>by
 obtain⟨H0,ρ,r,E,e,q⟩:=h;obtain⟨b,eb,e⟩:=AT e;cases e;exact⟨H0,ρ,b,E,eb,λv H1 a d c=>q _ _ (E.grow a)⟩⟩
def JN:Bx->Bx->S Bx
 |.z (.str x),.z d=>Z (.m [(.inr x,d)] O)
 |_,_=>O
theorem R7{a c:Bx}(h:JN a b=Z c):∃x d,a=.z (.str x)/\b=.z d/\c=.m [(.inr x,d)] O:=by
 unfold JN at h;split at h
 ·cases h;exact⟨_,_,rfl,rfl,rfl⟩
 ·cases h
theorem ZJ(m:QV X ek fk)(s:QV X ev fv):QV X (.Dict [Z ek] [ev] pos) (b2 JN fk fv):=⟨Cp (cy (Ye m.run s.run TH) Y3 Y3 (by simp) (zS Y3)) λσ H Q h=>by
 obtain⟨H0,ρ,c,E,e,q⟩:=h;obtain⟨a,ea,e⟩:=AT e;obtain⟨b,eb,e⟩:=AT e;intro p hp;have f:AV H (B6 H p (.dK [])):=bU hp;refine⟨H0,ρ,a,E.grow f,ea,λv H1 g u n=>⟨H0,ρ,b,(E.grow f).grow g,eb,λw H2 j y t=>?_⟩⟩;obtain⟨x,d,rfl,rfl,rfl⟩:=R7 e;obtain⟨rfl,hx⟩:v=.str x/\x.length<=AA:=by simpa only[aW,AW]using n
 have i:H2 p=Z (.dK []):=j _ _ (g _ _ bJ);have kp:Kp H2 (B6 H2 p (.dK (Ag [] [(Sum.inr x,w)]))):=.dk i;refine⟨i,[(Sum.inr x,w)],rfl,zS rfl,q _ _ ?_ (λa ea=>by cases ea;exact hp) ⟨p,_,rfl,bJ,?_,λb h=>by cases h⟩⟩
 ·intro b o hb;have l:b≠p:=λz=>by rw[z,hp]at hb;cases hb
  rw[aQ l];exact j _ _ (g _ _ (f _ _ hb))
 ·exact fH.cons (p:=(Sum.inr x,d)) (AW.kp kp t) hx fH.nil⟩
def ZK(AO:Y (AY×α))(x:AY):Bool:=AO.any λa=>decide (a.1=x)
def WR(a:Bx):Bx->S Bx
 |.n AO=>(Cs a).bind λx=>Z (.z (.bl (!ZK AO x)))
 |_=>O
theorem fH.aj9{p:A1}{ks:Y (AY×V)}(a:Rd H p (.dK ks))(b:fH K H AO ks)(x:AY):∃o,Yc H p (kV x) o/\o.isSome=ZK AO x:=by
 refine⟨Ae ks x,.inl ⟨ks,x,a,rfl,rfl⟩,?_⟩;unfold ZK Ae;rw[<-b.any,Option.isSome_map,ky,List.find?_isSome,kf]
theorem UL(t:X.A.units+100<cLine):Cq X (AG .NotIn) WR:=by
 intro AN s σ H x y v u Q I i f h;obtain⟨a,b,c,n,d,e,q⟩:=h;unfold WR at e;split at e
 ·rename_i AO;obtain⟨k,ek,e⟩:=AT e;cases e;obtain⟨p,ks,rfl,l,m⟩:=d;obtain⟨rfl,_⟩:=K8 ek n;cases f;obtain⟨o,g,ho⟩:=m.aj9 l k;exact Se (by omega) I g i λs' j=>⟨.bl (!o.isSome),H,j,rfl,q _ H (AV.refl H) trivial (by simp only[aW,AW];rw[ho])⟩
 ·cases e
end
section
variable{st:Expr}{fs:Ev->S Bx}
def WT(a b:Bx):S Bx:=(qz a).bind λds=>match b with
 |.z (.int i)=>if i = -1 then Z (.o ds.reverse)else O
 |_=>O
theorem WW{a c:Bx}(h:WT a b=Z c):∃ds,qz a=Z ds/\b=.z (.int (-1))/\c=.o ds.reverse:=by
 unfold WT at h;obtain⟨ds,d,h'⟩:=AT h;clear h;split at h'
 ·split at h'
  ·rename_i hi;subst hi;injection h' with h';exact⟨ds,d,rfl,h'.symm⟩
  ·cases h'
 ·cases h'
theorem acX(he:QV X e f)(D:QV X st fs)(J:∀v i:A0,subscripted (.Slice O O (Z st) p2) false v i=operate [v,i] (getItem v i):=by intro _ _;with_unfolding_all rfl):QV X (.Subscript e (.Slice O O (Z st) p2) pos) (b2 WT f fs):=by
 refine⟨?_⟩;intro AN s σ H Q I h;obtain⟨H0,ρ,c,E,g,q⟩:=h;obtain⟨a,ea,g⟩:=AT g;obtain⟨b,eb,g⟩:=AT g;refine Subscript_ (iM (he.run AN s σ H (λx H1=>AV H H1/\aW X.K H1 a x) I ⟨H0,ρ,a,E,ea,λv H1 n L j=>⟨n,j⟩⟩) λv n ⟨x,H1,I1,j,sm1,BS⟩=>?_);refine wpAny_Slice ?_;rw[evalPart_none];refine ze ?_;refine ze ?_;rw[evalPart_some];refine iM (D.run AN n σ H1 (λy H2=>AV H1 H2/\aW X.K H2 b y) I1 ⟨H0,ρ,b,E.grow sm1,eb,λv H2 d M t=>⟨d,t⟩⟩) λvk d ⟨y,H2,I2,t,sm2,F1⟩=>?_;obtain⟨ds,G,rfl,rfl⟩:=WW g;have F:y=.int (-1):=by simpa only[aW,AW]using F1
 subst F;obtain⟨tk,rfl⟩:=t;obtain⟨p,vs,rfl,sq,rs⟩:=(BS.same sm2).Hj G;cases j;have l:L2.AU X AN σ H2 { d with heap:=d.heap.push { cls:=.type "slice",data:=.fields #[.none,.none,.int (-1) tk] } }:=I2.kept (t':=d.toks) λb C q=>zd _ q;obtain⟨AQ,r,B,u⟩:=l.list sq;show A7 (A8 X.prog X.w) X.A (subscriptTail e (.Slice O O (Z st) p2) (.ref p) (.ref d.heap.objs.size)) (EP X AN σ Q) X.xe { d with heap:=d.heap.push { cls:=.type "slice",data:=.fields #[.none,.none,.int (-1) tk] } };refine tail_any (ops:=[.ref p,.ref d.heap.objs.size]) B.isList.typeIs list_getitem_lookup (wpAny_getItem_list_slice B.isList (Heap.IsSliceOf.new ..) .none .none (.int _ _) (by decide) ?_ (by rw[zC,<-r.length];exact u)) (J _ _);rw[PySem.W.krv_pick];have m:=l.hok.fresh (zk _);refine⟨.ref _,_,l.laid (t':=d.toks) (o:=.lst vs.reverse) (λb C q=>zd _ q) (zk _) ?_,rfl,q _ _ ((sm1.trans sm2).trans (bU m)) (λa z=>by cases z;exact(sm1.trans sm2).free m) ?_⟩
 ·exact⟨by rw[List.length_reverse];exact u,AQ.reverse,0,r.reverse,zv _ rfl⟩
 ·exact⟨_,_,rfl,bJ,(aO.rev rs).kp (.of (bU m))⟩
end
theorem ad{a b:Nat}(h:a≠b):@Ne A1 a b:=h
section
variable{K:Type} [DecidableEq K] {knd:KeyKind prog w K}
end
section
variable{ea eb:Expr}{p1 pos1 pos2:Pos}
end
theorem xX(xs:AZ)(is:Y Nat)(e:closureFor scope X.env=pure cl:=by with_unfolding_all rfl)(a:scope.kind=.function:=by rfl)(b:scope.names.all (λy=>decide (y.2≠.cell)||(cl.lookup y.1).isNone)=true:=by rfl)(c:scope.names.all (λy=>decide (y.2=.local->scope.names.lookup y.1=Z .local))=true:=by decide +kernel)(sub:C7 X.env.cells cl:=by repeat (first|exact trivial|refine⟨rfl,?_⟩))(has:(relabel scope X.env).names.all (λy=>!(y.2==.cell||y.2==.free)||(cl.lookup y.1).isSome||scope.names.contains (y.1,.cell))=true:=by rfl)(d:Hx X scope cl xs is:=by repeat (first|exact c4|refine ck Y3 (by first|exact .inl rfl|exact .inr Y3) (by first|exact .inl rfl|exact .inr Y3) ⟨_,rfl⟩ ?_)):tB X scope cl xs is:=Pv e a b c sub has d
theorem lK{a:Scope}(h1:a.kind=.function:=by rfl)(h2:a.isCoroutine=false:=by rfl)(e:a.isGenerator=false:=by rfl)(c:N.Nodup:=by decide +kernel)(b:N.take ps.length=ps:=by rfl)(d:∀x∈ps,a.names.lookup x=Z .local\/a.names.lookup x=Z .cell:=by decide +kernel)(f:∀y∈a.names,y.2≠.free:=by decide +kernel):bL N ps a:=⟨h1,h2,e,c,b,d,f⟩
instance:Inhabited Dt:=⟨.non⟩
theorem At(a:α)(f:α->S β):(Z a).bind f=f a:=(Option.bind_some a f).trans (Eq.refl _)
def hold:S Prop->Prop
 |none=>True
 |some p=>p
def aY:S Prop->S Prop->S Prop
 |none,q=>q
 |some p,O=>Z p
 |some p,Z q=>Z (p/\q)
def Gb(c:Prop):S Prop->S Prop
 |none=>O
 |some p=>Z (c->p)
theorem aB{p q:S Prop}(h:hold (aY p q)):hold p/\hold q:=by
 cases p with
 |none=>exact⟨trivial,h⟩
 |some p=>cases q with
  |none=>exact⟨h,trivial⟩
  |some q=>exact h
theorem kJ{c:Prop}{p:S Prop}(h:hold (Gb c p))(a:c):hold p:=by
 cases p with
 |none=>trivial
 |some p=>exact h a
structure R {α β:Type} (f:Ev->Option β) (ρ:Ev) (c:α->β) where
 v:α
 D:Option Prop
 ok:hold D->f ρ=some (c v)
abbrev zE(e:α->Dt):α->Bx:=λa=>.z (e a)
abbrev oE(e:α->Dt):Y α->Bx:=λxs=>.o (xs.map e)
abbrev lE(e:α->Dt):Y α->Bx:=λxs=>.l (xs.map e)
abbrev tE:Bool->Bool:=λb=>b
abbrev iE(e:α->Dt):Y α->Y Dt:=λxs=>xs.map e
abbrev eI:Int->Dt:=Dt.int
abbrev eB:Bool->Dt:=Dt.bl
abbrev eS:AJ->Dt:=Dt.str
abbrev eD:Dt->Dt:=λd=>d
abbrev eN:Unit->Dt:=λ_=>.non
abbrev eL(e:α->Dt):Y α->Dt:=λxs=>.lst (xs.map e)
abbrev eT(e:α->Dt):Y α->Dt:=λxs=>.tup (xs.map e)
abbrev eO(e:α->Dt):S α->Dt:=λo=>match o with|none=>.non|some a=>e a
abbrev Mc(a:α->Dt):α->Dt:=λx=>.tup [a x]
abbrev Xq(a:α->Dt)(b:β->Dt):α×β->Dt:=λx=>.tup [a x.1,b x.2]
abbrev D8(a:α->Dt)(b:β->Dt)(c:γ->Dt):α×β×γ->Dt:=λx=>.tup [a x.1,b x.2.1,c x.2.2]
abbrev HN(a:α->Dt)(b:β->Dt)(c:γ->Dt)(d:δ->Dt):α×β×γ×δ->Dt:=λx=>.tup [a x.1,b x.2.1,c x.2.2.1,d x.2.2.2]
structure RL {α:Type} (f:Ev->Option Bx) (ρ:Ev) (e:α->Dt) where
 v:List α
 D:Option Prop
 b:Bx
 lk:qz b=some (v.map e)
 ok:hold D->f ρ=some b
section
variable{fs:Ev->S (Y Bx)}{e:α->Dt}{e':β->Dt}
def nO(a:R f ρ (oE e)):RL f ρ e:=⟨a.v,a.D,_,rfl,a.ok⟩
def lM(a:R f ρ (lE e)):RL f ρ e:=⟨a.v,a.D,_,rfl,a.ok⟩
def Cw(a:R f ρ (zE (eL e))):RL f ρ e:=⟨a.v,a.D,_,rfl,a.ok⟩
def Lp(b:Bx)(ds:Y Dt):Prop:=b=.z (.lst ds)\/b=.l ds
theorem Lp.Hj(h:Lp b ds):qz b=Z ds:=by rcases h with rfl|rfl<;>rfl
theorem Lp.get{b:Bx}{ds:Y Dt}{i:Nat}(h:Lp b ds)(hi:ρ[i]?=Z (Z b)):xH ρ i=Z b:=by
 rcases h with rfl|rfl<;>(unfold xH;rw[hi])
theorem BK(h:qz b=Z ds):Lp (P1.lend b) ds:=by
 cases b with
 |z d=>cases d<;>cases h;exact .inl rfl
 |l d=>cases h;exact .inr rfl
 |o d=>cases h;exact .inr rfl
 |n d=>cases h
 |m d _=>cases h
def ao(i:Nat)(c:α->Bx)(a:α)(h:xH ρ i=Z (c a)):R (gv i) ρ c:=⟨a,O,λ_=>h⟩
def jZ(i:Nat)(e:α->Dt)(a:Y α)(h:Lp b (a.map e))(hi:ρ[i]?=Z (Z b)):RL (gv i) ρ e:=⟨a,O,b,h.Hj,λ_=>h.get hi⟩
def uy(d:Dt)(e:α->Dt)(a:α)(h:d=e a):R (cB d) ρ (zE e):=⟨a,O,λ_=>by rw[h];rfl⟩
def UW(a:R f ρ (zE e)):R f ρ (zE eD):=⟨e a.v,a.D,a.ok⟩
def Lj(a:R f ρ (zE e)):R f ρ (zE (eO e)):=⟨Z a.v,a.D,a.ok⟩
def R8:R (cB .non) ρ (zE (eO e)):=⟨O,O,λ_=>Y3⟩
def Ge[Inhabited α](a:R f ρ (zE (eO e))):R f ρ (zE e):=⟨a.v.getD default,aY a.D (Z (a.v.isSome=true)),λh=>by
 obtain⟨h1,h2⟩:=aB h;rw[a.ok h1];have h2:a.v.isSome=true:=h2;cases b:a.v with
 |none=>rw[b]at h2;cases h2
 |some x=>rfl⟩
def HE(a:R f ρ (oE e)):R (b1 Aa f) ρ (zE (eL e)):=⟨a.v,a.D,λh=>by simp only[b1,a.ok h,At,Aa]⟩
def qe(a:R f ρ (zE e)):R (b1 Aa f) ρ (zE e):=⟨a.v,a.D,λh=>by simp only[b1,a.ok h,At,Aa]⟩
def nP(a:R fa ρ (zE eI))(b:R fb ρ (zE eI)):R (b2 jf fa fb) ρ (zE eI):=⟨a.v+b.v,aY a.D b.D,λh=>by
 obtain⟨h1,h2⟩:=aB h;simp only[b2,a.ok h1,b.ok h2,At,jf]⟩
def U0(a:R fa ρ (zE eI))(b:R fb ρ (zE eI)):R (b2 C8 fa fb) ρ (zE eI):=⟨a.v-b.v,aY a.D b.D,λh=>by
 obtain⟨h1,h2⟩:=aB h;simp only[b2,a.ok h1,b.ok h2,At,i2]⟩
def FH(a b:Int):Prop:=(-18446744073709551616<a/\a<18446744073709551616)\/(-18446744073709551616<b/\b<18446744073709551616)
def I0(a:R fa ρ (zE eI))(b:R fb ρ (zE eI)):R (b2 yR fa fb) ρ (zE eI):=⟨a.v*b.v,aY (aY a.D b.D) (Z (FH a.v b.v)),λh=>by
 obtain⟨h,c⟩:=aB h;obtain⟨h1,h2⟩:=aB h;simp only[b2,a.ok h1,b.ok h2,At];exact zo c⟩
def R9(n:Int)(a : -18446744073709551616<n/\n<18446744073709551616)(b:R fb ρ (zE eI)):R (b2 yR (cB (.int n)) fb) ρ (zE eI):=⟨n*b.v,b.D,λh=>by
 simp only[b2,b.ok h,At,cB];exact zo (.inl a)⟩
def U3(a:R fa ρ (zE eI))(n:Int)(b : -18446744073709551616<n/\n<18446744073709551616):R (b2 yR fa (cB (.int n))) ρ (zE eI):=⟨a.v*n,a.D,λh=>by
 simp only[b2,a.ok h,At,cB];exact zo (.inr b)⟩
def Ln(a:R fa ρ (zE eI))(n:Int)(b:0<n/\n<1073741824):R (b2 Od fa (cB (.int n))) ρ (zE eI):=⟨a.v / n,a.D,λh=>by
 simp only[b2,a.ok h,At,i2,cB,zo b]⟩
def Pu(a:R fa ρ (zE eI))(b:R fb ρ (zE eI)):R (b2 j9 fa fb) ρ (zE eI):=⟨a.v%b.v,aY (aY a.D b.D) (Z (0<b.v)),λh=>by
 obtain⟨h,c⟩:=aB h;obtain⟨h1,h2⟩:=aB h;have c:0<b.v:=c;simp only[b2,a.ok h1,b.ok h2,At,i2,zo c]⟩
def fX(a:R fa ρ (zE eI))(n:Int)(b:0<n):R (b2 j9 fa (cB (.int n))) ρ (zE eI):=⟨a.v%n,a.D,λh=>by
 simp only[b2,a.ok h,At,i2,cB,zo b]⟩
def VI(a b:Int)(n:Nat)(h:0<=b/\b<=1000/\a.natAbs<18446744073709551616)(hb:b.toNat=n):R (b2 HG (cB (.int a)) (cB (.int b))) ρ (zE eI):=⟨a ^ n,O,λ_=>by
 simp only[b2,At,cB];show((if 0<=b/\b<=1000/\a.natAbs<2 ^ 64 then Z (Dt.int (a ^ b.toNat))else O).bind λd=>Z (Bx.z d))=_;rw[zo h,hb];rfl⟩
def Fa(a:R fa ρ (zE eI))(b:R fb ρ (zE eI)):R (b2 EI fa fb) ρ (zE eB):=⟨decide (a.v<=b.v),aY a.D b.D,λh=>by
 obtain⟨h1,h2⟩:=aB h;simp only[b2,a.ok h1,b.ok h2,At,i2]⟩
def Hn(a:R fa ρ (zE eI))(b:R fb ρ (zE eI)):R (b2 FO fa fb) ρ (zE eB):=⟨decide (b.v<a.v),aY a.D b.D,λh=>by
 obtain⟨h1,h2⟩:=aB h;simp only[b2,a.ok h1,b.ok h2,At,i2]⟩
def F6(a:R fa ρ (zE eI))(b:R fb ρ (zE eI)):R (b2 FV fa fb) ρ (zE eB):=⟨decide (b.v<=a.v),aY a.D b.D,λh=>by
 obtain⟨h1,h2⟩:=aB h;simp only[b2,a.ok h1,b.ok h2,At,i2]⟩
def IQ(a:R fa ρ (zE eI))(b:R fb ρ (zE eI)):R (b2 DA fa fb) ρ (zE eB):=⟨decide (a.v<b.v),aY a.D b.D,λh=>by
 obtain⟨h1,h2⟩:=aB h;simp only[b2,a.ok h1,b.ok h2,At,DA]⟩
def wK(x y:AJ):Bool:=decide (x.cps.toList<y.cps.toList)
def T1(a:R fa ρ (zE eS))(b:R fb ρ (zE eS)):R (b2 DA fa fb) ρ (zE eB):=⟨wK a.v b.v,aY a.D b.D,λh=>by
 obtain⟨h1,h2⟩:=aB h;simp only[b2,a.ok h1,b.ok h2,At,DA,wK]⟩
end
class BA {α:Type} [DecidableEq α] (e:α->Dt) (n:outParam Nat):Prop where
 eq:∀a b,yQ (e a) (e b)=some (decide (a=b))
 dp:∀a,vX (e a)<=n
class CO {α:Type} (e:α->Dt):Prop where
 l:∀a,yQ .non (e a)=some false
 r:∀a,yQ (e a) .non=some false
instance:BA eI 1:=⟨λa b=>rfl,λa=>by simp[vX]⟩
instance:BA eB 1:=⟨λa b=>rfl,λa=>by simp[vX]⟩
instance:BA eS 1:=⟨λa b=>rfl,λa=>by simp[vX]⟩
instance:CO eI:=⟨λa=>rfl,λa=>rfl⟩
instance:CO eB:=⟨λa=>rfl,λa=>rfl⟩
instance:CO eS:=⟨λa=>rfl,λa=>rfl⟩
section
variable [DecidableEq α] [DecidableEq β] [DecidableEq γ] [DecidableEq δ] {e:α->Dt}{e':β->Dt}{e'':γ->Dt}{e3:δ->Dt}{m k l:Nat}
theorem Gf[BA e n]:∀xs ys:Y α,lQ (xs.map e) (ys.map e)=Z (decide (xs=ys))
 |[],[]=>by simp[lQ]
 |[],y::ys=>by simp[lQ]
 |x::xs,[]=>by simp[lQ]
 |x::xs,y::ys=>by
  simp only[zt,lQ,BA.eq,Gf xs ys];congr 1;by_cases h:x=y<;>by_cases h':xs=ys<;>simp[h,h']
theorem Gg[BA e n]:∀xs:Y α,uW (xs.map e)<=n
 |[]=>by simp[uW]
 |x::xs=>by
  have:=BA.dp (e:=e) x;have:=Gg xs;simp only[zt,uW];omega
instance [BA e n]:BA (eL e) (n+1):=⟨λa b=>Gf a b,λa=>by simp only[vX];have:=Gg (e:=e) a;omega⟩
instance [BA e n]:BA (eT e) (n+1):=⟨λa b=>Gf a b,λa=>by simp only[vX];have:=Gg (e:=e) a;omega⟩
instance:CO (eL e):=⟨λa=>rfl,λa=>rfl⟩
instance:CO (eT e):=⟨λa=>rfl,λa=>rfl⟩
instance:CO (Mc e):=⟨λa=>rfl,λa=>rfl⟩
instance:CO (Xq e e'):=⟨λa=>rfl,λa=>rfl⟩
instance:CO (D8 e e' e''):=⟨λa=>rfl,λa=>rfl⟩
instance:CO (HN e e' e'' e3):=⟨λa=>rfl,λa=>rfl⟩
instance [BA e n]:BA (Mc e) (n+1):=⟨λa b=>by
 simp only[Di,lQ,BA.eq,k9],λa=>by
 have:=BA.dp (e:=e) a;simp only[vX,uW];omega⟩
instance [BA e n] [BA e' m]:BA (Xq e e') (max n m+1):=⟨λa b=>by
 obtain⟨a,a'⟩:=a;obtain⟨b,b'⟩:=b;simp only[Di,lQ,BA.eq,Prod.mk.injEq,Bool.decide_and,k9],λa=>by
 have:=BA.dp (e:=e) a.1;have:=BA.dp (e:=e') a.2;simp only[vX,uW];omega⟩
instance [BA e n] [BA e' m] [BA e'' k]:BA (D8 e e' e'') (max n (max m k)+1):=⟨λa b=>by
 obtain⟨a,a',a2⟩:=a;obtain⟨b,b',b2⟩:=b;simp only[Di,lQ,BA.eq,Prod.mk.injEq,Bool.decide_and,k9],λa=>by
 have:=BA.dp (e:=e) a.1;have:=BA.dp (e:=e') a.2.1;have:=BA.dp (e:=e'') a.2.2;simp only[vX,uW];omega⟩
instance [BA e n] [BA e' m] [BA e'' k] [BA e3 l]:BA (HN e e' e'' e3) (max n (max m (max k l))+1):=⟨λa b=>by
 obtain⟨a,a',a2,a3⟩:=a;obtain⟨b,b',b2,b3⟩:=b;simp only[Di,lQ,BA.eq,Prod.mk.injEq,Bool.decide_and,k9],λa=>by
 have:=BA.dp (e:=e) a.1;have:=BA.dp (e:=e') a.2.1;have:=BA.dp (e:=e'') a.2.2.1;have:=BA.dp (e:=e3) a.2.2.2;simp only[vX,uW];omega⟩
instance [BA e n] [CO e]:BA (eO e) (n+1):=⟨λa b=>by
 cases a with
 |none=>cases b with
  |none=>exact rfl
  |some b=>exact(CO.l (e:=e) b).trans (by simp)
 |some a=>cases b with
  |none=>exact(CO.r (e:=e) a).trans (by simp)
  |some b=>exact(BA.eq (e:=e) a b).trans (by simp),λa=>by
 cases a with
 |none=>show vX .non<=n+1;simp[vX]
 |some a=>exact Nat.le_succ_of_le (BA.dp (e:=e) a)⟩
end
section
variable{fs:Ev->S (Y Bx)}{e:α->Dt}{e':β->Dt}
def BT[DecidableEq α][BA e n](c:n<=100)(a:R fa ρ (zE e))(b:R fb ρ (zE e)):R (b2 BQ fa fb) ρ (zE eB):=⟨decide (a.v=b.v),aY a.D b.D,λh=>by
 obtain⟨h1,h2⟩:=aB h;have:=BA.dp (e:=e) a.v;simp only[b2,a.ok h1,b.ok h2,At,BQ,jQ,toD,zl,or_self,ZI,BA.eq];rw[zo (by omega)]⟩
def Px[DecidableEq α][BA e n](c:n<=100)(a:R fa ρ (zE e))(b:R fb ρ (zE e)):R (b2 KD fa fb) ρ (zE eB):=⟨!decide (a.v=b.v),aY a.D b.D,λh=>by
 obtain⟨h1,h2⟩:=aB h;have:=BA.dp (e:=e) a.v;simp only[b2,a.ok h1,b.ok h2,At,KD,jQ,toD,zl,or_self,ZI,BA.eq];rw[zo (by omega)]⟩
theorem qI(h:qz b=Z ds):toD b=.lst ds/\jQ b=false:=by
 cases b with
 |z d=>cases d<;>cases h;exact⟨rfl,rfl⟩
 |l d=>cases h;exact⟨rfl,rfl⟩
 |o d=>cases h;exact⟨rfl,rfl⟩
 |n d=>cases h
 |m d _=>cases h
def L5[DecidableEq α][BA e n](c:n+1<=100)(a:RL fa ρ e)(b:RL fb ρ e):R (b2 BQ fa fb) ρ (zE eB):=⟨decide (a.v=b.v),aY a.D b.D,λh=>by
 obtain⟨h1,h2⟩:=aB h;have:=BA.dp (e:=eL e) a.v;simp only[b2,a.ok h1,b.ok h2,At,BQ,(qI a.lk).1,(qI a.lk).2,(qI b.lk).1,(qI b.lk).2,zl,or_self,ZI];have e1:=BA.eq (e:=eL e) a.v b.v;rw[zo (ZE (Nat.min_le_left _ _) (ZE (BA.dp (e:=eL e) a.v) c)),e1,At]⟩
def YR[DecidableEq α][BA e n](c:n+1<=100)(a:RL fa ρ e)(b:RL fb ρ e):R (b2 KD fa fb) ρ (zE eB):=⟨!decide (a.v=b.v),aY a.D b.D,λh=>by
 obtain⟨h1,h2⟩:=aB h;simp only[b2,a.ok h1,b.ok h2,At,KD,(qI a.lk).1,(qI a.lk).2,(qI b.lk).1,(qI b.lk).2,zl,or_self,ZI];have e1:=BA.eq (e:=eL e) a.v b.v;rw[zo (ZE (Nat.min_le_left _ _) (ZE (BA.dp (e:=eL e) a.v) c)),e1,At]⟩
def uM(a b:Dt):Bool:=(yQ a b).getD false
def U4(a b:Dt):Prop:=(yQ a b).isSome=true/\min (vX a) (vX b)<=100
def JQ(a:R fa ρ (zE eD))(b:R fb ρ (zE eD)):R (b2 BQ fa fb) ρ (zE eB):=⟨uM a.v b.v,aY (aY a.D b.D) (Z (U4 a.v b.v)),λh=>by
 obtain⟨h,c⟩:=aB h;obtain⟨h1,h2⟩:=aB h;obtain⟨c,d⟩:U4 a.v b.v:=c;simp only[b2,a.ok h1,b.ok h2,At,BQ,jQ,toD,zl,or_self,ZI,zo d];cases e:yQ a.v b.v with
 |none=>rw[e]at c;cases c
 |some k=>simp only[uM,e,At,Option.getD_some];exact zo d⟩
def MR(a:R fa ρ (zE eD))(b:R fb ρ (zE eD)):R (b2 KD fa fb) ρ (zE eB):=⟨!uM a.v b.v,aY (aY a.D b.D) (Z (U4 a.v b.v)),λh=>by
 obtain⟨h,c⟩:=aB h;obtain⟨h1,h2⟩:=aB h;obtain⟨c,d⟩:U4 a.v b.v:=c;simp only[b2,a.ok h1,b.ok h2,At,KD,jQ,toD,zl,or_self,ZI,zo d];cases e:yQ a.v b.v with
 |none=>rw[e]at c;cases c
 |some k=>simp only[uM,e,At,Option.getD_some];exact zo d⟩
def a8(a:R fa ρ (zE (eO e)))(b:∀x,Eo (.z (e x))=false):R (b2 EW fa (cB .non)) ρ (zE eB):=⟨a.v.isNone,a.D,λh=>by
 simp only[b2,a.ok h,At,cB,EW];cases c:a.v with
 |none=>rfl
 |some x=>simp only[Option.isNone_some,b]⟩
def U5(a:R fa ρ (zE (eO e)))(b:∀x,Eo (.z (e x))=false):R (b2 yV fa (cB .non)) ρ (zE eB):=⟨a.v.isSome,a.D,λh=>by
 simp only[b2,a.ok h,At,cB,yV];cases c:a.v with
 |none=>rfl
 |some x=>simp only[KB,b,kD]⟩
def vH(a:R fa ρ (zE eB))(b:R fb ρ (zE eB)):R (yK fa fb) ρ (zE eB):=⟨a.v&&b.v,aY a.D (Gb (a.v=true) b.D),λh=>by
 obtain⟨h1,h2⟩:=aB h;simp only[yK,a.ok h1,At,DY];cases c:a.v with
 |true=>simp only[qA,KW];exact b.ok (kJ h2 c)
 |false=>simp only[zl,ZI,kR]⟩
def PY(a:R fa ρ (zE eB)):R (FA fa) ρ (zE eB):=⟨!a.v,a.D,λh=>by simp only[FA,a.ok h,At,DY]⟩
def ZL(a:R fa ρ (zE eB)):R (tV fa) ρ tE:=⟨a.v,a.D,λh=>by simp only[tV,a.ok h,At,Yn]⟩
def SH(a:RL fa ρ e):R (tV fa) ρ tE:=⟨!a.v.isEmpty,a.D,λh=>by
 have:Yn a.b=Z (!(a.v.map e).isEmpty):=by
  have:=a.lk;generalize a.v.map e=ds at this
  revert this
  generalize a.b=b;intro this;cases b with
  |z d=>cases d<;>cases this;rfl
  |l d=>cases this;rfl
  |o d=>cases this;rfl
  |n d=>cases this
  |m d _=>cases this
 simp only[tV,a.ok h,At,this,List.isEmpty_map]⟩
def cX{g:Bx->Bx->S Bx}(a:R (b2 g fa fb) ρ (zE eB)):R (qC g fa fb) ρ tE:=⟨a.v,a.D,λh=>by simp only[qC,a.ok h,At,DY]⟩
def Gh(a:R p ρ tE)(b:R q ρ tE):R (Ea p q) ρ tE:=⟨a.v&&b.v,aY a.D (Gb (a.v=true) b.D),λh=>by
 obtain⟨h1,h2⟩:=aB h;simp only[Ea,a.ok h1,At];cases c:a.v with
 |true=>simp only[qA,KW];exact b.ok (kJ h2 c)
 |false=>simp only[zl,ZI,kR]⟩
def Sd(a:R p ρ tE)(b:R q ρ tE):R (Yo p q) ρ tE:=⟨a.v||b.v,aY a.D (Gb (a.v=false) b.D),λh=>by
 obtain⟨h1,h2⟩:=aB h;simp only[Yo,a.ok h1,At];cases c:a.v with
 |true=>simp only[qA,Bool.true_or]
 |false=>simp only[zl,ZI,Bool.false_or];exact b.ok (kJ h2 c)⟩
def U6(a:R p ρ tE):R (Q8 p) ρ tE:=⟨!a.v,a.D,λh=>by simp only[Q8,a.ok h,At]⟩
def LH{g g':Bx->Bx->S Bx}(a:R (b2 g fa fb) ρ (zE eB))(b:R (b2 g' fb fc) ρ (zE eB)):R (EH g g' fa fb fc) ρ (zE eB):=⟨a.v&&b.v,aY a.D (Gb (a.v=true) b.D),λh=>by
 obtain⟨h1,d⟩:=aB h;have e1:=a.ok h1;simp only[b2]at e1;obtain⟨x,ex,e1⟩:=AT e1;obtain⟨y,c,e1⟩:=AT e1;simp only[EH,ex,c,At,e1,DY];cases e:a.v with
 |true=>
  have e2:=b.ok (kJ d e);simp only[b2,c,At]at e2;simp only[qA,KW];exact e2
 |false=>simp only[zl,ZI,kR]⟩
end
section
variable{ε:Type}{fd:Ev->S Bx}{fs:Ev->S (Y Bx)}{e:α->Dt}{e':β->Dt}{e'':γ->Dt}{e3:δ->Dt}
def ZM(e:α->Dt):R (cZ jC aK) ρ (zE (eT e)):=⟨[],O,λ_=>Y3⟩
def Lq(a:R fa ρ (zE e))(b:R fb ρ (zE e')):R (cZ jC (aq fa (aq fb aK))) ρ (zE (Xq e e')):=⟨(a.v,b.v),aY a.D b.D,λh=>by
 obtain⟨h1,h2⟩:=aB h;simp only[cZ,aq,aK,a.ok h1,b.ok h2,At];rfl⟩
def xY(a:R fa ρ (zE e))(b:R fb ρ (zE e'))(c:R fc ρ (zE e'')):R (cZ jC (aq fa (aq fb (aq fc aK)))) ρ (zE (D8 e e' e'')):=⟨(a.v,b.v,c.v),aY a.D (aY b.D c.D),λh=>by
 obtain⟨h1,h⟩:=aB h;obtain⟨h2,d⟩:=aB h;simp only[cZ,aq,aK,a.ok h1,b.ok h2,c.ok d,At];rfl⟩
def Lr(a:R fa ρ (zE e))(b:R fb ρ (zE e'))(c:R fc ρ (zE e''))(d:R fd ρ (zE e3)):R (cZ jC (aq fa (aq fb (aq fc (aq fd aK))))) ρ (zE (HN e e' e'' e3)):=⟨(a.v,b.v,c.v,d.v),aY a.D (aY b.D (aY c.D d.D)),λh=>by
 obtain⟨h1,h⟩:=aB h;obtain⟨h2,h⟩:=aB h;obtain⟨f,g⟩:=aB h;simp only[cZ,aq,aK,a.ok h1,b.ok h2,c.ok f,d.ok g,At];rfl⟩
def fK(e:α->Dt):R aK ρ (λxs:Y α=>xs.map (zE e)):=⟨[],O,λ_=>Y3⟩
def eF(a:R fa ρ (zE e))(t:R fs ρ (λxs:Y α=>xs.map (zE e))):R (aq fa fs) ρ (λxs:Y α=>xs.map (zE e)):=⟨a.v::t.v,aY a.D t.D,λh=>by
 obtain⟨h1,h2⟩:=aB h;simp only[aq,a.ok h1,t.ok h2,At,zt]⟩
theorem zu:∀xs:Y α,Kv (xs.map (zE e))=Z (xs.map e)
 |[]=>rfl
 |x::xs=>by simp only[zt,Kv,zu xs,At]
def kO(t:R fs ρ (λxs:Y α=>xs.map (zE e)))(a:t.v.length<=1000):R (cZ nH fs) ρ (oE e):=⟨t.v,t.D,λh=>by
 simp only[cZ,t.ok h,At,nH,zr,zo a,zu]⟩
def OS(t:R fs ρ (λxs:Y α=>xs.map (zE e)))(a:t.v.length<=1000):R (cZ jC fs) ρ (zE (eT e)):=⟨t.v,t.D,λh=>by
 simp only[cZ,t.ok h,At,jC,zr,zo a,zu]⟩
def ZP(t:R fs ρ (λxs:Y Dt=>xs.map (zE eD)))(a:t.v.length<=1000):R (cZ jC fs) ρ (zE eD):=⟨.tup t.v,t.D,λh=>by
 simp only[cZ,t.ok h,At,jC,zr,zo a,zu,List.map_id_fun',id]⟩
def at'[Inhabited α](xs:Y α)(i:Int):α:=(Hu xs i).getD default
def In(n:Nat)(i:Int):Prop:=-(n:Int)<=i/\i<n
theorem wz{xs:Y α}{i:Int}(h:In xs.length i):∃x,Hu xs i=Z x:=by
 obtain⟨h1,h2⟩:=h;unfold Hu EG;by_cases h0:0<=i
 ·rw[zo h0,zo h2];exact⟨xs[i.toNat]'(by omega),z5 (by omega)⟩
 ·rw[zw h0,zo h1];exact⟨xs[(i+xs.length).toNat]'(by omega),z5 (by omega)⟩
theorem VE{xs:Y α}{i:Int}{x:α}(h:Hu xs i=Z x):Hu (xs.map e) i=Z (e x):=by
 unfold Hu at h ⊢;rw[zr];obtain⟨j,a,h⟩:=AT h;rw[a,At,Zl,h];rfl
theorem ZQ[Inhabited α]{xs:Y α}{i:Int}(h:In xs.length i):Hu (xs.map e) i=Z (e (at' xs i)):=by
 obtain⟨x,hx⟩:=wz h;rw[VE hx];unfold at';rw[hx];rfl
theorem Sf{i:Int}(h:qz b=Z ds):fu b (.z (.int i))=(Hu ds i).bind λd=>Z (.z d):=by
 cases b with
 |z d=>cases d<;>cases h;rfl
 |l d=>cases h;rfl
 |o d=>cases h;rfl
 |n d=>cases h
 |m d _=>cases h
def lV[Inhabited α](a:RL fa ρ e)(b:R fb ρ (zE eI)):R (b2 fu fa fb) ρ (zE e):=⟨at' a.v b.v,aY (aY a.D b.D) (Z (In a.v.length b.v)),λh=>by
 obtain⟨h,c⟩:=aB h;obtain⟨h1,h2⟩:=aB h;simp only[b2,a.ok h1,b.ok h2,At,Sf a.lk,ZQ (show In a.v.length b.v from c)]⟩
def NE[Inhabited α](a:R fa ρ (zE (eT e)))(b:R fb ρ (zE eI)):R (b2 fu fa fb) ρ (zE e):=⟨at' a.v b.v,aY (aY a.D b.D) (Z (In a.v.length b.v)),λh=>by
 obtain⟨h,c⟩:=aB h;obtain⟨h1,h2⟩:=aB h;simp only[b2,a.ok h1,b.ok h2,At,fu,u5,ZQ (show In a.v.length b.v from c)]⟩
def ch(x:AJ)(i:Int):AJ:=⟨#[(Hu x.cps.toList i).getD 0]⟩
def ZR(a:R fa ρ (zE eS))(b:R fb ρ (zE eI)):R (b2 fu fa fb) ρ (zE eS):=⟨ch a.v b.v,aY (aY a.D b.D) (Z (In a.v.length b.v)),λh=>by
 obtain⟨h,c⟩:=aB h;obtain⟨h1,h2⟩:=aB h;obtain⟨x,hx⟩:=wz (xs:=a.v.cps.toList) (i:=b.v) (show In a.v.length b.v from c);simp only[b2,a.ok h1,b.ok h2,At,fu,hx,ch,Option.getD_some]⟩
def jA(d:Dt)(i:Int):Dt:=match fu (.z d) (.z (.int i))with|some (.z y)=>y|_=>.non
def Hq(d:Dt)(i:Int):Prop:=match d with
 |.tup ds=>In ds.length i
 |.lst ds=>In ds.length i
 |.str x=>In x.length i
 |_=>False
def uz(a:R fa ρ (zE eD))(b:R fb ρ (zE eI)):R (b2 fu fa fb) ρ (zE eD):=⟨jA a.v b.v,aY (aY a.D b.D) (Z (Hq a.v b.v)),λh=>by
 obtain⟨h,d⟩:=aB h;obtain⟨h1,h2⟩:=aB h;have d:Hq a.v b.v:=d;simp only[b2,a.ok h1,b.ok h2,At];show fu (.z a.v) (.z (.int b.v))=Z (.z (jA a.v b.v));unfold jA;cases e:a.v with
 |tup ds=>
  rw[e]at d;obtain⟨x,hx⟩:=wz (show In ds.length b.v from d);simp only[fu,u5,At,hx]
 |lst ds=>
  rw[e]at d;obtain⟨x,hx⟩:=wz (show In ds.length b.v from d);simp only[fu,u5,At,hx]
 |str x=>
  rw[e]at d;obtain⟨c,hx⟩:=wz (xs:=x.cps.toList) (show In x.length b.v from d);simp only[fu,At,hx]
 |non=>rw[e]at d;exact absurd d id
 |bl _=>rw[e]at d;exact absurd d id
 |int _=>rw[e]at d;exact absurd d id
 |emp=>rw[e]at d;exact absurd d id⟩
def dY(a:R fa ρ (zE e))(g:α->β)(e':β->Dt)(i:Int)(h:∀x,fu (.z (e x)) (.z (.int i))=Z (.z (e' (g x)))):R (b2 fu fa (cB (.int i))) ρ (zE e'):=⟨g a.v,a.D,λb=>by
 simp only[b2,a.ok b,At,cB,h]⟩
def cut(xs:Y α)(lo hi:S Int):Y α:=(xs.drop (HT.jc xs.length 0 lo)).take (HT.jc xs.length xs.length hi-HT.jc xs.length 0 lo)
theorem WA(xs:Y α)(lo hi:S Int):C3 (xs.map e) lo hi=(cut xs lo hi).map e:=by
 unfold C3 cut;rw[zr,List.map_take,List.map_drop]
abbrev pE:S Int->S Int:=λo=>o
def ZS:R xO ρ pE:=⟨O,O,λ_=>Y3⟩
def ZV(a:R fa ρ (zE eI)):R (Br fa) ρ pE:=⟨Z a.v,a.D,λh=>by simp only[Br,a.ok h,At,HA]⟩
variable{fl fh:Ev->S (S Int)}
theorem Pi(h:qz b=Z ds):ER b lo hi=Z (.o (C3 ds lo hi)):=by
 cases b with
 |z d=>cases d<;>cases h;rfl
 |l d=>cases h;rfl
 |o d=>cases h;rfl
 |n d=>cases h
 |m d _=>cases h
def OI(a:RL fa ρ e)(l:R fl ρ pE)(u:R fh ρ pE):R (Xm fa fl fh) ρ (oE e):=⟨cut a.v l.v u.v,aY a.D (aY l.D u.D),λh=>by
 obtain⟨h1,h⟩:=aB h;obtain⟨h2,b⟩:=aB h;simp only[Xm,a.ok h1,l.ok h2,u.ok b,At,Pi a.lk,WA]⟩
def IY(a:R fa ρ (zE eS))(l:R fl ρ pE)(u:R fh ρ pE):R (Xm fa fl fh) ρ (zE eS):=⟨Txt.slice a.v l.v u.v,aY a.D (aY l.D u.D),λh=>by
 obtain⟨h1,h⟩:=aB h;obtain⟨h2,b⟩:=aB h;simp only[Xm,a.ok h1,l.ok h2,u.ok b,At,ER]⟩
def ZW:Dt->Y Dt
 |.tup ds=>ds
 |.lst ds=>ds
 |_=>[]
def MX(a:R fa ρ (zE eD))(l:R fl ρ pE)(u:R fh ρ pE):R (Xm fa fl fh) ρ (zE eD):=⟨.tup (cut (ZW a.v) l.v u.v),aY (aY a.D (aY l.D u.D)) (Z (B1 a.v=true)),λh=>by
 obtain⟨h,b⟩:=aB h;obtain⟨h1,h⟩:=aB h;obtain⟨h2,c⟩:=aB h;have b:B1 a.v=true:=b;simp only[Xm,a.ok h1,l.ok h2,u.ok c,At];cases d:a.v<;>rw[d]at b<;>first|(cases b;done)|rfl⟩
def Ls(n:Nat):Prop:=n<=1000000
def ZX(a:R fa ρ (zE eS))(b:R fb ρ (zE eS)):R (b2 jf fa fb) ρ (zE eS):=⟨a.v++b.v,aY (aY a.D b.D) (Z (Ls (a.v.length+b.v.length))),λh=>by
 obtain⟨h,c⟩:=aB h;obtain⟨h1,h2⟩:=aB h;simp only[b2,a.ok h1,b.ok h2,At,jf,zo (show a.v.length+b.v.length<=V8 from c)]⟩
theorem Z0{e:Bx}{f:Y Dt}(h:qz b=Z ds)(h':qz e=Z f)(c:ds.length+f.length<=V8):jf b e=Z (.o (ds++f)):=by
 cases b with
 |z d=>
  cases d<;>cases h;cases e with
  |z a=>cases a<;>cases h';exact zo c
  |l a=>cases h';exact zo c
  |o a=>cases h';exact zo c
  |n a=>cases h'
  |m a=>cases h'
 |l d=>
  cases h;cases e with
  |z a=>cases a<;>cases h';exact zo c
  |l a=>cases h';exact zo c
  |o a=>cases h';exact zo c
  |n a=>cases h'
  |m a=>cases h'
 |o d=>
  cases h;cases e with
  |z a=>cases a<;>cases h';exact zo c
  |l a=>cases h';exact zo c
  |o a=>cases h';exact zo c
  |n a=>cases h'
  |m a=>cases h'
 |n d=>cases h
 |m d _=>cases h
def Sg(a:RL fa ρ e)(b:RL fb ρ e):R (b2 jf fa fb) ρ (oE e):=⟨a.v++b.v,aY (aY a.D b.D) (Z (Ls (a.v.length+b.v.length))),λh=>by
 obtain⟨h,c⟩:=aB h;obtain⟨h1,h2⟩:=aB h;simp only[b2,a.ok h1,b.ok h2,At];rw[Z0 a.lk b.lk (by rw[zr,zr];exact c)];simp only[oE,qh]⟩
def c5(a:R fa ρ (zE eS))(b:R fb ρ (zE eI)):R (b2 yR fa fb) ρ (zE eS):=⟨Txt.mul a.v b.v,aY (aY a.D b.D) (Z (b.v<=1000 ∧ -1000<=b.v/\a.v.length<=1000)),λh=>by
 obtain⟨h,c⟩:=aB h;obtain⟨h1,h2⟩:=aB h;simp only[b2,a.ok h1,b.ok h2,At];exact zo c⟩
theorem Z1(h:qz b=Z ds):Aq [b]=Z (.z (.int ds.length)):=by
 cases b with
 |z d=>cases d<;>cases h;rfl
 |l d=>cases h;rfl
 |o d=>cases h;rfl
 |n d=>cases h
 |m d _=>cases h
theorem Z2(h:qz b=Z ds):u5 b=Z ds:=by
 cases b with
 |z d=>cases d<;>cases h;rfl
 |l d=>cases h;rfl
 |o d=>cases h;rfl
 |n d=>cases h
 |m d _=>cases h
def DM(a:RL fa ρ e):R (cZ Aq (aq fa aK)) ρ (zE eI):=⟨(a.v.length:Int),a.D,λh=>by
 simp only[cZ,aq,aK,a.ok h,At,Z1 a.lk,zr]⟩
def XI(a:R fa ρ (zE eS)):R (cZ Aq (aq fa aK)) ρ (zE eI):=⟨(a.v.length:Int),a.D,λh=>by
 simp only[cZ,aq,aK,a.ok h,At,Aq]⟩
def Lx:Dt->Int
 |.tup ds=>ds.length
 |.lst ds=>ds.length
 |.str x=>x.length
 |_=>0
def Cy:Dt->Bool
 |.tup _=>true
 |.lst _=>true
 |.str _=>true
 |_=>false
def Sh(a:R fa ρ (zE eD)):R (cZ Aq (aq fa aK)) ρ (zE eI):=⟨Lx a.v,aY a.D (Z (Cy a.v=true)),λh=>by
 obtain⟨h,b⟩:=aB h;have b:Cy a.v=true:=b;simp only[cZ,aq,aK,a.ok h,At];cases c:a.v<;>rw[c]at b<;>first|(cases b;done)|rfl⟩
def tH(a:RL fa ρ e):R (cZ kE (aq fa aK)) ρ (zE (eT e)):=⟨a.v,a.D,λh=>by
 simp only[cZ,aq,aK,a.ok h,At,kE,Z2 a.lk]⟩
def XN(a:R fa ρ (zE eI)):R (cZ YG (aq fa aK)) ρ (zE eI):=⟨if a.v<0 then -a.v else a.v,a.D,λh=>by
 simp only[cZ,aq,aK,a.ok h,At,YG]⟩
def Z4(a:R fa ρ (zE eB)):R (cZ Wb (aq fa aK)) ρ (zE eI):=⟨if a.v=true then 1 else 0,a.D,λh=>by
 simp only[cZ,aq,aK,a.ok h,At,Wb]⟩
theorem JR:∀l:Y Bool,Jv (l.map eB)=Z l
 |[]=>rfl
 |a::l=>by simp only[zt,Jv,JR l,At]
def LW(a:RL fa ρ eB):R (cZ CL (aq fa aK)) ρ (zE eB):=⟨a.v.all id,a.D,λh=>by
 simp only[cZ,aq,aK,a.ok h,At,CL,a.lk,JR]⟩
def Gi(a:R fa ρ (zE eI))(b:R fb ρ (zE eI)):R (cZ Fb (aq fa (aq fb aK))) ρ (zE eI):=⟨if b.v>a.v then b.v else a.v,aY a.D b.D,λh=>by
 obtain⟨h1,h2⟩:=aB h;simp only[cZ,aq,aK,a.ok h1,b.ok h2,At,Fb]⟩
def Z5(a:R fa ρ (zE eI))(b:R fb ρ (zE eI)):R (cZ Rq (aq fa (aq fb aK))) ρ (zE eI):=⟨if b.v<a.v then b.v else a.v,aY a.D b.D,λh=>by
 obtain⟨h1,h2⟩:=aB h;simp only[cZ,aq,aK,a.ok h1,b.ok h2,At,Rq]⟩
def Py(P:Dt->Bool)(a:R fa ρ (zE e)):R (Et P fa) ρ (zE eB):=⟨P (e a.v),a.D,λh=>by
 simp only[Et,b1,a.ok h,At,jQ,toD,zl,ZI]⟩
theorem By:∀l:AZ,Ew (l.map eS)=Z l
 |[]=>rfl
 |a::l=>by simp only[zt,Ew,By l,At]
def OU(s:AJ)(a:RL fa ρ eS):R (b1 (Om s) fa) ρ (zE eS):=⟨Txt.join s a.v,aY a.D (Z ((a.v.map (·.length)).sum+a.v.length*s.length<=100000)),λh=>by
 obtain⟨h,b⟩:=aB h;simp only[b1,a.ok h,At,Om,a.lk,By];exact zo b⟩
def U'(a:RL fa ρ eS):R (cZ Jw (aq fa aK)) ρ (oE eS):=⟨wU a.v,aY a.D (Z (a.v.length<64)),λh=>by
 obtain⟨h,b⟩:=aB h;simp only[cZ,aq,aK,a.ok h,At,Jw,a.lk,By];exact zo b⟩
def Sq:Dt->Int
 |.int i=>i
 |_=>0
def Ly:Dt->AJ
 |.str x=>x
 |_=>⟨#[]⟩
def oW(a:R f ρ (zE eD))(g:Dt->α)(e:α->Dt):R f ρ (zE e):=⟨g a.v,aY a.D (Z (a.v=e (g a.v))),λb=>by
 obtain⟨h1,h2⟩:=aB b;have h2:a.v=e (g a.v):=h2;rw[a.ok h1];show Z (Bx.z a.v)=Z (Bx.z (e (g a.v)));rw[<-h2]⟩
class EC {α:Type} (e:α->Dt):Prop where
 f:∀a,yS (e a)=true
instance:EC eI:=⟨λ_=>rfl⟩
instance:EC eB:=⟨λ_=>rfl⟩
instance:EC eS:=⟨λ_=>rfl⟩
def XB(a:R fa ρ (zE eS))(b:R fb ρ (zE eS)):R (b2 Fs fa fb) ρ (zE eB):=⟨Js a.v b.v,aY a.D b.D,λh=>by
 obtain⟨h1,h2⟩:=aB h;simp only[b2,a.ok h1,b.ok h2,At,Fs,G0]⟩
end
structure AR {γ:Type} (cA:γ->List Bx->Prop) (fs:Ev->Option (List Bx)) (ρ:Ev) where
 v:γ
 D:Option Prop
 bs:List Bx
 h:cA v bs
 ok:hold D->fs ρ=some bs
section
variable{ε σ:Type}{fd:Ev->S Bx}{fs:Ev->S (Y Bx)}{e:α->Dt}{e':β->Dt}{e'':γ->Dt}{e3:δ->Dt}
def aN:Unit->Y Bx->Prop:=λ_ bs=>bs=[]
def aZ(e:α->Dt)(t:γ->Y Bx->Prop):α×γ->Y Bx->Prop:=λx bs=>∃r,bs=.z (e x.1)::r/\t x.2 r
def aL(e:α->Dt)(t:γ->Y Bx->Prop):Y α×γ->Y Bx->Prop:=λx bs=>∃b r,bs=b::r/\qz b=Z (x.1.map e)/\t x.2 r
def bG:AR aN aK ρ:=⟨(),O,[],rfl,λ_=>Y3⟩
def cj{t:γ->Y Bx->Prop}(a:R fa ρ (zE e))(r:AR t fs ρ):AR (aZ e t) (aq fa fs) ρ:=⟨(a.v,r.v),aY a.D r.D,_,⟨_,rfl,r.h⟩,λh=>by
 obtain⟨h1,h2⟩:=aB h;simp only[aq,a.ok h1,r.ok h2,At]⟩
def xZ{t:γ->Y Bx->Prop}(a:RL fa ρ e)(r:AR t fs ρ):AR (aL e t) (aq fa fs) ρ:=⟨(a.v,r.v),aY a.D r.D,_,⟨_,_,rfl,a.lk,r.h⟩,λh=>by
 obtain⟨h1,h2⟩:=aB h;simp only[aq,a.ok h1,r.ok h2,At]⟩
def An{d:γ->Y Bx->Prop}{F:Y Bx->Option Bx}{c:α->Bx}{T:γ->α}{b:γ->Option Prop}(S:∀v bs,d v bs->bs.length=n/\(hold (b v)->F (bs.map lend)=Z (c (T v))))(a:AR d fs ρ):R (bY n F fs) ρ c:=⟨T a.v,aY a.D (b a.v),λh=>by
 obtain⟨h1,h2⟩:=aB h;obtain⟨e,f⟩:=S a.v a.bs a.h;simp only[bY,a.ok h1,At,zo e,f h2]⟩
theorem OF{bs:Y Bx}{c:α->Bx}(x:R g (bs.map Z++List.replicate (n-bs.length) O) (λr=>Ap.rt (c r)))(h:hold x.D):dX n g bs=Z (c x.v):=by
 unfold dX;rw[x.ok h];rfl
def MU(xs:Y α)(P:α->S Prop):S Prop:=Z (∀x∈xs,hold (P x))
theorem Pz{fs:Ev->S (Y Dt)}{b:Ev}{g:α->Y Dt}{π:α->Bool}:∀xs:Y α,(∀x∈xs,∃a,gt (e x) b=Z a/\p a=Z (π x)/\(π x=true->fs a=Z (g x)))->Cr gt p fs b (xs.map e)=Z ((xs.filter π).flatMap g)
 |[],_=>rfl
 |x::xs,h=>by
  obtain⟨a,h1,h2,f⟩:=h x (zh ..);have c:=Pz (g:=g) (π:=π) xs λy d=>h y (zi _ d);cases hp:π x with
  |true=>simp only[zt,Cr,h1,At,h2,hp,qA,f hp,c,kF,List.flatMap_cons]
  |false=>simp only[zt,Cr,h1,At,h2,hp,c,kF,zl,ZI]
theorem PJ{g:α->β}:∀xs:Y α,xs.flatMap (λx=>[e' (g x)])=(xs.map g).map e'
 |[]=>rfl
 |x::xs=>by rw[List.flatMap_cons,PJ xs];rfl
theorem Gj{b:Ev}{g:α->β}{π:α->Bool}(xs:Y α)(h:∀x∈xs,∃a,gt (e x) b=Z a/\p a=Z (π x)/\(π x=true->fe a=Z (.z (e' (g x))))):Bq gt p fe b (xs.map e)=Z (((xs.filter π).map g).map e'):=by
 rw[<-PJ];exact Pz xs λx hx=>let ⟨a,h1,h2,h3⟩:=h x hx;⟨a,h1,h2,λhp=>by rw[h3 hp];rfl⟩
theorem C6{b:Ev}{g:α->β}(xs:Y α)(h:∀x∈xs,∃a,gt (e x) b=Z a/\fe a=Z (.z (e' (g x)))):Bq gt xP fe b (xs.map e)=Z ((xs.map g).map e'):=
 (Gj (π:=λ_=>true) xs λx hx=>let ⟨a,h1,h2⟩:=h x hx;⟨a,h1,rfl,λ_=>h2⟩).trans (by rw[List.filter_eq_self.mpr λ_ _=>Y3])
def Ss(it:R fi ρ (iE e))(c:α->Ev)(d:∀x,gt (e x) (jP is ρ++List.replicate n O)=Z (c x))(b:∀x,R fe (c x) (zE e')):R (gk fi gt xP fe is n) ρ (oE e'):=⟨it.v.map λx=>(b x).v,aY (aY it.D (Z (it.v.length<=100000))) (MU it.v λx=>(b x).D),λh=>by
 obtain⟨h,a⟩:=aB h;obtain⟨h1,h2⟩:=aB h;have a:∀x∈it.v,hold (b x).D:=a;simp only[gk,it.ok h1,At,zr,zo (show it.v.length<=100000 from h2),C6 it.v λx hx=>⟨c x,d x,(b x).ok (a x hx)⟩]⟩
def tK(it:R fi ρ (iE e))(a:α->Ev)(c:∀x,gt (e x) (jP is ρ++List.replicate n O)=Z (a x))(b:∀x,R fe (a x) (zE e'))(hb:∀x,(b x).D=O):R (gk fi gt xP fe is n) ρ (oE e'):=⟨it.v.map λx=>(b x).v,aY it.D (Z (it.v.length<=100000)),λh=>by
 obtain⟨h1,h2⟩:=aB h;simp only[gk,it.ok h1,At,zr,zo (show it.v.length<=100000 from h2),C6 it.v λx hx=>⟨a x,c x,(b x).ok (by rw[hb x];trivial)⟩]⟩
def Ds(it:R fi ρ (iE e))(c:α->Ev)(d:∀x,gt (e x) (jP is ρ++List.replicate n O)=Z (c x))(t:∀x,R p (c x) tE)(b:∀x,R fe (c x) (zE e')):R (gk fi gt p fe is n) ρ (oE e'):=⟨(it.v.filter λx=>(t x).v).map λx=>(b x).v,aY (aY it.D (Z (it.v.length<=100000))) (MU it.v λx=>aY (t x).D (Gb ((t x).v=true) (b x).D)),λh=>by
 obtain⟨h,a⟩:=aB h;obtain⟨h1,h2⟩:=aB h;have a:∀x∈it.v,hold (aY (t x).D (Gb ((t x).v=true) (b x).D)):=a;simp only[gk,it.ok h1,At,zr,zo (show it.v.length<=100000 from h2),Gj it.v λx hx=>⟨c x,d x,(t x).ok (aB (a x hx)).1,λf=>(b x).ok (kJ (aB (a x hx)).2 f)⟩]⟩
def Z6(it:R fi ρ (iE e))(a:α->Ev)(c:∀x,gt (e x) (jP is ρ++List.replicate n O)=Z (a x))(t:∀x,R p (a x) tE)(b:∀x,R fe (a x) (zE e'))(d:∀x,(t x).D=O)(hb:∀x,(b x).D=O):R (gk fi gt p fe is n) ρ (oE e'):=⟨(it.v.filter λx=>(t x).v).map λx=>(b x).v,aY it.D (Z (it.v.length<=100000)),λh=>by
 obtain⟨h1,h2⟩:=aB h;simp only[gk,it.ok h1,At,zr,zo (show it.v.length<=100000 from h2),Gj it.v λx hx=>⟨a x,c x,(t x).ok (by rw[d x];trivial),λ_=>(b x).ok (by rw[hb x];trivial)⟩]⟩
def Sv(a:RL fa ρ e):R (K3 fa) ρ (iE e):=⟨a.v,a.D,λh=>by
 have:Yw a.b=Z (a.v.map e):=by
  have:=a.lk
  revert this
  generalize a.b=b;generalize a.v.map e=ds;intro this;cases b with
  |z d=>cases d<;>cases this;rfl
  |l d=>cases this;rfl
  |o d=>cases this;rfl
  |n d=>cases this
  |m d _=>cases this
 simp only[K3,a.ok h,At,this]⟩
def Z7(a:R fa ρ (zE (eT e))):R (K3 fa) ρ (iE e):=⟨a.v,a.D,λh=>by simp only[K3,a.ok h,At,Yw]⟩
def CD(x:AJ):AZ:=x.cps.toList.map λc=>⟨#[c]⟩
theorem Z8(x:AJ):BI x=(CD x).map eS:=by
 unfold BI CD;rw[QE];rfl
def QK:Dt->Y Dt
 |.tup ds=>ds
 |.lst ds=>ds
 |.str x=>BI x
 |_=>[]
def ON(a:R fa ρ (zE eD)):R (K3 fa) ρ (iE eD):=⟨QK a.v,aY a.D (Z (Cy a.v=true)),λh=>by
 obtain⟨h,b⟩:=aB h;have b:Cy a.v=true:=b;simp only[K3,a.ok h,At];cases c:a.v<;>rw[c]at b<;>first|(cases b;done)|(simp only[Yw,QK,iE,eD,List.map_id_fun',id])⟩
def MT(a:R fa ρ (oE e)):R (Cc fa) ρ (iE e):=⟨a.v,a.D,λh=>by simp only[Cc,a.ok h,At,V2]⟩
def VX(a:R fa ρ (zE (eL e))):R (Cc fa) ρ (iE e):=⟨a.v,a.D,λh=>by simp only[Cc,a.ok h,At,V2]⟩
def rng(i:Int)(n:Nat):Y Int:=(List.range n).map λk:Nat=>i+(k:Int)
theorem WC(i:Int)(n:Nat):NT i n=(rng i n).map eI:=by
 unfold NT rng;rw[QE];rfl
def Rg(j:Int):Prop:=-4611686018427387904<=j/\j<4611686018427387904
def JT(a:R fa ρ (zE eI)):R (Xn (aq fa aK)) ρ (iE eI):=⟨rng 0 a.v.toNat,aY a.D (Z (Rg a.v)),λh=>by
 obtain⟨h,b⟩:=aB h;simp only[Xn,aq,aK,a.ok h,At];show(if -(2 ^ 62)<=a.v/\a.v<2 ^ 62 then Z (NT 0 a.v.toNat)else O)=_;exact(zo b).trans (by rw[WC])⟩
end
section
variable{ε σ τ:Type}{fd:Ev->S Bx}{fs:Ev->S (Y Bx)}{e:α->Dt}{e':β->Dt}{g1 g2 k:Ev->S Ap}{cO:γ->Ap}
theorem jT{ρ':Ev}(h:g1 ρ=Z (.nx ρ')):aH g1 k ρ=k ρ':=by
 unfold aH;rw[h];rfl
def bh(x:R (aH g (aH g1 k)) ρ cO):R (aH (aH g g1) k) ρ cO:=⟨x.v,x.D,λh=>by
 rw[<-x.ok h];unfold aH;cases g ρ with
 |none=>rfl
 |some o=>cases o<;>rfl⟩
def bQ(x:R k ρ cO):R (aH d8 k) ρ cO:=⟨x.v,x.D,λh=>x.ok h⟩
def bD(x:γ)(h:cO x=.nx (kill is ρ)):R (cT is) ρ cO:=⟨x,O,λ_=>by rw[h];rfl⟩
def dR{c:α->Bx}(inj:α->γ)(a:R f ρ c)(h:∀x,cO (inj x)=.rt (c x))(b:∀x,Yp (c x)=Z (.rt (c x))):R (aH (gB f) k) ρ cO:=⟨inj a.v,a.D,λd=>by
 have:gB f ρ=Z (.rt (c a.v)):=by unfold gB;rw[a.ok d,At,b]
 unfold aH;rw[this,h];rfl⟩
def Lz{c:α->Bx}(i:Nat)(inj:α->γ)(a:α)(hi:ρ[i]?=Z (Z (c a)))(h:∀x,cO (inj x)=.rt (c x))(b:∀x,Yp (c x)=Z (.rt (c x))):R (aH (Eh i) k) ρ cO:=⟨inj a,O,λd=>by
 have:Eh i ρ=Z (.rt (c a)):=by unfold Eh;rw[hi];exact b a
 unfold aH;rw[this,h];rfl⟩
def bV{c:α->Bx}(i:Nat)(a:R f ρ c)(b:∀x,V1 ρ i (c x)=Z (ρ.set i (Z (c x))))(K:∀x,R k (ρ.set i (Z (c x))) cO):R (aH (Au i f) k) ρ cO:=⟨(K a.v).v,aY a.D (K a.v).D,λd=>by
 obtain⟨h1,h2⟩:=aB d;rw[jT (ρ':=ρ.set i (Z (c a.v))) (by unfold Au;rw[a.ok h1,At,b,At])];exact(K a.v).ok h2⟩
def PK(a:R f ρ (zE e))(b:α->Ev)(c:∀x,gt (e x) ρ=Z (b x))(K:∀x,R k (b x) cO):R (aH (Ro gt f) k) ρ cO:=⟨(K a.v).v,aY a.D (K a.v).D,λd=>by
 obtain⟨h1,h2⟩:=aB d;rw[jT (ρ':=b a.v) (by unfold Ro;rw[a.ok h1,At];simp only[c,At])];exact(K a.v).ok h2⟩
def Z9(i j:Nat)(a:R fa ρ (zE e))(b:R fb ρ (zE e'))(K:∀x y,R k ((ρ.set i (Z (.z (e x)))).set j (Z (.z (e' y)))) cO):R (aH (YK i j (aq fa (aq fb aK))) k) ρ cO:=⟨(K a.v b.v).v,aY (aY a.D b.D) (K a.v b.v).D,λd=>by
 obtain⟨h1,c⟩:=aB d;obtain⟨h1,h2⟩:=aB h1;rw[jT (ρ':=(ρ.set i (Z (.z (e a.v)))).set j (Z (.z (e' b.v)))) (by unfold YK;simp only[aq,aK,a.ok h1,b.ok h2,At,FG])];exact(K a.v b.v).ok c⟩
def zx(i:Nat)(xs:Y α)(hi:ρ[i]?=Z (Z (.o (xs.map e))))(a:R f ρ (zE e))(K:∀ys:Y α,R k (ρ.set i (Z (.o (ys.map e)))) cO):R (aH (Eu i f) k) ρ cO:=⟨(K (xs++[a.v])).v,aY (aY a.D (Z (Ls xs.length))) (K (xs++[a.v])).D,λc=>by
 obtain⟨h1,b⟩:=aB c;obtain⟨h1,h2⟩:=aB h1;have h2:xs.length<=1000000:=h2;rw[jT (ρ':=ρ.set i (Z (.o ((xs++[a.v]).map e)))) (by
  unfold Eu;rw[a.ok h1,At];simp only[FL,hi,zr,qh,zt,JS];rw[zo (Nat.lt_of_le_of_lt h2 (by decide))])]
 exact(K _).ok b⟩
def oN(t:R p ρ tE)(a:R (aH g1 k) ρ cO)(b:R (aH g2 k) ρ cO):R (aH (vV p g1 g2) k) ρ cO:=⟨if t.v=true then a.v else b.v,aY t.D (aY (Gb (t.v=true) a.D) (Gb (t.v=false) b.D)),λg=>by
 obtain⟨h1,h2⟩:=aB g;obtain⟨h2,f⟩:=aB h2;have e1:∀c,t.v=c->aH (vV p g1 g2) k ρ=aH (if c=true then g1 else g2) k ρ:=λc e=>by
  unfold aH vV;rw[t.ok h1,At,e];cases c<;>rfl
 cases d:t.v with
 |true=>rw[e1 true d];simp only[qA];exact a.ok (kJ h2 d)
 |false=>rw[e1 false d];simp only[zl,ZI];exact b.ok (kJ f d)⟩
def uD(E:σ->Ev)(t:R p ρ tE)(a:R g1 ρ (λs=>Ap.nx (E s)))(b:R g2 ρ (λs=>Ap.nx (E s)))(K:∀s,R k (E s) cO):R (aH (vV p g1 g2) k) ρ cO:=⟨(K (if t.v=true then a.v else b.v)).v,aY (aY t.D (aY (Gb (t.v=true) a.D) (Gb (t.v=false) b.D))) (K (if t.v=true then a.v else b.v)).D,λf=>by
 obtain⟨h,e⟩:=aB f;obtain⟨h1,h2⟩:=aB h;obtain⟨h2,d⟩:=aB h2;rw[jT (ρ':=E (if t.v=true then a.v else b.v)) (by
  unfold vV;rw[t.ok h1,At];cases c:t.v with
  |true=>simp only[qA];exact a.ok (kJ h2 c)
  |false=>simp only[zl,ZI];exact b.ok (kJ d c))]
 exact(K _).ok e⟩
def nZ(step:σ->α->σ)(P:σ->α->S Prop):Y α->σ->Prop
 |[],_=>True
 |x::xs,s=>hold (P s x)/\nZ step P xs (step s x)
theorem zy{gb:Ev->S Ap}(E:σ->Ev)(a:σ->α->Ev)(b:∀s x,gt (e x) (E s)=Z (a s x))(body:∀s x,R gb (a s x) (λs=>Ap.nx (E s))):∀(xs:Y α) (s:σ),nZ (λs x=>(body s x).v) (λs x=>(body s x).D) xs s->rD gt gb (xs.map e) (E s)=Z (.nx (E (xs.foldl (λs x=>(body s x).v) s)))
 |[],s,_=>rfl
 |x::xs,s,h=>by
  simp only[zt,rD,b,At,(body s x).ok h.1,qi];exact zy E a b body xs _ h.2
def JV(E:σ->Ev)(a:σ)(g:ρ=E a)(it:R fi ρ (iE e))(b:σ->α->Ev)(d:∀s x,gt (e x) (E s)=Z (b s x))(body:∀s x,R gb (b s x) (λs=>Ap.nx (E s)))(K:∀s,R k (E s) cO):R (aH (rE fi gt gb) k) ρ cO:=⟨(K (it.v.foldl (λs x=>(body s x).v) a)).v,aY (aY it.D (Z (nZ (λs x=>(body s x).v) (λs x=>(body s x).D) it.v a))) (K (it.v.foldl (λs x=>(body s x).v) a)).D,λf=>by
 obtain⟨h,c⟩:=aB f;obtain⟨h1,h2⟩:=aB h;rw[jT (ρ':=E (it.v.foldl (λs x=>(body s x).v) a)) (by
  unfold rE;rw[it.ok h1,At];subst g;exact zy E b d body it.v a h2)]
 exact(K _).ok c⟩
def XW(E:σ->Ev)(a:σ)(h:ρ=E a)(it:R fi ρ (iE e))(b:σ->α->Ev)(d:∀s x,gt (e x) (E s)=Z (b s x))(body:∀s x,R gb (b s x) (λs=>Ap.nx (E s)))(hb:∀s x,(body s x).D=O)(K:∀s,R k (E s) cO):R (aH (rE fi gt gb) k) ρ cO:=⟨(K (it.v.foldl (λs x=>(body s x).v) a)).v,aY it.D (K (it.v.foldl (λs x=>(body s x).v) a)).D,λg=>by
 obtain⟨h1,c⟩:=aB g;have h2:∀(xs:Y α) (s:σ),nZ (λs x=>(body s x).v) (λs x=>(body s x).D) xs s:=λxs=>by
  induction xs with
  |nil=>intro s;trivial
  |cons x xs f=>intro s;exact⟨by show hold (body s x).D;rw[hb s x];trivial,f _⟩
 rw[jT (ρ':=E (it.v.foldl (λs x=>(body s x).v) a)) (by
  unfold rE;rw[it.ok h1,At];subst h;exact zy E b d body it.v a (h2 _ _))]
 exact(K _).ok c⟩
inductive j4 (σ τ:Type) where
 |nx (s:σ)|rt (r:τ)|bk (s:σ)|ct (s:σ)
def cC(E:σ->Ev)(c:τ->Bx):j4 σ τ->Ap
 |.nx s=>.nx (E s)
 |.rt r=>.rt (c r)
 |.bk s=>.bk (E s)
 |.ct s=>.ct (E s)
def kW(step:σ->α->j4 σ τ):Y α->σ->j4 σ τ
 |[],s=>.nx s
 |x::xs,s=>match step s x with
  |.nx s'=>kW step xs s'
  |.ct s'=>kW step xs s'
  |.bk s'=>.nx s'
  |.rt r=>.rt r
def uF(step:σ->α->j4 σ τ)(P:σ->α->S Prop):Y α->σ->Prop
 |[],_=>True
 |x::xs,s=>hold (P s x)/\match step s x with
  |.nx s'=>uF step P xs s'
  |.ct s'=>uF step P xs s'
  |.bk _=>True
  |.rt _=>True
theorem Du{c:τ->Bx}(E:σ->Ev)(a:σ->α->Ev)(b:∀s x,gt (e x) (E s)=Z (a s x))(body:∀s x,R gb (a s x) (cC E c)):∀(xs:Y α) (s:σ),uF (λs x=>(body s x).v) (λs x=>(body s x).D) xs s->rD gt gb (xs.map e) (E s)=Z (cC E c (kW (λs x=>(body s x).v) xs s))
 |[],s,_=>rfl
 |x::xs,s,h=>by
  obtain⟨h1,h2⟩:=h;dsimp only at h2;simp only[zt,rD,b,At,(body s x).ok h1,kW]
  revert h2
  cases(body s x).v with
  |nx s'=>intro h2;exact Du E a b body xs s' h2
  |ct s'=>intro h2;exact Du E a b body xs s' h2
  |bk s'=>intro _;rfl
  |rt r=>intro _;rfl
theorem zA(step:σ->α->j4 σ τ):∀(xs:Y α) (s:σ),(∃s',kW step xs s=.nx s')\/∃r,kW step xs s=.rt r
 |[],s=>.inl ⟨s,rfl⟩
 |x::xs,s=>by
  unfold kW;cases step s x with
  |nx s'=>exact zA step xs s'
  |ct s'=>exact zA step xs s'
  |bk s'=>exact .inl ⟨s',rfl⟩
  |rt r=>exact .inr ⟨r,rfl⟩
def BG(r:j4 σ τ)(inj:τ->γ)(K:σ->γ):γ:=match r with
 |.rt r=>inj r
 |.nx s=>K s
 |.bk s=>K s
 |.ct s=>K s
def oX(r:j4 σ τ)(K:σ->Prop):Prop:=match r with
 |.rt _=>True
 |.nx s=>K s
 |.bk s=>K s
 |.ct s=>K s
def LC(r:j4 σ τ)(K:σ->S Prop):S Prop:=Z (oX r λs=>hold (K s))
def Md{c:τ->Bx}(E:σ->Ev)(a:σ)(j:ρ=E a)(it:R fi ρ (iE e))(b:σ->α->Ev)(f:∀s x,gt (e x) (E s)=Z (b s x))(body:∀s x,R gb (b s x) (cC E c))(inj:τ->γ)(g:∀r,cO (inj r)=.rt (c r))(K:∀s,R k (E s) cO):R (aH (rE fi gt gb) k) ρ cO:=⟨BG (kW (λs x=>(body s x).v) it.v a) inj λs=>(K s).v,aY (aY it.D (Z (uF (λs x=>(body s x).v) (λs x=>(body s x).D) it.v a))) (LC (kW (λs x=>(body s x).v) it.v a) λs=>(K s).D),λi=>by
 obtain⟨h,d⟩:=aB i;obtain⟨h1,h2⟩:=aB h;have e1:rE fi gt gb ρ=Z (cC E c (kW (λs x=>(body s x).v) it.v a)):=by
  unfold rE;rw[it.ok h1,At];subst j;exact Du E b f body it.v a h2
 rcases zA (λs x=>(body s x).v) it.v a with⟨s',es⟩|⟨r,es⟩
 ·rw[es]at e1 d ⊢;rw[jT e1];exact(K s').ok d
 ·rw[es]at e1 ⊢;show aH (rE fi gt gb) k ρ=Z (cO (inj r));unfold aH;rw[e1,g];rfl⟩
theorem NG(h:ρ[i]?=Z (Z (.l ds))):rW i gt gb ρ=rD gt gb ds ρ:=by unfold rW;rw[h]
theorem Sw(h:ρ[i]?=Z (Z (.z (.tup ds)))):rW i gt gb ρ=rD gt gb ds ρ:=by unfold rW;rw[h];rfl
theorem LP(h:ρ[i]?=Z (Z (.z (.lst ds)))):rW i gt gb ρ=rD gt gb ds ρ:=by unfold rW;rw[h];rfl
theorem WO(hp:Lp b ds)(h:ρ[i]?=Z (Z b)):rW i gt gb ρ=rD gt gb ds ρ:=by
 rcases hp with rfl|rfl
 ·exact LP h
 ·exact NG h
def Sx(i:Nat){ρ':Ev}(xs:Y α)(h:rW i gt gb ρ=rD gt gb (xs.map e) ρ')(E:σ->Ev)(a:σ)(g:ρ'=E a)(b:σ->α->Ev)(d:∀s x,gt (e x) (E s)=Z (b s x))(body:∀s x,R gb (b s x) (λs=>Ap.nx (E s)))(K:∀s,R k (E s) cO):R (aH (rW i gt gb) k) ρ cO:=⟨(K (xs.foldl (λs x=>(body s x).v) a)).v,aY (Z (nZ (λs x=>(body s x).v) (λs x=>(body s x).D) xs a)) (K (xs.foldl (λs x=>(body s x).v) a)).D,λf=>by
 obtain⟨h2,c⟩:=aB f;rw[jT (ρ':=E (xs.foldl (λs x=>(body s x).v) a)) (by
  rw[h,g];exact zy E b d body xs a h2)]
 exact(K _).ok c⟩
def U7{c:τ->Bx}(i:Nat){ρ':Ev}(xs:Y α)(j:rW i gt gb ρ=rD gt gb (xs.map e) ρ')(E:σ->Ev)(a:σ)(l:ρ'=E a)(b:σ->α->Ev)(f:∀s x,gt (e x) (E s)=Z (b s x))(body:∀s x,R gb (b s x) (cC E c))(inj:τ->γ)(g:∀r,cO (inj r)=.rt (c r))(K:∀s,R k (E s) cO):R (aH (rW i gt gb) k) ρ cO:=⟨BG (kW (λs x=>(body s x).v) xs a) inj λs=>(K s).v,aY (Z (uF (λs x=>(body s x).v) (λs x=>(body s x).D) xs a)) (LC (kW (λs x=>(body s x).v) xs a) λs=>(K s).D),λh=>by
 obtain⟨h2,d⟩:=aB h;have e1:rW i gt gb ρ=Z (cC E c (kW (λs x=>(body s x).v) xs a)):=by
  rw[j,l];exact Du E b f body xs a h2
 rcases zA (λs x=>(body s x).v) xs a with⟨s',es⟩|⟨r,es⟩
 ·rw[es]at e1 d ⊢;rw[jT e1];exact(K s').ok d
 ·rw[es]at e1 ⊢;show aH (rW i gt gb) k ρ=Z (cO (inj r));unfold aH;rw[e1,g];rfl⟩
class Ky {κ:Type} (c:κ->AY):Prop where
 inj:∀a b,c a=c b->a=b
abbrev kS:AJ->AY:=Sum.inr
abbrev kI:Int->AY:=Sum.inl
instance:Ky kS:=⟨λ_ _ h=>by cases h;rfl⟩
instance:Ky kI:=⟨λ_ _ h=>by cases h;rfl⟩
abbrev mE(e:α->Dt):Y (AJ×α)->Bx:=λm=>.m (m.map λq=>(kS q.1,e q.2)) O
abbrev nE(e:α->Dt):Y (AJ×α)->Bx:=λm=>.n (m.map λq=>(kS q.1,e q.2))
section
variable [DecidableEq κ] {c:κ->AY}
def look[Inhabited α](m:Y (κ×α))(x:κ):α:=((m.find? λq=>decide (q.1=x)).map (·.2)).getD default
def has(m:Y (κ×α))(x:κ):Bool:=m.any λq=>decide (q.1=x)
def put(m:Y (κ×α))(x:κ)(a:α):Y (κ×α):=if has m x=true then m.map (λq=>if q.1=x then(q.1,a)else q)else m++[(x,a)]
theorem Go[Ky c](a b:κ):decide (c a=c b)=decide (a=b):=by
 by_cases h:a=b
 ·rw[h];simp
 ·rw[Zp h,Zp λz=>h (Ky.inj (c:=c) _ _ z)]
theorem UY[Ky c](m:Y (κ×α))(x:κ):Fd (m.map λq=>(c q.1,e q.2)) (c x)=((m.find? λq=>decide (q.1=x)).map (·.2)).map e:=by
 unfold Fd;rw[List.find?_map];simp only[Option.map_map,Function.comp_def,Go]
theorem bj[Ky c][Inhabited α]{m:Y (κ×α)}{x:κ}(h:has m x=true):Fd (m.map λq=>(c q.1,e q.2)) (c x)=Z (e (look m x)):=by
 rw[UY];unfold look;unfold has at h;rw[kf]at h;obtain⟨q,a,hx⟩:=h;cases b:m.find? λq=>decide (q.1=x)with
 |none=>exact absurd hx (by simpa using List.find?_eq_none.mp b q a)
 |some q=>rfl
theorem U8[Ky c](m:Y (κ×α))(x:κ)(a:α):K7 (m.map λq=>(c q.1,e q.2)) (c x) (e a)=(put m x a).map λq=>(c q.1,e q.2):=by
 unfold K7 put has;rw[List.any_map];simp only[Function.comp_def,Go];by_cases h:(m.any λq=>decide (q.1=x))=true
 ·rw[zo h,zo h];rw[QE,QE];refine QR λq _=>?_;simp only[Function.comp];by_cases b:q.1=x
  ·simp[b]
  ·have h':¬ c q.1=c x:=λz=>b (Ky.inj (c:=c) _ _ z);simp[b,h']
 ·rw[zw h,zw h];simp
end
theorem PL:∀m:Y (AJ×α),Wf (m.map λq=>(kS q.1,e q.2))=Z (m.map (·.1))
 |[]=>rfl
 |q::m=>by rw[zt,Wf,PL m,At];rfl
def jU[Inhabited α](a:R fa ρ (nE e))(b:R fb ρ (zE eS)):R (b2 jY fa fb) ρ (zE e):=⟨look a.v b.v,aY (aY a.D b.D) (Z (has a.v b.v=true)),λh=>by
 obtain⟨h,d⟩:=aB h;obtain⟨h1,h2⟩:=aB h;simp only[b2,a.ok h1,b.ok h2,At,jY,Cs,bj (c:=kS) (show has a.v b.v=true from d)]⟩
end
section
variable{fs:Ev->S AZ}{e:α->Dt}
theorem LK(h:qz b=Z ds):u5 b=Z ds:=by
 cases b with
 |z d=>cases d<;>first|exact h|(cases h;done)
 |l _=>exact h
 |o _=>exact h
 |n _=>cases h
 |m _ _=>cases h
def WN(a:R fa ρ (zE eD)):R (Cc fa) ρ (iE eD):=⟨QK a.v,aY a.D (Z (Cy a.v=true)),λh=>by
 obtain⟨h,b⟩:=aB h;have b:Cy a.v=true:=b;simp only[Cc,a.ok h,At];cases c:a.v<;>rw[c]at b<;>first|(cases b;done)|(simp only[V2,QK,iE,eD,List.map_id_fun',id])⟩
end
end P1
namespace P1
open L2 S1 S6
class qJ {α:Type} (e:α->Dt) where
 k:α->AY
 ok:∀a,Gc (e a)=some (k a)
 inj:∀a b,k a=k b->a=b
 same:∀a b,Uj (k a) (k b)=true
instance:qJ eI:=⟨λi=>.inl i,λ_=>rfl,λa b h=>by cases h;rfl,λ_ _=>rfl⟩
instance:qJ eS:=⟨λi=>.inr i,λ_=>rfl,λa b h=>by cases h;rfl,λ_ _=>rfl⟩
class rG {α:Type} (e:α->Dt) where
 k:α->List AY
 ok:∀a,JC (e a)=some (k a)
 inj:∀a b,k a=k b->a=b
 shp:∀a b,Ry (k a) (k b)=true
 ne:∀a,(k a).isEmpty=false
class EK {α:Type} (e:α->Dt) [rG e]:Prop where
 tx:∀a,Pb (rG.k e a)=true
section
variable{e:α->Dt}{e':β->Dt}{e'':γ->Dt}{e3:δ->Dt}
instance [qJ e] [qJ e']:rG (Xq e e'):=⟨λq=>[qJ.k e q.1,qJ.k e' q.2],λq=>by simp only[JC,JB,qJ.ok,At],λa b h=>by
 simp only[ku,and_true]at h;exact Prod.ext (qJ.inj _ _ h.1) (qJ.inj _ _ h.2),λa b=>by simp[Ry,qJ.same],λ_=>rfl⟩
instance [qJ e] [qJ e'] [qJ e'']:rG (D8 e e' e''):=⟨λq=>[qJ.k e q.1,qJ.k e' q.2.1,qJ.k e'' q.2.2],λq=>by simp only[JC,JB,qJ.ok,At],λa b h=>by
 simp only[ku,and_true]at h;exact Prod.ext (qJ.inj _ _ h.1) (Prod.ext (qJ.inj _ _ h.2.1) (qJ.inj _ _ h.2.2)),λa b=>by simp[Ry,qJ.same],λ_=>rfl⟩
instance [qJ e] [qJ e'] [qJ e''] [qJ e3]:rG (HN e e' e'' e3):=⟨λq=>[qJ.k e q.1,qJ.k e' q.2.1,qJ.k e'' q.2.2.1,qJ.k e3 q.2.2.2],λq=>by simp only[JC,JB,qJ.ok,At],λa b h=>by
 simp only[ku,and_true]at h;exact Prod.ext (qJ.inj _ _ h.1) (Prod.ext (qJ.inj _ _ h.2.1) (Prod.ext (qJ.inj _ _ h.2.2.1) (qJ.inj _ _ h.2.2.2))),λa b=>by simp[Ry,qJ.same],λ_=>rfl⟩
instance [qJ e]:EK (Xq e eS):=⟨λa=>by simp[rG.k,Pb,qJ.k]⟩
instance [qJ e] [qJ e']:EK (D8 e eS e'):=⟨λa=>by simp[rG.k,Pb,qJ.k]⟩
instance [qJ e] [qJ e'] [qJ e'']:EK (HN e eS e' e''):=⟨λa=>by simp[rG.k,Pb,qJ.k]⟩
variable{fs:Ev->S (Y (Y AY))}
theorem yc[rG e]:∀xs:Y α,xV (xs.map e)=Z (xs.map (rG.k e))
 |[]=>rfl
 |x::xs=>by simp only[zt,xV,rG.ok,At,yc xs]
def WX(e:α->Dt)[rG e](a b:α):Bool:=xT (rG.k e a) (rG.k e b)
def gC(e:α->Dt)[rG e](xs:Y α):Y α:=xs.mergeSort (WX e)
theorem fD[rG e](xs:Y α):(gC e xs).Perm xs:=List.mergeSort_perm ..
theorem qg[rG e](xs:Y α):(gC e xs).Pairwise (λa b=>WX e a b=true):=yi (le:=WX e) (λa b c=>Fg (rG.k e a) (rG.k e b) (rG.k e c)) (λa b=>Fi (rG.k e a) (rG.k e b)) xs
theorem OH[rG e]{a b:α}(h:WX e a b=true)(h':WX e b a=true):a=b:=rG.inj _ _ (Jx h h')
theorem Gk[rG e]{xs out:Y α}(hp:out.Perm xs)(hs:out.Pairwise (λa b=>WX e a b=true)):out=gC e xs:=vB (λ_ _=>OH) (hp.trans (fD xs).symm) hs (qg xs)
theorem JW[rG e](xs:Y α):lR (xs.map (rG.k e))=(gC e xs).map (rG.k e):=by
 refine(wg ((fD xs).map _) (List.pairwise_map.mpr (qg xs))).symm
theorem LD[rG e](xs:Y α):(xs.map (rG.k e)).map BM=xs.map e:=by
 rw[QE];exact QR λa _=>(Ox (rG.ok a)).symm
theorem PN[rG e](xs:Y α)(h:xs.length<64):HB (xs.map (rG.k e))=true:=by
 simp only[HB,ZH,ZY,qo,j3,zr,List.mem_map,forall_exists_index,and_imp,forall_apply_eq_imp_iff₂];exact⟨h,λa _=>rG.ne a,λa _ b _=>rG.shp a b⟩
def Sy[rG e](a:RL fa ρ e):R (cZ xW (aq fa aK)) ρ (oE e):=⟨gC e a.v,aY a.D (Z (a.v.length<64)),λh=>by
 obtain⟨h,b⟩:=aB h;simp only[cZ,aq,aK,a.ok h,At,xW,LK a.lk,yc,PN a.v b,qA,JW,LD]⟩
abbrev uE(e:α->Dt)[rG e]:Y α->Y (Y AY):=λxs=>xs.map (rG.k e)
def Ic[rG e][EK e](a:RL fa ρ e):R (RW fa) ρ (uE e):=⟨a.v,aY a.D (Z (a.v.length<=64)),λh=>by
 obtain⟨h,b⟩:=aB h;have b:a.v.length<=64:=b;have c:(a.v.map (rG.k e)).all Pb=true:=by
  rw[List.all_map,qo];exact λx _=>EK.tx x
 simp only[RW,a.ok h,At,LM,LK a.lk,yc];rw[zo ⟨by rw[zr];exact b,c⟩]⟩
def Mm[DecidableEq α][rG e](a:R fs ρ (uE e)):R (FJ fs) ρ (oE e):=⟨gC e (Ho a.v),aY a.D (Z (a.v.length<64)),λh=>by
 obtain⟨h,b⟩:=aB h;simp only[FJ,a.ok h,At,PN a.v b,qA,Lh rG.inj,JW,LD]⟩
end
end P1
namespace P1
open L2
section
variable{fd:Ev->S Bx}{fs:Ev->S (Y Bx)}{e:α->Dt}{e':β->Dt}{k:Ev->S Ap}{cO:γ->Ap}
abbrev mW(w:S A1)(e:α->Dt):Y (AJ×α)->Bx:=λm=>.m (m.map λq=>(kS q.1,e q.2)) w
def aM(e:α->Dt)(t:γ->Y Bx->Prop):Y (AJ×α)×γ->Y Bx->Prop:=λx bs=>∃b r,bs=b::r/\(b=nE e x.1\/b=mE e x.1)/\t x.2 r
def Fm{t:γ->Y Bx->Prop}(a:R fa ρ (nE e))(r:AR t fs ρ):AR (aM e t) (aq fa fs) ρ:=⟨(a.v,r.v),aY a.D r.D,_,⟨_,_,rfl,.inl rfl,r.h⟩,λh=>by
 obtain⟨h1,h2⟩:=aB h;simp only[aq,a.ok h1,r.ok h2,At]⟩
def U9(w:S A1)(i:Nat)(m:Y (AJ×α))(hi:ρ[i]?=Z (Z (mW w e m)))(a:R fa ρ (zE e))(b:R fb ρ (zE eS))(K:∀f:Y (AJ×α),R k (ρ.set i (Z (mW w e f))) cO):R (aH (Ug i fa fb) k) ρ cO:=⟨(K (put m b.v a.v)).v,aY (aY (aY a.D b.D) (Z (m.length<1000))) (K (put m b.v a.v)).D,λg=>by
 obtain⟨h,d⟩:=aB g;obtain⟨h,c⟩:=aB h;obtain⟨h1,h2⟩:=aB h;rw[jT (ρ':=ρ.set i (Z (mW w e (put m b.v a.v)))) (by
  unfold Ug;rw[a.ok h1,At,b.ok h2,At];simp only[Oo,Cs,At,hi,mW,zr,zo (show m.length<1000 from c),U8])]
 exact(K _).ok d⟩
def F3(a:Y (AJ×β)):Y (AJ×β):=a.foldl (λm q=>put m q.1 q.2) []
theorem SJ(a:Y (AJ×β)):dictOf (a.map (Xq eS e'))=(F3 a).map λq=>(kS q.1,e' q.2):=by
 unfold dictOf F3;have:∀(a:Y (AJ×β)) (m:Y (AJ×β)),(a.map (Xq eS e')).foldl GG (m.map λq=>(kS q.1,e' q.2))=(a.foldl (λm q=>put m q.1 q.2) m).map λq=>(kS q.1,e' q.2):=by
  intro a
  induction a with
  |nil=>intro m;rfl
  |cons q a b=>
   intro m;rw[zt,qi,qi];show(a.map (Xq eS e')).foldl GG (K7 (m.map λq=>(kS q.1,e' q.2)) (kS q.1) (e' q.2))=_;rw[U8 (c:=kS)];exact b _
 exact this a []
def ac(a:R fk ρ (zE eS))(b:R fv ρ (zE e)):R (b2 FN fk fv) ρ (zE (Xq eS e)):=⟨(a.v,b.v),aY a.D b.D,λh=>by
 obtain⟨h1,h2⟩:=aB h;simp only[b2,a.ok h1,b.ok h2,At,FN]⟩
def T'(i:R fi ρ (iE e))(a:R (gk fi gt p (b2 FN fk fv) is n) ρ (oE (Xq eS e'))):R (Uw fi gt p fk fv is n) ρ (mE e'):=⟨F3 a.v,aY (aY i.D (Z (i.v.length<1000))) a.D,λh=>by
 obtain⟨h,c⟩:=aB h;obtain⟨h1,h2⟩:=aB h;have h2:i.v.length<1000:=h2;have b:=a.ok c;unfold gk at b;unfold Uw;rw[i.ok h1,At]at b ⊢;rw[zo (by rw[zr];omega)]at b;rw[zo (by rw[zr];exact h2)];obtain⟨out,d,b⟩:=AT b;rw[d,At];injection b with b;injection b with b;rw[b,SJ]⟩
def ML(a:R fd ρ (nE e)):R (Pj fd) ρ (iE eS):=⟨a.v.map (·.1),a.D,λh=>by
 simp only[Pj,a.ok h,At,D5,QE];rfl⟩
def Sl(a:R fa ρ (nE e)):R (cZ FT (aq fa aK)) ρ (oE eS):=⟨a.v.map (·.1),a.D,λh=>by
 simp only[cZ,aq,aK,a.ok h,At,FT,PL]⟩
def Sn(a:R fa ρ (zE eS))(b:R fb ρ (zE eS)):R (cZ FQ (aq fa (aq fb aK))) ρ (zE eS):=⟨if wK b.v a.v=true then b.v else a.v,aY a.D b.D,λh=>by
 obtain⟨h1,h2⟩:=aB h;simp only[cZ,aq,aK,a.ok h1,b.ok h2,At,FQ];rfl⟩
theorem VO{bs:Y Bx}{m:Y (AJ×α)}{c:Y (AJ×α)->Ev}(x:R g ((mW (Z a) e m::bs).map Z++List.replicate (n-(bs.length+1)) O) (λb=>Ap.nx (c b)))(h:hold x.D)(h0:∀b,(c b)[0]?=Z (Z (mW (Z a) e b))):Pq n g a (m.map λq=>(kS q.1,e q.2)) bs=Z (x.v.map λq=>(kS q.1,e q.2)):=by
 unfold Pq;rw[x.ok h,At];simp only[h0,qA]
def LX{b:γ->Y Bx->Prop}{cO:δ->Ap}{T:Y (AJ×α)->γ->Y (AJ×α)}{c:Y (AJ×α)->γ->Option Prop}(w:Option A1)(i:Nat)(m:Y (AJ×α))(hi:ρ[i]?=Z (Z (mW w e m)))(S:∀m v bs,b v bs->bs.length=n/\bs.all DI=true/\(hold (c m v)->∀a,G a (m.map λq=>(kS q.1,e q.2)) bs=Z ((T m v).map λq=>(kS q.1,e q.2))))(a:AR b fs ρ)(K:∀g:Y (AJ×α),R k (ρ.set i (Z (mW w e g))) cO):R (aH (BJ i n G fs) k) ρ cO:=⟨(K (T m a.v)).v,aY (aY a.D (c m a.v)) (K (T m a.v)).D,λl=>by
 obtain⟨h,d⟩:=aB l;obtain⟨h1,h2⟩:=aB h;obtain⟨o,j,f⟩:=S m a.v a.bs a.h;rw[jT (Zw hi (a.ok h1) o j (f h2))];exact(K _).ok d⟩
end
section
variable{e:α->Dt}
def fM[DecidableEq α](x:α)(ys:Y α):Bool:=decide (x∈ys)
theorem iQ[DecidableEq α]{x:α}{ys:Y α}:fM x ys=true↔x∈ys:=by unfold fM;rw[ZY]
theorem PX[DecidableEq α][BA e n](b:n<=60)(x:α)(ys:Y α):WL (e x) (ys.map e)=Z (decide (x∈ys)):=by
 unfold WL;rw[zo]
 ·congr 1;rw[List.any_map,ky,kf,ZY];constructor
  ·rintro⟨y,a,h⟩;simp only[Function.comp,BA.eq]at h;by_cases q:y=x
   ·exact q▸a
   ·simp[q,DS]at h
  ·intro h;exact⟨x,h,by simp[Function.comp,BA.eq,DS]⟩
 ·rw[List.all_map,qo];intro y _;have:=BA.dp (e:=e) y;simp only[Function.comp,BA.eq,KB,KW,ZY];omega
def LN[DecidableEq α][BA e n](c:n<=60)(a:R fa ρ (zE e))(b:RL fb ρ e):R (b2 EJ fa fb) ρ (zE eB):=⟨fM a.v b.v,aY a.D b.D,λh=>by
 obtain⟨h1,h2⟩:=aB h;simp only[b2,a.ok h1,b.ok h2,At,EJ,LK b.lk,PX c,fM]⟩
def bm[DecidableEq α][BA e n](c:n<=60)(a:R fa ρ (zE e))(b:R fb ρ (zE (eT e))):R (b2 Zx fa fb) ρ (zE eB):=⟨!fM a.v b.v,aY a.D b.D,λh=>by
 obtain⟨h1,h2⟩:=aB h;simp only[b2,a.ok h1,b.ok h2,At,Zx,u5,eT,PX c,fM]⟩
end
end P1
namespace P1
open L2 S1 S6
section
variable{e:α->Dt}
theorem map_some(e:α->Dt)(xs:Y α):(xs.map Z).map (eO e)=xs.map e:=by rw[QE];rfl
end
end P1
namespace P1
open L2
section
variable{k:Ev->S Ap}{cO:α->Ap}
def MC(i:Nat)(E:Ev)(a:Zz i ρ=Z E)(K:R k E cO):R (D4 i k) ρ cO:=⟨K.v,K.D,λh=>by
 unfold D4;rw[a];exact K.ok h⟩
end
section
variable{e:α->Dt}
end
section
variable{σ τ:Type}{k:Ev->S Ap}{cO:γ->Ap}
def JX(a:σ->Bool)(step:σ->j4 σ τ):Nat->σ->j4 σ τ
 |0,s=>.nx s
 |n+1,s=>if a s=true then(match step s with
  |.nx s'=>JX a step n s'
  |.ct s'=>JX a step n s'
  |.bk s'=>.nx s'
  |.rt r=>.rt r)else .nx s
def DU(a:σ->Bool)(b:σ->S Prop)(step:σ->j4 σ τ)(P:σ->S Prop):Nat->σ->Prop
 |0,_=>False
 |n+1,s=>hold (b s)/\(a s=true->hold (P s)/\match step s with
  |.nx s'=>DU a b step P n s'
  |.ct s'=>DU a b step P n s'
  |.bk _=>True
  |.rt _=>True)
theorem LQ(a:σ->Bool)(step:σ->j4 σ τ):∀(n:Nat) (s:σ),(∃s',JX a step n s=.nx s')\/∃r,JX a step n s=.rt r
 |0,s=>.inl ⟨s,rfl⟩
 |n+1,s=>by
  unfold JX;split
  ·cases step s with
   |nx s'=>exact LQ a step n s'
   |ct s'=>exact LQ a step n s'
   |bk s'=>exact .inl ⟨s',rfl⟩
   |rt r=>exact .inr ⟨r,rfl⟩
  ·exact .inl ⟨s,rfl⟩
theorem SM{c:τ->Bx}(E:σ->Ev)(a:∀s,R p (E s) tE)(body:∀s,R gb (E s) (cC E c)):∀(n:Nat) (s:σ),DU (λs=>(a s).v) (λs=>(a s).D) (λs=>(body s).v) (λs=>(body s).D) n s->WM p gb n (E s)=Z (cC E c (JX (λs=>(a s).v) (λs=>(body s).v) n s))
 |0,s,h=>absurd h id
 |n+1,s,h=>by
  obtain⟨h1,h2⟩:=h;have e:p (E s)=Z (a s).v:=(a s).ok h1;unfold WM JX;rw[e,At];cases d:(a s).v with
  |false=>rfl
  |true=>
   obtain⟨f,b⟩:=h2 d;rw[zo rfl,zo rfl,(body s).ok f,At];cases hb:(body s).v with
   |nx s'=>dsimp only at b;rw[hb]at b;exact SM E a body n s' b
   |ct s'=>dsimp only at b;rw[hb]at b;exact SM E a body n s' b
   |bk s'=>rfl
   |rt r=>rfl
def Va{c:τ->Bx}(n:Nat)(E:σ->Ev)(a:σ)(g:ρ=E a)(b:∀s,R p (E s) tE)(body:∀s,R gb (E s) (cC E c))(inj:τ->γ)(e:∀r,cO (inj r)=.rt (c r))(K:∀s,R k (E s) cO):R (aH (WM p gb n) k) ρ cO:=
 ⟨BG (JX (λs=>(b s).v) (λs=>(body s).v) n a) inj λs=>(K s).v,aY (Z (DU (λs=>(b s).v) (λs=>(b s).D) (λs=>(body s).v) (λs=>(body s).D) n a)) (LC (JX (λs=>(b s).v) (λs=>(body s).v) n a) λs=>(K s).D),λf=>by
 obtain⟨h2,d⟩:=aB f;have e1:WM p gb n ρ=Z (cC E c (JX (λs=>(b s).v) (λs=>(body s).v) n a)):=by
  subst g;exact SM E b body n a h2
 rcases LQ (λs=>(b s).v) (λs=>(body s).v) n a with⟨s',es⟩|⟨r,es⟩
 ·rw[es]at e1 d ⊢;rw[jT e1];exact(K s').ok d
 ·rw[es]at e1 ⊢;show aH (WM p gb n) k ρ=Z (cO (inj r));unfold aH;rw[e1,e];rfl⟩
end
section
variable{e:α->Dt}
end
section
variable{σ τ:Type}
theorem Vb{step:σ->α->σ}{P:σ->α->S Prop}(I:Nat->σ->Prop):∀(xs:Y α) (m:Nat) (a:σ),I m a->(∀k x s,xs[k]?=Z x->I (m+k) s->hold (P s x)/\I (m+k+1) (step s x))->nZ step P xs a/\I (m+xs.length) (xs.foldl step a)
 |[],m,a,h0,_=>⟨trivial,h0⟩
 |x::xs,m,a,h0,hs=>by
  obtain⟨h1,h2⟩:=hs 0 x a Y3 h0;have:=Vb I xs (m+1) (step a x) h2 λk y s e h=>by
   have:=hs (k+1) y s (by simpa using e) (by rw[show m+(k+1)=m+1+k by omega];exact h);rw[show m+(k+1)+1=m+1+k+1 by omega]at this;exact this
  refine⟨⟨h1,this.1⟩,?_⟩;rw[ZN,show m+(xs.length+1)=m+1+xs.length by omega];exact this.2
theorem OQ{i:Int}{k:Nat}{x:Int}(h:(rng i n)[k]?=Z x):x=i+k/\k<n:=by
 unfold rng at h;rw[Zl]at h;cases a:(List.range n)[k]? with
 |none=>rw[a]at h;cases h
 |some j=>
  rw[a]at h;have b:k<n:=by simpa using(List.getElem?_eq_some_iff.mp a).1
  have:j=k:=by
   rw[List.getElem?_range b]at a;cases a;rfl
  subst this;cases h;exact⟨rfl,b⟩
theorem zB(i:Int)(n:Nat):(rng i n).length=n:=by unfold rng;simp
theorem zF{step:σ->Int->σ}{P:σ->Int->S Prop}(I:Nat->σ->Prop)(n:Nat)(a:σ)(h0:I 0 a)(hs:∀(k:Nat) s,k<n->I k s->hold (P s k)/\I (k+1) (step s k)):nZ step P (rng 0 n) a/\I n ((rng 0 n).foldl step a):=by
 have:=Vb (P:=P) I (rng 0 n) 0 a h0 λk x s e h=>by
  obtain⟨rfl,b⟩:=OQ e;rw[Kk]at h ⊢;rw[Int.zero_add];exact hs k s b h
 rw[zB,Kk]at this;exact this
theorem Gm{step:Unit->α->j4 Unit Bool}{P:Unit->α->S Prop}:∀xs:Y α,(∀x∈xs,hold (P () x)/\(step () x=.nx ()\/step () x=.ct ()))->kW step xs ()=.nx ()/\uF step P xs ()
 |[],_=>⟨rfl,trivial⟩
 |x::xs,h=>by
  obtain⟨h1,h2⟩:=h x (zh ..);have a:=Gm (P:=P) xs λy b=>h y (zi _ b);rcases h2 with h2|h2
  ·exact⟨by unfold kW;rw[h2];exact a.1,h1,by rw[h2];exact a.2⟩
  ·exact⟨by unfold kW;rw[h2];exact a.1,h1,by rw[h2];exact a.2⟩
theorem yd[Inhabited α]{xs:Y α}{i:Int}(h:In xs.length i):at' xs i∈xs:=by
 obtain⟨x,hx⟩:=wz h;unfold at';rw[hx];unfold Hu at hx;obtain⟨j,_,hx⟩:=AT hx;exact Qr hx
theorem L9[Inhabited α]{xs:Y α}{k:Nat}{x:α}(h:xs[k]?=Z x):at' xs (k:Int)=x:=by
 have a:k<xs.length:=(List.getElem?_eq_some_iff.mp h).1;unfold at' Hu EG;rw[zo (by omega),zo (by omega),At,KS,h];rfl
theorem LR[Inhabited α](xs:Y α)(k:Nat)(h:k<xs.length):at' xs (k:Int)=xs[k]:=L9 (z5 h)
theorem B5{i:Int}(h0:0<=i)(h1:i<n):In n i:=⟨by omega,h1⟩
theorem SN{k:Nat}(h:k<n):In n (k:Int):=⟨by omega,by omega⟩
theorem yg{x m:Int}(a:0<m)(h:m<=n):In n (x%m):=B5 (Int.emod_nonneg _ (by omega)) (Int.lt_of_lt_of_le (Int.emod_lt_of_pos _ a) h)
theorem iR(x:Int){m:Int}(a:0<m):0<=x%m/\x%m<m:=⟨Int.emod_nonneg _ (by omega),Int.emod_lt_of_pos _ a⟩
theorem JZ{j:Int}(h0:0<=j)(h1:j<=1000000):Rg j:=⟨by omega,by omega⟩
theorem LI{a b:Int}(h0:0<=a)(h1:a<18446744073709551616):FH a b:=.inl ⟨by omega,h1⟩
theorem vI(x y:AJ):(x++y).length=x.length+y.length:=by
 show(x.cps++y.cps).size=_;rw[kX];rfl
theorem Gn(x:AJ)(i:Int):(ch x i).length=1:=rfl
theorem slice_le(x:AJ)(l u:S Int):(Txt.slice x l u).length<=x.length:=PyProof.Txt.length_slice_le x l u
theorem WY(x:AJ):(CD x).length=x.length:=by unfold CD;rw[zr,qk];rfl
theorem W0(x:AJ):(BI x).length=x.length:=by rw[Z8,zr,WY]
end
section
variable [Inhabited α] {e:α->Dt}{k:Ev->S Ap}{cO:γ->Ap}
def UH(j i:Nat)(xs:Y α)(hi:ρ[i]?=Z (Z (.o (xs.map e))))(a:R f ρ (zE eI))(K:∀(ys:Y α) (y:α),R k ((ρ.set i (Z (.o (ys.map e)))).set j (Z (zE e y))) cO):R (aH (ZD j i f) k) ρ cO:=
 ⟨(K (xs.drop 1) (at' xs 0)).v,aY (aY a.D (Z (a.v=0/\0<xs.length))) (K (xs.drop 1) (at' xs 0)).D,λd=>by
 obtain⟨h1,b⟩:=aB d;obtain⟨h1,h2⟩:=aB h1;obtain⟨h0,c⟩:a.v=0/\0<xs.length:=h2;rw[jT (ρ':=(ρ.set i (Z (.o ((xs.drop 1).map e)))).set j (Z (zE e (at' xs 0)))) (by
  unfold ZD;rw[a.ok h1,At];show(match (Bx.z (Dt.int a.v))with|.z (.int k)=>_|_=>O)=_;dsimp only;rw[hi];dsimp only;rw[h0];cases xs with
  |nil=>simp at c
  |cons x xs=>
   have e1:at' (x::xs) 0=x:=L9 (xs:=x::xs) (k:=0) rfl;rw[e1,zo (by decide)];have e2:seqIndex? 0 ((x::xs).map e).length=Z 0:=by
    rw[PySem.seqIndex_of (by decide) (by simp)];rfl
   rw[e2];rfl)]
 exact(K (xs.drop 1) (at' xs 0)).ok b⟩
end
theorem J0:∀xs:Y Int,JM (xs.map eI)=Z xs
 |[]=>rfl
 |x::xs=>by simp only[zt,eI,JM,J0 xs,At]
def IR(a:RL fa ρ eI):R (cZ WQ (aq fa aK)) ρ (zE eI):=⟨a.v.sum,aY a.D (Z (DH a.v=true)),λh=>by
 obtain⟨h1,h2⟩:=aB h;have h2:DH a.v=true:=h2;simp only[cZ,aq,aK,a.ok h1,At,WQ,a.lk,J0,h2,qA]⟩
section
variable{e:α->Dt}{k:Ev->S Ap}{cO:γ->Ap}
end
section
variable{e:α->Dt}{k:Ev->S Ap}{cO:γ->Ap}
def XZ[Inhabited γ]:R (aH HH k) ρ cO:=⟨default,Z False,λh=>absurd h id⟩
def PM{c:α->Bx}(a:R f ρ c)(K:R k ρ cO):R (aH (UJ f) k) ρ cO:=⟨K.v,aY a.D K.D,λb=>by
 obtain⟨h1,h2⟩:=aB b;rw[jT (ρ':=ρ) (by unfold UJ;rw[a.ok h1,At])];exact K.ok h2⟩
def ap(a:R fa ρ (zE eS))(b:R fb ρ (zE e)):R (b2 JN fa fb) ρ (mE e):=⟨[(a.v,b.v)],aY a.D b.D,λh=>by
 obtain⟨h1,h2⟩:=aB h;simp only[b2,a.ok h1,b.ok h2,At,JN];rfl⟩
theorem Sr[DecidableEq κ]{c:κ->AY}[Ky c](m:Y (κ×α))(x:κ):ZK (m.map λq=>(c q.1,e q.2)) (c x)=has m x:=by
 unfold ZK has;rw[List.any_map];simp only[Function.comp_def,Go]
def LF(a:R fa ρ (zE eS))(b:R fb ρ (nE e)):R (b2 WR fa fb) ρ (zE eB):=⟨!has b.v a.v,aY a.D b.D,λh=>by
 obtain⟨h1,h2⟩:=aB h;simp only[b2,a.ok h1,b.ok h2,At,WR,Cs,nE,Sr]⟩
theorem Ya{bs:Y Bx}{a:γ->Ev}(x:R g (bs.map Z++List.replicate (n-bs.length) O) (λr=>Ap.nx (a r)))(h:hold x.D):dX n g bs=Z (.z .non):=by
 unfold dX;rw[x.ok h];rfl
end
section
variable{e:α->Dt}
def bu(a:RL fa ρ e):R (b2 WT fa (b1 Yx (cB (.int 1)))) ρ (oE e):=⟨a.v.reverse,a.D,λh=>by
 simp only[b2,b1,a.ok h,At,cB,Yx,WT,a.lk,qA,oE,List.map_reverse]⟩
end
section
variable{e:α->Dt}{e':β->Dt}
def UZ{e3:γ->Dt}(a:R fa ρ (zE e))(b:R fb ρ (zE e'))(g:α->β->γ)(h:∀x y,jf (.z (e x)) (.z (e' y))=Z (.z (e3 (g x y)))):R (b2 jf fa fb) ρ (zE e3):=⟨g a.v b.v,aY a.D b.D,λc=>by
 obtain⟨h1,h2⟩:=aB c;simp only[b2,a.ok h1,b.ok h2,At,zE,h]⟩
end
def RP(f:Ev->S β)(ρ:Ev)(c:α->β)(v:α)(D:S Prop):Prop:=hold D->f ρ=Z (c v)
theorem R.tp{f:Ev->S β}{c:α->β}{a:α}{b:S Prop}(x:R f ρ c)(e:x.v=a:=by kernel_rfl)(d:x.D=b:=by kernel_rfl):RP f ρ c a b:=λh=>by
 subst e d;exact x.ok h
def RP.r{f:Ev->S β}{c:α->β}{v:α}{D:S Prop}(h:RP f ρ c v D):R f ρ c:=⟨v,D,h⟩
theorem HU{p:Y α->Prop}(h:∀a,p [a]):∀us:Y α,us.length=1->p us
 |[a],_=>h a
theorem HC{p:Y α->Prop}(h:∀a b,p [a,b]):∀us:Y α,us.length=2->p us
 |[a,b],_=>h a b
theorem bS{p:Y α->Prop}(h:∀a b c,p [a,b,c]):∀us:Y α,us.length=3->p us
 |[a,b,c],_=>h a b c
theorem TM{p:Y α->Prop}(h:∀a b c d,p [a,b,c,d]):∀us:Y α,us.length=4->p us
 |[a,b,c,d],_=>h a b c d
theorem Z'{p:Y α->Prop}(h:∀a b c d e,p [a,b,c,d,e]):∀us:Y α,us.length=5->p us
 |[a,b,c,d,e],_=>h a b c d e
end P1
namespace P1
open L2 S1
end P1
namespace P1
open L2
section
variable{fs:Ev->S (Y Bx)}{g1 g2:Ev->S Ap}
end
section
variable{st:AB}{AS:Y AB}{g1 g2:Ev->S Ap}
end
section
variable{ks:Y V}{o:AE}
end
section
variable{M0 M1 M2 er:Expr}{f0 f2:Ev->S Bx}{d0 d2:Dt}{z0 z1 z2 z3:Pos}
end
section
variable{st:Y AB}{fr:Ev->S Bx}{i':Nat}{W:Y Nat}{z:Pos}
end
section
variable{a b c g1 g2:Ev->S Ap}{k:Nat}
end
end P1
namespace P1
open L2 S6
section
variable{kx vx t1 i1 t2 i2:Expr}{f1 f2:Y Expr}{xs:AZ}{g1 g2:Dt->Ev->S Ev}{p1 p2:Ev->S Bool}{fi1 fi2:Ev->S (Y Dt)}{fs:Ev->S (Y Dt)}{N m:Nat}
def cls2(fi:Ev->S (Y Dt))(gt:Dt->Ev->S Ev)(p:Ev->S Bool)(fs:Ev->S (Y Dt))(is:Y Nat)(n:Nat):Ev->S (Y Dt):=λρ=>(fi ρ).bind λds=>Cr gt p fs (jP is ρ++List.replicate n O) ds
end
end P1
namespace P1
open L2
section
variable{e:α->Dt}{e':β->Dt}{fs:Ev->S (Y Dt)}
end
def hx(h:A6)(a:A1):HO:=.ext λh'=>h'.get? a=h.get? a
section
variable{H2:Hp}{as:Y A1}
end
section
variable{l:A1}{gs:Y (Int×A1×Y Dt)}{k:Int}{x:Dt}{u:V}
end
section
variable{e1 e2 ev:Expr}{f2:Ev->S Bx}{w:AJ}{pw py py2 py3 px p1 p3 p4 pl a1 a2 c1 c2:Pos}
end
end P1
namespace P1
open L2 S6
section
variable{kx vx t1 i1 t2 i2:Expr}{f1 f2:Y Expr}{xs:AZ}{g1 g2:Dt->Ev->S Ev}{p1 p2:Ev->S Bool}{fi1 fi2:Ev->S (Y Dt)}{m:Nat}
end
end P1
namespace P1
open L2
section
variable{e:α->Dt}{e0:β->Dt}{fd f2:Ev->S Bx}{kk:Ev->S Ap}{cO:γ->Ap}
end
section
variable{e:α->Dt}{fs:Ev->S (Y Dt)}
end
section
variable{a:Expr}
end
theorem cV{bs:Y Bx}{c:α->Bx}{v:α}{D:S Prop}(x:RP g (bs.map Z++List.replicate (n-bs.length) O) (λr=>Ap.rt (c r)) v D)(h:hold D):dX n g bs=Z (c v):=OF x.r h
section
variable{e:α->Dt}
end
open PySem.Builtin PySem.Builtin.Str
section
variable{o:Expr}{fx:Ev->S Bx}
end
section
variable{g:Ev->S AJ}
end
section
variable{e1 e2 e3:Expr}{gr:Ev->S Ap}{fx:Ev->S Dt}{tR tQ:TS}{xr xj y1 y2:AJ}{AS no:Y AB}{kk:Nat}{p0 p00 p01 p02 q1 q2 pt pj pa px pb pif pf2 px3 a1 c1 pe1 pr a2 pj2 c2 pe2:Pos}
end
section
variable{e:α->Dt}{ea:β->Dt}{eb:δ->Dt}{kk:Ev->S Ap}{cO:γ->Ap}
end
end P1
namespace P1
open L2 S1
section
variable{k:Nat}{f:A1}{F:Y Bx->S Bx}{p:Pos}
end
end P1
namespace P1
open L2 S1 S6
theorem HL{p:Y α->Prop}(h:p []):∀us:Y α,us.length=0->p us
 |[],_=>h
section
variable{e:α->Dt}{g:Ev->S Bx}{c:α->Bx}
end
def Db(d:Dt):R (cB d) ρ (zE eD):=uy d eD d rfl
def B7(i:Int):R (cB (.int i)) ρ (zE eI):=uy (.int i) eI i rfl
def GS(s:AJ):R (cB (.str s)) ρ (zE eS):=uy (.str s) eS s rfl
abbrev Nn(K:B0)(n:AJ)(f:A1):Prop:=nsIn K mainGlobals n=Z (Z (.ref f))
abbrev Lk(K:B0)(f:A1)(n:AJ)(st:AB)(a:A0)(e:S A1)(sl:Array (S A0))(kV g d:A0)(c:S A1)(b ct:A0):Prop:=K.lookup f=Z ⟨a,e,.func (fnOf n n (sW st) (jd st) (aP st) .none kV g d c b ct),sl⟩
end P1
namespace P1
open L2
section
variable{e:α->Dt}
end
section
variable{Ex:BB}{outer:Y Env}{L e T:A1}{C fl:A0}{dx:S A1}{Q:Unit->A2->Prop}
end
section
variable{H':Hp}{h':A6}{ch:Y A1}
end
section
variable{g:Array GenState}{d:Drawn}{t:Nat}{fI e:A1}{AS:Y A0}{B:String}
end
section
variable{g:Array GenState}{d:Drawn}{t:Nat}{e:A1}
end
section
variable{g:Array GenState}{d:Drawn}{t:Nat}{e dx:A1}{v:A0}{vs:Array A0}{sl:Array (S A0)}{m:AJ->S A0}
end
section
variable{o value:Expr}{tv:TE}{f:AJ}{pos' p:Pos}{B:String}{t:TA}
end
section
variable{f:AJ}{p:Pos}{B:String}
end
section
variable{E:XK}
end
section
variable{Cn f:A1}{iv iy k:Nat}{n cn:AJ}{np hp p py pa:Pos}{b0:AB}{suite:Y AB}{ts:A1->TS}{tf:TE}{t:TA}
end
section
variable{d:A1}{fs:Y (AJ×V)}{f:AJ}{o:Expr}
end
section
variable{f:AJ}{E:XK}{gy:Ev->S Dt}{p:Pos}{st:AB}{AS a b:Y AB}{B:String}{pc:Ev->S Bool}
end
section
variable{k:Nat}{f h:A1}{F:Y Bx->S Bx}{fs:Ev->S (Y Bx)}{p q:Pos}
end
end P1
namespace P1
open L2 S6
section
variable{xs:AZ}
end
section
variable{e2 se:Expr}{fS:Ev->S AZ}{fx:Ev->S Dt}{no AS:Y AB}{tR tQ:TS}{p0 p02 px pb pif pk:Pos}{f:AJ}{E:XK}
end
end P1
namespace P1
open L2
section
variable{e1 e2 e3:Expr}{gr:Ev->S Ap}{xr xj y1 y2:AJ}{AS no:Y AB}{kk:Nat}{p0 p00 p01 p02 q1 q2 pt pj pa px pb pif pf2 px3 a1 c1 pe1 pr a2 pj2 c2 pe2:Pos}{fx:Ev->S Dt}{f:AJ}{E:XK}
end
section
variable{Cn f:A1}{iv k:Nat}{n cn:AJ}{np hp p pa:Pos}{b0:AB}{suite:Y AB}{ts:A1->TS}{tf:TE}{t:TA}
end
section
variable{fx:Ev->S Bx}
end
section
variable{l:A1}{xs:Array A0}
end
theorem vU:∀{AQ:Y A0} {a:Y Int},IntsAre AQ a->AX (a.map V.int) AQ
 |_,_,.nil=>.nil
 |_,_,.cons y t h=>.cons ⟨t,rfl⟩ (vU h)
section
variable{e:α->Dt}
end
section
variable{e:α->Dt}{ea:β->Dt}{eb:δ->Dt}{fx:Ev->S Dt}
end
def EL:Bx->Bx->S Bx
 |.o ds,.z (.int k)=>if 0<=k/\k<=1000/\ds.length<=1000 then Z (.o (List.replicate k.toNat ds).flatten)else O
 |_,_=>O
theorem Qa{K:B0}{H:Hp}{ds:Y Dt}{vs:Y V}(r:aO K H ds vs):∀n:Nat,aO K H (List.replicate n ds).flatten (List.replicate n vs).flatten
 |0=>aO.nil
 |n+1=>by
  rw[qr,qr,j0,j0];exact r.append (Qa r n)
theorem OK:Cq X (binaryOp .Mult) EL:=vR.imp VQ λx y H Q q=>by
 obtain⟨a,b,c,g,d,e,q⟩:=q;unfold EL at e;split at e
 ·rename_i ds k;split at e
  ·rename_i i;cases e;obtain⟨l,vs,rfl,f,rs⟩:=g;obtain rfl:y=.int k:=by simpa only[aW,AW]using d
   have h:=rs.length;have h1:vs.length*k.toNat<=1000*1000:=Nat.mul_le_mul (by omega) (by omega);refine⟨l,k,vs,rfl,rfl,f,by omega,by omega,ZE h1 (by decide),λp hp=>q _ _ (bU hp) (λa ea=>by cases ea;exact hp) ⟨p,_,rfl,bJ,?_⟩⟩;exact(Qa rs k.toNat).kp (.of (bU hp))
  ·cases e
 ·cases e
def To{e:α->Dt}(a:R fa ρ (oE e))(b:R fb ρ (zE eI)):R (b2 EL fa fb) ρ (oE e):=⟨(List.replicate b.v.toNat a.v).flatten,aY (aY a.D b.D) (Z (0<=b.v/\b.v<=1000/\a.v.length<=1000)),λh=>by
 obtain⟨h,c⟩:=aB h;obtain⟨h1,h2⟩:=aB h;have c:0<=b.v/\b.v<=1000/\a.v.length<=1000:=c;simp only[b2,a.ok h1,b.ok h2,At,EL,oE,zE,eI,zr];rw[zo c];have:∀n:Nat,(List.replicate n (a.v.map e)).flatten=(List.replicate n a.v).flatten.map e:=by
  intro n
  induction n with
  |zero=>rfl
  |succ n d=>rw[qr,qr,j0,j0,qh,d]
 rw[this]⟩
section
variable{e:α->Dt}{g:Ev->S β}{c:γ->β}
end
section
variable{E:XK}
end
section
variable{f:AJ}{E:XK}{fs:Ev->S (Y Bx)}{gy:Ev->S Dt}{p p1 epos:Pos}{st:AB}{AS:Y AB}
end
section
variable{o:Expr}
def LO:Dt->Bool
 |.non=>true
 |.tup _=>true
 |_=>false
def L6:Dt->Bool
 |.non=>true
 |_=>false
end
section
variable{o l:Expr}{fs:Ev->S (Y Bx)}{z:AJ}
end
instance {σ τ:Type} [Inhabited σ]:Inhabited (j4 σ τ):=⟨.nx default⟩
section
variable{e:α->Dt}
theorem MZ(a:∀x,∃ds,e x=.tup ds)(ys:Y (S α)):(ys.map (eO e)).all LO=true/\(L6 ∘ eO e)=Option.isNone:=by
 refine⟨?_,?_⟩
 ·rw[qo];intro d b;obtain⟨o,_,rfl⟩:=List.mem_map.mp b;cases o with
  |none=>rfl
  |some x=>obtain⟨ds,q⟩:=a x;show LO (e x)=true;rw[q];rfl
 ·funext o;cases o with
  |none=>rfl
  |some x=>obtain⟨ds,q⟩:=a x;show L6 (e x)=false;rw[q];rfl
end
section
variable{o e2:Expr}{fx fy:Ev->S Bx}
end
section
variable{f:AJ}{E:XK}{gy:Ev->S Dt}{st:AB}{sts AS:Y AB}{p0 p00 p01 p02:Pos}
end
structure DQ (K:B0) (mg:Str->Option Value) (x:Str) (st:Stmt) (ps:AZ) where
 f:Addr
 fd:FuncData
 F:Co K x x st f fd
 b:BY K fd ps []
 m:mg x=some (.ref f)
 k:keepIn K (.ref f)=true
def lN{st:AB}{f:A1}{m b:S A1}{sl:Array (S A0)}{i kV n d e ct:A0}(X:K.In h)(G:h.Ns mainGlobals mg)(a:Nn K x f)(l:Lk K f x st i m sl kV n d b e ct)(c:codeIn K e x=true)(k:keepIn K (.ref f)=true)(hb:∀(kV g d:A0) (b:S A1) (j ct:A0) (us:Y A0),us.length=ps.length->bindArgs (fnOf x x (sW st) (jd st) (aP st) .none kV g d b j ct) ⟨us,[]⟩=pure (ps.zip us):=by intro _ _ _ _ _ _;first|exact P1.HU λ_=>Y3|exact P1.HC λ_ _=>Y3|exact P1.bS λ_ _ _=>Y3|exact P1.TM λ_ _ _ _=>Y3|exact P1.Z' λ_ _ _ _ _=>Y3|exact P1.HL Y3):DQ K mg x st ps:=
 ⟨f,_,Yi l c k,(Yi l c k).binds hb,mg_of X G a,k⟩
theorem GI{v:Tok->A0}{tk:Tok}(X:K.In h)(G:h.Ns mainGlobals mg)(c:nsIn K mainGlobals x=Z (Z (v tk))):∃tk,mg x=Z (v tk):=⟨tk,mg_of X G c⟩
abbrev Ok(P:A3)(w:A4)(base:A6){st:AB}(d:DQ K mg x st ps)(k n:Nat)(F:Y Bx->S Bx):Prop:=uU P w K mg base Kr k d.f d.fd ps (Dx K n F)
theorem Ba{st:AB}{k m:Nat}(d:DQ K mg x st ps)(S:bL N ps (aP st))(e:∀(a:A0) (A:A5) (outer:Y Env) (s:A2) (H:Hp) (E:XK),nF k (A.deeper (AK x (aP st) s.heap.objs.size d.f a))->(A.deeper (AK x (aP st) s.heap.objs.size d.f a)).units+100<cLine->N.Nodup->Ra (DN Kr P w K mg base N x (aP st) d.f a A outer s H E).nox (jd st) g)(h:N.length=n:=by rfl)(c:ps.length=m:=by rfl):Ok P w base d (k+1) m (dX n g):=P9 d.F S h c λa A outer s H E b=>e a A outer s H E b (Ud b) S.nd
section
variable{k m:Nat}{st:AB}{F:Y Bx->S Bx}{fs:Ev->S (Y Bx)}{p:Pos}
theorem cH(d:DQ X.K X.mg x st ps)(G:Ok X.prog X.w X.base d k n F)(g:nF m X.A)(f:Xl X (e::es) fs)(a:Gl X x:=by rfl)(c:k<=m:=by decide)(i:(x==("__debug__":AJ))=false:=by decide)(he:A9 (e::es) X.env=(false,eval e X.env)::A9 es X.env:=by rfl)(h:(AD pos (A9 es X.env)).any (·.1)=false:=by rfl):QV X (.Call (.Name x p) (e::es) [] pos) (bY n F fs):=
 SL G (g.mono c) a d.m d.k d.b f i he h
end
theorem EV{q:A3}{loose:AZ}{d:DefRec}{K:Params->B0}{T:B0->(AJ->S A0)->Type}{k:Nat}{st:AB}{F_law:Y Bx->S Bx}(c:∀{K mg},T K mg->DQ K mg "law" st [x])(A:nF k callerA)(B:d.name ="law")(G:∀(w:A4) (mg:AJ->S A0) (base:A6) (t:T (K w.params) mg),Ok l.prog w base (c t) k 1 F_law)(C:l.most=Z 63)(v:d.params.defaults=[])(h1:∀b:Y Int,b.length<=63->F_law [.z (.lst (b.map .int))]=Z (.z (.bl true)))(h2:∀b:Y Int,b.length<=63->F_law [.l (b.map .int)]=Z (.z (.bl true)))(hb:∀(kV g o:A0) (i:S A1) (j ct u:A0),bindArgs (fnOf "law" "law" (sW st) (jd st) (aP st) .none kV g o i j ct) ⟨[u],[]⟩=pure [(x,u)])(p:∀(w:A4) (h:A6),YP w h->(K w.params).In h)(F:∀(w:A4) (mg:AJ->S A0) (h:A6),(K w.params).In h->h.Ns mainGlobals mg->T (K w.params) mg):
  PySem.W.WalkO q loose XP YP l.row.toRowW d [] (λf vs=>PySem.call f vs):=
 L2.Yh (n:=63) (k:=k) (x:=x) (CX:=Kr) (sp:=λK=>Dx K 1 F_law) C (by decide) v A p (λw mg fa h X N e=>by
  have t:=F w mg h X N;have D:=(c t).m;rw[B,D]at e;cases e;refine⟨(c t).fd,λs u=>?_,λbase _ _=>G w mg base t⟩;obtain⟨P,M,kV,g,o,i,j,ct,osl,e,J,L⟩:=(c t).F.ex;rw[e];exact .of_eq (hb kV g o i j ct u)) (λK H a b I y E=>Nd h1 h2 K H a b I y E) λ_ _ _ _ z=>z
section
variable{k:Nat}{f:A1}{sp:A1->Y V->Hp->VK->Prop}{p:Pos}{t:TA}
end
section
variable{p0 p1:Pos}{xs:AZ}{e:A1}{a:Expr}{ta:TA}
end
section
variable{f:AJ}{E:XK}{fs:Ev->S (Y Bx)}{p:Pos}
end
section
variable{g:Array GenState}{d:Drawn}{t:Nat}{AS:Y A0}{B:String}
end
section
variable{E:XK}{p:Pos}{B:String}{k:Nat}{t:TA}
end
section
variable{p kp cp:Pos}{fs:Ev->S (Y Bx)}{j:Int}{kk:Nat}
end
section
variable{e:α->Dt}
end
section
variable{g:Ev->S AJ}
variable{e:α->Dt}
end
section
variable{e:α->Dt}{σ' τ:Type}
def qE(e:α->Dt):S (Y α)->Bx
 |none=>.z .non
 |some l=>.o (l.map e)
def FK(e:α->Dt):S (Y α)->Bx
 |none=>.z .non
 |some l=>.l (l.map e)
def ZB:R (cB .non) ρ (qE e):=⟨O,O,λ_=>Y3⟩
def UI(a:R fa ρ (oE e)):R fa ρ (qE e):=⟨Z a.v,a.D,λh=>a.ok h⟩
theorem No{v:S (Y α)}(h:ρ[i]?=Z (Z (qE e v))):xH ρ i=Z (FK e v):=by
 unfold xH;rw[h];cases v<;>rfl
def OW(i:Nat)(e:α->Dt)(v:S (Y α))(h:ρ[i]?=Z (Z (qE e v))):R (gv i) ρ (FK e):=⟨v,O,λ_=>No h⟩
class GY (c:Option (List α)->Bx) (e:outParam (α->Dt)):Prop where
 d:∀v,toD (c v)=eO (eL e) v/\jQ (c v)=false
instance:GY (qE e) e:=⟨λv=>by cases v<;>exact⟨rfl,rfl⟩⟩
instance:GY (FK e) e:=⟨λv=>by cases v<;>exact⟨rfl,rfl⟩⟩
instance:GY (zE (eO (eL e))) e:=⟨λv=>⟨rfl,rfl⟩⟩
end
section
variable{p:Pos}{fs:Ev->S (Y Bx)}
end
section
variable{e:α->Dt}
end
section
variable{e:α->Dt}
end
section
variable{e:α->Dt}
def PQ(a:R fa ρ (FK e)):R (b2 yV fa (cB .non)) ρ (zE eB):=⟨a.v.isSome,a.D,λh=>by
 simp only[b2,a.ok h,At,cB,yV];cases a.v<;>rfl⟩
end
end P1
namespace P1
open L2 S1 S6
section
variable{e:α->Dt}
end
end P1
namespace P1
open L2
section
variable{e:α->Dt}
def Vc(a:R fa ρ (qE e)):R (b1 Aa fa) ρ (zE (eO (eL e))):=⟨a.v,a.D,λh=>by
 unfold b1;rw[a.ok h];cases a.v<;>rfl⟩
theorem WI{v:S (Y α)}(hi:ρ[i]?=Z (Z (qE e v)))(hs:v.isSome=true):Zz i ρ=Z (ρ.set i (Z (zE (eO (eL e)) v))):=by
 cases v with
 |none=>cases hs
 |some l=>
  have hi:ρ[i]?=Z (Z (.o (l.map e))):=hi;unfold Zz;rw[hi]
def VY{k:Ev->S Ap}{cO:γ->Ap}(i:Nat)(e:α->Dt)(v:S (Y α))(hi:ρ[i]?=Z (Z (qE e v)))(E:Ev)(a:ρ.set i (Z (zE (eO (eL e)) v))=E)(K:R (aH g k) E cO):R (aH (D4 i g) k) ρ cO:=⟨K.v,aY (Z (v.isSome=true)) K.D,λh=>by
 obtain⟨h1,h2⟩:=aB h;have:=K.ok h2;unfold aH at this ⊢;unfold D4;rw[WI hi h1,a];exact this⟩
end
theorem J1(h:pY d=true):∃x,d=.str x:=by
 cases d with
 |str x=>exact⟨x,rfl⟩
 |_=>cases h
theorem BL(h:B1 d=true):∃ds,d=.tup ds:=by
 cases d with
 |tup x=>exact⟨x,rfl⟩
 |_=>cases h
theorem U1(h:B1 d=true):Cy d=true:=by
 obtain⟨ds,rfl⟩:=BL h;rfl
theorem SW(h:d∈QK (.str x)):d=eS (Ly d):=by
 unfold QK BI at h;obtain⟨c,_,rfl⟩:=List.mem_map.mp h;rfl
theorem OM(x:AJ):(QK (.str x)).length=x.length:=W0 x
theorem C2(a b:AJ):wK a b=true↔yw a b/\a≠b:=by
 unfold wK yw;rw[ltCps_eq];simp only[ZY,Q2];constructor
 ·intro h;exact⟨List.lt_asymm h,λe=>by subst e;exact List.lt_irrefl _ h⟩
 ·intro⟨h,hn⟩;by_cases q:a.cps.toList<b.cps.toList
  ·exact q
  ·exact absurd (Ez (a:=a) (b:=b) (by unfold yw;rw[ltCps_eq];simpa using h) (by unfold yw;rw[ltCps_eq];simpa using q)) hn
theorem Ma{i:Int}(h:i∈rng 0 n):∃k:Nat,k<n/\i=(k:Int):=by
 unfold rng at h;obtain⟨k,a,rfl⟩:=List.mem_map.mp h;exact⟨k,List.mem_range.mp a,by omega⟩
end P1
namespace P1
open L2 S1 S6
def same(w:Y AZ)(x y:AJ):Prop:=∃s∈w,x∈s/\y∈s
end P1
section
set_option maxHeartbeats 1000000
namespace P1
open L2
open PySem.Builtin PySem.Builtin.Str
abbrev cs(s:AJ):Y Nat:=s.cps.toList
theorem Mf(a b:AJ):cs (a++b)=cs a++cs b:=Array.toList_append
theorem Gp(a:AJ):a.length=(cs a).length:=by simp[Str.length]
theorem OX(y p q:AJ)(ps:AZ):Str.join y (p::q::ps)=p++y++Str.join y (q::ps):=rfl
theorem W2{c:Nat}{s:AJ}(h:c∈cs s):Js ⟨#[c]⟩ s=true:=by
 unfold Js;obtain⟨i,hi⟩:=(mem_iff_at s c).mp h;rcases StrLaws.occ_head s ⟨#[c]⟩ 1 (zk 1)with⟨h0,a⟩|⟨i,r,h0,_,_⟩
 ·exact absurd hi (a i)
 ·rw[h0];rfl
theorem O3(h:n<=x.length):cs (Txt.slice x (Z (n:Int)) O)=(cs x).drop n:=by
 rw[slice_from_eq (b:=x.length) (by omega) (by omega) rfl];show((cs x).drop ((n:Int).toNat)).take _=_;rw[KS,List.take_of_length_le (by rw[k8,<-Gp];omega)]
theorem S0(h:n<=x.length):cs (Txt.slice x O (Z (n:Int)))=(cs x).take n:=by
 have:=slice_closes_to (x:=x) (j:=(n:Int)) ⟨by omega,by rw[show x.cps.toList.length=x.length by simp[Str.length]];omega⟩;rw[eq_of_beq this];show((cs x).drop 0).take _=_;simp
theorem P6:∀(y p:AJ) (ps:AZ),cs (Txt.join y (p::ps))=cs p++ps.flatMap λq=>cs y++cs q:=by
 intro y p ps;rw[show Txt.join y (p::ps)=Str.join y (p::ps) from StrLaws.glued_eq_join y _]
 induction ps generalizing p with
 |nil=>simp[Str.join]
 |cons q ps a=>rw[OX,Mf,Mf,a,List.flatMap_cons,qa,qa]
end P1
end
section
set_option maxHeartbeats 1000000
namespace P1
open L2 S1 S6
section
variable [Inhabited α]
end
section
variable{e:α->Dt} [rG e]
end
mutual
def Cz:Dt->Bool
 |.str s=>decide (s.length<=20)
 |.int i=>decide (i<=1000000)
 |.tup ds=>decide (ds.length<=20)&&IL ds
 |.non=>false
 |.bl _=>false
 |.lst _=>false
 |.emp=>false
def IL:Y Dt->Bool
 |[]=>true
 |d::ds=>Cz d&&IL ds
end
end P1
end
namespace P1
open L2
open PySem.Builtin PySem.Builtin.Str
end P1
section
set_option maxHeartbeats 1000000
namespace P1
open L2
open PySem.Builtin PySem.Builtin.Str
end P1
end
section
set_option synthInstance.maxSize 100000
namespace G28
open L2 P1
noncomputable section
abbrev dS:=Y P1.Dt
abbrev aD:Type:=Int×AJ×AJ×Int
abbrev aG:aD->Dt:=HN eI eS eS eI
abbrev bW:Type:=AJ×AJ×Int
abbrev bH:bW->Dt:=D8 eS eS eI
abbrev lO:Type:=AZ×(Y aD)×(Y bW)
abbrev cY:lO->Dt:=D8 (eT eS) (eT aG) (eT bH)
abbrev dO:Type:=aD×bW
abbrev rH:dO->Dt:=Xq aG bH
abbrev W3:Type:=(Y AZ)×(Y aD)×(Y dO)
abbrev wL:W3->Dt:=D8 (eL (eT eS)) (eL aG) (eL rH)
abbrev LL:Type:=Dt×Dt×Dt
abbrev Ix:LL->Dt:=D8 eD eD eD
abbrev P2:Type:=AJ×bW×(S (Y aD))×(S (Y aD))
abbrev ET:P2->Dt:=HN eS bH (eO (eL aG)) (eO (eL aG))
abbrev Me:Type:=(S (Y aD))×(S (Y aD))
abbrev IT:Me->Dt:=Xq (eO (eL aG)) (eO (eL aG))
def F8(d:Dt):LL:=(jA d 0,jA d 1,jA d 2)
def IX(d:Dt):aD:=(Sq (jA d 0),Ly (jA d 1),Ly (jA d 2),Sq (jA d 3))
def Qc(d:Dt):(Y aD):=(ZW d).map IX
def F2(d:Dt):bW:=(Ly (jA d 0),Ly (jA d 1),Sq (jA d 2))
def top(i:Nat):AB:=PySem.Challenge.pw_onefolk_k28_whole_fates_say_why.main.body.getD i (.Pass ⟨0,0,0,0⟩)
abbrev Gq:AB:=top 34
abbrev wV:AB:=top 35
abbrev BP:AB:=top 36
abbrev zG:AB:=top 37
abbrev zH:AB:=top 18
abbrev wW:AB:=top 30
abbrev zJ:AB:=top 19
abbrev wX:AB:=top 21
abbrev zK:AB:=top 20
abbrev zL:AB:=top 29
abbrev Gs:AB:=top 5
abbrev Gu:AB:=top 4
abbrev BR:AB:=top 13
abbrev zM:AB:=top 10
abbrev J2:AB:=top 9
abbrev Qd:AB:=top 16
abbrev BW:AB:=top 15
abbrev qj:AB:=top 27
abbrev BX:AB:=top 26
abbrev Gv:AB:=top 25
abbrev Qe:AB:=top 24
abbrev wY:AB:=top 32
abbrev J3:AB:=top 31
abbrev wZ:AB:=top 38
abbrev qK:AB:=top 39
abbrev rZ:AB:=top 40
abbrev zN:AB:=top 23
abbrev s_law:AB:=top 41
def fuel:Nat:=4
def w5:Ev->S Ap:=(aH (aH (Au 2 (b2 j9 (b2 jf (b2 yR (gv 2) (cB (.int 69621))) (gv 3)) (cB (.int 2147483647)))) d8) (cT [3]))
def tL:Ev->S Ap:=(aH (vV (qC DA (gv 1) (cZ Aq (aq (gv 0) aK))) (aH (gB (b2 fu (gv 0) (gv 1))) d8) d8) (aH (Au 2 (b2 j9 (b2 yR (cB (.int 48271)) (b2 jf (b2 jf (b2 yR (gv 1) (gv 1)) (b2 yR (cB (.int 7)) (gv 1))) (cB (.int 11)))) (cB (.int 2147483647)))) (aH (rE (Cc (Xm (gv 0) xO (Br (cB (.int 3))))) (jR 3) w5) (aH (gB (gv 2)) d8))))
def iT:Y Bx->S Bx:=dX 4 tL
def lW:Ev->S Ap:=(aH (aH (Au 3 (b2 j9 (b2 jf (b2 jf (b2 yR (gv 3) (b2 jf (b2 j9 (gv 3) (cB (.int 65521))) (cB (.int 40487)))) (b2 yR (cB (.int 7)) (gv 5))) (cB (.int 5))) (cB (.int 1999999973)))) (aH (Eu 2 (b2 fu (cZ nH (aq (gv 3) (aq (b2 j9 (gv 4) (cB (.int 1000000))) aK))) (cZ Wb (aq (b2 FO (gv 4) (cB (.int 0))) aK)))) (aH (Au 4 (b2 Od (gv 4) (cB (.int 1000000)))) d8))) (cT [5]))
def mK:Ev->S Ap:=(aH (Au 2 (cZ nH aK)) (aH (Au 3 (b2 j9 (b2 yR (b2 jf (b2 j9 (gv 0) (cB (.int 1999999973))) (cB (.int 31))) (cB (.int 765432101))) (cB (.int 1999999973)))) (aH (Au 4 (cB (.int 0))) (aH (vV (Yo (qC DA (gv 0) (cB (.int 0))) (qC FV (gv 0) (b2 HG (cB (.int 10)) (cB (.int 18))))) (aH (aH (Au 4 (cZ YG (aq (gv 0) aK))) d8) (cT [])) (aH d8 (cT []))) (aH (rE (Xn (aq (gv 1) aK)) (jR 5) lW) (aH (Eh 2) d8))))))
def eG:Y Bx->S Bx:=dX 6 mK
def ql:Ev->S Ap:=(aH (aH (Au 7 (b2 fu (gv 2) (b2 j9 (b2 jf (gv 6) (b2 fu (gv 0) (cB (.int 2)))) (cB (.int 15))))) (aH (Au 8 (b2 jf (b2 jf (Xm (gv 3) xO (Br (gv 4))) (gv 7)) (Xm (gv 3) (Br (gv 4)) xO))) (aH (vV (qC BQ (b2 j9 (b2 fu (gv 0) (cB (.int 3))) (cB (.int 3))) (cB (.int 1))) (aH (aH (Au 8 (b2 yR (b2 fu (gv 2) (b2 Od (gv 6) (cB (.int 8)))) (b2 jf (cB (.int 1)) (b2 j9 (gv 6) (cB (.int 8)))))) d8) (cT [])) (aH d8 (cT []))) (aH (Eu 5 (gv 8)) d8)))) (cT [6,7,8]))
def qL:Ev->S Ap:=(aH (Au 2 (cB (.str "abcdefghijklmnopqrstuvwxyz"))) (aH (Au 3 (b1 (Om "") (gk (Xn (aq (b2 j9 (b2 fu (gv 0) (cB (.int 0))) (cB (.int 6))) aK)) (jR 2) xP (b2 fu (gv 0) (b2 j9 (b2 Od (b2 fu (gv 1) (gv 2)) (cB (.int 40))) (cB (.int 26)))) [2,0] 1))) (aH (Au 4 (b2 j9 (b2 fu (gv 0) (cB (.int 1))) (b2 jf (cZ Aq (aq (gv 3) aK)) (cB (.int 1))))) (aH (Au 5 (cZ nH aK)) (aH (rE (Xn (aq (gv 1) aK)) (jR 6) ql) (aH (Eh 5) d8))))))
def nQ:Y Bx->S Bx:=dX 9 qL
def n6:Ev->S Ap:=(aH (aH (Au 9 (bY 2 eG (aq (b1 Aa (bY 2 iT (aq (gv 0) (aq (b1 Aa (b2 jf (b2 jf (gv 1) (cB (.int 1))) (gv 8))) aK)))) (aq (cB (.int 4)) aK)))) (aH (YK 10 11 (aq (b2 j9 (b2 fu (gv 9) (cB (.int 0))) (cZ Fb (aq (cB (.int 1)) (aq (gv 2) aK)))) (aq (b2 j9 (b2 fu (gv 9) (cB (.int 1))) (cZ Fb (aq (cB (.int 1)) (aq (gv 2) aK)))) aK))) (aH (Au 12 (b2 fu (cZ nH (aq (b1 Aa (b2 jf (cB (.int 1)) (b2 j9 (b2 fu (gv 9) (cB (.int 2))) (cB (.int 3))))) (aq (b1 Aa (b2 jf (cB (.int 1)) (b2 j9 (b2 fu (gv 9) (cB (.int 2))) (cB (.int 9))))) (aq (b1 Aa (b2 jf (cB (.int 1)) (b2 j9 (b2 fu (gv 9) (cB (.int 2))) (cB (.int 1000))))) aK)))) (b2 j9 (b2 fu (gv 5) (cB (.int 4))) (cB (.int 3))))) (aH (vV (qC KD (gv 10) (gv 11)) (aH (aH (Eu 7 (cZ jC (aq (b2 C8 (cB (.int 0)) (gv 12)) (aq (b2 fu (gv 6) (cZ Rq (aq (gv 10) (aq (gv 11) aK)))) (aq (b2 fu (gv 6) (cZ Fb (aq (gv 10) (aq (gv 11) aK)))) (aq (b2 fu (cZ nH (aq (cB (.int 0)) (aq (cB (.int 2)) (aq (cB (.int 10)) aK)))) (b2 j9 (b2 fu (gv 9) (cB (.int 3))) (cB (.int 3)))) aK)))))) d8) (cT [])) (aH d8 (cT []))) d8)))) (cT [8,9,10,11,12]))
def n8:Ev->S Ap:=(aH (aH (Au 9 (bY 2 eG (aq (b1 Aa (bY 2 iT (aq (gv 0) (aq (b1 Aa (b2 jf (b2 jf (gv 1) (cB (.int 1))) (gv 8))) aK)))) (aq (cB (.int 8)) aK)))) (aH (YK 10 11 (aq (b2 j9 (b2 fu (gv 9) (cB (.int 5))) (cZ Fb (aq (cB (.int 1)) (aq (gv 2) aK)))) (aq (b2 j9 (b2 fu (gv 9) (cB (.int 6))) (cZ Fb (aq (cB (.int 1)) (aq (gv 2) aK)))) aK))) (aH (vV (qC KD (gv 10) (gv 11)) (aH (aH (Eu 14 (cZ jC (aq (b2 fu (gv 6) (cZ Rq (aq (gv 10) (aq (gv 11) aK)))) (aq (b2 fu (gv 6) (cZ Fb (aq (gv 10) (aq (gv 11) aK)))) (aq (b2 fu (cZ nH (aq (cB (.int 2)) (aq (cB (.int 10)) aK))) (b2 j9 (b2 fu (gv 9) (cB (.int 7))) (cB (.int 2)))) aK))))) d8) (cT [])) (aH d8 (cT []))) d8))) (cT [8,9,10,11]))
def oY:Ev->S Ap:=(aH (Au 5 (bY 2 eG (aq (b1 Aa (bY 2 iT (aq (gv 0) (aq (gv 1) aK)))) (aq (cB (.int 6)) aK)))) (aH (Au 6 (cZ Jw (aq (bY 2 nQ (aq (gv 5) (aq (gv 2) aK))) aK))) (aH (Au 7 (cZ nH aK)) (aH (rE (Xn (aq (gv 3) aK)) (jR 8) n6) (aH (Au 13 (gk (K3 (FJ (RW (gv 7)))) (pX 4 (bZ (jR 0) (bZ (jR 1) (bZ (jR 2) (bZ (jR 3) rQ))))) xP (cZ jC (aq (b2 C8 (cB (.int 0)) (gv 0)) (aq (gv 1) (aq (gv 2) (aq (gv 3) aK))))) [] 4)) (aH (Au 14 (cZ nH aK)) (aH (rE (Xn (aq (gv 4) aK)) (jR 8) n8) (aH (gB (cZ jC (aq (cZ kE (aq (gv 6) aK)) (aq (cZ kE (aq (gv 13) aK)) (aq (cZ kE (aq (FJ (RW (gv 14))) aK)) aK))))) d8))))))))
def oZ:Y Bx->S Bx:=dX 15 oY
def o7:Ev->S Ap:=(aH (gB (Uw (K3 (gv 0)) (jR 0) xP (gv 0) (gv 0) [] 1)) d8)
def jh:Y Bx->S Bx:=dX 1 o7
def su:Ev->S Ap:=(aH (aH (vV (Yo (Ea (qC BQ (b2 jY (gv 1) (b2 fu (gv 4) (cB (.int 0)))) (gv 2)) (qC BQ (b2 jY (gv 1) (b2 fu (gv 4) (cB (.int 1)))) (gv 3))) (Ea (qC BQ (b2 jY (gv 1) (b2 fu (gv 4) (cB (.int 0)))) (gv 3)) (qC BQ (b2 jY (gv 1) (b2 fu (gv 4) (cB (.int 1)))) (gv 2)))) (aH (gB (gv 4)) d8) d8) d8) (cT [4]))
def mL:Ev->S Ap:=(aH (rW 0 (jR 4) su) (aH (gB (cB .non)) d8))
def mO:Y Bx->S Bx:=dX 5 mL
def uG:Ev->S Ap:=(aH (aH (vV (Yo (qC BQ (b2 jY (gv 0) (gv 4)) (gv 1)) (qC BQ (b2 jY (gv 0) (gv 4)) (gv 2))) (aH (aH (Ug 0 (gv 3) (gv 4)) d8) (cT [])) (aH d8 (cT []))) d8) (cT [4]))
def o8:Ev->S Ap:=(aH (aH (Au 3 (cZ FQ (aq (gv 1) (aq (gv 2) aK)))) (aH (rE (Cc (cZ FT (aq (gv 0) aK))) (jR 4) uG) d8)) (cT [3,4]))
def gQ:A1->Y (AY×Dt)->Y Bx->S (Y (AY×Dt)):=Pq 5 o8
def mQ:Ev->S Ap:=(aH (gB (cZ kE (aq (gk (Pj (gv 0)) (jR 2) (qC BQ (b2 jY (gv 1) (gv 2)) (gv 0)) (gv 2) [1,0] 1) aK))) d8)
def mR:Y Bx->S Bx:=dX 2 mQ
def o9:Ev->S Ap:=(aH (gB (gk (Pj (gv 0)) (jR 1) (qC BQ (b2 jY (gv 0) (gv 1)) (gv 1)) (b1 Aa (bY 2 mR (aq (gv 0) (aq (gv 1) aK)))) [0] 1)) d8)
def pq:Y Bx->S Bx:=dX 1 o9
def uH:Ev->S Ap:=(aH (aH (Au 8 (b2 jY (gv 4) (b2 fu (gv 7) (cB (.int 1))))) (aH (Au 9 (b2 jY (gv 4) (b2 fu (gv 7) (cB (.int 2))))) (aH (vV (qC KD (gv 8) (gv 9)) (aH (aH (Au 10 (bY 4 mO (aq (gv 3) (aq (gv 4) (aq (gv 8) (aq (gv 9) aK)))))) (aH (vV (qC EW (gv 10) (cB .non)) (aH (aH (BJ 4 2 gQ (aq (gv 8) (aq (gv 9) aK))) (aH (Eu 5 (gv 7)) d8)) (cT [])) (aH (aH (Eu 6 (cZ jC (aq (gv 7) (aq (gv 10) aK)))) d8) (cT []))) d8)) (cT [10])) (aH d8 (cT [10]))) d8))) (cT [7,8,9,10]))
def pA:Ev->S Ap:=(aH (Ro (pX 3 (bZ (jR 1) (bZ (jR 2) (bZ (jR 3) rQ)))) (gv 0)) (aH (Au 4 (bY 1 jh (aq (gv 1) aK))) (aH (Au 5 (cZ nH aK)) (aH (Au 6 (cZ nH aK)) (aH (rW 2 (jR 7) uH) (D4 5 (D4 6 (aH (gB (cZ jC (aq (b1 Aa (bY 1 pq (aq (gv 4) aK))) (aq (gv 5) (aq (gv 6) aK))))) d8))))))))
def dD:Y Bx->S Bx:=dX 11 pA
def tM:Ev->S Ap:=(aH (gB (yK (Et B1 (gv 0)) (b2 BQ (cZ Aq (aq (gv 0) aK)) (gv 1)))) d8)
def lX:Y Bx->S Bx:=dX 2 tM
def tO:Ev->S Ap:=(aH (gB (yK (Et Ao (gv 0)) (FA (Et BN (gv 0))))) d8)
def lY:Y Bx->S Bx:=dX 1 tO
def qM:Ev->S Ap:=(aH (gB (yK (bY 1 lY (aq (gv 0) aK)) (EH EI EI (cB (.int 1)) (gv 0) (cB (.int 1000))))) d8)
def qN:Y Bx->S Bx:=dX 1 qM
def pB:Ev->S Ap:=(aH (gB (yK (Et pY (gv 0)) (yK (EH EI EI (cB (.int 1)) (cZ Aq (aq (gv 0) aK)) (gv 2)) (cZ CL (aq (gk (K3 (gv 0)) (jR 1) xP (b2 Fs (gv 1) (gv 0)) [1] 1) aK))))) d8)
def pC:Y Bx->S Bx:=dX 3 pB
def wA:Ev->S Ap:=(aH (gB (bY 3 pC (aq (gv 0) (aq (cB (.str "abcdefghijklmnopqrstuvwxyz")) (aq (cB (.int 8)) aK))))) d8)
def sy:Y Bx->S Bx:=dX 1 wA
def zO:Ev->S Ap:=(aH (vV (Q8 (tV (bY 2 lX (aq (gv 0) (aq (cB (.int 3)) aK))))) (aH (gB (cB (.bl false))) d8) d8) (aH (Ro (pX 3 (bZ (jR 1) (bZ (jR 2) (bZ (jR 3) rQ)))) (gv 0)) (aH (gB (yK (bY 1 sy (aq (gv 1) aK)) (yK (bY 1 sy (aq (gv 2) aK)) (yK (b2 DA (gv 1) (gv 2)) (yK (bY 1 lY (aq (gv 3) aK)) (b2 FV (gv 3) (cB (.int 0)))))))) d8)))
def zP:Y Bx->S Bx:=dX 4 zO
def qO:Ev->S Ap:=(aH (gB (yK (bY 2 lX (aq (gv 0) (aq (cB (.int 4)) aK))) (yK (bY 1 qN (aq (b2 fu (gv 0) (cB (.int 0))) aK)) (bY 1 zP (aq (b1 Aa (Xm (gv 0) (Br (cB (.int 1))) xO)) aK))))) d8)
def qP:Y Bx->S Bx:=dX 1 qO
def gR:Ev->S Ap:=(aH (aH (vV (Yo (Q8 (tV (bY 1 qP (aq (gv 1) aK)))) (qC Zx (gv 1) (b2 fu (gv 0) (cB (.int 1))))) (aH HH d8) d8) d8) (cT []))
def gU:Y Bx->S Bx:=dX 2 gR
def qQ:Ev->S Ap:=(aH (vV (qC BQ (b2 fu (gv 0) (cB (.int 1))) (gv 1)) (aH (gB (b2 fu (gv 0) (cB (.int 2)))) d8) d8) (aH (vV (qC BQ (b2 fu (gv 0) (cB (.int 2))) (gv 1)) (aH (gB (b2 fu (gv 0) (cB (.int 1)))) d8) d8) (aH (gB (cB .non)) d8)))
def j5:Y Bx->S Bx:=dX 2 qQ
def w6:Ev->S Ap:=(aH (aH (Eu 2 (b2 jY (gv 0) (gv 3))) (aH (Au 3 (bY 2 j5 (aq (b2 jY (gv 0) (gv 3)) (aq (gv 3) aK)))) d8)) (cT []))
def tX:Ev->S Ap:=(aH (Au 2 (cZ nH aK)) (aH (Au 3 (gv 1)) (aH (WM (qC yV (b2 jY (gv 0) (gv 3)) (cB .non)) w6 70) (aH (Eh 2) d8))))
def tY:Y Bx->S Bx:=dX 4 tX
def BZ:Ev->S Ap:=(aH (aH (Au 7 (bY 2 j5 (aq (gv 6) (aq (gv 5) aK)))) (aH (vV (Ea (qC yV (gv 7) (cB .non)) (qC WR (gv 7) (gv 3))) (aH (aH (Ug 3 (gv 6) (gv 7)) (aH (Eu 4 (gv 7)) d8)) (cT [])) (aH d8 (cT []))) d8)) (cT [6,7]))
def Ca:Ev->S Ap:=(aH (aH (ZD 5 4 (cB (.int 0))) (aH (rW 0 (jR 6) BZ) d8)) (cT [5,6,7]))
def zQ:Ev->S Ap:=(aH (Au 3 (b2 JN (gv 1) (cB .non))) (aH (Au 4 (cZ nH (aq (gv 1) aK))) (aH (WM (tV (gv 4)) Ca 70) (aH (vV (qC WR (gv 2) (gv 3)) (aH (gB (cB .non)) d8) d8) (aH (gB (b2 WT (bY 2 tY (aq (gv 3) (aq (gv 2) aK))) (b1 Yx (cB (.int 1))))) d8)))))
def kY:Y Bx->S Bx:=dX 8 zQ
def mU:Ev->S Ap:=(aH (Au 3 (bY 3 kY (aq (gv 0) (aq (b2 fu (gv 1) (cB (.int 1))) (aq (b2 fu (gv 2) (cB (.int 0))) aK))))) (aH (vV (qC yV (gv 3) (cB .non)) (D4 3 (aH (gB (cZ jC (aq (gv 3) (aq (b1 Aa (bY 3 kY (aq (gv 0) (aq (b2 fu (gv 1) (cB (.int 2))) (aq (b2 fu (gv 2) (cB (.int 1))) aK))))) aK)))) d8)) d8) (aH (gB (cZ jC (aq (b1 Aa (bY 3 kY (aq (gv 0) (aq (b2 fu (gv 1) (cB (.int 1))) (aq (b2 fu (gv 2) (cB (.int 1))) aK))))) (aq (b1 Aa (bY 3 kY (aq (gv 0) (aq (b2 fu (gv 1) (cB (.int 2))) (aq (b2 fu (gv 2) (cB (.int 0))) aK))))) aK)))) d8)))
def mV:Y Bx->S Bx:=dX 4 mU
def zR:Ev->S Ap:=(aH (aH (vV (qC BQ (gv 5) (gv 1)) (aH (gB (b2 jf (cZ jC (aq (cB (.str "barred")) (aq (gv 6) aK))) (bY 3 mV (aq (gv 3) (aq (gv 1) (aq (gv 6) aK)))))) d8) d8) d8) (cT [5,6]))
def wB:Ev->S Ap:=(aH (UJ (bY 2 gU (aq (gv 0) (aq (gv 1) aK)))) (aH (Ro (pX 3 (bZ (jR 2) (bZ (jR 3) (bZ (jR 4) rQ)))) (bY 1 dD (aq (gv 0) aK))) (aH (vV (qC EJ (gv 1) (gv 3)) (aH (gB (cZ jC (aq (cB (.str "kept")) aK))) d8) d8) (aH (rW 4 (pX 2 (bZ (jR 5) (bZ (jR 6) rQ))) zR) (aH (gB (cZ jC (aq (cB (.str "beside")) (aq (b1 Aa (bY 3 kY (aq (gv 3) (aq (b2 fu (gv 1) (cB (.int 1))) (aq (b2 fu (gv 1) (cB (.int 2))) aK))))) aK)))) d8)))))
def lZ:Y Bx->S Bx:=dX 7 wB
def mX:Ev->S Ap:=(aH (Au 1 (cZ xW (aq (gk (K3 (gv 0)) (pX 4 (bZ (jR 0) (bZ (jR 1) (bZ (jR 2) (bZ (jR 3) rQ))))) xP (cZ jC (aq (b2 C8 (cB (.int 0)) (gv 0)) (aq (gv 1) (aq (gv 2) (aq (gv 3) aK))))) [] 4) aK))) (aH (gB (cZ kE (aq (gk (K3 (gv 1)) (pX 4 (bZ (jR 0) (bZ (jR 1) (bZ (jR 2) (bZ (jR 3) rQ))))) xP (cZ jC (aq (b2 C8 (cB (.int 0)) (gv 0)) (aq (gv 1) (aq (gv 2) (aq (gv 3) aK))))) [] 4) aK))) d8))
def jF:Y Bx->S Bx:=dX 2 mX
def nR:Ev->S Ap:=(aH (aH (vV (tV (Et BH (gv 5))) (aH (aH (Au 4 (b2 jf (gv 4) (gv 5))) d8) (cT [])) (aH d8 (cT []))) d8) (cT [5]))
def iI:Ev->S Ap:=(aH (Au 3 (bY 2 lZ (aq (gv 0) (aq (gv 1) aK)))) (aH (Au 4 (cZ nH aK)) (aH (rE (Cc (Xm (gv 3) (Br (cB (.int 1))) xO)) (jR 5) nR) (aH (Au 6 (cZ jC aK)) (aH (vV (qC BQ (b2 fu (gv 3) (cB (.int 0))) (cB (.str "barred"))) (aH (aH (Au 6 (cZ jC (aq (b2 fu (gv 3) (cB (.int 1))) aK))) d8) (cT [])) (aH d8 (cT []))) (aH (vV (qC BQ (b2 fu (gv 3) (cB (.int 0))) (cB (.str "kept"))) (aH (aH (Au 4 (gk (K3 (gv 2)) (jR 1) (Ea (qC BQ (b2 fu (bY 1 jF (aq (b1 Aa (cZ nH (aq (gv 1) (aq (gv 0) aK)))) aK)) (cB (.int 0))) (gv 1)) (qC KD (gv 1) (gv 0))) (gv 1) [1] 1)) (aH (Au 6 (b2 fu (gv 0) (cB (.int 2)))) d8)) (cT [])) (aH d8 (cT []))) (aH (Au 7 (cZ jC (aq (b2 fu (gv 0) (cB (.int 0))) (aq (b1 Aa (bY 1 jF (aq (b1 Aa (b2 jf (gv 4) (cZ nH (aq (gv 1) aK)))) aK))) (aq (gv 6) aK))))) (aH (Au 8 (bY 2 lZ (aq (gv 7) (aq (gv 1) aK)))) (aH (vV (Yo (qC KD (b2 fu (gv 8) (cB (.int 0))) (b2 fu (gv 3) (cB (.int 0)))) (Ea (qC BQ (b2 fu (gv 3) (cB (.int 0))) (cB (.str "barred"))) (qC KD (b2 fu (gv 8) (cB (.int 1))) (b2 fu (gv 3) (cB (.int 1)))))) (aH (gB (cB (.bl false))) d8) d8) (aH (gB (b2 BQ (cZ xW (aq (b2 fu (bY 1 dD (aq (gv 7) aK)) (cB (.int 1))) aK)) (cZ xW (aq (b2 jf (gv 4) (b2 EL (cZ nH (aq (gv 1) aK)) (cZ Wb (aq (b2 BQ (b2 fu (gv 3) (cB (.int 0))) (cB (.str "kept"))) aK)))) aK)))) d8))))))))))
def iJ:Y Bx->S Bx:=dX 9 iI
def oO:Ev->S Ap:=(aH (aH (Au 8 (bY 2 lZ (aq (cZ jC (aq (gv 2) (aq (gv 3) (aq (cZ kE (aq (gk (K3 (gv 4)) (jR 1) (qC KD (gv 1) (gv 0)) (gv 1) [7] 1) aK)) aK)))) (aq (gv 6) aK)))) (aH (vV (Ea (qC BQ (b2 fu (gv 8) (cB (.int 0))) (cB (.str "barred"))) (qC BQ (b2 fu (gv 8) (cB (.int 1))) (gv 7))) (aH (gB (cB (.bl false))) d8) d8) d8)) (cT [6,7,8]))
def ji:Ev->S Ap:=(aH (Ro (pX 3 (bZ (jR 2) (bZ (jR 3) (bZ (jR 4) rQ)))) (gv 0)) (aH (Au 5 (gk (K3 (gv 4)) (jR 1) (qC EJ (gv 1) (gk (K3 (b2 fu (gv 0) (cB (.int 2)))) (jR 0) xP (b2 fu (gv 0) (cB (.int 1))) [] 1)) (gv 1) [1] 1)) (aH (vV (Yo (qC KD (bY 1 dD (aq (cZ jC (aq (gv 2) (aq (gv 3) (aq (cZ kE (aq (gv 5) aK)) aK)))) aK)) (gv 1)) (qC KD (b2 fu (bY 1 dD (aq (cZ jC (aq (gv 2) (aq (gv 3) (aq (cZ jC aK) aK)))) aK)) (cB (.int 2))) (cZ nH aK))) (aH (gB (cB (.bl false))) d8) d8) (aH (rE (Cc (b2 fu (gv 1) (cB (.int 2)))) (pX 2 (bZ (jR 6) (bZ (jR 7) rQ))) oO) (aH (gB (cB (.bl true))) d8)))))
def jk:Y Bx->S Bx:=dX 9 ji
def uI:Ev->S Ap:=(aH (aH (Au 7 (b2 jY (gv 4) (b2 fu (gv 6) (cB (.int 1))))) (aH (Au 8 (b2 jY (gv 4) (b2 fu (gv 6) (cB (.int 2))))) (aH (vV (qC KD (gv 7) (gv 8)) (aH (aH (BJ 4 2 gQ (aq (gv 7) (aq (gv 8) aK))) (aH (Eu 5 (gv 6)) d8)) (cT [])) (aH d8 (cT []))) d8))) (cT [6,7,8]))
def pD:Ev->S Ap:=(aH (Ro (pX 3 (bZ (jR 1) (bZ (jR 2) (bZ (jR 3) rQ)))) (gv 0)) (aH (Au 4 (bY 1 jh (aq (gv 1) aK))) (aH (Au 5 (cZ nH aK)) (aH (rW 2 (jR 6) uI) (aH (Eh 5) d8)))))
def pF:Y Bx->S Bx:=dX 9 pD
def Qf:Ev->S Ap:=(aH (aH (Au 2 (bY 2 eG (aq (b1 Aa (bY 2 iT (aq (gv 0) (aq (gv 1) aK)))) (aq (cB (.int 9)) aK)))) (aH (Au 3 (bY 5 oZ (aq (gv 0) (aq (gv 1) (aq (b2 j9 (b2 fu (gv 2) (cB (.int 6))) (cB (.int 10))) (aq (b2 j9 (b2 fu (gv 2) (cB (.int 7))) (cB (.int 15))) (aq (b2 j9 (b2 fu (gv 2) (cB (.int 8))) (cB (.int 7))) aK))))))) (aH (Au 4 (bY 1 dD (aq (gv 3) aK))) (aH (vV (Q8 (tV (cZ CL (aq (gk (K3 (b2 fu (gv 3) (cB (.int 1)))) (jR 2) xP (b1 Aa (bY 3 iJ (aq (gv 0) (aq (gv 2) (aq (b2 fu (gv 1) (cB (.int 1))) aK))))) [3,4] 1) aK)))) (aH (gB (cB (.bl false))) d8) d8) (aH (vV (Q8 (tV (bY 2 jk (aq (gv 3) (aq (gv 4) aK))))) (aH (gB (cB (.bl false))) d8) d8) (aH (YK 5 6 (aq (b1 Aa (cZ WQ (aq (gk (K3 (b2 fu (gv 4) (cB (.int 1)))) (jR 0) xP (b2 fu (gv 0) (cB (.int 0))) [] 1) aK))) (aq (b1 Aa (cZ WQ (aq (gk (K3 (bY 1 pF (aq (gv 3) aK))) (jR 0) xP (b2 fu (gv 0) (cB (.int 0))) [] 1) aK))) aK))) (aH (vV (Yo (qC FO (gv 5) (gv 6)) (Ea (qC BQ (b2 fu (gv 4) (cB (.int 2))) (cZ nH aK)) (qC KD (gv 5) (gv 6)))) (aH (gB (cB (.bl false))) d8) d8) d8))))))) (cT [1,2,3,4,5,6]))
def Vd:Ev->S Ap:=(aH (rE (Xn (aq (cZ Fb (aq (cB (.int 1)) (aq (cZ Rq (aq (cZ Aq (aq (gv 0) aK)) (aq (cB (.int 2)) aK))) aK))) aK)) (jR 1) Qf) (aH (gB (cB (.bl true))) d8))
def F_law:Y Bx->S Bx:=dX 7 Vd
end
end G28
end
section
set_option synthInstance.maxSize 100000
namespace G28
open L2 P1
structure T (K:B0) (mg:Str->Option Value) where
 iU:DQ K mg "_law_cell" Gq ["_law_script","_law_k"]
 eU:DQ K mg "_law_numbers" wV ["_law_cell_here","_law_many"]
 qR:DQ K mg "_law_names" BP ["_law_xs","_law_many"]
 pG:DQ K mg "_law_ground" zG ["_law_script","_law_at","_law_many","_law_reasons","_law_bars"]
 jl:DQ K mg "lone_heads" zH ["names"]
 mY:DQ K mg "bar_between" wW ["bars","heads","one","other"]
 cN:DQ K mg "join_heads" zJ ["heads","one","other"]
 mZ:DQ K mg "names_under" wX ["heads","head"]
 pH:DQ K mg "sets_under" zK ["heads"]
 dF:DQ K mg "joining_of" zL ["ground"]
 mj:DQ K mg "is_tuple" Gs ["thing","many"]
 mq:DQ K mg "is_whole" Gu ["thing"]
 qT:DQ K mg "is_weight" BR ["thing"]
 pI:DQ K mg "is_text_of" zM ["thing","signs","longest"]
 sE:DQ K mg "is_name" J2 ["thing"]
 zT:DQ K mg "is_bar" Qd ["thing"]
 qU:DQ K mg "is_reason" BW ["thing"]
 gW:DQ K mg "refuse_no_reason" qj ["ground","reason"]
 j6:DQ K mg "other_end" BX ["reason","name"]
 tZ:DQ K mg "way_back" Gv ["came_by","end"]
 kZ:DQ K mg "way_by" Qe ["reasons","start","end"]
 m5:DQ K mg "ways_to_bar" wY ["kept","reason","bar"]
 mz:DQ K mg "fate_of" J3 ["ground","reason"]
 jG:DQ K mg "_law_ordered" wZ ["_law_reasons"]
 iK:DQ K mg "_law_alone_right" qK ["_law_ground_here","_law_reason","_law_kept"]
 jq:DQ K mg "_law_bars_right" rZ ["_law_ground_here","_law_told"]
 pJ:DQ K mg "holding_of" zN ["ground"]
 x_law:DQ K mg "law" s_law ["_law_script"]
 aiz:mg "abs"=none
 aek:mg "all"=none
 agl:mg "bool"=none
 aay:mg "int"=none
 lg:mg "isinstance"=none
 Qg:mg "len"=none
 aaz:mg "list"=none
 Gw:mg "max"=none
 Ve:mg "min"=none
 wC:mg "range"=none
 ael:mg "set"=none
 sI:mg "sorted"=none
 aiA:mg "str"=none
 aem:mg "sum"=none
 qW:mg "tuple"=none
 W4:∃tk,mg "LETTERS"=some (.str "abcdefghijklmnopqrstuvwxyz" tk)
 Gy:∃tk,mg "LONGEST_NAME"=some (.int 8 tk)
 HS:∃tk,mg "MOST_WEIGHT"=some (.int 1000 tk)
section
variable(t:T K mg)
theorem Qh:bL ["_law_script","_law_k","_law_state","_law_cell_here"] ["_law_script","_law_k"] (aP Gq):=lK
theorem Qi:Ok P w base t.iU 1 2 iT:=Ba (g:=tL) t.iU Qh λ_ _ _ _ _ _ b a nd=>(au (gj (bT Rp (aj 1) (cg Er Y3 t.Qg Ep (ak (aj 0) aC)) (bN _)) (au (cF (bf (aj 0) (aj 1))) aJ) aJ) (au (bC 2 nd (bI d7 (bI u0 aF (bI fB (bI fB (bI u0 (aj 1) (aj 1)) (bI u0 aF (aj 1))) aF)) aF)) (au (tu PassesOwn.never Y3 (Dh (Oj (aj 0) u6 (u9 aF))) (aR 3 nd) (aV [3] (au (bC 2 nd (bI d7 (bI fB (bI u0 (aj 2) aF) (aj 3)) aF)) aJ))) (au (cF (aj 2)) aJ))))
theorem Gz:bL ["_law_cell_here","_law_many","_law_found","_law_state","_law_digits","_law_k"] ["_law_cell_here","_law_many"] (aP wV):=lK
theorem GC:Ok P w base t.eU 1 2 eG:=Ba (g:=mK) t.eU Gz λ_ _ _ _ _ _ b a nd=>(au (bC 2 nd (gO aC)) (au (bC 3 nd (bI d7 (bI u0 (bI fB (bI d7 (aj 0) aF) aF) aF) aF)) (au (bC 4 nd aF) (au (gj (yJ (xJ (bT Rp (aj 0) aF (bN _)) (sX (bT Lc (aj 0) (bI Ta aF aF) (bN _))))) (aV [] (au (bC 4 nd (cg Pd Y3 t.aiz RO (ak (aj 0) aC))) aJ)) (aV [] aJ)) (au (tu PassesOwn.never Y3 (rR Y3 t.wC (ak (aj 1) aC)) (aR 5 nd) (aV [5] (au (bC 3 nd (bI d7 (bI fB (bI fB (bI u0 (aj 3) (bI fB (bI d7 (aj 3) aF) aF)) (bI u0 aF (aj 5))) aF) aF)) (au (sZ 2 (bf (gO (ak (aj 3) (ak (bI d7 (aj 4) aF) aC))) (iD YH Y3 t.aay Rk (ak (xG ID (aj 4) aF (bN _)) aC)))) (au (bC 4 nd (bI KN (aj 4) aF)) aJ))))) (au (Dg 2) aJ))))))
theorem Mg:bL ["_law_xs","_law_many","_law_letters","_law_stem","_law_at","_law_found","_law_k","_law_mark","_law_name"] ["_law_xs","_law_many"] (aP BP):=lK
theorem Mh:Ok P w base t.qR 1 2 nQ:=Ba (g:=qL) t.qR Mg λ_ _ _ _ _ _ b a nd=>(au (bC 2 nd tD) (au (bC 3 nd (VM (oU ["_law_k"] (xX ["_law_letters","_law_xs"] [2,0]) Y3 (WS (rR Y3 t.wC (ak (bI d7 (bf (aj 0) aF) aF) aC))) (λ_ _ _ _=>(aR 2 (by show List.Nodup (_++_);decide +kernel))) (λ_ _ _ _=>fV) (λ_ _ _ _=>(bf (aj 0) (bI d7 (bI KN (bf (aj 1) (aj 2)) aF) aF))) (dh)))) (au (bC 4 nd (bI d7 (bf (aj 0) aF) (bI fB (cg Er Y3 t.Qg Ep (ak (aj 3) aC)) aF))) (au (bC 5 nd (gO aC)) (au (tu PassesOwn.never Y3 (rR Y3 t.wC (ak (aj 1) aC)) (aR 6 nd) (aV [6,7,8] (au (bC 7 nd (bf (aj 2) (bI d7 (bI fB (aj 6) (bf (aj 0) aF)) aF))) (au (bC 8 nd (bI fB (bI fB (Oj (aj 3) u6 (u9 (aj 4))) (aj 7)) (Oj (aj 3) (u9 (aj 4)) u6))) (au (gj (bT (of_eq a) (bI d7 (bf (aj 0) aF) aF) aF (bN _)) (aV [] (au (bC 8 nd (bI u0 (bf (aj 2) (bI KN (aj 6) aF)) (bI fB aF (bI d7 (aj 6) aF)))) aJ)) (aV [] aJ)) (au (sZ 5 (aj 8)) aJ)))))) (au (Dg 5) aJ))))))
theorem HW:bL ["_law_script","_law_at","_law_many","_law_reasons","_law_bars","_law_head","_law_names_here","_law_told","_law_k","_law_xs","_law_a","_law_b","_law_weight","_law_found","_law_shut"] ["_law_script","_law_at","_law_many","_law_reasons","_law_bars"] (aP zG):=lK
theorem HX(d:Ok P w base t.iU 1 2 iT)(e:Ok P w base t.qR 1 2 nQ)(c:Ok P w base t.eU 1 2 eG):Ok P w base t.pG 2 5 oZ:=Ba (g:=oY) t.pG HW λ_ _ _ _ _ _ a b nd=>(au (bC 5 nd (cH t.eU c a (ak (jz (cH t.iU d a (ak (aj 0) (ak (aj 1) aC)))) (ak aF aC)))) (au (bC 6 nd (cg Wd Y3 t.sI vY (ak (cH t.qR e a (ak (aj 5) (ak (aj 2) aC))) aC))) (au (bC 7 nd (gO aC)) (au (tu PassesOwn.never Y3 (rR Y3 t.wC (ak (aj 3) aC)) (aR 8 nd) (aV [8,9,10,11,12] (au (bC 9 nd (cH t.eU c a (ak (jz (cH t.iU d a (ak (aj 0) (ak (jz (bI fB (bI fB (aj 1) aF) (aj 8))) aC)))) (ak aF aC)))) (au (Rb 10 11 Y3 nd (ak (bI d7 (bf (aj 9) aF) (cg (xR Y3) Y3 t.Gw xM (ak aF (ak (aj 2) aC)))) (ak (bI d7 (bf (aj 9) aF) (cg (xR Y3) Y3 t.Gw xM (ak aF (ak (aj 2) aC)))) aC))) (au (bC 12 nd (bf (gO (ak (jz (bI fB aF (bI d7 (bf (aj 9) aF) aF))) (ak (jz (bI fB aF (bI d7 (bf (aj 9) aF) aF))) (ak (jz (bI fB aF (bI d7 (bf (aj 9) aF) aF))) aC)))) (bI d7 (bf (aj 5) aF) aF))) (au (gj (bT (uZ b) (aj 10) (aj 11) (bN _)) (aV [] (au (sZ 7 (gA (ak (bI KJ aF (aj 12)) (ak (bf (aj 6) (cg (Rr Y3) Y3 t.Ve KZ (ak (aj 10) (ak (aj 11) aC)))) (ak (bf (aj 6) (cg (xR Y3) Y3 t.Gw xM (ak (aj 10) (ak (aj 11) aC)))) (ak (bf (gO (ak aF (ak aF (ak aF aC)))) (bI d7 (bf (aj 9) aF) aF)) aC)))))) aJ)) (aV [] aJ)) aJ)))))) (au (KC 13 ["_law_weight","_law_a","_law_b","_law_k"] (xX [] []) Y3 nd (jL (Uv Y3 Y3 t.sI (Uu Y3 b Y3 t.ael (aj 7)))) (λ_ _ _ _=>(rC Y3 (bK (aR 0 (by show List.Nodup (_++_);decide +kernel)) (bK (aR 1 (by show List.Nodup (_++_);decide +kernel)) (bK (aR 2 (by show List.Nodup (_++_);decide +kernel)) (bK (aR 3 (by show List.Nodup (_++_);decide +kernel)) mJ)))))) (λ_ _ _ _=>fV) (λ_ _ _ _=>(gA (ak (bI KJ aF (aj 0)) (ak (aj 1) (ak (aj 2) (ak (aj 3) aC)))))) (Rh (iw (dh) (iw (dh) (iw (dh) (iw (dh) Kz)))))) (au (bC 14 nd (gO aC)) (au (tu PassesOwn.never Y3 (rR Y3 t.wC (ak (aj 4) aC)) (aR 8 nd) (aV [8,9,10,11] (au (bC 9 nd (cH t.eU c a (ak (jz (cH t.iU d a (ak (aj 0) (ak (jz (bI fB (bI fB (aj 1) aF) (aj 8))) aC)))) (ak aF aC)))) (au (Rb 10 11 Y3 nd (ak (bI d7 (bf (aj 9) aF) (cg (xR Y3) Y3 t.Gw xM (ak aF (ak (aj 2) aC)))) (ak (bI d7 (bf (aj 9) aF) (cg (xR Y3) Y3 t.Gw xM (ak aF (ak (aj 2) aC)))) aC))) (au (gj (bT (uZ b) (aj 10) (aj 11) (bN _)) (aV [] (au (sZ 14 (gA (ak (bf (aj 6) (cg (Rr Y3) Y3 t.Ve KZ (ak (aj 10) (ak (aj 11) aC)))) (ak (bf (aj 6) (cg (xR Y3) Y3 t.Gw xM (ak (aj 10) (ak (aj 11) aC)))) (ak (bf (gO (ak aF (ak aF aC))) (bI d7 (bf (aj 9) aF) aF)) aC))))) aJ)) (aV [] aJ)) aJ))))) (au (cF (gA (ak (iD pZ Y3 t.qW nJ (ak (aj 6) aC)) (ak (iD pZ Y3 t.qW nJ (ak (aj 13) aC)) (ak (iD pZ Y3 t.qW nJ (ak (Uv Y3 Y3 t.sI (Uu Y3 b Y3 t.ael (aj 14))) aC)) aC))))) aJ))))))))
theorem HY:bL ["names"] ["names"] (aP zH):=lK
theorem Ia:Ok P w base t.jl 1 1 jh:=Ba (g:=o7) t.jl HY λ_ _ _ _ _ _ b a nd=>(au (cF (Zq a ["name"] (xX [] []) Y3 (jL (aj 0)) (λ_ _ _ _=>(aR 0 (by show List.Nodup (_++_);decide +kernel))) (λ_ _ _ _=>fV) (λ_ _ _ _=>(aj 0)) (λ_ _ _ _=>(aj 0)) (dh))) aJ)
theorem GD:bL ["bars","heads","one","other","bar"] ["bars","heads","one","other"] (aP wW):=lK
theorem GF:Ok P w base t.mY 1 4 mO:=Ba (g:=mL) t.mY GD λ_ _ _ _ _ _ b a nd=>(au (yM 0 PassesOwn.never Y3 (aR 4 nd) (aV [4] (au (gj (yJ (xJ (yJ (sY (bT (of_eq a) (gP a (aj 1) (bf (aj 4) aF)) (aj 2) (bN _)) (pU (bT (of_eq a) (gP a (aj 1) (bf (aj 4) aF)) (aj 3) (bN _))))) (sX (yJ (sY (bT (of_eq a) (gP a (aj 1) (bf (aj 4) aF)) (aj 3) (bN _)) (pU (bT (of_eq a) (gP a (aj 1) (bf (aj 4) aF)) (aj 2) (bN _)))))))) (au (cF (aj 4)) aJ) aJ) aJ))) (au (cF uV) aJ))
theorem xg:bL ["heads","one","other","head","name"] ["heads","one","other"] (aP zJ):=lK
theorem Ib:uU P w K mg base Kr 1 t.cN.f t.cN.fd ["heads","one","other"] (EZ K 2 gQ):=by
 unfold gQ;refine NI (k:=0) (g:=o8) t.cN.F xg Y3 Y3 λc A outer s H E b=>?_;have a:=Ud b;have nd:=xg.nd;exact(aV [3,4] (au (bC 3 nd (cg (az Y3) Y3 t.Ve KZ (ak (aj 1) (ak (aj 2) aC)))) (au (tu PassesOwn.never Y3 (Dh (iD (Zv Y3) Y3 t.aaz Uc (ak (aj 0) aC))) (aR 4 nd) (aV [4] (au (gj (yJ (xJ (bT (of_eq a) (gP a (aj 0) (aj 4)) (aj 1) (bN _)) (sX (bT (of_eq a) (gP a (aj 0) (aj 4)) (aj 2) (bN _))))) (aV [] (au (Uh 0 a (aj 3) (aj 4)) aJ)) (aV [] aJ)) aJ))) aJ)))
theorem GJ:bL ["heads","head"] ["heads","head"] (aP wX):=lK
theorem GK:Ok P w base t.mZ 1 2 mR:=Ba (g:=mQ) t.mZ GJ λ_ _ _ _ _ _ b a nd=>(au (cF (iD pZ Y3 t.qW nJ (ak (Pk ["name"] (xX ["head","heads"] [1,0]) Y3 (aj 0) (λ_ _ _ _=>(aR 2 (by show List.Nodup (_++_);decide +kernel))) (λ_ _ _ _=>(p7 (bT (of_eq a) (gP a (aj 1) (aj 2)) (aj 0) (bN _)))) (λ_ _ _ _=>(aj 2)) (dh)) aC))) aJ)
theorem Ie:bL ["heads"] ["heads"] (aP zK):=lK
theorem Ig(b:Ok P w base t.mZ 1 2 mR):Ok P w base t.pH 2 1 pq:=Ba (g:=o9) t.pH Ie λ_ _ _ _ _ _ c a nd=>(au (cF (Pk ["name"] (xX ["heads"] [0]) Y3 (aj 0) (λ_ _ _ _=>(aR 1 (by show List.Nodup (_++_);decide +kernel))) (λ_ _ _ _=>(p7 (bT (of_eq a) (gP a (aj 0) (aj 1)) (aj 1) (bN _)))) (λ_ _ _ _=>(jz (cH t.mZ b c (ak (aj 0) (ak (aj 1) aC))))) (dh))) aJ)
theorem Ih:bL ["ground","names","reasons","bars","heads","kept","barred","reason","one","other","bar"] ["ground"] (aP zL):=lK
theorem Ii(e:Ok P w base t.mY 1 4 mO)(d:uU P w K mg base Kr 1 t.cN.f t.cN.fd ["heads","one","other"] (EZ K 2 gQ))(h:Ok P w base t.jl 1 1 jh)(j:Ok P w base t.pH 2 1 pq):Ok P w base t.dF 3 1 dD:=Ba (g:=pA) t.dF Ih λ_ _ _ _ _ _ a c nd=>(au (Ek (aj 0) (rC Y3 (bK (aR 1 nd) (bK (aR 2 nd) (bK (aR 3 nd) mJ))))) (au (bC 4 nd (cH t.jl h a (ak (aj 1) aC))) (au (bC 5 nd (gO aC)) (au (bC 6 nd (gO aC)) (au (yM 2 PassesOwn.never Y3 (aR 7 nd) (aV [7,8,9,10] (au (bC 8 nd (gP c (aj 4) (bf (aj 7) aF))) (au (bC 9 nd (gP c (aj 4) (bf (aj 7) aF))) (au (gj (bT (uZ c) (aj 8) (aj 9) (bN _)) (aV [10] (au (bC 10 nd (cH t.mY e a (ak (aj 3) (ak (aj 4) (ak (aj 8) (ak (aj 9) aC)))))) (au (gj (bT EU (aj 10) uV (bN _)) (aV [] (au (UG 4 d (a.mono (by decide)) Y3 t.cN.m t.cN.k t.cN.b (ak (aj 8) (ak (aj 9) aC))) (au (sZ 5 (aj 7)) aJ))) (aV [] (au (sZ 6 (gA (ak (aj 7) (ak (aj 10) aC)))) aJ))) aJ))) (aV [10] aJ)) aJ))))) (R6 (i:=5) (R6 (i:=6) (au (cF (gA (ak (jz (cH t.pH j a (ak (aj 4) aC))) (ak (aj 5) (ak (aj 6) aC))))) aJ))))))))
theorem Qj:bL ["thing","many"] ["thing","many"] (aP Gs):=lK
theorem Qk:Ok P w base t.mj 1 2 lX:=Ba (g:=tM) t.mj Qj λ_ _ _ _ _ _ b a nd=>(au (cF (pW (K1 (aj 0) Y3 t.lg Y3 t.qW) (Ai (xG (of_eq a) (cg Er Y3 t.Qg Ep (ak (aj 0) aC)) (aj 1) (bN _))))) aJ)
theorem Ql:bL ["thing"] ["thing"] (aP Gu):=lK
theorem Qm:Ok P w base t.mq 1 1 lY:=Ba (g:=tO) t.mq Ql λ_ _ _ _ _ _ b a nd=>(au (cF (pW (Rm (aj 0) Y3 t.lg Y3 t.aay) (Ai (Sj (Og (aj 0) Y3 t.lg Y3 t.agl))))) aJ)
theorem Mi:bL ["thing"] ["thing"] (aP BR):=lK
theorem Mj(b:Ok P w base t.mq 1 1 lY):Ok P w base t.qT 2 1 qN:=Ba (g:=qM) t.qT Mi λ_ _ _ _ _ _ c e nd=>by
 obtain⟨d,a⟩:=t.HS;exact(au (cF (pW (cH t.mq b c (ak (aj 0) aC)) (Ai (Nx CB CB aF (aj 0) (Nz Y3 a))))) aJ)
theorem Ik:bL ["thing","signs","longest"] ["thing","signs","longest"] (aP zM):=lK
theorem Il:Ok P w base t.pI 1 3 pC:=Ba (g:=pB) t.pI Ik λ_ _ _ _ _ _ b a nd=>(au (cF (pW (Rn (aj 0) Y3 t.lg Y3 t.aiA) (pW (Nx CB CB aF (cg Er Y3 t.Qg Ep (ak (aj 0) aC)) (aj 2)) (Ai (cg (YJ Y3) Y3 t.aek Yz (ak (oU ["sign"] (xX ["signs"] [1]) Y3 (jL (aj 0)) (λ_ _ _ _=>(aR 1 (by show List.Nodup (_++_);decide +kernel))) (λ_ _ _ _=>fV) (λ_ _ _ _=>(xG V' (aj 1) (aj 0) (by with_unfolding_all rfl))) (dh)) aC)))))) aJ)
theorem SQ:bL ["thing"] ["thing"] (aP J2):=lK
theorem SX(a:Ok P w base t.pI 1 3 pC):Ok P w base t.sE 2 1 sy:=Ba (g:=wA) t.sE SQ λ_ _ _ _ _ _ b f nd=>by
 obtain⟨e,c⟩:=t.W4;obtain⟨h,d⟩:=t.Gy;exact(au (cF (cH t.pI a b (ak (aj 0) (ak (Ym Y3 c) (ak (Nz Y3 d) aC))))) aJ)
theorem W6:bL ["thing","one","other","number"] ["thing"] (aP Qd):=lK
theorem W7(b:Ok P w base t.sE 2 1 sy)(d:Ok P w base t.mj 1 2 lX)(c:Ok P w base t.mq 1 1 lY):Ok P w base t.zT 3 1 zP:=Ba (g:=zO) t.zT W6 λ_ _ _ _ _ _ a e nd=>(au (gj (Ku (Ah (cH t.mj d a (ak (aj 0) (ak aF aC))))) (au (cF yI) aJ) aJ) (au (Ek (aj 0) (rC Y3 (bK (aR 1 nd) (bK (aR 2 nd) (bK (aR 3 nd) mJ))))) (au (cF (pW (cH t.sE b a (ak (aj 1) aC)) (pW (cH t.sE b a (ak (aj 2) aC)) (pW (xG Rp (aj 1) (aj 2) (bN _)) (pW (cH t.mq c a (ak (aj 3) aC)) (Ai (xG Lc (aj 3) aF (bN _)))))))) aJ)))
theorem Ml:bL ["thing"] ["thing"] (aP BW):=lK
theorem Mp(b:Ok P w base t.zT 3 1 zP)(d:Ok P w base t.mj 1 2 lX)(c:Ok P w base t.qT 2 1 qN):Ok P w base t.qU 4 1 qP:=Ba (g:=qO) t.qU Ml λ_ _ _ _ _ _ a e nd=>(au (cF (pW (cH t.mj d a (ak (aj 0) (ak aF aC))) (pW (cH t.qT c a (ak (bf (aj 0) aF) aC)) (Ai (cH t.zT b a (ak (jz (Oj (aj 0) (u9 aF) u6)) aC)))))) aJ)
theorem wM:bL ["ground","reason"] ["ground","reason"] (aP qj):=lK
theorem wN(b:Ok P w base t.qU 4 1 qP):Ok P w base t.gW 5 2 gU:=Ba (g:=gR) t.gW wM λ_ _ _ _ _ _ c a nd=>(aV [] (au (gj (yJ (xJ (Ku (Ah (cH t.qU b c (ak (aj 1) aC)))) (sX (bT (P5 a) (aj 1) (bf (aj 0) aF) (by with_unfolding_all rfl))))) (au acV aJ) aJ) aJ))
theorem Mq:bL ["reason","name"] ["reason","name"] (aP BX):=lK
theorem Mr:Ok P w base t.j6 1 2 j5:=Ba (g:=qQ) t.j6 Mq λ_ _ _ _ _ _ b a nd=>(au (gj (bT (of_eq a) (bf (aj 0) aF) (aj 1) (bN _)) (au (cF (bf (aj 0) aF)) aJ) aJ) (au (gj (bT (of_eq a) (bf (aj 0) aF) (aj 1) (bN _)) (au (cF (bf (aj 0) aF)) aJ) aJ) (au (cF uV) aJ)))
theorem Qn:bL ["came_by","end","way","here"] ["came_by","end"] (aP Gv):=lK
theorem Qo(b:Ok P w base t.j6 1 2 j5):Ok P w base t.tZ 2 2 tY:=Ba (g:=tX) t.tZ Qn λ_ _ _ _ _ _ c a nd=>(au (bC 2 nd (gO aC)) (au (bC 3 nd (aj 1)) (au (Pr 70 PassesOwn.never (bT KY (gP a (aj 0) (aj 3)) uV (bN _)) (aV [] (au (sZ 2 (gP a (aj 0) (aj 3))) (au (bC 3 nd (cH t.j6 b c (ak (gP a (aj 0) (aj 3)) (ak (aj 3) aC)))) aJ)))) (au (Dg 2) aJ))))
theorem W8:bL ["reasons","start","end","came_by","reached","here","reason","there"] ["reasons","start","end"] (aP Qe):=lK
theorem W9(c:Ok P w base t.j6 1 2 j5)(d:Ok P w base t.tZ 2 2 tY):Ok P w base t.kZ 3 3 kY:=Ba (g:=zQ) t.kZ W8 λ_ _ _ _ _ _ b a nd=>(au (bC 3 nd (ZJ (aj 1) uV)) (au (bC 4 nd (gO (ak (aj 1) aC))) (au (Pr 70 PassesOwn.never (Ah (aj 4)) (aV [5,6,7] (au (Si 5 4 nd aF) (au (yM 0 PassesOwn.never Y3 (aR 6 nd) (aV [6,7] (au (bC 7 nd (cH t.j6 c b (ak (aj 6) (ak (aj 5) aC)))) (au (gj (yJ (sY (bT KY (aj 7) uV (bN _)) (pU (bT (UL a) (aj 7) (aj 3) (by with_unfolding_all rfl))))) (aV [] (au (Uh 3 a (aj 6) (aj 7)) (au (sZ 4 (aj 7)) aJ))) (aV [] aJ)) aJ)))) aJ)))) (au (gj (bT (UL a) (aj 2) (aj 3) (by with_unfolding_all rfl)) (au (cF uV) aJ) aJ) (au (cF (acX (cH t.tZ d b (ak (aj 3) (ak (aj 2) aC))) (aS Xs aF))) aJ)))))
theorem GR:bL ["kept","reason","bar","one"] ["kept","reason","bar"] (aP wY):=lK
theorem GX(a:Ok P w base t.kZ 3 3 kY):Ok P w base t.m5 4 3 mV:=Ba (g:=mU) t.m5 GR λ_ _ _ _ _ _ b c nd=>(au (bC 3 nd (cH t.kZ a b (ak (aj 0) (ak (bf (aj 1) aF) (ak (bf (aj 2) aF) aC))))) (au (gj (bT KY (aj 3) uV (bN _)) (R6 (i:=3) (au (cF (gA (ak (aj 3) (ak (jz (cH t.kZ a b (ak (aj 0) (ak (bf (aj 1) aF) (ak (bf (aj 2) aF) aC))))) aC)))) aJ)) aJ) (au (cF (gA (ak (jz (cH t.kZ a b (ak (aj 0) (ak (bf (aj 1) aF) (ak (bf (aj 2) aF) aC))))) (ak (jz (cH t.kZ a b (ak (aj 0) (ak (bf (aj 1) aF) (ak (bf (aj 2) aF) aC))))) aC)))) aJ)))
theorem S5:bL ["ground","reason","sets","kept","barred","other","bar"] ["ground","reason"] (aP J3):=lK
theorem S7(f:Ok P w base t.dF 3 1 dD)(d:Ok P w base t.gW 5 2 gU)(e:Ok P w base t.kZ 3 3 kY)(c:Ok P w base t.m5 4 3 mV):Ok P w base t.mz 6 2 lZ:=Ba (g:=wB) t.mz S5 λ_ _ _ _ _ _ a b nd=>(au (TL (cH t.gW d a (ak (aj 0) (ak (aj 1) aC)))) (au (Ek (cH t.dF f a (ak (aj 0) aC)) (rC Y3 (bK (aR 2 nd) (bK (aR 3 nd) (bK (aR 4 nd) mJ))))) (au (gj (bT (Zy b) (aj 1) (aj 3) (by with_unfolding_all rfl)) (au (cF (gA (ak tD aC))) aJ) aJ) (au (yM 4 PassesOwn.never Y3 (rC Y3 (bK (aR 5 nd) (bK (aR 6 nd) mJ))) (aV [5,6] (au (gj (bT (of_eq b) (aj 5) (aj 1) (bN _)) (au (cF (bI fB (gA (ak tD (ak (aj 6) aC))) (cH t.m5 c a (ak (aj 3) (ak (aj 1) (ak (aj 6) aC)))))) aJ) aJ) aJ))) (au (cF (gA (ak tD (ak (jz (cH t.kZ e a (ak (aj 3) (ak (bf (aj 1) aF) (ak (bf (aj 1) aF) aC))))) aC)))) aJ)))))
theorem GZ:bL ["_law_reasons","_law_some"] ["_law_reasons"] (aP wZ):=lK
theorem G3:Ok P w base t.jG 1 1 jF:=Ba (g:=mX) t.jG GZ λ_ _ _ _ _ _ b a nd=>(au (bC 1 nd (cg Fl Y3 t.sI vY (ak (oU ["_law_weight","_law_a","_law_b","_law_k"] (xX [] []) Y3 (jL (aj 0)) (λ_ _ _ _=>(rC Y3 (bK (aR 0 (by show List.Nodup (_++_);decide +kernel)) (bK (aR 1 (by show List.Nodup (_++_);decide +kernel)) (bK (aR 2 (by show List.Nodup (_++_);decide +kernel)) (bK (aR 3 (by show List.Nodup (_++_);decide +kernel)) mJ)))))) (λ_ _ _ _=>fV) (λ_ _ _ _=>(gA (ak (bI KJ aF (aj 0)) (ak (aj 1) (ak (aj 2) (ak (aj 3) aC)))))) (Rh (iw (dh) (iw (dh) (iw (dh) (iw (dh) Kz)))))) aC))) (au (cF (iD pZ Y3 t.qW nJ (ak (oU ["_law_weight","_law_a","_law_b","_law_k"] (xX [] []) Y3 (jL (aj 1)) (λ_ _ _ _=>(rC Y3 (bK (aR 0 (by show List.Nodup (_++_);decide +kernel)) (bK (aR 1 (by show List.Nodup (_++_);decide +kernel)) (bK (aR 2 (by show List.Nodup (_++_);decide +kernel)) (bK (aR 3 (by show List.Nodup (_++_);decide +kernel)) mJ)))))) (λ_ _ _ _=>fV) (λ_ _ _ _=>(gA (ak (bI KJ aF (aj 0)) (ak (aj 1) (ak (aj 2) (ak (aj 3) aC)))))) (Rh (iw (dh) (iw (dh) (iw (dh) (iw (dh) Kz)))))) aC))) aJ))
theorem yj:bL ["_law_ground_here","_law_reason","_law_kept","_law_found","_law_ways","_law_part","_law_bars","_law_small","_law_again"] ["_law_ground_here","_law_reason","_law_kept"] (aP qK):=lK
theorem yp(c:Ok P w base t.jG 1 1 jF)(d:Ok P w base t.mz 6 2 lZ)(e:Ok P w base t.dF 3 1 dD):Ok P w base t.iK 7 3 iJ:=Ba (g:=iI) t.iK yj λ_ _ _ _ _ _ b a nd=>(au (bC 3 nd (cH t.mz d b (ak (aj 0) (ak (aj 1) aC)))) (au (bC 4 nd (gO aC)) (au (tu PassesOwn.never Y3 (Dh (Oj (aj 3) (u9 aF) u6)) (aR 5 nd) (aV [5] (au (gj (Ah (Oh (aj 5) Y3 t.lg Y3 t.aaz)) (aV [] (au (bC 4 nd (bI fB (aj 4) (aj 5))) aJ)) (aV [] aJ)) aJ))) (au (bC 6 nd (gA aC)) (au (gj (bT (of_eq a) (bf (aj 3) aF) tD (bN _)) (aV [] (au (bC 6 nd (gA (ak (bf (aj 3) aF) aC))) aJ)) (aV [] aJ)) (au (gj (bT (of_eq a) (bf (aj 3) aF) tD (bN _)) (aV [] (au (KC 4 ["_law_other"] (xX ["_law_reason"] [1]) Y3 nd (jL (aj 2)) (λ_ _ _ _=>(aR 1 (by show List.Nodup (_++_);decide +kernel))) (λ_ _ _ _=>(p7 (yJ (sY (bT (of_eq a) (bf (cH t.jG c b (ak (jz (gO (ak (aj 1) (ak (aj 0) aC)))) aC)) aF) (aj 1) (bN _)) (pU (bT (uZ a) (aj 1) (aj 0) (bN _))))))) (λ_ _ _ _=>(aj 1)) (dh)) (au (bC 6 nd (bf (aj 0) aF)) aJ))) (aV [] aJ)) (au (bC 7 nd (gA (ak (bf (aj 0) aF) (ak (jz (cH t.jG c b (ak (jz (bI fB (aj 4) (gO (ak (aj 1) aC)))) aC))) (ak (aj 6) aC))))) (au (bC 8 nd (cH t.mz d b (ak (aj 7) (ak (aj 1) aC)))) (au (gj (yJ (xJ (bT (uZ a) (bf (aj 8) aF) (bf (aj 3) aF) (bN _)) (sX (yJ (sY (bT (of_eq a) (bf (aj 3) aF) tD (bN _)) (pU (bT (uZ a) (bf (aj 8) aF) (bf (aj 3) aF) (bN _)))))))) (au (cF yI) aJ) aJ) (au (cF (xG (of_eq a) (cg Fl Y3 t.sI vY (ak (bf (cH t.dF e b (ak (aj 7) aC)) aF) aC)) (cg Fl Y3 t.sI vY (ak (bI fB (aj 4) (bI OK (gO (ak (aj 1) aC)) (iD YH Y3 t.aay Rk (ak (xG (of_eq a) (bf (aj 3) aF) tD (bN _)) aC)))) aC)) (bN _))) aJ))))))))))
theorem zU:bL ["_law_ground_here","_law_told","_law_names_here","_law_reasons","_law_bars","_law_used","_law_reason","_law_bar","_law_found"] ["_law_ground_here","_law_told"] (aP rZ):=lK
theorem zV(d:Ok P w base t.mz 6 2 lZ)(c:Ok P w base t.dF 3 1 dD):Ok P w base t.jq 7 2 jk:=Ba (g:=ji) t.jq zU λ_ _ _ _ _ _ b a nd=>(au (Ek (aj 0) (rC Y3 (bK (aR 2 nd) (bK (aR 3 nd) (bK (aR 4 nd) mJ))))) (au (KC 5 ["_law_bar"] (xX ["_law_told"] [1]) Y3 nd (jL (aj 4)) (λ_ _ _ _=>(aR 1 (by show List.Nodup (_++_);decide +kernel))) (λ_ _ _ _=>(p7 (bT (Zy a) (aj 1) (oU ["_law_row"] (xX [] []) Y3 (jL (bf (aj 0) aF)) (λ_ _ _ _=>(aR 0 (by show List.Nodup (_++_);decide +kernel))) (λ_ _ _ _=>fV) (λ_ _ _ _=>(bf (aj 0) aF)) (dh)) (by with_unfolding_all rfl)))) (λ_ _ _ _=>(aj 1)) (dh)) (au (gj (yJ (xJ (bT (uZ a) (cH t.dF c b (ak (gA (ak (aj 2) (ak (aj 3) (ak (iD pZ Y3 t.qW nJ (ak (aj 5) aC)) aC)))) aC)) (aj 1) (bN _)) (sX (bT (uZ a) (bf (cH t.dF c b (ak (gA (ak (aj 2) (ak (aj 3) (ak (gA aC) aC)))) aC)) aF) (gO aC) (bN _))))) (au (cF yI) aJ) aJ) (au (tu PassesOwn.never Y3 (Dh (bf (aj 1) aF)) (rC Y3 (bK (aR 6 nd) (bK (aR 7 nd) mJ))) (aV [6,7,8] (au (bC 8 nd (cH t.mz d b (ak (gA (ak (aj 2) (ak (aj 3) (ak (iD pZ Y3 t.qW nJ (ak (oU ["_law_other"] (xX ["_law_bar"] [7]) Y3 (jL (aj 4)) (λ_ _ _ _=>(aR 1 (by show List.Nodup (_++_);decide +kernel))) (λ_ _ _ _=>(p7 (bT (uZ a) (aj 1) (aj 0) (bN _)))) (λ_ _ _ _=>(aj 1)) (dh)) aC)) aC)))) (ak (aj 6) aC)))) (au (gj (yJ (sY (bT (of_eq a) (bf (aj 8) aF) tD (bN _)) (pU (bT (of_eq a) (bf (aj 8) aF) (aj 7) (bN _))))) (au (cF yI) aJ) aJ) aJ)))) (au (cF yI) aJ)))))
theorem Im:bL ["ground","names","reasons","bars","heads","holding","reason","one","other"] ["ground"] (aP zN):=lK
theorem Io(d:uU P w K mg base Kr 1 t.cN.f t.cN.fd ["heads","one","other"] (EZ K 2 gQ))(e:Ok P w base t.jl 1 1 jh):Ok P w base t.pJ 2 1 pF:=Ba (g:=pD) t.pJ Im λ_ _ _ _ _ _ c a nd=>(au (Ek (aj 0) (rC Y3 (bK (aR 1 nd) (bK (aR 2 nd) (bK (aR 3 nd) mJ))))) (au (bC 4 nd (cH t.jl e c (ak (aj 1) aC))) (au (bC 5 nd (gO aC)) (au (yM 2 PassesOwn.never Y3 (aR 6 nd) (aV [6,7,8] (au (bC 7 nd (gP a (aj 4) (bf (aj 6) aF))) (au (bC 8 nd (gP a (aj 4) (bf (aj 6) aF))) (au (gj (bT (uZ a) (aj 7) (aj 8) (bN _)) (aV [] (au (UG 4 d (c.mono (by decide)) Y3 t.cN.m t.cN.k t.cN.b (ak (aj 7) (ak (aj 8) aC))) (au (sZ 5 (aj 6)) aJ))) (aV [] aJ)) aJ))))) (au (Dg 5) aJ)))))
theorem NX:bL ["_law_script","_law_k","_law_xs","_law_ground_here","_law_told","_law_kept","_law_held"] ["_law_script"] (aP s_law):=lK
theorem RI(f:Ok P w base t.iK 7 3 iJ)(e:Ok P w base t.jq 7 2 jk)(h:Ok P w base t.iU 1 2 iT)(c:Ok P w base t.pG 2 5 oZ)(i:Ok P w base t.eU 1 2 eG)(d:Ok P w base t.pJ 2 1 pF)(j:Ok P w base t.dF 3 1 dD):Ok P w base t.x_law 8 1 F_law:=Ba (g:=Vd) t.x_law NX λ_ _ _ _ _ _ a b nd=>(au (tu PassesOwn.never Y3 (rR Y3 t.wC (ak (cg (xR Y3) Y3 t.Gw xM (ak aF (ak (cg (Rr Y3) Y3 t.Ve KZ (ak (cg Er Y3 t.Qg Ep (ak (aj 0) aC)) (ak aF aC))) aC))) aC)) (aR 1 nd) (aV [1,2,3,4,5,6] (au (bC 2 nd (cH t.eU i a (ak (jz (cH t.iU h a (ak (aj 0) (ak (aj 1) aC)))) (ak aF aC)))) (au (bC 3 nd (cH t.pG c a (ak (aj 0) (ak (aj 1) (ak (bI d7 (bf (aj 2) aF) aF) (ak (bI d7 (bf (aj 2) aF) aF) (ak (bI d7 (bf (aj 2) aF) aF) aC))))))) (au (bC 4 nd (cH t.dF j a (ak (aj 3) aC))) (au (gj (Ku (Ah (cg (YJ Y3) Y3 t.aek Yz (ak (oU ["_law_reason"] (xX ["_law_ground_here","_law_told"] [3,4]) Y3 (jL (bf (aj 3) aF)) (λ_ _ _ _=>(aR 2 (by show List.Nodup (_++_);decide +kernel))) (λ_ _ _ _=>fV) (λ_ _ _ _=>(jz (cH t.iK f a (ak (aj 0) (ak (aj 2) (ak (bf (aj 1) aF) aC)))))) (dh)) aC)))) (au (cF yI) aJ) aJ) (au (gj (Ku (Ah (cH t.jq e a (ak (aj 3) (ak (aj 4) aC))))) (au (cF yI) aJ) aJ) (au (Rb 5 6 Y3 nd (ak (jz (cg (ZG Y3) Y3 t.aem YB (ak (oU ["_law_reason"] (xX [] []) Y3 (jL (bf (aj 4) aF)) (λ_ _ _ _=>(aR 0 (by show List.Nodup (_++_);decide +kernel))) (λ_ _ _ _=>fV) (λ_ _ _ _=>(bf (aj 0) aF)) (dh)) aC))) (ak (jz (cg (ZG Y3) Y3 t.aem YB (ak (oU ["_law_reason"] (xX [] []) Y3 (jL (cH t.pJ d a (ak (aj 3) aC))) (λ_ _ _ _=>(aR 0 (by show List.Nodup (_++_);decide +kernel))) (λ_ _ _ _=>fV) (λ_ _ _ _=>(bf (aj 0) aF)) (dh)) aC))) aC))) (au (gj (yJ (xJ (bT ID (aj 5) (aj 6) (bN _)) (sX (yJ (sY (bT (of_eq b) (bf (aj 4) aF) (gO aC) (bN _)) (pU (bT (uZ b) (aj 5) (aj 6) (bN _)))))))) (au (cF yI) aJ) aJ) aJ))))))))) (au (cF yI) aJ))
theorem EA:Ok P w base t.x_law 8 1 F_law:=by
 have d:=Qi (P:=P) (w:=w) (base:=base) t;have i:=GC (P:=P) (w:=w) (base:=base) t;have v:=Mh (P:=P) (w:=w) (base:=base) t;have u:=HX (P:=P) (w:=w) (base:=base) t d v i;have g:=Ia (P:=P) (w:=w) (base:=base) t;have q:=GF (P:=P) (w:=w) (base:=base) t;have h:=Ib (P:=P) (w:=w) (base:=base) t;have B:=GK (P:=P) (w:=w) (base:=base) t;have p:=Ig (P:=P) (w:=w) (base:=base) t B;have a:=Ii (P:=P) (w:=w) (base:=base) t q h g p;have j:=Qk (P:=P) (w:=w) (base:=base) t;have f:=Qm (P:=P) (w:=w) (base:=base) t;have s:=Mj (P:=P) (w:=w) (base:=base) t f;have y:=Il (P:=P) (w:=w) (base:=base) t;have D:=SX (P:=P) (w:=w) (base:=base) t y;have n:=W7 (P:=P) (w:=w) (base:=base) t D j f;have z:=Mp (P:=P) (w:=w) (base:=base) t n j s;have E:=wN (P:=P) (w:=w) (base:=base) t z;have b:=Mr (P:=P) (w:=w) (base:=base) t;have C:=Qo (P:=P) (w:=w) (base:=base) t b;have e:=W9 (P:=P) (w:=w) (base:=base) t b C;have F:=GX (P:=P) (w:=w) (base:=base) t e;have c:=S7 (P:=P) (w:=w) (base:=base) t a E e F;have l:=G3 (P:=P) (w:=w) (base:=base) t;have o:=yp (P:=P) (w:=w) (base:=base) t l c a;have A:=zV (P:=P) (w:=w) (base:=base) t c a;have x:=Io (P:=P) (w:=w) (base:=base) t h g;have m:=RI (P:=P) (w:=w) (base:=base) t o A d u i x a;exact m
end
end G28
end
section
set_option synthInstance.maxSize 100000
namespace G28
open L2 P1
noncomputable section
def xq(a:Int)(b:Int):Int:=(let a:=(((a*69621)+b)%2147483647);a)
theorem Ip(d:B9)(e:Lp fU (d.map eI))(c:Int)(a:Int)(b:Int):RP w5 [Z fU,Z (zE eI c),Z (zE eI a),Z (zE eI b)] (λs=>Ap.nx ((λa:Int=>[Z fU,Z (zE eI c),Z (zE eI a),O]) s)) (xq  a b) (O):=R.tp (bh (bV 2 (fX (nP (U3 (ao 2 (zE eI) a Y3) 69621 (by decide)) (ao 3 (zE eI) b Y3)) 2147483647 (by decide)) (λ_=>Y3) λa=>(bQ (bD a Y3))))
def bF(c:B9)(b:Int):Int:=(if(decide (b<(c.length:Int)))=true then(at' c b)else(let a:=((48271*(((b*b)+(7*b))+11))%2147483647);(let a:Int:=((cut c O (Z 3)).foldl (λ(a:Int) (d:Int)=>(xq  a d)) a);a)))
def iW(b:B9)(a:Int):Prop:=(((decide (a<(b.length:Int)))=true->In b.length a)/\((decide (a<(b.length:Int)))=false->FH a a))
theorem S8(c:B9)(d:Lp fU (c.map eI))(a:Int):RP tL [Z fU,Z (zE eI a),O,O] (λr=>Ap.rt (zE eI r)) (bF c a) (Z (iW c a)):=R.tp (oN (cX (IQ (ao 1 (zE eI) a Y3) (DM (jZ 0 eI c d Y3)))) (bh (dR (λr=>r) (lV (jZ 0 eI c d Y3) (ao 1 (zE eI) a Y3)) (λ_=>Y3) λ_=>Y3)) (bQ (bV 2 (fX (R9 48271 (by decide) (nP (nP (I0 (ao 1 (zE eI) a Y3) (ao 1 (zE eI) a Y3)) (R9 7 (by decide) (ao 1 (zE eI) a Y3))) (B7 11))) 2147483647 (by decide)) (λ_=>Y3) λb=>(XW (λb:Int=>[Z fU,Z (zE eI a),Z (zE eI b),O]) b Y3 (MT (OI (jZ 0 eI c d Y3) ZS (ZV (B7 3)))) _ (λ_ _=>Y3) (λ(b:Int) (e:Int)=>(Ip c d a b e).r) (λ_ _=>Y3) λb=>(dR (λr=>r) (ao 2 (zE eI) b Y3) (λ_=>Y3) λ_=>Y3)))))
theorem um:∀v bs,(aL eI (aZ eI aN)) v bs->bs.length=2/\(hold (Z (iW v.1 v.2.1))->iT (bs.map lend)=Z ((zE eI) (bF v.1 v.2.1))):=by
 rintro⟨b,a,_⟩ _ ⟨fU,_,rfl,c,⟨_,rfl,rfl⟩⟩;exact⟨rfl,λh=>cV (g:=tL) (n:=4) (bs:=[lend fU,.z (eI a)]) (S8 b (BK c) a) h⟩
def cQ(a:Int×B9×Int)(c:Int):Int×B9×Int:=(let b:=((((a.1*((a.1%65521)+40487))+(7*c))+5)%1999999973);(let e:=a.2.1++[(at' [b,(a.2.2%1000000)] (if(decide ((0:Int)<a.2.2))=true then(1:Int)else 0))];(let d:=(a.2.2 / (1000000:Int));(b,e,d))))
def ju(a:Int×B9×Int)(c:Int):Prop:=(FH a.1 ((a.1%65521)+40487)/\(let b:=((((a.1*((a.1%65521)+40487))+(7*c))+5)%1999999973);(In [b,(a.2.2%1000000)].length (if(decide ((0:Int)<a.2.2))=true then(1:Int)else 0)/\Ls a.2.1.length)))
theorem Bb(e:Int)(d:Int)(a:Int×B9×Int)(b:Int):RP lW [Z (zE eI e),Z (zE eI d),Z ((oE eI) a.2.1),Z ((zE eI) a.1),Z ((zE eI) a.2.2),Z (zE eI b)] (λs=>Ap.nx ((λa:Int×B9×Int=>[Z (zE eI e),Z (zE eI d),Z ((oE eI) a.2.1),Z ((zE eI) a.1),Z ((zE eI) a.2.2),O]) s)) (cQ  a b) (Z (ju  a b)):=R.tp (bh (bV 3 (fX (nP (nP (I0 (ao 3 (zE eI) a.1 Y3) (nP (fX (ao 3 (zE eI) a.1 Y3) 65521 (by decide)) (B7 40487))) (R9 7 (by decide) (ao 5 (zE eI) b Y3))) (B7 5)) 1999999973 (by decide)) (λ_=>Y3) λc=>(bh (zx 2 a.2.1 Y3 (lV (nO (kO (eF (ao 3 (zE eI) c Y3) (eF (fX (ao 4 (zE eI) a.2.2 Y3) 1000000 (by decide)) (fK eI))) (zS Y3))) (Z4 (Hn (ao 4 (zE eI) a.2.2 Y3) (B7 0)))) λg=>(bh (bV 4 (Ln (ao 4 (zE eI) a.2.2 Y3) 1000000 (by decide)) (λ_=>Y3) λf=>(bQ (bD (c,g,f) Y3))))))))
def jw(g:Int)(d:Int)(f:B9)(b:Int)(e:Int):B9:=(let a:Int×B9×Int:=((rng 0 d.toNat).foldl (λ(a:Int×B9×Int) (c:Int)=>(cQ  a c)) (b,f,e));a.2.1)
def mH(g:Int)(c:Int)(f:B9)(d:Int)(e:Int):Prop:=(Rg c/\nZ (λ(b:Int×B9×Int) (a:Int)=>(cQ  b a)) (λ(b:Int×B9×Int) (a:Int)=>Z (ju  b a)) (rng 0 c.toNat) (d,f,e))
def Bc:Ev->S Ap:=(aH (rE (Xn (aq (gv 1) aK)) (jR 5) lW) (aH (Eh 2) d8))
theorem Bd(c:Int)(b:Int)(f:B9)(d:Int)(e:Int):RP Bc [Z (zE eI c),Z (zE eI b),Z (oE eI f),Z (zE eI d),Z (zE eI e),O] (λr=>Ap.rt (oE eI r)) (jw c b f d e) (Z (mH c b f d e)):=R.tp (JV (λa:Int×B9×Int=>[Z (zE eI c),Z (zE eI b),Z ((oE eI) a.2.1),Z ((zE eI) a.1),Z ((zE eI) a.2.2),O]) (d,f,e) Y3 (JT (ao 1 (zE eI) b Y3)) _ (λ_ _=>Y3) (λ(a:Int×B9×Int) (g:Int)=>(Bb c b a g).r) λa=>(Lz 2 (λr=>r) a.2.1 Y3 (λ_=>Y3) λ_=>Y3))
def bA(a:Int)(d:Int):B9:=(let e:=([]:Y Int);(let c:=((((a%1999999973)+31)*765432101)%1999999973);(let b:=(0:Int);(let b:Int:=(if((decide (a<0))||(decide (((10:Int) ^ 18)<=a)))=true then(let b:=(if a<0 then -a else a);b)else b);(jw a d e c b)))))
def fY(a:Int)(d:Int):Prop:=(let e:=([]:Y Int);(let c:=((((a%1999999973)+31)*765432101)%1999999973);(let b:=(0:Int);(let b:Int:=(if((decide (a<0))||(decide (((10:Int) ^ 18)<=a)))=true then(let b:=(if a<0 then -a else a);b)else b);(mH a d e c b)))))
theorem Ir(a:Int)(c:Int):RP mK [Z (zE eI a),Z (zE eI c),O,O,O,O] (λr=>Ap.rt (oE eI r)) (bA a c) (Z (fY a c)):=R.tp (bV 2 (kO (fK eI) (zS Y3)) (λ_=>Y3) λe=>(bV 3 (fX (U3 (nP (fX (ao 0 (zE eI) a Y3) 1999999973 (by decide)) (B7 31)) 765432101 (by decide)) 1999999973 (by decide)) (λ_=>Y3) λd=>(bV 4 (B7 0) (λ_=>Y3) λb=>(uD (λb:Int=>[Z (zE eI a),Z (zE eI c),Z (oE eI e),Z (zE eI d),Z (zE eI b),O]) (Sd (cX (IQ (ao 0 (zE eI) a Y3) (B7 0))) (cX (F6 (ao 0 (zE eI) a Y3) (VI 10 18 18 (by decide) Y3)))) (bh (bV 4 (XN (ao 0 (zE eI) a Y3)) (λ_=>Y3) λb=>(bQ (bD b Y3)))) (bQ (bD b Y3)) λb=>(Bd a c e d b).r))))
theorem m9:∀v bs,(aZ eI (aZ eI aN)) v bs->bs.length=2/\(hold (Z (fY v.1 v.2.1))->eG (bs.map lend)=Z ((oE eI) (bA v.1 v.2.1))):=by
 rintro⟨b,a,_⟩ _ ⟨_,rfl,⟨_,rfl,rfl⟩⟩;exact⟨rfl,λh=>cV (g:=mK) (n:=6) (bs:=[.z (eI b),.z (eI a)]) (Ir b a) h⟩
def fG(d:B9)(e:AJ)(f:AJ)(g:Int)(c:AZ)(b:Int):AZ:=(let h:=(ch e ((b+(at' d 2))%15));(let a:=(((Txt.slice f O (Z g))++h)++(Txt.slice f (Z g) O));(let a:AJ:=(if(decide (((at' d 3)%3)=1))=true then(let a:=(Txt.mul (ch e (b / (8:Int))) (1+(b%8)));a)else a);(let c:=c++[a];c))))
def lA(b:B9)(c:AJ)(d:AJ)(e:Int)(h:AZ)(a:Int):Prop:=((In b.length 2/\In c.length ((a+(at' b 2))%15))/\(let g:=(ch c ((a+(at' b 2))%15));((Ls ((Txt.slice d O (Z e)).length+g.length)/\Ls (((Txt.slice d O (Z e))++g).length+(Txt.slice d (Z e) O).length))/\(let f:=(((Txt.slice d O (Z e))++g)++(Txt.slice d (Z e) O));((In b.length 3/\((decide (((at' b 3)%3)=1))=true->(In c.length (a / (8:Int))/\((1+(a%8))<=1000 ∧ -1000<=(1+(a%8))/\(ch c (a / (8:Int))).length<=1000))))/\(let f:AJ:=(if(decide (((at' b 3)%3)=1))=true then(let f:=(Txt.mul (ch c (a / (8:Int))) (1+(a%8)));f)else f);Ls h.length))))))
theorem G4(g:B9)(i:Lp fU (g.map eI))(h:Int)(c:AJ)(e:AJ)(f:Int)(a:AZ)(d:Int):RP ql [Z fU,Z (zE eI h),Z (zE eS c),Z (zE eS e),Z (zE eI f),Z (oE eS a),Z (zE eI d),O,O] (λs=>Ap.nx ((λa:AZ=>[Z fU,Z (zE eI h),Z (zE eS c),Z (zE eS e),Z (zE eI f),Z (oE eS a),O,O,O]) s)) (fG g c e f a d) (Z (lA g c e f a d)):=R.tp (bh (bV 7 (ZR (ao 2 (zE eS) c Y3) (fX (nP (ao 6 (zE eI) d Y3) (lV (jZ 0 eI g i Y3) (B7 2))) 15 (by decide))) (λ_=>Y3) λj=>(bh (bV 8 (ZX (ZX (IY (ao 3 (zE eS) e Y3) ZS (ZV (ao 4 (zE eI) f Y3))) (ao 7 (zE eS) j Y3)) (IY (ao 3 (zE eS) e Y3) (ZV (ao 4 (zE eI) f Y3)) ZS)) (λ_=>Y3) λb=>(bh (uD (λb:AJ=>[Z fU,Z (zE eI h),Z (zE eS c),Z (zE eS e),Z (zE eI f),Z (oE eS a),Z (zE eI d),Z (zE eS j),Z (zE eS b)]) (cX (BT (by decide) (fX (lV (jZ 0 eI g i Y3) (B7 3)) 3 (by decide)) (B7 1))) (bh (bV 8 (c5 (ZR (ao 2 (zE eS) c Y3) (Ln (ao 6 (zE eI) d Y3) 8 (by decide))) (nP (B7 1) (fX (ao 6 (zE eI) d Y3) 8 (by decide)))) (λ_=>Y3) λb=>(bQ (bD b Y3)))) (bQ (bD b Y3)) λb=>(bh (zx 5 a Y3 (ao 8 (zE eS) b Y3) λa=>(bQ (bD a Y3))))))))))
def lB(b:B9)(f:Int)(d:AJ)(c:AJ):AZ:=(let g:=((at' b 1)%((c.length:Int)+1));(let a:=([]:AZ);(let a:AZ:=((rng 0 f.toNat).foldl (λ(a:AZ) (e:Int)=>(fG b d c g a e)) a);a)))
def qm(b:B9)(f:Int)(e:AJ)(c:AJ):Prop:=((In b.length 1/\0<((c.length:Int)+1))/\(let g:=((at' b 1)%((c.length:Int)+1));(let a:=([]:AZ);(Rg f/\nZ (λ(a:AZ) (d:Int)=>(fG b e c g a d)) (λ(a:AZ) (d:Int)=>Z (lA b e c g a d)) (rng 0 f.toNat) a))))
def G5:Ev->S Ap:=(aH (Au 4 (b2 j9 (b2 fu (gv 0) (cB (.int 1))) (b2 jf (cZ Aq (aq (gv 3) aK)) (cB (.int 1))))) (aH (Au 5 (cZ nH aK)) (aH (rE (Xn (aq (gv 1) aK)) (jR 6) ql) (aH (Eh 5) d8))))
theorem G6(d:B9)(f:Lp fU (d.map eI))(c:Int)(e:AJ)(b:AJ):RP G5 [Z fU,Z (zE eI c),Z (zE eS e),Z (zE eS b),O,O,O,O,O] (λr=>Ap.rt (oE eS r)) (lB d c e b) (Z (qm d c e b)):=R.tp (bV 4 (Pu (lV (jZ 0 eI d f Y3) (B7 1)) (nP (XI (ao 3 (zE eS) b Y3)) (B7 1))) (λ_=>Y3) λg=>(bV 5 (kO (fK eS) (zS Y3)) (λ_=>Y3) λa=>(JV (λa:AZ=>[Z fU,Z (zE eI c),Z (zE eS e),Z (zE eS b),Z (zE eI g),Z (oE eS a),O,O,O]) a Y3 (JT (ao 1 (zE eI) c Y3)) _ (λ_ _=>Y3) (λ(a:AZ) (h:Int)=>(G4 d f c e b g a h).r) λa=>(Lz 5 (λr=>r) a Y3 (λ_=>Y3) λ_=>Y3))))
def cJ(a:B9)(e:Int):AZ:=(let b:=("abcdefghijklmnopqrstuvwxyz":AJ);(let c:=(Txt.join "" ((rng 0 ((at' a 0)%6).toNat).map λd:Int=>(ch b (((at' a d) / (40:Int))%26))));(lB a e b c)))
def qX(a:B9)(e:Int):Prop:=(let c:=("abcdefghijklmnopqrstuvwxyz":AJ);(((((In a.length 0/\Rg ((at' a 0)%6))/\(rng 0 ((at' a 0)%6).toNat).length<=100000)/\(∀b∈(rng 0 ((at' a 0)%6).toNat),(In a.length b/\In c.length (((at' a b) / (40:Int))%26))))/\(((rng 0 ((at' a 0)%6).toNat).map λb:Int=>(ch c (((at' a b) / (40:Int))%26))).map (·.length)).sum+((rng 0 ((at' a 0)%6).toNat).map λb:Int=>(ch c (((at' a b) / (40:Int))%26))).length*("":AJ).length<=100000)/\(let d:=(Txt.join "" ((rng 0 ((at' a 0)%6).toNat).map λb:Int=>(ch c (((at' a b) / (40:Int))%26))));(qm a e c d))))
theorem Qp(a:B9)(b:Lp fU (a.map eI))(c:Int):RP qL [Z fU,Z (zE eI c),O,O,O,O,O,O,O] (λr=>Ap.rt (oE eS r)) (cJ a c) (Z (qX a c)):=R.tp (bV 2 (GS "abcdefghijklmnopqrstuvwxyz") (λ_=>Y3) λd=>(bV 3 (OU "" (nO (Ss (JT (fX (lV (jZ 0 eI a b Y3) (B7 0)) 6 (by decide))) _ (λ_=>Y3) (λe:Int=>(ZR (ao 0 (zE eS) d Y3) (fX (Ln (lV (jZ 1 eI a b (congrArg Z (b.get Y3))) (ao 2 (zE eI) e Y3)) 40 (by decide)) 26 (by decide))))))) (λ_=>Y3) λf=>(G6 a b c d f).r))
theorem Qq:∀v bs,(aL eI (aZ eI aN)) v bs->bs.length=2/\(hold (Z (qX v.1 v.2.1))->nQ (bs.map lend)=Z ((oE eS) (cJ v.1 v.2.1))):=by
 rintro⟨b,a,_⟩ _ ⟨fU,_,rfl,c,⟨_,rfl,rfl⟩⟩;exact⟨rfl,λh=>cV (g:=qL) (n:=9) (bs:=[lend fU,.z (eI a)]) (Qp b (BK c) a) h⟩
def c7(j:B9)(l:Int)(e:Int)(g:B9)(f:AZ)(b:Y aD)(h:Int):(Y aD):=(let a:=(bA (bF j ((l+1)+h)) 4);(let y1:=((at' a 0)%(if e>1 then e else 1));let y2:=((at' a 1)%(if e>1 then e else 1));let c:=y1;let d:=y2;(let i:=(at' [(1+((at' a 2)%3)),(1+((at' a 2)%9)),(1+((at' a 2)%1000))] ((at' g 4)%3));(let b:(Y aD):=(if(!decide (c=d))=true then(let b:=b++[(((0:Int)-i),(at' f (if d<c then d else c)),(at' f (if d>c then d else c)),(at' [(0:Int),(2:Int),(10:Int)] ((at' a 3)%3)))];b)else b);b))))
def iz(g:B9)(h:Int)(b:Int)(e:B9)(i:AZ)(j:Y aD)(f:Int):Prop:=(((iW g ((h+1)+f))/\(fY (bF g ((h+1)+f)) 4))/\(let a:=(bA (bF g ((h+1)+f)) 4);(((In a.length 0/\0<(if b>1 then b else 1))/\(In a.length 1/\0<(if b>1 then b else 1)))/\(let y1:=((at' a 0)%(if b>1 then b else 1));let y2:=((at' a 1)%(if b>1 then b else 1));let c:=y1;let d:=y2;((((In a.length 2/\(In a.length 2/\In a.length 2))/\In e.length 4)/\In [(1+((at' a 2)%3)),(1+((at' a 2)%9)),(1+((at' a 2)%1000))].length ((at' e 4)%3))/\(let l:=(at' [(1+((at' a 2)%3)),(1+((at' a 2)%9)),(1+((at' a 2)%1000))] ((at' e 4)%3));((!decide (c=d))=true->((In i.length (if d<c then d else c)/\(In i.length (if d>c then d else c)/\(In a.length 3/\In [(0:Int),(2:Int),(10:Int)].length ((at' a 3)%3))))/\Ls j.length))))))))
theorem CG(i:B9)(o:Lp fU (i.map eI))(f:Int)(c:Int)(m:Int)(l:Int)(e:B9)(d:AZ)(a:Y aD)(g:Int):RP n6 [Z fU,Z (zE eI f),Z (zE eI c),Z (zE eI m),Z (zE eI l),Z (oE eI e),Z (oE eS d),Z (oE aG a),Z (zE eI g),O,O,O,O,O,O] (λs=>Ap.nx ((λa:(Y aD)=>[Z fU,Z (zE eI f),Z (zE eI c),Z (zE eI m),Z (zE eI l),Z (oE eI e),Z (oE eS d),Z (oE aG a),O,O,O,O,O,O,O]) s)) (c7 i f c e d a g) (Z (iz i f c e d a g)):=R.tp (bh (bV 9 (An m9 (cj (qe (An um (xZ (jZ 0 eI i o Y3) (cj (qe (nP (nP (ao 1 (zE eI) f Y3) (B7 1)) (ao 8 (zE eI) g Y3))) bG)))) (cj (B7 4) bG))) (λ_=>Y3) λb=>(bh (Z9 10 11 (Pu (lV (lM (ao 9 (lE eI) b Y3)) (B7 0)) (Gi (B7 1) (ao 2 (zE eI) c Y3))) (Pu (lV (lM (ao 9 (lE eI) b Y3)) (B7 1)) (Gi (B7 1) (ao 2 (zE eI) c Y3))) λh j=>(bh (bV 12 (lV (nO (kO (eF (qe (nP (B7 1) (fX (lV (lM (ao 9 (lE eI) b Y3)) (B7 2)) 3 (by decide)))) (eF (qe (nP (B7 1) (fX (lV (lM (ao 9 (lE eI) b Y3)) (B7 2)) 9 (by decide)))) (eF (qe (nP (B7 1) (fX (lV (lM (ao 9 (lE eI) b Y3)) (B7 2)) 1000 (by decide)))) (fK eI)))) (zS Y3))) (fX (lV (lM (ao 5 (lE eI) e Y3)) (B7 4)) 3 (by decide))) (λ_=>Y3) λn=>(bh (uD (λa:(Y aD)=>[Z fU,Z (zE eI f),Z (zE eI c),Z (zE eI m),Z (zE eI l),Z (oE eI e),Z (oE eS d),Z (oE aG a),Z (zE eI g),Z (oE eI b),Z (zE eI h),Z (zE eI j),Z (zE eI n),O,O]) (cX (Px (by decide) (ao 10 (zE eI) h Y3) (ao 11 (zE eI) j Y3))) (bh (zx 7 a Y3 (Lr (U0 (B7 0) (ao 12 (zE eI) n Y3)) (lV (lM (ao 6 (lE eS) d Y3)) (Z5 (ao 10 (zE eI) h Y3) (ao 11 (zE eI) j Y3))) (lV (lM (ao 6 (lE eS) d Y3)) (Gi (ao 10 (zE eI) h Y3) (ao 11 (zE eI) j Y3))) (lV (nO (kO (eF (B7 0) (eF (B7 2) (eF (B7 10) (fK eI)))) (zS Y3))) (fX (lV (lM (ao 9 (lE eI) b Y3)) (B7 3)) 3 (by decide)))) λa=>(bQ (bD a Y3)))) (bQ (bD a Y3)) λa=>(bQ (bD a Y3))))))))))
def dH(j:B9)(l:Int)(d:Int)(f:AZ)(a:Y bW)(i:Int):(Y bW):=(let e:=(bA (bF j ((l+1)+i)) 8);(let g:=((at' e 5)%(if d>1 then d else 1));let h:=((at' e 6)%(if d>1 then d else 1));let b:=g;let c:=h;(let a:(Y bW):=(if(!decide (b=c))=true then(let a:=a++[((at' f (if c<b then c else b)),(at' f (if c>b then c else b)),(at' [(2:Int),(10:Int)] ((at' e 7)%2)))];a)else a);a)))
def iB(f:B9)(g:Int)(a:Int)(h:AZ)(i:Y bW)(e:Int):Prop:=(((iW f ((g+1)+e))/\(fY (bF f ((g+1)+e)) 8))/\(let b:=(bA (bF f ((g+1)+e)) 8);(((In b.length 5/\0<(if a>1 then a else 1))/\(In b.length 6/\0<(if a>1 then a else 1)))/\(let j:=((at' b 5)%(if a>1 then a else 1));let l:=((at' b 6)%(if a>1 then a else 1));let c:=j;let d:=l;((!decide (c=d))=true->((In h.length (if d<c then d else c)/\(In h.length (if d>c then d else c)/\(In b.length 7/\In [(2:Int),(10:Int)].length ((at' b 7)%2))))/\Ls i.length))))))
theorem CJ(h:B9)(p:Lp fU (h.map eI))(d:Int)(b:Int)(m:Int)(n:Int)(j:B9)(c:AZ)(l:Y aD)(o:Y aD)(a:Y bW)(e:Int):RP n8 [Z fU,Z (zE eI d),Z (zE eI b),Z (zE eI m),Z (zE eI n),Z (oE eI j),Z (oE eS c),Z (oE aG l),Z (zE eI e),O,O,O,O,Z (oE aG o),Z (oE bH a)] (λs=>Ap.nx ((λa:(Y bW)=>[Z fU,Z (zE eI d),Z (zE eI b),Z (zE eI m),Z (zE eI n),Z (oE eI j),Z (oE eS c),Z (oE aG l),O,O,O,O,O,Z (oE aG o),Z (oE bH a)]) s)) (dH h d b c a e) (Z (iB h d b c a e)):=R.tp (bh (bV 9 (An m9 (cj (qe (An um (xZ (jZ 0 eI h p Y3) (cj (qe (nP (nP (ao 1 (zE eI) d Y3) (B7 1)) (ao 8 (zE eI) e Y3))) bG)))) (cj (B7 8) bG))) (λ_=>Y3) λf=>(bh (Z9 10 11 (Pu (lV (lM (ao 9 (lE eI) f Y3)) (B7 5)) (Gi (B7 1) (ao 2 (zE eI) b Y3))) (Pu (lV (lM (ao 9 (lE eI) f Y3)) (B7 6)) (Gi (B7 1) (ao 2 (zE eI) b Y3))) λg i=>(bh (uD (λa:(Y bW)=>[Z fU,Z (zE eI d),Z (zE eI b),Z (zE eI m),Z (zE eI n),Z (oE eI j),Z (oE eS c),Z (oE aG l),Z (zE eI e),Z (oE eI f),Z (zE eI g),Z (zE eI i),O,Z (oE aG o),Z (oE bH a)]) (cX (Px (by decide) (ao 10 (zE eI) g Y3) (ao 11 (zE eI) i Y3))) (bh (zx 14 a Y3 (xY (lV (lM (ao 6 (lE eS) c Y3)) (Z5 (ao 10 (zE eI) g Y3) (ao 11 (zE eI) i Y3))) (lV (lM (ao 6 (lE eS) c Y3)) (Gi (ao 10 (zE eI) g Y3) (ao 11 (zE eI) i Y3))) (lV (nO (kO (eF (B7 2) (eF (B7 10) (fK eI))) (zS Y3))) (fX (lV (lM (ao 9 (lE eI) f Y3)) (B7 7)) 2 (by decide)))) λa=>(bQ (bD a Y3)))) (bQ (bD a Y3)) λa=>(bQ (bD a Y3))))))))
def ou(h:B9)(i:Int)(f:Int)(m:Int)(g:Int)(l:B9)(c:AZ)(d:Y aD):lO:=(let j:=((gC aG (Ho d)).map λb:aD=>(((0:Int)-b.1),b.2.1,b.2.2.1,b.2.2.2));(let a:=([]:Y bW);(let a:(Y bW):=((rng 0 g.toNat).foldl (λ(a:Y bW) (e:Int)=>(dH h i f c a e)) a);(c,j,(gC bH (Ho a))))))
def oA(h:B9)(i:Int)(e:Int)(l:Int)(f:Int)(j:B9)(g:AZ)(c:Y aD):Prop:=(((c.length<=64/\c.length<64)/\(gC aG (Ho c)).length<=100000)/\(let m:=((gC aG (Ho c)).map λd:aD=>(((0:Int)-d.1),d.2.1,d.2.2.1,d.2.2.2));(let a:=([]:Y bW);((Rg f/\nZ (λ(a:Y bW) (b:Int)=>(dH h i e g a b)) (λ(a:Y bW) (b:Int)=>Z (iB h i e g a b)) (rng 0 f.toNat) a)/\(let a:(Y bW):=((rng 0 f.toNat).foldl (λ(a:Y bW) (b:Int)=>(dH h i e g a b)) a);(a.length<=64/\a.length<64))))))
def uJ:Ev->S Ap:=(aH (Au 13 (gk (K3 (FJ (RW (gv 7)))) (pX 4 (bZ (jR 0) (bZ (jR 1) (bZ (jR 2) (bZ (jR 3) rQ))))) xP (cZ jC (aq (b2 C8 (cB (.int 0)) (gv 0)) (aq (gv 1) (aq (gv 2) (aq (gv 3) aK))))) [] 4)) (aH (Au 14 (cZ nH aK)) (aH (rE (Xn (aq (gv 4) aK)) (jR 8) n8) (aH (gB (cZ jC (aq (cZ kE (aq (gv 6) aK)) (aq (cZ kE (aq (gv 13) aK)) (aq (cZ kE (aq (FJ (RW (gv 14))) aK)) aK))))) d8))))
theorem CK(i:B9)(m:Lp fU (i.map eI))(h:Int)(f:Int)(g:Int)(c:Int)(e:B9)(d:AZ)(b:Y aD):RP uJ [Z fU,Z (zE eI h),Z (zE eI f),Z (zE eI g),Z (zE eI c),Z (oE eI e),Z (oE eS d),Z (oE aG b),O,O,O,O,O,O,O] (λr=>Ap.rt (zE cY r)) (ou i h f g c e d b) (Z (oA i h f g c e d b)):=R.tp (bV 13 (tK (Sv (nO (Mm (Ic (lM (ao 7 (lE aG) b Y3)))))) _ (λ_=>Y3) (λj:aD=>(Lr (U0 (B7 0) (ao 0 (zE eI) j.1 Y3)) (ao 1 (zE eS) j.2.1 Y3) (ao 2 (zE eS) j.2.2.1 Y3) (ao 3 (zE eI) j.2.2.2 Y3))) λ_=>Y3) (λ_=>Y3) λl=>(bV 14 (kO (fK bH) (zS Y3)) (λ_=>Y3) λa=>(JV (λa:(Y bW)=>[Z fU,Z (zE eI h),Z (zE eI f),Z (zE eI g),Z (zE eI c),Z (oE eI e),Z (oE eS d),Z (oE aG b),O,O,O,O,O,Z (oE aG l),Z (oE bH a)]) a Y3 (JT (ao 4 (zE eI) c Y3)) _ (λ_ _=>Y3) (λ(a:Y bW) (n:Int)=>(CJ i m h f g c e d b l a n).r) λa=>(dR (λr=>r) (xY (tH (lM (ao 6 (lE eS) d Y3))) (tH (lM (ao 13 (lE aG) l Y3))) (tH (nO (Mm (Ic (lM (ao 14 (lE bH) a Y3))))))) (λ_=>Y3) λ_=>Y3))))
def oF(f:B9)(g:Int)(c:Int)(e:Int)(i:Int)(b:B9)(d:AZ):lO:=(let a:=([]:Y aD);(let a:(Y aD):=((rng 0 e.toNat).foldl (λ(a:Y aD) (h:Int)=>(c7 f g c b d a h)) a);(ou f g c e i b d a)))
def oG(g:B9)(h:Int)(d:Int)(f:Int)(i:Int)(c:B9)(e:AZ):Prop:=(let a:=([]:Y aD);((Rg f/\nZ (λ(a:Y aD) (b:Int)=>(c7 g h d c e a b)) (λ(a:Y aD) (b:Int)=>Z (iz g h d c e a b)) (rng 0 f.toNat) a)/\(let a:(Y aD):=((rng 0 f.toNat).foldl (λ(a:Y aD) (b:Int)=>(c7 g h d c e a b)) a);(oA g h d f i c e a))))
def uK:Ev->S Ap:=(aH (Au 7 (cZ nH aK)) (aH (rE (Xn (aq (gv 3) aK)) (jR 8) n6) uJ))
theorem CN(h:B9)(i:Lp fU (h.map eI))(g:Int)(d:Int)(b:Int)(e:Int)(c:B9)(f:AZ):RP uK [Z fU,Z (zE eI g),Z (zE eI d),Z (zE eI b),Z (zE eI e),Z (oE eI c),Z (oE eS f),O,O,O,O,O,O,O,O] (λr=>Ap.rt (zE cY r)) (oF h g d b e c f) (Z (oG h g d b e c f)):=R.tp (bV 7 (kO (fK aG) (zS Y3)) (λ_=>Y3) λa=>(JV (λa:(Y aD)=>[Z fU,Z (zE eI g),Z (zE eI d),Z (zE eI b),Z (zE eI e),Z (oE eI c),Z (oE eS f),Z (oE aG a),O,O,O,O,O,O,O]) a Y3 (JT (ao 3 (zE eI) b Y3)) _ (λ_ _=>Y3) (λ(a:Y aD) (j:Int)=>(CG h i g d b e c f a j).r) λa=>(CK h i g d b e c f a).r))
def oH(f:B9)(g:Int)(b:Int)(e:Int)(c:Int)(a:B9):lO:=(let d:=(wU (cJ a b));(oF f g b e c a d))
def oJ(f:B9)(g:Int)(b:Int)(e:Int)(c:Int)(a:B9):Prop:=(((qX a b)/\(cJ a b).length<64)/\(let d:=(wU (cJ a b));(oG f g b e c a d)))
def CP:Ev->S Ap:=(aH (Au 6 (cZ Jw (aq (bY 2 nQ (aq (gv 5) (aq (gv 2) aK))) aK))) uK)
theorem CQ(e:B9)(g:Lp fU (e.map eI))(f:Int)(b:Int)(d:Int)(c:Int)(a:B9):RP CP [Z fU,Z (zE eI f),Z (zE eI b),Z (zE eI d),Z (zE eI c),Z (oE eI a),O,O,O,O,O,O,O,O,O] (λr=>Ap.rt (zE cY r)) (oH e f b d c a) (Z (oJ e f b d c a)):=R.tp (bV 6 (U' (nO (An Qq (xZ (lM (ao 5 (lE eI) a Y3)) (cj (ao 2 (zE eI) b Y3) bG))))) (λ_=>Y3) λh=>(CN e g f b d c a h).r)
def jx(a:B9)(b:Int)(d:Int)(f:Int)(e:Int):lO:=(let c:=(bA (bF a b) 6);(oH a b d f e c))
def pK(a:B9)(b:Int)(d:Int)(f:Int)(e:Int):Prop:=(((iW a b)/\(fY (bF a b) 6))/\(let c:=(bA (bF a b) 6);(oJ a b d f e c)))
theorem Ms(a:B9)(f:Lp fU (a.map eI))(b:Int)(c:Int)(e:Int)(d:Int):RP oY [Z fU,Z (zE eI b),Z (zE eI c),Z (zE eI e),Z (zE eI d),O,O,O,O,O,O,O,O,O,O] (λr=>Ap.rt (zE cY r)) (jx a b c e d) (Z (pK a b c e d)):=R.tp (bV 5 (An m9 (cj (qe (An um (xZ (jZ 0 eI a f Y3) (cj (ao 1 (zE eI) b Y3) bG)))) (cj (B7 6) bG))) (λ_=>Y3) λg=>(CQ a f b c e d g).r)
theorem Mt:∀v bs,(aL eI (aZ eI (aZ eI (aZ eI (aZ eI aN))))) v bs->bs.length=5/\(hold (Z (pK v.1 v.2.1 v.2.2.1 v.2.2.2.1 v.2.2.2.2.1))->oZ (bs.map lend)=Z ((zE cY) (jx v.1 v.2.1 v.2.2.1 v.2.2.2.1 v.2.2.2.2.1))):=by
 rintro⟨f,d,a,c,b,_⟩ _ ⟨fU,_,rfl,e,⟨_,rfl,⟨_,rfl,⟨_,rfl,⟨_,rfl,rfl⟩⟩⟩⟩⟩;exact⟨rfl,λh=>cV (g:=oY) (n:=15) (bs:=[lend fU,.z (eI d),.z (eI a),.z (eI c),.z (eI b)]) (Ms f (BK e) d a c b) h⟩
def aU(b:AZ):(Y (AJ×AJ)):=(F3 (b.map λa:AJ=>(a,a)))
def lC(a:AZ):Prop:=(a.length<1000/\a.length<=100000)
theorem Mu(a:AZ):RP o7 [Z ((zE (eT eS)) a)] (λr=>Ap.rt (mE eS r)) (aU a) (Z (lC a)):=R.tp (dR (λr=>r) (T' (Z7 (ao 0 (zE (eT eS)) a Y3)) (tK (Z7 (ao 0 (zE (eT eS)) a Y3)) _ (λ_=>Y3) (λb:AJ=>(ac (ao 0 (zE eS) b Y3) (ao 0 (zE eS) b Y3))) λ_=>Y3)) (λ_=>Y3) λ_=>Y3)
theorem zW:∀v bs,(aZ (eT eS) aN) v bs->bs.length=1/\(hold (Z (lC v.1))->jh (bs.map lend)=Z ((mE eS) (aU v.1))):=by
 rintro⟨a,_⟩ _ ⟨_,rfl,rfl⟩;exact⟨rfl,λh=>cV (g:=o7) (n:=1) (bs:=[.z (eT eS a)]) (Mu a) h⟩
def eZ(b:(Y (AJ×AJ)))(c:AJ)(vx:AJ)(d:Unit)(a:bW):j4 (Unit) (S bW):=(if(((decide ((look b a.1)=c))&&(decide ((look b a.2.1)=vx)))||((decide ((look b a.1)=vx))&&(decide ((look b a.2.1)=c))))=true then(j4.rt (Z a))else(j4.nx ()))
def sJ(b:(Y (AJ×AJ)))(c:AJ)(vx:AJ)(d:Unit)(a:bW):Prop:=((has b a.1=true/\((decide ((look b a.1)=c))=true->has b a.2.1=true))/\(((decide ((look b a.1)=c))&&(decide ((look b a.2.1)=vx)))=false->(has b a.1=true/\((decide ((look b a.1)=vx))=true->has b a.2.1=true))))
theorem Bf(e:Y bW)(a:(Y (AJ×AJ)))(c:AJ)(vx:AJ)(d:Unit)(b:bW):RP su [Z ((zE (eT bH)) e),Z (nE eS a),Z (zE eS c),Z (zE eS vx),Z (zE bH b)] (cC (λd:Unit=>[Z ((zE (eT bH)) e),Z (nE eS a),Z (zE eS c),Z (zE eS vx),O]) (zE (eO bH))) (eZ a c vx d b) (Z (sJ a c vx d b)):=R.tp (bh (oN (Sd (Gh (cX (BT (by decide) (jU (ao 1 (nE eS) a Y3) (dY (ao 4 (zE bH) b Y3) (λq=>q.1) eS 0 λ_=>Y3)) (ao 2 (zE eS) c Y3))) (cX (BT (by decide) (jU (ao 1 (nE eS) a Y3) (dY (ao 4 (zE bH) b Y3) (λq=>q.2.1) eS 1 λ_=>Y3)) (ao 3 (zE eS) vx Y3)))) (Gh (cX (BT (by decide) (jU (ao 1 (nE eS) a Y3) (dY (ao 4 (zE bH) b Y3) (λq=>q.1) eS 0 λ_=>Y3)) (ao 3 (zE eS) vx Y3))) (cX (BT (by decide) (jU (ao 1 (nE eS) a Y3) (dY (ao 4 (zE bH) b Y3) (λq=>q.2.1) eS 1 λ_=>Y3)) (ao 2 (zE eS) c Y3))))) (bh (dR .rt (Lj (ao 4 (zE bH) b Y3)) (λ_=>Y3) λ_=>Y3)) (bQ (bQ (bD (.nx ()) Y3)))))
def eX(c:Y bW)(b:(Y (AJ×AJ)))(e:AJ)(vx:AJ):(S bW):=(BG (kW (λ(a:Unit) (d:bW)=>((eZ b e vx a d):j4 (Unit) (S bW))) c ()) (λr=>r) λa:Unit=>O)
def ni(e:Y bW)(c:(Y (AJ×AJ)))(d:AJ)(vx:AJ):Prop:=(uF (λ(a:Unit) (b:bW)=>((eZ c d vx a b):j4 (Unit) (S bW))) (λ(a:Unit) (b:bW)=>Z (sJ c d vx a b)) e ()/\(oX (kW (λ(a:Unit) (b:bW)=>((eZ c d vx a b):j4 (Unit) (S bW))) e ()) λa:Unit=>True))
theorem Iu(a:Y bW)(b:(Y (AJ×AJ)))(c:AJ)(vx:AJ):RP mL [Z ((zE (eT bH)) a),Z (nE eS b),Z (zE eS c),Z (zE eS vx),O] (λr=>Ap.rt ((zE (eO bH)) r)) (eX a b c vx) (Z (ni a b c vx)):=R.tp (U7 0 a (Sw Y3) (λd:Unit=>[Z ((zE (eT bH)) a),Z (nE eS b),Z (zE eS c),Z (zE eS vx),O]) () Y3 _ (λ_ _=>Y3) (λ(d:Unit) (e:bW)=>((Bf a b c vx d e).r:R _ _ (cC (λd:Unit=>[Z ((zE (eT bH)) a),Z (nE eS b),Z (zE eS c),Z (zE eS vx),O]) (zE (eO bH))))) (λr=>r) (λ_=>Y3) λd=>(dR (λr=>r) R8 (λ_=>Y3) λ_=>Y3))
theorem Iv:∀v bs,(aZ (eT bH) (aM eS (aZ eS (aZ eS aN)))) v bs->bs.length=4/\(hold (Z (ni v.1 v.2.1 v.2.2.1 v.2.2.2.1))->mO (bs.map lend)=Z ((zE (eO bH)) (eX v.1 v.2.1 v.2.2.1 v.2.2.2.1))):=by
 rintro⟨b,a,c,vx,_⟩ _ ⟨_,rfl,⟨_,_,rfl,(rfl|rfl),⟨_,rfl,⟨_,rfl,rfl⟩⟩⟩⟩
 all_goals exact⟨rfl,λh=>cV (g:=mL) (n:=5) (bs:=[.z (eT bH b),nE eS a,.z (eS c),.z (eS vx)]) (Iu b a c vx) h⟩
def dI(d:AJ)(vx:AJ)(c:AJ)(a:(Y (AJ×AJ)))(b:AJ):(Y (AJ×AJ)):=(let a:(Y (AJ×AJ)):=(if((decide ((look a b)=d))||(decide ((look a b)=vx)))=true then(let a:=put a b c;a)else a);a)
def oK(c:AJ)(vx:AJ)(d:AJ)(a:(Y (AJ×AJ)))(b:AJ):Prop:=((has a b=true/\((decide ((look a b)=c))=false->has a b=true))/\(((decide ((look a b)=c))||(decide ((look a b)=vx)))=true->a.length<1000))
theorem CT(d:AJ)(vx:AJ)(c:AJ)(a:(Y (AJ×AJ)))(b:AJ):RP uG [Z ((mW (Z a_) eS) a),Z (zE eS d),Z (zE eS vx),Z (zE eS c),Z (zE eS b)] (λs=>Ap.nx ((λa:(Y (AJ×AJ))=>[Z ((mW (Z a_) eS) a),Z (zE eS d),Z (zE eS vx),Z (zE eS c),O]) s)) (dI d vx c a b) (Z (oK d vx c a b)):=R.tp (bh (uD (λa:(Y (AJ×AJ))=>[Z ((mW (Z a_) eS) a),Z (zE eS d),Z (zE eS vx),Z (zE eS c),Z (zE eS b)]) (Sd (cX (BT (by decide) (jU (ao 0 (nE eS) a Y3) (ao 4 (zE eS) b Y3)) (ao 1 (zE eS) d Y3))) (cX (BT (by decide) (jU (ao 0 (nE eS) a Y3) (ao 4 (zE eS) b Y3)) (ao 2 (zE eS) vx Y3)))) (bh (U9 (Z a_) 0 a Y3 (ao 3 (zE eS) c Y3) (ao 4 (zE eS) b Y3) λa=>(bQ (bD a Y3)))) (bQ (bD a Y3)) λa=>(bQ (bD a Y3))))
def fP(a:(Y (AJ×AJ)))(b:AJ)(vx:AJ):(Y (AJ×AJ)):=(let c:=(if wK vx b=true then vx else b);(let a:(Y (AJ×AJ)):=((a.map (·.1)).foldl (λ(a:(Y (AJ×AJ))) (d:AJ)=>(dI b vx c a d)) a);a))
def lD(a:(Y (AJ×AJ)))(b:AJ)(vx:AJ):Prop:=(let d:=(if wK vx b=true then vx else b);nZ (λ(a:(Y (AJ×AJ))) (c:AJ)=>(dI b vx d a c)) (λ(a:(Y (AJ×AJ))) (c:AJ)=>Z (oK b vx d a c)) (a.map (·.1)) a)
def uo(a:(Y (AJ×AJ)))(b:AJ)(vx:AJ):R o8 [Z ((mW (Z a_) eS) a),Z (zE eS b),Z (zE eS vx),O,O] (λd=>Ap.nx [Z ((mW (Z a_) eS) d),Z (zE eS b),Z (zE eS vx),O,O]):=(bh (bV 3 (Sn (ao 1 (zE eS) b Y3) (ao 2 (zE eS) vx Y3)) (λ_=>Y3) λc=>(bh (JV (λa:(Y (AJ×AJ))=>[Z ((mW (Z a_) eS) a),Z (zE eS b),Z (zE eS vx),Z (zE eS c),O]) a Y3 (MT (Sl (ao 0 (nE eS) a Y3))) _ (λ_ _=>Y3) (λ(a:(Y (AJ×AJ))) (e:AJ)=>(CT b vx c a e).r) λa=>(bQ (bD a Y3))))))
theorem Iw(a:(Y (AJ×AJ)))(b:AJ)(vx:AJ):(uo (a_:=a_) a b vx).v=fP a b vx:=by kernel_rfl
theorem Iz(a:(Y (AJ×AJ)))(b:AJ)(vx:AJ):(uo (a_:=a_) a b vx).D=Z (lD a b vx):=by kernel_rfl
theorem zX:∀(b:(Y (AJ×AJ))) v bs,(aZ eS (aZ eS aN)) v bs->bs.length=2/\bs.all DI=true/\(hold (Z (lD b v.1 v.2.1))->∀a,gQ a (b.map λq=>(kS q.1,eS q.2)) bs=Z ((fP b v.1 v.2.1).map λq=>(kS q.1,eS q.2))):=by
 rintro b ⟨c,vx,_⟩ _ ⟨_,rfl,⟨_,rfl,rfl⟩⟩;exact⟨rfl,rfl,λh a=>(VO (g:=o8) (n:=5) (bs:=[.z (eS c),.z (eS vx)]) (uo (a_:=a) b c vx) ((congrArg hold (Iz (a_:=a) b c vx)).mpr h) (λ_=>Y3)).trans (congrArg (λr:(Y (AJ×AJ))=>Z (r.map λq=>(kS q.1,eS q.2))) (Iw (a_:=a) b c vx))⟩
def jH(b:(Y (AJ×AJ)))(c:AJ):AZ:=(((b.map (·.1)).filter λa:AJ=>(decide ((look b a)=c))).map λa:AJ=>a)
def nj(a:(Y (AJ×AJ)))(c:AJ):Prop:=((a.map (·.1)).length<=100000/\(∀b∈(a.map (·.1)),has a b=true))
theorem IK(a:(Y (AJ×AJ)))(b:AJ):RP mQ [Z (nE eS a),Z (zE eS b)] (λr=>Ap.rt ((zE (eT eS)) r)) (jH a b) (Z (nj a b)):=R.tp (dR (λr=>r) (tH (nO (Ds (ML (ao 0 (nE eS) a Y3)) _ (λ_=>Y3) (λc:AJ=>(cX (BT (by decide) (jU (ao 1 (nE eS) a Y3) (ao 2 (zE eS) c Y3)) (ao 0 (zE eS) b Y3)))) (λc:AJ=>(ao 2 (zE eS) c Y3))))) (λ_=>Y3) λ_=>Y3)
theorem IV:∀v bs,(aM eS (aZ eS aN)) v bs->bs.length=2/\(hold (Z (nj v.1 v.2.1))->mR (bs.map lend)=Z ((zE (eT eS)) (jH v.1 v.2.1))):=by
 rintro⟨b,a,_⟩ _ ⟨_,_,rfl,(rfl|rfl),⟨_,rfl,rfl⟩⟩
 all_goals exact⟨rfl,λh=>cV (g:=mQ) (n:=2) (bs:=[nE eS b,.z (eS a)]) (IK b a) h⟩
def fQ(b:(Y (AJ×AJ))):(Y AZ):=(((b.map (·.1)).filter λa:AJ=>(decide ((look b a)=a))).map λa:AJ=>(jH b a))
def lF(a:(Y (AJ×AJ))):Prop:=((a.map (·.1)).length<=100000/\(∀b∈(a.map (·.1)),(has a b=true/\((decide ((look a b)=b))=true->(nj a b)))))
theorem Mv(a:(Y (AJ×AJ))):RP o9 [Z (nE eS a)] (λr=>Ap.rt ((oE (eT eS)) r)) (fQ a) (Z (lF a)):=R.tp (dR (λr=>r) (Ds (ML (ao 0 (nE eS) a Y3)) _ (λ_=>Y3) (λb:AJ=>(cX (BT (by decide) (jU (ao 0 (nE eS) a Y3) (ao 1 (zE eS) b Y3)) (ao 1 (zE eS) b Y3)))) (λb:AJ=>(qe (An IV (Fm (ao 0 (nE eS) a Y3) (cj (ao 1 (zE eS) b Y3) bG)))))) (λ_=>Y3) λ_=>Y3)
theorem Mw:∀v bs,(aM eS aN) v bs->bs.length=1/\(hold (Z (lF v.1))->pq (bs.map lend)=Z ((oE (eT eS)) (fQ v.1))):=by
 rintro⟨a,_⟩ _ ⟨_,_,rfl,(rfl|rfl),rfl⟩
 all_goals exact⟨rfl,λh=>cV (g:=o9) (n:=1) (bs:=[nE eS a]) (Mv a) h⟩
def dJ(i:Y bW)(a:(Y (AJ×AJ))×(Y aD)×(Y dO))(b:aD):(Y (AJ×AJ))×(Y aD)×(Y dO):=(let e:=(look a.1 b.2.1);(let vx:=(look a.1 b.2.2.1);(let d:(Y (AJ×AJ))×(Y aD)×(Y dO):=(if(!decide (e=vx))=true then(let f:=(eX i a.1 e vx);(let c:(Y (AJ×AJ))×(Y aD)×(Y dO):=(if f.isNone=true then(let h:=(fP a.1 e vx);(let g:=a.2.1++[b];(h,g,a.2.2)))else(let vs:=a.2.2++[(b,(f.getD default))];(a.1,a.2.1,vs)));(c.1,c.2.1,c.2.2)))else(a.1,a.2.1,a.2.2));(d.1,d.2.1,d.2.2))))
def jM(e:Y bW)(a:(Y (AJ×AJ))×(Y aD)×(Y dO))(c:aD):Prop:=(has a.1 c.2.1=true/\(let b:=(look a.1 c.2.1);(has a.1 c.2.2.1=true/\(let vx:=(look a.1 c.2.2.1);((!decide (b=vx))=true->((ni e a.1 b vx)/\(let d:=(eX e a.1 b vx);((d.isNone=true->((lD a.1 b vx)/\(let f:=(fP a.1 b vx);Ls a.2.1.length)))/\(d.isNone=false->(d.isSome=true/\Ls a.2.2.length))))))))))
theorem CV(h:lO)(g:AZ)(i:Y aD)(e:Y bW)(a:(Y (AJ×AJ))×(Y aD)×(Y dO))(b:aD):RP uH [Z (zE cY h),Z ((zE (eT eS)) g),Z ((zE (eT aG)) i),Z ((zE (eT bH)) e),Z ((mE eS) a.1),Z ((oE aG) a.2.1),Z ((oE rH) a.2.2),Z (zE aG b),O,O,O] (λs=>Ap.nx ((λa:(Y (AJ×AJ))×(Y aD)×(Y dO)=>[Z (zE cY h),Z ((zE (eT eS)) g),Z ((zE (eT aG)) i),Z ((zE (eT bH)) e),Z ((mE eS) a.1),Z ((oE aG) a.2.1),Z ((oE rH) a.2.2),O,O,O,O]) s)) (dJ e a b) (Z (jM e a b)):=R.tp (bh (bV 8 (jU (ao 4 (nE eS) a.1 Y3) (dY (ao 7 (zE aG) b Y3) (λq=>q.2.1) eS 1 λ_=>Y3)) (λ_=>Y3) λf=>(bh (bV 9 (jU (ao 4 (nE eS) a.1 Y3) (dY (ao 7 (zE aG) b Y3) (λq=>q.2.2.1) eS 2 λ_=>Y3)) (λ_=>Y3) λvx=>(bh (uD (λd:(Y (AJ×AJ))×(Y aD)×(Y dO)=>[Z (zE cY h),Z ((zE (eT eS)) g),Z ((zE (eT aG)) i),Z ((zE (eT bH)) e),Z ((mE eS) d.1),Z ((oE aG) d.2.1),Z ((oE rH) d.2.2),Z (zE aG b),Z (zE eS f),Z (zE eS vx),O]) (cX (Px (by decide) (ao 8 (zE eS) f Y3) (ao 9 (zE eS) vx Y3))) (bh (bV 10 (An Iv (cj (ao 3 (zE (eT bH)) e Y3) (Fm (ao 4 (nE eS) a.1 Y3) (cj (ao 8 (zE eS) f Y3) (cj (ao 9 (zE eS) vx Y3) bG))))) (λ_=>Y3) λj=>(bh (uD (λc:(Y (AJ×AJ))×(Y aD)×(Y dO)=>[Z (zE cY h),Z ((zE (eT eS)) g),Z ((zE (eT aG)) i),Z ((zE (eT bH)) e),Z ((mE eS) c.1),Z ((oE aG) c.2.1),Z ((oE rH) c.2.2),Z (zE aG b),Z (zE eS f),Z (zE eS vx),Z ((zE (eO bH)) j)]) (cX (a8 (ao 10 (zE (eO bH)) j Y3) λ_=>Y3)) (bh (LX O 4 a.1 Y3 zX (cj (ao 8 (zE eS) f Y3) (cj (ao 9 (zE eS) vx Y3) bG)) λm=>(bh (zx 5 a.2.1 Y3 (ao 7 (zE aG) b Y3) λl=>(bQ (bD (m,l,a.2.2) Y3)))))) (bh (zx 6 a.2.2 Y3 (Lq (ao 7 (zE aG) b Y3) (Ge (ao 10 (zE (eO bH)) j Y3))) λvs=>(bQ (bD (a.1,a.2.1,vs) Y3)))) λc=>(bQ (bD (c.1,c.2.1,c.2.2) Y3)))))) (bQ (bD (a.1,a.2.1,a.2.2) Y3)) λd=>(bQ (bD (d.1,d.2.1,d.2.2) Y3))))))))
def bO(c:lO):W3:=(let q1:=c;(let d:=(aU q1.1);(let b:=([]:Y aD);(let vs:=([]:Y dO);(let a:(Y (AJ×AJ))×(Y aD)×(Y dO):=(q1.2.1.foldl (λ(a:(Y (AJ×AJ))×(Y aD)×(Y dO)) (e:aD)=>(dJ q1.2.2 a e)) (d,b,vs));((fQ a.1),a.2.1,a.2.2))))))
def dZ(e:lO):Prop:=(let q1:=e;((lC q1.1)/\(let d:=(aU q1.1);(let c:=([]:Y aD);(let vs:=([]:Y dO);(nZ (λ(a:(Y (AJ×AJ))×(Y aD)×(Y dO)) (b:aD)=>(dJ q1.2.2 a b)) (λ(a:(Y (AJ×AJ))×(Y aD)×(Y dO)) (b:aD)=>Z (jM q1.2.2 a b)) q1.2.1 (d,c,vs)/\(let a:(Y (AJ×AJ))×(Y aD)×(Y dO):=(q1.2.1.foldl (λ(a:(Y (AJ×AJ))×(Y aD)×(Y dO)) (b:aD)=>(dJ q1.2.2 a b)) (d,c,vs));(lF a.1))))))))
theorem Mx(b:lO):RP pA [Z (zE cY b),O,O,O,O,O,O,O,O,O,O] (λr=>Ap.rt (zE wL r)) (bO b) (Z (dZ b)):=R.tp (PK (ao 0 (zE cY) b Y3) _ (λ_=>Y3) λq1=>(bV 4 (An zW (cj (ao 1 (zE (eT eS)) q1.1 Y3) bG)) (λ_=>Y3) λd=>(bV 5 (kO (fK aG) (zS Y3)) (λ_=>Y3) λc=>(bV 6 (kO (fK rH) (zS Y3)) (λ_=>Y3) λvs=>(Sx 2 q1.2.1 (Sw Y3) (λa:(Y (AJ×AJ))×(Y aD)×(Y dO)=>[Z (zE cY b),Z ((zE (eT eS)) q1.1),Z ((zE (eT aG)) q1.2.1),Z ((zE (eT bH)) q1.2.2),Z ((mE eS) a.1),Z ((oE aG) a.2.1),Z ((oE rH) a.2.2),O,O,O,O]) (d,c,vs) Y3 _ (λ_ _=>Y3) (λ(a:(Y (AJ×AJ))×(Y aD)×(Y dO)) (e:aD)=>(CV b q1.1 q1.2.1 q1.2.2 a e).r) λa=>(MC 5 [Z (zE cY b),Z ((zE (eT eS)) q1.1),Z ((zE (eT aG)) q1.2.1),Z ((zE (eT bH)) q1.2.2),Z ((mE eS) a.1),Z ((zE (eL aG)) a.2.1),Z ((oE rH) a.2.2),O,O,O,O] Y3 (MC 6 [Z (zE cY b),Z ((zE (eT eS)) q1.1),Z ((zE (eT aG)) q1.2.1),Z ((zE (eT bH)) q1.2.2),Z ((mE eS) a.1),Z ((zE (eL aG)) a.2.1),Z ((zE (eL rH)) a.2.2),O,O,O,O] Y3 (dR (λr=>r) (xY (HE (An Mw (Fm (ao 4 (nE eS) a.1 Y3) bG))) (ao 5 (zE (eL aG)) a.2.1 Y3) (ao 6 (zE (eL rH)) a.2.2 Y3)) (λ_=>Y3) λ_=>Y3))))))))
theorem lG:∀v bs,(aZ cY aN) v bs->bs.length=1/\(hold (Z (dZ v.1))->dD (bs.map lend)=Z ((zE wL) (bO v.1))):=by
 rintro⟨a,_⟩ _ ⟨_,rfl,rfl⟩;exact⟨rfl,λh=>cV (g:=pA) (n:=11) (bs:=[.z (cY a)]) (Mx a) h⟩
def fZ(a:Dt)(b:Int):Bool:=((B1 a)&&(decide ((Lx a)=b)))
def qp(a:Dt)(b:Int):Prop:=((B1 a)=true->Cy a=true)
theorem S9(a:Dt)(b:Int):RP tM [Z (zE eD a),Z (zE eI b)] (λr=>Ap.rt (zE eB r)) (fZ a b) (Z (qp a b)):=R.tp (dR (λr=>r) (vH (Py B1 (ao 0 (zE eD) a Y3)) (BT (by decide) (Sh (ao 0 (zE eD) a Y3)) (ao 1 (zE eI) b Y3))) (λ_=>Y3) λ_=>Y3)
theorem G7:∀v bs,(aZ eD (aZ eI aN)) v bs->bs.length=2/\(hold (Z (qp v.1 v.2.1))->lX (bs.map lend)=Z ((zE eB) (fZ v.1 v.2.1))):=by
 rintro⟨b,a,_⟩ _ ⟨_,rfl,⟨_,rfl,rfl⟩⟩;exact⟨rfl,λh=>cV (g:=tM) (n:=2) (bs:=[.z (eD b),.z (eI a)]) (S9 b a) h⟩
def iY(a:Dt):Bool:=((Ao a)&&(!(BN a)))
theorem Tc(a:Dt):RP tO [Z (zE eD a)] (λr=>Ap.rt (zE eB r)) (iY a) O:=R.tp (dR (λr=>r) (vH (Py Ao (ao 0 (zE eD) a Y3)) (PY (Py BN (ao 0 (zE eD) a Y3)))) (λ_=>Y3) λ_=>Y3)
theorem G8:∀v bs,(aZ eD aN) v bs->bs.length=1/\(hold (O)->lY (bs.map lend)=Z ((zE eB) (iY v.1))):=by
 rintro⟨a,_⟩ _ ⟨_,rfl,rfl⟩;exact⟨rfl,λh=>cV (g:=tO) (n:=1) (bs:=[.z (eD a)]) (Tc a) h⟩
def nT(a:Dt):Bool:=((iY a)&&((decide ((1:Int)<=(Sq a)))&&(decide ((Sq a)<=1000))))
def qY(a:Dt):Prop:=((iY a)=true->(a=eI (Sq a)/\((decide ((1:Int)<=(Sq a)))=true->a=eI (Sq a))))
theorem Qs(a:Dt):RP qM [Z (zE eD a)] (λr=>Ap.rt (zE eB r)) (nT a) (Z (qY a)):=R.tp (dR (λr=>r) (vH (An G8 (cj (ao 0 (zE eD) a Y3) bG)) (LH (Fa (B7 1) (oW (ao 0 (zE eD) a Y3) Sq eI)) (Fa (oW (ao 0 (zE eD) a Y3) Sq eI) (B7 1000)))) (λ_=>Y3) λ_=>Y3)
theorem Qt:∀v bs,(aZ eD aN) v bs->bs.length=1/\(hold (Z (qY v.1))->qN (bs.map lend)=Z ((zE eB) (nT v.1))):=by
 rintro⟨a,_⟩ _ ⟨_,rfl,rfl⟩;exact⟨rfl,λh=>cV (g:=qM) (n:=1) (bs:=[.z (eD a)]) (Qs a) h⟩
def jy(a:Dt)(c:AJ)(b:Int):Bool:=((pY a)&&(((decide ((1:Int)<=(Lx a)))&&(decide ((Lx a)<=b)))&&(((QK a).map λd:Dt=>(Js (Ly d) c)).all id)))
def lH(a:Dt)(d:AJ)(c:Int):Prop:=((pY a)=true->((Cy a=true/\((decide ((1:Int)<=(Lx a)))=true->Cy a=true))/\(((decide ((1:Int)<=(Lx a)))&&(decide ((Lx a)<=c)))=true->((Cy a=true/\(QK a).length<=100000)/\(∀b∈(QK a),b=eS (Ly b))))))
theorem Mz(a:Dt)(c:AJ)(b:Int):RP pB [Z (zE eD a),Z (zE eS c),Z (zE eI b)] (λr=>Ap.rt (zE eB r)) (jy a c b) (Z (lH a c b)):=R.tp (dR (λr=>r) (vH (Py pY (ao 0 (zE eD) a Y3)) (vH (LH (Fa (B7 1) (Sh (ao 0 (zE eD) a Y3))) (Fa (Sh (ao 0 (zE eD) a Y3)) (ao 2 (zE eI) b Y3))) (LW (nO (Ss (ON (ao 0 (zE eD) a Y3)) _ (λ_=>Y3) (λd:Dt=>(XB (oW (ao 1 (zE eD) d Y3) Ly eS) (ao 0 (zE eS) c Y3)))))))) (λ_=>Y3) λ_=>Y3)
theorem MF:∀v bs,(aZ eD (aZ eS (aZ eI aN))) v bs->bs.length=3/\(hold (Z (lH v.1 v.2.1 v.2.2.1))->pC (bs.map lend)=Z ((zE eB) (jy v.1 v.2.1 v.2.2.1))):=by
 rintro⟨c,b,a,_⟩ _ ⟨_,rfl,⟨_,rfl,⟨_,rfl,rfl⟩⟩⟩;exact⟨rfl,λh=>cV (g:=pB) (n:=3) (bs:=[.z (eD c),.z (eS b),.z (eI a)]) (Mz c b a) h⟩
def fL(a:Dt):Bool:=(jy a ("abcdefghijklmnopqrstuvwxyz":AJ) 8)
def sO(a:Dt):Prop:=(lH a ("abcdefghijklmnopqrstuvwxyz":AJ) 8)
theorem Xa(a:Dt):RP wA [Z (zE eD a)] (λr=>Ap.rt (zE eB r)) (fL a) (Z (sO a)):=R.tp (dR (λr=>r) (An MF (cj (ao 0 (zE eD) a Y3) (cj (GS "abcdefghijklmnopqrstuvwxyz") (cj (B7 8) bG)))) (λ_=>Y3) λ_=>Y3)
theorem J4:∀v bs,(aZ eD aN) v bs->bs.length=1/\(hold (Z (sO v.1))->sy (bs.map lend)=Z ((zE eB) (fL v.1))):=by
 rintro⟨a,_⟩ _ ⟨_,rfl,rfl⟩;exact⟨rfl,λh=>cV (g:=wA) (n:=1) (bs:=[.z (eD a)]) (Xa a) h⟩
def G9(a:Dt):Bool:=(if(!(fZ a 3))=true then false else(let q1:=(F8 a);((fL q1.1)&&((fL q1.2.1)&&((wK (Ly q1.1) (Ly q1.2.1))&&((iY q1.2.2)&&(decide ((0:Int)<=(Sq q1.2.2)))))))))
def zY(a:Dt):Prop:=((qp a 3)/\((!(fZ a 3))=false->(a=Ix (F8 a)/\(let q1:=(F8 a);((sO q1.1)/\((fL q1.1)=true->((sO q1.2.1)/\((fL q1.2.1)=true->((q1.1=eS (Ly q1.1)/\q1.2.1=eS (Ly q1.2.1))/\((wK (Ly q1.1) (Ly q1.2.1))=true->((iY q1.2.2)=true->q1.2.2=eI (Sq q1.2.2))))))))))))
theorem bn(a:Dt):RP zO [Z (zE eD a),O,O,O] (λr=>Ap.rt (zE eB r)) (G9 a) (Z (zY a)):=R.tp (oN (U6 (ZL (An G7 (cj (ao 0 (zE eD) a Y3) (cj (B7 3) bG))))) (bh (dR (λr=>r) (uy (.bl false) eB false Y3) (λ_=>Y3) λ_=>Y3)) (bQ (PK (oW (ao 0 (zE eD) a Y3) F8 Ix) _ (λ_=>Y3) λq1=>(dR (λr=>r) (vH (An J4 (cj (ao 1 (zE eD) q1.1 Y3) bG)) (vH (An J4 (cj (ao 2 (zE eD) q1.2.1 Y3) bG)) (vH (T1 (oW (ao 1 (zE eD) q1.1 Y3) Ly eS) (oW (ao 2 (zE eD) q1.2.1 Y3) Ly eS)) (vH (An G8 (cj (ao 3 (zE eD) q1.2.2 Y3) bG)) (F6 (oW (ao 3 (zE eD) q1.2.2 Y3) Sq eI) (B7 0)))))) (λ_=>Y3) λ_=>Y3))))
theorem aE:∀v bs,(aZ eD aN) v bs->bs.length=1/\(hold (Z (zY v.1))->zP (bs.map lend)=Z ((zE eB) (G9 v.1))):=by
 rintro⟨a,_⟩ _ ⟨_,rfl,rfl⟩;exact⟨rfl,λh=>cV (g:=zO) (n:=4) (bs:=[.z (eD a)]) (bn a) h⟩
def nU(a:Dt):Bool:=((fZ a 4)&&((nT (jA a 0))&&(G9 (Dt.tup (cut (ZW a) (Z 1) O)))))
def qZ(a:Dt):Prop:=((qp a 4)/\((fZ a 4)=true->((Hq a (0:Int)/\(qY (jA a 0)))/\((nT (jA a 0))=true->(B1 a=true/\(zY (Dt.tup (cut (ZW a) (Z 1) O))))))))
theorem Qu(a:Dt):RP qO [Z (zE eD a)] (λr=>Ap.rt (zE eB r)) (nU a) (Z (qZ a)):=R.tp (dR (λr=>r) (vH (An G7 (cj (ao 0 (zE eD) a Y3) (cj (B7 4) bG))) (vH (An Qt (cj (uz (ao 0 (zE eD) a Y3) (B7 0)) bG)) (An aE (cj (qe (MX (ao 0 (zE eD) a Y3) (ZV (B7 1)) ZS)) bG)))) (λ_=>Y3) λ_=>Y3)
theorem Qv:∀v bs,(aZ eD aN) v bs->bs.length=1/\(hold (Z (qZ v.1))->qP (bs.map lend)=Z ((zE eB) (nU v.1))):=by
 rintro⟨a,_⟩ _ ⟨_,rfl,rfl⟩;exact⟨rfl,λh=>cV (g:=qO) (n:=1) (bs:=[.z (eD a)]) (Qu a) h⟩
def qt(b:lO)(a:aD):Unit:=(if((!(nU (aG a)))||(!fM a b.2.1))=true then default else())
def gY(b:lO)(a:aD):Prop:=((qZ (aG a))/\(((!(nU (aG a)))||(!fM a b.2.1))=true->False))
theorem yq(b:lO)(a:aD):RP gR [Z (zE cY b),Z (zE aG a)] (λ_:Unit=>Ap.nx [Z (zE cY b),Z (zE aG a)]) (qt b a) (Z (gY b a)):=R.tp (bh (oN (Sd (U6 (ZL (An Qv (cj (UW (ao 1 (zE aG) a Y3)) bG)))) (cX (bm (by decide) (ao 1 (zE aG) a Y3) (dY (ao 0 (zE cY) b Y3) (λq=>q.2.1) (eT aG) 1 λ_=>Y3)))) (bh XZ) (bQ (bQ (bD () Y3)))))
theorem yr:∀v bs,(aZ cY (aZ aG aN)) v bs->bs.length=2/\(hold (Z (gY v.1 v.2.1))->gU (bs.map lend)=Z ((zE eN) (qt v.1 v.2.1))):=by
 rintro⟨a,b,_⟩ _ ⟨_,rfl,⟨_,rfl,rfl⟩⟩;exact⟨rfl,λh=>Ya (g:=gR) (n:=2) (bs:=[.z (cY a),.z (aG b)]) (yq a b).r h⟩
def aX(a:aD)(b:AJ):(S AJ):=(if(decide (a.2.1=b))=true then(Z a.2.2.1)else(if(decide (a.2.2.1=b))=true then(Z a.2.1)else O))
theorem Qw(a:aD)(b:AJ):RP qQ [Z (zE aG a),Z (zE eS b)] (λr=>Ap.rt ((zE (eO eS)) r)) (aX a b) O:=R.tp (oN (cX (BT (by decide) (dY (ao 0 (zE aG) a Y3) (λq=>q.2.1) eS 1 λ_=>Y3) (ao 1 (zE eS) b Y3))) (bh (dR (λr=>r) (Lj (dY (ao 0 (zE aG) a Y3) (λq=>q.2.2.1) eS 2 λ_=>Y3)) (λ_=>Y3) λ_=>Y3)) (bQ (oN (cX (BT (by decide) (dY (ao 0 (zE aG) a Y3) (λq=>q.2.2.1) eS 2 λ_=>Y3) (ao 1 (zE eS) b Y3))) (bh (dR (λr=>r) (Lj (dY (ao 0 (zE aG) a Y3) (λq=>q.2.1) eS 1 λ_=>Y3)) (λ_=>Y3) λ_=>Y3)) (bQ (dR (λr=>r) R8 (λ_=>Y3) λ_=>Y3)))))
theorem Cd:∀v bs,(aZ aG (aZ eS aN)) v bs->bs.length=2/\(hold (O)->j5 (bs.map lend)=Z ((zE (eO eS)) (aX v.1 v.2.1))):=by
 rintro⟨b,a,_⟩ _ ⟨_,rfl,⟨_,rfl,rfl⟩⟩;exact⟨rfl,λh=>cV (g:=qQ) (n:=2) (bs:=[.z (aG b),.z (eS a)]) (Qw b a) h⟩
def eY(b:(Y (AJ×(S aD))))(a:(Y aD)×AJ):j4 ((Y aD)×AJ) (Y aD):=(let d:=a.1++[((look b a.2).getD default)];(let c:=((aX ((look b a.2).getD default) a.2).getD default);(j4.nx (d,c))))
def jJ(b:(Y (AJ×(S aD))))(a:(Y aD)×AJ):Prop:=(((has b a.2=true/\(look b a.2).isSome=true)/\Ls a.1.length)/\(let c:=a.1++[((look b a.2).getD default)];((has b a.2=true/\(look b a.2).isSome=true)/\(aX ((look b a.2).getD default) a.2).isSome=true)))
theorem IW(b:(Y (AJ×(S aD))))(c:AJ)(a:(Y aD)×AJ):RP w6 [Z ((nE (eO aG)) b),Z (zE eS c),Z ((oE aG) a.1),Z ((zE eS) a.2)] (cC (λa:(Y aD)×AJ=>[Z ((nE (eO aG)) b),Z (zE eS c),Z ((oE aG) a.1),Z ((zE eS) a.2)]) (oE aG)) (eY b a ) (Z (jJ b a )):=R.tp (bh (zx 2 a.1 Y3 (Ge (jU (ao 0 (nE (eO aG)) b Y3) (ao 3 (zE eS) a.2 Y3))) λe=>(bh (bV 3 (Ge (An Cd (cj (Ge (jU (ao 0 (nE (eO aG)) b Y3) (ao 3 (zE eS) a.2 Y3))) (cj (ao 3 (zE eS) a.2 Y3) bG)))) (λ_=>Y3) λd=>(bQ (bD (.nx (e,d)) Y3))))))
def iZ(b:(Y (AJ×(S aD))))(c:AJ):(Y aD):=(let e:=([]:Y aD);(let d:=c;(BG (JX (λa:(Y aD)×AJ=>(look b a.2).isSome) (λa:(Y aD)×AJ=>((eY b a):j4 ((Y aD)×AJ) (Y aD))) 70 (e,d)) (λr=>r) λa:(Y aD)×AJ=>a.1)))
def qu(b:(Y (AJ×(S aD))))(e:AJ):Prop:=(let d:=([]:Y aD);(let c:=e;(DU (λa:(Y aD)×AJ=>(look b a.2).isSome) (λa:(Y aD)×AJ=>Z (has b a.2=true)) (λa:(Y aD)×AJ=>((eY b a):j4 ((Y aD)×AJ) (Y aD))) (λa:(Y aD)×AJ=>Z (jJ b a)) 70 (d,c)/\(oX (JX (λa:(Y aD)×AJ=>(look b a.2).isSome) (λa:(Y aD)×AJ=>((eY b a):j4 ((Y aD)×AJ) (Y aD))) 70 (d,c)) λa:(Y aD)×AJ=>True))))
theorem Td(c:(Y (AJ×(S aD))))(b:AJ):RP tX [Z ((nE (eO aG)) c),Z (zE eS b),O,O] (λr=>Ap.rt (oE aG r)) (iZ c b) (Z (qu c b)):=R.tp (bV 2 (kO (fK aG) (zS Y3)) (λ_=>Y3) λe=>(bV 3 (ao 1 (zE eS) b Y3) (λ_=>Y3) λd=>(Va 70 (λa:(Y aD)×AJ=>[Z ((nE (eO aG)) c),Z (zE eS b),Z ((oE aG) a.1),Z ((zE eS) a.2)]) (e,d) Y3 (λa:(Y aD)×AJ=>(cX (U5 (jU (ao 0 (nE (eO aG)) c Y3) (ao 3 (zE eS) a.2 Y3)) λ_=>Y3))) (λa:(Y aD)×AJ=>((IW c b a).r:R _ _ (cC (λa:(Y aD)×AJ=>[Z ((nE (eO aG)) c),Z (zE eS b),Z ((oE aG) a.1),Z ((zE eS) a.2)]) (oE aG)))) (λr=>r) (λ_=>Y3) λa=>(Lz 2 (λr=>r) a.1 Y3 (λ_=>Y3) λ_=>Y3))))
theorem Te:∀v bs,(aM (eO aG) (aZ eS aN)) v bs->bs.length=2/\(hold (Z (qu v.1 v.2.1))->tY (bs.map lend)=Z ((oE aG) (iZ v.1 v.2.1))):=by
 rintro⟨b,a,_⟩ _ ⟨_,_,rfl,(rfl|rfl),⟨_,rfl,rfl⟩⟩
 all_goals exact⟨rfl,λh=>cV (g:=tX) (n:=4) (bs:=[nE (eO aG) b,.z (eS a)]) (Td b a) h⟩
def dM(e:AJ)(a:(Y (AJ×(S aD)))×AZ)(d:aD):(Y (AJ×(S aD)))×AZ:=(let b:=(aX d e);(let c:(Y (AJ×(S aD)))×AZ:=(if(b.isSome&&(!has a.1 (b.getD default)))=true then(let f:=put a.1 (b.getD default) (Z d);(let g:=a.2++[(b.getD default)];(f,g)))else(a.1,a.2));(c.1,c.2)))
def gK(d:AJ)(b:(Y (AJ×(S aD)))×AZ)(c:aD):Prop:=(let a:=(aX c d);((a.isSome=true->a.isSome=true)/\((a.isSome&&(!has b.1 (a.getD default)))=true->((a.isSome=true/\b.1.length<1000)/\(let e:=put b.1 (a.getD default) (Z c);(a.isSome=true/\Ls b.2.length))))))
theorem Qx(h:Y aD)(l:Lp fU (h.map aG))(g:AJ)(f:AJ)(b:AJ)(a:(Y (AJ×(S aD)))×AZ)(c:aD):RP BZ [Z fU,Z (zE eS g),Z (zE eS f),Z ((mE (eO aG)) a.1),Z ((oE eS) a.2),Z (zE eS b),Z (zE aG c),O] (λs=>Ap.nx ((λa:(Y (AJ×(S aD)))×AZ=>[Z fU,Z (zE eS g),Z (zE eS f),Z ((mE (eO aG)) a.1),Z ((oE eS) a.2),Z (zE eS b),O,O]) s)) (dM b a c) (Z (gK b a c)):=R.tp (bh (bV 7 (An Cd (cj (ao 6 (zE aG) c Y3) (cj (ao 5 (zE eS) b Y3) bG))) (λ_=>Y3) λe=>(bh (uD (λd:(Y (AJ×(S aD)))×AZ=>[Z fU,Z (zE eS g),Z (zE eS f),Z ((mE (eO aG)) d.1),Z ((oE eS) d.2),Z (zE eS b),Z (zE aG c),Z ((zE (eO eS)) e)]) (Gh (cX (U5 (ao 7 (zE (eO eS)) e Y3) λ_=>Y3)) (cX (LF (Ge (ao 7 (zE (eO eS)) e Y3)) (ao 3 (nE (eO aG)) a.1 Y3)))) (bh (U9 O 3 a.1 Y3 (Lj (ao 6 (zE aG) c Y3)) (Ge (ao 7 (zE (eO eS)) e Y3)) λi=>(bh (zx 4 a.2 Y3 (Ge (ao 7 (zE (eO eS)) e Y3)) λj=>(bQ (bD (i,j) Y3)))))) (bQ (bD (a.1,a.2) Y3)) λd=>(bQ (bD (d.1,d.2) Y3))))))
def gM(e:Y aD)(c:AZ×(Y (AJ×(S aD)))):j4 (AZ×(Y (AJ×(S aD)))) (S (Y aD)):=(let b:=c.1;let g:=b.drop 1;let d:=at' b 0;(let a:(Y (AJ×(S aD)))×AZ:=(e.foldl (λ(a:(Y (AJ×(S aD)))×AZ) (f:aD)=>(dM d a f)) (c.2,g));(j4.nx (a.2,a.1))))
def q9(f:Y aD)(c:AZ×(Y (AJ×(S aD)))):Prop:=(((0:Int)=0/\0<c.1.length)/\(let e:=c.1;let g:=e.drop 1;let d:=at' e 0;nZ (λ(a:(Y (AJ×(S aD)))×AZ) (b:aD)=>(dM d a b)) (λ(a:(Y (AJ×(S aD)))×AZ) (b:aD)=>Z (gK d a b)) f (c.2,g)))
theorem Qy(c:Y aD)(g:Lp fU (c.map aG))(e:AJ)(d:AJ)(a:AZ×(Y (AJ×(S aD)))):RP Ca [Z fU,Z (zE eS e),Z (zE eS d),Z ((mE (eO aG)) a.2),Z ((oE eS) a.1),O,O,O] (cC (λa:AZ×(Y (AJ×(S aD)))=>[Z fU,Z (zE eS e),Z (zE eS d),Z ((mE (eO aG)) a.2),Z ((oE eS) a.1),O,O,O]) (qE aG)) (gM c a ) (Z (q9 c a )):=R.tp (bh (UH 5 4 a.1 Y3 (B7 0) λi f=>(bh (Sx 0 c (WO g Y3) (λb:(Y (AJ×(S aD)))×AZ=>[Z fU,Z (zE eS e),Z (zE eS d),Z ((mE (eO aG)) b.1),Z ((oE eS) b.2),Z (zE eS f),O,O]) (a.2,i) Y3 _ (λ_ _=>Y3) (λ(b:(Y (AJ×(S aD)))×AZ) (h:aD)=>(Qx c g e d f b h).r) λb=>(bQ (bD (.nx (b.2,b.1)) Y3))))))
def dU(d:Y aD)(c:AJ)(b:AJ):(S (Y aD)):=(let e:=([(c,O)]:(Y (AJ×(S aD))));(let f:=[c];(BG (JX (λa:AZ×(Y (AJ×(S aD)))=>(!a.1.isEmpty)) (λa:AZ×(Y (AJ×(S aD)))=>((gM d a):j4 (AZ×(Y (AJ×(S aD)))) (S (Y aD)))) 70 (f,e)) (λr=>r) λa:AZ×(Y (AJ×(S aD)))=>(if(!has a.2 b)=true then O else(Z (iZ a.2 b).reverse)))))
def jK(b:Y aD)(f:AJ)(c:AJ):Prop:=(let d:=([(f,O)]:(Y (AJ×(S aD))));(let e:=[f];(DU (λa:AZ×(Y (AJ×(S aD)))=>(!a.1.isEmpty)) (λa:AZ×(Y (AJ×(S aD)))=>O) (λa:AZ×(Y (AJ×(S aD)))=>((gM b a):j4 (AZ×(Y (AJ×(S aD)))) (S (Y aD)))) (λa:AZ×(Y (AJ×(S aD)))=>Z (q9 b a)) 70 (e,d)/\(oX (JX (λa:AZ×(Y (AJ×(S aD)))=>(!a.1.isEmpty)) (λa:AZ×(Y (AJ×(S aD)))=>((gM b a):j4 (AZ×(Y (AJ×(S aD)))) (S (Y aD)))) 70 (e,d)) λa:AZ×(Y (AJ×(S aD)))=>((!has a.2 c)=false->(qu a.2 c))))))
theorem NW(d:Y aD)(f:Lp fU (d.map aG))(c:AJ)(b:AJ):RP zQ [Z fU,Z (zE eS c),Z (zE eS b),O,O,O,O,O] (λr=>Ap.rt (qE aG r)) (dU d c b) (Z (jK d c b)):=R.tp (bV 3 (ap (ao 1 (zE eS) c Y3) R8) (λ_=>Y3) λg=>(bV 4 (kO (eF (ao 1 (zE eS) c Y3) (fK eS)) (zS Y3)) (λ_=>Y3) λh=>(Va 70 (λa:AZ×(Y (AJ×(S aD)))=>[Z fU,Z (zE eS c),Z (zE eS b),Z ((mE (eO aG)) a.2),Z ((oE eS) a.1),O,O,O]) (h,g) Y3 (λa:AZ×(Y (AJ×(S aD)))=>(SH (lM (ao 4 (lE eS) a.1 Y3)))) (λa:AZ×(Y (AJ×(S aD)))=>((Qy d f c b a).r:R _ _ (cC (λa:AZ×(Y (AJ×(S aD)))=>[Z fU,Z (zE eS c),Z (zE eS b),Z ((mE (eO aG)) a.2),Z ((oE eS) a.1),O,O,O]) (qE aG)))) (λr=>r) (λ_=>Y3) λa=>(oN (cX (LF (ao 2 (zE eS) b Y3) (ao 3 (nE (eO aG)) a.2 Y3))) (bh (dR (λr=>r) (ZB (e:=aG)) (λ_=>Y3) (λv=>by cases v<;>rfl))) (bQ (dR (λr=>r) (UI (bu (nO (An Te (Fm (ao 3 (nE (eO aG)) a.2 Y3) (cj (ao 2 (zE eS) b Y3) bG)))))) (λ_=>Y3) (λv=>by cases v<;>rfl)))))))
theorem vM:∀v bs,(aL aG (aZ eS (aZ eS aN))) v bs->bs.length=3/\(hold (Z (jK v.1 v.2.1 v.2.2.1))->kY (bs.map lend)=Z ((qE aG) (dU v.1 v.2.1 v.2.2.1))):=by
 rintro⟨d,b,a,_⟩ _ ⟨fU,_,rfl,c,⟨_,rfl,⟨_,rfl,rfl⟩⟩⟩;exact⟨rfl,λh=>cV (g:=zQ) (n:=8) (bs:=[lend fU,.z (eS b),.z (eS a)]) (NW d (BK c) b a) h⟩
def cM(b:Y aD)(c:aD)(a:bW):Me:=(let d:=(dU b c.2.1 a.1);(if d.isSome=true then(d,(dU b c.2.2.1 a.2.1))else((dU b c.2.1 a.2.1),(dU b c.2.2.1 a.1))))
def rN(b:Y aD)(c:aD)(a:bW):Prop:=((jK b c.2.1 a.1)/\(let d:=(dU b c.2.1 a.1);((d.isSome=true->(d.isSome=true/\(jK b c.2.2.1 a.2.1)))/\(d.isSome=false->((jK b c.2.1 a.2.1)/\(jK b c.2.2.1 a.1))))))
theorem Ja(c:Y aD)(d:Lp fU (c.map aG))(a:aD)(b:bW):RP mU [Z fU,Z (zE aG a),Z (zE bH b),O] (λr=>Ap.rt (zE IT r)) (cM c a b) (Z (rN c a b)):=R.tp (bV 3 (An vM (xZ (jZ 0 aG c d Y3) (cj (dY (ao 1 (zE aG) a Y3) (λq=>q.2.1) eS 1 λ_=>Y3) (cj (dY (ao 2 (zE bH) b Y3) (λq=>q.1) eS 0 λ_=>Y3) bG)))) (λv=>by cases v<;>rfl) λe=>(oN (cX (PQ (OW 3 aG e Y3))) (VY 3 aG e Y3 [Z fU,Z (zE aG a),Z (zE bH b),Z ((zE (eO (eL aG))) e)] Y3 (bh (dR (λr=>r) (Lq (ao 3 (zE (eO (eL aG))) e Y3) (Vc (An vM (xZ (jZ 0 aG c d Y3) (cj (dY (ao 1 (zE aG) a Y3) (λq=>q.2.2.1) eS 2 λ_=>Y3) (cj (dY (ao 2 (zE bH) b Y3) (λq=>q.2.1) eS 1 λ_=>Y3) bG)))))) (λ_=>Y3) λ_=>Y3))) (bQ (dR (λr=>r) (Lq (Vc (An vM (xZ (jZ 0 aG c d Y3) (cj (dY (ao 1 (zE aG) a Y3) (λq=>q.2.1) eS 1 λ_=>Y3) (cj (dY (ao 2 (zE bH) b Y3) (λq=>q.2.1) eS 1 λ_=>Y3) bG))))) (Vc (An vM (xZ (jZ 0 aG c d Y3) (cj (dY (ao 1 (zE aG) a Y3) (λq=>q.2.2.1) eS 2 λ_=>Y3) (cj (dY (ao 2 (zE bH) b Y3) (λq=>q.1) eS 0 λ_=>Y3) bG)))))) (λ_=>Y3) λ_=>Y3))))
theorem Jb:∀v bs,(aL aG (aZ aG (aZ bH aN))) v bs->bs.length=3/\(hold (Z (rN v.1 v.2.1 v.2.2.1))->mV (bs.map lend)=Z ((zE IT) (cM v.1 v.2.1 v.2.2.1))):=by
 rintro⟨c,b,a,_⟩ _ ⟨fU,_,rfl,d,⟨_,rfl,⟨_,rfl,rfl⟩⟩⟩;exact⟨rfl,λh=>cV (g:=mU) (n:=4) (bs:=[lend fU,.z (aG b),.z (bH a)]) (Ja c (BK d) b a) h⟩
def dG(b:aD)(c:Y aD)(d:Unit)(a:dO):j4 (Unit) Dt:=(if(decide (a.1=b))=true then(j4.rt (ET ((("barred":AJ),a.2).1,(("barred":AJ),a.2).2,(cM c b a.2).1,(cM c b a.2).2)))else(j4.nx ()))
def pP(a:aD)(c:Y aD)(d:Unit)(b:dO):Prop:=((decide (b.1=a))=true->(rN c a b.2))
theorem MJ(e:lO)(b:aD)(f:Y AZ)(c:Y aD)(vs:Y dO)(d:Unit)(a:dO):RP zR [Z (zE cY e),Z (zE aG b),Z ((zE (eL (eT eS))) f),Z ((zE (eL aG)) c),Z ((zE (eL rH)) vs),Z ((zE aG) a.1),Z ((zE bH) a.2)] (cC (λd:Unit=>[Z (zE cY e),Z (zE aG b),Z ((zE (eL (eT eS))) f),Z ((zE (eL aG)) c),Z ((zE (eL rH)) vs),O,O]) (zE eD)) (dG b c d a) (Z (pP b c d a)):=R.tp (bh (oN (cX (BT (by decide) (ao 5 (zE aG) a.1 Y3) (ao 1 (zE aG) b Y3))) (bh (dR .rt (UW (UZ (e3:=ET) (Lq (GS "barred") (ao 6 (zE bH) a.2 Y3)) (An Jb (xZ (Cw (ao 3 (zE (eL aG)) c Y3)) (cj (ao 1 (zE aG) b Y3) (cj (ao 6 (zE bH) a.2 Y3) bG)))) (λx y=>(x.1,x.2,y.1,y.2)) λ_ _=>Y3)) (λ_=>Y3) λ_=>Y3)) (bQ (bQ (bD (.nx ()) Y3)))))
def cI(c:lO)(a:aD):Dt:=(let q1:=(bO c);(if(fM a q1.2.1)=true then(Dt.tup [(Dt.str "kept")])else(BG (kW (λ(b:Unit) (d:dO)=>((dG a q1.2.1 b d):j4 (Unit) Dt)) q1.2.2 ()) (λr=>r) λb:Unit=>(Dt.tup [(Dt.str "beside"),((eO (eL aG)) (dU q1.2.1 a.2.1 a.2.2.1))]))))
def j8(d:lO)(a:aD):Prop:=((gY d a)/\((dZ d)/\(let q1:=(bO d);((fM a q1.2.1)=false->(uF (λ(b:Unit) (c:dO)=>((dG a q1.2.1 b c):j4 (Unit) Dt)) (λ(b:Unit) (c:dO)=>Z (pP a q1.2.1 b c)) q1.2.2 ()/\(oX (kW (λ(b:Unit) (c:dO)=>((dG a q1.2.1 b c):j4 (Unit) Dt)) q1.2.2 ()) λb:Unit=>(jK q1.2.1 a.2.1 a.2.2.1)))))))
theorem Xb(b:lO)(a:aD):RP wB [Z (zE cY b),Z (zE aG a),O,O,O,O,O] (λr=>Ap.rt (zE eD r)) (cI b a) (Z (j8 b a)):=R.tp (PM (An yr (cj (ao 0 (zE cY) b Y3) (cj (ao 1 (zE aG) a Y3) bG))) (PK (An lG (cj (ao 0 (zE cY) b Y3) bG)) _ (λ_=>Y3) λq1=>(oN (cX (LN (by decide) (ao 1 (zE aG) a Y3) (Cw (ao 3 (zE (eL aG)) q1.2.1 Y3)))) (bh (dR (λr=>r) (ZP (eF (Db (.str "kept")) (fK eD)) (zS Y3)) (λ_=>Y3) λ_=>Y3)) (bQ (U7 4 q1.2.2 (LP Y3) (λc:Unit=>[Z (zE cY b),Z (zE aG a),Z ((zE (eL (eT eS))) q1.1),Z ((zE (eL aG)) q1.2.1),Z ((zE (eL rH)) q1.2.2),O,O]) () Y3 _ (λ_ _=>Y3) (λ(c:Unit) (d:dO)=>((MJ b a q1.1 q1.2.1 q1.2.2 c d).r:R _ _ (cC (λc:Unit=>[Z (zE cY b),Z (zE aG a),Z ((zE (eL (eT eS))) q1.1),Z ((zE (eL aG)) q1.2.1),Z ((zE (eL rH)) q1.2.2),O,O]) (zE eD)))) (λr=>r) (λ_=>Y3) λc=>(dR (λr=>r) (ZP (eF (Db (.str "beside")) (eF (UW (Vc (An vM (xZ (Cw (ao 3 (zE (eL aG)) q1.2.1 Y3)) (cj (dY (ao 1 (zE aG) a Y3) (λq=>q.2.1) eS 1 λ_=>Y3) (cj (dY (ao 1 (zE aG) a Y3) (λq=>q.2.2.1) eS 2 λ_=>Y3) bG)))))) (fK eD))) (zS Y3)) (λ_=>Y3) λ_=>Y3))))))
theorem Bg:∀v bs,(aZ cY (aZ aG aN)) v bs->bs.length=2/\(hold (Z (j8 v.1 v.2.1))->lZ (bs.map lend)=Z ((zE eD) (cI v.1 v.2.1))):=by
 rintro⟨a,b,_⟩ _ ⟨_,rfl,⟨_,rfl,rfl⟩⟩;exact⟨rfl,λh=>cV (g:=wB) (n:=7) (bs:=[.z (cY a),.z (aG b)]) (Xb a b) h⟩
def aA(a:Y aD):(Y aD):=(let b:=(gC aG (a.map λq1:aD=>(((0:Int)-q1.1),q1.2.1,q1.2.2.1,q1.2.2.2)));(b.map λq2:aD=>(((0:Int)-q2.1),q2.2.1,q2.2.2.1,q2.2.2.2)))
def iG(a:Y aD):Prop:=((a.length<=100000/\(a.map λq1:aD=>(((0:Int)-q1.1),q1.2.1,q1.2.2.1,q1.2.2.2)).length<64)/\(let b:=(gC aG (a.map λq1:aD=>(((0:Int)-q1.1),q1.2.1,q1.2.2.1,q1.2.2.2)));b.length<=100000))
theorem Jc(a:Y aD)(c:Lp fU (a.map aG)):RP mX [Z fU,O] (λr=>Ap.rt ((zE (eT aG)) r)) (aA a) (Z (iG a)):=R.tp (bV 1 (Sy (nO (tK (Sv (jZ 0 aG a c Y3)) _ (λ_=>Y3) (λq1:aD=>(Lr (U0 (B7 0) (ao 0 (zE eI) q1.1 Y3)) (ao 1 (zE eS) q1.2.1 Y3) (ao 2 (zE eS) q1.2.2.1 Y3) (ao 3 (zE eI) q1.2.2.2 Y3))) λ_=>Y3))) (λ_=>Y3) λb=>(dR (λr=>r) (tH (nO (tK (Sv (lM (ao 1 (lE aG) b Y3))) _ (λ_=>Y3) (λq2:aD=>(Lr (U0 (B7 0) (ao 0 (zE eI) q2.1 Y3)) (ao 1 (zE eS) q2.2.1 Y3) (ao 2 (zE eS) q2.2.2.1 Y3) (ao 3 (zE eI) q2.2.2.2 Y3))) λ_=>Y3))) (λ_=>Y3) λ_=>Y3))
theorem xu:∀v bs,(aL aG aN) v bs->bs.length=1/\(hold (Z (iG v.1))->jF (bs.map lend)=Z ((zE (eT aG)) (aA v.1))):=by
 rintro⟨a,_⟩ _ ⟨fU,_,rfl,b,rfl⟩;exact⟨rfl,λh=>cV (g:=mX) (n:=2) (bs:=[lend fU]) (Jc a (BK b)) h⟩
def bw(a:Y aD)(b:Dt):(Y aD):=(let a:(Y aD):=(if(BH b)=true then(let a:=(a++(Qc b));a)else a);a)
def cL(b:Y aD)(a:Dt):Prop:=((BH a)=true->(a=(eL aG) (Qc a)/\Ls (b.length+(Qc a).length)))
theorem vN(e:lO)(d:aD)(g:Y aD){c:Bx}(h:Lp c (g.map aG))(f:Dt)(a:Y aD)(b:Dt):RP nR [Z (zE cY e),Z (zE aG d),Z c,Z (zE eD f),Z (oE aG a),Z (zE eD b),O,O,O] (λs=>Ap.nx ((λa:(Y aD)=>[Z (zE cY e),Z (zE aG d),Z c,Z (zE eD f),Z (oE aG a),O,O,O,O]) s)) (bw  a b) (Z (cL  a b)):=R.tp (bh (uD (λa:(Y aD)=>[Z (zE cY e),Z (zE aG d),Z c,Z (zE eD f),Z (oE aG a),Z (zE eD b),O,O,O]) (ZL (Py BH (ao 5 (zE eD) b Y3))) (bh (bV 4 (Sg (lM (ao 4 (lE aG) a Y3)) (Cw (oW (ao 5 (zE eD) b Y3) Qc (eL aG)))) (λ_=>Y3) λa=>(bQ (bD a Y3)))) (bQ (bD a Y3)) λa=>(bQ (bD a Y3))))
def cW(f:lO)(d:aD)(j:Y aD):Bool:=(let a:=(cI f d);(let b:=([]:Y aD);(let b:(Y aD):=((QK (Dt.tup (cut (ZW a) (Z 1) O))).foldl (λ(b:Y aD) (l:Dt)=>(bw  b l)) b);(let c:=([]:Y bW);(let c:(Y bW):=(if(uM (jA a 0) (Dt.str "barred"))=true then(let c:=[(F2 (jA a 1))];c)else c);(let g:(Y aD)×(Y bW):=(if(uM (jA a 0) (Dt.str "kept"))=true then(let b:=((j.filter λe:aD=>((decide ((at' (aA [e,d]) 0)=e))&&(!decide (e=d)))).map λe:aD=>e);(let c:=f.2.2;(b,c)))else(b,c));(let i:=(f.1,(aA (g.1++[d])),g.2);(let h:=(cI i d);(if((!uM (jA h 0) (jA a 0))||((uM (jA a 0) (Dt.str "barred"))&&(!uM (jA h 1) (jA a 1))))=true then false else(decide ((gC aG (bO i).2.1)=(gC aG (g.1++(List.replicate (if(uM (jA a 0) (Dt.str "kept"))=true then(1:Int)else 0).toNat [d]).flatten)))))))))))))
def d9(j:lO)(b:aD)(l:Y aD):Prop:=((j8 j b)/\(let a:=(cI j b);(let c:=([]:Y aD);(((B1 a=true/\Cy (Dt.tup (cut (ZW a) (Z 1) O))=true)/\nZ (λ(c:Y aD) (h:Dt)=>(bw  c h)) (λ(c:Y aD) (h:Dt)=>Z (cL  c h)) (QK (Dt.tup (cut (ZW a) (Z 1) O))) c)/\(let c:(Y aD):=((QK (Dt.tup (cut (ZW a) (Z 1) O))).foldl (λ(c:Y aD) (h:Dt)=>(bw  c h)) c);(let e:=([]:Y bW);(((Hq a (0:Int)/\U4 (jA a 0) (Dt.str "barred"))/\((uM (jA a 0) (Dt.str "barred"))=true->(Hq a (1:Int)/\(jA a 1)=bH (F2 (jA a 1)))))/\(let e:(Y bW):=(if(uM (jA a 0) (Dt.str "barred"))=true then(let e:=[(F2 (jA a 1))];e)else e);(((Hq a (0:Int)/\U4 (jA a 0) (Dt.str "kept"))/\((uM (jA a 0) (Dt.str "kept"))=true->(l.length<=100000/\(∀d∈l,((iG [d,b])/\In (aA [d,b]).length 0)))))/\(let g:(Y aD)×(Y bW):=(if(uM (jA a 0) (Dt.str "kept"))=true then(let c:=((l.filter λd:aD=>((decide ((at' (aA [d,b]) 0)=d))&&(!decide (d=b)))).map λd:aD=>d);(let e:=j.2.2;(c,e)))else(c,e));((Ls (g.1.length+[b].length)/\(iG (g.1++[b])))/\(let i:=(j.1,(aA (g.1++[b])),g.2);((j8 i b)/\(let f:=(cI i b);((((Hq f (0:Int)/\Hq a 0)/\U4 (jA f 0) (jA a 0))/\((!uM (jA f 0) (jA a 0))=false->((Hq a (0:Int)/\U4 (jA a 0) (Dt.str "barred"))/\((uM (jA a 0) (Dt.str "barred"))=true->((Hq f (1:Int)/\Hq a 1)/\U4 (jA f 1) (jA a 1))))))/\(((!uM (jA f 0) (jA a 0))||((uM (jA a 0) (Dt.str "barred"))&&(!uM (jA f 1) (jA a 1))))=false->(((dZ i)/\(bO i).2.1.length<64)/\((((Hq a (0:Int)/\U4 (jA a 0) (Dt.str "kept"))/\(0<=(if(uM (jA a 0) (Dt.str "kept"))=true then(1:Int)else 0)/\(if(uM (jA a 0) (Dt.str "kept"))=true then(1:Int)else 0)<=1000/\[b].length<=1000))/\Ls (g.1.length+(List.replicate (if(uM (jA a 0) (Dt.str "kept"))=true then(1:Int)else 0).toNat [b]).flatten.length))/\(g.1++(List.replicate (if(uM (jA a 0) (Dt.str "kept"))=true then(1:Int)else 0).toNat [b]).flatten).length<64))))))))))))))))))
theorem z6(d:lO)(a:aD)(g:Y aD){i:Bx}(m:Lp i (g.map aG)):RP iI [Z (zE cY d),Z (zE aG a),Z i,O,O,O,O,O,O] (λr=>Ap.rt (zE eB r)) (cW d a g) (Z (d9 d a g)):=R.tp (bV 3 (An Bg (cj (ao 0 (zE cY) d Y3) (cj (ao 1 (zE aG) a Y3) bG))) (λ_=>Y3) λb=>(bV 4 (kO (fK aG) (zS Y3)) (λ_=>Y3) λc=>(JV (λc:(Y aD)=>[Z (zE cY d),Z (zE aG a),Z i,Z (zE eD b),Z (oE aG c),O,O,O,O]) c Y3 (WN (MX (ao 3 (zE eD) b Y3) (ZV (B7 1)) ZS)) _ (λ_ _=>Y3) (λ(c:Y aD) (n:Dt)=>(vN d a g m b c n).r) λc=>(bV 6 (ZM bH) (λ_=>Y3) λe=>(uD (λe:(Y bW)=>[Z (zE cY d),Z (zE aG a),Z i,Z (zE eD b),Z (oE aG c),O,Z ((zE (eT bH)) e),O,O]) (cX (JQ (uz (ao 3 (zE eD) b Y3) (B7 0)) (Db (.str "barred")))) (bh (bV 6 (OS (eF (oW (uz (ao 3 (zE eD) b Y3) (B7 1)) F2 bH) (fK bH)) (zS Y3)) (λ_=>Y3) λe=>(bQ (bD e Y3)))) (bQ (bD e Y3)) λe=>(uD (λf:(Y aD)×(Y bW)=>[Z (zE cY d),Z (zE aG a),Z i,Z (zE eD b),Z ((oE aG) f.1),O,Z ((zE (eT bH)) f.2),O,O]) (cX (JQ (uz (ao 3 (zE eD) b Y3) (B7 0)) (Db (.str "kept")))) (bh (bV 4 (Ds (Sv (jZ 2 aG g m Y3)) _ (λ_=>Y3) (λh:aD=>(Gh (cX (BT (by decide) (NE (An xu (xZ (Cw (HE (kO (eF (ao 1 (zE aG) h Y3) (eF (ao 0 (zE aG) a Y3) (fK aG))) (zS Y3)))) bG)) (B7 0)) (ao 1 (zE aG) h Y3))) (cX (Px (by decide) (ao 1 (zE aG) h Y3) (ao 0 (zE aG) a Y3))))) (λh:aD=>(ao 1 (zE aG) h Y3))) (λ_=>Y3) λc=>(bh (bV 6 (dY (ao 0 (zE cY) d Y3) (λq=>q.2.2) (eT bH) 2 λ_=>Y3) (λ_=>Y3) λe=>(bQ (bD (c,e) Y3)))))) (bQ (bD (c,e) Y3)) λf=>(bV 7 (xY (dY (ao 0 (zE cY) d Y3) (λq=>q.1) (eT eS) 0 λ_=>Y3) (qe (An xu (xZ (Cw (HE (Sg (lM (ao 4 (lE aG) f.1 Y3)) (nO (kO (eF (ao 1 (zE aG) a Y3) (fK aG)) (zS Y3)))))) bG))) (ao 6 (zE (eT bH)) f.2 Y3)) (λ_=>Y3) λl=>(bV 8 (An Bg (cj (ao 7 (zE cY) l Y3) (cj (ao 1 (zE aG) a Y3) bG))) (λ_=>Y3) λj=>(oN (Sd (cX (MR (uz (ao 8 (zE eD) j Y3) (B7 0)) (uz (ao 3 (zE eD) b Y3) (B7 0)))) (Gh (cX (JQ (uz (ao 3 (zE eD) b Y3) (B7 0)) (Db (.str "barred")))) (cX (MR (uz (ao 8 (zE eD) j Y3) (B7 1)) (uz (ao 3 (zE eD) b Y3) (B7 1)))))) (bh (dR (λr=>r) (uy (.bl false) eB false Y3) (λ_=>Y3) λ_=>Y3)) (bQ (dR (λr=>r) (L5 (by decide) (nO (Sy (Cw (dY (An lG (cj (ao 7 (zE cY) l Y3) bG)) (λq=>q.2.1) (eL aG) 1 λ_=>Y3)))) (nO (Sy (nO (Sg (lM (ao 4 (lE aG) f.1 Y3)) (nO (To (kO (eF (ao 1 (zE aG) a Y3) (fK aG)) (zS Y3)) (Z4 (JQ (uz (ao 3 (zE eD) b Y3) (B7 0)) (Db (.str "kept"))))))))))) (λ_=>Y3) λ_=>Y3)))))))))))
theorem z7:∀v bs,(aZ cY (aZ aG (aL aG aN))) v bs->bs.length=3/\(hold (Z (d9 v.1 v.2.1 v.2.2.1))->iJ (bs.map lend)=Z ((zE eB) (cW v.1 v.2.1 v.2.2.1))):=by
 rintro⟨b,a,c,_⟩ _ ⟨_,rfl,⟨_,rfl,⟨d,_,rfl,e,rfl⟩⟩⟩;exact⟨rfl,λh=>cV (g:=iI) (n:=9) (bs:=[.z (cY b),.z (aG a),lend d]) (z6 b a c (BK e)) h⟩
def cU(e:AZ)(f:Y aD)(d:Y bW)(g:Unit)(b:dO):j4 (Unit) Bool:=(let c:=(cI (e,f,((d.filter λa:bW=>(!decide (a=b.2))).map λa:bW=>a)) b.1);(if((uM (jA c 0) (Dt.str "barred"))&&(uM (jA c 1) (bH b.2)))=true then(j4.rt false)else(j4.nx ())))
def eE(e:AZ)(f:Y aD)(d:Y bW)(g:Unit)(c:dO):Prop:=((d.length<=100000/\(j8 (e,f,((d.filter λa:bW=>(!decide (a=c.2))).map λa:bW=>a)) c.1))/\(let b:=(cI (e,f,((d.filter λa:bW=>(!decide (a=c.2))).map λa:bW=>a)) c.1);((Hq b (0:Int)/\U4 (jA b 0) (Dt.str "barred"))/\((uM (jA b 0) (Dt.str "barred"))=true->(Hq b (1:Int)/\U4 (jA b 1) (bH c.2))))))
theorem wO(h:lO)(g:W3)(c:AZ)(d:Y aD)(b:Y bW)(val:Y bW)(f:Unit)(a:dO):RP oO [Z (zE cY h),Z (zE wL g),Z ((zE (eT eS)) c),Z ((zE (eT aG)) d),Z ((zE (eT bH)) b),Z (oE bH val),Z ((zE aG) a.1),Z ((zE bH) a.2),O] (cC (λf:Unit=>[Z (zE cY h),Z (zE wL g),Z ((zE (eT eS)) c),Z ((zE (eT aG)) d),Z ((zE (eT bH)) b),Z (oE bH val),O,O,O]) (zE eB)) (cU c d b f a) (Z (eE c d b f a)):=R.tp (bh (bV 8 (An Bg (cj (xY (ao 2 (zE (eT eS)) c Y3) (ao 3 (zE (eT aG)) d Y3) (tH (nO (Z6 (Z7 (ao 4 (zE (eT bH)) b Y3)) _ (λ_=>Y3) (λe:bW=>(cX (Px (by decide) (ao 1 (zE bH) e Y3) (ao 0 (zE bH) a.2 Y3)))) (λe:bW=>(ao 1 (zE bH) e Y3)) (λ_=>Y3) λ_=>Y3)))) (cj (ao 6 (zE aG) a.1 Y3) bG))) (λ_=>Y3) λi=>(bh (oN (Gh (cX (JQ (uz (ao 8 (zE eD) i Y3) (B7 0)) (Db (.str "barred")))) (cX (JQ (uz (ao 8 (zE eD) i Y3) (B7 1)) (UW (ao 7 (zE bH) a.2 Y3))))) (bh (dR .rt (uy (.bl false) eB false Y3) (λ_=>Y3) λ_=>Y3)) (bQ (bQ (bD (.nx ()) Y3)))))))
def fj(e:lO)(a:W3):Bool:=(let q1:=e;(let val:=((q1.2.2.filter λb:bW=>(fM b (a.2.2.map λd:dO=>d.2))).map λb:bW=>b);(if((!decide ((bO (q1.1,q1.2.1,val))=a))||(!decide ((bO (q1.1,q1.2.1,([]:Y bW))).2.2=([]:Y dO))))=true then false else(BG (kW (λ(c:Unit) (f:dO)=>((cU q1.1 q1.2.1 q1.2.2 c f):j4 (Unit) Bool)) a.2.2 ()) (λr=>r) λc:Unit=>true))))
def gF(f:lO)(a:W3):Prop:=(let q1:=f;((q1.2.2.length<=100000/\(∀d∈q1.2.2,a.2.2.length<=100000))/\(let val:=((q1.2.2.filter λd:bW=>(fM d (a.2.2.map λe:dO=>e.2))).map λd:bW=>d);(((dZ (q1.1,q1.2.1,val))/\((!decide ((bO (q1.1,q1.2.1,val))=a))=false->(dZ (q1.1,q1.2.1,([]:Y bW)))))/\(((!decide ((bO (q1.1,q1.2.1,val))=a))||(!decide ((bO (q1.1,q1.2.1,([]:Y bW))).2.2=([]:Y dO))))=false->(uF (λ(b:Unit) (c:dO)=>((cU q1.1 q1.2.1 q1.2.2 b c):j4 (Unit) Bool)) (λ(b:Unit) (c:dO)=>Z (eE q1.1 q1.2.1 q1.2.2 b c)) a.2.2 ()/\(oX (kW (λ(b:Unit) (c:dO)=>((cU q1.1 q1.2.1 q1.2.2 b c):j4 (Unit) Bool)) a.2.2 ()) λb:Unit=>True)))))))
theorem Bh(b:lO)(a:W3):RP ji [Z (zE cY b),Z (zE wL a),O,O,O,O,O,O,O] (λr=>Ap.rt (zE eB r)) (fj b a) (Z (gF b a)):=R.tp (PK (ao 0 (zE cY) b Y3) _ (λ_=>Y3) λq1=>(bV 5 (Ds (Z7 (ao 4 (zE (eT bH)) q1.2.2 Y3)) _ (λ_=>Y3) (λd:bW=>(cX (LN (by decide) (ao 1 (zE bH) d Y3) (nO (tK (Sv (Cw (dY (ao 0 (zE wL) a Y3) (λq=>q.2.2) (eL rH) 2 λ_=>Y3))) _ (λ_=>Y3) (λe:dO=>(dY (ao 0 (zE rH) e Y3) (λq=>q.2) bH 1 λ_=>Y3)) λ_=>Y3))))) (λd:bW=>(ao 1 (zE bH) d Y3))) (λ_=>Y3) λval=>(oN (Sd (cX (Px (by decide) (An lG (cj (xY (ao 2 (zE (eT eS)) q1.1 Y3) (ao 3 (zE (eT aG)) q1.2.1 Y3) (tH (lM (ao 5 (lE bH) val Y3)))) bG)) (ao 1 (zE wL) a Y3))) (cX (YR (by decide) (Cw (dY (An lG (cj (xY (ao 2 (zE (eT eS)) q1.1 Y3) (ao 3 (zE (eT aG)) q1.2.1 Y3) (ZM bH)) bG)) (λq=>q.2.2) (eL rH) 2 λ_=>Y3)) (nO (kO (fK rH) (zS Y3)))))) (bh (dR (λr=>r) (uy (.bl false) eB false Y3) (λ_=>Y3) λ_=>Y3)) (bQ (Md (λc:Unit=>[Z (zE cY b),Z (zE wL a),Z ((zE (eT eS)) q1.1),Z ((zE (eT aG)) q1.2.1),Z ((zE (eT bH)) q1.2.2),Z (oE bH val),O,O,O]) () Y3 (VX (dY (ao 1 (zE wL) a Y3) (λq=>q.2.2) (eL rH) 2 λ_=>Y3)) _ (λ_ _=>Y3) (λ(c:Unit) (f:dO)=>((wO b a q1.1 q1.2.1 q1.2.2 val c f).r:R _ _ (cC (λc:Unit=>[Z (zE cY b),Z (zE wL a),Z ((zE (eT eS)) q1.1),Z ((zE (eT aG)) q1.2.1),Z ((zE (eT bH)) q1.2.2),Z (oE bH val),O,O,O]) (zE eB)))) (λr=>r) (λ_=>Y3) λc=>(dR (λr=>r) (uy (.bl true) eB true Y3) (λ_=>Y3) λ_=>Y3))))))
theorem Bj:∀v bs,(aZ cY (aZ wL aN)) v bs->bs.length=2/\(hold (Z (gF v.1 v.2.1))->jk (bs.map lend)=Z ((zE eB) (fj v.1 v.2.1))):=by
 rintro⟨a,b,_⟩ _ ⟨_,rfl,⟨_,rfl,rfl⟩⟩;exact⟨rfl,λh=>cV (g:=ji) (n:=9) (bs:=[.z (cY a),.z (wL b)]) (Bh a b) h⟩
def dN(a:(Y (AJ×AJ))×(Y aD))(b:aD):(Y (AJ×AJ))×(Y aD):=(let d:=(look a.1 b.2.1);(let vx:=(look a.1 b.2.2.1);(let c:(Y (AJ×AJ))×(Y aD):=(if(!decide (d=vx))=true then(let e:=(fP a.1 d vx);(let f:=a.2++[b];(e,f)))else(a.1,a.2));(c.1,c.2))))
def jO(a:(Y (AJ×AJ))×(Y aD))(b:aD):Prop:=(has a.1 b.2.1=true/\(let c:=(look a.1 b.2.1);(has a.1 b.2.2.1=true/\(let vx:=(look a.1 b.2.2.1);((!decide (c=vx))=true->((lD a.1 c vx)/\(let d:=(fP a.1 c vx);Ls a.2.length)))))))
theorem CW(e:lO)(d:AZ)(f:Y aD)(g:Y bW)(a:(Y (AJ×AJ))×(Y aD))(b:aD):RP uI [Z (zE cY e),Z ((zE (eT eS)) d),Z ((zE (eT aG)) f),Z ((zE (eT bH)) g),Z ((mE eS) a.1),Z ((oE aG) a.2),Z (zE aG b),O,O] (λs=>Ap.nx ((λa:(Y (AJ×AJ))×(Y aD)=>[Z (zE cY e),Z ((zE (eT eS)) d),Z ((zE (eT aG)) f),Z ((zE (eT bH)) g),Z ((mE eS) a.1),Z ((oE aG) a.2),O,O,O]) s)) (dN  a b) (Z (jO  a b)):=R.tp (bh (bV 7 (jU (ao 4 (nE eS) a.1 Y3) (dY (ao 6 (zE aG) b Y3) (λq=>q.2.1) eS 1 λ_=>Y3)) (λ_=>Y3) λh=>(bh (bV 8 (jU (ao 4 (nE eS) a.1 Y3) (dY (ao 6 (zE aG) b Y3) (λq=>q.2.2.1) eS 2 λ_=>Y3)) (λ_=>Y3) λvx=>(bh (uD (λc:(Y (AJ×AJ))×(Y aD)=>[Z (zE cY e),Z ((zE (eT eS)) d),Z ((zE (eT aG)) f),Z ((zE (eT bH)) g),Z ((mE eS) c.1),Z ((oE aG) c.2),Z (zE aG b),Z (zE eS h),Z (zE eS vx)]) (cX (Px (by decide) (ao 7 (zE eS) h Y3) (ao 8 (zE eS) vx Y3))) (bh (LX O 4 a.1 Y3 zX (cj (ao 7 (zE eS) h Y3) (cj (ao 8 (zE eS) vx Y3) bG)) λi=>(bh (zx 5 a.2 Y3 (ao 6 (zE aG) b Y3) λj=>(bQ (bD (i,j) Y3)))))) (bQ (bD (a.1,a.2) Y3)) λc=>(bQ (bD (c.1,c.2) Y3))))))))
def gZ(b:lO):(Y aD):=(let q1:=b;(let c:=(aU q1.1);(let d:=([]:Y aD);(let a:(Y (AJ×AJ))×(Y aD):=(q1.2.1.foldl (λ(a:(Y (AJ×AJ))×(Y aD)) (e:aD)=>(dN  a e)) (c,d));a.2))))
def lJ(c:lO):Prop:=(let q1:=c;((lC q1.1)/\(let d:=(aU q1.1);(let e:=([]:Y aD);nZ (λ(a:(Y (AJ×AJ))×(Y aD)) (b:aD)=>(dN  a b)) (λ(a:(Y (AJ×AJ))×(Y aD)) (b:aD)=>Z (jO  a b)) q1.2.1 (d,e)))))
theorem MK(a:lO):RP pD [Z (zE cY a),O,O,O,O,O,O,O,O] (λr=>Ap.rt (oE aG r)) (gZ a) (Z (lJ a)):=R.tp (PK (ao 0 (zE cY) a Y3) _ (λ_=>Y3) λq1=>(bV 4 (An zW (cj (ao 1 (zE (eT eS)) q1.1 Y3) bG)) (λ_=>Y3) λc=>(bV 5 (kO (fK aG) (zS Y3)) (λ_=>Y3) λd=>(Sx 2 q1.2.1 (Sw Y3) (λb:(Y (AJ×AJ))×(Y aD)=>[Z (zE cY a),Z ((zE (eT eS)) q1.1),Z ((zE (eT aG)) q1.2.1),Z ((zE (eT bH)) q1.2.2),Z ((mE eS) b.1),Z ((oE aG) b.2),O,O,O]) (c,d) Y3 _ (λ_ _=>Y3) (λ(b:(Y (AJ×AJ))×(Y aD)) (e:aD)=>(CW a q1.1 q1.2.1 q1.2.2 b e).r) λb=>(Lz 5 (λr=>r) b.2 Y3 (λ_=>Y3) λ_=>Y3)))))
theorem MN:∀v bs,(aZ cY aN) v bs->bs.length=1/\(hold (Z (lJ v.1))->pF (bs.map lend)=Z ((oE aG) (gZ v.1))):=by
 rintro⟨a,_⟩ _ ⟨_,rfl,rfl⟩;exact⟨rfl,λh=>cV (g:=pD) (n:=9) (bs:=[.z (cY a)]) (MK a) h⟩
def qw(h:B9)(j:Unit)(g:Int):j4 (Unit) Bool:=(let d:=(bA (bF h g) 9);(let b:=(jx h g ((at' d 6)%10) ((at' d 7)%15) ((at' d 8)%7));(let c:=(bO b);(if(!((b.2.1.map λa:aD=>(cW b a c.2.1)).all id))=true then(j4.rt false)else(if(!(fj b c))=true then(j4.rt false)else(let y2:=(c.2.1.map λa:aD=>a.1).sum;let i:=((gZ b).map λa:aD=>a.1).sum;let e:=y2;let f:=i;(if((decide (f<e))||((decide (c.2.2=([]:Y dO)))&&(!decide (e=f))))=true then(j4.rt false)else(j4.nx ()))))))))
def vO(f:B9)(g:Unit)(e:Int):Prop:=(((iW f e)/\(fY (bF f e) 9))/\(let b:=(bA (bF f e) 9);(((In b.length 6/\(In b.length 7/\In b.length 8))/\(pK f e ((at' b 6)%10) ((at' b 7)%15) ((at' b 8)%7)))/\(let a:=(jx f e ((at' b 6)%10) ((at' b 7)%15) ((at' b 8)%7));((dZ a)/\(let d:=(bO a);((a.2.1.length<=100000/\(∀c∈a.2.1,(d9 a c d.2.1)))/\((!((a.2.1.map λc:aD=>(cW a c d.2.1)).all id))=false->((gF a d)/\((!(fj a d))=false->((d.2.1.length<=100000/\DH (d.2.1.map λc:aD=>c.1)=true)/\(((lJ a)/\(gZ a).length<=100000)/\DH ((gZ a).map λc:aD=>c.1)=true))))))))))))
theorem WJ(c:B9)(j:Lp fU (c.map eI))(g:Unit)(b:Int):RP Qf [Z fU,Z (zE eI b),O,O,O,O,O] (cC (λg:Unit=>[Z fU,O,O,O,O,O,O]) (zE eB)) (qw c g b) (Z (vO c g b)):=R.tp (bh (bV 2 (An m9 (cj (qe (An um (xZ (jZ 0 eI c j Y3) (cj (ao 1 (zE eI) b Y3) bG)))) (cj (B7 9) bG))) (λ_=>Y3) λf=>(bh (bV 3 (An Mt (xZ (jZ 0 eI c j Y3) (cj (ao 1 (zE eI) b Y3) (cj (fX (lV (lM (ao 2 (lE eI) f Y3)) (B7 6)) 10 (by decide)) (cj (fX (lV (lM (ao 2 (lE eI) f Y3)) (B7 7)) 15 (by decide)) (cj (fX (lV (lM (ao 2 (lE eI) f Y3)) (B7 8)) 7 (by decide)) bG)))))) (λ_=>Y3) λd=>(bh (bV 4 (An lG (cj (ao 3 (zE cY) d Y3) bG)) (λ_=>Y3) λe=>(bh (oN (U6 (ZL (LW (nO (Ss (Z7 (dY (ao 3 (zE cY) d Y3) (λq=>q.2.1) (eT aG) 1 λ_=>Y3)) _ (λ_=>Y3) (λa:aD=>(qe (An z7 (cj (ao 0 (zE cY) d Y3) (cj (ao 2 (zE aG) a Y3) (xZ (Cw (dY (ao 1 (zE wL) e Y3) (λq=>q.2.1) (eL aG) 1 λ_=>Y3)) bG))))))))))) (bh (dR .rt (uy (.bl false) eB false Y3) (λ_=>Y3) λ_=>Y3)) (bQ (bh (oN (U6 (ZL (An Bj (cj (ao 3 (zE cY) d Y3) (cj (ao 4 (zE wL) e Y3) bG))))) (bh (dR .rt (uy (.bl false) eB false Y3) (λ_=>Y3) λ_=>Y3)) (bQ (bh (Z9 5 6 (qe (IR (nO (tK (Sv (Cw (dY (ao 4 (zE wL) e Y3) (λq=>q.2.1) (eL aG) 1 λ_=>Y3))) _ (λ_=>Y3) (λa:aD=>(dY (ao 0 (zE aG) a Y3) (λq=>q.1) eI 0 λ_=>Y3)) λ_=>Y3)))) (qe (IR (nO (tK (Sv (nO (An MN (cj (ao 3 (zE cY) d Y3) bG)))) _ (λ_=>Y3) (λa:aD=>(dY (ao 0 (zE aG) a Y3) (λq=>q.1) eI 0 λ_=>Y3)) λ_=>Y3)))) λh i=>(bh (oN (Sd (cX (Hn (ao 5 (zE eI) h Y3) (ao 6 (zE eI) i Y3))) (Gh (cX (L5 (by decide) (Cw (dY (ao 4 (zE wL) e Y3) (λq=>q.2.2) (eL rH) 2 λ_=>Y3)) (nO (kO (fK rH) (zS Y3))))) (cX (Px (by decide) (ao 5 (zE eI) h Y3) (ao 6 (zE eI) i Y3))))) (bh (dR .rt (uy (.bl false) eB false Y3) (λ_=>Y3) λ_=>Y3)) (bQ (bQ (bD (.nx ()) Y3)))))))))))))))))))
def Qz(a:B9):Bool:=(BG (kW (λ(b:Unit) (c:Int)=>((qw a b c):j4 (Unit) Bool)) (rng 0 (if(if(2:Int)<(a.length:Int)then(2:Int)else(a.length:Int))>1 then(if(2:Int)<(a.length:Int)then(2:Int)else(a.length:Int))else 1).toNat) ()) (λr=>r) λb:Unit=>true)
def QC(a:B9):Prop:=((Rg (if(if(2:Int)<(a.length:Int)then(2:Int)else(a.length:Int))>1 then(if(2:Int)<(a.length:Int)then(2:Int)else(a.length:Int))else 1)/\uF (λ(b:Unit) (c:Int)=>((qw a b c):j4 (Unit) Bool)) (λ(b:Unit) (c:Int)=>Z (vO a b c)) (rng 0 (if(if(2:Int)<(a.length:Int)then(2:Int)else(a.length:Int))>1 then(if(2:Int)<(a.length:Int)then(2:Int)else(a.length:Int))else 1).toNat) ())/\(oX (kW (λ(b:Unit) (c:Int)=>((qw a b c):j4 (Unit) Bool)) (rng 0 (if(if(2:Int)<(a.length:Int)then(2:Int)else(a.length:Int))>1 then(if(2:Int)<(a.length:Int)then(2:Int)else(a.length:Int))else 1).toNat) ()) λb:Unit=>True))
theorem Pm(a:B9)(c:Lp fU (a.map eI)):RP Vd [Z fU,O,O,O,O,O,O] (λr=>Ap.rt (zE eB r)) (Qz a) (Z (QC a)):=R.tp (Md (λb:Unit=>[Z fU,O,O,O,O,O,O]) () Y3 (JT (Gi (B7 1) (Z5 (DM (jZ 0 eI a c Y3)) (B7 2)))) _ (λ_ _=>Y3) (λ(b:Unit) (d:Int)=>((WJ a c b d).r:R _ _ (cC (λb:Unit=>[Z fU,O,O,O,O,O,O]) (zE eB)))) (λr=>r) (λ_=>Y3) λb=>(dR (λr=>r) (uy (.bl true) eB true Y3) (λ_=>Y3) λ_=>Y3))
theorem Lv:∀v bs,(aL eI aN) v bs->bs.length=1/\(hold (Z (QC v.1))->F_law (bs.map lend)=Z ((zE eB) (Qz v.1))):=by
 rintro⟨a,_⟩ _ ⟨fU,_,rfl,b,rfl⟩;exact⟨rfl,λh=>cV (g:=Vd) (n:=7) (bs:=[lend fU]) (Pm a (BK b)) h⟩
theorem LB(h:∀a:Y Int,a.length<=63->QC a/\Qz a=true):(∀a:Y Int,a.length<=63->F_law [.z (.lst (a.map .int))]=Z (.z (.bl true)))/\∀a:Y Int,a.length<=63->F_law [.l (a.map .int)]=Z (.z (.bl true)):=
 ⟨λa b=>((Lv (a,()) [.z (.lst (a.map .int))] ⟨_,_,rfl,rfl,rfl⟩).2 (h a b).1).trans (by rw[(h a b).2]),λa b=>((Lv (a,()) [.l (a.map .int)] ⟨_,_,rfl,rfl,rfl⟩).2 (h a b).1).trans (by rw[(h a b).2])⟩
end
end G28
end
section
set_option synthInstance.maxSize 100000
namespace G28
open L2 P1
theorem MP(a:Y Int)(k:Int)(h0:0<=k)(h1:k<=1000):iW a k:=by
 unfold iW;exact⟨λh=>B5 h0 (by simpa using h),λ_=>LI h0 (by omega)⟩
theorem SY(k:Nat)(s:Int×Y Int×Int)(d:k<1000)(h:(0<=s.1/\s.1<1999999973)/\s.2.1.length=k/\(∀x∈s.2.1,0<=x)/\0<=s.2.2):ju s k/\(0<=(cQ s k).1/\(cQ s k).1<1999999973)/\(cQ s k).2.1.length=k+1/\(∀x∈(cQ s k).2.1,0<=x)/\0<=(cQ s k).2.2:=by
 obtain⟨h1,h2,c,b⟩:=h;have a:In 2 (if(decide ((0:Int)<s.2.2))=true then(1:Int)else 0):=by split<;>exact B5 (by omega) (by omega)
 refine⟨⟨LI h1.1 (by omega),a,?_⟩,iR _ (by decide),?_,?_,Int.ediv_nonneg b (by decide)⟩
 ·show s.2.1.length<=1000000;omega
 ·show(s.2.1++[_]).length=k+1;rw[zD,h2];rfl
 ·intro x hx;rcases List.mem_append.mp hx with hx|hx
  ·exact c x hx
  ·cases List.mem_singleton.mp hx;have:=yd (xs:=[((((s.1*((s.1%65521)+40487))+(7*k))+5)%1999999973),(s.2.2%1000000)]) a;simp only[QY,jI,or_false]at this;rcases this with e|e<;>rw[e]
   ·exact(iR _ (by decide)).1
   ·exact(iR _ (by decide)).1
theorem M4(c m:Int)(h0:0<=m)(h1:m<=1000):fY c m/\(bA c m).length=m.toNat/\∀x∈bA c m,0<=x:=by
 have d:∀st a:Int,(0<=st/\st<1999999973)->0<=a->mH c m [] st a/\(jw c m [] st a).length=m.toNat/\∀x∈jw c m [] st a,0<=x:=λst a hs b=>by
  have:=zF (P:=λs k=>Z (ju s k)) (λk s=>(0<=s.1/\s.1<1999999973)/\s.2.1.length=k/\(∀x∈s.2.1,0<=x)/\0<=s.2.2) (step:=λs k=>cQ s k) m.toNat (st,[],a) ⟨hs,rfl,λx h=>(by cases h),b⟩ λk s e h=>SY k s (by omega) h;exact⟨⟨JZ h0 (by omega),this.1⟩,this.2.2.1,this.2.2.2.1⟩
 refine d _ _ (iR _ (by decide)) ?_;dsimp only;split<;>(try split)<;>omega
theorem nu{m:Y (AJ×α)}:has m x=true↔x∈m.map (·.1):=by
 unfold has;rw[kf,List.mem_map];constructor
 ·rintro⟨q,a,h⟩;exact⟨q,a,QI h⟩
 ·rintro⟨q,a,h⟩;exact⟨q,a,z4 h⟩
theorem z8[Inhabited α]{pre AS:Y (AJ×α)}{n:AJ}{h:α}(a:n∉pre.map (·.1)):look (pre++(n,h)::AS) n=h:=by
 unfold look;have:pre.find? (λq=>decide (q.1=n))=O:=List.find?_eq_none.mpr λq b e=>a (List.mem_map.mpr ⟨q,b,QI e⟩);rw[List.find?_append,this];simp
theorem YA{pre AS:Y (AJ×α)}{n:AJ}{h v:α}(d:n∉pre.map (·.1))(c:n∉AS.map (·.1)):put (pre++(n,h)::AS) n v=pre++(n,v)::AS:=by
 unfold put;rw[zo (nu.mpr (by simp))];have a:∀l:Y (AJ×α),n∉l.map (·.1)->l.map (λq=>if q.1=n then(q.1,v)else q)=l:=λl b=>by
  conv=>rhs;rw[<-Ki l]
  refine QR λq f=>?_;rw[zw λe=>b (List.mem_map.mpr ⟨q,f,e⟩)];rfl
 rw[qh,zt,a pre d,a AS c];simp
theorem J6[Inhabited α]{m:Y (AJ×α)}(h:x∈m.map (·.1)):(x,look m x)∈m:=by
 unfold look;cases a:m.find? λq=>decide (q.1=x)with
 |none=>
  obtain⟨q,b,rfl⟩:=List.mem_map.mp h;have:=List.find?_eq_none.mp a q b;simp at this
 |some q=>
  have h1:=JO a;have h2:q.1=x:=by simpa using List.find?_some a
  show(x,q.2)∈m;rw[<-h2];exact h1
theorem Dv[Inhabited α]{m:Y (AJ×α)}(nd:(m.map (·.1)).Nodup){q:AJ×α}(h:q∈m):look m q.1=q.2:=by
 obtain⟨a,AS,rfl⟩:=kM h;have:q.1∉a.map (·.1):=λe=>by
  rw[qh,zt,KO]at nd;exact nd.2.2 _ e _ (zh ..) rfl
 exact z8 this
def mn(one a:AJ):AJ:=if wK a one=true then a else one
def jn(one a h:AJ):AJ:=if h=one\/h=a then mn one a else h
theorem J7(a b:AJ):mn a b=a\/mn a b=b:=by unfold mn;split;exact .inr rfl;exact .inl rfl
def jm(m:Y (AJ×AJ))(one a:AJ):Y (AJ×AJ):=m.map λq=>(q.1,jn one a q.2)
theorem Vf(m:Y (AJ×AJ))(one a:AJ):(jm m one a).map (·.1)=m.map (·.1):=by unfold jm;rw[QE];rfl
theorem TR{one a:AJ}(nd:(m.map (·.1)).Nodup)(h:x∈m.map (·.1)):look (jm m one a) x=jn one a (look m x):=by
 have h1:=J6 h;have:(x,jn one a (look m x))∈jm m one a:=List.mem_map.mpr ⟨_,h1,rfl⟩;exact Dv (by rw[Vf];exact nd) this
theorem C1(one a:AJ):∀(b pre:Y (AJ×AJ)),((pre++b).map (·.1)).Nodup->(pre++b).length<1000 →
  nZ (λ(c:(Y (AJ×AJ))) (name:AJ)=>(dI one a (mn one a) c name)) (λ(c:(Y (AJ×AJ))) (name:AJ)=>Z (oK one a (mn one a) c name)) (b.map (·.1)) (pre++b) ∧
  (b.map (·.1)).foldl (λ(c:(Y (AJ×AJ))) (name:AJ)=>(dI one a (mn one a) c name)) (pre++b)=pre++jm b one a
 |[],pre,_,_=>⟨trivial,rfl⟩
 |(n,h)::AS,pre,nd,hl=>by
  have g:n∉pre.map (·.1):=λe=>by
   rw[qh,zt,KO]at nd;exact nd.2.2 _ e _ (zh ..) rfl
  have i:n∉AS.map (·.1):=by
   rw[qh,zt,KO,List.nodup_cons]at nd;exact nd.2.1.1
  have f:has (pre++(n,h)::AS) n=true:=nu.mpr (by simp);have e:dI one a (mn one a) (pre++(n,h)::AS) n=pre++(n,jn one a h)::AS:=by
   unfold dI;dsimp only;rw[z8 g];unfold jn;by_cases q:h=one\/h=a
   ·rw[zo q,zo (by simpa using q),YA g i]
   ·rw[zw q,zw (by simpa using q)]
  have d:=C1 one a AS (pre++[(n,jn one a h)]) (by simpa using nd) (by simpa using hl);rw[qa]at d;refine⟨⟨⟨⟨f,λ_=>f⟩,λ_=>hl⟩,?_⟩,?_⟩
  ·show nZ _ _ _ (dI one a (mn one a) (pre++(n,h)::AS) n);rw[e];exact d.1
  ·rw[zt,qi,e];rw[show pre++(n,jn one a h)::AS=pre++([(n,jn one a h)]++AS) by simp,d.2];unfold jm;simp
theorem Vg(one a:AJ)(nd:(m.map (·.1)).Nodup)(b:m.length<1000):lD m one a/\fP m one a=jm m one a:=C1 one a m [] nd b
theorem Vh:∀(a m:Y (AJ×AJ)),((m++a).map (·.1)).Nodup->a.foldl (λm q=>put m q.1 q.2) m=m++a
 |[],m,_=>by simp
 |q::a,m,nd=>by
  rw[qi];have:put m q.1 q.2=m++[q]:=by
   unfold put;rw[zw];intro e;have e:=nu.mp e;rw[qh,zt,KO]at nd;exact nd.2.2 _ e _ (zh ..) rfl
  rw[this,Vh a (m++[q]) (by simpa using nd)];simp
theorem wF(n_:AZ)(nd:n_.Nodup)(a:n_.length<1000):lC n_/\aU n_=n_.map λn=>(n,n):=by
 refine⟨⟨a,by omega⟩,?_⟩;unfold aU F3;rw[Vh _ [] (by rw[Jn,QE];show(n_.map id).Nodup;rw[Ki];exact nd)];rfl
structure Hd (n_:AZ) (m:List (Str×Str)):Prop where
 keys:m.map (·.1)=n_
 nd:n_.Nodup
 len:n_.length<1000
 mem:∀x∈n_,look m x∈n_
 idem:∀x∈n_,look m (look m x)=look m x
theorem Hd.kn(h:Hd n_ m):(m.map (·.1)).Nodup:=by rw[h.keys];exact h.nd
theorem Hd.ml(h:Hd n_ m):m.length<1000:=by rw[<-zr (f:=(·.1)),h.keys];exact h.len
theorem Hd.has(h:Hd n_ m)(hx:x∈n_):has m x=true:=nu.mpr (by rw[h.keys];exact hx)
theorem Hd.lone(nd:n_.Nodup)(b:n_.length<1000):Hd n_ (n_.map λn=>(n,n)):=by
 have k:(n_.map λn=>(n,n)).map (·.1)=n_:=by rw[QE];show n_.map id=n_;rw[Ki]
 have a:∀x∈n_,look (n_.map λn=>(n,n)) x=x:=λx hx=>Dv (q:=(x,x)) (by rw[k];exact nd) (List.mem_map.mpr ⟨x,hx,rfl⟩);exact⟨k,nd,b,λx hx=>by rw[a x hx];exact hx,λx hx=>by rw[a x hx,a x hx]⟩
theorem wG(nd:n_.Nodup)(hx:x∈n_):look (n_.map λn=>(n,n)) x=x:=
 Dv (q:=(x,x)) (by rw[QE];show(n_.map id).Nodup;rw[Ki];exact nd) (List.mem_map.mpr ⟨x,hx,rfl⟩)
theorem Hd.vP(h:Hd n_ m){one a:AJ}(hx:x∈n_):look (jm m one a) x=jn one a (look m x):=TR h.kn (by rw[h.keys];exact hx)
theorem Hd.join(h:Hd n_ m){a b:AJ}(c:a∈n_)(hb:b∈n_):Hd n_ (jm m (look m a) (look m b)):=by
 have f:=h.mem a c;have g:=h.mem b hb;refine⟨(Vf _ _ _).trans h.keys,h.nd,h.len,λx hx=>?_,λx hx=>?_⟩
 ·rw[h.vP hx];unfold jn;split
  ·rcases J7 (look m a) (look m b)with e|e<;>rw[e]<;>assumption
  ·exact h.mem x hx
 ·have d:jn (look m a) (look m b) (look m x)∈n_:=by
   unfold jn;split
   ·rcases J7 (look m a) (look m b)with e|e<;>rw[e]<;>assumption
   ·exact h.mem x hx
  rw[h.vP hx,h.vP d];unfold jn;by_cases q:look m x=look m a\/look m x=look m b
  ·rw[zo q];rcases J7 (look m a) (look m b)with e|e
   ·rw[e,h.idem a c,zo (.inl Y3)]
   ·rw[e,h.idem b hb,zo (.inr Y3)]
  ·rw[zw q,h.idem x hx,zw q]
theorem US(a:AJ):jm m a a=m:=by
 unfold jm
 conv=>rhs;rw[<-Ki m]
 refine QR λq _=>?_;unfold jn mn;have:wK a a=false:=by simp[wK]
 rw[this];by_cases e:q.2=a
 ·rw[zo (.inl e),zw (by decide),<-e];rfl
 ·rw[zw (by simp[e])];rfl
def Tf(n_:AZ)(m:Y (AJ×AJ)):AZ:=n_.filter λx=>decide (look m x=x)
theorem Cg{p q:AJ->Bool}{c:AJ}:∀{l:AZ},l.Nodup->c∈l->p c=true->(∀x∈l,q x=(p x&&decide (x≠c)))->(l.filter q).length+1=(l.filter p).length
 |[],_,h,_,_=>by cases h
 |x::l,nd,a,hp,hq=>by
  have hx:=hq x (zh ..);obtain⟨nx,d⟩:=List.nodup_cons.mp nd;rcases List.mem_cons.mp a with rfl|a
  ·have e:l.filter q=l.filter p:=List.filter_congr λy b=>by
    rw[hq y (zi _ b)];have:y≠c:=λe=>nx (e▸b);simp[this]
   rw[kF,kF,hx,hp];simp[e]
  ·have f:=Cg (p:=p) (q:=q) d a hp λy b=>hq y (zi _ b);have:x≠c:=λe=>nx (e▸a);rw[kF,kF,hx];cases p x<;>simp[this]<;>omega
theorem Hd.aaI(h:Hd n_ m){a b:AJ}(f:a∈n_)(hb:b∈n_)(i:look m a≠look m b):(Tf n_ (jm m (look m a) (look m b))).length+1=(Tf n_ m).length:=by
 have j:=h.mem a f;have l:=h.mem b hb;have i1:=h.idem a f;have i2:=h.idem b hb;have g:∀c,c∈n_->look m c=c->(c=look m a/\mn (look m a) (look m b)=look m b\/c=look m b/\mn (look m a) (look m b)=look m a)->(Tf n_ (jm m (look m a) (look m b))).length+1=(Tf n_ m).length:=λc n o d=>by
  refine Cg h.nd n (z4 o) λx hx=>?_;rw[h.vP hx];rw[ky];simp only[ZY,ZH];unfold jn;by_cases q:look m x=look m a\/look m x=look m b
  ·rw[zo q];rcases d with⟨rfl,e⟩|⟨rfl,e⟩
   ·rw[e];constructor
    ·rintro rfl;exact⟨i2,λz=>i z.symm⟩
    ·rintro⟨e1,e2⟩;rcases q with q|q
     ·exact absurd (e1.symm.trans q) e2
     ·exact q.symm.trans e1
   ·rw[e];constructor
    ·rintro rfl;exact⟨i1,i⟩
    ·rintro⟨e1,e2⟩;rcases q with q|q
     ·exact q.symm.trans e1
     ·exact absurd (e1.symm.trans q) e2
  ·rw[zw q];constructor
   ·intro e1;refine⟨e1,λe2=>q ?_⟩;rcases d with⟨rfl,_⟩|⟨rfl,_⟩
    ·exact .inl (e1.trans e2)
    ·exact .inr (e1.trans e2)
   ·exact λe1=>e1.1
 rcases J7 (look m a) (look m b)with e|e
 ·exact g (look m b) l i2 (.inr ⟨rfl,e⟩)
 ·exact g (look m a) j i1 (.inl ⟨rfl,e⟩)
abbrev bB:=Int×AJ×AJ×Int
def Rs(n_:AZ)(rs:Y bB):Prop:=∀r∈rs,r.2.1∈n_/\r.2.2.1∈n_
def jb(m:Y (AJ×AJ))(r:bB):Y (AJ×AJ):=jm m (look m r.2.1) (look m r.2.2.1)
def hb(n_:AZ)(rs:Y bB):Y (AJ×AJ):=rs.foldl jb (aU n_)
theorem GB(nd:n_.Nodup)(a:n_.length<1000):Hd n_ (aU n_):=by rw[(wF n_ nd a).2];exact Hd.lone nd a
theorem uq(n_:AZ)(rs:Y bB)(r:bB):hb n_ (rs++[r])=jb (hb n_ rs) r:=kU (l:=rs) (l':=[r])
theorem Hf(a:AJ):yw a a:=by unfold yw;rw[ltCps_eq];simp
theorem J8{a b c:AJ}(h:yw a b)(h':yw b c):yw a c:=by
 unfold yw at *
 rw[ltCps_eq]at *
 simp only[Q2]at *
 exact List.le_trans (α:=Nat) h h'
theorem MY(a b:AJ):yw (mn a b) a/\yw (mn a b) b:=by
 unfold mn;by_cases h:wK b a=true
 ·rw[zo h];exact⟨((C2 b a).mp h).1,Hf b⟩
 ·rw[zw h];refine⟨Hf a,?_⟩;have h:wK b a=false:=by simpa using h
  unfold wK at h;unfold yw;rw[ltCps_eq];exact h
def Do(n_:AZ)(m:Y (AJ×AJ)):Prop:=∀x∈n_,yw (look m x) x
theorem NB(nd:n_.Nodup)(a:n_.length<1000):Do n_ (aU n_):=λx hx=>by
 rw[(wF n_ nd a).2,wG nd hx];exact Hf x
theorem Do.jb(l:Do n_ m)(h:Hd n_ m)(r:bB):Do n_ (jb m r):=λx hx=>by
 show yw (look (jm m (look m r.2.1) (look m r.2.2.1)) x) x;rw[h.vP hx];unfold jn;split
 ·rename_i e;rcases e with e|e
  ·exact J8 (MY _ _).1 (e▸l x hx)
  ·exact J8 (MY _ _).2 (e▸l x hx)
 ·exact l x hx
theorem Be{α:Type}(c:Array α):∀(n:Nat) (a:Array α),((List.replicate n c).foldl (·++·) a).size=a.size+n*c.size
 |0,a=>by simp
 |n+1,a=>by
  rw[qr,qi,Be c n,kX,Nat.succ_mul];omega
theorem KQ(x:AJ)(k:Int):(Txt.mul x k).length<=x.length*k.toNat:=by
 unfold Txt.mul;split
 ·exact QO _
 split
 ·rename_i h0 h;simp only[Kj,beq_iff_eq]at h;rcases h with h|h
  ·subst h;simp
  ·rw[h];simp
 ·show(Array.size _)<=_;rw[Be];have:x.cps.size=x.length:=rfl;rw[this,Nat.mul_comm];simp
def LT:AJ:=("abcdefghijklmnopqrstuvwxyz":AJ)
theorem Tg:LT.length=26:=by decide +kernel
theorem jB(h:n<=1000):Ls n:=ZE h (by decide)
theorem Ti(xs:Y Int)(i:6<=xs.length)(b:AJ)(hs:b.length<=5)(at_:Int)(k:Nat)(a:AZ)(j:k<200)(h:a.length=k/\∀n∈a,n.length<=12):lA xs LT b at_ a k/\(fG xs LT b at_ a k).length=k+1/\∀n∈fG xs LT b at_ a k,n.length<=12:=by
 have o:=ZE (slice_le b O (Z at_)) hs;have l:=ZE (slice_le b (Z at_) O) hs;have c1:=Gn LT ((↑k+at' xs 2)%15);have g:=iR (k:Int) (m:=8) (by decide);have e:(0:Int)<=(k:Int) / 8/\(k:Int) / 8<26:=by omega
 refine⟨⟨⟨B5 (by decide) (by omega),yg (by decide) (by rw[Tg];decide)⟩,⟨jB (by omega),jB (by rw[vI];omega)⟩,⟨B5 (by decide) (by omega),λ_=>⟨B5 e.1 (by rw[Tg];exact e.2),by omega,by omega,by rw[Gn];decide⟩⟩,jB (by omega)⟩,?_⟩;have d:∀n:AJ,n.length<=12->(a++[n]).length=k+1/\∀m∈a++[n],m.length<=12:=λn f=>⟨by simp[h.1],λm c=>by
  rcases List.mem_append.mp c with c|c
  ·exact h.2 m c
  ·cases List.mem_singleton.mp c;exact f⟩
 unfold fG;dsimp only;split
 ·exact d _ (by have:=KQ (ch LT ((k:Int) / 8)) (1+(k:Int)%8);rw[Gn]at this;exact ZE this (by omega))
 ·exact d _ (by rw[vI,vI,c1];omega)
theorem MW(xs:AZ)(n:Nat)(h:∀x∈xs,x.length<=n):(Txt.join "" xs).length<=xs.length*n:=by
 have h1:=StrLaws.join_length_le ("":AJ) xs;rw[<-StrLaws.glued_eq_join]at h1;have h2:(xs.map (·.length)).sum<=xs.length*n:=by
  clear h1
  induction xs with
  |nil=>simp
  |cons a l c=>
   have:=c λx hx=>h x (zi _ hx);have:=h a (zh ..);simp only[zt,List.sum_cons,ZN,Nat.succ_mul];omega
 have b:("":AJ).length=0:=rfl;rw[b,Nat.mul_zero]at h1;exact ZE h1 (by omega)
theorem UO(xs:AZ)(h:∀x∈xs,x.length=1):(xs.map (·.length)).sum=xs.length:=by
 induction xs with
 |nil=>rfl
 |cons a l b=>
  have:=b λx hx=>h x (zi _ hx);have:=h a (zh ..);simp only[zt,List.sum_cons,ZN];omega
theorem ND(xs:Y Int)(e:6<=xs.length)(a:Int)(h0:0<=a)(h1:a<=200):qX xs a/\(cJ xs a).length=a.toNat/\∀n∈cJ xs a,n.length<=12:=by
 have i:=iR (at' xs 0) (m:=6) (by decide);have st:∀b:AJ,b.length<=5->qm xs a LT b/\(lB xs a LT b).length=a.toNat/\∀n∈lB xs a LT b,n.length<=12:=λb hs=>by
  have:=zF (P:=λf k=>Z (lA xs LT b (at' xs 1%((b.length:Int)+1)) f k)) (step:=λf k=>fG xs LT b (at' xs 1%((b.length:Int)+1)) f k) (λk s=>s.length=k/\∀n∈s,n.length<=12) a.toNat [] ⟨rfl,λn h=>(by cases h)⟩ λk s d h=>Ti xs e b hs _ k s (by omega) h;exact⟨⟨⟨B5 (by decide) (by omega),by omega⟩,JZ h0 (by omega),this.1⟩,this.2⟩
 have c1:∀x∈((rng 0 (at' xs 0%6).toNat).map λc:Int=>ch LT (at' xs c / 40%26)),x.length=1:=λx hx=>by
  obtain⟨k,_,rfl⟩:=List.mem_map.mp hx;exact Gn _ _
 have:=st (Txt.join "" ((rng 0 (at' xs 0%6).toNat).map λc:Int=>ch LT (at' xs c / 40%26))) (by
  have:=MW _ 1 λx hx=>Nat.le_of_eq (c1 x hx);rw[zr,zB]at this;omega)
 refine⟨⟨⟨⟨⟨⟨B5 (by decide) (by omega),JZ i.1 (by omega)⟩,by rw[zB];omega⟩,λk d=>?_⟩,?_⟩,this.1⟩,this.2⟩
 ·obtain⟨j,l,rfl⟩:=Ma d;exact⟨B5 (by omega) (by omega),yg (by decide) (by rw[show("abcdefghijklmnopqrstuvwxyz":AJ)=LT from rfl,Tg];decide)⟩
 ·rw[show("abcdefghijklmnopqrstuvwxyz":AJ)=LT from rfl,UO _ c1,zr,zB];have g:("":AJ).length=0:=rfl;rw[g];omega
def Tr(F:Y bB):AJ->Y bB->AJ->Prop
 |s,[],e=>s=e
 |s,r::p,e=>r∈F/\∃t,aX r s=Z t/\Tr F t p e
def ig(F:Y bB)(x y:AJ):Prop:=∃p,Tr F x p y
theorem nA{r:bB}(h:aX r x=Z y):(r.2.1=x/\r.2.2.1=y)\/(r.2.2.1=x/\r.2.1=y):=by
 unfold aX at h;by_cases h1:r.2.1=x
 ·rw[z4 h1,zo rfl]at h;exact .inl ⟨h1,Q1 h⟩
 ·rw[Zp h1,zw (by decide)]at h;by_cases h2:r.2.2.1=x
  ·rw[z4 h2,zo rfl]at h;exact .inr ⟨h2,Q1 h⟩
  ·rw[Zp h2,zw (by decide)]at h;cases h
theorem Vi{r:bB}(a:r.2.1≠r.2.2.1)(h:aX r x=Z y):aX r y=Z x:=by
 unfold aX;rcases nA h with⟨h1,h2⟩|⟨h1,h2⟩
 ·have:r.2.1≠y:=λz=>a (z.trans h2.symm);rw[Zp this,zw (by decide),z4 h2,zo rfl,h1]
 ·rw[z4 h2,zo rfl,h1]
theorem Tr.app{F:Y bB}:∀{p:Y bB} {x y z:AJ} {q:Y bB},Tr F x p y->Tr F y q z->Tr F x (p++q) z
 |[],_,_,_,_,h,h'=>by cases h;exact h'
 |_::_,_,_,_,_,⟨m,t,e,h⟩,h'=>⟨m,t,e,h.app h'⟩
theorem Tr.rev{F:Y bB}(a:∀r∈F,r.2.1≠r.2.2.1):∀{p:Y bB} {x y:AJ},Tr F x p y->Tr F y p.reverse x
 |[],_,_,h=>by cases h;rfl
 |r::p,x,y,⟨m,t,e,h⟩=>by
  rw[kC];exact(h.rev a).app ⟨m,x,Vi (a r m) e,rfl⟩
theorem ig.symm{F:Y bB}(a:∀r∈F,r.2.1≠r.2.2.1){x y:AJ}:ig F x y->ig F y x:=λ⟨p,h⟩=>⟨_,h.rev a⟩
theorem ig.trans{F:Y bB}{z:AJ}:ig F x y->ig F y z->ig F x z:=λ⟨_,h⟩ ⟨_,h'⟩=>⟨_,h.app h'⟩
inductive Fo:List bB->Prop
 |nil:Fo []
 |snoc {F:List bB} {r:bB}:Fo F->¬ ig F r.2.1 r.2.2.1->Fo (F++[r])
theorem Fo.ne{F:Y bB}(h:Fo F):∀r∈F,r.2.1≠r.2.2.1:=by
 induction h with
 |nil=>intro r h;cases h
 |@snoc F r _ a b=>
  intro x hx e;rcases List.mem_append.mp hx with hx|hx
  ·exact b x hx e
  ·cases List.mem_singleton.mp hx;exact a ⟨[],e⟩
theorem Tr.mono{F G:Y bB}:∀{p:Y bB} {x y:AJ},Tr F x p y->(∀r∈p,r∈G)->Tr G x p y
 |[],_,_,h,_=>h
 |r::p,_,_,⟨_,t,e,h⟩,hg=>⟨hg r (zh ..),t,e,h.mono λz a=>hg z (zi _ a)⟩
theorem Tr.mem{F:Y bB}:∀{p:Y bB} {x y:AJ},Tr F x p y->∀r∈p,r∈F
 |[],_,_,_,_,h=>by cases h
 |r::p,_,_,⟨m,_,_,h⟩,z,a=>by
  rcases List.mem_cons.mp a with rfl|a
  ·exact m
  ·exact h.mem z a
theorem Tr.cut{F:Y bB}:∀{p1:Y bB} {r:bB} {p2:Y bB} {x y:AJ},Tr F x (p1++r::p2) y->∃a b,Tr F x p1 a/\aX r a=Z b/\Tr F b p2 y
 |[],_,_,x,_,⟨_,t,e,h⟩=>⟨x,t,rfl,e,h⟩
 |q::p1,_,_,_,_,⟨m,t,e,h⟩=>by
  obtain⟨a,b,h1,h2,c⟩:=h.cut;exact⟨a,b,⟨m,t,e,h1⟩,h2,c⟩
theorem Nc{F:Y bB}(h:Fo F):∀{s e:AJ} {p q:Y bB},Tr F s p e->Tr F s q e->p.Nodup->q.Nodup->p=q:=by
 induction h with
 |nil=>
  intro s e p q hp l _ _;cases p with
  |nil=>cases q with
   |nil=>rfl
   |cons _ _=>cases l.1
  |cons _ _=>cases hp.1
 |@snoc F r D y w=>
  have j:=D.ne;have n:∀{s e:AJ} {p:Y bB},Tr (F++[r]) s p e->p.Nodup->Tr F s p e\/∃p1 p2 a b,p=p1++r::p2/\Tr F s p1 a/\aX r a=Z b/\Tr F b p2 e/\p1.Nodup/\p2.Nodup:=by
   intro s e p hp nd;by_cases C:r∈p
   ·obtain⟨p1,p2,rfl⟩:=kM C;obtain⟨a,b,t1,t2,t3⟩:=hp.cut;obtain⟨m,x,E⟩:=List.nodup_append.mp nd;obtain⟨I,G⟩:=List.nodup_cons.mp x;refine .inr ⟨p1,p2,a,b,rfl,t1.mono λz f=>?_,t2,t3.mono λz f=>?_,m,G⟩
    ·rcases List.mem_append.mp (t1.mem z f)with h|h
     ·exact h
     ·cases List.mem_singleton.mp h;exact absurd Y3 (E _ f _ (zh ..))
    ·rcases List.mem_append.mp (t3.mem z f)with h|h
     ·exact h
     ·cases List.mem_singleton.mp h;exact absurd f I
   ·refine .inl (hp.mono λz f=>?_);rcases List.mem_append.mp (hp.mem z f)with h|h
    ·exact h
    ·cases List.mem_singleton.mp h;exact absurd f C
  have A:∀{a b:AJ},aX r a=Z b->ig F a b->False:=λ{a b} h c=>by
   rcases nA h with⟨h1,h2⟩|⟨h1,h2⟩
   ·exact y (h1▸h2▸c)
   ·exact y ((h1▸h2▸c.symm j))
  have B:∀{s e:AJ} {p1 p2:Y bB} {a b:AJ},Tr F s p1 a->aX r a=Z b->Tr F b p2 e->ig F s e->False:=λt1 t2 t3 c=>
   A t2 ((ig.symm j ⟨_,t1⟩).trans (c.trans (ig.symm j ⟨_,t3⟩)))
  intro s e p q hp l np v;rcases n hp np with h1|⟨p1,p2,a,b,rfl,t1,t2,t3,m,x⟩
  ·rcases n l v with h2|⟨q1,q2,c,d,rfl,i,g,u,_,_⟩
   ·exact w h1 h2 np v
   ·exact(B i g u ⟨_,h1⟩).elim
  ·rcases n l v with h2|⟨q1,q2,c,d,rfl,i,g,u,J,K⟩
   ·exact(B t1 t2 t3 ⟨_,h2⟩).elim
   ·by_cases o:a=c
    ·subst o;have:b=d:=Q1 (t2.symm.trans g);subst this;rw[w t1 i m J,w t3 u x K]
    ·exfalso;have H:c=b:=by
      rcases nA t2 with⟨x1,t⟩|⟨x1,t⟩<;>rcases nA g with⟨y1,y2⟩|⟨y1,y2⟩
      ·exact absurd (x1.symm.trans y1) o
      ·exact y1.symm.trans t
      ·exact y1.symm.trans t
      ·exact absurd (x1.symm.trans y1) o
     subst H;exact A t2 ((ig.symm j ⟨_,t1⟩).trans ⟨_,i⟩)
theorem B8{P:Y α->Prop}(h0:P [])(h1:∀l x,P l->P (l++[x]))(l:Y α):P l:=by
 have:∀m:Y α,P m.reverse:=λm=>by
  induction m with
  |nil=>exact h0
  |cons x m a=>rw[kC];exact h1 _ x a
 have:=this l.reverse;rwa [List.reverse_reverse]at this
theorem Hd.hb(nd:n_.Nodup)(c:n_.length<1000){rs:Y bB}:Rs n_ rs->Hd n_ (hb n_ rs):=by
 induction rs using B8 with
 |h0=>intro _;exact GB nd c
 |h1 rs r e=>
  intro a;obtain⟨d,f⟩:=a r (by simp);rw[uq];exact(e λz b=>a z (zg _ b)).join d f
theorem Of(nd:n_.Nodup)(g:n_.length<1000){pre:Y bB}:∀{a:Y bB},Rs n_ (pre++a)->∀x∈n_,∀y∈n_,look (hb n_ pre) x=look (hb n_ pre) y->look (hb n_ (pre++a)) x=look (hb n_ (pre++a)) y:=λ{a}=>by
 induction a using B8 with
 |h0=>intro _ x hx y b e;rw[ZO];exact e
 |h1 a r h=>
  intro d x hx y b e;rw[<-qa]at d ⊢;have c:Rs n_ (pre++a):=λz f=>d z (zg _ f);have H:=Hd.hb nd g c;rw[uq];unfold jb;rw[H.vP hx,H.vP b,h c x hx y b e]
theorem ae(nd:n_.Nodup)(f:n_.length<1000){rs:Y bB}(c:Rs n_ rs){r:bB}(h:r∈rs):look (hb n_ rs) r.2.1=look (hb n_ rs) r.2.2.1:=by
 obtain⟨a,d,rfl⟩:=kM h;have j:Rs n_ ((a++[r])++d):=λz b=>c z (by simpa using b);obtain⟨g,i⟩:=c r h;have e:a++r::d=(a++[r])++d:=by simp
 rw[e];refine Of nd f j _ g _ i ?_;have H:=Hd.hb nd f (rs:=a) λz b=>c z (zg _ b);rw[uq];unfold jb;rw[H.vP g,H.vP i];unfold jn;rw[zo (.inl Y3),zo (.inr Y3)]
theorem Hg{n_:AZ}(nd:n_.Nodup)(a:n_.length<1000){F:Y bB}(b:Rs n_ F):∀{p:Y bB} {x y:AJ},Tr F x p y->look (hb n_ F) x=look (hb n_ F) y
 |[],_,_,h=>by cases h;rfl
 |r::p,_,_,⟨m,t,e,h⟩=>by
  rw[<-Hg nd a b h];have:=ae nd a b m;rcases nA e with⟨h1,h2⟩|⟨h1,h2⟩
  ·rw[<-h1,<-h2];exact this
  ·rw[<-h1,<-h2];exact this.symm
structure HI (n_:AZ) (m:List (Str×Str)) (hd:List bB):Prop where
 h:Hd n_ m
 e2:m=hb n_ hd
 rs:Rs n_ hd
 len:hd.length+(Tf n_ m).length=n_.length
 fo:Fo hd
theorem GH(nd:n_.Nodup)(a:n_.length<1000):HI n_ (aU n_) []:=by
 refine⟨GB nd a,rfl,λr h=>(by cases h),?_,.nil⟩;unfold Tf;rw[(wF n_ nd a).2,List.filter_eq_self.mpr λx hx=>z4 (wG nd hx)];simp
def hs(s:(Y (AJ×AJ))×(Y bB))(r:bB):(Y (AJ×AJ))×(Y bB):=if look s.1 r.2.1=look s.1 r.2.2.1 then s else(jb s.1 r,s.2++[r])
theorem Xd(nd:n_.Nodup)(g:n_.length<64){s:(Y (AJ×AJ))×(Y bB)}(i:HI n_ s.1 s.2){r:bB}(a:r.2.1∈n_)(b:r.2.2.1∈n_):
  jO s r/\dN s r=hs s r/\HI n_ (hs s r).1 (hs s r).2:=by
 obtain⟨m,d⟩:=s;have i:HI n_ m d:=i;have j:=Vg (look m r.2.1) (look m r.2.2.1) i.h.kn i.h.ml;have f:=i.len;have fl:d.length<=1000000:=by omega
 refine⟨⟨i.h.has a,i.h.has b,λ_=>⟨j.1,fl⟩⟩,?_⟩;unfold dN hs;dsimp only;rw[j.2];by_cases e:look m r.2.1=look m r.2.2.1
 ·exact⟨by simp[e],by simp only[e,qA];exact i⟩
 ·refine⟨by simp[e,jb],?_⟩;rw[zw e];refine⟨i.h.join a b,?_,?_,?_,.snoc i.fo λ⟨p,c⟩=>?_⟩
  ·rw[uq,<-i.e2]
  ·intro x hx;rcases List.mem_append.mp hx with hx|hx
   ·exact i.rs x hx
   ·cases List.mem_singleton.mp hx;exact⟨a,b⟩
  ·have:=i.h.aaI a b e;show(d++[r]).length+(Tf n_ (jm m _ _)).length=_;rw[zD];show _+1+_=_;omega
  ·exact e (i.e2▸Hg nd (by omega) i.rs c)
theorem wH{n_:AZ}(nd:n_.Nodup)(d:n_.length<64):∀(a:Y bB) (s:(Y (AJ×AJ))×(Y bB)),Rs n_ a->HI n_ s.1 s.2 →
  nZ (λ(c:(Y (AJ×AJ))×(Y bB)) (b:bB)=>(dN c b)) (λ(c:(Y (AJ×AJ))×(Y bB)) (b:bB)=>Z (jO c b)) a s ∧
  a.foldl (λ(c:(Y (AJ×AJ))×(Y bB)) (b:bB)=>(dN c b)) s=a.foldl hs s/\HI n_ (a.foldl hs s).1 (a.foldl hs s).2
 |[],s,_,i=>⟨trivial,rfl,i⟩
 |r::a,s,hr,i=>by
  obtain⟨e,hb⟩:=hr r (zh ..);obtain⟨f,e1,i'⟩:=Xd nd d i e hb;obtain⟨f1,g1,i2⟩:=wH nd d a (hs s r) (λx hx=>hr x (zi _ hx)) i';refine⟨⟨f,?_⟩,?_,i2⟩
  ·show nZ _ _ a (dN s r);rw[e1];exact f1
  ·rw[qi,e1];exact g1
def held(n_:AZ)(rs:Y bB):Y bB:=(rs.foldl hs (aU n_,[])).2
theorem S4(nd:n_.Nodup)(b:n_.length<64){rs:Y bB}(c:Rs n_ rs)(a:Y (AJ×AJ×Int)):
  lJ (n_,rs,a)/\gZ (n_,rs,a)=held n_ rs/\Rs n_ (held n_ rs)/\Fo (held n_ rs)/\(held n_ rs).length<=n_.length:=by
 obtain⟨f1,g1,i2⟩:=wH nd b rs (aU n_,[]) c (GH nd (by omega));have l:=(wF n_ nd (by omega)).1;have:=i2.len;exact⟨⟨l,f1⟩,congrArg Prod.snd g1,i2.rs,i2.fo,by show(rs.foldl hs (aU n_,[])).2.length<=_;omega⟩
theorem L4{n_:AZ}(nd:n_.Nodup)(a:n_.length<1000):∀(rs:Y bB) (m:Y (AJ×AJ)),Rs n_ rs->Hd n_ m->Do n_ m->Do n_ (rs.foldl jb m)
 |[],m,_,_,l=>l
 |r::rs,m,hr,h,l=>by
  obtain⟨b,hb⟩:=hr r (zh ..);exact L4 nd a rs (jb m r) (λx hx=>hr x (zi _ hx)) (h.join b hb) (l.jb h r)
theorem IG(h:Hd n_ m)(z:AJ):nj m z/\jH m z=n_.filter λy=>decide (look m y=z):=by
 have l:=h.len;refine⟨⟨by rw[h.keys];omega,λy a=>h.has (by rw[<-h.keys];exact a)⟩,?_⟩;unfold jH;rw[h.keys];exact List.map_id' _
def pt(n_:AZ)(m:Y (AJ×AJ))(x:AJ):AZ:=n_.filter λy=>decide (look m y=look m x)
def st(n_:AZ)(m:Y (AJ×AJ)):Y AZ:=(n_.filter λw=>decide (look m w=w)).map (pt n_ m)
theorem Sb(h:Hd n_ m):lF m/\fQ m=st n_ m:=by
 have l:=h.len;refine⟨⟨by rw[h.keys];omega,λw a=>⟨h.has (by rw[<-h.keys];exact a),λ_=>(IG h w).1⟩⟩,?_⟩;unfold fQ st;rw[h.keys];refine QR λw a=>?_;have e:look m w=w:=QI (List.mem_filter.mp a).2;rw[(IG h w).2];unfold pt;rw[e]
def tn(q:bB):bB:=((0:Int)-q.1,q.2.1,q.2.2.1,q.2.2.2)
theorem GU(q:bB):tn (tn q)=q:=by
 obtain⟨a,b,c,d⟩:=q;show((0:Int)-(0-a),b,c,d)=_;rw[show(0:Int)-(0-a)=a by omega]
theorem Hh(rs:Y bB):(rs.map tn).map tn=rs:=by
 rw[QE];exact(QR (g:=id) λq _=>GU q).trans (Ki _)
def So(rs:Y bB):Prop:=(rs.map tn).Pairwise λa b=>WX (HN eI eS eS eI) a b=true
theorem LG(rs:Y bB):aA rs=(gC (HN eI eS eS eI) (rs.map tn)).map tn:=rfl
theorem Vj(rs:Y bB):So (aA rs):=by
 unfold So;rw[LG,Hh];exact qg _
theorem g8(rs:Y bB):(aA rs).Perm rs:=by
 rw[LG];have:=((fD (e:=HN eI eS eS eI) (rs.map tn)).map tn);rwa [Hh]at this
theorem HK{a b:Y bB}(p:a.Perm b)(c:So a)(hb:So b):a=b:=by
 have h:a.map tn=b.map tn:=(Gk (e:=HN eI eS eS eI) (p.map tn) c).trans (Gk (e:=HN eI eS eS eI) (.refl _) hb).symm;have:=congrArg (List.map tn) h;rwa [Hh,Hh]at this
theorem Tj{α:Type}[DecidableEq α]:∀{xs ys:Y α},xs.Nodup->(∀x∈xs,x∈ys)->xs.length<=ys.length
 |[],_,_,_=>QO _
 |x::xs,ys,nd,h=>by
  obtain⟨b,c⟩:=List.nodup_cons.mp nd;have hx:=h x (zh ..);have:=Tj (ys:=ys.erase x) c λz a=>(List.mem_erase_of_ne (λe:z=x=>b (e▸a))).mpr (h z (zi _ a));rw[List.length_erase_of_mem hx]at this;have:=k4 hx;rw[ZN];omega
abbrev Cm:=Y (AJ×(S aD))
inductive Bk (F:List bB) (s:Str):Cm->Prop
 |base:Bk F s [(s,none)]
 |snoc {L:Cm} {x:Str} {r:bB} {y:Str}:Bk F s L->x∉L.map (·.1)->r∈F->aX r x=some y->y∈L.map (·.1)->Bk F s (L++[(x,some r)])
theorem Bk.facts{F:Y bB}{s:AJ}(e:Rs n_ F)(hs:s∈n_){L:Cm}(h:Bk F s L):(L.map (·.1)).Nodup/\(∀x∈L.map (·.1),x∈n_)/\s∈L.map (·.1):=by
 induction h with
 |base=>exact⟨List.nodup_cons.mpr ⟨λz=>(by cases z),JI⟩,λx hx=>by cases List.mem_singleton.mp hx;exact hs,List.mem_singleton.mpr rfl⟩
 |@snoc L x r y h hx m o i g=>
  obtain⟨i1,i2,f⟩:=g;rw[qh];refine⟨List.nodup_append.mpr ⟨i1,List.nodup_cons.mpr ⟨λz=>(by cases z),JI⟩,λa d b hb z=>?_⟩,λz c=>?_,zg _ f⟩
  ·cases List.mem_singleton.mp hb;have z:a=x:=z;rw[z]at d;exact hx d
  ·rcases List.mem_append.mp c with c|c
   ·exact i2 z c
   ·cases List.mem_singleton.mp c;rcases nA o with⟨h1,_⟩|⟨h1,_⟩
    ·show x∈n_;rw[<-h1];exact(e r m).1
    ·show x∈n_;rw[<-h1];exact(e r m).2
theorem Bk.len{F:Y bB}{s:AJ}(a:Rs n_ F)(hs:s∈n_){L:Cm}(h:Bk F s L):L.length<=n_.length:=by
 obtain⟨h1,h2,_⟩:=h.facts a hs;have:=Tj h1 h2;rwa [zr]at this
theorem S3{L:Cm}{v:S bB}(h:x∉L.map (·.1)):put L x v=L++[(x,v)]:=by
 unfold put;rw[zw λz=>h (nu.mp z)]
theorem DV{n_:AZ}{F:Y bB}{s:AJ}(u:Rs n_ F)(hs:s∈n_)(A:n_.length<64)(v:∀r∈F,r.2.1≠r.2.2.1){here:AJ}:∀(R:Y bB),(∀r∈R,r∈F)->∀(L:Cm) (q:AZ),Bk F s L->here∈L.map (·.1)->q.length<=L.length →
  nZ (λ(f:Cm×AZ) (a:aD)=>(dM here f a)) (λ(f:Cm×AZ) (a:aD)=>Z (gK here f a)) R (L,q) ∧
  ∃g ad,R.foldl (λ(f:Cm×AZ) (a:aD)=>(dM here f a)) (L,q)=(g,q++ad)/\g.map (·.1)=L.map (·.1)++ad/\Bk F s g/\∀r∈R,∀y,aX r here=Z y->y∈g.map (·.1)
 |[],_,L,q,b,_,_=>⟨trivial,L,[],by rw[ZO];rfl,by rw[ZO],b,λr h=>(by cases h)⟩
 |r::R,hR,L,q,b,hh,hq=>by
  have p:=hR r (zh ..);have C:=b.len u hs;have n:∀(j:Cm) (a1:AZ),dM here (L,q) r=(j,q++a1)->gK here (L,q) r->j.map (·.1)=L.map (·.1)++a1->Bk F s j->(∀y,aX r here=Z y->y∈j.map (·.1))->(q++a1).length<=j.length->(nZ (λ(f:Cm×AZ) (a:aD)=>(dM here f a)) (λ(f:Cm×AZ) (a:aD)=>Z (gK here f a)) (r::R) (L,q)/\∃g ad,(r::R).foldl (λ(f:Cm×AZ) (a:aD)=>(dM here f a)) (L,q)=(g,q++ad)/\g.map (·.1)=L.map (·.1)++ad/\Bk F s g/\∀z∈r::R,∀y,aX z here=Z y->y∈g.map (·.1)):=λj a1 e d k b1 c B=>by
   obtain⟨i1,g,ad,i2,o,w,x⟩:=DV u hs A v R (λz l=>hR z (zi _ l)) j (q++a1) b1 (by rw[k];exact zg _ hh) B;refine⟨⟨d,by show nZ _ _ R (dM here (L,q) r);rw[e];exact i1⟩,g,a1++ad,?_,?_,w,λz l y i=>?_⟩
   ·rw[qi,e,i2,qa]
   ·rw[o,k,qa]
   ·rcases List.mem_cons.mp l with rfl|l
    ·rw[o];exact zg _ (c y i)
    ·exact x z l y i
  cases ho:aX r here with
  |none=>
   refine n L [] ?_ ?_ (by rw[ZO]) b (λy i=>by rw[ho]at i;cases i) (by rw[ZO];exact hq)
   ·unfold dM;dsimp only;rw[ho,ZO];rfl
   ·unfold gK;dsimp only;rw[ho];exact⟨λz=>z,λz=>(by cases z)⟩
  |some t=>
   by_cases m:t∈L.map (·.1)
   ·have c:(!has L t)=false:=by rw[nu.mpr m];rfl
    refine n L [] ?_ ?_ (by rw[ZO]) b (λy i=>by rw[ho]at i;cases i;exact m) (by rw[ZO];exact hq)
    ·unfold dM;dsimp only;rw[ho,ZO,show(!has L ((Z t).getD default))=false from c];rfl
    ·unfold gK;dsimp only;rw[ho,show(!has L ((Z t).getD default))=false from c];exact⟨λz=>z,λz=>(by cases z)⟩
   ·have c:(!has L t)=true:=by
     cases q:has L t with
     |false=>rfl
     |true=>exact absurd (nu.mp q) m
    refine n (L++[(t,Z r)]) [t] ?_ ?_ (by rw[qh];rfl) (.snoc b m p (Vi (v r p) ho) hh) (λy i=>by rw[ho]at i;cases i;rw[qh];exact Zs _ (List.mem_singleton.mpr Y3)) (by rw[zD,zD];show _+1<=_+1;omega)
    ·unfold dM;dsimp only;rw[ho,show(!has L ((Z t).getD default))=true from c];show(put L t (Z r),q++[t])=_;rw[S3 m]
    ·unfold gK;dsimp only;rw[ho];exact⟨λz=>z,λ_=>⟨⟨rfl,by omega⟩,rfl,jB (by show q.length<=1000;omega)⟩⟩
structure Iq (F:List bB) (s:Str) (q:AZ) (L:Cm):Prop where
 b:Bk F s L
 sub:∀x∈q,x∈L.map (·.1)
 len:q.length<=L.length
 cl:∀x∈L.map (·.1),x∉q->∀r∈F,∀y,aX r x=some y->y∈L.map (·.1)
theorem outer{n_:AZ}{F:Y bB}{s:AJ}(g:Rs n_ F)(hs:s∈n_)(j:n_.length<64)(l:∀r∈F,r.2.1≠r.2.2.1):∀(n:Nat) (q:AZ) (L:Cm),Iq F s q L->n_.length-L.length+q.length<n->∃f,Iq F s [] f ∧
  JX (λa:AZ×Cm=>(!a.1.isEmpty)) (λa:AZ×Cm=>((gM F a):j4 (AZ×Cm) (S (Y aD)))) n (q,L)=.nx ([],f) ∧
  DU (λa:AZ×Cm=>(!a.1.isEmpty)) (λa:AZ×Cm=>O) (λa:AZ×Cm=>((gM F a):j4 (AZ×Cm) (S (Y aD)))) (λa:AZ×Cm=>Z (q9 F a)) n (q,L)
 |0,_,_,_,h=>by omega
 |n+1,[],L,i,_=>⟨L,i,rfl,trivial,λz=>(by cases z)⟩
 |n+1,h::q,L,i,hm=>by
  have A:=i.sub h (zh ..);have t:=i.len;rw[ZN]at t hm;obtain⟨d,f,ad,e,k,b,c⟩:=DV g hs j l (here:=h) F (λr h=>h) L q i.b A (by omega);have C:f.length=L.length+ad.length:=by
   have:=congrArg List.length k;rwa [zD,zr,zr]at this
  have D:=b.len g hs;have i':Iq F s (q++ad) f:=by
   refine⟨b,λx hx=>?_,by rw[zD];omega,λx hx m=>?_⟩
   ·rw[k];rcases List.mem_append.mp hx with hx|hx
    ·exact zg _ (i.sub x (zi _ hx))
    ·exact Zs _ hx
   ·rw[k]at hx;rcases List.mem_append.mp hx with hx|hx
    ·by_cases o:x=h
     ·subst o;exact c
     ·intro r u y w;rw[k];refine zg _ (i.cl x hx (λz=>?_) r u y w);rcases List.mem_cons.mp z with z|z
      ·exact o z
      ·exact m (zg _ z)
    ·exact absurd (Zs _ hx) m
  have st:gM F (h::q,L)=.nx (q++ad,f):=by
   unfold gM;dsimp only;rw[show at' (h::q) (0:Int)=h from LR _ 0 (by simp),show(h::q).drop 1=q from rfl,e]
  obtain⟨p,i2,v,B⟩:=outer g hs j l n (q++ad) f i' (by rw[zD];omega);refine⟨p,i2,?_,trivial,λ_=>⟨?_,?_⟩⟩
  ·unfold JX;rw[zo (show(!(h::q,L).1.isEmpty)=true from Y3),st];exact v
  ·show q9 F (h::q,L);refine⟨⟨rfl,by show 0<(h::q).length;simp⟩,?_⟩;dsimp only;rw[show at' (h::q) (0:Int)=h from LR _ 0 (by simp)];exact d
  ·dsimp only;rw[st];exact B
theorem back{F:Y bB}{s:AJ}(H:∀r∈F,r.2.1≠r.2.2.1){L:Cm}(h:Bk F s L):(L.map (·.1)).Nodup->∀x∈L.map (·.1),∃w,Tr F x w s/\w.Nodup/\(∀r∈w,r.2.1∈L.map (·.1)/\r.2.2.1∈L.map (·.1))/\w.length<L.length ∧
  ∀(a:Cm),(∀k∈L.map (·.1),look a k=look L k/\has a k=true)->∀(n:Nat) (c:Y bB),w.length<n->c.length+w.length<=100 →
   JX (λd:(Y aD)×AJ=>(look a d.2).isSome) (λd:(Y aD)×AJ=>((eY a d):j4 ((Y aD)×AJ) (Y aD))) n (c,x)=.nx (c++w,s) ∧
   DU (λd:(Y aD)×AJ=>(look a d.2).isSome) (λd:(Y aD)×AJ=>Z (has a d.2=true)) (λd:(Y aD)×AJ=>((eY a d):j4 ((Y aD)×AJ) (Y aD))) (λd:(Y aD)×AJ=>Z (jJ a d)) n (c,x):=by
 induction h with
 |base=>
  intro _ x hx;cases List.mem_singleton.mp hx;refine⟨[],rfl,JI,λr h=>(by cases h),Nat.zero_lt_succ _,λa h2 n c i _=>?_⟩;obtain⟨l,g⟩:=h2 s (List.mem_singleton.mpr Y3);have l:look a s=O:=l.trans (z8 (pre:=[]) (AS:=[]) (λz=>by cases z));cases n with
  |zero=>cases i
  |succ n=>
   refine⟨?_,g,λz=>?_⟩
   ·unfold JX;rw[zw (by show ¬ (look a s).isSome=true;rw[l];decide),ZO]
   ·have z:(look a s).isSome=true:=z;rw[l]at z;cases z
 |@snoc L y r z b p m o j v=>
  intro nd x hx;rw[qh]at nd hx ⊢;have A:=(List.nodup_append.mp nd).1;have u:∀k∈L.map (·.1),look (L++[(y,Z r)]) k=look L k:=λk e=>by
   have:=J6 e;have h1:(k,look L k)∈L++[(y,Z r)]:=zg _ this;exact Dv (m:=L++[(y,Z r)]) (by rw[qh];exact nd) h1
  rcases List.mem_append.mp hx with hx|hx
  ·obtain⟨w,t1,t2,t3,C,t⟩:=v A x hx;refine⟨w,t1,t2,λq f=>⟨zg _ (t3 q f).1,zg _ (t3 q f).2⟩,by rw[zD];omega,λa h2=>t a λk e=>?_⟩;obtain⟨a1,a2⟩:=h2 k (zg _ e);exact⟨a1.trans (u k e),a2⟩
  ·have ex:x=y:=List.mem_singleton.mp hx;subst ex;obtain⟨w,t1,t2,t3,C,t⟩:=v A z j;have B:r∉w:=λq=>by
    obtain⟨a1,a2⟩:=t3 r q;rcases nA o with⟨h1,_⟩|⟨h1,_⟩
    ·exact p (h1▸a1)
    ·exact p (h1▸a2)
   refine⟨r::w,⟨m,z,o,t1⟩,List.nodup_cons.mpr ⟨B,t2⟩,λq f=>?_,by rw[zD,ZN];show _+1<_+1;omega,λa h2 n c i G=>?_⟩
   ·rcases List.mem_cons.mp f with rfl|f
    ·rcases nA o with⟨h1,h2⟩|⟨h1,h2⟩
     ·exact⟨Zs _ (by rw[h1];exact List.mem_singleton.mpr Y3),zg _ (by rw[h2];exact j)⟩
     ·exact⟨zg _ (by rw[h2];exact j),Zs _ (by rw[h1];exact List.mem_singleton.mpr Y3)⟩
    ·exact⟨zg _ (t3 q f).1,zg _ (t3 q f).2⟩
   ·obtain⟨l,g⟩:=h2 x (Zs _ (List.mem_singleton.mpr Y3));have l:look a x=Z r:=l.trans (z8 (pre:=L) (AS:=[]) p);rw[ZN]at i G;cases n with
    |zero=>cases i
    |succ n=>
     have st:eY a (c,x)=.nx (c++[r],z):=by
      unfold eY;dsimp only;rw[l];show j4.nx (c++[r],(aX r x).getD default)=_;rw[o];rfl
     obtain⟨E,D⟩:=t a (λk e=>by
      obtain⟨a1,a2⟩:=h2 k (zg _ e);exact⟨a1.trans (u k e),a2⟩) n (c++[r]) (by omega) (by rw[zD];show _+1+_<=100;omega)
     refine⟨?_,g,λ_=>⟨?_,?_⟩⟩
     ·unfold JX;rw[zo (by show(look a x).isSome=true;rw[l];rfl),st];show JX _ _ n (c++[r],z)=_;rw[E,qa];rfl
     ·show jJ a (c,x);unfold jJ;dsimp only;rw[l];exact⟨⟨⟨g,rfl⟩,jB (by show c.length<=1000;omega)⟩,⟨g,rfl⟩,by show(aX r x).isSome=true;rw[o];rfl⟩
     ·dsimp only;rw[st];exact D
theorem Vk{F:Y bB}(d:Rs n_ F)(C:n_.length<64)(f:∀r∈F,r.2.1≠r.2.2.1){s e:AJ}(hs:s∈n_):jK F s e/\(∀p,dU F s e=Z p->Tr F s p e/\p.Nodup)/\(dU F s e=O->¬ ig F s e):=by
 have l:Iq F s [s] [(s,O)]:=⟨.base,λx hx=>hx,zk _,λx hx G=>absurd hx G⟩;obtain⟨L,i,D,g⟩:=outer d hs C f 70 [s] [(s,O)] l (by show n_.length-1+1<70;omega);have I:0<n_.length:=k4 hs;obtain⟨f1,f2,A⟩:=i.b.facts d hs;have J:=i.b.len d hs;have v:∀{p:Y bB} {x y:AJ},Tr F x p y->x∈L.map (·.1)->y∈L.map (·.1):=by
  intro p
  induction p with
  |nil=>intro x y h hx;cases h;exact hx
  |cons r p E=>
   intro x y h hx;obtain⟨m,t,o,h⟩:=h;exact E h (i.cl x hx (λz=>by cases z) r m t o)
 unfold jK dU;dsimp only;rw[D];by_cases a:e∈L.map (·.1)
 ·have c:(!has L e)=false:=by rw[nu.mpr a];rfl
  obtain⟨w,t1,t2,t3,K,H⟩:=back f i.b f1 e a;obtain⟨j,B⟩:=H L (λk u=>⟨rfl,nu.mpr u⟩) 70 [] (by omega) (by show 0+_<=100;omega);have tb:iZ L e=w:=by
   unfold iZ;dsimp only;rw[j];rfl
  have n:qu L e:=by
   unfold qu;dsimp only;rw[j];exact⟨B,trivial⟩
  refine⟨⟨g,λ_=>n⟩,λp hp=>?_,λh=>?_⟩
  ·have hp:(if(!has L e)=true then O else(Z (iZ L e).reverse))=Z p:=hp;rw[c,zw (by decide),tb]at hp;cases hp;exact⟨t1.rev f,(List.reverse_perm w).nodup_iff.mpr t2⟩
  ·have h:(if(!has L e)=true then O else(Z (iZ L e).reverse))=O:=h;rw[c,zw (by decide)]at h;cases h
 ·have c:(!has L e)=true:=by
   cases q:has L e with
   |false=>rfl
   |true=>exact absurd (nu.mp q) a
  refine⟨⟨g,λz=>?_⟩,λp hp=>?_,λ_ ⟨p,h⟩=>a (v h A)⟩
  ·rw[c]at z;cases z
  ·have hp:(if(!has L e)=true then O else(Z (iZ L e).reverse))=Z p:=hp;rw[c,zo rfl]at hp;cases hp
theorem MH(r:bB):aX r r.2.1=Z r.2.2.1:=by
 unfold aX;rw[z4 rfl,zo rfl]
theorem ig.more{F G:Y bB}(h:∀r∈F,r∈G):ig F x y->ig G x y:=λ⟨p,t⟩=>⟨p,t.mono λz a=>h z (t.mem z a)⟩
theorem bo(nd:N.Nodup)(i:N.length<1000){rs:Y bB}:Rs N rs->(∀r∈rs,r.2.1≠r.2.2.1)->∀x∈N,∀y∈N,look (hb N rs) x=look (hb N rs) y->ig rs x y:=by
 induction rs using B8 with
 |h0=>
  intro _ _ x hx y c h;have e:hb N []=aU N:=rfl;rw[e,(wF N nd i).2,wG nd hx,wG nd c]at h;exact⟨[],h⟩
 |h1 rs r b=>
  intro m f x hx y c h;have g:Rs N rs:=λz a=>m z (zg _ a);have b:=b g λz a=>f z (zg _ a);have H:=Hd.hb nd i g;have l:r∈rs++[r]:=by simp
  obtain⟨q,o⟩:=m r l;rw[uq]at h;unfold jb at h;rw[H.vP hx,H.vP c]at h;have d:∀{u v:AJ},ig rs u v->ig (rs++[r]) u v:=ig.more λz a=>zg _ a;have p:ig (rs++[r]) r.2.1 r.2.2.1:=⟨[r],l,_,MH r,rfl⟩;have j:∀u∈N,look (hb N rs) u=look (hb N rs) r.2.1\/look (hb N rs) u=look (hb N rs) r.2.2.1->ig (rs++[r]) u r.2.1:=λu n z=>by
   rcases z with z|z
   ·exact d (b u n _ q z)
   ·exact(d (b u n _ o z)).trans (p.symm f)
  by_cases px:look (hb N rs) x=look (hb N rs) r.2.1\/look (hb N rs) x=look (hb N rs) r.2.2.1<;>by_cases py:look (hb N rs) y=look (hb N rs) r.2.1\/look (hb N rs) y=look (hb N rs) r.2.2.1
  ·exact(j x hx px).trans ((j y c py).symm f)
  ·unfold jn at h;rw[zo px,zw py]at h;rcases J7 (look (hb N rs) r.2.1) (look (hb N rs) r.2.2.1)with e|e
   ·exact absurd (.inl (h.symm.trans e)) py
   ·exact absurd (.inr (h.symm.trans e)) py
  ·unfold jn at h;rw[zw px,zo py]at h;rcases J7 (look (hb N rs) r.2.1) (look (hb N rs) r.2.2.1)with e|e
   ·exact absurd (.inl (h.trans e)) px
   ·exact absurd (.inr (h.trans e)) px
  ·unfold jn at h;rw[zw px,zw py]at h;exact d (b x hx y c h)
theorem nC(nd:N.Nodup)(a:N.length<1000){rs:Y bB}(b:Rs N rs)(d:∀r∈rs,r.2.1≠r.2.2.1)(hx:x∈N)(c:y∈N):look (hb N rs) x=look (hb N rs) y↔ig rs x y:=
 ⟨bo nd a b d x hx y c,λ⟨_,t⟩=>Hg nd a b t⟩
theorem Bl:∀(rs:Y bB) (s:(Y (AJ×AJ))×(Y bB)),∃t:Y bB,(rs.foldl hs s).2=s.2++t/\t.Sublist rs
 |[],s=>⟨[],by rw[ZO];rfl,.slnil⟩
 |r::rs,s=>by
  rw[qi];by_cases z:look s.1 r.2.1=look s.1 r.2.2.1
  ·rw[show hs s r=s from zo z];obtain⟨t,e,h⟩:=Bl rs s;exact⟨t,e,h.cons _⟩
  ·rw[show hs s r=(jb s.1 r,s.2++[r]) from zw z];obtain⟨t,e,h⟩:=Bl rs (jb s.1 r,s.2++[r]);exact⟨r::t,by rw[e];simp,h.cons_cons _⟩
theorem Hi(N:AZ)(rs:Y bB):(held N rs).Sublist rs:=by
 obtain⟨t,e,h⟩:=Bl rs (aU N,[]);unfold held;rw[e];exact h
theorem G2(N:AZ)(nd:N.Nodup)(b:N.length<1000){rs:Y bB}:(rs.foldl hs (aU N,[])).1=hb N rs:=by
 induction rs using B8 with
 |h0=>rfl
 |h1 rs r a=>
  rw[kU,uq,<-a];show(hs (rs.foldl hs (aU N,[])) r).1=_;by_cases z:look (rs.foldl hs (aU N,[])).1 r.2.1=look (rs.foldl hs (aU N,[])).1 r.2.2.1
  ·rw[show hs (rs.foldl hs (aU N,[])) r=_ from zo z];unfold jb;rw[z,US]
  ·rw[show hs (rs.foldl hs (aU N,[])) r=_ from zw z]
theorem J9(nd:N.Nodup)(a:N.length<1000)(rs:Y bB)(r:bB):held N (rs++[r])=if look (hb N rs) r.2.1=look (hb N rs) r.2.2.1 then held N rs else held N rs++[r]:=by
 unfold held;rw[kU,<-G2 N nd a];show(hs (rs.foldl hs (aU N,[])) r).2=_;unfold hs;split<;>rfl
def On(N:AZ)(r:bB):Prop:=(r.2.1∈N/\r.2.2.1∈N)/\r.2.1≠r.2.2.1
def Ok(N:AZ)(G:Y bB):Prop:=∀r∈G,On N r
structure Nn (N:AZ):Prop where
 nd:N.Nodup
 hl:N.length<64
theorem Nn.l3(n:Nn N):N.length<1000:=by have:=n.hl;omega
theorem Ok.rs{G:Y bB}(h:Ok N G):Rs N G:=λr a=>(h r a).1
theorem Ok.ne{G:Y bB}(h:Ok N G):∀r∈G,r.2.1≠r.2.2.1:=λr a=>(h r a).2
theorem ig.refl(G:Y bB)(x:AJ):ig G x x:=⟨[],rfl⟩
theorem ig.one{G:Y bB}{r:bB}(h:r∈G):ig G r.2.1 r.2.2.1:=⟨[r],h,_,MH r,rfl⟩
theorem QD(n:Nn N){G:Y bB}{o:bB}(h:Ok N (G++[o]))(c:ig G o.2.1 o.2.2.1):held N (G++[o])=held N G:=by
 have a:Ok N G:=λz b=>h z (zg _ b);have ho:=h o (by simp);rw[J9 n.nd n.l3,zo ((nC n.nd n.l3 a.rs a.ne ho.1.1 ho.1.2).mpr c)]
theorem M5(n:Nn N){G:Y bB}{o:bB}(h:Ok N (G++[o]))(c:¬ ig G o.2.1 o.2.2.1):held N (G++[o])=held N G++[o]:=by
 have a:Ok N G:=λz b=>h z (zg _ b);have ho:=h o (by simp);rw[J9 n.nd n.l3,zw λz=>c ((nC n.nd n.l3 a.rs a.ne ho.1.1 ho.1.2).mp z)]
theorem M6{l G:Y bB}{a b:AJ}(h:∀z∈l,z∈G\/(z.2.1=a/\z.2.2.1=b)):∀{p:Y bB} {x y:AJ},Tr l x p y->ig G x y\/(ig G x a/\ig G b y)\/(ig G x b/\ig G a y)
 |[],x,y,t=>by cases t;exact .inl (.refl _ _)
 |r::p,x,y,⟨m,t,o,t'⟩=>by
  have e:=M6 h t';rcases h r m with g|⟨e1,e2⟩
  ·have c:ig G x t:=⟨[r],g,t,o,rfl⟩;rcases e with i|i|i
   ·exact .inl (c.trans i)
   ·exact .inr (.inl ⟨c.trans i.1,i.2⟩)
   ·exact .inr (.inr ⟨c.trans i.1,i.2⟩)
  ·rcases nA o with⟨f,d⟩|⟨f,d⟩
   ·have hx:x=a:=f.symm.trans e1;have j:t=b:=d.symm.trans e2;subst hx j;rcases e with i|i|i
    ·exact .inr (.inl ⟨.refl _ _,i⟩)
    ·exact .inr (.inl ⟨.refl _ _,i.2⟩)
    ·exact .inl i.2
   ·have hx:x=b:=f.symm.trans e2;have j:t=a:=d.symm.trans e1;subst hx j;rcases e with i|i|i
    ·exact .inr (.inr ⟨.refl _ _,i⟩)
    ·exact .inl i.2
    ·exact .inr (.inr ⟨.refl _ _,i.2⟩)
theorem QF(n:Nn N){rs:Y bB}(a:Rs N rs):(held N rs).length+(st N (hb N rs)).length=N.length:=by
 obtain⟨f1,g1,i2⟩:=wH n.nd n.hl rs (aU N,[]) a (GH n.nd n.l3);have:=i2.len;rw[G2 N n.nd n.l3]at this;unfold st;rw[zr];exact this
theorem TN(n:Nn N){rs:Y bB}(a:Rs N rs):hb N (held N rs)=hb N rs:=by
 obtain⟨f1,g1,i2⟩:=wH n.nd n.hl rs (aU N,[]) a (GH n.nd n.l3);have:=i2.e2;rw[G2 N n.nd n.l3]at this;exact this.symm
theorem a9(n:Nn N){rs:Y bB}(ok:Ok N rs)(hx:x∈N)(a:y∈N):ig (held N rs) x y↔ig rs x y:=by
 have b:Ok N (held N rs):=λr c=>ok r ((Hi N rs).subset c);rw[<-nC n.nd n.l3 b.rs b.ne hx a,<-nC n.nd n.l3 ok.rs ok.ne hx a,TN n ok.rs]
def DB(xs:Y Int)(a:AJ)(at_:Int)(k:Int):AJ:=if(decide (((at' xs 3)%3)=1))=true then(Txt.mul (ch LT (k / (8:Int))) (1+(k%8)))else(((Txt.slice a O (Z at_))++(ch LT ((k+(at' xs 2))%15)))++(Txt.slice a (Z at_) O))
theorem yt{α β:Type}(g:β->α):∀(l:Y β) (f:Y α),l.foldl (λf k=>f++[g k]) f=f++l.map g
 |[],f=>by simp
 |k::l,f=>by rw[qi,yt g l];simp
theorem OC(xs:Y Int)(a:Int):∃b at_,cJ xs a=(rng 0 a.toNat).map (DB xs b at_):=by
 refine⟨_,_,(yt (DB xs _ _) _ []).trans (Jn _)⟩
theorem Tn{a b m c:AJ}(h:(a++m)++b=(a++c)++b):m=c:=by
 have h:=congrArg (λs:AJ=>s.cps.toList) h;have h:((a.cps++m.cps)++b.cps).toList=((a.cps++c.cps)++b.cps).toList:=h;simp only[Array.toList_append]at h;have:=List.append_cancel_left (List.append_cancel_right h);cases m;cases c;congr 1;exact Array.ext' this
theorem OR:∀i:Fin 30,∀j:Fin 30,Txt.mul (ch LT ((i.val:Int) / 8)) (1+(i.val:Int)%8)=Txt.mul (ch LT ((j.val:Int) / 8)) (1+(j.val:Int)%8)->i=j:=by decide +kernel
theorem R1:∀i:Fin 15,∀j:Fin 15,ch LT (i.val:Int)=ch LT (j.val:Int)->i=j:=by decide +kernel
theorem NO{x y:Int}(hx:0<=x/\x<15)(a:0<=y/\y<15)(h:ch LT x=ch LT y):x=y:=by
 have:=R1 ⟨x.toNat,by omega⟩ ⟨y.toNat,by omega⟩ (by
  show ch LT ((x.toNat:Nat):Int)=ch LT ((y.toNat:Nat):Int);rw[Int.toNat_of_nonneg hx.1,Int.toNat_of_nonneg a.1];exact h)
 have:=congrArg Fin.val this;have:x.toNat=y.toNat:=this;omega
theorem UQ{xs:Y Int}{a:AJ}{at_:Int}(hi:i<15)(b:j<15)(h:DB xs a at_ i=DB xs a at_ j):i=j:=by
 unfold DB at h;by_cases e:(decide (((at' xs 3)%3)=1))=true
 ·rw[zo e,zo e]at h;exact congrArg Fin.val (OR ⟨i,by omega⟩ ⟨j,by omega⟩ h)
 ·rw[zw e,zw e]at h;have:=NO (iR _ (by decide)) (iR _ (by decide)) (Tn h);omega
theorem MZ{g:Int->AJ}(h:∀i j:Nat,i<n->j<n->g i=g j->i=j):((rng 0 n).map g).Nodup:=by
 unfold rng;rw[QE];unfold List.Nodup;rw[KM];refine K2 ?_ (ya (n:=n));intro a b c hb d e;refine d (h a b (List.mem_range.mp c) (List.mem_range.mp hb) ?_);have e:g (0+(a:Int))=g (0+(b:Int)):=e;rwa [Int.zero_add,Int.zero_add]at e
theorem Y1(xs:Y Int)(a:Int)(h:a<=15):(cJ xs a).Nodup:=by
 obtain⟨b,at_,e⟩:=OC xs a;rw[e];exact MZ λi j hi c=>UQ (by omega) (by omega)
def Lw(c:Nat):Prop:=97<=c/\c<=122
def Nm(s:AJ):Prop:=1<=s.length/\s.length<=8/\∀c∈cs s,Lw c
theorem NN{c:Nat}(h:Lw c):c∈cs LT:=by
 have:∀i:Fin 26,97+i.val∈cs LT:=by decide +kernel
 have:=this ⟨c-97,by unfold Lw at h;omega⟩;unfold Lw at h;rwa [show 97+(c-97)=c by omega]at this
theorem Vl{s:AJ}(h:Nm s):fL (.str s)=true:=by
 unfold fL jy;rw[show pY (.str s)=true from rfl,show Lx (.str s)=(s.length:Int) from rfl,z4 (show(1:Int)<=s.length by have:=h.1;omega),z4 (show(s.length:Int)<=8 by have:=h.2.1;omega)];show List.all _ id=true;rw[qo];intro b hb;obtain⟨d,e,rfl⟩:=List.mem_map.mp hb;obtain⟨c,a,rfl⟩:=List.mem_map.mp (show d∈P1.BI s from e);exact W2 (NN (h.2.2 c a))
theorem dQ(c:Nat)(n:Int)(h:1<=n):cs (Txt.mul ⟨#[c]⟩ n)=List.replicate n.toNat c:=by
 unfold Txt.mul;split
 ·omega
 split
 ·rename_i h;simp only[Kj,beq_iff_eq]at h;rcases h with h|h
  ·subst h;rfl
  ·cases h
 ·have:∀(k:Nat) (a:Array Nat),((List.replicate k (#[c]:Array Nat)).foldl (·++·) a).toList=a.toList++List.replicate k c:=by
   intro k
   induction k with
   |zero=>intro a;simp
   |succ k b=>
    intro a;rw[qr,qi,b,Array.toList_append,qr];simp
  exact(this _ _).trans (by simp)
theorem GA{i:Int}(h:0<=i/\i<26):ch LT i=⟨#[97+i.toNat]⟩:=by
 have:∀i:Fin 26,ch LT (i.val:Int)=⟨#[97+i.val]⟩:=by decide +kernel
 have:=this ⟨i.toNat,by omega⟩;rwa [show((⟨i.toNat,by omega⟩:Fin 26).val:Int)=i by show(i.toNat:Int)=i;omega]at this
theorem PU{i n:Int}(h:0<=i/\i<26)(h1:1<=n)(b:n<=8):Nm (Txt.mul (ch LT i) n):=by
 have e:=dQ (97+i.toNat) n h1;rw[<-GA h]at e;refine⟨?_,?_,λc a=>?_⟩
 ·rw[Gp,e,List.length_replicate];omega
 ·rw[Gp,e,List.length_replicate];omega
 ·rw[e]at a;rw[(List.mem_replicate.mp a).2];unfold Lw;omega
theorem NC{l:AZ}{c:Nat}(h:c∈cs (Txt.join "" l)):∃q∈l,c∈cs q:=by
 cases l with
 |nil=>cases h
 |cons p ps=>
  rw[P6]at h;rcases List.mem_append.mp h with h|h
  ·exact⟨p,zh ..,h⟩
  ·obtain⟨q,a,h⟩:=List.mem_flatMap.mp h;exact⟨q,zi _ a,h⟩
theorem Xe(xs:Y Int)(e:Int):∃(b:AJ) (at_:Int),(∀c∈cs b,Lw c)/\b.length<=5/\0<=at_/\at_<=(b.length:Int)/\cJ xs e=(rng 0 e.toNat).map (DB xs b at_):=by
 have g:=iR (at' xs 0) (m:=6) (by decide);have mem:∀x∈((rng 0 (at' xs 0%6).toNat).map λa:Int=>ch LT (at' xs a / 40%26)),x.length=1/\∀c∈cs x,Lw c:=λx hx=>by
  obtain⟨k,_,rfl⟩:=List.mem_map.mp hx;refine⟨Gn _ _,λc d=>?_⟩;rw[GA (iR _ (by decide))]at d;cases List.mem_singleton.mp d;have:=iR (at' xs k / 40) (m:=26) (by decide);unfold Lw;omega
 refine⟨Txt.join "" ((rng 0 (at' xs 0%6).toNat).map λa:Int=>ch LT (at' xs a / 40%26)),at' xs 1%(((Txt.join "" ((rng 0 (at' xs 0%6).toNat).map λa:Int=>ch LT (at' xs a / 40%26))).length:Int)+1),λc d=>?_,?_,?_,?_,(yt (DB xs _ _) _ []).trans (Jn _)⟩
 ·obtain⟨q,f,h⟩:=NC d;exact(mem q f).2 c h
 ·have:=MW _ 1 λx hx=>Nat.le_of_eq (mem x hx).1;rw[zr,zB]at this;omega
 ·exact(iR _ (by omega)).1
 ·have:=(iR (at' xs 1) (m:=((Txt.join "" ((rng 0 (at' xs 0%6).toNat).map λa:Int=>ch LT (at' xs a / 40%26))).length:Int)+1) (by omega)).2;omega
theorem N4{xs:Y Int}{a:AJ}{at_:Int}(h1:∀c∈cs a,Lw c)(h2:a.length<=5)(h:0<=at_)(j:at_<=(a.length:Int)){k:Int}(l:0<=k/\k<15):Nm (DB xs a at_ k):=by
 unfold DB;split
 ·exact PU (by omega) (by omega) (by omega)
 ·have g:=S0 (x:=a) (n:=at_.toNat) (by omega);have f:=O3 (x:=a) (n:=at_.toNat) (by omega);rw[Int.toNat_of_nonneg h]at g f;have c1:=GA (i:=(k+at' xs 2)%15) (by have:=iR (k+at' xs 2) (m:=15) (by decide);omega);have m:=iR (k+at' xs 2) (m:=15) (by decide);have e:cs ((Txt.slice a O (Z at_)++ch LT ((k+at' xs 2)%15))++Txt.slice a (Z at_) O)=((cs a).take at_.toNat++[97+((k+at' xs 2)%15).toNat])++(cs a).drop at_.toNat:=by
   rw[Mf,Mf,g,f,c1]
  have d:((Txt.slice a O (Z at_)++ch LT ((k+at' xs 2)%15))++Txt.slice a (Z at_) O).length=a.length+1:=by
   rw[Gp,e,zD,zD,ke,k8,<-Gp];show _+1+_=_;omega
  refine⟨by rw[d];omega,by rw[d];omega,λc b=>?_⟩;rw[e]at b;rcases List.mem_append.mp b with b|b
  ·rcases List.mem_append.mp b with b|b
   ·exact h1 c (List.mem_of_mem_take b)
   ·cases List.mem_singleton.mp b;unfold Lw;omega
  ·exact h1 c (List.mem_of_mem_drop b)
theorem ax(xs:Y Int)(a:Int)(h:a<=15):∀n∈cJ xs a,Nm n:=by
 obtain⟨g,at_,h1,h2,d,b,e⟩:=Xe xs a;rw[e];intro n f;obtain⟨k,c,rfl⟩:=List.mem_map.mp f;obtain⟨j,i,rfl⟩:=Ma c;exact N4 h1 h2 d b (by omega)
theorem M7{a b:Int}(c:0<=a/\a<n)(hb:0<=b/\b<n):In n (if b<a then b else a):=by split<;>exact B5 (by omega) (by omega)
theorem M8{a b:Int}(c:0<=a/\a<n)(hb:0<=b/\b<n):In n (if b>a then b else a):=by split<;>exact B5 (by omega) (by omega)
theorem Vm{a:Int}(b:n=a.toNat){x y:Int}(h:(!decide (x%(if a>1 then a else 1)=y%(if a>1 then a else 1)))=true):(0<=x%(if a>1 then a else 1)/\x%(if a>1 then a else 1)<n)/\(0<=y%(if a>1 then a else 1)/\y%(if a>1 then a else 1)<n):=by
 by_cases e:a>1
 ·rw[zo e]at h ⊢;have h1:=iR x (m:=a) (by omega);have h2:=iR y (m:=a) (by omega);omega
 ·rw[zw e]at h;simp at h
theorem QG{a:Int}:0<(if a>1 then a else 1):=by split<;>omega
def RT(r:bB):Prop:=((-1000:Int)<=r.1/\r.1 ≤ -1)/\wK r.2.1 r.2.2.1=true/\0<=r.2.2.2
theorem LS(c:n_.Pairwise λa b=>wK a b=true){i j:Int}(h0:0<=i)(h1:i<j)(h2:j<n_.length):wK (at' n_ i) (at' n_ j)=true:=by
 obtain⟨a,rfl⟩:∃a:Nat,i=(a:Int):=⟨i.toNat,by omega⟩;obtain⟨b,rfl⟩:∃b:Nat,j=(b:Int):=⟨j.toNat,by omega⟩;rw[LR n_ a (by omega),LR n_ b (by omega)];exact List.pairwise_iff_getElem.mp c a b (by omega) (by omega) (by omega)
theorem Xf(f:Y Int)(at_ d:Int)(v:0<=at_)(a1:at_<=500)(g:Y Int)(C:6<=g.length)(n_:AZ)(t:n_.length=d.toNat)(k:Nat)(B:k<60)(e:Y bB)(s:n_.Pairwise λa b=>wK a b=true)(h:e.length<=k/\Rs n_ e/\∀r∈e,RT r):
  iz f at_ d g n_ e k/\(c7 f at_ d g n_ e k).length<=k+1/\Rs n_ (c7 f at_ d g n_ e k)/\∀r∈c7 f at_ d g n_ e k,RT r:=by
 obtain⟨q,o,z⟩:=M4 (bF f ((at_+1)+k)) 4 (by decide) (by decide);have o:(bA (bF f ((at_+1)+k)) 4).length=4:=o;unfold iz c7;dsimp only;generalize bA (bF f ((at_+1)+k)) 4=xs at *
 have n:=λx y=>Vm (x:=x) (y:=y) t;have p:=@QG d;generalize (if d>1 then d else 1)=mm at *
 have j:∀i:Nat,i<4->In xs.length (i:Int):=λi hi=>SN (by omega);refine⟨⟨⟨MP _ _ (by omega) (by omega),q⟩,⟨⟨j 0 (by decide),p⟩,j 1 (by decide),p⟩,⟨⟨⟨j 2 (by decide),j 2 (by decide),j 2 (by decide)⟩,B5 (by decide) (by omega)⟩,yg (by decide) (Int.le_refl 3)⟩,λl=>?_⟩,?_⟩
 ·have:=n _ _ l;exact⟨⟨M7 this.1 this.2,M8 this.1 this.2,j 3 (by decide),yg (by decide) (by decide)⟩,jB (by omega)⟩
 ·split
  ·rename_i l;have:=n _ _ l;refine⟨by rw[zD];show _+1<=_;omega,λr c=>?_,λr c=>?_⟩
   ·rcases List.mem_append.mp c with c|c
    ·exact h.2.1 r c
    ·cases List.mem_singleton.mp c;exact⟨yd (M7 this.1 this.2),yd (M8 this.1 this.2)⟩
   ·rcases List.mem_append.mp c with c|c
    ·exact h.2.2 r c
    ·cases List.mem_singleton.mp c;have w:=yd (xs:=[1+at' xs 2%3,1+at' xs 2%9,1+at' xs 2%1000]) (i:=at' g 4%3) (yg (by decide) (Int.le_refl 3));have u:=yd (xs:=[(0:Int),(2:Int),(10:Int)]) (i:=at' xs 3%3) (yg (by decide) (Int.le_refl 3));have A:=iR (at' xs 2) (m:=3) (by decide);have D:=iR (at' xs 2) (m:=9) (by decide);have bk:=iR (at' xs 2) (m:=1000) (by decide);simp only[QY,jI,or_false]at w u;have l:at' xs 0%mm≠at' xs 1%mm:=by simpa using l
     refine⟨?_,?_,?_⟩
     ·show _<=0 - _/\(0:Int) - _<=_;omega
     ·show wK (at' n_ _) (at' n_ _)=true;split<;>split<;>first|exact LS s (by omega) (by omega) (by omega)|(exfalso;omega)
     ·show 0<=at' _ _;omega
  ·exact⟨by omega,h.2⟩
theorem Xg(d:Y Int)(at_ c:Int)(s:0<=at_)(a1:at_<=500)(n_:AZ)(q:n_.length=c.toNat)(k:Nat)(t:k<60)(e:Y (AJ×AJ×Int))(o:n_.Pairwise λa b=>wK a b=true)(h:e.length<=k/\∀b∈e,(b.1∈n_/\b.2.1∈n_)/\wK b.1 b.2.1=true):
  iB d at_ c n_ e k/\(dH d at_ c n_ e k).length<=k+1/\∀b∈dH d at_ c n_ e k,(b.1∈n_/\b.2.1∈n_)/\wK b.1 b.2.1=true:=by
 obtain⟨p,m,u⟩:=M4 (bF d ((at_+1)+k)) 8 (by decide) (by decide);have m:(bA (bF d ((at_+1)+k)) 8).length=8:=m;unfold iB dH;dsimp only;generalize bA (bF d ((at_+1)+k)) 8=xs at *
 have l:=λx y=>Vm (x:=x) (y:=y) q;have n:=@QG c;generalize (if c>1 then c else 1)=mm at *
 have j:∀i:Nat,i<8->In xs.length (i:Int):=λi hi=>SN (by omega);refine⟨⟨⟨MP _ _ (by omega) (by omega),p⟩,⟨⟨j 5 (by decide),n⟩,j 6 (by decide),n⟩,λf=>?_⟩,?_⟩
 ·have:=l _ _ f;exact⟨⟨M7 this.1 this.2,M8 this.1 this.2,j 7 (by decide),yg (by decide) (by decide)⟩,jB (by omega)⟩
 ·split
  ·rename_i f;have:=l _ _ f;refine⟨by rw[zD];show _+1<=_;omega,λr g=>?_⟩;rcases List.mem_append.mp g with g|g
   ·exact h.2 r g
   ·cases List.mem_singleton.mp g;have f:at' xs 5%mm≠at' xs 6%mm:=by simpa using f
    refine⟨⟨yd (M7 this.1 this.2),yd (M8 this.1 this.2)⟩,?_⟩;show wK (at' n_ _) (at' n_ _)=true;split<;>split<;>first|exact LS o (by omega) (by omega) (by omega)|(exfalso;omega)
  ·exact⟨by omega,h.2⟩
structure Gr (g:AZ×(List bB)×(List (Str×Str×Int))):Prop where
 nd:g.1.Nodup
 len:g.1.length<=9
 rs:Rs g.1 g.2.1
 rl:g.2.1.length<=14
 so:g.1.Pairwise yw
 nm:∀n∈g.1,Nm n
 va:∀r∈g.2.1,(1<=r.1/\r.1<=1000)/\wK r.2.1 r.2.2.1=true/\0<=r.2.2.2
 os:So g.2.1
 rd:g.2.1.Nodup
 bl:g.2.2.length<=6
 bs:∀b∈g.2.2,(b.1∈g.1/\b.2.1∈g.1)/\wK b.1 b.2.1=true
theorem Rs.turn{rs:Y bB}(h:Rs n_ rs):Rs n_ (rs.map λa:(Int×AJ×AJ×Int)=>(((0:Int)-a.1),a.2.1,a.2.2.1,a.2.2.2)):=λr b=>by
 obtain⟨q,c,rfl⟩:=List.mem_map.mp b;exact h q c
theorem XO{rs:Y bB}(h:∀r∈rs,RT r):∀r∈(rs.map λa:(Int×AJ×AJ×Int)=>(((0:Int)-a.1),a.2.1,a.2.2.1,a.2.2.2)),(1<=r.1/\r.1<=1000)/\wK r.2.1 r.2.2.1=true/\0<=r.2.2.2:=λr d=>by
 obtain⟨q,e,rfl⟩:=List.mem_map.mp d;obtain⟨f,b,c⟩:=h q e;exact⟨⟨show(1:Int)<=0-q.1 by omega,show(0:Int)-q.1<=1000 by omega⟩,b,c⟩
theorem Xh(g:Y Int)(at_ c i j:Int)(o:0<=at_)(a1:at_<=500)(z:0<=c)(K:c<=9)(F:0<=i)(L:i<=14)(b0:0<=j)(b1:j<=6):pK g at_ c i j/\Gr (jx g at_ c i j):=by
 obtain⟨y,p,I⟩:=M4 (bF g at_) 6 (by decide) (by decide);have p:(bA (bF g at_) 6).length=6:=p;have H:∀d:Y Int,6<=d.length->oJ g at_ c i j d/\Gr (oH g at_ c i j d):=λd v=>by
  obtain⟨A,w,M⟩:=ND d v c z (by omega);have knd:=Y1 d c (by omega);have m:(wU (cJ d c)).length=c.toNat:=by rw[(p8 _).length_eq,w]
  have nd:(wU (cJ d c)).Nodup:=(p8 _).nodup_iff.mpr knd;have G:∀n_:AZ,n_.length=c.toNat->n_.Nodup->n_.Pairwise yw->(∀n∈n_,Nm n)->oG g at_ c i j d n_/\Gr (oF g at_ c i j d n_):=λn_ m nd t nm=>by
   have x:n_.Pairwise λa b=>wK a b=true:=(t.and nd).imp λh=>(C2 _ _).mpr h;obtain⟨t1,t2,t3⟩:=zF (P:=λf k=>Z (iz g at_ c d n_ f k)) (step:=λf k=>c7 g at_ c d n_ f k) (λk s=>s.length<=k/\Rs n_ s/\∀r∈s,RT r) i.toNat [] ⟨zk 0,λr h=>(by cases h),λr h=>(by cases h)⟩ λk s C h=>Xf g at_ c o a1 d v n_ m k (by omega) s x h;obtain⟨D,u,B⟩:=zF (P:=λf k=>Z (iB g at_ c n_ f k)) (step:=λf k=>dH g at_ c n_ f k) (λk s=>s.length<=k/\∀b∈s,(b.1∈n_/\b.2.1∈n_)/\wK b.1 b.2.1=true) j.toNat [] ⟨zk 0,λr h=>(by cases h)⟩ λk s C h=>Xg g at_ c o a1 n_ m k (by omega) s x h;have sl:=Nat.lt_of_le_of_lt u (show j.toNat<64 by omega);have E:∀l:Y bB,l.length<=i.toNat->(Rs n_ l/\∀r∈l,RT r)->oA g at_ c i j d n_ l/\Gr (ou g at_ c i j d n_ l):=λl tl ⟨tr,tv⟩=>by
    have J:=Dr l;have sp:=(fD (e:=HN eI eS eS eI) (Ho l)).length_eq;refine⟨⟨⟨⟨by omega,by omega⟩,by rw[sp];omega⟩,⟨JZ b0 (by omega),D⟩,jS sl,sl⟩,nd,?_,?_,?_,t,nm,XO λr q=>tv r (qH.mp ((fD _).mem_iff.mp q)),?_,?_,?_,?_⟩
    ·show n_.length<=9;omega
    ·exact Rs.turn λr q=>tr r (qH.mp ((fD _).mem_iff.mp q))
    ·show(List.map _ _).length<=14;rw[zr,sp];omega
    ·unfold So;show(List.map tn (List.map tn (gC (HN eI eS eS eI) (Ho l)))).Pairwise _;rw[Hh];exact qg _
    ·show(List.map tn (gC (HN eI eS eS eI) (Ho l))).Nodup;unfold List.Nodup;rw[KM];exact List.Pairwise.imp (λ{a b} h e=>h (by rw[<-GU a,e,GU])) ((fD _).nodup_iff.mpr (Fz l))
    ·show(gC _ _).length<=6;rw[(fD _).length_eq];exact ZE (Dr _) (ZE u (by omega))
    ·exact λb hb=>B b (qH.mp ((fD _).mem_iff.mp hb))
   have:=E _ t2 t3;exact⟨⟨⟨JZ F (by omega),t1⟩,this.1⟩,this.2⟩
  have mem:∀n,n∈wU (cJ d c)->n∈cJ d c:=λn h=>(p8 _).mem_iff.mp h;have:=G _ m nd (EY _) λn h=>ax d c (by omega) n (mem n h);exact⟨⟨⟨A,by rw[w];omega⟩,this.1⟩,this.2⟩
 have:=H _ (Nat.le_of_eq p.symm);exact⟨⟨⟨MP _ _ o (by omega),y⟩,this.1⟩,this.2⟩
theorem Xi(d:Dt)(a:AJ)(n:Int)(h:n<=1000):lH d a n:=by
 unfold lH;intro hs;obtain⟨x,rfl⟩:=J1 hs;refine⟨⟨rfl,λ_=>Y3⟩,λb=>⟨⟨rfl,?_⟩,λs h=>SW h⟩⟩;rw[OM];have h2:(x.length:Int)<=n:=QI ((ZH _ _).mp b).2;omega
theorem QH{a:AJ}{n:Int}(h:jy d a n=true):pY d=true:=by
 unfold jy at h;rw[ZH]at h;exact h.1
theorem MD(d:Dt):sO d:=Xi d _ 8 (by decide)
theorem Mo(h:fL d=true):pY d=true:=QH h
theorem Vn(h:fL d=true):d=eS (Ly d):=by obtain⟨x,rfl⟩:=J1 (Mo h);rfl
theorem Bm(h:iY d=true):d=eI (Sq d):=by
 cases d with
 |int i=>rfl
 |_=>cases h
theorem SS(d:Dt):qY d:=λh=>⟨Bm h,λ_=>Bm h⟩
theorem Vo(h:B1 d=true):∃ds,d=.tup ds/\Lx d=ds.length:=by
 obtain⟨ds,rfl⟩:=BL h;exact⟨ds,rfl,rfl⟩
theorem bE(h:fZ d 3=true):∃a b c,d=.tup [a,b,c]:=by
 unfold fZ at h;rw[ZH,ZY]at h;obtain⟨ds,rfl,e⟩:=Vo h.1;rw[e]at h;have h:=h.2
 match ds,h with
 |[a,b,c],_=>exact⟨a,b,c,rfl⟩
theorem Nl(h:fZ d 4=true):∃a b c x,d=.tup [a,b,c,x]:=by
 unfold fZ at h;rw[ZH,ZY]at h;obtain⟨ds,rfl,e⟩:=Vo h.1;rw[e]at h;have h:=h.2
 match ds,h with
 |[a,b,c,x],_=>exact⟨a,b,c,x,rfl⟩
theorem Vp(d:Dt)(n:Int):qp d n:=λh=>U1 h
theorem OG{b:Bool}(h:(!b)=false):b=true:=by cases b<;>first|rfl|cases h
def B3(a b c:Dt):Bool:=fL a&&(fL b&&(wK (Ly a) (Ly b)&&(iY c&&decide ((0:Int)<=Sq c))))
theorem XT(d:Dt):zY d:=by
 refine⟨Vp d 3,λh=>?_⟩;obtain⟨a,b,c,rfl⟩:=bE (OG h);exact⟨rfl,MD a,λh1=>⟨MD b,λh2=>⟨⟨Vn h1,Vn h2⟩,λ_ e=>Bm e⟩⟩⟩
def R4(x a b c:Dt):Bool:=nT x&&B3 a b c
theorem N0(d:Dt):qZ d:=by
 refine⟨Vp d 4,λh=>?_⟩;obtain⟨x,a,b,c,rfl⟩:=Nl h;exact⟨⟨B5 (by decide) (by simp),SS _⟩,λ_=>⟨rfl,XT _⟩⟩
theorem Wl{r:bB}(h:(1<=r.1/\r.1<=1000)/\wK r.2.1 r.2.2.1=true/\0<=r.2.2.2)(a:Nm r.2.1)(b:Nm r.2.2.1):nU (aG r)=true:=by
 show R4 (.int r.1) (.str r.2.1) (.str r.2.2.1) (.int r.2.2.2)=true;unfold R4 B3;rw[Vl a,Vl b];show((true&&(decide ((1:Int)<=r.1)&&decide (r.1<=1000)))&&(true&&(true&&(wK r.2.1 r.2.2.1&&(true&&decide ((0:Int)<=r.2.2.2))))))=true;rw[h.2.1,z4 h.1.1,z4 h.1.2,z4 h.2.2];rfl
structure Gd (N:AZ) (R:List bB):Prop where
 nd:N.Nodup
 len:N.length<64
 rs:Rs N R
 rl:R.length<60
 nm:∀n∈N,Nm n
 va:∀r∈R,(1<=r.1/\r.1<=1000)/\wK r.2.1 r.2.2.1=true/\0<=r.2.2.2
variable{R:Y bB}
theorem Gd.ne(s:Gd N R):∀r∈R,r.2.1≠r.2.2.1:=λr a=>((C2 _ _).mp (s.va r a).2.1).2
theorem Gd.ho(s:Gd N R)(b:Y bW):lJ (N,R,b)/\gZ (N,R,b)=held N R:=by
 obtain⟨h1,h2,-⟩:=S4 s.nd s.len s.rs b;exact⟨h1,h2⟩
abbrev BU:=AJ×AJ×Int
def Hr(m:Y (AJ×AJ))(a b:AJ)(x:BU):Bool:=((decide (look m x.1=a))&&(decide (look m x.2.1=b)))||((decide (look m x.1=b))&&(decide (look m x.2.1=a)))
theorem bg(m:Y (AJ×AJ))(a b:AJ):∀B:Y BU,eX B m a b=B.find? (Hr m a b):=by
 have c:∀B:Y BU,(kW (λ(f:Unit) (d:bW)=>((eZ m a b f d):j4 (Unit) (S bW))) B ())=(match B.find? (Hr m a b)with|some x=>.rt (Z x)|none=>.nx ()):=λB=>by
  induction B with
  |nil=>rfl
  |cons x B g=>
   unfold kW;have e:eZ m a b () x=if Hr m a b x=true then .rt (Z x)else .nx ():=rfl;rw[e];cases h:Hr m a b x with
   |true=>rw[ja h];rfl
   |false=>rw[kg (by rw[h];decide)];exact g
 intro B;unfold eX;rw[c];cases B.find? (Hr m a b)<;>rfl
def js(N:AZ)(B:Y BU)(s:Y bB×Y (bB×BU))(r:bB):Y bB×Y (bB×BU):=
 if look (hb N s.1) r.2.1=look (hb N s.1) r.2.2.1 then s else match B.find? (Hr (hb N s.1) (look (hb N s.1) r.2.1) (look (hb N s.1) r.2.2.1))with
  |none=>(s.1++[r],s.2)
  |some b=>(s.1,s.2++[(r,b)])
def jo(N:AZ)(B:Y BU)(R:Y bB):Y bB×Y (bB×BU):=R.foldl (js N B) ([],[])
def kj(N:AZ)(B:Y BU)(R:Y bB):Y bB:=(jo N B R).1
def dj(N:AZ)(B:Y BU)(R:Y bB):Y (bB×BU):=(jo N B R).2
theorem wI{α σ τ:Type}{step:σ->α->j4 σ τ}{P:σ->α->S Prop}:∀(xs:Y α) (s:σ),(∀s x,x∈xs->hold (P s x))->uF step P xs s
 |[],_,_=>trivial
 |x::xs,s,h=>by
  refine⟨h s x (zh ..),?_⟩;cases step s x with
  |nx s'=>exact wI xs s' λs y a=>h s y (zi _ a)
  |ct s'=>exact wI xs s' λs y a=>h s y (zi _ a)
  |bk s'=>trivial
  |rt s'=>trivial
theorem b7(h:Hd N m){B:Y BU}(a:∀b∈B,b.1∈N/\b.2.1∈N)(one c:AJ):ni B m one c:=by
 refine⟨wI _ _ λs x hx=>?_,?_⟩
 ·have h1:=h.has (a x hx).1;have h2:=h.has (a x hx).2;exact⟨⟨h1,λ_=>h2⟩,λ_=>⟨h1,λ_=>h2⟩⟩
 ·unfold oX;split<;>trivial
variable{B:Y BU}
theorem Tp(s:Y bB×Y (bB×BU))(r:bB):(js N B s r=s)\/(js N B s r=(s.1++[r],s.2))\/∃b∈B,js N B s r=(s.1,s.2++[(r,b)]):=by
 unfold js;split
 ·exact .inl rfl
 ·cases h:B.find? (Hr (hb N s.1) (look (hb N s.1) r.2.1) (look (hb N s.1) r.2.2.1))with
  |none=>exact .inr (.inl Y3)
  |some b=>exact .inr (.inr ⟨b,JO h,rfl⟩)
theorem Vq(n:Nn N)(l:∀b∈B,b.1∈N/\b.2.1∈N):∀(R:Y bB) (s:Y bB×Y (bB×BU)),Rs N R->Rs N s.1->s.1.length+R.length<=1000->s.2.length+R.length<=1000 →
  nZ (λ(f:(Y (AJ×AJ))×(Y aD)×(Y dO)) (g:aD)=>(dJ B f g)) (λ(f:(Y (AJ×AJ))×(Y aD)×(Y dO)) (g:aD)=>Z (jM B f g)) R (hb N s.1,s.1,s.2) ∧
  R.foldl (λ(f:(Y (AJ×AJ))×(Y aD)×(Y dO)) (g:aD)=>(dJ B f g)) (hb N s.1,s.1,s.2)=(hb N (R.foldl (js N B) s).1,(R.foldl (js N B) s).1,(R.foldl (js N B) s).2)/\Rs N (R.foldl (js N B) s).1
 |[],s,_,hs,_,_=>⟨trivial,rfl,hs⟩
 |r::R,s,hr,hs,l1,l2=>by
  obtain⟨i,m⟩:=hr r (zh ..);have h:=Hd.hb n.nd n.l3 hs;have j:=Vg (look (hb N s.1) r.2.1) (look (hb N s.1) r.2.2.1) h.kn h.ml;rw[ZN]at l1 l2;have d:jM B (hb N s.1,s.1,s.2) r:=⟨h.has i,h.has m,λ_=>⟨b7 h l _ _,λ_=>⟨j.1,jB (by show s.1.length<=1000;omega)⟩,λz=>⟨by
   cases q:eX B (hb N s.1) (look (hb N s.1) r.2.1) (look (hb N s.1) r.2.2.1)with
   |none=>rw[show eX B (hb N s.1,s.1,s.2).1 (look (hb N s.1,s.1,s.2).1 r.2.1) (look (hb N s.1,s.1,s.2).1 r.2.2.1)=_ from q]at z;cases z
   |some _=>rfl,jB (by show s.2.length<=1000;omega)⟩⟩⟩
  have e:dJ B (hb N s.1,s.1,s.2) r=(hb N (js N B s r).1,(js N B s r).1,(js N B s r).2):=by
   unfold dJ js;dsimp only;rw[bg];by_cases c:look (hb N s.1) r.2.1=look (hb N s.1) r.2.2.1
   ·rw[zo c,z4 c];rfl
   ·rw[zw c,Zp c];cases B.find? (Hr (hb N s.1) (look (hb N s.1) r.2.1) (look (hb N s.1) r.2.2.1))with
    |none=>
     show(fP (hb N s.1) (look (hb N s.1) r.2.1) (look (hb N s.1) r.2.2.1),s.1++[r],s.2)=(hb N (s.1++[r]),s.1++[r],s.2);rw[j.2,uq];rfl
    |some b=>rfl
  have o:Rs N (js N B s r).1/\(js N B s r).1.length<=s.1.length+1/\(js N B s r).2.length<=s.2.length+1:=by
   rcases Tp (N:=N) (B:=B) s r with q|q|⟨b,_,q⟩
   ·rw[q];exact⟨hs,by omega,by omega⟩
   ·rw[q];refine⟨λz a=>?_,by rw[zD];exact zk _,by show s.2.length<=_;omega⟩;rcases List.mem_append.mp a with a|a
    ·exact hs z a
    ·cases List.mem_singleton.mp a;exact⟨i,m⟩
   ·rw[q];exact⟨hs,by show s.1.length<=_;omega,by rw[zD];exact zk _⟩
  obtain⟨i1,i2,p⟩:=Vq n l R (js N B s r) (λz a=>hr z (zi _ a)) o.1 (by omega) (by omega);refine⟨⟨d,by dsimp only;rw[e];exact i1⟩,?_,p⟩;rw[qi,e,i2];rfl
theorem TD(n:Nn N)(c:∀b∈B,b.1∈N/\b.2.1∈N)(e:Rs N R)(f:R.length<=1000):dZ (N,R,B)/\bO (N,R,B)=(st N (hb N (kj N B R)),kj N B R,dj N B R):=by
 obtain⟨i1,i2,a⟩:=Vq n c R ([],[]) e (λr h=>by cases h) (by show 0+_<=_;omega) (by show 0+_<=_;omega);have h:=Hd.hb n.nd n.l3 a;have s:=Sb h;refine⟨⟨(wF N n.nd n.l3).1,i1,?_⟩,?_⟩
 ·show lF (R.foldl _ (hb N [],[],[])).1;rw[i2];exact s.1
 ·show(fQ (R.foldl _ (hb N [],[],[])).1,(R.foldl _ (hb N [],[],[])).2.1,(R.foldl _ (hb N [],[],[])).2.2)=_;rw[i2];have d:fQ (hb N (kj N B R))=st N (hb N (kj N B R)):=s.2;show(fQ (hb N (kj N B R)),kj N B R,dj N B R)=_;rw[d]
theorem rz(R:Y bB)(r:bB):jo N B (R++[r])=js N B (jo N B R) r:=kU (l:=R) (l':=[r])
theorem ur(P Q:List bB):∃X Y,kj N B (P++Q)=kj N B P++X/\dj N B (P++Q)=dj N B P++Y/\(∀r∈X,r∈Q)/\∀q∈Y,q.1∈Q/\q.2∈B:=by
 induction Q using B8 with
 |h0=>exact⟨[],[],by simp,by simp,λr h=>(by cases h),λr h=>(by cases h)⟩
 |h1 Q r d=>
  obtain⟨X,Y,e1,e2,e3,c⟩:=d;rw[<-qa];unfold kj dj at *
  rw[rz];rcases Tp (N:=N) (B:=B) (jo N B (P++Q)) r with q|q|⟨b,e,q⟩
  ·rw[q];exact⟨X,Y,e1,e2,λz a=>zg _ (e3 z a),λz a=>⟨zg _ (c z a).1,(c z a).2⟩⟩
  ·rw[q];refine⟨X++[r],Y,by rw[e1,qa],e2,λz a=>?_,λz a=>⟨zg _ (c z a).1,(c z a).2⟩⟩;rcases List.mem_append.mp a with a|a
   ·exact zg _ (e3 z a)
   ·exact Zs _ a
  ·rw[q];refine⟨X,Y++[(r,b)],e1,by rw[e2,qa],λz a=>zg _ (e3 z a),λz a=>?_⟩;rcases List.mem_append.mp a with a|a
   ·exact⟨zg _ (c z a).1,(c z a).2⟩
   ·cases List.mem_singleton.mp a;exact⟨by simp,e⟩
theorem qx(R:List bB):∀r∈kj N B R,r∈R:=λr a=>by
 obtain⟨X,Y,e1,-,e3,-⟩:=ur (N:=N) (B:=B) [] R;rw[Jn]at e1;rw[e1]at a;exact e3 r a
theorem Ci(ok:Ok N R):Ok N (kj N B R):=λr a=>ok r (qx R r a)
theorem wJ(n:Nn N){K:Y bB}(ok:Ok N K){a e:AJ}(h1:a∈N)(h2:e∈N){b:BU}(d:b.1∈N/\b.2.1∈N):Hr (hb N K) (look (hb N K) a) (look (hb N K) e) b=true↔(ig K b.1 a/\ig K b.2.1 e)\/(ig K b.1 e/\ig K b.2.1 a):=by
 have c:=λ{x y:AJ} (hx:x∈N) (f:y∈N)=>nC n.nd n.l3 ok.rs ok.ne hx f;unfold Hr;rw[Kj,ZH,ZH,ZY,ZY,ZY,ZY,c d.1 h1,c d.2 h2,c d.1 h2,c d.2 h1]
theorem Dw(n:Nn N){P:Y bB}{r:bB}(ok:Ok N (P++[r]))(c:ig (kj N B P) r.2.1 r.2.2.1):kj N B (P++[r])=kj N B P/\dj N B (P++[r])=dj N B P:=by
 have Cz:Ok N P:=λz a=>ok z (zg _ a);have ho:=ok r (by simp);have k:=Ci (B:=B) Cz;have e:=(nC n.nd n.l3 k.rs k.ne ho.1.1 ho.1.2).mpr c;unfold kj dj;rw[rz];unfold js;rw[zo (show look (hb N (jo N B P).1) r.2.1=look (hb N (jo N B P).1) r.2.2.1 from e)];exact⟨rfl,rfl⟩
theorem pQ(n:Nn N){P:Y bB}{r:bB}(ok:Ok N (P++[r]))(c:¬ ig (kj N B P) r.2.1 r.2.2.1)(h:B.find? (Hr (hb N (kj N B P)) (look (hb N (kj N B P)) r.2.1) (look (hb N (kj N B P)) r.2.2.1))=O):kj N B (P++[r])=kj N B P++[r]/\dj N B (P++[r])=dj N B P:=by
 have Cz:Ok N P:=λz a=>ok z (zg _ a);have ho:=ok r (by simp);have k:=Ci (B:=B) Cz;have e:¬ look (hb N (kj N B P)) r.2.1=look (hb N (kj N B P)) r.2.2.1:=λz=>c ((nC n.nd n.l3 k.rs k.ne ho.1.1 ho.1.2).mp z);unfold kj dj at *
 rw[rz];unfold js;rw[zw e,h];exact⟨rfl,rfl⟩
theorem rA(n:Nn N){P:Y bB}{r:bB}{b:BU}(ok:Ok N (P++[r]))(c:¬ ig (kj N B P) r.2.1 r.2.2.1)(h:B.find? (Hr (hb N (kj N B P)) (look (hb N (kj N B P)) r.2.1) (look (hb N (kj N B P)) r.2.2.1))=Z b):kj N B (P++[r])=kj N B P/\dj N B (P++[r])=dj N B P++[(r,b)]:=by
 have Cz:Ok N P:=λz a=>ok z (zg _ a);have ho:=ok r (by simp);have k:=Ci (B:=B) Cz;have e:¬ look (hb N (kj N B P)) r.2.1=look (hb N (kj N B P)) r.2.2.1:=λz=>c ((nC n.nd n.l3 k.rs k.ne ho.1.1 ho.1.2).mp z);unfold kj dj at *
 rw[rz];unfold js;rw[zw e,h];exact⟨rfl,rfl⟩
theorem Bo(n:Nn N)(j:∀b∈B,(b.1∈N/\b.2.1∈N)/\b.1≠b.2.1):Ok N R->Fo (kj N B R)/\∀b∈B,¬ ig (kj N B R) b.1 b.2.1:=by
 induction R using B8 with
 |h0=>
  intro _;refine⟨.nil,λb hb' ⟨p,t⟩=>?_⟩;cases p with
  |nil=>exact(j b hb').2 t
  |cons z p=>cases t.1
 |h1 R r l=>
  intro ok;have g:Ok N R:=λz d=>ok z (zg _ d);obtain⟨f,e⟩:=l g;have ho:=ok r (by simp);have k:=Ci (B:=B) g;by_cases c:ig (kj N B R) r.2.1 r.2.2.1
  ·rw[(Dw n ok c).1];exact⟨f,e⟩
  ·cases h:B.find? (Hr (hb N (kj N B R)) (look (hb N (kj N B R)) r.2.1) (look (hb N (kj N B R)) r.2.2.1))with
   |some b=>rw[(rA n ok c h).1];exact⟨f,e⟩
   |none=>
    rw[(pQ n ok c h).1];refine⟨.snoc f c,λb hb' ⟨p,t⟩=>?_⟩;have no:=List.find?_eq_none.mp h b hb';rw[wJ n k ho.1.1 ho.1.2 (j b hb').1]at no;rcases M6 (G:=kj N B R) (a:=r.2.1) (b:=r.2.2.1) (λz d=>by
     rcases List.mem_append.mp d with d|d
     ·exact .inl d
     ·cases List.mem_singleton.mp d;exact .inr ⟨rfl,rfl⟩) t with i|i|i
    ·exact e b hb' i
    ·exact no (.inl ⟨i.1,i.2.symm k.ne⟩)
    ·exact no (.inr ⟨i.1,i.2.symm k.ne⟩)
theorem Fo.nd{F:Y bB}(h:Fo F):F.Nodup:=by
 induction h with
 |nil=>exact JI
 |@snoc F r _ c f=>
  refine List.nodup_append.mpr ⟨f,List.nodup_cons.mpr ⟨λz=>(by cases z),JI⟩,λa d b hb e=>?_⟩;cases List.mem_singleton.mp hb;exact c (.one (e▸d))
theorem Fo.filter{F:Y bB}(h:Fo F)(q:bB->Bool):Fo (F.filter q):=by
 induction h with
 |nil=>exact .nil
 |@snoc F r _ e b=>
  rw[List.filter_append];cases a:q r with
  |true=>
   rw[kP a];exact .snoc b λc=>e (c.more λz d=>(List.mem_filter.mp d).1)
  |false=>
   rw[yk (by rw[a];decide)];show Fo (_++[]);rw[ZO];exact b
theorem Fo.out{F:Y bB}(h:Fo F):∀r∈F,¬ ig (F.filter λz=>!decide (z=r)) r.2.1 r.2.2.1:=by
 induction h with
 |nil=>intro r h;cases h
 |@snoc F x l g m=>
  intro r n c;have j:=l.ne;by_cases e:r=x
  ·subst e;refine g (c.more λz d=>?_);obtain⟨z1,z2⟩:=List.mem_filter.mp d;rcases List.mem_append.mp z1 with z1|z1
   ·exact z1
   ·cases List.mem_singleton.mp z1;simp at z2
  ·have f:r∈F:=by
    rcases List.mem_append.mp n with h|h
    ·exact h
    ·exact absurd (List.mem_singleton.mp h) e
   have sub:∀z∈F.filter (λz=>!decide (z=r)),z∈F:=λz d=>(List.mem_filter.mp d).1;obtain⟨p,t⟩:=c;rcases M6 (G:=F.filter λz=>!decide (z=r)) (a:=x.2.1) (b:=x.2.2.1) (λz d=>by
    obtain⟨z1,z2⟩:=List.mem_filter.mp d;rcases List.mem_append.mp z1 with z1|z1
    ·exact .inl (List.mem_filter.mpr ⟨z1,z2⟩)
    ·cases List.mem_singleton.mp z1;exact .inr ⟨rfl,rfl⟩) t with i|i|i
   ·exact m r f i
   ·have er:ig F r.2.1 r.2.2.1:=.one f;exact g (((i.1.more sub).symm j).trans (er.trans ((i.2.more sub).symm j)))
   ·have er:ig F r.2.1 r.2.2.1:=.one f;exact g ((i.2.more sub).trans ((er.symm j).trans (i.1.more sub)))
theorem Fo.held(n:Nn N){F:Y bB}(h:Fo F):Ok N F->held N F=F:=by
 induction h with
 |nil=>intro _;rfl
 |@snoc F r d b c=>
  intro ok;rw[M5 n ok b,c λz a=>ok z (zg _ a)]
theorem OE(n:Nn N)(l:∀b∈B,b.1∈N/\b.2.1∈N){F W:Y bB}(fo:Fo F)(p:Ok N F):(∀r∈W,r∈F)->W.Nodup->(∀b∈B,¬ ig W b.1 b.2.1)->kj N B W=W/\dj N B W=[]:=by
 induction W using B8 with
 |h0=>intro _ _ _;exact⟨rfl,rfl⟩
 |h1 W r o=>
  intro g nd i;have sub:∀z∈W,z∈W++[r]:=λz a=>zg _ a;obtain⟨m,t,q⟩:=List.nodup_append.mp nd;obtain⟨i1,i2⟩:=o (λz a=>g z (sub z a)) m λb d c=>i b d (c.more sub);have ok:Ok N (W++[r]):=λz a=>p z (g z a);have h:Ok N W:=λz a=>ok z (sub z a);have ho:=ok r (by simp);have c:¬ ig (kj N B W) r.2.1 r.2.2.1:=λc=>by
   rw[i1]at c;refine fo.out r (g r (by simp)) (c.more λz a=>List.mem_filter.mpr ⟨g z (sub z a),?_⟩);rw[Zp λe=>q z a r (List.mem_singleton.mpr Y3) e];rfl
  have f:B.find? (Hr (hb N (kj N B W)) (look (hb N (kj N B W)) r.2.1) (look (hb N (kj N B W)) r.2.2.1))=O:=List.find?_eq_none.mpr λb d z=>by
   rw[i1,wJ n h ho.1.1 ho.1.2 (l b d)]at z;have er:ig (W++[r]) r.2.1 r.2.2.1:=.one (by simp);rcases z with⟨z1,z2⟩|⟨z1,z2⟩
   ·exact i b d ((z1.more sub).trans (er.trans ((z2.symm h.ne).more sub)))
   ·exact i b d ((z1.more sub).trans ((er.symm ok.ne).trans ((z2.symm h.ne).more sub)))
  obtain⟨j,s⟩:=pQ n ok c f;exact⟨by rw[j,i1],by rw[s,i2]⟩
theorem Iy(r:bB)(K:Y bB):∀L:Y (bB×BU),(kW (λ(a:Unit) (b:dO)=>((dG r K a b):j4 (Unit) Dt)) L ())=(match L.find? (λq=>decide (q.1=r))with|some q=>.rt (ET (("barred":AJ),q.2,(cM K r q.2).1,(cM K r q.2).2))|none=>.nx ())
 |[]=>rfl
 |q::L=>by
  unfold kW;by_cases h:q.1=r
  ·have e:dG r K () q=.rt (ET (("barred":AJ),q.2,(cM K r q.2).1,(cM K r q.2).2)):=by
    unfold dG;rw[z4 h];rfl
   rw[e,ja (by exact z4 h)]
  ·have e:dG r K () q=.nx ():=by
    unfold dG;rw[Zp h];rfl
   rw[e,kg (by simpa using h)];exact Iy r K L
structure Gx (N:AZ) (R:List bB) (B:List BU):Prop where
 g:Gd N R
 rd:R.Nodup
 bs:∀b∈B,(b.1∈N/\b.2.1∈N)/\b.1≠b.2.1
 bl:B.length<1000
theorem Gx.nn(x:Gx N R B):Nn N:=⟨x.g.nd,x.g.len⟩
theorem Gx.ok(x:Gx N R B):Ok N R:=λr a=>⟨x.g.rs r a,x.g.ne r a⟩
theorem Gx.b2(x:Gx N R B):∀b∈B,b.1∈N/\b.2.1∈N:=λb a=>(x.bs b a).1
theorem Gx.jn(x:Gx N R B):dZ (N,R,B)/\bO (N,R,B)=(st N (hb N (kj N B R)),kj N B R,dj N B R):=TD x.nn x.b2 x.g.rs (by have:=x.g.rl;omega)
theorem Tq{P Q:Y bB}{r:bB}(nd:(P++r::Q).Nodup):r∉P/\r∉Q:=by
 obtain⟨e,a,c⟩:=List.nodup_append.mp nd;obtain⟨b,d⟩:=List.nodup_cons.mp a;exact⟨λz=>c r z r (zh ..) rfl,b⟩
theorem Vr{r:bB}{H:Y bB}(h:r∉H):fM r H=false:=by
 cases q:fM r H with
 |false=>rfl
 |true=>exact absurd (iQ.mp q) h
inductive Ft (N:AZ) (B:List BU) (P:List bB) (r:bB) (d:Dt):Prop
 |beside (c:ig (kj N B P) r.2.1 r.2.2.1) (w:List bB) (e:d=Dt.tup [Dt.str "beside",(eO (eL aG)) (some w)]) (t:Tr (kj N B P) r.2.1 w r.2.2.1) (nd:w.Nodup)
 |kept (c:¬ ig (kj N B P) r.2.1 r.2.2.1) (f:B.find? (Hr (hb N (kj N B P)) (look (hb N (kj N B P)) r.2.1) (look (hb N (kj N B P)) r.2.2.1))=none) (e:d=Dt.tup [Dt.str "kept"])
 |barred (c:¬ ig (kj N B P) r.2.1 r.2.2.1) (b:BU) (f:B.find? (Hr (hb N (kj N B P)) (look (hb N (kj N B P)) r.2.1) (look (hb N (kj N B P)) r.2.2.1))=some b) (w1 w2:List bB) (e:d=Dt.tup [Dt.str "barred",bH b,(eO (eL aG)) (some w1),(eO (eL aG)) (some w2)]) (n1:w1.Nodup) (n2:w2.Nodup)
   (t:(Tr (kj N B P) r.2.1 w1 b.1/\Tr (kj N B P) r.2.2.1 w2 b.2.1)\/(Tr (kj N B P) r.2.1 w1 b.2.1/\Tr (kj N B P) r.2.2.1 w2 b.1))
theorem M9{P Q:List bB}{r:bB}(x:Gx N (P++r::Q) B):j8 (N,P++r::Q,B) r/\Ft N B P r (cI (N,P++r::Q,B) r):=by
 have n:=x.nn;have J:r∈P++r::Q:=by simp
 have ok:=x.ok;have Cz:Ok N P:=λz j=>ok z (zg _ j);have C:Ok N (P++[r]):=λz j=>ok z (by grind);obtain⟨⟨i,o⟩,b3⟩:=ok r J;obtain⟨oP,oQ⟩:=Tq x.rd;obtain⟨j1,j2⟩:=x.jn;obtain⟨fo,nb⟩:=Bo n x.bs ok;have m:=Ci (B:=B) ok;have eR:P++r::Q=(P++[r])++Q:=by simp
 obtain⟨X,Y,e1,e2,e3,e4⟩:=ur (N:=N) (B:=B) (P++[r]) Q;rw[<-eR]at e1 e2;obtain⟨X0,Y0,a1,a2,a3,a4⟩:=ur (N:=N) (B:=B) [] P;rw[Jn]at a1 a2;have L:∀z∈kj N B P,z∈kj N B (P++r::Q):=λz j=>by
  obtain⟨X',_,h1,-⟩:=ur (N:=N) (B:=B) P (r::Q);rw[h1];exact zg _ j
 have t:∀s∈N,∀e,jK (kj N B (P++r::Q)) s e:=λs hs e=>(Vk m.rs n.hl m.ne (e:=e) hs).1;have l:=Ci (B:=B) Cz;have y:∀s∈N,∀e,ig (kj N B P) s e->∃w,dU (kj N B (P++r::Q)) s e=Z w/\Tr (kj N B P) s w e/\w.Nodup:=λs hs e c=>by
  obtain⟨-,b1,b2⟩:=Vk m.rs n.hl m.ne (e:=e) hs;obtain⟨-,c1,c2⟩:=Vk l.rs n.hl l.ne (e:=e) hs;cases h1:dU (kj N B P) s e with
  |none=>exact absurd c (c2 h1)
  |some w=>
   obtain⟨t1,t2⟩:=c1 w h1;have t3:=t1.mono (G:=kj N B (P++r::Q)) λz j=>L z (t1.mem z j);cases h2:dU (kj N B (P++r::Q)) s e with
   |none=>exact absurd ⟨w,t3⟩ (b2 h2)
   |some U=>
    rw[Nc fo (b1 U h2).1 t3 (b1 U h2).2 t2];exact⟨w,rfl,t1,t2⟩
 have a0:gY (N,P++r::Q,B) r:=⟨N0 _,λz=>by
  rw[Wl (x.g.va r J) (x.g.nm _ i) (x.g.nm _ o),show fM r (N,P++r::Q,B).2.1=true from iQ.mpr J]at z;cases z⟩
 have a5:∀q∈dj N B (P++r::Q),pP r (kj N B (P++r::Q)) () q:=λq a _=>⟨t _ i _,λz=>⟨z,t _ o _⟩,λ_=>⟨t _ i _,t _ o _⟩⟩;have b0:uF (λ(p:Unit) (v:dO)=>((dG r (kj N B (P++r::Q)) p v):j4 (Unit) Dt)) (λ(p:Unit) (v:dO)=>Z (pP r (kj N B (P++r::Q)) p v)) (dj N B (P++r::Q)) ():=wI _ _ λs q a=>a5 q a;have D:j8 (N,P++r::Q,B) r:=by
  refine⟨a0,j1,?_⟩;dsimp only;rw[j2];refine λ_=>⟨b0,?_⟩;unfold oX;split<;>first|trivial|exact t _ i _
 refine⟨D,?_⟩;have T:cI (N,P++r::Q,B) r=(if(fM r (kj N B (P++r::Q)))=true then(Dt.tup [(Dt.str "kept")])else(BG (kW (λ(p:Unit) (v:dO)=>((dG r (kj N B (P++r::Q)) p v):j4 (Unit) Dt)) (dj N B (P++r::Q)) ()) (λr=>r) λp:Unit=>(Dt.tup [(Dt.str "beside"),((eO (eL aG)) (dU (kj N B (P++r::Q)) r.2.1 r.2.2.1))]))):=by
  unfold cI;rw[j2]
 rw[T,Iy];have K:∀z∈X,z≠r:=λz j e=>oQ (e▸e3 z j);have nY:∀q∈Y,¬ q.1=r:=λq a e=>oQ (e▸(e4 q a).1);have W:∀q∈dj N B P,¬ q.1=r:=λq a e=>by
  rw[a2]at a;rcases List.mem_append.mp a with a|a
  ·cases a
  ·exact oP (e▸(a4 q a).1)
 have nK:r∉kj N B P:=λz=>oP (qx P r z);by_cases c:ig (kj N B P) r.2.1 r.2.2.1
 ·obtain⟨u,A⟩:=Dw n C c;rw[u]at e1;rw[A]at e2;have nm:r∉kj N B (P++r::Q):=λz=>by
   rw[e1]at z;rcases List.mem_append.mp z with z|z
   ·exact nK z
   ·exact K r z rfl
  have E:(dj N B (P++r::Q)).find? (λq=>decide (q.1=r))=O:=List.find?_eq_none.mpr λq a z=>by
   rw[e2]at a;rcases List.mem_append.mp a with a|a
   ·exact W q a (QI z)
   ·exact nY q a (QI z)
  obtain⟨w,f,d,w3⟩:=y _ i _ c;rw[Vr nm,zw (by decide),E];refine .beside c w ?_ d w3;show Dt.tup [(Dt.str "beside"),((eO (eL aG)) (dU (kj N B (P++r::Q)) r.2.1 r.2.2.1))]=_;rw[f]
 ·cases h:B.find? (Hr (hb N (kj N B P)) (look (hb N (kj N B P)) r.2.1) (look (hb N (kj N B P)) r.2.2.1))with
  |none=>
   obtain⟨u,A⟩:=pQ n C c h;have hm:r∈kj N B (P++r::Q):=by rw[e1,u];simp
   rw[iQ.mpr hm,zo rfl];exact .kept c h rfl
  |some b=>
   obtain⟨u,A⟩:=rA n C c h;rw[u]at e1;rw[A]at e2;have nm:r∉kj N B (P++r::Q):=λz=>by
    rw[e1]at z;rcases List.mem_append.mp z with z|z
    ·exact nK z
    ·exact K r z rfl
   have E:(dj N B (P++r::Q)).find? (λq=>decide (q.1=r))=Z (r,b):=by
    rw[e2,qa,List.find?_append,List.find?_eq_none.mpr λq a z=>W q a (QI z)];show(O:S (bB×BU)).or (List.find? (λq:bB×BU=>decide (q.1=r)) ((r,b)::Y))=_;rw[ja (by exact z4 Y3)];rfl
   rw[Vr nm,zw (by decide),E];have M:=JO h;have cr:=List.find?_some h;rw[wJ n l i o (x.b2 b M)]at cr;have ww:∃f d,cM (kj N B (P++r::Q)) r b=(Z f,Z d)/\f.Nodup/\d.Nodup/\((Tr (kj N B P) r.2.1 f b.1/\Tr (kj N B P) r.2.2.1 d b.2.1)\/(Tr (kj N B P) r.2.1 f b.2.1/\Tr (kj N B P) r.2.2.1 d b.1)):=by
    unfold cM;dsimp only;rcases cr with⟨z1,z2⟩|⟨z1,z2⟩
    ·obtain⟨f,x1,H,I⟩:=y _ i _ (z1.symm l.ne);obtain⟨d,y1,y2,F⟩:=y _ o _ (z2.symm l.ne);rw[x1,y1];exact⟨f,d,rfl,I,F,.inl ⟨H,y2⟩⟩
    ·have no:dU (kj N B (P++r::Q)) r.2.1 b.1=O:=by
      obtain⟨-,b1,b2⟩:=Vk m.rs n.hl m.ne (e:=b.1) i;cases q:dU (kj N B (P++r::Q)) r.2.1 b.1 with
      |none=>rfl
      |some w=>exact absurd (((z2.more L).trans ⟨w,(b1 w q).1⟩).symm m.ne) (nb b M)
     obtain⟨f,x1,H,I⟩:=y _ i _ (z2.symm l.ne);obtain⟨d,y1,y2,F⟩:=y _ o _ (z1.symm l.ne);rw[no,x1,y1];exact⟨f,d,rfl,I,F,.inr ⟨H,y2⟩⟩
   obtain⟨f,d,v1,v2,v3,v4⟩:=ww;refine .barred c b h f d ?_ v2 v3 v4;show ET (("barred":AJ),b,(cM (kj N B (P++r::Q)) r b).1,(cM (kj N B (P++r::Q)) r b).2)=_;rw[v1]
def wt(L:Y bB):Int:=(L.map λr:bB=>r.1).sum
theorem PH:wt []=0:=rfl
theorem Dy(r:bB)(L:Y bB):wt (r::L)=r.1+wt L:=by unfold wt;rw[zt,List.sum_cons]
theorem Rl(A B:Y bB):wt (A++B)=wt A+wt B:=by unfold wt;rw[qh,List.sum_append_int]
theorem K'(n:Nn N)(a:Rs N R):Do N (hb N R):=L4 n.nd n.l3 R _ a (GB n.nd n.l3) (NB n.nd n.l3)
theorem TZ(n:Nn N){G P:Y bB}(Cz:Ok N P)(sub:∀r∈G,r∈P):(st N (hb N P)).length<=(st N (hb N G)).length:=by
 have a:Ok N G:=λr i=>Cz r (sub r i);unfold st;rw[zr,zr];have d:=Hd.hb n.nd n.l3 a.rs;have j:=Hd.hb n.nd n.l3 Cz.rs;have e:N.filter (λw=>decide (look (hb N P) w=w))=(N.filter λw=>decide (look (hb N G) w=w)).filter λw=>decide (look (hb N P) w=w):=by
  rw[List.filter_filter];refine List.filter_congr λx hx=>?_;by_cases h:look (hb N P) x=x
  ·have b:=d.mem x hx;have c:=((nC n.nd n.l3 a.rs a.ne b hx).mp (d.idem x hx)).more sub;have e1:=(nC n.nd n.l3 Cz.rs Cz.ne b hx).mpr c;have f:=K' n Cz.rs _ b;rw[e1,h]at f;have g:=K' n a.rs x hx;rw[z4 h,z4 (Ez g f)];rfl
  ·rw[Zp h,kR]
 rw[e];exact List.length_filter_le _ _
theorem N9(n:Nn N){F P:Y bB}(fo:Fo F)(Cz:Ok N P)(sub:∀r∈F,r∈P):F.length<=(held N P).length:=by
 have a:Ok N F:=λr b=>Cz r (sub r b);have h1:=QF n Cz.rs;have h2:=QF n a.rs;rw[fo.held n a]at h2;have:=TZ n Cz sub;omega
theorem Vs{R:Y bB}{r:bB}(b:r∉R):∀{F:Y bB},F.Nodup->(r∈F->wt (F.filter λz=>fM z (R++[r]))=wt (F.filter λz=>fM z R)+r.1/\(F.filter λz=>fM z (R++[r])).length=(F.filter λz=>fM z R).length+1)/\(r∉F->(F.filter λz=>fM z (R++[r]))=F.filter λz=>fM z R)
 |[],_=>⟨λh=>(by cases h),λ_=>Y3⟩
 |x::F,nd=>by
  obtain⟨d,f⟩:=List.nodup_cons.mp nd;obtain⟨i1,i2⟩:=Vs b f;have same:∀z,z≠r->fM z (R++[r])=fM z R:=λz c=>by
   rw[ky,iQ,iQ,List.mem_append,List.mem_singleton];exact⟨λh=>h.resolve_right c,.inl⟩
  have flt:∀(p:bB->Bool),p x=true->(x::F).filter p=x::F.filter p:=λp h=>kP h;have a:∀(p:bB->Bool),p x=false->(x::F).filter p=F.filter p:=λp h=>yk (by rw[h];decide);by_cases e:x=r
  ·subst e;have a1:fM x (R++[x])=true:=iQ.mpr (by simp);have a2:fM x R=false:=by
    cases q:fM x R with
    |false=>rfl
    |true=>exact absurd (iQ.mp q) b
   refine⟨λ_=>?_,λh=>absurd (zh ..) h⟩;rw[flt _ a1,a _ a2,i2 d,Dy,ZN];exact⟨by omega,rfl⟩
  ·have s:=same x e;cases q:fM x R with
   |true=>
    rw[flt _ (s.trans q),flt _ q,Dy,Dy,ZN,ZN];refine⟨λh=>?_,λh=>?_⟩
    ·obtain⟨i,g⟩:=i1 ((List.mem_cons.mp h).resolve_left λz=>e z.symm);exact⟨by omega,by omega⟩
    ·rw[i2 λz=>h (zi _ z)]
   |false=>
    rw[a _ (s.trans q),a _ q];refine⟨λh=>i1 ((List.mem_cons.mp h).resolve_left λz=>e z.symm),λh=>i2 λz=>h (zi _ z)⟩
theorem NU(n:Nn N){F:Y bB}(fo:Fo F):Ok N R->R.Nodup->R.Pairwise (λa b=>b.1<=a.1)->∀w:Int,0<=w->(∀r∈R,w<=r.1) →
  (((held N R).length:Int)-((F.filter λz=>fM z R).length:Int))*w<=wt (held N R)-wt (F.filter λz=>fM z R):=by
 induction R using B8 with
 |h0=>
  intro _ _ _ w _ _;have e:(F.filter λz=>fM z [])=[]:=List.filter_eq_nil_iff.mpr λz _ h=>by
   have:=iQ.mp h;cases this
  rw[e];show((0:Int)-0)*w<=0-0;omega
 |h1 R r f=>
  intro ok nd pw w C y;obtain⟨q,E,t⟩:=List.nodup_append.mp nd;obtain⟨p1,p2,p3⟩:=List.pairwise_append.mp pw;have x:Ok N R:=λz i=>ok z (zg _ i);have u:r∉R:=λz=>t r z r (List.mem_singleton.mpr Y3) rfl;have s:=y r (by simp);have f:=f x q p1 r.1 (by omega) λz i=>p3 z i r (List.mem_singleton.mpr Y3);obtain⟨c1,c2⟩:=Vs u fo.nd;have d:=N9 n (F:=F.filter λz=>fM z (R++[r])) (fo.filter _) ok λz i=>iQ.mp (List.mem_filter.mp i).2;have j:∀(D a b:Int) (l:Int),D*r.1<=l->0<=D+a-b->(D+a-b)*w<=l+a*r.1-b*r.1:=λD a b l h1 h2=>by
   have A:(D+a-b)*w<=(D+a-b)*r.1:=Int.mul_le_mul_of_nonneg_left s h2;rw[Int.sub_mul,Int.add_mul]at A;rw[Int.sub_mul,Int.add_mul]at *
   omega
  by_cases c:ig R r.2.1 r.2.2.1
  ·rw[QD n ok c]at d ⊢;by_cases g:r∈F
   ·obtain⟨m,o⟩:=c1 g;rw[m];rw[o]at d ⊢;have:=j _ 0 1 _ f (by push_cast at *;omega);have e:(((held N R).length:Int)-(((F.filter λz=>fM z R).length+1:Nat):Int))=((held N R).length:Int)-((F.filter λz=>fM z R).length:Int)+0-1:=by push_cast;omega
    rw[e];omega
   ·rw[c2 g]at d ⊢;have:=j _ 0 0 _ f (by omega);have e:(((held N R).length:Int)-((F.filter λz=>fM z R).length:Int))=((held N R).length:Int)-((F.filter λz=>fM z R).length:Int)+0-0:=by omega
    rw[e];omega
  ·have p:=M5 n ok c;have B:(held N (R++[r])).length=(held N R).length+1:=by rw[p,zD];rfl
   have v:wt (held N (R++[r]))=wt (held N R)+r.1:=by rw[p,Rl,Dy,PH];omega
   rw[v];rw[B]at d ⊢;by_cases g:r∈F
   ·obtain⟨m,o⟩:=c1 g;rw[m];rw[o]at d ⊢;have:=j _ 1 1 _ f (by push_cast at *;omega);have e:((((held N R).length+1:Nat):Int)-(((F.filter λz=>fM z R).length+1:Nat):Int))=((held N R).length:Int)-((F.filter λz=>fM z R).length:Int)+1-1:=by push_cast;omega
    rw[e];omega
   ·rw[c2 g]at d ⊢;have:=j _ 1 0 _ f (by push_cast at *;omega);have e:((((held N R).length+1:Nat):Int)-((F.filter λz=>fM z R).length:Int))=((held N R).length:Int)-((F.filter λz=>fM z R).length:Int)+1-0:=by push_cast;omega
    rw[e];omega
theorem Uf(h:So R):R.Pairwise (λa b=>b.1<=a.1):=by
 unfold So at h;rw[KM]at h;refine h.imp λ{a b} z=>?_;have z:(!S1.nW [.inl (0-b.1),.inr b.2.1,.inr b.2.2.1,.inl b.2.2.2] [.inl (0-a.1),.inr a.2.1,.inr a.2.2.1,.inl a.2.2.2])=true:=z;unfold S1.nW at z;by_cases e:(0:Int)-b.1=0-a.1
 ·omega
 ·rw[zw λq=>e (Sum.inl.inj q)]at z;have z:(!decide ((0:Int)-b.1<0-a.1))=true:=z;have:¬ ((0:Int)-b.1<0-a.1):=by simpa using z
  omega
theorem Cb(n:Nn N){F:Y bB}(fo:Fo F)(ok:Ok N R)(a:R.Nodup)(os:So R)(pos:∀r∈R,0<=r.1)(sub:∀r∈F,r∈R):wt F<=wt (held N R):=by
 have:=NU n fo ok a (Uf os) 0 (Int.le_refl 0) pos;rw[List.filter_eq_self.mpr λr b=>iQ.mpr (sub r b)]at this;omega
theorem be(n:Nn N):Ok N R->dj N B R=[]->kj N B R=held N R:=by
 induction R using B8 with
 |h0=>intro _ _;rfl
 |h1 R r a=>
  intro ok d;have f:Ok N R:=λz j=>ok z (zg _ j);have i:dj N B R=[]:=by
   obtain⟨X,Y,-,e,-⟩:=ur (N:=N) (B:=B) R [r];rw[d]at e;exact(List.append_eq_nil_iff.mp e.symm).1
  have a:=a f i;have ho:=ok r (by simp);have g:ig (kj N B R) r.2.1 r.2.2.1↔ig R r.2.1 r.2.2.1:=by rw[a];exact a9 n f ho.1.1 ho.1.2
  by_cases c:ig (kj N B R) r.2.1 r.2.2.1
  ·rw[(Dw n ok c).1,QD n ok (g.mp c),a]
  ·cases h:B.find? (Hr (hb N (kj N B R)) (look (hb N (kj N B R)) r.2.1) (look (hb N (kj N B R)) r.2.2.1))with
   |none=>rw[(pQ n ok c h).1,M5 n ok (λz=>c (g.mpr z)),a]
   |some b=>
    rw[(rA n ok c h).2]at d;exact absurd (List.append_eq_nil_iff.mp d).2 (by simp)
theorem vQ{α:Type}{p q:α->Bool}{b:α}:∀{l:Y α},l.find? p=Z b->q b=true->(l.filter q).find? p=Z b
 |[],h,_=>by cases h
 |x::l,h,hq=>by
  cases hp:p x with
  |true=>
   rw[ja hp]at h;cases h;rw[kP hq,ja hp]
  |false=>
   rw[kg (by rw[hp];decide)]at h;cases hx:q x with
   |true=>rw[kP hx,kg (by rw[hp];decide)];exact vQ h hq
   |false=>rw[yk (by rw[hx];decide)];exact vQ h hq
theorem WF(q:BU->Bool):(∀x∈dj N B R,q x.2=true)->jo N (B.filter q) R=jo N B R:=by
 induction R using B8 with
 |h0=>intro _;rfl
 |h1 R r a=>
  intro h;have a:=a λx hx=>h x (by
   obtain⟨X,Y,-,e,-⟩:=ur (N:=N) (B:=B) R [r];rw[e];exact zg _ hx)
  unfold dj at h;rw[rz]at h;rw[rz,rz,a];unfold js at h ⊢;by_cases c:look (hb N (jo N B R).1) r.2.1=look (hb N (jo N B R).1) r.2.2.1
  ·rw[zo c,zo c]
  ·rw[zw c]at h;rw[zw c,zw c];cases f:B.find? (Hr (hb N (jo N B R).1) (look (hb N (jo N B R).1) r.2.1) (look (hb N (jo N B R).1) r.2.2.1))with
   |none=>
    rw[List.find?_eq_none.mpr λx hx=>List.find?_eq_none.mp f x (List.mem_filter.mp hx).1]
   |some b=>
    rw[f]at h;rw[vQ f (h (r,b) (Zs _ (List.mem_singleton.mpr Y3)))]
theorem RE(R:List bB):dj N [] R=[]:=by
 obtain⟨X,Y,-,e,-,e4⟩:=ur (N:=N) (B:=[]) [] R;rw[Jn]at e;cases Y with
 |nil=>exact e
 |cons q Y=>exact absurd (e4 q (zh ..)).2 (by simp)
theorem Fc[DecidableEq α]{e:α->Dt}[BA e n](a:n<=100)(x y:α):U4 (e x) (e y)/\uM (e x) (e y)=decide (x=y):=by
 unfold U4 uM;have h:=BA.eq (e:=e) x y;have d:=BA.dp (e:=e) x;rw[h];exact⟨⟨rfl,by omega⟩,rfl⟩
theorem D3(w:Y bB):Qc (.lst (w.map aG))=w:=by
 show(w.map aG).map IX=w;rw[QE];exact(QR (g:=id) λ_ _=>Y3).trans (Ki _)
theorem Nb{xs ys:Y bB}(h:xs.Perm ys):gC aG xs=gC aG ys:=Gk ((fD xs).trans h) (qg xs)
theorem IS{L:Y bB}(h:L.length<64):iG L:=by
 refine⟨⟨by omega,by rw[zr];exact h⟩,?_⟩;show(gC _ _).length<=_;rw[(fD _).length_eq,zr];omega
theorem Mb{a b:bB}(h:WX (HN eI eS eS eI) (tn a) (tn b)=true):So [a,b]:=by
 unfold So;exact List.pairwise_cons.mpr ⟨λz c=>by cases List.mem_singleton.mp c;exact h,List.pairwise_cons.mpr ⟨λz c=>(by cases c),List.Pairwise.nil⟩⟩
theorem ci{o r:bB}(h:WX (HN eI eS eS eI) (tn o) (tn r)=true):aA [o,r]=[o,r]:=HK (g8 _) (Vj _) (Mb h)
theorem ar{o r:bB}(h:WX (HN eI eS eS eI) (tn r) (tn o)=true):aA [o,r]=[r,o]:=HK ((g8 _).trans (List.Perm.swap ..)) (Vj _) (Mb h)
theorem Na{W:Y bB}{r:bB}(h:∀z∈W,WX (HN eI eS eS eI) (tn z) (tn r)=true):aA (W++[r])=aA W++[r]:=by
 refine HK ((g8 _).trans ((g8 W).symm.append_right [r])) (Vj _) ?_;have s:=Vj W;unfold So at *
 rw[qh];refine List.pairwise_append.mpr ⟨s,List.pairwise_cons.mpr ⟨λz a=>(by cases a),List.Pairwise.nil⟩,λx hx y b=>?_⟩;cases List.mem_singleton.mp b;obtain⟨z,a,rfl⟩:=List.mem_map.mp hx;exact h z ((g8 W).mem_iff.mp a)
theorem LZ{P Q:Y bB}{r:bB}(h:So (P++r::Q)):(∀t∈P,WX (HN eI eS eS eI) (tn t) (tn r)=true)/\(∀t∈Q,WX (HN eI eS eS eI) (tn r) (tn t)=true):=by
 unfold So at h;rw[KM]at h;obtain⟨h1,h2,b⟩:=List.pairwise_append.mp h;exact⟨λt a=>b t a r (zh ..),λt a=>(List.pairwise_cons.mp h2).1 t a⟩
theorem UV{P Q:Y bB}{r:bB}(x:Gx N (P++r::Q) B)(os:So (P++r::Q)){W:Y bB}{h:Y BU}(l:∀z∈W,z∈kj N B P)(nd:W.Nodup)(i:∀b∈h,b∈B)(bl:h.length<=B.length):
  aA (W++[r])=aA W++r::[]/\Gx N (aA W++r::[]) h/\kj N h (aA W)=aA W:=by
 have n:=x.nn;have ok:=x.ok;have Cz:Ok N P:=λz d=>ok z (zg _ d);obtain⟨t,y⟩:=Tq x.rd;obtain⟨v,A⟩:=LZ os;obtain⟨fo,u⟩:=Bo n x.bs Cz;have o:=g8 W;have j:∀z∈aA W,z∈kj N B P:=λz d=>l z (o.mem_iff.mp d);have m:∀z∈aA W,z∈P:=λz d=>qx P z (j z d);have q:(aA W).Nodup:=o.nodup_iff.mpr nd;have p:(aA W++r::[]).Nodup:=List.nodup_append.mpr ⟨q,List.nodup_cons.mpr ⟨λz=>(by cases z),JI⟩,λa s b f e=>by
  cases List.mem_singleton.mp f;exact t (e▸m a s)⟩
 have sub:∀z∈aA W++r::[],z∈P++r::Q:=λz d=>by
  rcases List.mem_append.mp d with d|d
  ·exact zg _ (m z d)
  ·cases List.mem_singleton.mp d;simp
 have C:=x.g.rl;have w:=Tj p sub;refine⟨Na λz d=>v z (qx P z (l z d)),⟨⟨x.g.nd,x.g.len,λz d=>x.g.rs z (sub z d),by omega,x.g.nm,λz d=>x.g.va z (sub z d)⟩,p,λb f=>x.bs b (i b f),by have:=x.bl;omega⟩,?_⟩;exact(OE n (λb f=>x.b2 b (i b f)) fo (Ci Cz) j q λb f c=>u b (i b f) (c.more j)).1
theorem YU{P Q:List bB}{r:bB}(x:Gx N (P++r::Q) B)(os:So (P++r::Q))(rl:(P++r::Q).length<=20):d9 (N,P++r::Q,B) r (kj N B (P++r::Q))/\cW (N,P++r::Q,B) r (kj N B (P++r::Q))=true:=by
 have n:=x.nn;have ok:=x.ok;have Cz:Ok N P:=λz i=>ok z (zg _ i);have c2:Ok N (P++[r]):=λz i=>ok z (by grind);obtain⟨⟨ra,rb⟩,c6⟩:=ok r (by simp);obtain⟨oP,oQ⟩:=Tq x.rd;obtain⟨s1,s2⟩:=LZ os;obtain⟨fo,nb⟩:=Bo n x.bs Cz;have Yj:=Ci (B:=B) Cz;obtain⟨fd,ft⟩:=M9 x;have pl:P.length+1<=20:=by rw[zD,ZN]at rl;omega
 have eb:=λ(s t:AJ)=>Fc (e:=eS) (n:=1) (by decide) s t;have kr:(kj N B (P++r::Q)).length<=100000:=by
  have:=Tj ((Bo n x.bs ok).1.nd) (qx (N:=N) (B:=B) (P++r::Q));omega
 unfold d9 cW;dsimp only;have a4:∀(W:List bB) (l:List BU),(∀z∈W,z∈kj N B P)->W.Nodup->(∀b∈l,b∈B)->l.length<=B.length->W.length+1<=20/\(Ls (W.length+[r].length)/\iG (W++[r]))/\j8 (N,aA (W++[r]),l) r/\(dZ (N,aA (W++[r]),l)/\(bO (N,aA (W++[r]),l)).2.1.length<64)/\Ft N l (aA W) r (cI (N,aA (W++[r]),l) r)/\kj N l (aA W)=aA W/\(bO (N,aA (W++[r]),l)).2.1=kj N l (aA W++[r])/\Ok N (aA W++[r]):=λW l K nd hB bl=>by
  obtain⟨e,gx,k⟩:=UV x os K nd hB bl;obtain⟨d1,f1⟩:=M9 gx;obtain⟨j1,j2⟩:=gx.jn;have wl:=Tj nd λz i=>qx P z (K z i);have kl:(kj N l (aA W++[r])).length<64:=by
   have:=Tj ((Bo n gx.bs gx.ok).1.nd) (qx (N:=N) (B:=l) (aA W++[r]));rw[zD,(g8 W).length_eq]at this;have:_<=W.length+1:=this;omega
  rw[e];refine⟨by omega,⟨jB (by show W.length+1<=1000;omega),IS (by rw[zD];show W.length+1<64;omega)⟩,d1,⟨j1,by rw[j2];exact kl⟩,f1,k,by rw[j2],gx.ok⟩
 have tW:∀{W:List bB} {p q:AJ},ig W p q->ig (aA W) p q:=λc=>c.more λz i=>(g8 _).mem_iff.mpr i;have U:∀{W:List bB} {p q:AJ},ig (aA W) p q->ig W p q:=λc=>c.more λz i=>(g8 _).mem_iff.mp i;cases ft with
 |beside c w e t nd=>
  rw[e];have K:∀z∈w,z∈kj N B P:=λz i=>t.mem z i;obtain⟨wl,f1,f2,H,f4,u,f6,J⟩:=a4 w [] K nd (λb h=>by cases h) (QO _);have C:ig (aA w) r.2.1 r.2.2.1:=tW ⟨w,t.mono λz i=>i⟩;have it:QK (Dt.tup (cut (ZW (Dt.tup [Dt.str "beside",(eO (eL aG)) (Z w)])) (Z 1) O))=[.lst (w.map aG)]:=rfl;have b1:bw [] (.lst (w.map aG))=w:=by
   show[]++Qc (.lst (w.map aG))=w;rw[D3];rfl
  have d1:cL [] (.lst (w.map aG)):=λ_=>⟨by rw[D3],by rw[D3];exact jB (by show 0+w.length<=1000;omega)⟩;rw[it];have a0:[Dt.lst (w.map aG)].foldl (λ(F:List aD) (E:Dt)=>(bw F E)) []=w:=b1;rw[a0];have i0:jA (Dt.tup [Dt.str "beside",(eO (eL aG)) (Z w)]) (0:Int)=eS "beside":=rfl;have j:Hq (Dt.tup [Dt.str "beside",(eO (eL aG)) (Z w)]) (0:Int):=B5 (by decide) (by show(0:Int)<2;decide);rw[i0];have q1:=eb "beside" "barred";have q2:=eb "beside" "kept";have q3:=eb "beside" "beside";have z1:uM (eS "beside") (Dt.str "barred")=false:=q1.2;have z2:uM (eS "beside") (Dt.str "kept")=false:=q2.2;rw[z1,z2];simp only[zl,ZI];have A:(jA (cI (N,aA (w++[r]),[]) r) 0)=eS "beside" ∧ Hq (cI (N,aA (w++[r]),[]) r) (0:Int):=by
   cases f4 with
   |beside _ w' e' _ _=>rw[e'];exact⟨rfl,B5 (by decide) (by show(0:Int)<2;decide)⟩
   |kept D _ _=>rw[u]at D;exact absurd C D
   |barred D _ _ _ _ _ _ _ _=>rw[u]at D;exact absurd C D
  rw[A.1,q3.2,z4 rfl];have kk:kj N [] (aA w++[r])=aA w:=by
   rw[(Dw n J (by rw[u];exact C)).1,u]
  rw[f6,kk]at H ⊢;refine⟨⟨fd,⟨⟨rfl,rfl⟩,d1,trivial⟩,⟨⟨j,q1.1⟩,λz=>(by cases z)⟩,⟨⟨j,q2.1⟩,λz=>(by cases z)⟩,f1,f2,⟨⟨⟨A.2,j⟩,q3.1⟩,λ_=>⟨⟨j,q1.1⟩,λz=>(by cases z)⟩⟩,λ_=>⟨H,⟨⟨⟨j,q2.1⟩,by decide,by decide,by show 1<=1000;decide⟩,jB (by show w.length+0<=1000;omega)⟩,by show(w++[]).length<64;rw[ZO];omega⟩⟩,?_⟩;show decide (gC aG (aA w)=gC aG (w++[]))=true;rw[ZO,Nb (g8 w),z4 rfl]
 |kept c f e=>
  rw[e];have it:QK (Dt.tup (cut (ZW (Dt.tup [Dt.str "kept"])) (Z 1) O))=[]:=rfl;rw[it];have a0:([]:List Dt).foldl (λ(F:List aD) (E:Dt)=>(bw F E)) []=[]:=rfl;rw[a0];have i0:jA (Dt.tup [Dt.str "kept"]) (0:Int)=eS "kept":=rfl;have j:Hq (Dt.tup [Dt.str "kept"]) (0:Int):=B5 (by decide) (by show(0:Int)<1;decide);rw[i0];have q1:=eb "kept" "barred";have q2:=eb "kept" "kept";have z1:uM (eS "kept") (Dt.str "barred")=false:=q1.2;have z2:uM (eS "kept") (Dt.str "kept")=true:=q2.2;rw[z1,z2];simp only[zl,ZI,qA];have fl:((kj N B (P++r::Q)).filter λv:aD=>((decide ((at' (aA [v,r]) 0)=v))&&(!decide (v=r))))=kj N B P:=by
   obtain⟨X,Y,e1,-,e3,-⟩:=ur (N:=N) (B:=B) (P++[r]) Q;rw[show P++r::Q=(P++[r])++Q by simp,e1,(pQ n c2 c f).1,qa,List.filter_append];have h1:(kj N B P).filter (λv:aD=>((decide ((at' (aA [v,r]) 0)=v))&&(!decide (v=r))))=kj N B P:=List.filter_eq_self.mpr λo ho=>by
    have b0:=qx P o ho;rw[ci (s1 o b0),z4 (show at' [o,r] (0:Int)=o from Y3),Zp (show ¬ o=r from λz=>oP (z▸b0))];rfl
   have h2:([r]++X).filter (λv:aD=>((decide ((at' (aA [v,r]) 0)=v))&&(!decide (v=r))))=[]:=List.filter_eq_nil_iff.mpr λo ho z=>by
    rw[ZH,ZY]at z;have b9:¬ o=r:=by simpa using z.2
    rcases List.mem_append.mp ho with h|h
    ·exact b9 (List.mem_singleton.mp h)
    ·have:=z.1;rw[ar (s2 o (e3 o h))]at this;exact b9 this.symm
   rw[h1,h2,ZO]
  rw[List.map_id',fl];obtain⟨wl,f1,f2,H,f4,u,f6,J⟩:=a4 (kj N B P) B (λz i=>i) fo.nd (λb h=>h) (zk _);have A:((jA (cI (N,aA (kj N B P++[r]),B) r) 0)=eS "kept" ∧ Hq (cI (N,aA (kj N B P++[r]),B) r) 0)/\kj N B (aA (kj N B P)++[r])=aA (kj N B P)++[r]:=by
   have I:Ok N (aA (kj N B P)):=λz i=>J z (zg _ i);have C:¬ ig (kj N B (aA (kj N B P))) r.2.1 r.2.2.1:=λz=>c (U (by rw[u]at z;exact z));have L:B.find? (Hr (hb N (kj N B (aA (kj N B P)))) (look (hb N (kj N B (aA (kj N B P)))) r.2.1) (look (hb N (kj N B (aA (kj N B P)))) r.2.2.1))=O:=List.find?_eq_none.mpr λb M z=>by
    have no:=List.find?_eq_none.mp f b M;rw[wJ n Yj ra rb (x.b2 b M)]at no;rw[u,wJ n I ra rb (x.b2 b M)]at z;exact no (z.imp (λz=>⟨U z.1,U z.2⟩) λz=>⟨U z.1,U z.2⟩)
   refine⟨?_,by rw[(pQ n J C L).1,u]⟩;cases f4 with
   |beside D _ _ _ _=>exact absurd D C
   |kept _ _ e'=>rw[e'];exact⟨rfl,B5 (by decide) (by show(0:Int)<1;decide)⟩
   |barred _ b' G _ _ _ _ _ _=>rw[L]at G;cases G
  rw[A.1.1,z2];rw[f6,A.2]at H ⊢;have rp:(List.replicate (1:Int).toNat [r]).flatten=[r]:=rfl;rw[rp];refine⟨⟨fd,⟨⟨rfl,rfl⟩,trivial⟩,⟨⟨j,q1.1⟩,λz=>(by cases z)⟩,⟨⟨j,q2.1⟩,λ_=>⟨kr,λo ho=>⟨IS (by show 2<64;decide),by rw[(g8 _).length_eq];exact B5 (by decide) (by show(0:Int)<2;decide)⟩⟩⟩,f1,f2,⟨⟨⟨A.1.2,j⟩,q2.1⟩,λ_=>⟨⟨j,q1.1⟩,λz=>(by cases z)⟩⟩,λ_=>⟨H,⟨⟨⟨j,q2.1⟩,by decide,by decide,by show 1<=1000;decide⟩,jB (by show(kj N B P).length+1<=1000;omega)⟩,by rw[zD];show(kj N B P).length+1<64;omega⟩⟩,?_⟩;show decide (gC aG (aA (kj N B P)++[r])=gC aG (kj N B P++[r]))=true;rw[Nb ((g8 (kj N B P)).append_right [r]),z4 rfl]
 |barred c b f d g e n1 n2 t=>
  rw[e];have a2:=JO f;have c1:∀z∈d,z∈kj N B P:=λz i=>t.elim (λq=>q.1.mem z i) λq=>q.1.mem z i;have c0:∀z∈g,z∈kj N B P:=λz i=>t.elim (λq=>q.2.mem z i) λq=>q.2.mem z i;have K:∀z∈d++g,z∈kj N B P:=λz i=>(List.mem_append.mp i).elim (c1 z) (c0 z);have a1:∀{w:List bB} {p q:AJ},Tr (kj N B P) p w q->∀z∈w,ig (kj N B P) p z.2.1:=by
   intro w
   induction w with
   |nil=>intro p q _ z i;cases i
   |cons y w ih=>
    intro p q tr z i;obtain⟨m,t1,o,t2⟩:=tr;have cp:ig (kj N B P) p t1:=⟨[y],m,t1,o,rfl⟩;rcases List.mem_cons.mp i with rfl|i
    ·rcases nA o with⟨h1,h2⟩|⟨h1,h2⟩
     ·rw[h1];exact .refl _ _
     ·rw[h2];exact cp
    ·exact cp.trans (ih t2 z i)
  have nd:(d++g).Nodup:=List.nodup_append.mpr ⟨n1,n2,λa ha b' M e'=>by
   subst e';have h1:ig (kj N B P) r.2.1 a.2.1:=t.elim (λq=>a1 q.1 a ha) λq=>a1 q.1 a ha;have h2:ig (kj N B P) r.2.2.1 a.2.1:=t.elim (λq=>a1 q.2 a M) λq=>a1 q.2 a M;exact c (h1.trans (h2.symm Yj.ne))⟩
  obtain⟨wl,f1,f2,H,f4,u,f6,J⟩:=a4 (d++g) [b] K nd (λb' h=>by cases List.mem_singleton.mp h;exact a2) (by
   have:=k4 a2;exact this)
  have I:Ok N (aA (d++g)):=λz i=>J z (zg _ i);have C:¬ ig (kj N [b] (aA (d++g))) r.2.1 r.2.2.1:=λz=>c ((U (by rw[u]at z;exact z)).more K);have a5:∀z∈d,z∈aA (d++g):=λz i=>(g8 _).mem_iff.mpr (zg _ i);have b3:∀z∈g,z∈aA (d++g):=λz i=>(g8 _).mem_iff.mpr (Zs _ i);have cb:Hr (hb N (aA (d++g))) (look (hb N (aA (d++g))) r.2.1) (look (hb N (aA (d++g))) r.2.2.1) b=true:=by
   rw[wJ n I ra rb (x.b2 b a2)];rcases t with⟨t1,t2⟩|⟨t1,t2⟩
   ·exact .inl ⟨ig.symm I.ne ⟨d,t1.mono a5⟩,ig.symm I.ne ⟨g,t2.mono b3⟩⟩
   ·exact .inr ⟨ig.symm I.ne ⟨g,t2.mono b3⟩,ig.symm I.ne ⟨d,t1.mono a5⟩⟩
  have L:[b].find? (Hr (hb N (kj N [b] (aA (d++g)))) (look (hb N (kj N [b] (aA (d++g)))) r.2.1) (look (hb N (kj N [b] (aA (d++g)))) r.2.2.1))=Z b:=by
   rw[u,ja cb]
  have it:QK (Dt.tup (cut (ZW (Dt.tup [Dt.str "barred",bH b,(eO (eL aG)) (Z d),(eO (eL aG)) (Z g)])) (Z 1) O))=[bH b,.lst (d.map aG),.lst (g.map aG)]:=rfl;rw[it];have g1:bw [] (bH b)=[]:=rfl;have g2:bw [] (.lst (d.map aG))=d:=by
   show[]++Qc (.lst (d.map aG))=d;rw[D3];rfl
  have g3:bw d (.lst (g.map aG))=d++g:=by
   show d++Qc (.lst (g.map aG))=_;rw[D3]
  have c3:d.length+g.length<=20:=by rw[zD]at wl;omega
  have d1:cL [] (bH b):=λz=>(by cases z);have d2:cL [] (.lst (d.map aG)):=λ_=>⟨by rw[D3],by rw[D3];exact jB (by show 0+d.length<=1000;omega)⟩;have d3:cL d (.lst (g.map aG)):=λ_=>⟨by rw[D3],by rw[D3];exact jB (by omega)⟩;have a0:[bH b,Dt.lst (d.map aG),Dt.lst (g.map aG)].foldl (λ(F:List aD) (E:Dt)=>(bw F E)) []=d++g:=by
   rw[qi,g1,qi,g2,qi,g3];rfl
  have dl:nZ (λ(F:List aD) (E:Dt)=>(bw F E)) (λ(F:List aD) (E:Dt)=>Z (cL F E)) [bH b,Dt.lst (d.map aG),Dt.lst (g.map aG)] []:=by
   refine⟨d1,?_⟩;dsimp only;rw[g1];refine⟨d2,?_⟩;dsimp only;rw[g2];exact⟨d3,trivial⟩
  rw[a0];have i0:jA (Dt.tup [Dt.str "barred",bH b,(eO (eL aG)) (Z d),(eO (eL aG)) (Z g)]) (0:Int)=eS "barred":=rfl;have i1:jA (Dt.tup [Dt.str "barred",bH b,(eO (eL aG)) (Z d),(eO (eL aG)) (Z g)]) (1:Int)=bH b:=rfl;have j:Hq (Dt.tup [Dt.str "barred",bH b,(eO (eL aG)) (Z d),(eO (eL aG)) (Z g)]) (0:Int):=B5 (by decide) (by show(0:Int)<4;decide);have x1:Hq (Dt.tup [Dt.str "barred",bH b,(eO (eL aG)) (Z d),(eO (eL aG)) (Z g)]) (1:Int):=B5 (by decide) (by show(1:Int)<4;decide);rw[i0,i1];have q1:=eb "barred" "barred";have q2:=eb "barred" "kept";have qb:=Fc (e:=bH) (n:=2) (by decide) b b;have z1:uM (eS "barred") (Dt.str "barred")=true:=q1.2;have z2:uM (eS "barred") (Dt.str "kept")=false:=q2.2;rw[z1,z2];simp only[zl,ZI,qA];have a3:F2 (bH b)=b:=rfl;rw[a3];have A:((jA (cI (N,aA ((d++g)++[r]),[b]) r) 0)=eS "barred" ∧ (jA (cI (N,aA ((d++g)++[r]),[b]) r) 1)=bH b)/\Hq (cI (N,aA ((d++g)++[r]),[b]) r) (0:Int)/\Hq (cI (N,aA ((d++g)++[r]),[b]) r) (1:Int):=by
   cases f4 with
   |beside D _ _ _ _=>exact absurd D C
   |kept _ G _=>rw[L]at G;cases G
   |barred _ b' G v1 v2 e' _ _ _=>
    rw[L]at G;cases G;rw[e'];exact⟨⟨rfl,rfl⟩,B5 (by decide) (by show(0:Int)<4;decide),B5 (by decide) (by show(1:Int)<4;decide)⟩
  rw[A.1.1,A.1.2,qb.2,z4 rfl,z1];have kk:kj N [b] (aA (d++g)++[r])=aA (d++g):=by
   rw[(rA n J C L).1,u]
  rw[f6,kk]at H ⊢;refine⟨⟨fd,⟨⟨rfl,rfl⟩,dl⟩,⟨⟨j,q1.1⟩,λ_=>⟨x1,rfl⟩⟩,⟨⟨j,q2.1⟩,λz=>(by cases z)⟩,f1,f2,⟨⟨⟨A.2.1,j⟩,q1.1⟩,λ_=>⟨⟨j,q1.1⟩,λ_=>⟨⟨A.2.2,x1⟩,qb.1⟩⟩⟩,λ_=>⟨H,⟨⟨⟨j,q2.1⟩,by decide,by decide,by show 1<=1000;decide⟩,jB (by show(d++g).length+0<=1000;omega)⟩,by show((d++g)++[]).length<64;rw[ZO];omega⟩⟩,?_⟩;show decide (gC aG (aA (d++g))=gC aG ((d++g)++[]))=true;rw[ZO,Nb (g8 (d++g)),z4 rfl]
theorem bb(x:Gx N R B):gF (N,R,B) (st N (hb N (kj N B R)),kj N B R,dj N B R)/\fj (N,R,B) (st N (hb N (kj N B R)),kj N B R,dj N B R)=true:=by
 have bl:=x.bl;have U:=x.g.rl;have sub:∀q:BU->Bool,Gx N R (B.filter q):=λq=>⟨x.g,x.rd,λb A=>x.bs b (List.mem_filter.mp A).1,Nat.lt_of_le_of_lt (List.length_filter_le _ _) bl⟩;have D:Gx N R []:=⟨x.g,x.rd,λb h=>(by cases h),by decide⟩;have G:(dj N B R).length<=100000:=by
  have E:∀L:List bB,(dj N B L).length<=L.length:=λL=>by
   induction L using B8 with
   |h0=>exact zk 0
   |h1 L r W=>
    unfold dj at *
    rw[rz,zD];rcases Tp (N:=N) (B:=B) (jo N B L) r with q|q|⟨b,_,q⟩
    ·rw[q];show _<=_+1;omega
    ·rw[q];show(jo N B L).2.length<=_+1;omega
    ·rw[q];show((jo N B L).2++[(r,b)]).length<=_+1;rw[zD];show _+1<=_;omega
  have:=E R;omega
 have C:∀q∈dj N B R,q.1∈R:=λq a=>by
  obtain⟨X,Y,-,e,-,e4⟩:=ur (N:=N) (B:=B) [] R;rw[Jn]at e;rw[e]at a;rcases List.mem_append.mp a with h|h
  ·cases h
  ·exact(e4 q h).1
 obtain⟨H,o⟩:=(sub λd:bW=>fM d ((dj N B R).map λc:dO=>c.2)).jn;obtain⟨K,u⟩:=D.jn;have us:jo N (B.filter λd:bW=>fM d ((dj N B R).map λc:dO=>c.2)) R=jo N B R:=WF _ λq a=>iQ.mpr (List.mem_map.mpr ⟨q,a,rfl⟩);have y:kj N (B.filter λd:bW=>fM d ((dj N B R).map λc:dO=>c.2)) R=kj N B R:=congrArg Prod.fst us;have v:dj N (B.filter λd:bW=>fM d ((dj N B R).map λc:dO=>c.2)) R=dj N B R:=congrArg Prod.snd us;rw[y,v]at o;have step:∀q∈dj N B R,eE N R B () q/\cU N R B () q=.nx ():=λq a=>by
  obtain⟨P,Q,e⟩:=kM (C q a);have l:=sub λI:bW=>!decide (I=q.2);unfold eE cU;dsimp only;rw[List.map_id'];rw[e]at l;obtain⟨fd,m⟩:=M9 l;rw[<-e]at fd m;have eb:=λ(s t:AJ)=>Fc (e:=eS) (n:=1) (by decide) s t;cases m with
  |beside _ w e' _ _=>
   rw[e'];have z:uM (jA (Dt.tup [Dt.str "beside",(eO (eL aG)) (Z w)]) 0) (Dt.str "barred")=false:=(eb "beside" "barred").2;rw[z];exact⟨⟨⟨by omega,fd⟩,⟨B5 (by decide) (by show(0:Int)<2;decide),(eb "beside" "barred").1⟩,λz=>(by cases z)⟩,rfl⟩
  |kept _ _ e'=>
   rw[e'];have z:uM (jA (Dt.tup [Dt.str "kept"]) 0) (Dt.str "barred")=false:=(eb "kept" "barred").2;rw[z];exact⟨⟨⟨by omega,fd⟩,⟨B5 (by decide) (by show(0:Int)<1;decide),(eb "kept" "barred").1⟩,λz=>(by cases z)⟩,rfl⟩
  |barred _ b f J F e' _ _ _=>
   rw[e'];have M:b≠q.2:=λz=>by
    have:=(List.mem_filter.mp (JO f)).2;rw[z4 z]at this;cases this
   have p:=Fc (e:=bH) (n:=2) (by decide) b q.2;have z:uM (jA (Dt.tup [Dt.str "barred",bH b,(eO (eL aG)) (Z J),(eO (eL aG)) (Z F)]) 1) (bH q.2)=false:=p.2.trans (Zp M);rw[z,KA];exact⟨⟨⟨by omega,fd⟩,⟨B5 (by decide) (by show(0:Int)<4;decide),(eb "barred" "barred").1⟩,λ_=>⟨B5 (by decide) (by show(1:Int)<4;decide),p.1⟩⟩,rfl⟩
 have L:=Gm (step:=λ(i:Unit) (j:dO)=>((cU N R B i j):j4 (Unit) Bool)) (P:=λ(i:Unit) (j:dO)=>Z (eE N R B i j)) (dj N B R) λq a=>⟨(step q a).1,.inl (step q a).2⟩;unfold gF fj;dsimp only;rw[List.map_id',o,u,RE,L.1];refine⟨⟨⟨by omega,λ_ _=>G⟩,⟨H,λ_=>K⟩,λ_=>⟨L.2,trivial⟩⟩,?_⟩;rw[z4 rfl,z4 rfl];rfl
theorem IN{L:Y bB}(a:L.length<=1000)(h:∀r∈L,1<=r.1/\r.1<=1000):DH (L.map λr:aD=>r.1)=true:=by
 unfold DH;rw[ZH,ZY,zr,qo];refine⟨a,λk b=>?_⟩;obtain⟨r,c,rfl⟩:=List.mem_map.mp b;have:=h r c;exact z4 (show _/\_ by omega)
theorem dL(d:Y Int)(k:Nat)(H:k<2):vO d () k/\qw d () k=.nx ():=by
 obtain⟨p,n,F⟩:=M4 (bF d k) 9 (by decide) (by decide);have n:(bA (bF d k) 9).length=9:=n;unfold vO qw;dsimp only;generalize bA (bF d k) 9=xs at *
 have f:∀i:Nat,i<9->In xs.length (i:Int):=λi hi=>SN (by omega);have A:=iR (at' xs 6) (m:=10) (by decide);have C:=iR (at' xs 7) (m:=15) (by decide);have t:=iR (at' xs 8) (m:=7) (by decide);obtain⟨v,s⟩:=Xh d k (at' xs 6%10) (at' xs 7%15) (at' xs 8%7) (by omega) (by omega) A.1 (by omega) C.1 (by omega) t.1 (by omega);generalize jx d k (at' xs 6%10) (at' xs 7%15) (at' xs 8%7)=gr at *
 obtain⟨N,R,B⟩:=gr;have len:N.length<=9:=s.len;have E:R.length<=14:=s.rl;have bl:B.length<=6:=s.bl;have o:R.Nodup:=s.rd;have os:So R:=s.os;have g:Gd N R:=⟨s.nd,by omega,s.rs,by omega,s.nm,s.va⟩;have x:Gx N R B:=⟨g,o,λb j=>⟨(s.bs b j).1,((C2 _ _).mp (s.bs b j).2).2⟩,by omega⟩;obtain⟨w,D⟩:=x.jn;obtain⟨b1,b2⟩:=bb x;have h:∀r∈R,d9 (N,R,B) r (kj N B R)/\cW (N,R,B) r (kj N B R)=true:=λr c=>by
  obtain⟨P,Q,e⟩:=kM c;rw[e]at x os ⊢;exact YU x os (by rw[<-e];omega)
 obtain⟨h1,h2⟩:=g.ho B;have fo:=(Bo x.nn x.bs x.ok).1;have G:=Tj fo.nd (qx (N:=N) (B:=B) R);have I:=(Hi N R).length_le;have l:=Cb x.nn fo x.ok o os (λr c=>by have:=(g.va r c).1.1;omega) (qx R);have l:((kj N B R).map λa:aD=>a.1).sum<=((held N R).map λa:aD=>a.1).sum:=l;have u:dj N B R=[]->((kj N B R).map λa:aD=>a.1).sum=((held N R).map λa:aD=>a.1).sum:=λz=>by rw[be x.nn x.ok z]
 dsimp only;rw[D];dsimp only;rw[b2,h2];have q:((R.map λa:aD=>(cW (N,R,B) a (kj N B R))).all id)=true:=by
  rw[qo];intro z y;obtain⟨r,c,rfl⟩:=List.mem_map.mp y;exact(h r c).2
 rw[q];refine⟨⟨⟨MP _ _ (by omega) (by omega),p⟩,⟨⟨f 6 (by decide),f 7 (by decide),f 8 (by decide)⟩,v⟩,w,⟨by omega,λr c=>(h r c).1⟩,λ_=>⟨b1,λ_=>⟨⟨by omega,IN (by omega) λr c=>(g.va r (qx R r c)).1⟩,⟨h1,by omega⟩,IN (by omega) λr c=>(g.va r ((Hi N R).subset c)).1⟩⟩⟩,?_⟩;rw[Zp (by omega:¬ ((held N R).map λa:aD=>a.1).sum<((kj N B R).map λa:aD=>a.1).sum)];by_cases z:dj N B R=[]
 ·rw[z4 (u z)];simp
 ·rw[Zp z];simp
theorem L8(a:Y Int)(_:a.length<=63):QC a/\Qz a=true:=by
 have e:0<=(if(if(2:Int)<(a.length:Int)then(2:Int)else(a.length:Int))>1 then(if(2:Int)<(a.length:Int)then(2:Int)else(a.length:Int))else 1)/\(if(if(2:Int)<(a.length:Int)then(2:Int)else(a.length:Int))>1 then(if(2:Int)<(a.length:Int)then(2:Int)else(a.length:Int))else 1)<=2:=by
  split<;>split<;>omega
 unfold QC Qz;generalize (if(if(2:Int)<(a.length:Int)then(2:Int)else(a.length:Int))>1 then(if(2:Int)<(a.length:Int)then(2:Int)else(a.length:Int))else 1)=m at *
 have L:=Gm (step:=λ(c:Unit) (b:Int)=>((qw a c b):j4 (Unit) Bool)) (P:=λ(c:Unit) (b:Int)=>Z (vO a c b)) (rng 0 m.toNat) λk d=>by
  obtain⟨j,f,rfl⟩:=Ma d;have:=dL a j (by omega);exact⟨this.1,.inl this.2⟩
 rw[L.1];exact⟨⟨⟨JZ e.1 (by omega),L.2⟩,trivial⟩,rfl⟩
theorem H1:∀a:Y Int,a.length<=63->F_law [.z (.lst (a.map .int))]=Z (.z (.bl true)):=(LB L8).1
theorem H2:∀a:Y Int,a.length<=63->F_law [.l (a.map .int)]=Z (.z (.bl true)):=(LB L8).2
end G28
end
open PySem PySem.W PyProof.Rows
namespace PySem.W.Fast
def tw5191108956739652012:=0
def tw14900390231893505032:=0
def tw8351672625855373438:=0
def tw15600172695970263182:=0
def tw14045020281675184660:=0
def tw16650762363034980149:=0
def tw6833103834715653001:=0
def tw5665249819581978496:=0
def tw5803780630437538388:=0
def tw5314670078786701014:=0
def tw354714618267787213:=0
def tw4216562768415268418:=0
def tw5379422869776878632:=0
def tw1071144561448077648:=0
def tw7366845381222820902:=0
def tw6555869659405243215:=0
def tw6292578787585800343:=0
def tw9325055920081176978:=0
def tw16817525828282940393:=0
def tw7383947935891074490:=0
def tw684493249890814534:=0
def tw9832884587730236314:=0
def tw2068443704562286323:=0
def tw7560882407576336712:=0
def tw22489509660815565:=0
def tw5385838377363986434:=0
def tw3081085194348547722:=0
def tw7788268546586831174:=0
def tw12282604839664385534:=0
def tw16296518382551763293:=0
def tw12469248874648186771:=0
def tw13914946211380423505:=0
def tw5791090004525947788:=0
def tw15994179666932843298:=0
def tw18087396208771788202:=0
def tw13738158814740683952:=0
def tw6566959614305331566:=0
def tw2196889147591645892:=0
def tw3235277213841848238:=0
def tw18347204738052330302:=0
def tw2357453612372965339:=0
def tw1380573479668764260:=0
def tw3455087660453322522:=0
def tw12732555202096886597:=0
def tw7123382974075201848:=0
def tw9281622621563142501:=0
def tw14389597171920965851:=0
def tw8516562016014127741:=0
def tw10040829183187782483:=0
def tw15953443504268719360:=0
def tw12102850313962232039:=0
def tw16518422259413179133:=0
def tw17292019048957513090:=0
def tw18295118929811055301:=0
def tw5023523356265895790:=0
def tw11908945848902162238:=0
def tw16235646299698734754:=0
def tw11456104136310269047:=0
def tw12199829930959041844:=0
def tw3533281663193125941:=0
def tw14468057298489106992:=0
def tw10866585694145688881:=0
def tw5633410847428715751:=0
def tw575867488307815560:=0
def tw532875148392646638:=0
def tw11890596953061662480:=0
def tw3420610269514971282:=0
def tw257782480151950178:=0
def tw18160294292345653576:=0
def tw9193615536140101907:=0
def tw593287250356660217:=0
def tw6846899813900057223:=0
def tw7026897612586476851:=0
def tw5759083570681613310:=0
def tw9489422099714042756:=0
def tw13409456795544551248:=0
def tw2493507006710606528:=0
def tw11680385369152441183:=0
def tw5305288661522519247:=0
def tw7346488460373521707:=0
def tw4699176695858369936:=0
def tw16229414423968327849:=0
def tw2431373915830788590:=0
def tw15457485737333757673:=0
def tw9625008529231253016:=0
def tw12441595260886202947:=0
def tw2770785086537745940:=0
def tw10895692830877881637:=0
def tw12402527661514515390:=0
def tw3655553311035012599:=0
def tw15966646749731335985:=0
def tw115247963067792126:=0
def tw13830835393761086489:=0
def tw12632407152428107911:=0
def tw14851334489160501332:=0
def tw5258667329612252091:=0
def tw3101686281395613548:=0
def tw5068580340897211512:=0
def tw9752563528864754421:=0
def tw12296465924023241405:=0
def tw2665756061295489230:=0
def tw1354440813348023657:=0
def tw11925537579643034418:=0
def tw6904793995184682241:=0
def tw11053007475839211602:=0
def tw6179242596736796830:=0
def tw7333331870418601687:=0
def tw6991753083183592364:=0
def tw6655894042841982126:=0
def tw14316500980309488416:=0
def tw12964525706222819157:=0
def tw6097274350356480457:=0
def tw6538207969352410092:=0
def tw18232623969525727832:=0
def tw14345799381919865831:=0
def tw2572050842202481283:=0
def tw13957763923193110788:=0
def tw2110313815021381624:=0
def tw5564175159559755266:=0
def tw7516952938513674779:=0
def tw11345710981849198430:=0
def tw13544715488314196023:=0
def tw4813294688303939229:=0
def tw17976119813788343811:=0
def tw9314521779857874597:=0
def tw2050866721444702984:=0
def tw15380298439565111736:=0
def tw17182695263133436636:=0
def tw2047366185937003198:=0
def tw8572299062901666821:=0
def tw7406902398882107509:=0
def tw15139803718890835061:=0
def tw6018076415292756376:=0
def tw14936905252487072352:=0
def tw1789318922699098934:=0
def tw6469334041878180925:=0
def tw12323035564957164028:=0
def tw15419643880760609852:=0
def tw5559759980306811852:=0
def tw7310731844465705660:=0
def tw36954374546499645:=0
def tw7700591077039637405:=0
def tw13664934955327211956:=0
def tw16069550466326096567:=0
def tw18210820744531059716:=0
def tw10810708478781432558:=0
def tw15925221375266889259:=0
def tw15856715586037287963:=0
def tw5980666589122214769:=0
def tw5534652861515190323:=0
def tw3038002234543256954:=0
def tw2720126061446686557:=0
def tw7769543426410225576:=0
def tw6115627895524154472:=0
def tw17044249792562096933:=0
def tw3333201593577993060:=0
def tw8744646451913889272:=0
def tw5272879184425441342:=0
def tw7859579337688822013:=0
def tw12359183114927855096:=0
def tw3369452097719899862:=0
def tw6335331069520130596:=0
def tw5171959490139502290:=0
def tw17892908732029887719:=0
def tw7570113080977079077:=0
def tw8720727493100917655:=0
def tw9989605318894908003:=0
def tw386463076664485461:=0
def tw4759680239214286534:=0
def tw1267117092866129001:=0
def tw12457077263059079889:=0
def tw9671798621693864433:=0
def tw1833655777855839890:=0
def tw6048931996959577179:=0
def tw13050653922723026478:=0
def tw8286594000541865047:=0
def tw10327212938577412489:=0
def tw6505725955379195224:=0
def tw12383926410986999341:=0
def tw13587512808674449536:=0
def tw7843109243213459039:=0
def tw12356220908792114435:=0
def tw2230697102359273844:=0
def tw7790022438295384503:=0
def tw5983366070089642359:=0
def tw3190938956463414968:=0
def tw6115398729663768097:=0
def tw6557358982734827187:=0
def tw12353764132944622160:=0
def tw9803741934847859061:=0
end PySem.W.Fast
set_option maxRecDepth 100000 in
set_option maxHeartbeats 0 in
theorem PySem.Challenge.cw_onefolk_k28_whole_fates_say_why_holds : PySem.Challenge.rw_onefolk_k28_whole_fates_say_why.Holds := by
 w_on;refine PySem.W.holds_law (by decide +kernel) λsaid=>?_
 k_head;(case hw=>w_witness2)
 k_fill
 refine P1.EV (l:=PySem.Challenge.rw_onefolk_k28_whole_fates_say_why) (T:=G28.T) (k:=8) (x := "_law_script") (st:=G28.s_law) (F_law:=G28.F_law) (λt=>t.x_law) ⟨rfl,by decide,by decide⟩ rfl (λw mg base t=>G28.EA t) rfl rfl G28.H1 G28.H2 (λ_ _ _ _ _ _ _=>rfl) (λw h Y=>PySem.W.kIn_of Y) ?F
 case F=>
  intro w mg h KX G
  refine' ⟨P1.lN KX G _ _ _ _,P1.lN KX G _ _ _ _,P1.lN KX G _ _ _ _,P1.lN KX G _ _ _ _,P1.lN KX G _ _ _ _,P1.lN KX G _ _ _ _,P1.lN KX G _ _ _ _,P1.lN KX G _ _ _ _,P1.lN KX G _ _ _ _,P1.lN KX G _ _ _ _,P1.lN KX G _ _ _ _,P1.lN KX G _ _ _ _,P1.lN KX G _ _ _ _,P1.lN KX G _ _ _ _,P1.lN KX G _ _ _ _,P1.lN KX G _ _ _ _,P1.lN KX G _ _ _ _,P1.lN KX G _ _ _ _,P1.lN KX G _ _ _ _,P1.lN KX G _ _ _ _,P1.lN KX G _ _ _ _,P1.lN KX G _ _ _ _,P1.lN KX G _ _ _ _,P1.lN KX G _ _ _ _,P1.lN KX G _ _ _ _,P1.lN KX G _ _ _ _,P1.lN KX G _ _ _ _,P1.lN KX G _ _ _ _,qf KX G _,qf KX G _,qf KX G _,qf KX G _,qf KX G _,qf KX G _,qf KX G _,qf KX G _,qf KX G _,qf KX G _,qf KX G _,qf KX G _,qf KX G _,qf KX G _,qf KX G _,P1.GI KX G _,P1.GI KX G _,P1.GI KX G _⟩
  all_goals try (show _=_;k_is)
  all_goals try kernel_rfl
