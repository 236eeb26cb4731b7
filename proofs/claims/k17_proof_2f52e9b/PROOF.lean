import PyProof.Rows.All
import Wide.All
import OpenK.AllK
import Wide.FinOn
import PyProof.EqAt
import PyProof.EqKinds
import PyProof.TupleCall
import PyProof.StrLoop
import PyProof.StrWalks
import PyProof.CompFree
import PyProof.NeKinds
import PyProof.Rows.RuleN_isinstance
import PyProof.ConsumeWalk
import PyProof.IsiPairs
import PyProof.IsiSeqPairs
import PyProof.IsiHeapPairs
import PyProof.IsiNone
import PyProof.PureStr
import PyProof.StrCalls
import PyProof.Rows.SortStr
import PyProof.Rows.StrJoin2
import PyProof.CallStr
import PyProof.WalkInts
import PyProof.Rows.StrDigits
import PyProof.DictWalks
import PyProof.DictTruth
import PyProof.CollectWalk
import PyProof.WalkLemmas
import PyProof.Rows.SortShellK
import PyProof.Rows.SortWalk
import PyProof.SetKind
import PyProof.FactsAll.set
import PyProof.Rows.SetFrom
import PyProof.TupleKey
import PyProof.IsRules
import PyProof.WalksMore
import PyProof.SetRoads
import PyProof.DictCompW
import PyProof.ListRange
import PyProof.FString5
import PyProof.MeetsSeq2
import PyProof.FactsAll.tuple_0
import PyProof.FactsAll.tuple_2
import PyProof.FactsAll.tuple_3
import PyProof.EnumFor
import PyProof.EnumMake
import PyProof.EnumStmt
import PyProof.Rows.EnumRows
import PyProof.SumWalk
import PyProof.Rows.SeqCalls
import KE.KRevSl
import PyProof.ZipIter
import PyProof.TupleIter
import PyProof.AttrMiss
import KE.KDictOf
import KE.KDictLaws
import PyProof.TupleOfStr
import PyProof.StrCalls2
import PyProof.Rows.StrNews2
import PyProof.Rows.StrItems
import PyProof.Rows.StrSplitAre
import PyProof.Rows.StrGen4
import PyProof.Rows.RegStrFacts
import PyProof.Rows.FStr
import PyProof.SetNew
import PyProof.Rows.SetObj
import PyProof.Seq
import PyProof.Rows.SortShell
import PyProof.FactsAll.list_3
import KE.KIntText
import PyProof.StrCalls6
import PyProof.FitsReplace
import PyProof.ToksMono
import PyProof.FactsAll.str_4
import PyProof.StrBlock
import PyProof.RangeIter
import PyProof.CodeObj
import PyProof.Rows.CallKwBuiltin
import PyProof.StrLawsTight
import PyProof.Rows.StrPartPair
import PyProof.Rows.CatFin
import PyProof.Rows.StrClose
import PyProof.Rows.StrNext
import PyProof.Rows.StrBetween
import Lean
import PySem.Challenge.RW_onefolk_k17_whole_grounds_side_by_side
open Option renaming some->Z,none->Y
abbrev U:=List
abbrev O:=Option
theorem Δ{α:Sort u}{a:α}:a=a:=rfl
open PySem renaming Value->A0,Addr->A1,Shared->A2,Program->A3,World->A4,Around->A5,Heap->A6,wpAny->A7,model->A8,starEach->A9,sizeLine->AA,Stmt->AB,Keyword->AC,backTo->AD,Obj->AE,codeAny->AF,compareOp->AG,bootBuiltins->AH,Paired->AI,Str->AJ
open PyProof.Rows renaming envOfC->AK,wpS_bind->AL,arrOf->AM
open PySem.W (instObj methodObj keepIn cellsFrom_some fnOf codeIn nsIn mg_of)
set_option maxRecDepth 100000
set_option maxHeartbeats 4000000
set_option linter.all false
set_option Elab.async false
open PySem PySem.Spec PyProof.Rows
variable{w:A4}{i:Nat}{t:SetTable}{x:AJ}{a:A1}{prog:A3}{us:U A0}{u:A0}{κ:Type}{h:A6}{items:Array A0}{P:A3}{α β:Type}{e:Expr}{n:Nat}{mg:AJ->O A0}{base:A6}{l:A1}{env:Env}{m:U (AJ×AJ)}{AN:U (A1×AE)}{s:A2}{it:A1}{j:Nat}{M:Model}{A:A5}{Q:O A0->A2->Prop}{hi:O Int}{D:A1}{es:U Expr}{pos:Pos}{y:AJ}{c tg:Expr}{body:U AB}{fp:U A1}{iter:Expr}{pl:U Nat}{C:A1}{op:CmpOp}{AQ:U A0}{name:AJ}{tpos:Pos}{fd:FuncData}{apos:Pos}{qual:AJ}{scope:Scope}{osl:Array (O A0)}{p2 cpos:Pos}{XP:(AJ->O A0)->A6->Prop}{YP:A4->A6->Prop}{cl:U (AJ×A1)}{is:U Nat}{ifs:U Expr}{elt tgt:Expr}{el:A1->Env->Sem Unit}{B:A5->Bool->Prop}{RR:A0->A1->Result->A2->Prop}{ep mask:Nat}{owner:Array (O Nat)}{elts:U Expr}{x1:Nat}{γ δ:Type}{os:OsState}{bmB:U A0}{newId initId:String}{a_:A1}
abbrev An:=U PySem.Str
abbrev B8:=PySem.Value->PySem.Shared->Prop
abbrev B0:=PySem.W.Frag
abbrev B9:=U Int
abbrev zd:=@wpAny_bind
abbrev ze:=@Heap.get?_push_of_some
abbrev zg:=@wpAny_pure
abbrev zh:=@List.mem_cons_of_mem
abbrev zi:=@List.mem_cons_self
abbrev zk:=@Nat.le_refl
abbrev zl:=@List.length_map
abbrev zo:=@if_pos
abbrev zr:=@Bool.false_eq_true
abbrev zt:=@List.mem_append_left
abbrev zv:=@Heap.get?_push_size
abbrev zw:=@List.map_cons
abbrev zC:=@if_neg
abbrev zD:=@Heap.lt_size
abbrev zI:=@List.mem_append_right
abbrev zS:=@List.size_toArray
abbrev z4:=@Nat.ne_of_lt
abbrev z5:=@List.length_append
abbrev Zl:=@List.getElem?_eq_getElem
abbrev Zp:=@List.getElem?_map
abbrev Zs:=@Nat.le_of_ble_eq_true
abbrev ZA:=@decide_eq_true
abbrev ZE:=@Bool.false_ne_true
abbrev ZH:=@decide_eq_false
abbrev ZI:=@Nat.le_trans
abbrev ZN:=@if_false
abbrev ZO:=@List.getElem?_append_left
abbrev ZT:=@Nat.lt_of_lt_of_le
abbrev ZU:=@List.append_nil
abbrev ZY:=@Bool.and_eq_true
abbrev ZZ:=@List.getElem?_cons_succ
abbrev Z3:=@decide_eq_true_eq
abbrev qa:=@Array.getElem?_eq_getElem
abbrev qc:=@Nat.lt_succ_self
abbrev qf:=@PySem.W.mg_none_of
abbrev qh:=@List.foldl_cons
abbrev qi:=@Array.length_toList
abbrev qk:=@List.length_cons
abbrev qo:=@wpAny_newObj_type
abbrev qq:=@List.map_append
abbrev qr:=@Heap.size_push
abbrev qv:=@List.getElem?_append_right
abbrev qA:=@Array.getElem?_toList
abbrev qB:=@List.all_eq_true
abbrev qS:=@if_true
abbrev qV:=@List.filter_append
abbrev Qb:=@List.getElem?_eq_none
abbrev Qr:=@List.map_map
abbrev QA:=@Nat.lt_succ_of_lt
abbrev QE:=@List.append_assoc
abbrev QI:=@List.mem_of_getElem?
abbrev QN:=@wpAny_mono
abbrev QO:=@List.map_congr_left
abbrev QP:=@decide_eq_false_iff_not
abbrev QQ:=@List.getElem?_replicate
abbrev QR:=@Nat.zero_le
abbrev QU:=@wpAny_holding
abbrev QY:=@Option.some.inj
abbrev Q1:=@wpAny_typeOf
abbrev Q2:=@wpAny_call_entry
abbrev Q3:=@List.getElem_of_mem
abbrev Q4:=@wpAny_setState_of
abbrev ja:=@List.filter_congr
abbrev js:=@wpAny_callSpecial?_slot
abbrev jv:=@Or.inr
abbrev jI:=@List.mem_cons
abbrev jS:=@wpAny_truthy_bool
abbrev j0:=@Nat.le_of_lt
abbrev j3:=@wpAny_field
abbrev Jn:=@of_decide_eq_true
abbrev JA:=@Bool.not_eq_true'
abbrev JE:=@List.nil_append
abbrev JI:=@Bool.eq_iff_iff
abbrev JJ:=@Heap.get?_update_ne
abbrev JO:=@Nat.lt_irrefl
abbrev JP:=@wpAny_isInstance
abbrev JS:=@List.not_mem_nil
abbrev JU:=@List.any_eq_true
abbrev JY:=@List.rel_of_pairwise_cons
abbrev ka:=@codeAny_builtin
abbrev kb:=@List.map_nil
abbrev kc:=@Or.inl
abbrev ke:=@List.any_cons
abbrev kf:=@PySem.mem_of_lookup
abbrev kg:=@List.length_take
abbrev ki:=@Nat.ne_of_gt
abbrev ko:=@wpAny_pyIter_tuple
abbrev kq:=@Obj.data_mapFields
abbrev kr:=@wpAny_passesOwn
abbrev ku:=@Nat.not_lt_zero
abbrev ky:=@List.length_set
abbrev kz:=@List.find?_cons
abbrev kA:=@List.cons.injEq
abbrev kB:=@List.all_cons
abbrev kC:=@Bool.not_true
abbrev kD:=@List.lookup_cons_self
abbrev kF:=@List.length_filter_le
abbrev kK:=@Heap.get?_update_self
abbrev kL:=@List.reverse_cons
abbrev kM:=@Int.toNat_natCast
abbrev kN:=@wpAny_rule
abbrev kP:=@Nat.le_succ
abbrev kQ:=@List.nodup_nil
abbrev kR:=@Bool.not_false
abbrev kT:=@F.slot_tuple_iterator_next
abbrev kU:=@decide_false
abbrev kX:=@List.length_drop
abbrev k4:=@List.filter_cons
abbrev k8:=@List.replicate_succ
abbrev k9:=@List.filterMap_cons
abbrev Kb:=@wpAny_comprehension_free
abbrev Ki:=@List.Pairwise.imp_of_mem
abbrev Kj:=@Ne.symm
abbrev Kk:=@wpAny_setField_rec
abbrev Kn:=@List.filter_filter
abbrev Kt:=@wpAny_getItem_str_slice
abbrev Kx:=@List.filter_cons_of_neg
abbrev KA:=@Nat.zero_add
abbrev KB:=@List.length_range
abbrev KF:=@Array.size_append
abbrev KG:=@Array.getElem?_eq_none
abbrev KI:=@F.slot_enumerate_next
abbrev KL:=@List.getElem_mem
abbrev KM:=@Bool.and_true
abbrev KO:=@decide_true
abbrev KP:=@List.mem_append
abbrev KS:=@List.getElem?_range
abbrev KU:=@Int.toNat_of_nonneg
abbrev KW:=@Heap.SameBut.update
abbrev K0:=@wpAny_load
abbrev K2:=@wpAny_seqItems
abbrev ya:=@List.mem_range
abbrev yb:=@Bool.false_and
abbrev ye:=@Option.isSome_some
abbrev yf:=@List.append_of_mem
abbrev yi:=@List.map_id
abbrev yk:=@List.pairwise_map
abbrev ym:=@List.nodup_append
abbrev yn:=@List.getElem?_set
abbrev yo:=@List.foldl_append
abbrev yv:=@wpAny_standAt
abbrev yz:=@Bool.true_and
abbrev yA:=@PySem.F.args_tuple_add_2
abbrev yB:=@List.nodup_range
abbrev yT:=@PySem.F.entry_tuple_add
abbrev yY:=@List.pairwise_mergeSort
abbrev y0:=@List.filter_cons_of_pos
abbrev y3:=@F.plain_set_update_loop
variable{K:B0}{N:An}{E:B8}{ts ps S n_:An}
namespace L2
abbrev AY:=Sum Int AJ
def lO:AY->A0->Bool
 |.inl k,v=>Value.isInt k v
 |.inr x,v=>Value.isStrOf x v
def V'(w:A4):AY->Int
 |.inl k=>hashInt k
 |.inr x=>hashStr w x
theorem bM:∀{k:AY} {v:A0},lO k v=true->(∃i t,k=Sum.inl i/\v=Value.int i t)\/(∃x t,k=Sum.inr x/\v=Value.str x t)
 |.inl i,v,h=>by
  obtain⟨t,e⟩:=Value.isInt_shape (k:=i) (v:=v) h;exact .inl ⟨i,t,rfl,e⟩
 |.inr x,v,h=>by
  obtain⟨t,e⟩:=Value.isStrOf_shape (x:=x) (v:=v) h;exact .inr ⟨x,t,rfl,e⟩
theorem Wo(i:Int)(t:Tok):lO (.inl i) (.int i t)=true:=by simp[lO,Value.isInt]
theorem Wq(x:AJ)(t:Tok):lO (.inr x) (.str x t)=true:=by simp[lO,Value.isStrOf]
theorem S'(a b:Int):decide ((Sum.inl a:AY)=Sum.inl b)=(a==b):=by
 by_cases e:a=b
 ·subst e;simp
 ·have h:¬ (Sum.inl a:AY)=Sum.inl b:=λq=>e (Sum.inl.inj q);rw[ZH h];exact(beq_eq_false_iff_ne.mpr e).symm
theorem bo(a b:AJ):decide ((Sum.inr a:AY)=Sum.inr b)=decide (a=b):=by
 by_cases e:a=b
 ·subst e;simp
 ·have h:¬ (Sum.inr a:AY)=Sum.inr b:=λq=>e (Sum.inr.inj q);rw[ZH h,ZH e]
theorem P8(a:Int)(b:AJ):decide ((Sum.inl a:AY)=Sum.inr b)=false:=ZH (λq=>nomatch q)
theorem SK(a:AJ)(b:Int):decide ((Sum.inr a:AY)=Sum.inl b)=false:=ZH (λq=>nomatch q)
def bB(prog:A3)(w:A4):PySem.KeyKind prog w AY where
 is:=lO
 hash:=V' w
 inj:=λv a b ha hb=>by
  rcases bM ha with⟨i,t,rfl,rfl⟩|⟨x,t,rfl,rfl⟩
  ·rcases bM hb with⟨j,u,rfl,e⟩|⟨y,u,rfl,e⟩
   ·injection e with e1 _;rw[e1]
   ·exact nomatch e
  ·rcases bM hb with⟨j,u,rfl,e⟩|⟨y,u,rfl,e⟩
   ·exact nomatch e
   ·injection e with e1 _;rw[e1]
 byValue:=λk v h=>by
  rcases bM h with⟨i,t,rfl,rfl⟩|⟨x,t,rfl,rfl⟩<;>rfl
 pyHash:=λc h=>by
  rcases bM c with⟨i,t,rfl,rfl⟩|⟨x,t,rfl,rfl⟩
  ·exact wpAny_pyHash_int h
  ·exact wpAny_pyHash_str h
 eqBool:=λd c h=>by
  rcases bM d with⟨i,t,rfl,rfl⟩|⟨x,t,rfl,rfl⟩
  ·rcases bM c with⟨j,u,rfl,rfl⟩|⟨y,u,rfl,rfl⟩
   ·rw[S']at h;exact wpAny_eqBool_int h
   ·rw[P8]at h;exact SeqAt.EqAt.int_str i t y u _ _ _ _ h
  ·rcases bM c with⟨j,u,rfl,rfl⟩|⟨y,u,rfl,rfl⟩
   ·rw[SK]at h;exact SeqAt.EqAt.str_int x t j u _ _ _ _ h
   ·rw[bo]at h;exact wpAny_eqBool_str h
 «strs»:=λk x t v h=>by
  rcases bM h with⟨i,u,rfl,e⟩|⟨y,u,rfl,e⟩
  ·exact nomatch e
  ·injection e with e1 _;subst e1;cases v<;>rfl
theorem Oa(prog:A3)(w:A4)(i:Int)(t:Tok):(bB prog w).is (.inl i) (.int i t)=true:=Wo i t
theorem Ob(prog:A3)(w:A4)(x:AJ)(t:Tok):(bB prog w).is (.inr x) (.str x t)=true:=Wq x t
end L2
namespace L2
inductive V where
 |non|bl (b:Bool)|int (i:Int)|str (x:Str)|byt (b:Array UInt8)|flt (b:UInt64)|ref (a:Addr)|ty (n:String)
 deriving DecidableEq
def As:V->A0->Prop
 |.non,u=>u=Value.none
 |.bl b,u=>u=Value.bool b
 |.int i,u=>∃t,u=Value.int i t
 |.str x,u=>∃t,u=Value.str x t
 |.byt b,u=>∃t,u=Value.bytes b t
 |.flt b,u=>∃t,u=Value.float b t
 |.ref a,u=>u=Value.ref a
 |.ty n,u=>u=Value.type n
abbrev AX:U V->U A0->Prop:=AI As
theorem AX.length{xs:U V}{us:U A0}(r:AX xs us):xs.length=us.length:=Paired.length r
theorem AX.get:∀{xs:U V} {us:U A0} {i:Nat} {x:V},AX xs us->xs[i]?=Z x->∃u,us[i]?=Z u/\As x u
 |_,_,_,_,.nil,e=>by simp at e
 |_,_,0,_,.cons r _,e=>by simp at e;subst e;exact⟨_,rfl,r⟩
 |_,_,i+1,x,.cons _ t,e=>by
  obtain⟨u,h1,h2⟩:=AX.get (i:=i) (x:=x) t (by simpa using e);exact⟨u,by simpa using h1,h2⟩
theorem AX.set{x:V}{u:A0}(r:As x u):∀{xs:U V} {us:U A0} (i:Nat),AX xs us->AX (xs.set i x) (us.set i u)
 |_,_,_,.nil=>.nil
 |_,_,0,.cons _ t=>.cons r t
 |_,_,i+1,.cons q t=>.cons q (AX.set r i t)
theorem AX.append:∀{xs ys:U V} {us a:U A0},AX xs us->AX ys a->AX (xs++ys) (us++a)
 |_,_,_,_,.nil,s=>s
 |_,_,_,_,.cons r t,s=>.cons r (AX.append t s)
theorem AX.take:∀{xs:U V} {us:U A0} (n:Nat),AX xs us->AX (xs.take n) (us.take n)
 |_,_,0,_=>.nil
 |_,_,_+1,.nil=>.nil
 |_,_,n+1,.cons r t=>.cons r (AX.take n t)
theorem AX.drop:∀{xs:U V} {us:U A0} (n:Nat),AX xs us->AX (xs.drop n) (us.drop n)
 |_,_,0,r=>r
 |_,_,_+1,.nil=>.nil
 |_,_,n+1,.cons _ t=>AX.drop n t
def Et:O V->O A0->Prop
 |some v,Z u=>As v u
 |none,Y=>True
 |_,_=>False
def KV:U (κ×V)->U (κ×A0)->Prop:=AI λ(p:κ×V) (q:κ×A0)=>p.1=q.1/\As p.2 q.2
def kV:AY->V
 |.inl i=>.int i
 |.inr x=>.str x
inductive HO where
 |lst (xs:List V)
 |tup (xs:List V)
 |dK (AO:List (AY×V))|dT (AO:List (List AY×V))
 |set (S:Int->Bool) (n:Nat)
 |ins (C dx:Addr) (fs:List (Str×V))
 |own (x:Addr)
 |xd (fs:List (Str×V))
 |met (f x:Addr)
 |rng (lo hi:Int)
 |uK (o:Obj) (u:HO)
 |tbl (ps:Array Value)
 |ext (φ:Heap->Prop)
abbrev Hp:=A1->O HO
def B5(H:Hp)(a:A1)(o:HO):Hp:=λb=>if b=a then Z o else H b
theorem bJ{H:Hp}{o:HO}:B5 H a o a=Z o:=by unfold B5;rw[zo rfl]
theorem aR{H:Hp}{b:A1}{o:HO}(h:b≠a):B5 H a o b=H b:=by unfold B5;rw[zC h]
def uX(h:A6)(a:A1)(items:Array A0):Prop:=∃o,h.get? a=Z o/\o.cls=.type "tuple" ∧ (∃n,o.data=.seq items n)/\o.dict=Y
theorem uX.weak(x:uX h a items):IsTup h a items:=let ⟨o,e,c,d,_⟩:=x;⟨o,e,c,d⟩
theorem uX.new(h:A6)(items:Array A0):uX (h.push { cls:=.type "tuple",data:=.seq items }) h.objs.size items:=⟨_,zv _ rfl,rfl,⟨_,rfl⟩,rfl⟩
theorem o9{H:Hp}{b:A1}{o u:HO}(h:H a=Z o)(h':H b=Z u)(d:o≠u):a≠b:=by
 intro e;subst e;rw[h]at h';exact d (QY h')
theorem dD{H:Hp}{b:A1}{o:HO}(h:H a=Z o)(h':H b=Y):a≠b:=by
 intro e;subst e;rw[h]at h';cases h'
section
variable(P:A3)(w:A4)
def gR(H:Hp)(h:A6)(a:A1):HO->Prop
 |.lst xs=>xs.length<=AA/\∃(AQ:U A0) (n:Nat),AX xs AQ/\h.get? a=Z { cls:=.type "list",data:=.seq AQ.toArray n }
 |.tup xs=>xs.length<=AA/\∃AQ:U A0,AX xs AQ/\uX h a AQ.toArray
 |.dK AO=>AO.length<=AA/\(a==sysModules)=false/\∃vs,KV AO vs/\h.DictOf (bB P w) a vs
 |.dT AO=>AO.length<=AA/\(a==sysModules)=false/\∃xs:U (U AY×A1×A0),
   AI (λ(p:U AY×V) (q:U AY×A1×A0)=>p.1=q.1/\H q.2.1=Z (.tup (p.1.map kV))/\As p.2 q.2.2) AO xs ∧
   ∃o es ep,h.get? a=Z o/\o.ExactDict/\o.data=.dict es ep/\es.toList=xs.map (entryOfKey (tupleKind (bB P w)))/\(xs.map (·.1)).Nodup
 |.set S n=>h.SetOf (intKind P w) a S n
 |.ins C dx fs=>H dx=Z (.own a)/\fs.length<=1000/\dx≠a/\h.get? a=Z (instObj C dx) ∧
   ∃mA,h.Ns1 dx mA/\(∀f,Et (fs.lookup f) (mA f))/\PySem.Within mA (fs.map (·.1))
 |.own _=>∃o,h.get? a=Z o
 |.xd fs=>∃mA,h.Ns1 a mA/\∀f,Et (fs.lookup f) (mA f)
 |.rng lo hi=>∃t u v,h.get? a=Z { cls:=.type "range",data:=.fields #[.int lo t,.int hi u,.int 1 v] }
 |.uK o u=>h.get? a=Z o/\gR H h a u
 |.tbl ps=>h.get? a=Z { cls:=.none,data:=.fields ps }
 |.met f x=>h.get? a=Z (methodObj (.ref f) (.ref x))
 |.ext b=>b h/\(∃o,h.get? a=Z o)/\∀h1 h2:A6,b h1->(∀o,h1.get? a=Z o->h2.get? a=Z o)->b h2
def yM(H:Hp)(h:A6):Prop:=∀a o,H a=Z o->gR P w H h a o
end
section
variable{H H':Hp}{h':A6}{o:HO}
theorem gR.lt(x:gR P w H h a o):a<h.objs.size:=by
 cases o with
 |lst xs=>obtain⟨_,_,_,_,e⟩:=x;exact zD e
 |tup xs=>obtain⟨_,_,_,p⟩:=x;exact p.weak.lt
 |dK AO=>obtain⟨_,_,_,_,o,_,_,e,_⟩:=x;exact zD e
 |dT AO=>obtain⟨_,_,_,_,o,_,_,e,_⟩:=x;exact zD e
 |set S n=>obtain⟨o,_,_,_,e,_⟩:=x;exact zD e
 |ins C dx fs=>obtain⟨_,_,_,e,_⟩:=x;exact zD e
 |own y=>obtain⟨_,e⟩:=x;exact zD e
 |xd fs=>obtain⟨_,⟨_,_,_,e,_⟩,_⟩:=x;exact zD e
 |rng lo hi=>obtain⟨_,_,_,e⟩:=x;exact zD e
 |uK b u=>obtain⟨e,_⟩:=x;exact zD e
 |tbl ps=>exact zD (show h.get? a=Z _ from x)
 |met f y=>exact zD (show h.get? a=Z _ from x)
 |ext c=>obtain⟨_,⟨_,e⟩,_⟩:=x;exact zD e
theorem Paired.abP{α β:Type}{F G:α->β->Prop}:∀{c:U α} {d:U β},AI F c d->(∀a b,F a b->G a b)->AI G c d
 |_,_,.nil,_=>.nil
 |_,_,.cons r t,f=>.cons (f _ _ r) (Paired.abP t f)
theorem Paired.imp'{F G:α->β->Prop}(f:∀a b,F a b->G a b){c:U α}{d:U β}(r:AI F c d):AI G c d:=Paired.abP r f
theorem gR.stay(x:gR P w H h a o)(k:∀b u,(b=a\/H b=Z (.own a))->h.get? b=Z u->h'.get? b=Z u)
  (ho:∀b,H b=Z (.own a)->H' b=Z (.own a)) (l:∀b xs,H b=Z (.tup xs)->H' b=Z (.tup xs)):gR P w H' h' a o:=by
 induction o with
 |lst xs=>obtain⟨z,AQ,n,r,e⟩:=x;exact⟨z,AQ,n,r,k _ _ (.inl Δ) e⟩
 |tup xs=>obtain⟨z,AQ,r,g,e,c⟩:=x;exact⟨z,AQ,r,g,k _ _ (.inl Δ) e,c⟩
 |dK AO=>obtain⟨z,y,vs,r,g,es,ep,e,c⟩:=x;exact⟨z,y,vs,r,g,es,ep,k _ _ (.inl Δ) e,c⟩
 |dT AO=>
  obtain⟨z,y,xs,r,g,es,ep,e,c⟩:=x;exact⟨z,y,xs,Paired.abP r λp q z=>⟨z.1,l _ _ z.2.1,z.2.2⟩,g,es,ep,k _ _ (.inl Δ) e,c⟩
 |set S n=>obtain⟨g,es,ep,t,e,c⟩:=x;exact⟨g,es,ep,t,k _ _ (.inl Δ) e,c⟩
 |ins C dx fs=>
  obtain⟨d,z,ne,e,mA,⟨i,es,ep,e2,c⟩,r⟩:=x;exact⟨ho _ d,z,ne,k _ _ (.inl Δ) e,mA,⟨i,es,ep,k _ _ (.inr d) e2,c⟩,r⟩
 |own y=>obtain⟨g,e⟩:=x;exact⟨g,k _ _ (.inl Δ) e⟩
 |xd fs=>obtain⟨mA,⟨i,es,ep,e,c⟩,r⟩:=x;exact⟨mA,⟨i,es,ep,k _ _ (.inl Δ) e,c⟩,r⟩
 |rng lo hi=>obtain⟨t,u,v,e⟩:=x;exact⟨t,u,v,k _ _ (.inl Δ) e⟩
 |uK g u j=>obtain⟨e,q⟩:=x;exact⟨k _ _ (.inl Δ) e,j q⟩
 |tbl ps=>
  have e:h.get? a=Z { cls:=.none,data:=.fields ps }:=x;show h'.get? a=Z { cls:=.none,data:=.fields ps };exact k a _ (.inl Δ) e
 |met f y=>
  have e:h.get? a=Z (methodObj (.ref f) (.ref y)):=x;show h'.get? a=Z (methodObj (.ref f) (.ref y));exact k a _ (.inl Δ) e
 |ext m=>obtain⟨p,⟨o,e⟩,st⟩:=x;exact⟨st _ _ p λo q=>k _ _ (.inl Δ) q,⟨o,k _ _ (.inl Δ) e⟩,st⟩
theorem yM.lt(x:yM P w H h)(e:H a=Z o):a<h.objs.size:=(x a o e).lt
theorem yM.fresh(x:yM P w H h)(e:h.objs.size<=a):H a=Y:=by
 cases q:H a with
 |none=>rfl
 |some u=>exact absurd (ZT (x.lt q) e) (JO _)
theorem yM.kept(x:yM P w H h)(k:∀b u,h.get? b=Z u->h'.get? b=Z u):yM P w H h':=λa o e=>
 (x a o e).stay (λb u _ q=>k b u q) (λ_ q=>q) λ_ _ q=>q
theorem yM.laid(x:yM P w H h)(k:∀b u,h.get? b=Z u->h'.get? b=Z u)(hp:h.objs.size<=a)(new:gR P w (B5 H a o) h' a o):yM P w (B5 H a o) h':=λb u e=>by
 have d:=x.fresh hp;by_cases hb:b=a
 ·subst hb;rw[bJ]at e;cases e;exact new
 ·rw[aR hb]at e;exact(x b u e).stay (λc v _ q=>k c v q) (λc q=>by rw[aR (dD q d)];exact q) λc xs q=>by rw[aR (dD q d)];exact q
end
def Rd(H:Hp)(a:A1)(u:HO):Prop:=H a=Z u\/∃o,H a=Z (.uK o u)
theorem Rd.ok{H:Hp}{u:HO}(r:Rd H a u)(x:yM P w H h):gR P w H h a u:=by
 rcases r with r|⟨o,r⟩
 ·exact x a u r
 ·obtain⟨_,q⟩:=x a _ r;exact q
def EW:O HO->Prop
 |some (.lst _)=>True
 |some (.dK _)=>True
 |some (.dT _)=>True
 |some (.set _ _)=>True
 |some (.ins _ _ _)=>True
 |some (.ext _)=>True
 |_=>False
section
variable{H:Hp}{h':A6}{x e:A1}{o':HO}
theorem yM.write(ok:yM P w H h)(a:EW (H x))(he:e=x\/H e=Z (.own x))(k:∀b u,b≠e->h.get? b=Z u->h'.get? b=Z u)(l:∃u,h'.get? e=Z u)
  (new:gR P w (B5 H x o') h' x o'):yM P w (B5 H x o') h':=λb u q=>by
 have g:∀c y,H c=Z (.own y)->c≠x:=λc y r z=>by subst z;rw[r]at a;exact a
 have m:∀c xs,H c=Z (.tup xs)->c≠x:=λc xs r z=>by subst z;rw[r]at a;exact a
 by_cases hb:b=x
 ·subst hb;rw[bJ]at q;cases q;exact new
 ·rw[aR hb]at q;by_cases d:b=e
  ·have i:H b=Z (.own x):=by
    rcases he with z|z
    ·exact absurd (d.trans z) hb
    ·rw[d];exact z
   rw[q]at i;cases i;obtain⟨v,j⟩:=l;exact⟨v,by rw[d];exact j⟩
  ·refine(ok b u q).stay (λc v f r=>k c v ?_ r) (λc r=>by rw[aR (g c b r)];exact r) λc xs r=>by rw[aR (m c xs r)];exact r
   rcases f with rfl|f
   ·exact d
   ·rintro rfl;rcases he with z|z
    ·exact g c b f z
    ·rw[f]at z;cases z;exact hb rfl
end
structure Un (fs ex:List Addr) (H H':Hp) (h h':Heap):Prop where
 keep:∀b o,h.get? b=some o->H b=none->b∉fs->b∉ex->h'.get? b=some o
 slot:∀b o,h.get? b=some o->H b=none->b∈fs->b∉ex->∃sl,h'.get? b=some { o with slots:=sl }
 free:∀b o,h.get? b=some o->H b=none->b∉ex->H' b=none
 there:∀b o,h.get? b=some o->b∉ex->∃o',h'.get? b=some o'
 tups:∀b xs,H b=some (.tup xs)->H' b=some (.tup xs)
 Di:∀b o u,H b=some (.uK o u)->H' b=some (.uK o u)
 HX:∀b ps,H b=some (.tbl ps)->∃more,H' b=some (.tbl (ps++more))
section
variable{fs fs' ex ex':U A1}{H H1 H2:Hp}{h1 h2 h':A6}{x e:A1}{o:HO}
theorem Un.any(u:Un fs ex H H1 h h1){b:A1}{a:AE}(q:h.get? b=Z a)(n:H b=Y)(hx:b∉ex):∃sl,h1.get? b=Z { a with slots:=sl }:=by
 by_cases hb:b∈fs
 ·exact u.slot b a q n hb hx
 ·exact⟨a.slots,u.keep b a q n hb hx⟩
theorem Un.kept(k:∀b u,h.get? b=Z u->h'.get? b=Z u):Un fs ex H H h h':=
 ⟨λb a q _ _ _=>k b a q,λb a q _ _ _=>⟨a.slots,k b a q⟩,λ_ _ _ n _=>n,λb a q _=>⟨a,k b a q⟩,λ_ _ q=>q,λ_ _ _ q=>q,λ_ ps q=>⟨#[],by rw[q];simp⟩⟩
theorem Un.refl:Un fs ex H H h h:=Un.kept λ_ _ q=>q
theorem Un.laid(k:∀b u,h.get? b=Z u->h'.get? b=Z u)(hp:h.objs.size<=a)(c:H a=Y):Un fs ex H (B5 H a o) h h' where
 keep:=λb u q _ _ _=>k b u q
 slot:=λb u q _ _ _=>⟨u.slots,k b u q⟩
 free:=λb u q n _=>by rw[aR (z4 (ZT (zD q) hp))];exact n
 there:=λb u q _=>⟨u,k b u q⟩
 tups:=λb xs q=>by rw[aR (dD q c)];exact q
 Di:=λb u xs q=>by rw[aR (dD q c)];exact q
 HX:=λb ps q=>⟨#[],by rw[aR (dD q c),q];simp⟩
theorem Un.write(a:EW (H x))(he:e=x\/H e=Z (.own x))(k:∀b u,b≠e->h.get? b=Z u->h'.get? b=Z u)(f:∃u,h'.get? e=Z u):Un fs ex H (B5 H x o) h h':=by
 have hx:∀b,H b=Y->b≠x:=λb n z=>by subst z;rw[n]at a;exact a
 have hb:∀b,H b=Y->b≠e:=λb n z=>by
  subst z;rcases he with r|r
  ·exact hx b n r
  ·rw[n]at r;cases r
 have c:∀b u,H b=Z u->¬ EW (Z u)->b≠x:=λb u q nm z=>by subst z;rw[q]at a;exact nm a
 refine⟨λb u q n _ _=>k b u (hb b n) q,λb u q n _ _=>⟨u.slots,k b u (hb b n) q⟩,λb u q n _=>by rw[aR (hx b n)];exact n,λb u q _=>?_,
  λb xs q=>by rw[aR (c b _ q λz=>z)];exact q,λb u xs q=>by rw[aR (c b _ q λz=>z)];exact q,λb ps q=>⟨#[],by rw[aR (c b _ q λz=>z),q];simp⟩⟩
 by_cases d:b=e
 ·subst d;exact f
 ·exact⟨u,k b u d q⟩
end
def G2(h:A6)(H:Hp):U A1:=(List.range h.objs.size).filter λa=>(H a).isSome
def KC(h:A6)(H:Hp):A6:=PySem.W.hideAll h (G2 h H)
theorem Wr(h:A6)(H:Hp):(KC h H).objs.size=h.objs.size:=PySem.W.hideAll_size _ _
theorem Yu{H:Hp}{b:A1}{o:AE}(e:h.get? b=Z o)(n:H b=Y):(KC h H).get? b=Z o:=
 PySem.W.hideAll_get _ e λa=>by
  have q:(H b).isSome=true:=(List.mem_filter.mp a).2;rw[n]at q;simp at q
theorem OO{H:Hp}{b:A1}{o:AE}(e:(KC h H).get? b=Z o):h.get? b=Z o/\H b=Y:=by
 have e':h.get? b=Z o:=PySem.W.of_hideAll (G2 h H) e;refine⟨e',?_⟩;cases q:H b with
 |none=>rfl
 |some x=>
  have a:b∈G2 h H:=List.mem_filter.mpr ⟨List.mem_range.mpr (zD e'),by simp[q]⟩;have z:(KC h H).get? b=Y:=PySem.W.hideAll_none (G2 h H) a;rw[z]at e;cases e
def Of(g h:A6)(L:A1):U (A1×AE):=(List.range h.objs.size).filterMap λa=>if a=L\/(g.get? a).isSome=true then Y else(h.get? a).map λo=>(a,o)
def AS(g h:A6)(L d:A1):U (A1×AE):=(Of g h L).filter λp=>decide (p.1≠d)
end L2
namespace L2
structure Mod (K:B0) (mg:Str->Option Value) (base:Heap):Prop where
 kin:K.In base
 glob:base.Ns mainGlobals mg
 blt:∃mb,base.Ns builtinsNs mb/\∀x:Str,x ≠ "__name__" → mb x=bootBuiltins x
 nolimit:base.NoLimit
structure Cx where
 prog:Program
 w:World
 K:B0
 mg:Str->Option Value
 base:Heap
 A:Around
 N:An
 s₀:Shared
 H₀:Hp
 env:Env
 outer:List Env
 stack:List Env
 ex:List Addr
 fn:Str->Bool
 calm:Bool
 pn:List (Addr×Obj)
 xe:B8
def Cb(l:U Env):U A1:=l.filterMap (·.frame)
abbrev Cx.fs(X:Cx):U A1:=Cb X.outer
def Yk(a:Scope)(x:AJ):Prop:=a.names.lookup x=Z .local\/a.names.lookup x=Z .cell\/a.names.lookup x=Z .free
def Co(a:Scope)(x:AJ):Prop:=a.names.lookup x=Z .local\/a.names.lookup x=Z .cell
def GY(env:Env)(h:A6)(m:AJ->O A0)(x:AJ)(u:A0):Prop:=
 (env.kindOf x=Z .local/\m x=Z u)\/((env.kindOf x=Z .cell\/env.kindOf x=Z .free)/\∃c,env.cells.lookup x=Z c/\h.IsCell c (Z u))
structure Cx.Ok (X:Cx):Prop where
 mod:Mod X.K X.mg X.base
 kind:X.env.scope.kind=.function
 glob:X.env.globals=mainGlobals
 blt:X.env.builtins=builtinsNs
 above:X.s₀.heap.objs.size<=X.env.locals
 inj:∀x y c,X.env.cells.lookup x=some c->X.env.cells.lookup y=some c->x=y
 has:∀x,(X.env.kindOf x=some .cell\/X.env.kindOf x=some .free)->∃c,X.env.cells.lookup x=some c
 cab:∀x c,X.fn x=true->X.env.cells.lookup x=some c->X.s₀.heap.objs.size<=c
 hd:X.calm=true->X.A.handled=none
 frames:X.A.frames=some X.stack
 stk:X.stack=X.outer\/(X.stack=X.env::X.outer/\X.env.frame=some X.env.locals)
 exf:∀b∈X.ex,b≠X.env.locals/\∀x c,X.env.cells.lookup x=some c->c≠b
 bs:∀b o,X.base.get? b=some o->X.s₀.heap.get? b=some o/\X.H₀ b=none
 bsz:X.base.objs.size<=X.s₀.heap.objs.size
 Yv:∀b o,X.base.get? b=some o->b∉X.ex
 abS:∀b∈X.ex,b∉X.fs
 Eu:X.s₀.heap.FunFrames X.base X.outer
 frf:∀b∈X.fs,X.H₀ b=none
structure AU (X:Cx) (AN:List (Addr×Obj)) (σ:List (Option V)) (H:Hp) (s:Shared):Prop where
 ok:X.Ok
 os:s.os=X.s₀.os
 bare:AllBare s.gens
 base:Un X.fs X.ex X.H₀ H X.s₀.heap s.heap
 loc:∃m,s.heap.Ns X.env.locals m/\∀(i:Nat) (x:Str) (v:V),X.N[i]?=some x->σ[i]?=some (some v)->Yk X.env.scope x->∃u,As v u/\GY X.env s.heap m x u
 cell:∀x c,X.env.cells.lookup x=some c->∃v,s.heap.IsCell c v
 free:H X.env.locals=none
 qL:∀x c,X.env.cells.lookup x=some c->H c=none
 pin:∀p∈X.pn++AN,s.heap.get? p.1=some p.2/\H p.1=none/\p.1≠X.env.locals/\p.1∉X.fs/\∀v,p.2.data≠.cell v
 hok:yM X.prog X.w H s.heap
 len:σ.length=X.N.length
section
variable{X:Cx}{σ:U (O V)}{H H':Hp}{h':A6}
theorem Cx.Ok.ajG(ok:X.Ok){b:A1}{o:AE}(e:X.base.get? b=Z o):b∉X.fs:=λhb=>by
 have:=(ok.Eu.mem hb).1;rw[e]at this;cases this
theorem AU.bs(I:AU X AN σ H s):∀b o,X.base.get? b=Z o->s.heap.get? b=Z o/\H b=Y:=λb o e=>
 ⟨I.base.keep b o (I.ok.bs b o e).1 (I.ok.bs b o e).2 (I.ok.ajG e) (I.ok.Yv b o e),I.base.free b o (I.ok.bs b o e).1 (I.ok.bs b o e).2 (I.ok.Yv b o e)⟩
theorem AU.bk(I:AU X AN σ H s):∀b o,X.base.get? b=Z o->s.heap.get? b=Z o:=λb o e=>(I.bs b o e).1
theorem AU.mod(I:AU X AN σ H s):Mod X.K X.mg X.base:=I.ok.mod
theorem AU.kIn(I:AU X AN σ H s):X.K.In s.heap:=I.ok.mod.kin.keeps I.bk
theorem AU.lt(I:AU X AN σ H s):X.env.locals<s.heap.objs.size:=let ⟨_,hn,_⟩:=I.loc;hn.lt
theorem AU.sz(I:AU X AN σ H s):X.s₀.heap.objs.size<=s.heap.objs.size:=ZI I.ok.above (j0 I.lt)
theorem AU.ajH(I:AU X AN σ H s)(h:s.heap.objs.size<=a):a∉X.fs:=λhb=>by
 obtain⟨_,o,ho,_⟩:=I.ok.Eu.mem hb;exact absurd (ZT (zD ho) (ZI I.sz h)) (JO _)
theorem AU.cne(I:AU X AN σ H s):∀x c,X.env.cells.lookup x=Z c->c≠X.env.locals:=λx c e z=>by
 obtain⟨v,o,ho,a⟩:=I.cell x c e;obtain⟨m,⟨o',es,ep,d,b,_⟩,_⟩:=I.loc;rw[z,d]at ho;cases ho;rw[b]at a;cases a
theorem AU.Eu(I:AU X AN σ H s):s.heap.FunFrames X.base X.outer:=by
 have all:∀(l:U Env),(∀b∈Cb l,b∈X.fs)->X.s₀.heap.FunFrames X.base l->s.heap.FunFrames X.base l:=by
  intro l
  induction l with
  |nil=>intro _ _;trivial
  |cons env r g=>
   intro hs f;obtain⟨j,⟨L,o,a,i,ho,h⟩,d⟩:=f;have c:L∈X.fs:=hs L (by unfold Cb;rw[k9,a];exact zi);obtain⟨sl,e⟩:=I.base.slot L o ho (I.ok.frf L c) c λz=>I.ok.abS L z c;exact⟨j,⟨L,_,a,i,e,h⟩,g (λb hb=>hs b (by unfold Cb;rw[k9,a];exact zh _ hb)) d⟩
 exact all X.outer (λ_ hb=>hb) I.ok.Eu
theorem AU.stack(I:AU X AN σ H s):s.heap.FunFrames X.base X.stack:=by
 rcases I.ok.stk with e|⟨e,a⟩
 ·rw[e];exact I.Eu
 ·rw[e];obtain⟨m,b,_⟩:=I.loc;refine .cons (by rw[I.ok.kind];decide) a b ?_ I.Eu;exact Heap.get?_none_of_le (ZI I.ok.bsz I.ok.above)
theorem AU.KD(I:AU X AN σ H s):∀b∈Cb X.stack,b∈X.env.locals::X.fs:=λb hb=>by
 rcases I.ok.stk with e|⟨e,a⟩
 ·rw[e]at hb;exact zh _ hb
 ·rw[e]at hb;unfold Cb at hb;rw[k9,a]at hb;exact hb
theorem AU.UL(I:AU X AN σ H s):∀b∈Cb X.stack,H b=Y:=λb hb=>by
 rcases List.mem_cons.mp (I.KD b hb)with e|hb
 ·rw[e];exact I.free
 ·obtain⟨_,o,ho,_⟩:=I.ok.Eu.mem hb;exact I.base.free b o ho (I.ok.frf b hb) λz=>I.ok.abS b z hb
theorem AU.step{g':Array GenState}{t':Nat}{d':Drawn}{ch:U A1}(I:AU X AN σ H s)
  (f:∀b∈ch,(b∈X.ex\/X.s₀.heap.objs.size<=b)/\b≠X.env.locals/\(∀x c,X.env.cells.lookup x=Z c->c≠b)/\∀p∈X.pn++AN,p.1≠b)
  (keep:∀b o,b≠X.env.locals->b∉X.fs->b∉ch->s.heap.get? b=Z o->H b=Y->h'.get? b=Z o)
  (slot:∀b o,b≠X.env.locals->b∈X.fs->b∉ch->s.heap.get? b=Z o->H b=Y->∃sl,h'.get? b=Z { o with slots:=sl }) (free:∀b o,b∉ch->s.heap.get? b=Z o->H b=Y->H' b=Y)
  (E:∀b o,b∉ch->s.heap.get? b=Z o->∃o',h'.get? b=Z o')
  (K:∀b xs,H b=Z (.tup xs)->H' b=Z (.tup xs)) (J:∀b o u,H b=Z (.uK o u)->H' b=Z (.uK o u)) (F:∀b ps,H b=Z (.tbl ps)->∃more,H' b=Z (.tbl (ps++more)))
  (D:∀m,s.heap.Ns X.env.locals m->h'.Ns X.env.locals m) (N:yM X.prog X.w H' h') (hg:AllBare g'):
  AU X AN σ H' { s with heap:=h',gens:=g',drawn:=d',toks:=t' }:=by
 have t:∀b o,X.s₀.heap.get? b=Z o->b≠X.env.locals:=λb o e=>z4 (ZT (zD e) I.ok.above);have g:∀b o,X.s₀.heap.get? b=Z o->b∉X.ex->b∉ch:=λb o e hx hb=>by
  rcases(f b hb).1 with z|z
  ·exact hx z
  ·exact absurd (ZT (zD e) z) (JO _)
 have y:∀x c,X.env.cells.lookup x=Z c->∀v,s.heap.IsCell c v->h'.IsCell c v:=λx c e v ⟨o,ho,h⟩=>by
  have a:c∉ch:=λz=>(f c z).2.2.1 x c e rfl;by_cases A:c∈X.fs
  ·obtain⟨sl,q⟩:=slot c o (I.cne x c e) A a ho (I.qL x c e);exact⟨_,q,h⟩
  ·exact⟨o,keep c o (I.cne x c e) A a ho (I.qL x c e),h⟩
 refine⟨I.ok,I.os,hg,⟨λb o e n hb hx=>?_,λb o e n hb hx=>?_,λb o e n hx=>?_,λb o e hx=>?_,λb xs e=>K b xs (I.base.tups b xs e),λb o xs e=>J b o xs (I.base.Di b o xs e),λb ps e=>?_⟩,?_,λx c e=>?_,?_,λx c e=>?_,λp hp=>?_,N,I.len⟩
 ·exact keep b o (t b o e) hb (g b o e hx) (I.base.keep b o e n hb hx) (I.base.free b o e n hx)
 ·obtain⟨sl,e1⟩:=I.base.slot b o e n hb hx;obtain⟨C,e2⟩:=slot b _ (t b o e) hb (g b o e hx) e1 (I.base.free b o e n hx);exact⟨C,e2⟩
 ·obtain⟨o',e1⟩:=I.base.there b o e hx;exact free b o' (g b o e hx) e1 (I.base.free b o e n hx)
 ·obtain⟨o',e1⟩:=I.base.there b o e hx;exact E b o' (g b o e hx) e1
 ·obtain⟨M,e1⟩:=I.base.HX b ps e;obtain⟨G,e2⟩:=F b _ e1;exact⟨M++G,by rw[e2,Array.append_assoc]⟩
 ·obtain⟨m,L,B⟩:=I.loc;refine⟨m,D m L,λi x v e1 e2 e3=>?_⟩;obtain⟨u,r,l⟩:=B i x v e1 e2 e3;refine⟨u,r,?_⟩;rcases l with l|⟨k,c,e,z⟩
  ·exact .inl l
  ·exact .inr ⟨k,c,e,y x c e _ z⟩
 ·obtain⟨v,z⟩:=I.cell x c e;exact⟨v,y x c e v z⟩
 ·obtain⟨m,⟨o,_,_,ho,_⟩,_⟩:=I.loc;exact free _ o (λz=>(f _ z).2.1 Δ) ho I.free
 ·obtain⟨v,o,ho,h⟩:=I.cell x c e;exact free c o (λz=>(f c z).2.2.1 x c e Δ) ho (I.qL x c e)
 ·obtain⟨e,n,ne,j,d⟩:=I.pin p hp;have a:p.1∉ch:=λz=>(f p.1 z).2.2.2 p hp rfl;exact⟨keep p.1 p.2 ne j a e n,free p.1 p.2 a e n,ne,j,d⟩
theorem AU.un{t':Nat}(I:AU X AN σ H s)(u:Un X.fs [] H H' s.heap h')(f:yM X.prog X.w H' h'):AU X AN σ H' { s with heap:=h',toks:=t' }:=by
 obtain⟨m,⟨o,es,ep,ho,r⟩,_⟩:=id I.loc;obtain⟨sl,g⟩:=u.any ho I.free (by simp);exact I.step (g':=s.gens) (d':=s.drawn) (ch:=[]) (λ_ z=>nomatch z) (λb o _ hb _ e n=>u.keep b o e n hb (by simp)) (λb o _ hb _ e n=>u.slot b o e n hb (by simp)) (λb o _ e n=>u.free b o e n (by simp)) (λb o _ e=>u.there b o e (by simp)) u.tups u.Di u.HX (λj h=>by
  obtain⟨o',c,i,a,d⟩:=h;rw[ho]at a;cases a;exact⟨_,c,i,g,d⟩) f I.bare
theorem AU.call{g':Array GenState}{t':Nat}{d':Drawn}{ch:U A1}(I:AU X AN σ H s)(u:Un (Cb X.stack) ch H H' s.heap h')(j:yM X.prog X.w H' h')(hg:AllBare g')
  (f:∀b∈ch,(b∈X.ex\/X.s₀.heap.objs.size<=b)/\b≠X.env.locals/\(∀x c,X.env.cells.lookup x=Z c->c≠b)/\∀p∈X.pn++AN,p.1≠b):
  AU X AN σ H' { s with heap:=h',gens:=g',drawn:=d',toks:=t' }:=by
 obtain⟨m,⟨o,es,ep,ho,r⟩,_⟩:=id I.loc;obtain⟨sl,d⟩:=u.any ho I.free λz=>(f _ z).2.1 rfl;exact I.step (ch:=ch) f (λb o d hb a e n=>u.keep b o e n (λz=>(List.mem_cons.mp (I.KD b z)).elim d hb) a) (λb o _ _ a e n=>u.any e n a) (λb o a e n=>u.free b o e n a) (λb o a e=>u.there b o e a) u.tups u.Di u.HX (λt l=>by
  obtain⟨o',h,q,g,i⟩:=l;rw[ho]at g;cases g;exact⟨_,h,q,d,i⟩) j hg
theorem AU.turned{t':Nat}(I:AU X AN σ H s)(k:∀b o,b≠it->s.heap.get? b=Z o->h'.get? b=Z o)(i:H it=Y)(d:it≠X.env.locals)(h1:it∈X.ex\/X.s₀.heap.objs.size<=it)(h2:∀x c,X.env.cells.lookup x=Z c->c≠it)(g:∀p∈X.pn++AN,p.1≠it):AU X AN σ H { s with heap:=h',toks:=t' }:=by
 have f:∀b u,H b=Z u->b≠it:=λb u e z=>by rw[z,i]at e;cases e
 refine I.step (g':=s.gens) (d':=s.drawn) (ch:=[it]) (λb hb=>?_) (λb o _ _ a e _=>k b o (λz=>a (by simp[z])) e) (λb o _ _ a e _=>⟨o.slots,k b o (λz=>a (by simp[z])) e⟩) (λ_ _ _ _ n=>n)
  (λb o a e=>⟨o,k b o (λz=>a (by simp[z])) e⟩) (λ_ _ e=>e) (λ_ _ _ e=>e) (λb ps e=>⟨#[],by rw[e];simp⟩) (λm h=>?_) (λb u e=>?_) I.bare
 ·have e:b=it:=by simpa using hb
  subst e;exact⟨h1,d,h2,g⟩
 ·obtain⟨o,es,ep,ho,r⟩:=h;exact⟨o,es,ep,k _ o (Kj d) ho,r⟩
 ·refine(I.hok b u e).stay (λc v a q=>k c v ?_ q) (λ_ q=>q) λ_ _ q=>q;rcases a with z|z
  ·rw[z];exact f b u e
  ·exact f c _ z
theorem AU.tok(I:AU X AN σ H s)(t:Nat):AU X AN σ H { s with toks:=t }:=I.un (h':=s.heap) (t':=t) Un.refl I.hok
theorem AU.kept{t':Nat}(I:AU X AN σ H s)(k:∀b u,s.heap.get? b=Z u->h'.get? b=Z u):AU X AN σ H { s with heap:=h',toks:=t' }:=I.un (Un.kept k) (I.hok.kept k)
theorem AU.laid{a:A1}{o:HO}{t':Nat}(I:AU X AN σ H s)(k:∀b u,s.heap.get? b=Z u->h'.get? b=Z u)(hp:s.heap.objs.size<=a)(new:gR X.prog X.w (B5 H a o) h' a o):
  AU X AN σ (B5 H a o) { s with heap:=h',toks:=t' }:=I.un (Un.laid k hp (I.hok.fresh hp)) (I.hok.laid k hp new)
theorem AU.write{x e:A1}{o:HO}{t':Nat}(I:AU X AN σ H s)(a:EW (H x))(he:e=x\/H e=Z (.own x))(k:∀b u,b≠e->s.heap.get? b=Z u->h'.get? b=Z u)(c:∃u,h'.get? e=Z u)
  (new:gR X.prog X.w (B5 H x o) h' x o):AU X AN σ (B5 H x o) { s with heap:=h',toks:=t' }:=I.un (Un.write a he k c) (I.hok.write a he k c new)
theorem AU.KH{a:U (A1×AE)}(I:AU X AN σ H s)(h:∀p∈a,s.heap.get? p.1=Z p.2/\H p.1=Y/\p.1≠X.env.locals/\p.1∉X.fs/\∀v,p.2.data≠.cell v):AU X a σ H s:=
 ⟨I.ok,I.os,I.bare,I.base,I.loc,I.cell,I.free,I.qL,λp hp=>(List.mem_append.mp hp).elim (λz=>I.pin p (zt _ z)) (h p),I.hok,I.len⟩
theorem Oc(c:N.Nodup)(a:N[i]?=Z x)(b:N[j]?=Z x):i=j:=by
 obtain⟨h1,e1⟩:=List.getElem?_eq_some_iff.mp a;obtain⟨h2,e2⟩:=List.getElem?_eq_some_iff.mp b;exact(List.getElem_inj c).mp (e1.trans e2.symm)
theorem Ws{v:V}{Q:Unit->A2->Prop}(I:AU X AN σ H s)(hN:X.N.Nodup)(hi:X.N[i]?=Z x)(hx:Co X.env.scope x)(r:As v u)(h:∀s',AU X AN (σ.set i (Z v)) H s'->(∃a,Heap.SameBut a s.heap s'.heap/\(a=X.env.locals\/X.env.cells.lookup x=Z a))->Q () s')(hf:X.fn x=true\/X.env.scope.names.lookup x=Z .local:=by first|exact .inl rfl|exact .inr rfl|assumption):A7 M A (storeName X.env x u) Q E s:=by
 obtain⟨m,G,L⟩:=id I.loc;have a7:(X.env.scope.kind==.class||(X.env.scope.kind==.module&&X.env.locals !=X.env.globals))=false:=by rw[I.ok.kind];rfl
 have a3:i<σ.length:=by rw[I.len];exact(List.getElem?_eq_some_iff.mp hi).1
 have cne:=I.cne;have S:∀{a:A1} {h':A6},(∃o,s.heap.get? a=Z o/\H a=Y)->Heap.SameBut a s.heap h'->yM X.prog X.w H h':=λ{a h'} ha hs b ob e=>by
  obtain⟨_,_,a2⟩:=ha;refine(I.hok b ob e).stay (λc B f q=>(hs.2 c ?_).trans q) (λ_ q=>q) λ_ _ q=>q;rintro rfl;rcases f with rfl|f
  ·rw[a2]at e;cases e
  ·rw[a2]at f;cases f
 rcases hx with g|g
 ·refine wpAny_storeName_local g G (λh' a5 hs=>?_) a7;obtain⟨oL,_,_,a6,_⟩:=id G;refine h _ ⟨I.ok,I.os,I.bare,⟨λb o e n hb hx=>?_,λb o e n hb hx=>?_,I.base.free,λb o e hx=>?_,I.base.tups,I.base.Di,I.base.HX⟩,⟨_,a5,λj y D e1 e2 e3=>?_⟩,λy c e=>?_,I.free,I.qL,λp hp=>?_,S ⟨oL,a6,I.free⟩ hs,by simpa using I.len⟩ ⟨_,hs,.inl rfl⟩
  ·exact(hs.2 b (z4 (ZT (zD e) I.ok.above))).trans (I.base.keep b o e n hb hx)
  ·obtain⟨sl,e1⟩:=I.base.slot b o e n hb hx;exact⟨sl,(hs.2 b (z4 (ZT (zD e) I.ok.above))).trans e1⟩
  ·obtain⟨o',e1⟩:=I.base.there b o e hx;exact⟨o',(hs.2 b (z4 (ZT (zD e) I.ok.above))).trans e1⟩
  ·by_cases l:j=i
   ·subst l;rw[hi]at e1;cases e1;rw[List.getElem?_set_self a3]at e2;cases e2;exact⟨u,r,.inl ⟨g,by simp⟩⟩
   ·rw[List.getElem?_set_ne (Kj l)]at e2;obtain⟨F,J,q⟩:=L j y D e1 e2 e3;refine⟨F,J,?_⟩;rcases q with⟨k,e⟩|⟨k,c,e,z⟩
    ·refine .inl ⟨k,?_⟩;have:y≠x:=λe=>l (Oc hN e1 (e▸hi));simp[this,e]
    ·exact .inr ⟨k,c,e,z.sameBut hs (cne y c e)⟩
  ·obtain⟨B,z⟩:=I.cell y c e;exact⟨B,z.sameBut hs (cne y c e)⟩
  ·obtain⟨e,n,ne,C,d⟩:=I.pin p hp;exact⟨(hs.2 p.1 ne).trans e,n,ne,C,d⟩
 ·have K:X.fn x=true:=by
   rcases hf with z|z
   ·exact z
   ·rw[z]at g;cases g
  obtain⟨c,f⟩:=I.ok.has x (.inl g);obtain⟨B,z⟩:=I.cell x c f;refine wpAny_storeName_cell I.ok.kind g f z (λh' P hs=>?_);obtain⟨W,a0,a4⟩:=id z;refine h { s with heap:=h' } ⟨I.ok,I.os,I.bare,⟨λb o e n hb hx=>?_,λb o e n hb hx=>?_,I.base.free,λb o e hx=>?_,I.base.tups,I.base.Di,I.base.HX⟩,⟨m,G.sameBut hs (Kj (cne x c f)),λj y D e1 e2 e3=>?_⟩,λy t e=>?_,I.free,I.qL,λp hp=>?_,S ⟨W,a0,I.qL x c f⟩ hs,by simpa using I.len⟩ ⟨c,hs,.inr f⟩
  ·exact(hs.2 b (z4 (ZT (zD e) (I.ok.cab x c K f)))).trans (I.base.keep b o e n hb hx)
  ·obtain⟨sl,e1⟩:=I.base.slot b o e n hb hx;exact⟨sl,(hs.2 b (z4 (ZT (zD e) (I.ok.cab x c K f)))).trans e1⟩
  ·obtain⟨o',e1⟩:=I.base.there b o e hx;exact⟨o',(hs.2 b (z4 (ZT (zD e) (I.ok.cab x c K f)))).trans e1⟩
  ·by_cases l:j=i
   ·subst l;rw[hi]at e1;cases e1;rw[List.getElem?_set_self a3]at e2;cases e2;exact⟨u,r,.inr ⟨.inl g,c,f,P⟩⟩
   ·rw[List.getElem?_set_ne (Kj l)]at e2;obtain⟨F,J,q⟩:=L j y D e1 e2 e3;refine⟨F,J,?_⟩;rcases q with q|⟨k,t,e,z'⟩
    ·exact .inl q
    ·refine .inr ⟨k,t,e,z'.sameBut hs ?_⟩;rintro rfl;exact l (Oc hN e1 (I.ok.inj _ _ _ e f▸hi))
  ·by_cases a1:t=c
   ·subst a1;exact⟨_,P⟩
   ·obtain⟨w2,z2⟩:=I.cell y t e;exact⟨w2,z2.sameBut hs a1⟩
  ·obtain⟨e,n,ne,C,d⟩:=I.pin p hp;refine⟨(hs.2 p.1 ?_).trans e,n,ne,C,d⟩;intro q;rw[q,a0]at e;have q':W=p.2:=QY e;exact d B (by rw[<-q'];exact a4)
theorem yN{v:V}{Q:Unit->A2->Prop}(I:AU X AN σ H s)(b:X.N.Nodup)(hi:X.N[i]?=Z x)(hx:Co X.env.scope x)(r:As v u)(h:∀s',AU X AN (σ.set i (Z v)) H s'->Q () s')(a:X.fn x=true\/X.env.scope.names.lookup x=Z .local:=by first|exact .inl rfl|exact .inr rfl|assumption):A7 M A (storeName X.env x u) Q E s:=
 Ws I b hi hx r (λs' c _=>h s' c) a
theorem AU.call'{s':A2}{ch:U A1}(I:AU X AN σ H s)(ho:s'.os=s.os)(u:Un (Cb X.stack) ch H H' s.heap s'.heap)(d:yM X.prog X.w H' s'.heap)(hg:AllBare s'.gens)
  (a:∀b∈ch,(b∈X.ex\/X.s₀.heap.objs.size<=b)/\b≠X.env.locals/\(∀x c,X.env.cells.lookup x=Z c->c≠b)/\∀p∈X.pn++AN,p.1≠b):AU X AN σ H' s':=by
 obtain⟨h',g',d',t',o'⟩:=s';have e:o'=s.os:=ho;subst e;exact I.call (g':=g') (t':=t') (d':=d') u d hg a
end
abbrev XK:=A0->O A1->Hp->Prop
abbrev St:=U (O V)
abbrev VK:=V->Hp->Prop
abbrev TE:=St->Hp->VK->Prop
abbrev TT:=St->Hp->(Bool->Hp->Prop)->Prop
abbrev TA:=St->Hp->(U V->Hp->Prop)->Prop
structure C4 where
 nx:St->Hp->Prop
 rt:VK
 bk:St->Hp->Prop:=λ_ _=>False
 ct:St->Hp->Prop:=λ_ _=>False
abbrev TS:=C4->St->Hp->Prop
def EP(X:Cx)(AN:U (A1×AE))(σ:St)(Q:VK)(u:A0)(s':A2):Prop:=∃v H',AU X AN σ H' s'/\As v u/\Q v H'
def TP(X:Cx)(AN:U (A1×AE))(σ:St)(Q:Bool->Hp->Prop)(b:Bool)(s':A2):Prop:=∃H',AU X AN σ H' s'/\Q b H'
def AP(X:Cx)(AN:U (A1×AE))(σ:St)(Q:U V->Hp->Prop)(us:U A0)(s':A2):Prop:=∃vs H',AU X AN σ H' s'/\AX vs us/\Q vs H'
def SP(X:Cx)(AN:U (A1×AE))(D:C4)(f:Flow)(s':A2):Prop:=
 match f with
 |.next=>∃ σ' H',AU X AN σ' H' s'/\D.nx σ' H'
 |.brk=>∃ σ' H',AU X AN σ' H' s'/\D.bk σ' H'
 |.cont=>∃ σ' H',AU X AN σ' H' s'/\D.ct σ' H'
 |.ret u=>∃v σ' H',AU X AN σ' H' s'/\As v u/\D.rt v H'
def PE(X:Cx)(e:Expr)(t:TE):Prop:=
 ∀(AN:U (A1×AE)) (s:A2) (σ:St) (H:Hp) (Q:VK),AU X AN σ H s->t σ H Q->A7 (A8 X.prog X.w) X.A (eval e X.env) (EP X AN σ Q) X.xe s
def PT(X:Cx)(e:Expr)(t:TT):Prop:=
 ∀(AN:U (A1×AE)) (s:A2) (σ:St) (H:Hp) (Q:Bool->Hp->Prop),AU X AN σ H s->t σ H Q->A7 (A8 X.prog X.w) X.A (isTrue e X.env (eval e X.env)) (TP X AN σ Q) X.xe s
def PW(X:Cx)(e:Expr)(t:TT):Prop:=
 ∀(a:Sem A0) (AN:U (A1×AE)) (s:A2) (σ:St) (H:Hp) (Q:Bool->Hp->Prop),AU X AN σ H s->t σ H Q->A7 (A8 X.prog X.w) X.A (isTrue e X.env a) (TP X AN σ Q) X.xe s
theorem PW.pt{X:Cx}{t:TT}(h:PW X e t):PT X e t:=h _
def PA(X:Cx)(es:U Expr)(t:TA):Prop:=
 ∀(pos:Pos) (AN:U (A1×AE)) (s:A2) (σ:St) (H:Hp) (Q:U V->Hp->Prop),AU X AN σ H s->t σ H Q->A7 (A8 X.prog X.w) X.A (spliced (AD pos (A9 es X.env))) (AP X AN σ Q) X.xe s
def PS(X:Cx)(st:AB)(t:TS):Prop:=
 ∀(AN:U (A1×AE)) (s:A2) (σ:St) (H:Hp) (D:C4),AU X AN σ H s->t D σ H->A7 (A8 X.prog X.w) X.A (exec st X.env) (SP X AN D) X.xe s
def RJ(X:Cx)(st:U AB)(t:TS):Prop:=
 ∀(AN:U (A1×AE)) (s:A2) (σ:St) (H:Hp) (D:C4),AU X AN σ H s->t D σ H->A7 (A8 X.prog X.w) X.A (execs st X.env) (SP X AN D) X.xe s
theorem ji{t:Sem α}{Q b:α->A2->Prop}(h:A7 M A t Q E s)(c:∀a s,Q a s->b a s):A7 M A t b E s:=QN h c λ_ _ x=>x
end L2
namespace L2
section
variable{X:Cx}
def Lu(i:Nat):TE:=λσ H Q=>∃v,σ[i]?=Z (Z v)/\Q v H
def tC(v:V):TE:=λ_ H Q=>Q v H
theorem uY(n:X.N[i]?=Z x)(o:Yk X.env.scope x)(d:(x==("__debug__":AJ))=false:=by decide)(q:(x==("__classdict__":AJ))=false:=by decide):PE X (.Name x pos) (Lu i):=by
 intro AN s σ H Q I h;obtain⟨v,e,h⟩:=h;obtain⟨m,t,j⟩:=I.loc;obtain⟨u,r,l⟩:=j i x v n e o;have b:EP X AN σ Q u s:=⟨v,H,I,r,h⟩;rcases l with⟨a,p⟩|⟨a,c,g,f⟩
 ·exact wpAny_Name (wpAny_loadName_local I.ok.kind a t p b) d
 ·rcases a with a|a
  ·exact wpAny_Name (wpAny_loadName_cell I.ok.kind a g f b) d
  ·exact wpAny_Name (wpAny_loadName_free I.ok.kind a g f b q) d
theorem OR{i j pos}:PE X (.Constant (.int i) j pos) (tC (.int i)):=λ_ _ _ H _ I h=>wpAny_Constant_int ⟨.int i,H,I.tok _,⟨_,rfl⟩,h⟩
theorem RF{b j pos}:PE X (.Constant (.bool b) j pos) (tC (.bl b)):=λ_ _ _ H _ I h=>Constant_bool ⟨.bl b,H,I,rfl,h⟩
theorem Y2{j pos}:PE X (.Constant .none j pos) (tC .non):=λ_ _ _ H _ I h=>Constant_none ⟨.non,H,I,rfl,h⟩
theorem Sb{x j pos}:PE X (.Constant (.str x) j pos) (tC (.str x)):=λ_ _ _ H _ I h=>Calls.Constant_str ⟨.str x,H,I.tok _,⟨_,rfl⟩,h⟩
def Gl(X:Cx)(x:AJ):Prop:=X.env.kindOf x=Z .globalImplicit
theorem UW{σ:St}{H:Hp}{Q:B8}(I:AU X AN σ H s)(hg:Gl X x)(a:X.mg x=Z u)(h:Q u s)(b:(x==("__debug__":AJ))=false:=by decide):A7 (A8 X.prog X.w) X.A (eval (.Name x pos) X.env) Q E s:=
 Calls.Name_function_global I.ok.kind hg (Calls.loadGlobal_global (by rw[I.ok.glob];exact I.mod.glob.keeps I.bk) a h) b
theorem Ew{σ:St}{H:Hp}{Q:B8}(I:AU X AN σ H s)(hg:Gl X x)(b:X.mg x=Y)(a:AH x=Z u)(h:Q u s)(d:x ≠ "__name__":=by decide)(c:(x==("__debug__":AJ))=false:=by decide):A7 (A8 X.prog X.w) X.A (eval (.Name x pos) X.env) Q E s:=by
 obtain⟨e,h1,h2⟩:=I.mod.blt;exact Calls.Name_function_global I.ok.kind hg (Calls.loadGlobal_builtin (by rw[I.ok.glob];exact I.mod.glob.keeps I.bk) b (by rw[I.ok.blt];exact h1.keeps I.bk) ((h2 x d).trans a) h) c
theorem U0{v:V}(hg:Gl X x)(a:X.mg x=Z u)(r:As v u)(b:(x==("__debug__":AJ))=false:=by decide):PE X (.Name x pos) (tC v):=
 λ_ _ _ H _ I h=>UW I hg a ⟨v,H,I,r,h⟩ b
theorem DX{v:V}(hg:Gl X x)(c:X.mg x=Y)(a:AH x=Z u)(r:As v u)(b:x ≠ "__name__":=by decide)(d:(x==("__debug__":AJ))=false:=by decide):PE X (.Name x pos) (tC v):=
 λ_ _ _ H _ I h=>Ew I hg c a ⟨v,H,I,r,h⟩ b d
variable{a b:Expr}{ta tb:TE}
variable{tA tB':TT}{AS:U Expr}
def L8(t u:TT):TT:=λσ H Q=>t σ H λc H1=>if c=true then u σ H1 Q else Q false H1
def LH(t u:TT):TT:=λσ H Q=>t σ H λc H1=>if c=true then Q true H1 else u σ H1 Q
def Sm(t:TT):TT:=λσ H Q=>t σ H λc H1=>Q (!c) H1
theorem eQ(ha:PT X a tA):PW X (.BoolOp .And [a] pos) tA:=by
 intro wh AN s σ H Q I h;refine isTrue_and (ji (ha AN s σ H Q I h) λc b e=>?_);cases c with
 |true=>exact isTrue_and_nil e
 |false=>exact e
theorem OQ(ha:PT X a tA):PW X (.BoolOp .Or [a] pos) tA:=by
 intro wh AN s σ H Q I h;refine isTrue_or (ji (ha AN s σ H Q I h) λc b e=>?_);cases c with
 |false=>exact isTrue_or_nil e
 |true=>exact e
theorem RU(ha:PT X a tA)(hb:PW X (.BoolOp .And (b::AS) pos) tB'):PW X (.BoolOp .And (a::b::AS) pos) (L8 tA tB'):=by
 intro wh AN s σ H Q I h;refine isTrue_and (ji (ha AN s σ H _ I h) λc s1 ⟨H1,I1,q1⟩=>?_);cases c with
 |true=>exact hb wh AN s1 σ H1 Q I1 q1
 |false=>exact⟨H1,I1,q1⟩
theorem Tk(ha:PT X a tA)(hb:PW X (.BoolOp .Or (b::AS) pos) tB'):PW X (.BoolOp .Or (a::b::AS) pos) (LH tA tB'):=by
 intro wh AN s σ H Q I h;refine isTrue_or (ji (ha AN s σ H _ I h) λc s1 ⟨H1,I1,q1⟩=>?_);cases c with
 |true=>exact⟨H1,I1,q1⟩
 |false=>exact hb wh AN s1 σ H1 Q I1 q1
theorem PZ(ha:PT X a tA):PT X (.UnaryOp .Not a pos) (Sm tA):=by
 intro AN s σ H Q I h;exact isTrue_not (ha AN s σ H (λc H1=>Q (!c) H1) I h)
def Sk(ta tb:TE):TE:=λσ H Q=>ta σ H λx H1=>∃c,x=.bl c/\if c=true then tb σ H1 Q else Q (.bl false) H1
def SE(ta:TE):TE:=λσ H Q=>ta σ H λx H1=>∃c,x=.bl c/\Q (.bl (!c)) H1
theorem U1{op}{t:TE}(h:PE X a t):PE X (.BoolOp op [a] pos) t:=λAN s σ H Q I b=>BoolOp_one (h AN s σ H Q I b)
theorem X1(ha:PE X a ta)(hb:PE X (.BoolOp .And (b::AS) pos) tb):PE X (.BoolOp .And (a::b::AS) pos) (Sk ta tb):=by
 intro AN s σ H Q I h;refine BoolOp_and (ji (ha AN s σ H _ I h) λv s1 ⟨x,H1,I1,r1,q1⟩=>?_);obtain⟨c,rfl,q1⟩:=q1;cases r1;refine jS ?_;cases c with
 |true=>exact hb AN s1 σ H1 Q I1 q1
 |false=>exact⟨.bl false,H1,I1,rfl,q1⟩
theorem SL(ha:PE X a ta):PE X (.UnaryOp .Not a pos) (SE ta):=by
 intro AN s σ H Q I h;refine UnaryOp_ (ji (ha AN s σ H _ I h) λv s1 ⟨x,H1,I1,r1,q1⟩=>?_);obtain⟨c,rfl,q1⟩:=q1;cases r1;exact not_of (jS ⟨.bl (!c),H1,I1,rfl,q1⟩)
end
end L2
namespace L2
def uZ(K:B0)(H:Hp)(a:A1)(xs:U V):Prop:=
 Rd H a (.lst xs) ∨
  ∃(o:AE) (AQ:Array A0) (n:Nat),K.lookup a=Z o/\o.cls=.type "list" ∧ o.dict=Y/\o.data=.seq AQ n/\AQ.size<=AA/\AX xs AQ.toList
def wV(K:B0)(H:Hp)(a:A1)(xs:U V):Prop:=
 Rd H a (.tup xs) ∨
  ∃(o:AE) (AQ:Array A0) (n:Nat),K.lookup a=Z o/\(o.cls=.type "tuple" ∧ o.dict=Y)/\o.data=.seq AQ n/\AQ.size<=AA/\AX xs AQ.toList
def GH:A0->O V
 |.none=>Z .non
 |.bool b=>Z (.bl b)
 |.int i _=>Z (.int i)
 |.str x _=>Z (.str x)
 |.bytes b _=>Z (.byt b)
 |.float b _=>Z (.flt b)
 |.ref a=>Z (.ref a)
 |.type n=>Z (.ty n)
 |_=>Y
theorem As.abs{x:V}(r:As x u):GH u=Z x:=by
 cases x with
 |non=>cases r;rfl
 |bl _=>cases r;rfl
 |int _=>obtain⟨t,rfl⟩:=r;rfl
 |str _=>obtain⟨t,rfl⟩:=r;rfl
 |byt _=>obtain⟨t,rfl⟩:=r;rfl
 |flt _=>obtain⟨t,rfl⟩:=r;rfl
 |ref _=>cases r;rfl
 |ty _=>cases r;rfl
theorem As.inj{x y:V}{u:A0}(r:As x u)(q:As y u):x=y:=QY (r.abs.symm.trans q.abs)
theorem AX.inj:∀{xs ys:U V} {us:U A0},AX xs us->AX ys us->xs=ys
 |_,_,_,.nil,.nil=>rfl
 |_,_,_,.cons r t,.cons r' t'=>by rw[r.inj r',AX.inj t t']
section
variable{X:Cx}{σ:St}{H:Hp}{xs ys:U V}
theorem AU.list(I:AU X AN σ H s)(h:uZ X.K H a xs):∃AQ:U A0,AX xs AQ/\PlainL s.heap a AQ.toArray/\xs.length<=AA:=by
 rcases h with h|⟨o,AQ,n,c,b,d,hs,f,r⟩
 ·obtain⟨z,AQ,n,r,e⟩:=h.ok I.hok;exact⟨AQ,r,⟨_,n,e,rfl,rfl,rfl⟩,z⟩
 ·refine⟨AQ.toList,r,⟨o,n,I.kIn a o c,b,d,by simpa using hs⟩,?_⟩;have e:=r.length;simp only[qi]at e;omega
theorem AU.tuple(I:AU X AN σ H s)(h:wV X.K H a xs):∃AQ:U A0,AX xs AQ/\IsTup s.heap a AQ.toArray/\xs.length<=AA:=by
 rcases h with h|⟨o,AQ,n,c,b,hs,d,r⟩
 ·obtain⟨z,AQ,r,p⟩:=h.ok I.hok;exact⟨AQ,r,p.weak,z⟩
 ·refine⟨AQ.toList,r,⟨o,I.kIn a o c,b.1,n,by simpa using hs⟩,?_⟩;have e:=r.length;simp only[qi]at e;omega
theorem AU.Od(I:AU X AN σ H s)(h:uZ X.K H a xs)(h':uZ X.K H a ys):xs=ys:=by
 obtain⟨AQ,r,⟨o,n,e,_,_,d⟩,_⟩:=I.list h;obtain⟨g,c,⟨o',i,e',_,_,b⟩,_⟩:=I.list h';rw[e]at e';cases e';rw[d]at b;injection b with f _;have:AQ=g:=by simpa using congrArg Array.toList f
 subst this;exact r.inj c
theorem AU.Aw(I:AU X AN σ H s)(h:wV X.K H a xs)(h':wV X.K H a ys):xs=ys:=by
 obtain⟨AQ,r,⟨o,e,_,n,d⟩,_⟩:=I.tuple h;obtain⟨g,c,⟨o',e',_,i,b⟩,_⟩:=I.tuple h';rw[e]at e';cases e';rw[d]at b;injection b with f _;have:AQ=g:=by simpa using congrArg Array.toList f
 subst this;exact r.inj c
end
abbrev Cx.wish(X:Cx)(E:B8):Cx:={ X with xe:=E }
abbrev Cx.nox(X:Cx):Cx:=X.wish λ_ _=>False
theorem Cx.Ok.wish{X:Cx}(ok:X.Ok)(E:B8):(X.wish E).Ok:=
 ⟨ok.mod,ok.kind,ok.glob,ok.blt,ok.above,ok.inj,ok.has,ok.cab,ok.hd,ok.frames,ok.stk,ok.exf,ok.bs,ok.bsz,ok.Yv,ok.abS,ok.Eu,ok.frf⟩
theorem Cx.Ok.u0{X:Cx}(ok:(X.wish E).Ok):X.Ok:=
 ⟨ok.mod,ok.kind,ok.glob,ok.blt,ok.above,ok.inj,ok.has,ok.cab,ok.hd,ok.frames,ok.stk,ok.exf,ok.bs,ok.bsz,ok.Yv,ok.abS,ok.Eu,ok.frf⟩
section
variable{X:Cx}{σ:St}{H:Hp}
theorem AU.wish(I:AU X AN σ H s)(E:B8):AU (X.wish E) AN σ H s:=⟨I.ok.wish E,I.os,I.bare,I.base,I.loc,I.cell,I.free,I.qL,I.pin,I.hok,I.len⟩
theorem AU.u0(I:AU (X.wish E) AN σ H s):AU X AN σ H s:=⟨I.ok.u0,I.os,I.bare,I.base,I.loc,I.cell,I.free,I.qL,I.pin,I.hok,I.len⟩
theorem SP.u0{D:C4}{f:Flow}{s':A2}(h:SP (X.wish E) AN D f s'):SP X AN D f s':=by
 cases f with
 |next=>obtain⟨σ',H',I,q⟩:=h;exact⟨σ',H',I.u0,q⟩
 |brk=>obtain⟨σ',H',I,q⟩:=h;exact⟨σ',H',I.u0,q⟩
 |cont=>obtain⟨σ',H',I,q⟩:=h;exact⟨σ',H',I.u0,q⟩
 |ret u=>obtain⟨v,σ',H',I,r,q⟩:=h;exact⟨v,σ',H',I.u0,r,q⟩
theorem RJ.nox{st:U AB}{t:TS}(h:RJ X.nox st t):RJ X st t:=λAN s σ H D I a=>
 QN (h AN s σ H D (I.wish _) a) (λ_ _ q=>q.u0) λ_ _ z=>False.elim z
end
section
variable{X:Cx}{st:AB}{AS:U AB}{t u:TS}{te:TE}
def dy:TS:=λD σ H=>D.nx σ H
def P5(t u:TS):TS:=λD σ H=>t { D with nx:=u D } σ H
theorem dE:RJ X [] dy:=λ_ _ σ H _ I h=>wpAny_execs_nil ⟨σ,H,I,h⟩
theorem Yw(h1:PS X st t)(h2:RJ X AS u):RJ X (st::AS) (P5 t u):=by
 intro AN s σ H D I h;refine wpAny_execs_cons (ji (h1 AN s σ H { D with nx:=u D } I h) λf a q=>?_);cases f with
 |next=>
  obtain⟨σ',H',b,q⟩:=q;exact h2 AN a σ' H' D b q
 |ret v=>exact q
 |brk=>exact q
 |cont=>exact q
theorem AU.quiet{σ:St}{H:Hp}(I:AU X AN σ H s):interactive X.env=false:=by simp[interactive,I.ok.kind]
def VS(te:TE):TS:=λD σ H=>te σ H λ_ H1=>D.nx σ H1
theorem KJ(he:PE X e te)(hs:swapsWith e Y pos.line X.env=pure false:=by rfl):PS X (.Expr e pos) (VS te):=by
 intro AN s σ H D I h;exact wpAny_Expr_any (ji (he AN s σ H _ I h) λv s1 ⟨x,H1,I1,r1,q1⟩=>⟨σ,H1,I1,q1⟩) I.quiet hs
def SS(te:TE):TS:=λD σ H=>te σ H D.rt
theorem Yx(he:PE X e te):PS X (.Return (Z e) pos) (SS te):=by
 intro AN s σ H D I h;exact wpAny_Return_some (ji (he AN s σ H _ I h) λv s1 ⟨x,H1,I1,r1,q1⟩=>⟨x,σ,H1,I1,r1,q1⟩)
def b4(c:TT)(t u:TS):TS:=λD σ H=>c σ H λb H1=>if b=true then t D σ H1 else u D σ H1
theorem Xs{a b:U AB}{tc:TT}(e:PT X c tc)(ha:RJ X a t)(hb:RJ X b u):PS X (.If c a b pos) (b4 tc t u):=by
 intro AN s σ H D I h;refine wpAny_If (ji (e AN s σ H _ I h) λd s1 ⟨H1,I1,q1⟩=>?_);cases d with
 |true=>exact ha AN s1 σ H1 D I1 q1
 |false=>exact hb AN s1 σ H1 D I1 q1
end
abbrev TG:=V->St->Hp->(St->Hp->Prop)->Prop
abbrev DH:=U V->St->Hp->(St->Hp->Prop)->Prop
def PG(X:Cx)(a:Expr)(t:TG):Prop:=
 ∀(AN:U (A1×AE)) (s:A2) (σ:St) (H:Hp) (v:V) (u:A0) (Q:St->Hp->Prop),AU X AN σ H s->As v u->t v σ H Q →
  A7 (A8 X.prog X.w) X.A (assign a X.env u) (λ_ s'=>∃ σ' H',AU X AN σ' H' s'/\Q σ' H') X.xe s
def Yl(X:Cx)(ts:U Expr)(t:DH):Prop:=
 ∀(AN:U (A1×AE)) (s:A2) (σ:St) (H:Hp) (vs:U V) (us:U A0) (Q:St->Hp->Prop),AU X AN σ H s->AX vs us->t vs σ H Q →
  A7 (A8 X.prog X.w) X.A (assignInOrder ((assignEach ts X.env).map (·.2)) us) (λ_ s'=>∃ σ' H',AU X AN σ' H' s'/\Q σ' H') X.xe s
section
variable{X:Cx}
def M'(i:Nat):TG:=λv σ H Q=>Q (σ.set i (Z v)) H
theorem U3(b:X.N.Nodup)(hi:X.N[i]?=Z x)(hx:Co X.env.scope x)(a:X.fn x=true\/X.env.scope.names.lookup x=Z .local:=by first|exact .inl rfl|exact .inr rfl|assumption):PG X (.Name x pos) (M' i):=by
 intro AN s σ H v u Q I r h;exact wpAny_assign_Name (yN I b hi hx r (λs' c=>⟨_,H,c,h⟩) a)
def S4:DH:=λvs σ H Q=>vs=[]/\Q σ H
def S2(t:TG)(u:DH):DH:=λvs σ H Q=>∃v r,vs=v::r/\t v σ H λσ' H'=>u r σ' H' Q
theorem bE:Yl X [] S4:=by
 intro AN s σ H vs us Q I r h;obtain⟨e,h⟩:=h;subst e;cases r;exact assignInOrder_nil ⟨σ,H,I,h⟩
theorem Yy{t:TG}{u:DH}(h1:PG X e t)(h2:Yl X es u)(hs:(assignEach (e::es) X.env).map (·.2)=assign e X.env::(assignEach es X.env).map (·.2):=by rfl):Yl X (e::es) (S2 t u):=by
 intro AN s σ H vs us Q I r h;obtain⟨v,b,e1,h⟩:=h;subst e1;cases r with
 |cons r a=>
  rw[hs];refine assignInOrder_cons (ji (h1 AN s σ H _ _ _ I r h) λ_ s1 ⟨σ1,H1,I1,q1⟩=>?_);exact h2 AN s1 σ1 H1 _ _ Q I1 a q1
def UM(K:B0)(n:Nat)(t:DH):TG:=λv σ H Q=>∃a xs,v=.ref a/\wV K H a xs/\xs.length=n/\t xs σ H Q
theorem SO{k:Nat}{t:DH}(l:X.calm=true)(h:Yl X es t)(j:(assignEach es X.env).length=n:=by rfl)(i:(assignEach es X.env).findIdx? (·.1)=Y:=by rfl):PG X (.Tuple es k pos) (UM X.K n t):=by
 intro AN s σ H v u Q I r c;obtain⟨a,xs,e1,m,f,c⟩:=c;subst e1;cases r;obtain⟨AQ,d,g,q⟩:=I.tuple m;refine assign_Tuple_tuple (I.ok.hd l) g (by simp[j,<-f,d.length]) i λh' hx=>?_;have p:AU X AN σ H { s with heap:=h' }:=I.kept (t':=s.toks) λb o e=>hx b o (z4 (zD e)) e;exact h AN _ σ H xs _ Q p (by simpa using d) c
def LW(te:TE)(g:TG):TS:=λD σ H=>te σ H λx H1=>g x σ H1 D.nx
theorem cx{te:TE}{g:TG}(he:PE X e te)(hg:PG X tg g)(hs:swapsWithSole [tg] e pos.line X.env=pure false:=by rfl)(a:swappedStores [tg] e X.env=pure Y:=by rfl)(h1:(assignEach [tg] X.env).map (·.2)=[assign tg X.env]:=by rfl):PS X (.Assign [tg] e pos) (LW te g):=by
 intro AN s σ H D I h;refine wpAny_Assign_stores (ji (he AN s σ H _ I h) λv s1 ⟨x,H1,I1,r1,q1⟩=>?_) hs a;rw[h1];exact ji (hg AN s1 σ H1 x v _ I1 r1 q1) λ_ b q=>q
theorem Yz{te:TE}{pos':Pos}(c:X.N.Nodup)(hi:X.N[i]?=Z x)(hx:Co X.env.scope x)(he:PE X e te)(hs:swapsWith e (Z (.Name x pos')) pos.line X.env=pure false:=by rfl)(b:X.fn x=true\/X.env.scope.names.lookup x=Z .local:=by first|exact .inl rfl|exact .inr rfl|assumption):
  PS X (.Assign [.Name x pos'] e pos) (LW te (M' i)):=by
 intro AN s σ H D I h;refine wpAny_Assign_Name (ji (he AN s σ H _ I h) λv s1 ⟨y,H1,I1,r1,q1⟩=>?_) hs;exact yN I1 c hi hx r1 (λd a=>⟨_,H1,a,q1⟩) b
def RE(i j:Nat)(ta:TA):TS:=λD σ H=>ta σ H λvs H1=>∃v w,vs=[v,w]/\D.nx ((σ.set i (Z v)).set j (Z w)) H1
theorem OT{a b:Expr}{ta:TA}{px py pt:Pos}{kt k2 pt2}(z:X.calm=true)(g:X.N.Nodup)(hi:X.N[i]?=Z x)(n:X.N[j]?=Z y)(t:i≠j)(hx:X.env.scope.names.lookup x=Z .local)(f:X.env.scope.names.lookup y=Z .local)(ha:PA X [a,b] ta)(J:swappedStores [.Tuple [.Name x px,.Name y py] kt pt] (.Tuple [a,b] k2 pt2) X.env=pure (Z [x,y]))(hs:swapsWithSole [.Tuple [.Name x px,.Name y py] kt pt] (.Tuple [a,b] k2 pt2) pos.line X.env=pure false:=by rfl):
  PS X (.Assign [.Tuple [.Name x px,.Name y py] kt pt] (.Tuple [a,b] k2 pt2) pos) (RE i j ta):=by
 intro AN s σ H D I h;rw[exec_Assign_arm];refine zd (yv ?_);rw[hs];refine zd (zg ?_);rw[zC (by decide)];refine zd (Tuple_ (ji (ha _ AN s σ H _ I h) λus s1 ⟨vs,H1,I1,r1,q1⟩=>?_));obtain⟨v,w,e1,q1⟩:=q1;subst e1;obtain⟨d,c,rfl,u,B⟩:∃d c,us=[d,c]/\As v d/\As w c:=by
  cases r1 with
  |cons p q=>
   cases q with
   |cons p' C=>
    cases C;exact⟨_,_,rfl,p,p'⟩
 refine qo ?_ (by show 2<=AA;decide);have F:AU X AN σ H1 { s1 with heap:=s1.heap.push { cls:=.type "tuple",data:=.seq [d,c].toArray } }:=I1.kept (t':=s1.toks) λb o e=>ze _ e;rw[J];refine zd (zg ?_);show A7 (A8 X.prog X.w) X.A (do rule "assign.swapped-stores"; let items <-unpackItems (.ref s1.heap.objs.size) 2 Y;assignInOrder [λv=>bindName X.env y v,λv=>bindName X.env x v] items.reverse;pure Flow.next) _ _ _;refine zd (kN (zd (unpackItems_tuple (items:=#[d,c]) (I.ok.hd z) (IsTup.new s1.heap _) λh' G=>?_)));have E:=F.kept (h':=h') (t':=s1.toks) λb o e=>G b o (z4 (zD e)) e;show A7 _ _ (assignInOrder [λv=>bindName X.env y v,λv=>bindName X.env x v] [c,d] >>= λ_=>pure Flow.next) _ _ _;refine zd (assignInOrder_cons (wpAny_bindName (yN E g n (.inl f) B (λK m=>?_) (.inr f))));refine assignInOrder_cons (wpAny_bindName (yN m g hi (.inl hx) u (λL l=>assignInOrder_nil (zg ?_)) (.inr hx)));rw[List.set_comm _ _ (Kj t)]at l;exact⟨_,H1,l,q1⟩
def VT(c:TT)(tb:TS):TS:=λD σ H=>∃W:Nat->St->Hp->Prop,(∃m,W m σ H)/\∀m σ H,W m σ H →
 c σ H λb H1=>if b=true then ∃N:St->Hp->Prop,(∀ σ' H',N σ' H'->∃a,a<m/\W a σ' H')/\tb { D with nx:=N,ct:=N,bk:=D.nx } σ H1 else D.nx σ H1
theorem YB{tc:TT}{tb:TS}(hp:PassesOwn (A8 X.prog X.w) X.A X.env X.xe)(u:PT X c tc)(hb:RJ X body tb):PS X (.While c body [] pos) (VT tc tb):=by
 intro AN s σ H D I h;obtain⟨W,⟨t,q⟩,turn⟩:=h;refine wpAny_While (codeAny_whileLoop (λn s'=>∃ σ' H',AU X AN σ' H' s'/\W n σ' H') ?_ t ⟨σ,H,I,q⟩);rintro n x ⟨e,H1,z,y⟩;refine kr hp (ji (u AN x e H1 _ z (turn n e H1 y)) λb s2 ⟨H2,I2,q2⟩=>?_);cases b with
 |true=>
  obtain⟨N,p,q2⟩:=q2;rw[zo rfl];refine kr hp (ji (hb AN s2 e H2 _ I2 q2) λf B g=>?_);cases f with
  |next=>
   obtain⟨d,a,m,j⟩:=g;obtain⟨o,l,i⟩:=p d a j;exact⟨o,l,d,a,m,i⟩
  |cont=>
   obtain⟨d,a,m,j⟩:=g;obtain⟨o,l,i⟩:=p d a j;exact⟨o,l,d,a,m,i⟩
  |brk=>exact g
  |ret v=>exact g
 |false=>
  rw[zC ZE];exact wpAny_execs_nil ⟨e,H2,I2,q2⟩
end
structure It where
 go:Nat->Hp->Prop
 yld:Nat->Hp->V->Hp->Prop
 stop:Nat->Hp->Prop
def rN(X:Cx)(AN:U (A1×AE))(H:Hp)(b:A1):Prop:=
 H b=Y/\b≠X.env.locals/\b∉X.fs/\(b∈X.ex\/X.s₀.heap.objs.size<=b)/\(∀x c,X.env.cells.lookup x=Z c->c≠b)/\∀p∈X.pn++AN,p.1≠b
theorem AU.RK{X:Cx}{σ:St}{H H':Hp}{b:A1}(I:AU X AN σ H s)(hb:s.heap.objs.size<=b)(a:H' b=Y):rN X AN H' b:=by
 refine⟨a,ki (ZT I.lt hb),I.ajH hb,.inr (ZI I.sz hb),λx c e z=>?_,λp hp z=>?_⟩
 ·obtain⟨v,q⟩:=I.cell x c e;exact absurd (ZT q.lt (by rw[z];exact hb)) (JO _)
 ·exact absurd (ZT (zD (I.pin p hp).1) (by rw[z];exact hb)) (JO _)
structure C3 (P:Program) (w:World) (K:B0) (tg:Expr) (J:It) (fp:List Addr) (it:Addr) (tn:Nat->Heap->Prop):Prop where
 mem:it∈fp
 obj:∀i h,tn i h->∀b∈fp,∃o,h.get? b=some o/\∀v,o.data≠.cell v
 keep:∀i h h',tn i h->(∀b∈fp,∀o,h.get? b=some o->h'.get? b=some o)->tn i h'
 item:∀(X:Cx),X.prog=P->X.w=w->X.K=K->X.calm=true->∀(i:Nat) (AN:List (Addr×Obj)) (s:Shared) (σ:St) (H:Hp) (E:B8),AU X AN σ H s->(∀b∈fp,rN X AN H b)->tn i s.heap->J.go i H →
  wpAny (model P w) X.A (pyNext (.ref it)) (λr s1=>∃u,r=some u ∧
   wpAny (model P w) X.A (letOwnedTupleGo tg (.ref it) u) (λ_ s2=>∃x H',AU X AN σ H' s2/\As x u/\J.yld i H x H'/\tn (i+1) s2.heap/\∀b∈fp,H' b=none) E s1) E s
 done:∀(X:Cx),X.prog=P->X.w=w->X.K=K->X.calm=true->∀(i:Nat) (AN:List (Addr×Obj)) (s:Shared) (σ:St) (H:Hp) (E:B8),AU X AN σ H s->(∀b∈fp,rN X AN H b)->tn i s.heap->J.stop i H →
  wpAny (model P w) X.A (pyNext (.ref it)) (λr s1=>r=none/\AU X AN σ H s1) E s
 self:∀(A:Around) (i:Nat) (s:Shared) (Q:B8) (E:B8),tn i s.heap->Q (.ref it) s->wpAny (model P w) A (pyIter (.ref it)) Q E s
abbrev TI:=St->Hp->(It->Hp->Prop)->Prop
def N0(X:Cx)(AN:U (A1×AE))(σ:St)(tg:Expr)(R:It->Hp->Prop)(c:A0)(a:A2):Prop:=
 ∃(it:A1) (fp:U A1) (tn:Nat->A6->Prop) (J:It) (H':Hp),c=.ref it/\AU X AN σ H' a/\C3 X.prog X.w X.K tg J fp it tn/\tn 0 a.heap/\(∀b∈fp,rN X AN H' b)/\R J H'
def PI(X:Cx)(tg iter:Expr)(wi:TI):Prop:=
 ∀(AN:U (A1×AE)) (s:A2) (σ:St) (H:Hp) (R:It->Hp->Prop),AU X AN σ H s->wi σ H R →
  A7 (A8 X.prog X.w) X.A (eval iter X.env) (λv a=>A7 (A8 X.prog X.w) X.A (pyIter v) (N0 X AN σ tg R) X.xe a) X.xe s
theorem Jq{o:AE}{n:String}{vs:Array A0}{Q:Unit->A2->Prop}(ho:s.heap.get? it=Z o)(b:o.cls=.type n)(d:o.data=.fields vs)(c:["enumerate","zip","dict_itemiterator","dict_reverseitemiterator","odict_iterator","itertools.zip_longest","itertools.pairwise"].contains n=false)(a:Q () s):A7 M A (letOwnedTupleGo tg (.ref it) u) Q E s:=by
 unfold letOwnedTupleGo;cases tg<;>first
  |exact zg a
  |(cases u<;>first
    |exact zg a
    |(refine zd (K0 ho ?_)
      rw[b,d];show A7 M A (if(["enumerate","zip","dict_itemiterator","dict_reverseitemiterator","odict_iterator","itertools.zip_longest","itertools.pairwise"].contains n&&vs[0]?==Z (rawInt _))=true then _ else _) Q E s;rw[zC (by intro h;rw[c,yb]at h;cases h)];exact zg a))
def FX(K:B0)(a:A1):It:=
 ⟨λi H=>∃xs x,uZ K H a xs/\xs[i]?=Z x,λi H x H'=>H'=H/\∀xs,uZ K H a xs->xs[i]?=Z x,λi H=>∃xs,uZ K H a xs/\xs.length<=i⟩
def GO(K:B0)(a:A1):It:=
 ⟨λi H=>∃xs x,wV K H a xs/\xs[i]?=Z x,λi H x H'=>H'=H/\∀xs,wV K H a xs->xs[i]?=Z x,λi H=>∃xs,wV K H a xs/\xs.length<=i⟩
def FB(lo:Int)(n:Nat):It:=⟨λi _=>i<n,λi H x H'=>H'=H/\x=.int (lo+i),λi _=>n<=i⟩
theorem Wt(a it:A1):C3 P w K tg (FX K a) [it] it (λi h=>h.IsListIter it a i) where
 mem:=by simp
 obj:=λi h st b hb=>by
  have e:b=it:=by simpa using hb
  subst e;obtain⟨o,e,c,d⟩:=st;exact⟨o,e,λv z=>by rw[d]at z;cases z⟩
 keep:=λi h h' st k=>st.at λo e=>k it (by simp) o e
 item:=by
  intro X y q n B i AN s σ H E I f st hg;subst y q n;obtain⟨xs,x,g,hx⟩:=hg;obtain⟨AQ,m,p,D⟩:=I.list g;obtain⟨u,F,G⟩:=m.get hx;obtain⟨f0,f1,f2,j,l,t⟩:=f it (by simp);refine wpAny_pyNext_list_item st p.isList (x:=u) (by simpa using F) λh' A sb=>?_;have J:AU X AN σ H { s with heap:=h' }:=I.turned (t':=s.toks) (λb o hb e=>(sb.2 b hb).trans e) f0 f1 j l t;obtain⟨o,e,c,d⟩:=id A;exact⟨u,rfl,Jq (s:={ s with heap:=h' }) e c d (by decide) ⟨x,H,J,G,⟨rfl,λys C=>by rw[I.Od C g];exact hx⟩,A,λb hb=>(f b hb).1⟩⟩
 done:=by
  intro X y q n B i AN s σ H E I f st hg;subst y q n;obtain⟨xs,g,hx⟩:=hg;obtain⟨AQ,m,p,D⟩:=I.list g;obtain⟨f0,f1,f2,j,l,t⟩:=f it (by simp);have L:=m.length;exact wpAny_pyNext_list_end (I.ok.hd B) st p.isList (by simp;omega) λh' eb=>⟨rfl,I.turned (t':=s.toks) (λb o hb e=>eb b o hb e) f0 f1 j l t⟩
 self:=λ_ _ _ _ _ st h=>wpAny_pyIter_listiter st h
theorem RM(a it:A1):C3 P w K tg (GO K a) [it] it (λi h=>h.IsTupleIter it a i) where
 mem:=by simp
 obj:=λi h st b hb=>by
  have e:b=it:=by simpa using hb
  subst e;obtain⟨o,e,c,d⟩:=st;exact⟨o,e,λv z=>by rw[d]at z;cases z⟩
 keep:=λi h h' st k=>st.at λo e=>k it (by simp) o e
 item:=by
  intro X y q n B i AN s σ H E I f st hg;subst y q n;obtain⟨xs,x,g,hx⟩:=hg;obtain⟨AQ,m,p,D⟩:=I.tuple g;obtain⟨u,F,G⟩:=m.get hx;obtain⟨f0,f1,f2,j,l,t⟩:=f it (by simp);refine wpAny_pyNext_tuple_item st (show s.heap.IsTuple a AQ.toArray from p) (x:=u) (by simpa using F) λh' A sb=>?_;have J:AU X AN σ H { s with heap:=h' }:=I.turned (t':=s.toks) (λb o hb e=>(sb.2 b hb).trans e) f0 f1 j l t;obtain⟨o,e,c,d⟩:=id A;exact⟨u,rfl,Jq (s:={ s with heap:=h' }) e c d (by decide) ⟨x,H,J,G,⟨rfl,λys C=>by rw[I.Aw C g];exact hx⟩,A,λb hb=>(f b hb).1⟩⟩
 done:=by
  intro X y q n B i AN s σ H E I f st hg;subst y q n;obtain⟨xs,g,hx⟩:=hg;obtain⟨AQ,m,p,D⟩:=I.tuple g;obtain⟨f0,f1,f2,j,l,t⟩:=f it (by simp);have L:=m.length;exact wpAny_pyNext_tuple_end (I.ok.hd B) st (show s.heap.IsTuple a AQ.toArray from p) (by simp;omega) λh' eb=>⟨rfl,I.turned (t':=s.toks) (λb o hb e=>eb b o hb e) f0 f1 j l t⟩
 self:=λ_ _ _ _ _ st h=>wpAny_pyIter_tupleiter st h
theorem RN(it:A1)(lo:Int)(n:Nat):C3 P w K tg (FB lo n) [it] it (λi h=>IsRangeIter h it (lo+(i:Nat)*1) ((n:Int)-(i:Nat)) 1) where
 mem:=by simp
 obj:=λi h st b hb=>by
  have e:b=it:=by simpa using hb
  subst e;exact⟨_,st,λv z=>by
   have u:Data.fields _=Data.cell v:=z;cases u⟩
 keep:=λi h h' st k=>k it (by simp) _ st
 item:=by
  intro X m j g f i AN s σ H E I a st hg;subst m j g;obtain⟨f0,f1,f2,c,d,l⟩:=a it (by simp);have W:=Walks.range (prog:=X.prog) (w:=X.w) (I.ok.hd f) it lo 1 n;refine W.item i s _ _ hg st λv h' tk q p kk=>?_;obtain⟨t,rfl⟩:=q;have x:AU X AN σ H { s with heap:=h',toks:=tk }:=I.turned (λb o hb e=>kk b o (by simpa using hb) e) f0 f1 c d l;refine⟨_,rfl,Jq (s:={ s with heap:=h',toks:=tk }) (n :="range_iterator") p Δ Δ (by decide) ⟨.int (lo+i),H,x,⟨t,?_⟩,⟨rfl,rfl⟩,p,λb hb=>(a b hb).1⟩⟩;rw[Int.mul_one]
 done:=by
  intro X m j g f i AN s σ H E I a st hg;subst m j g;obtain⟨f0,f1,f2,c,d,l⟩:=a it (by simp);exact wpAny_pyNext_range_end (I.ok.hd f) st (by have:n<=i:=hg;omega) λh' eb=>⟨rfl,I.turned (t':=s.toks) (λb o hb e=>eb b o hb e) f0 f1 c d l⟩
 self:=λ_ _ _ _ _ st h=>wpAny_pyIter_rangeiter st h
end L2
namespace L2
section
variable{X:Cx}
theorem YC{σ:St}{H:Hp}{R:It->Hp->Prop}{lo hi:Int}{t u v:Tok}{tk:Nat}(I:AU X AN σ H s)(h1 : -(2 ^ 62)<=lo)(h2:lo<2 ^ 62)(d : -(2 ^ 62)<=hi)(c:hi<2 ^ 62)(q:R (FB lo (hi-lo).toNat) H):A7 (A8 X.prog X.w) X.A (pyIter (.ref s.heap.objs.size)) (N0 X AN σ tg R) E { s with heap:=s.heap.push { cls:=.type "range",data:=.fields #[.int lo t,.int hi u,.int 1 v] },toks:=tk }:=by
 refine wpAny_pyIter_range (IsRange.new ..) (small_one h1 h2 d c) ?_;have a:AU X AN σ H { s with heap:=s.heap.push { cls:=.type "range",data:=.fields #[.int lo t,.int hi u,.int 1 v] },toks:=tk }:=I.kept λb o e=>ze _ e;refine⟨(s.heap.push { cls:=.type "range",data:=.fields #[.int lo t,.int hi u,.int 1 v] }).objs.size,[(s.heap.push { cls:=.type "range",data:=.fields #[.int lo t,.int hi u,.int 1 v] }).objs.size],_,_,H,rfl,
  a.kept (t':=tk) λb o e=>ze _ e,RN _ lo (hi-lo).toNat,?_,λb hb=>?_,q⟩
 ·have e1:lo+((0:Nat):Int)*1=lo:=by simp
  have e2:(((hi-lo).toNat:Nat):Int)-((0:Nat):Int)=Builtin.Range.rangeSize lo hi 1:=by rw[rangeSize_one];split<;>omega
  show IsRangeIter _ _ (lo+((0:Nat):Int)*1) ((((hi-lo).toNat:Nat):Int)-((0:Nat):Int)) 1;rw[e1,e2];exact zv _ rfl
 ·have e:b=(s.heap.push { cls:=.type "range",data:=.fields #[.int lo t,.int hi u,.int 1 v] }).objs.size:=by simpa using hb
  subst e;exact a.RK (zk _) (a.hok.fresh (zk _))
def Uf(ta:TA):TI:=λσ H R=>ta σ H λvs H1=>∃j:Int,vs=[.int j] ∧ -(2 ^ 62)<=j/\j<2 ^ 62/\R (FB 0 j.toNat) H1
theorem Wu{a:Expr}{ta:TA}{p:Pos}(hg:Gl X "range")(c:X.mg "range"=Y)(ha:PA X [a] ta)(hs:A9 [a] X.env=[(false,eval a X.env)]:=by rfl):PI X tg (.Call (.Name "range" p) [a] [] pos) (Uf ta):=by
 intro AN s σ H R I h;refine Call_ (Ew I hg c boot_range (PyProof.Rows.callWith_type1 (ji (ha pos AN s σ H _ I h) λus s1 ⟨vs,H1,I1,r1,q1⟩=>?_) hs Δ));obtain⟨j,e,q1,q2,q⟩:=q1;subst e;cases r1 with
 |cons r b=>
  cases b;obtain⟨t,rfl⟩:=r;exact call_range_1 (YC I1 (by omega) (by omega) q1 q2 (by simpa using q))
def av(wi:TI)(g:TG)(tb:TS):TS:=λD σ H=>wi σ H λJ H1=>∃W:Nat->Nat->St->Hp->Prop,(∃m,W 0 m σ H1)/\∀i m σ H,W i m σ H →
 (J.stop i H/\D.nx σ H)\/(J.go i H/\∃N:St->Hp->Prop,(∀ σ' H',N σ' H'->∃a,a<m/\W (i+1) a σ' H')/\∀x H',J.yld i H x H'->g x σ H' λb H2=>tb { D with nx:=N,ct:=N,bk:=D.nx } b H2)
def Ax(fp:U A1)(h:A6):U (A1×AE):=fp.filterMap λb=>(h.get? b).map λo=>(b,o)
theorem tu{b:A1}{o:AE}(hb:b∈fp)(e:h.get? b=Z o):(b,o)∈Ax fp h:=List.mem_filterMap.mpr ⟨b,hb,by rw[e];rfl⟩
theorem Wv{p:A1×AE}(hp:p∈Ax fp h):p.1∈fp/\h.get? p.1=Z p.2:=by
 obtain⟨b,hb,e⟩:=List.mem_filterMap.mp hp;cases q:h.get? b with
 |none=>rw[q]at e;cases e
 |some o=>
  rw[q]at e;have e':(b,o)=p:=QY e;subst e';exact⟨hb,q⟩
theorem AU.pinned{σ:St}{H:Hp}(I:AU X AN σ H s)(a:∀b∈fp,rN X AN H b)(ho:∀b∈fp,∃o,s.heap.get? b=Z o/\∀v,o.data≠.cell v):AU X (AN++Ax fp s.heap) σ H s:=
 I.KH λp hp=>(List.mem_append.mp hp).elim (λz=>I.pin p (zI _ z)) λz=>by
  obtain⟨hb,e⟩:=Wv z;obtain⟨f0,f1,f2,_⟩:=a p.1 hb;obtain⟨o,e',d⟩:=ho p.1 hb;rw[e]at e';cases e';exact⟨e,f0,f1,f2,d⟩
theorem AU.u5{pl:U (A1×AE)}{σ:St}{H:Hp}(I:AU X (AN++pl) σ H s):AU X AN σ H s:=I.KH λp hp=>I.pin p (zI _ (zt _ hp))
theorem YD{wi:TI}{g:TG}{tb:TS}(hp:PassesOwn (A8 X.prog X.w) X.A X.env X.xe)(C:X.calm=true)(hi:PI X tg iter wi)(hg:PG X tg g)(hb:RJ X body tb)(hs:∀x,foldedSetIterable iter X.env x=pure x:=by intro _;rfl):PS X (.For tg iter body [] pos) (av wi g tb):=by
 intro AN s σ H D I h;refine wpAny_For (ji (hi AN s σ H _ I h) λv s1 h1=>ji h1 λa3 s2 h2=>?_) hs;obtain⟨it,fp,tn,J,H2,e,Q,T,a1,f2,W,⟨m0,M⟩,turn⟩:=h2;subst e;have y:∀{H':Hp},(∀b∈fp,H' b=Y)->∀b∈fp,rN X AN H' b:=λhn b hb=>⟨hn b hb,(f2 b hb).2⟩;refine codeAny_forLoop_any (λn s'=>∃i σ' H',AU X AN σ' H' s'/\tn i s'.heap/\(∀b∈fp,H' b=Y)/\W i n σ' H') ?_ m0 ⟨0,σ,H2,Q,a1,λb hb=>(f2 b hb).1,M⟩;rintro n F ⟨i,p,t,E,G,B,K⟩;rcases turn i n p t K with⟨a2,S⟩|⟨go,N,L,step⟩
 ·refine kr hp (ji (T.done X Δ Δ Δ C i AN F p t X.xe E (y B) G a2) λr s4 ⟨hr,I4⟩=>?_);subst hr;exact wpAny_execs_nil ⟨p,t,I4,S⟩
 ·refine kr hp (ji (T.item X Δ Δ Δ C i AN F p t X.xe E (y B) G go) λr s4 ⟨u,hr,h4⟩=>?_);subst hr;refine kr hp (ji h4 λ_ s5 ⟨x,H5,I5,r5,y5,st5,fr5⟩=>?_);have a0:=I5.pinned (y fr5) (T.obj _ _ st5);refine kr hp (ji (hg _ s5 p H5 x u _ a0 r5 (step x H5 y5)) λ_ s6 ⟨σ6,H6,I6,q6⟩=>?_);refine kr hp (ji (hb _ s6 σ6 H6 _ I6 q6) λf z l=>?_);have again:∀{j:St} {a:Hp},AU X (AN++Ax fp s5.heap) j a z->N j a->∃m,m<n/\∃i σ' H',AU X AN σ' H' z/\tn i z.heap/\(∀b∈fp,H' b=Y)/\W i m σ' H':=λ{j a} c q=>by
   obtain⟨m',hm,w7⟩:=L j a q;refine⟨m',hm,i+1,j,a,c.u5,T.keep _ _ _ st5 λb hb o e=>(c.pin (b,o) (zI _ (zI _ (tu hb e)))).1,λb hb=>?_,w7⟩;obtain⟨o,e,d⟩:=T.obj _ _ st5 b hb;exact(c.pin (b,o) (zI _ (zI _ (tu hb e)))).2.1
  cases f with
  |next=>obtain⟨j,a,c,q⟩:=l;exact again c q
  |cont=>obtain⟨j,a,c,q⟩:=l;exact again c q
  |brk=>obtain⟨j,a,c,l⟩:=l;exact⟨j,a,c.u5,l⟩
  |ret v=>obtain⟨P,j,a,c,r7,l⟩:=l;exact⟨P,j,a,c.u5,r7,l⟩
end
end L2
namespace L2
abbrev R2:=V->V->Hp->VK->Prop
def xq(X:Cx)(f:A0->A0->Sem A0)(r:R2):Prop:=
 ∀(AN:U (A1×AE)) (s:A2) (σ:St) (H:Hp) (x y:V) (v u:A0) (Q:VK),AU X AN σ H s->As x v->As y u->r x y H Q →
  A7 (A8 X.prog X.w) X.A (f v u) (EP X AN σ Q) X.xe s
def DE(X:Cx)(f:A0->Sem A0)(r:V->Hp->VK->Prop):Prop:=
 ∀(AN:U (A1×AE)) (s:A2) (σ:St) (H:Hp) (x:V) (v:A0) (Q:VK),AU X AN σ H s->As x v->r x H Q →
  A7 (A8 X.prog X.w) X.A (f v) (EP X AN σ Q) X.xe s
def gB(X:Cx)(f:A0)(r:U V->Hp->VK->Prop):Prop:=
 ∀(AN:U (A1×AE)) (s:A2) (σ:St) (H:Hp) (xs:U V) (us:U A0) (Q:VK),AU X AN σ H s->AX xs us->r xs H Q →
  A7 (A8 X.prog X.w) X.A (call f us) (EP X AN σ Q) X.xe s
def UU(X:Cx)(r:V->Hp->(Bool->Hp->Prop)->Prop):Prop:=
 ∀(AN:U (A1×AE)) (s:A2) (σ:St) (H:Hp) (x:V) (v:A0) (Q:Bool->Hp->Prop),AU X AN σ H s->As x v->r x H Q →
  A7 (A8 X.prog X.w) X.A (truthy v) (TP X AN σ Q) X.xe s
def F0(r:R2)(ta tb:TE):TE:=λσ H Q=>ta σ H λx H1=>tb σ H1 λy H2=>r x y H2 Q
def Ix(r:V->Hp->VK->Prop)(ta:TE):TE:=λσ H Q=>ta σ H λx H1=>r x H1 Q
def rI(C:Int->Int->Prop)(g:Int->Int->V):R2:=λx y H Q=>∃i j,x=.int i/\y=.int j/\C i j/\Q (g i j) H
def DJ(g:Int->Int->V):R2:=λx y H Q=>∃i j,x=.int i/\y=.int j/\Q (g i j) H
def rU(g:Int->V):V->Hp->VK->Prop:=λx H Q=>∃i,x=.int i/\Q (g i) H
section
variable{X:Cx}{a b:Expr}{ta tb tc:TE}
theorem HK(ha:PE X a ta)(hb:PE X b tb){σ:St}{H:Hp}{R:V->V->Hp->Prop}(I:AU X AN σ H s)(h:ta σ H λx H1=>tb σ H1 λy H2=>R x y H2){Q:B8}{f:A0->A0->Sem A0}(d:∀v u c x y H2,AU X AN σ H2 c->As x v->As y u->R x y H2->A7 (A8 X.prog X.w) X.A (f v u) Q X.xe c):
  A7 (A8 X.prog X.w) X.A (eval a X.env) (λv g=>A7 (A8 X.prog X.w) X.A (eval b X.env) (λu e=>A7 (A8 X.prog X.w) X.A (f v u) Q X.xe e) X.xe g) X.xe s:=by
 refine ji (ha AN s σ H _ I h) λv s1 ⟨x,H1,I1,r1,q1⟩=>?_;refine ji (hb AN s1 σ H1 _ I1 q1) λu c ⟨y,H2,I2,r2,q2⟩=>?_;exact d v u c x y H2 I2 r1 r2 q2
theorem X0{op:Operator}{r:R2}(ho:xq X (binaryOp op) r)(ha:PE X a ta)(hb:PE X b tb):PE X (.BinOp a op b pos) (F0 r ta tb):=by
 intro AN s σ H Q I h;exact wpAny_BinOp (HK ha hb I h λv u e x y H2 f c d q=>ho AN e σ H2 x y v u Q f c d q)
theorem WH{op:UnaryOp}{r:V->Hp->VK->Prop}(ho:DE X (unaryOp op) r)(ha:PE X a ta):PE X (.UnaryOp op a pos) (Ix r ta):=by
 intro AN s σ H Q I h;exact UnaryOp_ (ji (ha AN s σ H _ I h) λv s1 ⟨x,H1,I1,r1,q1⟩=>ho AN s1 σ H1 x v Q I1 r1 q1)
theorem Fs{f:A0->A0->Sem A0}{C:Int->Int->Prop}{g:Int->Int->Int}
  (b:∀(i j:Int) (t u:Tok) (s:A2) (Q:B8) (E:B8),C i j->Q (.int (g i j) s.toks) { s with toks:=s.toks+1 }->A7 (A8 X.prog X.w) X.A (f (.int i t) (.int j u)) Q E s):
  xq X f (rI C λi j=>.int (g i j)):=by
 intro AN s σ H x y v u Q I a c h;obtain⟨i,j,rfl,rfl,d,q⟩:=h;obtain⟨t,rfl⟩:=a;obtain⟨e,rfl⟩:=c;exact b i j t e s _ _ d ⟨.int (g i j),H,I.tok _,⟨_,rfl⟩,q⟩
theorem MZ{f:A0->A0->Sem A0}{g:Int->Int->Int}
  (b:∀(i j:Int) (t u:Tok) (s:A2) (Q:B8) (E:B8),Q (.int (g i j) s.toks) { s with toks:=s.toks+1 }->A7 (A8 X.prog X.w) X.A (f (.int i t) (.int j u)) Q E s):
  xq X f (DJ λi j=>.int (g i j)):=by
 intro AN s σ H x y v u Q I a d h;obtain⟨i,j,rfl,rfl,q⟩:=h;obtain⟨t,rfl⟩:=a;obtain⟨c,rfl⟩:=d;exact b i j t c s _ _ ⟨.int (g i j),H,I.tok _,⟨_,rfl⟩,q⟩
theorem F6{f:A0->A0->Sem A0}{g:Int->Int->Bool}
  (b:∀(i j:Int) (t u:Tok) (s:A2) (Q:B8) (E:B8),Q (.bool (g i j)) s->A7 (A8 X.prog X.w) X.A (f (.int i t) (.int j u)) Q E s):
  xq X f (DJ λi j=>.bl (g i j)):=by
 intro AN s σ H x y v u Q I a d h;obtain⟨i,j,rfl,rfl,q⟩:=h;obtain⟨t,rfl⟩:=a;obtain⟨c,rfl⟩:=d;exact b i j t c s _ _ ⟨.bl (g i j),H,I,rfl,q⟩
def VU(i j:Int):Prop:=0<j/\j<1073741824
def SZ(i j:Int):Prop:=0<=j/\j<=1000000/\i.natAbs<2 ^ 64
def GB(i j:Int):Prop:=(-(2 ^ 64)<i/\i<2 ^ 64)\/(-(2 ^ 64)<j/\j<2 ^ 64)
theorem GB.ok{i j:Int}(h:GB i j):IntMulOk i j:=by
 rcases h with⟨h1,h2⟩|⟨h1,h2⟩
 ·exact .of_left (intBits_le_64 h1 h2)
 ·exact .of_right (intBits_le_64 h1 h2)
theorem XO:xq X (binaryOp .Add) (DJ λi j=>.int (i+j)):=MZ λ_ _ _ _ _ _ _ q=>add_int q
theorem ce:xq X (binaryOp .Sub) (DJ λi j=>.int (i-j)):=MZ λ_ _ _ _ _ _ _ q=>sub_int q
theorem Pd:xq X (binaryOp .Mult) (rI GB λi j=>.int (i*j)):=Fs λ_ _ _ _ _ _ _ a q=>mul_int q a.ok
theorem NM:xq X (binaryOp .FloorDiv) (rI VU λi j=>.int (i / j)):=Fs λi j _ _ _ _ _ a q=>by
 have h1:(0:Int)<j:=a.1;have h2:j<1073741824:=a.2;exact floordiv_int (by omega) (by rw[Int.fdiv_eq_ediv_of_nonneg i (by omega)];exact q) (.inl (PyProof.noPylong_small (by omega)))
theorem XV:xq X (binaryOp .Mod) (rI (λ_ j=>0<j) λi j=>.int (i%j)):=Fs λi j _ _ _ _ _ a q=>by
 have h1:(0:Int)<j:=a;exact mod_int' (by omega) (by rw[Int.fmod_eq_emod_of_nonneg i (by omega)];exact q)
theorem bq:xq X (binaryOp .Pow) (rI SZ λi j=>.int (i ^ j.toNat)):=Fs λ_ _ _ _ _ _ _ a q=>pow_int_small a.1 a.2.1 a.2.2 q
theorem XT{f:A0->Sem A0}{g:Int->Int}
  (b:∀(i:Int) (t:Tok) (s:A2) (Q:B8) (E:B8),Q (.int (g i) s.toks) { s with toks:=s.toks+1 }->A7 (A8 X.prog X.w) X.A (f (.int i t)) Q E s):
  DE X f (rU λi=>.int (g i)):=by
 intro AN s σ H x v Q I a h;obtain⟨i,rfl,q⟩:=h;obtain⟨t,rfl⟩:=a;exact b i t s _ _ ⟨.int (g i),H,I.tok _,⟨_,rfl⟩,q⟩
theorem XE:DE X (unaryOp .USub) (rU λi=>.int (-i)):=XT λ_ _ _ _ _ q=>neg_int q
theorem YF{σ:St}{H:Hp}{Q:VK}{k a:Bool}(I:AU X AN σ H s)(q:Q (.bl k) H)(e:k=a):EP X AN σ Q (.bool a) s:=by
 subst e;exact⟨.bl k,H,I,rfl,q⟩
theorem UC:xq X (AG .Lt) (DJ λi j=>.bl (decide (i<j))):=F6 λ_ _ _ _ _ _ _ q=>lt_int q
theorem US:xq X (AG .LtE) (DJ λi j=>.bl (decide (i<=j))):=F6 λ_ _ _ _ _ _ _ q=>le_int q
theorem df:xq X (AG .Gt) (DJ λi j=>.bl (decide (j<i))):=F6 λ_ _ _ _ _ _ _ q=>gt_int q
theorem TB:xq X (AG .GtE) (DJ λi j=>.bl (decide (j<=i))):=F6 λ_ _ _ _ _ _ _ q=>ge_int q
theorem Ww:xq X (AG .In) (λx y H Q=>∃i j,x=.str i/\y=.str j/\Q (.bl (!(Builtin.Str.occurrences j i 0 j.length 1).isEmpty)) H):=by
 intro AN s σ H x y v u Q I a b h;obtain⟨i,j,rfl,rfl,q⟩:=h;obtain⟨t,rfl⟩:=a;obtain⟨c,rfl⟩:=b;exact in_str (YF I q Δ)
theorem Rl:xq X (AG .IsNot) (λx y H Q=>y=.non/\Q (.bl (!decide (x=.non))) H):=by
 intro AN s σ H x y v u Q I a b h;obtain⟨rfl,q⟩:=h;cases b;refine isnot_none_gen (YF I q ?_);cases x<;>first
  |(cases a;rfl)
  |(obtain⟨t,rfl⟩:=a;rfl)
theorem cL(b:Expr)(h:op≠.In:=by decide)(h2:op≠.NotIn:=by decide):behindInMarks op b=false:=by
 have e1:(op==CmpOp.In)=false:=by cases op<;>first|rfl|exact absurd Δ h
 have e2:(op==CmpOp.NotIn)=false:=by cases op<;>first|rfl|exact absurd Δ h2
 cases b<;>simp[behindInMarks,e1,e2]
theorem b8{r:R2}(ho:xq X (AG op) r)(ha:PE X a ta)(hb:PE X b tb)(e:behindInMarks op b=false):PE X (.Compare a [op] [b] pos) (F0 r ta tb):=by
 intro AN s σ H Q I h;exact wpAny_Compare1 (HK ha hb I h λv u g x y H2 f c d q=>ho AN g σ H2 x y v u Q f c d q) e
def VC(t:TE):TT:=λσ H Q=>t σ H λx H'=>∃k,x=.bl k/\Q k H'
theorem Y1{r:R2}(ho:xq X (AG op) r)(ha:PE X a ta)(hb:PE X b tb)(d:behindInMarks op b=false):PT X (.Compare a [op] [b] pos) (VC (F0 r ta tb)):=by
 intro AN s σ H Q I h;refine wpAny_isTrue_Compare1 (ji (ha AN s σ H _ I h) λv s1 ⟨x,H1,I1,r1,q1⟩=>ji (hb AN s1 σ H1 _ I1 q1) λu s2 ⟨y,H2,I2,r2,q2⟩=>
  ji (ho AN s2 σ H2 x y v u _ I2 r1 r2 q2) λc s3 ⟨z,H3,I3,r3,k,e,q3⟩=>?_) d
 subst e;cases r3;exact jS ⟨H3,I3,q3⟩
def YG(r d:R2)(ta tb tc:TE):TE:=λσ H Q=>ta σ H λx H1=>tb σ H1 λy H2=>r x y H2 λz a=>∃k,z=.bl k ∧
 (if k=true then tc σ a λb c=>d y b c Q else Q (.bl false) a)
theorem YH{f:CmpOp}{r g:R2}(ho:xq X (AG op) r)(l:xq X (AG f) g)(ha:PE X a ta)(hb:PE X b tb)(j:PE X c tc)(i:lastMarks [op,f] [b,c]=false:=by with_unfolding_all rfl):PE X (.Compare a [op,f] [b,c] pos) (YG r g ta tb tc):=by
 intro AN s σ H Q I h;refine Compare_chain (ji (ha AN s σ H _ I h) λv s1 ⟨x,H1,I1,r1,q1⟩=>chain_link (ji (hb AN s1 σ H1 _ I1 q1) λu s2 ⟨y,H2,I2,r2,q2⟩=>
  ji (ho AN s2 σ H2 x y v u _ I2 r1 r2 q2) λd s3 ⟨z,H3,I3,r3,k,e,q3⟩=>?_)) i
 subst e;cases r3;refine jS ?_;cases k with
 |false=>exact ite_ff ⟨.bl false,H3,I3,rfl,q3⟩
 |true=>exact ite_tt (chain_last (ji (j AN s3 σ H3 _ I3 q3) λw' s4 ⟨z',H4,I4,r4,q4⟩=>l AN s4 σ H4 y z' u w' Q I4 r2 r4 q4))
def Hk(K:B0)(x:V)(H:Hp)(k:Bool):Prop:=
 match x with
 |.non=>k=false
 |.bl b=>k=b
 |.int i=>k=(i != 0)
 |.str y=>y.length<=AA/\k=((y.length:Int) != 0)
 |.byt y=>y.size<=AA/\k=((y.size:Int) != 0)
 |.ref p=>(∃xs,uZ K H p xs/\k=!xs.isEmpty)\/(∃xs,wV K H p xs/\k=!xs.isEmpty)\/∃AO,H p=Z (.dK AO)/\k=!AO.isEmpty
 |_=>False
theorem RQ{AO:U (κ×V)}{vs:U (κ×A0)}(r:KV AO vs):(!vs.isEmpty)=!AO.isEmpty:=by
 cases r<;>rfl
theorem Ey{xs:U V}(r:AX xs AQ):(!AQ.toArray.isEmpty)=!xs.isEmpty:=by
 cases r<;>simp
theorem Ay:(AA:Nat)<2 ^ 63:=by rw[sizeLine_eq];decide
theorem Si:UU X (λx H Q=>∃k,Hk X.K x H k/\Q k H):=by
 intro AN s σ H x v Q I a h;obtain⟨k,e,q⟩:=h;have j:=Ay;have hs:AA=16777216:=sizeLine_eq;cases x with
 |non=>
  cases a;have e':k=false:=e;subst e';exact truthy_none ⟨H,I,q⟩
 |bl b=>
  cases a;have e':k=b:=e;subst e';exact jS ⟨H,I,q⟩
 |int i=>
  obtain⟨t,rfl⟩:=a;have e':k=(i != 0):=e;subst e';exact PySem.P.truthy_int ⟨H,I,q⟩
 |str y=>
  obtain⟨t,rfl⟩:=a;obtain⟨f,e'⟩:y.length<=AA/\k=((y.length:Int) != 0):=e;subst e';exact PySem.P.truthy_str (by omega) ⟨H,I.tok _,q⟩
 |byt y=>
  obtain⟨t,rfl⟩:=a;obtain⟨f,e'⟩:y.size<=AA/\k=((y.size:Int) != 0):=e;subst e';exact PySem.W.truthy_bytes (by omega) ⟨H,I.tok _,q⟩
 |ref p=>
  cases a;have e':(∃xs,uZ X.K H p xs/\k=!xs.isEmpty)\/(∃xs,wV X.K H p xs/\k=!xs.isEmpty)\/∃AO,H p=Z (.dK AO)/\k=!AO.isEmpty:=e;rcases e' with⟨xs,hx,e'⟩|⟨xs,hx,e'⟩|⟨AO,hx,e'⟩
  ·subst e';obtain⟨AQ,r,pl,c⟩:=I.list hx;have d:=r.length;exact wpAny_truthy_list pl.isList (by simp only[zS];omega) ⟨H,I.tok _,by rw[Ey r];exact q⟩
  ·subst e';obtain⟨AQ,r,pl,c⟩:=I.tuple hx;have d:=r.length;exact truthy_tuple pl (by simp only[zS];omega) ⟨H,I.tok _,by rw[Ey r];exact q⟩
  ·subst e';obtain⟨c,g,vs,r,m⟩:AO.length<=AA/\(p==sysModules)=false/\∃vs,KV AO vs/\s.heap.DictOf (bB X.prog X.w) p vs:=I.hok p _ hx;have d:AO.length=vs.length:=Paired.length r;exact wpAny_truthy_dict g m (by omega) ⟨H,I.tok _,by rw[RQ r];exact q⟩
 |_=>exact(show False from e).elim
theorem YJ(ha:PE X a ta)(he:∀b,isTrue a X.env b=(do let v <-b;standAt a.pos;holding [v] (truthy v))):
  PT X a (λσ H Q=>ta σ H λx H'=>∃k,Hk X.K x H' k/\Q k H'):=by
 intro AN s σ H Q I h;exact isTrue_plain (ji (ha AN s σ H _ I h) λv s1 ⟨x,H1,I1,r1,q1⟩=>Si AN s1 σ H1 x v Q I1 r1 q1) (he _)
theorem RV:xq X (binaryOp .Add) (λx y H Q=>∃i j,x=.str i/\y=.str j/\i.length+j.length<=AA/\Q (.str (i++j)) H):=by
 intro AN s σ H x y v u Q I a b h;obtain⟨i,j,rfl,rfl,c,q⟩:=h;obtain⟨t,rfl⟩:=a;obtain⟨d,rfl⟩:=b;exact add_str (λd tk=>⟨.str (i++j),H,I.tok _,⟨_,rfl⟩,q⟩) c
theorem BD{x:V}(r:AX [x] us):∃u,us=[u]/\As x u:=by
 cases r with
 |cons r1 r2=>cases r2;exact⟨_,rfl,r1⟩
theorem CB{x y:V}(r:AX [x,y] us):∃u a,us=[u,a]/\As x u/\As y a:=by
 cases r with
 |cons r1 r2=>
  cases r2 with
  |cons b r4=>cases r4;exact⟨_,_,rfl,r1,b⟩
theorem YK:gB X (.builtin "abs") (λxs H Q=>∃i,xs=[.int i]/\Q (.int (if i<0 then -i else i)) H):=by
 intro AN s σ H xs us Q I r h;obtain⟨i,rfl,q⟩:=h;obtain⟨u,rfl,t,rfl⟩:=BD r;exact call_abs_int λu tk=>⟨.int (if i<0 then -i else i),H,I.tok _,⟨_,rfl⟩,q⟩
theorem Wx:gB X (.type "int") (λxs H Q=>(∃i,xs=[.int i]/\Q (.int i) H)\/∃k,xs=[.bl k]/\Q (.int (if k then 1 else 0)) H):=by
 intro AN s σ H xs us Q I r h;rcases h with⟨i,rfl,q⟩|⟨k,rfl,q⟩
 ·obtain⟨u,rfl,t,rfl⟩:=BD r;exact call_int_int ⟨.int i,H,I,⟨_,rfl⟩,q⟩
 ·obtain⟨u,rfl,r1⟩:=BD r;cases r1;exact call_int_bool ⟨.int (if k then 1 else 0),H,I.tok _,⟨_,rfl⟩,q⟩
end
end L2
namespace L2
structure ON (h:Heap) (x dx C:Addr) (mA:Str->Option Value):Prop where
 obj:h.get? x=some (instObj C dx)
 ns:h.Ns1 dx mA
 ne:dx≠x
section
variable{x dx f:A1}{mA:AJ->O A0}{v:A0}
end
theorem Et.some_of{v:V}{o:O A0}(r:Et (Z v) o):∃u,o=Z u/\As v u:=by
 cases o with
 |none=>exact(show False from r).elim
 |some u=>exact⟨u,rfl,r⟩
section
variable{H H':Hp}{h':A6}{dx:A1}{fs fs':U (AJ×V)}
theorem DY(c:yM P w H h)(e:H a=Z (.ins C dx fs)):∃mA,ON h a dx C mA/\(∀f,Et (fs.lookup f) (mA f))/\PySem.Within mA (fs.map (·.1))/\fs.length<=1000/\H dx=Z (.own a):=by
 obtain⟨d,z,ne,b,mA,n,r,q⟩:=(show gR P w H h a (.ins C dx fs) from c a _ e);exact⟨mA,⟨b,n,ne⟩,r,q,z,d⟩
end
structure wW (K:B0) (C:Addr) (f:Str) (v:V) (u:Value):Prop where
 at_:PySem.W.findIn K (.ref C) f=some (some u)
 rel:As v u
 get:PySem.W.specialIn K u "__get__"=some none
 cp:PySem.W.copiedNames.contains f=false
section
variable{X:Cx}{σ:St}{H:Hp}{dx:A1}{fs:U (AJ×V)}{f:AJ}{v:V}
end
section
variable{X:Cx}{o value:Expr}{f:AJ}{pos':Pos}{ta tv:TE}
end
section
variable{X:Cx}{σ:St}{H:Hp}{Q:B8}{c:A0}{b:Bool}
end
end L2
namespace L2
structure nY (k:Nat) (A:Around):Prop where
 hd:A.handled=none
 dp:A.depth+3*k+5<recursionLimit
 un:A.units+16*k+200<cLine
theorem nY.mono{k:Nat}(r:nY k A)(h:j<=k):nY j A:=⟨r.hd,by have:=r.dp;omega,by have:=r.un;omega⟩
theorem nY.deeper{k:Nat}(r:nY (k+1) A)(env:Env):nY k (A.deeper env):=
 ⟨r.hd,by have:=r.dp;show A.depth+1+3*k+5<_;omega,by have:=r.un;show A.units+3+16*k+200<_;omega⟩
theorem nY.depth{k:Nat}(r:nY k A):A.depth<recursionLimit:=by have:=r.dp;omega
def YL:TA:=λ_ H Q=>Q [] H
def yO(ta:TE)(a:TA):TA:=λσ H Q=>ta σ H λx H1=>a σ H1 λxs H2=>Q (x::xs) H2
section
variable{X:Cx}{te:TE}{t:TA}
theorem tB:PA X [] YL:=λ_ _ _ _ H Q I h=>Calls.spliced_nil ⟨[],H,I,.nil,h⟩
theorem jk(ha:PE X e te)(a:PA X es t)(hs:A9 (e::es) X.env=(false,eval e X.env)::A9 es X.env:=by rfl):PA X (e::es) (yO te t):=by
 intro pos AN s σ H Q I h;rw[hs];show A7 _ _ (spliced ((false,eval e X.env)::AD pos (A9 es X.env))) _ _ s;refine Calls.spliced_cons (ji (ha AN s σ H _ I h) λu s1 ⟨x,H1,I1,r1,q1⟩=>?_);exact ji (a pos AN s1 σ H1 _ I1 q1) λus s2 ⟨xs,H2,I2,r2,q2⟩=>⟨x::xs,H2,I2,.cons r1 r2,q2⟩
def NJ(t:TA):TE:=λσ H Q=>t σ H λxs H1=>xs.length<=AA/\∀p,H1 p=Y->Q (.ref p) (B5 H1 p (.tup xs))
def e8(t:TA):TE:=λσ H Q=>t σ H λxs H1=>xs.length<=AA/\∀p,H1 p=Y->Q (.ref p) (B5 H1 p (.lst xs))
theorem TD{x1}(h:PA X es t):PE X (.Tuple es x1 pos) (NJ t):=by
 intro AN s σ H Q I c;refine wpAny_Tuple_spliced (ji (h pos AN s σ H _ I c) λus s1 ⟨xs,H1,I1,r,z,q⟩=>⟨by rw[<-r.length];exact z,?_⟩);have a:H1 s1.heap.objs.size=Y:=I1.hok.fresh (zk _);refine⟨.ref s1.heap.objs.size,B5 H1 s1.heap.objs.size (.tup xs),I1.laid (t':=s1.toks) (λb u e=>ze _ e) (zk _) ?_,rfl,q _ a⟩;exact⟨z,us,r,⟨_,zv _ rfl,rfl,⟨_,rfl⟩,rfl⟩⟩
theorem RY(h:PA X es t):PE X (.List es pos) (e8 t):=by
 intro AN s σ H Q I c;refine wpAny_List_spliced (ji (h pos AN s σ H _ I c) λus s1 ⟨xs,H1,I1,r,z,q⟩=>⟨by rw[<-r.length];exact z,?_⟩);have a:H1 s1.heap.objs.size=Y:=I1.hok.fresh (zk _);refine⟨.ref s1.heap.objs.size,B5 H1 s1.heap.objs.size (.lst xs),I1.laid (t':=s1.toks) (λb u e=>ze _ e) (zk _) ?_,rfl,q _ a⟩;exact⟨z,us,0,r,zv _ rfl⟩
end
abbrev Sp:=U V->Hp->VK->XK->Prop
abbrev Ym:=U Env->Hp->A2->XK->A0->A2->Prop
structure Fa (P:Program) (w:World) (K:B0) (mg:Str->Option Value) (base:Heap) (A:Around) (outer:List Env) (s:Shared) (H:Hp):Prop where
 frames:A.frames=some outer
 mod:Mod K mg base
 bs:∀b o,base.get? b=some o->s.heap.get? b=some o/\H b=none
 bsz:base.objs.size<=s.heap.objs.size
 Eu:s.heap.FunFrames base outer
 frf:∀b∈Cb outer,H b=none
 hok:yM P w H s.heap
 bare:AllBare s.gens
def CE(outer:U Env)(P:A3)(w:A4)(H:Hp)(s:A2)(Q:VK)(u:A0)(s':A2):Prop:=
 ∃v H',s'.os=s.os/\AllBare s'.gens/\Un (Cb outer) [] H H' s.heap s'.heap/\yM P w H' s'.heap/\As v u/\Q v H'
def CR(CX:Ym)(outer:U Env)(P:A3)(w:A4)(H:Hp)(s:A2)(Q:VK)(E:XK)(r:Result)(s':A2):Prop:=
 match r with
 |.ok (.ret u)=>CE outer P w H s Q u s'
 |.ok _=>False
 |.error e=>CX outer H s E e s'
structure u6 (P:Program) (w:World) (K:B0) (mg:Str->Option Value) (base:Heap) (CX:Ym) (k:Nat) (f:Addr) (fd:FuncData) (ps:An) (sp:Sp):Prop where
 len:∀vs H Q E,sp vs H Q E->vs.length=ps.length
 run:∀(A:Around) (outer:List Env) (s:Shared) (H:Hp) (args:Args) (us:List Value) (vs:List V) (Q:VK) (E:XK),nY k A->Fa P w K mg base A outer s H->BindsTo s fd args (ps.zip us)->AX vs us->sp vs H Q E →
  codeAny (model P w) A (.call (.ref f) args) (CR CX outer P w H s Q E) s
section
variable{X:Cx}{σ:St}{H:Hp}{s':A2}
theorem AU.env0(I:AU X AN σ H s):Fa X.prog X.w X.K X.mg X.base X.A X.stack s H:=
 ⟨I.ok.frames,I.ok.mod,I.bs,ZI I.ok.bsz I.sz,I.stack,I.UL,I.hok,I.bare⟩
theorem AU.after{Q:VK}(I:AU X AN σ H s)(h:CE X.stack X.prog X.w H s Q u s'):EP X AN σ Q u s':=by
 obtain⟨v,H',os,c,un,f,r,q⟩:=h;obtain⟨e,g,d,t,a⟩:=s';obtain rfl:a=s.os:=os;exact⟨v,H',I.call (h':=e) (g':=g) (d':=d) (t':=t) (ch:=[]) un f c (λb z=>absurd z (by simp)),r,q⟩
end
def PY(sp:Sp)(dvs:U V)(E:XK)(t:TA):TE:=λσ H Q=>t σ H λvs H1=>sp (vs++dvs) H1 Q E
def BT(K:B0)(fd:FuncData)(ps:An)(ds:U A0):Prop:=
 ∀(s:A2) (us:U A0),K.In s.heap->(us++ds).length=ps.length->BindsTo s fd ⟨us,[]⟩ (ps.zip (us++ds))
theorem BT.all(h:∀us:U A0,us.length=ps.length->bindArgs fd ⟨us,[]⟩=pure (ps.zip us)):BT K fd ps []:=λs us _ a=>by
 rw[ZU]at a ⊢;exact .of_eq (h us a)
def C6(CX:Ym)(X:Cx)(E:XK):Prop:=∀(AN:U (A1×AE)) (σ:St) (H:Hp) (s:A2) (e:A0) (s':A2),AU X AN σ H s->CX X.stack H s E e s'->X.xe e s'
section
variable{X:Cx}{CX:Ym}{k:Nat}{f:A1}{sp:Sp}{dvs:U V}{ds:U A0}{E:XK}{m:AJ}{p:Pos}{o:Expr}{ta:TE}{t:TA}
theorem bm{σ:St}{H:Hp}{Q:VK}{vs:U V}(F:u6 X.prog X.w X.K X.mg X.base CX k f fd ps sp)(b:nY k X.A)(hb:BT X.K fd ps ds)(d:AX dvs ds)(hx:C6 CX X E)(I:AU X AN σ H s)(r:AX vs us)(h:sp (vs++dvs) H Q E):A7 (A8 X.prog X.w) X.A (call (.ref f) us) (EP X AN σ Q) X.xe s:=by
 have r2:AX (vs++dvs) (us++ds):=r.append d;have c:(us++ds).length=ps.length:=by rw[<-r2.length];exact F.len _ _ _ _ h
 refine wpAny_call (codeAny_mono (F.run X.A X.stack s H ⟨us,[]⟩ (us++ds) (vs++dvs) Q E b I.env0 (hb s us I.kIn c) r2 h) λr s' a=>?_);cases r with
 |error e=>exact hx AN σ H s e s' I a
 |ok fl=>
  cases fl with
  |ret u=>exact I.after a
  |next=>exact False.elim a
  |brk=>exact False.elim a
  |cont=>exact False.elim a
theorem U4(F:u6 X.prog X.w X.K X.mg X.base CX k f fd ps sp)(a:nY k X.A)(hg:Gl X x)(d:X.mg x=Z (.ref f))(i:keepIn X.K (.ref f)=true)(hb:BT X.K fd ps ds)(g:AX dvs ds)(hx:C6 CX X E)
  (ha:PA X (e::es) t) (b:(x==("__debug__":AJ))=false:=by decide) (he:A9 (e::es) X.env=(false,eval e X.env)::A9 es X.env:=by rfl) (c:(AD pos (A9 es X.env)).any (·.1)=false:=by rfl):
  PE X (.Call (.Name x p) (e::es) [] pos) (PY sp dvs E t):=by
 intro AN s σ H Q I h;refine wpAny_Call_Name_kw (UW I hg d ?_ b);refine PySem.W.callWith_K (h₀:=X.base) I.ok.mod.kin i (ji (ha pos AN s σ H _ I h) λus s1 ⟨vs,H1,I1,r,q⟩=>⟨I1.kIn,?_⟩) he c;exact bm F a hb g hx I1 r q
end
section
variable{X:Cx}{CX:Ym}{k:Nat}{f:A1}{ks:An}{sp:Sp}{E:XK}{m:AJ}{p kpos:Pos}{o:Expr}{kws:U AC}{te ta:TE}{t tk:TA}{nm:O AJ}
variable{g:U A0->U A0->U A0}{gV:U V->U V->U V}
end
structure bC (N P:An) (sc:Scope):Prop where
 kind:sc.kind=.function
 co:sc.isCoroutine=false
 gen:sc.isGenerator=false
 nd:N.Nodup
 pre:N.take P.length=P
 par:∀x∈P,sc.names.lookup x=some .local\/sc.names.lookup x=some .cell
 afw:∀y∈sc.names,y.2≠.free
theorem Jr{b:AJ->O NameKind}{x:AJ}:∀{binds:U (AJ×A0)} {m:AJ->O A0},(∀v,(x,v)∉binds)->bindL b binds m x=m x
 |[],_,_=>rfl
 |(n,v)::r,m,h=>by
  unfold bindL;rw[Jr λw a=>h w (zh _ a)];split
  ·have:x≠n:=by rintro rfl;exact h v zi
   simp[this]
  ·rfl
theorem Js{b:AJ->O NameKind}{x:AJ}:∀{binds:U (AJ×A0)} {m:AJ->O A0},(∀v,(x,v)∉binds)->bindC b binds m x=m x
 |[],_,_=>rfl
 |(n,v)::r,m,h=>by
  unfold bindC;rw[Js λw a=>h w (zh _ a)];split
  ·rfl
  ·have:x≠n:=by rintro rfl;exact h v zi
   simp[this]
theorem Jt{a:AJ->O NameKind}{x:AJ}{v:A0}:∀{P:An} {vs:U A0} {i:Nat} {m:AJ->O A0},P.Nodup->P[i]?=Z x->vs[i]?=Z v->a x=Z .local →
  bindL a (P.zip vs) m x=Z v
 |[],_,_,_,_,h,_,_=>by simp at h
 |_::_,[],_,_,_,_,h,_=>by simp at h
 |p::P,w::vs,0,m,nd,h1,h2,hk=>by
  simp at h1 h2;subst h1;subst h2;show bindL a ((p,w)::P.zip vs) m p=_;unfold bindL;rw[Jr λv b=>(List.nodup_cons.mp nd).1 (List.of_mem_zip b).1,zo hk];simp
 |p::P,w::vs,i+1,m,nd,h1,h2,hk=>by
  show bindL a ((p,w)::P.zip vs) m x=_;unfold bindL;exact Jt (i:=i) (List.nodup_cons.mp nd).2 (by simpa using h1) (by simpa using h2) hk
theorem Ju{a:AJ->O NameKind}{x:AJ}{v:A0}:∀{P:An} {vs:U A0} {i:Nat} {m:AJ->O A0},P.Nodup->P[i]?=Z x->vs[i]?=Z v->a x≠Z .local →
  bindC a (P.zip vs) m x=Z v
 |[],_,_,_,_,h,_,_=>by simp at h
 |_::_,[],_,_,_,_,h,_=>by simp at h
 |p::P,w::vs,0,m,nd,h1,h2,hk=>by
  simp at h1 h2;subst h1;subst h2;show bindC a ((p,w)::P.zip vs) m p=_;unfold bindC;rw[Js λv b=>(List.nodup_cons.mp nd).1 (List.of_mem_zip b).1,zC hk];simp
 |p::P,w::vs,i+1,m,nd,h1,h2,hk=>by
  show bindC a ((p,w)::P.zip vs) m x=_;unfold bindC;exact Ju (i:=i) (List.nodup_cons.mp nd).2 (by simpa using h1) (by simpa using h2) hk
def start(N:An)(vs:U V):St:=vs.map Z++List.replicate (N.length-vs.length) Y
def Ez(CX:Ym)(P:A3)(w:A4)(K:B0)(mg:AJ->O A0)(base:A6)(N:An)(qual:AJ)(scope:Scope)(f:A1)(a:A0)(A:A5)(outer:U Env)(s:A2)(H:Hp)(E:XK):Cx where
 prog:=P
 w:=w
 K:=K
 mg:=mg
 base:=base
 A:=A.deeper (AK qual scope s.heap.objs.size f a)
 N:=N
 s₀:=s
 H₀:=H
 env:=AK qual scope s.heap.objs.size f a
 outer:=outer
 stack:=AK qual scope s.heap.objs.size f a::outer
 ex:=[]
 calm:=true
 fn:=λ_=>true
 pn:=[]
 xe:=λe s'=>A7 (A8 P w) (A.deeper (AK qual scope s.heap.objs.size f a)) (leaving (AK qual scope s.heap.objs.size f a) e) (λ_ b=>CX outer H s E e b) (λe' b=>CX outer H s E e' b) s'
theorem Oe{a:Scope}(h:a.names.lookup x=Z .cell):∃c,(cellsFrom n a.names []).lookup x=Z c:=by
 have q:=cellsFrom_some a.names n [] (.inl h);exact Option.isSome_iff_exists.mp q
theorem Wy{CX:Ym}{f:A1}{g:A0}{outer:U Env}{o:A2}{H:Hp}{E:XK}{vs:U V}(S:bC N ps scope)(B:A.handled=Y)(e0:Fa P w K mg base A outer s H)(F:vs.length=ps.length)(r:AX vs us)(x:InCallC s s.heap.objs.size (bindL (AK qual scope s.heap.objs.size f g).kindOf (ps.zip us) λ_=>Y) (cellsFrom (s.heap.objs.size+1) scope.names []) (bindC (AK qual scope s.heap.objs.size f g).kindOf (ps.zip us) λ_=>Y) o):
  AU (Ez CX P w K mg base N qual scope f g A outer s H E) [] (start N vs) H o:=by
 have G:ps.length<=N.length:=by have:=congrArg List.length S.pre;rw[kg]at this;omega
 obtain⟨h1,tk,rfl,t⟩:=x.done;have j:∀b:A1,b∉(Ez CX P w K mg base N qual scope f g A outer s H E).ex:=λb z=>absurd (show b∈([]:U A1) from z) (by simp);refine⟨⟨e0.mod,S.kind,rfl,rfl,zk _,λy z c h1 h2=>?_,λy d=>?_,λy c _ h=>?_,λ_=>B,Around.frames_deeper e0.frames,.inr ⟨rfl,rfl⟩,λb z=>absurd z (j b),e0.bs,e0.bsz,λb _ _=>j b,λb z=>absurd z (j b),e0.Eu,e0.frf⟩,
  rfl,e0.bare,Un.kept t,⟨_,x.toInCall.ns,λi y v h1 h2 D=>?_⟩,λy c h=>⟨_,x.cell y c h⟩,e0.hok.fresh (zk _),λy c h=>?_,λp hp=>absurd (show p∈([]:U (A1×AE)) from hp) (by simp),e0.hok.kept t,?_⟩
 ·exact name_of_addr x.apart (kf h1) (kf h2)
 ·have d:scope.names.lookup y=Z .cell\/scope.names.lookup y=Z .free:=d;rcases d with d|d
  ·exact Oe d
  ·exact absurd Δ (S.afw _ (kf d))
 ·exact j0 (x.above y c (kf h))
 ·have hi:i<vs.length:=by
   unfold start at h2;by_cases hi:i<vs.length
   ·exact hi
   ·rw[qv (by simpa using hi)]at h2;rw[QQ]at h2;split at h2<;>cases h2
  have ha:vs[i]?=Z v:=by
   unfold start at h2;rw[ZO (by simpa using hi),Zp]at h2;cases e:vs[i]? with
   |none=>rw[e]at h2;cases h2
   |some a=>rw[e]at h2;cases h2;rfl
  obtain⟨u,l,C⟩:=r.get ha;have hp:ps[i]?=Z y:=by
   rw[<-S.pre,List.getElem?_take_of_lt (by omega)];exact h1
  have m:ps.Nodup:=by rw[<-S.pre];exact S.nd.sublist (List.take_sublist _ _)
  refine⟨u,C,?_⟩;rcases S.par y (QI hp)with k|k
  ·exact .inl ⟨k,Jt m hp l k⟩
  ·obtain⟨c,e⟩:=Oe (n:=s.heap.objs.size+1) k;refine .inr ⟨.inl k,c,e,?_⟩;have q:=x.cell y c e;rw[Ju m hp l (by show scope.names.lookup y≠_;rw[k];decide)]at q;exact q
 ·exact e0.hok.fresh (j0 (x.above y c (kf h)))
 ·unfold start;show _=N.length;rw[z5,zl,List.length_replicate];omega
theorem T0{CX:Ym}{k:Nat}{f:A1}{i:Arguments}{m kV l h a ct G:A0}{z od:O A1}{sp:Sp}(X:K.lookup f=Z ⟨G,od,.func (fnOf name qual i body scope m kV l h z a ct),osl⟩)(F:codeIn K a qual=true)(S:bC N ps scope)(len:∀vs H Q E,sp vs H Q E->vs.length=ps.length)(a0:∀(A:A5) (outer:U Env) (s:A2) (H:Hp) (vs:U V) (Q:VK) (E:XK),nY k (A.deeper (AK qual scope s.heap.objs.size f a))->sp vs H Q E →
   ∃t,RJ (Ez CX P w K mg base N qual scope f a A outer s H E) body t/\t { nx:=λ_ H'=>Q .non H',rt:=Q } (start N vs) H):
  u6 P w K mg base CX (k+1) f (fnOf name qual i body scope m kV l h z a ct) ps sp:=by
 refine⟨len,λA outer s H a2 us vs Q E c e0 hb r g=>?_⟩;have C:=len _ _ _ _ g;have B:K.In s.heap:=e0.mod.kin.keeps λb o e=>(e0.bs b o e).1;have D:s.heap.NoLimit:=e0.mod.nolimit.keeps λb o e=>(e0.bs b o e).1;have a1:∀y∈ps.zip us,scope.names.lookup y.1=Z .local\/(scope.names.lookup y.1=Z .cell/\((cellsFrom (s.heap.objs.size+1) scope.names []).lookup y.1).isSome=true):=λ⟨n,v⟩ hy=>by
  rcases S.par n (List.of_mem_zip hy).1 with q|q
  ·exact .inl q
  ·exact .inr ⟨q,cellsFrom_some _ _ _ (.inl q)⟩
 refine codeAny_call_function c.depth (B _ _ X) Δ S.co S.gen Δ (PySem.W.codeRec_of B F) (hb _ _ _ _ ?_);refine wpAny_newFunctionEnv_cells S.kind a1 λenv M p x=>?_;subst M;refine⟨D.keeps x.toInCall.keep,codeAny_func ?_⟩;obtain⟨t,ht,L⟩:=a0 A outer s H vs Q E (c.deeper _) g;have I:AU (Ez CX P w K mg base N qual scope f a A outer s H E) [] (start N vs) H p:=Wy S c.hd e0 C r x;refine QN (ht [] p (start N vs) H _ I L) (λfl s' hs=>?_) λe s' hs=>hs;have j:∀{σ':St} {H':Hp} {v:V} {u:A0},AU (Ez CX P w K mg base N qual scope f a A outer s H E) [] σ' H' s'->As v u->Q v H'->CE outer P w H s Q u s':=
  λ{σ' H' v u} J d q=>⟨v,H',J.os,J.bare,J.base,J.hok,d,q⟩
 cases fl with
 |ret u=>
  obtain⟨v,σ',H',J,d,q⟩:=hs;exact j J d q
 |next=>
  obtain⟨σ',H',J,q⟩:=hs;exact j (v:=V.non) (u:=Value.none) J Δ q
 |brk=>
  obtain⟨_,_,_,q⟩:=hs;exact False.elim q
 |cont=>
  obtain⟨_,_,_,q⟩:=hs;exact False.elim q
end L2
namespace L2
section
variable{X:Cx}{p:Pos}{t:TA}{id T:String}{r:U V->Hp->VK->Prop}
def Hn(r:U V->Hp->VK->Prop)(t:TA):TE:=λσ H Q=>t σ H λvs H1=>r vs H1 Q
theorem sy(f:gB X (.builtin id) r)(hg:Gl X x)(d:X.mg x=Y)(b:AH x=Z (.builtin id))(ha:PA X (e::es) t)(g:x ≠ "__name__":=by decide)(a:(x==("__debug__":AJ))=false:=by decide)
  (he:A9 (e::es) X.env=(false,eval e X.env)::A9 es X.env:=by rfl) (c:(AD pos (A9 es X.env)).any (·.1)=false:=by rfl):PE X (.Call (.Name x p) (e::es) [] pos) (Hn r t):=by
 intro AN s σ H Q I h;refine wpAny_Call_Name_kw (Ew I hg d b ?_ g a);exact PyProof.Rows.callWith_builtin1 (ji (ha pos AN s σ H _ I h) λus s1 ⟨vs,H1,I1,r1,q1⟩=>f AN s1 σ H1 vs us Q I1 r1 q1) he c
theorem Jv(f:gB X (.type T) r)(hg:Gl X x)(d:X.mg x=Y)(b:AH x=Z (.type T))(ha:PA X (e::es) t)(g:x ≠ "__name__":=by decide)(a:(x==("__debug__":AJ))=false:=by decide)
  (he:A9 (e::es) X.env=(false,eval e X.env)::A9 es X.env:=by rfl) (c:(AD pos (A9 es X.env)).any (·.1)=false:=by rfl):PE X (.Call (.Name x p) (e::es) [] pos) (Hn r t):=by
 intro AN s σ H Q I h;refine wpAny_Call_Name_kw (Ew I hg d b ?_ g a);exact PyProof.Rows.callWith_type1 (ji (ha pos AN s σ H _ I h) λus s1 ⟨vs,H1,I1,r1,q1⟩=>f AN s1 σ H1 vs us Q I1 r1 q1) he c
end
end L2
namespace HT
open PySem PyProof.Rows
section
open PySem.SeqAt
open PySem.AutoSeq1 (wpAny_loadPart')
open PySem.MeetsSeq PySem.MeetsSeq2 PySem.MeetsSeq3
end
theorem ab3{t b:A1}{vs a:U A0}{Q:B8}(q:IsTup s.heap t vs.toArray)(hb:IsTup s.heap b a.toArray)(h:vs≠[])
  (h1:a=[]->Q (.ref t) s) (h2:a≠[]->Q (.ref s.heap.objs.size) { s with heap:=s.heap.push { cls:=.type "tuple",data:=.seq (vs++a).toArray } })
  (hsz:vs.length+a.length<=AA):A7 (A8 prog w) A (binaryOp .Add (.ref t) (.ref b)) Q E s:=by
 obtain⟨⟨cls,g,data,sl⟩,ho,l,n,i⟩:=id q;obtain⟨⟨cls2,o,u,j⟩,c,f,p,m⟩:=id hb;simp only at l i f m;subst l i f m;have e:vs.toArray++a.toArray=(vs++a).toArray:=by simp
 by_cases d:a=[]
 ·exact concat_meets ⟨_,ho,rfl⟩ ⟨_,c,rfl⟩ noFill_tuple_add seq_tuple_add PySem.F.slot_tuple_add yT (yA _ _)
   (tuple_addW1 t b vs.toArray a.toArray n p g o sl j (by simpa using h) (by simp[d])) ⟨ho,c,h1 d⟩
 ·refine concat_meets ⟨_,ho,rfl⟩ ⟨_,c,rfl⟩ noFill_tuple_add seq_tuple_add PySem.F.slot_tuple_add yT (yA _ _)
   (tuple_addW2 t b vs.toArray a.toArray n p g o sl j (by simpa using h) (by simpa using d) (by rw[zS,zS];exact hsz)) ⟨ho,c,?_⟩
  rw[e];exact h2 d
def jA(n d:Nat):O Int->Nat
 |none=>d
 |some v=>if v<0 then(v+(n:Int)).toNat else min v.toNat n
theorem XX(n d:Nat)(b:d<=n)(o:O Int):jA n d o<=n:=by
 cases o with
 |none=>exact b
 |some v=>
  show(if v<0 then(v+(n:Int)).toNat else min v.toNat n)<=n;by_cases a:v<0
  ·rw[zo a];omega
  ·rw[zC a];exact Nat.min_le_right _ _
theorem U5(v:Int)(n d:Nat):(if v<0 then max (v+(n:Int)) 0 else min v (n:Int))=((jA n d (Z v):Nat):Int):=by
 show(if v<0 then max (v+(n:Int)) 0 else min v (n:Int))=(((if v<0 then(v+(n:Int)).toNat else min v.toNat n):Nat):Int);by_cases a:v<0
 ·simp only[zo a];omega
 ·simp only[zC a];omega
theorem RW(lo hi:O Int)(n:Nat):Builtin.Slice.sliceAdjust lo hi 1 (n:Int)=(((jA n 0 lo:Nat):Int),((jA n n hi:Nat):Int)):=by
 have h1:¬ ((1:Int)<0):=by omega
 unfold Builtin.Slice.sliceAdjust;simp only[h1,ZN];refine Prod.ext ?_ ?_
 ·cases lo with
  |none=>rfl
  |some v=>exact U5 v n 0
 ·cases hi with
  |none=>rfl
  |some v=>exact U5 v n n
theorem RX(i j:Nat):Builtin.Slice.slicePlaces (i:Int) (j:Int) 1=j-i:=by
 unfold Builtin.Slice.slicePlaces;have h1:(1:Int)>0:=by omega
 simp only[h1,qS,Int.ediv_one];split<;>omega
theorem EY{v:A0}{o:O Int}{Q:O Int->A2->Prop}(p:IsPart v o)(h:Q o s):A7 (A8 prog w) A (Builtin.Slice.slicePartIndex v) Q E s:=by
 cases p with
 |none=>exact slicePart_none h
 |int i t=>exact slicePart_int h
theorem sE{sl:A1}{a c:A0}{lo:O Int}{Q:Int×Int×Nat->A2->Prop}(hs:s.heap.IsSliceOf sl a c .none)(pl:IsPart a lo)(e:IsPart c hi)(h:Q (((jA n 0 lo:Nat):Int),1,jA n n hi-jA n 0 lo) s):A7 (A8 prog w) A (Builtin.Slice.sliceApplied (.ref sl) (pure (n:Int))) Q E s:=by
 obtain⟨os,d,f,b⟩:=id hs;unfold Builtin.Slice.sliceApplied Builtin.Slice.sliceFields;refine zd (zd (j3 d b (x:=a) Δ (zd (j3 d b (x:=c) Δ (zd (j3 d b (x:=.none) Δ (zg ?_)))))));refine zd (slicePart_none ?_);show A7 _ _ (if((1:Int)==0)=true then _ else _) _ _ s;rw[zC (by decide)];refine zd (EY pl (zd (EY e (zd (zg ?_)))));show A7 _ _ (match Builtin.Slice.sliceAdjust lo hi 1 (n:Int)with|(lo,hi)=>pure (lo,(1:Int),Builtin.Slice.slicePlaces lo hi 1)) _ _ s;rw[RW lo hi n];show A7 _ _ (pure (((jA n 0 lo:Nat):Int),(1:Int),Builtin.Slice.slicePlaces ((jA n 0 lo:Nat):Int) ((jA n n hi:Nat):Int) 1)) _ _ s;rw[RX];exact zg h
theorem YM(xs:Array A0)(i k:Nat):((List.range k).filterMap λ(m:Nat)=>xs[((i:Int)+(m:Int)*1).toNat]?).toArray=((xs.toList.drop i).take k).toArray:=by
 have e:(λ(m:Nat)=>xs[((i:Int)+(m:Int)*1).toNat]?)=λm=>xs[i+m]?:=by
  funext m;have:((i:Int)+(m:Int)*1).toNat=i+m:=by omega
  rw[this]
 rw[e];have:=pick_run xs i k;rw[List.filterMap_map]at this;have e2:((λx=>xs[x]?) ∘ λx=>i+x)=λm=>xs[i+m]?:=rfl;rw[e2]at this;rw[this]
theorem yP{t sl:A1}{c d:A0}{lo:O Int}{Q:B8}(b:IsTup s.heap t items)(hs:s.heap.IsSliceOf sl c d .none)(pl:IsPart c lo)(e:IsPart d hi)(j:¬ (jA items.size 0 lo=0/\jA items.size items.size hi=items.size))(h:Q (.ref s.heap.objs.size) { s with heap:=s.heap.push { cls:=.type "tuple",data:=.seq ((items.toList.drop (jA items.size 0 lo)).take (jA items.size items.size hi-jA items.size 0 lo)).toArray } })(hsz:items.size<=AA):A7 (A8 prog w) A (getItem (.ref t) (.ref sl)) Q E s:=by
 have a:sizeOk (.seq ((items.toList.drop (jA items.size 0 lo)).take (jA items.size items.size hi-jA items.size 0 lo)).toArray):=by
  show((items.toList.drop (jA items.size 0 lo)).take (jA items.size items.size hi-jA items.size 0 lo)).toArray.size<=AA;rw[zS,kg,kX,qi];omega
 have o:jA items.size items.size hi<=items.size:=XX _ _ (zk _) hi;obtain⟨os,l,g,n⟩:=id hs;have i:s.TypeIs (.ref sl) "slice":=⟨os,l,g⟩;unfold getItem
 try with_reducible refine QU ?_
 first|refine zd (zg ?_)|skip
 refine zd (wpAny_sequenceKey b.typeIs (by decide) ?_);refine zd (js (name:=Str.ofString "__getitem__") b.typeIs PyProof.Rows.slot_tuple_getitem
  (Q2 PyProof.Rows.slot_tuple_getitem b.typeIs entry_tuple_getitem ?_ (args_tuple_getitem _ _)))
 show A7 _ _ (Builtin.Tuple.tupleItemsOf (.ref t) >>= _) _ _ s;refine zd (tupleItemsOf_ b ?_);refine zd (Q1 i ?_);rw[zo (by decide)];refine zd (sE hs pl e ?_);have f:¬ ((((jA items.size 0 lo:Nat):Int)==0&&(1:Int)==1&&(jA items.size items.size hi-jA items.size 0 lo)==items.size)=true):=by
  intro q;rw[ZY,ZY]at q;have q1:((jA items.size 0 lo:Nat):Int)=0:=eq_of_beq q.1.1;have q2:jA items.size items.size hi-jA items.size 0 lo=items.size:=eq_of_beq q.2;exact j ⟨by omega,by omega⟩
 show A7 _ _ (if(((jA items.size 0 lo:Nat):Int)==0&&(1:Int)==1&&(jA items.size items.size hi-jA items.size 0 lo)==items.size)=true then _ else _) _ _ s;rw[zC f,YM]
 first
  |exact zd (m:=Builtin.Tuple.tupleExact _) (qo (zg ⟨_,rfl,zg h⟩) a)
  |exact zd (m:=Builtin.Tuple.tupleExact _) (qo (zd (zg (zg ⟨_,rfl,zg h⟩))) a)
  |exact zd (zd (m:=Builtin.Tuple.tupleExact _) (qo (zg (zg ⟨_,rfl,zg h⟩)) a))
  |exact zd (zd (m:=Builtin.Tuple.tupleExact _) (qo (zg ⟨_,rfl,zg h⟩) a))
end HT
namespace L2
abbrev TO:=St->Hp->(O Int->Hp->Prop)->Prop
def PO(X:Cx)(e:O Expr)(t:TO):Prop:=
 ∀(AN:U (A1×AE)) (s:A2) (σ:St) (H:Hp) (Q:O Int->Hp->Prop),AU X AN σ H s->t σ H Q →
  A7 (A8 X.prog X.w) X.A (evalPart e X.env) (λu s'=>∃o H',AU X AN σ H' s'/\IsPart u o/\Q o H') X.xe s
def PD:TO:=λ_ H Q=>Q Y H
def P'(t:TE):TO:=λσ H Q=>t σ H λx H1=>∃i,x=.int i/\Q (Z i) H1
section
variable{X:Cx}{te:TE}{lo hi:O Expr}{tl th:TO}
theorem OX:PO X Y PD:=by
 intro AN s σ H Q I h;rw[evalPart_none];exact zg ⟨Y,H,I,.none,h⟩
theorem cr(h:PE X e te):PO X (Z e) (P' te):=by
 intro AN s σ H Q I a;rw[evalPart_some];refine ji (h AN s σ H _ I a) λu s1 ⟨x,H1,I1,r1,q1⟩=>?_;obtain⟨i,rfl,q⟩:=q1;obtain⟨t,rfl⟩:=r1;exact⟨Z i,H1,I1,.int i t,q⟩
def FL(X:Cx)(r:V->O Int->O Int->Hp->VK->Prop):Prop:=
 ∀(AN:U (A1×AE)) (s:A2) (σ:St) (H:Hp) (x:V) (v b a:A0) (lo hi:O Int) (sl:A1) (Q:VK),AU X AN σ H s->As x v->s.heap.IsSliceOf sl b a .none->IsPart b lo->IsPart a hi->r x lo hi H Q →
  ∃T id,typeLookup (.type T) "__getitem__"=pure (Z (.builtin id))/\s.TypeIs v T/\A7 (A8 X.prog X.w) X.A (getItem v (.ref sl)) (EP X AN σ Q) X.xe s
def PM(r:V->O Int->O Int->Hp->VK->Prop)(te:TE)(tl th:TO):TE:=λσ H Q=>te σ H λx H1=>tl σ H1 λl H2=>th σ H2 λu a=>r x l u a Q
theorem YQ{r:V->O Int->O Int->Hp->VK->Prop}(d:FL X r)(he:PE X e te)(f:PO X lo tl)(i:PO X hi th):PE X (.Subscript e (.Slice lo hi Y p2) pos) (PM r te tl th):=by
 intro AN s σ H Q I h;refine Subscript_ (ji (he AN s σ H _ I h) λv s1 ⟨x,H1,I1,r1,q1⟩=>?_);refine wpAny_Slice (ji (f AN s1 σ H1 _ I1 q1) λvl s2 ⟨l,H2,I2,pl,q2⟩=>ji (i AN s2 σ H2 _ I2 q2) λvu s3 ⟨u,H3,I3,pu,q3⟩=>?_);rw[evalPart_none];refine zg ?_;have a:AU X AN σ H3 { s3 with heap:=s3.heap.push { cls:=.type "slice",data:=.fields #[vl,vu,.none] } }:=I3.kept (t':=s3.toks) λb j q=>ze _ q;obtain⟨T,id,c,g,hg⟩:=d AN { s3 with heap:=s3.heap.push { cls:=.type "slice",data:=.fields #[vl,vu,.none] } } σ H3 x v vl vu l u s3.heap.objs.size Q a r1 (Heap.IsSliceOf.new ..) pl pu q3;show A7 (A8 X.prog X.w) X.A (subscriptTail e (.Slice lo hi Y p2) v (.ref s3.heap.objs.size)) (EP X AN σ Q) X.xe { s3 with heap:=s3.heap.push { cls:=.type "slice",data:=.fields #[vl,vu,.none] } };exact tail_any (ops:=[.ref s3.heap.objs.size,v]) g c hg (by with_unfolding_all rfl)
def Og(xs:U V)(lo hi:O Int):U V:=(xs.drop (HT.jA xs.length 0 lo)).take (HT.jA xs.length xs.length hi-HT.jA xs.length 0 lo)
theorem Cu(xs:U V)(lo hi:O Int):(Og xs lo hi).length<=xs.length:=by
 unfold Og;rw[kg,kX];omega
def TH(K:B0):V->O Int->O Int->Hp->VK->Prop:=λx lo hi H Q=>∃a xs,x=.ref a/\wV K H a xs ∧
 ¬ (HT.jA xs.length 0 lo=0/\HT.jA xs.length xs.length hi=xs.length)/\∀p,H p=Y->Q (.ref p) (B5 H p (.tup (Og xs lo hi)))
theorem ba:FL X (TH X.K):=by
 intro AN s σ H x v j m lo hi sl Q I f hs pl g h;obtain⟨a,xs,rfl,hx,i,q⟩:=h;cases f;obtain⟨AQ,r,e,d⟩:=I.tuple hx;have c:AQ.toArray.size=xs.length:=by rw[zS];exact r.length.symm
 refine⟨"tuple", _,PyProof.Rows.slot_tuple_getitem.lookup,e.typeIs,?_⟩;refine HT.yP e hs pl g (by rw[c];exact i) ?_ (by rw[c];exact d);rw[c];refine⟨.ref s.heap.objs.size,_,I.laid (t':=s.toks) (o:=.tup (Og xs lo hi)) (λb l q=>ze _ q) (zk _) ?_,rfl,q _ (I.hok.fresh (zk _))⟩;exact⟨ZI (Cu xs lo hi) d,_,(r.drop (HT.jA xs.length 0 lo)).take (HT.jA xs.length xs.length hi-HT.jA xs.length 0 lo),uX.new _ _⟩
def bS(K:B0):R2:=λx y H Q=>∃a b xs ys,x=.ref a/\y=.ref b/\wV K H a xs/\wV K H b ys/\xs≠[]/\xs.length+ys.length<=AA ∧
 (ys=[]->Q (.ref a) H)/\(ys≠[]->∀p,H p=Y->Q (.ref p) (B5 H p (.tup (xs++ys))))
theorem AX.Ea{xs:U V}(r:AX xs us):us=[]↔xs=[]:=by
 cases r with
 |nil=>simp
 |cons _ _=>simp
theorem az:xq X (binaryOp .Add) (bS X.K):=by
 intro AN s σ H x y v u Q I d e h;obtain⟨a,b,xs,ys,rfl,rfl,ha,hb,hx,c,q1,q2⟩:=h;cases d;cases e;obtain⟨AQ,r1,p1,_⟩:=I.tuple ha;obtain⟨g,r2,p2,_⟩:=I.tuple hb;refine HT.ab3 p1 p2 (λz=>hx (r1.Ea.mp z)) (λz=>⟨.ref a,H,I,rfl,q1 (r2.Ea.mp z)⟩) (λz=>?_) (by rw[<-r1.length,<-r2.length];exact c);refine⟨.ref s.heap.objs.size,_,I.laid (t':=s.toks) (o:=.tup (xs++ys)) (λb f q=>ze _ q) (zk _) ?_,rfl,q2 (λw=>z (r2.Ea.mpr w)) _ (I.hok.fresh (zk _))⟩;exact⟨by rw[z5];exact c,_,r1.append r2,uX.new _ _⟩
end
end L2
namespace L2
def EG(n:Nat)(i:Int):O Nat:=if 0<=i then(if i<n then Z i.toNat else Y)else if -(n:Int)<=i then Z (i+n).toNat else Y
def HY(xs:U α)(i:Int):O α:=(EG xs.length i).bind λj=>xs[j]?
theorem NI{i:Int}(h:EG n i=Z j):seqIndex? i n=Z j/\j<n ∧ -(n:Int)<=i/\i<n:=by
 unfold EG at h;by_cases h0:0<=i
 ·rw[zo h0]at h;by_cases h1:i<n
  ·rw[zo h1]at h;have e:i.toNat=j:=QY h;exact⟨by rw[seqIndex_of h0 h1,e],by omega,by omega,h1⟩
  ·rw[zC h1]at h;cases h
 ·rw[zC h0]at h;by_cases h1 : -(n:Int)<=i
  ·rw[zo h1]at h;have e:(i+n).toNat=j:=QY h;exact⟨by rw[seqIndex_neg (by omega) h1,e],by omega,h1,by omega⟩
  ·rw[zC h1]at h;cases h
theorem KN{xs:U α}{i:Int}{v:α}(h:HY xs i=Z v):∃j,seqIndex? i xs.length=Z j/\xs[j]?=Z v/\j<xs.length ∧ -(xs.length:Int)<=i/\i<xs.length:=by
 unfold HY at h;cases e:EG xs.length i with
 |none=>rw[e]at h;cases h
 |some j=>
  rw[e]at h;obtain⟨h1,h2,b,a⟩:=NI e;exact⟨j,h1,h,h2,b,a⟩
def U7(b:Expr):Prop:=∀o i,subscripted b false o i=operate [o,i] (getItem o i)
def D2(X:Cx)(r:R2):Prop:=
 ∀(value a:Expr) (AN:U (A1×AE)) (s:A2) (σ:St) (H:Hp) (x y:V) (v u:A0) (Q:VK),AU X AN σ H s->As x v->As y u->r x y H Q →
  subscripted a false v u=operate [v,u] (getItem v u)->A7 (A8 X.prog X.w) X.A (subscriptTail value a v u) (EP X AN σ Q) X.xe s
def L5(X:Cx)(id:String)(r:V->U V->Hp->VK->Prop):Prop:=
 ∀(AN:U (A1×AE)) (s:A2) (σ:St) (H:Hp) (x:V) (xs:U V) (v:A0) (us:U A0) (Q:VK),AU X AN σ H s->As x v->AX xs us->r x xs H Q →
  A7 (A8 X.prog X.w) X.A (call (.builtin id) (v::us)) (EP X AN σ Q) X.xe s
section
variable{X:Cx}{a b:Expr}{ta tb:TE}
theorem D2.or{r c:R2}(h:D2 X r)(h':D2 X c):D2 X (λx y H Q=>r x y H Q\/c x y H Q):=by
 intro value d AN s σ H x y v u Q I a b q hs;rcases q with q|q
 ·exact h value d AN s σ H x y v u Q I a b q hs
 ·exact h' value d AN s σ H x y v u Q I a b q hs
theorem SA{r:R2}(e:D2 X r)(ha:PE X a ta)(hb:PE X b tb)(hs:U7 b):PE X (.Subscript a b pos) (F0 r ta tb):=by
 intro AN s σ H Q I h;exact Subscript_ (HK ha hb I h λv u g x y H2 f c d q=>e a b AN g σ H2 x y v u Q f c d q (hs _ _))
def IY(K:B0):R2:=λx y H Q=>∃p xs i v,x=.ref p/\y=.int i/\uZ K H p xs/\HY xs i=Z v/\Q v H
def L6(K:B0):R2:=λx y H Q=>∃p xs i v,x=.ref p/\y=.int i/\wV K H p xs/\HY xs i=Z v/\Q v H
def Iy:R2:=λx y H Q=>∃z i c,x=.str z/\y=.int i/\z.length<=AA/\HY z.cps.toList i=Z c/\Q (.str ⟨#[c]⟩) H
theorem YU:D2 X (IY X.K):=by
 intro value D AN s σ H x y v u Q I d e h hs;obtain⟨p,xs,i,z,rfl,rfl,m,n,q⟩:=h;cases d;obtain⟨t,rfl⟩:=e;obtain⟨AQ,r,pl,B⟩:=I.list m;obtain⟨j,h1,h2,A,g,o⟩:=KN n;obtain⟨w,b,l⟩:=r.get h2;have f:=r.length;have C:=Ay;have c:EP X AN σ Q w s:=⟨z,H,I,l,q⟩;by_cases h0:0<=i
 ·have a:i.toNat=j:=by
   rw[seqIndex_of h0 o]at h1;exact QY h1
  exact item_listR pl.isList h0 (by omega) (by rw[a];simpa using b) c hs
 ·have a:(i+(AQ.toArray.size:Int)).toNat=j:=by
   rw[seqIndex_neg (by omega) g]at h1;rw[zS,<-f];exact QY h1
  exact subscriptTail_builtinR (x:=w) pl.isList.typeIs slot_list_getitem.lookup
   (wpAny_getItem_list_neg (Q:=λr s'=>r=w/\EP X AN σ Q r s') pl.isList (by omega) (by rw[zS]<;>omega) (by omega) (by rw[a];simpa using b) ⟨rfl,c⟩) hs
theorem NA:D2 X (L6 X.K):=by
 intro value B AN s σ H x y v u Q I a b h hs;obtain⟨p,xs,i,z,rfl,rfl,g,l,q⟩:=h;cases a;obtain⟨t,rfl⟩:=b;obtain⟨AQ,r,pl,n⟩:=I.tuple g;obtain⟨j,h1,h2,m,o,C⟩:=KN l;obtain⟨w,d,f⟩:=r.get h2;have c:=r.length;have A:=Ay;have e:EP X AN σ Q w s:=⟨z,H,I,f,q⟩;exact subscriptTail_builtinR (x:=w) pl.typeIs slot_tuple_getitem.lookup
  (getItem_tuple (j:=j) (Q:=λr s'=>r=w/\EP X AN σ Q r s') pl (by omega) (by omega) (by rw[zS,<-c];exact h1) (by simpa using d) ⟨rfl,e⟩) hs
theorem WU:D2 X Iy:=by
 intro value p AN s σ H x y v u Q I a b h hs;obtain⟨z,i,c,rfl,rfl,m,f,q⟩:=h;obtain⟨t,rfl⟩:=a;obtain⟨o,rfl⟩:=b;obtain⟨j,h1,h2,l,e,g⟩:=KN f;have d:z.cps.toList.length=z.length:=by simp[Str.length]
 rw[d]at h1 e g;have n:=Ay;exact tail_any (typeIs_str s z t) slot_str_getitem.lookup (getItem_str (c:=c) (by
  have e1:decide (i < -(2 ^ 63:Int))=false:=ZH (by omega);have e2:decide (i>=2 ^ 63)=false:=ZH (by omega);rw[e1,e2,Bool.or_false]) (by rw[h1];simpa using h2) ⟨.str ⟨#[c]⟩,H,I.tok _,⟨_,rfl⟩,q⟩) hs
def bu(K:B0):R2:=λx y H Q=>IY K x y H Q\/L6 K x y H Q\/Iy x y H Q
theorem VA:D2 X (bu X.K):=YU.or (NA.or WU)
theorem AU.lst{σ:St}{H:Hp}{p:A1}{xs:U V}(I:AU X AN σ H s)(h:H p=Z (.lst xs)):
  ∃(AQ:U A0) (n:Nat),AX xs AQ/\s.heap.get? p=Z { cls:=.type "list",data:=.seq AQ.toArray n }/\xs.length<=AA:=by
 obtain⟨z,AQ,n,r,e⟩:=I.hok p _ h;exact⟨AQ,n,r,e,z⟩
theorem KQ(lo hi:O Int)(n:Nat):(sliceBounds lo hi Y n).1=((HT.jA n 0 lo:Nat):Int)/\(sliceBounds lo hi Y n).2.1=((HT.jA n n hi:Nat):Int)/\(sliceBounds lo hi Y n).2.2=1:=by
 refine⟨?_,?_,rfl⟩
 ·cases lo with
  |none=>simp[sliceBounds,HT.jA]
  |some i=>
   simp only[sliceBounds,HT.jA,Option.getD_none,show(1:Int)>0 by decide,qS];by_cases h:i<0
   ·simp only[h,qS]<;>omega
   ·simp only[h,ZN]<;>omega
 ·cases hi with
  |none=>simp[sliceBounds,HT.jA]
  |some i=>
   simp only[sliceBounds,HT.jA,Option.getD_none,show(1:Int)>0 by decide,qS];by_cases h:i<0
   ·simp only[h,qS]<;>omega
   ·simp only[h,ZN]<;>omega
theorem Ia(AQ:U A0)(lo hi:O Int):slicePick AQ.toArray lo hi Y=((AQ.drop (HT.jA AQ.length 0 lo)).take (HT.jA AQ.length AQ.length hi-HT.jA AQ.length 0 lo)).toArray:=by
 obtain⟨h1,h2,a⟩:=KQ lo hi AQ.toArray.size;unfold slicePick;rw[h1,h2,a];simp only[sliceRange_one,pick_run,zS]<;>rfl
def R'(K:B0):V->O Int->O Int->Hp->VK->Prop:=λx lo hi H Q=>∃a xs,x=.ref a/\uZ K H a xs/\∀p,H p=Y->Q (.ref p) (B5 H p (.lst (Og xs lo hi)))
theorem Th:FL X (R' X.K):=by
 intro AN s σ H x v i l lo hi sl Q I d hs pl e h;obtain⟨a,xs,rfl,hx,q⟩:=h;cases d;obtain⟨AQ,r,c,f⟩:=I.list hx;have g:=r.length;refine⟨"list", _,slot_list_getitem.lookup,c.isList.typeIs,?_⟩;refine wpAny_getItem_list_slice c.isList hs pl e .none (by simp) ?_ (by rw[zS]<;>omega);rw[Ia,<-g];refine⟨.ref s.heap.objs.size,_,I.laid (t':=s.toks) (o:=.lst (Og xs lo hi)) (λb j q=>ze _ q) (zk _) ?_,rfl,q _ (I.hok.fresh (zk _))⟩;exact⟨ZI (Cu xs lo hi) f,_,0,(r.drop (HT.jA xs.length 0 lo)).take (HT.jA xs.length xs.length hi-HT.jA xs.length 0 lo),zv _ rfl⟩
def uL:V->Bool
 |.non=>true
 |.bl _=>true
 |.int _=>true
 |.str _=>true
 |_=>false
def D3:V->V->Bool
 |.non,.non=>true
 |.bl a,.bl b=>a==b
 |.bl a,.int b=>(if a then 1 else 0)==b
 |.int a,.bl b=>a==(if b then 1 else 0)
 |.int a,.int b=>a==b
 |.str a,.str b=>a==b
 |_,_=>false
theorem WN{y x:V}{v:A0}(e:As y u)(c:As x v)(fy:uL y=true)(fx:uL x=true):SeqAt.EqAt A s u v (D3 y x):=by
 cases y with
 |non=>
  cases e;cases x with
  |non=>cases c;exact SeqAt.EqAt.same _
  |bl b=>cases c;exact SeqAt.EqAt.none_bool b
  |int b=>obtain⟨t,rfl⟩:=c;exact SeqAt.EqAt.none_int b t
  |str b=>obtain⟨t,rfl⟩:=c;exact SeqAt.EqAt.none_str b t
  |_=>exact absurd (show false=true from fx) ZE
 |bl a=>
  cases e;cases x with
  |non=>cases c;exact SeqAt.EqAt.bool_none a
  |bl b=>cases c;exact SeqAt.EqAt.bool_bool a b
  |int b=>obtain⟨t,rfl⟩:=c;exact SeqAt.EqAt.bool_int a b t
  |str b=>obtain⟨t,rfl⟩:=c;exact SeqAt.EqAt.bool_str a b t
  |_=>exact absurd (show false=true from fx) ZE
 |int a=>
  obtain⟨d,rfl⟩:=e;cases x with
  |non=>cases c;exact SeqAt.EqAt.int_none a d
  |bl b=>cases c;exact SeqAt.EqAt.int_bool a d b
  |int b=>obtain⟨t,rfl⟩:=c;exact SeqAt.EqAt.int_int a d b t
  |str b=>obtain⟨t,rfl⟩:=c;exact SeqAt.EqAt.int_str a d b t
  |_=>exact absurd (show false=true from fx) ZE
 |str a=>
  obtain⟨d,rfl⟩:=e;cases x with
  |non=>cases c;exact SeqAt.EqAt.str_none a d
  |bl b=>cases c;exact SeqAt.EqAt.str_bool a d b
  |int b=>obtain⟨t,rfl⟩:=c;exact SeqAt.EqAt.str_int a d b t
  |str b=>obtain⟨t,rfl⟩:=c;exact SeqAt.EqAt.str_str a d b t
  |_=>exact absurd (show false=true from fx) ZE
 |_=>exact absurd (show false=true from fy) ZE
def RZ(x:V)(u:A0):Bool:=match u with
 |.none=>D3 .non x
 |.bool b=>D3 (.bl b) x
 |.int i _=>D3 (.int i) x
 |.str z _=>D3 (.str z) x
 |_=>false
theorem YS{x y:V}(r:As y u)(f:uL y=true):RZ x u=D3 y x:=by
 cases y with
 |non=>cases r;rfl
 |bl b=>cases r;rfl
 |int i=>obtain⟨t,rfl⟩:=r;rfl
 |str z=>obtain⟨t,rfl⟩:=r;rfl
 |_=>exact absurd (show false=true from f) ZE
theorem yQ{x:V}:∀{xs:U V} {us:U A0},AX xs us->xs.all uL=true->us.any (RZ x)=xs.any λy=>D3 y x
 |_,_,.nil,_=>rfl
 |y::xs,u::us,.cons r t,f=>by
  rw[kB,ZY]at f;rw[ke,ke,YS r f.1,yQ t f.2]
theorem u9{A:A5}{s:A2}{x:V}{v:A0}(b:As x v)(fx:uL x=true):∀{xs:U V} {us:U A0},AX xs us->xs.all uL=true->∀u∈us,SeqAt.EqAt A s u v (RZ x u)
 |_,_,.nil,_=>λu a=>by cases a
 |y::xs,u::us,.cons r t,f=>λc a=>by
  rw[kB,ZY]at f;rcases List.mem_cons.mp a with rfl|a
  ·rw[YS r f.1];exact WN r b f.1 fx
  ·exact u9 b fx t f.2 c a
def F'(x:V)(xs:U V):Bool:=xs.any λy=>D3 y x
def LU(K:B0)(a:Bool):R2:=λx y H Q=>∃p xs,y=.ref p/\(uZ K H p xs\/wV K H p xs)/\uL x=true/\xs.all uL=true/\Q (.bl (if a then !F' x xs else F' x xs)) H
theorem Wz:xq X (AG .In) (LU X.K false):=by
 intro AN s σ H x y v u Q I c d h;obtain⟨p,xs,rfl,a,fx,fs,q⟩:=h;cases d;rcases a with a|a
 ·obtain⟨AQ,r,pl,e⟩:=I.list a;refine SeqAt.in_listAt (RZ x) pl.isList (λw b=>u9 c fx r fs w (by simpa using b)) ⟨.bl _,H,I,rfl,?_⟩;rw[show AQ.toArray.any (RZ x)=AQ.any (RZ x) by simp,yQ r fs];exact q
 ·obtain⟨AQ,r,pl,e⟩:=I.tuple a;refine SeqAt.in_tupleAt (RZ x) pl (λw b=>u9 c fx r fs w (by simpa using b)) ⟨.bl _,H,I,rfl,?_⟩;rw[show AQ.toArray.any (RZ x)=AQ.any (RZ x) by simp,yQ r fs];exact q
theorem KR:xq X (AG .NotIn) (LU X.K true):=by
 intro AN s σ H x y v u Q I c d h;obtain⟨p,xs,rfl,a,fx,fs,q⟩:=h;cases d;rcases a with a|a
 ·obtain⟨AQ,r,pl,e⟩:=I.list a;refine SeqAt.notIn_listAt (RZ x) pl.isList (λw b=>u9 c fx r fs w (by simpa using b)) ⟨.bl _,H,I,rfl,?_⟩;rw[show AQ.toArray.any (RZ x)=AQ.any (RZ x) by simp,yQ r fs];exact q
 ·obtain⟨AQ,r,pl,e⟩:=I.tuple a;refine SeqAt.notIn_tupleAt (RZ x) pl (λw b=>u9 c fx r fs w (by simpa using b)) ⟨.bl _,H,I,rfl,?_⟩;rw[show AQ.toArray.any (RZ x)=AQ.any (RZ x) by simp,yQ r fs];exact q
theorem KY:xq X (AG .NotIn) (λx y H Q=>∃i j,x=.str i/\y=.str j/\Q (.bl (!(!(Builtin.Str.occurrences j i 0 j.length 1).isEmpty))) H):=by
 intro AN s σ H x y v u Q I a b h;obtain⟨i,j,rfl,rfl,q⟩:=h;obtain⟨t,rfl⟩:=a;obtain⟨c,rfl⟩:=b;exact notIn_str ⟨.bl _,H,I,rfl,q⟩
theorem KZ:gB X (.builtin "len") (λxs H Q=>∃p ys,xs=[.ref p]/\(uZ X.K H p ys\/wV X.K H p ys)/\Q (.int ys.length) H):=by
 intro AN s σ H xs us Q I r h;obtain⟨p,ys,rfl,a,q⟩:=h;obtain⟨u,rfl,d⟩:=BD r;cases d;have f:=Ay;rcases a with a|a
 ·obtain⟨AQ,b,pl,e⟩:=I.list a;have c:=b.length;exact Calls.call_len_list pl.isList (by simp only[zS]<;>omega) ⟨.int ys.length,H,I.tok _,⟨s.toks+1,by rw[zS,c]⟩,q⟩
 ·obtain⟨AQ,b,pl,e⟩:=I.tuple a;have c:=b.length;exact len_tuple pl (by simp only[zS]<;>omega) ⟨.int ys.length,H,I.tok _,⟨s.toks+1,by rw[zS,c]⟩,q⟩
theorem K1:gB X (.builtin "len") (λxs H Q=>∃z,xs=[.str z]/\z.length<=AA/\Q (.int z.length) H):=by
 intro AN s σ H xs us Q I r h;obtain⟨z,rfl,b,q⟩:=h;obtain⟨u,rfl,t,rfl⟩:=BD r;have a:=Ay;exact len_str (by omega) ⟨.int z.length,H,I.tok _,⟨_,rfl⟩,q⟩
theorem gB.or{f:A0}{r b:U V->Hp->VK->Prop}(h:gB X f r)(h':gB X f b):gB X f (λxs H Q=>r xs H Q\/b xs H Q):=by
 intro AN s σ H xs us Q I a q;rcases q with q|q
 ·exact h AN s σ H xs us Q I a q
 ·exact h' AN s σ H xs us Q I a q
theorem Ib:gB X (.type "tuple") (λxs H Q=>∃p ys,xs=[.ref p]/\((uZ X.K H p ys/\∀l,H l=Y->Q (.ref l) (B5 H l (.tup ys)))\/(wV X.K H p ys/\Q (.ref p) H))):=by
 intro AN s σ H xs us Q I r h;obtain⟨p,ys,rfl,h⟩:=h;obtain⟨u,rfl,g⟩:=BD r;cases g;rcases h with⟨c,q⟩|⟨c,q⟩
 ·obtain⟨AQ,a,pl,d⟩:=I.list c;have j:=a.length;refine call_tuple_list pl.isList (λh' kp=>?_) (by simp only[zS]<;>omega);have f:AU X AN σ H { s with heap:=h' }:=I.kept (t':=s.toks) kp;have i:AU X AN σ (B5 H h'.objs.size (.tup ys)) { s with heap:=h'.push { cls:=.type "tuple",data:=.seq AQ.toArray } }:=
   f.laid (t':=s.toks) (λb o e=>ze _ e) (zk _) (show gR X.prog X.w _ _ _ (.tup ys) from⟨d,AQ,a,uX.new _ _⟩)
  exact⟨.ref h'.objs.size,_,i,rfl,q _ (f.hok.fresh (zk _))⟩
 ·obtain⟨AQ,a,pl,d⟩:=I.tuple c;exact call_tuple_same pl ⟨.ref p,H,I,rfl,q⟩
def IJ(K:B0)(T:String)(x:V)(H:Hp):Prop:=match x with
 |.str _=>T ="str"
 |.int _=>T ="int"
 |.ref p=>(T ="list" ∧ ∃xs,uZ K H p xs)\/(T ="tuple" ∧ ∃o,K.lookup p=Z o/\o.cls=.type "tuple" ∧ o.dict=Y) ∨
   (T ="dict" ∧ ((∃AO,H p=Z (.dK AO))\/∃AO,H p=Z (.dT AO)))\/(T ="set" ∧ ∃S n,H p=Z (.set S n))
 |_=>False
theorem S3{σ:St}{H:Hp}{T:String}{x:V}{v:A0}(I:AU X AN σ H s)(r:As x v)(ty:IJ X.K T x H):
  s.TypeIs v T/\∀a,v=.ref a->∃f,s.heap.get? a=Z f/\f.dict=Y:=by
 cases x with
 |str z=>
  obtain⟨t,rfl⟩:=r;cases(show T ="str" from ty);exact⟨typeIs_str s z t,λ_ e=>nomatch e⟩
 |int i=>
  obtain⟨t,rfl⟩:=r;cases(show T ="int" from ty);exact⟨typeIs_int s i t,λ_ e=>nomatch e⟩
 |ref p=>
  cases r;rcases ty with⟨rfl,xs,h⟩|⟨rfl,o,b,g,d⟩|⟨rfl,b⟩|⟨rfl,S,n,b⟩
  ·obtain⟨AQ,_,pl,_⟩:=I.list h;refine⟨pl.isList.typeIs,λa e=>?_⟩;cases e;obtain⟨o,n,e,c,d,_⟩:=pl;exact⟨o,e,d⟩
  ·refine⟨⟨o,I.kIn p o b,g⟩,λa e=>?_⟩;cases e;exact⟨o,I.kIn _ o b,d⟩
  ·have z:∃o,s.heap.get? p=Z o/\o.ExactDict:=by
    rcases b with⟨AO,b⟩|⟨AO,b⟩
    ·obtain⟨_,_,_,_,o,_,_,e,ex,_⟩:=I.hok p _ b;exact⟨o,e,ex⟩
    ·obtain⟨_,_,_,_,o,_,_,e,ex,_⟩:=I.hok p _ b;exact⟨o,e,ex⟩
   obtain⟨o,e,ex⟩:=z;refine⟨⟨o,e,ex.1⟩,λa e2=>?_⟩;cases e2;exact⟨o,e,ex.2.1⟩
  ·obtain⟨o,_,_,_,e,ex,_⟩:=I.hok p _ b;refine⟨⟨o,e,ex.1⟩,λa e2=>?_⟩;cases e2;exact⟨o,e,ex.2.1⟩
 |_=>exact False.elim ty
def NC(K:B0)(T:String)(r:V->U V->Hp->VK->Prop)(to:TE)(t:TA):TE:=λσ H Q=>to σ H λx H1=>IJ K T x H1/\t σ H1 λxs H2=>r x xs H2 Q
variable{o:Expr}{to:TE}{t:TA}{T id:String}{r:V->U V->Hp->VK->Prop}
theorem YT(pa:PlainAttrs T)(slot:Slot T name id)(c:typeOf (.builtin id)=pure (.type "method_descriptor"))(g:L5 X id r)(ho:PE X o to)(ha:PA X (e::es) t)
  (f:attributeBase o name X.env (eval o X.env)=eval o X.env:=by rfl)
  (d:((AD cpos (A9 (e::es) X.env)).all (λx=>!x.1)&&(backToKw cpos (keywordEach [] X.env)).all (λx=>x.1.isSome)
   && decide ((e::es).length+([]:U AC).length+(if([]:U AC).isEmpty then 0 else 1)<30))=true:=by rfl)
  (b:(apos.endLine==cpos.line)=true:=by rfl) (hs:A9 (e::es) X.env=(false,eval e X.env)::A9 es X.env:=by rfl) (i:(AD cpos (A9 es X.env)).any (·.1)=false:=by rfl):
  PE X (.Call (.Attribute o name apos) (e::es) [] cpos) (NC X.K T r to t):=by
 intro AN s σ H Q I h;refine wpAny_Call_method_late f d b Δ (ji (ho AN s σ H _ I h) λv s1 ⟨x,H1,I1,r1,ty,q1⟩=>?_);obtain⟨h1,h2⟩:=S3 I1 r1 ty;refine⟨T,id,pa,slot,c,h1,h2,?_⟩;have a:=ha cpos AN s1 σ H1 _ I1 q1;rw[hs]at a ⊢;refine Calls.callWith_builtin (by show(false||(AD cpos (A9 es X.env)).any (·.1))=false;rw[i]<;>rfl) (Calls.evalArgs_plain ?_);exact ji a λus s2 ⟨vs,H2,I2,r2,q2⟩=>g AN s2 σ H2 x vs v us Q I2 r1 r2 q2
end
end L2
namespace L2
def MV(X:Cx)(id:String)(r:V->U V->Hp->VK->Prop):Prop:=
 ∀(AN:U (A1×AE)) (s:A2) (σ:St) (H:Hp) (x:V) (xs:U V) (v:A0) (us:U A0) (Q:VK),AU X AN σ H s->As x v->AX xs us->r x xs H Q →
  A7 (A8 X.prog X.w) X.A (call (.builtin id) (v::us)) (EP X AN σ Q) X.xe s
theorem AX.one:∀{x:V} {us:U A0},AX [x] us->∃u,us=[u]/\As x u
 |_,_,.cons r .nil=>⟨_,rfl,r⟩
theorem AX.two:∀{x y:V} {us:U A0},AX [x,y] us->∃u v,us=[u,v]/\As x u/\As y v
 |_,_,_,.cons r (.cons q .nil)=>⟨_,_,rfl,r,q⟩
theorem AX.eraseIdx:∀{xs:U V} {us:U A0} (i:Nat),AX xs us->AX (xs.eraseIdx i) (us.eraseIdx i)
 |_,_,_,.nil=>.nil
 |_,_,0,.cons _ t=>t
 |_,_,i+1,.cons r t=>.cons r (AX.eraseIdx i t)
theorem AX.reverse{xs:U V}(h:AX xs us):AX xs.reverse us.reverse:=by
 induction h with
 |nil=>exact .nil
 |cons r t a=>rw[kL,kL];exact AX.append a (.cons r .nil)
theorem Jw{α:Type}:∀(l:U α) (i:Nat),(l.eraseIdx i).length<=l.length
 |[],_=>zk _
 |_::_,0=>kP _
 |_::r,i+1=>Nat.succ_le_succ (Jw r i)
section
variable{X:Cx}{σ:St}{H:Hp}{b:A1}{xs ys zs:U V}
theorem AU.YW{its':U A0}{f:Array A0->Array A0}{t':Nat}(I:AU X AN σ H s)(g:H l=Z (.lst xs))(e:s.heap.get? l=Z { cls:=.type "list",data:=.seq AQ.toArray n })(a:f AQ.toArray=its'.toArray)(d:AX ys its')(b:ys.length<=AA):
  AU X AN σ (B5 H l (.lst ys)) { s with heap:=s.heap.update l (Obj.mapSeq f),toks:=t' }:=by
 have q:=PySem.IsL.update e f;rw[a]at q;refine I.write (x:=l) (e:=l) (by rw[g];exact trivial) (.inl Δ) (λh u hb c=>(Heap.get?_update_other s.heap (Obj.mapSeq f) (Kj hb)).trans c) ⟨_,q⟩ ?_;exact⟨b,its',_,d,q⟩
theorem AU.ahQ(I:AU X AN σ H s)(a:H l=Z (.lst xs)):xs.length<=AA/\∃(AQ:U A0) (n:Nat),AX xs AQ/\xs.length=AQ.length/\s.heap.get? l=Z { cls:=.type "list",data:=.seq AQ.toArray n }:=by
 obtain⟨z,AQ,n,r,e⟩:=I.hok l _ a;exact⟨z,AQ,n,r,r.length,e⟩
end
section
variable{X:Cx}
def ah:V->U V->Hp->VK->Prop:=λx vs H Q=>∃l xs y,x=.ref l/\vs=[y]/\H l=Z (.lst xs)/\xs.length<AA/\Q .non (B5 H l (.lst (xs++[y])))
theorem Jx:MV X "list.append" ah:=by
 intro AN s σ H x vs v us Q I b c h;obtain⟨l,xs,y,rfl,rfl,a,f,q⟩:=h;cases b;obtain⟨u,rfl,d⟩:=c.one;obtain⟨z,AQ,n,r,g,e⟩:=I.ahQ a;refine call_meets F.slot_list_append ⟨_,e,rfl⟩ F.entry_list_append (F.args_list_append_2 _ _) (PySem.list_append l AQ.toArray n u (by rw[zS];omega)) ⟨e,?_⟩;refine⟨.non,_,I.YW (its':=AQ++[u]) a e (by simp) (r.append (.cons d .nil)) ?_,rfl,q⟩;rw[z5,List.length_singleton];omega
def TK:V->U V->Hp->VK->Prop:=λx vs H Q=>∃l xs i k y,x=.ref l/\vs=[.int i]/\H l=Z (.lst xs) ∧ -(2 ^ 63)<=i/\i<2 ^ 63/\seqIndex? i xs.length=Z k/\xs[k]?=Z y/\Q y (B5 H l (.lst (xs.eraseIdx k)))
theorem YX:MV X "list.pop" TK:=by
 intro AN s σ H x vs v us Q I b f h;obtain⟨l,xs,i,k,y,rfl,rfl,a,h1,h2,o,c,q⟩:=h;cases b;obtain⟨u,rfl,j⟩:=f.one;obtain⟨t,rfl⟩:=j;obtain⟨z,AQ,n,r,d,e⟩:=I.ahQ a;obtain⟨w,m,g⟩:=r.get c;refine call_meets F.slot_list_pop ⟨_,e,rfl⟩ F.entry_list_pop (F.args_list_pop_2 _ _)
  (MeetsSeq.list_pop_at l AQ.toArray n i t k w (fitsIndex_both h1 h2) (by rw[zS,<-d];exact o) (by rw[<-qA];exact m) (by rw[zS];omega)) ⟨e,?_⟩
 refine⟨y,_,I.YW (its':=AQ.eraseIdx k) a e ?_ (r.eraseIdx k) ?_,g,q⟩
 ·show AQ.toArray.eraseIdxIfInBounds k=(AQ.eraseIdx k).toArray;rw[List.eraseIdxIfInBounds_toArray]
 ·have:=Jw xs k;omega
end
section
variable{X:Cx}
end
end L2
namespace L2
section
variable [DecidableEq κ]
def Az(AO:U (κ×V))(k:κ):O V:=(AO.find? λa=>decide (a.1=k)).map (·.2)
def BB(AO:U (κ×V))(k:κ)(v:V):U (κ×V):=
 if(AO.any λa=>decide (a.1=k))=true then AO.map (λa=>if a.1=k then(a.1,v)else a)else AO++[(k,v)]
theorem yR{p:κ×V}{r:U (κ×V)}{k:κ}(e:p.1=k):Az (p::r) k=Z p.2:=by simp[Az,kz,e]
theorem yS{p:κ×V}{r:U (κ×V)}{k:κ}(e:¬ p.1=k):Az (p::r) k=Az r k:=by simp[Az,kz,e]
theorem Oh(k:κ):∀AO:U (κ×V),(AO.any λa=>decide (a.1=k))=(Az AO k).isSome
 |[]=>rfl
 |p::r=>by
  rw[ke];by_cases e:p.1=k
  ·simp only[yR e,ZA e,Bool.true_or,ye]
  ·rw[yS e,ZH e,Bool.false_or];exact Oh k r
theorem nZ(AO:U (κ×V))(k:κ)(v:V):(BB AO k v).length<=AO.length+1:=by
 unfold BB;split
 ·rw[zl];omega
 ·rw[z5,qk,List.length_nil];omega
theorem Et.Ba{o:O V}{u:O A0}(r:Et o u):o.isSome=u.isSome:=by
 cases o with
 |none=>cases u with
  |none=>rfl
  |some _=>exact(show False from r).elim
 |some _=>cases u with
  |none=>exact(show False from r).elim
  |some _=>rfl
theorem KV.val{AO:U (κ×V)}{vs:U (κ×A0)}(r:KV AO vs)(k:κ):Et (Az AO k) (valueAt vs k):=by
 unfold KV at r
 induction r with
 |nil=>exact True.intro
 |@cons p q ps a h t c=>
  obtain⟨h1,h2⟩:=h;by_cases e:p.1=k
  ·have e':q.1=k:=h1.symm.trans e;have b:valueAt (q::a) k=Z q.2:=by simp[valueAt,kz,e']
   rw[yR e,b];exact h2
  ·have e':¬ q.1=k:=λz=>e (h1.trans z);have b:valueAt (q::a) k=valueAt a k:=by simp[valueAt,kz,e']
   rw[yS e,b];exact c
theorem KV.any{AO:U (κ×V)}{vs:U (κ×A0)}(r:KV AO vs)(k:κ):(AO.any λa=>decide (a.1=k))=vs.any λa=>decide (a.1=k):=by
 unfold KV at r
 induction r with
 |nil=>rfl
 |cons h t b=>rw[ke,ke,b,h.1]
theorem KV.repl{AO:U (κ×V)}{vs:U (κ×A0)}(r:KV AO vs)(k:κ){y:V}(b:As y u):
  KV (AO.map λa=>if a.1=k then(a.1,y)else a) (vs.map λa=>if a.1=k then(a.1,u)else a):=by
 unfold KV at r ⊢
 induction r with
 |nil=>exact .nil
 |@cons p q ps d h t c=>
  rw[zw,zw];refine .cons ?_ c;obtain⟨h1,h2⟩:=h;by_cases e:p.1=k
  ·rw[zo e,zo (h1.symm.trans e)];exact⟨h1,b⟩
  ·rw[zC e,zC (λz=>e (h1.trans z))];exact⟨h1,h2⟩
theorem KV.put{AO:U (κ×V)}{vs:U (κ×A0)}(r:KV AO vs)(k:κ){y:V}(a:As y u):KV (BB AO k y) (stored vs k u):=by
 unfold BB stored;rw[r.any k];by_cases e:(vs.any λb=>decide (b.1=k))=true
 ·rw[zo e,zo e];exact r.repl k a
 ·rw[zC e,zC e];exact Paired.snoc r ⟨rfl,a⟩
theorem KV.length{AO:U (κ×V)}{vs:U (κ×A0)}(r:KV AO vs):AO.length=vs.length:=Paired.length r
end
theorem Fb{k:AY}(r:As (kV k) u):(bB P w).is k u=true:=by
 cases k with
 |inl i=>obtain⟨t,e⟩:=(show ∃t,u=Value.int i t from r);subst e;exact Oa P w i t
 |inr x=>obtain⟨t,e⟩:=(show ∃t,u=Value.str x t from r);subst e;exact Ob P w x t
theorem Jy{P:A3}{w:A4}:∀{ks:U AY} {us:U A0},AX (ks.map kV) us->ItemsAre (bB P w) ks us
 |[],_,r=>by rw[kb]at r;cases r;exact .nil
 |k::ks,_,r=>by
  rw[zw]at r;cases r with
  |cons h t=>exact .cons (Fb h) (Jy t)
abbrev KT(H:Hp):U (U AY×V)->U (U AY×A1×A0)->Prop:=AI λp q=>p.1=q.1/\H q.2.1=Z (.tup (p.1.map kV))/\As p.2 q.2.2
theorem KT.val{H:Hp}{AO:U (U AY×V)}{xs:U (U AY×A1×A0)}(r:KT H AO xs)(k:U AY):Et (Az AO k) ((atKey xs k).map (·.2)):=by
 induction r with
 |nil=>exact True.intro
 |@cons p q ps a h t c=>
  obtain⟨h1,_,h2⟩:=h;by_cases e:p.1=k
  ·have e':q.1=k:=h1.symm.trans e;have b:atKey (q::a) k=Z q.2:=by simp[atKey,kz,e']
   rw[yR e,b];exact h2
  ·have e':¬ q.1=k:=λz=>e (h1.trans z);have b:atKey (q::a) k=atKey a k:=by simp[atKey,kz,e']
   rw[yS e,b];exact c
theorem KT.repl{H:Hp}{AO:U (U AY×V)}{xs:U (U AY×A1×A0)}(r:KT H AO xs)(k:U AY){y:V}(b:As y u):
  KT H (AO.map λa=>if a.1=k then(a.1,y)else a) (xs.map (putAt k u)):=by
 induction r with
 |nil=>exact .nil
 |@cons p q ps f h t d=>
  rw[zw,zw];refine .cons ?_ d;obtain⟨h1,h2,c⟩:=h;unfold putAt;by_cases e:p.1=k
  ·rw[zo e,zo (h1.symm.trans e)];exact⟨h1,h2,b⟩
  ·rw[zC e,zC (λz=>e (h1.trans z))];exact⟨h1,h2,c⟩
theorem KT.put{H:Hp}{AO:U (U AY×V)}{xs:U (U AY×A1×A0)}(r:KT H AO xs)(k:U AY){b:A1}{y:V}(hb:H b=Z (.tup (k.map kV)))(a:As y u):
  KT H (BB AO k y) (storedH xs k b u):=by
 have e:(AO.any λc=>decide (c.1=k))=(atKey xs k).isSome:=by
  rw[Oh,(r.val k).Ba,Option.isSome_map]
 unfold BB storedH;rw[e];by_cases q:(atKey xs k).isSome=true
 ·rw[zo q,zo q];exact r.repl k a
 ·rw[zC q,zC q];exact Paired.snoc r ⟨rfl,hb,a⟩
theorem KT.keeps{H H':Hp}{AO:U (U AY×V)}{xs:U (U AY×A1×A0)}(r:KT H AO xs)(a:∀b ys,H b=Z (.tup ys)->H' b=Z (.tup ys)):KT H' AO xs:=
 Paired.abP r λ_ _ z=>⟨z.1,a _ _ z.2.1,z.2.2⟩
section
variable{H:Hp}
theorem Lm{u:HO}(ok:yM P w H h)(e:Rd H a u):gR P w H h a u:=e.ok ok
theorem uM{AO:U (AY×V)}(ok:yM P w H h)(e:Rd H a (.dK AO)):AO.length<=AA/\(a==sysModules)=false/\∃vs,KV AO vs/\h.DictOf (bB P w) a vs:=
 show gR P w H h a (.dK AO) from Lm ok e
theorem YZ{AO:U (AY×V)}(ok:yM P w H h)(e:H a=Z (.dK AO)):AO.length<=AA/\(a==sysModules)=false/\∃vs,KV AO vs/\h.DictOf (bB P w) a vs:=uM ok (.inl e)
theorem K3{ks:U AY}(ok:yM P w H h)(e:H a=Z (.tup (ks.map kV))):(tupleKind (bB P w)).is h ks a:=by
 obtain⟨_,AQ,r,o,h1,h2,⟨n,b⟩,_⟩:=(show gR P w H h a (.tup (ks.map kV)) from ok a _ e);exact⟨o,AQ.toArray,n,h1,h2,b,by simpa using Jy r⟩
theorem U8{AO:U (U AY×V)}(ok:yM P w H h)(e:Rd H a (.dT AO)):AO.length<=AA/\(a==sysModules)=false ∧
  ∃xs,KT H AO xs/\h.DictOfH (tupleKind (bB P w)) a xs:=by
 obtain⟨z,y,xs,r,o,es,ep,h1,h2,c,f,g⟩:=(show gR P w H h a (.dT AO) from Lm ok e);refine⟨z,y,xs,r,o,es,ep,h1,h2,c,f,λx hx=>?_,g⟩;have all:∀{l:U (U AY×V)} {m:U (U AY×A1×A0)},KT H l m->∀x∈m,(tupleKind (bB P w)).is h x.1 x.2.1:=by
  intro l m q
  induction q with
  |nil=>intro x hx;exact nomatch hx
  |@cons p q ps i b t d=>
   intro x hx;rcases List.mem_cons.mp hx with e|hx
   ·subst e;exact K3 ok (by rw[<-b.1];exact b.2.1)
   ·exact d x hx
 exact all r x hx
theorem UE{AO:U (U AY×V)}(ok:yM P w H h)(e:H a=Z (.dT AO)):AO.length<=AA/\(a==sysModules)=false ∧
  ∃xs,KT H AO xs/\h.DictOfH (tupleKind (bB P w)) a xs:=U8 ok (.inl e)
end
def Y0(H:Hp)(a:A1)(y:V)(r:O V):Prop:=
 (∃AO k,Rd H a (.dK AO)/\y=kV k/\r=Az AO k)\/∃AO k b,Rd H a (.dT AO)/\y=.ref b/\H b=Z (.tup (k.map kV))/\r=Az AO k
def Y4(H:Hp)(a:A1)(y v:V)(H':Hp):Prop:=
 (∃AO k,H a=Z (.dK AO)/\y=kV k/\AO.length<AA/\H'=B5 H a (.dK (BB AO k v))) ∨
 ∃AO k b,H a=Z (.dT AO)/\y=.ref b/\H b=Z (.tup (k.map kV))/\AO.length<AA/\H'=B5 H a (.dT (BB AO k v))
theorem Y4.k{H:Hp}{a:A1}{AO:U (AY×V)}{k:AY}{v:V}(e:H a=Z (.dK AO))(b:AO.length<AA):Y4 H a (kV k) v (B5 H a (.dK (BB AO k v))):=.inl ⟨AO,k,e,rfl,b,rfl⟩
section
variable{X:Cx}{σ:St}{H:Hp}{y v:V}{r:A0}{o:O V}
theorem AU.big(I:AU X AN σ H s):sysModules<s.heap.objs.size:=by
 have h:mainGlobals<s.heap.objs.size:=(I.mod.glob.keeps I.bk).lt;exact Nat.lt_trans (by decide) h
theorem WD{Q:B8}(q:A.units+1<cLine)(I:AU X AN σ H s)(g:Y0 H a y (Z v))(n:As y u)(h:∀c s',AU X AN σ H s'->As v c->Q c s'):
  A7 (A8 X.prog X.w) A (getItem (.ref a) u) Q E s:=by
 rcases g with⟨AO,k,e,d,l⟩|⟨AO,k,b,e,d,eb,l⟩
 ·subst d;obtain⟨z,t,vs,i,f⟩:=uM I.hok e;obtain⟨c,m,j⟩:=Et.some_of (v:=v) (o:=valueAt vs k) (by rw[l];exact i.val k);exact wpAny_getItem_of (Fb n) f.mapOf m (h c _ (I.tok _) j)
 ·subst d;cases(show u=Value.ref b from n);obtain⟨z,t,xs,i,f⟩:=U8 I.hok e;obtain⟨c,m,j⟩:=Et.some_of (v:=v) (o:=(atKey xs k).map (·.2)) (by rw[l];exact i.val k);obtain⟨p,hp,x⟩:=Option.map_eq_some_iff.mp m;refine wpAny_getItem_heap (tupleKind_room_in1 q) (K3 I.hok eb) f hp ?_;rw[x];exact h c _ (I.tok _) j
theorem OK{Q:B8}(m:A.units+1<cLine)(I:AU X AN σ H s)(g:Y0 H a y o)(j:As y u)(h:∀s',AU X AN σ H s'->Q (.bool (!o.isSome)) s'):
  A7 (A8 X.prog X.w) A (AG .NotIn u (.ref a)) Q E s:=by
 rcases g with⟨AO,k,e,c,l⟩|⟨AO,k,b,e,c,eb,l⟩
 ·subst c;obtain⟨z,f,vs,i,d⟩:=uM I.hok e;refine wpAny_notIn_of (Fb j) f d.mapOf ?_;rw[<-(i.val k).Ba,<-l];exact h _ (I.tok _)
 ·subst c;cases(show u=Value.ref b from j);obtain⟨z,f,xs,i,d⟩:=U8 I.hok e;refine wpAny_notIn_heap (tupleKind_room_in1 m) (K3 I.hok eb) f d ?_;have q:=(i.val k).Ba;rw[Option.isSome_map]at q;rw[<-q,<-l];exact h _ (I.tok _)
theorem Eb{h':A6}{t':Nat}{c:HO}(I:AU X AN σ H s)(d:EW (H a))(hs:Heap.SameBut a s.heap h')(he:∃q,h'.get? a=Z q)(new:gR X.prog X.w (B5 H a c) h' a c):
  AU X AN σ (B5 H a c) { s with heap:=h',toks:=t' }:=
 I.write (x:=a) (e:=a) d (.inl Δ) (λb q hb z=>(hs.2 b hb).trans z) he new
theorem R0{H':Hp}{h':A6}{AO:U (AY×V)}{vs:U (AY×A0)}(z:AO.length<=AA)(d:(a==sysModules)=false)(b:KV AO vs)(c:h'.DictOf (bB P w) a vs):
  gR P w H' h' a (.dK AO):=⟨z,d,vs,b,c⟩
theorem WK{H':Hp}{Q:Unit->A2->Prop}(F:A.units+1<cLine)(I:AU X AN σ H s)(g:Y4 H a y v H')(x:As y u)(B:As v r)(h:∀s',AU X AN σ H' s'->Q () s'):
  A7 (A8 X.prog X.w) A (setItem (.ref a) u r) Q E s:=by
 rcases g with⟨AO,k,e,j,l,t⟩|⟨AO,k,b,e,j,eb,l,t⟩
 ·subst j t;obtain⟨z,p,vs,d,o⟩:=YZ I.hok e;have n:vs.length<=AA:=by rw[<-d.length];exact z
  have m:(BB AO k v).length<=AA:=by have:=nZ AO k v;omega
  refine wpAny_setItem_pairs (hsz:=n) (Fb x) o λh' i hs=>h _ ?_;have J:∃q,h'.get? a=Z q:=let ⟨q,_,_,f,_⟩:=i;⟨q,f⟩;exact Eb I (by rw[e];exact True.intro) hs J (R0 m p (d.put k B) i)
 ·subst j t;cases(show u=Value.ref b from x);obtain⟨z,p,xs,d,o⟩:=UE I.hok e;have n:xs.length<=AA:=by rw[<-Paired.length d];exact z
  have m:(BB AO k v).length<=AA:=by have:=nZ AO k v;omega
  refine wpAny_setItem_heap (hsz:=n) (tupleKind_room_in1 F) (K3 I.hok eb) o λh' i hs=>h _ ?_;obtain⟨q,es,ep,f,h2,D,G,_,K⟩:=i;refine Eb I (by rw[e];exact True.intro) hs ⟨q,f⟩ ⟨m,p,_,(d.put k eb B).keeps λc ys C=>?_,q,es,ep,f,h2,D,G,K⟩;rw[aR (o9 C e (λz=>nomatch z))];exact C
end
section
variable{X:Cx}{σ:St}{H:Hp}{AO:U (AY×V)}{k:AY}
end
def GW(i:Expr):Prop:=∀a iv,subscripted i false a iv=operate [a,iv] (getItem a iv)
theorem Su{value b:Expr}{T id:String}{Q:B8}(l:typeLookup (.type T) "__getitem__"=pure (Z (.builtin id)))(hs:GW b)(h:A7 (A8 prog w) A (eval value env) (λo g=>A7 (A8 prog w) A (eval b env) (λi a=>a.TypeIs o T/\A7 (A8 prog w) A (getItem o i) Q E a) E g) E s):
  A7 (A8 prog w) A (eval (.Subscript value b pos) env) Q E s:=by
 refine Subscript_ (QN h (λo g j=>QN j (λi a d=>?_) λ_ _ x=>x) λ_ _ x=>x);obtain⟨e,d⟩:=d;unfold subscriptTail;refine zd ?_;rw[getitemInPython_of_ne e.not_modules];refine zd (wpAny_specialOf e l ?_);have c:A7 (A8 prog w) A (subscripted b false o i) (λr f=>A7 (A8 prog w) A (letTemporaryGo value o r >>= λ_=>pure r) Q E f) E a:=by
  rw[hs o i];exact wpAny_operating (QN d (λr f m=>zd (wpAny_letTemporaryGo (zg m))) λ_ _ x=>x)
 first
  |exact zg (zd c)
  |exact zd (zg (zd c))
  |exact zd c
theorem Oi{X:Cx}{σ:St}{H:Hp}{y:V}{o:O V}(I:AU X AN σ H s)(g:Y0 H a y o):s.TypeIs (.ref a) "dict":=by
 rcases g with⟨AO,k,e,_,_⟩|⟨AO,k,b,e,_,_,_⟩
 ·obtain⟨_,_,vs,_,c⟩:=uM I.hok e;exact c.typeIs
 ·obtain⟨_,_,xs,_,c⟩:=U8 I.hok e;exact c.typeIs
def dQ(td ty:TE):TE:=λσ H Q=>td σ H λx H1=>ty σ H1 λy H2=>∃a v,x=.ref a/\Y0 H2 a y (Z v)/\Q v H2
def RS(td ty tv:TE):TS:=λD σ H=>tv σ H λv H1=>td σ H1 λx H2=>ty σ H2 λy c=>∃a b,x=.ref a/\Y4 c a y v b/\D.nx σ b
section
variable{X:Cx}{o i value:Expr}{pos':Pos}{td ty tv:TE}
theorem ae(b:X.A.units+1<cLine)(ho:PE X o td)(hi:PE X i ty)(hs:GW i):PE X (.Subscript o i pos) (dQ td ty):=by
 intro AN s σ H Q I h;refine Su PySem.F.slot_dict_getitem.lookup hs (ji (ho AN s σ H _ I h) λu s1 ⟨x,H1,I1,rx,q1⟩=>ji (hi AN s1 σ H1 _ I1 q1) λiv s2 ⟨y,H2,I2,ry,a,v,ex,g,q2⟩=>?_);subst ex;obtain rfl:u=Value.ref a:=rx;exact⟨Oi I2 g,WD b I2 g ry λe f c d=>⟨v,H2,c,d,q2⟩⟩
theorem UH(c:X.A.units+1<cLine)(ho:PE X o td)(hi:PE X i ty)(d:PE X value tv)(hs:swapsWith value (Z (.Subscript o i pos')) pos.line X.env=pure false):
  PS X (.Assign [.Subscript o i pos'] value pos) (RS td ty tv):=by
 intro AN s σ H D I h;refine wpAny_Assign_Subscript (ji (d AN s σ H _ I h) λr s1 ⟨v,H1,I1,rv,q1⟩=>ji (ho AN s1 σ H1 _ I1 q1) λu s2 ⟨x,H2,I2,rx,q2⟩=>ji (hi AN s2 σ H2 _ I2 q2) λiv s3 ⟨y,H3,I3,ry,a,H4,ex,g,q3⟩=>?_) hs;subst ex;obtain rfl:u=Value.ref a:=rx;exact WK c I3 g ry rv λe b=>⟨σ,H4,b,q3⟩
end
theorem Fd{H:Hp}(h:A6)(hb:sysModules<h.objs.size):gR P w H (h.push { cls:=.type "dict",data:=.dict #[] }) h.objs.size (.dK []):=
 ⟨QR _,beq_eq_false_iff_ne.mpr (Kj (z4 hb)),[],.nil,Heap.DictOf.new h⟩
def T2:TE:=λ_ H Q=>∀p,H p=Y->Q (.ref p) (B5 H p (.dK []))
section
variable{X:Cx}
theorem Y5:PE X (.Dict [] [] pos) T2:=λAN s σ H Q I h=>
 wpAny_Dict_empty ⟨.ref s.heap.objs.size,_,I.laid (a:=s.heap.objs.size) (o:=.dK []) (t':=s.toks) (λ_ _ q=>ze _ q) (zk _) (Fd s.heap I.big),rfl,h _ (I.hok.fresh (zk _))⟩
end
def R3:U (TE×TE)->St->Hp->(U (V×V)->Hp->Prop)->Prop
 |[],_,H,Q=>Q [] H
 |(tk,tv)::r,σ,H,Q=>tk σ H λx H1=>tv σ H1 λy H2=>R3 r σ H2 λps a=>Q ((x,y)::ps) a
abbrev VV:U (V×V)->U (A0×A0)->Prop:=AI λp q=>As p.1 q.1/\As p.2 q.2
def FS(X:Cx)(pos:Pos)(a:U (O Expr))(b:U Expr)(c:U (TE×TE)):Prop:=
 ∀(AN:U (A1×AE)) (s:A2) (σ:St) (H:Hp) (Q:U (V×V)->Hp->Prop),AU X AN σ H s->R3 c σ H Q →
  A7 (A8 X.prog X.w) X.A (evalPairs (pairTrees a b X.env pos)) (λvs s'=>∃ps H',AU X AN σ H' s'/\VV ps vs/\Q ps H') X.xe s
theorem Yf{X:Cx}:FS X pos [] [] []:=λAN s σ H Q I h=>pairTrees_nil_walk ⟨[],H,I,.nil,h⟩
theorem Y6{X:Cx}{k v:Expr}{ks:U (O Expr)}{vs:U Expr}{tk tv:TE}{a:U (TE×TE)}(d:PE X k tk)(c:PE X v tv)(b:FS X pos ks vs a):
  FS X pos (Z k::ks) (v::vs) ((tk,tv)::a):=λAN s σ H Q I h=>
 pairTrees_cons_walk (ji (d AN s σ H _ I h) λu s1 ⟨x,H1,I1,rx,q1⟩=>ji (c AN s1 σ H1 _ I1 q1) λw2 s2 ⟨y,H2,I2,ry,q2⟩=>
  ji (b AN s2 σ H2 _ I2 q2) λws s3 ⟨ps,H3,I3,rel,q3⟩=>⟨(x,y)::ps,H3,I3,.cons ⟨rx,ry⟩ rel,q3⟩)
def Bb(AO more:U (AY×V)):U (AY×V):=more.foldl (λb a=>BB b a.1 a.2) AO
theorem KV.merge:∀{more:U (AY×V)} {rs:U (AY×A0)} {AO:U (AY×V)} {vs:U (AY×A0)},KV more rs->KV AO vs->KV (Bb AO more) (merged vs rs):=by
 intro more rs AO vs r;unfold KV at r
 induction r generalizing AO vs with
 |nil=>intro q;exact q
 |@cons p q ps c h t b=>
  intro a;have e:KV (BB AO p.1 p.2) (stored vs q.1 q.2):=by
   have:=a.put p.1 h.2;rw[<-h.1];exact this
  exact b e
theorem xu:∀(more AO:U (AY×V)),(Bb AO more).length<=AO.length+more.length
 |[],AO=>by show AO.length<=AO.length+0;omega
 |p::r,AO=>by
  have h1:=xu r (BB AO p.1 p.2);have h2:=nZ AO p.1 p.2;show(Bb (BB AO p.1 p.2) r).length<=_;rw[qk];omega
theorem Fe{P:A3}{w:A4}:∀{AO:U (AY×V)} {e:U (A0×A0)},VV (AO.map λd=>(kV d.1,d.2)) e->∃rs,Carries (bB P w) e rs/\KV AO rs
 |[],_,r=>by rw[kb]at r;cases r;exact⟨[],True.intro,.nil⟩
 |p::AO,_,r=>by
  rw[zw]at r;cases r with
  |@cons a b as bs h t=>
   obtain⟨rs,c,q⟩:=Fe (P:=P) (w:=w) t;obtain⟨b1,b2⟩:=b;exact⟨(p.1,b2)::rs,⟨Fb h.1,rfl,c⟩,.cons ⟨rfl,h.2⟩ q⟩
def OI(b:U (TE×TE)):TE:=λσ H Q=>∀p,H p=Y->R3 b σ (B5 H p (.dK [])) λps H2=>H2 p=Z (.dK [])/\∃AO:U (AY×V),ps=AO.map (λa=>(kV a.1,a.2))/\AO.length<=15/\Q (.ref p) (B5 H2 p (.dK (Bb [] AO)))
theorem O3{X:Cx}{b:U (O Expr)}{d:U Expr}{f:U (TE×TE)}(h:FS X pos b d f)(j:b.all (·.isSome)=true)(l:b.length=d.length)(h0:b≠[])(v:b.length<=15):PE X (.Dict b d pos) (OI f):=by
 intro AN s σ H Q I q;have t:=I.hok.fresh (zk s.heap.objs.size);have y:=I.laid (a:=s.heap.objs.size) (o:=.dK []) (h':=s.heap.push { cls:=.type "dict",data:=.dict #[] }) (t':=s.toks) (λ_ _ q=>ze _ q) (zk _) (Fd s.heap I.big);refine wpAny_Dict_walk (knd:=bB X.prog X.w) j l h0 v (ji (h AN _ σ _ _ y (q _ t)) λws s2 ⟨ps,H2,I2,rel,e,AO,ep,lk,q2⟩=>?_);subst ep;obtain⟨i,c,rk⟩:=Fe (P:=X.prog) (w:=X.w) rel;obtain⟨z,p,A,u,n⟩:=YZ I2.hok e;cases u;refine⟨i,c,n,λh' g hs=>⟨.ref s.heap.objs.size,_,?_,rfl,q2⟩⟩;have m:(Bb [] AO).length<=AA:=by
  have h1:=xu AO [];rw[List.length_nil]at h1;rw[sizeLine_eq];omega
 have x:∃q,h'.get? s.heap.objs.size=Z q:=let ⟨q,_,_,hq,_⟩:=g;⟨q,hq⟩;exact Eb I2 (by rw[e];exact True.intro) hs x (R0 m p (rk.merge .nil) g)
structure M1 (X:Cx) (o:Expr) (m:Str) (apos:Pos) (e:Expr) (cpos:Pos):Prop where
 base:attributeBase o m X.env (eval o X.env)=eval o X.env
 few:((backTo cpos (starEach [e] X.env)).all (λx=>!x.1)&&(backToKw cpos (keywordEach [] X.env)).all (λx=>x.1.isSome)
  && decide (([e]:List Expr).length+([]:List Keyword).length+(if([]:List Keyword).isEmpty then 0 else 1)<30))=true
 line:(apos.endLine==cpos.line)=true
 trees:backTo cpos (starEach [e] X.env)=[(false,eval e X.env)]
structure M2 (X:Cx) (o:Expr) (m:Str) (apos:Pos) (e f:Expr) (cpos:Pos):Prop where
 base:attributeBase o m X.env (eval o X.env)=eval o X.env
 few:((backTo cpos (starEach [e,f] X.env)).all (λx=>!x.1)&&(backToKw cpos (keywordEach [] X.env)).all (λx=>x.1.isSome)
  && decide (([e,f]:List Expr).length+([]:List Keyword).length+(if([]:List Keyword).isEmpty then 0 else 1)<30))=true
 line:(apos.endLine==cpos.line)=true
 trees:backTo cpos (starEach [e,f] X.env)=[(false,eval e X.env),(false,eval f X.env)]
section
variable{X:Cx}{σ:St}{H:Hp}{y d:V}{r:A0}{o:O V}
end
section
variable{X:Cx}{o f:Expr}{td ty tx:TE}
end
section
variable{X:Cx}{σ:St}{H:Hp}{AO:U (AY×V)}
end
section
variable{X:Cx}{σ:St}{H:Hp}{y:V}
end
end L2
namespace Att
open PySem PySem.W PySem.Calls PyProof.Rows
theorem Dj{P:Params}:∀(c:U Int) (vs:U A0),WellAll P h vs (c.map WData.int)->IntsAre vs c:=by
 intro c
 induction c with
 |nil=>
  intro vs w;rw[kb]at w;cases w;exact .nil
 |cons n c d=>
  intro vs w;rw[zw]at w;cases w with
  |cons a b=>
   cases a;exact .cons _ _ (d _ b)
theorem WL{l:OpenLaw}(p:l.most=Z n){P:Params}{args:U WData}{i:U A0}(f:l.row.toRowW.claim.pre args=true)(s:WellAll P h i args):
  ∃a vs b,i=[Value.ref a]/\args=[WData.list (b.map WData.int)]/\h.get? a=Z { cls:=.type "list",data:=.seq vs.toArray }/\IntsAre vs b/\b.length<=n:=by
 have j:WShape.hasAll [] args [.list .int]=true:=(pre_splitW f).1;have g:l.pre.holds [] { args:=args }=true:=(pre_splitW f).2;obtain⟨d,r,rfl,h1,h2⟩:=hasAllW_cons j;obtain rfl:=hasAllW_nil h2;obtain⟨xs,rfl,o⟩:=hasW_list h1;obtain⟨b,rfl⟩:=items_int o;have w:b.length<=n:=by
  unfold OpenLaw.pre at g;have c:(WTm.not (.lt (.lit (.int (n:Int))) (.len (.arg 0)))).holds [] { args:=[.list (b.map .int)] }=true:=by
   have c:=(holds_andW g).1;rw[p]at c;exact c
  have e:=condW_of c (w_not (w_lt w_lit (w_len_list (w_arg Δ))));rw[zl]at e;refine Nat.le_of_not_lt λq=>?_;have t:(n:Int)<((b.length:Nat):Int):=by omega
  first
   |(rw[ZA t]at e;exact absurd e (by decide))
   |(simp at e;omega)
 cases s with
 |cons v u=>
  cases u;cases v with
  |list ho m=>exact⟨_,_,b,rfl,rfl,ho,Dj b _ m,w⟩
theorem WM(l:OpenLaw)(args:U WData):l.row.toRowW.claim.post args (.bool true) args=true:=
 postW_of (r:=l.row.toRowW) (X:=(true==true))
  (show WShape.has [] (.bool true) .bool=true by first|rfl|decide|simp[WShape.has,WShape.arms,WShape.armsAll])
  (show(WTm.eq .res (.lit (.bool true))).value [] { args:=args,res:=Z (.bool true),after:=args }=Z (.bool (true==true)) from w_eq_bool (w_res Δ) w_lit) rfl
theorem Oj{l:OpenLaw}{q:A3}{loose:An}{d:DefRec}(A:l.most=Z n)(H:d.params.defaults=[])(call:∀(w:A4) (h b:A2) (mg j:AJ->O A0) (fa:A1) (o:AE) (g c i:A0) (a:A1) (vs:U A0) (e:U Int),
   Ground q loose [] XP w h mg j b.heap->YP w b.heap →
   b.heap.get? fa=Z o->o.data=.func (docDef d.name d.params d.body d.scope g c i)->b.heap.CodeRec c d.name->mg d.name=Z (.ref fa) →
   b.heap.get? a=Z { cls:=.type "list",data:=.seq vs.toArray }->IntsAre vs e->e.length<=n->b.gens=#[] →
   AF (A8 l.prog w) callerA (.call (.ref fa) ⟨[.ref a],[]⟩) (λr s'=>r=.ok (.ret (.bool true))/\OldK b.heap s'.heap/\s'.os=b.os/\AllBare s'.gens) b):
  WalkO q loose XP YP l.row.toRowW d [] (λf vs=>PySem.call f vs):=by
 intro w h b mg j G Y fa o g c i B kV ho s t m x hg K L as E J I F M;obtain rfl:B=.none:=Dflts.none m H;obtain rfl:kV=.none:=Dflts.noKw m;obtain⟨a,vs,e,rfl,rfl,v,D,C⟩:=WL A E F;refine enter_call (codeAny_mono (call w h b mg j fa o g c i a vs e G Y ho (fd_plain s) t x v D C hg) λr s' u=>?_);obtain⟨rfl,h2,p,y⟩:=u;exact⟨.inl ⟨.bool true,.bool true,[],rfl,λ_=>Δ,.bool true,WM l _,λ_=>⟨List.Pairwise.nil,λ_ z=>(nomatch z)⟩⟩,h2,p,y⟩
section
variable{K:Frag}
end
end Att
namespace L2
theorem wB:∀{vs:U A0} {a:U Int},IntsAre vs a->AX (a.map V.int) vs
 |_,_,.nil=>.nil
 |_,_,.cons n t h=>.cons ⟨t,rfl⟩ (wB h)
def CM(H:Hp):Prop:=∀b,H b=Y\/∃o xs,H b=Z (.uK o (.lst xs))
theorem Y7{l:AJ->O A0}{CX:Ym}{k:Nat}{fa:A1}{sp:Sp}{c:A2}{vs:U A0}{f:U Int}(I:K.In c.heap)(C:c.heap.Ns mainGlobals mg)(hb:c.heap.Ns builtinsNs l)(J:∀x:AJ,x ≠ "__name__" → l x=AH x)(M:c.heap.NoLimit)(hg:c.gens=#[])(ha:c.heap.get? a=Z { cls:=.type "list",data:=.seq vs.toArray })(hi:IntsAre vs f)(p:f.length<=AA)(W:nY k callerA)(F:∀base:A6,K.In base->base.Ns mainGlobals mg->u6 P w K mg base CX k fa fd [x] sp)(a1:∀(s:A2) (u:A0),BindsTo s fd ⟨[u],[]⟩ [(x,u)])(L:∀H:Hp,CM H->uZ K H a (f.map V.int)->sp [.ref a] H (λv _=>v=.bl true) λ_ _ _=>False)(X:∀H e s',CX [] H c (λ_ _ _=>False) e s'->False):
  AF (A8 P w) callerA (.call (.ref fa) ⟨[.ref a],[]⟩) (λr s'=>r=.ok (.ret (.bool true))/\OldK c.heap s'.heap/\s'.os=c.os/\AllBare s'.gens) c:=by
 have y:=wB hi;have a2:=hi.length;have B:∀H:Hp,CM H->uZ K H a (f.map V.int)->yM P w H c.heap->(∀b,H b≠Y->b=a)->(H a≠Y->K.lookup a=Y) →
   AF (A8 P w) callerA (.call (.ref fa) ⟨[.ref a],[]⟩) (λr s'=>r=.ok (.ret (.bool true))/\OldK c.heap s'.heap/\s'.os=c.os/\AllBare s'.gens) c:=by
  intro H E hS D G S;have A:∀{b:A1} {o:AE},c.heap.get? b=Z o->H b=Y->(KC c.heap H).get? b=Z o:=λe n=>Yu e n;have N:∀{b:A1} {o:AE} {es:Array DictEntry} {ep:Nat},c.heap.get? b=Z o->o.data=.dict es ep->H b=Y:=λ{b o es ep} e d=>by
   cases q:H b with
   |none=>rfl
   |some u=>
    have e':b=a:=G b (by rw[q];simp);subst e';rw[ha]at e;cases e;have d':Data.seq vs.toArray _=Data.dict es ep:=d;cases d'
  have i:∀{b:A1} {m:AJ->O A0},c.heap.Ns b m->(KC c.heap H).Ns b m:=λ{b m} ⟨o,es,ep,e,d,r⟩=>⟨o,es,ep,A e (N e d),d,r⟩;have t:K.In (KC c.heap H):=λb o e=>A (I b o e) (by
   cases q:H b with
   |none=>rfl
   |some u=>
    have e':b=a:=G b (by rw[q];simp);subst e';rw[S (by rw[q];simp)]at e;cases e)
  have hM:Mod K mg (KC c.heap H):=⟨t,i C,⟨l,i hb,J⟩,let ⟨mc,h1,h2⟩:=M;⟨mc,i h1,h2⟩⟩;have e0:Fa P w K mg (KC c.heap H) callerA [] c H:=⟨rfl,hM,λb o e=>OO e,Nat.le_of_eq (Wr _ _),trivial,λb hb=>absurd (show b∈([]:U A1) from hb) (by simp),D,.of_eq hg⟩;refine codeAny_mono ((F _ t (i C)).run callerA [] c H ⟨[.ref a],[]⟩ [.ref a] [.ref a] _ _ W e0 (a1 c (.ref a)) (.cons Δ .nil) (L H E hS)) λr s' h=>?_;cases r with
  |error e=>exact(X H e s' h).elim
  |ok fl=>
   cases fl with
   |next=>exact False.elim h
   |brk=>exact False.elim h
   |cont=>exact False.elim h
   |ret u=>
    obtain⟨v,H',os,a3,un,a0,r',q⟩:=h;have q':v=.bl true:=q;subst q';obtain rfl:u=Value.bool true:=r';refine⟨rfl,OldK.of_keep λb o e=>?_,os,a3⟩;cases q:H b with
    |none=>exact un.keep b o e q (by intro z;exact absurd (show b∈([]:U A1) from z) (by simp)) (by simp)
    |some u=>
     rcases E b with z|⟨Q,xs,z⟩
     ·rw[q]at z;cases z
     ·have z2:=un.Di b Q _ z;obtain⟨e1,_⟩:=D b _ z;obtain⟨e2,_⟩:=a0 b _ z2;rw[e]at e1;cases e1;exact e2
 cases j:K.lookup a with
 |some o=>
  have e:=I a o j;rw[ha]at e;cases e;refine B (λ_=>Y) (λ_=>.inl Δ) (.inr ⟨_,vs.toArray,_,j,rfl,rfl,rfl,by rw[zS,a2];exact p,by simpa using y⟩) (λb u z=>by have g:(Y:O HO)=Z u:=z;cases g) (λb z=>absurd Δ z) λz=>absurd Δ z
 |none=>
  refine B (λb=>if b=a then Z (.uK { cls:=.type "list",data:=.seq vs.toArray } (.lst (f.map V.int)))else Y) (λb=>?_) (.inl (.inr ⟨{ cls:=.type "list",data:=.seq vs.toArray },zo rfl⟩)) (λb u z=>?_) (λb z=>?_) λ_=>j
  ·by_cases hb:b=a
   ·exact .inr ⟨_,_,zo hb⟩
   ·exact .inl (zC hb)
  ·by_cases hb:b=a
   ·have g:=(zo hb).symm.trans z;cases g;subst hb;exact⟨ha,by rw[zl];exact p,vs,_,y,ha⟩
   ·have g:=(zC hb).symm.trans z;cases g
  ·by_cases hb:b=a
   ·exact hb
   ·exact absurd (zC hb) z
end L2
namespace L2
theorem YR{l:PySem.W.OpenLaw}{k:Nat}{q:A3}{loose:An}{d:DefRec}{K:Params->B0}{CX:A4->Ym}{sp:A4->Sp}(E:l.most=Z n)(L:n<=AA)(M:d.params.defaults=[])(z:nY k callerA)(m:∀(w:A4) (h:A6),YP w h->(K w.params).In h)(F:∀(w:A4) (mg:AJ->O A0) (fa:A1) (h:A6),(K w.params).In h->h.Ns mainGlobals mg->mg d.name=Z (.ref fa) →
   ∃fd:FuncData,(∀(s:A2) (u:A0),BindsTo s fd ⟨[u],[]⟩ [(x,u)]) ∧
    ∀base:A6,(K w.params).In base->base.Ns mainGlobals mg->u6 l.prog w (K w.params) mg base (CX w) k fa fd [x] (sp w))(p:∀(w:A4) (H:Hp) (a:A1) (c:U Int),c.length<=n->CM H->uZ (K w.params) H a (c.map V.int)->sp w [.ref a] H (λv _=>v=.bl true) λ_ _ _=>False)(B:∀(w:A4) (H:Hp) (s:A2) (e:A0) (s':A2),CX w [] H s (λ_ _ _=>False) e s'->False):
  PySem.W.WalkO q loose XP YP l.row.toRowW d [] (λf vs=>PySem.call f vs):=by
 refine Att.Oj E M λw X D mg mb fa o S N a0 a vs c G Y ho P Q A t J i hg=>?_;have j:=m w _ Y;obtain⟨fd,hb,y⟩:=F w mg fa _ j G.T.g A;exact Y7 j G.T.g G.T.b G.T.builtins G.T.nolimit hg t J (ZI i L) z y hb (λH I C=>p w H a c i I C) λH e s'=>B w H D e s'
theorem Y8{l:PySem.W.OpenLaw}{k:Nat}{q:A3}{loose:An}{d:DefRec}{K:Params->B0}{CX:Ym}{sp:B0->Sp}(p:l.most=Z n)(o:n<=AA)(t:d.params.defaults=[])(c:nY k callerA)(j:∀(w:A4) (h:A6),YP w h->(K w.params).In h)(F:∀(w:A4) (mg:AJ->O A0) (fa:A1) (h:A6),(K w.params).In h->h.Ns mainGlobals mg->mg d.name=Z (.ref fa) →
   ∃fd:FuncData,(∀(s:A2) (u:A0),BindsTo s fd ⟨[u],[]⟩ [(x,u)]) ∧
    ∀base:A6,(K w.params).In base->base.Ns mainGlobals mg->u6 l.prog w (K w.params) mg base CX k fa fd [x] (sp (K w.params)))(m:∀(K:B0) (H:Hp) (a:A1) (b:U Int),b.length<=n->CM H->uZ K H a (b.map V.int)->sp K [.ref a] H (λv _=>v=.bl true) λ_ _ _=>False)(i:∀(H:Hp) (s:A2) (e:A0) (s':A2),CX [] H s (λ_ _ _=>False) e s'->False):
  PySem.W.WalkO q loose XP YP l.row.toRowW d [] (λf vs=>PySem.call f vs):=
 YR (K:=K) (CX:=λ_=>CX) (sp:=λw=>sp (K w.params)) p o t c j F (λw H a b h1 h2 g=>m (K w.params) H a b h1 h2 g) λ_ H s e s'=>i H s e s'
end L2
namespace L2
def tD(s:AB):Arguments:=match s with
 |.FunctionDef _ a _ _ _ _ _ _ _ _=>a
 |_=>{ posonlyargs:=[],args:=[],vararg:=Y,kwonlyargs:=[],kw_defaults:=[],kwarg:=Y,defaults:=[] }
def jB(s:AB):U AB:=match s with
 |.FunctionDef _ _ b _ _ _ _ _ _ _=>b
 |_=>[]
def aO(s:AB):Scope:=match s with
 |.FunctionDef _ _ _ _ _ _ a _ _ _=>a
 |_=>{ kind:=.function,names:=[],isGenerator:=false,isCoroutine:=false }
abbrev K4:Ym:=λ_ _ _ _ _ _=>False
abbrev E0:XK:=λ_ _ _=>False
theorem Mo{X:Cx}:C6 K4 X E0:=λ_ _ _ _ _ _ _ h=>h.elim
structure Cc (K:B0) (x qual:Str) (st:Stmt) (f:Addr) (fd:FuncData):Prop where
 ex:∃(oc:Value) (od:Option Addr) (kV doc pm:Value) (an:Option Addr) (cdv ct:Value) (osl:Array (Option Value)),
  fd=fnOf x qual (tD st) (jB st) (aO st) .none kV doc pm an cdv ct/\K.lookup f=some ⟨oc,od,.func fd,osl⟩/\codeIn K cdv qual=true
 kp:keepIn K (.ref f)=true
theorem Cc.ok{st:AB}{f:A1}{k:Nat}{sp:Sp}(F:Cc K x qual st f fd)(S:bC N ps (aO st))(len:∀vs H Q E,sp vs H Q E->vs.length=ps.length)(e:∀(a:A0) (A:A5) (outer:U Env) (s:A2) (H:Hp) (vs:U V) (Q:VK) (E:XK),nY k (A.deeper (AK qual (aO st) s.heap.objs.size f a))->sp vs H Q E →
   ∃t,RJ (Ez K4 P w K mg base N qual (aO st) f a A outer s H E).nox (jB st) t/\t { nx:=λ_ H'=>Q .non H',rt:=Q } (start N vs) H):u6 P w K mg base K4 (k+1) f fd ps sp:=by
 obtain⟨m,n,kV,l,j,i,a,ct,osl,rfl,d,g⟩:=F.ex;refine T0 d g S len λA outer s H vs Q E b c=>?_;obtain⟨t,h,q⟩:=e a A outer s H vs Q E b c;exact⟨t,h.nox,q⟩
theorem Cc.binds{st:AB}{f:A1}(F:Cc K x qual st f fd)(h:∀(kV c a:A0) (b:O A1) (d ct:A0) (us:U A0),us.length=ps.length->bindArgs (fnOf x qual (tD st) (jB st) (aO st) .none kV c a b d ct) ⟨us,[]⟩=pure (ps.zip us)):BT K fd ps []:=by
 obtain⟨i,j,kV,c,a,b,d,ct,osl,rfl,e,g⟩:=F.ex;exact .all (h kV c a b d ct)
theorem Y9{st:AB}{f:A1}{g:A0}{h b:O A1}{kV e d a ct:A0}(l:K.lookup f=Z ⟨g,h,.func (fnOf x qual (tD st) (jB st) (aO st) .none kV e d b a ct),osl⟩)(c:codeIn K a qual=true)(k:keepIn K (.ref f)=true):Cc K x qual st f (fnOf x qual (tD st) (jB st) (aO st) .none kV e d b a ct):=⟨⟨g,h,kV,e,d,b,a,ct,osl,rfl,l,c⟩,k⟩
section
variable{X:Cx}
theorem pv(i:Nat)(c:X.N[i]?=Z x:=by rfl)(b:Yk X.env.scope x:=by first|exact kc rfl|exact jv (kc Δ)|exact jv (jv Δ))(d:(x==("__debug__":AJ))=false:=by decide)(a:(x==("__classdict__":AJ))=false:=by decide):PE X (.Name x pos) (Lu i):=uY c b d a
end
def AV(H H':Hp):Prop:=∀b o,H b=Z o->H' b=Z o
theorem AV.refl(H:Hp):AV H H:=λ_ _ h=>h
theorem AV.trans{H H1 H2:Hp}(a:AV H H1)(b:AV H1 H2):AV H H2:=λc o h=>b c o (a c o h)
theorem AV.free{H H':Hp}(e:AV H H')(h:H' l=Option.none):H l=Option.none:=by
 cases q:H l with
 |none=>rfl
 |some o=>
  rw[e l o q]at h;cases h
theorem AV.seq{H H':Hp}{xs:U V}(e:AV H H')(h:uZ K H a xs):uZ K H' a xs:=by
 rcases h with (h|⟨o,h⟩)|h
 ·exact .inl (.inl (e _ _ h))
 ·exact .inl (.inr ⟨o,e _ _ h⟩)
 ·exact .inr h
end L2
variable{xs:U L2.V}{H:L2.Hp}{o:L2.HO}{X:L2.Cx}{σ:L2.St}{v:L2.V}{ta te:L2.TE}{J:L2.It}{vs:U L2.V}{sp:L2.Sp}{ks:U L2.AY}{zs:U (U L2.AY×A1)}{H0 Hs:L2.Hp}{cQ:U (U L2.AY)}
namespace P1
open L2
inductive Dt where
 |non|bl (b:Bool)|int (i:Int)|str (x:Str)|tup (xs:List Dt)|lst (xs:List Dt)|emp
inductive Bx where
 |z (d:Dt)|l (ds:List Dt)|o (ds:List Dt)|n (AO:List (AY×Dt))|m (AO:List (AY×Dt)) (w:Option Addr)
abbrev Ev:=U (O Bx)
def Ee(K:B0)(H:Hp)(a:A1)(xs:U V):Prop:=
 (∃o,H a=Z (.uK o (.lst xs))) ∨
  ∃(o:AE) (AQ:Array A0) (n:Nat),K.lookup a=Z o/\o.cls=.type "list" ∧ o.dict=Y/\o.data=.seq AQ n/\AQ.size<=AA/\AX xs AQ.toList
theorem Ee.sq(h:Ee K H a xs):uZ K H a xs:=by
 rcases h with h|h
 ·exact .inl (.inr h)
 ·exact .inr h
mutual
def AW(K:B0)(H:Hp):Dt->V->Prop
 |.non,v=>v=.non
 |.bl b,v=>v=.bl b
 |.int i,v=>v=.int i
 |.str x,v=>v=.str x/\x.length<=AA
 |.tup ds,v=>∃a vs,v=.ref a/\wV K H a vs/\aK K H ds vs
 |.lst ds,v=>∃a vs,v=.ref a/\Ee K H a vs/\aK K H ds vs
 |.emp,v=>∃a o,v=.ref a/\H a=Z (.uK o (.dK []))
def aK(K:B0)(H:Hp):U Dt->U V->Prop
 |[],vs=>vs=[]
 |d::ds,vs=>∃v r,vs=v::r/\AW K H d v/\aK K H ds r
end
structure Kp (H H':Hp):Prop where
 t:∀a xs,H a=some (.tup xs)->H' a=some (.tup xs)
 f:∀a o u,H a=some (.uK o u)->H' a=some (.uK o u)
theorem Kp.of{H':Hp}(s:AV H H'):Kp H H':=⟨λa _ h=>s a _ h,λa _ _ h=>s a _ h⟩
theorem Kp.sqT{H':Hp}(k:Kp H H')(h:wV K H a xs):wV K H' a xs:=by
 rcases h with (h|⟨o,h⟩)|h
 ·exact .inl (.inl (k.t _ _ h))
 ·exact .inl (.inr ⟨o,k.f _ _ _ h⟩)
 ·exact .inr h
theorem Kp.fzL{H':Hp}(k:Kp H H')(h:Ee K H a xs):Ee K H' a xs:=by
 rcases h with⟨o,h⟩|h
 ·exact .inl ⟨o,k.f _ _ _ h⟩
 ·exact .inr h
theorem Kp.lst(h:H a=Z (.lst xs)):Kp H (B5 H a o):=by
 refine⟨λb ys e=>?_,λb c u e=>?_⟩
 ·rw[aR (o9 e h (by intro z;cases z))];exact e
 ·rw[aR (o9 e h (by intro z;cases z))];exact e
theorem Kp.dk{xs:U (AY×V)}(h:H a=Z (.dK xs)):Kp H (B5 H a o):=by
 refine⟨λb ys e=>?_,λb c u e=>?_⟩
 ·rw[aR (o9 e h (by intro z;cases z))];exact e
 ·rw[aR (o9 e h (by intro z;cases z))];exact e
mutual
theorem AW.kp{K:B0}{H H':Hp}(k:Kp H H'):∀{d:Dt} {v:V},AW K H d v->AW K H' d v
 |.non,_,h=>by simpa only[AW]using h
 |.bl _,_,h=>by simpa only[AW]using h
 |.int _,_,h=>by simpa only[AW]using h
 |.str _,_,h=>by simpa only[AW]using h
 |.tup ds,_,h=>by
  simp only[AW]at h ⊢;obtain⟨a,vs,e,q,r⟩:=h;exact⟨a,vs,e,k.sqT q,aK.kp k r⟩
 |.lst ds,_,h=>by
  simp only[AW]at h ⊢;obtain⟨a,vs,e,q,r⟩:=h;exact⟨a,vs,e,k.fzL q,aK.kp k r⟩
 |.emp,_,h=>by
  simp only[AW]at h ⊢;obtain⟨a,o,e,q⟩:=h;exact⟨a,o,e,k.f _ _ _ q⟩
theorem aK.kp{K:B0}{H H':Hp}(k:Kp H H'):∀{ds:U Dt} {vs:U V},aK K H ds vs->aK K H' ds vs
 |[],_,h=>by simpa only[aK]using h
 |d::ds,_,h=>by
  simp only[aK]at h ⊢;obtain⟨v,r,e,q,t⟩:=h;exact⟨v,r,e,AW.kp k q,aK.kp k t⟩
end
theorem aK.length{K:B0}{H:Hp}:∀{ds:U Dt} {vs:U V},aK K H ds vs->vs.length=ds.length
 |[],_,h=>by simp only[aK]at h;subst h;rfl
 |d::ds,_,h=>by
  simp only[aK]at h;obtain⟨v,r,rfl,_,t⟩:=h;simp[aK.length t]
theorem aK.nil:aK K H [] []:=by simp only[aK]
theorem aK.cons{K:B0}{H:Hp}{d:Dt}{v:V}{ds:U Dt}{vs:U V}(h:AW K H d v)(t:aK K H ds vs):aK K H (d::ds) (v::vs):=by
 simp only[aK];exact⟨v,vs,rfl,h,t⟩
theorem aK.append{K:B0}{H:Hp}:∀{ds es:U Dt} {vs us:U V},aK K H ds vs->aK K H es us->aK K H (ds++es) (vs++us)
 |[],_,_,_,h,t=>by simp only[aK]at h;subst h;exact t
 |d::ds,_,_,_,h,t=>by
  simp only[aK]at h;obtain⟨v,r,rfl,q,h⟩:=h;exact aK.cons q (aK.append h t)
theorem aK.drop{K:B0}{H:Hp}:∀(n:Nat) {ds:U Dt} {vs:U V},aK K H ds vs->aK K H (ds.drop n) (vs.drop n)
 |0,_,_,h=>h
 |n+1,[],_,h=>by simp only[aK]at h;subst h;exact aK.nil
 |n+1,d::ds,_,h=>by
  simp only[aK]at h;obtain⟨v,r,rfl,q,h⟩:=h;exact aK.drop n h
theorem aK.take{K:B0}{H:Hp}:∀(n:Nat) {ds:U Dt} {vs:U V},aK K H ds vs->aK K H (ds.take n) (vs.take n)
 |0,_,_,_=>aK.nil
 |n+1,[],_,h=>by simp only[aK]at h;subst h;exact aK.nil
 |n+1,d::ds,_,h=>by
  simp only[aK]at h;obtain⟨v,r,rfl,q,h⟩:=h;exact aK.cons q (aK.take n h)
theorem aK.get{K:B0}{H:Hp}:∀{ds:U Dt} {vs:U V} {i:Nat} {d:Dt},aK K H ds vs->ds[i]?=Z d->∃v,vs[i]?=Z v/\AW K H d v
 |[],_,_,_,_,e=>by simp at e
 |d::ds,_,0,_,h,e=>by
  simp only[aK]at h;obtain⟨v,r,rfl,q,h⟩:=h;simp at e;subst e;exact⟨v,rfl,q⟩
 |d::ds,_,i+1,_,h,e=>by
  simp only[aK]at h;obtain⟨v,r,rfl,q,h⟩:=h;obtain⟨u,e1,e2⟩:=aK.get h (i:=i) (by simpa using e);exact⟨u,by simpa using e1,e2⟩
def D8:AY->Prop
 |.inl _=>True
 |.inr x=>x.length<=AA
def fK(K:B0)(H:Hp)(AO:U (AY×Dt))(ks:U (AY×V)):Prop:=ks.map (·.1)=AO.map (·.1)/\aK K H (AO.map (·.2)) (ks.map (·.2))/\∀p∈AO,D8 p.1
theorem fK.kp{K:B0}{H H':Hp}{AO:U (AY×Dt)}{ks:U (AY×V)}(h:fK K H AO ks)(k:Kp H H'):fK K H' AO ks:=⟨h.1,h.2.1.kp k,h.2.2⟩
def bh(K:B0)(H:Hp):Bx->V->Prop
 |.z d,v=>AW K H d v
 |.l ds,v=>∃a vs,v=.ref a/\Rd H a (.lst vs)/\aK K H ds vs
 |.o ds,v=>∃a vs,v=.ref a/\H a=Z (.lst vs)/\aK K H ds vs
 |.n AO,v=>∃a ks,v=.ref a/\Rd H a (.dK ks)/\fK K H AO ks
 |.m AO w,v=>∃a ks,v=.ref a/\H a=Z (.dK ks)/\fK K H AO ks/\∀b,w=Z b->b=a
theorem bh.same{H':Hp}(s:AV H H'){b:Bx}(h:bh K H b v):bh K H' b v:=by
 cases b with
 |z d=>exact AW.kp (.of s) h
 |l ds=>
  obtain⟨a,vs,e,q,r⟩:=h;refine⟨a,vs,e,?_,r.kp (.of s)⟩;rcases q with q|⟨o,q⟩
  ·exact .inl (s _ _ q)
  ·exact .inr ⟨o,s _ _ q⟩
 |o ds=>
  obtain⟨a,vs,e,q,r⟩:=h;exact⟨a,vs,e,s _ _ q,r.kp (.of s)⟩
 |n AO=>
  obtain⟨a,vs,e,q,r⟩:=h;refine⟨a,vs,e,?_,r.kp (.of s)⟩;rcases q with q|⟨o,q⟩
  ·exact .inl (s _ _ q)
  ·exact .inr ⟨o,s _ _ q⟩
 |m AO _=>
  obtain⟨a,vs,e,q,r⟩:=h;exact⟨a,vs,e,s _ _ q,r.1.kp (.of s),r.2⟩
def rO:Bx->O (U Dt)
 |.z (.lst ds)=>Z ds
 |.l ds=>Z ds
 |.o ds=>Z ds
 |_=>Y
theorem bh.Ie{b:Bx}{ds:U Dt}(h:bh K H b v)(e:rO b=Z ds):∃a vs,v=.ref a/\uZ K H a vs/\aK K H ds vs:=by
 cases b with
 |z d=>
  cases d<;>first|(cases e;done)|skip;cases e;simp only[bh,AW]at h;obtain⟨a,vs,e,q,r⟩:=h;exact⟨a,vs,e,q.sq,r⟩
 |l c=>
  cases e;obtain⟨a,vs,e,q,r⟩:=h;exact⟨a,vs,e,.inl q,r⟩
 |o c=>
  cases e;obtain⟨a,vs,e,q,r⟩:=h;exact⟨a,vs,e,.inl (.inl q),r⟩
 |n _=>cases e
 |m _ _=>cases e
abbrev sI(K:B0)(H:Hp):U Bx->U V->Prop:=AI (bh K H)
def Nw(H:Hp):Bx->V->Prop
 |.o _,v=>∀a,v=.ref a->H a=Y
 |.m _ _,v=>∀a,v=.ref a->H a=Y
 |_,_=>True
theorem Nw.old{H1:Hp}(s:AV H H1){b:Bx}(h:Nw H1 b v):Nw H b v:=by
 cases b with
 |o ds=>exact λa e=>s.free (h a e)
 |m ds _=>exact λa e=>s.free (h a e)
 |_=>trivial
def loose:Bx->Bool
 |.z _=>false
 |_=>true
def uV:Bx->Bool
 |.o _=>true
 |.m _ _=>true
 |_=>false
structure bQ (K:B0) (H0 H:Hp) (σ:L2.St) (ρ:Ev):Prop where
 len:σ.length=ρ.length
 val:∀(i:Nat) b,ρ[i]?=some (some b)->∃v,σ[i]?=some (some v)/\bh K H b v
 own:∀(i j:Nat) c a b,ρ[i]?=some (some c)->uV c=true->σ[i]?=some (some (.ref a))->ρ[j]?=some (some b)->loose b=true->σ[j]?=some (some (.ref a))->i=j
 base:AV H0 H
 new:∀(i:Nat) c a,ρ[i]?=some (some c)->uV c=true->σ[i]?=some (some (.ref a))->H0 a=none
theorem bQ.grow{H':Hp}{ρ:Ev}(r:bQ K H0 H σ ρ)(s:AV H H'):bQ K H0 H' σ ρ:=
 ⟨r.len,λi b e=>let ⟨v,e1,h⟩:=r.val i b e;⟨v,e1,h.same s⟩,r.own,r.base.trans s,r.new⟩
def tF(K:B0)(f:Ev->O Bx):TE:=λσ H Q=>∃H0 ρ b,bQ K H0 H σ ρ/\f ρ=Z b/\∀v H',AV H H'->Nw H b v->bh K H' b v->Q v H'
def Mk(K:B0)(f:Ev->O (U Bx)):TA:=λσ H Q=>∃H0 ρ bs,bQ K H0 H σ ρ/\f ρ=Z bs/\∀vs H',AV H H'->sI K H' bs vs->Q vs H'
def C'(K:B0)(f:Ev->O Bool):TT:=λσ H Q=>∃H0 ρ b,bQ K H0 H σ ρ/\f ρ=Z b/\∀H',AV H H'->Q b H'
def PV(X:Cx)(e:Expr)(f:Ev->O Bx):Prop:=PE X e (tF X.K f)
structure QV (X:Cx) (e:Expr) (f:Ev->Option Bx):Prop where
 run:PV X e f
def F5(X:Cx)(es:U Expr)(f:Ev->O (U Bx)):Prop:=PA X es (Mk X.K f)
structure WQ (X:Cx) (es:List Expr) (f:Ev->Option (List Bx)):Prop where
 run:F5 X es f
def PB(X:Cx)(e:Expr)(f:Ev->O Bool):Prop:=PT X e (C' X.K f)
structure QB (X:Cx) (e:Expr) (f:Ev->Option Bool):Prop where
 run:PB X e f
theorem Dk{t t':TE}(h:PE X e t)(m:∀ σ H Q,t' σ H Q->t σ H Q):PE X e t':=λAN s σ H Q I q=>h AN s σ H Q I (m σ H Q q)
theorem LA{e:U Expr}{t t':TA}(h:PA X e t)(m:∀ σ H Q,t' σ H Q->t σ H Q):PA X e t':=λpos AN s σ H Q I q=>h pos AN s σ H Q I (m σ H Q q)
theorem HH{t t':TT}(h:PT X e t)(m:∀ σ H Q,t' σ H Q->t σ H Q):PT X e t':=λAN s σ H Q I q=>h AN s σ H Q I (m σ H Q q)
theorem LY{t t':TT}(h:PW X e t)(m:∀ σ H Q,t' σ H Q->t σ H Q):PW X e t':=λwh AN s σ H Q I q=>h wh AN s σ H Q I (m σ H Q q)
theorem Va{e:AB}{t t':TS}(h:PS X e t)(m:∀D σ H,t' D σ H->t D σ H):PS X e t':=λAN s σ H D I q=>h AN s σ H D I (m D σ H q)
theorem HZ{e:U AB}{t t':TS}(h:RJ X e t)(m:∀D σ H,t' D σ H->t D σ H):RJ X e t':=λAN s σ H D I q=>h AN s σ H D I (m D σ H q)
def rF(K:B0)(g:Bx->Bx->O Bx):R2:=λx y H Q=>∃a b c,bh K H a x/\bh K H b y/\g a b=Z c/\∀w H',AV H H'->Nw H c w->bh K H' c w->Q w H'
def LI(K:B0)(g:Bx->O Bx):V->Hp->VK->Prop:=λx H Q=>∃a c,bh K H a x/\g a=Z c/\∀w H',AV H H'->Nw H c w->bh K H' c w->Q w H'
def IU(K:B0)(g:U Bx->O Bx):U V->Hp->VK->Prop:=λxs H Q=>∃bs c,sI K H bs xs/\g bs=Z c/\∀w H',AV H H'->Nw H c w->bh K H' c w->Q w H'
abbrev Fg(X:Cx)(f:A0->A0->Sem A0)(g:Bx->Bx->O Bx):Prop:=xq X f (rF X.K g)
abbrev L4(X:Cx)(f:A0->Sem A0)(g:Bx->O Bx):Prop:=DE X f (LI X.K g)
abbrev sJ(X:Cx)(f:A0)(g:U Bx->O Bx):Prop:=gB X f (IU X.K g)
theorem xq.imp{f:A0->A0->Sem A0}{r a:R2}(h:xq X f r)(m:∀x y H Q,a x y H Q->r x y H Q):xq X f a:=λAN s σ H x y v u Q I b c q=>h AN s σ H x y v u Q I b c (m x y H Q q)
theorem DE.imp{f:A0->Sem A0}{r a:V->Hp->VK->Prop}(h:DE X f r)(m:∀x H Q,a x H Q->r x H Q):DE X f a:=λAN s σ H x v Q I b q=>h AN s σ H x v Q I b (m x H Q q)
theorem gB.imp{f:A0}{r a:U V->Hp->VK->Prop}(h:gB X f r)(m:∀x H Q,a x H Q->r x H Q):gB X f a:=λAN s σ H xs us Q I b q=>h AN s σ H xs us Q I b (m xs H Q q)
def b2(g:Bx->Bx->O Bx)(fa fb:Ev->O Bx):Ev->O Bx:=λρ=>(fa ρ).bind λx=>(fb ρ).bind λy=>g x y
def b1(g:Bx->O Bx)(fa:Ev->O Bx):Ev->O Bx:=λρ=>(fa ρ).bind g
def dM(g:U Bx->O Bx)(fs:Ev->O (U Bx)):Ev->O Bx:=λρ=>(fs ρ).bind g
theorem AT{o:O α}{f:α->O β}{b:β}(h:o.bind f=Z b):∃a,o=Z a/\f a=Z b:=by
 cases o with
 |none=>cases h
 |some a=>exact⟨a,rfl,h⟩
theorem Za{g:Bx->Bx->O Bx}{fa fb:Ev->O Bx}(σ:L2.St)(H:Hp)(Q:VK)(h:tF K (b2 g fa fb) σ H Q):F0 (rF K g) (tF K fa) (tF K fb) σ H Q:=by
 obtain⟨H0,ρ,c,E,e,q⟩:=h;obtain⟨a,ea,e⟩:=AT e;obtain⟨b,eb,e⟩:=AT e;refine⟨H0,ρ,a,E,ea,λv H1 d o r1=>⟨H0,ρ,b,E.grow d,eb,λu H2 f n r2=>?_⟩⟩;exact⟨a,b,c,r1.same f,r2,e,λw i m j l=>q w i ((d.trans f).trans m) (j.old (d.trans f)) l⟩
theorem UX{g:Bx->O Bx}{fa:Ev->O Bx}(σ:L2.St)(H:Hp)(Q:VK)(h:tF K (b1 g fa) σ H Q):Ix (LI K g) (tF K fa) σ H Q:=by
 obtain⟨H0,ρ,c,E,e,q⟩:=h;obtain⟨a,ea,e⟩:=AT e;exact⟨H0,ρ,a,E,ea,λv H1 b l r1=>⟨a,c,r1,e,λw d j f i=>q w d (b.trans j) (f.old b) i⟩⟩
theorem DD{g:U Bx->O Bx}{fs:Ev->O (U Bx)}(σ:L2.St)(H:Hp)(Q:VK)(h:tF K (dM g fs) σ H Q):Hn (IU K g) (Mk K fs) σ H Q:=by
 obtain⟨H0,ρ,c,E,e,q⟩:=h;obtain⟨a,ea,e⟩:=AT e;exact⟨H0,ρ,a,E,ea,λv H1 b r1=>⟨a,c,r1,e,λw d j f i=>q w d (b.trans j) (f.old b) i⟩⟩
section
variable{a b:Expr}{fa fb fc f:Ev->O Bx}{fs:Ev->O (U Bx)}
theorem bF{op:Operator}{g:Bx->Bx->O Bx}(ho:Fg X (binaryOp op) g)(ha:QV X a fa)(hb:QV X b fb):QV X (.BinOp a op b pos) (b2 g fa fb):=⟨have ha:=ha.run;have hb:=hb.run;Dk (X0 ho ha hb) Za⟩
theorem PR{op:UnaryOp}{g:Bx->O Bx}(ho:L4 X (unaryOp op) g)(ha:QV X a fa):QV X (.UnaryOp op a pos) (b1 g fa):=⟨have ha:=ha.run;Dk (WH ho ha) UX⟩
theorem xT{g:Bx->Bx->O Bx}(ho:Fg X (AG op) g)(ha:QV X a fa)(hb:QV X b fb)(c:behindInMarks op b=false):QV X (.Compare a [op] [b] pos) (b2 g fa fb):=⟨have ha:=ha.run;have hb:=hb.run;Dk (b8 ho ha hb c) Za⟩
def Fi:Bx->O Bool
 |.z (.bl b)=>Z b
 |_=>Y
theorem yU{b:Bx}{k:Bool}(h:bh K H b v)(e:Fi b=Z k):v=.bl k:=by
 cases b with
 |z d=>
  cases d<;>first|(cases e;done)|skip;cases e;simpa only[bh,AW]using h
 |_=>cases e
theorem TW(σ:L2.St)(H:Hp)(Q:Bool->Hp->Prop)(h:C' K (λρ=>(f ρ).bind Fi) σ H Q):tF K f σ H (λx H'=>∃k,x=.bl k/\Q k H'):=by
 obtain⟨H0,ρ,k,E,e,q⟩:=h;obtain⟨b,eb,e⟩:=AT e;exact⟨H0,ρ,b,E,eb,λv H1 a c r1=>⟨k,yU r1 e,q H1 a⟩⟩
theorem cT{g:Bx->Bx->O Bx}(ho:Fg X (AG op) g)(ha:QV X a fa)(hb:QV X b fb)(c:behindInMarks op b=false):QB X (.Compare a [op] [b] pos) (λρ=>(b2 g fa fb ρ).bind Fi):=⟨have ha:=ha.run;have hb:=hb.run;HH (Y1 ho ha hb c) λσ H Q h=>Za σ H _ (TW σ H Q h)⟩
def EE(g g':Bx->Bx->O Bx)(fa fb fc:Ev->O Bx):Ev->O Bx:=λρ=>(fa ρ).bind λx=>(fb ρ).bind λy=>(g x y).bind λr=>(Fi r).bind λk=>if k=true then(fc ρ).bind λw=>g' y w else Z (.z (.bl false))
theorem UB{g g':Bx->Bx->O Bx}(σ:L2.St)(H:Hp)(Q:VK)(h:tF K (EE g g' fa fb fc) σ H Q):YG (rF K g) (rF K g') (tF K fa) (tF K fb) (tF K fc) σ H Q:=by
 obtain⟨H0,ρ,d,E,e,q⟩:=h;obtain⟨a,ea,e⟩:=AT e;obtain⟨b,eb,e⟩:=AT e;obtain⟨r,er,e⟩:=AT e;obtain⟨k,ek,e⟩:=AT e;refine⟨H0,ρ,a,E,ea,λv H1 j F r1=>⟨H0,ρ,b,E.grow j,eb,λu H2 m G r2=>?_⟩⟩;refine⟨a,b,r,r1.same m,r2,er,λw o i D z=>⟨k,yU z ek,?_⟩⟩;have c:=(j.trans m).trans i;cases k with
 |false=>
  rw[zC ZE]at e ⊢;cases e;exact q _ o c trivial (by simp only[bh,AW])
 |true=>
  rw[zo rfl]at e ⊢;obtain⟨l,s,e⟩:=AT e;refine⟨H0,ρ,l,E.grow c,s,λx C f B r4=>?_⟩;exact⟨b,l,d,(r2.same i).same f,r4,e,λy n t A p=>q y n ((c.trans f).trans t) (A.old (c.trans f)) p⟩
theorem Ol{d:CmpOp}{g g':Bx->Bx->O Bx}(ho:Fg X (AG op) g)(h:Fg X (AG d) g')(ha:QV X a fa)(hb:QV X b fb)(e:QV X c fc)(f:lastMarks [op,d] [b,c]=false:=by with_unfolding_all rfl):QV X (.Compare a [op,d] [b,c] pos) (EE g g' fa fb fc):=⟨have ha:=ha.run;have hb:=hb.run;have e:=e.run;Dk (YH ho h ha hb e f) UB⟩
def Bc(ρ:Ev)(i:Nat):O Bx:=match ρ[i]? with
 |some (Z (.o ds))=>Z (.l ds)
 |some (Z (.m AO _))=>Z (.n AO)
 |some (Z b)=>Z b
 |_=>Y
theorem Om{ρ:Ev}{b:Bx}(E:bQ K H0 H σ ρ)(e:Bc ρ i=Z b):∃v,σ[i]?=Z (Z v)/\bh K H b v:=by
 unfold Bc at e;split at e
 ·rename_i ds h;cases e;obtain⟨v,e1,a,vs,e2,q,r⟩:=E.val i _ h;exact⟨v,e1,a,vs,e2,.inl q,r⟩
 ·rename_i ds h;cases e;obtain⟨v,e1,a,vs,e2,q,r⟩:=E.val i _ h;exact⟨v,e1,a,vs,e2,.inl q,r.1⟩
 ·rename_i c h;cases e;exact E.val i _ h
 ·cases e
theorem yV{ρ:Ev}{b:Bx}(e:Bc ρ i=Z b):uV b=false:=by
 unfold Bc at e;split at e
 ·cases e;rfl
 ·cases e;rfl
 ·rename_i c h1 h2 a;cases e;cases b with
  |o ds=>exact absurd Δ (h1 ds)
  |m ds _=>exact absurd Δ (h2 ds _)
  |_=>rfl
 ·cases e
theorem ak(i:Nat)(d:X.N[i]?=Z x:=by rfl)(c:Yk X.env.scope x:=by first|exact kc rfl|exact jv (kc Δ)|exact jv (jv Δ))(f:(x==("__debug__":AJ))=false:=by decide)(a:(x==("__classdict__":AJ))=false:=by decide):QV X (.Name x pos) (λρ=>Bc ρ i):=⟨Dk (uY d c f a) λσ H Q h=>by
 obtain⟨H0,ρ,b,E,e,q⟩:=h;obtain⟨v,e1,r⟩:=Om E e;refine⟨v,e1,q v H (AV.refl H) ?_ r⟩;cases b with
 |o ds=>have:=yV e;cases this
 |m ds _=>have:=yV e;cases this
 |_=>trivial⟩
def cB(d:Dt):Ev->O Bx:=λ_=>Z (.z d)
theorem WR{d:Dt}(h:PE X e (tC v))(r:∀H,AW X.K H d v):PV X e (cB d):=Dk h λσ H Q q=>by
 obtain⟨H0,ρ,b,E,e,q⟩:=q;cases e;exact q v H (AV.refl H) trivial (r H)
theorem aD{i j}:QV X (.Constant (.int i) j pos) (cB (.int i)):=⟨WR OR λH=>by simp only[AW]⟩
theorem vA{i j}:QV X (.Constant (.bool i) j pos) (cB (.bl i)):=⟨WR RF λH=>by simp only[AW]⟩
theorem xU{j}:QV X (.Constant .none j pos) (cB .non):=⟨WR Y2 λH=>by simp only[AW]⟩
theorem Zb{j}(hx:x.length<=AA:=by decide):PV X (.Constant (.str x) j pos) (cB (.str x)):=WR Sb λH=>by unfold AW;exact⟨rfl,hx⟩
theorem Oo{i:Int}{t:Tok}(hg:Gl X x)(a:X.mg x=Z (.int i t))(b:(x==("__debug__":AJ))=false:=by decide):QV X (.Name x pos) (cB (.int i)):=⟨WR (U0 hg a (v:=.int i) ⟨t,rfl⟩ b) λH=>by simp only[AW]⟩
theorem Zc{t:Tok}(hg:Gl X x)(b:X.mg x=Z (.str y t))(a:y.length<=AA:=by decide)(c:(x==("__debug__":AJ))=false:=by decide):QV X (.Name x pos) (cB (.str y)):=⟨WR (U0 hg b (v:=.str y) ⟨t,rfl⟩ c) λH=>by unfold AW;exact⟨rfl,a⟩⟩
def Zd:Bx->O Bool
 |.z .non=>Z false
 |.z (.bl b)=>Z b
 |.z (.int i)=>Z (i != 0)
 |.z (.str x)=>Z ((x.length:Int) != 0)
 |.z (.tup ds)=>Z (!ds.isEmpty)
 |.z (.lst ds)=>Z (!ds.isEmpty)
 |.l ds=>Z (!ds.isEmpty)
 |.o ds=>Z (!ds.isEmpty)
 |.z .emp=>Y
 |.n _=>Y
 |.m _ _=>Y
theorem aK.isEmpty{ds:U Dt}(h:aK K H ds vs):(!ds.isEmpty)=!vs.isEmpty:=by
 have:=h.length;cases ds<;>cases vs<;>simp_all
theorem cy{b:Bx}{k:Bool}(r:bh K H b v)(e:Zd b=Z k):Hk K v H k:=by
 cases b with
 |z d=>
  cases d with
  |non=>cases e;simp only[bh,AW]at r;subst r;rfl
  |bl b=>cases e;simp only[bh,AW]at r;subst r;rfl
  |int b=>cases e;simp only[bh,AW]at r;subst r;rfl
  |str x=>cases e;simp only[bh,AW]at r;obtain⟨rfl,h⟩:=r;exact⟨h,rfl⟩
  |tup ds=>
   cases e;simp only[bh,AW]at r;obtain⟨a,vs,rfl,q,r⟩:=r;exact .inr (.inl ⟨vs,q,r.isEmpty⟩)
  |lst ds=>
   cases e;obtain⟨a,vs,rfl,q,r⟩:=r.Ie rfl;exact .inl ⟨vs,q,r.isEmpty⟩
  |emp=>cases e
 |l ds=>
  cases e;obtain⟨a,vs,rfl,q,r⟩:=r.Ie rfl;exact .inl ⟨vs,q,r.isEmpty⟩
 |o ds=>
  cases e;obtain⟨a,vs,rfl,q,r⟩:=r.Ie rfl;exact .inl ⟨vs,q,r.isEmpty⟩
 |n _=>cases e
 |m _ _=>cases e
theorem Bd(h:QV X e f)(he:∀a,isTrue e X.env a=(do let v <-a;standAt e.pos;holding [v] (truthy v)):=by intro _;rfl):QB X e (λρ=>(f ρ).bind Zd):=⟨have h:=h.run;HH (YJ h he) λσ H Q q=>by
 obtain⟨H0,ρ,k,E,e,q⟩:=q;obtain⟨b,eb,e⟩:=AT e;exact⟨H0,ρ,b,E,eb,λv H1 c d r1=>⟨k,cy r1 e,q H1 c⟩⟩⟩
def Ze(p q:Ev->O Bool):Ev->O Bool:=λρ=>(p ρ).bind λc=>if c=true then q ρ else Z false
def Yn(p q:Ev->O Bool):Ev->O Bool:=λρ=>(p ρ).bind λc=>if c=true then Z true else q ρ
def Oq(p:Ev->O Bool):Ev->O Bool:=λρ=>(p ρ).bind λc=>Z (!c)
def dr(X:Cx)(e:Expr)(f:Ev->O Bool):Prop:=PW X e (C' X.K f)
structure DT (X:Cx) (e:Expr) (f:Ev->Option Bool):Prop where
 run:dr X e f
variable{p q:Ev->O Bool}{AS:U Expr}
theorem Zf(ha:QB X a p):DT X (.BoolOp .And [a] pos) p:=⟨have ha:=ha.run;eQ ha⟩
theorem qM(ha:QB X a p):DT X (.BoolOp .Or [a] pos) p:=⟨have ha:=ha.run;OQ ha⟩
theorem Sc(σ:L2.St)(H:Hp)(Q:Bool->Hp->Prop)(h:C' K (Ze p q) σ H Q):L8 (C' K p) (C' K q) σ H Q:=by
 obtain⟨H0,ρ,k,E,e,w⟩:=h;obtain⟨c,b,e⟩:=AT e;refine⟨H0,ρ,c,E,b,λH1 a=>?_⟩;cases c with
 |true=>rw[zo rfl]at e ⊢;exact⟨H0,ρ,k,E.grow a,e,λH2 d=>w H2 (a.trans d)⟩
 |false=>rw[zC ZE]at e ⊢;cases e;exact w H1 a
theorem UO(σ:L2.St)(H:Hp)(Q:Bool->Hp->Prop)(h:C' K (Yn p q) σ H Q):LH (C' K p) (C' K q) σ H Q:=by
 obtain⟨H0,ρ,k,E,e,w⟩:=h;obtain⟨c,b,e⟩:=AT e;refine⟨H0,ρ,c,E,b,λH1 a=>?_⟩;cases c with
 |true=>rw[zo rfl]at e ⊢;cases e;exact w H1 a
 |false=>rw[zC ZE]at e ⊢;exact⟨H0,ρ,k,E.grow a,e,λH2 d=>w H2 (a.trans d)⟩
theorem WV(ha:QB X a p)(hb:DT X (.BoolOp .And (b::AS) pos) q):DT X (.BoolOp .And (a::b::AS) pos) (Ze p q):=⟨have ha:=ha.run;have hb:=hb.run;LY (RU ha hb) Sc⟩
theorem vB(ha:QB X a p)(hb:DT X (.BoolOp .Or (b::AS) pos) q):DT X (.BoolOp .Or (a::b::AS) pos) (Yn p q):=⟨have ha:=ha.run;have hb:=hb.run;LY (Tk ha hb) UO⟩
theorem K5(h:DT X e p):QB X e p:=⟨have h:=h.run;h.pt⟩
theorem Fj(ha:QB X a p):QB X (.UnaryOp .Not a pos) (Oq p):=⟨have ha:=ha.run;HH (PZ ha) λσ H Q h=>by
 obtain⟨H0,ρ,k,E,e,w⟩:=h;obtain⟨c,b,e⟩:=AT e;cases e;exact⟨H0,ρ,c,E,b,λH1 d=>w H1 d⟩⟩
def yW(fa fb:Ev->O Bx):Ev->O Bx:=λρ=>((fa ρ).bind Fi).bind λc=>if c=true then fb ρ else Z (.z (.bl false))
def Fc(fa:Ev->O Bx):Ev->O Bx:=λρ=>((fa ρ).bind Fi).bind λc=>Z (.z (.bl (!c)))
theorem Bf{op}(h:QV X a fa):QV X (.BoolOp op [a] pos) fa:=⟨have h:=h.run;U1 h⟩
theorem qj(ha:QV X a fa)(hb:QV X (.BoolOp .And (b::AS) pos) fb):QV X (.BoolOp .And (a::b::AS) pos) (yW fa fb):=⟨have ha:=ha.run;have hb:=hb.run;Dk (X1 ha hb) λσ H Q h=>by
 obtain⟨H0,ρ,k,E,e,w⟩:=h;obtain⟨c,f,e⟩:=AT e;obtain⟨x,ex,f⟩:=AT f;refine⟨H0,ρ,x,E,ex,λv H1 d j r1=>⟨c,yU r1 f,?_⟩⟩;cases c with
 |true=>rw[zo rfl]at e ⊢;exact⟨H0,ρ,k,E.grow d,e,λv H2 g i r2=>w v H2 (d.trans g) (i.old d) r2⟩
 |false=>rw[zC ZE]at e ⊢;cases e;exact w _ H1 d trivial (by simp only[bh,AW])⟩
theorem Pv(ha:QV X a fa):QV X (.UnaryOp .Not a pos) (Fc fa):=⟨have ha:=ha.run;Dk (SL ha) λσ H Q h=>by
 obtain⟨H0,ρ,k,E,e,w⟩:=h;obtain⟨c,b,e⟩:=AT e;obtain⟨x,ex,b⟩:=AT b;cases e;exact⟨H0,ρ,x,E,ex,λv H1 d f r1=>⟨c,yU r1 b,w _ H1 d trivial (by simp only[bh,AW])⟩⟩⟩
theorem Vb:F5 X [] (λ_=>Z []):=LA tB λσ H Q h=>by
 obtain⟨H0,ρ,bs,E,e,q⟩:=h;cases e;exact q [] H (AV.refl H) .nil
def aq(f:Ev->O Bx)(fs:Ev->O (U Bx)):Ev->O (U Bx):=λρ=>(f ρ).bind λb=>(fs ρ).bind λbs=>Z (b::bs)
theorem Ot(h1:PV X e f)(h2:F5 X es fs)(hs:A9 (e::es) X.env=(false,eval e X.env)::A9 es X.env:=by rfl):F5 X (e::es) (aq f fs):=LA (jk h1 h2 hs) λσ H Q h=>by
 obtain⟨H0,ρ,bs,E,e,q⟩:=h;obtain⟨b,eb,e⟩:=AT e;obtain⟨d,g,e⟩:=AT e;cases e;refine⟨H0,ρ,b,E,eb,λv H1 a i r1=>⟨H0,ρ,d,E.grow a,g,λvs H2 c r2=>?_⟩⟩;exact q (v::vs) H2 (a.trans c) (.cons (r1.same c) r2)
def Bg:Bx->O Bx
 |.z d=>Z (.z d)
 |.o ds=>Z (.z (.lst ds))
 |.l _=>Y
 |.n _=>Y
 |.m _ _=>Y
theorem R5{a:A1}(I:L2.AU X AN σ H s)(h:H a=Z (.lst vs)):∃o,L2.AU X AN σ (B5 H a (.uK o (.lst vs))) s:=by
 obtain⟨z,AQ,n,r,e⟩:=I.hok a _ h;refine⟨{ cls:=.type "list",data:=.seq AQ.toArray n },⟨I.ok,I.os,I.bare,⟨I.base.keep,I.base.slot,λb d q1 q2 f=>?_,I.base.there,λb xs q=>?_,λb d u q=>?_,λb ps q=>?_⟩,I.loc,I.cell,?_,λx c q=>?_,λp hp=>?_,?_,I.len⟩⟩
 ·have:=I.base.free b d q1 q2 f;rw[aR (dD h this).symm];exact this
 ·have:=I.base.tups b xs q;rw[aR (o9 this h (by intro z;cases z))];exact this
 ·have:=I.base.Di b d u q;rw[aR (o9 this h (by intro z;cases z))];exact this
 ·obtain⟨m,this⟩:=I.base.HX b ps q;rw[aR (o9 this h (by intro z;cases z))];exact⟨m,this⟩
 ·rw[aR (dD h I.free).symm];exact I.free
 ·rw[aR (dD h (I.qL x c q)).symm];exact I.qL x c q
 ·obtain⟨q1,q2,f⟩:=I.pin p hp;refine⟨q1,?_,f⟩;rw[aR (dD h q2).symm];exact q2
 ·intro b u q;by_cases hb:b=a
  ·subst hb;rw[bJ]at q;cases q;exact⟨e,z,AQ,n,r,e⟩
  ·rw[aR hb]at q;refine(I.hok b u q).stay (λc v _ w=>w) (λc w=>?_) λc xs w=>?_
   ·rw[aR (o9 w h (by intro z;cases z))];exact w
   ·rw[aR (o9 w h (by intro z;cases z))];exact w
theorem jX(h:QV X e f):QV X e (b1 Bg f):=⟨by
 have h:=h.run;intro AN s σ H Q I q;obtain⟨H0,ρ,b,E,e,q⟩:=q;obtain⟨x,ex,e⟩:=AT e;cases x with
 |z d=>
  cases e;exact h AN s σ H Q I ⟨H0,ρ,_,E,ex,λv H' s' i g=>q v H' s' trivial g⟩
 |l ds=>cases e
 |n ds=>cases e
 |m ds _=>cases e
 |o ds=>
  cases e;refine ji (h AN s σ H (λv H'=>AV H H'/\Nw H (.o ds) v/\bh X.K H' (.o ds) v) I ⟨H0,ρ,_,E,ex,λv H' s' i g=>⟨s',i,g⟩⟩) λu C y=>?_;obtain⟨v,H1,B,t,s',i,g⟩:=y;obtain⟨a,vs,rfl,ha,p⟩:=g;obtain⟨o,A⟩:=R5 B ha;refine⟨.ref a,_,A,t,q _ _ (λc w j=>?_) trivial ?_⟩
  ·rw[aR (dD j (i a Δ))];exact s' c w j
  ·simp only[bh,AW];exact⟨a,vs,rfl,.inl ⟨o,bJ⟩,p.kp (.lst ha)⟩⟩
def K6:U Bx->O (U Dt)
 |[]=>Z []
 |.z d::r=>(K6 r).bind λds=>Z (d::ds)
 |_=>Y
theorem Fl{K:B0}{H:Hp}:∀{bs:U Bx} {vs:U V} {ds:U Dt},sI K H bs vs->K6 bs=Z ds->aK K H ds vs
 |_,_,_,.nil,e=>by cases e;exact aK.nil
 |b::bs,_,_,.cons h t,e=>by
  cases b with
  |z d=>
   simp only[K6]at e;obtain⟨a,e1,e2⟩:=AT e;cases e2;exact aK.cons h (Fl t e1)
  |_=>cases e
theorem Fp:∀{bs:U Bx} {ds:U Dt},K6 bs=Z ds->ds.length=bs.length
 |[],_,e=>by cases e;rfl
 |.z d::r,_,e=>by
  simp only[K6]at e;obtain⟨a,e1,e2⟩:=AT e;cases e2;simp[Fp e1]
 |.l _::_,_,e=>by cases e
 |.o _::_,_,e=>by cases e
 |.n _::_,_,e=>by cases e
 |.m _ _::_,_,e=>by cases e
def j7(bs:U Bx):O Bx:=if bs.length<=1000 then(K6 bs).bind λds=>Z (.z (.tup ds))else Y
def rP(bs:U Bx):O Bx:=if bs.length<=1000 then(K6 bs).bind λds=>Z (.o ds)else Y
theorem bV{p:A1}(h:H p=Y):AV H (B5 H p o):=λb u e=>by rw[aR (dD e h)];exact e
theorem MD(h:n<=1000):n<=AA:=ZI h (by decide)
theorem gC{x1}(h:WQ X es fs):QV X (.Tuple es x1 pos) (dM j7 fs):=⟨have h:=h.run;Dk (TD h) λσ H Q q=>by
 obtain⟨H0,ρ,c,E,e,q⟩:=q;obtain⟨bs,d,e⟩:=AT e;refine⟨H0,ρ,bs,E,d,λvs H1 b r1=>?_⟩;unfold j7 at e;split at e
 ·rename_i a;obtain⟨ds,e1,e⟩:=AT e;cases e;have r2:=Fl r1 e1;refine⟨MD (by rw[r2.length,Fp e1];exact a),λp hp=>q _ _ (b.trans (bV hp)) trivial ?_⟩;simp only[bh,AW];exact⟨p,vs,rfl,.inl (.inl bJ),r2.kp (.of (bV hp))⟩
 ·cases e⟩
theorem lQ(h:WQ X es fs):QV X (.List es pos) (dM rP fs):=⟨have h:=h.run;Dk (RY h) λσ H Q q=>by
 obtain⟨H0,ρ,c,E,e,q⟩:=q;obtain⟨bs,f,e⟩:=AT e;refine⟨H0,ρ,bs,E,f,λvs H1 b r1=>?_⟩;unfold rP at e;split at e
 ·rename_i d;obtain⟨ds,e1,e⟩:=AT e;cases e;have r2:=Fl r1 e1;refine⟨MD (by rw[r2.length,Fp e1];exact d),λp hp=>q _ _ (b.trans (bV hp)) (λa ea=>by cases ea;exact b.free hp) ?_⟩;exact⟨p,vs,rfl,bJ,r2.kp (.of (bV hp))⟩
 ·cases e⟩
theorem c7{id:String}{g:U Bx->O Bx}{p:Pos}(f:sJ X (.builtin id) g)(hg:Gl X x)(d:X.mg x=Y)(b:AH x=Z (.builtin id))(ha:WQ X (e::es) fs)(h:x ≠ "__name__":=by decide)(a:(x==("__debug__":AJ))=false:=by decide)(he:A9 (e::es) X.env=(false,eval e X.env)::A9 es X.env:=by rfl)(c:(AD pos (A9 es X.env)).any (·.1)=false:=by rfl):QV X (.Call (.Name x p) (e::es) [] pos) (dM g fs):=⟨have ha:=ha.run;Dk (sy f hg d b ha h a he c) DD⟩
theorem iR{T:String}{g:U Bx->O Bx}{p:Pos}(f:sJ X (.type T) g)(hg:Gl X x)(d:X.mg x=Y)(b:AH x=Z (.type T))(ha:WQ X (e::es) fs)(h:x ≠ "__name__":=by decide)(a:(x==("__debug__":AJ))=false:=by decide)(he:A9 (e::es) X.env=(false,eval e X.env)::A9 es X.env:=by rfl)(c:(AD pos (A9 es X.env)).any (·.1)=false:=by rfl):QV X (.Call (.Name x p) (e::es) [] pos) (dM g fs):=⟨have ha:=ha.run;Dk (Jv f hg d b ha h a he c) DD⟩
end
inductive Ap where
 |nx (ρ:Ev)|rt (b:Bx)|bk (ρ:Ev)|ct (ρ:Ev)
def R6(K:B0)(H0:Hp)(D:C4):Ap->Prop
 |.nx ρ=>∀ σ H,bQ K H0 H σ ρ->D.nx σ H
 |.rt b=>∀v H,AV H0 H->Nw H0 b v->bh K H b v->D.rt v H
 |.bk ρ=>∀ σ H,bQ K H0 H σ ρ->D.bk σ H
 |.ct ρ=>∀ σ H,bQ K H0 H σ ρ->D.ct σ H
def tG(K:B0)(g:Ev->O Ap):TS:=λD σ H=>∃H0 ρ r,bQ K H0 H σ ρ/\g ρ=Z r/\R6 K H0 D r
def GS(X:Cx)(st:AB)(g:Ev->O Ap):Prop:=PS X st (tG X.K g)
structure Ou (X:Cx) (st:Stmt) (g:Ev->Option Ap):Prop where
 run:GS X st g
def Yl(X:Cx)(st:U AB)(g:Ev->O Ap):Prop:=RJ X st (tG X.K g)
structure WT (X:Cx) (st:List Stmt) (g:Ev->Option Ap):Prop where
 run:Yl X st g
def aF(g1 g2:Ev->O Ap):Ev->O Ap:=λρ=>(g1 ρ).bind λr=>match r with
 |.nx a=>g2 a
 |r=>Z r
section
variable{a b:Expr}{fa fb fc f:Ev->O Bx}{fs:Ev->O (U Bx)}{st:AB}{AS:U AB}{g g1 g2:Ev->O Ap}
theorem aJ  :WT X [] (λρ=>Z (.nx ρ)):=⟨HZ dE λD σ H h=>by
 obtain⟨H0,ρ,r,E,e,q⟩:=h;cases e;exact q σ H E⟩
theorem au(h1:Ou X st g1)(h2:WT X AS g2):WT X (st::AS) (aF g1 g2):=⟨have h1:=h1.run;have h2:=h2.run;HZ (Yw h1 h2) λD σ H h=>by
 obtain⟨H0,ρ,r,E,e,q⟩:=h;obtain⟨r1,e1,e⟩:=AT e;refine⟨H0,ρ,r1,E,e1,?_⟩;cases r1 with
 |nx a=>exact λσ' H' c=>⟨H0,a,r,c,e,q⟩
 |rt b=>cases e;exact q
 |bk a=>cases e;exact q
 |ct a=>cases e;exact q⟩
def Zg:Bx->O Ap
 |.l _=>Y
 |.n _=>Y
 |b=>Z (.rt b)
theorem bT(h:QV X e f):Ou X (.Return (Z e) pos) (λρ=>(f ρ).bind Zg):=⟨have h:=h.run;Va (Yx h) λD σ H h=>by
 obtain⟨H0,ρ,r,E,e,q⟩:=h;obtain⟨b,eb,e⟩:=AT e;refine⟨H0,ρ,b,E,eb,λv H1 a c r1=>?_⟩;cases b with
 |l ds=>cases e
 |z d=>cases e;exact q v H1 (E.base.trans a) trivial r1
 |o ds=>cases e;exact q v H1 (E.base.trans a) (c.old E.base) r1
 |n ds=>cases e
 |m ds _=>cases e;exact q v H1 (E.base.trans a) (c.old E.base) r1⟩
def Dl(i:Nat)(ρ:Ev):O Ap:=match ρ[i]? with
 |some (Z b)=>Zg b
 |_=>Y
theorem yX(i:Nat){p:Pos}(g:X.N[i]?=Z x:=by rfl)(f:Yk X.env.scope x:=by first|exact kc rfl|exact jv (kc Δ)|exact jv (jv Δ))(j:(x==("__debug__":AJ))=false:=by decide)(c:(x==("__classdict__":AJ))=false:=by decide):Ou X (.Return (Z (.Name x p)) pos) (Dl i):=⟨Va (Yx (uY g f j c)) λD σ H h=>by
 obtain⟨H0,ρ,r,E,e,q⟩:=h;unfold Dl at e;split at e
 ·rename_i b hb;obtain⟨v,e1,r1⟩:=E.val i b hb;refine⟨v,e1,?_⟩;cases b with
  |l ds=>cases e
  |z d=>cases e;exact q v H E.base trivial r1
  |o ds=>cases e;exact q v H E.base (λa ea=>E.new i _ a hb Δ (by rw[e1,ea])) r1
  |n ds=>cases e
  |m ds _=>cases e;exact q v H E.base (λa ea=>E.new i _ a hb Δ (by rw[e1,ea])) r1
 ·cases e⟩
def xV(p:Ev->O Bool)(g1 g2:Ev->O Ap):Ev->O Ap:=λρ=>(p ρ).bind λk=>if k=true then g1 ρ else g2 ρ
theorem iI{p:Ev->O Bool}{u v:U AB}(a:QB X c p)(ha:WT X u g1)(hb:WT X v g2):Ou X (.If c u v pos) (xV p g1 g2):=⟨have a:=a.run;have ha:=ha.run;have hb:=hb.run;Va (Xs a ha hb) λD σ H h=>by
 obtain⟨H0,ρ,r,E,e,q⟩:=h;obtain⟨k,ek,e⟩:=AT e;refine⟨H0,ρ,k,E,ek,λH1 b=>?_⟩;cases k with
 |true=>rw[zo rfl]at e ⊢;exact⟨H0,ρ,r,E.grow b,e,q⟩
 |false=>rw[zC ZE]at e ⊢;exact⟨H0,ρ,r,E.grow b,e,q⟩⟩
theorem BA{l:U α}{x y:α}(h:(l.set i x)[j]?=Z y):(j=i/\y=x/\i<l.length)\/(j≠i/\l[j]?=Z y):=by
 rw[yn]at h;by_cases e:i=j
 ·subst e;rw[zo rfl]at h;split at h
  ·cases h;exact .inl ⟨rfl,rfl,by assumption⟩
  ·cases h
 ·rw[zC e]at h;exact .inr ⟨λz=>e z.symm,h⟩
theorem Fq{l:U α}(x:α)(h:i<l.length):(l.set i x)[i]?=Z x:=by
 rw[yn,zo rfl,zo h]
theorem Ft{l:U α}(x:α)(h:j≠i):(l.set i x)[j]?=l[j]?:=by
 rw[yn,zC (Kj h)]
theorem bQ.set{H1:Hp}{ρ:Ev}{b:Bx}(E:bQ K H0 H σ ρ)(s:AV H H1)(r:bh K H1 b v)(u:uV b=true\/loose b=false)(n:Nw H b v):bQ K H0 H1 (σ.set i (Z v)) (ρ.set i (Z b)):=by
 have C:=E.grow s;have D:∀(j:Nat) (g:Bx) (a:A1),ρ[j]?=Z (Z g)->loose g=true->σ[j]?=Z (Z (.ref a))->H a≠Y:=λj g a e1 e2 e3 z=>by
  obtain⟨G,h,x⟩:=E.val j g e1;rw[e3]at h;cases h;cases g with
  |z d=>cases e2
  |l ds=>
   obtain⟨y,vs,f,q,_⟩:=x;cases f;rcases q with q|⟨o,q⟩<;>(rw[z]at q;cases q)
  |o ds=>
   obtain⟨y,vs,f,q,_⟩:=x;cases f;rw[z]at q;cases q
  |n ds=>
   obtain⟨y,vs,f,q,_⟩:=x;cases f;rcases q with q|⟨o,q⟩<;>(rw[z]at q;cases q)
  |m ds _=>
   obtain⟨y,vs,f,q,_⟩:=x;cases f;rw[z]at q;cases q
 have B:uV b=true->∀a,v=.ref a->H a=Y:=λho=>by
  cases b with
  |o ds=>exact n
  |m ds _=>exact n
  |_=>cases ho
 refine⟨by rw[ky,ky];exact E.len,λj g e=>?_,λj k c a g e1 t e2 e3 h f=>?_,C.base,λj c a e1 t e2=>?_⟩
 ·rcases BA e with⟨rfl,e',hi⟩|⟨w,e'⟩
  ·cases e';exact⟨v,Fq _ (by rw[E.len];exact hi),r⟩
  ·rw[Ft _ w];exact C.val j g e'
 ·rcases BA e1 with⟨rfl,e',hi⟩|⟨w,e'⟩
  ·cases e';rw[Fq _ (by rw[E.len];exact hi)]at e2;cases e2;rcases BA e3 with⟨rfl,p,_⟩|⟨A,p⟩
   ·rfl
   ·rw[Ft _ A]at f;exact absurd (B t a Δ) (D k g a p h f)
  ·rw[Ft _ w]at e2;rcases BA e3 with⟨rfl,p,hi⟩|⟨A,p⟩
   ·cases p;rw[Fq _ (by rw[E.len];exact hi)]at f;cases f;have F:loose c=true:=by cases c<;>first|rfl|cases t
    rcases u with u|u
    ·exact absurd (B u a Δ) (D j _ a e' F e2)
    ·rw[u]at h;cases h
   ·rw[Ft _ A]at f;exact E.own j k c a g e' t e2 p h f
 ·rcases BA e1 with⟨rfl,e',hi⟩|⟨w,e'⟩
  ·cases e';rw[Fq _ (by rw[E.len];exact hi)]at e2;cases e2;exact E.base.free (B t a Δ)
  ·rw[Ft _ w]at e2;exact E.new j c a e' t e2
def WW(ρ:Ev)(i:Nat):Bx->O Ev
 |.l _=>Y
 |.n _=>Y
 |b=>Z (ρ.set i (Z b))
theorem Vc{H1:Hp}{ρ ρ':Ev}{b:Bx}(E:bQ K H0 H σ ρ)(s:AV H H1)(r:bh K H1 b v)(n:Nw H b v)(e:WW ρ i b=Z ρ'):bQ K H0 H1 (σ.set i (Z v)) ρ':=by
 cases b with
 |l ds=>cases e
 |z d=>cases e;exact E.set s r (.inr Δ) n
 |o d=>cases e;exact E.set s r (.inl Δ) n
 |n ds=>cases e
 |m d _=>cases e;exact E.set s r (.inl Δ) n
theorem bO(i:Nat){p:Pos}(c:X.N.Nodup)(he:QV X e f)(hi:X.N[i]?=Z x:=by rfl)(hx:Co X.env.scope x:=by first|exact kc rfl|exact jv Δ)(hs:swapsWith e (Z (.Name x p)) pos.line X.env=pure false:=by rfl)(a:X.fn x=true\/X.env.scope.names.lookup x=Z .local:=by first|exact .inl rfl|exact .inr Δ):Ou X (.Assign [.Name x p] e pos) (λρ=>(f ρ).bind λb=>(WW ρ i b).bind λρ'=>Z (.nx ρ')):=⟨have he:=he.run;Va (Yz c hi hx he hs a) λD σ H h=>by
 obtain⟨H0,ρ,r,E,e,q⟩:=h;obtain⟨b,eb,e⟩:=AT e;obtain⟨ρ',g,e⟩:=AT e;cases e;exact⟨H0,ρ,b,E,eb,λv H1 j d r1=>q _ _ (Vc E j r1 d g)⟩⟩
def Lo(σ:L2.St)(ρ:Ev)(σ':L2.St)(ρ':Ev):Prop:=∀(j:Nat) b,loose b=true->ρ'[j]?=Z (Z b)->ρ[j]?=Z (Z b)/\σ'[j]?=σ[j]?
theorem Lo.refl{ρ:Ev}:Lo σ ρ σ ρ:=λ_ _ _ e=>⟨e,rfl⟩
theorem Lo.trans{σ h f:L2.St}{ρ g d:Ev}(a:Lo σ ρ h g)(b:Lo h g f d):Lo σ ρ f d:=λj c l e=>by
 obtain⟨e1,e2⟩:=b j c l e;obtain⟨e3,i⟩:=a j c l e1;exact⟨e3,e2.trans i⟩
theorem Lo.set{ρ:Ev}(i:Nat)(v:V)(d:Dt):Lo σ ρ (σ.set i (Z v)) (ρ.set i (Z (.z d))):=λj b l e=>by
 rcases BA e with⟨rfl,e',_⟩|⟨a,e'⟩
 ·cases e';cases l
 ·exact⟨e',Ft _ a⟩
def IM(K:B0)(g:Dt->Ev->O Ev):TG:=λv σ H Q=>∃H0 ρ d a,bQ K H0 H σ ρ/\AW K H d v/\g d ρ=Z a/\∀ σ',bQ K H0 H σ' a->Lo σ ρ σ' a->Q σ' H
def FG(X:Cx)(t:Expr)(g:Dt->Ev->O Ev):Prop:=PG X t (IM X.K g)
structure Yo (X:Cx) (t:Expr) (g:Dt->Ev->Option Ev):Prop where
 run:FG X t g
theorem aY(i:Nat)(f:X.N.Nodup)(hi:X.N[i]?=Z x:=by rfl)(hx:Co X.env.scope x:=by first|exact kc rfl|exact jv Δ)(c:X.fn x=true\/X.env.scope.names.lookup x=Z .local:=by first|exact .inl rfl|exact .inr Δ):Yo X (.Name x pos) (λd ρ=>Z (ρ.set i (Z (.z d)))):=⟨λAN s σ H v u Q I r h=>by
 obtain⟨H0,ρ,d,g,E,a,e,q⟩:=h;cases e;exact U3 f hi hx c AN s σ H v u Q I r (q _ (E.set (b:=.z d) (AV.refl H) a (.inr Δ) trivial) (Lo.set i v d))⟩
def Pf(K:B0)(g:U Dt->Ev->O Ev):DH:=λvs σ H Q=>∃H0 ρ ds a,bQ K H0 H σ ρ/\aK K H ds vs/\g ds ρ=Z a/\∀ σ',bQ K H0 H σ' a->Lo σ ρ σ' a->Q σ' H
def d6(X:Cx)(t:U Expr)(g:U Dt->Ev->O Ev):Prop:=L2.Yl X t (Pf X.K g)
structure F3 (X:Cx) (t:List Expr) (g:List Dt->Ev->Option Ev):Prop where
 run:d6 X t g
def sO:U Dt->Ev->O Ev
 |[],ρ=>Z ρ
 |_,_=>Y
def bU(g:Dt->Ev->O Ev)(gs:U Dt->Ev->O Ev):U Dt->Ev->O Ev
 |d::ds,ρ=>(g d ρ).bind (gs ds)
 |_,_=>Y
theorem nP  :F3 X [] sO:=⟨λAN s σ H vs us Q I r h=>by
 obtain⟨H0,ρ,ds,b,E,a,e,q⟩:=h;cases ds with
 |nil=>cases e;unfold aK at a;exact bE AN s σ H vs us Q I r ⟨a,q _ E Lo.refl⟩
 |cons d ds=>cases e⟩
theorem bG{t:Expr}{ts:U Expr}{gt:Dt->Ev->O Ev}{gs:U Dt->Ev->O Ev}(h1:Yo X t gt)(h2:F3 X ts gs)(hs:(assignEach (t::ts) X.env).map (·.2)=assign t X.env::(assignEach ts X.env).map (·.2):=by rfl):F3 X (t::ts) (bU gt gs):=⟨have h1:=h1.run;have h2:=h2.run;λAN s σ H vs us Q I r h=>by
 obtain⟨H0,ρ,ds,i,E,b,e,q⟩:=h;cases ds with
 |nil=>cases e
 |cons d ds=>
  unfold aK at b;obtain⟨v,l,rfl,r1,r2⟩:=b;simp only[bU]at e;obtain⟨a,e1,e⟩:=AT e;exact Yy h1 h2 hs AN s σ H _ us Q I r ⟨v,l,rfl,H0,ρ,d,a,E,r1,e1,λn g m=>⟨H0,a,ds,i,g,r2,e,λf j c=>q f j (m.trans c)⟩⟩⟩
def ql(n:Nat)(gs:U Dt->Ev->O Ev):Dt->Ev->O Ev
 |.tup ds,ρ=>if ds.length=n then gs ds ρ else Y
 |_,_=>Y
theorem rQ{ts:U Expr}{k:Nat}{gs:U Dt->Ev->O Ev}(l:X.calm=true)(h:F3 X ts gs)(j:(assignEach ts X.env).length=n:=by rfl)(i:(assignEach ts X.env).findIdx? (·.1)=Y:=by rfl):Yo X (.Tuple ts k pos) (ql n gs):=⟨have h:=h.run;λAN s σ H v u Q I r o=>by
 obtain⟨H0,ρ,d,g,E,c,e,q⟩:=o;cases d with
 |tup ds=>
  simp only[ql]at e;split at e
  ·rename_i f;unfold AW at c;obtain⟨a,vs,rfl,m,b⟩:=c;exact SO l h j i AN s σ H _ u Q I r ⟨a,vs,rfl,m,by rw[b.length];exact f,H0,ρ,ds,g,E,b,e,q⟩
  ·cases e
 |_=>cases e⟩
theorem K7{gt:Dt->Ev->O Ev}(he:QV X e f)(hg:Yo X tg gt)(hs:swapsWithSole [tg] e pos.line X.env=pure false:=by rfl)(g:swappedStores [tg] e X.env=pure Y:=by rfl)(h1:(assignEach [tg] X.env).map (·.2)=[assign tg X.env]:=by rfl):Ou X (.Assign [tg] e pos) (λρ=>(f ρ).bind λb=>match b with|.z d=>(gt d ρ).bind λρ'=>Z (.nx ρ')|_=>Y):=⟨have he:=he.run;have hg:=hg.run;Va (cx he hg hs g h1) λD σ H h=>by
 obtain⟨H0,ρ,r,E,e,q⟩:=h;obtain⟨b,eb,e⟩:=AT e;refine⟨H0,ρ,b,E,eb,λv H1 a j r1=>?_⟩;cases b with
 |z d=>
  obtain⟨ρ',c,e⟩:=AT e;cases e;exact⟨H0,ρ,d,ρ',E.grow a,r1,c,λσ' i _=>q _ _ i⟩
 |_=>cases e⟩
def FC(i j:Nat)(ρ:Ev):U Bx->O Ap
 |[.z d,.z d']=>Z (.nx ((ρ.set i (Z (.z d))).set j (Z (.z d'))))
 |_=>Y
theorem Zh(i j:Nat){px py pt:Pos}{kt k2 pt2}(m:X.calm=true)(f:X.N.Nodup)(ha:WQ X [a,b] fs)(hi:X.N[i]?=Z x:=by rfl)(g:X.N[j]?=Z y:=by rfl)(l:i≠j:=by decide)(hx:X.env.scope.names.lookup x=Z .local:=by rfl)(c:X.env.scope.names.lookup y=Z .local:=by rfl)(o:swappedStores [.Tuple [.Name x px,.Name y py] kt pt] (.Tuple [a,b] k2 pt2) X.env=pure (Z [x,y]):=by rfl)(hs:swapsWithSole [.Tuple [.Name x px,.Name y py] kt pt] (.Tuple [a,b] k2 pt2) pos.line X.env=pure false:=by rfl):Ou X (.Assign [.Tuple [.Name x px,.Name y py] kt pt] (.Tuple [a,b] k2 pt2) pos) (λρ=>(fs ρ).bind (FC i j ρ)):=⟨have ha:=ha.run;Va (OT m f hi g l hx c ha o hs) λD σ H h=>by
 obtain⟨H0,ρ,r,E,e,q⟩:=h;obtain⟨bs,eb,e⟩:=AT e;refine⟨H0,ρ,bs,E,eb,λvs H1 u r1=>?_⟩;unfold FC at e;split at e
 ·rename_i d s;cases e;cases r1 with
  |cons p t=>
   cases t with
   |cons p' n=>
    cases n;refine⟨_,_,rfl,q _ _ ?_⟩;exact((E.grow u).set (b:=.z d) (AV.refl H1) p (.inr Δ) trivial).set (b:=.z s) (AV.refl H1) p' (.inr Δ) trivial
 ·cases e⟩
def FH(ρ:Ev)(i:Nat):Bx->O Ap
 |.z d=>match ρ[i]? with
  |some (Z (.o ds))=>if ds.length<AA then Z (.nx (ρ.set i (Z (.o (ds++[d])))))else Y
  |_=>Y
 |_=>Y
theorem bQ.ah2{ρ:Ev}{w c1:Bx}{a:A1}{u:HO}(E:bQ K H0 H σ ρ)(h:ρ[i]?=Z (Z w))(ho:uV w=true)(hs:σ[i]?=Z (Z (.ref a)))(k:Kp H (B5 H a u))(r:bh K (B5 H a u) c1 (.ref a)):
  bQ K H0 (B5 H a u) σ (ρ.set i (Z c1)):=by
 have hi:i<ρ.length:=(List.getElem?_eq_some_iff.mp h).1;have hb:H0 a=Y:=E.new i w a h ho hs;have lo:∀c,uV c=true->loose c=true:=λc L=>by cases c<;>first|rfl|cases L
 refine⟨by rw[ky];exact E.len,λj A e=>?_,λj D c f A e1 x e2 e3 N M=>?_,λc o e=>?_,λj c f e1 x e2=>?_⟩
 ·rcases BA e with⟨rfl,e',_⟩|⟨B,e'⟩
  ·cases e';exact⟨_,hs,r⟩
  ·obtain⟨v,e1,t⟩:=E.val j A e';refine⟨v,e1,?_⟩;have y:∀f,v=.ref f->loose A=true->f≠a:=λf ev F z=>by
    subst z;exact B (E.own i j w _ _ h ho hs e' F (by rw[e1,ev])).symm
   cases A with
   |z d=>exact AW.kp k t
   |l C=>
    obtain⟨f,s,rfl,q,p⟩:=t;refine⟨f,s,rfl,?_,p.kp k⟩;have g:=y f Δ rfl;rcases q with q|⟨o,q⟩
    ·exact .inl (by rw[aR g];exact q)
    ·exact .inr ⟨o,by rw[aR g];exact q⟩
   |o C=>
    obtain⟨f,s,rfl,q,p⟩:=t;have g:=y f Δ rfl;exact⟨f,s,rfl,by rw[aR g];exact q,p.kp k⟩
   |n C=>
    obtain⟨f,s,rfl,q,p⟩:=t;refine⟨f,s,rfl,?_,p.kp k⟩;have g:=y f Δ rfl;rcases q with q|⟨o,q⟩
    ·exact .inl (by rw[aR g];exact q)
    ·exact .inr ⟨o,by rw[aR g];exact q⟩
   |m C=>
    obtain⟨f,s,rfl,q,p⟩:=t;have g:=y f Δ rfl;exact⟨f,s,rfl,by rw[aR g];exact q,p.1.kp k,p.2⟩
 ·have back:∀(m:Nat) (b:Bx),(ρ.set i (Z c1))[m]?=Z (Z b)->loose b=true->∃b0,ρ[m]?=Z (Z b0)/\loose b0=true/\(uV b=true->uV b0=true):=λm b e l=>by
   rcases BA e with⟨rfl,e',_⟩|⟨B,e'⟩
   ·exact⟨_,h,lo _ ho,λ_=>ho⟩
   ·exact⟨b,e',l,λz=>z⟩
  obtain⟨b0,q1,q2,J⟩:=back j _ e1 (lo _ x);obtain⟨b1,G,I,_⟩:=back D _ e3 N;exact E.own j D b0 f b1 q1 (J x) e2 G I M
 ·rw[aR (dD e hb)];exact E.base c o e
 ·rcases BA e1 with⟨rfl,e',_⟩|⟨B,e'⟩
  ·exact E.new _ w f h ho e2
  ·exact E.new j c f e' x e2
theorem bQ.YW{ρ:Ev}{ds es:U Dt}{a:A1}{us:U V}(E:bQ K H0 H σ ρ)(h:ρ[i]?=Z (Z (.o ds)))(hs:σ[i]?=Z (Z (.ref a)))(ha:H a=Z (.lst vs))(r:aK K H es us):
  bQ K H0 (B5 H a (.lst us)) σ (ρ.set i (Z (.o es))):=E.ah2 h Δ hs (.lst ha) ⟨a,us,rfl,bJ,r.kp (.lst ha)⟩
theorem xW(i:Nat){p:Pos}(he:QV X e f)(s:X.N[i]?=Z x:=by rfl)(w:Yk X.env.scope x:=by first|exact kc rfl|exact jv (kc Δ)|exact jv (jv Δ))(A:(x==("__debug__":AJ))=false:=by decide)(B:(x==("__classdict__":AJ))=false:=by decide)(l:A9 [e] X.env=[(false,eval e X.env)]:=by rfl)(y:attributeBase (.Name x p) "append" X.env (eval (.Name x p) X.env)=eval (.Name x p) X.env:=by rfl)(t:((AD cpos (A9 [e] X.env)).all (λx=>!x.1)&&(backToKw cpos (keywordEach [] X.env)).all (λx=>x.1.isSome)&&decide ([e].length+([]:U AC).length+(if([]:U AC).isEmpty then 0 else 1)<30))=true:=by rfl)(m:(apos.endLine==cpos.line)=true:=by rfl)(hs:swapsWith (.Call (.Attribute (.Name x p) "append" apos) [e] [] cpos) Y pos.line X.env=pure false:=by rfl):Ou X (.Expr (.Call (.Attribute (.Name x p) "append" apos) [e] [] cpos) pos) (λρ=>(f ρ).bind (FH ρ i)):=⟨have he:=he.run;Va (KJ (YT PySem.F.plainAttrs_list PySem.F.slot_list_append PySem.F.type_list_append Jx (uY (i:=i) s w A B) (jk he tB (by rw[l]<;>rfl)) y t m (by rw[l]<;>rfl) Δ) hs) λD σ H h=>by
  obtain⟨H0,ρ,r,E,e,q⟩:=h;obtain⟨b,eb,e⟩:=AT e;cases b with
  |z d=>
   simp only[FH]at e;split at e
   ·rename_i ds j;split at e
    ·rename_i o;cases e;obtain⟨v,e1,a,vs,rfl,ha,g⟩:=E.val i _ j;refine⟨_,e1,.inl ⟨rfl,vs,.inl (.inl ha)⟩,H0,ρ,_,E,eb,λu H1 c C r1=>?_⟩;have n:=E.grow c;refine⟨a,vs,u,rfl,rfl,c _ _ ha,by rw[g.length];exact o,q _ _ ?_⟩;exact n.YW j e1 (c _ _ ha) ((g.kp (.of c)).append (aK.cons r1 aK.nil))
    ·cases e
   ·cases e
  |_=>cases e⟩
end
def ID(x:AJ):It:=⟨λi _=>i<x.cps.size,λi H v H'=>H'=H/\∃c,x.cps[i]?=Z c/\v=.str ⟨#[c]⟩,λi _=>x.cps.size<=i⟩
def X2(h:A6)(it:A1)(x:AJ)(i:Nat):Prop:=∃t,h.IsStrIter it "str_ascii_iterator" x t i\/h.IsStrIter it "str_iterator" x t i
theorem Ov(it:A1)(x:AJ):C3 P w K tg (ID x) [it] it (λi h=>X2 h it x i) where
 mem:=by simp
 obj:=λi h st b hb=>by
  have e:b=it:=by simpa using hb
  subst e;obtain⟨t,⟨o,e,c,d⟩|⟨o,e,c,d⟩⟩:=st
  ·exact⟨o,e,λv z=>by rw[d]at z;cases z⟩
  ·exact⟨o,e,λv z=>by rw[d]at z;cases z⟩
 keep:=λi h h' st k=>by
  obtain⟨t,⟨o,e,c⟩|⟨o,e,c⟩⟩:=st
  ·exact⟨t,.inl ⟨o,k it (by simp) o e,c⟩⟩
  ·exact⟨t,.inr ⟨o,k it (by simp) o e,c⟩⟩
 item:=by
  intro X q p n m i AN s σ H E I a st hg;subst q p n;obtain⟨f0,f1,f2,f,j,l⟩:=a it (by simp);have hi:i<x.cps.size:=hg;have hx:x.cps[i]?=Z x.cps[i]:=by simp[hi]
  obtain⟨t,st|st⟩:=st
  ·refine wpAny_pyNext_ascii_item st hx λh' g sb=>?_;have u:L2.AU X AN σ H { s with heap:=h',toks:=s.toks+1 }:=I.turned (λb o hb e=>(sb.2 b hb).trans e) f0 f1 f j l;obtain⟨o,e,c,d⟩:=id g;exact⟨_,rfl,Jq (s:={ s with heap:=h',toks:=s.toks+1 }) e c d (by decide) ⟨.str ⟨#[x.cps[i]]⟩,H,u,⟨_,rfl⟩,⟨rfl,_,hx,rfl⟩,⟨t,.inl g⟩,λb hb=>(a b hb).1⟩⟩
  ·refine wpAny_pyNext_wide_item st hx λh' g sb=>?_;have u:L2.AU X AN σ H { s with heap:=h',toks:=s.toks+1 }:=I.turned (λb o hb e=>(sb.2 b hb).trans e) f0 f1 f j l;obtain⟨o,e,c,d⟩:=id g;exact⟨_,rfl,Jq (s:={ s with heap:=h',toks:=s.toks+1 }) e c d (by decide) ⟨.str ⟨#[x.cps[i]]⟩,H,u,⟨_,rfl⟩,⟨rfl,_,hx,rfl⟩,⟨t,.inr g⟩,λb hb=>(a b hb).1⟩⟩
 done:=by
  intro X q p n m i AN s σ H E I a st hg;subst q p n;obtain⟨f0,f1,f2,f,j,l⟩:=a it (by simp);have hx:x.cps[i]?=Y:=by have:x.cps.size<=i:=hg;simp[this]
  obtain⟨t,st|st⟩:=st
  ·exact wpAny_pyNext_ascii_end (I.ok.hd m) st hx λh' eb=>⟨rfl,I.turned (t':=s.toks) (λb o hb e=>eb b o hb e) f0 f1 f j l⟩
  ·exact wpAny_pyNext_wide_end (I.ok.hd m) st hx λh' eb=>⟨rfl,I.turned (t':=s.toks) (λb o hb e=>eb b o hb e) f0 f1 f j l⟩
 self:=λ_ _ _ _ _ st h=>by
  obtain⟨t,st|st⟩:=st
  ·exact wpAny_pyIter_striter_ascii st h
  ·exact wpAny_pyIter_striter_wide st h
def VI(K:B0)(tl:TE):TI:=λσ H R=>tl σ H λx H1=>(∃a,x=.ref a/\(∃xs,uZ K H1 a xs)/\R (FX K a) H1)\/(∃a,x=.ref a/\(∃xs,wV K H1 a xs)/\R (GO K a) H1)\/∃y,x=.str y/\R (ID y) H1
theorem R7{l:Expr}{tl:TE}(f:PE X l tl):PI X tg l (VI X.K tl):=by
 intro AN s σ H R I h;refine ji (f AN s σ H _ I h) λv s1 ⟨x,H1,I1,r1,q1⟩=>?_;have c:∀(o:AE) (b:A1),b∈[s1.heap.objs.size]->rN X AN H1 b:=λo b hb=>by
  have e:b=s1.heap.objs.size:=by simpa using hb
  subst e;exact I1.RK (zk _) (I1.hok.fresh (zk _))
 rcases q1 with⟨a,e,⟨xs,d⟩,q⟩|⟨a,e,⟨xs,d⟩,q⟩|⟨y,e,q⟩
 ·subst e;cases r1;obtain⟨AQ,i,p,g⟩:=I1.list d;refine wpAny_pyIter_list p.isList ?_;exact⟨s1.heap.objs.size,[s1.heap.objs.size],_,_,H1,rfl,I1.kept (t':=s1.toks) λb o e=>ze _ e,Wt a _,⟨_,zv _ rfl,rfl,rfl⟩,c default,q⟩
 ·subst e;cases r1;obtain⟨AQ,i,p,g⟩:=I1.tuple d;refine ko (show s1.heap.IsTuple a AQ.toArray from p) ?_;exact⟨s1.heap.objs.size,[s1.heap.objs.size],_,_,H1,rfl,I1.kept (t':=s1.toks) λb o e=>ze _ e,RM a _,⟨_,zv _ rfl,rfl,rfl⟩,c default,q⟩
 ·subst e;obtain⟨t,rfl⟩:=r1;cases ha:y.cps.all (· < 128)with
  |true=>
   refine wpAny_pyIter_ascii ha ?_;exact⟨s1.heap.objs.size,[s1.heap.objs.size],_,_,H1,rfl,I1.kept (t':=s1.toks) λb o e=>ze _ e,Ov _ y,⟨t,.inl ⟨_,zv _ rfl,rfl,rfl⟩⟩,c default,q⟩
  |false=>
   refine wpAny_pyIter_wide ha ?_;exact⟨s1.heap.objs.size,[s1.heap.objs.size],_,_,H1,rfl,I1.kept (t':=s1.toks) λb o e=>ze _ e,Ov _ y,⟨t,.inr ⟨_,zv _ rfl,rfl,rfl⟩⟩,c default,q⟩
def B1(K:B0)(J:It)(ds:U Dt)(Hs:Hp):Prop:=∀(i:Nat) (H:Hp),AV Hs H →
 (∀d,ds[i]?=Z d->J.go i H/\∀x H',J.yld i H x H'->AV H H'/\AW K H' d x)/\(ds.length<=i->J.stop i H)
theorem B1.of{ds:U Dt}(h:∀(i:Nat) (H:Hp),AV Hs H →
  (∀d,ds[i]?=Z d->J.go i H/\∀x H',J.yld i H x H'->H'=H/\AW K H d x)/\(ds.length<=i->J.stop i H)):B1 K J ds Hs:=λi H s=>
 ⟨λd e=>⟨((h i H s).1 d e).1,λx H' y=>by
  obtain⟨rfl,r⟩:=((h i H s).1 d e).2 x H' y;exact⟨AV.refl _,r⟩⟩,(h i H s).2⟩
def BF(x:AJ):U Dt:=x.cps.toList.map λc=>.str ⟨#[c]⟩
theorem B1.list{ds:U Dt}(h:uZ K Hs a vs)(r:aK K Hs ds vs):B1 K (FX K a) ds Hs:=.of λi H s=>by
 have h':=s.seq h;have b:=r.kp (.of s);refine⟨λd e=>?_,λe=>⟨vs,h',by rw[r.length];exact e⟩⟩;obtain⟨v,ev,c⟩:=b.get e;refine⟨⟨vs,v,h',ev⟩,λx H' y=>?_⟩;obtain⟨y1,y2⟩:=y;have:=y2 vs h';rw[ev]at this;cases this;exact⟨y1,c⟩
theorem B1.tup{ds:U Dt}(h:wV K Hs a vs)(r:aK K Hs ds vs):B1 K (GO K a) ds Hs:=.of λi H s=>by
 have h':=(Kp.of s).sqT h;have b:=r.kp (.of s);refine⟨λd e=>?_,λe=>⟨vs,h',by rw[r.length];exact e⟩⟩;obtain⟨v,ev,c⟩:=b.get e;refine⟨⟨vs,v,h',ev⟩,λx H' y=>?_⟩;obtain⟨y1,y2⟩:=y;have:=y2 vs h';rw[ev]at this;cases this;exact⟨y1,c⟩
theorem B1.str(x:AJ):B1 K (ID x) (BF x) Hs:=.of λi H s=>by
 refine⟨λd e=>?_,λe=>?_⟩
 ·unfold BF at e;rw[Zp]at e;cases h:x.cps.toList[i]? with
  |none=>rw[h]at e;cases e
  |some c=>
   rw[h]at e;cases e;have b:x.cps[i]?=Z c:=by simpa using h
   have hi:i<x.cps.size:=by
    have:=(List.getElem?_eq_some_iff.mp h).1;simpa using this
   refine⟨hi,λv H' y=>?_⟩;obtain⟨y1,f,a,rfl⟩:=y;rw[b]at a;cases a;refine⟨y1,?_⟩;unfold AW;exact⟨rfl,by show(1:Nat)<=AA;decide⟩
 ·have:(BF x).length=x.cps.size:=by simp[BF]
  show x.cps.size<=i;omega
def Ox(lo:Int)(n:Nat):U Dt:=(List.range n).map λk=>.int (lo+(k:Nat))
theorem B1.rng(lo:Int)(n:Nat):B1 K (FB lo n) (Ox lo n) Hs:=.of λi H s=>by
 refine⟨λd e=>?_,λe=>?_⟩
 ·unfold Ox at e;rw[Zp]at e;by_cases hi:i<n
  ·rw[KS hi]at e;cases e;refine⟨hi,λv H' y=>?_⟩;obtain⟨y1,y2⟩:=y;refine⟨y1,?_⟩;unfold AW;exact y2
  ·rw[Qb (by simp;omega)]at e;cases e
 ·have:(Ox lo n).length=n:=by simp[Ox]
  show n<=i;omega
def iF(K:B0)(f:Ev->O (U Dt)):TI:=λσ H R=>∃H0 ρ ds,bQ K H0 H σ ρ/\f ρ=Z ds/\∀J H',AV H H' →
 (∀Hs,AV Hs H'->(∀a,H a=Y->Hs a=H' a)->(∀a o u,H' a=Z (.uK o u)->Hs a=H' a)->(∀a vs,H' a=Z (.tup vs)->Hs a=H' a)->B1 K J ds Hs)->R J H'
def SH(X:Cx)(tg iter:Expr)(f:Ev->O (U Dt)):Prop:=PI X tg iter (iF X.K f)
structure E8 (X:Cx) (tg iter:Expr) (f:Ev->Option (List Dt)):Prop where
 run:SH X tg iter f
def G1:Bx->O (U Dt)
 |.z (.lst ds)=>Z ds
 |.z (.tup ds)=>Z ds
 |.z (.str x)=>Z (BF x)
 |.o ds=>Z ds
 |_=>Y
section
variable{f:Ev->O Bx}{fs:Ev->O (U Bx)}
mutual
theorem AW.part{K:B0}{H Hs:Hp}(b:∀a o u,H a=Z (.uK o u)->Hs a=H a)(c:∀a vs,H a=Z (.tup vs)->Hs a=H a):∀{d:Dt} {v:V},AW K H d v->AW K Hs d v
 |.non,_,h=>by simpa only[AW]using h
 |.bl _,_,h=>by simpa only[AW]using h
 |.int _,_,h=>by simpa only[AW]using h
 |.str _,_,h=>by simpa only[AW]using h
 |.tup ds,_,h=>by
  simp only[AW]at h ⊢;obtain⟨a,vs,e,q,r⟩:=h;refine⟨a,vs,e,?_,aK.part b c r⟩;rcases q with (q|⟨o,q⟩)|q
  ·exact .inl (.inl ((c _ _ q).trans q))
  ·exact .inl (.inr ⟨o,(b _ _ _ q).trans q⟩)
  ·exact .inr q
 |.lst ds,_,h=>by
  simp only[AW]at h ⊢;obtain⟨a,vs,e,q,r⟩:=h;refine⟨a,vs,e,?_,aK.part b c r⟩;rcases q with⟨o,q⟩|q
  ·exact .inl ⟨o,(b _ _ _ q).trans q⟩
  ·exact .inr q
 |.emp,_,h=>by
  simp only[AW]at h ⊢;obtain⟨a,o,e,q⟩:=h;exact⟨a,o,e,(b _ _ _ q).trans q⟩
theorem aK.part{K:B0}{H Hs:Hp}(c:∀a o u,H a=Z (.uK o u)->Hs a=H a)(b:∀a vs,H a=Z (.tup vs)->Hs a=H a):∀{ds:U Dt} {vs:U V},aK K H ds vs->aK K Hs ds vs
 |[],_,h=>by simpa only[aK]using h
 |d::ds,_,h=>by
  simp only[aK]at h ⊢;obtain⟨v,r,e,q,t⟩:=h;exact⟨v,r,e,AW.part c b q,aK.part c b t⟩
end
theorem Vd(h:QV X e f):E8 X tg e (λρ=>(f ρ).bind G1):=⟨have h:=h.run;λAN s σ H R I q=>by
 refine R7 h AN s σ H R I ?_;obtain⟨H0,ρ,ds,E,e,q⟩:=q;obtain⟨b,eb,e⟩:=AT e;refine⟨H0,ρ,b,E,eb,λv H1 u w r1=>?_⟩;cases b with
 |z d=>
  cases d with
  |tup j=>
   cases e;simp only[bh,AW]at r1;obtain⟨a,vs,rfl,c,p⟩:=r1;refine .inr (.inl ⟨a,rfl,⟨vs,c⟩,q _ _ u λHs hs t g i=>.tup ?_ (p.part g i)⟩);rcases c with (c|⟨o,c⟩)|c
   ·exact .inl (.inl ((i _ _ c).trans c))
   ·exact .inl (.inr ⟨o,(g _ _ _ c).trans c⟩)
   ·exact .inr c
  |lst j=>
   cases e;simp only[bh,AW]at r1;obtain⟨a,vs,rfl,c,p⟩:=r1;refine .inl ⟨a,rfl,⟨vs,c.sq⟩,q _ _ u λHs hs t g i=>.list ?_ (p.part g i)⟩;rcases c with⟨o,c⟩|c
   ·exact .inl (.inr ⟨o,(g _ _ _ c).trans c⟩)
   ·exact .inr c
  |str x=>
   cases e;simp only[bh,AW]at r1;obtain⟨rfl,_⟩:=r1;exact .inr (.inr ⟨x,rfl,q _ _ u λHs hs t g i=>.str x⟩)
  |_=>cases e
 |l j=>cases e
 |n j=>cases e
 |m j=>cases e
 |o j=>
  cases e;obtain⟨a,vs,rfl,c,p⟩:=r1;refine .inl ⟨a,rfl,⟨vs,.inl (.inl c)⟩,q _ _ u λHs hs t g i=>.list (.inl (.inl ((t a (w a Δ)).trans c))) (p.part g i)⟩⟩
def GU:U Bx->O (U Dt)
 |[.z (.int j)]=>if -(2 ^ 62)<=j/\j<2 ^ 62 then Z (Ox 0 j.toNat)else Y
 |_=>Y
theorem vC{p:Pos}(hg:Gl X "range")(c:X.mg "range"=Y)(ha:WQ X [e] fs)(hs:A9 [e] X.env=[(false,eval e X.env)]:=by rfl):E8 X tg (.Call (.Name "range" p) [e] [] pos) (λρ=>(fs ρ).bind GU):=⟨have ha:=ha.run;λAN s σ H R I q=>by
 refine Wu hg c ha hs AN s σ H R I ?_;obtain⟨H0,ρ,ds,E,e,q⟩:=q;obtain⟨bs,eb,e⟩:=AT e;refine⟨H0,ρ,bs,E,eb,λvs H1 b r1=>?_⟩;unfold GU at e;split at e
 ·rename_i j;split at e
  ·rename_i a;cases e;cases r1 with
   |cons p t=>
    cases t;simp only[bh,AW]at p;subst p;exact⟨j,rfl,a.1,a.2,q _ _ b λHs _ _ _ _=>.rng 0 _⟩
  ·cases e
 ·cases e⟩
def rR(gt:Dt->Ev->O Ev)(gb:Ev->O Ap):U Dt->Ev->O Ap
 |[],ρ=>Z (.nx ρ)
 |d::ds,ρ=>(gt d ρ).bind λc=>(gb c).bind λr=>match r with
  |.nx a=>rR gt gb ds a
  |.ct a=>rR gt gb ds a
  |.bk a=>Z (.nx a)
  |.rt b=>Z (.rt b)
noncomputable def gA(H:Hp)(σ:L2.St)(ρ:Ev):Hp:=λa=>@ite _ (∃(i:Nat) (c:Bx),ρ[i]?=Z (Z c)/\uV c=true/\σ[i]?=Z (Z (.ref a))) (Classical.propDecidable _) Y (H a)
theorem yZ{ρ:Ev}:AV (gA H σ ρ) H:=λa o e=>by
 unfold gA at e;split at e
 ·cases e
 ·exact e
theorem bQ.rebase{ρ:Ev}(E:bQ K Hs H σ ρ)(s:AV H0 Hs):bQ K H0 H σ ρ:=⟨E.len,E.val,E.own,s.trans E.base,λi c a e1 b e2=>s.free (E.new i c a e1 b e2)⟩
theorem bQ.sans{ρ:Ev}(E:bQ K H0 H σ ρ):bQ K (gA H σ ρ) H σ ρ:=⟨E.len,E.val,E.own,yZ,λi c a e1 b e2=>by
 unfold gA;rw[zo ⟨i,c,e1,b,e2⟩]⟩
theorem bQ.sub{ρ:Ev}(E:bQ K H0 H σ ρ):AV H0 (gA H σ ρ):=λa o e=>by
 unfold gA;split
 ·rename_i h;obtain⟨i,c,e1,b,e2⟩:=h;rw[E.new i c a e1 b e2]at e;cases e
 ·exact E.base a o e
theorem jC{ρ:Ev}(E:bQ K H0 H σ ρ)(h:∀vs,H a≠Z (.lst vs))(h2:∀vs,H a≠Z (.dK vs)):gA H σ ρ a=H a:=by
 unfold gA;split
 ·rename_i g;obtain⟨i,c,e1,f,e2⟩:=g;obtain⟨v,e3,d⟩:=E.val i _ e1;rw[e2]at e3;cases e3;cases c with
  |o ds=>obtain⟨e,vs,b,q,_⟩:=d;cases b;exact absurd q (h vs)
  |m ds _=>obtain⟨e,vs,b,q,_⟩:=d;cases b;exact absurd q (h2 vs)
  |_=>cases f
 ·rfl
theorem R6.rebase{K:B0}{H0 Hs:Hp}{D:C4}{r:Ap}(s:AV H0 Hs)(h:R6 K H0 D r):R6 K Hs D r:=by
 cases r with
 |nx ρ=>exact λσ H E=>h σ H (E.rebase s)
 |bk ρ=>exact λσ H E=>h σ H (E.rebase s)
 |ct ρ=>exact λσ H E=>h σ H (E.rebase s)
 |rt b=>exact λv H s' n r=>h v H (s.trans s') (n.old s) r
theorem sS{gt:Dt->Ev->O Ev}{gb:Ev->O Ap}{ds:U Dt}{H1:Hp}{ρ:Ev}{D:C4}{r:Ap}(p:bQ X.K H0 H1 σ ρ)(Y:B1 X.K J ds (gA H1 σ ρ))(e:rR gt gb ds ρ=Z r)(q:R6 X.K H0 D r):
  ∃W:Nat->Nat->L2.St->Hp->Prop,(∃m,W 0 m σ H1)/\∀i m σ H,W i m σ H →
   (J.stop i H/\D.nx σ H)\/(J.go i H/\∃N:L2.St->Hp->Prop,(∀ σ' H',N σ' H'->∃s,s<m/\W (i+1) s σ' H')/\∀x H',J.yld i H x H'->IM X.K gt x σ H' λc H2=>tG X.K gb { D with nx:=N,ct:=N,bk:=D.nx } c H2):=by
 have n:=p.sans;have q2:=q.rebase p.sub;generalize gA H1 σ ρ=Hs at Y n q2;refine⟨λi m σ' H'=>m=ds.length-i/\i<=ds.length/\∃d,bQ X.K Hs H' σ' d/\rR gt gb (ds.drop i) d=Z r,⟨ds.length,by simp,QR _,ρ,n,by simpa using e⟩,?_⟩;rintro i m σ' H' ⟨rfl,B,d,g,e'⟩;obtain⟨y1,y2⟩:=Y i H' g.base;by_cases f:i<ds.length
 ·right;have u:ds[i]?=Z ds[i]:=by simp[f]
  obtain⟨go,v⟩:=y1 _ u;rw[List.drop_eq_getElem_cons f]at e';simp only[rR]at e';obtain⟨l,e1,e'⟩:=AT e';obtain⟨r1,e2,e'⟩:=AT e';refine⟨go,λc H2=>∃a,bQ X.K Hs H2 c a/\rR gt gb (ds.drop (i+1)) a=Z r,λc H2 ⟨a,j,e3⟩=>⟨ds.length-(i+1),by omega,rfl,f,a,j,e3⟩,λx H2 z=>?_⟩;obtain⟨y,w⟩:=v x H2 z;refine⟨Hs,d,ds[i],l,g.grow y,w,e1,λA j _=>⟨Hs,l,r1,j,e2,?_⟩⟩;cases r1 with
  |nx a=>exact λc t h=>⟨a,h,e'⟩
  |ct a=>exact λc t h=>⟨a,h,e'⟩
  |bk a=>cases e';exact q2
  |rt b=>cases e';exact q2
 ·left;have o:ds.length<=i:=by omega
  refine⟨y2 o,?_⟩;rw[List.drop_eq_nil_of_le o]at e';cases e';exact q2 σ' H' g
theorem xX{fi:Ev->O (U Dt)}{gt:Dt->Ev->O Ev}{gb:Ev->O Ap}(hp:PassesOwn (A8 X.prog X.w) X.A X.env X.xe)(n:X.calm=true)(hi:E8 X tg iter fi)(hg:Yo X tg gt)(hb:WT X body gb)(hs:∀x,foldedSetIterable iter X.env x=pure x:=by intro _;rfl):Ou X (.For tg iter body [] pos) (λρ=>(fi ρ).bind λds=>rR gt gb ds ρ):=⟨have hi:=hi.run;have hg:=hg.run;have hb:=hb.run;Va (YD hp n hi hg hb hs) λD σ H h=>by
 obtain⟨H0,ρ,r,E,e,q⟩:=h;obtain⟨ds,p,e⟩:=AT e;refine⟨H0,ρ,ds,E,p,λJ H1 s y=>?_⟩;have b:=E.grow s;refine sS b ?_ e q;refine y _ yZ (λa ha=>?_) (λa o u ha=>jC b (λvs z=>by rw[ha]at z;cases z) (λvs z=>by rw[ha]at z;cases z)) λa vs ha=>jC b (λvs z=>by rw[ha]at z;cases z) (λvs z=>by rw[ha]at z;cases z);unfold gA;split
 ·rename_i l;obtain⟨i,c,e1,j,e2⟩:=l;obtain⟨v,e3,f⟩:=E.val i _ e1;rw[e2]at e3;cases e3;cases c with
  |o ds=>obtain⟨g,vs,d,q,_⟩:=f;cases d;rw[ha]at q;cases q
  |m ds _=>obtain⟨g,vs,d,q,_⟩:=f;cases d;rw[ha]at q;cases q
  |_=>cases j
 ·rfl⟩
theorem bQ.lend{ρ:Ev}{ds:U Dt}(E:bQ K H0 H σ ρ)(h:ρ[i]?=Z (Z (.o ds))):bQ K H0 H σ (ρ.set i (Z (.l ds))):=by
 have back:∀(j:Nat) (b:Bx),(ρ.set i (Z (.l ds)))[j]?=Z (Z b)->(j=i/\b=.l ds)\/(j≠i/\ρ[j]?=Z (Z b)):=λj b e=>by
  rcases BA e with⟨rfl,e',_⟩|⟨f,e'⟩
  ·cases e';exact .inl ⟨rfl,rfl⟩
  ·exact .inr ⟨f,e'⟩
 refine⟨by rw[ky];exact E.len,λj b e=>?_,λj k c a b e1 d e2 e3 n g=>?_,E.base,λj c a e1 d e2=>?_⟩
 ·rcases back j b e with⟨rfl,rfl⟩|⟨f,e'⟩
  ·obtain⟨v,e1,a,vs,e2,q,r⟩:=E.val _ _ h;exact⟨v,e1,a,vs,e2,.inl q,r⟩
  ·exact E.val j b e'
 ·rcases back j _ e1 with⟨rfl,z⟩|⟨f,e'⟩
  ·subst z;cases d
  ·rcases back k _ e3 with⟨rfl,z⟩|⟨p,m⟩
   ·exact E.own j _ c a _ e' d e2 h Δ g
   ·exact E.own j k c a b e' d e2 m n g
 ·rcases back j _ e1 with⟨rfl,z⟩|⟨f,e'⟩
  ·subst z;cases d
  ·exact E.new j c a e' d e2
def sU(i:Nat)(gt:Dt->Ev->O Ev)(gb:Ev->O Ap)(ρ:Ev):O Ap:=match ρ[i]? with
 |some (Z (.o ds))=>rR gt gb ds (ρ.set i (Z (.l ds)))
 |some (Z (.l ds))=>rR gt gb ds ρ
 |some (Z b)=>(G1 b).bind λds=>rR gt gb ds ρ
 |_=>Y
theorem Zi{ρ:Ev}{ds:U Dt}(E:bQ X.K H0 H σ ρ)(h:ρ[i]?=Z (Z (.l ds))):∃a vs,σ[i]?=Z (Z (.ref a))/\uZ X.K H a vs/\B1 X.K (FX X.K a) ds (gA H σ ρ):=by
 obtain⟨v,e1,a,vs,rfl,q,r⟩:=E.val i _ h;have e:gA H σ ρ a=H a:=by
  unfold gA;split
  ·rename_i f;obtain⟨j,c,e2,d,e3⟩:=f;have:=E.own j i c a _ e2 d e3 h Δ e1;subst this;rw[h]at e2;cases e2;cases d
  ·rfl
 refine⟨a,vs,e1,.inl q,.list (.inl ?_) (r.part (λb o u hb=>jC E (λvs z=>by rw[hb]at z;cases z) (λvs z=>by rw[hb]at z;cases z)) λb g hb=>jC E (λvs z=>by rw[hb]at z;cases z) (λvs z=>by rw[hb]at z;cases z))⟩;rcases q with q|⟨o,q⟩
 ·exact .inl (e.trans q)
 ·exact .inr ⟨o,e.trans q⟩
theorem zc(i:Nat){p:Pos}{gt:Dt->Ev->O Ev}{gb:Ev->O Ap}(hp:PassesOwn (A8 X.prog X.w) X.A X.env X.xe)(P:X.calm=true)(hg:Yo X tg gt)(hb:WT X body gb)(I:X.N[i]?=Z x:=by rfl)(J:Yk X.env.scope x:=by first|exact kc rfl|exact jv (kc Δ)|exact jv (jv Δ))(L:(x==("__debug__":AJ))=false:=by decide)(M:(x==("__classdict__":AJ))=false:=by decide)(hs:∀y,foldedSetIterable (.Name x p) X.env y=pure y:=by intro _;rfl):Ou X (.For tg (.Name x p) body [] pos) (sU i gt gb):=⟨have hg:=hg.run;have hb:=hb.run;Va (YD hp P (R7 (uY (i:=i) I J L M)) hg hb hs) λD σ H h=>by
 obtain⟨H0,ρ,r,E,e,q⟩:=h;unfold sU at e;split at e
 ·rename_i ds j;have F:=E.lend j;have hi:i<ρ.length:=(List.getElem?_eq_some_iff.mp j).1;obtain⟨a,vs,e1,sq,Y⟩:=Zi F (Fq _ hi);exact⟨_,e1,.inl ⟨a,rfl,⟨vs,sq⟩,sS F Y e q⟩⟩
 ·rename_i ds j;obtain⟨a,vs,e1,sq,Y⟩:=Zi E j;exact⟨_,e1,.inl ⟨a,rfl,⟨vs,sq⟩,sS E Y e q⟩⟩
 ·rename_i b K Q j;obtain⟨ds,f,e⟩:=AT e;obtain⟨v,e1,s⟩:=E.val i _ j;have t:∀b o u,H b=Z (.uK o u)->gA H σ ρ b=H b:=λb o u hb=>jC E (λvs z=>by rw[hb]at z;cases z) (λvs z=>by rw[hb]at z;cases z);have C:∀b G,H b=Z (.tup G)->gA H σ ρ b=H b:=λb G hb=>jC E (λvs z=>by rw[hb]at z;cases z) (λvs z=>by rw[hb]at z;cases z);cases b with
  |z d=>
   cases d with
   |tup g=>
    cases f;simp only[bh,AW]at s;obtain⟨a,vs,rfl,c,B⟩:=s;refine⟨_,e1,.inr (.inl ⟨a,rfl,⟨vs,c⟩,sS E (.tup ?_ (B.part t C)) e q⟩)⟩;rcases c with (c|⟨o,c⟩)|c
    ·exact .inl (.inl ((C _ _ c).trans c))
    ·exact .inl (.inr ⟨o,(t _ _ _ c).trans c⟩)
    ·exact .inr c
   |lst g=>
    cases f;simp only[bh,AW]at s;obtain⟨a,vs,rfl,c,B⟩:=s;refine⟨_,e1,.inl ⟨a,rfl,⟨vs,c.sq⟩,sS E (.list ?_ (B.part t C)) e q⟩⟩;rcases c with⟨o,c⟩|c
    ·exact .inl (.inr ⟨o,(t _ _ _ c).trans c⟩)
    ·exact .inr c
   |str x=>
    cases f;simp only[bh,AW]at s;obtain⟨rfl,_⟩:=s;exact⟨_,e1,.inr (.inr ⟨x,rfl,sS E (.str x) e q⟩)⟩
   |_=>cases f
  |l g=>cases f
  |o g=>exact absurd Δ (K g)
  |n g=>cases f
  |m g=>cases f
 ·cases e⟩
end
def C7(a:U (AJ×A1)):U (AJ×A1)->Prop
 |[]=>True
 |(n,c)::r=>a.lookup n=Z c/\C7 a r
theorem C7.get{a:U (AJ×A1)}:∀{cl:U (AJ×A1)},C7 a cl->∀{x:AJ} {c:A1},cl.lookup x=Z c->a.lookup x=Z c
 |[],_,_,_,e=>by cases e
 |(n,d)::r,h,x,c,e=>by
  rw[List.lookup_cons]at e;by_cases hx:x==n
  ·simp only[hx]at e;cases e;have:x=n:=by simpa using hx
   rw[this];exact h.1
  ·have hx:(x==n)=false:=by simpa using hx
   simp only[hx]at e;exact C7.get h.2 e
structure LS (X:Cx) (scope:Scope) (cl:List (Str×Addr)) (x:Str) (i:Nat):Prop where
 n:X.N[i]?=some x
 k:X.env.kindOf x=some .cell\/X.env.kindOf x=some .free
 k':(relabel scope X.env).names.lookup x=some .cell\/(relabel scope X.env).names.lookup x=some .free
 c:∃c,cl.lookup x=some c
def Ig(X:Cx)(scope:Scope)(cl:U (AJ×A1)):An->U Nat->Prop
 |[],[]=>True
 |x::xs,i::is=>LS X scope cl x i/\Ig X scope cl xs is
 |_,_=>False
theorem Ig.get{X:Cx}{scope:Scope}{cl:U (AJ×A1)}:∀{xs:An} {is:U Nat},Ig X scope cl xs is->xs.length=is.length/\∀(j:Nat) (x:AJ),xs[j]?=Z x->∃i,is[j]?=Z i/\LS X scope cl x i
 |[],[],_=>⟨rfl,λj x e=>by simp at e⟩
 |x::xs,i::is,h=>by
  obtain⟨h1,h2⟩:=h;obtain⟨l,g⟩:=Ig.get h2;refine⟨by simp[l],λj y e=>?_⟩;cases j with
  |zero=>simp at e;subst e;exact⟨i,rfl,h1⟩
  |succ j=>obtain⟨k,e1,e2⟩:=g j y (by simpa using e);exact⟨k,by simpa using e1,e2⟩
 |[],_::_,h=>h.elim
 |_::_,[],h=>h.elim
def HU(a:U (AJ×NameKind))(x:AJ):Bool:=match a.lookup x with
 |some .cell=>true
 |_=>false
def Bh(X:Cx)(a:An)(scope:Scope)(cl:U (AJ×A1))(C:A1)(s₀:A2)(H₀:Hp)(fp:U A1):Cx:=
 { X with N:=a,s₀:=s₀,H₀:=H₀,env:=compEnvC scope (cellsFrom (C+1) scope.names cl) C X.env,outer:=X.stack,ex:=fp,fn:=HU scope.names,pn:=[],xe:=λ_ _=>False }
structure GG (h:Heap) (cs:List (Str×Addr)):Prop where
 inj:∀x y c,cs.lookup x=some c->cs.lookup y=some c->x=y
 cell:∀x c,cs.lookup x=some c->∃v,h.IsCell c v
theorem lB{n:AJ}{a:α}{l:U (AJ×α)}(h:x≠n):((n,a)::l).lookup x=l.lookup x:=by
 rw[List.lookup_cons,beq_eq_false_iff_ne.mpr h]
theorem Zj:∀(i:U (AJ×NameKind)) (h:A6) (d:U (AJ×A1)),GG h d->GG (pushCells h i) (cellsFrom h.objs.size i d)
 |[],_,_,x=>x
 |(n,k)::r,h,d,x=>by
  unfold pushCells cellsFrom;split
  ·have g:∀y c,d.lookup y=Z c->c≠h.objs.size:=λy c e=>let ⟨_,q⟩:=x.cell y c e;z4 q.lt;have:=Zj r (h.push { cls:=.type "cell",data:=.cell Y }) ((n,h.objs.size)::d) ⟨λy z c e1 e2=>?_,λy c e=>?_⟩
   ·rwa [qr]at this
   ·by_cases a:y=n<;>by_cases f:z=n
    ·rw[a,f]
    ·subst a;rw[kD]at e1;rw[lB f]at e2;cases e1;exact absurd Δ (g _ _ e2)
    ·subst f;rw[kD]at e2;rw[lB a]at e1;cases e2;exact absurd Δ (g _ _ e1)
    ·rw[lB a]at e1;rw[lB f]at e2;exact x.inj y z c e1 e2
   ·by_cases a:y=n
    ·subst a;rw[kD]at e;cases e;exact⟨Y,_,zv _ rfl,rfl⟩
    ·rw[lB a]at e;obtain⟨v,q⟩:=x.cell y c e;exact⟨v,q.keeps λb o e=>ze _ e⟩
  ·exact Zj r h d x
theorem zf:∀(b:U (AJ×NameKind)) (n:Nat) (a:U (AJ×A1)) (x:AJ) (c:A1),(cellsFrom n b a).lookup x=Z c->a.lookup x=Z c\/n<=c
 |[],_,_,_,_,e=>.inl e
 |(m,k)::r,n,a,x,c,e=>by
  unfold cellsFrom at e;split at e
  ·rcases zf r _ _ x c e with h|h
   ·by_cases hx:x=m
    ·subst hx;rw[kD]at h;cases h;exact .inr (zk _)
    ·rw[lB hx]at h;exact .inl h
   ·exact .inr (by omega)
  ·exact zf r _ _ x c e
theorem K8:∀(c:U (AJ×NameKind)) (n:Nat) (a:U (AJ×A1)) (x:AJ),(x,NameKind.cell)∉c->(cellsFrom n c a).lookup x=a.lookup x
 |[],_,_,_,_=>rfl
 |(m,k)::r,n,a,x,h=>by
  unfold cellsFrom;have b:(x,NameKind.cell)∉r:=λz=>h (zh _ z);split
  ·rename_i d;rw[K8 r _ _ x b,lB λz=>h (by rw[z,<-beq_iff_eq.mp d];exact zi ..)]
  ·exact K8 r _ _ x b
theorem R8:∀(b:U (AJ×NameKind)) (n:Nat) (a:U (AJ×A1)) (x:AJ),((x,NameKind.cell)∈b\/∃c,a.lookup x=Z c)->∃c,(cellsFrom n b a).lookup x=Z c
 |[],_,_,_,h=>h.elim (λz=>by simp at z) λz=>z
 |(m,k)::r,n,a,x,h=>by
  unfold cellsFrom;split
  ·refine R8 r _ _ x ?_;by_cases hx:x=m
   ·exact .inr ⟨n,by rw[hx,kD]⟩
   ·rw[lB hx];exact h.imp_left λz=>(List.mem_cons.mp z).elim (λz=>absurd (congrArg Prod.fst z) hx) λz=>z
  ·rename_i d;exact R8 r _ _ x (h.imp_left λz=>(List.mem_cons.mp z).elim (λz=>by cases z;exact absurd Δ d) λz=>z)
theorem WX{g:A1}{Q:Env->A2->Prop}(h:Q (newEnv scope s.heap.objs.size g (cellsFrom (s.heap.objs.size+1) scope.names cl) qual Y .none (Z env) builtinsNs) { s with heap:=pushCells (s.heap.push { cls:=.type "dict",data:=.dict #[] }) scope.names }):
  A7 M A (newFunctionEnv scope g cl [] qual Y .none (Z env)) Q E s:=by
 simp only[newFunctionEnv,ye,qS];refine zd (wpAny_alloc ?_);refine zd (wpAny_layCells _ (λname a b=>by cases a==NameKind.cell<;>simp) _ _ _ _ ?_);rw[show({ s with heap:=s.heap.push { cls:=.type "dict",data:=.dict #[] } }:A2).heap.objs.size=s.heap.objs.size+1 from qr ..];rw[List.forIn_nil];exact zd (zg (zg h))
structure rT (X:Cx) (scope:Scope) (cl:List (Str×Addr)) (xs:An) (is:List Nat):Prop where
 clos:closureFor scope X.env=pure cl
 kind:scope.kind=.function
 cell:∀y∈scope.names,y.2=.cell->cl.lookup y.1=none
 names:∀y∈scope.names,y.2=.local->scope.names.lookup y.1=some .local
 sub:C7 X.env.cells cl
 has:∀x,((relabel scope X.env).names.lookup x=some .cell\/(relabel scope X.env).names.lookup x=some .free)->(x,NameKind.cell)∈scope.names\/∃c,cl.lookup x=some c
 cap:Ig X scope cl xs is
def xY(is:U Nat)(σ:L2.St):L2.St:=is.map λi=>(σ[i]?).bind λv=>v
def j8(is:U Nat)(ρ:Ev):Ev:=is.map λi=>Bc ρ i
def Yp(n m:Nat)(g:Dt->Ev->O Ev):Prop:=∀d ρ a,g d ρ=Z a->a.length=ρ.length/\∀j,j<n\/m<=j->a[j]?=ρ[j]?
def FK(n m:Nat)(g:U Dt->Ev->O Ev):Prop:=∀d ρ a,g d ρ=Z a->a.length=ρ.length/\∀j,j<n\/m<=j->a[j]?=ρ[j]?
theorem dw{m:Nat}(h:n<=i:=by decide)(h':i<m:=by decide):Yp n m (λd ρ=>Z (ρ.set i (Z (.z d)))):=λd ρ b e=>by
 cases e;exact⟨by rw[ky],λj a=>Ft _ (by omega)⟩
theorem Ed{m:Nat}:FK n m sO:=λd ρ a e=>by
 cases d with
 |nil=>cases e;exact⟨rfl,λ_ _=>Δ⟩
 |cons=>cases e
theorem eX{m:Nat}{g:Dt->Ev->O Ev}{gs:U Dt->Ev->O Ev}(h:Yp n m g)(hs:FK n m gs):FK n m (bU g gs):=λd ρ l e=>by
 cases d with
 |nil=>cases e
 |cons d ds=>
  simp only[bU]at e;obtain⟨o,e1,e⟩:=AT e;obtain⟨a,b⟩:=h _ _ _ e1;obtain⟨f,i⟩:=hs _ _ _ e;exact⟨f.trans a,λj c=>(i j c).trans (b j c)⟩
theorem K9{m k:Nat}{gs:U Dt->Ev->O Ev}(hs:FK n m gs):Yp n m (ql k gs):=λd ρ a e=>by
 cases d with
 |tup ds=>
  simp only[ql]at e;split at e
  ·exact hs _ _ _ e
  ·cases e
 |_=>cases e
def Dm(gt:Dt->Ev->O Ev)(p:Ev->O Bool)(fs:Ev->O (U Dt))(ρ:Ev):U Dt->O (U Dt)
 |[]=>Z []
 |d::ds=>(gt d ρ).bind λa=>(p a).bind λk=>if k=true then(fs a).bind λys=>(Dm gt p fs ρ ds).bind λzs=>Z (ys++zs)else Dm gt p fs ρ ds
def GM:Bx->O (U Dt)
 |.z y=>Z [y]
 |_=>Y
def Cv(gt:Dt->Ev->O Ev)(p:Ev->O Bool)(fe:Ev->O Bx)(ρ:Ev):U Dt->O (U Dt):=Dm gt p (λρ=>(fe ρ).bind GM) ρ
theorem Bj{b:Bx}{ys:U Dt}(h:GM b=Z ys):∃y,b=.z y/\ys=[y]:=by
 cases b<;>cases h;exact⟨_,rfl,rfl⟩
theorem wC{gt:Dt->Ev->O Ev}{p:Ev->O Bool}{fe:Ev->O Bx}{ρ:Ev}:∀{ds out:U Dt},Cv gt p fe ρ ds=Z out->out.length<=ds.length
 |[],_,e=>by cases e;exact zk _
 |d::ds,out,e=>by
  simp only[Cv,Dm]at e;obtain⟨f,_,e⟩:=AT e;obtain⟨k,_,e⟩:=AT e;cases k with
  |false=>
   rw[zC ZE]at e;exact ZI (wC (gt:=gt) (p:=p) (fe:=fe) e) (by simp)
  |true=>
   rw[zo rfl]at e;obtain⟨ys,a,e⟩:=AT e;obtain⟨zs,c,e⟩:=AT e;obtain⟨b,_,a⟩:=AT a;obtain⟨y,_,rfl⟩:=Bj a;cases e;simpa using wC (gt:=gt) (p:=p) (fe:=fe) c
def CA(X:Cx)(ifs:U Expr)(p:Ev->O Bool):Prop:=(ifs=[]/\p=λ_=>Z true)\/∃c,ifs=[c]/\PB X c p
structure vD (X:Cx) (ifs:List Expr) (p:Ev->Option Bool):Prop where
 run:CA X ifs p
section
variable{xs:An}{gt:Dt->Ev->O Ev}{p:Ev->O Bool}{fe:Ev->O Bx}{fi:Ev->O (U Dt)}
theorem Zk{m:Hp}{d:A2}(a:L2.AU X AN σ m d)(O:rT X scope cl xs is)(w:∀b∈fp,rN X AN m b)(D:∀b∈fp,b<d.heap.objs.size):
  L2.AU (Bh X (xs++ts) scope cl d.heap.objs.size d m fp) [] (xY is σ++List.replicate ts.length Y) m { d with heap:=pushCells (d.heap.push { cls:=.type "dict",data:=.dict #[] }) scope.names }:=by
 obtain⟨E,L⟩:=O.cap.get;have f:=O.sub;have I:(d.heap.push { cls:=.type "dict",data:=.dict #[] }).objs.size=d.heap.objs.size+1:=qr ..;have s:∀b o,d.heap.get? b=Z o->(pushCells (d.heap.push { cls:=.type "dict",data:=.dict #[] }) scope.names).get? b=Z o:=λb o e=>pushCells_keeps _ _ b o (ze _ e);have A:GG (pushCells (d.heap.push { cls:=.type "dict",data:=.dict #[] }) scope.names) (cellsFrom (d.heap.objs.size+1) scope.names cl):=by
  rw[<-I];refine Zj _ _ _ ⟨λx y c e1 e2=>a.ok.inj x y c (f.get e1) (f.get e2),λx c e=>?_⟩;obtain⟨v,q⟩:=a.cell x c (f.get e);exact⟨v,q.keeps λb o e=>ze _ e⟩
 have B:∀x c,(cellsFrom (d.heap.objs.size+1) scope.names cl).lookup x=Z c->X.env.cells.lookup x=Z c\/d.heap.objs.size<c:=λx c e=>(zf _ _ _ x c e).imp_left f.get;refine⟨⟨a.ok.mod,O.kind,a.ok.glob,a.ok.blt,zk _,A.inj,λx hx=>R8 _ _ _ x (O.has x hx),λx c hx e=>?_,a.ok.hd,a.ok.frames,.inl rfl,λb hb=>⟨z4 (D b hb),λx c e=>?_⟩,a.bs,ZI a.ok.bsz a.sz,λb o e hb=>?_,λb hb W=>?_,a.stack,a.UL⟩,
  rfl,a.bare,Un.kept s,⟨_,(Heap.Ns.new d.heap (.type "dict")).keeps (pushCells_keeps _ _),λj x v e1 e2 _=>?_⟩,A.cell,a.hok.fresh (zk _),λx c e=>(B x c e).elim (a.qL x c) λh=>a.hok.fresh (j0 h),λq G=>absurd (show q∈([]:U (A1×AE)) from G) (by simp),a.hok.kept s,?_⟩
 ·refine(zf _ _ _ x c e).elim (λh=>?_) λh=>j0 h;have hx:(x,NameKind.cell)∈scope.names:=by
   have hx:HU scope.names x=true:=hx;unfold HU at hx;split at hx
   ·rename_i q;exact mem_of_lookup q
   ·cases hx
  rw[O.cell _ hx rfl]at h;cases h
 ·rcases B x c e with h|h
  ·exact(w b hb).2.2.2.2.1 x c h
  ·exact ki (Nat.lt_trans (D b hb) h)
 ·obtain⟨_,_,_,z,_⟩:=w b hb;rcases z with z|z
  ·exact a.ok.Yv b o e z
  ·exact absurd (ZT (zD e) (ZI a.ok.bsz z)) (JO _)
 ·obtain⟨_,N,H,_⟩:=w b hb;rcases List.mem_cons.mp (a.KD b W)with z|z
  ·exact N z
  ·exact H z
 ·have C:j<is.length:=by
   by_cases C:j<is.length
   ·exact C
   ·rw[qv (by simp[xY];omega)]at e2;rw[QQ]at e2;split at e2<;>cases e2
  have Q:xs[j]?=Z x:=by
   have e1:(xs++ts)[j]?=Z x:=e1;rw[ZO (by omega)]at e1;exact e1
  obtain⟨i,P,g⟩:=L j x Q;have e3:σ[i]?=Z (Z v):=by
   rw[ZO (by simp[xY];omega)]at e2;unfold xY at e2;rw[Zp,P]at e2;cases q:σ[i]? with
   |none=>rw[Option.map_some,q]at e2;cases e2
   |some o=>
    rw[Option.map_some,q]at e2;have:o=Z v:=by simpa using e2
    rw[this]
  have M:Yk X.env.scope x:=by
   rcases g.k with k|k
   ·exact .inr (.inl k)
   ·exact .inr (.inr k)
  obtain⟨m',a0,J⟩:=a.loc;obtain⟨u,r,l⟩:=J i x v g.n e3 M;refine⟨u,r,?_⟩;rcases l with⟨k,_⟩|⟨k,c,K,S⟩
  ·rcases g.k with t|t<;>(rw[k]at t;cases t)
  ·obtain⟨c',p⟩:=g.c;have:=f.get p;rw[K]at this;cases this;refine .inr ⟨g.k',c,(K8 _ _ _ x λz=>by rw[O.cell _ z rfl]at p;cases p).trans p,?_⟩;obtain⟨o,ho,F⟩:=S;exact⟨o,s c o ho,F⟩
 ·show(xY is σ++List.replicate ts.length Y).length=(xs++ts).length;simp[xY,E]
theorem bQ.caps{ρ:Ev}(E:bQ K H0 H σ ρ)(is:U Nat)(n:Nat):bQ K H H (xY is σ++List.replicate n Y) (j8 is ρ++List.replicate n Y):=by
 have f:∀(j:Nat) c,(j8 is ρ++List.replicate n Y)[j]?=Z (Z c)->uV c=false:=λj c e=>by
  by_cases g:j<is.length
  ·rw[ZO (by simp[j8];omega)]at e;unfold j8 at e;rw[Zp]at e;cases q:is[j]? with
   |none=>rw[q]at e;cases e
   |some i=>
    rw[q]at e;have:Bc ρ i=Z c:=by simpa using e
    exact yV this
  ·rw[qv (by simp[j8];omega),QQ]at e;split at e<;>cases e
 refine⟨by simp[xY,j8],λj b e=>?_,λj k c a b e d=>absurd d (by rw[f j c e];exact ZE),AV.refl H,λj c a e d=>absurd d (by rw[f j c e];exact ZE)⟩;by_cases g:j<is.length
 ·rw[ZO (by simp[j8];omega)]at e;rw[ZO (by simp[xY];omega)];unfold j8 at e;unfold xY;rw[Zp]at e ⊢;cases q:is[j]? with
  |none=>rw[q]at e;cases e
  |some i=>
   rw[q]at e;have:Bc ρ i=Z b:=by simpa using e
   obtain⟨v,e1,r⟩:=Om E this;exact⟨v,by simp[e1],r⟩
 ·rw[qv (by simp[j8];omega),QQ]at e;split at e<;>cases e
theorem bQ.forget{ρ ρ':Ev}(E:bQ K H0 H σ ρ')(g:ρ'.length=ρ.length)(h:∀(j:Nat) b,ρ[j]?=Z (Z b)->ρ'[j]?=Z (Z b)):bQ K H0 H σ ρ:=
 ⟨E.len.trans g,λj b e=>E.val j b (h j b e),λi j c a b e1 d e2 e3 l f=>E.own i j c a b (h _ _ e1) d e2 (h _ _ e3) l f,E.base,λi c a e1 d e2=>E.new i c a (h _ _ e1) d e2⟩
structure DL (Hb:Hp) (σ:L2.St) (ρ:Ev) (n:Nat):Prop where
 own:∀(j:Nat) c,ρ[j]?=some (some c)->uV c=false
 lt:∀(j:Nat) b,ρ[j]?=some (some b)->j<n
 old:∀(j:Nat) c a,ρ[j]?=some (some c)->loose c=true->σ[j]?=some (some (.ref a))->Hb a≠none
def Fx(σ σ':L2.St)(ρ:Ev):Prop:=∀(j:Nat) c,loose c=true->ρ[j]?=Z (Z c)->σ'[j]?=σ[j]?
theorem DL.fx{d:Hp}{σ':L2.St}{ρ:Ev}(P:DL d σ ρ n)(f:Fx σ σ' ρ):DL d σ' ρ n:=⟨P.own,P.lt,λj c a e b ea=>P.old j c a e b (by rw[<-f j c b e];exact ea)⟩
theorem EV{ρ:Ev}(E:bQ K H0 H σ ρ)(j:Nat)(c:Bx)(a:A1)(e:ρ[j]?=Z (Z c))(h:loose c=true)(ea:σ[j]?=Z (Z (.ref a))):H a≠Y:=λz=>by
 obtain⟨v,e1,b⟩:=E.val j _ e;rw[ea]at e1;cases e1;cases c with
 |z d=>cases h
 |l f=>
  obtain⟨g,vs,e2,q,_⟩:=b;cases e2;rcases q with q|⟨o,q⟩<;>(rw[z]at q;cases q)
 |n f=>
  obtain⟨g,vs,e2,q,_⟩:=b;cases e2;rcases q with q|⟨o,q⟩<;>(rw[z]at q;cases q)
 |o f=>
  obtain⟨g,vs,e2,q,_⟩:=b;cases e2;rw[z]at q;cases q
 |m f _=>
  obtain⟨g,vs,e2,q,_⟩:=b;cases e2;rw[z]at q;cases q
theorem bQ.grown{f:Hp}{ρ:Ev}(E:bQ K f H σ ρ)(P:DL f σ ρ n)(h:f D=Y)(kp:Kp H (B5 H D o)):bQ K f (B5 H D o) σ ρ:=by
 refine⟨E.len,λj b e=>?_,λj k c a b e p=>absurd p (by rw[P.own j c e];exact ZE),λc o e=>?_,λj c a e p=>absurd p (by rw[P.own j c e];exact ZE)⟩
 ·obtain⟨v,ev,i⟩:=E.val j b e;refine⟨v,ev,?_⟩;cases b with
  |z d=>exact AW.kp kp i
  |o g=>have:=P.own j _ e;cases this
  |m g _=>have:=P.own j _ e;cases this
  |n g=>
   obtain⟨a,vs,rfl,q,s⟩:=i;refine⟨a,vs,rfl,?_,s.kp kp⟩;have ha:a≠D:=λz=>P.old j _ _ e Δ ev (by rw[z];exact h);exact q.imp (λq=>by rw[aR ha];exact q) λ⟨o,q⟩=>⟨o,by rw[aR ha];exact q⟩
  |l g=>
   obtain⟨a,vs,rfl,q,s⟩:=i;refine⟨a,vs,rfl,?_,s.kp kp⟩;have ha:a≠D:=λz=>P.old j _ _ e Δ ev (by rw[z];exact h);exact q.imp (λq=>by rw[aR ha];exact q) λ⟨o,q⟩=>⟨o,by rw[aR ha];exact q⟩
 ·rw[aR (dD e h)];exact E.base c o e
def Zm(X:Cx)(el:A1->Env->Sem Unit)(fs:Ev->O (U Dt))(Ac:A1->Hp->U Dt->HO->Prop)(N n:Nat):Prop:=∀(AN:U (A1×AE)) (s:A2) (σ:L2.St) (H a:Hp) (ρ:Ev) (D:A1) (o:HO) (b ys:U Dt),L2.AU X AN σ H s->bQ X.K a H σ ρ->DL a σ ρ n->a D=Y->fs ρ=Z ys->H D=Z o->Ac D H b o->b.length+ys.length<=N →
 A7 (A8 X.prog X.w) X.A (el D X.env) (λ_ s'=>∃ σ' H' o',L2.AU X AN σ' H' s'/\bQ X.K a H' σ' ρ/\Fx σ σ' ρ/\H' D=Z o'/\Ac D H' (b++ys) o') X.xe s
theorem Zn{fs:Ev->O (U Dt)}{Ac:A1->Hp->U Dt->HO->Prop}{N:Nat}(h:∀(AN:U (A1×AE)) (s:A2) (σ:L2.St) (H c:Hp) (ρ:Ev) (D:A1) (o:HO) (b ys:U Dt),L2.AU X AN σ H s->bQ X.K c H σ ρ->fs ρ=Z ys->H D=Z o->Ac D H b o->b.length+ys.length<=N →
  A7 (A8 X.prog X.w) X.A (el D X.env) (λ_ s'=>∃a o',L2.AU X AN σ (B5 a D o') s'/\AV H a/\Kp a (B5 a D o')/\Ac D (B5 a D o') (b++ys) o') X.xe s):Zm X el fs Ac N n:=λAN s σ H c ρ D o b ys I E P d e1 e2 a1 l=>by
 refine QN (h AN s σ H c ρ D o b ys I E e1 e2 a1 l) (λ_ s' ⟨a,o',I',s9,kp,a'⟩=>?_) λ_ _ z=>z;exact⟨σ,_,o',I',(E.grow s9).grown P d kp,λ_ _ _ _=>Δ,bJ,a'⟩
structure Ve (B:Around->Bool->Prop) (P:Program) (w:World) (K:B0) (tg:Expr) (J:It) (fp:List Addr) (it:Addr) (tn:Nat->Heap->Prop):Prop where
 obj:∀i h,tn i h->∀b∈fp,∃o,h.get? b=some o/\∀v,o.data≠.cell v
 keep:∀i h h',tn i h->(∀b∈fp,∀o,h.get? b=some o->h'.get? b=some o)->tn i h'
 item:∀(X:Cx),X.prog=P->X.w=w->X.K=K->B X.A X.calm->∀(i:Nat) (AN:List (Addr×Obj)) (s:Shared) (σ:L2.St) (H:Hp) (E:B8),L2.AU X AN σ H s->(∀b∈fp,rN X AN H b)->tn i s.heap->J.go i H →
  wpAny (model P w) X.A (pyNext (.ref it)) (λr s1=>∃u,r=some u ∧
   wpAny (model P w) X.A (letOwnedTupleGo tg (.ref it) u) (λ_ s2=>∃x H',L2.AU X AN σ H' s2/\As x u/\J.yld i H x H'/\tn (i+1) s2.heap/\∀b∈fp,H' b=none) E s1) E s
 done:∀(X:Cx),X.prog=P->X.w=w->X.K=K->B X.A X.calm->∀(i:Nat) (AN:List (Addr×Obj)) (s:Shared) (σ:L2.St) (H:Hp) (E:B8),L2.AU X AN σ H s->(∀b∈fp,rN X AN H b)->tn i s.heap->J.stop i H →
  wpAny (model P w) X.A (pyNext (.ref it)) (λr s1=>r=none/\L2.AU X AN σ H s1) E s
 self:∀(A:Around) (i:Nat) (s:Shared) (Q:B8) (E:B8),tn i s.heap->Q (.ref it) s->wpAny (model P w) A (pyIter (.ref it)) Q E s
abbrev Jz:A5->Bool->Prop:=λ_ c=>c=true
theorem Oz{tn:Nat->A6->Prop}(T:C3 P w K tg J fp it tn):Ve Jz P w K tg J fp it tn:=⟨T.obj,T.keep,T.item,T.done,T.self⟩
theorem WY{F:Expr}{d:Nat}{e7:Pos}{Ac:A1->Hp->U Dt->HO->Prop}{fs:Ev->O (U Dt)}{N m:Nat}{l:Hp}{tn:Nat->A6->Prop}{ds o0 out:U Dt}{ρ:Ev}{R:Result->A2->Prop}(c6:B X.A X.calm)(hx:X.xe=λ_ _=>False)(N7:FG X tgt gt)(f4:CA X ifs p)(f2:Zm X el fs Ac N m)(f6:Yp n m gt)(c8:n<=m)(I:L2.AU X AN σ H s)(E:bQ X.K l H σ ρ)(P:DL l σ ρ n)(hD:l D=none)(d1:H D=Z o)(hA:Ac D H o0 o)(T:Ve B X.prog X.w X.K tgt J fp it tn)(st:tn 0 s.heap)(hf:∀b∈fp,rN X AN H b)(Y:B1 X.K J ds l)(d8:Dm gt p fs ρ ds=Z out)(hN:o0.length+out.length<=N)(a6:∀{D:A1} {H H':Hp} {t:U Dt} {o:HO},Kp H H'->Ac D H t o->Ac D H' t o)(f5:∀(it:A0) (D:A1) (env:Env),compTurn F d it (.ref D) env=(standAt e7 >>= λ_=>pyNext it >>= λr=>match r with
   |none=>pure (.done .next)
   |some v=>letOwnedTupleGo tgt it v >>= λ_=>assign tgt env v >>= λ_=>(forIn ifs true λc r=>if r=true then isTrue c env (eval c env) >>= λok=>pure (ForInStep.yield ok)else pure (ForInStep.yield r)) >>= λok=>if ok=true then el D env >>= λ_=>again (.compLoop F d it (.ref D) env)else again (.compLoop F d it (.ref D) env)))(d3:∀{it b3:A0} {env:Env} {Q:Fin->A2->Prop} {E:B8} {s:A2},A7 (A8 X.prog X.w) X.A ((compTurn F d it b3 env).onRaise (λx=>noteFrame x env >>= λ_=>theTreesLotGoes x)) Q E s->A7 (A8 X.prog X.w) (X.A.under (.compLoop F d it b3 env)) ((A8 X.prog X.w).den (.compLoop F d it b3 env)) Q E s)(hR:∀s' σ' H' o',L2.AU X AN σ' H' s'->bQ X.K l H' σ' ρ->Fx σ σ' ρ->H' D=Z o'->Ac D H' (o0++out) o'->R (.ok .next) s'):
  AF (A8 X.prog X.w) X.A (.compLoop F d (.ref it) (.ref D) X.env) R s:=by
 have a7:∀{H':Hp},(∀b∈fp,H' b=none)->∀b∈fp,rN X AN H' b:=λ{H'} hn b hb=>⟨hn b hb,(hf b hb).2⟩;refine codeAny_loop Δ (λk s'=>∃(i:Nat) (σ':L2.St) (H':Hp) (t o2:U Dt) (o:HO),k=ds.length-i/\i<=ds.length/\L2.AU X AN σ' H' s'/\tn i s'.heap/\(∀b∈fp,H' b=none)/\bQ X.K l H' σ' ρ/\Fx σ σ' ρ/\H' D=Z o/\Ac D H' t o/\Dm gt p fs ρ (ds.drop i)=Z o2/\t++o2=o0++out) ?_ ds.length
  ⟨0,σ,H,o0,out,o,by simp,QR _,I,st,λb hb=>(hf b hb).1,E,λ_ _ _ _=>Δ,d1,hA,by simpa using d8,rfl⟩
 rintro k s4 ⟨i,a1,H4,t,o2,o,rfl,hi,I4,c0,c4,E4,F4,a2,r4,g,ho⟩;have P4:=P.fx F4;refine d3 (wpAny_noted ?_);rw[f5];obtain⟨y1,y2⟩:=Y i H4 E4.base;by_cases a4:i<ds.length
 ·have hd:ds[i]?=Z ds[i]:=by simp[a4]
  obtain⟨go,yl⟩:=y1 _ hd;rw[List.drop_eq_getElem_cons a4]at g;simp only[Dm]at g;obtain⟨y,e1,g⟩:=AT g;obtain⟨k,ek,g⟩:=AT g;obtain⟨f8,b0⟩:=f6 _ _ _ e1;have back:∀{a3:L2.St} {H5:Hp},bQ X.K l H5 a3 y->bQ X.K l H5 a3 ρ:=λE5=>E5.forget f8 λj b e=>by rw[b0 j (.inl (P.lt j b e))];exact e
  refine zd (yv (zd ?_));refine ji (T.item X Δ Δ Δ c6 i AN s4 a1 H4 _ I4 (a7 c4) c0 go) λr s5 ⟨u,hr,h5⟩=>?_;subst hr;refine zd (ji h5 λ_ s6 ⟨x,H6,I6,r6,y6,st6,fr6⟩=>?_);obtain⟨sm,rx⟩:=yl x H6 y6;have E4:=E4.grow sm;have a2:=sm _ _ a2;have r4:=a6 (.of sm) r4;have f1:=I6.pinned (a7 fr6) (T.obj _ _ st6);have ha:=N7 _ s6 a1 H6 x u (λσ' H'=>H'=H6/\bQ X.K l H6 σ' y/\Lo a1 ρ σ' y) f1 r6 ⟨l,ρ,ds[i],y,E4,rx,e1,λσ' E' L'=>⟨rfl,E',L'⟩⟩;rw[hx]at ha;refine zd (QN ha (λ_ s7 h7=>?_) λ_ _ z=>z.elim);obtain⟨L,H7,I7,rfl,E7,L7⟩:=h7;have P7:DL l L y m:=by
   refine⟨λj c e=>?_,λj c e=>?_,λj c a e C ea=>?_⟩
   ·cases c with
    |o ds=>exact P.own j _ (L7 j _ Δ e).1
    |m ds _=>exact P.own j _ (L7 j _ Δ e).1
    |_=>rfl
   ·refine Nat.lt_of_not_le λh=>?_;rw[b0 j (.inr h)]at e;exact absurd (ZT (P.lt j c e) c8) (Nat.not_lt.mpr h)
   ·obtain⟨e',ee⟩:=L7 j c C e;exact P4.old j c a e' C (by rw[<-ee];exact ea)
  have c3:∀{a3:L2.St},Fx L a3 y->Fx σ a3 ρ:=λf j c C e=>by
   have e':y[j]?=Z (Z c):=by rw[b0 j (.inl (P.lt j c e))];exact e
   exact(f j c C e').trans ((L7 j c C e').2.trans (F4 j c C e))
  have ht:A7 (A8 X.prog X.w) X.A (forIn ifs true λc r=>if r=true then do let ok <-isTrue c X.env (eval c X.env);pure (ForInStep.yield ok)else pure (ForInStep.yield r))
    (λok M=>ok=k/\∃q,L2.AU X (AN++Ax fp s6.heap) L q M/\AV H7 q) (notedBy (A8 X.prog X.w) X.A X.env λe s'=>R (.error e) s') s7:=by
   rcases f4 with⟨rfl,rfl⟩|⟨c,rfl,hc⟩
   ·cases ek;exact wpAny_tests_nil ⟨rfl,H7,I7,AV.refl H7⟩
   ·refine wpAny_tests_one ?_;have:=hc _ s7 L H7 (λb q=>b=k/\AV H7 q) I7 ⟨l,y,k,E7,ek,λq M=>⟨rfl,M⟩⟩;rw[hx]at this;exact QN this (λb M ⟨q,I8,eb,s8'⟩=>⟨eb,q,I8,s8'⟩) λ_ _ z=>z.elim
  refine zd (QN ht (λok M h8=>?_) λ_ _ z=>z);obtain⟨rfl,q,I8,S⟩:=h8;have Zo:∀{a0:L2.St} {G:Hp} {s9:A2},L2.AU X (AN++Ax fp s6.heap) a0 G s9->L2.AU X AN a0 G s9/\tn (i+1) s9.heap/\∀b∈fp,G b=none:=λ{a0 G s9} W=>by
   refine⟨W.u5,T.keep _ _ _ st6 λb hb o e=>(W.pin (b,o) (zI _ (zI _ (tu hb e)))).1,λb hb=>?_⟩;obtain⟨o,e,d⟩:=T.obj _ _ st6 b hb;exact(W.pin (b,o) (zI _ (zI _ (tu hb e)))).2.1
  cases ok with
  |false=>
   rw[zC ZE]at g;obtain⟨W,e6,f7⟩:=Zo I8;exact zg ⟨rfl,ds.length-(i+1),by omega,i+1,L,q,t,o2,o,rfl,a4,W,e6,f7,back (E7.grow S),c3 (λ_ _ _ _=>Δ),S _ _ a2,a6 (.of S) r4,g,ho⟩
  |true=>
   rw[zo rfl]at g;obtain⟨ys,eb,g⟩:=AT g;obtain⟨zs,e5,g⟩:=AT g;cases g;have C:=congrArg List.length ho;simp only[z5]at C;have he:=f2 _ M L q l y D o t ys I8 (E7.grow S) P7 hD eb (S _ _ a2) (a6 (.of S) r4) (by omega);rw[hx]at he;refine zd (QN he (λ_ g0 d0=>?_) λ_ _ z=>z.elim);obtain⟨a0,G,o',f3,E9,F9,e3,a5⟩:=d0;obtain⟨f0,d2,e0⟩:=Zo f3;exact zg ⟨rfl,ds.length-(i+1),by omega,i+1,a0,G,t++ys,zs,o',rfl,a4,f0,d2,e0,back E9,c3 F9,e3,a5,e5,by rw[QE];exact ho⟩
 ·have b9:ds.length<=i:=by omega
  rw[List.drop_eq_nil_of_le b9]at g;cases g;refine zd (yv (zd ?_));refine ji (T.done X Δ Δ Δ c6 i AN s4 a1 H4 _ I4 (a7 c4) c0 (y2 b9)) λr s5 ⟨hr,I5⟩=>?_;subst hr;rw[ZU]at ho;exact zg (hR s5 a1 H4 o I5 E4 F4 a2 (by rw[<-ho];exact r4))
theorem JB{d:Expr}{mk:Sem A0}{o0:AE}{O0:HO}{Ac:A1->Hp->U Dt->HO->Prop}{fs:Ev->Option (U Dt)}{N m:Nat}{H2:Hp}{a:A2}{tn:Nat->A6->Prop}{ds out:U Dt}{ρ:Ev}(O:rT X scope cl xs is)(e4:B X.A X.calm)(N7:∀C n t fp,FG (Bh X (xs++ts) scope cl C n t fp) tgt gt)(d2:∀C n t fp,CA (Bh X (xs++ts) scope cl C n t fp) ifs p)(b3:∀C n t fp,Zm (Bh X (xs++ts) scope cl C n t fp) el fs Ac N m)(d8:Yp is.length m gt)(a4:is.length<=m)(I2:L2.AU X AN σ H2 a)(S:bQ X.K H2 H2 (xY is σ++List.replicate ts.length none) (j8 is ρ++List.replicate ts.length none))(T:Ve B X.prog X.w X.K tgt J fp it tn)(st:tn 0 a.heap)(hf:∀b∈fp,rN X AN H2 b)(Y:B1 X.K J ds H2)(b9:Dm gt p fs (j8 is ρ++List.replicate ts.length none) ds=Z out)(e0:out.length<=N)(e3:∀(D C:A1) (s':A2) (H':Hp) (o:HO),H2 D=none->L2.AU X AN σ H' s'->rN X AN H' C->(∃m,s'.heap.Ns C m)->AV H2 H'->H' D=Z o->Ac D H' out o->RR (.ref D) C (.ok .next) s')(c0:∀{Q:B8},Q (.ref a.heap.objs.size) { a with heap:=a.heap.push o0 }->A7 (A8 X.prog X.w) X.A mk Q E a)(a2:∀H,gR X.prog X.w H (a.heap.push o0) a.heap.objs.size O0)(c6:∀H,Ac a.heap.objs.size H [] O0)(b0:∀{D:A1} {H H':Hp} {o1:U Dt} {o:HO},Kp H H'->Ac D H o1 o->Ac D H' o1 o)(d3:∀(it:A0) (D:A1) (env:Env),compTurn d 0 it (.ref D) env=(standAt iter.pos >>= λ_=>pyNext it >>= λr=>match r with
   |none=>pure (.done .next)
   |some v=>letOwnedTupleGo tgt it v >>= λ_=>assign tgt env v >>= λ_=>(forIn ifs true λc r=>if r=true then isTrue c env (eval c env) >>= λok=>pure (ForInStep.yield ok)else pure (ForInStep.yield r)) >>= λok=>if ok=true then el D env >>= λ_=>again (.compLoop d 0 it (.ref D) env)else again (.compLoop d 0 it (.ref D) env)))(c8:∀{it f:A0} {env:Env} {R:Result->A2->Prop} {s:A2},AF (A8 X.prog X.w) X.A (.compLoop d 0 it f env) R s->A7 (A8 X.prog X.w) X.A (pyIter it) (λd0 s'=>AF (A8 X.prog X.w) X.A (.compLoop d 0 d0 f env) R s') (notedBy (A8 X.prog X.w) X.A env λx s'=>R (.error x) s') s->AF (A8 X.prog X.w) X.A (.compStart d 0 it f env) R s)(a7:∀{it f:A0} {env:Env} {Q:Fin->A2->Prop} {E:B8} {s:A2},A7 (A8 X.prog X.w) X.A ((compTurn d 0 it f env).onRaise (λx=>noteFrame x env >>= λ_=>theTreesLotGoes x)) Q E s->A7 (A8 X.prog X.w) (X.A.under (.compLoop d 0 it f env)) ((A8 X.prog X.w).den (.compLoop d 0 it f env)) Q E s):
  A7 (A8 X.prog X.w) X.A mk (λf c4=>A7 (A8 X.prog X.w) X.A (newFunctionEnv scope X.env.globals cl [] X.env.qual none .none (Z X.env)) (λa0 e1=>
   AF (A8 X.prog X.w) X.A (.compStart d 0 (.ref it) f { a0 with scope:=relabel scope X.env }) (RR f a0.locals) e1) E c4) E a:=by
 refine c0 (WX ?_);have G:H2 a.heap.objs.size=none:=I2.hok.fresh (zk _);have u:L2.AU X AN σ (B5 H2 a.heap.objs.size O0) { a with heap:=a.heap.push o0 }:=
  I2.laid (t':=a.toks) (λb o e=>ze _ e) (zk _) (a2 _)
 have L:∀b∈fp,b<a.heap.objs.size:=λb hb=>let ⟨o,e,_⟩:=T.obj 0 _ st b hb;zD e;have F:∀b∈fp,rN X AN (B5 H2 a.heap.objs.size O0) b:=λb hb=>⟨by rw[aR (z4 (L b hb))];exact(hf b hb).1,(hf b hb).2⟩;have a1:tn 0 (a.heap.push o0):=T.keep 0 _ _ st λb hb o e=>ze _ e;have y:∀b∈fp,b<(a.heap.push o0).objs.size:=λb hb=>by rw[qr];exact QA (L b hb)
 generalize c3:({ a with heap:=a.heap.push o0 }:A2)=s3 at *
 have a3:s3.heap=a.heap.push o0:=by rw[<-c3]
 rw[<-a3]at a1 y;have IC:=Zk (ts:=ts) u O F y;have P:tn 0 (pushCells (s3.heap.push { cls:=.type "dict",data:=.dict #[] }) scope.names):=T.keep 0 _ _ a1 λb hb o e=>pushCells_keeps _ _ b o (ze _ e);have d1:∀b∈fp,rN (Bh X (xs++ts) scope cl s3.heap.objs.size s3 (B5 H2 a.heap.objs.size O0) fp) [] (B5 H2 a.heap.objs.size O0) b:=λb hb=>by
  obtain⟨f0,f1,f2,W,I,f5⟩:=F b hb;refine⟨f0,z4 (y b hb),λz=>?_,.inl hb,λx c e z=>?_,λq hq=>absurd (show q∈([]:U (A1×AE)) from hq) (by simp)⟩
  ·rcases List.mem_cons.mp (u.KD b z)with q|q
   ·exact f1 q
   ·exact f2 q
  ·rcases zf _ _ _ x c e with h|h
   ·exact I x c (O.sub.get h) z
   ·rw[z]at h;exact absurd (ZT (y b hb) (Nat.le_of_succ_le h)) (JO _)
 have P0:DL H2 (xY is σ++List.replicate ts.length none) (j8 is ρ++List.replicate ts.length none) is.length:=by
  have g:∀(j:Nat) c,(j8 is ρ++List.replicate ts.length none)[j]?=Z (Z c)->j<is.length/\uV c=false:=λj c e=>by
   by_cases hj:j<is.length
   ·refine⟨hj,?_⟩;rw[ZO (by simp[j8];omega)]at e;unfold j8 at e;rw[Zp]at e;cases q:is[j]? with
    |none=>rw[q]at e;cases e
    |some i=>rw[q]at e;exact yV (by simpa using e)
   ·rw[qv (by simp[j8];omega),QQ]at e;split at e<;>cases e
  exact⟨λj c e=>(g j c e).2,λj c e=>(g j c e).1,EV S⟩
 have h:=WY (B:=B) (X:=Bh X (xs++ts) scope cl s3.heap.objs.size s3 (B5 H2 a.heap.objs.size O0) fp) (R:=RR (.ref a.heap.objs.size) s3.heap.objs.size) (o0:=[]) e4 Δ (N7 _ _ _ _) (d2 _ _ _ _) (b3 _ _ _ _) d8 a4 IC (S.grow (bV G)) P0 G bJ (c6 _) T P d1 Y b9 (by simpa using e0) b0 d3 a7 λM e5 H5 o5 l E5 _ a6 a5=>by
  have IB:L2.AU X AN σ H5 M:=u.call' (ch:=fp) l.os l.base l.hok l.bare λb hb=>by
   obtain⟨f0,f1,f2,W,I,f5⟩:=F b hb;exact⟨W,f1,I,f5⟩
  obtain⟨m,hn,_⟩:=l.loc;exact e3 _ _ M H5 o5 G IB (u.RK (zk _) l.free) ⟨m,hn⟩ E5.base a6 a5
 exact c8 h (T.self _ 0 _ _ _ P h)
def EA(K:B0)(_:A1)(H:Hp)(a:U Dt)(o:HO):Prop:=∃us,o=.lst us/\aK K H a us
theorem EA.kp{K:B0}{D:A1}{H H':Hp}{a:U Dt}{o:HO}(k:Kp H H'):EA K D H a o->EA K D H' a o:=λ⟨us,e,r⟩=>⟨us,e,r.kp k⟩
def ML(fe:Ev->O Bx):Ev->O (U Dt):=λρ=>(fe ρ).bind GM
theorem UA(h:PV X elt fe):Zm X (λD env=>do let _ <-call (.builtin "list.append") [.ref D,<-eval elt env]) (ML fe) (EA X.K) 100000 n:=by
 refine Zn λAN s σ H Hb ρ D o o1 ys I En f hD ⟨us,e,r4⟩ hl=>?_;subst e;obtain⟨b,eb,f⟩:=AT f;obtain⟨y,rfl,rfl⟩:=Bj f;refine zd (QN (h AN s σ H (λv a=>AV H a/\AW X.K a y v) I ⟨Hb,ρ,_,En,eb,λv a g _ d=>⟨g,d⟩⟩) (λv g q=>?_) λ_ _ z=>z);obtain⟨c,a,m,t,i,d⟩:=q;have l:=i _ _ hD;refine zd (QN ((Jx (X:=X)) _ g σ a (.ref D) [c] (.ref D) [v] (λw j=>j=B5 a D (.lst (us++[c]))) m Δ (.cons t .nil) ⟨_,us,c,rfl,rfl,l,by rw[r4.length];have h0:(100000:Nat)<AA:=(by decide);simp at hl;omega,rfl⟩) (λw x p=>?_) λ_ _ z=>z);obtain⟨A,j,u,_,rfl⟩:=p;have kp:Kp a (B5 a D (.lst (us++[c]))):=.lst l;exact zg ⟨a,_,u,i,kp,us++[c],rfl,((r4.kp (.of i)).append (aK.cons d aK.nil)).kp kp⟩
theorem zj{H2:Hp}{l:A2}{tn:Nat->A6->Prop}{ds out:U Dt}{ρ:Ev}(O:rT X scope cl xs is)(L:B X.A X.calm)(M:∀C i j fp,FG (Bh X (xs++ts) scope cl C i j fp) tgt gt)(y:∀C i j fp,CA (Bh X (xs++ts) scope cl C i j fp) ifs p)(u:∀C i j fp,PV (Bh X (xs++ts) scope cl C i j fp) elt fe)(z:Yp is.length (is.length+ts.length) gt)(v:L2.AU X AN σ H2 l)(t:bQ X.K H2 H2 (xY is σ++List.replicate ts.length none) (j8 is ρ++List.replicate ts.length none))(T:Ve B X.prog X.w X.K tgt J fp it tn)(st:tn 0 l.heap)(G:∀b∈fp,rN X AN H2 b)(Y:B1 X.K J ds H2)(F:ds.length<=100000)(q:Cv gt p fe (j8 is ρ++List.replicate ts.length none) ds=Z out)(I:∀(D C:A1) (s':A2) (H':Hp) (us:U V),H2 D=none->L2.AU X AN σ H' s'->rN X AN H' C->(∃m,s'.heap.Ns C m)->AV H2 H'->H' D=Z (.lst us)->aK X.K H' out us->RR (.ref D) C (.ok .next) s'):
  A7 (A8 X.prog X.w) X.A (newList []) (λs x=>A7 (A8 X.prog X.w) X.A (newFunctionEnv scope X.env.globals cl [] X.env.qual none .none (Z X.env)) (λn H=>
   AF (A8 X.prog X.w) X.A (.compStart (.ListComp elt [⟨tgt,iter,ifs,0⟩] scope pos) 0 (.ref it) s { n with scope:=relabel scope X.env }) (RR s n.locals) H) E x) E l:=
 JB (B:=B) (Ac:=EA X.K) (O0:=.lst []) (N:=100000) O L M y (λC i j fp=>UA (u C i j fp)) z (Nat.le_add_right ..) v t T st G Y q (ZI (wC q) F) (λD C s' H' o a b c d e f g=>by obtain⟨us,rfl,r⟩:=g;exact I D C s' H' us a b c d e f r)
  qo (λ_=>⟨QR _,[],0,.nil,zv _ rfl⟩) (λ_=>⟨[],rfl,aK.nil⟩) EA.kp (λ_ _ _=>Δ) codeAny_compStart_list λh=>h
end
def iC(K:B0)(f:Ev->O (U Dt)):TI:=λσ H R=>∃H0 ρ ds,bQ K H0 H σ ρ/\f ρ=Z ds/\∀J H',AV H H'->B1 K J ds H'->R J H'
def OS(X:Cx)(tg iter:Expr)(f:Ev->O (U Dt)):Prop:=PI X tg iter (iC X.K f)
structure EC (X:Cx) (tg iter:Expr) (f:Ev->Option (List Dt)):Prop where
 run:OS X tg iter f
def Zq:Bx->O (U Dt)
 |.z (.lst ds)=>Z ds
 |.z (.tup ds)=>Z ds
 |.z (.str x)=>Z (BF x)
 |.o ds=>Z ds
 |.l ds=>Z ds
 |_=>Y
section
variable{f:Ev->O Bx}{fs:Ev->O (U Bx)}{xs:An}{gt:Dt->Ev->O Ev}{p:Ev->O Bool}{fe:Ev->O Bx}{fi:Ev->O (U Dt)}
theorem VY(h:E8 X tgt iter fi):EC X tgt iter fi:=⟨have h:=h.run;λAN s σ H R I q=>by
 obtain⟨H0,ρ,ds,E,e,q⟩:=q;exact h AN s σ H R I ⟨H0,ρ,ds,E,e,λJ H' s' y=>q J H' s' (y H' (AV.refl H') (λ_ _=>Δ) (λ_ _ _ _=>Δ) λ_ _ _=>Δ)⟩⟩
theorem pC(h:QV X e f):EC X tgt e (λρ=>(f ρ).bind Zq):=⟨have h:=h.run;λAN s σ H R I q=>by
 refine R7 h AN s σ H R I ?_;obtain⟨H0,ρ,ds,E,e,q⟩:=q;obtain⟨b,eb,e⟩:=AT e;refine⟨H0,ρ,b,E,eb,λv H1 i p r1=>?_⟩;cases b with
 |z d=>
  cases d with
  |tup j=>
   cases e;simp only[bh,AW]at r1;obtain⟨a,vs,rfl,c,g⟩:=r1;exact .inr (.inl ⟨a,rfl,⟨vs,c⟩,q _ _ i (.tup c g)⟩)
  |lst j=>
   cases e;obtain⟨a,vs,rfl,c,g⟩:=r1.Ie rfl;exact .inl ⟨a,rfl,⟨vs,c⟩,q _ _ i (.list c g)⟩
  |str x=>
   cases e;simp only[bh,AW]at r1;obtain⟨rfl,_⟩:=r1;exact .inr (.inr ⟨x,rfl,q _ _ i (.str x)⟩)
  |_=>cases e
 |l j=>
  cases e;obtain⟨a,vs,rfl,c,g⟩:=r1.Ie rfl;exact .inl ⟨a,rfl,⟨vs,c⟩,q _ _ i (.list c g)⟩
 |o j=>
  cases e;obtain⟨a,vs,rfl,c,g⟩:=r1.Ie rfl;exact .inl ⟨a,rfl,⟨vs,c⟩,q _ _ i (.list c g)⟩
 |n _=>cases e
 |m _ _=>cases e⟩
def iJ(fi:Ev->O (U Dt))(gt:Dt->Ev->O Ev)(p:Ev->O Bool)(fe:Ev->O Bx)(is:U Nat)(n:Nat):Ev->O Bx:=λρ=>(fi ρ).bind λds=>
 if ds.length<=100000 then(Cv gt p fe (j8 is ρ++List.replicate n Y) ds).bind λa=>Z (.o a)else Y
theorem wD(ts:An)(O:rT X scope cl xs is)(a0:X.calm=true)(hi:EC X tgt iter fi)(j:∀C c d fp,Yo (Bh X (xs++ts) scope cl C c d fp) tgt gt)(g:∀C c d fp,vD (Bh X (xs++ts) scope cl C c d fp) ifs p)(f:∀C c d fp,QV (Bh X (xs++ts) scope cl C c d fp) elt fe)(N:Yp is.length (is.length+ts.length) gt)(hs:∀x,foldedSetIterable iter X.env x=pure x:=by intro _;rfl):QV X (.ListComp elt [⟨tgt,iter,ifs,0⟩] scope pos) (iJ fi gt p fe is ts.length):=⟨have hi:=hi.run;have j:=λC c d fp=>(j C c d fp).run;have g:=λC c d fp=>(g C c d fp).run;have f:=λC c d fp=>(f C c d fp).run;λAN s σ H Q I h=>by
 obtain⟨H0,ρ,b,E,e,q⟩:=h;obtain⟨ds,u,e⟩:=AT e;split at e
 ·rename_i P;obtain⟨a1,l,e⟩:=AT e;cases e;rw[eval_ListComp];refine Kb (use:=none) Δ hs O.clos O.kind O.names ?_;refine ji (hi AN s σ H (λJ H'=>AV H H'/\B1 X.K J ds H') I ⟨H0,ρ,ds,E,u,λJ H' s' y=>⟨s',y⟩⟩) λv s1 h1=>ji h1 λa2 s2 h2=>?_;obtain⟨it,fp,tn,J,H2,rfl,z,T,st,W,i,Y⟩:=h2;refine zj (B:=Jz) (RR:=λS C=>compPost (A8 X.prog X.w) X.A X.xe none (EP X AN σ Q) S C) (ts:=ts) (xs:=xs) O a0 j g f N z ((E.grow i).caps is ts.length) (Oz T) st W Y P l ?_;intro D C s' H' us G M n ⟨m,hn⟩ s2' hD' r';refine⟨m,hn,λh' sb=>⟨.ref D,H',?_,rfl,q _ _ (i.trans s2') (λa ea=>by cases ea;exact i.free G) ⟨D,us,rfl,hD',r'⟩⟩⟩;obtain⟨f0,f1,f2,t,L,F⟩:=n;exact M.turned (t':=s'.toks) (λb o hb e=>(sb.2 b hb).trans e) f0 f1 t L F
 ·cases e⟩
theorem La(i:Nat){py spos:Pos}(ts:An)(O:rT X scope cl xs is)(b9:X.calm=true)(hN:X.N.Nodup)(hi:EC X tgt iter fi)(u:∀C c d fp,Yo (Bh X (xs++ts) scope cl C c d fp) tgt gt)(n:∀C c d fp,vD (Bh X (xs++ts) scope cl C c d fp) ifs p)(j:∀C c d fp,QV (Bh X (xs++ts) scope cl C c d fp) elt fe)(a3:Yp is.length (is.length+ts.length) gt)(b0:swapsWith (.ListComp elt [⟨tgt,iter,ifs,0⟩] scope pos) (Z (.Name y py)) spos.line X.env=pure true:=by with_unfolding_all rfl)(hy:X.N[i]?=Z y:=by rfl)(hx:Co X.env.scope y:=by first|exact kc rfl|exact jv Δ)(hf:X.fn y=true\/X.env.scope.names.lookup y=Z .local:=by first|exact .inl rfl|exact .inr Δ)(hs:∀x,foldedSetIterable iter X.env x=pure x:=by intro _;rfl):Ou X (.Assign [.Name y py] (.ListComp elt [⟨tgt,iter,ifs,0⟩] scope pos) spos) (λρ=>(iJ fi gt p fe is ts.length ρ).bind λb=>(WW ρ i b).bind λρ'=>Z (.nx ρ')):=⟨have hi:=hi.run;have u:=λC c d fp=>(u C c d fp).run;have n:=λC c d fp=>(n C c d fp).run;have j:=λC c d fp=>(j C c d fp).run;λAN s σ H D I h=>by
 obtain⟨H0,ρ,r,E,e,q⟩:=h;obtain⟨b,eb,e⟩:=AT e;obtain⟨ds,ed,eb⟩:=AT eb;split at eb
 ·rename_i a4;obtain⟨a6,M,eb⟩:=AT eb;cases eb;cases e;rw[exec_Assign_Name_used _ _ _ _ b0];refine zd (yv (zd ?_));show A7 _ X.A (do let _ <-comprehension (.ListComp elt [⟨tgt,iter,ifs,0⟩] scope pos) scope X.env _ (newList []) false (eval iter X.env) (Z (assign (.Name y py) X.env))) _ _ s;refine zd (QN (Kb (use:=Z (assign (.Name y py) X.env)) (Q:=λ_ s'=>SP X AN D .next s') Δ hs O.clos O.kind O.names ?_) (λ_ s' S=>zg (zg S)) λ_ _ e=>e);refine ji (hi AN s σ H (λJ H'=>AV H H'/\B1 X.K J ds H') I ⟨H0,ρ,ds,E,ed,λJ H' s' y=>⟨s',y⟩⟩) λv s1 h1=>ji h1 λc3 s2 h2=>?_;obtain⟨it,fp,tn,J,H2,rfl,I2,T,st,a1,t,Y⟩:=h2;refine zj (B:=Jz) (RR:=λa5 C=>compPost (A8 X.prog X.w) X.A X.xe (Z (assign (.Name y py) X.env)) (λ_ s'=>SP X AN D .next s') a5 C) (ts:=ts) (xs:=xs) O b9 u n j a3 I2 ((E.grow t).caps is ts.length) (Oz T) st a1 Y a4 M ?_;intro f C s' H' us hD L P ⟨m,hn⟩ s2' hD' r';show A7 _ X.A (assign (.Name y py) X.env (.ref f)) _ _ s';obtain⟨f0,f1,f2,W,f4,f5⟩:=P;obtain⟨g,a0,ep,a2,G,a7⟩:=id hn;have c0:L2.AU X (AN++[(C,g)]) σ H' s':=L.KH λF hp=>by
   rcases List.mem_append.mp hp with z|z
   ·exact L.pin F (zI _ z)
   ·have:F=(C,g):=by simpa using z
    subst this;exact⟨a2,f0,f1,f2,λv z=>by rw[G]at z;cases z⟩
  refine ji (L2.U3 hN hy hx hf (AN++[(C,g)]) s' σ H' (.ref f) (.ref f) (λσ' l=>σ'=σ.set i (Z (.ref f))/\l=H') c0 Δ ⟨rfl,rfl⟩) λ_ s'' ⟨σ',l,J',e1,e2⟩=>?_;subst e1 e2;have b3:=(J'.pin (C,g) (by simp)).1;refine⟨m,⟨g,a0,ep,b3,G,a7⟩,λh' sb=>?_⟩;refine⟨σ.set i (Z (.ref f)),l,J'.u5.turned (t':=s''.toks) (λb o hb e=>(sb.2 b hb).trans e) f0 f1 W f4 f5,q _ _ ?_⟩;exact E.set (t.trans s2') (b:=.o a6) ⟨f,us,rfl,hD',r'⟩ (.inl Δ) λa ea=>by cases ea;exact t.free hD
 ·cases eb⟩
def lend:Bx->Bx
 |.o ds=>.l ds
 |.m ds _=>.n ds
 |b=>b
def eg:Bx->Bool
 |.o _=>true
 |.m _ _=>true
 |_=>false
def De(K:B0)(n:Nat)(F:U Bx->O Bx):Sp:=λvs H Q _=>vs.length=n/\∃bs r,sI K H bs vs/\bs.all (λb=>!eg b)=true/\F bs=Z r/\∀v H',AV H H'->Nw H r v->bh K H' r v->Q v H'
def cZ(n:Nat)(g:Ev->O Ap):U Bx->O Bx:=λbs=>(g (bs.map Z++List.replicate (n-bs.length) Y)).bind λr=>match r with
 |.rt b=>Z b
 |.nx _=>Z (.z .non)
 |_=>Y
theorem bQ.start{K:B0}{H:Hp}{N:An}{bs:U Bx}{vs:U V}(r:sI K H bs vs)(ho:bs.all (λb=>!eg b)=true):bQ K H H (L2.start N vs) (bs.map Z++List.replicate (N.length-bs.length) Y):=by
 have g:bs.length=vs.length:=Paired.length r;have get:∀(i:Nat) b,(bs.map Z++List.replicate (N.length-bs.length) Y)[i]?=Z (Z b)->bs[i]?=Z b:=λi b e=>by
  by_cases hi:i<bs.length
  ·rw[ZO (by simpa using hi),Zp]at e;cases q:bs[i]? with
   |none=>rw[q]at e;cases e
   |some l=>rw[q]at e;simpa using e
  ·rw[qv (by simp;omega),QQ]at e;split at e<;>cases e
 have f:∀(i:Nat) c,(bs.map Z++List.replicate (N.length-bs.length) Y)[i]?=Z (Z c)->uV c=true->False:=λi c e d=>by
  have:=List.all_eq_true.mp ho _ (QI (get i _ e));cases c with
  |o ds=>cases this
  |m ds _=>cases this
  |_=>cases d
 refine⟨?_,λi b e=>?_,λi j c a b e d=>(f i c e d).elim,AV.refl H,λi c a e d=>(f i c e d).elim⟩
 ·unfold L2.start;simp[g]
 ·have e':=get i b e;have hi:i<bs.length:=(List.getElem?_eq_some_iff.mp e').1;have:∀{bs:U Bx} {vs:U V} {i:Nat} {b:Bx},AI (bh K H) bs vs->bs[i]?=Z b->∃v,vs[i]?=Z v/\bh K H b v:=by
   intro bs vs i b r
   induction r generalizing i with
   |nil=>intro e;simp at e
   |cons p t h=>
    intro e;cases i with
    |zero=>simp at e;subst e;exact⟨_,rfl,p⟩
    |succ i=>obtain⟨v,e1,e2⟩:=h (i:=i) (by simpa using e);exact⟨v,by simpa using e1,e2⟩
  obtain⟨v,e1,e2⟩:=this r e';refine⟨v,?_,e2⟩;unfold L2.start;rw[ZO (by simp;omega),Zp,e1];rfl
end
theorem OC{st:AB}{f:A1}{k:Nat}{g:Ev->O Ap}(F:Cc K x qual st f fd)(S:bC N ps (aO st))(i:∀(c:A0) (A:A5) (outer:U Env) (s:A2) (H:Hp) (E:XK),nY k (A.deeper (AK qual (aO st) s.heap.objs.size f c))->Yl (Ez K4 P w K mg base N qual (aO st) f c A outer s H E).nox (jB st) g):
  u6 P w K mg base K4 (k+1) f fd ps (De K ps.length (cZ N.length g)):=by
 refine F.ok S (λvs H Q E h=>h.1) λc A outer s H vs Q E d h=>?_;obtain⟨n,bs,r,j,ho,e,q⟩:=h;refine⟨_,i c A outer s H E d,?_⟩;obtain⟨a,er,e⟩:=AT e;refine⟨H,_,a,bQ.start j ho,er,?_⟩;cases a with
 |rt b=>cases e;exact λv H' s' l a=>q v H' s' l a
 |nx ρ=>cases e;exact λσ H' m=>q _ H' m.base trivial (by unfold bh AW;rfl)
 |bk ρ=>cases e
 |ct ρ=>cases e
section
variable{k:Nat}{f:A1}{F:U Bx->O Bx}{p:Pos}{fs:Ev->O (U Bx)}
theorem OD{K:B0}{H:Hp}:∀{bs:U Bx} {vs:U V},sI K H bs vs->sI K H (bs.map lend) vs
 |_,_,.nil=>.nil
 |b::bs,_,.cons h t=>by
  refine .cons ?_ (OD t);cases b with
  |z d=>exact h
  |l ds=>exact h
  |o ds=>obtain⟨a,vs,e,q,r⟩:=h;exact⟨a,vs,e,.inl q,r⟩
  |n ds=>exact h
  |m ds _=>obtain⟨a,vs,e,q,r⟩:=h;exact⟨a,vs,e,.inl q,r.1⟩
theorem Vf:∀bs:U Bx,(bs.map lend).all (λb=>!eg b)=true
 |[]=>rfl
 |b::bs=>by
  rw[zw,kB,Vf bs];cases b<;>rfl
def bf(n:Nat)(F:U Bx->O Bx)(fs:Ev->O (U Bx)):Ev->O Bx:=λρ=>(fs ρ).bind λbs=>if bs.length=n then F (bs.map lend)else Y
theorem dL(G:u6 X.prog X.w X.K X.mg X.base K4 k f fd ps (De X.K n F))(b:nY k X.A)(hg:Gl X x)(g:X.mg x=Z (.ref f))(i:keepIn X.K (.ref f)=true)(hb:BT X.K fd ps [])(ha:WQ X (e::es) fs)(c:(x==("__debug__":AJ))=false:=by decide)(he:A9 (e::es) X.env=(false,eval e X.env)::A9 es X.env:=by rfl)(d:(AD pos (A9 es X.env)).any (·.1)=false:=by rfl):QV X (.Call (.Name x p) (e::es) [] pos) (bf n F fs):=⟨have ha:=ha.run;Dk (U4 G b hg g i hb .nil (Mo) ha c he d) λσ H Q h=>by
 obtain⟨H0,ρ,r,E,e,q⟩:=h;obtain⟨bs,eb,e⟩:=AT e;refine⟨H0,ρ,bs,E,eb,λvs H1 a r1=>?_⟩;split at e
 ·rename_i j;rw[ZU];exact⟨by rw[<-Paired.length r1];exact j,_,r,OD r1,Vf bs,e,λv H2 l m r2=>q v H2 (a.trans l) (m.old a) r2⟩
 ·cases e⟩
end
end P1
variable{b:P1.Bx}{d:P1.Dt}{G:A1->U (L2.AY×P1.Dt)->U P1.Bx->O (U (L2.AY×P1.Dt))}{f:P1.Ev->O P1.Bx}{q:P1.Ev->O Bool}{g:P1.Ev->O P1.Ap}{p:P1.Ev->O Bool}{AO:U (L2.AY×P1.Dt)}{ds:U P1.Dt}{fa:P1.Ev->O P1.Bx}{ρ:P1.Ev}{fb fc:P1.Ev->O P1.Bx}{gt:P1.Dt->P1.Ev->O P1.Ev}{gb:P1.Ev->O P1.Ap}{fi:P1.Ev->O (U P1.Dt)}{fe:P1.Ev->O P1.Bx}{Ac:A1->L2.Hp->U P1.Dt->L2.HO->Prop}{fk fo fv f1:P1.Ev->O P1.Bx}{gx:P1.Ev->O P1.Dt}{jc:P1.Bx}
namespace P1
open L2 SeqAt
open AutoSeq1 (wpAny_loadPart')
def Ih(h:A6)(a:A1):Prop:=∃o ep,h.get? a=Z o/\o.ExactDict/\o.data=.dict #[] ep
section
variable{b:A1}
theorem zm{AO:U (AY×V)}{vs:U (AY×A0)}(q:AO=[])(r:KV AO vs)(d:h.DictOf (bB P w) a vs):Ih h a:=by
 subst q;cases r;obtain⟨o,es,ep,h1,h2,b,_,c,_⟩:=d;have:es=#[]:=by
  have:=c.length;apply Array.eq_empty_of_size_eq_zero;simpa using this
 subst this;exact⟨o,ep,h1,h2,b⟩
theorem Ih.dict(P:A3)(w:A4)(x:Ih h a):h.DictOf (strKind P w) a []:=by
 obtain⟨o,ep,h1,h2,b⟩:=x;exact⟨o,#[],ep,h1,h2,b,λe c=>by simp at c,.nil,kQ⟩
theorem IQ(ha:(a==sysModules)=false)(hb:(b==sysModules)=false)(d:Ih s.heap a)(e:Ih s.heap b)(c:A.units<cLine):RcAt A s (.ref a) (.ref b) true:=λprog w E Q h=>
 PySem.W.keq_eq (knd:=strKind prog w) ha hb (d.dict prog w) (e.dict prog w) c (λ_=>.nil) h
theorem eA(ha:(a==sysModules)=false)(hb:(b==sysModules)=false)(d:Ih s.heap a)(e:Ih s.heap b)(c:A.units<cLine):RcNeAt A s (.ref a) (.ref b) false:=λprog w E Q h=>
 PySem.W.keq_ne (r:=true) (knd:=strKind prog w) ha hb (d.dict prog w) (e.dict prog w) c (λ_=>.nil) h
theorem OJ(o:AE)(b:AJ)(u:Tok):Meets (Builtin.«dict.__eq__» ⟨[.ref a,.str b u],[]⟩) (λ_ R s=>(s.heap.get? a=Z o/\o.cls=.type "dict")/\R (.ok (.ret .notImplemented)) s):=
 .of_wp λprog w A R s h=>by
  have c:s.TypeIs (.ref a) "dict":=⟨o,h.1.1,h.1.2⟩;show A7 _ _ (Builtin.Dict.dictSlotArgs "__eq__" ⟨[.ref a,.str b u],[]⟩ >>= _) _ _ s;refine zd ?_;unfold Builtin.Dict.dictSlotArgs;refine zd (wpAny_notOrdered_dict c ?_);show A7 _ _ (pure (Value.ref a,Value.str b u)) _ _ s;refine zg ?_;refine zd (JP (T :="str") (typeIs_str s b u) PySem.F.sub_str_dict ?_);simp only[kR,qS];refine zd (kN ?_);exact zg ⟨_,rfl,h.2⟩
theorem O1(b:AJ)(u:Tok)(es:Array DictEntry)(ep:Nat)(e:O A1)(sl:Array (O A0)):Meets (Builtin.«str.__eq__» ⟨[.str b u,.ref a],[]⟩) (λ_ R s=>s.heap.get? a=Z { cls:=.type "dict",dict:=e,data:=.dict es ep,slots:=sl }/\R (.ok (.ret .notImplemented)) s):=
 .of_wp λprog w A R s h=>by obtain⟨hp,g,d,tk,os⟩:=s;obtain⟨c,h⟩:=h;wp_walk using wpAny_loadPart' c,K0 c;exact⟨_,rfl,h⟩
theorem JC(x:AJ)(t:Tok)(d:Ih s.heap a)(g:A.units<cLine):RcAt A s (.str x t) (.ref a) false:=λprog w E Q h=>by
 obtain⟨⟨l,f,j,sl⟩,ep,ho,⟨c,i,hs⟩,e⟩:=d;simp only at c e;subst c e;exact rc_eq_decline_or (k:=false) (typeIs_str s x t) ⟨_,ho,rfl⟩ (by decide) PySem.F.sub_dict_str PySem.F.slot_str_eq PySem.F.slot_dict_eq_refl
  (λ_ b=>call_meets PySem.F.slot_str_eq (typeIs_str s x t) PySem.F.entry_str_eq (PySem.F.args_str_eq_2 _ _) (O1 x t #[] ep f sl) ⟨ho,b⟩)
  (λ_ b=>call_meets PySem.F.slot_dict_eq_refl ⟨_,ho,rfl⟩ PySem.F.entry_dict_eq (PySem.F.args_dict_eq_2 _ _) (OJ _ x t) ⟨⟨ho,rfl⟩,b⟩)
  (λ_ b=>wpAny_of_eq (rfl:isSame (.str x t) (.ref a)=pure false) b) (.inr g) h
theorem O2(o:AE)(b:AJ)(u:Tok):Meets (Builtin.«dict.__ne__» ⟨[.ref a,.str b u],[]⟩) (λ_ R s=>(s.heap.get? a=Z o/\o.cls=.type "dict")/\R (.ok (.ret .notImplemented)) s):=
 .of_wp λprog w A R s h=>by
  have c:s.TypeIs (.ref a) "dict":=⟨o,h.1.1,h.1.2⟩;show A7 _ _ (Builtin.Dict.dictSlotArgs "__ne__" ⟨[.ref a,.str b u],[]⟩ >>= _) _ _ s;refine zd ?_;unfold Builtin.Dict.dictSlotArgs;refine zd (wpAny_notOrdered_dict c ?_);show A7 _ _ (pure (Value.ref a,Value.str b u)) _ _ s;refine zg ?_;refine zd (JP (T :="str") (typeIs_str s b u) PySem.F.sub_str_dict ?_);simp only[kR,qS];refine zd (kN ?_);exact zg ⟨_,rfl,h.2⟩
theorem O4(b:AJ)(u:Tok)(es:Array DictEntry)(ep:Nat)(e:O A1)(sl:Array (O A0)):Meets (Builtin.«str.__ne__» ⟨[.str b u,.ref a],[]⟩) (λ_ R s=>s.heap.get? a=Z { cls:=.type "dict",dict:=e,data:=.dict es ep,slots:=sl }/\R (.ok (.ret .notImplemented)) s):=
 .of_wp λprog w A R s h=>by obtain⟨hp,g,d,tk,os⟩:=s;obtain⟨c,h⟩:=h;wp_walk using wpAny_loadPart' c,K0 c;exact⟨_,rfl,h⟩
theorem W0(x:AJ)(t:Tok)(d:Ih s.heap a)(g:A.units<cLine):RcNeAt A s (.str x t) (.ref a) true:=λprog w E Q h=>by
 obtain⟨⟨l,f,j,sl⟩,ep,ho,⟨c,i,hs⟩,e⟩:=d;simp only at c e;subst c e;exact rc_ne_decline_or (k:=false) (typeIs_str s x t) ⟨_,ho,rfl⟩ (by decide) PySem.F.sub_dict_str PySem.F.slot_str_ne PySem.F.slot_dict_ne_refl
  (λ_ b=>call_meets PySem.F.slot_str_ne (typeIs_str s x t) PySem.F.entry_str_ne (PySem.F.args_str_ne_2 _ _) (O4 x t #[] ep f sl) ⟨ho,b⟩)
  (λ_ b=>call_meets PySem.F.slot_dict_ne_refl ⟨_,ho,rfl⟩ PySem.F.entry_dict_ne (PySem.F.args_dict_ne_2 _ _) (O2 _ x t) ⟨⟨ho,rfl⟩,b⟩)
  (λ_ b=>wpAny_of_eq (rfl:isSame (.str x t) (.ref a)=pure false) b) (.inr g) h
theorem W2(x:AJ)(t:Tok)(d:Ih s.heap a)(b:A.units<cLine):EqAt A s (.str x t) (.ref a) false:=λprog w E Q h=>by
 unfold eqBool;refine QU ?_;refine wpAny_ite_split (λc=>absurd (eq_of_beq c) nofun) (λ_=>?_);exact zd (JC x t d b prog w E _ (jS h))
end
mutual
def wF:Dt->Nat
 |.tup xs=>qK xs+1
 |.lst xs=>qK xs+1
 |_=>1
def qK:U Dt->Nat
 |[]=>0
 |d::ds=>max (wF d) (qK ds)
end
mutual
def zp:Dt->Dt->O Bool
 |.non,.non=>Z true
 |.non,.bl _=>Z false|.non,.int _=>Z false|.non,.str _=>Z false|.non,.tup _=>Z false|.non,.lst _=>Z false
 |.bl a,.bl b=>Z (a==b)
 |.bl a,.int b=>Z ((if a then 1 else 0)==b)
 |.bl _,.non=>Z false|.bl _,.str _=>Z false|.bl _,.tup _=>Z false|.bl _,.lst _=>Z false
 |.int a,.int b=>Z (a==b)
 |.int a,.bl b=>Z (a==(if b then 1 else 0))
 |.int _,.non=>Z false|.int _,.str _=>Z false|.int _,.tup _=>Z false|.int _,.lst _=>Z false
 |.str a,.str b=>Z (a==b)
 |.str _,.non=>Z false|.str _,.bl _=>Z false|.str _,.int _=>Z false|.str _,.tup _=>Z false|.str _,.lst _=>Z false|.str _,.emp=>Z false
 |.tup xs,.tup ys=>mK xs ys
 |.tup _,.non=>Z false|.tup _,.bl _=>Z false|.tup _,.int _=>Z false|.tup _,.str _=>Z false|.tup _,.lst _=>Z false
 |.lst xs,.lst ys=>mK xs ys
 |.emp,.emp=>Z true
 |.lst _,.non=>Z false|.lst _,.bl _=>Z false|.lst _,.int _=>Z false|.lst _,.str _=>Z false|.lst _,.tup _=>Z false
 |_,_=>Y
def mK:U Dt->U Dt->O Bool
 |[],[]=>Z true
 |[],_::_=>Z false
 |_::_,[]=>Z false
 |x::xs,y::ys=>match zp x y with
  |some b=>match mK xs ys with
   |some c=>Z (b&&c)
   |none=>Y
  |none=>Y
end
mutual
theorem O5:∀{d:Dt} {k:Bool},zp d d=Z k->k=true
 |.non,_,e=>by cases e;rfl
 |.bl b,_,e=>by cases e;simp
 |.int b,_,e=>by cases e;simp
 |.str b,_,e=>by cases e;simp
 |.tup xs,_,e=>Bl (ds:=xs) e
 |.lst xs,_,e=>Bl (ds:=xs) e
 |.emp,_,e=>by cases e;rfl
theorem Bl:∀{ds:U Dt} {k:Bool},mK ds ds=Z k->k=true
 |[],_,e=>by simp only[mK]at e;cases e;rfl
 |d::ds,_,e=>by
  simp only[mK]at e;cases h:zp d d with
  |none=>rw[h]at e;cases e
  |some b=>
   rw[h]at e;simp only at e;cases h2:mK ds ds with
   |none=>rw[h2]at e;cases e
   |some c=>
    rw[h2]at e;cases e;rw[O5 h,Bl h2];rfl
end
theorem Ef(xs ys:U Dt):zp (.tup xs) (.tup ys)=mK xs ys:=rfl
theorem vG:∀{xs ys:U Dt} {k:Bool},mK xs ys=Z k->∃e:Nat->Bool,(∀(j:Nat) x y,xs[j]?=Z x->ys[j]?=Z y->zp x y=Z (e j))/\k=((List.range (min xs.length ys.length)).all e&&xs.length==ys.length)
 |[],[],k,h=>by simp only[mK]at h;cases h;exact⟨λ_=>true,λj x y e=>by simp at e,by simp⟩
 |[],y::ys,k,h=>by simp only[mK]at h;cases h;exact⟨λ_=>true,λj x y e=>by simp at e,by simp⟩
 |x::xs,[],k,h=>by simp only[mK]at h;cases h;exact⟨λ_=>true,λj x y _ e=>by simp at e,by simp⟩
 |x::xs,y::ys,k,h=>by
  simp only[mK]at h;cases h1:zp x y with
  |none=>rw[h1]at h;cases h
  |some b=>
   rw[h1]at h;simp only at h;cases h2:mK xs ys with
   |none=>rw[h2]at h;cases h
   |some c=>
    rw[h2]at h;cases h;obtain⟨e,g,d⟩:=vG h2;refine⟨λj=>match j with|0=>b|j+1=>e j,λj u v a ev=>?_,?_⟩
    ·cases j with
     |zero=>simp at a ev;subst a ev;exact h1
     |succ j=>exact g j u v (by simpa using a) (by simpa using ev)
    ·have:min (x::xs).length (y::ys).length=min xs.length ys.length+1:=by simp only[qk];omega
     rw[this,List.range_succ_eq_map,kB,List.all_map,d];have hb:((x::xs).length==(y::ys).length)=(xs.length==ys.length):=by
      rw[JI];simp
     rw[hb,Bool.and_assoc];rfl
theorem vH:∀{ds:U Dt} {j:Nat} {d:Dt},ds[j]?=Z d->wF d<=qK ds
 |[],_,_,e=>by simp at e
 |d::ds,0,_,e=>by simp at e;subst e;simp only[qK];exact Nat.le_max_left _ _
 |d::ds,j+1,_,e=>by
  simp only[qK];exact ZI (vH (ds:=ds) (j:=j) (by simpa using e)) (Nat.le_max_right _ _)
theorem Eh(I:L2.AU X AN σ H s)(h:wV X.K H a vs):∃b,s.heap.get? a=Z b/\b.cls=.type "tuple":=by
 obtain⟨AQ,_,⟨b,e,c,_⟩,_⟩:=I.tuple h;exact⟨b,e,c⟩
theorem Ei(I:L2.AU X AN σ H s)(h:uZ X.K H a vs):∃b,s.heap.get? a=Z b/\b.cls=.type "list":=by
 obtain⟨AQ,_,⟨b,n,e,c,_⟩,_⟩:=I.list h;exact⟨b,e,c⟩
theorem qN(I:L2.AU X AN σ H s){o:AE}(h:H a=Z (.uK o (.dK []))):∃b,s.heap.get? a=Z b/\b.cls=.type "dict":=by
 obtain⟨e,_,_,vs,_,b,es,ep,e2,ex,_⟩:=I.hok a _ h;exact⟨b,e2,ex.1⟩
theorem Bm{n m:String}(h:∃b,s.heap.get? a=Z b/\b.cls=.type n)(q:∃b,s.heap.get? a=Z b/\b.cls=.type m)(f:n≠m):False:=by
 obtain⟨o,e,c⟩:=h;obtain⟨o',e',d⟩:=q;rw[e]at e';cases e';rw[c]at d;exact f (by injection d)
mutual
theorem AW.inj(I:L2.AU X AN σ H s):∀{d e:Dt} {v:V},AW X.K H d v->AW X.K H e v->d=e
 |.non,e,v,h,q=>by
  simp only[AW]at h;subst h;cases e<;>simp only[AW]at q<;>first|rfl|(cases q;done)|(obtain⟨a,b,z,_⟩:=q;cases z;done)|(obtain⟨z,_⟩:=q;cases z;done)
 |.bl _,e,v,h,q=>by
  simp only[AW]at h;subst h;cases e<;>simp only[AW]at q<;>first|(cases q;rfl)|(cases q;done)|(obtain⟨a,b,z,_⟩:=q;cases z;done)|(obtain⟨z,_⟩:=q;cases z;done)
 |.int _,e,v,h,q=>by
  simp only[AW]at h;subst h;cases e<;>simp only[AW]at q<;>first|(cases q;rfl)|(cases q;done)|(obtain⟨a,b,z,_⟩:=q;cases z;done)|(obtain⟨z,_⟩:=q;cases z;done)
 |.str x,e,v,h,q=>by
  simp only[AW]at h;have g:v=.str x:=h.1;subst g;cases e with
  |str y=>
   simp only[AW]at q;have z:V.str x=V.str y:=q.1;injection z with z;rw[z]
  |tup es=>simp only[AW]at q;obtain⟨a,b,z,_⟩:=q;cases z
  |lst es=>simp only[AW]at q;obtain⟨a,b,z,_⟩:=q;cases z
  |emp=>simp only[AW]at q;obtain⟨a,b,z,_⟩:=q;cases z
  |_=>simp only[AW]at q;cases q
 |.tup ds,e,v,h,q=>by
  simp only[AW]at h;obtain⟨a,vs,rfl,sq,r⟩:=h;cases e with
  |tup es=>
   simp only[AW]at q;obtain⟨b,us,z,c,f⟩:=q;cases z;have:=I.Aw sq c;subst this;rw[aK.inj I r f]
  |lst es=>
   simp only[AW]at q;obtain⟨b,us,z,c,f⟩:=q;cases z;exact(Bm (Eh I sq) (Ei I c.sq) (by decide)).elim
  |emp=>
   simp only[AW]at q;obtain⟨b,o,z,c⟩:=q;cases z;exact(Bm (Eh I sq) (qN I c) (by decide)).elim
  |str x=>simp only[AW]at q;have z:=q.1;cases z
  |_=>simp only[AW]at q;cases q
 |.lst ds,e,v,h,q=>by
  simp only[AW]at h;obtain⟨a,vs,rfl,sq,r⟩:=h;cases e with
  |lst es=>
   simp only[AW]at q;obtain⟨b,us,z,c,f⟩:=q;cases z;have:=I.Od sq.sq c.sq;subst this;rw[aK.inj I r f]
  |tup es=>
   simp only[AW]at q;obtain⟨b,us,z,c,f⟩:=q;cases z;exact(Bm (Ei I sq.sq) (Eh I c) (by decide)).elim
  |emp=>
   simp only[AW]at q;obtain⟨b,o,z,c⟩:=q;cases z;exact(Bm (Ei I sq.sq) (qN I c) (by decide)).elim
  |str x=>simp only[AW]at q;have z:=q.1;cases z
  |_=>simp only[AW]at q;cases q
 |.emp,e,v,h,q=>by
  simp only[AW]at h;obtain⟨a,o,rfl,sq⟩:=h;cases e with
  |emp=>rfl
  |tup es=>
   simp only[AW]at q;obtain⟨b,us,z,c,f⟩:=q;cases z;exact(Bm (qN I sq) (Eh I c) (by decide)).elim
  |lst es=>
   simp only[AW]at q;obtain⟨b,us,z,c,f⟩:=q;cases z;exact(Bm (qN I sq) (Ei I c.sq) (by decide)).elim
  |str x=>simp only[AW]at q;have z:=q.1;cases z
  |_=>simp only[AW]at q;cases q
theorem aK.inj(I:L2.AU X AN σ H s):∀{ds es:U Dt} {vs:U V},aK X.K H ds vs->aK X.K H es vs->ds=es
 |[],es,vs,h,q=>by
  simp only[aK]at h;subst h;cases es with
  |nil=>rfl
  |cons e es=>simp only[aK]at q;obtain⟨_,_,z,_⟩:=q;cases z
 |d::ds,es,vs,h,q=>by
  simp only[aK]at h;obtain⟨v,r,rfl,h1,h2⟩:=h;cases es with
  |nil=>simp only[aK]at q;cases q
  |cons e es=>
   simp only[aK]at q;obtain⟨a,b,z,q1,q2⟩:=q;cases z;rw[AW.inj I h1 q1,aK.inj I h2 q2]
end
theorem MM(I:L2.AU X AN σ H s):∀(n:Nat) {A:A5} {d e:Dt} {x y:V} {u v:A0} {k:Bool},min (wF d) (wF e)<=n->A.units+n<cLine->AW X.K H d x->AW X.K H e y->As x u->As y v->zp d e=Z k->EqAt A s u v k:=by
 intro n
 induction n with
 |zero=>
  intro A d e x y u v k P;have h1:1<=wF d:=by cases d<;>simp only[wF]<;>omega
  have h2:1<=wF e:=by cases e<;>simp only[wF]<;>omega
  omega
 |succ n ih=>
  intro A d e x y u v k P hA m c w g ek;have h:A.units<cLine:=by omega
  by_cases L:u=v/\∃a,u=.ref a
  ·obtain⟨rfl,a,rfl⟩:=L;have hx:x=.ref a:=by have:=w.abs;simpa[GH]using this.symm
   have hy:y=.ref a:=by have:=g.abs;simpa[GH]using this.symm
   subst hx hy;have:=AW.inj I m c;subst this;rw[O5 ek];exact EqAt.same _
  ·have items:∀{ds es:U Dt} {vs us:U V} {AQ l:U A0} {f:Nat->Bool},min (qK ds) (qK es)<=n->aK X.K H ds vs->aK X.K H es us->AX vs AQ->AX us l->(∀(j:Nat) x y,ds[j]?=Z x->es[j]?=Z y->zp x y=Z (f j)) →
     ∀j (h1:j<AQ.toArray.size) (h2:j<l.toArray.size),EqAt A.in1 s AQ.toArray[j] l.toArray[j] (f j):=by
    intro ds es vs us AQ l f hm r1 r2 W w2 F j h1 h2;have l1:=W.length;have l2:=w2.length;have l3:=r1.length;have l4:=r2.length;have j1:j<AQ.length:=by simpa using h1
    have j2:j<l.length:=by simpa using h2
    have N:ds[j]?=Z ds[j]:=by simp
    have d2:es[j]?=Z es[j]:=by simp
    obtain⟨a,ea,C⟩:=r1.get N;obtain⟨b,eb,B⟩:=r2.get d2;obtain⟨p,ep,rp⟩:=W.get ea;obtain⟨q,eq,rq⟩:=w2.get eb;have e1:AQ.toArray[j]=p:=by simpa[j1]using ep
    have e2:l.toArray[j]=q:=by simpa[j2]using eq
    rw[e1,e2];have m1:=vH N;have S:=vH d2;exact ih (by omega) (by rw[units_in1];omega) C B rp rq (F j _ _ N d2)
   cases d with
   |non=>
    cases m;cases w;cases e with
    |non=>cases c;cases g;cases ek;exact EqAt.same _
    |bl b=>cases c;cases g;cases ek;exact EqAt.none_bool b
    |int b=>cases c;obtain⟨t,rfl⟩:=g;cases ek;exact EqAt.none_int b t
    |str b=>obtain⟨rfl,_⟩:=c;obtain⟨t,rfl⟩:=g;cases ek;exact EqAt.none_str b t
    |tup es=>obtain⟨b,us,rfl,sq,_⟩:=c;cases g;cases ek;obtain⟨_,_,p,_⟩:=I.tuple sq;exact EqAt.none_tuple p h
    |lst es=>obtain⟨b,us,rfl,sq,_⟩:=c;cases g;cases ek;obtain⟨_,_,p,_⟩:=I.list sq.sq;exact EqAt.none_list p.isList h
    |emp=>cases ek
   |bl a=>
    cases m;cases w;cases e with
    |non=>cases c;cases g;cases ek;exact EqAt.bool_none a
    |bl b=>cases c;cases g;cases ek;exact EqAt.bool_bool a b
    |int b=>cases c;obtain⟨t,rfl⟩:=g;cases ek;exact EqAt.bool_int a b t
    |str b=>obtain⟨rfl,_⟩:=c;obtain⟨t,rfl⟩:=g;cases ek;exact EqAt.bool_str a b t
    |tup es=>obtain⟨b,us,rfl,sq,_⟩:=c;cases g;cases ek;obtain⟨_,_,p,_⟩:=I.tuple sq;exact EqAt.bool_tuple a p h
    |lst es=>obtain⟨b,us,rfl,sq,_⟩:=c;cases g;cases ek;obtain⟨_,_,p,_⟩:=I.list sq.sq;exact EqAt.bool_list a p.isList h
    |emp=>cases ek
   |int a=>
    cases m;obtain⟨i,rfl⟩:=w;cases e with
    |non=>cases c;cases g;cases ek;exact EqAt.int_none a i
    |bl b=>cases c;cases g;cases ek;exact EqAt.int_bool a i b
    |int b=>cases c;obtain⟨t,rfl⟩:=g;cases ek;exact EqAt.int_int a i b t
    |str b=>obtain⟨rfl,_⟩:=c;obtain⟨t,rfl⟩:=g;cases ek;exact EqAt.int_str a i b t
    |tup es=>obtain⟨b,us,rfl,sq,_⟩:=c;cases g;cases ek;obtain⟨_,_,p,_⟩:=I.tuple sq;exact EqAt.int_tuple a i p h
    |lst es=>obtain⟨b,us,rfl,sq,_⟩:=c;cases g;cases ek;obtain⟨_,_,p,_⟩:=I.list sq.sq;exact EqAt.int_list a i p.isList h
    |emp=>cases ek
   |str a=>
    obtain⟨rfl,_⟩:=m;obtain⟨i,rfl⟩:=w;cases e with
    |non=>cases c;cases g;cases ek;exact EqAt.str_none a i
    |bl b=>cases c;cases g;cases ek;exact EqAt.str_bool a i b
    |int b=>cases c;obtain⟨t,rfl⟩:=g;cases ek;exact EqAt.str_int a i b t
    |str b=>obtain⟨rfl,_⟩:=c;obtain⟨t,rfl⟩:=g;cases ek;exact EqAt.str_str a i b t
    |tup es=>obtain⟨b,us,rfl,sq,_⟩:=c;cases g;cases ek;obtain⟨_,_,p,_⟩:=I.tuple sq;exact EqAt.str_tuple a i p h
    |lst es=>obtain⟨b,us,rfl,sq,_⟩:=c;cases g;cases ek;obtain⟨_,_,p,_⟩:=I.list sq.sq;exact EqAt.str_list a i p.isList h
    |emp=>
     simp only[AW]at c;obtain⟨p,o,rfl,e⟩:=c;cases g;cases ek;obtain⟨_,_,vs,r,q⟩:=uM I.hok (.inr ⟨o,e⟩);exact W2 a i (zm Δ r q) h
   |tup ds=>
    obtain⟨a,vs,rfl,M,C⟩:=m;cases w;obtain⟨AQ,E,p,_⟩:=I.tuple M;cases e with
    |non=>cases c;cases g;cases ek;exact EqAt.tuple_none p h
    |bl b=>cases c;cases g;cases ek;exact EqAt.tuple_bool b p h
    |int b=>cases c;obtain⟨t,rfl⟩:=g;cases ek;exact EqAt.tuple_int b t p h
    |str b=>obtain⟨rfl,_⟩:=c;obtain⟨t,rfl⟩:=g;cases ek;exact EqAt.tuple_str b t p h
    |lst es=>obtain⟨b,us,rfl,sq,_⟩:=c;cases g;cases ek;obtain⟨_,_,p2,_⟩:=I.list sq.sq;exact EqAt.tuple_list p p2.isList h
    |tup es=>
     obtain⟨b,us,rfl,sb,B⟩:=c;cases g;obtain⟨l,D,p2,_⟩:=I.tuple sb;change mK _ _=Z _ at ek;obtain⟨f,F,rfl⟩:=vG ek;have J:a≠b:=λz=>L ⟨by rw[z],a,rfl⟩;have z:=EqAt.of_refs J (RcAt.tuples (A:=A) (e:=f) p p2 h (items (by simp only[wF]at P;omega) C B E D F));have q1:AQ.toArray.size=ds.length:=by rw[zS,<-E.length,C.length]
     have q2:l.toArray.size=es.length:=by rw[zS,<-D.length,B.length]
     rw[q1,q2]at z;exact z
    |emp=>cases ek
   |lst ds=>
    obtain⟨a,vs,rfl,M,C⟩:=m;cases w;obtain⟨AQ,E,p,_⟩:=I.list M.sq;cases e with
    |non=>cases c;cases g;cases ek;exact EqAt.list_none p.isList h
    |bl b=>cases c;cases g;cases ek;exact EqAt.list_bool b p.isList h
    |int b=>cases c;obtain⟨t,rfl⟩:=g;cases ek;exact EqAt.list_int b t p.isList h
    |str b=>obtain⟨rfl,_⟩:=c;obtain⟨t,rfl⟩:=g;cases ek;exact EqAt.list_str b t p.isList h
    |tup es=>obtain⟨b,us,rfl,sq,_⟩:=c;cases g;cases ek;obtain⟨_,_,p2,_⟩:=I.tuple sq;exact EqAt.list_tuple p.isList p2 h
    |lst es=>
     obtain⟨b,us,rfl,sb,B⟩:=c;cases g;obtain⟨l,D,p2,_⟩:=I.list sb.sq;change mK _ _=Z _ at ek;obtain⟨f,F,rfl⟩:=vG ek;have J:a≠b:=λz=>L ⟨by rw[z],a,rfl⟩;have q1:AQ.toArray.size=ds.length:=by rw[zS,<-E.length,C.length]
     have q2:l.toArray.size=es.length:=by rw[zS,<-D.length,B.length]
     by_cases Q:AQ.toArray.size=l.toArray.size
     ·have z:=EqAt.of_refs J (RcAt.lists (A:=A) (e:=f) p.isList p2.isList Q h (items (by simp only[wF]at P;omega) C B E D F));have G:ds.length=es.length:=by omega
      rw[q1]at z;rw[G,Nat.min_self,beq_self_eq_true,KM,<-G];exact z
     ·have G:(ds.length==es.length)=false:=by rw[beq_eq_false_iff_ne];omega
      rw[G,Bool.and_false];exact EqAt.of_refs J (RcAt.lists_lengths p.isList p2.isList (by simpa using Q) h)
    |emp=>cases ek
   |emp=>
    cases e<;>first|(cases ek;done)|skip;simp only[AW]at m c;obtain⟨a,o,rfl,e1⟩:=m;obtain⟨b,o',rfl,e2⟩:=c;cases w;cases g;cases ek;obtain⟨_,m1,vs,r,q⟩:=uM I.hok (.inr ⟨o,e1⟩);obtain⟨_,S,a0,r',q'⟩:=uM I.hok (.inr ⟨o',e2⟩);exact EqAt.of_refs (λz=>L ⟨by rw[z],a,rfl⟩) (IQ m1 S (zm Δ r q) (zm Δ r' q') h)
theorem O6(I:L2.AU X AN σ H s){es:U Dt}{us:U V}{c:U A0}{f:Nat->Bool}(B:min (qK ds) (qK es)<=n)(F:A.units+n+1<cLine)(r1:aK X.K H ds vs)(r2:aK X.K H es us)(e:AX vs AQ)(g:AX us c)(u:∀(j:Nat) x y,ds[j]?=Z x->es[j]?=Z y->zp x y=Z (f j)):∀j (h1:j<AQ.toArray.size) (h2:j<c.toArray.size),EqAt A.in1 s AQ.toArray[j] c.toArray[j] (f j):=by
 intro j h1 h2;have w:=e.length;have z:=g.length;have E:=r1.length;have C:=r2.length;have o:j<AQ.length:=by simpa using h1
 have l:j<c.length:=by simpa using h2
 have d:ds[j]?=Z (ds[j]'(by omega)):=by simp
 have d2:es[j]?=Z (es[j]'(by omega)):=by simp
 obtain⟨a,ea,t⟩:=r1.get d;obtain⟨b,eb,i⟩:=r2.get d2;obtain⟨p,ep,h⟩:=e.get ea;obtain⟨q,eq,m⟩:=g.get eb;have e1:AQ.toArray[j]=p:=by simpa[o]using ep
 have e2:c.toArray[j]=q:=by simpa[l]using eq
 rw[e1,e2];have D:=vH d;have v:=vH d2;exact MM I n (by omega) (by rw[units_in1];omega) t i h m (u j _ _ d d2)
def jf(K:B0)(H:Hp):Dt->V->Prop
 |.lst ds,v=>∃a vs,v=.ref a/\uZ K H a vs/\aK K H ds vs
 |d,v=>AW K H d v
def mH:Bx->Bool
 |.n _=>true
 |.m _ _=>true
 |_=>false
def toD:Bx->Dt
 |.z d=>d
 |.l ds=>.lst ds
 |.o ds=>.lst ds
 |.n _=>.non
 |.m _ _=>.non
theorem bh.toD(h:bh K H b v)(a:mH b=false):jf K H (toD b) v:=by
 cases b with
 |z d=>
  cases d with
  |lst ds=>exact h.Ie rfl
  |_=>exact h
 |l ds=>exact h.Ie rfl
 |o ds=>exact h.Ie rfl
 |n _=>cases a
 |m _ _=>cases a
theorem Vg(I:L2.AU X AN σ H s){e:Dt}{x y:V}{v:A0}{k:Bool}(P:min (wF d) (wF e)<=100)(hA:X.A.units+100<cLine)(z:jf X.K H d x)(h:jf X.K H e y)(B:As x u)(i:As y v)(ek:zp d e=Z k):RcAt X.A s u v k/\RcNeAt X.A s u v (!k):=by
 have g:X.A.units<cLine:=by omega
 cases d with
 |non=>
  cases z;cases B;cases e with
  |non=>
   cases h;cases i;cases ek;exact⟨.none_none,.none_none⟩
  |bl c=>
   cases h;cases i;cases ek;exact⟨.none_bool c,.none_bool c⟩
  |int c=>
   cases h;obtain⟨t2,rfl⟩:=i;cases ek;exact⟨.none_int c t2,.none_int c t2⟩
  |str c=>
   obtain⟨rfl,_⟩:=h;obtain⟨t2,rfl⟩:=i;cases ek;exact⟨.none_str c t2,.none_str c t2⟩
  |tup c=>
   obtain⟨a2,w,rfl,j,l⟩:=h;cases i;obtain⟨t,m,p2,_⟩:=I.tuple j;cases ek;exact⟨.none_tuple p2 g,.none_tuple p2 g⟩
  |lst c=>
   obtain⟨a2,w,rfl,j,l⟩:=h;cases i;obtain⟨t,m,p2,_⟩:=I.list j;cases ek;exact⟨.none_list p2.isList g,.none_list p2.isList g⟩
  |emp=>cases ek
 |bl x1=>
  cases z;cases B;cases e with
  |non=>
   cases h;cases i;cases ek;exact⟨.bool_none x1,.bool_none x1⟩
  |bl c=>
   cases h;cases i;cases ek;exact⟨.bool_bool x1 c,.bool_bool x1 c⟩
  |int c=>
   cases h;obtain⟨t2,rfl⟩:=i;cases ek;exact⟨.bool_int x1 c t2,.bool_int x1 c t2⟩
  |str c=>
   obtain⟨rfl,_⟩:=h;obtain⟨t2,rfl⟩:=i;cases ek;exact⟨.bool_str x1 c t2,.bool_str x1 c t2⟩
  |tup c=>
   obtain⟨a2,w,rfl,j,l⟩:=h;cases i;obtain⟨t,m,p2,_⟩:=I.tuple j;cases ek;exact⟨.bool_tuple x1 p2 g,.bool_tuple x1 p2 g⟩
  |lst c=>
   obtain⟨a2,w,rfl,j,l⟩:=h;cases i;obtain⟨t,m,p2,_⟩:=I.list j;cases ek;exact⟨.bool_list x1 p2.isList g,.bool_list x1 p2.isList g⟩
  |emp=>cases ek
 |int x1=>
  cases z;obtain⟨t1,rfl⟩:=B;cases e with
  |non=>
   cases h;cases i;cases ek;exact⟨.int_none x1 t1,.int_none x1 t1⟩
  |bl c=>
   cases h;cases i;cases ek;exact⟨.int_bool x1 t1 c,.int_bool x1 t1 c⟩
  |int c=>
   cases h;obtain⟨t2,rfl⟩:=i;cases ek;exact⟨.int_int x1 t1 c t2,.int_int x1 t1 c t2⟩
  |str c=>
   obtain⟨rfl,_⟩:=h;obtain⟨t2,rfl⟩:=i;cases ek;exact⟨.int_str x1 t1 c t2,.int_str x1 t1 c t2⟩
  |tup c=>
   obtain⟨a2,w,rfl,j,l⟩:=h;cases i;obtain⟨t,m,p2,_⟩:=I.tuple j;cases ek;exact⟨.int_tuple x1 t1 p2 g,.int_tuple x1 t1 p2 g⟩
  |lst c=>
   obtain⟨a2,w,rfl,j,l⟩:=h;cases i;obtain⟨t,m,p2,_⟩:=I.list j;cases ek;exact⟨.int_list x1 t1 p2.isList g,.int_list x1 t1 p2.isList g⟩
  |emp=>cases ek
 |str x1=>
  obtain⟨rfl,_⟩:=z;obtain⟨t1,rfl⟩:=B;cases e with
  |non=>
   cases h;cases i;cases ek;exact⟨.str_none x1 t1,.str_none x1 t1⟩
  |bl c=>
   cases h;cases i;cases ek;exact⟨.str_bool x1 t1 c,.str_bool x1 t1 c⟩
  |int c=>
   cases h;obtain⟨t2,rfl⟩:=i;cases ek;exact⟨.str_int x1 t1 c t2,.str_int x1 t1 c t2⟩
  |str c=>
   obtain⟨rfl,_⟩:=h;obtain⟨t2,rfl⟩:=i;cases ek;exact⟨.str_str x1 t1 c t2,.str_str x1 t1 c t2⟩
  |tup c=>
   obtain⟨a2,w,rfl,j,l⟩:=h;cases i;obtain⟨t,m,p2,_⟩:=I.tuple j;cases ek;exact⟨.str_tuple x1 t1 p2 g,.str_tuple x1 t1 p2 g⟩
  |lst c=>
   obtain⟨a2,w,rfl,j,l⟩:=h;cases i;obtain⟨t,m,p2,_⟩:=I.list j;cases ek;exact⟨.str_list x1 t1 p2.isList g,.str_list x1 t1 p2.isList g⟩
  |emp=>
   simp only[jf,AW]at h;obtain⟨p,o,rfl,e⟩:=h;cases i;cases ek;obtain⟨_,_,vs,r,q⟩:=uM I.hok (.inr ⟨o,e⟩);exact⟨JC x1 t1 (zm Δ r q) g,W0 x1 t1 (zm Δ r q) g⟩
 |tup x1=>
  obtain⟨a1,W,rfl,J,D⟩:=z;cases B;obtain⟨E,C,p1,_⟩:=I.tuple J;cases e with
  |non=>
   cases h;cases i;cases ek;exact⟨.tuple_none p1 g,.tuple_none p1 g⟩
  |bl c=>
   cases h;cases i;cases ek;exact⟨.tuple_bool c p1 g,.tuple_bool c p1 g⟩
  |int c=>
   cases h;obtain⟨t2,rfl⟩:=i;cases ek;exact⟨.tuple_int c t2 p1 g,.tuple_int c t2 p1 g⟩
  |str c=>
   obtain⟨rfl,_⟩:=h;obtain⟨t2,rfl⟩:=i;cases ek;exact⟨.tuple_str c t2 p1 g,.tuple_str c t2 p1 g⟩
  |tup c=>
   obtain⟨a2,w,rfl,j,l⟩:=h;cases i;obtain⟨t,m,p2,_⟩:=I.tuple j;change mK _ _=Z _ at ek;obtain⟨f,L,rfl⟩:=vG ek;have q1:E.toArray.size=x1.length:=by rw[zS,<-C.length,D.length]
   have q2:t.toArray.size=c.length:=by rw[zS,<-m.length,l.length]
   have it:=O6 I (n:=99) (A:=X.A) (by simp only[wF]at P;omega) (by omega) D l C m L;rw[<-q1,<-q2];exact⟨.tuples p1 p2 g it,.tuples p1 p2 g it⟩
  |lst c=>
   obtain⟨a2,w,rfl,j,l⟩:=h;cases i;obtain⟨t,m,p2,_⟩:=I.list j;cases ek;exact⟨.tuple_list p1 p2.isList g,.tuple_list p1 p2.isList g⟩
  |emp=>cases ek
 |lst x1=>
  obtain⟨a1,W,rfl,J,D⟩:=z;cases B;obtain⟨E,C,p1,_⟩:=I.list J;cases e with
  |non=>
   cases h;cases i;cases ek;exact⟨.list_none p1.isList g,.list_none p1.isList g⟩
  |bl c=>
   cases h;cases i;cases ek;exact⟨.list_bool c p1.isList g,.list_bool c p1.isList g⟩
  |int c=>
   cases h;obtain⟨t2,rfl⟩:=i;cases ek;exact⟨.list_int c t2 p1.isList g,.list_int c t2 p1.isList g⟩
  |str c=>
   obtain⟨rfl,_⟩:=h;obtain⟨t2,rfl⟩:=i;cases ek;exact⟨.list_str c t2 p1.isList g,.list_str c t2 p1.isList g⟩
  |tup c=>
   obtain⟨a2,w,rfl,j,l⟩:=h;cases i;obtain⟨t,m,p2,_⟩:=I.tuple j;cases ek;exact⟨.list_tuple p1.isList p2 g,.list_tuple p1.isList p2 g⟩
  |lst c=>
   obtain⟨a2,w,rfl,j,l⟩:=h;cases i;obtain⟨t,m,p2,_⟩:=I.list j;change mK _ _=Z _ at ek;obtain⟨f,L,rfl⟩:=vG ek;have q1:E.toArray.size=x1.length:=by rw[zS,<-C.length,D.length]
   have q2:t.toArray.size=c.length:=by rw[zS,<-m.length,l.length]
   have it:=O6 I (n:=99) (A:=X.A) (by simp only[wF]at P;omega) (by omega) D l C m L;by_cases G:E.toArray.size=t.toArray.size
   ·have F:x1.length=c.length:=by omega
    rw[F,Nat.min_self,beq_self_eq_true,KM,<-F,<-q1];exact⟨.lists p1.isList p2.isList G g it,.lists p1.isList p2.isList G g it⟩
   ·have F:(x1.length==c.length)=false:=by rw[beq_eq_false_iff_ne];omega
    rw[F,Bool.and_false];exact⟨.lists_lengths p1.isList p2.isList (by simpa using G) g,.lists_lengths p1.isList p2.isList (by simpa using G) g⟩
  |emp=>cases ek
 |emp=>
  cases e<;>first|(cases ek;done)|skip;simp only[jf,AW]at z h;obtain⟨a,o,rfl,e1⟩:=z;obtain⟨b,o',rfl,e2⟩:=h;cases B;cases i;cases ek;obtain⟨_,Q,vs,r,q⟩:=uM I.hok (.inr ⟨o,e1⟩);obtain⟨_,N,a0,S,M⟩:=uM I.hok (.inr ⟨o',e2⟩);exact⟨IQ Q N (zm Δ r q) (zm Δ S M) g,eA Q N (zm Δ r q) (zm Δ S M) g⟩
def C0(a b:Bx):O Bx:=if mH a=true\/mH b=true then Y else if min (wF (toD a)) (wF (toD b))<=100 then(zp (toD a) (toD b)).bind λk=>Z (.z (.bl k))else Y
def JD(a b:Bx):O Bx:=if mH a=true\/mH b=true then Y else if min (wF (toD a)) (wF (toD b))<=100 then(zp (toD a) (toD b)).bind λk=>Z (.z (.bl (!k)))else Y
theorem of_eq(i:X.A.units+100<cLine):Fg X (AG .Eq) C0:=by
 intro AN s σ H x y v u Q I f g h;obtain⟨a,b,c,m,l,e,q⟩:=h;unfold C0 at e;split at e
 ·cases e
 rename_i d;have ha:mH a=false:=by cases h:mH a with|false=>rfl|true=>exact absurd (.inl h) d
 have hb:mH b=false:=by cases h:mH b with|false=>rfl|true=>exact absurd (.inr h) d
 split at e
 ·rename_i j;obtain⟨k,ek,e⟩:=AT e;cases e;exact(Vg I j i (m.toD ha) (l.toD hb) f g ek).1 X.prog X.w X.xe _ ⟨.bl k,H,I,rfl,q _ H (AV.refl H) trivial (by unfold bh AW;rfl)⟩
 ·cases e
theorem uN(i:X.A.units+100<cLine):Fg X (AG .NotEq) JD:=by
 intro AN s σ H x y v u Q I f g h;obtain⟨a,b,c,m,l,e,q⟩:=h;unfold JD at e;split at e
 ·cases e
 rename_i d;have ha:mH a=false:=by cases h:mH a with|false=>rfl|true=>exact absurd (.inl h) d
 have hb:mH b=false:=by cases h:mH b with|false=>rfl|true=>exact absurd (.inr h) d
 split at e
 ·rename_i j;obtain⟨k,ek,e⟩:=AT e;cases e;exact(Vg I j i (m.toD ha) (l.toD hb) f g ek).2 X.prog X.w X.xe _ ⟨.bl (!k),H,I,rfl,q _ H (AV.refl H) trivial (by unfold bh AW;rfl)⟩
 ·cases e
theorem Dp{i:Int}:bh K H (.z (.int i)) (.int i):=by unfold bh AW;rfl
theorem Ii{b:Bool}:bh K H (.z (.bl b)) (.bl b):=by unfold bh AW;rfl
theorem F8(h:x.length<=AA):bh K H (.z (.str x)) (.str x):=by unfold bh AW;exact⟨rfl,h⟩
theorem Lb{i:Int}(h:bh K H (.z (.int i)) v):v=.int i:=by simpa only[bh,AW]using h
theorem W3(h:bh K H (.z (.str x)) v):v=.str x/\x.length<=AA:=by simpa only[bh,AW]using h
theorem FO(h:bh K H (.z (.tup ds)) v):∃a vs,v=.ref a/\wV K H a vs/\aK K H ds vs:=by simpa only[bh,AW]using h
def i2(g:Int->Int->O Dt):Bx->Bx->O Bx
 |.z (.int i),.z (.int j)=>(g i j).bind λd=>Z (.z d)
 |_,_=>Y
theorem Fw{f:A0->A0->Sem A0}{r:R2}{g:Int->Int->O Dt}(ho:xq X f r)(h:∀i j d H Q,g i j=Z d->(∀v,AW X.K H d v->Q v H)->r (.int i) (.int j) H Q):Fg X f (i2 g):=xq.imp ho λx y H Q q=>by
 obtain⟨a,b,c,n,l,e,q⟩:=q;unfold i2 at e;split at e
 ·rename_i i j;obtain⟨d,m,e⟩:=AT e;cases e;rw[Lb n,Lb l];exact h i j d H Q m λv o=>q v H (AV.refl H) trivial o
 ·cases e
theorem Fh{i:Int}:AW K H (.int i) (.int i):=by unfold AW;rfl
theorem EK{b:Bool}:AW K H (.bl b) (.bl b):=by unfold AW;rfl
abbrev C5:=i2 λi j=>Z (.int (i-j))
abbrev EH:=i2 λi j=>Z (.bl (decide (i<=j)))
abbrev HC:=i2 λi j=>Z (.bl (decide (j<i)))
abbrev FA:=i2 λi j=>Z (.bl (decide (j<=i)))
abbrev O7:=i2 λi j=>if 0<j/\j<1073741824 then Z (.int (i / j))else Y
abbrev jY:=i2 λi j=>if 0<j then Z (.int (i%j))else Y
abbrev HG:=i2 λi j=>if 0<=j/\j<=1000/\i.natAbs<2 ^ 64 then Z (.int (i ^ j.toNat))else Y
theorem Ld:Fg X (binaryOp .Sub) C5:=Fw ce λi j d H Q e q=>by cases e;exact⟨i,j,rfl,rfl,q _ Fh⟩
theorem C8:Fg X (AG .LtE) EH:=Fw US λi j d H Q e q=>by cases e;exact⟨i,j,rfl,rfl,q _ EK⟩
theorem Pw:Fg X (AG .Gt) HC:=Fw df λi j d H Q e q=>by cases e;exact⟨i,j,rfl,rfl,q _ EK⟩
theorem Lv:Fg X (AG .GtE) FA:=Fw TB λi j d H Q e q=>by cases e;exact⟨i,j,rfl,rfl,q _ EK⟩
theorem Le:Fg X (binaryOp .FloorDiv) O7:=Fw NM λi j d H Q e q=>by
 split at e
 ·rename_i h;cases e;exact⟨i,j,rfl,rfl,h,q _ Fh⟩
 ·cases e
theorem dF:Fg X (binaryOp .Mod) jY:=Fw XV λi j d H Q e q=>by
 split at e
 ·rename_i h;cases e;exact⟨i,j,rfl,rfl,h,q _ Fh⟩
 ·cases e
theorem WZ:Fg X (binaryOp .Pow) HG:=Fw bq λi j d H Q e q=>by
 split at e
 ·rename_i h;cases e;exact⟨i,j,rfl,rfl,⟨h.1,by omega,h.2.2⟩,q _ Fh⟩
 ·cases e
def Zr:Bx->O Bx
 |.z (.int i)=>Z (.z (.int (-i)))
 |_=>Y
theorem WC:L4 X (unaryOp .USub) Zr:=DE.imp XE λx H Q q=>by
 obtain⟨a,c,b,e,q⟩:=q;unfold Zr at e;split at e
 ·rename_i i;cases e;exact⟨i,Lb b,q _ H (AV.refl H) trivial Dp⟩
 ·cases e
def Sh:Nat:=1000000
theorem d4:Sh<=AA:=by decide
theorem cE{b:A1}{us:U V}{Q:VK}(I:L2.AU X AN σ H s)(g:uZ X.K H l vs)(hb:uZ X.K H b us)(h:vs.length+us.length<=AA)(q:∀p,H p=Y->Q (.ref p) (B5 H p (.lst (vs++us)))):
  A7 (A8 X.prog X.w) X.A (binaryOp .Add (.ref l) (.ref b)) (EP X AN σ Q) X.xe s:=by
 obtain⟨AQ,r1,⟨⟨z,t,x,sl⟩,i,e1,c1,c,d⟩,z1⟩:=I.list g;obtain⟨a,r2,⟨⟨cls2,y,n,j⟩,m,e2,c2,d2,f⟩,z2⟩:=I.list hb;simp only at c1 c d c2 d2 f;subst c1 c d c2 d2 f;have B:=r1.length;have u:=r2.length;have e:AQ.toArray++a.toArray=(AQ++a).toArray:=by simp
 refine concat_meets ⟨_,e1,rfl⟩ ⟨_,e2,rfl⟩ noFill_list_add seq_list_add PySem.F.slot_list_add PySem.F.entry_list_add (PySem.F.args_list_add_2 _ _) (list_addW l b AQ.toArray a.toArray i m Y Y sl j (by rw[zS,zS];omega)) ⟨e1,e2,?_⟩;rw[e];exact⟨.ref s.heap.objs.size,_,I.laid (t':=s.toks) (o:=.lst (vs++us)) (λb v q=>ze _ q) (zk _) ⟨by rw[z5];exact h,_,0,r1.append r2,zv _ rfl⟩,rfl,q _ (I.hok.fresh (zk _))⟩
theorem eJ{b:A1}{us:U V}{Q:VK}(I:L2.AU X AN σ H s)(c:wV X.K H l vs)(hb:wV X.K H b us)(f:vs.length+us.length<=AA)(m:vs=[]->Q (.ref b) H)(q1:us=[]->Q (.ref l) H)(q2:∀p,H p=Y->Q (.ref p) (B5 H p (.tup (vs++us)))):
  A7 (A8 X.prog X.w) X.A (binaryOp .Add (.ref l) (.ref b)) (EP X AN σ Q) X.xe s:=by
 by_cases a:vs=[]
 ·obtain⟨AQ,r1,⟨⟨u,g,t,sl⟩,e1,c1,h,d⟩,z1⟩:=I.tuple c;obtain⟨j,r2,⟨⟨cls2,n,q,i⟩,e2,c2,o,e⟩,z2⟩:=I.tuple hb;simp only at c1 d c2 e;subst c1 d c2 e;have:AQ=[]:=r1.Ea.mpr a;exact concat_meets ⟨_,e1,rfl⟩ ⟨_,e2,rfl⟩ noFill_tuple_add seq_tuple_add PySem.F.slot_tuple_add yT (yA _ _)
   (tuple_addW0 l b AQ.toArray j.toArray h o g n sl i (by simp[this])) ⟨e1,e2,⟨.ref b,H,I,rfl,m a⟩⟩
 ·exact az AN s σ H (.ref l) (.ref b) (.ref l) (.ref b) Q I Δ Δ ⟨l,b,vs,us,rfl,rfl,c,hb,a,f,q1,λ_=>q2⟩
def iK:Bx->Bx->O Bx
 |.z (.int i),.z (.int j)=>Z (.z (.int (i+j)))
 |.z (.str i),.z (.str j)=>if i.length+j.length<=Sh then Z (.z (.str (i++j)))else Y
 |.z (.tup xs),.z (.tup ys)=>if xs.length+ys.length<=Sh then Z (.z (.tup (xs++ys)))else Y
 |a,b=>(rO a).bind λxs=>(rO b).bind λys=>if xs.length+ys.length<=Sh then Z (.o (xs++ys))else Y
theorem D0(i j:AJ):(i++j).length=i.length+j.length:=by
 show(i.cps++j.cps).size=_;rw[KF];rfl
theorem dY:Fg X (binaryOp .Add) iK:=by
 intro AN s σ H x y v u Q I n g h;obtain⟨a,b,c,w,t,e,q⟩:=h;have B:=d4;unfold iK at e;split at e
 ·rename_i i j;cases e;exact XO AN s σ H x y v u Q I n g ⟨i,j,Lb w,Lb t,q _ H (AV.refl H) trivial Dp⟩
 ·rename_i i j;split at e
  ·rename_i A;cases e;exact RV AN s σ H x y v u Q I n g ⟨i,j,(W3 w).1,(W3 t).1,by omega,q _ H (AV.refl H) trivial (F8 (by rw[D0];omega))⟩
  ·cases e
 ·rename_i xs ys;split at e
  ·rename_i A;cases e;obtain⟨l,vs,rfl,sl,f⟩:=FO w;obtain⟨m,us,rfl,o,d⟩:=FO t;cases n;cases g;have h1:=f.length;have h2:=d.length;refine eJ I sl o (by omega) (λz=>q _ H (AV.refl H) trivial ?_) (λz=>q _ H (AV.refl H) trivial ?_) λp hp=>q _ _ (bV hp) trivial ?_
   ·unfold bh AW;refine⟨m,us,rfl,o,?_⟩;have:xs=[]:=by subst z;exact List.eq_nil_of_length_eq_zero (by simpa using h1.symm)
    rw[this,JE];exact d
   ·unfold bh AW;refine⟨l,vs,rfl,sl,?_⟩;have:ys=[]:=by subst z;exact List.eq_nil_of_length_eq_zero (by simpa using h2.symm)
    rw[this,ZU];exact f
   ·unfold bh AW;exact⟨p,_,rfl,.inl (.inl bJ),(f.append d).kp (.of (bV hp))⟩
  ·cases e
 ·obtain⟨xs,ea,e⟩:=AT e;obtain⟨ys,eb,e⟩:=AT e;split at e
  ·rename_i A;cases e;obtain⟨l,vs,rfl,sl,f⟩:=w.Ie ea;obtain⟨m,us,rfl,o,d⟩:=t.Ie eb;cases n;cases g;have h1:=f.length;have h2:=d.length;refine cE I sl o (by omega) λp hp=>q _ _ (bV hp) (λa ea=>by cases ea;exact hp) ⟨p,_,rfl,bJ,(f.append d).kp (.of (bV hp))⟩
  ·cases e
def zq:Bx->Bx->O Bx
 |.z (.int i),.z (.int j)=>if(-(2 ^ 64)<i/\i<2 ^ 64)\/(-(2 ^ 64)<j/\j<2 ^ 64)then Z (.z (.int (i*j)))else Y
 |.z (.str x),.z (.int n)=>if n<=1000 ∧ -1000<=n/\x.length<=1000 then Z (.z (.str (Txt.mul x n)))else Y
 |_,_=>Y
theorem xG(x:Array Nat):∀(n:Nat) (a:Array Nat),((List.replicate n x).foldl (·++·) a).size=a.size+n*x.size
 |0,a=>by simp
 |n+1,a=>by
  rw[k8,qh,xG x n,KF,Nat.succ_mul];omega
theorem Lf(x:AJ)(n:Int):(Txt.mul x n).length<=n.toNat*x.length+x.length:=by
 unfold Txt.mul;split
 ·exact QR _
 ·split
  ·exact Nat.le_add_left _ _
  ·show((List.replicate n.toNat x.cps).foldl (·++·) #[]).size<=_;rw[xG];show(#[]:Array Nat).size+n.toNat*x.cps.size<=n.toNat*x.cps.size+x.cps.size;simp
theorem vI:Fg X (binaryOp .Mult) zq:=by
 intro AN s σ H x y v u Q I g l h;obtain⟨a,b,c,o,m,e,q⟩:=h;unfold zq at e;split at e
 ·rename_i i j;split at e
  ·rename_i d;cases e;exact Pd AN s σ H x y v u Q I g l ⟨i,j,Lb o,Lb m,d,q _ H (AV.refl H) trivial Dp⟩
  ·cases e
 ·rename_i f n;split at e
  ·rename_i d;cases e;obtain⟨rfl,hx⟩:=W3 o;have p:=Lb m;subst p;obtain⟨t,rfl⟩:=g;obtain⟨z,rfl⟩:=l;have hs:AA=16777216:=sizeLine_eq;have A:n.toNat*f.length<=1000*1000:=Nat.mul_le_mul (by omega) d.2.2;refine SB.mul ⟨?_,λh1 h2=>?_,λh1 h2=>?_⟩ λz k=>⟨.str _,H,I.tok _,⟨_,rfl⟩,q _ H (AV.refl H) trivial (F8 (ZI (Lf f n) (by omega)))⟩
   ·have e1:decide (n < -(2 ^ 63:Int))=false:=ZH (by omega);have e2:decide (n>=2 ^ 63)=false:=ZH (by omega);rw[e1,e2];rfl
   ·have w:0<n:=by omega
    have:(1000:Int)<=(2 ^ 63-1) / n:=(Int.le_ediv_iff_mul_le w).mpr (by omega);omega
   ·show decide (f.length*n.toNat>AA)=false;rw[Nat.mul_comm];exact ZH (by omega)
  ·cases e
 ·cases e
def JF(i j:AJ):Bool:=!(Builtin.Str.occurrences j i 0 j.length 1).isEmpty
def zu:Dt->Bool
 |.non=>true
 |.bl _=>true
 |.int _=>true
 |.str _=>true
 |_=>false
def CS(x:Dt)(ys:U Dt):O Bool:=if zu x=true/\ys.all zu=true then Z (ys.any λy=>match zp y x with|some true=>true|_=>false)else Y
def vJ:Bx->O (U Dt)
 |.z (.lst ds)=>Z ds
 |.z (.tup ds)=>Z ds
 |.l ds=>Z ds
 |.o ds=>Z ds
 |_=>Y
def EF:Bx->Bx->O Bool
 |.z (.str i),.z (.str j)=>Z (JF i j)
 |.z d,b=>(vJ b).bind λys=>CS d ys
 |_,_=>Y
def Db(a b:Bx):O Bx:=(EF a b).bind λk=>Z (.z (.bl k))
def Ff(a b:Bx):O Bx:=(EF a b).bind λk=>Z (.z (.bl (!k)))
theorem O8(r:AW K H d v)(f:zu d=true):uL v=true:=by
 cases d<;>first|(cases f;done)|skip
 all_goals simp only[AW]at r
 ·subst r;rfl
 ·subst r;rfl
 ·subst r;rfl
 ·obtain⟨rfl,_⟩:=r;rfl
theorem JG{K:B0}{H:Hp}:∀{ds:U Dt} {vs:U V},aK K H ds vs->ds.all zu=true->vs.all uL=true
 |[],_,h,_=>by simp only[aK]at h;subst h;rfl
 |d::ds,_,h,f=>by
  simp only[aK]at h;obtain⟨v,r,rfl,h1,h2⟩:=h;rw[kB,ZY]at f;rw[kB,O8 h1 f.1,JG h2 f.2];rfl
theorem Lg(b:Bool):(match Z b with|some true=>true|_=>false)=b:=by cases b<;>rfl
theorem SW{e:Dt}{x y:V}(a:AW K H d x)(b:AW K H e y)(fd:zu d=true)(fe:zu e=true):D3 x y=(match zp d e with|some true=>true|_=>false):=by
 cases d<;>first|(cases fd;done)|skip
 all_goals (cases e<;>first|(cases fe;done)|skip)
 all_goals simp only[AW]at a b
 all_goals first
  |(subst a;subst b;exact(Lg _).symm)
  |(obtain⟨rfl,_⟩:=a;subst b;exact(Lg _).symm)
  |(subst a;obtain⟨rfl,_⟩:=b;exact(Lg _).symm)
  |(obtain⟨rfl,_⟩:=a;obtain⟨rfl,_⟩:=b;exact(Lg _).symm)
theorem Vh{K:B0}{H:Hp}{d:Dt}{x:V}(a:AW K H d x)(fd:zu d=true):∀{ds:U Dt} {vs:U V},aK K H ds vs->ds.all zu=true->F' x vs=ds.any λy=>match zp y d with|some true=>true|_=>false
 |[],_,h,_=>by simp only[aK]at h;subst h;rfl
 |e::ds,_,h,f=>by
  simp only[aK]at h;obtain⟨v,r,rfl,h1,h2⟩:=h;rw[kB,ZY]at f;have:=Vh a fd h2 f.2;unfold F' at this ⊢;rw[ke,ke,SW h1 a f.1 fd,this]
theorem zx(h:bh K H b v)(e:vJ b=Z ds):∃a vs,v=.ref a/\(uZ K H a vs\/wV K H a vs)/\aK K H ds vs:=by
 cases b with
 |z d=>
  cases d<;>first|(cases e;done)|skip
  ·cases e;obtain⟨a,vs,e,q,r⟩:=FO h;exact⟨a,vs,e,.inr q,r⟩
  ·cases e;obtain⟨a,vs,e,q,r⟩:=h.Ie rfl;exact⟨a,vs,e,.inl q,r⟩
 |l c=>
  cases e;obtain⟨a,vs,e,q,r⟩:=h.Ie rfl;exact⟨a,vs,e,.inl q,r⟩
 |o c=>
  cases e;obtain⟨a,vs,e,q,r⟩:=h.Ie rfl;exact⟨a,vs,e,.inl q,r⟩
 |n _=>cases e
 |m _ _=>cases e
theorem JH{a:Bx}{x y:V}{k:Bool}(h:bh X.K H a x)(g:bh X.K H b y)(e:EF a b=Z k):
  (∃i j,x=.str i/\y=.str j/\k=JF i j)\/(∃p xs,y=.ref p/\(uZ X.K H p xs\/wV X.K H p xs)/\uL x=true/\xs.all uL=true/\k=F' x xs):=by
 unfold EF at e;split at e
 ·rename_i i j;cases e;exact .inl ⟨i,j,(W3 h).1,(W3 g).1,rfl⟩
 ·rename_i d _;obtain⟨ys,m,e⟩:=AT e;unfold CS at e;split at e
  ·rename_i c;cases e;obtain⟨p,vs,rfl,sq,f⟩:=zx g m;have l:AW X.K H d x:=h;exact .inr ⟨p,vs,rfl,sq,O8 l c.1,JG f c.2,(Vh l c.1 f c.2).symm⟩
  ·cases e
 ·cases e
theorem N1:Fg X (AG .In) Db:=by
 intro AN s σ H x y v u Q I d f h;obtain⟨a,b,c,l,g,e,q⟩:=h;obtain⟨k,ek,e⟩:=AT e;cases e;rcases JH l g ek with⟨i,j,rfl,rfl,rfl⟩|⟨p,xs,rfl,sq,f1,f2,rfl⟩
 ·exact Ww AN s σ H _ _ v u Q I d f ⟨i,j,rfl,rfl,q _ H (AV.refl H) trivial Ii⟩
 ·exact Wz AN s σ H _ _ v u Q I d f ⟨p,xs,rfl,sq,f1,f2,q _ H (AV.refl H) trivial Ii⟩
theorem Zu:Fg X (AG .NotIn) Ff:=by
 intro AN s σ H x y v u Q I d f h;obtain⟨a,b,c,l,g,e,q⟩:=h;obtain⟨k,ek,e⟩:=AT e;cases e;rcases JH l g ek with⟨i,j,rfl,rfl,rfl⟩|⟨p,xs,rfl,sq,f1,f2,rfl⟩
 ·exact KY AN s σ H _ _ v u Q I d f ⟨i,j,rfl,rfl,q _ H (AV.refl H) trivial Ii⟩
 ·exact KR AN s σ H _ _ v u Q I d f ⟨p,xs,rfl,sq,f1,f2,q _ H (AV.refl H) trivial Ii⟩
def Sq:Bx->Bool
 |.z .non=>true
 |_=>false
theorem W4(h:bh K H b v):decide (v=.non)=Sq b:=by
 cases b with
 |z d=>
  cases d<;>simp only[bh,AW]at h
  ·subst h;rfl
  ·subst h;rfl
  ·subst h;rfl
  ·obtain⟨rfl,_⟩:=h;rfl
  ·obtain⟨_,_,rfl,_⟩:=h;rfl
  ·obtain⟨_,_,rfl,_⟩:=h;rfl
  ·obtain⟨_,_,rfl,_⟩:=h;rfl
 |l ds=>obtain⟨_,_,rfl,_⟩:=h;rfl
 |o ds=>obtain⟨_,_,rfl,_⟩:=h;rfl
 |n ds=>obtain⟨_,_,rfl,_⟩:=h;rfl
 |m ds _=>obtain⟨_,_,rfl,_⟩:=h;rfl
def xH(a:Bx):Bx->O Bx
 |.z .non=>Z (.z (.bl (!Sq a)))
 |_=>Y
theorem Ej:Fg X (AG .IsNot) xH:=xq.imp Rl λx y H Q q=>by
 obtain⟨a,b,c,f,d,e,q⟩:=q;unfold xH at e;split at e
 ·cases e;simp only[bh,AW]at d;exact⟨d,by rw[W4 f];exact q _ H (AV.refl H) trivial Ii⟩
 ·cases e
def gF:Bx->Bx->O Bx
 |.z (.str x),.z (.int i)=>(HY x.cps.toList i).bind λc=>Z (.z (.str ⟨#[c]⟩))
 |b,.z (.int i)=>(vJ b).bind λds=>(HY ds i).bind λd=>Z (.z d)
 |_,_=>Y
theorem UZ{i:Int}(r:aK K H ds vs)(e:HY ds i=Z d):∃v,HY vs i=Z v/\AW K H d v:=by
 unfold HY at e ⊢;rw[r.length];obtain⟨j,a,e⟩:=AT e;rw[a];exact r.get e
theorem bI{a b:Expr}(ha:QV X a fa)(hb:QV X b fb)(hs:U7 b:=by intro _ _;with_unfolding_all rfl):QV X (.Subscript a b pos) (b2 gF fa fb):=⟨have ha:=ha.run;have hb:=hb.run;Dk (SA VA ha hb hs) λσ H Q h=>by
 obtain⟨H0,ρ,c,E,e,q⟩:=h;obtain⟨a,ea,e⟩:=AT e;obtain⟨b,eb,e⟩:=AT e;refine⟨H0,ρ,a,E,ea,λv H1 f z r1=>⟨H0,ρ,b,E.grow f,eb,λu H2 g A r2=>?_⟩⟩;have j:=r1.same g;unfold gF at e;split at e
 ·rename_i x i;obtain⟨y,o,e⟩:=AT e;cases e;exact .inr (.inr ⟨_,_,y,(W3 j).1,Lb r2,(W3 j).2,o,q _ _ (f.trans g) trivial (F8 (by show(1:Nat)<=AA;decide))⟩)
 ·obtain⟨ds,t,e⟩:=AT e;obtain⟨d,s,e⟩:=AT e;cases e;obtain⟨p,vs,rfl,sq,n⟩:=zx j t;obtain⟨w,l,m⟩:=UZ n s;have hi:=Lb r2;rcases sq with sq|sq
  ·exact .inl ⟨p,vs,_,w,rfl,hi,sq,l,q _ _ (f.trans g) trivial m⟩
  ·exact .inr (.inl ⟨p,vs,_,w,rfl,hi,sq,l,q _ _ (f.trans g) trivial m⟩)
 ·cases e⟩
theorem bb:AH "bool"=Z (.type "bool"):=by decide +kernel
theorem Zv:AH "int"=Z (.type "int"):=by decide +kernel
theorem SR:AH "str"=Z (.type "str"):=by decide +kernel
theorem lR:AH "tuple"=Z (.type "tuple"):=by decide +kernel
theorem W1:AH "list"=Z (.type "list"):=by decide +kernel
theorem nQ:AH "isinstance"=Z (.builtin "isinstance"):=by decide +kernel
theorem Bo:AH "len"=Z (.builtin "len"):=by decide +kernel
theorem P3:AH "abs"=Z (.builtin "abs"):=by decide +kernel
theorem Zw:AH "all"=Z (.builtin "all"):=by decide +kernel
theorem Ss:AH "min"=Z (.builtin "min"):=by decide +kernel
theorem Bp:AH "max"=Z (.builtin "max"):=by decide +kernel
theorem JK:AH "sorted"=Z (.builtin "sorted"):=by decide +kernel
def BI:Dt->Bool
 |.bl _=>true
 |_=>false
theorem Zx(I:L2.AU X AN σ H s){x:V}{v:A0}{Q:VK}(f:jf X.K H d x)(g:As x v)(q:Q (.bl (BI d)) H):A7 (A8 X.prog X.w) X.A (call (.builtin "isinstance") [v,.type "bool"]) (EP X AN σ Q) X.xe s:=by
 cases d with
 |non=>simp only[jf,AW]at f;subst f;cases g;exact IsiPair.NoneType_bool ⟨.bl _,H,I.tok _,rfl,q⟩
 |bl b=>simp only[jf,AW]at f;subst f;cases g;exact IsiPair.bool_bool ⟨.bl _,H,I,rfl,q⟩
 |int b=>simp only[jf,AW]at f;subst f;obtain⟨t,rfl⟩:=g;exact IsiPair.int_bool ⟨.bl _,H,I.tok _,rfl,q⟩
 |str b=>simp only[jf,AW]at f;obtain⟨rfl,_⟩:=f;obtain⟨t,rfl⟩:=g;exact IsiPair.str_bool ⟨.bl _,H,I.tok _,rfl,q⟩
 |tup ds=>simp only[jf,AW]at f;obtain⟨a,vs,rfl,sq,_⟩:=f;cases g;obtain⟨_,_,p,_⟩:=I.tuple sq;exact IsiPair.isTuple_bool p (λ_ _ e=>e) ⟨.bl _,H,I.tok _,rfl,q⟩
 |lst ds=>simp only[jf]at f;obtain⟨a,vs,rfl,sq,_⟩:=f;cases g;obtain⟨_,_,p,_⟩:=I.list sq;exact IsiPair.isList_bool p.isList (λ_ _ e=>e) ⟨.bl _,H,I.tok _,rfl,q⟩
 |emp=>simp only[jf,AW]at f;obtain⟨a,o,rfl,sq⟩:=f;cases g;obtain⟨h,e,c⟩:=qN I sq;exact IsiPair.dict_bool e c ⟨.bl _,H,I.tok _,rfl,q⟩
theorem O9{p:Pos}(he:QV X e f)(hg:Gl X "isinstance")(j:X.mg "isinstance"=Y)(i:Gl X "bool")(a:X.mg "bool"=Y)(hs:A9 [e,.Name "bool" p2] X.env=[(false,eval e X.env),(false,eval (.Name "bool" p2) X.env)]:=by rfl):QV X (.Call (.Name "isinstance" p) [e,.Name "bool" p2] [] pos) (b1 (λb=>if mH b=true then Y else Z (.z (.bl (BI (toD b))))) f):=⟨by
 have he:=he.run;have m:gB X (.builtin "isinstance") (λxs H Q=>∃b x,xs=[x,.ty "bool"]/\bh X.K H b x/\mH b=false/\Q (.bl (BI (toD b))) H):=by
  intro AN s σ H xs us Q I r h;obtain⟨b,x,rfl,l,d,q⟩:=h;obtain⟨u,t,rfl,r1,r2⟩:=CB r;cases r2;exact Zx I (l.toD d) r1 q
 have ha:PA X [e,.Name "bool" p2] (yO (tF X.K f) (yO (tC (.ty "bool")) YL)):=jk he (jk (DX i a (v:=.ty "bool") (u:=.type "bool") bb Δ) tB) (by rw[hs]<;>rfl);refine Dk (sy m hg j nQ ha (by decide) (by decide) (by rw[hs]<;>rfl) Δ) λσ H Q h=>?_;obtain⟨H0,ρ,c,E,e,q⟩:=h;obtain⟨b,eb,e⟩:=AT e;split at e
 ·cases e
 rename_i g;cases e;exact⟨H0,ρ,b,E,eb,λv H1 n o r1=>⟨b,v,rfl,r1,by simpa using g,q _ _ n trivial Ii⟩⟩⟩
def Bq:Dt->Bool
 |.bl _=>true
 |.int _=>true
 |_=>false
theorem ax(I:L2.AU X AN σ H s){x:V}{v:A0}{Q:VK}(f:jf X.K H d x)(g:As x v)(q:Q (.bl (Bq d)) H):A7 (A8 X.prog X.w) X.A (call (.builtin "isinstance") [v,.type "int"]) (EP X AN σ Q) X.xe s:=by
 cases d with
 |non=>simp only[jf,AW]at f;subst f;cases g;exact IsiPair.NoneType_int ⟨.bl _,H,I.tok _,rfl,q⟩
 |bl b=>simp only[jf,AW]at f;subst f;cases g;exact IsiPair.bool_int ⟨.bl _,H,I,rfl,q⟩
 |int b=>simp only[jf,AW]at f;subst f;obtain⟨t,rfl⟩:=g;exact IsiPair.int_int ⟨.bl _,H,I,rfl,q⟩
 |str b=>simp only[jf,AW]at f;obtain⟨rfl,_⟩:=f;obtain⟨t,rfl⟩:=g;exact IsiPair.str_int ⟨.bl _,H,I.tok _,rfl,q⟩
 |tup ds=>simp only[jf,AW]at f;obtain⟨a,vs,rfl,sq,_⟩:=f;cases g;obtain⟨_,_,p,_⟩:=I.tuple sq;exact IsiPair.isTuple_int p (λ_ _ e=>e) ⟨.bl _,H,I.tok _,rfl,q⟩
 |lst ds=>simp only[jf]at f;obtain⟨a,vs,rfl,sq,_⟩:=f;cases g;obtain⟨_,_,p,_⟩:=I.list sq;exact IsiPair.isList_int p.isList (λ_ _ e=>e) ⟨.bl _,H,I.tok _,rfl,q⟩
 |emp=>simp only[jf,AW]at f;obtain⟨a,o,rfl,sq⟩:=f;cases g;obtain⟨h,e,c⟩:=qN I sq;exact IsiPair.dict_int e c ⟨.bl _,H,I.tok _,rfl,q⟩
theorem Sv{p:Pos}(he:QV X e f)(hg:Gl X "isinstance")(j:X.mg "isinstance"=Y)(i:Gl X "int")(a:X.mg "int"=Y)(hs:A9 [e,.Name "int" p2] X.env=[(false,eval e X.env),(false,eval (.Name "int" p2) X.env)]:=by rfl):QV X (.Call (.Name "isinstance" p) [e,.Name "int" p2] [] pos) (b1 (λb=>if mH b=true then Y else Z (.z (.bl (Bq (toD b))))) f):=⟨by
 have he:=he.run;have m:gB X (.builtin "isinstance") (λxs H Q=>∃b x,xs=[x,.ty "int"]/\bh X.K H b x/\mH b=false/\Q (.bl (Bq (toD b))) H):=by
  intro AN s σ H xs us Q I r h;obtain⟨b,x,rfl,l,d,q⟩:=h;obtain⟨u,t,rfl,r1,r2⟩:=CB r;cases r2;exact ax I (l.toD d) r1 q
 have ha:PA X [e,.Name "int" p2] (yO (tF X.K f) (yO (tC (.ty "int")) YL)):=jk he (jk (DX i a (v:=.ty "int") (u:=.type "int") Zv Δ) tB) (by rw[hs]<;>rfl);refine Dk (sy m hg j nQ ha (by decide) (by decide) (by rw[hs]<;>rfl) Δ) λσ H Q h=>?_;obtain⟨H0,ρ,c,E,e,q⟩:=h;obtain⟨b,eb,e⟩:=AT e;split at e
 ·cases e
 rename_i g;cases e;exact⟨H0,ρ,b,E,eb,λv H1 n o r1=>⟨b,v,rfl,r1,by simpa using g,q _ _ n trivial Ii⟩⟩⟩
def qm:Dt->Bool
 |.str _=>true
 |_=>false
theorem eK(I:L2.AU X AN σ H s){x:V}{v:A0}{Q:VK}(f:jf X.K H d x)(g:As x v)(q:Q (.bl (qm d)) H):A7 (A8 X.prog X.w) X.A (call (.builtin "isinstance") [v,.type "str"]) (EP X AN σ Q) X.xe s:=by
 cases d with
 |non=>simp only[jf,AW]at f;subst f;cases g;exact IsiPair.NoneType_str ⟨.bl _,H,I.tok _,rfl,q⟩
 |bl b=>simp only[jf,AW]at f;subst f;cases g;exact IsiPair.bool_str ⟨.bl _,H,I.tok _,rfl,q⟩
 |int b=>simp only[jf,AW]at f;subst f;obtain⟨t,rfl⟩:=g;exact IsiPair.int_str ⟨.bl _,H,I.tok _,rfl,q⟩
 |str b=>simp only[jf,AW]at f;obtain⟨rfl,_⟩:=f;obtain⟨t,rfl⟩:=g;exact IsiPair.str_str ⟨.bl _,H,I,rfl,q⟩
 |tup ds=>simp only[jf,AW]at f;obtain⟨a,vs,rfl,sq,_⟩:=f;cases g;obtain⟨_,_,p,_⟩:=I.tuple sq;exact IsiPair.isTuple_str p (λ_ _ e=>e) ⟨.bl _,H,I.tok _,rfl,q⟩
 |lst ds=>simp only[jf]at f;obtain⟨a,vs,rfl,sq,_⟩:=f;cases g;obtain⟨_,_,p,_⟩:=I.list sq;exact IsiPair.isList_str p.isList (λ_ _ e=>e) ⟨.bl _,H,I.tok _,rfl,q⟩
 |emp=>simp only[jf,AW]at f;obtain⟨a,o,rfl,sq⟩:=f;cases g;obtain⟨h,e,c⟩:=qN I sq;exact IsiPair.dict_str e c ⟨.bl _,H,I.tok _,rfl,q⟩
theorem Sw{p:Pos}(he:QV X e f)(hg:Gl X "isinstance")(j:X.mg "isinstance"=Y)(i:Gl X "str")(a:X.mg "str"=Y)(hs:A9 [e,.Name "str" p2] X.env=[(false,eval e X.env),(false,eval (.Name "str" p2) X.env)]:=by rfl):QV X (.Call (.Name "isinstance" p) [e,.Name "str" p2] [] pos) (b1 (λb=>if mH b=true then Y else Z (.z (.bl (qm (toD b))))) f):=⟨by
 have he:=he.run;have m:gB X (.builtin "isinstance") (λxs H Q=>∃b x,xs=[x,.ty "str"]/\bh X.K H b x/\mH b=false/\Q (.bl (qm (toD b))) H):=by
  intro AN s σ H xs us Q I r h;obtain⟨b,x,rfl,l,d,q⟩:=h;obtain⟨u,t,rfl,r1,r2⟩:=CB r;cases r2;exact eK I (l.toD d) r1 q
 have ha:PA X [e,.Name "str" p2] (yO (tF X.K f) (yO (tC (.ty "str")) YL)):=jk he (jk (DX i a (v:=.ty "str") (u:=.type "str") SR Δ) tB) (by rw[hs]<;>rfl);refine Dk (sy m hg j nQ ha (by decide) (by decide) (by rw[hs]<;>rfl) Δ) λσ H Q h=>?_;obtain⟨H0,ρ,c,E,e,q⟩:=h;obtain⟨b,eb,e⟩:=AT e;split at e
 ·cases e
 rename_i g;cases e;exact⟨H0,ρ,b,E,eb,λv H1 n o r1=>⟨b,v,rfl,r1,by simpa using g,q _ _ n trivial Ii⟩⟩⟩
def B4:Dt->Bool
 |.tup _=>true
 |_=>false
theorem W5(I:L2.AU X AN σ H s){x:V}{v:A0}{Q:VK}(f:jf X.K H d x)(g:As x v)(q:Q (.bl (B4 d)) H):A7 (A8 X.prog X.w) X.A (call (.builtin "isinstance") [v,.type "tuple"]) (EP X AN σ Q) X.xe s:=by
 cases d with
 |non=>simp only[jf,AW]at f;subst f;cases g;exact IsiPair.NoneType_tuple ⟨.bl _,H,I.tok _,rfl,q⟩
 |bl b=>simp only[jf,AW]at f;subst f;cases g;exact IsiPair.bool_tuple ⟨.bl _,H,I.tok _,rfl,q⟩
 |int b=>simp only[jf,AW]at f;subst f;obtain⟨t,rfl⟩:=g;exact IsiPair.int_tuple ⟨.bl _,H,I.tok _,rfl,q⟩
 |str b=>simp only[jf,AW]at f;obtain⟨rfl,_⟩:=f;obtain⟨t,rfl⟩:=g;exact IsiPair.str_tuple ⟨.bl _,H,I.tok _,rfl,q⟩
 |tup ds=>simp only[jf,AW]at f;obtain⟨a,vs,rfl,sq,_⟩:=f;cases g;obtain⟨_,_,p,_⟩:=I.tuple sq;exact IsiPair.isTuple_tuple p (λ_ _ e=>e) ⟨.bl _,H,I,rfl,q⟩
 |lst ds=>simp only[jf]at f;obtain⟨a,vs,rfl,sq,_⟩:=f;cases g;obtain⟨_,_,p,_⟩:=I.list sq;exact IsiPair.isList_tuple p.isList (λ_ _ e=>e) ⟨.bl _,H,I.tok _,rfl,q⟩
 |emp=>simp only[jf,AW]at f;obtain⟨a,o,rfl,sq⟩:=f;cases g;obtain⟨h,e,c⟩:=qN I sq;exact IsiPair.dict_tuple e c ⟨.bl _,H,I.tok _,rfl,q⟩
theorem Lh{p:Pos}(he:QV X e f)(hg:Gl X "isinstance")(j:X.mg "isinstance"=Y)(i:Gl X "tuple")(a:X.mg "tuple"=Y)(hs:A9 [e,.Name "tuple" p2] X.env=[(false,eval e X.env),(false,eval (.Name "tuple" p2) X.env)]:=by rfl):QV X (.Call (.Name "isinstance" p) [e,.Name "tuple" p2] [] pos) (b1 (λb=>if mH b=true then Y else Z (.z (.bl (B4 (toD b))))) f):=⟨by
 have he:=he.run;have m:gB X (.builtin "isinstance") (λxs H Q=>∃b x,xs=[x,.ty "tuple"]/\bh X.K H b x/\mH b=false/\Q (.bl (B4 (toD b))) H):=by
  intro AN s σ H xs us Q I r h;obtain⟨b,x,rfl,l,d,q⟩:=h;obtain⟨u,t,rfl,r1,r2⟩:=CB r;cases r2;exact W5 I (l.toD d) r1 q
 have ha:PA X [e,.Name "tuple" p2] (yO (tF X.K f) (yO (tC (.ty "tuple")) YL)):=jk he (jk (DX i a (v:=.ty "tuple") (u:=.type "tuple") lR Δ) tB) (by rw[hs]<;>rfl);refine Dk (sy m hg j nQ ha (by decide) (by decide) (by rw[hs]<;>rfl) Δ) λσ H Q h=>?_;obtain⟨H0,ρ,c,E,e,q⟩:=h;obtain⟨b,eb,e⟩:=AT e;split at e
 ·cases e
 rename_i g;cases e;exact⟨H0,ρ,b,E,eb,λv H1 n o r1=>⟨b,v,rfl,r1,by simpa using g,q _ _ n trivial Ii⟩⟩⟩
def XZ(K:B0)(f:Ev->O (O Int)):TO:=λσ H Q=>∃H0 ρ o,bQ K H0 H σ ρ/\f ρ=Z o/\∀H',AV H H'->Q o H'
def UI(X:Cx)(e:O Expr)(f:Ev->O (O Int)):Prop:=PO X e (XZ X.K f)
structure F7 (X:Cx) (e:Option Expr) (f:Ev->Option (Option Int)):Prop where
 run:UI X e f
theorem IF{e:O Expr}{t t':TO}(h:PO X e t)(m:∀ σ H Q,t' σ H Q->t σ H Q):PO X e t':=λAN s σ H Q I q=>h AN s σ H Q I (m σ H Q q)
def Bt:Ev->O (O Int):=λ_=>Z Y
theorem zy  :F7 X Y Bt:=⟨IF OX λσ H Q h=>by
 obtain⟨H0,ρ,o,E,e,q⟩:=h;cases e;exact q H (AV.refl H)⟩
def GE:Bx->O (O Int)
 |.z (.int i)=>Z (Z i)
 |_=>Y
def Fy(f:Ev->O Bx):Ev->O (O Int):=λρ=>(f ρ).bind GE
theorem zA(h:QV X e f):F7 X (Z e) (Fy f):=⟨have h:=h.run;IF (cr h) λσ H Q q=>by
 obtain⟨H0,ρ,o,E,e,q⟩:=q;obtain⟨b,eb,e⟩:=AT e;refine⟨H0,ρ,b,E,eb,λv H1 a c r1=>?_⟩;unfold GE at e;split at e
 ·rename_i i;cases e;exact⟨i,Lb r1,q H1 a⟩
 ·cases e⟩
def Bz(xs:U Dt)(lo hi:O Int):U Dt:=(xs.drop (HT.jA xs.length 0 lo)).take (HT.jA xs.length xs.length hi-HT.jA xs.length 0 lo)
theorem Pa(r:aK K H ds vs)(lo hi:O Int):aK K H (Bz ds lo hi) (Og vs lo hi):=by
 unfold Bz Og;rw[r.length];exact(r.drop _).take _
theorem Zy(ds:U Dt){lo:O Int}(h1:HT.jA ds.length 0 lo=0)(h2:HT.jA ds.length ds.length hi=ds.length):Bz ds lo hi=ds:=by
 unfold Bz;rw[h1,h2];simp
theorem zB{t sl:A1}{b c:A0}{lo:O Int}{Q:B8}(a:IsTup s.heap t items)(hs:s.heap.IsSliceOf sl b c .none)(pl:IsPart b lo)(d:IsPart c hi)(h1:HT.jA items.size 0 lo=0)(h2:HT.jA items.size items.size hi=items.size)(h:Q (.ref t) s):A7 (A8 prog w) A (getItem (.ref t) (.ref sl)) Q E s:=by
 obtain⟨os,i,f,j⟩:=id hs;have g:s.TypeIs (.ref sl) "slice":=⟨os,i,f⟩;unfold getItem
 try with_reducible refine QU ?_
 first|refine zd (zg ?_)|skip
 refine zd (wpAny_sequenceKey a.typeIs (by decide) ?_);refine zd (js (name:=Str.ofString "__getitem__") a.typeIs PyProof.Rows.slot_tuple_getitem
  (Q2 PyProof.Rows.slot_tuple_getitem a.typeIs entry_tuple_getitem ?_ (args_tuple_getitem _ _)))
 show A7 _ _ (Builtin.Tuple.tupleItemsOf (.ref t) >>= _) _ _ s;refine zd (tupleItemsOf_ a ?_);refine zd (Q1 g ?_);rw[zo (by decide)];refine zd (HT.sE hs pl d ?_);have e:(((HT.jA items.size 0 lo:Nat):Int)==0&&(1:Int)==1&&(HT.jA items.size items.size hi-HT.jA items.size 0 lo)==items.size)=true:=by
  rw[h1,h2];simp
 show A7 _ _ (if(((HT.jA items.size 0 lo:Nat):Int)==0&&(1:Int)==1&&(HT.jA items.size items.size hi-HT.jA items.size 0 lo)==items.size)=true then _ else _) _ _ s;rw[zo e]
 first
  |refine zd (zd (Q1 a.typeIs (zg ?_)))
  |refine zd (Q1 a.typeIs (zd (zg ?_)))
  |refine zd (Q1 a.typeIs ?_)
 rw[zo (by decide)]
 first
  |exact zd (kN (zg ⟨_,rfl,zg h⟩))
  |exact zd (kN (zd (zg (zg ⟨_,rfl,zg h⟩))))
def EM(b:Bx)(lo hi:O Int):O Bx:=match b with
 |.z (.str x)=>Z (.z (.str (Txt.slice x lo hi)))
 |.z (.tup ds)=>Z (.z (.tup (Bz ds lo hi)))
 |b=>(rO b).bind λds=>Z (.o (Bz ds lo hi))
def ck(K:B0):V->O Int->O Int->Hp->VK->Prop:=λx lo hi H Q=>∃b c,bh K H b x/\EM b lo hi=Z c/\∀w H',AV H H'->Nw H c w->bh K H' c w->Q w H'
theorem NW:FL X (ck X.K):=by
 intro AN s σ H x v B J lo hi sl Q I n hs pl f h;obtain⟨b,c,z,e,q⟩:=h;unfold EM at e;split at e
 ·rename_i y;cases e;obtain⟨rfl,d⟩:=W3 z;obtain⟨t,rfl⟩:=n;refine⟨"str", _,F.slot_str_getitem.lookup,typeIs_str _ _ _,?_⟩;obtain⟨o,e1,e2,e3⟩:=hs;have w:∀D k,EP X AN σ Q (.str (Txt.slice y lo hi) D) { s with toks:=k }:=λD k=>⟨.str _,H,I.tok _,⟨_,rfl⟩,q _ H (AV.refl H) trivial (F8 (ZI (Txt.slice_le y _ _) d))⟩;cases pl with
  |none=>
   cases f with
   |none=>exact Kt (l:=Y) (u:=Y) (st:=Y) ⟨o,e1,e2,e3⟩ Δ (post_val_or_str ⟨ZI (Txt.slice_le y _ _) d,w⟩)
   |int j A=>exact Kt (l:=Y) (u:=Z (j,A)) (st:=Y) ⟨o,e1,e2,e3⟩ Δ (post_val_or_str ⟨ZI (Txt.slice_le y _ _) d,w⟩)
  |int i E=>
   cases f with
   |none=>exact Kt (l:=Z (i,E)) (u:=Y) (st:=Y) ⟨o,e1,e2,e3⟩ Δ (post_val_or_str ⟨ZI (Txt.slice_le y _ _) d,w⟩)
   |int j A=>exact Kt (l:=Z (i,E)) (u:=Z (j,A)) (st:=Y) ⟨o,e1,e2,e3⟩ Δ (post_val_or_str ⟨ZI (Txt.slice_le y _ _) d,w⟩)
 ·rename_i ds;cases e;obtain⟨a,vs,rfl,sq,g⟩:=FO z;by_cases m:HT.jA vs.length 0 lo=0/\HT.jA vs.length vs.length hi=vs.length
  ·cases n;obtain⟨AQ,r,C,M⟩:=I.tuple sq;have G:AQ.toArray.size=vs.length:=by rw[zS];exact r.length.symm
   refine⟨"tuple", _,PyProof.Rows.slot_tuple_getitem.lookup,C.typeIs,zB C hs pl f (by rw[G];exact m.1) (by rw[G];exact m.2) ⟨.ref a,H,I,rfl,q _ H (AV.refl H) trivial ?_⟩⟩;rw[Zy ds (by rw[<-g.length];exact m.1) (by rw[<-g.length];exact m.2)];exact z
  ·refine ba AN s σ H _ v B J lo hi sl Q I n hs pl f ⟨a,vs,rfl,sq,m,λp hp=>q _ _ (bV hp) trivial ?_⟩;unfold bh AW;exact⟨p,_,rfl,.inl (.inl bJ),(Pa g lo hi).kp (.of (bV hp))⟩
 ·obtain⟨ds,L,e⟩:=AT e;cases e;obtain⟨a,vs,rfl,sq,g⟩:=z.Ie L;exact Th AN s σ H _ v B J lo hi sl Q I n hs pl f ⟨a,vs,rfl,sq,λp hp=>q _ _ (bV hp) (λa ea=>by cases ea;exact hp) ⟨p,_,rfl,bJ,(Pa g lo hi).kp (.of (bV hp))⟩⟩
def Zz(f:Ev->O Bx)(fl fh:Ev->O (O Int)):Ev->O Bx:=λρ=>(f ρ).bind λb=>(fl ρ).bind λlo=>(fh ρ).bind λhi=>EM b lo hi
theorem Vi{lo hi:O Expr}{fl fh:Ev->O (O Int)}(he:QV X e f)(a:F7 X lo fl)(d:F7 X hi fh):QV X (.Subscript e (.Slice lo hi Y p2) pos) (Zz f fl fh):=⟨have he:=he.run;have a:=a.run;have d:=d.run;Dk (YQ NW he a d) λσ H Q h=>by
 obtain⟨H0,ρ,c,E,e,q⟩:=h;obtain⟨b,eb,e⟩:=AT e;obtain⟨lo,el,e⟩:=AT e;obtain⟨hi,m,e⟩:=AT e;refine⟨H0,ρ,b,E,eb,λv H1 g t r1=>⟨H0,ρ,lo,E.grow g,el,λH2 i=>⟨H0,ρ,hi,E.grow (g.trans i),m,λs j=>?_⟩⟩⟩;have l:=(g.trans i).trans j;exact⟨b,c,(r1.same i).same j,e,λw o p n r4=>q w o (l.trans p) (n.old l) r4⟩⟩
def wX:U Bx->O Bx
 |[.z (.str x)]=>Z (.z (.int x.length))
 |[b]=>(vJ b).bind λds=>Z (.z (.int ds.length))
 |_=>Y
theorem BN(r:sI K H [b] vs):∃v,vs=[v]/\bh K H b v:=by
 cases r with
 |cons p t=>cases t;exact⟨_,rfl,p⟩
theorem F2{c:Bx}(r:sI K H [b,c] vs):∃v u,vs=[v,u]/\bh K H b v/\bh K H c u:=by
 cases r with
 |cons p t=>
  cases t with
  |cons p' a=>cases a;exact⟨_,_,rfl,p,p'⟩
theorem Bu:sJ X (.builtin "len") wX:=gB.imp (KZ.or K1) λxs H Q q=>by
 obtain⟨bs,c,a,e,q⟩:=q;unfold wX at e;split at e
 ·rename_i x;cases e;obtain⟨v,rfl,r1⟩:=BN a;obtain⟨rfl,hx⟩:=W3 r1;exact .inr ⟨x,rfl,hx,q _ H (AV.refl H) trivial Dp⟩
 ·obtain⟨ds,d,e⟩:=AT e;cases e;obtain⟨v,rfl,r1⟩:=BN a;obtain⟨p,vs,rfl,sq,b⟩:=zx r1 d;exact .inl ⟨p,vs,rfl,sq,by rw[b.length];exact q _ H (AV.refl H) trivial Dp⟩
 ·cases e
def ZC:U Bx->O Bx
 |[.z (.int i)]=>Z (.z (.int (if i<0 then -i else i)))
 |_=>Y
theorem Y3:sJ X (.builtin "abs") ZC:=gB.imp YK λxs H Q q=>by
 obtain⟨bs,c,a,e,q⟩:=q;unfold ZC at e;split at e
 ·rename_i i;cases e;obtain⟨v,rfl,r1⟩:=BN a;have:=Lb r1;subst this;exact⟨i,rfl,q _ H (AV.refl H) trivial Dp⟩
 ·cases e
def ZD:U Bx->O Bx
 |[.z (.int i)]=>Z (.z (.int i))
 |[.z (.bl k)]=>Z (.z (.int (if k then 1 else 0)))
 |_=>Y
theorem No:sJ X (.type "int") ZD:=gB.imp Wx λxs H Q q=>by
 obtain⟨bs,c,a,e,q⟩:=q;unfold ZD at e;split at e
 ·rename_i i;cases e;obtain⟨v,rfl,r1⟩:=BN a;have:=Lb r1;subst this;exact .inl ⟨i,rfl,q _ H (AV.refl H) trivial Dp⟩
 ·rename_i k;cases e;obtain⟨v,rfl,r1⟩:=BN a;simp only[bh,AW]at r1;subst r1;exact .inr ⟨k,rfl,q _ H (AV.refl H) trivial Dp⟩
 ·cases e
def j9:U Bx->O Bx
 |[b]=>(vJ b).bind λds=>Z (.z (.tup ds))
 |_=>Y
theorem n6:sJ X (.type "tuple") j9:=gB.imp Ib λxs H Q q=>by
 obtain⟨bs,c,d,e,q⟩:=q;unfold j9 at e;split at e
 ·obtain⟨ds,f,e⟩:=AT e;cases e;obtain⟨v,rfl,r1⟩:=BN d;obtain⟨p,vs,rfl,sq,a⟩:=zx r1 f;refine⟨p,vs,rfl,?_⟩;rcases sq with sq|sq
  ·refine .inl ⟨sq,λl b=>q _ _ (bV b) trivial ?_⟩;unfold bh AW;exact⟨l,vs,rfl,.inl (.inl bJ),a.kp (.of (bV b))⟩
  ·refine .inr ⟨sq,q _ H (AV.refl H) trivial ?_⟩;unfold bh AW;exact⟨p,vs,rfl,sq,a⟩
 ·cases e
def JL:U Dt->O (U Bool)
 |[]=>Z []
 |.bl b::ds=>(JL ds).bind λbs=>Z (b::bs)
 |_=>Y
theorem Fz{K:B0}{H:Hp}:∀{ds:U Dt} {bs:U Bool} {vs:U V} {us:U A0},JL ds=Z bs->aK K H ds vs->AX vs us->us=bs.map Value.bool
 |[],_,_,_,e,r,w=>by
  cases e;simp only[aK]at r;subst r;cases w;rfl
 |d::ds,_,_,_,e,r,w=>by
  simp only[aK]at r;obtain⟨v,a,rfl,h1,h2⟩:=r;cases d<;>first|(cases e;done)|skip;simp only[JL]at e;obtain⟨bs,e1,e⟩:=AT e;cases e;simp only[AW]at h1;subst h1;cases w with
  |cons p t=>
   cases p;rw[Fz e1 h2 t];rfl
theorem CH(bs:U Bool):((List.range bs.length).all λi=>bs.getD i false)=bs.all id:=by
 rw[JI,qB,qB];constructor
 ·intro h b hb;obtain⟨i,hi,rfl⟩:=List.mem_iff_getElem.mp hb;have:=h i (by simpa using hi);simpa[List.getD,hi]using this
 ·intro h i hi;have hi:i<bs.length:=by simpa using hi
  have:=h bs[i] (KL hi);simpa[List.getD,hi]using this
def CF:U Bx->O Bx
 |[b]=>(rO b).bind λds=>(JL ds).bind λbs=>Z (.z (.bl (bs.all id)))
 |_=>Y
theorem Pb(bs:U Bool):TruthOf prog w A (λi v=>(bs.map Value.bool).toArray[i]?=Z v) λi=>bs.getD i false:=λi v s Q E h q=>by
 have h':(bs.map Value.bool)[i]?=Z v:=by simpa using h
 rw[Zp]at h';cases e:bs[i]? with
 |none=>rw[e]at h';cases h'
 |some b=>
  rw[e]at h';cases h';have:bs.getD i false=b:=by simp[List.getD,e]
  have a:Q b s:=by rw[<-this];exact q
  exact jS a
theorem ZF(p:X.calm=true):sJ X (.builtin "all") CF:=by
 intro AN s σ H xs us Q I r h;obtain⟨bs,c,m,e,q⟩:=h;unfold CF at e;split at e
 ·obtain⟨ds,y,e⟩:=AT e;obtain⟨ks,ek,e⟩:=AT e;cases e;obtain⟨v,rfl,r1⟩:=BN m;obtain⟨a,vs,rfl,sq,g⟩:=r1.Ie y;obtain⟨u,rfl,x⟩:=BD r;cases x;obtain⟨AQ,w,pl,C⟩:=I.list sq;have d:=Fz ek g w;have f:a<s.heap.objs.size:=by obtain⟨o,n,e,_⟩:=pl;exact zD e
  refine call_all_walk (wpAny_pyIter_list pl.isList ?_);refine⟨s.heap.objs.size,_,_,_,_,_,λi=>ks.getD i false,rfl,Walks.list (by show X.A.handled=Y;exact I.ok.hd p) s.heap.objs.size a (z4 f) AQ.toArray,⟨⟨_,zv _ rfl,rfl,rfl⟩,pl.isList.push _⟩,?_,λh' tk k=>?_⟩
  ·rw[d];exact Pb ks
  ·have t:AQ.toArray.size=ks.length:=by rw[d];simp
   rw[t,CH];have B:L2.AU X AN σ H { s with heap:=s.heap.push { cls:=.type "list_iterator",data:=.fields #[.ref a,.int 0 0] } }:=I.kept (t':=s.toks) λb o e=>ze _ e;refine⟨.bl _,H,?_,rfl,q _ H (AV.refl H) trivial Ii⟩;obtain⟨f0,f1,f2,j,l,z⟩:=I.RK (b:=s.heap.objs.size) (H':=H) (zk _) (I.hok.fresh (zk _));exact B.turned (it:=s.heap.objs.size) (λb o hb e=>k b o (by simpa using hb) e) f0 f1 j l z
 ·cases e
end P1
namespace P1
open L2
def gv(i:Nat):Ev->O Bx:=λρ=>Bc ρ i
def vK(g:Bx->Bx->O Bx)(fa fb:Ev->O Bx):Ev->O Bool:=λρ=>(b2 g fa fb ρ).bind Fi
def tV(f:Ev->O Bx):Ev->O Bool:=λρ=>(f ρ).bind Zd
def aH:Ev->O (U Bx):=λ_=>Z []
def JM(p:Dt->Bool)(f:Ev->O Bx):Ev->O Bx:=b1 (λb=>if mH b=true then Y else Z (.z (.bl (p (toD b))))) f
def eV:Ev->O Ap:=λρ=>Z (.nx ρ)
def fV(f:Ev->O Bx):Ev->O Ap:=λρ=>(f ρ).bind Zg
def Au(i:Nat)(f:Ev->O Bx):Ev->O Ap:=λρ=>(f ρ).bind λb=>(WW ρ i b).bind λa=>Z (.nx a)
def W6(gt:Dt->Ev->O Ev)(f:Ev->O Bx):Ev->O Ap:=λρ=>(f ρ).bind λb=>match b with|.z d=>(gt d ρ).bind λa=>Z (.nx a)|_=>Y
def G0(i j:Nat)(fs:Ev->O (U Bx)):Ev->O Ap:=λρ=>(fs ρ).bind (FC i j ρ)
def Li(i:Nat)(f:Ev->O Bx):Ev->O Ap:=λρ=>(f ρ).bind (FH ρ i)
def xZ(fi:Ev->O (U Dt))(gt:Dt->Ev->O Ev)(gb:Ev->O Ap):Ev->O Ap:=λρ=>(fi ρ).bind λds=>rR gt gb ds ρ
def Fm(f:Ev->O Bx):Ev->O (U Dt):=λρ=>(f ρ).bind G1
def RD(f:Ev->O Bx):Ev->O (U Dt):=λρ=>(f ρ).bind Zq
def ZG(fs:Ev->O (U Bx)):Ev->O (U Dt):=λρ=>(fs ρ).bind GU
def lM(i:Nat):Dt->Ev->O Ev:=λd ρ=>Z (ρ.set i (Z (.z d)))
def zF:Ev->O Bool:=λ_=>Z true
theorem gZ:vD X [] zF:=⟨.inl ⟨rfl,rfl⟩⟩
theorem yc(h:QB X c p):vD X [c] p:=⟨have h:=h.run;.inr ⟨c,rfl,h⟩⟩
theorem XG:Ig X scope cl [] []:=trivial
theorem ar{xs:An}(n:X.N[i]?=Z x)(k:X.env.kindOf x=Z .cell\/X.env.kindOf x=Z .free)(a:(relabel scope X.env).names.lookup x=Z .cell\/(relabel scope X.env).names.lookup x=Z .free)(c:∃c,cl.lookup x=Z c)(r:Ig X scope cl xs is):Ig X scope cl (x::xs) (i::is):=⟨⟨n,k,a,c⟩,r⟩
theorem mem_of_lookup{a:U (AJ×NameKind)}{x:AJ}{k:NameKind}:a.lookup x=Z k->(x,k)∈a:=kf
theorem NS{xs:An}(clos:closureFor scope X.env=pure cl)(kind:scope.kind=.function)(cell:scope.names.all (λy=>decide (y.2≠.cell)||(cl.lookup y.1).isNone)=true)(names:scope.names.all (λy=>decide (y.2=.local->scope.names.lookup y.1=Z .local))=true)(sub:C7 X.env.cells cl)(has:(relabel scope X.env).names.all (λy=>!(y.2==.cell||y.2==.free)||(cl.lookup y.1).isSome||scope.names.contains (y.1,.cell))=true)(cap:Ig X scope cl xs is):rT X scope cl xs is where
 clos:=clos
 kind:=kind
 cell:=λy a b=>by
  have:=List.all_eq_true.mp cell y a;simp only[b,ne_eq,not_true_eq_false,kU,Bool.false_or,Option.isNone_iff_eq_none]at this;exact this
 names:=λy a=>Jn (List.all_eq_true.mp names y a)
 sub:=sub
 has:=λx hx=>by
  have h:∃k,(relabel scope X.env).names.lookup x=Z k/\(k==NameKind.cell||k==NameKind.free)=true:=by
   rcases hx with hx|hx
   ·exact⟨_,hx,rfl⟩
   ·exact⟨_,hx,rfl⟩
  obtain⟨k,e,c⟩:=h;have:=List.all_eq_true.mp has _ (mem_of_lookup e);simp only[c,kC,Bool.false_or,Bool.or_eq_true]at this;rcases this with h|h
  ·exact .inr (Option.isSome_iff_exists.mp h)
  ·exact .inl (List.contains_iff_mem.mp h)
 cap:=cap
theorem Vj{k:Nat}(r:nY k A):A.units+100<cLine:=by have:=r.un;omega
theorem UK{F:U Bx->O Bx}(h:∀b:U Int,b.length<=63->F [.z (.lst (b.map .int))]=Z (.z (.bl true)))(i:∀b:U Int,b.length<=63->F [.l (b.map .int)]=Z (.z (.bl true)))(K:B0)(H:Hp)(a:A1)(b:U Int)(g:b.length<=63)(_:CM H)(d:uZ K H a (b.map V.int)):
  De K 1 F [.ref a] H (λv _=>v=.bl true) λ_ _ _=>False:=by
 have e:∀c:U Int,aK K H (c.map Dt.int) (c.map V.int):=λc=>by
  induction c with
  |nil=>exact aK.nil
  |cons m c j=>exact aK.cons (by unfold AW;rfl) j
 have f:∀v (H':Hp),AV H H'->Nw H (.z (.bl true)) v->bh K H' (.z (.bl true)) v->v=.bl true:=λv H' _ _ r=>by simpa only[bh,AW]using r
 rcases d with d|d
 ·exact⟨rfl,[.l (b.map .int)],_,.cons ⟨a,_,rfl,d,e b⟩ .nil,rfl,i b g,f⟩
 ·refine⟨rfl,[.z (.lst (b.map .int))],_,.cons ?_ .nil,rfl,h b g,f⟩;unfold bh AW;exact⟨a,_,rfl,.inr d,e b⟩
theorem YA{st:AB}{f:A1}{k m:Nat}(F:Cc K x qual st f fd)(S:bC N ps (aO st))(c:N.length=n)(b:ps.length=m)(d:∀(a:A0) (A:A5) (outer:U Env) (s:A2) (H:Hp) (E:XK),nY k (A.deeper (AK qual (aO st) s.heap.objs.size f a))->Yl (Ez K4 P w K mg base N qual (aO st) f a A outer s H E).nox (jB st) g):
  u6 P w K mg base K4 (k+1) f fd ps (De K m (cZ n g)):=by
 subst c b;exact OC F S d
section
variable{st:Expr}{fs:Ev->O Bx}
theorem Lj{α β:Type}{f:α->O β}{g:α->β}:∀l:U α,(∀a∈l,f a=Z (g a))->l.filterMap f=l.map g
 |[],_=>rfl
 |a::l,h=>by
  rw[k9,h a (zi ..),zw,Lj l λb hb=>h b (zh _ hb)]
theorem aK.rev{K:B0}{H:Hp}:∀{ds:U Dt} {vs:U V},aK K H ds vs->aK K H ds.reverse vs.reverse
 |[],_,h=>by simp only[aK]at h;subst h;exact aK.nil
 |d::ds,_,h=>by
  simp only[aK]at h;obtain⟨v,r,rfl,b,a⟩:=h;rw[kL,kL];exact aK.append (aK.rev a) (aK.cons b aK.nil)
end
def D1:Bx->Bx->O Bx
 |.z (.int i),.z (.int j)=>Z (.z (.bl (decide (i<j))))
 |.z (.str x),.z (.str y)=>Z (.z (.bl (decide (x.cps.toList<y.cps.toList))))
 |_,_=>Y
theorem Sx:Fg X (AG .Lt) D1:=by
 intro AN s σ H x y v u Q I d f h;obtain⟨a,b,c,l,g,e,q⟩:=h;unfold D1 at e;split at e
 ·rename_i i j;cases e;exact UC AN s σ H x y v u Q I d f ⟨i,j,Lb l,Lb g,q _ H (AV.refl H) trivial (by unfold bh;exact EK)⟩
 ·rename_i i j;cases e;obtain⟨rfl,_⟩:=W3 l;obtain⟨rfl,_⟩:=W3 g;obtain⟨t,rfl⟩:=d;obtain⟨m,rfl⟩:=f;exact PySem.P.lt_str ⟨.bl _,H,I,rfl,q _ H (AV.refl H) trivial (by unfold bh;exact EK)⟩
 ·cases e
def FJ:U Dt->O An
 |[]=>Z []
 |.str x::r=>(FJ r).bind λys=>Z (x::ys)
 |_=>Y
theorem Bv{K:B0}{H:Hp}:∀{ds:U Dt} {vs:U V} {ys:An},aK K H ds vs->FJ ds=Z ys->vs=ys.map V.str/\∀y∈ys,y.length<=AA
 |[],_,_,h,e=>by cases e;simp only[aK]at h;subst h;exact⟨rfl,λy a=>by cases a⟩
 |.str x::ds,_,_,h,e=>by
  simp only[FJ]at e;obtain⟨ys,e1,e2⟩:=AT e;cases e2;simp only[aK]at h;obtain⟨v,r,rfl,c,b⟩:=h;obtain⟨rfl,hx⟩:v=.str x/\x.length<=AA:=by simpa only[AW]using c
  obtain⟨rfl,h2⟩:=Bv b e1;refine⟨rfl,λy a=>?_⟩;rcases List.mem_cons.mp a with rfl|a
  ·exact hx
  ·exact h2 y a
 |.non::_,_,_,_,e=>by cases e
 |.bl _::_,_,_,_,e=>by cases e
 |.int _::_,_,_,_,e=>by cases e
 |.tup _::_,_,_,_,e=>by cases e
 |.lst _::_,_,_,_,e=>by cases e
 |.emp::_,_,_,_,e=>by cases e
theorem FN{K:B0}{H:Hp}:∀{ys:An},(∀y∈ys,y.length<=AA)->aK K H (ys.map Dt.str) (ys.map V.str)
 |[],_=>aK.nil
 |y::ys,h=>aK.cons (by unfold AW;exact⟨rfl,h y (zi ..)⟩) (FN λz a=>h z (zh _ a))
theorem yd:∀{ys:An} {AQ:U A0},AX (ys.map V.str) AQ->StrsAre AQ ys
 |[],_,h=>by cases h;exact .nil
 |y::ys,_,h=>by
  cases h with
  |cons r t=>
   obtain⟨tk,rfl⟩:=r;exact .cons y tk (yd t)
theorem Bw:∀{AQ:U A0} {ys:An},StrsAre AQ ys->AX (ys.map V.str) AQ
 |_,_,.nil=>.nil
 |_,_,.cons y t h=>.cons ⟨t,rfl⟩ (Bw h)
theorem Ln:gB X (.builtin "sorted") (λxs H Q=>∃p ys,xs=[.ref p]/\uZ X.K H p (ys.map V.str)/\ys.length<64/\∀l zs,H l=Y->zs.Perm ys->sortedS zs=true->Q (.ref l) (B5 H l (.lst (zs.map V.str)))):=by
 intro AN s σ H xs us Q I r h;obtain⟨p,ys,rfl,j,v,q⟩:=h;obtain⟨u,rfl,g⟩:=BD r;cases g;obtain⟨AQ,c,pl,d⟩:=I.list j;have t:=c.length;rw[zl]at t d;refine sorted_strs pl.isList (yd c) (by omega) λf zs hs hp i=>?_;obtain⟨n,m⟩:=sortedAll_at s.heap AQ f;refine⟨.ref (s.heap.objs.size+1),_,I.laid (t':=s.toks) (a:=s.heap.objs.size+1) (o:=.lst (zs.map V.str)) (λb o e=>sortedAll_old e) (kP _) ?_,rfl,q _ zs (I.hok.fresh (kP _)) hp i⟩;refine⟨by rw[zl,hp.length_eq];exact d,f.toList,n,Bw hs,?_⟩;rw[m]
def JN(a b:AJ):Prop:=ltCps b.cps.toList a.cps.toList=false
theorem zG:∀(p:AJ) (l:An),risingS p l=true->(p::l).Pairwise JN
 |p,[],_=>by simp
 |p,x::r,h=>by
  have h':(!ltCps x.cps.toList p.cps.toList&&risingS x r)=true:=h;rw[ZY]at h';have c:=zG x r h'.2;have hx:JN p x:=by simpa[JN]using h'.1
  refine List.pairwise_cons.mpr ⟨λy b=>?_,c⟩;rcases List.mem_cons.mp b with rfl|b
  ·exact hx
  ·have a:JN x y:=JY c b;unfold JN at hx a ⊢;rw[ltCps_eq]at hx a ⊢;simp only[QP]at hx a ⊢;exact List.le_trans (α:=Nat) hx a
theorem Lq{l:An}(h:sortedS l=true):l.Pairwise JN:=by
 cases l with
 |nil=>exact .nil
 |cons p l=>exact zG p l h
theorem Pg{a b:AJ}(h:JN a b)(h':JN b a):a=b:=by
 unfold JN at h h';rw[ltCps_eq]at h h';simp only[QP]at h h';have:=List.le_antisymm (as:=a.cps.toList) (bs:=b.cps.toList) h h';cases a;cases b;simp only[Str.mk.injEq];exact Array.toList_inj.mp this
theorem Vk:∀{l l':An},l.Perm l'->l.Pairwise JN->l'.Pairwise JN->l=l'
 |[],l',h,_,_=>by rw[List.nil_perm.mp h]
 |a::l,[],h,_,_=>by cases List.perm_nil.mp h
 |a::l,b::l',h,p,p'=>by
  have e:a=b:=by
   have ha:a∈b::l':=h.mem_iff.mp (zi ..);have hb:b∈a::l:=h.mem_iff.mpr (zi ..);rcases List.mem_cons.mp ha with h1|h1
   ·exact h1
   ·rcases List.mem_cons.mp hb with h2|h2
    ·exact h2.symm
    ·exact Pg (JY p h2) (JY p' h1)
  subst e;rw[Vk ((List.perm_cons a).mp h) (List.pairwise_cons.mp p).2 (List.pairwise_cons.mp p').2]
def W7(a b:AJ):Bool:=!ltCps b.cps.toList a.cps.toList
def xJ(ys:An):An:=ys.mergeSort W7
theorem qp(ys:An):(xJ ys).Perm ys:=List.mergeSort_perm ys W7
theorem FP(ys:An):(xJ ys).Pairwise JN:=by
 have h:=yY (le:=W7) (λa b c h1 h2=>by
  unfold W7 at *
  rw[ltCps_eq]at *
  simp only[JA,QP]at *
  exact List.le_trans (α:=Nat) h1 h2) (λa b=>by
  unfold W7;rw[ltCps_eq,ltCps_eq];simp only[Bool.or_eq_true,JA,QP];exact List.le_total a.cps.toList b.cps.toList) ys
 exact h.imp λ{a b} hh=>by simpa[W7,JN]using hh
theorem ZJ{ys zs:An}(hp:zs.Perm ys)(hs:sortedS zs=true):zs=xJ ys:=Vk (hp.trans (qp ys).symm) (Lq hs) (FP ys)
def JQ:U Bx->O Bx
 |[b]=>(rO b).bind λds=>(FJ ds).bind λys=>if ys.length<64 then Z (.o ((xJ ys).map Dt.str))else Y
 |_=>Y
theorem W8:sJ X (.builtin "sorted") JQ:=gB.imp Ln λxs H Q q=>by
 obtain⟨bs,c,m,e,q⟩:=q;unfold JQ at e;split at e
 ·rename_i b;obtain⟨ds,n,e⟩:=AT e;obtain⟨ys,f,e⟩:=AT e;split at e
  ·rename_i j;cases e;obtain⟨v,rfl,r1⟩:=BN m;obtain⟨p,vs,rfl,sq,i⟩:=r1.Ie n;obtain⟨rfl,g⟩:=Bv i f;refine⟨p,ys,rfl,sq,j,λl zs d hp hs=>?_⟩;rw[ZJ hp hs];refine q _ _ (bV d) (λa ea=>by cases ea;exact d) ⟨l,_,rfl,bJ,FN λy h=>g y ((qp ys).mem_iff.mp h)⟩
  ·cases e
 ·cases e
def Ph(x:AJ)(b:Bx):O Bx:=(rO b).bind λds=>(FJ ds).bind λys=>if(ys.map (·.length)).sum+ys.length*x.length<=100000 then Z (.z (.str (Txt.join x ys)))else Y
theorem OP:L5 X "str.join" (λx xs H Q=>∃y p ys,x=.str y/\xs=[.ref p]/\uZ X.K H p (ys.map V.str)/\(ys.map (·.length)).sum+ys.length*y.length<=100000/\Q (.str (Txt.join y ys)) H):=by
 intro AN s σ H x xs v us Q I a b h;obtain⟨y,p,ys,rfl,rfl,sq,hb,q⟩:=h;obtain⟨t,rfl⟩:=a;obtain⟨u,rfl,d⟩:=BD b;cases d;obtain⟨AQ,c,pl,e⟩:=I.list sq;exact join_list pl.isList (yd c) (by omega) λf k=>⟨.str _,H,I.tok _,⟨_,rfl⟩,q⟩
theorem N9{p1:Pos}(h:QV X e f)(hx:x.length<=AA:=by decide)(n:attributeBase (.Constant (.str x) j p1) "join" X.env (eval (.Constant (.str x) j p1) X.env)=eval (.Constant (.str x) j p1) X.env:=by rfl)(m:((AD cpos (A9 [e] X.env)).all (λx=>!x.1)&&(backToKw cpos (keywordEach [] X.env)).all (λx=>x.1.isSome)&&decide ([e].length+([]:U AC).length+(if([]:U AC).isEmpty then 0 else 1)<30))=true:=by rfl)(d:(apos.endLine==cpos.line)=true:=by rfl)(hs:A9 [e] X.env=(false,eval e X.env)::A9 [] X.env:=by rfl):QV X (.Call (.Attribute (.Constant (.str x) j p1) "join" apos) [e] [] cpos) (b1 (Ph x) f):=⟨have h:=h.run;Dk (YT (T :="str") F.plainAttrs_str F.slot_str_join F.type_str_join OP (Zb (hx:=hx)) (Ot h Vb hs) n m d hs Δ) λσ H Q q=>by
  obtain⟨H0,ρ,c,E,e,q⟩:=q;obtain⟨a,ea,e⟩:=AT e;refine⟨H0,ρ,_,E,rfl,λv H1 b y r1=>?_⟩;obtain⟨rfl,z⟩:v=.str x/\x.length<=AA:=by simpa only[bh,AW]using r1
  refine⟨rfl,H0,ρ,[a],E.grow b,by simp only[aq,ea,Option.bind_some],λvs H2 s r2=>?_⟩;obtain⟨w,rfl,l⟩:=BN r2;unfold Ph at e;obtain⟨ds,o,e⟩:=AT e;obtain⟨ys,g,e⟩:=AT e;split at e
  ·rename_i hb;cases e;obtain⟨p,u,rfl,sq,i⟩:=l.Ie o;obtain⟨rfl,t⟩:=Bv i g;refine⟨x,p,ys,rfl,rfl,sq,hb,q _ _ (b.trans s) trivial ?_⟩;unfold bh AW;exact⟨rfl,joinOk_length (joinOk_of (by omega))⟩
  ·cases e⟩
def Ij:U Bx->O Bx
 |[.z (.int a),.z (.int b)]=>Z (.z (.int (if b>a then b else a)))
 |_=>Y
def W9:U Bx->O Bx
 |[.z (.int a),.z (.int b)]=>Z (.z (.int (if b<a then b else a)))
 |_=>Y
theorem ZK{a:Bx}(h:sI K H [a,b] vs):∃v w,vs=[v,w]/\bh K H a v/\bh K H b w:=by
 cases h with
 |cons p t=>
  cases t with
  |cons p' c=>cases c;exact⟨_,_,rfl,p,p'⟩
theorem BJ(g:X.calm=true):sJ X (.builtin "max") Ij:=by
 intro AN s σ H xs us Q I r h;obtain⟨bs,c,f,e,q⟩:=h;unfold Ij at e;split at e
 ·rename_i a b;cases e;obtain⟨v,w,rfl,r1,r2⟩:=ZK f;have d:=Lb r1;have l:=Lb r2;subst d l;obtain⟨u,m,rfl,j,i⟩:=AX.two r;obtain⟨t,rfl⟩:=j;obtain⟨n,rfl⟩:=i;refine max_two_ints (I.ok.hd g) λh' tk kp=>?_;by_cases hb:b>a
  ·rw[zo hb]at q ⊢;exact⟨.int b,H,I.kept kp,⟨_,rfl⟩,q _ H (AV.refl H) trivial Dp⟩
  ·rw[zC hb]at q ⊢;exact⟨.int a,H,I.kept kp,⟨_,rfl⟩,q _ H (AV.refl H) trivial Dp⟩
 ·cases e
theorem ZL(g:X.calm=true):sJ X (.builtin "min") W9:=by
 intro AN s σ H xs us Q I r h;obtain⟨bs,c,f,e,q⟩:=h;unfold W9 at e;split at e
 ·rename_i a b;cases e;obtain⟨v,w,rfl,r1,r2⟩:=ZK f;have d:=Lb r1;have l:=Lb r2;subst d l;obtain⟨u,m,rfl,j,i⟩:=AX.two r;obtain⟨t,rfl⟩:=j;obtain⟨n,rfl⟩:=i;refine min_two_ints (I.ok.hd g) λh' tk kp=>?_;by_cases hb:b<a
  ·rw[zo hb]at q ⊢;exact⟨.int b,H,I.kept kp,⟨_,rfl⟩,q _ H (AV.refl H) trivial Dp⟩
  ·rw[zC hb]at q ⊢;exact⟨.int a,H,I.kept kp,⟨_,rfl⟩,q _ H (AV.refl H) trivial Dp⟩
 ·cases e
def FQ(AO:U (AY×Dt))(x:AY):O Dt:=(AO.find? λa=>decide (a.1=x)).map (·.2)
def Lr(AO:U (AY×Dt))(x:AY)(d:Dt):U (AY×Dt):=
 if(AO.any λa=>decide (a.1=x))=true then AO.map (λa=>if a.1=x then(a.1,d)else a)else AO++[(x,d)]
theorem fK.nil:fK K H [] []:=⟨rfl,aK.nil,λp hp=>by cases hp⟩
theorem fK.inv{p:AY×Dt}{ks:U (AY×V)}(h:fK K H (p::AO) ks):∃v r,ks=(p.1,v)::r/\AW K H p.2 v/\D8 p.1/\fK K H AO r:=by
 obtain⟨h1,h2,a⟩:=h;cases ks with
 |nil=>simp at h1
 |cons q r=>
  simp only[zw,kA]at h1;obtain⟨e,h1⟩:=h1;simp only[zw,aK]at h2;obtain⟨v,d,e2,c,b⟩:=h2;simp only[kA]at e2;obtain⟨rfl,rfl⟩:=e2;exact⟨q.2,r,by rw[<-e],c,a p (zi ..),h1,b,λx hx=>a x (zh _ hx)⟩
theorem fK.cons{p:AY×Dt}{AO:U (AY×Dt)}{v:V}{r:U (AY×V)}(a:AW K H p.2 v)(hp:D8 p.1)(h:fK K H AO r):fK K H (p::AO) ((p.1,v)::r):=
 ⟨by simp[h.1],aK.cons a h.2.1,λx hx=>by
  rcases List.mem_cons.mp hx with rfl|hx
  ·exact hp
  ·exact h.2.2 x hx⟩
theorem fK.append{AO:U (AY×Dt)}{ks:U (AY×V)}{x:AY}{d:Dt}{v:V}(h:fK K H AO ks)(a:AW K H d v)(hx:D8 x):fK K H (AO++[(x,d)]) (ks++[(x,v)]):=
 ⟨by simp[h.1],by rw[qq,qq];exact aK.append h.2.1 (aK.cons a aK.nil),λp hp=>by
  rcases List.mem_append.mp hp with hp|hp
  ·exact h.2.2 p hp
  ·cases List.mem_singleton.mp hp;exact hx⟩
theorem fK.len{ks:U (AY×V)}(h:fK K H AO ks):ks.length=AO.length:=by
 have:=congrArg List.length h.1;simpa using this
theorem fK.look:∀{AO:U (AY×Dt)} {ks:U (AY×V)} {x:AY} {d:Dt},fK K H AO ks->FQ AO x=Z d->∃v,Az ks x=Z v/\AW K H d v
 |[],_,_,_,_,e=>by cases e
 |p::AO,_,x,d,h,e=>by
  obtain⟨v,r,rfl,b,c,a⟩:=h.inv;unfold FQ at e;by_cases hp:p.1=x
  ·rw[List.find?_cons_of_pos (by simpa using hp)]at e;cases e;exact⟨v,yR (by rw[hp]),b⟩
  ·rw[List.find?_cons_of_neg (by simpa using hp)]at e;obtain⟨w,e1,e2⟩:=fK.look a e;exact⟨w,(yS (by simpa using hp)).trans e1,e2⟩
theorem fK.any:∀{AO:U (AY×Dt)} {ks:U (AY×V)} {x:AY},fK K H AO ks->(ks.any λa=>decide (a.1=x))=AO.any λa=>decide (a.1=x)
 |[],ks,_,h=>by
  have:=h.len;cases ks with
  |nil=>rfl
  |cons _ _=>simp at this
 |p::AO,_,x,h=>by
  obtain⟨v,r,rfl,c,d,b⟩:=h.inv;rw[ke,ke,fK.any b]
theorem fK.ZM:∀{AO:U (AY×Dt)} {ks:U (AY×V)} {x:AY} {d:Dt} {v:V},fK K H AO ks->AW K H d v->fK K H (AO.map λa=>if a.1=x then(a.1,d)else a) (ks.map λa=>if a.1=x then(a.1,v)else a)
 |[],ks,_,_,_,h,_=>by
  have:=h.len;cases ks with
  |nil=>exact fK.nil
  |cons _ _=>simp at this
 |p::AO,_,x,d,v,h,hd=>by
  obtain⟨w,r,rfl,f,c,e⟩:=h.inv;rw[zw,zw];have b:=fK.ZM (x:=x) e hd;by_cases hp:p.1=x
  ·rw[zo hp,zo (by simp[hp])];exact fK.cons (p:=(p.1,d)) hd c b
  ·rw[zC hp,zC (by simpa using hp)];exact fK.cons f c b
theorem fK.put{ks:U (AY×V)}{x:AY}(h:fK K H AO ks)(a:AW K H d v)(hx:D8 x):fK K H (Lr AO x d) (BB ks x v):=by
 unfold Lr BB;rw[h.any];split
 ·exact h.ZM a
 ·exact h.append a hx
section
variable{ek o:Expr}{pos':Pos}
theorem Sr  :QV X (.Dict [] [] pos) (λ_=>Z (.m [] Y)):=⟨Dk Y5 λσ H Q h=>by
 obtain⟨H0,ρ,b,E,e,q⟩:=h;cases e;intro p hp;exact q _ _ (bV hp) (λa ea=>by cases ea;exact hp) ⟨p,[],rfl,bJ,fK.nil,λb h=>by cases h⟩⟩
def Cf:Bx->O AY
 |.z (.str x)=>Z (.inr x)
 |.z (.int i)=>Z (.inl i)
 |_=>Y
theorem Ls{k:AY}(e:Cf b=Z k)(r:bh K H b v):v=kV k/\D8 k:=by
 unfold Cf at e;split at e
 ·cases e;simp only[bh,AW]at r;exact r
 ·cases e;simp only[bh,AW]at r;exact⟨r,trivial⟩
 ·cases e
def lC:Bx->Bx->O Bx
 |.n AO,b=>(Cf b).bind λk=>(FQ AO k).bind λd=>Z (.z d)
 |_,_=>Y
theorem Sy{a c:Bx}(h:lC a b=Z c):∃AO k d,a=.n AO/\Cf b=Z k/\FQ AO k=Z d/\c=.z d:=by
 unfold lC at h;split at h
 ·obtain⟨k,ek,h⟩:=AT h;obtain⟨d,e,h⟩:=AT h;cases h;exact⟨_,k,d,rfl,ek,e,rfl⟩
 ·cases h
theorem g8(u:X.A.units+100<cLine)(ho:QV X o fo)(f:QV X ek fk)(hs:GW ek:=by intro _ _;rfl):QV X (.Subscript o ek pos) (b2 lC fo fk):=⟨have ho:=ho.run;have f:=f.run;Dk (ae (by omega) ho f hs) λσ H Q h=>by
 obtain⟨H0,ρ,c,E,e,q⟩:=h;obtain⟨a,ea,e⟩:=AT e;obtain⟨b,eb,e⟩:=AT e;refine⟨H0,ρ,a,E,ea,λv H1 i y r1=>⟨H0,ρ,b,E.grow i,eb,λw H2 g z r2=>?_⟩⟩;obtain⟨AO,x,d,rfl,j,n,rfl⟩:=Sy e;obtain⟨p,ks,rfl,t,l⟩:=r1.same g;obtain⟨s,ev,m⟩:=l.look n;obtain⟨rfl,_⟩:=Ls j r2;exact⟨p,s,rfl,.inl ⟨ks,x,t,rfl,ev.symm⟩,q _ _ (i.trans g) trivial m⟩⟩
def Pj(ρ:Ev)(i:Nat):Bx->Bx->O Ap
 |.z d,b=>(Cf b).bind λx=>match ρ[i]? with
  |some (Z (.m AO w))=>if AO.length<1000 then Z (.nx (ρ.set i (Z (.m (Lr AO x d) w))))else Y
  |_=>Y
 |_,_=>Y
def Pk(i:Nat)(f fk:Ev->O Bx):Ev->O Ap:=λρ=>(f ρ).bind λb=>(fk ρ).bind λk=>Pj ρ i b k
theorem SJ{k:Bx}{r:Ap}(h:Pj ρ i b k=Z r):∃d y AO w,b=.z d/\Cf k=Z y/\ρ[i]?=Z (Z (.m AO w))/\AO.length<1000/\r=.nx (ρ.set i (Z (.m (Lr AO y d) w))):=by
 unfold Pj at h;split at h
 ·obtain⟨y,a,h⟩:=AT h;split at h
  ·rename_i e;split at h
   ·rename_i c;cases h;exact⟨_,y,_,_,rfl,a,e,c,rfl⟩
   ·cases h
  ·cases h
 ·cases h
theorem Lx(i:Nat){p:Pos}(K:X.A.units+100<cLine)(he:QV X e f)(g:QV X ek fk)(C:X.N[i]?=Z x:=by rfl)(s:Yk X.env.scope x:=by first|exact kc rfl|exact jv (kc Δ)|exact jv (jv Δ))(t:(x==("__debug__":AJ))=false:=by decide)(z:(x==("__classdict__":AJ))=false:=by decide)(hs:swapsWith e (Z (.Subscript (.Name x p) ek pos')) pos.line X.env=pure false:=by rfl):Ou X (.Assign [.Subscript (.Name x p) ek pos'] e pos) (λρ=>(f ρ).bind λb=>(fk ρ).bind λk=>Pj ρ i b k):=⟨have he:=he.run;have g:=g.run;Va (UH (by omega) (uY (i:=i) C s t z) g he hs) λD σ H h=>by
  obtain⟨H0,ρ,r,E,e,q⟩:=h;obtain⟨b,eb,e⟩:=AT e;obtain⟨k,ek,e⟩:=AT e;refine⟨H0,ρ,b,E,eb,λv H1 G P r1=>?_⟩;obtain⟨d,y,AO,M,rfl,J,l,o,rfl⟩:=SJ e;have j:=E.grow G;obtain⟨w,e1,a,ks,rfl,ha,n,B⟩:=j.val i _ l;refine⟨_,e1,H0,ρ,_,j,ek,λu H2 c L r2=>?_⟩;obtain⟨rfl,I⟩:=Ls J r2;have F:=j.grow c;have m:=c _ _ ha;have kp:Kp H2 (B5 H2 a (.dK (BB ks y v))):=.dk m;refine⟨a,_,rfl,Y4.k (k:=y) m (by rw[n.len];exact Nat.lt_trans o (by decide)),q _ _ ?_⟩;exact F.ah2 l Δ e1 kp ⟨a,_,rfl,bJ,((n.kp (.of c)).put (x:=y) (bh.same c r1) I).kp kp,B⟩⟩
end
section
variable{a b:Expr}{fs:Ev->O (U Bx)}
theorem BK{j}(hx:x.length<=AA:=by decide):QV X (.Constant (.str x) j pos) (cB (.str x)):=⟨P1.Zb (hx:=hx)⟩
end
section
variable{a b:Expr}{fs:Ev->O (U Bx)}
variable{AS:U Expr}
theorem aj(h1:QV X e f)(h2:WQ X es fs)(hs:A9 (e::es) X.env=(false,eval e X.env)::A9 es X.env:=by rfl):WQ X (e::es) (aq f fs):=⟨P1.Ot (h1:=h1.run) (h2:=h2.run) (hs:=hs)⟩
theorem aA  :WQ X [] (λ_=>Z []):=⟨P1.Vb ⟩
end
theorem XY{st:AB}{f:A1}{k m:Nat}(F:Cc K x qual st f fd)(S:bC N ps (aO st))(e:N.length=n)(c:ps.length=m)(d:∀(a:A0) (A:A5) (outer:U Env) (s:A2) (H:Hp) (E:XK),nY k (A.deeper (AK qual (aO st) s.heap.objs.size f a))->WT (Ez K4 P w K mg base N qual (aO st) f a A outer s H E).nox (jB st) g):
  u6 P w K mg base K4 (k+1) f fd ps (De K m (cZ n g)):=YA F S e c λa A outer s H E b=>(d a A outer s H E b).run
theorem Cw:∀(vs:U A0) (ys:An),vs.length=ys.length->(∀(j:Nat) v,vs[j]?=Z v->∃y t,ys[j]?=Z y/\v=.str y t)->StrsAre vs ys
 |[],[],_,_=>.nil
 |v::vs,y::ys,hl,h=>by
  obtain⟨b,t,e,rfl⟩:=h 0 v rfl;cases e;exact .cons y t (Cw vs ys (by simpa using hl) λj v a=>h (j+1) v (by simpa using a))
theorem SM{AO:U (AY×A0)}{ys:An}(c:AO.map (·.1)=ys.map Sum.inr){b:Array A0}(h:ItemsOf (λi v=>∃k x,AO[i]?=Z (k,x)/\(bB prog w).is k v=true) b AO.length):StrsAre b.toList ys:=by
 have d:AO.length=ys.length:=by have:=congrArg List.length c;simpa using this
 refine Cw _ _ (by rw[qi,h.1,d]) λj v f=>?_;obtain⟨k,x,e,hi⟩:=h.2 j v (by simpa using f);have e1:(AO.map (·.1))[j]?=Z k:=by rw[Zp,e];rfl
 rw[c,Zp]at e1;cases a:ys[j]? with
 |none=>rw[a]at e1;cases e1
 |some y=>
  rw[a]at e1;cases e1;have g:lO (Sum.inr y) v=true:=hi;rcases bM g with⟨i,t,e2,e3⟩|⟨z,t,e2,e3⟩
  ·cases e2
  ·cases e2;exact⟨_,t,rfl,e3⟩
def Xa:U (AY×Dt)->O An
 |[]=>Z []
 |(.inr x,_)::r=>(Xa r).bind λys=>Z (x::ys)
 |(.inl _,_)::_=>Y
theorem wG:∀{AO:U (AY×Dt)} {ys:An},Xa AO=Z ys->AO.map (·.1)=ys.map Sum.inr
 |[],_,e=>by cases e;rfl
 |(.inr x,_)::r,_,e=>by
  obtain⟨ys,e1,e⟩:=AT e;cases e;rw[zw,zw,wG e1]
 |(.inl _,_)::_,_,e=>by cases e
theorem TZ{ys:An}(e:Xa AO=Z ys)(h:∀p∈AO,D8 p.1)(y:AJ)(a:y∈ys):y.length<=AA:=by
 have:(Sum.inr y:AY)∈AO.map (·.1):=by rw[wG e];exact List.mem_map.mpr ⟨y,a,rfl⟩
 obtain⟨p,hp,ep⟩:=List.mem_map.mp this;have:=h p hp;rw[ep]at this;exact this
theorem Vl:∀{ks:U (AY×V)} {vs:U (AY×A0)},KV ks vs->vs.map (·.1)=ks.map (·.1)
 |_,_,.nil=>rfl
 |_,_,.cons h t=>by rw[zw,zw,Vl t,h.1]
theorem bQ.aik(E:bQ K H0 H σ ρ)(i:Nat):bQ K H0 H σ (ρ.set i Y):=by
 have back:∀(j:Nat) (b:Bx),(ρ.set i Y)[j]?=Z (Z b)->ρ[j]?=Z (Z b):=λj b e=>by
  rw[yn]at e;split at e
  ·split at e<;>cases e
  ·exact e
 refine⟨by rw[ky];exact E.len,λj b e=>E.val j b (back j b e),λj k c a b e1 d e2 e3 g f=>E.own j k c a b (back _ _ e1) d e2 (back _ _ e3) g f,E.base,λj c a e1 d e2=>E.new j c a (back _ _ e1) d e2⟩
def kill(is:U Nat)(ρ:Ev):Ev:=is.foldl (λρ i=>ρ.set i Y) ρ
theorem bQ.kill{K:B0}{H0 H:Hp}{σ:L2.St}:∀(is:U Nat) {ρ:Ev},bQ K H0 H σ ρ->bQ K H0 H σ (P1.kill is ρ)
 |[],_,E=>E
 |i::is,_,E=>bQ.kill is (E.aik i)
def eF(is:U Nat):Ev->O Ap:=λρ=>Z (.nx (kill is ρ))
theorem ZP{a:U AB}(is:U Nat)(h:Yl X a g):Yl X a (aF g (eF is)):=HZ h λD σ H q=>by
 obtain⟨H0,ρ,r,E,e,q⟩:=q;obtain⟨r1,e1,e⟩:=AT e;refine⟨H0,ρ,r1,E,e1,?_⟩;cases r1 with
 |nx d=>cases e;exact λσ' H' c=>q σ' H' (c.kill is)
 |rt b=>cases e;exact q
 |bk b=>cases e;exact q
 |ct b=>cases e;exact q
theorem bK{a:U AB}(is:U Nat)(h:WT X a g):WT X a (aF g (eF is)):=⟨ZP is h.run⟩
end P1
namespace S1
section
variable(rk:A0->Nat)
def at_(xs:Array Keyed)(i:Nat):Nat:=match xs[i]? with
 |some p=>rk p.1
 |none=>0
def Up(xs:Array Keyed)(k:Nat):Prop:=∀i j,i<=j->j<k->at_ rk xs i<=at_ rk xs j
def CD(xs:Array Keyed)(k:Nat):Prop:=∀i j,i<=j->j<k->at_ rk xs j<=at_ rk xs i
structure Bs (kd:SortKind) (b:Array Keyed) (st:SortSt):Prop where
 pm:(arrOf st).Perm b
 kd:kindOf st=kd
 fl:failedOf st=none
 pd:pendingOf st=#[]
variable{rk}{kd:SortKind}{b:Array Keyed}
theorem Bs.sz{st:SortSt}(h:Bs kd b st):(AM st).size=b.size:=h.pm.size_eq
theorem Bs.arr{st:SortSt}{xs:Array Keyed}(h:Bs kd b st)(hp:xs.Perm (AM st)):Bs kd b (PyProof.Rows.setArr st xs):=⟨hp.trans h.pm,h.kd,h.fl,h.pd⟩
theorem vL{xs ys:Array Keyed}(h:xs[i]?=ys[j]?):at_ rk xs i=at_ rk ys j:=by unfold at_;rw[h]
theorem ZQ{xs:Array Keyed}{p d:Nat}(hs:p<xs.size)(a:d<=p)(k:Nat):at_ rk (bubble xs p d) k=if k=p-d then at_ rk xs p else if p-d<k/\k<=p then at_ rk xs (k-1)else at_ rk xs k:=by
 have e:=getElem?_bubble hs d a k;by_cases q:k=p-d
 ·simp only[zo q]at e ⊢;exact vL e
 ·simp only[zC q]at e ⊢;by_cases q2:p-d<k/\k<=p
  ·simp only[zo q2]at e ⊢;exact vL e
  ·simp only[zC q2]at e ⊢;exact vL e
theorem SN{xs:Array Keyed}(a:j<=xs.size)(k:Nat):at_ rk (mirror xs i j ((j-i) / 2)) k=if i<=k/\k<j then at_ rk xs (i+j-1-k)else at_ rk xs k:=by
 have e:=getElem?_mirror_all (i:=i) a k;by_cases q:i<=k/\k<j
 ·simp only[zo q]at e ⊢;exact vL e
 ·simp only[zC q]at e ⊢;exact vL e
theorem zH{xs:Array Keyed}(a:j<=xs.size)(he:∀k,i<=k->k<j->at_ rk xs k=at_ rk xs (j-1))(k:Nat):at_ rk (mirror xs i j ((j-i) / 2)) k=at_ rk xs k:=by
 rw[SN a];by_cases q:i<=k/\k<j
 ·rw[zo q,he (i+j-1-k) (by omega) (by omega),he k q.1 q.2]
 ·rw[zC q]
end
section
variable{b:Array Keyed}{kd:SortKind}{rk:A0->Nat}
def Yq(prog:A3)(w:A4)(A:A5)(s:A2)(kd:SortKind)(rk:A0->Nat)(b:Array Keyed):Prop:=
 ∀(E:B8) (p q:Keyed) (Q:Bool->A2->Prop),p∈b.toList->q∈b.toList->Q (decide (rk p.1<rk q.1)) s->A7 (A8 prog w) A (keyLt' kd p.1 q.1) Q E s
theorem Pn{st:SortSt}{Q:O Bool->SortSt->Prop}(c:Yq prog w A s kd rk b)(B:Bs kd b st)(hi:i<b.size)(a:j<b.size)(h:Q (Z (decide (at_ rk (AM st) i<at_ rk (AM st) j))) st):wpS (A8 prog w) A E s (ltAt' i j) Q st:=by
 have get:∀k,k<b.size->∃p,(AM st)[k]?=Z p/\p∈b.toList:=λk f=>by
  have d:k<(AM st).size:=by rw[B.sz];exact f
  exact⟨(AM st)[k],getElem?_pos _ k d,(Array.perm_iff_toList_perm.mp B.pm).mem_iff.mp (by simp)⟩
 obtain⟨p,e1,g⟩:=get i hi;obtain⟨q,e2,e⟩:=get j a;have h:Q (Z (decide (rk p.1<rk q.1))) st:=by unfold at_ at h;rw[e1,e2]at h;exact h
 rw[ltAt'_eq];refine AL (wpS_get ?_);show wpS _ _ _ _ (elem' (AM st) i >>= λx=>elem' (AM st) j >>= λy=>lt' x y) Q st;rw[elem'_eq,elem'_eq,e1,e2];refine AL (wpS_pure ?_);refine AL (wpS_pure ?_);rw[lt'_eq];refine AL (wpS_get ?_);rw[B.kd];exact AL (wpS_lift (wpAny_attempt (c _ p q _ g e ⟨rfl,wpS_pure h⟩)))
theorem M3{st:SortSt}{a:Nat}{Q:AscSt->SortSt->Prop}(g:Yq prog w A s kd rk b)(v:n<=b.size)(ha:1<=a)(o:a<=n)(B:Bs kd b st)(hs:Up rk (AM st) a)(h:∀m,a<=m->m<=n->Up rk (AM st) m->(m=n\/at_ rk (AM st) m<at_ rk (AM st) (m-1))->Q (Y,m) st):wpS (A8 prog w) A E s (ascLoop a n) Q st:=by
 unfold ascLoop;refine wpS_forRange (I:=λx c t=>t=st/\c=(Y,x)/\Up rk (AM st) x) ?_ ?_ ⟨rfl,rfl,hs⟩
 ·rintro x c t f u ⟨rfl,rfl,d⟩;refine AL (Pn g B (by omega) (by omega) ?_);by_cases q:at_ rk (AM t) x<at_ rk (AM t) (x-1)
  ·simp only[q,KO,qS];exact wpS_pure (h x f (by omega) d (.inr q))
  ·simp only[q,kU,zr,ZN];refine wpS_pure ⟨rfl,rfl,λi j l p=>?_⟩;by_cases hx:j<x
   ·exact d i j l hx
   ·have e:j=x:=by omega
    subst e;by_cases hi:i=j
    ·rw[hi];exact zk _
    ·have:=d i (j-1) (by omega) (by omega);omega
 ·rintro c t ⟨rfl,rfl,d⟩;rw[show max a n=n by omega]at d ⊢;exact h n o (zk _) d (.inl Δ)
theorem t3{st:SortSt}{m:Nat}{Q:O Nat->SortSt->Prop}(f:Yq prog w A s kd rk b)(g:n<=b.size)(h1:1<=m)(d:m<=n)(B:Bs kd b st)(hs:CD rk (AM st) m)(h:∀k t,Bs kd b t->1<=k->k<=n->Up rk (AM t) k->Q (Z k) t):wpS (A8 prog w) A E s (tail3 m n) Q st:=by
 unfold tail3;have a:m<=(AM st).size:=by rw[B.sz];omega
 refine AL (wpS_reverse ?_);have c:Bs kd b (PyProof.Rows.setArr st (mirror (AM st) 0 m ((m-0) / 2))):=B.arr (mirror_perm _ _ _ _);refine AL (M3 f g h1 d c (λi j p o=>?_) λk q l e _=>wpS_pure (h k _ c (by omega) l e));show at_ rk (mirror (AM st) 0 m ((m-0) / 2)) i<=at_ rk (mirror (AM st) 0 m ((m-0) / 2)) j;rw[SN a,SN a,zo ⟨by omega,by omega⟩,zo ⟨by omega,by omega⟩];exact hs _ _ (by omega) (by omega)
theorem TM{st:SortSt}{m:Nat}{Q:DescSt->SortSt->Prop}(f:Yq prog w A s kd rk b)(F:n<=b.size)(h1:1<=m)(o:m<=n)(B:Bs kd b st)(hs:CD rk (AM st) m)(h:∀k e t,Bs kd b t->m<=k->k<=n->CD rk (AM t) k->e+1<=k->(∀i,k-(e+1)<=i->i<k->at_ rk (AM t) i=at_ rk (AM t) (k-1))->Q (Y,k,e) t):wpS (A8 prog w) A E s (descLoop m n) Q st:=by
 unfold descLoop;refine wpS_forRange (I:=λx c t=>∃e,c=(Y,x,e)/\Bs kd b t/\CD rk (AM t) x/\e+1<=x/\∀i,x-(e+1)<=i->i<x->at_ rk (AM t) i=at_ rk (AM t) (x-1)) ?_ ?_ ⟨0,rfl,B,hs,by omega,λi q1 q2=>by rw[show i=m-1 by omega]⟩
 ·rintro x c t u C ⟨e,rfl,a,dn,d,eq⟩;have p:x<=(AM t).size:=by rw[a.sz];omega
  have grow:∀xs:Array Keyed,(∀k,at_ rk xs k=at_ rk (AM t) k)->at_ rk (AM t) x<=at_ rk (AM t) (x-1)->CD rk xs (x+1):=λxs g y i j v z=>by
   rw[g,g];by_cases hx:j<x
   ·exact dn i j v hx
   ·have l:j=x:=by omega
    subst l;by_cases hi:i=j
    ·rw[hi];exact zk _
    ·have:=dn i (j-1) (by omega) (by omega);omega
  dsimp only;refine AL (Pn f a (by omega) (by omega) ?_);by_cases q:at_ rk (AM t) x<at_ rk (AM t) (x-1)
  ·simp only[q,KO,qS];by_cases h0:e>0
   ·rw[zo h0];exact AL (wpS_reverse (wpS_pure ⟨0,rfl,a.arr (mirror_perm _ _ _ _),grow _ (zH p eq) (by omega),by omega,λi q1 q2=>by rw[show i=x by omega];rfl⟩))
   ·rw[zC h0];exact wpS_pure ⟨0,rfl,a,grow _ (λ_=>Δ) (by omega),by omega,λi q1 q2=>by rw[show i=x by omega];rfl⟩
  ·simp only[q,kU,zr,ZN];refine AL (Pn f a (by omega) (by omega) ?_);by_cases q2:at_ rk (AM t) (x-1)<at_ rk (AM t) x
   ·simp only[q2,KO,qS];exact wpS_pure (h x e t a u (by omega) dn d eq)
   ·simp only[q2,kU,zr,ZN];refine wpS_pure ⟨e+1,rfl,a,grow _ (λ_=>Δ) (by omega),by omega,λi G D=>?_⟩;rw[show x+1-1=x by omega];by_cases hi:i=x
    ·rw[hi]
    ·rw[eq i (by omega) (by omega)];omega
 ·rintro c t ⟨e,rfl,a,dn,d,eq⟩;rw[show max m n=n by omega]at dn d eq ⊢;exact h n e t a o (zk _) dn d eq
theorem IP{st:SortSt}{m:Nat}{Q:O Nat->SortSt->Prop}(a:Yq prog w A s kd rk b)(d:n<=b.size)(l:m+1<=n)(B:Bs kd b st)(hs:CD rk (AM st) (m+1))(h:∀k t,Bs kd b t->1<=k->k<=n->Up rk (AM t) k->Q (Z k) t):wpS (A8 prog w) A E s (descPart m n) Q st:=by
 unfold descPart;refine AL (wpS_lift (kN ⟨rfl,?_⟩));refine AL (TM a d (by omega) l B hs λk e t c q g dn u eq=>?_);have f:k<=(AM t).size:=by rw[c.sz];omega
 by_cases h0:e>0
 ·simp only[zo h0];refine AL (wpS_reverse (t3 a d (by omega) g (c.arr (mirror_perm _ _ _ _)) (λi j p o=>?_) h));show at_ rk (mirror (AM t) _ _ _) j<=at_ rk (mirror (AM t) _ _ _) i;rw[zH f eq,zH f eq];exact dn i j p o
 ·simp only[zC h0];exact t3 a d (by omega) g c dn h
theorem XB{st:SortSt}{Q:O Nat->SortSt->Prop}(c:Yq prog w A s kd rk b)(e:n<=b.size)(h1:1<=n)(B:Bs kd b st)(h:∀k t,Bs kd b t->1<=k->k<=n->Up rk (AM t) k->Q (Z k) t):wpS (A8 prog w) A E s (countRun' 0 n) Q st:=by
 rw[countRun0_eq];refine AL (M3 c e (zk 1) h1 B (λi j l g=>by rw[show i=j by omega];exact zk _) λm p o a or=>?_);by_cases d:m=n
 ·simp only[zo (show(m==n)=true by simpa using d)];exact wpS_pure (h m st B p o a)
 ·simp only[zC (show ¬ (m==n)=true by simpa using d)];have lt:=or.resolve_left d;have f:m<=(AM st).size:=by rw[B.sz];omega
  by_cases g1:m>1
  ·rw[zo g1];refine AL (Pn c B (by omega) (by omega) ?_);by_cases q:at_ rk (AM st) 0<at_ rk (AM st) (m-1)
   ·simp only[q,KO,qS];exact wpS_pure (h m st B p o a)
   ·simp only[q,kU,zr,ZN];have all:∀k,0<=k->k<m->at_ rk (AM st) k=at_ rk (AM st) (m-1):=λk _ x=>by
     have a1:=a 0 k (by omega) x;have a2:=a k (m-1) (by omega) (by omega);omega
    refine AL (wpS_reverse (IP c e (by omega) (B.arr (mirror_perm _ _ _ _)) (λi j l g=>?_) h));show at_ rk (mirror (AM st) _ _ _) j<=at_ rk (mirror (AM st) _ _ _) i;rw[zH f all,zH f all];by_cases v:j<m
    ·rw[all i (by omega) (by omega),all j (by omega) v];exact zk _
    ·have u:j=m:=by omega
     subst u;by_cases hi:i=j
     ·rw[hi];exact zk _
     ·rw[all i (by omega) (by omega)];omega
  ·rw[zC g1];have e1:m=1:=by omega
   subst e1;refine IP c e (by omega) B (λi j l g=>?_) h;by_cases hi:i=j
   ·rw[hi];exact zk _
   ·rw[show i=0 by omega,show j=1 by omega];exact j0 lt
theorem GI{st:SortSt}{g:Nat}{Q:Bool->SortSt->Prop}(C:Yq prog w A s kd rk b)(M:n<=b.size)(H:g<=n)(B:Bs kd b st)(hs:Up rk (AM st) g)(h:∀t,Bs kd b t->Up rk (AM t) n->Q true t):wpS (A8 prog w) A E s (binarySort' 0 n g) Q st:=by
 rw[binarySort'_eq];simp only[KA];refine AL (wpS_mono (wpS_forRange (I:=λk c t=>c=(Y,())/\Bs kd b t/\Up rk (AM t) (min k n)) (Q:=λc t=>c=(Y,())/\Bs kd b t/\Up rk (AM t) n) ?_ ?_ ?_) ?_)
 ·rintro k c t L J ⟨rfl,f,d⟩;rw[show min k n=k by omega]at d;have p:k<b.size:=by omega
  refine AL (wpS_mono (wpS_forRange (I:=λx c a=>a=t/\∃l r,c=(Y,l,r)/\l<=r/\r<=k/\r-l<=k-x/\(∀i,i<l->at_ rk (AM t) i<=at_ rk (AM t) k)/\(∀i,r<=i->i<k->at_ rk (AM t) k<at_ rk (AM t) i))
   (Q:=λc a=>a=t/\∃l r,c=(Y,l,r)/\l<=k/\(∀i,i<l->at_ rk (AM t) i<=at_ rk (AM t) k)/\(∀i,l<=i->i<k->at_ rk (AM t) k<at_ rk (AM t) i)) ?_ ?_ ?_) ?_)
  ·rintro x c a _ hx ⟨rfl,l,r,rfl,y,m,F,lo,hi⟩;dsimp only;by_cases v:l>=r
   ·rw[zo v];have e:l=r:=by omega
    subst e;exact wpS_pure ⟨rfl,l,l,rfl,m,lo,hi⟩
   ·rw[zC v];refine AL (Pn C f p (by omega) ?_);by_cases q:at_ rk (AM a) k<at_ rk (AM a) ((l+r) / 2)
    ·simp only[q,KO,qS];refine wpS_pure ⟨rfl,l,(l+r) / 2,rfl,by omega,by omega,by omega,lo,λi q1 q2=>?_⟩;have:=d ((l+r) / 2) i q1 q2;omega
    ·simp only[q,kU,zr,ZN];refine wpS_pure ⟨rfl,(l+r) / 2+1,r,rfl,by omega,by omega,by omega,λi q1=>?_,hi⟩;have:=d i ((l+r) / 2) (by omega) (by omega);omega
  ·rintro c a ⟨rfl,l,r,rfl,y,m,F,lo,hi⟩;have e:l=r:=by omega
   subst e;exact⟨rfl,l,l,rfl,m,lo,hi⟩
  ·exact⟨rfl,0,k,rfl,by omega,by omega,by omega,λi hi=>by omega,λi q1 q2=>by omega⟩
  ·rintro c a ⟨rfl,l,r,rfl,K,lo,hi⟩;show wpS _ _ _ _ (moveDown' k l >>= λ_=>pure (ForInStep.yield (Y,()))) _ _;rw[moveDown'_eq];refine AL (wpS_modify (wpS_pure ⟨rfl,f.arr (bubble_perm _ _ _),?_⟩));rw[show min (k+1) n=k+1 by omega];have o:k<(AM a).size:=by rw[f.sz];exact p
   intro i j u G;show at_ rk (bubble (AM a) k (k-l)) i<=at_ rk (bubble (AM a) k (k-l)) j;rw[ZQ o (by omega),ZQ o (by omega),show k-(k-l)=l by omega]
   repeat' split
   all_goals first
    |(exfalso;omega)
    |exact zk _
    |exact lo _ (by omega)
    |exact j0 (hi _ (by omega) (by omega))
    |exact d _ _ (by omega) (by omega)
 ·rintro c t ⟨D,f,d⟩;refine⟨D,f,?_⟩;rwa [show min (max (max g 1) n) n=n by omega]at d
 ·refine⟨rfl,B,λi j u G=>?_⟩;by_cases z:g=0
  ·rw[show i=j by omega];exact zk _
  ·exact hs i j u (by omega)
 ·rintro c t ⟨rfl,f,d⟩;exact wpS_pure (h t f d)
def Dn(kd:SortKind)(rk:A0->Nat)(b:Array Keyed)(st:SortSt):Prop:=(AM st).Perm b/\failedOf st=Y/\pendingOf st=#[(0,b.size,0)]/\Up rk (AM st) b.size
theorem Bs.dn{st:SortSt}(B:Bs kd b st)(a:Up rk (AM st) b.size):Dn kd rk b (setPending st ((pendingOf st).push (0,b.size,0))):=⟨B.pm,B.fl,(by show(pendingOf st).push _=_;rw[B.pd];rfl),a⟩
theorem HA{st:SortSt}{Q:Unit->SortSt->Prop}(d:Yq prog w A s kd rk b)(B:Bs kd b st)(h2:2<=b.size)(j:b.size<64)
  (h:∀t,(AM t).Perm b->failedOf t=Y->Up rk (AM t) b.size->Q () t):wpS (A8 prog w) A E s sortRuns' Q st:=by
 rw[sortRuns'_eq];refine AL (wpS_get ?_);have v:minRun' b.size b.size 0=b.size:=by
  obtain⟨f,i⟩:∃f,b.size=f+1:=⟨b.size-1,by omega⟩;have q:minRun' (f+1) b.size 0=b.size:=(minRun'_succ f b.size 0).trans (zo j);rwa [<-i]at q
 simp only[B.sz,v];have back:∀{t:SortSt},Bs kd b t->(pendingOf t).back?=Y:=λB=>by rw[B.pd];rfl
 refine AL (wpS_mono (wpS_forRange (I:=λx c t=>(x=0/\c=(Y,0)/\Bs kd b t)\/(1<=x/\c=(Y,b.size)/\Dn kd rk b t)) (Q:=λc t=>c=(Y,b.size)/\Dn kd rk b t) ?_ ?_ (.inl ⟨rfl,rfl,B⟩)) ?_)
 ·rintro x c t _ hx (⟨rfl,rfl,n⟩|⟨y,rfl,D⟩)
  ·dsimp only;rw[zC (by omega)];simp only[Nat.sub_zero,Nat.min_self,KA];refine AL (XB d (zk _) (by omega) n λm t2 a z p g=>?_);dsimp only;by_cases lt:m<b.size
   ·rw[zo lt];refine AL (wpS_lift (kN ⟨rfl,AL (GI d (zk _) p a g λt3 B3 l=>?_)⟩));simp only[kC,zr,ZN];refine AL (wpS_get ?_);rw[back B3];exact AL (wpS_modify (wpS_pure (.inr ⟨by omega,rfl,B3.dn l⟩)))
   ·rw[zC lt];have e:m=b.size:=by omega
    subst e;refine AL (wpS_get ?_);rw[back a];exact AL (wpS_modify (wpS_pure (.inr ⟨by omega,rfl,a.dn g⟩)))
  ·dsimp only;rw[zo (zk _)];exact wpS_pure ⟨rfl,D⟩
 ·rintro c t (⟨hx,_,_⟩|⟨_,o,D⟩)
  ·omega
  ·exact⟨o,D⟩
 ·rintro c t ⟨rfl,D⟩;dsimp only;refine AL (wpS_mono (wpS_forRange (I:=λ_ c u=>u=t/\c=(Y,())) (Q:=λc u=>u=t/\c=(Y,())) ?_ (λ_ _ q=>q) ⟨rfl,rfl⟩) ?_)
  ·rintro x c u _ _ ⟨rfl,rfl⟩;refine AL (wpS_get ?_);rw[zo (by rw[D.2.2.1];exact zk 1)];exact wpS_pure ⟨rfl,rfl⟩
  ·rintro c u ⟨rfl,rfl⟩;exact wpS_pure (h _ D.1 D.2.1 D.2.2.2)
def EL(a:A1)(s s':A2):Prop:=∀c o,c≠a->s.heap.get? c=Z o->s'.heap.get? c=Z o
theorem Mn{vs:U A0}{P:Fin->A2->Prop}(ho:s.heap.get? a=Z (seqObj "list" vs.toArray n))(v:2<=vs.length->∀s',EL a s s'->∀Q:SortKind->A2->Prop,Q kd s'->A7 (A8 prog w) A (keyKind' vs.toArray) Q E s')(u:∀s',EL a s s'->Yq prog w A s' kd rk (pairsOf vs))(m:vs.length<64)(h:∀st:SortSt,(AM st).Perm (pairsOf vs)->Up rk (AM st) (pairsOf vs).size->P (.done (.ret .none)) { s with heap:=sortedHeap s.heap a vs ((AM st).map (·.2)) }):
  A7 (A8 prog w) A (Builtin.«list.sort» ⟨[.ref a],[]⟩) P E s:=by
 rw[list_sort_plain];have ha:=zD ho;refine zd (listItems_at ho Δ (zd (listUpdate_at ho Δ ?_)));obtain⟨e1,g1⟩:∃e1,(s.heap.update a (Obj.mapSeq λ_=>#[])).get? a=Z (seqObj "list" #[] e1):=⟨_,get?_update_seq ho λ_=>#[]⟩;refine zd (seqEpoch_at g1 Δ (zd (wpAny_newTuple (zd (wpAny_newList (QU ?_))))));have z1:(s.heap.update a (Obj.mapSeq λ_=>#[])).objs.size=s.heap.objs.size:=Heap.size_update ..;have keep:∀c,c<s.heap.objs.size->(((s.heap.update a (Obj.mapSeq λ_=>#[])).push (seqObj "tuple" vs.toArray 0)).push (seqObj "list" #[] 0)).get? c=(s.heap.update a (Obj.mapSeq λ_=>#[])).get? c:=λc b=>by
  rw[Heap.get?_push_ne _ _ _ (by rw[size_push',z1];exact z4 (QA b)),Heap.get?_push_ne _ _ _ (by rw[z1];exact z4 b)]
 have d:=(keep a ha).trans g1;have old:EL a s { s with heap:=((s.heap.update a (Obj.mapSeq λ_=>#[])).push (seqObj "tuple" vs.toArray 0)).push (seqObj "list" #[] 0) }:=λc o b e=>by
  show(((s.heap.update a (Obj.mapSeq λ_=>#[])).push (seqObj "tuple" vs.toArray 0)).push (seqObj "list" #[] 0)).get? c=Z o;rw[keep c (zD e),JJ _ _ _ _ b];exact e
 show A7 _ _ _ _ _ { s with heap:=((s.heap.update a (Obj.mapSeq λ_=>#[])).push (seqObj "tuple" vs.toArray 0)).push (seqObj "list" #[] 0) };have y:vs.toArray.size=vs.length:=by simp
 have f:∀st:SortSt,(AM st).Perm (pairsOf vs)->((AM st).map (·.2)).size<=AA+1:=λst hp=>by
  have q:((AM st).map (·.2)).size=vs.length:=(Array.size_map ..).trans (hp.size_eq.trans (pairsOf_size _));rw[q,sizeLine_eq];omega
 by_cases h2:vs.toArray.size<2
 ·simp only[zo h2];refine zd (zg ?_);rw[StateT.run_pure];refine zd (zg (zd (seqEpoch_at d Δ (zd (listUpdate_at d Δ ?_ (hsz2:=f (SortSt.mk' general' (pairsOf vs) #[] 7 Y) (Array.Perm.refl _)))))));simp only[bne_self_eq_false,zr,ZN];refine zg (h (SortSt.mk' general' (pairsOf vs) #[] 7 Y) (Array.Perm.refl _) λi j z p=>?_);rw[pairsOf_size]at p;rw[show i=j by omega];exact zk _
 ·simp only[zC h2];refine zd (v (by omega) _ old _ ?_);refine zd (QN (HA (u _ old) (st:=SortSt.mk' kd (pairsOf vs) #[] 7 Y) (Q:=λ_ t=>(AM t).Perm (pairsOf vs)/\failedOf t=Y/\Up rk (AM t) (pairsOf vs).size) ⟨Array.Perm.refl _,rfl,rfl,rfl⟩ (by rw[pairsOf_size];omega) (by rw[pairsOf_size];exact m) λt q1 q2 x=>⟨q1,q2,x⟩) ?_ λ_ _ q=>q);rintro⟨⟨⟩,t⟩ s' ⟨rfl,hp,g,l⟩;dsimp only;refine zd (seqEpoch_at d Δ (zd (listUpdate_at d Δ ?_ (hsz2:=f t hp))));rw[g];simp only[bne_self_eq_false,zr,ZN];exact zg (h t hp l)
theorem Xb{x:A0}{vs:U A0}{Q:B8}(u:∀(d:B8) (f:U A0->A2->Prop),(∀h' tk,s.heap.objs.size<=h'.objs.size->(∀c o,s.heap.get? c=Z o->h'.get? c=Z o)->f vs { s with heap:=h',toks:=tk })->A7 (A8 prog w) A.in1 (collect x) f d s)
  (p:2<=vs.length->∀(d:B8) (b:A5) (s':A2),(∀c o,s.heap.get? c=Z o->s'.heap.get? c=Z o)->∀Q:SortKind->A2->Prop,Q kd s'->A7 (A8 prog w) b (keyKind' vs.toArray) Q d s') (i:∀(b:A5) (s':A2),(∀c o,s.heap.get? c=Z o->s'.heap.get? c=Z o)->Yq prog w b s' kd rk (pairsOf vs)) (g:vs.length<64)
  (h:∀(l:A1) (h':A6) (tk n:Nat) (st:SortSt),(AM st).Perm (pairsOf vs)->Up rk (AM st) (pairsOf vs).size->s.heap.objs.size<=l->(∀c o,s.heap.get? c=Z o->h'.get? c=Z o)->h'.get? l=Z (seqObj "list" ((AM st).map (·.2)) n)->Q (.ref l) { s with heap:=h',toks:=tk }):
  A7 (A8 prog w) A (call (.builtin "sorted") [x]) Q E s:=by
 refine Calls.call_function_entry kind_sorted plain_sorted entry_sorted (args_sorted1 _) ?_;unfold Builtin.«sorted»;refine zd (m:=checkCount "sorted" 1 1 _) (zg (zd (u _ _ λh1 tk j ext=>zd (wpAny_newList ?_))));have a:(h1.push (seqObj "list" vs.toArray 0)).get? h1.objs.size=Z (seqObj "list" vs.toArray 0):=zv _ rfl;have old:∀s':A2,EL h1.objs.size { s with heap:=h1.push (seqObj "list" vs.toArray 0),toks:=tk } s'->∀c o,s.heap.get? c=Z o->s'.heap.get? c=Z o:=λs' q c o e=>
  q c o (z4 (zD (ext c o e))) (ze _ (ext c o e))
 refine zd (QU (Q2 slot_list_sort ⟨_,a,rfl⟩ entry_list_sort (Mn a (λq s' o=>p q _ _ s' (old s' o)) (λs' o=>i _ s' (old s' o)) g λst q1 q2=>⟨_,rfl,zg ⟨_,rfl,?_⟩⟩) (args_list_sort _)));obtain⟨n,t⟩:=sortedHeap_at (out:=(AM st).map (·.2)) a;refine h h1.objs.size _ tk n st q1 q2 j (λc o e=>?_) t;have hb:=zD (ext c o e);rw[sortedHeap_old (z4 hb) (by rw[qr];exact QA hb)];exact ze _ (ext c o e)
end
end S1
namespace S1
open L2
theorem Xc(fb:Bool)(x y:A0):keyLt' (tuples' fb) x y=(do
  let xs <-Builtin.List.listItems x
  let ys <-Builtin.List.listItems y
  for ((p,q),i) in (xs.toList.zip ys.toList).zipIdx do
   if !(<-eqBool p q)then return <-oneLt' (fb&&i==0) p q
  return decide (xs.size<ys.size)):=rfl
def Vm:AY->AY->Bool
 |.inl a,.inl b=>decide (a<b)
 |.inr x,.inr y=>decide (x.cps.toList<y.cps.toList)
 |.inl _,.inr _=>true
 |.inr _,.inl _=>false
def Vn:AY->AY->Bool
 |.inl _,.inl _=>true
 |.inr _,.inr _=>true
 |_,_=>false
def kh:U AY->U AY->Bool
 |[],[]=>false
 |[],_::_=>true
 |_::_,[]=>false
 |x::xs,y::ys=>if x=y then kh xs ys else Vm x y
def D4:U AY->U AY->Prop
 |x::xs,y::ys=>Vn x y=true/\D4 xs ys
 |_,_=>True
theorem Dx{x y:AY}{p q:A0}{Q:Bool->A2->Prop}(hp:lO x p=true)(c:lO y q=true)(h:Q (decide (x=y)) s):A7 (A8 prog w) A (eqBool p q) Q E s:=
 (bB prog w).eqBool (a:=x) (b:=y) hp c h
theorem cq{fb:Bool}{x y:AY}{p q:A0}{Q:Bool->A2->Prop}(hs:Vn x y=true)(hp:lO x p=true)(a:lO y q=true)(h:Q (Vm x y) s):A7 (A8 prog w) A (oneLt' fb p q) Q E s:=by
 rcases bM hp with⟨i,t,rfl,rfl⟩|⟨z,t,rfl,rfl⟩
 ·rcases bM a with⟨j,u,rfl,rfl⟩|⟨z,u,rfl,rfl⟩
  ·cases fb with
   |true=>exact oneLt_int h
   |false=>
    rw[oneLt'_eq];simp only[zr,ZN];refine zd (show A7 _ _ (AG .Lt (.int i t) (.int j u)) _ _ _ from lt_int ?_);exact jS h
  ·cases hs
 ·rcases bM a with⟨j,u,rfl,rfl⟩|⟨b,u,rfl,rfl⟩
  ·cases hs
  ·cases fb with
   |true=>exact oneLt_str h
   |false=>
    rw[oneLt'_eq];simp only[zr,ZN];refine zd (show A7 _ _ (AG .Lt (.str z t) (.str b u)) _ _ _ from PySem.P.lt_str ?_);exact jS h
def Ks(ks:U AY)(AQ:U A0):Prop:=AI (λk v=>lO k v=true) ks AQ
def D6:U AY->U AY->O Bool
 |x::xs,y::ys=>if x=y then D6 xs ys else Z (Vm x y)
 |_,_=>Y
theorem ZR:∀ks a:U AY,kh ks a=match D6 ks a with|some r=>r|none=>decide (ks.length<a.length)
 |[],[]=>rfl
 |[],_::_=>by simp[kh,D6]
 |_::_,[]=>rfl
 |x::xs,y::ys=>by
  simp only[kh,D6];by_cases e:x=y
  ·rw[zo e,zo e,ZR xs ys];simp only[qk,Nat.add_lt_add_iff_right]
  ·rw[zC e,zC e]
def turn(fb:Bool):(A0×A0)×Nat->O Bool×Unit->Sem (ForInStep (O Bool×Unit)):=λx _=>match x with
 |((p,q),i)=>do
  let e <-eqBool p q
  if(!e)=true then do
    let r <-oneLt' (fb&&i==0) p q
    pure (ForInStep.done (Z r,()))
   else pure (ForInStep.yield (Y,()))
theorem EX(fb:Bool):∀(ks b:U AY) (AQ a:U A0) (i:Nat) (R:O Bool×Unit->A2->Prop),Ks ks AQ->Ks b a->D4 ks b->R (D6 ks b,()) s->A7 (A8 prog w) A (forIn ((AQ.zip a).zipIdx i) ((Y,()):O Bool×Unit) (turn fb)) R E s
 |[],_,_,_,_,R,.nil,_,_,h=>zg h
 |_::_,[],_::_,_,_,R,_,.nil,_,h=>zg h
 |x::xs,y::ys,p::AQ,q::a,i,R,.cons hp hk,.cons hq hl,hs,h=>by
  rw[List.zip_cons_cons,List.zipIdx_cons,List.forIn_cons];refine zd ?_;show A7 _ _ (eqBool p q >>= _) _ _ _;refine zd (Dx hp hq ?_);by_cases e:x=y
  ·simp only[e,KO,kC,zr,ZN];refine zg (EX fb xs ys AQ a (i+1) R hk hl hs.2 ?_);simp only[D6,zo e]at h;exact h
  ·simp only[e,kU,kR,qS];refine zd (cq hs.1 hp hq (zg (zg ?_)));simp only[D6,zC e]at h;exact h
theorem Pt{fb:Bool}{c:A1}{g j:AE}{d:U A0}{m:Nat}{b:U AY}{Q:Bool->A2->Prop}(ha:s.heap.get? a=Z g)(t:g.data=.seq AQ.toArray n)(q:s.heap.get? c=Z j)(o:j.data=.seq d.toArray m)(i:Ks ks AQ)(f:Ks b d)(hs:D4 ks b)(h:Q (kh ks b) s):A7 (A8 prog w) A (keyLt' (tuples' fb) (.ref a) (.ref c)) Q E s:=by
 rw[Xc];refine zd (listItems_at ha t (zd (listItems_at q o ?_)));have l:AQ.length=ks.length:=(Paired.length i).symm;have p:d.length=b.length:=(Paired.length f).symm;refine zd (EX fb ks b AQ d 0 _ i f hs ?_);rw[ZR]at h;cases e:D6 ks b with
 |some r=>rw[e]at h;exact zg h
 |none=>
  rw[e]at h;refine zg ?_;simpa[l,p]using h
theorem Po(x:AY):Vm x x=false:=by
 cases x with
 |inl a=>simp[Vm]
 |inr a=>simp[Vm]
theorem Xd{x y z:AY}(h:Vm x y=true)(h':Vm y z=true):Vm x z=true:=by
 cases x<;>cases y<;>cases z<;>simp only[Vm,Z3,zr,reduceCtorEq]at h h' ⊢
 ·omega
 ·exact List.lt_trans h h'
theorem cS{x y:AY}(h:Vm x y=false)(h':Vm y x=false):x=y:=by
 cases x<;>cases y<;>simp only[Vm,QP,Bool.true_eq_false,reduceCtorEq]at h h'
 ·congr 1;omega
 ·rename_i a b;have:=List.le_antisymm (as:=a.cps.toList) (bs:=b.cps.toList) h' h;cases a;cases b;simp only at this;rw[Array.toList_inj.mp this]
theorem FT:∀xs:U AY,kh xs xs=false
 |[]=>rfl
 |x::xs=>by simp only[kh,qS];exact FT xs
theorem qt:∀{xs ys zs:U AY},kh xs ys=true->kh ys zs=true->kh xs zs=true
 |[],[],_,h,_=>by cases h
 |[],_::_,[],_,h'=>by cases h'
 |[],_::_,_::_,_,_=>rfl
 |_::_,[],_,h,_=>by cases h
 |_::_,_::_,[],_,h'=>by cases h'
 |x::xs,y::ys,z::zs,h,h'=>by
  simp only[kh]at h h' ⊢;by_cases e1:x=y
  ·subst e1;rw[zo rfl]at h;by_cases e2:x=z
   ·subst e2;rw[zo rfl]at h' ⊢;exact qt h h'
   ·rw[zC e2]at h' ⊢;exact h'
  ·rw[zC e1]at h;by_cases e2:y=z
   ·subst e2;rw[zC e1];exact h
   ·rw[zC e2]at h';have:=Xd h h';rw[zC (λe=>by subst e;rw[Po]at this;cases this)];exact this
theorem zJ:∀{xs ys:U AY},kh xs ys=false->kh ys xs=false->xs=ys
 |[],[],_,_=>rfl
 |[],_::_,h,_=>by cases h
 |_::_,[],_,h'=>by cases h'
 |x::xs,y::ys,h,h'=>by
  simp only[kh]at h h';by_cases e:x=y
  ·subst e;rw[zo rfl]at h h';rw[zJ h h']
  ·rw[zC e]at h;rw[zC (Kj e)]at h';exact absurd (cS h h') e
def yg(xs ys:U AY):Bool:=!kh ys xs
theorem FW(a b c:U AY)(h:yg a b=true)(h':yg b c=true):yg a c=true:=by
 unfold yg at *
 simp only[JA]at *
 cases d:kh c a with
 |false=>rfl
 |true=>
  cases f:kh a b with
  |true=>rw[qt d f]at h';cases h'
  |false=>
   have e:=zJ f h;subst e;rw[d]at h';cases h'
theorem FZ(a b:U AY):(yg a b||yg b a)=true:=by
 unfold yg;cases h:kh b a with
 |false=>rfl
 |true=>
  cases h':kh a b with
  |false=>rfl
  |true=>have:=qt h h';rw[FT]at this;cases this
theorem JR{a b:U AY}(h:yg a b=true)(h':yg b a=true):a=b:=by
 unfold yg at *
 simp only[JA]at *
 exact zJ h' h
theorem vM{α:Type}{le:α->α->Prop}(c:∀a b,le a b->le b a->a=b):∀{l l':U α},l.Perm l'->l.Pairwise le->l'.Pairwise le->l=l'
 |[],l',h,_,_=>by rw[List.nil_perm.mp h]
 |a::l,[],h,_,_=>by cases List.perm_nil.mp h
 |a::l,b::l',h,p,p'=>by
  have e:a=b:=by
   have ha:a∈b::l':=h.mem_iff.mp (zi ..);have hb:b∈a::l:=h.mem_iff.mpr (zi ..);rcases List.mem_cons.mp ha with h1|h1
   ·exact h1
   ·rcases List.mem_cons.mp hb with h2|h2
    ·exact h2.symm
    ·exact c a b (JY p h2) (JY p' h1)
  subst e;rw[vM c ((List.perm_cons a).mp h) (List.pairwise_cons.mp p).2 (List.pairwise_cons.mp p').2]
def mL(cQ:U (U AY)):U (U AY):=cQ.mergeSort yg
theorem n8(cQ:U (U AY)):(mL cQ).Perm cQ:=List.mergeSort_perm ..
theorem vN(cQ:U (U AY)):(mL cQ).Pairwise (λa b=>yg a b=true):=yY FW FZ cQ
theorem wH{out:U (U AY)}(hp:out.Perm cQ)(hs:out.Pairwise (λa b=>yg a b=true)):out=mL cQ:=vM (λ_ _=>JR) (hp.trans (n8 cQ).symm) hs (vN cQ)
def CC(cQ:U (U AY))(k:U AY):Nat:=cQ.countP λu=>kh u k
theorem JT{α:Type}{p q:α->Bool}:∀{l:U α},(∀x∈l,p x=true->q x=true)->(∃x∈l,p x=false/\q x=true)->l.countP p<l.countP q
 |[],_,⟨x,hx,_⟩=>by cases hx
 |a::l,h,⟨x,hx,h1,h2⟩=>by
  have le:l.countP p<=l.countP q:=List.countP_mono_left λy b=>h y (zh _ b);rw[List.countP_cons,List.countP_cons];rcases List.mem_cons.mp hx with rfl|hx
  ·rw[h1,h2];simp;omega
  ·have:=JT (λy b=>h y (zh _ b)) ⟨x,hx,h1,h2⟩;have ha:=h a (zi ..);cases hp:p a with
   |true=>rw[ha hp];simp;omega
   |false=>simp;omega
theorem Vo{a b:U AY}(ha:a∈cQ):decide (CC cQ a<CC cQ b)=kh a b:=by
 cases h:kh a b with
 |true=>
  refine ZA (JT (λu _ c=>qt c h) ⟨a,ha,FT a,h⟩)
 |false=>
  refine ZH (Nat.not_lt.mpr (List.countP_mono_left λu _ c=>?_));cases hb:kh b a with
  |true=>exact qt c hb
  |false=>rw[zJ h hb];exact c
def j4(h:A6)(ks:U AY)(v:A0):Prop:=∃(a:A1) (o:AE) (AQ:U A0) (n:Nat),v=.ref a/\h.get? a=Z o/\o.cls=.type "tuple" ∧ o.data=.seq AQ.toArray n/\Ks ks AQ
theorem j4.keep{h':A6}{v:A0}(q:j4 h ks v)(k:∀c o,h.get? c=Z o->h'.get? c=Z o):j4 h' ks v:=by
 obtain⟨a,o,AQ,n,e,g,c,d,p⟩:=q;exact⟨a,o,AQ,n,e,k _ _ g,c,d,p⟩
theorem ND{k l:AY}{v:A0}(h:lO k v=true)(h':lO l v=true):k=l:=by
 rcases bM h with⟨i,t,rfl,rfl⟩|⟨x,t,rfl,rfl⟩
 ·rcases bM h' with⟨j,u,rfl,e⟩|⟨y,u,rfl,e⟩
  ·cases e;rfl
  ·cases e
 ·rcases bM h' with⟨j,u,rfl,e⟩|⟨y,u,rfl,e⟩
  ·cases e
  ·cases e;rfl
theorem Ks.inj:∀{ks a:U AY} {AQ:U A0},Ks ks AQ->Ks a AQ->ks=a
 |_,_,[],h,h'=>by cases h;cases h';rfl
 |_,_,v::AQ,h,h'=>by
  cases h with
  |cons p t=>cases h' with
   |cons p' t'=>rw[ND p p',Ks.inj t t']
theorem j4.inj{h:A6}{ks i:U AY}{v:A0}(q:j4 h ks v)(l:j4 h i v):ks=i:=by
 obtain⟨a,o,AQ,n,rfl,g,c,d,p⟩:=q;obtain⟨m,o',j,s,e,b,t,f,p'⟩:=l;cases e;rw[g]at b;cases b;rw[d]at f;injection f with e1 e2;have e3:AQ=j:=by simpa using congrArg Array.toList e1
 subst e3;exact p.inj p'
theorem Ly{α β:Type}{f:α->Sem β}:∀(xs:U α) (ys:U β) (Q:U β->A2->Prop),AI (λx y=>∀(b:B8) (a:β->A2->Prop),a y s->A7 (A8 prog w) A (f x) a b s) xs ys->Q ys s->A7 (A8 prog w) A (xs.mapM f) Q E s
 |[],_,Q,.nil,h=>by rw[List.mapM_nil];exact zg h
 |x::xs,y::ys,Q,.cons h t,q=>by
  rw[List.mapM_cons];exact zd (h _ _ (zd (Ly xs ys _ t (zg q))))
theorem ZS(v:A0):firstOfTuple' v=(do
  if(<-typeOf v) != .type "tuple" then return Y
  return (<-Builtin.List.listItems v)[0]?):=rfl
theorem Xe{k:AY}{v:A0}(q:j4 s.heap (k::ks) v):∃u,lO k u=true/\∀(e:B8) (b:O A0->A2->Prop),b (Z u) s->A7 (A8 prog w) A (firstOfTuple' v) b e s:=by
 obtain⟨a,o,AQ,n,rfl,g,c,d,p⟩:=q;cases p with
 |@cons _ u _ AQ hp t=>
  refine⟨u,hp,λe b h=>?_⟩;rw[ZS];refine zd (Q1 (T :="tuple") ⟨o,g,c⟩ ?_);rw[zC (by decide)];exact zd (listItems_at g d (zg h))
theorem ZV{k:AY}(h:lO k u=true)(b:B8)(a:B8)(q:a (.type (if k.isLeft then "int" else "str")) s):A7 (A8 prog w) A (typeOf u) a b s:=by
 rcases bM h with⟨i,t,rfl,rfl⟩|⟨x,t,rfl,rfl⟩
 ·exact Q1 (typeIs_int s i t) q
 ·exact Q1 (typeIs_str s x t) q
theorem JV{vs:U A0}{Q:SortKind->A2->Prop}(j:AI (j4 s.heap) cQ vs)(i:∀k∈cQ,k≠[])(p:∀k∈cQ,∀l∈cQ,D4 k l)(h2:1<=vs.length)(h:Q (tuples' true) s):A7 (A8 prog w) A (keyKind' vs.toArray) Q E s:=by
 have step:∀(cQ:U (U AY)) (vs:U A0),AI (j4 s.heap) cQ vs->(∀k∈cQ,k≠[])->∃us:U A0,AI (λv u=>∀(c:B8) (a:O A0->A2->Prop),a (Z u) s->A7 (A8 prog w) A (firstOfTuple' v) a c s) vs us/\AI (λ(k:U AY) u=>∃x r,k=x::r/\lO x u=true) cQ us:=by
  intro cQ vs j
  induction j with
  |nil=>intro _;exact⟨[],.nil,.nil⟩
  |@cons k v cQ vs q t d=>
   intro i;obtain⟨us,p1,p2⟩:=d λk f=>i k (zh _ f);cases k with
   |nil=>exact absurd Δ (i _ (zi ..))
   |cons x r=>
    obtain⟨u,e,o⟩:=Xe (prog:=prog) (w:=w) (A:=A) q;exact⟨u::us,.cons o p1,.cons ⟨x,r,rfl,e⟩ p2⟩
 obtain⟨us,p1,p2⟩:=step cQ vs j i;have B:us.length=vs.length:=(Paired.length p1).symm;have z:∀{l:U A0} {n:U A0},AI (λv u=>∀(c:B8) (a:O A0->A2->Prop),a (Z u) s->A7 (A8 prog w) A (firstOfTuple' v) a c s) l n->AI (λv u=>∀(c:B8) (a:O A0->A2->Prop),a u s->A7 (A8 prog w) A (firstOfTuple' v) a c s) l (n.map Z):=λh=>by
  induction h with
  |nil=>exact .nil
  |cons q t d=>exact .cons q d
 rw[keyKind'_eq,List.mapM_toArray,map_eq_pure_bind];refine zd (zd (Ly vs (us.map Z) _ (z p1) (zg ?_)));have D:(us.map Z).toArray.all (·.isSome)=true:=by simp
 rw[zo D];refine zd (kN ?_);have C:(us.map Z).toArray.filterMap id=us.toArray:=by simp
 rw[C,oneTypeOnly'_eq,List.mapM_toArray,map_eq_pure_bind];have ty:∀(cQ:U (U AY)) (us:U A0),AI (λ(k:U AY) u=>∃x r,k=x::r/\lO x u=true) cQ us->∃ts:U A0,AI (λu t=>∀(c:B8) (a:B8),a t s->A7 (A8 prog w) A (typeOf u) a c s) us ts/\AI (λ(k:U AY) t=>∃x r,k=x::r/\t=.type (if x.isLeft then "int" else "str")) cQ ts:=by
  intro cQ us hp
  induction hp with
  |nil=>exact⟨[],.nil,.nil⟩
  |@cons k u cQ us q t d=>
   obtain⟨ts,q1,q2⟩:=d;obtain⟨x,r,rfl,hx⟩:=q;exact⟨_::ts,.cons (λc a h=>ZV hx c a h) q1,.cons ⟨x,r,rfl,rfl⟩ q2⟩
 obtain⟨ts,q1,q2⟩:=ty cQ us p2;refine zd (zd (zd (Ly us ts _ q1 (zg ?_))));have lt:ts.length=vs.length:=by rw[<-Paired.length q1,B]
 cases q2 with
 |nil=>simp at lt;omega
 |@cons H J G m h0 F=>
  obtain⟨b,r,rfl,rfl⟩:=h0;have same:∀t∈m,t=Value.type (if b.isLeft then "int" else "str"):=by
   have y:∀(cQ:U (U AY)) (ts:U A0),AI (λ(k:U AY) t=>∃x r,k=x::r/\t=Value.type (if x.isLeft then "int" else "str")) cQ ts->(∀k∈cQ,D4 (b::r) k)->∀t∈ts,t=Value.type (if b.isLeft then "int" else "str"):=by
    intro cQ ts hp
    induction hp with
    |nil=>intro _ t g;cases g
    |@cons k t cQ ts q _ d=>
     intro hs u e;rcases List.mem_cons.mp e with rfl|e
     ·obtain⟨x,I,rfl,rfl⟩:=q;have:=(hs _ (zi ..)).1;cases b<;>cases x<;>first|rfl|cases this
     ·exact d (λk f=>hs k (zh _ f)) u e
   exact y _ _ F λk f=>p _ (zi ..) k (zh _ f)
  have e0:(Value.type (if b.isLeft then "int" else "str")::m).toArray[0]?=Z (Value.type (if b.isLeft then "int" else "str")):=by simp
  have e1:((Value.type (if b.isLeft then "int" else "str")::m).toArray.all λx=>x==Value.type (if b.isLeft then "int" else "str"))=true:=by
   simp only[List.all_toArray,qB];intro t g;rcases List.mem_cons.mp g with rfl|g
   ·simp
   ·rw[same t g];simp
  rw[e0];simp only[e1,qS];refine zg (zg ?_);have e2:((Z (Value.type (if b.isLeft then "int" else "str"))).any λx=>x !=Value.type "tuple")=true:=by
   cases b with
   |inl _=>exact(by decide:((Z (Value.type "int")).any λx=>x !=Value.type "tuple")=true)
   |inr _=>exact(by decide:((Z (Value.type "str")).any λx=>x !=Value.type "tuple")=true)
  rw[e2];exact h
def BC(cQ:U (U AY))(vs:U A0)(v:A0):U AY:=match (vs.zip cQ).find? (λp=>p.1==v)with
 |some p=>p.2
 |none=>[]
theorem mO{h:A6}:∀{cQ:U (U AY)} {vs:U A0},AI (j4 h) cQ vs->∀v∈vs,BC cQ vs v∈cQ/\j4 h (BC cQ vs v) v
 |_,_,.nil,v,hv=>by cases hv
 |k::cQ,u::vs,.cons q t,v,hv=>by
  unfold BC;rw[List.zip_cons_cons,kz];by_cases e:u=v
  ·subst e;simp only[beq_self_eq_true];exact⟨zi ..,q⟩
  ·have e':(u==v)=false:=by simpa using e
   simp only[e'];have b:v∈vs:=by
    rcases List.mem_cons.mp hv with h|h
    ·exact absurd h.symm e
    ·exact h
   have a:=mO t v b;exact⟨zh _ a.1,a.2⟩
theorem Cy{h:A6}:∀{cQ:U (U AY)} {vs:U A0},AI (j4 h) cQ vs->∀(K:A0->U AY),(∀v∈vs,j4 h (K v) v)->vs.map K=cQ
 |_,_,.nil,_,_=>rfl
 |k::cQ,v::vs,.cons q t,K,hK=>by
  rw[zw,(hK v (zi ..)).inj q,Cy t K λu a=>hK u (zh _ a)]
theorem yh{h:A6}:∀{vs:U A0} {K:A0->U AY},(∀v∈vs,j4 h (K v) v)->AI (j4 h) (vs.map K) vs
 |[],_,_=>.nil
 |v::vs,K,hK=>.cons (hK v (zi ..)) (yh λu a=>hK u (zh _ a))
theorem Pq{vs:U A0}(b:AI (j4 s.heap) cQ vs)(j:∀k∈cQ,∀l∈cQ,D4 k l):Yq prog w A s (tuples' true) (λv=>CC cQ (BC cQ vs v)) (pairsOf vs):=by
 intro E p q Q hp f h;rw[pairsOf_toList]at hp f;obtain⟨i,t1⟩:=mO b p.1 (mem_zip_self hp).2;obtain⟨t,t2⟩:=mO b q.1 (mem_zip_self f).2;rw[Vo i]at h;have x:=j _ i _ t;obtain⟨a,o,AQ,n,e,g,c,d,k⟩:=t1;obtain⟨z,o',B,C,e',m,D,u,y⟩:=t2;rw[e,e'];exact Pt g d m u k y x h
theorem Pr{vs:U A0}(a:AI (j4 h) cQ vs){xs:Array Keyed}(hp:xs.Perm (pairsOf vs))(f:Up (λv=>CC cQ (BC cQ vs v)) xs (pairsOf vs).size):AI (j4 h) (mL cQ) (xs.map (·.2)).toList:=by
 have b:xs.toList.Perm (vs.zip vs):=by rw[<-pairsOf_toList];exact Array.perm_iff_toList_perm.mp hp
 have d:∀p∈xs.toList,p.1=p.2/\p.1∈vs:=λp q=>mem_zip_self (b.mem_iff.mp q);have e:(xs.map (·.2)).toList=xs.toList.map (·.1):=by
  rw[Array.toList_map];exact QO λp q=>(d p q).1.symm
 have pv:(xs.toList.map (·.1)).Perm vs:=by
  have:=b.map Prod.fst;rwa [List.map_fst_zip (zk _)]at this
 have l:mL cQ=(xs.toList.map (·.1)).map (BC cQ vs):=by
  refine(wH ?_ ?_).symm
  ·have:=pv.map (BC cQ vs);rwa [Cy a _ λv q=>(mO a v q).2]at this
  ·rw[List.pairwise_iff_getElem];intro i j hi g m;have n:i<xs.size:=by simpa using hi
   have c:j<xs.size:=by simpa using g
   have u:=f i j (j0 m) (by rw[<-hp.size_eq];exact c);unfold at_ at u;rw[getElem?_pos xs i n,getElem?_pos xs j c]at u;have o:=(mO a xs[j].1 (d xs[j] (by simp)).2).1;simp only[List.getElem_map,Array.getElem_toList];unfold yg;rw[<-Vo o,ZH (Nat.not_lt.mpr u)];rfl
 rw[l,e];refine yh λv q=>(mO a v ?_).2;exact pv.mem_iff.mp q
end S1
namespace P1
open L2 S1
theorem SQ{o:AE}{T:String}{vs:U A0}{Q:U A0->A2->Prop}(ho:s.heap.get? l=Z o)(f:o.cls=.type T)(a:T ="list" ∨ T ="tuple")(d:o.data=.seq vs.toArray n)(g:vs.length<=AA)(h:∀h' tk,s.heap.objs.size<=h'.objs.size->(∀c o,s.heap.get? c=Z o->h'.get? c=Z o)->Q vs { s with heap:=h',toks:=tk }):A7 (A8 prog w) A (collect (.ref l)) Q E s:=by
 unfold collect;refine zd (wpAny_runValue (ka entry_proto_collect' ?_));show A7 _ _ (newList [] >>= λq=>again (.builtin "list.__iadd__" ⟨[q,.ref l],[]⟩)) _ _ s;refine zd (wpAny_newList (zg ⟨Code.quiet_builtin _ (by decide +kernel),ka entry_list_iadd' ?_⟩));show A7 _ _ (Builtin.List.listExtendWith (.ref s.heap.objs.size) (.ref l) (.ref s.heap.objs.size)) _ _ _;unfold Builtin.List.listExtendWith;have g1:(s.heap.push (seqObj "list" #[] 0)).get? l=Z o:=ze _ ho;refine zd (Q1 (T:=T) ⟨o,g1,f⟩ ?_);have b:(Value.type T==Value.type "list" || Value.type T==Value.type "tuple")=true:=by rcases a with rfl|rfl<;>decide
 rw[zo (by rw[Bool.or_assoc,b];simp)];refine zd (listItems_at g1 d (zd (listItems_at (xs:=#[]) (n:=0) (zv _ Δ) Δ ?_)));rw[zC (by simp)];have g2:(s.heap.push (seqObj "list" #[] 0)).get? s.heap.objs.size=Z (seqObj "list" #[] 0):=zv _ rfl;refine zd (listUpdate_at (xs:=#[]) (n:=0) g2 Δ (zg ?_) (QR _) (by show(#[]++vs.toArray).size<=AA+1;simp only[KF,zS,List.length_nil];omega));show A7 (A8 prog w) A (load s.heap.objs.size >>= _) Q E _;refine zd (K0 (get?_update_seq g2 _) ?_);show A7 _ _ (pure ((#[]:Array A0)++vs.toArray).toList) Q E _;rw[show((#[]:Array A0)++vs.toArray).toList=vs by simp];refine zg (h _ s.toks ?_ λc i e=>?_)
 ·rw[Heap.size_update,size_push'];exact kP _
 ·rw[JJ _ _ _ _ (z4 (zD e))];exact ze _ e
def HR:Dt->O AY
 |.int i=>Z (.inl i)
 |.str x=>Z (.inr x)
 |_=>Y
def JW:U Dt->O (U AY)
 |[]=>Z []
 |d::ds=>(HR d).bind λk=>(JW ds).bind λks=>Z (k::ks)
def JX:Dt->O (U AY)
 |.tup ds=>JW ds
 |_=>Y
def yj:U Dt->O (U (U AY))
 |[]=>Z []
 |d::ds=>(JX d).bind λk=>(yj ds).bind λks=>Z (k::ks)
def dK:AY->Dt
 |.inl i=>.int i
 |.inr x=>.str x
def BG(ks:U AY):Dt:=.tup (ks.map dK)
theorem Nl{k:AY}(h:HR d=Z k):d=dK k:=by
 cases d<;>cases h<;>rfl
theorem Pu:∀{ds:U Dt} {ks:U AY},JW ds=Z ks->ds=ks.map dK
 |[],_,h=>by cases h;rfl
 |d::ds,_,h=>by
  obtain⟨k,e1,h⟩:=AT h;obtain⟨ks,e2,h⟩:=AT h;cases h;rw[zw,Nl e1,Pu e2]
theorem Px(h:JX d=Z ks):d=BG ks:=by
 cases d with
 |tup ds=>exact congrArg Dt.tup (Pu h)
 |_=>cases h
theorem BL:∀{ds:U Dt} {cQ:U (U AY)},yj ds=Z cQ->ds=cQ.map BG
 |[],_,h=>by cases h;rfl
 |d::ds,_,h=>by
  obtain⟨k,e1,h⟩:=AT h;obtain⟨ks,e2,h⟩:=AT h;cases h;rw[zw,Px e1,BL e2]
theorem aw{k:AY}(h:AW K H (dK k) v):v=kV k:=by
 cases k with
 |inl i=>exact(show v=.int i by simpa only[dK,AW]using h)
 |inr x=>exact(show v=.str x/\x.length<=AA by simpa only[dK,AW]using h).1
theorem JZ{K:B0}{H:Hp}:∀{ks:U AY} {vs:U V},aK K H (ks.map dK) vs->vs=ks.map kV
 |[],_,h=>by simp only[kb,aK]at h;exact h
 |k::ks,_,h=>by
  simp only[zw,aK]at h;obtain⟨v,r,rfl,h1,h2⟩:=h;rw[aw h1,JZ h2,zw]
theorem Z'(X:Cx):∀{us:U A0},AX (ks.map kV) us->Ks ks us:=by
 induction ks with
 |nil=>intro us h;cases h;exact .nil
 |cons k ks a=>
  intro us h;cases h with
  |cons r t=>exact .cons (Fb (P:=X.prog) (w:=X.w) r) (a t)
theorem qO{AN:U (A1×AE)}{σ:L2.St}{H:Hp}{s:A2}(I:AU X AN σ H s):∀{cQ:U (U AY)} {vs:U V} {AQ:U A0},aK X.K H (cQ.map BG) vs->AX vs AQ->AI (j4 s.heap) cQ AQ
 |[],_,_,h,r=>by
  simp only[kb,aK]at h;subst h;cases r;exact .nil
 |k::cQ,_,_,h,r=>by
  simp only[zw,aK]at h;obtain⟨v,vs,rfl,h1,h2⟩:=h;cases r with
  |cons r1 r2=>
   refine .cons ?_ (qO I h2 r2);simp only[BG,AW]at h1;obtain⟨a,f,rfl,sq,e⟩:=h1;obtain⟨AQ,b,⟨o,g,c,n,d⟩,_⟩:=I.tuple sq;cases r1;rw[JZ e]at b;exact⟨a,o,AQ,n,rfl,g,c,d,Z' X b⟩
theorem BP{AN:U (A1×AE)}{σ:L2.St}{H:Hp}{s:A2}(I:AU X AN σ H s){cQ:U (U AY)}{vs:U V}{AQ:U A0}(h:aK X.K H (cQ.map BG) vs)(r:AX vs AQ):∀{Yr:U (U AY)} {out:U A0},AI (j4 s.heap) Yr out->(∀u∈out,u∈AQ)->∃zs,AX zs out/\aK X.K H (Yr.map BG) zs
 |_,_,.nil,_=>⟨[],.nil,aK.nil⟩
 |l::Yr,u::out,.cons q t,hm=>by
  obtain⟨zs,z1,z2⟩:=BP I h r t λx hx=>hm x (zh _ hx);have b:∀(cQ:U (U AY)) (vs:U V) (AQ:U A0),aK X.K H (cQ.map BG) vs->AX vs AQ->u∈AQ->∃v,As v u/\AW X.K H (BG l) v:=by
   intro cQ
   induction cQ with
   |nil=>
    intro vs AQ h r a;simp only[kb,aK]at h;subst h;cases r;cases a
   |cons k cQ c=>
    intro vs AQ h r a;simp only[zw,aK]at h;obtain⟨v,vs,rfl,h1,h2⟩:=h;cases r with
    |@cons _ f _ _ r1 r2=>
     rcases List.mem_cons.mp a with rfl|a
     ·have e:k=l:=by
       have:=qO I (cQ:=[k]) (vs:=[v]) (AQ:=[u]) (by simp only[zw,kb];exact aK.cons h1 aK.nil) (.cons r1 .nil);cases this with
       |cons d _=>exact d.inj q
      subst e;exact⟨v,r1,h1⟩
     ·exact c vs _ h2 r2 a
  obtain⟨v,r1,h1⟩:=b cQ vs AQ h r (hm u (zi ..));exact⟨v::zs,.cons r1 z1,by rw[zw];exact aK.cons h1 z2⟩
def SX(k l:U AY):Bool:=((k.zip l).all λp=>Vn p.1 p.2)
theorem Ga:∀{k l:U AY},SX k l=true->D4 k l
 |[],_,_=>by simp[D4]
 |_::_,[],_=>by simp[D4]
 |x::k,y::l,h=>by
  unfold SX at h;rw[List.zip_cons_cons,kB,ZY]at h;exact⟨h.1,Ga h.2⟩
def Ik(cQ:U (U AY)):Bool:=decide (cQ.length<64)&&(cQ.all (λk=>!k.isEmpty)&&cQ.all λk=>cQ.all λl=>SX k l)
def Gb:U Bx->O Bx
 |[b]=>(vJ b).bind λds=>(yj ds).bind λcQ=>if Ik cQ=true then Z (.o ((mL cQ).map BG))else Y
 |_=>Y
theorem Lz(h:bh K H b v)(e:vJ b=Z ds):∃a vs,v=.ref a/\(uZ K H a vs\/wV K H a vs)/\aK K H ds vs:=by
 cases b with
 |z d=>
  cases d<;>first|(cases e;done)|skip
  ·cases e;simp only[bh,AW]at h;obtain⟨a,vs,e,q,r⟩:=h;exact⟨a,vs,e,.inr q,r⟩
  ·cases e;simp only[bh,AW]at h;obtain⟨a,vs,e,q,r⟩:=h;exact⟨a,vs,e,.inl q.sq,r⟩
 |l c=>cases e;obtain⟨a,vs,e,q,r⟩:=h;exact⟨a,vs,e,.inl (.inl q),r⟩
 |o c=>cases e;obtain⟨a,vs,e,q,r⟩:=h;exact⟨a,vs,e,.inl (.inl (.inl q)),r⟩
 |n _=>cases e
 |m _ _=>cases e
theorem ZW:sJ X (.builtin "sorted") Gb:=by
 intro AN s σ H xs us Q I P h;obtain⟨bs,c,F,e,q⟩:=h;unfold Gb at e;split at e
 ·rename_i b;obtain⟨ds,M,e⟩:=AT e;obtain⟨cQ,ek,e⟩:=AT e;split at e
  ·rename_i hs;cases e;simp only[Ik,ZY,Z3,qB,JA]at hs;obtain⟨C,G,B⟩:=hs;obtain⟨v,rfl,r1⟩:=BN F;obtain⟨p,vs,rfl,sq,w⟩:=Lz r1 M;obtain⟨u,rfl,ru⟩:=BD P;cases ru;have N:=BL ek;subst N;have a0:∃(AQ:U A0) (o:AE) (T:String) (n:Nat),AX vs AQ/\s.heap.get? p=Z o/\o.cls=.type T/\(T ="list" ∨ T ="tuple")/\o.data=.seq AQ.toArray n/\vs.length<=AA:=by
    rcases sq with sq|sq
    ·obtain⟨AQ,f,pl,j⟩:=I.list sq;obtain⟨o,g,c,n,d⟩:=pl.isList;exact⟨AQ,o,_,n,f,g,c,.inl rfl,d,j⟩
    ·obtain⟨AQ,f,⟨o,g,c,n,d⟩,j⟩:=I.tuple sq;exact⟨AQ,o,_,n,f,g,c,.inr rfl,d,j⟩
   obtain⟨AQ,o,T,n,f,g,L,hT,E,j⟩:=a0;have a3:AQ.length=cQ.length:=by rw[<-f.length,w.length,zl]
   have tv:=qO I w f;refine Xb (kd:=tuples' true) (rk:=λv=>CC cQ (BC cQ AQ v)) (vs:=AQ) (λJ S y=>SQ g L hT E (by rw[<-f.length];exact j) y)
    (λh2 J K s' k S y=>JV (Paired.imp' (λ_ _ z=>j4.keep z k) tv) (λk t=>by have:=G k t;cases k with|nil=>cases this|cons _ _=>exact List.cons_ne_nil _ _) (λk t l i=>Ga (B k t l i)) (by omega) y)
    (λK s' k=>Pq (Paired.imp' (λ_ _ z=>j4.keep z k) tv) λk t l i=>Ga (B k t l i)) (by omega) λl h' tk m st hp up i ext hL=>?_
   have a1:=Pr tv hp up;have mem:∀u∈((AM st).map (·.2)).toList,u∈AQ:=λu A=>by
    rw[Array.toList_map]at A;obtain⟨pr,a2,rfl⟩:=List.mem_map.mp A;have W:pr∈AQ.zip AQ:=by rw[<-pairsOf_toList];exact(Array.perm_iff_toList_perm.mp hp).mem_iff.mp a2
    have:=mem_zip_self W;rw[<-this.1];exact this.2
   obtain⟨zs,z1,z2⟩:=BP I w f a1 mem;have D:zs.length=cQ.length:=by rw[z2.length,zl,(n8 cQ).length_eq]
   have x:H l=Y:=I.hok.fresh i;refine⟨.ref l,_,I.laid (t':=tk) (a:=l) (o:=.lst zs) ext i ⟨by rw[D];exact j0 (ZT C (by decide)),_,m,z1,?_⟩,rfl,q _ _ (bV x) (λa ea=>by cases ea;exact x) ⟨l,zs,rfl,bJ,z2.kp (.of (bV x))⟩⟩;rw[hL]
  ·cases e
 ·cases e
end P1
namespace S6
theorem Xf{b:Source}{Q:Nat->A2->Prop}(a:n≠0)(h:∀i d,i<n->Q i { s with drawn:=d }):A7 M A (choose b n) Q E s:=
 λc p e=>⟨a,h _ _ (Nat.mod_lt _ (Nat.pos_of_ne_zero a))⟩
theorem LC{α:Type}:∀{xs:U α} {i:Nat} (hi:i<xs.length),(xs[i]::xs.eraseIdx i).Perm xs
 |x::xs,0,_=>List.Perm.refl _
 |x::xs,i+1,h=>by
  rw[List.eraseIdx_cons_succ,List.getElem_cons_succ];exact(List.Perm.swap _ _ _).trans ((LC (xs:=xs) (i:=i) (by simpa using h)).cons x)
theorem c9:∀(n:Nat) (xs:U α) (s:A2) (Q:U α->A2->Prop),xs.length=n->(∀ys d,ys.Perm xs->Q ys { s with drawn:=d })->A7 M A (drawOrder n xs) Q E s:=by
 intro n
 induction n with
 |zero=>
  intro xs s Q a h;cases xs with
  |nil=>
   unfold drawOrder;exact zg (h [] s.drawn (List.Perm.refl _))
  |cons x xs=>simp at a
 |succ n c=>
  intro xs s Q a h;cases xs with
  |nil=>simp at a
  |cons x xs=>
   unfold drawOrder;refine zd (Xf (by simp) λi d hi=>?_);have e:(x::xs)[i]?=Z (x::xs)[i]:=by simp[hi]
   rw[e];dsimp only;refine zd (c ((x::xs).eraseIdx i) _ _ (by rw[List.length_eraseIdx,zo hi];simp at a ⊢;omega) λys b hp=>zg ?_);exact h _ b ((List.Perm.cons _ hp).trans (LC hi))
theorem Vp{α:Type}(next:Nat->Nat):∀(n k:Nat) (xs:U α) (out:Array α),xs.length=n->(pickOrder.go next n k xs out).toList.Perm (out.toList++xs)
 |0,k,[],out,_=>by unfold pickOrder.go;simp
 |n+1,k,x::xs,out,hl=>by
  unfold pickOrder.go;have hi:next k%(x::xs).length<(x::xs).length:=Nat.mod_lt _ (by simp);have e:(x::xs)[next k%(x::xs).length]?=Z (x::xs)[next k%(x::xs).length]:=by rw[Zl hi]
  rw[e];dsimp only;refine(Vp next n (k+1) _ _ (by rw[List.length_eraseIdx,zo hi];simp at hl ⊢;omega)).trans ?_;rw[Array.toList_push,QE];exact(List.Perm.refl _).append (LC hi)
theorem Xg(next:Nat->Nat)(xs:Array α):(pickOrder next xs).toList.Perm xs.toList:=by
 have:=Vp next xs.size 0 xs.toList #[] (by simp);simpa[pickOrder]using this
structure Wk (w:World) (h:Heap) (a:Addr) (es:Array (Int×Value)) (ep:Nat) (t:SetTable):Prop where
 at_:∃o,h.get? a=some o/\o.cls=.type "set" ∧ o.data=.set es ep t
 fit:t.fits es.size=true
 led:w.params.followText "set-order"=false->t.led=true
 non:1<es.size->t.plain=false
theorem Wk.keep{h':A6}{es:Array (Int×A0)}(x:Wk w h a es ep t)(k:∀o,h.get? a=Z o->h'.get? a=Z o):Wk w h' a es ep t:=
 ⟨let ⟨o,e,r⟩:=x.at_;⟨o,k o e,r⟩,x.fit,x.led,x.non⟩
def It(h:A6)(it a:A1)(first:A0)(i n ep:Nat):Prop:=∃o,h.get? it=Z o/\o.cls=.type "set_iterator" ∧ o.data=.fields #[first,.int (i:Int) 0,.ref a,.int (n:Int) 0,.int (ep:Int) 0]
theorem It.keep{h':A6}{f:A0}(x:It h it a f i n ep)(k:∀o,h.get? it=Z o->h'.get? it=Z o):It h' it a f i n ep:=
 let ⟨o,e,r⟩:=x;⟨o,k o e,r⟩
theorem It.ty{f:A0}(x:It s.heap it a f i n ep):s.TypeIs (.ref it) "set_iterator":=let ⟨o,e,c,_⟩:=x;⟨o,e,c⟩
theorem jD:Slot "set_iterator" "__next__" "set_iterator.__next__":=
 .of (owner :="set_iterator") (n :="__next__") (by rw[typeLookup_type,builtinLookup_eq_fast];kernel_rfl) (by decide +kernel) (by decide +kernel) (by decide +kernel)
  (by first|exact .inl (by decide +kernel)|exact .inr (by decide +kernel)) (by rw[isSubtype_type];kernel_rfl)
theorem zK:Slot "set_iterator" "__iter__" "set_iterator.__iter__":=
 .of (owner :="set_iterator") (n :="__iter__") (by rw[typeLookup_type,builtinLookup_eq_fast];kernel_rfl) (by decide +kernel) (by decide +kernel) (by decide +kernel)
  (by first|exact .inl (by decide +kernel)|exact .inr (by decide +kernel)) (by rw[isSubtype_type];kernel_rfl)
theorem Il:entryFor table "set_iterator.__next__"=Z Builtin.«set_iterator.__next__»:=entryFor_of_tree (by kernel_rfl)
theorem Dq:entryFor table "set.__iter__"=Z Builtin.«frozenset.__iter__»:=entryFor_alias (id' :="frozenset.__iter__") (by kernel_rfl) Δ (by decide +kernel) (by kernel_rfl)
theorem Im:entryFor table "set_iterator.__iter__"=Z Builtin.«dict_keyiterator.__iter__»:=entryFor_alias (id' :="dict_keyiterator.__iter__") (by kernel_rfl) Δ (by decide +kernel) (by kernel_rfl)
theorem ZX:Manifest.owners.lookup (String.ofList "rotareti_tes".toList.reverse)=Z Manifest.sig_set_iterator:=by kernel_rfl
theorem LK(a:A0):argsOk "set_iterator.__next__" ⟨[a],[]⟩:=by
 unfold argsOk;rw[signature?_of (id :="set_iterator.__next__") (n :="__txen__".toList) (o :="rotareti_tes".toList) (by kernel_rfl) ZX];kernel_rfl
theorem LQ(a:A0):argsOk "set_iterator.__iter__" ⟨[a],[]⟩:=by
 unfold argsOk;rw[signature?_of (id :="set_iterator.__iter__") (n :="__reti__".toList) (o :="rotareti_tes".toList) (by kernel_rfl) ZX];kernel_rfl
section
variable{es:Array (Int×A0)}
theorem Ek{first:A0}(d:It s.heap it a first i es.size ep)(g:Wk w s.heap a es ep t)(h:A7 (A8 prog w) A.in1 (if let .int slot _:=first then(do
    match <-setNext a slot.toNat (i:Int).toNat (ep:Int).toNat with
    |some (x,next)=>
     setField (.ref it) 0 (rawInt next)
     setField (.ref it) 1 (rawInt ((i:Int)+1))
     ret x
    |none=>setField (.ref it) 2 .none;raiseNew (<-newExc (.type "StopIteration") []))
   else(do
    let Z places <-seqItems? first|unsupported "internal:set_iterator"
    match places[(i:Int).toNat]? with
    |some (.int place _)=>
     let x <-setNextDrawn a place.toNat (ep:Int).toNat
     setField (.ref it) 1 (rawInt ((i:Int)+1))
     ret x
    |some _=>unsupported "internal:set_iterator"
    |none=>setField (.ref it) 0 (rawInt 0);setField (.ref it) 2 .none;raiseNew (<-newExc (.type "StopIteration") []))) (λf s'=>∃v,f=.done (.ret v)/\Q (Z v) s') (λe s'=>s'.TypeIs e "StopIteration" ∧ Q Y s') s):A7 (A8 prog w) A (pyNext (.ref it)) Q E s:=by
 obtain⟨o,ho,q,l⟩:=id d;obtain⟨p,n,u,m⟩:=g.at_;unfold pyNext;refine zd (wpAny_attempt (js (name:=Str.ofString "__next__") d.ty jD (Q2 jD d.ty Il ?_ (LK _))));unfold Builtin.«set_iterator.__next__»;refine zd (zg ?_);refine zd (wpAny_fieldsOf ho l ?_);show A7 _ _ (setEntries a >>= _) _ _ s;refine zd (wpAny_setEntries_of n m g.fit ?_);rw[zC (by simp)];refine QN h (λf s' c=>?_) λe s' c=>?_
 ·obtain⟨v,rfl,j⟩:=c;exact⟨v,rfl,zg j⟩
 ·refine zd (JP (T :="StopIteration") (b:=true) c.1 isSubtype_stop ?_);exact zg c.2
theorem Vq{hp:A6}(c:A.handled=Y)(h:∀h',(∀b o,hp.get? b=Z o->h'.get? b=Z o)->Q Y { s with heap:=h' }):
  A7 (A8 prog w) A.in1 (do raiseNew (<-newExc (.type "StopIteration") [])) (λ(d:Fin) s'=>∃v,d=.done (.ret v)/\Q (Z v) s') (λe s'=>s'.TypeIs e "StopIteration" ∧ Q Y s') { s with heap:=hp }:=by
 refine zd ?_;simp only[newExc,newTuple];refine zd (qo ?_ (by size_fits));refine zd (m:=firstArgMember _ _) (wpAny_of_eq (a:=Value.none) (by first|rfl|(simp only[firstArgMember];rfl)) ?_);refine qo ?_ (by size_fits);simp only[raiseNew];refine zd (wpAny_handled ?_);rw[show A.in1.handled=Y from c];refine zd (zg (wpAny_throw ⟨⟨_,zv _ rfl,rfl⟩,?_⟩));exact h _ λb o e=>ze _ (ze _ e)
theorem It.put{f:A0}(d:It h it a f i n ep)(x:A0):It (h.update it (Obj.mapFields (·.setIfInBounds 0 x))) it a x i n ep:=by
 obtain⟨o,ho,c,b⟩:=d;exact⟨_,kK _ ho (Obj.isFreed_of_fields (kq b _)),(Obj.cls_mapFields ..).trans c,by rw[kq b];simp⟩
theorem It.step{f:A0}(d:It h it a f i n ep):It (h.update it (Obj.mapFields (·.setIfInBounds 1 (rawInt ((i:Int)+1))))) it a f (i+1) n ep:=by
 obtain⟨o,ho,c,b⟩:=d;exact⟨_,kK _ ho (Obj.isFreed_of_fields (kq b _)),(Obj.cls_mapFields ..).trans c,by rw[kq b];simp[rawInt]⟩
theorem It.field{f:A0}{k:Nat}{x:A0}{Q:Unit->A2->Prop}(c:It s.heap it a f i n ep)(b:k<5)(h:Q () { s with heap:=s.heap.update it (Obj.mapFields (·.setIfInBounds k x)) }):A7 (A8 prog w) A (setField (.ref it) k x) Q E s:=by
 obtain⟨o,ho,e,d⟩:=c;exact wpAny_setField ho d (by simpa using b) h
theorem sV{f:AE->AE}{b:A1}{o:AE}(hb:b≠it)(e:h.get? b=Z o):(h.update it f).get? b=Z o:=by rw[JJ _ _ _ _ hb];exact e
theorem Z0{slot next:Nat}{x:A0}(c:It s.heap it a (.int (slot:Int) 0) i es.size ep)(g:Wk w s.heap a es ep t)(j:∀{f:A5} {l:B8} {d:O (A0×Nat)->A2->Prop},d (Z (x,next)) s->A7 (A8 prog w) f (setNext a slot i ep) d l s)(h:∀h',It h' it a (.int (next:Int) 0) (i+1) es.size ep->(∀b o,b≠it->s.heap.get? b=Z o->h'.get? b=Z o)->Q (Z x) { s with heap:=h' }):A7 (A8 prog w) A (pyNext (.ref it)) Q E s:=by
 refine Ek c g ?_;show A7 _ _ (setNext a slot i ep >>= _) _ _ s;refine zd (j ?_);refine zd (c.field (by decide) ?_);refine zd ((c.put _).field (s:={ s with heap:=_ }) (by decide) ?_);exact zg ⟨x,rfl,h _ ((c.put _).step) λb o hb e=>sV hb (sV hb e)⟩
theorem Ge{slot:Nat}(g:A.handled=Y)(d:It s.heap it a (.int (slot:Int) 0) i es.size ep)(j:Wk w s.heap a es ep t)(l:∀{f:A5} {m:B8} {c:O (A0×Nat)->A2->Prop},c Y s->A7 (A8 prog w) f (setNext a slot i ep) c m s)(h:∀h',(∀b o,b≠it->s.heap.get? b=Z o->h'.get? b=Z o)->Q Y { s with heap:=h' }):A7 (A8 prog w) A (pyNext (.ref it)) Q E s:=by
 refine Ek d j ?_;show A7 _ _ (setNext a slot i ep >>= _) _ _ s;refine zd (l ?_);refine zd (d.field (by decide) (Vq g λh' k=>h h' λb o hb e=>k b o (sV hb e)))
theorem b6{tp:A1}{g:AE}{c:Nat}{x:Int×A0}(d:It s.heap it a (.ref tp) i es.size ep)(f:Wk w s.heap a es ep t)(n:s.heap.get? tp=Z g)(p:g.data=.seq (pl.map λ(k:Nat)=>rawInt (k:Int)).toArray c)(l:pl[i]?=Z j)(hx:es[j]?=Z x)(h:∀h',It h' it a (.ref tp) (i+1) es.size ep->(∀b o,b≠it->s.heap.get? b=Z o->h'.get? b=Z o)->Q (Z x.2) { s with heap:=h' }):A7 (A8 prog w) A (pyNext (.ref it)) Q E s:=by
 refine Ek d f ?_;show A7 _ _ (seqItems? (.ref tp) >>= _) _ _ s;refine zd (m:=seqItems? (.ref tp)) ?_;unfold seqItems?;refine zd (K0 n ?_);rw[p];refine zg ?_;dsimp only;rw[kM,show((pl.map λ(k:Nat)=>rawInt (k:Int)).toArray)[i]?=Z (rawInt (j:Int)) by simp[l]];show A7 _ _ (setNextDrawn a j ep >>= _) _ _ s;obtain⟨v,u,y,q⟩:=f.at_;refine zd (m:=setNextDrawn a j ep) ?_;unfold setNextDrawn;refine zd (Q4 u q f.fit ?_);dsimp only;rw[zC (by simp),hx];refine zg ?_;refine zd (d.field (by decide) ?_);exact zg ⟨x.2,rfl,h _ d.step λb o hb e=>sV hb e⟩
theorem Py{tp:A1}{f:AE}{c:Nat}(n:A.handled=Y)(d:It s.heap it a (.ref tp) i es.size ep)(p:Wk w s.heap a es ep t)(g:s.heap.get? tp=Z f)(l:f.data=.seq (pl.map λ(k:Nat)=>rawInt (k:Int)).toArray c)(j:pl[i]?=Y)(h:∀h',(∀b o,b≠it->s.heap.get? b=Z o->h'.get? b=Z o)->Q Y { s with heap:=h' }):A7 (A8 prog w) A (pyNext (.ref it)) Q E s:=by
 refine Ek d p ?_;show A7 _ _ (seqItems? (.ref tp) >>= _) _ _ s;refine zd (m:=seqItems? (.ref tp)) ?_;unfold seqItems?;refine zd (K0 g ?_);rw[l];refine zg ?_;dsimp only;rw[kM,show((pl.map λ(k:Nat)=>rawInt (k:Int)).toArray)[i]?=Y by simpa using j];refine zd (d.field (by decide) ?_);refine zd ((d.put _).field (s:={ s with heap:=_ }) (by decide) (Vq n λh' k=>h h' λb o hb e=>k b o (sV hb (sV hb e))))
theorem wI{Q:Bool->A2->Prop}(h:Q (w.params.followText "set-order") s):A7 (A8 prog w) A setsByText Q E s:=by
 unfold setsByText;exact zd (wpAny_askSetting (zg h))
theorem LR{f:A0}{Q:B8}(b:It s.heap it a f i n ep)(h:Q (.ref it) s):A7 (A8 prog w) A (pyIter (.ref it)) Q E s:=by
 refine wpAny_pyIter_slot b.ty zK (Q2 zK b.ty Im ?_ (LQ _));show A7 _ _ (ret (.ref it)) _ _ s;exact zg ⟨_,rfl,"set_iterator", _,b.ty,jD.lookup,h⟩
def Ma(w:A4)(a:A1)(ep:Nat)(es:Array (Int×A0)):U A0:=(pickOrder (w.params.setOrder a ep) es).toList.map (·.2)
theorem BR:(Ma w a ep es).Perm (es.toList.map (·.2)):=(Xg _ _).map _
theorem J0{slot:Nat}{Q:O (A0×Nat)->A2->Prop}(c:w.params.followText "set-order"=true)(b:Wk w s.heap a es ep t)(h:Q (((Ma w a ep es)[i]?).map λv=>(v,slot)) s):A7 (A8 prog w) A (setNext a slot i ep) Q E s:=by
 obtain⟨g,f,j,d⟩:=b.at_;unfold setNext;refine zd (Q4 f d b.fit (zd (wI ?_)));rw[c];simp only[↓reduceIte,bne_self_eq_false,zr];refine zd (m:=setWalk a) ?_;unfold setWalk;refine zd (Q4 f d b.fit (zd (wI ?_)));rw[c];simp only[↓reduceIte];refine zd (wpAny_askSetting (zg (zg ?_)));have e:(pickOrder (w.params.setOrder a ep) es)[i]?.map (λe=>(e.2,slot))=((Ma w a ep es)[i]?).map λv=>(v,slot):=by
  unfold Ma;rw[Zp,Option.map_map,qA];rfl
 rw[<-e]at h;exact h
theorem S5(m:A.handled=Y)(f:w.params.followText "set-order"=true)(p:a≠it)(c:es.size<=AA):Walks prog w A it [it,a] [it] es.size (λi v=>(Ma w a ep es)[i]?=Z v) (λi h=>It h it a (.int 0 0) i es.size ep/\Wk w h a es ep t) where
 sub:=λb hb=>by simp at hb;simp[hb]
 frame:=λ_ _ _ st j=>⟨st.1.keep λo e=>j it (by simp) o e,st.2.keep λo e=>j a (by simp) o e⟩
 item:=λi s Q E hi st d=>by
  have l:(Ma w a ep es).length=es.size:=by rw[BR.length_eq];simp
  obtain⟨v,g⟩:∃v,(Ma w a ep es)[i]?=Z v:=⟨(Ma w a ep es)[i]'(by omega),by rw[Zl]⟩;refine Z0 (slot:=0) (next:=0) (x:=v) st.1 st.2 (λ{A' E' Q'} hq=>J0 f st.2 (by rw[g];exact hq)) λh' n k=>?_;exact d v h' s.toks g ⟨n,st.2.keep λo e=>k a o p e⟩ λb o hb e=>k b o (λx=>hb (by simp[x])) e
 done:=λs Q E st d=>by
  have l:(Ma w a ep es).length=es.size:=by rw[BR.length_eq];simp
  refine Ge (slot:=0) m st.1 st.2 (λ{A' E' Q'} hq=>J0 f st.2 (by rw[Qb (by omega)];exact hq)) λh' k=>?_;exact d h' s.toks λb o hb e=>k b o (λx=>hb (by simp[x])) e
 self:=λ_ _ _ _ st d=>LR st.1 d
def Xh(pl:U Nat)(es:Array (Int×A0)):U A0:=pl.filterMap λj=>es[j]?.map (·.2)
theorem Xi(h:pl.Perm (List.range es.size)):(Xh pl es).Perm (es.toList.map (·.2)):=by
 refine(h.filterMap _).trans ?_;rw[show(List.range es.size).filterMap (λj=>es[j]?.map (·.2))=((List.range es.size).filterMap λj=>es[j]?).map (·.2) by rw[List.map_filterMap],filterMap_getElem?_range]
theorem Pz:∀{pl:U Nat},(∀j∈pl,j<es.size)->∀(i:Nat) (j:Nat),pl[i]?=Z j->(Xh pl es)[i]?=es[j]?.map (·.2)
 |[],_,_,_,h=>by simp at h
 |k::pl,hb,i,j,h=>by
  have a:=hb k (zi ..);have e:Xh (k::pl) es=es[k].2::Xh pl es:=by simp[Xh,a]
  rw[e];cases i with
  |zero=>cases(show k=j by simpa using h);simp[a]
  |succ i=>rw[ZZ];exact Pz (λj b=>hb j (zh _ b)) i j (by simpa using h)
theorem S7{tp:A1}(p:A.handled=Y)(u:a≠it)(n:tp≠it)(hp:pl.Perm (List.range es.size)):Walks prog w A it [it,a,tp] [it] es.size (λi v=>(Xh pl es)[i]?=Z v)
  (λi h=>It h it a (.ref tp) i es.size ep/\Wk w h a es ep t/\∃d c,h.get? tp=Z d/\d.data=.seq (pl.map λ(k:Nat)=>rawInt (k:Int)).toArray c) where
 sub:=λb hb=>by simp at hb;simp[hb]
 frame:=λ_ _ _ st l=>⟨st.1.keep λo e=>l it (by simp) o e,st.2.1.keep λo e=>l a (by simp) o e,let ⟨d,c,e,r⟩:=st.2.2;⟨d,c,l tp (by simp) d e,r⟩⟩
 item:=λi s Q E hi st f=>by
  obtain⟨d,c,e1,e2⟩:=st.2.2;have m:pl.length=es.size:=by rw[hp.length_eq];simp
  have hb:∀j∈pl,j<es.size:=λj g=>List.mem_range.mp (hp.mem_iff.mp g);have g:pl[i]?=Z (pl[i]'(by omega)):=by rw[Zl]
  have hx:es[pl[i]'(by omega)]?=Z (es[pl[i]'(by omega)]'(hb _ (KL _))):=by rw[qa]
  refine b6 st.1 st.2.1 e1 e2 g hx λh' q k=>?_;exact f _ h' s.toks (by rw[Pz hb i _ g,hx];rfl) ⟨q,st.2.1.keep λo e=>k a o u e,d,c,k tp d n e1,e2⟩ λb o hb e=>k b o (λx=>hb (by simp[x])) e
 done:=λs Q E st f=>by
  obtain⟨d,c,e1,e2⟩:=st.2.2;have m:pl.length=es.size:=by rw[hp.length_eq];simp
  refine Py p st.1 st.2.1 e1 e2 (by rw[Qb (by omega)]) λh' k=>?_;exact f h' s.toks λb o hb e=>k b o (λx=>hb (by simp[x])) e
 self:=λ_ _ _ _ st f=>LR st.1 f
def vO(t:SetTable)(i:Nat):Nat:=if i=0 then 0 else t.place.getD 0 0+1
theorem dS(j:Nat):SetTable.below #[j] 0=0:=by
 show SetTable.below.go #[j] 0 1 0 1=0;unfold SetTable.below.go;rw[zo (by decide)];show(if #[j].getD 0 0<0 then _ else SetTable.below.go #[j] 0 0 0 0)=0;rw[zC (ku _)];rfl
theorem dm(j:Nat):SetTable.below #[j] (j+1)=1:=by
 show SetTable.below.go #[j] (j+1) 1 0 1=1;unfold SetTable.below.go;rw[zo (by decide)];show(if j<j+1 then SetTable.below.go #[j] (j+1) 0 1 1 else _)=1;rw[zo (qc _)];rfl
theorem Xj{P:O (A0×Nat)->Prop}{r:O (A0×Nat)}(hp:t.place.size=es.size)(c:es.size<=1)(hi:i<=es.size)
  (b:r=match es[SetTable.below t.place (vO t i)]?,t.place[SetTable.below t.place (vO t i)]? with
   |some (_,x),Z j=>Z (x,j+1)
   |_,_=>Y) (h:P (((es.toList.map (·.2))[i]?).map λv=>(v,vO t (i+1)))):P r:=by
 subst b;by_cases h0:es.size=0
 ·have e:es=#[]:=Array.eq_empty_of_size_eq_zero h0;subst e;simpa using h
 ·have h1:es.size=1:=by omega
  obtain⟨x,rfl⟩:=Array.size_eq_one_iff.mp h1;obtain⟨j,a⟩:=Array.size_eq_one_iff.mp (hp.trans h1);have hi:i=0\/i=1:=by omega
  rcases hi with rfl|rfl
  ·have e1:vO t 0=0:=rfl;have e2:vO t (0+1)=j+1:=by unfold vO;rw[a];rfl
   rw[e2]at h;rw[e1,a,dS];exact h
  ·have e2:vO t 1=j+1:=by unfold vO;rw[a];rfl
   rw[e2,a,dm];exact h
theorem Gf{Q:O (A0×Nat)->A2->Prop}(d:w.params.followText "set-order"=false)(b:Wk w s.heap a es ep t)(g:es.size<=1)(hi:i<=es.size)(h:Q (((es.toList.map (·.2))[i]?).map λv=>(v,vO t (i+1))) s):A7 (A8 prog w) A (setNext a (vO t i) i ep) Q E s:=by
 obtain⟨m,l,n,j⟩:=b.at_;have hp:t.place.size=es.size:=by
  have:=b.fit;simp only[SetTable.fits,ZY,beq_iff_eq]at this;exact this.1
 unfold setNext;refine zd (Q4 l j b.fit (zd (wI ?_)));rw[d];simp only[zr,↓reduceIte];split
 ·rename_i c;have c:(!t.plain&&decide (es.size>1))=true:=c;simp at c;omega
 ·have f:A7 (A8 prog w) A (if(!t.led&&!es.isEmpty)=true then unsupported "set:maker-not-led" else pure PUnit.unit) (λ_ s'=>s'=s) E s:=by
   rw[b.led d];exact zg rfl
  refine zd (QN f (λ_ s' e=>?_) λ_ _ x=>x);subst e;refine zg ?_;exact Xj (P:=λr=>Q r s') hp g hi Δ h
theorem PJ(l:A.handled=Y)(d:w.params.followText "set-order"=false)(g:es.size<=1)(n:a≠it):Walks prog w A it [it,a] [it] es.size (λi v=>(es.toList.map (·.2))[i]?=Z v) (λi h=>It h it a (.int (vO t i:Nat) 0) i es.size ep/\Wk w h a es ep t) where
 sub:=λb hb=>by simp at hb;simp[hb]
 frame:=λ_ _ _ st j=>⟨st.1.keep λo e=>j it (by simp) o e,st.2.keep λo e=>j a (by simp) o e⟩
 item:=λi s Q E hi st c=>by
  obtain⟨v,f⟩:∃v,(es.toList.map (·.2))[i]?=Z v:=⟨(es.toList.map (·.2))[i]'(by simpa using hi),by rw[Zl]⟩;refine Z0 (x:=v) st.1 st.2 (λ{A' E' Q'} hq=>Gf d st.2 g (j0 hi) (by rw[f];exact hq)) λh' m k=>?_;exact c v h' s.toks f ⟨m,st.2.keep λo e=>k a o n e⟩ λb o hb e=>k b o (λx=>hb (by simp[x])) e
 done:=λs Q E st c=>by
  refine Ge l st.1 st.2 (λ{A' E' Q'} hq=>Gf d st.2 g (zk _) (by rw[Qb (by simp)];exact hq)) λh' k=>?_;exact c h' s.toks λb o hb e=>k b o (λx=>hb (by simp[x])) e
 self:=λ_ _ _ _ st c=>LR st.1 c
theorem Z1(c:Wk w s.heap a es ep t)(z:es.size<=AA){Q:B8}
  (h:∀(it:A1) (h':A6) (d:Drawn) (fp:U A1) (St:Nat->A6->Prop) (y:U A0),y.Perm (es.toList.map (·.2))->(∀n:A5,n.handled=Y->Walks prog w n it fp [it] es.size (λi v=>y[i]?=Z v) St)->St 0 h'->s.heap.objs.size<=it->it<h'.objs.size →
   (∀b∈fp,b=a\/s.heap.objs.size<=b)->(∀b∈fp,b<h'.objs.size)->(∀b o,s.heap.get? b=Z o->h'.get? b=Z o)->Q (.ref it) { s with heap:=h',drawn:=d }):A7 (A8 prog w) A (pyIter (.ref a)) Q E s:=by
 obtain⟨H,f,L,l⟩:=id c.at_;have C:s.TypeIs (.ref a) "set":=⟨H,f,L⟩;have j:a<s.heap.objs.size:=zD f;refine wpAny_pyIter_slot C F.slot_set_iter (Q2 F.slot_set_iter C Dq ?_ (F.args_set_iter_1 _));show A7 _ _ (Builtin.Frozenset.sizeOf a >>= _) _ _ s;refine zd (m:=Builtin.Frozenset.sizeOf a) (zd (wpAny_setEntries_of f l c.fit (zg ?_)));have I:A7 (A8 prog w) A.in1 (setDrawn a) (λb s'=>s'=s/\b=(!(w.params.followText "set-order")&&(!t.plain&&decide (es.size>1)))) E s:=by
  unfold setDrawn;exact zd (Q4 f l c.fit (zd (wI (zg ⟨rfl,rfl⟩))))
 refine zd (QN I (λb s' e=>?_) λ_ _ x=>x);obtain⟨rfl,rfl⟩:=e;dsimp only;by_cases g:w.params.followText "set-order"=true
 ·rw[g];simp only[kC,yb,zr,ZN];refine zd (zg ?_);refine zd (m:=setEpoch a) (wpAny_setEpoch_of f l c.fit ?_);refine zd (qo (zg ⟨_,rfl,"set_iterator", _,⟨_,zv _ rfl,rfl⟩,jD.lookup,?_⟩));have:=h s'.heap.objs.size (s'.heap.push { cls:=.type "set_iterator",data:=.fields #[.int 0 0,.int 0 0,.ref a,.int es.size 0,.int ep 0] }) s'.drawn [s'.heap.objs.size,a] _ _ BR (λn q=>S5 q g (t:=t) (ep:=ep) (z4 j) z)
   ⟨⟨_,zv _ rfl,rfl,rfl⟩,c.keep λo e=>ze _ e⟩ (zk _) (by rw[qr];exact qc _) (λb hb=>by simp at hb;rcases hb with rfl|rfl;exact .inr (zk _);exact .inl Δ)
   (λb hb=>by simp at hb;rw[qr];rcases hb with rfl|rfl;exact qc _;exact QA j) λb o e=>ze _ e
  exact this
 ·have g:w.params.followText "set-order"=false:=by simpa using g
  rw[g];simp only[kR,yz];by_cases K:es.size<=1
  ·rw[zC (by simp;omega)];refine zd (zg ?_);refine zd (m:=setEpoch a) (wpAny_setEpoch_of f l c.fit ?_);refine zd (qo (zg ⟨_,rfl,"set_iterator", _,⟨_,zv _ rfl,rfl⟩,jD.lookup,?_⟩));have:=h s'.heap.objs.size (s'.heap.push { cls:=.type "set_iterator",data:=.fields #[.int 0 0,.int 0 0,.ref a,.int es.size 0,.int ep 0] }) s'.drawn [s'.heap.objs.size,a] _ _ (List.Perm.refl _) (λn q=>PJ q g K (t:=t) (ep:=ep) (z4 j))
    ⟨⟨_,zv _ rfl,rfl,rfl⟩,c.keep λo e=>ze _ e⟩ (zk _) (by rw[qr];exact qc _) (λb hb=>by simp at hb;rcases hb with rfl|rfl;exact .inr (zk _);exact .inl Δ)
    (λb hb=>by simp at hb;rw[qr];rcases hb with rfl|rfl;exact qc _;exact QA j) λb o e=>ze _ e
   exact this
  ·rw[zo (by rw[c.non (by omega)];simp;omega)];refine zd (c9 _ _ _ _ (by simp) λpl d hp=>?_);refine zd (wpAny_newTuple ?_ (by rw[zl,hp.length_eq,KB];exact z));refine zd (m:=setEpoch a) (wpAny_setEpoch_of (ze _ f) l c.fit ?_);refine zd (qo (zg ⟨_,rfl,"set_iterator", _,⟨_,zv _ rfl,rfl⟩,jD.lookup,?_⟩));generalize u:s'.heap.push { cls:=.type "tuple",data:=.seq (pl.map λ(k:Nat)=>rawInt (k:Int)).toArray }=G;have p:G.objs.size=s'.heap.objs.size+1:=by rw[<-u,qr]
   have J:G.get? s'.heap.objs.size=Z { cls:=.type "tuple",data:=.seq (pl.map λ(k:Nat)=>rawInt (k:Int)).toArray }:=by rw[<-u];exact zv _ rfl
   have B:∀b o,s'.heap.get? b=Z o->G.get? b=Z o:=λb o e=>by rw[<-u];exact ze _ e
   have D:a<G.objs.size:=by rw[p];exact QA j
   have:=h G.objs.size (G.push { cls:=.type "set_iterator",data:=.fields #[.ref s'.heap.objs.size,.int 0 0,.ref a,.int es.size 0,.int ep 0] }) d [G.objs.size,a,s'.heap.objs.size] _ _ (Xi hp) (λn q=>S7 q (t:=t) (ep:=ep) (tp:=s'.heap.objs.size) (z4 D) (by rw[p];exact z4 (qc _)) hp)
    ⟨⟨_,zv _ rfl,rfl,rfl⟩,c.keep λo e=>ze _ (B _ _ e),_,0,ze _ J,rfl⟩ (by rw[p];exact kP _) (by rw[qr];exact qc _)
    (λb hb=>by simp at hb;rcases hb with rfl|rfl|rfl;exact .inr (by rw[p];exact kP _);exact .inl rfl;exact .inr (zk _))
    (λb hb=>by
     simp at hb;rw[qr];rcases hb with rfl|rfl|rfl
     ·exact qc _
     ·exact QA D
     ·exact QA (by rw[p];exact qc _)) λb o e=>ze _ (B _ _ e)
   exact this
end
end S6
namespace S6
open P1
section
variable{es:Array (Int×A0)}
theorem Xk{b:U A0}{a:Array A0}(f:b.length=n)(h:ItemsOf (λi v=>b[i]?=Z v) a n):a.toList=b:=by
 apply List.ext_getElem?;intro j;by_cases d:j<n
 ·have c:j<a.size:=by rw[h.1];exact d
  have e:a.toList[j]?=Z a[j]:=by simp[c]
  rw[e,h.2 j a[j] (by simp[c])]
 ·rw[Qb (by rw[qi,h.1];omega),Qb (by omega)]
theorem PK{Q:List A0->A2->Prop}(K:A.handled=Y)(z:Wk w s.heap a es ep t)(D:es.size<=AA)
  (hQ:∀f h' d tk,f.Perm (es.toList.map (·.2))->s.heap.objs.size<=h'.objs.size->(∀b o,s.heap.get? b=Z o->h'.get? b=Z o)->Q f { s with heap:=h',drawn:=d,toks:=tk }):
  A7 (A8 prog w) A (collect (.ref a)) Q E s:=by
 obtain⟨i,h,u,a4⟩:=id z.at_;have hT:s.TypeIs (.ref a) "set":=⟨i,h,u⟩;have v:a<s.heap.objs.size:=zD h;unfold collect;refine zd (wpAny_runValue (ka F.entry_proto_collect ?_));rw[Around.under_plainId F.plain_proto_collect _];show A7 _ A.in1 (newList [] >>= λq=>again (.builtin "list.__iadd__" ⟨[q,.ref a],[]⟩)) _ _ s;refine zd (qo (zg ⟨plainId_quiet F.plain_list_iadd _,ka F.entry_list_iadd ?_⟩));rw[Around.under_plainId F.plain_list_iadd _];show A7 _ A.in1 (Builtin.List.listExtendWith (.ref s.heap.objs.size) (.ref a) (.ref s.heap.objs.size)) _ _ _;unfold Builtin.List.listExtendWith;generalize l:(s.heap.push { cls:=.type "list",data:=.seq ([]:List A0).toArray })=H;have g:∀b o,s.heap.get? b=Z o->H.get? b=Z o:=λb o e=>by rw[<-l];exact ze _ e
 have I:H.objs.size=s.heap.objs.size+1:=by rw[<-l,qr]
 have gH:H.get? s.heap.objs.size=Z (seqObj "list" #[] 0):=by rw[<-l];exact zv _ rfl
 have a1:Wk w H a es ep t:=z.keep λo e=>g a o e;refine zd (Q1 (T :="set") ⟨i,g _ _ h,u⟩ ?_);have h1:Builtin.List.listSameRef (.ref s.heap.objs.size) (.ref a)=false:=by simp[Builtin.List.listSameRef];exact ki v
 simp only[h1,show(Value.type "set"==Value.type "list")=false by decide,show(Value.type "set"==Value.type "tuple")=false by decide,Bool.or_false,zr,ZN];refine zd (Z1 (s:={ s with heap:=H }) a1 D λit G d fp St f hp W a2 a0 a5 N a3 p=>?_);refine zd (QU ?_);unfold Builtin.List.listLengthHint;have j:Shared.TypeIs { s with heap:=G,drawn:=d } (.ref a) "set":=⟨i,p _ _ (g _ _ h),u⟩;refine zd (wpAny_specialOf (T :="set") j F.slot_set_len.lookup ?_)
 wp_delta
 refine zd (JP (T :="set") (b:=true) j (by rw[isSubtype_type];kernel_rfl) ?_);show A7 _ A.in1 (typeOf (Value.ref a) >>= _) _ _ _;refine zd (Q1 (T :="set") j (zg ?_));rw[zo (by decide)];show A7 _ A.in1 (Builtin.List.listTouch (Value.ref s.heap.objs.size) >>= λ_=>again (Code.builtin "list.extend.loop" ⟨[Value.ref s.heap.objs.size,Value.ref it,Value.ref s.heap.objs.size],[]⟩)) _ _ _;have m:G.get? s.heap.objs.size=Z (seqObj "list" #[] 0):=p _ _ gH;unfold Builtin.List.listTouch;refine zd (zd (listUpdate_at m Δ (listUpdate_at (get?_update_seq m _) Δ ?_ (by show _<=_;decide) (by show _<=_;decide)) (by show _<=_;decide) (by show _<=_;decide)));have C:s.heap.objs.size∉fp:=λc=>by
  rcases N _ c with e|e
  ·exact ki v e
  ·have e:H.objs.size<=s.heap.objs.size:=e;rw[I]at e;exact absurd e (Nat.not_succ_le_self _)
 have J:=get?_update_seq (get?_update_seq m (λx=>x.push Value.none)) (λx=>x.pop);generalize S:(G.update s.heap.objs.size (Obj.mapSeq λx=>x.push Value.none)).update s.heap.objs.size (Obj.mapSeq λx=>x.pop)=U at J;have keep:∀b,b≠s.heap.objs.size->U.get? b=G.get? b:=λb hb=>by rw[<-S,JJ _ _ _ _ hb,JJ _ _ _ _ hb]
 have P:St 0 U:=(W A K).frame 0 G U a2 λb hb o e=>by rw[keep b λx=>C (x▸hb)];exact e
 show A7 _ A.in1 (again _) _ _ { s with heap:=U,drawn:=d };have ho:f.length=es.size:=by rw[hp.length_eq];simp
 refine zg ⟨plainId_quiet F.plain_extend_loop _,codeAny_extend_loopS (W A.in1 K).toS D s.heap.objs.size C _ es.size 0 { s with heap:=U,drawn:=d } #[] _ Δ (QR _) P J (ItemsOf.nil _) λs' M c' n B X=>?_⟩;show A7 _ A (load s.heap.objs.size >>= _) _ _ s';refine zd (K0 B (zg ?_));show Q M.toList s';rw[Xk ho X];have y:=hQ f s'.heap s'.drawn s'.toks hp (j0 (zD B)) λb L e=>by
  have hb:=zD e;refine n.heap b L (λc=>?_) ((keep b (z4 hb)).trans (p _ _ (g _ _ e)));simp only[jI,JS,or_false]at c;rcases c with c|c
  ·exact z4 hb c
  ·have:H.objs.size<=it:=a0;rw[I,<-c]at this;exact absurd hb (Nat.not_lt.mpr (Nat.le_of_succ_le this))
 have e1:s'.gens=s.gens:=n.gens;have e2:s'.os=s.os:=n.os;rw[<-e1,<-e2]at y;exact y
end
theorem El{α:Type}[DecidableEq α]:∀{xs ys:U α},xs.Nodup->ys.Nodup->(∀z,z∈xs↔z∈ys)->xs.Perm ys
 |[],ys,_,_,h=>by
  have:ys=[]:=List.eq_nil_iff_forall_not_mem.mpr λz a=>by simpa using(h z).mpr a
  subst this;exact .refl _
 |x::xs,ys,hx,hy,h=>by
  have c:x∈ys:=(h x).mp (zi ..);have b:=List.nodup_cons.mp hx;refine((El b.2 (hy.erase x) λz=>?_).cons x).trans (List.perm_cons_erase c).symm;rw[hy.mem_erase_iff];constructor
  ·intro a;exact⟨λe=>b.1 (e▸a),(h z).mp (zh _ a)⟩
  ·intro⟨hn,a⟩;rcases List.mem_cons.mp ((h z).mpr a)with e|e
   ·exact absurd e hn
   ·exact e
theorem Cz{R:α->β->Prop}:∀{l l':U β},l'.Perm l->∀{ys:U α},AI R ys l->∃a,a.Perm ys/\AI R a l':=by
 intro l l' hp
 replace hp:=hp.symm
 induction hp with
 |nil=>intro ys h;exact⟨ys,.refl _,h⟩
 |cons x _ e=>intro ys h;cases h with|cons r t=>obtain⟨zs,z1,z2⟩:=e t;exact⟨_::zs,z1.cons _,.cons r z2⟩
 |swap x y l=>intro ys h;cases h with|cons r t=>cases t with|cons d g=>exact⟨_,List.Perm.swap _ _ _,.cons d (.cons r g)⟩
 |trans _ _ f i=>intro ys h;obtain⟨zs,z1,z2⟩:=f h;obtain⟨us,c,b⟩:=i z2;exact⟨us,c.trans z1,b⟩
theorem S8{R:α->β->Prop}{xs:U α}{us:U β}{ys:U α}{vs:U β}(h:AI R xs us)(k:AI R ys vs):AI R (xs++ys) (us++vs):=by
 induction h with
 |nil=>exact k
 |cons r _ a=>exact .cons r a
def BU(w:A4):AE:={ cls:=.type "set",dict:=Y,data:=.set #[] 0 (.fresh 0 0 (!w.params.followText "set-order")) }
structure DU (prog:Program) (w:World) (S:Addr) (wr:List Addr) {κ:Type} (C:Heap->List κ->Prop) (P:Nat->Value->Prop) (val:Nat->κ) (n:Nat):Prop where
 keep:∀h h' ys,C h ys->(∀b o,b∉wr->h.get? b=some o->h'.get? b=some o)->C h' ys
 add:∀(A:Around) (E:B8) (s:Shared) (i:Nat) (v:Value) (ys:List κ) (Q:Bool->Shared->Prop),A.units<cLine->i<n->P i v->C s.heap ys->ys.length<=i →
  (∀b h' tk ys',Heap.SameBut S s.heap h'->C h' ys'->(∀z,z∈ys'↔z∈ys\/z=val i)->ys'.length<=i+1->s.toks<=tk->Q b { s with heap:=h',toks:=tk })->wpAny (model prog w) A (setAdd S v) Q E s
section
variable{R:Result->A2->Prop}{I:A1}{wr:U A1}{P:Nat->A0->Prop}{St:Nat->A2->Prop}{C:A6->U κ->Prop}{val:Nat->κ}
theorem Z2(W:WalksS prog w A.in1 I fp wr (λa b=>b=a) n P St)(S:A1)(G:S∉fp)(ad:DU prog w S wr C P val n)(B:A.units+1<cLine):
  ∀(k i:Nat) (s:A2) (ys:U κ),n-i=k->i<=n->St i s->C s.heap ys->(∀z,z∈ys↔∃j,j<i/\z=val j)->ys.length<=i →
   (∀s' d,Moved (S::wr) (λa b=>b=a) s s'->C s'.heap d->(∀z,z∈d↔∃j,j<n/\z=val j)->R (.ok (.ret .none)) s') →
   AF (A8 prog w) A (.builtin "set.update.loop" ⟨[.ref S,.ref I],[]⟩) R s:=by
 have sub:∀b,b∈wr->b∈S::wr:=λb q=>zh _ q;intro k
 induction k with
 |zero=>
  intro i s ys y hi st h l m g;have:i=n:=by omega
  subst this;refine ka F.entry_set_update_loop ?_;rw[Around.under_plainId y3 _];show A7 _ A.in1 (pyNext (.ref I) >>= _) _ _ s;refine zd (W.done s _ _ st λs' c=>?_);show A7 _ A.in1 (ret Value.none) _ _ s';exact zg (g s' ys (c.mono sub) (ad.keep _ _ _ h c.heap) l)
 |succ k H=>
  intro i s ys y hi st h l m g;have f:i<n:=by omega
  refine ka F.entry_set_update_loop ?_;rw[Around.under_plainId y3 _];show A7 _ A.in1 (pyNext (.ref I) >>= _) _ _ s;refine zd (W.item i s _ _ f st λv s' L N c=>?_);show A7 _ A.in1 (holding [v] (setAdd S v) >>= _) _ _ s';refine zd (QU (ad.add _ _ s' i v ys _ B f L (ad.keep _ _ _ h c.heap) m λb h' tk d sb x E D p=>?_));refine zg ⟨plainId_quiet y3 _,H (i+1) _ d (by omega) f (W.frame _ s' _ _ N p λb hb o e=>?_) x (λz=>?_) D λM u J Q t=>?_⟩
  ·rw[sb.2 b λq=>G (q▸hb)];exact e
  ·rw[E z,l z];constructor
   ·rintro(⟨j,K,e⟩|e)
    ·exact⟨j,by omega,e⟩
    ·exact⟨i,by omega,e⟩
   ·rintro⟨j,K,e⟩;by_cases q:j=i
    ·exact .inr (q▸e)
    ·exact .inl ⟨j,by omega,e⟩
  ·refine g M u (Moved.trans W.gtrans ((c.mono sub).then_heap p λb o hb e=>?_) J) Q t;rw[sb.2 b λq=>hb (by rw[q];exact zi)];exact e
end
theorem S9(x:A0){Q₁:B8}(h:Q₁ (.ref s.heap.objs.size) { s with heap:=s.heap.push (BU w) }):
  AF (A8 prog w) A (.call (.builtin "set.__new__") ⟨[.type "set",x],[]⟩) (wants Q₁ E) s:=by
 refine codeAny_of_tree ?_;show A7 _ A.in1 (do checkBuiltinCall "set.__new__" ⟨[.type "set",x],[]⟩;again (.builtin "set.__new__" ⟨[.type "set",x],[]⟩)) _ _ s;refine zd (wpAny_of_eq (F.newCall_set_1 x) (zg ⟨plainId_quiet F.plain_set_new _,ka F.entry_set_new ?_⟩));rw[Around.under_plainId F.plain_set_new _];unfold Builtin.«set.__new__» Builtin.Frozenset.newClass;have a:=sub_set_self;obtain⟨hp,g,d,tk,os⟩:=s;dsimp only
 wp_walk
 refine wpAny_askSetting (zg ?_);dsimp only;simp only[newObj];refine zd (wpAny_alloc (zg ?_));exact zg h
theorem Bn:isSubtype (.type "tuple") (.type "set")=pure false:=by rw[isSubtype_type];kernel_rfl
theorem BM:isSubtype (.type "tuple") (.type "frozenset")=pure false:=by rw[isSubtype_type];kernel_rfl
theorem Z4(hU:A.units+60<cLine){T:String}{o:AE}{C:A6->U κ->Prop}{P:Nat->A0->Prop}{val:Nat->κ}{Q:B8}(hh:A.handled=Y)(ho:s.heap.get? l=Z o)(a5:o.cls=.type T)(B:T ="list" ∨ T ="tuple")(a3:∀(d:A5) (E':B8) (J:B8) (h0:A6),d.handled=Y->(∀b a,s.heap.get? b=Z a->h0.get? b=Z a) →
   (∀(h':A6) (St:Nat->A6->Prop),(∀d,d.handled=Y->Walks prog w d h0.objs.size [h0.objs.size,l] [h0.objs.size] n P St)->St 0 h'->(∀b a,h0.get? b=Z a->h'.get? b=Z a)->J (.ref h0.objs.size) { s with heap:=h' })->A7 (A8 prog w) d (pyIter (.ref l)) J E' { s with heap:=h0 })(ad:DU prog w s.heap.objs.size [s.heap.objs.size+1] C P val n)(a2:∀h',h'.get? s.heap.objs.size=Z (BU w)->(∀b a,s.heap.get? b=Z a->h'.get? b=Z a)->C h' [])(h:∀(h':A6) (tk:Nat) (ys:U κ),C h' ys->(∀z,z∈ys↔∃j,j<n/\z=val j)->(∀b a,s.heap.get? b=Z a->h'.get? b=Z a)->Q (.ref s.heap.objs.size) { s with heap:=h',toks:=tk }):
  A7 (A8 prog w) A (call (.type "set") [.ref l]) Q E s:=by
 obtain⟨c,tl,b3⟩:=F.called_set.mro;have c0:=F.called_set.made;have c6:=F.called_set.sub;have S:l<s.heap.objs.size:=zD ho;refine wpAny_call (codeAny_of_tree ?_);show A7 _ _ (callAny (.type "set") _) _ _ _;refine zg ⟨Code.quiet_builtin _ (by decide +kernel),ka F.entry_type_call ?_⟩;rw[Around.under_plain (weight_type_call_type "set" [.ref l] []) rfl];have h1:=F.called_set.notType;have h2:=F.called_set.canCreate;have b9:=F.typeCall_set_1 (.ref l)
 repeat (any_goals (first|assumption|wp_step))
 refine codeAny_mono (S9 (.ref l) (E:=E) (Q₁:=λM K=>M=.ref s.heap.objs.size/\K={ s with heap:=s.heap.push (BU w) }) ⟨rfl,rfl⟩) λr K v=>?_;cases r with
 |error e=>exact v
 |ok fl=>
  cases fl with
  |ret M=>
   obtain⟨rfl,rfl⟩:=v;generalize p:s.heap.push (BU w)=H;have I:H.objs.size=s.heap.objs.size+1:=by rw[<-p,qr]
   have x:H.get? s.heap.objs.size=Z (BU w):=by rw[<-p];exact zv _ rfl
   have g:∀b a,s.heap.get? b=Z a->H.get? b=Z a:=λb a e=>by rw[<-p];exact ze _ e
   have a0:Shared.TypeIs { s with heap:=H } (.ref s.heap.objs.size) "set":=⟨_,x,rfl⟩;have b0:=F.called_set.init.lookup;have c8:=F.called_set.init.bind (.ref s.heap.objs.size)
   repeat (any_goals (first|assumption|wp_step))
   refine codeAny_mono (codeAny_call_builtin (R:=wants (λr f=>r=.none/\∃h' tk ys,f={ s with heap:=h',toks:=tk }/\C h' ys/\(∀z,z∈ys↔∃j,j<n/\z=val j)/\(∀b a,s.heap.get? b=Z a->h'.get? b=Z a)) E) F.called_set.init.plain F.entry_set_init (check_set_init_1 a0 ?_)) λN f t=>?_
   ·have m:Shared.TypeIs { s with heap:=H } (.ref l) T:=⟨o,g _ _ ho,a5⟩;have i1:isSubtype (.type T) (.type "set")=pure false:=by rcases B with rfl|rfl;exact F.sub_list_set;exact Bn
    have i2:isSubtype (.type T) (.type "frozenset")=pure false:=by rcases B with rfl|rfl;exact F.sub_list_frozenset;exact BM
    have i3:(Value.type T==Value.type "dict")=false:=by rcases B with rfl|rfl<;>decide
    show A7 _ _ (Builtin.«set.__init__» ⟨[.ref s.heap.objs.size,.ref l],[]⟩) _ _ _;have D:∀d:A5,d.handled=Y->d.units+4<cLine->A7 (A8 prog w) d (Builtin.Frozenset.updateFrom "set.__init__" s.heap.objs.size (.ref l)) (λ_ f=>∃h' tk ys,f={ s with heap:=h',toks:=tk }/\C h' ys/\(∀z,z∈ys↔∃j,j<n/\z=val j)/\(∀b a,s.heap.get? b=Z a->h'.get? b=Z a)) E { s with heap:=H }:=by
     intro d L c4;unfold Builtin.Frozenset.updateFrom Builtin.Frozenset.isAnySet;refine zd (zd (JP m i1 ?_));refine JP m i2 ?_;simp only[zr,ZN];refine zd (Q1 m ?_);simp only[i3,zr,ZN];refine zd (a3 d _ _ H L g λG St W a6 y=>?_);rw[I]at W;rw[I];have a1:s.heap.objs.size∉[s.heap.objs.size+1,l]:=λq=>by
      simp only[jI,JS,or_false]at q;rcases q with q|q
      ·exact z4 (qc _) q
      ·exact ki S q
     refine zd (wpAny_runValue (Z2 (W d.in1 L).toS s.heap.objs.size a1 ad (by omega) (n-0) 0 _ [] Δ (QR _) a6 (a2 G (y _ _ x) λb a e=>y _ _ (g _ _ e)) (λz=>⟨λq=>(by cases q),λ⟨j,q,_⟩=>absurd q (ku _)⟩) (zk _) λs' ys i c1 c2=>?_));refine zg ⟨s'.heap,s'.toks,ys,?_,c1,c2,λb a e=>?_⟩
     ·have e1:s'.gens=s.gens:=i.gens;have e2:s'.os=s.os:=i.os;have e3:s'.drawn=s.drawn:=i.drawn;rw[<-e1,<-e2,<-e3]
     ·have hb:=zD e;refine i.heap b a (λq=>?_) (y _ _ (g _ _ e));simp only[jI,JS,or_false]at q;rcases q with q|q
      ·exact z4 hb q
      ·exact z4 (QA hb) q
    have hb:(BU w).data=.set #[] 0 (.fresh 0 0 (!w.params.followText "set-order")):=rfl;unfold Builtin.«set.__init__» noKeywords;generalize a7:Builtin.Frozenset.updateFrom=UF at D ⊢;unfold BU at x
    wp_walk
    refine QN (D _ (by simp[hh]) (by simp;omega)) (λu f q=>?_) λ_ _ q=>q;obtain⟨h',tk,ys,rfl,q⟩:=q;show A7 _ _ (ret Value.none) _ _ _;exact zg ⟨rfl,h',tk,ys,rfl,q⟩
   ·cases N with
    |error e=>exact t
    |ok a4=>
     cases a4 with
     |ret r=>
      obtain⟨rfl,h',tk,ys,rfl,c1,c2,X⟩:=t
      repeat (any_goals (first|assumption|wp_step))
      exact h _ _ _ c1 c2 X
     |_=>exact False.elim t
  |_=>exact False.elim v
end S6
namespace S6
open PySem
def Tc(xs:Array Nat):Prop:=∀i j,i<j->j<xs.size->xs.getD i 0<xs.getD j 0
theorem D5{xs:Array Nat}{k a b:Nat}(h:k<xs.size):xs.getD k a=xs.getD k b:=by simp[Array.getD,h]
theorem TC{xs:Array Nat}{k a:Nat}(h:xs[k]?=Z j):k<xs.size/\xs.getD k a=j:=by
 have b:k<xs.size:=by
  by_cases q:k<xs.size
  ·exact q
  ·rw[KG (by omega)]at h;cases h
 refine⟨b,?_⟩;rw[qa b]at h;cases h;simp[Array.getD,b]
theorem PF{xs:Array Nat}{k a:Nat}(b:k<xs.size)(h:xs.getD k a=j):xs[k]?=Z j:=by
 rw[qa b];simp[Array.getD,b]at h;rw[h]
theorem Gg(xs:Array Nat)(j:Nat)(a:Tc xs):∀(fuel lo hi:Nat),lo<=hi->hi<=xs.size->hi-lo<=fuel->(∀k,k<lo->xs.getD k 0<j)->(∀k,hi<=k->k<xs.size->j<=xs.getD k 0) →
  SetTable.below.go xs j fuel lo hi<=xs.size/\(∀k,k<SetTable.below.go xs j fuel lo hi->xs.getD k 0<j)/\∀k,SetTable.below.go xs j fuel lo hi<=k->k<xs.size->j<=xs.getD k 0
 |0,lo,hi,h1,h2,h3,h4,h5=>by
  have e:lo=hi:=by omega
  subst e;unfold SetTable.below.go;exact⟨h2,h4,h5⟩
 |fuel+1,lo,hi,h1,h2,h3,h4,h5=>by
  unfold SetTable.below.go;by_cases c:lo<hi
  ·rw[zo c];dsimp only;have d:(lo+hi) / 2<xs.size:=by omega
   rw[D5 (b:=0) d];by_cases q:xs.getD ((lo+hi) / 2) 0<j
   ·rw[zo q];refine Gg xs j a fuel _ hi (by omega) h2 (by omega) (λk f=>?_) h5;by_cases e:k=(lo+hi) / 2
    ·rw[e];exact q
    ·exact Nat.lt_trans (a k _ (by omega) d) q
   ·rw[zC q];refine Gg xs j a fuel lo _ (by omega) (by omega) (by omega) h4 λk f hs=>?_;by_cases e:k=(lo+hi) / 2
    ·rw[e];omega
    ·have:=a _ k (by omega:(lo+hi) / 2<k) hs;omega
  ·rw[zC c];have e:lo=hi:=by omega
   subst e;exact⟨h2,h4,h5⟩
theorem BV{xs:Array Nat}(a:Tc xs)(j:Nat):SetTable.below xs j<=xs.size/\(∀k,k<SetTable.below xs j->xs.getD k 0<j)/\∀k,SetTable.below xs j<=k->k<xs.size->j<=xs.getD k 0:=
 Gg xs j a xs.size 0 xs.size (QR _) (zk _) (by omega) (λk h=>absurd h (ku _)) λk h h'=>absurd h' (by omega)
theorem Gh{xs:Array Nat}(b:Tc xs)(h:xs[i]?=Z j):SetTable.below xs j=i:=by
 obtain⟨h1,h2,c⟩:=BV b j;obtain⟨hi,e⟩:=TC (a:=0) h;rcases Nat.lt_trichotomy (SetTable.below xs j) i with q|q|q
 ·have:=c _ (zk _) (by omega);have:=b _ _ q hi;omega
 ·exact q
 ·have:=h2 _ q;omega
theorem Vr(j:Nat):SetTable.has #[] j=false:=by
 unfold SetTable.has;simp
structure Tb (t:SetTable):Prop where
 mask:t.mask=7\/t.mask=31\/t.mask=127
 dum:t.dummies=#[]
 rise:Tc t.place
 bd:∀j:Nat,j∈t.place->j<=t.mask
 full:t.place.size<=t.mask
theorem BW(h:Tb t)(e:t.place[i]?=Z j):t.slot j=.live i:=by
 unfold SetTable.slot;simp only[Gh h.rise e,e,beq_self_eq_true,qS]
theorem Xl(h:Tb t)(e:j∉t.place):t.slot j=.empty:=by
 unfold SetTable.slot;have:(t.place[SetTable.below t.place j]?==Z j)=false:=by
  cases q:t.place[SetTable.below t.place j]? with
  |none=>rfl
  |some x=>
   by_cases hx:x=j
   ·subst hx;exact absurd (Array.mem_of_getElem? q) e
   ·simp[hx]
 simp only[this,zr,ZN,h.dum,Vr]
def Io(mask:Nat)(p:SetTable.Probe):SetTable.Probe:=
 if p.more>0 then { p with j:=p.j+1,more:=p.more-1 }else
 { p with j:=(SetTable.leap mask p.i p.perturb).1,more:=SetTable.runEnd mask (SetTable.leap mask p.i p.perturb).1-(SetTable.leap mask p.i p.perturb).1,i:=(SetTable.leap mask p.i p.perturb).1,perturb:=(SetTable.leap mask p.i p.perturb).2 }
theorem Z5(t:SetTable)(p:SetTable.Probe):t.advance p=Io t.mask p:=rfl
def Do(mask i perturb:Nat):SetTable.Probe:={ j:=i,more:=SetTable.runEnd mask i-i,i,perturb,dummy:=Y }
def gU(mask:Nat)(h:Int):Nat->SetTable.Probe
 |0=>Do mask (SetTable.bits h%(mask+1)) (SetTable.bits h)
 |n+1=>Io mask (gU mask h n)
theorem Vs(mask:Nat)(h:Int):∀n,(gU mask h n).dummy=Y
 |0=>rfl
 |n+1=>by
  have:=Vs mask h n;unfold gU Io;split<;>exact this
theorem PL{t:SetTable}(b:Tb t)(a:Nat->Int)(h:Int):∀(d fuel n:Nat),d<fuel->(∀m,n<=m->m<n+d->∃i,t.place[i]?=Z (gU t.mask h m).j/\a i≠h) →
  ((gU t.mask h (n+d)).j∉t.place->SetTable.probe.go t a h fuel (gU t.mask h n)=Z (.empty (gU t.mask h (n+d)).j Y)) ∧
  ∀i,t.place[i]?=Z (gU t.mask h (n+d)).j->a i=h->SetTable.probe.go t a h fuel (gU t.mask h n)=Z (.candidate (gU t.mask h (n+d)).j i (gU t.mask h (n+d+1)))
 |0,fuel+1,n,_,_=>by
  refine⟨λe=>?_,λi e1 e2=>?_⟩
  ·unfold SetTable.probe.go;rw[Nat.add_zero]at e ⊢;rw[Xl b e];simp only[Vs]
  ·unfold SetTable.probe.go;rw[Nat.add_zero]at e1 ⊢;rw[BW b e1];simp only[e2,beq_self_eq_true,qS,Z5];rfl
 |d+1,fuel+1,n,hd,hp=>by
  obtain⟨i,e1,e2⟩:=hp n (zk _) (by omega);have c:=PL b a h d fuel (n+1) (by omega) λm h1 h2=>hp m (by omega) (by omega);have e:SetTable.probe.go t a h (fuel+1) (gU t.mask h n)=SetTable.probe.go t a h fuel (gU t.mask h (n+1)):=by
   conv=>lhs;unfold SetTable.probe.go
   rw[BW b e1];simp only[beq_iff_eq,e2,ZN,Z5];rfl
  rw[e,show n+(d+1)=n+1+d by omega];exact c
theorem Td:∀(xs ys:U Nat),xs.Nodup->(∀x,x∈xs->x∈ys)->xs.length<=ys.length
 |[],_,_,_=>QR _
 |x::xs,ys,hn,hs=>by
  have a:=List.nodup_cons.mp hn;have c:=hs x (zi ..);have:=Td xs (ys.erase x) a.2 λz b=>(List.mem_erase_of_ne (λe:z=x=>a.1 (by rw[<-e];exact b))).mpr (hs z (zh _ b));have:=List.length_erase_of_mem c;have:0<ys.length:=List.length_pos_of_mem c;simp only[qk];omega
def nx(M i:Nat):Nat:=(i*5+1)%M
def PN(M:Nat):Nat->Nat->Nat
 |0,i=>i
 |k+1,i=>PN M k (nx M i)
theorem Em(M:Nat):∀(a b i:Nat),PN M (a+b) i=PN M b (PN M a i)
 |0,b,i=>by rw[KA];rfl
 |a+1,b,i=>by rw[Nat.succ_add];exact Em M a b _
theorem VM:(∀r,r<8->∃k,k<8/\PN 8 k 0=r)/\PN 8 8 0=0:=by decide +kernel
theorem VQ:(∀r,r<32->∃k,k<32/\PN 32 k 0=r)/\PN 32 32 0=0:=by decide +kernel
theorem Pp:(∀r,r<128->∃k,k<128/\PN 128 k 0=r)/\PN 128 128 0=0:=by decide +kernel
theorem IE{M:Nat}(h:(∀r,r<M->∃k,k<M/\PN M k 0=r)/\PN M M 0=0){r:Nat}(hi:i<M)(c:r<M):∃k,k<M/\PN M k i=r:=by
 obtain⟨a,ha,rfl⟩:=h.1 i hi;obtain⟨b,hb,rfl⟩:=h.1 r c;by_cases q:a<=b
 ·exact⟨b-a,by omega,by rw[<-Em,show a+(b-a)=b by omega]⟩
 ·exact⟨M-a+b,by omega,by rw[<-Em,show a+(M-a+b)=M+b by omega,Em,h.2]⟩
theorem OG(h:mask=7\/mask=31\/mask=127){r:Nat}(hi:i<mask+1)(a:r<mask+1):∃k,k<mask+1/\PN (mask+1) k i=r:=by
 rcases h with rfl|rfl|rfl
 ·exact IE VM hi a
 ·exact IE VQ hi a
 ·exact IE Pp hi a
def lp(mask:Nat)(h:Int):Nat->Nat×Nat
 |0=>(SetTable.bits h%(mask+1),SetTable.bits h)
 |l+1=>SetTable.leap mask (lp mask h l).1 (lp mask h l).2
theorem Gi(mask i:Nat):i<=SetTable.runEnd mask i/\SetTable.runEnd mask i<=i+9:=by unfold SetTable.runEnd;split<;>omega
theorem Z6(h:i<=mask):SetTable.runEnd mask i<=mask:=by unfold SetTable.runEnd;split<;>omega
theorem zL{mask:Nat}{h:Int}{s i p:Nat}(e:gU mask h s=Do mask i p):∀k,k<=SetTable.runEnd mask i-i->gU mask h (s+k)={ Do mask i p with j:=i+k,more:=SetTable.runEnd mask i-i-k }
 |0,_=>by rw[Nat.add_zero,e];rfl
 |k+1,hk=>by
  have a:=zL e k (by omega);show Io mask (gU mask h (s+k))=_;rw[a];unfold Io;rw[zo (by dsimp only;omega)];rfl
theorem PX{h:Int}{s p:Nat}(e:gU mask h s=Do mask i p):gU mask h (s+(SetTable.runEnd mask i-i)+1)=Do mask (SetTable.leap mask i p).1 (SetTable.leap mask i p).2:=by
 show Io mask (gU mask h (s+(SetTable.runEnd mask i-i)))=_;rw[zL e _ (zk _)];unfold Io;rw[zC (by dsimp only;omega)];rfl
theorem Z7(mask:Nat)(h:Int):∀l,∃s,s<=10*l/\gU mask h s=Do mask (lp mask h l).1 (lp mask h l).2
 |0=>⟨0,by omega,rfl⟩
 |l+1=>by
  obtain⟨s,hs,e⟩:=Z7 mask h l;have:=Gi mask (lp mask h l).1;exact⟨_,by omega,PX e⟩
theorem cv(mask:Nat)(h:Int):∀l,(lp mask h l).1<mask+1
 |0=>Nat.mod_lt _ (Nat.succ_pos _)
 |l+1=>Nat.mod_lt _ (Nat.succ_pos _)
theorem Qa(mask:Nat)(h:Int):∀l,(lp mask h l).2*32 ^ l<=SetTable.bits h
 |0=>by simp[lp]
 |l+1=>by
  have a:=Qa mask h l;show(lp mask h l).2 / 32*32 ^ (l+1)<=_;have h1:(lp mask h l).2 / 32*32<=(lp mask h l).2:=Nat.div_mul_le_self _ _;have h2:=Nat.mul_le_mul_right (32 ^ l) h1;rw[Nat.pow_succ,Nat.mul_comm (32 ^ l) 32,<-Nat.mul_assoc];exact ZI h2 a
theorem Pe(h:Int):SetTable.bits h<18446744073709551616:=by
 unfold SetTable.bits;have h1:h%18446744073709551616<18446744073709551616:=Int.emod_lt_of_pos _ (by decide);have h2:0<=h%18446744073709551616:=Int.emod_nonneg _ (by decide);show(h%18446744073709551616).toNat<_;omega
theorem Vt(mask:Nat)(h:Int):∀k,(lp mask h (12+k)).2<32
 |0=>by
  have h1:=Qa mask h 12;have h2:=Pe h;rw[show(32:Nat) ^ 12=1152921504606846976 from rfl]at h1;show(lp mask h 12).2<32;omega
 |k+1=>by
  have:=Vt mask h k;show(lp mask h (12+k)).2 / 32<32;omega
theorem ai(mask:Nat)(h:Int):∀k,(lp mask h (12+k)).1=PN (mask+1) k (lp mask h 12).1:=by
 have step:∀k,(lp mask h (12+k+1)).1=nx (mask+1) (lp mask h (12+k)).1:=λk=>by
  have:=Vt mask h k;show((lp mask h (12+k)).1*5+1+(lp mask h (12+k)).2 / 32)%(mask+1)=_;rw[show(lp mask h (12+k)).2 / 32=0 by omega];rfl
 have b:∀k i,PN (mask+1) k (nx (mask+1) i)=nx (mask+1) (PN (mask+1) k i):=λk=>by
  induction k with
  |zero=>intro i;rfl
  |succ k a=>intro i;exact a _
 intro k
 induction k with
 |zero=>rfl
 |succ k a=>
  rw[show 12+(k+1)=12+k+1 by omega,step,a];exact(b k _).symm
theorem Z8(b:mask=7\/mask=31\/mask=127)(h:Int){r:Nat}(a:r<mask+1):∃l,l<mask+13/\(lp mask h l).1=r:=by
 obtain⟨k,c,e⟩:=OG b (cv mask h 12) a;exact⟨12+k,by omega,by rw[ai,e]⟩
theorem RI(h:Tb t):∃r,r<t.mask+1/\r∉t.place:=by
 by_cases q:∃r,r<t.mask+1/\r∉t.place
 ·exact q
 ·exfalso;have:=Td (List.range (t.mask+1)) t.place.toList yB λx hx=>by
   rw[ya]at hx;by_cases a:x∈t.place
   ·exact Array.mem_toList_iff.mpr a
   ·exact absurd ⟨x,hx,a⟩ q
  rw[KB,qi]at this;have:=h.full;omega
theorem Z9(a:Tb t)(h:Int):∃n,n<10*SetTable.turns t.mask/\(gU t.mask h n).j∉t.place:=by
 obtain⟨r,b,c⟩:=RI a;obtain⟨l,d,e⟩:=Z8 a.mask h b;obtain⟨s,hs,e'⟩:=Z7 t.mask h l;refine⟨s,by unfold SetTable.turns;omega,?_⟩;rw[e'];show(lp t.mask h l).1∉_;rw[e];exact c
theorem Te(f:Tb t)(h:Int):∃n,n<10*SetTable.turns t.mask/\(gU t.mask h n).j∉t.place/\∀m,m<n->(gU t.mask h m).j∈t.place:=by
 obtain⟨n,g,c⟩:=Z9 f h;have:∀k,(∃n,n<=k/\(gU t.mask h n).j∉t.place/\∀m,m<n->(gU t.mask h m).j∈t.place)\/∀m,m<=k->(gU t.mask h m).j∈t.place:=λk=>by
  induction k with
  |zero=>
   by_cases q:(gU t.mask h 0).j∈t.place
   ·exact .inr λm b=>by rw[show m=0 by omega];exact q
   ·exact .inl ⟨0,zk _,q,λm b=>absurd b (ku _)⟩
  |succ k a=>
   rcases a with⟨n,h1,h2⟩|a
   ·exact .inl ⟨n,by omega,h2⟩
   ·by_cases q:(gU t.mask h (k+1)).j∈t.place
    ·exact .inr λm b=>by
      by_cases e:m=k+1
      ·rw[e];exact q
      ·exact a m (by omega)
    ·exact .inl ⟨k+1,zk _,q,λm b=>a m (by omega)⟩
 rcases this n with⟨m,h1,h2,d⟩|q
 ·exact⟨m,by omega,h2,d⟩
 ·exact absurd (q n (zk _)) c
theorem gD(xs:Array α)(k:Nat)(a:α):xs.getD k a=xs[k]?.getD a:=by
 by_cases h:k<xs.size
 ·rw[qa h];simp[Array.getD,h]
 ·rw[KG (by omega)];simp[Array.getD,h]
structure Tok (t:SetTable) (es:Array (Int×Value)):Prop extends Tb t where
 size:t.place.size=es.size
 reach:∀(i j:Nat) e,t.place[i]?=some j->es[i]?=some e->∃n,n<10*SetTable.turns t.mask/\(gU t.mask e.1 n).j=j/\∀m,m<n->(gU t.mask e.1 m).j∈t.place
theorem zM(xs:Array α)(p:Nat)(x:α):(SetTable.insertAt xs p x).toList=xs.toList.take p++x::xs.toList.drop p:=by
 unfold SetTable.insertAt;simp[Array.toList_extract,List.take_of_length_le]
theorem DY{xs:Array α}{p:Nat}(hp:p<=xs.size)(x:α)(i:Nat):(SetTable.insertAt xs p x)[i]?=if i<p then xs[i]? else if i=p then Z x else xs[i-1]?:=by
 rw[<-qA,zM,List.getElem?_append];have a:(xs.toList.take p).length=p:=by rw[kg,qi];omega
 rw[a];by_cases h1:i<p
 ·rw[zo h1,zo h1,List.getElem?_take,zo h1,qA]
 ·rw[zC h1,zC h1];by_cases h2:i=p
  ·rw[zo h2,h2,Nat.sub_self];rfl
  ·rw[zC h2,show i-p=(i-p-1)+1 by omega,ZZ,List.getElem?_drop,qA,show p+(i-p-1)=i-1 by omega]
theorem vP(xs:Array α)(p:Nat)(x:α):(SetTable.insertAt xs p x).size=xs.size+1:=by
 rw[<-qi,zM,z5,qk,kg,kX,qi];omega
theorem Vu{xs:Array α}{p:Nat}{x y:α}:y∈SetTable.insertAt xs p x↔y∈xs\/y=x:=by
 rw[<-Array.mem_toList_iff,zM,KP,jI,<-Array.mem_toList_iff];constructor
 ·rintro(h|h|h)
  ·exact .inl (List.mem_of_mem_take h)
  ·exact .inr h
  ·exact .inl (List.mem_of_mem_drop h)
 ·rintro(h|h)
  ·rw[<-List.take_append_drop p xs.toList,KP]at h;rcases h with h|h
   ·exact .inl h
   ·exact .inr (.inr h)
  ·exact .inr (.inl h)
theorem UY{xs:Array Nat}(c:Tc xs)(f:j∉xs):Tc (SetTable.insertAt xs (SetTable.below xs j) j):=by
 obtain⟨h1,h2,e⟩:=BV c j;intro a b h hb;rw[vP]at hb;have d:∀i,i<xs.size+1->(SetTable.insertAt xs (SetTable.below xs j) j).getD i 0=if i<SetTable.below xs j then xs.getD i 0 else if i=SetTable.below xs j then j else xs.getD (i-1) 0:=λi hi=>by
  rw[gD,DY h1];by_cases q1:i<SetTable.below xs j
  ·rw[zo q1,zo q1,<-gD]
  ·rw[zC q1,zC q1];by_cases q2:i=SetTable.below xs j
   ·rw[zo q2,zo q2];rfl
   ·rw[zC q2,zC q2,<-gD]
 have gt:∀k,SetTable.below xs j<=k->k<xs.size->j<xs.getD k 0:=λk g hs=>by
  have q:=e k g hs;rcases Nat.lt_or_eq_of_le q with q|q
  ·exact q
  ·exact absurd (Array.mem_of_getElem? (PF hs q.symm)) f
 rw[d a (by omega),d b hb];by_cases a1:a<SetTable.below xs j
 ·rw[zo a1];by_cases b1:b<SetTable.below xs j
  ·rw[zo b1];exact c a b h (by omega)
  ·rw[zC b1];have:=h2 a a1;by_cases b2:b=SetTable.below xs j
   ·rw[zo b2];exact this
   ·rw[zC b2];exact Nat.lt_trans this (gt _ (by omega) (by omega))
 ·rw[zC a1];by_cases a2:a=SetTable.below xs j
  ·rw[zo a2,zC (by omega),zC (by omega)];exact gt _ (by omega) (by omega)
  ·rw[zC a2,zC (by omega),zC (by omega)];exact c _ _ (by omega) (by omega)
theorem Sj{es:Array (Int×A0)}(h:Tok t es){d:Int}{x:A0}(w:n<10*SetTable.turns t.mask)(o:(gU t.mask d n).j∉t.place)(hp:∀m,m<n->(gU t.mask d m).j∈t.place)(p:(gU t.mask d n).j<=t.mask)(hs:es.size+1<=t.mask):
  Tok (t.put (gU t.mask d n).j).1 (SetTable.insertAt es (t.put (gU t.mask d n).j).2 (d,x))/\(t.put (gU t.mask d n).j).1.led=t.led/\(t.put (gU t.mask d n).j).1.plain=t.plain/\(t.put (gU t.mask d n).j).1.mask=t.mask:=by
 have v:=h.dum;have y:t.put (gU t.mask d n).j=({ t with place:=SetTable.insertAt t.place (SetTable.below t.place (gU t.mask d n).j) (gU t.mask d n).j,dummies:=#[] },SetTable.below t.place (gU t.mask d n).j):=by
  unfold SetTable.put;rw[v];simp only[Vr,zr,ZN]
 rw[y];have l:=h.size;have hb:=(BV h.rise (gU t.mask d n).j).1;refine⟨{ mask:=h.mask,dum:=rfl,rise:=UY h.rise o,bd:=λj s=>?_,full:=?_,size:=?_,reach:=λi j e h1 h2=>?_ },rfl,rfl,rfl⟩
 ·rcases Vu.mp s with q|q
  ·exact h.bd j q
  ·rw[q];exact p
 ·show(SetTable.insertAt _ _ _).size<=t.mask;rw[vP];omega
 ·show(SetTable.insertAt _ _ _).size=_;rw[vP,vP,l]
 ·have h1:(SetTable.insertAt t.place (SetTable.below t.place (gU t.mask d n).j) (gU t.mask d n).j)[i]?=Z j:=h1;rw[DY hb]at h1;rw[DY (by rw[<-l];exact hb)]at h2;have f:∀e':Int×A0,(∃n,n<10*SetTable.turns t.mask/\(gU t.mask e'.1 n).j=j/\∀m,m<n->(gU t.mask e'.1 m).j∈t.place)->∃g,g<10*SetTable.turns t.mask/\(gU t.mask e'.1 g).j=j/\∀m,m<g->(gU t.mask e'.1 m).j∈SetTable.insertAt t.place (SetTable.below t.place (gU t.mask d n).j) (gU t.mask d n).j:=
   λe' ⟨n,a,b,c⟩=>⟨n,a,b,λm u=>Vu.mpr (.inl (c m u))⟩
  by_cases q1:i<SetTable.below t.place (gU t.mask d n).j
  ·rw[zo q1]at h1 h2;exact f e (h.reach i j e h1 h2)
  ·rw[zC q1]at h1 h2;by_cases q2:i=SetTable.below t.place (gU t.mask d n).j
   ·rw[zo q2]at h1 h2;cases h1;cases h2;exact f (d,x) ⟨n,w,rfl,hp⟩
   ·rw[zC q2]at h1 h2;exact f e (h.reach (i-1) j e h1 h2)
theorem ME{mask:Nat}(h:Int):∀n,(gU mask h n).j+(gU mask h n).more<=mask
 |0=>by
  have h1:SetTable.bits h%(mask+1)<mask+1:=Nat.mod_lt _ (Nat.succ_pos _);have:=Z6 (mask:=mask) (i:=SetTable.bits h%(mask+1)) (by omega);have:=Gi mask (SetTable.bits h%(mask+1));show SetTable.bits h%(mask+1)+(SetTable.runEnd mask (SetTable.bits h%(mask+1))-SetTable.bits h%(mask+1))<=mask;omega
 |n+1=>by
  have b:=ME (mask:=mask) h n;show(Io mask (gU mask h n)).j+(Io mask (gU mask h n)).more<=mask;unfold Io;split
  ·dsimp only;omega
  ·dsimp only;generalize a:(SetTable.leap mask (gU mask h n).i (gU mask h n).perturb).1=i;have h1:i<mask+1:=by rw[<-a];exact Nat.mod_lt _ (Nat.succ_pos _)
   have:=Z6 (mask:=mask) (i:=i) (by omega);have:=Gi mask i;omega
theorem Tf(h:Int)(n:Nat):(gU mask h n).j<=mask:=by have:=ME (mask:=mask) h n;omega
def Tg(owner:Array (O Nat))(j:Nat):Prop:=(owner.getD j (Z 0)).isNone=false
theorem J1{mask:Nat}{h:Int}{owner:Array (O Nat)}:∀(fuel l s j:Nat),gU mask h s=Do mask (lp mask h l).1 (lp mask h l).2->s<=10*l->(∀m,m<s->Tg owner (gU mask h m).j) →
  SetTable.layClean.free mask owner fuel (lp mask h l).1 (lp mask h l).2=Z j->∃n,n<10*(l+fuel)/\(gU mask h n).j=j/\(owner.getD j (Z 0)).isNone=true/\∀m,m<n->Tg owner (gU mask h m).j
 |0,l,s,j,_,_,_,e=>by unfold SetTable.layClean.free at e;cases e
 |fuel+1,l,s,j,hs,hl,ho,e=>by
  have i:=Gi mask (lp mask h l).1;unfold SetTable.layClean.free at e;cases c:(List.range (SetTable.runEnd mask (lp mask h l).1+1-(lp mask h l).1)).find? λk=>(owner.getD ((lp mask h l).1+k) (Z 0)).isNone with
  |some k=>
   rw[c]at e;cases e;obtain⟨h1,h2,d⟩:=List.find?_range_eq_some.mp c;rw[ya]at h2;refine⟨s+k,by omega,?_,h1,λm g=>?_⟩
   ·rw[zL hs k (by omega)]
   ·by_cases q:m<s
    ·exact ho m q
    ·have f:=d (m-s) (by omega);rw[show m=s+(m-s) by omega,zL hs (m-s) (by omega)];simpa[Tg]using f
  |none=>
   rw[c]at e;have d:=List.find?_range_eq_none.mp c;obtain⟨n,a,b⟩:=J1 fuel (l+1) _ j (PX hs) (by omega) (λm g=>by
    by_cases q:m<s
    ·exact ho m q
    ·have f:=d (m-s) (by omega);rw[show m=s+(m-s) by omega,zL hs (m-s) (by omega)];simpa[Tg]using f) e
   exact⟨n,by omega,b⟩
theorem J2{mask:Nat}{h:Int}{owner:Array (O Nat)}:∀(fuel l:Nat),SetTable.layClean.free mask owner fuel (lp mask h l).1 (lp mask h l).2=Y->∀l',l<=l'->l'<l+fuel->Tg owner (lp mask h l').1
 |0,l,_,l',h1,h2=>by omega
 |fuel+1,l,e,l',h1,h2=>by
  have d:=Gi mask (lp mask h l).1;unfold SetTable.layClean.free at e;cases a:(List.range (SetTable.runEnd mask (lp mask h l).1+1-(lp mask h l).1)).find? λk=>(owner.getD ((lp mask h l).1+k) (Z 0)).isNone with
  |some k=>rw[a]at e;cases e
  |none=>
   rw[a]at e;have c:=List.find?_range_eq_none.mp a;by_cases q:l'=l
   ·subst q;have b:=c 0 (by omega);simpa[Tg]using b
   ·exact J2 fuel (l+1) e l' (by omega) (by omega)
structure Ow (mask:Nat) (hs:List Int) (owner:Array (Option Nat)):Prop where
 size:owner.size=mask+1
 lt:∀(j idx:Nat),owner[j]?=some (some idx)->idx<hs.length
 all:∀(idx:Nat) h,hs[idx]?=some h->∃j,owner[j]?=some (some idx)/\∃n,n<10*SetTable.turns mask/\(gU mask h n).j=j/\∀m,m<n->Tg owner (gU mask h m).j
 inj:∀(j j' idx:Nat),owner[j]?=some (some idx)->owner[j']?=some (some idx)->j=j'
theorem MI{hs:U Int}(o:Ow mask hs owner)(c:j<=mask):Tg owner j↔∃a,owner[j]?=Z (Z a):=by
 unfold Tg;have b:j<owner.size:=by rw[o.size];omega
 rw[gD,qa b];cases owner[j]with
 |none=>simp
 |some i=>simp
theorem Xm{f:Nat->Nat}:∀{xs:U Nat},xs.Nodup->(∀x∈xs,∀y∈xs,f x=f y->x=y)->(xs.map f).Nodup:=λ{xs} hn hi=>
 List.pairwise_map.mpr (Ki (λha hb a e=>a (hi _ ha _ hb e)) hn)
theorem X9{hs:U Int}(o:Ow mask hs owner)(g:hs.length<=mask):∃r,r<mask+1/\¬ Tg owner r:=by
 by_cases q:∃r,r<mask+1/\¬ Tg owner r
 ·exact q
 ·exfalso;have all:∀r,r<mask+1->∃c,owner[r]?=Z (Z c):=λr a=>by
   by_cases d:Tg owner r
   ·exact(MI o (by omega)).mp d
   ·exact absurd ⟨r,a,d⟩ q
  have f:∀r,r<mask+1->owner[r]?=Z (Z ((owner[r]?.getD Y).getD 0)):=λr a=>by
   obtain⟨c,e⟩:=all r a;rw[e];rfl
  have:=Td ((List.range (mask+1)).map λr=>(owner[r]?.getD Y).getD 0) (List.range hs.length) (Xm yB λx hx y b e=>by
   rw[ya]at hx b;have e1:=f x hx;have e2:=f y b;rw[e]at e1;exact o.inj x y _ e1 e2) λx hx=>by
    obtain⟨r,a,rfl⟩:=List.mem_map.mp hx;rw[ya]at a;exact List.mem_range.mpr (o.lt r _ (f r a))
  rw[zl,KB,KB]at this;omega
theorem NG(f:mask=7\/mask=31\/mask=127){hs:U Int}(o:Ow mask hs owner)(u:hs.length<=mask)(h:Int):
  ∃j,SetTable.layClean.free mask owner (SetTable.turns mask) (SetTable.bits h%(mask+1)) (SetTable.bits h)=Z j/\Ow mask (hs++[h]) (owner.setIfInBounds j (Z hs.length)):=by
 obtain⟨r,t,x⟩:=X9 o u;cases i:SetTable.layClean.free mask owner (SetTable.turns mask) (SetTable.bits h%(mask+1)) (SetTable.bits h)with
 |none=>
  obtain⟨l,B,e⟩:=Z8 f h t;have:=J2 (h:=h) (owner:=owner) (SetTable.turns mask) 0 i l (QR _) (by unfold SetTable.turns;omega);rw[e]at this;exact absurd this x
 |some j=>
  obtain⟨n,h1,h2,p,w⟩:=J1 (h:=h) (owner:=owner) (SetTable.turns mask) 0 0 j Δ (zk _) (λm f=>absurd f (ku _)) i;rw[KA]at h1;have A:j<=mask:=by rw[<-h2];exact Tf h n
  have v:j<owner.size:=by rw[o.size];omega
  have get:∀k:Nat,(owner.setIfInBounds j (Z hs.length))[k]?=if k=j then Z (Z hs.length)else owner[k]?:=λk=>by
   rw[Array.getElem?_setIfInBounds];by_cases q:k=j
   ·rw[zo q,zo q.symm,zo v]
   ·rw[zC q,zC (λe=>q e.symm)]
  have old:∀k d:Nat,owner[k]?=Z (Z d)->k≠j:=λk d e q=>by
   subst q;rw[gD,e]at p;cases p
  have s:∀k,Tg owner k->Tg (owner.setIfInBounds j (Z hs.length)) k:=λk q=>by
   unfold Tg at q ⊢;rw[gD]at q ⊢;rw[get];by_cases e:k=j
   ·rw[zo e];rfl
   ·rw[zC e];exact q
  refine⟨j,rfl,⟨by rw[Array.size_setIfInBounds];exact o.size,λk d e=>?_,λd g e=>?_,λa b d e1 e2=>?_⟩⟩
  ·rw[get]at e;rw[z5];by_cases q:k=j
   ·rw[zo q]at e;cases e;simp
   ·rw[zC q]at e;have:=o.lt k d e;simp;omega
  ·by_cases q:d<hs.length
   ·rw[ZO q]at e;obtain⟨k,e1,z,a,b,c⟩:=o.all d g e;exact⟨k,by rw[get,zC (old k d e1)];exact e1,z,a,b,λm f=>s _ (c m f)⟩
   ·rw[qv (by omega)]at e;have:d-hs.length=0:=by
     by_cases y:d-hs.length=0
     ·exact y
     ·rw[Qb (by simp;omega)]at e;cases e
    rw[this]at e;cases e;have:d=hs.length:=by omega
    subst this;exact⟨j,by rw[get,zo rfl],n,h1,h2,λm f=>s _ (w m f)⟩
  ·rw[get]at e1 e2;by_cases q1:a=j
   ·by_cases q2:b=j
    ·rw[q1,q2]
    ·rw[zo q1]at e1;rw[zC q2]at e2;cases e1;have:=o.lt b _ e2;omega
   ·by_cases q2:b=j
    ·rw[zC q1]at e1;rw[zo q2]at e2;cases e2;have:=o.lt a _ e1;omega
    ·rw[zC q1]at e1;rw[zC q2]at e2;exact o.inj a b d e1 e2
theorem ZB(mask:Nat):Ow mask [] (Array.replicate (mask+1) Y):=by
 have no:∀(j a:Nat),(Array.replicate (mask+1) (Y:O Nat))[j]?≠Z (Z a):=λj a e=>by
  rw[Array.getElem?_replicate]at e;split at e<;>cases e
 exact⟨Array.size_replicate,λj a e=>absurd e (no j a),λa h e=>by simp at e,λj b a e=>absurd e (no j a)⟩
theorem SC(i:mask=7\/mask=31\/mask=127)(hs:U Int)(a:hs.length<=mask):∃owner,SetTable.layClean mask hs.toArray=Z owner/\Ow mask hs owner:=by
 have l:∀(ys xs:U Int) (owner:Array (O Nat)),Ow mask xs owner->xs.length+ys.length<=mask->∃d,ys.foldl (λ(f:O (Array (O Nat)×Nat)) h=>do
   let (owner,k) <-f
   let j <-SetTable.layClean.free mask owner (SetTable.turns mask) (SetTable.bits h%(mask+1)) (SetTable.bits h)
   pure (owner.setIfInBounds j (Z k),k+1)) (Z (owner,xs.length))=Z (d,xs.length+ys.length)/\Ow mask (xs++ys) d:=by
  intro ys
  induction ys with
  |nil=>intro xs owner o _;exact⟨owner,rfl,by rw[ZU];exact o⟩
  |cons y ys g=>
   intro xs owner o a;rw[qk]at a;obtain⟨j,e,o'⟩:=NG i o (by omega) y;obtain⟨b,e2,c⟩:=g (xs++[y]) _ o' (by simp;omega);refine⟨b,?_,by rw[QE]at c;exact c⟩;rw[qh];simp only[Option.bind_eq_bind,Option.bind_some,e,pure];rw[show(xs++[y]).length=xs.length+1 by simp]at e2;rw[qk,show xs.length+(ys.length+1)=xs.length+1+ys.length by omega];exact e2
 obtain⟨b,e,o⟩:=l hs [] _ (ZB mask) (by simpa using a);refine⟨b,?_,by simpa using o⟩;unfold SetTable.layClean;rw[List.foldl_toArray];exact congrArg (Option.map (·.1)) e
theorem Lj{α β:Type}{f:α->O β}{g:α->β}:∀{xs:U α},(∀x∈xs,f x=Z (g x))->xs.filterMap f=xs.map g
 |[],_=>rfl
 |x::xs,h=>by
  rw[k9,h x (zi ..),zw,Lj λy a=>h y (zh _ a)]
theorem c5{xs:U Nat}(h:xs.Pairwise (· < ·)):Tc xs.toArray:=by
 intro i j c b;have a:j<xs.length:=by simpa using b
 rw[gD,gD,List.getElem?_toArray,List.getElem?_toArray,Zl a,Zl (by omega)];exact List.pairwise_iff_getElem.mp h i j (by omega) a c
theorem Xn{es:Array (Int×A0)}{wanted:Nat}(A:SetTable.sizeAbove wanted-1=7\/SetTable.sizeAbove wanted-1=31\/SetTable.sizeAbove wanted-1=127)(G:es.size<=SetTable.sizeAbove wanted-1):
  ∃t' B,t.relaid (es.map (·.1)) wanted=Z (t',B)/\(B.filterMap (es[·]?)).toList.Perm es.toList/\Tok t' (B.filterMap (es[·]?))/\t'.led=t.led/\t'.plain=t.plain/\t'.mask=SetTable.sizeAbove wanted-1:=by
 generalize H:SetTable.sizeAbove wanted-1=mask at A G ⊢;have hs:(es.toList.map (·.1)).length=es.size:=by simp
 obtain⟨d,e,o⟩:=SC A (es.toList.map (·.1)) (by omega);have ea:es.map (·.1)=(es.toList.map (·.1)).toArray:=by
  apply Array.ext';simp
 let L:U (Nat×Nat):=(List.range (mask+1)).filterMap λj=>(d.getD j Y).map λk=>(j,k)
 have f:∀j k,(j,k)∈L↔d[j]?=Z (Z k):=λj k=>by
  show(j,k)∈List.filterMap _ _↔_;rw[List.mem_filterMap];constructor
  ·rintro⟨a,ha,q⟩;rw[gD]at q;cases h1:d[a]? with
   |none=>rw[h1]at q;cases q
   |some x=>
    rw[h1]at q;cases x with
    |none=>cases q
    |some y=>cases q;exact h1
  ·intro q;refine⟨j,List.mem_range.mpr ?_,?_⟩
   ·by_cases h:j<d.size
    ·rw[<-o.size];exact h
    ·rw[KG (by omega)]at q;cases q
   ·rw[gD,q];rfl
 have C:L.Pairwise λa b=>a.1<b.1:=by
  refine List.pairwise_filterMap.mpr (List.pairwise_lt_range.imp λ{a b} hab x hx y hy=>?_);cases h1:d.getD a Y with
  |none=>rw[h1]at hx;cases hx
  |some u=>
   cases h2:d.getD b Y with
   |none=>rw[h2]at hy;cases hy
   |some v=>rw[h1]at hx;rw[h2]at hy;cases hx;cases hy;exact hab
 have J:(L.map (·.2)).Nodup:=by
  refine List.pairwise_map.mpr (Ki (λ{a b} ha hb hab e=>?_) C);have h1:=(f a.1 a.2).mp ha;have h2:=(f b.1 b.2).mp hb;rw[e]at h1;have:=o.inj _ _ _ h1 h2;omega
 have s:(L.map (·.2)).Perm (List.range es.size):=El J yB λz=>by
  rw[List.mem_map,ya];constructor
  ·rintro⟨a,ha,rfl⟩;have:=o.lt _ _ ((f a.1 a.2).mp ha);omega
  ·intro K;obtain⟨j,h1,_⟩:=o.all z ((es.toList.map (·.1))[z]'(by omega)) (Zl (by omega));exact⟨(j,z),(f j z).mpr h1,rfl⟩
 let g:Nat->Int×A0:=λk=>es.getD k (0,.none)
 have hg:∀k,k<es.size->es[k]?=Z (g k):=λk l=>by
  show _=Z (es.getD k _);rw[gD,qa l];rfl
 have D:(L.map (·.2)).filterMap (λk=>es[k]?)=(L.map (·.2)).map g:=Lj λk l=>hg k (List.mem_range.mp (s.mem_iff.mp l));have eL:((L.map (·.2)).toArray.filterMap (λk=>es[k]?)).toList=L.map λp=>g p.2:=by
  rw[Array.toList_filterMap,D,Qr];rfl
 refine⟨{ mask:=mask,place:=(L.map (·.1)).toArray,dummies:=#[],finger:=t.finger,led:=t.led,moves:=t.movedTo mask,plain:=t.plain },(L.map (·.2)).toArray,?_,?_,?_,rfl,rfl,rfl⟩
 ·unfold SetTable.relaid SetTable.laid;rw[H,ea,e];rfl
 ·rw[Array.toList_filterMap,D];refine(s.map g).trans ?_;have:(List.range es.size).map g=es.toList:=by
   apply List.ext_getElem?;intro i;rw[Zp];by_cases h:i<es.size
   ·rw[KS h,qA,hg i h];rfl
   ·rw[Qb (by simp;omega),Qb (by simp;omega)];rfl
  rw[this]
 ·have sz:L.length=es.size:=by
   have:=s.length_eq;rw[zl,KB]at this;exact this
  refine { mask:=A,dum:=rfl,rise:=c5 (List.pairwise_map.mpr C),bd:=λj w=>?_,full:=?_,size:=?_,reach:=λi j x h1 h2=>?_ }
  ·have w:j∈L.map (·.1):=by simpa using w
   obtain⟨a,ha,rfl⟩:=List.mem_map.mp w;have q:=(f a.1 a.2).mp ha;have:a.1<d.size:=by
    by_cases h:a.1<d.size
    ·exact h
    ·rw[KG (by omega)]at q;cases q
   have:=o.size;show a.1<=mask;omega
  ·show(L.map (·.1)).toArray.size<=mask;simp only[zS,zl];omega
  ·rw[<-qi (xs:=Array.filterMap _ _),eL];simp
  ·have h1:(L.map (·.1)).toArray[i]?=Z j:=h1;rw[List.getElem?_toArray,Zp]at h1;rw[<-qA,eL,Zp]at h2;cases hi:L[i]? with
   |none=>rw[hi]at h1;cases h1
   |some p=>
    rw[hi]at h1 h2;cases h1;cases h2;have hp:(p.1,p.2)∈L:=QI hi;have q:=(f p.1 p.2).mp hp;have l:p.2<es.size:=List.mem_range.mp (s.mem_iff.mp (List.mem_map.mpr ⟨p,hp,rfl⟩));have I:(es.toList.map (·.1))[p.2]?=Z (g p.2).1:=by
     rw[Zp,qA,hg _ l];rfl
    obtain⟨F,q1,n,a,b,c⟩:=o.all _ _ I;have:F=p.1:=o.inj _ _ _ q1 q;subst this;refine⟨n,a,b,λm E=>?_⟩;obtain⟨k,q2⟩:=(MI o (Tf _ _)).mp (c m E);show _∈(L.map (·.1)).toArray;rw[List.mem_toArray];exact List.mem_map.mpr ⟨(_,k),(f _ _).mpr q2,rfl⟩
end S6
namespace S6
open P1 L2
abbrev cj(prog:A3)(w:A4)(ks:U AY):Int:=tupleKeyHash (bB prog w) ks
def TE(prog:A3)(w:A4)(h:A6)(z:U AY×A1)(e:Int×A0):Prop:=e=(cj prog w z.1,.ref z.2)/\IsTupleKey (bB prog w) h z.1 z.2
structure Fn (prog:Program) (w:World) (h:Heap) (zs:List (List AY×Addr)) (es:Array (Int×Value)) (t:SetTable):Prop where
 rel:Paired (TE prog w h) zs es.toList
 nd:(zs.map (·.1)).Nodup
 tok:Tok t es
 load:es.size*5<t.mask*3
 led:w.params.followText "set-order"=false->t.led=true
 non:0<es.size->t.plain=false
def Tu(prog:A3)(w:A4)(h:A6)(a:A1)(zs:U (U AY×A1)):Prop:=∃o es ep t,h.get? a=Z o/\o.ExactSet/\o.data=.set es ep t/\Fn prog w h zs es t
theorem Vv{h':A6}{b:A1}(x:IsTupleKey (bB prog w) h ks b)(k:∀o,h.get? b=Z o->o.cls=.type "tuple" → h'.get? b=Z o):IsTupleKey (bB prog w) h' ks b:=
 let ⟨o,AQ,n,e,c,r⟩:=x;⟨o,AQ,n,k o e c,c,r⟩
theorem Qc{h':A6}{l:U (Int×A0)}(k:∀b o,h.get? b=Z o->o.cls=.type "tuple" → h'.get? b=Z o)(r:AI (TE prog w h) zs l):AI (TE prog w h') zs l:=by
 induction r with
 |nil=>exact .nil
 |cons q _ a=>exact .cons ⟨q.1,Vv q.2 λo e c=>k _ o e c⟩ a
theorem Fn.size{es:Array (Int×A0)}(x:Fn prog w h zs es t):es.size=zs.length:=by rw[x.rel.length];simp
theorem Tok.fits{t:SetTable}{es:Array (Int×A0)}(h:Tok t es):t.fits es.size=true:=by
 unfold SetTable.fits SetTable.fill;have h1:=h.full;have h2:=h.size;rw[h.dum];simp[h2];omega
theorem Tok.odd{es:Array (Int×A0)}(h:Tok t es):t.gaveWay=false:=by
 unfold SetTable.gaveWay;rcases h.mask with e|e|e<;>rw[e]<;>rfl
theorem J3{d:Nat}{b:A1}{Q:Bool->A2->Prop}(f:IsTupleKey (bB prog w) s.heap ks b)(h:Q false s):A7 (A8 prog w) A (ofAClassStatement (d+1) (.ref b)) Q E s:=by
 have g:=f.typeIs;obtain⟨o,items,n,ho,_,j,hi⟩:=f;unfold ofAClassStatement;refine zd (Q1 g ?_);dsimp only;refine zd (zg ?_);simp only[kC,zr,ZN];refine zd (K2 ho j ?_);dsimp only;refine zd ?_;rw[<-Array.forIn_toList];refine wpAny_forIn_list _ (λAS r s'=>r.1=Y/\s'=s/\∀v∈AS,carriedByValue v=true) _ ?_ ?_ _ _ ⟨rfl,rfl,hi.byValue⟩
 ·rintro v AS r s' ⟨c,rfl,e⟩;have i:ofAClassStatement d v=pure false:=by
   have:=e v zi;cases v with
   |ref a=>simp[carriedByValue]at this
   |_=>unfold ofAClassStatement;rfl
  rw[i];refine zd (zg ?_);simp only[zr,ZN];exact zg ⟨rfl,rfl,λu l=>e u (zh _ l)⟩
 ·rintro⟨r1,r2⟩ s' ⟨c,rfl,_⟩;simp only at c;subst c;exact zg h
theorem UQ{b:A1}{Q:Bool->A2->Prop}(g:IsTupleKey (bB prog w) s.heap ks b)(vs:U A0)(l:∀v∈vs,∃c a,v=.ref c/\IsTupleKey (bB prog w) s.heap a c)(h:Q false s):A7 (A8 prog w) A (searchCouldBeSeen (.ref b) vs) Q E s:=by
 unfold searchCouldBeSeen;refine zd ?_;refine wpAny_forIn_list _ (λAS r s'=>r.1=Y/\s'=s/\∀v∈AS,∃c a,v=.ref c/\IsTupleKey (bB prog w) s.heap a c) _ ?_ ?_ _ _ ⟨rfl,rfl,l⟩
 ·rintro v AS r s' ⟨d,rfl,e⟩;obtain⟨c,a,rfl,f⟩:=e v zi;have i:∀v∈AS,∃c a,v=.ref c/\IsTupleKey (bB prog w) s'.heap a c:=λu j=>e u (zh _ j);dsimp only;split
  ·exact zg ⟨rfl,rfl,i⟩
  ·refine zd (wpAny_eqIsQuiet_tuple g ?_);simp only[kC,zr,ZN];refine zd (wpAny_eqIsQuiet_tuple f ?_);simp only[kC,zr,ZN];refine zd (J3 g ?_);simp only[zr,ZN];refine zd (J3 f ?_);simp only[zr,ZN];exact zg ⟨rfl,rfl,i⟩
 ·rintro⟨r1,r2⟩ s' ⟨d,rfl,_⟩;simp only at d;subst d;exact zg h
theorem Mf{h:A6}:∀{zs:U (U AY×A1)} {l:U (Int×A0)},AI (TE prog w h) zs l->∀{i:Nat} {e},l[i]?=Z e->∃z,zs[i]?=Z z/\TE prog w h z e
 |_,_,.nil,i,e,q=>by simp at q
 |_,_,.cons r _,0,e,q=>by simp at q;subst q;exact⟨_,rfl,r⟩
 |_,_,.cons _ t,i+1,e,q=>by
  rw[ZZ]at q;obtain⟨z,z1,z2⟩:=Mf t q;exact⟨z,by rw[ZZ];exact z1,z2⟩
theorem zN{h:A6}:∀{zs:U (U AY×A1)} {l:U (Int×A0)},AI (TE prog w h) zs l->∀{i:Nat} {z},zs[i]?=Z z->∃e,l[i]?=Z e/\TE prog w h z e
 |_,_,.nil,i,e,q=>by simp at q
 |_,_,.cons r _,0,e,q=>by simp at q;subst q;exact⟨_,rfl,r⟩
 |_,_,.cons _ t,i+1,e,q=>by
  rw[ZZ]at q;obtain⟨z,z1,z2⟩:=zN t q;exact⟨z,by rw[ZZ];exact z1,z2⟩
theorem D9(p:Nat->Prop):∀(k n:Nat),p (n+k)->∃d,d<=k/\p (n+d)/\∀m,n<=m->m<n+d->¬ p m
 |0,n,h=>⟨0,zk _,h,λm h1 h2=>absurd h2 (by omega)⟩
 |k+1,n,h=>by
  by_cases q:p n
  ·exact⟨0,QR _,q,λm h1 h2=>absurd h2 (by omega)⟩
  ·obtain⟨d,h1,h2,c⟩:=D9 p k (n+1) (by rw[show n+1+k=n+(k+1) by omega];exact h);refine⟨d+1,by omega,by rw[show n+(d+1)=n+1+d by omega];exact h2,λm a b=>?_⟩;by_cases e:m=n
   ·rw[e];exact q
   ·exact c m (by omega) (by omega)
theorem DV{o:AE}{es:Array (Int×A0)}{b:A1}(X:A.units<cLine)(ho:s.heap.get? a=Z o)(J:o.data=.set es ep t)(x:Fn prog w s.heap zs es t)(K:IsTupleKey (bB prog w) s.heap ks b){N:Nat}(hN:N<10*SetTable.turns t.mask)(g:(gU t.mask (cj prog w ks) N).j∉t.place)(hp:∀m,m<N->(gU t.mask (cj prog w ks) m).j∈t.place){Q:SetFound->A2->Prop}(h1:ks∈zs.map (·.1)->Q (.there Y) s)(h2:ks∉zs.map (·.1)->Q (.free (gU t.mask (cj prog w ks) N).j false) s):
  ∀(k n fuel:Nat) (I:O SetTable.Probe),n+k=N->k<fuel->I.getD (t.probeStart (cj prog w ks))=gU t.mask (cj prog w ks) n->(∀m,m<n->∀i:Nat,t.place[i]?=Z (gU t.mask (cj prog w ks) m).j->∀z:U AY×A1,zs[i]?=Z z->z.1≠ks) →
   A7 (A8 prog w) A (setSearchFrom a (.ref b) (cj prog w ks) true fuel I) Q E s:=by
 have get:∀{i:Nat} {e},es[i]?=Z e->∃z,zs[i]?=Z z/\TE prog w s.heap z e:=λ{i e} q=>Mf x.rel (by rw[qA];exact q);have M:=x.tok.fits;intro k
 induction k using Nat.strongRecOn with
 |ind k ih=>
  intro n fuel I hn a3 a0 hb;cases fuel with
  |zero=>omega
  |succ fuel=>
  unfold setSearchFrom;refine zd (Q4 ho J M ?_);dsimp only;rw[zC (by rw[x.tok.odd];decide)];refine zd (zg ?_);rw[a0];obtain⟨d,d1,d2,D⟩:=D9 (λm=>m=N\/∃i:Nat,t.place[i]?=Z (gU t.mask (cj prog w ks) m).j/\∃e:Int×A0,es[i]?=Z e/\e.1=cj prog w ks) k n (.inl hn);have live:∀m,m<N->∃i:Nat,t.place[i]?=Z (gU t.mask (cj prog w ks) m).j/\∃e,es[i]?=Z e:=λm B=>by
   obtain⟨i,hi,e⟩:=Array.getElem_of_mem (hp m B);have f:i<es.size:=by rw[<-x.tok.size];exact hi
   exact⟨i,by rw[qa hi,e],es[i],qa f⟩
  have pr:=PL x.tok.toTb (λi=>(es[i]?.map (·.1)).getD 0) (cj prog w ks) d (10*SetTable.turns t.mask) n (by omega) λm a1 a2=>by
   have q:=D m a1 a2;obtain⟨i,e1,e,e2⟩:=live m (by omega);refine⟨i,e1,λq'=>q (.inr ⟨i,e1,e,e2,?_⟩)⟩;simpa[e2]using q'
  have S:t.probe (λi=>(es[i]?.map (·.1)).getD 0) (cj prog w ks) (gU t.mask (cj prog w ks) n)=SetTable.probe.go t (λi=>(es[i]?.map (·.1)).getD 0) (cj prog w ks) (10*SetTable.turns t.mask) (gU t.mask (cj prog w ks) n):=rfl;by_cases F:n+d=N
  ·have p1:=pr.1 (by rw[F];exact g);rw[F]at p1;show A7 _ _ (match t.probe (λi=>(es[i]?.map (·.1)).getD 0) (cj prog w ks) (gU t.mask (cj prog w ks) n)with|some met=>_|_=>_) _ _ _;rw[S,p1];dsimp only;refine zg (h2 λB=>?_);obtain⟨z,W,G⟩:=List.mem_map.mp B;obtain⟨i,hi,e⟩:=Q3 W;obtain⟨l,e1,e2⟩:=zN x.rel (show zs[i]?=Z z by rw[Zl hi,e]);rw[qA]at e1;have f:i<t.place.size:=by rw[x.tok.size,x.size];exact hi
   obtain⟨h,b1,b2,L⟩:=x.tok.reach i _ l (qa f) e1;rw[e2.1,G]at b2 L;have lt:h<N:=by
    rcases Nat.lt_trichotomy h N with q|q|q
    ·exact q
    ·exfalso;rw[<-q]at g;rw[b2]at g;exact g (Array.getElem_mem f)
    ·exact absurd (L N q) g
   by_cases q:h<n
   ·exact hb h q i (by rw[b2];exact qa f) z (by rw[Zl hi,e]) G
   ·exact D h (by omega) (by omega) (.inr ⟨i,by rw[b2];exact qa f,l,e1,by rw[e2.1,G]⟩)
  ·rcases d2 with q|⟨i,i1,e,i2,i3⟩
   ·exact absurd q F
   ·have p2:=pr.2 i i1 (by simpa[i2]using i3);show A7 _ _ (match t.probe (λi=>(es[i]?.map (·.1)).getD 0) (cj prog w ks) (gU t.mask (cj prog w ks) n)with|some met=>_|_=>_) _ _ _;rw[S,p2];dsimp only;obtain⟨z,z1,z2⟩:=get i2;have C:∀v∈((es.filter (·.1==cj prog w ks)).toList.map (·.2)),∃c ls,v=.ref c/\IsTupleKey (bB prog w) s.heap ls c:=λv C=>by
     obtain⟨u,P,rfl⟩:=List.mem_map.mp C;rw[Array.toList_filter,List.mem_filter]at P;obtain⟨jj,hj,ej⟩:=Q3 P.1;obtain⟨y,y1,y2⟩:=Mf x.rel (show es.toList[jj]?=Z u by rw[Zl hj,ej]);exact⟨y.2,y.1,by rw[y2.1],y2.2⟩
    have go:A7 (A8 prog w) A (do
      let Z (_,y):=es[i]?|unsupported "internal:set-entry"
      let equal <-holding [y] (eqBool y (.ref b))
      let (es',_,t') <-setState a
      if(true&&equal)=true then return SetFound.there Y
      let Z same:=t'.sameMemory t.moves t.mask|unsupported "set.changed-during-lookup:is-the-new-block-at-the-old-address"
      let still <-match (if same then t'.slot (gU t.mask (cj prog w ks) (n+d)).j else .empty)with
       |.live i'=>match es'[i']? with
        |some (_,y')=>do pure (if <-isSame y' y then Z i' else Y)
        |none=>pure Y
       |_=>pure Y
      match still with
      |none=>rule "set.search.anew"; setSearchFrom a (.ref b) (cj prog w ks) true fuel Y
      |some i'=>if equal then return .there (Z i')else setSearchFrom a (.ref b) (cj prog w ks) true fuel (Z (gU t.mask (cj prog w ks) (n+d+1)))) Q E s:=by
     rw[i2,z2.1];dsimp only;refine zd (QU (wpAny_eqBool_tuple X z2.2 K ?_));refine zd (Q4 ho J M ?_);dsimp only;by_cases p:z.1=ks
     ·rw[ZA p];simp only[Bool.and_self,qS];exact zg (h1 (List.mem_map.mpr ⟨z,QI z1,p⟩))
     ·rw[ZH p];simp only[Bool.and_false,zr,ZN];have sm:t.sameMemory t.moves t.mask=Z true:=by unfold SetTable.sameMemory;simp
      rw[sm];dsimp only;simp only[qS];rw[BW x.tok.toTb i1];dsimp only;rw[i2,z2.1];dsimp only;refine zd (wpAny_isSame_ref_self (zd (zg ?_)));simp only[qS];refine ih (N-(n+d+1)) (by omega) (n+d+1) fuel _ (by omega) (by omega) Δ λm B i' H y y1=>?_;by_cases c1:m<n
      ·exact hb m c1 i' H y y1
      ·by_cases c2:m=n+d
       ·subst c2;have:i'=i:=by
         have s1:=Gh x.tok.rise H;have s2:=Gh x.tok.rise i1;omega
        subst this;rw[z1]at y1;cases y1;exact p
       ·have q:=D m (by omega) (by omega);intro e';obtain⟨l,e1,e2⟩:=zN x.rel y1;rw[qA]at e1;exact q (.inr ⟨i',H,l,e1,by rw[e2.1,e']⟩)
    split
    ·refine zd (UQ K _ C ?_);simp only[zr,ZN];exact go
    ·exact go
def ED(ks:U AY):Prop:=∃x:AJ,(Sum.inr x:AY)∈ks
theorem UV{b:A1}{Q:Bool->A2->Prop}(c:IsTupleKey (bB prog w) s.heap ks b)(hx:ED ks)(h:Q false s):A7 (A8 prog w) A (hashByValue 8 (.ref b)) Q E s:=by
 have d:=c.typeIs;obtain⟨o,items,n,ho,_,j,hi⟩:=c;unfold hashByValue;refine zd (wpAny_specialOf d F.slot_tuple_hash.lookup ?_);dsimp only;refine zd (K2 ho j ?_);show A7 _ _ (forIn items _ _ >>= _) _ _ s;refine zd ?_;rw[<-Array.forIn_toList];refine wpAny_forIn_list _ (λAS r s'=>r.1=Y/\s'=s/\∃left,ItemsAre (bB prog w) left AS/\ED left) _ ?_ ?_ _ _ ⟨rfl,rfl,ks,hi,hx⟩
 ·rintro v AS r s' ⟨f,rfl,left,a,x,hx⟩;cases a with
  |@cons k _ g _ h1 l=>
   rcases bM h1 with⟨i,t,rfl,rfl⟩|⟨y,t,rfl,rfl⟩
   ·have e:hashByValue 7 (.int i t)=pure true:=by unfold hashByValue;rfl
    rw[e];refine zd (zg ?_);simp only[kC,zr,ZN];refine zg ⟨rfl,rfl,g,l,x,?_⟩;rcases List.mem_cons.mp hx with q|q
    ·cases q
    ·exact q
   ·have e:hashByValue 7 (.str y t)=pure false:=by unfold hashByValue;rfl
    rw[e];refine zd (zg ?_);simp only[kR,qS];exact zg (zg h)
 ·rintro⟨r1,r2⟩ s' ⟨f,rfl,left,a,x,hx⟩;cases a;cases hx
theorem Xo{es:Array (Int×A0)}(h:Tok t es):Tok { t with plain:=false } es:={ mask:=h.mask,dum:=h.dum,rise:=h.rise,bd:=h.bd,full:=h.full,size:=h.size,reach:=h.reach }
theorem a9{b:A1}{Q:Bool->A2->Prop}(hu:A.units<cLine)(hS:Tu prog w s.heap a zs)(J:IsTupleKey (bB prog w) s.heap ks b)(hx:ED ks)(c8:zs.length+1<=70)(h:∀r h' L,Heap.SameBut a s.heap h'->Tu prog w h' a L->(∀z,z∈L↔z∈zs\/(z=(ks,b)/\ks∉zs.map (·.1)))->L.length<=zs.length+1->Q r { s with heap:=h' }):A7 (A8 prog w) A (setAddHashed a (.ref b) (cj prog w ks)) Q E s:=by
 obtain⟨o,es,ep,t,ho,W,B,x⟩:=id hS;have d0:=x.size;have a3:=x.tok.fits;have a1:=x.load;have c6:o.cls≠.type "tuple":=by rw[W.1];decide
 obtain⟨N,l,n2,n3⟩:=Te x.tok.toTb (cj prog w ks);have d1:10*SetTable.turns t.mask<100000:=by
  unfold SetTable.turns;rcases x.tok.mask with e|e|e<;>rw[e]<;>decide
 unfold setAddHashed setAddHashedIn;refine QU (zd (Q4 ho B a3 ?_));dsimp only;have hb:byScan (.ref b) es=false:=by unfold byScan;rfl
 rw[hb];simp only[zr,ZN];unfold setSearch;refine zd (DV hu ho B x J l n2 n3 (λn=>?_) (λn=>?_) N 0 100000 Y (by omega) (by omega) Δ λm n=>absurd n (ku _))
 ·dsimp only;exact zg (h _ s.heap zs (Heap.SameBut.refl a s.heap) hS (λz=>⟨.inl,λq=>q.elim id λq=>absurd n q.2⟩) (kP _))
 ·dsimp only;refine zd (Q4 ho B a3 ?_);dsimp only;have hj:=Tf (mask:=t.mask) (cj prog w ks) N;have c0:es.size+1<=t.mask:=by rcases x.tok.mask with e|e|e<;>rw[e]at a1 ⊢<;>omega
  obtain⟨pt,pl,pp,K⟩:=Sj (x:=.ref b) x.tok l n2 n3 hj c0;generalize hP:t.put (gU t.mask (cj prog w ks) N).j=P at pt pl pp K ⊢;obtain⟨t1,p⟩:=P;dsimp only at pt pl pp K ⊢;have c4:(SetTable.insertAt es p (cj prog w ks,.ref b)).toList.Perm (es.toList++[(cj prog w ks,.ref b)]):=by
   rw[zM];refine(List.perm_middle).trans ?_;rw[List.take_append_drop];exact(List.perm_append_singleton _ _).symm
  have r0:AI (TE prog w s.heap) (zs++[(ks,b)]) (es.toList++[(cj prog w ks,.ref b)]):=S8 x.rel (.cons ⟨rfl,J⟩ .nil);obtain⟨D,q1,r1⟩:=Cz c4 r0;have a2:(D.map (·.1)).Nodup:=(q1.map (·.1)).nodup_iff.mpr (by
   rw[qq];exact List.nodup_append.mpr ⟨x.nd,by simp,λu c3 v hv=>by simp at hv;subst hv;exact λe=>n (e▸c3)⟩)
  have m1:∀z,z∈D↔z∈zs\/(z=(ks,b)/\ks∉zs.map (·.1)):=λz=>by
   rw[q1.mem_iff,KP,List.mem_singleton];exact⟨λq=>q.imp id λe=>⟨e,n⟩,λq=>q.imp id λe=>e.1⟩
  have l1:D.length=zs.length+1:=by rw[q1.length_eq];simp
  have y:(SetTable.insertAt es p (cj prog w ks,Value.ref b)).size=es.size+1:=vP _ _ _;have up:∀(hp:A6) (F:AE) (e1 e2:Array (Int×A0)) (l:Nat) (u1 f:SetTable),hp.get? a=Z F->F.data=.set e1 l u1->(hp.update a (Obj.putSet e2 f)).get? a=Z { F with data:=.set e2 (l+1) f }:=λhp F e1 e2 l u1 f g q=>by
   have:=kK (Obj.putSet e2 f) g (by rw[putSet_of e2 f q];rfl);rw[putSet_of e2 f q]at this;exact this
  have kp:∀{h':A6},Heap.SameBut a s.heap h'->∀c H,s.heap.get? c=Z H->H.cls=.type "tuple" → h'.get? c=Z H:=λsb c H e ec=>by
   rw[sb.2 c λq=>by subst q;rw[ho]at e;cases e;exact c6 ec];exact e
  have a6:∀t2:SetTable,Tok t2 (SetTable.insertAt es p (cj prog w ks,.ref b))->t2.led=t1.led->t2.plain=false->t2.mask=t1.mask->A7 (A8 prog w) A (do
    storeSet a (SetTable.insertAt es p (cj prog w ks,.ref b)) t2
    if(!false&&t2.tooFull)=true then setRelay a (SetTable.grown (es.size+1))
    pure true) Q E s:=by
   intro t2 I l2 p2 m2;have g1:=up s.heap o es (SetTable.insertAt es p (cj prog w ks,.ref b)) ep t t2 ho B;refine zd (wpAny_storeSet_of ho B ?_ (fits_of_scanBound (by rw[y];have:scanBound=4096:=rfl;omega)));have M:Heap.SameBut a s.heap (s.heap.update a (Obj.putSet (SetTable.insertAt es p (cj prog w ks,.ref b)) t2)):=KW ..;have b0:t2.fill=es.size+1:=by unfold SetTable.fill;rw[I.dum,I.size,y];rfl
   have a0:w.params.followText "set-order"=false->t2.led=true:=λq=>l2.trans (pl.trans (x.led q));by_cases d:t2.tooFull=true
   ·rw[d];simp only[kR,Bool.and_self,qS];have hf:t2.fill*5>=t2.mask*3:=by unfold SetTable.tooFull at d;simpa using d
    rw[b0,m2,K]at hf;have hg:SetTable.grown (es.size+1)=(es.size+1)*4:=by unfold SetTable.grown;rw[zC (by omega)]
    have a5:(es.size=4/\t.mask=7)\/(es.size=18/\t.mask=31):=by
     rcases x.tok.mask with e|e|e<;>rw[e]at hf a1
     ·exact .inl ⟨by omega,e⟩
     ·exact .inr ⟨by omega,e⟩
     ·omega
    have G:(es.size=4->SetTable.sizeAbove (SetTable.grown (es.size+1))=32)/\(es.size=18->SetTable.sizeAbove (SetTable.grown (es.size+1))=128):=by
     rw[hg];exact⟨λe=>by rw[e];decide,λe=>by rw[e];decide⟩
    have X:SetTable.sizeAbove (SetTable.grown (es.size+1))-1=31/\es.size=4\/SetTable.sizeAbove (SetTable.grown (es.size+1))-1=127/\es.size=18:=by
     rcases a5 with⟨e,_⟩|⟨e,_⟩
     ·exact .inl ⟨by rw[G.1 e],e⟩
     ·exact .inr ⟨by rw[G.2 e],e⟩
    obtain⟨t3,C,e3,a7,k3,l3,p3,m3⟩:=Xn (t:=t2) (es:=SetTable.insertAt es p (cj prog w ks,.ref b)) (wanted:=SetTable.grown (es.size+1)) (by rcases X with⟨e,_⟩|⟨e,_⟩<;>rw[e]<;>simp) (by rw[y];rcases X with⟨e,e'⟩|⟨e,e'⟩<;>rw[e,e']<;>decide);unfold setRelay;refine zd (zd (Q4 g1 Δ I.fits ?_));dsimp only;have b3:¬ (SetTable.sizeAbove (SetTable.grown (es.size+1))>AA):=by
     rcases a5 with⟨e,_⟩|⟨e,_⟩
     ·rw[G.1 e];decide
     ·rw[G.2 e];decide
    rw[zC b3];have S:(C.filterMap (λi=>(SetTable.insertAt es p (cj prog w ks,Value.ref b))[i]?)).size=(SetTable.insertAt es p (cj prog w ks,Value.ref b)).size:=by
     rw[<-qi,a7.length_eq,qi]
    rw[e3];refine zd ?_;show A7 _ _ (if((C.filterMap (λi=>(SetTable.insertAt es p (cj prog w ks,Value.ref b))[i]?)).size !=(SetTable.insertAt es p (cj prog w ks,Value.ref b)).size)=true then _ else pure (C.filterMap (λi=>(SetTable.insertAt es p (cj prog w ks,Value.ref b))[i]?),t3)) _ _ _;rw[zC (by rw[S];simp)];refine zg ?_;dsimp only;refine wpAny_storeSet_of g1 Δ ?_ (fits_of_scanBound (by rw[S,y];have:scanBound=4096:=rfl;omega));have g2:=up _ _ (SetTable.insertAt es p (cj prog w ks,.ref b)) (C.filterMap (λi=>(SetTable.insertAt es p (cj prog w ks,Value.ref b))[i]?)) _ t2 t3 g1 rfl;have a4:Heap.SameBut a s.heap ((s.heap.update a (Obj.putSet (SetTable.insertAt es p (cj prog w ks,.ref b)) t2)).update a (Obj.putSet (C.filterMap (λi=>(SetTable.insertAt es p (cj prog w ks,Value.ref b))[i]?)) t3)):=M.trans (KW ..);obtain⟨b9,q2,r2⟩:=Cz a7 r1;refine zg (h _ _ b9 a4 ⟨_,_,_,t3,g2,W,rfl,⟨Qc (kp a4) r2,(q2.map (·.1)).nodup_iff.mpr a2,k3,?_,λq=>l3.trans (a0 q),λ_=>p3.trans p2⟩⟩ (λz=>by rw[q2.mem_iff];exact m1 z) (by rw[q2.length_eq];omega));rw[S,y,m3];rcases X with⟨e,e'⟩|⟨e,e'⟩<;>rw[e,e']<;>decide
   ·have d:t2.tooFull=false:=by simpa using d
    rw[d];simp only[Bool.and_false,zr,ZN];refine zd (zg ?_);refine zg (h _ _ D M ⟨_,_,_,t2,g1,W,rfl,⟨Qc (kp M) r1,a2,I,?_,a0,λ_=>p2⟩⟩ m1 (by omega));unfold SetTable.tooFull at d;rw[b0]at d;rw[y];simpa using d
  split
  ·refine zd (UV J hx ?_);simp only[zr,ZN];exact a6 { t1 with plain:=false } (Xo pt) Δ Δ rfl
  ·rename_i hp;refine zd (zg ?_);simp only[qS];exact a6 t1 pt Δ (by simpa using hp) rfl
end S6
namespace S1
open L2
theorem Ti{x:A0}(G:U A0->Prop)(kd:SortKind)(rk:U A0->A0->Nat){Q:B8}(y:∀(g:B8) (i:U A0->A2->Prop),(∀vs h' d tk,G vs->s.heap.objs.size<=h'.objs.size->(∀c o,s.heap.get? c=Z o->h'.get? c=Z o)->i vs { s with heap:=h',drawn:=d,toks:=tk })->A7 (A8 prog w) A.in1 (collect x) i g s)
  (u:∀vs,G vs->2<=vs.length->∀(g:B8) (f:A5) (s':A2),(∀c o,s.heap.get? c=Z o->s'.heap.get? c=Z o)->∀Q:SortKind->A2->Prop,Q kd s'->A7 (A8 prog w) f (keyKind' vs.toArray) Q g s') (p:∀vs,G vs->∀(f:A5) (s':A2),(∀c o,s.heap.get? c=Z o->s'.heap.get? c=Z o)->Yq prog w f s' kd (rk vs) (pairsOf vs)) (j:∀vs,G vs->vs.length<64)
  (h:∀vs,G vs->∀(l:A1) (h':A6) (d:Drawn) (tk n:Nat) (st:SortSt),(AM st).Perm (pairsOf vs)->Up (rk vs) (AM st) (pairsOf vs).size->s.heap.objs.size<=l->(∀c o,s.heap.get? c=Z o->h'.get? c=Z o)->h'.get? l=Z (seqObj "list" ((AM st).map (·.2)) n)->Q (.ref l) { s with heap:=h',drawn:=d,toks:=tk }):
  A7 (A8 prog w) A (call (.builtin "sorted") [x]) Q E s:=by
 refine Calls.call_function_entry kind_sorted plain_sorted entry_sorted (args_sorted1 _) ?_;unfold Builtin.«sorted»;refine zd (m:=checkCount "sorted" 1 1 _) (zg (zd (y _ _ λvs h1 d tk a t ext=>?_)));have z:=j vs a;refine zd (wpAny_newList ?_);have b:(h1.push (seqObj "list" vs.toArray 0)).get? h1.objs.size=Z (seqObj "list" vs.toArray 0):=zv _ rfl;have old:∀s':A2,EL h1.objs.size { s with heap:=h1.push (seqObj "list" vs.toArray 0),drawn:=d,toks:=tk } s'->∀c o,s.heap.get? c=Z o->s'.heap.get? c=Z o:=λs' q c o e=>
  q c o (z4 (zD (ext c o e))) (ze _ (ext c o e))
 refine zd (QU (Q2 slot_list_sort ⟨_,b,rfl⟩ entry_list_sort (Mn b (λq s' o=>u vs a q _ _ s' (old s' o)) (λs' o=>p vs a _ s' (old s' o)) (j vs a) λst q1 q2=>⟨_,rfl,zg ⟨_,rfl,?_⟩⟩) (args_list_sort _)));obtain⟨n,v⟩:=sortedHeap_at (out:=(AM st).map (·.2)) b;refine h vs a h1.objs.size _ d tk n st q1 q2 t (λc o e=>?_) v;have hb:=zD (ext c o e);rw[sortedHeap_old (z4 hb) (by rw[qr];exact QA hb)];exact ze _ (ext c o e)
end S1
namespace P1
open L2 S6
section
theorem Xp{d:Drawn}(I:AU X AN σ H s):AU X AN σ H { s with drawn:=d }:=⟨I.ok,I.os,I.bare,I.base,I.loc,I.cell,I.free,I.qL,I.pin,I.hok,I.len⟩
variable{fs:Ev->O An}{p:Pos}
end
section
variable{xs:An}
end
section
variable{xs:An}
variable{fs:Ev->O An}{p':Pos}
end
end P1
namespace P1
open L2 S1 S6
def Ts(prog:A3)(w:A4)(h:A6)(a:A1)(zs:U (U AY×A1)):Prop:=∃o es ep t,h.get? a=Z o/\o.ExactSet/\o.data=.set es ep t/\es.toList=zs.map (λz=>(cj prog w z.1,(.ref z.2:A0)))/\t.fits es.size=true/\(w.params.followText "set-order"=false->t.led=true)/\(0<es.size->t.plain=false)
theorem Qd{prog:A3}{w:A4}{h:A6}:∀{zs:U (U AY×A1)} {l:U (Int×A0)},AI (TE prog w h) zs l->l=zs.map (λz=>(cj prog w z.1,(.ref z.2:A0)))
 |_,_,.nil=>rfl
 |_,_,.cons r t=>by rw[zw,<-Qd t,r.1]
theorem Ts.of(x:Tu prog w h a zs):Ts prog w h a zs:=
 let ⟨o,es,ep,t,e,r,d,q⟩:=x;⟨o,es,ep,t,e,r,d,Qd q.rel,q.tok.fits,q.led,q.non⟩
theorem Ts.keep{h':A6}(x:Ts prog w h a zs)(k:∀o,h.get? a=Z o->h'.get? a=Z o):Ts prog w h' a zs:=
 let ⟨o,es,ep,t,e,r⟩:=x;⟨o,es,ep,t,k o e,r⟩
def EZ(X:Cx)(a:A1)(zs:U (U AY×A1)):HO:=.ext λh=>Ts X.prog X.w h a zs
theorem PH(X:Cx)(h:Ks ks us):ItemsAre (bB X.prog X.w) ks us:=by
 induction h with
 |nil=>exact .nil
 |cons r _ a=>exact .cons r a
theorem SD(X:Cx)(h:ItemsAre (bB X.prog X.w) ks us):Ks ks us:=by
 induction h with
 |nil=>exact .nil
 |cons r _ a=>exact .cons r a
theorem Qe(X:Cx){v:A0}(q:j4 h ks v):∃b,v=.ref b/\IsTupleKey (bB X.prog X.w) h ks b:=by
 obtain⟨a,o,AQ,n,e,g,c,d,p⟩:=q;exact⟨a,e,o,AQ.toArray,n,g,c,d,by simpa using PH X p⟩
theorem NU(X:Cx){b:A1}(q:IsTupleKey (bB X.prog X.w) h ks b):j4 h ks (.ref b):=by
 obtain⟨o,AQ,n,g,c,d,p⟩:=q;exact⟨b,o,AQ.toList,n,rfl,g,c,by simpa using d,SD X p⟩
def WS(X:Cx):U V->Hp->VK->Prop:=λxs H Q=>∃v b ds cQ,xs=[v]/\bh X.K H b v/\vJ b=Z ds/\yj ds=Z cQ/\cQ.length<=64/\(∀k∈cQ,ED k) ∧
 ∀a zs H',AV H H'->H' a=Z (EZ X a zs)->(∀k,k∈zs.map (·.1)↔k∈cQ)->(zs.map (·.1)).Nodup->(∀z∈zs,AW X.K H' (BG z.1) (.ref z.2))->Q (.ref a) H'
def CU(X:Cx)(S:A1)(AQ:U A0)(h:A6)(ys:U (U AY)):Prop:=∃zs,zs.map (·.1)=ys/\Tu X.prog X.w h S zs/\∀z∈zs,(.ref z.2:A0)∈AQ
theorem zP{h:A6}:∀{cQ:U (U AY)} {vs:U A0},AI (j4 h) cQ vs->∀{i:Nat} {v:A0},vs[i]?=Z v->∃k,cQ[i]?=Z k/\j4 h k v
 |_,_,.nil,i,v,q=>by simp at q
 |_,_,.cons r _,0,v,q=>by simp at q;subst q;exact⟨_,rfl,r⟩
 |_,_,.cons _ t,i+1,v,q=>by
  rw[ZZ]at q;obtain⟨z,z1,z2⟩:=zP t q;exact⟨z,by rw[ZZ];exact z1,z2⟩
theorem Qf{h0:A6}{S:A1}(hs:AI (j4 h0) cQ AQ)(W:cQ.length<=64)(hx:∀k∈cQ,ED k)(x:h0.objs.size=S):DU X.prog X.w S [S+1] (λh zs=>(∀b o,h0.get? b=Z o->h.get? b=Z o)/\CU X S AQ h zs) (λi v=>AQ.toArray[i]?=Z v) (λi=>cQ.getD i []) AQ.length where
 keep:=λh h' ys t k=>by
  obtain⟨p,zs,e,t,m⟩:=t;have B:∀b o,(b=S\/b<S)->h.get? b=Z o->h'.get? b=Z o:=λb o hb e=>k b o (by
   simp only[jI,JS,or_false];rcases hb with rfl|hb
   ·exact z4 (qc _)
   ·exact z4 (QA hb)) e
  have old:∀b o,h0.get? b=Z o->h'.get? b=Z o:=λb o e=>B b o (.inr (by rw[<-x];exact zD e)) (p b o e);refine⟨old,zs,e,?_,m⟩;obtain⟨o,es,ep,J,g,r,d,q⟩:=t;refine⟨o,es,ep,J,B S o (.inl Δ) g,r,d,⟨?_,q.nd,q.tok,q.load,q.led,q.non⟩⟩;have H:∀{zs:U (U AY×A1)} {l:U (Int×A0)},AI (TE X.prog X.w h) zs l->(∀z∈zs,(.ref z.2:A0)∈AQ)->AI (TE X.prog X.w h') zs l:=by
   intro zs l r
   induction r with
   |nil=>intro _;exact .nil
   |cons q _ K=>
    intro m;refine .cons ⟨q.1,Vv q.2 λo e c=>?_⟩ (K λz j=>m z (zh _ j));obtain⟨i,hi,N⟩:=Q3 (m _ (zi ..));obtain⟨kk,_,tv⟩:=zP hs (show AQ[i]?=Z _ by rw[Zl hi,N]);obtain⟨b,eb,⟨ob,_,_,gb,_⟩⟩:=Qe X tv;cases eb;exact B _ o (.inr (by rw[<-x];exact zD gb)) e
  exact H q.rel m
 add:=λA E s i v ys Q C hi n L j h=>by
  obtain⟨p,zs,e,t,m⟩:=L;have n:AQ[i]?=Z v:=by simpa using n
  obtain⟨ks,e1,tv⟩:=zP hs n;have P:=tv.keep p;obtain⟨b,rfl,D⟩:=Qe X P;have G:cQ.getD i []=ks:=by simp[List.getD,e1]
  have a1:AQ.length=cQ.length:=hs.length.symm;have a0:zs.length=ys.length:=by rw[<-e,zl]
  unfold setAdd;refine QU (zd (wpAny_pyHash_tuple C D ?_));refine a9 (s:={ s with toks:=s.toks+(ks.length+1) }) C t D (hx ks (QI e1)) (by omega) λr h' F sb M f l=>?_;refine h r h' _ (F.map (·.1)) sb ⟨λc o g=>?_,F,rfl,M,λz j=>?_⟩ (λz=>?_) (by rw[zl];omega) (Nat.le_add_right _ _)
  ·rw[sb.2 c λq=>by subst q;have:=zD g;rw[x]at this;exact JO _ this];exact p c o g
  ·rcases(f z).mp j with q|⟨q,_⟩
   ·exact m z q
   ·subst q;exact QI n
  ·rw[G,<-e,List.mem_map,List.mem_map];constructor
   ·rintro⟨y,a,rfl⟩;rcases(f y).mp a with q|⟨q,_⟩
    ·exact .inl ⟨y,q,rfl⟩
    ·exact .inr (congrArg Prod.fst q)
   ·rintro(⟨y,a,u⟩|I)
    ·exact⟨y,(f y).mpr (.inl a),u⟩
    ·rw[I];by_cases q:ks∈zs.map (·.1)
     ·obtain⟨y,a,u⟩:=List.mem_map.mp q;exact⟨y,(f y).mpr (.inl a),u⟩
     ·exact⟨(ks,b),(f _).mpr (.inr ⟨rfl,q⟩),rfl⟩
theorem RO(hc:X.calm=true)(S:X.A.units+100<cLine):gB X (.type "set") (WS X):=by
 intro AN s σ H xs us Q I r h;obtain⟨v,b,ds,cQ,rfl,rb,ed,ek,N,hx,q⟩:=h;obtain⟨u,rfl,ru⟩:=BD r;obtain⟨p,vs,rfl,sq,C⟩:=Lz rb ed;have a6:=BL ek;subst a6;cases ru;have hh:=I.ok.hd hc;have a2:∀(h':A6) (tk:Nat) (ys:U (U AY)) (AQ:U A0),AX vs AQ->((∀b o,s.heap.get? b=Z o->h'.get? b=Z o)/\CU X s.heap.objs.size AQ h' ys)->(∀z,z∈ys↔∃j,j<AQ.length/\z=cQ.getD j [])->(∀b F,s.heap.get? b=Z F->h'.get? b=Z F)->EP X AN σ Q (.ref s.heap.objs.size) { s with heap:=h',toks:=tk }:=by
  intro h' tk ys AQ L cu D k;obtain⟨_,zs,e,t,m⟩:=cu;have a3:=I.hok.fresh (zk s.heap.objs.size);have a4:AQ.length=cQ.length:=by rw[<-L.length,C.length,zl]
  have tv:=qO I C L;refine⟨.ref s.heap.objs.size,_,I.laid (t':=tk) (a:=s.heap.objs.size) (o:=EZ X s.heap.objs.size zs) k (zk _) ?_,rfl,q _ zs _ (bV a3) bJ (λz=>?_) ?_ λz l=>?_⟩
  ·obtain⟨o,es,ep,t',ho,_⟩:=id t;exact⟨Ts.of t,⟨o,ho⟩,λh1 h2 t1 k1=>Ts.keep t1 k1⟩
  ·rw[e,D z];constructor
   ·rintro⟨j,f,rfl⟩;rw[a4]at f;simp[List.getD,f]
   ·intro l;obtain⟨j,f,e⟩:=Q3 l;exact⟨j,by rw[a4];exact f,by simp[List.getD,f,e]⟩
  ·obtain⟨o,es,ep,t',ho,_,_,x⟩:=t;exact x.nd
  ·obtain⟨o,es,ep,t',ho,_,_,x⟩:=t;obtain⟨i,hi,ei⟩:=Q3 l;obtain⟨ee,_,te⟩:=zN x.rel (show zs[i]?=Z z by rw[Zl hi,ei]);have tz:=NU X te.2;have a1:=m z l;obtain⟨j,f,ej⟩:=Q3 a1;obtain⟨kk,_,a5⟩:=zP tv (show AQ[j]?=Z (.ref z.2) by rw[Zl f,ej]);have ek:kk=z.1:=(a5.keep k).inj tz;obtain⟨w1,r1,r2⟩:=BP I C L (Yr:=[kk]) (out:=[.ref z.2]) (.cons a5 .nil) (λu S=>by cases List.mem_singleton.mp S;exact a1);cases r1 with
   |@cons w0 _ _ _ r0 r1=>
    cases r1;simp only[zw,kb,aK]at r2;obtain⟨v0,B,ev,M,_⟩:=r2;simp only[kA]at ev;rw[<-ev.1]at M;have hw:w0=V.ref z.2:=by
     have q1:=M;simp only[BG,AW]at q1;obtain⟨a0,ws,e0,_⟩:=q1;subst e0;cases r0;rfl
    rw[<-ek,<-hw];exact M.kp (.of (bV a3))
 have W:∀h':A6,h'.get? s.heap.objs.size=Z (BU X.w)->∀AQ:U A0,CU X s.heap.objs.size AQ h' []:=λh' e AQ=>
  ⟨[],rfl,⟨_,#[],0,_,e,⟨rfl,rfl,rfl⟩,rfl,⟨.nil,kQ,{ mask:=.inl rfl,dum:=rfl,rise:=λi j _ f=>absurd f (ku _),bd:=λj f=>by simp[SetTable.fresh]at f,full:=QR _,size:=rfl,reach:=λi j e h1=>by simp[SetTable.fresh]at h1 },(show 0*5<7*3 by decide),λq=>by simp[SetTable.fresh,q],λq=>absurd q (JO _)⟩⟩,λz l=>by cases l⟩
 rcases sq with sq|sq
 ·obtain⟨AQ,B,pl,l⟩:=I.list sq;obtain⟨o,g,c,n,d⟩:=pl.isList;refine Z4 (by omega) (T :="list") hh g c (.inl Δ) (P:=λi v=>AQ.toArray[i]?=Z v) (n:=AQ.length) (λK E' Q' h0 E y G=>?_) (Qf (qO I C B) N hx Δ) (λh' e k=>⟨k,W h' e AQ⟩) λh' tk zs tx D k=>a2 h' tk zs AQ B tx D k;refine wpAny_pyIter_list (items:=AQ.toArray) ⟨o,y _ _ g,c,n,d⟩ ?_;have J:p≠h0.objs.size:=z4 (zD (y _ _ g));refine G _ (λi h=>h.IsListIter h0.objs.size p i/\h.IsList p AQ.toArray) (λK E=>by have:=Walks.list (prog:=X.prog) (w:=X.w) E h0.objs.size p J AQ.toArray;rw[zS]at this;exact this) ⟨⟨_,zv _ rfl,rfl,rfl⟩,⟨o,ze _ (y _ _ g),c,n,d⟩⟩ λb F e=>ze _ e
 ·obtain⟨AQ,B,pl,l⟩:=I.tuple sq;obtain⟨o,g,c,n,d⟩:=id pl;refine Z4 (by omega) (T :="tuple") hh g c (.inr Δ) (P:=λi v=>AQ.toArray[i]?=Z v) (n:=AQ.length) (λK E' Q' h0 E y G=>?_) (Qf (qO I C B) N hx Δ) (λh' e k=>⟨k,W h' e AQ⟩) λh' tk zs tx D k=>a2 h' tk zs AQ B tx D k;refine ko (items:=AQ.toArray) ⟨o,y _ _ g,c,n,d⟩ ?_;have J:p≠h0.objs.size:=z4 (zD (y _ _ g));refine G _ (λi h=>h.IsTupleIter h0.objs.size p i/\h.IsTuple p AQ.toArray) (λK E=>by have:=Walks.tuple (prog:=X.prog) (w:=X.w) E h0.objs.size p J AQ.toArray;rw[zS]at this;exact this) ⟨⟨_,zv _ rfl,rfl,rfl⟩,⟨o,ze _ (y _ _ g),c,n,d⟩⟩ λb F e=>ze _ e
theorem bX(I:AU X AN σ H s)(h:H a=Z (EZ X a zs)):Ts X.prog X.w s.heap a zs:=(I.hok _ _ h).1
def bj(X:Cx):U V->Hp->VK->Prop:=λxs H Q=>∃a zs,xs=[.ref a]/\H a=Z (EZ X a zs)/\Ik (zs.map (·.1))=true/\(∀z∈zs,AW X.K H (BG z.1) (.ref z.2))/\∀l H' us,AV H H'->H l=Y->H' l=Z (.lst us)->aK X.K H' ((mL (zs.map (·.1))).map BG) us->Q (.ref l) H'
theorem NN(hc:X.calm=true):gB X (.builtin "sorted") (bj X):=by
 intro AN s σ H xs us Q I r h;obtain⟨a,zs,rfl,ha,hs,B,q⟩:=h;obtain⟨u,rfl,ru⟩:=BD r;cases ru;simp only[Ik,ZY,Z3,qB,JA]at hs;obtain⟨C,P,J⟩:=hs;rw[zl]at C;obtain⟨o,es,ep,t,ho,b3,hd,G,ft,a4,a1⟩:=bX I ha;have f:es.size=zs.length:=by rw[<-qi,G,zl]
 have wk:Wk X.w s.heap a es ep t:=⟨⟨o,ho,b3.1,hd⟩,ft,a4,λq=>a1 (by omega)⟩;have S:aK X.K H ((zs.map (·.1)).map BG) (zs.map λz=>(V.ref z.2))/\AX (zs.map λz=>(V.ref z.2)) (zs.map λz=>(.ref z.2:A0)):=by
  clear G ha q C P J f wk a1
  induction zs with
  |nil=>exact⟨aK.nil,.nil⟩
  |cons z zs x=>
   obtain⟨i1,i2⟩:=x λy hy=>B y (zh _ hy);exact⟨aK.cons (B z (zi ..)) i1,.cons Δ i2⟩
 have b0:=qO I S.1 S.2;have tz:∀z∈zs,j4 s.heap z.1 (.ref z.2):=λz i=>by
  have:=qO I (cQ:=[z.1]) (vs:=[V.ref z.2]) (AQ:=[.ref z.2]) (aK.cons (B z i) aK.nil) (.cons Δ .nil);cases this with
  |cons q' _=>exact q'
 refine Ti (λvs=>∃ys:U (U AY×A1),ys.Perm zs/\vs=ys.map λz=>(.ref z.2:A0)) (tuples' true) (λvs v=>CC (vs.map λu=>BC (zs.map (·.1)) (zs.map λz=>(.ref z.2:A0)) u) (BC (vs.map λu=>BC (zs.map (·.1)) (zs.map λz=>(.ref z.2:A0)) u) vs v))
  (λE' Q' F=>PK (by exact I.ok.hd hc) wk (by rw[f,sizeLine_eq];omega) λp h1 d tk hp a6 ext=>F p h1 d tk ?_ a6 ext) ?_ ?_ ?_ ?_
 ·rw[G,Qr]at hp;have:∀{p vs:U A0},p.Perm vs->∀zs:U (U AY×A1),vs=zs.map (λz=>(.ref z.2:A0))->∃ys:U (U AY×A1),ys.Perm zs/\p=ys.map λz=>(.ref z.2:A0):=by
   intro p vs hp
   induction hp with
   |nil=>intro zs e;cases zs with|nil=>exact⟨[],.refl _,rfl⟩|cons _ _=>cases e
   |cons y _ x=>
    intro zs e;cases zs with
    |nil=>cases e
    |cons z zs=>
     rw[zw]at e;injection e with e1 e2;obtain⟨ys,p1,p2⟩:=x zs e2;exact⟨z::ys,p1.cons _,by rw[zw,e1,p2]⟩
   |swap y1 y2 l=>
    intro zs e
    match zs,e with
    |z1::z2::zs,e=>
     simp only[zw,kA]at e;exact⟨z2::z1::zs,List.Perm.swap _ _ _,by simp only[zw];rw[e.1,e.2.1,e.2.2]⟩
    |[_],e=>simp at e
    |[],e=>cases e
   |trans _ _ a3 b9=>
    intro zs e;obtain⟨ys,p1,p2⟩:=b9 zs e;obtain⟨us,q1,q2⟩:=a3 ys p2;exact⟨us,q1.trans p1,q2⟩
  exact this hp zs rfl
 all_goals
  intro vs hG;obtain⟨ys,py,rfl⟩:=hG;have hm:∀v∈(ys.map λz=>(.ref z.2:A0)),v∈(zs.map λz=>(.ref z.2:A0)):=λv D=>((py.map _).mem_iff).mp D;have N:∀v∈(ys.map λz=>(.ref z.2:A0)),j4 s.heap (BC (zs.map (·.1)) (zs.map λz=>(.ref z.2:A0)) v) v:=λv D=>(mO b0 v (hm v D)).2;have tv:=yh N;have a0:(ys.map λz=>(.ref z.2:A0)).map (λu=>BC (zs.map (·.1)) (zs.map λz=>(.ref z.2:A0)) u)=ys.map (·.1):=by
   rw[Qr];refine QO λz f=>?_;have i:=py.mem_iff.mp f;exact(N (.ref z.2) (List.mem_map.mpr ⟨z,f,rfl⟩)).inj (tz z i)
  have mk:∀k∈(ys.map λz=>(.ref z.2:A0)).map (λu=>BC (zs.map (·.1)) (zs.map λz=>(.ref z.2:A0)) u),k∈zs.map (·.1):=λk b=>by
   rw[a0]at b;exact((py.map _).mem_iff).mp b
 ·intro h2 E' A' s' k Q' F;exact JV (Paired.imp' (λ_ _ z=>j4.keep z k) tv) (λk b=>by have:=P k (mk k b);cases k with|nil=>cases this|cons _ _=>exact List.cons_ne_nil _ _) (λk b l g=>Ga (J k (mk k b) l (mk l g))) (by omega) F
 ·intro A' s' k;exact Pq (Paired.imp' (λ_ _ z=>j4.keep z k) tv) λk b l g=>Ga (J k (mk k b) l (mk l g))
 ·rw[zl,py.length_eq];exact C
 ·intro l h' d tk n st hp up g ext hL;have j:=Pr tv hp up;have mem:∀u∈((AM st).map (·.2)).toList,u∈(ys.map λz=>(.ref z.2:A0)):=λu A=>by
   rw[Array.toList_map]at A;obtain⟨pr,a7,rfl⟩:=List.mem_map.mp A;have a5:pr∈(ys.map λz=>(.ref z.2:A0)).zip (ys.map λz=>(.ref z.2:A0)):=by rw[<-pairsOf_toList];exact(Array.perm_iff_toList_perm.mp hp).mem_iff.mp a7
   have:=mem_zip_self a5;rw[<-this.1];exact this.2
  have E:H l=Y:=I.hok.fresh g;have back:∀{L:U (U AY)} {j:U A0},AI (j4 s.heap) L j->(∀u∈j,u∈(ys.map λz=>(.ref z.2:A0)))->∃c,AX c j/\aK X.K H (L.map BG) c:=by
   intro L j pr
   induction pr with
   |nil=>intro _;exact⟨[],.nil,aK.nil⟩
   |cons q0 _ x=>
    intro W;obtain⟨c,M,m⟩:=x λu A=>W u (zh _ A);obtain⟨z,f,ez⟩:=List.mem_map.mp (W _ (zi ..));subst ez;have i:=py.mem_iff.mp f;have ek:=q0.inj (tz z i);refine⟨.ref z.2::c,.cons Δ M,?_⟩;rw[zw,ek];exact aK.cons (B z i) m
  obtain⟨c,M,m⟩:=back j mem;rw[a0]at m;have es:mL (ys.map (·.1))=mL (zs.map (·.1)):=wH ((n8 _).trans (py.map _)) (vN _);rw[es]at m;have a2:c.length=zs.length:=by rw[m.length,zl,(n8 _).length_eq,zl]
  refine⟨.ref l,_,Xp (d:=d) (I.laid (t':=tk) (a:=l) (o:=.lst c) ext g ⟨by rw[a2,sizeLine_eq];omega,_,n,M,?_⟩),rfl,q _ _ c (bV E) E bJ (m.kp (.of (bV E)))⟩;rw[hL]
def Ip{α:Type}[DecidableEq α]:U α->U α
 |[]=>[]
 |y::ys=>if y∈ys then Ip ys else y::Ip ys
section
variable [DecidableEq α]
theorem tH:∀{ys:U α} {z:α},z∈Ip ys↔z∈ys
 |[],z=>by simp[Ip]
 |y::ys,z=>by
  unfold Ip;split
  ·rename_i h;rw[tH,jI];exact⟨.inr,λq=>q.elim (λe=>e▸h) id⟩
  ·rw[jI,jI,tH]
theorem Mg:∀(ys:U α),(Ip ys).Nodup
 |[]=>kQ
 |y::ys=>by
  unfold Ip;split
  ·exact Mg ys
  ·rename_i h;exact List.nodup_cons.mpr ⟨λq=>h (tH.mp q),Mg ys⟩
theorem Mh:∀(ys:U α),(Ip ys).length<=ys.length
 |[]=>zk _
 |y::ys=>by
  have:=Mh ys;unfold Ip;split<;>simp<;>omega
theorem Mi{β:Type}[DecidableEq β]{f:α->β}(hi:∀a b,f a=f b->a=b):∀(ys:U α),Ip (ys.map f)=(Ip ys).map f
 |[]=>rfl
 |y::ys=>by
  have c:f y∈ys.map f↔y∈ys:=⟨λq=>by obtain⟨z,d,e⟩:=List.mem_map.mp q;rw[<-hi _ _ e];exact d,λq=>List.mem_map.mpr ⟨y,q,rfl⟩⟩;rw[zw];unfold Ip;by_cases q:y∈ys
  ·rw[zo q,zo (c.mpr q),Mi hi ys]
  ·rw[zC q,zC λh=>q (c.mp h),zw,Mi hi ys]
end
section
def Qg(ks:U AY):Bool:=ks.any λk=>k.isRight
theorem Pm(h:Qg ks=true):ED ks:=by
 unfold Qg at h;rw[JU]at h;obtain⟨k,a,e⟩:=h;cases k with
 |inl i=>cases e
 |inr x=>exact⟨x,a⟩
def tU(X:Cx)(f:Ev->O (U (U AY))):L2.TE:=λσ H Q=>∃H0 ρ cQ,bQ X.K H0 H σ ρ/\f ρ=Z cQ/\∀a zs H',AV H H'->H' a=Z (EZ X a zs)->(∀k,k∈zs.map (·.1)↔k∈cQ)->(zs.map (·.1)).Nodup->(∀z∈zs,AW X.K H' (BG z.1) (.ref z.2))->Q (.ref a) H'
def Pl(X:Cx)(e:Expr)(f:Ev->O (U (U AY))):Prop:=PE X e (tU X f)
structure MQ (X:Cx) (e:Expr) (f:Ev->Option (List (List AY))):Prop where
 run:Pl X e f
def IZ(b:Bx):O (U (U AY)):=(vJ b).bind λds=>(yj ds).bind λcQ=>if cQ.length<=64/\cQ.all Qg=true then Z cQ else Y
def Tj(f:Ev->O Bx):Ev->O (U (U AY)):=λρ=>(f ρ).bind IZ
def Gj(fs:Ev->O (U (U AY))):Ev->O Bx:=λρ=>(fs ρ).bind λcQ=>if Ik cQ=true then Z (.o ((mL (Ip cQ)).map BG))else Y
variable{fs:Ev->O (U (U AY))}{p:Pos}
theorem Vw(n:X.calm=true)(j:X.A.units+100<cLine)(hg:Gl X "set")(l:X.mg "set"=Y)(ha:QV X e f)(he:A9 (e::[]) X.env=(false,eval e X.env)::A9 [] X.env:=by rfl):MQ X (.Call (.Name "set" p) [e] [] pos) (Tj f):=by
 refine⟨Dk (Jv (T :="set") (RO n j) hg l Δ (jk ha.run tB he) (he:=he)) λσ H Q h=>?_⟩;obtain⟨H0,ρ,cQ,E,c,q⟩:=h;obtain⟨b,eb,c⟩:=AT c;obtain⟨ds,s,c⟩:=AT c;obtain⟨w,ek,c⟩:=AT c;split at c
 ·rename_i d;cases c;rw[qB]at d;exact⟨H0,ρ,b,E,eb,λv H1 t x r1=>⟨v,b,ds,cQ,rfl,r1,s,ek,d.1,λk o=>Pm (d.2 k o),λa zs H2 u e2 m g i=>q a zs H2 (t.trans u) e2 m g i⟩⟩
 ·cases c
theorem Sz{Yr:U (U AY)}(h:Ik cQ=true)(d:Yr.length<=cQ.length)(b:∀k∈Yr,k∈cQ):Ik Yr=true:=by
 simp only[Ik,ZY,Z3,qB,JA]at h ⊢;exact⟨by omega,λk a=>h.2.1 k (b k a),λk a l c=>h.2.2 k (b k a) l (b l c)⟩
theorem Vx(u:X.calm=true)(hg:Gl X "sorted")(t:X.mg "sorted"=Y)(ha:MQ X e fs)(he:A9 (e::[]) X.env=(false,eval e X.env)::A9 [] X.env:=by rfl):QV X (.Call (.Name "sorted" p) [e] [] pos) (Gj fs):=by
 refine⟨Dk (sy (id :="sorted") (NN u) hg t Δ (jk ha.run tB he) (he:=he)) λσ H Q h=>?_⟩;obtain⟨H0,ρ,b,E,c,q⟩:=h;obtain⟨cQ,i,c⟩:=AT c;split at c
 ·rename_i n;cases c;refine⟨H0,ρ,cQ,E,i,λa zs H1 g e1 m f j=>⟨a,zs,rfl,e1,?_,j,λl H2 us s w e2 d=>?_⟩⟩
  ·have e3:=(El f (Mg cQ) λz=>by rw[m z,tH]).length_eq;have:=Mh cQ;exact Sz n (by omega) λk v=>(m k).mp v
  ·have o:=El f (Mg cQ) λz=>by rw[m z,tH]
   have es:mL (zs.map (·.1))=mL (Ip cQ):=wH ((n8 _).trans o) (vN _);rw[es]at d;exact q _ H2 (g.trans s) (λa ea=>by cases ea;exact g.free w) ⟨l,us,rfl,e2,d⟩
 ·cases c
end
end P1
namespace P1
open L2
def Gk:Bx->Bx->O Bx
 |.z (.str k),.z d=>Z (.z (.tup [.str k,d]))
 |_,_=>Y
theorem Tn{a:Bx}{y:Dt}(h:Gk a b=Z (.z y)):∃k d,a=.z (.str k)/\b=.z d/\y=.tup [.str k,d]:=by
 unfold Gk at h;split at h
 ·cases h;exact⟨_,_,rfl,rfl,rfl⟩
 ·cases h
def Hm(AO:U (AY×Dt)):Dt->U (AY×Dt)
 |.tup [.str k,d]=>Lr AO (.inr k) d
 |_=>AO
def dictOf(out:U Dt):U (AY×Dt):=out.foldl Hm []
theorem Qh(out:U Dt)(k:AJ)(d:Dt):dictOf (out++[.tup [.str k,d]])=Lr (dictOf out) (.inr k) d:=by
 unfold dictOf;rw[yo];rfl
theorem Xq{AO:U (AY×V)}{k:AY}{r:A0}{Q:Unit->A2->Prop}(I:L2.AU X AN σ H s)(e:H a=Z (.dK AO))(l:AO.length<AA)(d:As (kV k) u)(m:As v r)(h:∀s',L2.AU X AN σ (B5 H a (.dK (BB AO k v))) s'->Q () s'):
  A7 (A8 X.prog X.w) A (dictSet a u r) Q E s:=by
 obtain⟨z,j,vs,b,i⟩:=YZ I.hok e;have f:vs.length<=AA:=by rw[<-b.length];exact z
 have g:(BB AO k v).length<=AA:=by have:=nZ AO k v;omega
 refine wpAny_dictSet_pairs (hsz:=f) (Fb d) i λh' c hs=>h _ ?_;have n:∃q,h'.get? a=Z q:=let ⟨q,_,_,hq,_⟩:=c;⟨q,hq⟩;exact Eb I (by rw[e];exact True.intro) hs n (R0 g j (b.put k m) c)
section
variable{kx vx:Expr}{xs:An}
def EB(K:B0)(_:A1)(H:Hp)(a:U Dt)(o:HO):Prop:=∃us,o=.dK us/\fK K H (dictOf a) us/\us.length<=a.length
theorem EB.kp{K:B0}{D:A1}{H H':Hp}{a:U Dt}{o:HO}(k:Kp H H'):EB K D H a o->EB K D H' a o:=λ⟨us,e,r,z⟩=>⟨us,e,r.kp k,z⟩
theorem Os(A:PV X kx fk)(u:PV X vx fv):Zm X (λD env=>do let f <-eval kx env;let vv <-holding [f] (eval vx env);standAt { kx.pos with endLine:=vx.pos.endLine,endCol:=vx.pos.endCol };holding [f,vv] (dictSet D f vv)) (ML (b2 Gk fk fv)) (EB X.K) 999 n:=by
 refine Zn λAN s σ H H0 ρ D o o1 ys I En eb hD ⟨us,e,r4,hl⟩ hi=>?_;subst e;obtain⟨b,e0,e1⟩:=AT eb;obtain⟨y,rfl,rfl⟩:=Bj e1;obtain⟨bk,F,eb⟩:=AT e0;obtain⟨S,w,eb⟩:=AT eb;obtain⟨c,G,rfl,rfl,rfl⟩:=Tn eb;refine zd (QN (A AN s σ H (λv a=>AV H a/\bh X.K a (.z (.str c)) v) I ⟨H0,ρ,_,En,F,λv a g _ d=>⟨g,d⟩⟩) (λf N j=>?_) λ_ _ z=>z);obtain⟨L,l,P,rk,m,M⟩:=j;refine zd (QU (QN (u AN N σ l (λv a=>AV l a/\AW X.K a G v) P ⟨H0,ρ,_,En.grow m,w,λv a g _ d=>⟨g,d⟩⟩) (λv g j=>?_) λ_ _ z=>z));obtain⟨h,a,q,C,B,d⟩:=j;have i:=m.trans B;have p:a D=Z (.dK us):=i _ _ hD;obtain⟨rfl,J⟩:L=.str c/\c.length<=AA:=by simpa only[bh,AW]using M
 have kp:Kp a (B5 a D (.dK (BB us (Sum.inr c) h))):=.dk p;refine zd (yv (QU ?_));simp only[List.length_singleton]at hi;refine Xq q p (by have:(1000:Nat)<AA:=(by decide);omega) (k:=Sum.inr c) rk C λQ E=>?_;have t:=((r4.kp (.of i)).put (x:=Sum.inr c) d J).kp kp;exact⟨a,_,E,i,kp,BB us (Sum.inr c) h,rfl,by rw[Qh];exact t,by have:=nZ us (Sum.inr c) h;simp;omega⟩
def Vy(fi:Ev->O (U Dt))(gt:Dt->Ev->O Ev)(p:Ev->O Bool)(fk fv:Ev->O Bx)(is:U Nat)(n:Nat):Ev->O Bx:=λρ=>(fi ρ).bind λds=>
 if ds.length<1000 then(Cv gt p (b2 Gk fk fv) (j8 is ρ++List.replicate n Y) ds).bind λa=>Z (.m (dictOf a) Y)else Y
theorem OZ(hu:X.A.units+100<cLine)(ts:An)(O:rT X scope cl xs is)(a4:X.calm=true)(hi:EC X tgt iter fi)
  (N7:∀C c d fp,Yo (Bh X (xs++ts) scope cl C c d fp) tgt gt) (W:∀C c d fp,vD (Bh X (xs++ts) scope cl C c d fp) ifs p) (G:∀C c d fp,QV (Bh X (xs++ts) scope cl C c d fp) kx fk) (a0:∀C c d fp,QV (Bh X (xs++ts) scope cl C c d fp) vx fv) (a1:Yp is.length (is.length+ts.length) gt)
  (hs:∀x,foldedSetIterable iter X.env x=pure x:=by intro _;rfl):QV X (.DictComp kx vx [⟨tgt,iter,ifs,0⟩] scope pos) (Vy fi gt p fk fv is ts.length):=⟨λAN s σ H Q I h=>by
 obtain⟨H0,ρ,b,E,e,q⟩:=h;obtain⟨ds,z,e⟩:=AT e;split at e
 ·rename_i a2;obtain⟨a5,g,e⟩:=AT e;cases e;rw[arm_eval_DictComp];refine Kb (use:=none) Δ hs O.clos O.kind O.names ?_;refine ji (hi.run AN s σ H (λJ H'=>AV H H'/\B1 X.K J ds H') I ⟨H0,ρ,ds,E,z,λJ H' s' y=>⟨s',y⟩⟩) λv s1 h1=>ji h1 λa6 n h2=>?_;obtain⟨it,fp,tn,J,H2,rfl,i,T,st,hf,f,Y⟩:=h2;refine JB (B:=Jz) (Ac:=EB X.K) (O0:=.dK []) (N:=999) (RR:=λa3 C=>compPost (A8 X.prog X.w) X.A X.xe none (EP X AN σ Q) a3 C) (ts:=ts) (xs:=xs) O a4 (λC c d fp=>(N7 C c d fp).run) (λC c d fp=>(W C c d fp).run) (λC c d fp=>Os (G C c d fp).run (a0 C c d fp).run) a1 (Nat.le_add_right ..) i ((E.grow f).caps is ts.length) (Oz T) st hf Y g (ZI (wC g) (Nat.le_of_lt_succ a2)) ?_
   qo (λ_=>Fd n.heap i.big) (λ_=>⟨[],rfl,fK.nil,zk _⟩) EB.kp (λ_ _ _=>Δ) codeAny_compStart_dict λh=>h
  rintro D C s' H' o L I' j ⟨m,S⟩ u l ⟨us,rfl,M,_⟩;refine⟨m,S,λh' sb=>⟨.ref D,H',?_,rfl,q (.ref D) H' (f.trans u) (λa ea=>by cases ea;exact f.free L) ⟨D,us,rfl,l,M,λb hb=>by cases hb⟩⟩⟩;obtain⟨f0,f1,f2,t,P,F⟩:=j;exact I'.turned (t':=s'.toks) (λb o hb e=>(sb.2 b hb).trans e) f0 f1 t P F
 ·cases e⟩
end
section
variable{ks:U (AY×V)}{o:AE}
theorem Qi(hb:∀f u,X.H₀ a≠Z (.uK f u))(I:L2.AU X AN σ H s)(e:H a=Z (.uK o (.dK ks))):L2.AU X AN σ (B5 H a (.dK ks)) s:=by
 have ne:∀{b:A1} {u:HO},H b=Z u->u≠.uK o (.dK ks)->b≠a:=λq n z=>by subst z;rw[e]at q;cases q;exact n rfl
 have nn:∀{b:A1},H b=Y->b≠a:=λq z=>by subst z;rw[e]at q;cases q
 refine⟨I.ok,I.os,I.bare,⟨I.base.keep,I.base.slot,λb f q n hx=>?_,I.base.there,λb xs q=>?_,λb f u q=>?_,λb ps q=>?_⟩,I.loc,I.cell,?_,λx c q=>?_,λp hp=>?_,λb f q=>?_,I.len⟩
 ·have:=I.base.free b f q n hx;rw[aR (nn this)];exact this
 ·have:=I.base.tups b xs q;rw[aR (ne this λz=>by cases z)];exact this
 ·have:=I.base.Di b f u q;rw[aR (λz=>by subst z;exact hb _ _ q)];exact this
 ·obtain⟨m,this⟩:=I.base.HX b ps q;exact⟨m,by rw[aR (ne this λz=>by cases z)];exact this⟩
 ·have:=I.free;rw[aR (nn this)];exact this
 ·have:=I.qL x c q;rw[aR (nn this)];exact this
 ·obtain⟨p1,p2,p3⟩:=I.pin p hp;exact⟨p1,by rw[aR (nn p2)];exact p2,p3⟩
 ·have st:∀{c:A1} {w:HO},gR X.prog X.w H s.heap c w->gR X.prog X.w (B5 H a (.dK ks)) s.heap c w:=λx=>
   x.stay (λ_ _ _ r=>r) (λd r=>by rw[aR (ne r λz=>by cases z)];exact r) λd xs r=>by rw[aR (ne r λz=>by cases z)];exact r
  by_cases g:b=a
  ·subst g;rw[bJ]at q;cases q;exact st (I.hok _ _ e).2
  ·rw[aR g]at q;exact st (I.hok _ _ q)
theorem PU(I:L2.AU X AN σ H s)(e:H a=Z (.dK ks))(ho:s.heap.get? a=Z o):L2.AU X AN σ (B5 H a (.uK o (.dK ks))) s:=by
 have:=I.write (t':=s.toks) (h':=s.heap) (x:=a) (e:=a) (o:=.uK o (.dK ks)) (by rw[e];exact True.intro) (.inl Δ) (λ_ _ _ z=>z) ⟨o,ho⟩ ⟨ho,(I.hok _ _ e).stay (λ_ _ _ r=>r) (λd r=>by rw[aR (o9 r e (by intro z;cases z))];exact r) λd xs r=>by rw[aR (o9 r e (by intro z;cases z))];exact r⟩;exact this
theorem OV(I:L2.AU X AN σ H s)(e:H a=Z (.dK ks)):∀b u,X.H₀ a≠Z (.uK b u):=λb u q=>by
 have:=I.base.Di a b u q;rw[e]at this;cases this
mutual
theorem AW.Qi{K:B0}(e:H a=Z (.uK o (.dK ks)))(f:ks≠[]):∀{d:Dt} {v:V},AW K H d v->AW K (B5 H a (.dK ks)) d v
 |.non,_,h=>by simpa only[AW]using h
 |.bl _,_,h=>by simpa only[AW]using h
 |.int _,_,h=>by simpa only[AW]using h
 |.str _,_,h=>by simpa only[AW]using h
 |.tup ds,_,h=>by
  simp only[AW]at h ⊢;obtain⟨b,vs,e1,q,r⟩:=h;refine⟨b,vs,e1,?_,aK.Qi e f r⟩;rcases q with (q|⟨c,q⟩)|q
  ·exact .inl (.inl (by rw[aR (λz=>by subst z;rw[e]at q;cases q)];exact q))
  ·exact .inl (.inr ⟨c,by rw[aR (λz=>by subst z;rw[e]at q;cases q)];exact q⟩)
  ·exact .inr q
 |.lst ds,_,h=>by
  simp only[AW]at h ⊢;obtain⟨b,vs,e1,q,r⟩:=h;refine⟨b,vs,e1,?_,aK.Qi e f r⟩;rcases q with⟨c,q⟩|q
  ·exact .inl ⟨c,by rw[aR (λz=>by subst z;rw[e]at q;cases q)];exact q⟩
  ·exact .inr q
 |.emp,_,h=>by
  simp only[AW]at h ⊢;obtain⟨b,c,e1,q⟩:=h;exact⟨b,c,e1,by rw[aR (λz=>by subst z;rw[e]at q;cases q;exact f Δ)];exact q⟩
theorem aK.Qi{K:B0}(e:H a=Z (.uK o (.dK ks)))(b:ks≠[]):∀{ds:U Dt} {vs:U V},aK K H ds vs->aK K (B5 H a (.dK ks)) ds vs
 |[],_,h=>by simpa only[aK]using h
 |d::ds,_,h=>by
  simp only[aK]at h ⊢;obtain⟨v,r,e1,q,t⟩:=h;exact⟨v,r,e1,AW.Qi e b q,aK.Qi e b t⟩
end
def L3(a:A1)(o:AE)(ks:U (AY×V)):It:=
 ⟨λi H=>H a=Z (.uK o (.dK ks))/\i<ks.length,λi H x H'=>H'=H/\(ks.map λk=>kV k.1)[i]?=Z x,λi H=>H a=Z (.uK o (.dK ks))/\ks.length<=i⟩
theorem Vz(x:gR P w H h a (.uK o (.dK ks))){es:Array DictEntry}(b:o.data=.dict es ep):∃vs,KV ks vs/\h.DictAt (bB P w) a vs ep:=by
 obtain⟨e,_,_,vs,f,i,g,j,e2,c,d,r⟩:=x;rw[e]at e2;cases e2;rw[b]at d;cases d;exact⟨vs,f,o,es,e,c,b,r⟩
theorem LN:∀{ks:U (AY×V)} {vs:U (AY×A0)},KV ks vs->∀{i:Nat} {p},ks[i]?=Z p->∃x,vs[i]?=Z (p.1,x)
 |_,_,.nil,i,p,q=>by simp at q
 |_,_,.cons h _,0,p,q=>by simp at q;subst q;exact⟨_,by rw[List.getElem?_cons_zero,h.1]⟩
 |_,_,.cons _ t,i+1,p,q=>by
  rw[ZZ]at q;obtain⟨x,hx⟩:=LN t q;exact⟨x,by rw[ZZ];exact hx⟩
theorem J4(it:A1){es:Array DictEntry}(D:o.data=.dict es ep)(N:a≠it):C3 P w K tg (L3 a o ks) [it] it (λi h=>h.IsKeyIter it a i ks.length ep) where
 mem:=by simp
 obj:=λi h st b hb=>by
  have e:b=it:=by simpa using hb
  subst e;obtain⟨f,e,c,d⟩:=st;exact⟨f,e,λv z=>by rw[d]at z;cases z⟩
 keep:=λi h h' st k=>st.at λf e=>k it (by simp) f e
 item:=by
  intro X B p n G i AN s σ H E I l st hg;subst B p n;obtain⟨ha,hi⟩:=hg;obtain⟨vs,m,y⟩:=Vz (I.hok _ _ ha) D;have g:ks.length=vs.length:=m.length;obtain⟨x,hx⟩:=LN m (show ks[i]?=Z ks[i] by simp[hi]);obtain⟨f0,f1,f2,q,A,u⟩:=l it (by simp);rw[g]at st;refine wpAny_pyNext_dict_item st y hx λF h' M C sb=>?_;rw[<-g]at C;have J:L2.AU X AN σ H { s with heap:=h' }:=I.turned (t':=s.toks) (λb f hb e=>(sb.2 b hb).trans e) f0 f1 q A u;obtain⟨f,e,c,d⟩:=id C;refine⟨F,rfl,Jq (s:={ s with heap:=h' }) e c d (by decide) ⟨kV (ks[i]).1,H,J,?_,⟨rfl,by rw[Zp,Zl hi];rfl⟩,C,λb hb=>(l b hb).1⟩⟩;have L:lO (ks[i]).1 F=true:=M;rcases bM L with⟨j,t,e2,e3⟩|⟨z,t,e2,e3⟩
  ·rw[e2,e3];exact⟨t,rfl⟩
  ·rw[e2,e3];exact⟨t,rfl⟩
 done:=by
  intro X B p n G i AN s σ H E I l st hg;subst B p n;obtain⟨ha,hi⟩:=hg;obtain⟨vs,m,y⟩:=Vz (I.hok _ _ ha) D;have g:ks.length=vs.length:=m.length;obtain⟨f0,f1,f2,q,A,u⟩:=l it (by simp);rw[g]at st;exact wpAny_pyNext_dict_end (I.ok.hd G) st y (Qb (by omega)) λh' eb=>⟨rfl,I.turned (t':=s.toks) (λb f hb e=>eb b f hb e) f0 f1 q A u⟩
 self:=λ_ _ _ _ _ st h=>wpAny_pyIter_keyiter st h
def Tp:AY->Dt
 |.inl i=>.int i
 |.inr x=>.str x
theorem WI{k:AY}(h:D8 k):AW K H (Tp k) (kV k):=by
 cases k with
 |inl i=>unfold Tp AW;rfl
 |inr x=>unfold Tp AW;exact⟨rfl,h⟩
def Ch:Bx->O (U Dt)
 |.n AO=>Z (AO.map λp=>Tp p.1)
 |_=>Y
theorem Xr(h:Ch b=Z ds):∃AO,b=.n AO/\ds=AO.map λp=>Tp p.1:=by
 unfold Ch at h;split at h
 ·cases h;exact⟨_,rfl,rfl⟩
 ·cases h
theorem CG(ha:Hs a=Z (.uK o (.dK ks)))(b:fK K Hs AO ks):B1 K (L3 a o ks) (AO.map λp=>Tp p.1) Hs:=.of λi H s=>by
 have f:=b.len;refine⟨λd e=>?_,λe=>⟨s _ _ ha,by rw[zl]at e;omega⟩⟩;rw[Zp]at e;cases hp:AO[i]? with
 |none=>rw[hp]at e;cases e
 |some p=>
  rw[hp]at e;cases e;have hi:i<AO.length:=(List.getElem?_eq_some_iff.mp hp).1;refine⟨⟨s _ _ ha,by omega⟩,λx H' y=>?_⟩;obtain⟨y1,y2⟩:=y;refine⟨y1,?_⟩;have h1:(ks.map (·.1))[i]?=Z p.1:=by rw[b.1,Zp,hp];rfl
  rw[Zp]at h1 y2;cases c:ks[i]? with
  |none=>rw[c]at h1;cases h1
  |some q=>
   rw[c]at h1 y2;cases y2;have:q.1=p.1:=by simpa using h1
   show AW K H (Tp p.1) (kV q.1);rw[this];exact WI (b.2.2 p (QI hp))
theorem Tq{H1:Hp}(e:H1 a=Z (.dK ks))(E:bQ K H1 H1 (xY is σ++List.replicate n Y) (j8 is ρ++List.replicate n Y)):bQ K (B5 H1 a (.uK o (.dK ks))) (B5 H1 a (.uK o (.dK ks))) (xY is σ++List.replicate n Y) (j8 is ρ++List.replicate n Y):=by
 have kp:Kp H1 (B5 H1 a (.uK o (.dK ks))):=.dk e;have g:∀(j:Nat) c,(j8 is ρ++List.replicate n Y)[j]?=Z (Z c)->uV c=false:=λj c e=>by
  by_cases p:j<is.length
  ·rw[ZO (by simp[j8];omega)]at e;unfold j8 at e;rw[Zp]at e;cases q:is[j]? with
   |none=>rw[q]at e;cases e
   |some i=>
    rw[q]at e;have:Bc ρ i=Z c:=by simpa using e
    exact yV this
  ·rw[qv (by simp[j8];omega),QQ]at e;split at e<;>cases e
 refine⟨E.len,λj b eb=>?_,λj k c a b e h=>absurd h (by rw[g j c e];exact ZE),AV.refl _,λj c a e h=>absurd h (by rw[g j c e];exact ZE)⟩;obtain⟨v,ev,r⟩:=E.val j b eb;refine⟨v,ev,?_⟩;cases b with
 |z d=>exact AW.kp kp r
 |o ds=>have:=g j _ eb;cases this
 |m ds _=>have:=g j _ eb;cases this
 |l ds=>
  obtain⟨b,vs,e1,q,r⟩:=r;refine⟨b,vs,e1,?_,r.kp kp⟩;rcases q with q|⟨f,q⟩
  ·exact .inl (by rw[aR (o9 q e (by intro z;cases z))];exact q)
  ·exact .inr ⟨f,by rw[aR (o9 q e (by intro z;cases z))];exact q⟩
 |n ds=>
  obtain⟨b,vs,e1,q,r⟩:=r;refine⟨b,vs,e1,?_,r.kp kp⟩;by_cases hb:b=a
  ·subst hb;rcases q with q|⟨f,q⟩
   ·rw[e]at q;cases q;exact .inr ⟨o,bJ⟩
   ·rw[e]at q;cases q
  ·rcases q with q|⟨f,q⟩
   ·exact .inl (by rw[aR hb];exact q)
   ·exact .inr ⟨f,by rw[aR hb];exact q⟩
end
section
variable{fd:Ev->O Bx}{xs:An}
def Qj(fd:Ev->O Bx):Ev->O (U Dt):=λρ=>(fd ρ).bind Ch
theorem Xu(ρ:Ev):Cv gt p fe ρ []=Z []:=rfl
theorem Qk(ts:An)(O:rT X scope cl xs is)(b3:X.calm=true)(hi:QV X iter fd)
  (N7:∀C c f fp,Yo (Bh X (xs++ts) scope cl C c f fp) tgt gt) (a4:∀C c f fp,vD (Bh X (xs++ts) scope cl C c f fp) ifs p) (a2:∀C c f fp,QV (Bh X (xs++ts) scope cl C c f fp) elt fe) (a5:Yp is.length (is.length+ts.length) gt)
  (hs:∀x,foldedSetIterable iter X.env x=pure x:=by intro _;rfl):QV X (.ListComp elt [⟨tgt,iter,ifs,0⟩] scope pos) (iJ (Qj fd) gt p fe is ts.length):=⟨λAN s σ H Q I h=>by
 obtain⟨H0,ρ,b,E,e,q⟩:=h;obtain⟨ds,G,e⟩:=AT e;split at e
 ·rename_i a6;obtain⟨c8,l,e⟩:=AT e;cases e;obtain⟨bd,c0,G⟩:=AT G;obtain⟨AO,rfl,rfl⟩:=Xr G;rw[eval_ListComp];refine Kb (use:=Y) Δ hs O.clos O.kind O.names ?_;refine ji (hi.run AN s σ H (λv H1=>AV H H1/\bh X.K H1 (.n AO) v) I ⟨H0,ρ,_,E,c0,λv H1 d _ r1=>⟨d,r1⟩⟩) λv d ⟨v',H1,I1,rv,s01,r1⟩=>?_;obtain⟨a,ks,rfl,g,M⟩:=r1;cases rv;obtain⟨_,d1,vs,kv,t,es,ep,L⟩:=uM I1.hok g;have S:=L.1;have b0:=L.2.2.1;refine wpAny_pyIter_dict d1 (⟨t,es,L⟩:d.heap.DictAt (bB X.prog X.w) a vs ep) ?_;have a1:a<d.heap.objs.size:=zD S;have hl:ks.length=vs.length:=kv.length;have a3:∀{H':Hp},L2.AU X AN σ H' d->∀b∈[d.heap.objs.size],rN X AN H' b:=λj b hb=>by
   have e:b=d.heap.objs.size:=by simpa using hb
   subst e;exact j.RK (zk _) (j.hok.fresh (zk _))
  have a7:Heap.IsKeyIter (d.heap.push { cls:=.type "dict_keyiterator",data:=.fields #[.ref a,.int 0 0,.int vs.length 0,.int ep 0] }) d.heap.objs.size a 0 ks.length ep:=⟨_,zv _ rfl,rfl,by rw[hl];rfl⟩;rcases g with g|⟨o',g⟩
  ·
   have I2:=PU I1 g S;have P:L2.AU X AN σ (B5 H1 a (.uK t (.dK ks))) { d with heap:=d.heap.push { cls:=.type "dict_keyiterator",data:=.fields #[.ref a,.int 0 0,.int vs.length 0,.int ep 0] } }:=I2.kept (t':=d.toks) λb o e=>ze _ e;have c3:fK X.K (B5 H1 a (.uK t (.dK ks))) AO ks:=M.kp (.dk g);refine zj (B:=Jz) (RR:=λa0 C=>compPost (A8 X.prog X.w) X.A X.xe Y (EP X AN σ Q) a0 C) (ts:=ts) (xs:=xs) O b3 (λC c f fp=>(N7 C c f fp).run) (λC c f fp=>(a4 C c f fp).run) (λC c f fp=>(a2 C c f fp).run) a5 P (Tq g ((E.grow s01).caps is ts.length)) (Oz (J4 d.heap.objs.size b0 (z4 a1))) a7 (a3 I2) (CG bJ c3) a6 l ?_;intro D C s' H' us i j y ⟨m,hn⟩ s2' hD' r';have W:H' a=Z (.uK t (.dK ks)):=s2' _ _ bJ;have b9:D≠a:=λz=>by subst z;rw[bJ]at i;cases i
   have d0:H1 D=Y:=by rw[aR b9]at i;exact i
   have sm:AV H1 (B5 H' a (.dK ks)):=λb u e=>by
    by_cases hb:b=a
    ·subst hb;rw[g]at e;cases e;exact bJ
    ·rw[aR hb];exact s2' b u (by rw[aR hb];exact e)
   have rr:aK X.K (B5 H' a (.dK ks)) c8 us:=by
    by_cases hk:ks=[]
    ·have:AO=[]:=by have:=M.len;rw[hk]at this;exact List.length_eq_zero_iff.mp (by simpa using this.symm)
     subst this;simp only[kb]at l;rw[Xu]at l;cases l;simpa only[aK]using r'
    ·exact aK.Qi W hk r'
   refine⟨m,hn,λh' sb=>⟨.ref D,B5 H' a (.dK ks),?_,rfl,q _ _ (s01.trans sm) (λa ea=>by cases ea;exact s01.free d0) ⟨D,us,rfl,by rw[aR b9];exact hD',rr⟩⟩⟩;obtain⟨f0,f1,f2,F,N,J⟩:=y;have c4:C≠a:=λz=>by subst z;rw[W]at f0;cases f0
   exact(Qi (OV I1 g) j W).turned (t':=s'.toks) (λb o hb e=>(sb.2 b hb).trans e) (by rw[aR c4];exact f0) f1 F N J
  ·have c6:o'=t:=by
    have:=(I1.hok _ _ g).1;rw[S]at this;cases this;rfl
   subst c6;have P:L2.AU X AN σ H1 { d with heap:=d.heap.push { cls:=.type "dict_keyiterator",data:=.fields #[.ref a,.int 0 0,.int vs.length 0,.int ep 0] } }:=I1.kept (t':=d.toks) λb o e=>ze _ e;refine zj (B:=Jz) (RR:=λa0 C=>compPost (A8 X.prog X.w) X.A X.xe Y (EP X AN σ Q) a0 C) (ts:=ts) (xs:=xs) O b3 (λC c f fp=>(N7 C c f fp).run) (λC c f fp=>(a4 C c f fp).run) (λC c f fp=>(a2 C c f fp).run) a5 P ((E.grow s01).caps is ts.length) (Oz (J4 d.heap.objs.size b0 (z4 a1))) a7 (a3 I1) (CG g M) a6 l ?_;intro D C s' H' us i j y ⟨m,hn⟩ s2' hD' r';refine⟨m,hn,λh' sb=>⟨.ref D,H',?_,rfl,q _ _ (s01.trans s2') (λa ea=>by cases ea;exact s01.free i) ⟨D,us,rfl,hD',r'⟩⟩⟩;obtain⟨f0,f1,f2,F,N,J⟩:=y;exact j.turned (t':=s'.toks) (λb o hb e=>(sb.2 b hb).trans e) f0 f1 F N J
 ·cases e⟩
end
theorem Ql{R:Result->A2->Prop}{d:A1}{AO:List (AY×A0)}(W:A.handled=Y)(E:(d==sysModules)=false)(j:s.heap.DictAt (bB prog w) d AO ep)(P:AO.length<=AA)(S:A1)(l:d≠S)(p:A0)(q:Nat)(z:s.heap.get? S=Z { cls:=.type "list",data:=.seq #[] q })(C:∀h' tk g a,(∀b o,b≠S->s.heap.get? b=Z o->h'.get? b=Z o)->h'.get? S=Z { cls:=.type "list",dict:=Y,data:=.seq g a,slots:=#[] } →
   ItemsOf (λi v=>∃k x,AO[i]?=Z (k,x)/\(bB prog w).is k v=true) g AO.length->R (.ok (.ret p)) { s with heap:=h',toks:=tk }):
  A7 (A8 prog w) A.in1 (Builtin.List.listExtendWith (.ref S) (.ref d) p)
   (λM s'=>match M with|.done f=>R (.ok f) s'|.again a=>a.quiet=true/\AF (A8 prog w) A a R s') (λe s'=>R (.error e) s') s:=by
 have B:d<s.heap.objs.size:=by obtain⟨o,_,ho,_⟩:=j;exact zD ho
 have L:S<s.heap.objs.size:=zD z;unfold Builtin.List.listExtendWith;refine zd (Q1 (T :="dict") j.dictOf.typeIs ?_);have h1:Builtin.List.listSameRef (.ref S) (.ref d)=false:=by simp[Builtin.List.listSameRef];exact λe=>l e.symm
 simp only[h1,show(Value.type "dict"==Value.type "list")=false by decide,show(Value.type "dict"==Value.type "tuple")=false by decide,Bool.or_false,zr,ZN];refine zd (wpAny_pyIter_dict E j ?_);refine zd (QU ?_);have c:=j.at' (h':=s.heap.push { cls:=.type "dict_keyiterator",data:=.fields #[.ref d,.int 0 0,.int AO.length 0,.int ep 0] }) λo e=>ze _ e;unfold Builtin.List.listLengthHint;refine zd (wpAny_specialOf (T :="dict") c.dictOf.typeIs F.slot_dict_len.lookup ?_)
 wp_delta
 refine zd (JP (T :="dict") (b:=true) c.dictOf.typeIs (by rw[isSubtype_type];kernel_rfl) ?_);show A7 _ A.in1 (typeOf (Value.ref d) >>= _) _ _ _;refine zd (Q1 (T :="dict") c.dictOf.typeIs (zg ?_));rw[zo (by decide)];show A7 _ A.in1 (Builtin.List.listTouch (Value.ref S) >>= λ_=>again (Code.builtin "list.extend.loop" ⟨[Value.ref S,Value.ref s.heap.objs.size,p],[]⟩)) _ _ _;generalize n:s.heap.push { cls:=.type "dict_keyiterator",data:=.fields #[.ref d,.int 0 0,.int AO.length 0,.int ep 0] }=G at c ⊢;have m:G.get? S=Z { cls:=.type "list",data:=.seq #[] q }:=by
  rw[<-n];exact ze _ z
 have N:G.get? s.heap.objs.size=Z { cls:=.type "dict_keyiterator",data:=.fields #[.ref d,.int 0 0,.int AO.length 0,.int ep 0] }:=by
  rw[<-n];exact zv _ rfl
 unfold Builtin.List.listTouch;refine zd (zd (listUpdate_at m Δ (listUpdate_at (get?_update_seq m _) Δ ?_ (by show _<=_;decide) (by show _<=_;decide)) (by show _<=_;decide) (by show _<=_;decide)));have t:s.heap.objs.size≠S:=ki L;have u:=get?_update_seq (get?_update_seq m (λx=>x.push Value.none)) (λx=>x.pop);generalize I:(G.update S (Obj.mapSeq λx=>x.push Value.none)).update S (Obj.mapSeq λx=>x.pop)=U at u;have keep:∀b,b≠S->U.get? b=G.get? b:=λb hb=>by rw[<-I,JJ _ _ _ _ hb,JJ _ _ _ _ hb]
 have Q:U.IsKeyIter s.heap.objs.size d 0 AO.length ep/\U.DictAt (bB prog w) d AO ep:=⟨⟨_,(keep _ t).trans N,rfl,rfl⟩,c.at' λo e=>(keep d l).trans e⟩;show A7 _ A.in1 (again _) _ _ { s with heap:=U };have K:S∉[s.heap.objs.size,d]:=λh=>by
  simp only[jI,JS,or_false]at h;rcases h with h|h
  ·exact t h.symm
  ·exact l h.symm
 refine zg ⟨plainId_quiet F.plain_extend_loop _,codeAny_extend_loopS (Walks.dictKeys (A:=A.in1) W s.heap.objs.size d (z4 B) AO ep).toS P S K _ AO.length 0 { s with heap:=U } #[] _ Δ (QR _) Q u (ItemsOf.nil _) λs' g a y H J=>?_⟩;rw[Moved.eq_with y];refine C s'.heap s'.toks g a (λb D hb e=>?_) H J;have X:=zD e;refine y.heap b D (λh=>?_) ((keep b hb).trans ?_)
 ·simp only[jI,JS,or_false]at h;rcases h with h|h
  ·exact hb h
  ·exact z4 X h
 ·rw[<-n];exact ze _ e
theorem Gm{Q:B8}{d:A1}{AO:U (AY×A0)}(G:A.handled=Y)(p:(d==sysModules)=false)(l:s.heap.DictAt (bB prog w) d AO ep)(D:AO.length<=AA)(z:∀h' tk c f,(∀b o,s.heap.get? b=Z o->h'.get? b=Z o) →
   h'.get? s.heap.objs.size=Z { cls:=.type "list",dict:=Y,data:=.seq c f,slots:=#[] }->ItemsOf (λi v=>∃k x,AO[i]?=Z (k,x)/\(bB prog w).is k v=true) c AO.length->Q (.ref s.heap.objs.size) { s with heap:=h',toks:=tk }):
  A7 (A8 prog w) A (call (.type "list") [.ref d]) Q E s:=by
 have g:d<s.heap.objs.size:=by obtain⟨o,_,ho,_⟩:=l;exact zD ho
 refine callType_codes (Q₁:=λm j=>m=.ref s.heap.objs.size/\j={ s with heap:=s.heap.push { cls:=.type "list",data:=.seq #[] } }) F.called_list (F.typeCall_list_1 _) F.entry_list_init
  (code_list_new _ ⟨rfl,rfl⟩) λm j B=>?_
 obtain⟨rfl,rfl⟩:=B;have a:(s.heap.push { cls:=.type "list",data:=.seq #[] }).get? s.heap.objs.size=Z { cls:=.type "list",data:=.seq #[] }:=zv _ rfl;have h:=l.at' (h':=s.heap.push { cls:=.type "list",data:=.seq #[] }) λo e=>ze _ e;refine⟨⟨_,a,rfl⟩,F.args_list_init_2 _ _,?_⟩;generalize q:s.heap.push { cls:=.type "list",data:=.seq #[] }=H at a h ⊢;show A7 _ _ (do let old <-Builtin.List.listItems (.ref s.heap.objs.size);Builtin.List.listUpdate (.ref s.heap.objs.size) (λ_=>#[]);letGo old.toList.reverse;Builtin.List.listExtendWith (.ref s.heap.objs.size) (.ref d) .none) _ _ { s with heap:=H };refine zd ?_;unfold Builtin.List.listItems;refine zd (K2 a Δ (zg ?_));show A7 _ _ (updateSeq s.heap.objs.size (λ_=>#[]) >>= λ_=>letGo (#[]:Array A0).toList.reverse >>= λ_=>Builtin.List.listExtendWith (.ref s.heap.objs.size) (.ref d) .none) _ _ _;refine zd (wpAny_updateSeq a Δ ?_);have C:=kK (Obj.mapSeq (λ_=>(#[]:Array A0))) a rfl;have n:∀b o,b≠s.heap.objs.size->H.get? b=Z o->(H.update s.heap.objs.size (Obj.mapSeq (λ_=>(#[]:Array A0)))).get? b=Z o:=
  λb o hb e=>(Heap.get?_update_other _ _ (Kj hb)).trans e
 refine zd (wpAny_letGo ?_);refine Ql (A:=A.in1) G p (h.at' λo e=>n d o (z4 g) e) D s.heap.objs.size (z4 g) .none _ C λh' tk c f t u y=>?_;exact⟨rfl,z h' tk c f (λb o e=>t b o (z4 (zD e)) (n b o (z4 (zD e)) (by rw[<-q];exact ze _ e))) u y⟩
theorem WF{P:Nat->A0->Prop}(val:Nat->AJ)(a:∀i v,P i v->∃t,v=.str (val i) t):CmpOf prog w A .Lt P (λi j=>decide ((val i).cps.toList<(val j).cps.toList)):=λi j c d s Q E hi b h=>by
 obtain⟨t,rfl⟩:=a i c hi;obtain⟨u,rfl⟩:=a j d b;exact richCompare_gives (op:=.Lt) (typeIs_str s _ t) (typeIs_str s _ u) F.slot_str_lt F.entry_str_lt (F.args_str_lt_2 _ _) (gives_str_lt _ _ t u) (λx=>nomatch x) h
def two(a b:AJ)(i:Nat):AJ:=if i=0 then a else b
theorem RC{a b:AJ}{t u:Tok}(i:Nat)(v:A0)(h:(#[Value.str a t,Value.str b u])[i]?=Z v):∃t',v=.str (two a b i) t':=by
 match i,h with
 |0,h=>cases h;exact⟨t,rfl⟩
 |1,h=>cases h;exact⟨u,rfl⟩
 |_+2,h=>simp at h
theorem OY{a b:AJ}{t u:Tok}{Q:B8}{d:Nat->Nat->Bool}(y:A.handled=Y)(f:CmpOf prog w A.in1 op (λi v=>(#[Value.str a t,Value.str b u])[i]?=Z v) d)(h:∀h' tk,(∀c o,s.heap.get? c=Z o->h'.get? c=Z o)->Q (if d 1 0=true then .str b u else .str a t) { s with heap:=h',toks:=tk }):
  A7 (A8 prog w) A.in1 (pyIter (.ref s.heap.objs.size)) (λit j=>∃I fp wr n P St d,it=.ref I/\Walks prog w A.in1 I fp wr n P St/\St 0 j.heap/\(∀b∈fp,b<j.heap.objs.size)/\0<n/\CmpOf prog w A.in1 op P d ∧
   ∀v h' tk,P (argBest d (n-1)) v->(∀b o,b∉wr->j.heap.get? b=Z o->h'.get? b=Z o)->Q v { j with heap:=h',toks:=tk }) E
   { s with heap:=s.heap.push { cls:=.type "tuple",data:=.seq #[.str a t,.str b u] } }:=by
 have p:(s.heap.push { cls:=.type "tuple",data:=.seq #[.str a t,.str b u] }).IsTuple s.heap.objs.size #[.str a t,.str b u]:=⟨_,zv _ rfl,rfl,0,rfl⟩;refine ko p ?_;have l:(s.heap.push { cls:=.type "tuple",data:=.seq #[.str a t,.str b u] }).objs.size=s.heap.objs.size+1:=qr ..;refine⟨_,[_,s.heap.objs.size],[_],_,_,_,d,rfl,Walks.tuple (A:=A.in1) y _ s.heap.objs.size (by rw[l];exact z4 (qc _)) #[.str a t,.str b u],
  ⟨⟨_,zv _ rfl,rfl,rfl⟩,p.push _⟩,λc f=>?_,by simp,f,λv h' tk z B=>?_⟩
 ·show c<((s.heap.push _).push _).objs.size;rw[qr,l];rcases List.mem_cons.mp f with rfl|f
  ·rw[l];exact qc _
  ·rcases List.mem_cons.mp f with rfl|f
   ·exact QA (qc _)
   ·cases f
 ·have hold:∀c o,s.heap.get? c=Z o->h'.get? c=Z o:=λc o e=>by
   refine B c o (λm=>?_) (ze _ (ze _ e));rcases List.mem_cons.mp m with e1|m
   ·have:=zD e;rw[e1,l]at this;exact JO _ (Nat.lt_of_succ_lt this)
   ·cases m
  have:=h h' tk hold;have x:v=if d 1 0=true then Value.str b u else Value.str a t:=by
   have g:(#[Value.str a t,Value.str b u])[argBest d 1]?=Z v:=z;unfold argBest argBest at g;by_cases q:d 1 0=true
   ·rw[zo q]at g ⊢;exact(by simpa using g.symm)
   ·rw[zC q]at g ⊢;exact(by simpa using g.symm)
  rw[x];exact this
def Gn:U Bx->O Bx
 |[.z (.str a),.z (.str b)]=>Z (.z (.str (if agn b a=true then b else a)))
 |_=>Y
where agn (x y:AJ):Bool:=decide (x.cps.toList<y.cps.toList)
theorem WG(f:X.calm=true):sJ X (.builtin "min") Gn:=by
 intro AN s σ H xs us Q I r h;obtain⟨bs,c,d,e,q⟩:=h;unfold Gn at e;split at e
 ·rename_i a b;cases e;obtain⟨v,w,rfl,r1,r2⟩:=ZK d;obtain⟨rfl,h1⟩:=W3 r1;obtain⟨rfl,h2⟩:=W3 r2;obtain⟨u,j,rfl,i,g⟩:=AX.two r;obtain⟨t,rfl⟩:=i;obtain⟨l,rfl⟩:=g;refine call_min_two (OY (I.ok.hd f) (WF (two a b) RC) λh' tk kp=>?_);show EP X AN σ Q (if Gn.agn b a=true then _ else _) _;by_cases hb:Gn.agn b a=true
  ·rw[zo hb]at q ⊢;exact⟨.str b,H,I.kept kp,⟨_,rfl⟩,q _ H (AV.refl H) trivial r2⟩
  ·rw[zC hb]at q ⊢;exact⟨.str a,H,I.kept kp,⟨_,rfl⟩,q _ H (AV.refl H) trivial r1⟩
 ·cases e
def Gp:U Bx->O Bx
 |[.n AO]=>(Xa AO).bind λys=>Z (.o (ys.map Dt.str))
 |_=>Y
theorem b5(n:X.calm=true):sJ X (.type "list") Gp:=by
 intro AN s σ H xs us Q I r h;obtain⟨bs,c,j,e,q⟩:=h;unfold Gp at e;split at e
 ·rename_i AO;obtain⟨ys,b,e⟩:=AT e;cases e;have B:AO.length=ys.length:=by have:=congrArg List.length (wG b);simpa using this
  obtain⟨v,rfl,r1⟩:=BN j;obtain⟨a,ks,rfl,l,d⟩:=r1;obtain⟨u,rfl,A⟩:=BD r;cases A;obtain⟨i,D,vs,g,o,es,ep,z⟩:=uM I.hok l;have m:vs.map (·.1)=ys.map Sum.inr:=by rw[Vl g,d.1];exact wG b
  have E:ks.length=vs.length:=g.length;refine Gm (I.ok.hd n) D ⟨o,es,z⟩ (by omega) λh' tk C p ext t x=>?_;have z1:=SM m x;have w:∀y∈ys,y.length<=AA:=TZ b d.2.2;have f:=I.hok.fresh (zk s.heap.objs.size);refine⟨.ref s.heap.objs.size,_,I.laid (t':=tk) (a:=s.heap.objs.size) (o:=.lst (ys.map V.str)) ext (zk _) ?_,rfl,q _ _ (bV f) (λa ea=>by cases ea;exact f) ⟨_,_,rfl,bJ,FN w⟩⟩;refine⟨by rw[zl,<-B,<-d.len];exact i,C.toList,p,Bw z1,?_⟩;rw[t]
 ·cases e
def CI(H:Hp)(a:A1):Hp:=λb=>if b=a then Y else H b
theorem VB{b:A1}(h:b≠a):CI H a b=H b:=zC h
theorem VD:CI H a a=Y:=zo rfl
def DA:Bx->Bool
 |.z _=>true
 |_=>false
def ET(K:B0)(n:Nat)(G:A1->U (AY×Dt)->U Bx->O (U (AY×Dt))):Sp:=λvs H Q _=>vs.length=n+1/\∃a ks AO AS bs b,vs=.ref a::AS/\H a=Z (.dK ks)/\fK K H AO ks/\sI K H bs AS/\bs.all DA=true/\G a AO bs=Z b/\∀H' c,AV (CI H a) H'->H' a=Z (.dK c)->fK K H' b c->Q .non H'
def Qm(n:Nat)(g:Ev->O Ap):A1->U (AY×Dt)->U Bx->O (U (AY×Dt)):=λa AO bs=>(g ((Bx.m AO (Z a)::bs).map Z++List.replicate (n-(bs.length+1)) Y)).bind λr=>match r with
 |.nx ρ=>match ρ[0]? with
  |some (Z (Bx.m kvs' (Z b)))=>if b=a then Z kvs' else Y
  |_=>Y
 |_=>Y
theorem Tt{c:U (AY×Dt)}{bs:U Bx}(h:Qm n g a AO bs=Z c):∃ ρ,g ((Bx.m AO (Z a)::bs).map Z++List.replicate (n-(bs.length+1)) Y)=Z (.nx ρ)/\ρ[0]?=Z (Z (.m c (Z a))):=by
 obtain⟨r,er,h⟩:=AT h;cases r with
 |nx ρ=>
  dsimp only at h;split at h
  ·rename_i k b e;split at h
   ·rename_i hb;cases h;subst hb;exact⟨ρ,er,e⟩
   ·cases h
  ·cases h
 |rt _=>cases h
 |bk _=>cases h
 |ct _=>cases h
theorem Gq{α β:Type}{R:α->β->Prop}:∀{xs:U α} {ys:U β},AI R xs ys->∀{i:Nat} {x:α},xs[i]?=Z x->∃y,ys[i]?=Z y/\R x y
 |_,_,.nil,i,x,q=>by simp at q
 |_,_,.cons r _,0,x,q=>by simp at q;subst q;exact⟨_,rfl,r⟩
 |_,_,.cons _ t,i+1,x,q=>by
  rw[ZZ]at q;obtain⟨y,y1,y2⟩:=Gq t q;exact⟨y,by rw[ZZ];exact y1,y2⟩
theorem bQ.startM{bs:U Bx}{AS:U V}{ks:U (AY×V)}(ha:H a=Z (.dK ks))(p:fK K H AO ks)(r:sI K H bs AS)(l:bs.all DA=true):bQ K (CI H a) H (L2.start N (.ref a::AS)) ((Bx.m AO (Z a)::bs).map Z++List.replicate (N.length-(bs.length+1)) Y):=by
 have n:bs.length=AS.length:=Paired.length r;have r2:sI K H (.m AO (Z a)::bs) (.ref a::AS):=.cons ⟨a,ks,rfl,ha,p,λb h=>by cases h;rfl⟩ r;have get:∀(i:Nat) b,((Bx.m AO (Z a)::bs).map Z++List.replicate (N.length-(bs.length+1)) Y)[i]?=Z (Z b)->(Bx.m AO (Z a)::bs)[i]?=Z b:=λi b e=>by
  by_cases hi:i<(Bx.m AO (Z a)::bs).length
  ·rw[ZO (by simpa using hi),Zp]at e;cases q:(Bx.m AO (Z a)::bs)[i]? with
   |none=>rw[q]at e;cases e
   |some t=>rw[q]at e;simpa using e
  ·rw[qv (by simp at hi ⊢;omega),QQ]at e;split at e<;>cases e
 have s:∀(i:Nat) b,((Bx.m AO (Z a)::bs).map Z++List.replicate (N.length-(bs.length+1)) Y)[i]?=Z (Z b)->i≠0->loose b=false:=λi b e hi=>by
  have e2:=get i b e;cases i with
  |zero=>exact absurd Δ hi
  |succ j=>
   rw[ZZ]at e2;have:=List.all_eq_true.mp l b (QI e2);cases b<;>first|rfl|cases this
 have g:∀c,uV c=true->loose c=true:=λc d=>by cases c<;>first|rfl|cases d
 have zero:∀(i:Nat) c,((Bx.m AO (Z a)::bs).map Z++List.replicate (N.length-(bs.length+1)) Y)[i]?=Z (Z c)->loose c=true->i=0:=λi c e d=>by
  by_cases hi:i=0
  ·exact hi
  ·rw[s i c e hi]at d;cases d
 have st:∀i v,(Value.ref a=Value.ref a)->(V.ref a::AS)[i]?=Z v->(L2.start N (.ref a::AS))[i]?=Z (Z v):=λi v _ e=>by
  have hi:i<(V.ref a::AS).length:=(List.getElem?_eq_some_iff.mp e).1;unfold L2.start;rw[ZO (by simpa using hi),Zp,e];rfl
 refine⟨by unfold L2.start;simp[n],λi b e=>?_,λi j c x b e1 f _ e3 hb _=>?_,λb o e=>?_,λi c x e f e2=>?_⟩
 ·obtain⟨v,e1,r1⟩:=Gq r2 (get i b e);exact⟨v,st i v Δ e1,r1⟩
 ·rw[zero i c e1 (g c f),zero j b e3 hb]
 ·by_cases hb:b=a
  ·subst hb;rw[VD]at e;cases e
  ·rw[VB hb]at e;exact e
 ·have hi:=zero i c e (g c f);subst hi;rw[st 0 (.ref a) Δ rfl]at e2;cases e2;exact VD
theorem XA{st:AB}{f:A1}{k m:Nat}(F:Cc K x qual st f fd)(S:bC N ps (aO st))(z:N.length=n)(t:ps.length=m+1)(y:∀(c:A0) (A:A5) (outer:U Env) (s:A2) (H:Hp) (E:XK),nY k (A.deeper (AK qual (aO st) s.heap.objs.size f c))->WT (Ez K4 P w K mg base N qual (aO st) f c A outer s H E).nox (jB st) g):
  u6 P w K mg base K4 (k+1) f fd ps (ET K m (Qm n g)):=by
 subst z;refine F.ok S (λvs H Q E h=>by rw[t];exact h.1) λc A outer s H vs Q E i h=>?_;obtain⟨D,a,ks,AO,AS,bs,C,rfl,ha,p,u,l,e,q⟩:=h;refine⟨_,(y c A outer s H E i).run,?_⟩;obtain⟨ρ,er,e0⟩:=Tt e;refine⟨CI H a,_,_,bQ.startM ha p u l,er,?_⟩;intro σ' H' d;obtain⟨v,ev,b,j,rfl,hb,o,B⟩:=d.val 0 _ e0;have:=B a rfl;subst this;exact q H' j d.base hb o
open Classical in
noncomputable def CJ(i n:Nat)(G:A1->U (AY×Dt)->U Bx->O (U (AY×Dt)))(fs:Ev->O (U Bx)):Ev->O Ap:=λρ=>match ρ[i]? with
 |some (Z (.m AO w))=>(fs ρ).bind λbs=>if h:bs.length=n/\bs.all DA=true/\∃b,∀a,G a AO bs=Z b then Z (.nx (ρ.set i (Z (.m (Classical.choose h.2.2) w))))else Y
 |_=>Y
theorem Tv{fs:Ev->O (U Bx)}{r:Ap}(h:CJ i n G fs ρ=Z r):∃AO w bs c,ρ[i]?=Z (Z (.m AO w))/\fs ρ=Z bs/\bs.length=n/\bs.all DA=true/\(∀a,G a AO bs=Z c)/\r=.nx (ρ.set i (Z (.m c w))):=by
 unfold CJ at h;split at h
 ·rename_i AO w e;obtain⟨bs,eb,h⟩:=AT h;split at h
  ·rename_i b;cases h;exact⟨AO,w,bs,_,e,eb,b.1,b.2.1,Classical.choose_spec b.2.2,rfl⟩
  ·cases h
 ·cases h
theorem cm{fs:Ev->O (U Bx)}{b:U (AY×Dt)}{w:O A1}{bs:U Bx}(e:ρ[i]?=Z (Z (.m AO w)))(eb:fs ρ=Z bs)(g:bs.length=n)(h:bs.all DA=true)(c:∀a,G a AO bs=Z b):CJ i n G fs ρ=Z (.nx (ρ.set i (Z (.m b w)))):=by
 unfold CJ;rw[e];simp only[eb,akz];have d:bs.length=n/\bs.all DA=true/\∃b,∀a,G a AO bs=Z b:=⟨g,h,b,c⟩;rw[dif_pos d];have:=Classical.choose_spec d.2.2 0;rw[c 0]at this;injection this with this;rw[<-this]
where akz {α β:Type} (a:α) (f:α->O β):(Z a).bind f=f a:=rfl
theorem bQ.aiB{H':Hp}{G:U (AY×Dt)}{w:O A1}{ks I:U (AY×V)}(E:bQ K H0 H σ ρ)(h:ρ[i]?=Z (Z (.m AO w)))(hs:σ[i]?=Z (Z (.ref a)))(ha:H a=Z (.dK ks))(X:AV (CI H a) H')(Q:H' a=Z (.dK I))(P:fK K H' G I)(M:∀b,w=Z b->b=a):
  bQ K H0 H' σ (ρ.set i (Z (.m G w))):=by
 have hi:i<ρ.length:=(List.getElem?_eq_some_iff.mp h).1;have hb:H0 a=Y:=E.new i _ a h Δ hs;have g:∀b u,b≠a->H b=Z u->H' b=Z u:=λb u C e=>X b u (by rw[VB C];exact e);have kp:Kp H H':=⟨λb xs e=>g b _ (o9 e ha (by intro z;cases z)) e,λb ob u e=>g b _ (o9 e ha (by intro z;cases z)) e⟩;refine⟨by rw[ky];exact E.len,λj B e=>?_,λj W c f B e1 D e2 e3 e4 S=>?_,λc o e=>?_,λj c f e1 D e2=>?_⟩
 ·rcases BA e with⟨rfl,e',_⟩|⟨C,e'⟩
  ·cases e';exact⟨_,hs,a,I,rfl,Q,P,M⟩
  ·obtain⟨v,e1,y⟩:=E.val j B e';refine⟨v,e1,?_⟩;have A:∀f,v=.ref f->loose B=true->f≠a:=λf ev J z=>by
    subst z;exact C (E.own i j _ _ _ h Δ hs e' J (by rw[e1,ev])).symm
   cases B with
   |z d=>exact AW.kp kp y
   |l F=>
    obtain⟨f,p,rfl,q,s⟩:=y;have x:=A f Δ rfl;exact⟨f,p,rfl,q.imp (g _ _ x) λ⟨o,q⟩=>⟨o,g _ _ x q⟩,s.kp kp⟩
   |o F=>
    obtain⟨f,p,rfl,q,s⟩:=y;exact⟨f,p,rfl,g _ _ (A f Δ Δ) q,s.kp kp⟩
   |n F=>
    obtain⟨f,p,rfl,q,s⟩:=y;have x:=A f Δ rfl;exact⟨f,p,rfl,q.imp (g _ _ x) λ⟨o,q⟩=>⟨o,g _ _ x q⟩,s.kp kp⟩
   |m F _=>
    obtain⟨f,p,rfl,q,s,N⟩:=y;exact⟨f,p,rfl,g _ _ (A f Δ Δ) q,s.kp kp,N⟩
 ·have back:∀{j:Nat} {c:Bx},(ρ.set i (Z (.m G w)))[j]?=Z (Z c)->∃t,ρ[j]?=Z (Z t)/\(uV c=true->uV t=true)/\(loose c=true->loose t=true):=λ{j c} e=>by
   rcases BA e with⟨rfl,e',_⟩|⟨_,e'⟩
   ·exact⟨_,h,λ_=>Δ,λ_=>Δ⟩
   ·exact⟨c,e',id,id⟩
  obtain⟨t,p1,p2,_⟩:=back e1;obtain⟨b2,q1,_,L⟩:=back e3;exact E.own j W t f b2 p1 (p2 D) e2 q1 (L e4) S
 ·have e2:=E.base c o e;exact g c o (λz=>by subst z;rw[hb]at e;cases e) e2
 ·rcases BA e1 with⟨rfl,e',_⟩|⟨_,e'⟩
  ·exact E.new _ _ f h Δ e2
  ·exact E.new j c f e' D e2
section
variable{fs:Ev->O (U Bx)}{p px spos:Pos}{k:Nat}{f:A1}
theorem VF(i:Nat)(F:u6 X.prog X.w X.K X.mg X.base K4 k f fd ps (ET X.K n G))(u:nY k X.A)(hg:Gl X x)(L:X.mg x=Z (.ref f))(s:keepIn X.K (.ref f)=true)(hb:BT X.K fd ps [])
  (ha:WQ X es fs) (B:X.N[i]?=Z y:=by rfl) (l:Yk X.env.scope y:=by first|exact kc rfl|exact jv (kc Δ)|exact jv (jv Δ)) (m:(y==("__debug__":AJ))=false:=by decide)
  (o:(y==("__classdict__":AJ))=false:=by decide) (P:(x==("__debug__":AJ))=false:=by decide) (he:A9 (.Name y px::es) X.env=(false,eval (.Name y px) X.env)::A9 es X.env:=by rfl) (W:(AD pos (A9 es X.env)).any (·.1)=false:=by rfl) (hs:swapsWith (.Call (.Name x p) (.Name y px::es) [] pos) Y spos.line X.env=pure false:=by rfl):
  Ou X (.Expr (.Call (.Name x p) (.Name y px::es) [] pos) spos) (CJ i n G fs):=⟨Va (KJ (U4 F u hg L s hb .nil Mo (jk (uY (i:=i) B l m o) ha.run he) P he W) hs) λD σ H h=>by
 obtain⟨H0,ρ,r,E,e,q⟩:=h;obtain⟨AO,w,bs,C,c,eb,g,j,I,rfl⟩:=Tv e;obtain⟨v,e1,a,ks,rfl,z,J,t⟩:=E.val i _ c;refine⟨_,e1,H0,ρ,bs,E,eb,λvs H1 b r1=>?_⟩;have d:=b _ _ z;refine⟨by simp only[ZU,qk];rw[<-Paired.length r1,g],a,ks,AO,vs,bs,C,by simp,d,J.kp (.of b),r1,j,I a,λH' a0 S M Q=>?_⟩;exact q σ H' ((E.grow b).aiB c e1 d S M Q t)⟩
end
def DB:O Bool->Bool
 |some true=>true
 |_=>false
def EO(x:Dt)(ys:U Dt):O Bool:=if(ys.all λy=>(zp y x).isSome&&decide (min (wF y) (wF x)<=60))=true then Z (ys.any λy=>DB (zp y x))else Y
def ES(a b:Bx):O Bx:=match a with
 |.z d=>(vJ b).bind λys=>(EO d ys).bind λk=>Z (.z (.bl (!k)))
 |_=>Y
theorem LP(I:L2.AU X AN σ H s)(D:X.A.units+100<cLine){x:V}(t:AW X.K H d x)(C:As x u){ys:U Dt}(rs:aK X.K H ys vs)(m:AX vs AQ){k:Bool}(f:EO d ys=Z k):
  ∃e:A0->Bool,(∀y,y∈AQ->SeqAt.EqAt X.A.in1 s y u (e y))/\AQ.any e=k:=by
 unfold EO at f;split at f
 ·rename_i p;injection f with f;rw[qB]at p;have at_:∀(i:Nat) y,AQ[i]?=Z y->∃c,ys[i]?=Z c/\SeqAt.EqAt X.A.in1 s y u (DB (zp c d)):=λi y g=>by
   have w:=m.length;have z:=rs.length;have hi:i<AQ.length:=(List.getElem?_eq_some_iff.mp g).1;have a:i<ys.length:=by omega
   obtain⟨v,ev,r1⟩:=rs.get (show ys[i]?=Z ys[i] by simp[a]);obtain⟨E,o,r2⟩:=m.get ev;rw[g]at o;cases o;refine⟨ys[i],by simp[a],?_⟩;have l:=p ys[i] (KL a);rw[ZY]at l;obtain⟨b,hb⟩:=Option.isSome_iff_exists.mp l.1;have:=MM I 60 (A:=X.A.in1) (Jn l.2) (by rw[units_in1];omega) r1 t r2 C hb;rw[hb];cases b<;>exact this
  classical
  refine⟨λy=>decide (∃(i:Nat) (c:Dt),AQ[i]?=Z y/\ys[i]?=Z c/\DB (zp c d)=true),λy g=>?_,?_⟩
  ·dsimp only;by_cases q:∃(i:Nat) (c:Dt),AQ[i]?=Z y/\ys[i]?=Z c/\DB (zp c d)=true
   ·rw[ZA q];obtain⟨i,c,h1,h2,j⟩:=q;obtain⟨F,e1,e2⟩:=at_ i y h1;rw[h2]at e1;cases e1;rw[j]at e2;exact e2
   ·rw[ZH q];obtain⟨i,hi,n⟩:=Q3 g;have h1:AQ[i]?=Z y:=by rw[Zl hi,n]
    obtain⟨c,e1,e2⟩:=at_ i y h1;have:DB (zp c d)=false:=by
     cases B:DB (zp c d)with
     |false=>rfl
     |true=>exact absurd ⟨i,c,h1,e1,B⟩ q
    rw[this]at e2;exact e2
  ·rw[<-f,JI,JU,JU];constructor
   ·rintro⟨y,g,h⟩;obtain⟨i,c,h1,h2,j⟩:=Jn h;exact⟨c,QI h2,j⟩
   ·rintro⟨c,l,j⟩;obtain⟨i,hi,n⟩:=Q3 l;have w:=m.length;have z:=rs.length;have a:i<AQ.length:=by omega
    exact⟨AQ[i],KL a,ZA ⟨i,c,by simp[a],by rw[Zl hi,n],j⟩⟩
 ·cases f
theorem aE(m:X.A.units+100<cLine):Fg X (AG .NotIn) ES:=by
 intro AN s σ H x y v u Q I j t h;obtain⟨a,b,c,n,B,e,q⟩:=h;unfold ES at e;split at e
 ·rename_i d;obtain⟨ys,o,e⟩:=AT e;obtain⟨k,ek,e⟩:=AT e;cases e;obtain⟨p,vs,rfl,sq,l⟩:=Lz B o;cases t;rcases sq with sq|sq
  ·obtain⟨AQ,g,pl,z⟩:=I.list sq;obtain⟨f,f1,f2⟩:=LP I m n j l g ek;refine SeqAt.notIn_listAt f pl.isList (λw i=>f1 w (by simpa using i)) ⟨.bl (!k),H,I,by rw[show AQ.toArray.any f=AQ.any f by simp,f2];rfl,q _ H (AV.refl H) trivial (by simp only[bh,AW])⟩
  ·obtain⟨AQ,g,pl,z⟩:=I.tuple sq;obtain⟨f,f1,f2⟩:=LP I m n j l g ek;refine SeqAt.notIn_tupleAt f pl (λw i=>f1 w (by simpa using i)) ⟨.bl (!k),H,I,by rw[show AQ.toArray.any f=AQ.any f by simp,f2];rfl,q _ H (AV.refl H) trivial (by simp only[bh,AW])⟩
 ·cases e
section
variable{st:U AB}
end
open AutoSeq1 (wpAny_loadPart')
open SeqAt
section
variable{o:Expr}{fx:Ev->O Bx}
end
section
variable{t:Ev->O Bool}
def Xv(t:Ev->O Bool)(g:Ev->O Ap):Nat->Ev->O Ap
 |0,_=>Y
 |n+1,ρ=>(t ρ).bind λb=>if b=true then(g ρ).bind λr=>match r with
  |.nx ρ'=>Xv t g n ρ'
  |.ct ρ'=>Xv t g n ρ'
  |.bk ρ'=>Z (.nx ρ')
  |.rt b=>Z (.rt b)
  else Z (.nx ρ)
theorem Nc(n:Nat)(hp:PassesOwn (A8 X.prog X.w) X.A X.env X.xe)(l:PB X c t)(hb:Yl X body g):GS X (.While c body [] pos) (Xv t g n):=
 Va (YB hp l hb) λD σ H q=>by
  obtain⟨H0,ρ,r,E,e,f⟩:=q;refine⟨λm σ H=>∃H0 ρ r,bQ X.K H0 H σ ρ/\Xv t g m ρ=Z r/\R6 X.K H0 D r,⟨n,H0,ρ,r,E,e,f⟩,?_⟩;rintro m σ H ⟨H0,ρ,r,E,e,f⟩;cases m with
  |zero=>cases e
  |succ m=>
   obtain⟨b,eb,e⟩:=AT e;refine⟨H0,ρ,b,E,eb,λH1 j=>?_⟩;cases b with
   |false=>
    rw[zC (by decide)]at e ⊢;cases e;exact f σ H1 (E.grow j)
   |true=>
    rw[zo rfl]at e ⊢;obtain⟨h,er,e⟩:=AT e;refine⟨λσ' H'=>∃i,i<m+1/\∃H0 ρ r,bQ X.K H0 H' σ' ρ/\Xv t g i ρ=Z r/\R6 X.K H0 D r,λσ' H' z=>z,H0,ρ,h,E.grow j,er,?_⟩;cases h with
    |nx d=>exact λσ' H' a=>⟨m,qc m,H0,d,r,a,e,f⟩
    |ct d=>exact λσ' H' a=>⟨m,qc m,H0,d,r,a,e,f⟩
    |bk d=>cases e;exact λσ' H' a=>f σ' H' a
    |rt b=>cases e;exact f
theorem Qn(n:Nat)(hp:PassesOwn (A8 X.prog X.w) X.A X.env X.xe)(a:QB X c t)(hb:WT X body g):Ou X (.While c body [] pos) (Xv t g n):=⟨Nc n hp a.run hb.run⟩
end
section
variable{h':A6}
theorem OH{t':Nat}{e:A1}(I:L2.AU X AN σ H s)(k:∀b o,b≠e->b≠it->s.heap.get? b=Z o->h'.get? b=Z o)(fe:rN X AN H e)(fi:rN X AN H it)(he:∃o,h'.get? e=Z o)(hi:∃o,h'.get? it=Z o)(new:gR X.prog X.w (B5 H s.heap.objs.size (.tup xs)) h' s.heap.objs.size (.tup xs)):L2.AU X AN σ (B5 H s.heap.objs.size (.tup xs)) { s with heap:=h',toks:=t' }:=by
 have g:H s.heap.objs.size=Y:=I.hok.fresh (zk _);have f:∀b u,H b=Z u->b≠s.heap.objs.size:=λb u q z=>by rw[z,g]at q;cases q
 have ne:∀b u,H b=Z u->b≠e/\b≠it:=λb u q=>⟨λz=>(by rw[z,fe.1]at q;cases q),λz=>(by rw[z,fi.1]at q;cases q)⟩;have d:∀b,b∉[e,it]->b≠e/\b≠it:=λb hb=>⟨λz=>hb (by simp[z]),λz=>hb (by simp[z])⟩;refine I.step (g':=s.gens) (d':=s.drawn) (ch:=[e,it]) (λb hb=>?_) (λb o _ _ a q _=>k b o (d b a).1 (d b a).2 q) (λb o _ _ a q _=>⟨o.slots,k b o (d b a).1 (d b a).2 q⟩) (λb o _ q n=>?_)
  (λb o a q=>⟨o,k b o (d b a).1 (d b a).2 q⟩) (λb ys q=>?_) (λb o u q=>?_) (λb ps q=>⟨#[],?_⟩) (λm h=>?_) (λb u q=>?_) I.bare
 ·rcases List.mem_cons.mp hb with rfl|hb
  ·exact⟨fe.2.2.2.1,fe.2.1,fe.2.2.2.2.1,fe.2.2.2.2.2⟩
  ·cases List.mem_singleton.mp hb;exact⟨fi.2.2.2.1,fi.2.1,fi.2.2.2.2.1,fi.2.2.2.2.2⟩
 ·rw[aR (z4 (zD q))];exact n
 ·rw[aR (f b _ q)];exact q
 ·rw[aR (f b _ q)];exact q
 ·rw[aR (f b _ q),q];simp
 ·obtain⟨o,es,ep,ho,r⟩:=h;exact⟨o,es,ep,k _ o (Kj fe.2.1) (Kj fi.2.1) ho,r⟩
 ·by_cases hb:b=s.heap.objs.size
  ·subst hb;rw[bJ]at q;cases q;exact new
  ·rw[aR hb]at q;refine(I.hok b u q).stay (λc v a w=>k c v ?_ ?_ w) (λc w=>?_) λc ys w=>?_
   ·rcases a with rfl|z
    ·exact(ne _ _ q).1
    ·exact(ne _ _ z).1
   ·rcases a with rfl|z
    ·exact(ne _ _ q).2
    ·exact(ne _ _ z).2
   ·rw[aR (f c _ w)];exact w
   ·rw[aR (f c _ w)];exact w
end
section
variable{p:Pos}{fs:Ev->O (U Bx)}
end
def EJ(j i:Nat)(f:Ev->O Bx):Ev->O Ap:=λρ=>(f ρ).bind λb=>match b with
 |.z (.int k)=>match ρ[i]? with
  |some (Z (.o ds))=>if -(2 ^ 62)<=k/\k<2 ^ 62 then(seqIndex? k ds.length).bind λm=>(ds[m]?).bind λd=>(WW (ρ.set i (Z (.o (ds.eraseIdx m)))) j (.z d)).bind λa=>Z (.nx a)else Y
  |_=>Y
 |_=>Y
theorem Gu{K:B0}{H:Hp}:∀(m:Nat) {ds:U Dt} {vs:U V},aK K H ds vs->aK K H (ds.eraseIdx m) (vs.eraseIdx m)
 |m,[],vs,h=>by
  cases vs with
  |nil=>exact h
  |cons v vs=>have:=h.length;simp at this
 |m,d::ds,vs,h=>by
  cases vs with
  |nil=>have:=h.length;simp at this
  |cons v vs=>
   obtain⟨a,r,e,q,t⟩:∃a r,v::vs=a::r/\AW K H d a/\aK K H ds r:=by
    simpa only[aK]using h
   cases e;cases m with
   |zero=>exact t
   |succ m=>exact aK.cons q (Gu m t)
theorem al(j i:Nat){p:Pos}(P:X.N.Nodup)(he:PV X e f)(I:X.N[i]?=Z x:=by rfl)(t:Yk X.env.scope x:=by first|exact kc rfl|exact jv (kc Δ)|exact jv (jv Δ))(A:(x==("__debug__":AJ))=false:=by decide)(B:(x==("__classdict__":AJ))=false:=by decide)(n:A9 [e] X.env=[(false,eval e X.env)]:=by rfl)(J:attributeBase (.Name x p) "pop" X.env (eval (.Name x p) X.env)=eval (.Name x p) X.env:=by rfl)(a0:((AD cpos (A9 [e] X.env)).all (λx=>!x.1)&&(backToKw cpos (keywordEach [] X.env)).all (λx=>x.1.isSome)
   && decide ([e].length+([]:U AC).length+(if([]:U AC).isEmpty then 0 else 1)<30))=true:=by rfl)(W:(apos.endLine==cpos.line)=true:=by rfl)(S:X.N[j]?=Z y:=by rfl)(M:Co X.env.scope y:=by first|exact kc rfl|exact jv Δ)(hs:swapsWith (.Call (.Attribute (.Name x p) "pop" apos) [e] [] cpos) (Z (.Name y p2)) pos.line X.env=pure false:=by rfl)(hf:X.fn y=true\/X.env.scope.names.lookup y=Z .local:=by first|exact .inl rfl|exact .inr Δ):
  GS X (.Assign [.Name y p2] (.Call (.Attribute (.Name x p) "pop" apos) [e] [] cpos) pos) (EJ j i f):=
 Va (Yz P S M (YT PySem.F.plainAttrs_list PySem.F.slot_list_pop PySem.F.type_list_pop YX (uY (i:=i) I t A B) (jk he tB (by rw[n]<;>rfl)) J a0 W (by rw[n]<;>rfl) Δ) hs hf) λD σ H h=>by
  obtain⟨H0,ρ,r,E,e,q⟩:=h;obtain⟨b,eb,e⟩:=AT e;split at e
  ·rename_i k;split at e
   ·rename_i ds o;split at e
    ·rename_i hb;obtain⟨m,G,e⟩:=AT e;obtain⟨d,L,e⟩:=AT e;obtain⟨a1,C,e⟩:=AT e;cases e;obtain⟨v,e1,a,vs,rfl,ha,l⟩:=E.val i _ o;refine⟨_,e1,.inl ⟨rfl,vs,.inl (.inl ha)⟩,H0,ρ,_,E,eb,λu H1 c n1 r1=>?_⟩;have E1:=E.grow c;have rs1:=l.kp (.of c);obtain⟨w,ew,Q⟩:=rs1.get L;have s:u=.int k:=by simpa only[bh,AW]using r1
     subst s;have g:=c _ _ ha;refine⟨a,vs,k,m,w,rfl,rfl,g,by omega,by omega,by rw[l.length];exact G,ew,?_⟩;have K:=E1.YW o e1 g (Gu m rs1);have kp:Kp H1 (B5 H1 a (.lst (vs.eraseIdx m))):=.lst g;exact q _ _ (Vc K (AV.refl _) (b:=.z d) (by simp only[bh];exact AW.kp kp Q) trivial C)
    ·cases e
   ·cases e
  ·cases e
theorem OW(j i:Nat){p:Pos}(c:X.N.Nodup)(he:QV X e f)(g:X.N[i]?=Z x:=by rfl)(m:Yk X.env.scope x:=by first|exact kc rfl|exact jv (kc Δ)|exact jv (jv Δ))(q:(x==("__debug__":AJ))=false:=by decide)(s:(x==("__classdict__":AJ))=false:=by decide)(o:A9 [e] X.env=[(false,eval e X.env)]:=by rfl)(n:attributeBase (.Name x p) "pop" X.env (eval (.Name x p) X.env)=eval (.Name x p) X.env:=by rfl)(l:((AD cpos (A9 [e] X.env)).all (λx=>!x.1)&&(backToKw cpos (keywordEach [] X.env)).all (λx=>x.1.isSome)
   && decide ([e].length+([]:U AC).length+(if([]:U AC).isEmpty then 0 else 1)<30))=true:=by rfl)(a:(apos.endLine==cpos.line)=true:=by rfl)(h:X.N[j]?=Z y:=by rfl)(b:Co X.env.scope y:=by first|exact kc rfl|exact jv Δ)(hs:swapsWith (.Call (.Attribute (.Name x p) "pop" apos) [e] [] cpos) (Z (.Name y p2)) pos.line X.env=pure false:=by rfl)(d:X.fn y=true\/X.env.scope.names.lookup y=Z .local:=by first|exact .inl rfl|exact .inr Δ):
  Ou X (.Assign [.Name y p2] (.Call (.Attribute (.Name x p) "pop" apos) [e] [] cpos) pos) (EJ j i f):=
 ⟨al j i c he.run g m q s o n l a h b hs d⟩
section
variable{ek ev:Expr}{st:AB}
def FE:Ev->O Ap:=λ_=>Y
theorem VG:Ou X st FE:=⟨λD AN s σ H I q=>by
 obtain⟨H0,ρ,r,E,e,q⟩:=q;cases e⟩
def Gv(f:Ev->O Bx):Ev->O Ap:=λρ=>(f ρ).bind λ_=>Z (.nx ρ)
theorem Eo(he:QV X e f)(hs:swapsWith e Y pos.line X.env=pure false:=by rfl):Ou X (.Expr e pos) (Gv f):=⟨Va (KJ he.run hs) λD σ H h=>by
 obtain⟨H0,ρ,r,E,e,q⟩:=h;obtain⟨b,eb,e⟩:=AT e;cases e;exact⟨H0,ρ,b,E,eb,λv H1 a c r1=>q _ _ (E.grow a)⟩⟩
def J5:Bx->Bx->O Bx
 |.z (.str x),.z d=>Z (.m [(.inr x,d)] Y)
 |_,_=>Y
theorem Tw{a c:Bx}(h:J5 a b=Z c):∃x d,a=.z (.str x)/\b=.z d/\c=.m [(.inr x,d)] Y:=by
 unfold J5 at h;split at h
 ·cases h;exact⟨_,_,rfl,rfl,rfl⟩
 ·cases h
theorem Sf(n:QV X ek fk)(m:QV X ev fv):QV X (.Dict [Z ek] [ev] pos) (b2 J5 fk fv):=⟨Dk (O3 (Y6 n.run m.run Yf) Δ Δ (by simp) (Zs Δ)) λσ H Q h=>by
 obtain⟨H0,ρ,c,E,e,q⟩:=h;obtain⟨a,ea,e⟩:=AT e;obtain⟨b,eb,e⟩:=AT e;intro p hp;have f:AV H (B5 H p (.dK [])):=bV hp;refine⟨H0,ρ,a,E.grow f,ea,λv H1 g s r1=>⟨H0,ρ,b,(E.grow f).grow g,eb,λw H2 j t r2=>?_⟩⟩;obtain⟨x,d,rfl,rfl,rfl⟩:=Tw e;obtain⟨rfl,hx⟩:v=.str x/\x.length<=AA:=by simpa only[bh,AW]using r1
 have i:H2 p=Z (.dK []):=j _ _ (g _ _ bJ);have kp:Kp H2 (B5 H2 p (.dK (Bb [] [(Sum.inr x,w)]))):=.dk i;refine⟨i,[(Sum.inr x,w)],rfl,Zs rfl,q _ _ ?_ (λa ea=>by cases ea;exact hp) ⟨p,_,rfl,bJ,?_,λb h=>by cases h⟩⟩
 ·intro b o hb;have l:b≠p:=λz=>by rw[z,hp]at hb;cases hb
  rw[aR l];exact j _ _ (g _ _ (f _ _ hb))
 ·exact fK.cons (p:=(Sum.inr x,d)) (AW.kp kp r2) hx fK.nil⟩
def Fk(AO:U (AY×α))(x:AY):Bool:=AO.any λa=>decide (a.1=x)
def Xw(a:Bx):Bx->O Bx
 |.n AO=>(Cf a).bind λx=>Z (.z (.bl (!Fk AO x)))
 |_=>Y
theorem fK.akA{p:A1}{ks:U (AY×V)}(a:Rd H p (.dK ks))(b:fK K H AO ks)(x:AY):∃o,Y0 H p (kV x) o/\o.isSome=Fk AO x:=by
 refine⟨Az ks x,.inl ⟨ks,x,a,rfl,rfl⟩,?_⟩;unfold Fk Az;rw[<-b.any,Option.isSome_map,JI,List.find?_isSome,JU]
theorem VH(t:X.A.units+100<cLine):Fg X (AG .NotIn) Xw:=by
 intro AN s σ H x y v u Q I d f h;obtain⟨a,b,c,m,j,e,q⟩:=h;unfold Xw at e;split at e
 ·rename_i AO;obtain⟨k,ek,e⟩:=AT e;cases e;obtain⟨p,ks,rfl,n,i⟩:=j;obtain⟨rfl,_⟩:=Ls ek m;cases f;obtain⟨o,g,ho⟩:=i.akA n k;exact OK (by omega) I g d λs' l=>⟨.bl (!o.isSome),H,l,rfl,q _ H (AV.refl H) trivial (by simp only[bh,AW];rw[ho])⟩
 ·cases e
end
section
variable{st:Expr}{fs:Ev->O Bx}
def Xx(a b:Bx):O Bx:=(rO a).bind λds=>match b with
 |.z (.int i)=>if i = -1 then Z (.o ds.reverse)else Y
 |_=>Y
theorem Xy{a c:Bx}(h:Xx a b=Z c):∃ds,rO a=Z ds/\b=.z (.int (-1))/\c=.o ds.reverse:=by
 unfold Xx at h;obtain⟨ds,d,h'⟩:=AT h;clear h;split at h'
 ·split at h'
  ·rename_i hi;subst hi;injection h' with h';exact⟨ds,d,rfl,h'.symm⟩
  ·cases h'
 ·cases h'
theorem adw(he:QV X e f)(C:QV X st fs)(D:∀v i:A0,subscripted (.Slice Y Y (Z st) p2) false v i=operate [v,i] (getItem v i):=by intro _ _;with_unfolding_all rfl):QV X (.Subscript e (.Slice Y Y (Z st) p2) pos) (b2 Xx f fs):=by
 refine⟨?_⟩;intro AN s σ H Q I h;obtain⟨H0,ρ,c,E,g,q⟩:=h;obtain⟨a,ea,g⟩:=AT g;obtain⟨b,eb,g⟩:=AT g;refine Subscript_ (ji (he.run AN s σ H (λx H1=>AV H H1/\bh X.K H1 a x) I ⟨H0,ρ,a,E,ea,λv H1 m J r1=>⟨m,r1⟩⟩) λv m ⟨x,H1,I1,r1,sm1,BN⟩=>?_);refine wpAny_Slice ?_;rw[evalPart_none];refine zg ?_;refine zg ?_;rw[evalPart_some];refine ji (C.run AN m σ H1 (λy H2=>AV H1 H2/\bh X.K H2 b y) I1 ⟨H0,ρ,b,E.grow sm1,eb,λv H2 d L r2=>⟨d,r2⟩⟩) λvk d ⟨y,H2,I2,r2,sm2,F2⟩=>?_;obtain⟨ds,G,rfl,rfl⟩:=Xy g;have u:y=.int (-1):=by simpa only[bh,AW]using F2
 subst u;obtain⟨tk,rfl⟩:=r2;obtain⟨p,vs,rfl,sq,B⟩:=(BN.same sm2).Ie G;cases r1;have j:L2.AU X AN σ H2 { d with heap:=d.heap.push { cls:=.type "slice",data:=.fields #[.none,.none,.int (-1) tk] } }:=I2.kept (t':=d.toks) λb F q=>ze _ q;obtain⟨AQ,r,t,n⟩:=j.list sq;show A7 (A8 X.prog X.w) X.A (subscriptTail e (.Slice Y Y (Z st) p2) (.ref p) (.ref d.heap.objs.size)) (EP X AN σ Q) X.xe { d with heap:=d.heap.push { cls:=.type "slice",data:=.fields #[.none,.none,.int (-1) tk] } };refine tail_any (ops:=[.ref p,.ref d.heap.objs.size]) t.isList.typeIs list_getitem_lookup (wpAny_getItem_list_slice t.isList (Heap.IsSliceOf.new ..) .none .none (.int _ _) (by decide) ?_ (by rw[zS,<-r.length];exact n)) (D _ _);rw[PySem.W.krv_pick];have l:=j.hok.fresh (zk _);refine⟨.ref _,_,j.laid (t':=d.toks) (o:=.lst vs.reverse) (λb F q=>ze _ q) (zk _) ?_,rfl,q _ _ ((sm1.trans sm2).trans (bV l)) (λa z=>by cases z;exact(sm1.trans sm2).free l) ?_⟩
 ·exact⟨by rw[List.length_reverse];exact n,AQ.reverse,0,r.reverse,zv _ rfl⟩
 ·exact⟨_,_,rfl,bJ,(aK.rev B).kp (.of (bV l))⟩
end
theorem VW{t:A1}{xs:Array A0}{x:A0}{Q:B8}(hi:s.heap.IsTupleIter it t i)(b:s.heap.IsTuple t xs)(hx:xs[i]?=Z x)(c:∀h',h'.IsTupleIter it t (i+1)->Heap.SameBut it s.heap h'->Q x { s with heap:=h' }):A7 (A8 prog w) A (Builtin.SmallTypes.nextOf (.ref it)) Q E s:=by
 obtain⟨o,ho,e,a⟩:=id hi;obtain⟨p,hp,_,n,d⟩:=b;unfold Builtin.SmallTypes.nextOf;refine zd (js (name:=Str.ofString "__next__") hi.typeIs kT (Q2 kT hi.typeIs F.entry_tuple_iterator_next ?_ (F.args_tuple_iterator_next_1 _)));show A7 _ _ (field (.ref it) 0 >>= _) _ _ s;refine zd (j3 ho a (x:=.ref t) Δ ?_);show A7 _ _ (if(Value.ref t==Value.none)=true then _ else _) _ _ s;rw[zC (show ¬ ((Value.ref t==Value.none)=true) from ZE)];show A7 _ _ (field (.ref it) 1 >>= _) _ _ s;refine zd (j3 ho a (x:=.int i 0) Δ ?_);show A7 _ _ (seqItems? (.ref t) >>= _) _ _ s;refine zd (K2 hp d ?_);simp only[kM,hx];refine zd (wpAny_setField ho a (by simp) (zg ⟨x,rfl,zg (c _ ?_ (KW ..))⟩));exact⟨_,kK _ ho (Obj.isFreed_of_fields (kq a _)),(Obj.cls_mapFields ..).trans e,by rw[kq a];simp[rawInt]⟩
theorem Tz{t:A1}{xs:Array A0}{Q:B8}(c:A.handled=Y)(hi:s.heap.IsTupleIter it t i)(d:s.heap.IsTuple t xs)(hx:xs[i]?=Y)(g:∀h' e,Heap.ExtBut it s.heap h'->(∃o,h'.get? e=Z o/\o.cls=.type "StopIteration")->E (.ref e) { s with heap:=h' }):A7 (A8 prog w) A (Builtin.SmallTypes.nextOf (.ref it)) Q E s:=by
 obtain⟨o,ho,h,b⟩:=id hi;obtain⟨p,hp,_,n,f⟩:=d;unfold Builtin.SmallTypes.nextOf;refine zd (js (name:=Str.ofString "__next__") hi.typeIs kT (Q2 kT hi.typeIs F.entry_tuple_iterator_next ?_ (F.args_tuple_iterator_next_1 _)));show A7 _ _ (field (.ref it) 0 >>= _) _ _ s;refine zd (j3 ho b (x:=.ref t) Δ ?_);show A7 _ _ (if(Value.ref t==Value.none)=true then _ else _) _ _ s;rw[zC (show ¬ ((Value.ref t==Value.none)=true) from ZE)];show A7 _ _ (field (.ref it) 1 >>= _) _ _ s;refine zd (j3 ho b (x:=.int i 0) Δ ?_);show A7 _ _ (seqItems? (.ref t) >>= _) _ _ s;refine zd (K2 hp f ?_);simp only[kM,hx];refine zd (kN (zd (wpAny_setField ho b (by simp) ?_)));show A7 _ _ (newExc (.type "StopIteration") [] >>= _) _ _ _;refine zd ?_;simp only[newExc,newTuple];refine zd (qo ?_ (by size_fits));refine zd (m:=firstArgMember _ _) (wpAny_of_eq (a:=Value.none) (by first|rfl|(simp only[firstArgMember];rfl)) ?_);refine qo ?_ (by size_fits);simp only[raiseNew];refine zd (wpAny_handled ?_)
 first|rw[show A.in1.handled=Y from c]|rw[c]
 refine zd (zg (wpAny_throw ?_));exact g _ _ (((KW ..).extBut.push _).push _) ⟨_,zv _ rfl,rfl⟩
theorem ad{a b:Nat}(h:a≠b):@Ne A1 a b:=h
section
variable{K:Type} [DecidableEq K] {knd:KeyKind prog w K}
end
section
variable{ea eb:Expr}{p1 pos1 pos2:Pos}
end
theorem Dr(xs:An)(is:U Nat)(d:closureFor scope X.env=pure cl:=by with_unfolding_all rfl)(e:scope.kind=.function:=by rfl)(b:scope.names.all (λy=>decide (y.2≠.cell)||(cl.lookup y.1).isNone)=true:=by rfl)(c:scope.names.all (λy=>decide (y.2=.local->scope.names.lookup y.1=Z .local))=true:=by decide +kernel)(sub:C7 X.env.cells cl:=by repeat (first|exact trivial|refine⟨rfl,?_⟩))(has:(relabel scope X.env).names.all (λy=>!(y.2==.cell||y.2==.free)||(cl.lookup y.1).isSome||scope.names.contains (y.1,.cell))=true:=by rfl)(a:Ig X scope cl xs is:=by repeat (first|exact XG|refine ar Δ (by first|exact .inl rfl|exact .inr Δ) (by first|exact .inl rfl|exact .inr Δ) ⟨_,rfl⟩ ?_)):rT X scope cl xs is:=NS d e b c sub has a
theorem jE{a:Scope}(h1:a.kind=.function:=by rfl)(h2:a.isCoroutine=false:=by rfl)(c:a.isGenerator=false:=by rfl)(e:N.Nodup:=by decide +kernel)(f:N.take ps.length=ps:=by rfl)(d:∀x∈ps,a.names.lookup x=Z .local\/a.names.lookup x=Z .cell:=by decide +kernel)(b:∀y∈a.names,y.2≠.free:=by decide +kernel):bC N ps a:=⟨h1,h2,c,e,f,d,b⟩
instance:Inhabited Dt:=⟨.non⟩
theorem At(a:α)(f:α->O β):(Z a).bind f=f a:=(Option.bind_some a f).trans (Eq.refl _)
def hold:O Prop->Prop
 |none=>True
 |some p=>p
def bx:O Prop->O Prop->O Prop
 |none,q=>q
 |some p,Y=>Z p
 |some p,Z q=>Z (p/\q)
def Gw(c:Prop):O Prop->O Prop
 |none=>Y
 |some p=>Z (c->p)
theorem aB{p q:O Prop}(h:hold (bx p q)):hold p/\hold q:=by
 cases p with
 |none=>exact⟨trivial,h⟩
 |some p=>cases q with
  |none=>exact⟨h,trivial⟩
  |some q=>exact h
theorem lU{c:Prop}{p:O Prop}(h:hold (Gw c p))(a:c):hold p:=by
 cases p with
 |none=>trivial
 |some p=>exact h a
structure R {α β:Type} (f:Ev->Option β) (ρ:Ev) (c:α->β) where
 v:α
 D:Option Prop
 ok:hold D->f ρ=some (c v)
abbrev zE(e:α->Dt):α->Bx:=λa=>.z (e a)
abbrev oE(e:α->Dt):U α->Bx:=λxs=>.o (xs.map e)
abbrev lE(e:α->Dt):U α->Bx:=λxs=>.l (xs.map e)
abbrev tE:Bool->Bool:=λb=>b
abbrev iE(e:α->Dt):U α->U Dt:=λxs=>xs.map e
abbrev eI:Int->Dt:=Dt.int
abbrev eB:Bool->Dt:=Dt.bl
abbrev eS:AJ->Dt:=Dt.str
abbrev eD:Dt->Dt:=λd=>d
abbrev eN:Unit->Dt:=λ_=>.non
abbrev eL(e:α->Dt):U α->Dt:=λxs=>.lst (xs.map e)
abbrev eT(e:α->Dt):U α->Dt:=λxs=>.tup (xs.map e)
abbrev eO(e:α->Dt):O α->Dt:=λo=>match o with|none=>.non|some a=>e a
abbrev MT(a:α->Dt):α->Dt:=λx=>.tup [a x]
abbrev CO(a:α->Dt)(b:β->Dt):α×β->Dt:=λx=>.tup [a x.1,b x.2]
abbrev Cs(a:α->Dt)(b:β->Dt)(c:γ->Dt):α×β×γ->Dt:=λx=>.tup [a x.1,b x.2.1,c x.2.2]
abbrev Xz(a:α->Dt)(b:β->Dt)(c:γ->Dt)(d:δ->Dt):α×β×γ×δ->Dt:=λx=>.tup [a x.1,b x.2.1,c x.2.2.1,d x.2.2.2]
structure RL {α:Type} (f:Ev->Option Bx) (ρ:Ev) (e:α->Dt) where
 v:List α
 D:Option Prop
 b:Bx
 lk:rO b=some (v.map e)
 ok:hold D->f ρ=some b
section
variable{fs:Ev->O (U Bx)}{e:α->Dt}{e':β->Dt}
def kj(a:R f ρ (oE e)):RL f ρ e:=⟨a.v,a.D,_,rfl,a.ok⟩
def lV(a:R f ρ (lE e)):RL f ρ e:=⟨a.v,a.D,_,rfl,a.ok⟩
def GL(a:R f ρ (zE (eL e))):RL f ρ e:=⟨a.v,a.D,_,rfl,a.ok⟩
def Lp(b:Bx)(ds:U Dt):Prop:=b=.z (.lst ds)\/b=.l ds
theorem Lp.Ie(h:Lp b ds):rO b=Z ds:=by rcases h with rfl|rfl<;>rfl
theorem Lp.get{b:Bx}{ds:U Dt}{i:Nat}(h:Lp b ds)(hi:ρ[i]?=Z (Z b)):Bc ρ i=Z b:=by
 rcases h with rfl|rfl<;>(unfold Bc;rw[hi])
theorem CK(h:rO b=Z ds):Lp (P1.lend b) ds:=by
 cases b with
 |z d=>cases d<;>cases h;exact .inl rfl
 |l d=>cases h;exact .inr rfl
 |o d=>cases h;exact .inr rfl
 |n d=>cases h
 |m d _=>cases h
def ao(i:Nat)(c:α->Bx)(a:α)(h:Bc ρ i=Z (c a)):R (gv i) ρ c:=⟨a,Y,λ_=>h⟩
def pA(i:Nat)(e:α->Dt)(a:U α)(h:Lp b (a.map e))(hi:ρ[i]?=Z (Z b)):RL (gv i) ρ e:=⟨a,Y,b,h.Ie,λ_=>h.get hi⟩
def qP(d:Dt)(e:α->Dt)(a:α)(h:d=e a):R (cB d) ρ (zE e):=⟨a,Y,λ_=>by rw[h];rfl⟩
def J6(a:R f ρ (zE e)):R f ρ (zE eD):=⟨e a.v,a.D,a.ok⟩
def TF(a:R f ρ (zE e)):R f ρ (zE (eO e)):=⟨Z a.v,a.D,a.ok⟩
def II:R (cB .non) ρ (zE (eO e)):=⟨Y,Y,λ_=>Δ⟩
def J7[Inhabited α](a:R f ρ (zE (eO e))):R f ρ (zE e):=⟨a.v.getD default,bx a.D (Z (a.v.isSome=true)),λh=>by
 obtain⟨h1,h2⟩:=aB h;rw[a.ok h1];have h2:a.v.isSome=true:=h2;cases b:a.v with
 |none=>rw[b]at h2;cases h2
 |some x=>rfl⟩
def Hc(a:R f ρ (oE e)):R (b1 Bg f) ρ (zE (eL e)):=⟨a.v,a.D,λh=>by simp only[b1,a.ok h,At,Bg]⟩
def lW(a:R f ρ (zE e)):R (b1 Bg f) ρ (zE e):=⟨a.v,a.D,λh=>by simp only[b1,a.ok h,At,Bg]⟩
def oh(a:R fa ρ (zE eI))(b:R fb ρ (zE eI)):R (b2 iK fa fb) ρ (zE eI):=⟨a.v+b.v,bx a.D b.D,λh=>by
 obtain⟨h1,h2⟩:=aB h;simp only[b2,a.ok h1,b.ok h2,At,iK]⟩
def J8(a:R fa ρ (zE eI))(b:R fb ρ (zE eI)):R (b2 C5 fa fb) ρ (zE eI):=⟨a.v-b.v,bx a.D b.D,λh=>by
 obtain⟨h1,h2⟩:=aB h;simp only[b2,a.ok h1,b.ok h2,At,i2]⟩
def FI(a b:Int):Prop:=(-18446744073709551616<a/\a<18446744073709551616)\/(-18446744073709551616<b/\b<18446744073709551616)
def Mb(a:R fa ρ (zE eI))(b:R fb ρ (zE eI)):R (b2 zq fa fb) ρ (zE eI):=⟨a.v*b.v,bx (bx a.D b.D) (Z (FI a.v b.v)),λh=>by
 obtain⟨h,c⟩:=aB h;obtain⟨h1,h2⟩:=aB h;simp only[b2,a.ok h1,b.ok h2,At];exact zo c⟩
def TJ(n:Int)(a : -18446744073709551616<n/\n<18446744073709551616)(b:R fb ρ (zE eI)):R (b2 zq (cB (.int n)) fb) ρ (zE eI):=⟨n*b.v,b.D,λh=>by
 simp only[b2,b.ok h,At,cB];exact zo (.inl a)⟩
def VJ(a:R fa ρ (zE eI))(n:Int)(b : -18446744073709551616<n/\n<18446744073709551616):R (b2 zq fa (cB (.int n))) ρ (zE eI):=⟨a.v*n,a.D,λh=>by
 simp only[b2,a.ok h,At,cB];exact zo (.inr b)⟩
def Mj(a:R fa ρ (zE eI))(n:Int)(b:0<n/\n<1073741824):R (b2 O7 fa (cB (.int n))) ρ (zE eI):=⟨a.v / n,a.D,λh=>by
 simp only[b2,a.ok h,At,i2,cB,zo b]⟩
def Gx(a:R fa ρ (zE eI))(b:R fb ρ (zE eI)):R (b2 jY fa fb) ρ (zE eI):=⟨a.v%b.v,bx (bx a.D b.D) (Z (0<b.v)),λh=>by
 obtain⟨h,c⟩:=aB h;obtain⟨h1,h2⟩:=aB h;have c:0<b.v:=c;simp only[b2,a.ok h1,b.ok h2,At,i2,zo c]⟩
def fW(a:R fa ρ (zE eI))(n:Int)(b:0<n):R (b2 jY fa (cB (.int n))) ρ (zE eI):=⟨a.v%n,a.D,λh=>by
 simp only[b2,a.ok h,At,i2,cB,zo b]⟩
def SV(a b:Int)(n:Nat)(h:0<=b/\b<=1000/\a.natAbs<18446744073709551616)(hb:b.toNat=n):R (b2 HG (cB (.int a)) (cB (.int b))) ρ (zE eI):=⟨a ^ n,Y,λ_=>by
 simp only[b2,At,cB];show((if 0<=b/\b<=1000/\a.natAbs<2 ^ 64 then Z (Dt.int (a ^ b.toNat))else Y).bind λd=>Z (Bx.z d))=_;rw[zo h,hb];rfl⟩
def FU(a:R fa ρ (zE eI))(b:R fb ρ (zE eI)):R (b2 EH fa fb) ρ (zE eB):=⟨decide (a.v<=b.v),bx a.D b.D,λh=>by
 obtain⟨h1,h2⟩:=aB h;simp only[b2,a.ok h1,b.ok h2,At,i2]⟩
def U2(a:R fa ρ (zE eI))(b:R fb ρ (zE eI)):R (b2 HC fa fb) ρ (zE eB):=⟨decide (b.v<a.v),bx a.D b.D,λh=>by
 obtain⟨h1,h2⟩:=aB h;simp only[b2,a.ok h1,b.ok h2,At,i2]⟩
def F1(a:R fa ρ (zE eI))(b:R fb ρ (zE eI)):R (b2 FA fa fb) ρ (zE eB):=⟨decide (b.v<=a.v),bx a.D b.D,λh=>by
 obtain⟨h1,h2⟩:=aB h;simp only[b2,a.ok h1,b.ok h2,At,i2]⟩
def IL(a:R fa ρ (zE eI))(b:R fb ρ (zE eI)):R (b2 D1 fa fb) ρ (zE eB):=⟨decide (a.v<b.v),bx a.D b.D,λh=>by
 obtain⟨h1,h2⟩:=aB h;simp only[b2,a.ok h1,b.ok h2,At,D1]⟩
def mQ(x y:AJ):Bool:=decide (x.cps.toList<y.cps.toList)
def VE(a:R fa ρ (zE eS))(b:R fb ρ (zE eS)):R (b2 D1 fa fb) ρ (zE eB):=⟨mQ a.v b.v,bx a.D b.D,λh=>by
 obtain⟨h1,h2⟩:=aB h;simp only[b2,a.ok h1,b.ok h2,At,D1,mQ]⟩
end
class B7 {α:Type} [DecidableEq α] (e:α->Dt) (n:outParam Nat):Prop where
 eq:∀a b,zp (e a) (e b)=some (decide (a=b))
 dp:∀a,wF (e a)<=n
class CL {α:Type} (e:α->Dt):Prop where
 l:∀a,zp .non (e a)=some false
 r:∀a,zp (e a) .non=some false
instance:B7 eI 1:=⟨λa b=>rfl,λa=>by simp[wF]⟩
instance:B7 eB 1:=⟨λa b=>rfl,λa=>by simp[wF]⟩
instance:B7 eS 1:=⟨λa b=>rfl,λa=>by simp[wF]⟩
instance:CL eI:=⟨λa=>rfl,λa=>rfl⟩
instance:CL eB:=⟨λa=>rfl,λa=>rfl⟩
instance:CL eS:=⟨λa=>rfl,λa=>rfl⟩
section
variable [DecidableEq α] [DecidableEq β] [DecidableEq γ] [DecidableEq δ] {e:α->Dt}{e':β->Dt}{e'':γ->Dt}{e3:δ->Dt}{m k l:Nat}
theorem Gy[B7 e n]:∀xs ys:U α,mK (xs.map e) (ys.map e)=Z (decide (xs=ys))
 |[],[]=>by simp[mK]
 |[],y::ys=>by simp[mK]
 |x::xs,[]=>by simp[mK]
 |x::xs,y::ys=>by
  simp only[zw,mK,B7.eq,Gy xs ys];congr 1;by_cases h:x=y<;>by_cases h':xs=ys<;>simp[h,h']
theorem Gz[B7 e n]:∀xs:U α,qK (xs.map e)<=n
 |[]=>by simp[qK]
 |x::xs=>by
  have:=B7.dp (e:=e) x;have:=Gz xs;simp only[zw,qK];omega
instance [B7 e n]:B7 (eL e) (n+1):=⟨λa b=>Gy a b,λa=>by simp only[wF];have:=Gz (e:=e) a;omega⟩
instance [B7 e n]:B7 (eT e) (n+1):=⟨λa b=>Gy a b,λa=>by simp only[wF];have:=Gz (e:=e) a;omega⟩
instance:CL (eL e):=⟨λa=>rfl,λa=>rfl⟩
instance:CL (eT e):=⟨λa=>rfl,λa=>rfl⟩
instance:CL (MT e):=⟨λa=>rfl,λa=>rfl⟩
instance:CL (CO e e'):=⟨λa=>rfl,λa=>rfl⟩
instance:CL (Cs e e' e''):=⟨λa=>rfl,λa=>rfl⟩
instance:CL (Xz e e' e'' e3):=⟨λa=>rfl,λa=>rfl⟩
instance [B7 e n]:B7 (MT e) (n+1):=⟨λa b=>by
 simp only[Ef,mK,B7.eq,KM],λa=>by
 have:=B7.dp (e:=e) a;simp only[wF,qK];omega⟩
instance [B7 e n] [B7 e' m]:B7 (CO e e') (max n m+1):=⟨λa b=>by
 obtain⟨a,a'⟩:=a;obtain⟨b,b'⟩:=b;simp only[Ef,mK,B7.eq,Prod.mk.injEq,Bool.decide_and,KM],λa=>by
 have:=B7.dp (e:=e) a.1;have:=B7.dp (e:=e') a.2;simp only[wF,qK];omega⟩
instance [B7 e n] [B7 e' m] [B7 e'' k]:B7 (Cs e e' e'') (max n (max m k)+1):=⟨λa b=>by
 obtain⟨a,a',a2⟩:=a;obtain⟨b,b',b2⟩:=b;simp only[Ef,mK,B7.eq,Prod.mk.injEq,Bool.decide_and,KM],λa=>by
 have:=B7.dp (e:=e) a.1;have:=B7.dp (e:=e') a.2.1;have:=B7.dp (e:=e'') a.2.2;simp only[wF,qK];omega⟩
instance [B7 e n] [B7 e' m] [B7 e'' k] [B7 e3 l]:B7 (Xz e e' e'' e3) (max n (max m (max k l))+1):=⟨λa b=>by
 obtain⟨a,a',a2,a3⟩:=a;obtain⟨b,b',b2,b3⟩:=b;simp only[Ef,mK,B7.eq,Prod.mk.injEq,Bool.decide_and,KM],λa=>by
 have:=B7.dp (e:=e) a.1;have:=B7.dp (e:=e') a.2.1;have:=B7.dp (e:=e'') a.2.2.1;have:=B7.dp (e:=e3) a.2.2.2;simp only[wF,qK];omega⟩
instance [B7 e n] [CL e]:B7 (eO e) (n+1):=⟨λa b=>by
 cases a with
 |none=>cases b with
  |none=>exact rfl
  |some b=>exact(CL.l (e:=e) b).trans (by simp)
 |some a=>cases b with
  |none=>exact(CL.r (e:=e) a).trans (by simp)
  |some b=>exact(B7.eq (e:=e) a b).trans (by simp),λa=>by
 cases a with
 |none=>show wF .non<=n+1;simp[wF]
 |some a=>exact Nat.le_succ_of_le (B7.dp (e:=e) a)⟩
end
section
variable{fs:Ev->O (U Bx)}{e:α->Dt}{e':β->Dt}
def Bi[DecidableEq α][B7 e n](c:n<=100)(a:R fa ρ (zE e))(b:R fb ρ (zE e)):R (b2 C0 fa fb) ρ (zE eB):=⟨decide (a.v=b.v),bx a.D b.D,λh=>by
 obtain⟨h1,h2⟩:=aB h;have:=B7.dp (e:=e) a.v;simp only[b2,a.ok h1,b.ok h2,At,C0,mH,toD,zr,or_self,ZN,B7.eq];rw[zo (by omega)]⟩
def XC[DecidableEq α][B7 e n](c:n<=100)(a:R fa ρ (zE e))(b:R fb ρ (zE e)):R (b2 JD fa fb) ρ (zE eB):=⟨!decide (a.v=b.v),bx a.D b.D,λh=>by
 obtain⟨h1,h2⟩:=aB h;have:=B7.dp (e:=e) a.v;simp only[b2,a.ok h1,b.ok h2,At,JD,mH,toD,zr,or_self,ZN,B7.eq];rw[zo (by omega)]⟩
theorem Ep(h:rO b=Z ds):toD b=.lst ds/\mH b=false:=by
 cases b with
 |z d=>cases d<;>cases h;exact⟨rfl,rfl⟩
 |l d=>cases h;exact⟨rfl,rfl⟩
 |o d=>cases h;exact⟨rfl,rfl⟩
 |n d=>cases h
 |m d _=>cases h
def IA[DecidableEq α][B7 e n](c:n+1<=100)(a:RL fa ρ e)(b:RL fb ρ e):R (b2 JD fa fb) ρ (zE eB):=⟨!decide (a.v=b.v),bx a.D b.D,λh=>by
 obtain⟨h1,h2⟩:=aB h;simp only[b2,a.ok h1,b.ok h2,At,JD,(Ep a.lk).1,(Ep a.lk).2,(Ep b.lk).1,(Ep b.lk).2,zr,or_self,ZN];have e1:=B7.eq (e:=eL e) a.v b.v;rw[zo (ZI (Nat.min_le_left _ _) (ZI (B7.dp (e:=eL e) a.v) c)),e1,At]⟩
def D7(a b:Dt):Bool:=(zp a b).getD false
def DO(a b:Dt):Prop:=(zp a b).isSome=true/\min (wF a) (wF b)<=100
def MG(a:R fa ρ (zE eD))(b:R fb ρ (zE eD)):R (b2 C0 fa fb) ρ (zE eB):=⟨D7 a.v b.v,bx (bx a.D b.D) (Z (DO a.v b.v)),λh=>by
 obtain⟨h,c⟩:=aB h;obtain⟨h1,h2⟩:=aB h;obtain⟨c,d⟩:DO a.v b.v:=c;simp only[b2,a.ok h1,b.ok h2,At,C0,mH,toD,zr,or_self,ZN,zo d];cases e:zp a.v b.v with
 |none=>rw[e]at c;cases c
 |some k=>simp only[D7,e,At,Option.getD_some];exact zo d⟩
def VL(a:R fa ρ (zE (eO e)))(b:∀x,Sq (.z (e x))=false):R (b2 xH fa (cB .non)) ρ (zE eB):=⟨a.v.isSome,a.D,λh=>by
 simp only[b2,a.ok h,At,cB,xH];cases c:a.v with
 |none=>rfl
 |some x=>simp only[ye,b,kR]⟩
def vQ(a:R fa ρ (zE eB))(b:R fb ρ (zE eB)):R (yW fa fb) ρ (zE eB):=⟨a.v&&b.v,bx a.D (Gw (a.v=true) b.D),λh=>by
 obtain⟨h1,h2⟩:=aB h;simp only[yW,a.ok h1,At,Fi];cases c:a.v with
 |true=>simp only[qS,yz];exact b.ok (lU h2 c)
 |false=>simp only[zr,ZN,yb]⟩
def Na(a:R fa ρ (zE eB)):R (Fc fa) ρ (zE eB):=⟨!a.v,a.D,λh=>by simp only[Fc,a.ok h,At,Fi]⟩
def EN(a:R fa ρ (zE eB)):R (tV fa) ρ tE:=⟨a.v,a.D,λh=>by simp only[tV,a.ok h,At,Zd]⟩
def UP(a:RL fa ρ e):R (tV fa) ρ tE:=⟨!a.v.isEmpty,a.D,λh=>by
 have:Zd a.b=Z (!(a.v.map e).isEmpty):=by
  have:=a.lk;generalize a.v.map e=ds at this
  revert this
  generalize a.b=b;intro this;cases b with
  |z d=>cases d<;>cases this;rfl
  |l d=>cases this;rfl
  |o d=>cases this;rfl
  |n d=>cases this
  |m d _=>cases this
 simp only[tV,a.ok h,At,this,List.isEmpty_map]⟩
def eY{g:Bx->Bx->O Bx}(a:R (b2 g fa fb) ρ (zE eB)):R (vK g fa fb) ρ tE:=⟨a.v,a.D,λh=>by simp only[vK,a.ok h,At,Fi]⟩
def YO(a:R p ρ tE)(b:R q ρ tE):R (Ze p q) ρ tE:=⟨a.v&&b.v,bx a.D (Gw (a.v=true) b.D),λh=>by
 obtain⟨h1,h2⟩:=aB h;simp only[Ze,a.ok h1,At];cases c:a.v with
 |true=>simp only[qS,yz];exact b.ok (lU h2 c)
 |false=>simp only[zr,ZN,yb]⟩
def Qo(a:R p ρ tE)(b:R q ρ tE):R (Yn p q) ρ tE:=⟨a.v||b.v,bx a.D (Gw (a.v=false) b.D),λh=>by
 obtain⟨h1,h2⟩:=aB h;simp only[Yn,a.ok h1,At];cases c:a.v with
 |true=>simp only[qS,Bool.true_or]
 |false=>simp only[zr,ZN,Bool.false_or];exact b.ok (lU h2 c)⟩
def Qp(a:R p ρ tE):R (Oq p) ρ tE:=⟨!a.v,a.D,λh=>by simp only[Oq,a.ok h,At]⟩
def Ll{g g':Bx->Bx->O Bx}(a:R (b2 g fa fb) ρ (zE eB))(b:R (b2 g' fb fc) ρ (zE eB)):R (EE g g' fa fb fc) ρ (zE eB):=⟨a.v&&b.v,bx a.D (Gw (a.v=true) b.D),λh=>by
 obtain⟨h1,d⟩:=aB h;have e1:=a.ok h1;simp only[b2]at e1;obtain⟨x,ex,e1⟩:=AT e1;obtain⟨y,c,e1⟩:=AT e1;simp only[EE,ex,c,At,e1,Fi];cases e:a.v with
 |true=>
  have e2:=b.ok (lU d e);simp only[b2,c,At]at e2;simp only[qS,yz];exact e2
 |false=>simp only[zr,ZN,yb]⟩
end
section
variable{ε:Type}{fd:Ev->O Bx}{fs:Ev->O (U Bx)}{e:α->Dt}{e':β->Dt}{e'':γ->Dt}{e3:δ->Dt}
def GC(e:α->Dt):R (dM j7 aH) ρ (zE (eT e)):=⟨[],Y,λ_=>Δ⟩
def GD(a:R fa ρ (zE e))(b:R fb ρ (zE e'))(c:R fc ρ (zE e'')):R (dM j7 (aq fa (aq fb (aq fc aH)))) ρ (zE (Cs e e' e'')):=⟨(a.v,b.v,c.v),bx a.D (bx b.D c.D),λh=>by
 obtain⟨h1,h⟩:=aB h;obtain⟨h2,d⟩:=aB h;simp only[dM,aq,aH,a.ok h1,b.ok h2,c.ok d,At];rfl⟩
def vR(a:R fa ρ (zE e))(b:R fb ρ (zE e'))(c:R fc ρ (zE e''))(d:R fd ρ (zE e3)):R (dM j7 (aq fa (aq fb (aq fc (aq fd aH))))) ρ (zE (Xz e e' e'' e3)):=⟨(a.v,b.v,c.v,d.v),bx a.D (bx b.D (bx c.D d.D)),λh=>by
 obtain⟨h1,h⟩:=aB h;obtain⟨h2,h⟩:=aB h;obtain⟨g,f⟩:=aB h;simp only[dM,aq,aH,a.ok h1,b.ok h2,c.ok g,d.ok f,At];rfl⟩
def jg(e:α->Dt):R aH ρ (λxs:U α=>xs.map (zE e)):=⟨[],Y,λ_=>Δ⟩
def dX(a:R fa ρ (zE e))(t:R fs ρ (λxs:U α=>xs.map (zE e))):R (aq fa fs) ρ (λxs:U α=>xs.map (zE e)):=⟨a.v::t.v,bx a.D t.D,λh=>by
 obtain⟨h1,h2⟩:=aB h;simp only[aq,a.ok h1,t.ok h2,At,zw]⟩
theorem zQ:∀xs:U α,K6 (xs.map (zE e))=Z (xs.map e)
 |[]=>rfl
 |x::xs=>by simp only[zw,K6,zQ xs,At]
def qQ(t:R fs ρ (λxs:U α=>xs.map (zE e)))(a:t.v.length<=1000):R (dM rP fs) ρ (oE e):=⟨t.v,t.D,λh=>by
 simp only[dM,t.ok h,At,rP,zl,zo a,zQ]⟩
def YV(t:R fs ρ (λxs:U α=>xs.map (zE e)))(a:t.v.length<=1000):R (dM j7 fs) ρ (zE (eT e)):=⟨t.v,t.D,λh=>by
 simp only[dM,t.ok h,At,j7,zl,zo a,zQ]⟩
def TQ(t:R fs ρ (λxs:U Dt=>xs.map (zE eD)))(a:t.v.length<=1000):R (dM j7 fs) ρ (zE eD):=⟨.tup t.v,t.D,λh=>by
 simp only[dM,t.ok h,At,j7,zl,zo a,zQ,List.map_id_fun',id]⟩
def at'[Inhabited α](xs:U α)(i:Int):α:=(HY xs i).getD default
def In(n:Nat)(i:Int):Prop:=-(n:Int)<=i/\i<n
theorem wJ{xs:U α}{i:Int}(h:In xs.length i):∃x,HY xs i=Z x:=by
 obtain⟨h1,h2⟩:=h;unfold HY EG;by_cases h0:0<=i
 ·rw[zo h0,zo h2];exact⟨xs[i.toNat]'(by omega),Zl (by omega)⟩
 ·rw[zC h0,zo h1];exact⟨xs[(i+xs.length).toNat]'(by omega),Zl (by omega)⟩
theorem TU{xs:U α}{i:Int}{x:α}(h:HY xs i=Z x):HY (xs.map e) i=Z (e x):=by
 unfold HY at h ⊢;rw[zl];obtain⟨j,a,h⟩:=AT h;rw[a,At,Zp,h];rfl
theorem LV[Inhabited α]{xs:U α}{i:Int}(h:In xs.length i):HY (xs.map e) i=Z (e (at' xs i)):=by
 obtain⟨x,hx⟩:=wJ h;rw[TU hx];unfold at';rw[hx];rfl
theorem de{i:Int}(h:rO b=Z ds):gF b (.z (.int i))=(HY ds i).bind λd=>Z (.z d):=by
 cases b with
 |z d=>cases d<;>cases h;rfl
 |l d=>cases h;rfl
 |o d=>cases h;rfl
 |n d=>cases h
 |m d _=>cases h
def lK[Inhabited α](a:RL fa ρ e)(b:R fb ρ (zE eI)):R (b2 gF fa fb) ρ (zE e):=⟨at' a.v b.v,bx (bx a.D b.D) (Z (In a.v.length b.v)),λh=>by
 obtain⟨h,c⟩:=aB h;obtain⟨h1,h2⟩:=aB h;simp only[b2,a.ok h1,b.ok h2,At,de a.lk,LV (show In a.v.length b.v from c)]⟩
def MW[Inhabited α](a:R fa ρ (zE (eT e)))(b:R fb ρ (zE eI)):R (b2 gF fa fb) ρ (zE e):=⟨at' a.v b.v,bx (bx a.D b.D) (Z (In a.v.length b.v)),λh=>by
 obtain⟨h,c⟩:=aB h;obtain⟨h1,h2⟩:=aB h;simp only[b2,a.ok h1,b.ok h2,At,gF,vJ,LV (show In a.v.length b.v from c)]⟩
def ch(x:AJ)(i:Int):AJ:=⟨#[(HY x.cps.toList i).getD 0]⟩
def VN(a:R fa ρ (zE eS))(b:R fb ρ (zE eI)):R (b2 gF fa fb) ρ (zE eS):=⟨ch a.v b.v,bx (bx a.D b.D) (Z (In a.v.length b.v)),λh=>by
 obtain⟨h,c⟩:=aB h;obtain⟨h1,h2⟩:=aB h;obtain⟨x,hx⟩:=wJ (xs:=a.v.cps.toList) (i:=b.v) (show In a.v.length b.v from c);simp only[b2,a.ok h1,b.ok h2,At,gF,hx,ch,Option.getD_some]⟩
def Ct(d:Dt)(i:Int):Dt:=match gF (.z d) (.z (.int i))with|some (.z y)=>y|_=>.non
def Go(d:Dt)(i:Int):Prop:=match d with
 |.tup ds=>In ds.length i
 |.lst ds=>In ds.length i
 |.str x=>In x.length i
 |_=>False
def XI(a:R fa ρ (zE eD))(b:R fb ρ (zE eI)):R (b2 gF fa fb) ρ (zE eD):=⟨Ct a.v b.v,bx (bx a.D b.D) (Z (Go a.v b.v)),λh=>by
 obtain⟨h,d⟩:=aB h;obtain⟨h1,h2⟩:=aB h;have d:Go a.v b.v:=d;simp only[b2,a.ok h1,b.ok h2,At];show gF (.z a.v) (.z (.int b.v))=Z (.z (Ct a.v b.v));unfold Ct;cases e:a.v with
 |tup ds=>
  rw[e]at d;obtain⟨x,hx⟩:=wJ (show In ds.length b.v from d);simp only[gF,vJ,At,hx]
 |lst ds=>
  rw[e]at d;obtain⟨x,hx⟩:=wJ (show In ds.length b.v from d);simp only[gF,vJ,At,hx]
 |str x=>
  rw[e]at d;obtain⟨c,hx⟩:=wJ (xs:=x.cps.toList) (show In x.length b.v from d);simp only[gF,At,hx]
 |non=>rw[e]at d;exact absurd d id
 |bl _=>rw[e]at d;exact absurd d id
 |int _=>rw[e]at d;exact absurd d id
 |emp=>rw[e]at d;exact absurd d id⟩
def fY(a:R fa ρ (zE e))(g:α->β)(e':β->Dt)(i:Int)(h:∀x,gF (.z (e x)) (.z (.int i))=Z (.z (e' (g x)))):R (b2 gF fa (cB (.int i))) ρ (zE e'):=⟨g a.v,a.D,λb=>by
 simp only[b2,a.ok b,At,cB,h]⟩
def cut(xs:U α)(lo hi:O Int):U α:=(xs.drop (HT.jA xs.length 0 lo)).take (HT.jA xs.length xs.length hi-HT.jA xs.length 0 lo)
theorem bp(xs:U α)(lo hi:O Int):Bz (xs.map e) lo hi=(cut xs lo hi).map e:=by
 unfold Bz cut;rw[zl,List.map_take,List.map_drop]
abbrev pE:O Int->O Int:=λo=>o
def FD:R Bt ρ pE:=⟨Y,Y,λ_=>Δ⟩
def FM(a:R fa ρ (zE eI)):R (Fy fa) ρ pE:=⟨Z a.v,a.D,λh=>by simp only[Fy,a.ok h,At,GE]⟩
variable{fl fh:Ev->O (O Int)}
theorem am{lo:O Int}(h:rO b=Z ds):EM b lo hi=Z (.o (Bz ds lo hi)):=by
 cases b with
 |z d=>cases d<;>cases h;rfl
 |l d=>cases h;rfl
 |o d=>cases h;rfl
 |n d=>cases h
 |m d _=>cases h
def UN(a:RL fa ρ e)(l:R fl ρ pE)(u:R fh ρ pE):R (Zz fa fl fh) ρ (oE e):=⟨cut a.v l.v u.v,bx a.D (bx l.D u.D),λh=>by
 obtain⟨h1,h⟩:=aB h;obtain⟨h2,b⟩:=aB h;simp only[Zz,a.ok h1,l.ok h2,u.ok b,At,am a.lk,bp]⟩
def Mm(a:R fa ρ (zE eS))(l:R fl ρ pE)(u:R fh ρ pE):R (Zz fa fl fh) ρ (zE eS):=⟨Txt.slice a.v l.v u.v,bx a.D (bx l.D u.D),λh=>by
 obtain⟨h1,h⟩:=aB h;obtain⟨h2,b⟩:=aB h;simp only[Zz,a.ok h1,l.ok h2,u.ok b,At,EM]⟩
def Gc:Dt->U Dt
 |.tup ds=>ds
 |.lst ds=>ds
 |_=>[]
def XL(a:R fa ρ (zE eD))(l:R fl ρ pE)(u:R fh ρ pE):R (Zz fa fl fh) ρ (zE eD):=⟨.tup (cut (Gc a.v) l.v u.v),bx (bx a.D (bx l.D u.D)) (Z (B4 a.v=true)),λh=>by
 obtain⟨h,b⟩:=aB h;obtain⟨h1,h⟩:=aB h;obtain⟨h2,d⟩:=aB h;have b:B4 a.v=true:=b;simp only[Zz,a.ok h1,l.ok h2,u.ok d,At];cases c:a.v<;>rw[c]at b<;>first|(cases b;done)|rfl⟩
def HW(n:Nat):Prop:=n<=1000000
def TV(a:R fa ρ (zE eS))(b:R fb ρ (zE eS)):R (b2 iK fa fb) ρ (zE eS):=⟨a.v++b.v,bx (bx a.D b.D) (Z (HW (a.v.length+b.v.length))),λh=>by
 obtain⟨h,c⟩:=aB h;obtain⟨h1,h2⟩:=aB h;simp only[b2,a.ok h1,b.ok h2,At,iK,zo (show a.v.length+b.v.length<=Sh from c)]⟩
def Ml(a:R fa ρ (zE (eT e)))(b:R fb ρ (zE (eT e))):R (b2 iK fa fb) ρ (zE (eT e)):=⟨a.v++b.v,bx (bx a.D b.D) (Z (HW (a.v.length+b.v.length))),λh=>by
 obtain⟨h,c⟩:=aB h;obtain⟨h1,h2⟩:=aB h;simp only[b2,a.ok h1,b.ok h2,At,iK,zl,zo (show a.v.length+b.v.length<=Sh from c),zE,eT,qq]⟩
theorem ag{e:Bx}{f:U Dt}(h:rO b=Z ds)(h':rO e=Z f)(c:ds.length+f.length<=Sh):iK b e=Z (.o (ds++f)):=by
 cases b with
 |z d=>
  cases d<;>cases h;cases e with
  |z a=>cases a<;>cases h';exact zo c
  |l a=>cases h';exact zo c
  |o a=>cases h';exact zo c
  |n a=>cases h'
  |m a=>cases h'
 |l d=>
  cases h;cases e with
  |z a=>cases a<;>cases h';exact zo c
  |l a=>cases h';exact zo c
  |o a=>cases h';exact zo c
  |n a=>cases h'
  |m a=>cases h'
 |o d=>
  cases h;cases e with
  |z a=>cases a<;>cases h';exact zo c
  |l a=>cases h';exact zo c
  |o a=>cases h';exact zo c
  |n a=>cases h'
  |m a=>cases h'
 |n d=>cases h
 |m d _=>cases h
def TX(a:RL fa ρ e)(b:RL fb ρ e):R (b2 iK fa fb) ρ (oE e):=⟨a.v++b.v,bx (bx a.D b.D) (Z (HW (a.v.length+b.v.length))),λh=>by
 obtain⟨h,c⟩:=aB h;obtain⟨h1,h2⟩:=aB h;simp only[b2,a.ok h1,b.ok h2,At];rw[ag a.lk b.lk (by rw[zl,zl];exact c)];simp only[oE,qq]⟩
def UT(a:R fa ρ (zE eS))(b:R fb ρ (zE eI)):R (b2 zq fa fb) ρ (zE eS):=⟨Txt.mul a.v b.v,bx (bx a.D b.D) (Z (b.v<=1000 ∧ -1000<=b.v/\a.v.length<=1000)),λh=>by
 obtain⟨h,c⟩:=aB h;obtain⟨h1,h2⟩:=aB h;simp only[b2,a.ok h1,b.ok h2,At];exact zo c⟩
theorem Sn(h:rO b=Z ds):wX [b]=Z (.z (.int ds.length)):=by
 cases b with
 |z d=>cases d<;>cases h;rfl
 |l d=>cases h;rfl
 |o d=>cases h;rfl
 |n d=>cases h
 |m d _=>cases h
theorem TR(h:rO b=Z ds):vJ b=Z ds:=by
 cases b with
 |z d=>cases d<;>cases h;rfl
 |l d=>cases h;rfl
 |o d=>cases h;rfl
 |n d=>cases h
 |m d _=>cases h
def ER(a:RL fa ρ e):R (dM wX (aq fa aH)) ρ (zE eI):=⟨(a.v.length:Int),a.D,λh=>by
 simp only[dM,aq,aH,a.ok h,At,Sn a.lk,zl]⟩
def Is(a:R fa ρ (zE (eT e))):R (dM wX (aq fa aH)) ρ (zE eI):=⟨(a.v.length:Int),a.D,λh=>by
 simp only[dM,aq,aH,a.ok h,At,wX,vJ,zl]⟩
def cK(a:R fa ρ (zE eS)):R (dM wX (aq fa aH)) ρ (zE eI):=⟨(a.v.length:Int),a.D,λh=>by
 simp only[dM,aq,aH,a.ok h,At,wX]⟩
def Mp:Dt->Int
 |.tup ds=>ds.length
 |.lst ds=>ds.length
 |.str x=>x.length
 |_=>0
def Mq:Dt->Bool
 |.tup _=>true
 |.lst _=>true
 |.str _=>true
 |_=>false
def TY(a:R fa ρ (zE eD)):R (dM wX (aq fa aH)) ρ (zE eI):=⟨Mp a.v,bx a.D (Z (Mq a.v=true)),λh=>by
 obtain⟨h,b⟩:=aB h;have b:Mq a.v=true:=b;simp only[dM,aq,aH,a.ok h,At];cases c:a.v<;>rw[c]at b<;>first|(cases b;done)|rfl⟩
def qR(a:RL fa ρ e):R (dM j9 (aq fa aH)) ρ (zE (eT e)):=⟨a.v,a.D,λh=>by
 simp only[dM,aq,aH,a.ok h,At,j9,TR a.lk]⟩
def Re(a:R fa ρ (zE eI)):R (dM ZC (aq fa aH)) ρ (zE eI):=⟨if a.v<0 then -a.v else a.v,a.D,λh=>by
 simp only[dM,aq,aH,a.ok h,At,ZC]⟩
def SG(a:R fa ρ (zE eB)):R (dM ZD (aq fa aH)) ρ (zE eI):=⟨if a.v=true then 1 else 0,a.D,λh=>by
 simp only[dM,aq,aH,a.ok h,At,ZD]⟩
theorem J9:∀l:U Bool,JL (l.map eB)=Z l
 |[]=>rfl
 |a::l=>by simp only[zw,JL,J9 l,At]
def IR(a:RL fa ρ eB):R (dM CF (aq fa aH)) ρ (zE eB):=⟨a.v.all id,a.D,λh=>by
 simp only[dM,aq,aH,a.ok h,At,CF,a.lk,J9]⟩
def Ka(a:R fa ρ (zE eI))(b:R fb ρ (zE eI)):R (dM Ij (aq fa (aq fb aH))) ρ (zE eI):=⟨if b.v>a.v then b.v else a.v,bx a.D b.D,λh=>by
 obtain⟨h1,h2⟩:=aB h;simp only[dM,aq,aH,a.ok h1,b.ok h2,At,Ij]⟩
def MC(a:R fa ρ (zE eI))(b:R fb ρ (zE eI)):R (dM W9 (aq fa (aq fb aH))) ρ (zE eI):=⟨if b.v<a.v then b.v else a.v,bx a.D b.D,λh=>by
 obtain⟨h1,h2⟩:=aB h;simp only[dM,aq,aH,a.ok h1,b.ok h2,At,W9]⟩
def VP(P:Dt->Bool)(a:R fa ρ (zE e)):R (JM P fa) ρ (zE eB):=⟨P (e a.v),a.D,λh=>by
 simp only[JM,b1,a.ok h,At,mH,toD,zr,ZN]⟩
theorem BY:∀l:An,FJ (l.map eS)=Z l
 |[]=>rfl
 |a::l=>by simp only[zw,FJ,BY l,At]
def Sl(s:AJ)(a:RL fa ρ eS):R (b1 (Ph s) fa) ρ (zE eS):=⟨Txt.join s a.v,bx a.D (Z ((a.v.map (·.length)).sum+a.v.length*s.length<=100000)),λh=>by
 obtain⟨h,b⟩:=aB h;simp only[b1,a.ok h,At,Ph,a.lk,BY];exact zo b⟩
def Ya(a:RL fa ρ eS):R (dM JQ (aq fa aH)) ρ (oE eS):=⟨xJ a.v,bx a.D (Z (a.v.length<64)),λh=>by
 obtain⟨h,b⟩:=aB h;simp only[dM,aq,aH,a.ok h,At,JQ,a.lk,BY];exact zo b⟩
def Ys:Dt->Int
 |.int i=>i
 |_=>0
def T3:Dt->AJ
 |.str x=>x
 |_=>⟨#[]⟩
def tK(a:R f ρ (zE eD))(g:Dt->α)(e:α->Dt):R f ρ (zE e):=⟨g a.v,bx a.D (Z (a.v=e (g a.v))),λb=>by
 obtain⟨h1,h2⟩:=aB b;have h2:a.v=e (g a.v):=h2;rw[a.ok h1];show Z (Bx.z a.v)=Z (Bx.z (e (g a.v)));rw[<-h2]⟩
class C2 {α:Type} (e:α->Dt):Prop where
 f:∀a,zu (e a)=true
instance:C2 eI:=⟨λ_=>rfl⟩
instance:C2 eB:=⟨λ_=>rfl⟩
instance:C2 eS:=⟨λ_=>rfl⟩
theorem Qq[DecidableEq α][B7 e n][C2 e](x:α)(ys:U α):CS (e x) (ys.map e)=Z (decide (x∈ys)):=by
 unfold CS;rw[zo ⟨C2.f x,by rw[List.all_map];exact List.all_eq_true.mpr λy _=>C2.f y⟩,List.any_map];congr 1;rw[JI,JU,decide_eq_true_iff];constructor
 ·rintro⟨y,a,h⟩;simp only[Function.comp,B7.eq]at h;by_cases e1:y=x
  ·rw[<-e1];exact a
  ·simp only[e1,kU]at h;cases h
 ·intro h;exact⟨x,h,by simp only[Function.comp,B7.eq,KO]⟩
theorem VR:EF (.z d) (.z (.tup ds))=CS d ds:=by cases d<;>rfl
def RH[DecidableEq α][B7 e n][C2 e](a:R fa ρ (zE e))(b:R fb ρ (zE (eT e))):R (b2 Db fa fb) ρ (zE eB):=⟨decide (a.v∈b.v),bx a.D b.D,λh=>by
 obtain⟨h1,h2⟩:=aB h;simp only[b2,a.ok h1,b.ok h2,At,Db,VR,Qq]⟩
def bi[DecidableEq α][B7 e n][C2 e](a:R fa ρ (zE e))(b:R fb ρ (zE (eT e))):R (b2 Ff fa fb) ρ (zE eB):=⟨!decide (a.v∈b.v),bx a.D b.D,λh=>by
 obtain⟨h1,h2⟩:=aB h;simp only[b2,a.ok h1,b.ok h2,At,Ff,VR,Qq]⟩
def d5(a:R fa ρ (zE eS))(b:R fb ρ (zE eS)):R (b2 Db fa fb) ρ (zE eB):=⟨JF a.v b.v,bx a.D b.D,λh=>by
 obtain⟨h1,h2⟩:=aB h;simp only[b2,a.ok h1,b.ok h2,At,Db,EF]⟩
end
structure AR {γ:Type} (cA:γ->List Bx->Prop) (fs:Ev->Option (List Bx)) (ρ:Ev) where
 v:γ
 D:Option Prop
 bs:List Bx
 h:cA v bs
 ok:hold D->fs ρ=some bs
section
variable{ε σ:Type}{fd:Ev->O Bx}{fs:Ev->O (U Bx)}{e:α->Dt}{e':β->Dt}{e'':γ->Dt}{e3:δ->Dt}
def aN:Unit->U Bx->Prop:=λ_ bs=>bs=[]
def aZ(e:α->Dt)(t:γ->U Bx->Prop):α×γ->U Bx->Prop:=λx bs=>∃r,bs=.z (e x.1)::r/\t x.2 r
def aL(e:α->Dt)(t:γ->U Bx->Prop):U α×γ->U Bx->Prop:=λx bs=>∃b r,bs=b::r/\rO b=Z (x.1.map e)/\t x.2 r
def aQ:AR aN aH ρ:=⟨(),Y,[],rfl,λ_=>Δ⟩
def aX{t:γ->U Bx->Prop}(a:R fa ρ (zE e))(r:AR t fs ρ):AR (aZ e t) (aq fa fs) ρ:=⟨(a.v,r.v),bx a.D r.D,_,⟨_,rfl,r.h⟩,λh=>by
 obtain⟨h1,h2⟩:=aB h;simp only[aq,a.ok h1,r.ok h2,At]⟩
def BX{t:γ->U Bx->Prop}(a:RL fa ρ e)(r:AR t fs ρ):AR (aL e t) (aq fa fs) ρ:=⟨(a.v,r.v),bx a.D r.D,_,⟨_,_,rfl,a.lk,r.h⟩,λh=>by
 obtain⟨h1,h2⟩:=aB h;simp only[aq,a.ok h1,r.ok h2,At]⟩
def AZ{d:γ->U Bx->Prop}{F:U Bx->O Bx}{c:α->Bx}{T:γ->α}{b:γ->O Prop}(S:∀v bs,d v bs->bs.length=n/\(hold (b v)->F (bs.map lend)=Z (c (T v))))(a:AR d fs ρ):R (bf n F fs) ρ c:=⟨T a.v,bx a.D (b a.v),λh=>by
 obtain⟨h1,h2⟩:=aB h;obtain⟨f,e⟩:=S a.v a.bs a.h;simp only[bf,a.ok h1,At,zo f,e h2]⟩
theorem NO{bs:U Bx}{c:α->Bx}(x:R g (bs.map Z++List.replicate (n-bs.length) Y) (λr=>Ap.rt (c r)))(h:hold x.D):cZ n g bs=Z (c x.v):=by
 unfold cZ;rw[x.ok h];rfl
def LJ(xs:U α)(P:α->O Prop):O Prop:=Z (∀x∈xs,hold (P x))
theorem Qs{fs:Ev->O (U Dt)}{c:Ev}{g:α->U Dt}{π:α->Bool}:∀xs:U α,(∀x∈xs,∃a,gt (e x) c=Z a/\p a=Z (π x)/\(π x=true->fs a=Z (g x)))->Dm gt p fs c (xs.map e)=Z ((xs.filter π).flatMap g)
 |[],_=>rfl
 |x::xs,h=>by
  obtain⟨a,h1,h2,f⟩:=h x (zi ..);have b:=Qs (g:=g) (π:=π) xs λy d=>h y (zh _ d);cases hp:π x with
  |true=>simp only[zw,Dm,h1,At,h2,hp,qS,f hp,b,k4,List.flatMap_cons]
  |false=>simp only[zw,Dm,h1,At,h2,hp,b,k4,zr,ZN]
theorem Qt{g:α->β}:∀xs:U α,xs.flatMap (λx=>[e' (g x)])=(xs.map g).map e'
 |[]=>rfl
 |x::xs=>by rw[List.flatMap_cons,Qt xs];rfl
theorem GF{b:Ev}{g:α->β}{π:α->Bool}(xs:U α)(h:∀x∈xs,∃a,gt (e x) b=Z a/\p a=Z (π x)/\(π x=true->fe a=Z (.z (e' (g x))))):Cv gt p fe b (xs.map e)=Z (((xs.filter π).map g).map e'):=by
 rw[<-Qt];exact Qs xs λx hx=>let ⟨a,h1,h2,h3⟩:=h x hx;⟨a,h1,h2,λhp=>by rw[h3 hp];rfl⟩
theorem C1{b:Ev}{g:α->β}(xs:U α)(h:∀x∈xs,∃a,gt (e x) b=Z a/\fe a=Z (.z (e' (g x)))):Cv gt zF fe b (xs.map e)=Z ((xs.map g).map e'):=
 (GF (π:=λ_=>true) xs λx hx=>let ⟨a,h1,h2⟩:=h x hx;⟨a,h1,rfl,λ_=>h2⟩).trans (by rw[List.filter_eq_self.mpr λ_ _=>Δ])
def GJ(it:R fi ρ (iE e))(a:α->Ev)(hg:∀x,gt (e x) (j8 is ρ++List.replicate n Y)=Z (a x))(b:∀x,R fe (a x) (zE e')):R (iJ fi gt zF fe is n) ρ (oE e'):=⟨it.v.map λx=>(b x).v,bx (bx it.D (Z (it.v.length<=100000))) (LJ it.v λx=>(b x).D),λh=>by
 obtain⟨h,c⟩:=aB h;obtain⟨h1,h2⟩:=aB h;have c:∀x∈it.v,hold (b x).D:=c;simp only[iJ,it.ok h1,At,zl,zo (show it.v.length<=100000 from h2),C1 it.v λx hx=>⟨a x,hg x,(b x).ok (c x hx)⟩]⟩
def wK(it:R fi ρ (iE e))(a:α->Ev)(hg:∀x,gt (e x) (j8 is ρ++List.replicate n Y)=Z (a x))(b:∀x,R fe (a x) (zE e'))(hb:∀x,(b x).D=Y):R (iJ fi gt zF fe is n) ρ (oE e'):=⟨it.v.map λx=>(b x).v,bx it.D (Z (it.v.length<=100000)),λh=>by
 obtain⟨h1,h2⟩:=aB h;simp only[iJ,it.ok h1,At,zl,zo (show it.v.length<=100000 from h2),C1 it.v λx hx=>⟨a x,hg x,(b x).ok (by rw[hb x];trivial)⟩]⟩
def V0(it:R fi ρ (iE e))(a:α->Ev)(hg:∀x,gt (e x) (j8 is ρ++List.replicate n Y)=Z (a x))(t:∀x,R p (a x) tE)(b:∀x,R fe (a x) (zE e')):R (iJ fi gt p fe is n) ρ (oE e'):=⟨(it.v.filter λx=>(t x).v).map λx=>(b x).v,bx (bx it.D (Z (it.v.length<=100000))) (LJ it.v λx=>bx (t x).D (Gw ((t x).v=true) (b x).D)),λh=>by
 obtain⟨h,c⟩:=aB h;obtain⟨h1,h2⟩:=aB h;have c:∀x∈it.v,hold (bx (t x).D (Gw ((t x).v=true) (b x).D)):=c;simp only[iJ,it.ok h1,At,zl,zo (show it.v.length<=100000 from h2),GF it.v λx hx=>⟨a x,hg x,(t x).ok (aB (c x hx)).1,λd=>(b x).ok (lU (aB (c x hx)).2 d)⟩]⟩
def dA(it:R fi ρ (iE e))(a:α->Ev)(hg:∀x,gt (e x) (j8 is ρ++List.replicate n Y)=Z (a x))(t:∀x,R p (a x) tE)(b:∀x,R fe (a x) (zE e'))(c:∀x,(t x).D=Y)(hb:∀x,(b x).D=Y):R (iJ fi gt p fe is n) ρ (oE e'):=⟨(it.v.filter λx=>(t x).v).map λx=>(b x).v,bx it.D (Z (it.v.length<=100000)),λh=>by
 obtain⟨h1,h2⟩:=aB h;simp only[iJ,it.ok h1,At,zl,zo (show it.v.length<=100000 from h2),GF it.v λx hx=>⟨a x,hg x,(t x).ok (by rw[c x];trivial),λ_=>(b x).ok (by rw[hb x];trivial)⟩]⟩
def FR(a:RL fa ρ e):R (RD fa) ρ (iE e):=⟨a.v,a.D,λh=>by
 have:Zq a.b=Z (a.v.map e):=by
  have:=a.lk
  revert this
  generalize a.b=b;generalize a.v.map e=ds;intro this;cases b with
  |z d=>cases d<;>cases this;rfl
  |l d=>cases this;rfl
  |o d=>cases this;rfl
  |n d=>cases this
  |m d _=>cases this
 simp only[RD,a.ok h,At,this]⟩
def T4(a:R fa ρ (zE (eT e))):R (RD fa) ρ (iE e):=⟨a.v,a.D,λh=>by simp only[RD,a.ok h,At,Zq]⟩
def C9(x:AJ):An:=x.cps.toList.map λc=>⟨#[c]⟩
theorem NR(x:AJ):BF x=(C9 x).map eS:=by
 unfold BF C9;rw[Qr];rfl
def DI:Dt->U Dt
 |.tup ds=>ds
 |.lst ds=>ds
 |.str x=>BF x
 |_=>[]
def dP(a:R fa ρ (zE eD)):R (RD fa) ρ (iE eD):=⟨DI a.v,bx a.D (Z (Mq a.v=true)),λh=>by
 obtain⟨h,b⟩:=aB h;have b:Mq a.v=true:=b;simp only[RD,a.ok h,At];cases c:a.v<;>rw[c]at b<;>first|(cases b;done)|(simp only[Zq,DI,iE,eD,List.map_id_fun',id])⟩
def LF(a:R fa ρ (oE e)):R (Fm fa) ρ (iE e):=⟨a.v,a.D,λh=>by simp only[Fm,a.ok h,At,G1]⟩
def rng(i:Int)(n:Nat):U Int:=(List.range n).map λk:Nat=>i+(k:Int)
theorem WB(i:Int)(n:Nat):Ox i n=(rng i n).map eI:=by
 unfold Ox rng;rw[Qr];rfl
def Rg(j:Int):Prop:=-4611686018427387904<=j/\j<4611686018427387904
def Qu(a:R fa ρ (zE eI)):R (ZG (aq fa aH)) ρ (iE eI):=⟨rng 0 a.v.toNat,bx a.D (Z (Rg a.v)),λh=>by
 obtain⟨h,b⟩:=aB h;simp only[ZG,aq,aH,a.ok h,At];show(if -(2 ^ 62)<=a.v/\a.v<2 ^ 62 then Z (Ox 0 a.v.toNat)else Y)=_;exact(zo b).trans (by rw[WB])⟩
end
section
variable{ε σ τ:Type}{fd:Ev->O Bx}{fs:Ev->O (U Bx)}{e:α->Dt}{e':β->Dt}{g1 g2 k:Ev->O Ap}{cO:γ->Ap}
theorem lX{ρ':Ev}(h:g1 ρ=Z (.nx ρ')):aF g1 k ρ=k ρ':=by
 unfold aF;rw[h];rfl
def bL(x:R (aF g (aF g1 k)) ρ cO):R (aF (aF g g1) k) ρ cO:=⟨x.v,x.D,λh=>by
 rw[<-x.ok h];unfold aF;cases g ρ with
 |none=>rfl
 |some o=>cases o<;>rfl⟩
def bZ(x:R k ρ cO):R (aF eV k) ρ cO:=⟨x.v,x.D,λh=>x.ok h⟩
def bW(x:γ)(h:cO x=.nx (kill is ρ)):R (eF is) ρ cO:=⟨x,Y,λ_=>by rw[h];rfl⟩
def cU{c:α->Bx}(inj:α->γ)(a:R f ρ c)(h:∀x,cO (inj x)=.rt (c x))(b:∀x,Zg (c x)=Z (.rt (c x))):R (aF (fV f) k) ρ cO:=⟨inj a.v,a.D,λd=>by
 have:fV f ρ=Z (.rt (c a.v)):=by unfold fV;rw[a.ok d,At,b]
 unfold aF;rw[this,h];rfl⟩
def BZ{c:α->Bx}(i:Nat)(inj:α->γ)(a:α)(hi:ρ[i]?=Z (Z (c a)))(h:∀x,cO (inj x)=.rt (c x))(b:∀x,Zg (c x)=Z (.rt (c x))):R (aF (Dl i) k) ρ cO:=⟨inj a,Y,λd=>by
 have:Dl i ρ=Z (.rt (c a)):=by unfold Dl;rw[hi];exact b a
 unfold aF;rw[this,h];rfl⟩
def cF{c:α->Bx}(i:Nat)(a:R f ρ c)(b:∀x,WW ρ i (c x)=Z (ρ.set i (Z (c x))))(K:∀x,R k (ρ.set i (Z (c x))) cO):R (aF (Au i f) k) ρ cO:=⟨(K a.v).v,bx a.D (K a.v).D,λd=>by
 obtain⟨h1,h2⟩:=aB d;rw[lX (ρ':=ρ.set i (Z (c a.v))) (by unfold Au;rw[a.ok h1,At,b,At])];exact(K a.v).ok h2⟩
def V1(a:R f ρ (zE e))(b:α->Ev)(hg:∀x,gt (e x) ρ=Z (b x))(K:∀x,R k (b x) cO):R (aF (W6 gt f) k) ρ cO:=⟨(K a.v).v,bx a.D (K a.v).D,λc=>by
 obtain⟨h1,h2⟩:=aB c;rw[lX (ρ':=b a.v) (by unfold W6;rw[a.ok h1,At];simp only[hg,At])];exact(K a.v).ok h2⟩
def N4(i j:Nat)(a:R fa ρ (zE e))(b:R fb ρ (zE e'))(K:∀x y,R k ((ρ.set i (Z (.z (e x)))).set j (Z (.z (e' y)))) cO):R (aF (G0 i j (aq fa (aq fb aH))) k) ρ cO:=⟨(K a.v b.v).v,bx (bx a.D b.D) (K a.v b.v).D,λd=>by
 obtain⟨h1,c⟩:=aB d;obtain⟨h1,h2⟩:=aB h1;rw[lX (ρ':=(ρ.set i (Z (.z (e a.v)))).set j (Z (.z (e' b.v)))) (by unfold G0;simp only[aq,aH,a.ok h1,b.ok h2,At,FC])];exact(K a.v b.v).ok c⟩
def GK(i:Nat)(xs:U α)(hi:ρ[i]?=Z (Z (.o (xs.map e))))(a:R f ρ (zE e))(K:∀ys:U α,R k (ρ.set i (Z (.o (ys.map e)))) cO):R (aF (Li i f) k) ρ cO:=⟨(K (xs++[a.v])).v,bx (bx a.D (Z (HW xs.length))) (K (xs++[a.v])).D,λc=>by
 obtain⟨h1,b⟩:=aB c;obtain⟨h1,h2⟩:=aB h1;have h2:xs.length<=1000000:=h2;rw[lX (ρ':=ρ.set i (Z (.o ((xs++[a.v]).map e)))) (by
  unfold Li;rw[a.ok h1,At];simp only[FH,hi,zl,qq,zw,kb];rw[zo (Nat.lt_of_le_of_lt h2 (by decide))])]
 exact(K _).ok b⟩
def mJ(t:R p ρ tE)(a:R (aF g1 k) ρ cO)(b:R (aF g2 k) ρ cO):R (aF (xV p g1 g2) k) ρ cO:=⟨if t.v=true then a.v else b.v,bx t.D (bx (Gw (t.v=true) a.D) (Gw (t.v=false) b.D)),λg=>by
 obtain⟨h1,h2⟩:=aB g;obtain⟨h2,f⟩:=aB h2;have e1:∀c,t.v=c->aF (xV p g1 g2) k ρ=aF (if c=true then g1 else g2) k ρ:=λc e=>by
  unfold aF xV;rw[t.ok h1,At,e];cases c<;>rfl
 cases d:t.v with
 |true=>rw[e1 true d];simp only[qS];exact a.ok (lU h2 d)
 |false=>rw[e1 false d];simp only[zr,ZN];exact b.ok (lU f d)⟩
def GP(E:σ->Ev)(t:R p ρ tE)(a:R g1 ρ (λs=>Ap.nx (E s)))(b:R g2 ρ (λs=>Ap.nx (E s)))(K:∀s,R k (E s) cO):R (aF (xV p g1 g2) k) ρ cO:=⟨(K (if t.v=true then a.v else b.v)).v,bx (bx t.D (bx (Gw (t.v=true) a.D) (Gw (t.v=false) b.D))) (K (if t.v=true then a.v else b.v)).D,λf=>by
 obtain⟨h,d⟩:=aB f;obtain⟨h1,h2⟩:=aB h;obtain⟨h2,e⟩:=aB h2;rw[lX (ρ':=E (if t.v=true then a.v else b.v)) (by
  unfold xV;rw[t.ok h1,At];cases c:t.v with
  |true=>simp only[qS];exact a.ok (lU h2 c)
  |false=>simp only[zr,ZN];exact b.ok (lU e c))]
 exact(K _).ok d⟩
def ou(step:σ->α->σ)(P:σ->α->O Prop):U α->σ->Prop
 |[],_=>True
 |x::xs,s=>hold (P s x)/\ou step P xs (step s x)
theorem zR{gb:Ev->O Ap}(E:σ->Ev)(a:σ->α->Ev)(hg:∀s x,gt (e x) (E s)=Z (a s x))(body:∀s x,R gb (a s x) (λs=>Ap.nx (E s))):∀(xs:U α) (s:σ),ou (λs x=>(body s x).v) (λs x=>(body s x).D) xs s->rR gt gb (xs.map e) (E s)=Z (.nx (E (xs.foldl (λs x=>(body s x).v) s)))
 |[],s,_=>rfl
 |x::xs,s,h=>by
  simp only[zw,rR,hg,At,(body s x).ok h.1,qh];exact zR E a hg body xs _ h.2
def Kc(E:σ->Ev)(a:σ)(f:ρ=E a)(it:R fi ρ (iE e))(b:σ->α->Ev)(hg:∀s x,gt (e x) (E s)=Z (b s x))(body:∀s x,R gb (b s x) (λs=>Ap.nx (E s)))(K:∀s,R k (E s) cO):R (aF (xZ fi gt gb) k) ρ cO:=⟨(K (it.v.foldl (λs x=>(body s x).v) a)).v,bx (bx it.D (Z (ou (λs x=>(body s x).v) (λs x=>(body s x).D) it.v a))) (K (it.v.foldl (λs x=>(body s x).v) a)).D,λc=>by
 obtain⟨h,d⟩:=aB c;obtain⟨h1,h2⟩:=aB h;rw[lX (ρ':=E (it.v.foldl (λs x=>(body s x).v) a)) (by
  unfold xZ;rw[it.ok h1,At];subst f;exact zR E b hg body it.v a h2)]
 exact(K _).ok d⟩
def WP(E:σ->Ev)(a:σ)(g:ρ=E a)(it:R fi ρ (iE e))(b:σ->α->Ev)(hg:∀s x,gt (e x) (E s)=Z (b s x))(body:∀s x,R gb (b s x) (λs=>Ap.nx (E s)))(hb:∀s x,(body s x).D=Y)(K:∀s,R k (E s) cO):R (aF (xZ fi gt gb) k) ρ cO:=⟨(K (it.v.foldl (λs x=>(body s x).v) a)).v,bx it.D (K (it.v.foldl (λs x=>(body s x).v) a)).D,λd=>by
 obtain⟨h1,f⟩:=aB d;have h2:∀(xs:U α) (s:σ),ou (λs x=>(body s x).v) (λs x=>(body s x).D) xs s:=λxs=>by
  induction xs with
  |nil=>intro s;trivial
  |cons x xs c=>intro s;exact⟨by show hold (body s x).D;rw[hb s x];trivial,c _⟩
 rw[lX (ρ':=E (it.v.foldl (λs x=>(body s x).v) a)) (by
  unfold xZ;rw[it.ok h1,At];subst g;exact zR E b hg body it.v a (h2 _ _))]
 exact(K _).ok f⟩
inductive qT (σ τ:Type) where
 |nx (s:σ)|rt (r:τ)|bk (s:σ)|ct (s:σ)
def cC(E:σ->Ev)(c:τ->Bx):qT σ τ->Ap
 |.nx s=>.nx (E s)
 |.rt r=>.rt (c r)
 |.bk s=>.bk (E s)
 |.ct s=>.ct (E s)
def vU(step:σ->α->qT σ τ):U α->σ->qT σ τ
 |[],s=>.nx s
 |x::xs,s=>match step s x with
  |.nx s'=>vU step xs s'
  |.ct s'=>vU step xs s'
  |.bk s'=>.nx s'
  |.rt r=>.rt r
def GQ(step:σ->α->qT σ τ)(P:σ->α->O Prop):U α->σ->Prop
 |[],_=>True
 |x::xs,s=>hold (P s x)/\match step s x with
  |.nx s'=>GQ step P xs s'
  |.ct s'=>GQ step P xs s'
  |.bk _=>True
  |.rt _=>True
theorem Mr{c:τ->Bx}(E:σ->Ev)(a:σ->α->Ev)(hg:∀s x,gt (e x) (E s)=Z (a s x))(body:∀s x,R gb (a s x) (cC E c)):∀(xs:U α) (s:σ),GQ (λs x=>(body s x).v) (λs x=>(body s x).D) xs s->rR gt gb (xs.map e) (E s)=Z (cC E c (vU (λs x=>(body s x).v) xs s))
 |[],s,_=>rfl
 |x::xs,s,h=>by
  obtain⟨h1,h2⟩:=h;dsimp only at h2;simp only[zw,rR,hg,At,(body s x).ok h1,vU]
  revert h2
  cases(body s x).v with
  |nx s'=>intro h2;exact Mr E a hg body xs s' h2
  |ct s'=>intro h2;exact Mr E a hg body xs s' h2
  |bk s'=>intro _;rfl
  |rt r=>intro _;rfl
theorem GR(step:σ->α->qT σ τ):∀(xs:U α) (s:σ),(∃s',vU step xs s=.nx s')\/∃r,vU step xs s=.rt r
 |[],s=>.inl ⟨s,rfl⟩
 |x::xs,s=>by
  unfold vU;cases step s x with
  |nx s'=>exact GR step xs s'
  |ct s'=>exact GR step xs s'
  |bk s'=>exact .inl ⟨s',rfl⟩
  |rt r=>exact .inr ⟨r,rfl⟩
def BO(r:qT σ τ)(inj:τ->γ)(K:σ->γ):γ:=match r with
 |.rt r=>inj r
 |.nx s=>K s
 |.bk s=>K s
 |.ct s=>K s
def zT(r:qT σ τ)(K:σ->Prop):Prop:=match r with
 |.rt _=>True
 |.nx s=>K s
 |.bk s=>K s
 |.ct s=>K s
def V2(r:qT σ τ)(K:σ->O Prop):O Prop:=Z (zT r λs=>hold (K s))
theorem PQ(h:ρ[i]?=Z (Z (.l ds))):sU i gt gb ρ=rR gt gb ds ρ:=by unfold sU;rw[h]
theorem Ms(h:ρ[i]?=Z (Z (.z (.tup ds)))):sU i gt gb ρ=rR gt gb ds ρ:=by unfold sU;rw[h];rfl
theorem ay(h:ρ[i]?=Z (Z (.z (.lst ds)))):sU i gt gb ρ=rR gt gb ds ρ:=by unfold sU;rw[h];rfl
theorem MU(hp:Lp b ds)(h:ρ[i]?=Z (Z b)):sU i gt gb ρ=rR gt gb ds ρ:=by
 rcases hp with rfl|rfl
 ·exact ay h
 ·exact PQ h
def Mt(i:Nat){ρ':Ev}(xs:U α)(c:sU i gt gb ρ=rR gt gb (xs.map e) ρ')(E:σ->Ev)(a:σ)(g:ρ'=E a)(b:σ->α->Ev)(hg:∀s x,gt (e x) (E s)=Z (b s x))(body:∀s x,R gb (b s x) (λs=>Ap.nx (E s)))(K:∀s,R k (E s) cO):R (aF (sU i gt gb) k) ρ cO:=⟨(K (xs.foldl (λs x=>(body s x).v) a)).v,bx (Z (ou (λs x=>(body s x).v) (λs x=>(body s x).D) xs a)) (K (xs.foldl (λs x=>(body s x).v) a)).D,λd=>by
 obtain⟨h2,f⟩:=aB d;rw[lX (ρ':=E (xs.foldl (λs x=>(body s x).v) a)) (by
  rw[c,g];exact zR E b hg body xs a h2)]
 exact(K _).ok f⟩
def V3{c:τ->Bx}(i:Nat){ρ':Ev}(xs:U α)(g:sU i gt gb ρ=rR gt gb (xs.map e) ρ')(E:σ->Ev)(a:σ)(j:ρ'=E a)(b:σ->α->Ev)(hg:∀s x,gt (e x) (E s)=Z (b s x))(body:∀s x,R gb (b s x) (cC E c))(inj:τ->γ)(f:∀r,cO (inj r)=.rt (c r))(K:∀s,R k (E s) cO):R (aF (sU i gt gb) k) ρ cO:=⟨BO (vU (λs x=>(body s x).v) xs a) inj λs=>(K s).v,bx (Z (GQ (λs x=>(body s x).v) (λs x=>(body s x).D) xs a)) (V2 (vU (λs x=>(body s x).v) xs a) λs=>(K s).D),λh=>by
 obtain⟨h2,d⟩:=aB h;have e1:sU i gt gb ρ=Z (cC E c (vU (λs x=>(body s x).v) xs a)):=by
  rw[g,j];exact Mr E b hg body xs a h2
 rcases GR (λs x=>(body s x).v) xs a with⟨s',es⟩|⟨r,es⟩
 ·rw[es]at e1 d ⊢;rw[lX e1];exact(K s').ok d
 ·rw[es]at e1 ⊢;show aF (sU i gt gb) k ρ=Z (cO (inj r));unfold aF;rw[e1,f];rfl⟩
class Ky {κ:Type} (c:κ->AY):Prop where
 inj:∀a b,c a=c b->a=b
abbrev kS:AJ->AY:=Sum.inr
abbrev kI:Int->AY:=Sum.inl
instance:Ky kS:=⟨λ_ _ h=>by cases h;rfl⟩
instance:Ky kI:=⟨λ_ _ h=>by cases h;rfl⟩
abbrev mE(e:α->Dt):U (AJ×α)->Bx:=λm=>.m (m.map λq=>(kS q.1,e q.2)) Y
abbrev nE(e:α->Dt):U (AJ×α)->Bx:=λm=>.n (m.map λq=>(kS q.1,e q.2))
section
variable [DecidableEq κ] {c:κ->AY}
def look[Inhabited α](m:U (κ×α))(x:κ):α:=((m.find? λq=>decide (q.1=x)).map (·.2)).getD default
def has(m:U (κ×α))(x:κ):Bool:=m.any λq=>decide (q.1=x)
def put(m:U (κ×α))(x:κ)(a:α):U (κ×α):=if has m x=true then m.map (λq=>if q.1=x then(q.1,a)else q)else m++[(x,a)]
theorem HE[Ky c](a b:κ):decide (c a=c b)=decide (a=b):=by
 by_cases h:a=b
 ·rw[h];simp
 ·rw[ZH h,ZH λz=>h (Ky.inj (c:=c) _ _ z)]
theorem cz[Ky c](m:U (κ×α))(x:κ):FQ (m.map λq=>(c q.1,e q.2)) (c x)=((m.find? λq=>decide (q.1=x)).map (·.2)).map e:=by
 unfold FQ;rw[List.find?_map];simp only[Option.map_map,Function.comp_def,HE]
theorem YY[Ky c][Inhabited α]{m:U (κ×α)}{x:κ}(h:has m x=true):FQ (m.map λq=>(c q.1,e q.2)) (c x)=Z (e (look m x)):=by
 rw[cz];unfold look;unfold has at h;rw[JU]at h;obtain⟨q,b,hx⟩:=h;cases a:m.find? λq=>decide (q.1=x)with
 |none=>exact absurd hx (by simpa using List.find?_eq_none.mp a q b)
 |some q=>rfl
theorem V4[Ky c](m:U (κ×α))(x:κ)(a:α):Lr (m.map λq=>(c q.1,e q.2)) (c x) (e a)=(put m x a).map λq=>(c q.1,e q.2):=by
 unfold Lr put has;rw[List.any_map];simp only[Function.comp_def,HE];by_cases h:(m.any λq=>decide (q.1=x))=true
 ·rw[zo h,zo h];rw[Qr,Qr];refine QO λq _=>?_;simp only[Function.comp];by_cases b:q.1=x
  ·simp[b]
  ·have h':¬ c q.1=c x:=λz=>b (Ky.inj (c:=c) _ _ z);simp[b,h']
 ·rw[zC h,zC h];simp
end
theorem Qv:∀m:U (AJ×α),Xa (m.map λq=>(kS q.1,e q.2))=Z (m.map (·.1))
 |[]=>rfl
 |q::m=>by rw[zw,Xa,Qv m,At];rfl
def jh[Inhabited α](a:R fa ρ (nE e))(b:R fb ρ (zE eS)):R (b2 lC fa fb) ρ (zE e):=⟨look a.v b.v,bx (bx a.D b.D) (Z (has a.v b.v=true)),λh=>by
 obtain⟨h,d⟩:=aB h;obtain⟨h1,h2⟩:=aB h;simp only[b2,a.ok h1,b.ok h2,At,lC,Cf,YY (c:=kS) (show has a.v b.v=true from d)]⟩
def Pc(e:α->Dt):R (λ_=>Z (.m [] Y)) ρ (mE e):=⟨[],Y,λ_=>Δ⟩
end
section
variable{fs:Ev->O An}{e:α->Dt}
theorem V5(h:rO b=Z ds):vJ b=Z ds:=by
 cases b with
 |z d=>cases d<;>first|exact h|(cases h;done)
 |l _=>exact h
 |o _=>exact h
 |n _=>cases h
 |m _ _=>cases h
end
end P1
namespace P1
open L2 S1 S6
class qU {α:Type} (e:α->Dt) where
 k:α->AY
 ok:∀a,HR (e a)=some (k a)
 inj:∀a b,k a=k b->a=b
 same:∀a b,Vn (k a) (k b)=true
instance:qU eI:=⟨λi=>.inl i,λ_=>rfl,λa b h=>by cases h;rfl,λ_ _=>rfl⟩
instance:qU eS:=⟨λi=>.inr i,λ_=>rfl,λa b h=>by cases h;rfl,λ_ _=>rfl⟩
class rW {α:Type} (e:α->Dt) where
 k:α->List AY
 ok:∀a,JX (e a)=some (k a)
 inj:∀a b,k a=k b->a=b
 shp:∀a b,SX (k a) (k b)=true
 ne:∀a,(k a).isEmpty=false
class Eg {α:Type} (e:α->Dt) [rW e]:Prop where
 tx:∀a,Qg (rW.k e a)=true
section
variable{e:α->Dt}{e':β->Dt}{e'':γ->Dt}{e3:δ->Dt}
instance [qU e] [qU e']:rW (CO e e'):=⟨λq=>[qU.k e q.1,qU.k e' q.2],λq=>by simp only[JX,JW,qU.ok,At],λa b h=>by
 simp only[kA,and_true]at h;exact Prod.ext (qU.inj _ _ h.1) (qU.inj _ _ h.2),λa b=>by simp[SX,qU.same],λ_=>rfl⟩
instance [qU e] [qU e'] [qU e'']:rW (Cs e e' e''):=⟨λq=>[qU.k e q.1,qU.k e' q.2.1,qU.k e'' q.2.2],λq=>by simp only[JX,JW,qU.ok,At],λa b h=>by
 simp only[kA,and_true]at h;exact Prod.ext (qU.inj _ _ h.1) (Prod.ext (qU.inj _ _ h.2.1) (qU.inj _ _ h.2.2)),λa b=>by simp[SX,qU.same],λ_=>rfl⟩
instance [qU e] [qU e'] [qU e''] [qU e3]:rW (Xz e e' e'' e3):=⟨λq=>[qU.k e q.1,qU.k e' q.2.1,qU.k e'' q.2.2.1,qU.k e3 q.2.2.2],λq=>by simp only[JX,JW,qU.ok,At],λa b h=>by
 simp only[kA,and_true]at h;exact Prod.ext (qU.inj _ _ h.1) (Prod.ext (qU.inj _ _ h.2.1) (Prod.ext (qU.inj _ _ h.2.2.1) (qU.inj _ _ h.2.2.2))),λa b=>by simp[SX,qU.same],λ_=>rfl⟩
instance [qU e]:Eg (CO e eS):=⟨λa=>by simp[rW.k,Qg,qU.k]⟩
instance [qU e] [qU e']:Eg (Cs e eS e'):=⟨λa=>by simp[rW.k,Qg,qU.k]⟩
instance [qU e] [qU e'] [qU e'']:Eg (Xz e eS e' e''):=⟨λa=>by simp[rW.k,Qg,qU.k]⟩
variable{fs:Ev->O (U (U AY))}
theorem yp[rW e]:∀xs:U α,yj (xs.map e)=Z (xs.map (rW.k e))
 |[]=>rfl
 |x::xs=>by simp only[zw,yj,rW.ok,At,yp xs]
def E6(e:α->Dt)[rW e](a b:α):Bool:=yg (rW.k e a) (rW.k e b)
def pB(e:α->Dt)[rW e](xs:U α):U α:=xs.mergeSort (E6 e)
theorem kE[rW e](xs:U α):(pB e xs).Perm xs:=List.mergeSort_perm ..
theorem tL[rW e](xs:U α):(pB e xs).Pairwise (λa b=>E6 e a b=true):=yY (le:=E6 e) (λa b c=>FW (rW.k e a) (rW.k e b) (rW.k e c)) (λa b=>FZ (rW.k e a) (rW.k e b)) xs
theorem P9[rW e]{a b:α}(h:E6 e a b=true)(h':E6 e b a=true):a=b:=rW.inj _ _ (JR h h')
theorem Qw[rW e]{xs out:U α}(hp:out.Perm xs)(hs:out.Pairwise (λa b=>E6 e a b=true)):out=pB e xs:=vM (λ_ _=>P9) (hp.trans (kE xs).symm) hs (tL xs)
theorem Kd[rW e](xs:U α):mL (xs.map (rW.k e))=(pB e xs).map (rW.k e):=by
 refine(wH ((kE xs).map _) (List.pairwise_map.mpr (tL xs))).symm
theorem My[rW e](xs:U α):(xs.map (rW.k e)).map BG=xs.map e:=by
 rw[Qr];exact QO λa _=>(Px (rW.ok a)).symm
theorem Qx[rW e](xs:U α)(h:xs.length<64):Ik (xs.map (rW.k e))=true:=by
 simp only[Ik,ZY,Z3,qB,JA,zl,List.mem_map,forall_exists_index,and_imp,forall_apply_eq_imp_iff₂];exact⟨h,λa _=>rW.ne a,λa _ b _=>rW.shp a b⟩
def LM[rW e](a:RL fa ρ e):R (dM Gb (aq fa aH)) ρ (oE e):=⟨pB e a.v,bx a.D (Z (a.v.length<64)),λh=>by
 obtain⟨h,b⟩:=aB h;simp only[dM,aq,aH,a.ok h,At,Gb,V5 a.lk,yp,Qx a.v b,qS,Kd,My]⟩
abbrev uE(e:α->Dt)[rW e]:U α->U (U AY):=λxs=>xs.map (rW.k e)
def IG[rW e][Eg e](a:RL fa ρ e):R (Tj fa) ρ (uE e):=⟨a.v,bx a.D (Z (a.v.length<=64)),λh=>by
 obtain⟨h,b⟩:=aB h;have b:a.v.length<=64:=b;have c:(a.v.map (rW.k e)).all Qg=true:=by
  rw[List.all_map,qB];exact λx _=>Eg.tx x
 simp only[Tj,a.ok h,At,IZ,V5 a.lk,yp];rw[zo ⟨by rw[zl];exact b,c⟩]⟩
def MB[DecidableEq α][rW e](a:R fs ρ (uE e)):R (Gj fs) ρ (oE e):=⟨pB e (Ip a.v),bx a.D (Z (a.v.length<64)),λh=>by
 obtain⟨h,b⟩:=aB h;simp only[Gj,a.ok h,At,Qx a.v b,qS,Mi rW.inj,Kd,My]⟩
end
end P1
namespace P1
open L2
section
variable{fd:Ev->O Bx}{fs:Ev->O (U Bx)}{e:α->Dt}{e':β->Dt}{k:Ev->O Ap}{cO:γ->Ap}
abbrev mW(w:O A1)(e:α->Dt):U (AJ×α)->Bx:=λm=>.m (m.map λq=>(kS q.1,e q.2)) w
def aM(e:α->Dt)(t:γ->U Bx->Prop):U (AJ×α)×γ->U Bx->Prop:=λx bs=>∃b r,bs=b::r/\(b=nE e x.1\/b=mE e x.1)/\t x.2 r
def FY{t:γ->U Bx->Prop}(a:R fa ρ (nE e))(r:AR t fs ρ):AR (aM e t) (aq fa fs) ρ:=⟨(a.v,r.v),bx a.D r.D,_,⟨_,_,rfl,.inl rfl,r.h⟩,λh=>by
 obtain⟨h1,h2⟩:=aB h;simp only[aq,a.ok h1,r.ok h2,At]⟩
def PP{t:γ->U Bx->Prop}(a:R fa ρ (mE e))(r:AR t fs ρ):AR (aM e t) (aq fa fs) ρ:=⟨(a.v,r.v),bx a.D r.D,_,⟨_,_,rfl,.inr rfl,r.h⟩,λh=>by
 obtain⟨h1,h2⟩:=aB h;simp only[aq,a.ok h1,r.ok h2,At]⟩
def Mu(w:O A1)(i:Nat)(m:U (AJ×α))(hi:ρ[i]?=Z (Z (mW w e m)))(a:R fa ρ (zE e))(b:R fb ρ (zE eS))(K:∀f:U (AJ×α),R k (ρ.set i (Z (mW w e f))) cO):R (aF (Pk i fa fb) k) ρ cO:=⟨(K (put m b.v a.v)).v,bx (bx (bx a.D b.D) (Z (m.length<1000))) (K (put m b.v a.v)).D,λg=>by
 obtain⟨h,c⟩:=aB g;obtain⟨h,d⟩:=aB h;obtain⟨h1,h2⟩:=aB h;rw[lX (ρ':=ρ.set i (Z (mW w e (put m b.v a.v)))) (by
  unfold Pk;rw[a.ok h1,At,b.ok h2,At];simp only[Pj,Cf,At,hi,mW,zl,zo (show m.length<1000 from d),V4])]
 exact(K _).ok c⟩
def EQ(a:U (AJ×β)):U (AJ×β):=a.foldl (λm q=>put m q.1 q.2) []
theorem T5(a:U (AJ×β)):dictOf (a.map (CO eS e'))=(EQ a).map λq=>(kS q.1,e' q.2):=by
 unfold dictOf EQ;have:∀(a:U (AJ×β)) (m:U (AJ×β)),(a.map (CO eS e')).foldl Hm (m.map λq=>(kS q.1,e' q.2))=(a.foldl (λm q=>put m q.1 q.2) m).map λq=>(kS q.1,e' q.2):=by
  intro a
  induction a with
  |nil=>intro m;rfl
  |cons q a b=>
   intro m;rw[zw,qh,qh];show(a.map (CO eS e')).foldl Hm (Lr (m.map λq=>(kS q.1,e' q.2)) (kS q.1) (e' q.2))=_;rw[V4 (c:=kS)];exact b _
 exact this a []
def WJ(a:R fk ρ (zE eS))(b:R fv ρ (zE e)):R (b2 Gk fk fv) ρ (zE (CO eS e)):=⟨(a.v,b.v),bx a.D b.D,λh=>by
 obtain⟨h1,h2⟩:=aB h;simp only[b2,a.ok h1,b.ok h2,At,Gk]⟩
def NE(i:R fi ρ (iE e))(a:R (iJ fi gt p (b2 Gk fk fv) is n) ρ (oE (CO eS e'))):R (Vy fi gt p fk fv is n) ρ (mE e'):=⟨EQ a.v,bx (bx i.D (Z (i.v.length<1000))) a.D,λh=>by
 obtain⟨h,c⟩:=aB h;obtain⟨h1,h2⟩:=aB h;have h2:i.v.length<1000:=h2;have ha:=a.ok c;unfold iJ at ha;unfold Vy;rw[i.ok h1,At]at ha ⊢;rw[zo (by rw[zl];omega)]at ha;rw[zo (by rw[zl];exact h2)];obtain⟨d,b,ha⟩:=AT ha;rw[b,At];injection ha with ha;injection ha with ha;rw[ha,T5]⟩
def IS(a:R fd ρ (nE e)):R (Qj fd) ρ (iE eS):=⟨a.v.map (·.1),a.D,λh=>by
 simp only[Qj,a.ok h,At,Ch,Qr];rfl⟩
def O'(a:R fa ρ (nE e)):R (dM Gp (aq fa aH)) ρ (oE eS):=⟨a.v.map (·.1),a.D,λh=>by
 simp only[dM,aq,aH,a.ok h,At,Gp,Qv]⟩
def X'(a:R fa ρ (zE eS))(b:R fb ρ (zE eS)):R (dM Gn (aq fa (aq fb aH))) ρ (zE eS):=⟨if mQ b.v a.v=true then b.v else a.v,bx a.D b.D,λh=>by
 obtain⟨h1,h2⟩:=aB h;simp only[dM,aq,aH,a.ok h1,b.ok h2,At,Gn];rfl⟩
theorem ap{bs:U Bx}{m:U (AJ×α)}{c:U (AJ×α)->Ev}(x:R g ((mW (Z a) e m::bs).map Z++List.replicate (n-(bs.length+1)) Y) (λb=>Ap.nx (c b)))(h:hold x.D)(h0:∀b,(c b)[0]?=Z (Z (mW (Z a) e b))):Qm n g a (m.map λq=>(kS q.1,e q.2)) bs=Z (x.v.map λq=>(kS q.1,e q.2)):=by
 unfold Qm;rw[x.ok h,At];simp only[h0,qS]
def T6{c:γ->U Bx->Prop}{cO:δ->Ap}{T:U (AJ×α)->γ->U (AJ×α)}{b:U (AJ×α)->γ->O Prop}(w:O A1)(i:Nat)(m:U (AJ×α))(hi:ρ[i]?=Z (Z (mW w e m)))(S:∀m v bs,c v bs->bs.length=n/\bs.all DA=true/\(hold (b m v)->∀a,G a (m.map λq=>(kS q.1,e q.2)) bs=Z ((T m v).map λq=>(kS q.1,e q.2))))(a:AR c fs ρ)(K:∀g:U (AJ×α),R k (ρ.set i (Z (mW w e g))) cO):R (aF (CJ i n G fs) k) ρ cO:=⟨(K (T m a.v)).v,bx (bx a.D (b m a.v)) (K (T m a.v)).D,λd=>by
 obtain⟨h,f⟩:=aB d;obtain⟨h1,h2⟩:=aB h;obtain⟨j,l,o⟩:=S m a.v a.bs a.h;rw[lX (cm hi (a.ok h1) j l (o h2))];exact(K _).ok f⟩
end
section
variable{e:α->Dt}
def T7[DecidableEq α](x:α)(ys:U α):Bool:=decide (x∈ys)
theorem T'[DecidableEq α]{x:α}{ys:U α}:T7 x ys=true↔x∈ys:=by unfold T7;rw[Z3]
theorem TN[DecidableEq α][B7 e n](b:n<=60)(x:α)(ys:U α):EO (e x) (ys.map e)=Z (decide (x∈ys)):=by
 unfold EO;rw[zo]
 ·congr 1;rw[List.any_map,JI,JU,Z3];constructor
  ·rintro⟨y,a,h⟩;simp only[Function.comp,B7.eq]at h;by_cases q:y=x
   ·exact q▸a
   ·simp[q,DB]at h
  ·intro h;exact⟨x,h,by simp[Function.comp,B7.eq,DB]⟩
 ·rw[List.all_map,qB];intro y _;have:=B7.dp (e:=e) y;simp only[Function.comp,B7.eq,ye,yz,Z3];omega
def Ta[DecidableEq α][B7 e n](c:n<=60)(a:R fa ρ (zE e))(b:R fb ρ (zE (eT e))):R (b2 ES fa fb) ρ (zE eB):=⟨!T7 a.v b.v,bx a.D b.D,λh=>by
 obtain⟨h1,h2⟩:=aB h;simp only[b2,a.ok h1,b.ok h2,At,ES,vJ,eT,TN c,T7]⟩
end
end P1
namespace P1
open L2 S1 S6
section
variable{e:α->Dt}
theorem map_some(e:α->Dt)(xs:U α):(xs.map Z).map (eO e)=xs.map e:=by rw[Qr];rfl
end
end P1
namespace P1
open L2
section
variable{k:Ev->O Ap}{cO:α->Ap}
end
section
variable{e:α->Dt}
end
section
variable{σ τ:Type}{k:Ev->O Ap}{cO:γ->Ap}
def Ke(a:σ->Bool)(step:σ->qT σ τ):Nat->σ->qT σ τ
 |0,s=>.nx s
 |n+1,s=>if a s=true then(match step s with
  |.nx s'=>Ke a step n s'
  |.ct s'=>Ke a step n s'
  |.bk s'=>.nx s'
  |.rt r=>.rt r)else .nx s
def DF(b:σ->Bool)(a:σ->O Prop)(step:σ->qT σ τ)(P:σ->O Prop):Nat->σ->Prop
 |0,_=>False
 |n+1,s=>hold (a s)/\(b s=true->hold (P s)/\match step s with
  |.nx s'=>DF b a step P n s'
  |.ct s'=>DF b a step P n s'
  |.bk _=>True
  |.rt _=>True)
theorem Mv(a:σ->Bool)(step:σ->qT σ τ):∀(n:Nat) (s:σ),(∃s',Ke a step n s=.nx s')\/∃r,Ke a step n s=.rt r
 |0,s=>.inl ⟨s,rfl⟩
 |n+1,s=>by
  unfold Ke;split
  ·cases step s with
   |nx s'=>exact Mv a step n s'
   |ct s'=>exact Mv a step n s'
   |bk s'=>exact .inl ⟨s',rfl⟩
   |rt r=>exact .inr ⟨r,rfl⟩
  ·exact .inl ⟨s,rfl⟩
theorem T8{c:τ->Bx}(E:σ->Ev)(a:∀s,R p (E s) tE)(body:∀s,R gb (E s) (cC E c)):∀(n:Nat) (s:σ),DF (λs=>(a s).v) (λs=>(a s).D) (λs=>(body s).v) (λs=>(body s).D) n s->Xv p gb n (E s)=Z (cC E c (Ke (λs=>(a s).v) (λs=>(body s).v) n s))
 |0,s,h=>absurd h id
 |n+1,s,h=>by
  obtain⟨h1,h2⟩:=h;have e:p (E s)=Z (a s).v:=(a s).ok h1;unfold Xv Ke;rw[e,At];cases f:(a s).v with
  |false=>rfl
  |true=>
   obtain⟨d,b⟩:=h2 f;rw[zo rfl,zo rfl,(body s).ok d,At];cases hb:(body s).v with
   |nx s'=>dsimp only at b;rw[hb]at b;exact T8 E a body n s' b
   |ct s'=>dsimp only at b;rw[hb]at b;exact T8 E a body n s' b
   |bk s'=>rfl
   |rt r=>rfl
def V6{c:τ->Bx}(n:Nat)(E:σ->Ev)(a:σ)(e:ρ=E a)(b:∀s,R p (E s) tE)(body:∀s,R gb (E s) (cC E c))(inj:τ->γ)(f:∀r,cO (inj r)=.rt (c r))(K:∀s,R k (E s) cO):R (aF (Xv p gb n) k) ρ cO:=
 ⟨BO (Ke (λs=>(b s).v) (λs=>(body s).v) n a) inj λs=>(K s).v,bx (Z (DF (λs=>(b s).v) (λs=>(b s).D) (λs=>(body s).v) (λs=>(body s).D) n a)) (V2 (Ke (λs=>(b s).v) (λs=>(body s).v) n a) λs=>(K s).D),λg=>by
 obtain⟨h2,d⟩:=aB g;have e1:Xv p gb n ρ=Z (cC E c (Ke (λs=>(b s).v) (λs=>(body s).v) n a)):=by
  subst e;exact T8 E b body n a h2
 rcases Mv (λs=>(b s).v) (λs=>(body s).v) n a with⟨s',es⟩|⟨r,es⟩
 ·rw[es]at e1 d ⊢;rw[lX e1];exact(K s').ok d
 ·rw[es]at e1 ⊢;show aF (Xv p gb n) k ρ=Z (cO (inj r));unfold aF;rw[e1,f];rfl⟩
end
section
variable{e:α->Dt}
end
section
variable{σ τ:Type}
theorem Mw{step:σ->α->σ}{P:σ->α->O Prop}(I:Nat->σ->Prop):∀(xs:U α) (m:Nat) (a:σ),I m a->(∀k x s,xs[k]?=Z x->I (m+k) s->hold (P s x)/\I (m+k+1) (step s x))->ou step P xs a/\I (m+xs.length) (xs.foldl step a)
 |[],m,a,h0,_=>⟨trivial,h0⟩
 |x::xs,m,a,h0,hs=>by
  obtain⟨h1,h2⟩:=hs 0 x a Δ h0;have:=Mw I xs (m+1) (step a x) h2 λk y s e h=>by
   have:=hs (k+1) y s (by simpa using e) (by rw[show m+(k+1)=m+1+k by omega];exact h);rw[show m+(k+1)+1=m+1+k+1 by omega]at this;exact this
  refine⟨⟨h1,this.1⟩,?_⟩;rw[qk,show m+(xs.length+1)=m+1+xs.length by omega];exact this.2
theorem Tx{i:Int}{k:Nat}{x:Int}(h:(rng i n)[k]?=Z x):x=i+k/\k<n:=by
 unfold rng at h;rw[Zp]at h;cases a:(List.range n)[k]? with
 |none=>rw[a]at h;cases h
 |some j=>
  rw[a]at h;have b:k<n:=by simpa using(List.getElem?_eq_some_iff.mp a).1
  have:j=k:=by
   rw[KS b]at a;cases a;rfl
  subst this;cases h;exact⟨rfl,b⟩
theorem zU(i:Int)(n:Nat):(rng i n).length=n:=by unfold rng;simp
theorem zV{step:σ->Int->σ}{P:σ->Int->O Prop}(I:Nat->σ->Prop)(n:Nat)(a:σ)(h0:I 0 a)(hs:∀(k:Nat) s,k<n->I k s->hold (P s k)/\I (k+1) (step s k)):ou step P (rng 0 n) a/\I n ((rng 0 n).foldl step a):=by
 have:=Mw (P:=P) I (rng 0 n) 0 a h0 λk x s e h=>by
  obtain⟨rfl,b⟩:=Tx e;rw[KA]at h ⊢;rw[Int.zero_add];exact hs k s b h
 rw[zU,KA]at this;exact this
theorem GX{step:Unit->α->qT Unit Bool}{P:Unit->α->O Prop}:∀xs:U α,(∀x∈xs,hold (P () x)/\(step () x=.nx ()\/step () x=.ct ()))->vU step xs ()=.nx ()/\GQ step P xs ()
 |[],_=>⟨rfl,trivial⟩
 |x::xs,h=>by
  obtain⟨h1,h2⟩:=h x (zi ..);have a:=GX (P:=P) xs λy b=>h y (zh _ b);rcases h2 with h2|h2
  ·exact⟨by unfold vU;rw[h2];exact a.1,h1,by rw[h2];exact a.2⟩
  ·exact⟨by unfold vU;rw[h2];exact a.1,h1,by rw[h2];exact a.2⟩
theorem tM[Inhabited α]{xs:U α}{i:Int}(h:In xs.length i):at' xs i∈xs:=by
 obtain⟨x,hx⟩:=wJ h;unfold at';rw[hx];unfold HY at hx;obtain⟨j,_,hx⟩:=AT hx;exact QI hx
theorem IX[Inhabited α]{xs:U α}{k:Nat}{x:α}(h:xs[k]?=Z x):at' xs (k:Int)=x:=by
 have a:k<xs.length:=(List.getElem?_eq_some_iff.mp h).1;unfold at' HY EG;rw[zo (by omega),zo (by omega),At,kM,h];rfl
theorem Mx[Inhabited α](xs:U α)(k:Nat)(h:k<xs.length):at' xs (k:Int)=xs[k]:=IX (Zl h)
theorem BE{i:Int}(h0:0<=i)(h1:i<n):In n i:=⟨by omega,h1⟩
theorem Mz{k:Nat}(h:k<n):In n (k:Int):=⟨by omega,by omega⟩
theorem tO{x m:Int}(a:0<m)(h:m<=n):In n (x%m):=BE (Int.emod_nonneg _ (by omega)) (Int.lt_of_lt_of_le (Int.emod_lt_of_pos _ a) h)
theorem jl(x:Int){m:Int}(a:0<m):0<=x%m/\x%m<m:=⟨Int.emod_nonneg _ (by omega),Int.emod_lt_of_pos _ a⟩
theorem Qy{j:Int}(h0:0<=j)(h1:j<=1000000):Rg j:=⟨by omega,by omega⟩
theorem IH{a b:Int}(h0:0<=a)(h1:a<18446744073709551616):FI a b:=.inl ⟨by omega,h1⟩
theorem oA(x y:AJ):(x++y).length=x.length+y.length:=by
 show(x.cps++y.cps).size=_;rw[KF];rfl
theorem yq(x:AJ)(i:Int):(ch x i).length=1:=rfl
theorem slice_le(x:AJ)(l u:O Int):(Txt.slice x l u).length<=x.length:=PyProof.Txt.length_slice_le x l u
theorem XD(x:AJ):(C9 x).length=x.length:=by unfold C9;rw[zl,qi];rfl
theorem XF(x:AJ):(BF x).length=x.length:=by rw[NR,zl,XD]
end
section
variable [Inhabited α] {e:α->Dt}{k:Ev->O Ap}{cO:γ->Ap}
def eC(j i:Nat)(xs:U α)(hi:ρ[i]?=Z (Z (.o (xs.map e))))(a:R f ρ (zE eI))(K:∀(ys:U α) (y:α),R k ((ρ.set i (Z (.o (ys.map e)))).set j (Z (zE e y))) cO):R (aF (EJ j i f) k) ρ cO:=
 ⟨(K (xs.drop 1) (at' xs 0)).v,bx (bx a.D (Z (a.v=0/\0<xs.length))) (K (xs.drop 1) (at' xs 0)).D,λd=>by
 obtain⟨h1,b⟩:=aB d;obtain⟨h1,h2⟩:=aB h1;obtain⟨h0,c⟩:a.v=0/\0<xs.length:=h2;rw[lX (ρ':=(ρ.set i (Z (.o ((xs.drop 1).map e)))).set j (Z (zE e (at' xs 0)))) (by
  unfold EJ;rw[a.ok h1,At];show(match (Bx.z (Dt.int a.v))with|.z (.int k)=>_|_=>Y)=_;dsimp only;rw[hi];dsimp only;rw[h0];cases xs with
  |nil=>simp at c
  |cons x xs=>
   have e1:at' (x::xs) 0=x:=IX (xs:=x::xs) (k:=0) rfl;rw[e1,zo (by decide)];have e2:seqIndex? 0 ((x::xs).map e).length=Z 0:=by
    rw[PySem.seqIndex_of (by decide) (by simp)];rfl
   rw[e2];rfl)]
 exact(K (xs.drop 1) (at' xs 0)).ok b⟩
end
section
variable{e:α->Dt}{k:Ev->O Ap}{cO:γ->Ap}
end
section
variable{e:α->Dt}{k:Ev->O Ap}{cO:γ->Ap}
def V7[Inhabited γ]:R (aF FE k) ρ cO:=⟨default,Z False,λh=>absurd h id⟩
def MF{c:α->Bx}(a:R f ρ c)(K:R k ρ cO):R (aF (Gv f) k) ρ cO:=⟨K.v,bx a.D K.D,λb=>by
 obtain⟨h1,h2⟩:=aB b;rw[lX (ρ':=ρ) (by unfold Gv;rw[a.ok h1,At])];exact K.ok h2⟩
def Wp(a:R fa ρ (zE eS))(b:R fb ρ (zE e)):R (b2 J5 fa fb) ρ (mE e):=⟨[(a.v,b.v)],bx a.D b.D,λh=>by
 obtain⟨h1,h2⟩:=aB h;simp only[b2,a.ok h1,b.ok h2,At,J5];rfl⟩
theorem Tl[DecidableEq κ]{c:κ->AY}[Ky c](m:U (κ×α))(x:κ):Fk (m.map λq=>(c q.1,e q.2)) (c x)=has m x:=by
 unfold Fk has;rw[List.any_map];simp only[Function.comp_def,HE]
def MR(a:R fa ρ (zE eS))(b:R fb ρ (nE e)):R (b2 Xw fa fb) ρ (zE eB):=⟨!has b.v a.v,bx a.D b.D,λh=>by
 obtain⟨h1,h2⟩:=aB h;simp only[b2,a.ok h1,b.ok h2,At,Xw,Cf,nE,Tl]⟩
theorem V8{bs:U Bx}{a:γ->Ev}(x:R g (bs.map Z++List.replicate (n-bs.length) Y) (λr=>Ap.nx (a r)))(h:hold x.D):cZ n g bs=Z (.z .non):=by
 unfold cZ;rw[x.ok h];rfl
end
section
variable{e:α->Dt}
def On(a:RL fa ρ e):R (b2 Xx fa (b1 Zr (cB (.int 1)))) ρ (oE e):=⟨a.v.reverse,a.D,λh=>by
 simp only[b2,b1,a.ok h,At,cB,Zr,Xx,a.lk,qS,oE,List.map_reverse]⟩
end
section
variable{e:α->Dt}{e':β->Dt}
end
def RP(f:Ev->O β)(ρ:Ev)(c:α->β)(v:α)(D:O Prop):Prop:=hold D->f ρ=Z (c v)
theorem R.tp{f:Ev->O β}{c:α->β}{a:α}{b:O Prop}(x:R f ρ c)(e:x.v=a:=by kernel_rfl)(d:x.D=b:=by kernel_rfl):RP f ρ c a b:=λh=>by
 subst e d;exact x.ok h
def RP.r{f:Ev->O β}{c:α->β}{v:α}{D:O Prop}(h:RP f ρ c v D):R f ρ c:=⟨v,D,h⟩
theorem He{p:U α->Prop}(h:∀a,p [a]):∀us:U α,us.length=1->p us
 |[a],_=>h a
theorem HV{p:U α->Prop}(h:∀a b,p [a,b]):∀us:U α,us.length=2->p us
 |[a,b],_=>h a b
theorem Ps{p:U α->Prop}(h:∀a b c,p [a,b,c]):∀us:U α,us.length=3->p us
 |[a,b,c],_=>h a b c
theorem cc{p:U α->Prop}(h:∀a b c d,p [a,b,c,d]):∀us:U α,us.length=4->p us
 |[a,b,c,d],_=>h a b c d
theorem VX{p:U α->Prop}(h:∀a b c d e,p [a,b,c,d,e]):∀us:U α,us.length=5->p us
 |[a,b,c,d,e],_=>h a b c d e
end P1
namespace P1
open L2 S1
end P1
namespace P1
open L2
section
variable{fs:Ev->O (U Bx)}{g1 g2:Ev->O Ap}
end
section
variable{st:AB}{AS:U AB}{g1 g2:Ev->O Ap}
end
section
variable{ks:U V}{o:AE}
end
section
variable{M0 M1 M2 er:Expr}{f0 f2:Ev->O Bx}{d0 d2:Dt}{z0 z1 z2 z3:Pos}
end
section
variable{st:U AB}{fr:Ev->O Bx}{i':Nat}{W:U Nat}{z:Pos}
end
section
variable{a b c g1 g2:Ev->O Ap}{k:Nat}
end
end P1
namespace P1
open L2 S6
section
variable{kx vx t1 i1 t2 i2:Expr}{f1 f2:U Expr}{xs:An}{g1 g2:Dt->Ev->O Ev}{p1 p2:Ev->O Bool}{fi1 fi2:Ev->O (U Dt)}{fs:Ev->O (U Dt)}{N m:Nat}
def cls2(fi:Ev->O (U Dt))(gt:Dt->Ev->O Ev)(p:Ev->O Bool)(fs:Ev->O (U Dt))(is:U Nat)(n:Nat):Ev->O (U Dt):=λρ=>(fi ρ).bind λds=>Dm gt p fs (j8 is ρ++List.replicate n Y) ds
structure BS (X:Cx) (ts:An) (m:Nat) (scope:Scope) (cl:List (Str×Addr)) (xs:An) (is:List Nat) (t1 i1:Expr) (f1:List Expr) (t2 i2:Expr) (f2:List Expr) (fi1 fi2:Ev->Option (List Dt)) (g1 g2:Dt->Ev->Option Ev) (p1 p2:Ev->Option Bool):Prop where
 ok:rT X scope cl xs is
 calm:X.calm=true
 it1:EC X t1 i1 fi1
 tg1:∀C s₀ H₀ fp,Yo (Bh X (xs++ts) scope cl C s₀ H₀ fp) t1 g1
 c1:∀C s₀ H₀ fp,vD (Bh X (xs++ts) scope cl C s₀ H₀ fp) f1 p1
 k1:Yp is.length m g1
 it2:∀C s₀ H₀ fp,E8 (Bh X (xs++ts) scope cl C s₀ H₀ fp) t2 i2 fi2
 tg2:∀C s₀ H₀ fp,Yo (Bh X (xs++ts) scope cl C s₀ H₀ fp) t2 g2
 c2:∀C s₀ H₀ fp,vD (Bh X (xs++ts) scope cl C s₀ H₀ fp) f2 p2
 k2:Yp m (is.length+ts.length) g2
 hm:is.length<=m:=by decide
 hm2:m<=is.length+ts.length:=by decide
 hs:∀x,foldedSetIterable i1 X.env x=pure x:=by intro _;rfl
 hs2:∀C x,foldedSetIterable i2 (compEnvC scope (cellsFrom (C+1) scope.names cl) C X.env) x=pure x:=by intro _ _;rfl
end
end P1
namespace P1
open L2
section
variable{e:α->Dt}{e':β->Dt}{fs:Ev->O (U Dt)}
end
def hx(h:A6)(a:A1):HO:=.ext λh'=>h'.get? a=h.get? a
section
variable{H2:Hp}{as:U A1}
end
section
variable{gs:U (Int×A1×U Dt)}{k:Int}{x:Dt}{u:V}
end
section
variable{e1 e2 ev:Expr}{f2:Ev->O Bx}{w:AJ}{pw py py2 py3 px p1 p3 p4 pl a1 a2 c1 c2:Pos}
end
end P1
namespace P1
open L2 S6
section
variable{kx vx t1 i1 t2 i2:Expr}{f1 f2:U Expr}{xs:An}{g1 g2:Dt->Ev->O Ev}{p1 p2:Ev->O Bool}{fi1 fi2:Ev->O (U Dt)}{m:Nat}
end
end P1
namespace P1
open L2
section
variable{e:α->Dt}{e0:β->Dt}{fd f2:Ev->O Bx}{kk:Ev->O Ap}{cO:γ->Ap}
end
section
variable{e:α->Dt}{fs:Ev->O (U Dt)}
end
section
variable{a:Expr}
end
theorem bR{bs:U Bx}{c:α->Bx}{v:α}{D:O Prop}(x:RP g (bs.map Z++List.replicate (n-bs.length) Y) (λr=>Ap.rt (c r)) v D)(h:hold D):cZ n g bs=Z (c v):=NO x.r h
section
variable{e:α->Dt}
end
open PySem.Builtin PySem.Builtin.Str
section
variable{o:Expr}{fx:Ev->O Bx}
end
section
variable{g:Ev->O AJ}
end
section
variable{e1 e2 e3:Expr}{gr:Ev->O Ap}{fx:Ev->O Dt}{tR tQ:TS}{xr xj y1 y2:AJ}{AS no:U AB}{kk:Nat}{p0 p00 p01 p02 q1 q2 pt pj pa px pb pif pf2 px3 a1 c1 pe1 pr a2 pj2 c2 pe2:Pos}
end
section
variable{e:α->Dt}{ea:β->Dt}{eb:δ->Dt}{kk:Ev->O Ap}{cO:γ->Ap}
end
end P1
namespace P1
open L2 S1
section
variable{k:Nat}{f:A1}{F:U Bx->O Bx}{p:Pos}
end
end P1
namespace P1
open L2 S1 S6
theorem HM{p:U α->Prop}(h:p []):∀us:U α,us.length=0->p us
 |[],_=>h
section
variable{e:α->Dt}{g:Ev->O Bx}{c:α->Bx}
end
def GT(d:Dt):R (cB d) ρ (zE eD):=qP d eD d rfl
def B6(i:Int):R (cB (.int i)) ρ (zE eI):=qP (.int i) eI i rfl
def FF(s:AJ):R (cB (.str s)) ρ (zE eS):=qP (.str s) eS s rfl
abbrev Nn(K:B0)(n:AJ)(f:A1):Prop:=nsIn K mainGlobals n=Z (Z (.ref f))
abbrev Lk(K:B0)(f:A1)(n:AJ)(st:AB)(e:A0)(d:O A1)(sl:Array (O A0))(kV c a:A0)(b:O A1)(g ct:A0):Prop:=K.lookup f=Z ⟨e,d,.func (fnOf n n (tD st) (jB st) (aO st) .none kV c a b g ct),sl⟩
end P1
namespace P1
open L2
section
variable{e:α->Dt}
end
section
variable{Ex:B8}{outer:U Env}{L e T:A1}{C fl:A0}{dx:O A1}{Q:Unit->A2->Prop}
end
section
variable{H':Hp}{h':A6}{ch:U A1}
end
section
variable{g:Array GenState}{d:Drawn}{t:Nat}{fI e:A1}{AS:U A0}{B:String}
end
section
variable{g:Array GenState}{d:Drawn}{t:Nat}{e:A1}
end
section
variable{g:Array GenState}{d:Drawn}{t:Nat}{e dx:A1}{v:A0}{vs:Array A0}{sl:Array (O A0)}{m:AJ->O A0}
end
section
variable{o value:Expr}{tv:TE}{f:AJ}{pos' p:Pos}{B:String}{t:TA}
end
section
variable{f:AJ}{p:Pos}{B:String}
end
section
variable{E:XK}
end
section
variable{Cn f:A1}{iv iy k:Nat}{n cn:AJ}{np hp p py pa:Pos}{b0:AB}{suite:U AB}{ts:A1->TS}{tf:TE}{t:TA}
end
section
variable{d:A1}{fs:U (AJ×V)}{f:AJ}{o:Expr}
end
section
variable{f:AJ}{E:XK}{gy:Ev->O Dt}{p:Pos}{st:AB}{AS a b:U AB}{B:String}{pc:Ev->O Bool}
end
section
variable{k:Nat}{f h:A1}{F:U Bx->O Bx}{fs:Ev->O (U Bx)}{p q:Pos}
end
end P1
namespace P1
open L2 S6
section
variable{xs:An}
end
section
variable{e2 se:Expr}{fS:Ev->O An}{fx:Ev->O Dt}{no AS:U AB}{tR tQ:TS}{p0 p02 px pb pif pk:Pos}{f:AJ}{E:XK}
end
end P1
namespace P1
open L2
section
variable{e1 e2 e3:Expr}{gr:Ev->O Ap}{xr xj y1 y2:AJ}{AS no:U AB}{kk:Nat}{p0 p00 p01 p02 q1 q2 pt pj pa px pb pif pf2 px3 a1 c1 pe1 pr a2 pj2 c2 pe2:Pos}{fx:Ev->O Dt}{f:AJ}{E:XK}
end
section
variable{Cn f:A1}{iv k:Nat}{n cn:AJ}{np hp p pa:Pos}{b0:AB}{suite:U AB}{ts:A1->TS}{tf:TE}{t:TA}
end
section
variable{fx:Ev->O Bx}
end
section
variable{xs:Array A0}
end
theorem wB:∀{AQ:U A0} {a:U Int},IntsAre AQ a->AX (a.map V.int) AQ
 |_,_,.nil=>.nil
 |_,_,.cons y t h=>.cons ⟨t,rfl⟩ (wB h)
section
variable{e:α->Dt}
end
section
variable{e:α->Dt}{ea:β->Dt}{eb:δ->Dt}{fx:Ev->O Dt}
end
section
variable{e:α->Dt}{g:Ev->O β}{c:γ->β}
end
section
variable{E:XK}
end
section
variable{f:AJ}{E:XK}{fs:Ev->O (U Bx)}{gy:Ev->O Dt}{p p1 epos:Pos}{st:AB}{AS:U AB}
end
section
variable{o:Expr}
def MY:Dt->Bool
 |.non=>true
 |.tup _=>true
 |_=>false
def Mc:Dt->Bool
 |.non=>true
 |_=>false
end
section
variable{o l:Expr}{fs:Ev->O (U Bx)}{z:AJ}
end
instance {σ τ:Type} [Inhabited σ]:Inhabited (qT σ τ):=⟨.nx default⟩
section
variable{e:α->Dt}
theorem N2(a:∀x,∃ds,e x=.tup ds)(ys:U (O α)):(ys.map (eO e)).all MY=true/\(Mc ∘ eO e)=Option.isNone:=by
 refine⟨?_,?_⟩
 ·rw[qB];intro d b;obtain⟨o,_,rfl⟩:=List.mem_map.mp b;cases o with
  |none=>rfl
  |some x=>obtain⟨ds,q⟩:=a x;show MY (e x)=true;rw[q];rfl
 ·funext o;cases o with
  |none=>rfl
  |some x=>obtain⟨ds,q⟩:=a x;show Mc (e x)=false;rw[q];rfl
end
section
variable{o e2:Expr}{fx fy:Ev->O Bx}
end
section
variable{f:AJ}{E:XK}{gy:Ev->O Dt}{st:AB}{sts AS:U AB}{p0 p00 p01 p02:Pos}
end
structure DQ (K:B0) (mg:Str->Option Value) (x:Str) (st:Stmt) (ps:An) where
 f:Addr
 fd:FuncData
 F:Cc K x x st f fd
 b:BT K fd ps []
 m:mg x=some (.ref f)
 k:keepIn K (.ref f)=true
def jF{st:AB}{f:A1}{m b:O A1}{sl:Array (O A0)}{j kV g d e ct:A0}(X:K.In h)(G:h.Ns mainGlobals mg)(a:Nn K x f)(l:Lk K f x st j m sl kV g d b e ct)(c:codeIn K e x=true)(k:keepIn K (.ref f)=true)(hb:∀(kV i d:A0) (b:O A1) (n ct:A0) (us:U A0),us.length=ps.length->bindArgs (fnOf x x (tD st) (jB st) (aO st) .none kV i d b n ct) ⟨us,[]⟩=pure (ps.zip us):=by intro _ _ _ _ _ _;first|exact P1.He λ_=>Δ|exact P1.HV λ_ _=>Δ|exact P1.Ps λ_ _ _=>Δ|exact P1.cc λ_ _ _ _=>Δ|exact P1.VX λ_ _ _ _ _=>Δ|exact P1.HM Δ):DQ K mg x st ps:=
 ⟨f,_,Y9 l c k,(Y9 l c k).binds hb,mg_of X G a,k⟩
theorem HL{v:Tok->A0}{tk:Tok}(X:K.In h)(G:h.Ns mainGlobals mg)(c:nsIn K mainGlobals x=Z (Z (v tk))):∃tk,mg x=Z (v tk):=⟨tk,mg_of X G c⟩
abbrev Ok(P:A3)(w:A4)(base:A6){st:AB}(d:DQ K mg x st ps)(k n:Nat)(F:U Bx->O Bx):Prop:=u6 P w K mg base K4 k d.f d.fd ps (De K n F)
theorem wY{st:AB}{k m:Nat}(d:DQ K mg x st ps)(S:bC N ps (aO st))(e:∀(a:A0) (A:A5) (outer:U Env) (s:A2) (H:Hp) (E:XK),nY k (A.deeper (AK x (aO st) s.heap.objs.size d.f a))->(A.deeper (AK x (aO st) s.heap.objs.size d.f a)).units+100<cLine->N.Nodup->WT (Ez K4 P w K mg base N x (aO st) d.f a A outer s H E).nox (jB st) g)(h:N.length=n:=by rfl)(c:ps.length=m:=by rfl):Ok P w base d (k+1) m (cZ n g):=XY d.F S h c λa A outer s H E b=>e a A outer s H E b (Vj b) S.nd
section
variable{k m:Nat}{st:AB}{F:U Bx->O Bx}{fs:Ev->O (U Bx)}{p:Pos}
theorem bA(d:DQ X.K X.mg x st ps)(G:Ok X.prog X.w X.base d k n F)(a:nY m X.A)(ha:WQ X (e::es) fs)(hg:Gl X x:=by rfl)(c:k<=m:=by decide)(g:(x==("__debug__":AJ))=false:=by decide)(he:A9 (e::es) X.env=(false,eval e X.env)::A9 es X.env:=by rfl)(f:(AD pos (A9 es X.env)).any (·.1)=false:=by rfl):QV X (.Call (.Name x p) (e::es) [] pos) (bf n F fs):=
 dL G (a.mono c) hg d.m d.k d.b ha g he f
end
theorem EU{l:PySem.W.OpenLaw}{q:A3}{loose:An}{d:DefRec}{K:Params->B0}{T:B0->(AJ->O A0)->Type}{k:Nat}{st:AB}{F_law:U Bx->O Bx}(c:∀{K mg},T K mg->DQ K mg "law" st [x])(B:nY k callerA)(y:d.name ="law")(G:∀(w:A4) (mg:AJ->O A0) (base:A6) (t:T (K w.params) mg),Ok l.prog w base (c t) k 1 F_law)(D:l.most=Z 63)(I:d.params.defaults=[])(h1:∀b:U Int,b.length<=63->F_law [.z (.lst (b.map .int))]=Z (.z (.bl true)))(h2:∀b:U Int,b.length<=63->F_law [.l (b.map .int)]=Z (.z (.bl true)))(hb:∀(kV i g:A0) (j:O A1) (o ct u:A0),bindArgs (fnOf "law" "law" (tD st) (jB st) (aO st) .none kV i g j o ct) ⟨[u],[]⟩=pure [(x,u)])(v:∀(w:A4) (h:A6),YP w h->(K w.params).In h)(F:∀(w:A4) (mg:AJ->O A0) (h:A6),(K w.params).In h->h.Ns mainGlobals mg->T (K w.params) mg):
  PySem.W.WalkO q loose XP YP l.row.toRowW d [] (λf vs=>PySem.call f vs):=
 L2.Y8 (n:=63) (k:=k) (x:=x) (CX:=K4) (sp:=λK=>De K 1 F_law) D (by decide) I B v (λw mg fa h X N e=>by
  have t:=F w mg h X N;have A:=(c t).m;rw[y,A]at e;cases e;refine⟨(c t).fd,λs u=>?_,λbase _ _=>G w mg base t⟩;obtain⟨L,P,kV,i,g,j,o,ct,osl,e,M,J⟩:=(c t).F.ex;rw[e];exact .of_eq (hb kV i g j o ct u)) (λK H a b p E C=>UK h1 h2 K H a b p E C) λ_ _ _ _ z=>z
section
variable{k:Nat}{f:A1}{sp:A1->U V->Hp->VK->Prop}{p:Pos}{t:TA}
end
section
variable{p0 p1:Pos}{xs:An}{e:A1}{a:Expr}{ta:TA}
end
section
variable{f:AJ}{E:XK}{fs:Ev->O (U Bx)}{p:Pos}
end
section
variable{g:Array GenState}{d:Drawn}{t:Nat}{AS:U A0}{B:String}
end
section
variable{E:XK}{p:Pos}{B:String}{k:Nat}{t:TA}
end
def DS(j:Int)(ds:U Dt):U Dt:=(List.range ds.length).zipWith (λk d=>.tup [.int (j+(k:Nat)),d]) ds
theorem V9(j:Int)(ds:U Dt):(DS j ds).length=ds.length:=by simp[DS]
section
variable{p kp cp:Pos}{fs:Ev->O (U Bx)}{j:Int}{kk:Nat}
end
section
variable{e:α->Dt}
def jo(j:Int)(xs:U α):U (Int×α):=(List.range xs.length).zipWith (λ(k:Nat) x=>(j+(k:Int),x)) xs
end
section
variable{g:Ev->O AJ}
variable{e:α->Dt}
end
section
variable{e:α->Dt}{σ' τ:Type}
def qE(e:α->Dt):O (U α)->Bx
 |none=>.z .non
 |some l=>.o (l.map e)
def S0(e:α->Dt):O (U α)->Bx
 |none=>.z .non
 |some l=>.l (l.map e)
def VO:R (cB .non) ρ (qE e):=⟨Y,Y,λ_=>Δ⟩
def MJ(a:R fa ρ (oE e)):R fa ρ (qE e):=⟨Z a.v,a.D,λh=>a.ok h⟩
class DM (c:Option (List α)->Bx) (e:outParam (α->Dt)):Prop where
 d:∀v,toD (c v)=eO (eL e) v/\mH (c v)=false
instance:DM (qE e) e:=⟨λv=>by cases v<;>exact⟨rfl,rfl⟩⟩
instance:DM (S0 e) e:=⟨λv=>by cases v<;>exact⟨rfl,rfl⟩⟩
instance:DM (zE (eO (eL e))) e:=⟨λv=>⟨rfl,rfl⟩⟩
def GV[DecidableEq α][B7 (eO (eL e)) n]{f g:O (U α)->Bx}[DM f e][DM g e](m:n<=100)(a:R fa ρ f)(b:R fb ρ g):R (b2 JD fa fb) ρ (zE eB):=⟨!decide (a.v=b.v),bx a.D b.D,λh=>by
 obtain⟨h1,h2⟩:=aB h;have:=B7.dp (e:=eO (eL e)) a.v;obtain⟨i,l⟩:=DM.d (c:=f) (e:=e) a.v;obtain⟨d2,j⟩:=DM.d (c:=g) (e:=e) b.v;simp only[b2,a.ok h1,b.ok h2,At,JD,i,d2,l,j,zr,or_self,ZN,B7.eq];rw[zo (by omega)]⟩
end
theorem XH(l:A1)(items:Array A0)(n:Nat)(b:O A1)(sl:Array (O A0)):
  Meets (Builtin.«enumerate.__new__» ⟨[.type "enumerate", .ref l],[]⟩) (λ_ R s=>s.heap.get? l=Z ⟨.type "tuple",b,.seq items n,sl⟩ ∧
   R (.ok (.ret (.ref (s.heap.push { cls:=.type "tuple_iterator",data:=.fields #[.ref l,.int 0 0] }).objs.size)))
    { s with heap:=(s.heap.push { cls:=.type "tuple_iterator",data:=.fields #[.ref l,.int 0 0] }).push { cls:=.type "enumerate",data:=.fields #[.none,.bool false,.ref s.heap.objs.size,rawInt 0,.none,.none] } }):=
 .of_wp λprog w A R s ⟨hl,h⟩=>by
  obtain⟨hp,g,d,tk,os⟩:=s;have e:=sub_enumerate;have a:Heap.IsTuple (Shared.heap ⟨hp,g,d,tk,os⟩) l items:=⟨_,hl,rfl,n,rfl⟩
  wp_walk using AutoSeq1.wpAny_loadPart' hl
  refine wpAny_stack_any λst=>zg ?_;split
  ·rename_i c _ _ _ _ _;cases(c==Value.type "enumerate")
   ·wp_walk using AutoSeq1.wpAny_loadPart' hl,ko a
    exact⟨_,rfl,h⟩
   ·wp_walk using AutoSeq1.wpAny_loadPart' hl,ko a
    exact⟨_,rfl,h⟩
  ·wp_walk using AutoSeq1.wpAny_loadPart' hl,ko a
   exact⟨_,rfl,h⟩
theorem cw{Q:B8}(f:s.heap.IsTuple l items)(h:∀h',IsEnum h' (s.heap.objs.size+1) s.heap.objs.size 0 .none->h'.IsTupleIter s.heap.objs.size l 0->(∀b o,s.heap.get? b=Z o->h'.get? b=Z o)->Q (.ref (s.heap.objs.size+1)) { s with heap:=h' }):
  A7 (A8 prog w) A (call (.type "enumerate") [.ref l]) Q E s:=by
 obtain⟨⟨c,j,p,sl⟩,e,i,n,g⟩:=f;cases i;cases g;refine callType_new F.called_enumerate (by decide) (F.typeCall_enumerate_1 _) (F.newCall_enumerate_1 _) (λm=>F.args_object_init_2 m _) F.entry_enumerate_new (XH l items n j sl) ⟨e,?_⟩;have d:(s.heap.push { cls:=.type "tuple_iterator",data:=.fields #[.ref l,.int 0 0] }).objs.size=s.heap.objs.size+1:=qr ..;show _/\_;rw[d];have a:=zv (s.heap.push { cls:=.type "tuple_iterator",data:=.fields #[.ref l,.int 0 0] }) (o:={ cls:=.type "enumerate",data:=.fields #[.none,.bool false,.ref s.heap.objs.size,rawInt 0,.none,.none] }) rfl;rw[d]at a;exact⟨⟨_,a,rfl⟩,h _ a ⟨_,ze _ (zv _ Δ),rfl,rfl⟩ λb o x=>ze _ (ze _ x)⟩
theorem UR{e:A1}{j:Int}{x old:A0}{Q:B8}(he:IsEnum s.heap e it j old)(I:s.heap.IsTupleIter it l i)(D:s.heap.IsTuple l items)(hx:items[i]?=Z x)(ne:e≠it)(q:∀h',IsEnumOut h' e it (j+1) x s.heap.objs.size->h'.IsTupleIter it l (i+1)->h'.get? s.heap.objs.size=Z { cls:=.type "tuple",data:=.seq #[.int j s.toks,x] }->(∀b o,b≠e->b≠it->s.heap.get? b=Z o->h'.get? b=Z o)->Q (.ref s.heap.objs.size) { s with heap:=h',toks:=s.toks+1 }):
  A7 (A8 prog w) A (Builtin.«enumerate.__next__» ⟨[.ref e],[]⟩) (λJ s'=>∃v,J=.done (.ret v)/\Q v s') E s:=by
 obtain⟨c,g,d,tk,os⟩:=s;have f:it≠e:=Kj ne;show A7 _ _ (field (.ref e) 2 >>= _) _ _ _;refine zd (j3 he Δ (x:=.ref it) Δ (zd (VW I D hx λa1 it1 (p:Heap.SameBut it c a1)=>?_)));have e1:IsEnum a1 e it j old:=(p.2 e ne).trans he;show A7 _ _ (field (.ref e) 3 >>= _) _ _ ⟨a1,g,d,tk,os⟩;refine zd (j3 e1 Δ (x:=rawInt j) Δ ?_);show A7 _ _ (field (.ref e) 4 >>= _) _ _ ⟨a1,g,d,tk,os⟩;refine zd (j3 e1 Δ (x:=.none) Δ ?_);show A7 _ _ (mkInt j >>= _) _ _ ⟨a1,g,d,tk,os⟩;refine zd (wpAny_mkInt ?_);show A7 _ _ (setField (.ref e) 3 (rawInt (j+1)) >>= _) _ _ ⟨a1,g,d,tk+1,os⟩;refine zd (Kk e1 (by simp) λa2 e2 (m:Heap.SameBut e a1 a2)=>?_);have e2:IsEnum a2 e it (j+1) old:=e2;show A7 _ _ (setField (.ref e) 4 .none >>= _) _ _ ⟨a2,g,d,tk+1,os⟩;refine zd (Kk e2 (by simp) λa3 e3 (h:Heap.SameBut e a2 a3)=>?_);have e3:IsEnum a3 e it (j+1) old:=e3;have z3:a3.objs.size=c.objs.size:=by rw[h.1,m.1,p.1]
 show A7 _ _ (newTuple [.int j tk,x] >>= _) _ _ ⟨a3,g,d,tk+1,os⟩;refine zd (wpAny_newTuple ?_);have G:e<c.objs.size:=zD he;obtain⟨a,H,u,L,K,F⟩:∃a,a3.push { cls:=.type "tuple",data:=.seq #[.int j tk,x] }=a/\IsEnum a e it (j+1) old/\a.get? c.objs.size=Z { cls:=.type "tuple",data:=.seq #[.int j tk,x] }/\(∀b o,b≠e->b≠it->c.get? b=Z o->a.get? b=Z o)/\a.IsTupleIter it l (i+1):=by
  refine⟨_,rfl,ze _ e3,by rw[<-z3];exact zv _ rfl,λb o b1 b2 z=>ze _ (h.extBut b o b1 (m.extBut b o b1 (p.extBut b o b2 z))),?_⟩;obtain⟨o,ho,r⟩:=(it1.extBut m.extBut f).extBut h.extBut f;exact⟨o,ze _ ho,r⟩
 rw[show({ heap:=a3,gens:=g,drawn:=d,toks:=tk+1,os:=os }:A2).heap.push { cls:=.type "tuple",data:=.seq #[.int j tk,x] }=a from H,show({ heap:=a3,gens:=g,drawn:=d,toks:=tk+1,os:=os }:A2).heap.objs.size=c.objs.size from z3];show A7 _ _ (Builtin.SmallTypes.ownedTupleIsFree (.ref e) >>= _) _ _ ⟨a,g,d,tk+1,os⟩;refine zd ?_;unfold Builtin.SmallTypes.ownedTupleIsFree;refine zd (j3 u Δ (x:=.none) Δ (zg ?_));simp only[qS];refine zd (kN (zd (j3 u Δ (x:=old) Δ (zd (Kk u (by simp) λa5 t (B:Heap.SameBut e a a5)=>?_)))));have t:IsEnum a5 e it (j+1) x:=t;show A7 _ _ (Builtin.SmallTypes.ownedTupleHandOut (.ref e) (.ref c.objs.size) >>= _) _ _ ⟨a5,g,d,tk+1,os⟩;refine zd ?_;unfold Builtin.SmallTypes.ownedTupleHandOut;refine zd (Kk t (by simp) λa6 n (y:Heap.SameBut e a5 a6)=>?_);have n:IsEnumOut a6 e it (j+1) x c.objs.size:=n;refine Kk n (by simp) λa7 e7 (C:Heap.SameBut e a6 a7)=>?_;have kk:∀b o,b≠e->a.get? b=Z o->a7.get? b=Z o:=λb o hb z=>C.extBut b o hb (y.extBut b o hb (B.extBut b o hb z));exact zd (wpAny_letGo (zg ⟨_,rfl,q a7 e7 (((F.extBut B.extBut f).extBut y.extBut f).extBut C.extBut f) (kk _ _ (ki G) L) λb o b1 b2 z=>kk b o b1 (K b o b1 b2 z)⟩))
theorem VZ{e:A1}{j:Int}{x old:A0}(he:IsEnum s.heap e it j old)(g:s.heap.IsTupleIter it l i)(f:s.heap.IsTuple l items)(hx:items[i]?=Z x)(ne:e≠it)(q:∀h',IsEnumOut h' e it (j+1) x s.heap.objs.size->h'.IsTupleIter it l (i+1)->h'.get? s.heap.objs.size=Z { cls:=.type "tuple",data:=.seq #[.int j s.toks,x] }->(∀b o,b≠e->b≠it->s.heap.get? b=Z o->h'.get? b=Z o)->Q (Z (.ref s.heap.objs.size)) { s with heap:=h',toks:=s.toks+1 }):
  A7 (A8 prog w) A (pyNext (.ref e)) Q E s:=by
 have d:s.TypeIs (.ref e) "enumerate":=⟨_,he,rfl⟩;unfold pyNext;exact zd (wpAny_attempt (js (name:=Str.ofString "__next__") d KI (Q2 KI d F.entry_enumerate_next (UR he g f hx ne λh' a b c k=>zg (q h' a b c k)) (F.args_enumerate_next_1 _))))
theorem NX{e:A1}{j:Int}{old:A0}(c:A.handled=Y)(he:IsEnum s.heap e it j old)(f:s.heap.IsTupleIter it l i)(d:s.heap.IsTuple l items)(hx:items[i]?=Y)(q:∀h',Heap.ExtBut it s.heap h'->Q Y { s with heap:=h' }):A7 (A8 prog w) A (pyNext (.ref e)) Q E s:=by
 have a:s.TypeIs (.ref e) "enumerate":=⟨_,he,rfl⟩;unfold pyNext;refine zd (wpAny_attempt (js (name:=Str.ofString "__next__") a KI (Q2 KI a F.entry_enumerate_next ?_ (F.args_enumerate_next_1 _))));show A7 _ _ (field (.ref e) 2 >>= _) _ _ _;refine zd (j3 he Δ (x:=.ref it) Δ (zd (Tz c f d hx λh' x he' ⟨o,ho,hc⟩=>?_)));exact zd (JP (T :="StopIteration") (b:=true) ⟨o,ho,hc⟩ isSubtype_stop (zg (q _ he')))
def HP(K:B0)(l:A1)(j:Int):It:=
 ⟨λi H=>∃xs x,wV K H l xs/\xs[i]?=Z x,λi H v H'=>∃p x,H p=Y/\(∀xs,wV K H l xs->xs[i]?=Z x)/\v=.ref p/\H'=B5 H p (.tup [.int (j+i),x]),λi H=>∃xs,wV K H l xs/\xs.length<=i⟩
theorem OL(l e it:A1)(j:Int)(ne:e≠it):
  C3 P w K (.Tuple elts x1 tpos) (HP K l j) [e,it] e (λi h=>(∃old,IsEnum h e it (j+(i:Nat)) old)/\h.IsTupleIter it l i) where
 mem:=by simp
 obj:=λi h st b hb=>by
  obtain⟨⟨old,h1⟩,o,h2,_,D⟩:=st;rcases List.mem_cons.mp hb with rfl|hb
  ·exact⟨_,h1,λv z=>by cases z⟩
  ·cases List.mem_singleton.mp hb;exact⟨o,h2,λv z=>by rw[D]at z;cases z⟩
 keep:=λi h h' st k=>by
  obtain⟨⟨old,h1⟩,h2⟩:=st;exact⟨⟨old,k e (by simp) _ h1⟩,h2.at λo q=>k it (by simp) o q⟩
 item:=by
  intro X m f d t i AN s σ H E I c st hg;subst m f d;obtain⟨⟨old,h1⟩,h2⟩:=st;obtain⟨xs,x,a,hx⟩:=hg;obtain⟨AQ,g,p,F⟩:=I.tuple a;obtain⟨u,G,ru⟩:=g.get hx;have fe:=c e (by simp);have fi:=c it (by simp);refine VZ h1 h2 (show s.heap.IsTuple l AQ.toArray from p) (x:=u) (by simpa using G) ne λa1 ho a0 hT L=>⟨_,rfl,?_⟩;refine wpAny_letOwnedTupleGo_enum ho λy C n=>?_;have elt:e<s.heap.objs.size:=zD h1;have Q:it<s.heap.objs.size:=by obtain⟨_,q,_⟩:=h2;exact zD q
  have J:y.get? s.heap.objs.size=Z { cls:=.type "tuple",data:=.seq #[.int (j+(i:Nat)) s.toks,u] }:=(n.2 _ (ki elt)).trans hT;have B:y.IsTupleIter it l (i+1):=a0.at λo q=>(n.2 it (Kj ne)).trans q;have ej:j+(i:Nat)+1=j+((i+1:Nat):Int):=by omega
  refine⟨.ref s.heap.objs.size,B5 H s.heap.objs.size (.tup [.int (j+i),x]),OH (t':=s.toks+1) I (λb o A M q=>(n.2 b A).trans (L b o A M q)) fe fi ⟨_,C⟩ (by obtain⟨o,q,_⟩:=B;exact⟨o,q⟩) ?_,rfl,⟨_,x,I.hok.fresh (zk _),λys W=>by rw[I.Aw W a];exact hx,rfl,rfl⟩,⟨⟨_,by rw[<-ej];exact C⟩,B⟩,λb hb=>?_⟩
  ·exact⟨by show 2<=AA;decide,[.int (j+(i:Nat)) s.toks,u],.cons ⟨_,rfl⟩ (.cons ru .nil),_,J,rfl,⟨_,rfl⟩,rfl⟩
  ·rcases List.mem_cons.mp hb with rfl|hb
   ·rw[aR (z4 elt)];exact fe.1
   ·cases List.mem_singleton.mp hb;rw[aR (z4 Q)];exact fi.1
 done:=by
  intro X m f d t i AN s σ H E I c st hg;subst m f d;obtain⟨⟨old,h1⟩,h2⟩:=st;obtain⟨xs,a,hx⟩:=hg;obtain⟨AQ,g,p,F⟩:=I.tuple a;obtain⟨f0,f1,f2,N,f4,S⟩:=c it (by simp);have hl:=g.length;exact NX (I.ok.hd t) h1 h2 (show s.heap.IsTuple l AQ.toArray from p) (by simp;omega) λh' eb=>⟨rfl,I.turned (t':=s.toks) (λb o hb e=>eb b o hb e) f0 f1 N f4 S⟩
 self:=λ_ _ _ _ _ st h=>by
  obtain⟨⟨old,h1⟩,_⟩:=st;exact wpAny_pyIter_enum h1 h
theorem B1.enT(j:Int)(h:wV K Hs l vs)(r:aK K Hs ds vs):B1 K (HP K l j) (P1.DS j ds) Hs:=λi H s=>by
 have h':=Kp.sqT (.of s) h;have c:=r.kp (.of s);refine⟨λd e=>?_,λe=>⟨vs,h',by rw[V9]at e;rw[r.length];exact e⟩⟩;have hi:i<ds.length:=by
  have:=(List.getElem?_eq_some_iff.mp e).1;rwa [V9]at this
 have g:ds[i]?=Z ds[i]:=by simp[hi]
 unfold P1.DS at e;rw[List.getElem?_zipWith]at e;simp[hi]at e;subst e;obtain⟨v,ev,f⟩:=c.get g;refine⟨⟨vs,v,h',ev⟩,λx H' y=>?_⟩;obtain⟨p,n,hp,m,rfl,rfl⟩:=y;have:=m vs h';rw[ev]at this;cases this;have a:AV H (B5 H p (.tup [.int (j+i),v])):=λb o q=>by rw[aR (dD q hp)];exact q
 refine⟨a,?_⟩;simp only[AW];exact⟨p,_,rfl,.inl (.inl bJ),aK.cons (by simp only[AW]) (aK.cons (AW.kp (.of a) f) aK.nil)⟩
section
variable{p:Pos}{fs:Ev->O (U Bx)}
def aI(K:B0)(ta:TA):TI:=λσ H R=>ta σ H λvs H1=>∃l,vs=[.ref l]/\(∃xs,wV K H1 l xs)/\R (HP K l 0) H1
theorem SY{ta:TA}(hg:Gl X "enumerate")(d:X.mg "enumerate"=Y)(ha:PA X [e] ta)(hs:A9 [e] X.env=[(false,eval e X.env)]:=by rfl):PI X (.Tuple elts x1 tpos) (.Call (.Name "enumerate" p) [e] [] pos) (aI X.K ta):=by
 intro AN s σ H R I h;refine Call_ (Ew I hg d boot_enumerate (PyProof.Rows.callWith_type1 (ji (ha pos AN s σ H _ I h) λus s1 ⟨vs,H1,I1,r1,q1⟩=>?_) hs Δ));obtain⟨l,rfl,⟨xs,g⟩,q⟩:=q1;obtain⟨u,rfl,f⟩:=BD r1;cases f;obtain⟨AQ,m,p,j⟩:=I1.tuple g;refine cw (show s1.heap.IsTuple l AQ.toArray from p) λh' a c i=>?_;refine wpAny_pyIter_enum a ?_;refine⟨s1.heap.objs.size+1,[s1.heap.objs.size+1,s1.heap.objs.size],_,_,H1,rfl,I1.kept (t':=s1.toks) i,OL l _ _ 0 (ki (qc _)),⟨⟨_,by rw[show(0:Int)+((0:Nat):Int)=0 by simp];exact a⟩,c⟩,λb hb=>?_,q⟩;rcases List.mem_cons.mp hb with rfl|hb
 ·exact I1.RK (kP _) (I1.hok.fresh (kP _))
 ·cases List.mem_singleton.mp hb;exact I1.RK (zk _) (I1.hok.fresh (zk _))
def Fu:U Bx->O (U Dt)
 |[.z (.tup ds)]=>Z (DS 0 ds)
 |_=>Y
theorem di(hg:Gl X "enumerate")(i:X.mg "enumerate"=Y)(ha:WQ X [e] fs)(hs:A9 [e] X.env=[(false,eval e X.env)]:=by rfl):E8 X (.Tuple elts x1 tpos) (.Call (.Name "enumerate" p) [e] [] pos) (λρ=>(fs ρ).bind Fu):=⟨λAN s σ H R I q=>by
 refine SY hg i ha.run hs AN s σ H R I ?_;obtain⟨H0,ρ,ds,E,e,q⟩:=q;obtain⟨bs,eb,e⟩:=AT e;refine⟨H0,ρ,bs,E,eb,λvs H1 j r1=>?_⟩;unfold Fu at e;split at e
 ·rename_i l;cases e;obtain⟨v,rfl,f⟩:=BN r1;simp only[bh,AW]at f;obtain⟨a,h,rfl,b,g⟩:=f;refine⟨a,rfl,⟨h,b⟩,q _ _ j λHs hs m c d=>.enT 0 ?_ (g.part c d)⟩;rcases b with (b|⟨o,b⟩)|b
  ·exact .inl (.inl ((d _ _ b).trans b))
  ·exact .inl (.inr ⟨o,(c _ _ _ b).trans b⟩)
  ·exact .inr b
 ·cases e⟩
end
section
variable{e:α->Dt}
def Ha(fs:Ev->O (U Bx)):Ev->O (U Dt):=λρ=>(fs ρ).bind Fu
def XU(a:R fa ρ (zE (eT e))):R (Ha (aq fa aH)) ρ (iE (CO eI e)):=⟨jo 0 a.v,a.D,λh=>by
 have b:DS 0 (a.v.map e)=(jo 0 a.v).map (CO eI e):=by
  unfold DS jo;rw[zl,List.zipWith_map_right,List.map_zipWith]
 simp only[Ha,aq,aH,a.ok h,At,zE,eT,Fu,b]⟩
def Kf(a:R fa ρ (qE e)):R (b2 xH fa (cB .non)) ρ (zE eB):=⟨a.v.isSome,a.D,λh=>by
 simp only[b2,a.ok h,At,cB,xH];cases a.v<;>rfl⟩
end
theorem Kg(h:qm d=true):∃x,d=.str x:=by
 cases d with
 |str x=>exact⟨x,rfl⟩
 |_=>cases h
theorem CN(h:B4 d=true):∃ds,d=.tup ds:=by
 cases d with
 |tup x=>exact⟨x,rfl⟩
 |_=>cases h
theorem b7(h:B4 d=true):Mq d=true:=by
 obtain⟨ds,rfl⟩:=CN h;rfl
theorem UD(h:d∈DI (.str x)):d=eS (T3 d):=by
 unfold DI BF at h;obtain⟨c,_,rfl⟩:=List.mem_map.mp h;rfl
theorem Xt(x:AJ):(DI (.str x)).length=x.length:=XF x
theorem BQ(a b:AJ):mQ a b=true↔JN a b/\a≠b:=by
 unfold mQ JN;rw[ltCps_eq];simp only[Z3,QP];constructor
 ·intro h;exact⟨List.lt_asymm h,λe=>by subst e;exact List.lt_irrefl _ h⟩
 ·intro⟨h,hn⟩;by_cases q:a.cps.toList<b.cps.toList
  ·exact q
  ·exact absurd (Pg (a:=a) (b:=b) (by unfold JN;rw[ltCps_eq];simpa using h) (by unfold JN;rw[ltCps_eq];simpa using q)) hn
theorem MK{i:Int}(h:i∈rng 0 n):∃k:Nat,k<n/\i=(k:Int):=by
 unfold rng at h;obtain⟨k,a,rfl⟩:=List.mem_map.mp h;exact⟨k,List.mem_range.mp a,by omega⟩
end P1
namespace P1
open L2 S1 S6
def same(w:U An)(x y:AJ):Prop:=∃s∈w,x∈s/\y∈s
end P1
section
set_option maxHeartbeats 1000000
namespace P1
open L2
open PySem.Builtin PySem.Builtin.Str
abbrev cs(s:AJ):U Nat:=s.cps.toList
theorem MN(a b:AJ):cs (a++b)=cs a++cs b:=Array.toList_append
theorem vV(a:AJ):a.length=(cs a).length:=by simp[Str.length]
theorem aS(y p q:AJ)(ps:An):Str.join y (p::q::ps)=p++y++Str.join y (q::ps):=rfl
theorem XJ{c:Nat}{s:AJ}(h:c∈cs s):JF ⟨#[c]⟩ s=true:=by
 unfold JF;obtain⟨i,hi⟩:=(mem_iff_at s c).mp h;rcases StrLaws.occ_head s ⟨#[c]⟩ 1 (zk 1)with⟨h0,a⟩|⟨i,r,h0,_,_⟩
 ·exact absurd hi (a i)
 ·rw[h0];rfl
theorem Qz(h:n<=x.length):cs (Txt.slice x (Z (n:Int)) Y)=(cs x).drop n:=by
 rw[slice_from_eq (b:=x.length) (by omega) (by omega) rfl];show((cs x).drop ((n:Int).toNat)).take _=_;rw[kM,List.take_of_length_le (by rw[kX,<-vV];omega)]
theorem QC(h:n<=x.length):cs (Txt.slice x Y (Z (n:Int)))=(cs x).take n:=by
 have:=slice_closes_to (x:=x) (j:=(n:Int)) ⟨by omega,by rw[show x.cps.toList.length=x.length by simp[Str.length]];omega⟩;rw[eq_of_beq this];show((cs x).drop 0).take _=_;simp
theorem SF:∀(y p:AJ) (ps:An),cs (Txt.join y (p::ps))=cs p++ps.flatMap λq=>cs y++cs q:=by
 intro y p ps;rw[show Txt.join y (p::ps)=Str.join y (p::ps) from StrLaws.glued_eq_join y _]
 induction ps generalizing p with
 |nil=>simp[Str.join]
 |cons q ps a=>rw[aS,MN,MN,a,List.flatMap_cons,QE,QE]
end P1
end
section
set_option maxHeartbeats 1000000
namespace P1
open L2 S1 S6
section
variable [Inhabited α]
end
theorem K'(a b c:AJ)(h1:mQ a b=true)(h2:mQ b c=true):mQ a c=true:=by
 unfold mQ at *
 simp only[Z3]at *
 exact List.lt_trans h1 h2
section
variable{e:α->Dt} [rW e]
end
end P1
end
namespace P1
open L2
open PySem.Builtin PySem.Builtin.Str
end P1
section
set_option maxHeartbeats 1000000
namespace P1
open L2
open PySem.Builtin PySem.Builtin.Str
end P1
end
section
set_option synthInstance.maxSize 100000
namespace G17
open L2 P1
noncomputable section
abbrev eW:=U P1.Dt
abbrev aG:Type:=Int×AJ×AJ×Int
abbrev aP:aG->Dt:=Xz eI eS eS eI
abbrev jZ:Type:=AJ×AJ×Int
abbrev uW:jZ->Dt:=Cs eS eS eI
abbrev cR:Type:=An×(U aG)×(U jZ)
abbrev aV:cR->Dt:=Cs (eT eS) (eT aP) (eT uW)
abbrev MP:Type:=Int×AJ
abbrev IT:Type:=Dt×Dt×Dt
abbrev LL:IT->Dt:=Cs eD eD eD
def GA(d:Dt):IT:=(Ct d 0,Ct d 1,Ct d 2)
def top(i:Nat):AB:=PySem.Challenge.pw_onefolk_k17_whole_grounds_side_by_side.main.body.getD i (.Pass ⟨0,0,0,0⟩)
abbrev GZ:AB:=top 38
abbrev xK:AB:=top 39
abbrev CP:AB:=top 40
abbrev zW:AB:=top 41
abbrev zX:AB:=top 42
abbrev vW:AB:=top 43
abbrev G3:AB:=top 44
abbrev zY:AB:=top 25
abbrev zZ:AB:=top 26
abbrev G4:AB:=top 24
abbrev xM:AB:=top 28
abbrev z6:AB:=top 27
abbrev G5:AB:=top 22
abbrev G6:AB:=top 19
abbrev z8:AB:=top 30
abbrev z9:AB:=top 11
abbrev Kh:AB:=top 10
abbrev sW:AB:=top 21
abbrev Kl:AB:=top 23
abbrev Km:AB:=top 20
abbrev CQ:AB:=top 34
abbrev G7:AB:=top 33
abbrev QD:AB:=top 32
abbrev Ko:AB:=top 31
abbrev G8:AB:=top 6
abbrev G9:AB:=top 5
abbrev CT:AB:=top 14
abbrev QF:AB:=top 17
abbrev CV:AB:=top 16
abbrev qu:AB:=top 36
abbrev Hf:AB:=top 35
abbrev qW:AB:=top 45
abbrev qw:AB:=top 46
abbrev s_law:AB:=top 47
def fuel:Nat:=4
def xO:Ev->O Ap:=(aF (aF (Au 2 (b2 jY (b2 iK (b2 zq (gv 2) (cB (.int 69621))) (gv 3)) (cB (.int 2147483647)))) eV) (eF [3]))
def tW:Ev->O Ap:=(aF (xV (vK D1 (gv 1) (dM wX (aq (gv 0) aH))) (aF (fV (b2 gF (gv 0) (gv 1))) eV) eV) (aF (Au 2 (b2 jY (b2 zq (cB (.int 48271)) (b2 iK (b2 iK (b2 zq (gv 1) (gv 1)) (b2 zq (cB (.int 7)) (gv 1))) (cB (.int 11)))) (cB (.int 2147483647)))) (aF (xZ (Fm (Zz (gv 0) Bt (Fy (cB (.int 3))))) (lM 3) xO) (aF (fV (gv 2)) eV))))
def jt:U Bx->O Bx:=cZ 4 tW
def mR:Ev->O Ap:=(aF (aF (Au 3 (b2 jY (b2 iK (b2 iK (b2 zq (gv 3) (b2 iK (b2 jY (gv 3) (cB (.int 65521))) (cB (.int 40487)))) (b2 zq (cB (.int 7)) (gv 5))) (cB (.int 5))) (cB (.int 1999999973)))) (aF (Li 2 (b2 gF (dM rP (aq (gv 3) (aq (b2 jY (gv 4) (cB (.int 1000000))) aH))) (dM ZD (aq (b2 HC (gv 4) (cB (.int 0))) aH)))) (aF (Au 4 (b2 O7 (gv 4) (cB (.int 1000000)))) eV))) (eF [5]))
def nR:Ev->O Ap:=(aF (Au 2 (dM rP aH)) (aF (Au 3 (b2 jY (b2 zq (b2 iK (b2 jY (gv 0) (cB (.int 1999999973))) (cB (.int 31))) (cB (.int 765432101))) (cB (.int 1999999973)))) (aF (Au 4 (cB (.int 0))) (aF (xV (Yn (vK D1 (gv 0) (cB (.int 0))) (vK FA (gv 0) (b2 HG (cB (.int 10)) (cB (.int 18))))) (aF (aF (Au 4 (dM ZC (aq (gv 0) aH))) eV) (eF [])) (aF eV (eF []))) (aF (xZ (ZG (aq (gv 1) aH)) (lM 5) mR) (aF (Dl 2) eV))))))
def fu:U Bx->O Bx:=cZ 6 nR
def qx:Ev->O Ap:=(aF (aF (Au 7 (b2 gF (gv 2) (b2 jY (b2 iK (gv 6) (b2 gF (gv 0) (cB (.int 2)))) (cB (.int 15))))) (aF (Au 8 (b2 iK (b2 iK (Zz (gv 3) Bt (Fy (gv 4))) (gv 7)) (Zz (gv 3) (Fy (gv 4)) Bt))) (aF (xV (vK C0 (b2 jY (b2 gF (gv 0) (cB (.int 3))) (cB (.int 3))) (cB (.int 1))) (aF (aF (Au 8 (b2 zq (b2 gF (gv 2) (b2 O7 (gv 6) (cB (.int 8)))) (b2 iK (cB (.int 1)) (b2 jY (gv 6) (cB (.int 8)))))) eV) (eF [])) (aF eV (eF []))) (aF (Li 5 (gv 8)) eV)))) (eF [6,7,8]))
def qX:Ev->O Ap:=(aF (Au 2 (cB (.str "abcdefghijklmnopqrstuvwxyz"))) (aF (Au 3 (b1 (Ph "") (iJ (ZG (aq (b2 jY (b2 gF (gv 0) (cB (.int 0))) (cB (.int 6))) aH)) (lM 2) zF (b2 gF (gv 0) (b2 jY (b2 O7 (b2 gF (gv 1) (gv 2)) (cB (.int 40))) (cB (.int 26)))) [2,0] 1))) (aF (Au 4 (b2 jY (b2 gF (gv 0) (cB (.int 1))) (b2 iK (dM wX (aq (gv 3) aH)) (cB (.int 1))))) (aF (Au 5 (dM rP aH)) (aF (xZ (ZG (aq (gv 1) aH)) (lM 6) qx) (aF (Dl 5) eV))))))
def oF:U Bx->O Bx:=cZ 9 qX
def oN:Ev->O Ap:=(aF (aF (Au 9 (bf 2 fu (aq (b1 Bg (bf 2 jt (aq (gv 0) (aq (b1 Bg (b2 iK (b2 iK (gv 1) (cB (.int 1))) (gv 8))) aH)))) (aq (cB (.int 4)) aH)))) (aF (G0 10 11 (aq (b2 jY (b2 gF (gv 9) (cB (.int 0))) (dM Ij (aq (cB (.int 1)) (aq (gv 2) aH)))) (aq (b2 jY (b2 gF (gv 9) (cB (.int 1))) (dM Ij (aq (cB (.int 1)) (aq (gv 2) aH)))) aH))) (aF (Au 12 (b2 gF (dM rP (aq (b1 Bg (b2 iK (cB (.int 1)) (b2 jY (b2 gF (gv 9) (cB (.int 2))) (cB (.int 3))))) (aq (b1 Bg (b2 iK (cB (.int 1)) (b2 jY (b2 gF (gv 9) (cB (.int 2))) (cB (.int 9))))) (aq (b1 Bg (b2 iK (cB (.int 1)) (b2 jY (b2 gF (gv 9) (cB (.int 2))) (cB (.int 1000))))) aH)))) (b2 jY (b2 gF (gv 5) (cB (.int 4))) (cB (.int 3))))) (aF (xV (vK JD (gv 10) (gv 11)) (aF (aF (Li 7 (dM j7 (aq (b2 C5 (cB (.int 0)) (gv 12)) (aq (b2 gF (gv 6) (dM W9 (aq (gv 10) (aq (gv 11) aH)))) (aq (b2 gF (gv 6) (dM Ij (aq (gv 10) (aq (gv 11) aH)))) (aq (b2 gF (dM rP (aq (cB (.int 0)) (aq (cB (.int 2)) (aq (cB (.int 10)) aH)))) (b2 jY (b2 gF (gv 9) (cB (.int 3))) (cB (.int 3)))) aH)))))) eV) (eF [])) (aF eV (eF []))) eV)))) (eF [8,9,10,11,12]))
def oO:Ev->O Ap:=(aF (aF (Au 9 (bf 2 fu (aq (b1 Bg (bf 2 jt (aq (gv 0) (aq (b1 Bg (b2 iK (b2 iK (gv 1) (cB (.int 1))) (gv 8))) aH)))) (aq (cB (.int 8)) aH)))) (aF (G0 10 11 (aq (b2 jY (b2 gF (gv 9) (cB (.int 5))) (dM Ij (aq (cB (.int 1)) (aq (gv 2) aH)))) (aq (b2 jY (b2 gF (gv 9) (cB (.int 6))) (dM Ij (aq (cB (.int 1)) (aq (gv 2) aH)))) aH))) (aF (xV (vK JD (gv 10) (gv 11)) (aF (aF (Li 14 (dM j7 (aq (b2 gF (gv 6) (dM W9 (aq (gv 10) (aq (gv 11) aH)))) (aq (b2 gF (gv 6) (dM Ij (aq (gv 10) (aq (gv 11) aH)))) (aq (b2 gF (dM rP (aq (cB (.int 2)) (aq (cB (.int 10)) aH))) (b2 jY (b2 gF (gv 9) (cB (.int 7))) (cB (.int 2)))) aH))))) eV) (eF [])) (aF eV (eF []))) eV))) (eF [8,9,10,11]))
def pD:Ev->O Ap:=(aF (Au 5 (bf 2 fu (aq (b1 Bg (bf 2 jt (aq (gv 0) (aq (gv 1) aH)))) (aq (cB (.int 6)) aH)))) (aF (Au 6 (dM JQ (aq (bf 2 oF (aq (gv 5) (aq (gv 2) aH))) aH))) (aF (Au 7 (dM rP aH)) (aF (xZ (ZG (aq (gv 3) aH)) (lM 8) oN) (aF (Au 13 (iJ (RD (Gj (Tj (gv 7)))) (ql 4 (bU (lM 0) (bU (lM 1) (bU (lM 2) (bU (lM 3) sO))))) zF (dM j7 (aq (b2 C5 (cB (.int 0)) (gv 0)) (aq (gv 1) (aq (gv 2) (aq (gv 3) aH))))) [] 4)) (aF (Au 14 (dM rP aH)) (aF (xZ (ZG (aq (gv 4) aH)) (lM 8) oO) (aF (fV (dM j7 (aq (dM j9 (aq (gv 6) aH)) (aq (dM j9 (aq (gv 13) aH)) (aq (dM j9 (aq (Gj (Tj (gv 14))) aH)) aH))))) eV))))))))
def lY:U Bx->O Bx:=cZ 15 pD
def uO:Ev->O Ap:=(aF (aF (Pk 4 (b1 Bg (b2 iK (cB (.str "zzzzzzz")) (b2 gF (cB (.str "abcdefg")) (gv 5)))) (gv 6)) eV) (eF [5,6]))
def pF:Ev->O Ap:=(aF (W6 (ql 3 (bU (lM 1) (bU (lM 2) (bU (lM 3) sO)))) (gv 0)) (aF (Au 4 (λ_=>Z (.m [] Y))) (aF (xZ (Ha (aq (gv 1) aH)) (ql 2 (bU (lM 5) (bU (lM 6) sO))) uO) (aF (Au 7 (iJ (RD (gv 2)) (ql 4 (bU (lM 1) (bU (lM 2) (bU (lM 3) (bU (lM 4) sO))))) zF (dM j7 (aq (gv 1) (aq (b2 lC (gv 0) (gv 2)) (aq (b2 lC (gv 0) (gv 3)) (aq (gv 4) aH))))) [4] 4)) (aF (fV (dM j7 (aq (dM j9 (aq (iJ (RD (gv 1)) (lM 1) zF (b2 lC (gv 0) (gv 1)) [4] 1) aH)) (aq (dM j9 (aq (gv 7) aH)) (aq (dM j7 aH) aH))))) eV)))))
def pG:U Bx->O Bx:=cZ 8 pF
def gJ:Ev->O Ap:=(aF (fV (iJ (RD (dM Gb (aq (iJ (RD (gv 0)) (ql 4 (bU (lM 0) (bU (lM 1) (bU (lM 2) (bU (lM 3) sO))))) zF (dM j7 (aq (b2 C5 (cB (.int 0)) (gv 0)) (aq (gv 1) (aq (gv 2) (aq (gv 3) aH))))) [] 4) aH))) (ql 4 (bU (lM 0) (bU (lM 1) (bU (lM 2) (bU (lM 3) sO))))) zF (dM j7 (aq (b2 C5 (cB (.int 0)) (gv 0)) (aq (gv 1) (aq (gv 2) (aq (gv 3) aH))))) [] 4)) eV)
def cV:U Bx->O Bx:=cZ 1 gJ
def tX:Ev->O Ap:=(aF (fV (dM j7 (aq (b1 Bg (b2 iK (b2 gF (gv 0) (cB (.int 0))) (b2 gF (gv 1) (cB (.int 0))))) (aq (dM j9 (aq (bf 1 cV (aq (b1 Bg (b2 iK (b2 gF (gv 0) (cB (.int 1))) (b2 gF (gv 1) (cB (.int 1))))) aH)) aH)) (aq (dM j7 aH) aH))))) eV)
def tY:U Bx->O Bx:=cZ 2 tX
def pH:Ev->O Ap:=(aF (fV (Vy (RD (gv 0)) (lM 0) zF (gv 0) (gv 0) [] 1)) eV)
def jG:U Bx->O Bx:=cZ 1 pH
def uP:Ev->O Ap:=(aF (aF (xV (Yn (vK C0 (b2 lC (gv 0) (gv 4)) (gv 1)) (vK C0 (b2 lC (gv 0) (gv 4)) (gv 2))) (aF (aF (Pk 0 (gv 3) (gv 4)) eV) (eF [])) (aF eV (eF []))) eV) (eF [4]))
def pI:Ev->O Ap:=(aF (aF (Au 3 (dM Gn (aq (gv 1) (aq (gv 2) aH)))) (aF (xZ (Fm (dM Gp (aq (gv 0) aH))) (lM 4) uP) eV)) (eF [3,4]))
def ig:A1->U (AY×Dt)->U Bx->O (U (AY×Dt)):=Qm 5 pI
def rY:Ev->O Ap:=(aF (aF (CJ 2 2 ig (aq (b2 lC (gv 2) (gv 4)) (aq (b2 lC (gv 2) (gv 5)) aH))) eV) (eF [3,4,5,6]))
def mU:Ev->O Ap:=(aF (Au 2 (bf 1 jG (aq (gv 0) aH))) (aF (sU 1 (ql 4 (bU (lM 3) (bU (lM 4) (bU (lM 5) (bU (lM 6) sO))))) rY) (aF (Dl 2) eV)))
def kJ:U Bx->O Bx:=cZ 7 mU
def nT:Ev->O Ap:=(aF (fV (dM j9 (aq (iJ (Qj (gv 0)) (lM 2) (vK C0 (b2 lC (gv 1) (gv 2)) (gv 0)) (gv 2) [1,0] 1) aH))) eV)
def iT:U Bx->O Bx:=cZ 2 nT
def pJ:Ev->O Ap:=(aF (fV (iJ (Qj (gv 0)) (lM 1) (vK C0 (b2 lC (gv 0) (gv 1)) (gv 1)) (b1 Bg (bf 2 iT (aq (gv 0) (aq (gv 1) aH)))) [0] 1)) eV)
def pK:U Bx->O Bx:=cZ 1 pJ
def tZ:Ev->O Ap:=(aF (fV (bf 1 pK (aq (bf 2 kJ (aq (gv 0) (aq (gv 1) aH))) aH))) eV)
def uc:U Bx->O Bx:=cZ 2 tZ
def ud:Ev->O Ap:=(aF (fV (bf 2 uc (aq (b2 gF (gv 0) (cB (.int 0))) (aq (b2 gF (gv 0) (cB (.int 1))) aH)))) eV)
def mV:U Bx->O Bx:=cZ 1 ud
def uQ:Ev->O Ap:=(aF (aF (Au 7 (b2 lC (gv 4) (b2 gF (gv 6) (cB (.int 1))))) (aF (Au 8 (b2 lC (gv 4) (b2 gF (gv 6) (cB (.int 2))))) (aF (xV (vK JD (gv 7) (gv 8)) (aF (aF (CJ 4 2 ig (aq (gv 7) (aq (gv 8) aH))) (aF (Li 5 (gv 6)) eV)) (eF [])) (aF eV (eF []))) eV))) (eF [6,7,8]))
def pN:Ev->O Ap:=(aF (W6 (ql 3 (bU (lM 1) (bU (lM 2) (bU (lM 3) sO)))) (gv 0)) (aF (Au 4 (bf 1 jG (aq (gv 1) aH))) (aF (Au 5 (dM rP aH)) (aF (sU 2 (lM 6) uQ) (aF (Dl 5) eV)))))
def dG:U Bx->O Bx:=cZ 9 pN
def pP:Ev->O Ap:=(aF (fV (yW (JM qm (gv 0)) (yW (EE EH EH (cB (.int 1)) (dM wX (aq (gv 0) aH)) (gv 2)) (dM CF (aq (iJ (RD (gv 0)) (lM 1) zF (b2 Db (gv 1) (gv 0)) [1] 1) aH))))) eV)
def pQ:U Bx->O Bx:=cZ 3 pP
def wL:Ev->O Ap:=(aF (fV (bf 3 pQ (aq (gv 0) (aq (cB (.str "abcdefghijklmnopqrstuvwxyz")) (aq (cB (.int 8)) aH))))) eV)
def mX:U Bx->O Bx:=cZ 1 wL
def jH:Ev->O Ap:=(aF (aF (xV (Yn (Oq (tV (bf 1 mX (aq (gv 1) aH)))) (vK Ff (gv 1) (b2 gF (gv 0) (cB (.int 0))))) (aF FE eV) eV) eV) (eF []))
def dZ:U Bx->O Bx:=cZ 2 jH
def qb:Ev->O Ap:=(aF (Au 3 (bf 2 kJ (aq (gv 0) (aq (gv 1) aH)))) (aF (fV (bf 2 iT (aq (gv 3) (aq (b2 lC (gv 3) (gv 2)) aH)))) eV))
def lD:U Bx->O Bx:=cZ 4 qb
def wM:Ev->O Ap:=(aF (Gv (bf 2 dZ (aq (gv 0) (aq (gv 1) aH)))) (aF (fV (bf 3 lD (aq (b2 gF (gv 0) (cB (.int 0))) (aq (b2 gF (gv 0) (cB (.int 1))) (aq (gv 1) aH))))) eV))
def gK:U Bx->O Bx:=cZ 2 wM
def qY:Ev->O Ap:=(aF (xV (vK C0 (b2 gF (gv 0) (cB (.int 1))) (gv 1)) (aF (fV (b2 gF (gv 0) (cB (.int 2)))) eV) eV) (aF (xV (vK C0 (b2 gF (gv 0) (cB (.int 2))) (gv 1)) (aF (fV (b2 gF (gv 0) (cB (.int 1)))) eV) eV) (aF (fV (cB .non)) eV)))
def lF:U Bx->O Bx:=cZ 2 qY
def xP:Ev->O Ap:=(aF (aF (Li 2 (b2 lC (gv 0) (gv 3))) (aF (Au 3 (bf 2 lF (aq (b2 lC (gv 0) (gv 3)) (aq (gv 3) aH)))) eV)) (eF []))
def uf:Ev->O Ap:=(aF (Au 2 (dM rP aH)) (aF (Au 3 (gv 1)) (aF (Xv (vK xH (b2 lC (gv 0) (gv 3)) (cB .non)) xP 70) (aF (Dl 2) eV))))
def ug:U Bx->O Bx:=cZ 4 uf
def CW:Ev->O Ap:=(aF (aF (Au 7 (bf 2 lF (aq (gv 6) (aq (gv 5) aH)))) (aF (xV (Ze (vK xH (gv 7) (cB .non)) (vK Xw (gv 7) (gv 3))) (aF (aF (Pk 3 (gv 6) (gv 7)) (aF (Li 4 (gv 7)) eV)) (eF [])) (aF eV (eF []))) eV)) (eF [6,7]))
def CZ:Ev->O Ap:=(aF (aF (EJ 5 4 (cB (.int 0))) (aF (sU 0 (lM 6) CW) eV)) (eF [5,6,7]))
def Aa:Ev->O Ap:=(aF (Au 3 (b2 J5 (gv 1) (cB .non))) (aF (Au 4 (dM rP (aq (gv 1) aH))) (aF (Xv (tV (gv 4)) CZ 70) (aF (xV (vK Xw (gv 2) (gv 3)) (aF (fV (cB .non)) eV) eV) (aF (fV (b2 Xx (bf 2 ug (aq (gv 3) (aq (gv 2) aH))) (b1 Zr (cB (.int 1))))) eV)))))
def Ab:U Bx->O Bx:=cZ 8 Aa
def wN:Ev->O Ap:=(aF (Gv (bf 2 dZ (aq (gv 0) (aq (gv 1) aH)))) (aF (Gv (bf 2 dZ (aq (gv 0) (aq (gv 2) aH)))) (aF (fV (bf 3 Ab (aq (b1 Bg (bf 1 dG (aq (gv 0) aH))) (aq (gv 1) (aq (gv 2) aH))))) eV)))
def iU:U Bx->O Bx:=cZ 3 wN
def uh:Ev->O Ap:=(aF (fV (yW (JM B4 (gv 0)) (b2 C0 (dM wX (aq (gv 0) aH)) (gv 1)))) eV)
def mY:U Bx->O Bx:=cZ 2 uh
def um:Ev->O Ap:=(aF (fV (yW (JM Bq (gv 0)) (Fc (JM BI (gv 0))))) eV)
def mZ:U Bx->O Bx:=cZ 1 um
def qZ:Ev->O Ap:=(aF (fV (yW (bf 1 mZ (aq (gv 0) aH)) (EE EH EH (cB (.int 1)) (gv 0) (cB (.int 1000))))) eV)
def q8:U Bx->O Bx:=cZ 1 qZ
def Ad:Ev->O Ap:=(aF (xV (Oq (tV (bf 2 mY (aq (gv 0) (aq (cB (.int 3)) aH))))) (aF (fV (cB (.bl false))) eV) eV) (aF (W6 (ql 3 (bU (lM 1) (bU (lM 2) (bU (lM 3) sO)))) (gv 0)) (aF (fV (yW (bf 1 mX (aq (gv 1) aH)) (yW (bf 1 mX (aq (gv 2) aH)) (yW (b2 D1 (gv 1) (gv 2)) (yW (bf 1 mZ (aq (gv 3) aH)) (b2 FA (gv 3) (cB (.int 0)))))))) eV)))
def Ae:U Bx->O Bx:=cZ 4 Ad
def q9:Ev->O Ap:=(aF (fV (yW (bf 2 mY (aq (gv 0) (aq (cB (.int 4)) aH))) (yW (bf 1 q8 (aq (b2 gF (gv 0) (cB (.int 0))) aH)) (bf 1 Ae (aq (b1 Bg (Zz (gv 0) (Fy (cB (.int 1))) Bt)) aH))))) eV)
def rz:U Bx->O Bx:=cZ 1 q9
def iu:Ev->O Ap:=(aF (aF (xV (Yn (Oq (tV (bf 1 rz (aq (gv 1) aH)))) (vK ES (gv 1) (b2 gF (gv 0) (cB (.int 1))))) (aF FE eV) eV) eV) (eF []))
def iw:U Bx->O Bx:=cZ 2 iu
def uo:Ev->O Ap:=(aF (Gv (bf 2 iw (aq (gv 0) (aq (gv 1) aH)))) (aF (W6 (ql 3 (bU (lM 2) (bU (lM 3) (bU (lM 4) sO)))) (gv 0)) (aF (Au 5 (iJ (RD (gv 3)) (lM 1) (vK JD (gv 1) (gv 0)) (gv 1) [1] 1)) (aF (Au 6 (bf 3 lD (aq (gv 2) (aq (gv 5) (aq (b2 gF (gv 1) (cB (.int 1))) aH))))) (aF (xV (vK Db (b2 gF (gv 1) (cB (.int 2))) (gv 6)) (aF (fV (dM j7 (aq (cB (.str "stays")) aH))) eV) eV) (aF (fV (dM j7 (aq (cB (.str "parts")) (aq (gv 6) (aq (b1 Bg (bf 3 lD (aq (gv 2) (aq (gv 5) (aq (b2 gF (gv 1) (cB (.int 2))) aH))))) aH))))) eV))))))
def kO:U Bx->O Bx:=cZ 7 uo
def oG:Ev->O Ap:=(aF (aF (xV (vK JD (bf 3 iU (aq (gv 1) (aq (gv 3) (aq (gv 4) aH)))) (bf 3 iU (aq (gv 0) (aq (gv 3) (aq (gv 4) aH))))) (aF (fV (cB (.bl false))) eV) eV) eV) (eF [4]))
def oH:Ev->O Ap:=(aF (aF (xV (vK JD (bf 2 gK (aq (gv 1) (aq (gv 3) aH))) (bf 2 gK (aq (gv 0) (aq (gv 3) aH)))) (aF (fV (cB (.bl false))) eV) eV) (aF (sU 2 (lM 4) oG) eV)) (eF [3,4]))
def jq:Ev->O Ap:=(aF (Au 2 (b2 gF (gv 0) (cB (.int 0)))) (aF (sU 2 (lM 3) oH) (aF (fV (dM CF (aq (iJ (RD (b2 gF (gv 0) (cB (.int 1)))) (lM 2) zF (b2 C0 (bf 2 kO (aq (gv 0) (aq (gv 2) aH))) (bf 2 kO (aq (gv 1) (aq (gv 2) aH)))) [1,0] 1) aH))) eV)))
def fZ:U Bx->O Bx:=cZ 5 jq
def iz:Ev->O Ap:=(aF (xV (Yn (vK xH (bf 3 iU (aq (gv 2) (aq (gv 3) (aq (gv 4) aH)))) (cB .non)) (vK xH (bf 3 iU (aq (gv 2) (aq (gv 4) (aq (gv 3) aH)))) (cB .non))) (aF (fV (cB (.bl false))) eV) eV) (aF (Au 5 (dM j7 (aq (cB (.int 1)) (aq (gv 3) (aq (gv 4) (aq (cB (.int 999)) aH)))))) (aF (Au 6 (dM j7 (aq (b2 gF (gv 2) (cB (.int 0))) (aq (dM j9 (aq (bf 1 cV (aq (b1 Bg (b2 iK (b2 gF (gv 2) (cB (.int 1))) (dM j7 (aq (gv 5) aH)))) aH)) aH)) (aq (dM j7 aH) aH))))) (aF (xV (Yn (vK JD (bf 3 iU (aq (gv 6) (aq (gv 3) (aq (gv 4) aH)))) (dM rP (aq (gv 5) aH))) (vK JD (bf 3 iU (aq (gv 6) (aq (gv 4) (aq (gv 3) aH)))) (dM rP (aq (gv 5) aH)))) (aF (fV (cB (.bl false))) eV) eV) (aF (xV (vK JD (bf 1 dG (aq (gv 6) aH)) (bf 1 cV (aq (b1 Bg (b2 iK (bf 1 dG (aq (gv 2) aH)) (dM rP (aq (gv 5) aH)))) aH))) (aF (fV (cB (.bl false))) eV) eV) (aF (xV (vK JD (bf 2 gK (aq (gv 6) (aq (gv 3) aH))) (b2 iK (bf 2 gK (aq (gv 0) (aq (gv 3) aH))) (bf 2 gK (aq (gv 1) (aq (gv 4) aH))))) (aF (fV (cB (.bl false))) eV) eV) (aF (fV (b2 C0 (bf 2 kO (aq (gv 6) (aq (gv 5) aH))) (dM j7 (aq (cB (.str "parts")) (aq (b1 Bg (bf 2 gK (aq (gv 0) (aq (gv 3) aH)))) (aq (b1 Bg (bf 2 gK (aq (gv 1) (aq (gv 4) aH)))) aH)))))) eV)))))))
def iB:U Bx->O Bx:=cZ 7 iz
def Wa:Ev->O Ap:=(aF (Au 1 (bf 2 fu (aq (b1 Bg (bf 2 jt (aq (gv 0) (aq (cB (.int 0)) aH)))) (aq (cB (.int 12)) aH)))) (aF (Au 2 (bf 5 lY (aq (gv 0) (aq (cB (.int 0)) (aq (b2 jY (b2 gF (gv 1) (cB (.int 6))) (cB (.int 8))) (aq (b2 jY (b2 gF (gv 1) (cB (.int 7))) (cB (.int 11))) (aq (cB (.int 0)) aH))))))) (aF (Au 3 (bf 1 pG (aq (b1 Bg (bf 5 lY (aq (gv 0) (aq (cB (.int 11)) (aq (b2 jY (b2 gF (gv 1) (cB (.int 8))) (cB (.int 8))) (aq (b2 jY (b2 gF (gv 1) (cB (.int 9))) (cB (.int 11))) (aq (cB (.int 0)) aH))))))) aH))) (aF (Au 4 (bf 2 tY (aq (gv 2) (aq (gv 3) aH)))) (aF (xV (vK JD (bf 1 mV (aq (gv 4) aH)) (b2 iK (bf 1 mV (aq (gv 2) aH)) (bf 1 mV (aq (gv 3) aH)))) (aF (fV (cB (.bl false))) eV) eV) (aF (xV (vK JD (bf 1 dG (aq (gv 4) aH)) (bf 1 cV (aq (b1 Bg (b2 iK (bf 1 dG (aq (gv 2) aH)) (bf 1 dG (aq (gv 3) aH)))) aH))) (aF (fV (cB (.bl false))) eV) eV) (aF (xV (Yn (Oq (tV (bf 2 fZ (aq (gv 2) (aq (gv 4) aH))))) (Oq (tV (bf 2 fZ (aq (gv 3) (aq (gv 4) aH)))))) (aF (fV (cB (.bl false))) eV) eV) (aF (xV (Yn (vK C0 (b2 gF (gv 2) (cB (.int 0))) (dM j7 aH)) (vK C0 (b2 gF (gv 3) (cB (.int 0))) (dM j7 aH))) (aF (fV (cB (.bl true))) eV) eV) (aF (fV (bf 5 iB (aq (gv 2) (aq (gv 3) (aq (gv 4) (aq (b2 gF (b2 gF (gv 2) (cB (.int 0))) (b2 jY (b2 gF (gv 1) (cB (.int 10))) (dM wX (aq (b2 gF (gv 2) (cB (.int 0))) aH)))) (aq (b2 gF (b2 gF (gv 3) (cB (.int 0))) (b2 jY (b2 gF (gv 1) (cB (.int 11))) (dM wX (aq (b2 gF (gv 3) (cB (.int 0))) aH)))) aH))))))) eV)))))))))
def F_law:U Bx->O Bx:=cZ 5 Wa
end
end G17
end
section
set_option synthInstance.maxSize 100000
namespace G17
open L2 P1
structure T (K:B0) (mg:Str->Option Value) where
 ju:DQ K mg "_law_cell" GZ ["_law_script","_law_k"]
 fB:DQ K mg "_law_numbers" xK ["_law_cell_here","_law_many"]
 rA:DQ K mg "_law_names" CP ["_law_xs","_law_many"]
 lZ:DQ K mg "_law_ground" zW ["_law_script","_law_at","_law_many","_law_reasons","_law_bars"]
 pR:DQ K mg "_law_second" zX ["_law_ground_here"]
 dH:DQ K mg "_law_in_order" vW ["_law_reasons"]
 uq:DQ K mg "_law_both" G3 ["_law_one","_law_other"]
 jJ:DQ K mg "lone_heads" zY ["names"]
 cM:DQ K mg "join_heads" zZ ["heads","one","other"]
 m5:DQ K mg "heads_by" G4 ["names","reasons"]
 iV:DQ K mg "names_under" xM ["heads","head"]
 pU:DQ K mg "sets_under" z6 ["heads"]
 ur:DQ K mg "parts_by" G5 ["names","reasons"]
 m7:DQ K mg "parts_of" G6 ["ground"]
 dI:DQ K mg "holding_of" z8 ["ground"]
 pW:DQ K mg "is_text_of" z9 ["thing","signs","longest"]
 m9:DQ K mg "is_name" Kh ["thing"]
 d7:DQ K mg "refuse_no_name" sW ["ground","name"]
 ni:DQ K mg "part_by" Kl ["names","reasons","name"]
 gO:DQ K mg "part_of" Km ["ground","name"]
 lG:DQ K mg "other_end" CQ ["reason","name"]
 uw:DQ K mg "way_back" G7 ["came_by","end"]
 Af:DQ K mg "way_by" QD ["reasons","start","end"]
 iW:DQ K mg "why_one" Ko ["ground","one","other"]
 nj:DQ K mg "is_tuple" G8 ["thing","many"]
 nu:DQ K mg "is_whole" G9 ["thing"]
 rB:DQ K mg "is_weight" CT ["thing"]
 Ag:DQ K mg "is_bar" QF ["thing"]
 rC:DQ K mg "is_reason" CV ["thing"]
 iD:DQ K mg "refuse_no_reason" qu ["ground","reason"]
 kW:DQ K mg "hangs_on" Hf ["ground","reason"]
 f9:DQ K mg "_law_alone_right" qW ["_law_ground_here","_law_both_here"]
 iG:DQ K mg "_law_across_right" qw ["_law_one","_law_other","_law_both_here","_law_a","_law_b"]
 x_law:DQ K mg "law" s_law ["_law_script"]
 aiX:mg "abs"=none
 aeO:mg "all"=none
 agQ:mg "bool"=none
 QG:mg "enumerate"=none
 aeP:mg "int"=none
 pX:mg "isinstance"=none
 Kq:mg "len"=none
 agR:mg "list"=none
 Kr:mg "max"=none
 aa7:mg "min"=none
 Ah:mg "range"=none
 aeQ:mg "set"=none
 Ai:mg "sorted"=none
 aiY:mg "str"=none
 pY:mg "tuple"=none
 XM:∃tk,mg "LETTERS"=some (.str "abcdefghijklmnopqrstuvwxyz" tk)
 Hg:∃tk,mg "LONGEST_NAME"=some (.int 8 tk)
 Ir:∃tk,mg "MOST_WEIGHT"=some (.int 1000 tk)
section
variable(t:T K mg)
theorem QH:bC ["_law_script","_law_k","_law_state","_law_cell_here"] ["_law_script","_law_k"] (aO GZ):=jE
theorem QJ:Ok P w base t.ju 1 2 jt:=wY (g:=tW) t.ju QH λ_ _ _ _ _ _ b c a=>(au (iI (cT Sx (ak 1) (c7 Bu Δ t.Kq Bo (aj (ak 0) aA)) (cL _)) (au (bT (bI (ak 0) (ak 1))) aJ) aJ) (au (bO 2 a (bF dF (bF vI aD (bF dY (bF dY (bF vI (ak 1) (ak 1)) (bF vI aD (ak 1))) aD)) aD)) (au (xX PassesOwn.never Δ (Vd (Vi (ak 0) zy (zA aD))) (aY 3 a) (bK [3] (au (bO 2 a (bF dF (bF dY (bF vI (ak 2) aD) (ak 3)) aD)) aJ))) (au (bT (ak 2)) aJ))))
theorem Hh:bC ["_law_cell_here","_law_many","_law_found","_law_state","_law_digits","_law_k"] ["_law_cell_here","_law_many"] (aO xK):=jE
theorem Hi:Ok P w base t.fB 1 2 fu:=wY (g:=nR) t.fB Hh λ_ _ _ _ _ _ b c a=>(au (bO 2 a (lQ aA)) (au (bO 3 a (bF dF (bF vI (bF dY (bF dF (ak 0) aD) aD) aD) aD)) (au (bO 4 a aD) (au (iI (K5 (vB (cT Sx (ak 0) aD (cL _)) (qM (cT Lv (ak 0) (bF WZ aD aD) (cL _))))) (bK [] (au (bO 4 a (c7 Y3 Δ t.aiX P3 (aj (ak 0) aA))) aJ)) (bK [] aJ)) (au (xX PassesOwn.never Δ (vC Δ t.Ah (aj (ak 1) aA)) (aY 5 a) (bK [5] (au (bO 3 a (bF dF (bF dY (bF dY (bF vI (ak 3) (bF dY (bF dF (ak 3) aD) aD)) (bF vI aD (ak 5))) aD) aD)) (au (xW 2 (bI (lQ (aj (ak 3) (aj (bF dF (ak 4) aD) aA))) (iR No Δ t.aeP Zv (aj (xT Pw (ak 4) aD (cL _)) aA)))) (au (bO 4 a (bF Le (ak 4) aD)) aJ))))) (au (yX 2) aJ))))))
theorem M4:bC ["_law_xs","_law_many","_law_letters","_law_stem","_law_at","_law_found","_law_k","_law_mark","_law_name"] ["_law_xs","_law_many"] (aO CP):=jE
theorem M5:Ok P w base t.rA 1 2 oF:=wY (g:=qX) t.rA M4 λ_ _ _ _ _ _ c b a=>(au (bO 2 a BK) (au (bO 3 a (N9 (wD ["_law_k"] (Dr ["_law_letters","_law_xs"] [2,0]) Δ (VY (vC Δ t.Ah (aj (bF dF (bI (ak 0) aD) aD) aA))) (λ_ _ _ _=>(aY 2 (by show List.Nodup (_++_);decide +kernel))) (λ_ _ _ _=>gZ) (λ_ _ _ _=>(bI (ak 0) (bF dF (bF Le (bI (ak 1) (ak 2)) aD) aD))) (dw)))) (au (bO 4 a (bF dF (bI (ak 0) aD) (bF dY (c7 Bu Δ t.Kq Bo (aj (ak 3) aA)) aD))) (au (bO 5 a (lQ aA)) (au (xX PassesOwn.never Δ (vC Δ t.Ah (aj (ak 1) aA)) (aY 6 a) (bK [6,7,8] (au (bO 7 a (bI (ak 2) (bF dF (bF dY (ak 6) (bI (ak 0) aD)) aD))) (au (bO 8 a (bF dY (bF dY (Vi (ak 3) zy (zA (ak 4))) (ak 7)) (Vi (ak 3) (zA (ak 4)) zy))) (au (iI (cT (of_eq b) (bF dF (bI (ak 0) aD) aD) aD (cL _)) (bK [] (au (bO 8 a (bF vI (bI (ak 2) (bF Le (ak 6) aD)) (bF dY aD (bF dF (ak 6) aD)))) aJ)) (bK [] aJ)) (au (xW 5 (ak 8)) aJ)))))) (au (yX 5) aJ))))))
theorem Iu:bC ["_law_script","_law_at","_law_many","_law_reasons","_law_bars","_law_head","_law_names_here","_law_told","_law_k","_law_xs","_law_a","_law_b","_law_weight","_law_found","_law_shut"] ["_law_script","_law_at","_law_many","_law_reasons","_law_bars"] (aO zW):=jE
theorem Iv(e:Ok P w base t.ju 1 2 jt)(f:Ok P w base t.rA 1 2 oF)(d:Ok P w base t.fB 1 2 fu):Ok P w base t.lZ 2 5 lY:=wY (g:=pD) t.lZ Iu λ_ _ _ _ _ _ b c a=>(au (bO 5 a (bA t.fB d b (aj (jX (bA t.ju e b (aj (ak 0) (aj (ak 1) aA)))) (aj aD aA)))) (au (bO 6 a (c7 W8 Δ t.Ai JK (aj (bA t.rA f b (aj (ak 5) (aj (ak 2) aA))) aA))) (au (bO 7 a (lQ aA)) (au (xX PassesOwn.never Δ (vC Δ t.Ah (aj (ak 3) aA)) (aY 8 a) (bK [8,9,10,11,12] (au (bO 9 a (bA t.fB d b (aj (jX (bA t.ju e b (aj (ak 0) (aj (jX (bF dY (bF dY (ak 1) aD) (ak 8))) aA)))) (aj aD aA)))) (au (Zh 10 11 Δ a (aj (bF dF (bI (ak 9) aD) (c7 (BJ Δ) Δ t.Kr Bp (aj aD (aj (ak 2) aA)))) (aj (bF dF (bI (ak 9) aD) (c7 (BJ Δ) Δ t.Kr Bp (aj aD (aj (ak 2) aA)))) aA))) (au (bO 12 a (bI (lQ (aj (jX (bF dY aD (bF dF (bI (ak 9) aD) aD))) (aj (jX (bF dY aD (bF dF (bI (ak 9) aD) aD))) (aj (jX (bF dY aD (bF dF (bI (ak 9) aD) aD))) aA)))) (bF dF (bI (ak 5) aD) aD))) (au (iI (cT (uN c) (ak 10) (ak 11) (cL _)) (bK [] (au (xW 7 (gC (aj (bF Ld aD (ak 12)) (aj (bI (ak 6) (c7 (ZL Δ) Δ t.aa7 Ss (aj (ak 10) (aj (ak 11) aA)))) (aj (bI (ak 6) (c7 (BJ Δ) Δ t.Kr Bp (aj (ak 10) (aj (ak 11) aA)))) (aj (bI (lQ (aj aD (aj aD (aj aD aA)))) (bF dF (bI (ak 9) aD) aD)) aA)))))) aJ)) (bK [] aJ)) aJ)))))) (au (La 13 ["_law_weight","_law_a","_law_b","_law_k"] (Dr [] []) Δ a (pC (Vx Δ Δ t.Ai (Vw Δ c Δ t.aeQ (ak 7)))) (λ_ _ _ _=>(rQ Δ (bG (aY 0 (by show List.Nodup (_++_);decide +kernel)) (bG (aY 1 (by show List.Nodup (_++_);decide +kernel)) (bG (aY 2 (by show List.Nodup (_++_);decide +kernel)) (bG (aY 3 (by show List.Nodup (_++_);decide +kernel)) nP)))))) (λ_ _ _ _=>gZ) (λ_ _ _ _=>(gC (aj (bF Ld aD (ak 0)) (aj (ak 1) (aj (ak 2) (aj (ak 3) aA)))))) (K9 (eX (dw) (eX (dw) (eX (dw) (eX (dw) Ed)))))) (au (bO 14 a (lQ aA)) (au (xX PassesOwn.never Δ (vC Δ t.Ah (aj (ak 4) aA)) (aY 8 a) (bK [8,9,10,11] (au (bO 9 a (bA t.fB d b (aj (jX (bA t.ju e b (aj (ak 0) (aj (jX (bF dY (bF dY (ak 1) aD) (ak 8))) aA)))) (aj aD aA)))) (au (Zh 10 11 Δ a (aj (bF dF (bI (ak 9) aD) (c7 (BJ Δ) Δ t.Kr Bp (aj aD (aj (ak 2) aA)))) (aj (bF dF (bI (ak 9) aD) (c7 (BJ Δ) Δ t.Kr Bp (aj aD (aj (ak 2) aA)))) aA))) (au (iI (cT (uN c) (ak 10) (ak 11) (cL _)) (bK [] (au (xW 14 (gC (aj (bI (ak 6) (c7 (ZL Δ) Δ t.aa7 Ss (aj (ak 10) (aj (ak 11) aA)))) (aj (bI (ak 6) (c7 (BJ Δ) Δ t.Kr Bp (aj (ak 10) (aj (ak 11) aA)))) (aj (bI (lQ (aj aD (aj aD aA))) (bF dF (bI (ak 9) aD) aD)) aA))))) aJ)) (bK [] aJ)) aJ))))) (au (bT (gC (aj (iR n6 Δ t.pY lR (aj (ak 6) aA)) (aj (iR n6 Δ t.pY lR (aj (ak 13) aA)) (aj (iR n6 Δ t.pY lR (aj (Vx Δ Δ t.Ai (Vw Δ c Δ t.aeQ (ak 14))) aA)) aA))))) aJ))))))))
theorem Iw:bC ["_law_ground_here","_law_names_here","_law_reasons","_law_bars","_law_new","_law_place","_law_name","_law_moved"] ["_law_ground_here"] (aO zX):=jE
theorem Iz:Ok P w base t.pR 1 1 pG:=wY (g:=pF) t.pR Iw λ_ _ _ _ _ _ c b a=>(au (K7 (ak 0) (rQ Δ (bG (aY 1 a) (bG (aY 2 a) (bG (aY 3 a) nP))))) (au (bO 4 a Sr) (au (xX PassesOwn.never Δ (di Δ t.QG (aj (ak 1) aA)) (rQ Δ (bG (aY 5 a) (bG (aY 6 a) nP))) (bK [5,6] (au (Lx 4 b (jX (bF dY BK (bI BK (ak 5)))) (ak 6)) aJ))) (au (La 7 ["_law_w","_law_a","_law_b","_law_k"] (Dr ["_law_new"] [4]) Δ a (pC (ak 2)) (λ_ _ _ _=>(rQ Δ (bG (aY 1 (by show List.Nodup (_++_);decide +kernel)) (bG (aY 2 (by show List.Nodup (_++_);decide +kernel)) (bG (aY 3 (by show List.Nodup (_++_);decide +kernel)) (bG (aY 4 (by show List.Nodup (_++_);decide +kernel)) nP)))))) (λ_ _ _ _=>gZ) (λ_ _ _ _=>(gC (aj (ak 1) (aj (g8 b (ak 0) (ak 2)) (aj (g8 b (ak 0) (ak 3)) (aj (ak 4) aA)))))) (K9 (eX (dw) (eX (dw) (eX (dw) (eX (dw) Ed)))))) (au (bT (gC (aj (iR n6 Δ t.pY lR (aj (wD ["_law_name"] (Dr ["_law_new"] [4]) Δ (pC (ak 1)) (λ_ _ _ _=>(aY 1 (by show List.Nodup (_++_);decide +kernel))) (λ_ _ _ _=>gZ) (λ_ _ _ _=>(g8 b (ak 0) (ak 1))) (dw)) aA)) (aj (iR n6 Δ t.pY lR (aj (ak 7) aA)) (aj (gC aA) aA))))) aJ)))))
theorem Ds:bC ["_law_reasons"] ["_law_reasons"] (aO vW):=jE
theorem Du:Ok P w base t.dH 1 1 cV:=wY (g:=gJ) t.dH Ds λ_ _ _ _ _ _ a b c=>(au (bT (wD ["_law_w","_law_a","_law_b","_law_k"] (Dr [] []) Δ (pC (c7 ZW Δ t.Ai JK (aj (wD ["_law_w","_law_a","_law_b","_law_k"] (Dr [] []) Δ (pC (ak 0)) (λ_ _ _ _=>(rQ Δ (bG (aY 0 (by show List.Nodup (_++_);decide +kernel)) (bG (aY 1 (by show List.Nodup (_++_);decide +kernel)) (bG (aY 2 (by show List.Nodup (_++_);decide +kernel)) (bG (aY 3 (by show List.Nodup (_++_);decide +kernel)) nP)))))) (λ_ _ _ _=>gZ) (λ_ _ _ _=>(gC (aj (bF Ld aD (ak 0)) (aj (ak 1) (aj (ak 2) (aj (ak 3) aA)))))) (K9 (eX (dw) (eX (dw) (eX (dw) (eX (dw) Ed)))))) aA))) (λ_ _ _ _=>(rQ Δ (bG (aY 0 (by show List.Nodup (_++_);decide +kernel)) (bG (aY 1 (by show List.Nodup (_++_);decide +kernel)) (bG (aY 2 (by show List.Nodup (_++_);decide +kernel)) (bG (aY 3 (by show List.Nodup (_++_);decide +kernel)) nP)))))) (λ_ _ _ _=>gZ) (λ_ _ _ _=>(gC (aj (bF Ld aD (ak 0)) (aj (ak 1) (aj (ak 2) (aj (ak 3) aA)))))) (K9 (eX (dw) (eX (dw) (eX (dw) (eX (dw) Ed))))))) aJ)
theorem QK:bC ["_law_one","_law_other"] ["_law_one","_law_other"] (aO G3):=jE
theorem QL(b:Ok P w base t.dH 1 1 cV):Ok P w base t.uq 2 2 tY:=wY (g:=tX) t.uq QK λ_ _ _ _ _ _ a c d=>(au (bT (gC (aj (jX (bF dY (bI (ak 0) aD) (bI (ak 1) aD))) (aj (iR n6 Δ t.pY lR (aj (bA t.dH b a (aj (jX (bF dY (bI (ak 0) aD) (bI (ak 1) aD))) aA)) aA)) (aj (gC aA) aA))))) aJ)
theorem IK:bC ["names"] ["names"] (aO zY):=jE
theorem IV:Ok P w base t.jJ 1 1 jG:=wY (g:=pH) t.jJ IK λ_ _ _ _ _ _ b a c=>(au (bT (OZ a ["name"] (Dr [] []) Δ (pC (ak 0)) (λ_ _ _ _=>(aY 0 (by show List.Nodup (_++_);decide +kernel))) (λ_ _ _ _=>gZ) (λ_ _ _ _=>(ak 0)) (λ_ _ _ _=>(ak 0)) (dw))) aJ)
theorem xQ:bC ["heads","one","other","head","name"] ["heads","one","other"] (aO zZ):=jE
theorem IW:u6 P w K mg base K4 1 t.cM.f t.cM.fd ["heads","one","other"] (ET K 2 ig):=by
 unfold ig;refine XA (k:=0) (g:=pI) t.cM.F xQ Δ Δ λd A outer s H E c=>?_;have a:=Vj c;have b:=xQ.nd;exact(bK [3,4] (au (bO 3 b (c7 (WG Δ) Δ t.aa7 Ss (aj (ak 1) (aj (ak 2) aA)))) (au (xX PassesOwn.never Δ (Vd (iR (b5 Δ) Δ t.agR W1 (aj (ak 0) aA))) (aY 4 b) (bK [4] (au (iI (K5 (vB (cT (of_eq a) (g8 a (ak 0) (ak 4)) (ak 1) (cL _)) (qM (cT (of_eq a) (g8 a (ak 0) (ak 4)) (ak 2) (cL _))))) (bK [] (au (Lx 0 a (ak 3) (ak 4)) aJ)) (bK [] aJ)) aJ))) aJ)))
theorem QM:bC ["names","reasons","heads","weight","one","other","number"] ["names","reasons"] (aO G4):=jE
theorem QS(h:u6 P w K mg base K4 1 t.cM.f t.cM.fd ["heads","one","other"] (ET K 2 ig))(e:Ok P w base t.jJ 1 1 jG):Ok P w base t.m5 2 2 kJ:=wY (g:=mU) t.m5 QM λ_ _ _ _ _ _ c d a=>(au (bO 2 a (bA t.jJ e c (aj (ak 0) aA))) (au (zc 1 PassesOwn.never Δ (rQ Δ (bG (aY 3 a) (bG (aY 4 a) (bG (aY 5 a) (bG (aY 6 a) nP))))) (bK [3,4,5,6] (au (VF 2 h (c.mono (by decide)) Δ t.cM.m t.cM.k t.cM.b (aj (g8 d (ak 2) (ak 4)) (aj (g8 d (ak 2) (ak 5)) aA))) aJ))) (au (yX 2) aJ)))
theorem Hj:bC ["heads","head"] ["heads","head"] (aO xM):=jE
theorem Hl:Ok P w base t.iV 1 2 iT:=wY (g:=nT) t.iV Hj λ_ _ _ _ _ _ b a c=>(au (bT (iR n6 Δ t.pY lR (aj (Qk ["name"] (Dr ["head","heads"] [1,0]) Δ (ak 0) (λ_ _ _ _=>(aY 2 (by show List.Nodup (_++_);decide +kernel))) (λ_ _ _ _=>(yc (cT (of_eq a) (g8 a (ak 1) (ak 2)) (ak 0) (cL _)))) (λ_ _ _ _=>(ak 2)) (dw)) aA))) aJ)
theorem Ja:bC ["heads"] ["heads"] (aO z6):=jE
theorem Jb(c:Ok P w base t.iV 1 2 iT):Ok P w base t.pU 2 1 pK:=wY (g:=pJ) t.pU Ja λ_ _ _ _ _ _ b a d=>(au (bT (Qk ["name"] (Dr ["heads"] [0]) Δ (ak 0) (λ_ _ _ _=>(aY 1 (by show List.Nodup (_++_);decide +kernel))) (λ_ _ _ _=>(yc (cT (of_eq a) (g8 a (ak 0) (ak 1)) (ak 1) (cL _)))) (λ_ _ _ _=>(jX (bA t.iV c b (aj (ak 0) (aj (ak 1) aA))))) (dw))) aJ)
theorem QT:bC ["names","reasons"] ["names","reasons"] (aO G5):=jE
theorem QW(c:Ok P w base t.m5 2 2 kJ)(b:Ok P w base t.pU 2 1 pK):Ok P w base t.ur 3 2 uc:=wY (g:=tZ) t.ur QT λ_ _ _ _ _ _ a e d=>(au (bT (bA t.pU b a (aj (bA t.m5 c a (aj (ak 0) (aj (ak 1) aA))) aA))) aJ)
theorem QX:bC ["ground"] ["ground"] (aO G6):=jE
theorem QZ(b:Ok P w base t.ur 3 2 uc):Ok P w base t.m7 4 1 mV:=wY (g:=ud) t.m7 QX λ_ _ _ _ _ _ a c d=>(au (bT (bA t.ur b a (aj (bI (ak 0) aD) (aj (bI (ak 0) aD) aA)))) aJ)
theorem Jc:bC ["ground","names","reasons","bars","heads","holding","reason","one","other"] ["ground"] (aO z8):=jE
theorem Jd(h:u6 P w K mg base K4 1 t.cM.f t.cM.fd ["heads","one","other"] (ET K 2 ig))(e:Ok P w base t.jJ 1 1 jG):Ok P w base t.dI 2 1 dG:=wY (g:=pN) t.dI Jc λ_ _ _ _ _ _ d c a=>(au (K7 (ak 0) (rQ Δ (bG (aY 1 a) (bG (aY 2 a) (bG (aY 3 a) nP))))) (au (bO 4 a (bA t.jJ e d (aj (ak 1) aA))) (au (bO 5 a (lQ aA)) (au (zc 2 PassesOwn.never Δ (aY 6 a) (bK [6,7,8] (au (bO 7 a (g8 c (ak 4) (bI (ak 6) aD))) (au (bO 8 a (g8 c (ak 4) (bI (ak 6) aD))) (au (iI (cT (uN c) (ak 7) (ak 8) (cL _)) (bK [] (au (VF 4 h (d.mono (by decide)) Δ t.cM.m t.cM.k t.cM.b (aj (ak 7) (aj (ak 8) aA))) (au (xW 5 (ak 6)) aJ))) (bK [] aJ)) aJ))))) (au (yX 5) aJ)))))
theorem Je:bC ["thing","signs","longest"] ["thing","signs","longest"] (aO z9):=jE
theorem Jf:Ok P w base t.pW 1 3 pQ:=wY (g:=pP) t.pW Je λ_ _ _ _ _ _ a b c=>(au (bT (qj (Sw (ak 0) Δ t.pX Δ t.aiY) (qj (Ol C8 C8 aD (c7 Bu Δ t.Kq Bo (aj (ak 0) aA)) (ak 2)) (Bf (c7 (ZF Δ) Δ t.aeO Zw (aj (wD ["sign"] (Dr ["signs"] [1]) Δ (pC (ak 0)) (λ_ _ _ _=>(aY 1 (by show List.Nodup (_++_);decide +kernel))) (λ_ _ _ _=>gZ) (λ_ _ _ _=>(xT N1 (ak 1) (ak 0) (by with_unfolding_all rfl))) (dw)) aA)))))) aJ)
theorem T9:bC ["thing"] ["thing"] (aO Kh):=jE
theorem Ua(d:Ok P w base t.pW 1 3 pQ):Ok P w base t.m9 2 1 mX:=wY (g:=wL) t.m9 T9 λ_ _ _ _ _ _ a f e=>by
 obtain⟨i,b⟩:=t.XM;obtain⟨h,c⟩:=t.Hg;exact(au (bT (bA t.pW d a (aj (ak 0) (aj (Zc Δ b) (aj (Oo Δ c) aA))))) aJ)
theorem Aj:bC ["ground","name"] ["ground","name"] (aO sW):=jE
theorem Ak(b:Ok P w base t.m9 2 1 mX):Ok P w base t.d7 3 2 dZ:=wY (g:=jH) t.d7 Aj λ_ _ _ _ _ _ a d c=>(bK [] (au (iI (K5 (vB (Fj (Bd (bA t.m9 b a (aj (ak 1) aA)))) (qM (cT Zu (ak 1) (bI (ak 0) aD) (by with_unfolding_all rfl))))) (au VG aJ) aJ) aJ))
theorem Ub:bC ["names","reasons","name","heads"] ["names","reasons","name"] (aO Kl):=jE
theorem Uc(e:Ok P w base t.m5 2 2 kJ)(d:Ok P w base t.iV 1 2 iT):Ok P w base t.ni 3 3 lD:=wY (g:=qb) t.ni Ub λ_ _ _ _ _ _ a c b=>(au (bO 3 b (bA t.m5 e a (aj (ak 0) (aj (ak 1) aA)))) (au (bT (bA t.iV d a (aj (ak 3) (aj (g8 c (ak 3) (ak 2)) aA)))) aJ))
theorem Ud:bC ["ground","name"] ["ground","name"] (aO Km):=jE
theorem Ue(b:Ok P w base t.ni 3 3 lD)(c:Ok P w base t.d7 3 2 dZ):Ok P w base t.gO 4 2 gK:=wY (g:=wM) t.gO Ud λ_ _ _ _ _ _ a e d=>(au (Eo (bA t.d7 c a (aj (ak 0) (aj (ak 1) aA)))) (au (bT (bA t.ni b a (aj (bI (ak 0) aD) (aj (bI (ak 0) aD) (aj (ak 1) aA))))) aJ))
theorem M6:bC ["reason","name"] ["reason","name"] (aO CQ):=jE
theorem M7:Ok P w base t.lG 1 2 lF:=wY (g:=qY) t.lG M6 λ_ _ _ _ _ _ b a c=>(au (iI (cT (of_eq a) (bI (ak 0) aD) (ak 1) (cL _)) (au (bT (bI (ak 0) aD)) aJ) aJ) (au (iI (cT (of_eq a) (bI (ak 0) aD) (ak 1) (cL _)) (au (bT (bI (ak 0) aD)) aJ) aJ) (au (bT xU) aJ)))
theorem Q0:bC ["came_by","end","way","here"] ["came_by","end"] (aO G7):=jE
theorem Q5(d:Ok P w base t.lG 1 2 lF):Ok P w base t.uw 2 2 ug:=wY (g:=uf) t.uw Q0 λ_ _ _ _ _ _ c a b=>(au (bO 2 b (lQ aA)) (au (bO 3 b (ak 1)) (au (Qn 70 PassesOwn.never (cT Ej (g8 a (ak 0) (ak 3)) xU (cL _)) (bK [] (au (xW 2 (g8 a (ak 0) (ak 3))) (au (bO 3 b (bA t.lG d c (aj (g8 a (ak 0) (ak 3)) (aj (ak 3) aA)))) aJ)))) (au (yX 2) aJ))))
theorem XR:bC ["reasons","start","end","came_by","reached","here","reason","there"] ["reasons","start","end"] (aO QD):=jE
theorem XS(e:Ok P w base t.lG 1 2 lF)(d:Ok P w base t.uw 2 2 ug):Ok P w base t.Af 3 3 Ab:=wY (g:=Aa) t.Af XR λ_ _ _ _ _ _ c b a=>(au (bO 3 a (Sf (ak 1) xU)) (au (bO 4 a (lQ (aj (ak 1) aA))) (au (Qn 70 PassesOwn.never (Bd (ak 4)) (bK [5,6,7] (au (OW 5 4 a aD) (au (zc 0 PassesOwn.never Δ (aY 6 a) (bK [6,7] (au (bO 7 a (bA t.lG e c (aj (ak 6) (aj (ak 5) aA)))) (au (iI (K5 (WV (cT Ej (ak 7) xU (cL _)) (Zf (cT (VH b) (ak 7) (ak 3) (by with_unfolding_all rfl))))) (bK [] (au (Lx 3 b (ak 6) (ak 7)) (au (xW 4 (ak 7)) aJ))) (bK [] aJ)) aJ)))) aJ)))) (au (iI (cT (VH b) (ak 2) (ak 3) (by with_unfolding_all rfl)) (au (bT xU) aJ) aJ) (au (bT (adw (bA t.uw d c (aj (ak 3) (aj (ak 2) aA))) (PR WC aD))) aJ)))))
theorem Ug:bC ["ground","one","other"] ["ground","one","other"] (aO Ko):=jE
theorem Uh(d:Ok P w base t.dI 2 1 dG)(b:Ok P w base t.d7 3 2 dZ)(c:Ok P w base t.Af 3 3 Ab):Ok P w base t.iW 4 3 iU:=wY (g:=wN) t.iW Ug λ_ _ _ _ _ _ a f e=>(au (Eo (bA t.d7 b a (aj (ak 0) (aj (ak 1) aA)))) (au (Eo (bA t.d7 b a (aj (ak 0) (aj (ak 2) aA)))) (au (bT (bA t.Af c a (aj (jX (bA t.dI d a (aj (ak 0) aA))) (aj (ak 1) (aj (ak 2) aA))))) aJ)))
theorem Q6:bC ["thing","many"] ["thing","many"] (aO G8):=jE
theorem Q7:Ok P w base t.nj 1 2 mY:=wY (g:=uh) t.nj Q6 λ_ _ _ _ _ _ b a c=>(au (bT (qj (Lh (ak 0) Δ t.pX Δ t.pY) (Bf (xT (of_eq a) (c7 Bu Δ t.Kq Bo (aj (ak 0) aA)) (ak 1) (cL _))))) aJ)
theorem Q8:bC ["thing"] ["thing"] (aO G9):=jE
theorem Q9:Ok P w base t.nu 1 1 mZ:=wY (g:=um) t.nu Q8 λ_ _ _ _ _ _ a b c=>(au (bT (qj (Sv (ak 0) Δ t.pX Δ t.aeP) (Bf (Pv (O9 (ak 0) Δ t.pX Δ t.agQ))))) aJ)
theorem M8:bC ["thing"] ["thing"] (aO CT):=jE
theorem M9(b:Ok P w base t.nu 1 1 mZ):Ok P w base t.rB 2 1 q8:=wY (g:=qZ) t.rB M8 λ_ _ _ _ _ _ a f d=>by
 obtain⟨e,c⟩:=t.Ir;exact(au (bT (qj (bA t.nu b a (aj (ak 0) aA)) (Bf (Ol C8 C8 aD (ak 0) (Oo Δ c))))) aJ)
theorem X3:bC ["thing","one","other","number"] ["thing"] (aO QF):=jE
theorem X4(c:Ok P w base t.m9 2 1 mX)(d:Ok P w base t.nj 1 2 mY)(e:Ok P w base t.nu 1 1 mZ):Ok P w base t.Ag 3 1 Ae:=wY (g:=Ad) t.Ag X3 λ_ _ _ _ _ _ a f b=>(au (iI (Fj (Bd (bA t.nj d a (aj (ak 0) (aj aD aA))))) (au (bT vA) aJ) aJ) (au (K7 (ak 0) (rQ Δ (bG (aY 1 b) (bG (aY 2 b) (bG (aY 3 b) nP))))) (au (bT (qj (bA t.m9 c a (aj (ak 1) aA)) (qj (bA t.m9 c a (aj (ak 2) aA)) (qj (xT Sx (ak 1) (ak 2) (cL _)) (qj (bA t.nu e a (aj (ak 3) aA)) (Bf (xT Lv (ak 3) aD (cL _)))))))) aJ)))
theorem Nb:bC ["thing"] ["thing"] (aO CV):=jE
theorem Nf(d:Ok P w base t.Ag 3 1 Ae)(b:Ok P w base t.nj 1 2 mY)(c:Ok P w base t.rB 2 1 q8):Ok P w base t.rC 4 1 rz:=wY (g:=q9) t.rC Nb λ_ _ _ _ _ _ a f e=>(au (bT (qj (bA t.nj b a (aj (ak 0) (aj aD aA))) (qj (bA t.rB c a (aj (bI (ak 0) aD) aA)) (Bf (bA t.Ag d a (aj (jX (Vi (ak 0) (zA aD) zy)) aA)))))) aJ)
theorem wZ:bC ["ground","reason"] ["ground","reason"] (aO qu):=jE
theorem w5(c:Ok P w base t.rC 4 1 rz):Ok P w base t.iD 5 2 iw:=wY (g:=iu) t.iD wZ λ_ _ _ _ _ _ a b d=>(bK [] (au (iI (K5 (vB (Fj (Bd (bA t.rC c a (aj (ak 1) aA)))) (qM (cT (aE b) (ak 1) (bI (ak 0) aD) (by with_unfolding_all rfl))))) (au VG aJ) aJ) aJ))
theorem Ra:bC ["ground","reason","names","reasons","bars","others","one_part"] ["ground","reason"] (aO Hf):=jE
theorem Rb(c:Ok P w base t.ni 3 3 lD)(d:Ok P w base t.iD 5 2 iw):Ok P w base t.kW 6 2 kO:=wY (g:=uo) t.kW Ra λ_ _ _ _ _ _ b e a=>(au (Eo (bA t.iD d b (aj (ak 0) (aj (ak 1) aA)))) (au (K7 (ak 0) (rQ Δ (bG (aY 2 a) (bG (aY 3 a) (bG (aY 4 a) nP))))) (au (La 5 ["other"] (Dr ["reason"] [1]) Δ a (pC (ak 3)) (λ_ _ _ _=>(aY 1 (by show List.Nodup (_++_);decide +kernel))) (λ_ _ _ _=>(yc (cT (uN e) (ak 1) (ak 0) (cL _)))) (λ_ _ _ _=>(ak 1)) (dw)) (au (bO 6 a (bA t.ni c b (aj (ak 2) (aj (ak 5) (aj (bI (ak 1) aD) aA))))) (au (iI (cT N1 (bI (ak 1) aD) (ak 6) (by with_unfolding_all rfl)) (au (bT (gC (aj BK aA))) aJ) aJ) (au (bT (gC (aj BK (aj (ak 6) (aj (jX (bA t.ni c b (aj (ak 2) (aj (ak 5) (aj (bI (ak 1) aD) aA))))) aA))))) aJ))))))
theorem yu:bC ["_law_ground_here","_law_both_here","_law_names_here","_law_a","_law_b"] ["_law_ground_here","_law_both_here"] (aO qW):=jE
theorem yw(d:Ok P w base t.kW 6 2 kO)(e:Ok P w base t.gO 4 2 gK)(f:Ok P w base t.iW 4 3 iU):Ok P w base t.f9 7 2 fZ:=wY (g:=jq) t.f9 yu λ_ _ _ _ _ _ a c b=>(au (bO 2 b (bI (ak 0) aD)) (au (zc 2 PassesOwn.never Δ (aY 3 b) (bK [3,4] (au (iI (cT (uN c) (bA t.gO e a (aj (ak 1) (aj (ak 3) aA))) (bA t.gO e a (aj (ak 0) (aj (ak 3) aA))) (cL _)) (au (bT vA) aJ) aJ) (au (zc 2 PassesOwn.never Δ (aY 4 b) (bK [4] (au (iI (cT (uN c) (bA t.iW f a (aj (ak 1) (aj (ak 3) (aj (ak 4) aA)))) (bA t.iW f a (aj (ak 0) (aj (ak 3) (aj (ak 4) aA)))) (cL _)) (au (bT vA) aJ) aJ) aJ))) aJ)))) (au (bT (c7 (ZF Δ) Δ t.aeO Zw (aj (wD ["_law_reason"] (Dr ["_law_both_here","_law_ground_here"] [1,0]) Δ (pC (bI (ak 0) aD)) (λ_ _ _ _=>(aY 2 (by show List.Nodup (_++_);decide +kernel))) (λ_ _ _ _=>gZ) (λ_ _ _ _=>(xT (of_eq c) (bA t.kW d a (aj (ak 0) (aj (ak 2) aA))) (bA t.kW d a (aj (ak 1) (aj (ak 2) aA))) (cL _))) (dw)) aA))) aJ)))
theorem w6:bC ["_law_one","_law_other","_law_both_here","_law_a","_law_b","_law_reason","_law_more"] ["_law_one","_law_other","_law_both_here","_law_a","_law_b"] (aO qw):=jE
theorem xg(h:Ok P w base t.dH 1 1 cV)(i:Ok P w base t.kW 6 2 kO)(f:Ok P w base t.dI 2 1 dG)(b:Ok P w base t.gO 4 2 gK)(d:Ok P w base t.iW 4 3 iU):Ok P w base t.iG 7 5 iB:=wY (g:=iz) t.iG w6 λ_ _ _ _ _ _ a c e=>(au (iI (K5 (vB (cT Ej (bA t.iW d a (aj (ak 2) (aj (ak 3) (aj (ak 4) aA)))) xU (cL _)) (qM (cT Ej (bA t.iW d a (aj (ak 2) (aj (ak 4) (aj (ak 3) aA)))) xU (cL _))))) (au (bT vA) aJ) aJ) (au (bO 5 e (gC (aj aD (aj (ak 3) (aj (ak 4) (aj aD aA)))))) (au (bO 6 e (gC (aj (bI (ak 2) aD) (aj (iR n6 Δ t.pY lR (aj (bA t.dH h a (aj (jX (bF dY (bI (ak 2) aD) (gC (aj (ak 5) aA)))) aA)) aA)) (aj (gC aA) aA))))) (au (iI (K5 (vB (cT (uN c) (bA t.iW d a (aj (ak 6) (aj (ak 3) (aj (ak 4) aA)))) (lQ (aj (ak 5) aA)) (cL _)) (qM (cT (uN c) (bA t.iW d a (aj (ak 6) (aj (ak 4) (aj (ak 3) aA)))) (lQ (aj (ak 5) aA)) (cL _))))) (au (bT vA) aJ) aJ) (au (iI (cT (uN c) (bA t.dI f a (aj (ak 6) aA)) (bA t.dH h a (aj (jX (bF dY (bA t.dI f a (aj (ak 2) aA)) (lQ (aj (ak 5) aA)))) aA)) (cL _)) (au (bT vA) aJ) aJ) (au (iI (cT (uN c) (bA t.gO b a (aj (ak 6) (aj (ak 3) aA))) (bF dY (bA t.gO b a (aj (ak 0) (aj (ak 3) aA))) (bA t.gO b a (aj (ak 1) (aj (ak 4) aA)))) (cL _)) (au (bT vA) aJ) aJ) (au (bT (xT (of_eq c) (bA t.kW i a (aj (ak 6) (aj (ak 5) aA))) (gC (aj BK (aj (jX (bA t.gO b a (aj (ak 0) (aj (ak 3) aA)))) (aj (jX (bA t.gO b a (aj (ak 1) (aj (ak 4) aA)))) aA)))) (cL _))) aJ)))))))
theorem du:bC ["_law_script","_law_xs","_law_one","_law_other","_law_both_here"] ["_law_script"] (aO s_law):=jE
theorem P2(n:Ok P w base t.iG 7 5 iB)(f:Ok P w base t.f9 7 2 fZ)(l:Ok P w base t.uq 2 2 tY)(m:Ok P w base t.ju 1 2 jt)(h:Ok P w base t.lZ 2 5 lY)(o:Ok P w base t.dH 1 1 cV)(i:Ok P w base t.fB 1 2 fu)(j:Ok P w base t.pR 1 1 pG)(e:Ok P w base t.dI 2 1 dG)(d:Ok P w base t.m7 4 1 mV):Ok P w base t.x_law 8 1 F_law:=wY (g:=Wa) t.x_law du λ_ _ _ _ _ _ a c b=>(au (bO 1 b (bA t.fB i a (aj (jX (bA t.ju m a (aj (ak 0) (aj aD aA)))) (aj aD aA)))) (au (bO 2 b (bA t.lZ h a (aj (ak 0) (aj aD (aj (bF dF (bI (ak 1) aD) aD) (aj (bF dF (bI (ak 1) aD) aD) (aj aD aA))))))) (au (bO 3 b (bA t.pR j a (aj (jX (bA t.lZ h a (aj (ak 0) (aj aD (aj (bF dF (bI (ak 1) aD) aD) (aj (bF dF (bI (ak 1) aD) aD) (aj aD aA))))))) aA))) (au (bO 4 b (bA t.uq l a (aj (ak 2) (aj (ak 3) aA)))) (au (iI (cT (uN c) (bA t.m7 d a (aj (ak 4) aA)) (bF dY (bA t.m7 d a (aj (ak 2) aA)) (bA t.m7 d a (aj (ak 3) aA))) (cL _)) (au (bT vA) aJ) aJ) (au (iI (cT (uN c) (bA t.dI e a (aj (ak 4) aA)) (bA t.dH o a (aj (jX (bF dY (bA t.dI e a (aj (ak 2) aA)) (bA t.dI e a (aj (ak 3) aA)))) aA)) (cL _)) (au (bT vA) aJ) aJ) (au (iI (K5 (vB (Fj (Bd (bA t.f9 f a (aj (ak 2) (aj (ak 4) aA))))) (qM (Fj (Bd (bA t.f9 f a (aj (ak 3) (aj (ak 4) aA)))))))) (au (bT vA) aJ) aJ) (au (iI (K5 (vB (cT (of_eq c) (bI (ak 2) aD) (gC aA) (cL _)) (qM (cT (of_eq c) (bI (ak 3) aD) (gC aA) (cL _))))) (au (bT vA) aJ) aJ) (au (bT (bA t.iG n a (aj (ak 2) (aj (ak 3) (aj (ak 4) (aj (bI (bI (ak 2) aD) (bF dF (bI (ak 1) aD) (c7 Bu Δ t.Kq Bo (aj (bI (ak 2) aD) aA)))) (aj (bI (bI (ak 3) aD) (bF dF (bI (ak 1) aD) (c7 Bu Δ t.Kq Bo (aj (bI (ak 3) aD) aA)))) aA))))))) aJ)))))))))
theorem DZ:Ok P w base t.x_law 8 1 F_law:=by
 have h:=QJ (P:=P) (w:=w) (base:=base) t;have o:=Hi (P:=P) (w:=w) (base:=base) t;have E:=M5 (P:=P) (w:=w) (base:=base) t;have y:=Iv (P:=P) (w:=w) (base:=base) t h E o;have F:=Iz (P:=P) (w:=w) (base:=base) t;have b:=Du (P:=P) (w:=w) (base:=base) t;have G:=QL (P:=P) (w:=w) (base:=base) t b;have j:=IV (P:=P) (w:=w) (base:=base) t;have g:=IW (P:=P) (w:=w) (base:=base) t;have l:=QS (P:=P) (w:=w) (base:=base) t g j;have s:=Hl (P:=P) (w:=w) (base:=base) t;have C:=Jb (P:=P) (w:=w) (base:=base) t s;have x:=QW (P:=P) (w:=w) (base:=base) t l C;have L:=QZ (P:=P) (w:=w) (base:=base) t x;have a:=Jd (P:=P) (w:=w) (base:=base) t g j;have D:=Jf (P:=P) (w:=w) (base:=base) t;have m:=Ua (P:=P) (w:=w) (base:=base) t D;have i:=Ak (P:=P) (w:=w) (base:=base) t m;have q:=Uc (P:=P) (w:=w) (base:=base) t l s;have p:=Ue (P:=P) (w:=w) (base:=base) t q i;have f:=M7 (P:=P) (w:=w) (base:=base) t;have I:=Q5 (P:=P) (w:=w) (base:=base) t f;have B:=XS (P:=P) (w:=w) (base:=base) t f I;have e:=Uh (P:=P) (w:=w) (base:=base) t a i B;have c:=Q7 (P:=P) (w:=w) (base:=base) t;have d:=Q9 (P:=P) (w:=w) (base:=base) t;have K:=M9 (P:=P) (w:=w) (base:=base) t d;have H:=X4 (P:=P) (w:=w) (base:=base) t m c d;have A:=Nf (P:=P) (w:=w) (base:=base) t H c K;have z:=w5 (P:=P) (w:=w) (base:=base) t A;have n:=Rb (P:=P) (w:=w) (base:=base) t q z;have u:=yw (P:=P) (w:=w) (base:=base) t n p e;have v:=xg (P:=P) (w:=w) (base:=base) t b n a p e;have J:=P2 (P:=P) (w:=w) (base:=base) t v u G h y b o F a L;exact J
end
end G17
end
section
set_option synthInstance.maxSize 100000
namespace G17
open L2 P1
noncomputable section
def xR(a:Int)(b:Int):Int:=(let a:=(((a*69621)+b)%2147483647);a)
theorem Jh(d:B9)(e:Lp jc (d.map eI))(c:Int)(a:Int)(b:Int):RP xO [Z jc,Z (zE eI c),Z (zE eI a),Z (zE eI b)] (λs=>Ap.nx ((λa:Int=>[Z jc,Z (zE eI c),Z (zE eI a),Y]) s)) (xR  a b) (Y):=R.tp (bL (cF 2 (fW (oh (VJ (ao 2 (zE eI) a Δ) 69621 (by decide)) (ao 3 (zE eI) b Δ)) 2147483647 (by decide)) (λ_=>Δ) λa=>(bZ (bW a Δ))))
def bH(c:B9)(b:Int):Int:=(if(decide (b<(c.length:Int)))=true then(at' c b)else(let a:=((48271*(((b*b)+(7*b))+11))%2147483647);(let a:Int:=((cut c Y (Z 3)).foldl (λ(a:Int) (d:Int)=>(xR  a d)) a);a)))
def jx(b:B9)(a:Int):Prop:=(((decide (a<(b.length:Int)))=true->In b.length a)/\((decide (a<(b.length:Int)))=false->FI a a))
theorem Ui(b:B9)(d:Lp jc (b.map eI))(a:Int):RP tW [Z jc,Z (zE eI a),Y,Y] (λr=>Ap.rt (zE eI r)) (bH b a) (Z (jx b a)):=R.tp (mJ (eY (IL (ao 1 (zE eI) a Δ) (ER (pA 0 eI b d Δ)))) (bL (cU (λr=>r) (lK (pA 0 eI b d Δ) (ao 1 (zE eI) a Δ)) (λ_=>Δ) λ_=>Δ)) (bZ (cF 2 (fW (TJ 48271 (by decide) (oh (oh (Mb (ao 1 (zE eI) a Δ) (ao 1 (zE eI) a Δ)) (TJ 7 (by decide) (ao 1 (zE eI) a Δ))) (B6 11))) 2147483647 (by decide)) (λ_=>Δ) λc=>(WP (λc:Int=>[Z jc,Z (zE eI a),Z (zE eI c),Y]) c Δ (LF (UN (pA 0 eI b d Δ) FD (FM (B6 3)))) _ (λ_ _=>Δ) (λ(c:Int) (e:Int)=>(Jh b d a c e).r) (λ_ _=>Δ) λc=>(cU (λr=>r) (ao 2 (zE eI) c Δ) (λ_=>Δ) λ_=>Δ)))))
theorem uD:∀v bs,(aL eI (aZ eI aN)) v bs->bs.length=2/\(hold (Z (jx v.1 v.2.1))->jt (bs.map lend)=Z ((zE eI) (bH v.1 v.2.1))):=by
 rintro⟨b,a,_⟩ _ ⟨jc,_,rfl,c,⟨_,rfl,rfl⟩⟩;exact⟨rfl,λh=>bR (g:=tW) (n:=4) (bs:=[lend jc,.z (eI a)]) (Ui b (CK c) a) h⟩
def cN(a:Int×B9×Int)(d:Int):Int×B9×Int:=(let b:=((((a.1*((a.1%65521)+40487))+(7*d))+5)%1999999973);(let e:=a.2.1++[(at' [b,(a.2.2%1000000)] (if(decide ((0:Int)<a.2.2))=true then(1:Int)else 0))];(let c:=(a.2.2 / (1000000:Int));(b,e,c))))
def jM(a:Int×B9×Int)(c:Int):Prop:=(FI a.1 ((a.1%65521)+40487)/\(let b:=((((a.1*((a.1%65521)+40487))+(7*c))+5)%1999999973);(In [b,(a.2.2%1000000)].length (if(decide ((0:Int)<a.2.2))=true then(1:Int)else 0)/\HW a.2.1.length)))
theorem Ca(c:Int)(e:Int)(a:Int×B9×Int)(b:Int):RP mR [Z (zE eI c),Z (zE eI e),Z ((oE eI) a.2.1),Z ((zE eI) a.1),Z ((zE eI) a.2.2),Z (zE eI b)] (λs=>Ap.nx ((λa:Int×B9×Int=>[Z (zE eI c),Z (zE eI e),Z ((oE eI) a.2.1),Z ((zE eI) a.1),Z ((zE eI) a.2.2),Y]) s)) (cN  a b) (Z (jM  a b)):=R.tp (bL (cF 3 (fW (oh (oh (Mb (ao 3 (zE eI) a.1 Δ) (oh (fW (ao 3 (zE eI) a.1 Δ) 65521 (by decide)) (B6 40487))) (TJ 7 (by decide) (ao 5 (zE eI) b Δ))) (B6 5)) 1999999973 (by decide)) (λ_=>Δ) λd=>(bL (GK 2 a.2.1 Δ (lK (kj (qQ (dX (ao 3 (zE eI) d Δ) (dX (fW (ao 4 (zE eI) a.2.2 Δ) 1000000 (by decide)) (jg eI))) (Zs Δ))) (SG (U2 (ao 4 (zE eI) a.2.2 Δ) (B6 0)))) λg=>(bL (cF 4 (Mj (ao 4 (zE eI) a.2.2 Δ) 1000000 (by decide)) (λ_=>Δ) λf=>(bZ (bW (d,g,f) Δ))))))))
def jN(g:Int)(e:Int)(f:B9)(d:Int)(b:Int):B9:=(let a:Int×B9×Int:=((rng 0 e.toNat).foldl (λ(a:Int×B9×Int) (c:Int)=>(cN  a c)) (d,f,b));a.2.1)
def nH(g:Int)(c:Int)(f:B9)(e:Int)(d:Int):Prop:=(Rg c/\ou (λ(b:Int×B9×Int) (a:Int)=>(cN  b a)) (λ(b:Int×B9×Int) (a:Int)=>Z (jM  b a)) (rng 0 c.toNat) (e,f,d))
def Cd:Ev->O Ap:=(aF (xZ (ZG (aq (gv 1) aH)) (lM 5) mR) (aF (Dl 2) eV))
theorem Ce(c:Int)(b:Int)(f:B9)(e:Int)(d:Int):RP Cd [Z (zE eI c),Z (zE eI b),Z (oE eI f),Z (zE eI e),Z (zE eI d),Y] (λr=>Ap.rt (oE eI r)) (jN c b f e d) (Z (nH c b f e d)):=R.tp (Kc (λa:Int×B9×Int=>[Z (zE eI c),Z (zE eI b),Z ((oE eI) a.2.1),Z ((zE eI) a.1),Z ((zE eI) a.2.2),Y]) (e,f,d) Δ (Qu (ao 1 (zE eI) b Δ)) _ (λ_ _=>Δ) (λ(a:Int×B9×Int) (g:Int)=>(Ca c b a g).r) λa=>(BZ 2 (λr=>r) a.2.1 Δ (λ_=>Δ) λ_=>Δ))
def bD(a:Int)(d:Int):B9:=(let e:=([]:U Int);(let c:=((((a%1999999973)+31)*765432101)%1999999973);(let b:=(0:Int);(let b:Int:=(if((decide (a<0))||(decide (((10:Int) ^ 18)<=a)))=true then(let b:=(if a<0 then -a else a);b)else b);(jN a d e c b)))))
def gn(a:Int)(d:Int):Prop:=(let e:=([]:U Int);(let c:=((((a%1999999973)+31)*765432101)%1999999973);(let b:=(0:Int);(let b:Int:=(if((decide (a<0))||(decide (((10:Int) ^ 18)<=a)))=true then(let b:=(if a<0 then -a else a);b)else b);(nH a d e c b)))))
theorem Ji(a:Int)(c:Int):RP nR [Z (zE eI a),Z (zE eI c),Y,Y,Y,Y] (λr=>Ap.rt (oE eI r)) (bD a c) (Z (gn a c)):=R.tp (cF 2 (qQ (jg eI) (Zs Δ)) (λ_=>Δ) λe=>(cF 3 (fW (VJ (oh (fW (ao 0 (zE eI) a Δ) 1999999973 (by decide)) (B6 31)) 765432101 (by decide)) 1999999973 (by decide)) (λ_=>Δ) λd=>(cF 4 (B6 0) (λ_=>Δ) λb=>(GP (λb:Int=>[Z (zE eI a),Z (zE eI c),Z (oE eI e),Z (zE eI d),Z (zE eI b),Y]) (Qo (eY (IL (ao 0 (zE eI) a Δ) (B6 0))) (eY (F1 (ao 0 (zE eI) a Δ) (SV 10 18 18 (by decide) Δ)))) (bL (cF 4 (Re (ao 0 (zE eI) a Δ)) (λ_=>Δ) λb=>(bZ (bW b Δ)))) (bZ (bW b Δ)) λb=>(Ce a c e d b).r))))
theorem nW:∀v bs,(aZ eI (aZ eI aN)) v bs->bs.length=2/\(hold (Z (gn v.1 v.2.1))->fu (bs.map lend)=Z ((oE eI) (bD v.1 v.2.1))):=by
 rintro⟨b,a,_⟩ _ ⟨_,rfl,⟨_,rfl,rfl⟩⟩;exact⟨rfl,λh=>bR (g:=nR) (n:=6) (bs:=[.z (eI b),.z (eI a)]) (Ji b a) h⟩
def fL(f:B9)(e:AJ)(g:AJ)(d:Int)(c:An)(b:Int):An:=(let h:=(ch e ((b+(at' f 2))%15));(let a:=(((Txt.slice g Y (Z d))++h)++(Txt.slice g (Z d) Y));(let a:AJ:=(if(decide (((at' f 3)%3)=1))=true then(let a:=(Txt.mul (ch e (b / (8:Int))) (1+(b%8)));a)else a);(let c:=c++[a];c))))
def mj(b:B9)(d:AJ)(e:AJ)(c:Int)(h:An)(a:Int):Prop:=((In b.length 2/\In d.length ((a+(at' b 2))%15))/\(let g:=(ch d ((a+(at' b 2))%15));((HW ((Txt.slice e Y (Z c)).length+g.length)/\HW (((Txt.slice e Y (Z c))++g).length+(Txt.slice e (Z c) Y).length))/\(let f:=(((Txt.slice e Y (Z c))++g)++(Txt.slice e (Z c) Y));((In b.length 3/\((decide (((at' b 3)%3)=1))=true->(In d.length (a / (8:Int))/\((1+(a%8))<=1000 ∧ -1000<=(1+(a%8))/\(ch d (a / (8:Int))).length<=1000))))/\(let f:AJ:=(if(decide (((at' b 3)%3)=1))=true then(let f:=(Txt.mul (ch d (a / (8:Int))) (1+(a%8)));f)else f);HW h.length))))))
theorem Ht(g:B9)(i:Lp jc (g.map eI))(h:Int)(c:AJ)(f:AJ)(b:Int)(a:An)(d:Int):RP qx [Z jc,Z (zE eI h),Z (zE eS c),Z (zE eS f),Z (zE eI b),Z (oE eS a),Z (zE eI d),Y,Y] (λs=>Ap.nx ((λa:An=>[Z jc,Z (zE eI h),Z (zE eS c),Z (zE eS f),Z (zE eI b),Z (oE eS a),Y,Y,Y]) s)) (fL g c f b a d) (Z (mj g c f b a d)):=R.tp (bL (cF 7 (VN (ao 2 (zE eS) c Δ) (fW (oh (ao 6 (zE eI) d Δ) (lK (pA 0 eI g i Δ) (B6 2))) 15 (by decide))) (λ_=>Δ) λj=>(bL (cF 8 (TV (TV (Mm (ao 3 (zE eS) f Δ) FD (FM (ao 4 (zE eI) b Δ))) (ao 7 (zE eS) j Δ)) (Mm (ao 3 (zE eS) f Δ) (FM (ao 4 (zE eI) b Δ)) FD)) (λ_=>Δ) λe=>(bL (GP (λe:AJ=>[Z jc,Z (zE eI h),Z (zE eS c),Z (zE eS f),Z (zE eI b),Z (oE eS a),Z (zE eI d),Z (zE eS j),Z (zE eS e)]) (eY (Bi (by decide) (fW (lK (pA 0 eI g i Δ) (B6 3)) 3 (by decide)) (B6 1))) (bL (cF 8 (UT (VN (ao 2 (zE eS) c Δ) (Mj (ao 6 (zE eI) d Δ) 8 (by decide))) (oh (B6 1) (fW (ao 6 (zE eI) d Δ) 8 (by decide)))) (λ_=>Δ) λe=>(bZ (bW e Δ)))) (bZ (bW e Δ)) λe=>(bL (GK 5 a Δ (ao 8 (zE eS) e Δ) λa=>(bZ (bW a Δ))))))))))
def mq(b:B9)(g:Int)(e:AJ)(c:AJ):An:=(let d:=((at' b 1)%((c.length:Int)+1));(let a:=([]:An);(let a:An:=((rng 0 g.toNat).foldl (λ(a:An) (f:Int)=>(fL b e c d a f)) a);a)))
def qz(b:B9)(g:Int)(f:AJ)(c:AJ):Prop:=((In b.length 1/\0<((c.length:Int)+1))/\(let e:=((at' b 1)%((c.length:Int)+1));(let a:=([]:An);(Rg g/\ou (λ(a:An) (d:Int)=>(fL b f c e a d)) (λ(a:An) (d:Int)=>Z (mj b f c e a d)) (rng 0 g.toNat) a))))
def Hu:Ev->O Ap:=(aF (Au 4 (b2 jY (b2 gF (gv 0) (cB (.int 1))) (b2 iK (dM wX (aq (gv 3) aH)) (cB (.int 1))))) (aF (Au 5 (dM rP aH)) (aF (xZ (ZG (aq (gv 1) aH)) (lM 6) qx) (aF (Dl 5) eV))))
theorem Hv(e:B9)(g:Lp jc (e.map eI))(c:Int)(d:AJ)(b:AJ):RP Hu [Z jc,Z (zE eI c),Z (zE eS d),Z (zE eS b),Y,Y,Y,Y,Y] (λr=>Ap.rt (oE eS r)) (mq e c d b) (Z (qz e c d b)):=R.tp (cF 4 (Gx (lK (pA 0 eI e g Δ) (B6 1)) (oh (cK (ao 3 (zE eS) b Δ)) (B6 1))) (λ_=>Δ) λf=>(cF 5 (qQ (jg eS) (Zs Δ)) (λ_=>Δ) λa=>(Kc (λa:An=>[Z jc,Z (zE eI c),Z (zE eS d),Z (zE eS b),Z (zE eI f),Z (oE eS a),Y,Y,Y]) a Δ (Qu (ao 1 (zE eI) c Δ)) _ (λ_ _=>Δ) (λ(a:An) (h:Int)=>(Ht e g c d b f a h).r) λa=>(BZ 5 (λr=>r) a Δ (λ_=>Δ) λ_=>Δ))))
def cg(a:B9)(e:Int):An:=(let b:=("abcdefghijklmnopqrstuvwxyz":AJ);(let d:=(Txt.join "" ((rng 0 ((at' a 0)%6).toNat).map λc:Int=>(ch b (((at' a c) / (40:Int))%26))));(mq a e b d)))
def rD(a:B9)(e:Int):Prop:=(let c:=("abcdefghijklmnopqrstuvwxyz":AJ);(((((In a.length 0/\Rg ((at' a 0)%6))/\(rng 0 ((at' a 0)%6).toNat).length<=100000)/\(∀b∈(rng 0 ((at' a 0)%6).toNat),(In a.length b/\In c.length (((at' a b) / (40:Int))%26))))/\(((rng 0 ((at' a 0)%6).toNat).map λb:Int=>(ch c (((at' a b) / (40:Int))%26))).map (·.length)).sum+((rng 0 ((at' a 0)%6).toNat).map λb:Int=>(ch c (((at' a b) / (40:Int))%26))).length*("":AJ).length<=100000)/\(let d:=(Txt.join "" ((rng 0 ((at' a 0)%6).toNat).map λb:Int=>(ch c (((at' a b) / (40:Int))%26))));(qz a e c d))))
theorem Rc(a:B9)(b:Lp jc (a.map eI))(c:Int):RP qX [Z jc,Z (zE eI c),Y,Y,Y,Y,Y,Y,Y] (λr=>Ap.rt (oE eS r)) (cg a c) (Z (rD a c)):=R.tp (cF 2 (FF "abcdefghijklmnopqrstuvwxyz") (λ_=>Δ) λd=>(cF 3 (Sl "" (kj (GJ (Qu (fW (lK (pA 0 eI a b Δ) (B6 0)) 6 (by decide))) _ (λ_=>Δ) (λe:Int=>(VN (ao 0 (zE eS) d Δ) (fW (Mj (lK (pA 1 eI a b (congrArg Z (b.get Δ))) (ao 2 (zE eI) e Δ)) 40 (by decide)) 26 (by decide))))))) (λ_=>Δ) λf=>(Hv a b c d f).r))
theorem Rf:∀v bs,(aL eI (aZ eI aN)) v bs->bs.length=2/\(hold (Z (rD v.1 v.2.1))->oF (bs.map lend)=Z ((oE eS) (cg v.1 v.2.1))):=by
 rintro⟨b,a,_⟩ _ ⟨jc,_,rfl,c,⟨_,rfl,rfl⟩⟩;exact⟨rfl,λh=>bR (g:=qX) (n:=9) (bs:=[lend jc,.z (eI a)]) (Rc b (CK c) a) h⟩
def cY(j:B9)(g:Int)(e:Int)(l:B9)(f:An)(a:U aG)(i:Int):(U aG):=(let b:=(bD (bH j ((g+1)+i)) 4);(let y1:=((at' b 0)%(if e>1 then e else 1));let y2:=((at' b 1)%(if e>1 then e else 1));let c:=y1;let d:=y2;(let h:=(at' [(1+((at' b 2)%3)),(1+((at' b 2)%9)),(1+((at' b 2)%1000))] ((at' l 4)%3));(let a:(U aG):=(if(!decide (c=d))=true then(let a:=a++[(((0:Int)-h),(at' f (if d<c then d else c)),(at' f (if d>c then d else c)),(at' [(0:Int),(2:Int),(10:Int)] ((at' b 3)%3)))];a)else a);a))))
def iM(g:B9)(e:Int)(b:Int)(h:B9)(i:An)(j:U aG)(f:Int):Prop:=(((jx g ((e+1)+f))/\(gn (bH g ((e+1)+f)) 4))/\(let a:=(bD (bH g ((e+1)+f)) 4);(((In a.length 0/\0<(if b>1 then b else 1))/\(In a.length 1/\0<(if b>1 then b else 1)))/\(let y1:=((at' a 0)%(if b>1 then b else 1));let y2:=((at' a 1)%(if b>1 then b else 1));let c:=y1;let d:=y2;((((In a.length 2/\(In a.length 2/\In a.length 2))/\In h.length 4)/\In [(1+((at' a 2)%3)),(1+((at' a 2)%9)),(1+((at' a 2)%1000))].length ((at' h 4)%3))/\(let l:=(at' [(1+((at' a 2)%3)),(1+((at' a 2)%9)),(1+((at' a 2)%1000))] ((at' h 4)%3));((!decide (c=d))=true->((In i.length (if d<c then d else c)/\(In i.length (if d>c then d else c)/\(In a.length 3/\In [(0:Int),(2:Int),(10:Int)].length ((at' a 3)%3))))/\HW j.length))))))))
theorem Dv(h:B9)(o:Lp jc (h.map eI))(e:Int)(c:Int)(m:Int)(l:Int)(f:B9)(d:An)(a:U aG)(g:Int):RP oN [Z jc,Z (zE eI e),Z (zE eI c),Z (zE eI m),Z (zE eI l),Z (oE eI f),Z (oE eS d),Z (oE aP a),Z (zE eI g),Y,Y,Y,Y,Y,Y] (λs=>Ap.nx ((λa:(U aG)=>[Z jc,Z (zE eI e),Z (zE eI c),Z (zE eI m),Z (zE eI l),Z (oE eI f),Z (oE eS d),Z (oE aP a),Y,Y,Y,Y,Y,Y,Y]) s)) (cY h e c f d a g) (Z (iM h e c f d a g)):=R.tp (bL (cF 9 (AZ nW (aX (lW (AZ uD (BX (pA 0 eI h o Δ) (aX (lW (oh (oh (ao 1 (zE eI) e Δ) (B6 1)) (ao 8 (zE eI) g Δ))) aQ)))) (aX (B6 4) aQ))) (λ_=>Δ) λb=>(bL (N4 10 11 (Gx (lK (lV (ao 9 (lE eI) b Δ)) (B6 0)) (Ka (B6 1) (ao 2 (zE eI) c Δ))) (Gx (lK (lV (ao 9 (lE eI) b Δ)) (B6 1)) (Ka (B6 1) (ao 2 (zE eI) c Δ))) λi j=>(bL (cF 12 (lK (kj (qQ (dX (lW (oh (B6 1) (fW (lK (lV (ao 9 (lE eI) b Δ)) (B6 2)) 3 (by decide)))) (dX (lW (oh (B6 1) (fW (lK (lV (ao 9 (lE eI) b Δ)) (B6 2)) 9 (by decide)))) (dX (lW (oh (B6 1) (fW (lK (lV (ao 9 (lE eI) b Δ)) (B6 2)) 1000 (by decide)))) (jg eI)))) (Zs Δ))) (fW (lK (lV (ao 5 (lE eI) f Δ)) (B6 4)) 3 (by decide))) (λ_=>Δ) λn=>(bL (GP (λa:(U aG)=>[Z jc,Z (zE eI e),Z (zE eI c),Z (zE eI m),Z (zE eI l),Z (oE eI f),Z (oE eS d),Z (oE aP a),Z (zE eI g),Z (oE eI b),Z (zE eI i),Z (zE eI j),Z (zE eI n),Y,Y]) (eY (XC (by decide) (ao 10 (zE eI) i Δ) (ao 11 (zE eI) j Δ))) (bL (GK 7 a Δ (vR (J8 (B6 0) (ao 12 (zE eI) n Δ)) (lK (lV (ao 6 (lE eS) d Δ)) (MC (ao 10 (zE eI) i Δ) (ao 11 (zE eI) j Δ))) (lK (lV (ao 6 (lE eS) d Δ)) (Ka (ao 10 (zE eI) i Δ) (ao 11 (zE eI) j Δ))) (lK (kj (qQ (dX (B6 0) (dX (B6 2) (dX (B6 10) (jg eI)))) (Zs Δ))) (fW (lK (lV (ao 9 (lE eI) b Δ)) (B6 3)) 3 (by decide)))) λa=>(bZ (bW a Δ)))) (bZ (bW a Δ)) λa=>(bZ (bW a Δ))))))))))
def dO(j:B9)(g:Int)(d:Int)(f:An)(a:U jZ)(i:Int):(U jZ):=(let e:=(bD (bH j ((g+1)+i)) 8);(let h:=((at' e 5)%(if d>1 then d else 1));let l:=((at' e 6)%(if d>1 then d else 1));let b:=h;let c:=l;(let a:(U jZ):=(if(!decide (b=c))=true then(let a:=a++[((at' f (if c<b then c else b)),(at' f (if c>b then c else b)),(at' [(2:Int),(10:Int)] ((at' e 7)%2)))];a)else a);a)))
def iQ(g:B9)(e:Int)(a:Int)(h:An)(i:U jZ)(f:Int):Prop:=(((jx g ((e+1)+f))/\(gn (bH g ((e+1)+f)) 8))/\(let b:=(bD (bH g ((e+1)+f)) 8);(((In b.length 5/\0<(if a>1 then a else 1))/\(In b.length 6/\0<(if a>1 then a else 1)))/\(let j:=((at' b 5)%(if a>1 then a else 1));let l:=((at' b 6)%(if a>1 then a else 1));let c:=j;let d:=l;((!decide (c=d))=true->((In h.length (if d<c then d else c)/\(In h.length (if d>c then d else c)/\(In b.length 7/\In [(2:Int),(10:Int)].length ((at' b 7)%2))))/\HW i.length))))))
theorem Dw(f:B9)(p:Lp jc (f.map eI))(d:Int)(b:Int)(o:Int)(l:Int)(m:B9)(c:An)(j:U aG)(n:U aG)(a:U jZ)(e:Int):RP oO [Z jc,Z (zE eI d),Z (zE eI b),Z (zE eI o),Z (zE eI l),Z (oE eI m),Z (oE eS c),Z (oE aP j),Z (zE eI e),Y,Y,Y,Y,Z (oE aP n),Z (oE uW a)] (λs=>Ap.nx ((λa:(U jZ)=>[Z jc,Z (zE eI d),Z (zE eI b),Z (zE eI o),Z (zE eI l),Z (oE eI m),Z (oE eS c),Z (oE aP j),Y,Y,Y,Y,Y,Z (oE aP n),Z (oE uW a)]) s)) (dO f d b c a e) (Z (iQ f d b c a e)):=R.tp (bL (cF 9 (AZ nW (aX (lW (AZ uD (BX (pA 0 eI f p Δ) (aX (lW (oh (oh (ao 1 (zE eI) d Δ) (B6 1)) (ao 8 (zE eI) e Δ))) aQ)))) (aX (B6 8) aQ))) (λ_=>Δ) λh=>(bL (N4 10 11 (Gx (lK (lV (ao 9 (lE eI) h Δ)) (B6 5)) (Ka (B6 1) (ao 2 (zE eI) b Δ))) (Gx (lK (lV (ao 9 (lE eI) h Δ)) (B6 6)) (Ka (B6 1) (ao 2 (zE eI) b Δ))) λg i=>(bL (GP (λa:(U jZ)=>[Z jc,Z (zE eI d),Z (zE eI b),Z (zE eI o),Z (zE eI l),Z (oE eI m),Z (oE eS c),Z (oE aP j),Z (zE eI e),Z (oE eI h),Z (zE eI g),Z (zE eI i),Y,Z (oE aP n),Z (oE uW a)]) (eY (XC (by decide) (ao 10 (zE eI) g Δ) (ao 11 (zE eI) i Δ))) (bL (GK 14 a Δ (GD (lK (lV (ao 6 (lE eS) c Δ)) (MC (ao 10 (zE eI) g Δ) (ao 11 (zE eI) i Δ))) (lK (lV (ao 6 (lE eS) c Δ)) (Ka (ao 10 (zE eI) g Δ) (ao 11 (zE eI) i Δ))) (lK (kj (qQ (dX (B6 2) (dX (B6 10) (jg eI))) (Zs Δ))) (fW (lK (lV (ao 9 (lE eI) h Δ)) (B6 7)) 2 (by decide)))) λa=>(bZ (bW a Δ)))) (bZ (bW a Δ)) λa=>(bZ (bW a Δ))))))))
def oR(g:B9)(d:Int)(j:Int)(m:Int)(h:Int)(l:B9)(c:An)(e:U aG):cR:=(let i:=((pB aP (Ip e)).map λb:aG=>(((0:Int)-b.1),b.2.1,b.2.2.1,b.2.2.2));(let a:=([]:U jZ);(let a:(U jZ):=((rng 0 h.toNat).foldl (λ(a:U jZ) (f:Int)=>(dO g d j c a f)) a);(c,i,(pB uW (Ip a))))))
def oU(f:B9)(e:Int)(h:Int)(m:Int)(g:Int)(j:B9)(i:An)(c:U aG):Prop:=(((c.length<=64/\c.length<64)/\(pB aP (Ip c)).length<=100000)/\(let l:=((pB aP (Ip c)).map λd:aG=>(((0:Int)-d.1),d.2.1,d.2.2.1,d.2.2.2));(let a:=([]:U jZ);((Rg g/\ou (λ(a:U jZ) (b:Int)=>(dO f e h i a b)) (λ(a:U jZ) (b:Int)=>Z (iQ f e h i a b)) (rng 0 g.toNat) a)/\(let a:(U jZ):=((rng 0 g.toNat).foldl (λ(a:U jZ) (b:Int)=>(dO f e h i a b)) a);(a.length<=64/\a.length<64))))))
def uR:Ev->O Ap:=(aF (Au 13 (iJ (RD (Gj (Tj (gv 7)))) (ql 4 (bU (lM 0) (bU (lM 1) (bU (lM 2) (bU (lM 3) sO))))) zF (dM j7 (aq (b2 C5 (cB (.int 0)) (gv 0)) (aq (gv 1) (aq (gv 2) (aq (gv 3) aH))))) [] 4)) (aF (Au 14 (dM rP aH)) (aF (xZ (ZG (aq (gv 4) aH)) (lM 8) oO) (aF (fV (dM j7 (aq (dM j9 (aq (gv 6) aH)) (aq (dM j9 (aq (gv 13) aH)) (aq (dM j9 (aq (Gj (Tj (gv 14))) aH)) aH))))) eV))))
theorem Dy(i:B9)(m:Lp jc (i.map eI))(e:Int)(g:Int)(h:Int)(c:Int)(f:B9)(d:An)(b:U aG):RP uR [Z jc,Z (zE eI e),Z (zE eI g),Z (zE eI h),Z (zE eI c),Z (oE eI f),Z (oE eS d),Z (oE aP b),Y,Y,Y,Y,Y,Y,Y] (λr=>Ap.rt (zE aV r)) (oR i e g h c f d b) (Z (oU i e g h c f d b)):=R.tp (cF 13 (wK (FR (kj (MB (IG (lV (ao 7 (lE aP) b Δ)))))) _ (λ_=>Δ) (λj:aG=>(vR (J8 (B6 0) (ao 0 (zE eI) j.1 Δ)) (ao 1 (zE eS) j.2.1 Δ) (ao 2 (zE eS) j.2.2.1 Δ) (ao 3 (zE eI) j.2.2.2 Δ))) λ_=>Δ) (λ_=>Δ) λl=>(cF 14 (qQ (jg uW) (Zs Δ)) (λ_=>Δ) λa=>(Kc (λa:(U jZ)=>[Z jc,Z (zE eI e),Z (zE eI g),Z (zE eI h),Z (zE eI c),Z (oE eI f),Z (oE eS d),Z (oE aP b),Y,Y,Y,Y,Y,Z (oE aP l),Z (oE uW a)]) a Δ (Qu (ao 4 (zE eI) c Δ)) _ (λ_ _=>Δ) (λ(a:U jZ) (n:Int)=>(Dw i m e g h c f d b l a n).r) λa=>(cU (λr=>r) (GD (qR (lV (ao 6 (lE eS) d Δ))) (qR (lV (ao 13 (lE aP) l Δ))) (qR (kj (MB (IG (lV (ao 14 (lE uW) a Δ))))))) (λ_=>Δ) λ_=>Δ))))
def oV(c:B9)(b:Int)(e:Int)(g:Int)(i:Int)(d:B9)(f:An):cR:=(let a:=([]:U aG);(let a:(U aG):=((rng 0 g.toNat).foldl (λ(a:U aG) (h:Int)=>(cY c b e d f a h)) a);(oR c b e g i d f a)))
def oW(d:B9)(c:Int)(f:Int)(h:Int)(i:Int)(e:B9)(g:An):Prop:=(let a:=([]:U aG);((Rg h/\ou (λ(a:U aG) (b:Int)=>(cY d c f e g a b)) (λ(a:U aG) (b:Int)=>Z (iM d c f e g a b)) (rng 0 h.toNat) a)/\(let a:(U aG):=((rng 0 h.toNat).foldl (λ(a:U aG) (b:Int)=>(cY d c f e g a b)) a);(oU d c f h i e g a))))
def uT:Ev->O Ap:=(aF (Au 7 (dM rP aH)) (aF (xZ (ZG (aq (gv 3) aH)) (lM 8) oN) uR))
theorem Dz(h:B9)(i:Lp jc (h.map eI))(c:Int)(f:Int)(b:Int)(d:Int)(e:B9)(g:An):RP uT [Z jc,Z (zE eI c),Z (zE eI f),Z (zE eI b),Z (zE eI d),Z (oE eI e),Z (oE eS g),Y,Y,Y,Y,Y,Y,Y,Y] (λr=>Ap.rt (zE aV r)) (oV h c f b d e g) (Z (oW h c f b d e g)):=R.tp (cF 7 (qQ (jg aP) (Zs Δ)) (λ_=>Δ) λa=>(Kc (λa:(U aG)=>[Z jc,Z (zE eI c),Z (zE eI f),Z (zE eI b),Z (zE eI d),Z (oE eI e),Z (oE eS g),Z (oE aP a),Y,Y,Y,Y,Y,Y,Y]) a Δ (Qu (ao 3 (zE eI) b Δ)) _ (λ_ _=>Δ) (λ(a:U aG) (j:Int)=>(Dv h i c f b d e g a j).r) λa=>(Dy h i c f b d e g a).r))
def oX(d:B9)(c:Int)(b:Int)(g:Int)(e:Int)(a:B9):cR:=(let f:=(xJ (cg a b));(oV d c b g e a f))
def oY(d:B9)(c:Int)(b:Int)(g:Int)(e:Int)(a:B9):Prop:=(((rD a b)/\(cg a b).length<64)/\(let f:=(xJ (cg a b));(oW d c b g e a f)))
def DG:Ev->O Ap:=(aF (Au 6 (dM JQ (aq (bf 2 oF (aq (gv 5) (aq (gv 2) aH))) aH))) uT)
theorem DK(d:B9)(g:Lp jc (d.map eI))(c:Int)(b:Int)(f:Int)(e:Int)(a:B9):RP DG [Z jc,Z (zE eI c),Z (zE eI b),Z (zE eI f),Z (zE eI e),Z (oE eI a),Y,Y,Y,Y,Y,Y,Y,Y,Y] (λr=>Ap.rt (zE aV r)) (oX d c b f e a) (Z (oY d c b f e a)):=R.tp (cF 6 (Ya (kj (AZ Rf (BX (lV (ao 5 (lE eI) a Δ)) (aX (ao 2 (zE eI) b Δ) aQ))))) (λ_=>Δ) λh=>(Dz d g c b f e a h).r)
def cG(b:B9)(a:Int)(e:Int)(f:Int)(c:Int):cR:=(let d:=(bD (bH b a) 6);(oX b a e f c d))
def mz(b:B9)(a:Int)(e:Int)(f:Int)(c:Int):Prop:=(((jx b a)/\(gn (bH b a) 6))/\(let d:=(bD (bH b a) 6);(oY b a e f c d)))
theorem Ng(b:B9)(f:Lp jc (b.map eI))(a:Int)(d:Int)(e:Int)(c:Int):RP pD [Z jc,Z (zE eI a),Z (zE eI d),Z (zE eI e),Z (zE eI c),Y,Y,Y,Y,Y,Y,Y,Y,Y,Y] (λr=>Ap.rt (zE aV r)) (cG b a d e c) (Z (mz b a d e c)):=R.tp (cF 5 (AZ nW (aX (lW (AZ uD (BX (pA 0 eI b f Δ) (aX (ao 1 (zE eI) a Δ) aQ)))) (aX (B6 6) aQ))) (λ_=>Δ) λg=>(DK b f a d e c g).r)
theorem Al:∀v bs,(aL eI (aZ eI (aZ eI (aZ eI (aZ eI aN))))) v bs->bs.length=5/\(hold (Z (mz v.1 v.2.1 v.2.2.1 v.2.2.2.1 v.2.2.2.2.1))->lY (bs.map lend)=Z ((zE aV) (cG v.1 v.2.1 v.2.2.1 v.2.2.2.1 v.2.2.2.2.1))):=by
 rintro⟨f,a,c,d,b,_⟩ _ ⟨jc,_,rfl,e,⟨_,rfl,⟨_,rfl,⟨_,rfl,⟨_,rfl,rfl⟩⟩⟩⟩⟩;exact⟨rfl,λh=>bR (g:=pD) (n:=15) (bs:=[lend jc,.z (eI a),.z (eI c),.z (eI d),.z (eI b)]) (Ng f (CK e) a c d b) h⟩
def fX(a:(U (AJ×AJ)))(q2:MP):(U (AJ×AJ)):=(let a:=put a q2.2 (("zzzzzzz":AJ)++(ch ("abcdefg":AJ) q2.1));a)
def oZ(a:(U (AJ×AJ)))(q2:MP):Prop:=((In ("abcdefg":AJ).length q2.1/\HW (("zzzzzzz":AJ).length+(ch ("abcdefg":AJ) q2.1).length))/\a.length<1000)
theorem DN(c:cR)(d:An)(e:U aG)(b:U jZ)(a:(U (AJ×AJ)))(q2:MP):RP uO [Z (zE aV c),Z ((zE (eT eS)) d),Z ((zE (eT aP)) e),Z ((zE (eT uW)) b),Z (mE eS a),Z ((zE eI) q2.1),Z ((zE eS) q2.2),Y] (λs=>Ap.nx ((λa:(U (AJ×AJ))=>[Z (zE aV c),Z ((zE (eT eS)) d),Z ((zE (eT aP)) e),Z ((zE (eT uW)) b),Z (mE eS a),Y,Y,Y]) s)) (fX  a q2) (Z (oZ  a q2)):=R.tp (bL (Mu Y 4 a Δ (lW (TV (FF "zzzzzzz") (VN (FF "abcdefg") (ao 5 (zE eI) q2.1 Δ)))) (ao 6 (zE eS) q2.2 Δ) λa=>(bZ (bW a Δ))))
def dJ(e:cR):cR:=(let q1:=e;(let a:=([]:(U (AJ×AJ)));(let a:(U (AJ×AJ)):=((jo 0 q1.1).foldl (λ(a:(U (AJ×AJ))) (q2:MP)=>(fX  a q2)) a);(let c:=(q1.2.1.map λb:aG=>(b.1,(look a b.2.1),(look a b.2.2.1),b.2.2.2));((q1.1.map λd:AJ=>(look a d)),c,([]:U jZ))))))
def mC(d:cR):Prop:=(let q1:=d;(let a:=([]:(U (AJ×AJ)));(ou (λ(a:(U (AJ×AJ))) (q2:MP)=>(fX  a q2)) (λ(a:(U (AJ×AJ))) (q2:MP)=>Z (oZ  a q2)) (jo 0 q1.1) a/\(let a:(U (AJ×AJ)):=((jo 0 q1.1).foldl (λ(a:(U (AJ×AJ))) (q2:MP)=>(fX  a q2)) a);((q1.2.1.length<=100000/\(∀b∈q1.2.1,(has a b.2.1=true/\has a b.2.2.1=true)))/\(let e:=(q1.2.1.map λb:aG=>(b.1,(look a b.2.1),(look a b.2.2.1),b.2.2.2));(q1.1.length<=100000/\(∀c∈q1.1,has a c=true))))))))
theorem Nh(b:cR):RP pF [Z (zE aV b),Y,Y,Y,Y,Y,Y,Y] (λr=>Ap.rt (zE aV r)) (dJ b) (Z (mC b)):=R.tp (V1 (ao 0 (zE aV) b Δ) _ (λ_=>Δ) λq1=>(cF 4 (Pc eS) (λ_=>Δ) λa=>(Kc (λa:(U (AJ×AJ))=>[Z (zE aV b),Z ((zE (eT eS)) q1.1),Z ((zE (eT aP)) q1.2.1),Z ((zE (eT uW)) q1.2.2),Z (mE eS a),Y,Y,Y]) a Δ (XU (ao 1 (zE (eT eS)) q1.1 Δ)) _ (λ_ _=>Δ) (λ(a:(U (AJ×AJ))) (q2:MP)=>(DN b q1.1 q1.2.1 q1.2.2 a q2).r) λa=>(cF 7 (GJ (T4 (ao 2 (zE (eT aP)) q1.2.1 Δ)) _ (λ_=>Δ) (λc:aG=>(vR (ao 1 (zE eI) c.1 Δ) (jh (ao 0 (nE eS) a Δ) (ao 2 (zE eS) c.2.1 Δ)) (jh (ao 0 (nE eS) a Δ) (ao 3 (zE eS) c.2.2.1 Δ)) (ao 4 (zE eI) c.2.2.2 Δ)))) (λ_=>Δ) λd=>(cU (λr=>r) (GD (qR (kj (GJ (T4 (ao 1 (zE (eT eS)) q1.1 Δ)) _ (λ_=>Δ) (λe:AJ=>(jh (ao 0 (nE eS) a Δ) (ao 1 (zE eS) e Δ)))))) (qR (lV (ao 7 (lE aP) d Δ))) (GC uW)) (λ_=>Δ) λ_=>Δ)))))
theorem Ni:∀v bs,(aZ aV aN) v bs->bs.length=1/\(hold (Z (mC v.1))->pG (bs.map lend)=Z ((zE aV) (dJ v.1))):=by
 rintro⟨a,_⟩ _ ⟨_,rfl,rfl⟩;exact⟨rfl,λh=>bR (g:=pF) (n:=8) (bs:=[.z (aV a)]) (Nh a) h⟩
def aC(a:U aG):(U aG):=((pB aP (a.map λq1:aG=>(((0:Int)-q1.1),q1.2.1,q1.2.2.1,q1.2.2.2))).map λq2:aG=>(((0:Int)-q2.1),q2.2.1,q2.2.2.1,q2.2.2.2))
def gQ(a:U aG):Prop:=((a.length<=100000/\(a.map λq1:aG=>(((0:Int)-q1.1),q1.2.1,q1.2.2.1,q1.2.2.2)).length<64)/\(pB aP (a.map λq1:aG=>(((0:Int)-q1.1),q1.2.1,q1.2.2.1,q1.2.2.2))).length<=100000)
theorem Hw(a:U aG):RP gJ [Z ((zE (eT aP)) a)] (λr=>Ap.rt (oE aP r)) (aC a) (Z (gQ a)):=R.tp (cU (λr=>r) (wK (FR (kj (LM (kj (wK (T4 (ao 0 (zE (eT aP)) a Δ)) _ (λ_=>Δ) (λq1:aG=>(vR (J8 (B6 0) (ao 0 (zE eI) q1.1 Δ)) (ao 1 (zE eS) q1.2.1 Δ) (ao 2 (zE eS) q1.2.2.1 Δ) (ao 3 (zE eI) q1.2.2.2 Δ))) λ_=>Δ))))) _ (λ_=>Δ) (λq2:aG=>(vR (J8 (B6 0) (ao 0 (zE eI) q2.1 Δ)) (ao 1 (zE eS) q2.2.1 Δ) (ao 2 (zE eS) q2.2.2.1 Δ) (ao 3 (zE eI) q2.2.2.2 Δ))) λ_=>Δ) (λ_=>Δ) λ_=>Δ)
theorem wg:∀v bs,(aZ (eT aP) aN) v bs->bs.length=1/\(hold (Z (gQ v.1))->cV (bs.map lend)=Z ((oE aP) (aC v.1))):=by
 rintro⟨a,_⟩ _ ⟨_,rfl,rfl⟩;exact⟨rfl,λh=>bR (g:=gJ) (n:=1) (bs:=[.z (eT aP a)]) (Hw a) h⟩
def qC(a:cR)(b:cR):cR:=((a.1++b.1),(aC (a.2.1++b.2.1)),([]:U jZ))
def yC(a:cR)(b:cR):Prop:=(HW (a.1.length+b.1.length)/\(HW (a.2.1.length+b.2.1.length)/\(gQ (a.2.1++b.2.1))))
theorem Uj(a:cR)(b:cR):RP tX [Z (zE aV a),Z (zE aV b)] (λr=>Ap.rt (zE aV r)) (qC a b) (Z (yC a b)):=R.tp (cU (λr=>r) (GD (lW (Ml (fY (ao 0 (zE aV) a Δ) (λq=>q.1) (eT eS) 0 λ_=>Δ) (fY (ao 1 (zE aV) b Δ) (λq=>q.1) (eT eS) 0 λ_=>Δ))) (qR (kj (AZ wg (aX (lW (Ml (fY (ao 0 (zE aV) a Δ) (λq=>q.2.1) (eT aP) 1 λ_=>Δ) (fY (ao 1 (zE aV) b Δ) (λq=>q.2.1) (eT aP) 1 λ_=>Δ))) aQ)))) (GC uW)) (λ_=>Δ) λ_=>Δ)
theorem Uk:∀v bs,(aZ aV (aZ aV aN)) v bs->bs.length=2/\(hold (Z (yC v.1 v.2.1))->tY (bs.map lend)=Z ((zE aV) (qC v.1 v.2.1))):=by
 rintro⟨a,b,_⟩ _ ⟨_,rfl,⟨_,rfl,rfl⟩⟩;exact⟨rfl,λh=>bR (g:=tX) (n:=2) (bs:=[.z (aV a),.z (aV b)]) (Uj a b) h⟩
def aW(b:An):(U (AJ×AJ)):=(EQ (b.map λa:AJ=>(a,a)))
def jO(a:An):Prop:=(a.length<1000/\a.length<=100000)
theorem Nj(a:An):RP pH [Z ((zE (eT eS)) a)] (λr=>Ap.rt (mE eS r)) (aW a) (Z (jO a)):=R.tp (cU (λr=>r) (NE (T4 (ao 0 (zE (eT eS)) a Δ)) (wK (T4 (ao 0 (zE (eT eS)) a Δ)) _ (λ_=>Δ) (λb:AJ=>(WJ (ao 0 (zE eS) b Δ) (ao 0 (zE eS) b Δ))) λ_=>Δ)) (λ_=>Δ) λ_=>Δ)
theorem uF:∀v bs,(aZ (eT eS) aN) v bs->bs.length=1/\(hold (Z (jO v.1))->jG (bs.map lend)=Z ((mE eS) (aW v.1))):=by
 rintro⟨a,_⟩ _ ⟨_,rfl,rfl⟩;exact⟨rfl,λh=>bR (g:=pH) (n:=1) (bs:=[.z (eT eS a)]) (Nj a) h⟩
def dR(vx:AJ)(c:AJ)(d:AJ)(a:(U (AJ×AJ)))(b:AJ):(U (AJ×AJ)):=(let a:(U (AJ×AJ)):=(if((decide ((look a b)=vx))||(decide ((look a b)=c)))=true then(let a:=put a b d;a)else a);a)
def o7(vx:AJ)(c:AJ)(d:AJ)(a:(U (AJ×AJ)))(b:AJ):Prop:=((has a b=true/\((decide ((look a b)=vx))=false->has a b=true))/\(((decide ((look a b)=vx))||(decide ((look a b)=c)))=true->a.length<1000))
theorem DP(vx:AJ)(c:AJ)(d:AJ)(a:(U (AJ×AJ)))(b:AJ):RP uP [Z ((mW (Z a_) eS) a),Z (zE eS vx),Z (zE eS c),Z (zE eS d),Z (zE eS b)] (λs=>Ap.nx ((λa:(U (AJ×AJ))=>[Z ((mW (Z a_) eS) a),Z (zE eS vx),Z (zE eS c),Z (zE eS d),Y]) s)) (dR vx c d a b) (Z (o7 vx c d a b)):=R.tp (bL (GP (λa:(U (AJ×AJ))=>[Z ((mW (Z a_) eS) a),Z (zE eS vx),Z (zE eS c),Z (zE eS d),Z (zE eS b)]) (Qo (eY (Bi (by decide) (jh (ao 0 (nE eS) a Δ) (ao 4 (zE eS) b Δ)) (ao 1 (zE eS) vx Δ))) (eY (Bi (by decide) (jh (ao 0 (nE eS) a Δ) (ao 4 (zE eS) b Δ)) (ao 2 (zE eS) c Δ)))) (bL (Mu (Z a_) 0 a Δ (ao 3 (zE eS) d Δ) (ao 4 (zE eS) b Δ) λa=>(bZ (bW a Δ)))) (bZ (bW a Δ)) λa=>(bZ (bW a Δ))))
def iH(a:(U (AJ×AJ)))(vx:AJ)(b:AJ):(U (AJ×AJ)):=(let c:=(if mQ b vx=true then b else vx);(let a:(U (AJ×AJ)):=((a.map (·.1)).foldl (λ(a:(U (AJ×AJ))) (d:AJ)=>(dR vx b c a d)) a);a))
def jP(a:(U (AJ×AJ)))(vx:AJ)(b:AJ):Prop:=(let d:=(if mQ b vx=true then b else vx);ou (λ(a:(U (AJ×AJ))) (c:AJ)=>(dR vx b d a c)) (λ(a:(U (AJ×AJ))) (c:AJ)=>Z (o7 vx b d a c)) (a.map (·.1)) a)
def uG(a:(U (AJ×AJ)))(vx:AJ)(b:AJ):R pI [Z ((mW (Z a_) eS) a),Z (zE eS vx),Z (zE eS b),Y,Y] (λd=>Ap.nx [Z ((mW (Z a_) eS) d),Z (zE eS vx),Z (zE eS b),Y,Y]):=(bL (cF 3 (X' (ao 1 (zE eS) vx Δ) (ao 2 (zE eS) b Δ)) (λ_=>Δ) λc=>(bL (Kc (λa:(U (AJ×AJ))=>[Z ((mW (Z a_) eS) a),Z (zE eS vx),Z (zE eS b),Z (zE eS c),Y]) a Δ (LF (O' (ao 0 (nE eS) a Δ))) _ (λ_ _=>Δ) (λ(a:(U (AJ×AJ))) (e:AJ)=>(DP vx b c a e).r) λa=>(bZ (bW a Δ))))))
theorem Jj(a:(U (AJ×AJ)))(vx:AJ)(b:AJ):(uG (a_:=a_) a vx b).v=iH a vx b:=by kernel_rfl
theorem Jk(a:(U (AJ×AJ)))(vx:AJ)(b:AJ):(uG (a_:=a_) a vx b).D=Z (jP a vx b):=by kernel_rfl
theorem uH:∀(b:(U (AJ×AJ))) v bs,(aZ eS (aZ eS aN)) v bs->bs.length=2/\bs.all DA=true/\(hold (Z (jP b v.1 v.2.1))->∀a,ig a (b.map λq=>(kS q.1,eS q.2)) bs=Z ((iH b v.1 v.2.1).map λq=>(kS q.1,eS q.2))):=by
 rintro b ⟨vx,c,_⟩ _ ⟨_,rfl,⟨_,rfl,rfl⟩⟩;exact⟨rfl,rfl,λh a=>(ap (g:=pI) (n:=5) (bs:=[.z (eS vx),.z (eS c)]) (uG (a_:=a) b vx c) ((congrArg hold (Jk (a_:=a) b vx c)).mpr h) (λ_=>Δ)).trans (congrArg (λr:(U (AJ×AJ))=>Z (r.map λq=>(kS q.1,eS q.2))) (Jj (a_:=a) b vx c))⟩
def gq(a:(U (AJ×AJ)))(q1:aG):(U (AJ×AJ)):=(let a:=(iH a (look a q1.2.1) (look a q1.2.2.1));a)
def rZ(a:(U (AJ×AJ)))(q1:aG):Prop:=((has a q1.2.1=true/\has a q1.2.2.1=true)/\(jP a (look a q1.2.1) (look a q1.2.2.1)))
theorem Jl(c:An)(b:U aG)(a:(U (AJ×AJ)))(q1:aG):RP rY [Z ((zE (eT eS)) c),Z ((zE (eT aP)) b),Z (mE eS a),Z ((zE eI) q1.1),Z ((zE eS) q1.2.1),Z ((zE eS) q1.2.2.1),Z ((zE eI) q1.2.2.2)] (λs=>Ap.nx ((λa:(U (AJ×AJ))=>[Z ((zE (eT eS)) c),Z ((zE (eT aP)) b),Z (mE eS a),Y,Y,Y,Y]) s)) (gq  a q1) (Z (rZ  a q1)):=R.tp (bL (T6 Y 2 a Δ uH (aX (jh (ao 2 (nE eS) a Δ) (ao 4 (zE eS) q1.2.1 Δ)) (aX (jh (ao 2 (nE eS) a Δ) (ao 5 (zE eS) q1.2.2.1 Δ)) aQ)) λa=>(bZ (bW a Δ))))
def fM(c:An)(b:U aG):(U (AJ×AJ)):=(let a:=(aW c);(let a:(U (AJ×AJ)):=(b.foldl (λ(a:(U (AJ×AJ))) (q1:aG)=>(gq  a q1)) a);a))
def qD(b:An)(c:U aG):Prop:=((jO b)/\(let a:=(aW b);ou (λ(a:(U (AJ×AJ))) (q1:aG)=>(gq  a q1)) (λ(a:(U (AJ×AJ))) (q1:aG)=>Z (rZ  a q1)) c a))
theorem Ul(c:An)(b:U aG):RP mU [Z ((zE (eT eS)) c),Z ((zE (eT aP)) b),Y,Y,Y,Y,Y] (λr=>Ap.rt (mE eS r)) (fM c b) (Z (qD c b)):=R.tp (cF 2 (AZ uF (aX (ao 0 (zE (eT eS)) c Δ) aQ)) (λ_=>Δ) λa=>(Mt 1 b (Ms Δ) (λa:(U (AJ×AJ))=>[Z ((zE (eT eS)) c),Z ((zE (eT aP)) b),Z (mE eS a),Y,Y,Y,Y]) a Δ _ (λ_ _=>Δ) (λ(a:(U (AJ×AJ))) (q1:aG)=>(Jl c b a q1).r) λa=>(BZ 2 (λr=>r) a Δ (λ_=>Δ) λ_=>Δ)))
theorem Hx:∀v bs,(aZ (eT eS) (aZ (eT aP) aN)) v bs->bs.length=2/\(hold (Z (qD v.1 v.2.1))->kJ (bs.map lend)=Z ((mE eS) (fM v.1 v.2.1))):=by
 rintro⟨b,a,_⟩ _ ⟨_,rfl,⟨_,rfl,rfl⟩⟩;exact⟨rfl,λh=>bR (g:=mU) (n:=7) (bs:=[.z (eT eS b),.z (eT aP a)]) (Ul b a) h⟩
def fG(b:(U (AJ×AJ)))(c:AJ):An:=(((b.map (·.1)).filter λa:AJ=>(decide ((look b a)=c))).map λa:AJ=>a)
def jd(a:(U (AJ×AJ)))(c:AJ):Prop:=((a.map (·.1)).length<=100000/\(∀b∈(a.map (·.1)),has a b=true))
theorem Jm(a:(U (AJ×AJ)))(b:AJ):RP nT [Z (nE eS a),Z (zE eS b)] (λr=>Ap.rt ((zE (eT eS)) r)) (fG a b) (Z (jd a b)):=R.tp (cU (λr=>r) (qR (kj (V0 (IS (ao 0 (nE eS) a Δ)) _ (λ_=>Δ) (λc:AJ=>(eY (Bi (by decide) (jh (ao 1 (nE eS) a Δ) (ao 2 (zE eS) c Δ)) (ao 0 (zE eS) b Δ)))) (λc:AJ=>(ao 2 (zE eS) c Δ))))) (λ_=>Δ) λ_=>Δ)
theorem su:∀v bs,(aM eS (aZ eS aN)) v bs->bs.length=2/\(hold (Z (jd v.1 v.2.1))->iT (bs.map lend)=Z ((zE (eT eS)) (fG v.1 v.2.1))):=by
 rintro⟨a,b,_⟩ _ ⟨_,_,rfl,(rfl|rfl),⟨_,rfl,rfl⟩⟩
 all_goals exact⟨rfl,λh=>bR (g:=nT) (n:=2) (bs:=[nE eS a,.z (eS b)]) (Jm a b) h⟩
def jQ(b:(U (AJ×AJ))):(U An):=(((b.map (·.1)).filter λa:AJ=>(decide ((look b a)=a))).map λa:AJ=>(fG b a))
def mD(a:(U (AJ×AJ))):Prop:=((a.map (·.1)).length<=100000/\(∀b∈(a.map (·.1)),(has a b=true/\((decide ((look a b)=b))=true->(jd a b)))))
theorem Nk(a:(U (AJ×AJ))):RP pJ [Z (nE eS a)] (λr=>Ap.rt ((oE (eT eS)) r)) (jQ a) (Z (mD a)):=R.tp (cU (λr=>r) (V0 (IS (ao 0 (nE eS) a Δ)) _ (λ_=>Δ) (λb:AJ=>(eY (Bi (by decide) (jh (ao 0 (nE eS) a Δ) (ao 1 (zE eS) b Δ)) (ao 1 (zE eS) b Δ)))) (λb:AJ=>(lW (AZ su (FY (ao 0 (nE eS) a Δ) (aX (ao 1 (zE eS) b Δ) aQ)))))) (λ_=>Δ) λ_=>Δ)
theorem Np:∀v bs,(aM eS aN) v bs->bs.length=1/\(hold (Z (mD v.1))->pK (bs.map lend)=Z ((oE (eT eS)) (jQ v.1))):=by
 rintro⟨a,_⟩ _ ⟨_,_,rfl,(rfl|rfl),rfl⟩
 all_goals exact⟨rfl,λh=>bR (g:=pJ) (n:=1) (bs:=[nE eS a]) (Nk a) h⟩
def yD(b:An)(a:U aG):(U An):=(jQ (fM b a))
def yE(b:An)(a:U aG):Prop:=((qD b a)/\(mD (fM b a)))
theorem Um(b:An)(a:U aG):RP tZ [Z ((zE (eT eS)) b),Z ((zE (eT aP)) a)] (λr=>Ap.rt ((oE (eT eS)) r)) (yD b a) (Z (yE b a)):=R.tp (cU (λr=>r) (AZ Np (PP (AZ Hx (aX (ao 0 (zE (eT eS)) b Δ) (aX (ao 1 (zE (eT aP)) a Δ) aQ))) aQ)) (λ_=>Δ) λ_=>Δ)
theorem Uo:∀v bs,(aZ (eT eS) (aZ (eT aP) aN)) v bs->bs.length=2/\(hold (Z (yE v.1 v.2.1))->uc (bs.map lend)=Z ((oE (eT eS)) (yD v.1 v.2.1))):=by
 rintro⟨b,a,_⟩ _ ⟨_,rfl,⟨_,rfl,rfl⟩⟩;exact⟨rfl,λh=>bR (g:=tZ) (n:=2) (bs:=[.z (eT eS b),.z (eT aP a)]) (Um b a) h⟩
def fP(vs:cR):(U An):=(yD vs.1 vs.2.1)
def nJ(vs:cR):Prop:=(yE vs.1 vs.2.1)
theorem Uq(vs:cR):RP ud [Z (zE aV vs)] (λr=>Ap.rt ((oE (eT eS)) r)) (fP vs) (Z (nJ vs)):=R.tp (cU (λr=>r) (AZ Uo (aX (fY (ao 0 (zE aV) vs Δ) (λq=>q.1) (eT eS) 0 λ_=>Δ) (aX (fY (ao 0 (zE aV) vs Δ) (λq=>q.2.1) (eT aP) 1 λ_=>Δ) aQ))) (λ_=>Δ) λ_=>Δ)
theorem yF:∀v bs,(aZ aV aN) v bs->bs.length=1/\(hold (Z (nJ v.1))->mV (bs.map lend)=Z ((oE (eT eS)) (fP v.1))):=by
 rintro⟨vs,_⟩ _ ⟨_,rfl,rfl⟩;exact⟨rfl,λh=>bR (g:=ud) (n:=1) (bs:=[.z (aV vs)]) (Uq vs) h⟩
def dU(a:(U (AJ×AJ))×(U aG))(b:aG):(U (AJ×AJ))×(U aG):=(let vx:=(look a.1 b.2.1);(let c:=(look a.1 b.2.2.1);(let d:(U (AJ×AJ))×(U aG):=(if(!decide (vx=c))=true then(let e:=(iH a.1 vx c);(let f:=a.2++[b];(e,f)))else(a.1,a.2));(d.1,d.2))))
def j6(a:(U (AJ×AJ))×(U aG))(b:aG):Prop:=(has a.1 b.2.1=true/\(let vx:=(look a.1 b.2.1);(has a.1 b.2.2.1=true/\(let c:=(look a.1 b.2.2.1);((!decide (vx=c))=true->((jP a.1 vx c)/\(let d:=(iH a.1 vx c);HW a.2.length)))))))
theorem DR(vs:cR)(e:An)(g:U aG)(f:U jZ)(a:(U (AJ×AJ))×(U aG))(b:aG):RP uQ [Z (zE aV vs),Z ((zE (eT eS)) e),Z ((zE (eT aP)) g),Z ((zE (eT uW)) f),Z ((mE eS) a.1),Z ((oE aP) a.2),Z (zE aP b),Y,Y] (λs=>Ap.nx ((λa:(U (AJ×AJ))×(U aG)=>[Z (zE aV vs),Z ((zE (eT eS)) e),Z ((zE (eT aP)) g),Z ((zE (eT uW)) f),Z ((mE eS) a.1),Z ((oE aP) a.2),Y,Y,Y]) s)) (dU  a b) (Z (j6  a b)):=R.tp (bL (cF 7 (jh (ao 4 (nE eS) a.1 Δ) (fY (ao 6 (zE aP) b Δ) (λq=>q.2.1) eS 1 λ_=>Δ)) (λ_=>Δ) λvx=>(bL (cF 8 (jh (ao 4 (nE eS) a.1 Δ) (fY (ao 6 (zE aP) b Δ) (λq=>q.2.2.1) eS 2 λ_=>Δ)) (λ_=>Δ) λd=>(bL (GP (λc:(U (AJ×AJ))×(U aG)=>[Z (zE aV vs),Z ((zE (eT eS)) e),Z ((zE (eT aP)) g),Z ((zE (eT uW)) f),Z ((mE eS) c.1),Z ((oE aP) c.2),Z (zE aP b),Z (zE eS vx),Z (zE eS d)]) (eY (XC (by decide) (ao 7 (zE eS) vx Δ) (ao 8 (zE eS) d Δ))) (bL (T6 Y 4 a.1 Δ uH (aX (ao 7 (zE eS) vx Δ) (aX (ao 8 (zE eS) d Δ) aQ)) λh=>(bL (GK 5 a.2 Δ (ao 6 (zE aP) b Δ) λi=>(bZ (bW (h,i) Δ)))))) (bZ (bW (a.1,a.2) Δ)) λc=>(bZ (bW (c.1,c.2) Δ))))))))
def bw(vs:cR):(U aG):=(let q1:=vs;(let b:=(aW q1.1);(let c:=([]:U aG);(let a:(U (AJ×AJ))×(U aG):=(q1.2.1.foldl (λ(a:(U (AJ×AJ))×(U aG)) (d:aG)=>(dU  a d)) (b,c));a.2))))
def eE(vs:cR):Prop:=(let q1:=vs;((jO q1.1)/\(let c:=(aW q1.1);(let d:=([]:U aG);ou (λ(b:(U (AJ×AJ))×(U aG)) (a:aG)=>(dU  b a)) (λ(b:(U (AJ×AJ))×(U aG)) (a:aG)=>Z (j6  b a)) q1.2.1 (c,d)))))
theorem Nq(vs:cR):RP pN [Z (zE aV vs),Y,Y,Y,Y,Y,Y,Y,Y] (λr=>Ap.rt (oE aP r)) (bw vs) (Z (eE vs)):=R.tp (V1 (ao 0 (zE aV) vs Δ) _ (λ_=>Δ) λq1=>(cF 4 (AZ uF (aX (ao 1 (zE (eT eS)) q1.1 Δ) aQ)) (λ_=>Δ) λb=>(cF 5 (qQ (jg aP) (Zs Δ)) (λ_=>Δ) λc=>(Mt 2 q1.2.1 (Ms Δ) (λa:(U (AJ×AJ))×(U aG)=>[Z (zE aV vs),Z ((zE (eT eS)) q1.1),Z ((zE (eT aP)) q1.2.1),Z ((zE (eT uW)) q1.2.2),Z ((mE eS) a.1),Z ((oE aP) a.2),Y,Y,Y]) (b,c) Δ _ (λ_ _=>Δ) (λ(a:(U (AJ×AJ))×(U aG)) (d:aG)=>(DR vs q1.1 q1.2.1 q1.2.2 a d).r) λa=>(BZ 5 (λr=>r) a.2 Δ (λ_=>Δ) λ_=>Δ)))))
theorem jR:∀v bs,(aZ aV aN) v bs->bs.length=1/\(hold (Z (eE v.1))->dG (bs.map lend)=Z ((oE aP) (bw v.1))):=by
 rintro⟨vs,_⟩ _ ⟨_,rfl,rfl⟩;exact⟨rfl,λh=>bR (g:=pN) (n:=9) (bs:=[.z (aV vs)]) (Nq vs) h⟩
def dh(a:U aG):(U aG):=((pB aP (a.map λq1:aG=>(((0:Int)-q1.1),q1.2.1,q1.2.2.1,q1.2.2.2))).map λq2:aG=>(((0:Int)-q2.1),q2.2.1,q2.2.2.1,q2.2.2.2))
def jT(a:U aG):Prop:=((a.length<=100000/\(a.map λq1:aG=>(((0:Int)-q1.1),q1.2.1,q1.2.2.1,q1.2.2.2)).length<64)/\(pB aP (a.map λq1:aG=>(((0:Int)-q1.1),q1.2.1,q1.2.2.1,q1.2.2.2))).length<=100000)
theorem Cg(a:U aG)(b:Lp jc (a.map aP)):RP gJ [Z jc] (λr=>Ap.rt (oE aP r)) (dh a) (Z (jT a)):=R.tp (cU (λr=>r) (wK (FR (kj (LM (kj (wK (FR (pA 0 aP a b Δ)) _ (λ_=>Δ) (λq1:aG=>(vR (J8 (B6 0) (ao 0 (zE eI) q1.1 Δ)) (ao 1 (zE eS) q1.2.1 Δ) (ao 2 (zE eS) q1.2.2.1 Δ) (ao 3 (zE eI) q1.2.2.2 Δ))) λ_=>Δ))))) _ (λ_=>Δ) (λq2:aG=>(vR (J8 (B6 0) (ao 0 (zE eI) q2.1 Δ)) (ao 1 (zE eS) q2.2.1 Δ) (ao 2 (zE eS) q2.2.2.1 Δ) (ao 3 (zE eI) q2.2.2.2 Δ))) λ_=>Δ) (λ_=>Δ) λ_=>Δ)
theorem sX:∀v bs,(aL aP aN) v bs->bs.length=1/\(hold (Z (jT v.1))->cV (bs.map lend)=Z ((oE aP) (dh v.1))):=by
 rintro⟨b,_⟩ _ ⟨jc,_,rfl,a,rfl⟩;exact⟨rfl,λh=>bR (g:=gJ) (n:=1) (bs:=[lend jc]) (Cg b (CK a)) h⟩
def jU(a:Dt)(d:AJ)(c:Int):Bool:=((qm a)&&(((decide ((1:Int)<=(Mp a)))&&(decide ((Mp a)<=c)))&&(((DI a).map λb:Dt=>(JF (T3 b) d)).all id)))
def mF(a:Dt)(d:AJ)(c:Int):Prop:=((qm a)=true->((Mq a=true/\((decide ((1:Int)<=(Mp a)))=true->Mq a=true))/\(((decide ((1:Int)<=(Mp a)))&&(decide ((Mp a)<=c)))=true->((Mq a=true/\(DI a).length<=100000)/\(∀b∈(DI a),b=eS (T3 b))))))
theorem Nr(a:Dt)(c:AJ)(b:Int):RP pP [Z (zE eD a),Z (zE eS c),Z (zE eI b)] (λr=>Ap.rt (zE eB r)) (jU a c b) (Z (mF a c b)):=R.tp (cU (λr=>r) (vQ (VP qm (ao 0 (zE eD) a Δ)) (vQ (Ll (FU (B6 1) (TY (ao 0 (zE eD) a Δ))) (FU (TY (ao 0 (zE eD) a Δ)) (ao 2 (zE eI) b Δ))) (IR (kj (GJ (dP (ao 0 (zE eD) a Δ)) _ (λ_=>Δ) (λd:Dt=>(d5 (tK (ao 1 (zE eD) d Δ) T3 eS) (ao 0 (zE eS) c Δ)))))))) (λ_=>Δ) λ_=>Δ)
theorem Nt:∀v bs,(aZ eD (aZ eS (aZ eI aN))) v bs->bs.length=3/\(hold (Z (mF v.1 v.2.1 v.2.2.1))->pQ (bs.map lend)=Z ((zE eB) (jU v.1 v.2.1 v.2.2.1))):=by
 rintro⟨a,c,b,_⟩ _ ⟨_,rfl,⟨_,rfl,⟨_,rfl,rfl⟩⟩⟩;exact⟨rfl,λh=>bR (g:=pP) (n:=3) (bs:=[.z (eD a),.z (eS c),.z (eI b)]) (Nr a c b) h⟩
def d9(a:Dt):Bool:=(jU a ("abcdefghijklmnopqrstuvwxyz":AJ) 8)
def qd(a:Dt):Prop:=(mF a ("abcdefghijklmnopqrstuvwxyz":AJ) 8)
theorem X5(a:Dt):RP wL [Z (zE eD a)] (λr=>Ap.rt (zE eB r)) (d9 a) (Z (qd a)):=R.tp (cU (λr=>r) (AZ Nt (aX (ao 0 (zE eD) a Δ) (aX (FF "abcdefghijklmnopqrstuvwxyz") (aX (B6 8) aQ)))) (λ_=>Δ) λ_=>Δ)
theorem Ci:∀v bs,(aZ eD aN) v bs->bs.length=1/\(hold (Z (qd v.1))->mX (bs.map lend)=Z ((zE eB) (d9 v.1))):=by
 rintro⟨a,_⟩ _ ⟨_,rfl,rfl⟩;exact⟨rfl,λh=>bR (g:=wL) (n:=1) (bs:=[.z (eD a)]) (X5 a) h⟩
def sY(vs:cR)(a:AJ):Unit:=(if((!(d9 (eS a)))||(!decide (a∈vs.1)))=true then default else())
def fJ(vs:cR)(a:AJ):Prop:=((qd (eS a))/\(((!(d9 (eS a)))||(!decide (a∈vs.1)))=true->False))
theorem Cj(vs:cR)(a:AJ):RP jH [Z (zE aV vs),Z (zE eS a)] (λ_:Unit=>Ap.nx [Z (zE aV vs),Z (zE eS a)]) (sY vs a) (Z (fJ vs a)):=R.tp (bL (mJ (Qo (Qp (EN (AZ Ci (aX (J6 (ao 1 (zE eS) a Δ)) aQ)))) (eY (bi (ao 1 (zE eS) a Δ) (fY (ao 0 (zE aV) vs Δ) (λq=>q.1) (eT eS) 0 λ_=>Δ)))) (bL V7) (bZ (bZ (bW () Δ)))))
theorem nM:∀v bs,(aZ aV (aZ eS aN)) v bs->bs.length=2/\(hold (Z (fJ v.1 v.2.1))->dZ (bs.map lend)=Z ((zE eN) (sY v.1 v.2.1))):=by
 rintro⟨vs,a,_⟩ _ ⟨_,rfl,⟨_,rfl,rfl⟩⟩;exact⟨rfl,λh=>V8 (g:=jH) (n:=2) (bs:=[.z (aV vs),.z (eS a)]) (Cj vs a).r h⟩
def wO(c:An)(b:U aG)(d:AJ):An:=(let a:=(fM c b);(fG a (look a d)))
def wQ(c:An)(b:U aG)(d:AJ):Prop:=((qD c b)/\(let a:=(fM c b);(has a d=true/\(jd a (look a d)))))
theorem X6(b:An)(a:U aG)(c:AJ):RP qb [Z ((zE (eT eS)) b),Z ((zE (eT aP)) a),Z (zE eS c),Y] (λr=>Ap.rt ((zE (eT eS)) r)) (wO b a c) (Z (wQ b a c)):=R.tp (cF 3 (AZ Hx (aX (ao 0 (zE (eT eS)) b Δ) (aX (ao 1 (zE (eT aP)) a Δ) aQ))) (λ_=>Δ) λd=>(cU (λr=>r) (AZ su (FY (ao 3 (nE eS) d Δ) (aX (jh (ao 3 (nE eS) d Δ) (ao 2 (zE eS) c Δ)) aQ))) (λ_=>Δ) λ_=>Δ))
theorem X7:∀v bs,(aZ (eT eS) (aZ (eT aP) (aZ eS aN))) v bs->bs.length=3/\(hold (Z (wQ v.1 v.2.1 v.2.2.1))->lD (bs.map lend)=Z ((zE (eT eS)) (wO v.1 v.2.1 v.2.2.1))):=by
 rintro⟨b,a,c,_⟩ _ ⟨_,rfl,⟨_,rfl,⟨_,rfl,rfl⟩⟩⟩;exact⟨rfl,λh=>bR (g:=qb) (n:=4) (bs:=[.z (eT eS b),.z (eT aP a),.z (eS c)]) (X6 b a c) h⟩
def cP(vs:cR)(a:AJ):An:=(wO vs.1 vs.2.1 a)
def je(vs:cR)(a:AJ):Prop:=((fJ vs a)/\(wQ vs.1 vs.2.1 a))
theorem X8(vs:cR)(a:AJ):RP wM [Z (zE aV vs),Z (zE eS a)] (λr=>Ap.rt ((zE (eT eS)) r)) (cP vs a) (Z (je vs a)):=R.tp (MF (AZ nM (aX (ao 0 (zE aV) vs Δ) (aX (ao 1 (zE eS) a Δ) aQ))) (cU (λr=>r) (AZ X7 (aX (fY (ao 0 (zE aV) vs Δ) (λq=>q.1) (eT eS) 0 λ_=>Δ) (aX (fY (ao 0 (zE aV) vs Δ) (λq=>q.2.1) (eT aP) 1 λ_=>Δ) (aX (ao 1 (zE eS) a Δ) aQ)))) (λ_=>Δ) λ_=>Δ))
theorem nO:∀v bs,(aZ aV (aZ eS aN)) v bs->bs.length=2/\(hold (Z (je v.1 v.2.1))->gK (bs.map lend)=Z ((zE (eT eS)) (cP v.1 v.2.1))):=by
 rintro⟨vs,a,_⟩ _ ⟨_,rfl,⟨_,rfl,rfl⟩⟩;exact⟨rfl,λh=>bR (g:=wM) (n:=2) (bs:=[.z (aV vs),.z (eS a)]) (X8 vs a) h⟩
def aU(a:aG)(b:AJ):(O AJ):=(if(decide (a.2.1=b))=true then(Z a.2.2.1)else(if(decide (a.2.2.1=b))=true then(Z a.2.1)else Y))
theorem Rh(a:aG)(b:AJ):RP qY [Z (zE aP a),Z (zE eS b)] (λr=>Ap.rt ((zE (eO eS)) r)) (aU a b) Y:=R.tp (mJ (eY (Bi (by decide) (fY (ao 0 (zE aP) a Δ) (λq=>q.2.1) eS 1 λ_=>Δ) (ao 1 (zE eS) b Δ))) (bL (cU (λr=>r) (TF (fY (ao 0 (zE aP) a Δ) (λq=>q.2.2.1) eS 2 λ_=>Δ)) (λ_=>Δ) λ_=>Δ)) (bZ (mJ (eY (Bi (by decide) (fY (ao 0 (zE aP) a Δ) (λq=>q.2.2.1) eS 2 λ_=>Δ) (ao 1 (zE eS) b Δ))) (bL (cU (λr=>r) (TF (fY (ao 0 (zE aP) a Δ) (λq=>q.2.1) eS 1 λ_=>Δ)) (λ_=>Δ) λ_=>Δ)) (bZ (cU (λr=>r) II (λ_=>Δ) λ_=>Δ)))))
theorem Dc:∀v bs,(aZ aP (aZ eS aN)) v bs->bs.length=2/\(hold (Y)->lF (bs.map lend)=Z ((zE (eO eS)) (aU v.1 v.2.1))):=by
 rintro⟨a,b,_⟩ _ ⟨_,rfl,⟨_,rfl,rfl⟩⟩;exact⟨rfl,λh=>bR (g:=qY) (n:=2) (bs:=[.z (aP a),.z (eS b)]) (Rh a b) h⟩
def fH(b:(U (AJ×(O aG))))(a:(U aG)×AJ):qT ((U aG)×AJ) (U aG):=(let c:=a.1++[((look b a.2).getD default)];(let d:=((aU ((look b a.2).getD default) a.2).getD default);(qT.nx (c,d))))
def j5(b:(U (AJ×(O aG))))(a:(U aG)×AJ):Prop:=(((has b a.2=true/\(look b a.2).isSome=true)/\HW a.1.length)/\(let c:=a.1++[((look b a.2).getD default)];((has b a.2=true/\(look b a.2).isSome=true)/\(aU ((look b a.2).getD default) a.2).isSome=true)))
theorem Jo(b:(U (AJ×(O aG))))(c:AJ)(a:(U aG)×AJ):RP xP [Z ((nE (eO aP)) b),Z (zE eS c),Z ((oE aP) a.1),Z ((zE eS) a.2)] (cC (λa:(U aG)×AJ=>[Z ((nE (eO aP)) b),Z (zE eS c),Z ((oE aP) a.1),Z ((zE eS) a.2)]) (oE aP)) (fH b a ) (Z (j5 b a )):=R.tp (bL (GK 2 a.1 Δ (J7 (jh (ao 0 (nE (eO aP)) b Δ) (ao 3 (zE eS) a.2 Δ))) λd=>(bL (cF 3 (J7 (AZ Dc (aX (J7 (jh (ao 0 (nE (eO aP)) b Δ) (ao 3 (zE eS) a.2 Δ))) (aX (ao 3 (zE eS) a.2 Δ) aQ)))) (λ_=>Δ) λe=>(bZ (bW (.nx (d,e)) Δ))))))
def jy(b:(U (AJ×(O aG))))(c:AJ):(U aG):=(let d:=([]:U aG);(let e:=c;(BO (Ke (λa:(U aG)×AJ=>(look b a.2).isSome) (λa:(U aG)×AJ=>((fH b a):qT ((U aG)×AJ) (U aG))) 70 (d,e)) (λr=>r) λa:(U aG)×AJ=>a.1)))
def qF(b:(U (AJ×(O aG))))(e:AJ):Prop:=(let c:=([]:U aG);(let d:=e;(DF (λa:(U aG)×AJ=>(look b a.2).isSome) (λa:(U aG)×AJ=>Z (has b a.2=true)) (λa:(U aG)×AJ=>((fH b a):qT ((U aG)×AJ) (U aG))) (λa:(U aG)×AJ=>Z (j5 b a)) 70 (c,d)/\(zT (Ke (λa:(U aG)×AJ=>(look b a.2).isSome) (λa:(U aG)×AJ=>((fH b a):qT ((U aG)×AJ) (U aG))) 70 (c,d)) λa:(U aG)×AJ=>True))))
theorem Ur(c:(U (AJ×(O aG))))(b:AJ):RP uf [Z ((nE (eO aP)) c),Z (zE eS b),Y,Y] (λr=>Ap.rt (oE aP r)) (jy c b) (Z (qF c b)):=R.tp (cF 2 (qQ (jg aP) (Zs Δ)) (λ_=>Δ) λd=>(cF 3 (ao 1 (zE eS) b Δ) (λ_=>Δ) λe=>(V6 70 (λa:(U aG)×AJ=>[Z ((nE (eO aP)) c),Z (zE eS b),Z ((oE aP) a.1),Z ((zE eS) a.2)]) (d,e) Δ (λa:(U aG)×AJ=>(eY (VL (jh (ao 0 (nE (eO aP)) c Δ) (ao 3 (zE eS) a.2 Δ)) λ_=>Δ))) (λa:(U aG)×AJ=>((Jo c b a).r:R _ _ (cC (λa:(U aG)×AJ=>[Z ((nE (eO aP)) c),Z (zE eS b),Z ((oE aP) a.1),Z ((zE eS) a.2)]) (oE aP)))) (λr=>r) (λ_=>Δ) λa=>(BZ 2 (λr=>r) a.1 Δ (λ_=>Δ) λ_=>Δ))))
theorem Us:∀v bs,(aM (eO aP) (aZ eS aN)) v bs->bs.length=2/\(hold (Z (qF v.1 v.2.1))->ug (bs.map lend)=Z ((oE aP) (jy v.1 v.2.1))):=by
 rintro⟨a,b,_⟩ _ ⟨_,_,rfl,(rfl|rfl),⟨_,rfl,rfl⟩⟩
 all_goals exact⟨rfl,λh=>bR (g:=uf) (n:=4) (bs:=[nE (eO aP) a,.z (eS b)]) (Ur a b) h⟩
def dW(g:AJ)(a:(U (AJ×(O aG)))×An)(c:aG):(U (AJ×(O aG)))×An:=(let b:=(aU c g);(let d:(U (AJ×(O aG)))×An:=(if(b.isSome&&(!has a.1 (b.getD default)))=true then(let f:=put a.1 (b.getD default) (Z c);(let e:=a.2++[(b.getD default)];(f,e)))else(a.1,a.2));(d.1,d.2)))
def gW(d:AJ)(b:(U (AJ×(O aG)))×An)(c:aG):Prop:=(let a:=(aU c d);((a.isSome=true->a.isSome=true)/\((a.isSome&&(!has b.1 (a.getD default)))=true->((a.isSome=true/\b.1.length<1000)/\(let e:=put b.1 (a.getD default) (Z c);(a.isSome=true/\HW b.2.length))))))
theorem Ri(j:U aG)(l:Lp jc (j.map aP))(g:AJ)(f:AJ)(c:AJ)(a:(U (AJ×(O aG)))×An)(b:aG):RP CW [Z jc,Z (zE eS g),Z (zE eS f),Z ((mE (eO aP)) a.1),Z ((oE eS) a.2),Z (zE eS c),Z (zE aP b),Y] (λs=>Ap.nx ((λa:(U (AJ×(O aG)))×An=>[Z jc,Z (zE eS g),Z (zE eS f),Z ((mE (eO aP)) a.1),Z ((oE eS) a.2),Z (zE eS c),Y,Y]) s)) (dW c a b) (Z (gW c a b)):=R.tp (bL (cF 7 (AZ Dc (aX (ao 6 (zE aP) b Δ) (aX (ao 5 (zE eS) c Δ) aQ))) (λ_=>Δ) λd=>(bL (GP (λe:(U (AJ×(O aG)))×An=>[Z jc,Z (zE eS g),Z (zE eS f),Z ((mE (eO aP)) e.1),Z ((oE eS) e.2),Z (zE eS c),Z (zE aP b),Z ((zE (eO eS)) d)]) (YO (eY (VL (ao 7 (zE (eO eS)) d Δ) λ_=>Δ)) (eY (MR (J7 (ao 7 (zE (eO eS)) d Δ)) (ao 3 (nE (eO aP)) a.1 Δ)))) (bL (Mu Y 3 a.1 Δ (TF (ao 6 (zE aP) b Δ)) (J7 (ao 7 (zE (eO eS)) d Δ)) λi=>(bL (GK 4 a.2 Δ (J7 (ao 7 (zE (eO eS)) d Δ)) λh=>(bZ (bW (i,h) Δ)))))) (bZ (bW (a.1,a.2) Δ)) λe=>(bZ (bW (e.1,e.2) Δ))))))
def gY(g:U aG)(c:An×(U (AJ×(O aG)))):qT (An×(U (AJ×(O aG)))) (O (U aG)):=(let b:=c.1;let e:=b.drop 1;let f:=at' b 0;(let a:(U (AJ×(O aG)))×An:=(g.foldl (λ(a:(U (AJ×(O aG)))×An) (d:aG)=>(dW f a d)) (c.2,e));(qT.nx (a.2,a.1))))
def rG(g:U aG)(b:An×(U (AJ×(O aG)))):Prop:=(((0:Int)=0/\0<b.1.length)/\(let d:=b.1;let f:=d.drop 1;let e:=at' d 0;ou (λ(c:(U (AJ×(O aG)))×An) (a:aG)=>(dW e c a)) (λ(c:(U (AJ×(O aG)))×An) (a:aG)=>Z (gW e c a)) g (b.2,f)))
theorem Rj(c:U aG)(f:Lp jc (c.map aP))(e:AJ)(d:AJ)(a:An×(U (AJ×(O aG)))):RP CZ [Z jc,Z (zE eS e),Z (zE eS d),Z ((mE (eO aP)) a.2),Z ((oE eS) a.1),Y,Y,Y] (cC (λa:An×(U (AJ×(O aG)))=>[Z jc,Z (zE eS e),Z (zE eS d),Z ((mE (eO aP)) a.2),Z ((oE eS) a.1),Y,Y,Y]) (qE aP)) (gY c a ) (Z (rG c a )):=R.tp (bL (eC 5 4 a.1 Δ (B6 0) λi g=>(bL (Mt 0 c (MU f Δ) (λb:(U (AJ×(O aG)))×An=>[Z jc,Z (zE eS e),Z (zE eS d),Z ((mE (eO aP)) b.1),Z ((oE eS) b.2),Z (zE eS g),Y,Y]) (a.2,i) Δ _ (λ_ _=>Δ) (λ(b:(U (AJ×(O aG)))×An) (h:aG)=>(Ri c f e d g b h).r) λb=>(bZ (bW (.nx (b.2,b.1)) Δ))))))
def fj(f:U aG)(c:AJ)(b:AJ):(O (U aG)):=(let e:=([(c,Y)]:(U (AJ×(O aG))));(let d:=[c];(BO (Ke (λa:An×(U (AJ×(O aG)))=>(!a.1.isEmpty)) (λa:An×(U (AJ×(O aG)))=>((gY f a):qT (An×(U (AJ×(O aG)))) (O (U aG)))) 70 (d,e)) (λr=>r) λa:An×(U (AJ×(O aG)))=>(if(!has a.2 b)=true then Y else(Z (jy a.2 b).reverse)))))
def wj(b:U aG)(f:AJ)(c:AJ):Prop:=(let e:=([(f,Y)]:(U (AJ×(O aG))));(let d:=[f];(DF (λa:An×(U (AJ×(O aG)))=>(!a.1.isEmpty)) (λa:An×(U (AJ×(O aG)))=>Y) (λa:An×(U (AJ×(O aG)))=>((gY b a):qT (An×(U (AJ×(O aG)))) (O (U aG)))) (λa:An×(U (AJ×(O aG)))=>Z (rG b a)) 70 (d,e)/\(zT (Ke (λa:An×(U (AJ×(O aG)))=>(!a.1.isEmpty)) (λa:An×(U (AJ×(O aG)))=>((gY b a):qT (An×(U (AJ×(O aG)))) (O (U aG)))) 70 (d,e)) λa:An×(U (AJ×(O aG)))=>((!has a.2 c)=false->(qF a.2 c))))))
theorem NY(d:U aG)(f:Lp jc (d.map aP))(c:AJ)(b:AJ):RP Aa [Z jc,Z (zE eS c),Z (zE eS b),Y,Y,Y,Y,Y] (λr=>Ap.rt (qE aP r)) (fj d c b) (Z (wj d c b)):=R.tp (cF 3 (Wp (ao 1 (zE eS) c Δ) II) (λ_=>Δ) λh=>(cF 4 (qQ (dX (ao 1 (zE eS) c Δ) (jg eS)) (Zs Δ)) (λ_=>Δ) λg=>(V6 70 (λa:An×(U (AJ×(O aG)))=>[Z jc,Z (zE eS c),Z (zE eS b),Z ((mE (eO aP)) a.2),Z ((oE eS) a.1),Y,Y,Y]) (g,h) Δ (λa:An×(U (AJ×(O aG)))=>(UP (lV (ao 4 (lE eS) a.1 Δ)))) (λa:An×(U (AJ×(O aG)))=>((Rj d f c b a).r:R _ _ (cC (λa:An×(U (AJ×(O aG)))=>[Z jc,Z (zE eS c),Z (zE eS b),Z ((mE (eO aP)) a.2),Z ((oE eS) a.1),Y,Y,Y]) (qE aP)))) (λr=>r) (λ_=>Δ) λa=>(mJ (eY (MR (ao 2 (zE eS) b Δ) (ao 3 (nE (eO aP)) a.2 Δ))) (bL (cU (λr=>r) (VO (e:=aP)) (λ_=>Δ) (λv=>by cases v<;>rfl))) (bZ (cU (λr=>r) (MJ (On (kj (AZ Us (FY (ao 3 (nE (eO aP)) a.2 Δ) (aX (ao 2 (zE eS) b Δ) aQ)))))) (λ_=>Δ) (λv=>by cases v<;>rfl)))))))
theorem WA:∀v bs,(aL aP (aZ eS (aZ eS aN))) v bs->bs.length=3/\(hold (Z (wj v.1 v.2.1 v.2.2.1))->Ab (bs.map lend)=Z ((qE aP) (fj v.1 v.2.1 v.2.2.1))):=by
 rintro⟨c,a,b,_⟩ _ ⟨jc,_,rfl,d,⟨_,rfl,⟨_,rfl,rfl⟩⟩⟩;exact⟨rfl,λh=>bR (g:=Aa) (n:=8) (bs:=[lend jc,.z (eS a),.z (eS b)]) (NY c (CK d) a b) h⟩
def dN(vs:cR)(vx:AJ)(a:AJ):(O (U aG)):=(fj (bw vs) vx a)
def jV(vs:cR)(vx:AJ)(a:AJ):Prop:=((fJ vs vx)/\((fJ vs a)/\((eE vs)/\(wj (bw vs) vx a))))
theorem Yb(vs:cR)(vx:AJ)(a:AJ):RP wN [Z (zE aV vs),Z (zE eS vx),Z (zE eS a)] (λr=>Ap.rt (qE aP r)) (dN vs vx a) (Z (jV vs vx a)):=R.tp (MF (AZ nM (aX (ao 0 (zE aV) vs Δ) (aX (ao 1 (zE eS) vx Δ) aQ))) (MF (AZ nM (aX (ao 0 (zE aV) vs Δ) (aX (ao 2 (zE eS) a Δ) aQ))) (cU (λr=>r) (AZ WA (BX (GL (Hc (AZ jR (aX (ao 0 (zE aV) vs Δ) aQ)))) (aX (ao 1 (zE eS) vx Δ) (aX (ao 2 (zE eS) a Δ) aQ)))) (λ_=>Δ) (λv=>by cases v<;>rfl))))
theorem qe:∀v bs,(aZ aV (aZ eS (aZ eS aN))) v bs->bs.length=3/\(hold (Z (jV v.1 v.2.1 v.2.2.1))->iU (bs.map lend)=Z ((qE aP) (dN v.1 v.2.1 v.2.2.1))):=by
 rintro⟨vs,vx,a,_⟩ _ ⟨_,rfl,⟨_,rfl,⟨_,rfl,rfl⟩⟩⟩;exact⟨rfl,λh=>bR (g:=wN) (n:=3) (bs:=[.z (aV vs),.z (eS vx),.z (eS a)]) (Yb vs vx a) h⟩
def gw(a:Dt)(b:Int):Bool:=((B4 a)&&(decide ((Mp a)=b)))
def qG(a:Dt)(b:Int):Prop:=((B4 a)=true->Mq a=true)
theorem Ut(a:Dt)(b:Int):RP uh [Z (zE eD a),Z (zE eI b)] (λr=>Ap.rt (zE eB r)) (gw a b) (Z (qG a b)):=R.tp (cU (λr=>r) (vQ (VP B4 (ao 0 (zE eD) a Δ)) (Bi (by decide) (TY (ao 0 (zE eD) a Δ)) (ao 1 (zE eI) b Δ))) (λ_=>Δ) λ_=>Δ)
theorem Hy:∀v bs,(aZ eD (aZ eI aN)) v bs->bs.length=2/\(hold (Z (qG v.1 v.2.1))->mY (bs.map lend)=Z ((zE eB) (gw v.1 v.2.1))):=by
 rintro⟨a,b,_⟩ _ ⟨_,rfl,⟨_,rfl,rfl⟩⟩;exact⟨rfl,λh=>bR (g:=uh) (n:=2) (bs:=[.z (eD a),.z (eI b)]) (Ut a b) h⟩
def jz(a:Dt):Bool:=((Bq a)&&(!(BI a)))
theorem Uu(a:Dt):RP um [Z (zE eD a)] (λr=>Ap.rt (zE eB r)) (jz a) Y:=R.tp (cU (λr=>r) (vQ (VP Bq (ao 0 (zE eD) a Δ)) (Na (VP BI (ao 0 (zE eD) a Δ)))) (λ_=>Δ) λ_=>Δ)
theorem Hz:∀v bs,(aZ eD aN) v bs->bs.length=1/\(hold (Y)->mZ (bs.map lend)=Z ((zE eB) (jz v.1))):=by
 rintro⟨a,_⟩ _ ⟨_,rfl,rfl⟩;exact⟨rfl,λh=>bR (g:=um) (n:=1) (bs:=[.z (eD a)]) (Uu a) h⟩
def oJ(a:Dt):Bool:=((jz a)&&((decide ((1:Int)<=(Ys a)))&&(decide ((Ys a)<=1000))))
def rH(a:Dt):Prop:=((jz a)=true->(a=eI (Ys a)/\((decide ((1:Int)<=(Ys a)))=true->a=eI (Ys a))))
theorem Rk(a:Dt):RP qZ [Z (zE eD a)] (λr=>Ap.rt (zE eB r)) (oJ a) (Z (rH a)):=R.tp (cU (λr=>r) (vQ (AZ Hz (aX (ao 0 (zE eD) a Δ) aQ)) (Ll (FU (B6 1) (tK (ao 0 (zE eD) a Δ) Ys eI)) (FU (tK (ao 0 (zE eD) a Δ) Ys eI) (B6 1000)))) (λ_=>Δ) λ_=>Δ)
theorem Rm:∀v bs,(aZ eD aN) v bs->bs.length=1/\(hold (Z (rH v.1))->q8 (bs.map lend)=Z ((zE eB) (oJ v.1))):=by
 rintro⟨a,_⟩ _ ⟨_,rfl,rfl⟩;exact⟨rfl,λh=>bR (g:=qZ) (n:=1) (bs:=[.z (eD a)]) (Rk a) h⟩
def HB(a:Dt):Bool:=(if(!(gw a 3))=true then false else(let q1:=(GA a);((d9 q1.1)&&((d9 q1.2.1)&&((mQ (T3 q1.1) (T3 q1.2.1))&&((jz q1.2.2)&&(decide ((0:Int)<=(Ys q1.2.2)))))))))
def Ao(a:Dt):Prop:=((qG a 3)/\((!(gw a 3))=false->(a=LL (GA a)/\(let q1:=(GA a);((qd q1.1)/\((d9 q1.1)=true->((qd q1.2.1)/\((d9 q1.2.1)=true->((q1.1=eS (T3 q1.1)/\q1.2.1=eS (T3 q1.2.1))/\((mQ (T3 q1.1) (T3 q1.2.1))=true->((jz q1.2.2)=true->q1.2.2=eI (Ys q1.2.2))))))))))))
theorem OA(a:Dt):RP Ad [Z (zE eD a),Y,Y,Y] (λr=>Ap.rt (zE eB r)) (HB a) (Z (Ao a)):=R.tp (mJ (Qp (EN (AZ Hy (aX (ao 0 (zE eD) a Δ) (aX (B6 3) aQ))))) (bL (cU (λr=>r) (qP (.bl false) eB false Δ) (λ_=>Δ) λ_=>Δ)) (bZ (V1 (tK (ao 0 (zE eD) a Δ) GA LL) _ (λ_=>Δ) λq1=>(cU (λr=>r) (vQ (AZ Ci (aX (ao 1 (zE eD) q1.1 Δ) aQ)) (vQ (AZ Ci (aX (ao 2 (zE eD) q1.2.1 Δ) aQ)) (vQ (VE (tK (ao 1 (zE eD) q1.1 Δ) T3 eS) (tK (ao 2 (zE eD) q1.2.1 Δ) T3 eS)) (vQ (AZ Hz (aX (ao 3 (zE eD) q1.2.2 Δ) aQ)) (F1 (tK (ao 3 (zE eD) q1.2.2 Δ) Ys eI) (B6 0)))))) (λ_=>Δ) λ_=>Δ))))
theorem OU:∀v bs,(aZ eD aN) v bs->bs.length=1/\(hold (Z (Ao v.1))->Ae (bs.map lend)=Z ((zE eB) (HB v.1))):=by
 rintro⟨a,_⟩ _ ⟨_,rfl,rfl⟩;exact⟨rfl,λh=>bR (g:=Ad) (n:=4) (bs:=[.z (eD a)]) (OA a) h⟩
def oK(a:Dt):Bool:=((gw a 4)&&((oJ (Ct a 0))&&(HB (Dt.tup (cut (Gc a) (Z 1) Y)))))
def rJ(a:Dt):Prop:=((qG a 4)/\((gw a 4)=true->((Go a (0:Int)/\(rH (Ct a 0)))/\((oJ (Ct a 0))=true->(B4 a=true/\(Ao (Dt.tup (cut (Gc a) (Z 1) Y))))))))
theorem Ro(a:Dt):RP q9 [Z (zE eD a)] (λr=>Ap.rt (zE eB r)) (oK a) (Z (rJ a)):=R.tp (cU (λr=>r) (vQ (AZ Hy (aX (ao 0 (zE eD) a Δ) (aX (B6 4) aQ))) (vQ (AZ Rm (aX (XI (ao 0 (zE eD) a Δ) (B6 0)) aQ)) (AZ OU (aX (lW (XL (ao 0 (zE eD) a Δ) (FM (B6 1)) FD)) aQ)))) (λ_=>Δ) λ_=>Δ)
theorem Rp:∀v bs,(aZ eD aN) v bs->bs.length=1/\(hold (Z (rJ v.1))->rz (bs.map lend)=Z ((zE eB) (oK v.1))):=by
 rintro⟨a,_⟩ _ ⟨_,rfl,rfl⟩;exact⟨rfl,λh=>bR (g:=q9) (n:=1) (bs:=[.z (eD a)]) (Ro a) h⟩
def qH(vs:cR)(a:aG):Unit:=(if((!(oK (aP a)))||(!T7 a vs.2.1))=true then default else())
def lq(vs:cR)(a:aG):Prop:=((rJ (aP a))/\(((!(oK (aP a)))||(!T7 a vs.2.1))=true->False))
theorem yG(vs:cR)(a:aG):RP iu [Z (zE aV vs),Z (zE aP a)] (λ_:Unit=>Ap.nx [Z (zE aV vs),Z (zE aP a)]) (qH vs a) (Z (lq vs a)):=R.tp (bL (mJ (Qo (Qp (EN (AZ Rp (aX (J6 (ao 1 (zE aP) a Δ)) aQ)))) (eY (Ta (by decide) (ao 1 (zE aP) a Δ) (fY (ao 0 (zE aV) vs Δ) (λq=>q.2.1) (eT aP) 1 λ_=>Δ)))) (bL V7) (bZ (bZ (bW () Δ)))))
theorem yH:∀v bs,(aZ aV (aZ aP aN)) v bs->bs.length=2/\(hold (Z (lq v.1 v.2.1))->iw (bs.map lend)=Z ((zE eN) (qH v.1 v.2.1))):=by
 rintro⟨vs,a,_⟩ _ ⟨_,rfl,⟨_,rfl,rfl⟩⟩;exact⟨rfl,λh=>V8 (g:=iu) (n:=2) (bs:=[.z (aV vs),.z (aP a)]) (yG vs a).r h⟩
def o8(a:(U (AJ×AJ)))(q1:aG):(U (AJ×AJ)):=(let a:=(iH a (look a q1.2.1) (look a q1.2.2.1));a)
def uU(a:(U (AJ×AJ)))(q1:aG):Prop:=((has a q1.2.1=true/\has a q1.2.2.1=true)/\(jP a (look a q1.2.1) (look a q1.2.2.1)))
theorem DW(c:An)(d:U aG){b:Bx}(e:Lp b (d.map aP))(a:(U (AJ×AJ)))(q1:aG):RP rY [Z ((zE (eT eS)) c),Z b,Z (mE eS a),Z ((zE eI) q1.1),Z ((zE eS) q1.2.1),Z ((zE eS) q1.2.2.1),Z ((zE eI) q1.2.2.2)] (λs=>Ap.nx ((λa:(U (AJ×AJ))=>[Z ((zE (eT eS)) c),Z b,Z (mE eS a),Y,Y,Y,Y]) s)) (o8  a q1) (Z (uU  a q1)):=R.tp (bL (T6 Y 2 a Δ uH (aX (jh (ao 2 (nE eS) a Δ) (ao 4 (zE eS) q1.2.1 Δ)) (aX (jh (ao 2 (nE eS) a Δ) (ao 5 (zE eS) q1.2.2.1 Δ)) aQ)) λa=>(bZ (bW a Δ))))
def p8(c:An)(b:U aG):(U (AJ×AJ)):=(let a:=(aW c);(let a:(U (AJ×AJ)):=(b.foldl (λ(a:(U (AJ×AJ))) (q1:aG)=>(o8  a q1)) a);a))
def uI(b:An)(c:U aG):Prop:=((jO b)/\(let a:=(aW b);ou (λ(a:(U (AJ×AJ))) (q1:aG)=>(o8  a q1)) (λ(a:(U (AJ×AJ))) (q1:aG)=>Z (uU  a q1)) c a))
theorem Nu(b:An)(c:U aG){d:Bx}(e:Lp d (c.map aP)):RP mU [Z ((zE (eT eS)) b),Z d,Y,Y,Y,Y,Y] (λr=>Ap.rt (mE eS r)) (p8 b c) (Z (uI b c)):=R.tp (cF 2 (AZ uF (aX (ao 0 (zE (eT eS)) b Δ) aQ)) (λ_=>Δ) λa=>(Mt 1 c (MU e Δ) (λa:(U (AJ×AJ))=>[Z ((zE (eT eS)) b),Z d,Z (mE eS a),Y,Y,Y,Y]) a Δ _ (λ_ _=>Δ) (λ(a:(U (AJ×AJ))) (q1:aG)=>(DW b c e a q1).r) λa=>(BZ 2 (λr=>r) a Δ (λ_=>Δ) λ_=>Δ)))
theorem Nv:∀v bs,(aZ (eT eS) (aL aP aN)) v bs->bs.length=2/\(hold (Z (uI v.1 v.2.1))->kJ (bs.map lend)=Z ((mE eS) (p8 v.1 v.2.1))):=by
 rintro⟨a,d,_⟩ _ ⟨_,rfl,⟨c,_,rfl,b,rfl⟩⟩;exact⟨rfl,λh=>bR (g:=mU) (n:=7) (bs:=[.z (eT eS a),lend c]) (Nu a d (CK b)) h⟩
def lJ(c:An)(b:U aG)(d:AJ):An:=(let a:=(p8 c b);(fG a (look a d)))
def oM(c:An)(b:U aG)(d:AJ):Prop:=((uI c b)/\(let a:=(p8 c b);(has a d=true/\(jd a (look a d)))))
theorem Rq(a:An)(b:U aG){e:Bx}(f:Lp e (b.map aP))(c:AJ):RP qb [Z ((zE (eT eS)) a),Z e,Z (zE eS c),Y] (λr=>Ap.rt ((zE (eT eS)) r)) (lJ a b c) (Z (oM a b c)):=R.tp (cF 3 (AZ Nv (aX (ao 0 (zE (eT eS)) a Δ) (BX (pA 1 aP b f Δ) aQ))) (λ_=>Δ) λd=>(cU (λr=>r) (AZ su (FY (ao 3 (nE eS) d Δ) (aX (jh (ao 3 (nE eS) d Δ) (ao 2 (zE eS) c Δ)) aQ))) (λ_=>Δ) λ_=>Δ))
theorem Dg:∀v bs,(aZ (eT eS) (aL aP (aZ eS aN))) v bs->bs.length=3/\(hold (Z (oM v.1 v.2.1 v.2.2.1))->lD (bs.map lend)=Z ((zE (eT eS)) (lJ v.1 v.2.1 v.2.2.1))):=by
 rintro⟨a,e,b,_⟩ _ ⟨_,rfl,⟨d,_,rfl,c,⟨_,rfl,rfl⟩⟩⟩;exact⟨rfl,λh=>bR (g:=qb) (n:=4) (bs:=[.z (eT eS a),lend d,.z (eS b)]) (Rq a e (CK c) b) h⟩
def eU(vs:cR)(a:aG):Dt:=(let q1:=vs;(let d:=((q1.2.1.filter λb:aG=>(!decide (b=a))).map λb:aG=>b);(let c:=(lJ q1.1 d a.2.1);(if(decide (a.2.2.1∈c))=true then(Dt.tup [(Dt.str "stays")])else(Dt.tup [(Dt.str "parts"),(eT eS c),((eT eS) (lJ q1.1 d a.2.2.1))])))))
def lu(vs:cR)(a:aG):Prop:=((lq vs a)/\(let q1:=vs;(q1.2.1.length<=100000/\(let c:=((q1.2.1.filter λb:aG=>(!decide (b=a))).map λb:aG=>b);((oM q1.1 c a.2.1)/\(let d:=(lJ q1.1 c a.2.1);((decide (a.2.2.1∈d))=false->(oM q1.1 c a.2.2.1))))))))
theorem Uv(vs:cR)(a:aG):RP uo [Z (zE aV vs),Z (zE aP a),Y,Y,Y,Y,Y] (λr=>Ap.rt (zE eD r)) (eU vs a) (Z (lu vs a)):=R.tp (MF (AZ yH (aX (ao 0 (zE aV) vs Δ) (aX (ao 1 (zE aP) a Δ) aQ))) (V1 (ao 0 (zE aV) vs Δ) _ (λ_=>Δ) λq1=>(cF 5 (dA (T4 (ao 3 (zE (eT aP)) q1.2.1 Δ)) _ (λ_=>Δ) (λb:aG=>(eY (XC (by decide) (ao 1 (zE aP) b Δ) (ao 0 (zE aP) a Δ)))) (λb:aG=>(ao 1 (zE aP) b Δ)) (λ_=>Δ) λ_=>Δ) (λ_=>Δ) λd=>(cF 6 (AZ Dg (aX (ao 2 (zE (eT eS)) q1.1 Δ) (BX (lV (ao 5 (lE aP) d Δ)) (aX (fY (ao 1 (zE aP) a Δ) (λq=>q.2.1) eS 1 λ_=>Δ) aQ)))) (λ_=>Δ) λc=>(mJ (eY (RH (fY (ao 1 (zE aP) a Δ) (λq=>q.2.2.1) eS 2 λ_=>Δ) (ao 6 (zE (eT eS)) c Δ))) (bL (cU (λr=>r) (TQ (dX (GT (.str "stays")) (jg eD)) (Zs Δ)) (λ_=>Δ) λ_=>Δ)) (bZ (cU (λr=>r) (TQ (dX (GT (.str "parts")) (dX (J6 (ao 6 (zE (eT eS)) c Δ)) (dX (J6 (lW (AZ Dg (aX (ao 2 (zE (eT eS)) q1.1 Δ) (BX (lV (ao 5 (lE aP) d Δ)) (aX (fY (ao 1 (zE aP) a Δ) (λq=>q.2.2.1) eS 2 λ_=>Δ) aQ)))))) (jg eD)))) (Zs Δ)) (λ_=>Δ) λ_=>Δ)))))))
theorem yI:∀v bs,(aZ aV (aZ aP aN)) v bs->bs.length=2/\(hold (Z (lu v.1 v.2.1))->kO (bs.map lend)=Z ((zE eD) (eU v.1 v.2.1))):=by
 rintro⟨vs,a,_⟩ _ ⟨_,rfl,⟨_,rfl,rfl⟩⟩;exact⟨rfl,λh=>bR (g:=uo) (n:=7) (bs:=[.z (aV vs),.z (aP a)]) (Uv vs a) h⟩
def cI(c:cR)(d:cR)(a:AJ)(e:Unit)(b:AJ):qT (Unit) Bool:=(if(!decide ((dN d a b)=(dN c a b)))=true then(qT.rt false)else(qT.nx ()))
def gj(c:cR)(d:cR)(a:AJ)(e:Unit)(b:AJ):Prop:=((jV d a b)/\(jV c a b))
theorem wz(c:cR)(d:cR)(g:An)(a:AJ)(f:Unit)(b:AJ):RP oG [Z (zE aV c),Z (zE aV d),Z ((zE (eT eS)) g),Z (zE eS a),Z (zE eS b)] (cC (λf:Unit=>[Z (zE aV c),Z (zE aV d),Z ((zE (eT eS)) g),Z (zE eS a),Y]) (zE eB)) (cI c d a f b) (Z (gj c d a f b)):=R.tp (bL (mJ (eY (GV (e:=aP) (by decide) (AZ qe (aX (ao 1 (zE aV) d Δ) (aX (ao 3 (zE eS) a Δ) (aX (ao 4 (zE eS) b Δ) aQ)))) (AZ qe (aX (ao 0 (zE aV) c Δ) (aX (ao 3 (zE eS) a Δ) (aX (ao 4 (zE eS) b Δ) aQ)))))) (bL (cU .rt (qP (.bl false) eB false Δ) (λ_=>Δ) λ_=>Δ)) (bZ (bZ (bW (.nx ()) Δ)))))
def cJ(b:cR)(c:cR)(e:An)(g:Unit)(a:AJ):qT (Unit) Bool:=(if(!decide ((cP c a)=(cP b a)))=true then(qT.rt false)else(BO (vU (λ(d:Unit) (f:AJ)=>((cI b c a d f):qT (Unit) Bool)) e ()) (λr=>qT.rt r) λd:Unit=>(qT.nx ())))
def gk(d:cR)(e:cR)(f:An)(g:Unit)(a:AJ):Prop:=(((je e a)/\(je d a))/\((!decide ((cP e a)=(cP d a)))=false->(GQ (λ(b:Unit) (c:AJ)=>((cI d e a b c):qT (Unit) Bool)) (λ(b:Unit) (c:AJ)=>Z (gj d e a b c)) f ()/\(zT (vU (λ(b:Unit) (c:AJ)=>((cI d e a b c):qT (Unit) Bool)) f ()) λb:Unit=>True))))
theorem wA(c:cR)(d:cR)(a:An)(f:Unit)(b:AJ):RP oH [Z (zE aV c),Z (zE aV d),Z ((zE (eT eS)) a),Z (zE eS b),Y] (cC (λf:Unit=>[Z (zE aV c),Z (zE aV d),Z ((zE (eT eS)) a),Y,Y]) (zE eB)) (cJ c d a f b) (Z (gk c d a f b)):=R.tp (bL (mJ (eY (XC (by decide) (AZ nO (aX (ao 1 (zE aV) d Δ) (aX (ao 3 (zE eS) b Δ) aQ))) (AZ nO (aX (ao 0 (zE aV) c Δ) (aX (ao 3 (zE eS) b Δ) aQ))))) (bL (cU .rt (qP (.bl false) eB false Δ) (λ_=>Δ) λ_=>Δ)) (bZ (bL (V3 2 a (Ms Δ) (λe:Unit=>[Z (zE aV c),Z (zE aV d),Z ((zE (eT eS)) a),Z (zE eS b),Y]) () Δ _ (λ_ _=>Δ) (λ(e:Unit) (g:AJ)=>((wz c d a b e g).r:R _ _ (cC (λe:Unit=>[Z (zE aV c),Z (zE aV d),Z ((zE (eT eS)) a),Z (zE eS b),Y]) (zE eB)))) .rt (λ_=>Δ) λe=>(bZ (bW (.nx ()) Δ)))))))
def cH(a:cR)(d:cR):Bool:=(let e:=a.1;(BO (vU (λ(c:Unit) (f:AJ)=>((cJ a d e c f):qT (Unit) Bool)) e ()) (λr=>r) λc:Unit=>((a.2.1.map λb:aG=>(D7 (eU d b) (eU a b))).all id)))
def eG(a:cR)(d:cR):Prop:=(let e:=a.1;(GQ (λ(b:Unit) (c:AJ)=>((cJ a d e b c):qT (Unit) Bool)) (λ(b:Unit) (c:AJ)=>Z (gk a d e b c)) e ()/\(zT (vU (λ(b:Unit) (c:AJ)=>((cJ a d e b c):qT (Unit) Bool)) e ()) λb:Unit=>(a.2.1.length<=100000/\(∀f∈a.2.1,(((lu d f)/\(lu a f))/\DO (eU d f) (eU a f)))))))
theorem Aq(a:cR)(b:cR):RP jq [Z (zE aV a),Z (zE aV b),Y,Y,Y] (λr=>Ap.rt (zE eB r)) (cH a b) (Z (eG a b)):=R.tp (cF 2 (fY (ao 0 (zE aV) a Δ) (λq=>q.1) (eT eS) 0 λ_=>Δ) (λ_=>Δ) λc=>(V3 2 c (Ms Δ) (λd:Unit=>[Z (zE aV a),Z (zE aV b),Z ((zE (eT eS)) c),Y,Y]) () Δ _ (λ_ _=>Δ) (λ(d:Unit) (f:AJ)=>((wA a b c d f).r:R _ _ (cC (λd:Unit=>[Z (zE aV a),Z (zE aV b),Z ((zE (eT eS)) c),Y,Y]) (zE eB)))) (λr=>r) (λ_=>Δ) λd=>(cU (λr=>r) (IR (kj (GJ (T4 (fY (ao 0 (zE aV) a Δ) (λq=>q.2.1) (eT aP) 1 λ_=>Δ)) _ (λ_=>Δ) (λe:aG=>(MG (AZ yI (aX (ao 0 (zE aV) b Δ) (aX (ao 2 (zE aP) e Δ) aQ))) (AZ yI (aX (ao 1 (zE aV) a Δ) (aX (ao 2 (zE aP) e Δ) aQ)))))))) (λ_=>Δ) λ_=>Δ)))
theorem rK:∀v bs,(aZ aV (aZ aV aN)) v bs->bs.length=2/\(hold (Z (eG v.1 v.2.1))->fZ (bs.map lend)=Z ((zE eB) (cH v.1 v.2.1))):=by
 rintro⟨b,a,_⟩ _ ⟨_,rfl,⟨_,rfl,rfl⟩⟩;exact⟨rfl,λh=>bR (g:=jq) (n:=5) (bs:=[.z (aV b),.z (aV a)]) (Aq b a) h⟩
def fQ(g:cR)(f:cR)(e:cR)(a:AJ)(b:AJ):Bool:=(if((dN e a b).isSome||(dN e b a).isSome)=true then false else(let c:=((1:Int),a,b,(999:Int));(let d:=(e.1,(aC (e.2.1++[c])),([]:U jZ));(if((!decide ((dN d a b)=(Z [c])))||(!decide ((dN d b a)=(Z [c]))))=true then false else(if(!decide ((bw d)=(dh ((bw e)++[c]))))=true then false else(if(!decide ((cP d a)=((cP g a)++(cP f b))))=true then false else(D7 (eU d c) (Dt.tup [(Dt.str "parts"),((eT eS) (cP g a)),((eT eS) (cP f b))]))))))))
def fU(g:cR)(f:cR)(c:cR)(a:AJ)(b:AJ):Prop:=(((jV c a b)/\((dN c a b).isSome=false->(jV c b a)))/\(((dN c a b).isSome||(dN c b a).isSome)=false->(let d:=((1:Int),a,b,(999:Int));((HW (c.2.1.length+[d].length)/\(gQ (c.2.1++[d])))/\(let e:=(c.1,(aC (c.2.1++[d])),([]:U jZ));(((jV e a b)/\((!decide ((dN e a b)=(Z [d])))=false->(jV e b a)))/\(((!decide ((dN e a b)=(Z [d])))||(!decide ((dN e b a)=(Z [d]))))=false->(((eE e)/\(((eE c)/\HW ((bw c).length+[d].length))/\(jT ((bw c)++[d]))))/\((!decide ((bw e)=(dh ((bw c)++[d]))))=false->(((je e a)/\(((je g a)/\(je f b))/\HW ((cP g a).length+(cP f b).length)))/\((!decide ((cP e a)=((cP g a)++(cP f b))))=false->(((lu e d)/\((je g a)/\(je f b)))/\DO (eU e d) (Dt.tup [(Dt.str "parts"),((eT eS) (cP g a)),((eT eS) (cP f b))])))))))))))))
theorem yJ(h:cR)(d:cR)(c:cR)(a:AJ)(b:AJ):RP iz [Z (zE aV h),Z (zE aV d),Z (zE aV c),Z (zE eS a),Z (zE eS b),Y,Y] (λr=>Ap.rt (zE eB r)) (fQ h d c a b) (Z (fU h d c a b)):=R.tp (mJ (Qo (eY (Kf (AZ qe (aX (ao 2 (zE aV) c Δ) (aX (ao 3 (zE eS) a Δ) (aX (ao 4 (zE eS) b Δ) aQ)))))) (eY (Kf (AZ qe (aX (ao 2 (zE aV) c Δ) (aX (ao 4 (zE eS) b Δ) (aX (ao 3 (zE eS) a Δ) aQ))))))) (bL (cU (λr=>r) (qP (.bl false) eB false Δ) (λ_=>Δ) λ_=>Δ)) (bZ (cF 5 (vR (B6 1) (ao 3 (zE eS) a Δ) (ao 4 (zE eS) b Δ) (B6 999)) (λ_=>Δ) λf=>(cF 6 (GD (fY (ao 2 (zE aV) c Δ) (λq=>q.1) (eT eS) 0 λ_=>Δ) (qR (kj (AZ wg (aX (lW (Ml (fY (ao 2 (zE aV) c Δ) (λq=>q.2.1) (eT aP) 1 λ_=>Δ) (YV (dX (ao 5 (zE aP) f Δ) (jg aP)) (Zs Δ)))) aQ)))) (GC uW)) (λ_=>Δ) λg=>(mJ (Qo (eY (GV (e:=aP) (by decide) (AZ qe (aX (ao 6 (zE aV) g Δ) (aX (ao 3 (zE eS) a Δ) (aX (ao 4 (zE eS) b Δ) aQ)))) (MJ (qQ (dX (ao 5 (zE aP) f Δ) (jg aP)) (Zs Δ))))) (eY (GV (e:=aP) (by decide) (AZ qe (aX (ao 6 (zE aV) g Δ) (aX (ao 4 (zE eS) b Δ) (aX (ao 3 (zE eS) a Δ) aQ)))) (MJ (qQ (dX (ao 5 (zE aP) f Δ) (jg aP)) (Zs Δ)))))) (bL (cU (λr=>r) (qP (.bl false) eB false Δ) (λ_=>Δ) λ_=>Δ)) (bZ (mJ (eY (IA (by decide) (kj (AZ jR (aX (ao 6 (zE aV) g Δ) aQ))) (kj (AZ sX (BX (GL (Hc (TX (kj (AZ jR (aX (ao 2 (zE aV) c Δ) aQ))) (kj (qQ (dX (ao 5 (zE aP) f Δ) (jg aP)) (Zs Δ)))))) aQ))))) (bL (cU (λr=>r) (qP (.bl false) eB false Δ) (λ_=>Δ) λ_=>Δ)) (bZ (mJ (eY (XC (by decide) (AZ nO (aX (ao 6 (zE aV) g Δ) (aX (ao 3 (zE eS) a Δ) aQ))) (Ml (AZ nO (aX (ao 0 (zE aV) h Δ) (aX (ao 3 (zE eS) a Δ) aQ))) (AZ nO (aX (ao 1 (zE aV) d Δ) (aX (ao 4 (zE eS) b Δ) aQ)))))) (bL (cU (λr=>r) (qP (.bl false) eB false Δ) (λ_=>Δ) λ_=>Δ)) (bZ (cU (λr=>r) (MG (AZ yI (aX (ao 6 (zE aV) g Δ) (aX (ao 5 (zE aP) f Δ) aQ))) (TQ (dX (GT (.str "parts")) (dX (J6 (lW (AZ nO (aX (ao 0 (zE aV) h Δ) (aX (ao 3 (zE eS) a Δ) aQ))))) (dX (J6 (lW (AZ nO (aX (ao 1 (zE aV) d Δ) (aX (ao 4 (zE eS) b Δ) aQ))))) (jg eD)))) (Zs Δ))) (λ_=>Δ) λ_=>Δ)))))))))))
theorem yK:∀v bs,(aZ aV (aZ aV (aZ aV (aZ eS (aZ eS aN))))) v bs->bs.length=5/\(hold (Z (fU v.1 v.2.1 v.2.2.1 v.2.2.2.1 v.2.2.2.2.1))->iB (bs.map lend)=Z ((zE eB) (fQ v.1 v.2.1 v.2.2.1 v.2.2.2.1 v.2.2.2.2.1))):=by
 rintro⟨c,a,e,b,d,_⟩ _ ⟨_,rfl,⟨_,rfl,⟨_,rfl,⟨_,rfl,⟨_,rfl,rfl⟩⟩⟩⟩⟩;exact⟨rfl,λh=>bR (g:=iz) (n:=7) (bs:=[.z (aV c),.z (aV a),.z (aV e),.z (eS b),.z (eS d)]) (yJ c a e b d) h⟩
def Rr(e:B9):Bool:=(let c:=(bD (bH e 0) 12);(let b:=(cG e 0 ((at' c 6)%8) ((at' c 7)%11) 0);(let a:=(dJ (cG e 11 ((at' c 8)%8) ((at' c 9)%11) 0));(let d:=(qC b a);(if(!decide ((fP d)=((fP b)++(fP a))))=true then false else(if(!decide ((bw d)=(dh ((bw b)++(bw a)))))=true then false else(if((!(cH b d))||(!(cH a d)))=true then false else(if((decide (b.1=([]:An)))||(decide (a.1=([]:An))))=true then true else(fQ b a d (at' b.1 ((at' c 10)%(b.1.length:Int))) (at' a.1 ((at' c 11)%(a.1.length:Int))))))))))))
def Rt(e:B9):Prop:=(((jx e 0)/\(gn (bH e 0) 12))/\(let a:=(bD (bH e 0) 12);(((In a.length 6/\In a.length 7)/\(mz e 0 ((at' a 6)%8) ((at' a 7)%11) 0))/\(let b:=(cG e 0 ((at' a 6)%8) ((at' a 7)%11) 0);((((In a.length 8/\In a.length 9)/\(mz e 11 ((at' a 8)%8) ((at' a 9)%11) 0))/\(mC (cG e 11 ((at' a 8)%8) ((at' a 9)%11) 0)))/\(let c:=(dJ (cG e 11 ((at' a 8)%8) ((at' a 9)%11) 0));((yC b c)/\(let d:=(qC b c);(((nJ d)/\(((nJ b)/\(nJ c))/\HW ((fP b).length+(fP c).length)))/\((!decide ((fP d)=((fP b)++(fP c))))=false->(((eE d)/\((((eE b)/\(eE c))/\HW ((bw b).length+(bw c).length))/\(jT ((bw b)++(bw c)))))/\((!decide ((bw d)=(dh ((bw b)++(bw c)))))=false->(((eG b d)/\((!(cH b d))=false->(eG c d)))/\(((!(cH b d))||(!(cH c d)))=false->(((decide (b.1=([]:An)))||(decide (c.1=([]:An))))=false->((((In a.length 10/\0<(b.1.length:Int))/\In b.1.length ((at' a 10)%(b.1.length:Int)))/\((In a.length 11/\0<(c.1.length:Int))/\In c.1.length ((at' a 11)%(c.1.length:Int))))/\(fU b c d (at' b.1 ((at' a 10)%(b.1.length:Int))) (at' c.1 ((at' a 11)%(c.1.length:Int))))))))))))))))))))
theorem W'(c:B9)(f:Lp jc (c.map eI)):RP Wa [Z jc,Y,Y,Y,Y] (λr=>Ap.rt (zE eB r)) (Rr c) (Z (Rt c)):=R.tp (cF 1 (AZ nW (aX (lW (AZ uD (BX (pA 0 eI c f Δ) (aX (B6 0) aQ)))) (aX (B6 12) aQ))) (λ_=>Δ) λd=>(cF 2 (AZ Al (BX (pA 0 eI c f Δ) (aX (B6 0) (aX (fW (lK (lV (ao 1 (lE eI) d Δ)) (B6 6)) 8 (by decide)) (aX (fW (lK (lV (ao 1 (lE eI) d Δ)) (B6 7)) 11 (by decide)) (aX (B6 0) aQ)))))) (λ_=>Δ) λb=>(cF 3 (AZ Ni (aX (lW (AZ Al (BX (pA 0 eI c f Δ) (aX (B6 11) (aX (fW (lK (lV (ao 1 (lE eI) d Δ)) (B6 8)) 8 (by decide)) (aX (fW (lK (lV (ao 1 (lE eI) d Δ)) (B6 9)) 11 (by decide)) (aX (B6 0) aQ))))))) aQ)) (λ_=>Δ) λa=>(cF 4 (AZ Uk (aX (ao 2 (zE aV) b Δ) (aX (ao 3 (zE aV) a Δ) aQ))) (λ_=>Δ) λe=>(mJ (eY (IA (by decide) (kj (AZ yF (aX (ao 4 (zE aV) e Δ) aQ))) (kj (TX (kj (AZ yF (aX (ao 2 (zE aV) b Δ) aQ))) (kj (AZ yF (aX (ao 3 (zE aV) a Δ) aQ))))))) (bL (cU (λr=>r) (qP (.bl false) eB false Δ) (λ_=>Δ) λ_=>Δ)) (bZ (mJ (eY (IA (by decide) (kj (AZ jR (aX (ao 4 (zE aV) e Δ) aQ))) (kj (AZ sX (BX (GL (Hc (TX (kj (AZ jR (aX (ao 2 (zE aV) b Δ) aQ))) (kj (AZ jR (aX (ao 3 (zE aV) a Δ) aQ)))))) aQ))))) (bL (cU (λr=>r) (qP (.bl false) eB false Δ) (λ_=>Δ) λ_=>Δ)) (bZ (mJ (Qo (Qp (EN (AZ rK (aX (ao 2 (zE aV) b Δ) (aX (ao 4 (zE aV) e Δ) aQ))))) (Qp (EN (AZ rK (aX (ao 3 (zE aV) a Δ) (aX (ao 4 (zE aV) e Δ) aQ)))))) (bL (cU (λr=>r) (qP (.bl false) eB false Δ) (λ_=>Δ) λ_=>Δ)) (bZ (mJ (Qo (eY (Bi (by decide) (fY (ao 2 (zE aV) b Δ) (λq=>q.1) (eT eS) 0 λ_=>Δ) (GC eS))) (eY (Bi (by decide) (fY (ao 3 (zE aV) a Δ) (λq=>q.1) (eT eS) 0 λ_=>Δ) (GC eS)))) (bL (cU (λr=>r) (qP (.bl true) eB true Δ) (λ_=>Δ) λ_=>Δ)) (bZ (cU (λr=>r) (AZ yK (aX (ao 2 (zE aV) b Δ) (aX (ao 3 (zE aV) a Δ) (aX (ao 4 (zE aV) e Δ) (aX (MW (fY (ao 2 (zE aV) b Δ) (λq=>q.1) (eT eS) 0 λ_=>Δ) (Gx (lK (lV (ao 1 (lE eI) d Δ)) (B6 10)) (Is (fY (ao 2 (zE aV) b Δ) (λq=>q.1) (eT eS) 0 λ_=>Δ)))) (aX (MW (fY (ao 3 (zE aV) a Δ) (λq=>q.1) (eT eS) 0 λ_=>Δ) (Gx (lK (lV (ao 1 (lE eI) d Δ)) (B6 11)) (Is (fY (ao 3 (zE aV) a Δ) (λq=>q.1) (eT eS) 0 λ_=>Δ)))) aQ)))))) (λ_=>Δ) λ_=>Δ)))))))))))))
theorem Lc:∀v bs,(aL eI aN) v bs->bs.length=1/\(hold (Z (Rt v.1))->F_law (bs.map lend)=Z ((zE eB) (Rr v.1))):=by
 rintro⟨a,_⟩ _ ⟨jc,_,rfl,b,rfl⟩;exact⟨rfl,λh=>bR (g:=Wa) (n:=5) (bs:=[lend jc]) (W' a (CK b)) h⟩
theorem LX(h:∀a:U Int,a.length<=63->Rt a/\Rr a=true):(∀a:U Int,a.length<=63->F_law [.z (.lst (a.map .int))]=Z (.z (.bl true)))/\∀a:U Int,a.length<=63->F_law [.l (a.map .int)]=Z (.z (.bl true)):=
 ⟨λa b=>((Lc (a,()) [.z (.lst (a.map .int))] ⟨_,_,rfl,rfl,rfl⟩).2 (h a b).1).trans (by rw[(h a b).2]),λa b=>((Lc (a,()) [.l (a.map .int)] ⟨_,_,rfl,rfl,rfl⟩).2 (h a b).1).trans (by rw[(h a b).2])⟩
end
end G17
end
section
set_option synthInstance.maxSize 100000
namespace G17
open L2 P1
theorem Nx(a:U Int)(k:Int)(h0:0<=k)(h1:k<=1000):jx a k:=by
 unfold jx;exact⟨λh=>BE h0 (by simpa using h),λ_=>IH h0 (by omega)⟩
theorem ci(k:Nat)(s:Int×U Int×Int)(d:k<1000)(h:(0<=s.1/\s.1<1999999973)/\s.2.1.length=k/\(∀x∈s.2.1,0<=x)/\0<=s.2.2):jM s k/\(0<=(cN s k).1/\(cN s k).1<1999999973)/\(cN s k).2.1.length=k+1/\(∀x∈(cN s k).2.1,0<=x)/\0<=(cN s k).2.2:=by
 obtain⟨h1,h2,c,b⟩:=h;have a:In 2 (if(decide ((0:Int)<s.2.2))=true then(1:Int)else 0):=by split<;>exact BE (by omega) (by omega)
 refine⟨⟨IH h1.1 (by omega),a,?_⟩,jl _ (by decide),?_,?_,Int.ediv_nonneg b (by decide)⟩
 ·show s.2.1.length<=1000000;omega
 ·show(s.2.1++[_]).length=k+1;rw[z5,h2];rfl
 ·intro x hx;rcases List.mem_append.mp hx with hx|hx
  ·exact c x hx
  ·cases List.mem_singleton.mp hx;have:=tM (xs:=[((((s.1*((s.1%65521)+40487))+(7*k))+5)%1999999973),(s.2.2%1000000)]) a;simp only[jI,JS,or_false]at this;rcases this with e|e<;>rw[e]
   ·exact(jl _ (by decide)).1
   ·exact(jl _ (by decide)).1
theorem Ny(c m:Int)(h0:0<=m)(h1:m<=1000):gn c m/\(bD c m).length=m.toNat/\∀x∈bD c m,0<=x:=by
 have b:∀st a:Int,(0<=st/\st<1999999973)->0<=a->nH c m [] st a/\(jN c m [] st a).length=m.toNat/\∀x∈jN c m [] st a,0<=x:=λst a hs d=>by
  have:=zV (P:=λs k=>Z (jM s k)) (λk s=>(0<=s.1/\s.1<1999999973)/\s.2.1.length=k/\(∀x∈s.2.1,0<=x)/\0<=s.2.2) (step:=λs k=>cN s k) m.toNat (st,[],a) ⟨hs,rfl,λx h=>(by cases h),d⟩ λk s e h=>ci k s (by omega) h;exact⟨⟨Qy h0 (by omega),this.1⟩,this.2.2.1,this.2.2.2.1⟩
 refine b _ _ (jl _ (by decide)) ?_;dsimp only;split<;>(try split)<;>omega
theorem mG{m:U (AJ×α)}:has m x=true↔x∈m.map (·.1):=by
 unfold has;rw[JU,List.mem_map];constructor
 ·rintro⟨q,a,h⟩;exact⟨q,a,Jn h⟩
 ·rintro⟨q,a,h⟩;exact⟨q,a,ZA h⟩
theorem Ar[Inhabited α]{pre AS:U (AJ×α)}{n:AJ}{h:α}(a:n∉pre.map (·.1)):look (pre++(n,h)::AS) n=h:=by
 unfold look;have:pre.find? (λq=>decide (q.1=n))=Y:=List.find?_eq_none.mpr λq b e=>a (List.mem_map.mpr ⟨q,b,Jn e⟩);rw[List.find?_append,this];simp
theorem NF{pre AS:U (AJ×α)}{n:AJ}{h v:α}(d:n∉pre.map (·.1))(b:n∉AS.map (·.1)):put (pre++(n,h)::AS) n v=pre++(n,v)::AS:=by
 unfold put;rw[zo (mG.mpr (by simp))];have a:∀l:U (AJ×α),n∉l.map (·.1)->l.map (λq=>if q.1=n then(q.1,v)else q)=l:=λl c=>by
  conv=>rhs;rw[<-yi l]
  refine QO λq f=>?_;rw[zC λe=>c (List.mem_map.mpr ⟨q,f,e⟩)];rfl
 rw[qq,zw,a pre d,a AS b];simp
theorem Ku[Inhabited α]{m:U (AJ×α)}(h:x∈m.map (·.1)):(x,look m x)∈m:=by
 unfold look;cases a:m.find? λq=>decide (q.1=x)with
 |none=>
  obtain⟨q,b,rfl⟩:=List.mem_map.mp h;have:=List.find?_eq_none.mp a q b;simp at this
 |some q=>
  have h1:=List.mem_of_find?_eq_some a;have h2:q.1=x:=by simpa using List.find?_some a
  show(x,q.2)∈m;rw[<-h2];exact h1
theorem Av[Inhabited α]{m:U (AJ×α)}(a:(m.map (·.1)).Nodup){q:AJ×α}(h:q∈m):look m q.1=q.2:=by
 obtain⟨b,AS,rfl⟩:=yf h;have:q.1∉b.map (·.1):=λe=>by
  rw[qq,zw,ym]at a;exact a.2.2 _ e _ (zi ..) rfl
 exact Ar this
def mn(one a:AJ):AJ:=if mQ a one=true then a else one
def jn(one a h:AJ):AJ:=if h=one\/h=a then mn one a else h
theorem HF(a b:AJ):mn a b=a\/mn a b=b:=by unfold mn;split;exact .inr rfl;exact .inl rfl
def jm(m:U (AJ×AJ))(one a:AJ):U (AJ×AJ):=m.map λq=>(q.1,jn one a q.2)
theorem Wb(m:U (AJ×AJ))(one a:AJ):(jm m one a).map (·.1)=m.map (·.1):=by unfold jm;rw[Qr];rfl
theorem XW{one a:AJ}(b:(m.map (·.1)).Nodup)(h:x∈m.map (·.1)):look (jm m one a) x=jn one a (look m x):=by
 have h1:=Ku h;have:(x,jn one a (look m x))∈jm m one a:=List.mem_map.mpr ⟨_,h1,rfl⟩;exact Av (by rw[Wb];exact b) this
theorem By(one a:AJ):∀(b pre:U (AJ×AJ)),((pre++b).map (·.1)).Nodup->(pre++b).length<1000 →
  ou (λ(c:(U (AJ×AJ))) (name:AJ)=>(dR one a (mn one a) c name)) (λ(c:(U (AJ×AJ))) (name:AJ)=>Z (o7 one a (mn one a) c name)) (b.map (·.1)) (pre++b) ∧
  (b.map (·.1)).foldl (λ(c:(U (AJ×AJ))) (name:AJ)=>(dR one a (mn one a) c name)) (pre++b)=pre++jm b one a
 |[],pre,_,_=>⟨trivial,rfl⟩
 |(n,h)::AS,pre,nd,hl=>by
  have g:n∉pre.map (·.1):=λe=>by
   rw[qq,zw,ym]at nd;exact nd.2.2 _ e _ (zi ..) rfl
  have i:n∉AS.map (·.1):=by
   rw[qq,zw,ym,List.nodup_cons]at nd;exact nd.2.1.1
  have f:has (pre++(n,h)::AS) n=true:=mG.mpr (by simp);have e:dR one a (mn one a) (pre++(n,h)::AS) n=pre++(n,jn one a h)::AS:=by
   unfold dR;dsimp only;rw[Ar g];unfold jn;by_cases q:h=one\/h=a
   ·rw[zo q,zo (by simpa using q),NF g i]
   ·rw[zC q,zC (by simpa using q)]
  have d:=By one a AS (pre++[(n,jn one a h)]) (by simpa using nd) (by simpa using hl);rw[QE]at d;refine⟨⟨⟨⟨f,λ_=>f⟩,λ_=>hl⟩,?_⟩,?_⟩
  ·show ou _ _ _ (dR one a (mn one a) (pre++(n,h)::AS) n);rw[e];exact d.1
  ·rw[zw,qh,e];rw[show pre++(n,jn one a h)::AS=pre++([(n,jn one a h)]++AS) by simp,d.2];unfold jm;simp
theorem Wc(one a:AJ)(b:(m.map (·.1)).Nodup)(c:m.length<1000):jP m one a/\iH m one a=jm m one a:=By one a m [] b c
theorem Nz:∀(a m:U (AJ×AJ)),((m++a).map (·.1)).Nodup->a.foldl (λm q=>put m q.1 q.2) m=m++a
 |[],m,_=>by simp
 |q::a,m,nd=>by
  rw[qh];have:put m q.1 q.2=m++[q]:=by
   unfold put;rw[zC];intro e;have e:=mG.mp e;rw[qq,zw,ym]at nd;exact nd.2.2 _ e _ (zi ..) rfl
  rw[this,Nz a (m++[q]) (by simpa using nd)];simp
theorem rM(n_:An)(a:n_.Nodup)(b:n_.length<1000):jO n_/\aW n_=n_.map λn=>(n,n):=by
 refine⟨⟨b,by omega⟩,?_⟩;unfold aW EQ;rw[Nz _ [] (by rw[JE,Qr];show(n_.map id).Nodup;rw[yi];exact a)];rfl
structure Hd (n_:An) (m:List (Str×Str)):Prop where
 keys:m.map (·.1)=n_
 nd:n_.Nodup
 len:n_.length<1000
 mem:∀x∈n_,look m x∈n_
 idem:∀x∈n_,look m (look m x)=look m x
theorem Hd.kn(h:Hd n_ m):(m.map (·.1)).Nodup:=by rw[h.keys];exact h.nd
theorem Hd.ml(h:Hd n_ m):m.length<1000:=by rw[<-zl (f:=(·.1)),h.keys];exact h.len
theorem Hd.has(h:Hd n_ m)(hx:x∈n_):has m x=true:=mG.mpr (by rw[h.keys];exact hx)
theorem Hd.lone(b:n_.Nodup)(c:n_.length<1000):Hd n_ (n_.map λn=>(n,n)):=by
 have k:(n_.map λn=>(n,n)).map (·.1)=n_:=by rw[Qr];show n_.map id=n_;rw[yi]
 have a:∀x∈n_,look (n_.map λn=>(n,n)) x=x:=λx hx=>Av (q:=(x,x)) (by rw[k];exact b) (List.mem_map.mpr ⟨x,hx,rfl⟩);exact⟨k,b,c,λx hx=>by rw[a x hx];exact hx,λx hx=>by rw[a x hx,a x hx]⟩
theorem qg(a:n_.Nodup)(hx:x∈n_):look (n_.map λn=>(n,n)) x=x:=
 Av (q:=(x,x)) (by rw[Qr];show(n_.map id).Nodup;rw[yi];exact a) (List.mem_map.mpr ⟨x,hx,rfl⟩)
theorem Hd.qI(h:Hd n_ m){one a:AJ}(hx:x∈n_):look (jm m one a) x=jn one a (look m x):=XW h.kn (by rw[h.keys];exact hx)
theorem Hd.join(h:Hd n_ m){a b:AJ}(ha:a∈n_)(hb:b∈n_):Hd n_ (jm m (look m a) (look m b)):=by
 have f:=h.mem a ha;have d:=h.mem b hb;refine⟨(Wb _ _ _).trans h.keys,h.nd,h.len,λx hx=>?_,λx hx=>?_⟩
 ·rw[h.qI hx];unfold jn;split
  ·rcases HF (look m a) (look m b)with e|e<;>rw[e]<;>assumption
  ·exact h.mem x hx
 ·have c:jn (look m a) (look m b) (look m x)∈n_:=by
   unfold jn;split
   ·rcases HF (look m a) (look m b)with e|e<;>rw[e]<;>assumption
   ·exact h.mem x hx
  rw[h.qI hx,h.qI c];unfold jn;by_cases q:look m x=look m a\/look m x=look m b
  ·rw[zo q];rcases HF (look m a) (look m b)with e|e
   ·rw[e,h.idem a ha,zo (.inl Δ)]
   ·rw[e,h.idem b hb,zo (.inr Δ)]
  ·rw[zC q,h.idem x hx,zC q]
theorem P6(a:AJ):jm m a a=m:=by
 unfold jm
 conv=>rhs;rw[<-yi m]
 refine QO λq _=>?_;unfold jn mn;have:mQ a a=false:=by simp[mQ]
 rw[this];by_cases e:q.2=a
 ·rw[zo (.inl e),zC (by decide),<-e];rfl
 ·rw[zC (by simp[e])];rfl
def Uw(n_:An)(m:U (AJ×AJ)):An:=n_.filter λx=>decide (look m x=x)
theorem Dh{p q:AJ->Bool}{c:AJ}:∀{l:An},l.Nodup->c∈l->p c=true->(∀x∈l,q x=(p x&&decide (x≠c)))->(l.filter q).length+1=(l.filter p).length
 |[],_,h,_,_=>by cases h
 |x::l,nd,b,hp,hq=>by
  have hx:=hq x (zi ..);obtain⟨nx,d⟩:=List.nodup_cons.mp nd;rcases List.mem_cons.mp b with rfl|b
  ·have e:l.filter q=l.filter p:=ja λy a=>by
    rw[hq y (zh _ a)];have:y≠c:=λe=>nx (e▸a);simp[this]
   rw[k4,k4,hx,hp];simp[e]
  ·have f:=Dh (p:=p) (q:=q) d b hp λy a=>hq y (zh _ a);have:x≠c:=λe=>nx (e▸b);rw[k4,k4,hx];cases p x<;>simp[this]<;>omega
theorem Hd.abj(h:Hd n_ m){a b:AJ}(ha:a∈n_)(hb:b∈n_)(g:look m a≠look m b):(Uw n_ (jm m (look m a) (look m b))).length+1=(Uw n_ m).length:=by
 have n:=h.mem a ha;have l:=h.mem b hb;have i1:=h.idem a ha;have i2:=h.idem b hb;have f:∀c,c∈n_->look m c=c->(c=look m a/\mn (look m a) (look m b)=look m b\/c=look m b/\mn (look m a) (look m b)=look m a)->(Uw n_ (jm m (look m a) (look m b))).length+1=(Uw n_ m).length:=λc j i d=>by
  refine Dh h.nd j (ZA i) λx hx=>?_;rw[h.qI hx];rw[JI];simp only[Z3,ZY];unfold jn;by_cases q:look m x=look m a\/look m x=look m b
  ·rw[zo q];rcases d with⟨rfl,e⟩|⟨rfl,e⟩
   ·rw[e];constructor
    ·rintro rfl;exact⟨i2,λz=>g z.symm⟩
    ·rintro⟨e1,e2⟩;rcases q with q|q
     ·exact absurd (e1.symm.trans q) e2
     ·exact q.symm.trans e1
   ·rw[e];constructor
    ·rintro rfl;exact⟨i1,g⟩
    ·rintro⟨e1,e2⟩;rcases q with q|q
     ·exact q.symm.trans e1
     ·exact absurd (e1.symm.trans q) e2
  ·rw[zC q];constructor
   ·intro e1;refine⟨e1,λe2=>q ?_⟩;rcases d with⟨rfl,_⟩|⟨rfl,_⟩
    ·exact .inl (e1.trans e2)
    ·exact .inr (e1.trans e2)
   ·exact λe1=>e1.1
 rcases HF (look m a) (look m b)with e|e
 ·exact f (look m b) l i2 (.inr ⟨rfl,e⟩)
 ·exact f (look m a) n i1 (.inl ⟨rfl,e⟩)
abbrev bY:=Int×AJ×AJ×Int
def Rs(n_:An)(rs:U bY):Prop:=∀r∈rs,r.2.1∈n_/\r.2.2.1∈n_
def jb(m:U (AJ×AJ))(r:bY):U (AJ×AJ):=jm m (look m r.2.1) (look m r.2.2.1)
def hb(n_:An)(rs:U bY):U (AJ×AJ):=rs.foldl jb (aW n_)
theorem EI(a:n_.Nodup)(b:n_.length<1000):Hd n_ (aW n_):=by rw[(rM n_ a b).2];exact Hd.lone a b
theorem wU(n_:An)(rs:U bY)(r:bY):hb n_ (rs++[r])=jb (hb n_ rs) r:=yo (l:=rs) (l':=[r])
def Wi(S:An)(r:bY):Bool:=decide (r.2.1∈S)&&decide (r.2.2.1∈S)
def Sd(S:An)(rs:U bY):Prop:=∀r∈rs,(r.2.1∈S/\r.2.2.1∈S)\/(r.2.1∉S/\r.2.2.1∉S)
structure Lo (N S:An) (m m1:List (Str×Str)):Prop where
 h:Hd N m
 h1:Hd S m1
 eq:∀x∈S,look m x=look m1 x
 out:∀x∈N,x∉S->look m x∉S
theorem WE(a b h:AJ):jn a b h=a\/jn a b h=b\/(jn a b h=h/\h≠a/\h≠b):=by
 unfold jn;split
 ·rcases HF a b with e|e
  ·exact .inl e
  ·exact .inr (.inl e)
 ·rename_i e;exact .inr (.inr ⟨rfl,λz=>e (.inl z),λz=>e (.inr z)⟩)
theorem Lo.inn{a:U (AJ×AJ)}(l:Lo N S m a)(sub:∀x∈S,x∈N){r:bY}(ha:r.2.1∈S)(hb:r.2.2.1∈S):Lo N S (jb m r) (jb a r):=by
 refine⟨l.h.join (sub _ ha) (sub _ hb),l.h1.join ha hb,λx hx=>?_,λx hx b=>?_⟩
 ·show look (jm m _ _) x=look (jm a _ _) x;rw[l.h.qI (sub _ hx),l.h1.qI hx,l.eq _ ha,l.eq _ hb,l.eq _ hx]
 ·show look (jm m _ _) x∉S;rw[l.h.qI hx];have o:=l.out x hx b;unfold jn;rw[zC]
  ·exact o
  ·rintro(e|e)
   ·exact o (by rw[e,l.eq _ ha];exact l.h1.mem _ ha)
   ·exact o (by rw[e,l.eq _ hb];exact l.h1.mem _ hb)
theorem Lo.ext{c:U (AJ×AJ)}(l:Lo N S m c)(sub:∀x∈S,x∈N){r:bY}(ha:r.2.1∈N)(hb:r.2.2.1∈N)(d:r.2.1∉S)(f:r.2.2.1∉S):Lo N S (jb m r) c:=by
 have a:=l.out _ ha d;have b:=l.out _ hb f;refine⟨l.h.join ha hb,l.h1,λx hx=>?_,λx hx g=>?_⟩
 ·show look (jm m _ _) x=_;rw[l.h.qI (sub _ hx),l.eq x hx];have:=l.h1.mem x hx;unfold jn;rw[zC];rintro(e|e)
  ·exact a (e▸this)
  ·exact b (e▸this)
 ·show look (jm m _ _) x∉S;rw[l.h.qI hx];rcases WE (look m r.2.1) (look m r.2.2.1) (look m x)with e|e|e
  ·rw[e];exact a
  ·rw[e];exact b
  ·rw[e.1];exact l.out x hx g
theorem Ic(a:N.Nodup)(c:S.Nodup)(b:N.length<1000)(lS:S.length<1000)(sub:∀x∈S,x∈N):Lo N S (aW N) (aW S):=by
 refine⟨EI a b,EI c lS,λx hx=>?_,λx hx d=>?_⟩
 ·rw[(rM N a b).2,(rM S c lS).2,qg a (sub _ hx),qg c hx]
 ·rw[(rM N a b).2,qg a hx];exact d
theorem NK{N S:An}(sub:∀x∈S,x∈N):∀(rs:U bY) {m c:U (AJ×AJ)},Lo N S m c->Rs N rs->Sd S rs->Lo N S (rs.foldl jb m) ((rs.filter (Wi S)).foldl jb c)
 |[],_,_,l,_,_=>l
 |r::rs,m,c,l,hr,sd=>by
  obtain⟨ha,hb⟩:=hr r (zi ..);have g:Rs N rs:=λz d=>hr z (zh _ d);have f:Sd S rs:=λz d=>sd z (zh _ d);rcases sd r (zi ..)with⟨a,b⟩|⟨a,b⟩
  ·have e:Wi S r=true:=by unfold Wi;simp[a,b]
   rw[y0 e];exact NK sub rs (l.inn sub a b) g f
  ·have e:¬ Wi S r=true:=by unfold Wi;simp[a]
   rw[Kx e];exact NK sub rs (l.ext sub ha hb a b) g f
theorem XN(c:N.Nodup)(e:S.Nodup)(b:N.length<1000)(lS:S.length<1000)(sub:∀x∈S,x∈N){rs:U bY}(a:Rs N rs)(d:Sd S rs):Lo N S (hb N rs) (hb S (rs.filter (Wi S))):=
 NK sub rs (Ic c e b lS sub) a d
def Tr(F:U bY):AJ->U bY->AJ->Prop
 |s,[],e=>s=e
 |s,r::p,e=>r∈F/\∃t,aU r s=Z t/\Tr F t p e
def wW(F:U bY)(x y:AJ):Prop:=∃p,Tr F x p y
theorem jW{r:bY}(h:aU r x=Z y):(r.2.1=x/\r.2.2.1=y)\/(r.2.2.1=x/\r.2.1=y):=by
 unfold aU at h;by_cases h1:r.2.1=x
 ·rw[ZA h1,zo rfl]at h;exact .inl ⟨h1,QY h⟩
 ·rw[ZH h1,zC (by decide)]at h;by_cases h2:r.2.2.1=x
  ·rw[ZA h2,zo rfl]at h;exact .inr ⟨h2,QY h⟩
  ·rw[ZH h2,zC (by decide)]at h;cases h
theorem NP{r:bY}(a:r.2.1≠r.2.2.1)(h:aU r x=Z y):aU r y=Z x:=by
 unfold aU;rcases jW h with⟨h1,h2⟩|⟨h1,h2⟩
 ·have:r.2.1≠y:=λz=>a (z.trans h2.symm);rw[ZH this,zC (by decide),ZA h2,zo rfl,h1]
 ·rw[ZA h2,zo rfl,h1]
theorem Tr.app{F:U bY}:∀{p:U bY} {x y z:AJ} {q:U bY},Tr F x p y->Tr F y q z->Tr F x (p++q) z
 |[],_,_,_,_,h,h'=>by cases h;exact h'
 |_::_,_,_,_,_,⟨m,t,e,h⟩,h'=>⟨m,t,e,h.app h'⟩
theorem Tr.rev{F:U bY}(a:∀r∈F,r.2.1≠r.2.2.1):∀{p:U bY} {x y:AJ},Tr F x p y->Tr F y p.reverse x
 |[],_,_,h=>by cases h;rfl
 |r::p,x,y,⟨m,t,e,h⟩=>by
  rw[kL];exact(h.rev a).app ⟨m,x,NP (a r m) e,rfl⟩
theorem wW.symm{F:U bY}(a:∀r∈F,r.2.1≠r.2.2.1){x y:AJ}:wW F x y->wW F y x:=λ⟨p,h⟩=>⟨_,h.rev a⟩
theorem wW.trans{F:U bY}{z:AJ}:wW F x y->wW F y z->wW F x z:=λ⟨_,h⟩ ⟨_,h'⟩=>⟨_,h.app h'⟩
inductive Fo:List bY->Prop
 |nil:Fo []
 |snoc {F:List bY} {r:bY}:Fo F->¬ wW F r.2.1 r.2.2.1->Fo (F++[r])
theorem Fo.ne{F:U bY}(h:Fo F):∀r∈F,r.2.1≠r.2.2.1:=by
 induction h with
 |nil=>intro r h;cases h
 |@snoc F r _ a b=>
  intro x hx e;rcases List.mem_append.mp hx with hx|hx
  ·exact b x hx e
  ·cases List.mem_singleton.mp hx;exact a ⟨[],e⟩
theorem Tr.mono{F G:U bY}:∀{p:U bY} {x y:AJ},Tr F x p y->(∀r∈p,r∈G)->Tr G x p y
 |[],_,_,h,_=>h
 |r::p,_,_,⟨_,t,e,h⟩,hg=>⟨hg r (zi ..),t,e,h.mono λz a=>hg z (zh _ a)⟩
theorem Tr.mem{F:U bY}:∀{p:U bY} {x y:AJ},Tr F x p y->∀r∈p,r∈F
 |[],_,_,_,_,h=>by cases h
 |r::p,_,_,⟨m,_,_,h⟩,z,a=>by
  rcases List.mem_cons.mp a with rfl|a
  ·exact m
  ·exact h.mem z a
theorem Tr.cut{F:U bY}:∀{p1:U bY} {r:bY} {p2:U bY} {x y:AJ},Tr F x (p1++r::p2) y->∃a b,Tr F x p1 a/\aU r a=Z b/\Tr F b p2 y
 |[],_,_,x,_,⟨_,t,e,h⟩=>⟨x,t,rfl,e,h⟩
 |q::p1,_,_,_,_,⟨m,t,e,h⟩=>by
  obtain⟨a,b,h1,h2,c⟩:=h.cut;exact⟨a,b,⟨m,t,e,h1⟩,h2,c⟩
theorem Me{F:U bY}(h:Fo F):∀{s e:AJ} {p q:U bY},Tr F s p e->Tr F s q e->p.Nodup->q.Nodup->p=q:=by
 induction h with
 |nil=>
  intro s e p q hp g _ _;cases p with
  |nil=>cases q with
   |nil=>rfl
   |cons _ _=>cases g.1
  |cons _ _=>cases hp.1
 |@snoc F r G y n=>
  have i:=G.ne;have o:∀{s e:AJ} {p:U bY},Tr (F++[r]) s p e->p.Nodup->Tr F s p e\/∃p1 p2 a b,p=p1++r::p2/\Tr F s p1 a/\aU r a=Z b/\Tr F b p2 e/\p1.Nodup/\p2.Nodup:=by
   intro s e p hp J;by_cases A:r∈p
   ·obtain⟨p1,p2,rfl⟩:=yf A;obtain⟨a,b,t1,t2,t3⟩:=hp.cut;obtain⟨v,m,E⟩:=List.nodup_append.mp J;obtain⟨D,K⟩:=List.nodup_cons.mp m;refine .inr ⟨p1,p2,a,b,rfl,t1.mono λz f=>?_,t2,t3.mono λz f=>?_,v,K⟩
    ·rcases List.mem_append.mp (t1.mem z f)with h|h
     ·exact h
     ·cases List.mem_singleton.mp h;exact absurd Δ (E _ f _ (zi ..))
    ·rcases List.mem_append.mp (t3.mem z f)with h|h
     ·exact h
     ·cases List.mem_singleton.mp h;exact absurd f D
   ·refine .inl (hp.mono λz f=>?_);rcases List.mem_append.mp (hp.mem z f)with h|h
    ·exact h
    ·cases List.mem_singleton.mp h;exact absurd f A
  have B:∀{a b:AJ},aU r a=Z b->wW F a b->False:=λ{a b} h c=>by
   rcases jW h with⟨h1,h2⟩|⟨h1,h2⟩
   ·exact y (h1▸h2▸c)
   ·exact y ((h1▸h2▸c.symm i))
  have C:∀{s e:AJ} {p1 p2:U bY} {a b:AJ},Tr F s p1 a->aU r a=Z b->Tr F b p2 e->wW F s e->False:=λt1 t2 t3 c=>
   B t2 ((wW.symm i ⟨_,t1⟩).trans (c.trans (wW.symm i ⟨_,t3⟩)))
  intro s e p q hp g np w;rcases o hp np with h1|⟨p1,p2,a,b,rfl,t1,t2,t3,v,m⟩
  ·rcases o g w with h2|⟨q1,q2,c,d,rfl,l,j,x,_,_⟩
   ·exact n h1 h2 np w
   ·exact(C l j x ⟨_,h1⟩).elim
  ·rcases o g w with h2|⟨q1,q2,c,d,rfl,l,j,x,L,I⟩
   ·exact(C t1 t2 t3 ⟨_,h2⟩).elim
   ·by_cases u:a=c
    ·subst u;have:b=d:=QY (t2.symm.trans j);subst this;rw[n t1 l v L,n t3 x m I]
    ·exfalso;have H:c=b:=by
      rcases jW t2 with⟨x1,t⟩|⟨x1,t⟩<;>rcases jW j with⟨y1,y2⟩|⟨y1,y2⟩
      ·exact absurd (x1.symm.trans y1) u
      ·exact y1.symm.trans t
      ·exact y1.symm.trans t
      ·exact absurd (x1.symm.trans y1) u
     subst H;exact B t2 ((wW.symm i ⟨_,t1⟩).trans ⟨_,l⟩)
theorem BH{P:U α->Prop}(h0:P [])(h1:∀l x,P l->P (l++[x]))(l:U α):P l:=by
 have:∀m:U α,P m.reverse:=λm=>by
  induction m with
  |nil=>exact h0
  |cons x m a=>rw[kL];exact h1 _ x a
 have:=this l.reverse;rwa [List.reverse_reverse]at this
theorem Hd.hb(b:n_.Nodup)(d:n_.length<1000){rs:U bY}:Rs n_ rs->Hd n_ (hb n_ rs):=by
 induction rs using BH with
 |h0=>intro _;exact EI b d
 |h1 rs r e=>
  intro a;obtain⟨ha,f⟩:=a r (by simp);rw[wU];exact(e λz c=>a z (zt _ c)).join ha f
theorem bP(f:n_.Nodup)(h:n_.length<1000){pre:U bY}:∀{a:U bY},Rs n_ (pre++a)->∀x∈n_,∀y∈n_,look (hb n_ pre) x=look (hb n_ pre) y->look (hb n_ (pre++a)) x=look (hb n_ (pre++a)) y:=λ{a}=>by
 induction a using BH with
 |h0=>intro _ x hx y b e;rw[ZU];exact e
 |h1 a r i=>
  intro c x hx y b e;rw[<-QE]at c ⊢;have d:Rs n_ (pre++a):=λz g=>c z (zt _ g);have H:=Hd.hb f h d;rw[wU];unfold jb;rw[H.qI hx,H.qI b,i d x hx y b e]
theorem e9(f:n_.Nodup)(g:n_.length<1000){rs:U bY}(b:Rs n_ rs){r:bY}(h:r∈rs):look (hb n_ rs) r.2.1=look (hb n_ rs) r.2.2.1:=by
 obtain⟨a,c,rfl⟩:=yf h;have j:Rs n_ ((a++[r])++c):=λz d=>b z (by simpa using d);obtain⟨ha,i⟩:=b r h;have e:a++r::c=(a++[r])++c:=by simp
 rw[e];refine bP f g j _ ha _ i ?_;have H:=Hd.hb f g (rs:=a) λz d=>b z (zt _ d);rw[wU];unfold jb;rw[H.qI ha,H.qI i];unfold jn;rw[zo (.inl Δ),zo (.inr Δ)]
theorem HJ{n_:An}(b:n_.Nodup)(c:n_.length<1000){F:U bY}(a:Rs n_ F):∀{p:U bY} {x y:AJ},Tr F x p y->look (hb n_ F) x=look (hb n_ F) y
 |[],_,_,h=>by cases h;rfl
 |r::p,_,_,⟨m,t,e,h⟩=>by
  rw[<-HJ b c a h];have:=e9 b c a m;rcases jW e with⟨h1,h2⟩|⟨h1,h2⟩
  ·rw[<-h1,<-h2];exact this
  ·rw[<-h1,<-h2];exact this.symm
structure HI (n_:An) (m:List (Str×Str)) (hd:List bY):Prop where
 h:Hd n_ m
 e2:m=hb n_ hd
 rs:Rs n_ hd
 len:hd.length+(Uw n_ m).length=n_.length
 fo:Fo hd
theorem Y'(a:n_.Nodup)(b:n_.length<1000):HI n_ (aW n_) []:=by
 refine⟨EI a b,rfl,λr h=>(by cases h),?_,.nil⟩;unfold Uw;rw[(rM n_ a b).2,List.filter_eq_self.mpr λx hx=>ZA (qg a hx)];simp
def hs(s:(U (AJ×AJ))×(U bY))(r:bY):(U (AJ×AJ))×(U bY):=if look s.1 r.2.1=look s.1 r.2.2.1 then s else(jb s.1 r,s.2++[r])
theorem Yc(d:n_.Nodup)(f:n_.length<64){s:(U (AJ×AJ))×(U bY)}(i:HI n_ s.1 s.2){r:bY}(ha:r.2.1∈n_)(a:r.2.2.1∈n_):
  j6 s r/\dU s r=hs s r/\HI n_ (hs s r).1 (hs s r).2:=by
 obtain⟨m,b⟩:=s;have i:HI n_ m b:=i;have j:=Wc (look m r.2.1) (look m r.2.2.1) i.h.kn i.h.ml;have g:=i.len;have fl:b.length<=1000000:=by omega
 refine⟨⟨i.h.has ha,i.h.has a,λ_=>⟨j.1,fl⟩⟩,?_⟩;unfold dU hs;dsimp only;rw[j.2];by_cases e:look m r.2.1=look m r.2.2.1
 ·exact⟨by simp[e],by simp only[e,qS];exact i⟩
 ·refine⟨by simp[e,jb],?_⟩;rw[zC e];refine⟨i.h.join ha a,?_,?_,?_,.snoc i.fo λ⟨p,c⟩=>?_⟩
  ·rw[wU,<-i.e2]
  ·intro x hx;rcases List.mem_append.mp hx with hx|hx
   ·exact i.rs x hx
   ·cases List.mem_singleton.mp hx;exact⟨ha,a⟩
  ·have:=i.h.abj ha a e;show(b++[r]).length+(Uw n_ (jm m _ _)).length=_;rw[z5];show _+1+_=_;omega
  ·exact e (i.e2▸HJ d (by omega) i.rs c)
theorem Kv{n_:An}(d:n_.Nodup)(e:n_.length<64):∀(a:U bY) (s:(U (AJ×AJ))×(U bY)),Rs n_ a->HI n_ s.1 s.2 →
  ou (λ(c:(U (AJ×AJ))×(U bY)) (b:bY)=>(dU c b)) (λ(c:(U (AJ×AJ))×(U bY)) (b:bY)=>Z (j6 c b)) a s ∧
  a.foldl (λ(c:(U (AJ×AJ))×(U bY)) (b:bY)=>(dU c b)) s=a.foldl hs s/\HI n_ (a.foldl hs s).1 (a.foldl hs s).2
 |[],s,_,i=>⟨trivial,rfl,i⟩
 |r::a,s,hr,i=>by
  obtain⟨ha,hb⟩:=hr r (zi ..);obtain⟨f,e1,i'⟩:=Yc d e i ha hb;obtain⟨f1,g1,i2⟩:=Kv d e a (hs s r) (λx hx=>hr x (zh _ hx)) i';refine⟨⟨f,?_⟩,?_,i2⟩
  ·show ou _ _ a (dU s r);rw[e1];exact f1
  ·rw[qh,e1];exact g1
def held(n_:An)(rs:U bY):U bY:=(rs.foldl hs (aW n_,[])).2
theorem qJ(a:n_.Nodup)(d:n_.length<64){rs:U bY}(c:Rs n_ rs)(b:U (AJ×AJ×Int)):
  eE (n_,rs,b)/\bw (n_,rs,b)=held n_ rs/\Rs n_ (held n_ rs)/\Fo (held n_ rs)/\(held n_ rs).length<=n_.length:=by
 obtain⟨f1,g1,i2⟩:=Kv a d rs (aW n_,[]) c (Y' a (by omega));have l:=(rM n_ a (by omega)).1;have:=i2.len;exact⟨⟨l,f1⟩,congrArg Prod.snd g1,i2.rs,i2.fo,by show(rs.foldl hs (aW n_,[])).2.length<=_;omega⟩
theorem Ru{N S:An}(sub:∀x∈S,x∈N):∀(rs:U bY) {m d:U (AJ×AJ)} {c f:U bY},Lo N S m d->Rs N rs->Sd S rs->c.filter (Wi S)=f →
  Lo N S (rs.foldl hs (m,c)).1 ((rs.filter (Wi S)).foldl hs (d,f)).1/\(rs.foldl hs (m,c)).2.filter (Wi S)=((rs.filter (Wi S)).foldl hs (d,f)).2
 |[],_,_,_,_,l,_,_,e=>⟨l,e⟩
 |r::rs,m,d,c,f,l,hr,sd,e=>by
  obtain⟨ha,hb⟩:=hr r (zi ..);have h:Rs N rs:=λz i=>hr z (zh _ i);have g:Sd S rs:=λz i=>sd z (zh _ i);rcases sd r (zi ..)with⟨a,b⟩|⟨a,b⟩
  ·have w:Wi S r=true:=by unfold Wi;simp[a,b]
   rw[y0 w,qh,qh];by_cases z:look m r.2.1=look m r.2.2.1
   ·have z1:look d r.2.1=look d r.2.2.1:=by rw[<-l.eq _ a,<-l.eq _ b];exact z
    rw[show hs (m,c) r=(m,c) from zo z,show hs (d,f) r=(d,f) from zo z1];exact Ru sub rs l h g e
   ·have z1:¬ look d r.2.1=look d r.2.2.1:=by rw[<-l.eq _ a,<-l.eq _ b];exact z
    rw[show hs (m,c) r=(jb m r,c++[r]) from zC z,show hs (d,f) r=(jb d r,f++[r]) from zC z1];exact Ru sub rs (l.inn sub a b) h g (by rw[qV,e,y0 w];rfl)
  ·have w:¬ Wi S r=true:=by unfold Wi;simp[a]
   rw[Kx w,qh];by_cases z:look m r.2.1=look m r.2.2.1
   ·rw[show hs (m,c) r=(m,c) from zo z];exact Ru sub rs l h g e
   ·rw[show hs (m,c) r=(jb m r,c++[r]) from zC z];exact Ru sub rs (l.ext sub ha hb a b) h g (by rw[qV,e,Kx w];simp)
theorem OB(c:N.Nodup)(e:S.Nodup)(b:N.length<1000)(lS:S.length<1000)(sub:∀x∈S,x∈N){rs:U bY}(a:Rs N rs)(d:Sd S rs):(held N rs).filter (Wi S)=held S (rs.filter (Wi S)):=
 (Ru sub rs (Ic c e b lS sub) a d Δ).2
theorem MO(n_:An):∀(rs:U bY) (m:U (AJ×AJ)),Rs n_ rs->Hd n_ m →
  ou (λ(a:(U (AJ×AJ))) (q1:aG)=>(gq a q1)) (λ(a:(U (AJ×AJ))) (q1:aG)=>Z (rZ a q1)) rs m/\rs.foldl (λ(a:(U (AJ×AJ))) (q1:aG)=>(gq a q1)) m=rs.foldl jb m/\Hd n_ (rs.foldl jb m)
 |[],m,_,h=>⟨trivial,rfl,h⟩
 |r::rs,m,hr,h=>by
  obtain⟨ha,hb⟩:=hr r (zi ..);obtain⟨d,e⟩:=Wc (look m r.2.1) (look m r.2.2.1) h.kn h.ml;have e:gq m r=jb m r:=e;obtain⟨i1,i2,b⟩:=MO n_ rs (jb m r) (λx hx=>hr x (zh _ hx)) (h.join ha hb);refine⟨⟨⟨⟨h.has ha,h.has hb⟩,d⟩,?_⟩,?_,b⟩
  ·show ou _ _ rs (gq m r);rw[e];exact i1
  ·rw[qh,qh,e];exact i2
theorem L0(a:n_.Nodup)(b:n_.length<1000){rs:U bY}(c:Rs n_ rs):qD n_ rs/\fM n_ rs=hb n_ rs/\Hd n_ (hb n_ rs):=by
 obtain⟨i1,i2,d⟩:=MO n_ rs _ c (EI a b);exact⟨⟨(rM n_ a b).1,i1⟩,i2,d⟩
theorem HQ(h:Hd n_ m)(z:AJ):jd m z/\fG m z=n_.filter λy=>decide (look m y=z):=by
 have l:=h.len;refine⟨⟨by rw[h.keys];omega,λy a=>h.has (by rw[<-h.keys];exact a)⟩,?_⟩;unfold fG;rw[h.keys];exact List.map_id' _
def pt(n_:An)(m:U (AJ×AJ))(x:AJ):An:=n_.filter λy=>decide (look m y=look m x)
theorem Wd(b:n_.Nodup)(c:n_.length<1000){rs:U bY}(a:Rs n_ rs)(hx:x∈n_):wQ n_ rs x/\wO n_ rs x=pt n_ (hb n_ rs) x:=by
 obtain⟨d,e,h⟩:=L0 b c a;have n:=HQ h (look (hb n_ rs) x);refine⟨⟨d,?_⟩,?_⟩
 ·rw[e];exact⟨h.has hx,n.1⟩
 ·show fG (fM n_ rs) (look (fM n_ rs) x)=_;rw[e];exact n.2
theorem Rv(b:n_.Nodup)(c:n_.length<1000){rs:U bY}(a:Rs n_ rs)(hx:x∈n_):oM n_ rs x/\lJ n_ rs x=pt n_ (hb n_ rs) x:=Wd b c a hx
theorem GN{d:U (AJ×AJ)}(l:Lo N S m d)(sub:N.filter (λy=>decide (y∈S))=S)(hx:x∈S):pt N m x=pt S d x:=by
 have sb:∀y∈S,y∈N:=λy b=>by rw[<-sub]at b;exact(List.mem_filter.mp b).1
 unfold pt;have e:∀y∈N,decide (look m y=look m x)=(decide (y∈S)&&decide (look m y=look m x)):=λy b=>by
  by_cases hs:y∈S
  ·simp[hs]
  ·have o:=l.out y b hs;have:look m y≠look m x:=λz=>o (by rw[z,l.eq x hx];exact l.h1.mem x hx);simp[hs,this]
 rw[ja e,<-Kn];have c:(N.filter λa=>decide (a∈S)).filter (λa=>decide (look m a=look m x))=S.filter λa=>decide (look d a=look d x):=by
  rw[sub];exact ja λy b=>by rw[l.eq y b,l.eq x hx]
 rw[<-c,Kn,Kn];exact ja λy _=>Bool.and_comm _ _
def st(n_:An)(m:U (AJ×AJ)):U An:=(n_.filter λw=>decide (look m w=w)).map (pt n_ m)
theorem TL(h:Hd n_ m):mD m/\jQ m=st n_ m:=by
 have l:=h.len;refine⟨⟨by rw[h.keys];omega,λw a=>⟨h.has (by rw[<-h.keys];exact a),λ_=>(HQ h w).1⟩⟩,?_⟩;unfold jQ st;rw[h.keys];refine QO λw a=>?_;have e:look m w=w:=Jn (List.mem_filter.mp a).2;rw[(HQ h w).2];unfold pt;rw[e]
theorem aT{A B:An}{d b:U (AJ×AJ)}(e:Lo (A++B) A m d)(f:Lo (A++B) B m b)(dj:∀x∈A,x∉B):st (A++B) m=st A d++st B b:=by
 have fa:(A++B).filter (λy=>decide (y∈A))=A:=by
  rw[qV,List.filter_eq_self.mpr λy a=>ZA a,List.filter_eq_nil_iff.mpr λy a=>by simpa using λz=>dj y z a,ZU]
 have fb:(A++B).filter (λy=>decide (y∈B))=B:=by
  rw[qV,List.filter_eq_nil_iff.mpr λy a=>by simpa using dj y a,List.filter_eq_self.mpr λy a=>ZA a,JE]
 unfold st;rw[qV,qq,ja (q:=λw=>decide (look d w=w)) λy a=>by rw[e.eq y a],ja (l:=B) (q:=λw=>decide (look b w=w)) λy a=>by rw[f.eq y a]];congr 1
 ·exact QO λw c=>GN e fa (List.mem_filter.mp c).1
 ·exact QO λw c=>GN f fb (List.mem_filter.mp c).1
def tn(q:bY):bY:=((0:Int)-q.1,q.2.1,q.2.2.1,q.2.2.2)
theorem eP(q:bY):tn (tn q)=q:=by
 obtain⟨a,b,c,d⟩:=q;show((0:Int)-(0-a),b,c,d)=_;rw[show(0:Int)-(0-a)=a by omega]
theorem HN(rs:U bY):(rs.map tn).map tn=rs:=by
 rw[Qr];exact(QO (g:=id) λq _=>eP q).trans (yi _)
def So(rs:U bY):Prop:=(rs.map tn).Pairwise λa b=>E6 (Xz eI eS eS eI) a b=true
theorem LB(rs:U bY):aC rs=(pB (Xz eI eS eS eI) (rs.map tn)).map tn:=rfl
theorem HS(rs:U bY):So (aC rs):=by
 unfold So;rw[LB,HN];exact tL _
theorem uJ(rs:U bY):(aC rs).Perm rs:=by
 rw[LB];have:=((kE (e:=Xz eI eS eS eI) (rs.map tn)).map tn);rwa [HN]at this
theorem Wf{a b:U bY}(p:a.Perm b)(ha:So a)(hb:So b):a=b:=by
 have h:a.map tn=b.map tn:=(Qw (e:=Xz eI eS eS eI) (p.map tn) ha).trans (Qw (e:=Xz eI eS eS eI) (.refl _) hb).symm;have:=congrArg (List.map tn) h;rwa [HN,HN]at this
theorem So.filter{rs:U bY}(h:So rs)(p:bY->Bool):So (rs.filter p):=by
 unfold So at *
 exact h.sublist ((List.filter_sublist).map tn)
theorem Wg{r1 r2:U bY}{p:bY->Bool}(h1:∀r∈r1,p r=true)(h2:∀r∈r2,p r=false)(s:So r1):(aC (r1++r2)).filter p=r1:=by
 refine Wf ?_ ((HS _).filter p) s;refine((uJ _).filter p).trans ?_;rw[qV,List.filter_eq_self.mpr h1,List.filter_eq_nil_iff.mpr λr a=>by rw[h2 r a];simp,ZU]
theorem NL{r1 r2:U bY}{p:bY->Bool}(h1:∀r∈r1,p r=false)(h2:∀r∈r2,p r=true)(s:So r2):(aC (r1++r2)).filter p=r2:=by
 refine Wf ?_ ((HS _).filter p) s;refine((uJ _).filter p).trans ?_;rw[qV,List.filter_eq_self.mpr h2,List.filter_eq_nil_iff.mpr λr a=>by rw[h1 r a];simp,JE]
theorem Be{α:Type}(c:Array α):∀(n:Nat) (a:Array α),((List.replicate n c).foldl (·++·) a).size=a.size+n*c.size
 |0,a=>by simp
 |n+1,a=>by
  rw[k8,qh,Be c n,KF,Nat.succ_mul];omega
theorem Lf(x:AJ)(k:Int):(Txt.mul x k).length<=x.length*k.toNat:=by
 unfold Txt.mul;split
 ·exact QR _
 split
 ·rename_i h0 h;simp only[Bool.or_eq_true,beq_iff_eq]at h;rcases h with h|h
  ·subst h;simp
  ·rw[h];simp
 ·show(Array.size _)<=_;rw[Be];have:x.cps.size=x.length:=rfl;rw[this,Nat.mul_comm];simp
def LT:AJ:=("abcdefghijklmnopqrstuvwxyz":AJ)
theorem Ux:LT.length=26:=by decide +kernel
theorem lA(h:n<=1000):HW n:=ZI h (by decide)
theorem Uy(xs:U Int)(i:6<=xs.length)(b:AJ)(hs:b.length<=5)(at_:Int)(k:Nat)(a:An)(o:k<200)(h:a.length=k/\∀n∈a,n.length<=12):mj xs LT b at_ a k/\(fL xs LT b at_ a k).length=k+1/\∀n∈fL xs LT b at_ a k,n.length<=12:=by
 have l:=ZI (slice_le b Y (Z at_)) hs;have j:=ZI (slice_le b (Z at_) Y) hs;have c1:=yq LT ((↑k+at' xs 2)%15);have g:=jl (k:Int) (m:=8) (by decide);have d:(0:Int)<=(k:Int) / 8/\(k:Int) / 8<26:=by omega
 refine⟨⟨⟨BE (by decide) (by omega),tO (by decide) (by rw[Ux];decide)⟩,⟨lA (by omega),lA (by rw[oA];omega)⟩,⟨BE (by decide) (by omega),λ_=>⟨BE d.1 (by rw[Ux];exact d.2),by omega,by omega,by rw[yq];decide⟩⟩,lA (by omega)⟩,?_⟩;have e:∀n:AJ,n.length<=12->(a++[n]).length=k+1/\∀m∈a++[n],m.length<=12:=λn f=>⟨by simp[h.1],λm c=>by
  rcases List.mem_append.mp c with c|c
  ·exact h.2 m c
  ·cases List.mem_singleton.mp c;exact f⟩
 unfold fL;dsimp only;split
 ·exact e _ (by have:=Lf (ch LT ((k:Int) / 8)) (1+(k:Int)%8);rw[yq]at this;exact ZI this (by omega))
 ·exact e _ (by rw[oA,oA,c1];omega)
theorem L9(xs:An)(n:Nat)(h:∀x∈xs,x.length<=n):(Txt.join "" xs).length<=xs.length*n:=by
 have h1:=StrLaws.join_length_le ("":AJ) xs;rw[<-StrLaws.glued_eq_join]at h1;have h2:(xs.map (·.length)).sum<=xs.length*n:=by
  clear h1
  induction xs with
  |nil=>simp
  |cons a l c=>
   have:=c λx hx=>h x (zh _ hx);have:=h a (zi ..);simp only[zw,List.sum_cons,qk,Nat.succ_mul];omega
 have b:("":AJ).length=0:=rfl;rw[b,Nat.mul_zero]at h1;exact ZI h1 (by omega)
theorem SU(xs:An)(h:∀x∈xs,x.length=1):(xs.map (·.length)).sum=xs.length:=by
 induction xs with
 |nil=>rfl
 |cons a l b=>
  have:=b λx hx=>h x (zh _ hx);have:=h a (zi ..);simp only[zw,List.sum_cons,qk];omega
theorem af(xs:U Int)(i:6<=xs.length)(a:Int)(h0:0<=a)(h1:a<=200):rD xs a/\(cg xs a).length=a.toNat/\∀n∈cg xs a,n.length<=12:=by
 have e:=jl (at' xs 0) (m:=6) (by decide);have st:∀b:AJ,b.length<=5->qz xs a LT b/\(mq xs a LT b).length=a.toNat/\∀n∈mq xs a LT b,n.length<=12:=λb hs=>by
  have:=zV (P:=λf k=>Z (mj xs LT b (at' xs 1%((b.length:Int)+1)) f k)) (step:=λf k=>fL xs LT b (at' xs 1%((b.length:Int)+1)) f k) (λk s=>s.length=k/\∀n∈s,n.length<=12) a.toNat [] ⟨rfl,λn h=>(by cases h)⟩ λk s d h=>Uy xs i b hs _ k s (by omega) h;exact⟨⟨⟨BE (by decide) (by omega),by omega⟩,Qy h0 (by omega),this.1⟩,this.2⟩
 have c1:∀x∈((rng 0 (at' xs 0%6).toNat).map λc:Int=>ch LT (at' xs c / 40%26)),x.length=1:=λx hx=>by
  obtain⟨k,_,rfl⟩:=List.mem_map.mp hx;exact yq _ _
 have:=st (Txt.join "" ((rng 0 (at' xs 0%6).toNat).map λc:Int=>ch LT (at' xs c / 40%26))) (by
  have:=L9 _ 1 λx hx=>Nat.le_of_eq (c1 x hx);rw[zl,zU]at this;omega)
 refine⟨⟨⟨⟨⟨⟨BE (by decide) (by omega),Qy e.1 (by omega)⟩,by rw[zU];omega⟩,λk d=>?_⟩,?_⟩,this.1⟩,this.2⟩
 ·obtain⟨j,l,rfl⟩:=MK d;exact⟨BE (by omega) (by omega),tO (by decide) (by rw[show("abcdefghijklmnopqrstuvwxyz":AJ)=LT from rfl,Ux];decide)⟩
 ·rw[show("abcdefghijklmnopqrstuvwxyz":AJ)=LT from rfl,SU _ c1,zl,zU];have g:("":AJ).length=0:=rfl;rw[g];omega
theorem LZ{α:Type}[DecidableEq α]:∀{xs ys:U α},xs.Nodup->(∀x∈xs,x∈ys)->xs.length<=ys.length
 |[],_,_,_=>QR _
 |x::xs,ys,nd,h=>by
  obtain⟨c,b⟩:=List.nodup_cons.mp nd;have hx:=h x (zi ..);have:=LZ (ys:=ys.erase x) b λz a=>(List.mem_erase_of_ne (λe:z=x=>c (e▸a))).mpr (h z (zh _ a));rw[List.length_erase_of_mem hx]at this;have:=List.length_pos_of_mem hx;rw[qk];omega
abbrev Cm:=U (AJ×(O aG))
inductive Bk (F:List bY) (s:Str):Cm->Prop
 |base:Bk F s [(s,none)]
 |snoc {L:Cm} {x:Str} {r:bY} {y:Str}:Bk F s L->x∉L.map (·.1)->r∈F->aU r x=some y->y∈L.map (·.1)->Bk F s (L++[(x,some r)])
theorem Bk.facts{F:U bY}{s:AJ}(d:Rs n_ F)(hs:s∈n_){L:Cm}(h:Bk F s L):(L.map (·.1)).Nodup/\(∀x∈L.map (·.1),x∈n_)/\s∈L.map (·.1):=by
 induction h with
 |base=>exact⟨List.nodup_cons.mpr ⟨λz=>(by cases z),kQ⟩,λx hx=>by cases List.mem_singleton.mp hx;exact hs,List.mem_singleton.mpr rfl⟩
 |@snoc L x r y h hx m o g e=>
  obtain⟨i1,i2,f⟩:=e;rw[qq];refine⟨List.nodup_append.mpr ⟨i1,List.nodup_cons.mpr ⟨λz=>(by cases z),kQ⟩,λa ha b hb z=>?_⟩,λz c=>?_,zt _ f⟩
  ·cases List.mem_singleton.mp hb;have z:a=x:=z;rw[z]at ha;exact hx ha
  ·rcases List.mem_append.mp c with c|c
   ·exact i2 z c
   ·cases List.mem_singleton.mp c;rcases jW o with⟨h1,_⟩|⟨h1,_⟩
    ·show x∈n_;rw[<-h1];exact(d r m).1
    ·show x∈n_;rw[<-h1];exact(d r m).2
theorem Bk.len{F:U bY}{s:AJ}(a:Rs n_ F)(hs:s∈n_){L:Cm}(h:Bk F s L):L.length<=n_.length:=by
 obtain⟨h1,h2,_⟩:=h.facts a hs;have:=LZ h1 h2;rwa [zl]at this
theorem We{L:Cm}{v:O bY}(h:x∉L.map (·.1)):put L x v=L++[(x,v)]:=by
 unfold put;rw[zC λz=>h (mG.mp z)]
theorem DC{n_:An}{F:U bY}{s:AJ}(n:Rs n_ F)(hs:s∈n_)(w:n_.length<64)(p:∀r∈F,r.2.1≠r.2.2.1){here:AJ}:∀(R:U bY),(∀r∈R,r∈F)->∀(L:Cm) (q:An),Bk F s L->here∈L.map (·.1)->q.length<=L.length →
  ou (λ(i:Cm×An) (f:aG)=>(dW here i f)) (λ(i:Cm×An) (f:aG)=>Z (gW here i f)) R (L,q) ∧
  ∃g ad,R.foldl (λ(i:Cm×An) (f:aG)=>(dW here i f)) (L,q)=(g,q++ad)/\g.map (·.1)=L.map (·.1)++ad/\Bk F s g/\∀r∈R,∀y,aU r here=Z y->y∈g.map (·.1)
 |[],_,L,q,b,_,_=>⟨trivial,L,[],by rw[ZU];rfl,by rw[ZU],b,λr h=>(by cases h)⟩
 |r::R,hR,L,q,b,hh,hq=>by
  have o:=hR r (zi ..);have B:=b.len n hs;have go:∀(j:Cm) (a1:An),dW here (L,q) r=(j,q++a1)->gW here (L,q) r->j.map (·.1)=L.map (·.1)++a1->Bk F s j->(∀y,aU r here=Z y->y∈j.map (·.1))->(q++a1).length<=j.length->(ou (λ(i:Cm×An) (f:aG)=>(dW here i f)) (λ(i:Cm×An) (f:aG)=>Z (gW here i f)) (r::R) (L,q)/\∃g ad,(r::R).foldl (λ(i:Cm×An) (f:aG)=>(dW here i f)) (L,q)=(g,q++ad)/\g.map (·.1)=L.map (·.1)++ad/\Bk F s g/\∀z∈r::R,∀y,aU z here=Z y->y∈g.map (·.1)):=λj a1 e d k b1 c x=>by
   obtain⟨i1,g,ad,i2,u,A,v⟩:=DC n hs w p R (λz l=>hR z (zh _ l)) j (q++a1) b1 (by rw[k];exact zt _ hh) x;refine⟨⟨d,by show ou _ _ R (dW here (L,q) r);rw[e];exact i1⟩,g,a1++ad,?_,?_,A,λz l y a=>?_⟩
   ·rw[qh,e,i2,QE]
   ·rw[u,k,QE]
   ·rcases List.mem_cons.mp l with rfl|l
    ·rw[u];exact zt _ (c y a)
    ·exact v z l y a
  cases ho:aU r here with
  |none=>
   refine go L [] ?_ ?_ (by rw[ZU]) b (λy a=>by rw[ho]at a;cases a) (by rw[ZU];exact hq)
   ·unfold dW;dsimp only;rw[ho,ZU];rfl
   ·unfold gW;dsimp only;rw[ho];exact⟨λz=>z,λz=>(by cases z)⟩
  |some t=>
   by_cases m:t∈L.map (·.1)
   ·have c:(!has L t)=false:=by rw[mG.mpr m];rfl
    refine go L [] ?_ ?_ (by rw[ZU]) b (λy a=>by rw[ho]at a;cases a;exact m) (by rw[ZU];exact hq)
    ·unfold dW;dsimp only;rw[ho,ZU,show(!has L ((Z t).getD default))=false from c];rfl
    ·unfold gW;dsimp only;rw[ho,show(!has L ((Z t).getD default))=false from c];exact⟨λz=>z,λz=>(by cases z)⟩
   ·have c:(!has L t)=true:=by
     cases q:has L t with
     |false=>rfl
     |true=>exact absurd (mG.mp q) m
    refine go (L++[(t,Z r)]) [t] ?_ ?_ (by rw[qq];rfl) (.snoc b m o (NP (p r o) ho) hh) (λy a=>by rw[ho]at a;cases a;rw[qq];exact zI _ (List.mem_singleton.mpr Δ)) (by rw[z5,z5];show _+1<=_+1;omega)
    ·unfold dW;dsimp only;rw[ho,show(!has L ((Z t).getD default))=true from c];show(put L t (Z r),q++[t])=_;rw[We m]
    ·unfold gW;dsimp only;rw[ho];exact⟨λz=>z,λ_=>⟨⟨rfl,by omega⟩,rfl,lA (by show q.length<=1000;omega)⟩⟩
structure Iq (F:List bY) (s:Str) (q:An) (L:Cm):Prop where
 b:Bk F s L
 sub:∀x∈q,x∈L.map (·.1)
 len:q.length<=L.length
 cl:∀x∈L.map (·.1),x∉q->∀r∈F,∀y,aU r x=some y->y∈L.map (·.1)
theorem outer{n_:An}{F:U bY}{s:AJ}(g:Rs n_ F)(hs:s∈n_)(l:n_.length<64)(o:∀r∈F,r.2.1≠r.2.2.1):∀(n:Nat) (q:An) (L:Cm),Iq F s q L->n_.length-L.length+q.length<n->∃f,Iq F s [] f ∧
  Ke (λa:An×Cm=>(!a.1.isEmpty)) (λa:An×Cm=>((gY F a):qT (An×Cm) (O (U aG)))) n (q,L)=.nx ([],f) ∧
  DF (λa:An×Cm=>(!a.1.isEmpty)) (λa:An×Cm=>Y) (λa:An×Cm=>((gY F a):qT (An×Cm) (O (U aG)))) (λa:An×Cm=>Z (rG F a)) n (q,L)
 |0,_,_,_,h=>by omega
 |n+1,[],L,i,_=>⟨L,i,rfl,trivial,λz=>(by cases z)⟩
 |n+1,h::q,L,i,hm=>by
  have v:=i.sub h (zi ..);have u:=i.len;rw[qk]at u hm;obtain⟨d,f,ad,e,k,b,c⟩:=DC g hs l o (here:=h) F (λr h=>h) L q i.b v (by omega);have C:f.length=L.length+ad.length:=by
   have:=congrArg List.length k;rwa [z5,zl,zl]at this
  have D:=b.len g hs;have i':Iq F s (q++ad) f:=by
   refine⟨b,λx hx=>?_,by rw[z5];omega,λx hx j=>?_⟩
   ·rw[k];rcases List.mem_append.mp hx with hx|hx
    ·exact zt _ (i.sub x (zh _ hx))
    ·exact zI _ hx
   ·rw[k]at hx;rcases List.mem_append.mp hx with hx|hx
    ·by_cases m:x=h
     ·subst m;exact c
     ·intro r A y t;rw[k];refine zt _ (i.cl x hx (λz=>?_) r A y t);rcases List.mem_cons.mp z with z|z
      ·exact m z
      ·exact j (zt _ z)
    ·exact absurd (zI _ hx) j
  have st:gY F (h::q,L)=.nx (q++ad,f):=by
   unfold gY;dsimp only;rw[show at' (h::q) (0:Int)=h from Mx _ 0 (by simp),show(h::q).drop 1=q from rfl,e]
  obtain⟨p,i2,B,w⟩:=outer g hs l o n (q++ad) f i' (by rw[z5];omega);refine⟨p,i2,?_,trivial,λ_=>⟨?_,?_⟩⟩
  ·unfold Ke;rw[zo (show(!(h::q,L).1.isEmpty)=true from Δ),st];exact B
  ·show rG F (h::q,L);refine⟨⟨rfl,by show 0<(h::q).length;simp⟩,?_⟩;dsimp only;rw[show at' (h::q) (0:Int)=h from Mx _ 0 (by simp)];exact d
  ·dsimp only;rw[st];exact w
theorem back{F:U bY}{s:AJ}(H:∀r∈F,r.2.1≠r.2.2.1){L:Cm}(h:Bk F s L):(L.map (·.1)).Nodup->∀x∈L.map (·.1),∃w,Tr F x w s/\w.Nodup/\(∀r∈w,r.2.1∈L.map (·.1)/\r.2.2.1∈L.map (·.1))/\w.length<L.length ∧
  ∀(a:Cm),(∀k∈L.map (·.1),look a k=look L k/\has a k=true)->∀(n:Nat) (c:U bY),w.length<n->c.length+w.length<=100 →
   Ke (λd:(U aG)×AJ=>(look a d.2).isSome) (λd:(U aG)×AJ=>((fH a d):qT ((U aG)×AJ) (U aG))) n (c,x)=.nx (c++w,s) ∧
   DF (λd:(U aG)×AJ=>(look a d.2).isSome) (λd:(U aG)×AJ=>Z (has a d.2=true)) (λd:(U aG)×AJ=>((fH a d):qT ((U aG)×AJ) (U aG))) (λd:(U aG)×AJ=>Z (j5 a d)) n (c,x):=by
 induction h with
 |base=>
  intro _ x hx;cases List.mem_singleton.mp hx;refine⟨[],rfl,kQ,λr h=>(by cases h),Nat.zero_lt_succ _,λa h2 n c i _=>?_⟩;obtain⟨l,g⟩:=h2 s (List.mem_singleton.mpr Δ);have l:look a s=Y:=l.trans (Ar (pre:=[]) (AS:=[]) (λz=>by cases z));cases n with
  |zero=>cases i
  |succ n=>
   refine⟨?_,g,λz=>?_⟩
   ·unfold Ke;rw[zC (by show ¬ (look a s).isSome=true;rw[l];decide),ZU]
   ·have z:(look a s).isSome=true:=z;rw[l]at z;cases z
 |@snoc L y r z b u m o j A=>
  intro t x hx;rw[qq]at t hx ⊢;have v:=(List.nodup_append.mp t).1;have B:∀k∈L.map (·.1),look (L++[(y,Z r)]) k=look L k:=λk f=>by
   have:=Ku f;have h1:(k,look L k)∈L++[(y,Z r)]:=zt _ this;exact Av (m:=L++[(y,Z r)]) (by rw[qq];exact t) h1
  rcases List.mem_append.mp hx with hx|hx
  ·obtain⟨w,t1,t2,t3,G,p⟩:=A v x hx;refine⟨w,t1,t2,λq e=>⟨zt _ (t3 q e).1,zt _ (t3 q e).2⟩,by rw[z5];omega,λa h2=>p a λk f=>?_⟩;obtain⟨a1,a2⟩:=h2 k (zt _ f);exact⟨a1.trans (B k f),a2⟩
  ·have ex:x=y:=List.mem_singleton.mp hx;subst ex;obtain⟨w,t1,t2,t3,G,p⟩:=A v z j;have D:r∉w:=λq=>by
    obtain⟨a1,a2⟩:=t3 r q;rcases jW o with⟨h1,_⟩|⟨h1,_⟩
    ·exact u (h1▸a1)
    ·exact u (h1▸a2)
   refine⟨r::w,⟨m,z,o,t1⟩,List.nodup_cons.mpr ⟨D,t2⟩,λq e=>?_,by rw[z5,qk];show _+1<_+1;omega,λa h2 n c i ha=>?_⟩
   ·rcases List.mem_cons.mp e with rfl|e
    ·rcases jW o with⟨h1,h2⟩|⟨h1,h2⟩
     ·exact⟨zI _ (by rw[h1];exact List.mem_singleton.mpr Δ),zt _ (by rw[h2];exact j)⟩
     ·exact⟨zt _ (by rw[h2];exact j),zI _ (by rw[h1];exact List.mem_singleton.mpr Δ)⟩
    ·exact⟨zt _ (t3 q e).1,zt _ (t3 q e).2⟩
   ·obtain⟨l,g⟩:=h2 x (zI _ (List.mem_singleton.mpr Δ));have l:look a x=Z r:=l.trans (Ar (pre:=L) (AS:=[]) u);rw[qk]at i ha;cases n with
    |zero=>cases i
    |succ n=>
     have st:fH a (c,x)=.nx (c++[r],z):=by
      unfold fH;dsimp only;rw[l];show qT.nx (c++[r],(aU r x).getD default)=_;rw[o];rfl
     obtain⟨E,C⟩:=p a (λk f=>by
      obtain⟨a1,a2⟩:=h2 k (zt _ f);exact⟨a1.trans (B k f),a2⟩) n (c++[r]) (by omega) (by rw[z5];show _+1+_<=100;omega)
     refine⟨?_,g,λ_=>⟨?_,?_⟩⟩
     ·unfold Ke;rw[zo (by show(look a x).isSome=true;rw[l];rfl),st];show Ke _ _ n (c++[r],z)=_;rw[E,QE];rfl
     ·show j5 a (c,x);unfold j5;dsimp only;rw[l];exact⟨⟨⟨g,rfl⟩,lA (by show c.length<=1000;omega)⟩,⟨g,rfl⟩,by show(aU r x).isSome=true;rw[o];rfl⟩
     ·dsimp only;rw[st];exact C
theorem Rw{F:U bY}(f:Rs n_ F)(l:n_.length<64)(fo:Fo F){s e:AJ}(hs:s∈n_):wj F s e/\(∀p,fj F s e=Z p->Tr F s p e/\p.Nodup)/\(fj F s e=Y->¬ wW F s e):=by
 have d:=fo.ne;have H:Iq F s [s] [(s,Y)]:=⟨.base,λx hx=>hx,zk _,λx hx u=>absurd hx u⟩;obtain⟨L,i,G,j⟩:=outer f hs l d 70 [s] [(s,Y)] H (by show n_.length-1+1<70;omega);have I:0<n_.length:=List.length_pos_of_mem hs;obtain⟨f1,f2,C⟩:=i.b.facts f hs;have J:=i.b.len f hs;have n:∀{p:U bY} {x y:AJ},Tr F x p y->x∈L.map (·.1)->y∈L.map (·.1):=by
  intro p
  induction p with
  |nil=>intro x y h hx;cases h;exact hx
  |cons r p D=>
   intro x y h hx;obtain⟨m,t,o,h⟩:=h;exact D h (i.cl x hx (λz=>by cases z) r m t o)
 unfold wj fj;dsimp only;rw[G];by_cases a:e∈L.map (·.1)
 ·have c:(!has L e)=false:=by rw[mG.mpr a];rfl
  obtain⟨w,t1,t2,t3,K,E⟩:=back d i.b f1 e a;obtain⟨g,B⟩:=E L (λk v=>⟨rfl,mG.mpr v⟩) 70 [] (by omega) (by show 0+_<=100;omega);have tb:jy L e=w:=by
   unfold jy;dsimp only;rw[g];rfl
  have A:qF L e:=by
   unfold qF;dsimp only;rw[g];exact⟨B,trivial⟩
  refine⟨⟨j,λ_=>A⟩,λp hp=>?_,λh=>?_⟩
  ·have hp:(if(!has L e)=true then Y else(Z (jy L e).reverse))=Z p:=hp;rw[c,zC (by decide),tb]at hp;cases hp;exact⟨t1.rev d,(List.reverse_perm w).nodup_iff.mpr t2⟩
  ·have h:(if(!has L e)=true then Y else(Z (jy L e).reverse))=Y:=h;rw[c,zC (by decide)]at h;cases h
 ·have c:(!has L e)=true:=by
   cases q:has L e with
   |false=>rfl
   |true=>exact absurd (mG.mp q) a
  refine⟨⟨j,λz=>?_⟩,λp hp=>?_,λ_ ⟨p,h⟩=>a (n h C)⟩
  ·rw[c]at z;cases z
  ·have hp:(if(!has L e)=true then Y else(Z (jy L e).reverse))=Z p:=hp;rw[c,zo rfl]at hp;cases hp
def CY(xs:U Int)(a:AJ)(at_:Int)(k:Int):AJ:=if(decide (((at' xs 3)%3)=1))=true then(Txt.mul (ch LT (k / (8:Int))) (1+(k%8)))else(((Txt.slice a Y (Z at_))++(ch LT ((k+(at' xs 2))%15)))++(Txt.slice a (Z at_) Y))
theorem yL{α β:Type}(g:β->α):∀(l:U β) (f:U α),l.foldl (λf k=>f++[g k]) f=f++l.map g
 |[],f=>by simp
 |k::l,f=>by rw[qh,yL g l];simp
theorem PC(xs:U Int)(a:Int):∃b at_,cg xs a=(rng 0 a.toNat).map (CY xs b at_):=by
 refine⟨_,_,(yL (CY xs _ _) _ []).trans (JE _)⟩
theorem Uz{a b m c:AJ}(h:(a++m)++b=(a++c)++b):m=c:=by
 have h:=congrArg (λs:AJ=>s.cps.toList) h;have h:((a.cps++m.cps)++b.cps).toList=((a.cps++c.cps)++b.cps).toList:=h;simp only[Array.toList_append]at h;have:=List.append_cancel_left (List.append_cancel_right h);cases m;cases c;congr 1;exact Array.ext' this
theorem T1:∀i:Fin 30,∀j:Fin 30,Txt.mul (ch LT ((i.val:Int) / 8)) (1+(i.val:Int)%8)=Txt.mul (ch LT ((j.val:Int) / 8)) (1+(j.val:Int)%8)->i=j:=by decide +kernel
theorem bg:∀i:Fin 15,∀j:Fin 15,ch LT (i.val:Int)=ch LT (j.val:Int)->i=j:=by decide +kernel
theorem OM{x y:Int}(hx:0<=x/\x<15)(a:0<=y/\y<15)(h:ch LT x=ch LT y):x=y:=by
 have:=bg ⟨x.toNat,by omega⟩ ⟨y.toNat,by omega⟩ (by
  show ch LT ((x.toNat:Nat):Int)=ch LT ((y.toNat:Nat):Int);rw[KU hx.1,KU a.1];exact h)
 have:=congrArg Fin.val this;have:x.toNat=y.toNat:=this;omega
theorem YI{xs:U Int}{a:AJ}{at_:Int}(hi:i<15)(b:j<15)(h:CY xs a at_ i=CY xs a at_ j):i=j:=by
 unfold CY at h;by_cases e:(decide (((at' xs 3)%3)=1))=true
 ·rw[zo e,zo e]at h;exact congrArg Fin.val (T1 ⟨i,by omega⟩ ⟨j,by omega⟩ h)
 ·rw[zC e,zC e]at h;have:=OM (jl _ (by decide)) (jl _ (by decide)) (Uz h);omega
theorem N2{g:Int->AJ}(h:∀i j:Nat,i<n->j<n->g i=g j->i=j):((rng 0 n).map g).Nodup:=by
 unfold rng;rw[Qr];unfold List.Nodup;rw[yk];refine Ki ?_ (yB (n:=n));intro a b ha hb c e;refine c (h a b (List.mem_range.mp ha) (List.mem_range.mp hb) ?_);have e:g (0+(a:Int))=g (0+(b:Int)):=e;rwa [Int.zero_add,Int.zero_add]at e
theorem NH(xs:U Int)(a:Int)(h:a<=15):(cg xs a).Nodup:=by
 obtain⟨c,at_,e⟩:=PC xs a;rw[e];exact N2 λi j hi b=>YI (by omega) (by omega)
def Lw(c:Nat):Prop:=97<=c/\c<=122
def Nm(s:AJ):Prop:=1<=s.length/\s.length<=8/\∀c∈cs s,Lw c
theorem YN{c:Nat}(h:Lw c):c∈cs LT:=by
 have:∀i:Fin 26,97+i.val∈cs LT:=by decide +kernel
 have:=this ⟨c-97,by unfold Lw at h;omega⟩;unfold Lw at h;rwa [show 97+(c-97)=c by omega]at this
theorem NQ{s:AJ}(h:Nm s):d9 (.str s)=true:=by
 unfold d9 jU;rw[show qm (.str s)=true from rfl,show Mp (.str s)=(s.length:Int) from rfl,ZA (show(1:Int)<=s.length by have:=h.1;omega),ZA (show(s.length:Int)<=8 by have:=h.2.1;omega)];show List.all _ id=true;rw[qB];intro b hb;obtain⟨d,e,rfl⟩:=List.mem_map.mp hb;obtain⟨c,a,rfl⟩:=List.mem_map.mp (show d∈P1.BF s from e);exact XJ (YN (h.2.2 c a))
theorem U'(c:Nat)(n:Int)(h:1<=n):cs (Txt.mul ⟨#[c]⟩ n)=List.replicate n.toNat c:=by
 unfold Txt.mul;split
 ·omega
 split
 ·rename_i h;simp only[Bool.or_eq_true,beq_iff_eq]at h;rcases h with h|h
  ·subst h;rfl
  ·cases h
 ·have:∀(k:Nat) (a:Array Nat),((List.replicate k (#[c]:Array Nat)).foldl (·++·) a).toList=a.toList++List.replicate k c:=by
   intro k
   induction k with
   |zero=>intro a;simp
   |succ k b=>
    intro a;rw[k8,qh,b,Array.toList_append,k8];simp
  exact(this _ _).trans (by simp)
theorem I0{i:Int}(h:0<=i/\i<26):ch LT i=⟨#[97+i.toNat]⟩:=by
 have:∀i:Fin 26,ch LT (i.val:Int)=⟨#[97+i.val]⟩:=by decide +kernel
 have:=this ⟨i.toNat,by omega⟩;rwa [show((⟨i.toNat,by omega⟩:Fin 26).val:Int)=i by show(i.toNat:Int)=i;omega]at this
theorem Sa{i n:Int}(h:0<=i/\i<26)(h1:1<=n)(b:n<=8):Nm (Txt.mul (ch LT i) n):=by
 have e:=U' (97+i.toNat) n h1;rw[<-I0 h]at e;refine⟨?_,?_,λc a=>?_⟩
 ·rw[vV,e,List.length_replicate];omega
 ·rw[vV,e,List.length_replicate];omega
 ·rw[e]at a;rw[(List.mem_replicate.mp a).2];unfold Lw;omega
theorem Oy{l:An}{c:Nat}(h:c∈cs (Txt.join "" l)):∃q∈l,c∈cs q:=by
 cases l with
 |nil=>cases h
 |cons p ps=>
  rw[SF]at h;rcases List.mem_append.mp h with h|h
  ·exact⟨p,zi ..,h⟩
  ·obtain⟨q,a,h⟩:=List.mem_flatMap.mp h;exact⟨q,zh _ a,h⟩
theorem Kw(xs:U Int)(e:Int):∃(b:AJ) (at_:Int),(∀c∈cs b,Lw c)/\b.length<=5/\0<=at_/\at_<=(b.length:Int)/\cg xs e=(rng 0 e.toNat).map (CY xs b at_):=by
 have g:=jl (at' xs 0) (m:=6) (by decide);have mem:∀x∈((rng 0 (at' xs 0%6).toNat).map λa:Int=>ch LT (at' xs a / 40%26)),x.length=1/\∀c∈cs x,Lw c:=λx hx=>by
  obtain⟨k,_,rfl⟩:=List.mem_map.mp hx;refine⟨yq _ _,λc d=>?_⟩;rw[I0 (jl _ (by decide))]at d;cases List.mem_singleton.mp d;have:=jl (at' xs k / 40) (m:=26) (by decide);unfold Lw;omega
 refine⟨Txt.join "" ((rng 0 (at' xs 0%6).toNat).map λa:Int=>ch LT (at' xs a / 40%26)),at' xs 1%(((Txt.join "" ((rng 0 (at' xs 0%6).toNat).map λa:Int=>ch LT (at' xs a / 40%26))).length:Int)+1),λc d=>?_,?_,?_,?_,(yL (CY xs _ _) _ []).trans (JE _)⟩
 ·obtain⟨q,f,h⟩:=Oy d;exact(mem q f).2 c h
 ·have:=L9 _ 1 λx hx=>Nat.le_of_eq (mem x hx).1;rw[zl,zU]at this;omega
 ·exact(jl _ (by omega)).1
 ·have:=(jl (at' xs 1) (m:=((Txt.join "" ((rng 0 (at' xs 0%6).toNat).map λa:Int=>ch LT (at' xs a / 40%26))).length:Int)+1) (by omega)).2;omega
theorem MX{xs:U Int}{a:AJ}{at_:Int}(h1:∀c∈cs a,Lw c)(h2:a.length<=5)(h:0<=at_)(j:at_<=(a.length:Int)){k:Int}(l:0<=k/\k<15):Nm (CY xs a at_ k):=by
 unfold CY;split
 ·exact Sa (by omega) (by omega) (by omega)
 ·have g:=QC (x:=a) (n:=at_.toNat) (by omega);have f:=Qz (x:=a) (n:=at_.toNat) (by omega);rw[KU h]at g f;have c1:=I0 (i:=(k+at' xs 2)%15) (by have:=jl (k+at' xs 2) (m:=15) (by decide);omega);have m:=jl (k+at' xs 2) (m:=15) (by decide);have e:cs ((Txt.slice a Y (Z at_)++ch LT ((k+at' xs 2)%15))++Txt.slice a (Z at_) Y)=((cs a).take at_.toNat++[97+((k+at' xs 2)%15).toNat])++(cs a).drop at_.toNat:=by
   rw[MN,MN,g,f,c1]
  have d:((Txt.slice a Y (Z at_)++ch LT ((k+at' xs 2)%15))++Txt.slice a (Z at_) Y).length=a.length+1:=by
   rw[vV,e,z5,z5,kg,kX,<-vV];show _+1+_=_;omega
  refine⟨by rw[d];omega,by rw[d];omega,λc b=>?_⟩;rw[e]at b;rcases List.mem_append.mp b with b|b
  ·rcases List.mem_append.mp b with b|b
   ·exact h1 c (List.mem_of_mem_take b)
   ·cases List.mem_singleton.mp b;unfold Lw;omega
  ·exact h1 c (List.mem_of_mem_drop b)
theorem YE(xs:U Int)(a:Int)(h:a<=15):∀n∈cg xs a,Nm n:=by
 obtain⟨g,at_,h1,h2,b,c,e⟩:=Kw xs a;rw[e];intro n d;obtain⟨k,f,rfl⟩:=List.mem_map.mp d;obtain⟨j,i,rfl⟩:=MK f;exact MX h1 h2 b c (by omega)
def z7:AJ:=("zzzzzzz":AJ)
theorem MA:∀(n:Nat) (l:U Nat),l.length<n->(∀c∈l,c<=122)->l<List.replicate n 122
 |0,_,h,_=>by omega
 |n+1,[],_,_=>List.nil_lt_cons ..
 |n+1,c::l,h,hc=>by
  rw[k8,List.cons_lt_cons_iff];have h1:=hc c (zi ..);by_cases e:c=122
  ·exact .inr ⟨e,MA n l (by simpa using h) λx hx=>hc x (zh _ hx)⟩
  ·exact .inl (by omega)
theorem aa{s:AJ}(h:s.length<=6)(a:∀c∈cs s,Lw c):mQ s z7=true:=by
 unfold mQ;refine ZA ?_;have e:z7.cps.toList=List.replicate 7 122:=by decide +kernel
 rw[e];refine MA 7 _ ?_ λc h=>(a c h).2;have:s.cps.toList.length=s.length:=rfl;omega
theorem SI:∀i:Fin 7,mQ (Txt.mul (ch LT ((i.val:Int) / 8)) (1+(i.val:Int)%8)) z7=true:=by decide +kernel
theorem dC(xs:U Int)(a:Int)(h:a<=7):∀n∈cg xs a,mQ n z7=true:=by
 obtain⟨b,at_,h1,h2,c,g,e⟩:=Kw xs a;rw[e];intro n i;obtain⟨k,l,rfl⟩:=List.mem_map.mp i;obtain⟨j,m,rfl⟩:=MK l;have nm:=MX (xs:=xs) h1 h2 c g (k:=(j:Int)) (by omega);by_cases e:(decide (((at' xs 3)%3)=1))=true
 ·unfold CY;rw[zo e];exact SI ⟨j,by omega⟩
 ·refine aa ?_ nm.2.2;unfold CY;rw[zC e,oA,oA,yq];have f:=QC (x:=b) (n:=at_.toNat) (by omega);have d:=Qz (x:=b) (n:=at_.toNat) (by omega);rw[KU c]at f d;rw[vV,vV,f,d,kg,kX,<-vV];omega
theorem NT{a b:Int}(ha:0<=a/\a<n)(hb:0<=b/\b<n):In n (if b<a then b else a):=by split<;>exact BE (by omega) (by omega)
theorem NZ{a b:Int}(ha:0<=a/\a<n)(hb:0<=b/\b<n):In n (if b>a then b else a):=by split<;>exact BE (by omega) (by omega)
theorem Wh{a:Int}(b:n=a.toNat){x y:Int}(h:(!decide (x%(if a>1 then a else 1)=y%(if a>1 then a else 1)))=true):(0<=x%(if a>1 then a else 1)/\x%(if a>1 then a else 1)<n)/\(0<=y%(if a>1 then a else 1)/\y%(if a>1 then a else 1)<n):=by
 by_cases e:a>1
 ·rw[zo e]at h ⊢;have h1:=jl x (m:=a) (by omega);have h2:=jl y (m:=a) (by omega);omega
 ·rw[zC e]at h;simp at h
theorem Rx{a:Int}:0<(if a>1 then a else 1):=by split<;>omega
def RT(r:bY):Prop:=((-1000:Int)<=r.1/\r.1 ≤ -1)/\mQ r.2.1 r.2.2.1=true/\0<=r.2.2.2
theorem Nd(c:n_.Pairwise λa b=>mQ a b=true){i j:Int}(h0:0<=i)(h1:i<j)(h2:j<n_.length):mQ (at' n_ i) (at' n_ j)=true:=by
 obtain⟨a,rfl⟩:∃a:Nat,i=(a:Int):=⟨i.toNat,by omega⟩;obtain⟨b,rfl⟩:∃b:Nat,j=(b:Int):=⟨j.toNat,by omega⟩;rw[Mx n_ a (by omega),Mx n_ b (by omega)];exact List.pairwise_iff_getElem.mp c a b (by omega) (by omega) (by omega)
theorem Yd(f:U Int)(at_ d:Int)(C:0<=at_)(a1:at_<=500)(g:U Int)(D:6<=g.length)(n_:An)(t:n_.length=d.toNat)(k:Nat)(A:k<60)(e:U bY)(q:n_.Pairwise λa b=>mQ a b=true)(h:e.length<=k/\Rs n_ e/\∀r∈e,RT r):
  iM f at_ d g n_ e k/\(cY f at_ d g n_ e k).length<=k+1/\Rs n_ (cY f at_ d g n_ e k)/\∀r∈cY f at_ d g n_ e k,RT r:=by
 obtain⟨s,n,z⟩:=Ny (bH f ((at_+1)+k)) 4 (by decide) (by decide);have n:(bD (bH f ((at_+1)+k)) 4).length=4:=n;unfold iM cY;dsimp only;generalize bD (bH f ((at_+1)+k)) 4=xs at *
 have p:=λx y=>Wh (x:=x) (y:=y) t;have o:=@Rx d;generalize (if d>1 then d else 1)=mm at *
 have j:∀i:Nat,i<4->In xs.length (i:Int):=λi hi=>Mz (by omega);refine⟨⟨⟨Nx _ _ (by omega) (by omega),s⟩,⟨⟨j 0 (by decide),o⟩,j 1 (by decide),o⟩,⟨⟨⟨j 2 (by decide),j 2 (by decide),j 2 (by decide)⟩,BE (by decide) (by omega)⟩,tO (by decide) (Int.le_refl 3)⟩,λl=>?_⟩,?_⟩
 ·have:=p _ _ l;exact⟨⟨NT this.1 this.2,NZ this.1 this.2,j 3 (by decide),tO (by decide) (by decide)⟩,lA (by omega)⟩
 ·split
  ·rename_i l;have:=p _ _ l;refine⟨by rw[z5];show _+1<=_;omega,λr c=>?_,λr c=>?_⟩
   ·rcases List.mem_append.mp c with c|c
    ·exact h.2.1 r c
    ·cases List.mem_singleton.mp c;exact⟨tM (NT this.1 this.2),tM (NZ this.1 this.2)⟩
   ·rcases List.mem_append.mp c with c|c
    ·exact h.2.2 r c
    ·cases List.mem_singleton.mp c;have w:=tM (xs:=[1+at' xs 2%3,1+at' xs 2%9,1+at' xs 2%1000]) (i:=at' g 4%3) (tO (by decide) (Int.le_refl 3));have u:=tM (xs:=[(0:Int),(2:Int),(10:Int)]) (i:=at' xs 3%3) (tO (by decide) (Int.le_refl 3));have B:=jl (at' xs 2) (m:=3) (by decide);have v:=jl (at' xs 2) (m:=9) (by decide);have bk:=jl (at' xs 2) (m:=1000) (by decide);simp only[jI,JS,or_false]at w u;have l:at' xs 0%mm≠at' xs 1%mm:=by simpa using l
     refine⟨?_,?_,?_⟩
     ·show _<=0 - _/\(0:Int) - _<=_;omega
     ·show mQ (at' n_ _) (at' n_ _)=true;split<;>split<;>first|exact Nd q (by omega) (by omega) (by omega)|(exfalso;omega)
     ·show 0<=at' _ _;omega
  ·exact⟨by omega,h.2⟩
theorem Ye(c:U Int)(at_ a:Int)(q:0<=at_)(a1:at_<=500)(n_:An)(o:n_.length=a.toNat)(k:Nat)(s:k<60)(e:U (AJ×AJ×Int))(h:e.length<=k/\∀b∈e,b.1∈n_/\b.2.1∈n_):
  iQ c at_ a n_ e k/\(dO c at_ a n_ e k).length<=k+1/\∀b∈dO c at_ a n_ e k,b.1∈n_/\b.2.1∈n_:=by
 obtain⟨n,l,p⟩:=Ny (bH c ((at_+1)+k)) 8 (by decide) (by decide);have l:(bD (bH c ((at_+1)+k)) 8).length=8:=l;unfold iQ dO;dsimp only;generalize bD (bH c ((at_+1)+k)) 8=xs at *
 have m:=λx y=>Wh (x:=x) (y:=y) o;have j:=@Rx a;generalize (if a>1 then a else 1)=mm at *
 have f:∀i:Nat,i<8->In xs.length (i:Int):=λi hi=>Mz (by omega);refine⟨⟨⟨Nx _ _ (by omega) (by omega),n⟩,⟨⟨f 5 (by decide),j⟩,f 6 (by decide),j⟩,λg=>?_⟩,?_⟩
 ·have:=m _ _ g;exact⟨⟨NT this.1 this.2,NZ this.1 this.2,f 7 (by decide),tO (by decide) (by decide)⟩,lA (by omega)⟩
 ·split
  ·rename_i g;have:=m _ _ g;refine⟨by rw[z5];show _+1<=_;omega,λr d=>?_⟩;rcases List.mem_append.mp d with d|d
   ·exact h.2 r d
   ·cases List.mem_singleton.mp d;exact⟨tM (NT this.1 this.2),tM (NZ this.1 this.2)⟩
  ·exact⟨by omega,h.2⟩
structure Gr (g:An×(List bY)×(List (Str×Str×Int))):Prop where
 nd:g.1.Nodup
 len:g.1.length<=7
 rs:Rs g.1 g.2.1
 rl:g.2.1.length<=10
 so:g.1.Pairwise JN
 nm:∀n∈g.1,Nm n
 va:∀r∈g.2.1,(1<=r.1/\r.1<=1000)/\mQ r.2.1 r.2.2.1=true/\0<=r.2.2.2
 os:So g.2.1
 zz:∀n∈g.1,mQ n z7=true
theorem Rs.turn{rs:U bY}(h:Rs n_ rs):Rs n_ (rs.map λa:(Int×AJ×AJ×Int)=>(((0:Int)-a.1),a.2.1,a.2.2.1,a.2.2.2)):=λr b=>by
 obtain⟨q,c,rfl⟩:=List.mem_map.mp b;exact h q c
theorem RA{rs:U bY}(h:∀r∈rs,RT r):∀r∈(rs.map λa:(Int×AJ×AJ×Int)=>(((0:Int)-a.1),a.2.1,a.2.2.1,a.2.2.2)),(1<=r.1/\r.1<=1000)/\mQ r.2.1 r.2.2.1=true/\0<=r.2.2.2:=λr b=>by
 obtain⟨q,e,rfl⟩:=List.mem_map.mp b;obtain⟨f,c,d⟩:=h q e;exact⟨⟨show(1:Int)<=0-q.1 by omega,show(0:Int)-q.1<=1000 by omega⟩,c,d⟩
theorem Kz(g:U Int)(at_ c j i:Int)(t:0<=at_)(a1:at_<=500)(D:0<=c)(H:c<=7)(J:0<=j)(r1:j<=10)(b0:0<=i)(b1:i<60):mz g at_ c j i/\Gr (cG g at_ c j i):=by
 obtain⟨E,p,L⟩:=Ny (bH g at_) 6 (by decide) (by decide);have p:(bD (bH g at_) 6).length=6:=p;have z:∀d:U Int,6<=d.length->oY g at_ c j i d/\Gr (oX g at_ c j i d):=λd w=>by
  obtain⟨F,u,K⟩:=af d w c D (by omega);have knd:=NH d c (by omega);have o:(xJ (cg d c)).length=c.toNat:=by rw[(qp _).length_eq,u]
  have m:(xJ (cg d c)).Nodup:=(qp _).nodup_iff.mpr knd;have I:∀n_:An,n_.length=c.toNat->n_.Nodup->n_.Pairwise JN->(∀n∈n_,Nm n)->(∀n∈n_,mQ n z7=true)->oW g at_ c j i d n_/\Gr (oV g at_ c j i d n_):=λn_ o m v nm C=>by
   have x:n_.Pairwise λa b=>mQ a b=true:=(v.and m).imp λh=>(BQ _ _).mpr h;obtain⟨t1,t2,t3⟩:=zV (P:=λf k=>Z (iM g at_ c d n_ f k)) (step:=λf k=>cY g at_ c d n_ f k) (λk s=>s.length<=k/\Rs n_ s/\∀r∈s,RT r) j.toNat [] ⟨zk 0,λr h=>(by cases h),λr h=>(by cases h)⟩ λk s B h=>Yd g at_ c t a1 d w n_ o k (by omega) s x h;obtain⟨G,A,N⟩:=zV (P:=λf k=>Z (iQ g at_ c n_ f k)) (step:=λf k=>dO g at_ c n_ f k) (λk s=>s.length<=k/\∀b∈s,b.1∈n_/\b.2.1∈n_) i.toNat [] ⟨zk 0,λr h=>(by cases h)⟩ λk s B h=>Ye g at_ c t a1 n_ o k (by omega) s h;have sl:=Nat.lt_of_le_of_lt A (show i.toNat<64 by omega);have y:∀l:U bY,l.length<=j.toNat->(Rs n_ l/\∀r∈l,RT r)->oU g at_ c j i d n_ l/\Gr (oR g at_ c j i d n_ l):=λl tl ⟨tr,tv⟩=>by
    have M:=Mh l;have sp:=(kE (e:=Xz eI eS eS eI) (Ip l)).length_eq;refine⟨⟨⟨⟨by omega,by omega⟩,by rw[sp];omega⟩,⟨Qy b0 (by omega),G⟩,j0 sl,sl⟩,m,?_,?_,?_,v,nm,RA λr q=>tv r (tH.mp ((kE _).mem_iff.mp q)),?_,C⟩
    ·show n_.length<=7;omega
    ·exact Rs.turn λr q=>tr r (tH.mp ((kE _).mem_iff.mp q))
    ·show(List.map _ _).length<=10;rw[zl,sp];omega
    ·unfold So;show(List.map tn (List.map tn (pB (Xz eI eS eS eI) (Ip l)))).Pairwise _;rw[HN];exact tL _
   have:=y _ t2 t3;exact⟨⟨⟨Qy J (by omega),t1⟩,this.1⟩,this.2⟩
  have mem:∀n,n∈xJ (cg d c)->n∈cg d c:=λn h=>(qp _).mem_iff.mp h;have:=I _ o m (FP _) (λn h=>YE d c (by omega) n (mem n h)) λn h=>dC d c H n (mem n h);exact⟨⟨⟨F,by rw[u];omega⟩,this.1⟩,this.2⟩
 have:=z _ (Nat.le_of_eq p.symm);exact⟨⟨⟨Nx _ _ t (by omega),E⟩,this.1⟩,this.2⟩
structure Gs (N:An) (R:List bY):Prop where
 nd:N.Nodup
 len:N.length<=7
 rs:Rs N R
 rl:R.length<=10
 nm:∀n∈N,Nm n
 va:∀r∈R,(1<=r.1/\r.1<=1000)/\mQ r.2.1 r.2.2.1=true/\0<=r.2.2.2
 os:So R
theorem Gr.gs{g:cR}(s:Gr g):Gs g.1 g.2.1:=⟨s.nd,s.len,s.rs,s.rl,s.nm,s.va,s.os⟩
def nn(k:Int):AJ:=("zzzzzzz":AJ)++(ch ("abcdefg":AJ) k)
theorem bz:∀i:Fin 7,(nn (i.val:Int)).length=8/\(cs (nn (i.val:Int))).all (λc=>decide (97<=c)&&decide (c<=122))=true:=by decide +kernel
theorem Wl:∀i:Fin 7,mQ z7 (nn (i.val:Int))=true:=by decide +kernel
theorem Pi:∀i:Fin 7,∀j:Fin 7,i.val<j.val->mQ (nn (i.val:Int)) (nn (j.val:Int))=true:=by decide +kernel
theorem Ck(a:AJ):mQ a a=false:=by
 cases h:mQ a a with
 |false=>rfl
 |true=>exact absurd Δ ((BQ a a).mp h).2
theorem Er{a b:AJ}(h:mQ a b=true):mQ b a=false:=by
 cases h':mQ b a with
 |false=>rfl
 |true=>have:=K' _ _ _ h h';rw[Ck]at this;cases this
theorem MS(a b:AJ):mQ a b=true\/a=b\/mQ b a=true:=by
 by_cases e:a=b
 ·exact .inr (.inl e)
 ·cases h:mQ a b with
  |true=>exact .inl rfl
  |false=>
   refine .inr (.inr ((BQ _ _).mpr ⟨?_,λz=>e z.symm⟩));unfold mQ at h;unfold JN;rw[ltCps_eq];exact h
structure Rn (N:An) (f:Str->Str):Prop where
 mo:∀x∈N,∀y∈N,mQ x y=true->mQ (f x) (f y)=true
theorem Rn.inj{N:An}{f:AJ->AJ}(h:Rn N f){x y:AJ}(hx:x∈N)(a:y∈N)(e:f x=f y):x=y:=by
 rcases MS x y with z|z|z
 ·have:=h.mo x hx y a z;rw[e,Ck]at this;cases this
 ·exact z
 ·have:=h.mo y a x hx z;rw[e,Ck]at this;cases this
theorem Rn.eq{f:AJ->AJ}(h:Rn N f)(hx:x∈N)(a:y∈N):mQ (f x) (f y)=mQ x y:=by
 rcases MS x y with z|z|z
 ·rw[z,h.mo x hx y a z]
 ·rw[z,Ck,Ck]
 ·rw[Er z,Er (h.mo y a x hx z)]
def r4(f:AJ->AJ)(q:bY):bY:=(q.1,f q.2.1,f q.2.2.1,q.2.2.2)
theorem N5(x y:AY)(xs ys:U AY):S1.kh (x::xs) (y::ys)=if x=y then S1.kh xs ys else S1.Vm x y:=rfl
theorem MH{f:AJ->AJ}(h:Rn N f)(hx:x∈N)(a:y∈N){xs ys b c:U AY}(e:S1.kh xs ys=S1.kh b c):S1.kh (.inr (f x)::xs) (.inr (f y)::ys)=S1.kh (.inr x::b) (.inr y::c):=by
 rw[N5,N5,e];by_cases q:x=y
 ·rw[q,zo rfl,zo rfl]
 ·rw[zC λz=>q (h.inj hx a (Sum.inr.inj z)),zC λz=>q (Sum.inr.inj z)];exact h.eq hx a
theorem Se{f:AJ->AJ}(h:Rn N f){R:U bY}(c:Rs N R)(s:So R):So (R.map (r4 f)):=by
 unfold So at *
 rw[yk]at s ⊢;rw[yk];refine s.imp_of_mem λ{a b} ha hb z=>?_;obtain⟨a1,a2⟩:=c a ha;obtain⟨b1,b2⟩:=c b hb;show(!S1.kh [.inl (0-b.1),.inr (f b.2.1),.inr (f b.2.2.1),.inl b.2.2.2] [.inl (0-a.1),.inr (f a.2.1),.inr (f a.2.2.1),.inl a.2.2.2])=true;have z:(!S1.kh [.inl (0-b.1),.inr b.2.1,.inr b.2.2.1,.inl b.2.2.2] [.inl (0-a.1),.inr a.2.1,.inr a.2.2.1,.inl a.2.2.2])=true:=z;rw[N5]at z ⊢;rw[MH h b1 a1 (MH h b2 a2 Δ)];exact z
theorem Md{xs:U α}{k:Nat}{q:Int×α}(h:(jo 0 xs)[k]?=Z q):q.1=(k:Int)/\xs[k]?=Z q.2:=by
 unfold jo at h;rw[List.getElem?_zipWith]at h;cases h1:(List.range xs.length)[k]? with
 |none=>rw[h1]at h;cases h
 |some a=>
  cases h2:xs[k]? with
  |none=>rw[h1,h2]at h;cases h
  |some b=>
   rw[h1,h2]at h;cases h;have:=List.getElem?_eq_some_iff.mp h1;obtain⟨d,c⟩:=this;rw[List.getElem_range]at c;subst c;exact⟨Int.zero_add _,rfl⟩
theorem UG(xs:U α):(jo 0 xs).map (·.2)=xs:=by
 unfold jo;rw[List.map_zipWith];refine List.ext_getElem? λk=>?_;rw[List.getElem?_zipWith];cases h2:xs[k]? with
 |none=>cases(List.range xs.length)[k]?<;>rfl
 |some b=>
  have:=(List.getElem?_eq_some_iff.mp h2).1;rw[KS this]
theorem Yg{g:cR}(s:Gr g):mC g/\Gs (dJ g).1 (dJ g).2.1/\∀n∈(dJ g).1,mQ z7 n=true:=by
 have B:=s.len;have M:=s.rl;have A:g.1.Pairwise λa b=>mQ a b=true:=(s.so.and s.nd).imp λh=>(BQ _ _).mpr h;have el:(jo 0 g.1).length=g.1.length:=by have:=congrArg List.length (UG g.1);rwa [zl]at this
 have L:(jo 0 g.1).foldl (λ(m:(U (AJ×AJ))) (q2:MP)=>(fX m q2)) []=(jo 0 g.1).map λq=>(q.2,nn q.1):=by
  have:=Nz ((jo 0 g.1).map λq=>(q.2,nn q.1)) [] (by
   rw[JE,Qr];show((jo 0 g.1).map (·.2)).Nodup;rw[UG];exact s.nd)
  rw[JE,List.foldl_map]at this;exact this
 obtain⟨f1,-⟩:=Mw (P:=λv x=>Z (oZ v x)) (step:=λv x=>fX v x) (λk v=>v.length<=k) (jo 0 g.1) 0 ([]:U (AJ×AJ)) (zk 0) λk q v e h=>by
  have f:=(List.getElem?_eq_some_iff.mp e).1;obtain⟨e1,e2⟩:=Md e;rw[el]at f;rw[KA]at h ⊢;refine⟨⟨⟨by rw[e1];exact Mz (by show k<7;omega),lA (by rw[yq];decide +kernel)⟩,by omega⟩,?_⟩;show(put v q.2 _).length<=k+1;unfold put;split
  ·rw[zl];omega
  ·rw[z5];show _+1<=_;omega
 unfold mC dJ;dsimp only;rw[L];have w:((jo 0 g.1).map λq=>(q.2,nn q.1)).map (·.1)=g.1:=by
  rw[Qr];exact UG g.1
 have t:∀x∈g.1,has ((jo 0 g.1).map λq=>(q.2,nn q.1)) x=true:=λx hx=>mG.mpr (by rw[w];exact hx);have D:∀(k:Nat) (f:k<g.1.length),look ((jo 0 g.1).map λq=>(q.2,nn q.1)) g.1[k]=nn (k:Int):=λk f=>by
  have e:=Zl (l:=jo 0 g.1) (i:=k) (by omega);obtain⟨e1,e2⟩:=Md e;have e3:g.1[k]=((jo 0 g.1)[k]'(by omega)).2:=QY ((Zl f).symm.trans e2);rw[e3,<-e1];exact Av (q:=(((jo 0 g.1)[k]'(by omega)).2,nn ((jo 0 g.1)[k]'(by omega)).1)) (by rw[w];exact s.nd) (List.mem_map.mpr ⟨_,KL _,rfl⟩)
 generalize ((jo 0 g.1).map λq=>(q.2,nn q.1))=m at *
 have at_:∀x∈g.1,∃k:Fin 7,∃f:k.val<g.1.length,x=g.1[k.val]/\look m x=nn (k.val:Int):=λx hx=>by
  obtain⟨k,f,rfl⟩:=Q3 hx;exact⟨⟨k,by omega⟩,f,rfl,D k f⟩
 have p:Rn g.1 (look m):=⟨λx hx y G h=>by
  obtain⟨i,hi,e1,e2⟩:=at_ x hx;obtain⟨j,H,e3,J⟩:=at_ y G;rw[e2,J];refine Pi i j ?_;rcases Nat.lt_trichotomy i.val j.val with z|z|z
  ·exact z
  ·have:x=y:=by rw[e1,e3];simp only[z]
   rw[this,Ck]at h;cases h
  ·have:=List.pairwise_iff_getElem.mp A j.val i.val H hi z;rw[<-e1,<-e3]at this;rw[Er this]at h;cases h⟩
 refine⟨⟨f1,⟨by omega,λq d=>⟨t _ (s.rs q d).1,t _ (s.rs q d).2⟩⟩,by omega,t⟩,⟨?_,by rw[zl];exact B,λr o=>?_,by rw[zl];exact M,λn u=>?_,λr o=>?_,Se p s.rs s.os⟩,λn u=>?_⟩
 ·unfold List.Nodup;rw[yk];exact Ki (λha hb z e=>z (p.inj ha hb e)) s.nd
 ·obtain⟨q,d,rfl⟩:=List.mem_map.mp o;exact⟨List.mem_map.mpr ⟨_,(s.rs q d).1,rfl⟩,List.mem_map.mpr ⟨_,(s.rs q d).2,rfl⟩⟩
 ·obtain⟨x,hx,rfl⟩:=List.mem_map.mp u;obtain⟨i,hi,e1,e2⟩:=at_ x hx;obtain⟨N,C⟩:=bz i;rw[e2];refine⟨by omega,by omega,λc E=>?_⟩;have:=List.all_eq_true.mp C c E;simpa[Lw]using this
 ·obtain⟨q,d,rfl⟩:=List.mem_map.mp o;obtain⟨F,I,K⟩:=s.va q d;exact⟨F,p.mo _ (s.rs q d).1 _ (s.rs q d).2 I,K⟩
 ·obtain⟨x,hx,rfl⟩:=List.mem_map.mp u;obtain⟨i,hi,e1,e2⟩:=at_ x hx;rw[e2];exact Wl i
theorem LG(r:bY):aU r r.2.1=Z r.2.2.1:=by
 unfold aU;rw[ZA rfl,zo rfl]
theorem wW.more{F G:U bY}(h:∀r∈F,r∈G):wW F x y->wW G x y:=λ⟨p,t⟩=>⟨p,t.mono λz a=>h z (t.mem z a)⟩
theorem IN(d:N.Nodup)(j:N.length<1000){rs:U bY}:Rs N rs->(∀r∈rs,r.2.1≠r.2.2.1)->∀x∈N,∀y∈N,look (hb N rs) x=look (hb N rs) y->wW rs x y:=by
 induction rs using BH with
 |h0=>
  intro _ _ x hx y a h;have e:hb N []=aW N:=rfl;rw[e,(rM N d j).2,qg d hx,qg d a]at h;exact⟨[],h⟩
 |h1 rs r c=>
  intro i g x hx y a h;have m:Rs N rs:=λz b=>i z (zt _ b);have c:=c m λz b=>g z (zt _ b);have H:=Hd.hb d j m;have n:r∈rs++[r]:=by simp
  obtain⟨s,q⟩:=i r n;rw[wU]at h;unfold jb at h;rw[H.qI hx,H.qI a]at h;have f:∀{u v:AJ},wW rs u v->wW (rs++[r]) u v:=wW.more λz b=>zt _ b;have p:wW (rs++[r]) r.2.1 r.2.2.1:=⟨[r],n,_,LG r,rfl⟩;have o:∀u∈N,look (hb N rs) u=look (hb N rs) r.2.1\/look (hb N rs) u=look (hb N rs) r.2.2.1->wW (rs++[r]) u r.2.1:=λu l z=>by
   rcases z with z|z
   ·exact f (c u l _ s z)
   ·exact(f (c u l _ q z)).trans (p.symm g)
  by_cases px:look (hb N rs) x=look (hb N rs) r.2.1\/look (hb N rs) x=look (hb N rs) r.2.2.1<;>by_cases py:look (hb N rs) y=look (hb N rs) r.2.1\/look (hb N rs) y=look (hb N rs) r.2.2.1
  ·exact(o x hx px).trans ((o y a py).symm g)
  ·unfold jn at h;rw[zo px,zC py]at h;rcases HF (look (hb N rs) r.2.1) (look (hb N rs) r.2.2.1)with e|e
   ·exact absurd (.inl (h.symm.trans e)) py
   ·exact absurd (.inr (h.symm.trans e)) py
  ·unfold jn at h;rw[zC px,zo py]at h;rcases HF (look (hb N rs) r.2.1) (look (hb N rs) r.2.2.1)with e|e
   ·exact absurd (.inl (h.trans e)) px
   ·exact absurd (.inr (h.trans e)) px
  ·unfold jn at h;rw[zC px,zC py]at h;exact f (c x hx y a h)
theorem Es(b:N.Nodup)(c:N.length<1000){rs:U bY}(a:Rs N rs)(e:∀r∈rs,r.2.1≠r.2.2.1)(hx:x∈N)(d:y∈N):look (hb N rs) x=look (hb N rs) y↔wW rs x y:=
 ⟨IN b c a e x hx y d,λ⟨_,t⟩=>HJ b c a t⟩
theorem Cp:∀(rs:U bY) (s:(U (AJ×AJ))×(U bY)),∃t:U bY,(rs.foldl hs s).2=s.2++t/\t.Sublist rs
 |[],s=>⟨[],by rw[ZU];rfl,.slnil⟩
 |r::rs,s=>by
  rw[qh];by_cases z:look s.1 r.2.1=look s.1 r.2.2.1
  ·rw[show hs s r=s from zo z];obtain⟨t,e,h⟩:=Cp rs s;exact⟨t,e,h.cons _⟩
  ·rw[show hs s r=(jb s.1 r,s.2++[r]) from zC z];obtain⟨t,e,h⟩:=Cp rs (jb s.1 r,s.2++[r]);exact⟨r::t,by rw[e];simp,h.cons_cons _⟩
theorem sZ(N:An)(rs:U bY):(held N rs).Sublist rs:=by
 obtain⟨t,e,h⟩:=Cp rs (aW N,[]);unfold held;rw[e];exact h
theorem N6{S:An}{F:U bY}(c:Sd S F):∀{p:U bY} {x y:AJ},Tr F x p y->x∈S->Tr (F.filter (Wi S)) x p y/\y∈S
 |[],x,y,h,hx=>⟨h,by cases h;exact hx⟩
 |r::p,x,y,⟨m,t,e,h⟩,hx=>by
  rcases c r m with⟨a,b⟩|⟨a,b⟩
  ·have d:t∈S:=by
    rcases jW e with⟨h1,h2⟩|⟨h1,h2⟩
    ·rw[<-h2];exact b
    ·rw[<-h2];exact a
   obtain⟨i1,i2⟩:=N6 c h d;refine⟨⟨List.mem_filter.mpr ⟨m,by unfold Wi;simp[a,b]⟩,t,e,i1⟩,i2⟩
  ·exfalso;rcases jW e with⟨h1,h2⟩|⟨h1,h2⟩
   ·exact a (h1▸hx)
   ·exact b (h1▸hx)
structure Sp (N S:An) (R R1:List bY):Prop where
 nN:N.Nodup
 lN:N.length<64
 nS:S.Nodup
 sub:N.filter (λy=>decide (y∈S))=S
 rs:Rs N R
 sd:Sd S R
 fil:R.filter (Wi S)=R1
variable{R R1:U bY}
theorem Sp.sb(s:Sp N S R R1):∀x∈S,x∈N:=λx hx=>by
 rw[<-s.sub]at hx;exact(List.mem_filter.mp hx).1
theorem Sp.lS(s:Sp N S R R1):S.length<64:=by
 have h:=kF (λy=>decide (y∈S)) N;rw[s.sub]at h;have:=s.lN;omega
theorem Sp.lo(s:Sp N S R R1):Lo N S (hb N R) (hb S R1):=by
 have h1:=s.lN;have h2:=s.lS;have:=XN s.nN s.nS (by omega) (by omega) s.sb s.rs s.sd;rwa [s.fil]at this
theorem Sp.held(s:Sp N S R R1):(held N R).filter (Wi S)=held S R1:=by
 have h1:=s.lN;have h2:=s.lS;have:=OB s.nN s.nS (by omega) (by omega) s.sb s.rs s.sd;rwa [s.fil]at this
theorem Sp.pt(s:Sp N S R R1)(hx:x∈S):pt N (hb N R) x=pt S (hb S R1) x:=GN s.lo s.sub hx
theorem Sp.rs1(s:Sp N S R R1):Rs S R1:=λr a=>by
 rw[<-s.fil]at a;have:=(List.mem_filter.mp a).2;unfold Wi at this;simpa using this
theorem Sp.drop(s:Sp N S R R1)(p:bY->Bool):Sp N S (R.filter p) (R1.filter p):=by
 refine⟨s.nN,s.lN,s.nS,s.sub,λr a=>s.rs r (List.mem_filter.mp a).1,λr a=>s.sd r (List.mem_filter.mp a).1,?_⟩;rw[<-s.fil,Kn,Kn];exact ja λy _=>Bool.and_comm _ _
theorem Sp.sdh(s:Sp N S R R1):Sd S (G17.held N R):=λr a=>s.sd r ((sZ N R).subset a)
theorem Sp.way(s:Sp N S R R1)(hx:x∈S):fj (G17.held N R) x y=fj (G17.held S R1) x y:=by
 obtain⟨-,-,r1,f1,-⟩:=qJ s.nN s.lN s.rs [];obtain⟨-,-,r2,f2,-⟩:=qJ s.nS s.lS s.rs1 [];obtain⟨-,a1,a2⟩:=Rw r1 s.lN f1 (e:=y) (s.sb x hx);obtain⟨-,b1,b2⟩:=Rw r2 s.lS f2 (e:=y) hx;have dn:∀{p:U bY},Tr (G17.held N R) x p y->Tr (G17.held S R1) x p y:=λt=>by
  have:=(N6 s.sdh t hx).1;rwa [s.held]at this
 have b:∀{p:U bY},Tr (G17.held S R1) x p y->Tr (G17.held N R) x p y:=λt=>t.mono λz a=>by
  have:=t.mem z a;rw[<-s.held]at this;exact(List.mem_filter.mp this).1
 cases h1:fj (G17.held N R) x y with
 |none=>
  cases h2:fj (G17.held S R1) x y with
  |none=>rfl
  |some q=>exact(a2 h1 ⟨q,b (b1 q h2).1⟩).elim
 |some p=>
  cases h2:fj (G17.held S R1) x y with
  |none=>exact(b2 h2 ⟨p,dn (a1 p h1).1⟩).elim
  |some q=>rw[Me f2 (dn (a1 p h1).1) (b1 q h2).1 (a1 p h1).2 (b1 q h2).2]
theorem Sp.off(s:Sp N S R R1)(hx:x∈S)(a:y∉S):fj (G17.held N R) x y=Y:=by
 obtain⟨-,-,r1,f1,-⟩:=qJ s.nN s.lN s.rs [];obtain⟨-,a1,a2⟩:=Rw r1 s.lN f1 (e:=y) (s.sb x hx);cases h1:fj (G17.held N R) x y with
 |none=>rfl
 |some p=>exact(a (N6 s.sdh (a1 p h1).1 hx).2).elim
structure Br (A B:An) (a b:Str) (e:bY) (G' G:List bY):Prop where
 ha:a∈A
 hb:b∈B
 dj:∀x∈A,x∉B
 ends:∀s t,aU e s=some t->(s=a/\t=b)\/(s=b/\t=a)
 mem:∀r∈G',r=e\/(r∈G/\((r.2.1∈A/\r.2.2.1∈A)\/(r.2.1∈B/\r.2.2.1∈B)))
theorem Br.flip{A B:An}{a b:AJ}{e:bY}{c G:U bY}(h:Br A B a b e c G):Br B A b a e c G:=
 ⟨h.hb,h.ha,λx hx f=>h.dj x f hx,λs t z=>(h.ends s t z).symm,λr d=>(h.mem r d).imp id λz=>⟨z.1,z.2.symm⟩⟩
theorem Br.go{A B:An}{a b:AJ}{e:bY}{l G:U bY}(h:Br A B a b e l G){y:AJ}(j:y∈A):∀{p:U bY} {x:AJ},Tr l x p y->(x∈A->wW G x y)/\(x∈B->wW G a y)
 |[],x,t=>by
  cases t;exact⟨λ_=>⟨[],rfl⟩,λz=>absurd z (h.dj _ j)⟩
 |r::p,x,⟨m,t,o,t'⟩=>by
  obtain⟨i1,i2⟩:=h.go j t';rcases h.mem r m with rfl|⟨g,w⟩
  ·rcases h.ends x t o with⟨rfl,rfl⟩|⟨rfl,rfl⟩
   ·exact⟨λ_=>i2 h.hb,λ_=>i2 h.hb⟩
   ·exact⟨λz=>absurd h.hb (h.dj _ z),λ_=>i1 h.ha⟩
  ·have i:(x∈A->t∈A/\wW G x t)/\(x∈B->t∈B):=by
    have c:wW G x t:=⟨[r],g,t,o,rfl⟩;rcases w with⟨f,d⟩|⟨f,d⟩<;>rcases jW o with⟨rfl,rfl⟩|⟨rfl,rfl⟩
    ·exact⟨λ_=>⟨d,c⟩,λz=>absurd z (h.dj _ f)⟩
    ·exact⟨λ_=>⟨f,c⟩,λz=>absurd z (h.dj _ d)⟩
    ·exact⟨λz=>absurd f (h.dj _ z),λ_=>d⟩
    ·exact⟨λz=>absurd d (h.dj _ z),λ_=>f⟩
   exact⟨λz=>(i.1 z).2.trans (i1 (i.1 z).1),λz=>i2 (i.2 z)⟩
theorem Br.same{A B:An}{a b:AJ}{e:bY}{d G:U bY}(h:Br A B a b e d G)(sub:∀r∈G,r∈d)(hx:x∈A)(f:y∈A):wW d x y↔wW G x y:=
 ⟨λ⟨_,t⟩=>(h.go f t).1 hx,λc=>c.more sub⟩
theorem Br.over{A B:An}{a b:AJ}{e:bY}{d G:U bY}(h:Br A B a b e d G)(sub:∀r∈G,r∈d)(he:e∈d)(o:aU e b=Z a)(i:∀r∈d,r.2.1≠r.2.2.1)(g:∀r∈G,r.2.1≠r.2.2.1)(f:y∈B):wW d y a↔wW G y b:=by
 constructor
 ·intro c;obtain⟨_,t⟩:=c.symm i;exact((h.flip.go f t).2 h.ha).symm g
 ·intro c;exact(c.more sub).trans ⟨[e],he,a,o,rfl⟩
theorem WO(N:An)(b:N.Nodup)(c:N.length<1000){rs:U bY}:(rs.foldl hs (aW N,[])).1=hb N rs:=by
 induction rs using BH with
 |h0=>rfl
 |h1 rs r a=>
  rw[yo,wU,<-a];show(hs (rs.foldl hs (aW N,[])) r).1=_;by_cases z:look (rs.foldl hs (aW N,[])).1 r.2.1=look (rs.foldl hs (aW N,[])).1 r.2.2.1
  ·rw[show hs (rs.foldl hs (aW N,[])) r=_ from zo z];unfold jb;rw[z,P6]
  ·rw[show hs (rs.foldl hs (aW N,[])) r=_ from zC z]
theorem Cq(a:N.Nodup)(b:N.length<1000)(rs:U bY)(r:bY):held N (rs++[r])=if look (hb N rs) r.2.1=look (hb N rs) r.2.2.1 then held N rs else held N rs++[r]:=by
 unfold held;rw[yo,<-WO N a b];show(hs (rs.foldl hs (aW N,[])) r).2=_;unfold hs;split<;>rfl
theorem Yh{A B:An}(s:N.Nodup)(j:N.length<1000)(hA:∀x∈A,x∈N)(W:∀x∈B,x∈N){a b:AJ}{e:bY}(e1:e.2.1=a)(e2:e.2.2.1=b){P Q:U bY}(h:∀f:U bY,(∀r∈f,r∈Q)->Br A B a b e (P++e::f) (P++f))(l:Rs N (P++Q))(w:∀r∈P++Q,r.2.1≠r.2.2.1)(en:a≠b)(E:∀r∈P++Q,(r.2.1∈A/\r.2.2.1∈A)\/(r.2.1∈B/\r.2.2.1∈B)):
  (held N (P++e::Q)).Perm (held N (P++Q)++[e]):=by
 have b0:=h [] (λr h=>by cases h);have M:=hA a b0.ha;have G:=W b b0.hb;have X:∀f:U bY,(∀r∈f,r∈Q)->(held N (P++e::f)).Perm (held N (P++f)++[e]):=by
  intro f
  induction f using BH with
  |h0=>
   intro _;rw[ZU,show P++[e]=P++[e] from rfl,Cq s j,zC];intro z;have a0:Rs N P:=λr C=>l r (zt _ C);rw[e1,e2]at z;have c:=IN s j a0 (λr C=>w r (zt _ C)) a M b G z;have go:∀{p:U bY} {x y:AJ},Tr P x p y->x∈A->y∈A:=by
    intro p
    induction p with
    |nil=>intro x y t hx;cases t;exact hx
    |cons r p n=>
     intro x y t hx;obtain⟨m,t1,o,t2⟩:=t;refine n t2 ?_;rcases E r (zt _ m)with⟨g,i⟩|⟨g,i⟩<;>rcases jW o with⟨q1,q2⟩|⟨q1,q2⟩
     ·rw[<-q2];exact i
     ·rw[<-q2];exact g
     ·exact absurd g (b0.dj _ (q1▸hx))
     ·exact absurd i (b0.dj _ (q1▸hx))
   obtain⟨p,t⟩:=c;exact b0.dj b (go t b0.ha) b0.hb
  |h1 f r n=>
   intro v;have n:=n λz d=>v z (zt _ d);have a2:r∈Q:=v r (by simp);have u:∀z∈f,z∈Q:=λz d=>v z (zt _ d);have J:=h f u;have K:∀z∈P++f,z∈P++Q:=λz d=>by
    rcases List.mem_append.mp d with d|d
    ·exact zt _ d
    ·exact zI _ (u z d)
   have F:∀z∈P++f,z∈P++e::f:=λz d=>by
    rcases List.mem_append.mp d with d|d
    ·exact zt _ d
    ·exact zI _ (zh _ d)
   have L:∀z∈P++e::f,z=e\/z∈P++Q:=λz d=>by
    rcases List.mem_append.mp d with d|d
    ·exact .inr (zt _ d)
    ·rcases List.mem_cons.mp d with d|d
     ·exact .inl d
     ·exact .inr (zI _ (u z d))
   have a1:Rs N (P++f):=λz d=>l z (K z d);have a3:Rs N (P++e::f):=λz d=>by
    rcases L z d with rfl|q
    ·rw[e1,e2];exact⟨M,G⟩
    ·exact l z q
   have n1:∀z∈P++f,z.2.1≠z.2.2.1:=λz d=>w z (K z d);have n2:∀z∈P++e::f,z.2.1≠z.2.2.1:=λz d=>by
    rcases L z d with rfl|q
    ·rw[e1,e2];exact en
    ·exact w z q
   have H:r∈P++Q:=zI _ a2;obtain⟨I,D⟩:=l r H;have S:look (hb N (P++e::f)) r.2.1=look (hb N (P++e::f)) r.2.2.1↔look (hb N (P++f)) r.2.1=look (hb N (P++f)) r.2.2.1:=by
    rw[Es s j a3 n2 I D,Es s j a1 n1 I D];rcases E r H with⟨g,i⟩|⟨g,i⟩
    ·exact J.same F g i
    ·exact J.flip.same F g i
   rw[show P++e::(f++[r])=(P++e::f)++[r] by simp,show P++(f++[r])=(P++f)++[r] by simp,Cq s j,Cq s j];by_cases z:look (hb N (P++f)) r.2.1=look (hb N (P++f)) r.2.2.1
   ·rw[zo z,zo (S.mpr z)];exact n
   ·rw[zC z,zC λq=>z (S.mp q)];refine(n.append_right [r]).trans ?_;rw[QE,QE];exact List.Perm.append_left _ (List.perm_append_comm)
 exact X Q λr l=>l
theorem Yi(d:Dt)(a:AJ)(n:Int)(h:n<=1000):mF d a n:=by
 unfold mF;intro hs;obtain⟨x,rfl⟩:=Kg hs;refine⟨⟨rfl,λ_=>Δ⟩,λb=>⟨⟨rfl,?_⟩,λs h=>UD h⟩⟩;rw[Xt];have h2:(x.length:Int)<=n:=Jn ((ZY _ _).mp b).2;omega
theorem Ry{a:AJ}{n:Int}(h:jU d a n=true):qm d=true:=by
 unfold jU at h;rw[ZY]at h;exact h.1
theorem UJ(d:Dt):qd d:=Yi d _ 8 (by decide)
theorem OF(h:d9 d=true):qm d=true:=Ry h
theorem Wj(h:d9 d=true):d=eS (T3 d):=by obtain⟨x,rfl⟩:=Kg (OF h);rfl
theorem Cr(h:jz d=true):d=eI (Ys d):=by
 cases d with
 |int i=>rfl
 |_=>cases h
theorem NV(d:Dt):rH d:=λh=>⟨Cr h,λ_=>Cr h⟩
theorem Wm(h:B4 d=true):∃ds,d=.tup ds/\Mp d=ds.length:=by
 obtain⟨ds,rfl⟩:=CN h;exact⟨ds,rfl,rfl⟩
theorem be(h:gw d 3=true):∃a b c,d=.tup [a,b,c]:=by
 unfold gw at h;rw[ZY,Z3]at h;obtain⟨ds,rfl,e⟩:=Wm h.1;rw[e]at h;have h:=h.2
 match ds,h with
 |[a,b,c],_=>exact⟨a,b,c,rfl⟩
theorem Op(h:gw d 4=true):∃a b c x,d=.tup [a,b,c,x]:=by
 unfold gw at h;rw[ZY,Z3]at h;obtain⟨ds,rfl,e⟩:=Wm h.1;rw[e]at h;have h:=h.2
 match ds,h with
 |[a,b,c,x],_=>exact⟨a,b,c,x,rfl⟩
theorem Wn(d:Dt)(n:Int):qG d n:=λh=>b7 h
theorem NB{b:Bool}(h:(!b)=false):b=true:=by cases b<;>first|rfl|cases h
def B3(a b c:Dt):Bool:=d9 a&&(d9 b&&(mQ (T3 a) (T3 b)&&(jz c&&decide ((0:Int)<=Ys c))))
theorem a8(d:Dt):Ao d:=by
 refine⟨Wn d 3,λh=>?_⟩;obtain⟨a,b,c,rfl⟩:=be (NB h);exact⟨rfl,UJ a,λh1=>⟨UJ b,λh2=>⟨⟨Wj h1,Wj h2⟩,λ_ e=>Cr e⟩⟩⟩
def R4(x a b c:Dt):Bool:=oJ x&&B3 a b c
theorem OE(d:Dt):rJ d:=by
 refine⟨Wn d 4,λh=>?_⟩;obtain⟨x,a,b,c,rfl⟩:=Op h;exact⟨⟨BE (by decide) (by simp),NV _⟩,λ_=>⟨rfl,a8 _⟩⟩
theorem To{r:bY}(h:(1<=r.1/\r.1<=1000)/\mQ r.2.1 r.2.2.1=true/\0<=r.2.2.2)(b:Nm r.2.1)(a:Nm r.2.2.1):oK (aP r)=true:=by
 show R4 (.int r.1) (.str r.2.1) (.str r.2.2.1) (.int r.2.2.2)=true;unfold R4 B3;rw[NQ b,NQ a];show((true&&(decide ((1:Int)<=r.1)&&decide (r.1<=1000)))&&(true&&(true&&(mQ r.2.1 r.2.2.1&&(true&&decide ((0:Int)<=r.2.2.2))))))=true;rw[h.2.1,ZA h.1.1,ZA h.1.2,ZA h.2.2];rfl
structure Gd (N:An) (R:List bY):Prop where
 nd:N.Nodup
 len:N.length<64
 rs:Rs N R
 rl:R.length<60
 nm:∀n∈N,Nm n
 va:∀r∈R,(1<=r.1/\r.1<=1000)/\mQ r.2.1 r.2.2.1=true/\0<=r.2.2.2
theorem Gs.gd(s:Gs N R):Gd N R:=⟨s.nd,by have:=s.len;omega,s.rs,by have:=s.rl;omega,s.nm,s.va⟩
theorem Gd.ne(s:Gd N R):∀r∈R,r.2.1≠r.2.2.1:=λr a=>((BQ _ _).mp (s.va r a).2.1).2
theorem Gd.no(s:Gd N R)(hx:x∈N)(b:U jZ):fJ (N,R,b) x:=⟨UJ _,λz=>by
 rw[show d9 (eS x)=true from NQ (s.nm x hx),show decide (x∈(N,R,b).1)=true from ZA hx]at z;cases z⟩
theorem Gd.po(s:Gd N R)(hx:x∈N)(b:U jZ):je (N,R,b) x/\cP (N,R,b) x=pt N (hb N R) x:=by
 have:=s.len;have p:=Wd s.nd (by omega) s.rs hx;exact⟨⟨s.no hx b,p.1⟩,p.2⟩
theorem Gd.pas(s:Gd N R)(b:U jZ):nJ (N,R,b)/\fP (N,R,b)=st N (hb N R):=by
 have:=s.len;obtain⟨d,e,h⟩:=L0 s.nd (by omega) s.rs;have q:=TL h;refine⟨⟨d,?_⟩,?_⟩
 ·show mD (fM N R);rw[e];exact q.1
 ·show jQ (fM N R)=_;rw[e];exact q.2
theorem Gd.ho(s:Gd N R)(b:U jZ):eE (N,R,b)/\bw (N,R,b)=held N R:=by
 obtain⟨h1,h2,-⟩:=qJ s.nd s.len s.rs b;exact⟨h1,h2⟩
theorem Gd.wh(s:Gd N R)(hx:x∈N)(c:y∈N)(b:U jZ):jV (N,R,b) x y/\dN (N,R,b) x y=fj (held N R) x y:=by
 obtain⟨h1,h2,d,a,-⟩:=qJ s.nd s.len s.rs b;obtain⟨a1,-⟩:=Rw d s.len a (e:=y) hx;refine⟨⟨s.no hx b,s.no c b,h1,by rw[h2];exact a1⟩,?_⟩;unfold dN;rw[h2]
def hg(N:An)(R:U bY)(r:bY):Dt:=if(decide (r.2.2.1∈pt N (hb N (R.filter λy=>!decide (y=r))) r.2.1))=true then Dt.tup [Dt.str "stays"]else Dt.tup [Dt.str "parts",(eT eS) (pt N (hb N (R.filter λy=>!decide (y=r))) r.2.1),(eT eS) (pt N (hb N (R.filter λy=>!decide (y=r))) r.2.2.1)]
theorem Gd.ha(s:Gd N R){r:bY}(h:r∈R)(b:U jZ):lu (N,R,b) r/\eU (N,R,b) r=hg N R r:=by
 have ok:=To (s.va r h) (s.nm _ (s.rs r h).1) (s.nm _ (s.rs r h).2);have f:=s.len;have e:=s.rl;have c:=s.rs r h;have a:Rs N (R.filter λy=>!decide (y=r)):=λz d=>s.rs z (List.mem_filter.mp d).1;have pa:=Rv s.nd (by omega) a c.1;have pb:=Rv s.nd (by omega) a c.2;unfold lu eU hg;dsimp only;rw[List.map_id'];rw[pa.2,pb.2];refine⟨⟨⟨OE _,λz=>?_⟩,by omega,pa.1,λ_=>pb.1⟩,rfl⟩;rw[ok,show T7 r (N,R,b).2.1=true from T'.mpr h]at z;cases z
theorem LO(p q:An):DO (Dt.tup [(Dt.str "parts"),(eT eS p),(eT eS q)]) (Dt.tup [(Dt.str "parts"),(eT eS p),(eT eS q)])/\D7 (Dt.tup [(Dt.str "parts"),(eT eS p),(eT eS q)]) (Dt.tup [(Dt.str "parts"),(eT eS p),(eT eS q)])=true:=by
 have e:=B7.eq (e:=Cs eS (eT eS) (eT eS)) (("parts":AJ),p,q) (("parts":AJ),p,q);rw[ZA rfl]at e;have e:zp (Dt.tup [(Dt.str "parts"),(eT eS p),(eT eS q)]) (Dt.tup [(Dt.str "parts"),(eT eS p),(eT eS q)])=Z true:=e;unfold DO D7;rw[e];refine⟨⟨rfl,?_⟩,rfl⟩;have ds:∀xs:An,qK (xs.map eS)<=1:=λxs=>by
  induction xs with
  |nil=>exact QR _
  |cons x xs a=>exact Nat.max_le.mpr ⟨zk 1,a⟩
 have a1:=ds p;have a2:=ds q;show min (max 1 (max (qK _+1) (max (qK _+1) 0))+1) (max 1 (max (qK _+1) (max (qK _+1) 0))+1)<=100;omega
theorem LD(N:An)(R:U bY)(r:bY):DO (hg N R r) (hg N R r)/\D7 (hg N R r) (hg N R r)=true:=by
 unfold hg;split
 ·exact⟨⟨rfl,by decide⟩,rfl⟩
 ·exact LO _ _
theorem Sp.hg{N S:An}{R R1:U bY}(s:Sp N S R R1){r:bY}(h:r∈R1):hg N R r=hg S R1 r:=by
 obtain⟨a,b⟩:=s.rs1 r h;have d:=s.drop λy=>!decide (y=r);unfold G17.hg;rw[d.pt a,d.pt b]
theorem Rz{b1 b:U jZ}(i:Gd N R)(g:Gd S R1)(s:Sp N S R R1):eG (S,R1,b1) (N,R,b)/\cH (S,R1,b1) (N,R,b)=true:=by
 have sb:=s.sb;have inn:∀x∈S,∀y∈S,gj (S,R1,b1) (N,R,b) x () y/\cI (S,R1,b1) (N,R,b) x () y=.nx ():=λx hx y h=>by
  obtain⟨f,c⟩:=i.wh (sb x hx) (sb y h) b;obtain⟨e,d⟩:=g.wh hx h b1;refine⟨⟨f,e⟩,?_⟩;unfold cI;rw[c,d,s.way hx,ZA rfl];rfl
 have t:=λx hx=>GX (step:=λ(m:Unit) (l:AJ)=>((cI (S,R1,b1) (N,R,b) x m l):qT (Unit) Bool)) (P:=λ(m:Unit) (l:AJ)=>Z (gj (S,R1,b1) (N,R,b) x m l)) S λy h=>⟨(inn x hx y h).1,.inl (inn x hx y h).2⟩;have q:∀x∈S,gk (S,R1,b1) (N,R,b) S () x/\cJ (S,R1,b1) (N,R,b) S () x=.nx ():=λx hx=>by
  obtain⟨f,c⟩:=i.po (sb x hx) b;obtain⟨e,d⟩:=g.po hx b1;obtain⟨p,v⟩:=t x hx;refine⟨⟨⟨f,e⟩,λ_=>⟨v,?_⟩⟩,?_⟩
  ·rw[p];exact trivial
  ·unfold cJ;rw[c,d,s.pt hx,ZA rfl,p];rfl
 have o:=GX (step:=λ(n:Unit) (j:AJ)=>((cJ (S,R1,b1) (N,R,b) S n j):qT (Unit) Bool)) (P:=λ(n:Unit) (j:AJ)=>Z (gk (S,R1,b1) (N,R,b) S n j)) S λx hx=>⟨(q x hx).1,.inl (q x hx).2⟩;have sub:∀r∈R1,r∈R:=λr a=>by
  rw[<-s.fil]at a;exact(List.mem_filter.mp a).1
 unfold eG cH;dsimp only;rw[o.1];have w:=g.rl;refine⟨⟨o.2,by omega,λr a=>?_⟩,?_⟩
 ·obtain⟨f,c⟩:=i.ha (sub r a) b;obtain⟨e,d⟩:=g.ha a b1;refine⟨⟨f,e⟩,?_⟩;rw[c,d,s.hg a];exact(LD _ _ _).1
 ·show List.all _ id=true;rw[qB];intro z u;obtain⟨r,a,rfl⟩:=List.mem_map.mp u;obtain⟨f,c⟩:=i.ha (sub r a) b;obtain⟨e,d⟩:=g.ha a b1;show D7 (eU (N,R,b) r) (eU (S,R1,b1) r)=true;rw[c,d,s.hg a];exact(LD _ _ _).2
theorem FV{rs:U bY}(h:rs.length<64):gQ rs:=by
 refine⟨⟨by omega,by rw[zl];exact h⟩,?_⟩;rw[(kE _).length_eq,zl];omega
theorem So.sub{t rs:U bY}(h:So rs)(s:t.Sublist rs):So t:=by
 unfold So at *
 exact h.sublist (s.map tn)
structure BS (A B:An) (r1 r2:List bY):Prop where
 a:Gs A r1
 b:Gs B r2
 za:∀x∈A,mQ x z7=true
 zb:∀x∈B,mQ z7 x=true
variable{A B:An}{r1 r2:U bY}
theorem BS.dj(t:BS A B r1 r2):∀x∈A,x∉B:=λx hx a=>by
 have:=Er (t.za x hx);rw[t.zb x a]at this;cases this
theorem BS.mem(t:BS A B r1 r2){r:bY}:r∈aC (r1++r2)↔r∈r1\/r∈r2:=by
 rw[(uJ _).mem_iff,KP]
theorem BS.wi(t:BS A B r1 r2){r:bY}(h:r∈aC (r1++r2)):(r.2.1∈A/\r.2.2.1∈A)\/(r.2.1∈B/\r.2.2.1∈B):=(t.mem.mp h).imp (t.a.rs r) (t.b.rs r)
theorem BS.len(t:BS A B r1 r2):(aC (r1++r2)).length<=20:=by
 rw[(uJ _).length_eq,z5];have:=t.a.rl;have:=t.b.rl;omega
theorem BS.gd(t:BS A B r1 r2):Gd (A++B) (aC (r1++r2)):=by
 refine⟨List.nodup_append.mpr ⟨t.a.nd,t.b.nd,λx hx y d z=>t.dj x hx (z▸d)⟩,?_,λr c=>?_,by have:=t.len;omega,λn e=>?_,λr c=>?_⟩
 ·rw[z5];have:=t.a.len;have:=t.b.len;omega
 ·rcases t.wi c with⟨a,b⟩|⟨a,b⟩
  ·exact⟨zt _ a,zt _ b⟩
  ·exact⟨zI _ a,zI _ b⟩
 ·exact(List.mem_append.mp e).elim (t.a.nm n) (t.b.nm n)
 ·exact(t.mem.mp c).elim (t.a.va r) (t.b.va r)
theorem BS.wa(t:BS A B r1 r2):(∀r∈r1,Wi A r=true)/\(∀r∈r2,Wi A r=false):=by
 refine⟨λr c=>?_,λr c=>?_⟩
 ·obtain⟨a,b⟩:=t.a.rs r c;unfold Wi;simp[a,b]
 ·obtain⟨a,b⟩:=t.b.rs r c;unfold Wi;rw[ZH λz=>t.dj _ z a];rfl
theorem BS.wb(t:BS A B r1 r2):(∀r∈r1,Wi B r=false)/\(∀r∈r2,Wi B r=true):=by
 refine⟨λr c=>?_,λr c=>?_⟩
 ·obtain⟨a,b⟩:=t.a.rs r c;unfold Wi;rw[ZH λz=>t.dj _ a z];rfl
 ·obtain⟨a,b⟩:=t.b.rs r c;unfold Wi;simp[a,b]
theorem BS.spa(t:BS A B r1 r2):Sp (A++B) A (aC (r1++r2)) r1:=by
 have g:=t.gd;refine⟨g.nd,g.len,t.a.nd,?_,g.rs,λr c=>(t.wi c).imp id λz=>⟨λy=>t.dj _ y z.1,λy=>t.dj _ y z.2⟩,Wg t.wa.1 t.wa.2 t.a.os⟩;rw[qV,List.filter_eq_self.mpr λy b=>ZA b,List.filter_eq_nil_iff.mpr λy b=>by simpa using λz=>t.dj y z b,ZU]
theorem BS.spb(t:BS A B r1 r2):Sp (A++B) B (aC (r1++r2)) r2:=by
 have g:=t.gd;refine⟨g.nd,g.len,t.b.nd,?_,g.rs,λr c=>(t.wi c).symm.imp id λz=>⟨λy=>t.dj _ z.1 y,λy=>t.dj _ z.2 y⟩,NL t.wb.1 t.wb.2 t.b.os⟩;rw[qV,List.filter_eq_nil_iff.mpr λy a=>by simpa using t.dj y a,List.filter_eq_self.mpr λy a=>ZA a,JE]
theorem BS.parts(t:BS A B r1 r2):st (A++B) (hb (A++B) (aC (r1++r2)))=st A (hb A r1)++st B (hb B r2):=aT t.spa.lo t.spb.lo t.dj
theorem BS.held(t:BS A B r1 r2):held (A++B) (aC (r1++r2))=aC (held A r1++held B r2):=by
 have hs:=sZ (A++B) (aC (r1++r2));refine Wf ?_ ((HS _).sub hs) (HS _);refine .trans ?_ (uJ _).symm;rw[<-t.spa.held,<-t.spb.held];have e:(G17.held (A++B) (aC (r1++r2))).filter (Wi B)=(G17.held (A++B) (aC (r1++r2))).filter (λx=>!Wi A x):=ja λr a=>by
  rcases t.mem.mp (hs.subset a)with z|z
  ·rw[t.wb.1 r z,t.wa.1 r z];rfl
  ·rw[t.wb.2 r z,t.wa.2 r z];rfl
 rw[e];exact(List.filter_append_perm _ _).symm
theorem Yj(t:BS A B r1 r2){b1 b2:U jZ}{a b:AJ}(ha:a∈A)(i:b∈B):fU (A,r1,b1) (B,r2,b2) (A++B,aC (r1++r2),[]) a b/\fQ (A,r1,b1) (B,r2,b2) (A++B,aC (r1++r2),[]) a b=true:=by
 have g:=t.gd;have spa:=t.spa;have spb:=t.spb;have wi:=λr=>t.wi (r:=r);have rl:=t.len;have a4:=HS (r1++r2);have a0:mQ a b=true:=K' _ _ _ (t.za a ha) (t.zb b i);have H:a≠b:=((BQ _ _).mp a0).2;have aN:a∈A++B:=zt _ ha;have j:b∈A++B:=zI _ i;have X:=t.dj a ha;have F:b∉A:=λz=>t.dj b z i;have D:((1:Int),a,b,(999:Int))∉aC (r1++r2):=λz=>by
  rcases wi _ z with⟨z1,z2⟩|⟨z1,z2⟩
  ·exact F z2
  ·exact X z1
 have hN:∀x∈A++B,Nm x:=g.nm;generalize aC (r1++r2)=R at *
 obtain⟨e,n⟩:∃e:bY,e=((1:Int),a,b,(999:Int)):=⟨_,rfl⟩;rw[<-n]at D;have e1:e.2.1=a:=by rw[n]
 have e2:e.2.2.1=b:=by rw[n]
 have u:=uJ (R++[e]);have sm:=HS (R++[e]);have fe:(aC (R++[e])).filter (λy=>!decide (y=e))=R:=Wg (λr c=>by rw[ZH (show ¬ r=e from λz=>D (z▸c))];rfl) (λr c=>by rw[List.mem_singleton.mp c,ZA rfl];rfl) a4;have G:e∈aC (R++[e]):=u.mem_iff.mpr (by simp);have ml:(aC (R++[e])).length<=21:=by
  rw[u.length_eq,z5];show _+1<=_;omega
 have E:∀r,r∈aC (R++[e])↔r∈R\/r=e:=λr=>by rw[u.mem_iff,KP,List.mem_singleton]
 have d:Gd (A++B) (aC (R++[e])):=⟨g.nd,g.len,λr c=>by
  rcases(E r).mp c with z|rfl
  ·exact g.rs r z
  ·rw[e1,e2];exact⟨aN,j⟩,by omega,hN,λr c=>by
  rcases(E r).mp c with z|rfl
  ·exact g.va r z
  ·rw[e1,e2,n];exact⟨⟨show(1:Int)<=1 by decide,show(1:Int)<=1000 by decide⟩,a0,show(0:Int)<=999 by decide⟩⟩
 have d1:gQ (R++[e]):=FV (by rw[z5];show _+1<_;omega);obtain⟨P,Q,v⟩:=yf G;have l:P++Q=R:=by
  have q:(P++e::Q).Perm (R++[e]):=v▸u;have q:(e::(P++Q)).Perm (e::R):=(List.perm_middle.symm.trans q).trans (List.perm_append_singleton _ _);have q:=q.cons_inv;have ne:∀r∈P++Q,(!decide (r=e))=true:=λr c=>by
   rw[ZH (show ¬ r=e from λz=>D (q.mem_iff.mp (z▸c)))];rfl
  rw[v,qV,Kx (by simp),<-qV,List.filter_eq_self.mpr ne]at fe;exact fe
 have a5:∀s t,aU e s=Z t->(s=a/\t=b)\/(s=b/\t=a):=λs t z=>by
  rcases jW z with⟨z1,z2⟩|⟨z1,z2⟩
  ·exact .inl ⟨by rw[<-z1,e1],by rw[<-z2,e2]⟩
  ·exact .inr ⟨by rw[<-z1,e2],by rw[<-z2,e1]⟩
 have S:aU e a=Z b:=by have:=LG e;rwa [e1,e2]at this
 have a6:e.2.1≠e.2.2.1:=by rw[e1,e2];exact H
 have M:aU e b=Z a:=NP a6 S;have N:∀m:U bY,(∀r∈m,r∈Q)->Br A B a b e (P++e::m) (P++m):=λm hq=>⟨ha,i,t.dj,a5,λr c=>by
  have a7:r∈P++m->r∈R:=λz=>by
   rw[<-l];rcases List.mem_append.mp z with z|z
   ·exact zt _ z
   ·exact zI _ (hq r z)
  have q:r=e\/r∈P++m:=by
   rcases List.mem_append.mp c with z|z
   ·exact .inr (zt _ z)
   ·rcases List.mem_cons.mp z with z|z
    ·exact .inl z
    ·exact .inr (zI _ z)
  exact q.imp id λz=>⟨z,wi r (a7 z)⟩⟩
 have C:(A++B).length<1000:=by have:=g.len;omega
 have hp:=Yh g.nd C (λx hx=>zt _ hx) (λx hx=>zI _ hx) e1 e2 N (by rw[l];exact g.rs) (by rw[l];exact g.ne) H (by rw[l];exact wi);rw[l,<-v]at hp;have hh:held (A++B) (aC (R++[e]))=aC (held (A++B) R++[e]):=Wf (hp.trans (uJ _).symm) (sm.sub (sZ _ _)) (HS _);have eh:e∈held (A++B) (aC (R++[e])):=hp.mem_iff.mpr (by simp);obtain⟨-,-,r3,f3,-⟩:=qJ d.nd d.len d.rs [];obtain⟨h1,h2,h3,h4,h5⟩:=qJ g.nd g.len g.rs [];have way:∀{x y:AJ},x∈A++B->aU e x=Z y->fj (held (A++B) (aC (R++[e]))) x y=Z [e]:=λ{x y} hx o=>by
  obtain⟨-,a1,a2⟩:=Rw r3 d.len f3 (e:=y) hx;have K:Tr (held (A++B) (aC (R++[e]))) x [e] y:=⟨eh,y,o,rfl⟩;cases q:fj (held (A++B) (aC (R++[e]))) x y with
  |none=>exact(a2 q ⟨_,K⟩).elim
  |some p=>rw[Me f3 (a1 p q).1 K (a1 p q).2 (List.nodup_cons.mpr ⟨λz=>(by cases z),kQ⟩)]
 have w:=N Q λr h=>h;rw[l,<-v]at w;have I:∀r∈R,r∈aC (R++[e]):=λr c=>(E r).mpr (.inl c);have pa:=spa.pt ha;have pb:=spb.pt i;have fo:=λ{x y:AJ} (hx:x∈A++B) (f:y∈A++B)=>Es g.nd C g.rs g.ne hx f;have J:=λ{x y:AJ} (hx:x∈A++B) (f:y∈A++B)=>Es d.nd C d.rs d.ne hx f;have pM:pt (A++B) (hb (A++B) (aC (R++[e]))) a=pt A (hb A r1) a++pt B (hb B r2) b:=by
  unfold pt;rw[qV];congr 1
  ·refine ja λy f=>?_;rw[JI,Z3,Z3,<-spa.lo.eq y f,<-spa.lo.eq a ha,J (zt _ f) aN,fo (zt _ f) aN];exact w.same I f ha
  ·refine ja λy f=>?_;rw[JI,Z3,Z3,<-spb.lo.eq y f,<-spb.lo.eq b i,J (zI _ f) aN,fo (zI _ f) j];exact w.over I G M d.ne g.ne f
 have a3:hg (A++B) (aC (R++[e])) e=Dt.tup [Dt.str "parts",(eT eS) (pt A (hb A r1) a),(eT eS) (pt B (hb B r2) b)]:=by
  unfold hg;rw[fe,e1,e2,pa,pb,zC];intro z;exact F (List.mem_filter.mp (Jn z)).1
 obtain⟨w1,w2⟩:=g.wh aN j [];obtain⟨v1,v2⟩:=g.wh j aN [];obtain⟨x1,x2⟩:=d.wh aN j [];obtain⟨y1,y2⟩:=d.wh j aN [];obtain⟨m1,m2⟩:=d.ho [];obtain⟨m3,m4⟩:=g.ho [];obtain⟨p1,p2⟩:=d.po aN [];obtain⟨p3,p4⟩:=t.a.gd.po ha b1;obtain⟨L,p6⟩:=t.b.gd.po i b2;obtain⟨k1,k2⟩:=d.ha G [];unfold fU fQ;dsimp only;rw[<-n,w2,v2,spa.off ha F,spb.off i X,x2,y2,way aN S,way j M,m2,m4,p2,p4,p6,k2,a3,pM,hh];rw[show dh (held (A++B) R++[e])=aC (held (A++B) R++[e]) from rfl];have W:=LO (pt A (hb A r1) a) (pt B (hb B r2) b);have q1:(pt A (hb A r1) a).length<=A.length:=kF _ _;have q2:(pt B (hb B r2) b).length<=B.length:=kF _ _;have q3:=t.a.len;have q4:=t.b.len;have q5:=(sZ (A++B) R).length_le;refine⟨⟨⟨w1,λ_=>v1⟩,λ_=>⟨⟨lA (by show _+1<=1000;omega),d1⟩,⟨x1,λ_=>y1⟩,λ_=>⟨⟨m1,⟨m3,lA (by show _+1<=1000;omega)⟩,FV (by rw[z5];show _+1<_;omega)⟩,λ_=>⟨⟨p1,⟨p3,L⟩,lA (by omega)⟩,λ_=>⟨⟨k1,p3,L⟩,W.1⟩⟩⟩⟩⟩,?_⟩;rw[W.2];simp
theorem N3(c:U Int)(_:c.length<=63):Rt c/\Rr c=true:=by
 obtain⟨D,l,I⟩:=Ny (bH c 0) 12 (by decide) (by decide);have l:(bD (bH c 0) 12).length=12:=l;unfold Rt Rr;dsimp only;generalize bD (bH c 0) 12=xs at *
 have f:∀i:Nat,i<12->In xs.length (i:Int):=λi hi=>Mz (by omega);have F:=jl (at' xs 6) (m:=8) (by decide);have x:=jl (at' xs 7) (m:=11) (by decide);have u:=jl (at' xs 8) (m:=8) (by decide);have E:=jl (at' xs 9) (m:=11) (by decide);obtain⟨w,j⟩:=Kz c 0 (at' xs 6%8) (at' xs 7%11) 0 (by decide) (by decide) F.1 (by omega) x.1 (by omega) (by decide) (by decide);obtain⟨gb,sb⟩:=Kz c 11 (at' xs 8%8) (at' xs 9%11) 0 (by decide) (by decide) u.1 (by omega) E.1 (by omega) (by decide) (by decide);obtain⟨c1,c2,q⟩:=Yg sb;have t:BS (cG c 0 (at' xs 6%8) (at' xs 7%11) 0).1 (dJ (cG c 11 (at' xs 8%8) (at' xs 9%11) 0)).1 (cG c 0 (at' xs 6%8) (at' xs 7%11) 0).2.1 (dJ (cG c 11 (at' xs 8%8) (at' xs 9%11) 0)).2.1:=⟨j.gs,c2,j.zz,q⟩;generalize cG c 0 (at' xs 6%8) (at' xs 7%11) 0=one at *
 generalize dJ (cG c 11 (at' xs 8%8) (at' xs 9%11) 0)=two at *
 obtain⟨A,r1,b1⟩:=one;obtain⟨B,r2,b2⟩:=two;have t:BS A B r1 r2:=t;have g:=t.gd;rw[show qC (A,r1,b1) (B,r2,b2)=(A++B,aC (r1++r2),[]) from rfl];obtain⟨p1,p2⟩:=g.pas [];obtain⟨p3,p4⟩:=t.a.gd.pas b1;obtain⟨y,H⟩:=t.b.gd.pas b2;obtain⟨h1,h2⟩:=g.ho [];obtain⟨o,v⟩:=t.a.gd.ho b1;obtain⟨s,C⟩:=t.b.gd.ho b2;obtain⟨a1,a2⟩:=Rz (b:=[]) (b1:=b1) g t.a.gd t.spa;obtain⟨p,G⟩:=Rz (b:=[]) (b1:=b2) g t.b.gd t.spb;have K:=t.a.len;have L:=t.b.len;have S:=t.a.rl;have M:=t.b.rl;have N:(st A (hb A r1)).length<=A.length:=by unfold st;rw[zl];exact kF _ _
 have J:(st B (hb B r2)).length<=B.length:=by unfold st;rw[zl];exact kF _ _
 have Q:=(sZ A r1).length_le;have P:=(sZ B r2).length_le;rw[p2,p4,H,h2,v,C,a2,G,t.parts,show dh (held A r1++held B r2)=aC (held A r1++held B r2) from rfl,t.held];have h:∀e:0<A.length,∀d:0<B.length,In A.length (at' xs 10%(A.length:Int))/\In B.length (at' xs 11%(B.length:Int)):=λe d=>⟨tO (by omega) (Int.le_refl _),tO (by omega) (Int.le_refl _)⟩;have ne:((decide (A=([]:An)))||(decide (B=([]:An))))=false->0<A.length/\0<B.length:=λz=>by
  rw[Bool.or_eq_false_iff,QP,QP]at z;exact⟨List.length_pos_iff.mpr z.1,List.length_pos_iff.mpr z.2⟩
 have n:=λ(e:0<A.length) (d:0<B.length)=>Yj t (b1:=b1) (b2:=b2) (tM (h e d).1) (tM (h e d).2);refine⟨⟨⟨Nx _ _ (by decide) (by decide),D⟩,⟨⟨f 6 (by decide),f 7 (by decide)⟩,w⟩,⟨⟨⟨f 8 (by decide),f 9 (by decide)⟩,gb⟩,c1⟩,⟨lA (by show A.length+B.length<=1000;omega),lA (by show r1.length+r2.length<=1000;omega),FV (by rw[z5];show r1.length+r2.length<64;omega)⟩,⟨p1,⟨p3,y⟩,lA (by omega)⟩,λ_=>⟨⟨h1,⟨⟨o,s⟩,lA (by omega)⟩,FV (by rw[z5];omega)⟩,λ_=>⟨⟨a1,λ_=>p⟩,λ_ z=>?_⟩⟩⟩,?_⟩
 ·obtain⟨e,d⟩:=ne z;obtain⟨i1,i2⟩:=h e d;exact⟨⟨⟨⟨f 10 (by decide),show(0:Int)<(A.length:Int) by omega⟩,i1⟩,⟨f 11 (by decide),show(0:Int)<(B.length:Int) by omega⟩,i2⟩,(n e d).1⟩
 ·rw[ZA rfl,ZA rfl];show(if((decide (A=([]:An)))||(decide (B=([]:An))))=true then true else _)=true;by_cases z:((decide (A=([]:An)))||(decide (B=([]:An))))=true
  ·rw[zo z]
  ·rw[zC z];obtain⟨e,d⟩:=ne (by simpa using z);exact(n e d).2
theorem H1:∀a:U Int,a.length<=63->F_law [.z (.lst (a.map .int))]=Z (.z (.bl true)):=(LX N3).1
theorem H2:∀a:U Int,a.length<=63->F_law [.l (a.map .int)]=Z (.z (.bl true)):=(LX N3).2
end G17
end
open PySem PySem.W PyProof.Rows
namespace PySem.W.Fast
def tw451043999257751752:=0
def tw1321460614314718830:=0
def tw4352234687345842090:=0
def tw5424766124339278067:=0
def tw14415171744644947768:=0
def tw3454914415721626360:=0
def tw368393202513471223:=0
def tw3888037527580255169:=0
def tw11983712959823402170:=0
def tw8380523996491199725:=0
def tw18281074715073470660:=0
def tw13206865753645676749:=0
def tw840709991308178771:=0
def tw3318444414019823642:=0
def tw5660314315811453533:=0
def tw13181691271691676202:=0
def tw6723689873911546006:=0
def tw6430173843901882602:=0
def tw18369337755104741066:=0
def tw6296499493797384181:=0
def tw8270706304960877604:=0
def tw1035609637046499862:=0
def tw15028960685855994148:=0
def tw14831992759509175101:=0
def tw8118576729576159471:=0
def tw7756596958576389827:=0
def tw17937098558697424194:=0
def tw14146388428323144165:=0
def tw4609657688734690395:=0
def tw4767765204174919154:=0
def tw9151545580585036612:=0
def tw4366778010781448859:=0
def tw17408116744958532090:=0
def tw1428935937723054832:=0
def tw16721153571226866223:=0
def tw9424366655038008603:=0
def tw6369333318866961059:=0
def tw3075207157727588207:=0
def tw18122319340393669636:=0
def tw16904278371621395396:=0
def tw6635494343905971653:=0
def tw12504184228400681516:=0
def tw12564813545268503823:=0
def tw17499562930318471315:=0
def tw1749453152844819919:=0
def tw10078119099515114196:=0
def tw14540968787003309007:=0
def tw1888336354044422470:=0
def tw1979469139443588767:=0
def tw5613642408307235951:=0
def tw3118961635677914441:=0
def tw8864483423160052392:=0
def tw10121102218375130857:=0
def tw17745437212169586318:=0
def tw10288947258710815462:=0
def tw12485806855024322913:=0
def tw5260804222797525451:=0
def tw11099446563050939770:=0
def tw8092411816900056869:=0
def tw16116574079004516970:=0
def tw9648355200896240955:=0
def tw10599605609087922976:=0
def tw3374571464463689481:=0
def tw152647371328389179:=0
def tw12288688738448450790:=0
def tw2235993772531432981:=0
def tw16168942708352558225:=0
def tw14679173516840428428:=0
def tw8807650376099501892:=0
def tw16128180002826404552:=0
def tw7927149613645576135:=0
def tw12417561023069548307:=0
def tw12989795328112842187:=0
def tw5334627342650319548:=0
def tw10141395011422594047:=0
def tw11352953234506999144:=0
def tw1423421647591099876:=0
def tw971855085726428301:=0
def tw2412583013152589896:=0
def tw8188457523909960031:=0
def tw6209522900502678074:=0
def tw8393774984115702876:=0
def tw16561181218636537590:=0
def tw360951149601792037:=0
def tw8017159208539795823:=0
def tw5772347418194960648:=0
def tw8049789922942915196:=0
def tw9505085016781412347:=0
def tw12069481877961538113:=0
def tw5274863547200044436:=0
def tw12927835291610234186:=0
def tw5671603775057126668:=0
def tw16609605726563096634:=0
def tw10363598367927358112:=0
def tw11735646672283681669:=0
def tw14327405150563320749:=0
def tw2489305532524903865:=0
def tw7852435148647500685:=0
def tw4316236003549476983:=0
def tw15594530395559971953:=0
def tw9482632816994296364:=0
def tw3487641692181932390:=0
def tw3054030945716909983:=0
def tw9285256005424420058:=0
def tw3872138609799840357:=0
def tw17755906043097616166:=0
def tw12169963536145873802:=0
def tw615901564296335152:=0
def tw16009604333787439909:=0
def tw2358429969761510860:=0
def tw3508579451933031277:=0
def tw4581413485295463054:=0
def tw5722435406226574174:=0
def tw9637309670688795443:=0
def tw3103931354168723766:=0
def tw260018325957576736:=0
def tw6603476753225367097:=0
def tw15678784653207772544:=0
def tw13706602476650762456:=0
def tw511863167261226169:=0
def tw2878365718186607000:=0
def tw18169096534961060427:=0
def tw4707733749795468274:=0
def tw12592408713381752407:=0
def tw3977654439279131249:=0
def tw4069850937523837435:=0
def tw5555324027419469079:=0
def tw13174036324211668833:=0
def tw14513829127955551000:=0
def tw5341204322326989920:=0
def tw15300140174477387767:=0
def tw4459834665184916422:=0
def tw586879187281904022:=0
def tw12857459178599819707:=0
def tw6580722596947292410:=0
def tw10308070445183792366:=0
def tw6872424252998563049:=0
def tw11718547642759634694:=0
def tw16863620978306516803:=0
def tw8781934347280425354:=0
def tw1544844892635979292:=0
def tw4547998523186007709:=0
def tw4638878018824330492:=0
def tw10381110906856583401:=0
def tw7013387048606140209:=0
def tw2450031746035796252:=0
def tw4705347805294057962:=0
def tw17817034158575504701:=0
def tw10839462354754626342:=0
def tw4939935609932009020:=0
def tw6635678893539963334:=0
def tw14496160628594205953:=0
def tw5708663634914989087:=0
def tw11215906657567049136:=0
def tw5306357952697859707:=0
def tw17411191986386902115:=0
def tw1701402939319829638:=0
def tw6972653183717101860:=0
def tw13487344763479504075:=0
def tw9147094516010897334:=0
def tw1175593863149638249:=0
def tw12898729134328270946:=0
def tw8058370572576821612:=0
def tw12209149570695516124:=0
def tw6024788504096256340:=0
def tw7555588063563244924:=0
def tw11246987678392896664:=0
def tw5191076525249200271:=0
def tw8198641054367527497:=0
def tw18201197230790205145:=0
def tw7728561428848473877:=0
def tw15386468391885919376:=0
def tw14677545473384955272:=0
def tw10180184295626330533:=0
def tw10567035257188504714:=0
def tw4375877586735837778:=0
def tw14409646353476478241:=0
def tw4284518994926622196:=0
def tw1690727311474601528:=0
def tw7461760897754162680:=0
def tw9346067969951307211:=0
def tw13389280136328725624:=0
def tw13919332691510081264:=0
def tw16493326441918710049:=0
def tw4724663604783880033:=0
def tw3122268541639928321:=0
def tw18102558954767641881:=0
def tw931150694931249497:=0
def tw13050597289065238779:=0
def tw5710332030845634605:=0
end PySem.W.Fast
set_option maxRecDepth 100000 in
set_option maxHeartbeats 0 in
theorem PySem.Challenge.cw_onefolk_k17_whole_grounds_side_by_side_holds : PySem.Challenge.rw_onefolk_k17_whole_grounds_side_by_side.Holds := by
 w_on;refine PySem.W.holds_law (by decide +kernel) λsaid=>?_
 k_head;(case hw=>w_witness2)
 k_fill
 refine P1.EU (l:=PySem.Challenge.rw_onefolk_k17_whole_grounds_side_by_side) (T:=G17.T) (k:=8) (x := "_law_script") (st:=G17.s_law) (F_law:=G17.F_law) (λt=>t.x_law) ⟨rfl,by decide,by decide⟩ rfl (λw mg base t=>G17.DZ t) rfl rfl G17.H1 G17.H2 (λ_ _ _ _ _ _ _=>rfl) (λw h Y=>PySem.W.kIn_of Y) ?F
 case F=>
  intro w mg h KX G
  refine' ⟨P1.jF KX G _ _ _ _,P1.jF KX G _ _ _ _,P1.jF KX G _ _ _ _,P1.jF KX G _ _ _ _,P1.jF KX G _ _ _ _,P1.jF KX G _ _ _ _,P1.jF KX G _ _ _ _,P1.jF KX G _ _ _ _,P1.jF KX G _ _ _ _,P1.jF KX G _ _ _ _,P1.jF KX G _ _ _ _,P1.jF KX G _ _ _ _,P1.jF KX G _ _ _ _,P1.jF KX G _ _ _ _,P1.jF KX G _ _ _ _,P1.jF KX G _ _ _ _,P1.jF KX G _ _ _ _,P1.jF KX G _ _ _ _,P1.jF KX G _ _ _ _,P1.jF KX G _ _ _ _,P1.jF KX G _ _ _ _,P1.jF KX G _ _ _ _,P1.jF KX G _ _ _ _,P1.jF KX G _ _ _ _,P1.jF KX G _ _ _ _,P1.jF KX G _ _ _ _,P1.jF KX G _ _ _ _,P1.jF KX G _ _ _ _,P1.jF KX G _ _ _ _,P1.jF KX G _ _ _ _,P1.jF KX G _ _ _ _,P1.jF KX G _ _ _ _,P1.jF KX G _ _ _ _,P1.jF KX G _ _ _ _,qf KX G _,qf KX G _,qf KX G _,qf KX G _,qf KX G _,qf KX G _,qf KX G _,qf KX G _,qf KX G _,qf KX G _,qf KX G _,qf KX G _,qf KX G _,qf KX G _,qf KX G _,P1.HL KX G _,P1.HL KX G _,P1.HL KX G _⟩
  all_goals try (show _=_;k_is)
  all_goals try kernel_rfl
