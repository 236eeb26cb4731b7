import PyProof.Rows.All
import Wide.All
import OpenK.AllK
import Wide.FinOn
import PyProof.EqAt
import PyProof.EqKinds
import PyProof.TupleCall
import PyProof.StrLoop
import PyProof.StrWalks
import PyProof.CompFree
import PyProof.NeKinds
import PyProof.Rows.RuleN_isinstance
import PyProof.ConsumeWalk
import PyProof.IsiPairs
import PyProof.IsiSeqPairs
import PyProof.IsiHeapPairs
import PyProof.IsiNone
import PyProof.PureStr
import PyProof.StrCalls
import PyProof.Rows.SortStr
import PyProof.Rows.StrJoin2
import PyProof.CallStr
import PyProof.WalkInts
import PyProof.Rows.StrDigits
import PyProof.DictWalks
import PyProof.DictTruth
import PyProof.CollectWalk
import PyProof.WalkLemmas
import PyProof.Rows.SortShellK
import PyProof.Rows.SortWalk
import PyProof.SetKind
import PyProof.FactsAll.set
import PyProof.Rows.SetFrom
import PyProof.TupleKey
import PyProof.IsRules
import PyProof.WalksMore
import PyProof.SetRoads
import PyProof.DictCompW
import PyProof.ListRange
import PyProof.FString5
import PyProof.MeetsSeq2
import PyProof.FactsAll.tuple_0
import PyProof.FactsAll.tuple_2
import PyProof.FactsAll.tuple_3
import PyProof.EnumFor
import PyProof.EnumMake
import PyProof.EnumStmt
import PyProof.Rows.EnumRows
import PyProof.SumWalk
import PyProof.Rows.SeqCalls
import KE.KRevSl
import PyProof.ZipIter
import PyProof.TupleIter
import PyProof.AttrMiss
import KE.KDictOf
import KE.KDictLaws
import PyProof.TupleOfStr
import PyProof.StrCalls2
import PyProof.Rows.StrNews2
import PyProof.Rows.StrItems
import PyProof.Rows.StrSplitAre
import PyProof.Rows.StrGen4
import PyProof.Rows.RegStrFacts
import PyProof.Rows.FStr
import PyProof.SetNew
import PyProof.Rows.SetObj
import PyProof.Seq
import PyProof.Rows.SortShell
import PyProof.FactsAll.list_3
import KE.KIntText
import PyProof.StrCalls6
import PyProof.FitsReplace
import PyProof.ToksMono
import PyProof.FactsAll.str_4
import PyProof.StrBlock
import PyProof.RangeIter
import PyProof.CodeObj
import PyProof.Rows.CallKwBuiltin
import PyProof.StrLawsTight
import PyProof.Rows.StrPartPair
import PyProof.Rows.CatFin
import PyProof.Rows.StrClose
import PyProof.Rows.StrNext
import PyProof.Rows.StrBetween
import Lean
import PySem.Challenge.RW_onefolk_k14_why_two_are_one
open Option renaming some->U,none->Y
abbrev Z:=List
abbrev O:=Option
theorem S{α:Sort u}{a:α}:a=a:=rfl
open PySem renaming Value->A0,Addr->A1,Shared->A2,Program->A3,World->A4,Around->A5,Heap->A6,wpAny->A7,model->A8,starEach->A9,sizeLine->AA,Stmt->AB,Keyword->AC,backTo->AD,Obj->AE,codeAny->AF,compareOp->AG,bootBuiltins->AH,Paired->AI,Str->AJ
open PyProof.Rows renaming envOfC->AK,wpS_bind->AL,arrOf->AM
open PySem.W (instObj methodObj findIn specialIn keepIn cellsFrom_some fnOf codeIn codeRec_of nsIn isFn looks_findIn clsIn InstAt looks_mroIn mroIn check_slot looks_clsIn takesIn lookIn findObj handedIn exmOne kitOne kia_one)
set_option maxRecDepth 100000
set_option maxHeartbeats 4000000
set_option linter.all false
set_option Elab.async false
open PySem PySem.Spec PyProof.Rows
variable{w:A4}{i:Nat}{t:SetTable}{x:AJ}{a:A1}{prog:A3}{us:Z A0}{u:A0}{κ:Type}{o:AE}{h:A6}{items:Array A0}{P:A3}{α β:Type}{e:Expr}{n:Nat}{mg:AJ->O A0}{base:A6}{l:A1}{env:Env}{m:Z (AJ×AJ)}{AN:Z (A1×AE)}{s:A2}{it:A1}{j:Nat}{M:Model}{A:A5}{Q:Unit->A2->Prop}{hi:O Int}{D:A1}{es:Z Expr}{st:AB}{pos:Pos}{y:AJ}{hs:Z Int}{c tg:Expr}{body:Z AB}{fp:Z A1}{tn:Nat->A6->Prop}{iter:Expr}{lo:O Int}{tk:Nat}{pl:Z Nat}{C:A1}{op:CmpOp}{AQ:Z A0}{dx:O A1}{name:AJ}{tpos:Pos}{fd:FuncData}{apos:Pos}{qual:AJ}{scope:Scope}{osl sl:Array (O A0)}{p2 cpos:Pos}{XP:(AJ->O A0)->A6->Prop}{YP:A4->A6->Prop}{cl:Z (AJ×A1)}{is:Z Nat}{ifs:Z Expr}{elt tgt:Expr}{el:A1->Env->Sem Unit}{B:A5->Bool->Prop}{RR:A0->A1->Result->A2->Prop}{ep mask:Nat}{owner:Array (O Nat)}{elts:Z Expr}{x1:Nat}{γ δ:Type}{fI:A1}{bmB:Z A0}{newId:String}{os:OsState}{initId:String}{suite:Z AB}{Cs:Z A1}{a_:A1}
abbrev AZ:=Z PySem.Str
abbrev B9:=PySem.Value->PySem.Shared->Prop
abbrev B1:=PySem.W.Frag
abbrev B7:=Z Int
abbrev zb:=@wpAny_bind
abbrev zd:=@Heap.get?_push_of_some
abbrev ze:=@wpAny_pure
abbrev zg:=@Nat.le_refl
abbrev zh:=@if_pos
abbrev zi:=@List.length_map
abbrev zk:=@List.mem_cons_self
abbrev zo:=@List.mem_cons_of_mem
abbrev zr:=@Bool.false_eq_true
abbrev zt:=@Heap.lt_size
abbrev zv:=@Heap.get?_push_size
abbrev zw:=@List.map_cons
abbrev zz:=@Nat.le_of_ble_eq_true
abbrev zC:=@if_neg
abbrev zI:=@List.size_toArray
abbrev zS:=@List.length_append
abbrev Zl:=@Nat.ne_of_lt
abbrev Zp:=@List.mem_append_left
abbrev Zs:=@List.getElem?_eq_getElem
abbrev Zz:=@Bool.and_eq_true
abbrev ZA:=@List.mem_append_right
abbrev ZE:=@decide_eq_false
abbrev ZH:=@Nat.le_trans
abbrev ZI:=@Bool.false_ne_true
abbrev ZN:=@List.getElem?_map
abbrev ZO:=@if_false
abbrev ZT:=@decide_eq_true
abbrev ZU:=@Nat.lt_of_lt_of_le
abbrev ZY:=@List.append_nil
abbrev ZZ:=@wpAny_mono
abbrev Z3:=@List.getElem?_append_left
abbrev qa:=@PySem.W.mg_none_of
abbrev qc:=@List.length_cons
abbrev qf:=@Array.getElem?_eq_getElem
abbrev qh:=@wpAny_newObj_type
abbrev qi:=@decide_eq_true_eq
abbrev qk:=@Nat.lt_succ_self
abbrev qo:=@List.all_eq_true
abbrev qq:=@Array.length_toList
abbrev qr:=@List.getElem?_cons_succ
abbrev qv:=@Heap.size_push
abbrev qA:=@wpAny_holding
abbrev qB:=@List.map_append
abbrev qS:=@if_true
abbrev qV:=@Array.getElem?_toList
abbrev Qb:=@Nat.lt_succ_of_lt
abbrev Qr:=@Bool.not_eq_true'
abbrev QA:=@List.mem_of_getElem?
abbrev QE:=@Heap.get?_update_self
abbrev QI:=@List.getElem?_append_right
abbrev QN:=@Heap.get?_update_other
abbrev QO:=@List.foldl_cons
abbrev QP:=@List.any_eq_true
abbrev QQ:=@List.getElem?_eq_none
abbrev QR:=@wpAny_typeOf
abbrev QU:=@List.map_map
abbrev QY:=@Or.inr
abbrev Q1:=@Nat.zero_le
abbrev Q2:=@List.mem_cons
abbrev Q3:=@wpAny_setState_of
abbrev Q4:=@List.append_assoc
abbrev ja:=@Option.some.inj
abbrev js:=@List.not_mem_nil
abbrev jv:=@List.getElem?_replicate
abbrev jI:=@Ne.symm
abbrev jS:=@Nat.ne_of_gt
abbrev j0:=@List.nodup_nil
abbrev j3:=@List.getElem_of_mem
abbrev Jn:=@wpAny_field
abbrev JA:=@List.find?_cons
abbrev JE:=@Bool.eq_iff_iff
abbrev JI:=@Option.bind_some
abbrev JJ:=@Nat.le_of_lt
abbrev JO:=@Nat.le_succ
abbrev JP:=@wpAny_truthy_bool
abbrev JS:=@Or.inl
abbrev JU:=@codeAny_builtin
abbrev JY:=@List.map_congr_left
abbrev ka:=@Heap.get?_update_ne
abbrev kb:=@PySem.W.mg_of
abbrev kc:=@Nat.lt_irrefl
abbrev ke:=@wpAny_isInstance
abbrev kf:=@wpAny_call_entry
abbrev kg:=@Obj.data_mapFields
abbrev ki:=@List.rel_of_pairwise_cons
abbrev km:=@List.length_set
abbrev ko:=@of_decide_eq_true
abbrev kq:=@List.any_cons
abbrev kr:=@List.all_cons
abbrev ku:=@PySem.mem_of_lookup
abbrev ky:=@Bool.and_false
abbrev kz:=@List.length_take
abbrev kA:=@List.length_drop
abbrev kB:=@decide_eq_false_iff_not
abbrev kC:=@List.map_nil
abbrev kD:=@wpAny_Call_Name_kw
abbrev kF:=@List.length_pos_of_mem
abbrev kK:=@wpAny_passesOwn
abbrev kL:=@Nat.not_lt_zero
abbrev kM:=@List.nil_append
abbrev kP:=@List.cons.injEq
abbrev kQ:=@Bool.not_true
abbrev kR:=@List.lookup_cons_self
abbrev kU:=@List.reverse_cons
abbrev kX:=@Bool.not_false
abbrev k4:=@decide_false
abbrev k6:=@codeAny_mono
abbrev k7:=@List.getElem_mem
abbrev k8:=@List.filter_cons
abbrev k9:=@List.filterMap_cons
abbrev Kb:=@wpAny_standAt
abbrev Ki:=@Bool.and_true
abbrev Kj:=@wpAny_comprehension_free
abbrev Kk:=@wpAny_execs_nil
abbrev Kn:=@wpAny_rule
abbrev Kt:=@wpAny_call
abbrev Kx:=@Nat.lt_of_le_of_lt
abbrev KA:=@wpAny_getItem_str_slice
abbrev KB:=@wpAny_callSpecial?_slot
abbrev KF:=@List.pairwise_mergeSort
abbrev KG:=@Nat.zero_add
abbrev KI:=@wpAny_loadPart_at
abbrev KL:=@List.nodup_append
abbrev KM:=@List.length_range
abbrev KO:=@List.getElem?_set
abbrev KP:=@Int.toNat_natCast
abbrev KS:=@Array.size_append
abbrev KU:=@Array.getElem?_eq_none
abbrev KW:=@Obj.isFreed_of_fields
abbrev K0:=@wpAny_load
abbrev K2:=@wpAny_execs_cons
abbrev ya:=@Bool.true_and
abbrev yb:=@decide_true
abbrev ye:=@codeAny_call_builtin
abbrev yf:=@List.of_mem_zip
abbrev yi:=@List.mem_append
abbrev yk:=@List.replicate_succ
abbrev ym:=@List.mergeSort_perm
abbrev yn:=@Int.toNat_of_nonneg
abbrev yo:=@List.mem_map
abbrev yv:=@List.any_map
abbrev yz:=@List.mem_range
abbrev yA:=@Bool.false_and
abbrev yB:=@PySem.W.callWith_K
abbrev yT:=@Option.isSome_some
abbrev yY:=@wpAny_pyIter_list
abbrev y0:=@wpAny_attempt
abbrev y3:=@PySem.F.args_tuple_add_2
abbrev y7:=@List.length_erase_of_mem
abbrev y8:=@List.Pairwise.imp_of_mem
abbrev y9:=@List.nodup_range
abbrev Ya:=@PySem.F.plainAttrs_list
abbrev Yf:=@PySem.F.entry_tuple_add
abbrev YA:=@F.plain_set_update_loop
variable{K:B1}{N:AZ}{E:B9}{ps:AZ}{Ex:B9}{n_:AZ}
namespace L2
abbrev AY:=Sum Int AJ
def kZ:AY->A0->Bool
 |.inl k,v=>Value.isInt k v
 |.inr x,v=>Value.isStrOf x v
def du(w:A4):AY->Int
 |.inl k=>hashInt k
 |.inr x=>hashStr w x
theorem bQ:∀{k:AY} {v:A0},kZ k v=true->(∃i t,k=Sum.inl i/\v=Value.int i t)\/(∃x t,k=Sum.inr x/\v=Value.str x t)
 |.inl i,v,h=>by
  obtain⟨t,e⟩:=Value.isInt_shape (k:=i) (v:=v) h;exact .inl ⟨i,t,rfl,e⟩
 |.inr x,v,h=>by
  obtain⟨t,e⟩:=Value.isStrOf_shape (x:=x) (v:=v) h;exact .inr ⟨x,t,rfl,e⟩
theorem Wn(i:Int)(t:Tok):kZ (.inl i) (.int i t)=true:=by simp[kZ,Value.isInt]
theorem Wo(x:AJ)(t:Tok):kZ (.inr x) (.str x t)=true:=by simp[kZ,Value.isStrOf]
theorem UH(a b:Int):decide ((Sum.inl a:AY)=Sum.inl b)=(a==b):=by
 by_cases e:a=b
 ·subst e;simp
 ·have h:¬ (Sum.inl a:AY)=Sum.inl b:=λq=>e (Sum.inl.inj q);rw[ZE h];exact(beq_eq_false_iff_ne.mpr e).symm
theorem OK(a b:AJ):decide ((Sum.inr a:AY)=Sum.inr b)=decide (a=b):=by
 by_cases e:a=b
 ·subst e;simp
 ·have h:¬ (Sum.inr a:AY)=Sum.inr b:=λq=>e (Sum.inr.inj q);rw[ZE h,ZE e]
theorem df(a:Int)(b:AJ):decide ((Sum.inl a:AY)=Sum.inr b)=false:=ZE (λq=>nomatch q)
theorem bX(a:AJ)(b:Int):decide ((Sum.inr a:AY)=Sum.inl b)=false:=ZE (λq=>nomatch q)
def bF(prog:A3)(w:A4):PySem.KeyKind prog w AY where
 is:=kZ
 hash:=du w
 inj:=λv a b d hb=>by
  rcases bQ d with⟨i,t,rfl,rfl⟩|⟨x,t,rfl,rfl⟩
  ·rcases bQ hb with⟨j,u,rfl,e⟩|⟨y,u,rfl,e⟩
   ·injection e with e1 _;rw[e1]
   ·exact nomatch e
  ·rcases bQ hb with⟨j,u,rfl,e⟩|⟨y,u,rfl,e⟩
   ·exact nomatch e
   ·injection e with e1 _;rw[e1]
 byValue:=λk v h=>by
  rcases bQ h with⟨i,t,rfl,rfl⟩|⟨x,t,rfl,rfl⟩<;>rfl
 pyHash:=λc h=>by
  rcases bQ c with⟨i,t,rfl,rfl⟩|⟨x,t,rfl,rfl⟩
  ·exact wpAny_pyHash_int h
  ·exact wpAny_pyHash_str h
 eqBool:=λf c h=>by
  rcases bQ f with⟨i,t,rfl,rfl⟩|⟨x,t,rfl,rfl⟩
  ·rcases bQ c with⟨j,u,rfl,rfl⟩|⟨y,u,rfl,rfl⟩
   ·rw[UH]at h;exact wpAny_eqBool_int h
   ·rw[df]at h;exact SeqAt.EqAt.int_str i t y u _ _ _ _ h
  ·rcases bQ c with⟨j,u,rfl,rfl⟩|⟨y,u,rfl,rfl⟩
   ·rw[bX]at h;exact SeqAt.EqAt.str_int x t j u _ _ _ _ h
   ·rw[OK]at h;exact wpAny_eqBool_str h
 «strs»:=λk x t v h=>by
  rcases bQ h with⟨i,u,rfl,e⟩|⟨y,u,rfl,e⟩
  ·exact nomatch e
  ·injection e with e1 _;subst e1;cases v<;>rfl
theorem N6(prog:A3)(w:A4)(i:Int)(t:Tok):(bF prog w).is (.inl i) (.int i t)=true:=Wn i t
theorem N7(prog:A3)(w:A4)(x:AJ)(t:Tok):(bF prog w).is (.inr x) (.str x t)=true:=Wo x t
end L2
namespace L2
inductive V where
 |non|bl (b:Bool)|int (i:Int)|str (x:Str)|byt (b:Array UInt8)|flt (b:UInt64)|ref (a:Addr)|ty (n:String)
 deriving DecidableEq
def As:V->A0->Prop
 |.non,u=>u=Value.none
 |.bl b,u=>u=Value.bool b
 |.int i,u=>∃t,u=Value.int i t
 |.str x,u=>∃t,u=Value.str x t
 |.byt b,u=>∃t,u=Value.bytes b t
 |.flt b,u=>∃t,u=Value.float b t
 |.ref a,u=>u=Value.ref a
 |.ty n,u=>u=Value.type n
abbrev AX:Z V->Z A0->Prop:=AI As
theorem AX.length{xs:Z V}{us:Z A0}(r:AX xs us):xs.length=us.length:=Paired.length r
theorem AX.get:∀{xs:Z V} {us:Z A0} {i:Nat} {x:V},AX xs us->xs[i]?=U x->∃u,us[i]?=U u/\As x u
 |_,_,_,_,.nil,e=>by simp at e
 |_,_,0,_,.cons r _,e=>by simp at e;subst e;exact⟨_,rfl,r⟩
 |_,_,i+1,x,.cons _ t,e=>by
  obtain⟨u,h1,h2⟩:=AX.get (i:=i) (x:=x) t (by simpa using e);exact⟨u,by simpa using h1,h2⟩
theorem AX.set{x:V}{u:A0}(r:As x u):∀{xs:Z V} {us:Z A0} (i:Nat),AX xs us->AX (xs.set i x) (us.set i u)
 |_,_,_,.nil=>.nil
 |_,_,0,.cons _ t=>.cons r t
 |_,_,i+1,.cons q t=>.cons q (AX.set r i t)
theorem AX.append:∀{xs ys:Z V} {us a:Z A0},AX xs us->AX ys a->AX (xs++ys) (us++a)
 |_,_,_,_,.nil,s=>s
 |_,_,_,_,.cons r t,s=>.cons r (AX.append t s)
theorem AX.take:∀{xs:Z V} {us:Z A0} (n:Nat),AX xs us->AX (xs.take n) (us.take n)
 |_,_,0,_=>.nil
 |_,_,_+1,.nil=>.nil
 |_,_,n+1,.cons r t=>.cons r (AX.take n t)
theorem AX.drop:∀{xs:Z V} {us:Z A0} (n:Nat),AX xs us->AX (xs.drop n) (us.drop n)
 |_,_,0,r=>r
 |_,_,_+1,.nil=>.nil
 |_,_,n+1,.cons _ t=>AX.drop n t
def Cw:O V->O A0->Prop
 |some v,U u=>As v u
 |none,Y=>True
 |_,_=>False
def KV:Z (κ×V)->Z (κ×A0)->Prop:=AI λ(p:κ×V) (q:κ×A0)=>p.1=q.1/\As p.2 q.2
def kV:AY->V
 |.inl i=>.int i
 |.inr x=>.str x
inductive HO where
 |lst (xs:List V)
 |tup (xs:List V)
 |dK (AO:List (AY×V))|dT (AO:List (List AY×V))
 |set (S:Int->Bool) (n:Nat)
 |ins (C dx:Addr) (fs:List (Str×V))
 |own (x:Addr)
 |xd (fs:List (Str×V))
 |met (f x:Addr)
 |rng (lo hi:Int)
 |HS (o:Obj) (u:HO)
 |tbl (ps:Array Value)
 |ext (φ:Heap->Prop)
abbrev Hp:=A1->O HO
def B0(H:Hp)(a:A1)(o:HO):Hp:=λb=>if b=a then U o else H b
theorem aU{H:Hp}{o:HO}:B0 H a o a=U o:=by unfold B0;rw[zh rfl]
theorem aP{H:Hp}{b:A1}{o:HO}(h:b≠a):B0 H a o b=H b:=by unfold B0;rw[zC h]
def uH(h:A6)(a:A1)(items:Array A0):Prop:=∃o,h.get? a=U o/\o.cls=.type "tuple" ∧ (∃n,o.data=.seq items n)/\o.dict=Y
theorem uH.weak(x:uH h a items):IsTup h a items:=let ⟨o,e,c,d,_⟩:=x;⟨o,e,c,d⟩
theorem uH.new(h:A6)(items:Array A0):uH (h.push { cls:=.type "tuple",data:=.seq items }) h.objs.size items:=⟨_,zv _ rfl,rfl,⟨_,rfl⟩,rfl⟩
theorem lX{H:Hp}{b:A1}{o u:HO}(h:H a=U o)(h':H b=U u)(d:o≠u):a≠b:=by
 intro e;subst e;rw[h]at h';exact d (ja h')
theorem bH{H:Hp}{b:A1}{o:HO}(h:H a=U o)(h':H b=Y):a≠b:=by
 intro e;subst e;rw[h]at h';cases h'
section
variable(P:A3)(w:A4)
def gn(H:Hp)(h:A6)(a:A1):HO->Prop
 |.lst xs=>xs.length<=AA/\∃(AQ:Z A0) (n:Nat),AX xs AQ/\h.get? a=U { cls:=.type "list",data:=.seq AQ.toArray n }
 |.tup xs=>xs.length<=AA/\∃AQ:Z A0,AX xs AQ/\uH h a AQ.toArray
 |.dK AO=>AO.length<=AA/\(a==sysModules)=false/\∃vs,KV AO vs/\h.DictOf (bF P w) a vs
 |.dT AO=>AO.length<=AA/\(a==sysModules)=false/\∃xs:Z (Z AY×A1×A0),
   AI (λ(p:Z AY×V) (q:Z AY×A1×A0)=>p.1=q.1/\H q.2.1=U (.tup (p.1.map kV))/\As p.2 q.2.2) AO xs ∧
   ∃o es ep,h.get? a=U o/\o.ExactDict/\o.data=.dict es ep/\es.toList=xs.map (entryOfKey (tupleKind (bF P w)))/\(xs.map (·.1)).Nodup
 |.set S n=>h.SetOf (intKind P w) a S n
 |.ins C dx fs=>H dx=U (.own a)/\fs.length<=1000/\dx≠a/\h.get? a=U (instObj C dx) ∧
   ∃mA,h.Ns1 dx mA/\(∀f,Cw (fs.lookup f) (mA f))/\PySem.Within mA (fs.map (·.1))
 |.own _=>∃o,h.get? a=U o
 |.xd fs=>∃mA,h.Ns1 a mA/\∀f,Cw (fs.lookup f) (mA f)
 |.rng lo hi=>∃t u v,h.get? a=U { cls:=.type "range",data:=.fields #[.int lo t,.int hi u,.int 1 v] }
 |.HS o u=>h.get? a=U o/\gn H h a u
 |.tbl ps=>h.get? a=U { cls:=.none,data:=.fields ps }
 |.met f x=>h.get? a=U (methodObj (.ref f) (.ref x))
 |.ext b=>b h/\(∃o,h.get? a=U o)/\∀h1 h2:A6,b h1->(∀o,h1.get? a=U o->h2.get? a=U o)->b h2
def uI(H:Hp)(h:A6):Prop:=∀a o,H a=U o->gn P w H h a o
end
section
variable{H H':Hp}{h':A6}{o:HO}
theorem gn.lt(x:gn P w H h a o):a<h.objs.size:=by
 cases o with
 |lst xs=>obtain⟨_,_,_,_,e⟩:=x;exact zt e
 |tup xs=>obtain⟨_,_,_,p⟩:=x;exact p.weak.lt
 |dK AO=>obtain⟨_,_,_,_,o,_,_,e,_⟩:=x;exact zt e
 |dT AO=>obtain⟨_,_,_,_,o,_,_,e,_⟩:=x;exact zt e
 |set S n=>obtain⟨o,_,_,_,e,_⟩:=x;exact zt e
 |ins C dx fs=>obtain⟨_,_,_,e,_⟩:=x;exact zt e
 |own y=>obtain⟨_,e⟩:=x;exact zt e
 |xd fs=>obtain⟨_,⟨_,_,_,e,_⟩,_⟩:=x;exact zt e
 |rng lo hi=>obtain⟨_,_,_,e⟩:=x;exact zt e
 |HS b u=>obtain⟨e,_⟩:=x;exact zt e
 |tbl ps=>exact zt (show h.get? a=U _ from x)
 |met f y=>exact zt (show h.get? a=U _ from x)
 |ext c=>obtain⟨_,⟨_,e⟩,_⟩:=x;exact zt e
theorem Paired.acf{α β:Type}{F G:α->β->Prop}:∀{d:Z α} {c:Z β},AI F d c->(∀a b,F a b->G a b)->AI G d c
 |_,_,.nil,_=>.nil
 |_,_,.cons r t,f=>.cons (f _ _ r) (Paired.acf t f)
theorem Paired.imp'{F G:α->β->Prop}(f:∀a b,F a b->G a b){d:Z α}{c:Z β}(r:AI F d c):AI G d c:=Paired.acf r f
theorem gn.stay(x:gn P w H h a o)(k:∀b u,(b=a\/H b=U (.own a))->h.get? b=U u->h'.get? b=U u)
  (l:∀b,H b=U (.own a)->H' b=U (.own a)) (j:∀b xs,H b=U (.tup xs)->H' b=U (.tup xs)):gn P w H' h' a o:=by
 induction o with
 |lst xs=>obtain⟨z,AQ,n,r,e⟩:=x;exact⟨z,AQ,n,r,k _ _ (.inl rfl) e⟩
 |tup xs=>obtain⟨z,AQ,r,g,e,c⟩:=x;exact⟨z,AQ,r,g,k _ _ (.inl rfl) e,c⟩
 |dK AO=>obtain⟨z,y,vs,r,g,es,ep,e,c⟩:=x;exact⟨z,y,vs,r,g,es,ep,k _ _ (.inl rfl) e,c⟩
 |dT AO=>
  obtain⟨z,y,xs,r,g,es,ep,e,c⟩:=x;exact⟨z,y,xs,Paired.acf r λp q z=>⟨z.1,j _ _ z.2.1,z.2.2⟩,g,es,ep,k _ _ (.inl rfl) e,c⟩
 |set S n=>obtain⟨g,es,ep,t,e,c⟩:=x;exact⟨g,es,ep,t,k _ _ (.inl rfl) e,c⟩
 |ins C dx fs=>
  obtain⟨d,z,ne,e,mA,⟨i,es,ep,e2,c⟩,r⟩:=x;exact⟨l _ d,z,ne,k _ _ (.inl rfl) e,mA,⟨i,es,ep,k _ _ (.inr d) e2,c⟩,r⟩
 |own y=>obtain⟨g,e⟩:=x;exact⟨g,k _ _ (.inl rfl) e⟩
 |xd fs=>obtain⟨mA,⟨i,es,ep,e,c⟩,r⟩:=x;exact⟨mA,⟨i,es,ep,k _ _ (.inl rfl) e,c⟩,r⟩
 |rng lo hi=>obtain⟨t,u,v,e⟩:=x;exact⟨t,u,v,k _ _ (.inl rfl) e⟩
 |HS g u m=>obtain⟨e,q⟩:=x;exact⟨k _ _ (.inl rfl) e,m q⟩
 |tbl ps=>
  have e:h.get? a=U { cls:=.none,data:=.fields ps }:=x;show h'.get? a=U { cls:=.none,data:=.fields ps };exact k a _ (.inl rfl) e
 |met f y=>
  have e:h.get? a=U (methodObj (.ref f) (.ref y)):=x;show h'.get? a=U (methodObj (.ref f) (.ref y));exact k a _ (.inl rfl) e
 |ext s=>obtain⟨p,⟨o,e⟩,st⟩:=x;exact⟨st _ _ p λo q=>k _ _ (.inl rfl) q,⟨o,k _ _ (.inl rfl) e⟩,st⟩
theorem uI.lt(x:uI P w H h)(e:H a=U o):a<h.objs.size:=(x a o e).lt
theorem uI.fresh(x:uI P w H h)(e:h.objs.size<=a):H a=Y:=by
 cases q:H a with
 |none=>rfl
 |some u=>exact absurd (ZU (x.lt q) e) (kc _)
theorem uI.kept(x:uI P w H h)(k:∀b u,h.get? b=U u->h'.get? b=U u):uI P w H h':=λa o e=>
 (x a o e).stay (λb u _ q=>k b u q) (λ_ q=>q) λ_ _ q=>q
theorem uI.laid(x:uI P w H h)(k:∀b u,h.get? b=U u->h'.get? b=U u)(hp:h.objs.size<=a)(new:gn P w (B0 H a o) h' a o):uI P w (B0 H a o) h':=λb u e=>by
 have d:=x.fresh hp;by_cases hb:b=a
 ·subst hb;rw[aU]at e;cases e;exact new
 ·rw[aP hb]at e;exact(x b u e).stay (λc v _ q=>k c v q) (λc q=>by rw[aP (bH q d)];exact q) λc xs q=>by rw[aP (bH q d)];exact q
end
def Rd(H:Hp)(a:A1)(u:HO):Prop:=H a=U u\/∃o,H a=U (.HS o u)
theorem Rd.ok{H:Hp}{u:HO}(r:Rd H a u)(x:uI P w H h):gn P w H h a u:=by
 rcases r with r|⟨o,r⟩
 ·exact x a u r
 ·obtain⟨_,q⟩:=x a _ r;exact q
def EZ:O HO->Prop
 |some (.lst _)=>True
 |some (.dK _)=>True
 |some (.dT _)=>True
 |some (.set _ _)=>True
 |some (.ins _ _ _)=>True
 |some (.ext _)=>True
 |_=>False
section
variable{H:Hp}{h':A6}{x e:A1}{o':HO}
theorem uI.write(ok:uI P w H h)(d:EZ (H x))(he:e=x\/H e=U (.own x))(k:∀b u,b≠e->h.get? b=U u->h'.get? b=U u)(m:∃u,h'.get? e=U u)
  (new:gn P w (B0 H x o') h' x o'):uI P w (B0 H x o') h':=λb u q=>by
 have g:∀c y,H c=U (.own y)->c≠x:=λc y r z=>by subst z;rw[r]at d;exact d
 have j:∀c xs,H c=U (.tup xs)->c≠x:=λc xs r z=>by subst z;rw[r]at d;exact d
 by_cases hb:b=x
 ·subst hb;rw[aU]at q;cases q;exact new
 ·rw[aP hb]at q;by_cases a:b=e
  ·have i:H b=U (.own x):=by
    rcases he with z|z
    ·exact absurd (a.trans z) hb
    ·rw[a];exact z
   rw[q]at i;cases i;obtain⟨v,l⟩:=m;exact⟨v,by rw[a];exact l⟩
  ·refine(ok b u q).stay (λc v f r=>k c v ?_ r) (λc r=>by rw[aP (g c b r)];exact r) λc xs r=>by rw[aP (j c xs r)];exact r
   rcases f with rfl|f
   ·exact a
   ·rintro rfl;rcases he with z|z
    ·exact g c b f z
    ·rw[f]at z;cases z;exact hb rfl
end
structure Un (fs ex:List Addr) (H H':Hp) (h h':Heap):Prop where
 keep:∀b o,h.get? b=some o->H b=none->b∉fs->b∉ex->h'.get? b=some o
 slot:∀b o,h.get? b=some o->H b=none->b∈fs->b∉ex->∃sl,h'.get? b=some { o with slots:=sl }
 free:∀b o,h.get? b=some o->H b=none->b∉ex->H' b=none
 there:∀b o,h.get? b=some o->b∉ex->∃o',h'.get? b=some o'
 tups:∀b xs,H b=some (.tup xs)->H' b=some (.tup xs)
 wJ:∀b o u,H b=some (.HS o u)->H' b=some (.HS o u)
 yg:∀b ps,H b=some (.tbl ps)->∃more,H' b=some (.tbl (ps++more))
section
variable{fs fs' ex ex':Z A1}{H H1 H2:Hp}{h1 h2 h':A6}{x e:A1}{o:HO}
theorem Un.any(u:Un fs ex H H1 h h1){b:A1}{a:AE}(q:h.get? b=U a)(n:H b=Y)(hx:b∉ex):∃sl,h1.get? b=U { a with slots:=sl }:=by
 by_cases hb:b∈fs
 ·exact u.slot b a q n hb hx
 ·exact⟨a.slots,u.keep b a q n hb hx⟩
theorem Un.kept(k:∀b u,h.get? b=U u->h'.get? b=U u):Un fs ex H H h h':=
 ⟨λb a q _ _ _=>k b a q,λb a q _ _ _=>⟨a.slots,k b a q⟩,λ_ _ _ n _=>n,λb a q _=>⟨a,k b a q⟩,λ_ _ q=>q,λ_ _ _ q=>q,λ_ ps q=>⟨#[],by rw[q];simp⟩⟩
theorem Un.refl:Un fs ex H H h h:=Un.kept λ_ _ q=>q
theorem Un.laid(k:∀b u,h.get? b=U u->h'.get? b=U u)(hp:h.objs.size<=a)(c:H a=Y):Un fs ex H (B0 H a o) h h' where
 keep:=λb u q _ _ _=>k b u q
 slot:=λb u q _ _ _=>⟨u.slots,k b u q⟩
 free:=λb u q n _=>by rw[aP (Zl (ZU (zt q) hp))];exact n
 there:=λb u q _=>⟨u,k b u q⟩
 tups:=λb xs q=>by rw[aP (bH q c)];exact q
 wJ:=λb u xs q=>by rw[aP (bH q c)];exact q
 yg:=λb ps q=>⟨#[],by rw[aP (bH q c),q];simp⟩
theorem Un.write(a:EZ (H x))(he:e=x\/H e=U (.own x))(k:∀b u,b≠e->h.get? b=U u->h'.get? b=U u)(f:∃u,h'.get? e=U u):Un fs ex H (B0 H x o) h h':=by
 have hx:∀b,H b=Y->b≠x:=λb n z=>by subst z;rw[n]at a;exact a
 have hb:∀b,H b=Y->b≠e:=λb n z=>by
  subst z;rcases he with r|r
  ·exact hx b n r
  ·rw[n]at r;cases r
 have c:∀b u,H b=U u->¬ EZ (U u)->b≠x:=λb u q nm z=>by subst z;rw[q]at a;exact nm a
 refine⟨λb u q n _ _=>k b u (hb b n) q,λb u q n _ _=>⟨u.slots,k b u (hb b n) q⟩,λb u q n _=>by rw[aP (hx b n)];exact n,λb u q _=>?_,
  λb xs q=>by rw[aP (c b _ q λz=>z)];exact q,λb u xs q=>by rw[aP (c b _ q λz=>z)];exact q,λb ps q=>⟨#[],by rw[aP (c b _ q λz=>z),q];simp⟩⟩
 by_cases d:b=e
 ·subst d;exact f
 ·exact⟨u,k b u d q⟩
end
def GI(h:A6)(H:Hp):Z A1:=(List.range h.objs.size).filter λa=>(H a).isSome
def Km(h:A6)(H:Hp):A6:=PySem.W.hideAll h (GI h H)
theorem Wq(h:A6)(H:Hp):(Km h H).objs.size=h.objs.size:=PySem.W.hideAll_size _ _
theorem YD{H:Hp}{b:A1}(e:h.get? b=U o)(n:H b=Y):(Km h H).get? b=U o:=
 PySem.W.hideAll_get _ e λa=>by
  have q:(H b).isSome=true:=(List.mem_filter.mp a).2;rw[n]at q;simp at q
theorem Y1{H:Hp}{b:A1}(e:(Km h H).get? b=U o):h.get? b=U o/\H b=Y:=by
 have e':h.get? b=U o:=PySem.W.of_hideAll (GI h H) e;refine⟨e',?_⟩;cases q:H b with
 |none=>rfl
 |some x=>
  have a:b∈GI h H:=List.mem_filter.mpr ⟨List.mem_range.mpr (zt e'),by simp[q]⟩;have z:(Km h H).get? b=Y:=PySem.W.hideAll_none (GI h H) a;rw[z]at e;cases e
def Ps(g h:A6)(L:A1):Z (A1×AE):=(List.range h.objs.size).filterMap λa=>if a=L\/(g.get? a).isSome=true then Y else(h.get? a).map λo=>(a,o)
def AS(g h:A6)(L d:A1):Z (A1×AE):=(Ps g h L).filter λp=>decide (p.1≠d)
end L2
namespace L2
structure Mod (K:B1) (mg:Str->Option Value) (base:Heap):Prop where
 kin:K.In base
 glob:base.Ns mainGlobals mg
 blt:∃mb,base.Ns builtinsNs mb/\∀x:Str,x ≠ "__name__" → mb x=bootBuiltins x
 nolimit:base.NoLimit
structure Cx where
 prog:Program
 w:World
 K:B1
 mg:Str->Option Value
 base:Heap
 A:Around
 N:AZ
 s₀:Shared
 H₀:Hp
 env:Env
 outer:List Env
 stack:List Env
 ex:List Addr
 fn:Str->Bool
 calm:Bool
 pn:List (Addr×Obj)
 xe:B9
def BV(l:Z Env):Z A1:=l.filterMap (·.frame)
abbrev Cx.fs(X:Cx):Z A1:=BV X.outer
def U3(a:Scope)(x:AJ):Prop:=a.names.lookup x=U .local\/a.names.lookup x=U .cell\/a.names.lookup x=U .free
def D7(a:Scope)(x:AJ):Prop:=a.names.lookup x=U .local\/a.names.lookup x=U .cell
def GM(env:Env)(h:A6)(m:AJ->O A0)(x:AJ)(u:A0):Prop:=
 (env.kindOf x=U .local/\m x=U u)\/((env.kindOf x=U .cell\/env.kindOf x=U .free)/\∃c,env.cells.lookup x=U c/\h.IsCell c (U u))
structure Cx.Ok (X:Cx):Prop where
 mod:Mod X.K X.mg X.base
 kind:X.env.scope.kind=.function
 glob:X.env.globals=mainGlobals
 blt:X.env.builtins=builtinsNs
 above:X.s₀.heap.objs.size<=X.env.locals
 inj:∀x y c,X.env.cells.lookup x=some c->X.env.cells.lookup y=some c->x=y
 has:∀x,(X.env.kindOf x=some .cell\/X.env.kindOf x=some .free)->∃c,X.env.cells.lookup x=some c
 cab:∀x c,X.fn x=true->X.env.cells.lookup x=some c->X.s₀.heap.objs.size<=c
 hd:X.calm=true->X.A.handled=none
 frames:X.A.frames=some X.stack
 stk:X.stack=X.outer\/(X.stack=X.env::X.outer/\X.env.frame=some X.env.locals)
 exf:∀b∈X.ex,b≠X.env.locals/\∀x c,X.env.cells.lookup x=some c->c≠b
 bs:∀b o,X.base.get? b=some o->X.s₀.heap.get? b=some o/\X.H₀ b=none
 Ys:X.base.objs.size<=X.s₀.heap.objs.size
 Rx:∀b o,X.base.get? b=some o->b∉X.ex
 Wr:∀b∈X.ex,b∉X.fs
 uJ:X.s₀.heap.FunFrames X.base X.outer
 frf:∀b∈X.fs,X.H₀ b=none
structure AU (X:Cx) (AN:List (Addr×Obj)) (σ:List (Option V)) (H:Hp) (s:Shared):Prop where
 ok:X.Ok
 os:s.os=X.s₀.os
 bare:AllBare s.gens
 base:Un X.fs X.ex X.H₀ H X.s₀.heap s.heap
 loc:∃m,s.heap.Ns X.env.locals m/\∀(i:Nat) (x:Str) (v:V),X.N[i]?=some x->σ[i]?=some (some v)->U3 X.env.scope x->∃u,As v u/\GM X.env s.heap m x u
 cell:∀x c,X.env.cells.lookup x=some c->∃v,s.heap.IsCell c v
 free:H X.env.locals=none
 jy:∀x c,X.env.cells.lookup x=some c->H c=none
 pin:∀p∈X.pn++AN,s.heap.get? p.1=some p.2/\H p.1=none/\p.1≠X.env.locals/\p.1∉X.fs/\∀v,p.2.data≠.cell v
 hok:uI X.prog X.w H s.heap
 len:σ.length=X.N.length
section
variable{X:Cx}{σ:Z (O V)}{H H':Hp}{h':A6}
theorem Cx.Ok.akx(ok:X.Ok){b:A1}(e:X.base.get? b=U o):b∉X.fs:=λhb=>by
 have:=(ok.uJ.mem hb).1;rw[e]at this;cases this
theorem AU.bs(I:AU X AN σ H s):∀b o,X.base.get? b=U o->s.heap.get? b=U o/\H b=Y:=λb o e=>
 ⟨I.base.keep b o (I.ok.bs b o e).1 (I.ok.bs b o e).2 (I.ok.akx e) (I.ok.Rx b o e),I.base.free b o (I.ok.bs b o e).1 (I.ok.bs b o e).2 (I.ok.Rx b o e)⟩
theorem AU.bk(I:AU X AN σ H s):∀b o,X.base.get? b=U o->s.heap.get? b=U o:=λb o e=>(I.bs b o e).1
theorem AU.mod(I:AU X AN σ H s):Mod X.K X.mg X.base:=I.ok.mod
theorem AU.Es(I:AU X AN σ H s):X.K.In s.heap:=I.ok.mod.kin.keeps I.bk
theorem AU.lt(I:AU X AN σ H s):X.env.locals<s.heap.objs.size:=let ⟨_,hn,_⟩:=I.loc;hn.lt
theorem AU.sz(I:AU X AN σ H s):X.s₀.heap.objs.size<=s.heap.objs.size:=ZH I.ok.above (JJ I.lt)
theorem AU.aky(I:AU X AN σ H s)(h:s.heap.objs.size<=a):a∉X.fs:=λhb=>by
 obtain⟨_,o,b,_⟩:=I.ok.uJ.mem hb;exact absurd (ZU (zt b) (ZH I.sz h)) (kc _)
theorem AU.cne(I:AU X AN σ H s):∀x c,X.env.cells.lookup x=U c->c≠X.env.locals:=λx c e z=>by
 obtain⟨v,o,b,a⟩:=I.cell x c e;obtain⟨m,⟨o',es,ep,f,d,_⟩,_⟩:=I.loc;rw[z,f]at b;cases b;rw[d]at a;cases a
theorem AU.uJ(I:AU X AN σ H s):s.heap.FunFrames X.base X.outer:=by
 have all:∀(l:Z Env),(∀b∈BV l,b∈X.fs)->X.s₀.heap.FunFrames X.base l->s.heap.FunFrames X.base l:=by
  intro l
  induction l with
  |nil=>intro _ _;trivial
  |cons env r j=>
   intro hs g;obtain⟨f,⟨L,o,c,m,i,h⟩,d⟩:=g;have a:L∈X.fs:=hs L (by unfold BV;rw[k9,c];exact zk);obtain⟨sl,e⟩:=I.base.slot L o i (I.ok.frf L a) a λz=>I.ok.Wr L z a;exact⟨f,⟨L,_,c,m,e,h⟩,j (λb hb=>hs b (by unfold BV;rw[k9,c];exact zo _ hb)) d⟩
 exact all X.outer (λ_ hb=>hb) I.ok.uJ
theorem AU.stack(I:AU X AN σ H s):s.heap.FunFrames X.base X.stack:=by
 rcases I.ok.stk with e|⟨e,a⟩
 ·rw[e];exact I.uJ
 ·rw[e];obtain⟨m,b,_⟩:=I.loc;refine .cons (by rw[I.ok.kind];decide) a b ?_ I.uJ;exact Heap.get?_none_of_le (ZH I.ok.Ys I.ok.above)
theorem AU.Et(I:AU X AN σ H s):∀b∈BV X.stack,b∈X.env.locals::X.fs:=λb hb=>by
 rcases I.ok.stk with e|⟨e,a⟩
 ·rw[e]at hb;exact zo _ hb
 ·rw[e]at hb;unfold BV at hb;rw[k9,a]at hb;exact hb
theorem AU.Dq(I:AU X AN σ H s):∀b∈BV X.stack,H b=Y:=λb hb=>by
 rcases List.mem_cons.mp (I.Et b hb)with e|hb
 ·rw[e];exact I.free
 ·obtain⟨_,o,a,_⟩:=I.ok.uJ.mem hb;exact I.base.free b o a (I.ok.frf b hb) λz=>I.ok.Wr b z hb
theorem AU.step{g':Array GenState}{t':Nat}{d':Drawn}{ch:Z A1}(I:AU X AN σ H s)
  (f:∀b∈ch,(b∈X.ex\/X.s₀.heap.objs.size<=b)/\b≠X.env.locals/\(∀x c,X.env.cells.lookup x=U c->c≠b)/\∀p∈X.pn++AN,p.1≠b)
  (keep:∀b o,b≠X.env.locals->b∉X.fs->b∉ch->s.heap.get? b=U o->H b=Y->h'.get? b=U o)
  (slot:∀b o,b≠X.env.locals->b∈X.fs->b∉ch->s.heap.get? b=U o->H b=Y->∃sl,h'.get? b=U { o with slots:=sl }) (free:∀b o,b∉ch->s.heap.get? b=U o->H b=Y->H' b=Y)
  (E:∀b o,b∉ch->s.heap.get? b=U o->∃o',h'.get? b=U o')
  (J:∀b xs,H b=U (.tup xs)->H' b=U (.tup xs)) (K:∀b o u,H b=U (.HS o u)->H' b=U (.HS o u)) (Q:∀b ps,H b=U (.tbl ps)->∃D,H' b=U (.tbl (ps++D)))
  (ns:∀m,s.heap.Ns X.env.locals m->h'.Ns X.env.locals m) (N:uI X.prog X.w H' h') (C:AllBare g'):
  AU X AN σ H' { s with heap:=h',gens:=g',drawn:=d',toks:=t' }:=by
 have t:∀b o,X.s₀.heap.get? b=U o->b≠X.env.locals:=λb o e=>Zl (ZU (zt e) I.ok.above);have h:∀b o,X.s₀.heap.get? b=U o->b∉X.ex->b∉ch:=λb o e hx hb=>by
  rcases(f b hb).1 with z|z
  ·exact hx z
  ·exact absurd (ZU (zt e) z) (kc _)
 have y:∀x c,X.env.cells.lookup x=U c->∀v,s.heap.IsCell c v->h'.IsCell c v:=λx c e v ⟨o,a,j⟩=>by
  have g:c∉ch:=λz=>(f c z).2.2.1 x c e rfl;by_cases A:c∈X.fs
  ·obtain⟨sl,q⟩:=slot c o (I.cne x c e) A g a (I.jy x c e);exact⟨_,q,j⟩
  ·exact⟨o,keep c o (I.cne x c e) A g a (I.jy x c e),j⟩
 refine⟨I.ok,I.os,C,⟨λb o e n hb hx=>?_,λb o e n hb hx=>?_,λb o e n hx=>?_,λb o e hx=>?_,λb xs e=>J b xs (I.base.tups b xs e),λb o xs e=>K b o xs (I.base.wJ b o xs e),λb ps e=>?_⟩,?_,λx c e=>?_,?_,λx c e=>?_,λp hp=>?_,N,I.len⟩
 ·exact keep b o (t b o e) hb (h b o e hx) (I.base.keep b o e n hb hx) (I.base.free b o e n hx)
 ·obtain⟨sl,e1⟩:=I.base.slot b o e n hb hx;obtain⟨F,e2⟩:=slot b _ (t b o e) hb (h b o e hx) e1 (I.base.free b o e n hx);exact⟨F,e2⟩
 ·obtain⟨o',e1⟩:=I.base.there b o e hx;exact free b o' (h b o e hx) e1 (I.base.free b o e n hx)
 ·obtain⟨o',e1⟩:=I.base.there b o e hx;exact E b o' (h b o e hx) e1
 ·obtain⟨G,e1⟩:=I.base.yg b ps e;obtain⟨P,e2⟩:=Q b _ e1;exact⟨G++P,by rw[e2,Array.append_assoc]⟩
 ·obtain⟨m,L,M⟩:=I.loc;refine⟨m,ns m L,λi x v e1 e2 e3=>?_⟩;obtain⟨u,r,l⟩:=M i x v e1 e2 e3;refine⟨u,r,?_⟩;rcases l with l|⟨k,c,e,z⟩
  ·exact .inl l
  ·exact .inr ⟨k,c,e,y x c e _ z⟩
 ·obtain⟨v,z⟩:=I.cell x c e;exact⟨v,y x c e v z⟩
 ·obtain⟨m,⟨o,_,_,a,_⟩,_⟩:=I.loc;exact free _ o (λz=>(f _ z).2.1 S) a I.free
 ·obtain⟨v,o,a,j⟩:=I.cell x c e;exact free c o (λz=>(f c z).2.2.1 x c e S) a (I.jy x c e)
 ·obtain⟨e,n,ne,B,d⟩:=I.pin p hp;have g:p.1∉ch:=λz=>(f p.1 z).2.2.2 p hp rfl;exact⟨keep p.1 p.2 ne B g e n,free p.1 p.2 g e n,ne,B,d⟩
theorem AU.un{t':Nat}(I:AU X AN σ H s)(u:Un X.fs [] H H' s.heap h')(f:uI X.prog X.w H' h'):AU X AN σ H' { s with heap:=h',toks:=t' }:=by
 obtain⟨m,⟨o,es,ep,a,r⟩,_⟩:=id I.loc;obtain⟨sl,d⟩:=u.any a I.free (by simp);exact I.step (g':=s.gens) (d':=s.drawn) (ch:=[]) (λ_ z=>nomatch z) (λb o _ hb _ e n=>u.keep b o e n hb (by simp)) (λb o _ hb _ e n=>u.slot b o e n hb (by simp)) (λb o _ e n=>u.free b o e n (by simp)) (λb o _ e=>u.there b o e (by simp)) u.tups u.wJ u.yg (λl j=>by
  obtain⟨o',g,i,c,h⟩:=j;rw[a]at c;cases c;exact⟨_,g,i,d,h⟩) f I.bare
theorem AU.call{g':Array GenState}{t':Nat}{d':Drawn}{ch:Z A1}(I:AU X AN σ H s)(u:Un (BV X.stack) ch H H' s.heap h')(i:uI X.prog X.w H' h')(l:AllBare g')
  (f:∀b∈ch,(b∈X.ex\/X.s₀.heap.objs.size<=b)/\b≠X.env.locals/\(∀x c,X.env.cells.lookup x=U c->c≠b)/\∀p∈X.pn++AN,p.1≠b):
  AU X AN σ H' { s with heap:=h',gens:=g',drawn:=d',toks:=t' }:=by
 obtain⟨m,⟨o,es,ep,g,r⟩,_⟩:=id I.loc;obtain⟨sl,d⟩:=u.any g I.free λz=>(f _ z).2.1 rfl;exact I.step (ch:=ch) f (λb o d hb a e n=>u.keep b o e n (λz=>(List.mem_cons.mp (I.Et b z)).elim d hb) a) (λb o _ _ a e n=>u.any e n a) (λb o a e n=>u.free b o e n a) (λb o a e=>u.there b o e a) u.tups u.wJ u.yg (λy v=>by
  obtain⟨o',j,t,h,q⟩:=v;rw[g]at h;cases h;exact⟨_,j,t,d,q⟩) i l
theorem AU.turned{t':Nat}(I:AU X AN σ H s)(k:∀b o,b≠it->s.heap.get? b=U o->h'.get? b=U o)(j:H it=Y)(d:it≠X.env.locals)(h1:it∈X.ex\/X.s₀.heap.objs.size<=it)(h2:∀x c,X.env.cells.lookup x=U c->c≠it)(g:∀p∈X.pn++AN,p.1≠it):AU X AN σ H { s with heap:=h',toks:=t' }:=by
 have f:∀b u,H b=U u->b≠it:=λb u e z=>by rw[z,j]at e;cases e
 refine I.step (g':=s.gens) (d':=s.drawn) (ch:=[it]) (λb hb=>?_) (λb o _ _ a e _=>k b o (λz=>a (by simp[z])) e) (λb o _ _ a e _=>⟨o.slots,k b o (λz=>a (by simp[z])) e⟩) (λ_ _ _ _ n=>n)
  (λb o a e=>⟨o,k b o (λz=>a (by simp[z])) e⟩) (λ_ _ e=>e) (λ_ _ _ e=>e) (λb ps e=>⟨#[],by rw[e];simp⟩) (λm i=>?_) (λb u e=>?_) I.bare
 ·have e:b=it:=by simpa using hb
  subst e;exact⟨h1,d,h2,g⟩
 ·obtain⟨o,es,ep,h,r⟩:=i;exact⟨o,es,ep,k _ o (jI d) h,r⟩
 ·refine(I.hok b u e).stay (λc v a q=>k c v ?_ q) (λ_ q=>q) λ_ _ q=>q;rcases a with z|z
  ·rw[z];exact f b u e
  ·exact f c _ z
theorem AU.tok(I:AU X AN σ H s)(t:Nat):AU X AN σ H { s with toks:=t }:=I.un (h':=s.heap) (t':=t) Un.refl I.hok
theorem AU.kept{t':Nat}(I:AU X AN σ H s)(k:∀b u,s.heap.get? b=U u->h'.get? b=U u):AU X AN σ H { s with heap:=h',toks:=t' }:=I.un (Un.kept k) (I.hok.kept k)
theorem AU.laid{a:A1}{o:HO}{t':Nat}(I:AU X AN σ H s)(k:∀b u,s.heap.get? b=U u->h'.get? b=U u)(hp:s.heap.objs.size<=a)(new:gn X.prog X.w (B0 H a o) h' a o):
  AU X AN σ (B0 H a o) { s with heap:=h',toks:=t' }:=I.un (Un.laid k hp (I.hok.fresh hp)) (I.hok.laid k hp new)
theorem AU.write{x e:A1}{o:HO}{t':Nat}(I:AU X AN σ H s)(a:EZ (H x))(he:e=x\/H e=U (.own x))(k:∀b u,b≠e->s.heap.get? b=U u->h'.get? b=U u)(c:∃u,h'.get? e=U u)
  (new:gn X.prog X.w (B0 H x o) h' x o):AU X AN σ (B0 H x o) { s with heap:=h',toks:=t' }:=I.un (Un.write a he k c) (I.hok.write a he k c new)
theorem AU.Dr{YF:Z (A1×AE)}(I:AU X AN σ H s)(h:∀p∈YF,s.heap.get? p.1=U p.2/\H p.1=Y/\p.1≠X.env.locals/\p.1∉X.fs/\∀v,p.2.data≠.cell v):AU X YF σ H s:=
 ⟨I.ok,I.os,I.bare,I.base,I.loc,I.cell,I.free,I.jy,λp hp=>(List.mem_append.mp hp).elim (λz=>I.pin p (Zp _ z)) (h p),I.hok,I.len⟩
theorem Eu(c:N.Nodup)(a:N[i]?=U x)(b:N[j]?=U x):i=j:=by
 obtain⟨h1,e1⟩:=List.getElem?_eq_some_iff.mp a;obtain⟨h2,e2⟩:=List.getElem?_eq_some_iff.mp b;exact(List.getElem_inj c).mp (e1.trans e2.symm)
theorem Ws{v:V}(I:AU X AN σ H s)(hN:X.N.Nodup)(hi:X.N[i]?=U x)(hx:D7 X.env.scope x)(r:As v u)(h:∀s',AU X AN (σ.set i (U v)) H s'->(∃a,Heap.SameBut a s.heap s'.heap/\(a=X.env.locals\/X.env.cells.lookup x=U a))->Q () s')(hf:X.fn x=true\/X.env.scope.names.lookup x=U .local:=by first|exact .inl rfl|exact .inr rfl|assumption):A7 M A (storeName X.env x u) Q E s:=by
 obtain⟨m,F,hl⟩:=id I.loc;have b0:(X.env.scope.kind==.class||(X.env.scope.kind==.module&&X.env.locals !=X.env.globals))=false:=by rw[I.ok.kind];rfl
 have a3:i<σ.length:=by rw[I.len];exact(List.getElem?_eq_some_iff.mp hi).1
 have cne:=I.cne;have L:∀{a:A1} {h':A6},(∃o,s.heap.get? a=U o/\H a=Y)->Heap.SameBut a s.heap h'->uI X.prog X.w H h':=λ{a h'} ha hs b ob e=>by
  obtain⟨_,_,a2⟩:=ha;refine(I.hok b ob e).stay (λc B f q=>(hs.2 c ?_).trans q) (λ_ q=>q) λ_ _ q=>q;rintro rfl;rcases f with rfl|f
  ·rw[a2]at e;cases e
  ·rw[a2]at f;cases f
 rcases hx with g|g
 ·refine wpAny_storeName_local g F (λh' c0 hs=>?_) b0;obtain⟨oL,_,_,b3,_⟩:=id F;refine h _ ⟨I.ok,I.os,I.bare,⟨λb o e n hb hx=>?_,λb o e n hb hx=>?_,I.base.free,λb o e hx=>?_,I.base.tups,I.base.wJ,I.base.yg⟩,⟨_,c0,λj y C e1 e2 e3=>?_⟩,λy c e=>?_,I.free,I.jy,λp hp=>?_,L ⟨oL,b3,I.free⟩ hs,by simpa using I.len⟩ ⟨_,hs,.inl rfl⟩
  ·exact(hs.2 b (Zl (ZU (zt e) I.ok.above))).trans (I.base.keep b o e n hb hx)
  ·obtain⟨sl,e1⟩:=I.base.slot b o e n hb hx;exact⟨sl,(hs.2 b (Zl (ZU (zt e) I.ok.above))).trans e1⟩
  ·obtain⟨o',e1⟩:=I.base.there b o e hx;exact⟨o',(hs.2 b (Zl (ZU (zt e) I.ok.above))).trans e1⟩
  ·by_cases l:j=i
   ·subst l;rw[hi]at e1;cases e1;rw[List.getElem?_set_self a3]at e2;cases e2;exact⟨u,r,.inl ⟨g,by simp⟩⟩
   ·rw[List.getElem?_set_ne (jI l)]at e2;obtain⟨G,K,q⟩:=hl j y C e1 e2 e3;refine⟨G,K,?_⟩;rcases q with⟨k,e⟩|⟨k,c,e,z⟩
    ·refine .inl ⟨k,?_⟩;have:y≠x:=λe=>l (Eu hN e1 (e▸hi));simp[this,e]
    ·exact .inr ⟨k,c,e,z.sameBut hs (cne y c e)⟩
  ·obtain⟨B,z⟩:=I.cell y c e;exact⟨B,z.sameBut hs (cne y c e)⟩
  ·obtain⟨e,n,ne,J,d⟩:=I.pin p hp;exact⟨(hs.2 p.1 ne).trans e,n,ne,J,d⟩
 ·have D:X.fn x=true:=by
   rcases hf with z|z
   ·exact z
   ·rw[z]at g;cases g
  obtain⟨c,f⟩:=I.ok.has x (.inl g);obtain⟨B,z⟩:=I.cell x c f;refine wpAny_storeName_cell I.ok.kind g f z (λh' P hs=>?_);obtain⟨W,a0,a5⟩:=id z;refine h { s with heap:=h' } ⟨I.ok,I.os,I.bare,⟨λb o e n hb hx=>?_,λb o e n hb hx=>?_,I.base.free,λb o e hx=>?_,I.base.tups,I.base.wJ,I.base.yg⟩,⟨m,F.sameBut hs (jI (cne x c f)),λj y C e1 e2 e3=>?_⟩,λy t e=>?_,I.free,I.jy,λp hp=>?_,L ⟨W,a0,I.jy x c f⟩ hs,by simpa using I.len⟩ ⟨c,hs,.inr f⟩
  ·exact(hs.2 b (Zl (ZU (zt e) (I.ok.cab x c D f)))).trans (I.base.keep b o e n hb hx)
  ·obtain⟨sl,e1⟩:=I.base.slot b o e n hb hx;exact⟨sl,(hs.2 b (Zl (ZU (zt e) (I.ok.cab x c D f)))).trans e1⟩
  ·obtain⟨o',e1⟩:=I.base.there b o e hx;exact⟨o',(hs.2 b (Zl (ZU (zt e) (I.ok.cab x c D f)))).trans e1⟩
  ·by_cases l:j=i
   ·subst l;rw[hi]at e1;cases e1;rw[List.getElem?_set_self a3]at e2;cases e2;exact⟨u,r,.inr ⟨.inl g,c,f,P⟩⟩
   ·rw[List.getElem?_set_ne (jI l)]at e2;obtain⟨G,K,q⟩:=hl j y C e1 e2 e3;refine⟨G,K,?_⟩;rcases q with q|⟨k,t,e,z'⟩
    ·exact .inl q
    ·refine .inr ⟨k,t,e,z'.sameBut hs ?_⟩;rintro rfl;exact l (Eu hN e1 (I.ok.inj _ _ _ e f▸hi))
  ·by_cases a1:t=c
   ·subst a1;exact⟨_,P⟩
   ·obtain⟨w2,z2⟩:=I.cell y t e;exact⟨w2,z2.sameBut hs a1⟩
  ·obtain⟨e,n,ne,J,d⟩:=I.pin p hp;refine⟨(hs.2 p.1 ?_).trans e,n,ne,J,d⟩;intro q;rw[q,a0]at e;have q':W=p.2:=ja e;exact d B (by rw[<-q'];exact a5)
theorem qN{v:V}(I:AU X AN σ H s)(b:X.N.Nodup)(hi:X.N[i]?=U x)(hx:D7 X.env.scope x)(r:As v u)(h:∀s',AU X AN (σ.set i (U v)) H s'->Q () s')(a:X.fn x=true\/X.env.scope.names.lookup x=U .local:=by first|exact .inl rfl|exact .inr rfl|assumption):A7 M A (storeName X.env x u) Q E s:=
 Ws I b hi hx r (λs' c _=>h s' c) a
theorem AU.call'{s':A2}{ch:Z A1}(I:AU X AN σ H s)(g:s'.os=s.os)(u:Un (BV X.stack) ch H H' s.heap s'.heap)(f:uI X.prog X.w H' s'.heap)(d:AllBare s'.gens)
  (a:∀b∈ch,(b∈X.ex\/X.s₀.heap.objs.size<=b)/\b≠X.env.locals/\(∀x c,X.env.cells.lookup x=U c->c≠b)/\∀p∈X.pn++AN,p.1≠b):AU X AN σ H' s':=by
 obtain⟨h',g',d',t',o'⟩:=s';have e:o'=s.os:=g;subst e;exact I.call (g':=g') (t':=t') (d':=d') u f d a
end
abbrev XK:=A0->O A1->Hp->Prop
abbrev St:=Z (O V)
abbrev VK:=V->Hp->Prop
abbrev TE:=St->Hp->VK->Prop
abbrev TT:=St->Hp->(Bool->Hp->Prop)->Prop
abbrev TA:=St->Hp->(Z V->Hp->Prop)->Prop
structure Be where
 nx:St->Hp->Prop
 rt:VK
 bk:St->Hp->Prop:=λ_ _=>False
 ct:St->Hp->Prop:=λ_ _=>False
abbrev TS:=Be->St->Hp->Prop
def EP(X:Cx)(AN:Z (A1×AE))(σ:St)(Q:VK)(u:A0)(s':A2):Prop:=∃v H',AU X AN σ H' s'/\As v u/\Q v H'
def TP(X:Cx)(AN:Z (A1×AE))(σ:St)(Q:Bool->Hp->Prop)(b:Bool)(s':A2):Prop:=∃H',AU X AN σ H' s'/\Q b H'
def AP(X:Cx)(AN:Z (A1×AE))(σ:St)(Q:Z V->Hp->Prop)(us:Z A0)(s':A2):Prop:=∃vs H',AU X AN σ H' s'/\AX vs us/\Q vs H'
def SP(X:Cx)(AN:Z (A1×AE))(D:Be)(f:Flow)(s':A2):Prop:=
 match f with
 |.next=>∃ σ' H',AU X AN σ' H' s'/\D.nx σ' H'
 |.brk=>∃ σ' H',AU X AN σ' H' s'/\D.bk σ' H'
 |.cont=>∃ σ' H',AU X AN σ' H' s'/\D.ct σ' H'
 |.ret u=>∃v σ' H',AU X AN σ' H' s'/\As v u/\D.rt v H'
def PE(X:Cx)(e:Expr)(t:TE):Prop:=
 ∀(AN:Z (A1×AE)) (s:A2) (σ:St) (H:Hp) (Q:VK),AU X AN σ H s->t σ H Q->A7 (A8 X.prog X.w) X.A (eval e X.env) (EP X AN σ Q) X.xe s
def PT(X:Cx)(e:Expr)(t:TT):Prop:=
 ∀(AN:Z (A1×AE)) (s:A2) (σ:St) (H:Hp) (Q:Bool->Hp->Prop),AU X AN σ H s->t σ H Q->A7 (A8 X.prog X.w) X.A (isTrue e X.env (eval e X.env)) (TP X AN σ Q) X.xe s
def PW(X:Cx)(e:Expr)(t:TT):Prop:=
 ∀(a:Sem A0) (AN:Z (A1×AE)) (s:A2) (σ:St) (H:Hp) (Q:Bool->Hp->Prop),AU X AN σ H s->t σ H Q->A7 (A8 X.prog X.w) X.A (isTrue e X.env a) (TP X AN σ Q) X.xe s
theorem PW.pt{X:Cx}{t:TT}(h:PW X e t):PT X e t:=h _
def PA(X:Cx)(es:Z Expr)(t:TA):Prop:=
 ∀(pos:Pos) (AN:Z (A1×AE)) (s:A2) (σ:St) (H:Hp) (Q:Z V->Hp->Prop),AU X AN σ H s->t σ H Q->A7 (A8 X.prog X.w) X.A (spliced (AD pos (A9 es X.env))) (AP X AN σ Q) X.xe s
def PS(X:Cx)(st:AB)(t:TS):Prop:=
 ∀(AN:Z (A1×AE)) (s:A2) (σ:St) (H:Hp) (D:Be),AU X AN σ H s->t D σ H->A7 (A8 X.prog X.w) X.A (exec st X.env) (SP X AN D) X.xe s
def Cy(X:Cx)(st:Z AB)(t:TS):Prop:=
 ∀(AN:Z (A1×AE)) (s:A2) (σ:St) (H:Hp) (D:Be),AU X AN σ H s->t D σ H->A7 (A8 X.prog X.w) X.A (execs st X.env) (SP X AN D) X.xe s
theorem gM{t:Sem α}{Q b:α->A2->Prop}(h:A7 M A t Q E s)(c:∀a s,Q a s->b a s):A7 M A t b E s:=ZZ h c λ_ _ x=>x
end L2
namespace L2
section
variable{X:Cx}
def YG(i:Nat):TE:=λσ H Q=>∃v,σ[i]?=U (U v)/\Q v H
def tC(v:V):TE:=λ_ H Q=>Q v H
theorem rH(j:X.N[i]?=U x)(p:U3 X.env.scope x)(d:(x==("__debug__":AJ))=false:=by decide)(n:(x==("__classdict__":AJ))=false:=by decide):PE X (.Name x pos) (YG i):=by
 intro AN s σ H Q I h;obtain⟨v,e,h⟩:=h;obtain⟨m,t,o⟩:=I.loc;obtain⟨u,r,l⟩:=o i x v j e p;have b:EP X AN σ Q u s:=⟨v,H,I,r,h⟩;rcases l with⟨a,q⟩|⟨a,c,g,f⟩
 ·exact wpAny_Name (wpAny_loadName_local I.ok.kind a t q b) d
 ·rcases a with a|a
  ·exact wpAny_Name (wpAny_loadName_cell I.ok.kind a g f b) d
  ·exact wpAny_Name (wpAny_loadName_free I.ok.kind a g f b n) d
theorem Ry{i j pos}:PE X (.Constant (.int i) j pos) (tC (.int i)):=λ_ _ _ H _ I h=>wpAny_Constant_int ⟨.int i,H,I.tok _,⟨_,rfl⟩,h⟩
theorem Md{b j pos}:PE X (.Constant (.bool b) j pos) (tC (.bl b)):=λ_ _ _ H _ I h=>Constant_bool ⟨.bl b,H,I,rfl,h⟩
theorem WH{j pos}:PE X (.Constant .none j pos) (tC .non):=λ_ _ _ H _ I h=>Constant_none ⟨.non,H,I,rfl,h⟩
theorem Pf{x j pos}:PE X (.Constant (.str x) j pos) (tC (.str x)):=λ_ _ _ H _ I h=>Calls.Constant_str ⟨.str x,H,I.tok _,⟨_,rfl⟩,h⟩
def Gl(X:Cx)(x:AJ):Prop:=X.env.kindOf x=U .globalImplicit
theorem vU{σ:St}{H:Hp}{Q:B9}(I:AU X AN σ H s)(c:Gl X x)(b:X.mg x=U u)(h:Q u s)(a:(x==("__debug__":AJ))=false:=by decide):A7 (A8 X.prog X.w) X.A (eval (.Name x pos) X.env) Q E s:=
 Calls.Name_function_global I.ok.kind c (Calls.loadGlobal_global (by rw[I.ok.glob];exact I.mod.glob.keeps I.bk) b h) a
theorem zU{σ:St}{H:Hp}{Q:B9}(I:AU X AN σ H s)(c:Gl X x)(b:X.mg x=Y)(d:AH x=U u)(h:Q u s)(e:x ≠ "__name__":=by decide)(a:(x==("__debug__":AJ))=false:=by decide):A7 (A8 X.prog X.w) X.A (eval (.Name x pos) X.env) Q E s:=by
 obtain⟨f,h1,h2⟩:=I.mod.blt;exact Calls.Name_function_global I.ok.kind c (Calls.loadGlobal_builtin (by rw[I.ok.glob];exact I.mod.glob.keeps I.bk) b (by rw[I.ok.blt];exact h1.keeps I.bk) ((h2 x e).trans d) h) a
theorem jY{v:V}(c:Gl X x)(b:X.mg x=U u)(r:As v u)(a:(x==("__debug__":AJ))=false:=by decide):PE X (.Name x pos) (tC v):=
 λ_ _ _ H _ I h=>vU I c b ⟨v,H,I,r,h⟩ a
theorem Ko{v:V}(c:Gl X x)(b:X.mg x=Y)(d:AH x=U u)(r:As v u)(e:x ≠ "__name__":=by decide)(a:(x==("__debug__":AJ))=false:=by decide):PE X (.Name x pos) (tC v):=
 λ_ _ _ H _ I h=>zU I c b d ⟨v,H,I,r,h⟩ e a
variable{a b:Expr}{ta tb:TE}
variable{tA tB':TT}{AS:Z Expr}
def M'(t u:TT):TT:=λσ H Q=>t σ H λc H1=>if c=true then u σ H1 Q else Q false H1
def MG(t u:TT):TT:=λσ H Q=>t σ H λc H1=>if c=true then Q true H1 else u σ H1 Q
def eP(t:TT):TT:=λσ H Q=>t σ H λc H1=>Q (!c) H1
theorem OR(b:PT X a tA):PW X (.BoolOp .And [a] pos) tA:=by
 intro f AN s σ H Q I h;refine isTrue_and (gM (b AN s σ H Q I h) λc d e=>?_);cases c with
 |true=>exact isTrue_and_nil e
 |false=>exact e
theorem UC(b:PT X a tA):PW X (.BoolOp .Or [a] pos) tA:=by
 intro f AN s σ H Q I h;refine isTrue_or (gM (b AN s σ H Q I h) λc d e=>?_);cases c with
 |false=>exact isTrue_or_nil e
 |true=>exact e
theorem Sl(d:PT X a tA)(hb:PW X (.BoolOp .And (b::AS) pos) tB'):PW X (.BoolOp .And (a::b::AS) pos) (M' tA tB'):=by
 intro e AN s σ H Q I h;refine isTrue_and (gM (d AN s σ H _ I h) λc s1 ⟨H1,I1,q1⟩=>?_);cases c with
 |true=>exact hb e AN s1 σ H1 Q I1 q1
 |false=>exact⟨H1,I1,q1⟩
theorem RH(d:PT X a tA)(hb:PW X (.BoolOp .Or (b::AS) pos) tB'):PW X (.BoolOp .Or (a::b::AS) pos) (MG tA tB'):=by
 intro e AN s σ H Q I h;refine isTrue_or (gM (d AN s σ H _ I h) λc s1 ⟨H1,I1,q1⟩=>?_);cases c with
 |true=>exact⟨H1,I1,q1⟩
 |false=>exact hb e AN s1 σ H1 Q I1 q1
theorem OQ(b:PT X a tA):PT X (.UnaryOp .Not a pos) (eP tA):=by
 intro AN s σ H Q I h;exact isTrue_not (b AN s σ H (λc H1=>Q (!c) H1) I h)
def e8(ta tb:TE):TE:=λσ H Q=>ta σ H λx H1=>∃c,x=.bl c/\if c=true then tb σ H1 Q else Q (.bl false) H1
theorem Rz{op}{t:TE}(h:PE X a t):PE X (.BoolOp op [a] pos) t:=λAN s σ H Q I b=>BoolOp_one (h AN s σ H Q I b)
theorem Kq(d:PE X a ta)(hb:PE X (.BoolOp .And (b::AS) pos) tb):PE X (.BoolOp .And (a::b::AS) pos) (e8 ta tb):=by
 intro AN s σ H Q I h;refine BoolOp_and (gM (d AN s σ H _ I h) λv s1 ⟨x,H1,I1,r1,q1⟩=>?_);obtain⟨c,rfl,q1⟩:=q1;cases r1;refine JP ?_;cases c with
 |true=>exact hb AN s1 σ H1 Q I1 q1
 |false=>exact⟨.bl false,H1,I1,rfl,q1⟩
end
end L2
namespace L2
def qO(K:B1)(H:Hp)(a:A1)(xs:Z V):Prop:=
 Rd H a (.lst xs) ∨
  ∃(o:AE) (AQ:Array A0) (n:Nat),K.lookup a=U o/\o.cls=.type "list" ∧ o.dict=Y/\o.data=.seq AQ n/\AQ.size<=AA/\AX xs AQ.toList
def yh(K:B1)(H:Hp)(a:A1)(xs:Z V):Prop:=
 Rd H a (.tup xs) ∨
  ∃(o:AE) (AQ:Array A0) (n:Nat),K.lookup a=U o/\(o.cls=.type "tuple" ∧ o.dict=Y)/\o.data=.seq AQ n/\AQ.size<=AA/\AX xs AQ.toList
def HL:A0->O V
 |.none=>U .non
 |.bool b=>U (.bl b)
 |.int i _=>U (.int i)
 |.str x _=>U (.str x)
 |.bytes b _=>U (.byt b)
 |.float b _=>U (.flt b)
 |.ref a=>U (.ref a)
 |.type n=>U (.ty n)
 |_=>Y
theorem As.abs{x:V}(r:As x u):HL u=U x:=by
 cases x with
 |non=>cases r;rfl
 |bl _=>cases r;rfl
 |int _=>obtain⟨t,rfl⟩:=r;rfl
 |str _=>obtain⟨t,rfl⟩:=r;rfl
 |byt _=>obtain⟨t,rfl⟩:=r;rfl
 |flt _=>obtain⟨t,rfl⟩:=r;rfl
 |ref _=>cases r;rfl
 |ty _=>cases r;rfl
theorem As.inj{x y:V}{u:A0}(r:As x u)(q:As y u):x=y:=ja (r.abs.symm.trans q.abs)
theorem AX.inj:∀{xs ys:Z V} {us:Z A0},AX xs us->AX ys us->xs=ys
 |_,_,_,.nil,.nil=>rfl
 |_,_,_,.cons r t,.cons r' t'=>by rw[r.inj r',AX.inj t t']
section
variable{X:Cx}{σ:St}{H:Hp}{xs ys:Z V}
theorem AU.list(I:AU X AN σ H s)(h:qO X.K H a xs):∃AQ:Z A0,AX xs AQ/\PlainL s.heap a AQ.toArray/\xs.length<=AA:=by
 rcases h with h|⟨o,AQ,n,d,b,c,hs,f,r⟩
 ·obtain⟨z,AQ,n,r,e⟩:=h.ok I.hok;exact⟨AQ,r,⟨_,n,e,rfl,rfl,rfl⟩,z⟩
 ·refine⟨AQ.toList,r,⟨o,n,I.Es a o d,b,c,by simpa using hs⟩,?_⟩;have e:=r.length;simp only[qq]at e;omega
theorem AU.tuple(I:AU X AN σ H s)(h:yh X.K H a xs):∃AQ:Z A0,AX xs AQ/\IsTup s.heap a AQ.toArray/\xs.length<=AA:=by
 rcases h with h|⟨o,AQ,n,c,b,hs,d,r⟩
 ·obtain⟨z,AQ,r,p⟩:=h.ok I.hok;exact⟨AQ,r,p.weak,z⟩
 ·refine⟨AQ.toList,r,⟨o,I.Es a o c,b.1,n,by simpa using hs⟩,?_⟩;have e:=r.length;simp only[qq]at e;omega
theorem AU.Ew(I:AU X AN σ H s)(h:qO X.K H a xs)(h':qO X.K H a ys):xs=ys:=by
 obtain⟨AQ,r,⟨o,n,e,_,_,d⟩,_⟩:=I.list h;obtain⟨f,c,⟨o',i,e',_,_,b⟩,_⟩:=I.list h';rw[e]at e';cases e';rw[d]at b;injection b with g _;have:AQ=f:=by simpa using congrArg Array.toList g
 subst this;exact r.inj c
theorem AU.Jp(I:AU X AN σ H s)(h:yh X.K H a xs)(h':yh X.K H a ys):xs=ys:=by
 obtain⟨AQ,r,⟨o,e,_,n,d⟩,_⟩:=I.tuple h;obtain⟨f,c,⟨o',e',_,i,b⟩,_⟩:=I.tuple h';rw[e]at e';cases e';rw[d]at b;injection b with g _;have:AQ=f:=by simpa using congrArg Array.toList g
 subst this;exact r.inj c
end
abbrev Cx.wish(X:Cx)(E:B9):Cx:={ X with xe:=E }
abbrev Cx.Yt(X:Cx):Cx:=X.wish λ_ _=>False
theorem Cx.Ok.wish{X:Cx}(ok:X.Ok)(E:B9):(X.wish E).Ok:=
 ⟨ok.mod,ok.kind,ok.glob,ok.blt,ok.above,ok.inj,ok.has,ok.cab,ok.hd,ok.frames,ok.stk,ok.exf,ok.bs,ok.Ys,ok.Rx,ok.Wr,ok.uJ,ok.frf⟩
theorem Cx.Ok.lq{X:Cx}(ok:(X.wish E).Ok):X.Ok:=
 ⟨ok.mod,ok.kind,ok.glob,ok.blt,ok.above,ok.inj,ok.has,ok.cab,ok.hd,ok.frames,ok.stk,ok.exf,ok.bs,ok.Ys,ok.Rx,ok.Wr,ok.uJ,ok.frf⟩
section
variable{X:Cx}{σ:St}{H:Hp}
theorem AU.wish(I:AU X AN σ H s)(E:B9):AU (X.wish E) AN σ H s:=⟨I.ok.wish E,I.os,I.bare,I.base,I.loc,I.cell,I.free,I.jy,I.pin,I.hok,I.len⟩
theorem AU.lq(I:AU (X.wish E) AN σ H s):AU X AN σ H s:=⟨I.ok.lq,I.os,I.bare,I.base,I.loc,I.cell,I.free,I.jy,I.pin,I.hok,I.len⟩
theorem SP.lq{D:Be}{f:Flow}{s':A2}(h:SP (X.wish E) AN D f s'):SP X AN D f s':=by
 cases f with
 |next=>obtain⟨σ',H',I,q⟩:=h;exact⟨σ',H',I.lq,q⟩
 |brk=>obtain⟨σ',H',I,q⟩:=h;exact⟨σ',H',I.lq,q⟩
 |cont=>obtain⟨σ',H',I,q⟩:=h;exact⟨σ',H',I.lq,q⟩
 |ret u=>obtain⟨v,σ',H',I,r,q⟩:=h;exact⟨v,σ',H',I.lq,r,q⟩
theorem Cy.Yt{st:Z AB}{t:TS}(h:Cy X.Yt st t):Cy X st t:=λAN s σ H D I a=>
 ZZ (h AN s σ H D (I.wish _) a) (λ_ _ q=>q.lq) λ_ _ z=>False.elim z
end
section
variable{X:Cx}{AS:Z AB}{t u:TS}{te:TE}
def Y':TS:=λD σ H=>D.nx σ H
def PR(t u:TS):TS:=λD σ H=>t { D with nx:=u D } σ H
theorem iS:Cy X [] Y':=λ_ _ σ H _ I h=>Kk ⟨σ,H,I,h⟩
theorem qP(h1:PS X st t)(h2:Cy X AS u):Cy X (st::AS) (PR t u):=by
 intro AN s σ H D I h;refine K2 (gM (h1 AN s σ H { D with nx:=u D } I h) λf a q=>?_);cases f with
 |next=>
  obtain⟨σ',H',b,q⟩:=q;exact h2 AN a σ' H' D b q
 |ret v=>exact q
 |brk=>exact q
 |cont=>exact q
theorem Ds(h1:PS X st t):Cy X [st] t:=by
 intro AN s σ H D I h;refine K2 (gM (h1 AN s σ H D I h) λf a q=>?_);cases f with
 |next=>exact Kk q
 |ret v=>exact q
 |brk=>exact q
 |cont=>exact q
theorem AU.quiet{σ:St}{H:Hp}(I:AU X AN σ H s):interactive X.env=false:=by simp[interactive,I.ok.kind]
def eQ(te:TE):TS:=λD σ H=>te σ H λ_ H1=>D.nx σ H1
theorem yj(he:PE X e te)(hs:swapsWith e Y pos.line X.env=pure false:=by rfl):PS X (.Expr e pos) (eQ te):=by
 intro AN s σ H D I h;exact wpAny_Expr_any (gM (he AN s σ H _ I h) λv s1 ⟨x,H1,I1,r1,q1⟩=>⟨σ,H1,I1,q1⟩) I.quiet hs
def Tk(te:TE):TS:=λD σ H=>te σ H D.rt
theorem Kr(he:PE X e te):PS X (.Return (U e) pos) (Tk te):=by
 intro AN s σ H D I h;exact wpAny_Return_some (gM (he AN s σ H _ I h) λv s1 ⟨x,H1,I1,r1,q1⟩=>⟨x,σ,H1,I1,r1,q1⟩)
def iL(c:TT)(t u:TS):TS:=λD σ H=>c σ H λb H1=>if b=true then t D σ H1 else u D σ H1
theorem LZ{a b:Z AB}{tc:TT}(e:PT X c tc)(f:Cy X a t)(hb:Cy X b u):PS X (.If c a b pos) (iL tc t u):=by
 intro AN s σ H D I h;refine wpAny_If (gM (e AN s σ H _ I h) λd s1 ⟨H1,I1,q1⟩=>?_);cases d with
 |true=>exact f AN s1 σ H1 D I1 q1
 |false=>exact hb AN s1 σ H1 D I1 q1
end
abbrev TG:=V->St->Hp->(St->Hp->Prop)->Prop
abbrev DI:=Z V->St->Hp->(St->Hp->Prop)->Prop
def PG(X:Cx)(a:Expr)(t:TG):Prop:=
 ∀(AN:Z (A1×AE)) (s:A2) (σ:St) (H:Hp) (v:V) (u:A0) (Q:St->Hp->Prop),AU X AN σ H s->As v u->t v σ H Q →
  A7 (A8 X.prog X.w) X.A (assign a X.env u) (λ_ s'=>∃ σ' H',AU X AN σ' H' s'/\Q σ' H') X.xe s
def RB(X:Cx)(ts:Z Expr)(t:DI):Prop:=
 ∀(AN:Z (A1×AE)) (s:A2) (σ:St) (H:Hp) (vs:Z V) (us:Z A0) (Q:St->Hp->Prop),AU X AN σ H s->AX vs us->t vs σ H Q →
  A7 (A8 X.prog X.w) X.A (assignInOrder ((assignEach ts X.env).map (·.2)) us) (λ_ s'=>∃ σ' H',AU X AN σ' H' s'/\Q σ' H') X.xe s
section
variable{X:Cx}
def L9(i:Nat):TG:=λv σ H Q=>Q (σ.set i (U v)) H
theorem U4(b:X.N.Nodup)(hi:X.N[i]?=U x)(hx:D7 X.env.scope x)(a:X.fn x=true\/X.env.scope.names.lookup x=U .local:=by first|exact .inl rfl|exact .inr rfl|assumption):PG X (.Name x pos) (L9 i):=by
 intro AN s σ H v u Q I r h;exact wpAny_assign_Name (qN I b hi hx r (λs' c=>⟨_,H,c,h⟩) a)
def io:DI:=λvs σ H Q=>vs=[]/\Q σ H
def e9(t:TG)(u:DI):DI:=λvs σ H Q=>∃v r,vs=v::r/\t v σ H λσ' H'=>u r σ' H' Q
theorem g0:RB X [] io:=by
 intro AN s σ H vs us Q I r h;obtain⟨e,h⟩:=h;subst e;cases r;exact assignInOrder_nil ⟨σ,H,I,h⟩
theorem YH{t:TG}{u:DI}(h1:PG X e t)(h2:RB X es u)(hs:(assignEach (e::es) X.env).map (·.2)=assign e X.env::(assignEach es X.env).map (·.2):=by rfl):RB X (e::es) (e9 t u):=by
 intro AN s σ H vs us Q I r h;obtain⟨v,b,e1,h⟩:=h;subst e1;cases r with
 |cons r a=>
  rw[hs];refine assignInOrder_cons (gM (h1 AN s σ H _ _ _ I r h) λ_ s1 ⟨σ1,H1,I1,q1⟩=>?_);exact h2 AN s1 σ1 H1 _ _ Q I1 a q1
def SO(K:B1)(n:Nat)(t:DI):TG:=λv σ H Q=>∃a xs,v=.ref a/\yh K H a xs/\xs.length=n/\t xs σ H Q
theorem cz{k:Nat}{t:DI}(l:X.calm=true)(h:RB X es t)(p:(assignEach es X.env).length=n:=by rfl)(f:(assignEach es X.env).findIdx? (·.1)=Y:=by rfl):PG X (.Tuple es k pos) (SO X.K n t):=by
 intro AN s σ H v u Q I r c;obtain⟨a,xs,e1,i,j,c⟩:=c;subst e1;cases r;obtain⟨AQ,d,g,q⟩:=I.tuple i;refine assign_Tuple_tuple (I.ok.hd l) g (by simp[p,<-j,d.length]) f λh' hx=>?_;have m:AU X AN σ H { s with heap:=h' }:=I.kept (t':=s.toks) λb o e=>hx b o (Zl (zt e)) e;exact h AN _ σ H xs _ Q m (by simpa using d) c
def NW(te:TE)(g:TG):TS:=λD σ H=>te σ H λx H1=>g x σ H1 D.nx
theorem bi{te:TE}{g:TG}(he:PE X e te)(b:PG X tg g)(hs:swapsWithSole [tg] e pos.line X.env=pure false:=by rfl)(a:swappedStores [tg] e X.env=pure Y:=by rfl)(h1:(assignEach [tg] X.env).map (·.2)=[assign tg X.env]:=by rfl):PS X (.Assign [tg] e pos) (NW te g):=by
 intro AN s σ H D I h;refine wpAny_Assign_stores (gM (he AN s σ H _ I h) λv s1 ⟨x,H1,I1,r1,q1⟩=>?_) hs a;rw[h1];exact gM (b AN s1 σ H1 x v _ I1 r1 q1) λ_ c q=>q
theorem zV{te:TE}{pos':Pos}(b:X.N.Nodup)(hi:X.N[i]?=U x)(hx:D7 X.env.scope x)(he:PE X e te)(hs:swapsWith e (U (.Name x pos')) pos.line X.env=pure false:=by rfl)(a:X.fn x=true\/X.env.scope.names.lookup x=U .local:=by first|exact .inl rfl|exact .inr rfl|assumption):
  PS X (.Assign [.Name x pos'] e pos) (NW te (L9 i)):=by
 intro AN s σ H D I h;refine wpAny_Assign_Name (gM (he AN s σ H _ I h) λv s1 ⟨y,H1,I1,r1,q1⟩=>?_) hs;exact qN I1 b hi hx r1 (λd c=>⟨_,H1,c,q1⟩) a
def gL(i j:Nat)(ta:TA):TS:=λD σ H=>ta σ H λvs H1=>∃v w,vs=[v,w]/\D.nx ((σ.set i (U v)).set j (U w)) H1
theorem Sz{a b:Expr}{ta:TA}{px py pt:Pos}{kt k2 pt2}(K:X.calm=true)(l:X.N.Nodup)(hi:X.N[i]?=U x)(J:X.N[j]?=U y)(C:i≠j)(hx:X.env.scope.names.lookup x=U .local)(g:X.env.scope.names.lookup y=U .local)(m:PA X [a,b] ta)(n:swappedStores [.Tuple [.Name x px,.Name y py] kt pt] (.Tuple [a,b] k2 pt2) X.env=pure (U [x,y]))(hs:swapsWithSole [.Tuple [.Name x px,.Name y py] kt pt] (.Tuple [a,b] k2 pt2) pos.line X.env=pure false:=by rfl):
  PS X (.Assign [.Tuple [.Name x px,.Name y py] kt pt] (.Tuple [a,b] k2 pt2) pos) (gL i j ta):=by
 intro AN s σ H D I h;rw[exec_Assign_arm];refine zb (Kb ?_);rw[hs];refine zb (ze ?_);rw[zC (by decide)];refine zb (Tuple_ (gM (m _ AN s σ H _ I h) λus s1 ⟨vs,H1,I1,r1,q1⟩=>?_));obtain⟨v,w,e1,q1⟩:=q1;subst e1;obtain⟨d,c,rfl,u,F⟩:∃d c,us=[d,c]/\As v d/\As w c:=by
  cases r1 with
  |cons p q=>
   cases q with
   |cons p' B=>
    cases B;exact⟨_,_,rfl,p,p'⟩
 refine qh ?_ (by show 2<=AA;decide);have E:AU X AN σ H1 { s1 with heap:=s1.heap.push { cls:=.type "tuple",data:=.seq [d,c].toArray } }:=I1.kept (t':=s1.toks) λb o e=>zd _ e;rw[n];refine zb (ze ?_);show A7 (A8 X.prog X.w) X.A (do rule "assign.swapped-stores"; let items <-unpackItems (.ref s1.heap.objs.size) 2 Y;assignInOrder [λv=>bindName X.env y v,λv=>bindName X.env x v] items.reverse;pure Flow.next) _ _ _;refine zb (Kn (zb (unpackItems_tuple (items:=#[d,c]) (I.ok.hd K) (IsTup.new s1.heap _) λh' z=>?_)));have G:=E.kept (h':=h') (t':=s1.toks) λb o e=>z b o (Zl (zt e)) e;show A7 _ _ (assignInOrder [λv=>bindName X.env y v,λv=>bindName X.env x v] [c,d] >>= λ_=>pure Flow.next) _ _ _;refine zb (assignInOrder_cons (wpAny_bindName (qN G l J (.inl g) F (λM t=>?_) (.inr g))));refine assignInOrder_cons (wpAny_bindName (qN t l hi (.inl hx) u (λL f=>assignInOrder_nil (ze ?_)) (.inr hx)));rw[List.set_comm _ _ (jI C)]at f;exact⟨_,H1,f,q1⟩
def UV(c:TT)(tb:TS):TS:=λD σ H=>∃W:Nat->St->Hp->Prop,(∃m,W m σ H)/\∀m σ H,W m σ H →
 c σ H λb H1=>if b=true then ∃N:St->Hp->Prop,(∀ σ' H',N σ' H'->∃a,a<m/\W a σ' H')/\tb { D with nx:=N,ct:=N,bk:=D.nx } σ H1 else D.nx σ H1
theorem YJ{tc:TT}{tb:TS}(hp:PassesOwn (A8 X.prog X.w) X.A X.env X.xe)(x:PT X c tc)(hb:Cy X body tb):PS X (.While c body [] pos) (UV tc tb):=by
 intro AN s σ H D I h;obtain⟨W,⟨u,z⟩,turn⟩:=h;refine wpAny_While (codeAny_whileLoop (λn s'=>∃ σ' H',AU X AN σ' H' s'/\W n σ' H') ?_ u ⟨σ,H,I,z⟩);rintro n q ⟨g,H1,y,t⟩;refine kK hp (gM (x AN q g H1 _ y (turn n g H1 t)) λb s2 ⟨H2,I2,q2⟩=>?_);cases b with
 |true=>
  obtain⟨N,p,q2⟩:=q2;rw[zh rfl];refine kK hp (gM (hb AN s2 g H2 _ I2 q2) λf B e=>?_);cases f with
  |next=>
   obtain⟨a,d,i,j⟩:=e;obtain⟨l,m,o⟩:=p a d j;exact⟨l,m,a,d,i,o⟩
  |cont=>
   obtain⟨a,d,i,j⟩:=e;obtain⟨l,m,o⟩:=p a d j;exact⟨l,m,a,d,i,o⟩
  |brk=>exact e
  |ret v=>exact e
 |false=>
  rw[zC ZI];exact Kk ⟨g,H2,I2,q2⟩
end
structure It where
 go:Nat->Hp->Prop
 yld:Nat->Hp->V->Hp->Prop
 stop:Nat->Hp->Prop
def qD(X:Cx)(AN:Z (A1×AE))(H:Hp)(b:A1):Prop:=
 H b=Y/\b≠X.env.locals/\b∉X.fs/\(b∈X.ex\/X.s₀.heap.objs.size<=b)/\(∀x c,X.env.cells.lookup x=U c->c≠b)/\∀p∈X.pn++AN,p.1≠b
theorem AU.N8{X:Cx}{σ:St}{H H':Hp}{b:A1}(I:AU X AN σ H s)(hb:s.heap.objs.size<=b)(a:H' b=Y):qD X AN H' b:=by
 refine⟨a,jS (ZU I.lt hb),I.aky hb,.inr (ZH I.sz hb),λx c e z=>?_,λp hp z=>?_⟩
 ·obtain⟨v,q⟩:=I.cell x c e;exact absurd (ZU q.lt (by rw[z];exact hb)) (kc _)
 ·exact absurd (ZU (zt (I.pin p hp).1) (by rw[z];exact hb)) (kc _)
structure C8 (P:Program) (w:World) (K:B1) (tg:Expr) (J:It) (fp:List Addr) (it:Addr) (tn:Nat->Heap->Prop):Prop where
 mem:it∈fp
 obj:∀i h,tn i h->∀b∈fp,∃o,h.get? b=some o/\∀v,o.data≠.cell v
 keep:∀i h h',tn i h->(∀b∈fp,∀o,h.get? b=some o->h'.get? b=some o)->tn i h'
 item:∀(X:Cx),X.prog=P->X.w=w->X.K=K->X.calm=true->∀(i:Nat) (AN:List (Addr×Obj)) (s:Shared) (σ:St) (H:Hp) (E:B9),AU X AN σ H s->(∀b∈fp,qD X AN H b)->tn i s.heap->J.go i H →
  wpAny (model P w) X.A (pyNext (.ref it)) (λr s1=>∃u,r=some u ∧
   wpAny (model P w) X.A (letOwnedTupleGo tg (.ref it) u) (λ_ s2=>∃x H',AU X AN σ H' s2/\As x u/\J.yld i H x H'/\tn (i+1) s2.heap/\∀b∈fp,H' b=none) E s1) E s
 done:∀(X:Cx),X.prog=P->X.w=w->X.K=K->X.calm=true->∀(i:Nat) (AN:List (Addr×Obj)) (s:Shared) (σ:St) (H:Hp) (E:B9),AU X AN σ H s->(∀b∈fp,qD X AN H b)->tn i s.heap->J.stop i H →
  wpAny (model P w) X.A (pyNext (.ref it)) (λr s1=>r=none/\AU X AN σ H s1) E s
 self:∀(A:Around) (i:Nat) (s:Shared) (Q:B9) (E:B9),tn i s.heap->Q (.ref it) s->wpAny (model P w) A (pyIter (.ref it)) Q E s
abbrev TI:=St->Hp->(It->Hp->Prop)->Prop
def NS(X:Cx)(AN:Z (A1×AE))(σ:St)(tg:Expr)(R:It->Hp->Prop)(c:A0)(a:A2):Prop:=
 ∃(it:A1) (fp:Z A1) (tn:Nat->A6->Prop) (J:It) (H':Hp),c=.ref it/\AU X AN σ H' a/\C8 X.prog X.w X.K tg J fp it tn/\tn 0 a.heap/\(∀b∈fp,qD X AN H' b)/\R J H'
def PI(X:Cx)(tg iter:Expr)(b:TI):Prop:=
 ∀(AN:Z (A1×AE)) (s:A2) (σ:St) (H:Hp) (R:It->Hp->Prop),AU X AN σ H s->b σ H R →
  A7 (A8 X.prog X.w) X.A (eval iter X.env) (λv a=>A7 (A8 X.prog X.w) X.A (pyIter v) (NS X AN σ tg R) X.xe a) X.xe s
theorem Jq{n:String}{vs:Array A0}(c:s.heap.get? it=U o)(d:o.cls=.type n)(b:o.data=.fields vs)(e:["enumerate","zip","dict_itemiterator","dict_reverseitemiterator","odict_iterator","itertools.zip_longest","itertools.pairwise"].contains n=false)(a:Q () s):A7 M A (letOwnedTupleGo tg (.ref it) u) Q E s:=by
 unfold letOwnedTupleGo;cases tg<;>first
  |exact ze a
  |(cases u<;>first
    |exact ze a
    |(refine zb (K0 c ?_)
      rw[d,b];show A7 M A (if(["enumerate","zip","dict_itemiterator","dict_reverseitemiterator","odict_iterator","itertools.zip_longest","itertools.pairwise"].contains n&&vs[0]?==U (rawInt _))=true then _ else _) Q E s;rw[zC (by intro h;rw[e,yA]at h;cases h)];exact ze a))
def GE(K:B1)(a:A1):It:=
 ⟨λi H=>∃xs x,qO K H a xs/\xs[i]?=U x,λi H x H'=>H'=H/\∀xs,qO K H a xs->xs[i]?=U x,λi H=>∃xs,qO K H a xs/\xs.length<=i⟩
def HR(K:B1)(a:A1):It:=
 ⟨λi H=>∃xs x,yh K H a xs/\xs[i]?=U x,λi H x H'=>H'=H/\∀xs,yh K H a xs->xs[i]?=U x,λi H=>∃xs,yh K H a xs/\xs.length<=i⟩
def GA(lo:Int)(n:Nat):It:=⟨λi _=>i<n,λi H x H'=>H'=H/\x=.int (lo+i),λi _=>n<=i⟩
theorem Wt(a it:A1):C8 P w K tg (GE K a) [it] it (λi h=>h.IsListIter it a i) where
 mem:=by simp
 obj:=λi h st b hb=>by
  have e:b=it:=by simpa using hb
  subst e;obtain⟨o,e,c,d⟩:=st;exact⟨o,e,λv z=>by rw[d]at z;cases z⟩
 keep:=λi h h' st k=>st.at λo e=>k it (by simp) o e
 item:=by
  intro X y j n C i AN s σ H E I f st l;subst y j n;obtain⟨xs,x,g,hx⟩:=l;obtain⟨AQ,m,p,D⟩:=I.list g;obtain⟨u,G,L⟩:=m.get hx;obtain⟨f0,f1,f2,q,t,A⟩:=f it (by simp);refine wpAny_pyNext_list_item st p.isList (x:=u) (by simpa using G) λh' B J=>?_;have M:AU X AN σ H { s with heap:=h' }:=I.turned (t':=s.toks) (λb o hb e=>(J.2 b hb).trans e) f0 f1 q t A;obtain⟨o,e,c,d⟩:=id B;exact⟨u,rfl,Jq (s:={ s with heap:=h' }) e c d (by decide) ⟨x,H,M,L,⟨rfl,λys F=>by rw[I.Ew F g];exact hx⟩,B,λb hb=>(f b hb).1⟩⟩
 done:=by
  intro X y j n C i AN s σ H E I f st l;subst y j n;obtain⟨xs,g,hx⟩:=l;obtain⟨AQ,m,p,D⟩:=I.list g;obtain⟨f0,f1,f2,q,t,A⟩:=f it (by simp);have N:=m.length;exact wpAny_pyNext_list_end (I.ok.hd C) st p.isList (by simp;omega) λh' eb=>⟨rfl,I.turned (t':=s.toks) (λb o hb e=>eb b o hb e) f0 f1 q t A⟩
 self:=λ_ _ _ _ _ st h=>wpAny_pyIter_listiter st h
theorem RD(a it:A1):C8 P w K tg (HR K a) [it] it (λi h=>h.IsTupleIter it a i) where
 mem:=by simp
 obj:=λi h st b hb=>by
  have e:b=it:=by simpa using hb
  subst e;obtain⟨o,e,c,d⟩:=st;exact⟨o,e,λv z=>by rw[d]at z;cases z⟩
 keep:=λi h h' st k=>st.at λo e=>k it (by simp) o e
 item:=by
  intro X y j n C i AN s σ H E I f st l;subst y j n;obtain⟨xs,x,g,hx⟩:=l;obtain⟨AQ,m,p,D⟩:=I.tuple g;obtain⟨u,G,L⟩:=m.get hx;obtain⟨f0,f1,f2,q,t,A⟩:=f it (by simp);refine wpAny_pyNext_tuple_item st (show s.heap.IsTuple a AQ.toArray from p) (x:=u) (by simpa using G) λh' B J=>?_;have M:AU X AN σ H { s with heap:=h' }:=I.turned (t':=s.toks) (λb o hb e=>(J.2 b hb).trans e) f0 f1 q t A;obtain⟨o,e,c,d⟩:=id B;exact⟨u,rfl,Jq (s:={ s with heap:=h' }) e c d (by decide) ⟨x,H,M,L,⟨rfl,λys F=>by rw[I.Jp F g];exact hx⟩,B,λb hb=>(f b hb).1⟩⟩
 done:=by
  intro X y j n C i AN s σ H E I f st l;subst y j n;obtain⟨xs,g,hx⟩:=l;obtain⟨AQ,m,p,D⟩:=I.tuple g;obtain⟨f0,f1,f2,q,t,A⟩:=f it (by simp);have N:=m.length;exact wpAny_pyNext_tuple_end (I.ok.hd C) st (show s.heap.IsTuple a AQ.toArray from p) (by simp;omega) λh' eb=>⟨rfl,I.turned (t':=s.toks) (λb o hb e=>eb b o hb e) f0 f1 q t A⟩
 self:=λ_ _ _ _ _ st h=>wpAny_pyIter_tupleiter st h
theorem RG(it:A1)(lo:Int)(n:Nat):C8 P w K tg (GA lo n) [it] it (λi h=>IsRangeIter h it (lo+(i:Nat)*1) ((n:Int)-(i:Nat)) 1) where
 mem:=by simp
 obj:=λi h st b hb=>by
  have e:b=it:=by simpa using hb
  subst e;exact⟨_,st,λv z=>by
   have x:Data.fields _=Data.cell v:=z;cases x⟩
 keep:=λi h h' st k=>k it (by simp) _ st
 item:=by
  intro X m d l p i AN s σ H E I a st j;subst m d l;obtain⟨f0,f1,f2,c,g,f⟩:=a it (by simp);have W:=Walks.range (prog:=X.prog) (w:=X.w) (I.ok.hd p) it lo 1 n;refine W.item i s _ _ j st λv h' tk y q kk=>?_;obtain⟨t,rfl⟩:=y;have u:AU X AN σ H { s with heap:=h',toks:=tk }:=I.turned (λb o hb e=>kk b o (by simpa using hb) e) f0 f1 c g f;refine⟨_,rfl,Jq (s:={ s with heap:=h',toks:=tk }) (n :="range_iterator") q S S (by decide) ⟨.int (lo+i),H,u,⟨t,?_⟩,⟨rfl,rfl⟩,q,λb hb=>(a b hb).1⟩⟩;rw[Int.mul_one]
 done:=by
  intro X m d l p i AN s σ H E I a st j;subst m d l;obtain⟨f0,f1,f2,c,g,f⟩:=a it (by simp);exact wpAny_pyNext_range_end (I.ok.hd p) st (by have:n<=i:=j;omega) λh' eb=>⟨rfl,I.turned (t':=s.toks) (λb o hb e=>eb b o hb e) f0 f1 c g f⟩
 self:=λ_ _ _ _ _ st h=>wpAny_pyIter_rangeiter st h
end L2
namespace L2
section
variable{X:Cx}
theorem YK{σ:St}{H:Hp}{R:It->Hp->Prop}{lo hi:Int}{t u v:Tok}(I:AU X AN σ H s)(h1 : -(2 ^ 62)<=lo)(h2:lo<2 ^ 62)(c : -(2 ^ 62)<=hi)(d:hi<2 ^ 62)(q:R (GA lo (hi-lo).toNat) H):A7 (A8 X.prog X.w) X.A (pyIter (.ref s.heap.objs.size)) (NS X AN σ tg R) E { s with heap:=s.heap.push { cls:=.type "range",data:=.fields #[.int lo t,.int hi u,.int 1 v] },toks:=tk }:=by
 refine wpAny_pyIter_range (IsRange.new ..) (small_one h1 h2 c d) ?_;have a:AU X AN σ H { s with heap:=s.heap.push { cls:=.type "range",data:=.fields #[.int lo t,.int hi u,.int 1 v] },toks:=tk }:=I.kept λb o e=>zd _ e;refine⟨(s.heap.push { cls:=.type "range",data:=.fields #[.int lo t,.int hi u,.int 1 v] }).objs.size,[(s.heap.push { cls:=.type "range",data:=.fields #[.int lo t,.int hi u,.int 1 v] }).objs.size],_,_,H,rfl,
  a.kept (t':=tk) λb o e=>zd _ e,RG _ lo (hi-lo).toNat,?_,λb hb=>?_,q⟩
 ·have e1:lo+((0:Nat):Int)*1=lo:=by simp
  have e2:(((hi-lo).toNat:Nat):Int)-((0:Nat):Int)=Builtin.Range.rangeSize lo hi 1:=by rw[rangeSize_one];split<;>omega
  show IsRangeIter _ _ (lo+((0:Nat):Int)*1) ((((hi-lo).toNat:Nat):Int)-((0:Nat):Int)) 1;rw[e1,e2];exact zv _ rfl
 ·have e:b=(s.heap.push { cls:=.type "range",data:=.fields #[.int lo t,.int hi u,.int 1 v] }).objs.size:=by simpa using hb
  subst e;exact a.N8 (zg _) (a.hok.fresh (zg _))
def hZ(ta:TA):TI:=λσ H R=>ta σ H λvs H1=>∃j:Int,vs=[.int j] ∧ -(2 ^ 62)<=j/\j<2 ^ 62/\R (GA 0 j.toNat) H1
theorem Wu{a:Expr}{ta:TA}{p:Pos}(f:Gl X "range")(c:X.mg "range"=Y)(b:PA X [a] ta)(hs:A9 [a] X.env=[(false,eval a X.env)]:=by rfl):PI X tg (.Call (.Name "range" p) [a] [] pos) (hZ ta):=by
 intro AN s σ H R I h;refine Call_ (zU I f c boot_range (PyProof.Rows.callWith_type1 (gM (b pos AN s σ H _ I h) λus s1 ⟨vs,H1,I1,r1,q1⟩=>?_) hs S));obtain⟨j,e,q1,q2,q⟩:=q1;subst e;cases r1 with
 |cons r d=>
  cases d;obtain⟨t,rfl⟩:=r;exact call_range_1 (YK I1 (by omega) (by omega) q1 q2 (by simpa using q))
def f'(c:TI)(g:TG)(tb:TS):TS:=λD σ H=>c σ H λJ H1=>∃W:Nat->Nat->St->Hp->Prop,(∃m,W 0 m σ H1)/\∀i m σ H,W i m σ H →
 (J.stop i H/\D.nx σ H)\/(J.go i H/\∃N:St->Hp->Prop,(∀ σ' H',N σ' H'->∃a,a<m/\W (i+1) a σ' H')/\∀x H',J.yld i H x H'->g x σ H' λb H2=>tb { D with nx:=N,ct:=N,bk:=D.nx } b H2)
def zW(fp:Z A1)(h:A6):Z (A1×AE):=fp.filterMap λb=>(h.get? b).map λo=>(b,o)
theorem rJ{b:A1}(hb:b∈fp)(e:h.get? b=U o):(b,o)∈zW fp h:=List.mem_filterMap.mpr ⟨b,hb,by rw[e];rfl⟩
theorem Wv{p:A1×AE}(hp:p∈zW fp h):p.1∈fp/\h.get? p.1=U p.2:=by
 obtain⟨b,hb,e⟩:=List.mem_filterMap.mp hp;cases q:h.get? b with
 |none=>rw[q]at e;cases e
 |some o=>
  rw[q]at e;have e':(b,o)=p:=ja e;subst e';exact⟨hb,q⟩
theorem AU.pinned{σ:St}{H:Hp}(I:AU X AN σ H s)(a:∀b∈fp,qD X AN H b)(c:∀b∈fp,∃o,s.heap.get? b=U o/\∀v,o.data≠.cell v):AU X (AN++zW fp s.heap) σ H s:=
 I.Dr λp hp=>(List.mem_append.mp hp).elim (λz=>I.pin p (ZA _ z)) λz=>by
  obtain⟨hb,e⟩:=Wv z;obtain⟨f0,f1,f2,_⟩:=a p.1 hb;obtain⟨o,e',d⟩:=c p.1 hb;rw[e]at e';cases e';exact⟨e,f0,f1,f2,d⟩
theorem AU.uK{pl:Z (A1×AE)}{σ:St}{H:Hp}(I:AU X (AN++pl) σ H s):AU X AN σ H s:=I.Dr λp hp=>I.pin p (ZA _ (Zp _ hp))
theorem YL{F:TI}{g:TG}{tb:TS}(hp:PassesOwn (A8 X.prog X.w) X.A X.env X.xe)(K:X.calm=true)(hi:PI X tg iter F)(L:PG X tg g)(hb:Cy X body tb)(hs:∀x,foldedSetIterable iter X.env x=pure x:=by intro _;rfl):PS X (.For tg iter body [] pos) (f' F g tb):=by
 intro AN s σ H D I h;refine wpAny_For (gM (hi AN s σ H _ I h) λv s1 h1=>gM h1 λa2 s2 h2=>?_) hs;obtain⟨it,fp,tn,J,H2,e,I2,T,a1,f2,W,⟨m0,w0⟩,turn⟩:=h2;subst e;have z:∀{H':Hp},(∀b∈fp,H' b=Y)->∀b∈fp,qD X AN H' b:=λhn b hb=>⟨hn b hb,(f2 b hb).2⟩;refine codeAny_forLoop_any (λn s'=>∃i σ' H',AU X AN σ' H' s'/\tn i s'.heap/\(∀b∈fp,H' b=Y)/\W i n σ' H') ?_ m0 ⟨0,σ,H2,I2,a1,λb hb=>(f2 b hb).1,w0⟩;rintro n B ⟨i,p,t,E,C,G,w3⟩;rcases turn i n p t w3 with⟨M,qn⟩|⟨go,N,hN,step⟩
 ·refine kK hp (gM (T.done X S S S K i AN B p t X.xe E (z G) C M) λr s4 ⟨hr,I4⟩=>?_);subst hr;exact Kk ⟨p,t,I4,qn⟩
 ·refine kK hp (gM (T.item X S S S K i AN B p t X.xe E (z G) C go) λr s4 ⟨u,hr,h4⟩=>?_);subst hr;refine kK hp (gM h4 λ_ s5 ⟨x,H5,I5,r5,y5,st5,fr5⟩=>?_);have a0:=I5.pinned (z fr5) (T.obj _ _ st5);refine kK hp (gM (L _ s5 p H5 x u _ a0 r5 (step x H5 y5)) λ_ s6 ⟨σ6,H6,I6,q6⟩=>?_);refine kK hp (gM (hb _ s6 σ6 H6 _ I6 q6) λf y l=>?_);have again:∀{c:St} {a:Hp},AU X (AN++zW fp s5.heap) c a y->N c a->∃m,m<n/\∃i σ' H',AU X AN σ' H' y/\tn i y.heap/\(∀b∈fp,H' b=Y)/\W i m σ' H':=λ{c a} j q=>by
   obtain⟨P,hm,w7⟩:=hN c a q;refine⟨P,hm,i+1,c,a,j.uK,T.keep _ _ _ st5 λb hb o e=>(j.pin (b,o) (ZA _ (ZA _ (rJ hb e)))).1,λb hb=>?_,w7⟩;obtain⟨o,e,d⟩:=T.obj _ _ st5 b hb;exact(j.pin (b,o) (ZA _ (ZA _ (rJ hb e)))).2.1
  cases f with
  |next=>obtain⟨c,a,j,q⟩:=l;exact again j q
  |cont=>obtain⟨c,a,j,q⟩:=l;exact again j q
  |brk=>obtain⟨c,a,j,l⟩:=l;exact⟨c,a,j.uK,l⟩
  |ret v=>obtain⟨x7,c,a,j,Q,l⟩:=l;exact⟨x7,c,a,j.uK,Q,l⟩
end
end L2
namespace L2
abbrev R2:=V->V->Hp->VK->Prop
def uL(X:Cx)(f:A0->A0->Sem A0)(r:R2):Prop:=
 ∀(AN:Z (A1×AE)) (s:A2) (σ:St) (H:Hp) (x y:V) (v u:A0) (Q:VK),AU X AN σ H s->As x v->As y u->r x y H Q →
  A7 (A8 X.prog X.w) X.A (f v u) (EP X AN σ Q) X.xe s
def DM(X:Cx)(f:A0->Sem A0)(r:V->Hp->VK->Prop):Prop:=
 ∀(AN:Z (A1×AE)) (s:A2) (σ:St) (H:Hp) (x:V) (v:A0) (Q:VK),AU X AN σ H s->As x v->r x H Q →
  A7 (A8 X.prog X.w) X.A (f v) (EP X AN σ Q) X.xe s
def fK(X:Cx)(f:A0)(r:Z V->Hp->VK->Prop):Prop:=
 ∀(AN:Z (A1×AE)) (s:A2) (σ:St) (H:Hp) (xs:Z V) (us:Z A0) (Q:VK),AU X AN σ H s->AX xs us->r xs H Q →
  A7 (A8 X.prog X.w) X.A (call f us) (EP X AN σ Q) X.xe s
def S4(X:Cx)(r:V->Hp->(Bool->Hp->Prop)->Prop):Prop:=
 ∀(AN:Z (A1×AE)) (s:A2) (σ:St) (H:Hp) (x:V) (v:A0) (Q:Bool->Hp->Prop),AU X AN σ H s->As x v->r x H Q →
  A7 (A8 X.prog X.w) X.A (truthy v) (TP X AN σ Q) X.xe s
def F6(r:R2)(ta tb:TE):TE:=λσ H Q=>ta σ H λx H1=>tb σ H1 λy H2=>r x y H2 Q
def MV(r:V->Hp->VK->Prop)(ta:TE):TE:=λσ H Q=>ta σ H λx H1=>r x H1 Q
def rI(C:Int->Int->Prop)(g:Int->Int->V):R2:=λx y H Q=>∃i j,x=.int i/\y=.int j/\C i j/\Q (g i j) H
def DJ(g:Int->Int->V):R2:=λx y H Q=>∃i j,x=.int i/\y=.int j/\Q (g i j) H
def rU(g:Int->V):V->Hp->VK->Prop:=λx H Q=>∃i,x=.int i/\Q (g i) H
section
variable{X:Cx}{a b:Expr}{ta tb tc:TE}
theorem IM(d:PE X a ta)(hb:PE X b tb){σ:St}{H:Hp}{R:V->V->Hp->Prop}(I:AU X AN σ H s)(h:ta σ H λx H1=>tb σ H1 λy H2=>R x y H2){Q:B9}{f:A0->A0->Sem A0}(g:∀v u c x y H2,AU X AN σ H2 c->As x v->As y u->R x y H2->A7 (A8 X.prog X.w) X.A (f v u) Q X.xe c):
  A7 (A8 X.prog X.w) X.A (eval a X.env) (λv e=>A7 (A8 X.prog X.w) X.A (eval b X.env) (λu i=>A7 (A8 X.prog X.w) X.A (f v u) Q X.xe i) X.xe e) X.xe s:=by
 refine gM (d AN s σ H _ I h) λv s1 ⟨x,H1,I1,r1,q1⟩=>?_;refine gM (hb AN s1 σ H1 _ I1 q1) λu c ⟨y,H2,I2,r2,q2⟩=>?_;exact g v u c x y H2 I2 r1 r2 q2
theorem LD{op:Operator}{r:R2}(e:uL X (binaryOp op) r)(d:PE X a ta)(hb:PE X b tb):PE X (.BinOp a op b pos) (F6 r ta tb):=by
 intro AN s σ H Q I h;exact wpAny_BinOp (IM d hb I h λv u c x y H2 g i f q=>e AN c σ H2 x y v u Q g i f q)
theorem fT{op:UnaryOp}{r:V->Hp->VK->Prop}(c:DM X (unaryOp op) r)(b:PE X a ta):PE X (.UnaryOp op a pos) (MV r ta):=by
 intro AN s σ H Q I h;exact UnaryOp_ (gM (b AN s σ H _ I h) λv s1 ⟨x,H1,I1,r1,q1⟩=>c AN s1 σ H1 x v Q I1 r1 q1)
theorem FR{f:A0->A0->Sem A0}{C:Int->Int->Prop}{g:Int->Int->Int}
  (c:∀(i j:Int) (t u:Tok) (s:A2) (Q:B9) (E:B9),C i j->Q (.int (g i j) s.toks) { s with toks:=s.toks+1 }->A7 (A8 X.prog X.w) X.A (f (.int i t) (.int j u)) Q E s):
  uL X f (rI C λi j=>.int (g i j)):=by
 intro AN s σ H x y v u Q I d b h;obtain⟨i,j,rfl,rfl,a,q⟩:=h;obtain⟨t,rfl⟩:=d;obtain⟨e,rfl⟩:=b;exact c i j t e s _ _ a ⟨.int (g i j),H,I.tok _,⟨_,rfl⟩,q⟩
theorem KK{f:A0->A0->Sem A0}{g:Int->Int->Int}
  (b:∀(i j:Int) (t u:Tok) (s:A2) (Q:B9) (E:B9),Q (.int (g i j) s.toks) { s with toks:=s.toks+1 }->A7 (A8 X.prog X.w) X.A (f (.int i t) (.int j u)) Q E s):
  uL X f (DJ λi j=>.int (g i j)):=by
 intro AN s σ H x y v u Q I c d h;obtain⟨i,j,rfl,rfl,q⟩:=h;obtain⟨t,rfl⟩:=c;obtain⟨a,rfl⟩:=d;exact b i j t a s _ _ ⟨.int (g i j),H,I.tok _,⟨_,rfl⟩,q⟩
theorem G2{f:A0->A0->Sem A0}{g:Int->Int->Bool}
  (a:∀(i j:Int) (t u:Tok) (s:A2) (Q:B9) (E:B9),Q (.bool (g i j)) s->A7 (A8 X.prog X.w) X.A (f (.int i t) (.int j u)) Q E s):
  uL X f (DJ λi j=>.bl (g i j)):=by
 intro AN s σ H x y v u Q I b d h;obtain⟨i,j,rfl,rfl,q⟩:=h;obtain⟨t,rfl⟩:=b;obtain⟨c,rfl⟩:=d;exact a i j t c s _ _ ⟨.bl (g i j),H,I,rfl,q⟩
def fN(i j:Int):Prop:=0<j/\j<1073741824
def RU(i j:Int):Prop:=0<=j/\j<=1000000/\i.natAbs<2 ^ 64
def He(i j:Int):Prop:=(-(2 ^ 64)<i/\i<2 ^ 64)\/(-(2 ^ 64)<j/\j<2 ^ 64)
theorem He.ok{i j:Int}(h:He i j):IntMulOk i j:=by
 rcases h with⟨h1,h2⟩|⟨h1,h2⟩
 ·exact .of_left (intBits_le_64 h1 h2)
 ·exact .of_right (intBits_le_64 h1 h2)
theorem bb:uL X (binaryOp .Add) (DJ λi j=>.int (i+j)):=KK λ_ _ _ _ _ _ _ q=>add_int q
theorem T0:uL X (binaryOp .Sub) (DJ λi j=>.int (i-j)):=KK λ_ _ _ _ _ _ _ q=>sub_int q
theorem S0:uL X (binaryOp .Mult) (rI He λi j=>.int (i*j)):=FR λ_ _ _ _ _ _ _ a q=>mul_int q a.ok
theorem gl:uL X (binaryOp .FloorDiv) (rI fN λi j=>.int (i / j)):=FR λi j _ _ _ _ _ a q=>by
 have h1:(0:Int)<j:=a.1;have h2:j<1073741824:=a.2;exact floordiv_int (by omega) (by rw[Int.fdiv_eq_ediv_of_nonneg i (by omega)];exact q) (.inl (PyProof.noPylong_small (by omega)))
theorem SR:uL X (binaryOp .Mod) (rI (λ_ j=>0<j) λi j=>.int (i%j)):=FR λi j _ _ _ _ _ a q=>by
 have h1:(0:Int)<j:=a;exact mod_int' (by omega) (by rw[Int.fmod_eq_emod_of_nonneg i (by omega)];exact q)
theorem fz:uL X (binaryOp .Pow) (rI RU λi j=>.int (i ^ j.toNat)):=FR λ_ _ _ _ _ _ _ a q=>pow_int_small a.1 a.2.1 a.2.2 q
theorem SL{f:A0->Sem A0}{g:Int->Int}
  (a:∀(i:Int) (t:Tok) (s:A2) (Q:B9) (E:B9),Q (.int (g i) s.toks) { s with toks:=s.toks+1 }->A7 (A8 X.prog X.w) X.A (f (.int i t)) Q E s):
  DM X f (rU λi=>.int (g i)):=by
 intro AN s σ H x v Q I b h;obtain⟨i,rfl,q⟩:=h;obtain⟨t,rfl⟩:=b;exact a i t s _ _ ⟨.int (g i),H,I.tok _,⟨_,rfl⟩,q⟩
theorem hV:DM X (unaryOp .USub) (rU λi=>.int (-i)):=SL λ_ _ _ _ _ q=>neg_int q
theorem RJ{σ:St}{H:Hp}{Q:VK}{k a:Bool}(I:AU X AN σ H s)(q:Q (.bl k) H)(e:k=a):EP X AN σ Q (.bool a) s:=by
 subst e;exact⟨.bl k,H,I,rfl,q⟩
theorem VW:uL X (AG .Lt) (DJ λi j=>.bl (decide (i<j))):=G2 λ_ _ _ _ _ _ _ q=>lt_int q
theorem Pl:uL X (AG .LtE) (DJ λi j=>.bl (decide (i<=j))):=G2 λ_ _ _ _ _ _ _ q=>le_int q
theorem b6:uL X (AG .Gt) (DJ λi j=>.bl (decide (j<i))):=G2 λ_ _ _ _ _ _ _ q=>gt_int q
theorem S3:uL X (AG .GtE) (DJ λi j=>.bl (decide (j<=i))):=G2 λ_ _ _ _ _ _ _ q=>ge_int q
theorem Ww:uL X (AG .In) (λx y H Q=>∃i j,x=.str i/\y=.str j/\Q (.bl (!(Builtin.Str.occurrences j i 0 j.length 1).isEmpty)) H):=by
 intro AN s σ H x y v u Q I a b h;obtain⟨i,j,rfl,rfl,q⟩:=h;obtain⟨t,rfl⟩:=a;obtain⟨c,rfl⟩:=b;exact in_str (RJ I q S)
theorem X2:uL X (AG .Is) (λx y H Q=>y=.non/\Q (.bl (decide (x=.non))) H):=by
 intro AN s σ H x y v u Q I a b h;obtain⟨rfl,q⟩:=h;cases b;refine is_none_gen (RJ I q ?_);cases x<;>first
  |(cases a;rfl)
  |(obtain⟨t,rfl⟩:=a;rfl)
theorem ax:uL X (AG .IsNot) (λx y H Q=>y=.non/\Q (.bl (!decide (x=.non))) H):=by
 intro AN s σ H x y v u Q I a b h;obtain⟨rfl,q⟩:=h;cases b;refine isnot_none_gen (RJ I q ?_);cases x<;>first
  |(cases a;rfl)
  |(obtain⟨t,rfl⟩:=a;rfl)
theorem cU(b:Expr)(h:op≠.In:=by decide)(h2:op≠.NotIn:=by decide):behindInMarks op b=false:=by
 have e1:(op==CmpOp.In)=false:=by cases op<;>first|rfl|exact absurd S h
 have e2:(op==CmpOp.NotIn)=false:=by cases op<;>first|rfl|exact absurd S h2
 cases b<;>simp[behindInMarks,e1,e2]
theorem Ku{r:R2}(e:uL X (AG op) r)(d:PE X a ta)(hb:PE X b tb)(j:behindInMarks op b=false):PE X (.Compare a [op] [b] pos) (F6 r ta tb):=by
 intro AN s σ H Q I h;exact wpAny_Compare1 (IM d hb I h λv u c x y H2 g i f q=>e AN c σ H2 x y v u Q g i f q) j
def gd(t:TE):TT:=λσ H Q=>t σ H λx H'=>∃k,x=.bl k/\Q k H'
theorem ie{r:R2}(g:uL X (AG op) r)(d:PE X a ta)(hb:PE X b tb)(f:behindInMarks op b=false):PT X (.Compare a [op] [b] pos) (gd (F6 r ta tb)):=by
 intro AN s σ H Q I h;refine wpAny_isTrue_Compare1 (gM (d AN s σ H _ I h) λv s1 ⟨x,H1,I1,r1,q1⟩=>gM (hb AN s1 σ H1 _ I1 q1) λu s2 ⟨y,H2,I2,r2,q2⟩=>
  gM (g AN s2 σ H2 x y v u _ I2 r1 r2 q2) λc s3 ⟨z,H3,I3,r3,k,e,q3⟩=>?_) f
 subst e;cases r3;exact JP ⟨H3,I3,q3⟩
def YM(r d:R2)(ta tb tc:TE):TE:=λσ H Q=>ta σ H λx H1=>tb σ H1 λy H2=>r x y H2 λz a=>∃k,z=.bl k ∧
 (if k=true then tc σ a λb c=>d y b c Q else Q (.bl false) a)
theorem YQ{f:CmpOp}{r g:R2}(j:uL X (AG op) r)(n:uL X (AG f) g)(i:PE X a ta)(hb:PE X b tb)(l:PE X c tc)(m:lastMarks [op,f] [b,c]=false:=by with_unfolding_all rfl):PE X (.Compare a [op,f] [b,c] pos) (YM r g ta tb tc):=by
 intro AN s σ H Q I h;refine Compare_chain (gM (i AN s σ H _ I h) λv s1 ⟨x,H1,I1,r1,q1⟩=>chain_link (gM (hb AN s1 σ H1 _ I1 q1) λu s2 ⟨y,H2,I2,r2,q2⟩=>
  gM (j AN s2 σ H2 x y v u _ I2 r1 r2 q2) λd s3 ⟨z,H3,I3,r3,k,e,q3⟩=>?_)) m
 subst e;cases r3;refine JP ?_;cases k with
 |false=>exact ite_ff ⟨.bl false,H3,I3,rfl,q3⟩
 |true=>exact ite_tt (chain_last (gM (l AN s3 σ H3 _ I3 q3) λw' s4 ⟨z',H4,I4,r4,q4⟩=>n AN s4 σ H4 y z' u w' Q I4 r2 r4 q4))
def IU(K:B1)(x:V)(H:Hp)(k:Bool):Prop:=
 match x with
 |.non=>k=false
 |.bl b=>k=b
 |.int i=>k=(i != 0)
 |.str y=>y.length<=AA/\k=((y.length:Int) != 0)
 |.byt y=>y.size<=AA/\k=((y.size:Int) != 0)
 |.ref p=>(∃xs,qO K H p xs/\k=!xs.isEmpty)\/(∃xs,yh K H p xs/\k=!xs.isEmpty)\/∃AO,H p=U (.dK AO)/\k=!AO.isEmpty
 |_=>False
theorem RK{AO:Z (κ×V)}{vs:Z (κ×A0)}(r:KV AO vs):(!vs.isEmpty)=!AO.isEmpty:=by
 cases r<;>rfl
theorem Ey{xs:Z V}(r:AX xs AQ):(!AQ.toArray.isEmpty)=!xs.isEmpty:=by
 cases r<;>simp
theorem zX:(AA:Nat)<2 ^ 63:=by rw[sizeLine_eq];decide
theorem bg:S4 X (λx H Q=>∃k,IU X.K x H k/\Q k H):=by
 intro AN s σ H x v Q I a h;obtain⟨k,e,q⟩:=h;have j:=zX;have hs:AA=16777216:=sizeLine_eq;cases x with
 |non=>
  cases a;have e':k=false:=e;subst e';exact truthy_none ⟨H,I,q⟩
 |bl b=>
  cases a;have e':k=b:=e;subst e';exact JP ⟨H,I,q⟩
 |int i=>
  obtain⟨t,rfl⟩:=a;have e':k=(i != 0):=e;subst e';exact PySem.P.truthy_int ⟨H,I,q⟩
 |str y=>
  obtain⟨t,rfl⟩:=a;obtain⟨f,e'⟩:y.length<=AA/\k=((y.length:Int) != 0):=e;subst e';exact PySem.P.truthy_str (by omega) ⟨H,I.tok _,q⟩
 |byt y=>
  obtain⟨t,rfl⟩:=a;obtain⟨f,e'⟩:y.size<=AA/\k=((y.size:Int) != 0):=e;subst e';exact PySem.W.truthy_bytes (by omega) ⟨H,I.tok _,q⟩
 |ref p=>
  cases a;have e':(∃xs,qO X.K H p xs/\k=!xs.isEmpty)\/(∃xs,yh X.K H p xs/\k=!xs.isEmpty)\/∃AO,H p=U (.dK AO)/\k=!AO.isEmpty:=e;rcases e' with⟨xs,hx,e'⟩|⟨xs,hx,e'⟩|⟨AO,hx,e'⟩
  ·subst e';obtain⟨AQ,r,pl,c⟩:=I.list hx;have d:=r.length;exact wpAny_truthy_list pl.isList (by simp only[zI];omega) ⟨H,I.tok _,by rw[Ey r];exact q⟩
  ·subst e';obtain⟨AQ,r,pl,c⟩:=I.tuple hx;have d:=r.length;exact truthy_tuple pl (by simp only[zI];omega) ⟨H,I.tok _,by rw[Ey r];exact q⟩
  ·subst e';obtain⟨c,g,vs,r,m⟩:AO.length<=AA/\(p==sysModules)=false/\∃vs,KV AO vs/\s.heap.DictOf (bF X.prog X.w) p vs:=I.hok p _ hx;have d:AO.length=vs.length:=Paired.length r;exact wpAny_truthy_dict g m (by omega) ⟨H,I.tok _,by rw[RK r];exact q⟩
 |_=>exact(show False from e).elim
theorem YS(c:PE X a ta)(he:∀b,isTrue a X.env b=(do let v <-b;standAt a.pos;holding [v] (truthy v))):
  PT X a (λσ H Q=>ta σ H λx H'=>∃k,IU X.K x H' k/\Q k H'):=by
 intro AN s σ H Q I h;exact isTrue_plain (gM (c AN s σ H _ I h) λv s1 ⟨x,H1,I1,r1,q1⟩=>bg AN s1 σ H1 x v Q I1 r1 q1) (he _)
theorem RM:uL X (binaryOp .Add) (λx y H Q=>∃i j,x=.str i/\y=.str j/\i.length+j.length<=AA/\Q (.str (i++j)) H):=by
 intro AN s σ H x y v u Q I b d h;obtain⟨i,j,rfl,rfl,c,q⟩:=h;obtain⟨t,rfl⟩:=b;obtain⟨a,rfl⟩:=d;exact add_str (λa tk=>⟨.str (i++j),H,I.tok _,⟨_,rfl⟩,q⟩) c
theorem BC{x:V}(r:AX [x] us):∃u,us=[u]/\As x u:=by
 cases r with
 |cons b a=>cases a;exact⟨_,rfl,b⟩
theorem DC{x y:V}(r:AX [x,y] us):∃u a,us=[u,a]/\As x u/\As y a:=by
 cases r with
 |cons b d=>
  cases d with
  |cons c e=>cases e;exact⟨_,_,rfl,b,c⟩
theorem YT:fK X (.builtin "abs") (λxs H Q=>∃i,xs=[.int i]/\Q (.int (if i<0 then -i else i)) H):=by
 intro AN s σ H xs us Q I r h;obtain⟨i,rfl,q⟩:=h;obtain⟨u,rfl,t,rfl⟩:=BC r;exact call_abs_int λu tk=>⟨.int (if i<0 then -i else i),H,I.tok _,⟨_,rfl⟩,q⟩
theorem Wx:fK X (.type "int") (λxs H Q=>(∃i,xs=[.int i]/\Q (.int i) H)\/∃k,xs=[.bl k]/\Q (.int (if k then 1 else 0)) H):=by
 intro AN s σ H xs us Q I r h;rcases h with⟨i,rfl,q⟩|⟨k,rfl,q⟩
 ·obtain⟨u,rfl,t,rfl⟩:=BC r;exact call_int_int ⟨.int i,H,I,⟨_,rfl⟩,q⟩
 ·obtain⟨u,rfl,a⟩:=BC r;cases a;exact call_int_bool ⟨.int (if k then 1 else 0),H,I.tok _,⟨_,rfl⟩,q⟩
end
end L2
namespace L2
structure Se (h:Heap) (x dx C:Addr) (mA:Str->Option Value):Prop where
 obj:h.get? x=some (instObj C dx)
 ns:h.Ns1 dx mA
 ne:dx≠x
section
variable{x dx f:A1}{mA:AJ->O A0}{v:A0}
end
theorem Cw.some_of{v:V}{o:O A0}(r:Cw (U v) o):∃u,o=U u/\As v u:=by
 cases o with
 |none=>exact(show False from r).elim
 |some u=>exact⟨u,rfl,r⟩
section
variable{H H':Hp}{h':A6}{dx:A1}{fs fs':Z (AJ×V)}
theorem Du(c:uI P w H h)(e:H a=U (.ins C dx fs)):∃mA,Se h a dx C mA/\(∀f,Cw (fs.lookup f) (mA f))/\PySem.Within mA (fs.map (·.1))/\fs.length<=1000/\H dx=U (.own a):=by
 obtain⟨d,z,ne,b,mA,n,r,q⟩:=(show gn P w H h a (.ins C dx fs) from c a _ e);exact⟨mA,⟨b,n,ne⟩,r,q,z,d⟩
end
structure Ru (K:B1) (C:Addr) (f:Str) (v:V) (u:Value):Prop where
 at_:findIn K (.ref C) f=some (some u)
 rel:As v u
 get:specialIn K u "__get__"=some none
 cp:PySem.W.copiedNames.contains f=false
section
variable{X:Cx}{σ:St}{H:Hp}{dx:A1}{fs:Z (AJ×V)}{f:AJ}{v:V}
theorem O'{Q:B9}(hb:attributeBase e f env (eval e env)=eval e env)(h:A7 (A8 prog w) A (eval e env) (λo a=>A7 (A8 prog w) A (getAttr o f true) Q E a) E s):A7 (A8 prog w) A (eval (.Attribute e f pos) env) Q E s:=
 Attribute_any_ h (by rw[arm_eval_Attribute,hb])
end
section
variable{X:Cx}{o value:Expr}{f:AJ}{pos':Pos}{ta tv:TE}
end
section
variable{X:Cx}{σ:St}{H:Hp}{Q:B9}{c:A0}{b:Bool}
end
end L2
namespace L2
structure gW (k:Nat) (A:Around):Prop where
 hd:A.handled=none
 dp:A.depth+3*k+5<recursionLimit
 un:A.units+16*k+200<cLine
theorem gW.mono{k:Nat}(r:gW k A)(h:j<=k):gW j A:=⟨r.hd,by have:=r.dp;omega,by have:=r.un;omega⟩
theorem gW.deeper{k:Nat}(r:gW (k+1) A)(env:Env):gW k (A.deeper env):=
 ⟨r.hd,by have:=r.dp;show A.depth+1+3*k+5<_;omega,by have:=r.un;show A.units+3+16*k+200<_;omega⟩
theorem RN{a:Z (AJ×A0)}:(A.under (.builtin "type.__call__" ⟨.ref C::us,a⟩)).depth=A.depth+1:=by
 first|rfl|simp[Around.under,Code.weight,Code.isCreation,Code.isGuard,Code.isCaller,Code.frames,Code.isFrame,guardIds]
theorem RQ{a:Z (AJ×A0)}:(A.under (.builtin "type.__call__" ⟨.ref C::us,a⟩)).units=A.units+1:=by
 first|rfl|simp[Around.under,Code.cUnits,Code.frames,Code.isFrame]
theorem gW.make{k:Nat}(r:gW (k+1) A)(C:A1)(us:Z A0)(a:Z (AJ×A0)):gW k (A.under (.builtin "type.__call__" ⟨.ref C::us,a⟩)):=
 ⟨r.hd,by have:=r.dp;rw[RN];omega,by have:=r.un;rw[RQ];omega⟩
theorem gW.depth{k:Nat}(r:gW k A):A.depth<recursionLimit:=by have:=r.dp;omega
def HG:TA:=λ_ H Q=>Q [] H
def Oa(ta:TE)(a:TA):TA:=λσ H Q=>ta σ H λx H1=>a σ H1 λxs H2=>Q (x::xs) H2
section
variable{X:Cx}{te:TE}{t:TA}
theorem d7:PA X [] HG:=λ_ _ _ _ H Q I h=>Calls.spliced_nil ⟨[],H,I,.nil,h⟩
theorem bw(b:PE X e te)(a:PA X es t)(hs:A9 (e::es) X.env=(false,eval e X.env)::A9 es X.env:=by rfl):PA X (e::es) (Oa te t):=by
 intro pos AN s σ H Q I h;rw[hs];show A7 _ _ (spliced ((false,eval e X.env)::AD pos (A9 es X.env))) _ _ s;refine Calls.spliced_cons (gM (b AN s σ H _ I h) λu s1 ⟨x,H1,I1,r1,q1⟩=>?_);exact gM (a pos AN s1 σ H1 _ I1 q1) λus s2 ⟨xs,H2,I2,r2,q2⟩=>⟨x::xs,H2,I2,.cons r1 r2,q2⟩
def OW(t:TA):TE:=λσ H Q=>t σ H λxs H1=>xs.length<=AA/\∀p,H1 p=Y->Q (.ref p) (B0 H1 p (.tup xs))
def gE(t:TA):TE:=λσ H Q=>t σ H λxs H1=>xs.length<=AA/\∀p,H1 p=Y->Q (.ref p) (B0 H1 p (.lst xs))
theorem We{x1}(h:PA X es t):PE X (.Tuple es x1 pos) (OW t):=by
 intro AN s σ H Q I c;refine wpAny_Tuple_spliced (gM (h pos AN s σ H _ I c) λus s1 ⟨xs,H1,I1,r,z,q⟩=>⟨by rw[<-r.length];exact z,?_⟩);have a:H1 s1.heap.objs.size=Y:=I1.hok.fresh (zg _);refine⟨.ref s1.heap.objs.size,B0 H1 s1.heap.objs.size (.tup xs),I1.laid (t':=s1.toks) (λb u e=>zd _ e) (zg _) ?_,rfl,q _ a⟩;exact⟨z,us,r,⟨_,zv _ rfl,rfl,⟨_,rfl⟩,rfl⟩⟩
theorem RT(h:PA X es t):PE X (.List es pos) (gE t):=by
 intro AN s σ H Q I c;refine wpAny_List_spliced (gM (h pos AN s σ H _ I c) λus s1 ⟨xs,H1,I1,r,z,q⟩=>⟨by rw[<-r.length];exact z,?_⟩);have a:H1 s1.heap.objs.size=Y:=I1.hok.fresh (zg _);refine⟨.ref s1.heap.objs.size,B0 H1 s1.heap.objs.size (.lst xs),I1.laid (t':=s1.toks) (λb u e=>zd _ e) (zg _) ?_,rfl,q _ a⟩;exact⟨z,us,0,r,zv _ rfl⟩
end
abbrev Sp:=Z V->Hp->VK->XK->Prop
abbrev Wy:=Z Env->Hp->A2->XK->A0->A2->Prop
structure Ez (P:Program) (w:World) (K:B1) (mg:Str->Option Value) (base:Heap) (A:Around) (outer:List Env) (s:Shared) (H:Hp):Prop where
 frames:A.frames=some outer
 mod:Mod K mg base
 bs:∀b o,base.get? b=some o->s.heap.get? b=some o/\H b=none
 Ys:base.objs.size<=s.heap.objs.size
 uJ:s.heap.FunFrames base outer
 frf:∀b∈BV outer,H b=none
 hok:uI P w H s.heap
 bare:AllBare s.gens
def CE(outer:Z Env)(P:A3)(w:A4)(H:Hp)(s:A2)(Q:VK)(u:A0)(s':A2):Prop:=
 ∃v H',s'.os=s.os/\AllBare s'.gens/\Un (BV outer) [] H H' s.heap s'.heap/\uI P w H' s'.heap/\As v u/\Q v H'
def CR(CX:Wy)(outer:Z Env)(P:A3)(w:A4)(H:Hp)(s:A2)(Q:VK)(E:XK)(r:Result)(s':A2):Prop:=
 match r with
 |.ok (.ret u)=>CE outer P w H s Q u s'
 |.ok _=>False
 |.error e=>CX outer H s E e s'
structure ju (P:Program) (w:World) (K:B1) (mg:Str->Option Value) (base:Heap) (CX:Wy) (k:Nat) (f:Addr) (fd:FuncData) (ps:AZ) (sp:Sp):Prop where
 len:∀vs H Q E,sp vs H Q E->vs.length=ps.length
 run:∀(A:Around) (outer:List Env) (s:Shared) (H:Hp) (args:Args) (us:List Value) (vs:List V) (Q:VK) (E:XK),gW k A->Ez P w K mg base A outer s H->BindsTo s fd args (ps.zip us)->AX vs us->sp vs H Q E →
  codeAny (model P w) A (.call (.ref f) args) (CR CX outer P w H s Q E) s
theorem Ez.make{outer:Z Env}{H:Hp}(e:Ez P w K mg base A outer s H)(C:A1)(us:Z A0)(a:Z (AJ×A0)):
  Ez P w K mg base (A.under (.builtin "type.__call__" ⟨.ref C::us,a⟩)) outer s H:=⟨by first|exact e.frames|(simpa[Around.under,Code.envs,Code.isFrame,pushEnvs]using e.frames),e.mod,e.bs,e.Ys,e.uJ,e.frf,e.hok,e.bare⟩
section
variable{X:Cx}{σ:St}{H:Hp}{s':A2}
theorem AU.env0(I:AU X AN σ H s):Ez X.prog X.w X.K X.mg X.base X.A X.stack s H:=
 ⟨I.ok.frames,I.ok.mod,I.bs,ZH I.ok.Ys I.sz,I.stack,I.Dq,I.hok,I.bare⟩
theorem AU.after{Q:VK}(I:AU X AN σ H s)(h:CE X.stack X.prog X.w H s Q u s'):EP X AN σ Q u s':=by
 obtain⟨v,H',os,e,un,f,r,q⟩:=h;obtain⟨a,g,d,t,c⟩:=s';obtain rfl:c=s.os:=os;exact⟨v,H',I.call (h':=a) (g':=g) (d':=d) (t':=t) (ch:=[]) un f e (λb z=>absurd z (by simp)),r,q⟩
end
def RS(sp:Sp)(dvs:Z V)(E:XK)(t:TA):TE:=λσ H Q=>t σ H λvs H1=>sp (vs++dvs) H1 Q E
def BA(K:B1)(fd:FuncData)(ps:AZ)(ds:Z A0):Prop:=
 ∀(s:A2) (us:Z A0),K.In s.heap->(us++ds).length=ps.length->BindsTo s fd ⟨us,[]⟩ (ps.zip (us++ds))
theorem BA.all(h:∀us:Z A0,us.length=ps.length->bindArgs fd ⟨us,[]⟩=pure (ps.zip us)):BA K fd ps []:=λs us _ a=>by
 rw[ZY]at a ⊢;exact .of_eq (h us a)
def C1(CX:Wy)(X:Cx)(E:XK):Prop:=∀(AN:Z (A1×AE)) (σ:St) (H:Hp) (s:A2) (e:A0) (s':A2),AU X AN σ H s->CX X.stack H s E e s'->X.xe e s'
section
variable{X:Cx}{CX:Wy}{k:Nat}{f:A1}{sp:Sp}{dvs:Z V}{ds:Z A0}{E:XK}{m:AJ}{p:Pos}{o:Expr}{ta:TE}{t:TA}
theorem av{σ:St}{H:Hp}{Q:VK}{vs:Z V}(F:ju X.prog X.w X.K X.mg X.base CX k f fd ps sp)(c:gW k X.A)(hb:BA X.K fd ps ds)(d:AX dvs ds)(hx:C1 CX X E)(I:AU X AN σ H s)(r:AX vs us)(h:sp (vs++dvs) H Q E):A7 (A8 X.prog X.w) X.A (call (.ref f) us) (EP X AN σ Q) X.xe s:=by
 have b:AX (vs++dvs) (us++ds):=r.append d;have g:(us++ds).length=ps.length:=by rw[<-b.length];exact F.len _ _ _ _ h
 refine Kt (k6 (F.run X.A X.stack s H ⟨us,[]⟩ (us++ds) (vs++dvs) Q E c I.env0 (hb s us I.Es g) b h) λr s' a=>?_);cases r with
 |error e=>exact hx AN σ H s e s' I a
 |ok fl=>
  cases fl with
  |ret u=>exact I.after a
  |next=>exact False.elim a
  |brk=>exact False.elim a
  |cont=>exact False.elim a
theorem Kv(F:ju X.prog X.w X.K X.mg X.base CX k f fd ps sp)(a:gW k X.A)(i:Gl X x)(l:X.mg x=U (.ref f))(c:keepIn X.K (.ref f)=true)(hb:BA X.K fd ps ds)(g:AX dvs ds)(hx:C1 CX X E)
  (b:PA X (e::es) t) (d:(x==("__debug__":AJ))=false:=by decide) (he:A9 (e::es) X.env=(false,eval e X.env)::A9 es X.env:=by rfl) (j:(AD pos (A9 es X.env)).any (·.1)=false:=by rfl):
  PE X (.Call (.Name x p) (e::es) [] pos) (RS sp dvs E t):=by
 intro AN s σ H Q I h;refine kD (vU I i l ?_ d);refine yB (h₀:=X.base) I.ok.mod.kin c (gM (b pos AN s σ H _ I h) λus s1 ⟨vs,H1,I1,r,q⟩=>⟨I1.Es,?_⟩) he j;exact av F a hb g hx I1 r q
end
section
variable{X:Cx}{CX:Wy}{k:Nat}{f:A1}{ks:AZ}{sp:Sp}{E:XK}{m:AJ}{p kpos:Pos}{o:Expr}{kws:Z AC}{te ta:TE}{t tk:TA}{nm:O AJ}
variable{g:Z A0->Z A0->Z A0}{gV:Z V->Z V->Z V}
end
structure bB (N P:AZ) (sc:Scope):Prop where
 kind:sc.kind=.function
 co:sc.isCoroutine=false
 gen:sc.isGenerator=false
 nd:N.Nodup
 pre:N.take P.length=P
 par:∀x∈P,sc.names.lookup x=some .local\/sc.names.lookup x=some .cell
 afP:∀y∈sc.names,y.2≠.free
theorem Jr{b:AJ->O NameKind}{x:AJ}:∀{binds:Z (AJ×A0)} {m:AJ->O A0},(∀v,(x,v)∉binds)->bindL b binds m x=m x
 |[],_,_=>rfl
 |(n,v)::r,m,h=>by
  unfold bindL;rw[Jr λw a=>h w (zo _ a)];split
  ·have:x≠n:=by rintro rfl;exact h v zk
   simp[this]
  ·rfl
theorem Js{b:AJ->O NameKind}{x:AJ}:∀{binds:Z (AJ×A0)} {m:AJ->O A0},(∀v,(x,v)∉binds)->bindC b binds m x=m x
 |[],_,_=>rfl
 |(n,v)::r,m,h=>by
  unfold bindC;rw[Js λw a=>h w (zo _ a)];split
  ·rfl
  ·have:x≠n:=by rintro rfl;exact h v zk
   simp[this]
theorem Jt{a:AJ->O NameKind}{x:AJ}{v:A0}:∀{P:AZ} {vs:Z A0} {i:Nat} {m:AJ->O A0},P.Nodup->P[i]?=U x->vs[i]?=U v->a x=U .local →
  bindL a (P.zip vs) m x=U v
 |[],_,_,_,_,h,_,_=>by simp at h
 |_::_,[],_,_,_,_,h,_=>by simp at h
 |p::P,w::vs,0,m,nd,h1,h2,hk=>by
  simp at h1 h2;subst h1;subst h2;show bindL a ((p,w)::P.zip vs) m p=_;unfold bindL;rw[Jr λv b=>(List.nodup_cons.mp nd).1 (yf b).1,zh hk];simp
 |p::P,w::vs,i+1,m,nd,h1,h2,hk=>by
  show bindL a ((p,w)::P.zip vs) m x=_;unfold bindL;exact Jt (i:=i) (List.nodup_cons.mp nd).2 (by simpa using h1) (by simpa using h2) hk
theorem Ju{a:AJ->O NameKind}{x:AJ}{v:A0}:∀{P:AZ} {vs:Z A0} {i:Nat} {m:AJ->O A0},P.Nodup->P[i]?=U x->vs[i]?=U v->a x≠U .local →
  bindC a (P.zip vs) m x=U v
 |[],_,_,_,_,h,_,_=>by simp at h
 |_::_,[],_,_,_,_,h,_=>by simp at h
 |p::P,w::vs,0,m,nd,h1,h2,hk=>by
  simp at h1 h2;subst h1;subst h2;show bindC a ((p,w)::P.zip vs) m p=_;unfold bindC;rw[Js λv b=>(List.nodup_cons.mp nd).1 (yf b).1,zC hk];simp
 |p::P,w::vs,i+1,m,nd,h1,h2,hk=>by
  show bindC a ((p,w)::P.zip vs) m x=_;unfold bindC;exact Ju (i:=i) (List.nodup_cons.mp nd).2 (by simpa using h1) (by simpa using h2) hk
def start(N:AZ)(vs:Z V):St:=vs.map U++List.replicate (N.length-vs.length) Y
def rK(CX:Wy)(P:A3)(w:A4)(K:B1)(mg:AJ->O A0)(base:A6)(N:AZ)(qual:AJ)(scope:Scope)(f:A1)(cd:A0)(A:A5)(outer:Z Env)(s:A2)(H:Hp)(E:XK):Cx where
 prog:=P
 w:=w
 K:=K
 mg:=mg
 base:=base
 A:=A.deeper (AK qual scope s.heap.objs.size f cd)
 N:=N
 s₀:=s
 H₀:=H
 env:=AK qual scope s.heap.objs.size f cd
 outer:=outer
 stack:=AK qual scope s.heap.objs.size f cd::outer
 ex:=[]
 calm:=true
 fn:=λ_=>true
 pn:=[]
 xe:=λe s'=>A7 (A8 P w) (A.deeper (AK qual scope s.heap.objs.size f cd)) (leaving (AK qual scope s.heap.objs.size f cd) e) (λ_ a=>CX outer H s E e a) (λe' a=>CX outer H s E e' a) s'
theorem Ob{a:Scope}(h:a.names.lookup x=U .cell):∃c,(cellsFrom n a.names []).lookup x=U c:=by
 have q:=cellsFrom_some a.names n [] (.inl h);exact Option.isSome_iff_exists.mp q
theorem Jv{CX:Wy}{f:A1}{cd:A0}{outer:Z Env}{j:A2}{H:Hp}{E:XK}{vs:Z V}(S:bB N ps scope)(B:A.handled=Y)(e0:Ez P w K mg base A outer s H)(F:vs.length=ps.length)(r:AX vs us)(x:InCallC s s.heap.objs.size (bindL (AK qual scope s.heap.objs.size f cd).kindOf (ps.zip us) λ_=>Y) (cellsFrom (s.heap.objs.size+1) scope.names []) (bindC (AK qual scope s.heap.objs.size f cd).kindOf (ps.zip us) λ_=>Y) j):
  AU (rK CX P w K mg base N qual scope f cd A outer s H E) [] (start N vs) H j:=by
 have G:ps.length<=N.length:=by have:=congrArg List.length S.pre;rw[kz]at this;omega
 obtain⟨h1,tk,rfl,l⟩:=x.done;have g:∀b:A1,b∉(rK CX P w K mg base N qual scope f cd A outer s H E).ex:=λb z=>absurd (show b∈([]:Z A1) from z) (by simp);refine⟨⟨e0.mod,S.kind,rfl,rfl,zg _,λy z c h1 h2=>?_,λy d=>?_,λy c _ h=>?_,λ_=>B,Around.frames_deeper e0.frames,.inr ⟨rfl,rfl⟩,λb z=>absurd z (g b),e0.bs,e0.Ys,λb _ _=>g b,λb z=>absurd z (g b),e0.uJ,e0.frf⟩,
  rfl,e0.bare,Un.kept l,⟨_,x.toInCall.ns,λi y v h1 h2 D=>?_⟩,λy c h=>⟨_,x.cell y c h⟩,e0.hok.fresh (zg _),λy c h=>?_,λp hp=>absurd (show p∈([]:Z (A1×AE)) from hp) (by simp),e0.hok.kept l,?_⟩
 ·exact name_of_addr x.apart (ku h1) (ku h2)
 ·have d:scope.names.lookup y=U .cell\/scope.names.lookup y=U .free:=d;rcases d with d|d
  ·exact Ob d
  ·exact absurd rfl (S.afP _ (ku d))
 ·exact JJ (x.above y c (ku h))
 ·have hi:i<vs.length:=by
   unfold start at h2;by_cases hi:i<vs.length
   ·exact hi
   ·rw[QI (by simpa using hi)]at h2;rw[jv]at h2;split at h2<;>cases h2
  have t:vs[i]?=U v:=by
   unfold start at h2;rw[Z3 (by simpa using hi),ZN]at h2;cases e:vs[i]? with
   |none=>rw[e]at h2;cases h2
   |some a=>rw[e]at h2;cases h2;rfl
  obtain⟨u,o,C⟩:=r.get t;have hp:ps[i]?=U y:=by
   rw[<-S.pre,List.getElem?_take_of_lt (by omega)];exact h1
  have m:ps.Nodup:=by rw[<-S.pre];exact S.nd.sublist (List.take_sublist _ _)
  refine⟨u,C,?_⟩;rcases S.par y (QA hp)with k|k
  ·exact .inl ⟨k,Jt m hp o k⟩
  ·obtain⟨c,e⟩:=Ob (n:=s.heap.objs.size+1) k;refine .inr ⟨.inl k,c,e,?_⟩;have q:=x.cell y c e;rw[Ju m hp o (by show scope.names.lookup y≠_;rw[k];decide)]at q;exact q
 ·exact e0.hok.fresh (JJ (x.above y c (ku h)))
 ·unfold start;show _=N.length;rw[zS,zi,List.length_replicate];omega
theorem Ix{CX:Wy}{k:Nat}{f:A1}{l:Arguments}{B kV g h a ct G:A0}{i od:O A1}{sp:Sp}(C:K.lookup f=U ⟨G,od,.func (fnOf name qual l body scope B kV g h i a ct),osl⟩)(X:codeIn K a qual=true)(S:bB N ps scope)(len:∀vs H Q E,sp vs H Q E->vs.length=ps.length)(a0:∀(A:A5) (outer:Z Env) (s:A2) (H:Hp) (vs:Z V) (Q:VK) (E:XK),gW k (A.deeper (AK qual scope s.heap.objs.size f a))->sp vs H Q E →
   ∃t,Cy (rK CX P w K mg base N qual scope f a A outer s H E) body t/\t { nx:=λ_ H'=>Q .non H',rt:=Q } (start N vs) H):
  ju P w K mg base CX (k+1) f (fnOf name qual l body scope B kV g h i a ct) ps sp:=by
 refine⟨len,λA outer s H a2 us vs Q E c e0 hb r j=>?_⟩;have L:=len _ _ _ _ j;have m:K.In s.heap:=e0.mod.kin.keeps λb o e=>(e0.bs b o e).1;have F:s.heap.NoLimit:=e0.mod.nolimit.keeps λb o e=>(e0.bs b o e).1;have a1:∀y∈ps.zip us,scope.names.lookup y.1=U .local\/(scope.names.lookup y.1=U .cell/\((cellsFrom (s.heap.objs.size+1) scope.names []).lookup y.1).isSome=true):=λ⟨n,v⟩ hy=>by
  rcases S.par n (yf hy).1 with q|q
  ·exact .inl q
  ·exact .inr ⟨q,cellsFrom_some _ _ _ (.inl q)⟩
 refine codeAny_call_function c.depth (m _ _ C) rfl S.co S.gen rfl (codeRec_of m X) (hb _ _ _ _ ?_);refine wpAny_newFunctionEnv_cells S.kind a1 λenv M z x=>?_;subst M;refine⟨F.keeps x.toInCall.keep,codeAny_func ?_⟩;obtain⟨t,D,W⟩:=a0 A outer s H vs Q E (c.deeper _) j;have I:AU (rK CX P w K mg base N qual scope f a A outer s H E) [] (start N vs) H z:=Jv S c.hd e0 L r x;refine ZZ (D [] z (start N vs) H _ I W) (λfl s' hs=>?_) λe s' hs=>hs;have p:∀{σ':St} {H':Hp} {v:V} {u:A0},AU (rK CX P w K mg base N qual scope f a A outer s H E) [] σ' H' s'->As v u->Q v H'->CE outer P w H s Q u s':=
  λ{σ' H' v u} J d q=>⟨v,H',J.os,J.bare,J.base,J.hok,d,q⟩
 cases fl with
 |ret u=>
  obtain⟨v,σ',H',J,d,q⟩:=hs;exact p J d q
 |next=>
  obtain⟨σ',H',J,q⟩:=hs;exact p (v:=V.non) (u:=Value.none) J rfl q
 |brk=>
  obtain⟨_,_,_,q⟩:=hs;exact False.elim q
 |cont=>
  obtain⟨_,_,_,q⟩:=hs;exact False.elim q
end L2
namespace L2
section
variable{X:Cx}{p:Pos}{t:TA}{id T:String}{r:Z V->Hp->VK->Prop}
def HQ(r:Z V->Hp->VK->Prop)(t:TA):TE:=λσ H Q=>t σ H λvs H1=>r vs H1 Q
theorem gq(d:fK X (.builtin id) r)(c:Gl X x)(i:X.mg x=Y)(g:AH x=U (.builtin id))(a:PA X (e::es) t)(j:x ≠ "__name__":=by decide)(b:(x==("__debug__":AJ))=false:=by decide)
  (he:A9 (e::es) X.env=(false,eval e X.env)::A9 es X.env:=by rfl) (f:(AD pos (A9 es X.env)).any (·.1)=false:=by rfl):PE X (.Call (.Name x p) (e::es) [] pos) (HQ r t):=by
 intro AN s σ H Q I h;refine kD (zU I c i g ?_ j b);exact PyProof.Rows.callWith_builtin1 (gM (a pos AN s σ H _ I h) λus s1 ⟨vs,H1,I1,r1,q1⟩=>d AN s1 σ H1 vs us Q I1 r1 q1) he f
theorem Jw(d:fK X (.type T) r)(c:Gl X x)(i:X.mg x=Y)(g:AH x=U (.type T))(a:PA X (e::es) t)(j:x ≠ "__name__":=by decide)(b:(x==("__debug__":AJ))=false:=by decide)
  (he:A9 (e::es) X.env=(false,eval e X.env)::A9 es X.env:=by rfl) (f:(AD pos (A9 es X.env)).any (·.1)=false:=by rfl):PE X (.Call (.Name x p) (e::es) [] pos) (HQ r t):=by
 intro AN s σ H Q I h;refine kD (zU I c i g ?_ j b);exact PyProof.Rows.callWith_type1 (gM (a pos AN s σ H _ I h) λus s1 ⟨vs,H1,I1,r1,q1⟩=>d AN s1 σ H1 vs us Q I1 r1 q1) he f
end
end L2
namespace HT
open PySem PyProof.Rows
section
open PySem.SeqAt
open PySem.AutoSeq1 (wpAny_loadPart')
open PySem.MeetsSeq PySem.MeetsSeq2 PySem.MeetsSeq3
end
theorem acv{t b:A1}{vs a:Z A0}{Q:B9}(u:IsTup s.heap t vs.toArray)(hb:IsTup s.heap b a.toArray)(q:vs≠[])
  (h1:a=[]->Q (.ref t) s) (h2:a≠[]->Q (.ref s.heap.objs.size) { s with heap:=s.heap.push { cls:=.type "tuple",data:=.seq (vs++a).toArray } })
  (hsz:vs.length+a.length<=AA):A7 (A8 prog w) A (binaryOp .Add (.ref t) (.ref b)) Q E s:=by
 obtain⟨⟨cls,p,data,sl⟩,d,l,n,i⟩:=id u;obtain⟨⟨cls2,o,v,g⟩,f,h,j,m⟩:=id hb;simp only at l i h m;subst l i h m;have e:vs.toArray++a.toArray=(vs++a).toArray:=by simp
 by_cases c:a=[]
 ·exact concat_meets ⟨_,d,rfl⟩ ⟨_,f,rfl⟩ noFill_tuple_add seq_tuple_add PySem.F.slot_tuple_add Yf (y3 _ _)
   (tuple_addW1 t b vs.toArray a.toArray n j p o sl g (by simpa using q) (by simp[c])) ⟨d,f,h1 c⟩
 ·refine concat_meets ⟨_,d,rfl⟩ ⟨_,f,rfl⟩ noFill_tuple_add seq_tuple_add PySem.F.slot_tuple_add Yf (y3 _ _)
   (tuple_addW2 t b vs.toArray a.toArray n j p o sl g (by simpa using q) (by simpa using c) (by rw[zI,zI];exact hsz)) ⟨d,f,?_⟩
  rw[e];exact h2 c
def iK(n d:Nat):O Int->Nat
 |none=>d
 |some v=>if v<0 then(v+(n:Int)).toNat else min v.toNat n
theorem YW(n d:Nat):iK n d Y=d:=rfl
theorem acw(n d k:Nat):iK n d (U (k:Int))=min k n:=by
 show(if(k:Int)<0 then((k:Int)+(n:Int)).toNat else min (k:Int).toNat n)=min k n;rw[zC (by omega),KP]
theorem Pv(n d:Nat)(b:d<=n)(o:O Int):iK n d o<=n:=by
 cases o with
 |none=>exact b
 |some v=>
  show(if v<0 then(v+(n:Int)).toNat else min v.toNat n)<=n;by_cases a:v<0
  ·rw[zh a];omega
  ·rw[zC a];exact Nat.min_le_right _ _
theorem U5(v:Int)(n d:Nat):(if v<0 then max (v+(n:Int)) 0 else min v (n:Int))=((iK n d (U v):Nat):Int):=by
 show(if v<0 then max (v+(n:Int)) 0 else min v (n:Int))=(((if v<0 then(v+(n:Int)).toNat else min v.toNat n):Nat):Int);by_cases a:v<0
 ·simp only[zh a];omega
 ·simp only[zC a];omega
theorem RV(lo hi:O Int)(n:Nat):Builtin.Slice.sliceAdjust lo hi 1 (n:Int)=(((iK n 0 lo:Nat):Int),((iK n n hi:Nat):Int)):=by
 have h1:¬ ((1:Int)<0):=by omega
 unfold Builtin.Slice.sliceAdjust;simp only[h1,ZO];refine Prod.ext ?_ ?_
 ·cases lo with
  |none=>rfl
  |some v=>exact U5 v n 0
 ·cases hi with
  |none=>rfl
  |some v=>exact U5 v n n
theorem RW(i j:Nat):Builtin.Slice.slicePlaces (i:Int) (j:Int) 1=j-i:=by
 unfold Builtin.Slice.slicePlaces;have h1:(1:Int)>0:=by omega
 simp only[h1,qS,Int.ediv_one];split<;>omega
theorem EY{v:A0}{o:O Int}{Q:O Int->A2->Prop}(p:IsPart v o)(h:Q o s):A7 (A8 prog w) A (Builtin.Slice.slicePartIndex v) Q E s:=by
 cases p with
 |none=>exact slicePart_none h
 |int i t=>exact slicePart_int h
theorem qQ{sl:A1}{a b:A0}{Q:Int×Int×Nat->A2->Prop}(hs:s.heap.IsSliceOf sl a b .none)(pl:IsPart a lo)(e:IsPart b hi)(h:Q (((iK n 0 lo:Nat):Int),1,iK n n hi-iK n 0 lo) s):A7 (A8 prog w) A (Builtin.Slice.sliceApplied (.ref sl) (pure (n:Int))) Q E s:=by
 obtain⟨os,c,f,d⟩:=id hs;unfold Builtin.Slice.sliceApplied Builtin.Slice.sliceFields;refine zb (zb (Jn c d (x:=a) S (zb (Jn c d (x:=b) S (zb (Jn c d (x:=.none) S (ze ?_)))))));refine zb (slicePart_none ?_);show A7 _ _ (if((1:Int)==0)=true then _ else _) _ _ s;rw[zC (by decide)];refine zb (EY pl (zb (EY e (zb (ze ?_)))));show A7 _ _ (match Builtin.Slice.sliceAdjust lo hi 1 (n:Int)with|(lo,hi)=>pure (lo,(1:Int),Builtin.Slice.slicePlaces lo hi 1)) _ _ s;rw[RV lo hi n];show A7 _ _ (pure (((iK n 0 lo:Nat):Int),(1:Int),Builtin.Slice.slicePlaces ((iK n 0 lo:Nat):Int) ((iK n n hi:Nat):Int) 1)) _ _ s;rw[RW];exact ze h
theorem YX(xs:Array A0)(i k:Nat):((List.range k).filterMap λ(m:Nat)=>xs[((i:Int)+(m:Int)*1).toNat]?).toArray=((xs.toList.drop i).take k).toArray:=by
 have e:(λ(m:Nat)=>xs[((i:Int)+(m:Int)*1).toNat]?)=λm=>xs[i+m]?:=by
  funext m;have:((i:Int)+(m:Int)*1).toNat=i+m:=by omega
  rw[this]
 rw[e];have:=pick_run xs i k;rw[List.filterMap_map]at this;have e2:((λx=>xs[x]?) ∘ λx=>i+x)=λm=>xs[i+m]?:=rfl;rw[e2]at this;rw[this]
theorem yp{t sl:A1}{c d:A0}{Q:B9}(a:IsTup s.heap t items)(hs:s.heap.IsSliceOf sl c d .none)(pl:IsPart c lo)(e:IsPart d hi)(f:¬ (iK items.size 0 lo=0/\iK items.size items.size hi=items.size))(h:Q (.ref s.heap.objs.size) { s with heap:=s.heap.push { cls:=.type "tuple",data:=.seq ((items.toList.drop (iK items.size 0 lo)).take (iK items.size items.size hi-iK items.size 0 lo)).toArray } })(hsz:items.size<=AA):A7 (A8 prog w) A (getItem (.ref t) (.ref sl)) Q E s:=by
 have b:sizeOk (.seq ((items.toList.drop (iK items.size 0 lo)).take (iK items.size items.size hi-iK items.size 0 lo)).toArray):=by
  show((items.toList.drop (iK items.size 0 lo)).take (iK items.size items.size hi-iK items.size 0 lo)).toArray.size<=AA;rw[zI,kz,kA,qq];omega
 have n:iK items.size items.size hi<=items.size:=Pv _ _ (zg _) hi;obtain⟨os,l,i,o⟩:=id hs;have j:s.TypeIs (.ref sl) "slice":=⟨os,l,i⟩;unfold getItem
 try with_reducible refine qA ?_
 first|refine zb (ze ?_)|skip
 refine zb (wpAny_sequenceKey a.typeIs (by decide) ?_);refine zb (KB (name:=Str.ofString "__getitem__") a.typeIs PyProof.Rows.slot_tuple_getitem
  (kf PyProof.Rows.slot_tuple_getitem a.typeIs entry_tuple_getitem ?_ (args_tuple_getitem _ _)))
 show A7 _ _ (Builtin.Tuple.tupleItemsOf (.ref t) >>= _) _ _ s;refine zb (tupleItemsOf_ a ?_);refine zb (QR j ?_);rw[zh (by decide)];refine zb (qQ hs pl e ?_);have g:¬ ((((iK items.size 0 lo:Nat):Int)==0&&(1:Int)==1&&(iK items.size items.size hi-iK items.size 0 lo)==items.size)=true):=by
  intro q;rw[Zz,Zz]at q;have q1:((iK items.size 0 lo:Nat):Int)=0:=eq_of_beq q.1.1;have q2:iK items.size items.size hi-iK items.size 0 lo=items.size:=eq_of_beq q.2;exact f ⟨by omega,by omega⟩
 show A7 _ _ (if(((iK items.size 0 lo:Nat):Int)==0&&(1:Int)==1&&(iK items.size items.size hi-iK items.size 0 lo)==items.size)=true then _ else _) _ _ s;rw[zC g,YX]
 first
  |exact zb (m:=Builtin.Tuple.tupleExact _) (qh (ze ⟨_,rfl,ze h⟩) b)
  |exact zb (m:=Builtin.Tuple.tupleExact _) (qh (zb (ze (ze ⟨_,rfl,ze h⟩))) b)
  |exact zb (zb (m:=Builtin.Tuple.tupleExact _) (qh (ze (ze ⟨_,rfl,ze h⟩)) b))
  |exact zb (zb (m:=Builtin.Tuple.tupleExact _) (qh (ze ⟨_,rfl,ze h⟩) b))
end HT
namespace L2
abbrev TO:=St->Hp->(O Int->Hp->Prop)->Prop
def PO(X:Cx)(e:O Expr)(t:TO):Prop:=
 ∀(AN:Z (A1×AE)) (s:A2) (σ:St) (H:Hp) (Q:O Int->Hp->Prop),AU X AN σ H s->t σ H Q →
  A7 (A8 X.prog X.w) X.A (evalPart e X.env) (λu s'=>∃o H',AU X AN σ H' s'/\IsPart u o/\Q o H') X.xe s
def WV:TO:=λ_ H Q=>Q Y H
def RO(t:TE):TO:=λσ H Q=>t σ H λx H1=>∃i,x=.int i/\Q (U i) H1
section
variable{X:Cx}{te:TE}{lo hi:O Expr}{tl th:TO}
theorem Sa:PO X Y WV:=by
 intro AN s σ H Q I h;rw[evalPart_none];exact ze ⟨Y,H,I,.none,h⟩
theorem i7(h:PE X e te):PO X (U e) (RO te):=by
 intro AN s σ H Q I a;rw[evalPart_some];refine gM (h AN s σ H _ I a) λu s1 ⟨x,H1,I1,r1,q1⟩=>?_;obtain⟨i,rfl,q⟩:=q1;obtain⟨t,rfl⟩:=r1;exact⟨U i,H1,I1,.int i t,q⟩
def GG(X:Cx)(r:V->O Int->O Int->Hp->VK->Prop):Prop:=
 ∀(AN:Z (A1×AE)) (s:A2) (σ:St) (H:Hp) (x:V) (v a b:A0) (lo hi:O Int) (sl:A1) (Q:VK),AU X AN σ H s->As x v->s.heap.IsSliceOf sl a b .none->IsPart a lo->IsPart b hi->r x lo hi H Q →
  ∃T id,typeLookup (.type T) "__getitem__"=pure (U (.builtin id))/\s.TypeIs v T/\A7 (A8 X.prog X.w) X.A (getItem v (.ref sl)) (EP X AN σ Q) X.xe s
def YR(r:V->O Int->O Int->Hp->VK->Prop)(te:TE)(tl th:TO):TE:=λσ H Q=>te σ H λx H1=>tl σ H1 λl H2=>th σ H2 λu a=>r x l u a Q
theorem YZ{r:V->O Int->O Int->Hp->VK->Prop}(a:GG X r)(he:PE X e te)(d:PO X lo tl)(j:PO X hi th):PE X (.Subscript e (.Slice lo hi Y p2) pos) (YR r te tl th):=by
 intro AN s σ H Q I h;refine Subscript_ (gM (he AN s σ H _ I h) λv s1 ⟨x,H1,I1,r1,q1⟩=>?_);refine wpAny_Slice (gM (d AN s1 σ H1 _ I1 q1) λvl s2 ⟨l,H2,I2,pl,q2⟩=>gM (j AN s2 σ H2 _ I2 q2) λvu s3 ⟨u,H3,I3,pu,q3⟩=>?_);rw[evalPart_none];refine ze ?_;have i:AU X AN σ H3 { s3 with heap:=s3.heap.push { cls:=.type "slice",data:=.fields #[vl,vu,.none] } }:=I3.kept (t':=s3.toks) λb m q=>zd _ q;obtain⟨T,id,f,c,g⟩:=a AN { s3 with heap:=s3.heap.push { cls:=.type "slice",data:=.fields #[vl,vu,.none] } } σ H3 x v vl vu l u s3.heap.objs.size Q i r1 (Heap.IsSliceOf.new ..) pl pu q3;show A7 (A8 X.prog X.w) X.A (subscriptTail e (.Slice lo hi Y p2) v (.ref s3.heap.objs.size)) (EP X AN σ Q) X.xe { s3 with heap:=s3.heap.push { cls:=.type "slice",data:=.fields #[vl,vu,.none] } };exact tail_any (ops:=[.ref s3.heap.objs.size,v]) c f g (by with_unfolding_all rfl)
def Oc(xs:Z V)(lo hi:O Int):Z V:=(xs.drop (HT.iK xs.length 0 lo)).take (HT.iK xs.length xs.length hi-HT.iK xs.length 0 lo)
theorem Bh(xs:Z V)(lo hi:O Int):(Oc xs lo hi).length<=xs.length:=by
 unfold Oc;rw[kz,kA];omega
def TR(K:B1):V->O Int->O Int->Hp->VK->Prop:=λx lo hi H Q=>∃a xs,x=.ref a/\yh K H a xs ∧
 ¬ (HT.iK xs.length 0 lo=0/\HT.iK xs.length xs.length hi=xs.length)/\∀p,H p=Y->Q (.ref p) (B0 H p (.tup (Oc xs lo hi)))
theorem a9:GG X (TR X.K):=by
 intro AN s σ H x v l m lo hi sl Q I i hs pl g h;obtain⟨a,xs,rfl,hx,f,q⟩:=h;cases i;obtain⟨AQ,r,d,e⟩:=I.tuple hx;have c:AQ.toArray.size=xs.length:=by rw[zI];exact r.length.symm
 refine⟨"tuple", _,PyProof.Rows.slot_tuple_getitem.lookup,d.typeIs,?_⟩;refine HT.yp d hs pl g (by rw[c];exact f) ?_ (by rw[c];exact e);rw[c];refine⟨.ref s.heap.objs.size,_,I.laid (t':=s.toks) (o:=.tup (Oc xs lo hi)) (λb j q=>zd _ q) (zg _) ?_,rfl,q _ (I.hok.fresh (zg _))⟩;exact⟨ZH (Bh xs lo hi) e,_,(r.drop (HT.iK xs.length 0 lo)).take (HT.iK xs.length xs.length hi-HT.iK xs.length 0 lo),uH.new _ _⟩
def Sf(K:B1):R2:=λx y H Q=>∃a b xs ys,x=.ref a/\y=.ref b/\yh K H a xs/\yh K H b ys/\xs≠[]/\xs.length+ys.length<=AA ∧
 (ys=[]->Q (.ref a) H)/\(ys≠[]->∀p,H p=Y->Q (.ref p) (B0 H p (.tup (xs++ys))))
theorem AX.Dv{xs:Z V}(r:AX xs us):us=[]↔xs=[]:=by
 cases r with
 |nil=>simp
 |cons _ _=>simp
theorem fm:uL X (binaryOp .Add) (Sf X.K):=by
 intro AN s σ H x y v u Q I i g h;obtain⟨a,b,xs,ys,rfl,rfl,f,hb,hx,e,q1,q2⟩:=h;cases i;cases g;obtain⟨AQ,d,p1,_⟩:=I.tuple f;obtain⟨l,c,p2,_⟩:=I.tuple hb;refine HT.acv p1 p2 (λz=>hx (d.Dv.mp z)) (λz=>⟨.ref a,H,I,rfl,q1 (c.Dv.mp z)⟩) (λz=>?_) (by rw[<-d.length,<-c.length];exact e);refine⟨.ref s.heap.objs.size,_,I.laid (t':=s.toks) (o:=.tup (xs++ys)) (λb j q=>zd _ q) (zg _) ?_,rfl,q2 (λw=>z (c.Dv.mpr w)) _ (I.hok.fresh (zg _))⟩;exact⟨by rw[zS];exact e,_,d.append c,uH.new _ _⟩
end
end L2
namespace L2
def EN(n:Nat)(i:Int):O Nat:=if 0<=i then(if i<n then U i.toNat else Y)else if -(n:Int)<=i then U (i+n).toNat else Y
def Ie(xs:Z α)(i:Int):O α:=(EN xs.length i).bind λj=>xs[j]?
theorem gh{i:Int}(h:EN n i=U j):seqIndex? i n=U j/\j<n ∧ -(n:Int)<=i/\i<n:=by
 unfold EN at h;by_cases h0:0<=i
 ·rw[zh h0]at h;by_cases h1:i<n
  ·rw[zh h1]at h;have e:i.toNat=j:=ja h;exact⟨by rw[seqIndex_of h0 h1,e],by omega,by omega,h1⟩
  ·rw[zC h1]at h;cases h
 ·rw[zC h0]at h;by_cases h1 : -(n:Int)<=i
  ·rw[zh h1]at h;have e:(i+n).toNat=j:=ja h;exact⟨by rw[seqIndex_neg (by omega) h1,e],by omega,h1,by omega⟩
  ·rw[zC h1]at h;cases h
theorem Kw{xs:Z α}{i:Int}{v:α}(h:Ie xs i=U v):∃j,seqIndex? i xs.length=U j/\xs[j]?=U v/\j<xs.length ∧ -(xs.length:Int)<=i/\i<xs.length:=by
 unfold Ie at h;cases e:EN xs.length i with
 |none=>rw[e]at h;cases h
 |some j=>
  rw[e]at h;obtain⟨h1,h2,a,b⟩:=gh e;exact⟨j,h1,h,h2,a,b⟩
def U7(b:Expr):Prop:=∀o i,subscripted b false o i=operate [o,i] (getItem o i)
def D6(X:Cx)(r:R2):Prop:=
 ∀(value a:Expr) (AN:Z (A1×AE)) (s:A2) (σ:St) (H:Hp) (x y:V) (v u:A0) (Q:VK),AU X AN σ H s->As x v->As y u->r x y H Q →
  subscripted a false v u=operate [v,u] (getItem v u)->A7 (A8 X.prog X.w) X.A (subscriptTail value a v u) (EP X AN σ Q) X.xe s
def MC(X:Cx)(id:String)(r:V->Z V->Hp->VK->Prop):Prop:=
 ∀(AN:Z (A1×AE)) (s:A2) (σ:St) (H:Hp) (x:V) (xs:Z V) (v:A0) (us:Z A0) (Q:VK),AU X AN σ H s->As x v->AX xs us->r x xs H Q →
  A7 (A8 X.prog X.w) X.A (call (.builtin id) (v::us)) (EP X AN σ Q) X.xe s
section
variable{X:Cx}{a b:Expr}{ta tb:TE}
theorem D6.or{r d:R2}(h:D6 X r)(h':D6 X d):D6 X (λx y H Q=>r x y H Q\/d x y H Q):=by
 intro value a AN s σ H x y v u Q I b c q hs;rcases q with q|q
 ·exact h value a AN s σ H x y v u Q I b c q hs
 ·exact h' value a AN s σ H x y v u Q I b c q hs
theorem SS{r:R2}(c:D6 X r)(e:PE X a ta)(hb:PE X b tb)(hs:U7 b):PE X (.Subscript a b pos) (F6 r ta tb):=by
 intro AN s σ H Q I h;exact Subscript_ (IM e hb I h λv u d x y H2 g i f q=>c a b AN d σ H2 x y v u Q g i f q (hs _ _))
def MM(K:B1):R2:=λx y H Q=>∃p xs i v,x=.ref p/\y=.int i/\qO K H p xs/\Ie xs i=U v/\Q v H
def MW(K:B1):R2:=λx y H Q=>∃p xs i v,x=.ref p/\y=.int i/\yh K H p xs/\Ie xs i=U v/\Q v H
def NE:R2:=λx y H Q=>∃z i c,x=.str z/\y=.int i/\z.length<=AA/\Ie z.cps.toList i=U c/\Q (.str ⟨#[c]⟩) H
theorem PZ:D6 X (MM X.K):=by
 intro value B AN s σ H x y v u Q I o l h hs;obtain⟨p,xs,i,z,rfl,rfl,d,m,q⟩:=h;cases o;obtain⟨t,rfl⟩:=l;obtain⟨AQ,r,pl,C⟩:=I.list d;obtain⟨j,h1,h2,A,e,g⟩:=Kw m;obtain⟨w,c,n⟩:=r.get h2;have f:=r.length;have D:=zX;have b:EP X AN σ Q w s:=⟨z,H,I,n,q⟩;by_cases h0:0<=i
 ·have a:i.toNat=j:=by
   rw[seqIndex_of h0 g]at h1;exact ja h1
  exact item_listR pl.isList h0 (by omega) (by rw[a];simpa using c) b hs
 ·have a:(i+(AQ.toArray.size:Int)).toNat=j:=by
   rw[seqIndex_neg (by omega) e]at h1;rw[zI,<-f];exact ja h1
  exact subscriptTail_builtinR (x:=w) pl.isList.typeIs slot_list_getitem.lookup
   (wpAny_getItem_list_neg (Q:=λr s'=>r=w/\EP X AN σ Q r s') pl.isList (by omega) (by rw[zI]<;>omega) (by omega) (by rw[a];simpa using c) ⟨rfl,b⟩) hs
theorem OL:D6 X (MW X.K):=by
 intro value o AN s σ H x y v u Q I l e h hs;obtain⟨p,xs,i,z,rfl,rfl,c,f,q⟩:=h;cases l;obtain⟨t,rfl⟩:=e;obtain⟨AQ,r,pl,A⟩:=I.tuple c;obtain⟨j,h1,h2,m,n,B⟩:=Kw f;obtain⟨w,b,g⟩:=r.get h2;have d:=r.length;have C:=zX;have a:EP X AN σ Q w s:=⟨z,H,I,g,q⟩;exact subscriptTail_builtinR (x:=w) pl.typeIs slot_tuple_getitem.lookup
  (getItem_tuple (j:=j) (Q:=λr s'=>r=w/\EP X AN σ Q r s') pl (by omega) (by omega) (by rw[zI,<-d];exact h1) (by simpa using b) ⟨rfl,a⟩) hs
theorem Os:D6 X NE:=by
 intro value m AN s σ H x y v u Q I g e h hs;obtain⟨z,i,c,rfl,rfl,n,f,q⟩:=h;obtain⟨t,rfl⟩:=g;obtain⟨o,rfl⟩:=e;obtain⟨j,h1,h2,l,b,d⟩:=Kw f;have a:z.cps.toList.length=z.length:=by simp[Str.length]
 rw[a]at h1 b d;have p:=zX;exact tail_any (typeIs_str s z t) slot_str_getitem.lookup (getItem_str (c:=c) (by
  have e1:decide (i < -(2 ^ 63:Int))=false:=ZE (by omega);have e2:decide (i>=2 ^ 63)=false:=ZE (by omega);rw[e1,e2,Bool.or_false]) (by rw[h1];simpa using h2) ⟨.str ⟨#[c]⟩,H,I.tok _,⟨_,rfl⟩,q⟩) hs
def XL(K:B1):R2:=λx y H Q=>MM K x y H Q\/MW K x y H Q\/NE x y H Q
theorem On:D6 X (XL X.K):=PZ.or (OL.or Os)
theorem AU.lst{σ:St}{H:Hp}{p:A1}{xs:Z V}(I:AU X AN σ H s)(h:H p=U (.lst xs)):
  ∃(AQ:Z A0) (n:Nat),AX xs AQ/\s.heap.get? p=U { cls:=.type "list",data:=.seq AQ.toArray n }/\xs.length<=AA:=by
 obtain⟨z,AQ,n,r,e⟩:=I.hok p _ h;exact⟨AQ,n,r,e,z⟩
theorem Kz(lo hi:O Int)(n:Nat):(sliceBounds lo hi Y n).1=((HT.iK n 0 lo:Nat):Int)/\(sliceBounds lo hi Y n).2.1=((HT.iK n n hi:Nat):Int)/\(sliceBounds lo hi Y n).2.2=1:=by
 refine⟨?_,?_,rfl⟩
 ·cases lo with
  |none=>simp[sliceBounds,HT.iK]
  |some i=>
   simp only[sliceBounds,HT.iK,Option.getD_none,show(1:Int)>0 by decide,qS];by_cases h:i<0
   ·simp only[h,qS]<;>omega
   ·simp only[h,ZO]<;>omega
 ·cases hi with
  |none=>simp[sliceBounds,HT.iK]
  |some i=>
   simp only[sliceBounds,HT.iK,Option.getD_none,show(1:Int)>0 by decide,qS];by_cases h:i<0
   ·simp only[h,qS]<;>omega
   ·simp only[h,ZO]<;>omega
theorem Ig(AQ:Z A0)(lo hi:O Int):slicePick AQ.toArray lo hi Y=((AQ.drop (HT.iK AQ.length 0 lo)).take (HT.iK AQ.length AQ.length hi-HT.iK AQ.length 0 lo)).toArray:=by
 obtain⟨h1,h2,a⟩:=Kz lo hi AQ.toArray.size;unfold slicePick;rw[h1,h2,a];simp only[sliceRange_one,pick_run,zI]<;>rfl
def TB(K:B1):V->O Int->O Int->Hp->VK->Prop:=λx lo hi H Q=>∃a xs,x=.ref a/\qO K H a xs/\∀p,H p=Y->Q (.ref p) (B0 H p (.lst (Oc xs lo hi)))
theorem P6:GG X (TB X.K):=by
 intro AN s σ H x v j l lo hi sl Q I f hs pl d h;obtain⟨a,xs,rfl,hx,q⟩:=h;cases f;obtain⟨AQ,r,c,e⟩:=I.list hx;have g:=r.length;refine⟨"list", _,slot_list_getitem.lookup,c.isList.typeIs,?_⟩;refine wpAny_getItem_list_slice c.isList hs pl d .none (by simp) ?_ (by rw[zI]<;>omega);rw[Ig,<-g];refine⟨.ref s.heap.objs.size,_,I.laid (t':=s.toks) (o:=.lst (Oc xs lo hi)) (λb i q=>zd _ q) (zg _) ?_,rfl,q _ (I.hok.fresh (zg _))⟩;exact⟨ZH (Bh xs lo hi) e,_,0,(r.drop (HT.iK xs.length 0 lo)).take (HT.iK xs.length xs.length hi-HT.iK xs.length 0 lo),zv _ rfl⟩
def tZ:V->Bool
 |.non=>true
 |.bl _=>true
 |.int _=>true
 |.str _=>true
 |_=>false
def D2:V->V->Bool
 |.non,.non=>true
 |.bl a,.bl b=>a==b
 |.bl a,.int b=>(if a then 1 else 0)==b
 |.int a,.bl b=>a==(if b then 1 else 0)
 |.int a,.int b=>a==b
 |.str a,.str b=>a==b
 |_,_=>false
theorem WO{y x:V}{v:A0}(e:As y u)(c:As x v)(fy:tZ y=true)(fx:tZ x=true):SeqAt.EqAt A s u v (D2 y x):=by
 cases y with
 |non=>
  cases e;cases x with
  |non=>cases c;exact SeqAt.EqAt.same _
  |bl b=>cases c;exact SeqAt.EqAt.none_bool b
  |int b=>obtain⟨t,rfl⟩:=c;exact SeqAt.EqAt.none_int b t
  |str b=>obtain⟨t,rfl⟩:=c;exact SeqAt.EqAt.none_str b t
  |_=>exact absurd (show false=true from fx) ZI
 |bl a=>
  cases e;cases x with
  |non=>cases c;exact SeqAt.EqAt.bool_none a
  |bl b=>cases c;exact SeqAt.EqAt.bool_bool a b
  |int b=>obtain⟨t,rfl⟩:=c;exact SeqAt.EqAt.bool_int a b t
  |str b=>obtain⟨t,rfl⟩:=c;exact SeqAt.EqAt.bool_str a b t
  |_=>exact absurd (show false=true from fx) ZI
 |int a=>
  obtain⟨d,rfl⟩:=e;cases x with
  |non=>cases c;exact SeqAt.EqAt.int_none a d
  |bl b=>cases c;exact SeqAt.EqAt.int_bool a d b
  |int b=>obtain⟨t,rfl⟩:=c;exact SeqAt.EqAt.int_int a d b t
  |str b=>obtain⟨t,rfl⟩:=c;exact SeqAt.EqAt.int_str a d b t
  |_=>exact absurd (show false=true from fx) ZI
 |str a=>
  obtain⟨d,rfl⟩:=e;cases x with
  |non=>cases c;exact SeqAt.EqAt.str_none a d
  |bl b=>cases c;exact SeqAt.EqAt.str_bool a d b
  |int b=>obtain⟨t,rfl⟩:=c;exact SeqAt.EqAt.str_int a d b t
  |str b=>obtain⟨t,rfl⟩:=c;exact SeqAt.EqAt.str_str a d b t
  |_=>exact absurd (show false=true from fx) ZI
 |_=>exact absurd (show false=true from fy) ZI
def RZ(x:V)(u:A0):Bool:=match u with
 |.none=>D2 .non x
 |.bool b=>D2 (.bl b) x
 |.int i _=>D2 (.int i) x
 |.str z _=>D2 (.str z) x
 |_=>false
theorem Y0{x y:V}(r:As y u)(f:tZ y=true):RZ x u=D2 y x:=by
 cases y with
 |non=>cases r;rfl
 |bl b=>cases r;rfl
 |int i=>obtain⟨t,rfl⟩:=r;rfl
 |str z=>obtain⟨t,rfl⟩:=r;rfl
 |_=>exact absurd (show false=true from f) ZI
theorem yq{x:V}:∀{xs:Z V} {us:Z A0},AX xs us->xs.all tZ=true->us.any (RZ x)=xs.any λy=>D2 y x
 |_,_,.nil,_=>rfl
 |y::xs,u::us,.cons r t,f=>by
  rw[kr,Zz]at f;rw[kq,kq,Y0 r f.1,yq t f.2]
theorem uM{A:A5}{s:A2}{x:V}{v:A0}(b:As x v)(fx:tZ x=true):∀{xs:Z V} {us:Z A0},AX xs us->xs.all tZ=true->∀u∈us,SeqAt.EqAt A s u v (RZ x u)
 |_,_,.nil,_=>λu a=>by cases a
 |y::xs,u::us,.cons r t,f=>λc a=>by
  rw[kr,Zz]at f;rcases List.mem_cons.mp a with rfl|a
  ·rw[Y0 r f.1];exact WO r b f.1 fx
  ·exact uM b fx t f.2 c a
def Fr(x:V)(xs:Z V):Bool:=xs.any λy=>D2 y x
def LN(K:B1)(a:Bool):R2:=λx y H Q=>∃p xs,y=.ref p/\(qO K H p xs\/yh K H p xs)/\tZ x=true/\xs.all tZ=true/\Q (.bl (if a then !Fr x xs else Fr x xs)) H
theorem Wz:uL X (AG .In) (LN X.K false):=by
 intro AN s σ H x y v u Q I c e h;obtain⟨p,xs,rfl,a,fx,fs,q⟩:=h;cases e;rcases a with a|a
 ·obtain⟨AQ,r,pl,d⟩:=I.list a;refine SeqAt.in_listAt (RZ x) pl.isList (λw b=>uM c fx r fs w (by simpa using b)) ⟨.bl _,H,I,rfl,?_⟩;rw[show AQ.toArray.any (RZ x)=AQ.any (RZ x) by simp,yq r fs];exact q
 ·obtain⟨AQ,r,pl,d⟩:=I.tuple a;refine SeqAt.in_tupleAt (RZ x) pl (λw b=>uM c fx r fs w (by simpa using b)) ⟨.bl _,H,I,rfl,?_⟩;rw[show AQ.toArray.any (RZ x)=AQ.any (RZ x) by simp,yq r fs];exact q
theorem KC:uL X (AG .NotIn) (LN X.K true):=by
 intro AN s σ H x y v u Q I c e h;obtain⟨p,xs,rfl,a,fx,fs,q⟩:=h;cases e;rcases a with a|a
 ·obtain⟨AQ,r,pl,d⟩:=I.list a;refine SeqAt.notIn_listAt (RZ x) pl.isList (λw b=>uM c fx r fs w (by simpa using b)) ⟨.bl _,H,I,rfl,?_⟩;rw[show AQ.toArray.any (RZ x)=AQ.any (RZ x) by simp,yq r fs];exact q
 ·obtain⟨AQ,r,pl,d⟩:=I.tuple a;refine SeqAt.notIn_tupleAt (RZ x) pl (λw b=>uM c fx r fs w (by simpa using b)) ⟨.bl _,H,I,rfl,?_⟩;rw[show AQ.toArray.any (RZ x)=AQ.any (RZ x) by simp,yq r fs];exact q
theorem KD:uL X (AG .NotIn) (λx y H Q=>∃i j,x=.str i/\y=.str j/\Q (.bl (!(!(Builtin.Str.occurrences j i 0 j.length 1).isEmpty))) H):=by
 intro AN s σ H x y v u Q I a b h;obtain⟨i,j,rfl,rfl,q⟩:=h;obtain⟨t,rfl⟩:=a;obtain⟨c,rfl⟩:=b;exact notIn_str ⟨.bl _,H,I,rfl,q⟩
theorem KH:fK X (.builtin "len") (λxs H Q=>∃p ys,xs=[.ref p]/\(qO X.K H p ys\/yh X.K H p ys)/\Q (.int ys.length) H):=by
 intro AN s σ H xs us Q I r h;obtain⟨p,ys,rfl,a,q⟩:=h;obtain⟨u,rfl,e⟩:=BC r;cases e;have f:=zX;rcases a with a|a
 ·obtain⟨AQ,b,pl,d⟩:=I.list a;have c:=b.length;exact Calls.call_len_list pl.isList (by simp only[zI]<;>omega) ⟨.int ys.length,H,I.tok _,⟨s.toks+1,by rw[zI,c]⟩,q⟩
 ·obtain⟨AQ,b,pl,d⟩:=I.tuple a;have c:=b.length;exact len_tuple pl (by simp only[zI]<;>omega) ⟨.int ys.length,H,I.tok _,⟨s.toks+1,by rw[zI,c]⟩,q⟩
theorem KJ:fK X (.builtin "len") (λxs H Q=>∃z,xs=[.str z]/\z.length<=AA/\Q (.int z.length) H):=by
 intro AN s σ H xs us Q I r h;obtain⟨z,rfl,a,q⟩:=h;obtain⟨u,rfl,t,rfl⟩:=BC r;have b:=zX;exact len_str (by omega) ⟨.int z.length,H,I.tok _,⟨_,rfl⟩,q⟩
theorem fK.or{f:A0}{r a:Z V->Hp->VK->Prop}(h:fK X f r)(h':fK X f a):fK X f (λxs H Q=>r xs H Q\/a xs H Q):=by
 intro AN s σ H xs us Q I b q;rcases q with q|q
 ·exact h AN s σ H xs us Q I b q
 ·exact h' AN s σ H xs us Q I b q
theorem KN:fK X (.type "list") (λxs H Q=>∃p ys,xs=[.ref p]/\(qO X.K H p ys\/yh X.K H p ys)/\∀l,H l=Y->Q (.ref l) (B0 H l (.lst ys))):=by
 intro AN s σ H xs us Q I r h;obtain⟨p,ys,rfl,d,q⟩:=h;obtain⟨u,rfl,t⟩:=BC r;cases t;have m:∀(AQ:Z A0),AX ys AQ->ys.length<=AA->∀(h':A6) (a:Nat),(∀b o',s.heap.get? b=U o'->h'.get? b=U o') →
   h'.get? s.heap.objs.size=U { cls:=.type "list",dict:=Y,data:=.seq AQ.toArray a,slots:=#[] }->EP X AN σ Q (.ref s.heap.objs.size) { s with heap:=h' }:=λAQ c f h' a kp e=>
  ⟨.ref s.heap.objs.size,_,I.laid (t':=s.toks) kp (zg _) (show gn X.prog X.w _ h' _ (.lst ys) from⟨f,AQ,a,c,e⟩),rfl,q _ (I.hok.fresh (zg _))⟩
 rcases d with d|d
 ·obtain⟨AQ,c,pl,f⟩:=I.list d;have v:=c.length;obtain⟨o,i,j,n,g⟩:=pl.isList;exact call_list_seq p (.inl S) i j g (λh' a kp e=>m AQ c f h' a kp e) (by simp only[zI]<;>omega)
 ·obtain⟨AQ,c,pl,f⟩:=I.tuple d;have v:=c.length;obtain⟨o,i,j,n,g⟩:=pl;exact call_list_seq p (.inr S) i j g (λh' a kp e=>m AQ c f h' a kp e) (by simp only[zI]<;>omega)
theorem Ih:fK X (.type "tuple") (λxs H Q=>∃p ys,xs=[.ref p]/\((qO X.K H p ys/\∀l,H l=Y->Q (.ref l) (B0 H l (.tup ys)))\/(yh X.K H p ys/\Q (.ref p) H))):=by
 intro AN s σ H xs us Q I r h;obtain⟨p,ys,rfl,h⟩:=h;obtain⟨u,rfl,i⟩:=BC r;cases i;rcases h with⟨a,q⟩|⟨a,q⟩
 ·obtain⟨AQ,c,pl,d⟩:=I.list a;have j:=c.length;refine call_tuple_list pl.isList (λh' kp=>?_) (by simp only[zI]<;>omega);have f:AU X AN σ H { s with heap:=h' }:=I.kept (t':=s.toks) kp;have g:AU X AN σ (B0 H h'.objs.size (.tup ys)) { s with heap:=h'.push { cls:=.type "tuple",data:=.seq AQ.toArray } }:=
   f.laid (t':=s.toks) (λb o e=>zd _ e) (zg _) (show gn X.prog X.w _ _ _ (.tup ys) from⟨d,AQ,c,uH.new _ _⟩)
  exact⟨.ref h'.objs.size,_,g,rfl,q _ (f.hok.fresh (zg _))⟩
 ·obtain⟨AQ,c,pl,d⟩:=I.tuple a;exact call_tuple_same pl ⟨.ref p,H,I,rfl,q⟩
def MI(K:B1)(T:String)(x:V)(H:Hp):Prop:=match x with
 |.str _=>T ="str"
 |.int _=>T ="int"
 |.ref p=>(T ="list" ∧ ∃xs,qO K H p xs)\/(T ="tuple" ∧ ∃o,K.lookup p=U o/\o.cls=.type "tuple" ∧ o.dict=Y) ∨
   (T ="dict" ∧ ((∃AO,H p=U (.dK AO))\/∃AO,H p=U (.dT AO)))\/(T ="set" ∧ ∃S n,H p=U (.set S n))
 |_=>False
theorem am{σ:St}{H:Hp}{T:String}{x:V}{v:A0}(I:AU X AN σ H s)(r:As x v)(ty:MI X.K T x H):
  s.TypeIs v T/\∀a,v=.ref a->∃f,s.heap.get? a=U f/\f.dict=Y:=by
 cases x with
 |str z=>
  obtain⟨t,rfl⟩:=r;cases(show T ="str" from ty);exact⟨typeIs_str s z t,λ_ e=>nomatch e⟩
 |int i=>
  obtain⟨t,rfl⟩:=r;cases(show T ="int" from ty);exact⟨typeIs_int s i t,λ_ e=>nomatch e⟩
 |ref p=>
  cases r;rcases ty with⟨rfl,xs,g⟩|⟨rfl,o,b,h,d⟩|⟨rfl,b⟩|⟨rfl,S,n,b⟩
  ·obtain⟨AQ,_,pl,_⟩:=I.list g;refine⟨pl.isList.typeIs,λa e=>?_⟩;cases e;obtain⟨o,n,e,c,d,_⟩:=pl;exact⟨o,e,d⟩
  ·refine⟨⟨o,I.Es p o b,h⟩,λa e=>?_⟩;cases e;exact⟨o,I.Es _ o b,d⟩
  ·have z:∃o,s.heap.get? p=U o/\o.ExactDict:=by
    rcases b with⟨AO,b⟩|⟨AO,b⟩
    ·obtain⟨_,_,_,_,o,_,_,e,ex,_⟩:=I.hok p _ b;exact⟨o,e,ex⟩
    ·obtain⟨_,_,_,_,o,_,_,e,ex,_⟩:=I.hok p _ b;exact⟨o,e,ex⟩
   obtain⟨o,e,ex⟩:=z;refine⟨⟨o,e,ex.1⟩,λa e2=>?_⟩;cases e2;exact⟨o,e,ex.2.1⟩
  ·obtain⟨o,_,_,_,e,ex,_⟩:=I.hok p _ b;refine⟨⟨o,e,ex.1⟩,λa e2=>?_⟩;cases e2;exact⟨o,e,ex.2.1⟩
 |_=>exact False.elim ty
def YI(K:B1)(T:String)(r:V->Z V->Hp->VK->Prop)(to:TE)(t:TA):TE:=λσ H Q=>to σ H λx H1=>MI K T x H1/\t σ H1 λxs H2=>r x xs H2 Q
variable{o:Expr}{to:TE}{t:TA}{T id:String}{r:V->Z V->Hp->VK->Prop}
theorem U8(pa:PlainAttrs T)(slot:Slot T name id)(b:typeOf (.builtin id)=pure (.type "method_descriptor"))(d:MC X id r)(f:PE X o to)(c:PA X (e::es) t)
  (i:attributeBase o name X.env (eval o X.env)=eval o X.env:=by rfl)
  (l:((AD cpos (A9 (e::es) X.env)).all (λx=>!x.1)&&(backToKw cpos (keywordEach [] X.env)).all (λx=>x.1.isSome)
   && decide ((e::es).length+([]:Z AC).length+(if([]:Z AC).isEmpty then 0 else 1)<30))=true:=by rfl)
  (g:(apos.endLine==cpos.line)=true:=by rfl) (hs:A9 (e::es) X.env=(false,eval e X.env)::A9 es X.env:=by rfl) (j:(AD cpos (A9 es X.env)).any (·.1)=false:=by rfl):
  PE X (.Call (.Attribute o name apos) (e::es) [] cpos) (YI X.K T r to t):=by
 intro AN s σ H Q I h;refine wpAny_Call_method_late i l g S (gM (f AN s σ H _ I h) λv s1 ⟨x,H1,I1,r1,ty,q1⟩=>?_);obtain⟨h1,h2⟩:=am I1 r1 ty;refine⟨T,id,pa,slot,b,h1,h2,?_⟩;have a:=c cpos AN s1 σ H1 _ I1 q1;rw[hs]at a ⊢;refine Calls.callWith_builtin (by show(false||(AD cpos (A9 es X.env)).any (·.1))=false;rw[j]<;>rfl) (Calls.evalArgs_plain ?_);exact gM a λus s2 ⟨vs,H2,I2,r2,q2⟩=>d AN s2 σ H2 x vs v us Q I2 r1 r2 q2
end
end L2
namespace L2
def HK(X:Cx)(id:String)(r:V->Z V->Hp->VK->Prop):Prop:=
 ∀(AN:Z (A1×AE)) (s:A2) (σ:St) (H:Hp) (x:V) (xs:Z V) (v:A0) (us:Z A0) (Q:VK),AU X AN σ H s->As x v->AX xs us->r x xs H Q →
  A7 (A8 X.prog X.w) X.A (call (.builtin id) (v::us)) (EP X AN σ Q) X.xe s
theorem AX.one:∀{x:V} {us:Z A0},AX [x] us->∃u,us=[u]/\As x u
 |_,_,.cons r .nil=>⟨_,rfl,r⟩
theorem AX.two:∀{x y:V} {us:Z A0},AX [x,y] us->∃u v,us=[u,v]/\As x u/\As y v
 |_,_,_,.cons r (.cons q .nil)=>⟨_,_,rfl,r,q⟩
theorem AX.eraseIdx:∀{xs:Z V} {us:Z A0} (i:Nat),AX xs us->AX (xs.eraseIdx i) (us.eraseIdx i)
 |_,_,_,.nil=>.nil
 |_,_,0,.cons _ t=>t
 |_,_,i+1,.cons r t=>.cons r (AX.eraseIdx i t)
theorem AX.reverse{xs:Z V}(h:AX xs us):AX xs.reverse us.reverse:=by
 induction h with
 |nil=>exact .nil
 |cons r t a=>rw[kU,kU];exact AX.append a (.cons r .nil)
theorem Jx{α:Type}:∀(l:Z α) (i:Nat),(l.eraseIdx i).length<=l.length
 |[],_=>zg _
 |_::_,0=>JO _
 |_::r,i+1=>Nat.succ_le_succ (Jx r i)
section
variable{X:Cx}{σ:St}{H:Hp}{b:A1}{xs ys zs:Z V}
theorem AU.R0{its':Z A0}{f:Array A0->Array A0}{t':Nat}(I:AU X AN σ H s)(g:H l=U (.lst xs))(e:s.heap.get? l=U { cls:=.type "list",data:=.seq AQ.toArray n })(a:f AQ.toArray=its'.toArray)(d:AX ys its')(c:ys.length<=AA):
  AU X AN σ (B0 H l (.lst ys)) { s with heap:=s.heap.update l (Obj.mapSeq f),toks:=t' }:=by
 have q:=PySem.IsL.update e f;rw[a]at q;refine I.write (x:=l) (e:=l) (by rw[g];exact trivial) (.inl S) (λh u hb b=>(QN s.heap (Obj.mapSeq f) (jI hb)).trans b) ⟨_,q⟩ ?_;exact⟨c,its',_,d,q⟩
theorem AU.akU{t':Nat}(I:AU X AN σ H s)(b:AX ys AQ)(a:ys.length<=AA):
  AU X AN σ (B0 H s.heap.objs.size (.lst ys)) { s with heap:=s.heap.push { cls:=.type "list",data:=.seq AQ.toArray },toks:=t' }:=
 I.laid (λ_ _ q=>zd _ q) (zg _) ⟨a,AQ,0,b,zv _ rfl⟩
theorem AU.fresh(I:AU X AN σ H s):H s.heap.objs.size=Y:=I.hok.fresh (zg _)
theorem AU.WD(I:AU X AN σ H s)(a:H l=U (.lst xs)):xs.length<=AA/\∃(AQ:Z A0) (n:Nat),AX xs AQ/\xs.length=AQ.length/\s.heap.get? l=U { cls:=.type "list",data:=.seq AQ.toArray n }:=by
 obtain⟨z,AQ,n,r,e⟩:=I.hok l _ a;exact⟨z,AQ,n,r,r.length,e⟩
theorem Y4(h:n<=AA):Builtin.List.listTooLong n=false:=by
 unfold Builtin.List.listTooLong;exact ZE (by omega)
end
section
variable{X:Cx}
def cv:V->Z V->Hp->VK->Prop:=λx vs H Q=>∃l xs y,x=.ref l/\vs=[y]/\H l=U (.lst xs)/\xs.length<AA/\Q .non (B0 H l (.lst (xs++[y])))
theorem Jy:HK X "list.append" cv:=by
 intro AN s σ H x vs v us Q I d b h;obtain⟨l,xs,y,rfl,rfl,a,g,q⟩:=h;cases d;obtain⟨u,rfl,c⟩:=b.one;obtain⟨z,AQ,n,r,f,e⟩:=I.WD a;refine call_meets F.slot_list_append ⟨_,e,rfl⟩ F.entry_list_append (F.args_list_append_2 _ _) (PySem.list_append l AQ.toArray n u (by rw[zI];omega)) ⟨e,?_⟩;refine⟨.non,_,I.R0 (its':=AQ++[u]) a e (by simp) (r.append (.cons c .nil)) ?_,rfl,q⟩;rw[zS,List.length_singleton];omega
def c9:V->Z V->Hp->VK->Prop:=λx vs H Q=>∃l b xs zs,x=.ref l/\vs=[.ref b]/\H l=U (.lst xs)/\H b=U (.lst zs)/\xs.length+zs.length<=AA/\Q .non (B0 H l (.lst (xs++zs)))
theorem WK:HK X "list.extend" c9:=by
 intro AN s σ H x vs v us Q I p j h;obtain⟨l,b,xs,zs,rfl,rfl,c,i,w,q⟩:=h;cases p;obtain⟨u,rfl,o⟩:=j.one;cases o;obtain⟨z,AQ,n,r,t,e⟩:=I.WD c;obtain⟨z2,a,d,m,y,e2⟩:=I.WD i;have f:AQ.toArray.size+a.toArray.size<=AA:=by rw[zI,zI];omega
 have g:¬ (!AQ.toArray.isEmpty&&Builtin.List.listTooLong (AQ.toArray.size+a.toArray.size))=true:=by
  rw[Y4 f,ky];exact ZI
 refine call_meets F.slot_list_extend ⟨_,e,rfl⟩ F.entry_list_extend (F.args_list_extend_2 _ _)
  (AutoSeq1.list_extend_list_list_0 l AQ.toArray n b a.toArray d g (by rw[zI];omega) (by omega)) ⟨e,e2,?_⟩
 refine⟨.non,_,I.R0 (its':=AQ++a) c e (by simp) (r.append m) ?_,rfl,q⟩;rw[zS];omega
def P5:V->Z V->Hp->VK->Prop:=λx vs H Q=>∃l xs i k y,x=.ref l/\vs=[.int i]/\H l=U (.lst xs) ∧ -(2 ^ 63)<=i/\i<2 ^ 63/\seqIndex? i xs.length=U k/\xs[k]?=U y/\Q y (B0 H l (.lst (xs.eraseIdx k)))
theorem Y5:HK X "list.pop" P5:=by
 intro AN s σ H x vs v us Q I o j h;obtain⟨l,xs,i,k,y,rfl,rfl,a,h1,h2,b,f,q⟩:=h;cases o;obtain⟨u,rfl,g⟩:=j.one;obtain⟨t,rfl⟩:=g;obtain⟨z,AQ,n,r,d,e⟩:=I.WD a;obtain⟨w,c,m⟩:=r.get f;refine call_meets F.slot_list_pop ⟨_,e,rfl⟩ F.entry_list_pop (F.args_list_pop_2 _ _)
  (MeetsSeq.list_pop_at l AQ.toArray n i t k w (fitsIndex_both h1 h2) (by rw[zI,<-d];exact b) (by rw[<-qV];exact c) (by rw[zI];omega)) ⟨e,?_⟩
 refine⟨y,_,I.R0 (its':=AQ.eraseIdx k) a e ?_ (r.eraseIdx k) ?_,m,q⟩
 ·show AQ.toArray.eraseIdxIfInBounds k=(AQ.eraseIdx k).toArray;rw[List.eraseIdxIfInBounds_toArray]
 ·have:=Jx xs k;omega
def XU:R2:=λx y H Q=>∃l b xs zs,x=.ref l/\y=.ref b/\H l=U (.lst xs)/\H b=U (.lst zs)/\xs.length+zs.length<=AA/\∀p,H p=Y->Q (.ref p) (B0 H p (.lst (xs++zs)))
theorem UE:uL X (binaryOp .Add) XU:=by
 intro AN s σ H x y v u Q I g d h;obtain⟨l,b,xs,zs,rfl,rfl,i,c,o,q⟩:=h;cases g;cases d;obtain⟨z,AQ,n,r,j,e⟩:=I.WD i;obtain⟨z2,a,m,f,p,e2⟩:=I.WD c;refine PySem.P.add_list e e2 ?_ (by rw[zI,zI];omega);have ea:AQ.toArray++a.toArray=(AQ++a).toArray:=by simp
 rw[ea];exact⟨.ref _,_,I.akU (t':=s.toks) (r.append f) (by rw[zS];omega),rfl,q _ I.fresh⟩
end
section
variable{X:Cx}
end
end L2
namespace L2
section
variable [DecidableEq κ]
def zY(AO:Z (κ×V))(k:κ):O V:=(AO.find? λa=>decide (a.1=k)).map (·.2)
def BD(AO:Z (κ×V))(k:κ)(v:V):Z (κ×V):=
 if(AO.any λa=>decide (a.1=k))=true then AO.map (λa=>if a.1=k then(a.1,v)else a)else AO++[(k,v)]
theorem yr{p:κ×V}{r:Z (κ×V)}{k:κ}(e:p.1=k):zY (p::r) k=U p.2:=by simp[zY,JA,e]
theorem yt{p:κ×V}{r:Z (κ×V)}{k:κ}(e:¬ p.1=k):zY (p::r) k=zY r k:=by simp[zY,JA,e]
theorem Oe(k:κ):∀AO:Z (κ×V),(AO.any λa=>decide (a.1=k))=(zY AO k).isSome
 |[]=>rfl
 |p::r=>by
  rw[kq];by_cases e:p.1=k
  ·simp only[yr e,ZT e,Bool.true_or,yT]
  ·rw[yt e,ZE e,Bool.false_or];exact Oe k r
theorem lY(AO:Z (κ×V))(k:κ)(v:V):(BD AO k v).length<=AO.length+1:=by
 unfold BD;split
 ·rw[zi];omega
 ·rw[zS,qc,List.length_nil];omega
theorem Cw.zZ{o:O V}{u:O A0}(r:Cw o u):o.isSome=u.isSome:=by
 cases o with
 |none=>cases u with
  |none=>rfl
  |some _=>exact(show False from r).elim
 |some _=>cases u with
  |none=>exact(show False from r).elim
  |some _=>rfl
theorem KV.val{AO:Z (κ×V)}{vs:Z (κ×A0)}(r:KV AO vs)(k:κ):Cw (zY AO k) (valueAt vs k):=by
 unfold KV at r
 induction r with
 |nil=>exact True.intro
 |@cons p q ps a h t c=>
  obtain⟨h1,h2⟩:=h;by_cases e:p.1=k
  ·have e':q.1=k:=h1.symm.trans e;have b:valueAt (q::a) k=U q.2:=by simp[valueAt,JA,e']
   rw[yr e,b];exact h2
  ·have e':¬ q.1=k:=λz=>e (h1.trans z);have b:valueAt (q::a) k=valueAt a k:=by simp[valueAt,JA,e']
   rw[yt e,b];exact c
theorem KV.any{AO:Z (κ×V)}{vs:Z (κ×A0)}(r:KV AO vs)(k:κ):(AO.any λa=>decide (a.1=k))=vs.any λa=>decide (a.1=k):=by
 unfold KV at r
 induction r with
 |nil=>rfl
 |cons h t b=>rw[kq,kq,b,h.1]
theorem KV.repl{AO:Z (κ×V)}{vs:Z (κ×A0)}(r:KV AO vs)(k:κ){y:V}(b:As y u):
  KV (AO.map λa=>if a.1=k then(a.1,y)else a) (vs.map λa=>if a.1=k then(a.1,u)else a):=by
 unfold KV at r ⊢
 induction r with
 |nil=>exact .nil
 |@cons p q ps d h t c=>
  rw[zw,zw];refine .cons ?_ c;obtain⟨h1,h2⟩:=h;by_cases e:p.1=k
  ·rw[zh e,zh (h1.symm.trans e)];exact⟨h1,b⟩
  ·rw[zC e,zC (λz=>e (h1.trans z))];exact⟨h1,h2⟩
theorem KV.put{AO:Z (κ×V)}{vs:Z (κ×A0)}(r:KV AO vs)(k:κ){y:V}(a:As y u):KV (BD AO k y) (stored vs k u):=by
 unfold BD stored;rw[r.any k];by_cases e:(vs.any λb=>decide (b.1=k))=true
 ·rw[zh e,zh e];exact r.repl k a
 ·rw[zC e,zC e];exact Paired.snoc r ⟨rfl,a⟩
theorem KV.length{AO:Z (κ×V)}{vs:Z (κ×A0)}(r:KV AO vs):AO.length=vs.length:=Paired.length r
end
theorem Fb{k:AY}(r:As (kV k) u):(bF P w).is k u=true:=by
 cases k with
 |inl i=>obtain⟨t,e⟩:=(show ∃t,u=Value.int i t from r);subst e;exact N6 P w i t
 |inr x=>obtain⟨t,e⟩:=(show ∃t,u=Value.str x t from r);subst e;exact N7 P w x t
theorem Jz{P:A3}{w:A4}:∀{ks:Z AY} {us:Z A0},AX (ks.map kV) us->ItemsAre (bF P w) ks us
 |[],_,r=>by rw[kC]at r;cases r;exact .nil
 |k::ks,_,r=>by
  rw[zw]at r;cases r with
  |cons h t=>exact .cons (Fb h) (Jz t)
abbrev KT(H:Hp):Z (Z AY×V)->Z (Z AY×A1×A0)->Prop:=AI λp q=>p.1=q.1/\H q.2.1=U (.tup (p.1.map kV))/\As p.2 q.2.2
theorem KT.val{H:Hp}{AO:Z (Z AY×V)}{xs:Z (Z AY×A1×A0)}(r:KT H AO xs)(k:Z AY):Cw (zY AO k) ((atKey xs k).map (·.2)):=by
 induction r with
 |nil=>exact True.intro
 |@cons p q ps a h t c=>
  obtain⟨h1,_,h2⟩:=h;by_cases e:p.1=k
  ·have e':q.1=k:=h1.symm.trans e;have b:atKey (q::a) k=U q.2:=by simp[atKey,JA,e']
   rw[yr e,b];exact h2
  ·have e':¬ q.1=k:=λz=>e (h1.trans z);have b:atKey (q::a) k=atKey a k:=by simp[atKey,JA,e']
   rw[yt e,b];exact c
theorem KT.repl{H:Hp}{AO:Z (Z AY×V)}{xs:Z (Z AY×A1×A0)}(r:KT H AO xs)(k:Z AY){y:V}(c:As y u):
  KT H (AO.map λa=>if a.1=k then(a.1,y)else a) (xs.map (putAt k u)):=by
 induction r with
 |nil=>exact .nil
 |@cons p q ps f h t d=>
  rw[zw,zw];refine .cons ?_ d;obtain⟨h1,h2,b⟩:=h;unfold putAt;by_cases e:p.1=k
  ·rw[zh e,zh (h1.symm.trans e)];exact⟨h1,h2,c⟩
  ·rw[zC e,zC (λz=>e (h1.trans z))];exact⟨h1,h2,b⟩
theorem KT.put{H:Hp}{AO:Z (Z AY×V)}{xs:Z (Z AY×A1×A0)}(r:KT H AO xs)(k:Z AY){b:A1}{y:V}(hb:H b=U (.tup (k.map kV)))(a:As y u):
  KT H (BD AO k y) (storedH xs k b u):=by
 have e:(AO.any λc=>decide (c.1=k))=(atKey xs k).isSome:=by
  rw[Oe,(r.val k).zZ,Option.isSome_map]
 unfold BD storedH;rw[e];by_cases q:(atKey xs k).isSome=true
 ·rw[zh q,zh q];exact r.repl k a
 ·rw[zC q,zC q];exact Paired.snoc r ⟨rfl,hb,a⟩
theorem KT.keeps{H H':Hp}{AO:Z (Z AY×V)}{xs:Z (Z AY×A1×A0)}(r:KT H AO xs)(a:∀b ys,H b=U (.tup ys)->H' b=U (.tup ys)):KT H' AO xs:=
 Paired.acf r λ_ _ z=>⟨z.1,a _ _ z.2.1,z.2.2⟩
section
variable{H:Hp}
theorem ND{u:HO}(ok:uI P w H h)(e:Rd H a u):gn P w H h a u:=e.ok ok
theorem uN{AO:Z (AY×V)}(ok:uI P w H h)(e:Rd H a (.dK AO)):AO.length<=AA/\(a==sysModules)=false/\∃vs,KV AO vs/\h.DictOf (bF P w) a vs:=
 show gn P w H h a (.dK AO) from ND ok e
theorem Y6{AO:Z (AY×V)}(ok:uI P w H h)(e:H a=U (.dK AO)):AO.length<=AA/\(a==sysModules)=false/\∃vs,KV AO vs/\h.DictOf (bF P w) a vs:=uN ok (.inl e)
theorem KQ{ks:Z AY}(ok:uI P w H h)(e:H a=U (.tup (ks.map kV))):(tupleKind (bF P w)).is h ks a:=by
 obtain⟨_,AQ,r,o,h1,h2,⟨n,b⟩,_⟩:=(show gn P w H h a (.tup (ks.map kV)) from ok a _ e);exact⟨o,AQ.toArray,n,h1,h2,b,by simpa using Jz r⟩
theorem U9{AO:Z (Z AY×V)}(ok:uI P w H h)(e:Rd H a (.dT AO)):AO.length<=AA/\(a==sysModules)=false ∧
  ∃xs,KT H AO xs/\h.DictOfH (tupleKind (bF P w)) a xs:=by
 obtain⟨z,y,xs,r,o,es,ep,h1,h2,c,d,f⟩:=(show gn P w H h a (.dT AO) from ND ok e);refine⟨z,y,xs,r,o,es,ep,h1,h2,c,d,λx hx=>?_,f⟩;have all:∀{l:Z (Z AY×V)} {m:Z (Z AY×A1×A0)},KT H l m->∀x∈m,(tupleKind (bF P w)).is h x.1 x.2.1:=by
  intro l m q
  induction q with
  |nil=>intro x hx;exact nomatch hx
  |@cons p q ps i b t g=>
   intro x hx;rcases List.mem_cons.mp hx with e|hx
   ·subst e;exact KQ ok (by rw[<-b.1];exact b.2.1)
   ·exact g x hx
 exact all r x hx
theorem SA{AO:Z (Z AY×V)}(ok:uI P w H h)(e:H a=U (.dT AO)):AO.length<=AA/\(a==sysModules)=false ∧
  ∃xs,KT H AO xs/\h.DictOfH (tupleKind (bF P w)) a xs:=U9 ok (.inl e)
end
def Y7(H:Hp)(a:A1)(y:V)(r:O V):Prop:=
 (∃AO k,Rd H a (.dK AO)/\y=kV k/\r=zY AO k)\/∃AO k b,Rd H a (.dT AO)/\y=.ref b/\H b=U (.tup (k.map kV))/\r=zY AO k
def Y8(H:Hp)(a:A1)(y v:V)(H':Hp):Prop:=
 (∃AO k,H a=U (.dK AO)/\y=kV k/\AO.length<AA/\H'=B0 H a (.dK (BD AO k v))) ∨
 ∃AO k b,H a=U (.dT AO)/\y=.ref b/\H b=U (.tup (k.map kV))/\AO.length<AA/\H'=B0 H a (.dT (BD AO k v))
theorem Y8.k{H:Hp}{a:A1}{AO:Z (AY×V)}{k:AY}{v:V}(e:H a=U (.dK AO))(b:AO.length<AA):Y8 H a (kV k) v (B0 H a (.dK (BD AO k v))):=.inl ⟨AO,k,e,rfl,b,rfl⟩
section
variable{X:Cx}{σ:St}{H:Hp}{y v:V}{r:A0}{o:O V}
theorem AU.big(I:AU X AN σ H s):sysModules<s.heap.objs.size:=by
 have h:mainGlobals<s.heap.objs.size:=(I.mod.glob.keeps I.bk).lt;exact Nat.lt_trans (by decide) h
theorem WL{Q:B9}(t:A.units+1<cLine)(I:AU X AN σ H s)(g:Y7 H a y (U v))(n:As y u)(h:∀c s',AU X AN σ H s'->As v c->Q c s'):
  A7 (A8 X.prog X.w) A (getItem (.ref a) u) Q E s:=by
 rcases g with⟨AO,k,e,i,l⟩|⟨AO,k,b,e,i,eb,l⟩
 ·subst i;obtain⟨z,q,vs,m,f⟩:=uN I.hok e;obtain⟨c,d,j⟩:=Cw.some_of (v:=v) (o:=valueAt vs k) (by rw[l];exact m.val k);exact wpAny_getItem_of (Fb n) f.mapOf d (h c _ (I.tok _) j)
 ·subst i;cases(show u=Value.ref b from n);obtain⟨z,q,xs,m,f⟩:=U9 I.hok e;obtain⟨c,d,j⟩:=Cw.some_of (v:=v) (o:=(atKey xs k).map (·.2)) (by rw[l];exact m.val k);obtain⟨p,hp,x⟩:=Option.map_eq_some_iff.mp d;refine wpAny_getItem_heap (tupleKind_room_in1 t) (KQ I.hok eb) f hp ?_;rw[x];exact h c _ (I.tok _) j
theorem eg{Q:B9}(m:A.units+1<cLine)(I:AU X AN σ H s)(g:Y7 H a y o)(j:As y u)(h:∀s',AU X AN σ H s'->Q (.bool (!o.isSome)) s'):
  A7 (A8 X.prog X.w) A (AG .NotIn u (.ref a)) Q E s:=by
 rcases g with⟨AO,k,e,f,l⟩|⟨AO,k,b,e,f,eb,l⟩
 ·subst f;obtain⟨z,c,vs,i,d⟩:=uN I.hok e;refine wpAny_notIn_of (Fb j) c d.mapOf ?_;rw[<-(i.val k).zZ,<-l];exact h _ (I.tok _)
 ·subst f;cases(show u=Value.ref b from j);obtain⟨z,c,xs,i,d⟩:=U9 I.hok e;refine wpAny_notIn_heap (tupleKind_room_in1 m) (KQ I.hok eb) c d ?_;have q:=(i.val k).zZ;rw[Option.isSome_map]at q;rw[<-q,<-l];exact h _ (I.tok _)
theorem Dw{h':A6}{t':Nat}{c:HO}(I:AU X AN σ H s)(d:EZ (H a))(hs:Heap.SameBut a s.heap h')(he:∃q,h'.get? a=U q)(new:gn X.prog X.w (B0 H a c) h' a c):
  AU X AN σ (B0 H a c) { s with heap:=h',toks:=t' }:=
 I.write (x:=a) (e:=a) d (.inl S) (λb q hb z=>(hs.2 b hb).trans z) he new
theorem R3{H':Hp}{h':A6}{AO:Z (AY×V)}{vs:Z (AY×A0)}(z:AO.length<=AA)(b:(a==sysModules)=false)(c:KV AO vs)(d:h'.DictOf (bF P w) a vs):
  gn P w H' h' a (.dK AO):=⟨z,b,vs,c,d⟩
theorem WM{H':Hp}(J:A.units+1<cLine)(I:AU X AN σ H s)(g:Y8 H a y v H')(B:As y u)(C:As v r)(h:∀s',AU X AN σ H' s'->Q () s'):
  A7 (A8 X.prog X.w) A (setItem (.ref a) u r) Q E s:=by
 rcases g with⟨AO,k,e,p,l,n⟩|⟨AO,k,b,e,p,eb,l,n⟩
 ·subst p n;obtain⟨z,j,vs,d,o⟩:=Y6 I.hok e;have t:vs.length<=AA:=by rw[<-d.length];exact z
  have m:(BD AO k v).length<=AA:=by have:=lY AO k v;omega
  refine wpAny_setItem_pairs (hsz:=t) (Fb B) o λh' i hs=>h _ ?_;have K:∃q,h'.get? a=U q:=let ⟨q,_,_,f,_⟩:=i;⟨q,f⟩;exact Dw I (by rw[e];exact True.intro) hs K (R3 m j (d.put k C) i)
 ·subst p n;cases(show u=Value.ref b from B);obtain⟨z,j,xs,d,o⟩:=SA I.hok e;have t:xs.length<=AA:=by rw[<-Paired.length d];exact z
  have m:(BD AO k v).length<=AA:=by have:=lY AO k v;omega
  refine wpAny_setItem_heap (hsz:=t) (tupleKind_room_in1 J) (KQ I.hok eb) o λh' i hs=>h _ ?_;obtain⟨q,es,ep,f,h2,D,F,_,G⟩:=i;refine Dw I (by rw[e];exact True.intro) hs ⟨q,f⟩ ⟨m,j,_,(d.put k eb C).keeps λc ys x=>?_,q,es,ep,f,h2,D,F,G⟩;rw[aP (lX x e (λz=>nomatch z))];exact x
end
section
variable{X:Cx}{σ:St}{H:Hp}{AO:Z (AY×V)}{k:AY}
end
def IR(i:Expr):Prop:=∀a iv,subscripted i false a iv=operate [a,iv] (getItem a iv)
theorem b8{value a:Expr}{T id:String}{Q:B9}(l:typeLookup (.type T) "__getitem__"=pure (U (.builtin id)))(hs:IR a)(h:A7 (A8 prog w) A (eval value env) (λo g=>A7 (A8 prog w) A (eval a env) (λi b=>b.TypeIs o T/\A7 (A8 prog w) A (getItem o i) Q E b) E g) E s):
  A7 (A8 prog w) A (eval (.Subscript value a pos) env) Q E s:=by
 refine Subscript_ (ZZ h (λo g m=>ZZ m (λi b d=>?_) λ_ _ x=>x) λ_ _ x=>x);obtain⟨e,d⟩:=d;unfold subscriptTail;refine zb ?_;rw[getitemInPython_of_ne e.not_modules];refine zb (wpAny_specialOf e l ?_);have c:A7 (A8 prog w) A (subscripted a false o i) (λr f=>A7 (A8 prog w) A (letTemporaryGo value o r >>= λ_=>pure r) Q E f) E b:=by
  rw[hs o i];exact wpAny_operating (ZZ d (λr f j=>zb (wpAny_letTemporaryGo (ze j))) λ_ _ x=>x)
 first
  |exact ze (zb c)
  |exact zb (ze (zb c))
  |exact zb c
theorem Og{X:Cx}{σ:St}{H:Hp}{y:V}{o:O V}(I:AU X AN σ H s)(g:Y7 H a y o):s.TypeIs (.ref a) "dict":=by
 rcases g with⟨AO,k,e,_,_⟩|⟨AO,k,b,e,_,_,_⟩
 ·obtain⟨_,_,vs,_,c⟩:=uN I.hok e;exact c.typeIs
 ·obtain⟨_,_,xs,_,c⟩:=U9 I.hok e;exact c.typeIs
def XX(td ty:TE):TE:=λσ H Q=>td σ H λx H1=>ty σ H1 λy H2=>∃a v,x=.ref a/\Y7 H2 a y (U v)/\Q v H2
def a6(td ty tv:TE):TS:=λD σ H=>tv σ H λv H1=>td σ H1 λx H2=>ty σ H2 λy c=>∃a b,x=.ref a/\Y8 c a y v b/\D.nx σ b
section
variable{X:Cx}{o i value:Expr}{pos':Pos}{td ty tv:TE}
theorem PC(c:X.A.units+1<cLine)(b:PE X o td)(hi:PE X i ty)(hs:IR i):PE X (.Subscript o i pos) (XX td ty):=by
 intro AN s σ H Q I h;refine b8 PySem.F.slot_dict_getitem.lookup hs (gM (b AN s σ H _ I h) λu s1 ⟨x,H1,I1,rx,q1⟩=>gM (hi AN s1 σ H1 _ I1 q1) λiv s2 ⟨y,H2,I2,ry,a,v,ex,g,q2⟩=>?_);subst ex;obtain rfl:u=Value.ref a:=rx;exact⟨Og I2 g,WL c I2 g ry λj f e d=>⟨v,H2,e,d,q2⟩⟩
theorem X1(d:X.A.units+1<cLine)(b:PE X o td)(hi:PE X i ty)(e:PE X value tv)(hs:swapsWith value (U (.Subscript o i pos')) pos.line X.env=pure false):
  PS X (.Assign [.Subscript o i pos'] value pos) (a6 td ty tv):=by
 intro AN s σ H D I h;refine wpAny_Assign_Subscript (gM (e AN s σ H _ I h) λr s1 ⟨v,H1,I1,rv,q1⟩=>gM (b AN s1 σ H1 _ I1 q1) λu s2 ⟨x,H2,I2,rx,q2⟩=>gM (hi AN s2 σ H2 _ I2 q2) λiv s3 ⟨y,H3,I3,ry,a,H4,ex,g,q3⟩=>?_) hs;subst ex;obtain rfl:u=Value.ref a:=rx;exact WM d I3 g ry rv λf c=>⟨σ,H4,c,q3⟩
end
theorem Fd{H:Hp}(h:A6)(hb:sysModules<h.objs.size):gn P w H (h.push { cls:=.type "dict",data:=.dict #[] }) h.objs.size (.dK []):=
 ⟨Q1 _,beq_eq_false_iff_ne.mpr (jI (Zl hb)),[],.nil,Heap.DictOf.new h⟩
def TZ:TE:=λ_ H Q=>∀p,H p=Y->Q (.ref p) (B0 H p (.dK []))
section
variable{X:Cx}
theorem Y9:PE X (.Dict [] [] pos) TZ:=λAN s σ H Q I h=>
 wpAny_Dict_empty ⟨.ref s.heap.objs.size,_,I.laid (a:=s.heap.objs.size) (o:=.dK []) (t':=s.toks) (λ_ _ q=>zd _ q) (zg _) (Fd s.heap I.big),rfl,h _ (I.hok.fresh (zg _))⟩
end
def R4:Z (TE×TE)->St->Hp->(Z (V×V)->Hp->Prop)->Prop
 |[],_,H,Q=>Q [] H
 |(tk,tv)::r,σ,H,Q=>tk σ H λx H1=>tv σ H1 λy H2=>R4 r σ H2 λps a=>Q ((x,y)::ps) a
abbrev VV:Z (V×V)->Z (A0×A0)->Prop:=AI λp q=>As p.1 q.1/\As p.2 q.2
def GB(X:Cx)(pos:Pos)(c:Z (O Expr))(a:Z Expr)(b:Z (TE×TE)):Prop:=
 ∀(AN:Z (A1×AE)) (s:A2) (σ:St) (H:Hp) (Q:Z (V×V)->Hp->Prop),AU X AN σ H s->R4 b σ H Q →
  A7 (A8 X.prog X.w) X.A (evalPairs (pairTrees c a X.env pos)) (λvs s'=>∃ps H',AU X AN σ H' s'/\VV ps vs/\Q ps H') X.xe s
theorem iA{X:Cx}:GB X pos [] [] []:=λAN s σ H Q I h=>pairTrees_nil_walk ⟨[],H,I,.nil,h⟩
theorem Za{X:Cx}{k v:Expr}{ks:Z (O Expr)}{vs:Z Expr}{tk tv:TE}{a:Z (TE×TE)}(c:PE X k tk)(d:PE X v tv)(b:GB X pos ks vs a):
  GB X pos (U k::ks) (v::vs) ((tk,tv)::a):=λAN s σ H Q I h=>
 pairTrees_cons_walk (gM (c AN s σ H _ I h) λu s1 ⟨x,H1,I1,rx,q1⟩=>gM (d AN s1 σ H1 _ I1 q1) λw2 s2 ⟨y,H2,I2,ry,q2⟩=>
  gM (b AN s2 σ H2 _ I2 q2) λws s3 ⟨ps,H3,I3,rel,q3⟩=>⟨(x,y)::ps,H3,I3,.cons ⟨rx,ry⟩ rel,q3⟩)
def z7(AO b:Z (AY×V)):Z (AY×V):=b.foldl (λc a=>BD c a.1 a.2) AO
theorem KV.merge:∀{a:Z (AY×V)} {rs:Z (AY×A0)} {AO:Z (AY×V)} {vs:Z (AY×A0)},KV a rs->KV AO vs->KV (z7 AO a) (merged vs rs):=by
 intro a rs AO vs r;unfold KV at r
 induction r generalizing AO vs with
 |nil=>intro q;exact q
 |@cons p q ps d h t b=>
  intro c;have e:KV (BD AO p.1 p.2) (stored vs q.1 q.2):=by
   have:=c.put p.1 h.2;rw[<-h.1];exact this
  exact b e
theorem wN:∀(a AO:Z (AY×V)),(z7 AO a).length<=AO.length+a.length
 |[],AO=>by show AO.length<=AO.length+0;omega
 |p::r,AO=>by
  have h1:=wN r (BD AO p.1 p.2);have h2:=lY AO p.1 p.2;show(z7 (BD AO p.1 p.2) r).length<=_;rw[qc];omega
theorem Fg{P:A3}{w:A4}:∀{AO:Z (AY×V)} {e:Z (A0×A0)},VV (AO.map λd=>(kV d.1,d.2)) e->∃rs,Carries (bF P w) e rs/\KV AO rs
 |[],_,r=>by rw[kC]at r;cases r;exact⟨[],True.intro,.nil⟩
 |p::AO,_,r=>by
  rw[zw]at r;cases r with
  |@cons a b as bs h t=>
   obtain⟨rs,c,q⟩:=Fg (P:=P) (w:=w) t;obtain⟨b1,b2⟩:=b;exact⟨(p.1,b2)::rs,⟨Fb h.1,rfl,c⟩,.cons ⟨rfl,h.2⟩ q⟩
def U'(b:Z (TE×TE)):TE:=λσ H Q=>∀p,H p=Y->R4 b σ (B0 H p (.dK [])) λps H2=>H2 p=U (.dK [])/\∃AO:Z (AY×V),ps=AO.map (λa=>(kV a.1,a.2))/\AO.length<=15/\Q (.ref p) (B0 H2 p (.dK (z7 [] AO)))
theorem OE{X:Cx}{b:Z (O Expr)}{d:Z Expr}{g:Z (TE×TE)}(h:GB X pos b d g)(m:b.all (·.isSome)=true)(j:b.length=d.length)(h0:b≠[])(x:b.length<=15):PE X (.Dict b d pos) (U' g):=by
 intro AN s σ H Q I q;have y:=I.hok.fresh (zg s.heap.objs.size);have n:=I.laid (a:=s.heap.objs.size) (o:=.dK []) (h':=s.heap.push { cls:=.type "dict",data:=.dict #[] }) (t':=s.toks) (λ_ _ q=>zd _ q) (zg _) (Fd s.heap I.big);refine wpAny_Dict_walk (knd:=bF X.prog X.w) m j h0 x (gM (h AN _ σ _ _ n (q _ y)) λws s2 ⟨ps,H2,I2,rel,e,AO,ep,lk,q2⟩=>?_);subst ep;obtain⟨t,c,rk⟩:=Fg (P:=X.prog) (w:=X.w) rel;obtain⟨z,i,A,l,u⟩:=Y6 I2.hok e;cases l;refine⟨t,c,u,λh' f hs=>⟨.ref s.heap.objs.size,_,?_,rfl,q2⟩⟩;have v:(z7 [] AO).length<=AA:=by
  have h1:=wN AO [];rw[List.length_nil]at h1;rw[sizeLine_eq];omega
 have p:∃q,h'.get? s.heap.objs.size=U q:=let ⟨q,_,_,hq,_⟩:=f;⟨q,hq⟩;exact Dw I2 (by rw[e];exact True.intro) hs p (R3 v i (rk.merge .nil) f)
structure M1 (X:Cx) (o:Expr) (m:Str) (apos:Pos) (e:Expr) (cpos:Pos):Prop where
 base:attributeBase o m X.env (eval o X.env)=eval o X.env
 few:((backTo cpos (starEach [e] X.env)).all (λx=>!x.1)&&(backToKw cpos (keywordEach [] X.env)).all (λx=>x.1.isSome)
  && decide (([e]:List Expr).length+([]:List Keyword).length+(if([]:List Keyword).isEmpty then 0 else 1)<30))=true
 line:(apos.endLine==cpos.line)=true
 trees:backTo cpos (starEach [e] X.env)=[(false,eval e X.env)]
structure M2 (X:Cx) (o:Expr) (m:Str) (apos:Pos) (e f:Expr) (cpos:Pos):Prop where
 base:attributeBase o m X.env (eval o X.env)=eval o X.env
 few:((backTo cpos (starEach [e,f] X.env)).all (λx=>!x.1)&&(backToKw cpos (keywordEach [] X.env)).all (λx=>x.1.isSome)
  && decide (([e,f]:List Expr).length+([]:List Keyword).length+(if([]:List Keyword).isEmpty then 0 else 1)<30))=true
 line:(apos.endLine==cpos.line)=true
 trees:backTo cpos (starEach [e,f] X.env)=[(false,eval e X.env),(false,eval f X.env)]
section
variable{X:Cx}{σ:St}{H:Hp}{y d:V}{r:A0}{o:O V}
end
section
variable{X:Cx}{o f:Expr}{td ty tx:TE}
end
section
variable{X:Cx}{σ:St}{H:Hp}{AO:Z (AY×V)}
end
section
variable{X:Cx}{σ:St}{H:Hp}{y:V}
end
end L2
namespace Att
open PySem PySem.W PySem.Calls PyProof.Rows
theorem Cz{P:Params}:∀(ns:Z Int) (vs:Z A0),WellAll P h vs (ns.map WData.int)->IntsAre vs ns:=by
 intro ns
 induction ns with
 |nil=>
  intro vs w;rw[kC]at w;cases w;exact .nil
 |cons n ns c=>
  intro vs w;rw[zw]at w;cases w with
  |cons a b=>
   cases a;exact .cons _ _ (c _ b)
theorem WQ{l:OpenLaw}(w:l.most=U n){P:Params}{args:Z WData}{f:Z A0}(e:l.row.toRowW.claim.pre args=true)(t:WellAll P h f args):
  ∃a vs ns,f=[Value.ref a]/\args=[WData.list (ns.map WData.int)]/\h.get? a=U { cls:=.type "list",data:=.seq vs.toArray }/\IntsAre vs ns/\ns.length<=n:=by
 have i:WShape.hasAll [] args [.list .int]=true:=(pre_splitW e).1;have g:l.pre.holds [] { args:=args }=true:=(pre_splitW e).2;obtain⟨d,r,rfl,h1,h2⟩:=hasAllW_cons i;obtain rfl:=hasAllW_nil h2;obtain⟨xs,rfl,j⟩:=hasW_list h1;obtain⟨ns,rfl⟩:=items_int j;have v:ns.length<=n:=by
  unfold OpenLaw.pre at g;have b:(WTm.not (.lt (.lit (.int (n:Int))) (.len (.arg 0)))).holds [] { args:=[.list (ns.map .int)] }=true:=by
   have b:=(holds_andW g).1;rw[w]at b;exact b
  have c:=condW_of b (w_not (w_lt w_lit (w_len_list (w_arg S))));rw[zi]at c;refine Nat.le_of_not_lt λq=>?_;have u:(n:Int)<((ns.length:Nat):Int):=by omega
  first
   |(rw[ZT u]at c;exact absurd c (by decide))
   |(simp at c;omega)
 cases t with
 |cons m o=>
  cases o;cases m with
  |list p s=>exact⟨_,_,ns,rfl,rfl,p,Cz ns _ s,v⟩
theorem WR(l:OpenLaw)(args:Z WData):l.row.toRowW.claim.post args (.bool true) args=true:=
 postW_of (r:=l.row.toRowW) (X:=(true==true))
  (show WShape.has [] (.bool true) .bool=true by first|rfl|decide|simp[WShape.has,WShape.arms,WShape.armsAll])
  (show(WTm.eq .res (.lit (.bool true))).value [] { args:=args,res:=U (.bool true),after:=args }=U (.bool (true==true)) from w_eq_bool (w_res S) w_lit) rfl
theorem Oh{l:OpenLaw}{q:A3}{loose:AZ}{d:DefRec}(u:l.most=U n)(z:d.params.defaults=[])(call:∀(w:A4) (c b:A2) (mg h:AJ->O A0) (fa:A1) (o:AE) (g cd e:A0) (a:A1) (vs:Z A0) (ns:Z Int),
   Ground q loose [] XP w c mg h b.heap->YP w b.heap →
   b.heap.get? fa=U o->o.data=.func (docDef d.name d.params d.body d.scope g cd e)->b.heap.CodeRec cd d.name->mg d.name=U (.ref fa) →
   b.heap.get? a=U { cls:=.type "list",data:=.seq vs.toArray }->IntsAre vs ns->ns.length<=n->b.gens=#[] →
   AF (A8 l.prog w) callerA (.call (.ref fa) ⟨[.ref a],[]⟩) (λr s'=>r=.ok (.ret (.bool true))/\OldK b.heap s'.heap/\s'.os=b.os/\AllBare s'.gens) b):
  WalkO q loose XP YP l.row.toRowW d [] (λf vs=>PySem.call f vs):=by
 intro w c b mg h G Y fa o g cd e H kV x m B i y s I M as C K J E L;obtain rfl:H=.none:=Dflts.none i z;obtain rfl:kV=.none:=Dflts.noKw i;obtain⟨a,vs,ns,rfl,rfl,t,v,F⟩:=WQ u C E;refine enter_call (k6 (call w c b mg h fa o g cd e a vs ns G Y x (fd_plain m) B y t v F s) λr s' A=>?_);obtain⟨rfl,h2,j,p⟩:=A;exact⟨.inl ⟨.bool true,.bool true,[],rfl,λ_=>S,.bool true,WR l _,λ_=>⟨List.Pairwise.nil,λ_ D=>(nomatch D)⟩⟩,h2,j,p⟩
section
variable{K:Frag}
end
end Att
namespace L2
theorem vV:∀{vs:Z A0} {ns:Z Int},IntsAre vs ns->AX (ns.map V.int) vs
 |_,_,.nil=>.nil
 |_,_,.cons n t h=>.cons ⟨t,rfl⟩ (vV h)
def Ch(H:Hp):Prop:=∀b,H b=Y\/∃o xs,H b=U (.HS o (.lst xs))
theorem Zb{j:AJ->O A0}{CX:Wy}{k:Nat}{fa:A1}{sp:Sp}{c:A2}{vs:Z A0}{ns:Z Int}(D:K.In c.heap)(y:c.heap.Ns mainGlobals mg)(hb:c.heap.Ns builtinsNs j)(a1:∀x:AJ,x ≠ "__name__" → j x=AH x)(b0:c.heap.NoLimit)(M:c.gens=#[])(g:c.heap.get? a=U { cls:=.type "list",data:=.seq vs.toArray })(hi:IntsAre vs ns)(C:ns.length<=AA)(J:gW k callerA)(F:∀base:A6,K.In base->base.Ns mainGlobals mg->ju P w K mg base CX k fa fd [x] sp)(L:∀(s:A2) (u:A0),BindsTo s fd ⟨[u],[]⟩ [(x,u)])(a2:∀H:Hp,Ch H->qO K H a (ns.map V.int)->sp [.ref a] H (λv _=>v=.bl true) λ_ _ _=>False)(b3:∀H e s',CX [] H c (λ_ _ _=>False) e s'->False):
  AF (A8 P w) callerA (.call (.ref fa) ⟨[.ref a],[]⟩) (λr s'=>r=.ok (.ret (.bool true))/\OldK c.heap s'.heap/\s'.os=c.os/\AllBare s'.gens) c:=by
 have t:=vV hi;have a3:=hi.length;have A:∀H:Hp,Ch H->qO K H a (ns.map V.int)->uI P w H c.heap->(∀b,H b≠Y->b=a)->(H a≠Y->K.lookup a=Y) →
   AF (A8 P w) callerA (.call (.ref fa) ⟨[.ref a],[]⟩) (λr s'=>r=.ok (.ret (.bool true))/\OldK c.heap s'.heap/\s'.os=c.os/\AllBare s'.gens) c:=by
  intro H p W E I Q;have B:∀{b:A1} {o:AE},c.heap.get? b=U o->H b=Y->(Km c.heap H).get? b=U o:=λe n=>YD e n;have X:∀{b:A1} {o:AE} {es:Array DictEntry} {ep:Nat},c.heap.get? b=U o->o.data=.dict es ep->H b=Y:=λ{b o es ep} e d=>by
   cases q:H b with
   |none=>rfl
   |some u=>
    have e':b=a:=I b (by rw[q];simp);subst e';rw[g]at e;cases e;have d':Data.seq vs.toArray _=Data.dict es ep:=d;cases d'
  have i:∀{b:A1} {m:AJ->O A0},c.heap.Ns b m->(Km c.heap H).Ns b m:=λ{b m} ⟨o,es,ep,e,d,r⟩=>⟨o,es,ep,B e (X e d),d,r⟩;have G:K.In (Km c.heap H):=λb o e=>B (D b o e) (by
   cases q:H b with
   |none=>rfl
   |some u=>
    have e':b=a:=I b (by rw[q];simp);subst e';rw[Q (by rw[q];simp)]at e;cases e)
  have hM:Mod K mg (Km c.heap H):=⟨G,i y,⟨j,i hb,a1⟩,let ⟨mc,h1,h2⟩:=b0;⟨mc,i h1,h2⟩⟩;have e0:Ez P w K mg (Km c.heap H) callerA [] c H:=⟨rfl,hM,λb o e=>Y1 e,Nat.le_of_eq (Wq _ _),trivial,λb hb=>absurd (show b∈([]:Z A1) from hb) (by simp),E,.of_eq M⟩;refine k6 ((F _ G (i y)).run callerA [] c H ⟨[.ref a],[]⟩ [.ref a] [.ref a] _ _ J e0 (L c (.ref a)) (.cons S .nil) (a2 H p W)) λr s' h=>?_;cases r with
  |error e=>exact(b3 H e s' h).elim
  |ok fl=>
   cases fl with
   |next=>exact False.elim h
   |brk=>exact False.elim h
   |cont=>exact False.elim h
   |ret u=>
    obtain⟨v,H',os,a0,un,a5,r',q⟩:=h;have q':v=.bl true:=q;subst q';obtain rfl:u=Value.bool true:=r';refine⟨rfl,OldK.of_keep λb o e=>?_,os,a0⟩;cases q:H b with
    |none=>exact un.keep b o e q (by intro z;exact absurd (show b∈([]:Z A1) from z) (by simp)) (by simp)
    |some u=>
     rcases p b with z|⟨N,xs,z⟩
     ·rw[q]at z;cases z
     ·have z2:=un.wJ b N _ z;obtain⟨e1,_⟩:=E b _ z;obtain⟨e2,_⟩:=a5 b _ z2;rw[e]at e1;cases e1;exact e2
 cases l:K.lookup a with
 |some o=>
  have e:=D a o l;rw[g]at e;cases e;refine A (λ_=>Y) (λ_=>.inl S) (.inr ⟨_,vs.toArray,_,l,rfl,rfl,rfl,by rw[zI,a3];exact C,by simpa using t⟩) (λb u z=>by have f:(Y:O HO)=U u:=z;cases f) (λb z=>absurd S z) λz=>absurd S z
 |none=>
  refine A (λb=>if b=a then U (.HS { cls:=.type "list",data:=.seq vs.toArray } (.lst (ns.map V.int)))else Y) (λb=>?_) (.inl (.inr ⟨{ cls:=.type "list",data:=.seq vs.toArray },zh rfl⟩)) (λb u z=>?_) (λb z=>?_) λ_=>l
  ·by_cases hb:b=a
   ·exact .inr ⟨_,_,zh hb⟩
   ·exact .inl (zC hb)
  ·by_cases hb:b=a
   ·have f:=(zh hb).symm.trans z;cases f;subst hb;exact⟨g,by rw[zi];exact C,vs,_,t,g⟩
   ·have f:=(zC hb).symm.trans z;cases f
  ·by_cases hb:b=a
   ·exact hb
   ·exact absurd (zC hb) z
end L2
namespace L2
theorem RE{l:PySem.W.OpenLaw}{k:Nat}{q:A3}{loose:AZ}{d:DefRec}{K:Params->B1}{CX:A4->Wy}{sp:A4->Sp}(z:l.most=U n)(D:n<=AA)(I:d.params.defaults=[])(j:gW k callerA)(J:∀(w:A4) (h:A6),YP w h->(K w.params).In h)(F:∀(w:A4) (mg:AJ->O A0) (fa:A1) (h:A6),(K w.params).In h->h.Ns mainGlobals mg->mg d.name=U (.ref fa) →
   ∃fd:FuncData,(∀(s:A2) (u:A0),BindsTo s fd ⟨[u],[]⟩ [(x,u)]) ∧
    ∀base:A6,(K w.params).In base->base.Ns mainGlobals mg->ju l.prog w (K w.params) mg base (CX w) k fa fd [x] (sp w))(A:∀(w:A4) (H:Hp) (a:A1) (ns:Z Int),ns.length<=n->Ch H->qO (K w.params) H a (ns.map V.int)->sp w [.ref a] H (λv _=>v=.bl true) λ_ _ _=>False)(M:∀(w:A4) (H:Hp) (s:A2) (e:A0) (s':A2),CX w [] H s (λ_ _ _=>False) e s'->False):
  PySem.W.WalkO q loose XP YP l.row.toRowW d [] (λf vs=>PySem.call f vs):=by
 refine Att.Oh z I λw P L mg mb fa o X cd Q a vs ns G Y ho N a0 E t C i m=>?_;have c:=J w _ Y;obtain⟨fd,hb,B⟩:=F w mg fa _ c G.T.g E;exact Zb c G.T.g G.T.b G.T.builtins G.T.nolimit m t C (ZH i D) j B hb (λH p y=>A w H a ns i p y) λH e s'=>M w H L e s'
theorem Zc{l:PySem.W.OpenLaw}{k:Nat}{q:A3}{loose:AZ}{d:DefRec}{K:Params->B1}{CX:Wy}{sp:B1->Sp}(m:l.most=U n)(i:n<=AA)(c:d.params.defaults=[])(b:gW k callerA)(j:∀(w:A4) (h:A6),YP w h->(K w.params).In h)(F:∀(w:A4) (mg:AJ->O A0) (fa:A1) (h:A6),(K w.params).In h->h.Ns mainGlobals mg->mg d.name=U (.ref fa) →
   ∃fd:FuncData,(∀(s:A2) (u:A0),BindsTo s fd ⟨[u],[]⟩ [(x,u)]) ∧
    ∀base:A6,(K w.params).In base->base.Ns mainGlobals mg->ju l.prog w (K w.params) mg base CX k fa fd [x] (sp (K w.params)))(p:∀(K:B1) (H:Hp) (a:A1) (ns:Z Int),ns.length<=n->Ch H->qO K H a (ns.map V.int)->sp K [.ref a] H (λv _=>v=.bl true) λ_ _ _=>False)(o:∀(H:Hp) (s:A2) (e:A0) (s':A2),CX [] H s (λ_ _ _=>False) e s'->False):
  PySem.W.WalkO q loose XP YP l.row.toRowW d [] (λf vs=>PySem.call f vs):=
 RE (K:=K) (CX:=λ_=>CX) (sp:=λw=>sp (K w.params)) m i c b j F (λw H a ns h1 h2 g=>p (K w.params) H a ns h1 h2 g) λ_ H s e s'=>o H s e s'
end L2
namespace L2
def nH(s:AB):Arguments:=match s with
 |.FunctionDef _ a _ _ _ _ _ _ _ _=>a
 |_=>{ posonlyargs:=[],args:=[],vararg:=Y,kwonlyargs:=[],kw_defaults:=[],kwarg:=Y,defaults:=[] }
def d8(s:AB):Z AB:=match s with
 |.FunctionDef _ _ b _ _ _ _ _ _ _=>b
 |_=>[]
def aG(s:AB):Scope:=match s with
 |.FunctionDef _ _ _ _ _ _ a _ _ _=>a
 |_=>{ kind:=.function,names:=[],isGenerator:=false,isCoroutine:=false }
abbrev xu:Wy:=λ_ _ _ _ _ _=>False
abbrev E0:XK:=λ_ _ _=>False
theorem NC{X:Cx}:C1 xu X E0:=λ_ _ _ _ _ _ _ h=>h.elim
structure Bj (K:B1) (x qual:Str) (st:Stmt) (f:Addr) (fd:FuncData):Prop where
 ex:∃(oc:Value) (od:Option Addr) (kV doc pm:Value) (an:Option Addr) (cdv ct:Value) (osl:Array (Option Value)),
  fd=fnOf x qual (nH st) (d8 st) (aG st) .none kV doc pm an cdv ct/\K.lookup f=some ⟨oc,od,.func fd,osl⟩/\codeIn K cdv qual=true
 kp:keepIn K (.ref f)=true
theorem Bj.ok{f:A1}{k:Nat}{sp:Sp}(F:Bj K x qual st f fd)(S:bB N ps (aG st))(len:∀vs H Q E,sp vs H Q E->vs.length=ps.length)(d:∀(a:A0) (A:A5) (outer:Z Env) (s:A2) (H:Hp) (vs:Z V) (Q:VK) (E:XK),gW k (A.deeper (AK qual (aG st) s.heap.objs.size f a))->sp vs H Q E →
   ∃t,Cy (rK xu P w K mg base N qual (aG st) f a A outer s H E).Yt (d8 st) t/\t { nx:=λ_ H'=>Q .non H',rt:=Q } (start N vs) H):ju P w K mg base xu (k+1) f fd ps sp:=by
 obtain⟨i,j,kV,l,m,n,a,ct,osl,rfl,e,c⟩:=F.ex;refine Ix e c S len λA outer s H vs Q E b g=>?_;obtain⟨t,h,q⟩:=d a A outer s H vs Q E b g;exact⟨t,h.Yt,q⟩
theorem Bj.binds{f:A1}(F:Bj K x qual st f fd)(h:∀(kV a b:A0) (d:O A1) (c ct:A0) (us:Z A0),us.length=ps.length->bindArgs (fnOf x qual (nH st) (d8 st) (aG st) .none kV a b d c ct) ⟨us,[]⟩=pure (ps.zip us)):BA K fd ps []:=by
 obtain⟨e,i,kV,a,b,d,c,ct,osl,rfl,j,g⟩:=F.ex;exact .all (h kV a b d c ct)
theorem KR{f:A1}{g:A0}{od e:O A1}{kV b d a ct:A0}(l:K.lookup f=U ⟨g,od,.func (fnOf x qual (nH st) (d8 st) (aG st) .none kV b d e a ct),osl⟩)(c:codeIn K a qual=true)(k:keepIn K (.ref f)=true):Bj K x qual st f (fnOf x qual (nH st) (d8 st) (aG st) .none kV b d e a ct):=⟨⟨g,od,kV,b,d,e,a,ct,osl,rfl,l,c⟩,k⟩
section
variable{X:Cx}
theorem pv(i:Nat)(c:X.N[i]?=U x:=by rfl)(b:U3 X.env.scope x:=by first|exact JS rfl|exact QY (JS S)|exact QY (QY S))(a:(x==("__debug__":AJ))=false:=by decide)(d:(x==("__classdict__":AJ))=false:=by decide):PE X (.Name x pos) (YG i):=rH c b a d
end
def AV(H H':Hp):Prop:=∀b o,H b=U o->H' b=U o
theorem AV.refl(H:Hp):AV H H:=λ_ _ h=>h
theorem AV.trans{H H1 H2:Hp}(a:AV H H1)(b:AV H1 H2):AV H H2:=λc o h=>b c o (a c o h)
theorem AV.free{H H':Hp}(e:AV H H')(h:H' l=Option.none):H l=Option.none:=by
 cases q:H l with
 |none=>rfl
 |some o=>
  rw[e l o q]at h;cases h
theorem AV.seq{H H':Hp}{xs:Z V}(e:AV H H')(h:qO K H a xs):qO K H' a xs:=by
 rcases h with (h|⟨o,h⟩)|h
 ·exact .inl (.inl (e _ _ h))
 ·exact .inl (.inr ⟨o,e _ _ h⟩)
 ·exact .inr h
end L2
variable{xs:Z L2.V}{H:L2.Hp}{X:L2.Cx}{σ:L2.St}{v:L2.V}{ta te:L2.TE}{J:L2.It}{vs:Z L2.V}{sp:L2.Sp}{ks:Z L2.AY}{zs:Z (Z L2.AY×A1)}{H0 Hs:L2.Hp}{cL:Z (Z L2.AY)}
namespace P1
open L2
inductive Dt where
 |non|bl (b:Bool)|int (i:Int)|str (x:Str)|tup (xs:List Dt)|lst (xs:List Dt)|emp
inductive Bx where
 |z (d:Dt)|l (ds:List Dt)|o (ds:List Dt)|n (AO:List (AY×Dt))|m (AO:List (AY×Dt)) (w:Option Addr)
abbrev Ev:=Z (O Bx)
def F1(K:B1)(H:Hp)(a:A1)(xs:Z V):Prop:=
 (∃o,H a=U (.HS o (.lst xs))) ∨
  ∃(o:AE) (AQ:Array A0) (n:Nat),K.lookup a=U o/\o.cls=.type "list" ∧ o.dict=Y/\o.data=.seq AQ n/\AQ.size<=AA/\AX xs AQ.toList
theorem F1.sq(h:F1 K H a xs):qO K H a xs:=by
 rcases h with h|h
 ·exact .inl (.inr h)
 ·exact .inr h
mutual
def AW(K:B1)(H:Hp):Dt->V->Prop
 |.non,v=>v=.non
 |.bl b,v=>v=.bl b
 |.int i,v=>v=.int i
 |.str x,v=>v=.str x/\x.length<=AA
 |.tup ds,v=>∃a vs,v=.ref a/\yh K H a vs/\aK K H ds vs
 |.lst ds,v=>∃a vs,v=.ref a/\F1 K H a vs/\aK K H ds vs
 |.emp,v=>∃a o,v=.ref a/\H a=U (.HS o (.dK []))
def aK(K:B1)(H:Hp):Z Dt->Z V->Prop
 |[],vs=>vs=[]
 |d::ds,vs=>∃v r,vs=v::r/\AW K H d v/\aK K H ds r
end
structure Kp (H H':Hp):Prop where
 t:∀a xs,H a=some (.tup xs)->H' a=some (.tup xs)
 f:∀a o u,H a=some (.HS o u)->H' a=some (.HS o u)
theorem Kp.of{H':Hp}(s:AV H H'):Kp H H':=⟨λa _ h=>s a _ h,λa _ _ h=>s a _ h⟩
theorem Kp.sqT{H':Hp}(k:Kp H H')(h:yh K H a xs):yh K H' a xs:=by
 rcases h with (h|⟨o,h⟩)|h
 ·exact .inl (.inl (k.t _ _ h))
 ·exact .inl (.inr ⟨o,k.f _ _ _ h⟩)
 ·exact .inr h
theorem Kp.fzL{H':Hp}(k:Kp H H')(h:F1 K H a xs):F1 K H' a xs:=by
 rcases h with⟨o,h⟩|h
 ·exact .inl ⟨o,k.f _ _ _ h⟩
 ·exact .inr h
theorem Kp.lst{o:HO}(h:H a=U (.lst xs)):Kp H (B0 H a o):=by
 refine⟨λb ys e=>?_,λb c u e=>?_⟩
 ·rw[aP (lX e h (by intro z;cases z))];exact e
 ·rw[aP (lX e h (by intro z;cases z))];exact e
theorem Kp.dk{xs:Z (AY×V)}{o:HO}(h:H a=U (.dK xs)):Kp H (B0 H a o):=by
 refine⟨λb ys e=>?_,λb c u e=>?_⟩
 ·rw[aP (lX e h (by intro z;cases z))];exact e
 ·rw[aP (lX e h (by intro z;cases z))];exact e
mutual
theorem AW.kp{K:B1}{H H':Hp}(k:Kp H H'):∀{d:Dt} {v:V},AW K H d v->AW K H' d v
 |.non,_,h=>by simpa only[AW]using h
 |.bl _,_,h=>by simpa only[AW]using h
 |.int _,_,h=>by simpa only[AW]using h
 |.str _,_,h=>by simpa only[AW]using h
 |.tup ds,_,h=>by
  simp only[AW]at h ⊢;obtain⟨a,vs,e,q,r⟩:=h;exact⟨a,vs,e,k.sqT q,aK.kp k r⟩
 |.lst ds,_,h=>by
  simp only[AW]at h ⊢;obtain⟨a,vs,e,q,r⟩:=h;exact⟨a,vs,e,k.fzL q,aK.kp k r⟩
 |.emp,_,h=>by
  simp only[AW]at h ⊢;obtain⟨a,o,e,q⟩:=h;exact⟨a,o,e,k.f _ _ _ q⟩
theorem aK.kp{K:B1}{H H':Hp}(k:Kp H H'):∀{ds:Z Dt} {vs:Z V},aK K H ds vs->aK K H' ds vs
 |[],_,h=>by simpa only[aK]using h
 |d::ds,_,h=>by
  simp only[aK]at h ⊢;obtain⟨v,r,e,q,t⟩:=h;exact⟨v,r,e,AW.kp k q,aK.kp k t⟩
end
theorem aK.length{K:B1}{H:Hp}:∀{ds:Z Dt} {vs:Z V},aK K H ds vs->vs.length=ds.length
 |[],_,h=>by simp only[aK]at h;subst h;rfl
 |d::ds,_,h=>by
  simp only[aK]at h;obtain⟨v,r,rfl,_,t⟩:=h;simp[aK.length t]
theorem aK.nil:aK K H [] []:=by simp only[aK]
theorem aK.cons{K:B1}{H:Hp}{d:Dt}{v:V}{ds:Z Dt}{vs:Z V}(h:AW K H d v)(t:aK K H ds vs):aK K H (d::ds) (v::vs):=by
 simp only[aK];exact⟨v,vs,rfl,h,t⟩
theorem aK.append{K:B1}{H:Hp}:∀{ds es:Z Dt} {vs us:Z V},aK K H ds vs->aK K H es us->aK K H (ds++es) (vs++us)
 |[],_,_,_,h,t=>by simp only[aK]at h;subst h;exact t
 |d::ds,_,_,_,h,t=>by
  simp only[aK]at h;obtain⟨v,r,rfl,q,h⟩:=h;exact aK.cons q (aK.append h t)
theorem aK.drop{K:B1}{H:Hp}:∀(n:Nat) {ds:Z Dt} {vs:Z V},aK K H ds vs->aK K H (ds.drop n) (vs.drop n)
 |0,_,_,h=>h
 |n+1,[],_,h=>by simp only[aK]at h;subst h;exact aK.nil
 |n+1,d::ds,_,h=>by
  simp only[aK]at h;obtain⟨v,r,rfl,q,h⟩:=h;exact aK.drop n h
theorem aK.take{K:B1}{H:Hp}:∀(n:Nat) {ds:Z Dt} {vs:Z V},aK K H ds vs->aK K H (ds.take n) (vs.take n)
 |0,_,_,_=>aK.nil
 |n+1,[],_,h=>by simp only[aK]at h;subst h;exact aK.nil
 |n+1,d::ds,_,h=>by
  simp only[aK]at h;obtain⟨v,r,rfl,q,h⟩:=h;exact aK.cons q (aK.take n h)
theorem aK.get{K:B1}{H:Hp}:∀{ds:Z Dt} {vs:Z V} {i:Nat} {d:Dt},aK K H ds vs->ds[i]?=U d->∃v,vs[i]?=U v/\AW K H d v
 |[],_,_,_,_,e=>by simp at e
 |d::ds,_,0,_,h,e=>by
  simp only[aK]at h;obtain⟨v,r,rfl,q,h⟩:=h;simp at e;subst e;exact⟨v,rfl,q⟩
 |d::ds,_,i+1,_,h,e=>by
  simp only[aK]at h;obtain⟨v,r,rfl,q,h⟩:=h;obtain⟨u,e1,e2⟩:=aK.get h (i:=i) (by simpa using e);exact⟨u,by simpa using e1,e2⟩
def ED:AY->Prop
 |.inl _=>True
 |.inr x=>x.length<=AA
def fL(K:B1)(H:Hp)(AO:Z (AY×Dt))(ks:Z (AY×V)):Prop:=ks.map (·.1)=AO.map (·.1)/\aK K H (AO.map (·.2)) (ks.map (·.2))/\∀p∈AO,ED p.1
theorem fL.kp{K:B1}{H H':Hp}{AO:Z (AY×Dt)}{ks:Z (AY×V)}(h:fL K H AO ks)(k:Kp H H'):fL K H' AO ks:=⟨h.1,h.2.1.kp k,h.2.2⟩
def bh(K:B1)(H:Hp):Bx->V->Prop
 |.z d,v=>AW K H d v
 |.l ds,v=>∃a vs,v=.ref a/\Rd H a (.lst vs)/\aK K H ds vs
 |.o ds,v=>∃a vs,v=.ref a/\H a=U (.lst vs)/\aK K H ds vs
 |.n AO,v=>∃a ks,v=.ref a/\Rd H a (.dK ks)/\fL K H AO ks
 |.m AO w,v=>∃a ks,v=.ref a/\H a=U (.dK ks)/\fL K H AO ks/\∀b,w=U b->b=a
theorem bh.same{H':Hp}(s:AV H H'){b:Bx}(h:bh K H b v):bh K H' b v:=by
 cases b with
 |z d=>exact AW.kp (.of s) h
 |l ds=>
  obtain⟨a,vs,e,q,r⟩:=h;refine⟨a,vs,e,?_,r.kp (.of s)⟩;rcases q with q|⟨o,q⟩
  ·exact .inl (s _ _ q)
  ·exact .inr ⟨o,s _ _ q⟩
 |o ds=>
  obtain⟨a,vs,e,q,r⟩:=h;exact⟨a,vs,e,s _ _ q,r.kp (.of s)⟩
 |n AO=>
  obtain⟨a,vs,e,q,r⟩:=h;refine⟨a,vs,e,?_,r.kp (.of s)⟩;rcases q with q|⟨o,q⟩
  ·exact .inl (s _ _ q)
  ·exact .inr ⟨o,s _ _ q⟩
 |m AO _=>
  obtain⟨a,vs,e,q,r⟩:=h;exact⟨a,vs,e,s _ _ q,r.1.kp (.of s),r.2⟩
def oV:Bx->O (Z Dt)
 |.z (.lst ds)=>U ds
 |.l ds=>U ds
 |.o ds=>U ds
 |_=>Y
theorem bh.HW{b:Bx}{ds:Z Dt}(h:bh K H b v)(e:oV b=U ds):∃a vs,v=.ref a/\qO K H a vs/\aK K H ds vs:=by
 cases b with
 |z d=>
  cases d<;>first|(cases e;done)|skip;cases e;simp only[bh,AW]at h;obtain⟨a,vs,e,q,r⟩:=h;exact⟨a,vs,e,q.sq,r⟩
 |l c=>
  cases e;obtain⟨a,vs,e,q,r⟩:=h;exact⟨a,vs,e,.inl q,r⟩
 |o c=>
  cases e;obtain⟨a,vs,e,q,r⟩:=h;exact⟨a,vs,e,.inl (.inl q),r⟩
 |n _=>cases e
 |m _ _=>cases e
abbrev pJ(K:B1)(H:Hp):Z Bx->Z V->Prop:=AI (bh K H)
def Nw(H:Hp):Bx->V->Prop
 |.o _,v=>∀a,v=.ref a->H a=Y
 |.m _ _,v=>∀a,v=.ref a->H a=Y
 |_,_=>True
theorem Nw.old{H1:Hp}(s:AV H H1){b:Bx}(h:Nw H1 b v):Nw H b v:=by
 cases b with
 |o ds=>exact λa e=>s.free (h a e)
 |m ds _=>exact λa e=>s.free (h a e)
 |_=>trivial
def loose:Bx->Bool
 |.z _=>false
 |_=>true
def uO:Bx->Bool
 |.o _=>true
 |.m _ _=>true
 |_=>false
structure bM (K:B1) (H0 H:Hp) (σ:L2.St) (ρ:Ev):Prop where
 len:σ.length=ρ.length
 val:∀(i:Nat) b,ρ[i]?=some (some b)->∃v,σ[i]?=some (some v)/\bh K H b v
 own:∀(i j:Nat) c a b,ρ[i]?=some (some c)->uO c=true->σ[i]?=some (some (.ref a))->ρ[j]?=some (some b)->loose b=true->σ[j]?=some (some (.ref a))->i=j
 base:AV H0 H
 new:∀(i:Nat) c a,ρ[i]?=some (some c)->uO c=true->σ[i]?=some (some (.ref a))->H0 a=none
theorem bM.grow{H':Hp}{ρ:Ev}(r:bM K H0 H σ ρ)(s:AV H H'):bM K H0 H' σ ρ:=
 ⟨r.len,λi b e=>let ⟨v,e1,h⟩:=r.val i b e;⟨v,e1,h.same s⟩,r.own,r.base.trans s,r.new⟩
def tF(K:B1)(f:Ev->O Bx):TE:=λσ H Q=>∃H0 ρ b,bM K H0 H σ ρ/\f ρ=U b/\∀v H',AV H H'->Nw H b v->bh K H' b v->Q v H'
def NN(K:B1)(f:Ev->O (Z Bx)):TA:=λσ H Q=>∃H0 ρ bs,bM K H0 H σ ρ/\f ρ=U bs/\∀vs H',AV H H'->pJ K H' bs vs->Q vs H'
def D1(K:B1)(f:Ev->O Bool):TT:=λσ H Q=>∃H0 ρ b,bM K H0 H σ ρ/\f ρ=U b/\∀H',AV H H'->Q b H'
def PV(X:Cx)(e:Expr)(f:Ev->O Bx):Prop:=PE X e (tF X.K f)
structure QV (X:Cx) (e:Expr) (f:Ev->Option Bx):Prop where
 run:PV X e f
def Eg(X:Cx)(es:Z Expr)(f:Ev->O (Z Bx)):Prop:=PA X es (NN X.K f)
structure Vb (X:Cx) (es:List Expr) (f:Ev->Option (List Bx)):Prop where
 run:Eg X es f
def PB(X:Cx)(e:Expr)(f:Ev->O Bool):Prop:=PT X e (D1 X.K f)
structure QB (X:Cx) (e:Expr) (f:Ev->Option Bool):Prop where
 run:PB X e f
theorem Ii{t t':TE}(h:PE X e t)(m:∀ σ H Q,t' σ H Q->t σ H Q):PE X e t':=λAN s σ H Q I q=>h AN s σ H Q I (m σ H Q q)
theorem N2{e:Z Expr}{t t':TA}(h:PA X e t)(m:∀ σ H Q,t' σ H Q->t σ H Q):PA X e t':=λpos AN s σ H Q I q=>h pos AN s σ H Q I (m σ H Q q)
theorem HE{t t':TT}(h:PT X e t)(m:∀ σ H Q,t' σ H Q->t σ H Q):PT X e t':=λAN s σ H Q I q=>h AN s σ H Q I (m σ H Q q)
theorem LM{t t':TT}(h:PW X e t)(m:∀ σ H Q,t' σ H Q->t σ H Q):PW X e t':=λa AN s σ H Q I q=>h a AN s σ H Q I (m σ H Q q)
theorem Oi{e:AB}{t t':TS}(h:PS X e t)(m:∀D σ H,t' D σ H->t D σ H):PS X e t':=λAN s σ H D I q=>h AN s σ H D I (m D σ H q)
theorem GV{e:Z AB}{t t':TS}(h:Cy X e t)(m:∀D σ H,t' D σ H->t D σ H):Cy X e t':=λAN s σ H D I q=>h AN s σ H D I (m D σ H q)
def rF(K:B1)(g:Bx->Bx->O Bx):R2:=λx y H Q=>∃a b c,bh K H a x/\bh K H b y/\g a b=U c/\∀w H',AV H H'->Nw H c w->bh K H' c w->Q w H'
def Ll(K:B1)(g:Bx->O Bx):V->Hp->VK->Prop:=λx H Q=>∃a c,bh K H a x/\g a=U c/\∀w H',AV H H'->Nw H c w->bh K H' c w->Q w H'
def L5(K:B1)(g:Z Bx->O Bx):Z V->Hp->VK->Prop:=λxs H Q=>∃bs c,pJ K H bs xs/\g bs=U c/\∀w H',AV H H'->Nw H c w->bh K H' c w->Q w H'
abbrev Dy(X:Cx)(f:A0->A0->Sem A0)(g:Bx->Bx->O Bx):Prop:=uL X f (rF X.K g)
abbrev MB(X:Cx)(f:A0->Sem A0)(g:Bx->O Bx):Prop:=DM X f (Ll X.K g)
abbrev nC(X:Cx)(f:A0)(g:Z Bx->O Bx):Prop:=fK X f (L5 X.K g)
theorem uL.imp{f:A0->A0->Sem A0}{r a:R2}(h:uL X f r)(m:∀x y H Q,a x y H Q->r x y H Q):uL X f a:=λAN s σ H x y v u Q I b c q=>h AN s σ H x y v u Q I b c (m x y H Q q)
theorem DM.imp{f:A0->Sem A0}{r a:V->Hp->VK->Prop}(h:DM X f r)(m:∀x H Q,a x H Q->r x H Q):DM X f a:=λAN s σ H x v Q I b q=>h AN s σ H x v Q I b (m x H Q q)
theorem fK.imp{f:A0}{r a:Z V->Hp->VK->Prop}(h:fK X f r)(m:∀x H Q,a x H Q->r x H Q):fK X f a:=λAN s σ H xs us Q I b q=>h AN s σ H xs us Q I b (m xs H Q q)
def b2(g:Bx->Bx->O Bx)(fa fb:Ev->O Bx):Ev->O Bx:=λρ=>(fa ρ).bind λx=>(fb ρ).bind λy=>g x y
def b1(g:Bx->O Bx)(fa:Ev->O Bx):Ev->O Bx:=λρ=>(fa ρ).bind g
def cg(g:Z Bx->O Bx)(fs:Ev->O (Z Bx)):Ev->O Bx:=λρ=>(fs ρ).bind g
theorem AT{α β:Type}{o:O α}{f:α->O β}{b:β}(h:o.bind f=U b):∃a,o=U a/\f a=U b:=by
 cases o with
 |none=>cases h
 |some a=>exact⟨a,rfl,h⟩
theorem Zd{g:Bx->Bx->O Bx}{fa fb:Ev->O Bx}(σ:L2.St)(H:Hp)(Q:VK)(h:tF K (b2 g fa fb) σ H Q):F6 (rF K g) (tF K fa) (tF K fb) σ H Q:=by
 obtain⟨H0,ρ,c,E,e,q⟩:=h;obtain⟨a,ea,e⟩:=AT e;obtain⟨b,eb,e⟩:=AT e;refine⟨H0,ρ,a,E,ea,λv H1 d s j=>⟨H0,ρ,b,E.grow d,eb,λu H2 f p n=>?_⟩⟩;exact⟨a,b,c,j.same f,n,e,λw o i m l=>q w o ((d.trans f).trans i) (m.old (d.trans f)) l⟩
theorem ia{g:Bx->O Bx}{fa:Ev->O Bx}(σ:L2.St)(H:Hp)(Q:VK)(h:tF K (b1 g fa) σ H Q):MV (Ll K g) (tF K fa) σ H Q:=by
 obtain⟨H0,ρ,c,E,e,q⟩:=h;obtain⟨a,ea,e⟩:=AT e;exact⟨H0,ρ,a,E,ea,λv H1 b m f=>⟨a,c,f,e,λw l d j i=>q w l (b.trans d) (j.old b) i⟩⟩
theorem DS{g:Z Bx->O Bx}{fs:Ev->O (Z Bx)}(σ:L2.St)(H:Hp)(Q:VK)(h:tF K (cg g fs) σ H Q):HQ (L5 K g) (NN K fs) σ H Q:=by
 obtain⟨H0,ρ,c,E,e,q⟩:=h;obtain⟨a,ea,e⟩:=AT e;exact⟨H0,ρ,a,E,ea,λv H1 b f=>⟨a,c,f,e,λw l d j i=>q w l (b.trans d) (j.old b) i⟩⟩
section
variable{a b:Expr}{fa fb fc f:Ev->O Bx}{fs:Ev->O (Z Bx)}
theorem aQ{op:Operator}{g:Bx->Bx->O Bx}(d:Dy X (binaryOp op) g)(c:QV X a fa)(hb:QV X b fb):QV X (.BinOp a op b pos) (b2 g fa fb):=⟨have c:=c.run;have hb:=hb.run;Ii (LD d c hb) Zd⟩
theorem NB{op:UnaryOp}{g:Bx->O Bx}(c:MB X (unaryOp op) g)(b:QV X a fa):QV X (.UnaryOp op a pos) (b1 g fa):=⟨have b:=b.run;Ii (fT c b) ia⟩
theorem qF{g:Bx->Bx->O Bx}(e:Dy X (AG op) g)(c:QV X a fa)(hb:QV X b fb)(d:behindInMarks op b=false):QV X (.Compare a [op] [b] pos) (b2 g fa fb):=⟨have c:=c.run;have hb:=hb.run;Ii (Ku e c hb d) Zd⟩
def KY:Bx->O Bool
 |.z (.bl b)=>U b
 |_=>Y
theorem Fi{b:Bx}{k:Bool}(h:bh K H b v)(e:KY b=U k):v=.bl k:=by
 cases b with
 |z d=>
  cases d<;>first|(cases e;done)|skip;cases e;simpa only[bh,AW]using h
 |_=>cases e
theorem TK(σ:L2.St)(H:Hp)(Q:Bool->Hp->Prop)(h:D1 K (λρ=>(f ρ).bind KY) σ H Q):tF K f σ H (λx H'=>∃k,x=.bl k/\Q k H'):=by
 obtain⟨H0,ρ,k,E,e,q⟩:=h;obtain⟨b,eb,e⟩:=AT e;exact⟨H0,ρ,b,E,eb,λv H1 a d c=>⟨k,Fi c e,q H1 a⟩⟩
theorem cN{g:Bx->Bx->O Bx}(e:Dy X (AG op) g)(c:QV X a fa)(hb:QV X b fb)(d:behindInMarks op b=false):QB X (.Compare a [op] [b] pos) (λρ=>(b2 g fa fb ρ).bind KY):=⟨have c:=c.run;have hb:=hb.run;HE (ie e c hb d) λσ H Q h=>Zd σ H _ (TK σ H Q h)⟩
def F8(g g':Bx->Bx->O Bx)(fa fb fc:Ev->O Bx):Ev->O Bx:=λρ=>(fa ρ).bind λx=>(fb ρ).bind λy=>(g x y).bind λr=>(KY r).bind λk=>if k=true then(fc ρ).bind λw=>g' y w else U (.z (.bl false))
theorem cr{g g':Bx->Bx->O Bx}(σ:L2.St)(H:Hp)(Q:VK)(h:tF K (F8 g g' fa fb fc) σ H Q):YM (rF K g) (rF K g') (tF K fa) (tF K fb) (tF K fc) σ H Q:=by
 obtain⟨H0,ρ,d,E,e,q⟩:=h;obtain⟨a,ea,e⟩:=AT e;obtain⟨b,eb,e⟩:=AT e;obtain⟨r,er,e⟩:=AT e;obtain⟨k,ek,e⟩:=AT e;refine⟨H0,ρ,a,E,ea,λv H1 n L z=>⟨H0,ρ,b,E.grow n,eb,λu H2 j I l=>?_⟩⟩;refine⟨a,b,r,z.same j,l,er,λw B i G C=>⟨k,Fi C ek,?_⟩⟩;have c:=(n.trans j).trans i;cases k with
 |false=>
  rw[zC ZI]at e ⊢;cases e;exact q _ B c trivial (by simp only[bh,AW])
 |true=>
  rw[zh rfl]at e ⊢;obtain⟨m,D,e⟩:=AT e;refine⟨H0,ρ,m,E.grow c,D,λx F f J o=>?_⟩;exact⟨b,m,d,(l.same i).same f,o,e,λy t A s p=>q y t ((c.trans f).trans A) (s.old (c.trans f)) p⟩
theorem Ze{f:CmpOp}{g g':Bx->Bx->O Bx}(h:Dy X (AG op) g)(j:Dy X (AG f) g')(d:QV X a fa)(hb:QV X b fb)(e:QV X c fc)(i:lastMarks [op,f] [b,c]=false:=by with_unfolding_all rfl):QV X (.Compare a [op,f] [b,c] pos) (F8 g g' fa fb fc):=⟨have d:=d.run;have hb:=hb.run;have e:=e.run;Ii (YQ h j d hb e i) cr⟩
def yu(ρ:Ev)(i:Nat):O Bx:=match ρ[i]? with
 |some (U (.o ds))=>U (.l ds)
 |some (U (.m AO _))=>U (.n AO)
 |some (U b)=>U b
 |_=>Y
theorem Oj{ρ:Ev}{b:Bx}(E:bM K H0 H σ ρ)(e:yu ρ i=U b):∃v,σ[i]?=U (U v)/\bh K H b v:=by
 unfold yu at e;split at e
 ·rename_i ds h;cases e;obtain⟨v,e1,a,vs,e2,q,r⟩:=E.val i _ h;exact⟨v,e1,a,vs,e2,.inl q,r⟩
 ·rename_i ds h;cases e;obtain⟨v,e1,a,vs,e2,q,r⟩:=E.val i _ h;exact⟨v,e1,a,vs,e2,.inl q,r.1⟩
 ·rename_i c h;cases e;exact E.val i _ h
 ·cases e
theorem Dz{ρ:Ev}{b:Bx}(e:yu ρ i=U b):uO b=false:=by
 unfold yu at e;split at e
 ·cases e;rfl
 ·cases e;rfl
 ·rename_i c h1 h2 a;cases e;cases b with
  |o ds=>exact absurd S (h1 ds)
  |m ds _=>exact absurd S (h2 ds _)
  |_=>rfl
 ·cases e
theorem ak(i:Nat)(d:X.N[i]?=U x:=by rfl)(c:U3 X.env.scope x:=by first|exact JS rfl|exact QY (JS S)|exact QY (QY S))(a:(x==("__debug__":AJ))=false:=by decide)(f:(x==("__classdict__":AJ))=false:=by decide):QV X (.Name x pos) (λρ=>yu ρ i):=⟨Ii (rH d c a f) λσ H Q h=>by
 obtain⟨H0,ρ,b,E,e,q⟩:=h;obtain⟨v,e1,r⟩:=Oj E e;refine⟨v,e1,q v H (AV.refl H) ?_ r⟩;cases b with
 |o ds=>have:=Dz e;cases this
 |m ds _=>have:=Dz e;cases this
 |_=>trivial⟩
def cB(d:Dt):Ev->O Bx:=λ_=>U (.z d)
theorem WT{d:Dt}(h:PE X e (tC v))(r:∀H,AW X.K H d v):PV X e (cB d):=Ii h λσ H Q q=>by
 obtain⟨H0,ρ,b,E,e,q⟩:=q;cases e;exact q v H (AV.refl H) trivial (r H)
theorem aC{i j}:QV X (.Constant (.int i) j pos) (cB (.int i)):=⟨WT Ry λH=>by simp only[AW]⟩
theorem JB{i j}:QV X (.Constant (.bool i) j pos) (cB (.bl i)):=⟨WT Md λH=>by simp only[AW]⟩
theorem mQ{j}:QV X (.Constant .none j pos) (cB .non):=⟨WT WH λH=>by simp only[AW]⟩
theorem Zf{j}(hx:x.length<=AA:=by decide):PV X (.Constant (.str x) j pos) (cB (.str x)):=WT Pf λH=>by unfold AW;exact⟨rfl,hx⟩
theorem Zg{i:Int}{t:Tok}(c:Gl X x)(b:X.mg x=U (.int i t))(a:(x==("__debug__":AJ))=false:=by decide):QV X (.Name x pos) (cB (.int i)):=⟨WT (jY c b (v:=.int i) ⟨t,rfl⟩ a) λH=>by simp only[AW]⟩
theorem Zh{t:Tok}(d:Gl X x)(c:X.mg x=U (.str y t))(b:y.length<=AA:=by decide)(a:(x==("__debug__":AJ))=false:=by decide):QV X (.Name x pos) (cB (.str y)):=⟨WT (jY d c (v:=.str y) ⟨t,rfl⟩ a) λH=>by unfold AW;exact⟨rfl,b⟩⟩
def Zi:Bx->O Bool
 |.z .non=>U false
 |.z (.bl b)=>U b
 |.z (.int i)=>U (i != 0)
 |.z (.str x)=>U ((x.length:Int) != 0)
 |.z (.tup ds)=>U (!ds.isEmpty)
 |.z (.lst ds)=>U (!ds.isEmpty)
 |.l ds=>U (!ds.isEmpty)
 |.o ds=>U (!ds.isEmpty)
 |.z .emp=>Y
 |.n _=>Y
 |.m _ _=>Y
theorem aK.isEmpty{ds:Z Dt}(h:aK K H ds vs):(!ds.isEmpty)=!vs.isEmpty:=by
 have:=h.length;cases ds<;>cases vs<;>simp_all
theorem Y3{b:Bx}{k:Bool}(r:bh K H b v)(e:Zi b=U k):IU K v H k:=by
 cases b with
 |z d=>
  cases d with
  |non=>cases e;simp only[bh,AW]at r;subst r;rfl
  |bl b=>cases e;simp only[bh,AW]at r;subst r;rfl
  |int b=>cases e;simp only[bh,AW]at r;subst r;rfl
  |str x=>cases e;simp only[bh,AW]at r;obtain⟨rfl,h⟩:=r;exact⟨h,rfl⟩
  |tup ds=>
   cases e;simp only[bh,AW]at r;obtain⟨a,vs,rfl,q,r⟩:=r;exact .inr (.inl ⟨vs,q,r.isEmpty⟩)
  |lst ds=>
   cases e;obtain⟨a,vs,rfl,q,r⟩:=r.HW rfl;exact .inl ⟨vs,q,r.isEmpty⟩
  |emp=>cases e
 |l ds=>
  cases e;obtain⟨a,vs,rfl,q,r⟩:=r.HW rfl;exact .inl ⟨vs,q,r.isEmpty⟩
 |o ds=>
  cases e;obtain⟨a,vs,rfl,q,r⟩:=r.HW rfl;exact .inl ⟨vs,q,r.isEmpty⟩
 |n _=>cases e
 |m _ _=>cases e
theorem uP(h:QV X e f)(he:∀a,isTrue e X.env a=(do let v <-a;standAt e.pos;holding [v] (truthy v)):=by intro _;rfl):QB X e (λρ=>(f ρ).bind Zi):=⟨have h:=h.run;HE (YS h he) λσ H Q q=>by
 obtain⟨H0,ρ,k,E,e,q⟩:=q;obtain⟨b,eb,e⟩:=AT e;exact⟨H0,ρ,b,E,eb,λv H1 c g d=>⟨k,Y3 d e,q H1 c⟩⟩⟩
def Ol(p q:Ev->O Bool):Ev->O Bool:=λρ=>(p ρ).bind λc=>if c=true then q ρ else U false
def D9(p q:Ev->O Bool):Ev->O Bool:=λρ=>(p ρ).bind λc=>if c=true then U true else q ρ
def Ij(p:Ev->O Bool):Ev->O Bool:=λρ=>(p ρ).bind λc=>U (!c)
def ST(X:Cx)(e:Expr)(f:Ev->O Bool):Prop:=PW X e (D1 X.K f)
structure E6 (X:Cx) (e:Expr) (f:Ev->Option Bool):Prop where
 run:ST X e f
variable{p q:Ev->O Bool}{AS:Z Expr}
theorem yw(b:QB X a p):E6 X (.BoolOp .And [a] pos) p:=⟨have b:=b.run;OR b⟩
theorem yx(b:QB X a p):E6 X (.BoolOp .Or [a] pos) p:=⟨have b:=b.run;UC b⟩
theorem aI(σ:L2.St)(H:Hp)(Q:Bool->Hp->Prop)(h:D1 K (Ol p q) σ H Q):M' (D1 K p) (D1 K q) σ H Q:=by
 obtain⟨H0,ρ,k,E,e,w⟩:=h;obtain⟨c,d,e⟩:=AT e;refine⟨H0,ρ,c,E,d,λH1 a=>?_⟩;cases c with
 |true=>rw[zh rfl]at e ⊢;exact⟨H0,ρ,k,E.grow a,e,λH2 b=>w H2 (a.trans b)⟩
 |false=>rw[zC ZI]at e ⊢;cases e;exact w H1 a
theorem To(σ:L2.St)(H:Hp)(Q:Bool->Hp->Prop)(h:D1 K (D9 p q) σ H Q):MG (D1 K p) (D1 K q) σ H Q:=by
 obtain⟨H0,ρ,k,E,e,w⟩:=h;obtain⟨c,d,e⟩:=AT e;refine⟨H0,ρ,c,E,d,λH1 a=>?_⟩;cases c with
 |true=>rw[zh rfl]at e ⊢;cases e;exact w H1 a
 |false=>rw[zC ZI]at e ⊢;exact⟨H0,ρ,k,E.grow a,e,λH2 b=>w H2 (a.trans b)⟩
theorem DG(c:QB X a p)(hb:E6 X (.BoolOp .And (b::AS) pos) q):E6 X (.BoolOp .And (a::b::AS) pos) (Ol p q):=⟨have c:=c.run;have hb:=hb.run;LM (Sl c hb) aI⟩
theorem Fj(c:QB X a p)(hb:E6 X (.BoolOp .Or (b::AS) pos) q):E6 X (.BoolOp .Or (a::b::AS) pos) (D9 p q):=⟨have c:=c.run;have hb:=hb.run;LM (RH c hb) To⟩
theorem KZ(h:E6 X e p):QB X e p:=⟨have h:=h.run;h.pt⟩
theorem xG(b:QB X a p):QB X (.UnaryOp .Not a pos) (Ij p):=⟨have b:=b.run;HE (OQ b) λσ H Q h=>by
 obtain⟨H0,ρ,k,E,e,w⟩:=h;obtain⟨c,f,e⟩:=AT e;cases e;exact⟨H0,ρ,c,E,f,λH1 d=>w H1 d⟩⟩
def Om(fa fb:Ev->O Bx):Ev->O Bx:=λρ=>((fa ρ).bind KY).bind λc=>if c=true then fb ρ else U (.z (.bl false))
theorem K1{op}(h:QV X a fa):QV X (.BoolOp op [a] pos) fa:=⟨have h:=h.run;Rz h⟩
theorem Fl(g:QV X a fa)(hb:QV X (.BoolOp .And (b::AS) pos) fb):QV X (.BoolOp .And (a::b::AS) pos) (Om fa fb):=⟨have g:=g.run;have hb:=hb.run;Ii (Kq g hb) λσ H Q h=>by
 obtain⟨H0,ρ,k,E,e,w⟩:=h;obtain⟨c,f,e⟩:=AT e;obtain⟨x,ex,f⟩:=AT f;refine⟨H0,ρ,x,E,ex,λv H1 d n l=>⟨c,Fi l f,?_⟩⟩;cases c with
 |true=>rw[zh rfl]at e ⊢;exact⟨H0,ρ,k,E.grow d,e,λv H2 i j m=>w v H2 (d.trans i) (j.old d) m⟩
 |false=>rw[zC ZI]at e ⊢;cases e;exact w _ H1 d trivial (by simp only[bh,AW])⟩
theorem Vc:Eg X [] (λ_=>U []):=N2 d7 λσ H Q h=>by
 obtain⟨H0,ρ,bs,E,e,q⟩:=h;cases e;exact q [] H (AV.refl H) .nil
def ao(f:Ev->O Bx)(fs:Ev->O (Z Bx)):Ev->O (Z Bx):=λρ=>(f ρ).bind λb=>(fs ρ).bind λbs=>U (b::bs)
theorem Oo(h1:PV X e f)(h2:Eg X es fs)(hs:A9 (e::es) X.env=(false,eval e X.env)::A9 es X.env:=by rfl):Eg X (e::es) (ao f fs):=N2 (bw h1 h2 hs) λσ H Q h=>by
 obtain⟨H0,ρ,bs,E,e,q⟩:=h;obtain⟨b,eb,e⟩:=AT e;obtain⟨d,g,e⟩:=AT e;cases e;refine⟨H0,ρ,b,E,eb,λv H1 a l i=>⟨H0,ρ,d,E.grow a,g,λvs H2 c j=>?_⟩⟩;exact q (v::vs) H2 (a.trans c) (.cons (i.same c) j)
def vW:Bx->O Bx
 |.z d=>U (.z d)
 |.o ds=>U (.z (.lst ds))
 |.l _=>Y
 |.n _=>Y
 |.m _ _=>Y
theorem Fp{a:A1}(I:L2.AU X AN σ H s)(h:H a=U (.lst vs)):∃o,L2.AU X AN σ (B0 H a (.HS o (.lst vs))) s:=by
 obtain⟨z,AQ,n,r,e⟩:=I.hok a _ h;refine⟨{ cls:=.type "list",data:=.seq AQ.toArray n },⟨I.ok,I.os,I.bare,⟨I.base.keep,I.base.slot,λb d q1 q2 f=>?_,I.base.there,λb xs q=>?_,λb d u q=>?_,λb ps q=>?_⟩,I.loc,I.cell,?_,λx c q=>?_,λp hp=>?_,?_,I.len⟩⟩
 ·have:=I.base.free b d q1 q2 f;rw[aP (bH h this).symm];exact this
 ·have:=I.base.tups b xs q;rw[aP (lX this h (by intro z;cases z))];exact this
 ·have:=I.base.wJ b d u q;rw[aP (lX this h (by intro z;cases z))];exact this
 ·obtain⟨m,this⟩:=I.base.yg b ps q;rw[aP (lX this h (by intro z;cases z))];exact⟨m,this⟩
 ·rw[aP (bH h I.free).symm];exact I.free
 ·rw[aP (bH h (I.jy x c q)).symm];exact I.jy x c q
 ·obtain⟨q1,q2,f⟩:=I.pin p hp;refine⟨q1,?_,f⟩;rw[aP (bH h q2).symm];exact q2
 ·intro b u q;by_cases hb:b=a
  ·subst hb;rw[aU]at q;cases q;exact⟨e,z,AQ,n,r,e⟩
  ·rw[aP hb]at q;refine(I.hok b u q).stay (λc v _ w=>w) (λc w=>?_) λc xs w=>?_
   ·rw[aP (lX w h (by intro z;cases z))];exact w
   ·rw[aP (lX w h (by intro z;cases z))];exact w
theorem fM(h:QV X e f):QV X e (b1 vW f):=⟨by
 have h:=h.run;intro AN s σ H Q I q;obtain⟨H0,ρ,b,E,e,q⟩:=q;obtain⟨x,ex,e⟩:=AT e;cases x with
 |z d=>
  cases e;exact h AN s σ H Q I ⟨H0,ρ,_,E,ex,λv H' s' i g=>q v H' s' trivial g⟩
 |l ds=>cases e
 |n ds=>cases e
 |m ds _=>cases e
 |o ds=>
  cases e;refine gM (h AN s σ H (λv H'=>AV H H'/\Nw H (.o ds) v/\bh X.K H' (.o ds) v) I ⟨H0,ρ,_,E,ex,λv H' s' i g=>⟨s',i,g⟩⟩) λu D w=>?_;obtain⟨v,H1,y,A,s',i,g⟩:=w;obtain⟨a,vs,rfl,j,B⟩:=g;obtain⟨o,C⟩:=Fp y j;refine⟨.ref a,_,C,A,q _ _ (λc t p=>?_) trivial ?_⟩
  ·rw[aP (bH p (i a S))];exact s' c t p
  ·simp only[bh,AW];exact⟨a,vs,rfl,.inl ⟨o,aU⟩,B.kp (.lst j)⟩⟩
def K3:Z Bx->O (Z Dt)
 |[]=>U []
 |.z d::r=>(K3 r).bind λds=>U (d::ds)
 |_=>Y
theorem Fq{K:B1}{H:Hp}:∀{bs:Z Bx} {vs:Z V} {ds:Z Dt},pJ K H bs vs->K3 bs=U ds->aK K H ds vs
 |_,_,_,.nil,e=>by cases e;exact aK.nil
 |b::bs,_,_,.cons h t,e=>by
  cases b with
  |z d=>
   simp only[K3]at e;obtain⟨a,e1,e2⟩:=AT e;cases e2;exact aK.cons h (Fq t e1)
  |_=>cases e
theorem Ft:∀{bs:Z Bx} {ds:Z Dt},K3 bs=U ds->ds.length=bs.length
 |[],_,e=>by cases e;rfl
 |.z d::r,_,e=>by
  simp only[K3]at e;obtain⟨a,e1,e2⟩:=AT e;cases e2;simp[Ft e1]
 |.l _::_,_,e=>by cases e
 |.o _::_,_,e=>by cases e
 |.n _::_,_,e=>by cases e
 |.m _ _::_,_,e=>by cases e
def qR(bs:Z Bx):O Bx:=if bs.length<=1000 then(K3 bs).bind λds=>U (.z (.tup ds))else Y
def gY(bs:Z Bx):O Bx:=if bs.length<=1000 then(K3 bs).bind λds=>U (.o ds)else Y
theorem bI{p:A1}{o:HO}(h:H p=Y):AV H (B0 H p o):=λb u e=>by rw[aP (bH e h)];exact e
theorem ML(h:n<=1000):n<=AA:=ZH h (by decide)
theorem qG{x1}(h:Vb X es fs):QV X (.Tuple es x1 pos) (cg qR fs):=⟨have h:=h.run;Ii (We h) λσ H Q q=>by
 obtain⟨H0,ρ,c,E,e,q⟩:=q;obtain⟨bs,b,e⟩:=AT e;refine⟨H0,ρ,bs,E,b,λvs H1 d g=>?_⟩;unfold qR at e;split at e
 ·rename_i f;obtain⟨ds,e1,e⟩:=AT e;cases e;have a:=Fq g e1;refine⟨ML (by rw[a.length,Ft e1];exact f),λp hp=>q _ _ (d.trans (bI hp)) trivial ?_⟩;simp only[bh,AW];exact⟨p,vs,rfl,.inl (.inl aU),a.kp (.of (bI hp))⟩
 ·cases e⟩
theorem cP(h:Vb X es fs):QV X (.List es pos) (cg gY fs):=⟨have h:=h.run;Ii (RT h) λσ H Q q=>by
 obtain⟨H0,ρ,c,E,e,q⟩:=q;obtain⟨bs,f,e⟩:=AT e;refine⟨H0,ρ,bs,E,f,λvs H1 b i=>?_⟩;unfold gY at e;split at e
 ·rename_i g;obtain⟨ds,e1,e⟩:=AT e;cases e;have d:=Fq i e1;refine⟨ML (by rw[d.length,Ft e1];exact g),λp hp=>q _ _ (b.trans (bI hp)) (λa ea=>by cases ea;exact b.free hp) ?_⟩;exact⟨p,vs,rfl,aU,d.kp (.of (bI hp))⟩
 ·cases e⟩
theorem bK{id:String}{g:Z Bx->O Bx}{p:Pos}(f:nC X (.builtin id) g)(d:Gl X x)(c:X.mg x=Y)(i:AH x=U (.builtin id))(a:Vb X (e::es) fs)(j:x ≠ "__name__":=by decide)(b:(x==("__debug__":AJ))=false:=by decide)(he:A9 (e::es) X.env=(false,eval e X.env)::A9 es X.env:=by rfl)(h:(AD pos (A9 es X.env)).any (·.1)=false:=by rfl):QV X (.Call (.Name x p) (e::es) [] pos) (cg g fs):=⟨have a:=a.run;Ii (gq f d c i a j b he h) DS⟩
theorem gA{T:String}{g:Z Bx->O Bx}{p:Pos}(f:nC X (.type T) g)(d:Gl X x)(c:X.mg x=Y)(i:AH x=U (.type T))(a:Vb X (e::es) fs)(j:x ≠ "__name__":=by decide)(b:(x==("__debug__":AJ))=false:=by decide)(he:A9 (e::es) X.env=(false,eval e X.env)::A9 es X.env:=by rfl)(h:(AD pos (A9 es X.env)).any (·.1)=false:=by rfl):QV X (.Call (.Name x p) (e::es) [] pos) (cg g fs):=⟨have a:=a.run;Ii (Jw f d c i a j b he h) DS⟩
end
inductive An where
 |nx (ρ:Ev)|rt (b:Bx)|bk (ρ:Ev)|ct (ρ:Ev)
def R5(K:B1)(H0:Hp)(D:Be):An->Prop
 |.nx ρ=>∀ σ H,bM K H0 H σ ρ->D.nx σ H
 |.rt b=>∀v H,AV H0 H->Nw H0 b v->bh K H b v->D.rt v H
 |.bk ρ=>∀ σ H,bM K H0 H σ ρ->D.bk σ H
 |.ct ρ=>∀ σ H,bM K H0 H σ ρ->D.ct σ H
def tG(K:B1)(g:Ev->O An):TS:=λD σ H=>∃H0 ρ r,bM K H0 H σ ρ/\g ρ=U r/\R5 K H0 D r
def F'(X:Cx)(st:AB)(g:Ev->O An):Prop:=PS X st (tG X.K g)
structure K4 (X:Cx) (st:Stmt) (g:Ev->Option An):Prop where
 run:F' X st g
def RB(X:Cx)(st:Z AB)(g:Ev->O An):Prop:=Cy X st (tG X.K g)
structure R6 (X:Cx) (st:List Stmt) (g:Ev->Option An):Prop where
 run:RB X st g
def aD(g1 g2:Ev->O An):Ev->O An:=λρ=>(g1 ρ).bind λr=>match r with
 |.nx a=>g2 a
 |r=>U r
section
variable{a b:Expr}{fa fb fc f:Ev->O Bx}{fs:Ev->O (Z Bx)}{AS:Z AB}{g g1 g2:Ev->O An}
theorem aO  :R6 X [] (λρ=>U (.nx ρ)):=⟨GV iS λD σ H h=>by
 obtain⟨H0,ρ,r,E,e,q⟩:=h;cases e;exact q σ H E⟩
theorem au(h1:K4 X st g1)(h2:R6 X AS g2):R6 X (st::AS) (aD g1 g2):=⟨have h1:=h1.run;have h2:=h2.run;GV (qP h1 h2) λD σ H h=>by
 obtain⟨H0,ρ,r,E,e,q⟩:=h;obtain⟨c,e1,e⟩:=AT e;refine⟨H0,ρ,c,E,e1,?_⟩;cases c with
 |nx a=>exact λσ' H' d=>⟨H0,a,r,d,e,q⟩
 |rt b=>cases e;exact q
 |bk a=>cases e;exact q
 |ct a=>cases e;exact q⟩
def Zj:Bx->O An
 |.l _=>Y
 |.n _=>Y
 |b=>U (.rt b)
theorem c7(h:QV X e f):K4 X (.Return (U e) pos) (λρ=>(f ρ).bind Zj):=⟨have h:=h.run;Oi (Kr h) λD σ H h=>by
 obtain⟨H0,ρ,r,E,e,q⟩:=h;obtain⟨b,eb,e⟩:=AT e;refine⟨H0,ρ,b,E,eb,λv H1 a g c=>?_⟩;cases b with
 |l ds=>cases e
 |z d=>cases e;exact q v H1 (E.base.trans a) trivial c
 |o ds=>cases e;exact q v H1 (E.base.trans a) (g.old E.base) c
 |n ds=>cases e
 |m ds _=>cases e;exact q v H1 (E.base.trans a) (g.old E.base) c⟩
def CG(i:Nat)(ρ:Ev):O An:=match ρ[i]? with
 |some (U b)=>Zj b
 |_=>Y
theorem yC(i:Nat){p:Pos}(f:X.N[i]?=U x:=by rfl)(s:U3 X.env.scope x:=by first|exact JS rfl|exact QY (JS S)|exact QY (QY S))(j:(x==("__debug__":AJ))=false:=by decide)(g:(x==("__classdict__":AJ))=false:=by decide):K4 X (.Return (U (.Name x p)) pos) (CG i):=⟨Oi (Kr (rH f s j g)) λD σ H h=>by
 obtain⟨H0,ρ,r,E,e,q⟩:=h;unfold CG at e;split at e
 ·rename_i b hb;obtain⟨v,e1,c⟩:=E.val i b hb;refine⟨v,e1,?_⟩;cases b with
  |l ds=>cases e
  |z d=>cases e;exact q v H E.base trivial c
  |o ds=>cases e;exact q v H E.base (λa ea=>E.new i _ a hb S (by rw[e1,ea])) c
  |n ds=>cases e
  |m ds _=>cases e;exact q v H E.base (λa ea=>E.new i _ a hb S (by rw[e1,ea])) c
 ·cases e⟩
def xH(p:Ev->O Bool)(g1 g2:Ev->O An):Ev->O An:=λρ=>(p ρ).bind λk=>if k=true then g1 ρ else g2 ρ
theorem gZ{p:Ev->O Bool}{u v:Z AB}(a:QB X c p)(b:R6 X u g1)(hb:R6 X v g2):K4 X (.If c u v pos) (xH p g1 g2):=⟨have a:=a.run;have b:=b.run;have hb:=hb.run;Oi (LZ a b hb) λD σ H h=>by
 obtain⟨H0,ρ,r,E,e,q⟩:=h;obtain⟨k,ek,e⟩:=AT e;refine⟨H0,ρ,k,E,ek,λH1 d=>?_⟩;cases k with
 |true=>rw[zh rfl]at e ⊢;exact⟨H0,ρ,r,E.grow d,e,q⟩
 |false=>rw[zC ZI]at e ⊢;exact⟨H0,ρ,r,E.grow d,e,q⟩⟩
theorem BB{l:Z α}{x y:α}(h:(l.set i x)[j]?=U y):(j=i/\y=x/\i<l.length)\/(j≠i/\l[j]?=U y):=by
 rw[KO]at h;by_cases e:i=j
 ·subst e;rw[zh rfl]at h;split at h
  ·cases h;exact .inl ⟨rfl,rfl,by assumption⟩
  ·cases h
 ·rw[zC e]at h;exact .inr ⟨λz=>e z.symm,h⟩
theorem Fv{l:Z α}(x:α)(h:i<l.length):(l.set i x)[i]?=U x:=by
 rw[KO,zh rfl,zh h]
theorem Fw{l:Z α}(x:α)(h:j≠i):(l.set i x)[j]?=l[j]?:=by
 rw[KO,zC (jI h)]
theorem bM.set{H1:Hp}{ρ:Ev}{b:Bx}(E:bM K H0 H σ ρ)(s:AV H H1)(r:bh K H1 b v)(w:uO b=true\/loose b=false)(n:Nw H b v):bM K H0 H1 (σ.set i (U v)) (ρ.set i (U b)):=by
 have C:=E.grow s;have D:∀(j:Nat) (g:Bx) (a:A1),ρ[j]?=U (U g)->loose g=true->σ[j]?=U (U (.ref a))->H a≠Y:=λj g a e1 e2 e3 z=>by
  obtain⟨I,h,x⟩:=E.val j g e1;rw[e3]at h;cases h;cases g with
  |z d=>cases e2
  |l ds=>
   obtain⟨A,vs,f,q,_⟩:=x;cases f;rcases q with q|⟨o,q⟩<;>(rw[z]at q;cases q)
  |o ds=>
   obtain⟨A,vs,f,q,_⟩:=x;cases f;rw[z]at q;cases q
  |n ds=>
   obtain⟨A,vs,f,q,_⟩:=x;cases f;rcases q with q|⟨o,q⟩<;>(rw[z]at q;cases q)
  |m ds _=>
   obtain⟨A,vs,f,q,_⟩:=x;cases f;rw[z]at q;cases q
 have y:uO b=true->∀a,v=.ref a->H a=Y:=λF=>by
  cases b with
  |o ds=>exact n
  |m ds _=>exact n
  |_=>cases F
 refine⟨by rw[km,km];exact E.len,λj g e=>?_,λj k c a g e1 t e2 e3 h f=>?_,C.base,λj c a e1 t e2=>?_⟩
 ·rcases BB e with⟨rfl,e',hi⟩|⟨u,e'⟩
  ·cases e';exact⟨v,Fv _ (by rw[E.len];exact hi),r⟩
  ·rw[Fw _ u];exact C.val j g e'
 ·rcases BB e1 with⟨rfl,e',hi⟩|⟨u,e'⟩
  ·cases e';rw[Fv _ (by rw[E.len];exact hi)]at e2;cases e2;rcases BB e3 with⟨rfl,p,_⟩|⟨B,p⟩
   ·rfl
   ·rw[Fw _ B]at f;exact absurd (y t a S) (D k g a p h f)
  ·rw[Fw _ u]at e2;rcases BB e3 with⟨rfl,p,hi⟩|⟨B,p⟩
   ·cases p;rw[Fv _ (by rw[E.len];exact hi)]at f;cases f;have G:loose c=true:=by cases c<;>first|rfl|cases t
    rcases w with w|w
    ·exact absurd (y w a S) (D j _ a e' G e2)
    ·rw[w]at h;cases h
   ·rw[Fw _ B]at f;exact E.own j k c a g e' t e2 p h f
 ·rcases BB e1 with⟨rfl,e',hi⟩|⟨u,e'⟩
  ·cases e';rw[Fv _ (by rw[E.len];exact hi)]at e2;cases e2;exact E.base.free (y t a S)
  ·rw[Fw _ u]at e2;exact E.new j c a e' t e2
def WW(ρ:Ev)(i:Nat):Bx->O Ev
 |.l _=>Y
 |.n _=>Y
 |b=>U (ρ.set i (U b))
theorem Vd{H1:Hp}{ρ ρ':Ev}{b:Bx}(E:bM K H0 H σ ρ)(s:AV H H1)(r:bh K H1 b v)(n:Nw H b v)(e:WW ρ i b=U ρ'):bM K H0 H1 (σ.set i (U v)) ρ':=by
 cases b with
 |l ds=>cases e
 |z d=>cases e;exact E.set s r (.inr S) n
 |o d=>cases e;exact E.set s r (.inl S) n
 |n ds=>cases e
 |m d _=>cases e;exact E.set s r (.inl S) n
theorem aX(i:Nat){p:Pos}(d:X.N.Nodup)(he:QV X e f)(hi:X.N[i]?=U x:=by rfl)(hx:D7 X.env.scope x:=by first|exact JS rfl|exact QY S)(hs:swapsWith e (U (.Name x p)) pos.line X.env=pure false:=by rfl)(c:X.fn x=true\/X.env.scope.names.lookup x=U .local:=by first|exact .inl rfl|exact .inr S):K4 X (.Assign [.Name x p] e pos) (λρ=>(f ρ).bind λb=>(WW ρ i b).bind λρ'=>U (.nx ρ')):=⟨have he:=he.run;Oi (zV d hi hx he hs c) λD σ H h=>by
 obtain⟨H0,ρ,r,E,e,q⟩:=h;obtain⟨b,eb,e⟩:=AT e;obtain⟨ρ',j,e⟩:=AT e;cases e;exact⟨H0,ρ,b,E,eb,λv H1 a l g=>q _ _ (Vd E a g l j)⟩⟩
def Lo(σ:L2.St)(ρ:Ev)(σ':L2.St)(ρ':Ev):Prop:=∀(j:Nat) b,loose b=true->ρ'[j]?=U (U b)->ρ[j]?=U (U b)/\σ'[j]?=σ[j]?
theorem Lo.refl{ρ:Ev}:Lo σ ρ σ ρ:=λ_ _ _ e=>⟨e,rfl⟩
theorem Lo.trans{σ g h:L2.St}{ρ d f:Ev}(a:Lo σ ρ g d)(b:Lo g d h f):Lo σ ρ h f:=λj c l e=>by
 obtain⟨e1,e2⟩:=b j c l e;obtain⟨e3,i⟩:=a j c l e1;exact⟨e3,e2.trans i⟩
theorem Lo.set{ρ:Ev}(i:Nat)(v:V)(d:Dt):Lo σ ρ (σ.set i (U v)) (ρ.set i (U (.z d))):=λj b l e=>by
 rcases BB e with⟨rfl,e',_⟩|⟨a,e'⟩
 ·cases e';cases l
 ·exact⟨e',Fw _ a⟩
def N4(K:B1)(g:Dt->Ev->O Ev):TG:=λv σ H Q=>∃H0 ρ d a,bM K H0 H σ ρ/\AW K H d v/\g d ρ=U a/\∀ σ',bM K H0 H σ' a->Lo σ ρ σ' a->Q σ' H
def ES(X:Cx)(t:Expr)(g:Dt->Ev->O Ev):Prop:=PG X t (N4 X.K g)
structure D4 (X:Cx) (t:Expr) (g:Dt->Ev->Option Ev):Prop where
 run:ES X t g
theorem bf(i:Nat)(f:X.N.Nodup)(hi:X.N[i]?=U x:=by rfl)(hx:D7 X.env.scope x:=by first|exact JS rfl|exact QY S)(c:X.fn x=true\/X.env.scope.names.lookup x=U .local:=by first|exact .inl rfl|exact .inr S):D4 X (.Name x pos) (λd ρ=>U (ρ.set i (U (.z d)))):=⟨λAN s σ H v u Q I r h=>by
 obtain⟨H0,ρ,d,g,E,a,e,q⟩:=h;cases e;exact U4 f hi hx c AN s σ H v u Q I r (q _ (E.set (b:=.z d) (AV.refl H) a (.inr S) trivial) (Lo.set i v d))⟩
def UU(K:B1)(g:Z Dt->Ev->O Ev):DI:=λvs σ H Q=>∃H0 ρ ds a,bM K H0 H σ ρ/\aK K H ds vs/\g ds ρ=U a/\∀ σ',bM K H0 H σ' a->Lo σ ρ σ' a->Q σ' H
def eR(X:Cx)(t:Z Expr)(g:Z Dt->Ev->O Ev):Prop:=L2.RB X t (UU X.K g)
structure FM (X:Cx) (t:List Expr) (g:List Dt->Ev->Option Ev):Prop where
 run:eR X t g
def Bl:Z Dt->Ev->O Ev
 |[],ρ=>U ρ
 |_,_=>Y
def dW(g:Dt->Ev->O Ev)(gs:Z Dt->Ev->O Ev):Z Dt->Ev->O Ev
 |d::ds,ρ=>(g d ρ).bind (gs ds)
 |_,_=>Y
theorem yD  :FM X [] Bl:=⟨λAN s σ H vs us Q I r h=>by
 obtain⟨H0,ρ,ds,b,E,a,e,q⟩:=h;cases ds with
 |nil=>cases e;unfold aK at a;exact g0 AN s σ H vs us Q I r ⟨a,q _ E Lo.refl⟩
 |cons d ds=>cases e⟩
theorem dO{t:Expr}{ts:Z Expr}{gt:Dt->Ev->O Ev}{gs:Z Dt->Ev->O Ev}(h1:D4 X t gt)(h2:FM X ts gs)(hs:(assignEach (t::ts) X.env).map (·.2)=assign t X.env::(assignEach ts X.env).map (·.2):=by rfl):FM X (t::ts) (dW gt gs):=⟨have h1:=h1.run;have h2:=h2.run;λAN s σ H vs us Q I r h=>by
 obtain⟨H0,ρ,ds,l,E,b,e,q⟩:=h;cases ds with
 |nil=>cases e
 |cons d ds=>
  unfold aK at b;obtain⟨v,c,rfl,f,m⟩:=b;simp only[dW]at e;obtain⟨a,e1,e⟩:=AT e;exact YH h1 h2 hs AN s σ H _ us Q I r ⟨v,c,rfl,H0,ρ,d,a,E,f,e1,λp g i=>⟨H0,a,ds,l,g,m,e,λn j o=>q n j (i.trans o)⟩⟩⟩
def wO(n:Nat)(gs:Z Dt->Ev->O Ev):Dt->Ev->O Ev
 |.tup ds,ρ=>if ds.length=n then gs ds ρ else Y
 |_,_=>Y
theorem Fy{ts:Z Expr}{k:Nat}{gs:Z Dt->Ev->O Ev}(l:X.calm=true)(h:FM X ts gs)(o:(assignEach ts X.env).length=n:=by rfl)(f:(assignEach ts X.env).findIdx? (·.1)=Y:=by rfl):D4 X (.Tuple ts k pos) (wO n gs):=⟨have h:=h.run;λAN s σ H v u Q I r i=>by
 obtain⟨H0,ρ,d,m,E,b,e,q⟩:=i;cases d with
 |tup ds=>
  simp only[wO]at e;split at e
  ·rename_i j;unfold AW at b;obtain⟨a,vs,rfl,g,c⟩:=b;exact cz l h o f AN s σ H _ u Q I r ⟨a,vs,rfl,g,by rw[c.length];exact j,H0,ρ,ds,m,E,c,e,q⟩
  ·cases e
 |_=>cases e⟩
theorem XE{gt:Dt->Ev->O Ev}(he:QV X e f)(a:D4 X tg gt)(hs:swapsWithSole [tg] e pos.line X.env=pure false:=by rfl)(g:swappedStores [tg] e X.env=pure Y:=by rfl)(h1:(assignEach [tg] X.env).map (·.2)=[assign tg X.env]:=by rfl):K4 X (.Assign [tg] e pos) (λρ=>(f ρ).bind λb=>match b with|.z d=>(gt d ρ).bind λρ'=>U (.nx ρ')|_=>Y):=⟨have he:=he.run;have a:=a.run;Oi (bi he a hs g h1) λD σ H h=>by
 obtain⟨H0,ρ,r,E,e,q⟩:=h;obtain⟨b,eb,e⟩:=AT e;refine⟨H0,ρ,b,E,eb,λv H1 c m i=>?_⟩;cases b with
 |z d=>
  obtain⟨ρ',l,e⟩:=AT e;cases e;exact⟨H0,ρ,d,ρ',E.grow c,i,l,λσ' j _=>q _ _ j⟩
 |_=>cases e⟩
def Fs(i j:Nat)(ρ:Ev):Z Bx->O An
 |[.z d,.z d']=>U (.nx ((ρ.set i (U (.z d))).set j (U (.z d'))))
 |_=>Y
theorem R7(i j:Nat){px py pt:Pos}{kt k2 pt2}(u:X.calm=true)(l:X.N.Nodup)(c:Vb X [a,b] fs)(hi:X.N[i]?=U x:=by rfl)(s:X.N[j]?=U y:=by rfl)(m:i≠j:=by decide)(hx:X.env.scope.names.lookup x=U .local:=by rfl)(n:X.env.scope.names.lookup y=U .local:=by rfl)(g:swappedStores [.Tuple [.Name x px,.Name y py] kt pt] (.Tuple [a,b] k2 pt2) X.env=pure (U [x,y]):=by rfl)(hs:swapsWithSole [.Tuple [.Name x px,.Name y py] kt pt] (.Tuple [a,b] k2 pt2) pos.line X.env=pure false:=by rfl):K4 X (.Assign [.Tuple [.Name x px,.Name y py] kt pt] (.Tuple [a,b] k2 pt2) pos) (λρ=>(fs ρ).bind (Fs i j ρ)):=⟨have c:=c.run;Oi (Sz u l hi s m hx n c g hs) λD σ H h=>by
 obtain⟨H0,ρ,r,E,e,q⟩:=h;obtain⟨bs,eb,e⟩:=AT e;refine⟨H0,ρ,bs,E,eb,λvs H1 f o=>?_⟩;unfold Fs at e;split at e
 ·rename_i d v;cases e;cases o with
  |cons p t=>
   cases t with
   |cons p' w=>
    cases w;refine⟨_,_,rfl,q _ _ ?_⟩;exact((E.grow f).set (b:=.z d) (AV.refl H1) p (.inr S) trivial).set (b:=.z v) (AV.refl H1) p' (.inr S) trivial
 ·cases e⟩
def Zk(ρ:Ev)(i:Nat):Bx->O An
 |.z d=>match ρ[i]? with
  |some (U (.o ds))=>if ds.length<AA then U (.nx (ρ.set i (U (.o (ds++[d])))))else Y
  |_=>Y
 |_=>Y
theorem bM.af7{ρ:Ev}{c0 c1:Bx}{a:A1}{u:HO}(E:bM K H0 H σ ρ)(h:ρ[i]?=U (U c0))(t:uO c0=true)(hs:σ[i]?=U (U (.ref a)))(k:Kp H (B0 H a u))(r:bh K (B0 H a u) c1 (.ref a)):
  bM K H0 (B0 H a u) σ (ρ.set i (U c1)):=by
 have hi:i<ρ.length:=(List.getElem?_eq_some_iff.mp h).1;have hb:H0 a=Y:=E.new i c0 a h t hs;have lo:∀c,uO c=true->loose c=true:=λc N=>by cases c<;>first|rfl|cases N
 refine⟨by rw[km];exact E.len,λj x e=>?_,λj D c f x e1 y e2 e3 L G=>?_,λc o e=>?_,λj c f e1 y e2=>?_⟩
 ·rcases BB e with⟨rfl,e',_⟩|⟨B,e'⟩
  ·cases e';exact⟨_,hs,r⟩
  ·obtain⟨v,e1,w⟩:=E.val j x e';refine⟨v,e1,?_⟩;have A:∀f,v=.ref f->loose x=true->f≠a:=λf ev J z=>by
    subst z;exact B (E.own i j c0 _ _ h t hs e' J (by rw[e1,ev])).symm
   cases x with
   |z d=>exact AW.kp k w
   |l C=>
    obtain⟨f,s,rfl,q,p⟩:=w;refine⟨f,s,rfl,?_,p.kp k⟩;have g:=A f S rfl;rcases q with q|⟨o,q⟩
    ·exact .inl (by rw[aP g];exact q)
    ·exact .inr ⟨o,by rw[aP g];exact q⟩
   |o C=>
    obtain⟨f,s,rfl,q,p⟩:=w;have g:=A f S rfl;exact⟨f,s,rfl,by rw[aP g];exact q,p.kp k⟩
   |n C=>
    obtain⟨f,s,rfl,q,p⟩:=w;refine⟨f,s,rfl,?_,p.kp k⟩;have g:=A f S rfl;rcases q with q|⟨o,q⟩
    ·exact .inl (by rw[aP g];exact q)
    ·exact .inr ⟨o,by rw[aP g];exact q⟩
   |m C=>
    obtain⟨f,s,rfl,q,p⟩:=w;have g:=A f S rfl;exact⟨f,s,rfl,by rw[aP g];exact q,p.1.kp k,p.2⟩
 ·have back:∀(m:Nat) (b:Bx),(ρ.set i (U c1))[m]?=U (U b)->loose b=true->∃b0,ρ[m]?=U (U b0)/\loose b0=true/\(uO b=true->uO b0=true):=λm b e l=>by
   rcases BB e with⟨rfl,e',_⟩|⟨B,e'⟩
   ·exact⟨_,h,lo _ t,λ_=>t⟩
   ·exact⟨b,e',l,λz=>z⟩
  obtain⟨b0,q1,q2,I⟩:=back j _ e1 (lo _ y);obtain⟨b1,F,M,_⟩:=back D _ e3 L;exact E.own j D b0 f b1 q1 (I y) e2 F M G
 ·rw[aP (bH e hb)];exact E.base c o e
 ·rcases BB e1 with⟨rfl,e',_⟩|⟨B,e'⟩
  ·exact E.new _ c0 f h t e2
  ·exact E.new j c f e' y e2
theorem bM.R0{ρ:Ev}{ds es:Z Dt}{a:A1}{us:Z V}(E:bM K H0 H σ ρ)(h:ρ[i]?=U (U (.o ds)))(hs:σ[i]?=U (U (.ref a)))(b:H a=U (.lst vs))(r:aK K H es us):
  bM K H0 (B0 H a (.lst us)) σ (ρ.set i (U (.o es))):=E.af7 h S hs (.lst b) ⟨a,us,rfl,aU,r.kp (.lst b)⟩
theorem oW(i:Nat){p:Pos}(he:QV X e f)(n:X.N[i]?=U x:=by rfl)(C:U3 X.env.scope x:=by first|exact JS rfl|exact QY (JS S)|exact QY (QY S))(s:(x==("__debug__":AJ))=false:=by decide)(o:(x==("__classdict__":AJ))=false:=by decide)(j:A9 [e] X.env=[(false,eval e X.env)]:=by rfl)(B:attributeBase (.Name x p) "append" X.env (eval (.Name x p) X.env)=eval (.Name x p) X.env:=by rfl)(G:((AD cpos (A9 [e] X.env)).all (λx=>!x.1)&&(backToKw cpos (keywordEach [] X.env)).all (λx=>x.1.isSome)&&decide ([e].length+([]:Z AC).length+(if([]:Z AC).isEmpty then 0 else 1)<30))=true:=by rfl)(A:(apos.endLine==cpos.line)=true:=by rfl)(hs:swapsWith (.Call (.Attribute (.Name x p) "append" apos) [e] [] cpos) Y pos.line X.env=pure false:=by rfl):K4 X (.Expr (.Call (.Attribute (.Name x p) "append" apos) [e] [] cpos) pos) (λρ=>(f ρ).bind (Zk ρ i)):=⟨have he:=he.run;Oi (yj (U8 Ya PySem.F.slot_list_append PySem.F.type_list_append Jy (rH (i:=i) n C s o) (bw he d7 (by rw[j]<;>rfl)) B G A (by rw[j]<;>rfl) S) hs) λD σ H h=>by
  obtain⟨H0,ρ,r,E,e,q⟩:=h;obtain⟨b,eb,e⟩:=AT e;cases b with
  |z d=>
   simp only[Zk]at e;split at e
   ·rename_i ds m;split at e
    ·rename_i t;cases e;obtain⟨v,e1,a,vs,rfl,g,l⟩:=E.val i _ m;refine⟨_,e1,.inl ⟨rfl,vs,.inl (.inl g)⟩,H0,ρ,_,E,eb,λu H1 c I w=>?_⟩;have y:=E.grow c;refine⟨a,vs,u,rfl,rfl,c _ _ g,by rw[l.length];exact t,q _ _ ?_⟩;exact y.R0 m e1 (c _ _ g) ((l.kp (.of c)).append (aK.cons w aK.nil))
    ·cases e
   ·cases e
  |_=>cases e⟩
end
def HZ(x:AJ):It:=⟨λi _=>i<x.cps.size,λi H v H'=>H'=H/\∃c,x.cps[i]?=U c/\v=.str ⟨#[c]⟩,λi _=>x.cps.size<=i⟩
def hW(h:A6)(it:A1)(x:AJ)(i:Nat):Prop:=∃t,h.IsStrIter it "str_ascii_iterator" x t i\/h.IsStrIter it "str_iterator" x t i
theorem Oq(it:A1)(x:AJ):C8 P w K tg (HZ x) [it] it (λi h=>hW h it x i) where
 mem:=by simp
 obj:=λi h st b hb=>by
  have e:b=it:=by simpa using hb
  subst e;obtain⟨t,⟨o,e,c,d⟩|⟨o,e,c,d⟩⟩:=st
  ·exact⟨o,e,λv z=>by rw[d]at z;cases z⟩
  ·exact⟨o,e,λv z=>by rw[d]at z;cases z⟩
 keep:=λi h h' st k=>by
  obtain⟨t,⟨o,e,c⟩|⟨o,e,c⟩⟩:=st
  ·exact⟨t,.inl ⟨o,k it (by simp) o e,c⟩⟩
  ·exact⟨t,.inr ⟨o,k it (by simp) o e,c⟩⟩
 item:=by
  intro X q m p u i AN s σ H E I l st n;subst q m p;obtain⟨f0,f1,f2,f,j,g⟩:=l it (by simp);have hi:i<x.cps.size:=n;have hx:x.cps[i]?=U x.cps[i]:=by simp[hi]
  obtain⟨t,st|st⟩:=st
  ·refine wpAny_pyNext_ascii_item st hx λh' a A=>?_;have y:L2.AU X AN σ H { s with heap:=h',toks:=s.toks+1 }:=I.turned (λb o hb e=>(A.2 b hb).trans e) f0 f1 f j g;obtain⟨o,e,c,d⟩:=id a;exact⟨_,rfl,Jq (s:={ s with heap:=h',toks:=s.toks+1 }) e c d (by decide) ⟨.str ⟨#[x.cps[i]]⟩,H,y,⟨_,rfl⟩,⟨rfl,_,hx,rfl⟩,⟨t,.inl a⟩,λb hb=>(l b hb).1⟩⟩
  ·refine wpAny_pyNext_wide_item st hx λh' a A=>?_;have y:L2.AU X AN σ H { s with heap:=h',toks:=s.toks+1 }:=I.turned (λb o hb e=>(A.2 b hb).trans e) f0 f1 f j g;obtain⟨o,e,c,d⟩:=id a;exact⟨_,rfl,Jq (s:={ s with heap:=h',toks:=s.toks+1 }) e c d (by decide) ⟨.str ⟨#[x.cps[i]]⟩,H,y,⟨_,rfl⟩,⟨rfl,_,hx,rfl⟩,⟨t,.inr a⟩,λb hb=>(l b hb).1⟩⟩
 done:=by
  intro X q m p u i AN s σ H E I l st n;subst q m p;obtain⟨f0,f1,f2,f,j,g⟩:=l it (by simp);have hx:x.cps[i]?=Y:=by have:x.cps.size<=i:=n;simp[this]
  obtain⟨t,st|st⟩:=st
  ·exact wpAny_pyNext_ascii_end (I.ok.hd u) st hx λh' eb=>⟨rfl,I.turned (t':=s.toks) (λb o hb e=>eb b o hb e) f0 f1 f j g⟩
  ·exact wpAny_pyNext_wide_end (I.ok.hd u) st hx λh' eb=>⟨rfl,I.turned (t':=s.toks) (λb o hb e=>eb b o hb e) f0 f1 f j g⟩
 self:=λ_ _ _ _ _ st h=>by
  obtain⟨t,st|st⟩:=st
  ·exact wpAny_pyIter_striter_ascii st h
  ·exact wpAny_pyIter_striter_wide st h
def WC(K:B1)(tl:TE):TI:=λσ H R=>tl σ H λx H1=>(∃a,x=.ref a/\(∃xs,qO K H1 a xs)/\R (GE K a) H1)\/(∃a,x=.ref a/\(∃xs,yh K H1 a xs)/\R (HR K a) H1)\/∃y,x=.str y/\R (HZ y) H1
theorem R8{l:Expr}{tl:TE}(g:PE X l tl):PI X tg l (WC X.K tl):=by
 intro AN s σ H R I h;refine gM (g AN s σ H _ I h) λv s1 ⟨x,H1,I1,r1,q1⟩=>?_;have c:∀(o:AE) (b:A1),b∈[s1.heap.objs.size]->qD X AN H1 b:=λo b hb=>by
  have e:b=s1.heap.objs.size:=by simpa using hb
  subst e;exact I1.N8 (zg _) (I1.hok.fresh (zg _))
 rcases q1 with⟨a,e,⟨xs,d⟩,q⟩|⟨a,e,⟨xs,d⟩,q⟩|⟨y,e,q⟩
 ·subst e;cases r1;obtain⟨AQ,i,p,j⟩:=I1.list d;refine yY p.isList ?_;exact⟨s1.heap.objs.size,[s1.heap.objs.size],_,_,H1,rfl,I1.kept (t':=s1.toks) λb o e=>zd _ e,Wt a _,⟨_,zv _ rfl,rfl,rfl⟩,c default,q⟩
 ·subst e;cases r1;obtain⟨AQ,i,p,j⟩:=I1.tuple d;refine wpAny_pyIter_tuple (show s1.heap.IsTuple a AQ.toArray from p) ?_;exact⟨s1.heap.objs.size,[s1.heap.objs.size],_,_,H1,rfl,I1.kept (t':=s1.toks) λb o e=>zd _ e,RD a _,⟨_,zv _ rfl,rfl,rfl⟩,c default,q⟩
 ·subst e;obtain⟨t,rfl⟩:=r1;cases f:y.cps.all (· < 128)with
  |true=>
   refine wpAny_pyIter_ascii f ?_;exact⟨s1.heap.objs.size,[s1.heap.objs.size],_,_,H1,rfl,I1.kept (t':=s1.toks) λb o e=>zd _ e,Oq _ y,⟨t,.inl ⟨_,zv _ rfl,rfl,rfl⟩⟩,c default,q⟩
  |false=>
   refine wpAny_pyIter_wide f ?_;exact⟨s1.heap.objs.size,[s1.heap.objs.size],_,_,H1,rfl,I1.kept (t':=s1.toks) λb o e=>zd _ e,Oq _ y,⟨t,.inr ⟨_,zv _ rfl,rfl,rfl⟩⟩,c default,q⟩
def B4(K:B1)(J:It)(ds:Z Dt)(Hs:Hp):Prop:=∀(i:Nat) (H:Hp),AV Hs H →
 (∀d,ds[i]?=U d->J.go i H/\∀x H',J.yld i H x H'->AV H H'/\AW K H' d x)/\(ds.length<=i->J.stop i H)
theorem B4.of{ds:Z Dt}(h:∀(i:Nat) (H:Hp),AV Hs H →
  (∀d,ds[i]?=U d->J.go i H/\∀x H',J.yld i H x H'->H'=H/\AW K H d x)/\(ds.length<=i->J.stop i H)):B4 K J ds Hs:=λi H s=>
 ⟨λd e=>⟨((h i H s).1 d e).1,λx H' y=>by
  obtain⟨rfl,r⟩:=((h i H s).1 d e).2 x H' y;exact⟨AV.refl _,r⟩⟩,(h i H s).2⟩
def BH(x:AJ):Z Dt:=x.cps.toList.map λc=>.str ⟨#[c]⟩
theorem B4.list{ds:Z Dt}(h:qO K Hs a vs)(r:aK K Hs ds vs):B4 K (GE K a) ds Hs:=.of λi H s=>by
 have h':=s.seq h;have b:=r.kp (.of s);refine⟨λd e=>?_,λe=>⟨vs,h',by rw[r.length];exact e⟩⟩;obtain⟨v,ev,c⟩:=b.get e;refine⟨⟨vs,v,h',ev⟩,λx H' y=>?_⟩;obtain⟨y1,y2⟩:=y;have:=y2 vs h';rw[ev]at this;cases this;exact⟨y1,c⟩
theorem B4.tup{ds:Z Dt}(h:yh K Hs a vs)(r:aK K Hs ds vs):B4 K (HR K a) ds Hs:=.of λi H s=>by
 have h':=(Kp.of s).sqT h;have b:=r.kp (.of s);refine⟨λd e=>?_,λe=>⟨vs,h',by rw[r.length];exact e⟩⟩;obtain⟨v,ev,c⟩:=b.get e;refine⟨⟨vs,v,h',ev⟩,λx H' y=>?_⟩;obtain⟨y1,y2⟩:=y;have:=y2 vs h';rw[ev]at this;cases this;exact⟨y1,c⟩
theorem B4.str(x:AJ):B4 K (HZ x) (BH x) Hs:=.of λi H s=>by
 refine⟨λd e=>?_,λe=>?_⟩
 ·unfold BH at e;rw[ZN]at e;cases h:x.cps.toList[i]? with
  |none=>rw[h]at e;cases e
  |some c=>
   rw[h]at e;cases e;have b:x.cps[i]?=U c:=by simpa using h
   have hi:i<x.cps.size:=by
    have:=(List.getElem?_eq_some_iff.mp h).1;simpa using this
   refine⟨hi,λv H' y=>?_⟩;obtain⟨y1,f,a,rfl⟩:=y;rw[b]at a;cases a;refine⟨y1,?_⟩;unfold AW;exact⟨rfl,by show(1:Nat)<=AA;decide⟩
 ·have:(BH x).length=x.cps.size:=by simp[BH]
  show x.cps.size<=i;omega
def CJ(lo:Int)(n:Nat):Z Dt:=(List.range n).map λk=>.int (lo+(k:Nat))
theorem B4.rng(lo:Int)(n:Nat):B4 K (GA lo n) (CJ lo n) Hs:=.of λi H s=>by
 refine⟨λd e=>?_,λe=>?_⟩
 ·unfold CJ at e;rw[ZN]at e;by_cases hi:i<n
  ·rw[List.getElem?_range hi]at e;cases e;refine⟨hi,λv H' y=>?_⟩;obtain⟨y1,y2⟩:=y;refine⟨y1,?_⟩;unfold AW;exact y2
  ·rw[QQ (by simp;omega)]at e;cases e
 ·have:(CJ lo n).length=n:=by simp[CJ]
  show n<=i;omega
def iF(K:B1)(f:Ev->O (Z Dt)):TI:=λσ H R=>∃H0 ρ ds,bM K H0 H σ ρ/\f ρ=U ds/\∀J H',AV H H' →
 (∀Hs,AV Hs H'->(∀a,H a=Y->Hs a=H' a)->(∀a o u,H' a=U (.HS o u)->Hs a=H' a)->(∀a vs,H' a=U (.tup vs)->Hs a=H' a)->B4 K J ds Hs)->R J H'
def LS(X:Cx)(tg iter:Expr)(f:Ev->O (Z Dt)):Prop:=PI X tg iter (iF X.K f)
structure FD (X:Cx) (tg iter:Expr) (f:Ev->Option (List Dt)):Prop where
 run:LS X tg iter f
def Fu:Bx->O (Z Dt)
 |.z (.lst ds)=>U ds
 |.z (.tup ds)=>U ds
 |.z (.str x)=>U (BH x)
 |.o ds=>U ds
 |_=>Y
section
variable{f:Ev->O Bx}{fs:Ev->O (Z Bx)}
mutual
theorem AW.part{K:B1}{H Hs:Hp}(b:∀a o u,H a=U (.HS o u)->Hs a=H a)(c:∀a vs,H a=U (.tup vs)->Hs a=H a):∀{d:Dt} {v:V},AW K H d v->AW K Hs d v
 |.non,_,h=>by simpa only[AW]using h
 |.bl _,_,h=>by simpa only[AW]using h
 |.int _,_,h=>by simpa only[AW]using h
 |.str _,_,h=>by simpa only[AW]using h
 |.tup ds,_,h=>by
  simp only[AW]at h ⊢;obtain⟨a,vs,e,q,r⟩:=h;refine⟨a,vs,e,?_,aK.part b c r⟩;rcases q with (q|⟨o,q⟩)|q
  ·exact .inl (.inl ((c _ _ q).trans q))
  ·exact .inl (.inr ⟨o,(b _ _ _ q).trans q⟩)
  ·exact .inr q
 |.lst ds,_,h=>by
  simp only[AW]at h ⊢;obtain⟨a,vs,e,q,r⟩:=h;refine⟨a,vs,e,?_,aK.part b c r⟩;rcases q with⟨o,q⟩|q
  ·exact .inl ⟨o,(b _ _ _ q).trans q⟩
  ·exact .inr q
 |.emp,_,h=>by
  simp only[AW]at h ⊢;obtain⟨a,o,e,q⟩:=h;exact⟨a,o,e,(b _ _ _ q).trans q⟩
theorem aK.part{K:B1}{H Hs:Hp}(c:∀a o u,H a=U (.HS o u)->Hs a=H a)(b:∀a vs,H a=U (.tup vs)->Hs a=H a):∀{ds:Z Dt} {vs:Z V},aK K H ds vs->aK K Hs ds vs
 |[],_,h=>by simpa only[aK]using h
 |d::ds,_,h=>by
  simp only[aK]at h ⊢;obtain⟨v,r,e,q,t⟩:=h;exact⟨v,r,e,AW.part c b q,aK.part c b t⟩
end
theorem DK(h:QV X e f):FD X tg e (λρ=>(f ρ).bind Fu):=⟨have h:=h.run;λAN s σ H R I q=>by
 refine R8 h AN s σ H R I ?_;obtain⟨H0,ρ,ds,E,e,q⟩:=q;obtain⟨b,eb,e⟩:=AT e;refine⟨H0,ρ,b,E,eb,λv H1 u y j=>?_⟩;cases b with
 |z d=>
  cases d with
  |tup t=>
   cases e;simp only[bh,AW]at j;obtain⟨a,vs,rfl,c,p⟩:=j;refine .inr (.inl ⟨a,rfl,⟨vs,c⟩,q _ _ u λHs hs w g i=>.tup ?_ (p.part g i)⟩);rcases c with (c|⟨o,c⟩)|c
   ·exact .inl (.inl ((i _ _ c).trans c))
   ·exact .inl (.inr ⟨o,(g _ _ _ c).trans c⟩)
   ·exact .inr c
  |lst t=>
   cases e;simp only[bh,AW]at j;obtain⟨a,vs,rfl,c,p⟩:=j;refine .inl ⟨a,rfl,⟨vs,c.sq⟩,q _ _ u λHs hs w g i=>.list ?_ (p.part g i)⟩;rcases c with⟨o,c⟩|c
   ·exact .inl (.inr ⟨o,(g _ _ _ c).trans c⟩)
   ·exact .inr c
  |str x=>
   cases e;simp only[bh,AW]at j;obtain⟨rfl,_⟩:=j;exact .inr (.inr ⟨x,rfl,q _ _ u λHs hs w g i=>.str x⟩)
  |_=>cases e
 |l t=>cases e
 |n t=>cases e
 |m t=>cases e
 |o t=>
  cases e;obtain⟨a,vs,rfl,c,p⟩:=j;refine .inl ⟨a,rfl,⟨vs,.inl (.inl c)⟩,q _ _ u λHs hs w g i=>.list (.inl (.inl ((w a (y a S)).trans c))) (p.part g i)⟩⟩
def II:Z Bx->O (Z Dt)
 |[.z (.int j)]=>if -(2 ^ 62)<=j/\j<2 ^ 62 then U (CJ 0 j.toNat)else Y
 |_=>Y
theorem lZ{p:Pos}(f:Gl X "range")(g:X.mg "range"=Y)(a:Vb X [e] fs)(hs:A9 [e] X.env=[(false,eval e X.env)]:=by rfl):FD X tg (.Call (.Name "range" p) [e] [] pos) (λρ=>(fs ρ).bind II):=⟨have a:=a.run;λAN s σ H R I q=>by
 refine Wu f g a hs AN s σ H R I ?_;obtain⟨H0,ρ,ds,E,e,q⟩:=q;obtain⟨bs,eb,e⟩:=AT e;refine⟨H0,ρ,bs,E,eb,λvs H1 c d=>?_⟩;unfold II at e;split at e
 ·rename_i j;split at e
  ·rename_i b;cases e;cases d with
   |cons p t=>
    cases t;simp only[bh,AW]at p;subst p;exact⟨j,rfl,b.1,b.2,q _ _ c λHs _ _ _ _=>.rng 0 _⟩
  ·cases e
 ·cases e⟩
def qH(gt:Dt->Ev->O Ev)(gb:Ev->O An):Z Dt->Ev->O An
 |[],ρ=>U (.nx ρ)
 |d::ds,ρ=>(gt d ρ).bind λc=>(gb c).bind λr=>match r with
  |.nx a=>qH gt gb ds a
  |.ct a=>qH gt gb ds a
  |.bk a=>U (.nx a)
  |.rt b=>U (.rt b)
noncomputable def gk(H:Hp)(σ:L2.St)(ρ:Ev):Hp:=λa=>@ite _ (∃(i:Nat) (c:Bx),ρ[i]?=U (U c)/\uO c=true/\σ[i]?=U (U (.ref a))) (Classical.propDecidable _) Y (H a)
theorem yE{ρ:Ev}:AV (gk H σ ρ) H:=λa o e=>by
 unfold gk at e;split at e
 ·cases e
 ·exact e
theorem bM.rebase{ρ:Ev}(E:bM K Hs H σ ρ)(s:AV H0 Hs):bM K H0 H σ ρ:=⟨E.len,E.val,E.own,s.trans E.base,λi c a e1 b e2=>s.free (E.new i c a e1 b e2)⟩
theorem bM.sans{ρ:Ev}(E:bM K H0 H σ ρ):bM K (gk H σ ρ) H σ ρ:=⟨E.len,E.val,E.own,yE,λi c a e1 b e2=>by
 unfold gk;rw[zh ⟨i,c,e1,b,e2⟩]⟩
theorem bM.sub{ρ:Ev}(E:bM K H0 H σ ρ):AV H0 (gk H σ ρ):=λa o e=>by
 unfold gk;split
 ·rename_i h;obtain⟨i,c,e1,b,e2⟩:=h;rw[E.new i c a e1 b e2]at e;cases e
 ·exact E.base a o e
theorem iW{ρ:Ev}(E:bM K H0 H σ ρ)(h:∀vs,H a≠U (.lst vs))(h2:∀vs,H a≠U (.dK vs)):gk H σ ρ a=H a:=by
 unfold gk;split
 ·rename_i e;obtain⟨i,c,e1,f,e2⟩:=e;obtain⟨v,e3,d⟩:=E.val i _ e1;rw[e2]at e3;cases e3;cases c with
  |o ds=>obtain⟨g,vs,b,q,_⟩:=d;cases b;exact absurd q (h vs)
  |m ds _=>obtain⟨g,vs,b,q,_⟩:=d;cases b;exact absurd q (h2 vs)
  |_=>cases f
 ·rfl
theorem R5.rebase{K:B1}{H0 Hs:Hp}{D:Be}{r:An}(s:AV H0 Hs)(h:R5 K H0 D r):R5 K Hs D r:=by
 cases r with
 |nx ρ=>exact λσ H E=>h σ H (E.rebase s)
 |bk ρ=>exact λσ H E=>h σ H (E.rebase s)
 |ct ρ=>exact λσ H E=>h σ H (E.rebase s)
 |rt b=>exact λv H s' n r=>h v H (s.trans s') (n.old s) r
theorem qT{gt:Dt->Ev->O Ev}{gb:Ev->O An}{ds:Z Dt}{H1:Hp}{ρ:Ev}{D:Be}{r:An}(p:bM X.K H0 H1 σ ρ)(Y:B4 X.K J ds (gk H1 σ ρ))(e:qH gt gb ds ρ=U r)(q:R5 X.K H0 D r):
  ∃W:Nat->Nat->L2.St->Hp->Prop,(∃m,W 0 m σ H1)/\∀i m σ H,W i m σ H →
   (J.stop i H/\D.nx σ H)\/(J.go i H/\∃N:L2.St->Hp->Prop,(∀ σ' H',N σ' H'->∃l,l<m/\W (i+1) l σ' H')/\∀x H',J.yld i H x H'->N4 X.K gt x σ H' λc H2=>tG X.K gb { D with nx:=N,ct:=N,bk:=D.nx } c H2):=by
 have s:=p.sans;have q2:=q.rebase p.sub;generalize gk H1 σ ρ=Hs at Y s q2;refine⟨λi m σ' H'=>m=ds.length-i/\i<=ds.length/\∃d,bM X.K Hs H' σ' d/\qH gt gb (ds.drop i) d=U r,⟨ds.length,by simp,Q1 _,ρ,s,by simpa using e⟩,?_⟩;rintro i m σ' H' ⟨rfl,E,d,h,e'⟩;obtain⟨y1,y2⟩:=Y i H' h.base;by_cases g:i<ds.length
 ·right;have u:ds[i]?=U ds[i]:=by simp[g]
  obtain⟨v,z⟩:=y1 _ u;rw[List.drop_eq_getElem_cons g]at e';simp only[qH]at e';obtain⟨o,e1,e'⟩:=AT e';obtain⟨n,e2,e'⟩:=AT e';refine⟨v,λc H2=>∃a,bM X.K Hs H2 c a/\qH gt gb (ds.drop (i+1)) a=U r,λc H2 ⟨a,f,e3⟩=>⟨ds.length-(i+1),by omega,rfl,g,a,f,e3⟩,λx H2 B=>?_⟩;obtain⟨A,w⟩:=z x H2 B;refine⟨Hs,d,ds[i],o,h.grow A,w,e1,λC f _=>⟨Hs,o,n,f,e2,?_⟩⟩;cases n with
  |nx a=>exact λc y j=>⟨a,j,e'⟩
  |ct a=>exact λc y j=>⟨a,j,e'⟩
  |bk a=>cases e';exact q2
  |rt b=>cases e';exact q2
 ·left;have t:ds.length<=i:=by omega
  refine⟨y2 t,?_⟩;rw[List.drop_eq_nil_of_le t]at e';cases e';exact q2 σ' H' h
theorem qI{fi:Ev->O (Z Dt)}{gt:Dt->Ev->O Ev}{gb:Ev->O An}(hp:PassesOwn (A8 X.prog X.w) X.A X.env X.xe)(s:X.calm=true)(hi:FD X tg iter fi)(g:D4 X tg gt)(hb:R6 X body gb)(hs:∀x,foldedSetIterable iter X.env x=pure x:=by intro _;rfl):K4 X (.For tg iter body [] pos) (λρ=>(fi ρ).bind λds=>qH gt gb ds ρ):=⟨have hi:=hi.run;have g:=g.run;have hb:=hb.run;Oi (YL hp s hi g hb hs) λD σ H h=>by
 obtain⟨H0,ρ,r,E,e,q⟩:=h;obtain⟨ds,t,e⟩:=AT e;refine⟨H0,ρ,ds,E,t,λJ H1 n y=>?_⟩;have f:=E.grow n;refine qT f ?_ e q;refine y _ yE (λa b=>?_) (λa o u b=>iW f (λvs z=>by rw[b]at z;cases z) (λvs z=>by rw[b]at z;cases z)) λa vs b=>iW f (λvs z=>by rw[b]at z;cases z) (λvs z=>by rw[b]at z;cases z);unfold gk;split
 ·rename_i l;obtain⟨i,c,e1,p,e2⟩:=l;obtain⟨v,e3,j⟩:=E.val i _ e1;rw[e2]at e3;cases e3;cases c with
  |o ds=>obtain⟨B,vs,d,q,_⟩:=j;cases d;rw[b]at q;cases q
  |m ds _=>obtain⟨B,vs,d,q,_⟩:=j;cases d;rw[b]at q;cases q
  |_=>cases p
 ·rfl⟩
theorem bM.lend{ρ:Ev}{ds:Z Dt}(E:bM K H0 H σ ρ)(h:ρ[i]?=U (U (.o ds))):bM K H0 H σ (ρ.set i (U (.l ds))):=by
 have back:∀(j:Nat) (b:Bx),(ρ.set i (U (.l ds)))[j]?=U (U b)->(j=i/\b=.l ds)\/(j≠i/\ρ[j]?=U (U b)):=λj b e=>by
  rcases BB e with⟨rfl,e',_⟩|⟨f,e'⟩
  ·cases e';exact .inl ⟨rfl,rfl⟩
  ·exact .inr ⟨f,e'⟩
 refine⟨by rw[km];exact E.len,λj b e=>?_,λj k c a b e1 d e2 e3 n g=>?_,E.base,λj c a e1 d e2=>?_⟩
 ·rcases back j b e with⟨rfl,rfl⟩|⟨f,e'⟩
  ·obtain⟨v,e1,a,vs,e2,q,r⟩:=E.val _ _ h;exact⟨v,e1,a,vs,e2,.inl q,r⟩
  ·exact E.val j b e'
 ·rcases back j _ e1 with⟨rfl,z⟩|⟨f,e'⟩
  ·subst z;cases d
  ·rcases back k _ e3 with⟨rfl,z⟩|⟨p,m⟩
   ·exact E.own j _ c a _ e' d e2 h S g
   ·exact E.own j k c a b e' d e2 m n g
 ·rcases back j _ e1 with⟨rfl,z⟩|⟨f,e'⟩
  ·subst z;cases d
  ·exact E.new j c a e' d e2
def qU(i:Nat)(gt:Dt->Ev->O Ev)(gb:Ev->O An)(ρ:Ev):O An:=match ρ[i]? with
 |some (U (.o ds))=>qH gt gb ds (ρ.set i (U (.l ds)))
 |some (U (.l ds))=>qH gt gb ds ρ
 |some (U b)=>(Fu b).bind λds=>qH gt gb ds ρ
 |_=>Y
theorem Zm{ρ:Ev}{ds:Z Dt}(E:bM X.K H0 H σ ρ)(h:ρ[i]?=U (U (.l ds))):∃a vs,σ[i]?=U (U (.ref a))/\qO X.K H a vs/\B4 X.K (GE X.K a) ds (gk H σ ρ):=by
 obtain⟨v,e1,a,vs,rfl,q,r⟩:=E.val i _ h;have e:gk H σ ρ a=H a:=by
  unfold gk;split
  ·rename_i f;obtain⟨j,c,e2,d,e3⟩:=f;have:=E.own j i c a _ e2 d e3 h S e1;subst this;rw[h]at e2;cases e2;cases d
  ·rfl
 refine⟨a,vs,e1,.inl q,.list (.inl ?_) (r.part (λb o u hb=>iW E (λvs z=>by rw[hb]at z;cases z) (λvs z=>by rw[hb]at z;cases z)) λb g hb=>iW E (λvs z=>by rw[hb]at z;cases z) (λvs z=>by rw[hb]at z;cases z))⟩;rcases q with q|⟨o,q⟩
 ·exact .inl (e.trans q)
 ·exact .inr ⟨o,e.trans q⟩
theorem yF(i:Nat){p:Pos}{gt:Dt->Ev->O Ev}{gb:Ev->O An}(hp:PassesOwn (A8 X.prog X.w) X.A X.env X.xe)(Q:X.calm=true)(B:D4 X tg gt)(hb:R6 X body gb)(M:X.N[i]?=U x:=by rfl)(L:U3 X.env.scope x:=by first|exact JS rfl|exact QY (JS S)|exact QY (QY S))(J:(x==("__debug__":AJ))=false:=by decide)(P:(x==("__classdict__":AJ))=false:=by decide)(hs:∀y,foldedSetIterable (.Name x p) X.env y=pure y:=by intro _;rfl):K4 X (.For tg (.Name x p) body [] pos) (qU i gt gb):=⟨have B:=B.run;have hb:=hb.run;Oi (YL hp Q (R8 (rH (i:=i) M L J P)) B hb hs) λD σ H h=>by
 obtain⟨H0,ρ,r,E,e,q⟩:=h;unfold qU at e;split at e
 ·rename_i ds g;have G:=E.lend g;have hi:i<ρ.length:=(List.getElem?_eq_some_iff.mp g).1;obtain⟨a,vs,e1,sq,Y⟩:=Zm G (Fv _ hi);exact⟨_,e1,.inl ⟨a,rfl,⟨vs,sq⟩,qT G Y e q⟩⟩
 ·rename_i ds g;obtain⟨a,vs,e1,sq,Y⟩:=Zm E g;exact⟨_,e1,.inl ⟨a,rfl,⟨vs,sq⟩,qT E Y e q⟩⟩
 ·rename_i b K W g;obtain⟨ds,f,e⟩:=AT e;obtain⟨v,e1,j⟩:=E.val i _ g;have t:∀b o u,H b=U (.HS o u)->gk H σ ρ b=H b:=λb o u hb=>iW E (λvs z=>by rw[hb]at z;cases z) (λvs z=>by rw[hb]at z;cases z);have C:∀b I,H b=U (.tup I)->gk H σ ρ b=H b:=λb I hb=>iW E (λvs z=>by rw[hb]at z;cases z) (λvs z=>by rw[hb]at z;cases z);cases b with
  |z d=>
   cases d with
   |tup s=>
    cases f;simp only[bh,AW]at j;obtain⟨a,vs,rfl,c,F⟩:=j;refine⟨_,e1,.inr (.inl ⟨a,rfl,⟨vs,c⟩,qT E (.tup ?_ (F.part t C)) e q⟩)⟩;rcases c with (c|⟨o,c⟩)|c
    ·exact .inl (.inl ((C _ _ c).trans c))
    ·exact .inl (.inr ⟨o,(t _ _ _ c).trans c⟩)
    ·exact .inr c
   |lst s=>
    cases f;simp only[bh,AW]at j;obtain⟨a,vs,rfl,c,F⟩:=j;refine⟨_,e1,.inl ⟨a,rfl,⟨vs,c.sq⟩,qT E (.list ?_ (F.part t C)) e q⟩⟩;rcases c with⟨o,c⟩|c
    ·exact .inl (.inr ⟨o,(t _ _ _ c).trans c⟩)
    ·exact .inr c
   |str x=>
    cases f;simp only[bh,AW]at j;obtain⟨rfl,_⟩:=j;exact⟨_,e1,.inr (.inr ⟨x,rfl,qT E (.str x) e q⟩)⟩
   |_=>cases f
  |l s=>cases f
  |o s=>exact absurd S (K s)
  |n s=>cases f
  |m s=>cases f
 ·cases e⟩
end
def C7(a:Z (AJ×A1)):Z (AJ×A1)->Prop
 |[]=>True
 |(n,c)::r=>a.lookup n=U c/\C7 a r
theorem C7.get{a:Z (AJ×A1)}:∀{cl:Z (AJ×A1)},C7 a cl->∀{x:AJ} {c:A1},cl.lookup x=U c->a.lookup x=U c
 |[],_,_,_,e=>by cases e
 |(n,d)::r,h,x,c,e=>by
  rw[List.lookup_cons]at e;by_cases hx:x==n
  ·simp only[hx]at e;cases e;have:x=n:=by simpa using hx
   rw[this];exact h.1
  ·have hx:(x==n)=false:=by simpa using hx
   simp only[hx]at e;exact C7.get h.2 e
structure NV (X:Cx) (scope:Scope) (cl:List (Str×Addr)) (x:Str) (i:Nat):Prop where
 n:X.N[i]?=some x
 k:X.env.kindOf x=some .cell\/X.env.kindOf x=some .free
 k':(relabel scope X.env).names.lookup x=some .cell\/(relabel scope X.env).names.lookup x=some .free
 c:∃c,cl.lookup x=some c
def Ik(X:Cx)(scope:Scope)(cl:Z (AJ×A1)):AZ->Z Nat->Prop
 |[],[]=>True
 |x::xs,i::is=>NV X scope cl x i/\Ik X scope cl xs is
 |_,_=>False
theorem Ik.get{X:Cx}{scope:Scope}{cl:Z (AJ×A1)}:∀{xs:AZ} {is:Z Nat},Ik X scope cl xs is->xs.length=is.length/\∀(j:Nat) (x:AJ),xs[j]?=U x->∃i,is[j]?=U i/\NV X scope cl x i
 |[],[],_=>⟨rfl,λj x e=>by simp at e⟩
 |x::xs,i::is,h=>by
  obtain⟨h1,h2⟩:=h;obtain⟨l,g⟩:=Ik.get h2;refine⟨by simp[l],λj y e=>?_⟩;cases j with
  |zero=>simp at e;subst e;exact⟨i,rfl,h1⟩
  |succ j=>obtain⟨k,e1,e2⟩:=g j y (by simpa using e);exact⟨k,by simpa using e1,e2⟩
 |[],_::_,h=>h.elim
 |_::_,[],h=>h.elim
def IO(a:Z (AJ×NameKind))(x:AJ):Bool:=match a.lookup x with
 |some .cell=>true
 |_=>false
def HX(X:Cx)(a:AZ)(scope:Scope)(cl:Z (AJ×A1))(C:A1)(s₀:A2)(H₀:Hp)(fp:Z A1):Cx:=
 { X with N:=a,s₀:=s₀,H₀:=H₀,env:=compEnvC scope (cellsFrom (C+1) scope.names cl) C X.env,outer:=X.stack,ex:=fp,fn:=IO scope.names,pn:=[],xe:=λ_ _=>False }
structure GS (h:Heap) (cs:List (Str×Addr)):Prop where
 inj:∀x y c,cs.lookup x=some c->cs.lookup y=some c->x=y
 cell:∀x c,cs.lookup x=some c->∃v,h.IsCell c v
theorem jN{n:AJ}{a:α}{l:Z (AJ×α)}(h:x≠n):((n,a)::l).lookup x=l.lookup x:=by
 rw[List.lookup_cons,beq_eq_false_iff_ne.mpr h]
theorem Zn:∀(g:Z (AJ×NameKind)) (h:A6) (d:Z (AJ×A1)),GS h d->GS (pushCells h g) (cellsFrom h.objs.size g d)
 |[],_,_,x=>x
 |(n,k)::r,h,d,x=>by
  unfold pushCells cellsFrom;split
  ·have i:∀y c,d.lookup y=U c->c≠h.objs.size:=λy c e=>let ⟨_,q⟩:=x.cell y c e;Zl q.lt;have:=Zn r (h.push { cls:=.type "cell",data:=.cell Y }) ((n,h.objs.size)::d) ⟨λy z c e1 e2=>?_,λy c e=>?_⟩
   ·rwa [qv]at this
   ·by_cases a:y=n<;>by_cases f:z=n
    ·rw[a,f]
    ·subst a;rw[kR]at e1;rw[jN f]at e2;cases e1;exact absurd S (i _ _ e2)
    ·subst f;rw[kR]at e2;rw[jN a]at e1;cases e2;exact absurd S (i _ _ e1)
    ·rw[jN a]at e1;rw[jN f]at e2;exact x.inj y z c e1 e2
   ·by_cases a:y=n
    ·subst a;rw[kR]at e;cases e;exact⟨Y,_,zv _ rfl,rfl⟩
    ·rw[jN a]at e;obtain⟨v,q⟩:=x.cell y c e;exact⟨v,q.keeps λb o e=>zd _ e⟩
  ·exact Zn r h d x
theorem yG:∀(b:Z (AJ×NameKind)) (n:Nat) (a:Z (AJ×A1)) (x:AJ) (c:A1),(cellsFrom n b a).lookup x=U c->a.lookup x=U c\/n<=c
 |[],_,_,_,_,e=>.inl e
 |(m,k)::r,n,a,x,c,e=>by
  unfold cellsFrom at e;split at e
  ·rcases yG r _ _ x c e with h|h
   ·by_cases hx:x=m
    ·subst hx;rw[kR]at h;cases h;exact .inr (zg _)
    ·rw[jN hx]at h;exact .inl h
   ·exact .inr (by omega)
  ·exact yG r _ _ x c e
theorem K5:∀(c:Z (AJ×NameKind)) (n:Nat) (a:Z (AJ×A1)) (x:AJ),(x,NameKind.cell)∉c->(cellsFrom n c a).lookup x=a.lookup x
 |[],_,_,_,_=>rfl
 |(m,k)::r,n,a,x,h=>by
  unfold cellsFrom;have b:(x,NameKind.cell)∉r:=λz=>h (zo _ z);split
  ·rename_i d;rw[K5 r _ _ x b,jN λz=>h (by rw[z,<-beq_iff_eq.mp d];exact zk ..)]
  ·exact K5 r _ _ x b
theorem R9:∀(b:Z (AJ×NameKind)) (n:Nat) (a:Z (AJ×A1)) (x:AJ),((x,NameKind.cell)∈b\/∃c,a.lookup x=U c)->∃c,(cellsFrom n b a).lookup x=U c
 |[],_,_,_,h=>h.elim (λz=>by simp at z) λz=>z
 |(m,k)::r,n,a,x,h=>by
  unfold cellsFrom;split
  ·refine R9 r _ _ x ?_;by_cases hx:x=m
   ·exact .inr ⟨n,by rw[hx,kR]⟩
   ·rw[jN hx];exact h.imp_left λz=>(List.mem_cons.mp z).elim (λz=>absurd (congrArg Prod.fst z) hx) λz=>z
  ·rename_i d;exact R9 r _ _ x (h.imp_left λz=>(List.mem_cons.mp z).elim (λz=>by cases z;exact absurd S d) λz=>z)
theorem WX{g:A1}{Q:Env->A2->Prop}(h:Q (newEnv scope s.heap.objs.size g (cellsFrom (s.heap.objs.size+1) scope.names cl) qual Y .none (U env) builtinsNs) { s with heap:=pushCells (s.heap.push { cls:=.type "dict",data:=.dict #[] }) scope.names }):
  A7 M A (newFunctionEnv scope g cl [] qual Y .none (U env)) Q E s:=by
 simp only[newFunctionEnv,yT,qS];refine zb (wpAny_alloc ?_);refine zb (wpAny_layCells _ (λname a b=>by cases a==NameKind.cell<;>simp) _ _ _ _ ?_);rw[show({ s with heap:=s.heap.push { cls:=.type "dict",data:=.dict #[] } }:A2).heap.objs.size=s.heap.objs.size+1 from qv ..];rw[List.forIn_nil];exact zb (ze (ze h))
structure rM (X:Cx) (scope:Scope) (cl:List (Str×Addr)) (xs:AZ) (is:List Nat):Prop where
 clos:closureFor scope X.env=pure cl
 kind:scope.kind=.function
 cell:∀y∈scope.names,y.2=.cell->cl.lookup y.1=none
 names:∀y∈scope.names,y.2=.local->scope.names.lookup y.1=some .local
 sub:C7 X.env.cells cl
 has:∀x,((relabel scope X.env).names.lookup x=some .cell\/(relabel scope X.env).names.lookup x=some .free)->(x,NameKind.cell)∈scope.names\/∃c,cl.lookup x=some c
 cap:Ik X scope cl xs is
def z8(is:Z Nat)(σ:L2.St):L2.St:=is.map λi=>(σ[i]?).bind λv=>v
def mR(is:Z Nat)(ρ:Ev):Ev:=is.map λi=>yu ρ i
def Ct(n m:Nat)(g:Dt->Ev->O Ev):Prop:=∀d ρ a,g d ρ=U a->a.length=ρ.length/\∀j,j<n\/m<=j->a[j]?=ρ[j]?
def FO(n m:Nat)(g:Z Dt->Ev->O Ev):Prop:=∀d ρ a,g d ρ=U a->a.length=ρ.length/\∀j,j<n\/m<=j->a[j]?=ρ[j]?
theorem cW{m:Nat}(h:n<=i:=by decide)(h':i<m:=by decide):Ct n m (λd ρ=>U (ρ.set i (U (.z d)))):=λd ρ a e=>by
 cases e;exact⟨by rw[km],λj b=>Fw _ (by omega)⟩
theorem Ve{m:Nat}:FO n m Bl:=λd ρ a e=>by
 cases d with
 |nil=>cases e;exact⟨rfl,λ_ _=>S⟩
 |cons=>cases e
theorem mj{m:Nat}{g:Dt->Ev->O Ev}{gs:Z Dt->Ev->O Ev}(h:Ct n m g)(hs:FO n m gs):FO n m (dW g gs):=λd ρ o e=>by
 cases d with
 |nil=>cases e
 |cons d ds=>
  simp only[dW]at e;obtain⟨l,e1,e⟩:=AT e;obtain⟨a,b⟩:=h _ _ _ e1;obtain⟨f,i⟩:=hs _ _ _ e;exact⟨f.trans a,λj c=>(i j c).trans (b j c)⟩
theorem Zo{m k:Nat}{gs:Z Dt->Ev->O Ev}(hs:FO n m gs):Ct n m (wO k gs):=λd ρ a e=>by
 cases d with
 |tup ds=>
  simp only[wO]at e;split at e
  ·exact hs _ _ _ e
  ·cases e
 |_=>cases e
def CK(gt:Dt->Ev->O Ev)(p:Ev->O Bool)(fs:Ev->O (Z Dt))(ρ:Ev):Z Dt->O (Z Dt)
 |[]=>U []
 |d::ds=>(gt d ρ).bind λa=>(p a).bind λk=>if k=true then(fs a).bind λys=>(CK gt p fs ρ ds).bind λzs=>U (ys++zs)else CK gt p fs ρ ds
def HA:Bx->O (Z Dt)
 |.z y=>U [y]
 |_=>Y
def Bm(gt:Dt->Ev->O Ev)(p:Ev->O Bool)(fe:Ev->O Bx)(ρ:Ev):Z Dt->O (Z Dt):=CK gt p (λρ=>(fe ρ).bind HA) ρ
theorem z9{b:Bx}{ys:Z Dt}(h:HA b=U ys):∃y,b=.z y/\ys=[y]:=by
 cases b<;>cases h;exact⟨_,rfl,rfl⟩
theorem vX{gt:Dt->Ev->O Ev}{p:Ev->O Bool}{fe:Ev->O Bx}{ρ:Ev}:∀{ds out:Z Dt},Bm gt p fe ρ ds=U out->out.length<=ds.length
 |[],_,e=>by cases e;exact zg _
 |d::ds,out,e=>by
  simp only[Bm,CK]at e;obtain⟨f,_,e⟩:=AT e;obtain⟨k,_,e⟩:=AT e;cases k with
  |false=>
   rw[zC ZI]at e;exact ZH (vX (gt:=gt) (p:=p) (fe:=fe) e) (by simp)
  |true=>
   rw[zh rfl]at e;obtain⟨ys,a,e⟩:=AT e;obtain⟨zs,c,e⟩:=AT e;obtain⟨b,_,a⟩:=AT a;obtain⟨y,_,rfl⟩:=z9 a;cases e;simpa using vX (gt:=gt) (p:=p) (fe:=fe) c
def C2(X:Cx)(ifs:Z Expr)(p:Ev->O Bool):Prop:=(ifs=[]/\p=λ_=>U true)\/∃c,ifs=[c]/\PB X c p
structure Fz (X:Cx) (ifs:List Expr) (p:Ev->Option Bool):Prop where
 run:C2 X ifs p
section
variable{xs ts:AZ}{gt:Dt->Ev->O Ev}{p:Ev->O Bool}{fe:Ev->O Bx}{fi:Ev->O (Z Dt)}
theorem Zq{p:Hp}{d:A2}(a:L2.AU X AN σ p d)(O:rM X scope cl xs is)(s:∀b∈fp,qD X AN p b)(A:∀b∈fp,b<d.heap.objs.size):
  L2.AU (HX X (xs++ts) scope cl d.heap.objs.size d p fp) [] (z8 is σ++List.replicate ts.length Y) p { d with heap:=pushCells (d.heap.push { cls:=.type "dict",data:=.dict #[] }) scope.names }:=by
 obtain⟨M,hc⟩:=O.cap.get;have g:=O.sub;have W:(d.heap.push { cls:=.type "dict",data:=.dict #[] }).objs.size=d.heap.objs.size+1:=qv ..;have t:∀b o,d.heap.get? b=U o->(pushCells (d.heap.push { cls:=.type "dict",data:=.dict #[] }) scope.names).get? b=U o:=λb o e=>pushCells_keeps _ _ b o (zd _ e);have B:GS (pushCells (d.heap.push { cls:=.type "dict",data:=.dict #[] }) scope.names) (cellsFrom (d.heap.objs.size+1) scope.names cl):=by
  rw[<-W];refine Zn _ _ _ ⟨λx y c e1 e2=>a.ok.inj x y c (g.get e1) (g.get e2),λx c e=>?_⟩;obtain⟨v,q⟩:=a.cell x c (g.get e);exact⟨v,q.keeps λb o e=>zd _ e⟩
 have D:∀x c,(cellsFrom (d.heap.objs.size+1) scope.names cl).lookup x=U c->X.env.cells.lookup x=U c\/d.heap.objs.size<c:=λx c e=>(yG _ _ _ x c e).imp_left g.get;refine⟨⟨a.ok.mod,O.kind,a.ok.glob,a.ok.blt,zg _,B.inj,λx hx=>R9 _ _ _ x (O.has x hx),λx c hx e=>?_,a.ok.hd,a.ok.frames,.inl rfl,λb hb=>⟨Zl (A b hb),λx c e=>?_⟩,a.bs,ZH a.ok.Ys a.sz,λb o e hb=>?_,λb hb K=>?_,a.stack,a.Dq⟩,
  rfl,a.bare,Un.kept t,⟨_,(Heap.Ns.new d.heap (.type "dict")).keeps (pushCells_keeps _ _),λj x v e1 e2 _=>?_⟩,B.cell,a.hok.fresh (zg _),λx c e=>(D x c e).elim (a.jy x c) λh=>a.hok.fresh (JJ h),λq Q=>absurd (show q∈([]:Z (A1×AE)) from Q) (by simp),a.hok.kept t,?_⟩
 ·refine(yG _ _ _ x c e).elim (λh=>?_) λh=>JJ h;have hx:(x,NameKind.cell)∈scope.names:=by
   have hx:IO scope.names x=true:=hx;unfold IO at hx;split at hx
   ·rename_i q;exact mem_of_lookup q
   ·cases hx
  rw[O.cell _ hx rfl]at h;cases h
 ·rcases D x c e with h|h
  ·exact(s b hb).2.2.2.2.1 x c h
  ·exact jS (Nat.lt_trans (A b hb) h)
 ·obtain⟨_,_,_,z,_⟩:=s b hb;rcases z with z|z
  ·exact a.ok.Rx b o e z
  ·exact absurd (ZU (zt e) (ZH a.ok.Ys z)) (kc _)
 ·obtain⟨_,J,H,_⟩:=s b hb;rcases List.mem_cons.mp (a.Et b K)with z|z
  ·exact J z
  ·exact H z
 ·have C:j<is.length:=by
   by_cases C:j<is.length
   ·exact C
   ·rw[QI (by simp[z8];omega)]at e2;rw[jv]at e2;split at e2<;>cases e2
  have a0:xs[j]?=U x:=by
   have e1:(xs++ts)[j]?=U x:=e1;rw[Z3 (by omega)]at e1;exact e1
  obtain⟨i,I,f⟩:=hc j x a0;have e3:σ[i]?=U (U v):=by
   rw[Z3 (by simp[z8];omega)]at e2;unfold z8 at e2;rw[ZN,I]at e2;cases q:σ[i]? with
   |none=>rw[Option.map_some,q]at e2;cases e2
   |some o=>
    rw[Option.map_some,q]at e2;have:o=U v:=by simpa using e2
    rw[this]
  have P:U3 X.env.scope x:=by
   rcases f.k with k|k
   ·exact .inr (.inl k)
   ·exact .inr (.inr k)
  obtain⟨m',a1,G⟩:=a.loc;obtain⟨u,r,l⟩:=G i x v f.n e3 P;refine⟨u,r,?_⟩;rcases l with⟨k,_⟩|⟨k,c,L,E⟩
  ·rcases f.k with w|w<;>(rw[k]at w;cases w)
  ·obtain⟨c',m⟩:=f.c;have:=g.get m;rw[L]at this;cases this;refine .inr ⟨f.k',c,(K5 _ _ _ x λz=>by rw[O.cell _ z rfl]at m;cases m).trans m,?_⟩;obtain⟨o,N,F⟩:=E;exact⟨o,t c o N,F⟩
 ·show(z8 is σ++List.replicate ts.length Y).length=(xs++ts).length;simp[z8,M]
theorem bM.caps{ρ:Ev}(E:bM K H0 H σ ρ)(is:Z Nat)(n:Nat):bM K H H (z8 is σ++List.replicate n Y) (mR is ρ++List.replicate n Y):=by
 have f:∀(j:Nat) c,(mR is ρ++List.replicate n Y)[j]?=U (U c)->uO c=false:=λj c e=>by
  by_cases g:j<is.length
  ·rw[Z3 (by simp[mR];omega)]at e;unfold mR at e;rw[ZN]at e;cases q:is[j]? with
   |none=>rw[q]at e;cases e
   |some i=>
    rw[q]at e;have:yu ρ i=U c:=by simpa using e
    exact Dz this
  ·rw[QI (by simp[mR];omega),jv]at e;split at e<;>cases e
 refine⟨by simp[z8,mR],λj b e=>?_,λj k c a b e d=>absurd d (by rw[f j c e];exact ZI),AV.refl H,λj c a e d=>absurd d (by rw[f j c e];exact ZI)⟩;by_cases g:j<is.length
 ·rw[Z3 (by simp[mR];omega)]at e;rw[Z3 (by simp[z8];omega)];unfold mR at e;unfold z8;rw[ZN]at e ⊢;cases q:is[j]? with
  |none=>rw[q]at e;cases e
  |some i=>
   rw[q]at e;have:yu ρ i=U b:=by simpa using e
   obtain⟨v,e1,r⟩:=Oj E this;exact⟨v,by simp[e1],r⟩
 ·rw[QI (by simp[mR];omega),jv]at e;split at e<;>cases e
theorem bM.forget{ρ ρ':Ev}(E:bM K H0 H σ ρ')(f:ρ'.length=ρ.length)(h:∀(j:Nat) b,ρ[j]?=U (U b)->ρ'[j]?=U (U b)):bM K H0 H σ ρ:=
 ⟨E.len.trans f,λj b e=>E.val j b (h j b e),λi j c a b e1 d e2 e3 g l=>E.own i j c a b (h _ _ e1) d e2 (h _ _ e3) g l,E.base,λi c a e1 d e2=>E.new i c a (h _ _ e1) d e2⟩
structure DU (Hb:Hp) (σ:L2.St) (ρ:Ev) (n:Nat):Prop where
 own:∀(j:Nat) c,ρ[j]?=some (some c)->uO c=false
 lt:∀(j:Nat) b,ρ[j]?=some (some b)->j<n
 old:∀(j:Nat) c a,ρ[j]?=some (some c)->loose c=true->σ[j]?=some (some (.ref a))->Hb a≠none
def Fx(σ σ':L2.St)(ρ:Ev):Prop:=∀(j:Nat) c,loose c=true->ρ[j]?=U (U c)->σ'[j]?=σ[j]?
theorem DU.fx{d:Hp}{σ':L2.St}{ρ:Ev}(P:DU d σ ρ n)(f:Fx σ σ' ρ):DU d σ' ρ n:=⟨P.own,P.lt,λj c a e b ea=>P.old j c a e b (by rw[<-f j c b e];exact ea)⟩
theorem FB{ρ:Ev}(E:bM K H0 H σ ρ)(j:Nat)(c:Bx)(a:A1)(e:ρ[j]?=U (U c))(h:loose c=true)(ea:σ[j]?=U (U (.ref a))):H a≠Y:=λz=>by
 obtain⟨v,e1,b⟩:=E.val j _ e;rw[ea]at e1;cases e1;cases c with
 |z d=>cases h
 |l f=>
  obtain⟨g,vs,e2,q,_⟩:=b;cases e2;rcases q with q|⟨o,q⟩<;>(rw[z]at q;cases q)
 |n f=>
  obtain⟨g,vs,e2,q,_⟩:=b;cases e2;rcases q with q|⟨o,q⟩<;>(rw[z]at q;cases q)
 |o f=>
  obtain⟨g,vs,e2,q,_⟩:=b;cases e2;rw[z]at q;cases q
 |m f _=>
  obtain⟨g,vs,e2,q,_⟩:=b;cases e2;rw[z]at q;cases q
theorem bM.grown{g:Hp}{ρ:Ev}{o:HO}(E:bM K g H σ ρ)(P:DU g σ ρ n)(i:g D=Y)(kp:Kp H (B0 H D o)):bM K g (B0 H D o) σ ρ:=by
 refine⟨E.len,λj b e=>?_,λj k c a b e h=>absurd h (by rw[P.own j c e];exact ZI),λc o e=>?_,λj c a e h=>absurd h (by rw[P.own j c e];exact ZI)⟩
 ·obtain⟨v,ev,s⟩:=E.val j b e;refine⟨v,ev,?_⟩;cases b with
  |z d=>exact AW.kp kp s
  |o p=>have:=P.own j _ e;cases this
  |m p _=>have:=P.own j _ e;cases this
  |n p=>
   obtain⟨a,vs,rfl,q,t⟩:=s;refine⟨a,vs,rfl,?_,t.kp kp⟩;have f:a≠D:=λz=>P.old j _ _ e S ev (by rw[z];exact i);exact q.imp (λq=>by rw[aP f];exact q) λ⟨o,q⟩=>⟨o,by rw[aP f];exact q⟩
  |l p=>
   obtain⟨a,vs,rfl,q,t⟩:=s;refine⟨a,vs,rfl,?_,t.kp kp⟩;have f:a≠D:=λz=>P.old j _ _ e S ev (by rw[z];exact i);exact q.imp (λq=>by rw[aP f];exact q) λ⟨o,q⟩=>⟨o,by rw[aP f];exact q⟩
 ·rw[aP (bH e i)];exact E.base c o e
def Zr(X:Cx)(el:A1->Env->Sem Unit)(fs:Ev->O (Z Dt))(Ac:A1->Hp->Z Dt->HO->Prop)(N n:Nat):Prop:=∀(AN:Z (A1×AE)) (s:A2) (σ:L2.St) (H a:Hp) (ρ:Ev) (D:A1) (o:HO) (b ys:Z Dt),L2.AU X AN σ H s->bM X.K a H σ ρ->DU a σ ρ n->a D=Y->fs ρ=U ys->H D=U o->Ac D H b o->b.length+ys.length<=N →
 A7 (A8 X.prog X.w) X.A (el D X.env) (λ_ s'=>∃ σ' H' o',L2.AU X AN σ' H' s'/\bM X.K a H' σ' ρ/\Fx σ σ' ρ/\H' D=U o'/\Ac D H' (b++ys) o') X.xe s
theorem Zt{fs:Ev->O (Z Dt)}{Ac:A1->Hp->Z Dt->HO->Prop}{N:Nat}(h:∀(AN:Z (A1×AE)) (s:A2) (σ:L2.St) (H c:Hp) (ρ:Ev) (D:A1) (o:HO) (b ys:Z Dt),L2.AU X AN σ H s->bM X.K c H σ ρ->fs ρ=U ys->H D=U o->Ac D H b o->b.length+ys.length<=N →
  A7 (A8 X.prog X.w) X.A (el D X.env) (λ_ s'=>∃a o',L2.AU X AN σ (B0 a D o') s'/\AV H a/\Kp a (B0 a D o')/\Ac D (B0 a D o') (b++ys) o') X.xe s):Zr X el fs Ac N n:=λAN s σ H c ρ D o b ys I E P d e1 e2 a1 l=>by
 refine ZZ (h AN s σ H c ρ D o b ys I E e1 e2 a1 l) (λ_ s' ⟨a,o',I',s9,kp,a'⟩=>?_) λ_ _ z=>z;exact⟨σ,_,o',I',(E.grow s9).grown P d kp,λ_ _ _ _=>S,aU,a'⟩
structure Ot (B:Around->Bool->Prop) (P:Program) (w:World) (K:B1) (tg:Expr) (J:It) (fp:List Addr) (it:Addr) (tn:Nat->Heap->Prop):Prop where
 obj:∀i h,tn i h->∀b∈fp,∃o,h.get? b=some o/\∀v,o.data≠.cell v
 keep:∀i h h',tn i h->(∀b∈fp,∀o,h.get? b=some o->h'.get? b=some o)->tn i h'
 item:∀(X:Cx),X.prog=P->X.w=w->X.K=K->B X.A X.calm->∀(i:Nat) (AN:List (Addr×Obj)) (s:Shared) (σ:L2.St) (H:Hp) (E:B9),L2.AU X AN σ H s->(∀b∈fp,qD X AN H b)->tn i s.heap->J.go i H →
  wpAny (model P w) X.A (pyNext (.ref it)) (λr s1=>∃u,r=some u ∧
   wpAny (model P w) X.A (letOwnedTupleGo tg (.ref it) u) (λ_ s2=>∃x H',L2.AU X AN σ H' s2/\As x u/\J.yld i H x H'/\tn (i+1) s2.heap/\∀b∈fp,H' b=none) E s1) E s
 done:∀(X:Cx),X.prog=P->X.w=w->X.K=K->B X.A X.calm->∀(i:Nat) (AN:List (Addr×Obj)) (s:Shared) (σ:L2.St) (H:Hp) (E:B9),L2.AU X AN σ H s->(∀b∈fp,qD X AN H b)->tn i s.heap->J.stop i H →
  wpAny (model P w) X.A (pyNext (.ref it)) (λr s1=>r=none/\L2.AU X AN σ H s1) E s
 self:∀(A:Around) (i:Nat) (s:Shared) (Q:B9) (E:B9),tn i s.heap->Q (.ref it) s->wpAny (model P w) A (pyIter (.ref it)) Q E s
abbrev Vf:A5->Bool->Prop:=λ_ c=>c=true
theorem Zu(T:C8 P w K tg J fp it tn):Ot Vf P w K tg J fp it tn:=⟨T.obj,T.keep,T.item,T.done,T.self⟩
theorem WY{F:Expr}{d:Nat}{g2:Pos}{Ac:A1->Hp->Z Dt->HO->Prop}{fs:Ev->O (Z Dt)}{N m:Nat}{l:Hp}{ds o0 out:Z Dt}{o:HO}{ρ:Ev}{R:Result->A2->Prop}(d2:B X.A X.calm)(hx:X.xe=λ_ _=>False)(Ou:ES X tgt gt)(i3:C2 X ifs p)(f1:Zr X el fs Ac N m)(f0:Ct n m gt)(j1:n<=m)(I:L2.AU X AN σ H s)(E:bM X.K l H σ ρ)(P:DU l σ ρ n)(hD:l D=none)(f4:H D=U o)(hA:Ac D H o0 o)(T:Ot B X.prog X.w X.K tgt J fp it tn)(st:tn 0 s.heap)(hf:∀b∈fp,qD X AN H b)(Y:B4 X.K J ds l)(k0:CK gt p fs ρ ds=U out)(hN:o0.length+out.length<=N)(c8:∀{D:A1} {H H':Hp} {y:Z Dt} {o:HO},Kp H H'->Ac D H y o->Ac D H' y o)(f2:∀(it:A0) (D:A1) (env:Env),compTurn F d it (.ref D) env=(standAt g2 >>= λ_=>pyNext it >>= λr=>match r with
   |none=>pure (.done .next)
   |some v=>letOwnedTupleGo tgt it v >>= λ_=>assign tgt env v >>= λ_=>(forIn ifs true λc r=>if r=true then isTrue c env (eval c env) >>= λok=>pure (ForInStep.yield ok)else pure (ForInStep.yield r)) >>= λok=>if ok=true then el D env >>= λ_=>again (.compLoop F d it (.ref D) env)else again (.compLoop F d it (.ref D) env)))(h9:∀{it c0:A0} {env:Env} {Q:Fin->A2->Prop} {E:B9} {s:A2},A7 (A8 X.prog X.w) X.A ((compTurn F d it c0 env).onRaise (λx=>noteFrame x env >>= λ_=>theTreesLotGoes x)) Q E s->A7 (A8 X.prog X.w) (X.A.under (.compLoop F d it c0 env)) ((A8 X.prog X.w).den (.compLoop F d it c0 env)) Q E s)(hR:∀s' σ' H' o',L2.AU X AN σ' H' s'->bM X.K l H' σ' ρ->Fx σ σ' ρ->H' D=U o'->Ac D H' (o0++out) o'->R (.ok .next) s'):
  AF (A8 X.prog X.w) X.A (.compLoop F d (.ref it) (.ref D) X.env) R s:=by
 have b3:∀{H':Hp},(∀b∈fp,H' b=none)->∀b∈fp,qD X AN H' b:=λ{H'} hn b hb=>⟨hn b hb,(hf b hb).2⟩;refine codeAny_loop S (λk s'=>∃(i:Nat) (σ':L2.St) (H':Hp) (y o2:Z Dt) (o:HO),k=ds.length-i/\i<=ds.length/\L2.AU X AN σ' H' s'/\tn i s'.heap/\(∀b∈fp,H' b=none)/\bM X.K l H' σ' ρ/\Fx σ σ' ρ/\H' D=U o/\Ac D H' y o/\CK gt p fs ρ (ds.drop i)=U o2/\y++o2=o0++out) ?_ ds.length
  ⟨0,σ,H,o0,out,o,by simp,Q1 _,I,st,λb hb=>(hf b hb).1,E,λ_ _ _ _=>S,f4,hA,by simpa using k0,rfl⟩
 rintro k s4 ⟨i,a2,H4,y,o2,o,rfl,hi,I4,e0,d3,E4,F4,a3,r4,g,ho⟩;have P4:=P.fx F4;refine h9 (wpAny_noted ?_);rw[f2];obtain⟨y1,y2⟩:=Y i H4 E4.base;by_cases b0:i<ds.length
 ·have hd:ds[i]?=U ds[i]:=by simp[b0]
  obtain⟨go,yl⟩:=y1 _ hd;rw[List.drop_eq_getElem_cons b0]at g;simp only[CK]at g;obtain⟨t,e1,g⟩:=AT g;obtain⟨k,ek,g⟩:=AT g;obtain⟨g1,d0⟩:=f0 _ _ _ e1;have back:∀{a1:L2.St} {H5:Hp},bM X.K l H5 a1 t->bM X.K l H5 a1 ρ:=λE5=>E5.forget g1 λj b e=>by rw[d0 j (.inl (P.lt j b e))];exact e
  refine zb (Kb (zb ?_));refine gM (T.item X S S S d2 i AN s4 a2 H4 _ I4 (b3 d3) e0 go) λr s5 ⟨u,hr,h5⟩=>?_;subst hr;refine zb (gM h5 λ_ s6 ⟨x,H6,I6,r6,y6,st6,fr6⟩=>?_);obtain⟨sm,rx⟩:=yl x H6 y6;have E4:=E4.grow sm;have a3:=sm _ _ a3;have r4:=c8 (.of sm) r4;have f3:=I6.pinned (b3 fr6) (T.obj _ _ st6);have ha:=Ou _ s6 a2 H6 x u (λσ' H'=>H'=H6/\bM X.K l H6 σ' t/\Lo a2 ρ σ' t) f3 r6 ⟨l,ρ,ds[i],t,E4,rx,e1,λσ' E' L'=>⟨rfl,E',L'⟩⟩;rw[hx]at ha;refine zb (ZZ ha (λ_ s7 h7=>?_) λ_ _ z=>z.elim);obtain⟨L,H7,I7,rfl,E7,L7⟩:=h7;have P7:DU l L t m:=by
   refine⟨λj c e=>?_,λj c e=>?_,λj c a e C ea=>?_⟩
   ·cases c with
    |o ds=>exact P.own j _ (L7 j _ S e).1
    |m ds _=>exact P.own j _ (L7 j _ S e).1
    |_=>rfl
   ·refine Nat.lt_of_not_le λh=>?_;rw[d0 j (.inr h)]at e;exact absurd (ZU (P.lt j c e) j1) (Nat.not_lt.mpr h)
   ·obtain⟨e',ee⟩:=L7 j c C e;exact P4.old j c a e' C (by rw[<-ee];exact ea)
  have d1:∀{a1:L2.St},Fx L a1 t->Fx σ a1 ρ:=λf j c C e=>by
   have e':t[j]?=U (U c):=by rw[d0 j (.inl (P.lt j c e))];exact e
   exact(f j c C e').trans ((L7 j c C e').2.trans (F4 j c C e))
  have ht:A7 (A8 X.prog X.w) X.A (forIn ifs true λc r=>if r=true then do let ok <-isTrue c X.env (eval c X.env);pure (ForInStep.yield ok)else pure (ForInStep.yield r))
    (λok M=>ok=k/\∃q,L2.AU X (AN++zW fp s6.heap) L q M/\AV H7 q) (notedBy (A8 X.prog X.w) X.A X.env λe s'=>R (.error e) s') s7:=by
   rcases i3 with⟨rfl,rfl⟩|⟨c,rfl,hc⟩
   ·cases ek;exact wpAny_tests_nil ⟨rfl,H7,I7,AV.refl H7⟩
   ·refine wpAny_tests_one ?_;have:=hc _ s7 L H7 (λb q=>b=k/\AV H7 q) I7 ⟨l,t,k,E7,ek,λq M=>⟨rfl,M⟩⟩;rw[hx]at this;exact ZZ this (λb M ⟨q,I8,eb,s8'⟩=>⟨eb,q,I8,s8'⟩) λ_ _ z=>z.elim
  refine zb (ZZ ht (λok M h8=>?_) λ_ _ z=>z);obtain⟨rfl,q,I8,G⟩:=h8;have Zv:∀{a0:L2.St} {W:Hp} {s9:A2},L2.AU X (AN++zW fp s6.heap) a0 W s9->L2.AU X AN a0 W s9/\tn (i+1) s9.heap/\∀b∈fp,W b=none:=λ{a0 W s9} I9=>by
   refine⟨I9.uK,T.keep _ _ _ st6 λb hb o e=>(I9.pin (b,o) (ZA _ (ZA _ (rJ hb e)))).1,λb hb=>?_⟩;obtain⟨o,e,d⟩:=T.obj _ _ st6 b hb;exact(I9.pin (b,o) (ZA _ (ZA _ (rJ hb e)))).2.1
  cases ok with
  |false=>
   rw[zC ZI]at g;obtain⟨I9,j2,i1⟩:=Zv I8;exact ze ⟨rfl,ds.length-(i+1),by omega,i+1,L,q,y,o2,o,rfl,b0,I9,j2,i1,back (E7.grow G),d1 (λ_ _ _ _=>S),G _ _ a3,c8 (.of G) r4,g,ho⟩
  |true=>
   rw[zh rfl]at g;obtain⟨ys,eb,g⟩:=AT g;obtain⟨zs,e5,g⟩:=AT g;cases g;have C:=congrArg List.length ho;simp only[zS]at C;have he:=f1 _ M L q l t D o y ys I8 (E7.grow G) P7 hD eb (G _ _ a3) (c8 (.of G) r4) (by omega);rw[hx]at he;refine zb (ZZ he (λ_ k1 i0=>?_) λ_ _ z=>z.elim);obtain⟨a0,W,o',g8,E9,F9,g6,a5⟩:=i0;obtain⟨f5,i4,i5⟩:=Zv g8;exact ze ⟨rfl,ds.length-(i+1),by omega,i+1,a0,W,y++ys,zs,o',rfl,b0,f5,i4,i5,back E9,d1 F9,g6,a5,e5,by rw[Q4];exact ho⟩
 ·have e3:ds.length<=i:=by omega
  rw[List.drop_eq_nil_of_le e3]at g;cases g;refine zb (Kb (zb ?_));refine gM (T.done X S S S d2 i AN s4 a2 H4 _ I4 (b3 d3) e0 (y2 e3)) λr s5 ⟨hr,I5⟩=>?_;subst hr;rw[ZY]at ho;exact ze (hR s5 a2 H4 o I5 E4 F4 a3 (by rw[<-ho];exact r4))
theorem JC{f:Expr}{mk:Sem A0}{o0:AE}{O0:HO}{Ac:A1->Hp->Z Dt->HO->Prop}{fs:Ev->Option (Z Dt)}{N m:Nat}{H2:Hp}{a:A2}{ds out:Z Dt}{ρ:Ev}(O:rM X scope cl xs is)(b3:B X.A X.calm)(Ou:∀C n t fp,ES (HX X (xs++ts) scope cl C n t fp) tgt gt)(e5:∀C n t fp,C2 (HX X (xs++ts) scope cl C n t fp) ifs p)(d2:∀C n t fp,Zr (HX X (xs++ts) scope cl C n t fp) el fs Ac N m)(a2:Ct is.length m gt)(c8:is.length<=m)(I2:L2.AU X AN σ H2 a)(Ec:bM X.K H2 H2 (z8 is σ++List.replicate ts.length none) (mR is ρ++List.replicate ts.length none))(T:Ot B X.prog X.w X.K tgt J fp it tn)(st:tn 0 a.heap)(hf:∀b∈fp,qD X AN H2 b)(Y:B4 X.K J ds H2)(g6:CK gt p fs (mR is ρ++List.replicate ts.length none) ds=U out)(h8:out.length<=N)(d0:∀(D C:A1) (s':A2) (H':Hp) (o:HO),H2 D=none->L2.AU X AN σ H' s'->qD X AN H' C->(∃m,s'.heap.Ns C m)->AV H2 H'->H' D=U o->Ac D H' out o->RR (.ref D) C (.ok .next) s')(g2:∀{Q:B9},Q (.ref a.heap.objs.size) { a with heap:=a.heap.push o0 }->A7 (A8 X.prog X.w) X.A mk Q E a)(b0:∀H,gn X.prog X.w H (a.heap.push o0) a.heap.objs.size O0)(g1:∀H,Ac a.heap.objs.size H [] O0)(e0:∀{D:A1} {H H':Hp} {W:Z Dt} {o:HO},Kp H H'->Ac D H W o->Ac D H' W o)(d1:∀(it:A0) (D:A1) (env:Env),compTurn f 0 it (.ref D) env=(standAt iter.pos >>= λ_=>pyNext it >>= λr=>match r with
   |none=>pure (.done .next)
   |some v=>letOwnedTupleGo tgt it v >>= λ_=>assign tgt env v >>= λ_=>(forIn ifs true λc r=>if r=true then isTrue c env (eval c env) >>= λok=>pure (ForInStep.yield ok)else pure (ForInStep.yield r)) >>= λok=>if ok=true then el D env >>= λ_=>again (.compLoop f 0 it (.ref D) env)else again (.compLoop f 0 it (.ref D) env)))(c0:∀{it d:A0} {env:Env} {R:Result->A2->Prop} {s:A2},AF (A8 X.prog X.w) X.A (.compLoop f 0 it d env) R s->A7 (A8 X.prog X.w) X.A (pyIter it) (λe4 s'=>AF (A8 X.prog X.w) X.A (.compLoop f 0 e4 d env) R s') (notedBy (A8 X.prog X.w) X.A env λx s'=>R (.error x) s') s->AF (A8 X.prog X.w) X.A (.compStart f 0 it d env) R s)(a3:∀{it d:A0} {env:Env} {Q:Fin->A2->Prop} {E:B9} {s:A2},A7 (A8 X.prog X.w) X.A ((compTurn f 0 it d env).onRaise (λx=>noteFrame x env >>= λ_=>theTreesLotGoes x)) Q E s->A7 (A8 X.prog X.w) (X.A.under (.compLoop f 0 it d env)) ((A8 X.prog X.w).den (.compLoop f 0 it d env)) Q E s):
  A7 (A8 X.prog X.w) X.A mk (λd e1=>A7 (A8 X.prog X.w) X.A (newFunctionEnv scope X.env.globals cl [] X.env.qual none .none (U X.env)) (λL h9=>
   AF (A8 X.prog X.w) X.A (.compStart f 0 (.ref it) d { L with scope:=relabel scope X.env }) (RR d L.locals) h9) E e1) E a:=by
 refine g2 (WX ?_);have I:H2 a.heap.objs.size=none:=I2.hok.fresh (zg _);have y:L2.AU X AN σ (B0 H2 a.heap.objs.size O0) { a with heap:=a.heap.push o0 }:=
  I2.laid (t':=a.toks) (λb o e=>zd _ e) (zg _) (b0 _)
 have a0:∀b∈fp,b<a.heap.objs.size:=λb hb=>let ⟨o,e,_⟩:=T.obj 0 _ st b hb;zt e;have F:∀b∈fp,qD X AN (B0 H2 a.heap.objs.size O0) b:=λb hb=>⟨by rw[aP (Zl (a0 b hb))];exact(hf b hb).1,(hf b hb).2⟩;have P:tn 0 (a.heap.push o0):=T.keep 0 _ _ st λb hb o e=>zd _ e;have u:∀b∈fp,b<(a.heap.push o0).objs.size:=λb hb=>by rw[qv];exact Qb (a0 b hb)
 generalize g8:({ a with heap:=a.heap.push o0 }:A2)=s3 at *
 have h7:s3.heap=a.heap.push o0:=by rw[<-g8]
 rw[<-h7]at P u;have IC:=Zq (ts:=ts) y O F u;have a1:tn 0 (pushCells (s3.heap.push { cls:=.type "dict",data:=.dict #[] }) scope.names):=T.keep 0 _ _ P λb hb o e=>pushCells_keeps _ _ b o (zd _ e);have d3:∀b∈fp,qD (HX X (xs++ts) scope cl s3.heap.objs.size s3 (B0 H2 a.heap.objs.size O0) fp) [] (B0 H2 a.heap.objs.size O0) b:=λb hb=>by
  obtain⟨f0,f1,f2,f3,G,f5⟩:=F b hb;refine⟨f0,Zl (u b hb),λz=>?_,.inl hb,λx c e z=>?_,λq hq=>absurd (show q∈([]:Z (A1×AE)) from hq) (by simp)⟩
  ·rcases List.mem_cons.mp (y.Et b z)with q|q
   ·exact f1 q
   ·exact f2 q
  ·rcases yG _ _ _ x c e with h|h
   ·exact G x c (O.sub.get h) z
   ·rw[z]at h;exact absurd (ZU (u b hb) (Nat.le_of_succ_le h)) (kc _)
 have P0:DU H2 (z8 is σ++List.replicate ts.length none) (mR is ρ++List.replicate ts.length none) is.length:=by
  have g:∀(j:Nat) c,(mR is ρ++List.replicate ts.length none)[j]?=U (U c)->j<is.length/\uO c=false:=λj c e=>by
   by_cases hj:j<is.length
   ·refine⟨hj,?_⟩;rw[Z3 (by simp[mR];omega)]at e;unfold mR at e;rw[ZN]at e;cases q:is[j]? with
    |none=>rw[q]at e;cases e
    |some i=>rw[q]at e;exact Dz (by simpa using e)
   ·rw[QI (by simp[mR];omega),jv]at e;split at e<;>cases e
  exact⟨λj c e=>(g j c e).2,λj c e=>(g j c e).1,FB Ec⟩
 have h:=WY (B:=B) (X:=HX X (xs++ts) scope cl s3.heap.objs.size s3 (B0 H2 a.heap.objs.size O0) fp) (R:=RR (.ref a.heap.objs.size) s3.heap.objs.size) (o0:=[]) b3 S (Ou _ _ _ _) (e5 _ _ _ _) (d2 _ _ _ _) a2 c8 IC (Ec.grow (bI I)) P0 I aU (g1 _) T a1 d3 Y g6 (by simpa using h8) e0 d1 a3 λs5 i0 M o5 l E5 _ e3 a5=>by
  have IB:L2.AU X AN σ M s5:=y.call' (ch:=fp) l.os l.base l.hok l.bare λb hb=>by
   obtain⟨f0,f1,f2,f3,G,f5⟩:=F b hb;exact⟨f3,f1,G,f5⟩
  obtain⟨m,hn,_⟩:=l.loc;exact d0 _ _ s5 M o5 I IB (y.N8 (zg _) l.free) ⟨m,hn⟩ E5.base e3 a5
 exact c0 h (T.self _ 0 _ _ _ a1 h)
def EJ(K:B1)(_:A1)(H:Hp)(a:Z Dt)(o:HO):Prop:=∃us,o=.lst us/\aK K H a us
theorem EJ.kp{K:B1}{D:A1}{H H':Hp}{a:Z Dt}{o:HO}(k:Kp H H'):EJ K D H a o->EJ K D H' a o:=λ⟨us,e,r⟩=>⟨us,e,r.kp k⟩
def LY(fe:Ev->O Bx):Ev->O (Z Dt):=λρ=>(fe ρ).bind HA
theorem Su(h:PV X elt fe):Zr X (λD env=>do let _ <-call (.builtin "list.append") [.ref D,<-eval elt env]) (LY fe) (EJ X.K) 100000 n:=by
 refine Zt λAN s σ H Hb ρ D o o1 ys I En i hD ⟨us,e,r4⟩ hl=>?_;subst e;obtain⟨b,eb,i⟩:=AT i;obtain⟨y,rfl,rfl⟩:=z9 i;refine zb (ZZ (h AN s σ H (λv a=>AV H a/\AW X.K a y v) I ⟨Hb,ρ,_,En,eb,λv a g _ d=>⟨g,d⟩⟩) (λv g q=>?_) λ_ _ z=>z);obtain⟨c,a,p,t,f,d⟩:=q;have l:=f _ _ hD;refine zb (ZZ ((Jy (X:=X)) _ g σ a (.ref D) [c] (.ref D) [v] (λw j=>j=B0 a D (.lst (us++[c]))) p S (.cons t .nil) ⟨_,us,c,rfl,rfl,l,by rw[r4.length];have h0:(100000:Nat)<AA:=(by decide);simp at hl;omega,rfl⟩) (λw x u=>?_) λ_ _ z=>z);obtain⟨A,j,m,_,rfl⟩:=u;have kp:Kp a (B0 a D (.lst (us++[c]))):=.lst l;exact ze ⟨a,_,m,f,kp,us++[c],rfl,((r4.kp (.of f)).append (aK.cons d aK.nil)).kp kp⟩
theorem FJ{H2:Hp}{l:A2}{ds out:Z Dt}{ρ:Ev}(O:rM X scope cl xs is)(u:B X.A X.calm)(I:∀C i j fp,ES (HX X (xs++ts) scope cl C i j fp) tgt gt)(H:∀C i j fp,C2 (HX X (xs++ts) scope cl C i j fp) ifs p)(x:∀C i j fp,PV (HX X (xs++ts) scope cl C i j fp) elt fe)(t:Ct is.length (is.length+ts.length) gt)(z:L2.AU X AN σ H2 l)(F:bM X.K H2 H2 (z8 is σ++List.replicate ts.length none) (mR is ρ++List.replicate ts.length none))(T:Ot B X.prog X.w X.K tgt J fp it tn)(st:tn 0 l.heap)(G:∀b∈fp,qD X AN H2 b)(Y:B4 X.K J ds H2)(L:ds.length<=100000)(s:Bm gt p fe (mR is ρ++List.replicate ts.length none) ds=U out)(v:∀(D C:A1) (s':A2) (H':Hp) (us:Z V),H2 D=none->L2.AU X AN σ H' s'->qD X AN H' C->(∃m,s'.heap.Ns C m)->AV H2 H'->H' D=U (.lst us)->aK X.K H' out us->RR (.ref D) C (.ok .next) s'):
  A7 (A8 X.prog X.w) X.A (newList []) (λq y=>A7 (A8 X.prog X.w) X.A (newFunctionEnv scope X.env.globals cl [] X.env.qual none .none (U X.env)) (λn M=>
   AF (A8 X.prog X.w) X.A (.compStart (.ListComp elt [⟨tgt,iter,ifs,0⟩] scope pos) 0 (.ref it) q { n with scope:=relabel scope X.env }) (RR q n.locals) M) E y) E l:=
 JC (B:=B) (Ac:=EJ X.K) (O0:=.lst []) (N:=100000) O u I H (λC i j fp=>Su (x C i j fp)) t (Nat.le_add_right ..) z F T st G Y s (ZH (vX s) L) (λD C s' H' o a b c d e f g=>by obtain⟨us,rfl,r⟩:=g;exact v D C s' H' us a b c d e f r)
  qh (λ_=>⟨Q1 _,[],0,.nil,zv _ rfl⟩) (λ_=>⟨[],rfl,aK.nil⟩) EJ.kp (λ_ _ _=>S) codeAny_compStart_list λh=>h
end
def iC(K:B1)(f:Ev->O (Z Dt)):TI:=λσ H R=>∃H0 ρ ds,bM K H0 H σ ρ/\f ρ=U ds/\∀J H',AV H H'->B4 K J ds H'->R J H'
def af(X:Cx)(tg iter:Expr)(f:Ev->O (Z Dt)):Prop:=PI X tg iter (iC X.K f)
structure FH (X:Cx) (tg iter:Expr) (f:Ev->Option (List Dt)):Prop where
 run:af X tg iter f
def Zw:Bx->O (Z Dt)
 |.z (.lst ds)=>U ds
 |.z (.tup ds)=>U ds
 |.z (.str x)=>U (BH x)
 |.o ds=>U ds
 |.l ds=>U ds
 |_=>Y
section
variable{f:Ev->O Bx}{fs:Ev->O (Z Bx)}{xs ts:AZ}{gt:Dt->Ev->O Ev}{p:Ev->O Bool}{fe:Ev->O Bx}{fi:Ev->O (Z Dt)}
theorem Sd(h:FD X tgt iter fi):FH X tgt iter fi:=⟨have h:=h.run;λAN s σ H R I q=>by
 obtain⟨H0,ρ,ds,E,e,q⟩:=q;exact h AN s σ H R I ⟨H0,ρ,ds,E,e,λJ H' s' y=>q J H' s' (y H' (AV.refl H') (λ_ _=>S) (λ_ _ _ _=>S) λ_ _ _=>S)⟩⟩
theorem iI(h:QV X e f):FH X tgt e (λρ=>(f ρ).bind Zw):=⟨have h:=h.run;λAN s σ H R I q=>by
 refine R8 h AN s σ H R I ?_;obtain⟨H0,ρ,ds,E,e,q⟩:=q;obtain⟨b,eb,e⟩:=AT e;refine⟨H0,ρ,b,E,eb,λv H1 j t g=>?_⟩;cases b with
 |z d=>
  cases d with
  |tup p=>
   cases e;simp only[bh,AW]at g;obtain⟨a,vs,rfl,c,i⟩:=g;exact .inr (.inl ⟨a,rfl,⟨vs,c⟩,q _ _ j (.tup c i)⟩)
  |lst p=>
   cases e;obtain⟨a,vs,rfl,c,i⟩:=g.HW rfl;exact .inl ⟨a,rfl,⟨vs,c⟩,q _ _ j (.list c i)⟩
  |str x=>
   cases e;simp only[bh,AW]at g;obtain⟨rfl,_⟩:=g;exact .inr (.inr ⟨x,rfl,q _ _ j (.str x)⟩)
  |_=>cases e
 |l p=>
  cases e;obtain⟨a,vs,rfl,c,i⟩:=g.HW rfl;exact .inl ⟨a,rfl,⟨vs,c⟩,q _ _ j (.list c i)⟩
 |o p=>
  cases e;obtain⟨a,vs,rfl,c,i⟩:=g.HW rfl;exact .inl ⟨a,rfl,⟨vs,c⟩,q _ _ j (.list c i)⟩
 |n _=>cases e
 |m _ _=>cases e⟩
def gB(fi:Ev->O (Z Dt))(gt:Dt->Ev->O Ev)(p:Ev->O Bool)(fe:Ev->O Bx)(is:Z Nat)(n:Nat):Ev->O Bx:=λρ=>(fi ρ).bind λds=>
 if ds.length<=100000 then(Bm gt p fe (mR is ρ++List.replicate n Y) ds).bind λa=>U (.o a)else Y
theorem iY(ts:AZ)(O:rM X scope cl xs is)(n:X.calm=true)(hi:FH X tgt iter fi)(j:∀C c d fp,D4 (HX X (xs++ts) scope cl C c d fp) tgt gt)(i:∀C c d fp,Fz (HX X (xs++ts) scope cl C c d fp) ifs p)(g:∀C c d fp,QV (HX X (xs++ts) scope cl C c d fp) elt fe)(l:Ct is.length (is.length+ts.length) gt)(hs:∀x,foldedSetIterable iter X.env x=pure x:=by intro _;rfl):QV X (.ListComp elt [⟨tgt,iter,ifs,0⟩] scope pos) (gB fi gt p fe is ts.length):=⟨have hi:=hi.run;have j:=λC c d fp=>(j C c d fp).run;have i:=λC c d fp=>(i C c d fp).run;have g:=λC c d fp=>(g C c d fp).run;λAN s σ H Q I h=>by
 obtain⟨H0,ρ,b,E,e,q⟩:=h;obtain⟨ds,t,e⟩:=AT e;split at e
 ·rename_i a0;obtain⟨a2,W,e⟩:=AT e;cases e;rw[eval_ListComp];refine Kj (use:=none) S hs O.clos O.kind O.names ?_;refine gM (hi AN s σ H (λJ H'=>AV H H'/\B4 X.K J ds H') I ⟨H0,ρ,ds,E,t,λJ H' s' y=>⟨s',y⟩⟩) λv s1 h1=>gM h1 λa1 s2 h2=>?_;obtain⟨it,fp,tn,J,H2,rfl,L,T,st,N,f,Y⟩:=h2;refine FJ (B:=Vf) (RR:=λu C=>compPost (A8 X.prog X.w) X.A X.xe none (EP X AN σ Q) u C) (ts:=ts) (xs:=xs) O n j i g l L ((E.grow f).caps is ts.length) (Zu T) st N Y a0 W ?_;intro D C s' H' us G P fC ⟨m,hn⟩ s2' hD' r';refine⟨m,hn,λh' M=>⟨.ref D,H',?_,rfl,q _ _ (f.trans s2') (λa ea=>by cases ea;exact f.free G) ⟨D,us,rfl,hD',r'⟩⟩⟩;obtain⟨f0,f1,f2,z,F,f5⟩:=fC;exact P.turned (t':=s'.toks) (λb o hb e=>(M.2 b hb).trans e) f0 f1 z F f5
 ·cases e⟩
theorem K6(i:Nat){py spos:Pos}(ts:AZ)(O:rM X scope cl xs is)(P:X.calm=true)(hN:X.N.Nodup)(hi:FH X tgt iter fi)(t:∀C c d fp,D4 (HX X (xs++ts) scope cl C c d fp) tgt gt)(n:∀C c d fp,Fz (HX X (xs++ts) scope cl C c d fp) ifs p)(l:∀C c d fp,QV (HX X (xs++ts) scope cl C c d fp) elt fe)(M:Ct is.length (is.length+ts.length) gt)(a0:swapsWith (.ListComp elt [⟨tgt,iter,ifs,0⟩] scope pos) (U (.Name y py)) spos.line X.env=pure true:=by with_unfolding_all rfl)(hy:X.N[i]?=U y:=by rfl)(hx:D7 X.env.scope y:=by first|exact JS rfl|exact QY S)(hf:X.fn y=true\/X.env.scope.names.lookup y=U .local:=by first|exact .inl rfl|exact .inr S)(hs:∀x,foldedSetIterable iter X.env x=pure x:=by intro _;rfl):K4 X (.Assign [.Name y py] (.ListComp elt [⟨tgt,iter,ifs,0⟩] scope pos) spos) (λρ=>(gB fi gt p fe is ts.length ρ).bind λb=>(WW ρ i b).bind λρ'=>U (.nx ρ')):=⟨have hi:=hi.run;have t:=λC c d fp=>(t C c d fp).run;have n:=λC c d fp=>(n C c d fp).run;have l:=λC c d fp=>(l C c d fp).run;λAN s σ H D I h=>by
 obtain⟨H0,ρ,r,E,e,q⟩:=h;obtain⟨b,eb,e⟩:=AT e;obtain⟨ds,W,eb⟩:=AT eb;split at eb
 ·rename_i d0;obtain⟨c8,eo,eb⟩:=AT eb;cases eb;cases e;rw[exec_Assign_Name_used _ _ _ _ a0];refine zb (Kb (zb ?_));show A7 _ X.A (do let _ <-comprehension (.ListComp elt [⟨tgt,iter,ifs,0⟩] scope pos) scope X.env _ (newList []) false (eval iter X.env) (U (assign (.Name y py) X.env))) _ _ s;refine zb (ZZ (Kj (use:=U (assign (.Name y py) X.env)) (Q:=λ_ s'=>SP X AN D .next s') S hs O.clos O.kind O.names ?_) (λ_ s' hq=>ze (ze hq)) λ_ _ e=>e);refine gM (hi AN s σ H (λJ H'=>AV H H'/\B4 X.K J ds H') I ⟨H0,ρ,ds,E,W,λJ H' s' y=>⟨s',y⟩⟩) λv s1 h1=>gM h1 λd1 s2 h2=>?_;obtain⟨it,fp,tn,J,H2,rfl,I2,T,st,a3,j,Y⟩:=h2;refine FJ (B:=Vf) (RR:=λa1 C=>compPost (A8 X.prog X.w) X.A X.xe (U (assign (.Name y py) X.env)) (λ_ s'=>SP X AN D .next s') a1 C) (ts:=ts) (xs:=xs) O P t n l M I2 ((E.grow j).caps is ts.length) (Zu T) st a3 Y d0 eo ?_;intro f C s' H' us hD G fC ⟨m,hn⟩ s2' hD' r';show A7 _ X.A (assign (.Name y py) X.env (.ref f)) _ _ s';obtain⟨f0,f1,f2,f3,f4,f5⟩:=fC;obtain⟨g,b3,ep,b0,F,a2⟩:=id hn;have a5:L2.AU X (AN++[(C,g)]) σ H' s':=G.Dr λL hp=>by
   rcases List.mem_append.mp hp with z|z
   ·exact G.pin L (ZA _ z)
   ·have:L=(C,g):=by simpa using z
    subst this;exact⟨b0,f0,f1,f2,λv z=>by rw[F]at z;cases z⟩
  refine gM (L2.U4 hN hy hx hf (AN++[(C,g)]) s' σ H' (.ref f) (.ref f) (λσ' u=>σ'=σ.set i (U (.ref f))/\u=H') a5 S ⟨rfl,rfl⟩) λ_ s'' ⟨σ',u,J',e1,e2⟩=>?_;subst e1 e2;have c0:=(J'.pin (C,g) (by simp)).1;refine⟨m,⟨g,b3,ep,c0,F,a2⟩,λh' sb=>?_⟩;refine⟨σ.set i (U (.ref f)),u,J'.uK.turned (t':=s''.toks) (λb o hb e=>(sb.2 b hb).trans e) f0 f1 f3 f4 f5,q _ _ ?_⟩;exact E.set (j.trans s2') (b:=.o c8) ⟨f,us,rfl,hD',r'⟩ (.inl S) λa ea=>by cases ea;exact j.free hD
 ·cases eb⟩
def lend:Bx->Bx
 |.o ds=>.l ds
 |.m ds _=>.n ds
 |b=>b
def ip:Bx->Bool
 |.o _=>true
 |.m _ _=>true
 |_=>false
def Zx(K:B1)(n:Nat)(F:Z Bx->O Bx):Sp:=λvs H Q _=>vs.length=n/\∃bs r,pJ K H bs vs/\bs.all (λb=>!ip b)=true/\F bs=U r/\∀v H',AV H H'->Nw H r v->bh K H' r v->Q v H'
def dY(n:Nat)(g:Ev->O An):Z Bx->O Bx:=λbs=>(g (bs.map U++List.replicate (n-bs.length) Y)).bind λr=>match r with
 |.rt b=>U b
 |.nx _=>U (.z .non)
 |_=>Y
theorem bM.start{K:B1}{H:Hp}{N:AZ}{bs:Z Bx}{vs:Z V}(r:pJ K H bs vs)(h:bs.all (λb=>!ip b)=true):bM K H H (L2.start N vs) (bs.map U++List.replicate (N.length-bs.length) Y):=by
 have g:bs.length=vs.length:=Paired.length r;have get:∀(i:Nat) b,(bs.map U++List.replicate (N.length-bs.length) Y)[i]?=U (U b)->bs[i]?=U b:=λi b e=>by
  by_cases hi:i<bs.length
  ·rw[Z3 (by simpa using hi),ZN]at e;cases q:bs[i]? with
   |none=>rw[q]at e;cases e
   |some n=>rw[q]at e;simpa using e
  ·rw[QI (by simp;omega),jv]at e;split at e<;>cases e
 have f:∀(i:Nat) c,(bs.map U++List.replicate (N.length-bs.length) Y)[i]?=U (U c)->uO c=true->False:=λi c e d=>by
  have:=List.all_eq_true.mp h _ (QA (get i _ e));cases c with
  |o ds=>cases this
  |m ds _=>cases this
  |_=>cases d
 refine⟨?_,λi b e=>?_,λi j c a b e d=>(f i c e d).elim,AV.refl H,λi c a e d=>(f i c e d).elim⟩
 ·unfold L2.start;simp[g]
 ·have e':=get i b e;have hi:i<bs.length:=(List.getElem?_eq_some_iff.mp e').1;have:∀{bs:Z Bx} {vs:Z V} {i:Nat} {b:Bx},AI (bh K H) bs vs->bs[i]?=U b->∃v,vs[i]?=U v/\bh K H b v:=by
   intro bs vs i b r
   induction r generalizing i with
   |nil=>intro e;simp at e
   |cons p t l=>
    intro e;cases i with
    |zero=>simp at e;subst e;exact⟨_,rfl,p⟩
    |succ i=>obtain⟨v,e1,e2⟩:=l (i:=i) (by simpa using e);exact⟨v,by simpa using e1,e2⟩
  obtain⟨v,e1,e2⟩:=this r e';refine⟨v,?_,e2⟩;unfold L2.start;rw[Z3 (by simp;omega),ZN,e1];rfl
end
theorem X'{f:A1}{k:Nat}{g:Ev->O An}(F:Bj K x qual st f fd)(S:bB N ps (aG st))(l:∀(a:A0) (A:A5) (outer:Z Env) (s:A2) (H:Hp) (E:XK),gW k (A.deeper (AK qual (aG st) s.heap.objs.size f a))->RB (rK xu P w K mg base N qual (aG st) f a A outer s H E).Yt (d8 st) g):
  ju P w K mg base xu (k+1) f fd ps (Zx K ps.length (dY N.length g)):=by
 refine F.ok S (λvs H Q E h=>h.1) λa A outer s H vs Q E d h=>?_;obtain⟨o,bs,r,n,j,e,q⟩:=h;refine⟨_,l a A outer s H E d,?_⟩;obtain⟨c,er,e⟩:=AT e;refine⟨H,_,c,bM.start n j,er,?_⟩;cases c with
 |rt b=>cases e;exact λv H' s' m c=>q v H' s' m c
 |nx ρ=>cases e;exact λσ H' i=>q _ H' i.base trivial (by unfold bh AW;rfl)
 |bk ρ=>cases e
 |ct ρ=>cases e
section
variable{k:Nat}{f:A1}{F:Z Bx->O Bx}{p:Pos}{fs:Ev->O (Z Bx)}
theorem FN{K:B1}{H:Hp}:∀{bs:Z Bx} {vs:Z V},pJ K H bs vs->pJ K H (bs.map lend) vs
 |_,_,.nil=>.nil
 |b::bs,_,.cons h t=>by
  refine .cons ?_ (FN t);cases b with
  |z d=>exact h
  |l ds=>exact h
  |o ds=>obtain⟨a,vs,e,q,r⟩:=h;exact⟨a,vs,e,.inl q,r⟩
  |n ds=>exact h
  |m ds _=>obtain⟨a,vs,e,q,r⟩:=h;exact⟨a,vs,e,.inl q,r.1⟩
theorem K7:∀bs:Z Bx,(bs.map lend).all (λb=>!ip b)=true
 |[]=>rfl
 |b::bs=>by
  rw[zw,kr,K7 bs];cases b<;>rfl
def cj(n:Nat)(F:Z Bx->O Bx)(fs:Ev->O (Z Bx)):Ev->O Bx:=λρ=>(fs ρ).bind λbs=>if bs.length=n then F (bs.map lend)else Y
theorem DN(G:ju X.prog X.w X.K X.mg X.base xu k f fd ps (Zx X.K n F))(d:gW k X.A)(m:Gl X x)(t:X.mg x=U (.ref f))(g:keepIn X.K (.ref f)=true)(hb:BA X.K fd ps [])(a:Vb X (e::es) fs)(i:(x==("__debug__":AJ))=false:=by decide)(he:A9 (e::es) X.env=(false,eval e X.env)::A9 es X.env:=by rfl)(s:(AD pos (A9 es X.env)).any (·.1)=false:=by rfl):QV X (.Call (.Name x p) (e::es) [] pos) (cj n F fs):=⟨have a:=a.run;Ii (Kv G d m t g hb .nil (NC) a i he s) λσ H Q h=>by
 obtain⟨H0,ρ,r,E,e,q⟩:=h;obtain⟨bs,eb,e⟩:=AT e;refine⟨H0,ρ,bs,E,eb,λvs H1 b c=>?_⟩;split at e
 ·rename_i u;rw[ZY];exact⟨by rw[<-Paired.length c];exact u,_,r,FN c,K7 bs,e,λv H2 j l o=>q v H2 (b.trans j) (l.old b) o⟩
 ·cases e⟩
end
end P1
variable{b:P1.Bx}{d:P1.Dt}{G:A1->Z (L2.AY×P1.Dt)->Z P1.Bx->O (Z (L2.AY×P1.Dt))}{f:P1.Ev->O P1.Bx}{q:P1.Ev->O Bool}{g:P1.Ev->O P1.An}{p:P1.Ev->O Bool}{AO:Z (L2.AY×P1.Dt)}{ds:Z P1.Dt}{fa:P1.Ev->O P1.Bx}{ρ:P1.Ev}{fb fc:P1.Ev->O P1.Bx}{gt:P1.Dt->P1.Ev->O P1.Ev}{gb:P1.Ev->O P1.An}{fi:P1.Ev->O (Z P1.Dt)}{fe:P1.Ev->O P1.Bx}{Ac:A1->L2.Hp->Z P1.Dt->L2.HO->Prop}{fk fo fv f1:P1.Ev->O P1.Bx}{gx:P1.Ev->O P1.Dt}{dG:P1.Bx}
namespace P1
open L2 SeqAt
open AutoSeq1 (wpAny_loadPart')
def Il(h:A6)(a:A1):Prop:=∃o ep,h.get? a=U o/\o.ExactDict/\o.data=.dict #[] ep
section
variable{b:A1}
theorem yH{AO:Z (AY×V)}{vs:Z (AY×A0)}(q:AO=[])(r:KV AO vs)(d:h.DictOf (bF P w) a vs):Il h a:=by
 subst q;cases r;obtain⟨o,es,ep,h1,h2,b,_,c,_⟩:=d;have:es=#[]:=by
  have:=c.length;apply Array.eq_empty_of_size_eq_zero;simpa using this
 subst this;exact⟨o,ep,h1,h2,b⟩
theorem Il.dict(P:A3)(w:A4)(x:Il h a):h.DictOf (strKind P w) a []:=by
 obtain⟨o,ep,h1,h2,b⟩:=x;exact⟨o,#[],ep,h1,h2,b,λe c=>by simp at c,.nil,j0⟩
theorem Iy(d:(a==sysModules)=false)(hb:(b==sysModules)=false)(f:Il s.heap a)(c:Il s.heap b)(e:A.units<cLine):RcAt A s (.ref a) (.ref b) true:=λprog w E Q h=>
 PySem.W.keq_eq (knd:=strKind prog w) d hb (f.dict prog w) (c.dict prog w) e (λ_=>.nil) h
theorem TW(d:(a==sysModules)=false)(hb:(b==sysModules)=false)(f:Il s.heap a)(c:Il s.heap b)(e:A.units<cLine):RcNeAt A s (.ref a) (.ref b) false:=λprog w E Q h=>
 PySem.W.keq_ne (r:=true) (knd:=strKind prog w) d hb (f.dict prog w) (c.dict prog w) e (λ_=>.nil) h
theorem Ov(o:AE)(b:AJ)(u:Tok):Meets (Builtin.«dict.__eq__» ⟨[.ref a,.str b u],[]⟩) (λ_ R s=>(s.heap.get? a=U o/\o.cls=.type "dict")/\R (.ok (.ret .notImplemented)) s):=
 .of_wp λprog w A R s h=>by
  have c:s.TypeIs (.ref a) "dict":=⟨o,h.1.1,h.1.2⟩;show A7 _ _ (Builtin.Dict.dictSlotArgs "__eq__" ⟨[.ref a,.str b u],[]⟩ >>= _) _ _ s;refine zb ?_;unfold Builtin.Dict.dictSlotArgs;refine zb (wpAny_notOrdered_dict c ?_);show A7 _ _ (pure (Value.ref a,Value.str b u)) _ _ s;refine ze ?_;refine zb (ke (T :="str") (typeIs_str s b u) PySem.F.sub_str_dict ?_);simp only[kX,qS];refine zb (Kn ?_);exact ze ⟨_,rfl,h.2⟩
theorem Ox(b:AJ)(u:Tok)(es:Array DictEntry)(ep:Nat)(e:O A1)(sl:Array (O A0)):Meets (Builtin.«str.__eq__» ⟨[.str b u,.ref a],[]⟩) (λ_ R s=>s.heap.get? a=U { cls:=.type "dict",dict:=e,data:=.dict es ep,slots:=sl }/\R (.ok (.ret .notImplemented)) s):=
 .of_wp λprog w A R s h=>by obtain⟨hp,g,d,tk,os⟩:=s;obtain⟨c,h⟩:=h;wp_walk using wpAny_loadPart' c,K0 c;exact⟨_,rfl,h⟩
theorem JD(x:AJ)(t:Tok)(d:Il s.heap a)(g:A.units<cLine):RcAt A s (.str x t) (.ref a) false:=λprog w E Q h=>by
 obtain⟨⟨l,i,m,sl⟩,ep,c,⟨e,j,hs⟩,f⟩:=d;simp only at e f;subst e f;exact rc_eq_decline_or (k:=false) (typeIs_str s x t) ⟨_,c,rfl⟩ (by decide) PySem.F.sub_dict_str PySem.F.slot_str_eq PySem.F.slot_dict_eq_refl
  (λ_ b=>call_meets PySem.F.slot_str_eq (typeIs_str s x t) PySem.F.entry_str_eq (PySem.F.args_str_eq_2 _ _) (Ox x t #[] ep i sl) ⟨c,b⟩)
  (λ_ b=>call_meets PySem.F.slot_dict_eq_refl ⟨_,c,rfl⟩ PySem.F.entry_dict_eq (PySem.F.args_dict_eq_2 _ _) (Ov _ x t) ⟨⟨c,rfl⟩,b⟩)
  (λ_ b=>wpAny_of_eq (rfl:isSame (.str x t) (.ref a)=pure false) b) (.inr g) h
theorem Oz(o:AE)(b:AJ)(u:Tok):Meets (Builtin.«dict.__ne__» ⟨[.ref a,.str b u],[]⟩) (λ_ R s=>(s.heap.get? a=U o/\o.cls=.type "dict")/\R (.ok (.ret .notImplemented)) s):=
 .of_wp λprog w A R s h=>by
  have c:s.TypeIs (.ref a) "dict":=⟨o,h.1.1,h.1.2⟩;show A7 _ _ (Builtin.Dict.dictSlotArgs "__ne__" ⟨[.ref a,.str b u],[]⟩ >>= _) _ _ s;refine zb ?_;unfold Builtin.Dict.dictSlotArgs;refine zb (wpAny_notOrdered_dict c ?_);show A7 _ _ (pure (Value.ref a,Value.str b u)) _ _ s;refine ze ?_;refine zb (ke (T :="str") (typeIs_str s b u) PySem.F.sub_str_dict ?_);simp only[kX,qS];refine zb (Kn ?_);exact ze ⟨_,rfl,h.2⟩
theorem OD(b:AJ)(u:Tok)(es:Array DictEntry)(ep:Nat)(e:O A1)(sl:Array (O A0)):Meets (Builtin.«str.__ne__» ⟨[.str b u,.ref a],[]⟩) (λ_ R s=>s.heap.get? a=U { cls:=.type "dict",dict:=e,data:=.dict es ep,slots:=sl }/\R (.ok (.ret .notImplemented)) s):=
 .of_wp λprog w A R s h=>by obtain⟨hp,g,d,tk,os⟩:=s;obtain⟨c,h⟩:=h;wp_walk using wpAny_loadPart' c,K0 c;exact⟨_,rfl,h⟩
theorem W0(x:AJ)(t:Tok)(d:Il s.heap a)(g:A.units<cLine):RcNeAt A s (.str x t) (.ref a) true:=λprog w E Q h=>by
 obtain⟨⟨l,i,m,sl⟩,ep,c,⟨e,j,hs⟩,f⟩:=d;simp only at e f;subst e f;exact rc_ne_decline_or (k:=false) (typeIs_str s x t) ⟨_,c,rfl⟩ (by decide) PySem.F.sub_dict_str PySem.F.slot_str_ne PySem.F.slot_dict_ne_refl
  (λ_ b=>call_meets PySem.F.slot_str_ne (typeIs_str s x t) PySem.F.entry_str_ne (PySem.F.args_str_ne_2 _ _) (OD x t #[] ep i sl) ⟨c,b⟩)
  (λ_ b=>call_meets PySem.F.slot_dict_ne_refl ⟨_,c,rfl⟩ PySem.F.entry_dict_ne (PySem.F.args_dict_ne_2 _ _) (Oz _ x t) ⟨⟨c,rfl⟩,b⟩)
  (λ_ b=>wpAny_of_eq (rfl:isSame (.str x t) (.ref a)=pure false) b) (.inr g) h
theorem W2(x:AJ)(t:Tok)(d:Il s.heap a)(c:A.units<cLine):EqAt A s (.str x t) (.ref a) false:=λprog w E Q h=>by
 unfold eqBool;refine qA ?_;refine wpAny_ite_split (λb=>absurd (eq_of_beq b) nofun) (λ_=>?_);exact zb (JD x t d c prog w E _ (JP h))
end
mutual
def uc:Dt->Nat
 |.tup xs=>uQ xs+1
 |.lst xs=>uQ xs+1
 |_=>1
def uQ:Z Dt->Nat
 |[]=>0
 |d::ds=>max (uc d) (uQ ds)
end
mutual
def uz:Dt->Dt->O Bool
 |.non,.non=>U true
 |.non,.bl _=>U false|.non,.int _=>U false|.non,.str _=>U false|.non,.tup _=>U false|.non,.lst _=>U false
 |.bl a,.bl b=>U (a==b)
 |.bl a,.int b=>U ((if a then 1 else 0)==b)
 |.bl _,.non=>U false|.bl _,.str _=>U false|.bl _,.tup _=>U false|.bl _,.lst _=>U false
 |.int a,.int b=>U (a==b)
 |.int a,.bl b=>U (a==(if b then 1 else 0))
 |.int _,.non=>U false|.int _,.str _=>U false|.int _,.tup _=>U false|.int _,.lst _=>U false
 |.str a,.str b=>U (a==b)
 |.str _,.non=>U false|.str _,.bl _=>U false|.str _,.int _=>U false|.str _,.tup _=>U false|.str _,.lst _=>U false|.str _,.emp=>U false
 |.tup xs,.tup ys=>lu xs ys
 |.tup _,.non=>U false|.tup _,.bl _=>U false|.tup _,.int _=>U false|.tup _,.str _=>U false|.tup _,.lst _=>U false
 |.lst xs,.lst ys=>lu xs ys
 |.emp,.emp=>U true
 |.lst _,.non=>U false|.lst _,.bl _=>U false|.lst _,.int _=>U false|.lst _,.str _=>U false|.lst _,.tup _=>U false
 |_,_=>Y
def lu:Z Dt->Z Dt->O Bool
 |[],[]=>U true
 |[],_::_=>U false
 |_::_,[]=>U false
 |x::xs,y::ys=>match uz x y with
  |some b=>match lu xs ys with
   |some c=>U (b&&c)
   |none=>Y
  |none=>Y
end
mutual
theorem FP:∀{d:Dt} {k:Bool},uz d d=U k->k=true
 |.non,_,e=>by cases e;rfl
 |.bl b,_,e=>by cases e;simp
 |.int b,_,e=>by cases e;simp
 |.str b,_,e=>by cases e;simp
 |.tup xs,_,e=>Aa (ds:=xs) e
 |.lst xs,_,e=>Aa (ds:=xs) e
 |.emp,_,e=>by cases e;rfl
theorem Aa:∀{ds:Z Dt} {k:Bool},lu ds ds=U k->k=true
 |[],_,e=>by simp only[lu]at e;cases e;rfl
 |d::ds,_,e=>by
  simp only[lu]at e;cases h:uz d d with
  |none=>rw[h]at e;cases e
  |some b=>
   rw[h]at e;simp only at e;cases h2:lu ds ds with
   |none=>rw[h2]at e;cases e
   |some c=>
    rw[h2]at e;cases e;rw[FP h,Aa h2];rfl
end
theorem DP(xs ys:Z Dt):uz (.tup xs) (.tup ys)=lu xs ys:=rfl
theorem uR:∀{xs ys:Z Dt} {k:Bool},lu xs ys=U k->∃e:Nat->Bool,(∀(j:Nat) x y,xs[j]?=U x->ys[j]?=U y->uz x y=U (e j))/\k=((List.range (min xs.length ys.length)).all e&&xs.length==ys.length)
 |[],[],k,h=>by simp only[lu]at h;cases h;exact⟨λ_=>true,λj x y e=>by simp at e,by simp⟩
 |[],y::ys,k,h=>by simp only[lu]at h;cases h;exact⟨λ_=>true,λj x y e=>by simp at e,by simp⟩
 |x::xs,[],k,h=>by simp only[lu]at h;cases h;exact⟨λ_=>true,λj x y _ e=>by simp at e,by simp⟩
 |x::xs,y::ys,k,h=>by
  simp only[lu]at h;cases h1:uz x y with
  |none=>rw[h1]at h;cases h
  |some b=>
   rw[h1]at h;simp only at h;cases h2:lu xs ys with
   |none=>rw[h2]at h;cases h
   |some c=>
    rw[h2]at h;cases h;obtain⟨e,g,d⟩:=uR h2;refine⟨λj=>match j with|0=>b|j+1=>e j,λj u v a ev=>?_,?_⟩
    ·cases j with
     |zero=>simp at a ev;subst a ev;exact h1
     |succ j=>exact g j u v (by simpa using a) (by simpa using ev)
    ·have:min (x::xs).length (y::ys).length=min xs.length ys.length+1:=by simp only[qc];omega
     rw[this,List.range_succ_eq_map,kr,List.all_map,d];have hb:((x::xs).length==(y::ys).length)=(xs.length==ys.length):=by
      rw[JE];simp
     rw[hb,Bool.and_assoc];rfl
theorem uT:∀{ds:Z Dt} {j:Nat} {d:Dt},ds[j]?=U d->uc d<=uQ ds
 |[],_,_,e=>by simp at e
 |d::ds,0,_,e=>by simp at e;subst e;simp only[uQ];exact Nat.le_max_left _ _
 |d::ds,j+1,_,e=>by
  simp only[uQ];exact ZH (uT (ds:=ds) (j:=j) (by simpa using e)) (Nat.le_max_right _ _)
theorem DR(I:L2.AU X AN σ H s)(h:yh X.K H a vs):∃b,s.heap.get? a=U b/\b.cls=.type "tuple":=by
 obtain⟨AQ,_,⟨b,e,c,_⟩,_⟩:=I.tuple h;exact⟨b,e,c⟩
theorem DW(I:L2.AU X AN σ H s)(h:qO X.K H a vs):∃b,s.heap.get? a=U b/\b.cls=.type "list":=by
 obtain⟨AQ,_,⟨b,n,e,c,_⟩,_⟩:=I.list h;exact⟨b,e,c⟩
theorem vY(I:L2.AU X AN σ H s)(h:H a=U (.HS o (.dK []))):∃b,s.heap.get? a=U b/\b.cls=.type "dict":=by
 obtain⟨e,_,_,vs,_,b,es,ep,e2,ex,_⟩:=I.hok a _ h;exact⟨b,e2,ex.1⟩
theorem Ab{n m:String}(h:∃b,s.heap.get? a=U b/\b.cls=.type n)(q:∃b,s.heap.get? a=U b/\b.cls=.type m)(f:n≠m):False:=by
 obtain⟨o,e,c⟩:=h;obtain⟨o',e',d⟩:=q;rw[e]at e';cases e';rw[c]at d;exact f (by injection d)
mutual
theorem AW.inj(I:L2.AU X AN σ H s):∀{d e:Dt} {v:V},AW X.K H d v->AW X.K H e v->d=e
 |.non,e,v,h,q=>by
  simp only[AW]at h;subst h;cases e<;>simp only[AW]at q<;>first|rfl|(cases q;done)|(obtain⟨a,b,z,_⟩:=q;cases z;done)|(obtain⟨z,_⟩:=q;cases z;done)
 |.bl _,e,v,h,q=>by
  simp only[AW]at h;subst h;cases e<;>simp only[AW]at q<;>first|(cases q;rfl)|(cases q;done)|(obtain⟨a,b,z,_⟩:=q;cases z;done)|(obtain⟨z,_⟩:=q;cases z;done)
 |.int _,e,v,h,q=>by
  simp only[AW]at h;subst h;cases e<;>simp only[AW]at q<;>first|(cases q;rfl)|(cases q;done)|(obtain⟨a,b,z,_⟩:=q;cases z;done)|(obtain⟨z,_⟩:=q;cases z;done)
 |.str x,e,v,h,q=>by
  simp only[AW]at h;have g:v=.str x:=h.1;subst g;cases e with
  |str y=>
   simp only[AW]at q;have z:V.str x=V.str y:=q.1;injection z with z;rw[z]
  |tup es=>simp only[AW]at q;obtain⟨a,b,z,_⟩:=q;cases z
  |lst es=>simp only[AW]at q;obtain⟨a,b,z,_⟩:=q;cases z
  |emp=>simp only[AW]at q;obtain⟨a,b,z,_⟩:=q;cases z
  |_=>simp only[AW]at q;cases q
 |.tup ds,e,v,h,q=>by
  simp only[AW]at h;obtain⟨a,vs,rfl,sq,r⟩:=h;cases e with
  |tup es=>
   simp only[AW]at q;obtain⟨b,us,z,c,f⟩:=q;cases z;have:=I.Jp sq c;subst this;rw[aK.inj I r f]
  |lst es=>
   simp only[AW]at q;obtain⟨b,us,z,c,f⟩:=q;cases z;exact(Ab (DR I sq) (DW I c.sq) (by decide)).elim
  |emp=>
   simp only[AW]at q;obtain⟨b,o,z,c⟩:=q;cases z;exact(Ab (DR I sq) (vY I c) (by decide)).elim
  |str x=>simp only[AW]at q;have z:=q.1;cases z
  |_=>simp only[AW]at q;cases q
 |.lst ds,e,v,h,q=>by
  simp only[AW]at h;obtain⟨a,vs,rfl,sq,r⟩:=h;cases e with
  |lst es=>
   simp only[AW]at q;obtain⟨b,us,z,c,f⟩:=q;cases z;have:=I.Ew sq.sq c.sq;subst this;rw[aK.inj I r f]
  |tup es=>
   simp only[AW]at q;obtain⟨b,us,z,c,f⟩:=q;cases z;exact(Ab (DW I sq.sq) (DR I c) (by decide)).elim
  |emp=>
   simp only[AW]at q;obtain⟨b,o,z,c⟩:=q;cases z;exact(Ab (DW I sq.sq) (vY I c) (by decide)).elim
  |str x=>simp only[AW]at q;have z:=q.1;cases z
  |_=>simp only[AW]at q;cases q
 |.emp,e,v,h,q=>by
  simp only[AW]at h;obtain⟨a,o,rfl,sq⟩:=h;cases e with
  |emp=>rfl
  |tup es=>
   simp only[AW]at q;obtain⟨b,us,z,c,f⟩:=q;cases z;exact(Ab (vY I sq) (DR I c) (by decide)).elim
  |lst es=>
   simp only[AW]at q;obtain⟨b,us,z,c,f⟩:=q;cases z;exact(Ab (vY I sq) (DW I c.sq) (by decide)).elim
  |str x=>simp only[AW]at q;have z:=q.1;cases z
  |_=>simp only[AW]at q;cases q
theorem aK.inj(I:L2.AU X AN σ H s):∀{ds es:Z Dt} {vs:Z V},aK X.K H ds vs->aK X.K H es vs->ds=es
 |[],es,vs,h,q=>by
  simp only[aK]at h;subst h;cases es with
  |nil=>rfl
  |cons e es=>simp only[aK]at q;obtain⟨_,_,z,_⟩:=q;cases z
 |d::ds,es,vs,h,q=>by
  simp only[aK]at h;obtain⟨v,r,rfl,h1,h2⟩:=h;cases es with
  |nil=>simp only[aK]at q;cases q
  |cons e es=>
   simp only[aK]at q;obtain⟨a,b,z,q1,q2⟩:=q;cases z;rw[AW.inj I h1 q1,aK.inj I h2 q2]
end
theorem Na(I:L2.AU X AN σ H s):∀(n:Nat) {A:A5} {d e:Dt} {x y:V} {u v:A0} {k:Bool},min (uc d) (uc e)<=n->A.units+n<cLine->AW X.K H d x->AW X.K H e y->As x u->As y v->uz d e=U k->EqAt A s u v k:=by
 intro n
 induction n with
 |zero=>
  intro A d e x y u v k M;have h1:1<=uc d:=by cases d<;>simp only[uc]<;>omega
  have h2:1<=uc e:=by cases e<;>simp only[uc]<;>omega
  omega
 |succ n ih=>
  intro A d e x y u v k M hA m c w g ek;have h:A.units<cLine:=by omega
  by_cases L:u=v/\∃a,u=.ref a
  ·obtain⟨rfl,a,rfl⟩:=L;have hx:x=.ref a:=by have:=w.abs;simpa[HL]using this.symm
   have hy:y=.ref a:=by have:=g.abs;simpa[HL]using this.symm
   subst hx hy;have:=AW.inj I m c;subst this;rw[FP ek];exact EqAt.same _
  ·have items:∀{ds es:Z Dt} {vs us:Z V} {AQ l:Z A0} {f:Nat->Bool},min (uQ ds) (uQ es)<=n->aK X.K H ds vs->aK X.K H es us->AX vs AQ->AX us l->(∀(j:Nat) x y,ds[j]?=U x->es[j]?=U y->uz x y=U (f j)) →
     ∀j (h1:j<AQ.toArray.size) (h2:j<l.toArray.size),EqAt A.in1 s AQ.toArray[j] l.toArray[j] (f j):=by
    intro ds es vs us AQ l f hm r1 r2 w1 W E j h1 h2;have l1:=w1.length;have l2:=W.length;have l3:=r1.length;have l4:=r2.length;have j1:j<AQ.length:=by simpa using h1
    have j2:j<l.length:=by simpa using h2
    have Q:ds[j]?=U ds[j]:=by simp
    have d2:es[j]?=U es[j]:=by simp
    obtain⟨a,ea,C⟩:=r1.get Q;obtain⟨b,eb,B⟩:=r2.get d2;obtain⟨p,ep,rp⟩:=w1.get ea;obtain⟨q,eq,rq⟩:=W.get eb;have e1:AQ.toArray[j]=p:=by simpa[j1]using ep
    have e2:l.toArray[j]=q:=by simpa[j2]using eq
    rw[e1,e2];have m1:=uT Q;have m2:=uT d2;exact ih (by omega) (by rw[units_in1];omega) C B rp rq (E j _ _ Q d2)
   cases d with
   |non=>
    cases m;cases w;cases e with
    |non=>cases c;cases g;cases ek;exact EqAt.same _
    |bl b=>cases c;cases g;cases ek;exact EqAt.none_bool b
    |int b=>cases c;obtain⟨t,rfl⟩:=g;cases ek;exact EqAt.none_int b t
    |str b=>obtain⟨rfl,_⟩:=c;obtain⟨t,rfl⟩:=g;cases ek;exact EqAt.none_str b t
    |tup es=>obtain⟨b,us,rfl,sq,_⟩:=c;cases g;cases ek;obtain⟨_,_,p,_⟩:=I.tuple sq;exact EqAt.none_tuple p h
    |lst es=>obtain⟨b,us,rfl,sq,_⟩:=c;cases g;cases ek;obtain⟨_,_,p,_⟩:=I.list sq.sq;exact EqAt.none_list p.isList h
    |emp=>cases ek
   |bl a=>
    cases m;cases w;cases e with
    |non=>cases c;cases g;cases ek;exact EqAt.bool_none a
    |bl b=>cases c;cases g;cases ek;exact EqAt.bool_bool a b
    |int b=>cases c;obtain⟨t,rfl⟩:=g;cases ek;exact EqAt.bool_int a b t
    |str b=>obtain⟨rfl,_⟩:=c;obtain⟨t,rfl⟩:=g;cases ek;exact EqAt.bool_str a b t
    |tup es=>obtain⟨b,us,rfl,sq,_⟩:=c;cases g;cases ek;obtain⟨_,_,p,_⟩:=I.tuple sq;exact EqAt.bool_tuple a p h
    |lst es=>obtain⟨b,us,rfl,sq,_⟩:=c;cases g;cases ek;obtain⟨_,_,p,_⟩:=I.list sq.sq;exact EqAt.bool_list a p.isList h
    |emp=>cases ek
   |int a=>
    cases m;obtain⟨i,rfl⟩:=w;cases e with
    |non=>cases c;cases g;cases ek;exact EqAt.int_none a i
    |bl b=>cases c;cases g;cases ek;exact EqAt.int_bool a i b
    |int b=>cases c;obtain⟨t,rfl⟩:=g;cases ek;exact EqAt.int_int a i b t
    |str b=>obtain⟨rfl,_⟩:=c;obtain⟨t,rfl⟩:=g;cases ek;exact EqAt.int_str a i b t
    |tup es=>obtain⟨b,us,rfl,sq,_⟩:=c;cases g;cases ek;obtain⟨_,_,p,_⟩:=I.tuple sq;exact EqAt.int_tuple a i p h
    |lst es=>obtain⟨b,us,rfl,sq,_⟩:=c;cases g;cases ek;obtain⟨_,_,p,_⟩:=I.list sq.sq;exact EqAt.int_list a i p.isList h
    |emp=>cases ek
   |str a=>
    obtain⟨rfl,_⟩:=m;obtain⟨i,rfl⟩:=w;cases e with
    |non=>cases c;cases g;cases ek;exact EqAt.str_none a i
    |bl b=>cases c;cases g;cases ek;exact EqAt.str_bool a i b
    |int b=>cases c;obtain⟨t,rfl⟩:=g;cases ek;exact EqAt.str_int a i b t
    |str b=>obtain⟨rfl,_⟩:=c;obtain⟨t,rfl⟩:=g;cases ek;exact EqAt.str_str a i b t
    |tup es=>obtain⟨b,us,rfl,sq,_⟩:=c;cases g;cases ek;obtain⟨_,_,p,_⟩:=I.tuple sq;exact EqAt.str_tuple a i p h
    |lst es=>obtain⟨b,us,rfl,sq,_⟩:=c;cases g;cases ek;obtain⟨_,_,p,_⟩:=I.list sq.sq;exact EqAt.str_list a i p.isList h
    |emp=>
     simp only[AW]at c;obtain⟨p,o,rfl,e⟩:=c;cases g;cases ek;obtain⟨_,_,vs,r,q⟩:=uN I.hok (.inr ⟨o,e⟩);exact W2 a i (yH S r q) h
   |tup ds=>
    obtain⟨a,vs,rfl,N,C⟩:=m;cases w;obtain⟨AQ,F,p,_⟩:=I.tuple N;cases e with
    |non=>cases c;cases g;cases ek;exact EqAt.tuple_none p h
    |bl b=>cases c;cases g;cases ek;exact EqAt.tuple_bool b p h
    |int b=>cases c;obtain⟨t,rfl⟩:=g;cases ek;exact EqAt.tuple_int b t p h
    |str b=>obtain⟨rfl,_⟩:=c;obtain⟨t,rfl⟩:=g;cases ek;exact EqAt.tuple_str b t p h
    |lst es=>obtain⟨b,us,rfl,sq,_⟩:=c;cases g;cases ek;obtain⟨_,_,p2,_⟩:=I.list sq.sq;exact EqAt.tuple_list p p2.isList h
    |tup es=>
     obtain⟨b,us,rfl,P,B⟩:=c;cases g;obtain⟨l,D,p2,_⟩:=I.tuple P;change lu _ _=U _ at ek;obtain⟨f,E,rfl⟩:=uR ek;have G:a≠b:=λz=>L ⟨by rw[z],a,rfl⟩;have z:=EqAt.of_refs G (RcAt.tuples (A:=A) (e:=f) p p2 h (items (by simp only[uc]at M;omega) C B F D E));have q1:AQ.toArray.size=ds.length:=by rw[zI,<-F.length,C.length]
     have q2:l.toArray.size=es.length:=by rw[zI,<-D.length,B.length]
     rw[q1,q2]at z;exact z
    |emp=>cases ek
   |lst ds=>
    obtain⟨a,vs,rfl,N,C⟩:=m;cases w;obtain⟨AQ,F,p,_⟩:=I.list N.sq;cases e with
    |non=>cases c;cases g;cases ek;exact EqAt.list_none p.isList h
    |bl b=>cases c;cases g;cases ek;exact EqAt.list_bool b p.isList h
    |int b=>cases c;obtain⟨t,rfl⟩:=g;cases ek;exact EqAt.list_int b t p.isList h
    |str b=>obtain⟨rfl,_⟩:=c;obtain⟨t,rfl⟩:=g;cases ek;exact EqAt.list_str b t p.isList h
    |tup es=>obtain⟨b,us,rfl,sq,_⟩:=c;cases g;cases ek;obtain⟨_,_,p2,_⟩:=I.tuple sq;exact EqAt.list_tuple p.isList p2 h
    |lst es=>
     obtain⟨b,us,rfl,P,B⟩:=c;cases g;obtain⟨l,D,p2,_⟩:=I.list P.sq;change lu _ _=U _ at ek;obtain⟨f,E,rfl⟩:=uR ek;have G:a≠b:=λz=>L ⟨by rw[z],a,rfl⟩;have q1:AQ.toArray.size=ds.length:=by rw[zI,<-F.length,C.length]
     have q2:l.toArray.size=es.length:=by rw[zI,<-D.length,B.length]
     by_cases a0:AQ.toArray.size=l.toArray.size
     ·have z:=EqAt.of_refs G (RcAt.lists (A:=A) (e:=f) p.isList p2.isList a0 h (items (by simp only[uc]at M;omega) C B F D E));have J:ds.length=es.length:=by omega
      rw[q1]at z;rw[J,Nat.min_self,beq_self_eq_true,Ki,<-J];exact z
     ·have J:(ds.length==es.length)=false:=by rw[beq_eq_false_iff_ne];omega
      rw[J,ky];exact EqAt.of_refs G (RcAt.lists_lengths p.isList p2.isList (by simpa using a0) h)
    |emp=>cases ek
   |emp=>
    cases e<;>first|(cases ek;done)|skip;simp only[AW]at m c;obtain⟨a,o,rfl,e1⟩:=m;obtain⟨b,o',rfl,e2⟩:=c;cases w;cases g;cases ek;obtain⟨_,m1,vs,r,q⟩:=uN I.hok (.inr ⟨o,e1⟩);obtain⟨_,m2,a1,r',q'⟩:=uN I.hok (.inr ⟨o',e2⟩);exact EqAt.of_refs (λz=>L ⟨by rw[z],a,rfl⟩) (Iy m1 m2 (yH S r q) (yH S r' q') h)
theorem OJ(I:L2.AU X AN σ H s){es:Z Dt}{us:Z V}{c:Z A0}{f:Nat->Bool}(L:min (uQ ds) (uQ es)<=n)(J:A.units+n+1<cLine)(g:aK X.K H ds vs)(h:aK X.K H es us)(i:AX vs AQ)(e:AX us c)(u:∀(j:Nat) x y,ds[j]?=U x->es[j]?=U y->uz x y=U (f j)):∀j (h1:j<AQ.toArray.size) (h2:j<c.toArray.size),EqAt A.in1 s AQ.toArray[j] c.toArray[j] (f j):=by
 intro j h1 h2;have E:=i.length;have F:=e.length;have C:=g.length;have B:=h.length;have v:j<AQ.length:=by simpa using h1
 have o:j<c.length:=by simpa using h2
 have d:ds[j]?=U (ds[j]'(by omega)):=by simp
 have d2:es[j]?=U (es[j]'(by omega)):=by simp
 obtain⟨a,ea,w⟩:=g.get d;obtain⟨b,eb,t⟩:=h.get d2;obtain⟨p,ep,m⟩:=i.get ea;obtain⟨q,l,z⟩:=e.get eb;have e1:AQ.toArray[j]=p:=by simpa[v]using ep
 have e2:c.toArray[j]=q:=by simpa[o]using l
 rw[e1,e2];have D:=uT d;have G:=uT d2;exact Na I n (by omega) (by rw[units_in1];omega) w t m z (u j _ _ d d2)
def qJ(K:B1)(H:Hp):Dt->V->Prop
 |.lst ds,v=>∃a vs,v=.ref a/\qO K H a vs/\aK K H ds vs
 |d,v=>AW K H d v
def oX:Bx->Bool
 |.n _=>true
 |.m _ _=>true
 |_=>false
def toD:Bx->Dt
 |.z d=>d
 |.l ds=>.lst ds
 |.o ds=>.lst ds
 |.n _=>.non
 |.m _ _=>.non
theorem bh.toD(h:bh K H b v)(a:oX b=false):qJ K H (toD b) v:=by
 cases b with
 |z d=>
  cases d with
  |lst ds=>exact h.HW rfl
  |_=>exact h
 |l ds=>exact h.HW rfl
 |o ds=>exact h.HW rfl
 |n _=>cases a
 |m _ _=>cases a
theorem Vg(I:L2.AU X AN σ H s){e:Dt}{x y:V}{v:A0}{k:Bool}(W:min (uc d) (uc e)<=100)(hA:X.A.units+100<cLine)(z:qJ X.K H d x)(h:qJ X.K H e y)(B:As x u)(i:As y v)(ek:uz d e=U k):RcAt X.A s u v k/\RcNeAt X.A s u v (!k):=by
 have g:X.A.units<cLine:=by omega
 cases d with
 |non=>
  cases z;cases B;cases e with
  |non=>
   cases h;cases i;cases ek;exact⟨.none_none,.none_none⟩
  |bl c=>
   cases h;cases i;cases ek;exact⟨.none_bool c,.none_bool c⟩
  |int c=>
   cases h;obtain⟨t2,rfl⟩:=i;cases ek;exact⟨.none_int c t2,.none_int c t2⟩
  |str c=>
   obtain⟨rfl,_⟩:=h;obtain⟨t2,rfl⟩:=i;cases ek;exact⟨.none_str c t2,.none_str c t2⟩
  |tup c=>
   obtain⟨a2,w,rfl,j,m⟩:=h;cases i;obtain⟨t,l,p2,_⟩:=I.tuple j;cases ek;exact⟨.none_tuple p2 g,.none_tuple p2 g⟩
  |lst c=>
   obtain⟨a2,w,rfl,j,m⟩:=h;cases i;obtain⟨t,l,p2,_⟩:=I.list j;cases ek;exact⟨.none_list p2.isList g,.none_list p2.isList g⟩
  |emp=>cases ek
 |bl x1=>
  cases z;cases B;cases e with
  |non=>
   cases h;cases i;cases ek;exact⟨.bool_none x1,.bool_none x1⟩
  |bl c=>
   cases h;cases i;cases ek;exact⟨.bool_bool x1 c,.bool_bool x1 c⟩
  |int c=>
   cases h;obtain⟨t2,rfl⟩:=i;cases ek;exact⟨.bool_int x1 c t2,.bool_int x1 c t2⟩
  |str c=>
   obtain⟨rfl,_⟩:=h;obtain⟨t2,rfl⟩:=i;cases ek;exact⟨.bool_str x1 c t2,.bool_str x1 c t2⟩
  |tup c=>
   obtain⟨a2,w,rfl,j,m⟩:=h;cases i;obtain⟨t,l,p2,_⟩:=I.tuple j;cases ek;exact⟨.bool_tuple x1 p2 g,.bool_tuple x1 p2 g⟩
  |lst c=>
   obtain⟨a2,w,rfl,j,m⟩:=h;cases i;obtain⟨t,l,p2,_⟩:=I.list j;cases ek;exact⟨.bool_list x1 p2.isList g,.bool_list x1 p2.isList g⟩
  |emp=>cases ek
 |int x1=>
  cases z;obtain⟨t1,rfl⟩:=B;cases e with
  |non=>
   cases h;cases i;cases ek;exact⟨.int_none x1 t1,.int_none x1 t1⟩
  |bl c=>
   cases h;cases i;cases ek;exact⟨.int_bool x1 t1 c,.int_bool x1 t1 c⟩
  |int c=>
   cases h;obtain⟨t2,rfl⟩:=i;cases ek;exact⟨.int_int x1 t1 c t2,.int_int x1 t1 c t2⟩
  |str c=>
   obtain⟨rfl,_⟩:=h;obtain⟨t2,rfl⟩:=i;cases ek;exact⟨.int_str x1 t1 c t2,.int_str x1 t1 c t2⟩
  |tup c=>
   obtain⟨a2,w,rfl,j,m⟩:=h;cases i;obtain⟨t,l,p2,_⟩:=I.tuple j;cases ek;exact⟨.int_tuple x1 t1 p2 g,.int_tuple x1 t1 p2 g⟩
  |lst c=>
   obtain⟨a2,w,rfl,j,m⟩:=h;cases i;obtain⟨t,l,p2,_⟩:=I.list j;cases ek;exact⟨.int_list x1 t1 p2.isList g,.int_list x1 t1 p2.isList g⟩
  |emp=>cases ek
 |str x1=>
  obtain⟨rfl,_⟩:=z;obtain⟨t1,rfl⟩:=B;cases e with
  |non=>
   cases h;cases i;cases ek;exact⟨.str_none x1 t1,.str_none x1 t1⟩
  |bl c=>
   cases h;cases i;cases ek;exact⟨.str_bool x1 t1 c,.str_bool x1 t1 c⟩
  |int c=>
   cases h;obtain⟨t2,rfl⟩:=i;cases ek;exact⟨.str_int x1 t1 c t2,.str_int x1 t1 c t2⟩
  |str c=>
   obtain⟨rfl,_⟩:=h;obtain⟨t2,rfl⟩:=i;cases ek;exact⟨.str_str x1 t1 c t2,.str_str x1 t1 c t2⟩
  |tup c=>
   obtain⟨a2,w,rfl,j,m⟩:=h;cases i;obtain⟨t,l,p2,_⟩:=I.tuple j;cases ek;exact⟨.str_tuple x1 t1 p2 g,.str_tuple x1 t1 p2 g⟩
  |lst c=>
   obtain⟨a2,w,rfl,j,m⟩:=h;cases i;obtain⟨t,l,p2,_⟩:=I.list j;cases ek;exact⟨.str_list x1 t1 p2.isList g,.str_list x1 t1 p2.isList g⟩
  |emp=>
   simp only[qJ,AW]at h;obtain⟨p,o,rfl,e⟩:=h;cases i;cases ek;obtain⟨_,_,vs,r,q⟩:=uN I.hok (.inr ⟨o,e⟩);exact⟨JD x1 t1 (yH S r q) g,W0 x1 t1 (yH S r q) g⟩
 |tup x1=>
  obtain⟨a1,a0,rfl,J,C⟩:=z;cases B;obtain⟨G,D,p1,_⟩:=I.tuple J;cases e with
  |non=>
   cases h;cases i;cases ek;exact⟨.tuple_none p1 g,.tuple_none p1 g⟩
  |bl c=>
   cases h;cases i;cases ek;exact⟨.tuple_bool c p1 g,.tuple_bool c p1 g⟩
  |int c=>
   cases h;obtain⟨t2,rfl⟩:=i;cases ek;exact⟨.tuple_int c t2 p1 g,.tuple_int c t2 p1 g⟩
  |str c=>
   obtain⟨rfl,_⟩:=h;obtain⟨t2,rfl⟩:=i;cases ek;exact⟨.tuple_str c t2 p1 g,.tuple_str c t2 p1 g⟩
  |tup c=>
   obtain⟨a2,w,rfl,j,m⟩:=h;cases i;obtain⟨t,l,p2,_⟩:=I.tuple j;change lu _ _=U _ at ek;obtain⟨f,L,rfl⟩:=uR ek;have q1:G.toArray.size=x1.length:=by rw[zI,<-D.length,C.length]
   have q2:t.toArray.size=c.length:=by rw[zI,<-l.length,m.length]
   have it:=OJ I (n:=99) (A:=X.A) (by simp only[uc]at W;omega) (by omega) C m D l L;rw[<-q1,<-q2];exact⟨.tuples p1 p2 g it,.tuples p1 p2 g it⟩
  |lst c=>
   obtain⟨a2,w,rfl,j,m⟩:=h;cases i;obtain⟨t,l,p2,_⟩:=I.list j;cases ek;exact⟨.tuple_list p1 p2.isList g,.tuple_list p1 p2.isList g⟩
  |emp=>cases ek
 |lst x1=>
  obtain⟨a1,a0,rfl,J,C⟩:=z;cases B;obtain⟨G,D,p1,_⟩:=I.list J;cases e with
  |non=>
   cases h;cases i;cases ek;exact⟨.list_none p1.isList g,.list_none p1.isList g⟩
  |bl c=>
   cases h;cases i;cases ek;exact⟨.list_bool c p1.isList g,.list_bool c p1.isList g⟩
  |int c=>
   cases h;obtain⟨t2,rfl⟩:=i;cases ek;exact⟨.list_int c t2 p1.isList g,.list_int c t2 p1.isList g⟩
  |str c=>
   obtain⟨rfl,_⟩:=h;obtain⟨t2,rfl⟩:=i;cases ek;exact⟨.list_str c t2 p1.isList g,.list_str c t2 p1.isList g⟩
  |tup c=>
   obtain⟨a2,w,rfl,j,m⟩:=h;cases i;obtain⟨t,l,p2,_⟩:=I.tuple j;cases ek;exact⟨.list_tuple p1.isList p2 g,.list_tuple p1.isList p2 g⟩
  |lst c=>
   obtain⟨a2,w,rfl,j,m⟩:=h;cases i;obtain⟨t,l,p2,_⟩:=I.list j;change lu _ _=U _ at ek;obtain⟨f,L,rfl⟩:=uR ek;have q1:G.toArray.size=x1.length:=by rw[zI,<-D.length,C.length]
   have q2:t.toArray.size=c.length:=by rw[zI,<-l.length,m.length]
   have it:=OJ I (n:=99) (A:=X.A) (by simp only[uc]at W;omega) (by omega) C m D l L;by_cases F:G.toArray.size=t.toArray.size
   ·have E:x1.length=c.length:=by omega
    rw[E,Nat.min_self,beq_self_eq_true,Ki,<-E,<-q1];exact⟨.lists p1.isList p2.isList F g it,.lists p1.isList p2.isList F g it⟩
   ·have E:(x1.length==c.length)=false:=by rw[beq_eq_false_iff_ne];omega
    rw[E,ky];exact⟨.lists_lengths p1.isList p2.isList (by simpa using F) g,.lists_lengths p1.isList p2.isList (by simpa using F) g⟩
  |emp=>cases ek
 |emp=>
  cases e<;>first|(cases ek;done)|skip;simp only[qJ,AW]at z h;obtain⟨a,o,rfl,e1⟩:=z;obtain⟨b,o',rfl,e2⟩:=h;cases B;cases i;cases ek;obtain⟨_,M,vs,r,q⟩:=uN I.hok (.inr ⟨o,e1⟩);obtain⟨_,P,a3,Q,N⟩:=uN I.hok (.inr ⟨o',e2⟩);exact⟨Iy M P (yH S r q) (yH S Q N) g,TW M P (yH S r q) (yH S Q N) g⟩
def BQ(a b:Bx):O Bx:=if oX a=true\/oX b=true then Y else if min (uc (toD a)) (uc (toD b))<=100 then(uz (toD a) (toD b)).bind λk=>U (.z (.bl k))else Y
def Sq(a b:Bx):O Bx:=if oX a=true\/oX b=true then Y else if min (uc (toD a)) (uc (toD b))<=100 then(uz (toD a) (toD b)).bind λk=>U (.z (.bl (!k)))else Y
theorem of_eq(j:X.A.units+100<cLine):Dy X (AG .Eq) BQ:=by
 intro AN s σ H x y v u Q I l i h;obtain⟨a,b,c,g,m,e,q⟩:=h;unfold BQ at e;split at e
 ·cases e
 rename_i d;have f:oX a=false:=by cases h:oX a with|false=>rfl|true=>exact absurd (.inl h) d
 have hb:oX b=false:=by cases h:oX b with|false=>rfl|true=>exact absurd (.inr h) d
 split at e
 ·rename_i n;obtain⟨k,ek,e⟩:=AT e;cases e;exact(Vg I n j (g.toD f) (m.toD hb) l i ek).1 X.prog X.w X.xe _ ⟨.bl k,H,I,rfl,q _ H (AV.refl H) trivial (by unfold bh AW;rfl)⟩
 ·cases e
theorem FT(j:X.A.units+100<cLine):Dy X (AG .NotEq) Sq:=by
 intro AN s σ H x y v u Q I l i h;obtain⟨a,b,c,g,m,e,q⟩:=h;unfold Sq at e;split at e
 ·cases e
 rename_i d;have f:oX a=false:=by cases h:oX a with|false=>rfl|true=>exact absurd (.inl h) d
 have hb:oX b=false:=by cases h:oX b with|false=>rfl|true=>exact absurd (.inr h) d
 split at e
 ·rename_i n;obtain⟨k,ek,e⟩:=AT e;cases e;exact(Vg I n j (g.toD f) (m.toD hb) l i ek).2 X.prog X.w X.xe _ ⟨.bl (!k),H,I,rfl,q _ H (AV.refl H) trivial (by unfold bh AW;rfl)⟩
 ·cases e
theorem CN{i:Int}:bh K H (.z (.int i)) (.int i):=by unfold bh AW;rfl
theorem Im{b:Bool}:bh K H (.z (.bl b)) (.bl b):=by unfold bh AW;rfl
theorem Fc(h:x.length<=AA):bh K H (.z (.str x)) (.str x):=by unfold bh AW;exact⟨rfl,h⟩
theorem K8{i:Int}(h:bh K H (.z (.int i)) v):v=.int i:=by simpa only[bh,AW]using h
theorem Ss(h:bh K H (.z (.str x)) v):v=.str x/\x.length<=AA:=by simpa only[bh,AW]using h
theorem FK(h:bh K H (.z (.tup ds)) v):∃a vs,v=.ref a/\yh K H a vs/\aK K H ds vs:=by simpa only[bh,AW]using h
def i2(g:Int->Int->O Dt):Bx->Bx->O Bx
 |.z (.int i),.z (.int j)=>(g i j).bind λd=>U (.z d)
 |_,_=>Y
theorem FW{f:A0->A0->Sem A0}{r:R2}{g:Int->Int->O Dt}(m:uL X f r)(h:∀i j d H Q,g i j=U d->(∀v,AW X.K H d v->Q v H)->r (.int i) (.int j) H Q):Dy X f (i2 g):=uL.imp m λx y H Q q=>by
 obtain⟨a,b,c,l,p,e,q⟩:=q;unfold i2 at e;split at e
 ·rename_i i j;obtain⟨d,n,e⟩:=AT e;cases e;rw[K8 l,K8 p];exact h i j d H Q n λv o=>q v H (AV.refl H) trivial o
 ·cases e
theorem Fm{i:Int}:AW K H (.int i) (.int i):=by unfold AW;rfl
theorem FA{b:Bool}:AW K H (.bl b) (.bl b):=by unfold AW;rfl
abbrev C5:=i2 λi j=>U (.int (i-j))
abbrev Fa:=i2 λi j=>U (.bl (decide (i<=j)))
abbrev FY:=i2 λi j=>U (.bl (decide (j<i)))
abbrev GL:=i2 λi j=>U (.bl (decide (j<=i)))
abbrev yI:=i2 λi j=>if 0<j/\j<1073741824 then U (.int (i / j))else Y
abbrev fj:=i2 λi j=>if 0<j then U (.int (i%j))else Y
abbrev Ha:=i2 λi j=>if 0<=j/\j<=1000/\i.natAbs<2 ^ 64 then U (.int (i ^ j.toNat))else Y
theorem FZ:Dy X (binaryOp .Sub) C5:=FW T0 λi j d H Q e q=>by cases e;exact⟨i,j,rfl,rfl,q _ Fm⟩
theorem DB:Dy X (AG .LtE) Fa:=FW Pl λi j d H Q e q=>by cases e;exact⟨i,j,rfl,rfl,q _ FA⟩
theorem K':Dy X (AG .Gt) FY:=FW b6 λi j d H Q e q=>by cases e;exact⟨i,j,rfl,rfl,q _ FA⟩
theorem dE:Dy X (AG .GtE) GL:=FW S3 λi j d H Q e q=>by cases e;exact⟨i,j,rfl,rfl,q _ FA⟩
theorem rN:Dy X (binaryOp .FloorDiv) yI:=FW gl λi j d H Q e q=>by
 split at e
 ·rename_i h;cases e;exact⟨i,j,rfl,rfl,h,q _ Fm⟩
 ·cases e
theorem bO:Dy X (binaryOp .Mod) fj:=FW SR λi j d H Q e q=>by
 split at e
 ·rename_i h;cases e;exact⟨i,j,rfl,rfl,h,q _ Fm⟩
 ·cases e
theorem Po:Dy X (binaryOp .Pow) Ha:=FW fz λi j d H Q e q=>by
 split at e
 ·rename_i h;cases e;exact⟨i,j,rfl,rfl,⟨h.1,by omega,h.2.2⟩,q _ Fm⟩
 ·cases e
def W3:Bx->O Bx
 |.z (.int i)=>U (.z (.int (-i)))
 |_=>Y
theorem Zy:MB X (unaryOp .USub) W3:=DM.imp hV λx H Q q=>by
 obtain⟨a,c,b,e,q⟩:=q;unfold W3 at e;split at e
 ·rename_i i;cases e;exact⟨i,K8 b,q _ H (AV.refl H) trivial CN⟩
 ·cases e
def W4:Nat:=1000000
theorem V':W4<=AA:=by decide
theorem cq{b:A1}{us:Z V}{Q:VK}(I:L2.AU X AN σ H s)(t:qO X.K H l vs)(hb:qO X.K H b us)(i:vs.length+us.length<=AA)(q:∀p,H p=Y->Q (.ref p) (B0 H p (.lst (vs++us)))):
  A7 (A8 X.prog X.w) X.A (binaryOp .Add (.ref l) (.ref b)) (EP X AN σ Q) X.xe s:=by
 obtain⟨AQ,d,⟨⟨x,D,z,sl⟩,m,e1,c1,h,g⟩,z1⟩:=I.list t;obtain⟨a,f,⟨⟨cls2,C,u,n⟩,j,e2,c2,d2,c⟩,z2⟩:=I.list hb;simp only at c1 h g c2 d2 c;subst c1 h g c2 d2 c;have y:=d.length;have B:=f.length;have e:AQ.toArray++a.toArray=(AQ++a).toArray:=by simp
 refine concat_meets ⟨_,e1,rfl⟩ ⟨_,e2,rfl⟩ noFill_list_add seq_list_add PySem.F.slot_list_add PySem.F.entry_list_add (PySem.F.args_list_add_2 _ _) (list_addW l b AQ.toArray a.toArray m j Y Y sl n (by rw[zI,zI];omega)) ⟨e1,e2,?_⟩;rw[e];exact⟨.ref s.heap.objs.size,_,I.laid (t':=s.toks) (o:=.lst (vs++us)) (λb v q=>zd _ q) (zg _) ⟨by rw[zS];exact i,_,0,d.append f,zv _ rfl⟩,rfl,q _ (I.hok.fresh (zg _))⟩
theorem WF{b:A1}{us:Z V}{Q:VK}(I:L2.AU X AN σ H s)(c:yh X.K H l vs)(hb:yh X.K H b us)(j:vs.length+us.length<=AA)(g:vs=[]->Q (.ref b) H)(q1:us=[]->Q (.ref l) H)(q2:∀p,H p=Y->Q (.ref p) (B0 H p (.tup (vs++us)))):
  A7 (A8 X.prog X.w) X.A (binaryOp .Add (.ref l) (.ref b)) (EP X AN σ Q) X.xe s:=by
 by_cases a:vs=[]
 ·obtain⟨AQ,m,⟨⟨t,o,v,sl⟩,e1,c1,q,e⟩,z1⟩:=I.tuple c;obtain⟨h,u,⟨⟨cls2,n,x,f⟩,e2,c2,i,d⟩,z2⟩:=I.tuple hb;simp only at c1 e c2 d;subst c1 e c2 d;have:AQ=[]:=m.Dv.mpr a;exact concat_meets ⟨_,e1,rfl⟩ ⟨_,e2,rfl⟩ noFill_tuple_add seq_tuple_add PySem.F.slot_tuple_add Yf (y3 _ _)
   (tuple_addW0 l b AQ.toArray h.toArray q i o n sl f (by simp[this])) ⟨e1,e2,⟨.ref b,H,I,rfl,g a⟩⟩
 ·exact fm AN s σ H (.ref l) (.ref b) (.ref l) (.ref b) Q I S S ⟨l,b,vs,us,rfl,rfl,c,hb,a,j,q1,λ_=>q2⟩
def dH:Bx->Bx->O Bx
 |.z (.int i),.z (.int j)=>U (.z (.int (i+j)))
 |.z (.str i),.z (.str j)=>if i.length+j.length<=W4 then U (.z (.str (i++j)))else Y
 |.z (.tup xs),.z (.tup ys)=>if xs.length+ys.length<=W4 then U (.z (.tup (xs++ys)))else Y
 |a,b=>(oV a).bind λxs=>(oV b).bind λys=>if xs.length+ys.length<=W4 then U (.o (xs++ys))else Y
theorem D5(i j:AJ):(i++j).length=i.length+j.length:=by
 show(i.cps++j.cps).size=_;rw[KS];rfl
theorem bL:Dy X (binaryOp .Add) dH:=by
 intro AN s σ H x y v u Q I t o h;obtain⟨a,b,c,g,w,e,q⟩:=h;have B:=V';unfold dH at e;split at e
 ·rename_i i j;cases e;exact bb AN s σ H x y v u Q I t o ⟨i,j,K8 g,K8 w,q _ H (AV.refl H) trivial CN⟩
 ·rename_i i j;split at e
  ·rename_i A;cases e;exact RM AN s σ H x y v u Q I t o ⟨i,j,(Ss g).1,(Ss w).1,by omega,q _ H (AV.refl H) trivial (Fc (by rw[D5];omega))⟩
  ·cases e
 ·rename_i xs ys;split at e
  ·rename_i A;cases e;obtain⟨l,vs,rfl,sl,d⟩:=FK g;obtain⟨m,us,rfl,n,f⟩:=FK w;cases t;cases o;have h1:=d.length;have h2:=f.length;refine WF I sl n (by omega) (λz=>q _ H (AV.refl H) trivial ?_) (λz=>q _ H (AV.refl H) trivial ?_) λp hp=>q _ _ (bI hp) trivial ?_
   ·unfold bh AW;refine⟨m,us,rfl,n,?_⟩;have:xs=[]:=by subst z;exact List.eq_nil_of_length_eq_zero (by simpa using h1.symm)
    rw[this,kM];exact f
   ·unfold bh AW;refine⟨l,vs,rfl,sl,?_⟩;have:ys=[]:=by subst z;exact List.eq_nil_of_length_eq_zero (by simpa using h2.symm)
    rw[this,ZY];exact d
   ·unfold bh AW;exact⟨p,_,rfl,.inl (.inl aU),(d.append f).kp (.of (bI hp))⟩
  ·cases e
 ·obtain⟨xs,ea,e⟩:=AT e;obtain⟨ys,eb,e⟩:=AT e;split at e
  ·rename_i A;cases e;obtain⟨l,vs,rfl,sl,d⟩:=g.HW ea;obtain⟨m,us,rfl,n,f⟩:=w.HW eb;cases t;cases o;have h1:=d.length;have h2:=f.length;refine cq I sl n (by omega) λp hp=>q _ _ (bI hp) (λa ea=>by cases ea;exact hp) ⟨p,_,rfl,aU,(d.append f).kp (.of (bI hp))⟩
  ·cases e
def uU:Bx->Bx->O Bx
 |.z (.int i),.z (.int j)=>if(-(2 ^ 64)<i/\i<2 ^ 64)\/(-(2 ^ 64)<j/\j<2 ^ 64)then U (.z (.int (i*j)))else Y
 |.z (.str x),.z (.int n)=>if n<=1000 ∧ -1000<=n/\x.length<=1000 then U (.z (.str (Txt.mul x n)))else Y
 |_,_=>Y
theorem wQ(x:Array Nat):∀(n:Nat) (a:Array Nat),((List.replicate n x).foldl (·++·) a).size=a.size+n*x.size
 |0,a=>by simp
 |n+1,a=>by
  rw[yk,QO,wQ x n,KS,Nat.succ_mul];omega
theorem K9(x:AJ)(n:Int):(Txt.mul x n).length<=n.toNat*x.length+x.length:=by
 unfold Txt.mul;split
 ·exact Q1 _
 ·split
  ·exact Nat.le_add_left _ _
  ·show((List.replicate n.toNat x.cps).foldl (·++·) #[]).size<=_;rw[wQ];show(#[]:Array Nat).size+n.toNat*x.cps.size<=n.toNat*x.cps.size+x.cps.size;simp
theorem oY:Dy X (binaryOp .Mult) uU:=by
 intro AN s σ H x y v u Q I m l h;obtain⟨a,b,c,g,o,e,q⟩:=h;unfold uU at e;split at e
 ·rename_i i j;split at e
  ·rename_i d;cases e;exact S0 AN s σ H x y v u Q I m l ⟨i,j,K8 g,K8 o,d,q _ H (AV.refl H) trivial CN⟩
  ·cases e
 ·rename_i f n;split at e
  ·rename_i d;cases e;obtain⟨rfl,hx⟩:=Ss g;have w:=K8 o;subst w;obtain⟨t,rfl⟩:=m;obtain⟨p,rfl⟩:=l;have hs:AA=16777216:=sizeLine_eq;have A:n.toNat*f.length<=1000*1000:=Nat.mul_le_mul (by omega) d.2.2;refine SB.mul ⟨?_,λh1 h2=>?_,λh1 h2=>?_⟩ λp k=>⟨.str _,H,I.tok _,⟨_,rfl⟩,q _ H (AV.refl H) trivial (Fc (ZH (K9 f n) (by omega)))⟩
   ·have e1:decide (n < -(2 ^ 63:Int))=false:=ZE (by omega);have e2:decide (n>=2 ^ 63)=false:=ZE (by omega);rw[e1,e2];rfl
   ·have z:0<n:=by omega
    have:(1000:Int)<=(2 ^ 63-1) / n:=(Int.le_ediv_iff_mul_le z).mpr (by omega);omega
   ·show decide (f.length*n.toNat>AA)=false;rw[Nat.mul_comm];exact ZE (by omega)
  ·cases e
 ·cases e
def JF(i j:AJ):Bool:=!(Builtin.Str.occurrences j i 0 j.length 1).isEmpty
def yJ:Dt->Bool
 |.non=>true
 |.bl _=>true
 |.int _=>true
 |.str _=>true
 |_=>false
def CI(x:Dt)(ys:Z Dt):O Bool:=if yJ x=true/\ys.all yJ=true then U (ys.any λy=>match uz y x with|some true=>true|_=>false)else Y
def wK:Bx->O (Z Dt)
 |.z (.lst ds)=>U ds
 |.z (.tup ds)=>U ds
 |.l ds=>U ds
 |.o ds=>U ds
 |_=>Y
def De:Bx->Bx->O Bool
 |.z (.str i),.z (.str j)=>U (JF i j)
 |.z d,b=>(wK b).bind λys=>CI d ys
 |_,_=>Y
def CC(a b:Bx):O Bx:=(De a b).bind λk=>U (.z (.bl k))
def ZD(a b:Bx):O Bx:=(De a b).bind λk=>U (.z (.bl (!k)))
theorem O1(r:AW K H d v)(f:yJ d=true):tZ v=true:=by
 cases d<;>first|(cases f;done)|skip
 all_goals simp only[AW]at r
 ·subst r;rfl
 ·subst r;rfl
 ·subst r;rfl
 ·obtain⟨rfl,_⟩:=r;rfl
theorem JG{K:B1}{H:Hp}:∀{ds:Z Dt} {vs:Z V},aK K H ds vs->ds.all yJ=true->vs.all tZ=true
 |[],_,h,_=>by simp only[aK]at h;subst h;rfl
 |d::ds,_,h,f=>by
  simp only[aK]at h;obtain⟨v,r,rfl,h1,h2⟩:=h;rw[kr,Zz]at f;rw[kr,O1 h1 f.1,JG h2 f.2];rfl
theorem La(b:Bool):(match U b with|some true=>true|_=>false)=b:=by cases b<;>rfl
theorem O3{e:Dt}{x y:V}(a:AW K H d x)(b:AW K H e y)(fd:yJ d=true)(fe:yJ e=true):D2 x y=(match uz d e with|some true=>true|_=>false):=by
 cases d<;>first|(cases fd;done)|skip
 all_goals (cases e<;>first|(cases fe;done)|skip)
 all_goals simp only[AW]at a b
 all_goals first
  |(subst a;subst b;exact(La _).symm)
  |(obtain⟨rfl,_⟩:=a;subst b;exact(La _).symm)
  |(subst a;obtain⟨rfl,_⟩:=b;exact(La _).symm)
  |(obtain⟨rfl,_⟩:=a;obtain⟨rfl,_⟩:=b;exact(La _).symm)
theorem Vh{K:B1}{H:Hp}{d:Dt}{x:V}(a:AW K H d x)(fd:yJ d=true):∀{ds:Z Dt} {vs:Z V},aK K H ds vs->ds.all yJ=true->Fr x vs=ds.any λy=>match uz y d with|some true=>true|_=>false
 |[],_,h,_=>by simp only[aK]at h;subst h;rfl
 |e::ds,_,h,f=>by
  simp only[aK]at h;obtain⟨v,r,rfl,h1,h2⟩:=h;rw[kr,Zz]at f;have:=Vh a fd h2 f.2;unfold Fr at this ⊢;rw[kq,kq,O3 h1 a f.1 fd,this]
theorem uV(h:bh K H b v)(e:wK b=U ds):∃a vs,v=.ref a/\(qO K H a vs\/yh K H a vs)/\aK K H ds vs:=by
 cases b with
 |z d=>
  cases d<;>first|(cases e;done)|skip
  ·cases e;obtain⟨a,vs,e,q,r⟩:=FK h;exact⟨a,vs,e,.inr q,r⟩
  ·cases e;obtain⟨a,vs,e,q,r⟩:=h.HW rfl;exact⟨a,vs,e,.inl q,r⟩
 |l c=>
  cases e;obtain⟨a,vs,e,q,r⟩:=h.HW rfl;exact⟨a,vs,e,.inl q,r⟩
 |o c=>
  cases e;obtain⟨a,vs,e,q,r⟩:=h.HW rfl;exact⟨a,vs,e,.inl q,r⟩
 |n _=>cases e
 |m _ _=>cases e
theorem JH{a:Bx}{x y:V}{k:Bool}(f:bh X.K H a x)(l:bh X.K H b y)(e:De a b=U k):
  (∃i j,x=.str i/\y=.str j/\k=JF i j)\/(∃p xs,y=.ref p/\(qO X.K H p xs\/yh X.K H p xs)/\tZ x=true/\xs.all tZ=true/\k=Fr x xs):=by
 unfold De at e;split at e
 ·rename_i i j;cases e;exact .inl ⟨i,j,(Ss f).1,(Ss l).1,rfl⟩
 ·rename_i d _;obtain⟨ys,m,e⟩:=AT e;unfold CI at e;split at e
  ·rename_i c;cases e;obtain⟨p,vs,rfl,sq,h⟩:=uV l m;have g:AW X.K H d x:=f;exact .inr ⟨p,vs,rfl,sq,O1 g c.1,JG h c.2,(Vh g c.1 h c.2).symm⟩
  ·cases e
 ·cases e
theorem JK:Dy X (AG .In) CC:=by
 intro AN s σ H x y v u Q I d f h;obtain⟨a,b,c,l,g,e,q⟩:=h;obtain⟨k,ek,e⟩:=AT e;cases e;rcases JH l g ek with⟨i,j,rfl,rfl,rfl⟩|⟨p,xs,rfl,sq,f1,f2,rfl⟩
 ·exact Ww AN s σ H _ _ v u Q I d f ⟨i,j,rfl,rfl,q _ H (AV.refl H) trivial Im⟩
 ·exact Wz AN s σ H _ _ v u Q I d f ⟨p,xs,rfl,sq,f1,f2,q _ H (AV.refl H) trivial Im⟩
theorem O2:Dy X (AG .NotIn) ZD:=by
 intro AN s σ H x y v u Q I d f h;obtain⟨a,b,c,l,g,e,q⟩:=h;obtain⟨k,ek,e⟩:=AT e;cases e;rcases JH l g ek with⟨i,j,rfl,rfl,rfl⟩|⟨p,xs,rfl,sq,f1,f2,rfl⟩
 ·exact KD AN s σ H _ _ v u Q I d f ⟨i,j,rfl,rfl,q _ H (AV.refl H) trivial Im⟩
 ·exact KC AN s σ H _ _ v u Q I d f ⟨p,xs,rfl,sq,f1,f2,q _ H (AV.refl H) trivial Im⟩
def Ga:Bx->Bool
 |.z .non=>true
 |_=>false
theorem JL(h:bh K H b v):decide (v=.non)=Ga b:=by
 cases b with
 |z d=>
  cases d<;>simp only[bh,AW]at h
  ·subst h;rfl
  ·subst h;rfl
  ·subst h;rfl
  ·obtain⟨rfl,_⟩:=h;rfl
  ·obtain⟨_,_,rfl,_⟩:=h;rfl
  ·obtain⟨_,_,rfl,_⟩:=h;rfl
  ·obtain⟨_,_,rfl,_⟩:=h;rfl
 |l ds=>obtain⟨_,_,rfl,_⟩:=h;rfl
 |o ds=>obtain⟨_,_,rfl,_⟩:=h;rfl
 |n ds=>obtain⟨_,_,rfl,_⟩:=h;rfl
 |m ds _=>obtain⟨_,_,rfl,_⟩:=h;rfl
def DA(a:Bx):Bx->O Bx
 |.z .non=>U (.z (.bl (Ga a)))
 |_=>Y
def Bo(a:Bx):Bx->O Bx
 |.z .non=>U (.z (.bl (!Ga a)))
 |_=>Y
theorem DD:Dy X (AG .Is) DA:=uL.imp X2 λx y H Q q=>by
 obtain⟨a,b,c,f,d,e,q⟩:=q;unfold DA at e;split at e
 ·cases e;simp only[bh,AW]at d;exact⟨d,by rw[JL f];exact q _ H (AV.refl H) trivial Im⟩
 ·cases e
theorem DX:Dy X (AG .IsNot) Bo:=uL.imp ax λx y H Q q=>by
 obtain⟨a,b,c,f,d,e,q⟩:=q;unfold Bo at e;split at e
 ·cases e;simp only[bh,AW]at d;exact⟨d,by rw[JL f];exact q _ H (AV.refl H) trivial Im⟩
 ·cases e
def gK:Bx->Bx->O Bx
 |.z (.str x),.z (.int i)=>(Ie x.cps.toList i).bind λc=>U (.z (.str ⟨#[c]⟩))
 |b,.z (.int i)=>(wK b).bind λds=>(Ie ds i).bind λd=>U (.z d)
 |_,_=>Y
theorem PD{i:Int}(r:aK K H ds vs)(e:Ie ds i=U d):∃v,Ie vs i=U v/\AW K H d v:=by
 unfold Ie at e ⊢;rw[r.length];obtain⟨j,a,e⟩:=AT e;rw[a];exact r.get e
theorem bD{a b:Expr}(j:QV X a fa)(hb:QV X b fb)(hs:U7 b:=by intro _ _;with_unfolding_all rfl):QV X (.Subscript a b pos) (b2 gK fa fb):=⟨have j:=j.run;have hb:=hb.run;Ii (SS On j hb hs) λσ H Q h=>by
 obtain⟨H0,ρ,c,E,e,q⟩:=h;obtain⟨a,ea,e⟩:=AT e;obtain⟨b,eb,e⟩:=AT e;refine⟨H0,ρ,a,E,ea,λv H1 f D y=>⟨H0,ρ,b,E.grow f,eb,λu H2 g C n=>?_⟩⟩;have l:=y.same g;unfold gK at e;split at e
 ·rename_i x i;obtain⟨t,s,e⟩:=AT e;cases e;exact .inr (.inr ⟨_,_,t,(Ss l).1,K8 n,(Ss l).2,s,q _ _ (f.trans g) trivial (Fc (by show(1:Nat)<=AA;decide))⟩)
 ·obtain⟨ds,A,e⟩:=AT e;obtain⟨d,z,e⟩:=AT e;cases e;obtain⟨p,vs,rfl,sq,B⟩:=uV l A;obtain⟨w,m,o⟩:=PD B z;have hi:=K8 n;rcases sq with sq|sq
  ·exact .inl ⟨p,vs,_,w,rfl,hi,sq,m,q _ _ (f.trans g) trivial o⟩
  ·exact .inr (.inl ⟨p,vs,_,w,rfl,hi,sq,m,q _ _ (f.trans g) trivial o⟩)
 ·cases e⟩
theorem Sv:AH "int"=U (.type "int"):=by decide +kernel
theorem WP:AH "str"=U (.type "str"):=by decide +kernel
theorem qW:AH "tuple"=U (.type "tuple"):=by decide +kernel
theorem Lb:AH "list"=U (.type "list"):=by decide +kernel
theorem wR:AH "isinstance"=U (.builtin "isinstance"):=by decide +kernel
theorem rO:AH "len"=U (.builtin "len"):=by decide +kernel
theorem cx:AH "abs"=U (.builtin "abs"):=by decide +kernel
theorem ZF:AH "all"=U (.builtin "all"):=by decide +kernel
theorem Sc:AH "any"=U (.builtin "any"):=by decide +kernel
theorem Ld:AH "min"=U (.builtin "min"):=by decide +kernel
theorem rP:AH "max"=U (.builtin "max"):=by decide +kernel
theorem qX:AH "sorted"=U (.builtin "sorted"):=by decide +kernel
def lA:Dt->Bool
 |.str _=>true
 |_=>false
theorem UI(I:L2.AU X AN σ H s){x:V}{v:A0}{Q:VK}(f:qJ X.K H d x)(g:As x v)(q:Q (.bl (lA d)) H):A7 (A8 X.prog X.w) X.A (call (.builtin "isinstance") [v,.type "str"]) (EP X AN σ Q) X.xe s:=by
 cases d with
 |non=>simp only[qJ,AW]at f;subst f;cases g;exact IsiPair.NoneType_str ⟨.bl _,H,I.tok _,rfl,q⟩
 |bl b=>simp only[qJ,AW]at f;subst f;cases g;exact IsiPair.bool_str ⟨.bl _,H,I.tok _,rfl,q⟩
 |int b=>simp only[qJ,AW]at f;subst f;obtain⟨t,rfl⟩:=g;exact IsiPair.int_str ⟨.bl _,H,I.tok _,rfl,q⟩
 |str b=>simp only[qJ,AW]at f;obtain⟨rfl,_⟩:=f;obtain⟨t,rfl⟩:=g;exact IsiPair.str_str ⟨.bl _,H,I,rfl,q⟩
 |tup ds=>simp only[qJ,AW]at f;obtain⟨a,vs,rfl,sq,_⟩:=f;cases g;obtain⟨_,_,p,_⟩:=I.tuple sq;exact IsiPair.isTuple_str p (λ_ _ e=>e) ⟨.bl _,H,I.tok _,rfl,q⟩
 |lst ds=>simp only[qJ]at f;obtain⟨a,vs,rfl,sq,_⟩:=f;cases g;obtain⟨_,_,p,_⟩:=I.list sq;exact IsiPair.isList_str p.isList (λ_ _ e=>e) ⟨.bl _,H,I.tok _,rfl,q⟩
 |emp=>simp only[qJ,AW]at f;obtain⟨a,o,rfl,sq⟩:=f;cases g;obtain⟨h,e,c⟩:=vY I sq;exact IsiPair.dict_str e c ⟨.bl _,H,I.tok _,rfl,q⟩
theorem Sw{p:Pos}(he:QV X e f)(j:Gl X "isinstance")(y:X.mg "isinstance"=Y)(o:Gl X "str")(m:X.mg "str"=Y)(hs:A9 [e,.Name "str" p2] X.env=[(false,eval e X.env),(false,eval (.Name "str" p2) X.env)]:=by rfl):QV X (.Call (.Name "isinstance" p) [e,.Name "str" p2] [] pos) (b1 (λb=>if oX b=true then Y else U (.z (.bl (lA (toD b))))) f):=⟨by
 have he:=he.run;have l:fK X (.builtin "isinstance") (λxs H Q=>∃b x,xs=[x,.ty "str"]/\bh X.K H b x/\oX b=false/\Q (.bl (lA (toD b))) H):=by
  intro AN s σ H xs us Q I r h;obtain⟨b,x,rfl,w,i,q⟩:=h;obtain⟨u,A,rfl,a,n⟩:=DC r;cases n;exact UI I (w.toD i) a q
 have g:PA X [e,.Name "str" p2] (Oa (tF X.K f) (Oa (tC (.ty "str")) HG)):=bw he (bw (Ko o m (v:=.ty "str") (u:=.type "str") WP S) d7) (by rw[hs]<;>rfl);refine Ii (gq l j y wR g (by decide) (by decide) (by rw[hs]<;>rfl) S) λσ H Q h=>?_;obtain⟨H0,ρ,c,E,e,q⟩:=h;obtain⟨b,eb,e⟩:=AT e;split at e
 ·cases e
 rename_i t;cases e;exact⟨H0,ρ,b,E,eb,λv H1 d B a=>⟨b,v,rfl,a,by simpa using t,q _ _ d trivial Im⟩⟩⟩
def BN:Dt->Bool
 |.lst _=>true
 |_=>false
theorem ZG(I:L2.AU X AN σ H s){x:V}{v:A0}{Q:VK}(f:qJ X.K H d x)(g:As x v)(q:Q (.bl (BN d)) H):A7 (A8 X.prog X.w) X.A (call (.builtin "isinstance") [v,.type "list"]) (EP X AN σ Q) X.xe s:=by
 cases d with
 |non=>simp only[qJ,AW]at f;subst f;cases g;exact IsiPair.NoneType_list ⟨.bl _,H,I.tok _,rfl,q⟩
 |bl b=>simp only[qJ,AW]at f;subst f;cases g;exact IsiPair.bool_list ⟨.bl _,H,I.tok _,rfl,q⟩
 |int b=>simp only[qJ,AW]at f;subst f;obtain⟨t,rfl⟩:=g;exact IsiPair.int_list ⟨.bl _,H,I.tok _,rfl,q⟩
 |str b=>simp only[qJ,AW]at f;obtain⟨rfl,_⟩:=f;obtain⟨t,rfl⟩:=g;exact IsiPair.str_list ⟨.bl _,H,I.tok _,rfl,q⟩
 |tup ds=>simp only[qJ,AW]at f;obtain⟨a,vs,rfl,sq,_⟩:=f;cases g;obtain⟨_,_,p,_⟩:=I.tuple sq;exact IsiPair.isTuple_list p (λ_ _ e=>e) ⟨.bl _,H,I.tok _,rfl,q⟩
 |lst ds=>simp only[qJ]at f;obtain⟨a,vs,rfl,sq,_⟩:=f;cases g;obtain⟨_,_,p,_⟩:=I.list sq;exact IsiPair.isList_list p.isList (λ_ _ e=>e) ⟨.bl _,H,I,rfl,q⟩
 |emp=>simp only[qJ,AW]at f;obtain⟨a,o,rfl,sq⟩:=f;cases g;obtain⟨h,e,c⟩:=vY I sq;exact IsiPair.dict_list e c ⟨.bl _,H,I.tok _,rfl,q⟩
theorem O4{p:Pos}(he:QV X e f)(j:Gl X "isinstance")(y:X.mg "isinstance"=Y)(o:Gl X "list")(m:X.mg "list"=Y)(hs:A9 [e,.Name "list" p2] X.env=[(false,eval e X.env),(false,eval (.Name "list" p2) X.env)]:=by rfl):QV X (.Call (.Name "isinstance" p) [e,.Name "list" p2] [] pos) (b1 (λb=>if oX b=true then Y else U (.z (.bl (BN (toD b))))) f):=⟨by
 have he:=he.run;have l:fK X (.builtin "isinstance") (λxs H Q=>∃b x,xs=[x,.ty "list"]/\bh X.K H b x/\oX b=false/\Q (.bl (BN (toD b))) H):=by
  intro AN s σ H xs us Q I r h;obtain⟨b,x,rfl,w,i,q⟩:=h;obtain⟨u,A,rfl,a,n⟩:=DC r;cases n;exact ZG I (w.toD i) a q
 have g:PA X [e,.Name "list" p2] (Oa (tF X.K f) (Oa (tC (.ty "list")) HG)):=bw he (bw (Ko o m (v:=.ty "list") (u:=.type "list") Lb S) d7) (by rw[hs]<;>rfl);refine Ii (gq l j y wR g (by decide) (by decide) (by rw[hs]<;>rfl) S) λσ H Q h=>?_;obtain⟨H0,ρ,c,E,e,q⟩:=h;obtain⟨b,eb,e⟩:=AT e;split at e
 ·cases e
 rename_i t;cases e;exact⟨H0,ρ,b,E,eb,λv H1 d B a=>⟨b,v,rfl,a,by simpa using t,q _ _ d trivial Im⟩⟩⟩
def ii(K:B1)(f:Ev->O (O Int)):TO:=λσ H Q=>∃H0 ρ o,bM K H0 H σ ρ/\f ρ=U o/\∀H',AV H H'->Q o H'
def VE(X:Cx)(e:O Expr)(f:Ev->O (O Int)):Prop:=PO X e (ii X.K f)
structure FS (X:Cx) (e:Option Expr) (f:Ev->Option (Option Int)):Prop where
 run:VE X e f
theorem NM{e:O Expr}{t t':TO}(h:PO X e t)(m:∀ σ H Q,t' σ H Q->t σ H Q):PO X e t':=λAN s σ H Q I q=>h AN s σ H Q I (m σ H Q q)
def iM:Ev->O (O Int):=λ_=>U Y
theorem fu  :FS X Y iM:=⟨NM Sa λσ H Q h=>by
 obtain⟨H0,ρ,o,E,e,q⟩:=h;cases e;exact q H (AV.refl H)⟩
def IN:Bx->O (O Int)
 |.z (.int i)=>U (U i)
 |_=>Y
def jO(f:Ev->O Bx):Ev->O (O Int):=λρ=>(f ρ).bind IN
theorem dR(h:QV X e f):FS X (U e) (jO f):=⟨have h:=h.run;NM (i7 h) λσ H Q q=>by
 obtain⟨H0,ρ,o,E,e,q⟩:=q;obtain⟨b,eb,e⟩:=AT e;refine⟨H0,ρ,b,E,eb,λv H1 a d c=>?_⟩;unfold IN at e;split at e
 ·rename_i i;cases e;exact⟨i,K8 c,q H1 a⟩
 ·cases e⟩
def C0(xs:Z Dt)(lo hi:O Int):Z Dt:=(xs.drop (HT.iK xs.length 0 lo)).take (HT.iK xs.length xs.length hi-HT.iK xs.length 0 lo)
theorem O5(r:aK K H ds vs)(lo hi:O Int):aK K H (C0 ds lo hi) (Oc vs lo hi):=by
 unfold C0 Oc;rw[r.length];exact(r.drop _).take _
theorem ZJ(ds:Z Dt)(h1:HT.iK ds.length 0 lo=0)(h2:HT.iK ds.length ds.length hi=ds.length):C0 ds lo hi=ds:=by
 unfold C0;rw[h1,h2];simp
theorem yK{t sl:A1}{b c:A0}{Q:B9}(a:IsTup s.heap t items)(hs:s.heap.IsSliceOf sl b c .none)(pl:IsPart b lo)(d:IsPart c hi)(h1:HT.iK items.size 0 lo=0)(h2:HT.iK items.size items.size hi=items.size)(h:Q (.ref t) s):A7 (A8 prog w) A (getItem (.ref t) (.ref sl)) Q E s:=by
 obtain⟨os,i,e,j⟩:=id hs;have g:s.TypeIs (.ref sl) "slice":=⟨os,i,e⟩;unfold getItem
 try with_reducible refine qA ?_
 first|refine zb (ze ?_)|skip
 refine zb (wpAny_sequenceKey a.typeIs (by decide) ?_);refine zb (KB (name:=Str.ofString "__getitem__") a.typeIs PyProof.Rows.slot_tuple_getitem
  (kf PyProof.Rows.slot_tuple_getitem a.typeIs entry_tuple_getitem ?_ (args_tuple_getitem _ _)))
 show A7 _ _ (Builtin.Tuple.tupleItemsOf (.ref t) >>= _) _ _ s;refine zb (tupleItemsOf_ a ?_);refine zb (QR g ?_);rw[zh (by decide)];refine zb (HT.qQ hs pl d ?_);have f:(((HT.iK items.size 0 lo:Nat):Int)==0&&(1:Int)==1&&(HT.iK items.size items.size hi-HT.iK items.size 0 lo)==items.size)=true:=by
  rw[h1,h2];simp
 show A7 _ _ (if(((HT.iK items.size 0 lo:Nat):Int)==0&&(1:Int)==1&&(HT.iK items.size items.size hi-HT.iK items.size 0 lo)==items.size)=true then _ else _) _ _ s;rw[zh f]
 first
  |refine zb (zb (QR a.typeIs (ze ?_)))
  |refine zb (QR a.typeIs (zb (ze ?_)))
  |refine zb (QR a.typeIs ?_)
 rw[zh (by decide)]
 first
  |exact zb (Kn (ze ⟨_,rfl,ze h⟩))
  |exact zb (Kn (zb (ze (ze ⟨_,rfl,ze h⟩))))
def EK(b:Bx)(lo hi:O Int):O Bx:=match b with
 |.z (.str x)=>U (.z (.str (Txt.slice x lo hi)))
 |.z (.tup ds)=>U (.z (.tup (C0 ds lo hi)))
 |b=>(oV b).bind λds=>U (.o (C0 ds lo hi))
def fE(K:B1):V->O Int->O Int->Hp->VK->Prop:=λx lo hi H Q=>∃b c,bh K H b x/\EK b lo hi=U c/\∀w H',AV H H'->Nw H c w->bh K H' c w->Q w H'
theorem SU:GG X (fE X.K):=by
 intro AN s σ H x v B D lo hi sl Q I w hs pl f h;obtain⟨b,c,z,e,q⟩:=h;unfold EK at e;split at e
 ·rename_i y;cases e;obtain⟨rfl,g⟩:=Ss z;obtain⟨t,rfl⟩:=w;refine⟨"str", _,F.slot_str_getitem.lookup,typeIs_str _ _ _,?_⟩;obtain⟨o,e1,e2,e3⟩:=hs;have n:∀G k,EP X AN σ Q (.str (Txt.slice y lo hi) G) { s with toks:=k }:=λG k=>⟨.str _,H,I.tok _,⟨_,rfl⟩,q _ H (AV.refl H) trivial (Fc (ZH (Txt.slice_le y _ _) g))⟩;cases pl with
  |none=>
   cases f with
   |none=>exact KA (l:=Y) (u:=Y) (st:=Y) ⟨o,e1,e2,e3⟩ S (post_val_or_str ⟨ZH (Txt.slice_le y _ _) g,n⟩)
   |int j A=>exact KA (l:=Y) (u:=U (j,A)) (st:=Y) ⟨o,e1,e2,e3⟩ S (post_val_or_str ⟨ZH (Txt.slice_le y _ _) g,n⟩)
  |int i E=>
   cases f with
   |none=>exact KA (l:=U (i,E)) (u:=Y) (st:=Y) ⟨o,e1,e2,e3⟩ S (post_val_or_str ⟨ZH (Txt.slice_le y _ _) g,n⟩)
   |int j A=>exact KA (l:=U (i,E)) (u:=U (j,A)) (st:=Y) ⟨o,e1,e2,e3⟩ S (post_val_or_str ⟨ZH (Txt.slice_le y _ _) g,n⟩)
 ·rename_i ds;cases e;obtain⟨a,vs,rfl,sq,m⟩:=FK z;by_cases d:HT.iK vs.length 0 lo=0/\HT.iK vs.length vs.length hi=vs.length
  ·cases w;obtain⟨AQ,r,C,M⟩:=I.tuple sq;have J:AQ.toArray.size=vs.length:=by rw[zI];exact r.length.symm
   refine⟨"tuple", _,PyProof.Rows.slot_tuple_getitem.lookup,C.typeIs,yK C hs pl f (by rw[J];exact d.1) (by rw[J];exact d.2) ⟨.ref a,H,I,rfl,q _ H (AV.refl H) trivial ?_⟩⟩;rw[ZJ ds (by rw[<-m.length];exact d.1) (by rw[<-m.length];exact d.2)];exact z
  ·refine a9 AN s σ H _ v B D lo hi sl Q I w hs pl f ⟨a,vs,rfl,sq,d,λp hp=>q _ _ (bI hp) trivial ?_⟩;unfold bh AW;exact⟨p,_,rfl,.inl (.inl aU),(O5 m lo hi).kp (.of (bI hp))⟩
 ·obtain⟨ds,L,e⟩:=AT e;cases e;obtain⟨a,vs,rfl,sq,m⟩:=z.HW L;exact P6 AN s σ H _ v B D lo hi sl Q I w hs pl f ⟨a,vs,rfl,sq,λp hp=>q _ _ (bI hp) (λa ea=>by cases ea;exact hp) ⟨p,_,rfl,aU,(O5 m lo hi).kp (.of (bI hp))⟩⟩
def Gb(f:Ev->O Bx)(fl fh:Ev->O (O Int)):Ev->O Bx:=λρ=>(f ρ).bind λb=>(fl ρ).bind λlo=>(fh ρ).bind λhi=>EK b lo hi
theorem nD{lo hi:O Expr}{fl fh:Ev->O (O Int)}(he:QV X e f)(i:FS X lo fl)(g:FS X hi fh):QV X (.Subscript e (.Slice lo hi Y p2) pos) (Gb f fl fh):=⟨have he:=he.run;have i:=i.run;have g:=g.run;Ii (YZ SU he i g) λσ H Q h=>by
 obtain⟨H0,ρ,c,E,e,q⟩:=h;obtain⟨b,eb,e⟩:=AT e;obtain⟨lo,el,e⟩:=AT e;obtain⟨hi,m,e⟩:=AT e;refine⟨H0,ρ,b,E,eb,λv H1 a u o=>⟨H0,ρ,lo,E.grow a,el,λH2 d=>⟨H0,ρ,hi,E.grow (a.trans d),m,λx j=>?_⟩⟩⟩;have l:=(a.trans d).trans j;exact⟨b,c,(o.same d).same j,e,λw n p t s=>q w n (l.trans p) (t.old l) s⟩⟩
def uW:Z Bx->O Bx
 |[.z (.str x)]=>U (.z (.int x.length))
 |[b]=>(wK b).bind λds=>U (.z (.int ds.length))
 |_=>Y
theorem BM(r:pJ K H [b] vs):∃v,vs=[v]/\bh K H b v:=by
 cases r with
 |cons p t=>cases t;exact⟨_,rfl,p⟩
theorem F3{c:Bx}(r:pJ K H [b,c] vs):∃v u,vs=[v,u]/\bh K H b v/\bh K H c u:=by
 cases r with
 |cons p t=>
  cases t with
  |cons p' a=>cases a;exact⟨_,_,rfl,p,p'⟩
theorem rQ:nC X (.builtin "len") uW:=fK.imp (KH.or KJ) λxs H Q q=>by
 obtain⟨bs,c,b,e,q⟩:=q;unfold uW at e;split at e
 ·rename_i x;cases e;obtain⟨v,rfl,a⟩:=BM b;obtain⟨rfl,hx⟩:=Ss a;exact .inr ⟨x,rfl,hx,q _ H (AV.refl H) trivial CN⟩
 ·obtain⟨ds,d,e⟩:=AT e;cases e;obtain⟨v,rfl,a⟩:=BM b;obtain⟨p,vs,rfl,sq,f⟩:=uV a d;exact .inl ⟨p,vs,rfl,sq,by rw[f.length];exact q _ H (AV.refl H) trivial CN⟩
 ·cases e
def ZK:Z Bx->O Bx
 |[.z (.int i)]=>U (.z (.int (if i<0 then -i else i)))
 |_=>Y
theorem im:nC X (.builtin "abs") ZK:=fK.imp YT λxs H Q q=>by
 obtain⟨bs,c,a,e,q⟩:=q;unfold ZK at e;split at e
 ·rename_i i;cases e;obtain⟨v,rfl,b⟩:=BM a;have:=K8 b;subst this;exact⟨i,rfl,q _ H (AV.refl H) trivial CN⟩
 ·cases e
def Sx:Z Bx->O Bx
 |[.z (.int i)]=>U (.z (.int i))
 |[.z (.bl k)]=>U (.z (.int (if k then 1 else 0)))
 |_=>Y
theorem Sy:nC X (.type "int") Sx:=fK.imp Wx λxs H Q q=>by
 obtain⟨bs,c,b,e,q⟩:=q;unfold Sx at e;split at e
 ·rename_i i;cases e;obtain⟨v,rfl,a⟩:=BM b;have:=K8 a;subst this;exact .inl ⟨i,rfl,q _ H (AV.refl H) trivial CN⟩
 ·rename_i k;cases e;obtain⟨v,rfl,a⟩:=BM b;simp only[bh,AW]at a;subst a;exact .inr ⟨k,rfl,q _ H (AV.refl H) trivial CN⟩
 ·cases e
def O6:Z Bx->O Bx
 |[b]=>(wK b).bind λds=>U (.o ds)
 |_=>Y
theorem f6:nC X (.type "list") O6:=fK.imp KN λxs H Q q=>by
 obtain⟨bs,c,h,e,q⟩:=q;unfold O6 at e;split at e
 ·obtain⟨ds,f,e⟩:=AT e;cases e;obtain⟨v,rfl,d⟩:=BM h;obtain⟨p,vs,rfl,sq,g⟩:=uV d f;exact⟨p,vs,rfl,sq,λl b=>q _ _ (bI b) (λa ea=>by cases ea;exact b) ⟨l,vs,rfl,aU,g.kp (.of (bI b))⟩⟩
 ·cases e
def lB:Z Bx->O Bx
 |[b]=>(wK b).bind λds=>U (.z (.tup ds))
 |_=>Y
theorem qY:nC X (.type "tuple") lB:=fK.imp Ih λxs H Q q=>by
 obtain⟨bs,c,g,e,q⟩:=q;unfold lB at e;split at e
 ·obtain⟨ds,f,e⟩:=AT e;cases e;obtain⟨v,rfl,d⟩:=BM g;obtain⟨p,vs,rfl,sq,b⟩:=uV d f;refine⟨p,vs,rfl,?_⟩;rcases sq with sq|sq
  ·refine .inl ⟨sq,λl a=>q _ _ (bI a) trivial ?_⟩;unfold bh AW;exact⟨l,vs,rfl,.inl (.inl aU),b.kp (.of (bI a))⟩
  ·refine .inr ⟨sq,q _ H (AV.refl H) trivial ?_⟩;unfold bh AW;exact⟨p,vs,rfl,sq,b⟩
 ·cases e
def Gd:Z Dt->O (Z Bool)
 |[]=>U []
 |.bl b::ds=>(Gd ds).bind λbs=>U (b::bs)
 |_=>Y
theorem xK{K:B1}{H:Hp}:∀{ds:Z Dt} {bs:Z Bool} {vs:Z V} {us:Z A0},Gd ds=U bs->aK K H ds vs->AX vs us->us=bs.map Value.bool
 |[],_,_,_,e,r,w=>by
  cases e;simp only[aK]at r;subst r;cases w;rfl
 |d::ds,_,_,_,e,r,w=>by
  simp only[aK]at r;obtain⟨v,a,rfl,h1,h2⟩:=r;cases d<;>first|(cases e;done)|skip;simp only[Gd]at e;obtain⟨bs,e1,e⟩:=AT e;cases e;simp only[AW]at h1;subst h1;cases w with
  |cons p t=>
   cases p;rw[xK e1 h2 t];rfl
theorem CM(bs:Z Bool):((List.range bs.length).all λi=>bs.getD i false)=bs.all id:=by
 rw[JE,qo,qo];constructor
 ·intro h b hb;obtain⟨i,hi,rfl⟩:=List.mem_iff_getElem.mp hb;have:=h i (by simpa using hi);simpa[List.getD,hi]using this
 ·intro h i hi;have hi:i<bs.length:=by simpa using hi
  have:=h bs[i] (k7 hi);simpa[List.getD,hi]using this
theorem CD(bs:Z Bool):((List.range bs.length).any λi=>bs.getD i false)=bs.any id:=by
 rw[JE,QP,QP];constructor
 ·rintro⟨i,hi,h⟩;have hi:i<bs.length:=by simpa using hi
  exact⟨bs[i],k7 hi,by simpa[List.getD,hi]using h⟩
 ·rintro⟨b,hb,h⟩;obtain⟨i,hi,rfl⟩:=List.mem_iff_getElem.mp hb;exact⟨i,by simpa using hi,by simpa[List.getD,hi]using h⟩
def CL:Z Bx->O Bx
 |[b]=>(oV b).bind λds=>(Gd ds).bind λbs=>U (.z (.bl (bs.all id)))
 |_=>Y
def Cf:Z Bx->O Bx
 |[b]=>(oV b).bind λds=>(Gd ds).bind λbs=>U (.z (.bl (bs.any id)))
 |_=>Y
theorem Bp(bs:Z Bool):TruthOf prog w A (λi v=>(bs.map Value.bool).toArray[i]?=U v) λi=>bs.getD i false:=λi v s Q E h q=>by
 have h':(bs.map Value.bool)[i]?=U v:=by simpa using h
 rw[ZN]at h';cases e:bs[i]? with
 |none=>rw[e]at h';cases h'
 |some b=>
  rw[e]at h';cases h';have:bs.getD i false=b:=by simp[List.getD,e]
  have a:Q b s:=by rw[<-this];exact q
  exact JP a
theorem ZL(m:X.calm=true):nC X (.builtin "all") CL:=by
 intro AN s σ H xs us Q I r h;obtain⟨bs,c,B,e,q⟩:=h;unfold CL at e;split at e
 ·obtain⟨ds,p,e⟩:=AT e;obtain⟨ks,ek,e⟩:=AT e;cases e;obtain⟨v,rfl,j⟩:=BM B;obtain⟨a,vs,rfl,sq,y⟩:=j.HW p;obtain⟨u,rfl,z⟩:=BC r;cases z;obtain⟨AQ,w,pl,D⟩:=I.list sq;have d:=xK ek y w;have x:a<s.heap.objs.size:=by obtain⟨o,n,e,_⟩:=pl;exact zt e
  refine call_all_walk (yY pl.isList ?_);refine⟨s.heap.objs.size,_,_,_,_,_,λi=>ks.getD i false,rfl,Walks.list (by show X.A.handled=Y;exact I.ok.hd m) s.heap.objs.size a (Zl x) AQ.toArray,⟨⟨_,zv _ rfl,rfl,rfl⟩,pl.isList.push _⟩,?_,λh' tk k=>?_⟩
  ·rw[d];exact Bp ks
  ·have C:AQ.toArray.size=ks.length:=by rw[d];simp
   rw[C,CM];have t:L2.AU X AN σ H { s with heap:=s.heap.push { cls:=.type "list_iterator",data:=.fields #[.ref a,.int 0 0] } }:=I.kept (t':=s.toks) λb o e=>zd _ e;refine⟨.bl _,H,?_,rfl,q _ H (AV.refl H) trivial Im⟩;obtain⟨f0,f1,f2,f,l,g⟩:=I.N8 (b:=s.heap.objs.size) (H':=H) (zg _) (I.hok.fresh (zg _));exact t.turned (it:=s.heap.objs.size) (λb o hb e=>k b o (by simpa using hb) e) f0 f1 f l g
 ·cases e
theorem aS(m:X.calm=true):nC X (.builtin "any") Cf:=by
 intro AN s σ H xs us Q I r h;obtain⟨bs,c,B,e,q⟩:=h;unfold Cf at e;split at e
 ·obtain⟨ds,p,e⟩:=AT e;obtain⟨ks,ek,e⟩:=AT e;cases e;obtain⟨v,rfl,j⟩:=BM B;obtain⟨a,vs,rfl,sq,y⟩:=j.HW p;obtain⟨u,rfl,z⟩:=BC r;cases z;obtain⟨AQ,w,pl,D⟩:=I.list sq;have d:=xK ek y w;have x:a<s.heap.objs.size:=by obtain⟨o,n,e,_⟩:=pl;exact zt e
  refine call_any_walk (yY pl.isList ?_);refine⟨s.heap.objs.size,_,_,_,_,_,λi=>ks.getD i false,rfl,Walks.list (by show X.A.handled=Y;exact I.ok.hd m) s.heap.objs.size a (Zl x) AQ.toArray,⟨⟨_,zv _ rfl,rfl,rfl⟩,pl.isList.push _⟩,?_,λh' tk k=>?_⟩
  ·rw[d];exact Bp ks
  ·have C:AQ.toArray.size=ks.length:=by rw[d];simp
   rw[C,CD];have t:L2.AU X AN σ H { s with heap:=s.heap.push { cls:=.type "list_iterator",data:=.fields #[.ref a,.int 0 0] } }:=I.kept (t':=s.toks) λb o e=>zd _ e;refine⟨.bl _,H,?_,rfl,q _ H (AV.refl H) trivial Im⟩;obtain⟨f0,f1,f2,f,l,g⟩:=I.N8 (b:=s.heap.objs.size) (H':=H) (zg _) (I.hok.fresh (zg _));exact t.turned (it:=s.heap.objs.size) (λb o hb e=>k b o (by simpa using hb) e) f0 f1 f l g
 ·cases e
end P1
namespace P1
open L2
def gv(i:Nat):Ev->O Bx:=λρ=>yu ρ i
def vZ(g:Bx->Bx->O Bx)(fa fb:Ev->O Bx):Ev->O Bool:=λρ=>(b2 g fa fb ρ).bind KY
def tV(f:Ev->O Bx):Ev->O Bool:=λρ=>(f ρ).bind Zi
def aH:Ev->O (Z Bx):=λ_=>U []
def JM(p:Dt->Bool)(f:Ev->O Bx):Ev->O Bx:=b1 (λb=>if oX b=true then Y else U (.z (.bl (p (toD b))))) f
def fB:Ev->O An:=λρ=>U (.nx ρ)
def jw(f:Ev->O Bx):Ev->O An:=λρ=>(f ρ).bind Zj
def At(i:Nat)(f:Ev->O Bx):Ev->O An:=λρ=>(f ρ).bind λb=>(WW ρ i b).bind λa=>U (.nx a)
def Hc(gt:Dt->Ev->O Ev)(f:Ev->O Bx):Ev->O An:=λρ=>(f ρ).bind λb=>match b with|.z d=>(gt d ρ).bind λa=>U (.nx a)|_=>Y
def ZM(i j:Nat)(fs:Ev->O (Z Bx)):Ev->O An:=λρ=>(fs ρ).bind (Fs i j ρ)
def xM(i:Nat)(f:Ev->O Bx):Ev->O An:=λρ=>(f ρ).bind (Zk ρ i)
def pI(fi:Ev->O (Z Dt))(gt:Dt->Ev->O Ev)(gb:Ev->O An):Ev->O An:=λρ=>(fi ρ).bind λds=>qH gt gb ds ρ
def EH(f:Ev->O Bx):Ev->O (Z Dt):=λρ=>(f ρ).bind Fu
def Io(f:Ev->O Bx):Ev->O (Z Dt):=λρ=>(f ρ).bind Zw
def O7(fs:Ev->O (Z Bx)):Ev->O (Z Dt):=λρ=>(fs ρ).bind II
def mz(i:Nat):Dt->Ev->O Ev:=λd ρ=>U (ρ.set i (U (.z d)))
def rR:Ev->O Bool:=λ_=>U true
theorem cV:Fz X [] rR:=⟨.inl ⟨rfl,rfl⟩⟩
theorem xO(h:QB X c p):Fz X [c] p:=⟨have h:=h.run;.inr ⟨c,rfl,h⟩⟩
theorem Pi:Ik X scope cl [] []:=trivial
theorem ba{xs:AZ}(n:X.N[i]?=U x)(k:X.env.kindOf x=U .cell\/X.env.kindOf x=U .free)(a:(relabel scope X.env).names.lookup x=U .cell\/(relabel scope X.env).names.lookup x=U .free)(c:∃c,cl.lookup x=U c)(r:Ik X scope cl xs is):Ik X scope cl (x::xs) (i::is):=⟨⟨n,k,a,c⟩,r⟩
theorem mem_of_lookup{a:Z (AJ×NameKind)}{x:AJ}{k:NameKind}:a.lookup x=U k->(x,k)∈a:=ku
theorem Ta{xs:AZ}(clos:closureFor scope X.env=pure cl)(kind:scope.kind=.function)(cell:scope.names.all (λy=>decide (y.2≠.cell)||(cl.lookup y.1).isNone)=true)(names:scope.names.all (λy=>decide (y.2=.local->scope.names.lookup y.1=U .local))=true)(sub:C7 X.env.cells cl)(has:(relabel scope X.env).names.all (λy=>!(y.2==.cell||y.2==.free)||(cl.lookup y.1).isSome||scope.names.contains (y.1,.cell))=true)(cap:Ik X scope cl xs is):rM X scope cl xs is where
 clos:=clos
 kind:=kind
 cell:=λy a c=>by
  have:=List.all_eq_true.mp cell y a;simp only[c,ne_eq,not_true_eq_false,k4,Bool.false_or,Option.isNone_iff_eq_none]at this;exact this
 names:=λy a=>ko (List.all_eq_true.mp names y a)
 sub:=sub
 has:=λx hx=>by
  have h:∃k,(relabel scope X.env).names.lookup x=U k/\(k==NameKind.cell||k==NameKind.free)=true:=by
   rcases hx with hx|hx
   ·exact⟨_,hx,rfl⟩
   ·exact⟨_,hx,rfl⟩
  obtain⟨k,e,b⟩:=h;have:=List.all_eq_true.mp has _ (mem_of_lookup e);simp only[b,kQ,Bool.false_or,Bool.or_eq_true]at this;rcases this with h|h
  ·exact .inr (Option.isSome_iff_exists.mp h)
  ·exact .inl (List.contains_iff_mem.mp h)
 cap:=cap
theorem DY{k:Nat}(r:gW k A):A.units+100<cLine:=by have:=r.un;omega
theorem UZ{F:Z Bx->O Bx}(h:∀ns:Z Int,ns.length<=63->F [.z (.lst (ns.map .int))]=U (.z (.bl true)))(g:∀ns:Z Int,ns.length<=63->F [.l (ns.map .int)]=U (.z (.bl true)))(K:B1)(H:Hp)(a:A1)(ns:Z Int)(f:ns.length<=63)(_:Ch H)(b:qO K H a (ns.map V.int)):
  Zx K 1 F [.ref a] H (λv _=>v=.bl true) λ_ _ _=>False:=by
 have e:∀c:Z Int,aK K H (c.map Dt.int) (c.map V.int):=λc=>by
  induction c with
  |nil=>exact aK.nil
  |cons m c i=>exact aK.cons (by unfold AW;rfl) i
 have d:∀v (H':Hp),AV H H'->Nw H (.z (.bl true)) v->bh K H' (.z (.bl true)) v->v=.bl true:=λv H' _ _ r=>by simpa only[bh,AW]using r
 rcases b with b|b
 ·exact⟨rfl,[.l (ns.map .int)],_,.cons ⟨a,_,rfl,b,e ns⟩ .nil,rfl,g ns f,d⟩
 ·refine⟨rfl,[.z (.lst (ns.map .int))],_,.cons ?_ .nil,rfl,h ns f,d⟩;unfold bh AW;exact⟨a,_,rfl,.inr b,e ns⟩
theorem L3{f:A1}{k m:Nat}(F:Bj K x qual st f fd)(S:bB N ps (aG st))(d:N.length=n)(c:ps.length=m)(b:∀(a:A0) (A:A5) (outer:Z Env) (s:A2) (H:Hp) (E:XK),gW k (A.deeper (AK qual (aG st) s.heap.objs.size f a))->RB (rK xu P w K mg base N qual (aG st) f a A outer s H E).Yt (d8 st) g):
  ju P w K mg base xu (k+1) f fd ps (Zx K m (dY n g)):=by
 subst d c;exact X' F S b
section
variable{st:Expr}{fs:Ev->O Bx}
theorem O8(I:L2.AU X AN σ H s)(h:H a=U (.dK [])):∃o,L2.AU X AN σ (B0 H a (.HS o (.dK []))) s:=by
 have g:=I.hok a _ h;obtain⟨z1,z2,z3,i,o,l,j,e,ex⟩:=g;refine⟨o,⟨I.ok,I.os,I.bare,⟨I.base.keep,I.base.slot,λb d q1 q2 f=>?_,I.base.there,λb xs q=>?_,λb d u q=>?_,λb ps q=>?_⟩,I.loc,I.cell,?_,λx c q=>?_,λp hp=>?_,?_,I.len⟩⟩
 ·have:=I.base.free b d q1 q2 f;rw[aP (bH h this).symm];exact this
 ·have:=I.base.tups b xs q;rw[aP (lX this h (by intro z;cases z))];exact this
 ·have:=I.base.wJ b d u q;rw[aP (lX this h (by intro z;cases z))];exact this
 ·obtain⟨m,this⟩:=I.base.yg b ps q;rw[aP (lX this h (by intro z;cases z))];exact⟨m,this⟩
 ·rw[aP (bH h I.free).symm];exact I.free
 ·rw[aP (bH h (I.jy x c q)).symm];exact I.jy x c q
 ·obtain⟨q1,q2,f⟩:=I.pin p hp;refine⟨q1,?_,f⟩;rw[aP (bH h q2).symm];exact q2
 ·intro b u q;by_cases hb:b=a
  ·subst hb;rw[aU]at q;cases q;exact⟨e,z1,z2,z3,i,o,l,j,e,ex⟩
  ·rw[aP hb]at q;refine(I.hok b u q).stay (λc v _ w=>w) (λc w=>?_) λc xs w=>?_
   ·rw[aP (lX w h (by intro z;cases z))];exact w
   ·rw[aP (lX w h (by intro z;cases z))];exact w
theorem VO  :QV X (.Dict [] [] pos) (cB .emp):=⟨by
 intro AN s σ H Q I q;obtain⟨H0,ρ,b,E,e,q⟩:=q;cases e;refine gM (Y9 AN s σ H (λv H'=>∃p,v=.ref p/\H p=Y/\H'=B0 H p (.dK [])) I λp hp=>⟨p,rfl,hp,rfl⟩) λu j d=>?_;obtain⟨v,H1,f,h,p,rfl,hp,rfl⟩:=d;obtain⟨o,g⟩:=O8 f aU;refine⟨.ref p,_,g,h,q _ _ (λc i a=>?_) trivial ?_⟩
 ·rw[aP (bH a hp),aP (bH a hp)];exact a
 ·simp only[bh,AW];exact⟨p,o,rfl,aU⟩⟩
theorem Le{α β:Type}{f:α->O β}{g:α->β}:∀l:Z α,(∀a∈l,f a=U (g a))->l.filterMap f=l.map g
 |[],_=>rfl
 |a::l,h=>by
  rw[k9,h a (zk ..),zw,Le l λb hb=>h b (zo _ hb)]
theorem aK.rev{K:B1}{H:Hp}:∀{ds:Z Dt} {vs:Z V},aK K H ds vs->aK K H ds.reverse vs.reverse
 |[],_,h=>by simp only[aK]at h;subst h;exact aK.nil
 |d::ds,_,h=>by
  simp only[aK]at h;obtain⟨v,r,rfl,b,a⟩:=h;rw[kU,kU];exact aK.append (aK.rev a) (aK.cons b aK.nil)
theorem ZP{st:Z AB}:RB X st (λ_=>Y):=λD AN s σ H I q=>by
 obtain⟨H0,ρ,r,E,e,q⟩:=q;cases e
end
def EM:Bx->Bx->O Bx
 |.z (.int i),.z (.int j)=>U (.z (.bl (decide (i<j))))
 |.z (.str x),.z (.str y)=>U (.z (.bl (decide (x.cps.toList<y.cps.toList))))
 |_,_=>Y
theorem ZQ:Dy X (AG .Lt) EM:=by
 intro AN s σ H x y v u Q I g f h;obtain⟨a,b,c,d,l,e,q⟩:=h;unfold EM at e;split at e
 ·rename_i i j;cases e;exact VW AN s σ H x y v u Q I g f ⟨i,j,K8 d,K8 l,q _ H (AV.refl H) trivial (by unfold bh;exact FA)⟩
 ·rename_i i j;cases e;obtain⟨rfl,_⟩:=Ss d;obtain⟨rfl,_⟩:=Ss l;obtain⟨t,rfl⟩:=g;obtain⟨m,rfl⟩:=f;exact PySem.P.lt_str ⟨.bl _,H,I,rfl,q _ H (AV.refl H) trivial (by unfold bh;exact FA)⟩
 ·cases e
def Ge:Z Dt->O AZ
 |[]=>U []
 |.str x::r=>(Ge r).bind λys=>U (x::ys)
 |_=>Y
theorem Ad{K:B1}{H:Hp}:∀{ds:Z Dt} {vs:Z V} {ys:AZ},aK K H ds vs->Ge ds=U ys->vs=ys.map V.str/\∀y∈ys,y.length<=AA
 |[],_,_,h,e=>by cases e;simp only[aK]at h;subst h;exact⟨rfl,λy a=>by cases a⟩
 |.str x::ds,_,_,h,e=>by
  simp only[Ge]at e;obtain⟨ys,e1,e2⟩:=AT e;cases e2;simp only[aK]at h;obtain⟨v,r,rfl,c,b⟩:=h;obtain⟨rfl,hx⟩:v=.str x/\x.length<=AA:=by simpa only[AW]using c
  obtain⟨rfl,h2⟩:=Ad b e1;refine⟨rfl,λy a=>?_⟩;rcases List.mem_cons.mp a with rfl|a
  ·exact hx
  ·exact h2 y a
 |.non::_,_,_,_,e=>by cases e
 |.bl _::_,_,_,_,e=>by cases e
 |.int _::_,_,_,_,e=>by cases e
 |.tup _::_,_,_,_,e=>by cases e
 |.lst _::_,_,_,_,e=>by cases e
 |.emp::_,_,_,_,e=>by cases e
theorem Gf{K:B1}{H:Hp}:∀{ys:AZ},(∀y∈ys,y.length<=AA)->aK K H (ys.map Dt.str) (ys.map V.str)
 |[],_=>aK.nil
 |y::ys,h=>aK.cons (by unfold AW;exact⟨rfl,h y (zk ..)⟩) (Gf λz a=>h z (zo _ a))
theorem xP:∀{ys:AZ} {AQ:Z A0},AX (ys.map V.str) AQ->StrsAre AQ ys
 |[],_,h=>by cases h;exact .nil
 |y::ys,_,h=>by
  cases h with
  |cons r t=>
   obtain⟨tk,rfl⟩:=r;exact .cons y tk (xP t)
theorem Ae:∀{AQ:Z A0} {ys:AZ},StrsAre AQ ys->AX (ys.map V.str) AQ
 |_,_,.nil=>.nil
 |_,_,.cons y t h=>.cons ⟨t,rfl⟩ (Ae h)
theorem Lf:fK X (.builtin "sorted") (λxs H Q=>∃p ys,xs=[.ref p]/\qO X.K H p (ys.map V.str)/\ys.length<64/\∀l zs,H l=Y->zs.Perm ys->sortedS zs=true->Q (.ref l) (B0 H l (.lst (zs.map V.str)))):=by
 intro AN s σ H xs us Q I r h;obtain⟨p,ys,rfl,g,v,q⟩:=h;obtain⟨u,rfl,m⟩:=BC r;cases m;obtain⟨AQ,f,pl,c⟩:=I.list g;have t:=f.length;rw[zi]at t c;refine sorted_strs pl.isList (xP f) (by omega) λd zs hs hp i=>?_;obtain⟨n,j⟩:=sortedAll_at s.heap AQ d;refine⟨.ref (s.heap.objs.size+1),_,I.laid (t':=s.toks) (a:=s.heap.objs.size+1) (o:=.lst (zs.map V.str)) (λb o e=>sortedAll_old e) (JO _) ?_,rfl,q _ zs (I.hok.fresh (JO _)) hp i⟩;refine⟨by rw[zi,hp.length_eq];exact c,d.toList,n,Ae hs,?_⟩;rw[j]
def Rv(a b:AJ):Prop:=ltCps b.cps.toList a.cps.toList=false
theorem yL:∀(p:AJ) (l:AZ),risingS p l=true->(p::l).Pairwise Rv
 |p,[],_=>by simp
 |p,x::r,h=>by
  have h':(!ltCps x.cps.toList p.cps.toList&&risingS x r)=true:=h;rw[Zz]at h';have c:=yL x r h'.2;have hx:Rv p x:=by simpa[Rv]using h'.1
  refine List.pairwise_cons.mpr ⟨λy b=>?_,c⟩;rcases List.mem_cons.mp b with rfl|b
  ·exact hx
  ·have a:Rv x y:=ki c b;unfold Rv at hx a ⊢;rw[ltCps_eq]at hx a ⊢;simp only[kB]at hx a ⊢;exact List.le_trans (α:=Nat) hx a
theorem Lg{l:AZ}(h:sortedS l=true):l.Pairwise Rv:=by
 cases l with
 |nil=>exact .nil
 |cons p l=>exact yL p l h
theorem ZR{a b:AJ}(h:Rv a b)(h':Rv b a):a=b:=by
 unfold Rv at h h';rw[ltCps_eq]at h h';simp only[kB]at h h';have:=List.le_antisymm (as:=a.cps.toList) (bs:=b.cps.toList) h h';cases a;cases b;simp only[Str.mk.injEq];exact Array.toList_inj.mp this
theorem Vi:∀{l l':AZ},l.Perm l'->l.Pairwise Rv->l'.Pairwise Rv->l=l'
 |[],l',h,_,_=>by rw[List.nil_perm.mp h]
 |a::l,[],h,_,_=>by cases List.perm_nil.mp h
 |a::l,b::l',h,p,p'=>by
  have e:a=b:=by
   have c:a∈b::l':=h.mem_iff.mp (zk ..);have hb:b∈a::l:=h.mem_iff.mpr (zk ..);rcases List.mem_cons.mp c with h1|h1
   ·exact h1
   ·rcases List.mem_cons.mp hb with h2|h2
    ·exact h2.symm
    ·exact ZR (ki p h2) (ki p' h1)
  subst e;rw[Vi ((List.perm_cons a).mp h) (List.pairwise_cons.mp p).2 (List.pairwise_cons.mp p').2]
def W5(a b:AJ):Bool:=!ltCps b.cps.toList a.cps.toList
def lg(ys:AZ):AZ:=ys.mergeSort W5
theorem fD(ys:AZ):(lg ys).Perm ys:=ym ys W5
theorem rT(ys:AZ):(lg ys).Pairwise Rv:=by
 have h:=KF (le:=W5) (λa b c h1 h2=>by
  unfold W5 at *
  rw[ltCps_eq]at *
  simp only[Qr,kB]at *
  exact List.le_trans (α:=Nat) h1 h2) (λa b=>by
  unfold W5;rw[ltCps_eq,ltCps_eq];simp only[Bool.or_eq_true,Qr,kB];exact List.le_total a.cps.toList b.cps.toList) ys
 exact h.imp λ{a b} hh=>by simpa[W5,Rv]using hh
theorem ZS{ys zs:AZ}(hp:zs.Perm ys)(hs:sortedS zs=true):zs=lg ys:=Vi (hp.trans (fD ys).symm) (Lg hs) (rT ys)
def Bq:Z Bx->O Bx
 |[b]=>(oV b).bind λds=>(Ge ds).bind λys=>if ys.length<64 then U (.o ((lg ys).map Dt.str))else Y
 |_=>Y
theorem Af:nC X (.builtin "sorted") Bq:=fK.imp Lf λxs H Q q=>by
 obtain⟨bs,c,i,e,q⟩:=q;unfold Bq at e;split at e
 ·rename_i b;obtain⟨ds,j,e⟩:=AT e;obtain⟨ys,n,e⟩:=AT e;split at e
  ·rename_i o;cases e;obtain⟨v,rfl,g⟩:=BM i;obtain⟨p,vs,rfl,sq,m⟩:=g.HW j;obtain⟨rfl,f⟩:=Ad m n;refine⟨p,ys,rfl,sq,o,λl zs d hp hs=>?_⟩;rw[ZS hp hs];refine q _ _ (bI d) (λa ea=>by cases ea;exact d) ⟨l,_,rfl,aU,Gf λy h=>f y ((fD ys).mem_iff.mp h)⟩
  ·cases e
 ·cases e
def O9(x:AJ)(b:Bx):O Bx:=(oV b).bind λds=>(Ge ds).bind λys=>if(ys.map (·.length)).sum+ys.length*x.length<=100000 then U (.z (.str (Txt.join x ys)))else Y
theorem bq:MC X "str.join" (λx xs H Q=>∃y p ys,x=.str y/\xs=[.ref p]/\qO X.K H p (ys.map V.str)/\(ys.map (·.length)).sum+ys.length*y.length<=100000/\Q (.str (Txt.join y ys)) H):=by
 intro AN s σ H x xs v us Q I d b h;obtain⟨y,p,ys,rfl,rfl,sq,hb,q⟩:=h;obtain⟨t,rfl⟩:=d;obtain⟨u,rfl,c⟩:=BC b;cases c;obtain⟨AQ,a,pl,e⟩:=I.list sq;exact join_list pl.isList (xP a) (by omega) λf k=>⟨.str _,H,I.tok _,⟨_,rfl⟩,q⟩
theorem bj{p1:Pos}(h:QV X e f)(hx:x.length<=AA:=by decide)(u:attributeBase (.Constant (.str x) j p1) "join" X.env (eval (.Constant (.str x) j p1) X.env)=eval (.Constant (.str x) j p1) X.env:=by rfl)(t:((AD cpos (A9 [e] X.env)).all (λx=>!x.1)&&(backToKw cpos (keywordEach [] X.env)).all (λx=>x.1.isSome)&&decide ([e].length+([]:Z AC).length+(if([]:Z AC).isEmpty then 0 else 1)<30))=true:=by rfl)(i:(apos.endLine==cpos.line)=true:=by rfl)(hs:A9 [e] X.env=(false,eval e X.env)::A9 [] X.env:=by rfl):QV X (.Call (.Attribute (.Constant (.str x) j p1) "join" apos) [e] [] cpos) (b1 (O9 x) f):=⟨have h:=h.run;Ii (U8 (T :="str") F.plainAttrs_str F.slot_str_join F.type_str_join bq (Zf (hx:=hx)) (Oo h Vc hs) u t i hs S) λσ H Q q=>by
  obtain⟨H0,ρ,c,E,e,q⟩:=q;obtain⟨a,ea,e⟩:=AT e;refine⟨H0,ρ,_,E,rfl,λv H1 b B g=>?_⟩;obtain⟨rfl,A⟩:v=.str x/\x.length<=AA:=by simpa only[bh,AW]using g
  refine⟨rfl,H0,ρ,[a],E.grow b,by simp only[ao,ea,JI],λvs H2 d o=>?_⟩;obtain⟨w,rfl,s⟩:=BM o;unfold O9 at e;obtain⟨ds,l,e⟩:=AT e;obtain⟨ys,m,e⟩:=AT e;split at e
  ·rename_i hb;cases e;obtain⟨p,z,rfl,sq,n⟩:=s.HW l;obtain⟨rfl,y⟩:=Ad n m;refine⟨x,p,ys,rfl,rfl,sq,hb,q _ _ (b.trans d) trivial ?_⟩;unfold bh AW;exact⟨rfl,joinOk_length (joinOk_of (by omega))⟩
  ·cases e⟩
def CP:Z Bx->O Bx
 |[.z (.int a),.z (.int b)]=>U (.z (.int (if b>a then b else a)))
 |_=>Y
def W6:Z Bx->O Bx
 |[.z (.int a),.z (.int b)]=>U (.z (.int (if b<a then b else a)))
 |_=>Y
theorem Vj{a:Bx}(h:pJ K H [a,b] vs):∃v w,vs=[v,w]/\bh K H a v/\bh K H b w:=by
 cases h with
 |cons p t=>
  cases t with
  |cons p' c=>cases c;exact⟨_,_,rfl,p,p'⟩
theorem uX(j:X.calm=true):nC X (.builtin "max") CP:=by
 intro AN s σ H xs us Q I r h;obtain⟨bs,c,n,e,q⟩:=h;unfold CP at e;split at e
 ·rename_i a b;cases e;obtain⟨v,w,rfl,g,l⟩:=Vj n;have i:=K8 g;have f:=K8 l;subst i f;obtain⟨u,o,rfl,m,d⟩:=AX.two r;obtain⟨t,rfl⟩:=m;obtain⟨p,rfl⟩:=d;refine max_two_ints (I.ok.hd j) λh' tk kp=>?_;by_cases hb:b>a
  ·rw[zh hb]at q ⊢;exact⟨.int b,H,I.kept kp,⟨_,rfl⟩,q _ H (AV.refl H) trivial CN⟩
  ·rw[zC hb]at q ⊢;exact⟨.int a,H,I.kept kp,⟨_,rfl⟩,q _ H (AV.refl H) trivial CN⟩
 ·cases e
theorem ZV(j:X.calm=true):nC X (.builtin "min") W6:=by
 intro AN s σ H xs us Q I r h;obtain⟨bs,c,n,e,q⟩:=h;unfold W6 at e;split at e
 ·rename_i a b;cases e;obtain⟨v,w,rfl,g,l⟩:=Vj n;have i:=K8 g;have f:=K8 l;subst i f;obtain⟨u,o,rfl,m,d⟩:=AX.two r;obtain⟨t,rfl⟩:=m;obtain⟨p,rfl⟩:=d;refine min_two_ints (I.ok.hd j) λh' tk kp=>?_;by_cases hb:b<a
  ·rw[zh hb]at q ⊢;exact⟨.int b,H,I.kept kp,⟨_,rfl⟩,q _ H (AV.refl H) trivial CN⟩
  ·rw[zC hb]at q ⊢;exact⟨.int a,H,I.kept kp,⟨_,rfl⟩,q _ H (AV.refl H) trivial CN⟩
 ·cases e
def Gg(AO:Z (AY×Dt))(x:AY):O Dt:=(AO.find? λa=>decide (a.1=x)).map (·.2)
def Lh(AO:Z (AY×Dt))(x:AY)(d:Dt):Z (AY×Dt):=
 if(AO.any λa=>decide (a.1=x))=true then AO.map (λa=>if a.1=x then(a.1,d)else a)else AO++[(x,d)]
theorem fL.nil:fL K H [] []:=⟨rfl,aK.nil,λp hp=>by cases hp⟩
theorem fL.inv{p:AY×Dt}{ks:Z (AY×V)}(h:fL K H (p::AO) ks):∃v r,ks=(p.1,v)::r/\AW K H p.2 v/\ED p.1/\fL K H AO r:=by
 obtain⟨h1,h2,a⟩:=h;cases ks with
 |nil=>simp at h1
 |cons q r=>
  simp only[zw,kP]at h1;obtain⟨e,h1⟩:=h1;simp only[zw,aK]at h2;obtain⟨v,d,e2,c,b⟩:=h2;simp only[kP]at e2;obtain⟨rfl,rfl⟩:=e2;exact⟨q.2,r,by rw[<-e],c,a p (zk ..),h1,b,λx hx=>a x (zo _ hx)⟩
theorem fL.cons{p:AY×Dt}{AO:Z (AY×Dt)}{v:V}{r:Z (AY×V)}(a:AW K H p.2 v)(hp:ED p.1)(h:fL K H AO r):fL K H (p::AO) ((p.1,v)::r):=
 ⟨by simp[h.1],aK.cons a h.2.1,λx hx=>by
  rcases List.mem_cons.mp hx with rfl|hx
  ·exact hp
  ·exact h.2.2 x hx⟩
theorem fL.append{AO:Z (AY×Dt)}{ks:Z (AY×V)}{x:AY}{d:Dt}{v:V}(h:fL K H AO ks)(a:AW K H d v)(hx:ED x):fL K H (AO++[(x,d)]) (ks++[(x,v)]):=
 ⟨by simp[h.1],by rw[qB,qB];exact aK.append h.2.1 (aK.cons a aK.nil),λp hp=>by
  rcases List.mem_append.mp hp with hp|hp
  ·exact h.2.2 p hp
  ·cases List.mem_singleton.mp hp;exact hx⟩
theorem fL.len{ks:Z (AY×V)}(h:fL K H AO ks):ks.length=AO.length:=by
 have:=congrArg List.length h.1;simpa using this
theorem fL.look:∀{AO:Z (AY×Dt)} {ks:Z (AY×V)} {x:AY} {d:Dt},fL K H AO ks->Gg AO x=U d->∃v,zY ks x=U v/\AW K H d v
 |[],_,_,_,_,e=>by cases e
 |p::AO,_,x,d,h,e=>by
  obtain⟨v,r,rfl,b,c,a⟩:=h.inv;unfold Gg at e;by_cases hp:p.1=x
  ·rw[List.find?_cons_of_pos (by simpa using hp)]at e;cases e;exact⟨v,yr (by rw[hp]),b⟩
  ·rw[List.find?_cons_of_neg (by simpa using hp)]at e;obtain⟨w,e1,e2⟩:=fL.look a e;exact⟨w,(yt (by simpa using hp)).trans e1,e2⟩
theorem fL.any:∀{AO:Z (AY×Dt)} {ks:Z (AY×V)} {x:AY},fL K H AO ks->(ks.any λa=>decide (a.1=x))=AO.any λa=>decide (a.1=x)
 |[],ks,_,h=>by
  have:=h.len;cases ks with
  |nil=>rfl
  |cons _ _=>simp at this
 |p::AO,_,x,h=>by
  obtain⟨v,r,rfl,d,c,b⟩:=h.inv;rw[kq,kq,fL.any b]
theorem fL.ZW:∀{AO:Z (AY×Dt)} {ks:Z (AY×V)} {x:AY} {d:Dt} {v:V},fL K H AO ks->AW K H d v->fL K H (AO.map λa=>if a.1=x then(a.1,d)else a) (ks.map λa=>if a.1=x then(a.1,v)else a)
 |[],ks,_,_,_,h,_=>by
  have:=h.len;cases ks with
  |nil=>exact fL.nil
  |cons _ _=>simp at this
 |p::AO,_,x,d,v,h,hd=>by
  obtain⟨w,r,rfl,f,b,e⟩:=h.inv;rw[zw,zw];have c:=fL.ZW (x:=x) e hd;by_cases hp:p.1=x
  ·rw[zh hp,zh (by simp[hp])];exact fL.cons (p:=(p.1,d)) hd b c
  ·rw[zC hp,zC (by simpa using hp)];exact fL.cons f b c
theorem fL.put{ks:Z (AY×V)}{x:AY}(h:fL K H AO ks)(a:AW K H d v)(hx:ED x):fL K H (Lh AO x d) (BD ks x v):=by
 unfold Lh BD;rw[h.any];split
 ·exact h.ZW a
 ·exact h.append a hx
section
variable{ek o:Expr}{pos':Pos}
def Cl:Bx->O AY
 |.z (.str x)=>U (.inr x)
 |.z (.int i)=>U (.inl i)
 |_=>Y
theorem Li{k:AY}(e:Cl b=U k)(r:bh K H b v):v=kV k/\ED k:=by
 unfold Cl at e;split at e
 ·cases e;simp only[bh,AW]at r;exact r
 ·cases e;simp only[bh,AW]at r;exact⟨r,trivial⟩
 ·cases e
def ud:Bx->Bx->O Bx
 |.n AO,b=>(Cl b).bind λk=>(Gg AO k).bind λd=>U (.z d)
 |_,_=>Y
theorem SJ{a c:Bx}(h:ud a b=U c):∃AO k d,a=.n AO/\Cl b=U k/\Gg AO k=U d/\c=.z d:=by
 unfold ud at h;split at h
 ·obtain⟨k,ek,h⟩:=AT h;obtain⟨d,e,h⟩:=AT h;cases h;exact⟨_,k,d,rfl,ek,e,rfl⟩
 ·cases h
theorem rW(C:X.A.units+100<cLine)(g:QV X o fo)(f:QV X ek fk)(hs:IR ek:=by intro _ _;rfl):QV X (.Subscript o ek pos) (b2 ud fo fk):=⟨have g:=g.run;have f:=f.run;Ii (PC (by omega) g f hs) λσ H Q h=>by
 obtain⟨H0,ρ,c,E,e,q⟩:=h;obtain⟨a,ea,e⟩:=AT e;obtain⟨b,eb,e⟩:=AT e;refine⟨H0,ρ,a,E,ea,λv H1 i D n=>⟨H0,ρ,b,E.grow i,eb,λw H2 j B z=>?_⟩⟩;obtain⟨AO,x,d,rfl,s,t,rfl⟩:=SJ e;obtain⟨p,ks,rfl,l,u⟩:=n.same j;obtain⟨m,ev,y⟩:=u.look t;obtain⟨rfl,_⟩:=Li s z;exact⟨p,m,rfl,.inl ⟨ks,x,l,rfl,ev.symm⟩,q _ _ (i.trans j) trivial y⟩⟩
def Pa(ρ:Ev)(i:Nat):Bx->Bx->O An
 |.z d,b=>(Cl b).bind λx=>match ρ[i]? with
  |some (U (.m AO w))=>if AO.length<1000 then U (.nx (ρ.set i (U (.m (Lh AO x d) w))))else Y
  |_=>Y
 |_,_=>Y
def Vk(i:Nat)(f fk:Ev->O Bx):Ev->O An:=λρ=>(f ρ).bind λb=>(fk ρ).bind λk=>Pa ρ i b k
theorem SM{k:Bx}{r:An}(h:Pa ρ i b k=U r):∃d y AO w,b=.z d/\Cl k=U y/\ρ[i]?=U (U (.m AO w))/\AO.length<1000/\r=.nx (ρ.set i (U (.m (Lh AO y d) w))):=by
 unfold Pa at h;split at h
 ·obtain⟨y,e,h⟩:=AT h;split at h
  ·rename_i c;split at h
   ·rename_i a;cases h;exact⟨_,y,_,_,rfl,e,c,a,rfl⟩
   ·cases h
  ·cases h
 ·cases h
theorem Vl(i:Nat){p:Pos}(W:X.A.units+100<cLine)(he:QV X e f)(j:QV X ek fk)(L:X.N[i]?=U x:=by rfl)(J:U3 X.env.scope x:=by first|exact JS rfl|exact QY (JS S)|exact QY (QY S))(t:(x==("__debug__":AJ))=false:=by decide)(M:(x==("__classdict__":AJ))=false:=by decide)(hs:swapsWith e (U (.Subscript (.Name x p) ek pos')) pos.line X.env=pure false:=by rfl):K4 X (.Assign [.Subscript (.Name x p) ek pos'] e pos) (λρ=>(f ρ).bind λb=>(fk ρ).bind λk=>Pa ρ i b k):=⟨have he:=he.run;have j:=j.run;Oi (X1 (by omega) (rH (i:=i) L J t M) j he hs) λD σ H h=>by
  obtain⟨H0,ρ,r,E,e,q⟩:=h;obtain⟨b,eb,e⟩:=AT e;obtain⟨k,ek,e⟩:=AT e;refine⟨H0,ρ,b,E,eb,λv H1 K n1 B=>?_⟩;obtain⟨d,y,AO,P,rfl,F,l,G,rfl⟩:=SM e;have g:=E.grow K;obtain⟨w,e1,a,ks,rfl,s,n,o⟩:=g.val i _ l;refine⟨_,e1,H0,ρ,_,g,ek,λu H2 c Q C=>?_⟩;obtain⟨rfl,z⟩:=Li F C;have I:=g.grow c;have m:=c _ _ s;have kp:Kp H2 (B0 H2 a (.dK (BD ks y v))):=.dk m;refine⟨a,_,rfl,Y8.k (k:=y) m (by rw[n.len];exact Nat.lt_trans G (by decide)),q _ _ ?_⟩;exact I.af7 l S e1 kp ⟨a,_,rfl,aU,((n.kp (.of c)).put (x:=y) (bh.same c B) z).kp kp,o⟩⟩
end
section
variable{a b:Expr}{fs:Ev->O (Z Bx)}
theorem lC{j}(hx:x.length<=AA:=by decide):QV X (.Constant (.str x) j pos) (cB (.str x)):=⟨P1.Zf (hx:=hx)⟩
end
section
variable{a b:Expr}{fs:Ev->O (Z Bx)}
variable{AS:Z Expr}
theorem aj(h1:QV X e f)(h2:Vb X es fs)(hs:A9 (e::es) X.env=(false,eval e X.env)::A9 es X.env:=by rfl):Vb X (e::es) (ao f fs):=⟨P1.Oo (h1:=h1.run) (h2:=h2.run) (hs:=hs)⟩
theorem aA  :Vb X [] (λ_=>U []):=⟨P1.Vc ⟩
end
theorem LF{f:A1}{k m:Nat}(F:Bj K x qual st f fd)(S:bB N ps (aG st))(e:N.length=n)(d:ps.length=m)(c:∀(a:A0) (A:A5) (outer:Z Env) (s:A2) (H:Hp) (E:XK),gW k (A.deeper (AK qual (aG st) s.heap.objs.size f a))->R6 (rK xu P w K mg base N qual (aG st) f a A outer s H E).Yt (d8 st) g):
  ju P w K mg base xu (k+1) f fd ps (Zx K m (dY n g)):=L3 F S e d λa A outer s H E b=>(c a A outer s H E b).run
theorem Br:∀(vs:Z A0) (ys:AZ),vs.length=ys.length->(∀(j:Nat) v,vs[j]?=U v->∃y t,ys[j]?=U y/\v=.str y t)->StrsAre vs ys
 |[],[],_,_=>.nil
 |v::vs,y::ys,hl,h=>by
  obtain⟨b,t,e,rfl⟩:=h 0 v rfl;cases e;exact .cons y t (Br vs ys (by simpa using hl) λj v a=>h (j+1) v (by simpa using a))
theorem SN{AO:Z (AY×A0)}{ys:AZ}(a:AO.map (·.1)=ys.map Sum.inr){c:Array A0}(h:ItemsOf (λi v=>∃k x,AO[i]?=U (k,x)/\(bF prog w).is k v=true) c AO.length):StrsAre c.toList ys:=by
 have d:AO.length=ys.length:=by have:=congrArg List.length a;simpa using this
 refine Br _ _ (by rw[qq,h.1,d]) λj v g=>?_;obtain⟨k,x,e,hi⟩:=h.2 j v (by simpa using g);have e1:(AO.map (·.1))[j]?=U k:=by rw[ZN,e];rfl
 rw[a,ZN]at e1;cases b:ys[j]? with
 |none=>rw[b]at e1;cases e1
 |some y=>
  rw[b]at e1;cases e1;have f:kZ (Sum.inr y) v=true:=hi;rcases bQ f with⟨i,t,e2,e3⟩|⟨z,t,e2,e3⟩
  ·cases e2
  ·cases e2;exact⟨_,t,rfl,e3⟩
def W7:Z (AY×Dt)->O AZ
 |[]=>U []
 |(.inr x,_)::r=>(W7 r).bind λys=>U (x::ys)
 |(.inl _,_)::_=>Y
theorem wg:∀{AO:Z (AY×Dt)} {ys:AZ},W7 AO=U ys->AO.map (·.1)=ys.map Sum.inr
 |[],_,e=>by cases e;rfl
 |(.inr x,_)::r,_,e=>by
  obtain⟨ys,e1,e⟩:=AT e;cases e;rw[zw,zw,wg e1]
 |(.inl _,_)::_,_,e=>by cases e
theorem eM{ys:AZ}(e:W7 AO=U ys)(h:∀p∈AO,ED p.1)(y:AJ)(a:y∈ys):y.length<=AA:=by
 have:(Sum.inr y:AY)∈AO.map (·.1):=by rw[wg e];exact List.mem_map.mpr ⟨y,a,rfl⟩
 obtain⟨p,hp,ep⟩:=List.mem_map.mp this;have:=h p hp;rw[ep]at this;exact this
theorem Vm:∀{ks:Z (AY×V)} {vs:Z (AY×A0)},KV ks vs->vs.map (·.1)=ks.map (·.1)
 |_,_,.nil=>rfl
 |_,_,.cons h t=>by rw[zw,zw,Vm t,h.1]
theorem bM.aiZ(E:bM K H0 H σ ρ)(i:Nat):bM K H0 H σ (ρ.set i Y):=by
 have back:∀(j:Nat) (b:Bx),(ρ.set i Y)[j]?=U (U b)->ρ[j]?=U (U b):=λj b e=>by
  rw[KO]at e;split at e
  ·split at e<;>cases e
  ·exact e
 refine⟨by rw[km];exact E.len,λj b e=>E.val j b (back j b e),λj k c a b e1 d e2 e3 f g=>E.own j k c a b (back _ _ e1) d e2 (back _ _ e3) f g,E.base,λj c a e1 d e2=>E.new j c a (back _ _ e1) d e2⟩
def kill(is:Z Nat)(ρ:Ev):Ev:=is.foldl (λρ i=>ρ.set i Y) ρ
theorem bM.kill{K:B1}{H0 H:Hp}{σ:L2.St}:∀(is:Z Nat) {ρ:Ev},bM K H0 H σ ρ->bM K H0 H σ (P1.kill is ρ)
 |[],_,E=>E
 |i::is,_,E=>bM.kill is (E.aiZ i)
def cT(is:Z Nat):Ev->O An:=λρ=>U (.nx (kill is ρ))
theorem ZX{a:Z AB}(is:Z Nat)(h:RB X a g):RB X a (aD g (cT is)):=GV h λD σ H q=>by
 obtain⟨H0,ρ,r,E,e,q⟩:=q;obtain⟨c,e1,e⟩:=AT e;refine⟨H0,ρ,c,E,e1,?_⟩;cases c with
 |nx f=>cases e;exact λσ' H' d=>q σ' H' (d.kill is)
 |rt b=>cases e;exact q
 |bk b=>cases e;exact q
 |ct b=>cases e;exact q
theorem aY{a:Z AB}(is:Z Nat)(h:R6 X a g):R6 X a (aD g (cT is)):=⟨ZX is h.run⟩
end P1
namespace S1
section
variable(rk:A0->Nat)
def at_(xs:Array Keyed)(i:Nat):Nat:=match xs[i]? with
 |some p=>rk p.1
 |none=>0
def Up(xs:Array Keyed)(k:Nat):Prop:=∀i j,i<=j->j<k->at_ rk xs i<=at_ rk xs j
def CF(xs:Array Keyed)(k:Nat):Prop:=∀i j,i<=j->j<k->at_ rk xs j<=at_ rk xs i
structure Bs (kd:SortKind) (b:Array Keyed) (st:SortSt):Prop where
 pm:(arrOf st).Perm b
 kd:kindOf st=kd
 fl:failedOf st=none
 pd:pendingOf st=#[]
variable{rk}{kd:SortKind}{b:Array Keyed}
theorem Bs.sz{st:SortSt}(h:Bs kd b st):(AM st).size=b.size:=h.pm.size_eq
theorem Bs.arr{st:SortSt}{xs:Array Keyed}(h:Bs kd b st)(hp:xs.Perm (AM st)):Bs kd b (PyProof.Rows.setArr st xs):=⟨hp.trans h.pm,h.kd,h.fl,h.pd⟩
theorem uY{xs ys:Array Keyed}(h:xs[i]?=ys[j]?):at_ rk xs i=at_ rk ys j:=by unfold at_;rw[h]
theorem Z0{xs:Array Keyed}{p d:Nat}(hs:p<xs.size)(a:d<=p)(k:Nat):at_ rk (bubble xs p d) k=if k=p-d then at_ rk xs p else if p-d<k/\k<=p then at_ rk xs (k-1)else at_ rk xs k:=by
 have e:=getElem?_bubble hs d a k;by_cases q:k=p-d
 ·simp only[zh q]at e ⊢;exact uY e
 ·simp only[zC q]at e ⊢;by_cases q2:p-d<k/\k<=p
  ·simp only[zh q2]at e ⊢;exact uY e
  ·simp only[zC q2]at e ⊢;exact uY e
theorem SQ{xs:Array Keyed}(a:j<=xs.size)(k:Nat):at_ rk (mirror xs i j ((j-i) / 2)) k=if i<=k/\k<j then at_ rk xs (i+j-1-k)else at_ rk xs k:=by
 have e:=getElem?_mirror_all (i:=i) a k;by_cases q:i<=k/\k<j
 ·simp only[zh q]at e ⊢;exact uY e
 ·simp only[zC q]at e ⊢;exact uY e
theorem yM{xs:Array Keyed}(a:j<=xs.size)(he:∀k,i<=k->k<j->at_ rk xs k=at_ rk xs (j-1))(k:Nat):at_ rk (mirror xs i j ((j-i) / 2)) k=at_ rk xs k:=by
 rw[SQ a];by_cases q:i<=k/\k<j
 ·rw[zh q,he (i+j-1-k) (by omega) (by omega),he k q.1 q.2]
 ·rw[zC q]
end
section
variable{b:Array Keyed}{kd:SortKind}{rk:A0->Nat}
def Yu(prog:A3)(w:A4)(A:A5)(s:A2)(kd:SortKind)(rk:A0->Nat)(b:Array Keyed):Prop:=
 ∀(E:B9) (p q:Keyed) (Q:Bool->A2->Prop),p∈b.toList->q∈b.toList->Q (decide (rk p.1<rk q.1)) s->A7 (A8 prog w) A (keyLt' kd p.1 q.1) Q E s
theorem Pb{st:SortSt}{Q:O Bool->SortSt->Prop}(g:Yu prog w A s kd rk b)(B:Bs kd b st)(hi:i<b.size)(e:j<b.size)(h:Q (U (decide (at_ rk (AM st) i<at_ rk (AM st) j))) st):wpS (A8 prog w) A E s (ltAt' i j) Q st:=by
 have get:∀k,k<b.size->∃p,(AM st)[k]?=U p/\p∈b.toList:=λk a=>by
  have f:k<(AM st).size:=by rw[B.sz];exact a
  exact⟨(AM st)[k],getElem?_pos _ k f,(Array.perm_iff_toList_perm.mp B.pm).mem_iff.mp (by simp)⟩
 obtain⟨p,e1,c⟩:=get i hi;obtain⟨q,e2,d⟩:=get j e;have h:Q (U (decide (rk p.1<rk q.1))) st:=by unfold at_ at h;rw[e1,e2]at h;exact h
 rw[ltAt'_eq];refine AL (wpS_get ?_);show wpS _ _ _ _ (elem' (AM st) i >>= λx=>elem' (AM st) j >>= λy=>lt' x y) Q st;rw[elem'_eq,elem'_eq,e1,e2];refine AL (wpS_pure ?_);refine AL (wpS_pure ?_);rw[lt'_eq];refine AL (wpS_get ?_);rw[B.kd];exact AL (wpS_lift (y0 (g _ p q _ c d ⟨rfl,wpS_pure h⟩)))
theorem MD{st:SortSt}{a:Nat}{Q:AscSt->SortSt->Prop}(g:Yu prog w A s kd rk b)(y:n<=b.size)(p:1<=a)(o:a<=n)(B:Bs kd b st)(hs:Up rk (AM st) a)(h:∀m,a<=m->m<=n->Up rk (AM st) m->(m=n\/at_ rk (AM st) m<at_ rk (AM st) (m-1))->Q (Y,m) st):wpS (A8 prog w) A E s (ascLoop a n) Q st:=by
 unfold ascLoop;refine wpS_forRange (I:=λx c t=>t=st/\c=(Y,x)/\Up rk (AM st) x) ?_ ?_ ⟨rfl,rfl,hs⟩
 ·rintro x c t l v ⟨rfl,rfl,d⟩;refine AL (Pb g B (by omega) (by omega) ?_);by_cases q:at_ rk (AM t) x<at_ rk (AM t) (x-1)
  ·simp only[q,yb,qS];exact wpS_pure (h x l (by omega) d (.inr q))
  ·simp only[q,k4,zr,ZO];refine wpS_pure ⟨rfl,rfl,λi j f u=>?_⟩;by_cases hx:j<x
   ·exact d i j f hx
   ·have e:j=x:=by omega
    subst e;by_cases hi:i=j
    ·rw[hi];exact zg _
    ·have:=d i (j-1) (by omega) (by omega);omega
 ·rintro c t ⟨rfl,rfl,d⟩;rw[show max a n=n by omega]at d ⊢;exact h n o (zg _) d (.inl S)
theorem t3{st:SortSt}{m:Nat}{Q:O Nat->SortSt->Prop}(e:Yu prog w A s kd rk b)(g:n<=b.size)(h1:1<=m)(f:m<=n)(B:Bs kd b st)(hs:CF rk (AM st) m)(h:∀k t,Bs kd b t->1<=k->k<=n->Up rk (AM t) k->Q (U k) t):wpS (A8 prog w) A E s (tail3 m n) Q st:=by
 unfold tail3;have c:m<=(AM st).size:=by rw[B.sz];omega
 refine AL (wpS_reverse ?_);have a:Bs kd b (PyProof.Rows.setArr st (mirror (AM st) 0 m ((m-0) / 2))):=B.arr (mirror_perm _ _ _ _);refine AL (MD e g h1 f a (λi j o q=>?_) λk p l d _=>wpS_pure (h k _ a (by omega) l d));show at_ rk (mirror (AM st) 0 m ((m-0) / 2)) i<=at_ rk (mirror (AM st) 0 m ((m-0) / 2)) j;rw[SQ c,SQ c,zh ⟨by omega,by omega⟩,zh ⟨by omega,by omega⟩];exact hs _ _ (by omega) (by omega)
theorem cS{st:SortSt}{m:Nat}{Q:DescSt->SortSt->Prop}(l:Yu prog w A s kd rk b)(H:n<=b.size)(h1:1<=m)(v:m<=n)(B:Bs kd b st)(hs:CF rk (AM st) m)(h:∀k e t,Bs kd b t->m<=k->k<=n->CF rk (AM t) k->e+1<=k->(∀i,k-(e+1)<=i->i<k->at_ rk (AM t) i=at_ rk (AM t) (k-1))->Q (Y,k,e) t):wpS (A8 prog w) A E s (descLoop m n) Q st:=by
 unfold descLoop;refine wpS_forRange (I:=λx c t=>∃e,c=(Y,x,e)/\Bs kd b t/\CF rk (AM t) x/\e+1<=x/\∀i,x-(e+1)<=i->i<x->at_ rk (AM t) i=at_ rk (AM t) (x-1)) ?_ ?_ ⟨0,rfl,B,hs,by omega,λi q1 q2=>by rw[show i=m-1 by omega]⟩
 ·rintro x c t u G ⟨e,rfl,a,dn,f,d⟩;have y:x<=(AM t).size:=by rw[a.sz];omega
  have grow:∀xs:Array Keyed,(∀k,at_ rk xs k=at_ rk (AM t) k)->at_ rk (AM t) x<=at_ rk (AM t) (x-1)->CF rk xs (x+1):=λxs g C i j p F=>by
   rw[g,g];by_cases hx:j<x
   ·exact dn i j p hx
   ·have o:j=x:=by omega
    subst o;by_cases hi:i=j
    ·rw[hi];exact zg _
    ·have:=dn i (j-1) (by omega) (by omega);omega
  dsimp only;refine AL (Pb l a (by omega) (by omega) ?_);by_cases q:at_ rk (AM t) x<at_ rk (AM t) (x-1)
  ·simp only[q,yb,qS];by_cases h0:e>0
   ·rw[zh h0];exact AL (wpS_reverse (wpS_pure ⟨0,rfl,a.arr (mirror_perm _ _ _ _),grow _ (yM y d) (by omega),by omega,λi q1 q2=>by rw[show i=x by omega];rfl⟩))
   ·rw[zC h0];exact wpS_pure ⟨0,rfl,a,grow _ (λ_=>S) (by omega),by omega,λi q1 q2=>by rw[show i=x by omega];rfl⟩
  ·simp only[q,k4,zr,ZO];refine AL (Pb l a (by omega) (by omega) ?_);by_cases q2:at_ rk (AM t) (x-1)<at_ rk (AM t) x
   ·simp only[q2,yb,qS];exact wpS_pure (h x e t a u (by omega) dn f d)
   ·simp only[q2,k4,zr,ZO];refine wpS_pure ⟨e+1,rfl,a,grow _ (λ_=>S) (by omega),by omega,λi z D=>?_⟩;rw[show x+1-1=x by omega];by_cases hi:i=x
    ·rw[hi]
    ·rw[d i (by omega) (by omega)];omega
 ·rintro c t ⟨e,rfl,a,dn,f,d⟩;rw[show max m n=n by omega]at dn f d ⊢;exact h n e t a v (zg _) dn f d
theorem Nd{st:SortSt}{m:Nat}{Q:O Nat->SortSt->Prop}(c:Yu prog w A s kd rk b)(d:n<=b.size)(q:m+1<=n)(B:Bs kd b st)(hs:CF rk (AM st) (m+1))(h:∀k t,Bs kd b t->1<=k->k<=n->Up rk (AM t) k->Q (U k) t):wpS (A8 prog w) A E s (descPart m n) Q st:=by
 unfold descPart;refine AL (wpS_lift (Kn ⟨rfl,?_⟩));refine AL (cS c d (by omega) q B hs λk e t a u l dn v f=>?_);have g:k<=(AM t).size:=by rw[a.sz];omega
 by_cases h0:e>0
 ·simp only[zh h0];refine AL (wpS_reverse (t3 c d (by omega) l (a.arr (mirror_perm _ _ _ _)) (λi j o p=>?_) h));show at_ rk (mirror (AM t) _ _ _) j<=at_ rk (mirror (AM t) _ _ _) i;rw[yM g f,yM g f];exact dn i j o p
 ·simp only[zC h0];exact t3 c d (by omega) l a dn h
theorem No{st:SortSt}{Q:O Nat->SortSt->Prop}(c:Yu prog w A s kd rk b)(e:n<=b.size)(h1:1<=n)(B:Bs kd b st)(h:∀k t,Bs kd b t->1<=k->k<=n->Up rk (AM t) k->Q (U k) t):wpS (A8 prog w) A E s (countRun' 0 n) Q st:=by
 rw[countRun0_eq];refine AL (MD c e (zg 1) h1 B (λi j f o=>by rw[show i=j by omega];exact zg _) λm g l a or=>?_);by_cases d:m=n
 ·simp only[zh (show(m==n)=true by simpa using d)];exact wpS_pure (h m st B g l a)
 ·simp only[zC (show ¬ (m==n)=true by simpa using d)];have lt:=or.resolve_left d;have p:m<=(AM st).size:=by rw[B.sz];omega
  by_cases g1:m>1
  ·rw[zh g1];refine AL (Pb c B (by omega) (by omega) ?_);by_cases q:at_ rk (AM st) 0<at_ rk (AM st) (m-1)
   ·simp only[q,yb,qS];exact wpS_pure (h m st B g l a)
   ·simp only[q,k4,zr,ZO];have all:∀k,0<=k->k<m->at_ rk (AM st) k=at_ rk (AM st) (m-1):=λk _ u=>by
     have a1:=a 0 k (by omega) u;have a2:=a k (m-1) (by omega) (by omega);omega
    refine AL (wpS_reverse (Nd c e (by omega) (B.arr (mirror_perm _ _ _ _)) (λi j f o=>?_) h));show at_ rk (mirror (AM st) _ _ _) j<=at_ rk (mirror (AM st) _ _ _) i;rw[yM p all,yM p all];by_cases x:j<m
    ·rw[all i (by omega) (by omega),all j (by omega) x];exact zg _
    ·have v:j=m:=by omega
     subst v;by_cases hi:i=j
     ·rw[hi];exact zg _
     ·rw[all i (by omega) (by omega)];omega
  ·rw[zC g1];have e1:m=1:=by omega
   subst e1;refine Nd c e (by omega) B (λi j f o=>?_) h;by_cases hi:i=j
   ·rw[hi];exact zg _
   ·rw[show i=0 by omega,show j=1 by omega];exact JJ lt
theorem Go{st:SortSt}{g:Nat}{Q:Bool->SortSt->Prop}(G:Yu prog w A s kd rk b)(K:n<=b.size)(L:g<=n)(B:Bs kd b st)(hs:Up rk (AM st) g)(h:∀t,Bs kd b t->Up rk (AM t) n->Q true t):wpS (A8 prog w) A E s (binarySort' 0 n g) Q st:=by
 rw[binarySort'_eq];simp only[KG];refine AL (wpS_mono (wpS_forRange (I:=λk c t=>c=(Y,())/\Bs kd b t/\Up rk (AM t) (min k n)) (Q:=λc t=>c=(Y,())/\Bs kd b t/\Up rk (AM t) n) ?_ ?_ ?_) ?_)
 ·rintro k c t J M ⟨rfl,f,d⟩;rw[show min k n=k by omega]at d;have v:k<b.size:=by omega
  refine AL (wpS_mono (wpS_forRange (I:=λx c a=>a=t/\∃l r,c=(Y,l,r)/\l<=r/\r<=k/\r-l<=k-x/\(∀i,i<l->at_ rk (AM t) i<=at_ rk (AM t) k)/\(∀i,r<=i->i<k->at_ rk (AM t) k<at_ rk (AM t) i))
   (Q:=λc a=>a=t/\∃l r,c=(Y,l,r)/\l<=k/\(∀i,i<l->at_ rk (AM t) i<=at_ rk (AM t) k)/\(∀i,l<=i->i<k->at_ rk (AM t) k<at_ rk (AM t) i)) ?_ ?_ ?_) ?_)
  ·rintro x c a _ hx ⟨rfl,l,r,rfl,y,m,C,lo,hi⟩;dsimp only;by_cases p:l>=r
   ·rw[zh p];have e:l=r:=by omega
    subst e;exact wpS_pure ⟨rfl,l,l,rfl,m,lo,hi⟩
   ·rw[zC p];refine AL (Pb G f v (by omega) ?_);by_cases q:at_ rk (AM a) k<at_ rk (AM a) ((l+r) / 2)
    ·simp only[q,yb,qS];refine wpS_pure ⟨rfl,l,(l+r) / 2,rfl,by omega,by omega,by omega,lo,λi q1 q2=>?_⟩;have:=d ((l+r) / 2) i q1 q2;omega
    ·simp only[q,k4,zr,ZO];refine wpS_pure ⟨rfl,(l+r) / 2+1,r,rfl,by omega,by omega,by omega,λi q1=>?_,hi⟩;have:=d i ((l+r) / 2) (by omega) (by omega);omega
  ·rintro c a ⟨rfl,l,r,rfl,y,m,C,lo,hi⟩;have e:l=r:=by omega
   subst e;exact⟨rfl,l,l,rfl,m,lo,hi⟩
  ·exact⟨rfl,0,k,rfl,by omega,by omega,by omega,λi hi=>by omega,λi q1 q2=>by omega⟩
  ·rintro c a ⟨rfl,l,r,rfl,H,lo,hi⟩;show wpS _ _ _ _ (moveDown' k l >>= λ_=>pure (ForInStep.yield (Y,()))) _ _;rw[moveDown'_eq];refine AL (wpS_modify (wpS_pure ⟨rfl,f.arr (bubble_perm _ _ _),?_⟩));rw[show min (k+1) n=k+1 by omega];have o:k<(AM a).size:=by rw[f.sz];exact v
   intro i j u D;show at_ rk (bubble (AM a) k (k-l)) i<=at_ rk (bubble (AM a) k (k-l)) j;rw[Z0 o (by omega),Z0 o (by omega),show k-(k-l)=l by omega]
   repeat' split
   all_goals first
    |(exfalso;omega)
    |exact zg _
    |exact lo _ (by omega)
    |exact JJ (hi _ (by omega) (by omega))
    |exact d _ _ (by omega) (by omega)
 ·rintro c t ⟨F,f,d⟩;refine⟨F,f,?_⟩;rwa [show min (max (max g 1) n) n=n by omega]at d
 ·refine⟨rfl,B,λi j u D=>?_⟩;by_cases z:g=0
  ·rw[show i=j by omega];exact zg _
  ·exact hs i j u (by omega)
 ·rintro c t ⟨rfl,f,d⟩;exact wpS_pure (h t f d)
def Dn(kd:SortKind)(rk:A0->Nat)(b:Array Keyed)(st:SortSt):Prop:=(AM st).Perm b/\failedOf st=Y/\pendingOf st=#[(0,b.size,0)]/\Up rk (AM st) b.size
theorem Bs.dn{st:SortSt}(B:Bs kd b st)(a:Up rk (AM st) b.size):Dn kd rk b (setPending st ((pendingOf st).push (0,b.size,0))):=⟨B.pm,B.fl,(by show(pendingOf st).push _=_;rw[B.pd];rfl),a⟩
theorem IJ{st:SortSt}{Q:Unit->SortSt->Prop}(i:Yu prog w A s kd rk b)(B:Bs kd b st)(h2:2<=b.size)(y:b.size<64)
  (h:∀t,(AM t).Perm b->failedOf t=Y->Up rk (AM t) b.size->Q () t):wpS (A8 prog w) A E s sortRuns' Q st:=by
 rw[sortRuns'_eq];refine AL (wpS_get ?_);have v:minRun' b.size b.size 0=b.size:=by
  obtain⟨f,l⟩:∃f,b.size=f+1:=⟨b.size-1,by omega⟩;have q:minRun' (f+1) b.size 0=b.size:=(minRun'_succ f b.size 0).trans (zh y);rwa [<-l]at q
 simp only[B.sz,v];have back:∀{t:SortSt},Bs kd b t->(pendingOf t).back?=Y:=λB=>by rw[B.pd];rfl
 refine AL (wpS_mono (wpS_forRange (I:=λx c t=>(x=0/\c=(Y,0)/\Bs kd b t)\/(1<=x/\c=(Y,b.size)/\Dn kd rk b t)) (Q:=λc t=>c=(Y,b.size)/\Dn kd rk b t) ?_ ?_ (.inl ⟨rfl,rfl,B⟩)) ?_)
 ·rintro x c t _ hx (⟨rfl,rfl,j⟩|⟨C,rfl,D⟩)
  ·dsimp only;rw[zC (by omega)];simp only[Nat.sub_zero,Nat.min_self,KG];refine AL (No i (zg _) (by omega) j λm t2 a z n d=>?_);dsimp only;by_cases lt:m<b.size
   ·rw[zh lt];refine AL (wpS_lift (Kn ⟨rfl,AL (Go i (zg _) n a d λt3 g p=>?_)⟩));simp only[kQ,zr,ZO];refine AL (wpS_get ?_);rw[back g];exact AL (wpS_modify (wpS_pure (.inr ⟨by omega,rfl,g.dn p⟩)))
   ·rw[zC lt];have e:m=b.size:=by omega
    subst e;refine AL (wpS_get ?_);rw[back a];exact AL (wpS_modify (wpS_pure (.inr ⟨by omega,rfl,a.dn d⟩)))
  ·dsimp only;rw[zh (zg _)];exact wpS_pure ⟨rfl,D⟩
 ·rintro c t (⟨hx,_,_⟩|⟨_,o,D⟩)
  ·omega
  ·exact⟨o,D⟩
 ·rintro c t ⟨rfl,D⟩;dsimp only;refine AL (wpS_mono (wpS_forRange (I:=λ_ c u=>u=t/\c=(Y,())) (Q:=λc u=>u=t/\c=(Y,())) ?_ (λ_ _ q=>q) ⟨rfl,rfl⟩) ?_)
  ·rintro x c u _ _ ⟨rfl,rfl⟩;refine AL (wpS_get ?_);rw[zh (by rw[D.2.2.1];exact zg 1)];exact wpS_pure ⟨rfl,rfl⟩
  ·rintro c u ⟨rfl,rfl⟩;exact wpS_pure (h _ D.1 D.2.1 D.2.2.2)
def F7(a:A1)(s s':A2):Prop:=∀c o,c≠a->s.heap.get? c=U o->s'.heap.get? c=U o
theorem Id{vs:Z A0}{P:Fin->A2->Prop}(b:s.heap.get? a=U (seqObj "list" vs.toArray n))(u:2<=vs.length->∀s',F7 a s s'->∀Q:SortKind->A2->Prop,Q kd s'->A7 (A8 prog w) A (keyKind' vs.toArray) Q E s')(x:∀s',F7 a s s'->Yu prog w A s' kd rk (pairsOf vs))(y:vs.length<64)(h:∀st:SortSt,(AM st).Perm (pairsOf vs)->Up rk (AM st) (pairsOf vs).size->P (.done (.ret .none)) { s with heap:=sortedHeap s.heap a vs ((AM st).map (·.2)) }):
  A7 (A8 prog w) A (Builtin.«list.sort» ⟨[.ref a],[]⟩) P E s:=by
 rw[list_sort_plain];have m:=zt b;refine zb (listItems_at b S (zb (listUpdate_at b S ?_)));obtain⟨e1,g1⟩:∃e1,(s.heap.update a (Obj.mapSeq λ_=>#[])).get? a=U (seqObj "list" #[] e1):=⟨_,get?_update_seq b λ_=>#[]⟩;refine zb (seqEpoch_at g1 S (zb (wpAny_newTuple (zb (wpAny_newList (qA ?_))))));have z1:(s.heap.update a (Obj.mapSeq λ_=>#[])).objs.size=s.heap.objs.size:=Heap.size_update ..;have keep:∀c,c<s.heap.objs.size->(((s.heap.update a (Obj.mapSeq λ_=>#[])).push (seqObj "tuple" vs.toArray 0)).push (seqObj "list" #[] 0)).get? c=(s.heap.update a (Obj.mapSeq λ_=>#[])).get? c:=λc d=>by
  rw[Heap.get?_push_ne _ _ _ (by rw[size_push',z1];exact Zl (Qb d)),Heap.get?_push_ne _ _ _ (by rw[z1];exact Zl d)]
 have f:=(keep a m).trans g1;have old:F7 a s { s with heap:=((s.heap.update a (Obj.mapSeq λ_=>#[])).push (seqObj "tuple" vs.toArray 0)).push (seqObj "list" #[] 0) }:=λc o d e=>by
  show(((s.heap.update a (Obj.mapSeq λ_=>#[])).push (seqObj "tuple" vs.toArray 0)).push (seqObj "list" #[] 0)).get? c=U o;rw[keep c (zt e),ka _ _ _ _ d];exact e
 show A7 _ _ _ _ _ { s with heap:=((s.heap.update a (Obj.mapSeq λ_=>#[])).push (seqObj "tuple" vs.toArray 0)).push (seqObj "list" #[] 0) };have C:vs.toArray.size=vs.length:=by simp
 have g:∀st:SortSt,(AM st).Perm (pairsOf vs)->((AM st).map (·.2)).size<=AA+1:=λst hp=>by
  have q:((AM st).map (·.2)).size=vs.length:=(Array.size_map ..).trans (hp.size_eq.trans (pairsOf_size _));rw[q,sizeLine_eq];omega
 by_cases h2:vs.toArray.size<2
 ·simp only[zh h2];refine zb (ze ?_);rw[StateT.run_pure];refine zb (ze (zb (seqEpoch_at f S (zb (listUpdate_at f S ?_ (hsz2:=g (SortSt.mk' general' (pairsOf vs) #[] 7 Y) (Array.Perm.refl _)))))));simp only[bne_self_eq_false,zr,ZO];refine ze (h (SortSt.mk' general' (pairsOf vs) #[] 7 Y) (Array.Perm.refl _) λi j B v=>?_);rw[pairsOf_size]at v;rw[show i=j by omega];exact zg _
 ·simp only[zC h2];refine zb (u (by omega) _ old _ ?_);refine zb (ZZ (IJ (x _ old) (st:=SortSt.mk' kd (pairsOf vs) #[] 7 Y) (Q:=λ_ t=>(AM t).Perm (pairsOf vs)/\failedOf t=Y/\Up rk (AM t) (pairsOf vs).size) ⟨Array.Perm.refl _,rfl,rfl,rfl⟩ (by rw[pairsOf_size];omega) (by rw[pairsOf_size];exact y) λt q1 q2 p=>⟨q1,q2,p⟩) ?_ λ_ _ q=>q);rintro⟨⟨⟩,t⟩ s' ⟨rfl,hp,z,l⟩;dsimp only;refine zb (seqEpoch_at f S (zb (listUpdate_at f S ?_ (hsz2:=g t hp))));rw[z];simp only[bne_self_eq_false,zr,ZO];exact ze (h t hp l)
theorem W8{x:A0}{vs:Z A0}{Q:B9}(u:∀(b:B9) (f:Z A0->A2->Prop),(∀h' tk,s.heap.objs.size<=h'.objs.size->(∀c o,s.heap.get? c=U o->h'.get? c=U o)->f vs { s with heap:=h',toks:=tk })->A7 (A8 prog w) A.in1 (collect x) f b s)
  (j:2<=vs.length->∀(b:B9) (a:A5) (s':A2),(∀c o,s.heap.get? c=U o->s'.heap.get? c=U o)->∀Q:SortKind->A2->Prop,Q kd s'->A7 (A8 prog w) a (keyKind' vs.toArray) Q b s') (p:∀(a:A5) (s':A2),(∀c o,s.heap.get? c=U o->s'.heap.get? c=U o)->Yu prog w a s' kd rk (pairsOf vs)) (t:vs.length<64)
  (h:∀(l:A1) (h':A6) (tk n:Nat) (st:SortSt),(AM st).Perm (pairsOf vs)->Up rk (AM st) (pairsOf vs).size->s.heap.objs.size<=l->(∀c o,s.heap.get? c=U o->h'.get? c=U o)->h'.get? l=U (seqObj "list" ((AM st).map (·.2)) n)->Q (.ref l) { s with heap:=h',toks:=tk }):
  A7 (A8 prog w) A (call (.builtin "sorted") [x]) Q E s:=by
 refine Calls.call_function_entry kind_sorted plain_sorted entry_sorted (args_sorted1 _) ?_;unfold Builtin.«sorted»;refine zb (m:=checkCount "sorted" 1 1 _) (ze (zb (u _ _ λh1 tk g ext=>zb (wpAny_newList ?_))));have d:(h1.push (seqObj "list" vs.toArray 0)).get? h1.objs.size=U (seqObj "list" vs.toArray 0):=zv _ rfl;have old:∀s':A2,F7 h1.objs.size { s with heap:=h1.push (seqObj "list" vs.toArray 0),toks:=tk } s'->∀c o,s.heap.get? c=U o->s'.heap.get? c=U o:=λs' q c o e=>
  q c o (Zl (zt (ext c o e))) (zd _ (ext c o e))
 refine zb (qA (kf slot_list_sort ⟨_,d,rfl⟩ entry_list_sort (Id d (λq s' o=>j q _ _ s' (old s' o)) (λs' o=>p _ s' (old s' o)) t λst q1 q2=>⟨_,rfl,ze ⟨_,rfl,?_⟩⟩) (args_list_sort _)));obtain⟨n,i⟩:=sortedHeap_at (out:=(AM st).map (·.2)) d;refine h h1.objs.size _ tk n st q1 q2 g (λc o e=>?_) i;have hb:=zt (ext c o e);rw[sortedHeap_old (Zl hb) (by rw[qv];exact Qb hb)];exact zd _ (ext c o e)
end
end S1
namespace S1
open L2
theorem W9(fb:Bool)(x y:A0):keyLt' (tuples' fb) x y=(do
  let xs <-Builtin.List.listItems x
  let ys <-Builtin.List.listItems y
  for ((p,q),i) in (xs.toList.zip ys.toList).zipIdx do
   if !(<-eqBool p q)then return <-oneLt' (fb&&i==0) p q
  return decide (xs.size<ys.size)):=rfl
def Xa:AY->AY->Bool
 |.inl a,.inl b=>decide (a<b)
 |.inr x,.inr y=>decide (x.cps.toList<y.cps.toList)
 |.inl _,.inr _=>true
 |.inr _,.inl _=>false
def Vn:AY->AY->Bool
 |.inl _,.inl _=>true
 |.inr _,.inr _=>true
 |_,_=>false
def oZ:Z AY->Z AY->Bool
 |[],[]=>false
 |[],_::_=>true
 |_::_,[]=>false
 |x::xs,y::ys=>if x=y then oZ xs ys else Xa x y
def D3:Z AY->Z AY->Prop
 |x::xs,y::ys=>Vn x y=true/\D3 xs ys
 |_,_=>True
theorem EB{x y:AY}{p q:A0}{Q:Bool->A2->Prop}(hp:kZ x p=true)(c:kZ y q=true)(h:Q (decide (x=y)) s):A7 (A8 prog w) A (eqBool p q) Q E s:=
 (bF prog w).eqBool (a:=x) (b:=y) hp c h
theorem eK{fb:Bool}{x y:AY}{p q:A0}{Q:Bool->A2->Prop}(hs:Vn x y=true)(hp:kZ x p=true)(a:kZ y q=true)(h:Q (Xa x y) s):A7 (A8 prog w) A (oneLt' fb p q) Q E s:=by
 rcases bQ hp with⟨i,t,rfl,rfl⟩|⟨z,t,rfl,rfl⟩
 ·rcases bQ a with⟨j,u,rfl,rfl⟩|⟨z,u,rfl,rfl⟩
  ·cases fb with
   |true=>exact oneLt_int h
   |false=>
    rw[oneLt'_eq];simp only[zr,ZO];refine zb (show A7 _ _ (AG .Lt (.int i t) (.int j u)) _ _ _ from lt_int ?_);exact JP h
  ·cases hs
 ·rcases bQ a with⟨j,u,rfl,rfl⟩|⟨b,u,rfl,rfl⟩
  ·cases hs
  ·cases fb with
   |true=>exact oneLt_str h
   |false=>
    rw[oneLt'_eq];simp only[zr,ZO];refine zb (show A7 _ _ (AG .Lt (.str z t) (.str b u)) _ _ _ from PySem.P.lt_str ?_);exact JP h
def Ks(ks:Z AY)(AQ:Z A0):Prop:=AI (λk v=>kZ k v=true) ks AQ
def DO:Z AY->Z AY->O Bool
 |x::xs,y::ys=>if x=y then DO xs ys else U (Xa x y)
 |_,_=>Y
theorem Z1:∀ks a:Z AY,oZ ks a=match DO ks a with|some r=>r|none=>decide (ks.length<a.length)
 |[],[]=>rfl
 |[],_::_=>by simp[oZ,DO]
 |_::_,[]=>rfl
 |x::xs,y::ys=>by
  simp only[oZ,DO];by_cases e:x=y
  ·rw[zh e,zh e,Z1 xs ys];simp only[qc,Nat.add_lt_add_iff_right]
  ·rw[zC e,zC e]
def turn(fb:Bool):(A0×A0)×Nat->O Bool×Unit->Sem (ForInStep (O Bool×Unit)):=λx _=>match x with
 |((p,q),i)=>do
  let e <-eqBool p q
  if(!e)=true then do
    let r <-oneLt' (fb&&i==0) p q
    pure (ForInStep.done (U r,()))
   else pure (ForInStep.yield (Y,()))
theorem EQ(fb:Bool):∀(ks b:Z AY) (AQ a:Z A0) (i:Nat) (R:O Bool×Unit->A2->Prop),Ks ks AQ->Ks b a->D3 ks b->R (DO ks b,()) s->A7 (A8 prog w) A (forIn ((AQ.zip a).zipIdx i) ((Y,()):O Bool×Unit) (turn fb)) R E s
 |[],_,_,_,_,R,.nil,_,_,h=>ze h
 |_::_,[],_::_,_,_,R,_,.nil,_,h=>ze h
 |x::xs,y::ys,p::AQ,q::a,i,R,.cons hp hk,.cons hq hl,hs,h=>by
  rw[List.zip_cons_cons,List.zipIdx_cons,List.forIn_cons];refine zb ?_;show A7 _ _ (eqBool p q >>= _) _ _ _;refine zb (EB hp hq ?_);by_cases e:x=y
  ·simp only[e,yb,kQ,zr,ZO];refine ze (EQ fb xs ys AQ a (i+1) R hk hl hs.2 ?_);simp only[DO,zh e]at h;exact h
  ·simp only[e,k4,kX,qS];refine zb (eK hs.1 hp hq (ze (ze ?_)));simp only[DO,zC e]at h;exact h
theorem VC{fb:Bool}{c:A1}{j g:AE}{d:Z A0}{m:Nat}{b:Z AY}{Q:Bool->A2->Prop}(l:s.heap.get? a=U j)(t:j.data=.seq AQ.toArray n)(p:s.heap.get? c=U g)(q:g.data=.seq d.toArray m)(f:Ks ks AQ)(i:Ks b d)(hs:D3 ks b)(h:Q (oZ ks b) s):A7 (A8 prog w) A (keyLt' (tuples' fb) (.ref a) (.ref c)) Q E s:=by
 rw[W9];refine zb (listItems_at l t (zb (listItems_at p q ?_)));have o:AQ.length=ks.length:=(Paired.length f).symm;have u:d.length=b.length:=(Paired.length i).symm;refine zb (EQ fb ks b AQ d 0 _ f i hs ?_);rw[Z1]at h;cases e:DO ks b with
 |some r=>rw[e]at h;exact ze h
 |none=>
  rw[e]at h;refine ze ?_;simpa[o,u]using h
theorem US(x:AY):Xa x x=false:=by
 cases x with
 |inl a=>simp[Xa]
 |inr a=>simp[Xa]
theorem Xb{x y z:AY}(h:Xa x y=true)(h':Xa y z=true):Xa x z=true:=by
 cases x<;>cases y<;>cases z<;>simp only[Xa,qi,zr,reduceCtorEq]at h h' ⊢
 ·omega
 ·exact List.lt_trans h h'
theorem Th{x y:AY}(h:Xa x y=false)(h':Xa y x=false):x=y:=by
 cases x<;>cases y<;>simp only[Xa,kB,Bool.true_eq_false,reduceCtorEq]at h h'
 ·congr 1;omega
 ·rename_i a b;have:=List.le_antisymm (as:=a.cps.toList) (bs:=b.cps.toList) h' h;cases a;cases b;simp only at this;rw[Array.toList_inj.mp this]
theorem Gh:∀xs:Z AY,oZ xs xs=false
 |[]=>rfl
 |x::xs=>by simp only[oZ,qS];exact Gh xs
theorem o7:∀{xs ys zs:Z AY},oZ xs ys=true->oZ ys zs=true->oZ xs zs=true
 |[],[],_,h,_=>by cases h
 |[],_::_,[],_,h'=>by cases h'
 |[],_::_,_::_,_,_=>rfl
 |_::_,[],_,h,_=>by cases h
 |_::_,_::_,[],_,h'=>by cases h'
 |x::xs,y::ys,z::zs,h,h'=>by
  simp only[oZ]at h h' ⊢;by_cases e1:x=y
  ·subst e1;rw[zh rfl]at h;by_cases e2:x=z
   ·subst e2;rw[zh rfl]at h' ⊢;exact o7 h h'
   ·rw[zC e2]at h' ⊢;exact h'
  ·rw[zC e1]at h;by_cases e2:y=z
   ·subst e2;rw[zC e1];exact h
   ·rw[zC e2]at h';have:=Xb h h';rw[zC (λe=>by subst e;rw[US]at this;cases this)];exact this
theorem yN:∀{xs ys:Z AY},oZ xs ys=false->oZ ys xs=false->xs=ys
 |[],[],_,_=>rfl
 |[],_::_,h,_=>by cases h
 |_::_,[],_,h'=>by cases h'
 |x::xs,y::ys,h,h'=>by
  simp only[oZ]at h h';by_cases e:x=y
  ·subst e;rw[zh rfl]at h h';rw[yN h h']
  ·rw[zC e]at h;rw[zC (jI e)]at h';exact absurd (Th h h') e
def wL(xs ys:Z AY):Bool:=!oZ ys xs
theorem xQ(a b c:Z AY)(h:wL a b=true)(h':wL b c=true):wL a c=true:=by
 unfold wL at *
 simp only[Qr]at *
 cases d:oZ c a with
 |false=>rfl
 |true=>
  cases f:oZ a b with
  |true=>rw[o7 d f]at h';cases h'
  |false=>
   have e:=yN f h;subst e;rw[d]at h';cases h'
theorem xR(a b:Z AY):(wL a b||wL b a)=true:=by
 unfold wL;cases h:oZ b a with
 |false=>rfl
 |true=>
  cases h':oZ a b with
  |false=>rfl
  |true=>have:=o7 h h';rw[Gh]at this;cases this
theorem Xc{a b:Z AY}(h:wL a b=true)(h':wL b a=true):a=b:=by
 unfold wL at *
 simp only[Qr]at *
 exact yN h' h
theorem Bt{α:Type}{le:α->α->Prop}(c:∀a b,le a b->le b a->a=b):∀{l l':Z α},l.Perm l'->l.Pairwise le->l'.Pairwise le->l=l'
 |[],l',h,_,_=>by rw[List.nil_perm.mp h]
 |a::l,[],h,_,_=>by cases List.perm_nil.mp h
 |a::l,b::l',h,p,p'=>by
  have e:a=b:=by
   have d:a∈b::l':=h.mem_iff.mp (zk ..);have hb:b∈a::l:=h.mem_iff.mpr (zk ..);rcases List.mem_cons.mp d with h1|h1
   ·exact h1
   ·rcases List.mem_cons.mp hb with h2|h2
    ·exact h2.symm
    ·exact c a b (ki p h2) (ki p' h1)
  subst e;rw[Bt c ((List.perm_cons a).mp h) (List.pairwise_cons.mp p).2 (List.pairwise_cons.mp p').2]
def jZ(cL:Z (Z AY)):Z (Z AY):=cL.mergeSort wL
theorem mC(cL:Z (Z AY)):(jZ cL).Perm cL:=ym ..
theorem uZ(cL:Z (Z AY)):(jZ cL).Pairwise (λa b=>wL a b=true):=KF xQ xR cL
theorem qZ{out:Z (Z AY)}(hp:out.Perm cL)(hs:out.Pairwise (λa b=>wL a b=true)):out=jZ cL:=Bt (λ_ _=>Xc) (hp.trans (mC cL).symm) hs (uZ cL)
def CB(cL:Z (Z AY))(k:Z AY):Nat:=cL.countP λu=>oZ u k
theorem JN{α:Type}{p q:α->Bool}:∀{l:Z α},(∀x∈l,p x=true->q x=true)->(∃x∈l,p x=false/\q x=true)->l.countP p<l.countP q
 |[],_,⟨x,hx,_⟩=>by cases hx
 |a::l,h,⟨x,hx,h1,h2⟩=>by
  have le:l.countP p<=l.countP q:=List.countP_mono_left λy b=>h y (zo _ b);rw[List.countP_cons,List.countP_cons];rcases List.mem_cons.mp hx with rfl|hx
  ·rw[h1,h2];simp;omega
  ·have:=JN (λy b=>h y (zo _ b)) ⟨x,hx,h1,h2⟩;have c:=h a (zk ..);cases hp:p a with
   |true=>rw[c hp];simp;omega
   |false=>simp;omega
theorem Vo{a b:Z AY}(d:a∈cL):decide (CB cL a<CB cL b)=oZ a b:=by
 cases h:oZ a b with
 |true=>
  refine ZT (JN (λu _ c=>o7 c h) ⟨a,d,Gh a,h⟩)
 |false=>
  refine ZE (Nat.not_lt.mpr (List.countP_mono_left λu _ c=>?_));cases hb:oZ b a with
  |true=>exact o7 c hb
  |false=>rw[yN h hb];exact c
def jz(h:A6)(ks:Z AY)(v:A0):Prop:=∃(a:A1) (o:AE) (AQ:Z A0) (n:Nat),v=.ref a/\h.get? a=U o/\o.cls=.type "tuple" ∧ o.data=.seq AQ.toArray n/\Ks ks AQ
theorem jz.keep{h':A6}{v:A0}(q:jz h ks v)(k:∀c o,h.get? c=U o->h'.get? c=U o):jz h' ks v:=by
 obtain⟨a,o,AQ,n,e,g,c,d,p⟩:=q;exact⟨a,o,AQ,n,e,k _ _ g,c,d,p⟩
theorem RC{k l:AY}{v:A0}(h:kZ k v=true)(h':kZ l v=true):k=l:=by
 rcases bQ h with⟨i,t,rfl,rfl⟩|⟨x,t,rfl,rfl⟩
 ·rcases bQ h' with⟨j,u,rfl,e⟩|⟨y,u,rfl,e⟩
  ·cases e;rfl
  ·cases e
 ·rcases bQ h' with⟨j,u,rfl,e⟩|⟨y,u,rfl,e⟩
  ·cases e
  ·cases e;rfl
theorem Ks.inj:∀{ks a:Z AY} {AQ:Z A0},Ks ks AQ->Ks a AQ->ks=a
 |_,_,[],h,h'=>by cases h;cases h';rfl
 |_,_,v::AQ,h,h'=>by
  cases h with
  |cons p t=>cases h' with
   |cons p' t'=>rw[RC p p',Ks.inj t t']
theorem jz.inj{h:A6}{ks i:Z AY}{v:A0}(q:jz h ks v)(l:jz h i v):ks=i:=by
 obtain⟨a,o,AQ,n,rfl,g,c,d,p⟩:=q;obtain⟨s,o',j,t,e,b,m,f,p'⟩:=l;cases e;rw[g]at b;cases b;rw[d]at f;injection f with e1 e2;have e3:AQ=j:=by simpa using congrArg Array.toList e1
 subst e3;exact p.inj p'
theorem Lj{α β:Type}{f:α->Sem β}:∀(xs:Z α) (ys:Z β) (Q:Z β->A2->Prop),AI (λx y=>∀(b:B9) (a:β->A2->Prop),a y s->A7 (A8 prog w) A (f x) a b s) xs ys->Q ys s->A7 (A8 prog w) A (xs.mapM f) Q E s
 |[],_,Q,.nil,h=>by rw[List.mapM_nil];exact ze h
 |x::xs,y::ys,Q,.cons h t,q=>by
  rw[List.mapM_cons];exact zb (h _ _ (zb (Lj xs ys _ t (ze q))))
theorem Z2(v:A0):firstOfTuple' v=(do
  if(<-typeOf v) != .type "tuple" then return Y
  return (<-Builtin.List.listItems v)[0]?):=rfl
theorem Xd{k:AY}{v:A0}(q:jz s.heap (k::ks) v):∃u,kZ k u=true/\∀(e:B9) (b:O A0->A2->Prop),b (U u) s->A7 (A8 prog w) A (firstOfTuple' v) b e s:=by
 obtain⟨a,o,AQ,n,rfl,g,c,d,p⟩:=q;cases p with
 |@cons _ u _ AQ hp t=>
  refine⟨u,hp,λe b h=>?_⟩;rw[Z2];refine zb (QR (T :="tuple") ⟨o,g,c⟩ ?_);rw[zC (by decide)];exact zb (listItems_at g d (ze h))
theorem Z4{k:AY}(h:kZ k u=true)(b:B9)(a:B9)(q:a (.type (if k.isLeft then "int" else "str")) s):A7 (A8 prog w) A (typeOf u) a b s:=by
 rcases bQ h with⟨i,t,rfl,rfl⟩|⟨x,t,rfl,rfl⟩
 ·exact QR (typeIs_int s i t) q
 ·exact QR (typeIs_str s x t) q
theorem JQ{vs:Z A0}{Q:SortKind->A2->Prop}(j:AI (jz s.heap) cL vs)(i:∀k∈cL,k≠[])(o:∀k∈cL,∀l∈cL,D3 k l)(h2:1<=vs.length)(h:Q (tuples' true) s):A7 (A8 prog w) A (keyKind' vs.toArray) Q E s:=by
 have step:∀(cL:Z (Z AY)) (vs:Z A0),AI (jz s.heap) cL vs->(∀k∈cL,k≠[])->∃us:Z A0,AI (λv u=>∀(c:B9) (a:O A0->A2->Prop),a (U u) s->A7 (A8 prog w) A (firstOfTuple' v) a c s) vs us/\AI (λ(k:Z AY) u=>∃x r,k=x::r/\kZ x u=true) cL us:=by
  intro cL vs j
  induction j with
  |nil=>intro _;exact⟨[],.nil,.nil⟩
  |@cons k v cL vs q t d=>
   intro i;obtain⟨us,p1,p2⟩:=d λk g=>i k (zo _ g);cases k with
   |nil=>exact absurd S (i _ (zk ..))
   |cons x r=>
    obtain⟨u,f,p⟩:=Xd (prog:=prog) (w:=w) (A:=A) q;exact⟨u::us,.cons p p1,.cons ⟨x,r,rfl,f⟩ p2⟩
 obtain⟨us,p1,p2⟩:=step cL vs j i;have D:us.length=vs.length:=(Paired.length p1).symm;have C:∀{l:Z A0} {n:Z A0},AI (λv u=>∀(c:B9) (a:O A0->A2->Prop),a (U u) s->A7 (A8 prog w) A (firstOfTuple' v) a c s) l n->AI (λv u=>∀(c:B9) (a:O A0->A2->Prop),a u s->A7 (A8 prog w) A (firstOfTuple' v) a c s) l (n.map U):=λh=>by
  induction h with
  |nil=>exact .nil
  |cons q t d=>exact .cons q d
 rw[keyKind'_eq,List.mapM_toArray,map_eq_pure_bind];refine zb (zb (Lj vs (us.map U) _ (C p1) (ze ?_)));have y:(us.map U).toArray.all (·.isSome)=true:=by simp
 rw[zh y];refine zb (Kn ?_);have B:(us.map U).toArray.filterMap id=us.toArray:=by simp
 rw[B,oneTypeOnly'_eq,List.mapM_toArray,map_eq_pure_bind];have ty:∀(cL:Z (Z AY)) (us:Z A0),AI (λ(k:Z AY) u=>∃x r,k=x::r/\kZ x u=true) cL us->∃ts:Z A0,AI (λu t=>∀(c:B9) (a:B9),a t s->A7 (A8 prog w) A (typeOf u) a c s) us ts/\AI (λ(k:Z AY) t=>∃x r,k=x::r/\t=.type (if x.isLeft then "int" else "str")) cL ts:=by
  intro cL us hp
  induction hp with
  |nil=>exact⟨[],.nil,.nil⟩
  |@cons k u cL us q t d=>
   obtain⟨ts,q1,q2⟩:=d;obtain⟨x,r,rfl,hx⟩:=q;exact⟨_::ts,.cons (λc a h=>Z4 hx c a h) q1,.cons ⟨x,r,rfl,rfl⟩ q2⟩
 obtain⟨ts,q1,q2⟩:=ty cL us p2;refine zb (zb (zb (Lj us ts _ q1 (ze ?_))));have lt:ts.length=vs.length:=by rw[<-Paired.length q1,D]
 cases q2 with
 |nil=>simp at lt;omega
 |@cons G I H m h0 z=>
  obtain⟨b,r,rfl,rfl⟩:=h0;have same:∀t∈m,t=Value.type (if b.isLeft then "int" else "str"):=by
   have F:∀(cL:Z (Z AY)) (ts:Z A0),AI (λ(k:Z AY) t=>∃x r,k=x::r/\t=Value.type (if x.isLeft then "int" else "str")) cL ts->(∀k∈cL,D3 (b::r) k)->∀t∈ts,t=Value.type (if b.isLeft then "int" else "str"):=by
    intro cL ts hp
    induction hp with
    |nil=>intro _ t e;cases e
    |@cons k t cL ts q _ d=>
     intro hs u f;rcases List.mem_cons.mp f with rfl|f
     ·obtain⟨x,J,rfl,rfl⟩:=q;have:=(hs _ (zk ..)).1;cases b<;>cases x<;>first|rfl|cases this
     ·exact d (λk g=>hs k (zo _ g)) u f
   exact F _ _ z λk g=>o _ (zk ..) k (zo _ g)
  have e0:(Value.type (if b.isLeft then "int" else "str")::m).toArray[0]?=U (Value.type (if b.isLeft then "int" else "str")):=by simp
  have e1:((Value.type (if b.isLeft then "int" else "str")::m).toArray.all λx=>x==Value.type (if b.isLeft then "int" else "str"))=true:=by
   simp only[List.all_toArray,qo];intro t e;rcases List.mem_cons.mp e with rfl|e
   ·simp
   ·rw[same t e];simp
  rw[e0];simp only[e1,qS];refine ze (ze ?_);have e2:((U (Value.type (if b.isLeft then "int" else "str"))).any λx=>x !=Value.type "tuple")=true:=by
   cases b with
   |inl _=>exact(by decide:((U (Value.type "int")).any λx=>x !=Value.type "tuple")=true)
   |inr _=>exact(by decide:((U (Value.type "str")).any λx=>x !=Value.type "tuple")=true)
  rw[e2];exact h
def BE(cL:Z (Z AY))(vs:Z A0)(v:A0):Z AY:=match (vs.zip cL).find? (λp=>p.1==v)with
 |some p=>p.2
 |none=>[]
theorem lD{h:A6}:∀{cL:Z (Z AY)} {vs:Z A0},AI (jz h) cL vs->∀v∈vs,BE cL vs v∈cL/\jz h (BE cL vs v) v
 |_,_,.nil,v,hv=>by cases hv
 |k::cL,u::vs,.cons q t,v,hv=>by
  unfold BE;rw[List.zip_cons_cons,JA];by_cases e:u=v
  ·subst e;simp only[beq_self_eq_true];exact⟨zk ..,q⟩
  ·have e':(u==v)=false:=by simpa using e
   simp only[e'];have b:v∈vs:=by
    rcases List.mem_cons.mp hv with h|h
    ·exact absurd h.symm e
    ·exact h
   have a:=lD t v b;exact⟨zo _ a.1,a.2⟩
theorem Bu{h:A6}:∀{cL:Z (Z AY)} {vs:Z A0},AI (jz h) cL vs->∀(K:A0->Z AY),(∀v∈vs,jz h (K v) v)->vs.map K=cL
 |_,_,.nil,_,_=>rfl
 |k::cL,v::vs,.cons q t,K,hK=>by
  rw[zw,(hK v (zk ..)).inj q,Bu t K λu a=>hK u (zo _ a)]
theorem xT{h:A6}:∀{vs:Z A0} {K:A0->Z AY},(∀v∈vs,jz h (K v) v)->AI (jz h) (vs.map K) vs
 |[],_,_=>.nil
 |v::vs,K,hK=>.cons (hK v (zk ..)) (xT λu a=>hK u (zo _ a))
theorem Pg{vs:Z A0}(i:AI (jz s.heap) cL vs)(j:∀k∈cL,∀l∈cL,D3 k l):Yu prog w A s (tuples' true) (λv=>CB cL (BE cL vs v)) (pairsOf vs):=by
 intro E p q Q hp b h;rw[pairsOf_toList]at hp b;obtain⟨f,t1⟩:=lD i p.1 (mem_zip_self hp).2;obtain⟨m,t2⟩:=lD i q.1 (mem_zip_self b).2;rw[Vo f]at h;have y:=j _ f _ m;obtain⟨a,o,AQ,n,e,g,c,d,k⟩:=t1;obtain⟨B,o',D,C,e',u,z,x,t⟩:=t2;rw[e,e'];exact VC g d u x k t y h
theorem Ph{vs:Z A0}(a:AI (jz h) cL vs){xs:Array Keyed}(hp:xs.Perm (pairsOf vs))(f:Up (λv=>CB cL (BE cL vs v)) xs (pairsOf vs).size):AI (jz h) (jZ cL) (xs.map (·.2)).toList:=by
 have b:xs.toList.Perm (vs.zip vs):=by rw[<-pairsOf_toList];exact Array.perm_iff_toList_perm.mp hp
 have d:∀p∈xs.toList,p.1=p.2/\p.1∈vs:=λp q=>mem_zip_self (b.mem_iff.mp q);have e:(xs.map (·.2)).toList=xs.toList.map (·.1):=by
  rw[Array.toList_map];exact JY λp q=>(d p q).1.symm
 have pv:(xs.toList.map (·.1)).Perm vs:=by
  have:=b.map Prod.fst;rwa [List.map_fst_zip (zg _)]at this
 have g:jZ cL=(xs.toList.map (·.1)).map (BE cL vs):=by
  refine(qZ ?_ ?_).symm
  ·have:=pv.map (BE cL vs);rwa [Bu a _ λv q=>(lD a v q).2]at this
  ·rw[List.pairwise_iff_getElem];intro i j hi o l;have m:i<xs.size:=by simpa using hi
   have c:j<xs.size:=by simpa using o
   have u:=f i j (JJ l) (by rw[<-hp.size_eq];exact c);unfold at_ at u;rw[getElem?_pos xs i m,getElem?_pos xs j c]at u;have n:=(lD a xs[j].1 (d xs[j] (by simp)).2).1;simp only[List.getElem_map,Array.getElem_toList];unfold wL;rw[<-Vo n,ZE (Nat.not_lt.mpr u)];rfl
 rw[g,e];refine xT λv q=>(lD a v ?_).2;exact pv.mem_iff.mp q
end S1
namespace P1
open L2 S1
theorem SX{T:String}{vs:Z A0}{Q:Z A0->A2->Prop}(f:s.heap.get? l=U o)(g:o.cls=.type T)(d:T ="list" ∨ T ="tuple")(b:o.data=.seq vs.toArray n)(j:vs.length<=AA)(h:∀h' tk,s.heap.objs.size<=h'.objs.size->(∀c o,s.heap.get? c=U o->h'.get? c=U o)->Q vs { s with heap:=h',toks:=tk }):A7 (A8 prog w) A (collect (.ref l)) Q E s:=by
 unfold collect;refine zb (wpAny_runValue (JU entry_proto_collect' ?_));show A7 _ _ (newList [] >>= λq=>again (.builtin "list.__iadd__" ⟨[q,.ref l],[]⟩)) _ _ s;refine zb (wpAny_newList (ze ⟨Code.quiet_builtin _ (by decide +kernel),JU entry_list_iadd' ?_⟩));show A7 _ _ (Builtin.List.listExtendWith (.ref s.heap.objs.size) (.ref l) (.ref s.heap.objs.size)) _ _ _;unfold Builtin.List.listExtendWith;have g1:(s.heap.push (seqObj "list" #[] 0)).get? l=U o:=zd _ f;refine zb (QR (T:=T) ⟨o,g1,g⟩ ?_);have a:(Value.type T==Value.type "list" || Value.type T==Value.type "tuple")=true:=by rcases d with rfl|rfl<;>decide
 rw[zh (by rw[Bool.or_assoc,a];simp)];refine zb (listItems_at g1 b (zb (listItems_at (xs:=#[]) (n:=0) (zv _ S) S ?_)));rw[zC (by simp)];have g2:(s.heap.push (seqObj "list" #[] 0)).get? s.heap.objs.size=U (seqObj "list" #[] 0):=zv _ rfl;refine zb (listUpdate_at (xs:=#[]) (n:=0) g2 S (ze ?_) (Q1 _) (by show(#[]++vs.toArray).size<=AA+1;simp only[KS,zI,List.length_nil];omega));show A7 (A8 prog w) A (load s.heap.objs.size >>= _) Q E _;refine zb (K0 (get?_update_seq g2 _) ?_);show A7 _ _ (pure ((#[]:Array A0)++vs.toArray).toList) Q E _;rw[show((#[]:Array A0)++vs.toArray).toList=vs by simp];refine ze (h _ s.toks ?_ λc i e=>?_)
 ·rw[Heap.size_update,size_push'];exact JO _
 ·rw[ka _ _ _ _ (Zl (zt e))];exact zd _ e
def Fk:Dt->O AY
 |.int i=>U (.inl i)
 |.str x=>U (.inr x)
 |_=>Y
def Bv:Z Dt->O (Z AY)
 |[]=>U []
 |d::ds=>(Fk d).bind λk=>(Bv ds).bind λks=>U (k::ks)
def Gi:Dt->O (Z AY)
 |.tup ds=>Bv ds
 |_=>Y
def rY:Z Dt->O (Z (Z AY))
 |[]=>U []
 |d::ds=>(Gi d).bind λk=>(rY ds).bind λks=>U (k::ks)
def dK:AY->Dt
 |.inl i=>.int i
 |.inr x=>.str x
def BF(ks:Z AY):Dt:=.tup (ks.map dK)
theorem cw{k:AY}(h:Fk d=U k):d=dK k:=by
 cases d<;>cases h<;>rfl
theorem Pj:∀{ds:Z Dt} {ks:Z AY},Bv ds=U ks->ds=ks.map dK
 |[],_,h=>by cases h;rfl
 |d::ds,_,h=>by
  obtain⟨k,e1,h⟩:=AT h;obtain⟨ks,e2,h⟩:=AT h;cases h;rw[zw,cw e1,Pj e2]
theorem Pk(h:Gi d=U ks):d=BF ks:=by
 cases d with
 |tup ds=>exact congrArg Dt.tup (Pj h)
 |_=>cases h
theorem Ag:∀{ds:Z Dt} {cL:Z (Z AY)},rY ds=U cL->ds=cL.map BF
 |[],_,h=>by cases h;rfl
 |d::ds,_,h=>by
  obtain⟨k,e1,h⟩:=AT h;obtain⟨ks,e2,h⟩:=AT h;cases h;rw[zw,Pk e1,Ag e2]
theorem Xs{k:AY}(h:AW K H (dK k) v):v=kV k:=by
 cases k with
 |inl i=>exact(show v=.int i by simpa only[dK,AW]using h)
 |inr x=>exact(show v=.str x/\x.length<=AA by simpa only[dK,AW]using h).1
theorem JR{K:B1}{H:Hp}:∀{ks:Z AY} {vs:Z V},aK K H (ks.map dK) vs->vs=ks.map kV
 |[],_,h=>by simp only[kC,aK]at h;exact h
 |k::ks,_,h=>by
  simp only[zw,aK]at h;obtain⟨v,r,rfl,h1,h2⟩:=h;rw[Xs h1,JR h2,zw]
theorem P2(X:Cx):∀{us:Z A0},AX (ks.map kV) us->Ks ks us:=by
 induction ks with
 |nil=>intro us h;cases h;exact .nil
 |cons k ks a=>
  intro us h;cases h with
  |cons r t=>exact .cons (Fb (P:=X.prog) (w:=X.w) r) (a t)
theorem pK{AN:Z (A1×AE)}{σ:L2.St}{H:Hp}{s:A2}(I:AU X AN σ H s):∀{cL:Z (Z AY)} {vs:Z V} {AQ:Z A0},aK X.K H (cL.map BF) vs->AX vs AQ->AI (jz s.heap) cL AQ
 |[],_,_,h,r=>by
  simp only[kC,aK]at h;subst h;cases r;exact .nil
 |k::cL,_,_,h,r=>by
  simp only[zw,aK]at h;obtain⟨v,vs,rfl,h1,h2⟩:=h;cases r with
  |cons e i=>
   refine .cons ?_ (pK I h2 i);simp only[BF,AW]at h1;obtain⟨a,j,rfl,sq,f⟩:=h1;obtain⟨AQ,b,⟨o,g,c,n,d⟩,_⟩:=I.tuple sq;cases e;rw[JR f]at b;exact⟨a,o,AQ,n,rfl,g,c,d,P2 X b⟩
theorem Ah{AN:Z (A1×AE)}{σ:L2.St}{H:Hp}{s:A2}(I:AU X AN σ H s){cL:Z (Z AY)}{vs:Z V}{AQ:Z A0}(h:aK X.K H (cL.map BF) vs)(r:AX vs AQ):∀{Yv:Z (Z AY)} {out:Z A0},AI (jz s.heap) Yv out->(∀u∈out,u∈AQ)->∃zs,AX zs out/\aK X.K H (Yv.map BF) zs
 |_,_,.nil,_=>⟨[],.nil,aK.nil⟩
 |l::Yv,u::out,.cons q t,hm=>by
  obtain⟨zs,z1,z2⟩:=Ah I h r t λx hx=>hm x (zo _ hx);have g:∀(cL:Z (Z AY)) (vs:Z V) (AQ:Z A0),aK X.K H (cL.map BF) vs->AX vs AQ->u∈AQ->∃v,As v u/\AW X.K H (BF l) v:=by
   intro cL
   induction cL with
   |nil=>
    intro vs AQ h r a;simp only[kC,aK]at h;subst h;cases r;cases a
   |cons k cL f=>
    intro vs AQ h r a;simp only[zw,aK]at h;obtain⟨v,vs,rfl,h1,h2⟩:=h;cases r with
    |@cons _ i _ _ b c=>
     rcases List.mem_cons.mp a with rfl|a
     ·have e:k=l:=by
       have:=pK I (cL:=[k]) (vs:=[v]) (AQ:=[u]) (by simp only[zw,kC];exact aK.cons h1 aK.nil) (.cons b .nil);cases this with
       |cons d _=>exact d.inj q
      subst e;exact⟨v,b,h1⟩
     ·exact f vs _ h2 c a
  obtain⟨v,b,h1⟩:=g cL vs AQ h r (hm u (zk ..));exact⟨v::zs,.cons b z1,by rw[zw];exact aK.cons h1 z2⟩
def Ln(k l:Z AY):Bool:=((k.zip l).all λp=>Vn p.1 p.2)
theorem Gj:∀{k l:Z AY},Ln k l=true->D3 k l
 |[],_,_=>by simp[D3]
 |_::_,[],_=>by simp[D3]
 |x::k,y::l,h=>by
  unfold Ln at h;rw[List.zip_cons_cons,kr,Zz]at h;exact⟨h.1,Gj h.2⟩
def CQ(cL:Z (Z AY)):Bool:=decide (cL.length<64)&&(cL.all (λk=>!k.isEmpty)&&cL.all λk=>cL.all λl=>Ln k l)
def u0:Z Bx->O Bx
 |[b]=>(wK b).bind λds=>(rY ds).bind λcL=>if CQ cL=true then U (.o ((jZ cL).map BF))else Y
 |_=>Y
theorem Lq(h:bh K H b v)(e:wK b=U ds):∃a vs,v=.ref a/\(qO K H a vs\/yh K H a vs)/\aK K H ds vs:=by
 cases b with
 |z d=>
  cases d<;>first|(cases e;done)|skip
  ·cases e;simp only[bh,AW]at h;obtain⟨a,vs,e,q,r⟩:=h;exact⟨a,vs,e,.inr q,r⟩
  ·cases e;simp only[bh,AW]at h;obtain⟨a,vs,e,q,r⟩:=h;exact⟨a,vs,e,.inl q.sq,r⟩
 |l c=>cases e;obtain⟨a,vs,e,q,r⟩:=h;exact⟨a,vs,e,.inl (.inl q),r⟩
 |o c=>cases e;obtain⟨a,vs,e,q,r⟩:=h;exact⟨a,vs,e,.inl (.inl (.inl q)),r⟩
 |n _=>cases e
 |m _ _=>cases e
theorem Pn:nC X (.builtin "sorted") u0:=by
 intro AN s σ H xs us Q I M h;obtain⟨bs,c,N,e,q⟩:=h;unfold u0 at e;split at e
 ·rename_i b;obtain⟨ds,F,e⟩:=AT e;obtain⟨cL,ek,e⟩:=AT e;split at e
  ·rename_i hs;cases e;simp only[CQ,Zz,qi,qo,Qr]at hs;obtain⟨P,J,A⟩:=hs;obtain⟨v,rfl,K⟩:=BM N;obtain⟨p,vs,rfl,sq,x⟩:=Lq K F;obtain⟨u,rfl,ru⟩:=BC M;cases ru;have a1:=Ag ek;subst a1;have a0:∃(AQ:Z A0) (o:AE) (T:String) (n:Nat),AX vs AQ/\s.heap.get? p=U o/\o.cls=.type T/\(T ="list" ∨ T ="tuple")/\o.data=.seq AQ.toArray n/\vs.length<=AA:=by
    rcases sq with sq|sq
    ·obtain⟨AQ,f,pl,j⟩:=I.list sq;obtain⟨o,g,c,n,d⟩:=pl.isList;exact⟨AQ,o,_,n,f,g,c,.inl rfl,d,j⟩
    ·obtain⟨AQ,f,⟨o,g,c,n,d⟩,j⟩:=I.tuple sq;exact⟨AQ,o,_,n,f,g,c,.inr rfl,d,j⟩
   obtain⟨AQ,o,T,n,f,g,hc,hT,D,j⟩:=a0;have a3:AQ.length=cL.length:=by rw[<-f.length,x.length,zi]
   have tv:=pK I x f;refine W8 (kd:=tuples' true) (rk:=λv=>CB cL (BE cL AQ v)) (vs:=AQ) (λE' Q' y=>SX g hc hT D (by rw[<-f.length];exact j) y)
    (λh2 E' E s' k Q' y=>JQ (Paired.imp' (λ_ _ z=>jz.keep z k) tv) (λk t=>by have:=J k t;cases k with|nil=>cases this|cons _ _=>exact List.cons_ne_nil _ _) (λk t l i=>Gj (A k t l i)) (by omega) y)
    (λE s' k=>Pg (Paired.imp' (λ_ _ z=>jz.keep z k) tv) λk t l i=>Gj (A k t l i)) (by omega) λl h' tk m st hp up i ext C=>?_
   have a2:=Ph tv hp up;have mem:∀u∈((AM st).map (·.2)).toList,u∈AQ:=λu B=>by
    rw[Array.toList_map]at B;obtain⟨pr,G,rfl⟩:=List.mem_map.mp B;have W:pr∈AQ.zip AQ:=by rw[<-pairsOf_toList];exact(Array.perm_iff_toList_perm.mp hp).mem_iff.mp G
    have:=mem_zip_self W;rw[<-this.1];exact this.2
   obtain⟨zs,z1,z2⟩:=Ah I x f a2 mem;have L:zs.length=cL.length:=by rw[z2.length,zi,(mC cL).length_eq]
   have w:H l=Y:=I.hok.fresh i;refine⟨.ref l,_,I.laid (t':=tk) (a:=l) (o:=.lst zs) ext i ⟨by rw[L];exact JJ (ZU P (by decide)),_,m,z1,?_⟩,rfl,q _ _ (bI w) (λa ea=>by cases ea;exact w) ⟨l,zs,rfl,aU,z2.kp (.of (bI w))⟩⟩;rw[C]
  ·cases e
 ·cases e
end P1
namespace S6
theorem Xe{b:Source}{Q:Nat->A2->Prop}(a:n≠0)(h:∀i d,i<n->Q i { s with drawn:=d }):A7 M A (choose b n) Q E s:=
 λc p e=>⟨a,h _ _ (Nat.mod_lt _ (Nat.pos_of_ne_zero a))⟩
theorem Lr{α:Type}:∀{xs:Z α} {i:Nat} (hi:i<xs.length),(xs[i]::xs.eraseIdx i).Perm xs
 |x::xs,0,_=>List.Perm.refl _
 |x::xs,i+1,h=>by
  rw[List.eraseIdx_cons_succ,List.getElem_cons_succ];exact(List.Perm.swap _ _ _).trans ((Lr (xs:=xs) (i:=i) (by simpa using h)).cons x)
theorem gS:∀(n:Nat) (xs:Z α) (s:A2) (Q:Z α->A2->Prop),xs.length=n->(∀ys d,ys.Perm xs->Q ys { s with drawn:=d })->A7 M A (drawOrder n xs) Q E s:=by
 intro n
 induction n with
 |zero=>
  intro xs s Q a h;cases xs with
  |nil=>
   unfold drawOrder;exact ze (h [] s.drawn (List.Perm.refl _))
  |cons x xs=>simp at a
 |succ n b=>
  intro xs s Q a h;cases xs with
  |nil=>simp at a
  |cons x xs=>
   unfold drawOrder;refine zb (Xe (by simp) λi d hi=>?_);have e:(x::xs)[i]?=U (x::xs)[i]:=by simp[hi]
   rw[e];dsimp only;refine zb (b ((x::xs).eraseIdx i) _ _ (by rw[List.length_eraseIdx,zh hi];simp at a ⊢;omega) λys c hp=>ze ?_);exact h _ c ((List.Perm.cons _ hp).trans (Lr hi))
theorem Vp{α:Type}(next:Nat->Nat):∀(n k:Nat) (xs:Z α) (out:Array α),xs.length=n->(pickOrder.go next n k xs out).toList.Perm (out.toList++xs)
 |0,k,[],out,_=>by unfold pickOrder.go;simp
 |n+1,k,x::xs,out,hl=>by
  unfold pickOrder.go;have hi:next k%(x::xs).length<(x::xs).length:=Nat.mod_lt _ (by simp);have e:(x::xs)[next k%(x::xs).length]?=U (x::xs)[next k%(x::xs).length]:=by rw[Zs hi]
  rw[e];dsimp only;refine(Vp next n (k+1) _ _ (by rw[List.length_eraseIdx,zh hi];simp at hl ⊢;omega)).trans ?_;rw[Array.toList_push,Q4];exact(List.Perm.refl _).append (Lr hi)
theorem Xf(next:Nat->Nat)(xs:Array α):(pickOrder next xs).toList.Perm xs.toList:=by
 have:=Vp next xs.size 0 xs.toList #[] (by simp);simpa[pickOrder]using this
structure Wk (w:World) (h:Heap) (a:Addr) (es:Array (Int×Value)) (ep:Nat) (t:SetTable):Prop where
 at_:∃o,h.get? a=some o/\o.cls=.type "set" ∧ o.data=.set es ep t
 fit:t.fits es.size=true
 led:w.params.followText "set-order"=false->t.led=true
 non:1<es.size->t.plain=false
theorem Wk.keep{h':A6}{es:Array (Int×A0)}(x:Wk w h a es ep t)(k:∀o,h.get? a=U o->h'.get? a=U o):Wk w h' a es ep t:=
 ⟨let ⟨o,e,r⟩:=x.at_;⟨o,k o e,r⟩,x.fit,x.led,x.non⟩
def It(h:A6)(it a:A1)(first:A0)(i n ep:Nat):Prop:=∃o,h.get? it=U o/\o.cls=.type "set_iterator" ∧ o.data=.fields #[first,.int (i:Int) 0,.ref a,.int (n:Int) 0,.int (ep:Int) 0]
theorem It.keep{h':A6}{f:A0}(x:It h it a f i n ep)(k:∀o,h.get? it=U o->h'.get? it=U o):It h' it a f i n ep:=
 let ⟨o,e,r⟩:=x;⟨o,k o e,r⟩
theorem It.ty{f:A0}(x:It s.heap it a f i n ep):s.TypeIs (.ref it) "set_iterator":=let ⟨o,e,c,_⟩:=x;⟨o,e,c⟩
theorem iZ:Slot "set_iterator" "__next__" "set_iterator.__next__":=
 .of (owner :="set_iterator") (n :="__next__") (by rw[typeLookup_type,builtinLookup_eq_fast];kernel_rfl) (by decide +kernel) (by decide +kernel) (by decide +kernel)
  (by first|exact .inl (by decide +kernel)|exact .inr (by decide +kernel)) (by rw[isSubtype_type];kernel_rfl)
theorem yO:Slot "set_iterator" "__iter__" "set_iterator.__iter__":=
 .of (owner :="set_iterator") (n :="__iter__") (by rw[typeLookup_type,builtinLookup_eq_fast];kernel_rfl) (by decide +kernel) (by decide +kernel) (by decide +kernel)
  (by first|exact .inl (by decide +kernel)|exact .inr (by decide +kernel)) (by rw[isSubtype_type];kernel_rfl)
theorem Ip:entryFor table "set_iterator.__next__"=U Builtin.«set_iterator.__next__»:=entryFor_of_tree (by kernel_rfl)
theorem CT:entryFor table "set.__iter__"=U Builtin.«frozenset.__iter__»:=entryFor_alias (id' :="frozenset.__iter__") (by kernel_rfl) S (by decide +kernel) (by kernel_rfl)
theorem Ir:entryFor table "set_iterator.__iter__"=U Builtin.«dict_keyiterator.__iter__»:=entryFor_alias (id' :="dict_keyiterator.__iter__") (by kernel_rfl) S (by decide +kernel) (by kernel_rfl)
theorem Z5:Manifest.owners.lookup (String.ofList "rotareti_tes".toList.reverse)=U Manifest.sig_set_iterator:=by kernel_rfl
theorem Ls(a:A0):argsOk "set_iterator.__next__" ⟨[a],[]⟩:=by
 unfold argsOk;rw[signature?_of (id :="set_iterator.__next__") (n :="__txen__".toList) (o :="rotareti_tes".toList) (by kernel_rfl) Z5];kernel_rfl
theorem Lx(a:A0):argsOk "set_iterator.__iter__" ⟨[a],[]⟩:=by
 unfold argsOk;rw[signature?_of (id :="set_iterator.__iter__") (n :="__reti__".toList) (o :="rotareti_tes".toList) (by kernel_rfl) Z5];kernel_rfl
section
variable{es:Array (Int×A0)}
theorem Ea{first:A0}{Q:O A0->A2->Prop}(d:It s.heap it a first i es.size ep)(g:Wk w s.heap a es ep t)
  (h:A7 (A8 prog w) A.in1 (if let .int slot _:=first then(do
    match <-setNext a slot.toNat (i:Int).toNat (ep:Int).toNat with
    |some (x,next)=>
     setField (.ref it) 0 (rawInt next)
     setField (.ref it) 1 (rawInt ((i:Int)+1))
     ret x
    |none=>setField (.ref it) 2 .none;raiseNew (<-newExc (.type "StopIteration") []))
   else(do
    let U places <-seqItems? first|unsupported "internal:set_iterator"
    match places[(i:Int).toNat]? with
    |some (.int place _)=>
     let x <-setNextDrawn a place.toNat (ep:Int).toNat
     setField (.ref it) 1 (rawInt ((i:Int)+1))
     ret x
    |some _=>unsupported "internal:set_iterator"
    |none=>setField (.ref it) 0 (rawInt 0);setField (.ref it) 2 .none;raiseNew (<-newExc (.type "StopIteration") []))) (λf s'=>∃v,f=.done (.ret v)/\Q (U v) s') (λe s'=>s'.TypeIs e "StopIteration" ∧ Q Y s') s):A7 (A8 prog w) A (pyNext (.ref it)) Q E s:=by
 obtain⟨o,m,u,l⟩:=id d;obtain⟨q,n,y,j⟩:=g.at_;unfold pyNext;refine zb (y0 (KB (name:=Str.ofString "__next__") d.ty iZ (kf iZ d.ty Ip ?_ (Ls _))));unfold Builtin.«set_iterator.__next__»;refine zb (ze ?_);refine zb (wpAny_fieldsOf m l ?_);show A7 _ _ (setEntries a >>= _) _ _ s;refine zb (wpAny_setEntries_of n j g.fit ?_);rw[zC (by simp)];refine ZZ h (λf s' c=>?_) λe s' c=>?_
 ·obtain⟨v,rfl,p⟩:=c;exact⟨v,rfl,ze p⟩
 ·refine zb (ke (T :="StopIteration") (b:=true) c.1 isSubtype_stop ?_);exact ze c.2
theorem Vq{hp:A6}{Q:O A0->A2->Prop}(c:A.handled=Y)(h:∀h',(∀b o,hp.get? b=U o->h'.get? b=U o)->Q Y { s with heap:=h' }):
  A7 (A8 prog w) A.in1 (do raiseNew (<-newExc (.type "StopIteration") [])) (λ(d:Fin) s'=>∃v,d=.done (.ret v)/\Q (U v) s') (λe s'=>s'.TypeIs e "StopIteration" ∧ Q Y s') { s with heap:=hp }:=by
 refine zb ?_;simp only[newExc,newTuple];refine zb (qh ?_ (by size_fits));refine zb (m:=firstArgMember _ _) (wpAny_of_eq (a:=Value.none) (by first|rfl|(simp only[firstArgMember];rfl)) ?_);refine qh ?_ (by size_fits);simp only[raiseNew];refine zb (wpAny_handled ?_);rw[show A.in1.handled=Y from c];refine zb (ze (wpAny_throw ⟨⟨_,zv _ rfl,rfl⟩,?_⟩));exact h _ λb o e=>zd _ (zd _ e)
theorem It.put{f:A0}(d:It h it a f i n ep)(x:A0):It (h.update it (Obj.mapFields (·.setIfInBounds 0 x))) it a x i n ep:=by
 obtain⟨o,e,c,b⟩:=d;exact⟨_,QE _ e (KW (kg b _)),(Obj.cls_mapFields ..).trans c,by rw[kg b];simp⟩
theorem It.step{f:A0}(d:It h it a f i n ep):It (h.update it (Obj.mapFields (·.setIfInBounds 1 (rawInt ((i:Int)+1))))) it a f (i+1) n ep:=by
 obtain⟨o,e,c,b⟩:=d;exact⟨_,QE _ e (KW (kg b _)),(Obj.cls_mapFields ..).trans c,by rw[kg b];simp[rawInt]⟩
theorem It.field{f:A0}{k:Nat}{x:A0}(e:It s.heap it a f i n ep)(b:k<5)(h:Q () { s with heap:=s.heap.update it (Obj.mapFields (·.setIfInBounds k x)) }):A7 (A8 prog w) A (setField (.ref it) k x) Q E s:=by
 obtain⟨o,d,g,c⟩:=e;exact wpAny_setField d c (by simpa using b) h
theorem q8{f:AE->AE}{b:A1}(hb:b≠it)(e:h.get? b=U o):(h.update it f).get? b=U o:=by rw[ka _ _ _ _ hb];exact e
theorem Z6{slot next:Nat}{x:A0}{Q:O A0->A2->Prop}(c:It s.heap it a (.int (slot:Int) 0) i es.size ep)(f:Wk w s.heap a es ep t)
  (l:∀{g:A5} {j:B9} {d:O (A0×Nat)->A2->Prop},d (U (x,next)) s->A7 (A8 prog w) g (setNext a slot i ep) d j s)
  (h:∀h',It h' it a (.int (next:Int) 0) (i+1) es.size ep->(∀b o,b≠it->s.heap.get? b=U o->h'.get? b=U o)->Q (U x) { s with heap:=h' }):A7 (A8 prog w) A (pyNext (.ref it)) Q E s:=by
 refine Ea c f ?_;show A7 _ _ (setNext a slot i ep >>= _) _ _ s;refine zb (l ?_);refine zb (c.field (by decide) ?_);refine zb ((c.put _).field (s:={ s with heap:=_ }) (by decide) ?_);exact ze ⟨x,rfl,h _ ((c.put _).step) λb o hb e=>q8 hb (q8 hb e)⟩
theorem Gk{slot:Nat}{Q:O A0->A2->Prop}(f:A.handled=Y)(d:It s.heap it a (.int (slot:Int) 0) i es.size ep)(g:Wk w s.heap a es ep t)
  (m:∀{j:A5} {l:B9} {c:O (A0×Nat)->A2->Prop},c Y s->A7 (A8 prog w) j (setNext a slot i ep) c l s)
  (h:∀h',(∀b o,b≠it->s.heap.get? b=U o->h'.get? b=U o)->Q Y { s with heap:=h' }):A7 (A8 prog w) A (pyNext (.ref it)) Q E s:=by
 refine Ea d g ?_;show A7 _ _ (setNext a slot i ep >>= _) _ _ s;refine zb (m ?_);refine zb (d.field (by decide) (Vq f λh' k=>h h' λb o hb e=>k b o (q8 hb e)))
theorem ar{tp:A1}{g:AE}{c:Nat}{x:Int×A0}{Q:O A0->A2->Prop}(f:It s.heap it a (.ref tp) i es.size ep)(d:Wk w s.heap a es ep t)(l:s.heap.get? tp=U g)(p:g.data=.seq (pl.map λ(k:Nat)=>rawInt (k:Int)).toArray c)(q:pl[i]?=U j)(hx:es[j]?=U x)(h:∀h',It h' it a (.ref tp) (i+1) es.size ep->(∀b o,b≠it->s.heap.get? b=U o->h'.get? b=U o)->Q (U x.2) { s with heap:=h' }):A7 (A8 prog w) A (pyNext (.ref it)) Q E s:=by
 refine Ea f d ?_;show A7 _ _ (seqItems? (.ref tp) >>= _) _ _ s;refine zb (m:=seqItems? (.ref tp)) ?_;unfold seqItems?;refine zb (K0 l ?_);rw[p];refine ze ?_;dsimp only;rw[KP,show((pl.map λ(k:Nat)=>rawInt (k:Int)).toArray)[i]?=U (rawInt (j:Int)) by simp[q]];show A7 _ _ (setNextDrawn a j ep >>= _) _ _ s;obtain⟨v,u,y,n⟩:=d.at_;refine zb (m:=setNextDrawn a j ep) ?_;unfold setNextDrawn;refine zb (Q3 u n d.fit ?_);dsimp only;rw[zC (by simp),hx];refine ze ?_;refine zb (f.field (by decide) ?_);exact ze ⟨x.2,rfl,h _ f.step λb o hb e=>q8 hb e⟩
theorem Pq{tp:A1}{f:AE}{c:Nat}{Q:O A0->A2->Prop}(g:A.handled=Y)(d:It s.heap it a (.ref tp) i es.size ep)(l:Wk w s.heap a es ep t)(j:s.heap.get? tp=U f)(n:f.data=.seq (pl.map λ(k:Nat)=>rawInt (k:Int)).toArray c)(p:pl[i]?=Y)(h:∀h',(∀b o,b≠it->s.heap.get? b=U o->h'.get? b=U o)->Q Y { s with heap:=h' }):A7 (A8 prog w) A (pyNext (.ref it)) Q E s:=by
 refine Ea d l ?_;show A7 _ _ (seqItems? (.ref tp) >>= _) _ _ s;refine zb (m:=seqItems? (.ref tp)) ?_;unfold seqItems?;refine zb (K0 j ?_);rw[n];refine ze ?_;dsimp only;rw[KP,show((pl.map λ(k:Nat)=>rawInt (k:Int)).toArray)[i]?=Y by simpa using p];refine zb (d.field (by decide) ?_);refine zb ((d.put _).field (s:={ s with heap:=_ }) (by decide) (Vq g λh' k=>h h' λb o hb e=>k b o (q8 hb (q8 hb e))))
theorem wj{Q:Bool->A2->Prop}(h:Q (w.params.followText "set-order") s):A7 (A8 prog w) A setsByText Q E s:=by
 unfold setsByText;exact zb (wpAny_askSetting (ze h))
theorem Ly{f:A0}{Q:B9}(b:It s.heap it a f i n ep)(h:Q (.ref it) s):A7 (A8 prog w) A (pyIter (.ref it)) Q E s:=by
 refine wpAny_pyIter_slot b.ty yO (kf yO b.ty Ir ?_ (Lx _));show A7 _ _ (ret (.ref it)) _ _ s;exact ze ⟨_,rfl,"set_iterator", _,b.ty,iZ.lookup,h⟩
def Lz(w:A4)(a:A1)(ep:Nat)(es:Array (Int×A0)):Z A0:=(pickOrder (w.params.setOrder a ep) es).toList.map (·.2)
theorem Ai:(Lz w a ep es).Perm (es.toList.map (·.2)):=(Xf _ _).map _
theorem JT{slot:Nat}{Q:O (A0×Nat)->A2->Prop}(f:w.params.followText "set-order"=true)(b:Wk w s.heap a es ep t)(h:Q (((Lz w a ep es)[i]?).map λv=>(v,slot)) s):A7 (A8 prog w) A (setNext a slot i ep) Q E s:=by
 obtain⟨g,d,j,c⟩:=b.at_;unfold setNext;refine zb (Q3 d c b.fit (zb (wj ?_)));rw[f];simp only[↓reduceIte,bne_self_eq_false,zr];refine zb (m:=setWalk a) ?_;unfold setWalk;refine zb (Q3 d c b.fit (zb (wj ?_)));rw[f];simp only[↓reduceIte];refine zb (wpAny_askSetting (ze (ze ?_)));have e:(pickOrder (w.params.setOrder a ep) es)[i]?.map (λe=>(e.2,slot))=((Lz w a ep es)[i]?).map λv=>(v,slot):=by
  unfold Lz;rw[ZN,Option.map_map,qV];rfl
 rw[<-e]at h;exact h
theorem S5(l:A.handled=Y)(j:w.params.followText "set-order"=true)(m:a≠it)(c:es.size<=AA):Walks prog w A it [it,a] [it] es.size (λi v=>(Lz w a ep es)[i]?=U v) (λi h=>It h it a (.int 0 0) i es.size ep/\Wk w h a es ep t) where
 sub:=λb hb=>by simp at hb;simp[hb]
 frame:=λ_ _ _ st f=>⟨st.1.keep λo e=>f it (by simp) o e,st.2.keep λo e=>f a (by simp) o e⟩
 item:=λi s Q E hi st d=>by
  have n:(Lz w a ep es).length=es.size:=by rw[Ai.length_eq];simp
  obtain⟨v,g⟩:∃v,(Lz w a ep es)[i]?=U v:=⟨(Lz w a ep es)[i]'(by omega),by rw[Zs]⟩;refine Z6 (slot:=0) (next:=0) (x:=v) st.1 st.2 (λ{A' E' Q'} hq=>JT j st.2 (by rw[g];exact hq)) λh' p k=>?_;exact d v h' s.toks g ⟨p,st.2.keep λo e=>k a o m e⟩ λb o hb e=>k b o (λx=>hb (by simp[x])) e
 done:=λs Q E st d=>by
  have n:(Lz w a ep es).length=es.size:=by rw[Ai.length_eq];simp
  refine Gk (slot:=0) l st.1 st.2 (λ{A' E' Q'} hq=>JT j st.2 (by rw[QQ (by omega)];exact hq)) λh' k=>?_;exact d h' s.toks λb o hb e=>k b o (λx=>hb (by simp[x])) e
 self:=λ_ _ _ _ st d=>Ly st.1 d
def Xg(pl:Z Nat)(es:Array (Int×A0)):Z A0:=pl.filterMap λj=>es[j]?.map (·.2)
theorem Xh(h:pl.Perm (List.range es.size)):(Xg pl es).Perm (es.toList.map (·.2)):=by
 refine(h.filterMap _).trans ?_;rw[show(List.range es.size).filterMap (λj=>es[j]?.map (·.2))=((List.range es.size).filterMap λj=>es[j]?).map (·.2) by rw[List.map_filterMap],filterMap_getElem?_range]
theorem Pr:∀{pl:Z Nat},(∀j∈pl,j<es.size)->∀(i:Nat) (j:Nat),pl[i]?=U j->(Xg pl es)[i]?=es[j]?.map (·.2)
 |[],_,_,_,h=>by simp at h
 |k::pl,hb,i,j,h=>by
  have a:=hb k (zk ..);have e:Xg (k::pl) es=es[k].2::Xg pl es:=by simp[Xg,a]
  rw[e];cases i with
  |zero=>cases(show k=j by simpa using h);simp[a]
  |succ i=>rw[qr];exact Pr (λj b=>hb j (zo _ b)) i j (by simpa using h)
theorem S7{tp:A1}(m:A.handled=Y)(n:a≠it)(u:tp≠it)(hp:pl.Perm (List.range es.size)):Walks prog w A it [it,a,tp] [it] es.size (λi v=>(Xg pl es)[i]?=U v)
  (λi h=>It h it a (.ref tp) i es.size ep/\Wk w h a es ep t/\∃d c,h.get? tp=U d/\d.data=.seq (pl.map λ(k:Nat)=>rawInt (k:Int)).toArray c) where
 sub:=λb hb=>by simp at hb;simp[hb]
 frame:=λ_ _ _ st l=>⟨st.1.keep λo e=>l it (by simp) o e,st.2.1.keep λo e=>l a (by simp) o e,let ⟨d,c,e,r⟩:=st.2.2;⟨d,c,l tp (by simp) d e,r⟩⟩
 item:=λi s Q E hi st f=>by
  obtain⟨d,c,e1,e2⟩:=st.2.2;have p:pl.length=es.size:=by rw[hp.length_eq];simp
  have hb:∀j∈pl,j<es.size:=λj g=>List.mem_range.mp (hp.mem_iff.mp g);have g:pl[i]?=U (pl[i]'(by omega)):=by rw[Zs]
  have hx:es[pl[i]'(by omega)]?=U (es[pl[i]'(by omega)]'(hb _ (k7 _))):=by rw[qf]
  refine ar st.1 st.2.1 e1 e2 g hx λh' q k=>?_;exact f _ h' s.toks (by rw[Pr hb i _ g,hx];rfl) ⟨q,st.2.1.keep λo e=>k a o n e,d,c,k tp d u e1,e2⟩ λb o hb e=>k b o (λx=>hb (by simp[x])) e
 done:=λs Q E st f=>by
  obtain⟨d,c,e1,e2⟩:=st.2.2;have p:pl.length=es.size:=by rw[hp.length_eq];simp
  refine Pq m st.1 st.2.1 e1 e2 (by rw[QQ (by omega)]) λh' k=>?_;exact f h' s.toks λb o hb e=>k b o (λx=>hb (by simp[x])) e
 self:=λ_ _ _ _ st f=>Ly st.1 f
def u5(t:SetTable)(i:Nat):Nat:=if i=0 then 0 else t.place.getD 0 0+1
theorem ay(j:Nat):SetTable.below #[j] 0=0:=by
 show SetTable.below.go #[j] 0 1 0 1=0;unfold SetTable.below.go;rw[zh (by decide)];show(if #[j].getD 0 0<0 then _ else SetTable.below.go #[j] 0 0 0 0)=0;rw[zC (kL _)];rfl
theorem Sk(j:Nat):SetTable.below #[j] (j+1)=1:=by
 show SetTable.below.go #[j] (j+1) 1 0 1=1;unfold SetTable.below.go;rw[zh (by decide)];show(if j<j+1 then SetTable.below.go #[j] (j+1) 0 1 1 else _)=1;rw[zh (qk _)];rfl
theorem Xi{P:O (A0×Nat)->Prop}{r:O (A0×Nat)}(hp:t.place.size=es.size)(c:es.size<=1)(hi:i<=es.size)
  (b:r=match es[SetTable.below t.place (u5 t i)]?,t.place[SetTable.below t.place (u5 t i)]? with
   |some (_,x),U j=>U (x,j+1)
   |_,_=>Y) (h:P (((es.toList.map (·.2))[i]?).map λv=>(v,u5 t (i+1)))):P r:=by
 subst b;by_cases h0:es.size=0
 ·have e:es=#[]:=Array.eq_empty_of_size_eq_zero h0;subst e;simpa using h
 ·have h1:es.size=1:=by omega
  obtain⟨x,rfl⟩:=Array.size_eq_one_iff.mp h1;obtain⟨j,a⟩:=Array.size_eq_one_iff.mp (hp.trans h1);have hi:i=0\/i=1:=by omega
  rcases hi with rfl|rfl
  ·have e1:u5 t 0=0:=rfl;have e2:u5 t (0+1)=j+1:=by unfold u5;rw[a];rfl
   rw[e2]at h;rw[e1,a,ay];exact h
  ·have e2:u5 t 1=j+1:=by unfold u5;rw[a];rfl
   rw[e2,a,Sk];exact h
theorem Gm{Q:O (A0×Nat)->A2->Prop}(d:w.params.followText "set-order"=false)(b:Wk w s.heap a es ep t)(l:es.size<=1)(hi:i<=es.size)(h:Q (((es.toList.map (·.2))[i]?).map λv=>(v,u5 t (i+1))) s):A7 (A8 prog w) A (setNext a (u5 t i) i ep) Q E s:=by
 obtain⟨m,j,n,f⟩:=b.at_;have hp:t.place.size=es.size:=by
  have:=b.fit;simp only[SetTable.fits,Zz,beq_iff_eq]at this;exact this.1
 unfold setNext;refine zb (Q3 j f b.fit (zb (wj ?_)));rw[d];simp only[zr,↓reduceIte];split
 ·rename_i c;have c:(!t.plain&&decide (es.size>1))=true:=c;simp at c;omega
 ·have g:A7 (A8 prog w) A (if(!t.led&&!es.isEmpty)=true then unsupported "set:maker-not-led" else pure PUnit.unit) (λ_ s'=>s'=s) E s:=by
   rw[b.led d];exact ze rfl
  refine zb (ZZ g (λ_ s' e=>?_) λ_ _ x=>x);subst e;refine ze ?_;exact Xi (P:=λr=>Q r s') hp l hi S h
theorem Pu(l:A.handled=Y)(g:w.params.followText "set-order"=false)(j:es.size<=1)(m:a≠it):Walks prog w A it [it,a] [it] es.size (λi v=>(es.toList.map (·.2))[i]?=U v) (λi h=>It h it a (.int (u5 t i:Nat) 0) i es.size ep/\Wk w h a es ep t) where
 sub:=λb hb=>by simp at hb;simp[hb]
 frame:=λ_ _ _ st d=>⟨st.1.keep λo e=>d it (by simp) o e,st.2.keep λo e=>d a (by simp) o e⟩
 item:=λi s Q E hi st c=>by
  obtain⟨v,f⟩:∃v,(es.toList.map (·.2))[i]?=U v:=⟨(es.toList.map (·.2))[i]'(by simpa using hi),by rw[Zs]⟩;refine Z6 (x:=v) st.1 st.2 (λ{A' E' Q'} hq=>Gm g st.2 j (JJ hi) (by rw[f];exact hq)) λh' n k=>?_;exact c v h' s.toks f ⟨n,st.2.keep λo e=>k a o m e⟩ λb o hb e=>k b o (λx=>hb (by simp[x])) e
 done:=λs Q E st c=>by
  refine Gk l st.1 st.2 (λ{A' E' Q'} hq=>Gm g st.2 j (zg _) (by rw[QQ (by simp)];exact hq)) λh' k=>?_;exact c h' s.toks λb o hb e=>k b o (λx=>hb (by simp[x])) e
 self:=λ_ _ _ _ st c=>Ly st.1 c
theorem Z7(c:Wk w s.heap a es ep t)(B:es.size<=AA){Q:B9}
  (h:∀(it:A1) (h':A6) (d:Drawn) (fp:Z A1) (St:Nat->A6->Prop) (C:Z A0),C.Perm (es.toList.map (·.2))->(∀l:A5,l.handled=Y->Walks prog w l it fp [it] es.size (λi v=>C[i]?=U v) St)->St 0 h'->s.heap.objs.size<=it->it<h'.objs.size →
   (∀b∈fp,b=a\/s.heap.objs.size<=b)->(∀b∈fp,b<h'.objs.size)->(∀b o,s.heap.get? b=U o->h'.get? b=U o)->Q (.ref it) { s with heap:=h',drawn:=d }):A7 (A8 prog w) A (pyIter (.ref a)) Q E s:=by
 obtain⟨J,f,I,q⟩:=id c.at_;have y:s.TypeIs (.ref a) "set":=⟨J,f,I⟩;have n:a<s.heap.objs.size:=zt f;refine wpAny_pyIter_slot y F.slot_set_iter (kf F.slot_set_iter y CT ?_ (F.args_set_iter_1 _));show A7 _ _ (Builtin.Frozenset.sizeOf a >>= _) _ _ s;refine zb (m:=Builtin.Frozenset.sizeOf a) (zb (wpAny_setEntries_of f q c.fit (ze ?_)));have H:A7 (A8 prog w) A.in1 (setDrawn a) (λb s'=>s'=s/\b=(!(w.params.followText "set-order")&&(!t.plain&&decide (es.size>1)))) E s:=by
  unfold setDrawn;exact zb (Q3 f q c.fit (zb (wj (ze ⟨rfl,rfl⟩))))
 refine zb (ZZ H (λb s' e=>?_) λ_ _ x=>x);obtain⟨rfl,rfl⟩:=e;dsimp only;by_cases g:w.params.followText "set-order"=true
 ·rw[g];simp only[kQ,yA,zr,ZO];refine zb (ze ?_);refine zb (m:=setEpoch a) (wpAny_setEpoch_of f q c.fit ?_);refine zb (qh (ze ⟨_,rfl,"set_iterator", _,⟨_,zv _ rfl,rfl⟩,iZ.lookup,?_⟩));have:=h s'.heap.objs.size (s'.heap.push { cls:=.type "set_iterator",data:=.fields #[.int 0 0,.int 0 0,.ref a,.int es.size 0,.int ep 0] }) s'.drawn [s'.heap.objs.size,a] _ _ Ai (λl p=>S5 p g (t:=t) (ep:=ep) (Zl n) B)
   ⟨⟨_,zv _ rfl,rfl,rfl⟩,c.keep λo e=>zd _ e⟩ (zg _) (by rw[qv];exact qk _) (λb hb=>by simp at hb;rcases hb with rfl|rfl;exact .inr (zg _);exact .inl S)
   (λb hb=>by simp at hb;rw[qv];rcases hb with rfl|rfl;exact qk _;exact Qb n) λb o e=>zd _ e
  exact this
 ·have g:w.params.followText "set-order"=false:=by simpa using g
  rw[g];simp only[kX,ya];by_cases K:es.size<=1
  ·rw[zC (by simp;omega)];refine zb (ze ?_);refine zb (m:=setEpoch a) (wpAny_setEpoch_of f q c.fit ?_);refine zb (qh (ze ⟨_,rfl,"set_iterator", _,⟨_,zv _ rfl,rfl⟩,iZ.lookup,?_⟩));have:=h s'.heap.objs.size (s'.heap.push { cls:=.type "set_iterator",data:=.fields #[.int 0 0,.int 0 0,.ref a,.int es.size 0,.int ep 0] }) s'.drawn [s'.heap.objs.size,a] _ _ (List.Perm.refl _) (λl p=>Pu p g K (t:=t) (ep:=ep) (Zl n))
    ⟨⟨_,zv _ rfl,rfl,rfl⟩,c.keep λo e=>zd _ e⟩ (zg _) (by rw[qv];exact qk _) (λb hb=>by simp at hb;rcases hb with rfl|rfl;exact .inr (zg _);exact .inl S)
    (λb hb=>by simp at hb;rw[qv];rcases hb with rfl|rfl;exact qk _;exact Qb n) λb o e=>zd _ e
   exact this
  ·rw[zh (by rw[c.non (by omega)];simp;omega)];refine zb (gS _ _ _ _ (by simp) λpl d hp=>?_);refine zb (wpAny_newTuple ?_ (by rw[zi,hp.length_eq,KM];exact B));refine zb (m:=setEpoch a) (wpAny_setEpoch_of (zd _ f) q c.fit ?_);refine zb (qh (ze ⟨_,rfl,"set_iterator", _,⟨_,zv _ rfl,rfl⟩,iZ.lookup,?_⟩));generalize u:s'.heap.push { cls:=.type "tuple",data:=.seq (pl.map λ(k:Nat)=>rawInt (k:Int)).toArray }=G;have j:G.objs.size=s'.heap.objs.size+1:=by rw[<-u,qv]
   have L:G.get? s'.heap.objs.size=U { cls:=.type "tuple",data:=.seq (pl.map λ(k:Nat)=>rawInt (k:Int)).toArray }:=by rw[<-u];exact zv _ rfl
   have z:∀b o,s'.heap.get? b=U o->G.get? b=U o:=λb o e=>by rw[<-u];exact zd _ e
   have D:a<G.objs.size:=by rw[j];exact Qb n
   have:=h G.objs.size (G.push { cls:=.type "set_iterator",data:=.fields #[.ref s'.heap.objs.size,.int 0 0,.ref a,.int es.size 0,.int ep 0] }) d [G.objs.size,a,s'.heap.objs.size] _ _ (Xh hp) (λl p=>S7 p (t:=t) (ep:=ep) (tp:=s'.heap.objs.size) (Zl D) (by rw[j];exact Zl (qk _)) hp)
    ⟨⟨_,zv _ rfl,rfl,rfl⟩,c.keep λo e=>zd _ (z _ _ e),_,0,zd _ L,rfl⟩ (by rw[j];exact JO _) (by rw[qv];exact qk _)
    (λb hb=>by simp at hb;rcases hb with rfl|rfl|rfl;exact .inr (by rw[j];exact JO _);exact .inl rfl;exact .inr (zg _))
    (λb hb=>by
     simp at hb;rw[qv];rcases hb with rfl|rfl|rfl
     ·exact qk _
     ·exact Qb D
     ·exact Qb (by rw[j];exact qk _)) λb o e=>zd _ (z _ _ e)
   exact this
end
end S6
namespace S6
open P1
section
variable{es:Array (Int×A0)}
theorem Xj{b:Z A0}{a:Array A0}(f:b.length=n)(h:ItemsOf (λi v=>b[i]?=U v) a n):a.toList=b:=by
 apply List.ext_getElem?;intro j;by_cases d:j<n
 ·have c:j<a.size:=by rw[h.1];exact d
  have e:a.toList[j]?=U a[j]:=by simp[c]
  rw[e,h.2 j a[j] (by simp[c])]
 ·rw[QQ (by rw[qq,h.1];omega),QQ (by omega)]
theorem Px{Q:Z A0->A2->Prop}(D:A.handled=Y)(v:Wk w s.heap a es ep t)(K:es.size<=AA)
  (L:∀f h' d tk,f.Perm (es.toList.map (·.2))->s.heap.objs.size<=h'.objs.size->(∀b o,s.heap.get? b=some o->h'.get? b=some o)->Q f { s with heap:=h',drawn:=d,toks:=tk }):
  A7 (A8 prog w) A (collect (.ref a)) Q E s:=by
 obtain⟨l,h,i,b3⟩:=id v.at_;have hT:s.TypeIs (.ref a) "set":=⟨l,h,i⟩;have z:a<s.heap.objs.size:=zt h;unfold collect;refine zb (wpAny_runValue (JU F.entry_proto_collect ?_));rw[Around.under_plainId F.plain_proto_collect _];show A7 _ A.in1 (newList [] >>= λq=>again (.builtin "list.__iadd__" ⟨[q,.ref a],[]⟩)) _ _ s;refine zb (qh (ze ⟨plainId_quiet F.plain_list_iadd _,JU F.entry_list_iadd ?_⟩));rw[Around.under_plainId F.plain_list_iadd _];show A7 _ A.in1 (Builtin.List.listExtendWith (.ref s.heap.objs.size) (.ref a) (.ref s.heap.objs.size)) _ _ _;unfold Builtin.List.listExtendWith;generalize j:(s.heap.push { cls:=.type "list",data:=.seq ([]:Z A0).toArray })=H;have g:∀b o,s.heap.get? b=some o->H.get? b=some o:=λb o e=>by rw[<-j];exact zd _ e
 have B:H.objs.size=s.heap.objs.size+1:=by rw[<-j,qv]
 have gH:H.get? s.heap.objs.size=some (seqObj "list" #[] 0):=by rw[<-j];exact zv _ rfl
 have a1:Wk w H a es ep t:=v.keep λo e=>g a o e;refine zb (QR (T :="set") ⟨l,g _ _ h,i⟩ ?_);have h1:Builtin.List.listSameRef (.ref s.heap.objs.size) (.ref a)=false:=by simp[Builtin.List.listSameRef];exact jS z
 simp only[h1,show(Value.type "set"==Value.type "list")=false by decide,show(Value.type "set"==Value.type "tuple")=false by decide,Bool.or_false,zr,ZO];refine zb (Z7 (s:={ s with heap:=H }) a1 K λit G d fp St f hp W N P b0 M a5 p=>?_);refine zb (qA ?_);unfold Builtin.List.listLengthHint;have n:Shared.TypeIs { s with heap:=G,drawn:=d } (.ref a) "set":=⟨l,p _ _ (g _ _ h),i⟩;refine zb (wpAny_specialOf (T :="set") n F.slot_set_len.lookup ?_)
 wp_delta
 refine zb (ke (T :="set") (b:=true) n (by rw[isSubtype_type];kernel_rfl) ?_);show A7 _ A.in1 (typeOf (Value.ref a) >>= _) _ _ _;refine zb (QR (T :="set") n (ze ?_));rw[zh (by decide)];show A7 _ A.in1 (Builtin.List.listTouch (Value.ref s.heap.objs.size) >>= λ_=>again (Code.builtin "list.extend.loop" ⟨[Value.ref s.heap.objs.size,Value.ref it,Value.ref s.heap.objs.size],[]⟩)) _ _ _;have m:G.get? s.heap.objs.size=some (seqObj "list" #[] 0):=p _ _ gH;unfold Builtin.List.listTouch;refine zb (zb (listUpdate_at m S (listUpdate_at (get?_update_seq m _) S ?_ (by show _<=_;decide) (by show _<=_;decide)) (by show _<=_;decide) (by show _<=_;decide)));have I:s.heap.objs.size∉fp:=λc=>by
  rcases M _ c with e|e
  ·exact jS z e
  ·have e:H.objs.size<=s.heap.objs.size:=e;rw[B]at e;exact absurd e (Nat.not_succ_le_self _)
 have y:=get?_update_seq (get?_update_seq m (λx=>x.push Value.none)) (λx=>x.pop);generalize hU:(G.update s.heap.objs.size (Obj.mapSeq λx=>x.push Value.none)).update s.heap.objs.size (Obj.mapSeq λx=>x.pop)=U at y;have keep:∀b,b≠s.heap.objs.size->U.get? b=G.get? b:=λb hb=>by rw[<-hU,ka _ _ _ _ hb,ka _ _ _ _ hb]
 have a2:St 0 U:=(W A D).frame 0 G U N λb hb o e=>by rw[keep b λx=>I (x▸hb)];exact e
 show A7 _ A.in1 (again _) _ _ { s with heap:=U,drawn:=d };have ho:f.length=es.size:=by rw[hp.length_eq];simp
 refine ze ⟨plainId_quiet F.plain_extend_loop _,codeAny_extend_loopS (W A.in1 D).toS K s.heap.objs.size I _ es.size 0 { s with heap:=U,drawn:=d } #[] _ S (Q1 _) a2 y (ItemsOf.nil _) λs' a3 c' u J a0=>?_⟩;show A7 _ A (load s.heap.objs.size >>= _) _ _ s';refine zb (K0 J (ze ?_));show Q a3.toList s';rw[Xj ho a0];have C:=L f s'.heap s'.drawn s'.toks hp (JJ (zt J)) λb X e=>by
  have hb:=zt e;refine u.heap b X (λc=>?_) ((keep b (Zl hb)).trans (p _ _ (g _ _ e)));simp only[Q2,js,or_false]at c;rcases c with c|c
  ·exact Zl hb c
  ·have:H.objs.size<=it:=P;rw[B,<-c]at this;exact absurd hb (Nat.not_lt.mpr (Nat.le_of_succ_le this))
 have e1:s'.gens=s.gens:=u.gens;have e2:s'.os=s.os:=u.os;rw[<-e1,<-e2]at C;exact C
end
theorem Eb{α:Type}[DecidableEq α]:∀{xs ys:Z α},xs.Nodup->ys.Nodup->(∀z,z∈xs↔z∈ys)->xs.Perm ys
 |[],ys,_,_,h=>by
  have:ys=[]:=List.eq_nil_iff_forall_not_mem.mpr λz a=>by simpa using(h z).mpr a
  subst this;exact .refl _
 |x::xs,ys,hx,hy,h=>by
  have c:x∈ys:=(h x).mp (zk ..);have b:=List.nodup_cons.mp hx;refine((Eb b.2 (hy.erase x) λz=>?_).cons x).trans (List.perm_cons_erase c).symm;rw[hy.mem_erase_iff];constructor
  ·intro a;exact⟨λe=>b.1 (e▸a),(h z).mp (zo _ a)⟩
  ·intro⟨hn,a⟩;rcases List.mem_cons.mp ((h z).mpr a)with e|e
   ·exact absurd e hn
   ·exact e
theorem Bw{R:α->β->Prop}:∀{l l':Z β},l'.Perm l->∀{ys:Z α},AI R ys l->∃a,a.Perm ys/\AI R a l':=by
 intro l l' hp
 replace hp:=hp.symm
 induction hp with
 |nil=>intro ys h;exact⟨ys,.refl _,h⟩
 |cons x _ g=>intro ys h;cases h with|cons r t=>obtain⟨zs,z1,z2⟩:=g t;exact⟨_::zs,z1.cons _,.cons r z2⟩
 |swap x y l=>intro ys h;cases h with|cons r t=>cases t with|cons e f=>exact⟨_,List.Perm.swap _ _ _,.cons e (.cons r f)⟩
 |trans _ _ b i=>intro ys h;obtain⟨zs,z1,z2⟩:=b h;obtain⟨us,d,c⟩:=i z2;exact⟨us,d.trans z1,c⟩
theorem S8{R:α->β->Prop}{xs:Z α}{us:Z β}{ys:Z α}{vs:Z β}(h:AI R xs us)(k:AI R ys vs):AI R (xs++ys) (us++vs):=by
 induction h with
 |nil=>exact k
 |cons r _ a=>exact .cons r a
def BO(w:A4):AE:={ cls:=.type "set",dict:=Y,data:=.set #[] 0 (.fresh 0 0 (!w.params.followText "set-order")) }
structure E8 (prog:Program) (w:World) (S:Addr) (wr:List Addr) {κ:Type} (C:Heap->List κ->Prop) (P:Nat->Value->Prop) (val:Nat->κ) (n:Nat):Prop where
 keep:∀h h' ys,C h ys->(∀b o,b∉wr->h.get? b=some o->h'.get? b=some o)->C h' ys
 add:∀(A:Around) (E:B9) (s:Shared) (i:Nat) (v:Value) (ys:List κ) (Q:Bool->Shared->Prop),A.units<cLine->i<n->P i v->C s.heap ys->ys.length<=i →
  (∀b h' tk ys',Heap.SameBut S s.heap h'->C h' ys'->(∀z,z∈ys'↔z∈ys\/z=val i)->ys'.length<=i+1->s.toks<=tk->Q b { s with heap:=h',toks:=tk })->wpAny (model prog w) A (setAdd S v) Q E s
section
variable{R:Result->A2->Prop}{I:A1}{wr:Z A1}{P:Nat->A0->Prop}{St:Nat->A2->Prop}{C:A6->Z κ->Prop}{val:Nat->κ}
theorem Z8(W:WalksS prog w A.in1 I fp wr (λa b=>b=a) n P St)(S:A1)(K:S∉fp)(ad:E8 prog w S wr C P val n)(L:A.units+1<cLine):
  ∀(k i:Nat) (s:A2) (ys:Z κ),n-i=k->i<=n->St i s->C s.heap ys->(∀z,z∈ys↔∃j,j<i/\z=val j)->ys.length<=i →
   (∀s' d,Moved (S::wr) (λa b=>b=a) s s'->C s'.heap d->(∀z,z∈d↔∃j,j<n/\z=val j)->R (.ok (.ret .none)) s') →
   AF (A8 prog w) A (.builtin "set.update.loop" ⟨[.ref S,.ref I],[]⟩) R s:=by
 have sub:∀b,b∈wr->b∈S::wr:=λb q=>zo _ q;intro k
 induction k with
 |zero=>
  intro i s ys N hi st l h p g;have:i=n:=by omega
  subst this;refine JU F.entry_set_update_loop ?_;rw[Around.under_plainId YA _];show A7 _ A.in1 (pyNext (.ref I) >>= _) _ _ s;refine zb (W.done s _ _ st λs' c=>?_);show A7 _ A.in1 (ret Value.none) _ _ s';exact ze (g s' ys (c.mono sub) (ad.keep _ _ _ l c.heap) h)
 |succ k D=>
  intro i s ys N hi st l h p g;have f:i<n:=by omega
  refine JU F.entry_set_update_loop ?_;rw[Around.under_plainId YA _];show A7 _ A.in1 (pyNext (.ref I) >>= _) _ _ s;refine zb (W.item i s _ _ f st λv s' H M c=>?_);show A7 _ A.in1 (holding [v] (setAdd S v) >>= _) _ _ s';refine zb (qA (ad.add _ _ s' i v ys _ L f H (ad.keep _ _ _ l c.heap) p λb h' tk d t B G u m=>?_));refine ze ⟨plainId_quiet YA _,D (i+1) _ d (by omega) f (W.frame _ s' _ _ M m λb hb o e=>?_) B (λz=>?_) u λJ x E X y=>?_⟩
  ·rw[t.2 b λq=>K (q▸hb)];exact e
  ·rw[G z,h z];constructor
   ·rintro(⟨j,Q,e⟩|e)
    ·exact⟨j,by omega,e⟩
    ·exact⟨i,by omega,e⟩
   ·rintro⟨j,Q,e⟩;by_cases q:j=i
    ·exact .inr (q▸e)
    ·exact .inl ⟨j,by omega,e⟩
  ·refine g J x (Moved.trans W.gtrans ((c.mono sub).then_heap m λb o hb e=>?_) E) X y;rw[t.2 b λq=>hb (by rw[q];exact zk)];exact e
end
theorem S9(x:A0){Q₁:B9}(h:Q₁ (.ref s.heap.objs.size) { s with heap:=s.heap.push (BO w) }):
  AF (A8 prog w) A (.call (.builtin "set.__new__") ⟨[.type "set",x],[]⟩) (wants Q₁ E) s:=by
 refine codeAny_of_tree ?_;show A7 _ A.in1 (do checkBuiltinCall "set.__new__" ⟨[.type "set",x],[]⟩;again (.builtin "set.__new__" ⟨[.type "set",x],[]⟩)) _ _ s;refine zb (wpAny_of_eq (F.newCall_set_1 x) (ze ⟨plainId_quiet F.plain_set_new _,JU F.entry_set_new ?_⟩));rw[Around.under_plainId F.plain_set_new _];unfold Builtin.«set.__new__» Builtin.Frozenset.newClass;have a:=sub_set_self;obtain⟨hp,g,d,tk,os⟩:=s;dsimp only
 wp_walk
 refine wpAny_askSetting (ze ?_);dsimp only;simp only[newObj];refine zb (wpAny_alloc (ze ?_));exact ze h
theorem BY:isSubtype (.type "tuple") (.type "set")=pure false:=by rw[isSubtype_type];kernel_rfl
theorem BI:isSubtype (.type "tuple") (.type "frozenset")=pure false:=by rw[isSubtype_type];kernel_rfl
theorem Z9(hU:A.units+60<cLine){T:String}{C:A6->Z κ->Prop}{P:Nat->A0->Prop}{val:Nat->κ}{Q:B9}(hh:A.handled=Y)(K:s.heap.get? l=U o)(b3:o.cls=.type T)(y:T ="list" ∨ T ="tuple")(a1:∀(d:A5) (E':B9) (L:B9) (h0:A6),d.handled=Y->(∀b a,s.heap.get? b=U a->h0.get? b=U a) →
   (∀(h':A6) (St:Nat->A6->Prop),(∀d,d.handled=Y->Walks prog w d h0.objs.size [h0.objs.size,l] [h0.objs.size] n P St)->St 0 h'->(∀b a,h0.get? b=U a->h'.get? b=U a)->L (.ref h0.objs.size) { s with heap:=h' })->A7 (A8 prog w) d (pyIter (.ref l)) L E' { s with heap:=h0 })(ad:E8 prog w s.heap.objs.size [s.heap.objs.size+1] C P val n)(a2:∀h',h'.get? s.heap.objs.size=U (BO w)->(∀b a,s.heap.get? b=U a->h'.get? b=U a)->C h' [])(h:∀(h':A6) (tk:Nat) (ys:Z κ),C h' ys->(∀z,z∈ys↔∃j,j<n/\z=val j)->(∀b a,s.heap.get? b=U a->h'.get? b=U a)->Q (.ref s.heap.objs.size) { s with heap:=h',toks:=tk }):
  A7 (A8 prog w) A (call (.type "set") [.ref l]) Q E s:=by
 obtain⟨c,tl,d0⟩:=F.called_set.mro;have e4:=F.called_set.made;have e0:=F.called_set.sub;have a5:l<s.heap.objs.size:=zt K;refine Kt (codeAny_of_tree ?_);show A7 _ _ (callAny (.type "set") _) _ _ _;refine ze ⟨Code.quiet_builtin _ (by decide +kernel),JU F.entry_type_call ?_⟩;rw[Around.under_plain (weight_type_call_type "set" [.ref l] []) rfl];have h1:=F.called_set.notType;have h2:=F.called_set.canCreate;have d3:=F.typeCall_set_1 (.ref l)
 repeat (any_goals (first|assumption|wp_step))
 refine k6 (S9 (.ref l) (E:=E) (Q₁:=λI N=>I=.ref s.heap.objs.size/\N={ s with heap:=s.heap.push (BO w) }) ⟨rfl,rfl⟩) λr N m=>?_;cases r with
 |error e=>exact m
 |ok fl=>
  cases fl with
  |ret I=>
   obtain⟨rfl,rfl⟩:=m;generalize p:s.heap.push (BO w)=H;have D:H.objs.size=s.heap.objs.size+1:=by rw[<-p,qv]
   have t:H.get? s.heap.objs.size=U (BO w):=by rw[<-p];exact zv _ rfl
   have i:∀b a,s.heap.get? b=U a->H.get? b=U a:=λb a e=>by rw[<-p];exact zd _ e
   have X:Shared.TypeIs { s with heap:=H } (.ref s.heap.objs.size) "set":=⟨_,t,rfl⟩;have d1:=F.called_set.init.lookup;have d2:=F.called_set.init.bind (.ref s.heap.objs.size)
   repeat (any_goals (first|assumption|wp_step))
   refine k6 (ye (R:=wants (λr f=>r=.none/\∃h' tk ys,f={ s with heap:=h',toks:=tk }/\C h' ys/\(∀z,z∈ys↔∃j,j<n/\z=val j)/\(∀b a,s.heap.get? b=U a->h'.get? b=U a)) E) F.called_set.init.plain F.entry_set_init (check_set_init_1 X ?_)) λc0 f v=>?_
   ·have x:Shared.TypeIs { s with heap:=H } (.ref l) T:=⟨o,i _ _ K,b3⟩;have i1:isSubtype (.type T) (.type "set")=pure false:=by rcases y with rfl|rfl;exact F.sub_list_set;exact BY
    have i2:isSubtype (.type T) (.type "frozenset")=pure false:=by rcases y with rfl|rfl;exact F.sub_list_frozenset;exact BI
    have i3:(Value.type T==Value.type "dict")=false:=by rcases y with rfl|rfl<;>decide
    show A7 _ _ (Builtin.«set.__init__» ⟨[.ref s.heap.objs.size,.ref l],[]⟩) _ _ _;have J:∀d:A5,d.handled=Y->d.units+4<cLine->A7 (A8 prog w) d (Builtin.Frozenset.updateFrom "set.__init__" s.heap.objs.size (.ref l)) (λ_ f=>∃h' tk ys,f={ s with heap:=h',toks:=tk }/\C h' ys/\(∀z,z∈ys↔∃j,j<n/\z=val j)/\(∀b a,s.heap.get? b=U a->h'.get? b=U a)) E { s with heap:=H }:=by
     intro d M e5;unfold Builtin.Frozenset.updateFrom Builtin.Frozenset.isAnySet;refine zb (zb (ke x i1 ?_));refine ke x i2 ?_;simp only[zr,ZO];refine zb (QR x ?_);simp only[i3,zr,ZO];refine zb (a1 d _ _ H M i λG St W a0 B=>?_);rw[D]at W;rw[D];have b0:s.heap.objs.size∉[s.heap.objs.size+1,l]:=λq=>by
      simp only[Q2,js,or_false]at q;rcases q with q|q
      ·exact Zl (qk _) q
      ·exact jS a5 q
     refine zb (wpAny_runValue (Z8 (W d.in1 M).toS s.heap.objs.size b0 ad (by omega) (n-0) 0 _ [] S (Q1 _) a0 (a2 G (B _ _ t) λb a e=>B _ _ (i _ _ e)) (λz=>⟨λq=>(by cases q),λ⟨j,q,_⟩=>absurd q (kL _)⟩) (zg _) λs' ys g c1 c2=>?_));refine ze ⟨s'.heap,s'.toks,ys,?_,c1,c2,λb a e=>?_⟩
     ·have e1:s'.gens=s.gens:=g.gens;have e2:s'.os=s.os:=g.os;have e3:s'.drawn=s.drawn:=g.drawn;rw[<-e1,<-e2,<-e3]
     ·have hb:=zt e;refine g.heap b a (λq=>?_) (B _ _ (i _ _ e));simp only[Q2,js,or_false]at q;rcases q with q|q
      ·exact Zl hb q
      ·exact Zl (Qb hb) q
    have hb:(BO w).data=.set #[] 0 (.fresh 0 0 (!w.params.followText "set-order")):=rfl;unfold Builtin.«set.__init__» noKeywords;generalize c8:Builtin.Frozenset.updateFrom=UF at J ⊢;unfold BO at t
    wp_walk
    refine ZZ (J _ (by simp[hh]) (by simp;omega)) (λu f q=>?_) λ_ _ q=>q;obtain⟨h',tk,ys,rfl,q⟩:=q;show A7 _ _ (ret Value.none) _ _ _;exact ze ⟨rfl,h',tk,ys,rfl,q⟩
   ·cases c0 with
    |error e=>exact v
    |ok a3=>
     cases a3 with
     |ret r=>
      obtain⟨rfl,h',tk,ys,rfl,c1,c2,c3⟩:=v
      repeat (any_goals (first|assumption|wp_step))
      exact h _ _ _ c1 c2 c3
     |_=>exact False.elim v
  |_=>exact False.elim m
end S6
namespace S6
open PySem
def Tc(xs:Array Nat):Prop:=∀i j,i<j->j<xs.size->xs.getD i 0<xs.getD j 0
theorem D8{xs:Array Nat}{k a b:Nat}(h:k<xs.size):xs.getD k a=xs.getD k b:=by simp[Array.getD,h]
theorem Pt{xs:Array Nat}{k a:Nat}(h:xs[k]?=U j):k<xs.size/\xs.getD k a=j:=by
 have b:k<xs.size:=by
  by_cases q:k<xs.size
  ·exact q
  ·rw[KU (by omega)]at h;cases h
 refine⟨b,?_⟩;rw[qf b]at h;cases h;simp[Array.getD,b]
theorem et{xs:Array Nat}{k a:Nat}(b:k<xs.size)(h:xs.getD k a=j):xs[k]?=U j:=by
 rw[qf b];simp[Array.getD,b]at h;rw[h]
theorem Gn(xs:Array Nat)(j:Nat)(a:Tc xs):∀(fuel lo hi:Nat),lo<=hi->hi<=xs.size->hi-lo<=fuel->(∀k,k<lo->xs.getD k 0<j)->(∀k,hi<=k->k<xs.size->j<=xs.getD k 0) →
  SetTable.below.go xs j fuel lo hi<=xs.size/\(∀k,k<SetTable.below.go xs j fuel lo hi->xs.getD k 0<j)/\∀k,SetTable.below.go xs j fuel lo hi<=k->k<xs.size->j<=xs.getD k 0
 |0,lo,hi,h1,h2,h3,h4,h5=>by
  have e:lo=hi:=by omega
  subst e;unfold SetTable.below.go;exact⟨h2,h4,h5⟩
 |fuel+1,lo,hi,h1,h2,h3,h4,h5=>by
  unfold SetTable.below.go;by_cases c:lo<hi
  ·rw[zh c];dsimp only;have d:(lo+hi) / 2<xs.size:=by omega
   rw[D8 (b:=0) d];by_cases q:xs.getD ((lo+hi) / 2) 0<j
   ·rw[zh q];refine Gn xs j a fuel _ hi (by omega) h2 (by omega) (λk f=>?_) h5;by_cases e:k=(lo+hi) / 2
    ·rw[e];exact q
    ·exact Nat.lt_trans (a k _ (by omega) d) q
   ·rw[zC q];refine Gn xs j a fuel lo _ (by omega) (by omega) (by omega) h4 λk f hs=>?_;by_cases e:k=(lo+hi) / 2
    ·rw[e];omega
    ·have:=a _ k (by omega:(lo+hi) / 2<k) hs;omega
  ·rw[zC c];have e:lo=hi:=by omega
   subst e;exact⟨h2,h4,h5⟩
theorem BT{xs:Array Nat}(a:Tc xs)(j:Nat):SetTable.below xs j<=xs.size/\(∀k,k<SetTable.below xs j->xs.getD k 0<j)/\∀k,SetTable.below xs j<=k->k<xs.size->j<=xs.getD k 0:=
 Gn xs j a xs.size 0 xs.size (Q1 _) (zg _) (by omega) (λk h=>absurd h (kL _)) λk h h'=>absurd h' (by omega)
theorem Gp{xs:Array Nat}(b:Tc xs)(h:xs[i]?=U j):SetTable.below xs j=i:=by
 obtain⟨h1,h2,c⟩:=BT b j;obtain⟨hi,e⟩:=Pt (a:=0) h;rcases Nat.lt_trichotomy (SetTable.below xs j) i with q|q|q
 ·have:=c _ (zg _) (by omega);have:=b _ _ q hi;omega
 ·exact q
 ·have:=h2 _ q;omega
theorem Vr(j:Nat):SetTable.has #[] j=false:=by
 unfold SetTable.has;simp
structure Tb (t:SetTable):Prop where
 mask:t.mask=7\/t.mask=31\/t.mask=127
 dum:t.dummies=#[]
 rise:Tc t.place
 bd:∀j:Nat,j∈t.place->j<=t.mask
 full:t.place.size<=t.mask
theorem Aj(h:Tb t)(e:t.place[i]?=U j):t.slot j=.live i:=by
 unfold SetTable.slot;simp only[Gp h.rise e,e,beq_self_eq_true,qS]
theorem Xk(h:Tb t)(e:j∉t.place):t.slot j=.empty:=by
 unfold SetTable.slot;have:(t.place[SetTable.below t.place j]?==U j)=false:=by
  cases q:t.place[SetTable.below t.place j]? with
  |none=>rfl
  |some x=>
   by_cases hx:x=j
   ·subst hx;exact absurd (Array.mem_of_getElem? q) e
   ·simp[hx]
 simp only[this,zr,ZO,h.dum,Vr]
def Iu(mask:Nat)(p:SetTable.Probe):SetTable.Probe:=
 if p.more>0 then { p with j:=p.j+1,more:=p.more-1 }else
 { p with j:=(SetTable.leap mask p.i p.perturb).1,more:=SetTable.runEnd mask (SetTable.leap mask p.i p.perturb).1-(SetTable.leap mask p.i p.perturb).1,i:=(SetTable.leap mask p.i p.perturb).1,perturb:=(SetTable.leap mask p.i p.perturb).2 }
theorem Nc(t:SetTable)(p:SetTable.Probe):t.advance p=Iu t.mask p:=rfl
def Db(mask i perturb:Nat):SetTable.Probe:={ j:=i,more:=SetTable.runEnd mask i-i,i,perturb,dummy:=Y }
def gO(mask:Nat)(h:Int):Nat->SetTable.Probe
 |0=>Db mask (SetTable.bits h%(mask+1)) (SetTable.bits h)
 |n+1=>Iu mask (gO mask h n)
theorem Vs(mask:Nat)(h:Int):∀n,(gO mask h n).dummy=Y
 |0=>rfl
 |n+1=>by
  have:=Vs mask h n;unfold gO Iu;split<;>exact this
theorem Py{t:SetTable}(b:Tb t)(a:Nat->Int)(h:Int):∀(d fuel n:Nat),d<fuel->(∀m,n<=m->m<n+d->∃i,t.place[i]?=U (gO t.mask h m).j/\a i≠h) →
  ((gO t.mask h (n+d)).j∉t.place->SetTable.probe.go t a h fuel (gO t.mask h n)=U (.empty (gO t.mask h (n+d)).j Y)) ∧
  ∀i,t.place[i]?=U (gO t.mask h (n+d)).j->a i=h->SetTable.probe.go t a h fuel (gO t.mask h n)=U (.candidate (gO t.mask h (n+d)).j i (gO t.mask h (n+d+1)))
 |0,fuel+1,n,_,_=>by
  refine⟨λe=>?_,λi e1 e2=>?_⟩
  ·unfold SetTable.probe.go;rw[Nat.add_zero]at e ⊢;rw[Xk b e];simp only[Vs]
  ·unfold SetTable.probe.go;rw[Nat.add_zero]at e1 ⊢;rw[Aj b e1];simp only[e2,beq_self_eq_true,qS,Nc];rfl
 |d+1,fuel+1,n,hd,hp=>by
  obtain⟨i,e1,e2⟩:=hp n (zg _) (by omega);have c:=Py b a h d fuel (n+1) (by omega) λm h1 h2=>hp m (by omega) (by omega);have e:SetTable.probe.go t a h (fuel+1) (gO t.mask h n)=SetTable.probe.go t a h fuel (gO t.mask h (n+1)):=by
   conv=>lhs;unfold SetTable.probe.go
   rw[Aj b e1];simp only[beq_iff_eq,e2,ZO,Nc];rfl
  rw[e,show n+(d+1)=n+1+d by omega];exact c
theorem Td:∀(xs ys:Z Nat),xs.Nodup->(∀x,x∈xs->x∈ys)->xs.length<=ys.length
 |[],_,_,_=>Q1 _
 |x::xs,ys,hn,hs=>by
  have a:=List.nodup_cons.mp hn;have c:=hs x (zk ..);have:=Td xs (ys.erase x) a.2 λz b=>(List.mem_erase_of_ne (λe:z=x=>a.1 (by rw[<-e];exact b))).mpr (hs z (zo _ b));have:=y7 c;have:0<ys.length:=kF c;simp only[qc];omega
def nx(M i:Nat):Nat:=(i*5+1)%M
def Pz(M:Nat):Nat->Nat->Nat
 |0,i=>i
 |k+1,i=>Pz M k (nx M i)
theorem Ed(M:Nat):∀(a b i:Nat),Pz M (a+b) i=Pz M b (Pz M a i)
 |0,b,i=>by rw[KG];rfl
 |a+1,b,i=>by rw[Nat.succ_add];exact Ed M a b _
theorem ai:(∀r,r<8->∃k,k<8/\Pz 8 k 0=r)/\Pz 8 8 0=0:=by decide +kernel
theorem gI:(∀r,r<32->∃k,k<32/\Pz 32 k 0=r)/\Pz 32 32 0=0:=by decide +kernel
theorem gc:(∀r,r<128->∃k,k<128/\Pz 128 k 0=r)/\Pz 128 128 0=0:=by decide +kernel
theorem IH{M:Nat}(h:(∀r,r<M->∃k,k<M/\Pz M k 0=r)/\Pz M M 0=0){r:Nat}(hi:i<M)(c:r<M):∃k,k<M/\Pz M k i=r:=by
 obtain⟨a,d,rfl⟩:=h.1 i hi;obtain⟨b,hb,rfl⟩:=h.1 r c;by_cases q:a<=b
 ·exact⟨b-a,by omega,by rw[<-Ed,show a+(b-a)=b by omega]⟩
 ·exact⟨M-a+b,by omega,by rw[<-Ed,show a+(M-a+b)=M+b by omega,Ed,h.2]⟩
theorem OY(h:mask=7\/mask=31\/mask=127){r:Nat}(hi:i<mask+1)(a:r<mask+1):∃k,k<mask+1/\Pz (mask+1) k i=r:=by
 rcases h with rfl|rfl|rfl
 ·exact IH ai hi a
 ·exact IH gI hi a
 ·exact IH gc hi a
def lp(mask:Nat)(h:Int):Nat->Nat×Nat
 |0=>(SetTable.bits h%(mask+1),SetTable.bits h)
 |l+1=>SetTable.leap mask (lp mask h l).1 (lp mask h l).2
theorem Gq(mask i:Nat):i<=SetTable.runEnd mask i/\SetTable.runEnd mask i<=i+9:=by unfold SetTable.runEnd;split<;>omega
theorem N3(h:i<=mask):SetTable.runEnd mask i<=mask:=by unfold SetTable.runEnd;split<;>omega
theorem yP{mask:Nat}{h:Int}{s i p:Nat}(e:gO mask h s=Db mask i p):∀k,k<=SetTable.runEnd mask i-i->gO mask h (s+k)={ Db mask i p with j:=i+k,more:=SetTable.runEnd mask i-i-k }
 |0,_=>by rw[Nat.add_zero,e];rfl
 |k+1,hk=>by
  have a:=yP e k (by omega);show Iu mask (gO mask h (s+k))=_;rw[a];unfold Iu;rw[zh (by dsimp only;omega)];rfl
theorem PJ{h:Int}{s p:Nat}(e:gO mask h s=Db mask i p):gO mask h (s+(SetTable.runEnd mask i-i)+1)=Db mask (SetTable.leap mask i p).1 (SetTable.leap mask i p).2:=by
 show Iu mask (gO mask h (s+(SetTable.runEnd mask i-i)))=_;rw[yP e _ (zg _)];unfold Iu;rw[zC (by dsimp only;omega)];rfl
theorem NO(mask:Nat)(h:Int):∀l,∃s,s<=10*l/\gO mask h s=Db mask (lp mask h l).1 (lp mask h l).2
 |0=>⟨0,by omega,rfl⟩
 |l+1=>by
  obtain⟨s,hs,e⟩:=NO mask h l;have:=Gq mask (lp mask h l).1;exact⟨_,by omega,PJ e⟩
theorem PF(mask:Nat)(h:Int):∀l,(lp mask h l).1<mask+1
 |0=>Nat.mod_lt _ (Nat.succ_pos _)
 |l+1=>Nat.mod_lt _ (Nat.succ_pos _)
theorem PK(mask:Nat)(h:Int):∀l,(lp mask h l).2*32 ^ l<=SetTable.bits h
 |0=>by simp[lp]
 |l+1=>by
  have a:=PK mask h l;show(lp mask h l).2 / 32*32 ^ (l+1)<=_;have h1:(lp mask h l).2 / 32*32<=(lp mask h l).2:=Nat.div_mul_le_self _ _;have h2:=Nat.mul_le_mul_right (32 ^ l) h1;rw[Nat.pow_succ,Nat.mul_comm (32 ^ l) 32,<-Nat.mul_assoc];exact ZH h2 a
theorem a8(h:Int):SetTable.bits h<18446744073709551616:=by
 unfold SetTable.bits;have h1:h%18446744073709551616<18446744073709551616:=Int.emod_lt_of_pos _ (by decide);have h2:0<=h%18446744073709551616:=Int.emod_nonneg _ (by decide);show(h%18446744073709551616).toNat<_;omega
theorem Vt(mask:Nat)(h:Int):∀k,(lp mask h (12+k)).2<32
 |0=>by
  have h1:=PK mask h 12;have h2:=a8 h;rw[show(32:Nat) ^ 12=1152921504606846976 from rfl]at h1;show(lp mask h 12).2<32;omega
 |k+1=>by
  have:=Vt mask h k;show(lp mask h (12+k)).2 / 32<32;omega
theorem ac(mask:Nat)(h:Int):∀k,(lp mask h (12+k)).1=Pz (mask+1) k (lp mask h 12).1:=by
 have step:∀k,(lp mask h (12+k+1)).1=nx (mask+1) (lp mask h (12+k)).1:=λk=>by
  have:=Vt mask h k;show((lp mask h (12+k)).1*5+1+(lp mask h (12+k)).2 / 32)%(mask+1)=_;rw[show(lp mask h (12+k)).2 / 32=0 by omega];rfl
 have b:∀k i,Pz (mask+1) k (nx (mask+1) i)=nx (mask+1) (Pz (mask+1) k i):=λk=>by
  induction k with
  |zero=>intro i;rfl
  |succ k a=>intro i;exact a _
 intro k
 induction k with
 |zero=>rfl
 |succ k a=>
  rw[show 12+(k+1)=12+k+1 by omega,step,a];exact(b k _).symm
theorem MR(b:mask=7\/mask=31\/mask=127)(h:Int){r:Nat}(a:r<mask+1):∃l,l<mask+13/\(lp mask h l).1=r:=by
 obtain⟨k,c,e⟩:=OY b (PF mask h 12) a;exact⟨12+k,by omega,by rw[ac,e]⟩
theorem TC(h:Tb t):∃r,r<t.mask+1/\r∉t.place:=by
 by_cases q:∃r,r<t.mask+1/\r∉t.place
 ·exact q
 ·exfalso;have:=Td (List.range (t.mask+1)) t.place.toList y9 λx hx=>by
   rw[yz]at hx;by_cases a:x∈t.place
   ·exact Array.mem_toList_iff.mpr a
   ·exact absurd ⟨x,hx,a⟩ q
  rw[KM,qq]at this;have:=h.full;omega
theorem UM(a:Tb t)(h:Int):∃n,n<10*SetTable.turns t.mask/\(gO t.mask h n).j∉t.place:=by
 obtain⟨r,b,c⟩:=TC a;obtain⟨l,d,e⟩:=MR a.mask h b;obtain⟨s,hs,e'⟩:=NO t.mask h l;refine⟨s,by unfold SetTable.turns;omega,?_⟩;rw[e'];show(lp t.mask h l).1∉_;rw[e];exact c
theorem Te(c:Tb t)(h:Int):∃n,n<10*SetTable.turns t.mask/\(gO t.mask h n).j∉t.place/\∀m,m<n->(gO t.mask h m).j∈t.place:=by
 obtain⟨n,g,f⟩:=UM c h;have:∀k,(∃n,n<=k/\(gO t.mask h n).j∉t.place/\∀m,m<n->(gO t.mask h m).j∈t.place)\/∀m,m<=k->(gO t.mask h m).j∈t.place:=λk=>by
  induction k with
  |zero=>
   by_cases q:(gO t.mask h 0).j∈t.place
   ·exact .inr λm a=>by rw[show m=0 by omega];exact q
   ·exact .inl ⟨0,zg _,q,λm a=>absurd a (kL _)⟩
  |succ k b=>
   rcases b with⟨n,h1,h2⟩|b
   ·exact .inl ⟨n,by omega,h2⟩
   ·by_cases q:(gO t.mask h (k+1)).j∈t.place
    ·exact .inr λm a=>by
      by_cases e:m=k+1
      ·rw[e];exact q
      ·exact b m (by omega)
    ·exact .inl ⟨k+1,zg _,q,λm a=>b m (by omega)⟩
 rcases this n with⟨m,h1,h2,d⟩|q
 ·exact⟨m,by omega,h2,d⟩
 ·exact absurd (q n (zg _)) f
theorem gD(xs:Array α)(k:Nat)(a:α):xs.getD k a=xs[k]?.getD a:=by
 by_cases h:k<xs.size
 ·rw[qf h];simp[Array.getD,h]
 ·rw[KU (by omega)];simp[Array.getD,h]
structure Tok (t:SetTable) (es:Array (Int×Value)):Prop extends Tb t where
 size:t.place.size=es.size
 reach:∀(i j:Nat) e,t.place[i]?=some j->es[i]?=some e->∃n,n<10*SetTable.turns t.mask/\(gO t.mask e.1 n).j=j/\∀m,m<n->(gO t.mask e.1 m).j∈t.place
theorem yQ(xs:Array α)(p:Nat)(x:α):(SetTable.insertAt xs p x).toList=xs.toList.take p++x::xs.toList.drop p:=by
 unfold SetTable.insertAt;simp[Array.toList_extract,List.take_of_length_le]
theorem Du{xs:Array α}{p:Nat}(hp:p<=xs.size)(x:α)(i:Nat):(SetTable.insertAt xs p x)[i]?=if i<p then xs[i]? else if i=p then U x else xs[i-1]?:=by
 rw[<-qV,yQ,List.getElem?_append];have a:(xs.toList.take p).length=p:=by rw[kz,qq];omega
 rw[a];by_cases h1:i<p
 ·rw[zh h1,zh h1,List.getElem?_take,zh h1,qV]
 ·rw[zC h1,zC h1];by_cases h2:i=p
  ·rw[zh h2,h2,Nat.sub_self];rfl
  ·rw[zC h2,show i-p=(i-p-1)+1 by omega,qr,List.getElem?_drop,qV,show p+(i-p-1)=i-1 by omega]
theorem u6(xs:Array α)(p:Nat)(x:α):(SetTable.insertAt xs p x).size=xs.size+1:=by
 rw[<-qq,yQ,zS,qc,kz,kA,qq];omega
theorem Vu{xs:Array α}{p:Nat}{x y:α}:y∈SetTable.insertAt xs p x↔y∈xs\/y=x:=by
 rw[<-Array.mem_toList_iff,yQ,yi,Q2,<-Array.mem_toList_iff];constructor
 ·rintro(h|h|h)
  ·exact .inl (List.mem_of_mem_take h)
  ·exact .inr h
  ·exact .inl (List.mem_of_mem_drop h)
 ·rintro(h|h)
  ·rw[<-List.take_append_drop p xs.toList,yi]at h;rcases h with h|h
   ·exact .inl h
   ·exact .inr (.inr h)
  ·exact .inr (.inl h)
theorem SI{xs:Array Nat}(c:Tc xs)(h:j∉xs):Tc (SetTable.insertAt xs (SetTable.below xs j) j):=by
 obtain⟨h1,h2,f⟩:=BT c j;intro a b g hb;rw[u6]at hb;have d:∀i,i<xs.size+1->(SetTable.insertAt xs (SetTable.below xs j) j).getD i 0=if i<SetTable.below xs j then xs.getD i 0 else if i=SetTable.below xs j then j else xs.getD (i-1) 0:=λi hi=>by
  rw[gD,Du h1];by_cases q1:i<SetTable.below xs j
  ·rw[zh q1,zh q1,<-gD]
  ·rw[zC q1,zC q1];by_cases q2:i=SetTable.below xs j
   ·rw[zh q2,zh q2];rfl
   ·rw[zC q2,zC q2,<-gD]
 have gt:∀k,SetTable.below xs j<=k->k<xs.size->j<xs.getD k 0:=λk e hs=>by
  have q:=f k e hs;rcases Nat.lt_or_eq_of_le q with q|q
  ·exact q
  ·exact absurd (Array.mem_of_getElem? (et hs q.symm)) h
 rw[d a (by omega),d b hb];by_cases a1:a<SetTable.below xs j
 ·rw[zh a1];by_cases b1:b<SetTable.below xs j
  ·rw[zh b1];exact c a b g (by omega)
  ·rw[zC b1];have:=h2 a a1;by_cases b2:b=SetTable.below xs j
   ·rw[zh b2];exact this
   ·rw[zC b2];exact Nat.lt_trans this (gt _ (by omega) (by omega))
 ·rw[zC a1];by_cases a2:a=SetTable.below xs j
  ·rw[zh a2,zC (by omega),zC (by omega)];exact gt _ (by omega) (by omega)
  ·rw[zC a2,zC (by omega),zC (by omega)];exact c _ _ (by omega) (by omega)
theorem aE{es:Array (Int×A0)}(h:Tok t es){d:Int}{x:A0}(y:n<10*SetTable.turns t.mask)(o:(gO t.mask d n).j∉t.place)(hp:∀m,m<n->(gO t.mask d m).j∈t.place)(u:(gO t.mask d n).j<=t.mask)(hs:es.size+1<=t.mask):
  Tok (t.put (gO t.mask d n).j).1 (SetTable.insertAt es (t.put (gO t.mask d n).j).2 (d,x))/\(t.put (gO t.mask d n).j).1.led=t.led/\(t.put (gO t.mask d n).j).1.plain=t.plain/\(t.put (gO t.mask d n).j).1.mask=t.mask:=by
 have p:=h.dum;have v:t.put (gO t.mask d n).j=({ t with place:=SetTable.insertAt t.place (SetTable.below t.place (gO t.mask d n).j) (gO t.mask d n).j,dummies:=#[] },SetTable.below t.place (gO t.mask d n).j):=by
  unfold SetTable.put;rw[p];simp only[Vr,zr,ZO]
 rw[v];have l:=h.size;have hb:=(BT h.rise (gO t.mask d n).j).1;refine⟨{ mask:=h.mask,dum:=rfl,rise:=SI h.rise o,bd:=λj s=>?_,full:=?_,size:=?_,reach:=λi j e h1 h2=>?_ },rfl,rfl,rfl⟩
 ·rcases Vu.mp s with q|q
  ·exact h.bd j q
  ·rw[q];exact u
 ·show(SetTable.insertAt _ _ _).size<=t.mask;rw[u6];omega
 ·show(SetTable.insertAt _ _ _).size=_;rw[u6,u6,l]
 ·have h1:(SetTable.insertAt t.place (SetTable.below t.place (gO t.mask d n).j) (gO t.mask d n).j)[i]?=U j:=h1;rw[Du hb]at h1;rw[Du (by rw[<-l];exact hb)]at h2;have f:∀e':Int×A0,(∃n,n<10*SetTable.turns t.mask/\(gO t.mask e'.1 n).j=j/\∀m,m<n->(gO t.mask e'.1 m).j∈t.place)->∃g,g<10*SetTable.turns t.mask/\(gO t.mask e'.1 g).j=j/\∀m,m<g->(gO t.mask e'.1 m).j∈SetTable.insertAt t.place (SetTable.below t.place (gO t.mask d n).j) (gO t.mask d n).j:=
   λe' ⟨n,a,b,c⟩=>⟨n,a,b,λm w=>Vu.mpr (.inl (c m w))⟩
  by_cases q1:i<SetTable.below t.place (gO t.mask d n).j
  ·rw[zh q1]at h1 h2;exact f e (h.reach i j e h1 h2)
  ·rw[zC q1]at h1 h2;by_cases q2:i=SetTable.below t.place (gO t.mask d n).j
   ·rw[zh q2]at h1 h2;cases h1;cases h2;exact f (d,x) ⟨n,y,rfl,hp⟩
   ·rw[zC q2]at h1 h2;exact f e (h.reach (i-1) j e h1 h2)
theorem LU{mask:Nat}(h:Int):∀n,(gO mask h n).j+(gO mask h n).more<=mask
 |0=>by
  have h1:SetTable.bits h%(mask+1)<mask+1:=Nat.mod_lt _ (Nat.succ_pos _);have:=N3 (mask:=mask) (i:=SetTable.bits h%(mask+1)) (by omega);have:=Gq mask (SetTable.bits h%(mask+1));show SetTable.bits h%(mask+1)+(SetTable.runEnd mask (SetTable.bits h%(mask+1))-SetTable.bits h%(mask+1))<=mask;omega
 |n+1=>by
  have b:=LU (mask:=mask) h n;show(Iu mask (gO mask h n)).j+(Iu mask (gO mask h n)).more<=mask;unfold Iu;split
  ·dsimp only;omega
  ·dsimp only;generalize a:(SetTable.leap mask (gO mask h n).i (gO mask h n).perturb).1=i;have h1:i<mask+1:=by rw[<-a];exact Nat.mod_lt _ (Nat.succ_pos _)
   have:=N3 (mask:=mask) (i:=i) (by omega);have:=Gq mask i;omega
theorem Tf(h:Int)(n:Nat):(gO mask h n).j<=mask:=by have:=LU (mask:=mask) h n;omega
def Tg(owner:Array (O Nat))(j:Nat):Prop:=(owner.getD j (U 0)).isNone=false
theorem JV{mask:Nat}{h:Int}{owner:Array (O Nat)}:∀(fuel l s j:Nat),gO mask h s=Db mask (lp mask h l).1 (lp mask h l).2->s<=10*l->(∀m,m<s->Tg owner (gO mask h m).j) →
  SetTable.layClean.free mask owner fuel (lp mask h l).1 (lp mask h l).2=U j->∃n,n<10*(l+fuel)/\(gO mask h n).j=j/\(owner.getD j (U 0)).isNone=true/\∀m,m<n->Tg owner (gO mask h m).j
 |0,l,s,j,_,_,_,e=>by unfold SetTable.layClean.free at e;cases e
 |fuel+1,l,s,j,hs,hl,ho,e=>by
  have i:=Gq mask (lp mask h l).1;unfold SetTable.layClean.free at e;cases c:(List.range (SetTable.runEnd mask (lp mask h l).1+1-(lp mask h l).1)).find? λk=>(owner.getD ((lp mask h l).1+k) (U 0)).isNone with
  |some k=>
   rw[c]at e;cases e;obtain⟨h1,h2,d⟩:=List.find?_range_eq_some.mp c;rw[yz]at h2;refine⟨s+k,by omega,?_,h1,λm g=>?_⟩
   ·rw[yP hs k (by omega)]
   ·by_cases q:m<s
    ·exact ho m q
    ·have f:=d (m-s) (by omega);rw[show m=s+(m-s) by omega,yP hs (m-s) (by omega)];simpa[Tg]using f
  |none=>
   rw[c]at e;have d:=List.find?_range_eq_none.mp c;obtain⟨n,a,b⟩:=JV fuel (l+1) _ j (PJ hs) (by omega) (λm g=>by
    by_cases q:m<s
    ·exact ho m q
    ·have f:=d (m-s) (by omega);rw[show m=s+(m-s) by omega,yP hs (m-s) (by omega)];simpa[Tg]using f) e
   exact⟨n,by omega,b⟩
theorem JW{mask:Nat}{h:Int}{owner:Array (O Nat)}:∀(fuel l:Nat),SetTable.layClean.free mask owner fuel (lp mask h l).1 (lp mask h l).2=Y->∀l',l<=l'->l'<l+fuel->Tg owner (lp mask h l').1
 |0,l,_,l',h1,h2=>by omega
 |fuel+1,l,e,l',h1,h2=>by
  have d:=Gq mask (lp mask h l).1;unfold SetTable.layClean.free at e;cases a:(List.range (SetTable.runEnd mask (lp mask h l).1+1-(lp mask h l).1)).find? λk=>(owner.getD ((lp mask h l).1+k) (U 0)).isNone with
  |some k=>rw[a]at e;cases e
  |none=>
   rw[a]at e;have c:=List.find?_range_eq_none.mp a;by_cases q:l'=l
   ·subst q;have b:=c 0 (by omega);simpa[Tg]using b
   ·exact JW fuel (l+1) e l' (by omega) (by omega)
structure Ow (mask:Nat) (hs:List Int) (owner:Array (Option Nat)):Prop where
 size:owner.size=mask+1
 lt:∀(j idx:Nat),owner[j]?=some (some idx)->idx<hs.length
 all:∀(idx:Nat) h,hs[idx]?=some h->∃j,owner[j]?=some (some idx)/\∃n,n<10*SetTable.turns mask/\(gO mask h n).j=j/\∀m,m<n->Tg owner (gO mask h m).j
 inj:∀(j j' idx:Nat),owner[j]?=some (some idx)->owner[j']?=some (some idx)->j=j'
theorem LO(o:Ow mask hs owner)(c:j<=mask):Tg owner j↔∃a,owner[j]?=U (U a):=by
 unfold Tg;have b:j<owner.size:=by rw[o.size];omega
 rw[gD,qf b];cases owner[j]with
 |none=>simp
 |some i=>simp
theorem Xl{f:Nat->Nat}:∀{xs:Z Nat},xs.Nodup->(∀x∈xs,∀y∈xs,f x=f y->x=y)->(xs.map f).Nodup:=λ{xs} hn hi=>
 List.pairwise_map.mpr (y8 (λa hb b e=>b (hi _ a _ hb e)) hn)
theorem i9(o:Ow mask hs owner)(g:hs.length<=mask):∃r,r<mask+1/\¬ Tg owner r:=by
 by_cases q:∃r,r<mask+1/\¬ Tg owner r
 ·exact q
 ·exfalso;have all:∀r,r<mask+1->∃b,owner[r]?=U (U b):=λr a=>by
   by_cases d:Tg owner r
   ·exact(LO o (by omega)).mp d
   ·exact absurd ⟨r,a,d⟩ q
  have f:∀r,r<mask+1->owner[r]?=U (U ((owner[r]?.getD Y).getD 0)):=λr a=>by
   obtain⟨b,e⟩:=all r a;rw[e];rfl
  have:=Td ((List.range (mask+1)).map λr=>(owner[r]?.getD Y).getD 0) (List.range hs.length) (Xl y9 λx hx y c e=>by
   rw[yz]at hx c;have e1:=f x hx;have e2:=f y c;rw[e]at e1;exact o.inj x y _ e1 e2) λx hx=>by
    obtain⟨r,a,rfl⟩:=List.mem_map.mp hx;rw[yz]at a;exact List.mem_range.mpr (o.lt r _ (f r a))
  rw[zi,KM,KM]at this;omega
theorem Pp(f:mask=7\/mask=31\/mask=127)(o:Ow mask hs owner)(v:hs.length<=mask)(h:Int):
  ∃j,SetTable.layClean.free mask owner (SetTable.turns mask) (SetTable.bits h%(mask+1)) (SetTable.bits h)=U j/\Ow mask (hs++[h]) (owner.setIfInBounds j (U hs.length)):=by
 obtain⟨r,t,z⟩:=i9 o v;cases s:SetTable.layClean.free mask owner (SetTable.turns mask) (SetTable.bits h%(mask+1)) (SetTable.bits h)with
 |none=>
  obtain⟨l,A,e⟩:=MR f h t;have:=JW (h:=h) (owner:=owner) (SetTable.turns mask) 0 s l (Q1 _) (by unfold SetTable.turns;omega);rw[e]at this;exact absurd this z
 |some j=>
  obtain⟨n,h1,h2,p,u⟩:=JV (h:=h) (owner:=owner) (SetTable.turns mask) 0 0 j S (zg _) (λm f=>absurd f (kL _)) s;rw[KG]at h1;have B:j<=mask:=by rw[<-h2];exact Tf h n
  have y:j<owner.size:=by rw[o.size];omega
  have get:∀k:Nat,(owner.setIfInBounds j (U hs.length))[k]?=if k=j then U (U hs.length)else owner[k]?:=λk=>by
   rw[Array.getElem?_setIfInBounds];by_cases q:k=j
   ·rw[zh q,zh q.symm,zh y]
   ·rw[zC q,zC (λe=>q e.symm)]
  have old:∀k d:Nat,owner[k]?=U (U d)->k≠j:=λk d e q=>by
   subst q;rw[gD,e]at p;cases p
  have i:∀k,Tg owner k->Tg (owner.setIfInBounds j (U hs.length)) k:=λk q=>by
   unfold Tg at q ⊢;rw[gD]at q ⊢;rw[get];by_cases e:k=j
   ·rw[zh e];rfl
   ·rw[zC e];exact q
  refine⟨j,rfl,⟨by rw[Array.size_setIfInBounds];exact o.size,λk d e=>?_,λd g e=>?_,λa b d e1 e2=>?_⟩⟩
  ·rw[get]at e;rw[zS];by_cases q:k=j
   ·rw[zh q]at e;cases e;simp
   ·rw[zC q]at e;have:=o.lt k d e;simp;omega
  ·by_cases q:d<hs.length
   ·rw[Z3 q]at e;obtain⟨k,e1,w,a,b,c⟩:=o.all d g e;exact⟨k,by rw[get,zC (old k d e1)];exact e1,w,a,b,λm f=>i _ (c m f)⟩
   ·rw[QI (by omega)]at e;have:d-hs.length=0:=by
     by_cases x:d-hs.length=0
     ·exact x
     ·rw[QQ (by simp;omega)]at e;cases e
    rw[this]at e;cases e;have:d=hs.length:=by omega
    subst this;exact⟨j,by rw[get,zh rfl],n,h1,h2,λm f=>i _ (u m f)⟩
  ·rw[get]at e1 e2;by_cases q1:a=j
   ·by_cases q2:b=j
    ·rw[q1,q2]
    ·rw[zh q1]at e1;rw[zC q2]at e2;cases e1;have:=o.lt b _ e2;omega
   ·by_cases q2:b=j
    ·rw[zC q1]at e1;rw[zh q2]at e2;cases e2;have:=o.lt a _ e1;omega
    ·rw[zC q1]at e1;rw[zC q2]at e2;exact o.inj a b d e1 e2
theorem dS(mask:Nat):Ow mask [] (Array.replicate (mask+1) Y):=by
 have no:∀(j a:Nat),(Array.replicate (mask+1) (Y:O Nat))[j]?≠U (U a):=λj a e=>by
  rw[Array.getElem?_replicate]at e;split at e<;>cases e
 exact⟨Array.size_replicate,λj a e=>absurd e (no j a),λa h e=>by simp at e,λj b a e=>absurd e (no j a)⟩
theorem UO(g:mask=7\/mask=31\/mask=127)(hs:Z Int)(a:hs.length<=mask):∃owner,SetTable.layClean mask hs.toArray=U owner/\Ow mask hs owner:=by
 have f:∀(ys xs:Z Int) (owner:Array (O Nat)),Ow mask xs owner->xs.length+ys.length<=mask->∃d,ys.foldl (λ(l:O (Array (O Nat)×Nat)) h=>do
   let (owner,k) <-l
   let j <-SetTable.layClean.free mask owner (SetTable.turns mask) (SetTable.bits h%(mask+1)) (SetTable.bits h)
   pure (owner.setIfInBounds j (U k),k+1)) (U (owner,xs.length))=U (d,xs.length+ys.length)/\Ow mask (xs++ys) d:=by
  intro ys
  induction ys with
  |nil=>intro xs owner o _;exact⟨owner,rfl,by rw[ZY];exact o⟩
  |cons y ys i=>
   intro xs owner o a;rw[qc]at a;obtain⟨j,e,o'⟩:=Pp g o (by omega) y;obtain⟨b,e2,c⟩:=i (xs++[y]) _ o' (by simp;omega);refine⟨b,?_,by rw[Q4]at c;exact c⟩;rw[QO];simp only[Option.bind_eq_bind,JI,e,pure];rw[show(xs++[y]).length=xs.length+1 by simp]at e2;rw[qc,show xs.length+(ys.length+1)=xs.length+1+ys.length by omega];exact e2
 obtain⟨b,e,o⟩:=f hs [] _ (dS mask) (by simpa using a);refine⟨b,?_,by simpa using o⟩;unfold SetTable.layClean;rw[List.foldl_toArray];exact congrArg (Option.map (·.1)) e
theorem Le{α β:Type}{f:α->O β}{g:α->β}:∀{xs:Z α},(∀x∈xs,f x=U (g x))->xs.filterMap f=xs.map g
 |[],_=>rfl
 |x::xs,h=>by
  rw[k9,h x (zk ..),zw,Le λy a=>h y (zo _ a)]
theorem W'{xs:Z Nat}(h:xs.Pairwise (· < ·)):Tc xs.toArray:=by
 intro i j b c;have a:j<xs.length:=by simpa using c
 rw[gD,gD,List.getElem?_toArray,List.getElem?_toArray,Zs a,Zs (by omega)];exact List.pairwise_iff_getElem.mp h i j (by omega) a b
theorem Xm{es:Array (Int×A0)}{wanted:Nat}(D:SetTable.sizeAbove wanted-1=7\/SetTable.sizeAbove wanted-1=31\/SetTable.sizeAbove wanted-1=127)(H:es.size<=SetTable.sizeAbove wanted-1):
  ∃t' C,t.relaid (es.map (·.1)) wanted=U (t',C)/\(C.filterMap (es[·]?)).toList.Perm es.toList/\Tok t' (C.filterMap (es[·]?))/\t'.led=t.led/\t'.plain=t.plain/\t'.mask=SetTable.sizeAbove wanted-1:=by
 generalize K:SetTable.sizeAbove wanted-1=mask at D H ⊢;have hs:(es.toList.map (·.1)).length=es.size:=by simp
 obtain⟨d,e,o⟩:=UO D (es.toList.map (·.1)) (by omega);have ea:es.map (·.1)=(es.toList.map (·.1)).toArray:=by
  apply Array.ext';simp
 let L:Z (Nat×Nat):=(List.range (mask+1)).filterMap λj=>(d.getD j Y).map λk=>(j,k)
 have f:∀j k,(j,k)∈L↔d[j]?=U (U k):=λj k=>by
  show(j,k)∈List.filterMap _ _↔_;rw[List.mem_filterMap];constructor
  ·rintro⟨a,l,q⟩;rw[gD]at q;cases h1:d[a]? with
   |none=>rw[h1]at q;cases q
   |some x=>
    rw[h1]at q;cases x with
    |none=>cases q
    |some y=>cases q;exact h1
  ·intro q;refine⟨j,List.mem_range.mpr ?_,?_⟩
   ·by_cases h:j<d.size
    ·rw[<-o.size];exact h
    ·rw[KU (by omega)]at q;cases q
   ·rw[gD,q];rfl
 have F:L.Pairwise λa b=>a.1<b.1:=by
  refine List.pairwise_filterMap.mpr (List.pairwise_lt_range.imp λ{a b} hab x hx y hy=>?_);cases h1:d.getD a Y with
  |none=>rw[h1]at hx;cases hx
  |some u=>
   cases h2:d.getD b Y with
   |none=>rw[h2]at hy;cases hy
   |some v=>rw[h1]at hx;rw[h2]at hy;cases hx;cases hy;exact hab
 have M:(L.map (·.2)).Nodup:=by
  refine List.pairwise_map.mpr (y8 (λ{a b} l hb hab e=>?_) F);have h1:=(f a.1 a.2).mp l;have h2:=(f b.1 b.2).mp hb;rw[e]at h1;have:=o.inj _ _ _ h1 h2;omega
 have w:(L.map (·.2)).Perm (List.range es.size):=Eb M y9 λz=>by
  rw[yo,yz];constructor
  ·rintro⟨a,l,rfl⟩;have:=o.lt _ _ ((f a.1 a.2).mp l);omega
  ·intro N;obtain⟨j,h1,_⟩:=o.all z ((es.toList.map (·.1))[z]'(by omega)) (Zs (by omega));exact⟨(j,z),(f j z).mpr h1,rfl⟩
 let g:Nat->Int×A0:=λk=>es.getD k (0,.none)
 have A:∀k,k<es.size->es[k]?=U (g k):=λk s=>by
  show _=U (es.getD k _);rw[gD,qf s];rfl
 have E:(L.map (·.2)).filterMap (λk=>es[k]?)=(L.map (·.2)).map g:=Le λk s=>A k (List.mem_range.mp (w.mem_iff.mp s));have eL:((L.map (·.2)).toArray.filterMap (λk=>es[k]?)).toList=L.map λp=>g p.2:=by
  rw[Array.toList_filterMap,E,QU];rfl
 refine⟨{ mask:=mask,place:=(L.map (·.1)).toArray,dummies:=#[],finger:=t.finger,led:=t.led,moves:=t.movedTo mask,plain:=t.plain },(L.map (·.2)).toArray,?_,?_,?_,rfl,rfl,rfl⟩
 ·unfold SetTable.relaid SetTable.laid;rw[K,ea,e];rfl
 ·rw[Array.toList_filterMap,E];refine(w.map g).trans ?_;have:(List.range es.size).map g=es.toList:=by
   apply List.ext_getElem?;intro i;rw[ZN];by_cases h:i<es.size
   ·rw[List.getElem?_range h,qV,A i h];rfl
   ·rw[QQ (by simp;omega),QQ (by simp;omega)];rfl
  rw[this]
 ·have sz:L.length=es.size:=by
   have:=w.length_eq;rw[zi,KM]at this;exact this
  refine { mask:=D,dum:=rfl,rise:=W' (List.pairwise_map.mpr F),bd:=λj B=>?_,full:=?_,size:=?_,reach:=λi j x h1 h2=>?_ }
  ·have B:j∈L.map (·.1):=by simpa using B
   obtain⟨a,l,rfl⟩:=List.mem_map.mp B;have q:=(f a.1 a.2).mp l;have:a.1<d.size:=by
    by_cases h:a.1<d.size
    ·exact h
    ·rw[KU (by omega)]at q;cases q
   have:=o.size;show a.1<=mask;omega
  ·show(L.map (·.1)).toArray.size<=mask;simp only[zI,zi];omega
  ·rw[<-qq (xs:=Array.filterMap _ _),eL];simp
  ·have h1:(L.map (·.1)).toArray[i]?=U j:=h1;rw[List.getElem?_toArray,ZN]at h1;rw[<-qV,eL,ZN]at h2;cases hi:L[i]? with
   |none=>rw[hi]at h1;cases h1
   |some p=>
    rw[hi]at h1 h2;cases h1;cases h2;have hp:(p.1,p.2)∈L:=QA hi;have q:=(f p.1 p.2).mp hp;have s:p.2<es.size:=List.mem_range.mp (w.mem_iff.mp (List.mem_map.mpr ⟨p,hp,rfl⟩));have G:(es.toList.map (·.1))[p.2]?=U (g p.2).1:=by
     rw[ZN,qV,A _ s];rfl
    obtain⟨I,q1,n,a,b,c⟩:=o.all _ _ G;have:I=p.1:=o.inj _ _ _ q1 q;subst this;refine⟨n,a,b,λm J=>?_⟩;obtain⟨k,q2⟩:=(LO o (Tf _ _)).mp (c m J);show _∈(L.map (·.1)).toArray;rw[List.mem_toArray];exact List.mem_map.mpr ⟨(_,k),(f _ _).mpr q2,rfl⟩
end S6
namespace S6
open P1 L2
abbrev bZ(prog:A3)(w:A4)(ks:Z AY):Int:=tupleKeyHash (bF prog w) ks
def TE(prog:A3)(w:A4)(h:A6)(z:Z AY×A1)(e:Int×A0):Prop:=e=(bZ prog w z.1,.ref z.2)/\IsTupleKey (bF prog w) h z.1 z.2
structure FL (prog:Program) (w:World) (h:Heap) (zs:List (List AY×Addr)) (es:Array (Int×Value)) (t:SetTable):Prop where
 rel:Paired (TE prog w h) zs es.toList
 nd:(zs.map (·.1)).Nodup
 tok:Tok t es
 load:es.size*5<t.mask*3
 led:w.params.followText "set-order"=false->t.led=true
 non:0<es.size->t.plain=false
def Tu(prog:A3)(w:A4)(h:A6)(a:A1)(zs:Z (Z AY×A1)):Prop:=∃o es ep t,h.get? a=U o/\o.ExactSet/\o.data=.set es ep t/\FL prog w h zs es t
theorem Vv{h':A6}{b:A1}(x:IsTupleKey (bF prog w) h ks b)(k:∀o,h.get? b=U o->o.cls=.type "tuple" → h'.get? b=U o):IsTupleKey (bF prog w) h' ks b:=
 let ⟨o,AQ,n,e,c,r⟩:=x;⟨o,AQ,n,k o e c,c,r⟩
theorem PL{h':A6}{l:Z (Int×A0)}(k:∀b o,h.get? b=U o->o.cls=.type "tuple" → h'.get? b=U o)(r:AI (TE prog w h) zs l):AI (TE prog w h') zs l:=by
 induction r with
 |nil=>exact .nil
 |cons q _ a=>exact .cons ⟨q.1,Vv q.2 λo e c=>k _ o e c⟩ a
theorem FL.size{es:Array (Int×A0)}(x:FL prog w h zs es t):es.size=zs.length:=by rw[x.rel.length];simp
theorem Tok.fits{t:SetTable}{es:Array (Int×A0)}(h:Tok t es):t.fits es.size=true:=by
 unfold SetTable.fits SetTable.fill;have h1:=h.full;have h2:=h.size;rw[h.dum];simp[h2];omega
theorem Tok.odd{es:Array (Int×A0)}(h:Tok t es):t.gaveWay=false:=by
 unfold SetTable.gaveWay;rcases h.mask with e|e|e<;>rw[e]<;>rfl
theorem JX{d:Nat}{b:A1}{Q:Bool->A2->Prop}(e:IsTupleKey (bF prog w) s.heap ks b)(h:Q false s):A7 (A8 prog w) A (ofAClassStatement (d+1) (.ref b)) Q E s:=by
 have i:=e.typeIs;obtain⟨o,items,n,j,_,g,hi⟩:=e;unfold ofAClassStatement;refine zb (QR i ?_);dsimp only;refine zb (ze ?_);simp only[kQ,zr,ZO];refine zb (wpAny_seqItems j g ?_);dsimp only;refine zb ?_;rw[<-Array.forIn_toList];refine wpAny_forIn_list _ (λAS r s'=>r.1=Y/\s'=s/\∀v∈AS,carriedByValue v=true) _ ?_ ?_ _ _ ⟨rfl,rfl,hi.byValue⟩
 ·rintro v AS r s' ⟨c,rfl,f⟩;have m:ofAClassStatement d v=pure false:=by
   have:=f v zk;cases v with
   |ref a=>simp[carriedByValue]at this
   |_=>unfold ofAClassStatement;rfl
  rw[m];refine zb (ze ?_);simp only[zr,ZO];exact ze ⟨rfl,rfl,λu l=>f u (zo _ l)⟩
 ·rintro⟨p,q⟩ s' ⟨c,rfl,_⟩;simp only at c;subst c;exact ze h
theorem SZ{b:A1}{Q:Bool->A2->Prop}(e:IsTupleKey (bF prog w) s.heap ks b)(vs:Z A0)(l:∀v∈vs,∃c a,v=.ref c/\IsTupleKey (bF prog w) s.heap a c)(h:Q false s):A7 (A8 prog w) A (searchCouldBeSeen (.ref b) vs) Q E s:=by
 unfold searchCouldBeSeen;refine zb ?_;refine wpAny_forIn_list _ (λAS r s'=>r.1=Y/\s'=s/\∀v∈AS,∃c a,v=.ref c/\IsTupleKey (bF prog w) s.heap a c) _ ?_ ?_ _ _ ⟨rfl,rfl,l⟩
 ·rintro v AS r s' ⟨d,rfl,g⟩;obtain⟨c,a,rfl,i⟩:=g v zk;have f:∀v∈AS,∃c a,v=.ref c/\IsTupleKey (bF prog w) s'.heap a c:=λu j=>g u (zo _ j);dsimp only;split
  ·exact ze ⟨rfl,rfl,f⟩
  ·refine zb (wpAny_eqIsQuiet_tuple e ?_);simp only[kQ,zr,ZO];refine zb (wpAny_eqIsQuiet_tuple i ?_);simp only[kQ,zr,ZO];refine zb (JX e ?_);simp only[zr,ZO];refine zb (JX i ?_);simp only[zr,ZO];exact ze ⟨rfl,rfl,f⟩
 ·rintro⟨m,n⟩ s' ⟨d,rfl,_⟩;simp only at d;subst d;exact ze h
theorem LK{h:A6}:∀{zs:Z (Z AY×A1)} {l:Z (Int×A0)},AI (TE prog w h) zs l->∀{i:Nat} {e},l[i]?=U e->∃z,zs[i]?=U z/\TE prog w h z e
 |_,_,.nil,i,e,q=>by simp at q
 |_,_,.cons r _,0,e,q=>by simp at q;subst q;exact⟨_,rfl,r⟩
 |_,_,.cons _ t,i+1,e,q=>by
  rw[qr]at q;obtain⟨z,z1,z2⟩:=LK t q;exact⟨z,by rw[qr];exact z1,z2⟩
theorem yR{h:A6}:∀{zs:Z (Z AY×A1)} {l:Z (Int×A0)},AI (TE prog w h) zs l->∀{i:Nat} {z},zs[i]?=U z->∃e,l[i]?=U e/\TE prog w h z e
 |_,_,.nil,i,e,q=>by simp at q
 |_,_,.cons r _,0,e,q=>by simp at q;subst q;exact⟨_,rfl,r⟩
 |_,_,.cons _ t,i+1,e,q=>by
  rw[qr]at q;obtain⟨z,z1,z2⟩:=yR t q;exact⟨z,by rw[qr];exact z1,z2⟩
theorem DV(p:Nat->Prop):∀(k n:Nat),p (n+k)->∃d,d<=k/\p (n+d)/\∀m,n<=m->m<n+d->¬ p m
 |0,n,h=>⟨0,zg _,h,λm h1 h2=>absurd h2 (by omega)⟩
 |k+1,n,h=>by
  by_cases q:p n
  ·exact⟨0,Q1 _,q,λm h1 h2=>absurd h2 (by omega)⟩
  ·obtain⟨d,h1,h2,c⟩:=DV p k (n+1) (by rw[show n+1+k=n+(k+1) by omega];exact h);refine⟨d+1,by omega,by rw[show n+(d+1)=n+1+d by omega];exact h2,λm a b=>?_⟩;by_cases e:m=n
   ·rw[e];exact q
   ·exact c m (by omega) (by omega)
theorem EA{es:Array (Int×A0)}{b:A1}(hu:A.units<cLine)(X:s.heap.get? a=U o)(J:o.data=.set es ep t)(x:FL prog w s.heap zs es t)(hk:IsTupleKey (bF prog w) s.heap ks b){N:Nat}(hN:N<10*SetTable.turns t.mask)(h:(gO t.mask (bZ prog w ks) N).j∉t.place)(hp:∀m,m<N->(gO t.mask (bZ prog w ks) m).j∈t.place){Q:SetFound->A2->Prop}(h1:ks∈zs.map (·.1)->Q (.there Y) s)(h2:ks∉zs.map (·.1)->Q (.free (gO t.mask (bZ prog w ks) N).j false) s):
  ∀(k n fuel:Nat) (H:O SetTable.Probe),n+k=N->k<fuel->H.getD (t.probeStart (bZ prog w ks))=gO t.mask (bZ prog w ks) n->(∀m,m<n->∀i:Nat,t.place[i]?=U (gO t.mask (bZ prog w ks) m).j->∀z:Z AY×A1,zs[i]?=U z->z.1≠ks) →
   A7 (A8 prog w) A (setSearchFrom a (.ref b) (bZ prog w ks) true fuel H) Q E s:=by
 have get:∀{i:Nat} {e},es[i]?=U e->∃z,zs[i]?=U z/\TE prog w s.heap z e:=λ{i e} q=>LK x.rel (by rw[qV];exact q);have K:=x.tok.fits;intro k
 induction k using Nat.strongRecOn with
 |ind k ih=>
  intro n fuel H hn a3 a0 hb;cases fuel with
  |zero=>omega
  |succ fuel=>
  unfold setSearchFrom;refine zb (Q3 X J K ?_);dsimp only;rw[zC (by rw[x.tok.odd];decide)];refine zb (ze ?_);rw[a0];obtain⟨d,d1,d2,C⟩:=DV (λm=>m=N\/∃i:Nat,t.place[i]?=U (gO t.mask (bZ prog w ks) m).j/\∃e:Int×A0,es[i]?=U e/\e.1=bZ prog w ks) k n (.inl hn);have live:∀m,m<N->∃i:Nat,t.place[i]?=U (gO t.mask (bZ prog w ks) m).j/\∃e,es[i]?=U e:=λm B=>by
   obtain⟨i,hi,e⟩:=Array.getElem_of_mem (hp m B);have f:i<es.size:=by rw[<-x.tok.size];exact hi
   exact⟨i,by rw[qf hi,e],es[i],qf f⟩
  have pr:=Py x.tok.toTb (λi=>(es[i]?.map (·.1)).getD 0) (bZ prog w ks) d (10*SetTable.turns t.mask) n (by omega) λm a1 a2=>by
   have q:=C m a1 a2;obtain⟨i,e1,e,e2⟩:=live m (by omega);refine⟨i,e1,λq'=>q (.inr ⟨i,e1,e,e2,?_⟩)⟩;simpa[e2]using q'
  have W:t.probe (λi=>(es[i]?.map (·.1)).getD 0) (bZ prog w ks) (gO t.mask (bZ prog w ks) n)=SetTable.probe.go t (λi=>(es[i]?.map (·.1)).getD 0) (bZ prog w ks) (10*SetTable.turns t.mask) (gO t.mask (bZ prog w ks) n):=rfl;by_cases I:n+d=N
  ·have p1:=pr.1 (by rw[I];exact h);rw[I]at p1;show A7 _ _ (match t.probe (λi=>(es[i]?.map (·.1)).getD 0) (bZ prog w ks) (gO t.mask (bZ prog w ks) n)with|some met=>_|_=>_) _ _ _;rw[W,p1];dsimp only;refine ze (h2 λB=>?_);obtain⟨z,hz,D⟩:=List.mem_map.mp B;obtain⟨i,hi,e⟩:=j3 hz;obtain⟨p,e1,e2⟩:=yR x.rel (show zs[i]?=U z by rw[Zs hi,e]);rw[qV]at e1;have f:i<t.place.size:=by rw[x.tok.size,x.size];exact hi
   obtain⟨g,b1,b2,P⟩:=x.tok.reach i _ p (qf f) e1;rw[e2.1,D]at b2 P;have lt:g<N:=by
    rcases Nat.lt_trichotomy g N with q|q|q
    ·exact q
    ·exfalso;rw[<-q]at h;rw[b2]at h;exact h (Array.getElem_mem f)
    ·exact absurd (P N q) h
   by_cases q:g<n
   ·exact hb g q i (by rw[b2];exact qf f) z (by rw[Zs hi,e]) D
   ·exact C g (by omega) (by omega) (.inr ⟨i,by rw[b2];exact qf f,p,e1,by rw[e2.1,D]⟩)
  ·rcases d2 with q|⟨i,i1,e,i2,i3⟩
   ·exact absurd q I
   ·have p2:=pr.2 i i1 (by simpa[i2]using i3);show A7 _ _ (match t.probe (λi=>(es[i]?.map (·.1)).getD 0) (bZ prog w ks) (gO t.mask (bZ prog w ks) n)with|some met=>_|_=>_) _ _ _;rw[W,p2];dsimp only;obtain⟨z,z1,z2⟩:=get i2;have F:∀v∈((es.filter (·.1==bZ prog w ks)).toList.map (·.2)),∃c ls,v=.ref c/\IsTupleKey (bF prog w) s.heap ls c:=λv F=>by
     obtain⟨u,L,rfl⟩:=List.mem_map.mp F;rw[Array.toList_filter,List.mem_filter]at L;obtain⟨jj,hj,ej⟩:=j3 L.1;obtain⟨y,y1,y2⟩:=LK x.rel (show es.toList[jj]?=U u by rw[Zs hj,ej]);exact⟨y.2,y.1,by rw[y2.1],y2.2⟩
    have M:A7 (A8 prog w) A (do
      let U (_,y):=es[i]?|unsupported "internal:set-entry"
      let equal <-holding [y] (eqBool y (.ref b))
      let (es',_,t') <-setState a
      if(true&&equal)=true then return SetFound.there Y
      let U same:=t'.sameMemory t.moves t.mask|unsupported "set.changed-during-lookup:is-the-new-block-at-the-old-address"
      let still <-match (if same then t'.slot (gO t.mask (bZ prog w ks) (n+d)).j else .empty)with
       |.live i'=>match es'[i']? with
        |some (_,y')=>do pure (if <-isSame y' y then U i' else Y)
        |none=>pure Y
       |_=>pure Y
      match still with
      |none=>rule "set.search.anew"; setSearchFrom a (.ref b) (bZ prog w ks) true fuel Y
      |some i'=>if equal then return .there (U i')else setSearchFrom a (.ref b) (bZ prog w ks) true fuel (U (gO t.mask (bZ prog w ks) (n+d+1)))) Q E s:=by
     rw[i2,z2.1];dsimp only;refine zb (qA (wpAny_eqBool_tuple hu z2.2 hk ?_));refine zb (Q3 X J K ?_);dsimp only;by_cases l:z.1=ks
     ·rw[ZT l];simp only[Bool.and_self,qS];exact ze (h1 (List.mem_map.mpr ⟨z,QA z1,l⟩))
     ·rw[ZE l];simp only[ky,zr,ZO];have sm:t.sameMemory t.moves t.mask=U true:=by unfold SetTable.sameMemory;simp
      rw[sm];dsimp only;simp only[qS];rw[Aj x.tok.toTb i1];dsimp only;rw[i2,z2.1];dsimp only;refine zb (wpAny_isSame_ref_self (zb (ze ?_)));simp only[qS];refine ih (N-(n+d+1)) (by omega) (n+d+1) fuel _ (by omega) (by omega) S λm B i' G y y1=>?_;by_cases c1:m<n
      ·exact hb m c1 i' G y y1
      ·by_cases c2:m=n+d
       ·subst c2;have:i'=i:=by
         have s1:=Gp x.tok.rise G;have s2:=Gp x.tok.rise i1;omega
        subst this;rw[z1]at y1;cases y1;exact l
       ·have q:=C m (by omega) (by omega);intro e';obtain⟨p,e1,e2⟩:=yR x.rel y1;rw[qV]at e1;exact q (.inr ⟨i',G,p,e1,by rw[e2.1,e']⟩)
    split
    ·refine zb (SZ hk _ F ?_);simp only[zr,ZO];exact M
    ·exact M
def EO(ks:Z AY):Prop:=∃x:AJ,(Sum.inr x:AY)∈ks
theorem dQ{b:A1}{Q:Bool->A2->Prop}(c:IsTupleKey (bF prog w) s.heap ks b)(hx:EO ks)(h:Q false s):A7 (A8 prog w) A (hashByValue 8 (.ref b)) Q E s:=by
 have j:=c.typeIs;obtain⟨o,items,n,l,_,g,hi⟩:=c;unfold hashByValue;refine zb (wpAny_specialOf j F.slot_tuple_hash.lookup ?_);dsimp only;refine zb (wpAny_seqItems l g ?_);show A7 _ _ (forIn items _ _ >>= _) _ _ s;refine zb ?_;rw[<-Array.forIn_toList];refine wpAny_forIn_list _ (λAS r s'=>r.1=Y/\s'=s/\∃left,ItemsAre (bF prog w) left AS/\EO left) _ ?_ ?_ _ _ ⟨rfl,rfl,ks,hi,hx⟩
 ·rintro v AS r s' ⟨d,rfl,left,a,x,hx⟩;cases a with
  |@cons k _ m _ h1 f=>
   rcases bQ h1 with⟨i,t,rfl,rfl⟩|⟨y,t,rfl,rfl⟩
   ·have e:hashByValue 7 (.int i t)=pure true:=by unfold hashByValue;rfl
    rw[e];refine zb (ze ?_);simp only[kQ,zr,ZO];refine ze ⟨rfl,rfl,m,f,x,?_⟩;rcases List.mem_cons.mp hx with q|q
    ·cases q
    ·exact q
   ·have e:hashByValue 7 (.str y t)=pure false:=by unfold hashByValue;rfl
    rw[e];refine zb (ze ?_);simp only[kX,qS];exact ze (ze h)
 ·rintro⟨p,u⟩ s' ⟨d,rfl,left,a,x,hx⟩;cases a;cases hx
theorem Xn{es:Array (Int×A0)}(h:Tok t es):Tok { t with plain:=false } es:={ mask:=h.mask,dum:=h.dum,rise:=h.rise,bd:=h.bd,full:=h.full,size:=h.size,reach:=h.reach }
theorem SY{b:A1}{Q:Bool->A2->Prop}(hu:A.units<cLine)(hS:Tu prog w s.heap a zs)(hk:IsTupleKey (bF prog w) s.heap ks b)(hx:EO ks)(f0:zs.length+1<=70)(h:∀r h' X,Heap.SameBut a s.heap h'->Tu prog w h' a X->(∀z,z∈X↔z∈zs\/(z=(ks,b)/\ks∉zs.map (·.1)))->X.length<=zs.length+1->Q r { s with heap:=h' }):A7 (A8 prog w) A (setAddHashed a (.ref b) (bZ prog w ks)) Q E s:=by
 obtain⟨o,es,ep,t,n,a0,C,x⟩:=id hS;have f2:=x.size;have a1:=x.tok.fits;have b3:=x.load;have e5:o.cls≠.type "tuple":=by rw[a0.1];decide
 obtain⟨N,l,n2,n3⟩:=Te x.tok.toTb (bZ prog w ks);have f1:10*SetTable.turns t.mask<100000:=by
  unfold SetTable.turns;rcases x.tok.mask with e|e|e<;>rw[e]<;>decide
 unfold setAddHashed setAddHashedIn;refine qA (zb (Q3 n C a1 ?_));dsimp only;have hb:byScan (.ref b) es=false:=by unfold byScan;rfl
 rw[hb];simp only[zr,ZO];unfold setSearch;refine zb (EA hu n C x hk l n2 n3 (λB=>?_) (λB=>?_) N 0 100000 Y (by omega) (by omega) S λm B=>absurd B (kL _))
 ·dsimp only;exact ze (h _ s.heap zs (Heap.SameBut.refl a s.heap) hS (λz=>⟨.inl,λq=>q.elim id λq=>absurd B q.2⟩) (JO _))
 ·dsimp only;refine zb (Q3 n C a1 ?_);dsimp only;have hj:=Tf (mask:=t.mask) (bZ prog w ks) N;have e0:es.size+1<=t.mask:=by rcases x.tok.mask with e|e|e<;>rw[e]at b3 ⊢<;>omega
  obtain⟨pt,pl,pp,L⟩:=aE (x:=.ref b) x.tok l n2 n3 hj e0;generalize hP:t.put (gO t.mask (bZ prog w ks) N).j=P at pt pl pp L ⊢;obtain⟨t1,p⟩:=P;dsimp only at pt pl pp L ⊢;have e4:(SetTable.insertAt es p (bZ prog w ks,.ref b)).toList.Perm (es.toList++[(bZ prog w ks,.ref b)]):=by
   rw[yQ];refine(List.perm_middle).trans ?_;rw[List.take_append_drop];exact(List.perm_append_singleton _ _).symm
  have r0:AI (TE prog w s.heap) (zs++[(ks,b)]) (es.toList++[(bZ prog w ks,.ref b)]):=S8 x.rel (.cons ⟨rfl,hk⟩ .nil);obtain⟨H,q1,r1⟩:=Bw e4 r0;have a3:(H.map (·.1)).Nodup:=(q1.map (·.1)).nodup_iff.mpr (by
   rw[qB];exact List.nodup_append.mpr ⟨x.nd,by simp,λu d2 v hv=>by simp at hv;subst hv;exact λe=>B (e▸d2)⟩)
  have m1:∀z,z∈H↔z∈zs\/(z=(ks,b)/\ks∉zs.map (·.1)):=λz=>by
   rw[q1.mem_iff,yi,List.mem_singleton];exact⟨λq=>q.imp id λe=>⟨e,B⟩,λq=>q.imp id λe=>e.1⟩
  have l1:H.length=zs.length+1:=by rw[q1.length_eq];simp
  have y:(SetTable.insertAt es p (bZ prog w ks,Value.ref b)).size=es.size+1:=u6 _ _ _;have up:∀(hp:A6) (G:AE) (e1 e2:Array (Int×A0)) (l:Nat) (u1 f:SetTable),hp.get? a=U G->G.data=.set e1 l u1->(hp.update a (Obj.putSet e2 f)).get? a=U { G with data:=.set e2 (l+1) f }:=λhp G e1 e2 l u1 f g q=>by
   have:=QE (Obj.putSet e2 f) g (by rw[putSet_of e2 f q];rfl);rw[putSet_of e2 f q]at this;exact this
  have kp:∀{h':A6},Heap.SameBut a s.heap h'->∀c J,s.heap.get? c=U J->J.cls=.type "tuple" → h'.get? c=U J:=λsb c J e ec=>by
   rw[sb.2 c λq=>by subst q;rw[n]at e;cases e;exact e5 ec];exact e
  have c0:∀t2:SetTable,Tok t2 (SetTable.insertAt es p (bZ prog w ks,.ref b))->t2.led=t1.led->t2.plain=false->t2.mask=t1.mask->A7 (A8 prog w) A (do
    storeSet a (SetTable.insertAt es p (bZ prog w ks,.ref b)) t2
    if(!false&&t2.tooFull)=true then setRelay a (SetTable.grown (es.size+1))
    pure true) Q E s:=by
   intro t2 I l2 p2 m2;have g1:=up s.heap o es (SetTable.insertAt es p (bZ prog w ks,.ref b)) ep t t2 n C;refine zb (wpAny_storeSet_of n C ?_ (fits_of_scanBound (by rw[y];have:scanBound=4096:=rfl;omega)));have M:Heap.SameBut a s.heap (s.heap.update a (Obj.putSet (SetTable.insertAt es p (bZ prog w ks,.ref b)) t2)):=Heap.SameBut.update ..;have d0:t2.fill=es.size+1:=by unfold SetTable.fill;rw[I.dum,I.size,y];rfl
   have a5:w.params.followText "set-order"=false->t2.led=true:=λq=>l2.trans (pl.trans (x.led q));by_cases d:t2.tooFull=true
   ·rw[d];simp only[kX,Bool.and_self,qS];have hf:t2.fill*5>=t2.mask*3:=by unfold SetTable.tooFull at d;simpa using d
    rw[d0,m2,L]at hf;have hg:SetTable.grown (es.size+1)=(es.size+1)*4:=by unfold SetTable.grown;rw[zC (by omega)]
    have a2:(es.size=4/\t.mask=7)\/(es.size=18/\t.mask=31):=by
     rcases x.tok.mask with e|e|e<;>rw[e]at hf b3
     ·exact .inl ⟨by omega,e⟩
     ·exact .inr ⟨by omega,e⟩
     ·omega
    have F:(es.size=4->SetTable.sizeAbove (SetTable.grown (es.size+1))=32)/\(es.size=18->SetTable.sizeAbove (SetTable.grown (es.size+1))=128):=by
     rw[hg];exact⟨λe=>by rw[e];decide,λe=>by rw[e];decide⟩
    have K:SetTable.sizeAbove (SetTable.grown (es.size+1))-1=31/\es.size=4\/SetTable.sizeAbove (SetTable.grown (es.size+1))-1=127/\es.size=18:=by
     rcases a2 with⟨e,_⟩|⟨e,_⟩
     ·exact .inl ⟨by rw[F.1 e],e⟩
     ·exact .inr ⟨by rw[F.2 e],e⟩
    obtain⟨t3,D,e3,b0,k3,l3,p3,m3⟩:=Xm (t:=t2) (es:=SetTable.insertAt es p (bZ prog w ks,.ref b)) (wanted:=SetTable.grown (es.size+1)) (by rcases K with⟨e,_⟩|⟨e,_⟩<;>rw[e]<;>simp) (by rw[y];rcases K with⟨e,e'⟩|⟨e,e'⟩<;>rw[e,e']<;>decide);unfold setRelay;refine zb (zb (Q3 g1 S I.fits ?_));dsimp only;have d1:¬ (SetTable.sizeAbove (SetTable.grown (es.size+1))>AA):=by
     rcases a2 with⟨e,_⟩|⟨e,_⟩
     ·rw[F.1 e];decide
     ·rw[F.2 e];decide
    rw[zC d1];have W:(D.filterMap (λi=>(SetTable.insertAt es p (bZ prog w ks,Value.ref b))[i]?)).size=(SetTable.insertAt es p (bZ prog w ks,Value.ref b)).size:=by
     rw[<-qq,b0.length_eq,qq]
    rw[e3];refine zb ?_;show A7 _ _ (if((D.filterMap (λi=>(SetTable.insertAt es p (bZ prog w ks,Value.ref b))[i]?)).size !=(SetTable.insertAt es p (bZ prog w ks,Value.ref b)).size)=true then _ else pure (D.filterMap (λi=>(SetTable.insertAt es p (bZ prog w ks,Value.ref b))[i]?),t3)) _ _ _;rw[zC (by rw[W];simp)];refine ze ?_;dsimp only;refine wpAny_storeSet_of g1 S ?_ (fits_of_scanBound (by rw[W,y];have:scanBound=4096:=rfl;omega));have g2:=up _ _ (SetTable.insertAt es p (bZ prog w ks,.ref b)) (D.filterMap (λi=>(SetTable.insertAt es p (bZ prog w ks,Value.ref b))[i]?)) _ t2 t3 g1 rfl;have c8:Heap.SameBut a s.heap ((s.heap.update a (Obj.putSet (SetTable.insertAt es p (bZ prog w ks,.ref b)) t2)).update a (Obj.putSet (D.filterMap (λi=>(SetTable.insertAt es p (bZ prog w ks,Value.ref b))[i]?)) t3)):=M.trans (Heap.SameBut.update ..);obtain⟨d3,q2,r2⟩:=Bw b0 r1;refine ze (h _ _ d3 c8 ⟨_,_,_,t3,g2,a0,rfl,⟨PL (kp c8) r2,(q2.map (·.1)).nodup_iff.mpr a3,k3,?_,λq=>l3.trans (a5 q),λ_=>p3.trans p2⟩⟩ (λz=>by rw[q2.mem_iff];exact m1 z) (by rw[q2.length_eq];omega));rw[W,y,m3];rcases K with⟨e,e'⟩|⟨e,e'⟩<;>rw[e,e']<;>decide
   ·have d:t2.tooFull=false:=by simpa using d
    rw[d];simp only[ky,zr,ZO];refine zb (ze ?_);refine ze (h _ _ H M ⟨_,_,_,t2,g1,a0,rfl,⟨PL (kp M) r1,a3,I,?_,a5,λ_=>p2⟩⟩ m1 (by omega));unfold SetTable.tooFull at d;rw[d0]at d;rw[y];simpa using d
  split
  ·refine zb (dQ hk hx ?_);simp only[zr,ZO];exact c0 { t1 with plain:=false } (Xn pt) S S rfl
  ·rename_i hp;refine zb (ze ?_);simp only[qS];exact c0 t1 pt S (by simpa using hp) rfl
end S6
namespace S1
open L2
theorem Ti{x:A0}(G:Z A0->Prop)(kd:SortKind)(rk:Z A0->A0->Nat){Q:B9}(y:∀(f:B9) (i:Z A0->A2->Prop),(∀vs h' d tk,G vs->s.heap.objs.size<=h'.objs.size->(∀c o,s.heap.get? c=U o->h'.get? c=U o)->i vs { s with heap:=h',drawn:=d,toks:=tk })->A7 (A8 prog w) A.in1 (collect x) i f s)
  (u:∀vs,G vs->2<=vs.length->∀(f:B9) (b:A5) (s':A2),(∀c o,s.heap.get? c=U o->s'.heap.get? c=U o)->∀Q:SortKind->A2->Prop,Q kd s'->A7 (A8 prog w) b (keyKind' vs.toArray) Q f s') (v:∀vs,G vs->∀(b:A5) (s':A2),(∀c o,s.heap.get? c=U o->s'.heap.get? c=U o)->Yu prog w b s' kd (rk vs) (pairsOf vs)) (j:∀vs,G vs->vs.length<64)
  (h:∀vs,G vs->∀(l:A1) (h':A6) (d:Drawn) (tk n:Nat) (st:SortSt),(AM st).Perm (pairsOf vs)->Up (rk vs) (AM st) (pairsOf vs).size->s.heap.objs.size<=l->(∀c o,s.heap.get? c=U o->h'.get? c=U o)->h'.get? l=U (seqObj "list" ((AM st).map (·.2)) n)->Q (.ref l) { s with heap:=h',drawn:=d,toks:=tk }):
  A7 (A8 prog w) A (call (.builtin "sorted") [x]) Q E s:=by
 refine Calls.call_function_entry kind_sorted plain_sorted entry_sorted (args_sorted1 _) ?_;unfold Builtin.«sorted»;refine zb (m:=checkCount "sorted" 1 1 _) (ze (zb (y _ _ λvs h1 d tk a p ext=>?_)));have z:=j vs a;refine zb (wpAny_newList ?_);have g:(h1.push (seqObj "list" vs.toArray 0)).get? h1.objs.size=U (seqObj "list" vs.toArray 0):=zv _ rfl;have old:∀s':A2,F7 h1.objs.size { s with heap:=h1.push (seqObj "list" vs.toArray 0),drawn:=d,toks:=tk } s'->∀c o,s.heap.get? c=U o->s'.heap.get? c=U o:=λs' q c o e=>
  q c o (Zl (zt (ext c o e))) (zd _ (ext c o e))
 refine zb (qA (kf slot_list_sort ⟨_,g,rfl⟩ entry_list_sort (Id g (λq s' o=>u vs a q _ _ s' (old s' o)) (λs' o=>v vs a _ s' (old s' o)) (j vs a) λst q1 q2=>⟨_,rfl,ze ⟨_,rfl,?_⟩⟩) (args_list_sort _)));obtain⟨n,t⟩:=sortedHeap_at (out:=(AM st).map (·.2)) g;refine h vs a h1.objs.size _ d tk n st q1 q2 p (λc o e=>?_) t;have hb:=zt (ext c o e);rw[sortedHeap_old (Zl hb) (by rw[qv];exact Qb hb)];exact zd _ (ext c o e)
end S1
namespace P1
open L2 S6
section
theorem Xo{d:Drawn}(I:AU X AN σ H s):AU X AN σ H { s with drawn:=d }:=⟨I.ok,I.os,I.bare,I.base,I.loc,I.cell,I.free,I.jy,I.pin,I.hok,I.len⟩
variable{fs:Ev->O AZ}{p:Pos}
end
section
variable{xs ts:AZ}
end
section
variable{xs:AZ}
variable{fs:Ev->O AZ}{p':Pos}
end
end P1
namespace P1
open L2 S1 S6
def Ts(prog:A3)(w:A4)(h:A6)(a:A1)(zs:Z (Z AY×A1)):Prop:=∃o es ep t,h.get? a=U o/\o.ExactSet/\o.data=.set es ep t/\es.toList=zs.map (λz=>(bZ prog w z.1,(.ref z.2:A0)))/\t.fits es.size=true/\(w.params.followText "set-order"=false->t.led=true)/\(0<es.size->t.plain=false)
theorem PN{prog:A3}{w:A4}{h:A6}:∀{zs:Z (Z AY×A1)} {l:Z (Int×A0)},AI (TE prog w h) zs l->l=zs.map (λz=>(bZ prog w z.1,(.ref z.2:A0)))
 |_,_,.nil=>rfl
 |_,_,.cons r t=>by rw[zw,<-PN t,r.1]
theorem Ts.of(x:Tu prog w h a zs):Ts prog w h a zs:=
 let ⟨o,es,ep,t,e,r,d,q⟩:=x;⟨o,es,ep,t,e,r,d,PN q.rel,q.tok.fits,q.led,q.non⟩
theorem Ts.keep{h':A6}(x:Ts prog w h a zs)(k:∀o,h.get? a=U o->h'.get? a=U o):Ts prog w h' a zs:=
 let ⟨o,es,ep,t,e,r⟩:=x;⟨o,es,ep,t,k o e,r⟩
def ET(X:Cx)(a:A1)(zs:Z (Z AY×A1)):HO:=.ext λh=>Ts X.prog X.w h a zs
theorem e7(X:Cx)(h:Ks ks us):ItemsAre (bF X.prog X.w) ks us:=by
 induction h with
 |nil=>exact .nil
 |cons r _ a=>exact .cons r a
theorem OM(X:Cx)(h:ItemsAre (bF X.prog X.w) ks us):Ks ks us:=by
 induction h with
 |nil=>exact .nil
 |cons r _ a=>exact .cons r a
theorem PX(X:Cx){v:A0}(q:jz h ks v):∃b,v=.ref b/\IsTupleKey (bF X.prog X.w) h ks b:=by
 obtain⟨a,o,AQ,n,e,g,c,d,p⟩:=q;exact⟨a,e,o,AQ.toArray,n,g,c,d,by simpa using e7 X p⟩
theorem PM(X:Cx){b:A1}(q:IsTupleKey (bF X.prog X.w) h ks b):jz h ks (.ref b):=by
 obtain⟨o,AQ,n,g,c,d,p⟩:=q;exact⟨b,o,AQ.toList,n,rfl,g,c,by simpa using d,OM X p⟩
def fA(X:Cx):Z V->Hp->VK->Prop:=λxs H Q=>∃v b ds cL,xs=[v]/\bh X.K H b v/\wK b=U ds/\rY ds=U cL/\cL.length<=64/\(∀k∈cL,EO k) ∧
 ∀a zs H',AV H H'->H' a=U (ET X a zs)->(∀k,k∈zs.map (·.1)↔k∈cL)->(zs.map (·.1)).Nodup->(∀z∈zs,AW X.K H' (BF z.1) (.ref z.2))->Q (.ref a) H'
def CU(X:Cx)(S:A1)(AQ:Z A0)(h:A6)(ys:Z (Z AY)):Prop:=∃zs,zs.map (·.1)=ys/\Tu X.prog X.w h S zs/\∀z∈zs,(.ref z.2:A0)∈AQ
theorem yU{h:A6}:∀{cL:Z (Z AY)} {vs:Z A0},AI (jz h) cL vs->∀{i:Nat} {v:A0},vs[i]?=U v->∃k,cL[i]?=U k/\jz h k v
 |_,_,.nil,i,v,q=>by simp at q
 |_,_,.cons r _,0,v,q=>by simp at q;subst q;exact⟨_,rfl,r⟩
 |_,_,.cons _ t,i+1,v,q=>by
  rw[qr]at q;obtain⟨z,z1,z2⟩:=yU t q;exact⟨z,by rw[qr];exact z1,z2⟩
theorem Qa{h0:A6}{S:A1}(hs:AI (jz h0) cL AQ)(hl:cL.length<=64)(hx:∀k∈cL,EO k)(x:h0.objs.size=S):E8 X.prog X.w S [S+1] (λh zs=>(∀b o,h0.get? b=U o->h.get? b=U o)/\CU X S AQ h zs) (λi v=>AQ.toArray[i]?=U v) (λi=>cL.getD i []) AQ.length where
 keep:=λh h' ys t k=>by
  obtain⟨p,zs,e,t,m⟩:=t;have B:∀b o,(b=S\/b<S)->h.get? b=U o->h'.get? b=U o:=λb o hb e=>k b o (by
   simp only[Q2,js,or_false];rcases hb with rfl|hb
   ·exact Zl (qk _)
   ·exact Zl (Qb hb)) e
  have old:∀b o,h0.get? b=U o->h'.get? b=U o:=λb o e=>B b o (.inr (by rw[<-x];exact zt e)) (p b o e);refine⟨old,zs,e,?_,m⟩;obtain⟨o,es,ep,M,g,r,d,q⟩:=t;refine⟨o,es,ep,M,B S o (.inl rfl) g,r,d,⟨?_,q.nd,q.tok,q.load,q.led,q.non⟩⟩;have I:∀{zs:Z (Z AY×A1)} {l:Z (Int×A0)},AI (TE X.prog X.w h) zs l->(∀z∈zs,(.ref z.2:A0)∈AQ)->AI (TE X.prog X.w h') zs l:=by
   intro zs l r
   induction r with
   |nil=>intro _;exact .nil
   |cons q _ K=>
    intro m;refine .cons ⟨q.1,Vv q.2 λo e c=>?_⟩ (K λz j=>m z (zo _ j));obtain⟨i,hi,J⟩:=j3 (m _ (zk ..));obtain⟨kk,_,tv⟩:=yU hs (show AQ[i]?=U _ by rw[Zs hi,J]);obtain⟨b,eb,⟨ob,_,_,gb,_⟩⟩:=PX X tv;cases eb;exact B _ o (.inr (by rw[<-x];exact zt gb)) e
  exact I q.rel m
 add:=λA E s i v ys Q C hi n N j h=>by
  obtain⟨p,zs,e,t,m⟩:=N;have n:AQ[i]?=U v:=by simpa using n
  obtain⟨ks,e1,tv⟩:=yU hs n;have W:=tv.keep p;obtain⟨b,rfl,G⟩:=PX X W;have L:cL.getD i []=ks:=by simp[List.getD,e1]
  have a1:AQ.length=cL.length:=hs.length.symm;have a0:zs.length=ys.length:=by rw[<-e,zi]
  unfold setAdd;refine qA (zb (wpAny_pyHash_tuple C G ?_));refine SY (s:={ s with toks:=s.toks+(ks.length+1) }) C t G (hx ks (QA e1)) (by omega) λr h' F D P f l=>?_;refine h r h' _ (F.map (·.1)) D ⟨λc o g=>?_,F,rfl,P,λz j=>?_⟩ (λz=>?_) (by rw[zi];omega) (Nat.le_add_right _ _)
  ·rw[D.2 c λq=>by subst q;have:=zt g;rw[x]at this;exact kc _ this];exact p c o g
  ·rcases(f z).mp j with q|⟨q,_⟩
   ·exact m z q
   ·subst q;exact QA n
  ·rw[L,<-e,yo,yo];constructor
   ·rintro⟨y,a,rfl⟩;rcases(f y).mp a with q|⟨q,_⟩
    ·exact .inl ⟨y,q,rfl⟩
    ·exact .inr (congrArg Prod.fst q)
   ·rintro(⟨y,a,u⟩|H)
    ·exact⟨y,(f y).mpr (.inl a),u⟩
    ·rw[H];by_cases q:ks∈zs.map (·.1)
     ·obtain⟨y,a,u⟩:=List.mem_map.mp q;exact⟨y,(f y).mpr (.inl a),u⟩
     ·exact⟨(ks,b),(f _).mpr (.inr ⟨rfl,q⟩),rfl⟩
theorem WS(hc:X.calm=true)(hu:X.A.units+100<cLine):fK X (.type "set") (fA X):=by
 intro AN s σ H xs us Q I r h;obtain⟨v,b,ds,cL,rfl,rb,ed,ek,hl,hx,q⟩:=h;obtain⟨u,rfl,ru⟩:=BC r;obtain⟨p,vs,rfl,sq,C⟩:=Lq rb ed;have c0:=Ag ek;subst c0;cases ru;have hh:=I.ok.hd hc;have a5:∀(h':A6) (tk:Nat) (ys:Z (Z AY)) (AQ:Z A0),AX vs AQ->((∀b o,s.heap.get? b=U o->h'.get? b=U o)/\CU X s.heap.objs.size AQ h' ys)->(∀z,z∈ys↔∃j,j<AQ.length/\z=cL.getD j [])->(∀b F,s.heap.get? b=U F->h'.get? b=U F)->EP X AN σ Q (.ref s.heap.objs.size) { s with heap:=h',toks:=tk }:=by
  intro h' tk ys AQ J cu E k;obtain⟨_,zs,e,t,m⟩:=cu;have a2:=I.hok.fresh (zg s.heap.objs.size);have b3:AQ.length=cL.length:=by rw[<-J.length,C.length,zi]
  have tv:=pK I C J;refine⟨.ref s.heap.objs.size,_,I.laid (t':=tk) (a:=s.heap.objs.size) (o:=ET X s.heap.objs.size zs) k (zg _) ?_,rfl,q _ zs _ (bI a2) aU (λz=>?_) ?_ λz l=>?_⟩
  ·obtain⟨o,es,ep,t',M,_⟩:=id t;exact⟨Ts.of t,⟨o,M⟩,λh1 h2 t1 k1=>Ts.keep t1 k1⟩
  ·rw[e,E z];constructor
   ·rintro⟨j,f,rfl⟩;rw[b3]at f;simp[List.getD,f]
   ·intro l;obtain⟨j,f,e⟩:=j3 l;exact⟨j,by rw[b3];exact f,by simp[List.getD,f,e]⟩
  ·obtain⟨o,es,ep,t',M,_,_,x⟩:=t;exact x.nd
  ·obtain⟨o,es,ep,t',M,_,_,x⟩:=t;obtain⟨i,hi,ei⟩:=j3 l;obtain⟨ee,_,te⟩:=yR x.rel (show zs[i]?=U z by rw[Zs hi,ei]);have tz:=PM X te.2;have a3:=m z l;obtain⟨j,f,ej⟩:=j3 a3;obtain⟨kk,_,a1⟩:=yU tv (show AQ[j]?=U (.ref z.2) by rw[Zs f,ej]);have ek:kk=z.1:=(a1.keep k).inj tz;obtain⟨w1,L,r2⟩:=Ah I C J (Yv:=[kk]) (out:=[.ref z.2]) (.cons a1 .nil) (λu hu=>by cases List.mem_singleton.mp hu;exact a3);cases L with
   |@cons w0 _ _ _ r0 L=>
    cases L;simp only[zw,kC,aK]at r2;obtain⟨v0,B,ev,N,_⟩:=r2;simp only[kP]at ev;rw[<-ev.1]at N;have hw:w0=V.ref z.2:=by
     have q1:=N;simp only[BF,AW]at q1;obtain⟨a0,ws,e0,_⟩:=q1;subst e0;cases r0;rfl
    rw[<-ek,<-hw];exact N.kp (.of (bI a2))
 have b0:∀h':A6,h'.get? s.heap.objs.size=U (BO X.w)->∀AQ:Z A0,CU X s.heap.objs.size AQ h' []:=λh' e AQ=>
  ⟨[],rfl,⟨_,#[],0,_,e,⟨rfl,rfl,rfl⟩,rfl,⟨.nil,j0,{ mask:=.inl rfl,dum:=rfl,rise:=λi j _ f=>absurd f (kL _),bd:=λj f=>by simp[SetTable.fresh]at f,full:=Q1 _,size:=rfl,reach:=λi j e h1=>by simp[SetTable.fresh]at h1 },(show 0*5<7*3 by decide),λq=>by simp[SetTable.fresh,q],λq=>absurd q (kc _)⟩⟩,λz l=>by cases l⟩
 rcases sq with sq|sq
 ·obtain⟨AQ,B,pl,l⟩:=I.list sq;obtain⟨o,g,c,n,d⟩:=pl.isList;refine Z9 (by omega) (T :="list") hh g c (.inl S) (P:=λi v=>AQ.toArray[i]?=U v) (n:=AQ.length) (λG E' Q' h0 D y W=>?_) (Qa (pK I C B) hl hx S) (λh' e k=>⟨k,b0 h' e AQ⟩) λh' tk zs tx E k=>a5 h' tk zs AQ B tx E k;refine yY (items:=AQ.toArray) ⟨o,y _ _ g,c,n,d⟩ ?_;have K:p≠h0.objs.size:=Zl (zt (y _ _ g));refine W _ (λi h=>h.IsListIter h0.objs.size p i/\h.IsList p AQ.toArray) (λG D=>by have:=Walks.list (prog:=X.prog) (w:=X.w) D h0.objs.size p K AQ.toArray;rw[zI]at this;exact this) ⟨⟨_,zv _ rfl,rfl,rfl⟩,⟨o,zd _ (y _ _ g),c,n,d⟩⟩ λb F e=>zd _ e
 ·obtain⟨AQ,B,pl,l⟩:=I.tuple sq;obtain⟨o,g,c,n,d⟩:=id pl;refine Z9 (by omega) (T :="tuple") hh g c (.inr S) (P:=λi v=>AQ.toArray[i]?=U v) (n:=AQ.length) (λG E' Q' h0 D y W=>?_) (Qa (pK I C B) hl hx S) (λh' e k=>⟨k,b0 h' e AQ⟩) λh' tk zs tx E k=>a5 h' tk zs AQ B tx E k;refine wpAny_pyIter_tuple (items:=AQ.toArray) ⟨o,y _ _ g,c,n,d⟩ ?_;have K:p≠h0.objs.size:=Zl (zt (y _ _ g));refine W _ (λi h=>h.IsTupleIter h0.objs.size p i/\h.IsTuple p AQ.toArray) (λG D=>by have:=Walks.tuple (prog:=X.prog) (w:=X.w) D h0.objs.size p K AQ.toArray;rw[zI]at this;exact this) ⟨⟨_,zv _ rfl,rfl,rfl⟩,⟨o,zd _ (y _ _ g),c,n,d⟩⟩ λb F e=>zd _ e
theorem hJ(I:AU X AN σ H s)(h:H a=U (ET X a zs)):Ts X.prog X.w s.heap a zs:=(I.hok _ _ h).1
def f7(X:Cx):Z V->Hp->VK->Prop:=λxs H Q=>∃a zs,xs=[.ref a]/\H a=U (ET X a zs)/\CQ (zs.map (·.1))=true/\(∀z∈zs,AW X.K H (BF z.1) (.ref z.2))/\∀l H' us,AV H H'->H l=Y->H' l=U (.lst us)->aK X.K H' ((jZ (zs.map (·.1))).map BF) us->Q (.ref l) H'
theorem SH(hc:X.calm=true):fK X (.builtin "sorted") (f7 X):=by
 intro AN s σ H xs us Q I r h;obtain⟨a,zs,rfl,N,hs,A,q⟩:=h;obtain⟨u,rfl,ru⟩:=BC r;cases ru;simp only[CQ,Zz,qi,qo,Qr]at hs;obtain⟨G,a0,C⟩:=hs;rw[zi]at G;obtain⟨o,es,ep,t,ho,e0,hd,D,ft,c0,a3⟩:=hJ I N;have f:es.size=zs.length:=by rw[<-qq,D,zi]
 have P:Wk X.w s.heap a es ep t:=⟨⟨o,ho,e0.1,hd⟩,ft,c0,λq=>a3 (by omega)⟩;have W:aK X.K H ((zs.map (·.1)).map BF) (zs.map λz=>(V.ref z.2))/\AX (zs.map λz=>(V.ref z.2)) (zs.map λz=>(.ref z.2:A0)):=by
  clear D N q G a0 C f P a3
  induction zs with
  |nil=>exact⟨aK.nil,.nil⟩
  |cons z zs p=>
   obtain⟨i1,i2⟩:=p λy hy=>A y (zo _ hy);exact⟨aK.cons (A z (zk ..)) i1,.cons S i2⟩
 have b3:=pK I W.1 W.2;have tz:∀z∈zs,jz s.heap z.1 (.ref z.2):=λz j=>by
  have:=pK I (cL:=[z.1]) (vs:=[V.ref z.2]) (AQ:=[.ref z.2]) (aK.cons (A z j) aK.nil) (.cons S .nil);cases this with
  |cons q' _=>exact q'
 refine Ti (λvs=>∃ys:Z (Z AY×A1),ys.Perm zs/\vs=ys.map λz=>(.ref z.2:A0)) (tuples' true) (λvs v=>CB (vs.map λu=>BE (zs.map (·.1)) (zs.map λz=>(.ref z.2:A0)) u) (BE (vs.map λu=>BE (zs.map (·.1)) (zs.map λz=>(.ref z.2:A0)) u) vs v))
  (λE' Q' M=>Px (by exact I.ok.hd hc) P (by rw[f,sizeLine_eq];omega) λx h1 d tk hp d3 ext=>M x h1 d tk ?_ d3 ext) ?_ ?_ ?_ ?_
 ·rw[D,QU]at hp;have:∀{x vs:Z A0},x.Perm vs->∀zs:Z (Z AY×A1),vs=zs.map (λz=>(.ref z.2:A0))->∃ys:Z (Z AY×A1),ys.Perm zs/\x=ys.map λz=>(.ref z.2:A0):=by
   intro x vs hp
   induction hp with
   |nil=>intro zs e;cases zs with|nil=>exact⟨[],.refl _,rfl⟩|cons _ _=>cases e
   |cons y _ p=>
    intro zs e;cases zs with
    |nil=>cases e
    |cons z zs=>
     rw[zw]at e;injection e with e1 e2;obtain⟨ys,p1,p2⟩:=p zs e2;exact⟨z::ys,p1.cons _,by rw[zw,e1,p2]⟩
   |swap y1 y2 l=>
    intro zs e
    match zs,e with
    |z1::z2::zs,e=>
     simp only[zw,kP]at e;exact⟨z2::z1::zs,List.Perm.swap _ _ _,by simp only[zw];rw[e.1,e.2.1,e.2.2]⟩
    |[_],e=>simp at e
    |[],e=>cases e
   |trans _ _ d2 d0=>
    intro zs e;obtain⟨ys,p1,p2⟩:=d0 zs e;obtain⟨us,q1,q2⟩:=d2 ys p2;exact⟨us,q1.trans p1,q2⟩
  exact this hp zs rfl
 all_goals
  intro vs hG;obtain⟨ys,py,rfl⟩:=hG;have hm:∀v∈(ys.map λz=>(.ref z.2:A0)),v∈(zs.map λz=>(.ref z.2:A0)):=λv L=>((py.map _).mem_iff).mp L;have a5:∀v∈(ys.map λz=>(.ref z.2:A0)),jz s.heap (BE (zs.map (·.1)) (zs.map λz=>(.ref z.2:A0)) v) v:=λv L=>(lD b3 v (hm v L)).2;have tv:=xT a5;have a1:(ys.map λz=>(.ref z.2:A0)).map (λu=>BE (zs.map (·.1)) (zs.map λz=>(.ref z.2:A0)) u)=ys.map (·.1):=by
   rw[QU];refine JY λz f=>?_;have j:=py.mem_iff.mp f;exact(a5 (.ref z.2) (List.mem_map.mpr ⟨z,f,rfl⟩)).inj (tz z j)
  have mk:∀k∈(ys.map λz=>(.ref z.2:A0)).map (λu=>BE (zs.map (·.1)) (zs.map λz=>(.ref z.2:A0)) u),k∈zs.map (·.1):=λk b=>by
   rw[a1]at b;exact((py.map _).mem_iff).mp b
 ·intro h2 E' A' s' k Q' M;exact JQ (Paired.imp' (λ_ _ z=>jz.keep z k) tv) (λk b=>by have:=a0 k (mk k b);cases k with|nil=>cases this|cons _ _=>exact List.cons_ne_nil _ _) (λk b l i=>Gj (C k (mk k b) l (mk l i))) (by omega) M
 ·intro A' s' k;exact Pg (Paired.imp' (λ_ _ z=>jz.keep z k) tv) λk b l i=>Gj (C k (mk k b) l (mk l i))
 ·rw[zi,py.length_eq];exact G
 ·intro l h' d tk n st hp up i ext hL;have m:=Ph tv hp up;have mem:∀u∈((AM st).map (·.2)).toList,u∈(ys.map λz=>(.ref z.2:A0)):=λu B=>by
   rw[Array.toList_map]at B;obtain⟨pr,b0,rfl⟩:=List.mem_map.mp B;have d1:pr∈(ys.map λz=>(.ref z.2:A0)).zip (ys.map λz=>(.ref z.2:A0)):=by rw[<-pairsOf_toList];exact(Array.perm_iff_toList_perm.mp hp).mem_iff.mp b0
   have:=mem_zip_self d1;rw[<-this.1];exact this.2
  have E:H l=Y:=I.hok.fresh i;have back:∀{F:Z (Z AY)} {m:Z A0},AI (jz s.heap) F m->(∀u∈m,u∈(ys.map λz=>(.ref z.2:A0)))->∃c,AX c m/\aK X.K H (F.map BF) c:=by
   intro F m pr
   induction pr with
   |nil=>intro _;exact⟨[],.nil,aK.nil⟩
   |cons q0 _ p=>
    intro a2;obtain⟨c,J,g⟩:=p λu B=>a2 u (zo _ B);obtain⟨z,f,ez⟩:=List.mem_map.mp (a2 _ (zk ..));subst ez;have j:=py.mem_iff.mp f;have ek:=q0.inj (tz z j);refine⟨.ref z.2::c,.cons S J,?_⟩;rw[zw,ek];exact aK.cons (A z j) g
  obtain⟨c,J,g⟩:=back m mem;rw[a1]at g;have es:jZ (ys.map (·.1))=jZ (zs.map (·.1)):=qZ ((mC _).trans (py.map _)) (uZ _);rw[es]at g;have c8:c.length=zs.length:=by rw[g.length,zi,(mC _).length_eq,zi]
  refine⟨.ref l,_,Xo (d:=d) (I.laid (t':=tk) (a:=l) (o:=.lst c) ext i ⟨by rw[c8,sizeLine_eq];omega,_,n,J,?_⟩),rfl,q _ _ c (bI E) E aU (g.kp (.of (bI E)))⟩;rw[hL]
def JZ{α:Type}[DecidableEq α]:Z α->Z α
 |[]=>[]
 |y::ys=>if y∈ys then JZ ys else y::JZ ys
section
variable [DecidableEq α]
theorem rZ:∀{ys:Z α} {z:α},z∈JZ ys↔z∈ys
 |[],z=>by simp[JZ]
 |y::ys,z=>by
  unfold JZ;split
  ·rename_i h;rw[rZ,Q2];exact⟨.inr,λq=>q.elim (λe=>e▸h) id⟩
  ·rw[Q2,Q2,rZ]
theorem LQ:∀(ys:Z α),(JZ ys).Nodup
 |[]=>j0
 |y::ys=>by
  unfold JZ;split
  ·exact LQ ys
  ·rename_i h;exact List.nodup_cons.mpr ⟨λq=>h (rZ.mp q),LQ ys⟩
theorem Ef:∀(ys:Z α),(JZ ys).length<=ys.length
 |[]=>zg _
 |y::ys=>by
  have:=Ef ys;unfold JZ;split<;>simp<;>omega
theorem LR{β:Type}[DecidableEq β]{f:α->β}(hi:∀a b,f a=f b->a=b):∀(ys:Z α),JZ (ys.map f)=(JZ ys).map f
 |[]=>rfl
 |y::ys=>by
  have c:f y∈ys.map f↔y∈ys:=⟨λq=>by obtain⟨z,d,e⟩:=List.mem_map.mp q;rw[<-hi _ _ e];exact d,λq=>List.mem_map.mpr ⟨y,q,rfl⟩⟩;rw[zw];unfold JZ;by_cases q:y∈ys
  ·rw[zh q,zh (c.mpr q),LR hi ys]
  ·rw[zC q,zC λh=>q (c.mp h),zw,LR hi ys]
end
section
def Qc(ks:Z AY):Bool:=ks.any λk=>k.isRight
theorem XZ(h:Qc ks=true):EO ks:=by
 unfold Qc at h;rw[QP]at h;obtain⟨k,a,e⟩:=h;cases k with
 |inl i=>cases e
 |inr x=>exact⟨x,a⟩
def tU(X:Cx)(f:Ev->O (Z (Z AY))):L2.TE:=λσ H Q=>∃H0 ρ cL,bM X.K H0 H σ ρ/\f ρ=U cL/\∀a zs H',AV H H'->H' a=U (ET X a zs)->(∀k,k∈zs.map (·.1)↔k∈cL)->(zs.map (·.1)).Nodup->(∀z∈zs,AW X.K H' (BF z.1) (.ref z.2))->Q (.ref a) H'
def eC(X:Cx)(e:Expr)(f:Ev->O (Z (Z AY))):Prop:=PE X e (tU X f)
structure Mc (X:Cx) (e:Expr) (f:Ev->Option (List (List AY))):Prop where
 run:eC X e f
def LH(b:Bx):O (Z (Z AY)):=(wK b).bind λds=>(rY ds).bind λcL=>if cL.length<=64/\cL.all Qc=true then U cL else Y
def Tj(f:Ev->O Bx):Ev->O (Z (Z AY)):=λρ=>(f ρ).bind LH
def Gs(fs:Ev->O (Z (Z AY))):Ev->O Bx:=λρ=>(fs ρ).bind λcL=>if CQ cL=true then U (.o ((jZ (JZ cL)).map BF))else Y
variable{fs:Ev->O (Z (Z AY))}{p:Pos}
theorem Vw(s:X.calm=true)(w:X.A.units+100<cLine)(o:Gl X "set")(y:X.mg "set"=Y)(j:QV X e f)(he:A9 (e::[]) X.env=(false,eval e X.env)::A9 [] X.env:=by rfl):Mc X (.Call (.Name "set" p) [e] [] pos) (Tj f):=by
 refine⟨Ii (Jw (T :="set") (WS s w) o y S (bw j.run d7 he) (he:=he)) λσ H Q h=>?_⟩;obtain⟨H0,ρ,cL,E,c,q⟩:=h;obtain⟨b,eb,c⟩:=AT c;obtain⟨ds,t,c⟩:=AT c;obtain⟨B,ek,c⟩:=AT c;split at c
 ·rename_i d;cases c;rw[qo]at d;exact⟨H0,ρ,b,E,eb,λv H1 g z n=>⟨v,b,ds,cL,rfl,n,t,ek,d.1,λk l=>XZ (d.2 k l),λa zs H2 i e2 m u x=>q a zs H2 (g.trans i) e2 m u x⟩⟩
 ·cases c
theorem UA{Yv:Z (Z AY)}(h:CQ cL=true)(d:Yv.length<=cL.length)(b:∀k∈Yv,k∈cL):CQ Yv=true:=by
 simp only[CQ,Zz,qi,qo,Qr]at h ⊢;exact⟨by omega,λk a=>h.2.1 k (b k a),λk a l c=>h.2.2 k (b k a) l (b l c)⟩
theorem Vx(v:X.calm=true)(u:Gl X "sorted")(y:X.mg "sorted"=Y)(n:Mc X e fs)(he:A9 (e::[]) X.env=(false,eval e X.env)::A9 [] X.env:=by rfl):QV X (.Call (.Name "sorted" p) [e] [] pos) (Gs fs):=by
 refine⟨Ii (gq (id :="sorted") (SH v) u y S (bw n.run d7 he) (he:=he)) λσ H Q h=>?_⟩;obtain⟨H0,ρ,b,E,c,q⟩:=h;obtain⟨cL,x,c⟩:=AT c;split at c
 ·rename_i t;cases c;refine⟨H0,ρ,cL,E,x,λa zs H1 d e1 m g s=>⟨a,zs,rfl,e1,?_,s,λl H2 us i o e2 f=>?_⟩⟩
  ·have e3:=(Eb g (LQ cL) λz=>by rw[m z,rZ]).length_eq;have:=Ef cL;exact UA t (by omega) λk j=>(m k).mp j
  ·have w:=Eb g (LQ cL) λz=>by rw[m z,rZ]
   have es:jZ (zs.map (·.1))=jZ (JZ cL):=qZ ((mC _).trans w) (uZ _);rw[es]at f;exact q _ H2 (d.trans i) (λa ea=>by cases ea;exact d.free o) ⟨l,us,rfl,e2,f⟩
 ·cases c
end
end P1
namespace P1
open L2
def Gu:Bx->Bx->O Bx
 |.z (.str k),.z d=>U (.z (.tup [.str k,d]))
 |_,_=>Y
theorem Tn{a:Bx}{y:Dt}(h:Gu a b=U (.z y)):∃k d,a=.z (.str k)/\b=.z d/\y=.tup [.str k,d]:=by
 unfold Gu at h;split at h
 ·cases h;exact⟨_,_,rfl,rfl,rfl⟩
 ·cases h
def HU(AO:Z (AY×Dt)):Dt->Z (AY×Dt)
 |.tup [.str k,d]=>Lh AO (.inr k) d
 |_=>AO
def dictOf(out:Z Dt):Z (AY×Dt):=out.foldl HU []
theorem Qd(out:Z Dt)(k:AJ)(d:Dt):dictOf (out++[.tup [.str k,d]])=Lh (dictOf out) (.inr k) d:=by
 unfold dictOf;rw[List.foldl_append];rfl
theorem Xp{AO:Z (AY×V)}{k:AY}{r:A0}(I:L2.AU X AN σ H s)(e:H a=U (.dK AO))(l:AO.length<AA)(g:As (kV k) u)(j:As v r)(h:∀s',L2.AU X AN σ (B0 H a (.dK (BD AO k v))) s'->Q () s'):
  A7 (A8 X.prog X.w) A (dictSet a u r) Q E s:=by
 obtain⟨z,f,vs,c,m⟩:=Y6 I.hok e;have n:vs.length<=AA:=by rw[<-c.length];exact z
 have d:(BD AO k v).length<=AA:=by have:=lY AO k v;omega
 refine wpAny_dictSet_pairs (hsz:=n) (Fb g) m λh' b hs=>h _ ?_;have i:∃q,h'.get? a=U q:=let ⟨q,_,_,hq,_⟩:=b;⟨q,hq⟩;exact Dw I (by rw[e];exact True.intro) hs i (R3 d f (c.put k j) b)
section
variable{kx vx:Expr}{xs ts:AZ}
def EL(K:B1)(_:A1)(H:Hp)(a:Z Dt)(o:HO):Prop:=∃us,o=.dK us/\fL K H (dictOf a) us/\us.length<=a.length
theorem EL.kp{K:B1}{D:A1}{H H':Hp}{a:Z Dt}{o:HO}(k:Kp H H'):EL K D H a o->EL K D H' a o:=λ⟨us,e,r,z⟩=>⟨us,e,r.kp k,z⟩
theorem g3(J:PV X kx fk)(G:PV X vx fv):Zr X (λD env=>do let g <-eval kx env;let vv <-holding [g] (eval vx env);standAt { kx.pos with endLine:=vx.pos.endLine,endCol:=vx.pos.endCol };holding [g,vv] (dictSet D g vv)) (LY (b2 Gu fk fv)) (EL X.K) 999 n:=by
 refine Zt λAN s σ H H0 ρ D o o1 ys I En eb hD ⟨us,e,r4,hl⟩ hi=>?_;subst e;obtain⟨b,e0,e1⟩:=AT eb;obtain⟨y,rfl,rfl⟩:=z9 e1;obtain⟨bk,B,eb⟩:=AT e0;obtain⟨W,L,eb⟩:=AT eb;obtain⟨c,M,rfl,rfl,rfl⟩:=Tn eb;refine zb (ZZ (J AN s σ H (λv a=>AV H a/\bh X.K a (.z (.str c)) v) I ⟨H0,ρ,_,En,B,λv a f _ d=>⟨f,d⟩⟩) (λg P h=>?_) λ_ _ z=>z);obtain⟨N,m,q,rk,p,C⟩:=h;refine zb (qA (ZZ (G AN P σ m (λv a=>AV m a/\AW X.K a M v) q ⟨H0,ρ,_,En.grow p,L,λv a f _ d=>⟨f,d⟩⟩) (λv f h=>?_) λ_ _ z=>z));obtain⟨i,a,t,w,u,d⟩:=h;have j:=p.trans u;have l:a D=U (.dK us):=j _ _ hD;obtain⟨rfl,F⟩:N=.str c/\c.length<=AA:=by simpa only[bh,AW]using C
 have kp:Kp a (B0 a D (.dK (BD us (Sum.inr c) i))):=.dk l;refine zb (Kb (qA ?_));simp only[List.length_singleton]at hi;refine Xp t l (by have:(1000:Nat)<AA:=(by decide);omega) (k:=Sum.inr c) rk w λQ E=>?_;have A:=((r4.kp (.of j)).put (x:=Sum.inr c) d F).kp kp;exact⟨a,_,E,j,kp,BD us (Sum.inr c) i,rfl,by rw[Qd];exact A,by have:=lY us (Sum.inr c) i;simp;omega⟩
def Vy(fi:Ev->O (Z Dt))(gt:Dt->Ev->O Ev)(p:Ev->O Bool)(fk fv:Ev->O Bx)(is:Z Nat)(n:Nat):Ev->O Bx:=λρ=>(fi ρ).bind λds=>
 if ds.length<1000 then(Bm gt p (b2 Gu fk fv) (mR is ρ++List.replicate n Y) ds).bind λa=>U (.m (dictOf a) Y)else Y
theorem aT(hu:X.A.units+100<cLine)(ts:AZ)(O:rM X scope cl xs is)(l:X.calm=true)(hi:FH X tgt iter fi)
  (Ou:∀C c d fp,D4 (HX X (xs++ts) scope cl C c d fp) tgt gt) (a1:∀C c d fp,Fz (HX X (xs++ts) scope cl C c d fp) ifs p) (n:∀C c d fp,QV (HX X (xs++ts) scope cl C c d fp) kx fk) (a3:∀C c d fp,QV (HX X (xs++ts) scope cl C c d fp) vx fv) (j:Ct is.length (is.length+ts.length) gt)
  (hs:∀x,foldedSetIterable iter X.env x=pure x:=by intro _;rfl):QV X (.DictComp kx vx [⟨tgt,iter,ifs,0⟩] scope pos) (Vy fi gt p fk fv is ts.length):=⟨λAN s σ H Q I h=>by
 obtain⟨H0,ρ,b,E,e,q⟩:=h;obtain⟨ds,t,e⟩:=AT e;split at e
 ·rename_i a2;obtain⟨b0,i,e⟩:=AT e;cases e;rw[arm_eval_DictComp];refine Kj (use:=none) S hs O.clos O.kind O.names ?_;refine gM (hi.run AN s σ H (λJ H'=>AV H H'/\B4 X.K J ds H') I ⟨H0,ρ,ds,E,t,λJ H' s' y=>⟨s',y⟩⟩) λv s1 h1=>gM h1 λa5 z h2=>?_;obtain⟨it,fp,tn,J,H2,rfl,g,T,st,hf,f,Y⟩:=h2;refine JC (B:=Vf) (Ac:=EL X.K) (O0:=.dK []) (N:=999) (RR:=λu C=>compPost (A8 X.prog X.w) X.A X.xe none (EP X AN σ Q) u C) (ts:=ts) (xs:=xs) O l (λC c d fp=>(Ou C c d fp).run) (λC c d fp=>(a1 C c d fp).run) (λC c d fp=>g3 (n C c d fp).run (a3 C c d fp).run) j (Nat.le_add_right ..) g ((E.grow f).caps is ts.length) (Zu T) st hf Y i (ZH (vX i) (Nat.le_of_lt_succ a2)) ?_
   qh (λ_=>Fd z.heap g.big) (λ_=>⟨[],rfl,fL.nil,zg _⟩) EL.kp (λ_ _ _=>S) codeAny_compStart_dict λh=>h
  rintro D C s' H' o P I' fC ⟨m,G⟩ F a0 ⟨us,rfl,rm,_⟩;refine⟨m,G,λh' W=>⟨.ref D,H',?_,rfl,q (.ref D) H' (f.trans F) (λa ea=>by cases ea;exact f.free P) ⟨D,us,rfl,a0,rm,λb hb=>by cases hb⟩⟩⟩;obtain⟨f0,f1,f2,L,M,f5⟩:=fC;exact I'.turned (t':=s'.toks) (λb o hb e=>(W.2 b hb).trans e) f0 f1 L M f5
 ·cases e⟩
end
section
variable{ks:Z (AY×V)}
end
section
variable{fd:Ev->O Bx}{xs ts:AZ}
end
theorem Qe{R:Result->A2->Prop}{d:A1}{AO:Z (AY×A0)}(L:A.handled=Y)(B:(d==sysModules)=false)(j:s.heap.DictAt (bF prog w) d AO ep)(K:AO.length<=AA)(S:A1)(m:d≠S)(l:A0)(q:Nat)(u:s.heap.get? S=some { cls:=.type "list",data:=.seq #[] q })(E:∀h' tk g a,(∀b o,b≠S->s.heap.get? b=some o->h'.get? b=some o)->h'.get? S=some { cls:=.type "list",dict:=Y,data:=.seq g a,slots:=#[] } →
   ItemsOf (λi v=>∃k x,AO[i]?=some (k,x)/\(bF prog w).is k v=true) g AO.length->R (.ok (.ret l)) { s with heap:=h',toks:=tk }):
  A7 (A8 prog w) A.in1 (Builtin.List.listExtendWith (.ref S) (.ref d) l)
   (λX s'=>match X with|.done f=>R (.ok f) s'|.again a=>a.quiet=true/\AF (A8 prog w) A a R s') (λe s'=>R (.error e) s') s:=by
 have D:d<s.heap.objs.size:=by obtain⟨o,_,N,_⟩:=j;exact zt N
 have W:S<s.heap.objs.size:=zt u;unfold Builtin.List.listExtendWith;refine zb (QR (T :="dict") j.dictOf.typeIs ?_);have h1:Builtin.List.listSameRef (.ref S) (.ref d)=false:=by simp[Builtin.List.listSameRef];exact λe=>m e.symm
 simp only[h1,show(Value.type "dict"==Value.type "list")=false by decide,show(Value.type "dict"==Value.type "tuple")=false by decide,Bool.or_false,zr,ZO];refine zb (wpAny_pyIter_dict B j ?_);refine zb (qA ?_);have c:=j.at' (h':=s.heap.push { cls:=.type "dict_keyiterator",data:=.fields #[.ref d,.int 0 0,.int AO.length 0,.int ep 0] }) λo e=>zd _ e;unfold Builtin.List.listLengthHint;refine zb (wpAny_specialOf (T :="dict") c.dictOf.typeIs F.slot_dict_len.lookup ?_)
 wp_delta
 refine zb (ke (T :="dict") (b:=true) c.dictOf.typeIs (by rw[isSubtype_type];kernel_rfl) ?_);show A7 _ A.in1 (typeOf (Value.ref d) >>= _) _ _ _;refine zb (QR (T :="dict") c.dictOf.typeIs (ze ?_));rw[zh (by decide)];show A7 _ A.in1 (Builtin.List.listTouch (Value.ref S) >>= λ_=>again (Code.builtin "list.extend.loop" ⟨[Value.ref S,Value.ref s.heap.objs.size,l],[]⟩)) _ _ _;generalize p:s.heap.push { cls:=.type "dict_keyiterator",data:=.fields #[.ref d,.int 0 0,.int AO.length 0,.int ep 0] }=G at c ⊢;have n:G.get? S=some { cls:=.type "list",data:=.seq #[] q }:=by
  rw[<-p];exact zd _ u
 have H:G.get? s.heap.objs.size=some { cls:=.type "dict_keyiterator",data:=.fields #[.ref d,.int 0 0,.int AO.length 0,.int ep 0] }:=by
  rw[<-p];exact zv _ rfl
 unfold Builtin.List.listTouch;refine zb (zb (listUpdate_at n rfl (listUpdate_at (get?_update_seq n _) rfl ?_ (by show _<=_;decide) (by show _<=_;decide)) (by show _<=_;decide) (by show _<=_;decide)));have y:s.heap.objs.size≠S:=jS W;have t:=get?_update_seq (get?_update_seq n (λx=>x.push Value.none)) (λx=>x.pop);generalize Q:(G.update S (Obj.mapSeq λx=>x.push Value.none)).update S (Obj.mapSeq λx=>x.pop)=U at t;have keep:∀b,b≠S->U.get? b=G.get? b:=λb hb=>by rw[<-Q,ka _ _ _ _ hb,ka _ _ _ _ hb]
 have C:U.IsKeyIter s.heap.objs.size d 0 AO.length ep/\U.DictAt (bF prog w) d AO ep:=⟨⟨_,(keep _ y).trans H,rfl,rfl⟩,c.at' λo e=>(keep d m).trans e⟩;show A7 _ A.in1 (again _) _ _ { s with heap:=U };have P:S∉[s.heap.objs.size,d]:=λh=>by
  simp only[Q2,js,or_false]at h;rcases h with h|h
  ·exact y h.symm
  ·exact m h.symm
 refine ze ⟨plainId_quiet F.plain_extend_loop _,codeAny_extend_loopS (Walks.dictKeys (A:=A.in1) L s.heap.objs.size d (Zl D) AO ep).toS K S P _ AO.length 0 { s with heap:=U } #[] _ rfl (Q1 _) C t (ItemsOf.nil _) λs' g a z a0 J=>?_⟩;rw[Moved.eq_with z];refine E s'.heap s'.toks g a (λb I hb e=>?_) a0 J;have M:=zt e;refine z.heap b I (λh=>?_) ((keep b hb).trans ?_)
 ·simp only[Q2,js,or_false]at h;rcases h with h|h
  ·exact hb h
  ·exact Zl M h
 ·rw[<-p];exact zd _ e
theorem Gv{Q:B9}{d:A1}{AO:Z (AY×A0)}(z:A.handled=Y)(p:(d==sysModules)=false)(l:s.heap.DictAt (bF prog w) d AO ep)(y:AO.length<=AA)(n:∀h' tk c f,(∀b o,s.heap.get? b=U o->h'.get? b=U o) →
   h'.get? s.heap.objs.size=U { cls:=.type "list",dict:=Y,data:=.seq c f,slots:=#[] }->ItemsOf (λi v=>∃k x,AO[i]?=U (k,x)/\(bF prog w).is k v=true) c AO.length->Q (.ref s.heap.objs.size) { s with heap:=h',toks:=tk }):
  A7 (A8 prog w) A (call (.type "list") [.ref d]) Q E s:=by
 have h:d<s.heap.objs.size:=by obtain⟨o,_,B,_⟩:=l;exact zt B
 refine callType_codes (Q₁:=λj m=>j=.ref s.heap.objs.size/\m={ s with heap:=s.heap.push { cls:=.type "list",data:=.seq #[] } }) F.called_list (F.typeCall_list_1 _) F.entry_list_init
  (code_list_new _ ⟨rfl,rfl⟩) λj m u=>?_
 obtain⟨rfl,rfl⟩:=u;have a:(s.heap.push { cls:=.type "list",data:=.seq #[] }).get? s.heap.objs.size=U { cls:=.type "list",data:=.seq #[] }:=zv _ rfl;have g:=l.at' (h':=s.heap.push { cls:=.type "list",data:=.seq #[] }) λo e=>zd _ e;refine⟨⟨_,a,rfl⟩,F.args_list_init_2 _ _,?_⟩;generalize q:s.heap.push { cls:=.type "list",data:=.seq #[] }=H at a g ⊢;show A7 _ _ (do let old <-Builtin.List.listItems (.ref s.heap.objs.size);Builtin.List.listUpdate (.ref s.heap.objs.size) (λ_=>#[]);letGo old.toList.reverse;Builtin.List.listExtendWith (.ref s.heap.objs.size) (.ref d) .none) _ _ { s with heap:=H };refine zb ?_;unfold Builtin.List.listItems;refine zb (wpAny_seqItems a S (ze ?_));show A7 _ _ (updateSeq s.heap.objs.size (λ_=>#[]) >>= λ_=>letGo (#[]:Array A0).toList.reverse >>= λ_=>Builtin.List.listExtendWith (.ref s.heap.objs.size) (.ref d) .none) _ _ _;refine zb (wpAny_updateSeq a S ?_);have C:=QE (Obj.mapSeq (λ_=>(#[]:Array A0))) a rfl;have oth:∀b o,b≠s.heap.objs.size->H.get? b=U o->(H.update s.heap.objs.size (Obj.mapSeq (λ_=>(#[]:Array A0)))).get? b=U o:=
  λb o hb e=>(QN _ _ (jI hb)).trans e
 refine zb (wpAny_letGo ?_);refine Qe (A:=A.in1) z p (g.at' λo e=>oth d o (Zl h) e) y s.heap.objs.size (Zl h) .none _ C λh' tk c f D G t=>?_;exact⟨rfl,n h' tk c f (λb o e=>D b o (Zl (zt e)) (oth b o (Zl (zt e)) (by rw[<-q];exact zd _ e))) G t⟩
theorem a4{P:Nat->A0->Prop}(val:Nat->AJ)(a:∀i v,P i v->∃t,v=.str (val i) t):CmpOf prog w A .Lt P (λi j=>decide ((val i).cps.toList<(val j).cps.toList)):=λi j b c s Q E hi d h=>by
 obtain⟨t,rfl⟩:=a i b hi;obtain⟨u,rfl⟩:=a j c d;exact richCompare_gives (op:=.Lt) (typeIs_str s _ t) (typeIs_str s _ u) F.slot_str_lt F.entry_str_lt (F.args_str_lt_2 _ _) (gives_str_lt _ _ t u) (λx=>nomatch x) h
theorem Do{P:Nat->A0->Prop}(val:Nat->AJ)(a:∀i v,P i v->∃t,v=.str (val i) t):CmpOf prog w A .Gt P (λi j=>decide ((val j).cps.toList<(val i).cps.toList)):=λi j b c s Q E hi d h=>by
 obtain⟨t,rfl⟩:=a i b hi;obtain⟨u,rfl⟩:=a j c d;exact richCompare_gives (op:=.Gt) (typeIs_str s _ t) (typeIs_str s _ u) F.slot_str_gt F.entry_str_gt (F.args_str_gt_2 _ _) (gives_str_gt _ _ t u) (λx=>nomatch x) h
def two(a b:AJ)(i:Nat):AJ:=if i=0 then a else b
theorem MY{a b:AJ}{t u:Tok}(i:Nat)(v:A0)(h:(#[Value.str a t,Value.str b u])[i]?=U v):∃t',v=.str (two a b i) t':=by
 match i,h with
 |0,h=>cases h;exact⟨t,rfl⟩
 |1,h=>cases h;exact⟨u,rfl⟩
 |_+2,h=>simp at h
theorem Qf{a b:AJ}{t u:Tok}{Q:B9}{d:Nat->Nat->Bool}(x:A.handled=Y)(f:CmpOf prog w A.in1 op (λi v=>(#[Value.str a t,Value.str b u])[i]?=U v) d)(h:∀h' tk,(∀c o,s.heap.get? c=U o->h'.get? c=U o)->Q (if d 1 0=true then .str b u else .str a t) { s with heap:=h',toks:=tk }):
  A7 (A8 prog w) A.in1 (pyIter (.ref s.heap.objs.size)) (λit l=>∃I fp wr n P St d,it=.ref I/\Walks prog w A.in1 I fp wr n P St/\St 0 l.heap/\(∀b∈fp,b<l.heap.objs.size)/\0<n/\CmpOf prog w A.in1 op P d ∧
   ∀v h' tk,P (argBest d (n-1)) v->(∀b o,b∉wr->l.heap.get? b=U o->h'.get? b=U o)->Q v { l with heap:=h',toks:=tk }) E
   { s with heap:=s.heap.push { cls:=.type "tuple",data:=.seq #[.str a t,.str b u] } }:=by
 have q:(s.heap.push { cls:=.type "tuple",data:=.seq #[.str a t,.str b u] }).IsTuple s.heap.objs.size #[.str a t,.str b u]:=⟨_,zv _ rfl,rfl,0,rfl⟩;refine wpAny_pyIter_tuple q ?_;have j:(s.heap.push { cls:=.type "tuple",data:=.seq #[.str a t,.str b u] }).objs.size=s.heap.objs.size+1:=qv ..;refine⟨_,[_,s.heap.objs.size],[_],_,_,_,d,rfl,Walks.tuple (A:=A.in1) x _ s.heap.objs.size (by rw[j];exact Zl (qk _)) #[.str a t,.str b u],
  ⟨⟨_,zv _ rfl,rfl,rfl⟩,q.push _⟩,λc f=>?_,by simp,f,λv h' tk z y=>?_⟩
 ·show c<((s.heap.push _).push _).objs.size;rw[qv,j];rcases List.mem_cons.mp f with rfl|f
  ·rw[j];exact qk _
  ·rcases List.mem_cons.mp f with rfl|f
   ·exact Qb (qk _)
   ·cases f
 ·have hold:∀c o,s.heap.get? c=U o->h'.get? c=U o:=λc o e=>by
   refine y c o (λm=>?_) (zd _ (zd _ e));rcases List.mem_cons.mp m with e1|m
   ·have:=zt e;rw[e1,j]at this;exact kc _ (Nat.lt_of_succ_lt this)
   ·cases m
  have:=h h' tk hold;have B:v=if d 1 0=true then Value.str b u else Value.str a t:=by
   have g:(#[Value.str a t,Value.str b u])[argBest d 1]?=U v:=z;unfold argBest argBest at g;by_cases p:d 1 0=true
   ·rw[zh p]at g ⊢;exact(by simpa using g.symm)
   ·rw[zC p]at g ⊢;exact(by simpa using g.symm)
  rw[B];exact this
def u9:Z Bx->O Bx
 |[.z (.str a),.z (.str b)]=>U (.z (.str (if Xq b a=true then b else a)))
 |_=>Y
where Xq (x y:AJ):Bool:=decide (x.cps.toList<y.cps.toList)
def Qg:Z Bx->O Bx
 |[.z (.str a),.z (.str b)]=>U (.z (.str (if u9.Xq a b=true then b else a)))
 |_=>Y
theorem Vz(i:X.calm=true):nC X (.builtin "min") u9:=by
 intro AN s σ H xs us Q I r h;obtain⟨bs,c,l,e,q⟩:=h;unfold u9 at e;split at e
 ·rename_i a b;cases e;obtain⟨v,w,rfl,d,f⟩:=Vj l;obtain⟨rfl,h1⟩:=Ss d;obtain⟨rfl,h2⟩:=Ss f;obtain⟨u,m,rfl,j,g⟩:=AX.two r;obtain⟨t,rfl⟩:=j;obtain⟨n,rfl⟩:=g;refine call_min_two (Qf (I.ok.hd i) (a4 (two a b) MY) λh' tk kp=>?_);show EP X AN σ Q (if u9.Xq b a=true then _ else _) _;by_cases hb:u9.Xq b a=true
  ·rw[zh hb]at q ⊢;exact⟨.str b,H,I.kept kp,⟨_,rfl⟩,q _ H (AV.refl H) trivial f⟩
  ·rw[zC hb]at q ⊢;exact⟨.str a,H,I.kept kp,⟨_,rfl⟩,q _ H (AV.refl H) trivial d⟩
 ·cases e
theorem OG(i:X.calm=true):nC X (.builtin "max") Qg:=by
 intro AN s σ H xs us Q I r h;obtain⟨bs,c,l,e,q⟩:=h;unfold Qg at e;split at e
 ·rename_i a b;cases e;obtain⟨v,w,rfl,d,f⟩:=Vj l;obtain⟨rfl,h1⟩:=Ss d;obtain⟨rfl,h2⟩:=Ss f;obtain⟨u,m,rfl,j,g⟩:=AX.two r;obtain⟨t,rfl⟩:=j;obtain⟨n,rfl⟩:=g;refine call_max_two (Qf (I.ok.hd i) (Do (two a b) MY) λh' tk kp=>?_);show EP X AN σ Q (if u9.Xq a b=true then _ else _) _;by_cases hb:u9.Xq a b=true
  ·rw[zh hb]at q ⊢;exact⟨.str b,H,I.kept kp,⟨_,rfl⟩,q _ H (AV.refl H) trivial f⟩
  ·rw[zC hb]at q ⊢;exact⟨.str a,H,I.kept kp,⟨_,rfl⟩,q _ H (AV.refl H) trivial d⟩
 ·cases e
def Gx:Z Bx->O Bx
 |[.n AO]=>(W7 AO).bind λys=>U (.o (ys.map Dt.str))
 |_=>Y
theorem OB(B:X.calm=true):nC X (.type "list") Gx:=by
 intro AN s σ H xs us Q I r h;obtain⟨bs,c,w,e,q⟩:=h;unfold Gx at e;split at e
 ·rename_i AO;obtain⟨ys,b,e⟩:=AT e;cases e;have E:AO.length=ys.length:=by have:=congrArg List.length (wg b);simpa using this
  obtain⟨v,rfl,t⟩:=BM w;obtain⟨a,ks,rfl,A,d⟩:=t;obtain⟨u,rfl,x⟩:=BC r;cases x;obtain⟨l,C,vs,f,o,es,ep,D⟩:=uN I.hok A;have z:vs.map (·.1)=ys.map Sum.inr:=by rw[Vm f,d.1];exact wg b
  have F:ks.length=vs.length:=f.length;refine Gv (I.ok.hd B) C ⟨o,es,D⟩ (by omega) λh' tk n i ext m j=>?_;have z1:=SN z j;have p:∀y∈ys,y.length<=AA:=eM b d.2.2;have g:=I.hok.fresh (zg s.heap.objs.size);refine⟨.ref s.heap.objs.size,_,I.laid (t':=tk) (a:=s.heap.objs.size) (o:=.lst (ys.map V.str)) ext (zg _) ?_,rfl,q _ _ (bI g) (λa ea=>by cases ea;exact g) ⟨_,_,rfl,aU,Gf p⟩⟩;refine⟨by rw[zi,<-E,<-d.len];exact l,n.toList,i,Ae z1,?_⟩;rw[m]
 ·cases e
def CH(H:Hp)(a:A1):Hp:=λb=>if b=a then Y else H b
theorem VB{b:A1}(h:b≠a):CH H a b=H b:=zC h
theorem VD:CH H a a=Y:=zh rfl
def DZ:Bx->Bool
 |.z _=>true
 |_=>false
def Fh(K:B1)(n:Nat)(G:A1->Z (AY×Dt)->Z Bx->O (Z (AY×Dt))):Sp:=λvs H Q _=>vs.length=n+1/\∃a ks AO AS bs b,vs=.ref a::AS/\H a=U (.dK ks)/\fL K H AO ks/\pJ K H bs AS/\bs.all DZ=true/\G a AO bs=U b/\∀H' c,AV (CH H a) H'->H' a=U (.dK c)->fL K H' b c->Q .non H'
def Qh(n:Nat)(g:Ev->O An):A1->Z (AY×Dt)->Z Bx->O (Z (AY×Dt)):=λa AO bs=>(g ((Bx.m AO (U a)::bs).map U++List.replicate (n-(bs.length+1)) Y)).bind λr=>match r with
 |.nx ρ=>match ρ[0]? with
  |some (U (Bx.m kvs' (U b)))=>if b=a then U kvs' else Y
  |_=>Y
 |_=>Y
theorem Tp{c:Z (AY×Dt)}{bs:Z Bx}(h:Qh n g a AO bs=U c):∃ ρ,g ((Bx.m AO (U a)::bs).map U++List.replicate (n-(bs.length+1)) Y)=U (.nx ρ)/\ρ[0]?=U (U (.m c (U a))):=by
 obtain⟨r,er,h⟩:=AT h;cases r with
 |nx ρ=>
  dsimp only at h;split at h
  ·rename_i k b e;split at h
   ·rename_i hb;cases h;subst hb;exact⟨ρ,er,e⟩
   ·cases h
  ·cases h
 |rt _=>cases h
 |bk _=>cases h
 |ct _=>cases h
theorem Gy{α β:Type}{R:α->β->Prop}:∀{xs:Z α} {ys:Z β},AI R xs ys->∀{i:Nat} {x:α},xs[i]?=U x->∃y,ys[i]?=U y/\R x y
 |_,_,.nil,i,x,q=>by simp at q
 |_,_,.cons r _,0,x,q=>by simp at q;subst q;exact⟨_,rfl,r⟩
 |_,_,.cons _ t,i+1,x,q=>by
  rw[qr]at q;obtain⟨y,y1,y2⟩:=Gy t q;exact⟨y,by rw[qr];exact y1,y2⟩
theorem bM.startM{bs:Z Bx}{AS:Z V}{ks:Z (AY×V)}(l:H a=U (.dK ks))(s:fL K H AO ks)(r:pJ K H bs AS)(w:bs.all DZ=true):bM K (CH H a) H (L2.start N (.ref a::AS)) ((Bx.m AO (U a)::bs).map U++List.replicate (N.length-(bs.length+1)) Y):=by
 have n:bs.length=AS.length:=Paired.length r;have u:pJ K H (.m AO (U a)::bs) (.ref a::AS):=.cons ⟨a,ks,rfl,l,s,λb h=>by cases h;rfl⟩ r;have get:∀(i:Nat) b,((Bx.m AO (U a)::bs).map U++List.replicate (N.length-(bs.length+1)) Y)[i]?=U (U b)->(Bx.m AO (U a)::bs)[i]?=U b:=λi b e=>by
  by_cases hi:i<(Bx.m AO (U a)::bs).length
  ·rw[Z3 (by simpa using hi),ZN]at e;cases q:(Bx.m AO (U a)::bs)[i]? with
   |none=>rw[q]at e;cases e
   |some y=>rw[q]at e;simpa using e
  ·rw[QI (by simp at hi ⊢;omega),jv]at e;split at e<;>cases e
 have t:∀(i:Nat) b,((Bx.m AO (U a)::bs).map U++List.replicate (N.length-(bs.length+1)) Y)[i]?=U (U b)->i≠0->loose b=false:=λi b e hi=>by
  have e2:=get i b e;cases i with
  |zero=>exact absurd S hi
  |succ j=>
   rw[qr]at e2;have:=List.all_eq_true.mp w b (QA e2);cases b<;>first|rfl|cases this
 have g:∀c,uO c=true->loose c=true:=λc d=>by cases c<;>first|rfl|cases d
 have zero:∀(i:Nat) c,((Bx.m AO (U a)::bs).map U++List.replicate (N.length-(bs.length+1)) Y)[i]?=U (U c)->loose c=true->i=0:=λi c e d=>by
  by_cases hi:i=0
  ·exact hi
  ·rw[t i c e hi]at d;cases d
 have st:∀i v,(Value.ref a=Value.ref a)->(V.ref a::AS)[i]?=U v->(L2.start N (.ref a::AS))[i]?=U (U v):=λi v _ e=>by
  have hi:i<(V.ref a::AS).length:=(List.getElem?_eq_some_iff.mp e).1;unfold L2.start;rw[Z3 (by simpa using hi),ZN,e];rfl
 refine⟨by unfold L2.start;simp[n],λi b e=>?_,λi j c x b e1 f _ e3 hb _=>?_,λb o e=>?_,λi c x e f e2=>?_⟩
 ·obtain⟨v,e1,p⟩:=Gy u (get i b e);exact⟨v,st i v S e1,p⟩
 ·rw[zero i c e1 (g c f),zero j b e3 hb]
 ·by_cases hb:b=a
  ·subst hb;rw[VD]at e;cases e
  ·rw[VB hb]at e;exact e
 ·have hi:=zero i c e (g c f);subst hi;rw[st 0 (.ref a) S rfl]at e2;cases e2;exact VD
theorem Re{f:A1}{k m:Nat}(F:Bj K x qual st f fd)(S:bB N ps (aG st))(B:N.length=n)(z:ps.length=m+1)(o:∀(c:A0) (A:A5) (outer:Z Env) (s:A2) (H:Hp) (E:XK),gW k (A.deeper (AK qual (aG st) s.heap.objs.size f c))->R6 (rK xu P w K mg base N qual (aG st) f c A outer s H E).Yt (d8 st) g):
  ju P w K mg base xu (k+1) f fd ps (Fh K m (Qh n g)):=by
 subst B;refine F.ok S (λvs H Q E h=>by rw[z];exact h.1) λc A outer s H vs Q E i h=>?_;obtain⟨D,a,ks,AO,AS,bs,G,rfl,l,t,y,u,e,q⟩:=h;refine⟨_,(o c A outer s H E i).run,?_⟩;obtain⟨ρ,er,e0⟩:=Tp e;refine⟨CH H a,_,_,bM.startM l t y u,er,?_⟩;intro σ' H' d;obtain⟨v,ev,b,C,rfl,hb,p,j⟩:=d.val 0 _ e0;have:=j a rfl;subst this;exact q H' C d.base hb p
open Classical in
noncomputable def Gz(i n:Nat)(G:A1->Z (AY×Dt)->Z Bx->O (Z (AY×Dt)))(fs:Ev->O (Z Bx)):Ev->O An:=λρ=>match ρ[i]? with
 |some (U (.m AO w))=>(fs ρ).bind λbs=>if h:bs.length=n/\bs.all DZ=true/\∃b,∀a,G a AO bs=U b then U (.nx (ρ.set i (U (.m (Classical.choose h.2.2) w))))else Y
 |_=>Y
theorem Tq{fs:Ev->O (Z Bx)}{r:An}(h:Gz i n G fs ρ=U r):∃AO w bs c,ρ[i]?=U (U (.m AO w))/\fs ρ=U bs/\bs.length=n/\bs.all DZ=true/\(∀a,G a AO bs=U c)/\r=.nx (ρ.set i (U (.m c w))):=by
 unfold Gz at h;split at h
 ·rename_i AO w e;obtain⟨bs,eb,h⟩:=AT h;split at h
  ·rename_i b;cases h;exact⟨AO,w,bs,_,e,eb,b.1,b.2.1,Classical.choose_spec b.2.2,rfl⟩
  ·cases h
 ·cases h
theorem gg{fs:Ev->O (Z Bx)}{b:Z (AY×Dt)}{w:O A1}{bs:Z Bx}(e:ρ[i]?=U (U (.m AO w)))(eb:fs ρ=U bs)(g:bs.length=n)(h:bs.all DZ=true)(d:∀a,G a AO bs=U b):Gz i n G fs ρ=U (.nx (ρ.set i (U (.m b w)))):=by
 unfold Gz;rw[e];simp only[eb,aln];have c:bs.length=n/\bs.all DZ=true/\∃b,∀a,G a AO bs=U b:=⟨g,h,b,d⟩;rw[dif_pos c];have:=Classical.choose_spec c.2.2 0;rw[d 0]at this;injection this with this;rw[<-this]
where aln {α β:Type} (a:α) (f:α->O β):(U a).bind f=f a:=rfl
theorem bM.ajc{H':Hp}{C:Z (AY×Dt)}{w:O A1}{ks D:Z (AY×V)}(E:bM K H0 H σ ρ)(h:ρ[i]?=U (U (.m AO w)))(hs:σ[i]?=U (U (.ref a)))(J:H a=U (.dK ks))(sm:AV (CH H a) H')(M:H' a=U (.dK D))(rm:fL K H' C D)(L:∀b,w=U b->b=a):
  bM K H0 H' σ (ρ.set i (U (.m C w))):=by
 have hi:i<ρ.length:=(List.getElem?_eq_some_iff.mp h).1;have hb:H0 a=Y:=E.new i _ a h S hs;have g:∀b u,b≠a->H b=U u->H' b=U u:=λb u F e=>sm b u (by rw[VB F];exact e);have kp:Kp H H':=⟨λb xs e=>g b _ (lX e J (by intro z;cases z)) e,λb ob u e=>g b _ (lX e J (by intro z;cases z)) e⟩;refine⟨by rw[km];exact E.len,λj A e=>?_,λj k' c f A e1 G e2 e3 X N=>?_,λc o e=>?_,λj c f e1 G e2=>?_⟩
 ·rcases BB e with⟨rfl,e',_⟩|⟨F,e'⟩
  ·cases e';exact⟨_,hs,a,D,rfl,M,rm,L⟩
  ·obtain⟨v,e1,y⟩:=E.val j A e';refine⟨v,e1,?_⟩;have B:∀f,v=.ref f->loose A=true->f≠a:=λf ev Q z=>by
    subst z;exact F (E.own i j _ _ _ h S hs e' Q (by rw[e1,ev])).symm
   cases A with
   |z d=>exact AW.kp kp y
   |l I=>
    obtain⟨f,p,rfl,q,s⟩:=y;have x:=B f S rfl;exact⟨f,p,rfl,q.imp (g _ _ x) λ⟨o,q⟩=>⟨o,g _ _ x q⟩,s.kp kp⟩
   |o I=>
    obtain⟨f,p,rfl,q,s⟩:=y;exact⟨f,p,rfl,g _ _ (B f S S) q,s.kp kp⟩
   |n I=>
    obtain⟨f,p,rfl,q,s⟩:=y;have x:=B f S rfl;exact⟨f,p,rfl,q.imp (g _ _ x) λ⟨o,q⟩=>⟨o,g _ _ x q⟩,s.kp kp⟩
   |m I _=>
    obtain⟨f,p,rfl,q,s,W⟩:=y;exact⟨f,p,rfl,g _ _ (B f S S) q,s.kp kp,W⟩
 ·have back:∀{j:Nat} {c:Bx},(ρ.set i (U (.m C w)))[j]?=U (U c)->∃t,ρ[j]?=U (U t)/\(uO c=true->uO t=true)/\(loose c=true->loose t=true):=λ{j c} e=>by
   rcases BB e with⟨rfl,e',_⟩|⟨_,e'⟩
   ·exact⟨_,h,λ_=>S,λ_=>S⟩
   ·exact⟨c,e',id,id⟩
  obtain⟨t,p1,p2,_⟩:=back e1;obtain⟨b2,q1,_,P⟩:=back e3;exact E.own j k' t f b2 p1 (p2 G) e2 q1 (P X) N
 ·have e2:=E.base c o e;exact g c o (λz=>by subst z;rw[hb]at e;cases e) e2
 ·rcases BB e1 with⟨rfl,e',_⟩|⟨_,e'⟩
  ·exact E.new _ _ f h S e2
  ·exact E.new j c f e' G e2
section
variable{fs:Ev->O (Z Bx)}{p px spos:Pos}{k:Nat}{f:A1}
theorem iP(i:Nat)(F:ju X.prog X.w X.K X.mg X.base xu k f fd ps (Fh X.K n G))(j:gW k X.A)(t:Gl X x)(hm:X.mg x=U (.ref f))(M:keepIn X.K (.ref f)=true)(hb:BA X.K fd ps [])
  (m:Vb X es fs) (P:X.N[i]?=U y:=by rfl) (L:U3 X.env.scope y:=by first|exact JS rfl|exact QY (JS S)|exact QY (QY S)) (o:(y==("__debug__":AJ))=false:=by decide)
  (Q:(y==("__classdict__":AJ))=false:=by decide) (I:(x==("__debug__":AJ))=false:=by decide) (he:A9 (.Name y px::es) X.env=(false,eval (.Name y px) X.env)::A9 es X.env:=by rfl) (a1:(AD pos (A9 es X.env)).any (·.1)=false:=by rfl) (hs:swapsWith (.Call (.Name x p) (.Name y px::es) [] pos) Y spos.line X.env=pure false:=by rfl):
  K4 X (.Expr (.Call (.Name x p) (.Name y px::es) [] pos) spos) (Gz i n G fs):=⟨Oi (yj (Kv F j t hm M hb .nil NC (bw (rH (i:=i) P L o Q) m.run he) I he a1) hs) λD σ H h=>by
 obtain⟨H0,ρ,r,E,e,q⟩:=h;obtain⟨AO,w,bs,z,c,eb,J,u,s,rfl⟩:=Tq e;obtain⟨v,e1,a,ks,rfl,a0,rm,l⟩:=E.val i _ c;refine⟨_,e1,H0,ρ,bs,E,eb,λvs H1 b d=>?_⟩;have g:=b _ _ a0;refine⟨by simp only[ZY,qc];rw[<-Paired.length d,J],a,ks,AO,vs,bs,z,by simp,g,rm.kp (.of b),d,u,s a,λH' a2 W C B=>?_⟩;exact q σ H' ((E.grow b).ajc c e1 g W C B l)⟩
end
def Yw:O Bool->Bool
 |some true=>true
 |_=>false
def Ma(x:Dt)(ys:Z Dt):O Bool:=if(ys.all λy=>(uz y x).isSome&&decide (min (uc y) (uc x)<=60))=true then U (ys.any λy=>Yw (uz y x))else Y
def inX(a b:Bx):O Bx:=match a with
 |.z d=>(wK b).bind λys=>(Ma d ys).bind λk=>U (.z (.bl k))
 |_=>Y
def Mf(a b:Bx):O Bx:=match a with
 |.z d=>(wK b).bind λys=>(Ma d ys).bind λk=>U (.z (.bl (!k)))
 |_=>Y
theorem NY(I:L2.AU X AN σ H s)(G:X.A.units+100<cLine){x:V}(B:AW X.K H d x)(D:As x u){ys:Z Dt}(rs:aK X.K H ys vs)(m:AX vs AQ){k:Bool}(a:Ma d ys=U k):
  ∃e:A0->Bool,(∀y,y∈AQ->SeqAt.EqAt X.A.in1 s y u (e y))/\AQ.any e=k:=by
 unfold Ma at a;split at a
 ·rename_i o;injection a with a;rw[qo]at o;have at_:∀(i:Nat) y,AQ[i]?=U y->∃c,ys[i]?=U c/\SeqAt.EqAt X.A.in1 s y u (Yw (uz c d)):=λi y j=>by
   have C:=m.length;have t:=rs.length;have hi:i<AQ.length:=(List.getElem?_eq_some_iff.mp j).1;have f:i<ys.length:=by omega
   obtain⟨v,ev,w⟩:=rs.get (show ys[i]?=U ys[i] by simp[f]);obtain⟨J,p,z⟩:=m.get ev;rw[j]at p;cases p;refine⟨ys[i],by simp[f],?_⟩;have l:=o ys[i] (k7 f);rw[Zz]at l;obtain⟨b,hb⟩:=Option.isSome_iff_exists.mp l.1;have:=Na I 60 (A:=X.A.in1) (ko l.2) (by rw[units_in1];omega) w B z D hb;rw[hb];cases b<;>exact this
  classical
  refine⟨λy=>decide (∃(i:Nat) (c:Dt),AQ[i]?=U y/\ys[i]?=U c/\Yw (uz c d)=true),λy j=>?_,?_⟩
  ·dsimp only;by_cases q:∃(i:Nat) (c:Dt),AQ[i]?=U y/\ys[i]?=U c/\Yw (uz c d)=true
   ·rw[ZT q];obtain⟨i,c,h1,h2,g⟩:=q;obtain⟨F,e1,e2⟩:=at_ i y h1;rw[h2]at e1;cases e1;rw[g]at e2;exact e2
   ·rw[ZE q];obtain⟨i,hi,n⟩:=j3 j;have h1:AQ[i]?=U y:=by rw[Zs hi,n]
    obtain⟨c,e1,e2⟩:=at_ i y h1;have:Yw (uz c d)=false:=by
     cases E:Yw (uz c d)with
     |false=>rfl
     |true=>exact absurd ⟨i,c,h1,e1,E⟩ q
    rw[this]at e2;exact e2
  ·rw[<-a,JE,QP,QP];constructor
   ·rintro⟨y,j,h⟩;obtain⟨i,c,h1,h2,g⟩:=ko h;exact⟨c,QA h2,g⟩
   ·rintro⟨c,l,g⟩;obtain⟨i,hi,n⟩:=j3 l;have C:=m.length;have t:=rs.length;have f:i<AQ.length:=by omega
    exact⟨AQ[i],k7 f,ZT ⟨i,c,by simp[f],by rw[Zs hi,n],g⟩⟩
 ·cases a
theorem Mg(l:X.A.units+100<cLine):Dy X (AG .NotIn) Mf:=by
 intro AN s σ H x y v u Q I n t h;obtain⟨a,b,c,j,B,e,q⟩:=h;unfold Mf at e;split at e
 ·rename_i d;obtain⟨ys,z,e⟩:=AT e;obtain⟨k,ek,e⟩:=AT e;cases e;obtain⟨p,vs,rfl,sq,m⟩:=Lq B z;cases t;rcases sq with sq|sq
  ·obtain⟨AQ,i,pl,o⟩:=I.list sq;obtain⟨f,f1,f2⟩:=NY I l j n m i ek;refine SeqAt.notIn_listAt f pl.isList (λw g=>f1 w (by simpa using g)) ⟨.bl (!k),H,I,by rw[show AQ.toArray.any f=AQ.any f by simp,f2];rfl,q _ H (AV.refl H) trivial (by simp only[bh,AW])⟩
  ·obtain⟨AQ,i,pl,o⟩:=I.tuple sq;obtain⟨f,f1,f2⟩:=NY I l j n m i ek;refine SeqAt.notIn_tupleAt f pl (λw g=>f1 w (by simpa using g)) ⟨.bl (!k),H,I,by rw[show AQ.toArray.any f=AQ.any f by simp,f2];rfl,q _ H (AV.refl H) trivial (by simp only[bh,AW])⟩
 ·cases e
section
variable{st:Z AB}
def IT(i:Nat)(ρ:Ev):O Ev:=match ρ[i]? with
 |some (U (.o ds))=>U (ρ.set i (U (.z (.lst ds))))
 |_=>Y
def ER(i:Nat)(g:Ev->O An):Ev->O An:=λρ=>(IT i ρ).bind g
theorem OZ(h:RB X st g):RB X st (ER i g):=by
 intro AN s σ H D I q;obtain⟨H0,ρ,r,E,e,f⟩:=q;obtain⟨m,e1,e2⟩:=AT e;unfold IT at e1;split at e1
 ·rename_i ds b;cases e1;obtain⟨v,l,a,vs,rfl,c,j⟩:=E.val i _ b;obtain⟨o,d⟩:=Fp I c;have kp:Kp H (B0 H a (.HS o (.lst vs))):=.lst c;refine h AN s σ _ D d ⟨H0,_,r,E.af7 b S l kp ?_,e2,f⟩;simp only[bh,AW];exact⟨a,vs,rfl,.inl ⟨o,aU⟩,j.kp kp⟩
 ·cases e1
theorem a7(h:R6 X st g):R6 X st (ER i g):=⟨OZ h.run⟩
end
open AutoSeq1 (wpAny_loadPart')
open SeqAt
section
variable{o:Expr}{fx:Ev->O Bx}
end
section
variable{t:Ev->O Bool}
def Xr(t:Ev->O Bool)(g:Ev->O An):Nat->Ev->O An
 |0,_=>Y
 |n+1,ρ=>(t ρ).bind λb=>if b=true then(g ρ).bind λr=>match r with
  |.nx ρ'=>Xr t g n ρ'
  |.ct ρ'=>Xr t g n ρ'
  |.bk ρ'=>U (.nx ρ')
  |.rt b=>U (.rt b)
  else U (.nx ρ)
theorem Sb(n:Nat)(hp:PassesOwn (A8 X.prog X.w) X.A X.env X.xe)(l:PB X c t)(hb:RB X body g):F' X (.While c body [] pos) (Xr t g n):=
 Oi (YJ hp l hb) λD σ H q=>by
  obtain⟨H0,ρ,r,E,e,f⟩:=q;refine⟨λm σ H=>∃H0 ρ r,bM X.K H0 H σ ρ/\Xr t g m ρ=U r/\R5 X.K H0 D r,⟨n,H0,ρ,r,E,e,f⟩,?_⟩;rintro m σ H ⟨H0,ρ,r,E,e,f⟩;cases m with
  |zero=>cases e
  |succ m=>
   obtain⟨b,eb,e⟩:=AT e;refine⟨H0,ρ,b,E,eb,λH1 h=>?_⟩;cases b with
   |false=>
    rw[zC (by decide)]at e ⊢;cases e;exact f σ H1 (E.grow h)
   |true=>
    rw[zh rfl]at e ⊢;obtain⟨i,er,e⟩:=AT e;refine⟨λσ' H'=>∃j,j<m+1/\∃H0 ρ r,bM X.K H0 H' σ' ρ/\Xr t g j ρ=U r/\R5 X.K H0 D r,λσ' H' z=>z,H0,ρ,i,E.grow h,er,?_⟩;cases i with
    |nx d=>exact λσ' H' a=>⟨m,qk m,H0,d,r,a,e,f⟩
    |ct d=>exact λσ' H' a=>⟨m,qk m,H0,d,r,a,e,f⟩
    |bk d=>cases e;exact λσ' H' a=>f σ' H' a
    |rt b=>cases e;exact f
theorem Qi(n:Nat)(hp:PassesOwn (A8 X.prog X.w) X.A X.env X.xe)(a:QB X c t)(hb:R6 X body g):K4 X (.While c body [] pos) (Xr t g n):=⟨Sb n hp a.run hb.run⟩
end
section
variable{h':A6}
theorem TM{t':Nat}{e:A1}(I:L2.AU X AN σ H s)(k:∀b o,b≠e->b≠it->s.heap.get? b=U o->h'.get? b=U o)(fe:qD X AN H e)(fi:qD X AN H it)(he:∃o,h'.get? e=U o)(hi:∃o,h'.get? it=U o)(new:gn X.prog X.w (B0 H s.heap.objs.size (.tup xs)) h' s.heap.objs.size (.tup xs)):L2.AU X AN σ (B0 H s.heap.objs.size (.tup xs)) { s with heap:=h',toks:=t' }:=by
 have i:H s.heap.objs.size=Y:=I.hok.fresh (zg _);have f:∀b u,H b=U u->b≠s.heap.objs.size:=λb u q z=>by rw[z,i]at q;cases q
 have ne:∀b u,H b=U u->b≠e/\b≠it:=λb u q=>⟨λz=>(by rw[z,fe.1]at q;cases q),λz=>(by rw[z,fi.1]at q;cases q)⟩;have d:∀b,b∉[e,it]->b≠e/\b≠it:=λb hb=>⟨λz=>hb (by simp[z]),λz=>hb (by simp[z])⟩;refine I.step (g':=s.gens) (d':=s.drawn) (ch:=[e,it]) (λb hb=>?_) (λb o _ _ a q _=>k b o (d b a).1 (d b a).2 q) (λb o _ _ a q _=>⟨o.slots,k b o (d b a).1 (d b a).2 q⟩) (λb o _ q n=>?_)
  (λb o a q=>⟨o,k b o (d b a).1 (d b a).2 q⟩) (λb ys q=>?_) (λb o u q=>?_) (λb ps q=>⟨#[],?_⟩) (λm g=>?_) (λb u q=>?_) I.bare
 ·rcases List.mem_cons.mp hb with rfl|hb
  ·exact⟨fe.2.2.2.1,fe.2.1,fe.2.2.2.2.1,fe.2.2.2.2.2⟩
  ·cases List.mem_singleton.mp hb;exact⟨fi.2.2.2.1,fi.2.1,fi.2.2.2.2.1,fi.2.2.2.2.2⟩
 ·rw[aP (Zl (zt q))];exact n
 ·rw[aP (f b _ q)];exact q
 ·rw[aP (f b _ q)];exact q
 ·rw[aP (f b _ q),q];simp
 ·obtain⟨o,es,ep,h,r⟩:=g;exact⟨o,es,ep,k _ o (jI fe.2.1) (jI fi.2.1) h,r⟩
 ·by_cases hb:b=s.heap.objs.size
  ·subst hb;rw[aU]at q;cases q;exact new
  ·rw[aP hb]at q;refine(I.hok b u q).stay (λc v a w=>k c v ?_ ?_ w) (λc w=>?_) λc ys w=>?_
   ·rcases a with rfl|z
    ·exact(ne _ _ q).1
    ·exact(ne _ _ z).1
   ·rcases a with rfl|z
    ·exact(ne _ _ q).2
    ·exact(ne _ _ z).2
   ·rw[aP (f c _ w)];exact w
   ·rw[aP (f c _ w)];exact w
end
def IL(K:B1)(l:A1):It:=
 ⟨λi H=>∃xs x,qO K H l xs/\xs[i]?=U x,λi H v H'=>∃p x,H p=Y/\(∀xs,qO K H l xs->xs[i]?=U x)/\v=.ref p/\H'=B0 H p (.tup [.int i,x]),λi H=>∃xs,qO K H l xs/\xs.length<=i⟩
theorem Xu(l e it:A1)(t:e≠it):
  C8 P w K (.Tuple elts x1 tpos) (IL K l) [e,it] e (λi h=>(∃old,IsEnum h e it i old)/\h.IsListIter it l i) where
 mem:=by simp
 obj:=λi h st b hb=>by
  obtain⟨⟨old,h1⟩,o,h2,_,F⟩:=st;rcases List.mem_cons.mp hb with rfl|hb
  ·exact⟨_,h1,λv z=>by cases z⟩
  ·cases List.mem_singleton.mp hb;exact⟨o,h2,λv z=>by rw[F]at z;cases z⟩
 keep:=λi h h' st k=>by
  obtain⟨⟨old,h1⟩,h2⟩:=st;exact⟨⟨old,k e (by simp) _ h1⟩,h2.at λo q=>k it (by simp) o q⟩
 item:=by
  intro X n d m D i AN s σ H E I a st f;subst n d m;obtain⟨⟨old,h1⟩,h2⟩:=st;obtain⟨xs,x,c,hx⟩:=f;obtain⟨AQ,g,p,G⟩:=I.list c;obtain⟨u,N,ru⟩:=g.get hx;have fe:=a e (by simp);have fi:=a it (by simp);refine wpAny_pyNext_enum_item h1 h2 p.isList (x:=u) (by simpa using N) t λa1 ho a0 hT a2 hk=>⟨_,rfl,?_⟩;refine wpAny_letOwnedTupleGo_enum ho λC y j=>?_;have elt:e<s.heap.objs.size:=zt h1;have M:it<s.heap.objs.size:=by obtain⟨_,q,_⟩:=h2;exact zt q
  have W:C.get? s.heap.objs.size=U { cls:=.type "tuple",data:=.seq #[.int i s.toks,u] }:=(j.2 _ (jS elt)).trans hT;have B:C.IsListIter it l (i+1):=a0.at λo q=>(j.2 it (jI t)).trans q;refine⟨.ref s.heap.objs.size,B0 H s.heap.objs.size (.tup [.int i,x]),TM (t':=s.toks+1) I (λb o A J q=>(j.2 b A).trans (hk b o A J q)) fe fi ⟨_,y⟩ (by obtain⟨o,q,_⟩:=B;exact⟨o,q⟩) ?_,rfl,⟨_,x,I.hok.fresh (zg _),λys L=>by rw[I.Ew L c];exact hx,rfl,rfl⟩,⟨⟨_,by simpa using y⟩,B⟩,λb hb=>?_⟩
  ·exact⟨by show 2<=AA;decide,[.int i s.toks,u],.cons ⟨_,rfl⟩ (.cons ru .nil),_,W,rfl,⟨_,rfl⟩,rfl⟩
  ·rcases List.mem_cons.mp hb with rfl|hb
   ·rw[aP (Zl elt)];exact fe.1
   ·cases List.mem_singleton.mp hb;rw[aP (Zl M)];exact fi.1
 done:=by
  intro X n d m D i AN s σ H E I a st f;subst n d m;obtain⟨⟨old,h1⟩,h2⟩:=st;obtain⟨xs,c,hx⟩:=f;obtain⟨AQ,g,p,G⟩:=I.list c;obtain⟨f0,f1,f2,Q,f4,f5⟩:=a it (by simp);have hl:=g.length;exact wpAny_pyNext_enum_end (I.ok.hd D) h1 h2 p.isList (by simp;omega) λh' eb=>⟨rfl,I.turned (t':=s.toks) (λb o hb e=>eb b o hb e) f0 f1 Q f4 f5⟩
 self:=λ_ _ _ _ _ st h=>by
  obtain⟨⟨old,h1⟩,_⟩:=st;exact wpAny_pyIter_enum h1 h
def BJ(ds:Z Dt):Z Dt:=(List.range ds.length).zipWith (λk d=>.tup [.int (k:Nat),d]) ds
theorem J1(ds:Z Dt):(BJ ds).length=ds.length:=by simp[BJ]
theorem Xv(h:(BJ ds)[i]?=U d):∃c,ds[i]?=U c/\d=.tup [.int (i:Nat),c]:=by
 have hi:i<ds.length:=by
  have:=(List.getElem?_eq_some_iff.mp h).1;rwa [J1]at this
 refine⟨ds[i],by simp[hi],?_⟩;unfold BJ at h;rw[List.getElem?_zipWith]at h;simp[hi]at h;exact h.symm
theorem B4.enum(h:qO K Hs l vs)(r:aK K Hs ds vs):B4 K (IL K l) (BJ ds) Hs:=λi H s=>by
 have h':=s.seq h;have j:=r.kp (.of s);refine⟨λd e=>?_,λe=>⟨vs,h',by rw[J1]at e;rw[r.length];exact e⟩⟩;obtain⟨c,f,rfl⟩:=Xv e;obtain⟨v,ev,m⟩:=j.get f;refine⟨⟨vs,v,h',ev⟩,λx H' y=>?_⟩;obtain⟨p,n,hp,g,rfl,rfl⟩:=y;have:=g vs h';rw[ev]at this;cases this;have a:AV H (B0 H p (.tup [.int (i:Nat),v])):=λb o q=>by rw[aP (bH q hp)];exact q
 refine⟨a,?_⟩;simp only[AW];exact⟨p,_,rfl,.inl (.inl aU),aK.cons (by simp only[AW]) (aK.cons (AW.kp (.of a) m) aK.nil)⟩
section
variable{p:Pos}{fs:Ev->O (Z Bx)}
def cm(K:B1)(ta:TA):TI:=λσ H R=>ta σ H λvs H1=>∃l,vs=[.ref l]/\(∃xs,qO K H1 l xs)/\R (IL K l) H1
theorem WG{ta:TA}(g:Gl X "enumerate")(m:X.mg "enumerate"=Y)(c:PA X [e] ta)(hs:A9 [e] X.env=[(false,eval e X.env)]:=by rfl):PI X (.Tuple elts x1 tpos) (.Call (.Name "enumerate" p) [e] [] pos) (cm X.K ta):=by
 intro AN s σ H R I h;refine Call_ (zU I g m boot_enumerate (PyProof.Rows.callWith_type1 (gM (c pos AN s σ H _ I h) λus s1 ⟨vs,H1,I1,r1,q1⟩=>?_) hs S));obtain⟨l,rfl,⟨xs,f⟩,q⟩:=q1;obtain⟨u,rfl,j⟩:=BC r1;cases j;obtain⟨AQ,o,p,t⟩:=I1.list f;refine call_enumerate_list p.isList λh' a i n d=>?_;refine wpAny_pyIter_enum a ?_;refine⟨s1.heap.objs.size+1,[s1.heap.objs.size+1,s1.heap.objs.size],_,_,H1,rfl,I1.kept (t':=s1.toks) d,Xu l _ _ (jS (qk _)),⟨⟨_,a⟩,i⟩,λb hb=>?_,q⟩;rcases List.mem_cons.mp hb with rfl|hb
 ·exact I1.N8 (JO _) (I1.hok.fresh (JO _))
 ·cases List.mem_singleton.mp hb;exact I1.N8 (zg _) (I1.hok.fresh (zg _))
def Qj:Z Bx->O (Z Dt)
 |[.z (.lst ds)]=>U (BJ ds)
 |_=>Y
theorem Pd(l:Gl X "enumerate")(n:X.mg "enumerate"=Y)(g:Eg X [e] fs)(hs:A9 [e] X.env=[(false,eval e X.env)]:=by rfl):LS X (.Tuple elts x1 tpos) (.Call (.Name "enumerate" p) [e] [] pos) (λρ=>(fs ρ).bind Qj):=λAN s σ H R I q=>by
 refine WG l n g hs AN s σ H R I ?_;obtain⟨H0,ρ,ds,E,e,q⟩:=q;obtain⟨bs,eb,e⟩:=AT e;refine⟨H0,ρ,bs,E,eb,λvs H1 f j=>?_⟩;unfold Qj at e;split at e
 ·rename_i t;cases e;obtain⟨v,rfl,d⟩:=BM j;simp only[bh,AW]at d;obtain⟨a,i,rfl,b,m⟩:=d;refine⟨a,rfl,⟨i,b.sq⟩,q _ _ f λHs hs u c h=>.enum ?_ (m.part c h)⟩;rcases b with⟨o,b⟩|b
  ·exact .inl (.inr ⟨o,(c _ _ _ b).trans b⟩)
  ·exact .inr b
 ·cases e
theorem VT(c:Gl X "enumerate")(b:X.mg "enumerate"=Y)(a:Vb X [e] fs)(hs:A9 [e] X.env=[(false,eval e X.env)]:=by rfl):FD X (.Tuple elts x1 tpos) (.Call (.Name "enumerate" p) [e] [] pos) (λρ=>(fs ρ).bind Qj):=⟨Pd c b a.run hs⟩
end
def FC(j i:Nat)(f:Ev->O Bx):Ev->O An:=λρ=>(f ρ).bind λb=>match b with
 |.z (.int k)=>match ρ[i]? with
  |some (U (.o ds))=>if -(2 ^ 62)<=k/\k<2 ^ 62 then(seqIndex? k ds.length).bind λm=>(ds[m]?).bind λd=>(WW (ρ.set i (U (.o (ds.eraseIdx m)))) j (.z d)).bind λa=>U (.nx a)else Y
  |_=>Y
 |_=>Y
theorem GC{K:B1}{H:Hp}:∀(m:Nat) {ds:Z Dt} {vs:Z V},aK K H ds vs->aK K H (ds.eraseIdx m) (vs.eraseIdx m)
 |m,[],vs,h=>by
  cases vs with
  |nil=>exact h
  |cons v vs=>have:=h.length;simp at this
 |m,d::ds,vs,h=>by
  cases vs with
  |nil=>have:=h.length;simp at this
  |cons v vs=>
   obtain⟨a,r,e,q,t⟩:∃a r,v::vs=a::r/\AW K H d a/\aK K H ds r:=by
    simpa only[aK]using h
   cases e;cases m with
   |zero=>exact t
   |succ m=>exact aK.cons q (GC m t)
theorem b4(j i:Nat){p:Pos}(nd:X.N.Nodup)(he:PV X e f)(hN:X.N[i]?=U x:=by rfl)(W:U3 X.env.scope x:=by first|exact JS rfl|exact QY (JS S)|exact QY (QY S))(A:(x==("__debug__":AJ))=false:=by decide)(a0:(x==("__classdict__":AJ))=false:=by decide)(o:A9 [e] X.env=[(false,eval e X.env)]:=by rfl)(K:attributeBase (.Name x p) "pop" X.env (eval (.Name x p) X.env)=eval (.Name x p) X.env:=by rfl)(a2:((AD cpos (A9 [e] X.env)).all (λx=>!x.1)&&(backToKw cpos (keywordEach [] X.env)).all (λx=>x.1.isSome)
   && decide ([e].length+([]:Z AC).length+(if([]:Z AC).isEmpty then 0 else 1)<30))=true:=by rfl)(I:(apos.endLine==cpos.line)=true:=by rfl)(hj:X.N[j]?=U y:=by rfl)(C:D7 X.env.scope y:=by first|exact JS rfl|exact QY S)(hs:swapsWith (.Call (.Attribute (.Name x p) "pop" apos) [e] [] cpos) (U (.Name y p2)) pos.line X.env=pure false:=by rfl)(Q:X.fn y=true\/X.env.scope.names.lookup y=U .local:=by first|exact .inl rfl|exact .inr S):
  F' X (.Assign [.Name y p2] (.Call (.Attribute (.Name x p) "pop" apos) [e] [] cpos) pos) (FC j i f):=
 Oi (zV nd hj C (U8 Ya PySem.F.slot_list_pop PySem.F.type_list_pop Y5 (rH (i:=i) hN W A a0) (bw he d7 (by rw[o]<;>rfl)) K a2 I (by rw[o]<;>rfl) S) hs Q) λD σ H h=>by
  obtain⟨H0,ρ,r,E,e,q⟩:=h;obtain⟨b,eb,e⟩:=AT e;split at e
  ·rename_i k;split at e
   ·rename_i ds n;split at e
    ·rename_i hb;obtain⟨m,em,e⟩:=AT e;obtain⟨d,B,e⟩:=AT e;obtain⟨a3,a1,e⟩:=AT e;cases e;obtain⟨v,e1,a,vs,rfl,l,s⟩:=E.val i _ n;refine⟨_,e1,.inl ⟨rfl,vs,.inl (.inl l)⟩,H0,ρ,_,E,eb,λu H1 c n1 G=>?_⟩;have M:=E.grow c;have t:=s.kp (.of c);obtain⟨w,ew,L⟩:=t.get B;have J:u=.int k:=by simpa only[bh,AW]using G
     subst J;have g:=c _ _ l;refine⟨a,vs,k,m,w,rfl,rfl,g,by omega,by omega,by rw[s.length];exact em,ew,?_⟩;have P:=M.R0 n e1 g (GC m t);have kp:Kp H1 (B0 H1 a (.lst (vs.eraseIdx m))):=.lst g;exact q _ _ (Vd P (AV.refl _) (b:=.z d) (by simp only[bh];exact AW.kp kp L) trivial a1)
    ·cases e
   ·cases e
  ·cases e
theorem b7(j i:Nat){p:Pos}(n:X.N.Nodup)(he:QV X e f)(c:X.N[i]?=U x:=by rfl)(q:U3 X.env.scope x:=by first|exact JS rfl|exact QY (JS S)|exact QY (QY S))(g:(x==("__debug__":AJ))=false:=by decide)(d:(x==("__classdict__":AJ))=false:=by decide)(a:A9 [e] X.env=[(false,eval e X.env)]:=by rfl)(o:attributeBase (.Name x p) "pop" X.env (eval (.Name x p) X.env)=eval (.Name x p) X.env:=by rfl)(s:((AD cpos (A9 [e] X.env)).all (λx=>!x.1)&&(backToKw cpos (keywordEach [] X.env)).all (λx=>x.1.isSome)
   && decide ([e].length+([]:Z AC).length+(if([]:Z AC).isEmpty then 0 else 1)<30))=true:=by rfl)(m:(apos.endLine==cpos.line)=true:=by rfl)(l:X.N[j]?=U y:=by rfl)(h:D7 X.env.scope y:=by first|exact JS rfl|exact QY S)(hs:swapsWith (.Call (.Attribute (.Name x p) "pop" apos) [e] [] cpos) (U (.Name y p2)) pos.line X.env=pure false:=by rfl)(b:X.fn y=true\/X.env.scope.names.lookup y=U .local:=by first|exact .inl rfl|exact .inr S):
  K4 X (.Assign [.Name y p2] (.Call (.Attribute (.Name x p) "pop" apos) [e] [] cpos) pos) (FC j i f):=
 ⟨b4 j i n he.run c q g d a o s m l h hs b⟩
def FX(ρ:Ev)(i:Nat):Bx->O An
 |.o zs=>match ρ[i]? with
  |some (U (.o ds))=>if ds.length+zs.length<=AA then U (.nx (ρ.set i (U (.o (ds++zs)))))else Y
  |_=>Y
 |_=>Y
def F2(i:Nat)(f:Ev->O Bx):Ev->O An:=λρ=>(f ρ).bind (FX ρ i)
theorem d5(i:Nat){p:Pos}(he:PV X e f)(n:X.N[i]?=U x:=by rfl)(I:U3 X.env.scope x:=by first|exact JS rfl|exact QY (JS S)|exact QY (QY S))(w:(x==("__debug__":AJ))=false:=by decide)(s:(x==("__classdict__":AJ))=false:=by decide)(g:A9 [e] X.env=[(false,eval e X.env)]:=by rfl)(G:attributeBase (.Name x p) "extend" X.env (eval (.Name x p) X.env)=eval (.Name x p) X.env:=by rfl)(t:((AD cpos (A9 [e] X.env)).all (λx=>!x.1)&&(backToKw cpos (keywordEach [] X.env)).all (λx=>x.1.isSome)
   && decide ([e].length+([]:Z AC).length+(if([]:Z AC).isEmpty then 0 else 1)<30))=true:=by rfl)(C:(apos.endLine==cpos.line)=true:=by rfl)(hs:swapsWith (.Call (.Attribute (.Name x p) "extend" apos) [e] [] cpos) Y pos.line X.env=pure false:=by rfl):
  F' X (.Expr (.Call (.Attribute (.Name x p) "extend" apos) [e] [] cpos) pos) (F2 i f):=
 Oi (yj (U8 Ya PySem.F.slot_list_extend PySem.F.type_list_extend WK (rH (i:=i) n I w s) (bw he d7 (by rw[g]<;>rfl)) G t C (by rw[g]<;>rfl) S) hs) λD σ H h=>by
  obtain⟨H0,ρ,r,E,e,q⟩:=h;obtain⟨b,eb,e⟩:=AT e;cases b with
  |o zs=>
   simp only[FX]at e;split at e
   ·rename_i ds m;split at e
    ·rename_i y;cases e;obtain⟨v,e1,a,vs,rfl,d,l⟩:=E.val i _ m;refine⟨_,e1,.inl ⟨rfl,vs,.inl (.inl d)⟩,H0,ρ,_,E,eb,λu H1 c J z=>?_⟩;have B:=E.grow c;obtain⟨b,A,rfl,hb,j⟩:=z;refine⟨a,b,vs,A,rfl,rfl,c _ _ d,hb,by rw[l.length,j.length];exact y,q _ _ ?_⟩;exact B.R0 m e1 (c _ _ d) ((l.kp (.of c)).append j)
    ·cases e
   ·cases e
  |_=>cases e
theorem Oy(i:Nat){p:Pos}(he:QV X e f)(b:X.N[i]?=U x:=by rfl)(l:U3 X.env.scope x:=by first|exact JS rfl|exact QY (JS S)|exact QY (QY S))(g:(x==("__debug__":AJ))=false:=by decide)(c:(x==("__classdict__":AJ))=false:=by decide)(a:A9 [e] X.env=[(false,eval e X.env)]:=by rfl)(j:attributeBase (.Name x p) "extend" X.env (eval (.Name x p) X.env)=eval (.Name x p) X.env:=by rfl)(d:((AD cpos (A9 [e] X.env)).all (λx=>!x.1)&&(backToKw cpos (keywordEach [] X.env)).all (λx=>x.1.isSome)
   && decide ([e].length+([]:Z AC).length+(if([]:Z AC).isEmpty then 0 else 1)<30))=true:=by rfl)(h:(apos.endLine==cpos.line)=true:=by rfl)(hs:swapsWith (.Call (.Attribute (.Name x p) "extend" apos) [e] [] cpos) Y pos.line X.env=pure false:=by rfl):
  K4 X (.Expr (.Call (.Attribute (.Name x p) "extend" apos) [e] [] cpos) pos) (F2 i f):=⟨d5 i he.run b l g c a j d h hs⟩
section
variable{ek ev:Expr}
def IP:Ev->O An:=λ_=>Y
theorem adN:K4 X st IP:=⟨λD AN s σ H I q=>by
 obtain⟨H0,ρ,r,E,e,q⟩:=q;cases e⟩
def BK(f:Ev->O Bx):Ev->O An:=λρ=>(f ρ).bind λ_=>U (.nx ρ)
theorem Mh(he:QV X e f)(hs:swapsWith e Y pos.line X.env=pure false:=by rfl):K4 X (.Expr e pos) (BK f):=⟨Oi (yj he.run hs) λD σ H h=>by
 obtain⟨H0,ρ,r,E,e,q⟩:=h;obtain⟨b,eb,e⟩:=AT e;cases e;exact⟨H0,ρ,b,E,eb,λv H1 a c d=>q _ _ (E.grow a)⟩⟩
def J2:Bx->Bx->O Bx
 |.z (.str x),.z d=>U (.m [(.inr x,d)] Y)
 |_,_=>Y
theorem Tt{a c:Bx}(h:J2 a b=U c):∃x d,a=.z (.str x)/\b=.z d/\c=.m [(.inr x,d)] Y:=by
 unfold J2 at h;split at h
 ·cases h;exact⟨_,_,rfl,rfl,rfl⟩
 ·cases h
theorem b9(m:QV X ek fk)(t:QV X ev fv):QV X (.Dict [U ek] [ev] pos) (b2 J2 fk fv):=⟨Ii (OE (Za m.run t.run iA) S S (by simp) (zz S)) λσ H Q h=>by
 obtain⟨H0,ρ,c,E,e,q⟩:=h;obtain⟨a,ea,e⟩:=AT e;obtain⟨b,eb,e⟩:=AT e;intro p hp;have g:AV H (B0 H p (.dK [])):=bI hp;refine⟨H0,ρ,a,E.grow g,ea,λv H1 f y n=>⟨H0,ρ,b,(E.grow g).grow f,eb,λw H2 i u s=>?_⟩⟩;obtain⟨x,d,rfl,rfl,rfl⟩:=Tt e;obtain⟨rfl,hx⟩:v=.str x/\x.length<=AA:=by simpa only[bh,AW]using n
 have j:H2 p=U (.dK []):=i _ _ (f _ _ aU);have kp:Kp H2 (B0 H2 p (.dK (z7 [] [(Sum.inr x,w)]))):=.dk j;refine⟨j,[(Sum.inr x,w)],rfl,zz rfl,q _ _ ?_ (λa ea=>by cases ea;exact hp) ⟨p,_,rfl,aU,?_,λb h=>by cases h⟩⟩
 ·intro b o hb;have l:b≠p:=λz=>by rw[z,hp]at hb;cases hb
  rw[aP l];exact i _ _ (f _ _ (g _ _ hb))
 ·exact fL.cons (p:=(Sum.inr x,d)) (AW.kp kp s) hx fL.nil⟩
def G1(AO:Z (AY×α))(x:AY):Bool:=AO.any λa=>decide (a.1=x)
def Xw(a:Bx):Bx->O Bx
 |.n AO=>(Cl a).bind λx=>U (.z (.bl (!G1 AO x)))
 |_=>Y
theorem fL.alp{p:A1}{ks:Z (AY×V)}(a:Rd H p (.dK ks))(b:fL K H AO ks)(x:AY):∃o,Y7 H p (kV x) o/\o.isSome=G1 AO x:=by
 refine⟨zY ks x,.inl ⟨ks,x,a,rfl,rfl⟩,?_⟩;unfold G1 zY;rw[<-b.any,Option.isSome_map,JE,List.find?_isSome,QP]
theorem VF(w:X.A.units+100<cLine):Dy X (AG .NotIn) Xw:=by
 intro AN s σ H x y v u Q I m l h;obtain⟨a,b,c,d,n,e,q⟩:=h;unfold Xw at e;split at e
 ·rename_i AO;obtain⟨k,ek,e⟩:=AT e;cases e;obtain⟨p,ks,rfl,f,j⟩:=n;obtain⟨rfl,_⟩:=Li ek d;cases l;obtain⟨o,g,i⟩:=j.alp f k;exact eg (by omega) I g m λs' t=>⟨.bl (!o.isSome),H,t,rfl,q _ H (AV.refl H) trivial (by simp only[bh,AW];rw[i])⟩
 ·cases e
end
section
variable{st:Expr}{fs:Ev->O Bx}
def Tv(a b:Bx):O Bx:=(oV a).bind λds=>match b with
 |.z (.int i)=>if i = -1 then U (.o ds.reverse)else Y
 |_=>Y
theorem Xx{a c:Bx}(h:Tv a b=U c):∃ds,oV a=U ds/\b=.z (.int (-1))/\c=.o ds.reverse:=by
 unfold Tv at h;obtain⟨ds,d,h'⟩:=AT h;clear h;split at h'
 ·split at h'
  ·rename_i hi;subst hi;injection h' with h';exact⟨ds,d,rfl,h'.symm⟩
  ·cases h'
 ·cases h'
theorem VG(he:QV X e f)(D:QV X st fs)(J:∀v i:A0,subscripted (.Slice Y Y (U st) p2) false v i=operate [v,i] (getItem v i):=by intro _ _;with_unfolding_all rfl):QV X (.Subscript e (.Slice Y Y (U st) p2) pos) (b2 Tv f fs):=by
 refine⟨?_⟩;intro AN s σ H Q I h;obtain⟨H0,ρ,c,E,g,q⟩:=h;obtain⟨a,ea,g⟩:=AT g;obtain⟨b,eb,g⟩:=AT g;refine Subscript_ (gM (he.run AN s σ H (λx H1=>AV H H1/\bh X.K H1 a x) I ⟨H0,ρ,a,E,ea,λv H1 l N m=>⟨l,m⟩⟩) λv l ⟨x,H1,I1,m,sm1,BM⟩=>?_);refine wpAny_Slice ?_;rw[evalPart_none];refine ze ?_;refine ze ?_;rw[evalPart_some];refine gM (D.run AN l σ H1 (λy H2=>AV H1 H2/\bh X.K H2 b y) I1 ⟨H0,ρ,b,E.grow sm1,eb,λv H2 d M t=>⟨d,t⟩⟩) λvk d ⟨y,H2,I2,t,sm2,F3⟩=>?_;obtain⟨ds,G,rfl,rfl⟩:=Xx g;have F:y=.int (-1):=by simpa only[bh,AW]using F3
 subst F;obtain⟨tk,rfl⟩:=t;obtain⟨p,vs,rfl,sq,L⟩:=(BM.same sm2).HW G;cases m;have n:L2.AU X AN σ H2 { d with heap:=d.heap.push { cls:=.type "slice",data:=.fields #[.none,.none,.int (-1) tk] } }:=I2.kept (t':=d.toks) λb C q=>zd _ q;obtain⟨AQ,r,u,B⟩:=n.list sq;show A7 (A8 X.prog X.w) X.A (subscriptTail e (.Slice Y Y (U st) p2) (.ref p) (.ref d.heap.objs.size)) (EP X AN σ Q) X.xe { d with heap:=d.heap.push { cls:=.type "slice",data:=.fields #[.none,.none,.int (-1) tk] } };refine tail_any (ops:=[.ref p,.ref d.heap.objs.size]) u.isList.typeIs list_getitem_lookup (wpAny_getItem_list_slice u.isList (Heap.IsSliceOf.new ..) .none .none (.int _ _) (by decide) ?_ (by rw[zI,<-r.length];exact B)) (J _ _);rw[PySem.W.krv_pick];have j:=n.hok.fresh (zg _);refine⟨.ref _,_,n.laid (t':=d.toks) (o:=.lst vs.reverse) (λb C q=>zd _ q) (zg _) ?_,rfl,q _ _ ((sm1.trans sm2).trans (bI j)) (λa z=>by cases z;exact(sm1.trans sm2).free j) ?_⟩
 ·exact⟨by rw[List.length_reverse];exact B,AQ.reverse,0,r.reverse,zv _ rfl⟩
 ·exact⟨_,_,rfl,aU,(aK.rev L).kp (.of (bI j))⟩
end
theorem ad{a b:Nat}(h:a≠b):@Ne A1 a b:=h
section
variable{K:Type} [DecidableEq K] {knd:KeyKind prog w K}
end
section
variable{ea eb:Expr}{p1 pos1 pos2:Pos}
end
theorem uD(xs:AZ)(is:Z Nat)(b:closureFor scope X.env=pure cl:=by with_unfolding_all rfl)(a:scope.kind=.function:=by rfl)(e:scope.names.all (λy=>decide (y.2≠.cell)||(cl.lookup y.1).isNone)=true:=by rfl)(c:scope.names.all (λy=>decide (y.2=.local->scope.names.lookup y.1=U .local))=true:=by decide +kernel)(sub:C7 X.env.cells cl:=by repeat (first|exact trivial|refine⟨rfl,?_⟩))(has:(relabel scope X.env).names.all (λy=>!(y.2==.cell||y.2==.free)||(cl.lookup y.1).isSome||scope.names.contains (y.1,.cell))=true:=by rfl)(d:Ik X scope cl xs is:=by repeat (first|exact Pi|refine ba S (by first|exact .inl rfl|exact .inr S) (by first|exact .inl rfl|exact .inr S) ⟨_,rfl⟩ ?_)):rM X scope cl xs is:=Ta b a e c sub has d
theorem j4{a:Scope}(h1:a.kind=.function:=by rfl)(h2:a.isCoroutine=false:=by rfl)(c:a.isGenerator=false:=by rfl)(d:N.Nodup:=by decide +kernel)(e:N.take ps.length=ps:=by rfl)(f:∀x∈ps,a.names.lookup x=U .local\/a.names.lookup x=U .cell:=by decide +kernel)(b:∀y∈a.names,y.2≠.free:=by decide +kernel):bB N ps a:=⟨h1,h2,c,d,e,f,b⟩
instance:Inhabited Dt:=⟨.non⟩
theorem Au(a:α)(f:α->O β):(U a).bind f=f a:=(JI a f).trans (Eq.refl _)
def hold:O Prop->Prop
 |none=>True
 |some p=>p
def bA:O Prop->O Prop->O Prop
 |none,q=>q
 |some p,Y=>U p
 |some p,U q=>U (p/\q)
def Mi(c:Prop):O Prop->O Prop
 |none=>Y
 |some p=>U (c->p)
theorem aB{p q:O Prop}(h:hold (bA p q)):hold p/\hold q:=by
 cases p with
 |none=>exact⟨trivial,h⟩
 |some p=>cases q with
  |none=>exact⟨h,trivial⟩
  |some q=>exact h
theorem mD{c:Prop}{p:O Prop}(h:hold (Mi c p))(a:c):hold p:=by
 cases p with
 |none=>trivial
 |some p=>exact h a
structure R {α β:Type} (f:Ev->Option β) (ρ:Ev) (c:α->β) where
 v:α
 D:Option Prop
 ok:hold D->f ρ=some (c v)
abbrev zE(e:α->Dt):α->Bx:=λa=>.z (e a)
abbrev oE(e:α->Dt):Z α->Bx:=λxs=>.o (xs.map e)
abbrev lE(e:α->Dt):Z α->Bx:=λxs=>.l (xs.map e)
abbrev tE:Bool->Bool:=λb=>b
abbrev iE(e:α->Dt):Z α->Z Dt:=λxs=>xs.map e
abbrev eI:Int->Dt:=Dt.int
abbrev eB:Bool->Dt:=Dt.bl
abbrev eS:AJ->Dt:=Dt.str
abbrev eD:Dt->Dt:=λd=>d
abbrev eN:Unit->Dt:=λ_=>.non
abbrev eL(e:α->Dt):Z α->Dt:=λxs=>.lst (xs.map e)
abbrev eT(e:α->Dt):Z α->Dt:=λxs=>.tup (xs.map e)
abbrev eO(e:α->Dt):O α->Dt:=λo=>match o with|none=>.non|some a=>e a
abbrev MQ(a:α->Dt):α->Dt:=λx=>.tup [a x]
abbrev Xy(a:α->Dt)(b:β->Dt):α×β->Dt:=λx=>.tup [a x.1,b x.2]
abbrev EF(a:α->Dt)(b:β->Dt)(c:γ->Dt):α×β×γ->Dt:=λx=>.tup [a x.1,b x.2.1,c x.2.2]
abbrev EE(a:α->Dt)(b:β->Dt)(c:γ->Dt)(d:δ->Dt):α×β×γ×δ->Dt:=λx=>.tup [a x.1,b x.2.1,c x.2.2.1,d x.2.2.2]
structure RL {α:Type} (f:Ev->Option Bx) (ρ:Ev) (e:α->Dt) where
 v:List α
 D:Option Prop
 b:Bx
 lk:oV b=some (v.map e)
 ok:hold D->f ρ=some b
section
variable{fs:Ev->O (Z Bx)}{e:α->Dt}{e':β->Dt}
def gC(a:R f ρ (oE e)):RL f ρ e:=⟨a.v,a.D,_,rfl,a.ok⟩
def cX(a:R f ρ (lE e)):RL f ρ e:=⟨a.v,a.D,_,rfl,a.ok⟩
def yV(a:R f ρ (zE (eL e))):RL f ρ e:=⟨a.v,a.D,_,rfl,a.ok⟩
def Lp(b:Bx)(ds:Z Dt):Prop:=b=.z (.lst ds)\/b=.l ds
theorem Lp.HW(h:Lp b ds):oV b=U ds:=by rcases h with rfl|rfl<;>rfl
theorem Lp.get{b:Bx}{ds:Z Dt}{i:Nat}(h:Lp b ds)(hi:ρ[i]?=U (U b)):yu ρ i=U b:=by
 rcases h with rfl|rfl<;>(unfold yu;rw[hi])
theorem o8(h:oV b=U ds):Lp (P1.lend b) ds:=by
 cases b with
 |z d=>cases d<;>cases h;exact .inl rfl
 |l d=>cases h;exact .inr rfl
 |o d=>cases h;exact .inr rfl
 |n d=>cases h
 |m d _=>cases h
def aq(i:Nat)(c:α->Bx)(a:α)(h:yu ρ i=U (c a)):R (gv i) ρ c:=⟨a,Y,λ_=>h⟩
def jA(i:Nat)(e:α->Dt)(a:Z α)(h:Lp b (a.map e))(hi:ρ[i]?=U (U b)):RL (gv i) ρ e:=⟨a,Y,b,h.HW,λ_=>h.get hi⟩
def yW(d:Dt)(e:α->Dt)(a:α)(h:d=e a):R (cB d) ρ (zE e):=⟨a,Y,λ_=>by rw[h];rfl⟩
def GD(a:R f ρ (zE e)):R f ρ (zE eD):=⟨e a.v,a.D,a.ok⟩
def GF(a:R f ρ (zE e)):R f ρ (zE (eO e)):=⟨U a.v,a.D,a.ok⟩
def Tw:R (cB .non) ρ (zE (eO e)):=⟨Y,Y,λ_=>S⟩
def BL[Inhabited α](a:R f ρ (zE (eO e))):R f ρ (zE e):=⟨a.v.getD default,bA a.D (U (a.v.isSome=true)),λh=>by
 obtain⟨h1,h2⟩:=aB h;rw[a.ok h1];have h2:a.v.isSome=true:=h2;cases b:a.v with
 |none=>rw[b]at h2;cases h2
 |some x=>rfl⟩
def Mj(a:R f ρ (oE e)):R (b1 vW f) ρ (zE (eL e)):=⟨a.v,a.D,λh=>by simp only[b1,a.ok h,Au,vW]⟩
def jP(a:R f ρ (zE e)):R (b1 vW f) ρ (zE e):=⟨a.v,a.D,λh=>by simp only[b1,a.ok h,Au,vW]⟩
def fP(a:R fa ρ (zE eI))(b:R fb ρ (zE eI)):R (b2 dH fa fb) ρ (zE eI):=⟨a.v+b.v,bA a.D b.D,λh=>by
 obtain⟨h1,h2⟩:=aB h;simp only[b2,a.ok h1,b.ok h2,Au,dH]⟩
def Qk(a:R fa ρ (zE eI))(b:R fb ρ (zE eI)):R (b2 C5 fa fb) ρ (zE eI):=⟨a.v-b.v,bA a.D b.D,λh=>by
 obtain⟨h1,h2⟩:=aB h;simp only[b2,a.ok h1,b.ok h2,Au,i2]⟩
def FI(a b:Int):Prop:=(-18446744073709551616<a/\a<18446744073709551616)\/(-18446744073709551616<b/\b<18446744073709551616)
def IE(a:R fa ρ (zE eI))(b:R fb ρ (zE eI)):R (b2 uU fa fb) ρ (zE eI):=⟨a.v*b.v,bA (bA a.D b.D) (U (FI a.v b.v)),λh=>by
 obtain⟨h,c⟩:=aB h;obtain⟨h1,h2⟩:=aB h;simp only[b2,a.ok h1,b.ok h2,Au];exact zh c⟩
def Ml(n:Int)(a : -18446744073709551616<n/\n<18446744073709551616)(b:R fb ρ (zE eI)):R (b2 uU (cB (.int n)) fb) ρ (zE eI):=⟨n*b.v,b.D,λh=>by
 simp only[b2,b.ok h,Au,cB];exact zh (.inl a)⟩
def VH(a:R fa ρ (zE eI))(n:Int)(b : -18446744073709551616<n/\n<18446744073709551616):R (b2 uU fa (cB (.int n))) ρ (zE eI):=⟨a.v*n,a.D,λh=>by
 simp only[b2,a.ok h,Au,cB];exact zh (.inr b)⟩
def su(a:R fa ρ (zE eI))(n:Int)(b:0<n/\n<1073741824):R (b2 yI fa (cB (.int n))) ρ (zE eI):=⟨a.v / n,a.D,λh=>by
 simp only[b2,a.ok h,Au,i2,cB,zh b]⟩
def vA(a:R fa ρ (zE eI))(b:R fb ρ (zE eI)):R (b2 fj fa fb) ρ (zE eI):=⟨a.v%b.v,bA (bA a.D b.D) (U (0<b.v)),λh=>by
 obtain⟨h,c⟩:=aB h;obtain⟨h1,h2⟩:=aB h;have c:0<b.v:=c;simp only[b2,a.ok h1,b.ok h2,Au,i2,zh c]⟩
def cQ(a:R fa ρ (zE eI))(n:Int)(b:0<n):R (b2 fj fa (cB (.int n))) ρ (zE eI):=⟨a.v%n,a.D,λh=>by
 simp only[b2,a.ok h,Au,i2,cB,zh b]⟩
def SC(a b:Int)(n:Nat)(h:0<=b/\b<=1000/\a.natAbs<18446744073709551616)(hb:b.toNat=n):R (b2 Ha (cB (.int a)) (cB (.int b))) ρ (zE eI):=⟨a ^ n,Y,λ_=>by
 simp only[b2,Au,cB];show((if 0<=b/\b<=1000/\a.natAbs<2 ^ 64 then U (Dt.int (a ^ b.toNat))else Y).bind λd=>U (Bx.z d))=_;rw[zh h,hb];rfl⟩
def NU(a:R fa ρ (zE eI))(b:R fb ρ (zE eI)):R (b2 Fa fa fb) ρ (zE eB):=⟨decide (a.v<=b.v),bA a.D b.D,λh=>by
 obtain⟨h1,h2⟩:=aB h;simp only[b2,a.ok h1,b.ok h2,Au,i2]⟩
def MO(a:R fa ρ (zE eI))(b:R fb ρ (zE eI)):R (b2 FY fa fb) ρ (zE eB):=⟨decide (b.v<a.v),bA a.D b.D,λh=>by
 obtain⟨h1,h2⟩:=aB h;simp only[b2,a.ok h1,b.ok h2,Au,i2]⟩
def Gc(a:R fa ρ (zE eI))(b:R fb ρ (zE eI)):R (b2 GL fa fb) ρ (zE eB):=⟨decide (b.v<=a.v),bA a.D b.D,λh=>by
 obtain⟨h1,h2⟩:=aB h;simp only[b2,a.ok h1,b.ok h2,Au,i2]⟩
def Mm(a:R fa ρ (zE eI))(b:R fb ρ (zE eI)):R (b2 EM fa fb) ρ (zE eB):=⟨decide (a.v<b.v),bA a.D b.D,λh=>by
 obtain⟨h1,h2⟩:=aB h;simp only[b2,a.ok h1,b.ok h2,Au,EM]⟩
def Cc(x y:AJ):Bool:=decide (x.cps.toList<y.cps.toList)
end
class B6 {α:Type} [DecidableEq α] (e:α->Dt) (n:outParam Nat):Prop where
 eq:∀a b,uz (e a) (e b)=some (decide (a=b))
 dp:∀a,uc (e a)<=n
class CS {α:Type} (e:α->Dt):Prop where
 l:∀a,uz .non (e a)=some false
 r:∀a,uz (e a) .non=some false
instance:B6 eI 1:=⟨λa b=>rfl,λa=>by simp[uc]⟩
instance:B6 eB 1:=⟨λa b=>rfl,λa=>by simp[uc]⟩
instance:B6 eS 1:=⟨λa b=>rfl,λa=>by simp[uc]⟩
instance:CS eI:=⟨λa=>rfl,λa=>rfl⟩
instance:CS eB:=⟨λa=>rfl,λa=>rfl⟩
instance:CS eS:=⟨λa=>rfl,λa=>rfl⟩
section
variable [DecidableEq α] [DecidableEq β] [DecidableEq γ] [DecidableEq δ] {e:α->Dt}{e':β->Dt}{e'':γ->Dt}{e3:δ->Dt}{m k l:Nat}
theorem GJ[B6 e n]:∀xs ys:Z α,lu (xs.map e) (ys.map e)=U (decide (xs=ys))
 |[],[]=>by simp[lu]
 |[],y::ys=>by simp[lu]
 |x::xs,[]=>by simp[lu]
 |x::xs,y::ys=>by
  simp only[zw,lu,B6.eq,GJ xs ys];congr 1;by_cases h:x=y<;>by_cases h':xs=ys<;>simp[h,h']
theorem GK[B6 e n]:∀xs:Z α,uQ (xs.map e)<=n
 |[]=>by simp[uQ]
 |x::xs=>by
  have:=B6.dp (e:=e) x;have:=GK xs;simp only[zw,uQ];omega
instance [B6 e n]:B6 (eL e) (n+1):=⟨λa b=>GJ a b,λa=>by simp only[uc];have:=GK (e:=e) a;omega⟩
instance [B6 e n]:B6 (eT e) (n+1):=⟨λa b=>GJ a b,λa=>by simp only[uc];have:=GK (e:=e) a;omega⟩
instance:CS (eL e):=⟨λa=>rfl,λa=>rfl⟩
instance:CS (eT e):=⟨λa=>rfl,λa=>rfl⟩
instance:CS (MQ e):=⟨λa=>rfl,λa=>rfl⟩
instance:CS (Xy e e'):=⟨λa=>rfl,λa=>rfl⟩
instance:CS (EF e e' e''):=⟨λa=>rfl,λa=>rfl⟩
instance:CS (EE e e' e'' e3):=⟨λa=>rfl,λa=>rfl⟩
instance [B6 e n]:B6 (MQ e) (n+1):=⟨λa b=>by
 simp only[DP,lu,B6.eq,Ki],λa=>by
 have:=B6.dp (e:=e) a;simp only[uc,uQ];omega⟩
instance [B6 e n] [B6 e' m]:B6 (Xy e e') (max n m+1):=⟨λa b=>by
 obtain⟨a,a'⟩:=a;obtain⟨b,b'⟩:=b;simp only[DP,lu,B6.eq,Prod.mk.injEq,Bool.decide_and,Ki],λa=>by
 have:=B6.dp (e:=e) a.1;have:=B6.dp (e:=e') a.2;simp only[uc,uQ];omega⟩
instance [B6 e n] [B6 e' m] [B6 e'' k]:B6 (EF e e' e'') (max n (max m k)+1):=⟨λa b=>by
 obtain⟨a,a',a2⟩:=a;obtain⟨b,b',b2⟩:=b;simp only[DP,lu,B6.eq,Prod.mk.injEq,Bool.decide_and,Ki],λa=>by
 have:=B6.dp (e:=e) a.1;have:=B6.dp (e:=e') a.2.1;have:=B6.dp (e:=e'') a.2.2;simp only[uc,uQ];omega⟩
instance [B6 e n] [B6 e' m] [B6 e'' k] [B6 e3 l]:B6 (EE e e' e'' e3) (max n (max m (max k l))+1):=⟨λa b=>by
 obtain⟨a,a',a2,a3⟩:=a;obtain⟨b,b',b2,b3⟩:=b;simp only[DP,lu,B6.eq,Prod.mk.injEq,Bool.decide_and,Ki],λa=>by
 have:=B6.dp (e:=e) a.1;have:=B6.dp (e:=e') a.2.1;have:=B6.dp (e:=e'') a.2.2.1;have:=B6.dp (e:=e3) a.2.2.2;simp only[uc,uQ];omega⟩
instance [B6 e n] [CS e]:B6 (eO e) (n+1):=⟨λa b=>by
 cases a with
 |none=>cases b with
  |none=>exact rfl
  |some b=>exact(CS.l (e:=e) b).trans (by simp)
 |some a=>cases b with
  |none=>exact(CS.r (e:=e) a).trans (by simp)
  |some b=>exact(B6.eq (e:=e) a b).trans (by simp),λa=>by
 cases a with
 |none=>show uc .non<=n+1;simp[uc]
 |some a=>exact Nat.le_succ_of_le (B6.dp (e:=e) a)⟩
end
section
variable{fs:Ev->O (Z Bx)}{e:α->Dt}{e':β->Dt}
def C4[DecidableEq α][B6 e n](c:n<=100)(a:R fa ρ (zE e))(b:R fb ρ (zE e)):R (b2 BQ fa fb) ρ (zE eB):=⟨decide (a.v=b.v),bA a.D b.D,λh=>by
 obtain⟨h1,h2⟩:=aB h;have:=B6.dp (e:=e) a.v;simp only[b2,a.ok h1,b.ok h2,Au,BQ,oX,toD,zr,or_self,ZO,B6.eq];rw[zh (by omega)]⟩
def IA[DecidableEq α][B6 e n](c:n<=100)(a:R fa ρ (zE e))(b:R fb ρ (zE e)):R (b2 Sq fa fb) ρ (zE eB):=⟨!decide (a.v=b.v),bA a.D b.D,λh=>by
 obtain⟨h1,h2⟩:=aB h;have:=B6.dp (e:=e) a.v;simp only[b2,a.ok h1,b.ok h2,Au,Sq,oX,toD,zr,or_self,ZO,B6.eq];rw[zh (by omega)]⟩
theorem Eh(h:oV b=U ds):toD b=.lst ds/\oX b=false:=by
 cases b with
 |z d=>cases d<;>cases h;exact⟨rfl,rfl⟩
 |l d=>cases h;exact⟨rfl,rfl⟩
 |o d=>cases h;exact⟨rfl,rfl⟩
 |n d=>cases h
 |m d _=>cases h
def HC[DecidableEq α][B6 e n](c:n+1<=100)(a:RL fa ρ e)(b:RL fb ρ e):R (b2 Sq fa fb) ρ (zE eB):=⟨!decide (a.v=b.v),bA a.D b.D,λh=>by
 obtain⟨h1,h2⟩:=aB h;simp only[b2,a.ok h1,b.ok h2,Au,Sq,(Eh a.lk).1,(Eh a.lk).2,(Eh b.lk).1,(Eh b.lk).2,zr,or_self,ZO];have e1:=B6.eq (e:=eL e) a.v b.v;rw[zh (ZH (Nat.min_le_left _ _) (ZH (B6.dp (e:=eL e) a.v) c)),e1,Au]⟩
def UB(a:R fa ρ (zE (eO e)))(b:∀x,Ga (.z (e x))=false):R (b2 DA fa (cB .non)) ρ (zE eB):=⟨a.v.isNone,a.D,λh=>by
 simp only[b2,a.ok h,Au,cB,DA];cases c:a.v with
 |none=>rfl
 |some x=>simp only[Option.isNone_some,b]⟩
def Ei(a:R fa ρ (zE (eO e)))(b:∀x,Ga (.z (e x))=false):R (b2 Bo fa (cB .non)) ρ (zE eB):=⟨a.v.isSome,a.D,λh=>by
 simp only[b2,a.ok h,Au,cB,Bo];cases c:a.v with
 |none=>rfl
 |some x=>simp only[yT,b,kX]⟩
def Ql(a:R fa ρ (zE eB))(b:R fb ρ (zE eB)):R (Om fa fb) ρ (zE eB):=⟨a.v&&b.v,bA a.D (Mi (a.v=true) b.D),λh=>by
 obtain⟨h1,h2⟩:=aB h;simp only[Om,a.ok h1,Au,KY];cases c:a.v with
 |true=>simp only[qS,ya];exact b.ok (mD h2 c)
 |false=>simp only[zr,ZO,yA]⟩
def Tz(a:R fa ρ (zE eB)):R (tV fa) ρ tE:=⟨a.v,a.D,λh=>by simp only[tV,a.ok h,Au,Zi]⟩
def ib(a:RL fa ρ e):R (tV fa) ρ tE:=⟨!a.v.isEmpty,a.D,λh=>by
 have:Zi a.b=U (!(a.v.map e).isEmpty):=by
  have:=a.lk;generalize a.v.map e=ds at this
  revert this
  generalize a.b=b;intro this;cases b with
  |z d=>cases d<;>cases this;rfl
  |l d=>cases this;rfl
  |o d=>cases this;rfl
  |n d=>cases this
  |m d _=>cases this
 simp only[tV,a.ok h,Au,this,List.isEmpty_map]⟩
def eE{g:Bx->Bx->O Bx}(a:R (b2 g fa fb) ρ (zE eB)):R (vZ g fa fb) ρ tE:=⟨a.v,a.D,λh=>by simp only[vZ,a.ok h,Au,KY]⟩
def VJ(a:R p ρ tE)(b:R q ρ tE):R (Ol p q) ρ tE:=⟨a.v&&b.v,bA a.D (Mi (a.v=true) b.D),λh=>by
 obtain⟨h1,h2⟩:=aB h;simp only[Ol,a.ok h1,Au];cases c:a.v with
 |true=>simp only[qS,ya];exact b.ok (mD h2 c)
 |false=>simp only[zr,ZO,yA]⟩
def EW(a:R p ρ tE)(b:R q ρ tE):R (D9 p q) ρ tE:=⟨a.v||b.v,bA a.D (Mi (a.v=false) b.D),λh=>by
 obtain⟨h1,h2⟩:=aB h;simp only[D9,a.ok h1,Au];cases c:a.v with
 |true=>simp only[qS,Bool.true_or]
 |false=>simp only[zr,ZO,Bool.false_or];exact b.ok (mD h2 c)⟩
def GP(a:R p ρ tE):R (Ij p) ρ tE:=⟨!a.v,a.D,λh=>by simp only[Ij,a.ok h,Au]⟩
def XB{g g':Bx->Bx->O Bx}(a:R (b2 g fa fb) ρ (zE eB))(b:R (b2 g' fb fc) ρ (zE eB)):R (F8 g g' fa fb fc) ρ (zE eB):=⟨a.v&&b.v,bA a.D (Mi (a.v=true) b.D),λh=>by
 obtain⟨h1,d⟩:=aB h;have e1:=a.ok h1;simp only[b2]at e1;obtain⟨x,ex,e1⟩:=AT e1;obtain⟨y,c,e1⟩:=AT e1;simp only[F8,ex,c,Au,e1,KY];cases e:a.v with
 |true=>
  have e2:=b.ok (mD d e);simp only[b2,c,Au]at e2;simp only[qS,ya];exact e2
 |false=>simp only[zr,ZO,yA]⟩
end
section
variable{ε:Type}{fd:Ev->O Bx}{fs:Ev->O (Z Bx)}{e:α->Dt}{e':β->Dt}{e'':γ->Dt}{e3:δ->Dt}
def WJ(e:α->Dt):R (cg qR aH) ρ (zE (eT e)):=⟨[],Y,λ_=>S⟩
def ce(a:R fa ρ (zE e))(b:R fb ρ (zE e')):R (cg qR (ao fa (ao fb aH))) ρ (zE (Xy e e')):=⟨(a.v,b.v),bA a.D b.D,λh=>by
 obtain⟨h1,h2⟩:=aB h;simp only[cg,ao,aH,a.ok h1,b.ok h2,Au];rfl⟩
def TF(a:R fa ρ (zE e))(b:R fb ρ (zE e'))(c:R fc ρ (zE e'')):R (cg qR (ao fa (ao fb (ao fc aH)))) ρ (zE (EF e e' e'')):=⟨(a.v,b.v,c.v),bA a.D (bA b.D c.D),λh=>by
 obtain⟨h1,h⟩:=aB h;obtain⟨h2,d⟩:=aB h;simp only[cg,ao,aH,a.ok h1,b.ok h2,c.ok d,Au];rfl⟩
def Mp(a:R fa ρ (zE e))(b:R fb ρ (zE e'))(c:R fc ρ (zE e''))(d:R fd ρ (zE e3)):R (cg qR (ao fa (ao fb (ao fc (ao fd aH))))) ρ (zE (EE e e' e'' e3)):=⟨(a.v,b.v,c.v,d.v),bA a.D (bA b.D (bA c.D d.D)),λh=>by
 obtain⟨h1,h⟩:=aB h;obtain⟨h2,h⟩:=aB h;obtain⟨f,g⟩:=aB h;simp only[cg,ao,aH,a.ok h1,b.ok h2,c.ok f,d.ok g,Au];rfl⟩
def cM(e:α->Dt):R aH ρ (λxs:Z α=>xs.map (zE e)):=⟨[],Y,λ_=>S⟩
def bx(a:R fa ρ (zE e))(t:R fs ρ (λxs:Z α=>xs.map (zE e))):R (ao fa fs) ρ (λxs:Z α=>xs.map (zE e)):=⟨a.v::t.v,bA a.D t.D,λh=>by
 obtain⟨h1,h2⟩:=aB h;simp only[ao,a.ok h1,t.ok h2,Au,zw]⟩
theorem GQ:∀xs:Z α,K3 (xs.map (zE e))=U (xs.map e)
 |[]=>rfl
 |x::xs=>by simp only[zw,K3,GQ xs,Au]
def eF(t:R fs ρ (λxs:Z α=>xs.map (zE e)))(a:t.v.length<=1000):R (cg gY fs) ρ (oE e):=⟨t.v,t.D,λh=>by
 simp only[cg,t.ok h,Au,gY,zi,zh a,GQ]⟩
def e6(t:R fs ρ (λxs:Z Dt=>xs.map (zE eD)))(a:t.v.length<=1000):R (cg qR fs) ρ (zE eD):=⟨.tup t.v,t.D,λh=>by
 simp only[cg,t.ok h,Au,qR,zi,zh a,GQ,List.map_id_fun',id]⟩
def at'[Inhabited α](xs:Z α)(i:Int):α:=(Ie xs i).getD default
def In(n:Nat)(i:Int):Prop:=-(n:Int)<=i/\i<n
theorem Mq{xs:Z α}{i:Int}(h:In xs.length i):∃x,Ie xs i=U x:=by
 obtain⟨h1,h2⟩:=h;unfold Ie EN;by_cases h0:0<=i
 ·rw[zh h0,zh h2];exact⟨xs[i.toNat]'(by omega),Zs (by omega)⟩
 ·rw[zC h0,zh h1];exact⟨xs[(i+xs.length).toNat]'(by omega),Zs (by omega)⟩
theorem gT{xs:Z α}{i:Int}{x:α}(h:Ie xs i=U x):Ie (xs.map e) i=U (e x):=by
 unfold Ie at h ⊢;rw[zi];obtain⟨j,a,h⟩:=AT h;rw[a,Au,ZN,h];rfl
theorem LG[Inhabited α]{xs:Z α}{i:Int}(h:In xs.length i):Ie (xs.map e) i=U (e (at' xs i)):=by
 obtain⟨x,hx⟩:=Mq h;rw[gT hx];unfold at';rw[hx];rfl
theorem aa{i:Int}(h:oV b=U ds):gK b (.z (.int i))=(Ie ds i).bind λd=>U (.z d):=by
 cases b with
 |z d=>cases d<;>cases h;rfl
 |l d=>cases h;rfl
 |o d=>cases h;rfl
 |n d=>cases h
 |m d _=>cases h
def d9[Inhabited α](a:RL fa ρ e)(b:R fb ρ (zE eI)):R (b2 gK fa fb) ρ (zE e):=⟨at' a.v b.v,bA (bA a.D b.D) (U (In a.v.length b.v)),λh=>by
 obtain⟨h,c⟩:=aB h;obtain⟨h1,h2⟩:=aB h;simp only[b2,a.ok h1,b.ok h2,Au,aa a.lk,LG (show In a.v.length b.v from c)]⟩
def R'[Inhabited α](a:R fa ρ (zE (eT e)))(b:R fb ρ (zE eI)):R (b2 gK fa fb) ρ (zE e):=⟨at' a.v b.v,bA (bA a.D b.D) (U (In a.v.length b.v)),λh=>by
 obtain⟨h,c⟩:=aB h;obtain⟨h1,h2⟩:=aB h;simp only[b2,a.ok h1,b.ok h2,Au,gK,wK,LG (show In a.v.length b.v from c)]⟩
def ch(x:AJ)(i:Int):AJ:=⟨#[(Ie x.cps.toList i).getD 0]⟩
def Qm(a:R fa ρ (zE eS))(b:R fb ρ (zE eI)):R (b2 gK fa fb) ρ (zE eS):=⟨ch a.v b.v,bA (bA a.D b.D) (U (In a.v.length b.v)),λh=>by
 obtain⟨h,c⟩:=aB h;obtain⟨h1,h2⟩:=aB h;obtain⟨x,hx⟩:=Mq (xs:=a.v.cps.toList) (i:=b.v) (show In a.v.length b.v from c);simp only[b2,a.ok h1,b.ok h2,Au,gK,hx,ch,Option.getD_some]⟩
def nF(a:R fa ρ (zE e))(g:α->β)(e':β->Dt)(i:Int)(h:∀x,gK (.z (e x)) (.z (.int i))=U (.z (e' (g x)))):R (b2 gK fa (cB (.int i))) ρ (zE e'):=⟨g a.v,a.D,λb=>by
 simp only[b2,a.ok b,Au,cB,h]⟩
def cut(xs:Z α)(lo hi:O Int):Z α:=(xs.drop (HT.iK xs.length 0 lo)).take (HT.iK xs.length xs.length hi-HT.iK xs.length 0 lo)
theorem ae(xs:Z α)(lo hi:O Int):C0 (xs.map e) lo hi=(cut xs lo hi).map e:=by
 unfold C0 cut;rw[zi,List.map_take,List.map_drop]
abbrev pE:O Int->O Int:=λo=>o
def xU:R iM ρ pE:=⟨Y,Y,λ_=>S⟩
def xV(a:R fa ρ (zE eI)):R (jO fa) ρ pE:=⟨U a.v,a.D,λh=>by simp only[jO,a.ok h,Au,IN]⟩
variable{fl fh:Ev->O (O Int)}
theorem VU(h:oV b=U ds):EK b lo hi=U (.o (C0 ds lo hi)):=by
 cases b with
 |z d=>cases d<;>cases h;rfl
 |l d=>cases h;rfl
 |o d=>cases h;rfl
 |n d=>cases h
 |m d _=>cases h
def TJ(a:RL fa ρ e)(l:R fl ρ pE)(u:R fh ρ pE):R (Gb fa fl fh) ρ (oE e):=⟨cut a.v l.v u.v,bA a.D (bA l.D u.D),λh=>by
 obtain⟨h1,h⟩:=aB h;obtain⟨h2,b⟩:=aB h;simp only[Gb,a.ok h1,l.ok h2,u.ok b,Au,VU a.lk,ae]⟩
def BP(a:R fa ρ (zE eS))(l:R fl ρ pE)(u:R fh ρ pE):R (Gb fa fl fh) ρ (zE eS):=⟨Txt.slice a.v l.v u.v,bA a.D (bA l.D u.D),λh=>by
 obtain⟨h1,h⟩:=aB h;obtain⟨h2,b⟩:=aB h;simp only[Gb,a.ok h1,l.ok h2,u.ok b,Au,EK]⟩
def sy(n:Nat):Prop:=n<=1000000
def sE(a:R fa ρ (zE eS))(b:R fb ρ (zE eS)):R (b2 dH fa fb) ρ (zE eS):=⟨a.v++b.v,bA (bA a.D b.D) (U (sy (a.v.length+b.v.length))),λh=>by
 obtain⟨h,c⟩:=aB h;obtain⟨h1,h2⟩:=aB h;simp only[b2,a.ok h1,b.ok h2,Au,dH,zh (show a.v.length+b.v.length<=W4 from c)]⟩
theorem ag{e:Bx}{f:Z Dt}(h:oV b=U ds)(h':oV e=U f)(c:ds.length+f.length<=W4):dH b e=U (.o (ds++f)):=by
 cases b with
 |z d=>
  cases d<;>cases h;cases e with
  |z a=>cases a<;>cases h';exact zh c
  |l a=>cases h';exact zh c
  |o a=>cases h';exact zh c
  |n a=>cases h'
  |m a=>cases h'
 |l d=>
  cases h;cases e with
  |z a=>cases a<;>cases h';exact zh c
  |l a=>cases h';exact zh c
  |o a=>cases h';exact zh c
  |n a=>cases h'
  |m a=>cases h'
 |o d=>
  cases h;cases e with
  |z a=>cases a<;>cases h';exact zh c
  |l a=>cases h';exact zh c
  |o a=>cases h';exact zh c
  |n a=>cases h'
  |m a=>cases h'
 |n d=>cases h
 |m d _=>cases h
def vB(a:RL fa ρ e)(b:RL fb ρ e):R (b2 dH fa fb) ρ (oE e):=⟨a.v++b.v,bA (bA a.D b.D) (U (sy (a.v.length+b.v.length))),λh=>by
 obtain⟨h,c⟩:=aB h;obtain⟨h1,h2⟩:=aB h;simp only[b2,a.ok h1,b.ok h2,Au];rw[ag a.lk b.lk (by rw[zi,zi];exact c)];simp only[oE,qB]⟩
def Lv(a:R fa ρ (zE eS))(b:R fb ρ (zE eI)):R (b2 uU fa fb) ρ (zE eS):=⟨Txt.mul a.v b.v,bA (bA a.D b.D) (U (b.v<=1000 ∧ -1000<=b.v/\a.v.length<=1000)),λh=>by
 obtain⟨h,c⟩:=aB h;obtain⟨h1,h2⟩:=aB h;simp only[b2,a.ok h1,b.ok h2,Au];exact zh c⟩
theorem Uf(h:oV b=U ds):uW [b]=U (.z (.int ds.length)):=by
 cases b with
 |z d=>cases d<;>cases h;rfl
 |l d=>cases h;rfl
 |o d=>cases h;rfl
 |n d=>cases h
 |m d _=>cases h
theorem VX(h:oV b=U ds):wK b=U ds:=by
 cases b with
 |z d=>cases d<;>cases h;rfl
 |l d=>cases h;rfl
 |o d=>cases h;rfl
 |n d=>cases h
 |m d _=>cases h
def By(a:RL fa ρ e):R (cg uW (ao fa aH)) ρ (zE eI):=⟨(a.v.length:Int),a.D,λh=>by
 simp only[cg,ao,aH,a.ok h,Au,Uf a.lk,zi]⟩
def NH(a:R fa ρ (zE eS)):R (cg uW (ao fa aH)) ρ (zE eI):=⟨(a.v.length:Int),a.D,λh=>by
 simp only[cg,ao,aH,a.ok h,Au,uW]⟩
def TQ:Dt->Int
 |.tup ds=>ds.length
 |.lst ds=>ds.length
 |.str x=>x.length
 |_=>0
def TV:Dt->Bool
 |.tup _=>true
 |.lst _=>true
 |.str _=>true
 |_=>false
def N0(a:R fa ρ (zE eD)):R (cg uW (ao fa aH)) ρ (zE eI):=⟨TQ a.v,bA a.D (U (TV a.v=true)),λh=>by
 obtain⟨h,b⟩:=aB h;have b:TV a.v=true:=b;simp only[cg,ao,aH,a.ok h,Au];cases c:a.v<;>rw[c]at b<;>first|(cases b;done)|rfl⟩
def wz(a:RL fa ρ e):R (cg lB (ao fa aH)) ρ (zE (eT e)):=⟨a.v,a.D,λh=>by
 simp only[cg,ao,aH,a.ok h,Au,lB,VX a.lk]⟩
def OT(a:R fa ρ (zE (eT e))):R (cg O6 (ao fa aH)) ρ (oE e):=⟨a.v,a.D,λh=>by
 simp only[cg,ao,aH,a.ok h,Au,O6,wK]⟩
def OI(a:R fa ρ (zE eI)):R (cg ZK (ao fa aH)) ρ (zE eI):=⟨if a.v<0 then -a.v else a.v,a.D,λh=>by
 simp only[cg,ao,aH,a.ok h,Au,ZK]⟩
def TX(a:R fa ρ (zE eB)):R (cg Sx (ao fa aH)) ρ (zE eI):=⟨if a.v=true then 1 else 0,a.D,λh=>by
 simp only[cg,ao,aH,a.ok h,Au,Sx]⟩
theorem Ak:∀l:Z Bool,Gd (l.map eB)=U l
 |[]=>rfl
 |a::l=>by simp only[zw,Gd,Ak l,Au]
def LV(a:RL fa ρ eB):R (cg CL (ao fa aH)) ρ (zE eB):=⟨a.v.all id,a.D,λh=>by
 simp only[cg,ao,aH,a.ok h,Au,CL,a.lk,Ak]⟩
def YO(a:RL fa ρ eB):R (cg Cf (ao fa aH)) ρ (zE eB):=⟨a.v.any id,a.D,λh=>by
 simp only[cg,ao,aH,a.ok h,Au,Cf,a.lk,Ak]⟩
def BR(a:R fa ρ (zE eI))(b:R fb ρ (zE eI)):R (cg CP (ao fa (ao fb aH))) ρ (zE eI):=⟨if b.v>a.v then b.v else a.v,bA a.D b.D,λh=>by
 obtain⟨h1,h2⟩:=aB h;simp only[cg,ao,aH,a.ok h1,b.ok h2,Au,CP]⟩
def My(a:R fa ρ (zE eI))(b:R fb ρ (zE eI)):R (cg W6 (ao fa (ao fb aH))) ρ (zE eI):=⟨if b.v<a.v then b.v else a.v,bA a.D b.D,λh=>by
 obtain⟨h1,h2⟩:=aB h;simp only[cg,ao,aH,a.ok h1,b.ok h2,Au,W6]⟩
def XG(P:Dt->Bool)(a:R fa ρ (zE e)):R (JM P fa) ρ (zE eB):=⟨P (e a.v),a.D,λh=>by
 simp only[JM,b1,a.ok h,Au,oX,toD,zr,ZO]⟩
theorem BS:∀l:AZ,Ge (l.map eS)=U l
 |[]=>rfl
 |a::l=>by simp only[zw,Ge,BS l,Au]
def Wl(s:AJ)(a:RL fa ρ eS):R (b1 (O9 s) fa) ρ (zE eS):=⟨Txt.join s a.v,bA a.D (U ((a.v.map (·.length)).sum+a.v.length*s.length<=100000)),λh=>by
 obtain⟨h,b⟩:=aB h;simp only[b1,a.ok h,Au,O9,a.lk,BS];exact zh b⟩
def Mr(a:RL fa ρ eS):R (cg Bq (ao fa aH)) ρ (oE eS):=⟨lg a.v,bA a.D (U (a.v.length<64)),λh=>by
 obtain⟨h,b⟩:=aB h;simp only[cg,ao,aH,a.ok h,Au,Bq,a.lk,BS];exact zh b⟩
def bE(a:R fa ρ (zE e))(g:α->β)(e':β->Dt)(lo hi:O Int)(c:fl ρ=U lo)(b:fh ρ=U hi)(h:∀x,EK (.z (e x)) lo hi=U (.z (e' (g x)))):R (Gb fa fl fh) ρ (zE e'):=⟨g a.v,a.D,λd=>by
 simp only[Gb,a.ok d,c,b,Au,h]⟩
def MZ(a:R f ρ (zE e))(g:α->β)(e':β->Dt)(h:∀x,e x=e' (g x)):R f ρ (zE e'):=⟨g a.v,a.D,λb=>by rw[a.ok b];exact congrArg (λd=>U (Bx.z d)) (h a.v)⟩
def Al:Dt->AJ
 |.str x=>x
 |_=>⟨#[]⟩
def Ms(a:R f ρ (zE eD))(g:Dt->α)(e:α->Dt):R f ρ (zE e):=⟨g a.v,bA a.D (U (a.v=e (g a.v))),λb=>by
 obtain⟨h1,h2⟩:=aB b;have h2:a.v=e (g a.v):=h2;rw[a.ok h1];show U (Bx.z a.v)=U (Bx.z (e (g a.v)));rw[<-h2]⟩
class Bz {α:Type} (e:α->Dt):Prop where
 f:∀a,yJ (e a)=true
instance:Bz eI:=⟨λ_=>rfl⟩
instance:Bz eB:=⟨λ_=>rfl⟩
instance:Bz eS:=⟨λ_=>rfl⟩
theorem GR[DecidableEq α][B6 e n][Bz e](x:α)(ys:Z α):CI (e x) (ys.map e)=U (decide (x∈ys)):=by
 unfold CI;rw[zh ⟨Bz.f x,by rw[List.all_map];exact List.all_eq_true.mpr λy _=>Bz.f y⟩,yv];congr 1;rw[JE,QP,decide_eq_true_iff];constructor
 ·rintro⟨y,a,h⟩;simp only[Function.comp,B6.eq]at h;by_cases e1:y=x
  ·rw[<-e1];exact a
  ·simp only[e1,k4]at h;cases h
 ·intro h;exact⟨x,h,by simp only[Function.comp,B6.eq,yb]⟩
theorem OP(h:oV b=U ds):De (.z d) b=CI d ds:=by
 cases b with
 |z a=>cases a<;>cases h;cases d<;>rfl
 |l a=>cases h;cases d<;>rfl
 |o a=>cases h;cases d<;>rfl
 |n a=>cases h
 |m a=>cases h
theorem VL:De (.z d) (.z (.tup ds))=CI d ds:=by cases d<;>rfl
def LP[DecidableEq α][B6 e n][Bz e](a:R fa ρ (zE e))(b:RL fb ρ e):R (b2 CC fa fb) ρ (zE eB):=⟨decide (a.v∈b.v),bA a.D b.D,λh=>by
 obtain⟨h1,h2⟩:=aB h;simp only[b2,a.ok h1,b.ok h2,Au,CC,OP b.lk,GR]⟩
def Hn[DecidableEq α][B6 e n][Bz e](a:R fa ρ (zE e))(b:R fb ρ (zE (eT e))):R (b2 CC fa fb) ρ (zE eB):=⟨decide (a.v∈b.v),bA a.D b.D,λh=>by
 obtain⟨h1,h2⟩:=aB h;simp only[b2,a.ok h1,b.ok h2,Au,CC,VL,GR]⟩
def LI[DecidableEq α][B6 e n][Bz e](a:R fa ρ (zE e))(b:R fb ρ (zE (eT e))):R (b2 ZD fa fb) ρ (zE eB):=⟨!decide (a.v∈b.v),bA a.D b.D,λh=>by
 obtain⟨h1,h2⟩:=aB h;simp only[b2,a.ok h1,b.ok h2,Au,ZD,VL,GR]⟩
def TD(a:R fa ρ (zE eS))(b:R fb ρ (zE eS)):R (b2 CC fa fb) ρ (zE eB):=⟨JF a.v b.v,bA a.D b.D,λh=>by
 obtain⟨h1,h2⟩:=aB h;simp only[b2,a.ok h1,b.ok h2,Au,CC,De]⟩
end
structure AR {γ:Type} (cA:γ->List Bx->Prop) (fs:Ev->Option (List Bx)) (ρ:Ev) where
 v:γ
 D:Option Prop
 bs:List Bx
 h:cA v bs
 ok:hold D->fs ρ=some bs
section
variable{ε σ:Type}{fd:Ev->O Bx}{fs:Ev->O (Z Bx)}{e:α->Dt}{e':β->Dt}{e'':γ->Dt}{e3:δ->Dt}
def aN:Unit->Z Bx->Prop:=λ_ bs=>bs=[]
def aZ(e:α->Dt)(t:γ->Z Bx->Prop):α×γ->Z Bx->Prop:=λx bs=>∃r,bs=.z (e x.1)::r/\t x.2 r
def aL(e:α->Dt)(t:γ->Z Bx->Prop):Z α×γ->Z Bx->Prop:=λx bs=>∃b r,bs=b::r/\oV b=U (x.1.map e)/\t x.2 r
def bT:AR aN aH ρ:=⟨(),Y,[],rfl,λ_=>S⟩
def bU{t:γ->Z Bx->Prop}(a:R fa ρ (zE e))(r:AR t fs ρ):AR (aZ e t) (ao fa fs) ρ:=⟨(a.v,r.v),bA a.D r.D,_,⟨_,rfl,r.h⟩,λh=>by
 obtain⟨h1,h2⟩:=aB h;simp only[ao,a.ok h1,r.ok h2,Au]⟩
def wM{t:γ->Z Bx->Prop}(a:RL fa ρ e)(r:AR t fs ρ):AR (aL e t) (ao fa fs) ρ:=⟨(a.v,r.v),bA a.D r.D,_,⟨_,_,rfl,a.lk,r.h⟩,λh=>by
 obtain⟨h1,h2⟩:=aB h;simp only[ao,a.ok h1,r.ok h2,Au]⟩
def Ap{d:γ->Z Bx->Prop}{F:Z Bx->O Bx}{c:α->Bx}{T:γ->α}{b:γ->O Prop}(S:∀v bs,d v bs->bs.length=n/\(hold (b v)->F (bs.map lend)=U (c (T v))))(a:AR d fs ρ):R (cj n F fs) ρ c:=⟨T a.v,bA a.D (b a.v),λh=>by
 obtain⟨h1,h2⟩:=aB h;obtain⟨e,f⟩:=S a.v a.bs a.h;simp only[cj,a.ok h1,Au,zh e,f h2]⟩
theorem N1{bs:Z Bx}{c:α->Bx}(x:R g (bs.map U++List.replicate (n-bs.length) Y) (λr=>An.rt (c r)))(h:hold x.D):dY n g bs=U (c x.v):=by
 unfold dY;rw[x.ok h];rfl
def UT(xs:Z α)(P:α->O Prop):O Prop:=U (∀x∈xs,hold (P x))
theorem Qn{fs:Ev->O (Z Dt)}{b:Ev}{g:α->Z Dt}{π:α->Bool}:∀xs:Z α,(∀x∈xs,∃a,gt (e x) b=U a/\p a=U (π x)/\(π x=true->fs a=U (g x)))->CK gt p fs b (xs.map e)=U ((xs.filter π).flatMap g)
 |[],_=>rfl
 |x::xs,h=>by
  obtain⟨a,h1,h2,d⟩:=h x (zk ..);have c:=Qn (g:=g) (π:=π) xs λy f=>h y (zo _ f);cases hp:π x with
  |true=>simp only[zw,CK,h1,Au,h2,hp,qS,d hp,c,k8,List.flatMap_cons]
  |false=>simp only[zw,CK,h1,Au,h2,hp,c,k8,zr,ZO]
theorem Qo{g:α->β}:∀xs:Z α,xs.flatMap (λx=>[e' (g x)])=(xs.map g).map e'
 |[]=>rfl
 |x::xs=>by rw[List.flatMap_cons,Qo xs];rfl
theorem Qp{b:Ev}{g:α->β}{π:α->Bool}(xs:Z α)(h:∀x∈xs,∃a,gt (e x) b=U a/\p a=U (π x)/\(π x=true->fe a=U (.z (e' (g x))))):Bm gt p fe b (xs.map e)=U (((xs.filter π).map g).map e'):=by
 rw[<-Qo];exact Qn xs λx hx=>let ⟨a,h1,h2,h3⟩:=h x hx;⟨a,h1,h2,λhp=>by rw[h3 hp];rfl⟩
theorem C3{b:Ev}{g:α->β}(xs:Z α)(h:∀x∈xs,∃a,gt (e x) b=U a/\fe a=U (.z (e' (g x)))):Bm gt rR fe b (xs.map e)=U ((xs.map g).map e'):=
 (Qp (π:=λ_=>true) xs λx hx=>let ⟨a,h1,h2⟩:=h x hx;⟨a,h1,rfl,λ_=>h2⟩).trans (by rw[List.filter_eq_self.mpr λ_ _=>S])
def Am(it:R fi ρ (iE e))(c:α->Ev)(d:∀x,gt (e x) (mR is ρ++List.replicate n Y)=U (c x))(b:∀x,R fe (c x) (zE e')):R (gB fi gt rR fe is n) ρ (oE e'):=⟨it.v.map λx=>(b x).v,bA (bA it.D (U (it.v.length<=100000))) (UT it.v λx=>(b x).D),λh=>by
 obtain⟨h,a⟩:=aB h;obtain⟨h1,h2⟩:=aB h;have a:∀x∈it.v,hold (b x).D:=a;simp only[gB,it.ok h1,Au,zi,zh (show it.v.length<=100000 from h2),C3 it.v λx hx=>⟨c x,d x,(b x).ok (a x hx)⟩]⟩
def pN(it:R fi ρ (iE e))(a:α->Ev)(c:∀x,gt (e x) (mR is ρ++List.replicate n Y)=U (a x))(b:∀x,R fe (a x) (zE e'))(hb:∀x,(b x).D=Y):R (gB fi gt rR fe is n) ρ (oE e'):=⟨it.v.map λx=>(b x).v,bA it.D (U (it.v.length<=100000)),λh=>by
 obtain⟨h1,h2⟩:=aB h;simp only[gB,it.ok h1,Au,zi,zh (show it.v.length<=100000 from h2),C3 it.v λx hx=>⟨a x,c x,(b x).ok (by rw[hb x];trivial)⟩]⟩
def GX(it:R fi ρ (iE e))(a:α->Ev)(d:∀x,gt (e x) (mR is ρ++List.replicate n Y)=U (a x))(t:∀x,R p (a x) tE)(b:∀x,R fe (a x) (zE e'))(c:∀x,(t x).D=Y)(hb:∀x,(b x).D=Y):R (gB fi gt p fe is n) ρ (oE e'):=⟨(it.v.filter λx=>(t x).v).map λx=>(b x).v,bA it.D (U (it.v.length<=100000)),λh=>by
 obtain⟨h1,h2⟩:=aB h;simp only[gB,it.ok h1,Au,zi,zh (show it.v.length<=100000 from h2),Qp it.v λx hx=>⟨a x,d x,(t x).ok (by rw[c x];trivial),λ_=>(b x).ok (by rw[hb x];trivial)⟩]⟩
def GZ(a:RL fa ρ e):R (Io fa) ρ (iE e):=⟨a.v,a.D,λh=>by
 have:Zw a.b=U (a.v.map e):=by
  have:=a.lk
  revert this
  generalize a.b=b;generalize a.v.map e=ds;intro this;cases b with
  |z d=>cases d<;>cases this;rfl
  |l d=>cases this;rfl
  |o d=>cases this;rfl
  |n d=>cases this
  |m d _=>cases this
 simp only[Io,a.ok h,Au,this]⟩
def IF(a:R fa ρ (zE (eT e))):R (Io fa) ρ (iE e):=⟨a.v,a.D,λh=>by simp only[Io,a.ok h,Au,Zw]⟩
def CA(x:AJ):AZ:=x.cps.toList.map λc=>⟨#[c]⟩
theorem Tx(x:AJ):BH x=(CA x).map eS:=by
 unfold BH CA;rw[QU];rfl
def DL:Dt->Z Dt
 |.tup ds=>ds
 |.lst ds=>ds
 |.str x=>BH x
 |_=>[]
def Of(a:R fa ρ (zE eD)):R (Io fa) ρ (iE eD):=⟨DL a.v,bA a.D (U (TV a.v=true)),λh=>by
 obtain⟨h,b⟩:=aB h;have b:TV a.v=true:=b;simp only[Io,a.ok h,Au];cases c:a.v<;>rw[c]at b<;>first|(cases b;done)|(simp only[Zw,DL,iE,eD,List.map_id_fun',id])⟩
def Ff(a:R fa ρ (oE e)):R (EH fa) ρ (iE e):=⟨a.v,a.D,λh=>by simp only[EH,a.ok h,Au,Fu]⟩
def rng(i:Int)(n:Nat):Z Int:=(List.range n).map λk:Nat=>i+(k:Int)
theorem VN(i:Int)(n:Nat):CJ i n=(rng i n).map eI:=by
 unfold CJ rng;rw[QU];rfl
def Rg(j:Int):Prop:=-4611686018427387904<=j/\j<4611686018427387904
def J3(a:R fa ρ (zE eI)):R (O7 (ao fa aH)) ρ (iE eI):=⟨rng 0 a.v.toNat,bA a.D (U (Rg a.v)),λh=>by
 obtain⟨h,b⟩:=aB h;simp only[O7,ao,aH,a.ok h,Au];show(if -(2 ^ 62)<=a.v/\a.v<2 ^ 62 then U (CJ 0 a.v.toNat)else Y)=_;exact(zh b).trans (by rw[VN])⟩
def eW(n:Int)(m:Nat)(a:n.toNat=m)(b:Rg n):R (O7 (ao (cB (.int n)) aH)) ρ (iE eI):=⟨rng 0 m,Y,λ_=>by
 simp only[O7,ao,aH,Au,cB];show(if -(2 ^ 62)<=n/\n<2 ^ 62 then U (CJ 0 n.toNat)else Y)=_;exact(zh b).trans (by rw[VN,a])⟩
end
section
variable{ε σ τ:Type}{fd:Ev->O Bx}{fs:Ev->O (Z Bx)}{e:α->Dt}{e':β->Dt}{g1 g2 k:Ev->O An}{cO:γ->An}
theorem iQ{ρ':Ev}(h:g1 ρ=U (.nx ρ')):aD g1 k ρ=k ρ':=by
 unfold aD;rw[h];rfl
def bC(x:R (aD g (aD g1 k)) ρ cO):R (aD (aD g g1) k) ρ cO:=⟨x.v,x.D,λh=>by
 rw[<-x.ok h];unfold aD;cases g ρ with
 |none=>rfl
 |some o=>cases o<;>rfl⟩
def bN(x:R k ρ cO):R (aD fB k) ρ cO:=⟨x.v,x.D,λh=>x.ok h⟩
def bG(x:γ)(h:cO x=.nx (kill is ρ)):R (cT is) ρ cO:=⟨x,Y,λ_=>by rw[h];rfl⟩
def fQ{c:α->Bx}(inj:α->γ)(a:R f ρ c)(h:∀x,cO (inj x)=.rt (c x))(b:∀x,Zj (c x)=U (.rt (c x))):R (aD (jw f) k) ρ cO:=⟨inj a.v,a.D,λd=>by
 have:jw f ρ=U (.rt (c a.v)):=by unfold jw;rw[a.ok d,Au,b]
 unfold aD;rw[this,h];rfl⟩
def G3{c:α->Bx}(i:Nat)(inj:α->γ)(a:α)(hi:ρ[i]?=U (U (c a)))(h:∀x,cO (inj x)=.rt (c x))(b:∀x,Zj (c x)=U (.rt (c x))):R (aD (CG i) k) ρ cO:=⟨inj a,Y,λd=>by
 have:CG i ρ=U (.rt (c a)):=by unfold CG;rw[hi];exact b a
 unfold aD;rw[this,h];rfl⟩
def bJ{c:α->Bx}(i:Nat)(a:R f ρ c)(b:∀x,WW ρ i (c x)=U (ρ.set i (U (c x))))(K:∀x,R k (ρ.set i (U (c x))) cO):R (aD (At i f) k) ρ cO:=⟨(K a.v).v,bA a.D (K a.v).D,λd=>by
 obtain⟨h1,h2⟩:=aB d;rw[iQ (ρ':=ρ.set i (U (c a.v))) (by unfold At;rw[a.ok h1,Au,b,Au])];exact(K a.v).ok h2⟩
def Tl(a:R f ρ (zE e))(b:α->Ev)(d:∀x,gt (e x) ρ=U (b x))(K:∀x,R k (b x) cO):R (aD (Hc gt f) k) ρ cO:=⟨(K a.v).v,bA a.D (K a.v).D,λc=>by
 obtain⟨h1,h2⟩:=aB c;rw[iQ (ρ':=b a.v) (by unfold Hc;rw[a.ok h1,Au];simp only[d,Au])];exact(K a.v).ok h2⟩
def HV(i j:Nat)(a:R fa ρ (zE e))(b:R fb ρ (zE e'))(K:∀x y,R k ((ρ.set i (U (.z (e x)))).set j (U (.z (e' y)))) cO):R (aD (ZM i j (ao fa (ao fb aH))) k) ρ cO:=⟨(K a.v b.v).v,bA (bA a.D b.D) (K a.v b.v).D,λd=>by
 obtain⟨h1,c⟩:=aB d;obtain⟨h1,h2⟩:=aB h1;rw[iQ (ρ':=(ρ.set i (U (.z (e a.v)))).set j (U (.z (e' b.v)))) (by unfold ZM;simp only[ao,aH,a.ok h1,b.ok h2,Au,Fs])];exact(K a.v b.v).ok c⟩
def wU(i:Nat)(xs:Z α)(hi:ρ[i]?=U (U (.o (xs.map e))))(a:R f ρ (zE e))(K:∀ys:Z α,R k (ρ.set i (U (.o (ys.map e)))) cO):R (aD (xM i f) k) ρ cO:=⟨(K (xs++[a.v])).v,bA (bA a.D (U (sy xs.length))) (K (xs++[a.v])).D,λc=>by
 obtain⟨h1,b⟩:=aB c;obtain⟨h1,h2⟩:=aB h1;have h2:xs.length<=1000000:=h2;rw[iQ (ρ':=ρ.set i (U (.o ((xs++[a.v]).map e)))) (by
  unfold xM;rw[a.ok h1,Au];simp only[Zk,hi,zi,qB,zw,kC];rw[zh (Kx h2 (by decide))])]
 exact(K _).ok b⟩
def o9(t:R p ρ tE)(a:R (aD g1 k) ρ cO)(b:R (aD g2 k) ρ cO):R (aD (xH p g1 g2) k) ρ cO:=⟨if t.v=true then a.v else b.v,bA t.D (bA (Mi (t.v=true) a.D) (Mi (t.v=false) b.D)),λf=>by
 obtain⟨h1,h2⟩:=aB f;obtain⟨h2,e⟩:=aB h2;have e1:∀c,t.v=c->aD (xH p g1 g2) k ρ=aD (if c=true then g1 else g2) k ρ:=λc g=>by
  unfold aD xH;rw[t.ok h1,Au,g];cases c<;>rfl
 cases d:t.v with
 |true=>rw[e1 true d];simp only[qS];exact a.ok (mD h2 d)
 |false=>rw[e1 false d];simp only[zr,ZO];exact b.ok (mD e d)⟩
def wV(E:σ->Ev)(t:R p ρ tE)(a:R g1 ρ (λs=>An.nx (E s)))(b:R g2 ρ (λs=>An.nx (E s)))(K:∀s,R k (E s) cO):R (aD (xH p g1 g2) k) ρ cO:=⟨(K (if t.v=true then a.v else b.v)).v,bA (bA t.D (bA (Mi (t.v=true) a.D) (Mi (t.v=false) b.D))) (K (if t.v=true then a.v else b.v)).D,λe=>by
 obtain⟨h,f⟩:=aB e;obtain⟨h1,h2⟩:=aB h;obtain⟨h2,d⟩:=aB h2;rw[iQ (ρ':=E (if t.v=true then a.v else b.v)) (by
  unfold xH;rw[t.ok h1,Au];cases c:t.v with
  |true=>simp only[qS];exact a.ok (mD h2 c)
  |false=>simp only[zr,ZO];exact b.ok (mD d c))]
 exact(K _).ok f⟩
def kY(step:σ->α->σ)(P:σ->α->O Prop):Z α->σ->Prop
 |[],_=>True
 |x::xs,s=>hold (P s x)/\kY step P xs (step s x)
theorem yX{gb:Ev->O An}(E:σ->Ev)(a:σ->α->Ev)(b:∀s x,gt (e x) (E s)=U (a s x))(body:∀s x,R gb (a s x) (λs=>An.nx (E s))):∀(xs:Z α) (s:σ),kY (λs x=>(body s x).v) (λs x=>(body s x).D) xs s->qH gt gb (xs.map e) (E s)=U (.nx (E (xs.foldl (λs x=>(body s x).v) s)))
 |[],s,_=>rfl
 |x::xs,s,h=>by
  simp only[zw,qH,b,Au,(body s x).ok h.1,QO];exact yX E a b body xs _ h.2
def G4(E:σ->Ev)(a:σ)(g:ρ=E a)(it:R fi ρ (iE e))(b:σ->α->Ev)(f:∀s x,gt (e x) (E s)=U (b s x))(body:∀s x,R gb (b s x) (λs=>An.nx (E s)))(K:∀s,R k (E s) cO):R (aD (pI fi gt gb) k) ρ cO:=⟨(K (it.v.foldl (λs x=>(body s x).v) a)).v,bA (bA it.D (U (kY (λs x=>(body s x).v) (λs x=>(body s x).D) it.v a))) (K (it.v.foldl (λs x=>(body s x).v) a)).D,λc=>by
 obtain⟨h,d⟩:=aB c;obtain⟨h1,h2⟩:=aB h;rw[iQ (ρ':=E (it.v.foldl (λs x=>(body s x).v) a)) (by
  unfold pI;rw[it.ok h1,Au];subst g;exact yX E b f body it.v a h2)]
 exact(K _).ok d⟩
def bz(E:σ->Ev)(a:σ)(g:ρ=E a)(it:R fi ρ (iE e))(b:σ->α->Ev)(f:∀s x,gt (e x) (E s)=U (b s x))(body:∀s x,R gb (b s x) (λs=>An.nx (E s)))(hb:∀s x,(body s x).D=Y)(K:∀s,R k (E s) cO):R (aD (pI fi gt gb) k) ρ cO:=⟨(K (it.v.foldl (λs x=>(body s x).v) a)).v,bA it.D (K (it.v.foldl (λs x=>(body s x).v) a)).D,λc=>by
 obtain⟨h1,d⟩:=aB c;have h2:∀(xs:Z α) (s:σ),kY (λs x=>(body s x).v) (λs x=>(body s x).D) xs s:=λxs=>by
  induction xs with
  |nil=>intro s;trivial
  |cons x xs h=>intro s;exact⟨by show hold (body s x).D;rw[hb s x];trivial,h _⟩
 rw[iQ (ρ':=E (it.v.foldl (λs x=>(body s x).v) a)) (by
  unfold pI;rw[it.ok h1,Au];subst g;exact yX E b f body it.v a (h2 _ _))]
 exact(K _).ok d⟩
inductive jt (σ τ:Type) where
 |nx (s:σ)|rt (r:τ)|bk (s:σ)|ct (s:σ)
def cC(E:σ->Ev)(c:τ->Bx):jt σ τ->An
 |.nx s=>.nx (E s)
 |.rt r=>.rt (c r)
 |.bk s=>.bk (E s)
 |.ct s=>.ct (E s)
def jB(step:σ->α->jt σ τ):Z α->σ->jt σ τ
 |[],s=>.nx s
 |x::xs,s=>match step s x with
  |.nx s'=>jB step xs s'
  |.ct s'=>jB step xs s'
  |.bk s'=>.nx s'
  |.rt r=>.rt r
def uf(step:σ->α->jt σ τ)(P:σ->α->O Prop):Z α->σ->Prop
 |[],_=>True
 |x::xs,s=>hold (P s x)/\match step s x with
  |.nx s'=>uf step P xs s'
  |.ct s'=>uf step P xs s'
  |.bk _=>True
  |.rt _=>True
theorem Ej{c:τ->Bx}(E:σ->Ev)(a:σ->α->Ev)(b:∀s x,gt (e x) (E s)=U (a s x))(body:∀s x,R gb (a s x) (cC E c)):∀(xs:Z α) (s:σ),uf (λs x=>(body s x).v) (λs x=>(body s x).D) xs s->qH gt gb (xs.map e) (E s)=U (cC E c (jB (λs x=>(body s x).v) xs s))
 |[],s,_=>rfl
 |x::xs,s,h=>by
  obtain⟨h1,h2⟩:=h;dsimp only at h2;simp only[zw,qH,b,Au,(body s x).ok h1,jB]
  revert h2
  cases(body s x).v with
  |nx s'=>intro h2;exact Ej E a b body xs s' h2
  |ct s'=>intro h2;exact Ej E a b body xs s' h2
  |bk s'=>intro _;rfl
  |rt r=>intro _;rfl
theorem yZ(step:σ->α->jt σ τ):∀(xs:Z α) (s:σ),(∃s',jB step xs s=.nx s')\/∃r,jB step xs s=.rt r
 |[],s=>.inl ⟨s,rfl⟩
 |x::xs,s=>by
  unfold jB;cases step s x with
  |nx s'=>exact yZ step xs s'
  |ct s'=>exact yZ step xs s'
  |bk s'=>exact .inl ⟨s',rfl⟩
  |rt r=>exact .inr ⟨r,rfl⟩
def BG(r:jt σ τ)(inj:τ->γ)(K:σ->γ):γ:=match r with
 |.rt r=>inj r
 |.nx s=>K s
 |.bk s=>K s
 |.ct s=>K s
def sI(r:jt σ τ)(K:σ->Prop):Prop:=match r with
 |.rt _=>True
 |.nx s=>K s
 |.bk s=>K s
 |.ct s=>K s
def Mt(r:jt σ τ)(K:σ->O Prop):O Prop:=U (sI r λs=>hold (K s))
def L0{c:τ->Bx}(E:σ->Ev)(a:σ)(j:ρ=E a)(it:R fi ρ (iE e))(b:σ->α->Ev)(g:∀s x,gt (e x) (E s)=U (b s x))(body:∀s x,R gb (b s x) (cC E c))(inj:τ->γ)(i:∀r,cO (inj r)=.rt (c r))(K:∀s,R k (E s) cO):R (aD (pI fi gt gb) k) ρ cO:=⟨BG (jB (λs x=>(body s x).v) it.v a) inj λs=>(K s).v,bA (bA it.D (U (uf (λs x=>(body s x).v) (λs x=>(body s x).D) it.v a))) (Mt (jB (λs x=>(body s x).v) it.v a) λs=>(K s).D),λf=>by
 obtain⟨h,d⟩:=aB f;obtain⟨h1,h2⟩:=aB h;have e1:pI fi gt gb ρ=U (cC E c (jB (λs x=>(body s x).v) it.v a)):=by
  unfold pI;rw[it.ok h1,Au];subst j;exact Ej E b g body it.v a h2
 rcases yZ (λs x=>(body s x).v) it.v a with⟨s',es⟩|⟨r,es⟩
 ·rw[es]at e1 d ⊢;rw[iQ e1];exact(K s').ok d
 ·rw[es]at e1 ⊢;show aD (pI fi gt gb) k ρ=U (cO (inj r));unfold aD;rw[e1,i];rfl⟩
theorem UX(h:ρ[i]?=U (U (.l ds))):qU i gt gb ρ=qH gt gb ds ρ:=by unfold qU;rw[h]
theorem NI(h:ρ[i]?=U (U (.z (.tup ds)))):qU i gt gb ρ=qH gt gb ds ρ:=by unfold qU;rw[h];rfl
theorem UP(h:ρ[i]?=U (U (.z (.lst ds)))):qU i gt gb ρ=qH gt gb ds ρ:=by unfold qU;rw[h];rfl
theorem TY(hp:Lp b ds)(h:ρ[i]?=U (U b)):qU i gt gb ρ=qH gt gb ds ρ:=by
 rcases hp with rfl|rfl
 ·exact UP h
 ·exact UX h
def Mu(i:Nat){ρ':Ev}(xs:Z α)(h:qU i gt gb ρ=qH gt gb (xs.map e) ρ')(E:σ->Ev)(a:σ)(g:ρ'=E a)(b:σ->α->Ev)(f:∀s x,gt (e x) (E s)=U (b s x))(body:∀s x,R gb (b s x) (λs=>An.nx (E s)))(K:∀s,R k (E s) cO):R (aD (qU i gt gb) k) ρ cO:=⟨(K (xs.foldl (λs x=>(body s x).v) a)).v,bA (U (kY (λs x=>(body s x).v) (λs x=>(body s x).D) xs a)) (K (xs.foldl (λs x=>(body s x).v) a)).D,λc=>by
 obtain⟨h2,d⟩:=aB c;rw[iQ (ρ':=E (xs.foldl (λs x=>(body s x).v) a)) (by
  rw[h,g];exact yX E b f body xs a h2)]
 exact(K _).ok d⟩
def ck{c:τ->Bx}(i:Nat){ρ':Ev}(xs:Z α)(l:qU i gt gb ρ=qH gt gb (xs.map e) ρ')(E:σ->Ev)(a:σ)(j:ρ'=E a)(b:σ->α->Ev)(g:∀s x,gt (e x) (E s)=U (b s x))(body:∀s x,R gb (b s x) (cC E c))(inj:τ->γ)(h:∀r,cO (inj r)=.rt (c r))(K:∀s,R k (E s) cO):R (aD (qU i gt gb) k) ρ cO:=⟨BG (jB (λs x=>(body s x).v) xs a) inj λs=>(K s).v,bA (U (uf (λs x=>(body s x).v) (λs x=>(body s x).D) xs a)) (Mt (jB (λs x=>(body s x).v) xs a) λs=>(K s).D),λf=>by
 obtain⟨h2,d⟩:=aB f;have e1:qU i gt gb ρ=U (cC E c (jB (λs x=>(body s x).v) xs a)):=by
  rw[l,j];exact Ej E b g body xs a h2
 rcases yZ (λs x=>(body s x).v) xs a with⟨s',es⟩|⟨r,es⟩
 ·rw[es]at e1 d ⊢;rw[iQ e1];exact(K s').ok d
 ·rw[es]at e1 ⊢;show aD (qU i gt gb) k ρ=U (cO (inj r));unfold aD;rw[e1,h];rfl⟩
class Ky {κ:Type} (c:κ->AY):Prop where
 inj:∀a b,c a=c b->a=b
abbrev kS:AJ->AY:=Sum.inr
abbrev kI:Int->AY:=Sum.inl
instance:Ky kS:=⟨λ_ _ h=>by cases h;rfl⟩
instance:Ky kI:=⟨λ_ _ h=>by cases h;rfl⟩
abbrev mE(e:α->Dt):Z (AJ×α)->Bx:=λm=>.m (m.map λq=>(kS q.1,e q.2)) Y
abbrev nE(e:α->Dt):Z (AJ×α)->Bx:=λm=>.n (m.map λq=>(kS q.1,e q.2))
section
variable [DecidableEq κ] {c:κ->AY}
def look[Inhabited α](m:Z (κ×α))(x:κ):α:=((m.find? λq=>decide (q.1=x)).map (·.2)).getD default
def has(m:Z (κ×α))(x:κ):Bool:=m.any λq=>decide (q.1=x)
def put(m:Z (κ×α))(x:κ)(a:α):Z (κ×α):=if has m x=true then m.map (λq=>if q.1=x then(q.1,a)else q)else m++[(x,a)]
theorem HH[Ky c](a b:κ):decide (c a=c b)=decide (a=b):=by
 by_cases h:a=b
 ·rw[h];simp
 ·rw[ZE h,ZE λz=>h (Ky.inj (c:=c) _ _ z)]
theorem PY[Ky c](m:Z (κ×α))(x:κ):Gg (m.map λq=>(c q.1,e q.2)) (c x)=((m.find? λq=>decide (q.1=x)).map (·.2)).map e:=by
 unfold Gg;rw[List.find?_map];simp only[Option.map_map,Function.comp_def,HH]
theorem dy[Ky c][Inhabited α]{m:Z (κ×α)}{x:κ}(h:has m x=true):Gg (m.map λq=>(c q.1,e q.2)) (c x)=U (e (look m x)):=by
 rw[PY];unfold look;unfold has at h;rw[QP]at h;obtain⟨q,b,hx⟩:=h;cases a:m.find? λq=>decide (q.1=x)with
 |none=>exact absurd hx (by simpa using List.find?_eq_none.mp a q b)
 |some q=>rfl
theorem VP[Ky c](m:Z (κ×α))(x:κ)(a:α):Lh (m.map λq=>(c q.1,e q.2)) (c x) (e a)=(put m x a).map λq=>(c q.1,e q.2):=by
 unfold Lh put has;rw[yv];simp only[Function.comp_def,HH];by_cases h:(m.any λq=>decide (q.1=x))=true
 ·rw[zh h,zh h];rw[QU,QU];refine JY λq _=>?_;simp only[Function.comp];by_cases b:q.1=x
  ·simp[b]
  ·have h':¬ c q.1=c x:=λz=>b (Ky.inj (c:=c) _ _ z);simp[b,h']
 ·rw[zC h,zC h];simp
end
theorem Qq:∀m:Z (AJ×α),W7 (m.map λq=>(kS q.1,e q.2))=U (m.map (·.1))
 |[]=>rfl
 |q::m=>by rw[zw,W7,Qq m,Au];rfl
def xW[Inhabited α](a:R fa ρ (nE e))(b:R fb ρ (zE eS)):R (b2 ud fa fb) ρ (zE e):=⟨look a.v b.v,bA (bA a.D b.D) (U (has a.v b.v=true)),λh=>by
 obtain⟨h,d⟩:=aB h;obtain⟨h1,h2⟩:=aB h;simp only[b2,a.ok h1,b.ok h2,Au,ud,Cl,dy (c:=kS) (show has a.v b.v=true from d)]⟩
end
section
variable{fs:Ev->O AZ}{e:α->Dt}
theorem za(h:oV b=U ds):wK b=U ds:=by
 cases b with
 |z d=>cases d<;>first|exact h|(cases h;done)
 |l _=>exact h
 |o _=>exact h
 |n _=>cases h
 |m _ _=>cases h
theorem Lu(n:Nat):∃m,m=n:=⟨n,rfl⟩
noncomputable def kN(n:Nat):Nat:=Classical.choose (Lu n)
theorem Qs(n:Nat):kN n=n:=Classical.choose_spec (Lu n)
noncomputable def Lc(n:Int)(m:Nat)(a:n.toNat=m)(b:Rg n):R (O7 (ao (cB (.int n)) aH)) ρ (iE eI):=⟨rng 0 (kN m),Y,λh=>by rw[Qs];exact(eW n m a b).ok h⟩
end
end P1
namespace P1
open L2 S1 S6
class pP {α:Type} (e:α->Dt) where
 k:α->AY
 ok:∀a,Fk (e a)=some (k a)
 inj:∀a b,k a=k b->a=b
 same:∀a b,Vn (k a) (k b)=true
instance:pP eI:=⟨λi=>.inl i,λ_=>rfl,λa b h=>by cases h;rfl,λ_ _=>rfl⟩
instance:pP eS:=⟨λi=>.inr i,λ_=>rfl,λa b h=>by cases h;rfl,λ_ _=>rfl⟩
class rG {α:Type} (e:α->Dt) where
 k:α->List AY
 ok:∀a,Gi (e a)=some (k a)
 inj:∀a b,k a=k b->a=b
 shp:∀a b,Ln (k a) (k b)=true
 ne:∀a,(k a).isEmpty=false
class F5 {α:Type} (e:α->Dt) [rG e]:Prop where
 tx:∀a,Qc (rG.k e a)=true
section
variable{e:α->Dt}{e':β->Dt}{e'':γ->Dt}{e3:δ->Dt}
instance [pP e] [pP e']:rG (Xy e e'):=⟨λq=>[pP.k e q.1,pP.k e' q.2],λq=>by simp only[Gi,Bv,pP.ok,Au],λa b h=>by
 simp only[kP,and_true]at h;exact Prod.ext (pP.inj _ _ h.1) (pP.inj _ _ h.2),λa b=>by simp[Ln,pP.same],λ_=>rfl⟩
instance [pP e] [pP e'] [pP e'']:rG (EF e e' e''):=⟨λq=>[pP.k e q.1,pP.k e' q.2.1,pP.k e'' q.2.2],λq=>by simp only[Gi,Bv,pP.ok,Au],λa b h=>by
 simp only[kP,and_true]at h;exact Prod.ext (pP.inj _ _ h.1) (Prod.ext (pP.inj _ _ h.2.1) (pP.inj _ _ h.2.2)),λa b=>by simp[Ln,pP.same],λ_=>rfl⟩
instance [pP e] [pP e'] [pP e''] [pP e3]:rG (EE e e' e'' e3):=⟨λq=>[pP.k e q.1,pP.k e' q.2.1,pP.k e'' q.2.2.1,pP.k e3 q.2.2.2],λq=>by simp only[Gi,Bv,pP.ok,Au],λa b h=>by
 simp only[kP,and_true]at h;exact Prod.ext (pP.inj _ _ h.1) (Prod.ext (pP.inj _ _ h.2.1) (Prod.ext (pP.inj _ _ h.2.2.1) (pP.inj _ _ h.2.2.2))),λa b=>by simp[Ln,pP.same],λ_=>rfl⟩
instance [pP e]:F5 (Xy e eS):=⟨λa=>by simp[rG.k,Qc,pP.k]⟩
instance [pP e] [pP e']:F5 (EF e eS e'):=⟨λa=>by simp[rG.k,Qc,pP.k]⟩
instance [pP e] [pP e'] [pP e'']:F5 (EE e eS e' e''):=⟨λa=>by simp[rG.k,Qc,pP.k]⟩
variable{fs:Ev->O (Z (Z AY))}
theorem xX[rG e]:∀xs:Z α,rY (xs.map e)=U (xs.map (rG.k e))
 |[]=>rfl
 |x::xs=>by simp only[zw,rY,rG.ok,Au,xX xs]
def GY(e:α->Dt)[rG e](a b:α):Bool:=wL (rG.k e a) (rG.k e b)
def ug(e:α->Dt)[rG e](xs:Z α):Z α:=xs.mergeSort (GY e)
theorem jL[rG e](xs:Z α):(ug e xs).Perm xs:=ym ..
theorem T3[rG e](xs:Z α):(ug e xs).Pairwise (λa b=>GY e a b=true):=KF (le:=GY e) (λa b c=>xQ (rG.k e a) (rG.k e b) (rG.k e c)) (λa b=>xR (rG.k e a) (rG.k e b)) xs
theorem J4[rG e](xs:Z α):jZ (xs.map (rG.k e))=(ug e xs).map (rG.k e):=by
 refine(qZ ((jL xs).map _) (List.pairwise_map.mpr (T3 xs))).symm
theorem M3[rG e](xs:Z α):(xs.map (rG.k e)).map BF=xs.map e:=by
 rw[QU];exact JY λa _=>(Pk (rG.ok a)).symm
theorem Qt[rG e](xs:Z α)(h:xs.length<64):CQ (xs.map (rG.k e))=true:=by
 simp only[CQ,Zz,qi,qo,Qr,zi,yo,forall_exists_index,and_imp,forall_apply_eq_imp_iff₂];exact⟨h,λa _=>rG.ne a,λa _ b _=>rG.shp a b⟩
def WE[rG e](a:RL fa ρ e):R (cg u0 (ao fa aH)) ρ (oE e):=⟨ug e a.v,bA a.D (U (a.v.length<64)),λh=>by
 obtain⟨h,b⟩:=aB h;simp only[cg,ao,aH,a.ok h,Au,u0,za a.lk,xX,Qt a.v b,qS,J4,M3]⟩
abbrev uE(e:α->Dt)[rG e]:Z α->Z (Z AY):=λxs=>xs.map (rG.k e)
def Nl[rG e][F5 e](a:RL fa ρ e):R (Tj fa) ρ (uE e):=⟨a.v,bA a.D (U (a.v.length<=64)),λh=>by
 obtain⟨h,b⟩:=aB h;have b:a.v.length<=64:=b;have c:(a.v.map (rG.k e)).all Qc=true:=by
  rw[List.all_map,qo];exact λx _=>F5.tx x
 simp only[Tj,a.ok h,Au,LH,za a.lk,xX];rw[zh ⟨by rw[zi];exact b,c⟩]⟩
def Me[DecidableEq α][rG e](a:R fs ρ (uE e)):R (Gs fs) ρ (oE e):=⟨ug e (JZ a.v),bA a.D (U (a.v.length<64)),λh=>by
 obtain⟨h,b⟩:=aB h;simp only[Gs,a.ok h,Au,Qt a.v b,qS,LR rG.inj,J4,M3]⟩
end
end P1
namespace P1
open L2
section
variable{fd:Ev->O Bx}{fs:Ev->O (Z Bx)}{e:α->Dt}{e':β->Dt}{k:Ev->O An}{cO:γ->An}
abbrev mW(w:O A1)(e:α->Dt):Z (AJ×α)->Bx:=λm=>.m (m.map λq=>(kS q.1,e q.2)) w
def aM(e:α->Dt)(t:γ->Z Bx->Prop):Z (AJ×α)×γ->Z Bx->Prop:=λx bs=>∃b r,bs=b::r/\(b=nE e x.1\/b=mE e x.1)/\t x.2 r
def VY{t:γ->Z Bx->Prop}(a:R fa ρ (nE e))(r:AR t fs ρ):AR (aM e t) (ao fa fs) ρ:=⟨(a.v,r.v),bA a.D r.D,_,⟨_,_,rfl,.inl rfl,r.h⟩,λh=>by
 obtain⟨h1,h2⟩:=aB h;simp only[ao,a.ok h1,r.ok h2,Au]⟩
def VR(w:O A1)(i:Nat)(m:Z (AJ×α))(hi:ρ[i]?=U (U (mW w e m)))(a:R fa ρ (zE e))(b:R fb ρ (zE eS))(K:∀g:Z (AJ×α),R k (ρ.set i (U (mW w e g))) cO):R (aD (Vk i fa fb) k) ρ cO:=⟨(K (put m b.v a.v)).v,bA (bA (bA a.D b.D) (U (m.length<1000))) (K (put m b.v a.v)).D,λd=>by
 obtain⟨h,f⟩:=aB d;obtain⟨h,c⟩:=aB h;obtain⟨h1,h2⟩:=aB h;rw[iQ (ρ':=ρ.set i (U (mW w e (put m b.v a.v)))) (by
  unfold Vk;rw[a.ok h1,Au,b.ok h2,Au];simp only[Pa,Cl,Au,hi,mW,zi,zh (show m.length<1000 from c),VP])]
 exact(K _).ok f⟩
def EV(a:Z (AJ×β)):Z (AJ×β):=a.foldl (λm q=>put m q.1 q.2) []
theorem T4(a:Z (AJ×β)):dictOf (a.map (Xy eS e'))=(EV a).map λq=>(kS q.1,e' q.2):=by
 unfold dictOf EV;have:∀(a:Z (AJ×β)) (m:Z (AJ×β)),(a.map (Xy eS e')).foldl HU (m.map λq=>(kS q.1,e' q.2))=(a.foldl (λm q=>put m q.1 q.2) m).map λq=>(kS q.1,e' q.2):=by
  intro a
  induction a with
  |nil=>intro m;rfl
  |cons q a b=>
   intro m;rw[zw,QO,QO];show(a.map (Xy eS e')).foldl HU (Lh (m.map λq=>(kS q.1,e' q.2)) (kS q.1) (e' q.2))=_;rw[VP (c:=kS)];exact b _
 exact this a []
def U2(a:R fk ρ (zE eS))(b:R fv ρ (zE e)):R (b2 Gu fk fv) ρ (zE (Xy eS e)):=⟨(a.v,b.v),bA a.D b.D,λh=>by
 obtain⟨h1,h2⟩:=aB h;simp only[b2,a.ok h1,b.ok h2,Au,Gu]⟩
def WN(i:R fi ρ (iE e))(a:R (gB fi gt p (b2 Gu fk fv) is n) ρ (oE (Xy eS e'))):R (Vy fi gt p fk fv is n) ρ (mE e'):=⟨EV a.v,bA (bA i.D (U (i.v.length<1000))) a.D,λh=>by
 obtain⟨h,c⟩:=aB h;obtain⟨h1,h2⟩:=aB h;have h2:i.v.length<1000:=h2;have b:=a.ok c;unfold gB at b;unfold Vy;rw[i.ok h1,Au]at b ⊢;rw[zh (by rw[zi];omega)]at b;rw[zh (by rw[zi];exact h2)];obtain⟨f,d,b⟩:=AT b;rw[d,Au];injection b with b;injection b with b;rw[b,T4]⟩
def U1(a:R fa ρ (nE e)):R (cg Gx (ao fa aH)) ρ (oE eS):=⟨a.v.map (·.1),a.D,λh=>by
 simp only[cg,ao,aH,a.ok h,Au,Gx,Qq]⟩
def Mn(a:R fa ρ (zE eS))(b:R fb ρ (zE eS)):R (cg u9 (ao fa (ao fb aH))) ρ (zE eS):=⟨if Cc b.v a.v=true then b.v else a.v,bA a.D b.D,λh=>by
 obtain⟨h1,h2⟩:=aB h;simp only[cg,ao,aH,a.ok h1,b.ok h2,Au,u9];rfl⟩
def TN(a:R fa ρ (zE eS))(b:R fb ρ (zE eS)):R (cg Qg (ao fa (ao fb aH))) ρ (zE eS):=⟨if Cc a.v b.v=true then b.v else a.v,bA a.D b.D,λh=>by
 obtain⟨h1,h2⟩:=aB h;simp only[cg,ao,aH,a.ok h1,b.ok h2,Au,Qg];rfl⟩
theorem SD{bs:Z Bx}{m:Z (AJ×α)}{c:Z (AJ×α)->Ev}(x:R g ((mW (U a) e m::bs).map U++List.replicate (n-(bs.length+1)) Y) (λb=>An.nx (c b)))(h:hold x.D)(h0:∀b,(c b)[0]?=U (U (mW (U a) e b))):Qh n g a (m.map λq=>(kS q.1,e q.2)) bs=U (x.v.map λq=>(kS q.1,e q.2)):=by
 unfold Qh;rw[x.ok h,Au];simp only[h0,qS]
def UK{c:γ->Z Bx->Prop}{cO:δ->An}{T:Z (AJ×α)->γ->Z (AJ×α)}{b:Z (AJ×α)->γ->O Prop}(w:O A1)(i:Nat)(m:Z (AJ×α))(hi:ρ[i]?=U (U (mW w e m)))(S:∀m v bs,c v bs->bs.length=n/\bs.all DZ=true/\(hold (b m v)->∀a,G a (m.map λq=>(kS q.1,e q.2)) bs=U ((T m v).map λq=>(kS q.1,e q.2))))(a:AR c fs ρ)(K:∀o:Z (AJ×α),R k (ρ.set i (U (mW w e o))) cO):R (aD (Gz i n G fs) k) ρ cO:=⟨(K (T m a.v)).v,bA (bA a.D (b m a.v)) (K (T m a.v)).D,λj=>by
 obtain⟨h,l⟩:=aB j;obtain⟨h1,h2⟩:=aB h;obtain⟨f,g,d⟩:=S m a.v a.bs a.h;rw[iQ (gg hi (a.ok h1) f g (d h2))];exact(K _).ok l⟩
end
section
variable{e:α->Dt}
def sJ[DecidableEq α](x:α)(ys:Z α):Bool:=decide (x∈ys)
theorem zf[DecidableEq α]{x:α}{ys:Z α}:sJ x ys=true↔x∈ys:=by unfold sJ;rw[qi]
theorem Op[DecidableEq α][B6 e n](b:n<=60)(x:α)(ys:Z α):Ma (e x) (ys.map e)=U (decide (x∈ys)):=by
 unfold Ma;rw[zh]
 ·congr 1;rw[yv,JE,QP,qi];constructor
  ·rintro⟨y,a,h⟩;simp only[Function.comp,B6.eq]at h;by_cases q:y=x
   ·exact q▸a
   ·simp[q,Yw]at h
  ·intro h;exact⟨x,h,by simp[Function.comp,B6.eq,Yw]⟩
 ·rw[List.all_map,qo];intro y _;have:=B6.dp (e:=e) y;simp only[Function.comp,B6.eq,yT,ya,qi];omega
def LW[DecidableEq α][B6 e n](c:n<=60)(a:R fa ρ (zE e))(b:RL fb ρ e):R (b2 Mf fa fb) ρ (zE eB):=⟨!sJ a.v b.v,bA a.D b.D,λh=>by
 obtain⟨h1,h2⟩:=aB h;simp only[b2,a.ok h1,b.ok h2,Au,Mf,za b.lk,Op c,sJ]⟩
end
end P1
namespace P1
open L2 S1 S6
def kT(xs:AZ):Z AY:=xs.map Sum.inr
theorem Qu:∀(xs:AZ),Bv (xs.map eS)=U (kT xs)
 |[]=>rfl
 |x::xs=>by simp only[zw,Bv,Fk,Au,Qu xs];rfl
theorem J5:∀(a:Z AZ),rY (a.map (eT eS))=U (a.map kT)
 |[]=>rfl
 |x::a=>by simp only[zw,rY,Gi,eT,Qu,Au,J5 a]
def IX(a b:AZ):Bool:=wL (kT a) (kT b)
def vC(a:Z AZ):Z AZ:=a.mergeSort IX
theorem pQ(xs:Z AZ):(vC xs).Perm xs:=ym ..
theorem Qv(xs:Z AZ):(vC xs).Pairwise (λa b=>IX a b=true):=KF (le:=IX) (λa b c=>xQ (kT a) (kT b) (kT c)) (λa b=>xR (kT a) (kT b)) xs
theorem T5(xs:Z AZ):jZ (xs.map kT)=(vC xs).map kT:=(qZ ((pQ xs).map _) (List.pairwise_map.mpr (Qv xs))).symm
theorem i8(xs:Z AZ):(xs.map kT).map BF=xs.map (eT eS):=by
 rw[QU];refine JY λa _=>?_;show Dt.tup ((kT a).map dK)=Dt.tup (a.map eS);unfold kT;rw[QU];rfl
theorem Z'(a b:AZ):Ln (kT a) (kT b)=true:=by
 unfold Ln kT;rw[qo];rintro⟨x,y⟩ h;obtain⟨h1,h2⟩:=yf h;obtain⟨p,_,rfl⟩:=List.mem_map.mp h1;obtain⟨q,_,rfl⟩:=List.mem_map.mp h2;rfl
theorem ff(xs:Z AZ)(h:xs.length<64)(d:∀x∈xs,x.isEmpty=false):CQ (xs.map kT)=true:=by
 simp only[CQ,Zz,qi,qo,Qr,zi,yo,forall_exists_index,and_imp,forall_apply_eq_imp_iff₂];refine⟨h,λa c=>?_,λa _ b _=>Z' a b⟩;have:=d a c;cases a with
 |nil=>cases this
 |cons _ _=>rfl
def R1(a:RL fa ρ (eT eS)):R (cg u0 (ao fa aH)) ρ (oE (eT eS)):=⟨vC a.v,bA a.D (U (a.v.length<64/\∀x∈a.v,x.isEmpty=false)),λh=>by
 obtain⟨h,b⟩:=aB h;obtain⟨b,c⟩:a.v.length<64/\∀x∈a.v,x.isEmpty=false:=b;simp only[cg,ao,aH,a.ok h,Au,u0,za a.lk,J5,ff a.v b c,qS,T5,i8]⟩
section
variable{e:α->Dt}
theorem map_some(e:α->Dt)(xs:Z α):(xs.map U).map (eO e)=xs.map e:=by rw[QU];rfl
end
end P1
namespace P1
open L2
section
variable{k:Ev->O An}{cO:α->An}
def gf(i:Nat)(E:Ev)(a:IT i ρ=U E)(K:R k E cO):R (ER i k) ρ cO:=⟨K.v,K.D,λh=>by
 unfold ER;rw[a];exact K.ok h⟩
end
section
variable{e:α->Dt}
end
section
variable{σ τ:Type}{k:Ev->O An}{cO:γ->An}
def J6(a:σ->Bool)(step:σ->jt σ τ):Nat->σ->jt σ τ
 |0,s=>.nx s
 |n+1,s=>if a s=true then(match step s with
  |.nx s'=>J6 a step n s'
  |.ct s'=>J6 a step n s'
  |.bk s'=>.nx s'
  |.rt r=>.rt r)else .nx s
def DF(b:σ->Bool)(a:σ->O Prop)(step:σ->jt σ τ)(P:σ->O Prop):Nat->σ->Prop
 |0,_=>False
 |n+1,s=>hold (a s)/\(b s=true->hold (P s)/\match step s with
  |.nx s'=>DF b a step P n s'
  |.ct s'=>DF b a step P n s'
  |.bk _=>True
  |.rt _=>True)
theorem Mv(a:σ->Bool)(step:σ->jt σ τ):∀(n:Nat) (s:σ),(∃s',J6 a step n s=.nx s')\/∃r,J6 a step n s=.rt r
 |0,s=>.inl ⟨s,rfl⟩
 |n+1,s=>by
  unfold J6;split
  ·cases step s with
   |nx s'=>exact Mv a step n s'
   |ct s'=>exact Mv a step n s'
   |bk s'=>exact .inl ⟨s',rfl⟩
   |rt r=>exact .inr ⟨r,rfl⟩
  ·exact .inl ⟨s,rfl⟩
theorem T6{c:τ->Bx}(E:σ->Ev)(a:∀s,R p (E s) tE)(body:∀s,R gb (E s) (cC E c)):∀(n:Nat) (s:σ),DF (λs=>(a s).v) (λs=>(a s).D) (λs=>(body s).v) (λs=>(body s).D) n s->Xr p gb n (E s)=U (cC E c (J6 (λs=>(a s).v) (λs=>(body s).v) n s))
 |0,s,h=>absurd h id
 |n+1,s,h=>by
  obtain⟨h1,h2⟩:=h;have d:p (E s)=U (a s).v:=(a s).ok h1;unfold Xr J6;rw[d,Au];cases f:(a s).v with
  |false=>rfl
  |true=>
   obtain⟨e,b⟩:=h2 f;rw[zh rfl,zh rfl,(body s).ok e,Au];cases hb:(body s).v with
   |nx s'=>dsimp only at b;rw[hb]at b;exact T6 E a body n s' b
   |ct s'=>dsimp only at b;rw[hb]at b;exact T6 E a body n s' b
   |bk s'=>rfl
   |rt r=>rfl
def V0{c:τ->Bx}(n:Nat)(E:σ->Ev)(a:σ)(g:ρ=E a)(b:∀s,R p (E s) tE)(body:∀s,R gb (E s) (cC E c))(inj:τ->γ)(f:∀r,cO (inj r)=.rt (c r))(K:∀s,R k (E s) cO):R (aD (Xr p gb n) k) ρ cO:=
 ⟨BG (J6 (λs=>(b s).v) (λs=>(body s).v) n a) inj λs=>(K s).v,bA (U (DF (λs=>(b s).v) (λs=>(b s).D) (λs=>(body s).v) (λs=>(body s).D) n a)) (Mt (J6 (λs=>(b s).v) (λs=>(body s).v) n a) λs=>(K s).D),λe=>by
 obtain⟨h2,d⟩:=aB e;have e1:Xr p gb n ρ=U (cC E c (J6 (λs=>(b s).v) (λs=>(body s).v) n a)):=by
  subst g;exact T6 E b body n a h2
 rcases Mv (λs=>(b s).v) (λs=>(body s).v) n a with⟨s',es⟩|⟨r,es⟩
 ·rw[es]at e1 d ⊢;rw[iQ e1];exact(K s').ok d
 ·rw[es]at e1 ⊢;show aD (Xr p gb n) k ρ=U (cO (inj r));unfold aD;rw[e1,f];rfl⟩
end
section
variable{e:α->Dt}
def ID(fs:Ev->O (Z Bx)):Ev->O (Z Dt):=λρ=>(fs ρ).bind Qj
def wW(xs:Z α):Z (Int×α):=(List.range xs.length).zipWith (λ(k:Nat) x=>((k:Int),x)) xs
theorem Xz(xs:Z α):BJ (xs.map e)=(wW xs).map (Xy eI e):=by
 unfold BJ wW;rw[zi,List.zipWith_map_right,List.map_zipWith]
def SK(a:R fa ρ (zE (eL e))):R (ID (ao fa aH)) ρ (iE (Xy eI e)):=⟨wW a.v,a.D,λh=>by
 simp only[ID,ao,aH,a.ok h,Au,zE,eL,Qj,Xz]⟩
end
section
variable{σ τ:Type}
theorem Mw{step:σ->α->σ}{P:σ->α->O Prop}(I:Nat->σ->Prop):∀(xs:Z α) (m:Nat) (a:σ),I m a->(∀k x s,xs[k]?=U x->I (m+k) s->hold (P s x)/\I (m+k+1) (step s x))->kY step P xs a/\I (m+xs.length) (xs.foldl step a)
 |[],m,a,h0,_=>⟨trivial,h0⟩
 |x::xs,m,a,h0,hs=>by
  obtain⟨h1,h2⟩:=hs 0 x a S h0;have:=Mw I xs (m+1) (step a x) h2 λk y s e h=>by
   have:=hs (k+1) y s (by simpa using e) (by rw[show m+(k+1)=m+1+k by omega];exact h);rw[show m+(k+1)+1=m+1+k+1 by omega]at this;exact this
  refine⟨⟨h1,this.1⟩,?_⟩;rw[qc,show m+(xs.length+1)=m+1+xs.length by omega];exact this.2
theorem XI{i:Int}{k:Nat}{x:Int}(h:(rng i n)[k]?=U x):x=i+k/\k<n:=by
 unfold rng at h;rw[ZN]at h;cases a:(List.range n)[k]? with
 |none=>rw[a]at h;cases h
 |some j=>
  rw[a]at h;have b:k<n:=by simpa using(List.getElem?_eq_some_iff.mp a).1
  have:j=k:=by
   rw[List.getElem?_range b]at a;cases a;rfl
  subst this;cases h;exact⟨rfl,b⟩
theorem pR(i:Int)(n:Nat):(rng i n).length=n:=by unfold rng;simp
theorem az{i:Int}{x:Int}(h:x∈rng i n):i<=x/\x<i+n:=by
 unfold rng at h;obtain⟨k,a,rfl⟩:=List.mem_map.mp h;have:=List.mem_range.mp a;omega
theorem vD{step:σ->Int->σ}{P:σ->Int->O Prop}(I:Nat->σ->Prop)(n:Nat)(a:σ)(h0:I 0 a)(hs:∀(k:Nat) s,k<n->I k s->hold (P s k)/\I (k+1) (step s k)):kY step P (rng 0 n) a/\I n ((rng 0 n).foldl step a):=by
 have:=Mw (P:=P) I (rng 0 n) 0 a h0 λk x s e h=>by
  obtain⟨rfl,b⟩:=XI e;rw[KG]at h ⊢;rw[Int.zero_add];exact hs k s b h
 rw[pR,KG]at this;exact this
theorem G5{step:Unit->α->jt Unit Bool}{P:Unit->α->O Prop}:∀xs:Z α,(∀x∈xs,hold (P () x)/\(step () x=.nx ()\/step () x=.ct ()))->jB step xs ()=.nx ()/\uf step P xs ()
 |[],_=>⟨rfl,trivial⟩
 |x::xs,h=>by
  obtain⟨h1,h2⟩:=h x (zk ..);have a:=G5 (P:=P) xs λy b=>h y (zo _ b);rcases h2 with h2|h2
  ·exact⟨by unfold jB;rw[h2];exact a.1,h1,by rw[h2];exact a.2⟩
  ·exact⟨by unfold jB;rw[h2];exact a.1,h1,by rw[h2];exact a.2⟩
theorem pq[Inhabited α]{xs:Z α}{i:Int}(h:In xs.length i):at' xs i∈xs:=by
 obtain⟨x,hx⟩:=Mq h;unfold at';rw[hx];unfold Ie at hx;obtain⟨j,_,hx⟩:=AT hx;exact QA hx
theorem NA[Inhabited α]{xs:Z α}{k:Nat}{x:α}(h:xs[k]?=U x):at' xs (k:Int)=x:=by
 have a:k<xs.length:=(List.getElem?_eq_some_iff.mp h).1;unfold at' Ie EN;rw[zh (by omega),zh (by omega),Au,KP,h];rfl
theorem T7[Inhabited α](xs:Z α)(k:Nat)(h:k<xs.length):at' xs (k:Int)=xs[k]:=NA (Zs h)
theorem B8{i:Int}(h0:0<=i)(h1:i<n):In n i:=⟨by omega,h1⟩
theorem G6{k:Nat}(h:k<n):In n (k:Int):=⟨by omega,by omega⟩
theorem jM{x m:Int}(a:0<m)(h:m<=n):In n (x%m):=B8 (Int.emod_nonneg _ (by omega)) (Int.lt_of_lt_of_le (Int.emod_lt_of_pos _ a) h)
theorem iR(x:Int){m:Int}(a:0<m):0<=x%m/\x%m<m:=⟨Int.emod_nonneg _ (by omega),Int.emod_lt_of_pos _ a⟩
theorem J7{j:Int}(h0:0<=j)(h1:j<=1000000):Rg j:=⟨by omega,by omega⟩
theorem IG{a b:Int}(h0:0<=a)(h1:a<18446744073709551616):FI a b:=.inl ⟨by omega,h1⟩
theorem zj{xs:Z α}{x:α}(h:x∈cut xs lo hi):x∈xs:=List.mem_of_mem_drop (List.mem_of_mem_take h)
theorem Ek(xs:Z α)(lo hi:O Int):(cut xs lo hi).length<=xs.length:=by
 unfold cut;rw[kz,kA];omega
theorem aw{xs:Z α}{k:Nat}(h:k<=xs.length):cut xs (U (k:Int)) Y=xs.drop k:=by
 unfold cut;rw[HT.acw,HT.YW,Nat.min_eq_left h,List.take_of_length_le (by simp)]
theorem eG(x y:AJ):(x++y).length=x.length+y.length:=by
 show(x.cps++y.cps).size=_;rw[KS];rfl
theorem mU(x:AJ)(i:Int):(ch x i).length=1:=rfl
theorem slice_le(x:AJ)(l u:O Int):(Txt.slice x l u).length<=x.length:=PyProof.Txt.length_slice_le x l u
theorem XC(x:AJ):(CA x).length=x.length:=by unfold CA;rw[zi,qq];rfl
theorem XD(x:AJ):(BH x).length=x.length:=by rw[Tx,zi,XC]
end
section
variable [Inhabited α] {e:α->Dt}{k:Ev->O An}{cO:γ->An}
def OU(j i:Nat)(xs:Z α)(hi:ρ[i]?=U (U (.o (xs.map e))))(a:R f ρ (zE eI))(K:∀(ys:Z α) (y:α),R k ((ρ.set i (U (.o (ys.map e)))).set j (U (zE e y))) cO):R (aD (FC j i f) k) ρ cO:=
 ⟨(K (xs.drop 1) (at' xs 0)).v,bA (bA a.D (U (a.v=0/\0<xs.length))) (K (xs.drop 1) (at' xs 0)).D,λc=>by
 obtain⟨h1,b⟩:=aB c;obtain⟨h1,h2⟩:=aB h1;obtain⟨h0,d⟩:a.v=0/\0<xs.length:=h2;rw[iQ (ρ':=(ρ.set i (U (.o ((xs.drop 1).map e)))).set j (U (zE e (at' xs 0)))) (by
  unfold FC;rw[a.ok h1,Au];show(match (Bx.z (Dt.int a.v))with|.z (.int k)=>_|_=>Y)=_;dsimp only;rw[hi];dsimp only;rw[h0];cases xs with
  |nil=>simp at d
  |cons x xs=>
   have e1:at' (x::xs) 0=x:=NA (xs:=x::xs) (k:=0) rfl;rw[e1,zh (by decide)];have e2:seqIndex? 0 ((x::xs).map e).length=U 0:=by
    rw[PySem.seqIndex_of (by decide) (by simp)];rfl
   rw[e2];rfl)]
 exact(K (xs.drop 1) (at' xs 0)).ok b⟩
end
section
variable{e:α->Dt}{k:Ev->O An}{cO:γ->An}
def YN(i:Nat)(xs:Z α)(hi:ρ[i]?=U (U (.o (xs.map e))))(a:R f ρ (oE e))(K:∀ys:Z α,R k (ρ.set i (U (.o (ys.map e)))) cO):R (aD (F2 i f) k) ρ cO:=⟨(K (xs++a.v)).v,bA (bA a.D (U (sy (xs.length+a.v.length)))) (K (xs++a.v)).D,λc=>by
 obtain⟨h1,b⟩:=aB c;obtain⟨h1,h2⟩:=aB h1;have h2:xs.length+a.v.length<=1000000:=h2;rw[iQ (ρ':=ρ.set i (U (.o ((xs++a.v).map e)))) (by
  unfold F2;rw[a.ok h1,Au];show FX ρ i (.o (a.v.map e))=_;simp only[FX,hi,zi,qB];rw[zh (ZH h2 (by decide))])]
 exact(K _).ok b⟩
end
section
variable{e:α->Dt}{k:Ev->O An}{cO:γ->An}
def bS[Inhabited γ]:R (aD IP k) ρ cO:=⟨default,U False,λh=>absurd h id⟩
def LX{c:α->Bx}(a:R f ρ c)(K:R k ρ cO):R (aD (BK f) k) ρ cO:=⟨K.v,bA a.D K.D,λb=>by
 obtain⟨h1,h2⟩:=aB b;rw[iQ (ρ':=ρ) (by unfold BK;rw[a.ok h1,Au])];exact K.ok h2⟩
def YY(a:R fa ρ (zE eS))(b:R fb ρ (zE e)):R (b2 J2 fa fb) ρ (mE e):=⟨[(a.v,b.v)],bA a.D b.D,λh=>by
 obtain⟨h1,h2⟩:=aB h;simp only[b2,a.ok h1,b.ok h2,Au,J2];rfl⟩
theorem ik[DecidableEq κ]{c:κ->AY}[Ky c](m:Z (κ×α))(x:κ):G1 (m.map λq=>(c q.1,e q.2)) (c x)=has m x:=by
 unfold G1 has;rw[yv];simp only[Function.comp_def,HH]
def L8(a:R fa ρ (zE eS))(b:R fb ρ (nE e)):R (b2 Xw fa fb) ρ (zE eB):=⟨!has b.v a.v,bA a.D b.D,λh=>by
 obtain⟨h1,h2⟩:=aB h;simp only[b2,a.ok h1,b.ok h2,Au,Xw,Cl,nE,ik]⟩
theorem T2{bs:Z Bx}{a:γ->Ev}(x:R g (bs.map U++List.replicate (n-bs.length) Y) (λr=>An.nx (a r)))(h:hold x.D):dY n g bs=U (.z .non):=by
 unfold dY;rw[x.ok h];rfl
end
section
variable{e:α->Dt}
def Mo(a:RL fa ρ e):R (b2 Tv fa (b1 W3 (cB (.int 1)))) ρ (oE e):=⟨a.v.reverse,a.D,λh=>by
 simp only[b2,b1,a.ok h,Au,cB,W3,Tv,a.lk,qS,oE,List.map_reverse]⟩
end
section
variable{e:α->Dt}{e':β->Dt}
end
def RP(f:Ev->O β)(ρ:Ev)(c:α->β)(v:α)(D:O Prop):Prop:=hold D->f ρ=U (c v)
theorem R.tp{f:Ev->O β}{c:α->β}{b:α}{a:O Prop}(x:R f ρ c)(d:x.v=b:=by kernel_rfl)(e:x.D=a:=by kernel_rfl):RP f ρ c b a:=λh=>by
 subst d e;exact x.ok h
def RP.r{f:Ev->O β}{c:α->β}{v:α}{D:O Prop}(h:RP f ρ c v D):R f ρ c:=⟨v,D,h⟩
theorem GN{p:Z α->Prop}(h:∀a,p [a]):∀us:Z α,us.length=1->p us
 |[a],_=>h a
theorem FG{p:Z α->Prop}(h:∀a b,p [a,b]):∀us:Z α,us.length=2->p us
 |[a,b],_=>h a b
theorem di{p:Z α->Prop}(h:∀a b c,p [a,b,c]):∀us:Z α,us.length=3->p us
 |[a,b,c],_=>h a b c
theorem RF{p:Z α->Prop}(h:∀a b c d,p [a,b,c,d]):∀us:Z α,us.length=4->p us
 |[a,b,c,d],_=>h a b c d
theorem UQ{p:Z α->Prop}(h:∀a b c d e,p [a,b,c,d,e]):∀us:Z α,us.length=5->p us
 |[a,b,c,d,e],_=>h a b c d e
end P1
namespace P1
open L2 S1
end P1
namespace P1
open L2
section
variable{fs:Ev->O (Z Bx)}{g1 g2:Ev->O An}
end
section
variable{AS:Z AB}{g1 g2:Ev->O An}
end
section
variable{ks:Z V}
end
section
variable{M0 M1 M2 er:Expr}{f0 f2:Ev->O Bx}{d0 d2:Dt}{z0 z1 z2 z3:Pos}
end
section
variable{st:Z AB}{fr:Ev->O Bx}{i':Nat}{W:Z Nat}{z:Pos}
end
section
variable{a b c g1 g2:Ev->O An}{k:Nat}
end
end P1
namespace P1
open L2 S6
section
variable{kx vx t1 i1 t2 i2:Expr}{f1 f2:Z Expr}{xs:AZ}{g1 g2:Dt->Ev->O Ev}{p1 p2:Ev->O Bool}{fi1 fi2:Ev->O (Z Dt)}{fs:Ev->O (Z Dt)}{N m:Nat}
def cls2(fi:Ev->O (Z Dt))(gt:Dt->Ev->O Ev)(p:Ev->O Bool)(fs:Ev->O (Z Dt))(is:Z Nat)(n:Nat):Ev->O (Z Dt):=λρ=>(fi ρ).bind λds=>CK gt p fs (mR is ρ++List.replicate n Y) ds
end
end P1
namespace P1
open L2
section
variable{e:α->Dt}{e':β->Dt}{fs:Ev->O (Z Dt)}
end
def hx(h:A6)(a:A1):HO:=.ext λh'=>h'.get? a=h.get? a
section
variable{H2:Hp}{as:Z A1}
end
section
variable{gs:Z (Int×A1×Z Dt)}{k:Int}{x:Dt}{u:V}
end
section
variable{e1 e2 ev:Expr}{f2:Ev->O Bx}{w:AJ}{pw py py2 py3 px p1 p3 p4 pl a1 a2 c1 c2:Pos}
end
end P1
namespace P1
open L2 S6
section
variable{kx vx t1 i1 t2 i2:Expr}{f1 f2:Z Expr}{xs:AZ}{g1 g2:Dt->Ev->O Ev}{p1 p2:Ev->O Bool}{fi1 fi2:Ev->O (Z Dt)}{m:Nat}
end
end P1
namespace P1
open L2
section
variable{e:α->Dt}{e0:β->Dt}{fd f2:Ev->O Bx}{kk:Ev->O An}{cO:γ->An}
end
section
variable{e:α->Dt}{fs:Ev->O (Z Dt)}
end
section
variable{a:Expr}
end
theorem dJ{bs:Z Bx}{c:α->Bx}{v:α}{D:O Prop}(x:RP g (bs.map U++List.replicate (n-bs.length) Y) (λr=>An.rt (c r)) v D)(h:hold D):dY n g bs=U (c v):=N1 x.r h
section
variable{e:α->Dt}
end
open PySem.Builtin PySem.Builtin.Str
section
variable{o:Expr}{fx:Ev->O Bx}
end
section
variable{g:Ev->O AJ}
end
section
variable{e1 e2 e3:Expr}{gr:Ev->O An}{fx:Ev->O Dt}{tR tQ:TS}{xr xj y1 y2:AJ}{AS no:Z AB}{kk:Nat}{p0 p00 p01 p02 q1 q2 pt pj pa px pb pif pf2 px3 a1 c1 pe1 pr a2 pj2 c2 pe2:Pos}
end
section
variable{e:α->Dt}{ea:β->Dt}{eb:δ->Dt}{kk:Ev->O An}{cO:γ->An}
end
end P1
namespace P1
open L2 S1
section
variable{k:Nat}{f:A1}{F:Z Bx->O Bx}{p:Pos}
end
end P1
namespace P1
open L2 S1 S6
theorem GU{p:Z α->Prop}(h:p []):∀us:Z α,us.length=0->p us
 |[],_=>h
section
variable{e:α->Dt}{g:Ev->O Bx}{c:α->Bx}
end
def D0(d:Dt):R (cB d) ρ (zE eD):=yW d eD d rfl
def B5(i:Int):R (cB (.int i)) ρ (zE eI):=yW (.int i) eI i rfl
def DE(s:AJ):R (cB (.str s)) ρ (zE eS):=yW (.str s) eS s rfl
abbrev Nn(K:B1)(n:AJ)(f:A1):Prop:=nsIn K mainGlobals n=U (U (.ref f))
abbrev Lk(K:B1)(f:A1)(n:AJ)(st:AB)(c:A0)(od:O A1)(sl:Array (O A0))(kV d b:A0)(a:O A1)(cd ct:A0):Prop:=K.lookup f=U ⟨c,od,.func (fnOf n n (nH st) (d8 st) (aG st) .none kV d b a cd ct),sl⟩
end P1
namespace P1
open L2
section
variable{e:α->Dt}
def Iv(x:Dt)(ys:Z Dt):Bool:=ys.any λy=>Yw (uz y x)
def XF(x:Dt)(ys:Z Dt):Prop:=∀y∈ys,(uz y x).isSome=true/\min (uc y) (uc x)<=60
theorem bp{x:Dt}{ys:Z Dt}(h:XF x ys):Ma x ys=U (Iv x ys):=by
 unfold Ma;rw[zh]
 ·rfl
 ·rw[qo];intro y a;rw[(h y a).1,ya];exact ZT (h y a).2
def ap(a:R fa ρ (zE eD))(b:RL fb ρ e):R (b2 Mf fa fb) ρ (zE eB):=⟨!Iv a.v (b.v.map e),bA (bA a.D b.D) (U (XF a.v (b.v.map e))),λh=>by
 obtain⟨h,c⟩:=aB h;obtain⟨h1,h2⟩:=aB h;simp only[b2,a.ok h1,b.ok h2,Au,Mf,za b.lk,eD];show(Ma a.v (b.v.map e)).bind _=_;rw[bp c];rfl⟩
end
def GW(h:A6)(e:A1)(C:A0)(dx:O A1):Prop:=∃vs sl,h.get? e=U ⟨C,dx,.fields vs,sl⟩/\vs[1]?=U .none/\vs[2]?=U .none
def T8(h:A6)(e:A1)(C:A0)(dx:O A1)(fl:A0)(T:A1):Prop:=
 ∃vs sl a ts,h.get? e=U ⟨C,dx,.fields vs,sl⟩/\vs[1]?=U (.ref T)/\T≠e/\h.get? T=U a/\a.data=.fields ts/\ts[3]?=U fl/\vs[2]?=U .none
structure Mx (S ch:List Addr) (h h':Heap):Prop where
 keep:∀b o,h.get? b=some o->b∉ch->b∉S->h'.get? b=some o
 slot:∀b o,h.get? b=some o->b∉ch->∃sl,h'.get? b=some { o with slots:=sl }
theorem Mx.trans{S c1 c2:Z A1}{h1 h2:A6}(a:Mx S c1 h h1)(b:Mx S c2 h1 h2):Mx S (c1++c2) h h2:=by
 refine⟨λx o e n m=>b.keep x o (a.keep x o e (λz=>n (Zp _ z)) m) (λz=>n (ZA _ z)) m,λx o e n=>?_⟩;obtain⟨d,e1⟩:=a.slot x o e (λz=>n (Zp _ z));obtain⟨c,e2⟩:=b.slot x _ e1 (λz=>n (ZA _ z));exact⟨c,e2⟩
theorem Mx.mono{S S' c1 c2:Z A1}{h1:A6}(a:Mx S c1 h h1)(c:∀b∈c1,b∈c2)(hs:∀b∈S,b∈S'):Mx S' c2 h h1:=
 ⟨λx o e n m=>a.keep x o e (λz=>n (c _ z)) (λz=>m (hs _ z)),λx o e n=>a.slot x o e (λz=>n (c _ z))⟩
theorem Mx.uJ{S ch:Z A1}{h1:A6}{l:Z Env}(a:Mx S ch h h1)(f:∀b∈ch,∀o,h.get? b=U o->∃vs,o.data=.fields vs)(c:h.FunFrames base l):h1.FunFrames base l:=
 c.of_keeps λb o e g=>by
  obtain⟨sl,q⟩:=a.slot b o e λz=>by
   obtain⟨vs,d⟩:=f b z o e;exact g vs d
  exact⟨_,q,rfl⟩
section
variable{outer:Z Env}{L e T:A1}{C fl:A0}
theorem J8{d:A0}{w:Bool}{vs:Array A0}(y:A.frames=U (env::outer))(i:s.heap.FunFrames base (env::outer))(D:env.frame=U L)(he:s.heap.get? e=U ⟨C,dx,.fields vs,sl⟩)(hsz:1<vs.size)(h2:vs[2]?=U .none)(h:∀h' T,s.heap.objs.size<=T->Mx (BV (env::outer)) [e] s.heap h'->T8 h' e C dx (rawInt L) T->Q () { s with heap:=h' }):
  A7 M A (do let a <-frameOf env;let pl <-entryPlaceOf L w;let b <-EntryCells.newEntry d a .none (rawInt L) .none pl;setField (.ref e) 1 b) Q Ex s:=by
 have B:e∉BV (env::outer):=λG=>by
  obtain⟨_,o,j,v⟩:=i.mem G;rw[he]at j;cases j;exact v vs rfl
 refine zb (wpAny_frameOf_fun y i D λh1 c=>?_);refine zb (wpAny_entryPlaceOf λpl p=>?_);unfold EntryCells.newEntry newFields;refine zb (qh ?_ (p.sizeOk5 _ _ _ _ _));have f:h1.get? e=U ⟨C,dx,.fields vs,sl⟩:=(c.2.1 e B).trans he;have g:=zd (h:=h1) { cls:=.type "traceback",dict:=Y,data:=.fields ([d,.ref L,.none,rawInt L,.none]++(if pl.isEmpty then List.replicate 6 Value.none else pl)).toArray } f;refine wpAny_setField g S hsz (h _ h1.objs.size (by rw[c.1];exact zg _) ?_ ?_)
 ·have kp:∀b o,b≠e->h1.get? b=U o->_:=λb o hb E=>(QN _ (Obj.mapFields (·.setIfInBounds 1 (Value.ref h1.objs.size))) (jI hb)).trans (zd
   { cls:=.type "traceback",dict:=Y,data:=.fields ([d,.ref L,.none,rawInt L,.none]++(if pl.isEmpty then List.replicate 6 Value.none else pl)).toArray } E)
  refine⟨λb o q n m=>kp b o (λz=>n (by simp[z])) ((c.2.1 b m).trans q),λb o q n=>?_⟩;obtain⟨u,x⟩:=c.2.2 b o q;exact⟨u,kp b _ (λz=>n (by simp[z])) x⟩
 ·have l:h1.objs.size≠e:=jS (zt f);have F:=QE (Obj.mapFields (·.setIfInBounds 1 (Value.ref h1.objs.size))) g (KW (kg S _));have t:=(QN (h1.push { cls:=.type "traceback",dict:=Y,data:=.fields ([d,.ref L,.none,rawInt L,.none]++(if pl.isEmpty then List.replicate 6 Value.none else pl)).toArray })
   (Obj.mapFields (·.setIfInBounds 1 (Value.ref h1.objs.size))) (jI l)).trans (zv h1 S)
  refine⟨_,_,_,_,F,by simp[hsz],l,t,rfl,?_,?_⟩
  ·first|(simp;done)|(rcases p with rfl|⟨_,_,_,_,_,_,_,rfl⟩<;>simp)
  ·rw[Array.getElem?_setIfInBounds_ne (by decide)];exact h2
theorem Tm(c:A.frames=U (env::outer))(d:s.heap.FunFrames base (env::outer))(a:env.frame=U L)(hx:GW s.heap e C dx)
  (h:∀h' T,s.heap.objs.size<=T->Mx (BV (env::outer)) [e] s.heap h'->T8 h' e C dx (rawInt L) T->Q () { s with heap:=h' }):A7 M A (noteFrame (.ref e) env) Q Ex s:=by
 obtain⟨vs,sl,b,h1,h2⟩:=hx;unfold noteFrame;simp only[a];refine zb (Jn b S h1 ?_);rw[zC (by decide)];exact J8 c d a b (Array.getElem?_eq_some_iff.mp h1).1 h2 h
theorem XH(f:env.frame=U L)(hx:T8 s.heap e C dx (rawInt L) T)(h:Q () s):A7 M A (noteFrame (.ref e) env) Q Ex s:=by
 obtain⟨vs,sl,g,ts,d,h1,i,c,b,a,h2⟩:=hx;unfold noteFrame;simp only[f];refine zb (Jn d S h1 ?_);rw[zh (show(Value.ref T !=Value.none)=true from by simp)];refine zb (Jn c b a ?_);rw[zh (show(rawInt L==rawInt L)=true from by simp)];exact ze h
theorem V1{fl':A0}(hx:T8 s.heap e C dx fl T):∀h',h'=s.heap.update T (Obj.mapFields (·.setIfInBounds 3 fl'))->Mx [] [T] s.heap h'/\T8 h' e C dx fl' T:=by
 obtain⟨vs,sl,j,ts,i,h1,c,h,a,f,h2⟩:=hx;have g:3<ts.size:=(Array.getElem?_eq_some_iff.mp f).1;intro h' d;subst d;have oth:∀b,b≠T->(s.heap.update T (Obj.mapFields (·.setIfInBounds 3 fl'))).get? b=s.heap.get? b:=λb hb=>QN _ _ (jI hb);refine⟨⟨λb o q n _=>(oth b λz=>n (by simp[z])).trans q,λb o q n=>⟨o.slots,(oth b λz=>n (by simp[z])).trans q⟩⟩,vs,sl,_,_,(oth e (jI c)).trans i,h1,c,
  QE _ h (KW (kg a _)),kg a _,by simp[g],h2⟩
theorem sO(fr:O A1)(hx:T8 s.heap e C dx fl T)(h:∀h',Mx [] [T] s.heap h'->T8 h' e C dx (fr.elim .none λf=>rawInt f) T->Q () { s with heap:=h' }):A7 M A (setFlight (.ref e) fr) Q Ex s:=by
 obtain⟨x1,c⟩:=V1 (fl':=fr.elim .none λf=>rawInt f) hx _ rfl;obtain⟨vs,sl,i,ts,g,h1,j,d,b,a,h2⟩:=hx;unfold setFlight;refine zb (Jn g S h1 ?_);rw[zh (show(Value.ref T !=Value.none)=true from by simp)];exact wpAny_setField d b (Array.getElem?_eq_some_iff.mp a).1 (h _ x1 c)
theorem V2(l:A.frames=U (env::outer))(m:s.heap.FunFrames base (env::outer))(j:env.frame=U L)(hx:T8 s.heap e C dx .none T)
  (h:∀h' a,s.heap.objs.size<=a->Mx (BV (env::outer)) [T,e] s.heap h'->T8 h' e C dx (rawInt L) a->Q () { s with heap:=h' }):A7 M A (noteFrame (.ref e) env) Q Ex s:=by
 obtain⟨x1,t⟩:=V1 (fl':=.none) hx _ rfl;obtain⟨vs,sl,u,ts,i,h1,p,f,d,g,h2⟩:=hx;unfold noteFrame;simp only[j];refine zb (Jn i S h1 ?_);rw[zh (show(Value.ref T !=Value.none)=true from by simp)];refine zb (Jn f d g ?_);rw[zC (show ¬ ((Value.none==rawInt L)=true) from by simp[rawInt])];refine zb (wpAny_setField f d (Array.getElem?_eq_some_iff.mp g).1 ?_);have n:Mx (BV (env::outer)) [T] _ _:=x1.mono (λ_ z=>z) (λ_ z=>nomatch z);refine J8 (base:=base) l (x1.uJ (λb z o q=>by
  obtain rfl:b=T:=by simpa using z
  rw[f]at q;cases q;exact⟨_,d⟩) m) j ((x1.keep e _ i (by simpa using jI p) (by simp))) (Array.getElem?_eq_some_iff.mp h1).1 h2 λh' a z c x=>?_
 exact h h' a (by have:=Heap.size_after_update s.heap T (Obj.mapFields (·.setIfInBounds 3 Value.none));exact this▸z) (n.trans c) x
end
structure zm (X:Cx) (H:Hp) (b:Addr):Prop where
 un:H b=none
 ab:X.s₀.heap.objs.size<=b
 nl:b≠X.env.locals
 nc:∀x c,X.env.cells.lookup x=some c->c≠b
section
variable{H':Hp}{h':A6}{ch:Z A1}
theorem zm.new(I:AU X [] σ H s){b:A1}(h:s.heap.objs.size<=b):zm X H b:=
 ⟨I.hok.fresh h,ZH I.sz h,λz=>by have:=I.lt;rw[<-z]at this;exact absurd this (Nat.not_lt.mpr h),λx c e z=>by
  obtain⟨v,q⟩:=I.cell x c e;have:c<s.heap.objs.size:=by
   obtain⟨o,q⟩:∃o,s.heap.get? c=U o:=by
    first|(obtain⟨o,q,_⟩:=q;exact⟨o,q⟩)|exact⟨_,q⟩
   exact zt q
  rw[z]at this;exact absurd this (Nat.not_lt.mpr h)⟩
theorem El{t':Nat}(h:X.pn=[])(I:AU X [] σ H s)(c:Mx (BV X.stack) ch s.heap h')(f:∀b∈ch,zm X H b):AU X [] σ H { s with heap:=h',toks:=t' }:=by
 refine I.step (g':=s.gens) (d':=s.drawn) (ch:=ch) (λb hb=>⟨.inr (f b hb).ab,(f b hb).nl,(f b hb).nc,λp hp=>by rw[h]at hp;cases hp⟩)
  (λb o g hb a e n=>c.keep b o e a λz=>(List.mem_cons.mp (I.Et b z)).elim g hb) (λb o _ _ a e n=>c.slot b o e a) (λ_ _ _ _ n=>n)
  (λb o a e=>let ⟨_,q⟩:=c.slot b o e a;⟨_,q⟩) (λ_ _ e=>e) (λ_ _ _ e=>e) (λb ps e=>⟨#[],by rw[e];simp⟩) (λm l=>?_) (λb u e=>?_) I.bare
 ·obtain⟨o,es,ep,j,r⟩:=l;obtain⟨sl,q⟩:=c.slot _ o j λz=>(f _ z).nl rfl;exact⟨_,es,ep,q,r⟩
 ·have ne:∀(d:A1) (w:HO),H d=U w->d∉ch/\d∉BV X.stack:=λd w q=>⟨λz=>(by rw[(f d z).un]at q;cases q),λz=>(by rw[I.Dq d z]at q;cases q)⟩;refine(I.hok b u e).stay (λd v i q=>?_) (λ_ q=>q) λ_ _ q=>q;rcases i with z|z
  ·subst z;exact c.keep _ _ q (ne _ _ e).1 (ne _ _ e).2
  ·exact c.keep _ _ q (ne _ _ z).1 (ne _ _ z).2
def RX(X:Cx)(E:XK)(e:A0)(s:A2):Prop:=
 ∃a C dx σ H,e=.ref a/\AU X [] σ H s/\zm X H a/\(GW s.heap a C dx\/∃T,zm X H T/\(T8 s.heap a C dx (rawInt X.env.locals) T\/T8 s.heap a C dx .none T))/\E C dx H
def Rw(P:A3)(w:A4):Wy:=λouter H s E e s'=>
 ∃a C dx H' T,e=.ref a/\s'.os=s.os/\AllBare s'.gens/\Un (BV outer) [] H H' s.heap s'.heap/\uI P w H' s'.heap/\s.heap.objs.size<=a/\s.heap.objs.size<=T/\H' a=Y/\H' T=Y ∧
  T8 s'.heap a C dx .none T/\E C dx H'
theorem PQ{fs:Z A1}{h1 h2:A6}(u:Un fs [] H H' h h1)(c:Mx fs ch h1 h2)(g:∀b∈ch,h.get? b=Y):Un fs [] H H' h h2:=by
 have d:∀b o,h.get? b=U o->b∉ch:=λb o e z=>by rw[g b z]at e;cases e
 refine⟨λb o e n f x=>c.keep b o (u.keep b o e n f x) (d b o e) f,λb o e n f x=>?_,u.free,λb o e x=>?_,u.tups,u.wJ,u.yg⟩
 ·obtain⟨sl,q⟩:=u.slot b o e n f x;obtain⟨i,a⟩:=c.slot b _ q (d b o e);exact⟨i,a⟩
 ·obtain⟨o',q⟩:=u.there b o e x;obtain⟨sl,a⟩:=c.slot b _ q (d b o e);exact⟨_,a⟩
theorem V3{E:XK}{C:A0}(i:X.pn=[])(d:X.stack=X.env::X.outer)(f:X.env.frame=U X.env.locals)(I:AU X [] σ H s)(j:zm X H a)(hx:GW s.heap a C dx\/∃T,zm X H T/\(T8 s.heap a C dx (rawInt X.env.locals) T\/T8 s.heap a C dx .none T))(h:∀h' T,AU X [] σ H { s with heap:=h' }->zm X H T->T8 h' a C dx (rawInt X.env.locals) T->Q () { s with heap:=h' }):A7 (A8 X.prog X.w) X.A (noteFrame (.ref a) X.env) Q Ex s:=by
 rcases hx with x|⟨T,e,x|x⟩
 ·have fr:=I.stack;rw[d]at fr;refine Tm (base:=X.base) (d▸I.ok.frames) fr f x λh' T z c g=>?_;rw[<-d]at c;have e:zm X H T:=zm.new I z;exact h h' T (El (t':=s.toks) i I c (λb hb=>(List.mem_singleton.mp hb)▸j)) e g
 ·exact XH f x (h s.heap T I e x)
 ·have fr:=I.stack;rw[d]at fr;refine V2 (base:=X.base) (d▸I.ok.frames) fr f x λh' l z c g=>?_;rw[<-d]at c;exact h h' l (El (t':=s.toks) i I c (λb hb=>by
   rcases List.mem_cons.mp hb with rfl|hb
   ·exact e
   ·exact(List.mem_singleton.mp hb)▸j)) (zm.new I z) g
theorem XJ{E:XK}(d:X.pn=[])(j:X.stack=X.env::X.outer)(i:X.env.frame=U X.env.locals):PassesOwn (A8 X.prog X.w) X.A X.env (RX X E):=by
 intro e s' h;obtain⟨a,C,dx,σ,H,rfl,I,g,hx,m⟩:=h;refine V3 (E:=E) d j i I g hx λh' T n f x=>?_;show A7 _ _ _ _ _ _;obtain⟨vs,sl,q,ts,h1,h2,o,p,t,u⟩:=id x;refine zb (Jn h1 S h2 ?_);rw[zC (by simp)];rw[i];refine sO (s:={ s' with heap:=h' }) (U X.env.locals) x λv c l=>?_;exact⟨a,C,dx,σ,H,rfl,El (s:={ s' with heap:=h' }) (t':=s'.toks) d n (c.mono (λ_ z=>z) λ_ z=>nomatch z) (λb hb=>(List.mem_singleton.mp hb)▸f),g,.inr ⟨T,f,.inl l⟩,m⟩
theorem SG{E:XK}{e:A0}(g:X.pn=[])(i:X.stack=X.env::X.outer)(o:X.env.frame=U X.env.locals)(j:X.ex=[])(h:RX X E e s):
  A7 (A8 X.prog X.w) X.A (leaving X.env e) (λ_ m=>Rw X.prog X.w X.outer X.H₀ X.s₀ E e m) Ex s:=by
 obtain⟨a,C,dx,σ,H,rfl,I,f,hx,n⟩:=h;unfold leaving;refine zb (V3 (E:=E) g i o I f hx λh' T p d x=>?_);refine sO (s:={ s with heap:=h' }) Y x λq c l=>?_;have J:=El (s:={ s with heap:=h' }) (t':=s.toks) g p (c.mono (λ_ z=>z) λ_ z=>nomatch z) (λb hb=>(List.mem_singleton.mp hb)▸d);have u:=J.base;rw[j]at u;exact⟨a,C,dx,H,T,rfl,J.os,J.bare,u,J.hok,f.ab,d.ab,f.un,d.un,l,n⟩
end
def CY(K:B1)(C fI:A1)(bmB:Z A0)(newId:String):Bool:=match K.lookup C with
 |some ⟨.type "type", _,.cls cd,sl⟩=>(match cd.mro,sl.toList with
  |.ref C'::bm,[_,_,_,_,U (.builtin n),_]=>C'==C&&(n==newId&&(!cd.hasDel&&(PySem.W.tailIn K bmB bm&&(findIn K (.ref C) "__init__"==U (U (.ref fI))&&isFn K (.ref fI)))))
  |_,_=>false)
 |_=>false
def IY(h:A6)(C:A1)(bmB:Z A0)(newId:String):Prop:=∃nm q N bs a g j sub e i f b d l c m,h.get? C=U (excClassObj nm q C N bs a g j sub e i f b d l c m newId)/\OwnTail h bmB a
theorem Mz(X:K.In h)(q:CY K C fI bmB newId=true):IY h C bmB newId/\findIn K (.ref C) "__init__"=U (U (.ref fI))/\isFn K (.ref fI)=true:=by
 unfold CY at q;split at q
 ·rename_i z t sl u;split at q
  ·rename_i B m b f e c n a g hs;simp only[Zz,beq_iff_eq,Qr]at q;obtain⟨rfl,rfl,d,s,hi,w⟩:=q;obtain⟨nm,bs,D,y,v,i,p,sub,x,o,A⟩:=t;dsimp only at g d;subst g d;have j:sl=#[b,f,e,c,U (.builtin n),a]:=by
    obtain⟨l⟩:=sl;simp only at hs;rw[hs]
   subst j;exact⟨⟨nm,v,y,bs,m,i,p,sub,x,o,z,b,f,e,c,a,X _ _ u,PySem.W.tail_of_in X s⟩,hi,w⟩
  ·cases q
 ·cases q
section
variable{g:Array GenState}{d:Drawn}{t:Nat}{e:A1}{AS:Z A0}{B:String}
abbrev V4(C t:A1):AE:={ cls:=.ref C,data:=.fields #[.ref t,.none,.none,.none,.bool false,.none] }
theorem RY{Q:Fin->A2->Prop}(F:ExcBaseFacts B newId initId bmB)(X:K.In h)(hx:CY K C fI bmB newId=true)(c:AS.length<=AA)
  (u:∀h',(∀b o,h.get? b=U o->h'.get? b=U o)->h'.get? (h.objs.size+1)=U (V4 C h.objs.size) →
   A7 (A8 prog w) A (call (.ref fI) (.ref (h.objs.size+1)::AS)) (λr s'=>r=.none/\Q (.done (.ret (.ref (h.objs.size+1)))) s') E ⟨h',g,d,t,os⟩):
  A7 (A8 prog w) A (Builtin.«type.__call__» ⟨.ref C::AS,[]⟩) Q E ⟨h,g,d,t,os⟩:=by
 obtain⟨x,hi,s⟩:=Mz X hx;obtain⟨nm,q,N,bs,l,M,D,sub,P,y,W,H,L,J,I,G,a,T⟩:=x
 repeat (first|with_reducible refine KI a ?_|with_reducible refine wpAny_madeBy_exc a ?_|wp_step)
 refine codeAny_call_builtin_code (Code.quiet_builtin _ F.quiet) (wpAny_check_new_subT F T a ?_);refine codeAny_exc_new_subT F T a ?_ c;show A7 _ _ _ _ _ _;have kp:∀b o,h.get? b=U o->((h.push { cls:=.type "tuple",data:=.seq AS.toArray }).push (V4 C h.objs.size)).get? b=U o:=λb o z=>zd _ (zd _ z);have f:((h.push { cls:=.type "tuple",data:=.seq AS.toArray }).push (V4 C h.objs.size)).get? (h.objs.size+1)=U (V4 C h.objs.size):=by heap_get
 have p:(Value.ref C::l).contains (.ref C)=true:=by simp
 unfold isInstance
 repeat (first|with_reducible refine KI f ?_|(with_reducible refine wpAny_isSubtype_exc (kp _ _ a) ?_;rw[p])|wp_step)
 show A7 _ _ (typeLookup (.ref C) _) _ _ _;refine(looks_findIn (X.keeps kp) hi).at ?_;refine qA (zb ?_);unfold bindSpecial;obtain⟨e,m,j⟩:∃e,h.get? fI=U e/\e.cls=.type "function":=by
  have this:(K.lookup fI).map (·.cls)=U (.type "function"):=beq_iff_eq.mp s;obtain⟨o,n,v⟩:=Option.map_eq_some_iff.mp this;exact⟨o,X _ _ n,v⟩
 refine zb (QR (T :="function") ⟨_,kp _ _ m,j⟩ ?_);rw[zh (by decide)];refine ze (zb (ZZ (u _ kp f) (λr s' c=>?_) λ_ _ x=>x));obtain⟨rfl,i⟩:=c
 wp_walk
 exact i
end
abbrev Yx(C t:A1)(dx:O A1):AE:={ cls:=.ref C,dict:=dx,data:=.fields #[.ref t,.none,.none,.none,.bool false,.none] }
section
variable{g:Array GenState}{d:Drawn}{t:Nat}{e:A1}{AS:Z A0}{B:String}
theorem g4{Q:B9}(F:ExcBaseFacts B newId initId bmB)(X:K.In h)(hx:CY K C fI bmB newId=true)(c:AS.length<=AA)
  (e:∀h',(∀b o,h.get? b=U o->h'.get? b=U o)->h'.get? (h.objs.size+1)=U (Yx C h.objs.size Y) →
   A7 (A8 prog w) (A.under (.builtin "type.__call__" ⟨.ref C::AS,[]⟩)) (call (.ref fI) (.ref (h.objs.size+1)::AS)) (λr s'=>r=.none/\Q (.ref (h.objs.size+1)) s') E ⟨h',g,d,t,os⟩):
  A7 (A8 prog w) A (call (.ref C) AS) Q E ⟨h,g,d,t,os⟩:=by
 obtain⟨nm,q,N,bs,p,u,x,sub,n,v,s,i,m,y,j,z,a,T⟩:=(Mz X hx).1;have f1:=tc_lookup;have f2:=tc_bind (.ref C);have l:(⟨h,g,d,t,os⟩:A2).TypeIs (.ref C) "type":=⟨_,a,rfl⟩;refine Kt (codeAny_of_tree ?_);show A7 _ _ (callAny (.ref C) _) _ _ _
 repeat (any_goals (first|assumption|with_reducible refine KI a ?_|wp_step))
 refine⟨rfl,?_⟩;exact codeAny_call_builtin_at (Code.quiet_builtin _ (by decide +kernel)) entry_typeCall (wpAny_check_type_call_sub a (RY F X hx c λh' k f=>e h' k f))
theorem XA{x:Sem A0}{Q:Flow->A2->Prop}(i:bmB.contains (.type "BaseException")=true)(j:A.handled=Y)(l:A7 M A x (λv a=>∃e t dx,v=.ref e/\IY a.heap C bmB newId/\a.heap.get? e=U (Yx C t dx)/\E (.ref e) a) E s):A7 M A (raiseStmt env (U x) Y) Q E s:=by
 unfold raiseStmt;refine zb (ZZ l (λv a h1=>?_) λ_ _ z=>z);obtain⟨e,t,dx,rfl,⟨nm,q,N,bs,f,D,o,sub,F,n,G,u,B,y,w,p,b,T⟩,c,m⟩:=h1;obtain⟨hp,g,d,tk,os⟩:=a;dsimp only at b c;have h:(Value.ref C::f).contains (.type "BaseException")=true:=by rw[List.contains_cons,T.hasType i,Bool.or_true]
 repeat (first|with_reducible refine KI c ?_|with_reducible refine KI b ?_|(with_reducible refine wpAny_isSubtype_exc b ?_;rw[h])|wp_step)
 exact wpAny_raiseNew_none j m
theorem W1{Q:B9}{f:A1}(F:ExcBaseFacts B newId initId bmB)(x:IY h C bmB newId)(he:h.get? e=U (Yx C f dx))(i:AS.length<=AA)(a:∀h' t1,(∀b o,b≠e->h.get? b=U o->h'.get? b=U o)->h'.get? e=U (Yx C t1 dx)->h.objs.size<=t1->h'.objs.size=h.objs.size+1->Q .none ⟨h',g,d,t,os⟩):
  A7 (A8 prog w) A (call (.builtin initId) (.ref e::AS)) Q E ⟨h,g,d,t,os⟩:=by
 obtain⟨nm,q,N,bs,p,u,y,sub,n,v,s,j,m,D,l,G,c,T⟩:=x;refine Kt (ye F.init.plain F.initEntry (wpAny_check_init_subT F T c he S ?_))
 wp_walk
 refine a _ h.objs.size (λb o hb z=>?_) ?_ (zg _) ?_
 ·rw[QN _ _ (jI hb)];exact zd _ z
 ·rw[QE _ (zd _ he) rfl];rfl
 ·rw[Heap.size_after_update,qv]
end
abbrev EI:Z A0:=[.type "ValueError", .type "Exception", .type "BaseException", .type "object"]
theorem YV(a:A0):refuseLoop a "__setattr__" EI=pure ():=by kernel_rfl
def sS:Z A0->Bool
 |.ref _::r=>sS r
 |l=>l==EI
theorem G7(d:A0):∀{l:Z A0},sS l=true->refuseLoop d "__setattr__" l=pure ()/\l.contains (.type "object")=true/\l.isEmpty=false
 |.ref c::r,e=>by
  have e':sS r=true:=by unfold sS at e;exact e
  obtain⟨a,b,_⟩:=G7 d (l:=r) e';exact⟨by rw[refuseLoop_ref];exact a,by rw[List.contains_cons,b,Bool.or_true],rfl⟩
 |[],e=>by cases e
 |.none::r,e=>by cases e
 |.bool _::r,e=>by cases e
 |.int _ _::r,e=>by cases e
 |.str _ _::r,e=>by cases e
 |.bytes _ _::r,e=>by cases e
 |.float _ _::r,e=>by cases e
 |.builtin _::r,e=>by cases e
 |.type n::r,e=>by
  have e':(.type n::r)=EI:=by unfold sS at e;exact beq_iff_eq.mp e
  rw[e'];exact⟨YV d,by decide,rfl⟩
def Bi(K:B1)(C:A1)(name:AJ):Bool:=
 (clsIn K C).any (λa=>a.hasDict&&sS a.mro)&&(findIn K (.ref C) "__setattr__"==U (U (.builtin "object.__setattr__"))&&findIn K (.ref C) name==U Y)
section
variable{g:Array GenState}{d:Drawn}{t:Nat}{e:A1}
theorem iN{i:A1}{v:A0}(X:K.In h)(hs:Bi K C name=true)(he:h.get? e=U (Yx C i Y))(p:∀h' tk,(∀b o,b≠e->h.get? b=U o->h'.get? b=U o)->h'.get? e=U (Yx C i (U h.objs.size))->h'.Ns1 h.objs.size (λy=>if y=name then U v else Y)->Q () ⟨h',g,d,tk,os⟩):
  A7 (A8 prog w) A (setAttr (.ref e) name v) Q E ⟨h,g,d,t,os⟩:=by
 unfold Bi at hs;rw[Zz,Zz,beq_iff_eq,beq_iff_eq]at hs;obtain⟨h1,h2,u⟩:=hs;obtain⟨a,f,hb⟩:∃a,clsIn K C=U a/\(a.hasDict&&sS a.mro)=true:=by
  cases q:clsIn K C with
  |none=>rw[q]at h1;cases h1
  |some a=>rw[q]at h1;exact⟨a,rfl,h1⟩
 rw[Zz]at hb;obtain⟨B,hb⟩:=hb;obtain⟨p1,p2,p3⟩:=G7 (.ref e) hb;have I:InstAt h e (Yx C i Y) C Y:=⟨he,rfl,rfl,trivial⟩;refine PySem.W.set_plain (s:=⟨h,g,d,t,os⟩) X I h2 ?_;have c:=PySem.F.store_object;have sub:PySem.W.Looks (A8 prog w) h (isInstance (.ref e) (.type "object")) true:=I.type.andThen (looks_mroIn X (by unfold mroIn;rw[f,JI,zC (by rw[p3];decide),p2]));refine ye c.slot.plain c.entry (@check_slot (A8 prog w) _ _ ⟨h,g,d,t+1,os⟩ "object.__setattr__" "object" "__setattr__" (.ref e) [.str name t,v] [] _ c.kind c.split sub (c.args (.ref e) (.str name t) v) ?_);have L:PySem.W.Looks (A8 prog w) h (mroOf (.ref C)) a.mro:=(looks_clsIn X f).andThen .now;rw[PySem.W.osa_eq,refuse_eq];refine zb (zb (I.type.at (zb (L.at ?_))));rw[p1];refine ze (zb (I.type.at (zb ((looks_findIn X u).at (zb (ze ?_))))));refine zb (ze (zb ?_));show A7 _ _ (instanceDict e true) _ _ _;unfold instanceDict;refine zb (wpAny_loadPart he (zb ((looks_clsIn X f).at ?_)));rw[B];show A7 _ _ (alloc { cls:=.type "dict",data:=.dict #[] } >>= λdx=>update e (λo=>{ o with dict:=U dx }) >>= λ_=>dictMade (.ref C) e dx) _ _ _;have hp:∀b o,h.get? b=U o->(h.push { cls:=.type "dict",data:=.dict #[] }).get? b=U o:=λb o z=>zd _ z;have j:h.objs.size≠e:=jS (zt he);have H:((h.push { cls:=.type "dict",data:=.dict #[] }).update e (λo=>{ o with dict:=U h.objs.size })).get? h.objs.size=U { cls:=.type "dict",data:=.dict #[] }:=by
  rw[QN _ _ (jI j)];exact zv _ rfl
 refine zb (wpAny_alloc (zb (wpAny_update (hp _ _ he) (ze ?_))));show A7 _ _ (Builtin.ObjectAttr.storeInDict h.objs.size (.str name t) name v) _ _ _;unfold Builtin.ObjectAttr.storeInDict;refine zb (ze (zb ?_));have n:((h.push { cls:=.type "dict",data:=.dict #[] }).update e (λo=>{ o with dict:=U h.objs.size })).Ns1 h.objs.size (λ_=>Y):=
  .of_empty ⟨_,#[],0,H,rfl,λx z=>by simp at z,λ_=>S⟩
 refine wpAny_nsSet1 n λh' m l=>?_;obtain⟨o,es,ep,G,J,D⟩:=m.count (ns:=[name]) (Within.cons name v Within.nil);refine zb (wpAny_lookBehind G (by rw[J];exact pastItsLine_dict (ZH D (Nat.le_add_left _ _))) (ze ?_));refine p h' _ (λb o hb z=>?_) ?_ m
 ·rw[l.2 b (Zl (zt z)),QN _ _ (jI hb)];exact hp _ _ z
 ·rw[l.2 e (jI j),QE _ (hp _ _ he) rfl]
end
def uh(K:B1)(C:A1):Bool:=
 (clsIn K C).any (λa=>a.hasDict&&(!a.mro.isEmpty&&(a.mro.contains (.type "BaseException")&&a.mro.contains (.type "object"))))&&(findIn K (.ref C) "__getattribute__"==U (U (.builtin "BaseException.__getattribute__")) &&
  (findIn K (.ref C) "__getattr__"==U Y&&(findIn K (.ref C) "__class__"==U (U (.builtin "object.__class__")) &&
  (specialIn K (.builtin "object.__class__") "__get__"==U (U (.builtin "getset_descriptor.__get__"))&&takesIn K (.builtin "object.__class__")==U true))))
section
variable{g:Array GenState}{d:Drawn}{t:Nat}{e dx:A1}{v:A0}{vs:Array A0}{m:AJ->O A0}
theorem XM{es:Array DictEntry}(b:o.data=.dict es ep)(a:nsFind es name=U v):lookIn name o=U (U v):=by
 unfold lookIn;rw[b];dsimp only;unfold nsFind findBy at a;rw[<-Array.find?_toList]at a;obtain⟨c,h1,h2⟩:=Option.map_eq_some_iff.mp a;rw[h1];dsimp only;rw[h2]
structure FU (K:B1) (C:Addr) (cd:ClassData):Prop where
 cls:clsIn K C=some cd
 dct:cd.hasDict=true
 ne:cd.mro.isEmpty=false
 be:cd.mro.contains (.type "BaseException")=true
 ob:cd.mro.contains (.type "object")=true
 ga:findIn K (.ref C) "__getattribute__"=some (some (.builtin "BaseException.__getattribute__"))
 hk:findIn K (.ref C) "__getattr__"=some none
 cl:findIn K (.ref C) "__class__"=some (some (.builtin "object.__class__"))
 gt:specialIn K (.builtin "object.__class__") "__get__"=some (some (.builtin "getset_descriptor.__get__"))
 tk:takesIn K (.builtin "object.__class__")=some true
theorem Em(hs:uh K C=true):∃cd,FU K C cd:=by
 unfold uh at hs;simp only[Zz,beq_iff_eq]at hs;obtain⟨h1,h2,a,b,d,c⟩:=hs;cases q:clsIn K C with
 |none=>rw[q]at h1;cases h1
 |some cd=>
  rw[q]at h1;have h1:(cd.hasDict&&(!cd.mro.isEmpty&&(cd.mro.contains (.type "BaseException")&&cd.mro.contains (.type "object"))))=true:=h1;simp only[Zz,Qr]at h1;exact⟨cd,⟨q,h1.1,h1.2.1,h1.2.2.1,h1.2.2.2,h2,a,b,d,c⟩⟩
theorem FU.sub{cd:ClassData}(G:FU K C cd):mroIn K C (.type "object")=U true/\mroIn K C (.type "BaseException")=U true:=by
 unfold mroIn;rw[G.cls,JI,JI,zC (by rw[G.ne];decide),zC (by rw[G.ne];decide),G.ob,G.be];exact⟨rfl,rfl⟩
theorem Ic{cd:ClassData}{Q:B9}{i n:Bool}{dx:O A1}{od:O AE}{tk:Tok}{fo:Builtin.ObjectAttr.Found}(X:K.In h)(G:FU K C cd)(I:InstAt h e ⟨.ref C,dx,.fields vs,sl⟩ C od)
  (m:findObj K C od name=U fo)
  (c:A7 (A8 prog w) A.in1 (match fo with|.value v=>ret v|.bind g a=>Builtin.ObjectAttr.bindTo g a (.ref e) (.ref C)|.missing=>unsupported "") (λb s'=>match b with|.done (.ret v)=>A7 (A8 prog w) A (handedOut v) Q E s'|_=>False) (λ_ _=>False) ⟨h,g,d,t,os⟩)
  (q:fo≠.missing):A7 (A8 prog w) A (getAttrBy (.ref e) (.str name tk) n i) Q E ⟨h,g,d,t,os⟩:=by
 have j:=looks_findIn (M:=A8 prog w) X G.ga;have o:PySem.W.Looks (A8 prog w) h (hookBefore (.ref C)) Y:=PySem.W.looks_hook X (by rw[zh (by rfl)];exact G.hk);have sub:PySem.W.Looks (A8 prog w) h (isInstance (.ref e) (.type "BaseException")) true:=I.type.andThen (looks_mroIn X G.sub.2);unfold getAttrBy;refine qA (zb (I.type.at (zb (j.at ?_))));have l:(Value.builtin "BaseException.__getattribute__"==Value.builtin "object.__getattribute__")=false:=by decide +kernel
 dsimp only;rw[zC (by rw[l,ky];decide)];unfold getAttrByItsOwn;refine zb (o.at (zb (y0 (qA ?_))));unfold callGetattribute;rw[zC (by cases i<;>simp[onTheHeap])];unfold boundAndCalled;have f:=PySem.F.attrBase_ValueError.ga;rw[f.bind];refine zb (ze ?_);refine Kt (ye f.plain PySem.F.entry_bexc_ga (@check_slot (A8 prog w) _ _ ⟨h,g,d,t,os⟩ "BaseException.__getattribute__" "BaseException" "__getattribute__" (.ref e) [.str name tk] [] _ (by decide +kernel) (by decide +kernel) sub (PySem.F.args_bexc_ga (.ref e) (.str name tk)) ?_));have p:=PySem.W.looks_find (M:=A8 prog w) X I m;refine zb (ze (zb (ze (zb (I.type.at (zb (p.at ?_)))))));cases fo with
 |missing=>exact absurd S q
 |value v=>
  refine ZZ c (λb s' z=>?_) (λ_ _ z=>False.elim z);rcases b with (_|_|_|_)|_<;>first|exact z|exact z.elim
 |bind g a=>
  refine ZZ c (λb s' z=>?_) (λ_ _ z=>False.elim z);rcases b with (_|_|_|_)|_<;>first|exact z|exact z.elim
theorem VZ{Q:B9}{l:Bool}(X:K.In h)(hs:uh K C=true)(q:findIn K (.ref C) name=U Y)(he:h.get? e=U ⟨.ref C,U dx,.fields vs,sl⟩)(c:h.Ns1 dx m)(j:m name=U v)(o:handedIn v=true)
  (b:Q v ⟨h,g,d,t+1,os⟩):A7 (A8 prog w) A (getAttr (.ref e) name l) Q E ⟨h,g,d,t,os⟩:=by
 obtain⟨u,G⟩:=Em hs;obtain⟨a,es,ep,n,i,s,x,p⟩:=c;have I:InstAt h e ⟨.ref C,U dx,.fields vs,sl⟩ C (U a):=⟨he,rfl,rfl,n⟩;have f:findObj K C (U a) name=U (.value v):=by
  unfold findObj PySem.W.ownOf;rw[G.cls,q];simp only[JI,G.dct,qS,XM i ((p name).trans j)]
 unfold getAttr;refine zb (wpAny_mkText (Ic X G I f (ze ?_) (by intro z;cases z)));show A7 _ _ (handedOut v) _ _ _;rw[PySem.W.handedOut_of o];exact ze b
def MA(e C:A1)(h:A6):Prop:=∃dx vs sl a,InstAt h e ⟨.ref C,dx,.fields vs,sl⟩ C a
theorem dL(hs:uh K C=true):PySem.W.KitX K (.ref e) (.ref C) (MA e C) where
 ty:=λM h X ⟨dx,vs,sl,od,I⟩=>I.type
 it:=λM h X _=>by
  obtain⟨c,G⟩:=Em hs;have a:=G.cls;unfold clsIn at a;split at a
  ·rename_i j m l f b;intro u v x s' k q;unfold isType loadHead;exact zb (wpAny_loadPart (k _ _ (X _ _ b)) (ze q))
  ·cases a
 ne:=λh tp y AQ n sl X o=>by
  obtain⟨c,G⟩:=Em hs;have a:=G.cls;refine Bool.eq_false_iff.mpr λq=>?_;have e:C=tp:=Value.ref.inj (beq_iff_eq.mp q);subst e;unfold clsIn at a;split at a
  ·rename_i j m l f b;have z:=(X _ _ b).symm.trans o;cases z
  ·cases a
 ca:=λ{prog w A E Q s} X p k=>by
  obtain⟨c,G⟩:=Em hs;obtain⟨dx,vs,sl,od,I⟩:=p;obtain⟨h,g,d,t,os⟩:=s;have i:findObj K C od "__class__"=U (.bind (.builtin "getset_descriptor.__get__") (.builtin "object.__class__")):=by
   unfold findObj;rw[G.cls,JI,G.cl,JI];simp[G.gt,G.tk]
  unfold getAttr? getAttrBy?;refine zb (wpAny_mkText (zb (y0 (Ic X G I i ?_ (by intro z;cases z)))));refine zb (qA (Kt (PySem.W.class_get (s:=⟨h,g,d,t+1,os⟩) (od:=od) X I G.sub.1 (ze ?_))));exact PySem.W.handed_on S (ze k)
end
def J9(e C:A1)(dx:O A1):HO:=.ext λh=>∃t,h.get? e=U (Yx C t dx)
theorem T9{e t:A1}(q:h.get? e=U (Yx C t dx)):gn P w H h e (J9 e C dx):=⟨⟨t,q⟩,⟨_,q⟩,λ_ _ ⟨t,p⟩ k=>⟨t,k _ p⟩⟩
section
variable{o value:Expr}{tv:TE}{f:AJ}{pos' p:Pos}{B:String}{t:TA}
theorem Ua(I:AU X AN σ H s)(e:H a=U (J9 a C dx)):∃t,s.heap.get? a=U (Yx C t dx):=(I.hok a _ e).1
theorem AU.aec{h':A6}(I:AU X AN σ H s)(ea:H a=U (J9 a C dx))(k:∀b u,b≠a->s.heap.get? b=U u->h'.get? b=U u){t1:A1}(he:h'.get? a=U (Yx C t1 dx)):
  AU X AN σ H { s with heap:=h',toks:=tk }:=by
 have z:=I.write (t':=tk) (x:=a) (e:=a) (o:=J9 a C dx) (by rw[ea];trivial) (.inl S) k ⟨_,he⟩ (T9 he);have q:B0 H a (J9 a C dx)=H:=by
  funext b;by_cases hb:b=a
  ·subst hb;rw[aU,ea]
  ·rw[aP hb]
 rwa [q]at z
theorem AU.attr{h':A6}(I:AU X AN σ H s)(ea:H a=U (J9 a C Y))(t:As v u)(k:∀b o,b≠a->s.heap.get? b=U o->h'.get? b=U o){t1:A1}(he:h'.get? a=U (Yx C t1 (U s.heap.objs.size)))(A:h'.Ns1 s.heap.objs.size (λy=>if y=f then U u else Y)):
  AU X AN σ (B0 (B0 H s.heap.objs.size (.xd [(f,v)])) a (J9 a C (U s.heap.objs.size))) { s with heap:=h',toks:=tk }:=by
 have m:H s.heap.objs.size=Y:=I.hok.fresh (zg _);have x:a<s.heap.objs.size:=I.hok.lt ea;have B:s.heap.objs.size≠a:=jS x;have lt:∀b u,s.heap.get? b=U u->b≠s.heap.objs.size:=λb u q=>Zl (zt q);have d:∀b,b≠a->b≠s.heap.objs.size->B0 (B0 H s.heap.objs.size (.xd [(f,v)])) a (J9 a C (U s.heap.objs.size)) b=H b:=λb h1 h2=>by rw[aP h1,aP h2]
 have e:∀b w,H b=U w->(∀p,w≠.ext p)->b≠a:=λb w q h z=>by subst z;rw[ea]at q;cases q;exact h _ rfl
 have i:∀b w,H b=U w->b≠s.heap.objs.size:=λb w q z=>by rw[z,m]at q;cases q
 refine I.un (t':=tk) ⟨λb u q n _ _=>k b u (λz=>by subst z;rw[ea]at n;cases n) q,λb u q n _ _=>⟨u.slots,k b u (λz=>by subst z;rw[ea]at n;cases n) q⟩,
  λb u q n _=>?_,λb u q _=>?_,λb xs q=>?_,λb u xs q=>?_,λb ps q=>⟨#[],?_⟩⟩ (λb w q=>?_)
 ·rw[d b (λz=>by subst z;rw[ea]at n;cases n) (lt b u q)];exact n
 ·by_cases hb:b=a
  ·subst hb;exact⟨_,he⟩
  ·exact⟨u,k b u hb q⟩
 ·rw[d b (e b _ q λ_ z=>nomatch z) (i b _ q)];exact q
 ·rw[d b (e b _ q λ_ z=>nomatch z) (i b _ q)];exact q
 ·rw[d b (e b _ q λ_ z=>nomatch z) (i b _ q),q];simp
 ·by_cases hb:b=a
  ·subst hb;rw[aU]at q;cases q;exact T9 he
  ·rw[aP hb]at q;by_cases l:b=s.heap.objs.size
   ·subst l;rw[aU]at q;cases q;refine⟨_,A,λy=>?_⟩;by_cases j:y=f
    ·subst j;rw[zh rfl];simp only[List.lookup,beq_self_eq_true];exact t
    ·rw[zC j];have:(y==f)=false:=beq_eq_false_iff_ne.mpr j;simp only[List.lookup,this];trivial
   ·rw[aP l]at q;refine(I.hok b w q).stay (λc u g z=>k c u ?_ z) (λc z=>?_) λc xs z=>?_
    ·rcases g with g|g
     ·rw[g];exact hb
     ·exact e c _ g λ_ z=>nomatch z
    ·rw[d c (e c _ z λ_ z=>nomatch z) (i c _ z)];exact z
    ·rw[d c (e c _ z λ_ z=>nomatch z) (i c _ z)];exact z
def Ty(C:A1)(ta tv:TE)(f:AJ):TS:=λD σ H=>tv σ H λy H1=>ta σ H1 λx H2=>∃a,x=.ref a/\H2 a=U (J9 a C Y)/\∀dx,H2 dx=Y->dx≠a->D.nx σ (B0 (B0 H2 dx (.xd [(f,y)])) a (J9 a C (U dx)))
theorem fF(i:Bi X.K C f=true)(b:PE X o ta)(l:PE X value tv)(hs:swapsWith value (U (.Attribute o f pos')) pos.line X.env=pure false:=by rfl):PS X (.Assign [.Attribute o f pos'] value pos) (Ty C ta tv f):=by
 intro AN s σ H D I h;refine plainObj_wpAny_Assign_Attribute (gM (l AN s σ H _ I h) λu s1 ⟨y,H1,I1,ry,q⟩=>gM (b AN s1 σ H1 _ I1 q) λov s2 ⟨x,H2,I2,rx,a,ex,ea,q2⟩=>?_) hs;subst ex;obtain rfl:ov=Value.ref a:=rx;obtain⟨t,c⟩:=Ua I2 ea;have e:H2 s2.heap.objs.size=Y:=I2.hok.fresh (zg _);obtain⟨p,g,d,tk,os⟩:=s2;refine iN I2.Es i c λh' n k j m=>?_;exact⟨σ,_,AU.attr (tk:=n) I2 ea ry k j m,q2 _ e (jS (I2.hok.lt ea))⟩
def XY(C:A1)(t:TA):TE:=λσ H Q=>t σ H λvs H1=>∃a v,vs=[.ref a,v]/\H1 a=U (J9 a C Y)/\Q .non H1
def V5(K:B1)(FE:A1)(initId:String):Prop:=
 specialIn K (.ref FE) "__getattribute__"=U (U (.builtin "type.__getattribute__"))/\PySem.W.readsIn K FE (.type "type")=true/\PySem.W.findCls K (.ref FE) (.type "type") "__init__"=U (.val (.builtin initId))
theorem XO{pl:Sem Bool}{FE:A1}(F:ExcBaseFacts B newId initId bmB)(hx:CY X.K C fI bmB newId=true)(n:Gl X x)(u:X.mg x=U (.ref FE))(hb:V5 X.K FE initId)(c:handedIn (.builtin initId)=true)(i:PA X (e::es) t)(l:(x==("__debug__":AJ))=false:=by decide)(he:A9 (e::es) X.env=(false,eval e X.env)::A9 es X.env:=by rfl)(o:(AD pos (A9 es X.env)).any (·.1)=false:=by rfl)(j:eval (.Call (.Attribute (.Name x p) "__init__" apos) (e::es) [] pos) X.env=(do
   let ov <-eval (.Name x p) X.env
   standAt apos.atName
   let (f,first) <-holding [ov] (getMethod ov "__init__" pl)
   callWith pos f first (AD pos (A9 (e::es) X.env)) (backToKw pos (keywordEach [] X.env))):=by rfl):
  PE X (.Call (.Attribute (.Name x p) "__init__" apos) (e::es) [] pos) (XY C t):=by
 intro AN s σ H Q I h;refine PySem.W.methodCall_KW (pl:=pl) (vU I n u ?_ l) j;refine PySem.W.method_cls I.Es hb.1 (PySem.W.cls_value I.Es hb.2.1 hb.2.2 c ?_);refine PyProof.Rows.callWith_builtin1 (gM (i pos AN _ σ H _ (I.tok (s.toks+1)) h) λus s1 ⟨vs,H1,I1,b,a,v,ev,ea,q⟩=>?_) he o;subst ev;cases b with
 |cons m b=>
  cases b with
  |cons w b=>
   cases b;obtain rfl:=m;obtain⟨z,h0⟩:=Ua I1 ea;have x1:=(Mz I1.Es hx).1;obtain⟨y,g,d,tk,os⟩:=s1;refine W1 F x1 h0 (show 1<=AA by decide +kernel) λh' t1 k he _ _=>?_;exact⟨.non,H1,AU.aec (tk:=tk) I1 ea k he,rfl,q⟩
end
def pU(H:Hp)(a:A1):Hp:=λb=>if b=a then Y else H b
section
variable{f:AJ}{p:Pos}{B:String}
theorem AU.aed{d:A6->Prop}(I:AU X AN σ H s)(ea:H a=U (.ext d)):AU X [] σ (pU H a) s:=by
 have dn:∀b,H b=Y->pU H a b=Y:=λb q=>by unfold pU;split<;>first|rfl|exact q
 have ds:∀b u,H b=U u->(∀g,u≠.ext g)->pU H a b=U u:=λb u q n=>by
  unfold pU;rw[zC (λz=>by subst z;rw[ea]at q;cases q;exact n _ S)];exact q
 refine⟨I.ok,I.os,I.bare,⟨I.base.keep,I.base.slot,λb o e n x=>dn b (I.base.free b o e n x),I.base.there,λb xs q=>ds b _ (I.base.tups b xs q) (λ_ z=>nomatch z),λb o u q=>ds b _ (I.base.wJ b o u q) (λ_ z=>nomatch z),λb ps q=>?_⟩,
  I.loc,I.cell,dn _ I.free,λy c q=>dn _ (I.jy y c q),λp hp=>?_,λb u q=>?_,I.len⟩
 ·obtain⟨f,z⟩:=I.base.yg b ps q;exact⟨f,ds b _ z λ_ z=>nomatch z⟩
 ·obtain⟨z1,z2,z3⟩:=I.pin p (by rcases List.mem_append.mp hp with z|z;exact Zp _ z;cases z);exact⟨z1,dn _ z2,z3⟩
 ·have hb:H b=U u:=by
   unfold pU at q;split at q
   ·cases q
   ·exact q
  exact(I.hok b u hb).stay (λ_ _ _ z=>z) (λc z=>ds c _ z λ_ z=>nomatch z) λc xs z=>ds c _ z λ_ z=>nomatch z
def F0(C:A1)(f:AJ)(ok:V->Prop):Sp:=λvs H Q _=>∃a v,vs=[.ref a,v]/\ok v/\H a=U (J9 a C Y)/\∀H1 dx,AV H H1->H1 dx=Y->dx≠a->Q .non (B0 (B0 H1 dx (.xd [(f,v)])) a (J9 a C (U dx)))
def cE(C:A1)(f:AJ)(ok:V->Prop)(E:XK)(t:TA):TS:=λ_ σ H=>t σ H λvs H1=>∃v,vs=[v]/\ok v/\∀H2 dx,AV H1 H2->H2 dx=Y->E (.ref C) (U dx) (B0 H2 dx (.xd [(f,v)]))
theorem eA{k:Nat}{E:XK}{t:TA}{ok:V->Prop}(Fe:ExcBaseFacts B newId initId bmB)(hx:CY X.K C fI bmB newId=true)(a0:bmB.contains (.type "BaseException")=true)(hk:keepIn X.K (.ref C)=true)(F:ju X.prog X.w X.K X.mg X.base xu k fI fd ps (F0 C f ok))(hb:BA X.K fd ps [])(P:gW (k+1) X.A)(hg:Gl X x)(hm:X.mg x=U (.ref C))(Yy:∀e s,RX X E e s->X.xe e s)(ha:PA X (e::es) t)(a2:(x==("__debug__":AJ))=false:=by decide)(hs:A9 (e::es) X.env=(false,eval e X.env)::A9 es X.env:=by rfl)(a5:(AD cpos (A9 es X.env)).any (·.1)=false:=by rfl):
  PS X (.Raise (U (.Call (.Name x p) (e::es) [] cpos)) Y pos) (cE C f ok E t):=by
 intro AN s σ H D I h;rw[arm_exec_Raise];refine zb (Kb (XA (C:=C) (bmB:=bmB) (newId:=newId) a0 P.hd (zb (ZZ ?_ (λv s3 h3=>zb (Kb (ze h3))) λ_ _ x=>x))));refine kD (vU I hg hm ?_ a2);refine yB (h₀:=X.base) I.ok.mod.kin hk (gM (ha cpos AN s σ H _ I h) λus s1 ⟨vs,H1,I1,r,v,ev,hok,q⟩=>⟨I1.Es,?_⟩) hs a5;subst ev;have W:us.length=1:=r.length.symm;have hf:H1 (s1.heap.objs.size+1)=Y:=I1.hok.fresh (JO _);have m:zm X H1 (s1.heap.objs.size+1):=zm.new (I1.Dr (YF:=[]) λ_ z=>nomatch z) (JO _);obtain⟨a,g,d,tk,os⟩:=s1;refine g4 Fe I1.Es hx (by rw[kM,W];decide +kernel) λh' k' he=>?_;have L:AU X AN σ (B0 H1 (a.objs.size+1) (J9 (a.objs.size+1) C Y)) ⟨h',g,d,tk,os⟩:=I1.laid (t':=tk) k' (JO _) (T9 he);have r2:AX [V.ref (a.objs.size+1),v] (Value.ref (a.objs.size+1)::us):=.cons S r;have a1:ps.length=2:=(F.len [V.ref (a.objs.size+1),v] (B0 H1 (a.objs.size+1) (J9 (a.objs.size+1) C Y)) (λ_ _=>True) E0 ⟨_,_,rfl,hok,aU,λ_ _ _ _ _=>trivial⟩).symm;rw[kM];refine Kt (k6 (F.run _ X.stack _ _ ⟨Value.ref (a.objs.size+1)::us,[]⟩ (Value.ref (a.objs.size+1)::us) _ (λy Q=>y=.non/\∃c dx,AV (B0 H1 (a.objs.size+1) (J9 (a.objs.size+1) C Y)) c/\c dx=Y/\dx≠a.objs.size+1/\Q=B0 (B0 c dx (.xd [(f,v)])) (a.objs.size+1) (J9 (a.objs.size+1) C (U dx))) E0 (P.make C us [])
  (L.env0.make C us []) (by have:=hb ⟨h',g,d,tk,os⟩ (Value.ref (a.objs.size+1)::us) L.Es (by rw[ZY,qc,W,a1]);rwa [ZY]at this) r2
  ⟨_,_,rfl,hok,aU,λc dx M l i=>⟨rfl,c,dx,M,l,i,rfl⟩⟩) λr s' j=>?_)
 cases r with
 |error e=>exact False.elim j
 |ok fl=>
  cases fl with
  |next=>exact False.elim j
  |brk=>exact False.elim j
  |cont=>exact False.elim j
  |ret u=>
   obtain⟨y,Q,N,ry,ey,c,dx,M,l,i,G⟩:=L.after j;subst ey G;obtain rfl:u=Value.none:=ry;refine⟨rfl,a.objs.size+1,?_⟩;have ea:(B0 (B0 c dx (.xd [(f,v)])) (a.objs.size+1) (J9 (a.objs.size+1) C (U dx))) (a.objs.size+1)=U (J9 (a.objs.size+1) C (U dx)):=aU;obtain⟨t1,h1⟩:=Ua N ea;have G:pU (B0 (B0 c dx (.xd [(f,v)])) (a.objs.size+1) (J9 (a.objs.size+1) C (U dx))) (a.objs.size+1)=B0 (pU c (a.objs.size+1)) dx (.xd [(f,v)]):=by
    funext b;unfold pU;by_cases hb:b=a.objs.size+1
    ·rw[zh hb,hb,aP (jI i),zh rfl]
    ·rw[zC hb,aP hb];by_cases n:b=dx
     ·rw[n,aU,aU]
     ·rw[aP n,aP n,zC hb]
   have J:=AU.aed N ea;rw[G]at J;have sm:AV H1 (pU c (a.objs.size+1)):=λb o eb=>by
    have hb:b≠a.objs.size+1:=λz=>by rw[z,hf]at eb;cases eb
    unfold pU;rw[zC hb];exact M b o (by rw[aP hb];exact eb)
   have a3:pU c (a.objs.size+1) dx=Y:=by unfold pU;rw[zC i];exact l
   refine⟨t1,U dx,rfl,(Mz N.Es hx).1,h1,Yy _ _ ⟨a.objs.size+1,.ref C,U dx,σ,_,rfl,J,⟨by rw[aP (jI i)];unfold pU;rw[zh rfl],m.ab,m.nl,m.nc⟩,.inl ⟨_,_,h1,⟨rfl,rfl⟩⟩,q _ _ sm a3⟩⟩
end
theorem Qw{name x:AJ}(hx:x≠name):∀(l:Z DictEntry) (i:Nat),l.findIdx? (λe=>e.key.isStr name)=U i->(l.eraseIdx i).find? (λe=>e.key.isStr x)=l.find? (λe=>e.key.isStr x)
 |[],i,hi=>by simp at hi
 |e::l,i,hi=>by
  rw[List.findIdx?_cons]at hi;by_cases he:e.key.isStr name=true
  ·simp only[he,qS,Option.some.injEq]at hi;subst hi;have:e.key.isStr x=false:=by
    cases b:e.key.isStr x
    ·rfl
    ·exact absurd (Value.isStr_inj _ _ _ b he) hx
   rw[List.eraseIdx_zero,List.tail_cons,JA,this]
  ·have c:e.key.isStr name=false:=by simpa using he
   simp only[c,zr,ZO]at hi;cases a:l.findIdx? (λe=>e.key.isStr name)with
   |none=>simp[a]at hi
   |some j=>
    simp only[a,Option.map_some,Option.some.injEq]at hi;subst hi;rw[List.eraseIdx_cons_succ,JA,JA];cases e.key.isStr x with
    |false=>exact Qw hx l j a
    |true=>rfl
theorem eJ{m:AJ->O A0}{v:A0}{Q:Bool->A2->Prop}(C:s.heap.Ns a m)(y:m name=U v)(q:∀h' j,h'.Ns a j->(∀x,x≠name->j x=m x)->Heap.SameBut a s.heap h'->Q true { s with heap:=h' }):A7 M A (nsDel a name) Q E s:=by
 obtain⟨o,es,ep,b,f,c,p⟩:=id C;have F:es.any (·.refKey)=false:=by
  rw[Array.any_eq_false'];intro e z;obtain⟨n,t,h⟩:=c e z;simp[DictEntry.refKey,h]
 have g:es.any (·.key.isStr name)=true:=by
  have h1:=(p name).trans y;unfold nsFind findBy at h1;obtain⟨B,h2,_⟩:=Option.map_eq_some_iff.mp h1;rw[Array.any_eq_true'];exact⟨B,Array.mem_of_find?_eq_some h2,by have:=Array.find?_some h2;exact this⟩
 have u:nsHas name o=pure true:=by
  rw[nsHas_eq];unfold nsHasByArray;rw[f];show(if(es.any λx=>x.key.isStr name)=true then _ else _)=_;rw[zh g]
 unfold nsDel;refine zb (wpAny_loadPart b ?_);rw[u];refine zb (ze ?_);rw[zh rfl];refine zb (wpAny_updatePart b (ze ?_));obtain⟨cl,d,D,sl⟩:=o;subst f;cases hi:es.findIdx? (·.key.isStr name)with
 |none=>
  exfalso;obtain⟨i,w,hp⟩:=Array.any_eq_true.mp g;have:=Array.findIdx?_eq_none_iff.mp hi es[i] (Array.getElem_mem w);rw[this]at hp;cases hp
 |some i=>
  refine q _ (nsFind (es.eraseIdxIfInBounds i)) ⟨_,_,ep+1,QE _ b (by simp only[Obj.dropName_eq,Obj.dropNameByArray,hi]<;>rfl),(by simp only[Obj.dropName_eq,Obj.dropNameByArray,hi]<;>rfl),c.erase i,λ_=>S⟩ (λx hx=>?_) (Heap.SameBut.update ..);rw[<-p x];unfold nsFind findBy;rw[<-Array.find?_toList,<-Array.find?_toList,Array.toList_eraseIdxIfInBounds,Qw hx es.toList i (by rw[<-hi];obtain⟨l⟩:=es;simp)]
theorem Sj(I:AU X AN σ H s)(hN:X.N.Nodup)(hi:X.N[i]?=U x)(hx:X.env.scope.names.lookup x=U .local)(hv:σ[i]?=U (U v))(h:∀s',AU X AN (σ.set i Y) H s'->Q () s'):A7 M A (deleteName X.env x) Q E s:=by
 obtain⟨m,hn,L⟩:=id I.loc;obtain⟨u,ru,lk⟩:=L i x v hi hv (.inl hx);have P:X.env.kindOf x=U .local:=hx;have hm:m x=U u:=by
  rcases lk with⟨_,q⟩|⟨q,_⟩
  ·exact q
  ·rw[P]at q;rcases q with q|q<;>cases q
 have go:∀h' d,h'.Ns X.env.locals d->(∀y,y≠x->d y=m y)->Heap.SameBut X.env.locals s.heap h'->Q () { s with heap:=h' }:=λh' d t F a=>by
  refine h _ ?_;have D:∀b o,X.s₀.heap.get? b=U o->b≠X.env.locals:=λb o e=>Zl (ZU (zt e) I.ok.above);have J:∀b w,H b=U w->b≠X.env.locals:=λb w q z=>by rw[z,I.free]at q;cases q
  refine⟨I.ok,I.os,I.bare,⟨λb o e n f y=>(a.2 b (D b o e)).trans (I.base.keep b o e n f y),λb o e n f y=>?_,I.base.free,λb o e y=>?_,I.base.tups,I.base.wJ,I.base.yg⟩,
   ⟨d,t,λj y B h1 h2 h3=>?_⟩,λy c e=>?_,I.free,I.jy,λp hp=>?_,λb w q=>?_,by rw[km];exact I.len⟩
  ·obtain⟨sl,q⟩:=I.base.slot b o e n f y;exact⟨sl,(a.2 b (D b o e)).trans q⟩
  ·obtain⟨o',q⟩:=I.base.there b o e y;exact⟨o',(a.2 b (D b o e)).trans q⟩
  ·have W:j≠i:=λz=>by
    subst z;rw[KO]at h2;split at h2
    ·split at h2<;>cases h2
    ·rename_i z;exact z rfl
   rw[List.getElem?_set_ne (jI W)]at h2;obtain⟨u',r',a0⟩:=L j y B h1 h2 h3;refine⟨u',r',?_⟩;rcases a0 with⟨C,l⟩|⟨C,c,l,G⟩
   ·exact .inl ⟨C,by rw[F y (λz=>W (Eu hN (z▸h1) hi))];exact l⟩
   ·refine .inr ⟨C,c,l,?_⟩;have:=I.cne y c l;unfold Heap.IsCell at G ⊢;rw[a.2 c this];exact G
  ·obtain⟨B,q⟩:=I.cell y c e;refine⟨B,?_⟩;unfold Heap.IsCell at q ⊢;rw[a.2 c (I.cne y c e)];exact q
  ·obtain⟨q1,q2,K,q4⟩:=I.pin p hp;exact⟨(a.2 _ K).trans q1,q2,K,q4⟩
  ·refine(I.hok b w q).stay (λc u g z=>(a.2 c ?_).trans z) (λ_ z=>z) λ_ _ z=>z;rcases g with g|g
   ·rw[g];exact J b w q
   ·exact J c _ g
 unfold deleteName;rw[P];dsimp only;rw[I.ok.kind,zC (by rw[show(ScopeKind.function==ScopeKind.class)=false from rfl,show(ScopeKind.function==ScopeKind.module)=false from rfl];simp)];refine zb (eJ hn hm λh' d t F a=>?_);exact ze (go h' d t F a)
section
variable{E:XK}
theorem RX.lq{Ex:B9}{e:A0}(h:RX (X.wish Ex) E e s):RX X E e s:=by
 obtain⟨a,C,dx,σ,H,r,I,m,x,q⟩:=h;refine⟨a,C,dx,σ,H,r,I.lq,⟨m.un,m.ab,m.nl,m.nc⟩,?_,q⟩;rcases x with x|⟨T,b,x⟩
 ·exact .inl x
 ·exact .inr ⟨T,⟨b.un,b.ab,b.nl,b.nc⟩,x⟩
theorem Cy.mono{st:Z AB}{t:TS}{a:B9}(h:Cy (X.wish a) st t)(k:∀e s,a e s->X.xe e s):Cy X st t:=λAN s σ H D I b=>
 ZZ (h AN s σ H D (I.wish _) b) (λ_ _ q=>q.lq) k
end
theorem Bj.okX{f:A1}{k:Nat}(F:Bj K x qual st f fd)(S:bB N ps (aG st))(len:∀vs H Q E,sp vs H Q E->vs.length=ps.length)(d:∀(a:A0) (A:A5) (outer:Z Env) (s:A2) (H:Hp) (vs:Z V) (Q:VK) (E:XK),gW k (A.deeper (AK qual (aG st) s.heap.objs.size f a))->sp vs H Q E →
   ∃t,Cy ((rK (Rw P w) P w K mg base N qual (aG st) f a A outer s H E).wish (RX (rK (Rw P w) P w K mg base N qual (aG st) f a A outer s H E) E)) (d8 st) t/\t { nx:=λ_ H'=>Q .non H',rt:=Q } (start N vs) H):ju P w K mg base (Rw P w) (k+1) f fd ps sp:=by
 obtain⟨j,l,kV,m,n,o,a,ct,osl,rfl,g,c⟩:=F.ex;refine Ix g c S len λA outer s H vs Q E b i=>?_;obtain⟨t,h,q⟩:=d a A outer s H vs Q E b i;exact⟨t,Cy.mono h λe s' hx=>SG rfl rfl rfl rfl hx,q⟩
def Yz(a C:A1)(dx:O A1):HO:=.ext λh=>∃vs sl,h.get? a=U ⟨.ref C,dx,.fields vs,sl⟩/\vs[2]?=U .none
theorem VM{vs:Array A0}(q:h.get? a=U ⟨.ref C,dx,.fields vs,sl⟩)(q2:vs[2]?=U .none):gn P w H h a (Yz a C dx):=
 ⟨⟨vs,sl,q,q2⟩,⟨_,q⟩,λ_ _ ⟨vs,sl,p,p2⟩ k=>⟨vs,sl,k _ p,p2⟩⟩
theorem WZ{h':A6}{S ch:Z A1}(ok:uI P w H h)(c:Mx S ch h h')(a:∀b∈ch,H b=Y)(g:∀b∈S,H b=Y):uI P w H h':=λb u e=>by
 have ne:∀(d:A1) (w:HO),H d=U w->d∉ch/\d∉S:=λd w q=>⟨λz=>(by rw[a d z]at q;cases q),λz=>(by rw[g d z]at q;cases q)⟩;refine(ok b u e).stay (λd v f q=>?_) (λ_ q=>q) λ_ _ q=>q;rcases f with z|z
 ·subst z;exact c.keep _ _ q (ne _ _ e).1 (ne _ _ e).2
 ·exact c.keep _ _ q (ne _ _ z).1 (ne _ _ z).2
theorem UR{o:HO}(ok:uI P w H h)(d:H a=Y)(new:gn P w (B0 H a o) h a o):uI P w (B0 H a o) h:=λb u e=>by
 by_cases hb:b=a
 ·subst hb;rw[aU]at e;cases e;exact new
 ·rw[aP hb]at e;exact(ok b u e).stay (λ_ _ _ q=>q) (λc q=>by rw[aP (bH q d)];exact q) λc xs q=>by rw[aP (bH q d)];exact q
theorem d6{fs:Z A1}{H':Hp}{h':A6}{o:HO}(u:Un fs [] H H' h h')(d:H' a=Y)(f:h.get? a=Y):Un fs [] H (B0 H' a o) h h':=
 ⟨u.keep,u.slot,λb c e n x=>by rw[aP (λz=>by rw[z,f]at e;cases e)];exact u.free b c e n x,u.there,λb xs q=>by rw[aP (bH (u.tups b xs q) d)];exact u.tups b xs q,
  λb c xs q=>by rw[aP (bH (u.wJ b c xs q) d)];exact u.wJ b c xs q,λb ps q=>by
   obtain⟨m,z⟩:=u.yg b ps q;exact⟨m,by rw[aP (bH z d)];exact z⟩⟩
abbrev Cx.inX(X:Cx)(a:A1):Cx:={ X with A:=X.A.mark (U (.ref a)),calm:=false,xe:=λ_ _=>False }
theorem AU.inX(I:AU X AN σ H s):AU (Cx.inX X a) AN σ H s:=
 ⟨⟨I.ok.mod,I.ok.kind,I.ok.glob,I.ok.blt,I.ok.above,I.ok.inj,I.ok.has,I.ok.cab,λz=>(by cases z),I.ok.frames,I.ok.stk,I.ok.exf,I.ok.bs,I.ok.Ys,I.ok.Rx,I.ok.Wr,I.ok.uJ,I.ok.frf⟩,I.os,I.bare,I.base,I.loc,I.cell,I.free,I.jy,I.pin,I.hok,I.len⟩
theorem AU.alG(ok:X.Ok)(I:AU (Cx.inX X a) AN σ H s):AU X AN σ H s:=⟨ok,I.os,I.bare,I.base,I.loc,I.cell,I.free,I.jy,I.pin,I.hok,I.len⟩
def XT(X:Cx)(C:A1)(iv:Nat)(ts:A1->TS)(D:Be)(σ:L2.St):XK:=λb dx H2=>b=.ref C/\∃d:O A1,dx=d/\∀a,H2 a=Y →
 ts a { nx:=λσ' H'=>D.nx (σ'.set iv Y) H',rt:=D.rt } (σ.set iv (U (.ref a))) (B0 H2 a (Yz a C d))
theorem Ub{Cn:A1}{iv:Nat}{n cn:AJ}{np hp:Pos}{b0:AB}{ts:A1->TS}{D:Be}{H1:Hp}{f s':A2}{e:A0}(x:X.stack=X.env::X.outer)(hf:X.env.frame=U X.env.locals)(E:X.N.Nodup)(hi:X.N[iv]?=U n)(j:X.env.scope.names.lookup n=U .local)(hg:Gl X cn)(hm:X.mg cn=U (.ref Cn))(hx:exmOne X.K (.ref C) (.ref Cn)=U true)(hs:∀a,Cy (Cx.inX X a) (b0::suite) (ts a))(F:AU X AN σ H1 f)(hq:Rw X.prog X.w X.stack H1 f (XT X C iv ts D σ) e s')(c0:(cn==("__debug__":AJ))=false:=by decide):
  A7 (A8 X.prog X.w) X.A (noteFrame e X.env) (λ_ s2=>A7 (A8 X.prog X.w) X.A (setFlight e Y) (λ_ s3=>A7 (A8 X.prog X.w) X.A (handleBy e X.env [.ExceptHandler (U (.Name cn np)) (U n) (b0::suite) hp]) (SP X AN D) X.xe s3) X.xe s2) X.xe s':=by
 obtain⟨a,Cv,d,H2,T,rfl,os,Q,un,B,ha,hT,t,nT,ex,rfl,_,rfl,hE⟩:=hq;have J0:AU X AN σ H2 s':=F.call' (ch:=[]) os un B Q λ_ z=>nomatch z;have fr:=J0.stack;rw[x]at fr;have old:∀b,s'.heap.objs.size<=b->f.heap.get? b=Y:=λb z=>by
  cases q:f.heap.get? b with
  |none=>rfl
  |some o=>
   obtain⟨o',q'⟩:=un.there b o q (λz=>nomatch z);exact absurd (zt q') (Nat.not_lt.mpr z)
 have P:f.heap.get? a=Y:=Heap.get?_none_of_le ha;have mk:∀(h:A6) (ch:Z A1) (tk:Nat),Mx (BV X.stack) ch s'.heap h->(∀b∈ch,f.heap.get? b=Y/\H2 b=Y)->(∃vs sl,h.get? a=U ⟨.ref C,d,.fields vs,sl⟩/\vs[2]?=U .none)->AU X AN σ (B0 H2 a (Yz a C d)) { s' with heap:=h,toks:=tk }:=λh ch tk c hc y=>by
  obtain⟨vs,sl,y,a3⟩:=y;refine F.call' (ch:=[]) (s':={ s' with heap:=h,toks:=tk }) os (d6 (PQ un c λb z=>(hc b z).1) t P) ?_ Q λ_ z=>nomatch z;exact UR (WZ B c (λb z=>(hc b z).2) J0.Dq) t (VM y a3)
 refine V2 (base:=X.base) (x▸F.ok.frames) fr hf ex λh4 p z c4 x4=>?_;rw[<-x]at c4;refine sO (s:={ s' with heap:=h4 }) Y x4 λm c5 L=>?_;have c8:H2 p=Y:=B.fresh z;have a1:=c4.trans (c5.mono (S':=BV X.stack) (c2:=[p]) (λ_ z=>z) λ_ z=>nomatch z);have G:∀b∈[T,a]++[p],f.heap.get? b=Y/\H2 b=Y:=λb hb=>by
  simp only[yi,Q2,js,or_false]at hb;rcases hb with (rfl|rfl)|rfl
  ·exact⟨Heap.get?_none_of_le hT,nT⟩
  ·exact⟨P,t⟩
  ·exact⟨old _ z,c8⟩
 have H:∃vs sl,m.get? a=U ⟨.ref C,d,.fields vs,sl⟩/\vs[2]?=U .none:=by
  obtain⟨vs,sl,_,_,q,_,_,_,_,_,q2⟩:=L;exact⟨vs,sl,q,q2⟩
 have I:=mk m _ s'.toks a1 G H;have LT:PySem.W.Looks (A8 X.prog X.w) m (typeOf (.ref a)) (.ref C):=by
  obtain⟨vs,sl,q,_⟩:=H;exact(PySem.W.Looks.ld q).andThen .now
 refine wpAny_handleBy_cons (codeAny_handlers_test (vU (X:=Cx.inX X a) (AU.inX I) hg hm ?_ c0)) (by intro q;cases q);refine(PySem.W.exm_one I.Es LT hx).at ?_;show AF _ _ _ _ _;refine codeAny_handlers_suite_as ?_;refine sO (s:={ s' with heap:=m }) Y L λh6 c6 x6=>?_;have I6:=mk h6 _ s'.toks (a1.trans (c6.mono (S':=BV X.stack) (c2:=[p]) (λ_ z=>z) λ_ z=>nomatch z)) (λb hb=>by
  rcases List.mem_append.mp hb with hb|hb
  ·exact G b hb
  ·exact G b (ZA _ hb)) (by obtain⟨vs,sl,_,_,q,_,_,_,_,_,q2⟩:=x6;exact⟨vs,sl,q,q2⟩)
 refine qN (X:=X) (v:=.ref a) I6 E hi (.inl j) S (λs7 I7=>?_) (.inr j);refine ZZ (hs a AN s7 _ _ _ (AU.inX I7) (hE a t)) (λfl s8 l=>?_) λ_ _ z=>False.elim z;show A7 _ _ _ _ _ _;have a0:∀{σ':L2.St} {H':Hp},AU (Cx.inX X a) AN σ' H' s8->(∀i,AU X AN (σ'.set iv Y) H' i->SP X AN D fl i) →
   A7 (A8 X.prog X.w) X.A (do bindName X.env n .none;unbindBehindTheSuite X.env n hp) (λ_ s5=>SP X AN D fl s5) X.xe s8:=λ{σ' H'} J k=>by
  have M:=AU.alG I7.ok J;have a2:iv<σ'.length:=by rw[M.len];exact(List.getElem?_eq_some_iff.mp hi).1
  refine zb (wpAny_bindName (qN (v:=.non) M E hi (.inl j) S (λi g=>?_) (.inr j)));unfold unbindBehindTheSuite unbindName;refine wpAny_onRaise (zb (wpAny_point (zb (Sj (v:=.non) g E hi j (by rw[List.getElem?_set_self a2]) λa5 b3=>wpAny_point (k a5 ?_)))));rwa [List.set_set]at b3
 cases fl with
 |next=>
  obtain⟨σ',H',J,q⟩:=l;exact a0 J λi g=>⟨_,H',g,q⟩
 |ret u=>
  obtain⟨v,σ',H',J,rv,q⟩:=l;exact a0 J λi g=>⟨v,_,H',g,rv,q⟩
 |brk=>
  obtain⟨_,_,_,q⟩:=l;exact False.elim q
 |cont=>
  obtain⟨_,_,_,q⟩:=l;exact False.elim q
section
variable{Cn f:A1}{iv iy k:Nat}{n cn:AJ}{np hp p py pa:Pos}{b0:AB}{ts:A1->TS}{tf:TE}{t:TA}
end
section
variable{d:A1}{fs:Z (AJ×V)}{f:AJ}{o:Expr}
theorem hX(I:AU X AN σ H s)(ea:H a=U (Yz a C d))(b:H d=U (.xd fs)):∃vs sl m,s.heap.get? a=U ⟨.ref C,U d,.fields vs,sl⟩/\s.heap.Ns1 d m/\∀f,Cw (fs.lookup f) (m f):=by
 obtain⟨vs,sl,q,_⟩:=(I.hok a _ ea).1;obtain⟨m,c,r⟩:=I.hok d _ b;exact⟨vs,sl,m,q,c,r⟩
def MH(K:B1)(H:Hp)(C:A1)(c:V)(b:Bool):Prop:=
 (∃D,c=.ref D/\kitOne K (.ref C) (.ref D)=U b)\/(∃T,c=.ty T/\kitOne K (.ref C) (.type T)=U b) ∨
  ∃(tp:A1) (cs:Z A1),c=.ref tp/\H tp=U (.tup (cs.map V.ref))/\PySem.W.kitAny K (.ref C) (cs.map Value.ref)=U b
theorem Ka:∀{cs:Z A1} {us:Z A0},AX (cs.map V.ref) us->us=cs.map Value.ref
 |[],_,h=>by cases h;rfl
 |c::cs,_,h=>by
  cases h with
  |cons r t=>rw[Ka t];obtain rfl:=r;rfl
def Pm(H:Hp)(a C:A1):Prop:=∃d:O A1,H a=U (Yz a C d)/\∀x,d=U x->∃fs,H x=U (.xd fs)
theorem RA(w:∀C,C∈Cs->uh X.K C=true):fK X (.builtin "isinstance") (λvs H Q=>∃a C c b,C∈Cs/\vs=[.ref a,c]/\Pm H a C/\MH X.K H C c b/\Q (.bl b) H):=by
 intro AN s σ H vs us Q I r h;obtain⟨a,C,c,b,A,rfl,⟨d,ea,v⟩,hb,q⟩:=h;cases r with
 |cons t r=>
  cases r with
  |cons f r=>
   cases r;obtain rfl:=t;have Z:=dL (e:=a) (w C A);have p:MA a C s.heap:=by
    obtain⟨vs,sl,h1,_⟩:=(I.hok a _ ea).1;cases d with
    |none=>exact⟨Y,vs,sl,Y,h1,rfl,rfl,trivial⟩
    |some x=>
     obtain⟨fs,ex⟩:=v x rfl;obtain⟨m,⟨u,_,_,h2,_⟩,_⟩:=I.hok x _ ex;exact⟨U x,vs,sl,U u,h1,rfl,rfl,h2⟩
   rcases hb with⟨D,rfl,hb⟩|⟨T,rfl,hb⟩|⟨tp,cs,rfl,n,hb⟩
   ·obtain rfl:=f;exact kia_one Z I.Es p hb (λz=>nomatch z) λtk=>⟨.bl b,H,I.tok tk,rfl,q⟩
   ·obtain rfl:=f;exact kia_one Z I.Es p hb (λz=>nomatch z) λtk=>⟨.bl b,H,I.tok tk,rfl,q⟩
   ·obtain rfl:=f;obtain⟨_,AQ,y,o,i,j,⟨E,g⟩,l⟩:=I.hok tp _ n;obtain⟨F,B,G,osl⟩:=o;dsimp only at j g l;subst j g l;rw[Ka y]at i;exact PySem.W.kia_tup Z I.Es p i hb (λz=>nomatch z) λtk=>⟨.bl b,H,I.tok tk,rfl,q⟩
theorem j5(f:∀C,C∈Cs->uh X.K C=true):fK X (.builtin "isinstance") (λvs H Q=>∃(a C d:A1) (fs:Z (AJ×V)) (c:V) (b:Bool),C∈Cs/\vs=[.ref a,c]/\H a=U (Yz a C d)/\H d=U (.xd fs)/\MH X.K H C c b/\Q (.bl b) H):=λAN s σ H vs us Q I r ⟨a,C,d,fs,c,b,hm,e,ea,ed,hb,q⟩=>
 RA f AN s σ H vs us Q I r ⟨a,C,c,b,hm,e,⟨d,ea,λx z=>by cases z;exact⟨fs,ed⟩⟩,hb,q⟩
def YU(Cs:Z A1)(ta:TE)(f:AJ):TE:=λσ H Q=>ta σ H λx H1=>∃(a C d:A1) (v:V),C∈Cs/\x=.ref a/\H1 a=U (Yz a C d)/\H1 d=U (.xd [(f,v)])/\Q v H1
theorem Uc(r:As v u):handedIn u=true:=by
 cases v with
 |non=>obtain rfl:=r;rfl
 |bl b=>obtain rfl:=r;rfl
 |int i=>obtain⟨t,rfl⟩:=r;rfl
 |str x=>obtain⟨t,rfl⟩:=r;rfl
 |byt b=>obtain⟨t,rfl⟩:=r;rfl
 |flt b=>obtain⟨t,rfl⟩:=r;rfl
 |ref a=>obtain rfl:=r;rfl
 |ty n=>obtain rfl:=r;rfl
theorem OC(c:∀C,C∈Cs->uh X.K C=true/\findIn X.K (.ref C) f=U Y)(e:PE X o ta)(hb:attributeBase o f X.env (eval o X.env)=eval o X.env):PE X (.Attribute o f pos) (YU Cs ta f):=by
 intro AN s σ H Q I h;refine O' hb (gM (e AN s σ H _ I h) λu s1 ⟨x,H1,I1,rx,a,C,d,v,hm,ex,ea,ed,q⟩=>?_);subst ex;obtain rfl:u=Value.ref a:=rx;obtain⟨vs,sl,m,h1,h2,i⟩:=hX I1 ea ed;have r:=i f;simp only[List.lookup,beq_self_eq_true]at r;cases b:m f with
 |none=>rw[b]at r;exact False.elim r
 |some u=>
  rw[b]at r;obtain⟨j,g,l,tk,os⟩:=s1;exact VZ I1.Es (c C hm).1 (c C hm).2 h1 h2 b (Uc r) ⟨v,H1,I1.tok _,r,q⟩
end
def XW(K:B1)(C:A1)(f:AJ)(E:XK)(H0:Hp)(d:Dt):Prop:=∀dx H',AV H0 H'->(if f ="" then dx=Y else ∃x v,dx=U x/\H' x=U (.xd [(f,v)])/\AW K H' d v)->E (.ref C) dx H'
theorem XW.rebase{f:AJ}{E:XK}(s:AV H0 Hs)(h:XW K C f E H0 d):XW K C f E Hs d:=λdx H' s' e=>h dx H' (s.trans s') e
def tX(K:B1)(C:A1)(f:AJ)(E:XK)(gx:Ev->O Dt):TS:=λ_ σ H=>∃H0 ρ d,bM K H0 H σ ρ/\gx ρ=U d/\XW K C f E H0 d
structure FV (X:Cx) (C:Addr) (f:Str) (E:XK) (st:Stmt) (gx:Ev->Option Dt):Prop where
 run:PS X st (tX X.K C f E gx)
structure XQ (X:Cx) (C:Addr) (f:Str) (E:XK) (st:List Stmt) (gx:Ev->Option Dt):Prop where
 run:Cy X st (tX X.K C f E gx)
def zD:Bx->O Dt
 |.z d=>U d
 |_=>Y
section
variable{f:AJ}{E:XK}{gy:Ev->O Dt}{p:Pos}{AS a b:Z AB}{B:String}{pc:Ev->O Bool}
def IZ(okX:Dt->Bool)(fe:Ev->O Bx):Ev->O Dt:=λρ=>(fe ρ).bind λb=>(zD b).bind λd=>if okX d=true then U d else Y
theorem abm{okX:Dt->Bool}{k:Nat}{ok:V->Prop}(y:ExcBaseFacts B newId initId bmB)(hx:CY X.K C fI bmB newId=true)(I:bmB.contains (.type "BaseException")=true)(W:keepIn X.K (.ref C)=true)(F:ju X.prog X.w X.K X.mg X.base xu k fI fd ps (F0 C f ok))(hb:BA X.K fd ps [])(q:gW (k+1) X.A)(u:Gl X x)(hm:X.mg x=U (.ref C))(G:∀e s,RX X E e s->X.xe e s)(he:QV X e fe)(P:∀d v K H,okX d=true->AW K H d v->ok v)(N:f ≠ "":=by decide)(L:(x==("__debug__":AJ))=false:=by decide)(hs:A9 [e] X.env=(false,eval e X.env)::A9 [] X.env:=by rfl)(a0:(AD cpos (A9 [] X.env)).any (·.1)=false:=by rfl):
  FV X C f E (.Raise (U (.Call (.Name x p) [e] [] cpos)) Y pos) (IZ okX fe):=⟨Oi (eA y hx I W F hb q u hm G (bw he.run d7 hs) L hs a0) λD σ H h=>by
 obtain⟨H0,ρ,d,Ev,a,w⟩:=h;obtain⟨b,eb,a⟩:=AT a;obtain⟨J,c,a⟩:=AT a;split at a
 ·rename_i M;cases a;cases b with
  |z J=>
   cases c;refine⟨H0,ρ,_,Ev,eb,λv H1 Q _ j=>⟨v,rfl,P _ _ _ _ M j,λH2 dx i t=>?_⟩⟩;have g:AV H2 (B0 H2 dx (.xd [(f,v)])):=bI t;exact w (U dx) _ ((Ev.base.trans Q).trans (i.trans g)) (by rw[zC N];exact⟨dx,v,rfl,aU,AW.kp (Kp.of (i.trans g)) j⟩)
  |l _=>cases c
  |o _=>cases c
  |n _=>cases c
  |m _ _=>cases c
 ·cases a⟩
theorem zp(h:FV X C f E st gx):XQ X C f E (st::AS) gx:=⟨λAN s σ H D I a=>K2 (ZZ (h.run AN s σ H { nx:=λ_ _=>False,rt:=D.rt,bk:=D.bk,ct:=D.ct } I a) (λfl b q=>by
 cases fl with
 |next=>obtain⟨_,_,_,z⟩:=q;exact False.elim z
 |ret v=>exact q
 |brk=>exact q
 |cont=>exact q) λ_ _ z=>z)⟩
def V6(g:Ev->O An)(gx:Ev->O Dt):Ev->O Dt:=λρ=>(g ρ).bind λr=>match r with
 |.nx a=>gx a
 |_=>Y
theorem dm(h:K4 X st g)(hx:XQ X C f E AS gx):XQ X C f E (st::AS) (V6 g gx):=⟨λAN s σ H D I e=>by
 obtain⟨H0,ρ,d,Ev,a,w⟩:=e;obtain⟨r,er,a⟩:=AT a;cases r with
 |nx b=>
  refine K2 (ZZ (h.run AN s σ H { nx:=λσ' H'=>bM X.K H0 H' σ' b,rt:=λ_ _=>False } I ⟨H0,ρ,_,Ev,er,λσ' H' z=>z⟩) (λfl c q=>?_) λ_ _ z=>z);cases fl with
  |next=>
   obtain⟨σ',H',j,i⟩:=q;exact hx.run AN c σ' H' D j ⟨H0,b,d,i,a,w⟩
  |ret v=>obtain⟨_,_,_,_,_,z⟩:=q;exact False.elim z
  |brk=>obtain⟨_,_,_,z⟩:=q;exact False.elim z
  |cont=>obtain⟨_,_,_,z⟩:=q;exact False.elim z
 |rt _=>cases a
 |bk _=>cases a
 |ct _=>cases a⟩
def IS(pc:Ev->O Bool)(gx gy:Ev->O Dt):Ev->O Dt:=λρ=>(pc ρ).bind λk=>if k=true then gx ρ else gy ρ
theorem YE{sts:Z AB}:XQ X C f E sts (λ_=>Y):=⟨λAN s σ H D I b=>by
 obtain⟨H0,ρ,d,Ev,a,w⟩:=b;cases a⟩
theorem g5(i:QB X c pc)(j:XQ X C f E a gx)(hb:XQ X C f E b gy):FV X C f E (.If c a b pos) (IS pc gx gy):=⟨Oi (LZ i.run j.run hb.run) λD σ H h=>by
 obtain⟨H0,ρ,d,Ev,e,w⟩:=h;obtain⟨k,ek,e⟩:=AT e;refine⟨H0,ρ,k,Ev,ek,λH1 g=>?_⟩;cases k with
 |true=>rw[zh rfl]at e ⊢;exact⟨H0,ρ,d,Ev.grow g,e,w⟩
 |false=>rw[zC ZI]at e ⊢;exact⟨H0,ρ,d,Ev.grow g,e,w⟩⟩
end
def EG(K:B1)(n:Nat)(Fx:Z Bx->O Dt)(C:A1)(f:AJ):Sp:=λvs H _ E=>vs.length=n/\∃bs d,pJ K H bs vs/\bs.all (λb=>!ip b)=true/\Fx bs=U d/\XW K C f E H d
def nG(n:Nat)(gx:Ev->O Dt):Z Bx->O Dt:=λbs=>gx (bs.map U++List.replicate (n-bs.length) Y)
abbrev GH(P:A3)(w:A4)(K:B1)(mg:AJ->O A0)(base:A6)(N:AZ)(qual:AJ)(scope:Scope)(f:A1)(cd:A0)(A:A5)(outer:Z Env)(s:A2)(H:Hp)(E:XK):Cx:=
 (rK (Rw P w) P w K mg base N qual scope f cd A outer s H E).wish (RX (rK (Rw P w) P w K mg base N qual scope f cd A outer s H E) E)
theorem Mb{f:A1}{a:AJ}{k m:Nat}(F:Bj K x qual st f fd)(S:bB N ps (aG st))(l:N.length=n)(j:ps.length=m)(g:∀(b:A0) (A:A5) (outer:Z Env) (s:A2) (H:Hp) (E:XK),gW k (A.deeper (AK qual (aG st) s.heap.objs.size f b)) →
   (∀e s',RX (GH P w K mg base N qual (aG st) f b A outer s H E) E e s'->(GH P w K mg base N qual (aG st) f b A outer s H E).xe e s') →
   PassesOwn (A8 P w) (A.deeper (AK qual (aG st) s.heap.objs.size f b)) (AK qual (aG st) s.heap.objs.size f b) (GH P w K mg base N qual (aG st) f b A outer s H E).xe →
   XQ (GH P w K mg base N qual (aG st) f b A outer s H E) C a E (d8 st) gx):ju P w K mg base (Rw P w) (k+1) f fd ps (EG K m (nG n gx) C a):=
 Bj.okX F S (λvs H Q E h=>h.1.trans j.symm) λb A outer s H vs Q E c o=>by
  obtain⟨_,bs,d,r,i,e,w⟩:=o;subst l;exact⟨_,(g b A outer s H E c (λe s' h=>h.lq) (XJ (X:=rK (Rw P _) P _ K mg base N qual (aG st) f b A outer s H E) rfl rfl rfl)).run,H,_,d,bM.start r i,e,w⟩
theorem gp{c g fe a:AJ}{f FE:A1}{k:Nat}{d:Expr}{ok:V->Prop}{ρ0:V->Ev}{p1 p3 p4 t i p l n:Pos}{B:String}(F:Bj K x qual st f fd)(S:bB [c,g] [c,g] (aG st))(Fe:ExcBaseFacts B newId initId bmB)(hx:CY K C f bmB newId=true)(a5:Bi K C a=true)(hm:mg fe=U (.ref FE))(hb:V5 K FE initId)(hh:handedIn (.builtin initId)=true)(L:d8 st=[.Expr (.Call (.Attribute (.Name fe p1) "__init__" p2) [.Name c p3,d] [] p4) t,.Assign [.Attribute (.Name c i) a p] (.Name g l) n])(W:∀v,ok v->∃b,fa (ρ0 v)=U b/\∀H e,bM K H H [U (.ref e),U v] (ρ0 v))(b0:∀(j:A0) (A:A5) (outer:Z Env) (s:A2) (H:Hp) (E:XK) (X:Cx),X=(rK xu P w K mg base [c,g] qual (aG st) f j A outer s H E).Yt->gW k X.A →
   Gl X fe/\QV X d fa/\PE X (.Name c p3) (YG 0)/\PE X (.Name c i) (YG 0)/\PE X (.Name g l) (YG 1)/\(fe==("__debug__":AJ))=false/\A9 [.Name c p3,d] X.env=(false,eval (.Name c p3) X.env)::A9 [d] X.env/\A9 [d] X.env=(false,eval d X.env)::A9 [] X.env ∧
   (AD p4 (A9 [d] X.env)).any (·.1)=false/\swapsWith (.Call (.Attribute (.Name fe p1) "__init__" p2) [.Name c p3,d] [] p4) Y t.line X.env=pure false/\swapsWith (.Name g l) (U (.Attribute (.Name c i) a p)) n.line X.env=pure false ∧
   ∃pl:Sem Bool,eval (.Call (.Attribute (.Name fe p1) "__init__" p2) [.Name c p3,d] [] p4) X.env=(do
    let ov <-eval (.Name fe p1) X.env
    standAt p2.atName
    let (f,first) <-holding [ov] (getMethod ov "__init__" pl)
    callWith p4 f first (AD p4 (A9 [.Name c p3,d] X.env)) (backToKw p4 (keywordEach [] X.env)))):
  ju P w K mg base xu (k+1) f fd [c,g] (F0 C a ok):=
 Bj.ok F S (λvs H Q E h=>by obtain⟨_,_,rfl,_⟩:=h;rfl) λj A outer s H vs Q E u a1=>by
  obtain⟨e,v,rfl,a3,ea,q⟩:=a1;obtain⟨h1,h2,z,G,h5,h6,o,h8,I,N,M,pl,J⟩:=b0 j A outer s H E _ rfl u;rw[L];refine⟨_,qP (yj (XO (pl:=pl) Fe hx h1 hm hb hh (bw z (bw h2.run d7 h8) o) h6 o I J) N) (Ds (fF a5 G h5 M)),?_⟩;obtain⟨b,eb,a2⟩:=W v a3;refine⟨.ref e,rfl,H,ρ0 v,b,a2 H e,eb,λy H1 m _ _=>⟨e,y,rfl,m _ _ ea,?_⟩⟩;exact⟨v,rfl,.ref e,rfl,e,rfl,m _ _ ea,λdx D a0=>q H1 dx m D a0⟩
section
variable{k:Nat}{f h:A1}{F:Z Bx->O Bx}{fs:Ev->O (Z Bx)}{p q:Pos}
end
end P1
namespace P1
open L2 S6
section
variable{xs ts:AZ}
end
section
variable{e2 se:Expr}{fS:Ev->O AZ}{fx:Ev->O Dt}{no AS:Z AB}{tR tQ:TS}{p0 p02 px pb pif pk:Pos}{f:AJ}{E:XK}
end
end P1
namespace P1
open L2
section
variable{e1 e2 e3:Expr}{gr:Ev->O An}{xr xj y1 y2:AJ}{AS no:Z AB}{kk:Nat}{p0 p00 p01 p02 q1 q2 pt pj pa px pb pif pf2 px3 a1 c1 pe1 pr a2 pj2 c2 pe2:Pos}{fx:Ev->O Dt}{f:AJ}{E:XK}
end
section
variable{Cn f:A1}{iv k:Nat}{n cn:AJ}{np hp p pa:Pos}{b0:AB}{ts:A1->TS}{tf:TE}{t:TA}
def X0(X:Cx)(C f:A1)(iv:Nat)(ts:A1->TS)(tf:TE)(t:TA)(sp:Sp):TS:=λD σ H=>tf σ H λv H0=>v=.ref f/\t σ H0 λvs H1=>sp vs H1 (λ_ H2=>D.nx σ H2) (XT X C iv ts D σ)
theorem SE(o:X.stack=X.env::X.outer)(B:X.env.frame=U X.env.locals)(L:X.N.Nodup)(hi:X.N[iv]?=U n)(E:X.env.scope.names.lookup n=U .local)
  (i:Gl X cn) (Q:X.mg cn=U (.ref Cn)) (hx:exmOne X.K (.ref C) (.ref Cn)=U true) (hs:∀a,Cy (Cx.inX X a) (b0::suite) (ts a))
  (M:PE X.Yt (.Name x p) tf) (F:ju X.prog X.w X.K X.mg X.base (Rw X.prog X.w) k f fd ps sp) (d:gW k X.A) (J:keepIn X.K (.ref f)=true) (hb:BA X.K fd ps []) (g:PA X.Yt (e::es) t)
  (y:(cn==("__debug__":AJ))=false:=by decide) (m:A9 (e::es) X.env=(false,eval e X.env)::A9 es X.env:=by rfl) (P:(AD cpos (A9 es X.env)).any (·.1)=false:=by rfl)
  (j:swapsWith (.Call (.Name x p) (e::es) [] cpos) Y pa.line X.env=pure false:=by rfl):
  PS X (.Try [.Expr (.Call (.Name x p) (e::es) [] cpos) pa] [.ExceptHandler (U (.Name cn np)) (U n) (b0::suite) hp] [] [] pos) (X0 X C f iv ts tf t sp):=by
 intro AN s σ H D I h;refine wpAny_Try_except (K2 (wpAny_Expr_any (kD ?_) I.quiet j));refine ZZ (M AN s σ H _ (I.wish _) h) (λu s0 ⟨v,H0,I0,r0,ev,q0⟩=>?_) (λ_ _ z=>False.elim z);subst ev;obtain rfl:u=Value.ref f:=r0;refine yB (h₀:=X.base) I.ok.mod.kin J (ZZ (g cpos AN s0 σ H0 _ I0 q0) (λus s1 ⟨vs,H1,I1,r,q⟩=>⟨I1.Es,?_⟩) (λ_ _ z=>False.elim z)) m P;have c:=I1.lq;have l:us.length=ps.length:=by rw[<-r.length];exact F.len _ _ _ _ q
 rw[kM];refine Kt (k6 (F.run X.A X.stack s1 H1 ⟨us,[]⟩ us vs _ _ d c.env0 (by have:=hb s1 us c.Es (by rw[ZY];exact l);rwa [ZY]at this) r q) λr s' b=>?_);cases r with
 |error e=>exact Ub o B L hi E i Q hx hs c b y
 |ok fl=>
  cases fl with
  |next=>exact False.elim b
  |brk=>exact False.elim b
  |cont=>exact False.elim b
  |ret u=>
   obtain⟨v,H2,G,W,q2⟩:=c.after b;exact Kk (Kk ⟨_,H2,G,q2⟩)
end
section
variable{fx:Ev->O Bx}
end
section
variable{xs:Array A0}
end
theorem vV:∀{AQ:Z A0} {ns:Z Int},IntsAre AQ ns->AX (ns.map V.int) AQ
 |_,_,.nil=>.nil
 |_,_,.cons y t h=>.cons ⟨t,rfl⟩ (vV h)
section
variable{e:α->Dt}
end
section
variable{e:α->Dt}{ea:β->Dt}{eb:δ->Dt}{fx:Ev->O Dt}
end
section
variable{e:α->Dt}{g:Ev->O β}{c:γ->β}
end
section
variable{E:XK}
theorem Pc(i:∀e s,RX X E e s->X.xe e s):C1 (Rw X.prog X.w) X E:=λAN σ H s e s' I h=>by
 obtain⟨a,C,dx,H',T,rfl,os,u,un,y,g,j,m,t,ex,n⟩:=h;have J:AU X AN σ H' s':=I.call' (ch:=[]) os un y u λ_ z=>nomatch z;have l:AU X [] σ H' s':=⟨J.ok,J.os,J.bare,J.base,J.loc,J.cell,J.free,J.jy,λp hp=>J.pin p (List.mem_append.mpr ((List.mem_append.mp hp).elim .inl λz=>nomatch z)),J.hok,J.len⟩;have d:∀b,s.heap.objs.size<=b->H' b=Y->zm X H' b:=λb hb f=>⟨f,ZH I.sz hb,λz=>by have:=I.lt;rw[<-z]at this;exact absurd this (Nat.not_lt.mpr hb),λx c e z=>by
  obtain⟨v,q⟩:=I.cell x c e;have:c<s.heap.objs.size:=by
   obtain⟨o,q⟩:∃o,s.heap.get? c=U o:=by
    first|(obtain⟨o,q,_⟩:=q;exact⟨o,q⟩)|exact⟨_,q⟩
   exact zt q
  rw[z]at this;exact absurd this (Nat.not_lt.mpr hb)⟩
 exact i _ _ ⟨a,C,dx,σ,H',rfl,l,d a g m,.inr ⟨T,d T j t,.inr ex⟩,n⟩
end
section
variable{f:AJ}{E:XK}{fs:Ev->O (Z Bx)}{gy:Ev->O Dt}{p p1 epos:Pos}{AS:Z AB}
def Dx(g h:Ev->O Dt):Ev->O Dt:=λρ=>match g ρ with
 |some d=>U d
 |none=>h ρ
def Kc(n:Nat)(Fx:Z Bx->O Dt)(fs:Ev->O (Z Bx)):Ev->O Dt:=λρ=>(fs ρ).bind λbs=>if bs.length=n then Fx (bs.map lend)else Y
end
section
variable{o:Expr}
def MT:Dt->Bool
 |.non=>true
 |.tup _=>true
 |_=>false
def NR:Dt->Bool
 |.non=>true
 |_=>false
end
section
variable{o l:Expr}{fs:Ev->O (Z Bx)}{z:AJ}
end
instance {σ τ:Type} [Inhabited σ]:Inhabited (jt σ τ):=⟨.nx default⟩
section
variable{e:α->Dt}
theorem Ud(a:∀x,∃ds,e x=.tup ds)(ys:Z (O α)):(ys.map (eO e)).all MT=true/\(NR ∘ eO e)=Option.isNone:=by
 refine⟨?_,?_⟩
 ·rw[qo];intro d b;obtain⟨o,_,rfl⟩:=List.mem_map.mp b;cases o with
  |none=>rfl
  |some x=>obtain⟨ds,q⟩:=a x;show MT (e x)=true;rw[q];rfl
 ·funext o;cases o with
  |none=>rfl
  |some x=>obtain⟨ds,q⟩:=a x;show NR (e x)=false;rw[q];rfl
end
section
variable{o e2:Expr}{fx fy:Ev->O Bx}
end
section
variable{f:AJ}{E:XK}{gy:Ev->O Dt}{sts AS:Z AB}{p0 p00 p01 p02:Pos}
theorem N9(h1:XQ X C f E sts gx)(h2:XQ X C f E sts gy):XQ X C f E sts (Dx gx gy):=⟨λAN s σ H D I b=>by
 obtain⟨H0,ρ,d,Ev,a,w⟩:=b;unfold Dx at a;split at a
 ·rename_i q;cases a;exact h1.run AN s σ H D I ⟨H0,ρ,_,Ev,q,w⟩
 ·exact h2.run AN s σ H D I ⟨H0,ρ,_,Ev,a,w⟩⟩
end
structure DQ (K:B1) (mg:Str->Option Value) (x:Str) (st:Stmt) (ps:AZ) where
 f:Addr
 fd:FuncData
 F:Bj K x x st f fd
 b:BA K fd ps []
 m:mg x=some (.ref f)
 k:keepIn K (.ref f)=true
structure IQ (K:B1) (C:Addr) (q:Str) (st:Stmt) (ps:AZ) where
 f:Addr
 fd:FuncData
 F:Bj K "__init__" q st f fd
 b:BA K fd ps []
def mG{f:A1}{od d:O A1}{e kV i b cd ct:A0}(X:K.In h)(G:h.Ns mainGlobals mg)(a:Nn K x f)(l:Lk K f x st e od sl kV i b d cd ct)(c:codeIn K cd x=true)(k:keepIn K (.ref f)=true)(hb:∀(kV g b:A0) (d:O A1) (j ct:A0) (us:Z A0),us.length=ps.length->bindArgs (fnOf x x (nH st) (d8 st) (aG st) .none kV g b d j ct) ⟨us,[]⟩=pure (ps.zip us):=by intro _ _ _ _ _ _;first|exact P1.GN λ_=>S|exact P1.FG λ_ _=>S|exact P1.di λ_ _ _=>S|exact P1.RF λ_ _ _ _=>S|exact P1.UQ λ_ _ _ _ _=>S|exact P1.GU S):DQ K mg x st ps:=
 ⟨f,_,KR l c k,(KR l c k).binds hb,kb X G a,k⟩
def PP{f:A1}{q:AJ}{od d:O A1}{e kV h b cd ct:A0}(a:findIn K (.ref C) "__init__"=U (U (.ref f)))(l:K.lookup f=U ⟨e,od,.func (fnOf "__init__" q (nH st) (d8 st) (aG st) .none kV h b d cd ct),sl⟩)(c:codeIn K cd q=true)(k:keepIn K (.ref f)=true)(hb:∀(kV g b:A0) (d:O A1) (i ct:A0) (us:Z A0),us.length=ps.length->bindArgs (fnOf "__init__" q (nH st) (d8 st) (aG st) .none kV g b d i ct) ⟨us,[]⟩=pure (ps.zip us):=by intro _ _ _ _ _ _;exact P1.FG λ_ _=>S):IQ K C q st ps:=
 ⟨f,_,KR l c k,(KR l c k).binds hb⟩
theorem NJ{v:Tok->A0}{tk:Tok}(X:K.In h)(G:h.Ns mainGlobals mg)(c:nsIn K mainGlobals x=U (U (v tk))):∃tk,mg x=U (v tk):=⟨tk,kb X G c⟩
abbrev Ok(P:A3)(w:A4)(base:A6)(d:DQ K mg x st ps)(k n:Nat)(F:Z Bx->O Bx):Prop:=ju P w K mg base xu k d.f d.fd ps (Zx K n F)
theorem HY{k m:Nat}(d:DQ K mg x st ps)(S:bB N ps (aG st))(c:∀(a:A0) (A:A5) (outer:Z Env) (s:A2) (H:Hp) (E:XK),gW k (A.deeper (AK x (aG st) s.heap.objs.size d.f a))->(A.deeper (AK x (aG st) s.heap.objs.size d.f a)).units+100<cLine->N.Nodup->R6 (rK xu P w K mg base N x (aG st) d.f a A outer s H E).Yt (d8 st) g)(h:N.length=n:=by rfl)(e:ps.length=m:=by rfl):Ok P w base d (k+1) m (dY n g):=LF d.F S h e λa A outer s H E b=>c a A outer s H E b (DY b) S.nd
section
variable{k m:Nat}{F:Z Bx->O Bx}{fs:Ev->O (Z Bx)}{p:Pos}
theorem dF(d:DQ X.K X.mg x st ps)(G:Ok X.prog X.w X.base d k n F)(a:gW m X.A)(c:Vb X (e::es) fs)(h:Gl X x:=by rfl)(g:k<=m:=by decide)(f:(x==("__debug__":AJ))=false:=by decide)(he:A9 (e::es) X.env=(false,eval e X.env)::A9 es X.env:=by rfl)(i:(AD pos (A9 es X.env)).any (·.1)=false:=by rfl):QV X (.Call (.Name x p) (e::es) [] pos) (cj n F fs):=
 DN G (a.mono g) h d.m d.k d.b c f he i
end
theorem Ee{l:PySem.W.OpenLaw}{q:A3}{loose:AZ}{d:DefRec}{K:Params->B1}{T:B1->(AJ->O A0)->Type}{k:Nat}{F_law:Z Bx->O Bx}(b:∀{K mg},T K mg->DQ K mg "law" st [x])(p:gW k callerA)(v:d.name ="law")(G:∀(w:A4) (mg:AJ->O A0) (base:A6) (t:T (K w.params) mg),Ok l.prog w base (b t) k 1 F_law)(E:l.most=U 63)(o:d.params.defaults=[])(h1:∀ns:Z Int,ns.length<=63->F_law [.z (.lst (ns.map .int))]=U (.z (.bl true)))(h2:∀ns:Z Int,ns.length<=63->F_law [.l (ns.map .int)]=U (.z (.bl true)))(hb:∀(kV c g:A0) (j:O A1) (i ct u:A0),bindArgs (fnOf "law" "law" (nH st) (d8 st) (aG st) .none kV c g j i ct) ⟨[u],[]⟩=pure [(x,u)])(D:∀(w:A4) (h:A6),YP w h->(K w.params).In h)(F:∀(w:A4) (mg:AJ->O A0) (h:A6),(K w.params).In h->h.Ns mainGlobals mg->T (K w.params) mg):
  PySem.W.WalkO q loose XP YP l.row.toRowW d [] (λf vs=>PySem.call f vs):=
 L2.Zc (n:=63) (k:=k) (x:=x) (CX:=xu) (sp:=λK=>Zx K 1 F_law) E (by decide) o p D (λw mg fa h X N e=>by
  have t:=F w mg h X N;have C:=(b t).m;rw[v,C]at e;cases e;refine⟨(b t).fd,λs u=>?_,λbase _ _=>G w mg base t⟩;obtain⟨I,M,kV,c,g,j,i,ct,osl,e,L,J⟩:=(b t).F.ex;rw[e];exact .of_eq (hb kV c g j i ct u)) (λK H a ns y B A=>UZ h1 h2 K H a ns y B A) λ_ _ _ _ z=>z
theorem Qx:entryFor table "proto.unchain"=U Builtin.«proto.unchain»:=entryFor_of_tree (by kernel_rfl)
theorem MF{a b:Sem α}{Q:α->A2->Prop}(h:a=b)(k:A7 (A8 prog w) A b Q E s):A7 (A8 prog w) A a Q E s:=h▸k
theorem MJ{v:A0}{e:A1}{vs:Array A0}{Q:B9}(he:s.heap.get? e=U o)(a:o.data=.fields vs)(h2:vs[2]?=U .none)(h:Q .none s):A7 (A8 prog w) A (runValue (.builtin "proto.unchain" ⟨[v,.ref e,.ref e,.bool false],[]⟩)) Q E s:=by
 refine wpAny_runValue (JU Qx ?_);show A7 _ _ (field (.ref e) 2 >>= _) _ _ s;refine zb (Jn he a h2 ?_);exact ze h
theorem Qy{e:A1}{x n d:Int}{vs:Array A0}{Q:O A0->A2->Prop}(f:A.handled=U (.ref e))(he:s.heap.get? e=U o)(g:o.data=.fields vs)(h2:vs[2]?=U .none)(c:IsRangeIter s.heap it x n d)(l:n<=0)(q:∀h',Heap.ExtBut it s.heap h'->Q Y { s with heap:=h' }):A7 (A8 prog w) A (pyNext (.ref it)) Q E s:=by
 have ty:s.TypeIs (.ref it) "range_iterator":=⟨_,c,rfl⟩;unfold pyNext;refine zb (y0 (KB (name:=Str.ofString "__next__") ty PySem.F.slot_range_iterator_next (kf PySem.F.slot_range_iterator_next ty PySem.F.entry_range_iterator_next ?_ (PySem.F.args_range_iterator_next_1 _))));show A7 _ _ (field (.ref it) 0 >>= _) _ _ s;refine zb (Jn c S (x:=rawInt x) S ?_);show A7 _ _ (field (.ref it) 1 >>= _) _ _ s;refine zb (Jn c S (x:=rawInt n) S ?_);show A7 _ _ (field (.ref it) 2 >>= _) _ _ s;refine zb (Jn c S (x:=rawInt d) S ?_);show A7 _ _ (if n<=0 then _ else _) _ _ s;rw[zh l];refine zb (Kn (zb ?_));show A7 _ _ (newExc (.type "StopIteration") [] >>= _) _ _ _;refine zb ?_;simp only[newExc,newTuple];refine zb (qh ?_ (by size_fits));refine zb (m:=firstArgMember _ _) (wpAny_of_eq (a:=Value.none) (by first|rfl|(simp only[firstArgMember];rfl)) ?_);refine qh ?_ (by size_fits);simp only[raiseNew];refine zb (wpAny_handled ?_)
 first|rw[show A.in1.handled=U (.ref e) from f]|rw[f]
 have lt:=zt he;have sz:(s.heap.push { cls:=.type "tuple",data:=.seq #[] }).objs.size=s.heap.objs.size+1:=by simp[Heap.push]
 dsimp only;rw[zh (show(Value.ref e !=Value.ref (s.heap.push { cls:=.type "tuple",data:=.seq #[] }).objs.size)=true from by
  rw[sz,bne_iff_ne];intro z;injection z with z;rw[z]at lt;exact absurd lt (Nat.not_lt.mpr (JO _)))]
 have j:=zd (h:=s.heap) { cls:=.type "tuple",data:=.seq #[] } he;refine zb (qA (MJ (zd _ j) g h2 ?_));have new:=zv (s.heap.push { cls:=.type "tuple",data:=.seq #[] }) (o:={ cls:=.type "StopIteration",data:=.fields (#[.ref s.heap.objs.size,.none,.none,.none,.bool false,.none]++ownMembersOf (.type "StopIteration") []) }) rfl;unfold updateField;refine zb (zb (K0 new ?_));refine MF (b:=update (s.heap.push { cls:=.type "tuple",data:=.seq #[] }).objs.size (Obj.mapFields λz=>z.setIfInBounds 2 (.ref e))) S (wpAny_update new ?_);refine wpAny_throw ?_;refine zb (ke (T :="StopIteration") (b:=true) ⟨_,QE _ new rfl,rfl⟩ isSubtype_stop ?_);refine ze (q _ λb p hb eb=>?_);have i:=zt eb;rw[QN _ _ (by rw[sz];exact jS (Qb i))];exact zd _ (zd _ eb)
structure G8 (k:Nat) (a:Addr) (A:Around):Prop where
 hd:A.handled=some (.ref a)
 dp:A.depth+3*k+5<recursionLimit
 un:A.units+16*k+200<cLine
theorem G8.deeper{k:Nat}(r:G8 (k+1) a A)(env:Env):G8 k a (A.deeper env):=
 ⟨r.hd,by have:=r.dp;show A.depth+1+3*k+5<_;omega,by have:=r.un;show A.units+3+16*k+200<_;omega⟩
theorem gW.inX{k:Nat}(r:gW k A)(a:A1):G8 k a (A.mark (U (.ref a))):=⟨rfl,r.dp,r.un⟩
abbrev Hm(P:A3)(w:A4)(K:B1)(mg:AJ->O A0)(base:A6)(N:AZ)(qual:AJ)(scope:Scope)(f:A1)(cd:A0)(A:A5)(outer:Z Env)(s:A2)(H:Hp):Cx:=
 { rK xu P w K mg base N qual scope f cd A outer s H E0 with calm:=false,xe:=λ_ _=>False }
theorem iO{outer:Z Env}{h:O A0}(e:Ez P w K mg base A outer s H):Ez P w K mg base { A with handled:=h } outer s H:=⟨e.frames,e.mod,e.bs,e.Ys,e.uJ,e.frf,e.hok,e.bare⟩
theorem Ue{f:A1}{cd:A0}{outer:Z Env}{a:A2}(S:bB N ps scope)(e0:Ez P w K mg base A outer s H)(b:vs.length=ps.length)(r:AX vs us)(x:InCallC s s.heap.objs.size (bindL (AK qual scope s.heap.objs.size f cd).kindOf (ps.zip us) λ_=>Y) (cellsFrom (s.heap.objs.size+1) scope.names []) (bindC (AK qual scope s.heap.objs.size f cd).kindOf (ps.zip us) λ_=>Y) a):
  AU (Hm P w K mg base N qual scope f cd A outer s H) [] (start N vs) H a:=by
 have I:AU (rK xu P w K mg base N qual scope f cd { A with handled:=Y } outer s H E0) [] (start N vs) H a:=Jv S rfl (iO e0) b r x;exact⟨⟨I.ok.mod,I.ok.kind,I.ok.glob,I.ok.blt,I.ok.above,I.ok.inj,I.ok.has,I.ok.cab,λz=>(by cases z),Around.frames_deeper e0.frames,I.ok.stk,I.ok.exf,I.ok.bs,I.ok.Ys,I.ok.Rx,I.ok.Wr,I.ok.uJ,I.ok.frf⟩,I.os,I.bare,I.base,I.loc,I.cell,I.free,I.jy,I.pin,I.hok,I.len⟩
structure V7 (P:Program) (w:World) (K:B1) (mg:Str->Option Value) (base:Heap) (k:Nat) (f:Addr) (fd:FuncData) (ps:AZ) (sp:Addr->List V->Hp->VK->Prop):Prop where
 len:∀a vs H Q,sp a vs H Q->vs.length=ps.length
 run:∀(a:Addr) (A:Around) (outer:List Env) (s:Shared) (H:Hp) (args:Args) (us:List Value) (vs:List V) (Q:VK),G8 k a A->Ez P w K mg base A outer s H->BindsTo s fd args (ps.zip us)->AX vs us->sp a vs H Q →
  codeAny (model P w) A (.call (.ref f) args) (CR xu outer P w H s Q E0) s
theorem Bj.okH{f:A1}{k:Nat}{sp:A1->Z V->Hp->VK->Prop}(F:Bj K x qual st f fd)(S:bB N ps (aG st))(len:∀a vs H Q,sp a vs H Q->vs.length=ps.length)(G:∀(c:A0) (a:A1) (A:A5) (outer:Z Env) (s:A2) (H:Hp) (vs:Z V) (Q:VK),G8 k a (A.deeper (AK qual (aG st) s.heap.objs.size f c))->sp a vs H Q →
   ∃t,Cy (Hm P w K mg base N qual (aG st) f c A outer s H) (d8 st) t/\t { nx:=λ_ H'=>Q .non H',rt:=Q } (start N vs) H):V7 P w K mg base (k+1) f fd ps sp:=by
 obtain⟨oc,od,kV,W,X,an,c,ct,osl,rfl,l,E⟩:=F.ex;refine⟨len,λa A outer s H M us vs Q g e0 hb r h=>?_⟩;have z:=len _ _ _ _ h;have i:K.In s.heap:=e0.mod.kin.keeps λb o e=>(e0.bs b o e).1;have p:s.heap.NoLimit:=e0.mod.nolimit.keeps λb o e=>(e0.bs b o e).1;have L:∀y∈ps.zip us,(aG st).names.lookup y.1=U .local\/((aG st).names.lookup y.1=U .cell/\((cellsFrom (s.heap.objs.size+1) (aG st).names []).lookup y.1).isSome=true):=λ⟨n,v⟩ hy=>by
  rcases S.par n (yf hy).1 with q|q
  ·exact .inl q
  ·exact .inr ⟨q,cellsFrom_some _ _ _ (.inl q)⟩
 refine codeAny_call_function (by have:=g.dp;omega) (i _ _ l) rfl S.co S.gen rfl (codeRec_of i E) (hb _ _ _ _ ?_);refine wpAny_newFunctionEnv_cells S.kind L λenv B C x=>?_;subst B;refine⟨p.keeps x.toInCall.keep,codeAny_func ?_⟩;obtain⟨t,m,D⟩:=G c a A outer s H vs Q (g.deeper _) h;have I:=Ue (f:=f) (qual:=qual) (cd:=c) S e0 z r x;refine ZZ (m [] C (start N vs) H _ I D) (λfl s' hs=>?_) λe s' hs=>False.elim hs;have j:∀{σ':L2.St} {H':Hp} {v:V} {u:A0},AU (Hm P w K mg base N qual (aG st) f c A outer s H) [] σ' H' s'->As v u->Q v H'->CE outer P w H s Q u s':=
  λ{σ' H' v u} J d q=>⟨v,H',J.os,J.bare,J.base,J.hok,d,q⟩
 cases fl with
 |ret u=>
  obtain⟨v,σ',H',J,d,q⟩:=hs;exact j J d q
 |next=>
  obtain⟨σ',H',J,q⟩:=hs;exact j (v:=V.non) (u:=Value.none) J rfl q
 |brk=>
  obtain⟨_,_,_,q⟩:=hs;exact False.elim q
 |cont=>
  obtain⟨_,_,_,q⟩:=hs;exact False.elim q
section
variable{k:Nat}{f:A1}{sp:A1->Z V->Hp->VK->Prop}{p:Pos}{t:TA}
def gi(sp:A1->Z V->Hp->VK->Prop)(a:A1)(t:TA):TE:=λσ H Q=>t σ H λvs H1=>sp a vs H1 Q
theorem bu(F:V7 X.prog X.w X.K X.mg X.base k f fd ps sp)(d:G8 k a X.A)(m:Gl X x)(o:X.mg x=U (.ref f))(i:keepIn X.K (.ref f)=true)(hb:BA X.K fd ps [])
  (g:PA X (e::es) t) (j:(x==("__debug__":AJ))=false:=by decide) (he:A9 (e::es) X.env=(false,eval e X.env)::A9 es X.env:=by rfl) (n:(AD pos (A9 es X.env)).any (·.1)=false:=by rfl):
  PE X (.Call (.Name x p) (e::es) [] pos) (gi sp a t):=by
 intro AN s σ H Q I h;refine kD (vU I m o ?_ j);refine yB (h₀:=X.base) I.ok.mod.kin i (gM (g pos AN s σ H _ I h) λus s1 ⟨vs,H1,I1,r,q⟩=>⟨I1.Es,?_⟩) he n;have l:us.length=ps.length:=by rw[<-r.length];exact F.len _ _ _ _ q
 have c:=hb s1 us I1.Es (by rw[ZY];exact l);rw[ZY]at c;refine Kt (k6 (F.run a X.A X.stack s1 H1 ⟨us,[]⟩ us vs Q d I1.env0 c r q) λr s' b=>?_);cases r with
 |error e=>exact False.elim b
 |ok fl=>
  cases fl with
  |ret u=>exact I1.after b
  |next=>exact False.elim b
  |brk=>exact False.elim b
  |cont=>exact False.elim b
end
def NL(e C:A1)(d:O A1)(lo:Int)(n:Nat):It:=⟨λi _=>i<n,λi H x H'=>H'=H/\x=.int (lo+i),λi H=>n<=i/\H e=U (Yz e C d)⟩
abbrev L6(e:A1):A5->Bool->Prop:=λA _=>A.handled=U (.ref e)
theorem Qz(e C:A1)(d:O A1)(it:A1)(lo:Int)(n:Nat):Ot (L6 e) P w K tg (NL e C d lo n) [it] it (λi h=>IsRangeIter h it (lo+(i:Nat)*1) ((n:Int)-(i:Nat)) 1) where
 obj:=λi h st b hb=>by
  have e:b=it:=by simpa using hb
  subst e;exact⟨_,st,λv z=>by
   have y:Data.fields _=Data.cell v:=z;cases y⟩
 keep:=λi h h' st k=>k it (by simp) _ st
 item:=by
  intro X p f m t i AN s σ H E I a st l;subst p f m;obtain⟨f0,f1,f2,c,j,g⟩:=a it (by simp);have hi:i<n:=l;refine wpAny_pyNext_range_item st (by omega) λh' q A=>?_;have B:IsRangeIter h' it (lo+((i+1:Nat):Int)*1) ((n:Int)-((i+1:Nat):Int)) 1:=by
   have e1:lo+((i+1:Nat):Int)*1=lo+(i:Int)*1+1:=by omega
   have e2:(n:Int)-((i+1:Nat):Int)=(n:Int)-(i:Int)-1:=by omega
   rw[e1,e2];exact q
  refine⟨_,rfl,Jq (n :="range_iterator") q S S (by decide) ⟨.int (lo+i),H,I.turned (λb o hb e=>A.extBut b o (by simpa using hb) e) f0 f1 c j g,⟨s.toks,by rw[Int.mul_one]⟩,⟨rfl,rfl⟩,B,λb hb=>(a b hb).1⟩⟩
 done:=by
  intro X p f m t i AN s σ H E I a st l;subst p f m;obtain⟨f0,f1,f2,c,j,g⟩:=a it (by simp);obtain⟨D,x⟩:=l;obtain⟨vs,sl,u,h2⟩:=(I.hok e _ x).1;exact Qy t u S h2 st (by omega) λh' eb=>⟨rfl,I.turned (t':=s.toks) (λb o hb e=>eb b o hb e) f0 f1 c j g⟩
 self:=λ_ _ _ _ _ st h=>wpAny_pyIter_rangeiter st h
theorem B4.alN{e:A1}{d:O A1}(lo:Int)(n:Nat)(he:Hs e=U (Yz e C d)):B4 K (NL e C d lo n) (CJ lo n) Hs:=λi H s=>by
 obtain⟨y1,y2⟩:=B4.rng (K:=K) (Hs:=Hs) lo n i H s;exact⟨y1,λh=>⟨y2 h,s _ _ he⟩⟩
section
variable{p0 p1:Pos}{xs:AZ}{e:A1}{a:Expr}{ta:TA}
theorem XR{Q:B9}{lo hi:Int}{t u v:Tok}(I:AU X AN σ H s)(h1 : -(2 ^ 62)<=lo)(h2:lo<2 ^ 62)(d : -(2 ^ 62)<=hi)(f:hi<2 ^ 62)(q:∀it a,AU X AN σ H a->IsRangeIter a.heap it (lo+((0:Nat):Int)*1) ((((hi-lo).toNat:Nat):Int)-((0:Nat):Int)) 1->qD X AN H it->Q (.ref it) a):
  A7 (A8 X.prog X.w) X.A (pyIter (.ref s.heap.objs.size)) Q E { s with heap:=s.heap.push { cls:=.type "range",data:=.fields #[.int lo t,.int hi u,.int 1 v] },toks:=tk }:=by
 refine wpAny_pyIter_range (IsRange.new ..) (small_one h1 h2 d f) ?_;have c:AU X AN σ H { s with heap:=s.heap.push { cls:=.type "range",data:=.fields #[.int lo t,.int hi u,.int 1 v] },toks:=tk }:=I.kept λb o e=>zd _ e;refine q _ _ (c.kept (t':=tk) λb o e=>zd _ e) ?_ (c.N8 (zg _) (c.hok.fresh (zg _)));have e1:lo+((0:Nat):Int)*1=lo:=by simp
 have e2:(((hi-lo).toNat:Nat):Int)-((0:Nat):Int)=Builtin.Range.rangeSize lo hi 1:=by rw[rangeSize_one];split<;>omega
 rw[e1,e2];exact zv _ rfl
def OX(K:B1)(e:A1)(gt:Dt->Ev->O Ev)(p:Ev->O Bool)(fe:Ev->O Bx)(is:Z Nat)(n j:Nat):TE:=λσ H Q=>∃ ρ C d a,bM K H H σ ρ/\H e=U (Yz e C d)/\Bm gt p fe (mR is ρ++List.replicate n Y) (CJ 0 j)=U a ∧
 ∀D us H',H D=Y->AV H H'->H' D=U (.lst us)->aK K H' a us->Q (.ref D) H'
theorem P3(ts:AZ)(j:Nat)(hj:j<=100000)(O:rM X scope cl xs is)(J:X.A.handled=U (.ref e))(l:Gl X "range")(hm:X.mg "range"=Y)(g:PA X [a] ta)(L:∀ σ H R,R [V.int j] H->ta σ H R)
  (Ou:∀C c d fp,ES (HX X (xs++ts) scope cl C c d fp) tgt gt) (a0:∀C c d fp,C2 (HX X (xs++ts) scope cl C c d fp) ifs p) (v:∀C c d fp,PV (HX X (xs++ts) scope cl C c d fp) elt fe) (i:Ct is.length (is.length+ts.length) gt)
  (y:A9 [a] X.env=[(false,eval a X.env)]:=by rfl) (hs:∀x,foldedSetIterable (.Call (.Name "range" p0) [a] [] p1) X.env x=pure x:=by intro _;rfl):
  PE X (.ListComp elt [⟨tgt,.Call (.Name "range" p0) [a] [] p1,ifs,0⟩] scope pos) (OX X.K e gt p fe is ts.length j):=λAN s σ H Q I h=>by
 obtain⟨ρ,F,n,a1,E,he,eo,q⟩:=h;rw[eval_ListComp];refine Kj (use:=Y) S hs O.clos O.kind O.names ?_;refine Call_ (zU I l hm boot_range (PyProof.Rows.callWith_type1 (gM (g p1 AN s σ H (λvs H1=>vs=[.int j]/\H1=H) I (L _ _ _ ⟨rfl,rfl⟩)) λus s1 ⟨vs,H1,I1,r1,q1⟩=>?_) y S));obtain⟨rfl,rfl⟩:=q1;cases r1 with
 |cons r G=>
  cases G;obtain⟨t,rfl⟩:=r;refine call_range_1 (XR I1 (by omega) (by omega) (by omega) (by omega) λit s2 I2 st f=>?_);have N:(((j:Int)-0).toNat:Nat)=j:=by omega
  rw[N]at st;refine FJ (B:=L6 e) (fp:=[it]) (RR:=λu C=>compPost (A8 X.prog X.w) X.A X.xe Y (EP X AN σ Q) u C) (ts:=ts) (xs:=xs) O J Ou a0 v i I2 (E.caps is ts.length) (Qz e F n it 0 j) st (λb hb=>by
   have z:b=it:=by simpa using hb
   rw[z];exact f) (B4.alN 0 j he) (by simpa[CJ]using hj) eo ?_
  intro D C s' H' us W I' f ⟨m,hn⟩ s2' hD' r';refine⟨m,hn,λh' sb=>⟨.ref D,H',?_,rfl,q D us H' W s2' hD' r'⟩⟩;obtain⟨f0,f1,f2,M,P,f5⟩:=f;exact I'.turned (t':=s'.toks) (λb o hb e=>(sb.2 b hb).trans e) f0 f1 M P f5
end
section
variable{f:AJ}{E:XK}{fs:Ev->O (Z Bx)}{p:Pos}
theorem QC{k:Nat}{fa:A1}{Fx:Z Bx->O Dt}(G:ju X.prog X.w X.K X.mg X.base (Rw X.prog X.w) k fa fd ps (EG X.K n Fx C f))(g:gW k X.A)(o:Gl X x)(u:X.mg x=U (.ref fa))(i:keepIn X.K (.ref fa)=true)(hb:BA X.K fd ps [])(m:∀e s,RX X E e s->X.xe e s)(h:Vb X (e::es) fs)(j:(x==("__debug__":AJ))=false:=by decide)(he:A9 (e::es) X.env=(false,eval e X.env)::A9 es X.env:=by rfl)(t:(AD cpos (A9 es X.env)).any (·.1)=false:=by rfl)(q:swapsWith (.Call (.Name x p) (e::es) [] cpos) Y pos.line X.env=pure false:=by rfl):
  FV X C f E (.Expr (.Call (.Name x p) (e::es) [] cpos) pos) (Kc n Fx fs):=⟨λAN s σ H D I l=>by
 refine wpAny_Expr_any (ZZ (Kv (p:=p) (pos:=cpos) G g o u i hb .nil (Pc m) h.run j he t AN s σ H (λ_ _=>False) I ?_) (λv b h1=>?_) λ_ _ z=>z) I.quiet q
 ·obtain⟨H0,ρ,d,Ev,a,w⟩:=l;obtain⟨bs,eb,a⟩:=AT a;split at a
  ·rename_i y;refine⟨H0,ρ,bs,Ev,eb,λvs H1 b c=>?_⟩;show EG X.K n Fx C f (vs++[]) H1 _ E;rw[ZY];exact⟨by rw[<-Paired.length c];exact y,_,d,FN c,K7 bs,a,w.rebase (Ev.base.trans b)⟩
  ·cases a
 ·obtain⟨_,_,_,_,z⟩:=h1;exact False.elim z⟩
end
theorem XW.of{f:AJ}{E:XK}(a:f ≠ "")(h:∀dx v H',AV H0 H'->H' dx=U (.xd [(f,v)])->AW K H' d v->E (.ref C) (U dx) H'):XW K C f E H0 d:=λdx H' s q=>by
 rw[zC a]at q;obtain⟨x,v,rfl,e,r⟩:=q;exact h x v H' s e r
section
variable{g:Array GenState}{d:Drawn}{t:Nat}{AS:Z A0}{B:String}
end
section
variable{E:XK}{p:Pos}{B:String}{k:Nat}{t:TA}
end
section
variable{p kp cp:Pos}{fs:Ev->O (Z Bx)}{j:Int}{kk:Nat}
end
section
variable{e:α->Dt}
end
section
variable{g:Ev->O AJ}
variable{e:α->Dt}
end
section
variable{e:α->Dt}{σ' τ:Type}
def qE(e:α->Dt):O (Z α)->Bx
 |none=>.z .non
 |some l=>.o (l.map e)
def EX(e:α->Dt):O (Z α)->Bx
 |none=>.z .non
 |some l=>.l (l.map e)
def Xt:R (cB .non) ρ (qE e):=⟨Y,Y,λ_=>S⟩
def V8(a:R fa ρ (oE e)):R fa ρ (qE e):=⟨U a.v,a.D,λh=>a.ok h⟩
theorem VA{v:O (Z α)}(h:ρ[i]?=U (U (qE e v))):yu ρ i=U (EX e v):=by
 unfold yu;rw[h];cases v<;>rfl
def MK(i:Nat)(e:α->Dt)(v:O (Z α))(h:ρ[i]?=U (U (qE e v))):R (gv i) ρ (EX e):=⟨v,Y,λ_=>VA h⟩
class Cb (c:Option (List α)->Bx) (e:outParam (α->Dt)):Prop where
 d:∀v,toD (c v)=eO (eL e) v/\oX (c v)=false
instance:Cb (qE e) e:=⟨λv=>by cases v<;>exact⟨rfl,rfl⟩⟩
instance:Cb (EX e) e:=⟨λv=>by cases v<;>exact⟨rfl,rfl⟩⟩
instance:Cb (zE (eO (eL e))) e:=⟨λv=>⟨rfl,rfl⟩⟩
def MS[DecidableEq α][B6 (eO (eL e)) n]{g f:O (Z α)->Bx}[Cb g e][Cb f e](m:n<=100)(a:R fa ρ g)(b:R fb ρ f):R (b2 BQ fa fb) ρ (zE eB):=⟨decide (a.v=b.v),bA a.D b.D,λh=>by
 obtain⟨h1,h2⟩:=aB h;have:=B6.dp (e:=eO (eL e)) a.v;obtain⟨l,i⟩:=Cb.d (c:=g) (e:=e) a.v;obtain⟨d2,j⟩:=Cb.d (c:=f) (e:=e) b.v;simp only[b2,a.ok h1,b.ok h2,Au,BQ,l,d2,i,j,zr,or_self,ZO,B6.eq];rw[zh (by omega)]⟩
def OV[DecidableEq α][B6 (eO (eL e)) n]{g f:O (Z α)->Bx}[Cb g e][Cb f e](m:n<=100)(a:R fa ρ g)(b:R fb ρ f):R (b2 Sq fa fb) ρ (zE eB):=⟨!decide (a.v=b.v),bA a.D b.D,λh=>by
 obtain⟨h1,h2⟩:=aB h;have:=B6.dp (e:=eO (eL e)) a.v;obtain⟨l,i⟩:=Cb.d (c:=g) (e:=e) a.v;obtain⟨d2,j⟩:=Cb.d (c:=f) (e:=e) b.v;simp only[b2,a.ok h1,b.ok h2,Au,Sq,l,d2,i,j,zr,or_self,ZO,B6.eq];rw[zh (by omega)]⟩
def WU(a:R fa ρ (EX e)):R (b2 DA fa (cB .non)) ρ (zE eB):=⟨a.v.isNone,a.D,λh=>by
 simp only[b2,a.ok h,Au,cB,DA];cases a.v<;>rfl⟩
def OF(a:R fa ρ (EX e)):R (JM BN fa) ρ (zE eB):=⟨a.v.isSome,a.D,λh=>by
 unfold JM b1;rw[a.ok h];cases a.v<;>rfl⟩
def XV{k:Ev->O An}{cO:γ->An}(i:Nat)(v:O (Z α))(hi:ρ[i]?=U (U (qE e v)))(K:∀ds:Z Dt,R k (ρ.set i (U (.o ds))) cO):R (aD (xM i (cB .non)) k) ρ cO:=⟨(K ((v.getD []).map e++[.non])).v,bA (U (v.isSome=true/\sy (v.getD []).length)) (K ((v.getD []).map e++[.non])).D,λb=>by
 obtain⟨h1,a⟩:=aB b;obtain⟨h1,h2⟩:v.isSome=true/\sy (v.getD []).length:=h1;cases v with
 |none=>cases h1
 |some l=>
  have h2:l.length<=1000000:=h2;have hi:ρ[i]?=U (U (.o (l.map e))):=hi;rw[iQ (ρ':=ρ.set i (U (.o (l.map e++[.non])))) (by
   unfold xM;simp only[cB,Au,Zk,hi,zi];rw[zh (Kx h2 (by decide))])]
  exact(K _).ok a⟩
end
theorem XS(h:lA d=true):∃x,d=.str x:=by
 cases d with
 |str x=>exact⟨x,rfl⟩
 |_=>cases h
theorem g9(h:d∈DL (.str x)):d=eS (Al d):=by
 unfold DL BH at h;obtain⟨c,_,rfl⟩:=List.mem_map.mp h;rfl
theorem TL(x:AJ):(DL (.str x)).length=x.length:=XD x
theorem zq{i:Int}(h:i∈rng 0 n):∃k:Nat,k<n/\i=(k:Int):=by
 unfold rng at h;obtain⟨k,a,rfl⟩:=List.mem_map.mp h;exact⟨k,List.mem_range.mp a,by omega⟩
end P1
namespace P1
open L2 S1 S6
def same(w:Z AZ)(x y:AJ):Prop:=∃s∈w,x∈s/\y∈s
end P1
section
set_option maxHeartbeats 1000000
namespace P1
open L2
open PySem.Builtin PySem.Builtin.Str
abbrev cs(s:AJ):Z Nat:=s.cps.toList
theorem MN(a b:AJ):cs (a++b)=cs a++cs b:=Array.toList_append
theorem G9(a:AJ):a.length=(cs a).length:=by simp[Str.length]
theorem P8(y p q:AJ)(ps:AZ):Str.join y (p::q::ps)=p++y++Str.join y (q::ps):=rfl
theorem X3{c:Nat}{s:AJ}(h:c∈cs s):JF ⟨#[c]⟩ s=true:=by
 unfold JF;obtain⟨i,hi⟩:=(mem_iff_at s c).mp h;rcases StrLaws.occ_head s ⟨#[c]⟩ 1 (zg 1)with⟨h0,a⟩|⟨i,r,h0,_,_⟩
 ·exact absurd hi (a i)
 ·rw[h0];rfl
theorem fw(h:n<=x.length):cs (Txt.slice x (U (n:Int)) Y)=(cs x).drop n:=by
 rw[slice_from_eq (b:=x.length) (by omega) (by omega) rfl];show((cs x).drop ((n:Int).toNat)).take _=_;rw[KP,List.take_of_length_le (by rw[kA,<-G9];omega)]
theorem Sr(h:n<=x.length):cs (Txt.slice x Y (U (n:Int)))=(cs x).take n:=by
 have:=slice_closes_to (x:=x) (j:=(n:Int)) ⟨by omega,by rw[show x.cps.toList.length=x.length by simp[Str.length]];omega⟩;rw[eq_of_beq this];show((cs x).drop 0).take _=_;simp
theorem VI:∀(y p:AJ) (ps:AZ),cs (Txt.join y (p::ps))=cs p++ps.flatMap λq=>cs y++cs q:=by
 intro y p ps;rw[show Txt.join y (p::ps)=Str.join y (p::ps) from StrLaws.glued_eq_join y _]
 induction ps generalizing p with
 |nil=>simp[Str.join]
 |cons q ps a=>rw[P8,MN,MN,a,List.flatMap_cons,Q4,Q4]
end P1
end
section
set_option maxHeartbeats 1000000
namespace P1
open L2 S1 S6
section
variable [Inhabited α]
end
section
variable{e:α->Dt} [rG e]
end
end P1
end
namespace P1
open L2
open PySem.Builtin PySem.Builtin.Str
end P1
section
set_option maxHeartbeats 1000000
namespace P1
open L2
open PySem.Builtin PySem.Builtin.Str
end P1
end
section
set_option synthInstance.maxSize 100000
namespace G14
open L2 P1
noncomputable section
abbrev DH:=Z P1.Dt
abbrev aF:Type:=Int×AJ×AJ×Int
abbrev aJ:aF->Dt:=EE eI eS eS eI
abbrev qK:Type:=AJ×AJ×Int
abbrev Ao:qK->Dt:=EF eS eS eI
abbrev fU:Type:=AZ×(Z aF)×(Z qK)
abbrev bV:fU->Dt:=EF (eT eS) (eT aJ) (eT Ao)
abbrev nJ:Type:=AJ×AJ
abbrev uF:nJ->Dt:=Xy eS eS
abbrev CV:Type:=Int×Dt
def Ug:Z Dt:=[Dt.non,(Dt.bl true),(Dt.int 0),(Dt.str ""),(Dt.str "Zz"),((eL eS) [("a":AJ)]),Dt.emp,(Dt.tup [(Dt.str "a")]),(Dt.str "aaaaaaaaaaaaaaaaaaaa"),(Dt.int 1)]
def top(i:Nat):AB:=PySem.Challenge.pw_onefolk_k14_why_two_are_one.main.body.getD i (.Pass ⟨0,0,0,0⟩)
abbrev Hf:AB:=top 25
abbrev wX:AB:=top 26
abbrev BW:AB:=top 30
abbrev BX:AB:=top 27
abbrev zu:AB:=top 28
abbrev BZ:AB:=top 31
abbrev Ca:AB:=top 29
abbrev Hg:AB:=top 32
abbrev Kd:AB:=top 33
abbrev zx:AB:=top 13
abbrev Ke:AB:=top 12
abbrev jc:AB:=top 15
abbrev zy:AB:=top 16
abbrev zA:AB:=top 17
abbrev zB:AB:=top 19
abbrev Cd:AB:=top 23
abbrev Hh:AB:=top 22
abbrev QD:AB:=top 21
abbrev wB:AB:=top 20
abbrev Cg:AB:=top 38
abbrev um:AB:=top 34
abbrev zF:AB:=top 35
abbrev qL:AB:=top 37
abbrev q9:AB:=top 39
abbrev s_law:AB:=top 40
def fuel:Nat:=32
def wY:Ev->O An:=(aD (aD (At 2 (b2 fj (b2 dH (b2 uU (gv 2) (cB (.int 69621))) (gv 3)) (cB (.int 2147483647)))) fB) (cT [3]))
def sU:Ev->O An:=(aD (xH (vZ EM (gv 1) (cg uW (ao (gv 0) aH))) (aD (jw (b2 gK (gv 0) (gv 1))) fB) fB) (aD (At 2 (b2 fj (b2 uU (cB (.int 48271)) (b2 dH (b2 dH (b2 uU (gv 1) (gv 1)) (b2 uU (cB (.int 7)) (gv 1))) (cB (.int 11)))) (cB (.int 2147483647)))) (aD (pI (EH (Gb (gv 0) iM (jO (cB (.int 3))))) (mz 3) wY) (aD (jw (gv 2)) fB))))
def fW:Z Bx->O Bx:=dY 4 sU
def lF:Ev->O An:=(aD (aD (At 3 (b2 fj (b2 dH (b2 dH (b2 uU (gv 3) (b2 dH (b2 fj (gv 3) (cB (.int 65521))) (cB (.int 40487)))) (b2 uU (cB (.int 7)) (gv 5))) (cB (.int 5))) (cB (.int 1999999973)))) (aD (xM 2 (b2 gK (cg gY (ao (gv 3) (ao (b2 fj (gv 4) (cB (.int 1000000))) aH))) (cg Sx (ao (b2 FY (gv 4) (cB (.int 0))) aH)))) (aD (At 4 (b2 yI (gv 4) (cB (.int 1000000)))) fB))) (cT [5]))
def lR:Ev->O An:=(aD (At 2 (cg gY aH)) (aD (At 3 (b2 fj (b2 uU (b2 dH (b2 fj (gv 0) (cB (.int 1999999973))) (cB (.int 31))) (cB (.int 765432101))) (cB (.int 1999999973)))) (aD (At 4 (cB (.int 0))) (aD (xH (D9 (vZ EM (gv 0) (cB (.int 0))) (vZ GL (gv 0) (b2 Ha (cB (.int 10)) (cB (.int 18))))) (aD (aD (At 4 (cg ZK (ao (gv 0) aH))) fB) (cT [])) (aD fB (cT []))) (aD (pI (O7 (ao (gv 1) aH)) (mz 5) lF) (aD (CG 2) fB))))))
def cY:Z Bx->O Bx:=dY 6 lR
def vG:Ev->O An:=(aD (aD (ZM 8 9 (ao (b2 gK (gv 5) (gv 7)) (ao (b2 gK (gv 5) (b2 fj (b2 dH (gv 7) (cB (.int 1))) (cB (.int 30)))) aH))) (aD (At 10 (b2 gK (cg gY (ao (cB (.int 5)) (ao (b2 C5 (cB (.int 1000)) (gv 7)) (ao (b1 vW (b2 dH (cB (.int 1)) (gv 7))) (ao (b1 vW (b2 dH (cB (.int 1)) (b2 fj (b2 uU (gv 7) (gv 7)) (cB (.int 9))))) aH))))) (b2 fj (gv 2) (cB (.int 4))))) (aD (xM 6 (cg qR (ao (b2 C5 (cB (.int 0)) (gv 10)) (ao (b1 vW (cg u9 (ao (gv 8) (ao (gv 9) aH)))) (ao (b1 vW (cg Qg (ao (gv 8) (ao (gv 9) aH)))) (ao (b2 fj (gv 7) (cB (.int 3))) aH)))))) fB))) (cT [7,8,9,10]))
def pW:Ev->O An:=(aD (At 3 (cB (.str "abcd"))) (aD (At 4 (gB (O7 (ao (cB (.int 30)) aH)) (mz 1) rR (b2 uU (b2 gK (gv 0) (b2 yI (gv 1) (cB (.int 8)))) (b2 dH (cB (.int 1)) (b2 fj (gv 1) (cB (.int 8))))) [3] 1)) (aD (At 5 (gB (O7 (ao (cB (.int 30)) aH)) (mz 2) rR (b2 gK (gv 0) (b2 fj (b2 dH (b2 uU (cB (.int 7)) (gv 2)) (gv 1)) (cB (.int 30)))) [4,1] 1)) (aD (At 6 (cg gY aH)) (aD (pI (O7 (ao (b2 dH (cB (.int 29)) (b2 fj (gv 0) (cB (.int 2)))) aH)) (mz 7) vG) (aD (jw (cg qR (ao (cg lB (ao (cg Bq (ao (gv 4) aH)) aH)) (ao (cg lB (ao (gB (Io (cg u0 (ao (gv 6) aH))) (wO 4 (dW (mz 0) (dW (mz 1) (dW (mz 2) (dW (mz 3) Bl))))) rR (cg qR (ao (b2 C5 (cB (.int 0)) (gv 0)) (ao (gv 1) (ao (gv 2) (ao (gv 3) aH))))) [] 4) aH)) (ao (cg qR aH) aH))))) fB))))))
def pX:Z Bx->O Bx:=dY 11 pW
def pA:Ev->O An:=(aD (aD (At 7 (b2 gK (gv 2) (b2 fj (b2 dH (gv 6) (b2 gK (gv 0) (cB (.int 2)))) (cB (.int 15))))) (aD (At 8 (b2 dH (b2 dH (Gb (gv 3) iM (jO (gv 4))) (gv 7)) (Gb (gv 3) (jO (gv 4)) iM))) (aD (xH (vZ BQ (b2 fj (b2 gK (gv 0) (cB (.int 3))) (cB (.int 3))) (cB (.int 1))) (aD (aD (At 8 (b2 uU (b2 gK (gv 2) (b2 yI (gv 6) (cB (.int 8)))) (b2 dH (cB (.int 1)) (b2 fj (gv 6) (cB (.int 8)))))) fB) (cT [])) (aD fB (cT []))) (aD (xM 5 (gv 8)) fB)))) (cT [6,7,8]))
def pY:Ev->O An:=(aD (At 2 (cB (.str "abcdefghijklmnopqrstuvwxyz"))) (aD (At 3 (b1 (O9 "") (gB (O7 (ao (b2 fj (b2 gK (gv 0) (cB (.int 0))) (cB (.int 6))) aH)) (mz 2) rR (b2 gK (gv 0) (b2 fj (b2 yI (b2 gK (gv 1) (gv 2)) (cB (.int 40))) (cB (.int 26)))) [2,0] 1))) (aD (At 4 (b2 fj (b2 gK (gv 0) (cB (.int 1))) (b2 dH (cg uW (ao (gv 3) aH)) (cB (.int 1))))) (aD (At 5 (cg gY aH)) (aD (pI (O7 (ao (gv 1) aH)) (mz 6) pA) (aD (CG 5) fB))))))
def mH:Z Bx->O Bx:=dY 9 pY
def mV:Ev->O An:=(aD (aD (At 9 (cj 2 cY (ao (b1 vW (cj 2 fW (ao (gv 0) (ao (b1 vW (b2 dH (b2 dH (gv 1) (cB (.int 1))) (gv 8))) aH)))) (ao (cB (.int 4)) aH)))) (aD (ZM 10 11 (ao (b2 fj (b2 gK (gv 9) (cB (.int 0))) (cg CP (ao (cB (.int 1)) (ao (gv 2) aH)))) (ao (b2 fj (b2 gK (gv 9) (cB (.int 1))) (cg CP (ao (cB (.int 1)) (ao (gv 2) aH)))) aH))) (aD (At 12 (b2 gK (cg gY (ao (b1 vW (b2 dH (cB (.int 1)) (b2 fj (b2 gK (gv 9) (cB (.int 2))) (cB (.int 3))))) (ao (b1 vW (b2 dH (cB (.int 1)) (b2 fj (b2 gK (gv 9) (cB (.int 2))) (cB (.int 9))))) (ao (b1 vW (b2 dH (cB (.int 1)) (b2 fj (b2 gK (gv 9) (cB (.int 2))) (cB (.int 1000))))) aH)))) (b2 fj (b2 gK (gv 5) (cB (.int 4))) (cB (.int 3))))) (aD (xH (vZ Sq (gv 10) (gv 11)) (aD (aD (xM 7 (cg qR (ao (b2 C5 (cB (.int 0)) (gv 12)) (ao (b2 gK (gv 6) (cg W6 (ao (gv 10) (ao (gv 11) aH)))) (ao (b2 gK (gv 6) (cg CP (ao (gv 10) (ao (gv 11) aH)))) (ao (b2 gK (cg gY (ao (cB (.int 0)) (ao (cB (.int 2)) (ao (cB (.int 10)) aH)))) (b2 fj (b2 gK (gv 9) (cB (.int 3))) (cB (.int 3)))) aH)))))) fB) (cT [])) (aD fB (cT []))) fB)))) (cT [8,9,10,11,12]))
def mX:Ev->O An:=(aD (aD (At 9 (cj 2 cY (ao (b1 vW (cj 2 fW (ao (gv 0) (ao (b1 vW (b2 dH (b2 dH (gv 1) (cB (.int 1))) (gv 8))) aH)))) (ao (cB (.int 8)) aH)))) (aD (ZM 10 11 (ao (b2 fj (b2 gK (gv 9) (cB (.int 5))) (cg CP (ao (cB (.int 1)) (ao (gv 2) aH)))) (ao (b2 fj (b2 gK (gv 9) (cB (.int 6))) (cg CP (ao (cB (.int 1)) (ao (gv 2) aH)))) aH))) (aD (xH (vZ Sq (gv 10) (gv 11)) (aD (aD (xM 14 (cg qR (ao (b2 gK (gv 6) (cg W6 (ao (gv 10) (ao (gv 11) aH)))) (ao (b2 gK (gv 6) (cg CP (ao (gv 10) (ao (gv 11) aH)))) (ao (b2 gK (cg gY (ao (cB (.int 2)) (ao (cB (.int 10)) aH))) (b2 fj (b2 gK (gv 9) (cB (.int 7))) (cB (.int 2)))) aH))))) fB) (cT [])) (aD fB (cT []))) fB))) (cT [8,9,10,11]))
def nM:Ev->O An:=(aD (At 5 (cj 2 cY (ao (b1 vW (cj 2 fW (ao (gv 0) (ao (gv 1) aH)))) (ao (cB (.int 6)) aH)))) (aD (At 6 (cg Bq (ao (cj 2 mH (ao (gv 5) (ao (gv 2) aH))) aH))) (aD (At 7 (cg gY aH)) (aD (pI (O7 (ao (gv 3) aH)) (mz 8) mV) (aD (At 13 (gB (Io (Gs (Tj (gv 7)))) (wO 4 (dW (mz 0) (dW (mz 1) (dW (mz 2) (dW (mz 3) Bl))))) rR (cg qR (ao (b2 C5 (cB (.int 0)) (gv 0)) (ao (gv 1) (ao (gv 2) (ao (gv 3) aH))))) [] 4)) (aD (At 14 (cg gY aH)) (aD (pI (O7 (ao (gv 4) aH)) (mz 8) mX) (aD (jw (cg qR (ao (cg lB (ao (gv 6) aH)) (ao (cg lB (ao (gv 13) aH)) (ao (cg lB (ao (Gs (Tj (gv 14))) aH)) aH))))) fB))))))))
def nO:Z Bx->O Bx:=dY 15 nM
def pZ:Ev->O An:=(aD (At 1 (cj 2 cY (ao (b1 vW (cj 2 fW (ao (gv 0) (ao (cB (.int 0)) aH)))) (ao (cB (.int 12)) aH)))) (aD (xH (vZ BQ (b2 fj (b2 gK (gv 1) (cB (.int 9))) (cB (.int 16))) (cB (.int 5))) (aD (jw (cj 3 pX (ao (b2 yI (b2 gK (gv 1) (cB (.int 9))) (cB (.int 16))) (ao (b2 gK (gv 1) (cB (.int 10))) (ao (b2 gK (gv 1) (cB (.int 11))) aH))))) fB) fB) (aD (At 2 (b2 fj (b2 gK (gv 1) (cB (.int 6))) (cB (.int 15)))) (aD (jw (cj 5 nO (ao (gv 0) (ao (cB (.int 0)) (ao (gv 2) (ao (b2 fj (b2 gK (gv 1) (cB (.int 7))) (cB (.int 22))) (ao (b2 fj (b2 gK (gv 1) (cB (.int 8))) (cB (.int 4))) aH))))))) fB))))
def qb:Z Bx->O Bx:=dY 3 pZ
def vH:Ev->O An:=(aD (aD (At 7 (b2 gK (gB (Io (gv 2)) (mz 1) (vZ CC (gv 0) (gv 1)) (gv 1) [4] 1) (cB (.int 0)))) (aD (At 8 (b2 gK (gB (Io (gv 2)) (mz 1) (vZ CC (gv 0) (gv 1)) (gv 1) [5] 1) (cB (.int 0)))) (aD (xH (vZ Sq (gv 7) (gv 8)) (aD (aD (At 2 (b2 dH (gB (Io (gv 2)) (mz 2) (vZ Mf (gv 2) (cg gY (ao (gv 0) (ao (gv 1) aH)))) (gv 2) [7,8] 1) (cg gY (ao (b1 vW (cg Bq (ao (b2 dH (gv 7) (gv 8)) aH))) aH)))) fB) (cT [])) (aD fB (cT []))) fB))) (cT [3,4,5,6,7,8]))
def qd:Ev->O An:=(aD (At 2 (gB (Io (gv 0)) (mz 0) rR (b1 vW (cg gY (ao (gv 0) aH))) [] 1)) (aD (qU 1 (wO 4 (dW (mz 3) (dW (mz 4) (dW (mz 5) (dW (mz 6) Bl))))) vH) (aD (jw (cg u0 (ao (gB (Io (gv 2)) (mz 0) rR (cg lB (ao (gv 0) aH)) [] 1) aH))) fB)))
def qe:Z Bx->O Bx:=dY 9 qd
def wZ:Ev->O An:=(aD (aD (At 4 (cj 2 qe (ao (gv 0) (ao (gv 2) aH)))) (aD (xH (Ij (tV (cg Cf (ao (gB (Io (gv 4)) (mz 1) rR (Om (b2 CC (b2 gK (gv 0) (cB (.int 1))) (gv 1)) (b2 CC (b2 gK (gv 0) (cB (.int 2))) (gv 1))) [3] 1) aH)))) (aD (aD (xM 2 (gv 3)) fB) (cT [])) (aD fB (cT []))) fB)) (cT [3,4]))
def sV:Ev->O An:=(aD (At 2 (cg gY aH)) (aD (qU 1 (mz 3) wZ) (aD (CG 2) fB)))
def sW:Z Bx->O Bx:=dY 5 sV
def wD(rz:Z Bx->O Bx):Ev->O An:=(aD (xH (vZ BQ (gv 1) (gv 2)) (aD (jw (b1 vW (cg gY aH))) fB) fB) (aD (qU 0 (mz 4) (aD (aD (xH (Ol (vZ Mf (gv 4) (gv 3)) (vZ CC (gv 1) (Gb (gv 4) (jO (cB (.int 1))) (jO (cB (.int 3)))))) (aD (At 5 (b2 gK (gv 4) (b2 dH (cB (.int 1)) (cg Sx (ao (b2 BQ (b2 gK (gv 4) (cB (.int 1))) (gv 1)) aH))))) (aD (At 6 (cj 4 rz (ao (gv 0) (ao (gv 5) (ao (gv 2) (ao (b1 vW (b2 dH (gv 3) (cg gY (ao (gv 4) aH)))) aH)))))) (aD (xH (vZ Bo (gv 6) (cB .non)) (aD (jw (b1 vW (b2 dH (cg gY (ao (gv 4) aH)) (gv 6)))) fB) fB) fB))) fB) fB) (cT [4,5,6]))) (aD (jw (cB .non)) fB)))
def iw:Nat->Z Bx->O Bx
 |0=>dY 7 λ_=>Y
 |n+1=>dY 7 (wD (iw n))
def rz:Z Bx->O Bx:=iw fuel
def nP:Ev->O An:=(aD (jw (Om (JM lA (gv 0)) (Om (F8 Fa Fa (cB (.int 1)) (cg uW (ao (gv 0) aH)) (gv 2)) (cg CL (ao (gB (Io (gv 0)) (mz 1) rR (b2 CC (gv 1) (gv 0)) [1] 1) aH))))) fB)
def nQ:Z Bx->O Bx:=dY 3 nP
def wF:Ev->O An:=(aD (jw (cj 3 nQ (ao (gv 0) (ao (cB (.str "abcdefghijklmnopqrstuvwxyz")) (ao (cB (.int 8)) aH))))) fB)
def lG:Z Bx->O Bx:=dY 1 wF
def jd:Ev->O An:=(aD (aD (xH (D9 (Ij (tV (cj 1 lG (ao (gv 1) aH)))) (vZ ZD (gv 1) (b2 gK (gv 0) (cB (.int 0))))) (aD IP fB) fB) fB) (cT []))
def bR:Z Bx->O Bx:=dY 2 jd
def nR:Ev->O An:=(aD (jw (Vy (Io (gv 0)) (mz 0) rR (gv 0) (gv 0) [] 1)) fB)
def nU:Z Bx->O Bx:=dY 1 nR
def uo:Ev->O An:=(aD (aD (xH (D9 (vZ BQ (b2 ud (gv 0) (gv 4)) (gv 1)) (vZ BQ (b2 ud (gv 0) (gv 4)) (gv 2))) (aD (aD (Vk 0 (gv 3) (gv 4)) fB) (cT [])) (aD fB (cT []))) fB) (cT [4]))
def nW:Ev->O An:=(aD (aD (At 3 (cg u9 (ao (gv 1) (ao (gv 2) aH)))) (aD (pI (EH (cg Gx (ao (gv 0) aH))) (mz 4) uo) fB)) (cT [3,4]))
def j6:A1->Z (AY×Dt)->Z Bx->O (Z (AY×Dt)):=Qh 5 nW
def uq:Ev->O An:=(aD (aD (At 7 (b2 ud (gv 4) (b2 gK (gv 6) (cB (.int 1))))) (aD (At 8 (b2 ud (gv 4) (b2 gK (gv 6) (cB (.int 2))))) (aD (xH (vZ Sq (gv 7) (gv 8)) (aD (aD (Gz 4 2 j6 (ao (gv 7) (ao (gv 8) aH))) (aD (xM 5 (gv 6)) fB)) (cT [])) (aD fB (cT []))) fB))) (cT [6,7,8]))
def nY:Ev->O An:=(aD (Hc (wO 3 (dW (mz 1) (dW (mz 2) (dW (mz 3) Bl)))) (gv 0)) (aD (At 4 (cj 1 nU (ao (gv 1) aH))) (aD (At 5 (cg gY aH)) (aD (qU 2 (mz 6) uq) (aD (CG 5) fB)))))
def nZ:Z Bx->O Bx:=dY 9 nY
def qg:Ev->O An:=(aD (xH (vZ BQ (b2 gK (gv 0) (cB (.int 1))) (gv 1)) (aD (jw (b2 gK (gv 0) (cB (.int 2)))) fB) fB) (aD (xH (vZ BQ (b2 gK (gv 0) (cB (.int 2))) (gv 1)) (aD (jw (b2 gK (gv 0) (cB (.int 1)))) fB) fB) (aD (jw (cB .non)) fB)))
def jQ:Z Bx->O Bx:=dY 2 qg
def w5:Ev->O An:=(aD (aD (xM 2 (b2 ud (gv 0) (gv 3))) (aD (At 3 (cj 2 jQ (ao (b2 ud (gv 0) (gv 3)) (ao (gv 3) aH)))) fB)) (cT []))
def sX:Ev->O An:=(aD (At 2 (cg gY aH)) (aD (At 3 (gv 1)) (aD (Xr (vZ Bo (b2 ud (gv 0) (gv 3)) (cB .non)) w5 70) (aD (CG 2) fB))))
def sY:Z Bx->O Bx:=dY 4 sX
def Ci:Ev->O An:=(aD (aD (At 7 (cj 2 jQ (ao (gv 6) (ao (gv 5) aH)))) (aD (xH (Ol (vZ Bo (gv 7) (cB .non)) (vZ Xw (gv 7) (gv 3))) (aD (aD (Vk 3 (gv 6) (gv 7)) (aD (xM 4 (gv 7)) fB)) (cT [])) (aD fB (cT []))) fB)) (cT [6,7]))
def Cj:Ev->O An:=(aD (aD (FC 5 4 (cB (.int 0))) (aD (qU 0 (mz 6) Ci) fB)) (cT [5,6,7]))
def zG:Ev->O An:=(aD (At 3 (b2 J2 (gv 1) (cB .non))) (aD (At 4 (cg gY (ao (gv 1) aH))) (aD (Xr (tV (gv 4)) Cj 70) (aD (xH (vZ Xw (gv 2) (gv 3)) (aD (jw (cB .non)) fB) fB) (aD (jw (b2 Tv (cj 2 sY (ao (gv 3) (ao (gv 2) aH))) (b1 W3 (cB (.int 1))))) fB)))))
def zH:Z Bx->O Bx:=dY 8 zG
def wG:Ev->O An:=(aD (BK (cj 2 bR (ao (gv 0) (ao (gv 1) aH)))) (aD (BK (cj 2 bR (ao (gv 0) (ao (gv 2) aH)))) (aD (jw (cj 3 zH (ao (b1 vW (cj 1 nZ (ao (gv 0) aH))) (ao (gv 1) (ao (gv 2) aH))))) fB)))
def oU:Z Bx->O Bx:=dY 3 wG
def qj:Ev->O An:=(aD (At 4 (cj 4 rz (ao (gv 1) (ao (gv 2) (ao (gv 3) (ao (b1 vW (cg gY aH)) aH)))))) (aD (At 5 (cj 3 oU (ao (gv 0) (ao (gv 2) (ao (gv 3) aH))))) (aD (xH (D9 (vZ Sq (gv 5) (gv 4)) (Ol (vZ Bo (gv 4) (cB .non)) (Ij (tV (JM BN (gv 5)))))) (aD (jw (cB (.bl false))) fB) fB) (aD (At 6 (cj 3 oU (ao (gv 0) (ao (gv 3) (ao (gv 2) aH))))) (aD (xH (vZ DA (gv 4) (cB .non)) (aD (jw (b2 DA (gv 6) (cB .non))) fB) fB) (aD (xM 5 (cB .non)) (aD (jw (Om (b2 BQ (gv 6) (b2 Tv (gv 4) (b1 W3 (cB (.int 1))))) (b2 BQ (cj 3 oU (ao (gv 0) (ao (gv 2) (ao (gv 3) aH)))) (gv 4)))) fB)))))))
def qm:Z Bx->O Bx:=dY 7 qj
def jF:Ev->O An:=(aD (At 1 (cg gY (ao (cB .non) (ao (cB (.bl true)) (ao (cB (.int 0)) (ao (cB (.str "")) (ao (cB (.str "Zz")) (ao (b1 vW (cg gY (ao (cB (.str "a")) aH))) (ao (cB .emp) (ao (cg qR (ao (cB (.str "a")) aH)) (ao (cB (.str "aaaaaaaaaaaaaaaaaaaa")) (ao (cB (.int 1)) aH)))))))))))) (aD (jw (b2 dH (b2 dH (gv 1) (gB (Io (Gb (gv 0) iM (jO (cB (.int 1))))) (mz 0) rR (b1 vW (b2 dH (gv 0) (cB (.str "q")))) [] 1)) (gB (Io (Gb (gv 0) iM (jO (cB (.int 1))))) (mz 0) rR (b1 vW (cg gY (ao (gv 0) aH))) [] 1))) fB))
def jG:Z Bx->O Bx:=dY 2 jF
def n6:Ev->O An:=(aD (At 3 (cB (.str "abcdefghijklmnopqrstuvwxyz0123456789 ABCDEFGHIJKLMNOPQRSTUVWXYZ"))) (aD (At 3 (b2 dH (gv 3) (cB (.str "!#$&'()*+,-./:;<=>?\x40[]^_`{|}~\"\\")))) (aD (At 4 (b2 gK (gv 3) (b2 fj (b2 yI (gv 2) (cB (.int 6))) (b2 gK (cg gY (ao (cB (.int 36)) (ao (cB (.int 94)) aH))) (b2 fj (b2 yI (gv 2) (cB (.int 3))) (cB (.int 2))))))) (aD (At 5 (b2 fj (gv 1) (b2 dH (cg uW (ao (gv 0) aH)) (cB (.int 1))))) (aD (jw (b2 gK (cg gY (ao (b1 vW (b2 dH (b2 dH (Gb (gv 0) iM (jO (gv 5))) (gv 4)) (Gb (gv 0) (jO (gv 5)) iM))) (ao (b1 vW (b2 dH (b2 dH (Gb (gv 0) iM (jO (gv 5))) (gv 4)) (Gb (gv 0) (jO (b2 dH (gv 5) (cB (.int 1)))) iM))) (ao (b1 vW (b2 dH (Gb (gv 0) iM (jO (gv 5))) (Gb (gv 0) (jO (b2 dH (gv 5) (cB (.int 1)))) iM))) aH)))) (b2 fj (gv 2) (cB (.int 3))))) fB)))))
def n8:Z Bx->O Bx:=dY 6 n6
def HM:Ev->O Bool:=D9 (Ij (tV (cj 1 lG (ao (gv 1) aH)))) (vZ ZD (gv 1) (b2 gK (gv 0) (cB (.int 0))))
def rA:Ev->O Dt:=IS HM (IZ (λ_=>true) (gv 1)) (λ_=>Y)
def Dx(g1 g2:Ev->O Dt):Ev->O Dt:=λρ=>match g1 ρ with
 |some d=>U d
 |none=>g2 ρ
def Ck:Ev->O Dt:=Dx (Kc 2 (nG 2 rA) (ao (gv 0) (ao (gv 1) aH))) (V6 (BK (cj 2 bR (ao (gv 0) (ao (gv 1) aH)))) (Kc 2 (nG 2 rA) (ao (gv 0) (ao (gv 2) aH))))
def QF:Bx->O Bx
 |.z (.bl true)=>U (.z (.bl true))
 |_=>Y
def dM:Z Bx->O Bx
 |[b0,b1,b2,b3]=>(nG 3 Ck [b0,b1,b2]).bind λd=>(BQ (.z d) b3).bind QF
 |_=>Y
def je:Ev->O An:=(aD (jw (Om (cj 4 dM (ao (gv 0) (ao (gv 1) (ao (gv 2) (ao (gv 1) aH))))) (cj 4 dM (ao (gv 0) (ao (gv 2) (ao (gv 1) (ao (gv 1) aH))))))) fB)
def jf:Z Bx->O Bx:=dY 3 je
def QG:Ev->O An:=(aD (aD (F2 7 (gB (Io (gv 2)) (mz 1) rR (cg qR (ao (gv 0) (ao (gv 1) aH))) [8] 1)) fB) (cT [8]))
def QH:Ev->O An:=(aD (aD (xH (Ij (tV (cj 4 dM (ao (gv 1) (ao (gv 11) (ao (gv 13) (ao (gv 11) aH))))))) (aD (jw (cB (.bl false))) fB) fB) fB) (cT [13]))
def QJ:Ev->O An:=(aD (aD (xH (vZ Mf (gv 11) (gv 2)) (aD (At 12 (b2 gK (gv 9) (b2 fj (b2 dH (b2 dH (gv 10) (cB (.int 1))) (b2 fj (b2 gK (gv 4) (cB (.int 4))) (cB (.int 9)))) (cg uW (ao (gv 9) aH))))) (aD (pI (EH (cg gY (ao (cB (.str "other")) (ao (gv 11) (ao (gv 12) aH))))) (mz 13) QH) (aD (At 14 (b2 gK (b2 dH (gv 2) (cg gY (ao (cB (.str "")) aH))) (b2 fj (b2 gK (gv 4) (cB (.int 5))) (cg CP (ao (cB (.int 1)) (ao (cg uW (ao (gv 2) aH)) aH)))))) (aD (xH (Ol (vZ Sq (gv 2) (cg gY aH)) (Ij (tV (cj 3 jf (ao (gv 1) (ao (gv 11) (ao (gv 14) aH))))))) (aD (jw (cB (.bl false))) fB) fB) fB)))) fB) fB) (cT [10,11,12,13,14]))
def V9:Ev->O An:=(aD (At 1 (cj 1 qb (ao (gv 0) aH))) (aD (At 2 (cg O6 (ao (b2 gK (gv 1) (cB (.int 0))) aH))) (aD (At 3 (cj 2 sW (ao (b2 gK (gv 1) (cB (.int 0))) (ao (b2 gK (gv 1) (cB (.int 1))) aH)))) (aD (At 4 (Gb (cj 2 cY (ao (b1 vW (cj 2 fW (ao (gv 0) (ao (cB (.int 0)) aH)))) (ao (cB (.int 18)) aH))) (jO (cB (.int 12))) iM)) (aD (At 5 (b2 fj (b2 gK (gv 4) (cB (.int 0))) (cg CP (ao (cB (.int 1)) (ao (cg uW (ao (gv 2) aH)) aH))))) (aD (At 6 (b2 gK (cg gY (ao (cB (.int 100)) (ao (cB (.int 40)) aH))) (cg Sx (ao (b2 FY (cg uW (ao (gv 2) aH)) (cB (.int 14))) aH)))) (aD (At 7 (cg gY aH)) (aD (pI (EH (b2 dH (Gb (gv 2) (jO (gv 5)) iM) (Gb (gv 2) iM (jO (gv 5))))) (mz 8) QG) (aD (xH (Ij (tV (cg CL (ao (gB (Io (Gb (gv 7) iM (jO (gv 6)))) (mz 2) rR (b1 vW (cj 4 qm (ao (gv 0) (ao (gv 1) (ao (b2 gK (gv 2) (cB (.int 0))) (ao (b2 gK (gv 2) (cB (.int 1))) aH)))))) [1,3] 1) aH)))) (aD (jw (cB (.bl false))) fB) fB) (aD (At 9 (cj 1 jG (ao (gv 2) aH))) (aD (xH (vZ Sq (gv 2) (cg gY aH)) (aD (aD (xM 9 (b1 vW (cj 3 n8 (ao (b2 gK (gv 2) (b2 fj (b2 gK (gv 4) (cB (.int 1))) (cg uW (ao (gv 2) aH)))) (ao (b2 gK (gv 4) (cB (.int 2))) (ao (b2 gK (gv 4) (cB (.int 3))) aH)))))) fB) (cT [])) (aD fB (cT []))) (ER 9 (aD (pI (ID (ao (gv 9) aH)) (wO 2 (dW (mz 10) (dW (mz 11) Bl))) QJ) (aD (jw (cB (.bl true))) fB))))))))))))))
def F_law:Z Bx->O Bx:=dY 15 V9
end
end G14
end
section
set_option synthInstance.maxSize 100000
namespace G14
open L2 P1
abbrev sZ:AB:=top 36
abbrev Uh:AB:=match top 2 with
 |.ClassDef _ _ _ b _ _ _ _ _ _ _=>b.getD 0 (.Pass ⟨0,0,0,0⟩)
 |s=>s
section
variable{fdI:FuncData}{FE c0 c1 c2 c3 c4 c5 c6 f_o:A1}{aep:FuncData}
def NG(D:A1)(n:Nat):A1->Z V->Hp->VK->Prop:=λa vs H Q=>vs=[.ref a,.int n]/\∃(d:A1) (fs:Z (AJ×V)),H a=U (Yz a D d)/\H d=U (.xd fs)/\∀H',AV H H'->Q (.bl true) H'
theorem Wa:bB ["_law_e","_law_at","_law_kinds"] ["_law_e","_law_at"] (aG sZ):=j4
theorem VS(F:Bj K "_law_only" "_law_only" sZ f_o aep)(N:uh K D=true)(m0:mg "NoName"=U (.ref c0))(m1:mg "NoText"=U (.ref c1))(m2:mg "NoReason"=U (.ref c2))(m3:mg "NoUndo"=U (.ref c3))(m4:mg "NoRoom"=U (.ref c4))(m5:mg "NoStep"=U (.ref c5))(m6:mg "NoRow"=U (.ref c6))(X:mg "FolkError"=U (.ref FE))
  (h0:kitOne K (.ref D) (.ref c0)=U true) (h1:kitOne K (.ref D) (.ref c1)=U false) (h2:kitOne K (.ref D) (.ref c2)=U false) (W:kitOne K (.ref D) (.ref c3)=U false) (h4:kitOne K (.ref D) (.ref c4)=U false) (h5:kitOne K (.ref D) (.ref c5)=U false) (h6:kitOne K (.ref D) (.ref c6)=U false)
  (hF:kitOne K (.ref D) (.ref FE)=U true) (b0:kitOne K (.ref D) (.type "ValueError")=U true) (f:mg "isinstance"=Y) (a1:mg "ValueError"=Y) (j7:mg "range"=Y):
  V7 P w K mg base 1 f_o aep ["_law_e","_law_at"] (NG D 0):=by
 refine Bj.okH (k:=0) F Wa (λa vs H Q h=>by rw[h.1];rfl) λa0 a A outer s H vs Q B a3=>?_;have L:=Wa.nd;have I:(A.deeper (AK "_law_only" (aG sZ) s.heap.objs.size f_o a0)).units+100<cLine:=by have:=B.un;omega
 have g:∀C,C∈[D]->uh K C=true:=λC z=>by rw[List.mem_singleton.mp z];exact N
 refine⟨_,(by exact(qP (zV (i:=2) L S (.inl S) (RT (bw (gq (j5 (Cs:=[D]) g) S f S (bw (pv 0) (bw (jY (v:=.ref c0) S m0 S) d7))) (bw (gq (j5 (Cs:=[D]) g) S f S (bw (pv 0) (bw (jY (v:=.ref c1) S m1 S) d7))) (bw (gq (j5 (Cs:=[D]) g) S f S (bw (pv 0) (bw (jY (v:=.ref c2) S m2 S) d7))) (bw (gq (j5 (Cs:=[D]) g) S f S (bw (pv 0) (bw (jY (v:=.ref c3) S m3 S) d7))) d7)))))) (qP (zV (i:=2) L S (.inl S) (LD UE (pv 2) (RT (bw (gq (j5 (Cs:=[D]) g) S f S (bw (pv 0) (bw (jY (v:=.ref c4) S m4 S) d7))) (bw (gq (j5 (Cs:=[D]) g) S f S (bw (pv 0) (bw (jY (v:=.ref c5) S m5 S) d7))) (bw (gq (j5 (Cs:=[D]) g) S f S (bw (pv 0) (bw (jY (v:=.ref c6) S m6 S) d7))) d7))))))
  (Ds (Kr (Kq (gq (j5 (Cs:=[D]) g) S f S (bw (pv 0) (bw (jY (v:=.ref FE) S X S) d7))) (Kq (gq (j5 (Cs:=[D]) g) S f S (bw (pv 0) (bw (Ko (v:=.ty "ValueError") S a1 S S) d7))) (Rz (Ku (of_eq I) (pv 2) (P3 (e:=a) ["_law_k"] 7 (by decide) (uD ["_law_at"] [1]) B.hd S j7 (bw Ry d7) (λ_ _ _ q=>q) (λ_ _ _ _=>(bf 1 (by show List.Nodup (_++_);decide +kernel)).run) (λ_ _ _ _=>cV.run) (λ_ _ _ _=>(qF (of_eq I) (ak 1) (ak 0) (cU _)).run) cW) (cU _)))))))))),?_⟩
 obtain⟨rfl,d,fs,ea,l,q⟩:=a3;refine⟨.ref a,rfl,a,D,d,fs,_,_,List.mem_singleton.mpr rfl,rfl,ea,l,.inl ⟨c0,rfl,h0⟩,?_⟩;refine⟨.ref a,rfl,a,D,d,fs,_,_,List.mem_singleton.mpr rfl,rfl,ea,l,.inl ⟨c1,rfl,h1⟩,?_⟩;refine⟨.ref a,rfl,a,D,d,fs,_,_,List.mem_singleton.mpr rfl,rfl,ea,l,.inl ⟨c2,rfl,h2⟩,?_⟩;refine⟨.ref a,rfl,a,D,d,fs,_,_,List.mem_singleton.mpr rfl,rfl,ea,l,.inl ⟨c3,rfl,W⟩,?_⟩;refine⟨(show 4<=AA by decide +kernel),λp hp=>?_⟩;have u:AV H (B0 H p (.lst [.bl true,.bl false,.bl false,.bl false])):=bI hp;have n:=u _ _ ea;have m:=u _ _ l;refine⟨.ref p,rfl,?_⟩;refine⟨.ref a,rfl,a,D,d,fs,_,_,List.mem_singleton.mpr rfl,rfl,n,m,.inl ⟨c4,rfl,h4⟩,?_⟩;refine⟨.ref a,rfl,a,D,d,fs,_,_,List.mem_singleton.mpr rfl,rfl,n,m,.inl ⟨c5,rfl,h5⟩,?_⟩;refine⟨.ref a,rfl,a,D,d,fs,_,_,List.mem_singleton.mpr rfl,rfl,n,m,.inl ⟨c6,rfl,h6⟩,?_⟩;refine⟨(show 3<=AA by decide +kernel),λp2 a2=>?_⟩;have G:=bI (o:=.lst [.bl false,.bl false,.bl false]) a2;refine⟨p,p2,[.bl true,.bl false,.bl false,.bl false],[.bl false,.bl false,.bl false],rfl,rfl,G _ _ aU,aU,(show 7<=AA by decide +kernel),λp3 b3=>?_⟩;have M:=bI (o:=.lst ([V.bl true,.bl false,.bl false,.bl false]++[.bl false,.bl false,.bl false])) b3;have t:=u.trans (G.trans M);have x:=t _ _ ea;have E:=t _ _ l;have eu:B0 _ p3 _ p3=U (HO.lst ([V.bl true,.bl false,.bl false,.bl false]++[.bl false,.bl false,.bl false])):=aU (H:=B0 (B0 H p (.lst [.bl true,.bl false,.bl false,.bl false])) p2 (.lst [.bl false,.bl false,.bl false]));generalize B0 (B0 (B0 H p (.lst [.bl true,.bl false,.bl false,.bl false])) p2 (.lst [.bl false,.bl false,.bl false])) p3 (.lst ([V.bl true,.bl false,.bl false,.bl false]++[.bl false,.bl false,.bl false]))=H3 at *
 refine⟨.ref a,rfl,a,D,d,fs,_,_,List.mem_singleton.mpr rfl,rfl,x,E,.inl ⟨FE,rfl,hF⟩,true,rfl,?_⟩;show(if true=true then _ else _);rw[zh rfl];refine⟨.ref a,rfl,a,D,d,fs,_,_,List.mem_singleton.mpr rfl,rfl,x,E,.inr (.inl ⟨"ValueError",rfl,b0⟩),true,rfl,?_⟩;show(if true=true then _ else _);rw[zh rfl];refine⟨.ref p3,rfl,[Y,U (.z (.int 0)),Y],D,d,[.bl true,.bl false,.bl false,.bl false,.bl false,.bl false,.bl false],?_,x,rfl,λDd us H4 hD J c8 r4=>?_⟩
 ·refine⟨rfl,λk b z=>?_,λk j c a b z y=>?_,AV.refl H3,λk c a z y=>?_⟩
  ·match k with
   |0=>cases z
   |1=>cases z;exact⟨_,rfl,by simp only[bh,AW];rfl⟩
   |2=>cases z
   |_+3=>cases z
  ·match k with
   |0=>cases z
   |1=>cases z;cases y
   |2=>cases z
   |_+3=>cases z
  ·match k with
   |0=>cases z
   |1=>cases z;cases y
   |2=>cases z
   |_+3=>cases z
 ·refine⟨.o [.bl true,.bl false,.bl false,.bl false,.bl false,.bl false,.bl false],.o [.bl true,.bl false,.bl false,.bl false,.bl false,.bl false,.bl false],.z (.bl true),⟨p3,_,rfl,J _ _ eu,?_⟩,⟨Dd,us,rfl,c8,r4⟩,rfl,λw H5 s5 _ a5=>?_⟩
  ·have b:∀c,AW K H4 (.bl c) (.bl c):=λc=>by simp only[AW]
   exact aK.cons (b _) (aK.cons (b _) (aK.cons (b _) (aK.cons (b _) (aK.cons (b _) (aK.cons (b _) (aK.cons (b _) aK.nil))))))
  ·obtain rfl:w=.bl true:=by simpa only[bh,AW]using a5
   exact q H5 (t.trans (J.trans s5))
theorem fR:bB ["self","name"] ["self","name"] (aG Uh):=j4
theorem Pe(F:Bj K "__init__" "NoName.__init__" Uh fI fdI)(hx:CY K D fI EI "ValueError.__new__"=true)(d:Bi K D "name"=true)(g:mg "FolkError"=U (.ref FE))(hb:V5 K FE "ValueError.__init__"):
  ju P w K mg base xu 1 fI fdI ["self","name"] (F0 D "name" λ_=>True):=by
 refine gp (k:=0) (fa:=cB (.str "this name is refused")) (ρ0:=λ_=>[Y,Y]) F fR PySem.F.excBase_ValueError hx d g hb (by decide +kernel) S (λv _=>⟨_,rfl,λH e=>⟨rfl,λi b z=>?_,λi j c a b z=>?_,AV.refl H,λi c a z=>?_⟩⟩) λl A outer s H E X f h=>?_
 ·match i with
  |0=>cases z
  |1=>cases z
  |_+2=>cases z
 ·match i with
  |0=>cases z
  |1=>cases z
  |_+2=>cases z
 ·match i with
  |0=>cases z
  |1=>cases z
  |_+2=>cases z
 ·subst f;exact⟨rfl,lC,pv 0,pv 0,pv 1,by decide,rfl,rfl,rfl,rfl,rfl,_,rfl⟩
variable{Aq X4 Ui ajJ:A1}{Hi QK Wb afb:FuncData}
theorem WB:bB ["ground","name"] ["ground","name"] (aG jc):=j4
theorem gm(F:Bj K "refuse_no_name" "refuse_no_name" jc X4 QK)(i:ju P w K mg base xu 2 Aq Hi ["thing"] (Zx K 1 lG))(e:mg "is_name"=U (.ref Aq))(d:keepIn K (.ref Aq)=true)(f:BA K Hi ["thing"] [])
  (hx:CY K D fI EI "ValueError.__new__"=true) (b:keepIn K (.ref D)=true) (c:ju P w K mg base xu 1 fI fdI ["self","name"] (F0 D "name" λ_=>True)) (hb:BA K fdI ["self","name"] []) (h:mg "NoName"=U (.ref D)):
  ju P w K mg base (Rw P w) 3 X4 QK ["ground","name"] (EG K 2 (nG 2 rA) D "name"):=by
 refine Mb (k:=2) (gx:=rA) F WB S S λj A outer s H E a g hp=>?_;exact zp (g5 (KZ (Fj (xG (uP (DN i (a.mono (by decide)) S e d f (aj (ak 1) aA)))) (yx (cN O2 (ak 1) (bD (ak 0) aC) (by with_unfolding_all rfl))))) (zp (abm (okX:=λ_=>true) PySem.F.excBase_ValueError hx (by decide) b c hb (a.mono (by decide)) S h g (ak 1) (λ_ _ _ _ _ _=>trivial))) YE)
theorem N9{f:AJ}{E:XK}{st:Z AB}{g1 g2:Ev->O Dt}(h1:XQ X C f E st g1)(h2:XQ X C f E st g2):XQ X C f E st (Dx g1 g2):=⟨λAN s σ H D I b=>by
 obtain⟨H0,ρ,d,Ev,a,w⟩:=b;unfold Dx at a;cases e:g1 ρ with
 |some q=>rw[e]at a;cases a;exact h1.run AN s σ H D I ⟨H0,ρ,_,Ev,e,w⟩
 |none=>rw[e]at a;exact h2.run AN s σ H D I ⟨H0,ρ,_,Ev,a,w⟩⟩
theorem So:bB ["ground","one","other"] ["ground","one","other"] (aG wB):=j4
theorem P'(F:Bj K "why_one" "why_one" wB Ui Wb)(G:ju P w K mg base (Rw P w) 3 X4 QK ["ground","name"] (EG K 2 (nG 2 rA) D "name"))(f:ju P w K mg base xu 3 X4 QK ["ground","name"] (Zx K 2 bR))(d:mg "refuse_no_name"=U (.ref X4))(c:keepIn K (.ref X4)=true)(b:BA K QK ["ground","name"] []):
  ju P w K mg base (Rw P w) 4 Ui Wb ["ground","one","other"] (EG K 3 (nG 3 Ck) D "name"):=by
 refine Mb (k:=3) (gx:=Ck) F So S S λg A outer s H E a e hp=>?_;exact N9 (zp (QC G (a.mono (by decide)) S d c b e (aj (ak 0) (aj (ak 1) aA)))) (dm (Mh (DN f (a.mono (by decide)) S d c b (aj (ak 0) (aj (ak 1) aA)))) (zp (QC G (a.mono (by decide)) S d c b e (aj (ak 0) (aj (ak 2) aA)))))
theorem NX:bB ["_law_ground_here","_law_one","_law_other","_law_due","_law_refused_here","_law_e"] ["_law_ground_here","_law_one","_law_other","_law_due"] (aG qL):=j4
theorem Uj{r:Bx}(h:QF b=U r):b=.z (.bl true)/\r=.z (.bl true):=by
 unfold QF at h;split at h
 ·cases h;exact⟨rfl,rfl⟩
 ·cases h
theorem Uk(F:Bj K "_law_refused" "_law_refused" qL ajJ afb)(G:ju P w K mg base (Rw P w) 4 Ui Wb ["ground","one","other"] (EG K 3 (nG 3 Ck) D "name"))(a0:mg "why_one"=U (.ref Ui))(a1:keepIn K (.ref Ui)=true)(a3:BA K Wb ["ground","one","other"] [])
  (c8:mg "FolkError"=U (.ref FE)) (a5:exmOne K (.ref D) (.ref FE)=U true) (y:uh K D=true) (W:findIn K (.ref D) "name"=U Y) (I:V7 P w K mg base 1 f_o aep ["_law_e","_law_at"] (NG D 0)) (d0:mg "_law_only"=U (.ref f_o)) (L:keepIn K (.ref f_o)=true) (J:BA K aep ["_law_e","_law_at"] []):
  ju P w K mg base xu 6 ajJ afb ["_law_ground_here","_law_one","_law_other","_law_due"] (Zx K 4 dM):=by
 refine Bj.ok (k:=5) F NX (λvs H Q E h=>h.1) λd2 A outer s H vs Q E p a2=>?_;have t:=NX.nd;have hu:=DY p;have B:∀C,C∈[D]->uh K C=true/\findIn K (.ref C) "name"=U Y:=λC z=>by rw[List.mem_singleton.mp z];exact⟨y,W⟩
 refine⟨_,(by exact(qP (zV (i:=4) t S (.inl S) Md) (qP (SE (C:=D) (iv:=5) (f:=Ui) S S t S S S c8 a5 (λa=>Ds (zV (X:=Cx.inX _ a) (i:=4) t S (.inl S) (Kq (bu (X:=Cx.inX _ a) I (gW.inX (p.mono (by decide)) a) S d0 L J (bw (pv 5) (bw Ry d7))) (Rz (Ku (X:=Cx.inX _ a) (of_eq hu) (OC (Cs:=[D]) B (pv 5) S) (pv 3) (cU _)))))) (jY (v:=.ref Ui) S a0 S) G (p.mono (by decide)) a1 a3 (bw (pv 0) (bw (pv 1) (bw (pv 2) d7)))) (Ds (Kr (pv 4)))))),?_⟩;obtain⟨hl,bs,r,c0,no,er,q⟩:=a2;unfold dM at er;split at er
 ·rename_i b0 b1 b2 b3;obtain⟨j,n,l,g,rfl⟩:∃j n l g,vs=[j,n,l,g]:=by
   match vs,hl with
   |[j,n,l,g],_=>exact⟨j,n,l,g,rfl⟩
  obtain⟨d,ex,er⟩:=AT er;obtain⟨c,ec,er⟩:=AT er;obtain⟨rfl,rfl⟩:=Uj er;have d1:[b0,b1,b2].all (λb=>!ip b)=true:=by
   simp only[kr,List.all_nil,Zz,Ki]at no ⊢;exact⟨no.1,no.2.1,no.2.2.1⟩
  cases c0 with
  |cons N e=>cases e with
   |cons M e=>cases e with
    |cons r2 e=>cases e with
     |cons r3 e=>
      refine⟨rfl,j,rfl,n,rfl,l,rfl,rfl,[b0,b1,b2],d,.cons N (.cons M (.cons r2 .nil)),d1,ex,XW.of (by decide) λdx v H' s' u r'=>⟨rfl,dx,rfl,λa na=>?_⟩⟩;have o:AV H' (B0 H' a (Yz a D dx)):=bI na;refine⟨.ref a,rfl,rfl,dx,[("name",v)],aU,o _ _ u,λH5 m=>⟨true,rfl,?_⟩⟩;show(if true=true then _ else _);rw[zh rfl];refine⟨.ref a,rfl,a,D,dx,v,List.mem_singleton.mpr rfl,rfl,m _ _ aU,m _ _ (o _ _ u),g,rfl,.z d,b3,.z (.bl true),AW.kp (Kp.of (o.trans m)) r',r3.same ((s'.trans o).trans m),ec,λw H6 x _ r6=>?_⟩;exact⟨w,rfl,q w H6 (((s'.trans o).trans m).trans x) trivial r6⟩
 ·cases er
end
structure T (K:B1) (mg:Str->Option Value) where
 {D:Addr}
 {FE:Addr}
 {c1:Addr}
 {c2:Addr}
 {c3:Addr}
 {c4:Addr}
 {c5:Addr}
 {c6:Addr}
 aby:mg "FolkError"=some (.ref FE)
 jmC:mg "NoName"=some (.ref D)
 m1:mg "NoText"=some (.ref c1)
 m2:mg "NoReason"=some (.ref c2)
 m3:mg "NoUndo"=some (.ref c3)
 m4:mg "NoRoom"=some (.ref c4)
 m5:mg "NoStep"=some (.ref c5)
 m6:mg "NoRow"=some (.ref c6)
 xJ:IQ K D "NoName.__init__" Uh ["self","name"]
 x_o:DQ K mg "_law_only" sZ ["_law_e","_law_at"]
 hbi:V5 K FE "ValueError.__init__"
 jx:CY K D xJ.f EI "ValueError.__new__"=true
 alV:Bi K D "name"=true
 jkC:keepIn K (.ref D)=true
 jex:exmOne K (.ref D) (.ref FE)=some true
 ajO:uh K D=true
 jfn:findIn K (.ref D) "name"=some none
 h0:kitOne K (.ref D) (.ref D)=some true
 h1:kitOne K (.ref D) (.ref c1)=some false
 h2:kitOne K (.ref D) (.ref c2)=some false
 h3:kitOne K (.ref D) (.ref c3)=some false
 h4:kitOne K (.ref D) (.ref c4)=some false
 h5:kitOne K (.ref D) (.ref c5)=some false
 h6:kitOne K (.ref D) (.ref c6)=some false
 hF:kitOne K (.ref D) (.ref FE)=some true
 hve:kitOne K (.ref D) (.type "ValueError")=some true
 ahv:mg "ValueError"=none
 fX:DQ K mg "_law_cell" Hf ["_law_script","_law_k"]
 cZ:DQ K mg "_law_numbers" wX ["_law_cell_here","_law_many"]
 qp:DQ K mg "_law_chain" BW ["_law_x","_law_turn","_law_weigh"]
 qt:DQ K mg "_law_names" BX ["_law_xs","_law_many"]
 oh:DQ K mg "_law_ground" zu ["_law_script","_law_at","_law_many","_law_reasons","_law_bars"]
 qu:DQ K mg "_law_drawn" BZ ["_law_script"]
 qw:DQ K mg "_law_parts" Ca ["_law_names_here","_law_reasons"]
 tu:DQ K mg "_law_held" Hg ["_law_names_here","_law_reasons"]
 iz:DQ K mg "_law_way" Kd ["_law_reasons","_law_one","_law_other","_law_ahead"]
 ou:DQ K mg "is_text_of" zx ["thing","signs","longest"]
 jR:DQ K mg "is_name" Ke ["thing"]
 cH:DQ K mg "refuse_no_name" jc ["ground","name"]
 oA:DQ K mg "lone_heads" zy ["names"]
 fV:DQ K mg "join_heads" zA ["heads","one","other"]
 oF:DQ K mg "holding_of" zB ["ground"]
 jT:DQ K mg "other_end" Cd ["reason","name"]
 tB:DQ K mg "way_back" Hh ["came_by","end"]
 zJ:DQ K mg "way_by" QD ["reasons","start","end"]
 iB:DQ K mg "why_one" wB ["ground","one","other"]
 qx:DQ K mg "_law_right" Cg ["_law_ground_here","_law_held_here","_law_one","_law_other"]
 jH:DQ K mg "_law_odd_names" um ["_law_names_here"]
 oG:DQ K mg "_law_signed" zF ["_law_text","_law_place","_law_x"]
 fY:DQ K mg "_law_refused" qL ["_law_ground_here","_law_one","_law_other","_law_due"]
 jh:DQ K mg "_law_odd_beside" q9 ["_law_ground_here","_law_odd","_law_name"]
 x_law:DQ K mg "law" s_law ["_law_script"]
 ajP:mg "abs"=none
 afd:mg "all"=none
 ajQ:mg "any"=none
 QL:mg "enumerate"=none
 abz:mg "int"=none
 cG:mg "isinstance"=none
 zK:mg "len"=none
 Ul:mg "list"=none
 zL:mg "max"=none
 Wc:mg "min"=none
 j7:mg "range"=none
 afe:mg "set"=none
 pB:mg "sorted"=none
 ajR:mg "str"=none
 wH:mg "tuple"=none
 X8:∃tk,mg "LETTERS"=some (.str "abcdefghijklmnopqrstuvwxyz" tk)
 Hj:∃tk,mg "LONGEST_NAME"=some (.int 8 tk)
section
variable(t:T K mg)
theorem QM:bB ["_law_script","_law_k","_law_state","_law_cell_here"] ["_law_script","_law_k"] (aG Hf):=j4
theorem QS:Ok P w base t.fX 1 2 fW:=HY (g:=sU) t.fX QM λ_ _ _ _ _ _ b c a=>(au (gZ (cN ZQ (ak 1) (bK rQ S t.zK rO (aj (ak 0) aA)) (cU _)) (au (c7 (bD (ak 0) (ak 1))) aO) aO) (au (aX 2 a (aQ bO (aQ oY aC (aQ bL (aQ bL (aQ oY (ak 1) (ak 1)) (aQ oY aC (ak 1))) aC)) aC)) (au (qI PassesOwn.never S (DK (nD (ak 0) fu (dR aC))) (bf 3 a) (aY [3] (au (aX 2 a (aQ bO (aQ bL (aQ oY (ak 2) aC) (ak 3)) aC)) aO))) (au (c7 (ak 2)) aO))))
theorem Hl:bB ["_law_cell_here","_law_many","_law_found","_law_state","_law_digits","_law_k"] ["_law_cell_here","_law_many"] (aG wX):=j4
theorem Ho:Ok P w base t.cZ 1 2 cY:=HY (g:=lR) t.cZ Hl λ_ _ _ _ _ _ b c a=>(au (aX 2 a (cP aA)) (au (aX 3 a (aQ bO (aQ oY (aQ bL (aQ bO (ak 0) aC) aC) aC) aC)) (au (aX 4 a aC) (au (gZ (KZ (Fj (cN ZQ (ak 0) aC (cU _)) (yx (cN dE (ak 0) (aQ Po aC aC) (cU _))))) (aY [] (au (aX 4 a (bK im S t.ajP cx (aj (ak 0) aA))) aO)) (aY [] aO)) (au (qI PassesOwn.never S (lZ S t.j7 (aj (ak 1) aA)) (bf 5 a) (aY [5] (au (aX 3 a (aQ bO (aQ bL (aQ bL (aQ oY (ak 3) (aQ bL (aQ bO (ak 3) aC) aC)) (aQ oY aC (ak 5))) aC) aC)) (au (oW 2 (bD (cP (aj (ak 3) (aj (aQ bO (ak 4) aC) aA))) (gA Sy S t.abz Sv (aj (qF K' (ak 4) aC (cU _)) aA)))) (au (aX 4 a (aQ rN (ak 4) aC)) aO))))) (au (yC 2) aO))))))
theorem MP:bB ["_law_x","_law_turn","_law_weigh","_law_letters","_law_names_here","_law_order","_law_some","_law_k","_law_a","_law_b","_law_weight"] ["_law_x","_law_turn","_law_weigh"] (aG BW):=j4
theorem M4:Ok P w base t.qp 1 3 pX:=HY (g:=pW) t.qp MP λ_ _ _ _ _ _ b c a=>(au (aX 3 a lC) (au (aX 4 a (iY ["_law_k"] (uD ["_law_letters"] [3]) S (Sd (lZ S t.j7 (aj aC aA))) (λ_ _ _ _=>(bf 1 (by show List.Nodup (_++_);decide +kernel))) (λ_ _ _ _=>cV) (λ_ _ _ _=>(aQ oY (bD (ak 0) (aQ rN (ak 1) aC)) (aQ bL aC (aQ bO (ak 1) aC)))) (cW))) (au (K6 5 ["_law_k"] (uD ["_law_names_here","_law_turn"] [4,1]) S a (Sd (lZ S t.j7 (aj aC aA))) (λ_ _ _ _=>(bf 2 (by show List.Nodup (_++_);decide +kernel))) (λ_ _ _ _=>cV) (λ_ _ _ _=>(bD (ak 0) (aQ bO (aQ bL (aQ oY aC (ak 2)) (ak 1)) aC))) (cW)) (au (aX 6 a (cP aA)) (au (qI PassesOwn.never S (lZ S t.j7 (aj (aQ bL aC (aQ bO (ak 0) aC)) aA)) (bf 7 a) (aY [7,8,9,10] (au (R7 8 9 S a (aj (bD (ak 5) (ak 7)) (aj (bD (ak 5) (aQ bO (aQ bL (ak 7) aC) aC)) aA))) (au (aX 10 a (bD (cP (aj aC (aj (aQ FZ aC (ak 7)) (aj (fM (aQ bL aC (ak 7))) (aj (fM (aQ bL aC (aQ bO (aQ oY (ak 7) (ak 7)) aC))) aA))))) (aQ bO (ak 2) aC))) (au (oW 6 (qG (aj (aQ FZ aC (ak 10)) (aj (fM (bK (Vz S) S t.Wc Ld (aj (ak 8) (aj (ak 9) aA)))) (aj (fM (bK (OG S) S t.zL rP (aj (ak 8) (aj (ak 9) aA)))) (aj (aQ bO (ak 7) aC) aA)))))) aO))))) (au (c7 (qG (aj (gA qY S t.wH qW (aj (bK Af S t.pB qX (aj (ak 4) aA)) aA)) (aj (gA qY S t.wH qW (aj (iY ["_law_weight","_law_a","_law_b","_law_k"] (uD [] []) S (iI (bK Pn S t.pB qX (aj (ak 6) aA))) (λ_ _ _ _=>(Fy S (dO (bf 0 (by show List.Nodup (_++_);decide +kernel)) (dO (bf 1 (by show List.Nodup (_++_);decide +kernel)) (dO (bf 2 (by show List.Nodup (_++_);decide +kernel)) (dO (bf 3 (by show List.Nodup (_++_);decide +kernel)) yD)))))) (λ_ _ _ _=>cV) (λ_ _ _ _=>(qG (aj (aQ FZ aC (ak 0)) (aj (ak 1) (aj (ak 2) (aj (ak 3) aA)))))) (Zo (mj (cW) (mj (cW) (mj (cW) (mj (cW) Ve)))))) aA)) (aj (qG aA) aA))))) aO))))))
theorem M5:bB ["_law_xs","_law_many","_law_letters","_law_stem","_law_at","_law_found","_law_k","_law_mark","_law_name"] ["_law_xs","_law_many"] (aG BX):=j4
theorem M6:Ok P w base t.qt 1 2 mH:=HY (g:=pY) t.qt M5 λ_ _ _ _ _ _ c b a=>(au (aX 2 a lC) (au (aX 3 a (bj (iY ["_law_k"] (uD ["_law_letters","_law_xs"] [2,0]) S (Sd (lZ S t.j7 (aj (aQ bO (bD (ak 0) aC) aC) aA))) (λ_ _ _ _=>(bf 2 (by show List.Nodup (_++_);decide +kernel))) (λ_ _ _ _=>cV) (λ_ _ _ _=>(bD (ak 0) (aQ bO (aQ rN (bD (ak 1) (ak 2)) aC) aC))) (cW)))) (au (aX 4 a (aQ bO (bD (ak 0) aC) (aQ bL (bK rQ S t.zK rO (aj (ak 3) aA)) aC))) (au (aX 5 a (cP aA)) (au (qI PassesOwn.never S (lZ S t.j7 (aj (ak 1) aA)) (bf 6 a) (aY [6,7,8] (au (aX 7 a (bD (ak 2) (aQ bO (aQ bL (ak 6) (bD (ak 0) aC)) aC))) (au (aX 8 a (aQ bL (aQ bL (nD (ak 3) fu (dR (ak 4))) (ak 7)) (nD (ak 3) (dR (ak 4)) fu))) (au (gZ (cN (of_eq b) (aQ bO (bD (ak 0) aC) aC) aC (cU _)) (aY [] (au (aX 8 a (aQ oY (bD (ak 2) (aQ rN (ak 6) aC)) (aQ bL aC (aQ bO (ak 6) aC)))) aO)) (aY [] aO)) (au (oW 5 (ak 8)) aO)))))) (au (yC 5) aO))))))
theorem Iw:bB ["_law_script","_law_at","_law_many","_law_reasons","_law_bars","_law_head","_law_names_here","_law_told","_law_k","_law_xs","_law_a","_law_b","_law_weight","_law_found","_law_shut"] ["_law_script","_law_at","_law_many","_law_reasons","_law_bars"] (aG zu):=j4
theorem Iz(e:Ok P w base t.fX 1 2 fW)(f:Ok P w base t.qt 1 2 mH)(d:Ok P w base t.cZ 1 2 cY):Ok P w base t.oh 2 5 nO:=HY (g:=nM) t.oh Iw λ_ _ _ _ _ _ b c a=>(au (aX 5 a (dF t.cZ d b (aj (fM (dF t.fX e b (aj (ak 0) (aj (ak 1) aA)))) (aj aC aA)))) (au (aX 6 a (bK Af S t.pB qX (aj (dF t.qt f b (aj (ak 5) (aj (ak 2) aA))) aA))) (au (aX 7 a (cP aA)) (au (qI PassesOwn.never S (lZ S t.j7 (aj (ak 3) aA)) (bf 8 a) (aY [8,9,10,11,12] (au (aX 9 a (dF t.cZ d b (aj (fM (dF t.fX e b (aj (ak 0) (aj (fM (aQ bL (aQ bL (ak 1) aC) (ak 8))) aA)))) (aj aC aA)))) (au (R7 10 11 S a (aj (aQ bO (bD (ak 9) aC) (bK (uX S) S t.zL rP (aj aC (aj (ak 2) aA)))) (aj (aQ bO (bD (ak 9) aC) (bK (uX S) S t.zL rP (aj aC (aj (ak 2) aA)))) aA))) (au (aX 12 a (bD (cP (aj (fM (aQ bL aC (aQ bO (bD (ak 9) aC) aC))) (aj (fM (aQ bL aC (aQ bO (bD (ak 9) aC) aC))) (aj (fM (aQ bL aC (aQ bO (bD (ak 9) aC) aC))) aA)))) (aQ bO (bD (ak 5) aC) aC))) (au (gZ (cN (FT c) (ak 10) (ak 11) (cU _)) (aY [] (au (oW 7 (qG (aj (aQ FZ aC (ak 12)) (aj (bD (ak 6) (bK (ZV S) S t.Wc Ld (aj (ak 10) (aj (ak 11) aA)))) (aj (bD (ak 6) (bK (uX S) S t.zL rP (aj (ak 10) (aj (ak 11) aA)))) (aj (bD (cP (aj aC (aj aC (aj aC aA)))) (aQ bO (bD (ak 9) aC) aC)) aA)))))) aO)) (aY [] aO)) aO)))))) (au (K6 13 ["_law_weight","_law_a","_law_b","_law_k"] (uD [] []) S a (iI (Vx S S t.pB (Vw S c S t.afe (ak 7)))) (λ_ _ _ _=>(Fy S (dO (bf 0 (by show List.Nodup (_++_);decide +kernel)) (dO (bf 1 (by show List.Nodup (_++_);decide +kernel)) (dO (bf 2 (by show List.Nodup (_++_);decide +kernel)) (dO (bf 3 (by show List.Nodup (_++_);decide +kernel)) yD)))))) (λ_ _ _ _=>cV) (λ_ _ _ _=>(qG (aj (aQ FZ aC (ak 0)) (aj (ak 1) (aj (ak 2) (aj (ak 3) aA)))))) (Zo (mj (cW) (mj (cW) (mj (cW) (mj (cW) Ve)))))) (au (aX 14 a (cP aA)) (au (qI PassesOwn.never S (lZ S t.j7 (aj (ak 4) aA)) (bf 8 a) (aY [8,9,10,11] (au (aX 9 a (dF t.cZ d b (aj (fM (dF t.fX e b (aj (ak 0) (aj (fM (aQ bL (aQ bL (ak 1) aC) (ak 8))) aA)))) (aj aC aA)))) (au (R7 10 11 S a (aj (aQ bO (bD (ak 9) aC) (bK (uX S) S t.zL rP (aj aC (aj (ak 2) aA)))) (aj (aQ bO (bD (ak 9) aC) (bK (uX S) S t.zL rP (aj aC (aj (ak 2) aA)))) aA))) (au (gZ (cN (FT c) (ak 10) (ak 11) (cU _)) (aY [] (au (oW 14 (qG (aj (bD (ak 6) (bK (ZV S) S t.Wc Ld (aj (ak 10) (aj (ak 11) aA)))) (aj (bD (ak 6) (bK (uX S) S t.zL rP (aj (ak 10) (aj (ak 11) aA)))) (aj (bD (cP (aj aC (aj aC aA))) (aQ bO (bD (ak 9) aC) aC)) aA))))) aO)) (aY [] aO)) aO))))) (au (c7 (qG (aj (gA qY S t.wH qW (aj (ak 6) aA)) (aj (gA qY S t.wH qW (aj (ak 13) aA)) (aj (gA qY S t.wH qW (aj (Vx S S t.pB (Vw S c S t.afe (ak 14))) aA)) aA))))) aO))))))))
theorem M7:bB ["_law_script","_law_head","_law_many"] ["_law_script"] (aG BZ):=j4
theorem M8(e:Ok P w base t.fX 1 2 fW)(f:Ok P w base t.qp 1 3 pX)(c:Ok P w base t.oh 2 5 nO)(d:Ok P w base t.cZ 1 2 cY):Ok P w base t.qu 3 1 qb:=HY (g:=pZ) t.qu M7 λ_ _ _ _ _ _ a h b=>(au (aX 1 b (dF t.cZ d a (aj (fM (dF t.fX e a (aj (ak 0) (aj aC aA)))) (aj aC aA)))) (au (gZ (cN (of_eq h) (aQ bO (bD (ak 1) aC) aC) aC (cU _)) (au (c7 (dF t.qp f a (aj (aQ rN (bD (ak 1) aC) aC) (aj (bD (ak 1) aC) (aj (bD (ak 1) aC) aA))))) aO) aO) (au (aX 2 b (aQ bO (bD (ak 1) aC) aC)) (au (c7 (dF t.oh c a (aj (ak 0) (aj aC (aj (ak 2) (aj (aQ bO (bD (ak 1) aC) aC) (aj (aQ bO (bD (ak 1) aC) aC) aA))))))) aO))))
theorem M9:bB ["_law_names_here","_law_reasons","_law_found","_law_weight","_law_a","_law_b","_law_k","_law_one","_law_other"] ["_law_names_here","_law_reasons"] (aG Ca):=j4
theorem Nb:Ok P w base t.qw 1 2 qe:=HY (g:=qd) t.qw M9 λ_ _ _ _ _ _ c b a=>(au (K6 2 ["_law_name"] (uD [] []) S a (iI (ak 0)) (λ_ _ _ _=>(bf 0 (by show List.Nodup (_++_);decide +kernel))) (λ_ _ _ _=>cV) (λ_ _ _ _=>(fM (cP (aj (ak 0) aA)))) (cW)) (au (yF 1 PassesOwn.never S (Fy S (dO (bf 3 a) (dO (bf 4 a) (dO (bf 5 a) (dO (bf 6 a) yD))))) (aY [3,4,5,6,7,8] (au (aX 7 a (bD (iY ["_law_part"] (uD ["_law_a"] [4]) S (iI (ak 2)) (λ_ _ _ _=>(bf 1 (by show List.Nodup (_++_);decide +kernel))) (λ_ _ _ _=>(xO (cN JK (ak 0) (ak 1) (by with_unfolding_all rfl)))) (λ_ _ _ _=>(ak 1)) (cW)) aC)) (au (aX 8 a (bD (iY ["_law_part"] (uD ["_law_b"] [5]) S (iI (ak 2)) (λ_ _ _ _=>(bf 1 (by show List.Nodup (_++_);decide +kernel))) (λ_ _ _ _=>(xO (cN JK (ak 0) (ak 1) (by with_unfolding_all rfl)))) (λ_ _ _ _=>(ak 1)) (cW)) aC)) (au (gZ (cN (FT b) (ak 7) (ak 8) (cU _)) (aY [] (au (aX 2 a (aQ bL (iY ["_law_part"] (uD ["_law_one","_law_other"] [7,8]) S (iI (ak 2)) (λ_ _ _ _=>(bf 2 (by show List.Nodup (_++_);decide +kernel))) (λ_ _ _ _=>(xO (cN (Mg b) (ak 2) (cP (aj (ak 0) (aj (ak 1) aA))) (by with_unfolding_all rfl)))) (λ_ _ _ _=>(ak 2)) (cW)) (cP (aj (fM (bK Af S t.pB qX (aj (aQ bL (ak 7) (ak 8)) aA))) aA)))) aO)) (aY [] aO)) aO))))) (au (c7 (bK Pn S t.pB qX (aj (iY ["_law_part"] (uD [] []) S (iI (ak 2)) (λ_ _ _ _=>(bf 0 (by show List.Nodup (_++_);decide +kernel))) (λ_ _ _ _=>cV) (λ_ _ _ _=>(gA qY S t.wH qW (aj (ak 0) aA))) (cW)) aA))) aO)))
theorem QT:bB ["_law_names_here","_law_reasons","_law_found","_law_reason","_law_parts_here"] ["_law_names_here","_law_reasons"] (aG Hg):=j4
theorem QW(c:Ok P w base t.qw 1 2 qe):Ok P w base t.tu 2 2 sW:=HY (g:=sV) t.tu QT λ_ _ _ _ _ _ b d a=>(au (aX 2 a (cP aA)) (au (yF 1 PassesOwn.never S (bf 3 a) (aY [3,4] (au (aX 4 a (dF t.qw c b (aj (ak 0) (aj (ak 2) aA)))) (au (gZ (xG (uP (bK (aS S) S t.ajQ Sc (aj (iY ["_law_part"] (uD ["_law_reason"] [3]) S (iI (ak 4)) (λ_ _ _ _=>(bf 1 (by show List.Nodup (_++_);decide +kernel))) (λ_ _ _ _=>cV) (λ_ _ _ _=>(Fl (qF JK (bD (ak 0) aC) (ak 1) (by with_unfolding_all rfl)) (K1 (qF JK (bD (ak 0) aC) (ak 1) (by with_unfolding_all rfl))))) (cW)) aA)))) (aY [] (au (oW 2 (ak 3)) aO)) (aY [] aO)) aO)))) (au (yC 2) aO)))
theorem xY:bB ["_law_reasons","_law_one","_law_other","_law_ahead","_law_reason","_law_there","_law_more"] ["_law_reasons","_law_one","_law_other","_law_ahead"] (aG Kd):=j4
theorem Cp:∀n:Nat,ju P w K mg base xu (n+1) t.iz.f t.iz.fd ["_law_reasons","_law_one","_law_other","_law_ahead"] (Zx K 4 (iw n))
 |0=>L3 (k:=0+0) (g:=λ_=>Y) t.iz.F xY S S λh A outer s H E a=>ZP
 |n+1=>by
  have e:=Cp n;rw[show n+1+1=(n+1)+1 by omega];refine LF (k:=n+1) (g:=wD (iw n)) t.iz.F xY S S λh A outer s H E a=>?_;have d:=DY a;have c:=xY.nd;exact(au (gZ (cN (of_eq d) (ak 1) (ak 2) (cU _)) (au (c7 (fM (cP aA))) aO) aO) (au (yF 0 PassesOwn.never S (bf 4 c) (aY [4,5,6] (au (gZ (KZ (DG (cN (Mg d) (ak 4) (ak 3) (by with_unfolding_all rfl)) (yw (cN JK (ak 1) (nD (ak 4) (dR aC) (dR aC)) (by with_unfolding_all rfl))))) (au (aX 5 c (bD (ak 4) (aQ bL aC (gA Sy S t.abz Sv (aj (qF (of_eq d) (bD (ak 4) aC) (ak 1) (cU _)) aA))))) (au (aX 6 c (DN e (a.mono (by omega)) S t.iz.m t.iz.k t.iz.b (aj (ak 0) (aj (ak 5) (aj (ak 2) (aj (fM (aQ bL (ak 3) (cP (aj (ak 4) aA)))) aA)))))) (au (gZ (cN DX (ak 6) mQ (cU _)) (au (c7 (fM (aQ bL (cP (aj (ak 4) aA)) (ak 6)))) aO) aO) aO))) aO) aO))) (au (c7 mQ) aO)))
theorem Um:Ok P w base t.iz 33 4 rz:=Cp t fuel
theorem IK:bB ["thing","signs","longest"] ["thing","signs","longest"] (aG zx):=j4
theorem IV:Ok P w base t.ou 1 3 nQ:=HY (g:=nP) t.ou IK λ_ _ _ _ _ _ a c b=>(au (c7 (Fl (Sw (ak 0) S t.cG S t.ajR) (Fl (Ze DB DB aC (bK rQ S t.zK rO (aj (ak 0) aA)) (ak 2)) (K1 (bK (ZL S) S t.afd ZF (aj (iY ["sign"] (uD ["signs"] [1]) S (iI (ak 0)) (λ_ _ _ _=>(bf 1 (by show List.Nodup (_++_);decide +kernel))) (λ_ _ _ _=>cV) (λ_ _ _ _=>(qF JK (ak 1) (ak 0) (by with_unfolding_all rfl))) (cW)) aA)))))) aO)
theorem Uo:bB ["thing"] ["thing"] (aG Ke):=j4
theorem Uq(c:Ok P w base t.ou 1 3 nQ):Ok P w base t.jR 2 1 lG:=HY (g:=wF) t.jR Uo λ_ _ _ _ _ _ a i h=>by
 obtain⟨f,b⟩:=t.X8;obtain⟨e,d⟩:=t.Hj;exact(au (c7 (dF t.ou c a (aj (ak 0) (aj (Zh S b) (aj (Zg S d) aA))))) aO)
theorem zM:bB ["ground","name"] ["ground","name"] (aG jc):=j4
theorem qy(b:Ok P w base t.jR 2 1 lG):Ok P w base t.cH 3 2 bR:=HY (g:=jd) t.cH zM λ_ _ _ _ _ _ a d c=>(aY [] (au (gZ (KZ (Fj (xG (uP (dF t.jR b a (aj (ak 1) aA)))) (yx (cN O2 (ak 1) (bD (ak 0) aC) (by with_unfolding_all rfl))))) (au adN aO) aO) aO))
theorem IW:bB ["names"] ["names"] (aG zy):=j4
theorem Ja:Ok P w base t.oA 1 1 nU:=HY (g:=nR) t.oA IW λ_ _ _ _ _ _ b a c=>(au (c7 (aT a ["name"] (uD [] []) S (iI (ak 0)) (λ_ _ _ _=>(bf 0 (by show List.Nodup (_++_);decide +kernel))) (λ_ _ _ _=>cV) (λ_ _ _ _=>(ak 0)) (λ_ _ _ _=>(ak 0)) (cW))) aO)
theorem w6:bB ["heads","one","other","head","name"] ["heads","one","other"] (aG zA):=j4
theorem Jb:ju P w K mg base xu 1 t.fV.f t.fV.fd ["heads","one","other"] (Fh K 2 j6):=by
 unfold j6;refine Re (k:=0) (g:=nW) t.fV.F w6 S S λd A outer s H E c=>?_;have a:=DY c;have b:=w6.nd;exact(aY [3,4] (au (aX 3 b (bK (Vz S) S t.Wc Ld (aj (ak 1) (aj (ak 2) aA)))) (au (qI PassesOwn.never S (DK (gA (OB S) S t.Ul Lb (aj (ak 0) aA))) (bf 4 b) (aY [4] (au (gZ (KZ (Fj (cN (of_eq a) (rW a (ak 0) (ak 4)) (ak 1) (cU _)) (yx (cN (of_eq a) (rW a (ak 0) (ak 4)) (ak 2) (cU _))))) (aY [] (au (Vl 0 a (ak 3) (ak 4)) aO)) (aY [] aO)) aO))) aO)))
theorem Jc:bB ["ground","names","reasons","bars","heads","holding","reason","one","other"] ["ground"] (aG zB):=j4
theorem Jd(h:ju P w K mg base xu 1 t.fV.f t.fV.fd ["heads","one","other"] (Fh K 2 j6))(e:Ok P w base t.oA 1 1 nU):Ok P w base t.oF 2 1 nZ:=HY (g:=nY) t.oF Jc λ_ _ _ _ _ _ d c a=>(au (XE (ak 0) (Fy S (dO (bf 1 a) (dO (bf 2 a) (dO (bf 3 a) yD))))) (au (aX 4 a (dF t.oA e d (aj (ak 1) aA))) (au (aX 5 a (cP aA)) (au (yF 2 PassesOwn.never S (bf 6 a) (aY [6,7,8] (au (aX 7 a (rW c (ak 4) (bD (ak 6) aC))) (au (aX 8 a (rW c (ak 4) (bD (ak 6) aC))) (au (gZ (cN (FT c) (ak 7) (ak 8) (cU _)) (aY [] (au (iP 4 h (d.mono (by decide)) S t.fV.m t.fV.k t.fV.b (aj (ak 7) (aj (ak 8) aA))) (au (oW 5 (ak 6)) aO))) (aY [] aO)) aO))))) (au (yC 5) aO)))))
theorem Nf:bB ["reason","name"] ["reason","name"] (aG Cd):=j4
theorem Ng:Ok P w base t.jT 1 2 jQ:=HY (g:=qg) t.jT Nf λ_ _ _ _ _ _ b a c=>(au (gZ (cN (of_eq a) (bD (ak 0) aC) (ak 1) (cU _)) (au (c7 (bD (ak 0) aC)) aO) aO) (au (gZ (cN (of_eq a) (bD (ak 0) aC) (ak 1) (cU _)) (au (c7 (bD (ak 0) aC)) aO) aO) (au (c7 mQ) aO)))
theorem QX:bB ["came_by","end","way","here"] ["came_by","end"] (aG Hh):=j4
theorem QZ(c:Ok P w base t.jT 1 2 jQ):Ok P w base t.tB 2 2 sY:=HY (g:=sX) t.tB QX λ_ _ _ _ _ _ d b a=>(au (aX 2 a (cP aA)) (au (aX 3 a (ak 1)) (au (Qi 70 PassesOwn.never (cN DX (rW b (ak 0) (ak 3)) mQ (cU _)) (aY [] (au (oW 2 (rW b (ak 0) (ak 3))) (au (aX 3 a (dF t.jT c d (aj (rW b (ak 0) (ak 3)) (aj (ak 3) aA)))) aO)))) (au (yC 2) aO))))
theorem Yc:bB ["reasons","start","end","came_by","reached","here","reason","there"] ["reasons","start","end"] (aG QD):=j4
theorem Yd(d:Ok P w base t.jT 1 2 jQ)(e:Ok P w base t.tB 2 2 sY):Ok P w base t.zJ 3 3 zH:=HY (g:=zG) t.zJ Yc λ_ _ _ _ _ _ c b a=>(au (aX 3 a (b9 (ak 1) mQ)) (au (aX 4 a (cP (aj (ak 1) aA))) (au (Qi 70 PassesOwn.never (uP (ak 4)) (aY [5,6,7] (au (b7 5 4 a aC) (au (yF 0 PassesOwn.never S (bf 6 a) (aY [6,7] (au (aX 7 a (dF t.jT d c (aj (ak 6) (aj (ak 5) aA)))) (au (gZ (KZ (DG (cN DX (ak 7) mQ (cU _)) (yw (cN (VF b) (ak 7) (ak 3) (by with_unfolding_all rfl))))) (aY [] (au (Vl 3 b (ak 6) (ak 7)) (au (oW 4 (ak 7)) aO))) (aY [] aO)) aO)))) aO)))) (au (gZ (cN (VF b) (ak 2) (ak 3) (by with_unfolding_all rfl)) (au (c7 mQ) aO) aO) (au (c7 (VG (dF t.tB e c (aj (ak 3) (aj (ak 2) aA))) (NB Zy aC))) aO)))))
theorem Ur:bB ["ground","one","other"] ["ground","one","other"] (aG wB):=j4
theorem Us(d:Ok P w base t.oF 2 1 nZ)(b:Ok P w base t.cH 3 2 bR)(c:Ok P w base t.zJ 3 3 zH):Ok P w base t.iB 4 3 oU:=HY (g:=wG) t.iB Ur λ_ _ _ _ _ _ a f e=>(au (Mh (dF t.cH b a (aj (ak 0) (aj (ak 1) aA)))) (au (Mh (dF t.cH b a (aj (ak 0) (aj (ak 2) aA)))) (au (c7 (dF t.zJ c a (aj (fM (dF t.oF d a (aj (ak 0) aA))) (aj (ak 1) (aj (ak 2) aA))))) aO)))
theorem Nh:bB ["_law_ground_here","_law_held_here","_law_one","_law_other","_law_due","_law_found","_law_back"] ["_law_ground_here","_law_held_here","_law_one","_law_other"] (aG Cg):=j4
theorem Ni(e:Ok P w base t.iz 33 4 rz)(b:Ok P w base t.iB 4 3 oU):Ok P w base t.qx 34 4 qm:=HY (g:=qj) t.qx Nh λ_ _ _ _ _ _ a d c=>(au (aX 4 c (dF t.iz e a (aj (ak 1) (aj (ak 2) (aj (ak 3) (aj (fM (cP aA)) aA)))))) (au (aX 5 c (dF t.iB b a (aj (ak 0) (aj (ak 2) (aj (ak 3) aA))))) (au (gZ (KZ (Fj (cN (FT d) (ak 5) (ak 4) (cU _)) (yx (KZ (DG (cN DX (ak 4) mQ (cU _)) (yw (xG (uP (O4 (ak 5) S t.cG S t.Ul))))))))) (au (c7 JB) aO) aO) (au (aX 6 c (dF t.iB b a (aj (ak 0) (aj (ak 3) (aj (ak 2) aA))))) (au (gZ (cN DD (ak 4) mQ (cU _)) (au (c7 (qF DD (ak 6) mQ (cU _))) aO) aO) (au (oW 5 mQ) (au (c7 (Fl (qF (of_eq d) (ak 6) (VG (ak 4) (NB Zy aC)) (cU _)) (K1 (qF (of_eq d) (dF t.iB b a (aj (ak 0) (aj (ak 2) (aj (ak 3) aA)))) (ak 4) (cU _))))) aO)))))))
theorem Ar:bB ["_law_names_here","_law_found"] ["_law_names_here"] (aG um):=j4
theorem Av:Ok P w base t.jH 1 1 jG:=HY (g:=jF) t.jH Ar λ_ _ _ _ _ _ b c a=>(au (aX 1 a (cP (aj mQ (aj JB (aj aC (aj lC (aj lC (aj (fM (cP (aj lC aA))) (aj VO (aj (qG (aj lC aA)) (aj lC (aj aC aA)))))))))))) (au (c7 (aQ bL (aQ bL (ak 1) (iY ["_law_name"] (uD [] []) S (iI (nD (ak 0) fu (dR aC))) (λ_ _ _ _=>(bf 0 (by show List.Nodup (_++_);decide +kernel))) (λ_ _ _ _=>cV) (λ_ _ _ _=>(fM (aQ bL (ak 0) lC))) (cW))) (iY ["_law_name"] (uD [] []) S (iI (nD (ak 0) fu (dR aC))) (λ_ _ _ _=>(bf 0 (by show List.Nodup (_++_);decide +kernel))) (λ_ _ _ _=>cV) (λ_ _ _ _=>(fM (cP (aj (ak 0) aA)))) (cW)))) aO))
theorem Je:bB ["_law_text","_law_place","_law_x","_law_signs","_law_sign","_law_at"] ["_law_text","_law_place","_law_x"] (aG zF):=j4
theorem Jf:Ok P w base t.oG 1 3 n8:=HY (g:=n6) t.oG Je λ_ _ _ _ _ _ b c a=>(au (aX 3 a lC) (au (aX 3 a (aQ bL (ak 3) lC)) (au (aX 4 a (bD (ak 3) (aQ bO (aQ rN (ak 2) aC) (bD (cP (aj aC (aj aC aA))) (aQ bO (aQ rN (ak 2) aC) aC))))) (au (aX 5 a (aQ bO (ak 1) (aQ bL (bK rQ S t.zK rO (aj (ak 0) aA)) aC))) (au (c7 (bD (cP (aj (fM (aQ bL (aQ bL (nD (ak 0) fu (dR (ak 5))) (ak 4)) (nD (ak 0) (dR (ak 5)) fu))) (aj (fM (aQ bL (aQ bL (nD (ak 0) fu (dR (ak 5))) (ak 4)) (nD (ak 0) (dR (aQ bL (ak 5) aC)) fu))) (aj (fM (aQ bL (nD (ak 0) fu (dR (ak 5))) (nD (ak 0) (dR (aQ bL (ak 5) aC)) fu))) aA)))) (aQ bO (ak 2) aC))) aO)))))
theorem Ht(a:Ok P w base t.jR 2 1 lG):Ok P w base t.fY 6 4 dM:=
 Uk t.fY.F (P' t.iB.F (gm t.cH.F a t.jR.m t.jR.k t.jR.b t.jx t.jkC (Pe t.xJ.F t.jx t.alV t.aby t.hbi) t.xJ.b t.jmC) (qy t a) t.cH.m t.cH.k t.cH.b) t.iB.m t.iB.k t.iB.b t.aby t.jex t.ajO t.jfn
  (VS t.x_o.F t.ajO t.jmC t.m1 t.m2 t.m3 t.m4 t.m5 t.m6 t.aby t.h0 t.h1 t.h2 t.h3 t.h4 t.h5 t.h6 t.hF t.hve t.cG t.ahv t.j7) t.x_o.m t.x_o.k t.x_o.b
theorem zN:bB ["_law_ground_here","_law_odd","_law_name"] ["_law_ground_here","_law_odd","_law_name"] (aG q9):=j4
theorem zO(b:Ok P w base t.fY 6 4 dM):Ok P w base t.jh 7 3 jf:=HY (g:=je) t.jh zN λ_ _ _ _ _ _ a d c=>(au (c7 (Fl (dF t.fY b a (aj (ak 0) (aj (ak 1) (aj (ak 2) (aj (ak 1) aA))))) (K1 (dF t.fY b a (aj (ak 0) (aj (ak 2) (aj (ak 1) (aj (ak 1) aA)))))))) aO)
theorem cK:bB ["_law_script","_law_ground_here","_law_names_here","_law_held_here","_law_xs","_law_at","_law_most","_law_pairs","_law_one","_law_odds","_law_k","_law_odd","_law_later","_law_second","_law_beside"] ["_law_script"] (aG s_law):=j4
theorem i6(m:Ok P w base t.fX 1 2 fW)(n:Ok P w base t.qu 3 1 qb)(o:Ok P w base t.tu 2 2 sW)(e:Ok P w base t.cZ 1 2 cY)(d:Ok P w base t.jh 7 3 jf)(f:Ok P w base t.jH 1 1 jG)(l:Ok P w base t.fY 6 4 dM)(j:Ok P w base t.qx 34 4 qm)(h:Ok P w base t.oG 1 3 n8):Ok P w base t.x_law 35 1 F_law:=HY (g:=V9) t.x_law cK λ_ _ _ _ _ _ b c a=>(au (aX 1 a (dF t.qu n b (aj (ak 0) aA))) (au (aX 2 a (gA f6 S t.Ul Lb (aj (bD (ak 1) aC) aA))) (au (aX 3 a (dF t.tu o b (aj (bD (ak 1) aC) (aj (bD (ak 1) aC) aA)))) (au (aX 4 a (nD (dF t.cZ e b (aj (fM (dF t.fX m b (aj (ak 0) (aj aC aA)))) (aj aC aA))) (dR aC) fu)) (au (aX 5 a (aQ bO (bD (ak 4) aC) (bK (uX S) S t.zL rP (aj aC (aj (bK rQ S t.zK rO (aj (ak 2) aA)) aA))))) (au (aX 6 a (bD (cP (aj aC (aj aC aA))) (gA Sy S t.abz Sv (aj (qF K' (bK rQ S t.zK rO (aj (ak 2) aA)) aC (cU _)) aA)))) (au (aX 7 a (cP aA)) (au (qI PassesOwn.never S (DK (aQ bL (nD (ak 2) (dR (ak 5)) fu) (nD (ak 2) fu (dR (ak 5))))) (bf 8 a) (aY [8] (au (Oy 7 (iY ["_law_other"] (uD ["_law_one"] [8]) S (iI (ak 2)) (λ_ _ _ _=>(bf 1 (by show List.Nodup (_++_);decide +kernel))) (λ_ _ _ _=>cV) (λ_ _ _ _=>(qG (aj (ak 0) (aj (ak 1) aA)))) (cW))) aO))) (au (gZ (xG (uP (bK (ZL S) S t.afd ZF (aj (iY ["_law_pair"] (uD ["_law_ground_here","_law_held_here"] [1,3]) S (iI (nD (ak 7) fu (dR (ak 6)))) (λ_ _ _ _=>(bf 2 (by show List.Nodup (_++_);decide +kernel))) (λ_ _ _ _=>cV) (λ_ _ _ _=>(fM (dF t.qx j b (aj (ak 0) (aj (ak 1) (aj (bD (ak 2) aC) (aj (bD (ak 2) aC) aA))))))) (cW)) aA)))) (au (c7 JB) aO) aO) (au (aX 9 a (dF t.jH f b (aj (ak 2) aA))) (au (gZ (cN (FT c) (ak 2) (cP aA) (cU _)) (aY [] (au (oW 9 (fM (dF t.oG h b (aj (bD (ak 2) (aQ bO (bD (ak 4) aC) (bK rQ S t.zK rO (aj (ak 2) aA)))) (aj (bD (ak 4) aC) (aj (bD (ak 4) aC) aA)))))) aO)) (aY [] aO)) (a7 (i:=9) (au (qI PassesOwn.never S (VT S t.QL (aj (ak 9) aA)) (Fy S (dO (bf 10 a) (dO (bf 11 a) yD))) (aY [10,11,12,13,14] (au (gZ (cN (Mg c) (ak 11) (ak 2) (by with_unfolding_all rfl)) (au (aX 12 a (bD (ak 9) (aQ bO (aQ bL (aQ bL (ak 10) aC) (aQ bO (bD (ak 4) aC) aC)) (bK rQ S t.zK rO (aj (ak 9) aA))))) (au (qI PassesOwn.never S (DK (cP (aj lC (aj (ak 11) (aj (ak 12) aA))))) (bf 13 a) (aY [13] (au (gZ (xG (uP (dF t.fY l b (aj (ak 1) (aj (ak 11) (aj (ak 13) (aj (ak 11) aA))))))) (au (c7 JB) aO) aO) aO))) (au (aX 14 a (bD (aQ bL (ak 2) (cP (aj lC aA))) (aQ bO (bD (ak 4) aC) (bK (uX S) S t.zL rP (aj aC (aj (bK rQ S t.zK rO (aj (ak 2) aA)) aA)))))) (au (gZ (KZ (DG (cN (FT c) (ak 2) (cP aA) (cU _)) (yw (xG (uP (dF t.jh d b (aj (ak 1) (aj (ak 11) (aj (ak 14) aA))))))))) (au (c7 JB) aO) aO) aO)))) aO) aO))) (au (c7 JB) aO))))))))))))))
theorem EC:Ok P w base t.x_law 35 1 F_law:=by
 have b:=QS (P:=P) (w:=w) (base:=base) t;have a:=Ho (P:=P) (w:=w) (base:=base) t;have x:=M4 (P:=P) (w:=w) (base:=base) t;have s:=M6 (P:=P) (w:=w) (base:=base) t;have o:=Iz (P:=P) (w:=w) (base:=base) t b s a;have C:=M8 (P:=P) (w:=w) (base:=base) t b x o a;have n:=Nb (P:=P) (w:=w) (base:=base) t;have m:=QW (P:=P) (w:=w) (base:=base) t n;have f:=Um (P:=P) (w:=w) (base:=base) t;have j:=IV (P:=P) (w:=w) (base:=base) t;have c:=Uq (P:=P) (w:=w) (base:=base) t j;have z:=qy (P:=P) (w:=w) (base:=base) t c;have q:=Ja (P:=P) (w:=w) (base:=base) t;have A:=Jb (P:=P) (w:=w) (base:=base) t;have u:=Jd (P:=P) (w:=w) (base:=base) t A q;have d:=Ng (P:=P) (w:=w) (base:=base) t;have h:=QZ (P:=P) (w:=w) (base:=base) t d;have l:=Yd (P:=P) (w:=w) (base:=base) t d h;have y:=Us (P:=P) (w:=w) (base:=base) t u z l;have g:=Ni (P:=P) (w:=w) (base:=base) t f y;have i:=Av (P:=P) (w:=w) (base:=base) t;have v:=Jf (P:=P) (w:=w) (base:=base) t;have e:=Ht (P:=P) (w:=w) (base:=base) t c;have p:=zO (P:=P) (w:=w) (base:=base) t e;have B:=i6 (P:=P) (w:=w) (base:=base) t b C m a p i e g v;exact B
end
end G14
end
section
set_option synthInstance.maxSize 100000
namespace G14
open L2 P1
noncomputable section
def xg(a:Int)(b:Int):Int:=(let a:=(((a*69621)+b)%2147483647);a)
theorem Jg(d:B7)(e:Lp dG (d.map eI))(c:Int)(a:Int)(b:Int):RP wY [U dG,U (zE eI c),U (zE eI a),U (zE eI b)] (λs=>An.nx ((λa:Int=>[U dG,U (zE eI c),U (zE eI a),Y]) s)) (xg  a b) (Y):=R.tp (bC (bJ 2 (cQ (fP (VH (aq 2 (zE eI) a S) 69621 (by decide)) (aq 3 (zE eI) b S)) 2147483647 (by decide)) (λ_=>S) λa=>(bN (bG a S))))
def aV(c:B7)(a:Int):Int:=(if(decide (a<(c.length:Int)))=true then(at' c a)else(let b:=((48271*(((a*a)+(7*a))+11))%2147483647);(let b:Int:=((cut c Y (U 3)).foldl (λ(b:Int) (d:Int)=>(xg  b d)) b);b)))
def f9(b:B7)(a:Int):Prop:=(((decide (a<(b.length:Int)))=true->In b.length a)/\((decide (a<(b.length:Int)))=false->FI a a))
theorem Ut(c:B7)(d:Lp dG (c.map eI))(a:Int):RP sU [U dG,U (zE eI a),Y,Y] (λr=>An.rt (zE eI r)) (aV c a) (U (f9 c a)):=R.tp (o9 (eE (Mm (aq 1 (zE eI) a S) (By (jA 0 eI c d S)))) (bC (fQ (λr=>r) (d9 (jA 0 eI c d S) (aq 1 (zE eI) a S)) (λ_=>S) λ_=>S)) (bN (bJ 2 (cQ (Ml 48271 (by decide) (fP (fP (IE (aq 1 (zE eI) a S) (aq 1 (zE eI) a S)) (Ml 7 (by decide) (aq 1 (zE eI) a S))) (B5 11))) 2147483647 (by decide)) (λ_=>S) λb=>(bz (λb:Int=>[U dG,U (zE eI a),U (zE eI b),Y]) b S (Ff (TJ (jA 0 eI c d S) xU (xV (B5 3)))) _ (λ_ _=>S) (λ(b:Int) (e:Int)=>(Jg c d a b e).r) (λ_ _=>S) λb=>(fQ (λr=>r) (aq 2 (zE eI) b S) (λ_=>S) λ_=>S)))))
theorem pC:∀v bs,(aL eI (aZ eI aN)) v bs->bs.length=2/\(hold (U (f9 v.1 v.2.1))->fW (bs.map lend)=U ((zE eI) (aV v.1 v.2.1))):=by
 rintro⟨c,a,_⟩ _ ⟨dG,_,rfl,b,⟨_,rfl,rfl⟩⟩;exact⟨rfl,λh=>dJ (g:=sU) (n:=4) (bs:=[lend dG,.z (eI a)]) (Ut c (o8 b) a) h⟩
def cI(a:Int×B7×Int)(c:Int):Int×B7×Int:=(let b:=((((a.1*((a.1%65521)+40487))+(7*c))+5)%1999999973);(let d:=a.2.1++[(at' [b,(a.2.2%1000000)] (if(decide ((0:Int)<a.2.2))=true then(1:Int)else 0))];(let e:=(a.2.2 / (1000000:Int));(b,d,e))))
def jk(a:Int×B7×Int)(c:Int):Prop:=(FI a.1 ((a.1%65521)+40487)/\(let b:=((((a.1*((a.1%65521)+40487))+(7*c))+5)%1999999973);(In [b,(a.2.2%1000000)].length (if(decide ((0:Int)<a.2.2))=true then(1:Int)else 0)/\sy a.2.1.length)))
theorem Aw(c:Int)(e:Int)(a:Int×B7×Int)(b:Int):RP lF [U (zE eI c),U (zE eI e),U ((oE eI) a.2.1),U ((zE eI) a.1),U ((zE eI) a.2.2),U (zE eI b)] (λs=>An.nx ((λa:Int×B7×Int=>[U (zE eI c),U (zE eI e),U ((oE eI) a.2.1),U ((zE eI) a.1),U ((zE eI) a.2.2),Y]) s)) (cI  a b) (U (jk  a b)):=R.tp (bC (bJ 3 (cQ (fP (fP (IE (aq 3 (zE eI) a.1 S) (fP (cQ (aq 3 (zE eI) a.1 S) 65521 (by decide)) (B5 40487))) (Ml 7 (by decide) (aq 5 (zE eI) b S))) (B5 5)) 1999999973 (by decide)) (λ_=>S) λd=>(bC (wU 2 a.2.1 S (d9 (gC (eF (bx (aq 3 (zE eI) d S) (bx (cQ (aq 4 (zE eI) a.2.2 S) 1000000 (by decide)) (cM eI))) (zz S))) (TX (MO (aq 4 (zE eI) a.2.2 S) (B5 0)))) λf=>(bC (bJ 4 (su (aq 4 (zE eI) a.2.2 S) 1000000 (by decide)) (λ_=>S) λg=>(bN (bG (d,f,g) S))))))))
def jo(g:Int)(f:Int)(c:B7)(e:Int)(d:Int):B7:=(let a:Int×B7×Int:=((rng 0 f.toNat).foldl (λ(a:Int×B7×Int) (b:Int)=>(cI  a b)) (e,c,d));a.2.1)
def lJ(g:Int)(c:Int)(d:B7)(f:Int)(e:Int):Prop:=(Rg c/\kY (λ(a:Int×B7×Int) (b:Int)=>(cI  a b)) (λ(a:Int×B7×Int) (b:Int)=>U (jk  a b)) (rng 0 c.toNat) (f,d,e))
def Ax:Ev->O An:=(aD (pI (O7 (ao (gv 1) aH)) (mz 5) lF) (aD (CG 2) fB))
theorem Ay(c:Int)(b:Int)(d:B7)(f:Int)(e:Int):RP Ax [U (zE eI c),U (zE eI b),U (oE eI d),U (zE eI f),U (zE eI e),Y] (λr=>An.rt (oE eI r)) (jo c b d f e) (U (lJ c b d f e)):=R.tp (G4 (λa:Int×B7×Int=>[U (zE eI c),U (zE eI b),U ((oE eI) a.2.1),U ((zE eI) a.1),U ((zE eI) a.2.2),Y]) (f,d,e) S (J3 (aq 1 (zE eI) b S)) _ (λ_ _=>S) (λ(a:Int×B7×Int) (g:Int)=>(Aw c b a g).r) λa=>(G3 2 (λr=>r) a.2.1 S (λ_=>S) λ_=>S))
def aR(a:Int)(e:Int):B7:=(let c:=([]:Z Int);(let d:=((((a%1999999973)+31)*765432101)%1999999973);(let b:=(0:Int);(let b:Int:=(if((decide (a<0))||(decide (((10:Int) ^ 18)<=a)))=true then(let b:=(if a<0 then -a else a);b)else b);(jo a e c d b)))))
def eU(a:Int)(e:Int):Prop:=(let c:=([]:Z Int);(let d:=((((a%1999999973)+31)*765432101)%1999999973);(let b:=(0:Int);(let b:Int:=(if((decide (a<0))||(decide (((10:Int) ^ 18)<=a)))=true then(let b:=(if a<0 then -a else a);b)else b);(lJ a e c d b)))))
theorem Jh(a:Int)(c:Int):RP lR [U (zE eI a),U (zE eI c),Y,Y,Y,Y] (λr=>An.rt (oE eI r)) (aR a c) (U (eU a c)):=R.tp (bJ 2 (eF (cM eI) (zz S)) (λ_=>S) λd=>(bJ 3 (cQ (VH (fP (cQ (aq 0 (zE eI) a S) 1999999973 (by decide)) (B5 31)) 765432101 (by decide)) 1999999973 (by decide)) (λ_=>S) λe=>(bJ 4 (B5 0) (λ_=>S) λb=>(wV (λb:Int=>[U (zE eI a),U (zE eI c),U (oE eI d),U (zE eI e),U (zE eI b),Y]) (EW (eE (Mm (aq 0 (zE eI) a S) (B5 0))) (eE (Gc (aq 0 (zE eI) a S) (SC 10 18 18 (by decide) S)))) (bC (bJ 4 (OI (aq 0 (zE eI) a S)) (λ_=>S) λb=>(bN (bG b S)))) (bN (bG b S)) λb=>(Ay a c d e b).r))))
theorem jC:∀v bs,(aZ eI (aZ eI aN)) v bs->bs.length=2/\(hold (U (eU v.1 v.2.1))->cY (bs.map lend)=U ((oE eI) (aR v.1 v.2.1))):=by
 rintro⟨a,b,_⟩ _ ⟨_,rfl,⟨_,rfl,rfl⟩⟩;exact⟨rfl,λh=>dJ (g:=lR) (n:=6) (bs:=[.z (eI a),.z (eI b)]) (Jh a b) h⟩
def dU(g:Int)(e:AZ)(d:Z aF)(a:Int):(Z aF):=(let y1:=(at' e a);let y2:=(at' e ((a+1)%30));let c:=y1;let b:=y2;(let f:=(at' [(5:Int),((1000:Int)-a),(1+a),(1+((a*a)%9))] (g%4));(let d:=d++[(((0:Int)-f),(if Cc b c=true then b else c),(if Cc c b=true then b else c),(a%3))];d)))
def j8(c:Int)(b:AZ)(d:Z aF)(a:Int):Prop:=((In b.length a/\In b.length ((a+1)%30))/\(let y1:=(at' b a);let y2:=(at' b ((a+1)%30));let f:=y1;let e:=y2;((FI a a/\In [(5:Int),((1000:Int)-a),(1+a),(1+((a*a)%9))].length (c%4))/\(let g:=(at' [(5:Int),((1000:Int)-a),(1+a),(1+((a*a)%9))] (c%4));sy d.length))))
theorem Hu(i:Int)(j:Int)(d:Int)(g:AJ)(f:AZ)(c:AZ)(b:Z aF)(a:Int):RP vG [U (zE eI i),U (zE eI j),U (zE eI d),U (zE eS g),U (oE eS f),U (oE eS c),U (oE aJ b),U (zE eI a),Y,Y,Y] (λs=>An.nx ((λb:(Z aF)=>[U (zE eI i),U (zE eI j),U (zE eI d),U (zE eS g),U (oE eS f),U (oE eS c),U (oE aJ b),Y,Y,Y,Y]) s)) (dU d c b a) (U (j8 d c b a)):=R.tp (bC (HV 8 9 (d9 (cX (aq 5 (lE eS) c S)) (aq 7 (zE eI) a S)) (d9 (cX (aq 5 (lE eS) c S)) (cQ (fP (aq 7 (zE eI) a S) (B5 1)) 30 (by decide))) λh e=>(bC (bJ 10 (d9 (gC (eF (bx (B5 5) (bx (Qk (B5 1000) (aq 7 (zE eI) a S)) (bx (jP (fP (B5 1) (aq 7 (zE eI) a S))) (bx (jP (fP (B5 1) (cQ (IE (aq 7 (zE eI) a S) (aq 7 (zE eI) a S)) 9 (by decide)))) (cM eI))))) (zz S))) (cQ (aq 2 (zE eI) d S) 4 (by decide))) (λ_=>S) λl=>(bC (wU 6 b S (Mp (Qk (B5 0) (aq 10 (zE eI) l S)) (jP (Mn (aq 8 (zE eS) h S) (aq 9 (zE eS) e S))) (jP (TN (aq 8 (zE eS) h S) (aq 9 (zE eS) e S))) (cQ (aq 7 (zE eI) a S) 3 (by decide))) λb=>(bN (bG b S))))))))
def mJ(g:Int)(h:Int)(i:Int):fU:=(let f:=("abcd":AJ);(let d:=((rng 0 (kN 30)).map λa:Int=>(Txt.mul (ch f (a / (8:Int))) (1+(a%8))));(let e:=((rng 0 (kN 30)).map λa:Int=>(at' d (((7*a)+h)%30)));(let b:=([]:Z aF);(let b:(Z aF):=((rng 0 (29+(g%2)).toNat).foldl (λ(b:Z aF) (a:Int)=>(dU i e b a)) b);((lg d),((ug aJ b).map λc:aF=>(((0:Int)-c.1),c.2.1,c.2.2.1,c.2.2.2)),([]:Z qK)))))))
def mK(f:Int)(h:Int)(g:Int):Prop:=(let e:=("abcd":AJ);(((rng 0 (kN 30)).length<=100000/\(∀a∈(rng 0 (kN 30)),(In e.length (a / (8:Int))/\((1+(a%8))<=1000 ∧ -1000<=(1+(a%8))/\(ch e (a / (8:Int))).length<=1000))))/\(let d:=((rng 0 (kN 30)).map λa:Int=>(Txt.mul (ch e (a / (8:Int))) (1+(a%8))));(((rng 0 (kN 30)).length<=100000/\(∀a∈(rng 0 (kN 30)),In d.length (((7*a)+h)%30)))/\(let c:=((rng 0 (kN 30)).map λa:Int=>(at' d (((7*a)+h)%30)));(let b:=([]:Z aF);((Rg (29+(f%2))/\kY (λ(b:Z aF) (a:Int)=>(dU g c b a)) (λ(b:Z aF) (a:Int)=>U (j8 g c b a)) (rng 0 (29+(f%2)).toNat) b)/\(let b:(Z aF):=((rng 0 (29+(f%2)).toNat).foldl (λ(b:Z aF) (a:Int)=>(dU g c b a)) b);(d.length<64/\(b.length<64/\(ug aJ b).length<=100000))))))))))
theorem Q0(c:Int)(d:Int)(e:Int):RP pW [U (zE eI c),U (zE eI d),U (zE eI e),Y,Y,Y,Y,Y,Y,Y,Y] (λr=>An.rt (zE bV r)) (mJ c d e) (U (mK c d e)):=R.tp (bJ 3 (DE "abcd") (λ_=>S) λh=>(bJ 4 (Am (Lc 30 30 S (by unfold Rg;decide)) _ (λ_=>S) (λb:Int=>(Lv (Qm (aq 0 (zE eS) h S) (su (aq 1 (zE eI) b S) 8 (by decide))) (fP (B5 1) (cQ (aq 1 (zE eI) b S) 8 (by decide)))))) (λ_=>S) λf=>(bJ 5 (Am (Lc 30 30 S (by unfold Rg;decide)) _ (λ_=>S) (λb:Int=>(d9 (cX (aq 0 (lE eS) f S)) (cQ (fP (Ml 7 (by decide) (aq 2 (zE eI) b S)) (aq 1 (zE eI) d S)) 30 (by decide))))) (λ_=>S) λi=>(bJ 6 (eF (cM aJ) (zz S)) (λ_=>S) λa=>(G4 (λa:(Z aF)=>[U (zE eI c),U (zE eI d),U (zE eI e),U (zE eS h),U (oE eS f),U (oE eS i),U (oE aJ a),Y,Y,Y,Y]) a S (J3 (fP (B5 29) (cQ (aq 0 (zE eI) c S) 2 (by decide)))) _ (λ_ _=>S) (λ(a:Z aF) (b:Int)=>(Hu c d e h f i a b).r) λa=>(fQ (λr=>r) (TF (wz (gC (Mr (cX (aq 4 (lE eS) f S))))) (wz (gC (pN (GZ (gC (WE (cX (aq 6 (lE aJ) a S))))) _ (λ_=>S) (λg:aF=>(Mp (Qk (B5 0) (aq 0 (zE eI) g.1 S)) (aq 1 (zE eS) g.2.1 S) (aq 2 (zE eS) g.2.2.1 S) (aq 3 (zE eI) g.2.2.2 S))) λ_=>S))) (WJ Ao)) (λ_=>S) λ_=>S))))))
theorem Q5:∀v bs,(aZ eI (aZ eI (aZ eI aN))) v bs->bs.length=3/\(hold (U (mK v.1 v.2.1 v.2.2.1))->pX (bs.map lend)=U ((zE bV) (mJ v.1 v.2.1 v.2.2.1))):=by
 rintro⟨c,a,b,_⟩ _ ⟨_,rfl,⟨_,rfl,⟨_,rfl,rfl⟩⟩⟩;exact⟨rfl,λh=>dJ (g:=pW) (n:=11) (bs:=[.z (eI c),.z (eI a),.z (eI b)]) (Q0 c a b) h⟩
def fH(g:B7)(d:AJ)(e:AJ)(f:Int)(c:AZ)(b:Int):AZ:=(let h:=(ch d ((b+(at' g 2))%15));(let a:=(((Txt.slice e Y (U f))++h)++(Txt.slice e (U f) Y));(let a:AJ:=(if(decide (((at' g 3)%3)=1))=true then(let a:=(Txt.mul (ch d (b / (8:Int))) (1+(b%8)));a)else a);(let c:=c++[a];c))))
def j9(b:B7)(c:AJ)(d:AJ)(e:Int)(h:AZ)(a:Int):Prop:=((In b.length 2/\In c.length ((a+(at' b 2))%15))/\(let g:=(ch c ((a+(at' b 2))%15));((sy ((Txt.slice d Y (U e)).length+g.length)/\sy (((Txt.slice d Y (U e))++g).length+(Txt.slice d (U e) Y).length))/\(let f:=(((Txt.slice d Y (U e))++g)++(Txt.slice d (U e) Y));((In b.length 3/\((decide (((at' b 3)%3)=1))=true->(In c.length (a / (8:Int))/\((1+(a%8))<=1000 ∧ -1000<=(1+(a%8))/\(ch c (a / (8:Int))).length<=1000))))/\(let f:AJ:=(if(decide (((at' b 3)%3)=1))=true then(let f:=(Txt.mul (ch c (a / (8:Int))) (1+(a%8)));f)else f);sy h.length))))))
theorem Hv(g:B7)(i:Lp dG (g.map eI))(h:Int)(b:AJ)(d:AJ)(e:Int)(a:AZ)(c:Int):RP pA [U dG,U (zE eI h),U (zE eS b),U (zE eS d),U (zE eI e),U (oE eS a),U (zE eI c),Y,Y] (λs=>An.nx ((λa:AZ=>[U dG,U (zE eI h),U (zE eS b),U (zE eS d),U (zE eI e),U (oE eS a),Y,Y,Y]) s)) (fH g b d e a c) (U (j9 g b d e a c)):=R.tp (bC (bJ 7 (Qm (aq 2 (zE eS) b S) (cQ (fP (aq 6 (zE eI) c S) (d9 (jA 0 eI g i S) (B5 2))) 15 (by decide))) (λ_=>S) λj=>(bC (bJ 8 (sE (sE (BP (aq 3 (zE eS) d S) xU (xV (aq 4 (zE eI) e S))) (aq 7 (zE eS) j S)) (BP (aq 3 (zE eS) d S) (xV (aq 4 (zE eI) e S)) xU)) (λ_=>S) λf=>(bC (wV (λf:AJ=>[U dG,U (zE eI h),U (zE eS b),U (zE eS d),U (zE eI e),U (oE eS a),U (zE eI c),U (zE eS j),U (zE eS f)]) (eE (C4 (by decide) (cQ (d9 (jA 0 eI g i S) (B5 3)) 3 (by decide)) (B5 1))) (bC (bJ 8 (Lv (Qm (aq 2 (zE eS) b S) (su (aq 6 (zE eI) c S) 8 (by decide))) (fP (B5 1) (cQ (aq 6 (zE eI) c S) 8 (by decide)))) (λ_=>S) λf=>(bN (bG f S)))) (bN (bG f S)) λf=>(bC (wU 5 a S (aq 8 (zE eS) f S) λa=>(bN (bG a S))))))))))
def kh(c:B7)(g:Int)(d:AJ)(b:AJ):AZ:=(let f:=((at' c 1)%((b.length:Int)+1));(let a:=([]:AZ);(let a:AZ:=((rng 0 g.toNat).foldl (λ(a:AZ) (e:Int)=>(fH c d b f a e)) a);a)))
def pD(c:B7)(g:Int)(e:AJ)(b:AJ):Prop:=((In c.length 1/\0<((b.length:Int)+1))/\(let f:=((at' c 1)%((b.length:Int)+1));(let a:=([]:AZ);(Rg g/\kY (λ(a:AZ) (d:Int)=>(fH c e b f a d)) (λ(a:AZ) (d:Int)=>U (j9 c e b f a d)) (rng 0 g.toNat) a))))
def Hw:Ev->O An:=(aD (At 4 (b2 fj (b2 gK (gv 0) (cB (.int 1))) (b2 dH (cg uW (ao (gv 3) aH)) (cB (.int 1))))) (aD (At 5 (cg gY aH)) (aD (pI (O7 (ao (gv 1) aH)) (mz 6) pA) (aD (CG 5) fB))))
theorem Hx(e:B7)(f:Lp dG (e.map eI))(c:Int)(d:AJ)(b:AJ):RP Hw [U dG,U (zE eI c),U (zE eS d),U (zE eS b),Y,Y,Y,Y,Y] (λr=>An.rt (oE eS r)) (kh e c d b) (U (pD e c d b)):=R.tp (bJ 4 (vA (d9 (jA 0 eI e f S) (B5 1)) (fP (NH (aq 3 (zE eS) b S)) (B5 1))) (λ_=>S) λg=>(bJ 5 (eF (cM eS) (zz S)) (λ_=>S) λa=>(G4 (λa:AZ=>[U dG,U (zE eI c),U (zE eS d),U (zE eS b),U (zE eI g),U (oE eS a),Y,Y,Y]) a S (J3 (aq 1 (zE eI) c S)) _ (λ_ _=>S) (λ(a:AZ) (h:Int)=>(Hv e f c d b g a h).r) λa=>(G3 5 (λr=>r) a S (λ_=>S) λ_=>S))))
def bY(a:B7)(e:Int):AZ:=(let b:=("abcdefghijklmnopqrstuvwxyz":AJ);(let d:=(Txt.join "" ((rng 0 ((at' a 0)%6).toNat).map λc:Int=>(ch b (((at' a c) / (40:Int))%26))));(kh a e b d)))
def qz(a:B7)(e:Int):Prop:=(let c:=("abcdefghijklmnopqrstuvwxyz":AJ);(((((In a.length 0/\Rg ((at' a 0)%6))/\(rng 0 ((at' a 0)%6).toNat).length<=100000)/\(∀b∈(rng 0 ((at' a 0)%6).toNat),(In a.length b/\In c.length (((at' a b) / (40:Int))%26))))/\(((rng 0 ((at' a 0)%6).toNat).map λb:Int=>(ch c (((at' a b) / (40:Int))%26))).map (·.length)).sum+((rng 0 ((at' a 0)%6).toNat).map λb:Int=>(ch c (((at' a b) / (40:Int))%26))).length*("":AJ).length<=100000)/\(let d:=(Txt.join "" ((rng 0 ((at' a 0)%6).toNat).map λb:Int=>(ch c (((at' a b) / (40:Int))%26))));(pD a e c d))))
theorem Q6(a:B7)(b:Lp dG (a.map eI))(c:Int):RP pY [U dG,U (zE eI c),Y,Y,Y,Y,Y,Y,Y] (λr=>An.rt (oE eS r)) (bY a c) (U (qz a c)):=R.tp (bJ 2 (DE "abcdefghijklmnopqrstuvwxyz") (λ_=>S) λd=>(bJ 3 (Wl "" (gC (Am (J3 (cQ (d9 (jA 0 eI a b S) (B5 0)) 6 (by decide))) _ (λ_=>S) (λe:Int=>(Qm (aq 0 (zE eS) d S) (cQ (su (d9 (jA 1 eI a b (congrArg U (b.get S))) (aq 2 (zE eI) e S)) 40 (by decide)) 26 (by decide))))))) (λ_=>S) λf=>(Hx a b c d f).r))
theorem Q7:∀v bs,(aL eI (aZ eI aN)) v bs->bs.length=2/\(hold (U (qz v.1 v.2.1))->mH (bs.map lend)=U ((oE eS) (bY v.1 v.2.1))):=by
 rintro⟨c,a,_⟩ _ ⟨dG,_,rfl,b,⟨_,rfl,rfl⟩⟩;exact⟨rfl,λh=>dJ (g:=pY) (n:=9) (bs:=[lend dG,.z (eI a)]) (Q6 c (o8 b) a) h⟩
def dh(l:B7)(j:Int)(e:Int)(h:B7)(f:AZ)(a:Z aF)(g:Int):(Z aF):=(let b:=(aR (aV l ((j+1)+g)) 4);(let y1:=((at' b 0)%(if e>1 then e else 1));let y2:=((at' b 1)%(if e>1 then e else 1));let d:=y1;let c:=y2;(let i:=(at' [(1+((at' b 2)%3)),(1+((at' b 2)%9)),(1+((at' b 2)%1000))] ((at' h 4)%3));(let a:(Z aF):=(if(!decide (d=c))=true then(let a:=a++[(((0:Int)-i),(at' f (if c<d then c else d)),(at' f (if c>d then c else d)),(at' [(0:Int),(2:Int),(10:Int)] ((at' b 3)%3)))];a)else a);a))))
def ig(h:B7)(g:Int)(b:Int)(f:B7)(i:AZ)(j:Z aF)(e:Int):Prop:=(((f9 h ((g+1)+e))/\(eU (aV h ((g+1)+e)) 4))/\(let a:=(aR (aV h ((g+1)+e)) 4);(((In a.length 0/\0<(if b>1 then b else 1))/\(In a.length 1/\0<(if b>1 then b else 1)))/\(let y1:=((at' a 0)%(if b>1 then b else 1));let y2:=((at' a 1)%(if b>1 then b else 1));let d:=y1;let c:=y2;((((In a.length 2/\(In a.length 2/\In a.length 2))/\In f.length 4)/\In [(1+((at' a 2)%3)),(1+((at' a 2)%9)),(1+((at' a 2)%1000))].length ((at' f 4)%3))/\(let l:=(at' [(1+((at' a 2)%3)),(1+((at' a 2)%9)),(1+((at' a 2)%1000))] ((at' f 4)%3));((!decide (d=c))=true->((In i.length (if c<d then c else d)/\(In i.length (if c>d then c else d)/\(In a.length 3/\In [(0:Int),(2:Int),(10:Int)].length ((at' a 3)%3))))/\sy j.length))))))))
theorem CW(j:B7)(o:Lp dG (j.map eI))(f:Int)(c:Int)(m:Int)(l:Int)(e:B7)(b:AZ)(a:Z aF)(g:Int):RP mV [U dG,U (zE eI f),U (zE eI c),U (zE eI m),U (zE eI l),U (oE eI e),U (oE eS b),U (oE aJ a),U (zE eI g),Y,Y,Y,Y,Y,Y] (λs=>An.nx ((λa:(Z aF)=>[U dG,U (zE eI f),U (zE eI c),U (zE eI m),U (zE eI l),U (oE eI e),U (oE eS b),U (oE aJ a),Y,Y,Y,Y,Y,Y,Y]) s)) (dh j f c e b a g) (U (ig j f c e b a g)):=R.tp (bC (bJ 9 (Ap jC (bU (jP (Ap pC (wM (jA 0 eI j o S) (bU (jP (fP (fP (aq 1 (zE eI) f S) (B5 1)) (aq 8 (zE eI) g S))) bT)))) (bU (B5 4) bT))) (λ_=>S) λd=>(bC (HV 10 11 (vA (d9 (cX (aq 9 (lE eI) d S)) (B5 0)) (BR (B5 1) (aq 2 (zE eI) c S))) (vA (d9 (cX (aq 9 (lE eI) d S)) (B5 1)) (BR (B5 1) (aq 2 (zE eI) c S))) λi h=>(bC (bJ 12 (d9 (gC (eF (bx (jP (fP (B5 1) (cQ (d9 (cX (aq 9 (lE eI) d S)) (B5 2)) 3 (by decide)))) (bx (jP (fP (B5 1) (cQ (d9 (cX (aq 9 (lE eI) d S)) (B5 2)) 9 (by decide)))) (bx (jP (fP (B5 1) (cQ (d9 (cX (aq 9 (lE eI) d S)) (B5 2)) 1000 (by decide)))) (cM eI)))) (zz S))) (cQ (d9 (cX (aq 5 (lE eI) e S)) (B5 4)) 3 (by decide))) (λ_=>S) λn=>(bC (wV (λa:(Z aF)=>[U dG,U (zE eI f),U (zE eI c),U (zE eI m),U (zE eI l),U (oE eI e),U (oE eS b),U (oE aJ a),U (zE eI g),U (oE eI d),U (zE eI i),U (zE eI h),U (zE eI n),Y,Y]) (eE (IA (by decide) (aq 10 (zE eI) i S) (aq 11 (zE eI) h S))) (bC (wU 7 a S (Mp (Qk (B5 0) (aq 12 (zE eI) n S)) (d9 (cX (aq 6 (lE eS) b S)) (My (aq 10 (zE eI) i S) (aq 11 (zE eI) h S))) (d9 (cX (aq 6 (lE eS) b S)) (BR (aq 10 (zE eI) i S) (aq 11 (zE eI) h S))) (d9 (gC (eF (bx (B5 0) (bx (B5 2) (bx (B5 10) (cM eI)))) (zz S))) (cQ (d9 (cX (aq 9 (lE eI) d S)) (B5 3)) 3 (by decide)))) λa=>(bN (bG a S)))) (bN (bG a S)) λa=>(bN (bG a S))))))))))
def dj(j:B7)(i:Int)(d:Int)(f:AZ)(a:Z qK)(g:Int):(Z qK):=(let e:=(aR (aV j ((i+1)+g)) 8);(let l:=((at' e 5)%(if d>1 then d else 1));let h:=((at' e 6)%(if d>1 then d else 1));let c:=l;let b:=h;(let a:(Z qK):=(if(!decide (c=b))=true then(let a:=a++[((at' f (if b<c then b else c)),(at' f (if b>c then b else c)),(at' [(2:Int),(10:Int)] ((at' e 7)%2)))];a)else a);a)))
def iu(g:B7)(f:Int)(a:Int)(h:AZ)(i:Z qK)(e:Int):Prop:=(((f9 g ((f+1)+e))/\(eU (aV g ((f+1)+e)) 8))/\(let b:=(aR (aV g ((f+1)+e)) 8);(((In b.length 5/\0<(if a>1 then a else 1))/\(In b.length 6/\0<(if a>1 then a else 1)))/\(let l:=((at' b 5)%(if a>1 then a else 1));let j:=((at' b 6)%(if a>1 then a else 1));let d:=l;let c:=j;((!decide (d=c))=true->((In h.length (if c<d then c else d)/\(In h.length (if c>d then c else d)/\(In b.length 7/\In [(2:Int),(10:Int)].length ((at' b 7)%2))))/\sy i.length))))))
theorem CZ(i:B7)(p:Lp dG (i.map eI))(d:Int)(c:Int)(o:Int)(j:Int)(m:B7)(b:AZ)(n:Z aF)(l:Z aF)(a:Z qK)(e:Int):RP mX [U dG,U (zE eI d),U (zE eI c),U (zE eI o),U (zE eI j),U (oE eI m),U (oE eS b),U (oE aJ n),U (zE eI e),Y,Y,Y,Y,U (oE aJ l),U (oE Ao a)] (λs=>An.nx ((λa:(Z qK)=>[U dG,U (zE eI d),U (zE eI c),U (zE eI o),U (zE eI j),U (oE eI m),U (oE eS b),U (oE aJ n),Y,Y,Y,Y,Y,U (oE aJ l),U (oE Ao a)]) s)) (dj i d c b a e) (U (iu i d c b a e)):=R.tp (bC (bJ 9 (Ap jC (bU (jP (Ap pC (wM (jA 0 eI i p S) (bU (jP (fP (fP (aq 1 (zE eI) d S) (B5 1)) (aq 8 (zE eI) e S))) bT)))) (bU (B5 8) bT))) (λ_=>S) λh=>(bC (HV 10 11 (vA (d9 (cX (aq 9 (lE eI) h S)) (B5 5)) (BR (B5 1) (aq 2 (zE eI) c S))) (vA (d9 (cX (aq 9 (lE eI) h S)) (B5 6)) (BR (B5 1) (aq 2 (zE eI) c S))) λg f=>(bC (wV (λa:(Z qK)=>[U dG,U (zE eI d),U (zE eI c),U (zE eI o),U (zE eI j),U (oE eI m),U (oE eS b),U (oE aJ n),U (zE eI e),U (oE eI h),U (zE eI g),U (zE eI f),Y,U (oE aJ l),U (oE Ao a)]) (eE (IA (by decide) (aq 10 (zE eI) g S) (aq 11 (zE eI) f S))) (bC (wU 14 a S (TF (d9 (cX (aq 6 (lE eS) b S)) (My (aq 10 (zE eI) g S) (aq 11 (zE eI) f S))) (d9 (cX (aq 6 (lE eS) b S)) (BR (aq 10 (zE eI) g S) (aq 11 (zE eI) f S))) (d9 (gC (eF (bx (B5 2) (bx (B5 10) (cM eI))) (zz S))) (cQ (d9 (cX (aq 9 (lE eI) h S)) (B5 7)) 2 (by decide)))) λa=>(bN (bG a S)))) (bN (bG a S)) λa=>(bN (bG a S))))))))
def mZ(j:B7)(i:Int)(h:Int)(m:Int)(d:Int)(l:B7)(c:AZ)(g:Z aF):fU:=(let f:=((ug aJ (JZ g)).map λb:aF=>(((0:Int)-b.1),b.2.1,b.2.2.1,b.2.2.2));(let a:=([]:Z qK);(let a:(Z qK):=((rng 0 d.toNat).foldl (λ(a:Z qK) (e:Int)=>(dj j i h c a e)) a);(c,f,(ug Ao (JZ a))))))
def m7(i:B7)(h:Int)(g:Int)(m:Int)(e:Int)(l:B7)(f:AZ)(d:Z aF):Prop:=(((d.length<=64/\d.length<64)/\(ug aJ (JZ d)).length<=100000)/\(let j:=((ug aJ (JZ d)).map λc:aF=>(((0:Int)-c.1),c.2.1,c.2.2.1,c.2.2.2));(let a:=([]:Z qK);((Rg e/\kY (λ(a:Z qK) (b:Int)=>(dj i h g f a b)) (λ(a:Z qK) (b:Int)=>U (iu i h g f a b)) (rng 0 e.toNat) a)/\(let a:(Z qK):=((rng 0 e.toNat).foldl (λ(a:Z qK) (b:Int)=>(dj i h g f a b)) a);(a.length<=64/\a.length<64))))))
def ur:Ev->O An:=(aD (At 13 (gB (Io (Gs (Tj (gv 7)))) (wO 4 (dW (mz 0) (dW (mz 1) (dW (mz 2) (dW (mz 3) Bl))))) rR (cg qR (ao (b2 C5 (cB (.int 0)) (gv 0)) (ao (gv 1) (ao (gv 2) (ao (gv 3) aH))))) [] 4)) (aD (At 14 (cg gY aH)) (aD (pI (O7 (ao (gv 4) aH)) (mz 8) mX) (aD (jw (cg qR (ao (cg lB (ao (gv 6) aH)) (ao (cg lB (ao (gv 13) aH)) (ao (cg lB (ao (Gs (Tj (gv 14))) aH)) aH))))) fB))))
theorem Dc(j:B7)(m:Lp dG (j.map eI))(h:Int)(f:Int)(g:Int)(b:Int)(e:B7)(c:AZ)(d:Z aF):RP ur [U dG,U (zE eI h),U (zE eI f),U (zE eI g),U (zE eI b),U (oE eI e),U (oE eS c),U (oE aJ d),Y,Y,Y,Y,Y,Y,Y] (λr=>An.rt (zE bV r)) (mZ j h f g b e c d) (U (m7 j h f g b e c d)):=R.tp (bJ 13 (pN (GZ (gC (Me (Nl (cX (aq 7 (lE aJ) d S)))))) _ (λ_=>S) (λi:aF=>(Mp (Qk (B5 0) (aq 0 (zE eI) i.1 S)) (aq 1 (zE eS) i.2.1 S) (aq 2 (zE eS) i.2.2.1 S) (aq 3 (zE eI) i.2.2.2 S))) λ_=>S) (λ_=>S) λl=>(bJ 14 (eF (cM Ao) (zz S)) (λ_=>S) λa=>(G4 (λa:(Z qK)=>[U dG,U (zE eI h),U (zE eI f),U (zE eI g),U (zE eI b),U (oE eI e),U (oE eS c),U (oE aJ d),Y,Y,Y,Y,Y,U (oE aJ l),U (oE Ao a)]) a S (J3 (aq 4 (zE eI) b S)) _ (λ_ _=>S) (λ(a:Z qK) (n:Int)=>(CZ j m h f g b e c d l a n).r) λa=>(fQ (λr=>r) (TF (wz (cX (aq 6 (lE eS) c S))) (wz (cX (aq 13 (lE aJ) l S))) (wz (gC (Me (Nl (cX (aq 14 (lE Ao) a S))))))) (λ_=>S) λ_=>S))))
def m9(g:B7)(f:Int)(d:Int)(e:Int)(h:Int)(c:B7)(b:AZ):fU:=(let a:=([]:Z aF);(let a:(Z aF):=((rng 0 e.toNat).foldl (λ(a:Z aF) (i:Int)=>(dh g f d c b a i)) a);(mZ g f d e h c b a)))
def ni(h:B7)(g:Int)(e:Int)(f:Int)(i:Int)(d:B7)(c:AZ):Prop:=(let a:=([]:Z aF);((Rg f/\kY (λ(a:Z aF) (b:Int)=>(dh h g e d c a b)) (λ(a:Z aF) (b:Int)=>U (ig h g e d c a b)) (rng 0 f.toNat) a)/\(let a:(Z aF):=((rng 0 f.toNat).foldl (λ(a:Z aF) (b:Int)=>(dh h g e d c a b)) a);(m7 h g e f i d c a))))
def uw:Ev->O An:=(aD (At 7 (cg gY aH)) (aD (pI (O7 (ao (gv 3) aH)) (mz 8) mV) ur))
theorem Dg(h:B7)(i:Lp dG (h.map eI))(g:Int)(f:Int)(b:Int)(c:Int)(e:B7)(d:AZ):RP uw [U dG,U (zE eI g),U (zE eI f),U (zE eI b),U (zE eI c),U (oE eI e),U (oE eS d),Y,Y,Y,Y,Y,Y,Y,Y] (λr=>An.rt (zE bV r)) (m9 h g f b c e d) (U (ni h g f b c e d)):=R.tp (bJ 7 (eF (cM aJ) (zz S)) (λ_=>S) λa=>(G4 (λa:(Z aF)=>[U dG,U (zE eI g),U (zE eI f),U (zE eI b),U (zE eI c),U (oE eI e),U (oE eS d),U (oE aJ a),Y,Y,Y,Y,Y,Y,Y]) a S (J3 (aq 3 (zE eI) b S)) _ (λ_ _=>S) (λ(a:Z aF) (j:Int)=>(CW h i g f b c e d a j).r) λa=>(Dc h i g f b c e d a).r))
def nj(g:B7)(f:Int)(b:Int)(e:Int)(c:Int)(a:B7):fU:=(let d:=(lg (bY a b));(m9 g f b e c a d))
def nu(g:B7)(f:Int)(b:Int)(e:Int)(c:Int)(a:B7):Prop:=(((qz a b)/\(bY a b).length<64)/\(let d:=(lg (bY a b));(ni g f b e c a d)))
def Dh:Ev->O An:=(aD (At 6 (cg Bq (ao (cj 2 mH (ao (gv 5) (ao (gv 2) aH))) aH))) uw)
theorem Di(f:B7)(g:Lp dG (f.map eI))(e:Int)(b:Int)(d:Int)(c:Int)(a:B7):RP Dh [U dG,U (zE eI e),U (zE eI b),U (zE eI d),U (zE eI c),U (oE eI a),Y,Y,Y,Y,Y,Y,Y,Y,Y] (λr=>An.rt (zE bV r)) (nj f e b d c a) (U (nu f e b d c a)):=R.tp (bJ 6 (Mr (gC (Ap Q7 (wM (cX (aq 5 (lE eI) a S)) (bU (aq 2 (zE eI) b S) bT))))) (λ_=>S) λh=>(Dg f g e b d c a h).r)
def oH(b:B7)(a:Int)(f:Int)(e:Int)(c:Int):fU:=(let d:=(aR (aV b a) 6);(nj b a f e c d))
def oJ(b:B7)(a:Int)(f:Int)(e:Int)(c:Int):Prop:=(((f9 b a)/\(eU (aV b a) 6))/\(let d:=(aR (aV b a) 6);(nu b a f e c d)))
theorem Nj(b:B7)(f:Lp dG (b.map eI))(a:Int)(d:Int)(e:Int)(c:Int):RP nM [U dG,U (zE eI a),U (zE eI d),U (zE eI e),U (zE eI c),Y,Y,Y,Y,Y,Y,Y,Y,Y,Y] (λr=>An.rt (zE bV r)) (oH b a d e c) (U (oJ b a d e c)):=R.tp (bJ 5 (Ap jC (bU (jP (Ap pC (wM (jA 0 eI b f S) (bU (aq 1 (zE eI) a S) bT)))) (bU (B5 6) bT))) (λ_=>S) λg=>(Di b f a d e c g).r)
theorem Nk:∀v bs,(aL eI (aZ eI (aZ eI (aZ eI (aZ eI aN))))) v bs->bs.length=5/\(hold (U (oJ v.1 v.2.1 v.2.2.1 v.2.2.2.1 v.2.2.2.2.1))->nO (bs.map lend)=U ((zE bV) (oH v.1 v.2.1 v.2.2.1 v.2.2.2.1 v.2.2.2.2.1))):=by
 rintro⟨f,d,b,c,a,_⟩ _ ⟨dG,_,rfl,e,⟨_,rfl,⟨_,rfl,⟨_,rfl,⟨_,rfl,rfl⟩⟩⟩⟩⟩;exact⟨rfl,λh=>dJ (g:=nM) (n:=15) (bs:=[lend dG,.z (eI d),.z (eI b),.z (eI c),.z (eI a)]) (Nj f (o8 e) d b c a) h⟩
def iT(b:B7):fU:=(let a:=(aR (aV b 0) 12);(if(decide (((at' a 9)%16)=5))=true then(mJ ((at' a 9) / (16:Int)) (at' a 10) (at' a 11))else(let c:=((at' a 6)%15);(oH b 0 c ((at' a 7)%22) ((at' a 8)%4)))))
def mL(b:B7):Prop:=(((f9 b 0)/\(eU (aV b 0) 12))/\(let a:=(aR (aV b 0) 12);(In a.length 9/\(((decide (((at' a 9)%16)=5))=true->((In a.length 9/\(In a.length 10/\In a.length 11))/\(mK ((at' a 9) / (16:Int)) (at' a 10) (at' a 11))))/\((decide (((at' a 9)%16)=5))=false->(In a.length 6/\(let c:=((at' a 6)%15);((In a.length 7/\In a.length 8)/\(oJ b 0 c ((at' a 7)%22) ((at' a 8)%4))))))))))
theorem Q8(b:B7)(c:Lp dG (b.map eI)):RP pZ [U dG,Y,Y] (λr=>An.rt (zE bV r)) (iT b) (U (mL b)):=R.tp (bJ 1 (Ap jC (bU (jP (Ap pC (wM (jA 0 eI b c S) (bU (B5 0) bT)))) (bU (B5 12) bT))) (λ_=>S) λa=>(o9 (eE (C4 (by decide) (cQ (d9 (cX (aq 1 (lE eI) a S)) (B5 9)) 16 (by decide)) (B5 5))) (bC (fQ (λr=>r) (Ap Q5 (bU (su (d9 (cX (aq 1 (lE eI) a S)) (B5 9)) 16 (by decide)) (bU (d9 (cX (aq 1 (lE eI) a S)) (B5 10)) (bU (d9 (cX (aq 1 (lE eI) a S)) (B5 11)) bT)))) (λ_=>S) λ_=>S)) (bN (bJ 2 (cQ (d9 (cX (aq 1 (lE eI) a S)) (B5 6)) 15 (by decide)) (λ_=>S) λd=>(fQ (λr=>r) (Ap Nk (wM (jA 0 eI b c S) (bU (B5 0) (bU (aq 2 (zE eI) d S) (bU (cQ (d9 (cX (aq 1 (lE eI) a S)) (B5 7)) 22 (by decide)) (bU (cQ (d9 (cX (aq 1 (lE eI) a S)) (B5 8)) 4 (by decide)) bT)))))) (λ_=>S) λ_=>S)))))
theorem Q9:∀v bs,(aL eI aN) v bs->bs.length=1/\(hold (U (mL v.1))->qb (bs.map lend)=U ((zE bV) (iT v.1))):=by
 rintro⟨b,_⟩ _ ⟨dG,_,rfl,a,rfl⟩;exact⟨rfl,λh=>dJ (g:=pZ) (n:=3) (bs:=[lend dG]) (Q8 b (o8 a)) h⟩
def cJ(b:Z AZ)(q1:aF):(Z AZ):=(let c:=(at' ((b.filter λa:AZ=>(decide (q1.2.1∈a))).map λa:AZ=>a) 0);(let vx:=(at' ((b.filter λa:AZ=>(decide (q1.2.2.1∈a))).map λa:AZ=>a) 0);(let b:(Z AZ):=(if(!decide (c=vx))=true then(let b:=(((b.filter λa:AZ=>(!sJ a [c,vx])).map λa:AZ=>a)++[(lg (c++vx))]);b)else b);b)))
def gF(b:Z AZ)(q1:aF):Prop:=((b.length<=100000/\In ((b.filter λa:AZ=>(decide (q1.2.1∈a))).map λa:AZ=>a).length 0)/\(let c:=(at' ((b.filter λa:AZ=>(decide (q1.2.1∈a))).map λa:AZ=>a) 0);((b.length<=100000/\In ((b.filter λa:AZ=>(decide (q1.2.2.1∈a))).map λa:AZ=>a).length 0)/\(let vx:=(at' ((b.filter λa:AZ=>(decide (q1.2.2.1∈a))).map λa:AZ=>a) 0);((!decide (c=vx))=true->((b.length<=100000/\(sy (c.length+vx.length)/\(c++vx).length<64))/\sy (((b.filter λa:AZ=>(!sJ a [c,vx])).map λa:AZ=>a).length+[(lg (c++vx))].length)))))))
theorem Az(e:AZ)(f:Z aF){c:Bx}(g:Lp c (f.map aJ))(a:Z AZ)(q1:aF):RP vH [U ((zE (eT eS)) e),U c,U ((oE (eL eS)) a),U ((zE eI) q1.1),U ((zE eS) q1.2.1),U ((zE eS) q1.2.2.1),U ((zE eI) q1.2.2.2),Y,Y] (λs=>An.nx ((λa:(Z AZ)=>[U ((zE (eT eS)) e),U c,U ((oE (eL eS)) a),Y,Y,Y,Y,Y,Y]) s)) (cJ  a q1) (U (gF  a q1)):=R.tp (bC (bJ 7 (d9 (gC (GX (GZ (cX (aq 2 (lE (eL eS)) a S))) _ (λ_=>S) (λb:AZ=>(eE (LP (aq 0 (zE eS) q1.2.1 S) (yV (aq 1 (zE (eL eS)) b S))))) (λb:AZ=>(aq 1 (zE (eL eS)) b S)) (λ_=>S) λ_=>S)) (B5 0)) (λ_=>S) λd=>(bC (bJ 8 (d9 (gC (GX (GZ (cX (aq 2 (lE (eL eS)) a S))) _ (λ_=>S) (λb:AZ=>(eE (LP (aq 0 (zE eS) q1.2.2.1 S) (yV (aq 1 (zE (eL eS)) b S))))) (λb:AZ=>(aq 1 (zE (eL eS)) b S)) (λ_=>S) λ_=>S)) (B5 0)) (λ_=>S) λvx=>(bC (wV (λa:(Z AZ)=>[U ((zE (eT eS)) e),U c,U ((oE (eL eS)) a),U ((zE eI) q1.1),U ((zE eS) q1.2.1),U ((zE eS) q1.2.2.1),U ((zE eI) q1.2.2.2),U ((zE (eL eS)) d),U ((zE (eL eS)) vx)]) (eE (HC (by decide) (yV (aq 7 (zE (eL eS)) d S)) (yV (aq 8 (zE (eL eS)) vx S)))) (bC (bJ 2 (vB (gC (GX (GZ (cX (aq 2 (lE (eL eS)) a S))) _ (λ_=>S) (λb:AZ=>(eE (LW (by decide) (aq 2 (zE (eL eS)) b S) (gC (eF (bx (aq 0 (zE (eL eS)) d S) (bx (aq 1 (zE (eL eS)) vx S) (cM (eL eS)))) (zz S)))))) (λb:AZ=>(aq 2 (zE (eL eS)) b S)) (λ_=>S) λ_=>S)) (gC (eF (bx (Mj (Mr (gC (vB (yV (aq 7 (zE (eL eS)) d S)) (yV (aq 8 (zE (eL eS)) vx S)))))) (cM (eL eS))) (zz S)))) (λ_=>S) λa=>(bN (bG a S)))) (bN (bG a S)) λa=>(bN (bG a S))))))))
def iD(b:AZ)(e:Z aF):(Z AZ):=(let a:=(b.map λd:AJ=>[d]);(let a:(Z AZ):=(e.foldl (λ(a:Z AZ) (q1:aF)=>(cJ  a q1)) a);(vC (a.map λc:AZ=>c))))
def lU(c:AZ)(d:Z aF):Prop:=(c.length<=100000/\(let a:=(c.map λe:AJ=>[e]);(kY (λ(a:Z AZ) (q1:aF)=>(cJ  a q1)) (λ(a:Z AZ) (q1:aF)=>U (gF  a q1)) d a/\(let a:(Z AZ):=(d.foldl (λ(a:Z AZ) (q1:aF)=>(cJ  a q1)) a);(a.length<=100000/\((a.map λb:AZ=>b).length<64/\∀x∈(a.map λb:AZ=>b),x.isEmpty=false))))))
theorem Ji(b:AZ)(c:Z aF){d:Bx}(e:Lp d (c.map aJ)):RP qd [U ((zE (eT eS)) b),U d,Y,Y,Y,Y,Y,Y,Y] (λr=>An.rt ((oE (eT eS)) r)) (iD b c) (U (lU b c)):=R.tp (bJ 2 (pN (IF (aq 0 (zE (eT eS)) b S)) _ (λ_=>S) (λg:AJ=>(Mj (eF (bx (aq 0 (zE eS) g S) (cM eS)) (zz S)))) λ_=>S) (λ_=>S) λa=>(Mu 1 c (TY e S) (λa:(Z AZ)=>[U ((zE (eT eS)) b),U d,U ((oE (eL eS)) a),Y,Y,Y,Y,Y,Y]) a S _ (λ_ _=>S) (λ(a:Z AZ) (q1:aF)=>(Az b c e a q1).r) λa=>(fQ (λr=>r) (R1 (gC (pN (GZ (cX (aq 2 (lE (eL eS)) a S))) _ (λ_=>S) (λf:AZ=>(wz (yV (aq 0 (zE (eL eS)) f S)))) λ_=>S))) (λ_=>S) λ_=>S)))
theorem Jj:∀v bs,(aZ (eT eS) (aL aJ aN)) v bs->bs.length=2/\(hold (U (lU v.1 v.2.1))->qe (bs.map lend)=U ((oE (eT eS)) (iD v.1 v.2.1))):=by
 rintro⟨a,b,_⟩ _ ⟨_,rfl,⟨c,_,rfl,d,rfl⟩⟩;exact⟨rfl,λh=>dJ (g:=qd) (n:=9) (bs:=[.z (eT eS a),lend c]) (Ji a b (o8 d)) h⟩
def eV(d:AZ)(a:Z aF)(b:aF):(Z aF):=(let e:=(iD d a);(let a:(Z aF):=(if(!((e.map λc:AZ=>((decide (b.2.1∈c))&&(decide (b.2.2.1∈c)))).any id))=true then(let a:=a++[b];a)else a);a))
def lV(b:AZ)(a:Z aF)(c:aF):Prop:=((lU b a)/\(let d:=(iD b a);(d.length<=100000/\((!((d.map λe:AZ=>((decide (c.2.1∈e))&&(decide (c.2.2.1∈e)))).any id))=true->sy a.length))))
theorem Jk(c:AZ)(d:Z aF)(a:Z aF)(b:aF):RP wZ [U ((zE (eT eS)) c),U ((zE (eT aJ)) d),U (oE aJ a),U (zE aJ b),Y] (λs=>An.nx ((λa:(Z aF)=>[U ((zE (eT eS)) c),U ((zE (eT aJ)) d),U (oE aJ a),Y,Y]) s)) (eV c a b) (U (lV c a b)):=R.tp (bC (bJ 4 (Ap Jj (bU (aq 0 (zE (eT eS)) c S) (wM (cX (aq 2 (lE aJ) a S)) bT))) (λ_=>S) λe=>(bC (wV (λa:(Z aF)=>[U ((zE (eT eS)) c),U ((zE (eT aJ)) d),U (oE aJ a),U (zE aJ b),U ((oE (eT eS)) e)]) (GP (Tz (YO (gC (pN (GZ (cX (aq 4 (lE (eT eS)) e S))) _ (λ_=>S) (λf:AZ=>(Ql (Hn (nF (aq 0 (zE aJ) b S) (λq=>q.2.1) eS 1 λ_=>S) (aq 1 (zE (eT eS)) f S)) (Hn (nF (aq 0 (zE aJ) b S) (λq=>q.2.2.1) eS 2 λ_=>S) (aq 1 (zE (eT eS)) f S)))) λ_=>S))))) (bC (wU 2 a S (aq 3 (zE aJ) b S) λa=>(bN (bG a S)))) (bN (bG a S)) λa=>(bN (bG a S))))))
def gj(c:AZ)(d:Z aF):(Z aF):=(let a:=([]:Z aF);(let a:(Z aF):=(d.foldl (λ(a:Z aF) (b:aF)=>(eV c a b)) a);a))
def tW(c:AZ)(d:Z aF):Prop:=(let a:=([]:Z aF);kY (λ(a:Z aF) (b:aF)=>(eV c a b)) (λ(a:Z aF) (b:aF)=>U (lV c a b)) d a)
theorem Uu(c:AZ)(b:Z aF):RP sV [U ((zE (eT eS)) c),U ((zE (eT aJ)) b),Y,Y,Y] (λr=>An.rt (oE aJ r)) (gj c b) (U (tW c b)):=R.tp (bJ 2 (eF (cM aJ) (zz S)) (λ_=>S) λa=>(Mu 1 b (NI S) (λa:(Z aF)=>[U ((zE (eT eS)) c),U ((zE (eT aJ)) b),U (oE aJ a),Y,Y]) a S _ (λ_ _=>S) (λ(a:Z aF) (d:aF)=>(Jk c b a d).r) λa=>(G3 2 (λr=>r) a S (λ_=>S) λ_=>S)))
theorem Uv:∀v bs,(aZ (eT eS) (aZ (eT aJ) aN)) v bs->bs.length=2/\(hold (U (tW v.1 v.2.1))->sW (bs.map lend)=U ((oE aJ) (gj v.1 v.2.1))):=by
 rintro⟨b,a,_⟩ _ ⟨_,rfl,⟨_,rfl,rfl⟩⟩;exact⟨rfl,λh=>dJ (g:=sV) (n:=5) (bs:=[.z (eT eS b),.z (eT aJ a)]) (Uu b a) h⟩
def bW:Nat->(Z aF)->AJ->AJ->(Z aF)->(O (Z aF))
 |0,_,_,_,_=>default
 |n+1,vk,vv,vx,zR=>(if(decide (vv=vx))=true then(U [])else(BG (jB (λ(c:Unit) (a:aF)=>((if((!sJ a zR)&&(decide (vv∈[(a.2.1,a.2.2.1).1,(a.2.1,a.2.2.1).2])))=true then(let d:=(at' [eI a.1,eS a.2.1,eS a.2.2.1,eI a.2.2.2] (1+(if(decide (a.2.1=vv))=true then(1:Int)else 0)));(let b:=(bW n vk (Al d) vx (zR++[a]));(if b.isSome=true then(jt.rt (U ([a]++(b.getD default))))else(jt.nx ()))))else(jt.nx ())):jt (Unit) (O (Z aF)))) vk ()) (λr=>r) λc:Unit=>Y))
def iG:Nat->(Z aF)->AJ->AJ->(Z aF)->Prop
 |0,_,_,_,_=>False
 |n+1,vk,vv,vx,zR=>((decide (vv=vx))=false->(uf (λ(d:Unit) (a:aF)=>((if((!sJ a zR)&&(decide (vv∈[(a.2.1,a.2.2.1).1,(a.2.1,a.2.2.1).2])))=true then(let c:=(at' [eI a.1,eS a.2.1,eS a.2.2.1,eI a.2.2.2] (1+(if(decide (a.2.1=vv))=true then(1:Int)else 0)));(let b:=(bW n vk (Al c) vx (zR++[a]));(if b.isSome=true then(jt.rt (U ([a]++(b.getD default))))else(jt.nx ()))))else(jt.nx ())):jt (Unit) (O (Z aF)))) (λ(d:Unit) (a:aF)=>U (((!sJ a zR)&&(decide (vv∈[(a.2.1,a.2.2.1).1,(a.2.1,a.2.2.1).2])))=true->(In [eI a.1,eS a.2.1,eS a.2.2.1,eI a.2.2.2].length (1+(if(decide (a.2.1=vv))=true then(1:Int)else 0))/\(let c:=(at' [eI a.1,eS a.2.1,eS a.2.2.1,eI a.2.2.2] (1+(if(decide (a.2.1=vv))=true then(1:Int)else 0)));(((c=eS (Al c)/\sy (zR.length+[a].length))/\(iG n vk (Al c) vx (zR++[a])))/\(let b:=(bW n vk (Al c) vx (zR++[a]));(b.isSome=true->(b.isSome=true/\sy ([a].length+(b.getD default).length))))))))) vk ()/\(sI (jB (λ(d:Unit) (a:aF)=>((if((!sJ a zR)&&(decide (vv∈[(a.2.1,a.2.2.1).1,(a.2.1,a.2.2.1).2])))=true then(let c:=(at' [eI a.1,eS a.2.1,eS a.2.2.1,eI a.2.2.2] (1+(if(decide (a.2.1=vv))=true then(1:Int)else 0)));(let b:=(bW n vk (Al c) vx (zR++[a]));(if b.isSome=true then(jt.rt (U ([a]++(b.getD default))))else(jt.nx ()))))else(jt.nx ())):jt (Unit) (O (Z aF)))) vk ()) λd:Unit=>True)))
def Ba(n:Nat)(l:∀v bs,(aL aJ (aZ eS (aZ eS (aL aJ aN)))) v bs->bs.length=4/\(hold (U (iG n v.1 v.2.1 v.2.2.1 v.2.2.2.1))->iw n (bs.map lend)=U ((zE (eO (eL aJ))) (bW n v.1 v.2.1 v.2.2.1 v.2.2.2.1))))(f:Z aF)(g:Lp dG (f.map aJ))(b:AJ)(vx:AJ)(e:Z aF){c:Bx}(h:Lp c (e.map aJ)):R (wD (iw n)) [U dG,U (zE eS b),U (zE eS vx),U c,Y,Y,Y] (λr=>An.rt ((zE (eO (eL aJ))) r)):=(o9 (eE (C4 (by decide) (aq 1 (zE eS) b S) (aq 2 (zE eS) vx S))) (bC (fQ (λr=>r) (GF (Mj (eF (cM aJ) (zz S)))) (λ_=>S) λ_=>S)) (bN (ck 0 f (TY g S) (λd:Unit=>[U dG,U (zE eS b),U (zE eS vx),U c,Y,Y,Y]) () S _ (λ_ _=>S) (λ(d:Unit) (a:aF)=>((bC (o9 (VJ (eE (LW (by decide) (aq 4 (zE aJ) a S) (jA 3 aJ e h S))) (eE (Hn (aq 1 (zE eS) b S) (MZ (bE (aq 4 (zE aJ) a S) (λq=>(q.2.1,q.2.2.1)) uF (U 1) (U 3) S S λ_=>S) (λq=>[q.1,q.2]) (eT eS) λ_=>S)))) (bC (bJ 5 (R' (MZ (aq 4 (zE aJ) a S) (λq=>[eI q.1,eS q.2.1,eS q.2.2.1,eI q.2.2.2]) (eT eD) λ_=>S) (fP (B5 1) (TX (C4 (by decide) (nF (aq 4 (zE aJ) a S) (λq=>q.2.1) eS 1 λ_=>S) (aq 1 (zE eS) b S))))) (λ_=>S) λj=>(bC (bJ 6 (Ap l (wM (jA 0 aJ f g S) (bU (Ms (aq 5 (zE eD) j S) Al eS) (bU (aq 2 (zE eS) vx S) (wM (yV (Mj (vB (jA 3 aJ e h S) (gC (eF (bx (aq 4 (zE aJ) a S) (cM aJ)) (zz S)))))) bT))))) (λ_=>S) λi=>(bC (o9 (eE (Ei (aq 6 (zE (eO (eL aJ))) i S) λ_=>S)) (bC (fQ .rt (GF (Mj (vB (gC (eF (bx (aq 4 (zE aJ) a S) (cM aJ)) (zz S))) (yV (BL (aq 6 (zE (eO (eL aJ))) i S)))))) (λ_=>S) λ_=>S)) (bN (bN (bN (bG (.nx ()) S)))))))))) (bN (bN (bG (.nx ()) S))))):R _ _ (cC (λd:Unit=>[U dG,U (zE eS b),U (zE eS vx),U c,Y,Y,Y]) (zE (eO (eL aJ)))))) (λr=>r) (λ_=>S) λd=>(fQ (λr=>r) Tw (λ_=>S) λ_=>S))))
theorem Uw(n:Nat)(g:∀v bs,(aL aJ (aZ eS (aZ eS (aL aJ aN)))) v bs->bs.length=4/\(hold (U (iG n v.1 v.2.1 v.2.2.1 v.2.2.2.1))->iw n (bs.map lend)=U ((zE (eO (eL aJ))) (bW n v.1 v.2.1 v.2.2.1 v.2.2.2.1))))(b:Z aF)(d:Lp dG (b.map aJ))(c:AJ)(vx:AJ)(a:Z aF){e:Bx}(f:Lp e (a.map aJ)):(Ba n g b d c vx a f).v=bW (n+1) b c vx a:=by kernel_rfl
theorem Ux(n:Nat)(g:∀v bs,(aL aJ (aZ eS (aZ eS (aL aJ aN)))) v bs->bs.length=4/\(hold (U (iG n v.1 v.2.1 v.2.2.1 v.2.2.2.1))->iw n (bs.map lend)=U ((zE (eO (eL aJ))) (bW n v.1 v.2.1 v.2.2.1 v.2.2.2.1))))(b:Z aF)(d:Lp dG (b.map aJ))(c:AJ)(vx:AJ)(a:Z aF){e:Bx}(f:Lp e (a.map aJ)):(Ba n g b d c vx a f).D=U (iG (n+1) b c vx a):=by kernel_rfl
theorem wI:∀(n:Nat),∀v bs,(aL aJ (aZ eS (aZ eS (aL aJ aN)))) v bs->bs.length=4/\(hold (U (iG n v.1 v.2.1 v.2.2.1 v.2.2.2.1))->iw n (bs.map lend)=U ((zE (eO (eL aJ))) (bW n v.1 v.2.1 v.2.2.1 v.2.2.2.1)))
 |0=>by
  rintro⟨e,a,vx,c,_⟩ _ ⟨dG,_,rfl,b,⟨_,rfl,⟨_,rfl,⟨f,_,rfl,d,rfl⟩⟩⟩⟩;exact⟨rfl,λh=>absurd h id⟩
 |n+1=>by
  rintro⟨e,a,vx,c,_⟩ _ ⟨dG,_,rfl,b,⟨_,rfl,⟨_,rfl,⟨f,_,rfl,d,rfl⟩⟩⟩⟩;exact⟨rfl,λh=>(N1 (g:=wD (iw n)) (n:=7) (bs:=[lend dG,.z (eS a),.z (eS vx),lend f]) (Ba n (wI n) e (o8 b) a vx c (o8 d)) ((congrArg hold (Ux n (wI n) e (o8 b) a vx c (o8 d))).mpr h)).trans (congrArg (λr=>U ((zE (eO (eL aJ))) r)) (Uw n (wI n) e (o8 b) a vx c (o8 d)))⟩
def jq(a:Dt)(b:AJ)(d:Int):Bool:=((lA a)&&(((decide ((1:Int)<=(TQ a)))&&(decide ((TQ a)<=d)))&&(((DL a).map λc:Dt=>(JF (Al c) b)).all id)))
def kj(a:Dt)(d:AJ)(c:Int):Prop:=((lA a)=true->((TV a=true/\((decide ((1:Int)<=(TQ a)))=true->TV a=true))/\(((decide ((1:Int)<=(TQ a)))&&(decide ((TQ a)<=c)))=true->((TV a=true/\(DL a).length<=100000)/\(∀b∈(DL a),b=eS (Al b))))))
theorem Nq(a:Dt)(b:AJ)(c:Int):RP nP [U (zE eD a),U (zE eS b),U (zE eI c)] (λr=>An.rt (zE eB r)) (jq a b c) (U (kj a b c)):=R.tp (fQ (λr=>r) (Ql (XG lA (aq 0 (zE eD) a S)) (Ql (XB (NU (B5 1) (N0 (aq 0 (zE eD) a S))) (NU (N0 (aq 0 (zE eD) a S)) (aq 2 (zE eI) c S))) (LV (gC (Am (Of (aq 0 (zE eD) a S)) _ (λ_=>S) (λd:Dt=>(TD (Ms (aq 1 (zE eD) d S) Al eS) (aq 0 (zE eS) b S)))))))) (λ_=>S) λ_=>S)
theorem Nr:∀v bs,(aZ eD (aZ eS (aZ eI aN))) v bs->bs.length=3/\(hold (U (kj v.1 v.2.1 v.2.2.1))->nQ (bs.map lend)=U ((zE eB) (jq v.1 v.2.1 v.2.2.1))):=by
 rintro⟨a,b,c,_⟩ _ ⟨_,rfl,⟨_,rfl,⟨_,rfl,rfl⟩⟩⟩;exact⟨rfl,λh=>dJ (g:=nP) (n:=3) (bs:=[.z (eD a),.z (eS b),.z (eI c)]) (Nq a b c) h⟩
def dI(a:Dt):Bool:=(jq a ("abcdefghijklmnopqrstuvwxyz":AJ) 8)
def rD(a:Dt):Prop:=(kj a ("abcdefghijklmnopqrstuvwxyz":AJ) 8)
theorem Ye(a:Dt):RP wF [U (zE eD a)] (λr=>An.rt (zE eB r)) (dI a) (U (rD a)):=R.tp (fQ (λr=>r) (Ap Nr (bU (aq 0 (zE eD) a S) (bU (DE "abcdefghijklmnopqrstuvwxyz") (bU (B5 8) bT)))) (λ_=>S) λ_=>S)
theorem Kf:∀v bs,(aZ eD aN) v bs->bs.length=1/\(hold (U (rD v.1))->lG (bs.map lend)=U ((zE eB) (dI v.1))):=by
 rintro⟨a,_⟩ _ ⟨_,rfl,rfl⟩;exact⟨rfl,λh=>dJ (g:=wF) (n:=1) (bs:=[.z (eD a)]) (Ye a) h⟩
def lK(b:fU)(a:AJ):Unit:=(if((!(dI (eS a)))||(!decide (a∈b.1)))=true then default else())
def eZ(b:fU)(a:AJ):Prop:=((rD (eS a))/\(((!(dI (eS a)))||(!decide (a∈b.1)))=true->False))
theorem Bb(b:fU)(a:AJ):RP jd [U (zE bV b),U (zE eS a)] (λ_:Unit=>An.nx [U (zE bV b),U (zE eS a)]) (lK b a) (U (eZ b a)):=R.tp (bC (o9 (EW (GP (Tz (Ap Kf (bU (GD (aq 1 (zE eS) a S)) bT)))) (eE (LI (aq 1 (zE eS) a S) (nF (aq 0 (zE bV) b S) (λq=>q.1) (eT eS) 0 λ_=>S)))) (bC bS) (bN (bN (bG () S)))))
theorem lM:∀v bs,(aZ bV (aZ eS aN)) v bs->bs.length=2/\(hold (U (eZ v.1 v.2.1))->bR (bs.map lend)=U ((zE eN) (lK v.1 v.2.1))):=by
 rintro⟨b,a,_⟩ _ ⟨_,rfl,⟨_,rfl,rfl⟩⟩;exact⟨rfl,λh=>T2 (g:=jd) (n:=2) (bs:=[.z (bV b),.z (eS a)]) (Bb b a).r h⟩
def dN(b:AZ):(Z (AJ×AJ)):=(EV (b.map λa:AJ=>(a,a)))
def oK(a:AZ):Prop:=(a.length<1000/\a.length<=100000)
theorem Nt(a:AZ):RP nR [U ((zE (eT eS)) a)] (λr=>An.rt (mE eS r)) (dN a) (U (oK a)):=R.tp (fQ (λr=>r) (WN (IF (aq 0 (zE (eT eS)) a S)) (pN (IF (aq 0 (zE (eT eS)) a S)) _ (λ_=>S) (λb:AJ=>(U2 (aq 0 (zE eS) b S) (aq 0 (zE eS) b S))) λ_=>S)) (λ_=>S) λ_=>S)
theorem Nu:∀v bs,(aZ (eT eS) aN) v bs->bs.length=1/\(hold (U (oK v.1))->nU (bs.map lend)=U ((mE eS) (dN v.1))):=by
 rintro⟨a,_⟩ _ ⟨_,rfl,rfl⟩;exact⟨rfl,λh=>dJ (g:=nR) (n:=1) (bs:=[.z (eT eS a)]) (Nt a) h⟩
def dw(e:AJ)(c:AJ)(d:AJ)(a:(Z (AJ×AJ)))(b:AJ):(Z (AJ×AJ)):=(let a:(Z (AJ×AJ)):=(if((decide ((look a b)=e))||(decide ((look a b)=c)))=true then(let a:=put a b d;a)else a);a)
def nA(c:AJ)(d:AJ)(e:AJ)(a:(Z (AJ×AJ)))(b:AJ):Prop:=((has a b=true/\((decide ((look a b)=c))=false->has a b=true))/\(((decide ((look a b)=c))||(decide ((look a b)=d)))=true->a.length<1000))
theorem Dj(e:AJ)(c:AJ)(d:AJ)(a:(Z (AJ×AJ)))(b:AJ):RP uo [U ((mW (U a_) eS) a),U (zE eS e),U (zE eS c),U (zE eS d),U (zE eS b)] (λs=>An.nx ((λa:(Z (AJ×AJ))=>[U ((mW (U a_) eS) a),U (zE eS e),U (zE eS c),U (zE eS d),Y]) s)) (dw e c d a b) (U (nA e c d a b)):=R.tp (bC (wV (λa:(Z (AJ×AJ))=>[U ((mW (U a_) eS) a),U (zE eS e),U (zE eS c),U (zE eS d),U (zE eS b)]) (EW (eE (C4 (by decide) (xW (aq 0 (nE eS) a S) (aq 4 (zE eS) b S)) (aq 1 (zE eS) e S))) (eE (C4 (by decide) (xW (aq 0 (nE eS) a S) (aq 4 (zE eS) b S)) (aq 2 (zE eS) c S)))) (bC (VR (U a_) 0 a S (aq 3 (zE eS) d S) (aq 4 (zE eS) b S) λa=>(bN (bG a S)))) (bN (bG a S)) λa=>(bN (bG a S))))
def kJ(a:(Z (AJ×AJ)))(c:AJ)(b:AJ):(Z (AJ×AJ)):=(let d:=(if Cc b c=true then b else c);(let a:(Z (AJ×AJ)):=((a.map (·.1)).foldl (λ(a:(Z (AJ×AJ))) (e:AJ)=>(dw c b d a e)) a);a))
def oM(a:(Z (AJ×AJ)))(c:AJ)(b:AJ):Prop:=(let e:=(if Cc b c=true then b else c);kY (λ(a:(Z (AJ×AJ))) (d:AJ)=>(dw c b e a d)) (λ(a:(Z (AJ×AJ))) (d:AJ)=>U (nA c b e a d)) (a.map (·.1)) a)
def tY(a:(Z (AJ×AJ)))(c:AJ)(b:AJ):R nW [U ((mW (U a_) eS) a),U (zE eS c),U (zE eS b),Y,Y] (λf=>An.nx [U ((mW (U a_) eS) f),U (zE eS c),U (zE eS b),Y,Y]):=(bC (bJ 3 (Mn (aq 1 (zE eS) c S) (aq 2 (zE eS) b S)) (λ_=>S) λd=>(bC (G4 (λa:(Z (AJ×AJ))=>[U ((mW (U a_) eS) a),U (zE eS c),U (zE eS b),U (zE eS d),Y]) a S (Ff (U1 (aq 0 (nE eS) a S))) _ (λ_ _=>S) (λ(a:(Z (AJ×AJ))) (e:AJ)=>(Dj c b d a e).r) λa=>(bN (bG a S))))))
theorem Jl(b:(Z (AJ×AJ)))(c:AJ)(a:AJ):(tY (a_:=a_) b c a).v=kJ b c a:=by kernel_rfl
theorem Jm(b:(Z (AJ×AJ)))(c:AJ)(a:AJ):(tY (a_:=a_) b c a).D=U (oM b c a):=by kernel_rfl
theorem Nv:∀(b:(Z (AJ×AJ))) v bs,(aZ eS (aZ eS aN)) v bs->bs.length=2/\bs.all DZ=true/\(hold (U (oM b v.1 v.2.1))->∀a,j6 a (b.map λq=>(kS q.1,eS q.2)) bs=U ((kJ b v.1 v.2.1).map λq=>(kS q.1,eS q.2))):=by
 rintro b ⟨d,c,_⟩ _ ⟨_,rfl,⟨_,rfl,rfl⟩⟩;exact⟨rfl,rfl,λh a=>(SD (g:=nW) (n:=5) (bs:=[.z (eS d),.z (eS c)]) (tY (a_:=a) b d c) ((congrArg hold (Jm (a_:=a) b d c)).mpr h) (λ_=>S)).trans (congrArg (λr:(Z (AJ×AJ))=>U (r.map λq=>(kS q.1,eS q.2))) (Jl (a_:=a) b d c))⟩
def dB(a:(Z (AJ×AJ))×(Z aF))(b:aF):(Z (AJ×AJ))×(Z aF):=(let e:=(look a.1 b.2.1);(let d:=(look a.1 b.2.2.1);(let c:(Z (AJ×AJ))×(Z aF):=(if(!decide (e=d))=true then(let f:=(kJ a.1 e d);(let g:=a.2++[b];(f,g)))else(a.1,a.2));(c.1,c.2))))
def jJ(a:(Z (AJ×AJ))×(Z aF))(b:aF):Prop:=(has a.1 b.2.1=true/\(let d:=(look a.1 b.2.1);(has a.1 b.2.2.1=true/\(let c:=(look a.1 b.2.2.1);((!decide (d=c))=true->((oM a.1 d c)/\(let e:=(kJ a.1 d c);sy a.2.length)))))))
theorem Dk(h:fU)(g:AZ)(f:Z aF)(e:Z qK)(a:(Z (AJ×AJ))×(Z aF))(b:aF):RP uq [U (zE bV h),U ((zE (eT eS)) g),U ((zE (eT aJ)) f),U ((zE (eT Ao)) e),U ((mE eS) a.1),U ((oE aJ) a.2),U (zE aJ b),Y,Y] (λs=>An.nx ((λa:(Z (AJ×AJ))×(Z aF)=>[U (zE bV h),U ((zE (eT eS)) g),U ((zE (eT aJ)) f),U ((zE (eT Ao)) e),U ((mE eS) a.1),U ((oE aJ) a.2),Y,Y,Y]) s)) (dB  a b) (U (jJ  a b)):=R.tp (bC (bJ 7 (xW (aq 4 (nE eS) a.1 S) (nF (aq 6 (zE aJ) b S) (λq=>q.2.1) eS 1 λ_=>S)) (λ_=>S) λi=>(bC (bJ 8 (xW (aq 4 (nE eS) a.1 S) (nF (aq 6 (zE aJ) b S) (λq=>q.2.2.1) eS 2 λ_=>S)) (λ_=>S) λd=>(bC (wV (λc:(Z (AJ×AJ))×(Z aF)=>[U (zE bV h),U ((zE (eT eS)) g),U ((zE (eT aJ)) f),U ((zE (eT Ao)) e),U ((mE eS) c.1),U ((oE aJ) c.2),U (zE aJ b),U (zE eS i),U (zE eS d)]) (eE (IA (by decide) (aq 7 (zE eS) i S) (aq 8 (zE eS) d S))) (bC (UK Y 4 a.1 S Nv (bU (aq 7 (zE eS) i S) (bU (aq 8 (zE eS) d S) bT)) λj=>(bC (wU 5 a.2 S (aq 6 (zE aJ) b S) λl=>(bN (bG (j,l) S)))))) (bN (bG (a.1,a.2) S)) λc=>(bN (bG (c.1,c.2) S))))))))
def jr(d:fU):(Z aF):=(let q1:=d;(let b:=(dN q1.1);(let e:=([]:Z aF);(let a:(Z (AJ×AJ))×(Z aF):=(q1.2.1.foldl (λ(a:(Z (AJ×AJ))×(Z aF)) (c:aF)=>(dB  a c)) (b,e));a.2))))
def kO(d:fU):Prop:=(let q1:=d;((oK q1.1)/\(let c:=(dN q1.1);(let e:=([]:Z aF);kY (λ(a:(Z (AJ×AJ))×(Z aF)) (b:aF)=>(dB  a b)) (λ(a:(Z (AJ×AJ))×(Z aF)) (b:aF)=>U (jJ  a b)) q1.2.1 (c,e)))))
theorem Nx(b:fU):RP nY [U (zE bV b),Y,Y,Y,Y,Y,Y,Y,Y] (λr=>An.rt (oE aJ r)) (jr b) (U (kO b)):=R.tp (Tl (aq 0 (zE bV) b S) _ (λ_=>S) λq1=>(bJ 4 (Ap Nu (bU (aq 1 (zE (eT eS)) q1.1 S) bT)) (λ_=>S) λc=>(bJ 5 (eF (cM aJ) (zz S)) (λ_=>S) λe=>(Mu 2 q1.2.1 (NI S) (λa:(Z (AJ×AJ))×(Z aF)=>[U (zE bV b),U ((zE (eT eS)) q1.1),U ((zE (eT aJ)) q1.2.1),U ((zE (eT Ao)) q1.2.2),U ((mE eS) a.1),U ((oE aJ) a.2),Y,Y,Y]) (c,e) S _ (λ_ _=>S) (λ(a:(Z (AJ×AJ))×(Z aF)) (d:aF)=>(Dk b q1.1 q1.2.1 q1.2.2 a d).r) λa=>(G3 5 (λr=>r) a.2 S (λ_=>S) λ_=>S)))))
theorem Ny:∀v bs,(aZ bV aN) v bs->bs.length=1/\(hold (U (kO v.1))->nZ (bs.map lend)=U ((oE aJ) (jr v.1))):=by
 rintro⟨a,_⟩ _ ⟨_,rfl,rfl⟩;exact⟨rfl,λh=>dJ (g:=nY) (n:=9) (bs:=[.z (bV a)]) (Nx a) h⟩
def aW(a:aF)(b:AJ):(O AJ):=(if(decide (a.2.1=b))=true then(U a.2.2.1)else(if(decide (a.2.2.1=b))=true then(U a.2.1)else Y))
theorem Rc(a:aF)(b:AJ):RP qg [U (zE aJ a),U (zE eS b)] (λr=>An.rt ((zE (eO eS)) r)) (aW a b) Y:=R.tp (o9 (eE (C4 (by decide) (nF (aq 0 (zE aJ) a S) (λq=>q.2.1) eS 1 λ_=>S) (aq 1 (zE eS) b S))) (bC (fQ (λr=>r) (GF (nF (aq 0 (zE aJ) a S) (λq=>q.2.2.1) eS 2 λ_=>S)) (λ_=>S) λ_=>S)) (bN (o9 (eE (C4 (by decide) (nF (aq 0 (zE aJ) a S) (λq=>q.2.2.1) eS 2 λ_=>S) (aq 1 (zE eS) b S))) (bC (fQ (λr=>r) (GF (nF (aq 0 (zE aJ) a S) (λq=>q.2.1) eS 1 λ_=>S)) (λ_=>S) λ_=>S)) (bN (fQ (λr=>r) Tw (λ_=>S) λ_=>S)))))
theorem Cq:∀v bs,(aZ aJ (aZ eS aN)) v bs->bs.length=2/\(hold (Y)->jQ (bs.map lend)=U ((zE (eO eS)) (aW v.1 v.2.1))):=by
 rintro⟨b,a,_⟩ _ ⟨_,rfl,⟨_,rfl,rfl⟩⟩;exact⟨rfl,λh=>dJ (g:=qg) (n:=2) (bs:=[.z (aJ b),.z (eS a)]) (Rc b a) h⟩
def eY(b:(Z (AJ×(O aF))))(a:(Z aF)×AJ):jt ((Z aF)×AJ) (Z aF):=(let c:=a.1++[((look b a.2).getD default)];(let d:=((aW ((look b a.2).getD default) a.2).getD default);(jt.nx (c,d))))
def jD(b:(Z (AJ×(O aF))))(a:(Z aF)×AJ):Prop:=(((has b a.2=true/\(look b a.2).isSome=true)/\sy a.1.length)/\(let c:=a.1++[((look b a.2).getD default)];((has b a.2=true/\(look b a.2).isSome=true)/\(aW ((look b a.2).getD default) a.2).isSome=true)))
theorem Jo(b:(Z (AJ×(O aF))))(val:AJ)(a:(Z aF)×AJ):RP w5 [U ((nE (eO aJ)) b),U (zE eS val),U ((oE aJ) a.1),U ((zE eS) a.2)] (cC (λa:(Z aF)×AJ=>[U ((nE (eO aJ)) b),U (zE eS val),U ((oE aJ) a.1),U ((zE eS) a.2)]) (oE aJ)) (eY b a ) (U (jD b a )):=R.tp (bC (wU 2 a.1 S (BL (xW (aq 0 (nE (eO aJ)) b S) (aq 3 (zE eS) a.2 S))) λc=>(bC (bJ 3 (BL (Ap Cq (bU (BL (xW (aq 0 (nE (eO aJ)) b S) (aq 3 (zE eS) a.2 S))) (bU (aq 3 (zE eS) a.2 S) bT)))) (λ_=>S) λd=>(bN (bG (.nx (c,d)) S))))))
def iU(b:(Z (AJ×(O aF))))(val:AJ):(Z aF):=(let c:=([]:Z aF);(let d:=val;(BG (J6 (λa:(Z aF)×AJ=>(look b a.2).isSome) (λa:(Z aF)×AJ=>((eY b a):jt ((Z aF)×AJ) (Z aF))) 70 (c,d)) (λr=>r) λa:(Z aF)×AJ=>a.1)))
def pG(b:(Z (AJ×(O aF))))(val:AJ):Prop:=(let c:=([]:Z aF);(let d:=val;(DF (λa:(Z aF)×AJ=>(look b a.2).isSome) (λa:(Z aF)×AJ=>U (has b a.2=true)) (λa:(Z aF)×AJ=>((eY b a):jt ((Z aF)×AJ) (Z aF))) (λa:(Z aF)×AJ=>U (jD b a)) 70 (c,d)/\(sI (J6 (λa:(Z aF)×AJ=>(look b a.2).isSome) (λa:(Z aF)×AJ=>((eY b a):jt ((Z aF)×AJ) (Z aF))) 70 (c,d)) λa:(Z aF)×AJ=>True))))
theorem Uy(b:(Z (AJ×(O aF))))(val:AJ):RP sX [U ((nE (eO aJ)) b),U (zE eS val),Y,Y] (λr=>An.rt (oE aJ r)) (iU b val) (U (pG b val)):=R.tp (bJ 2 (eF (cM aJ) (zz S)) (λ_=>S) λc=>(bJ 3 (aq 1 (zE eS) val S) (λ_=>S) λd=>(V0 70 (λa:(Z aF)×AJ=>[U ((nE (eO aJ)) b),U (zE eS val),U ((oE aJ) a.1),U ((zE eS) a.2)]) (c,d) S (λa:(Z aF)×AJ=>(eE (Ei (xW (aq 0 (nE (eO aJ)) b S) (aq 3 (zE eS) a.2 S)) λ_=>S))) (λa:(Z aF)×AJ=>((Jo b val a).r:R _ _ (cC (λa:(Z aF)×AJ=>[U ((nE (eO aJ)) b),U (zE eS val),U ((oE aJ) a.1),U ((zE eS) a.2)]) (oE aJ)))) (λr=>r) (λ_=>S) λa=>(G3 2 (λr=>r) a.1 S (λ_=>S) λ_=>S))))
theorem Uz:∀v bs,(aM (eO aJ) (aZ eS aN)) v bs->bs.length=2/\(hold (U (pG v.1 v.2.1))->sY (bs.map lend)=U ((oE aJ) (iU v.1 v.2.1))):=by
 rintro⟨a,val,_⟩ _ ⟨_,_,rfl,(rfl|rfl),⟨_,rfl,rfl⟩⟩
 all_goals exact⟨rfl,λh=>dJ (g:=sX) (n:=4) (bs:=[nE (eO aJ) a,.z (eS val)]) (Uy a val) h⟩
def dD(f:AJ)(a:(Z (AJ×(O aF)))×AZ)(d:aF):(Z (AJ×(O aF)))×AZ:=(let b:=(aW d f);(let c:(Z (AJ×(O aF)))×AZ:=(if(b.isSome&&(!has a.1 (b.getD default)))=true then(let e:=put a.1 (b.getD default) (U d);(let g:=a.2++[(b.getD default)];(e,g)))else(a.1,a.2));(c.1,c.2)))
def gQ(d:AJ)(b:(Z (AJ×(O aF)))×AZ)(c:aF):Prop:=(let a:=(aW c d);((a.isSome=true->a.isSome=true)/\((a.isSome&&(!has b.1 (a.getD default)))=true->((a.isSome=true/\b.1.length<1000)/\(let e:=put b.1 (a.getD default) (U c);(a.isSome=true/\sy b.2.length))))))
theorem Rf(h:Z aF)(j:Lp dG (h.map aJ))(f:AJ)(val:AJ)(b:AJ)(a:(Z (AJ×(O aF)))×AZ)(c:aF):RP Ci [U dG,U (zE eS f),U (zE eS val),U ((mE (eO aJ)) a.1),U ((oE eS) a.2),U (zE eS b),U (zE aJ c),Y] (λs=>An.nx ((λa:(Z (AJ×(O aF)))×AZ=>[U dG,U (zE eS f),U (zE eS val),U ((mE (eO aJ)) a.1),U ((oE eS) a.2),U (zE eS b),Y,Y]) s)) (dD b a c) (U (gQ b a c)):=R.tp (bC (bJ 7 (Ap Cq (bU (aq 6 (zE aJ) c S) (bU (aq 5 (zE eS) b S) bT))) (λ_=>S) λe=>(bC (wV (λd:(Z (AJ×(O aF)))×AZ=>[U dG,U (zE eS f),U (zE eS val),U ((mE (eO aJ)) d.1),U ((oE eS) d.2),U (zE eS b),U (zE aJ c),U ((zE (eO eS)) e)]) (VJ (eE (Ei (aq 7 (zE (eO eS)) e S) λ_=>S)) (eE (L8 (BL (aq 7 (zE (eO eS)) e S)) (aq 3 (nE (eO aJ)) a.1 S)))) (bC (VR Y 3 a.1 S (GF (aq 6 (zE aJ) c S)) (BL (aq 7 (zE (eO eS)) e S)) λg=>(bC (wU 4 a.2 S (BL (aq 7 (zE (eO eS)) e S)) λi=>(bN (bG (g,i) S)))))) (bN (bG (a.1,a.2) S)) λd=>(bN (bG (d.1,d.2) S))))))
def gR(f:Z aF)(b:AZ×(Z (AJ×(O aF)))):jt (AZ×(Z (AJ×(O aF)))) (O (Z aF)):=(let c:=b.1;let g:=c.drop 1;let e:=at' c 0;(let a:(Z (AJ×(O aF)))×AZ:=(f.foldl (λ(a:(Z (AJ×(O aF)))×AZ) (d:aF)=>(dD e a d)) (b.2,g));(jt.nx (a.2,a.1))))
def qC(f:Z aF)(a:AZ×(Z (AJ×(O aF)))):Prop:=(((0:Int)=0/\0<a.1.length)/\(let e:=a.1;let g:=e.drop 1;let d:=at' e 0;kY (λ(b:(Z (AJ×(O aF)))×AZ) (c:aF)=>(dD d b c)) (λ(b:(Z (AJ×(O aF)))×AZ) (c:aF)=>U (gQ d b c)) f (a.2,g)))
theorem Rh(c:Z aF)(e:Lp dG (c.map aJ))(d:AJ)(val:AJ)(a:AZ×(Z (AJ×(O aF)))):RP Cj [U dG,U (zE eS d),U (zE eS val),U ((mE (eO aJ)) a.2),U ((oE eS) a.1),Y,Y,Y] (cC (λa:AZ×(Z (AJ×(O aF)))=>[U dG,U (zE eS d),U (zE eS val),U ((mE (eO aJ)) a.2),U ((oE eS) a.1),Y,Y,Y]) (qE aJ)) (gR c a ) (U (qC c a )):=R.tp (bC (OU 5 4 a.1 S (B5 0) λh f=>(bC (Mu 0 c (TY e S) (λb:(Z (AJ×(O aF)))×AZ=>[U dG,U (zE eS d),U (zE eS val),U ((mE (eO aJ)) b.1),U ((oE eS) b.2),U (zE eS f),Y,Y]) (a.2,h) S _ (λ_ _=>S) (λ(b:(Z (AJ×(O aF)))×AZ) (g:aF)=>(Rf c e d val f b g).r) λb=>(bN (bG (.nx (b.2,b.1)) S))))))
def dZ(d:Z aF)(b:AJ)(val:AJ):(O (Z aF)):=(let c:=([(b,Y)]:(Z (AJ×(O aF))));(let e:=[b];(BG (J6 (λa:AZ×(Z (AJ×(O aF)))=>(!a.1.isEmpty)) (λa:AZ×(Z (AJ×(O aF)))=>((gR d a):jt (AZ×(Z (AJ×(O aF)))) (O (Z aF)))) 70 (e,c)) (λr=>r) λa:AZ×(Z (AJ×(O aF)))=>(if(!has a.2 val)=true then Y else(U (iU a.2 val).reverse)))))
def vN(b:Z aF)(d:AJ)(val:AJ):Prop:=(let c:=([(d,Y)]:(Z (AJ×(O aF))));(let e:=[d];(DF (λa:AZ×(Z (AJ×(O aF)))=>(!a.1.isEmpty)) (λa:AZ×(Z (AJ×(O aF)))=>Y) (λa:AZ×(Z (AJ×(O aF)))=>((gR b a):jt (AZ×(Z (AJ×(O aF)))) (O (Z aF)))) (λa:AZ×(Z (AJ×(O aF)))=>U (qC b a)) 70 (e,c)/\(sI (J6 (λa:AZ×(Z (AJ×(O aF)))=>(!a.1.isEmpty)) (λa:AZ×(Z (AJ×(O aF)))=>((gR b a):jt (AZ×(Z (AJ×(O aF)))) (O (Z aF)))) 70 (e,c)) λa:AZ×(Z (AJ×(O aF)))=>((!has a.2 val)=false->(pG a.2 val))))))
theorem VQ(c:Z aF)(d:Lp dG (c.map aJ))(b:AJ)(val:AJ):RP zG [U dG,U (zE eS b),U (zE eS val),Y,Y,Y,Y,Y] (λr=>An.rt (qE aJ r)) (dZ c b val) (U (vN c b val)):=R.tp (bJ 3 (YY (aq 1 (zE eS) b S) Tw) (λ_=>S) λf=>(bJ 4 (eF (bx (aq 1 (zE eS) b S) (cM eS)) (zz S)) (λ_=>S) λg=>(V0 70 (λa:AZ×(Z (AJ×(O aF)))=>[U dG,U (zE eS b),U (zE eS val),U ((mE (eO aJ)) a.2),U ((oE eS) a.1),Y,Y,Y]) (g,f) S (λa:AZ×(Z (AJ×(O aF)))=>(ib (cX (aq 4 (lE eS) a.1 S)))) (λa:AZ×(Z (AJ×(O aF)))=>((Rh c d b val a).r:R _ _ (cC (λa:AZ×(Z (AJ×(O aF)))=>[U dG,U (zE eS b),U (zE eS val),U ((mE (eO aJ)) a.2),U ((oE eS) a.1),Y,Y,Y]) (qE aJ)))) (λr=>r) (λ_=>S) λa=>(o9 (eE (L8 (aq 2 (zE eS) val S) (aq 3 (nE (eO aJ)) a.2 S))) (bC (fQ (λr=>r) (Xt (e:=aJ)) (λ_=>S) (λv=>by cases v<;>rfl))) (bN (fQ (λr=>r) (V8 (Mo (gC (Ap Uz (VY (aq 3 (nE (eO aJ)) a.2 S) (bU (aq 2 (zE eS) val S) bT)))))) (λ_=>S) (λv=>by cases v<;>rfl)))))))
theorem bP:∀v bs,(aL aJ (aZ eS (aZ eS aN))) v bs->bs.length=3/\(hold (U (vN v.1 v.2.1 v.2.2.1))->zH (bs.map lend)=U ((qE aJ) (dZ v.1 v.2.1 v.2.2.1))):=by
 rintro⟨c,a,val,_⟩ _ ⟨dG,_,rfl,b,⟨_,rfl,⟨_,rfl,rfl⟩⟩⟩;exact⟨rfl,λh=>dJ (g:=zG) (n:=8) (bs:=[lend dG,.z (eS a),.z (eS val)]) (VQ c (o8 b) a val) h⟩
def gJ(b:fU)(c:AJ)(a:AJ):(O (Z aF)):=(dZ (jr b) c a)
def lN(a:fU)(c:AJ)(b:AJ):Prop:=((eZ a c)/\((eZ a b)/\((kO a)/\(vN (jr a) c b))))
theorem Yg(a:fU)(c:AJ)(b:AJ):RP wG [U (zE bV a),U (zE eS c),U (zE eS b)] (λr=>An.rt (qE aJ r)) (gJ a c b) (U (lN a c b)):=R.tp (LX (Ap lM (bU (aq 0 (zE bV) a S) (bU (aq 1 (zE eS) c S) bT))) (LX (Ap lM (bU (aq 0 (zE bV) a S) (bU (aq 2 (zE eS) b S) bT))) (fQ (λr=>r) (Ap bP (wM (yV (Mj (Ap Ny (bU (aq 0 (zE bV) a S) bT)))) (bU (aq 1 (zE eS) c S) (bU (aq 2 (zE eS) b S) bT)))) (λ_=>S) (λv=>by cases v<;>rfl))))
theorem Bc:∀v bs,(aZ bV (aZ eS (aZ eS aN))) v bs->bs.length=3/\(hold (U (lN v.1 v.2.1 v.2.2.1))->oU (bs.map lend)=U ((qE aJ) (gJ v.1 v.2.1 v.2.2.1))):=by
 rintro⟨b,c,a,_⟩ _ ⟨_,rfl,⟨_,rfl,⟨_,rfl,rfl⟩⟩⟩;exact⟨rfl,λh=>dJ (g:=wG) (n:=3) (bs:=[.z (bV b),.z (eS c),.z (eS a)]) (Yg b c a) h⟩
def gU(d:fU)(vs:Z aF)(c:AJ)(vx:AJ):Bool:=(let a:=(bW fuel vs c vx []);(let b:=(gJ d c vx);(if((!decide (b=a))||(a.isSome&&(!b.isSome)))=true then false else(let e:=(gJ d vx c);(if a.isNone=true then e.isNone else(let b:=((b.getD []).map aJ++[.non]);((decide (e=(U (a.getD default).reverse)))&&(decide ((gJ d c vx)=a)))))))))
def jW(c:fU)(vs:Z aF)(a:AJ)(vx:AJ):Prop:=((iG fuel vs a vx [])/\(let d:=(bW fuel vs a vx []);((lN c a vx)/\(let b:=(gJ c a vx);(((!decide (b=d))||(d.isSome&&(!b.isSome)))=false->((lN c vx a)/\(let e:=(gJ c vx a);(d.isNone=false->((b.isSome=true/\sy (b.getD []).length)/\(let b:=((b.getD []).map aJ++[.non]);(d.isSome=true/\((decide (e=(U (d.getD default).reverse)))=true->(lN c a vx)))))))))))))
theorem Ri(b:fU)(vs:Z aF){f:Bx}(h:Lp f (vs.map aJ))(a:AJ)(vx:AJ):RP qj [U (zE bV b),U f,U (zE eS a),U (zE eS vx),Y,Y,Y] (λr=>An.rt (zE eB r)) (gU b vs a vx) (U (jW b vs a vx)):=R.tp (bJ 4 (Ap (wI fuel) (wM (jA 1 aJ vs h S) (bU (aq 2 (zE eS) a S) (bU (aq 3 (zE eS) vx S) (wM (yV (Mj (eF (cM aJ) (zz S)))) bT))))) (λ_=>S) λc=>(bJ 5 (Ap Bc (bU (aq 0 (zE bV) b S) (bU (aq 2 (zE eS) a S) (bU (aq 3 (zE eS) vx S) bT)))) (λv=>by cases v<;>rfl) λd=>(o9 (EW (eE (OV (e:=aJ) (by decide) (MK 5 aJ d S) (aq 4 (zE (eO (eL aJ))) c S))) (VJ (eE (Ei (aq 4 (zE (eO (eL aJ))) c S) λ_=>S)) (GP (Tz (OF (MK 5 aJ d S)))))) (bC (fQ (λr=>r) (yW (.bl false) eB false S) (λ_=>S) λ_=>S)) (bN (bJ 6 (Ap Bc (bU (aq 0 (zE bV) b S) (bU (aq 3 (zE eS) vx S) (bU (aq 2 (zE eS) a S) bT)))) (λv=>by cases v<;>rfl) λg=>(o9 (eE (UB (aq 4 (zE (eO (eL aJ))) c S) λ_=>S)) (bC (fQ (λr=>r) (WU (MK 6 aJ g S)) (λ_=>S) λ_=>S)) (bN (XV 5 d S λd=>(fQ (λr=>r) (Ql (MS (e:=aJ) (by decide) (MK 6 aJ g S) (V8 (Mo (yV (BL (aq 4 (zE (eO (eL aJ))) c S)))))) (MS (e:=aJ) (by decide) (Ap Bc (bU (aq 0 (zE bV) b S) (bU (aq 2 (zE eS) a S) (bU (aq 3 (zE eS) vx S) bT)))) (aq 4 (zE (eO (eL aJ))) c S))) (λ_=>S) λ_=>S)))))))))
theorem Rj:∀v bs,(aZ bV (aL aJ (aZ eS (aZ eS aN)))) v bs->bs.length=4/\(hold (U (jW v.1 v.2.1 v.2.2.1 v.2.2.2.1))->qm (bs.map lend)=U ((zE eB) (gU v.1 v.2.1 v.2.2.1 v.2.2.2.1))):=by
 rintro⟨a,vs,b,vx,_⟩ _ ⟨_,rfl,⟨c,_,rfl,d,⟨_,rfl,⟨_,rfl,rfl⟩⟩⟩⟩;exact⟨rfl,λh=>dJ (g:=qj) (n:=7) (bs:=[.z (bV a),lend c,.z (eS b),.z (eS vx)]) (Ri a vs (o8 d) b vx) h⟩
def cF(b:AZ):DH:=(let c:=Ug;((c++((cut b Y (U 1)).map λa:AJ=>(eS (a++("q":AJ)))))++((cut b Y (U 1)).map λa:AJ=>((eL eS) [a]))))
def jK(b:AZ):Prop:=(let c:=Ug;(((((cut b Y (U 1)).length<=100000/\(∀a∈(cut b Y (U 1)),sy (a.length+("q":AJ).length)))/\sy (c.length+((cut b Y (U 1)).map λa:AJ=>(eS (a++("q":AJ)))).length))/\(cut b Y (U 1)).length<=100000)/\sy ((c++((cut b Y (U 1)).map λa:AJ=>(eS (a++("q":AJ))))).length+((cut b Y (U 1)).map λa:AJ=>((eL eS) [a])).length)))
theorem Dm(a:AZ)(c:Lp dG (a.map eS)):RP jF [U dG,Y] (λr=>An.rt (oE eD r)) (cF a) (U (jK a)):=R.tp (bJ 1 (eF (bx (D0 .non) (bx (D0 (.bl true)) (bx (D0 (.int 0)) (bx (D0 (.str "")) (bx (D0 (.str "Zz")) (bx (GD (Mj (eF (bx (DE "a") (cM eS)) (zz S)))) (bx (yW .emp eD .emp S) (bx (e6 (bx (D0 (.str "a")) (cM eD)) (zz S)) (bx (D0 (.str "aaaaaaaaaaaaaaaaaaaa")) (bx (D0 (.int 1)) (cM eD))))))))))) (zz S)) (λ_=>S) λd=>(fQ (λr=>r) (vB (gC (vB (cX (aq 1 (lE eD) d S)) (gC (Am (GZ (gC (TJ (jA 0 eS a c S) xU (xV (B5 1))))) _ (λ_=>S) (λb:AJ=>(GD (jP (sE (aq 0 (zE eS) b S) (DE "q"))))))))) (gC (pN (GZ (gC (TJ (jA 0 eS a c S) xU (xV (B5 1))))) _ (λ_=>S) (λb:AJ=>(GD (Mj (eF (bx (aq 0 (zE eS) b S) (cM eS)) (zz S))))) λ_=>S))) (λ_=>S) λ_=>S))
theorem Dp:∀v bs,(aL eS aN) v bs->bs.length=1/\(hold (U (jK v.1))->jG (bs.map lend)=U ((oE eD) (cF v.1))):=by
 rintro⟨b,_⟩ _ ⟨dG,_,rfl,a,rfl⟩;exact⟨rfl,λh=>dJ (g:=jF) (n:=2) (bs:=[lend dG]) (Dm b (o8 a)) h⟩
def kW(a:AJ)(f:Int)(c:Int):AJ:=(let d:=("abcdefghijklmnopqrstuvwxyz0123456789 ABCDEFGHIJKLMNOPQRSTUVWXYZ":AJ);(let d:=(d++("!#$&'()*+,-./:;<=>?\x40[]^_`{|}~\"\\":AJ));(let e:=(ch d ((c / (6:Int))%(at' [(36:Int),(94:Int)] ((c / (3:Int))%2))));(let b:=(f%((a.length:Int)+1));(at' [(((Txt.slice a Y (U b))++e)++(Txt.slice a (U b) Y)),(((Txt.slice a Y (U b))++e)++(Txt.slice a (U (b+1)) Y)),((Txt.slice a Y (U b))++(Txt.slice a (U (b+1)) Y))] (c%3))))))
def oO(a:AJ)(f:Int)(c:Int):Prop:=(let e:=("abcdefghijklmnopqrstuvwxyz0123456789 ABCDEFGHIJKLMNOPQRSTUVWXYZ":AJ);(sy (e.length+("!#$&'()*+,-./:;<=>?\x40[]^_`{|}~\"\\":AJ).length)/\(let e:=(e++("!#$&'()*+,-./:;<=>?\x40[]^_`{|}~\"\\":AJ));(((In [(36:Int),(94:Int)].length ((c / (3:Int))%2)/\0<(at' [(36:Int),(94:Int)] ((c / (3:Int))%2)))/\In e.length ((c / (6:Int))%(at' [(36:Int),(94:Int)] ((c / (3:Int))%2))))/\(let d:=(ch e ((c / (6:Int))%(at' [(36:Int),(94:Int)] ((c / (3:Int))%2))));(0<((a.length:Int)+1)/\(let b:=(f%((a.length:Int)+1));(((sy ((Txt.slice a Y (U b)).length+d.length)/\sy (((Txt.slice a Y (U b))++d).length+(Txt.slice a (U b) Y).length))/\((sy ((Txt.slice a Y (U b)).length+d.length)/\sy (((Txt.slice a Y (U b))++d).length+(Txt.slice a (U (b+1)) Y).length))/\sy ((Txt.slice a Y (U b)).length+(Txt.slice a (U (b+1)) Y).length)))/\In [(((Txt.slice a Y (U b))++d)++(Txt.slice a (U b) Y)),(((Txt.slice a Y (U b))++d)++(Txt.slice a (U (b+1)) Y)),((Txt.slice a Y (U b))++(Txt.slice a (U (b+1)) Y))].length (c%3)))))))))
theorem Nz(a:AJ)(d:Int)(b:Int):RP n6 [U (zE eS a),U (zE eI d),U (zE eI b),Y,Y,Y] (λr=>An.rt (zE eS r)) (kW a d b) (U (oO a d b)):=R.tp (bJ 3 (DE "abcdefghijklmnopqrstuvwxyz0123456789 ABCDEFGHIJKLMNOPQRSTUVWXYZ") (λ_=>S) λe=>(bJ 3 (sE (aq 3 (zE eS) e S) (DE "!#$&'()*+,-./:;<=>?\x40[]^_`{|}~\"\\")) (λ_=>S) λe=>(bJ 4 (Qm (aq 3 (zE eS) e S) (vA (su (aq 2 (zE eI) b S) 6 (by decide)) (d9 (gC (eF (bx (B5 36) (bx (B5 94) (cM eI))) (zz S))) (cQ (su (aq 2 (zE eI) b S) 3 (by decide)) 2 (by decide))))) (λ_=>S) λf=>(bJ 5 (vA (aq 1 (zE eI) d S) (fP (NH (aq 0 (zE eS) a S)) (B5 1))) (λ_=>S) λc=>(fQ (λr=>r) (d9 (gC (eF (bx (jP (sE (sE (BP (aq 0 (zE eS) a S) xU (xV (aq 5 (zE eI) c S))) (aq 4 (zE eS) f S)) (BP (aq 0 (zE eS) a S) (xV (aq 5 (zE eI) c S)) xU))) (bx (jP (sE (sE (BP (aq 0 (zE eS) a S) xU (xV (aq 5 (zE eI) c S))) (aq 4 (zE eS) f S)) (BP (aq 0 (zE eS) a S) (xV (fP (aq 5 (zE eI) c S) (B5 1))) xU))) (bx (jP (sE (BP (aq 0 (zE eS) a S) xU (xV (aq 5 (zE eI) c S))) (BP (aq 0 (zE eS) a S) (xV (fP (aq 5 (zE eI) c S) (B5 1))) xU))) (cM eS)))) (zz S))) (cQ (aq 2 (zE eI) b S) 3 (by decide))) (λ_=>S) λ_=>S)))))
theorem NK:∀v bs,(aZ eS (aZ eI (aZ eI aN))) v bs->bs.length=3/\(hold (U (oO v.1 v.2.1 v.2.2.1))->n8 (bs.map lend)=U ((zE eS) (kW v.1 v.2.1 v.2.2.1))):=by
 rintro⟨b,a,c,_⟩ _ ⟨_,rfl,⟨_,rfl,⟨_,rfl,rfl⟩⟩⟩;exact⟨rfl,λh=>dJ (g:=n6) (n:=6) (bs:=[.z (eS b),.z (eI a),.z (eI c)]) (Nz b a c) h⟩
def jE(a:fU)(b:Dt)(vx:Dt)(c:Dt):Bool:=true
def Hy(b:fU)(a:Dt):Bool:=((!(dI a))||(!decide ((Al a)∈b.1)))
def FF(b:fU)(a:Dt):Prop:=((rD a)/\((!(dI a))=false->a=eS (Al a)))
def iH(a:fU)(c:Dt)(vx:Dt)(b:Dt):Prop:=b=b/\BQ (.z b) (.z b)=U (.z (.bl true))/\FF a c/\((Hy a c=true/\b=c)\/(Hy a c=false/\eZ a (Al c)/\FF a vx/\Hy a vx=true/\b=vx))
theorem UY(c:fU)(a:Dt):RP HM [U (zE bV c),U (zE eD a)] (λb=>b) (Hy c a) (U (FF c a)):=R.tp (EW (GP (Tz (Ap Kf (bU (aq 1 (zE eD) a S) bT)))) (eE (LI (Ms (aq 1 (zE eD) a S) Al eS) (nF (aq 0 (zE bV) c S) (λq=>q.1) (eT eS) 0 λ_=>S))))
theorem LA{b:fU}{a:Dt}(h:FF b a):nG 2 rA [.z (bV b),.z a]=if Hy b a=true then U a else Y:=by
 have e:HM [U (.z (bV b)),U (.z a)]=U (Hy b a):=UY b a h;show rA [U (.z (bV b)),U (.z a)]=_;unfold rA IS;rw[e];rfl
theorem qM:∀v bs,(aZ bV (aZ eD (aZ eD (aZ eD aN)))) v bs->bs.length=4/\(hold (U (iH v.1 v.2.1 v.2.2.1 v.2.2.2.1))->dM (bs.map lend)=U ((zE eB) (jE v.1 v.2.1 v.2.2.1 v.2.2.2.1))):=by
 rintro⟨b,a,vx,e,_⟩ _ ⟨_,rfl,⟨_,rfl,⟨_,rfl,⟨_,rfl,rfl⟩⟩⟩⟩;refine⟨rfl,λh=>?_⟩;obtain⟨_,g,h1,h2⟩:iH b a vx e:=h;have ex:nG 3 Ck [.z (bV b),.z a,.z vx]=U e:=by
  show Ck [U (.z (bV b)),U (.z a),U (.z vx)]=_;unfold Ck Dx;have e1:=LA h1;have c1:Kc 2 (nG 2 rA) (ao (gv 0) (ao (gv 1) aH)) [U (.z (bV b)),U (.z a),U (.z vx)]=nG 2 rA [.z (bV b),.z a]:=rfl;rw[c1,e1];rcases h2 with⟨c,rfl⟩|⟨c,d,e2,c2,rfl⟩
  ·rw[c];rfl
  ·rw[c];have ev:a=eS (Al a):=h1.2 (by unfold Hy at c;cases q:dI a with|true=>rfl|false=>rw[q]at c;cases c);have fr:bR [.z (bV b),.z (eS (Al a))]=U ((zE eN) (lK b (Al a))):=(lM (b,Al a,()) [.z (bV b),.z (eS (Al a))] ⟨_,rfl,⟨_,rfl,rfl⟩⟩).2 d;have i:Kc 2 (nG 2 rA) (ao (gv 0) (ao (gv 2) aH)) [U (.z (bV b)),U (.z a),U (.z e)]=nG 2 rA [.z (bV b),.z e]:=rfl;have f:BK (cj 2 bR (ao (gv 0) (ao (gv 1) aH))) [U (.z (bV b)),U (.z a),U (.z e)]=U (.nx [U (.z (bV b)),U (.z a),U (.z e)]):=by
    have c3:cj 2 bR (ao (gv 0) (ao (gv 1) aH)) [U (.z (bV b)),U (.z a),U (.z e)]=bR [.z (bV b),.z a]:=rfl;unfold BK;rw[c3,ev,fr];rfl
   show V6 _ _ _=_;unfold V6;rw[f];show Kc 2 (nG 2 rA) (ao (gv 0) (ao (gv 2) aH)) [U (.z (bV b)),U (.z a),U (.z e)]=U e;rw[i,LA e2,c2];rfl
 show((nG 3 Ck [.z (bV b),.z a,.z vx]).bind λd=>(BQ (.z d) (.z e)).bind QF)=U (.z (.bl true));rw[ex];show(BQ (.z e) (.z e)).bind QF=_;rw[g];rfl
def lO(b:fU)(a:Dt)(c:AJ):Bool:=((jE b a (eS c) a)&&(jE b (eS c) a a))
def lQ(b:fU)(a:Dt)(c:AJ):Prop:=((iH b a (eS c) a)/\((jE b a (eS c) a)=true->(iH b (eS c) a a)))
theorem Bd(b:fU)(a:Dt)(c:AJ):RP je [U (zE bV b),U (zE eD a),U (zE eS c)] (λr=>An.rt (zE eB r)) (lO b a c) (U (lQ b a c)):=R.tp (fQ (λr=>r) (Ql (Ap qM (bU (aq 0 (zE bV) b S) (bU (aq 1 (zE eD) a S) (bU (GD (aq 2 (zE eS) c S)) (bU (aq 1 (zE eD) a S) bT))))) (Ap qM (bU (aq 0 (zE bV) b S) (bU (GD (aq 2 (zE eS) c S)) (bU (aq 1 (zE eD) a S) (bU (aq 1 (zE eD) a S) bT)))))) (λ_=>S) λ_=>S)
theorem Bf:∀v bs,(aZ bV (aZ eD (aZ eS aN))) v bs->bs.length=3/\(hold (U (lQ v.1 v.2.1 v.2.2.1))->jf (bs.map lend)=U ((zE eB) (lO v.1 v.2.1 v.2.2.1))):=by
 rintro⟨a,c,b,_⟩ _ ⟨_,rfl,⟨_,rfl,⟨_,rfl,rfl⟩⟩⟩;exact⟨rfl,λh=>dJ (g:=je) (n:=3) (bs:=[.z (bV a),.z (eD c),.z (eS b)]) (Bd a c b) h⟩
def rE(c:AZ)(a:Z nJ)(b:AJ):(Z nJ):=(let a:=a++(c.map λvx:AJ=>(b,vx));a)
def Hz(a:AZ)(c:Z nJ)(b:AJ):Prop:=(a.length<=100000/\sy (c.length+(a.map λvx:AJ=>(b,vx)).length))
theorem b5(h:B7)(i:Lp dG (h.map eI))(e:fU)(b:AZ)(vs:Z aF)(g:B7)(f:Int)(d:Int)(a:Z nJ)(c:AJ):RP QG [U dG,U (zE bV e),U (oE eS b),U (oE aJ vs),U (oE eI g),U (zE eI f),U (zE eI d),U (oE uF a),U (zE eS c),Y,Y,Y,Y,Y,Y] (λs=>An.nx ((λa:(Z nJ)=>[U dG,U (zE bV e),U (oE eS b),U (oE aJ vs),U (oE eI g),U (zE eI f),U (zE eI d),U (oE uF a),Y,Y,Y,Y,Y,Y,Y]) s)) (rE b a c) (U (Hz b a c)):=R.tp (bC (YN 7 a S (pN (GZ (cX (aq 2 (lE eS) b S))) _ (λ_=>S) (λvx:AJ=>(ce (aq 0 (zE eS) c S) (aq 1 (zE eS) vx S))) λ_=>S) λa=>(bN (bG a S))))
def vP(b:fU)(a:Dt)(d:Unit)(c:Dt):jt (Unit) Bool:=(if(!(jE b a c a))=true then(jt.rt false)else(jt.nx ()))
def HB(b:fU)(a:Dt)(d:Unit)(c:Dt):Prop:=(iH b a c a)
theorem Y2(n:B7)(o:Lp dG (n.map eI))(b:fU)(e:AZ)(vs:Z aF)(m:B7)(l:Int)(f:Int)(i:Z nJ)(j:DH)(g:Int)(a:Dt)(h:Dt)(d:Unit)(c:Dt):RP QH [U dG,U (zE bV b),U (oE eS e),U (oE aJ vs),U (oE eI m),U (zE eI l),U (zE eI f),U (oE uF i),Y,U ((zE (eL eD)) j),U (zE eI g),U (zE eD a),U (zE eD h),U (zE eD c),Y] (cC (λd:Unit=>[U dG,U (zE bV b),U (oE eS e),U (oE aJ vs),U (oE eI m),U (zE eI l),U (zE eI f),U (oE uF i),Y,U ((zE (eL eD)) j),U (zE eI g),U (zE eD a),U (zE eD h),Y,Y]) (zE eB)) (vP b a d c) (U (HB b a d c)):=R.tp (bC (o9 (GP (Tz (Ap qM (bU (aq 1 (zE bV) b S) (bU (aq 11 (zE eD) a S) (bU (aq 13 (zE eD) c S) (bU (aq 11 (zE eD) a S) bT))))))) (bC (fQ .rt (yW (.bl false) eB false S) (λ_=>S) λ_=>S)) (bN (bN (bG (.nx ()) S)))))
def mO(c:fU)(a:AZ)(e:B7)(d:DH)(i:Unit)(q2:CV):jt (Unit) Bool:=(if(!Iv q2.2 (a.map eS))=true then(let h:=(at' d (((q2.1+1)+((at' e 4)%9))%(d.length:Int)));(BG (jB (λ(b:Unit) (g:Dt)=>((vP c q2.2 b g):jt (Unit) Bool)) [(Dt.str "other"),q2.2,h] ()) (λr=>jt.rt r) λb:Unit=>(let f:=(at' (a++[("":AJ)]) ((at' e 5)%(if(a.length:Int)>1 then(a.length:Int)else 1)));(if((!decide (a=([]:AZ)))&&(!(lO c q2.2 f)))=true then(jt.rt false)else(jt.nx ())))))else(jt.nx ()))
def vQ(f:fU)(a:AZ)(c:B7)(d:DH)(i:Unit)(q2:CV):Prop:=(XF q2.2 (a.map eS)/\((!Iv q2.2 (a.map eS))=true->(((In c.length 4/\0<(d.length:Int))/\In d.length (((q2.1+1)+((at' c 4)%9))%(d.length:Int)))/\(let g:=(at' d (((q2.1+1)+((at' c 4)%9))%(d.length:Int)));(uf (λ(b:Unit) (e:Dt)=>((vP f q2.2 b e):jt (Unit) Bool)) (λ(b:Unit) (e:Dt)=>U (HB f q2.2 b e)) [(Dt.str "other"),q2.2,g] ()/\(sI (jB (λ(b:Unit) (e:Dt)=>((vP f q2.2 b e):jt (Unit) Bool)) [(Dt.str "other"),q2.2,g] ()) λb:Unit=>(((sy (a.length+[("":AJ)].length)/\(In c.length 5/\0<(if(a.length:Int)>1 then(a.length:Int)else 1)))/\In (a++[("":AJ)]).length ((at' c 5)%(if(a.length:Int)>1 then(a.length:Int)else 1)))/\(let h:=(at' (a++[("":AJ)]) ((at' c 5)%(if(a.length:Int)>1 then(a.length:Int)else 1)));((!decide (a=([]:AZ)))=true->(lQ f q2.2 h))))))))))
theorem PU(l:B7)(m:Lp dG (l.map eI))(d:fU)(a:AZ)(vs:Z aF)(c:B7)(g:Int)(e:Int)(f:Z nJ)(b:DH)(j:Unit)(q2:CV):RP QJ [U dG,U (zE bV d),U (oE eS a),U (oE aJ vs),U (oE eI c),U (zE eI g),U (zE eI e),U (oE uF f),Y,U ((zE (eL eD)) b),U ((zE eI) q2.1),U ((zE eD) q2.2),Y,Y,Y] (cC (λj:Unit=>[U dG,U (zE bV d),U (oE eS a),U (oE aJ vs),U (oE eI c),U (zE eI g),U (zE eI e),U (oE uF f),Y,U ((zE (eL eD)) b),Y,Y,Y,Y,Y]) (zE eB)) (mO d a c b j q2) (U (vQ d a c b j q2)):=R.tp (bC (o9 (eE (ap (aq 11 (zE eD) q2.2 S) (cX (aq 2 (lE eS) a S)))) (bC (bJ 12 (d9 (yV (aq 9 (zE (eL eD)) b S)) (vA (fP (fP (aq 10 (zE eI) q2.1 S) (B5 1)) (cQ (d9 (cX (aq 4 (lE eI) c S)) (B5 4)) 9 (by decide))) (By (yV (aq 9 (zE (eL eD)) b S))))) (λ_=>S) λi=>(bC (L0 (λh:Unit=>[U dG,U (zE bV d),U (oE eS a),U (oE aJ vs),U (oE eI c),U (zE eI g),U (zE eI e),U (oE uF f),Y,U ((zE (eL eD)) b),U ((zE eI) q2.1),U ((zE eD) q2.2),U (zE eD i),Y,Y]) () S (Ff (eF (bx (D0 (.str "other")) (bx (aq 11 (zE eD) q2.2 S) (bx (aq 12 (zE eD) i S) (cM eD)))) (zz S))) _ (λ_ _=>S) (λ(h:Unit) (o:Dt)=>((Y2 l m d a vs c g e f b q2.1 q2.2 i h o).r:R _ _ (cC (λh:Unit=>[U dG,U (zE bV d),U (oE eS a),U (oE aJ vs),U (oE eI c),U (zE eI g),U (zE eI e),U (oE uF f),Y,U ((zE (eL eD)) b),U ((zE eI) q2.1),U ((zE eD) q2.2),U (zE eD i),Y,Y]) (zE eB)))) .rt (λ_=>S) λh=>(bC (bJ 14 (d9 (gC (vB (cX (aq 2 (lE eS) a S)) (gC (eF (bx (DE "") (cM eS)) (zz S))))) (vA (d9 (cX (aq 4 (lE eI) c S)) (B5 5)) (BR (B5 1) (By (cX (aq 2 (lE eS) a S)))))) (λ_=>S) λn=>(bC (o9 (VJ (eE (HC (by decide) (cX (aq 2 (lE eS) a S)) (gC (eF (cM eS) (zz S))))) (GP (Tz (Ap Bf (bU (aq 1 (zE bV) d S) (bU (aq 11 (zE eD) q2.2 S) (bU (aq 14 (zE eS) n S) bT))))))) (bC (fQ .rt (yW (.bl false) eB false S) (λ_=>S) λ_=>S)) (bN (bN (bN (bG (.nx ()) S)))))))))))) (bN (bN (bG (.nx ()) S)))))
def Rk(i:B7):Bool:=(let c:=(iT i);(let a:=c.1;(let vs:=(gj c.1 c.2.1);(let e:=(cut (aR (aV i 0) 18) (U 12) Y);(let h:=((at' e 0)%(if(a.length:Int)>1 then(a.length:Int)else 1));(let j:=(at' [(100:Int),(40:Int)] (if(decide ((14:Int)<(a.length:Int)))=true then(1:Int)else 0));(let d:=([]:Z nJ);(let d:(Z nJ):=(((cut a (U h) Y)++(cut a Y (U h))).foldl (λ(d:Z nJ) (l:AJ)=>(rE a d l)) d);(if(!(((cut d Y (U j)).map λg:nJ=>(gU c vs g.1 g.2)).all id))=true then false else(let b:=(cF a);(let b:DH:=(if(!decide (a=([]:AZ)))=true then(let b:=b++[(eS (kW (at' a ((at' e 1)%(a.length:Int))) (at' e 2) (at' e 3)))];b)else b);(BG (jB (λ(f:Unit) (q2:CV)=>((mO c a e b f q2):jt (Unit) Bool)) (wW b) ()) (λr=>r) λf:Unit=>true))))))))))))
def Rm(j:B7):Prop:=((mL j)/\(let e:=(iT j);(let a:=e.1;((tW e.1 e.2.1)/\(let vs:=(gj e.1 e.2.1);(((f9 j 0)/\(eU (aV j 0) 18))/\(let b:=(cut (aR (aV j 0) 18) (U 12) Y);((In b.length 0/\0<(if(a.length:Int)>1 then(a.length:Int)else 1))/\(let g:=((at' b 0)%(if(a.length:Int)>1 then(a.length:Int)else 1));(In [(100:Int),(40:Int)].length (if(decide ((14:Int)<(a.length:Int)))=true then(1:Int)else 0)/\(let l:=(at' [(100:Int),(40:Int)] (if(decide ((14:Int)<(a.length:Int)))=true then(1:Int)else 0));(let c:=([]:Z nJ);((sy ((cut a (U g) Y).length+(cut a Y (U g)).length)/\kY (λ(c:Z nJ) (i:AJ)=>(rE a c i)) (λ(c:Z nJ) (i:AJ)=>U (Hz a c i)) ((cut a (U g) Y)++(cut a Y (U g))) c)/\(let c:(Z nJ):=(((cut a (U g) Y)++(cut a Y (U g))).foldl (λ(c:Z nJ) (i:AJ)=>(rE a c i)) c);(((cut c Y (U l)).length<=100000/\(∀h∈(cut c Y (U l)),(jW e vs h.1 h.2)))/\((!(((cut c Y (U l)).map λh:nJ=>(gU e vs h.1 h.2)).all id))=false->((jK a)/\(let d:=(cF a);(((!decide (a=([]:AZ)))=true->(((((In b.length 1/\0<(a.length:Int))/\In a.length ((at' b 1)%(a.length:Int)))/\(In b.length 2/\In b.length 3))/\(oO (at' a ((at' b 1)%(a.length:Int))) (at' b 2) (at' b 3)))/\sy d.length))/\(let d:DH:=(if(!decide (a=([]:AZ)))=true then(let d:=d++[(eS (kW (at' a ((at' b 1)%(a.length:Int))) (at' b 2) (at' b 3)))];d)else d);(uf (λ(f:Unit) (q2:CV)=>((mO e a b d f q2):jt (Unit) Bool)) (λ(f:Unit) (q2:CV)=>U (vQ e a b d f q2)) (wW d) ()/\(sI (jB (λ(f:Unit) (q2:CV)=>((mO e a b d f q2):jt (Unit) Bool)) (wW d) ()) λf:Unit=>True))))))))))))))))))))))
theorem S2(h:B7)(i:Lp dG (h.map eI)):RP V9 [U dG,Y,Y,Y,Y,Y,Y,Y,Y,Y,Y,Y,Y,Y,Y] (λr=>An.rt (zE eB r)) (Rk h) (U (Rm h)):=R.tp (bJ 1 (Ap Q9 (wM (jA 0 eI h i S) bT)) (λ_=>S) λd=>(bJ 2 (OT (nF (aq 1 (zE bV) d S) (λq=>q.1) (eT eS) 0 λ_=>S)) (λ_=>S) λa=>(bJ 3 (Ap Uv (bU (nF (aq 1 (zE bV) d S) (λq=>q.1) (eT eS) 0 λ_=>S) (bU (nF (aq 1 (zE bV) d S) (λq=>q.2.1) (eT aJ) 1 λ_=>S) bT))) (λ_=>S) λvs=>(bJ 4 (TJ (gC (Ap jC (bU (jP (Ap pC (wM (jA 0 eI h i S) (bU (B5 0) bT)))) (bU (B5 18) bT)))) (xV (B5 12)) xU) (λ_=>S) λe=>(bJ 5 (vA (d9 (cX (aq 4 (lE eI) e S)) (B5 0)) (BR (B5 1) (By (cX (aq 2 (lE eS) a S))))) (λ_=>S) λf=>(bJ 6 (d9 (gC (eF (bx (B5 100) (bx (B5 40) (cM eI))) (zz S))) (TX (MO (By (cX (aq 2 (lE eS) a S))) (B5 14)))) (λ_=>S) λg=>(bJ 7 (eF (cM uF) (zz S)) (λ_=>S) λb=>(G4 (λb:(Z nJ)=>[U dG,U (zE bV d),U (oE eS a),U (oE aJ vs),U (oE eI e),U (zE eI f),U (zE eI g),U (oE uF b),Y,Y,Y,Y,Y,Y,Y]) b S (Ff (vB (gC (TJ (cX (aq 2 (lE eS) a S)) (xV (aq 5 (zE eI) f S)) xU)) (gC (TJ (cX (aq 2 (lE eS) a S)) xU (xV (aq 5 (zE eI) f S)))))) _ (λ_ _=>S) (λ(b:Z nJ) (m:AJ)=>(b5 h i d a vs e f g b m).r) λb=>(o9 (GP (Tz (LV (gC (Am (GZ (gC (TJ (cX (aq 7 (lE uF) b S)) xU (xV (aq 6 (zE eI) g S))))) _ (λ_=>S) (λl:nJ=>(jP (Ap Rj (bU (aq 0 (zE bV) d S) (wM (cX (aq 1 (lE aJ) vs S)) (bU (nF (aq 2 (zE uF) l S) (λq=>q.1) eS 0 λ_=>S) (bU (nF (aq 2 (zE uF) l S) (λq=>q.2) eS 1 λ_=>S) bT)))))))))))) (bC (fQ (λr=>r) (yW (.bl false) eB false S) (λ_=>S) λ_=>S)) (bN (bJ 9 (Ap Dp (wM (cX (aq 2 (lE eS) a S)) bT)) (λ_=>S) λc=>(wV (λc:DH=>[U dG,U (zE bV d),U (oE eS a),U (oE aJ vs),U (oE eI e),U (zE eI f),U (zE eI g),U (oE uF b),Y,U (oE eD c),Y,Y,Y,Y,Y]) (eE (HC (by decide) (cX (aq 2 (lE eS) a S)) (gC (eF (cM eS) (zz S))))) (bC (wU 9 c S (GD (jP (Ap NK (bU (d9 (cX (aq 2 (lE eS) a S)) (vA (d9 (cX (aq 4 (lE eI) e S)) (B5 1)) (By (cX (aq 2 (lE eS) a S))))) (bU (d9 (cX (aq 4 (lE eI) e S)) (B5 2)) (bU (d9 (cX (aq 4 (lE eI) e S)) (B5 3)) bT)))))) λc=>(bN (bG c S)))) (bN (bG c S)) λc=>(gf 9 [U dG,U (zE bV d),U (oE eS a),U (oE aJ vs),U (oE eI e),U (zE eI f),U (zE eI g),U (oE uF b),Y,U ((zE (eL eD)) c),Y,Y,Y,Y,Y] S (L0 (λj:Unit=>[U dG,U (zE bV d),U (oE eS a),U (oE aJ vs),U (oE eI e),U (zE eI f),U (zE eI g),U (oE uF b),Y,U ((zE (eL eD)) c),Y,Y,Y,Y,Y]) () S (SK (aq 9 (zE (eL eD)) c S)) _ (λ_ _=>S) (λ(j:Unit) (q2:CV)=>((PU h i d a vs e f g b c j q2).r:R _ _ (cC (λj:Unit=>[U dG,U (zE bV d),U (oE eS a),U (oE aJ vs),U (oE eI e),U (zE eI f),U (zE eI g),U (oE uF b),Y,U ((zE (eL eD)) c),Y,Y,Y,Y,Y]) (zE eB)))) (λr=>r) (λ_=>S) λj=>(fQ (λr=>r) (yW (.bl true) eB true S) (λ_=>S) λ_=>S)))))))))))))))
theorem Lm:∀v bs,(aL eI aN) v bs->bs.length=1/\(hold (U (Rm v.1))->F_law (bs.map lend)=U ((zE eB) (Rk v.1))):=by
 rintro⟨b,_⟩ _ ⟨dG,_,rfl,a,rfl⟩;exact⟨rfl,λh=>dJ (g:=V9) (n:=15) (bs:=[lend dG]) (S2 b (o8 a)) h⟩
theorem MX(h:∀ns:Z Int,ns.length<=63->Rm ns/\Rk ns=true):(∀ns:Z Int,ns.length<=63->F_law [.z (.lst (ns.map .int))]=U (.z (.bl true)))/\∀ns:Z Int,ns.length<=63->F_law [.l (ns.map .int)]=U (.z (.bl true)):=
 ⟨λns a=>((Lm (ns,()) [.z (.lst (ns.map .int))] ⟨_,_,rfl,rfl,rfl⟩).2 (h ns a).1).trans (by rw[(h ns a).2]),λns a=>((Lm (ns,()) [.l (ns.map .int)] ⟨_,_,rfl,rfl,rfl⟩).2 (h ns a).1).trans (by rw[(h ns a).2])⟩
end
end G14
end
section
set_option synthInstance.maxSize 100000
namespace G14
open L2 P1
theorem HD(a:Z Int)(k:Int)(h0:0<=k)(h1:k<=1000):f9 a k:=by
 unfold f9;exact⟨λh=>B8 h0 (by simpa using h),λ_=>IG h0 (by omega)⟩
theorem fg(k:Nat)(s:Int×Z Int×Int)(d:k<1000)(h:(0<=s.1/\s.1<1999999973)/\s.2.1.length=k/\(∀x∈s.2.1,0<=x)/\0<=s.2.2):jk s k/\(0<=(cI s k).1/\(cI s k).1<1999999973)/\(cI s k).2.1.length=k+1/\(∀x∈(cI s k).2.1,0<=x)/\0<=(cI s k).2.2:=by
 obtain⟨h1,h2,b,c⟩:=h;have a:In 2 (if(decide ((0:Int)<s.2.2))=true then(1:Int)else 0):=by split<;>exact B8 (by omega) (by omega)
 refine⟨⟨IG h1.1 (by omega),a,?_⟩,iR _ (by decide),?_,?_,Int.ediv_nonneg c (by decide)⟩
 ·show s.2.1.length<=1000000;omega
 ·show(s.2.1++[_]).length=k+1;rw[zS,h2];rfl
 ·intro x hx;rcases List.mem_append.mp hx with hx|hx
  ·exact b x hx
  ·cases List.mem_singleton.mp hx;have:=pq (xs:=[((((s.1*((s.1%65521)+40487))+(7*k))+5)%1999999973),(s.2.2%1000000)]) a;simp only[Q2,js,or_false]at this;rcases this with e|e<;>rw[e]
   ·exact(iR _ (by decide)).1
   ·exact(iR _ (by decide)).1
theorem HF(c m:Int)(h0:0<=m)(h1:m<=1000):eU c m/\(aR c m).length=m.toNat/\∀x∈aR c m,0<=x:=by
 have d:∀st a:Int,(0<=st/\st<1999999973)->0<=a->lJ c m [] st a/\(jo c m [] st a).length=m.toNat/\∀x∈jo c m [] st a,0<=x:=λst a hs b=>by
  have:=vD (P:=λs k=>U (jk s k)) (λk s=>(0<=s.1/\s.1<1999999973)/\s.2.1.length=k/\(∀x∈s.2.1,0<=x)/\0<=s.2.2) (step:=λs k=>cI s k) m.toNat (st,[],a) ⟨hs,rfl,λx h=>(by cases h),b⟩ λk s e h=>fg k s (by omega) h;exact⟨⟨J7 h0 (by omega),this.1⟩,this.2.2.1,this.2.2.2.1⟩
 refine d _ _ (iR _ (by decide)) ?_;dsimp only;split<;>(try split)<;>omega
theorem lW{m:Z (AJ×α)}:has m x=true↔x∈m.map (·.1):=by
 unfold has;rw[QP,yo];constructor
 ·rintro⟨q,a,h⟩;exact⟨q,a,ko h⟩
 ·rintro⟨q,a,h⟩;exact⟨q,a,ZT h⟩
theorem zQ[Inhabited α]{pre AS:Z (AJ×α)}{n:AJ}{h:α}(b:n∉pre.map (·.1)):look (pre++(n,h)::AS) n=h:=by
 unfold look;have:pre.find? (λq=>decide (q.1=n))=Y:=List.find?_eq_none.mpr λq a e=>b (List.mem_map.mpr ⟨q,a,ko e⟩);rw[List.find?_append,this];simp
theorem gz{pre AS:Z (AJ×α)}{n:AJ}{h v:α}(f:n∉pre.map (·.1))(b:n∉AS.map (·.1)):put (pre++(n,h)::AS) n v=pre++(n,v)::AS:=by
 unfold put;rw[zh (lW.mpr (by simp))];have a:∀l:Z (AJ×α),n∉l.map (·.1)->l.map (λq=>if q.1=n then(q.1,v)else q)=l:=λl d=>by
  conv=>rhs;rw[<-List.map_id l]
  refine JY λq c=>?_;rw[zC λe=>d (List.mem_map.mpr ⟨q,c,e⟩)];rfl
 rw[qB,zw,a pre f,a AS b];simp
theorem Kg[Inhabited α]{m:Z (AJ×α)}(h:x∈m.map (·.1)):(x,look m x)∈m:=by
 unfold look;cases a:m.find? λq=>decide (q.1=x)with
 |none=>
  obtain⟨q,b,rfl⟩:=List.mem_map.mp h;have:=List.find?_eq_none.mp a q b;simp at this
 |some q=>
  have h1:=List.mem_of_find?_eq_some a;have h2:q.1=x:=by simpa using List.find?_some a
  show(x,q.2)∈m;rw[<-h2];exact h1
theorem Eo[Inhabited α]{m:Z (AJ×α)}(a:(m.map (·.1)).Nodup){q:AJ×α}(h:q∈m):look m q.1=q.2:=by
 obtain⟨b,AS,rfl⟩:=List.append_of_mem h;have:q.1∉b.map (·.1):=λe=>by
  rw[qB,zw,KL]at a;exact a.2.2 _ e _ (zk ..) rfl
 exact zQ this
def mn(one a:AJ):AJ:=if Cc a one=true then a else one
def jn(one a h:AJ):AJ:=if h=one\/h=a then mn one a else h
theorem Kh(a b:AJ):mn a b=a\/mn a b=b:=by unfold mn;split;exact .inr rfl;exact .inl rfl
def jm(m:Z (AJ×AJ))(one a:AJ):Z (AJ×AJ):=m.map λq=>(q.1,jn one a q.2)
theorem Wg(m:Z (AJ×AJ))(one a:AJ):(jm m one a).map (·.1)=m.map (·.1):=by unfold jm;rw[QU];rfl
theorem RI{one a:AJ}(b:(m.map (·.1)).Nodup)(h:x∈m.map (·.1)):look (jm m one a) x=jn one a (look m x):=by
 have h1:=Kg h;have:(x,jn one a (look m x))∈jm m one a:=List.mem_map.mpr ⟨_,h1,rfl⟩;exact Eo (by rw[Wg];exact b) this
theorem Bn(one a:AJ):∀(b pre:Z (AJ×AJ)),((pre++b).map (·.1)).Nodup->(pre++b).length<1000 →
  kY (λ(c:(Z (AJ×AJ))) (name:AJ)=>(dw one a (mn one a) c name)) (λ(c:(Z (AJ×AJ))) (name:AJ)=>U (nA one a (mn one a) c name)) (b.map (·.1)) (pre++b) ∧
  (b.map (·.1)).foldl (λ(c:(Z (AJ×AJ))) (name:AJ)=>(dw one a (mn one a) c name)) (pre++b)=pre++jm b one a
 |[],pre,_,_=>⟨trivial,rfl⟩
 |(n,h)::AS,pre,nd,hl=>by
  have g:n∉pre.map (·.1):=λe=>by
   rw[qB,zw,KL]at nd;exact nd.2.2 _ e _ (zk ..) rfl
  have i:n∉AS.map (·.1):=by
   rw[qB,zw,KL,List.nodup_cons]at nd;exact nd.2.1.1
  have f:has (pre++(n,h)::AS) n=true:=lW.mpr (by simp);have e:dw one a (mn one a) (pre++(n,h)::AS) n=pre++(n,jn one a h)::AS:=by
   unfold dw;dsimp only;rw[zQ g];unfold jn;by_cases q:h=one\/h=a
   ·rw[zh q,zh (by simpa using q),gz g i]
   ·rw[zC q,zC (by simpa using q)]
  have d:=Bn one a AS (pre++[(n,jn one a h)]) (by simpa using nd) (by simpa using hl);rw[Q4]at d;refine⟨⟨⟨⟨f,λ_=>f⟩,λ_=>hl⟩,?_⟩,?_⟩
  ·show kY _ _ _ (dw one a (mn one a) (pre++(n,h)::AS) n);rw[e];exact d.1
  ·rw[zw,QO,e];rw[show pre++(n,jn one a h)::AS=pre++([(n,jn one a h)]++AS) by simp,d.2];unfold jm;simp
theorem Si(one a:AJ)(c:(m.map (·.1)).Nodup)(b:m.length<1000):oM m one a/\kJ m one a=jm m one a:=Bn one a m [] c b
theorem Wh:∀(a m:Z (AJ×AJ)),((m++a).map (·.1)).Nodup->a.foldl (λm q=>put m q.1 q.2) m=m++a
 |[],m,_=>by simp
 |q::a,m,nd=>by
  rw[QO];have:put m q.1 q.2=m++[q]:=by
   unfold put;rw[zC];intro e;have e:=lW.mp e;rw[qB,zw,KL]at nd;exact nd.2.2 _ e _ (zk ..) rfl
  rw[this,Wh a (m++[q]) (by simpa using nd)];simp
theorem Ep(n_:AZ)(b:n_.Nodup)(a:n_.length<1000):oK n_/\dN n_=n_.map λn=>(n,n):=by
 refine⟨⟨a,by omega⟩,?_⟩;unfold dN EV;rw[Wh _ [] (by rw[kM,QU];show(n_.map id).Nodup;rw[List.map_id];exact b)];rfl
structure Hd (n_:AZ) (m:List (Str×Str)):Prop where
 keys:m.map (·.1)=n_
 nd:n_.Nodup
 len:n_.length<1000
 mem:∀x∈n_,look m x∈n_
 idem:∀x∈n_,look m (look m x)=look m x
theorem Hd.kn(h:Hd n_ m):(m.map (·.1)).Nodup:=by rw[h.keys];exact h.nd
theorem Hd.ml(h:Hd n_ m):m.length<1000:=by rw[<-zi (f:=(·.1)),h.keys];exact h.len
theorem Hd.has(h:Hd n_ m)(hx:x∈n_):has m x=true:=lW.mpr (by rw[h.keys];exact hx)
theorem Hd.lone(b:n_.Nodup)(c:n_.length<1000):Hd n_ (n_.map λn=>(n,n)):=by
 have k:(n_.map λn=>(n,n)).map (·.1)=n_:=by rw[QU];show n_.map id=n_;rw[List.map_id]
 have a:∀x∈n_,look (n_.map λn=>(n,n)) x=x:=λx hx=>Eo (q:=(x,x)) (by rw[k];exact b) (List.mem_map.mpr ⟨x,hx,rfl⟩);exact⟨k,b,c,λx hx=>by rw[a x hx];exact hx,λx hx=>by rw[a x hx,a x hx]⟩
theorem Bg(a:n_.Nodup)(hx:x∈n_):look (n_.map λn=>(n,n)) x=x:=
 Eo (q:=(x,x)) (by rw[QU];show(n_.map id).Nodup;rw[List.map_id];exact a) (List.mem_map.mpr ⟨x,hx,rfl⟩)
theorem Hd.uy(h:Hd n_ m){one a:AJ}(hx:x∈n_):look (jm m one a) x=jn one a (look m x):=RI h.kn (by rw[h.keys];exact hx)
theorem Hd.join(h:Hd n_ m){a b:AJ}(c:a∈n_)(hb:b∈n_):Hd n_ (jm m (look m a) (look m b)):=by
 have f:=h.mem a c;have g:=h.mem b hb;refine⟨(Wg _ _ _).trans h.keys,h.nd,h.len,λx hx=>?_,λx hx=>?_⟩
 ·rw[h.uy hx];unfold jn;split
  ·rcases Kh (look m a) (look m b)with e|e<;>rw[e]<;>assumption
  ·exact h.mem x hx
 ·have d:jn (look m a) (look m b) (look m x)∈n_:=by
   unfold jn;split
   ·rcases Kh (look m a) (look m b)with e|e<;>rw[e]<;>assumption
   ·exact h.mem x hx
  rw[h.uy hx,h.uy d];unfold jn;by_cases q:look m x=look m a\/look m x=look m b
  ·rw[zh q];rcases Kh (look m a) (look m b)with e|e
   ·rw[e,h.idem a c,zh (.inl S)]
   ·rw[e,h.idem b hb,zh (.inr S)]
  ·rw[zC q,h.idem x hx,zC q]
theorem X9(a:AJ):jm m a a=m:=by
 unfold jm
 conv=>rhs;rw[<-List.map_id m]
 refine JY λq _=>?_;unfold jn mn;have:Cc a a=false:=by simp[Cc]
 rw[this];by_cases e:q.2=a
 ·rw[zh (.inl e),zC (by decide),<-e];rfl
 ·rw[zC (by simp[e])];rfl
def Yi(n_:AZ)(m:Z (AJ×AJ)):AZ:=n_.filter λx=>decide (look m x=x)
theorem Cu{p q:AJ->Bool}{c:AJ}:∀{l:AZ},l.Nodup->c∈l->p c=true->(∀x∈l,q x=(p x&&decide (x≠c)))->(l.filter q).length+1=(l.filter p).length
 |[],_,h,_,_=>by cases h
 |x::l,nd,a,hp,hq=>by
  have hx:=hq x (zk ..);obtain⟨nx,d⟩:=List.nodup_cons.mp nd;rcases List.mem_cons.mp a with rfl|a
  ·have e:l.filter q=l.filter p:=List.filter_congr λy b=>by
    rw[hq y (zo _ b)];have:y≠c:=λe=>nx (e▸b);simp[this]
   rw[k8,k8,hx,hp];simp[e]
  ·have f:=Cu (p:=p) (q:=q) d a hp λy b=>hq y (zo _ b);have:x≠c:=λe=>nx (e▸a);rw[k8,k8,hx];cases p x<;>simp[this]<;>omega
theorem Hd.abL(h:Hd n_ m){a b:AJ}(f:a∈n_)(hb:b∈n_)(g:look m a≠look m b):(Yi n_ (jm m (look m a) (look m b))).length+1=(Yi n_ m).length:=by
 have j:=h.mem a f;have n:=h.mem b hb;have i1:=h.idem a f;have i2:=h.idem b hb;have i:∀c,c∈n_->look m c=c->(c=look m a/\mn (look m a) (look m b)=look m b\/c=look m b/\mn (look m a) (look m b)=look m a)->(Yi n_ (jm m (look m a) (look m b))).length+1=(Yi n_ m).length:=λc o l d=>by
  refine Cu h.nd o (ZT l) λx hx=>?_;rw[h.uy hx];rw[JE];simp only[qi,Zz];unfold jn;by_cases q:look m x=look m a\/look m x=look m b
  ·rw[zh q];rcases d with⟨rfl,e⟩|⟨rfl,e⟩
   ·rw[e];constructor
    ·rintro rfl;exact⟨i2,λz=>g z.symm⟩
    ·rintro⟨e1,e2⟩;rcases q with q|q
     ·exact absurd (e1.symm.trans q) e2
     ·exact q.symm.trans e1
   ·rw[e];constructor
    ·rintro rfl;exact⟨i1,g⟩
    ·rintro⟨e1,e2⟩;rcases q with q|q
     ·exact q.symm.trans e1
     ·exact absurd (e1.symm.trans q) e2
  ·rw[zC q];constructor
   ·intro e1;refine⟨e1,λe2=>q ?_⟩;rcases d with⟨rfl,_⟩|⟨rfl,_⟩
    ·exact .inl (e1.trans e2)
    ·exact .inr (e1.trans e2)
   ·exact λe1=>e1.1
 rcases Kh (look m a) (look m b)with e|e
 ·exact i (look m b) n i2 (.inr ⟨rfl,e⟩)
 ·exact i (look m a) j i1 (.inl ⟨rfl,e⟩)
abbrev dX:=Int×AJ×AJ×Int
def Rs(n_:AZ)(rs:Z dX):Prop:=∀r∈rs,r.2.1∈n_/\r.2.2.1∈n_
def jb(m:Z (AJ×AJ))(r:dX):Z (AJ×AJ):=jm m (look m r.2.1) (look m r.2.2.1)
def hb(n_:AZ)(rs:Z dX):Z (AJ×AJ):=rs.foldl jb (dN n_)
theorem GT(b:n_.Nodup)(a:n_.length<1000):Hd n_ (dN n_):=by rw[(Ep n_ b a).2];exact Hd.lone b a
theorem Er(n_:AZ)(rs:Z dX)(r:dX):hb n_ (rs++[r])=jb (hb n_ rs) r:=List.foldl_append (l:=rs) (l':=[r])
theorem LE:∀{xs ys:AZ},xs.Nodup->(∀x∈xs,x∈ys)->xs.length<=ys.length
 |[],_,_,_=>Q1 _
 |x::xs,ys,nd,h=>by
  obtain⟨c,b⟩:=List.nodup_cons.mp nd;have hx:=h x (zk ..);have:=LE (ys:=ys.erase x) b λz a=>(List.mem_erase_of_ne (λe:z=x=>c (e▸a))).mpr (h z (zo _ a));rw[y7 hx]at this;have:=kF hx;rw[qc];omega
structure PH (n_:AZ) (P:List AZ) (m:List (Str×Str)):Prop where
 sub:∀p∈P,∀y∈p,y∈n_
 cov:∀x∈n_,∃p∈P,x∈p
 cls:∀p∈P,∀x∈p,∀y∈n_,(y∈p↔look m x=look m y)
 ne:∀p∈P,p≠[]
 nd:∀p∈P,p.Nodup
 uni:∀p∈P,∀q∈P,∀x,x∈p->x∈q->p=q
 len:P.length<=n_.length
 pn:P.Nodup
 srt:∀p∈P,p.Pairwise Rv
theorem Sn(b:n_.Nodup)(f:n_.length<1000):PH n_ (n_.map λname:AJ=>[name]) (dN n_):=by
 rw[(Ep n_ b f).2];have inv:∀p,p∈(n_.map λname:AJ=>[name])->∃n∈n_,p=[n]:=λp hp=>by
  obtain⟨n,a,e⟩:=List.mem_map.mp hp;exact⟨n,a,e.symm⟩
 refine⟨λp hp y c=>?_,λx hx=>⟨[x],List.mem_map.mpr ⟨x,hx,rfl⟩,List.mem_singleton.mpr rfl⟩,λp hp x hx y c=>?_,λp hp e=>?_,λp hp=>?_,λp hp q d x h1 h2=>?_,by rw[zi];exact zg _,?_,λp hp=>?_⟩
 ·obtain⟨n,a,rfl⟩:=inv p hp;cases List.mem_singleton.mp c;exact a
 ·obtain⟨n,a,rfl⟩:=inv p hp;cases List.mem_singleton.mp hx;rw[Bg b a,Bg b c,List.mem_singleton];exact⟨λe=>e.symm,λe=>e.symm⟩
 ·obtain⟨n,a,rfl⟩:=inv p hp;cases e
 ·obtain⟨n,a,rfl⟩:=inv p hp;exact List.nodup_cons.mpr ⟨λz=>(by cases z),j0⟩
 ·obtain⟨n,a,rfl⟩:=inv p hp;obtain⟨g,i,rfl⟩:=inv q d;cases List.mem_singleton.mp h1;cases List.mem_singleton.mp h2;rfl
 ·unfold List.Nodup;rw[List.pairwise_map];exact b.imp λh e=>h (by injection e)
 ·obtain⟨n,a,rfl⟩:=inv p hp;exact List.pairwise_singleton _ _
theorem EU{P:Z AZ}{a:AJ}(h:∃p∈P,a∈p):In ((P.filter λpart:AZ=>(decide (a∈part))).map λpart:AZ=>part).length (0:Int)/\at' ((P.filter λpart:AZ=>(decide (a∈part))).map λpart:AZ=>part) (0:Int)∈P/\a∈at' ((P.filter λpart:AZ=>(decide (a∈part))).map λpart:AZ=>part) (0:Int):=by
 obtain⟨p,hp,c⟩:=h;have m:p∈((P.filter λpart:AZ=>(decide (a∈part))).map λpart:AZ=>part):=List.mem_map.mpr ⟨p,List.mem_filter.mpr ⟨hp,ZT c⟩,rfl⟩;have i:In ((P.filter λpart:AZ=>(decide (a∈part))).map λpart:AZ=>part).length (0:Int):=G6 (k:=0) (kF m);refine⟨i,?_⟩;obtain⟨q,b,e⟩:=List.mem_map.mp (pq i);rw[<-e];exact⟨(List.mem_filter.mp b).1,ko (List.mem_filter.mp b).2⟩
theorem HP{P:Z AZ}(h:Hd n_ m)(p:PH n_ P m){one d:AZ}{a b:AJ}(h1:one∈P)(h2:d∈P)(t:a∈one)(hb:b∈d)(D:one≠d):
  (one++d).length<=n_.length/\PH n_ (((P.filter λpart:AZ=>(!sJ part [one,d])).map λpart:AZ=>part)++[(lg (one++d))]) (jm m (look m a) (look m b)):=by
 have F:=p.sub _ h1 _ t;have G:=p.sub _ h2 _ hb;have C:(one++d).Nodup:=List.nodup_append.mpr ⟨p.nd _ h1,p.nd _ h2,λx hx y g e=>D (p.uni _ h1 _ h2 x hx (e▸g))⟩;have u:∀x∈one++d,x∈n_:=λx hx=>(List.mem_append.mp hx).elim (p.sub _ h1 _) (p.sub _ h2 _);have c1:∀y∈n_,(y∈one↔look m y=look m a):=λy g=>(p.cls _ h1 _ t y g).trans ⟨Eq.symm,Eq.symm⟩;have c2:∀y∈n_,(y∈d↔look m y=look m b):=λy g=>(p.cls _ h2 _ hb y g).trans ⟨Eq.symm,Eq.symm⟩;have old:∀q,q∈((P.filter λpart:AZ=>(!sJ part [one,d])).map λpart:AZ=>part)↔q∈P/\q≠one/\q≠d:=λq=>by
  rw[List.map_id',List.mem_filter,Qr,<-Bool.not_eq_true,zf];simp
 have s:∀y,y∈lg (one++d)↔y∈one\/y∈d:=λy=>(fD _).mem_iff.trans yi;have E:∀q,q∈P->q≠one->q≠d->∀x∈q,look m x≠look m a/\look m x≠look m b:=λq c i j x hx=>by
  have l:=p.sub _ c _ hx;exact⟨λe=>i (p.uni _ c _ h1 x hx ((c1 x l).mpr e)),λe=>j (p.uni _ c _ h2 x hx ((c2 x l).mpr e))⟩
 refine⟨LE C u,⟨λq c y g=>?_,λx hx=>?_,λq c x hx y g=>?_,λq c=>?_,λq c=>?_,λq c v o x hx n=>?_,?_,?_,λq c=>?_⟩⟩
 ·rcases List.mem_append.mp c with c|c
  ·exact p.sub _ ((old q).mp c).1 _ g
  ·cases List.mem_singleton.mp c;exact u y ((fD _).mem_iff.mp g)
 ·obtain⟨q,c,n⟩:=p.cov x hx;by_cases e:q=one\/q=d
  ·refine⟨_,List.mem_append.mpr (.inr (List.mem_singleton.mpr S)),(s x).mpr ?_⟩;rcases e with rfl|rfl
   ·exact .inl n
   ·exact .inr n
  ·exact⟨q,List.mem_append.mpr (.inl ((old q).mpr ⟨c,λz=>e (.inl z),λz=>e (.inr z)⟩)),n⟩
 ·rcases List.mem_append.mp c with c|c
  ·obtain⟨c,i,j⟩:=(old q).mp c;have l:=p.sub _ c _ hx;have f:=E q c i j x hx;rw[h.uy l,h.uy g,p.cls _ c _ hx y g];unfold jn;rw[zC (λz=>z.elim f.1 f.2)];by_cases e:look m y=look m a\/look m y=look m b
   ·rw[zh e];constructor
    ·intro z;rw[z]at f;exact absurd e (λw=>w.elim f.1 f.2)
    ·intro z;rcases Kh (look m a) (look m b)with w|w<;>rw[w]at z
     ·exact absurd z f.1
     ·exact absurd z f.2
   ·rw[zC e]
  ·cases List.mem_singleton.mp c;have B:=(s x).mp hx;have l:=u x (List.mem_append.mpr B);rw[s,h.uy l,h.uy g,c1 y g,c2 y g];unfold jn;rw[zh (B.elim (λz=>.inl ((c1 x l).mp z)) (λz=>.inr ((c2 x l).mp z)))];by_cases e:look m y=look m a\/look m y=look m b
   ·rw[zh e];exact⟨λ_=>S,λ_=>e⟩
   ·rw[zC e];refine⟨λz=>absurd z e,λz=>?_⟩;rcases Kh (look m a) (look m b)with w|w<;>rw[w]at z
    ·exact .inl z.symm
    ·exact .inr z.symm
 ·rcases List.mem_append.mp c with c|c
  ·exact p.ne _ ((old q).mp c).1
  ·cases List.mem_singleton.mp c;intro e;have:=(s a).mpr (.inl t);rw[e]at this;cases this
 ·rcases List.mem_append.mp c with c|c
  ·exact p.nd _ ((old q).mp c).1
  ·cases List.mem_singleton.mp c;exact(fD _).nodup_iff.mpr C
 ·have A:∀q,q∈P->q≠one->q≠d->x∈q->x∈lg (one++d)->False:=λq c i j e1 e2=>
   ((s x).mp e2).elim (λz=>i (p.uni _ c _ h1 x e1 z)) (λz=>j (p.uni _ c _ h2 x e1 z))
  rcases List.mem_append.mp c with c|c<;>rcases List.mem_append.mp o with o|o
  ·exact p.uni _ ((old q).mp c).1 _ ((old v).mp o).1 x hx n
  ·cases List.mem_singleton.mp o;obtain⟨z,i,j⟩:=(old q).mp c;exact(A q z i j hx n).elim
  ·cases List.mem_singleton.mp c;obtain⟨z,i,j⟩:=(old v).mp o;exact(A v z i j n hx).elim
  ·exact(List.mem_singleton.mp c).trans (List.mem_singleton.mp o).symm
 ·rw[zS,List.map_id'];have:(P.filter λpart:AZ=>(!sJ part [one,d])).length<P.length:=by
   rw[List.length_filter_lt_length_iff_exists];refine⟨one,h1,?_⟩;rw[Qr,Bool.not_eq_false];exact zf.mpr (zk ..)
  have:=p.len;show _+1<=_;omega
 ·rw[KL];refine⟨by rw[List.map_id'];exact p.pn.filter _,List.nodup_cons.mpr ⟨λz=>(by cases z),j0⟩,λx hx y g e=>?_⟩;cases List.mem_singleton.mp g;obtain⟨z,i,j⟩:=(old x).mp hx;have:a∈x:=by rw[e];exact(s a).mpr (.inl t)
  exact i (p.uni _ z _ h1 a this t)
 ·rcases List.mem_append.mp c with c|c
  ·exact p.srt _ ((old q).mp c).1
  ·cases List.mem_singleton.mp c;exact rT _
theorem UG{P:Z AZ}(h:Hd n_ m)(d:n_.length<64)(p:PH n_ P m){r:dX}(b:r.2.1∈n_)(hb:r.2.2.1∈n_):
  gF P r/\PH n_ (cJ P r) (jm m (look m r.2.1) (look m r.2.2.1)):=by
 obtain⟨i1,a,a1⟩:=EU (p.cov _ b);obtain⟨i2,c,a2⟩:=EU (p.cov _ hb);have pl:=p.len;unfold gF cJ;dsimp only;generalize at' ((P.filter λpart:AZ=>(decide (r.2.1∈part))).map λpart:AZ=>part) (0:Int)=one at *
 generalize at' ((P.filter λpart:AZ=>(decide (r.2.2.1∈part))).map λpart:AZ=>part) (0:Int)=other at *
 by_cases e:one=other
 ·subst e;refine⟨⟨⟨by omega,i1⟩,⟨by omega,i2⟩,λz=>by simp at z⟩,?_⟩;rw[zC (by simp),(p.cls _ a _ a1 _ hb).mp a2,X9];exact p
 ·obtain⟨c1,c2⟩:=HP h p a c a1 a2 e;rw[zS]at c1;refine⟨⟨⟨by omega,i1⟩,⟨by omega,i2⟩,λ_=>⟨⟨by omega,?_,?_⟩,?_⟩⟩,?_⟩
  ·show _<=1000000;omega
  ·rw[zS];omega
  ·have:=c2.len;rw[zS]at this;show _<=1000000;omega
  ·rw[zh (by simp[e])];exact c2
theorem HJ{n_:AZ}(b:n_.length<64):∀(rs:Z dX) (P:Z AZ) (m:Z (AJ×AJ)),Rs n_ rs->Hd n_ m->PH n_ P m →
  kY (λ(a:Z AZ) (q1:dX)=>(cJ a q1)) (λ(a:Z AZ) (q1:dX)=>U (gF a q1)) rs P/\PH n_ (rs.foldl (λ(a:Z AZ) (q1:dX)=>(cJ a q1)) P) (rs.foldl jb m)
 |[],_,_,_,_,p=>⟨trivial,p⟩
 |r::rs,P,m,hr,h,p=>by
  obtain⟨c,hb⟩:=hr r (zk ..);obtain⟨d,q⟩:=UG h b p c hb;have e:=HJ b rs (cJ P r) (jb m r) (λx hx=>hr x (zo _ hx)) (h.join c hb) q;exact⟨⟨d,e.1⟩,e.2⟩
theorem T1(b:n_.Nodup)(a:n_.length<64){rs:Z dX}(c:Rs n_ rs):lU n_ rs/\∃P,iD n_ rs=vC P/\PH n_ P (hb n_ rs):=by
 obtain⟨d,p⟩:=HJ a rs _ _ c (GT b (by omega)) (Sn b (by omega));have pl:=p.len;refine⟨⟨by omega,d,by show List.length _<=100000;exact ZH pl (by omega),by show(List.map _ _).length<64;rw[zi];exact Kx pl a,λx hx=>?_⟩,_,congrArg vC (List.map_id' _),p⟩;obtain⟨y,e,rfl⟩:=List.mem_map.mp hx;have:=p.ne _ e;cases y
 ·exact absurd S this
 ·rfl
theorem Yj{P:Z AZ}(p:PH n_ P m){a b:AJ}(d:a∈n_)(hb:b∈n_):(((vC P).map λpart:AZ=>((decide (a∈part))&&(decide (b∈part)))).any id)=decide (look m a=look m b):=by
 rw[JE,QP,qi];constructor
 ·rintro⟨x,hx,e⟩;obtain⟨q,c,rfl⟩:=List.mem_map.mp hx;have e:(decide (a∈q)&&decide (b∈q))=true:=e;rw[Zz,qi,qi]at e;exact(p.cls q ((pQ P).mem_iff.mp c) a e.1 b hb).mp e.2
 ·intro e;obtain⟨q,c,hx⟩:=p.cov a d;refine⟨_,List.mem_map.mpr ⟨q,(pQ P).mem_iff.mpr c,rfl⟩,?_⟩;show(_&&_)=true;rw[Zz,qi,qi];exact⟨hx,(p.cls q c a hx b hb).mpr e⟩
theorem BU{α:Type}(c:Array α):∀(n:Nat) (a:Array α),((List.replicate n c).foldl (·++·) a).size=a.size+n*c.size
 |0,a=>by simp
 |n+1,a=>by
  rw[yk,QO,BU c n,KS,Nat.succ_mul];omega
theorem K9(x:AJ)(k:Int):(Txt.mul x k).length<=x.length*k.toNat:=by
 unfold Txt.mul;split
 ·exact Q1 _
 split
 ·rename_i h0 h;simp only[Bool.or_eq_true,beq_iff_eq]at h;rcases h with h|h
  ·subst h;simp
  ·rw[h];simp
 ·show(Array.size _)<=_;rw[BU];have:x.cps.size=x.length:=rfl;rw[this,Nat.mul_comm];simp
def LT:AJ:=("abcdefghijklmnopqrstuvwxyz":AJ)
theorem UJ:LT.length=26:=by decide +kernel
theorem fJ(h:n<=1000):sy n:=ZH h (by decide)
theorem UL(xs:Z Int)(o:6<=xs.length)(b:AJ)(hs:b.length<=5)(at_:Int)(k:Nat)(a:AZ)(i:k<200)(h:a.length=k/\∀n∈a,n.length<=12):j9 xs LT b at_ a k/\(fH xs LT b at_ a k).length=k+1/\∀n∈fH xs LT b at_ a k,n.length<=12:=by
 have j:=ZH (slice_le b Y (U at_)) hs;have g:=ZH (slice_le b (U at_) Y) hs;have c1:=mU LT ((↑k+at' xs 2)%15);have l:=iR (k:Int) (m:=8) (by decide);have e:(0:Int)<=(k:Int) / 8/\(k:Int) / 8<26:=by omega
 refine⟨⟨⟨B8 (by decide) (by omega),jM (by decide) (by rw[UJ];decide)⟩,⟨fJ (by omega),fJ (by rw[eG];omega)⟩,⟨B8 (by decide) (by omega),λ_=>⟨B8 e.1 (by rw[UJ];exact e.2),by omega,by omega,by rw[mU];decide⟩⟩,fJ (by omega)⟩,?_⟩;have d:∀n:AJ,n.length<=12->(a++[n]).length=k+1/\∀m∈a++[n],m.length<=12:=λn f=>⟨by simp[h.1],λm c=>by
  rcases List.mem_append.mp c with c|c
  ·exact h.2 m c
  ·cases List.mem_singleton.mp c;exact f⟩
 unfold fH;dsimp only;split
 ·exact d _ (by have:=K9 (ch LT ((k:Int) / 8)) (1+(k:Int)%8);rw[mU]at this;exact ZH this (by omega))
 ·exact d _ (by rw[eG,eG,c1];omega)
theorem L4(xs:AZ)(n:Nat)(h:∀x∈xs,x.length<=n):(Txt.join "" xs).length<=xs.length*n:=by
 have h1:=StrLaws.join_length_le ("":AJ) xs;rw[<-StrLaws.glued_eq_join]at h1;have h2:(xs.map (·.length)).sum<=xs.length*n:=by
  clear h1
  induction xs with
  |nil=>simp
  |cons a l c=>
   have:=c λx hx=>h x (zo _ hx);have:=h a (zk ..);simp only[zw,List.sum_cons,qc,Nat.succ_mul];omega
 have b:("":AJ).length=0:=rfl;rw[b,Nat.mul_zero]at h1;exact ZH h1 (by omega)
theorem WA(xs:AZ)(h:∀x∈xs,x.length=1):(xs.map (·.length)).sum=xs.length:=by
 induction xs with
 |nil=>rfl
 |cons a l b=>
  have:=b λx hx=>h x (zo _ hx);have:=h a (zk ..);simp only[zw,List.sum_cons,qc];omega
theorem Pw(xs:Z Int)(g:6<=xs.length)(a:Int)(h0:0<=a)(h1:a<=200):qz xs a/\(bY xs a).length=a.toNat/\∀n∈bY xs a,n.length<=12:=by
 have i:=iR (at' xs 0) (m:=6) (by decide);have st:∀b:AJ,b.length<=5->pD xs a LT b/\(kh xs a LT b).length=a.toNat/\∀n∈kh xs a LT b,n.length<=12:=λb hs=>by
  have:=vD (P:=λf k=>U (j9 xs LT b (at' xs 1%((b.length:Int)+1)) f k)) (step:=λf k=>fH xs LT b (at' xs 1%((b.length:Int)+1)) f k) (λk s=>s.length=k/\∀n∈s,n.length<=12) a.toNat [] ⟨rfl,λn h=>(by cases h)⟩ λk s d h=>UL xs g b hs _ k s (by omega) h;exact⟨⟨⟨B8 (by decide) (by omega),by omega⟩,J7 h0 (by omega),this.1⟩,this.2⟩
 have c1:∀x∈((rng 0 (at' xs 0%6).toNat).map λc:Int=>ch LT (at' xs c / 40%26)),x.length=1:=λx hx=>by
  obtain⟨k,_,rfl⟩:=List.mem_map.mp hx;exact mU _ _
 have:=st (Txt.join "" ((rng 0 (at' xs 0%6).toNat).map λc:Int=>ch LT (at' xs c / 40%26))) (by
  have:=L4 _ 1 λx hx=>Nat.le_of_eq (c1 x hx);rw[zi,pR]at this;omega)
 refine⟨⟨⟨⟨⟨⟨B8 (by decide) (by omega),J7 i.1 (by omega)⟩,by rw[pR];omega⟩,λk d=>?_⟩,?_⟩,this.1⟩,this.2⟩
 ·obtain⟨j,l,rfl⟩:=zq d;exact⟨B8 (by omega) (by omega),jM (by decide) (by rw[show("abcdefghijklmnopqrstuvwxyz":AJ)=LT from rfl,UJ];decide)⟩
 ·rw[show("abcdefghijklmnopqrstuvwxyz":AJ)=LT from rfl,WA _ c1,zi,pR];have e:("":AJ).length=0:=rfl;rw[e];omega
def Co(xs:Z Int)(a:AJ)(at_:Int)(k:Int):AJ:=if(decide (((at' xs 3)%3)=1))=true then(Txt.mul (ch LT (k / (8:Int))) (1+(k%8)))else(((Txt.slice a Y (U at_))++(ch LT ((k+(at' xs 2))%15)))++(Txt.slice a (U at_) Y))
theorem yd{α β:Type}(g:β->α):∀(l:Z β) (f:Z α),l.foldl (λf k=>f++[g k]) f=f++l.map g
 |[],f=>by simp
 |k::l,f=>by rw[QO,yd g l];simp
theorem TU(xs:Z Int)(a:Int):∃b at_,bY xs a=(rng 0 a.toNat).map (Co xs b at_):=by
 refine⟨_,_,(yd (Co xs _ _) _ []).trans (kM _)⟩
theorem UW{a b m c:AJ}(h:(a++m)++b=(a++c)++b):m=c:=by
 have h:=congrArg (λs:AJ=>s.cps.toList) h;have h:((a.cps++m.cps)++b.cps).toList=((a.cps++c.cps)++b.cps).toList:=h;simp only[Array.toList_append]at h;have:=List.append_cancel_left (List.append_cancel_right h);cases m;cases c;congr 1;exact Array.ext' this
theorem LJ:∀i:Fin 30,∀j:Fin 30,Txt.mul (ch LT ((i.val:Int) / 8)) (1+(i.val:Int)%8)=Txt.mul (ch LT ((j.val:Int) / 8)) (1+(j.val:Int)%8)->i=j:=by decide +kernel
theorem UD:∀i:Fin 15,∀j:Fin 15,ch LT (i.val:Int)=ch LT (j.val:Int)->i=j:=by decide +kernel
theorem ci{x y:Int}(hx:0<=x/\x<15)(a:0<=y/\y<15)(h:ch LT x=ch LT y):x=y:=by
 have:=UD ⟨x.toNat,by omega⟩ ⟨y.toNat,by omega⟩ (by
  show ch LT ((x.toNat:Nat):Int)=ch LT ((y.toNat:Nat):Int);rw[yn hx.1,yn a.1];exact h)
 have:=congrArg Fin.val this;have:x.toNat=y.toNat:=this;omega
theorem OS{xs:Z Int}{a:AJ}{at_:Int}(hi:i<15)(b:j<15)(h:Co xs a at_ i=Co xs a at_ j):i=j:=by
 unfold Co at h;by_cases e:(decide (((at' xs 3)%3)=1))=true
 ·rw[zh e,zh e]at h;exact congrArg Fin.val (LJ ⟨i,by omega⟩ ⟨j,by omega⟩ h)
 ·rw[zC e,zC e]at h;have:=ci (iR _ (by decide)) (iR _ (by decide)) (UW h);omega
theorem Ud{g:Int->AJ}(h:∀i j:Nat,i<n->j<n->g i=g j->i=j):((rng 0 n).map g).Nodup:=by
 unfold rng;rw[QU];unfold List.Nodup;rw[List.pairwise_map];refine y8 ?_ (y9 (n:=n));intro a b c hb d e;refine d (h a b (List.mem_range.mp c) (List.mem_range.mp hb) ?_);have e:g (0+(a:Int))=g (0+(b:Int)):=e;rwa [Int.zero_add,Int.zero_add]at e
theorem ij(xs:Z Int)(a:Int)(h:a<=15):(bY xs a).Nodup:=by
 obtain⟨b,at_,e⟩:=TU xs a;rw[e];exact Ud λi j hi c=>OS (by omega) (by omega)
def Lw(c:Nat):Prop:=97<=c/\c<=122
def Nm(s:AJ):Prop:=1<=s.length/\s.length<=8/\∀c∈cs s,Lw c
theorem OO{c:Nat}(h:Lw c):c∈cs LT:=by
 have:∀i:Fin 26,97+i.val∈cs LT:=by decide +kernel
 have:=this ⟨c-97,by unfold Lw at h;omega⟩;unfold Lw at h;rwa [show 97+(c-97)=c by omega]at this
theorem f8{s:AJ}(h:Nm s):dI (.str s)=true:=by
 unfold dI jq;rw[show lA (.str s)=true from rfl,show TQ (.str s)=(s.length:Int) from rfl,ZT (show(1:Int)<=s.length by have:=h.1;omega),ZT (show(s.length:Int)<=8 by have:=h.2.1;omega)];show List.all _ id=true;rw[qo];intro b hb;obtain⟨d,e,rfl⟩:=List.mem_map.mp hb;obtain⟨c,a,rfl⟩:=List.mem_map.mp (show d∈P1.BH s from e);exact X3 (OO (h.2.2 c a))
theorem ZB(c:Nat)(n:Int)(h:1<=n):cs (Txt.mul ⟨#[c]⟩ n)=List.replicate n.toNat c:=by
 unfold Txt.mul;split
 ·omega
 split
 ·rename_i h;simp only[Bool.or_eq_true,beq_iff_eq]at h;rcases h with h|h
  ·subst h;rfl
  ·cases h
 ·have:∀(k:Nat) (a:Array Nat),((List.replicate k (#[c]:Array Nat)).foldl (·++·) a).toList=a.toList++List.replicate k c:=by
   intro k
   induction k with
   |zero=>intro a;simp
   |succ k b=>
    intro a;rw[yk,QO,b,Array.toList_append,yk];simp
  exact(this _ _).trans (by simp)
theorem G'{i:Int}(h:0<=i/\i<26):ch LT i=⟨#[97+i.toNat]⟩:=by
 have:∀i:Fin 26,ch LT (i.val:Int)=⟨#[97+i.val]⟩:=by decide +kernel
 have:=this ⟨i.toNat,by omega⟩;rwa [show((⟨i.toNat,by omega⟩:Fin 26).val:Int)=i by show(i.toNat:Int)=i;omega]at this
theorem Wi{i n:Int}(h:0<=i/\i<26)(h1:1<=n)(b:n<=8):Nm (Txt.mul (ch LT i) n):=by
 have e:=ZB (97+i.toNat) n h1;rw[<-G' h]at e;refine⟨?_,?_,λc a=>?_⟩
 ·rw[G9,e,List.length_replicate];omega
 ·rw[G9,e,List.length_replicate];omega
 ·rw[e]at a;rw[(List.mem_replicate.mp a).2];unfold Lw;omega
theorem gN{l:AZ}{c:Nat}(h:c∈cs (Txt.join "" l)):∃q∈l,c∈cs q:=by
 cases l with
 |nil=>cases h
 |cons p ps=>
  rw[VI]at h;rcases List.mem_append.mp h with h|h
  ·exact⟨p,zk ..,h⟩
  ·obtain⟨q,a,h⟩:=List.mem_flatMap.mp h;exact⟨q,zo _ a,h⟩
theorem Yk(xs:Z Int)(e:Int):∃(b:AJ) (at_:Int),(∀c∈cs b,Lw c)/\b.length<=5/\0<=at_/\at_<=(b.length:Int)/\bY xs e=(rng 0 e.toNat).map (Co xs b at_):=by
 have g:=iR (at' xs 0) (m:=6) (by decide);have mem:∀x∈((rng 0 (at' xs 0%6).toNat).map λa:Int=>ch LT (at' xs a / 40%26)),x.length=1/\∀c∈cs x,Lw c:=λx hx=>by
  obtain⟨k,_,rfl⟩:=List.mem_map.mp hx;refine⟨mU _ _,λc d=>?_⟩;rw[G' (iR _ (by decide))]at d;cases List.mem_singleton.mp d;have:=iR (at' xs k / 40) (m:=26) (by decide);unfold Lw;omega
 refine⟨Txt.join "" ((rng 0 (at' xs 0%6).toNat).map λa:Int=>ch LT (at' xs a / 40%26)),at' xs 1%(((Txt.join "" ((rng 0 (at' xs 0%6).toNat).map λa:Int=>ch LT (at' xs a / 40%26))).length:Int)+1),λc d=>?_,?_,?_,?_,(yd (Co xs _ _) _ []).trans (kM _)⟩
 ·obtain⟨q,f,h⟩:=gN d;exact(mem q f).2 c h
 ·have:=L4 _ 1 λx hx=>Nat.le_of_eq (mem x hx).1;rw[zi,pR]at this;omega
 ·exact(iR _ (by omega)).1
 ·have:=(iR (at' xs 1) (m:=((Txt.join "" ((rng 0 (at' xs 0%6).toNat).map λa:Int=>ch LT (at' xs a / 40%26))).length:Int)+1) (by omega)).2;omega
theorem TH{xs:Z Int}{a:AJ}{at_:Int}(h1:∀c∈cs a,Lw c)(h2:a.length<=5)(h:0<=at_)(l:at_<=(a.length:Int)){k:Int}(j:0<=k/\k<15):Nm (Co xs a at_ k):=by
 unfold Co;split
 ·exact Wi (by omega) (by omega) (by omega)
 ·have f:=Sr (x:=a) (n:=at_.toNat) (by omega);have d:=fw (x:=a) (n:=at_.toNat) (by omega);rw[yn h]at f d;have c1:=G' (i:=(k+at' xs 2)%15) (by have:=iR (k+at' xs 2) (m:=15) (by decide);omega);have m:=iR (k+at' xs 2) (m:=15) (by decide);have e:cs ((Txt.slice a Y (U at_)++ch LT ((k+at' xs 2)%15))++Txt.slice a (U at_) Y)=((cs a).take at_.toNat++[97+((k+at' xs 2)%15).toNat])++(cs a).drop at_.toNat:=by
   rw[MN,MN,f,d,c1]
  have g:((Txt.slice a Y (U at_)++ch LT ((k+at' xs 2)%15))++Txt.slice a (U at_) Y).length=a.length+1:=by
   rw[G9,e,zS,zS,kz,kA,<-G9];show _+1+_=_;omega
  refine⟨by rw[g];omega,by rw[g];omega,λc b=>?_⟩;rw[e]at b;rcases List.mem_append.mp b with b|b
  ·rcases List.mem_append.mp b with b|b
   ·exact h1 c (List.mem_of_mem_take b)
   ·cases List.mem_singleton.mp b;unfold Lw;omega
  ·exact h1 c (List.mem_of_mem_drop b)
def NQ(n_:AZ):Prop:=∀x∈n_,∀y∈n_,x++("q":AJ)≠y
theorem ME:∀i:Fin 30,∀j:Fin 30,Txt.mul (ch LT ((i.val:Int) / 8)) (1+(i.val:Int)%8)++("q":AJ)≠Txt.mul (ch LT ((j.val:Int) / 8)) (1+(j.val:Int)%8):=by decide +kernel
theorem WI(xs:Z Int)(c:Int)(h:c<=15):(∀n∈bY xs c,Nm n)/\NQ (bY xs c):=by
 obtain⟨o,at_,h1,h2,d,f,e⟩:=Yk xs c;rw[e];constructor
 ·intro n m;obtain⟨k,a,rfl⟩:=List.mem_map.mp m;obtain⟨j,l,rfl⟩:=zq a;exact TH h1 h2 d f (by omega)
 ·intro x hx y g b;obtain⟨k,a,rfl⟩:=List.mem_map.mp hx;obtain⟨i,hi,rfl⟩:=zq a;obtain⟨k,a,rfl⟩:=List.mem_map.mp g;obtain⟨j,l,rfl⟩:=zq a;unfold Co at b;by_cases e:(decide (((at' xs 3)%3)=1))=true
  ·rw[zh e,zh e]at b;exact ME ⟨i,by omega⟩ ⟨j,by omega⟩ b
  ·rw[zC e,zC e]at b;have:=congrArg Str.length b;rw[eG,eG,eG,eG,eG,mU,mU]at this;have:("q":AJ).length=1:=rfl;omega
theorem NP{a b:Int}(c:0<=a/\a<n)(hb:0<=b/\b<n):In n (if b<a then b else a):=by split<;>exact B8 (by omega) (by omega)
theorem NT{a b:Int}(c:0<=a/\a<n)(hb:0<=b/\b<n):In n (if b>a then b else a):=by split<;>exact B8 (by omega) (by omega)
theorem Wj{a:Int}(b:n=a.toNat){x y:Int}(h:(!decide (x%(if a>1 then a else 1)=y%(if a>1 then a else 1)))=true):(0<=x%(if a>1 then a else 1)/\x%(if a>1 then a else 1)<n)/\(0<=y%(if a>1 then a else 1)/\y%(if a>1 then a else 1)<n):=by
 by_cases e:a>1
 ·rw[zh e]at h ⊢;have h1:=iR x (m:=a) (by omega);have h2:=iR y (m:=a) (by omega);omega
 ·rw[zC e]at h;simp at h
theorem pH{a:Int}:0<(if a>1 then a else 1):=by split<;>omega
theorem Yl(b:Z Int)(at_ a:Int)(t:0<=at_)(a1:at_<=500)(f:Z Int)(p:6<=f.length)(n_:AZ)(o:n_.length=a.toNat)(k:Nat)(q:k<60)(e:Z dX)(h:e.length<=k/\Rs n_ e):
  ig b at_ a f n_ e k/\(dh b at_ a f n_ e k).length<=k+1/\Rs n_ (dh b at_ a f n_ e k):=by
 obtain⟨n,j,s⟩:=HF (aV b ((at_+1)+k)) 4 (by decide) (by decide);have j:(aR (aV b ((at_+1)+k)) 4).length=4:=j;unfold ig dh;dsimp only;generalize aR (aV b ((at_+1)+k)) 4=xs at *
 have m:=λx y=>Wj (x:=x) (y:=y) o;have l:=@pH a;generalize (if a>1 then a else 1)=mm at *
 have c:∀i:Nat,i<4->In xs.length (i:Int):=λi hi=>G6 (by omega);refine⟨⟨⟨HD _ _ (by omega) (by omega),n⟩,⟨⟨c 0 (by decide),l⟩,c 1 (by decide),l⟩,⟨⟨⟨c 2 (by decide),c 2 (by decide),c 2 (by decide)⟩,B8 (by decide) (by omega)⟩,jM (by decide) (Int.le_refl 3)⟩,λg=>?_⟩,?_⟩
 ·have:=m _ _ g;exact⟨⟨NP this.1 this.2,NT this.1 this.2,c 3 (by decide),jM (by decide) (by decide)⟩,fJ (by omega)⟩
 ·split
  ·rename_i g;have:=m _ _ g;refine⟨by rw[zS];show _+1<=_;omega,λr d=>?_⟩;rcases List.mem_append.mp d with d|d
   ·exact h.2 r d
   ·cases List.mem_singleton.mp d;exact⟨pq (NP this.1 this.2),pq (NT this.1 this.2)⟩
  ·exact⟨by omega,h.2⟩
theorem Ym(c:Z Int)(at_ a:Int)(s:0<=at_)(a1:at_<=500)(n_:AZ)(o:n_.length=a.toNat)(k:Nat)(p:k<60)(e:Z (AJ×AJ×Int))(h:e.length<=k/\∀b∈e,b.1∈n_/\b.2.1∈n_):
  iu c at_ a n_ e k/\(dj c at_ a n_ e k).length<=k+1/\∀b∈dj c at_ a n_ e k,b.1∈n_/\b.2.1∈n_:=by
 obtain⟨n,j,q⟩:=HF (aV c ((at_+1)+k)) 8 (by decide) (by decide);have j:(aR (aV c ((at_+1)+k)) 8).length=8:=j;unfold iu dj;dsimp only;generalize aR (aV c ((at_+1)+k)) 8=xs at *
 have m:=λx y=>Wj (x:=x) (y:=y) o;have l:=@pH a;generalize (if a>1 then a else 1)=mm at *
 have g:∀i:Nat,i<8->In xs.length (i:Int):=λi hi=>G6 (by omega);refine⟨⟨⟨HD _ _ (by omega) (by omega),n⟩,⟨⟨g 5 (by decide),l⟩,g 6 (by decide),l⟩,λf=>?_⟩,?_⟩
 ·have:=m _ _ f;exact⟨⟨NP this.1 this.2,NT this.1 this.2,g 7 (by decide),jM (by decide) (by decide)⟩,fJ (by omega)⟩
 ·split
  ·rename_i f;have:=m _ _ f;refine⟨by rw[zS];show _+1<=_;omega,λr d=>?_⟩;rcases List.mem_append.mp d with d|d
   ·exact h.2 r d
   ·cases List.mem_singleton.mp d;exact⟨pq (NP this.1 this.2),pq (NT this.1 this.2)⟩
  ·exact⟨by omega,h.2⟩
structure Gr (g:AZ×(List dX)×(List (Str×Str×Int))):Prop where
 nd:g.1.Nodup
 len:g.1.length<=30
 rs:Rs g.1 g.2.1
 bs:∀b∈g.2.2,b.1∈g.1/\b.2.1∈g.1
 rl:g.2.1.length<64
 bl:g.2.2.length<64
 so:g.1.Pairwise Rv
 nm:∀n∈g.1,Nm n
 nq:NQ g.1
theorem Rs.turn{rs:Z dX}(h:Rs n_ rs):Rs n_ (rs.map λa:(Int×AJ×AJ×Int)=>(((0:Int)-a.1),a.2.1,a.2.2.1,a.2.2.2)):=λr b=>by
 obtain⟨q,c,rfl⟩:=List.mem_map.mp b;exact h q c
theorem Yn(d:Z Int)(at_ a i g:Int)(m:0<=at_)(a1:at_<=500)(F:0<=a)(q:a<=15)(E:0<=i)(X:i<60)(b0:0<=g)(b1:g<60):oJ d at_ a i g/\Gr (oH d at_ a i g):=by
 obtain⟨H,o,Q⟩:=HF (aV d at_) 6 (by decide) (by decide);have o:(aR (aV d at_) 6).length=6:=o;have C:∀c:Z Int,6<=c.length->nu d at_ a i g c/\Gr (nj d at_ a i g c):=λc u=>by
  obtain⟨J,t,W⟩:=Pw c u a F (by omega);have knd:=ij c a q;have l:(lg (bY c a)).length=a.toNat:=by rw[(fD _).length_eq,t]
  have p:(lg (bY c a)).Nodup:=(fD _).nodup_iff.mpr knd;have N:∀n_:AZ,n_.length=a.toNat->n_.Nodup->n_.Pairwise Rv->(∀n∈n_,Nm n)->NQ n_->ni d at_ a i g c n_/\Gr (m9 d at_ a i g c n_):=λn_ l p K nm A=>by
   obtain⟨t1,t2,t3⟩:=vD (P:=λf k=>U (ig d at_ a c n_ f k)) (step:=λf k=>dh d at_ a c n_ f k) (λk s=>s.length<=k/\Rs n_ s) i.toNat [] ⟨zg 0,λr h=>(by cases h)⟩ λk s M h=>Yl d at_ a m a1 c u n_ l k (by omega) s h;obtain⟨L,B,w⟩:=vD (P:=λf k=>U (iu d at_ a n_ f k)) (step:=λf k=>dj d at_ a n_ f k) (λk s=>s.length<=k/\∀b∈s,b.1∈n_/\b.2.1∈n_) g.toNat [] ⟨zg 0,λr h=>(by cases h)⟩ λk s M h=>Ym d at_ a m a1 n_ l k (by omega) s h;have sl:=Kx B (show g.toNat<64 by omega);have c6:∀j:Z dX,j.length<=i.toNat->Rs n_ j->m7 d at_ a i g c n_ j/\Gr (mZ d at_ a i g c n_ j):=λj tl G=>by
    have dl:=Ef j;have sp:=(jL (e:=EE eI eS eS eI) (JZ j)).length_eq;refine⟨⟨⟨⟨by omega,by omega⟩,by rw[sp];omega⟩,⟨J7 b0 (by omega),L⟩,JJ sl,sl⟩,p,?_,?_,?_,?_,?_,K,nm,A⟩
    ·show n_.length<=30;omega
    ·exact Rs.turn λr v=>G r (rZ.mp ((jL _).mem_iff.mp v))
    ·exact λb hb=>w b (rZ.mp ((jL _).mem_iff.mp hb))
    ·show(List.map _ _).length<64;rw[zi,sp];omega
    ·show(ug _ _).length<64;rw[(jL _).length_eq];exact Kx (Ef _) sl
   have:=c6 _ t2 t3;exact⟨⟨⟨J7 E (by omega),t1⟩,this.1⟩,this.2⟩
  have mem:∀n,n∈lg (bY c a)->n∈bY c a:=λn h=>(fD _).mem_iff.mp h;obtain⟨I,z⟩:=WI c a q;have:=N _ l p (rT _) (λn h=>I n (mem n h)) λx hx y D=>z x (mem x hx) y (mem y D);exact⟨⟨⟨J,by rw[t];omega⟩,this.1⟩,this.2⟩
 have:=C _ (Nat.le_of_eq o.symm);exact⟨⟨⟨HD _ _ m (by omega),H⟩,this.1⟩,this.2⟩
def LC:AJ:=("abcd":AJ)
theorem P9:LC.length=4:=by decide +kernel
theorem Hk(h:i<30):ch LC ((i:Int) / 8)=ch LT ((i:Int) / 8):=by
 have:∀i:Fin 30,ch LC ((i.val:Int) / 8)=ch LT ((i.val:Int) / 8):=by decide +kernel
 exact this ⟨i,h⟩
theorem U0(d:Int)(b n_:AZ)(f:b.length=30)(hs:∀x∈b,x∈n_)(k:Nat)(e:k<30)(a:Z dX)(h:a.length<=k/\Rs n_ a):j8 d b a k/\(dU d b a k).length<=k+1/\Rs n_ (dU d b a k):=by
 have i1:In b.length (k:Int):=G6 (by omega);have i2:In b.length (((k:Int)+1)%30):=jM (by decide) (by omega);have a1:=hs _ (pq i1);have a2:=hs _ (pq i2);refine⟨⟨⟨i1,i2⟩,⟨IG (by omega) (by omega),jM (by decide) (Int.le_refl 4)⟩,fJ (by omega)⟩,?_,?_⟩
 ·show(a++[_]).length<=k+1;rw[zS];show _+1<=_;omega
 ·intro r c;rcases List.mem_append.mp (show r∈a++[_] from c)with c|c
  ·exact h.2 r c
  ·cases List.mem_singleton.mp c;refine⟨?_,?_⟩
   ·show(if Cc _ _=true then _ else _)∈n_;split
    ·exact a2
    ·exact a1
   ·show(if Cc _ _=true then _ else _)∈n_;split
    ·exact a2
    ·exact a1
theorem Rl:(((rng 0 (kN 30)).map λa:Int=>(Txt.mul (ch LC (a / (8:Int))) (1+(a%8)))).length=30/\((rng 0 (kN 30)).map λa:Int=>(Txt.mul (ch LC (a / (8:Int))) (1+(a%8)))).Nodup)/\(∀n∈((rng 0 (kN 30)).map λa:Int=>(Txt.mul (ch LC (a / (8:Int))) (1+(a%8)))),Nm n)/\NQ ((rng 0 (kN 30)).map λa:Int=>(Txt.mul (ch LC (a / (8:Int))) (1+(a%8)))):=by
 rw[Qs];have c:∀n,n∈((rng 0 30).map λa:Int=>(Txt.mul (ch LC (a / (8:Int))) (1+(a%8))))->∃i:Nat,i<30/\n=Txt.mul (ch LT ((i:Int) / 8)) (1+(i:Int)%8):=λn h=>by
  obtain⟨k,d,rfl⟩:=List.mem_map.mp h;obtain⟨i,hi,rfl⟩:=zq d;exact⟨i,hi,by rw[Hk hi]⟩
 refine⟨⟨by rw[zi,pR],Ud λi j hi b e=>?_⟩,λn h=>?_,λx hx y f=>?_⟩
 ·rw[Hk hi,Hk b]at e;exact congrArg Fin.val (LJ ⟨i,hi⟩ ⟨j,b⟩ e)
 ·obtain⟨i,hi,rfl⟩:=c n h;exact Wi (by omega) (by omega) (by omega)
 ·obtain⟨i,hi,rfl⟩:=c x hx;obtain⟨j,b,rfl⟩:=c y f;exact ME ⟨i,hi⟩ ⟨j,b⟩
theorem XN(x turn c:Int):mK x turn c/\Gr (mJ x turn c):=by
 have v:=iR x (m:=2) (by decide);obtain⟨⟨w,p⟩,nm,o⟩:=Rl;unfold mK mJ;dsimp only;rw[show("abcd":AJ)=LC from rfl];have d0:(rng 0 (kN 30)).length<=100000:=by rw[pR,Qs];decide
 have t:∀a∈rng 0 (kN 30),In LC.length (a / 8)/\(1+a%8<=1000 ∧ -1000<=1+a%8/\(ch LC (a / 8)).length<=1000):=λk d=>by
  rw[Qs]at d;obtain⟨h1,h2⟩:=az d;have u:=iR k (m:=8) (by decide);refine⟨B8 (by omega) (by rw[P9];omega),by omega,by omega,by rw[mU];decide⟩
 generalize ((rng 0 (kN 30)).map λa:Int=>(Txt.mul (ch LC (a / (8:Int))) (1+(a%8))))=n_ at *
 have j:∀i:Int,In n_.length (((7*i)+turn)%30):=λi=>jM (by decide) (by omega);have q:((rng 0 (kN 30)).map λa:Int=>(at' n_ (((7*a)+turn)%30))).length=30:=by rw[zi,pR,Qs]
 have os:∀y∈((rng 0 (kN 30)).map λa:Int=>(at' n_ (((7*a)+turn)%30))),y∈n_:=λy g=>by
  obtain⟨k,_,rfl⟩:=List.mem_map.mp g;exact pq (j k)
 generalize ((rng 0 (kN 30)).map λa:Int=>(at' n_ (((7*a)+turn)%30)))=order at *
 obtain⟨t1,t2,t3⟩:=vD (P:=λf k=>U (j8 c order f k)) (step:=λf k=>dU c order f k) (λk s=>s.length<=k/\Rs n_ s) (29+(x%2)).toNat [] ⟨zg 0,λr h=>(by cases h)⟩ λk s d h=>U0 c order n_ q os k (by omega) s h;generalize (rng 0 (29+(x%2)).toNat).foldl (λf k=>dU c order f k) []=so at *
 have sp:=(jL (e:=aJ) so).length_eq;have mem:∀y,y∈lg n_↔y∈n_:=λy=>(fD n_).mem_iff;refine⟨⟨⟨d0,t⟩,⟨d0,λk _=>j k⟩,⟨J7 (by omega) (by omega),t1⟩,by omega,by omega,by rw[sp];omega⟩,(fD n_).nodup_iff.mpr p,?_,?_,?_,?_,?_,rT _,λn h=>nm n ((mem n).mp h),λx hx y g=>o x ((mem x).mp hx) y ((mem y).mp g)⟩
 ·show(lg n_).length<=30;rw[(fD n_).length_eq];omega
 ·exact Rs.turn λr l=>by
   have:=t3 r ((jL _).mem_iff.mp l);exact⟨(mem _).mpr this.1,(mem _).mpr this.2⟩
 ·exact λb hb=>(by cases hb)
 ·show(List.map _ _).length<64;rw[zi,sp];omega
 ·show 0<64;decide
theorem OA(b:Z Int):mL b/\Gr (iT b):=by
 obtain⟨j,d,l⟩:=HF (aV b 0) 12 (by decide) (by decide);have d:(aR (aV b 0) 12).length=12:=d;unfold mL iT;dsimp only;generalize aR (aV b 0) 12=head at *
 have a:∀i:Nat,i<12->In head.length (i:Int):=λi hi=>G6 (by omega);have c:=XN (at' head 9 / 16) (at' head 10) (at' head 11);have e:=iR (at' head 6) (m:=15) (by decide);have f:=iR (at' head 7) (m:=22) (by decide);have h:=iR (at' head 8) (m:=4) (by decide);have g:=Yn b 0 (at' head 6%15) (at' head 7%22) (at' head 8%4) (by decide) (by decide) e.1 (by omega) f.1 (by omega) h.1 (by omega);refine⟨⟨⟨HD _ _ (by decide) (by decide),j⟩,a 9 (by decide),λ_=>⟨⟨a 9 (by decide),a 10 (by decide),a 11 (by decide)⟩,c.1⟩,λ_=>⟨a 6 (by decide),⟨a 7 (by decide),a 8 (by decide)⟩,g.1⟩⟩,?_⟩;split
 ·exact c.2
 ·exact g.2
def Tr(F:Z dX):AJ->Z dX->AJ->Prop
 |s,[],e=>s=e
 |s,r::p,e=>r∈F/\∃t,aW r s=U t/\Tr F t p e
def Ru(F:Z dX)(x y:AJ):Prop:=∃p,Tr F x p y
theorem oR{r:dX}(h:aW r x=U y):(r.2.1=x/\r.2.2.1=y)\/(r.2.2.1=x/\r.2.1=y):=by
 unfold aW at h;by_cases h1:r.2.1=x
 ·rw[ZT h1,zh rfl]at h;exact .inl ⟨h1,ja h⟩
 ·rw[ZE h1,zC (by decide)]at h;by_cases h2:r.2.2.1=x
  ·rw[ZT h2,zh rfl]at h;exact .inr ⟨h2,ja h⟩
  ·rw[ZE h2,zC (by decide)]at h;cases h
theorem Wm{r:dX}(a:r.2.1≠r.2.2.1)(h:aW r x=U y):aW r y=U x:=by
 unfold aW;rcases oR h with⟨h1,h2⟩|⟨h1,h2⟩
 ·have:r.2.1≠y:=λz=>a (z.trans h2.symm);rw[ZE this,zC (by decide),ZT h2,zh rfl,h1]
 ·rw[ZT h2,zh rfl,h1]
theorem Tr.app{F:Z dX}:∀{p:Z dX} {x y z:AJ} {q:Z dX},Tr F x p y->Tr F y q z->Tr F x (p++q) z
 |[],_,_,_,_,h,h'=>by cases h;exact h'
 |_::_,_,_,_,_,⟨m,t,e,h⟩,h'=>⟨m,t,e,h.app h'⟩
theorem Tr.rev{F:Z dX}(a:∀r∈F,r.2.1≠r.2.2.1):∀{p:Z dX} {x y:AJ},Tr F x p y->Tr F y p.reverse x
 |[],_,_,h=>by cases h;rfl
 |r::p,x,y,⟨m,t,e,h⟩=>by
  rw[kU];exact(h.rev a).app ⟨m,x,Wm (a r m) e,rfl⟩
theorem Ru.symm{F:Z dX}(a:∀r∈F,r.2.1≠r.2.2.1){x y:AJ}:Ru F x y->Ru F y x:=λ⟨p,h⟩=>⟨_,h.rev a⟩
theorem Ru.trans{F:Z dX}{z:AJ}:Ru F x y->Ru F y z->Ru F x z:=λ⟨_,h⟩ ⟨_,h'⟩=>⟨_,h.app h'⟩
inductive Fo:List dX->Prop
 |nil:Fo []
 |snoc {F:List dX} {r:dX}:Fo F->¬ Ru F r.2.1 r.2.2.1->Fo (F++[r])
theorem Fo.ne{F:Z dX}(h:Fo F):∀r∈F,r.2.1≠r.2.2.1:=by
 induction h with
 |nil=>intro r h;cases h
 |@snoc F r _ a b=>
  intro x hx e;rcases List.mem_append.mp hx with hx|hx
  ·exact b x hx e
  ·cases List.mem_singleton.mp hx;exact a ⟨[],e⟩
theorem Tr.mono{F G:Z dX}:∀{p:Z dX} {x y:AJ},Tr F x p y->(∀r∈p,r∈G)->Tr G x p y
 |[],_,_,h,_=>h
 |r::p,_,_,⟨_,t,e,h⟩,hg=>⟨hg r (zk ..),t,e,h.mono λz a=>hg z (zo _ a)⟩
theorem Tr.mem{F:Z dX}:∀{p:Z dX} {x y:AJ},Tr F x p y->∀r∈p,r∈F
 |[],_,_,_,_,h=>by cases h
 |r::p,_,_,⟨m,_,_,h⟩,z,a=>by
  rcases List.mem_cons.mp a with rfl|a
  ·exact m
  ·exact h.mem z a
theorem Tr.cut{F:Z dX}:∀{p1:Z dX} {r:dX} {p2:Z dX} {x y:AJ},Tr F x (p1++r::p2) y->∃a b,Tr F x p1 a/\aW r a=U b/\Tr F b p2 y
 |[],_,_,x,_,⟨_,t,e,h⟩=>⟨x,t,rfl,e,h⟩
 |q::p1,_,_,_,_,⟨m,t,e,h⟩=>by
  obtain⟨a,b,h1,h2,c⟩:=h.cut;exact⟨a,b,⟨m,t,e,h1⟩,h2,c⟩
theorem uni{F:Z dX}(h:Fo F):∀{s e:AJ} {p q:Z dX},Tr F s p e->Tr F s q e->p.Nodup->q.Nodup->p=q:=by
 induction h with
 |nil=>
  intro s e p q hp j _ _;cases p with
  |nil=>cases q with
   |nil=>rfl
   |cons _ _=>cases j.1
  |cons _ _=>cases hp.1
 |@snoc F r J B v=>
  have i:=J.ne;have n:∀{s e:AJ} {p:Z dX},Tr (F++[r]) s p e->p.Nodup->Tr F s p e\/∃p1 p2 a b,p=p1++r::p2/\Tr F s p1 a/\aW r a=U b/\Tr F b p2 e/\p1.Nodup/\p2.Nodup:=by
   intro s e p hp L;by_cases C:r∈p
   ·obtain⟨p1,p2,rfl⟩:=List.append_of_mem C;obtain⟨a,b,t1,t2,t3⟩:=hp.cut;obtain⟨u,t,D⟩:=List.nodup_append.mp L;obtain⟨I,E⟩:=List.nodup_cons.mp t;refine .inr ⟨p1,p2,a,b,rfl,t1.mono λz f=>?_,t2,t3.mono λz f=>?_,u,E⟩
    ·rcases List.mem_append.mp (t1.mem z f)with h|h
     ·exact h
     ·cases List.mem_singleton.mp h;exact absurd S (D _ f _ (zk ..))
    ·rcases List.mem_append.mp (t3.mem z f)with h|h
     ·exact h
     ·cases List.mem_singleton.mp h;exact absurd f I
   ·refine .inl (hp.mono λz f=>?_);rcases List.mem_append.mp (hp.mem z f)with h|h
    ·exact h
    ·cases List.mem_singleton.mp h;exact absurd f C
  have A:∀{a b:AJ},aW r a=U b->Ru F a b->False:=λ{a b} h c=>by
   rcases oR h with⟨h1,h2⟩|⟨h1,h2⟩
   ·exact B (h1▸h2▸c)
   ·exact B ((h1▸h2▸c.symm i))
  have y:∀{s e:AJ} {p1 p2:Z dX} {a b:AJ},Tr F s p1 a->aW r a=U b->Tr F b p2 e->Ru F s e->False:=λt1 t2 t3 c=>
   A t2 ((Ru.symm i ⟨_,t1⟩).trans (c.trans (Ru.symm i ⟨_,t3⟩)))
  intro s e p q hp j np o;rcases n hp np with h1|⟨p1,p2,a,b,rfl,t1,t2,t3,u,t⟩
  ·rcases n j o with h2|⟨q1,q2,c,d,rfl,l,g,x,_,_⟩
   ·exact v h1 h2 np o
   ·exact(y l g x ⟨_,h1⟩).elim
  ·rcases n j o with h2|⟨q1,q2,c,d,rfl,l,g,x,G,K⟩
   ·exact(y t1 t2 t3 ⟨_,h2⟩).elim
   ·by_cases m:a=c
    ·subst m;have:b=d:=ja (t2.symm.trans g);subst this;rw[v t1 l u G,v t3 x t K]
    ·exfalso;have H:c=b:=by
      rcases oR t2 with⟨x1,w⟩|⟨x1,w⟩<;>rcases oR g with⟨y1,y2⟩|⟨y1,y2⟩
      ·exact absurd (x1.symm.trans y1) m
      ·exact y1.symm.trans w
      ·exact y1.symm.trans w
      ·exact absurd (x1.symm.trans y1) m
     subst H;exact A t2 ((Ru.symm i ⟨_,t1⟩).trans ⟨_,l⟩)
theorem C6{P:Z α->Prop}(h0:P [])(h1:∀l x,P l->P (l++[x]))(l:Z α):P l:=by
 have:∀m:Z α,P m.reverse:=λm=>by
  induction m with
  |nil=>exact h0
  |cons x m a=>rw[kU];exact h1 _ x a
 have:=this l.reverse;rwa [List.reverse_reverse]at this
theorem Hd.hb(e:n_.Nodup)(d:n_.length<1000){rs:Z dX}:Rs n_ rs->Hd n_ (hb n_ rs):=by
 induction rs using C6 with
 |h0=>intro _;exact GT e d
 |h1 rs r g=>
  intro a;obtain⟨c,b⟩:=a r (by simp);rw[Er];exact(g λz f=>a z (Zp _ f)).join c b
theorem gX(g:n_.Nodup)(f:n_.length<1000){pre:Z dX}:∀{a:Z dX},Rs n_ (pre++a)->∀x∈n_,∀y∈n_,look (hb n_ pre) x=look (hb n_ pre) y->look (hb n_ (pre++a)) x=look (hb n_ (pre++a)) y:=λ{a}=>by
 induction a using C6 with
 |h0=>intro _ x hx y b e;rw[ZY];exact e
 |h1 a r i=>
  intro c x hx y b e;rw[<-Q4]at c ⊢;have d:Rs n_ (pre++a):=λz h=>c z (Zp _ h);have H:=Hd.hb g f d;rw[Er];unfold jb;rw[H.uy hx,H.uy b,i d x hx y b e]
theorem OH(j:n_.Nodup)(i:n_.length<1000){rs:Z dX}(b:Rs n_ rs){r:dX}(h:r∈rs):look (hb n_ rs) r.2.1=look (hb n_ rs) r.2.2.1:=by
 obtain⟨a,c,rfl⟩:=List.append_of_mem h;have l:Rs n_ ((a++[r])++c):=λz d=>b z (by simpa using d);obtain⟨g,f⟩:=b r h;have e:a++r::c=(a++[r])++c:=by simp
 rw[e];refine gX j i l _ g _ f ?_;have H:=Hd.hb j i (rs:=a) λz d=>b z (Zp _ d);rw[Er];unfold jb;rw[H.uy g,H.uy f];unfold jn;rw[zh (.inl S),zh (.inr S)]
theorem Rn{n_:AZ}(c:n_.Nodup)(b:n_.length<1000){F:Z dX}(a:Rs n_ F):∀{p:Z dX} {x y:AJ},Tr F x p y->look (hb n_ F) x=look (hb n_ F) y
 |[],_,_,h=>by cases h;rfl
 |r::p,_,_,⟨m,t,e,h⟩=>by
  rw[<-Rn c b a h];have:=OH c b a m;rcases oR e with⟨h1,h2⟩|⟨h1,h2⟩
  ·rw[<-h1,<-h2];exact this
  ·rw[<-h1,<-h2];exact this.symm
structure HI (n_:AZ) (m:List (Str×Str)) (hd:List dX):Prop where
 h:Hd n_ m
 e2:m=hb n_ hd
 rs:Rs n_ hd
 len:hd.length+(Yi n_ m).length=n_.length
 fo:Fo hd
theorem ON(a:n_.Nodup)(b:n_.length<1000):HI n_ (dN n_) []:=by
 refine⟨GT a b,rfl,λr h=>(by cases h),?_,.nil⟩;unfold Yi;rw[(Ep n_ a b).2,List.filter_eq_self.mpr λx hx=>ZT (Bg a hx)];simp
theorem Yo(n:n_.Nodup)(s:n_.length<64){a:Z dX}(i:HI n_ m a){r:dX}(d:r.2.1∈n_)(b:r.2.2.1∈n_):
  jJ (m,a) r/\lV n_ a r/\∃l g,dB (m,a) r=(l,g)/\eV n_ a r=g/\HI n_ l g:=by
 obtain⟨t,P,o,f⟩:=T1 n s i.rs;rw[<-i.e2]at f;have q:=Yj f d b;have j:=Si (look m r.2.1) (look m r.2.2.1) i.h.kn i.h.ml;have u:=i.len;have fl:a.length<=1000000:=by omega
 refine⟨⟨i.h.has d,i.h.has b,λ_=>⟨j.1,fl⟩⟩,⟨t,?_,λ_=>fl⟩,?_⟩
 ·show(iD n_ a).length<=100000;rw[o,(pQ P).length_eq];have:=f.len;omega
 unfold dB eV;dsimp only;rw[o,q,j.2];by_cases e:look m r.2.1=look m r.2.2.1
 ·exact⟨m,a,by simp[e],by simp[e],i⟩
 ·refine⟨jm m (look m r.2.1) (look m r.2.2.1),a++[r],by simp[e],by simp[e],i.h.join d b,?_,?_,?_,.snoc i.fo λ⟨p,c⟩=>?_⟩
  ·rw[Er,<-i.e2];rfl
  ·intro x hx;rcases List.mem_append.mp hx with hx|hx
   ·exact i.rs x hx
   ·cases List.mem_singleton.mp hx;exact⟨d,b⟩
  ·have:=i.h.abL d b e;rw[zS];show _+1+_=_;omega
  ·exact e (i.e2▸Rn n (by omega) i.rs c)
theorem Kl{n_:AZ}(j:n_.Nodup)(h:n_.length<64):∀(c:Z dX) (m:Z (AJ×AJ)) (b:Z dX),Rs n_ c->HI n_ m b →
  kY (λ(d:(Z (AJ×AJ))×(Z dX)) (a:dX)=>(dB d a)) (λ(d:(Z (AJ×AJ))×(Z dX)) (a:dX)=>U (jJ d a)) c (m,b) ∧
  kY (λ(f:Z dX) (a:dX)=>(eV n_ f a)) (λ(f:Z dX) (a:dX)=>U (lV n_ f a)) c b ∧
  ∃g e,c.foldl (λ(d:(Z (AJ×AJ))×(Z dX)) (a:dX)=>(dB d a)) (m,b)=(g,e)/\c.foldl (λ(f:Z dX) (a:dX)=>(eV n_ f a)) b=e/\HI n_ g e
 |[],m,b,_,i=>⟨trivial,trivial,m,b,rfl,rfl,i⟩
 |r::c,m,b,hr,i=>by
  obtain⟨l,hb⟩:=hr r (zk ..);obtain⟨p,d2,g,e,e1,e2,i'⟩:=Yo j h i l hb;obtain⟨f1,f2,n,o,g1,g2,i2⟩:=Kl j h c g e (λx hx=>hr x (zo _ hx)) i';refine⟨⟨p,?_⟩,⟨d2,?_⟩,n,o,?_,?_,i2⟩
  ·show kY _ _ c (dB (m,b) r);rw[e1];exact f1
  ·show kY _ _ c (eV n_ b r);rw[e2];exact f2
  ·rw[QO,e1];exact g1
  ·rw[QO,e2];exact g2
theorem Ro(b:n_.Nodup)(e:n_.length<64){rs:Z dX}(d:Rs n_ rs)(c:Z (AJ×AJ×Int)):
  kO (n_,rs,c)/\tW n_ rs/\∃a,jr (n_,rs,c)=a/\gj n_ rs=a/\Rs n_ a/\Fo a/\a.length<=n_.length:=by
 obtain⟨f1,f2,g,f,g1,g2,i2⟩:=Kl b e rs _ _ d (ON b (by omega));have l:=(Ep n_ b (by omega)).1;have:=i2.len;exact⟨⟨l,f1⟩,f2,f,congrArg Prod.snd g1,g2,i2.rs,i2.fo,by omega⟩
theorem Yp{α:Type}[DecidableEq α]:∀{xs ys:Z α},xs.Nodup->(∀x∈xs,x∈ys)->xs.length<=ys.length
 |[],_,_,_=>Q1 _
 |x::xs,ys,nd,h=>by
  obtain⟨c,b⟩:=List.nodup_cons.mp nd;have hx:=h x (zk ..);have:=Yp (ys:=ys.erase x) b λz a=>(List.mem_erase_of_ne (λe:z=x=>c (e▸a))).mpr (h z (zo _ a));rw[y7 hx]at this;have:=kF hx;rw[qc];omega
def CO(n:Nat)(F:Z dX)(s e:AJ)(b:Z dX):Unit->dX->jt Unit (O (Z dX)):=λ(f:Unit) (a:aF)=>((if((!sJ a b)&&(decide (s∈[(a.2.1,a.2.2.1).1,(a.2.1,a.2.2.1).2])))=true then(let d:=(at' [eI a.1,eS a.2.1,eS a.2.2.1,eI a.2.2.2] (1+(if(decide (a.2.1=s))=true then(1:Int)else 0)));(let c:=(bW n F (Al d) e (b++[a]));(if c.isSome=true then(jt.rt (U ([a]++(c.getD default))))else(jt.nx ()))))else(jt.nx ())):jt (Unit) (O (Z aF)))
def Fn(n:Nat)(F:Z dX)(s e:AJ)(b:Z dX):Unit->dX->O Prop:=λ(f:Unit) (a:aF)=>U (((!sJ a b)&&(decide (s∈[(a.2.1,a.2.2.1).1,(a.2.1,a.2.2.1).2])))=true->(In [eI a.1,eS a.2.1,eS a.2.2.1,eI a.2.2.2].length (1+(if(decide (a.2.1=s))=true then(1:Int)else 0))/\(let c:=(at' [eI a.1,eS a.2.1,eS a.2.2.1,eI a.2.2.2] (1+(if(decide (a.2.1=s))=true then(1:Int)else 0)));(((c=eS (Al c)/\sy (b.length+[a].length))/\(iG n F (Al c) e (b++[a])))/\(let d:=(bW n F (Al c) e (b++[a]));(d.isSome=true->(d.isSome=true/\sy ([a].length+(d.getD default).length))))))))
theorem iX(n:Nat)(F:Z dX)(s e:AJ)(a:Z dX):bW (n+1) F s e a=if(decide (s=e))=true then(U [])else(BG (jB (CO n F s e a) F ()) (λr=>r) λb:Unit=>Y):=rfl
theorem SV(n:Nat)(F:Z dX)(s e:AJ)(a:Z dX):iG (n+1) F s e a=((decide (s=e))=false->(uf (CO n F s e a) (Fn n F s e a) F ()/\(sI (jB (CO n F s e a) F ()) λb:Unit=>True))):=rfl
def oth(r:dX)(s:AJ):AJ:=if r.2.1=s then r.2.2.1 else r.2.1
theorem UN(r:dX)(s:AJ):In [eI r.1,eS r.2.1,eS r.2.2.1,eI r.2.2.2].length (1+(if(decide (r.2.1=s))=true then(1:Int)else 0))/\at' [eI r.1,eS r.2.1,eS r.2.2.1,eI r.2.2.2] (1+(if(decide (r.2.1=s))=true then(1:Int)else 0))=eS (oth r s):=by
 unfold oth;by_cases h:r.2.1=s
 ·rw[ZT h,zh rfl,zh h];exact⟨B8 (by decide) (by show(1:Int)+1<4;decide),rfl⟩
 ·rw[ZE h,zC (by decide),zC h];exact⟨B8 (by decide) (by show(1:Int)+0<4;decide),rfl⟩
theorem Mk{r:dX}{s:AJ}(h:s∈[r.2.1,r.2.2.1]):aW r s=U (oth r s):=by
 unfold aW oth;by_cases h1:r.2.1=s
 ·rw[ZT h1,zh rfl,zh h1]
 ·have h2:r.2.2.1=s:=by
   simp only[Q2,js,or_false]at h;rcases h with h|h
   ·exact absurd h.symm h1
   ·exact h.symm
  rw[ZE h1,zC (by decide),ZT h2,zh rfl,zC h1]
theorem cy{r:dX}{s t:AJ}(h:aW r s=U t):s∈[r.2.1,r.2.2.1]:=by
 rcases oR h with⟨h1,_⟩|⟨h1,_⟩<;>simp[h1]
def Gw(F:Z dX)(s e:AJ)(a p:Z dX):Prop:=Tr F s p e/\p.Nodup/\∀r∈p,r∉a
theorem LB{F:Z dX}(M:F.length<=64):∀(n:Nat) (s e:AJ) (a:Z dX),(∀r∈a,r∈F)->a.Nodup->F.length<n+a.length →
  iG n F s e a/\(∀p,bW n F s e a=U p->Gw F s e a p)/\(bW n F s e a=Y->∀p,Gw F s e a p->False)
 |0,s,e,a,ha,nd,hl=>by
  have:=Yp nd ha;omega
 |n+1,s,e,a,ha,nd,hl=>by
  have X:=Yp nd ha;rw[SV,iX];by_cases i:s=e
  ·rw[ZT i,zh rfl];refine⟨λz=>(by cases z),λp h=>?_,λh=>(by cases h)⟩;cases h;exact⟨i,j0,λr h=>(by cases h)⟩
  ·rw[ZE i,zC (by decide)];have Q:∀L:Z dX,(∀r∈L,r∈F)->uf (CO n F s e a) (Fn n F s e a) L ()/\((jB (CO n F s e a) L ()=.nx ()/\∀r∈L,r∉a->∀t,aW r s=U t->∀p,Gw F t e (a++[r]) p->False)\/∃p,jB (CO n F s e a) L ()=.rt (U p)/\Gw F s e a p):=by
    intro L
    induction L with
    |nil=>exact λ_=>⟨trivial,.inl ⟨rfl,λr h=>(by cases h)⟩⟩
    |cons r L K=>
     intro v;obtain⟨i1,i2⟩:=K λz b=>v z (zo _ b);have u:=v r (zk ..);obtain⟨I,D⟩:=UN r s;by_cases d:r∉a/\s∈[r.2.1,r.2.2.1]
     ·have c:((!sJ r a)&&(decide (s∈[(r.2.1,r.2.2.1).1,(r.2.1,r.2.2.1).2])))=true:=by
       have m:sJ r a=false:=by
        cases q:sJ r a with
        |false=>rfl
        |true=>exact absurd (zf.mp q) d.1
       rw[m,ZT (show s∈[(r.2.1,r.2.2.1).1,(r.2.1,r.2.2.1).2] from d.2)];rfl
      obtain⟨P,A,W⟩:=LB M n (oth r s) e (a++[r]) (λz b=>by
       rcases List.mem_append.mp b with b|b
       ·exact ha z b
       ·cases List.mem_singleton.mp b;exact u) (List.nodup_append.mpr ⟨nd,List.nodup_cons.mpr ⟨λz=>(by cases z),j0⟩,λx hx y G z=>by
        cases List.mem_singleton.mp G;exact d.1 (z▸hx)⟩) (by rw[zS];show _<n+(_+1);omega)
      have st:CO n F s e a () r=if(bW n F (oth r s) e (a++[r])).isSome=true then(jt.rt (U ([r]++((bW n F (oth r s) e (a++[r])).getD default))))else(jt.nx ()):=by
       unfold CO;rw[zh c];dsimp only;rw[D];rfl
      have l:hold (Fn n F s e a () r):=by
       show _->_;intro _;refine⟨I,?_⟩;dsimp only;rw[D];refine⟨⟨⟨rfl,fJ ?_⟩,P⟩,λh=>⟨h,fJ ?_⟩⟩
       ·show _+1<=1000;omega
       ·cases q:bW n F (oth r s) e (a++[r])with
        |none=>rw[show Al (eS (oth r s))=oth r s from rfl,q];show 1+0<=1000;decide
        |some p=>
         rw[show Al (eS (oth r s))=oth r s from rfl,q];have g:=A p q;have:=Yp g.2.1 g.1.mem;show 1+p.length<=1000;omega
      cases q:bW n F (oth r s) e (a++[r])with
      |some p=>
       rw[q]at st;have st:CO n F s e a () r=.rt (U (r::p)):=st;have g:=A p q;refine⟨⟨l,by rw[st];trivial⟩,.inr ⟨r::p,by unfold jB;rw[st],⟨u,_,Mk d.2,g.1⟩,List.nodup_cons.mpr ⟨λz=>g.2.2 r z (by simp),g.2.1⟩,λz b=>?_⟩⟩;rcases List.mem_cons.mp b with rfl|b
       ·exact d.1
       ·exact λw=>g.2.2 z b (Zp _ w)
      |none=>
       rw[q]at st;have st:CO n F s e a () r=.nx ():=st;refine⟨⟨l,by rw[st];exact i1⟩,?_⟩;rcases i2 with⟨e1,e2⟩|⟨p,e1,e2⟩
       ·refine .inl ⟨by unfold jB;rw[st];exact e1,λz b j t f p hp=>?_⟩;rcases List.mem_cons.mp b with rfl|b
        ·rw[Mk d.2]at f;cases f;exact W q p hp
        ·exact e2 z b j t f p hp
       ·exact .inr ⟨p,by unfold jB;rw[st];exact e1,e2⟩
     ·have c:((!sJ r a)&&(decide (s∈[(r.2.1,r.2.2.1).1,(r.2.1,r.2.2.1).2])))=false:=by
       by_cases h1:r∈a
       ·rw[zf.mpr h1];rfl
       ·have h2:¬ s∈[(r.2.1,r.2.2.1).1,(r.2.1,r.2.2.1).2]:=λz=>d ⟨h1,z⟩;rw[ZE h2,ky]
      have st:CO n F s e a () r=.nx ():=by
       unfold CO;rw[c,zC (by decide)]
      have l:hold (Fn n F s e a () r):=by
       show _->_;intro z;rw[c]at z;cases z
      refine⟨⟨l,by rw[st];exact i1⟩,?_⟩;rcases i2 with⟨e1,e2⟩|⟨p,e1,e2⟩
      ·refine .inl ⟨by unfold jB;rw[st];exact e1,λz b j t f p hp=>?_⟩;rcases List.mem_cons.mp b with rfl|b
       ·exact d ⟨j,cy f⟩
       ·exact e2 z b j t f p hp
      ·exact .inr ⟨p,by unfold jB;rw[st];exact e1,e2⟩
   obtain⟨C,N⟩:=Q F λr h=>h;rcases N with⟨e1,e2⟩|⟨p,e1,e2⟩
   ·rw[e1];refine⟨λ_=>⟨C,trivial⟩,λp h=>(by cases h),λ_ p hp=>?_⟩;cases p with
    |nil=>exact i hp.1
    |cons r p=>
     obtain⟨⟨m,t,o,h⟩,H,B⟩:=hp;obtain⟨J,E⟩:=List.nodup_cons.mp H;refine e2 r m (B r (zk ..)) t o p ⟨h,E,λz b w=>?_⟩;rcases List.mem_append.mp w with w|w
     ·exact B z (zo _ b) w
     ·cases List.mem_singleton.mp w;exact J b
   ·rw[e1];refine⟨λ_=>⟨C,trivial⟩,λq h=>?_,λh=>(by cases h)⟩;cases h;exact e2
abbrev Cm:=Z (AJ×(O aF))
inductive Bk (F:List dX) (s:Str):Cm->Prop
 |base:Bk F s [(s,none)]
 |snoc {L:Cm} {x:Str} {r:dX} {y:Str}:Bk F s L->x∉L.map (·.1)->r∈F->aW r x=some y->y∈L.map (·.1)->Bk F s (L++[(x,some r)])
theorem Bk.facts{F:Z dX}{s:AJ}(d:Rs n_ F)(hs:s∈n_){L:Cm}(h:Bk F s L):(L.map (·.1)).Nodup/\(∀x∈L.map (·.1),x∈n_)/\s∈L.map (·.1):=by
 induction h with
 |base=>exact⟨List.nodup_cons.mpr ⟨λz=>(by cases z),j0⟩,λx hx=>by cases List.mem_singleton.mp hx;exact hs,List.mem_singleton.mpr rfl⟩
 |@snoc L x r y h hx m o i f=>
  obtain⟨i1,i2,g⟩:=f;rw[qB];refine⟨List.nodup_append.mpr ⟨i1,List.nodup_cons.mpr ⟨λz=>(by cases z),j0⟩,λa e b hb z=>?_⟩,λz c=>?_,Zp _ g⟩
  ·cases List.mem_singleton.mp hb;have z:a=x:=z;rw[z]at e;exact hx e
  ·rcases List.mem_append.mp c with c|c
   ·exact i2 z c
   ·cases List.mem_singleton.mp c;rcases oR o with⟨h1,_⟩|⟨h1,_⟩
    ·show x∈n_;rw[<-h1];exact(d r m).1
    ·show x∈n_;rw[<-h1];exact(d r m).2
theorem Bk.len{F:Z dX}{s:AJ}(a:Rs n_ F)(hs:s∈n_){L:Cm}(h:Bk F s L):L.length<=n_.length:=by
 obtain⟨h1,h2,_⟩:=h.facts a hs;have:=Yp h1 h2;rwa [zi]at this
theorem dP{L:Cm}{v:O dX}(h:x∉L.map (·.1)):put L x v=L++[(x,v)]:=by
 unfold put;rw[zC λz=>h (lW.mp z)]
theorem DT{n_:AZ}{F:Z dX}{s:AJ}(p:Rs n_ F)(hs:s∈n_)(A:n_.length<64)(u:∀r∈F,r.2.1≠r.2.2.1){here:AJ}:∀(R:Z dX),(∀r∈R,r∈F)->∀(L:Cm) (q:AZ),Bk F s L->here∈L.map (·.1)->q.length<=L.length →
  kY (λ(a:Cm×AZ) (i:aF)=>(dD here a i)) (λ(a:Cm×AZ) (i:aF)=>U (gQ here a i)) R (L,q) ∧
  ∃f ad,R.foldl (λ(a:Cm×AZ) (i:aF)=>(dD here a i)) (L,q)=(f,q++ad)/\f.map (·.1)=L.map (·.1)++ad/\Bk F s f/\∀r∈R,∀y,aW r here=U y->y∈f.map (·.1)
 |[],_,L,q,b,_,_=>⟨trivial,L,[],by rw[ZY];rfl,by rw[ZY],b,λr h=>(by cases h)⟩
 |r::R,hR,L,q,b,hh,hq=>by
  have v:=hR r (zk ..);have D:=b.len p hs;have o:∀(l:Cm) (a1:AZ),dD here (L,q) r=(l,q++a1)->gQ here (L,q) r->l.map (·.1)=L.map (·.1)++a1->Bk F s l->(∀y,aW r here=U y->y∈l.map (·.1))->(q++a1).length<=l.length->(kY (λ(a:Cm×AZ) (i:aF)=>(dD here a i)) (λ(a:Cm×AZ) (i:aF)=>U (gQ here a i)) (r::R) (L,q)/\∃f ad,(r::R).foldl (λ(a:Cm×AZ) (i:aF)=>(dD here a i)) (L,q)=(f,q++ad)/\f.map (·.1)=L.map (·.1)++ad/\Bk F s f/\∀z∈r::R,∀y,aW z here=U y->y∈f.map (·.1)):=λl a1 e d k b1 c x=>by
   obtain⟨i1,f,ad,i2,w,B,C⟩:=DT p hs A u R (λz n=>hR z (zo _ n)) l (q++a1) b1 (by rw[k];exact Zp _ hh) x;refine⟨⟨d,by show kY _ _ R (dD here (L,q) r);rw[e];exact i1⟩,f,a1++ad,?_,?_,B,λz n y g=>?_⟩
   ·rw[QO,e,i2,Q4]
   ·rw[w,k,Q4]
   ·rcases List.mem_cons.mp n with rfl|n
    ·rw[w];exact Zp _ (c y g)
    ·exact C z n y g
  cases j:aW r here with
  |none=>
   refine o L [] ?_ ?_ (by rw[ZY]) b (λy g=>by rw[j]at g;cases g) (by rw[ZY];exact hq)
   ·unfold dD;dsimp only;rw[j,ZY];rfl
   ·unfold gQ;dsimp only;rw[j];exact⟨λz=>z,λz=>(by cases z)⟩
  |some t=>
   by_cases m:t∈L.map (·.1)
   ·have c:(!has L t)=false:=by rw[lW.mpr m];rfl
    refine o L [] ?_ ?_ (by rw[ZY]) b (λy g=>by rw[j]at g;cases g;exact m) (by rw[ZY];exact hq)
    ·unfold dD;dsimp only;rw[j,ZY,show(!has L ((U t).getD default))=false from c];rfl
    ·unfold gQ;dsimp only;rw[j,show(!has L ((U t).getD default))=false from c];exact⟨λz=>z,λz=>(by cases z)⟩
   ·have c:(!has L t)=true:=by
     cases q:has L t with
     |false=>rfl
     |true=>exact absurd (lW.mp q) m
    refine o (L++[(t,U r)]) [t] ?_ ?_ (by rw[qB];rfl) (.snoc b m v (Wm (u r v) j) hh) (λy g=>by rw[j]at g;cases g;rw[qB];exact ZA _ (List.mem_singleton.mpr S)) (by rw[zS,zS];show _+1<=_+1;omega)
    ·unfold dD;dsimp only;rw[j,show(!has L ((U t).getD default))=true from c];show(put L t (U r),q++[t])=_;rw[dP m]
    ·unfold gQ;dsimp only;rw[j];exact⟨λz=>z,λ_=>⟨⟨rfl,by omega⟩,rfl,fJ (by show q.length<=1000;omega)⟩⟩
structure Iq (F:List dX) (s:Str) (q:AZ) (L:Cm):Prop where
 b:Bk F s L
 sub:∀x∈q,x∈L.map (·.1)
 len:q.length<=L.length
 cl:∀x∈L.map (·.1),x∉q->∀r∈F,∀y,aW r x=some y->y∈L.map (·.1)
theorem outer{n_:AZ}{F:Z dX}{s:AJ}(g:Rs n_ F)(hs:s∈n_)(o:n_.length<64)(j:∀r∈F,r.2.1≠r.2.2.1):∀(n:Nat) (q:AZ) (L:Cm),Iq F s q L->n_.length-L.length+q.length<n->∃f,Iq F s [] f ∧
  J6 (λa:AZ×Cm=>(!a.1.isEmpty)) (λa:AZ×Cm=>((gR F a):jt (AZ×Cm) (O (Z aF)))) n (q,L)=.nx ([],f) ∧
  DF (λa:AZ×Cm=>(!a.1.isEmpty)) (λa:AZ×Cm=>Y) (λa:AZ×Cm=>((gR F a):jt (AZ×Cm) (O (Z aF)))) (λa:AZ×Cm=>U (qC F a)) n (q,L)
 |0,_,_,_,h=>by omega
 |n+1,[],L,i,_=>⟨L,i,rfl,trivial,λz=>(by cases z)⟩
 |n+1,h::q,L,i,hm=>by
  have p:=i.sub h (zk ..);have v:=i.len;rw[qc]at v hm;obtain⟨d,f,ad,e,k,b,c⟩:=DT g hs o j (here:=h) F (λr h=>h) L q i.b p (by omega);have D:f.length=L.length+ad.length:=by
   have:=congrArg List.length k;rwa [zS,zi,zi]at this
  have C:=b.len g hs;have i':Iq F s (q++ad) f:=by
   refine⟨b,λx hx=>?_,by rw[zS];omega,λx hx l=>?_⟩
   ·rw[k];rcases List.mem_append.mp hx with hx|hx
    ·exact Zp _ (i.sub x (zo _ hx))
    ·exact ZA _ hx
   ·rw[k]at hx;rcases List.mem_append.mp hx with hx|hx
    ·by_cases m:x=h
     ·subst m;exact c
     ·intro r A y t;rw[k];refine Zp _ (i.cl x hx (λz=>?_) r A y t);rcases List.mem_cons.mp z with z|z
      ·exact m z
      ·exact l (Zp _ z)
    ·exact absurd (ZA _ hx) l
  have st:gR F (h::q,L)=.nx (q++ad,f):=by
   unfold gR;dsimp only;rw[show at' (h::q) (0:Int)=h from T7 _ 0 (by simp),show(h::q).drop 1=q from rfl,e]
  obtain⟨B,i2,w,u⟩:=outer g hs o j n (q++ad) f i' (by rw[zS];omega);refine⟨B,i2,?_,trivial,λ_=>⟨?_,?_⟩⟩
  ·unfold J6;rw[zh (show(!(h::q,L).1.isEmpty)=true from S),st];exact w
  ·show qC F (h::q,L);refine⟨⟨rfl,by show 0<(h::q).length;simp⟩,?_⟩;dsimp only;rw[show at' (h::q) (0:Int)=h from T7 _ 0 (by simp)];exact d
  ·dsimp only;rw[st];exact u
theorem back{F:Z dX}{s:AJ}(I:∀r∈F,r.2.1≠r.2.2.1){L:Cm}(h:Bk F s L):(L.map (·.1)).Nodup->∀x∈L.map (·.1),∃w,Tr F x w s/\w.Nodup/\(∀r∈w,r.2.1∈L.map (·.1)/\r.2.2.1∈L.map (·.1))/\w.length<L.length ∧
  ∀(a:Cm),(∀k∈L.map (·.1),look a k=look L k/\has a k=true)->∀(n:Nat) (c:Z dX),w.length<n->c.length+w.length<=100 →
   J6 (λd:(Z aF)×AJ=>(look a d.2).isSome) (λd:(Z aF)×AJ=>((eY a d):jt ((Z aF)×AJ) (Z aF))) n (c,x)=.nx (c++w,s) ∧
   DF (λd:(Z aF)×AJ=>(look a d.2).isSome) (λd:(Z aF)×AJ=>U (has a d.2=true)) (λd:(Z aF)×AJ=>((eY a d):jt ((Z aF)×AJ) (Z aF))) (λd:(Z aF)×AJ=>U (jD a d)) n (c,x):=by
 induction h with
 |base=>
  intro _ x hx;cases List.mem_singleton.mp hx;refine⟨[],rfl,j0,λr h=>(by cases h),Nat.zero_lt_succ _,λa h2 n c i _=>?_⟩;obtain⟨l,g⟩:=h2 s (List.mem_singleton.mpr S);have l:look a s=Y:=l.trans (zQ (pre:=[]) (AS:=[]) (λz=>by cases z));cases n with
  |zero=>cases i
  |succ n=>
   refine⟨?_,g,λz=>?_⟩
   ·unfold J6;rw[zC (by show ¬ (look a s).isSome=true;rw[l];decide),ZY]
   ·have z:(look a s).isSome=true:=z;rw[l]at z;cases z
 |@snoc L y r z b t m o j B=>
  intro u x hx;rw[qB]at u hx ⊢;have A:=(List.nodup_append.mp u).1;have v:∀k∈L.map (·.1),look (L++[(y,U r)]) k=look L k:=λk e=>by
   have:=Kg e;have h1:(k,look L k)∈L++[(y,U r)]:=Zp _ this;exact Eo (m:=L++[(y,U r)]) (by rw[qB];exact u) h1
  rcases List.mem_append.mp hx with hx|hx
  ·obtain⟨w,t1,t2,t3,D,p⟩:=B A x hx;refine⟨w,t1,t2,λq f=>⟨Zp _ (t3 q f).1,Zp _ (t3 q f).2⟩,by rw[zS];omega,λa h2=>p a λk e=>?_⟩;obtain⟨a1,a2⟩:=h2 k (Zp _ e);exact⟨a1.trans (v k e),a2⟩
  ·have ex:x=y:=List.mem_singleton.mp hx;subst ex;obtain⟨w,t1,t2,t3,D,p⟩:=B A z j;have E:r∉w:=λq=>by
    obtain⟨a1,a2⟩:=t3 r q;rcases oR o with⟨h1,_⟩|⟨h1,_⟩
    ·exact t (h1▸a1)
    ·exact t (h1▸a2)
   refine⟨r::w,⟨m,z,o,t1⟩,List.nodup_cons.mpr ⟨E,t2⟩,λq f=>?_,by rw[zS,qc];show _+1<_+1;omega,λa h2 n c i C=>?_⟩
   ·rcases List.mem_cons.mp f with rfl|f
    ·rcases oR o with⟨h1,h2⟩|⟨h1,h2⟩
     ·exact⟨ZA _ (by rw[h1];exact List.mem_singleton.mpr S),Zp _ (by rw[h2];exact j)⟩
     ·exact⟨Zp _ (by rw[h2];exact j),ZA _ (by rw[h1];exact List.mem_singleton.mpr S)⟩
    ·exact⟨Zp _ (t3 q f).1,Zp _ (t3 q f).2⟩
   ·obtain⟨l,g⟩:=h2 x (ZA _ (List.mem_singleton.mpr S));have l:look a x=U r:=l.trans (zQ (pre:=L) (AS:=[]) t);rw[qc]at i C;cases n with
    |zero=>cases i
    |succ n=>
     have st:eY a (c,x)=.nx (c++[r],z):=by
      unfold eY;dsimp only;rw[l];show jt.nx (c++[r],(aW r x).getD default)=_;rw[o];rfl
     obtain⟨H,G⟩:=p a (λk e=>by
      obtain⟨a1,a2⟩:=h2 k (Zp _ e);exact⟨a1.trans (v k e),a2⟩) n (c++[r]) (by omega) (by rw[zS];show _+1+_<=100;omega)
     refine⟨?_,g,λ_=>⟨?_,?_⟩⟩
     ·unfold J6;rw[zh (by show(look a x).isSome=true;rw[l];rfl),st];show J6 _ _ n (c++[r],z)=_;rw[H,Q4];rfl
     ·show jD a (c,x);unfold jD;dsimp only;rw[l];exact⟨⟨⟨g,rfl⟩,fJ (by show c.length<=1000;omega)⟩,⟨g,rfl⟩,by show(aW r x).isSome=true;rw[o];rfl⟩
     ·dsimp only;rw[st];exact G
theorem MU{F:Z dX}(d:Rs n_ F)(C:n_.length<64)(fo:Fo F){s e:AJ}(hs:s∈n_):vN F s e/\(∀p,dZ F s e=U p->Tr F s p e/\p.Nodup)/\(dZ F s e=Y->¬ Ru F s e):=by
 have f:=fo.ne;have l:Iq F s [s] [(s,Y)]:=⟨.base,λx hx=>hx,zg _,λx hx G=>absurd hx G⟩;obtain⟨L,i,D,g⟩:=outer d hs C f 70 [s] [(s,Y)] l (by show n_.length-1+1<70;omega);have K:0<n_.length:=kF hs;obtain⟨f1,f2,B⟩:=i.b.facts d hs;have J:=i.b.len d hs;have v:∀{p:Z dX} {x y:AJ},Tr F x p y->x∈L.map (·.1)->y∈L.map (·.1):=by
  intro p
  induction p with
  |nil=>intro x y h hx;cases h;exact hx
  |cons r p A=>
   intro x y h hx;obtain⟨m,t,o,h⟩:=h;exact A h (i.cl x hx (λz=>by cases z) r m t o)
 unfold vN dZ;dsimp only;rw[D];by_cases a:e∈L.map (·.1)
 ·have c:(!has L e)=false:=by rw[lW.mpr a];rfl
  obtain⟨w,t1,t2,t3,I,u⟩:=back f i.b f1 e a;obtain⟨j,n⟩:=u L (λk E=>⟨rfl,lW.mpr E⟩) 70 [] (by omega) (by show 0+_<=100;omega);have tb:iU L e=w:=by
   unfold iU;dsimp only;rw[j];rfl
  have H:pG L e:=by
   unfold pG;dsimp only;rw[j];exact⟨n,trivial⟩
  refine⟨⟨g,λ_=>H⟩,λp hp=>?_,λh=>?_⟩
  ·have hp:(if(!has L e)=true then Y else(U (iU L e).reverse))=U p:=hp;rw[c,zC (by decide),tb]at hp;cases hp;exact⟨t1.rev f,(List.reverse_perm w).nodup_iff.mpr t2⟩
  ·have h:(if(!has L e)=true then Y else(U (iU L e).reverse))=Y:=h;rw[c,zC (by decide)]at h;cases h
 ·have c:(!has L e)=true:=by
   cases q:has L e with
   |false=>rfl
   |true=>exact absurd (lW.mp q) a
  refine⟨⟨g,λz=>?_⟩,λp hp=>?_,λ_ ⟨p,h⟩=>a (v h B)⟩
  ·rw[c]at z;cases z
  ·have hp:(if(!has L e)=true then Y else(U (iU L e).reverse))=U p:=hp;rw[c,zh rfl]at hp;cases hp
theorem Yq(d:Dt)(b:AJ)(n:Int)(h:n<=1000):kj d b n:=by
 unfold kj;intro hs;obtain⟨x,rfl⟩:=XS hs;refine⟨⟨rfl,λ_=>S⟩,λa=>⟨⟨rfl,?_⟩,λs h=>g9 h⟩⟩;rw[TL];have h2:(x.length:Int)<=n:=ko ((Zz _ _).mp a).2;omega
theorem Rp{a:AJ}{n:Int}(h:jq d a n=true):lA d=true:=by
 unfold jq at h;rw[Zz]at h;exact h.1
theorem NZ(d:Dt):rD d:=Yq d _ 8 (by decide)
theorem Sm(h:dI d=true):lA d=true:=Rp h
theorem C9(h:(uz d d).isSome=true)(b:uc d<=100):BQ (.z d) (.z d)=U (.z (.bl true)):=by
 obtain⟨k,a⟩:=Option.isSome_iff_exists.mp h;unfold BQ;rw[zC (by intro z;rcases z with z|z<;>cases z)];show(if min (uc d) (uc d)<=100 then _ else _)=_;rw[zh (by omega)];show(uz d d).bind _=_;rw[a,FP a];rfl
theorem Rq(h:lA d=false):dI d=false:=by
 cases e:dI d with
 |false=>rfl
 |true=>rw[Sm e]at h;cases h
theorem Wp(x:AJ)(ns:AZ):Iv (.str x) (ns.map eS)=decide (x∈ns)/\XF (.str x) (ns.map eS):=by
 constructor
 ·unfold Iv;rw[yv,JE,QP,qi];constructor
  ·rintro⟨y,b,h⟩;have h:Yw (uz (eS y) (eS x))=true:=h;rw[B6.eq]at h;by_cases q:y=x
   ·exact q▸b
   ·rw[ZE q]at h;cases h
  ·intro h;refine⟨x,h,?_⟩;show Yw (uz (eS x) (eS x))=true;rw[B6.eq,ZT rfl];rfl
 ·intro d a;obtain⟨y,_,rfl⟩:=List.mem_map.mp a;refine⟨?_,?_⟩
  ·show(uz (eS y) (eS x)).isSome=true;rw[B6.eq];rfl
  ·have:=B6.dp (e:=eS) y;omega
theorem br(h:∀y,uz (.str y) d=U false)(ns:AZ):Iv d (ns.map eS)=false/\XF d (ns.map eS):=by
 constructor
 ·unfold Iv;rw[yv,List.any_eq_false];intro y _ e;have e:Yw (uz (.str y) d)=true:=e;rw[h]at e;cases e
 ·intro e a;obtain⟨y,_,rfl⟩:=List.mem_map.mp a;have:=B6.dp (e:=eS) y;exact⟨by show(uz (.str y) d).isSome=true;rw[h];rfl,by omega⟩
theorem Yr{f:AJ}(h:Nm f)(t x:Int):oO f t x:=by
 have:=h.1;have:=h.2.1;have b:=slice_le f Y (U (t%((f.length:Int)+1)));have c:=slice_le f (U (t%((f.length:Int)+1))) Y;have a:=slice_le f (U (t%((f.length:Int)+1)+1)) Y;have o:at' [(36:Int),94] (x / 3%2)=36\/at' [(36:Int),94] (x / 3%2)=94:=by
  have:=pq (xs:=[(36:Int),94]) (i:=x / 3%2) (jM (by decide) (by decide));simpa using this
 refine⟨fJ (by decide +kernel),⟨⟨jM (by decide) (by decide),by omega⟩,jM (by omega) ?_⟩,by omega,⟨⟨fJ ?_,fJ ?_⟩,⟨fJ ?_,fJ ?_⟩,fJ ?_⟩,jM (by decide) (Int.le_refl 3)⟩
 ·rcases o with o|o<;>rw[o]<;>decide +kernel
 ·rw[mU];omega
 ·rw[eG,mU];omega
 ·rw[mU];omega
 ·rw[eG,mU];omega
 ·omega
theorem Rr{g:fU}(s:Gr g)(hx:x∈g.1):Hy g (eS x)=false/\eZ g x:=by
 have a:((!(dI (eS x)))||(!decide (x∈g.1)))=false:=by
  rw[show dI (eS x)=true from f8 (s.nm x hx),ZT hx];rfl
 exact⟨a,NZ _,λh=>by rw[a]at h;cases h⟩
theorem g7{g:fU}(s:Gr g)(hx:x∈g.1)(f:y∈g.1):jW g (gj g.1 g.2.1) x y/\gU g (gj g.1 g.2.1) x y=true:=by
 have E:=s.len;obtain⟨b,_,a,e1,e2,m,fo,G⟩:=Ro s.nd (by omega) s.rs g.2.2;have e1:jr g=a:=e1;have b:kO g:=b;have d:=fo.ne;obtain⟨a1,a2,v⟩:=MU m (by omega) fo (e:=y) hx;obtain⟨c1,c2,c3⟩:=MU m (by omega) fo (e:=x) f;obtain⟨o,w,B⟩:=LB (F:=a) (by omega) fuel x y [] (λr h=>(by cases h)) j0 (by show _<32+0;omega);have A:gJ g x y=dZ a x y:=by unfold gJ;rw[e1]
 have D:gJ g y x=dZ a y x:=by unfold gJ;rw[e1]
 have j:lN g x y:=⟨(Rr s hx).2,(Rr s f).2,b,by rw[e1];exact a1⟩;have l:lN g y x:=⟨(Rr s f).2,(Rr s hx).2,b,by rw[e1];exact c1⟩;rw[e2];unfold jW gU;dsimp only;rw[A,D];have C:∀{p:Z dX},Tr a x p y->p.Nodup->Gw a x y [] p:=λt n=>⟨t,n,λr _ h=>by cases h⟩;cases u:bW fuel a x y []with
 |none=>
  have c:dZ a x y=Y:=by
   cases q:dZ a x y with
   |none=>rfl
   |some p=>exact(B u p (C (a2 p q).1 (a2 p q).2)).elim
  have i:dZ a y x=Y:=by
   cases q:dZ a y x with
   |none=>rfl
   |some p=>exact(v c (Ru.symm d ⟨p,(c2 p q).1⟩)).elim
  rw[c,i];exact⟨⟨o,j,λ_=>⟨l,λz=>(by cases z)⟩⟩,by simp⟩
 |some q=>
  obtain⟨t1,t2,_⟩:=w q u;have c:dZ a x y=U q:=by
   cases h:dZ a x y with
   |none=>exact(v h ⟨q,t1⟩).elim
   |some p=>rw[uni fo (a2 p h).1 t1 (a2 p h).2 t2]
  have i:dZ a y x=U q.reverse:=by
   cases h:dZ a y x with
   |none=>exact(c3 h ⟨_,t1.rev d⟩).elim
   |some p=>rw[uni fo (c2 p h).1 (t1.rev d) (c2 p h).2 ((List.reverse_perm q).nodup_iff.mpr t2)]
  rw[c,i];have H:=Yp t2 t1.mem;refine⟨⟨o,j,λ_=>⟨l,λ_=>⟨⟨rfl,fJ (by show q.length<=1000;omega)⟩,rfl,λ_=>j⟩⟩⟩,?_⟩;simp
structure Od (g:fU) (d:Dt):Prop where
 e:FF g d
 q:BQ (.z d) (.z d)=some (.z (.bl true))
 a:XF d (g.1.map eS)
 c:Iv d (g.1.map eS)=false->Hy g d=true
theorem HN(g:fU)(x:AJ):Od g (eS x):=by
 obtain⟨a1,a2⟩:=Wp x g.1;refine⟨⟨NZ _,λ_=>S⟩,C9 S (by show 1<=100;decide),a2,λh=>?_⟩;have h:decide (x∈g.1)=false:=a1.symm.trans h;unfold Hy;rw[show Al (eS x)=x from rfl,h];cases dI (eS x)<;>rfl
theorem vR{g:fU}(h:lA d=false)(h1:(uz d d).isSome=true)(h2:uc d<=100)(a:∀y,uz (.str y) d=U false):Od g d:=by
 refine⟨⟨NZ _,λe=>?_⟩,C9 h1 h2,(br a g.1).2,λ_=>?_⟩
 ·rw[Rq h]at e;cases e
 ·unfold Hy;rw[Rq h];rfl
theorem d4{g:fU}:∀d∈Ug,Od g d:=by
 intro d a;unfold Ug at a;simp only[Q2,js,or_false]at a;rcases a with rfl|rfl|rfl|rfl|rfl|rfl|rfl|rfl|rfl|rfl
 ·exact vR S S (by decide) λ_=>S
 ·exact vR S S (by decide) λ_=>S
 ·exact vR S S (by decide) λ_=>S
 ·exact HN g ""
 ·exact HN g "Zz"
 ·exact vR S S (by decide) λ_=>S
 ·exact vR S S (by decide) λ_=>S
 ·exact vR S S (by decide) λ_=>S
 ·exact HN g "aaaaaaaaaaaaaaaaaaaa"
 ·exact vR S S (by decide) λ_=>S
theorem SW{g:fU}(s:Gr g):jK g.1/\(cF g.1).length<=100/\10<=(cF g.1).length/\∀d∈cF g.1,Od g d:=by
 have c:=s.len;have sub:∀x,x∈cut g.1 Y (U 1)->x∈g.1:=λx h=>zj h;have cl:(cut g.1 Y (U 1)).length<=g.1.length:=Ek _ _ _;have b:Ug.length=10:=rfl;have tl:(cF g.1).length=10+(cut g.1 Y (U 1)).length+(cut g.1 Y (U 1)).length:=by
  show((Ug++List.map _ _)++List.map _ _).length=_;rw[zS,zS,zi,zi,b]
 refine⟨⟨⟨⟨⟨by omega,λx hx=>?_⟩,?_⟩,by omega⟩,?_⟩,by omega,by omega,?_⟩
 ·have:=(s.nm x (sub x hx)).2.1;exact fJ (by rw[show("q":AJ).length=1 from rfl];omega)
 ·exact fJ (by rw[zi,b];omega)
 ·exact fJ (by rw[zS,zi,zi,b];omega)
 ·intro d a;rcases List.mem_append.mp (show d∈(Ug++List.map _ _)++List.map _ _ from a)with a|a
  ·rcases List.mem_append.mp a with a|a
   ·exact d4 d a
   ·obtain⟨x,hx,rfl⟩:=List.mem_map.mp a;exact HN g _
  ·obtain⟨x,hx,rfl⟩:=List.mem_map.mp a;exact vR S (by rw[B6.eq];rfl) (by show 2<=100;decide) λ_=>S
theorem bo{g:fU}(s:Gr g){xs:Z Int}(hx:xs.length=6){h:Z Dt}(x:∀d∈h,Od g d)(h0:0<h.length)(q:CV)(u:q.2∈h):vQ g g.1 xs h () q/\mO g g.1 xs h () q=.nx ():=by
 obtain⟨k,d⟩:=q;have D:=s.len;have f:=x d u;unfold vQ mO;dsimp only;cases t:Iv d (g.1.map eS)with
 |true=>exact⟨⟨f.a,λz=>(by cases z)⟩,rfl⟩
 |false=>
  have cn:=f.c t;have p:∀v,iH g d v d:=λv=>⟨rfl,f.q,f.e,.inl ⟨cn,rfl⟩⟩;generalize at' h (((k+1)+((at' xs 4)%9))%(h.length:Int))=Wd;have L:=G5 (step:=λ(i:Unit) (n:Dt)=>((vP g d i n):jt (Unit) Bool)) (P:=λ(i:Unit) (n:Dt)=>U (HB g d i n)) [(Dt.str "other"),d,Wd] λv _=>⟨p v,.inl rfl⟩;rw[L.1];have C:In (g.1++[("":AJ)]).length ((at' xs 5)%(if(g.1.length:Int)>1 then(g.1.length:Int)else 1)):=jM pH (by rw[zS];show _<=((g.1.length+1:Nat):Int);split<;>omega);refine⟨⟨f.a,λ_=>⟨⟨⟨B8 (by decide) (by omega),by omega⟩,jM (by omega) (Int.le_refl _)⟩,L.2,⟨⟨fJ (by show _+1<=1000;omega),B8 (by decide) (by omega),pH⟩,C⟩,λl=>?_⟩⟩,?_⟩
  ·have l:g.1≠[]:=by simpa using l
   have hp:0<g.1.length:=List.length_pos_iff.mpr l;have B:at' (g.1++[("":AJ)]) ((at' xs 5)%(if(g.1.length:Int)>1 then(g.1.length:Int)else 1))∈g.1:=by
    have b:0<=(at' xs 5)%(if(g.1.length:Int)>1 then(g.1.length:Int)else 1)/\(at' xs 5)%(if(g.1.length:Int)>1 then(g.1.length:Int)else 1)<g.1.length:=by
     have:=iR (at' xs 5) (m:=if(g.1.length:Int)>1 then(g.1.length:Int)else 1) pH;refine⟨this.1,Int.lt_of_lt_of_le this.2 ?_⟩;split<;>omega
    obtain⟨j,y⟩:∃j:Nat,(at' xs 5)%(if(g.1.length:Int)>1 then(g.1.length:Int)else 1)=(j:Int):=⟨_,(yn b.1).symm⟩;rw[y]at b ⊢;have o:j<g.1.length:=by omega
    rw[T7 _ j (by rw[zS];show j<_+1;omega),List.getElem_append_left o];exact k7 o
   obtain⟨A,w⟩:=Rr s B;exact⟨p _,λ_=>⟨rfl,f.q,⟨NZ _,λ_=>S⟩,.inr ⟨A,w,f.e,cn,rfl⟩⟩⟩
  ·show(if((!decide (g.1=([]:AZ)))&&(!(true&&true)))=true then(jt.rt false)else(jt.nx ()))=jt.nx ();rw[show(!(true&&true))=false from rfl,ky,zC (by decide)]
theorem fq{xs:Z α}{q:Int×α}(h:q∈wW xs):q.2∈xs:=by
 unfold wW at h;obtain⟨i,hi⟩:=List.mem_iff_getElem?.mp h;rw[List.getElem?_zipWith]at hi;cases h1:(List.range xs.length)[i]? with
 |none=>rw[h1]at hi;cases hi
 |some a=>
  cases h2:xs[i]? with
  |none=>rw[h1,h2]at hi;cases hi
  |some b=>
   rw[h1,h2]at hi;cases hi;exact QA h2
theorem NF(ns:List Int)(_:ns.length<=63):Rm ns/\Rk ns=true:=by
 obtain⟨d,s⟩:=OA ns;obtain⟨n,j,H⟩:=HF (aV ns 0) 18 (by decide) (by decide);have j:(aR (aV ns 0) 18).length=18:=j;have hx:(cut (aR (aV ns 0) 18) (U 12) Y).length=6:=by
  rw[show cut (aR (aV ns 0) 18) (U 12) Y=_ from aw (k:=12) (by omega),kA,j]
 unfold Rm Rk;dsimp only;generalize iT ns=g at *
 generalize cut (aR (aV ns 0) 18) (U 12) Y=xs at *
 have G:=s.len;have d2:=(Ro s.nd (by omega) s.rs g.2.2).2.1;have N:=Ek g.1 (U ((at' xs 0)%(if(g.1.length:Int)>1 then(g.1.length:Int)else 1))) Y;have E:=Ek g.1 Y (U ((at' xs 0)%(if(g.1.length:Int)>1 then(g.1.length:Int)else 1)));have w:∀z∈((cut g.1 (U ((at' xs 0)%(if(g.1.length:Int)>1 then(g.1.length:Int)else 1))) Y)++(cut g.1 Y (U ((at' xs 0)%(if(g.1.length:Int)>1 then(g.1.length:Int)else 1))))),z∈g.1:=λz a=>(List.mem_append.mp a).elim zj zj;have I:((cut g.1 (U ((at' xs 0)%(if(g.1.length:Int)>1 then(g.1.length:Int)else 1))) Y)++(cut g.1 Y (U ((at' xs 0)%(if(g.1.length:Int)>1 then(g.1.length:Int)else 1))))).length<=60:=by rw[zS];omega
 have o:sy ((cut g.1 (U ((at' xs 0)%(if(g.1.length:Int)>1 then(g.1.length:Int)else 1))) Y).length+(cut g.1 Y (U ((at' xs 0)%(if(g.1.length:Int)>1 then(g.1.length:Int)else 1)))).length):=fJ (by omega);generalize ((cut g.1 (U ((at' xs 0)%(if(g.1.length:Int)>1 then(g.1.length:Int)else 1))) Y)++(cut g.1 Y (U ((at' xs 0)%(if(g.1.length:Int)>1 then(g.1.length:Int)else 1)))))=M at *
 obtain⟨p1,p2,p3⟩:=Mw (P:=λv x=>U (Hz g.1 v x)) (step:=λv x=>rE g.1 v x) (λk v=>v.length<=30*k/\∀z∈v,z.1∈g.1/\z.2∈g.1) M 0 ([]:List nJ) ⟨zg 0,λz h=>(by cases h)⟩ λk x v e h=>by
  have L:=(List.getElem?_eq_some_iff.mp e).1;have D:=w x (QA e);rw[KG]at h ⊢;refine⟨⟨by omega,?_⟩,?_,?_⟩
  ·show _<=1000000;rw[zi];omega
  ·show(v++List.map _ _).length<=_;rw[zS,zi];omega
  ·intro z a;rcases List.mem_append.mp (show z∈v++List.map _ _ from a)with a|a
   ·exact h.2 z a
   ·obtain⟨y,A,rfl⟩:=List.mem_map.mp a;exact⟨D,A⟩
 generalize M.foldl (λv x=>rE g.1 v x) ([]:List nJ)=Z at *
 have J:Z.length<=1800:=by omega
 have u:In [(100:Int),(40:Int)].length (if(decide ((14:Int)<(g.1.length:Int)))=true then(1:Int)else 0):=by split<;>exact B8 (by decide) (by decide)
 generalize at' [(100:Int),(40:Int)] (if(decide ((14:Int)<(g.1.length:Int)))=true then(1:Int)else 0)=vy at *
 have F:=Ek Z Y (U vy);have rt:∀z∈cut Z Y (U vy),jW g (gj g.1 g.2.1) z.1 z.2/\gU g (gj g.1 g.2.1) z.1 z.2=true:=λz a=>g7 s (p3 z (zj a)).1 (p3 z (zj a)).2;have C:((cut Z Y (U vy)).map λl:nJ=>(gU g (gj g.1 g.2.1) l.1 l.2)).all id=true:=by
  rw[qo];intro b hb;obtain⟨z,a,rfl⟩:=List.mem_map.mp hb;exact(rt z a).2
 obtain⟨m,Q,K,p⟩:=SW s;rw[C];have t:∀c:List Dt,(∀d∈c,Od g d)->0<c.length->jB (λ(f:Unit) (q2:CV)=>((mO g g.1 xs c f q2):jt (Unit) Bool)) (wW c) ()=.nx ()/\uf (λ(f:Unit) (q2:CV)=>((mO g g.1 xs c f q2):jt (Unit) Bool)) (λ(f:Unit) (q2:CV)=>U (vQ g g.1 xs c f q2)) (wW c) ():=λc h1 h2=>G5 _ λq B=>by
  obtain⟨b1,b2⟩:=bo s hx h1 h2 q (fq B);exact⟨b1,.inl b2⟩
 have c0:f9 ns 0:=HD _ _ (by decide) (by decide);by_cases i:g.1=[]
 ·have e:(!decide (g.1=([]:AZ)))=false:=by rw[ZT i];rfl
  rw[e];simp only[zr,ZO];obtain⟨f1,f2⟩:=t (cF g.1) p (by omega);rw[f1];exact⟨⟨d,d2,⟨c0,n⟩,⟨B8 (by decide) (by omega),pH⟩,u,⟨o,p1⟩,⟨by omega,λz a=>(rt z a).1⟩,λ_=>⟨m,λz=>z.elim,f2,trivial⟩⟩,rfl⟩
 ·have e:(!decide (g.1=([]:AZ)))=true:=by rw[ZE i];rfl
  have hp:0<g.1.length:=List.length_pos_iff.mpr i;have i1:In g.1.length ((at' xs 1)%(g.1.length:Int)):=jM (by omega) (Int.le_refl _);rw[e];simp only[qS];obtain⟨f1,f2⟩:=t (cF g.1++[(eS (kW (at' g.1 ((at' xs 1)%(g.1.length:Int))) (at' xs 2) (at' xs 3)))]) (λz a=>by
   rcases List.mem_append.mp a with a|a
   ·exact p z a
   ·cases List.mem_singleton.mp a;exact HN g _) (by rw[zS];show 0<_+1;omega)
  rw[f1];exact⟨⟨d,d2,⟨c0,n⟩,⟨B8 (by decide) (by omega),pH⟩,u,⟨o,p1⟩,⟨by omega,λz a=>(rt z a).1⟩,λ_=>⟨m,λ_=>⟨⟨⟨⟨⟨B8 (by decide) (by omega),by omega⟩,i1⟩,B8 (by decide) (by omega),B8 (by decide) (by omega)⟩,Yr (s.nm _ (pq i1)) _ _⟩,fJ (by omega)⟩,f2,trivial⟩⟩,rfl⟩
theorem H1:∀ns:Z Int,ns.length<=63->F_law [.z (.lst (ns.map .int))]=U (.z (.bl true)):=(MX NF).1
theorem H2:∀ns:Z Int,ns.length<=63->F_law [.l (ns.map .int)]=U (.z (.bl true)):=(MX NF).2
end G14
end
open PySem PySem.W PyProof.Rows
namespace PySem.W.Fast
def tw6551127075008816098:=0
def tw920487045520995282:=0
def tw13996656886501493168:=0
def tw5052819468244469349:=0
def tw16403420229095585767:=0
def tw12957249079134534177:=0
def tw13460152545754273584:=0
def tw15145724290685770493:=0
def tw9404555492715923421:=0
def tw17557369082890789152:=0
def tw15643601617223755838:=0
def tw1845215810363448998:=0
def tw10107309804448459306:=0
def tw10113482418488880213:=0
def tw14582085314988459357:=0
def tw16694534465447238939:=0
def tw6143072753752045751:=0
def tw10484984399595748243:=0
def tw14621896788432153607:=0
def tw5289291651992536865:=0
def tw10277540358547551482:=0
def tw10540122561016888735:=0
def tw2594647876736885429:=0
def tw12058816005221409687:=0
def tw14325535383115795907:=0
def tw17714097262920173027:=0
def tw3146760792241155998:=0
def tw9696935347731992719:=0
def tw2719672711582489898:=0
def tw11321672298300850462:=0
def tw244909304420460905:=0
def tw5402717539054729688:=0
def tw999896261629255792:=0
def tw4242641290165631672:=0
def tw8216240096744409002:=0
def tw4931100007058258398:=0
def tw1482040319525450080:=0
def tw17609813732221779733:=0
def tw8218300118364863338:=0
def tw18296789317854796396:=0
def tw7446253455167353439:=0
def tw15079536910739457889:=0
def tw11715511128458812478:=0
def tw10136337045695469502:=0
def tw9992838405029602850:=0
def tw2661788197724082057:=0
def tw14870195659750162025:=0
def tw6147278589144801429:=0
def tw8218690781001296598:=0
def tw8263329917563984563:=0
def tw11522243873912508739:=0
def tw1265284082165688223:=0
def tw2186222823138380049:=0
def tw16868410614023079882:=0
def tw10414824530222120855:=0
def tw862225805959674682:=0
def tw9799370110350838256:=0
def tw14028584597387240256:=0
def tw14496980251392705527:=0
def tw13697633918438361269:=0
def tw13843704228805907681:=0
def tw3983454184879229624:=0
def tw7102371120802432021:=0
def tw1732940598362775400:=0
def tw12278652240464485122:=0
def tw15986551162030494580:=0
def tw4723947190273858896:=0
def tw15760637978441219761:=0
def tw3321894847237748453:=0
def tw9028283260279815392:=0
def tw13630332828806257712:=0
def tw10946159120331956453:=0
def tw11512916128488688305:=0
def tw5363552135266752111:=0
def tw2331382240242429610:=0
def tw11446008570230847769:=0
def tw15744901368273054510:=0
def tw12971130499368389442:=0
def tw9195046449063236450:=0
def tw7533027207228361063:=0
def tw11254084402810179042:=0
def tw13860328312259272284:=0
def tw11812038864426841355:=0
def tw1633867291008515694:=0
def tw10751701816919628799:=0
def tw6753069839537919873:=0
def tw17707427825444834158:=0
def tw17081131731197679686:=0
def tw7119184234366772512:=0
def tw12943217001562179002:=0
def tw17859389446906493904:=0
def tw1756239673559123559:=0
def tw1193495754912066243:=0
def tw17141524062894834727:=0
def tw15430675986852021134:=0
def tw11439851575612613491:=0
def tw11126685792039147664:=0
def tw1474816542563538343:=0
def tw11745279648308876702:=0
def tw6456120729257761737:=0
def tw6690141774815362758:=0
def tw6511460206460219748:=0
def tw12067111273261079058:=0
def tw8408744285463792034:=0
def tw15980240469781292149:=0
def tw6971102534648588496:=0
def tw11487895307495496227:=0
def tw10082835065830386410:=0
def tw7512180870482025693:=0
def tw14857763839892279879:=0
def tw16291864597473555798:=0
def tw18250203088120662343:=0
def tw132614690514082972:=0
def tw1524239980384932325:=0
def tw17195969273543077984:=0
def tw15082090332390205471:=0
def tw11190944208027958111:=0
def tw5425417647522914470:=0
def tw16428437111239039276:=0
def tw8951513486624134608:=0
def tw1746103554009969910:=0
def tw5223883546741312168:=0
def tw16310544724127475067:=0
def tw8969194341010866233:=0
def tw16856850555510969951:=0
def tw13421110265102994310:=0
def tw11014071779653720640:=0
def tw8834377281986361633:=0
def tw7292204057479375968:=0
def tw3671604123725208777:=0
def tw14171705786099549381:=0
def tw15751981681719370525:=0
def tw12539523083558522330:=0
def tw9108314056076587635:=0
def tw17257737408945987492:=0
def tw762747722721371123:=0
def tw7115400720369278836:=0
def tw10865715659765676109:=0
def tw11778814025540385665:=0
def tw8555434475047032900:=0
def tw14480560271444598056:=0
def tw17681737944816475068:=0
def tw13246611854140198676:=0
def tw13167794174641892766:=0
def tw13818530750875915630:=0
def tw16887837293160713539:=0
def tw9254583389568419633:=0
def tw9698355067490251477:=0
def tw10860425509602647105:=0
def tw9347865028155815101:=0
def tw5604403554047639312:=0
def tw4812416209199586103:=0
def tw9573352086246046283:=0
def tw14733504692648301622:=0
def tw17507565735742550867:=0
def tw7382113974029382678:=0
def tw15463656994093373068:=0
def tw51598331593020716:=0
def tw11536711936751660255:=0
def tw7033613958755392318:=0
def tw16973541002352776992:=0
def tw1882145748493884633:=0
def tw5021973697217960897:=0
def tw10071923767881111141:=0
def tw1682484441805212766:=0
def tw14799954991087899076:=0
def tw8890169663122619306:=0
def tw3508642476086525341:=0
def tw12489820937007113729:=0
def tw1466210449718236394:=0
def tw10844893602427029947:=0
def tw14697842906232334178:=0
def tw9790089127345578518:=0
def tw14255707813769037128:=0
def tw14569727140591538662:=0
def tw82763276466097676:=0
def tw8854677961169108438:=0
def tw5891427158901164902:=0
def tw8259459495076799762:=0
def tw8570786779854326449:=0
def tw3788702748308251054:=0
def tw5927860861391222902:=0
def tw3461927605805848272:=0
def tw5079511134468991286:=0
def tw12348495949387037824:=0
def tw8417057697502057264:=0
def tw2871209354368621283:=0
def tw14179978177541781331:=0
def tw2473499682573675499:=0
def tw2592243563255080024:=0
end PySem.W.Fast
set_option maxRecDepth 100000 in
set_option maxHeartbeats 0 in
theorem PySem.Challenge.cw_onefolk_k14_why_two_are_one_holds : PySem.Challenge.rw_onefolk_k14_why_two_are_one.Holds := by
 w_on;refine PySem.W.holds_law (by decide +kernel) λsaid=>?_
 k_head;(case hw=>w_witness2)
 k_fill
 refine P1.Ee (l:=PySem.Challenge.rw_onefolk_k14_why_two_are_one) (T:=G14.T) (k:=35) (x := "_law_script") (st:=G14.s_law) (F_law:=G14.F_law) (λt=>t.x_law) ⟨rfl,by decide,by decide⟩ rfl (λw mg base t=>G14.EC t) rfl rfl G14.H1 G14.H2 (λ_ _ _ _ _ _ _=>rfl) (λw h Y=>PySem.W.kIn_of Y) ?F
 case F=>
  intro w mg h KX G
  refine' ⟨kb KX G _,kb KX G _,kb KX G _,kb KX G _,kb KX G _,kb KX G _,kb KX G _,kb KX G _,P1.PP _ _ _ _,P1.mG KX G _ _ _ _,⟨_,_,_⟩,_,_,_,_,_,_,_,_,_,_,_,_,_,_,_,qa KX G _,P1.mG KX G _ _ _ _,P1.mG KX G _ _ _ _,P1.mG KX G _ _ _ _,P1.mG KX G _ _ _ _,P1.mG KX G _ _ _ _,P1.mG KX G _ _ _ _,P1.mG KX G _ _ _ _,P1.mG KX G _ _ _ _,P1.mG KX G _ _ _ _,P1.mG KX G _ _ _ _,P1.mG KX G _ _ _ _,P1.mG KX G _ _ _ _,P1.mG KX G _ _ _ _,P1.mG KX G _ _ _ _,P1.mG KX G _ _ _ _,P1.mG KX G _ _ _ _,P1.mG KX G _ _ _ _,P1.mG KX G _ _ _ _,P1.mG KX G _ _ _ _,P1.mG KX G _ _ _ _,P1.mG KX G _ _ _ _,P1.mG KX G _ _ _ _,P1.mG KX G _ _ _ _,P1.mG KX G _ _ _ _,P1.mG KX G _ _ _ _,qa KX G _,qa KX G _,qa KX G _,qa KX G _,qa KX G _,qa KX G _,qa KX G _,qa KX G _,qa KX G _,qa KX G _,qa KX G _,qa KX G _,qa KX G _,qa KX G _,qa KX G _,P1.NJ KX G _,P1.NJ KX G _⟩
  all_goals try (show _=_;k_is)
  all_goals try kernel_rfl
