import PyProof.Rows.All
import Wide.All
import OpenK.AllK
import Wide.FinOn
import PyProof.EqAt
import PyProof.EqKinds
import PyProof.TupleCall
import PyProof.StrLoop
import PyProof.StrWalks
import PyProof.CompFree
import PyProof.NeKinds
import PyProof.Rows.RuleN_isinstance
import PyProof.ConsumeWalk
import PyProof.IsiPairs
import PyProof.IsiSeqPairs
import PyProof.IsiHeapPairs
import PyProof.IsiNone
import PyProof.PureStr
import PyProof.StrCalls
import PyProof.Rows.SortStr
import PyProof.Rows.StrJoin2
import PyProof.CallStr
import PyProof.WalkInts
import PyProof.Rows.StrDigits
import PyProof.DictWalks
import PyProof.DictTruth
import PyProof.CollectWalk
import PyProof.WalkLemmas
import PyProof.Rows.SortShellK
import PyProof.Rows.SortWalk
import PyProof.SetKind
import PyProof.FactsAll.set
import PyProof.Rows.SetFrom
import PyProof.TupleKey
import PyProof.IsRules
import PyProof.WalksMore
import PyProof.SetRoads
import PyProof.DictCompW
import PyProof.ListRange
import PyProof.FString5
import PyProof.MeetsSeq2
import PyProof.FactsAll.tuple_0
import PyProof.FactsAll.tuple_2
import PyProof.FactsAll.tuple_3
import PyProof.EnumFor
import PyProof.EnumMake
import PyProof.EnumStmt
import PyProof.Rows.EnumRows
import PyProof.SumWalk
import PyProof.Rows.SeqCalls
import KE.KRevSl
import PyProof.ZipIter
import PyProof.TupleIter
import PyProof.AttrMiss
import KE.KDictOf
import KE.KDictLaws
import PyProof.TupleOfStr
import PyProof.StrCalls2
import PyProof.Rows.StrNews2
import PyProof.Rows.StrItems
import PyProof.Rows.StrSplitAre
import PyProof.Rows.StrGen4
import PyProof.Rows.RegStrFacts
import PyProof.Rows.FStr
import PyProof.SetNew
import PyProof.Rows.SetObj
import PyProof.Seq
import PyProof.Rows.SortShell
import PyProof.FactsAll.list_3
import KE.KIntText
import PyProof.StrCalls6
import PyProof.FitsReplace
import PyProof.ToksMono
import PyProof.FactsAll.str_4
import PyProof.StrBlock
import PyProof.StrLawsTight
import PyProof.Rows.StrPartPair
import PyProof.Rows.CatFin
import PyProof.Rows.StrClose
import PyProof.Rows.StrNext
import PyProof.Rows.StrBetween
import Lean
import PySem.Challenge.RW_onefolk_k04_texts_of_no_books
open PySem.W (instObj methodObj lookIn plainGet findIn emptyDict keepIn callWith_K cellsFrom_some fnOf codeIn nsIn isFn looks_findIn clsIn looks_mroIn mroIn check_slot looks_clsIn specialIn takesIn findObj handedIn exmOne kitOne kitAny kia_one)
set_option maxRecDepth 100000
set_option maxHeartbeats 4000000
set_option linter.all false
set_option Elab.async false
section
open PySem PySem.Spec PyProof.Rows
abbrev LS_:=List PySem.Str
abbrev VP_:=PySem.Value->PySem.Shared->Prop
abbrev FG_:=PySem.W.Frag
abbrev LI_:=List Int
abbrev zb:=@wpAny_bind
abbrev zd:=@Heap.get?_push_of_some
abbrev ze:=@wpAny_pure
abbrev zg:=@Nat.le_of_ble_eq_true
abbrev zh:=@if_pos
abbrev zi:=@Nat.le_refl
abbrev zk:=@Bool.false_ne_true
abbrev zl:=@Heap.get?_push_size
abbrev zo:=@List.mem_cons_self
abbrev zr:=@List.mem_cons_of_mem
abbrev zt:=@List.length_append
abbrev zv:=@Heap.lt_size
abbrev zw:=@List.map_cons
abbrev zz:=@List.length_map
abbrev zC:=@if_neg
abbrev zI:=@Nat.le_trans
abbrev zS:=@List.size_toArray
abbrev Zl:=@Nat.ne_of_lt
abbrev Zp:=@List.length_cons
abbrev Zs:=@Bool.false_eq_true
abbrev ZA:=@decide_eq_false
abbrev ZE:=@Bool.and_eq_true
abbrev ZH:=@Nat.lt_of_lt_of_le
abbrev ZI:=@List.mem_append_right
abbrev ZN:=@wpAny_mono
abbrev ZO:=@List.getElem?_map
abbrev ZT:=@Heap.size_push
abbrev ZU:=@List.length_drop
abbrev ZY:=@List.length_singleton
abbrev ZZ:=@PySem.W.mg_none_of
abbrev Z3:=@List.getElem?_append_left
abbrev qa:=@List.replicate_succ
abbrev qc:=@Nat.lt_succ_self
abbrev qf:=@List.map_append
abbrev qh:=@wpAny_newObj_type
abbrev qi:=@Nat.zero_le
abbrev qk:=@List.count_append
abbrev qo:=@List.getElem?_eq_getElem
abbrev qq:=@List.length_set
abbrev qr:=@List.not_mem_nil
abbrev qv:=@List.mem_cons
abbrev qA:=@List.append_nil
abbrev qB:=@List.length_take
abbrev qE:=@Array.length_toList
abbrev qS:=@Int.toNat_natCast
abbrev qV:=@wpAny_holding
abbrev Qb:=@if_false
abbrev Qr:=@Nat.lt_succ_of_lt
abbrev QA:=@Heap.get?_update_self
abbrev QE:=@decide_eq_true
abbrev QI:=@List.map_map
abbrev QN:=@Option.bind_some
abbrev QO:=@Or.inr
abbrev QP:=@List.flatten_cons
abbrev QQ:=@Heap.get?_update_other
abbrev QR:=@List.getElem?_append_right
abbrev QU:=@List.map_congr_left
abbrev QY:=@List.nil_append
abbrev Q1:=@List.getElem?_eq_none
abbrev Q2:=@Ne.symm
abbrev Q3:=@Nat.ne_of_gt
abbrev Q4:=@List.drop_drop
abbrev ja:=@wpAny_truthy_bool
abbrev jb:=@of_decide_eq_true
abbrev jn:=@List.getElem?_replicate
abbrev js:=@List.find?_cons
abbrev jv:=@wpAny_typeOf
abbrev jI:=@List.drop_eq_nil_of_le
abbrev jS:=@PySem.W.mg_of
abbrev j0:=@Obj.data_mapFields
abbrev Jn:=@if_true
abbrev JA:=@Or.inl
abbrev JE:=@codeAny_builtin
abbrev JI:=@Option.some.inj
abbrev JJ:=@Nat.le_of_lt
abbrev JO:=@decide_eq_true_eq
abbrev JP:=@List.append_assoc
abbrev JS:=@List.mem_append_left
abbrev JU:=@Nat.lt_irrefl
abbrev JY:=@List.any_cons
abbrev ka:=@List.all_cons
abbrev kb:=@PySem.mem_of_lookup
abbrev kc:=@wpAny_isInstance
abbrev ke:=@wpAny_call_entry
abbrev kf:=@decide_eq_false_iff_not
abbrev kg:=@wpAny_field
abbrev ki:=@Nat.le_succ
abbrev kl:=@wpAny_Call_Name_kw
abbrev km:=@wpAny_passesOwn
abbrev kn:=@List.lookup_cons_self
abbrev ko:=@wpAny_setState_of
abbrev kq:=@List.flatMap_cons
abbrev kr:=@PySem.F.excBase_ValueError
abbrev ku:=@codeAny_mono
abbrev ky:=@List.sublist_append_right
abbrev kz:=@List.rel_of_pairwise_cons
abbrev kA:=@List.drop_eq_getElem_cons
abbrev kB:=@Heap.get?_update_ne
abbrev kC:=@wpAny_execs_nil
abbrev kF:=@List.foldl_cons
abbrev kK:=@Bool.or_eq_true
abbrev kL:=@wpAny_getItem_str_slice
abbrev kM:=@List.take_left
abbrev kN:=@List.drop_left
abbrev kP:=@wpAny_loadPart_at
abbrev kQ:=@List.getElem?_set
abbrev kR:=@Bool.not_eq_true'
abbrev kU:=@List.take_of_length_le
abbrev kX:=@Obj.isFreed_of_fields
abbrev k6:=@List.take_append_drop
abbrev k7:=@wpAny_call
abbrev k8:=@wpAny_execs_cons
abbrev k9:=@List.all_eq_true
abbrev Kb:=@F.plainAttrs_str
abbrev Ki:=@wpAny_standAt
abbrev Kj:=@List.sum_cons
abbrev Kk:=@Bool.and_true
abbrev Kn:=@codeAny_call_builtin
abbrev Kt:=@List.mem_of_getElem?
abbrev Kx:=@List.getElem?_set_ne
abbrev KA:=@List.count_cons_self
abbrev KB:=@Nat.not_lt_zero
abbrev KF:=@List.cons.injEq
abbrev KG:=@List.mem_map_of_mem
abbrev KI:=@Heap.SameBut.update
abbrev KL:=@Nat.le_of_eq
abbrev KM:=@wpAny_rule
abbrev KO:=@wpAny_load
abbrev KP:=@Array.find?_toList
abbrev KS:=@Int.le_refl
abbrev KU:=@List.reverse_cons
abbrev KW:=@List.nodup_append
abbrev K0:=@F.plain_list_iadd
abbrev K2:=@Array.size_append
abbrev ya:=@PySem.F.args_tuple_add_2
abbrev yb:=@List.filter_cons
abbrev ye:=@F.slot_str_split
abbrev yf:=@wpAny_callSpecial?_slot
abbrev yi:=@PySem.F.entry_tuple_add
abbrev yk:=@F.plain_set_update_loop
end
section
namespace L2
open PySem PySem.Spec PyProof.Rows
abbrev Key:=Sum Int Str
def w6:Key->Value->Bool
 |.inl k,v=>Value.isInt k v
 |.inr x,v=>Value.isStrOf x v
def ail (w:World):Key->Int
 |.inl k=>hashInt k
 |.inr x=>hashStr w x
theorem cZ:∀ {k:Key} {v:Value},w6 k v=true->(∃ i t,k=Sum.inl i/\v=Value.int i t)\/(∃ x t,k=Sum.inr x/\v=Value.str x t)
 |.inl i,v,h=>by
  obtain⟨t,e⟩:=Value.isInt_shape (k:=i) (v:=v) h;exact .inl ⟨i,t,rfl,e⟩
 |.inr x,v,h=>by
  obtain⟨t,e⟩:=Value.isStrOf_shape (x:=x) (v:=v) h;exact .inr ⟨x,t,rfl,e⟩
theorem Uk (i:Int) (t:Tok):w6 (.inl i) (.int i t)=true:=by simp[w6,Value.isInt]
theorem Ul (x:Str) (t:Tok):w6 (.inr x) (.str x t)=true:=by simp[w6,Value.isStrOf]
theorem adt (a b:Int):decide ((Sum.inl a:Key)=Sum.inl b)=(a==b):=by
 by_cases e:a=b
 ·subst e;simp
 ·have h:¬ (Sum.inl a:Key)=Sum.inl b:=λq=>e (Sum.inl.inj q);rw[ZA h];exact(beq_eq_false_iff_ne.mpr e).symm
theorem adu (a b:Str):decide ((Sum.inr a:Key)=Sum.inr b)=decide (a=b):=by
 by_cases e:a=b
 ·subst e;simp
 ·have h:¬ (Sum.inr a:Key)=Sum.inr b:=λq=>e (Sum.inr.inj q);rw[ZA h,ZA e]
theorem adv (a:Int) (b:Str):decide ((Sum.inl a:Key)=Sum.inr b)=false:=ZA (λq=>nomatch q)
theorem adw (a:Str) (b:Int):decide ((Sum.inr a:Key)=Sum.inl b)=false:=ZA (λq=>nomatch q)
def dh (prog:Program) (w:World):PySem.KeyKind prog w Key where
 is:=w6
 hash:=ail w
 inj:=λv a b ha hb=>by
  rcases cZ ha with⟨i,t,rfl,rfl⟩|⟨x,t,rfl,rfl⟩
  ·rcases cZ hb with⟨j,u,rfl,e⟩|⟨y,u,rfl,e⟩
   ·injection e with e1 _;rw[e1]
   ·exact nomatch e
  ·rcases cZ hb with⟨j,u,rfl,e⟩|⟨y,u,rfl,e⟩
   ·exact nomatch e
   ·injection e with e1 _;rw[e1]
 byValue:=λk v h=>by
  rcases cZ h with⟨i,t,rfl,rfl⟩|⟨x,t,rfl,rfl⟩<;>rfl
 pyHash:=λhv h=>by
  rcases cZ hv with⟨i,t,rfl,rfl⟩|⟨x,t,rfl,rfl⟩
  ·exact wpAny_pyHash_int h
  ·exact wpAny_pyHash_str h
 eqBool:=λhu hv h=>by
  rcases cZ hu with⟨i,t,rfl,rfl⟩|⟨x,t,rfl,rfl⟩
  ·rcases cZ hv with⟨j,u,rfl,rfl⟩|⟨y,u,rfl,rfl⟩
   ·rw[adt] at h;exact wpAny_eqBool_int h
   ·rw[adv] at h;exact SeqAt.EqAt.int_str i t y u _ _ _ _ h
  ·rcases cZ hv with⟨j,u,rfl,rfl⟩|⟨y,u,rfl,rfl⟩
   ·rw[adw] at h;exact SeqAt.EqAt.str_int x t j u _ _ _ _ h
   ·rw[adu] at h;exact wpAny_eqBool_str h
 «strs»:=λk x t v h=>by
  rcases cZ h with⟨i,u,rfl,e⟩|⟨y,u,rfl,e⟩
  ·exact nomatch e
  ·injection e with e1 _;subst e1;cases v<;>rfl
theorem Mg (prog:Program) (w:World) (i:Int) (t:Tok):(dh prog w).is (.inl i) (.int i t)=true:=Uk i t
theorem Mh (prog:Program) (w:World) (x:Str) (t:Tok):(dh prog w).is (.inr x) (.str x t)=true:=Ul x t
end L2
namespace L2
open PySem PySem.Spec PyProof.Rows
inductive V where
 |non|bl (b:Bool)|int (i:Int)|str (x:Str)|byt (b:Array UInt8)|flt (b:UInt64)|ref (a:Addr)|ty (n:String)
 deriving DecidableEq
def RelV:V->Value->Prop
 |.non,u=>u=Value.none
 |.bl b,u=>u=Value.bool b
 |.int i,u=>∃ t,u=Value.int i t
 |.str x,u=>∃ t,u=Value.str x t
 |.byt b,u=>∃ t,u=Value.bytes b t
 |.flt b,u=>∃ t,u=Value.float b t
 |.ref a,u=>u=Value.ref a
 |.ty n,u=>u=Value.type n
abbrev Vals:List V->List Value->Prop:=Paired RelV
theorem Vals.length {xs:List V} {us:List Value} (r:Vals xs us):xs.length=us.length:=Paired.length r
theorem Vals.get:∀ {xs:List V} {us:List Value} {i:Nat} {x:V},Vals xs us->xs[i]?=some x->∃ u,us[i]?=some u/\RelV x u
 |_,_,_,_,.nil,e=>by simp at e
 |_,_,0,_,.cons r _,e=>by simp at e;subst e;exact⟨_,rfl,r⟩
 |_,_,i+1,x,.cons _ t,e=>by
  obtain⟨u,h1,h2⟩:=Vals.get (i:=i) (x:=x) t (by simpa using e);exact⟨u,by simpa using h1,h2⟩
theorem Vals.set {x:V} {u:Value} (r:RelV x u):∀ {xs:List V} {us:List Value} (i:Nat),Vals xs us->Vals (xs.set i x) (us.set i u)
 |_,_,_,.nil=>.nil
 |_,_,0,.cons _ t=>.cons r t
 |_,_,i+1,.cons q t=>.cons q (Vals.set r i t)
theorem Vals.append:∀ {xs ys:List V} {us ws:List Value},Vals xs us->Vals ys ws->Vals (xs++ys) (us++ws)
 |_,_,_,_,.nil,s=>s
 |_,_,_,_,.cons r t,s=>.cons r (Vals.append t s)
theorem Vals.take:∀ {xs:List V} {us:List Value} (n:Nat),Vals xs us->Vals (xs.take n) (us.take n)
 |_,_,0,_=>.nil
 |_,_,_+1,.nil=>.nil
 |_,_,n+1,.cons r t=>.cons r (Vals.take n t)
theorem Vals.drop:∀ {xs:List V} {us:List Value} (n:Nat),Vals xs us->Vals (xs.drop n) (us.drop n)
 |_,_,0,r=>r
 |_,_,_+1,.nil=>.nil
 |_,_,n+1,.cons _ t=>Vals.drop n t
def zW:Option V->Option Value->Prop
 |some v,some u=>RelV v u
 |none,none=>True
 |_,_=>False
def KV {κ:Type}:List (κ×V)->List (κ×Value)->Prop:=Paired λ(p:κ×V) (q:κ×Value)=>p.1=q.1/\RelV p.2 q.2
def kV:Key->V
 |.inl i=>.int i
 |.inr x=>.str x
inductive HO where
 |lst (xs:List V)
 |tup (xs:List V)
 |dK (kvs:List (Key×V))|dT (kvs:List (List Key×V))
 |set (S:Int->Bool) (n:Nat)
 |ins (C dx:Addr) (fs:List (Str×V))
 |own (x:Addr)
 |xd (fs:List (Str×V))
 |met (f x:Addr)
 |rng (lo hi:Int)
 |yF (o:Obj) (u:HO)
 |tbl (ps:Array Value)
 |ext (φ:Heap->Prop)
abbrev Hp:=Addr->Option HO
def upd (H:Hp) (a:Addr) (o:HO):Hp:=λb=>if b=a then some o else H b
theorem aV {H:Hp} {a:Addr} {o:HO}:upd H a o a=some o:=by unfold upd;rw[zh rfl]
theorem aM {H:Hp} {a b:Addr} {o:HO} (h:b≠a):upd H a o b=H b:=by unfold upd;rw[zC h]
def sY (h:Heap) (a:Addr) (items:Array Value):Prop:=∃ o,h.get? a=some o/\o.cls=.type "tuple" ∧ (∃ n,o.data=.seq items n)/\o.dict=none
theorem sY.weak {h:Heap} {a:Addr} {items:Array Value} (x:sY h a items):IsTup h a items:=let ⟨o,e,c,d,_⟩:=x;⟨o,e,c,d⟩
theorem sY.new (h:Heap) (items:Array Value):sY (h.push { cls:=.type "tuple", data:=.seq items }) h.objs.size items:=⟨_,zl _ rfl,rfl,⟨_,rfl⟩,rfl⟩
theorem nM {H:Hp} {a b:Addr} {o u:HO} (h:H a=some o) (h':H b=some u) (d:o≠u):a≠b:=by
 intro e;subst e;rw[h] at h';exact d (JI h')
theorem bF {H:Hp} {a b:Addr} {o:HO} (h:H a=some o) (h':H b=none):a≠b:=by
 intro e;subst e;rw[h] at h';cases h'
section
variable (P:Program) (w:World)
def fU (H:Hp) (h:Heap) (a:Addr):HO->Prop
 |.lst xs=>xs.length<=sizeLine/\∃ (its:List Value) (n:Nat),Vals xs its/\h.get? a=some { cls:=.type "list", data:=.seq its.toArray n }
 |.tup xs=>xs.length<=sizeLine/\∃ its:List Value,Vals xs its/\sY h a its.toArray
 |.dK kvs=>kvs.length<=sizeLine/\(a==sysModules)=false/\∃ vs,KV kvs vs/\h.DictOf (dh P w) a vs
 |.dT kvs=>kvs.length<=sizeLine/\(a==sysModules)=false/\∃ xs:List (List Key×Addr×Value),
   Paired (λ(p:List Key×V) (q:List Key×Addr×Value)=>p.1=q.1/\H q.2.1=some (.tup (p.1.map kV))/\RelV p.2 q.2.2) kvs xs ∧
   ∃ o es ep,h.get? a=some o/\o.ExactDict/\o.data=.dict es ep/\es.toList=xs.map (entryOfKey (tupleKind (dh P w)))/\(xs.map (·.1)).Nodup
 |.set S n=>h.SetOf (intKind P w) a S n
 |.ins C dx fs=>H dx=some (.own a)/\fs.length<=1000/\dx≠a/\h.get? a=some (instObj C dx) ∧
   ∃ mA,h.Ns1 dx mA/\(∀ f,zW (fs.lookup f) (mA f))/\PySem.Within mA (fs.map (·.1))
 |.own _=>∃ o,h.get? a=some o
 |.xd fs=>∃ mA,h.Ns1 a mA/\∀ f,zW (fs.lookup f) (mA f)
 |.rng lo hi=>∃ t u v,h.get? a=some { cls:=.type "range", data:=.fields #[.int lo t,.int hi u,.int 1 v] }
 |.yF o u=>h.get? a=some o/\fU H h a u
 |.tbl ps=>h.get? a=some { cls:=.none,data:=.fields ps }
 |.met f x=>h.get? a=some (methodObj (.ref f) (.ref x))
 |.ext φ=>φ h/\(∃ o,h.get? a=some o)/\∀ h1 h2:Heap,φ h1->(∀ o,h1.get? a=some o->h2.get? a=some o)->φ h2
def uT (H:Hp) (h:Heap):Prop:=∀ a o,H a=some o->fU P w H h a o
end
section
variable {P:Program} {w:World} {H H':Hp} {h h':Heap} {a:Addr} {o:HO}
theorem fU.lt (x:fU P w H h a o):a < h.objs.size:=by
 cases o with
 |lst xs=>obtain⟨_,_,_,_,e⟩:=x;exact zv e
 |tup xs=>obtain⟨_,_,_,p⟩:=x;exact p.weak.lt
 |dK kvs=>obtain⟨_,_,_,_,o,_,_,e,_⟩:=x;exact zv e
 |dT kvs=>obtain⟨_,_,_,_,o,_,_,e,_⟩:=x;exact zv e
 |set S n=>obtain⟨o,_,_,_,e,_⟩:=x;exact zv e
 |ins C dx fs=>obtain⟨_,_,_,e,_⟩:=x;exact zv e
 |own y=>obtain⟨_,e⟩:=x;exact zv e
 |xd fs=>obtain⟨_,⟨_,_,_,e,_⟩,_⟩:=x;exact zv e
 |rng lo hi=>obtain⟨_,_,_,e⟩:=x;exact zv e
 |yF ob u=>obtain⟨e,_⟩:=x;exact zv e
 |tbl ps=>exact zv (show h.get? a=some _ from x)
 |met f y=>exact zv (show h.get? a=some _ from x)
 |ext φ=>obtain⟨_,⟨_,e⟩,_⟩:=x;exact zv e
theorem Paired.aaq {α β:Type} {F G:α->β->Prop}:∀ {l₁:List α} {l₂:List β},Paired F l₁ l₂->(∀ a b,F a b->G a b)->Paired G l₁ l₂
 |_,_,.nil,_=>.nil
 |_,_,.cons r t,f=>.cons (f _ _ r) (Paired.aaq t f)
theorem Paired.imp' {α β:Type} {F G:α->β->Prop} (f:∀ a b,F a b->G a b) {l₁:List α} {l₂:List β} (r:Paired F l₁ l₂):Paired G l₁ l₂:=Paired.aaq r f
theorem fU.stay (x:fU P w H h a o) (k:∀ b u,(b=a\/H b=some (.own a))->h.get? b=some u->h'.get? b=some u)
  (ho:∀ b,H b=some (.own a)->H' b=some (.own a)) (ht:∀ b xs,H b=some (.tup xs)->H' b=some (.tup xs)):fU P w H' h' a o:=by
 induction o with
 |lst xs=>obtain⟨z,its,n,r,e⟩:=x;exact⟨z,its,n,r,k _ _ (.inl rfl) e⟩
 |tup xs=>obtain⟨z,its,r,ob,e,c⟩:=x;exact⟨z,its,r,ob,k _ _ (.inl rfl) e,c⟩
 |dK kvs=>obtain⟨z,y,vs,r,ob,es,ep,e,c⟩:=x;exact⟨z,y,vs,r,ob,es,ep,k _ _ (.inl rfl) e,c⟩
 |dT kvs=>
  obtain⟨z,y,xs,r,ob,es,ep,e,c⟩:=x;exact⟨z,y,xs,Paired.aaq r λp q z=>⟨z.1,ht _ _ z.2.1,z.2.2⟩,ob,es,ep,k _ _ (.inl rfl) e,c⟩
 |set S n=>obtain⟨ob,es,ep,t,e,c⟩:=x;exact⟨ob,es,ep,t,k _ _ (.inl rfl) e,c⟩
 |ins C dx fs=>
  obtain⟨d,z,ne,e,mA,⟨od,es,ep,e2,c⟩,r⟩:=x;exact⟨ho _ d,z,ne,k _ _ (.inl rfl) e,mA,⟨od,es,ep,k _ _ (.inr d) e2,c⟩,r⟩
 |own y=>obtain⟨ob,e⟩:=x;exact⟨ob,k _ _ (.inl rfl) e⟩
 |xd fs=>obtain⟨mA,⟨od,es,ep,e,c⟩,r⟩:=x;exact⟨mA,⟨od,es,ep,k _ _ (.inl rfl) e,c⟩,r⟩
 |rng lo hi=>obtain⟨t,u,v,e⟩:=x;exact⟨t,u,v,k _ _ (.inl rfl) e⟩
 |yF ob u ih=>obtain⟨e,q⟩:=x;exact⟨k _ _ (.inl rfl) e,ih q⟩
 |tbl ps=>
  have e:h.get? a=some { cls:=.none,data:=.fields ps }:=x;show h'.get? a=some { cls:=.none,data:=.fields ps };exact k a _ (.inl rfl) e
 |met f y=>
  have e:h.get? a=some (methodObj (.ref f) (.ref y)):=x;show h'.get? a=some (methodObj (.ref f) (.ref y));exact k a _ (.inl rfl) e
 |ext φ=>obtain⟨p,⟨o,e⟩,st⟩:=x;exact⟨st _ _ p λo q=>k _ _ (.inl rfl) q,⟨o,k _ _ (.inl rfl) e⟩,st⟩
theorem uT.lt (x:uT P w H h) (e:H a=some o):a < h.objs.size:=(x a o e).lt
theorem uT.fresh (x:uT P w H h) (e:h.objs.size<=a):H a=none:=by
 cases q:H a with
 |none=>rfl
 |some u=>exact absurd (ZH (x.lt q) e) (JU _)
theorem uT.kept (x:uT P w H h) (k:∀ b u,h.get? b=some u->h'.get? b=some u):uT P w H h':=λa o e=>
 (x a o e).stay (λb u _ q=>k b u q) (λ_ q=>q) λ_ _ q=>q
theorem uT.laid (x:uT P w H h) (k:∀ b u,h.get? b=some u->h'.get? b=some u) (hp:h.objs.size<=a) (new:fU P w (upd H a o) h' a o):uT P w (upd H a o) h':=λb u e=>by
 have hn:=x.fresh hp;by_cases hb:b=a
 ·subst hb;rw[aV] at e;cases e;exact new
 ·rw[aM hb] at e;exact(x b u e).stay (λc v _ q=>k c v q) (λc q=>by rw[aM (bF q hn)];exact q) λc xs q=>by rw[aM (bF q hn)];exact q
end
def Rd (H:Hp) (a:Addr) (u:HO):Prop:=H a=some u\/∃ o,H a=some (.yF o u)
theorem Rd.of {H:Hp} {a:Addr} {u:HO} (h:H a=some u):Rd H a u:=.inl h
theorem Rd.ok {P:Program} {w:World} {H:Hp} {h:Heap} {a:Addr} {u:HO} (r:Rd H a u) (x:uT P w H h):fU P w H h a u:=by
 rcases r with r|⟨o,r⟩
 ·exact x a u r
 ·obtain⟨_,q⟩:=x a _ r;exact q
def Mut:Option HO->Prop
 |some (.lst _)=>True
 |some (.dK _)=>True
 |some (.dT _)=>True
 |some (.set _ _)=>True
 |some (.ins _ _ _)=>True
 |some (.ext _)=>True
 |_=>False
section
variable {P:Program} {w:World} {H:Hp} {h h':Heap} {x e:Addr} {o':HO}
theorem uT.write (ok:uT P w H h) (mu:Mut (H x)) (he:e=x\/H e=some (.own x)) (k:∀ b u,b≠e->h.get? b=some u->h'.get? b=some u) (heo:∃ u,h'.get? e=some u)
  (new:fU P w (upd H x o') h' x o'):uT P w (upd H x o') h':=λb u q=>by
 have afN:∀ c y,H c=some (.own y)->c≠x:=λc y r z=>by subst z;rw[r] at mu;exact mu
 have ain:∀ c xs,H c=some (.tup xs)->c≠x:=λc xs r z=>by subst z;rw[r] at mu;exact mu
 by_cases hb:b=x
 ·subst hb;rw[aV] at q;cases q;exact new
 ·rw[aM hb] at q;by_cases hbe:b=e
  ·have q':H b=some (.own x):=by
    rcases he with z|z
    ·exact absurd (hbe.trans z) hb
    ·rw[hbe];exact z
   rw[q] at q';cases q';obtain⟨v,hv⟩:=heo;exact⟨v,by rw[hbe];exact hv⟩
  ·refine(ok b u q).stay (λc v hc r=>k c v ?_ r) (λc r=>by rw[aM (afN c b r)];exact r) λc xs r=>by rw[aM (ain c xs r)];exact r
   rcases hc with rfl|hc
   ·exact hbe
   ·rintro rfl;rcases he with z|z
    ·exact afN c b hc z
    ·rw[hc] at z;cases z;exact hb rfl
end
structure Un (fs ex:List Addr) (H H':Hp) (h h':Heap):Prop where
 keep:∀ b o,h.get? b=some o->H b=none->b∉fs->b∉ex->h'.get? b=some o
 slot:∀ b o,h.get? b=some o->H b=none->b∈fs->b∉ex->∃ sl,h'.get? b=some { o with slots:=sl }
 free:∀ b o,h.get? b=some o->H b=none->b∉ex->H' b=none
 there:∀ b o,h.get? b=some o->b∉ex->∃ o',h'.get? b=some o'
 tups:∀ b xs,H b=some (.tup xs)->H' b=some (.tup xs)
 rQ:∀ b o u,H b=some (.yF o u)->H' b=some (.yF o u)
 uN:∀ b ps,H b=some (.tbl ps)->∃ more,H' b=some (.tbl (ps++more))
section
variable {fs fs' ex ex':List Addr} {H H1 H2:Hp} {h h1 h2 h':Heap} {a x e:Addr} {o:HO}
theorem Un.any (u:Un fs ex H H1 h h1) {b:Addr} {ob:Obj} (q:h.get? b=some ob) (n:H b=none) (hx:b∉ex):∃ sl,h1.get? b=some { ob with slots:=sl }:=by
 by_cases hb:b∈fs
 ·exact u.slot b ob q n hb hx
 ·exact⟨ob.slots,u.keep b ob q n hb hx⟩
theorem Un.trans (a:Un fs ex H H1 h h1) (b:Un fs ex H1 H2 h1 h2):Un fs ex H H2 h h2 where
 keep:=λc ob q n hc hx=>b.keep c ob (a.keep c ob q n hc hx) (a.free c ob q n hx) hc hx
 slot:=λc ob q n hc hx=>by
  obtain⟨sl,e1⟩:=a.slot c ob q n hc hx;obtain⟨sl',e2⟩:=b.slot c _ e1 (a.free c ob q n hx) hc hx;exact⟨sl',e2⟩
 free:=λc ob q n hx=>by
  obtain⟨o',e1⟩:=a.there c ob q hx;exact b.free c o' e1 (a.free c ob q n hx) hx
 there:=λc ob q hx=>by
  obtain⟨o',e1⟩:=a.there c ob q hx;exact b.there c o' e1 hx
 tups:=λc xs q=>b.tups c xs (a.tups c xs q)
 rQ:=λc ob xs q=>b.rQ c ob xs (a.rQ c ob xs q)
 uN:=λc ps q=>by
  obtain⟨m1,e1⟩:=a.uN c ps q;obtain⟨m2,e2⟩:=b.uN c _ e1;exact⟨m1++m2,by rw[e2,Array.append_assoc]⟩
theorem Un.kept (k:∀ b u,h.get? b=some u->h'.get? b=some u):Un fs ex H H h h':=
 ⟨λb ob q _ _ _=>k b ob q,λb ob q _ _ _=>⟨ob.slots,k b ob q⟩,λ_ _ _ n _=>n,λb ob q _=>⟨ob,k b ob q⟩,λ_ _ q=>q,λ_ _ _ q=>q,λ_ ps q=>⟨#[],by rw[q];simp⟩⟩
theorem Un.refl:Un fs ex H H h h:=Un.kept λ_ _ q=>q
theorem Un.laid (k:∀ b u,h.get? b=some u->h'.get? b=some u) (hp:h.objs.size<=a) (hn:H a=none):Un fs ex H (upd H a o) h h' where
 keep:=λb u q _ _ _=>k b u q
 slot:=λb u q _ _ _=>⟨u.slots,k b u q⟩
 free:=λb u q n _=>by rw[aM (Zl (ZH (zv q) hp))];exact n
 there:=λb u q _=>⟨u,k b u q⟩
 tups:=λb xs q=>by rw[aM (bF q hn)];exact q
 rQ:=λb u xs q=>by rw[aM (bF q hn)];exact q
 uN:=λb ps q=>⟨#[],by rw[aM (bF q hn),q];simp⟩
theorem Un.write (mu:Mut (H x)) (he:e=x\/H e=some (.own x)) (k:∀ b u,b≠e->h.get? b=some u->h'.get? b=some u) (heo:∃ u,h'.get? e=some u):Un fs ex H (upd H x o) h h':=by
 have hx:∀ b,H b=none->b≠x:=λb n z=>by subst z;rw[n] at mu;exact mu
 have hb:∀ b,H b=none->b≠e:=λb n z=>by
  subst z;rcases he with r|r
  ·exact hx b n r
  ·rw[n] at r;cases r
 have hm:∀ b u,H b=some u->¬ Mut (some u)->b≠x:=λb u q nm z=>by subst z;rw[q] at mu;exact nm mu
 refine⟨λb u q n _ _=>k b u (hb b n) q,λb u q n _ _=>⟨u.slots,k b u (hb b n) q⟩,λb u q n _=>by rw[aM (hx b n)];exact n,λb u q _=>?_,
  λb xs q=>by rw[aM (hm b _ q λz=>z)];exact q,λb u xs q=>by rw[aM (hm b _ q λz=>z)];exact q,λb ps q=>⟨#[],by rw[aM (hm b _ q λz=>z),q];simp⟩⟩
 by_cases hbe:b=e
 ·subst hbe;exact heo
 ·exact⟨u,k b u hbe q⟩
theorem Un.mono (u:Un fs ex H H1 h h1) (hs:∀ b∈fs,b∈fs') (hx:∀ b∈ex,b∈ex'):Un fs' ex' H H1 h h1:=
 ⟨λb ob q n hb he=>u.keep b ob q n (λz=>hb (hs b z)) λz=>he (hx b z),λ_ _ q n _ he=>u.any q n λz=>he (hx _ z),λb ob q n he=>u.free b ob q n λz=>he (hx b z),λb ob q he=>u.there b ob q λz=>he (hx b z),u.tups,u.rQ,u.uN⟩
end
def trk (h:Heap) (H:Hp):List Addr:=(List.range h.objs.size).filter λa=>(H a).isSome
def JV (h:Heap) (H:Hp):Heap:=PySem.W.hideAll h (trk h H)
theorem Um (h:Heap) (H:Hp):(JV h H).objs.size=h.objs.size:=PySem.W.hideAll_size _ _
theorem Wz {h:Heap} {H:Hp} {b:Addr} {o:Obj} (e:h.get? b=some o) (n:H b=none):(JV h H).get? b=some o:=
 PySem.W.hideAll_get _ e λhm=>by
  have q:(H b).isSome=true:=(List.mem_filter.mp hm).2;rw[n] at q;simp at q
theorem aar {h:Heap} {H:Hp} {b:Addr} {o:Obj} (e:(JV h H).get? b=some o):h.get? b=some o/\H b=none:=by
 have e':h.get? b=some o:=PySem.W.of_hideAll (trk h H) e;refine⟨e',?_⟩;cases q:H b with
 |none=>rfl
 |some x=>
  have hm:b∈trk h H:=List.mem_filter.mpr ⟨List.mem_range.mpr (zv e'),by simp[q]⟩;have z:(JV h H).get? b=none:=PySem.W.hideAll_none (trk h H) hm;rw[z] at e;cases e
def aas (g h:Heap) (L:Addr):List (Addr×Obj):=(List.range h.objs.size).filterMap λa=>if a=L\/(g.get? a).isSome=true then none else(h.get? a).map λo=>(a,o)
def rest (g h:Heap) (L d:Addr):List (Addr×Obj):=(aas g h L).filter λp=>decide (p.1≠d)
end L2
namespace L2
open PySem PySem.Spec PyProof.Rows
structure Mod (K:FG_) (mg:Str->Option Value) (base:Heap):Prop where
 kin:K.In base
 glob:base.Ns mainGlobals mg
 blt:∃ mb,base.Ns builtinsNs mb/\∀ x:Str,x ≠ "__name__" → mb x=bootBuiltins x
 nolimit:base.NoLimit
structure Cx where
 prog:Program
 w:World
 K:FG_
 mg:Str->Option Value
 base:Heap
 A:Around
 N:LS_
 s₀:Shared
 H₀:Hp
 env:Env
 outer:List Env
 stack:List Env
 ex:List Addr
 fn:Str->Bool
 calm:Bool
 pn:List (Addr×Obj)
 xe:VP_
def frs (l:List Env):List Addr:=l.filterMap (·.frame)
abbrev Cx.fs (X:Cx):List Addr:=frs X.outer
def WD (sc:Scope) (x:Str):Prop:=sc.names.lookup x=some .local\/sc.names.lookup x=some .cell\/sc.names.lookup x=some .free
def Loc (sc:Scope) (x:Str):Prop:=sc.names.lookup x=some .local\/sc.names.lookup x=some .cell
def Look (env:Env) (h:Heap) (m:Str->Option Value) (x:Str) (u:Value):Prop:=
 (env.kindOf x=some .local/\m x=some u)\/((env.kindOf x=some .cell\/env.kindOf x=some .free)/\∃ c,env.cells.lookup x=some c/\h.IsCell c (some u))
structure Cx.Ok (X:Cx):Prop where
 mod:Mod X.K X.mg X.base
 kind:X.env.scope.kind=.function
 glob:X.env.globals=mainGlobals
 blt:X.env.builtins=builtinsNs
 above:X.s₀.heap.objs.size<=X.env.locals
 inj:∀ x y c,X.env.cells.lookup x=some c->X.env.cells.lookup y=some c->x=y
 has:∀ x,(X.env.kindOf x=some .cell\/X.env.kindOf x=some .free)->∃ c,X.env.cells.lookup x=some c
 cab:∀ x c,X.fn x=true->X.env.cells.lookup x=some c->X.s₀.heap.objs.size<=c
 hd:X.calm=true->X.A.handled=none
 frames:X.A.frames=some X.stack
 stk:X.stack=X.outer\/(X.stack=X.env::X.outer/\X.env.frame=some X.env.locals)
 exf:∀ b∈X.ex,b≠X.env.locals/\∀ x c,X.env.cells.lookup x=some c->c≠b
 bs:∀ b o,X.base.get? b=some o->X.s₀.heap.get? b=some o/\X.H₀ b=none
 Wn:X.base.objs.size<=X.s₀.heap.objs.size
 Uo:∀ b o,X.base.get? b=some o->b∉X.ex
 WK:∀ b∈X.ex,b∉X.fs
 wX:X.s₀.heap.FunFrames X.base X.outer
 frf:∀ b∈X.fs,X.H₀ b=none
structure Inv (X:Cx) (pins:List (Addr×Obj)) (σ:List (Option V)) (H:Hp) (s:Shared):Prop where
 ok:X.Ok
 os:s.os=X.s₀.os
 bare:AllBare s.gens
 base:Un X.fs X.ex X.H₀ H X.s₀.heap s.heap
 loc:∃ m,s.heap.Ns X.env.locals m/\∀ (i:Nat) (x:Str) (v:V),X.N[i]?=some x->σ[i]?=some (some v)->WD X.env.scope x->∃ u,RelV v u/\Look X.env s.heap m x u
 cell:∀ x c,X.env.cells.lookup x=some c->∃ v,s.heap.IsCell c v
 free:H X.env.locals=none
 jP:∀ x c,X.env.cells.lookup x=some c->H c=none
 pin:∀ p∈X.pn++pins,s.heap.get? p.1=some p.2/\H p.1=none/\p.1≠X.env.locals/\p.1∉X.fs/\∀ v,p.2.data≠.cell v
 hok:uT X.prog X.w H s.heap
 len:σ.length=X.N.length
section
variable {X:Cx} {pins:List (Addr×Obj)} {σ:List (Option V)} {H H':Hp} {s:Shared} {h':Heap}
theorem Cx.Ok.aip (ok:X.Ok) {b:Addr} {o:Obj} (e:X.base.get? b=some o):b∉X.fs:=λhb=>by
 have:=(ok.wX.mem hb).1;rw[e] at this;cases this
theorem Inv.bs (I:Inv X pins σ H s):∀ b o,X.base.get? b=some o->s.heap.get? b=some o/\H b=none:=λb o e=>
 ⟨I.base.keep b o (I.ok.bs b o e).1 (I.ok.bs b o e).2 (I.ok.aip e) (I.ok.Uo b o e),I.base.free b o (I.ok.bs b o e).1 (I.ok.bs b o e).2 (I.ok.Uo b o e)⟩
theorem Inv.bk (I:Inv X pins σ H s):∀ b o,X.base.get? b=some o->s.heap.get? b=some o:=λb o e=>(I.bs b o e).1
theorem Inv.mod (I:Inv X pins σ H s):Mod X.K X.mg X.base:=I.ok.mod
theorem Inv.HJ (I:Inv X pins σ H s):X.K.In s.heap:=I.ok.mod.kin.keeps I.bk
theorem Inv.nolimit (I:Inv X pins σ H s):s.heap.NoLimit:=I.ok.mod.nolimit.keeps I.bk
theorem Inv.fr (I:Inv X pins σ H s):∃ m,Fr X.base X.env.locals s.heap m:=
 let ⟨m,hn,_⟩:=I.loc
 ⟨m,hn,I.bk,zI I.ok.Wn I.ok.above⟩
theorem Inv.lt (I:Inv X pins σ H s):X.env.locals < s.heap.objs.size:=let ⟨_,hn,_⟩:=I.loc;hn.lt
theorem Inv.sz (I:Inv X pins σ H s):X.s₀.heap.objs.size<=s.heap.objs.size:=zI I.ok.above (JJ I.lt)
theorem Inv.aiq (I:Inv X pins σ H s) {a:Addr} (h:s.heap.objs.size<=a):a∉X.fs:=λhb=>by
 obtain⟨_,o,ho,_⟩:=I.ok.wX.mem hb;exact absurd (ZH (zv ho) (zI I.sz h)) (JU _)
theorem Inv.cne (I:Inv X pins σ H s):∀ x c,X.env.cells.lookup x=some c->c≠X.env.locals:=λx c e z=>by
 obtain⟨v,o,ho,hd⟩:=I.cell x c e;obtain⟨m,⟨o',es,ep,ho',hd',_⟩,_⟩:=I.loc;rw[z,ho'] at ho;cases ho;rw[hd'] at hd;cases hd
theorem Inv.wX (I:Inv X pins σ H s):s.heap.FunFrames X.base X.outer:=by
 have all:∀ (l:List Env),(∀ b∈frs l,b∈X.fs)->X.s₀.heap.FunFrames X.base l->s.heap.FunFrames X.base l:=by
  intro l
  induction l with
  |nil=>intro _ _;trivial
  |cons env r ih=>
   intro hs hl;obtain⟨hk,⟨L,o,hf,hn,ho,hd⟩,hr⟩:=hl;have hL:L∈X.fs:=hs L (by unfold frs;rw[List.filterMap_cons,hf];exact zo);obtain⟨sl,e⟩:=I.base.slot L o ho (I.ok.frf L hL) hL λz=>I.ok.WK L z hL;exact⟨hk,⟨L,_,hf,hn,e,hd⟩,ih (λb hb=>hs b (by unfold frs;rw[List.filterMap_cons,hf];exact zr _ hb)) hr⟩
 exact all X.outer (λ_ hb=>hb) I.ok.wX
theorem Inv.stack (I:Inv X pins σ H s):s.heap.FunFrames X.base X.stack:=by
 rcases I.ok.stk with e|⟨e,hf⟩
 ·rw[e];exact I.wX
 ·rw[e];obtain⟨m,hn,_⟩:=I.loc;refine .cons (by rw[I.ok.kind];decide) hf hn ?_ I.wX;exact Heap.get?_none_of_le (zI I.ok.Wn I.ok.above)
theorem Inv.Ef (I:Inv X pins σ H s):∀ b∈frs X.stack,b∈X.env.locals::X.fs:=λb hb=>by
 rcases I.ok.stk with e|⟨e,hf⟩
 ·rw[e] at hb;exact zr _ hb
 ·rw[e] at hb;unfold frs at hb;rw[List.filterMap_cons,hf] at hb;exact hb
theorem Inv.Dg (I:Inv X pins σ H s):∀ b∈frs X.stack,H b=none:=λb hb=>by
 rcases List.mem_cons.mp (I.Ef b hb) with e|hb
 ·rw[e];exact I.free
 ·obtain⟨_,o,ho,_⟩:=I.ok.wX.mem hb;exact I.base.free b o ho (I.ok.frf b hb) λz=>I.ok.WK b z hb
theorem Inv.step {g':Array GenState} {t':Nat} {d':Drawn} {ch:List Addr} (I:Inv X pins σ H s)
  (hch:∀ b∈ch,(b∈X.ex\/X.s₀.heap.objs.size<=b)/\b≠X.env.locals/\(∀ x c,X.env.cells.lookup x=some c->c≠b)/\∀ p∈X.pn++pins,p.1≠b)
  (keep:∀ b o,b≠X.env.locals->b∉X.fs->b∉ch->s.heap.get? b=some o->H b=none->h'.get? b=some o)
  (slot:∀ b o,b≠X.env.locals->b∈X.fs->b∉ch->s.heap.get? b=some o->H b=none->∃ sl,h'.get? b=some { o with slots:=sl }) (free:∀ b o,b∉ch->s.heap.get? b=some o->H b=none->H' b=none)
  (there:∀ b o,b∉ch->s.heap.get? b=some o->∃ o',h'.get? b=some o')
  (tups:∀ b xs,H b=some (.tup xs)->H' b=some (.tup xs)) (rQ:∀ b o u,H b=some (.yF o u)->H' b=some (.yF o u)) (uN:∀ b ps,H b=some (.tbl ps)->∃ more,H' b=some (.tbl (ps++more)))
  (ns:∀ m,s.heap.Ns X.env.locals m->h'.Ns X.env.locals m) (hok:uT X.prog X.w H' h') (hg:AllBare g') :
  Inv X pins σ H' { s with heap:=h',gens:=g',drawn:=d',toks:=t' }:=by
 have neL:∀ b o,X.s₀.heap.get? b=some o->b≠X.env.locals:=λb o e=>Zl (ZH (zv e) I.ok.above);have neC:∀ b o,X.s₀.heap.get? b=some o->b∉X.ex->b∉ch:=λb o e hx hb=>by
  rcases(hch b hb).1 with z|z
  ·exact hx z
  ·exact absurd (ZH (zv e) z) (JU _)
 have cellK:∀ x c,X.env.cells.lookup x=some c->∀ v,s.heap.IsCell c v->h'.IsCell c v:=λx c e v ⟨o,ho,hd⟩=>by
  have nch:c∉ch:=λz=>(hch c z).2.2.1 x c e rfl;by_cases hc:c∈X.fs
  ·obtain⟨sl,q⟩:=slot c o (I.cne x c e) hc nch ho (I.jP x c e);exact⟨_,q,hd⟩
  ·exact⟨o,keep c o (I.cne x c e) hc nch ho (I.jP x c e),hd⟩
 refine⟨I.ok,I.os,hg,⟨λb o e n hb hx=>?_,λb o e n hb hx=>?_,λb o e n hx=>?_,λb o e hx=>?_,λb xs e=>tups b xs (I.base.tups b xs e),λb o xs e=>rQ b o xs (I.base.rQ b o xs e),λb ps e=>?_⟩,?_,λx c e=>?_,?_,λx c e=>?_,λp hp=>?_,hok,I.len⟩
 ·exact keep b o (neL b o e) hb (neC b o e hx) (I.base.keep b o e n hb hx) (I.base.free b o e n hx)
 ·obtain⟨sl,e1⟩:=I.base.slot b o e n hb hx;obtain⟨sl',e2⟩:=slot b _ (neL b o e) hb (neC b o e hx) e1 (I.base.free b o e n hx);exact⟨sl',e2⟩
 ·obtain⟨o',e1⟩:=I.base.there b o e hx;exact free b o' (neC b o e hx) e1 (I.base.free b o e n hx)
 ·obtain⟨o',e1⟩:=I.base.there b o e hx;exact there b o' (neC b o e hx) e1
 ·obtain⟨m1,e1⟩:=I.base.uN b ps e;obtain⟨m2,e2⟩:=uN b _ e1;exact⟨m1++m2,by rw[e2,Array.append_assoc]⟩
 ·obtain⟨m,hn,hl⟩:=I.loc;refine⟨m,ns m hn,λi x v e1 e2 e3=>?_⟩;obtain⟨u,r,l⟩:=hl i x v e1 e2 e3;refine⟨u,r,?_⟩;rcases l with l|⟨k,c,e,z⟩
  ·exact .inl l
  ·exact .inr ⟨k,c,e,cellK x c e _ z⟩
 ·obtain⟨v,z⟩:=I.cell x c e;exact⟨v,cellK x c e v z⟩
 ·obtain⟨m,⟨o,_,_,ho,_⟩,_⟩:=I.loc;exact free _ o (λz=>(hch _ z).2.1 rfl) ho I.free
 ·obtain⟨v,o,ho,hd⟩:=I.cell x c e;exact free c o (λz=>(hch c z).2.2.1 x c e rfl) ho (I.jP x c e)
 ·obtain⟨e,n,ne,nf,d⟩:=I.pin p hp;have nch:p.1∉ch:=λz=>(hch p.1 z).2.2.2 p hp rfl;exact⟨keep p.1 p.2 ne nf nch e n,free p.1 p.2 nch e n,ne,nf,d⟩
theorem Inv.un {t':Nat} (I:Inv X pins σ H s) (u:Un X.fs [] H H' s.heap h') (hok:uT X.prog X.w H' h'):Inv X pins σ H' { s with heap:=h',toks:=t' }:=by
 obtain⟨m,⟨o,es,ep,ho,r⟩,_⟩:=id I.loc;obtain⟨sl,hL⟩:=u.any ho I.free (by simp);exact I.step (g':=s.gens) (d':=s.drawn) (ch:=[]) (λ_ z=>nomatch z) (λb o _ hb _ e n=>u.keep b o e n hb (by simp)) (λb o _ hb _ e n=>u.slot b o e n hb (by simp)) (λb o _ e n=>u.free b o e n (by simp)) (λb o _ e=>u.there b o e (by simp)) u.tups u.rQ u.uN (λm' hm=>by
  obtain⟨o',es',ep',ho',r'⟩:=hm;rw[ho] at ho';cases ho';exact⟨_,es',ep',hL,r'⟩) hok I.bare
theorem Inv.call {g':Array GenState} {t':Nat} {d':Drawn} {ch:List Addr} (I:Inv X pins σ H s) (u:Un (frs X.stack) ch H H' s.heap h') (hok:uT X.prog X.w H' h') (hg:AllBare g')
  (hch:∀ b∈ch,(b∈X.ex\/X.s₀.heap.objs.size<=b)/\b≠X.env.locals/\(∀ x c,X.env.cells.lookup x=some c->c≠b)/\∀ p∈X.pn++pins,p.1≠b) :
  Inv X pins σ H' { s with heap:=h',gens:=g',drawn:=d',toks:=t' }:=by
 obtain⟨m,⟨o,es,ep,ho,r⟩,_⟩:=id I.loc;obtain⟨sl,hL⟩:=u.any ho I.free λz=>(hch _ z).2.1 rfl;exact I.step (ch:=ch) hch (λb o hL hb hc e n=>u.keep b o e n (λz=>(List.mem_cons.mp (I.Ef b z)).elim hL hb) hc) (λb o _ _ hc e n=>u.any e n hc) (λb o hc e n=>u.free b o e n hc) (λb o hc e=>u.there b o e hc) u.tups u.rQ u.uN (λm' hm=>by
  obtain⟨o',es',ep',ho',r'⟩:=hm;rw[ho] at ho';cases ho';exact⟨_,es',ep',hL,r'⟩) hok hg
theorem Inv.turned {t':Nat} {it:Addr} (I:Inv X pins σ H s) (k:∀ b o,b≠it->s.heap.get? b=some o->h'.get? b=some o) (hn:H it=none) (hL:it≠X.env.locals)
  (h1:it∈X.ex\/X.s₀.heap.objs.size<=it) (h2:∀ x c,X.env.cells.lookup x=some c->c≠it) (h3:∀ p∈X.pn++pins,p.1≠it):Inv X pins σ H { s with heap:=h',toks:=t' }:=by
 have nit:∀ b u,H b=some u->b≠it:=λb u e z=>by rw[z,hn] at e;cases e
 refine I.step (g':=s.gens) (d':=s.drawn) (ch:=[it]) (λb hb=>?_) (λb o _ _ hc e _=>k b o (λz=>hc (by simp[z])) e) (λb o _ _ hc e _=>⟨o.slots,k b o (λz=>hc (by simp[z])) e⟩) (λ_ _ _ _ n=>n)
  (λb o hc e=>⟨o,k b o (λz=>hc (by simp[z])) e⟩) (λ_ _ e=>e) (λ_ _ _ e=>e) (λb ps e=>⟨#[],by rw[e];simp⟩) (λm hm=>?_) (λb u e=>?_) I.bare
 ·have e:b=it:=by simpa using hb
  subst e;exact⟨h1,hL,h2,h3⟩
 ·obtain⟨o,es,ep,ho,r⟩:=hm;exact⟨o,es,ep,k _ o (Q2 hL) ho,r⟩
 ·refine(I.hok b u e).stay (λc v hc q=>k c v ?_ q) (λ_ q=>q) λ_ _ q=>q;rcases hc with z|z
  ·rw[z];exact nit b u e
  ·exact nit c _ z
theorem Inv.tok (I:Inv X pins σ H s) (t:Nat):Inv X pins σ H { s with toks:=t }:=I.un (h':=s.heap) (t':=t) Un.refl I.hok
theorem Inv.kept {t':Nat} (I:Inv X pins σ H s) (k:∀ b u,s.heap.get? b=some u->h'.get? b=some u):Inv X pins σ H { s with heap:=h',toks:=t' }:=I.un (Un.kept k) (I.hok.kept k)
theorem Inv.laid {a:Addr} {o:HO} {t':Nat} (I:Inv X pins σ H s) (k:∀ b u,s.heap.get? b=some u->h'.get? b=some u) (hp:s.heap.objs.size<=a) (new:fU X.prog X.w (upd H a o) h' a o) :
  Inv X pins σ (upd H a o) { s with heap:=h',toks:=t' }:=I.un (Un.laid k hp (I.hok.fresh hp)) (I.hok.laid k hp new)
theorem Inv.write {x e:Addr} {o:HO} {t':Nat} (I:Inv X pins σ H s) (mu:Mut (H x)) (he:e=x\/H e=some (.own x)) (k:∀ b u,b≠e->s.heap.get? b=some u->h'.get? b=some u) (heo:∃ u,h'.get? e=some u)
  (new:fU X.prog X.w (upd H x o) h' x o):Inv X pins σ (upd H x o) { s with heap:=h',toks:=t' }:=I.un (Un.write mu he k heo) (I.hok.write mu he k heo new)
theorem Inv.weak {σ':List (Option V)} (I:Inv X pins σ H s) (hl:σ'.length=σ.length) (w:∀ (i:Nat) v,σ'[i]?=some (some v)->σ[i]?=some (some v)):Inv X pins σ' H s:=
 ⟨I.ok,I.os,I.bare,I.base,let ⟨m,hn,hl'⟩:=I.loc;⟨m,hn,λi x v e1 e2 e3=>hl' i x v e1 (w i v e2) e3⟩,I.cell,I.free,I.jP,I.pin,I.hok,hl.trans I.len⟩
theorem Inv.Dh {WL:List (Addr×Obj)} (I:Inv X pins σ H s) (h:∀ p∈WL,s.heap.get? p.1=some p.2/\H p.1=none/\p.1≠X.env.locals/\p.1∉X.fs/\∀ v,p.2.data≠.cell v):Inv X WL σ H s:=
 ⟨I.ok,I.os,I.bare,I.base,I.loc,I.cell,I.free,I.jP,λp hp=>(List.mem_append.mp hp).elim (λz=>I.pin p (JS _ z)) (h p),I.hok,I.len⟩
theorem Eh {N:LS_} (hN:N.Nodup) {i j:Nat} {x:Str} (a:N[i]?=some x) (b:N[j]?=some x):i=j:=by
 obtain⟨h1,e1⟩:=List.getElem?_eq_some_iff.mp a;obtain⟨h2,e2⟩:=List.getElem?_eq_some_iff.mp b;exact(List.getElem_inj hN).mp (e1.trans e2.symm)
theorem Uq {M:Model} {A:Around} {E:VP_} {i:Nat} {x:Str} {v:V} {u:Value} {Q:Unit->Shared->Prop} (I:Inv X pins σ H s) (hN:X.N.Nodup) (hi:X.N[i]?=some x) (hx:Loc X.env.scope x) (r:RelV v u)
  (h:∀ s',Inv X pins (σ.set i (some v)) H s'->(∃ a,Heap.SameBut a s.heap s'.heap/\(a=X.env.locals\/X.env.cells.lookup x=some a))->Q () s') (hf:X.fn x=true\/X.env.scope.names.lookup x=some .local:=by first|exact .inl rfl|exact .inr rfl|assumption):wpAny M A (storeName X.env x u) Q E s:=by
 obtain⟨m,hn,hl⟩:=id I.loc;have hcls:(X.env.scope.kind==.class||(X.env.scope.kind==.module&&X.env.locals != X.env.globals))=false:=by rw[I.ok.kind];rfl
 have hiσ:i < σ.length:=by rw[I.len];exact(List.getElem?_eq_some_iff.mp hi).1
 have cne:=I.cne;have tracked:∀ {a:Addr} {h':Heap},(∃ o,s.heap.get? a=some o/\H a=none)->Heap.SameBut a s.heap h'->uT X.prog X.w H h':=λ{a h'} ha hs b ob e=>by
  obtain⟨_,_,hfree⟩:=ha;refine(I.hok b ob e).stay (λc w' hc q=>(hs.2 c ?_).trans q) (λ_ q=>q) λ_ _ q=>q;rintro rfl;rcases hc with rfl|hc
  ·rw[hfree] at e;cases e
  ·rw[hfree] at hc;cases hc
 rcases hx with hk|hk
 ·refine wpAny_storeName_local hk hn (λh' hn' hs=>?_) hcls;obtain⟨oL,_,_,hoL,_⟩:=id hn;refine h _ ⟨I.ok,I.os,I.bare,⟨λb o e n hb hx=>?_,λb o e n hb hx=>?_,I.base.free,λb o e hx=>?_,I.base.tups,I.base.rQ,I.base.uN⟩,⟨_,hn',λj y v' e1 e2 e3=>?_⟩,λy c e=>?_,I.free,I.jP,λp hp=>?_,tracked ⟨oL,hoL,I.free⟩ hs,by simpa using I.len⟩ ⟨_,hs,.inl rfl⟩
  ·exact(hs.2 b (Zl (ZH (zv e) I.ok.above))).trans (I.base.keep b o e n hb hx)
  ·obtain⟨sl,e1⟩:=I.base.slot b o e n hb hx;exact⟨sl,(hs.2 b (Zl (ZH (zv e) I.ok.above))).trans e1⟩
  ·obtain⟨o',e1⟩:=I.base.there b o e hx;exact⟨o',(hs.2 b (Zl (ZH (zv e) I.ok.above))).trans e1⟩
  ·by_cases hj:j=i
   ·subst hj;rw[hi] at e1;cases e1;rw[List.getElem?_set_self hiσ] at e2;cases e2;exact⟨u,r,.inl ⟨hk,by simp⟩⟩
   ·rw[Kx (Q2 hj)] at e2;obtain⟨u',r',q⟩:=hl j y v' e1 e2 e3;refine⟨u',r',?_⟩;rcases q with⟨k,e⟩|⟨k,c,e,z⟩
    ·refine .inl ⟨k,?_⟩;have:y≠x:=λe=>hj (Eh hN e1 (e▸hi));simp[this,e]
    ·exact .inr ⟨k,c,e,z.sameBut hs (cne y c e)⟩
  ·obtain⟨w',z⟩:=I.cell y c e;exact⟨w',z.sameBut hs (cne y c e)⟩
  ·obtain⟨e,n,ne,nf,d⟩:=I.pin p hp;exact⟨(hs.2 p.1 ne).trans e,n,ne,nf,d⟩
 ·have hfn:X.fn x=true:=by
   rcases hf with z|z
   ·exact z
   ·rw[z] at hk;cases hk
  obtain⟨c,hc⟩:=I.ok.has x (.inl hk);obtain⟨w',z⟩:=I.cell x c hc;refine wpAny_storeName_cell I.ok.kind hk hc z (λh' hc' hs=>?_);obtain⟨oc,hoc,air⟩:=id z;refine h { s with heap:=h' } ⟨I.ok,I.os,I.bare,⟨λb o e n hb hx=>?_,λb o e n hb hx=>?_,I.base.free,λb o e hx=>?_,I.base.tups,I.base.rQ,I.base.uN⟩,⟨m,hn.sameBut hs (Q2 (cne x c hc)),λj y v' e1 e2 e3=>?_⟩,λy c' e=>?_,I.free,I.jP,λp hp=>?_,tracked ⟨oc,hoc,I.jP x c hc⟩ hs,by simpa using I.len⟩ ⟨c,hs,.inr hc⟩
  ·exact(hs.2 b (Zl (ZH (zv e) (I.ok.cab x c hfn hc)))).trans (I.base.keep b o e n hb hx)
  ·obtain⟨sl,e1⟩:=I.base.slot b o e n hb hx;exact⟨sl,(hs.2 b (Zl (ZH (zv e) (I.ok.cab x c hfn hc)))).trans e1⟩
  ·obtain⟨o',e1⟩:=I.base.there b o e hx;exact⟨o',(hs.2 b (Zl (ZH (zv e) (I.ok.cab x c hfn hc)))).trans e1⟩
  ·by_cases hj:j=i
   ·subst hj;rw[hi] at e1;cases e1;rw[List.getElem?_set_self hiσ] at e2;cases e2;exact⟨u,r,.inr ⟨.inl hk,c,hc,hc'⟩⟩
   ·rw[Kx (Q2 hj)] at e2;obtain⟨u',r',q⟩:=hl j y v' e1 e2 e3;refine⟨u',r',?_⟩;rcases q with q|⟨k,c',e,z'⟩
    ·exact .inl q
    ·refine .inr ⟨k,c',e,z'.sameBut hs ?_⟩;rintro rfl;exact hj (Eh hN e1 (I.ok.inj _ _ _ e hc▸hi))
  ·by_cases hcc:c'=c
   ·subst hcc;exact⟨_,hc'⟩
   ·obtain⟨w2,z2⟩:=I.cell y c' e;exact⟨w2,z2.sameBut hs hcc⟩
  ·obtain⟨e,n,ne,nf,d⟩:=I.pin p hp;refine⟨(hs.2 p.1 ?_).trans e,n,ne,nf,d⟩;intro q;rw[q,hoc] at e;have q':oc=p.2:=JI e;exact d w' (by rw[<-q'];exact air)
theorem pO {M:Model} {A:Around} {E:VP_} {i:Nat} {x:Str} {v:V} {u:Value} {Q:Unit->Shared->Prop} (I:Inv X pins σ H s) (hN:X.N.Nodup) (hi:X.N[i]?=some x) (hx:Loc X.env.scope x) (r:RelV v u)
  (h:∀ s',Inv X pins (σ.set i (some v)) H s'->Q () s') (hf:X.fn x=true\/X.env.scope.names.lookup x=some .local:=by first|exact .inl rfl|exact .inr rfl|assumption):wpAny M A (storeName X.env x u) Q E s:=
 Uq I hN hi hx r (λs' I' _=>h s' I') hf
theorem Inv.call' {s':Shared} {ch:List Addr} (I:Inv X pins σ H s) (ho:s'.os=s.os) (u:Un (frs X.stack) ch H H' s.heap s'.heap) (hok:uT X.prog X.w H' s'.heap) (hg:AllBare s'.gens)
  (hch:∀ b∈ch,(b∈X.ex\/X.s₀.heap.objs.size<=b)/\b≠X.env.locals/\(∀ x c,X.env.cells.lookup x=some c->c≠b)/\∀ p∈X.pn++pins,p.1≠b):Inv X pins σ H' s':=by
 obtain⟨h',g',d',t',o'⟩:=s';have e:o'=s.os:=ho;subst e;exact I.call (g':=g') (t':=t') (d':=d') u hok hg hch
end
abbrev XK:=Value->Option Addr->Hp->Prop
abbrev St:=List (Option V)
abbrev VK:=V->Hp->Prop
abbrev TE:=St->Hp->VK->Prop
abbrev TT:=St->Hp->(Bool->Hp->Prop)->Prop
abbrev TA:=St->Hp->(List V->Hp->Prop)->Prop
structure Ends where
 nx:St->Hp->Prop
 rt:VK
 bk:St->Hp->Prop:=λ_ _=>False
 ct:St->Hp->Prop:=λ_ _=>False
abbrev TS:=Ends->St->Hp->Prop
def EP (X:Cx) (pins:List (Addr×Obj)) (σ:St) (Q:VK) (u:Value) (s':Shared):Prop:=∃ v H',Inv X pins σ H' s'/\RelV v u/\Q v H'
def TP (X:Cx) (pins:List (Addr×Obj)) (σ:St) (Q:Bool->Hp->Prop) (b:Bool) (s':Shared):Prop:=∃ H',Inv X pins σ H' s'/\Q b H'
def AP (X:Cx) (pins:List (Addr×Obj)) (σ:St) (Q:List V->Hp->Prop) (us:List Value) (s':Shared):Prop:=∃ vs H',Inv X pins σ H' s'/\Vals vs us/\Q vs H'
def SP (X:Cx) (pins:List (Addr×Obj)) (D:Ends) (f:Flow) (s':Shared):Prop:=
 match f with
 |.next=>∃ σ' H',Inv X pins σ' H' s'/\D.nx σ' H'
 |.brk=>∃ σ' H',Inv X pins σ' H' s'/\D.bk σ' H'
 |.cont=>∃ σ' H',Inv X pins σ' H' s'/\D.ct σ' H'
 |.ret u=>∃ v σ' H',Inv X pins σ' H' s'/\RelV v u/\D.rt v H'
def PE (X:Cx) (e:Expr) (t:TE):Prop:=
 ∀ (pins:List (Addr×Obj)) (s:Shared) (σ:St) (H:Hp) (Q:VK),Inv X pins σ H s->t σ H Q->wpAny (model X.prog X.w) X.A (eval e X.env) (EP X pins σ Q) X.xe s
def PT (X:Cx) (e:Expr) (t:TT):Prop:=
 ∀ (pins:List (Addr×Obj)) (s:Shared) (σ:St) (H:Hp) (Q:Bool->Hp->Prop),Inv X pins σ H s->t σ H Q->wpAny (model X.prog X.w) X.A (isTrue e X.env (eval e X.env)) (TP X pins σ Q) X.xe s
def PW (X:Cx) (e:Expr) (t:TT):Prop:=
 ∀ (whole:Sem Value) (pins:List (Addr×Obj)) (s:Shared) (σ:St) (H:Hp) (Q:Bool->Hp->Prop),Inv X pins σ H s->t σ H Q->wpAny (model X.prog X.w) X.A (isTrue e X.env whole) (TP X pins σ Q) X.xe s
theorem PW.pt {X:Cx} {e:Expr} {t:TT} (h:PW X e t):PT X e t:=h _
def PA (X:Cx) (es:List Expr) (t:TA):Prop:=
 ∀ (pos:Pos) (pins:List (Addr×Obj)) (s:Shared) (σ:St) (H:Hp) (Q:List V->Hp->Prop),Inv X pins σ H s->t σ H Q->wpAny (model X.prog X.w) X.A (spliced (backTo pos (starEach es X.env))) (AP X pins σ Q) X.xe s
def PS (X:Cx) (st:Stmt) (t:TS):Prop:=
 ∀ (pins:List (Addr×Obj)) (s:Shared) (σ:St) (H:Hp) (D:Ends),Inv X pins σ H s->t D σ H->wpAny (model X.prog X.w) X.A (exec st X.env) (SP X pins D) X.xe s
def zU (X:Cx) (st:List Stmt) (t:TS):Prop:=
 ∀ (pins:List (Addr×Obj)) (s:Shared) (σ:St) (H:Hp) (D:Ends),Inv X pins σ H s->t D σ H->wpAny (model X.prog X.w) X.A (execs st X.env) (SP X pins D) X.xe s
theorem gU {α:Type} {t:Sem α} {Q Q':α->Shared->Prop} {M:Model} {A:Around} {E:VP_} {s:Shared} (h:wpAny M A t Q E s) (hQ:∀ a s,Q a s->Q' a s):wpAny M A t Q' E s:=ZN h hQ λ_ _ x=>x
end L2
namespace L2
open PySem PySem.Spec PyProof.Rows
section
variable {X:Cx}
def WM (i:Nat):TE:=λσ H Q=>∃ v,σ[i]?=some (some v)/\Q v H
def tC (v:V):TE:=λ_ H Q=>Q v H
theorem sZ {i:Nat} {x:Str} {pos:Pos} (hN:X.N[i]?=some x) (hv:WD X.env.scope x) (hd:(x==("__debug__" : Str))=false:=by decide) (hcd:(x==("__classdict__" : Str))=false:=by decide):PE X (.Name x pos) (WM i):=by
 intro pins s σ H Q I h;obtain⟨v,e,h⟩:=h;obtain⟨m,hn,hl⟩:=I.loc;obtain⟨u,r,l⟩:=hl i x v hN e hv;have fin:EP X pins σ Q u s:=⟨v,H,I,r,h⟩;rcases l with⟨hk,hm⟩|⟨hk,c,hc,hcell⟩
 ·exact wpAny_Name (wpAny_loadName_local I.ok.kind hk hn hm fin) hd
 ·rcases hk with hk|hk
  ·exact wpAny_Name (wpAny_loadName_cell I.ok.kind hk hc hcell fin) hd
  ·exact wpAny_Name (wpAny_loadName_free I.ok.kind hk hc hcell fin hcd) hd
theorem adz {i j pos}:PE X (.Constant (.int i) j pos) (tC (.int i)):=λ_ _ _ H _ I h=>wpAny_Constant_int ⟨.int i,H,I.tok _,⟨_,rfl⟩,h⟩
theorem afQ {b j pos}:PE X (.Constant (.bool b) j pos) (tC (.bl b)):=λ_ _ _ H _ I h=>Constant_bool ⟨.bl b,H,I,rfl,h⟩
theorem Qk {j pos}:PE X (.Constant .none j pos) (tC .non):=λ_ _ _ H _ I h=>Constant_none ⟨.non,H,I,rfl,h⟩
theorem Ql {x j pos}:PE X (.Constant (.str x) j pos) (tC (.str x)):=λ_ _ _ H _ I h=>Calls.Constant_str ⟨.str x,H,I.tok _,⟨_,rfl⟩,h⟩
def Gl (X:Cx) (x:Str):Prop:=X.env.kindOf x=some .globalImplicit
theorem yH {E:VP_} {pins:List (Addr×Obj)} {s:Shared} {σ:St} {H:Hp} {x:Str} {u:Value} {pos:Pos} {Q:VP_} (I:Inv X pins σ H s) (hg:Gl X x) (hm:X.mg x=some u) (h:Q u s)
  (hd:(x==("__debug__" : Str))=false:=by decide):wpAny (model X.prog X.w) X.A (eval (.Name x pos) X.env) Q E s:=
 Calls.Name_function_global I.ok.kind hg (Calls.loadGlobal_global (by rw[I.ok.glob];exact I.mod.glob.keeps I.bk) hm h) hd
theorem zX {E:VP_} {pins:List (Addr×Obj)} {s:Shared} {σ:St} {H:Hp} {x:Str} {u:Value} {pos:Pos} {Q:VP_} (I:Inv X pins σ H s) (hg:Gl X x) (hm:X.mg x=none) (hv:bootBuiltins x=some u) (h:Q u s)
  (hn:x ≠ "__name__" := by decide) (hd:(x==("__debug__" : Str))=false:=by decide):wpAny (model X.prog X.w) X.A (eval (.Name x pos) X.env) Q E s:=by
 obtain⟨mb,h1,h2⟩:=I.mod.blt;exact Calls.Name_function_global I.ok.kind hg (Calls.loadGlobal_builtin (by rw[I.ok.glob];exact I.mod.glob.keeps I.bk) hm (by rw[I.ok.blt];exact h1.keeps I.bk) ((h2 x hn).trans hv) h) hd
theorem nA {x:Str} {v:V} {u:Value} {pos:Pos} (hg:Gl X x) (hm:X.mg x=some u) (r:RelV v u) (hd:(x==("__debug__" : Str))=false:=by decide):PE X (.Name x pos) (tC v):=
 λ_ _ _ H _ I h=>yH I hg hm ⟨v,H,I,r,h⟩ hd
theorem Di {x:Str} {v:V} {u:Value} {pos:Pos} (hg:Gl X x) (hm:X.mg x=none) (hv:bootBuiltins x=some u) (r:RelV v u) (hn:x ≠ "__name__" := by decide) (hd:(x==("__debug__" : Str))=false:=by decide):PE X (.Name x pos) (tC v):=
 λ_ _ _ H _ I h=>zX I hg hm hv ⟨v,H,I,r,h⟩ hn hd
variable {a b:Expr} {ta tb:TE} {pos:Pos}
def PC (X:Cx) (op:CmpOp) (a b:Expr) (t:TE):Prop:=
 ∀ (pins:List (Addr×Obj)) (s:Shared) (σ:St) (H:Hp) (Q:VK),Inv X pins σ H s->t σ H Q →
  wpAny (model X.prog X.w) X.A (eval a X.env) (λv s₁=>wpAny (model X.prog X.w) X.A (eval b X.env) (λu s₂=>wpAny (model X.prog X.w) X.A (compareOp op v u) (EP X pins σ Q) X.xe s₂) X.xe s₁) X.xe s
theorem WQ (b:Expr) {op:CmpOp} (h:op≠.In) (h2:op≠.NotIn):behindInMarks op b=false:=by
 have e1:(op==CmpOp.In)=false:=by cases op<;>first|rfl|exact absurd rfl h
 have e2:(op==CmpOp.NotIn)=false:=by cases op<;>first|rfl|exact absurd rfl h2
 cases b<;>simp[behindInMarks,e1,e2]
def ais (ta:TE):TE:=λσ H Q=>ta σ H λx H1=>Q (.bl (decide (x=.non))) H1
theorem RelV.WR {x:V} {v:Value} (r:RelV x v):(v==Value.none)=decide (x=.non):=by
 cases x with
 |non=>cases r;rfl
 |bl _=>cases r;rfl
 |int _=>obtain⟨t,rfl⟩:=r;rfl
 |str _=>obtain⟨t,rfl⟩:=r;rfl
 |byt _=>obtain⟨t,rfl⟩:=r;rfl
 |flt _=>obtain⟨t,rfl⟩:=r;rfl
 |ref _=>cases r;rfl
 |ty _=>cases r;rfl
theorem adA {j pos'} (ha:PE X a ta):PC X .Is a (.Constant .none j pos') (ais ta):=by
 intro pins s σ H Q I h;refine gU (ha pins s σ H _ I h) λv s1 ⟨x,H1,I1,r1,q1⟩=>?_;exact Constant_none (is_none_gen ⟨.bl _,H1,I1,by rw[r1.WR];rfl,q1⟩)
def tB (t:TE):TT:=λσ H Q=>t σ H λx H1=>∃ c,x=.bl c/\Q c H1
theorem adB {op:CmpOp} {t:TE} (h:PC X op a b t) (h1:behindInMarks op b=false:=by first|exact WQ _ (by decide) (by decide)|rfl):PT X (.Compare a [op] [b] pos) (tB t):=by
 intro pins s σ H Q I hw;refine wpAny_isTrue_Compare1 (gU (h pins s σ H _ I hw) λv s1 h1=>gU h1 λu s2 h2=>gU h2 λc s3 ⟨x,H1,I1,r1,q1⟩=>?_) h1;obtain⟨d,rfl,q⟩:=q1;cases r1;exact ja ⟨H1,I1,q⟩
theorem JW {e:Expr} {t:TE} (h:PE X e t) (he:∀ whole,isTrue e X.env whole=(do let v <-whole;standAt e.pos;holding [v] (truthy v)):=by intro _;rfl):PT X e (tB t):=by
 intro pins s σ H Q I hw;refine isTrue_plain (gU (h pins s σ H _ I hw) λv s1 ⟨x,H1,I1,r1,q1⟩=>?_) (he _);obtain⟨d,rfl,q⟩:=q1;cases r1;exact ja ⟨H1,I1,q⟩
variable {tA tB':TT} {rest:List Expr}
def tOr (t u:TT):TT:=λσ H Q=>t σ H λc H1=>if c=true then Q true H1 else u σ H1 Q
def ait (t:TT):TT:=λσ H Q=>t σ H λc H1=>Q (!c) H1
theorem Qm (ha:PT X a tA):PW X (.BoolOp .Or [a] pos) tA:=by
 intro wh pins s σ H Q I h;refine isTrue_or (gU (ha pins s σ H Q I h) λc s1 e=>?_);cases c with
 |false=>exact isTrue_or_nil e
 |true=>exact e
theorem Mi (ha:PT X a tA) (hb:PW X (.BoolOp .Or (b::rest) pos) tB'):PW X (.BoolOp .Or (a::b::rest) pos) (tOr tA tB'):=by
 intro wh pins s σ H Q I h;refine isTrue_or (gU (ha pins s σ H _ I h) λc s1 ⟨H1,I1,q1⟩=>?_);cases c with
 |true=>exact⟨H1,I1,q1⟩
 |false=>exact hb wh pins s1 σ H1 Q I1 q1
theorem Qn (ha:PT X a tA):PT X (.UnaryOp .Not a pos) (ait tA):=by
 intro pins s σ H Q I h;exact isTrue_not (ha pins s σ H (λc H1=>Q (!c) H1) I h)
def afR (ta tb:TE):TE:=λσ H Q=>ta σ H λx H1=>∃ c,x=.bl c/\if c=true then tb σ H1 Q else Q (.bl false) H1
theorem adC {op} {t:TE} (h:PE X a t):PE X (.BoolOp op [a] pos) t:=λpins s σ H Q I hw=>BoolOp_one (h pins s σ H Q I hw)
theorem adD (ha:PE X a ta) (hb:PE X (.BoolOp .And (b::rest) pos) tb):PE X (.BoolOp .And (a::b::rest) pos) (afR ta tb):=by
 intro pins s σ H Q I h;refine BoolOp_and (gU (ha pins s σ H _ I h) λv s1 ⟨x,H1,I1,r1,q1⟩=>?_);obtain⟨c,rfl,q1⟩:=q1;cases r1;refine ja ?_;cases c with
 |true=>exact hb pins s1 σ H1 Q I1 q1
 |false=>exact⟨.bl false,H1,I1,rfl,q1⟩
def tIf (t:TT) (ta tb:TE):TE:=λσ H Q=>t σ H λc H1=>if c=true then ta σ H1 Q else tb σ H1 Q
theorem WT {c:Expr} (hc:PT X c tA) (ha:PE X a ta) (hb:PE X b tb):PE X (.IfExp c a b pos) (tIf tA ta tb):=by
 intro pins s σ H Q I h;refine wpAny_IfExp (gU (hc pins s σ H _ I h) λd s1 ⟨H1,I1,q1⟩=>?_);cases d with
 |true=>exact ha pins s1 σ H1 Q I1 q1
 |false=>exact hb pins s1 σ H1 Q I1 q1
end
end L2
namespace L2
open PySem PySem.Spec PyProof.Rows
def sX (K:FG_) (H:Hp) (a:Addr) (xs:List V):Prop:=
 Rd H a (.lst xs) ∨
  ∃ (o:Obj) (its:Array Value) (n:Nat),K.lookup a=some o/\o.cls=.type "list" ∧ o.dict=none/\o.data=.seq its n/\its.size<=sizeLine/\Vals xs its.toList
def yG (K:FG_) (H:Hp) (a:Addr) (xs:List V):Prop:=
 Rd H a (.tup xs) ∨
  ∃ (o:Obj) (its:Array Value) (n:Nat),K.lookup a=some o/\(o.cls=.type "tuple" ∧ o.dict=none)/\o.data=.seq its n/\its.size<=sizeLine/\Vals xs its.toList
def adE:Value->Option V
 |.none=>some .non
 |.bool b=>some (.bl b)
 |.int i _=>some (.int i)
 |.str x _=>some (.str x)
 |.bytes b _=>some (.byt b)
 |.float b _=>some (.flt b)
 |.ref a=>some (.ref a)
 |.type n=>some (.ty n)
 |_=>none
theorem RelV.abs {x:V} {u:Value} (r:RelV x u):adE u=some x:=by
 cases x with
 |non=>cases r;rfl
 |bl _=>cases r;rfl
 |int _=>obtain⟨t,rfl⟩:=r;rfl
 |str _=>obtain⟨t,rfl⟩:=r;rfl
 |byt _=>obtain⟨t,rfl⟩:=r;rfl
 |flt _=>obtain⟨t,rfl⟩:=r;rfl
 |ref _=>cases r;rfl
 |ty _=>cases r;rfl
theorem RelV.inj {x y:V} {u:Value} (r:RelV x u) (q:RelV y u):x=y:=JI (r.abs.symm.trans q.abs)
theorem Vals.inj:∀ {xs ys:List V} {us:List Value},Vals xs us->Vals ys us->xs=ys
 |_,_,_,.nil,.nil=>rfl
 |_,_,_,.cons r t,.cons r' t'=>by rw[r.inj r',Vals.inj t t']
section
variable {X:Cx} {pins:List (Addr×Obj)} {σ:St} {H:Hp} {s:Shared} {a:Addr} {xs ys:List V}
theorem sX.of {K:FG_} (h:H a=some (.lst xs)):sX K H a xs:=.inl (.inl h)
theorem yG.of {K:FG_} (h:H a=some (.tup xs)):yG K H a xs:=.inl (.inl h)
theorem Inv.list (I:Inv X pins σ H s) (h:sX X.K H a xs):∃ its:List Value,Vals xs its/\PlainL s.heap a its.toArray/\xs.length<=sizeLine:=by
 rcases h with h|⟨o,its,n,hk,hc,hd,hs,hz,r⟩
 ·obtain⟨z,its,n,r,e⟩:=h.ok I.hok;exact⟨its,r,⟨_,n,e,rfl,rfl,rfl⟩,z⟩
 ·refine⟨its.toList,r,⟨o,n,I.HJ a o hk,hc,hd,by simpa using hs⟩,?_⟩;have e:=r.length;simp only[qE] at e;omega
theorem Inv.tuple (I:Inv X pins σ H s) (h:yG X.K H a xs):∃ its:List Value,Vals xs its/\IsTup s.heap a its.toArray/\xs.length<=sizeLine:=by
 rcases h with h|⟨o,its,n,hk,hc,hs,hz,r⟩
 ·obtain⟨z,its,r,p⟩:=h.ok I.hok;exact⟨its,r,p.weak,z⟩
 ·refine⟨its.toList,r,⟨o,I.HJ a o hk,hc.1,n,by simpa using hs⟩,?_⟩;have e:=r.length;simp only[qE] at e;omega
theorem Inv.Ei (I:Inv X pins σ H s) (h:sX X.K H a xs) (h':sX X.K H a ys):xs=ys:=by
 obtain⟨its,r,⟨o,n,e,_,_,d⟩,_⟩:=I.list h;obtain⟨its',r',⟨o',n',e',_,_,d'⟩,_⟩:=I.list h';rw[e] at e';cases e';rw[d] at d';injection d' with d1 _;have:its=its':=by simpa using congrArg Array.toList d1
 subst this;exact r.inj r'
theorem Inv.IV (I:Inv X pins σ H s) (h:yG X.K H a xs) (h':yG X.K H a ys):xs=ys:=by
 obtain⟨its,r,⟨o,e,_,n,d⟩,_⟩:=I.tuple h;obtain⟨its',r',⟨o',e',_,n',d'⟩,_⟩:=I.tuple h';rw[e] at e';cases e';rw[d] at d';injection d' with d1 _;have:its=its':=by simpa using congrArg Array.toList d1
 subst this;exact r.inj r'
end
abbrev Cx.wish (X:Cx) (E:VP_):Cx:={ X with xe:=E }
abbrev Cx.Mj (X:Cx):Cx:=X.wish λ_ _=>False
theorem Cx.Ok.wish {X:Cx} (ok:X.Ok) (E:VP_):(X.wish E).Ok:=
 ⟨ok.mod,ok.kind,ok.glob,ok.blt,ok.above,ok.inj,ok.has,ok.cab,ok.hd,ok.frames,ok.stk,ok.exf,ok.bs,ok.Wn,ok.Uo,ok.WK,ok.wX,ok.frf⟩
theorem Cx.Ok.jK {X:Cx} {E:VP_} (ok:(X.wish E).Ok):X.Ok:=
 ⟨ok.mod,ok.kind,ok.glob,ok.blt,ok.above,ok.inj,ok.has,ok.cab,ok.hd,ok.frames,ok.stk,ok.exf,ok.bs,ok.Wn,ok.Uo,ok.WK,ok.wX,ok.frf⟩
section
variable {X:Cx} {pins:List (Addr×Obj)} {σ:St} {H:Hp} {s:Shared} {E:VP_}
theorem Inv.wish (I:Inv X pins σ H s) (E:VP_):Inv (X.wish E) pins σ H s:=⟨I.ok.wish E,I.os,I.bare,I.base,I.loc,I.cell,I.free,I.jP,I.pin,I.hok,I.len⟩
theorem Inv.jK (I:Inv (X.wish E) pins σ H s):Inv X pins σ H s:=⟨I.ok.jK,I.os,I.bare,I.base,I.loc,I.cell,I.free,I.jP,I.pin,I.hok,I.len⟩
theorem SP.jK {D:Ends} {f:Flow} {s':Shared} (h:SP (X.wish E) pins D f s'):SP X pins D f s':=by
 cases f with
 |next=>obtain⟨σ',H',I,q⟩:=h;exact⟨σ',H',I.jK,q⟩
 |brk=>obtain⟨σ',H',I,q⟩:=h;exact⟨σ',H',I.jK,q⟩
 |cont=>obtain⟨σ',H',I,q⟩:=h;exact⟨σ',H',I.jK,q⟩
 |ret u=>obtain⟨v,σ',H',I,r,q⟩:=h;exact⟨v,σ',H',I.jK,r,q⟩
theorem PE.Mj {e:Expr} {t:TE} (h:PE X.Mj e t):PE X e t:=λpins s σ H Q I hw=>
 ZN (h pins s σ H Q (I.wish _) hw) (λ_ _ ⟨v,H',I',r,q⟩=>⟨v,H',I'.jK,r,q⟩) λ_ _ z=>False.elim z
theorem PT.Mj {e:Expr} {t:TT} (h:PT X.Mj e t):PT X e t:=λpins s σ H Q I hw=>
 ZN (h pins s σ H Q (I.wish _) hw) (λ_ _ ⟨H',I',q⟩=>⟨H',I'.jK,q⟩) λ_ _ z=>False.elim z
theorem zU.Mj {st:List Stmt} {t:TS} (h:zU X.Mj st t):zU X st t:=λpins s σ H D I hw=>
 ZN (h pins s σ H D (I.wish _) hw) (λ_ _ q=>q.jK) λ_ _ z=>False.elim z
end
section
variable {X:Cx} {st:Stmt} {rest:List Stmt} {t u:TS} {e:Expr} {te:TE} {pos:Pos}
def afS:TS:=λD σ H=>D.nx σ H
def aiu (t u:TS):TS:=λD σ H=>t { D with nx:=u D } σ H
theorem Dj:zU X [] afS:=λ_ _ σ H _ I h=>kC ⟨σ,H,I,h⟩
theorem fZ (h1:PS X st t) (h2:zU X rest u):zU X (st::rest) (aiu t u):=by
 intro pins s σ H D I h;refine k8 (gU (h1 pins s σ H { D with nx:=u D } I h) λf s1 q=>?_);cases f with
 |next=>
  obtain⟨σ',H',I',q⟩:=q;exact h2 pins s1 σ' H' D I' q
 |ret v=>exact q
 |brk=>exact q
 |cont=>exact q
theorem yI (h1:PS X st t):zU X [st] t:=by
 intro pins s σ H D I h;refine k8 (gU (h1 pins s σ H D I h) λf s1 q=>?_);cases f with
 |next=>exact kC q
 |ret v=>exact q
 |brk=>exact q
 |cont=>exact q
theorem Inv.quiet {pins:List (Addr×Obj)} {σ:St} {H:Hp} {s:Shared} (I:Inv X pins σ H s):interactive X.env=false:=by simp[interactive,I.ok.kind]
def afT (te:TE):TS:=λD σ H=>te σ H λ_ H1=>D.nx σ H1
theorem Dk (he:PE X e te) (hs:swapsWith e none pos.line X.env=pure false:=by rfl):PS X (.Expr e pos) (afT te):=by
 intro pins s σ H D I h;exact wpAny_Expr_any (gU (he pins s σ H _ I h) λv s1 ⟨x,H1,I1,r1,q1⟩=>⟨σ,H1,I1,q1⟩) I.quiet hs
def aiv (te:TE):TS:=λD σ H=>te σ H D.rt
theorem JX (he:PE X e te):PS X (.Return (some e) pos) (aiv te):=by
 intro pins s σ H D I h;exact wpAny_Return_some (gU (he pins s σ H _ I h) λv s1 ⟨x,H1,I1,r1,q1⟩=>⟨x,σ,H1,I1,r1,q1⟩)
def aiw (c:TT) (t u:TS):TS:=λD σ H=>c σ H λb H1=>if b=true then t D σ H1 else u D σ H1
theorem Ml {c:Expr} {a b:List Stmt} {tc:TT} (hc:PT X c tc) (ha:zU X a t) (hb:zU X b u):PS X (.If c a b pos) (aiw tc t u):=by
 intro pins s σ H D I h;refine wpAny_If (gU (hc pins s σ H _ I h) λd s1 ⟨H1,I1,q1⟩=>?_);cases d with
 |true=>exact ha pins s1 σ H1 D I1 q1
 |false=>exact hb pins s1 σ H1 D I1 q1
def Qo:TS:=λ_ _ _=>False
theorem zY {sts:List Stmt}:zU X sts Qo:=λ_ _ _ _ _ _ h=>h.elim
end
abbrev TG:=V->St->Hp->(St->Hp->Prop)->Prop
abbrev TGs:=List V->St->Hp->(St->Hp->Prop)->Prop
def PG (X:Cx) (target:Expr) (t:TG):Prop:=
 ∀ (pins:List (Addr×Obj)) (s:Shared) (σ:St) (H:Hp) (v:V) (u:Value) (Q:St->Hp->Prop),Inv X pins σ H s->RelV v u->t v σ H Q →
  wpAny (model X.prog X.w) X.A (assign target X.env u) (λ_ s'=>∃ σ' H',Inv X pins σ' H' s'/\Q σ' H') X.xe s
def R0 (X:Cx) (ts:List Expr) (t:TGs):Prop:=
 ∀ (pins:List (Addr×Obj)) (s:Shared) (σ:St) (H:Hp) (vs:List V) (us:List Value) (Q:St->Hp->Prop),Inv X pins σ H s->Vals vs us->t vs σ H Q →
  wpAny (model X.prog X.w) X.A (assignInOrder ((assignEach ts X.env).map (·.2)) us) (λ_ s'=>∃ σ' H',Inv X pins σ' H' s'/\Q σ' H') X.xe s
section
variable {X:Cx} {pos:Pos}
def R3 (i:Nat):TG:=λv σ H Q=>Q (σ.set i (some v)) H
theorem Dl {i:Nat} {x:Str} (hN:X.N.Nodup) (hi:X.N[i]?=some x) (hx:Loc X.env.scope x) (hf:X.fn x=true\/X.env.scope.names.lookup x=some .local:=by first|exact .inl rfl|exact .inr rfl|assumption):PG X (.Name x pos) (R3 i):=by
 intro pins s σ H v u Q I r h;exact wpAny_assign_Name (pO I hN hi hx r (λs' I'=>⟨_,H,I',h⟩) hf)
def aix:TGs:=λvs σ H Q=>vs=[]/\Q σ H
def afU (t:TG) (u:TGs):TGs:=λvs σ H Q=>∃ v r,vs=v::r/\t v σ H λσ' H'=>u r σ' H' Q
theorem R4:R0 X [] aix:=by
 intro pins s σ H vs us Q I r h;obtain⟨e,h⟩:=h;subst e;cases r;exact assignInOrder_nil ⟨σ,H,I,h⟩
theorem Ek {e:Expr} {es:List Expr} {t:TG} {u:TGs} (h1:PG X e t) (h2:R0 X es u)
  (hs:(assignEach (e::es) X.env).map (·.2)=assign e X.env::(assignEach es X.env).map (·.2):=by rfl):R0 X (e::es) (afU t u):=by
 intro pins s σ H vs us Q I r h;obtain⟨v,vr,e1,h⟩:=h;subst e1;cases r with
 |cons r rr=>
  rw[hs];refine assignInOrder_cons (gU (h1 pins s σ H _ _ _ I r h) λ_ s1 ⟨σ1,H1,I1,q1⟩=>?_);exact h2 pins s1 σ1 H1 _ _ Q I1 rr q1
def aiy (K:FG_) (n:Nat) (t:TGs):TG:=λv σ H Q=>∃ a xs,v=.ref a/\yG K H a xs/\xs.length=n/\t xs σ H Q
theorem WW {es:List Expr} {k:Nat} {t:TGs} {n:Nat} (hc:X.calm=true) (h:R0 X es t)
  (hn:(assignEach es X.env).length=n:=by rfl) (hst:(assignEach es X.env).findIdx? (·.1)=none:=by rfl):PG X (.Tuple es k pos) (aiy X.K n t):=by
 intro pins s σ H v u Q I r hw;obtain⟨a,xs,e1,hq,hl,hw⟩:=hw;subst e1;cases r;obtain⟨its,rv,ht,hz⟩:=I.tuple hq;refine assign_Tuple_tuple (I.ok.hd hc) ht (by simp[hn,<-hl,rv.length]) hst λh' hx=>?_;have I1:Inv X pins σ H { s with heap:=h' }:=I.kept (t':=s.toks) λb o e=>hx b o (Zl (zv e)) e;exact h pins _ σ H xs _ Q I1 (by simpa using rv) hw
def afV (te:TE) (g:TG):TS:=λD σ H=>te σ H λx H1=>g x σ H1 D.nx
theorem adF {tg e:Expr} {te:TE} {g:TG} (he:PE X e te) (hg:PG X tg g) (hs:swapsWithSole [tg] e pos.line X.env=pure false:=by rfl) (hw:swappedStores [tg] e X.env=pure none:=by rfl)
  (h1:(assignEach [tg] X.env).map (·.2)=[assign tg X.env]:=by rfl):PS X (.Assign [tg] e pos) (afV te g):=by
 intro pins s σ H D I h;refine wpAny_Assign_stores (gU (he pins s σ H _ I h) λv s1 ⟨x,H1,I1,r1,q1⟩=>?_) hs hw;rw[h1];exact gU (hg pins s1 σ H1 x v _ I1 r1 q1) λ_ s2 q=>q
theorem uU {i:Nat} {x:Str} {e:Expr} {te:TE} {pos':Pos} (hN:X.N.Nodup) (hi:X.N[i]?=some x) (hx:Loc X.env.scope x) (he:PE X e te) (hs:swapsWith e (some (.Name x pos')) pos.line X.env=pure false:=by rfl) (hf:X.fn x=true\/X.env.scope.names.lookup x=some .local:=by first|exact .inl rfl|exact .inr rfl|assumption) :
  PS X (.Assign [.Name x pos'] e pos) (afV te (R3 i)):=by
 intro pins s σ H D I h;refine wpAny_Assign_Name (gU (he pins s σ H _ I h) λv s1 ⟨y,H1,I1,r1,q1⟩=>?_) hs;exact pO I1 hN hi hx r1 (λs2 I2=>⟨_,H1,I2,q1⟩) hf
def aiz (i j:Nat) (ta:TA):TS:=λD σ H=>ta σ H λvs H1=>∃ v w,vs=[v,w]/\D.nx ((σ.set i (some v)).set j (some w)) H1
theorem adG {i j:Nat} {x y:Str} {a b:Expr} {ta:TA} {px py pt:Pos} {kt k2 pt2} (hc:X.calm=true) (hN:X.N.Nodup) (hi:X.N[i]?=some x) (hj:X.N[j]?=some y) (hij:i≠j)
  (hx:X.env.scope.names.lookup x=some .local) (hy:X.env.scope.names.lookup y=some .local) (ha:PA X [a,b] ta)
  (hw:swappedStores [.Tuple [.Name x px,.Name y py] kt pt] (.Tuple [a,b] k2 pt2) X.env=pure (some [x,y]))
  (hs:swapsWithSole [.Tuple [.Name x px,.Name y py] kt pt] (.Tuple [a,b] k2 pt2) pos.line X.env=pure false:=by rfl) :
  PS X (.Assign [.Tuple [.Name x px,.Name y py] kt pt] (.Tuple [a,b] k2 pt2) pos) (aiz i j ta):=by
 intro pins s σ H D I h;rw[exec_Assign_arm];refine zb (Ki ?_);rw[hs];refine zb (ze ?_);rw[zC (by decide)];refine zb (Tuple_ (gU (ha _ pins s σ H _ I h) λus s1 ⟨vs,H1,I1,r1,q1⟩=>?_));obtain⟨v,w,e1,q1⟩:=q1;subst e1;obtain⟨u1,u2,rfl,rv,R5⟩:∃ u1 u2,us=[u1,u2]/\RelV v u1/\RelV w u2:=by
  cases r1 with
  |cons p q=>
   cases q with
   |cons p' q'=>
    cases q';exact⟨_,_,rfl,p,p'⟩
 refine qh ?_ (by show 2<=sizeLine;decide);have I2:Inv X pins σ H1 { s1 with heap:=s1.heap.push { cls:=.type "tuple", data:=.seq [u1,u2].toArray } }:=I1.kept (t':=s1.toks) λb o e=>zd _ e;rw[hw];refine zb (ze ?_);show wpAny (model X.prog X.w) X.A (do rule "assign.swapped-stores"; let items <-unpackItems (.ref s1.heap.objs.size) 2 none;assignInOrder [λv=>bindName X.env y v,λv=>bindName X.env x v] items.reverse;pure Flow.next) _ _ _;refine zb (KM (zb (unpackItems_tuple (items:=#[u1,u2]) (I.ok.hd hc) (IsTup.new s1.heap _) λh' hx'=>?_)));have I3:=I2.kept (h':=h') (t':=s1.toks) λb o e=>hx' b o (Zl (zv e)) e;show wpAny _ _ (assignInOrder [λv=>bindName X.env y v,λv=>bindName X.env x v] [u2,u1] >>= λ_=>pure Flow.next) _ _ _;refine zb (assignInOrder_cons (wpAny_bindName (pO I3 hN hj (.inl hy) R5 (λs2 I4=>?_) (.inr hy))));refine assignInOrder_cons (wpAny_bindName (pO I4 hN hi (.inl hx) rv (λs3 I5=>assignInOrder_nil (ze ?_)) (.inr hx)));rw[List.set_comm _ _ (Q2 hij)] at I5;exact⟨_,H1,I5,q1⟩
def adI (c:TT) (tb:TS):TS:=λD σ H=>∃ W:Nat->St->Hp->Prop,(∃ m,W m σ H)/\∀ m σ H,W m σ H →
 c σ H λb H1=>if b=true then ∃ N:St->Hp->Prop,(∀ σ' H',N σ' H'->∃ m',m' < m/\W m' σ' H')/\tb { D with nx:=N,ct:=N,bk:=D.nx } σ H1 else D.nx σ H1
theorem WX {c:Expr} {body:List Stmt} {tc:TT} {tb:TS} (hp:PassesOwn (model X.prog X.w) X.A X.env X.xe) (hc:PT X c tc) (hb:zU X body tb):PS X (.While c body [] pos) (adI tc tb):=by
 intro pins s σ H D I h;obtain⟨W,⟨m0,w0⟩,turn⟩:=h;refine wpAny_While (codeAny_whileLoop (λn s'=>∃ σ' H',Inv X pins σ' H' s'/\W n σ' H') ?_ m0 ⟨σ,H,I,w0⟩);rintro n s1 ⟨σ1,H1,I1,w1⟩;refine km hp (gU (hc pins s1 σ1 H1 _ I1 (turn n σ1 H1 w1)) λb s2 ⟨H2,I2,q2⟩=>?_);cases b with
 |true=>
  obtain⟨N,hN,q2⟩:=q2;rw[zh rfl];refine km hp (gU (hb pins s2 σ1 H2 _ I2 q2) λf s3 q3=>?_);cases f with
  |next=>
   obtain⟨σ3,H3,I3,n3⟩:=q3;obtain⟨m',hm,w3⟩:=hN σ3 H3 n3;exact⟨m',hm,σ3,H3,I3,w3⟩
  |cont=>
   obtain⟨σ3,H3,I3,n3⟩:=q3;obtain⟨m',hm,w3⟩:=hN σ3 H3 n3;exact⟨m',hm,σ3,H3,I3,w3⟩
  |brk=>exact q3
  |ret v=>exact q3
 |false=>
  rw[zC zk];exact kC ⟨σ1,H2,I2,q2⟩
end
structure It where
 go:Nat->Hp->Prop
 yld:Nat->Hp->V->Hp->Prop
 stop:Nat->Hp->Prop
def uO (X:Cx) (pins:List (Addr×Obj)) (H:Hp) (b:Addr):Prop:=
 H b=none/\b≠X.env.locals/\b∉X.fs/\(b∈X.ex\/X.s₀.heap.objs.size<=b)/\(∀ x c,X.env.cells.lookup x=some c->c≠b)/\∀ p∈X.pn++pins,p.1≠b
theorem Inv.Ur {X:Cx} {pins:List (Addr×Obj)} {σ:St} {H H':Hp} {s:Shared} {b:Addr} (I:Inv X pins σ H s) (hb:s.heap.objs.size<=b) (hn:H' b=none):uO X pins H' b:=by
 refine⟨hn,Q3 (ZH I.lt hb),I.aiq hb,.inr (zI I.sz hb),λx c e z=>?_,λp hp z=>?_⟩
 ·obtain⟨v,q⟩:=I.cell x c e;exact absurd (ZH q.lt (by rw[z];exact hb)) (JU _)
 ·exact absurd (ZH (zv (I.pin p hp).1) (by rw[z];exact hb)) (JU _)
structure Turn (P:Program) (w:World) (K:FG_) (tg:Expr) (J:It) (fp:List Addr) (it:Addr) (tn:Nat->Heap->Prop):Prop where
 mem:it∈fp
 obj:∀ i h,tn i h->∀ b∈fp,∃ o,h.get? b=some o/\∀ v,o.data≠.cell v
 keep:∀ i h h',tn i h->(∀ b∈fp,∀ o,h.get? b=some o->h'.get? b=some o)->tn i h'
 item:∀ (X:Cx),X.prog=P->X.w=w->X.K=K->X.calm=true->∀ (i:Nat) (pins:List (Addr×Obj)) (s:Shared) (σ:St) (H:Hp) (E:VP_),Inv X pins σ H s->(∀ b∈fp,uO X pins H b)->tn i s.heap->J.go i H →
  wpAny (model P w) X.A (pyNext (.ref it)) (λr s1=>∃ u,r=some u ∧
   wpAny (model P w) X.A (letOwnedTupleGo tg (.ref it) u) (λ_ s2=>∃ x H',Inv X pins σ H' s2/\RelV x u/\J.yld i H x H'/\tn (i+1) s2.heap/\∀ b∈fp,H' b=none) E s1) E s
 done:∀ (X:Cx),X.prog=P->X.w=w->X.K=K->X.calm=true->∀ (i:Nat) (pins:List (Addr×Obj)) (s:Shared) (σ:St) (H:Hp) (E:VP_),Inv X pins σ H s->(∀ b∈fp,uO X pins H b)->tn i s.heap->J.stop i H →
  wpAny (model P w) X.A (pyNext (.ref it)) (λr s1=>r=none/\Inv X pins σ H s1) E s
 self:∀ (A:Around) (i:Nat) (s:Shared) (Q:VP_) (E:VP_),tn i s.heap->Q (.ref it) s->wpAny (model P w) A (pyIter (.ref it)) Q E s
abbrev TI:=St->Hp->(It->Hp->Prop)->Prop
def PIE (X:Cx) (pins:List (Addr×Obj)) (σ:St) (tg:Expr) (R:It->Hp->Prop) (itv:Value) (s2:Shared):Prop:=
 ∃ (it:Addr) (fp:List Addr) (tn:Nat->Heap->Prop) (J:It) (H':Hp),itv=.ref it/\Inv X pins σ H' s2/\Turn X.prog X.w X.K tg J fp it tn/\tn 0 s2.heap/\(∀ b∈fp,uO X pins H' b)/\R J H'
def PI (X:Cx) (tg iter:Expr) (wi:TI):Prop:=
 ∀ (pins:List (Addr×Obj)) (s:Shared) (σ:St) (H:Hp) (R:It->Hp->Prop),Inv X pins σ H s->wi σ H R →
  wpAny (model X.prog X.w) X.A (eval iter X.env) (λv s1=>wpAny (model X.prog X.w) X.A (pyIter v) (PIE X pins σ tg R) X.xe s1) X.xe s
theorem Mp {M:Model} {A:Around} {E:VP_} {s:Shared} {tg:Expr} {it:Addr} {u:Value} {o:Obj} {n:String} {vs:Array Value} {Q:Unit->Shared->Prop} (ho:s.heap.get? it=some o) (hc:o.cls=.type n) (hd:o.data=.fields vs)
  (hn:["enumerate", "zip", "dict_itemiterator", "dict_reverseitemiterator", "odict_iterator", "itertools.zip_longest", "itertools.pairwise"].contains n=false) (hQ:Q () s):wpAny M A (letOwnedTupleGo tg (.ref it) u) Q E s:=by
 unfold letOwnedTupleGo;cases tg<;>first
  |exact ze hQ
  |(cases u<;>first
    |exact ze hQ
    |(refine zb (KO ho ?_)
      rw[hc,hd];show wpAny M A (if(["enumerate", "zip", "dict_itemiterator", "dict_reverseitemiterator", "odict_iterator", "itertools.zip_longest", "itertools.pairwise"].contains n&&vs[0]?==some (rawInt _))=true then _ else _) Q E s;rw[zC (by intro h;rw[hn,Bool.false_and] at h;cases h)];exact ze hQ))
def Itl (K:FG_) (a:Addr):It:=
 ⟨λi H=>∃ xs x,sX K H a xs/\xs[i]?=some x,λi H x H'=>H'=H/\∀ xs,sX K H a xs->xs[i]?=some x,λi H=>∃ xs,sX K H a xs/\xs.length<=i⟩
def Itt (K:FG_) (a:Addr):It:=
 ⟨λi H=>∃ xs x,yG K H a xs/\xs[i]?=some x,λi H x H'=>H'=H/\∀ xs,yG K H a xs->xs[i]?=some x,λi H=>∃ xs,yG K H a xs/\xs.length<=i⟩
def Itr (lo:Int) (n:Nat):It:=⟨λi _=>i < n,λi H x H'=>H'=H/\x=.int (lo+i),λi _=>n<=i⟩
theorem Us {P:Program} {w:World} {K:FG_} {tg:Expr} (a it:Addr):Turn P w K tg (Itl K a) [it] it (λi h=>h.IsListIter it a i) where
 mem:=by simp
 obj:=λi h st b hb=>by
  have e:b=it:=by simpa using hb
  subst e;obtain⟨o,e,c,d⟩:=st;exact⟨o,e,λv z=>by rw[d] at z;cases z⟩
 keep:=λi h h' st k=>st.at λo e=>k it (by simp) o e
 item:=by
  intro X hP hw hK hc i pins s σ H E I hf st hg;subst hP hw hK;obtain⟨xs,x,hq,hx⟩:=hg;obtain⟨its,rv,p,hz⟩:=I.list hq;obtain⟨u,hu,ru⟩:=rv.get hx;obtain⟨f0,f1,f2,f3,f4,f5⟩:=hf it (by simp);refine wpAny_pyNext_list_item st p.isList (x:=u) (by simpa using hu) λh' st' sb=>?_;have I1:Inv X pins σ H { s with heap:=h' }:=I.turned (t':=s.toks) (λb o hb e=>(sb.2 b hb).trans e) f0 f1 f3 f4 f5;obtain⟨o,e,c,d⟩:=id st';exact⟨u,rfl,Mp (s:={ s with heap:=h' }) e c d (by decide) ⟨x,H,I1,ru,⟨rfl,λys hy=>by rw[I.Ei hy hq];exact hx⟩,st',λb hb=>(hf b hb).1⟩⟩
 done:=by
  intro X hP hw hK hc i pins s σ H E I hf st hg;subst hP hw hK;obtain⟨xs,hq,hx⟩:=hg;obtain⟨its,rv,p,hz⟩:=I.list hq;obtain⟨f0,f1,f2,f3,f4,f5⟩:=hf it (by simp);have hl:=rv.length;exact wpAny_pyNext_list_end (I.ok.hd hc) st p.isList (by simp;omega) λh' eb=>⟨rfl,I.turned (t':=s.toks) (λb o hb e=>eb b o hb e) f0 f1 f3 f4 f5⟩
 self:=λ_ _ _ _ _ st h=>wpAny_pyIter_listiter st h
theorem Qp {P:Program} {w:World} {K:FG_} {tg:Expr} (a it:Addr):Turn P w K tg (Itt K a) [it] it (λi h=>h.IsTupleIter it a i) where
 mem:=by simp
 obj:=λi h st b hb=>by
  have e:b=it:=by simpa using hb
  subst e;obtain⟨o,e,c,d⟩:=st;exact⟨o,e,λv z=>by rw[d] at z;cases z⟩
 keep:=λi h h' st k=>st.at λo e=>k it (by simp) o e
 item:=by
  intro X hP hw hK hc i pins s σ H E I hf st hg;subst hP hw hK;obtain⟨xs,x,hq,hx⟩:=hg;obtain⟨its,rv,p,hz⟩:=I.tuple hq;obtain⟨u,hu,ru⟩:=rv.get hx;obtain⟨f0,f1,f2,f3,f4,f5⟩:=hf it (by simp);refine wpAny_pyNext_tuple_item st (show s.heap.IsTuple a its.toArray from p) (x:=u) (by simpa using hu) λh' st' sb=>?_;have I1:Inv X pins σ H { s with heap:=h' }:=I.turned (t':=s.toks) (λb o hb e=>(sb.2 b hb).trans e) f0 f1 f3 f4 f5;obtain⟨o,e,c,d⟩:=id st';exact⟨u,rfl,Mp (s:={ s with heap:=h' }) e c d (by decide) ⟨x,H,I1,ru,⟨rfl,λys hy=>by rw[I.IV hy hq];exact hx⟩,st',λb hb=>(hf b hb).1⟩⟩
 done:=by
  intro X hP hw hK hc i pins s σ H E I hf st hg;subst hP hw hK;obtain⟨xs,hq,hx⟩:=hg;obtain⟨its,rv,p,hz⟩:=I.tuple hq;obtain⟨f0,f1,f2,f3,f4,f5⟩:=hf it (by simp);have hl:=rv.length;exact wpAny_pyNext_tuple_end (I.ok.hd hc) st (show s.heap.IsTuple a its.toArray from p) (by simp;omega) λh' eb=>⟨rfl,I.turned (t':=s.toks) (λb o hb e=>eb b o hb e) f0 f1 f3 f4 f5⟩
 self:=λ_ _ _ _ _ st h=>wpAny_pyIter_tupleiter st h
theorem Qq {P:Program} {w:World} {K:FG_} {tg:Expr} (it:Addr) (lo:Int) (n:Nat):Turn P w K tg (Itr lo n) [it] it (λi h=>IsRangeIter h it (lo+(i:Nat) * 1) ((n:Int) - (i:Nat)) 1) where
 mem:=by simp
 obj:=λi h st b hb=>by
  have e:b=it:=by simpa using hb
  subst e;exact⟨_,st,λv z=>by
   have z':Data.fields _=Data.cell v:=z;cases z'⟩
 keep:=λi h h' st k=>k it (by simp) _ st
 item:=by
  intro X hP hw hK hc i pins s σ H E I hf st hg;subst hP hw hK;obtain⟨f0,f1,f2,f3,f4,f5⟩:=hf it (by simp);have W:=Walks.range (prog:=X.prog) (w:=X.w) (I.ok.hd hc) it lo 1 n;refine W.item i s _ _ hg st λv h' tk hv st' kk=>?_;obtain⟨t,rfl⟩:=hv;have I1:Inv X pins σ H { s with heap:=h',toks:=tk }:=I.turned (λb o hb e=>kk b o (by simpa using hb) e) f0 f1 f3 f4 f5;refine⟨_,rfl,Mp (s:={ s with heap:=h',toks:=tk }) (n := "range_iterator") st' rfl rfl (by decide) ⟨.int (lo+i),H,I1,⟨t,?_⟩,⟨rfl,rfl⟩,st',λb hb=>(hf b hb).1⟩⟩;rw[Int.mul_one]
 done:=by
  intro X hP hw hK hc i pins s σ H E I hf st hg;subst hP hw hK;obtain⟨f0,f1,f2,f3,f4,f5⟩:=hf it (by simp);exact wpAny_pyNext_range_end (I.ok.hd hc) st (by have:n<=i:=hg;omega) λh' eb=>⟨rfl,I.turned (t':=s.toks) (λb o hb e=>eb b o hb e) f0 f1 f3 f4 f5⟩
 self:=λ_ _ _ _ _ st h=>wpAny_pyIter_rangeiter st h
end L2
namespace L2
open PySem PySem.Spec PyProof.Rows
section
variable {X:Cx} {tg:Expr}
theorem WY {pins:List (Addr×Obj)} {σ:St} {H:Hp} {s:Shared} {R:It->Hp->Prop} {E:VP_} {lo hi:Int} {t u v:Tok} {tk:Nat} (I:Inv X pins σ H s) (h1 : -(2 ^ 62)<=lo) (h2:lo < 2 ^ 62) (h3 : -(2 ^ 62)<=hi) (h4:hi < 2 ^ 62)
  (q:R (Itr lo (hi - lo).toNat) H):wpAny (model X.prog X.w) X.A (pyIter (.ref s.heap.objs.size)) (PIE X pins σ tg R) E { s with heap:=s.heap.push { cls:=.type "range", data:=.fields #[.int lo t,.int hi u,.int 1 v] },toks:=tk }:=by
 refine wpAny_pyIter_range (IsRange.new ..) (small_one h1 h2 h3 h4) ?_;have I1:Inv X pins σ H { s with heap:=s.heap.push { cls:=.type "range", data:=.fields #[.int lo t,.int hi u,.int 1 v] },toks:=tk }:=I.kept λb o e=>zd _ e;refine⟨(s.heap.push { cls:=.type "range", data:=.fields #[.int lo t,.int hi u,.int 1 v] }).objs.size,[(s.heap.push { cls:=.type "range", data:=.fields #[.int lo t,.int hi u,.int 1 v] }).objs.size],_,_,H,rfl,
  I1.kept (t':=tk) λb o e=>zd _ e,Qq _ lo (hi - lo).toNat,?_,λb hb=>?_,q⟩
 ·have e1:lo+((0:Nat):Int) * 1=lo:=by simp
  have e2:(((hi - lo).toNat:Nat):Int) - ((0:Nat):Int)=Builtin.Range.rangeSize lo hi 1:=by rw[rangeSize_one];split<;>omega
  show IsRangeIter _ _ (lo+((0:Nat):Int) * 1) ((((hi - lo).toNat:Nat):Int) - ((0:Nat):Int)) 1;rw[e1,e2];exact zl _ rfl
 ·have e:b=(s.heap.push { cls:=.type "range", data:=.fields #[.int lo t,.int hi u,.int 1 v] }).objs.size:=by simpa using hb
  subst e;exact I1.Ur (zi _) (I1.hok.fresh (zi _))
def afX (ta:TA):TI:=λσ H R=>ta σ H λvs H1=>∃ j:Int,vs=[.int j] ∧ -(2 ^ 62)<=j/\j < 2 ^ 62/\R (Itr 0 j.toNat) H1
theorem Ut {a:Expr} {ta:TA} {p pos:Pos} (hg:Gl X "range") (hm:X.mg "range" = none) (ha:PA X [a] ta) (hs:starEach [a] X.env=[(false,eval a X.env)]:=by rfl):PI X tg (.Call (.Name "range" p) [a] [] pos) (afX ta):=by
 intro pins s σ H R I h;refine Call_ (zX I hg hm boot_range (PyProof.Rows.callWith_type1 (gU (ha pos pins s σ H _ I h) λus s1 ⟨vs,H1,I1,r1,q1⟩=>?_) hs rfl));obtain⟨j,e,q1,q2,q⟩:=q1;subst e;cases r1 with
 |cons r rr=>
  cases rr;obtain⟨t,rfl⟩:=r;exact call_range_1 (WY I1 (by omega) (by omega) q1 q2 (by simpa using q))
def aiC (wi:TI) (g:TG) (tb:TS):TS:=λD σ H=>wi σ H λJ H1=>∃ W:Nat->Nat->St->Hp->Prop,(∃ m,W 0 m σ H1)/\∀ i m σ H,W i m σ H →
 (J.stop i H/\D.nx σ H)\/(J.go i H/\∃ N:St->Hp->Prop,(∀ σ' H',N σ' H'->∃ m',m' < m/\W (i+1) m' σ' H')/\∀ x H',J.yld i H x H'->g x σ H' λσ2 H2=>tb { D with nx:=N,ct:=N,bk:=D.nx } σ2 H2)
def zZ (fp:List Addr) (h:Heap):List (Addr×Obj):=fp.filterMap λb=>(h.get? b).map λo=>(b,o)
theorem tu {fp:List Addr} {h:Heap} {b:Addr} {o:Obj} (hb:b∈fp) (e:h.get? b=some o):(b,o)∈zZ fp h:=List.mem_filterMap.mpr ⟨b,hb,by rw[e];rfl⟩
theorem Uu {fp:List Addr} {h:Heap} {p:Addr×Obj} (hp:p∈zZ fp h):p.1∈fp/\h.get? p.1=some p.2:=by
 obtain⟨b,hb,e⟩:=List.mem_filterMap.mp hp;cases q:h.get? b with
 |none=>rw[q] at e;cases e
 |some o=>
  rw[q] at e;have e':(b,o)=p:=JI e;subst e';exact⟨hb,q⟩
theorem Inv.pinned {pins:List (Addr×Obj)} {σ:St} {H:Hp} {s:Shared} {fp:List Addr} (I:Inv X pins σ H s) (hf:∀ b∈fp,uO X pins H b) (ho:∀ b∈fp,∃ o,s.heap.get? b=some o/\∀ v,o.data≠.cell v):Inv X (pins++zZ fp s.heap) σ H s:=
 I.Dh λp hp=>(List.mem_append.mp hp).elim (λz=>I.pin p (ZI _ z)) λz=>by
  obtain⟨hb,e⟩:=Uu z;obtain⟨f0,f1,f2,_⟩:=hf p.1 hb;obtain⟨o,e',d⟩:=ho p.1 hb;rw[e] at e';cases e';exact⟨e,f0,f1,f2,d⟩
theorem Inv.uV {pins pl:List (Addr×Obj)} {σ:St} {H:Hp} {s:Shared} (I:Inv X (pins++pl) σ H s):Inv X pins σ H s:=I.Dh λp hp=>I.pin p (ZI _ (JS _ hp))
theorem W0 {iter:Expr} {body:List Stmt} {wi:TI} {g:TG} {tb:TS} {pos:Pos} (hp:PassesOwn (model X.prog X.w) X.A X.env X.xe) (hc:X.calm=true) (hi:PI X tg iter wi) (hg:PG X tg g) (hb:zU X body tb)
  (hs:∀ x,foldedSetIterable iter X.env x=pure x:=by intro _;rfl):PS X (.For tg iter body [] pos) (aiC wi g tb):=by
 intro pins s σ H D I h;refine wpAny_For (gU (hi pins s σ H _ I h) λv s1 h1=>gU h1 λitv s2 h2=>?_) hs;obtain⟨it,fp,tn,J,H2,e,I2,T,st2,f2,W,⟨m0,w0⟩,turn⟩:=h2;subst e;have stat:∀ {H':Hp},(∀ b∈fp,H' b=none)->∀ b∈fp,uO X pins H' b:=λhn b hb=>⟨hn b hb,(f2 b hb).2⟩;refine codeAny_forLoop_any (λn s'=>∃ i σ' H',Inv X pins σ' H' s'/\tn i s'.heap/\(∀ b∈fp,H' b=none)/\W i n σ' H') ?_ m0 ⟨0,σ,H2,I2,st2,λb hb=>(f2 b hb).1,w0⟩;rintro n s3 ⟨i,σ3,H3,I3,st3,fr3,w3⟩;rcases turn i n σ3 H3 w3 with⟨stop,qn⟩|⟨go,N,hN,step⟩
 ·refine km hp (gU (T.done X rfl rfl rfl hc i pins s3 σ3 H3 X.xe I3 (stat fr3) st3 stop) λr s4 ⟨hr,I4⟩=>?_);subst hr;exact kC ⟨σ3,H3,I4,qn⟩
 ·refine km hp (gU (T.item X rfl rfl rfl hc i pins s3 σ3 H3 X.xe I3 (stat fr3) st3 go) λr s4 ⟨u,hr,h4⟩=>?_);subst hr;refine km hp (gU h4 λ_ s5 ⟨x,H5,I5,r5,y5,st5,fr5⟩=>?_);have I5':=I5.pinned (stat fr5) (T.obj _ _ st5);refine km hp (gU (hg _ s5 σ3 H5 x u _ I5' r5 (step x H5 y5)) λ_ s6 ⟨σ6,H6,I6,q6⟩=>?_);refine km hp (gU (hb _ s6 σ6 H6 _ I6 q6) λf s7 q7=>?_);have again:∀ {σ7:St} {H7:Hp},Inv X (pins++zZ fp s5.heap) σ7 H7 s7->N σ7 H7->∃ m,m < n/\∃ i σ' H',Inv X pins σ' H' s7/\tn i s7.heap/\(∀ b∈fp,H' b=none)/\W i m σ' H':=λ{σ7 H7} I7 n7=>by
   obtain⟨m',hm,w7⟩:=hN σ7 H7 n7;refine⟨m',hm,i+1,σ7,H7,I7.uV,T.keep _ _ _ st5 λb hb o e=>(I7.pin (b,o) (ZI _ (ZI _ (tu hb e)))).1,λb hb=>?_,w7⟩;obtain⟨o,e,d⟩:=T.obj _ _ st5 b hb;exact(I7.pin (b,o) (ZI _ (ZI _ (tu hb e)))).2.1
  cases f with
  |next=>obtain⟨σ7,H7,I7,n7⟩:=q7;exact again I7 n7
  |cont=>obtain⟨σ7,H7,I7,n7⟩:=q7;exact again I7 n7
  |brk=>obtain⟨σ7,H7,I7,q7⟩:=q7;exact⟨σ7,H7,I7.uV,q7⟩
  |ret v=>obtain⟨x7,σ7,H7,I7,r7,q7⟩:=q7;exact⟨x7,σ7,H7,I7.uV,r7,q7⟩
end
end L2
namespace L2
open PySem PySem.Spec PyProof.Rows
abbrev R2:=V->V->Hp->VK->Prop
def uP (X:Cx) (f:Value->Value->Sem Value) (r:R2):Prop:=
 ∀ (pins:List (Addr×Obj)) (s:Shared) (σ:St) (H:Hp) (x y:V) (v u:Value) (Q:VK),Inv X pins σ H s->RelV x v->RelV y u->r x y H Q →
  wpAny (model X.prog X.w) X.A (f v u) (EP X pins σ Q) X.xe s
def UnR (X:Cx) (f:Value->Sem Value) (r:V->Hp->VK->Prop):Prop:=
 ∀ (pins:List (Addr×Obj)) (s:Shared) (σ:St) (H:Hp) (x:V) (v:Value) (Q:VK),Inv X pins σ H s->RelV x v->r x H Q →
  wpAny (model X.prog X.w) X.A (f v) (EP X pins σ Q) X.xe s
def gF (X:Cx) (f:Value) (r:List V->Hp->VK->Prop):Prop:=
 ∀ (pins:List (Addr×Obj)) (s:Shared) (σ:St) (H:Hp) (xs:List V) (us:List Value) (Q:VK),Inv X pins σ H s->Vals xs us->r xs H Q →
  wpAny (model X.prog X.w) X.A (call f us) (EP X pins σ Q) X.xe s
def aiE (X:Cx) (r:V->Hp->(Bool->Hp->Prop)->Prop):Prop:=
 ∀ (pins:List (Addr×Obj)) (s:Shared) (σ:St) (H:Hp) (x:V) (v:Value) (Q:Bool->Hp->Prop),Inv X pins σ H s->RelV x v->r x H Q →
  wpAny (model X.prog X.w) X.A (truthy v) (TP X pins σ Q) X.xe s
def tOp (r:R2) (ta tb:TE):TE:=λσ H Q=>ta σ H λx H1=>tb σ H1 λy H2=>r x y H2 Q
def tUn (r:V->Hp->VK->Prop) (ta:TE):TE:=λσ H Q=>ta σ H λx H1=>r x H1 Q
def rI (C:Int->Int->Prop) (g:Int->Int->V):R2:=λx y H Q=>∃ i j,x=.int i/\y=.int j/\C i j/\Q (g i j) H
def rI0 (g:Int->Int->V):R2:=λx y H Q=>∃ i j,x=.int i/\y=.int j/\Q (g i j) H
def rU (g:Int->V):V->Hp->VK->Prop:=λx H Q=>∃ i,x=.int i/\Q (g i) H
section
variable {X:Cx} {a b c:Expr} {ta tb tc:TE} {pos:Pos}
theorem adJ (ha:PE X a ta) (hb:PE X b tb) {pins:List (Addr×Obj)} {s:Shared} {σ:St} {H:Hp} {R:V->V->Hp->Prop} (I:Inv X pins σ H s)
  (h:ta σ H λx H1=>tb σ H1 λy H2=>R x y H2) {Q:VP_} {f:Value->Value->Sem Value}
  (hf:∀ v u s2 x y H2,Inv X pins σ H2 s2->RelV x v->RelV y u->R x y H2->wpAny (model X.prog X.w) X.A (f v u) Q X.xe s2) :
  wpAny (model X.prog X.w) X.A (eval a X.env) (λv s₁=>wpAny (model X.prog X.w) X.A (eval b X.env) (λu s₂=>wpAny (model X.prog X.w) X.A (f v u) Q X.xe s₂) X.xe s₁) X.xe s:=by
 refine gU (ha pins s σ H _ I h) λv s1 ⟨x,H1,I1,r1,q1⟩=>?_;refine gU (hb pins s1 σ H1 _ I1 q1) λu s2 ⟨y,H2,I2,r2,q2⟩=>?_;exact hf v u s2 x y H2 I2 r1 r2 q2
theorem afZ {op:Operator} {r:R2} (ho:uP X (binaryOp op) r) (ha:PE X a ta) (hb:PE X b tb):PE X (.BinOp a op b pos) (tOp r ta tb):=by
 intro pins s σ H Q I h;exact wpAny_BinOp (adJ ha hb I h λv u s2 x y H2 I2 rx ry q=>ho pins s2 σ H2 x y v u Q I2 rx ry q)
theorem af0 {op:UnaryOp} {r:V->Hp->VK->Prop} (ho:UnR X (unaryOp op) r) (ha:PE X a ta):PE X (.UnaryOp op a pos) (tUn r ta):=by
 intro pins s σ H Q I h;exact UnaryOp_ (gU (ha pins s σ H _ I h) λv s1 ⟨x,H1,I1,r1,q1⟩=>ho pins s1 σ H1 x v Q I1 r1 q1)
theorem opI {f:Value->Value->Sem Value} {C:Int->Int->Prop} {g:Int->Int->Int}
  (rule:∀ (i j:Int) (t u:Tok) (s:Shared) (Q:VP_) (E:VP_),C i j->Q (.int (g i j) s.toks) { s with toks:=s.toks+1 }->wpAny (model X.prog X.w) X.A (f (.int i t) (.int j u)) Q E s) :
  uP X f (rI C λi j=>.int (g i j)):=by
 intro pins s σ H x y v u Q I rx ry h;obtain⟨i,j,rfl,rfl,hc,q⟩:=h;obtain⟨t,rfl⟩:=rx;obtain⟨t',rfl⟩:=ry;exact rule i j t t' s _ _ hc ⟨.int (g i j),H,I.tok _,⟨_,rfl⟩,q⟩
theorem af2 {f:Value->Value->Sem Value} {g:Int->Int->Int}
  (rule:∀ (i j:Int) (t u:Tok) (s:Shared) (Q:VP_) (E:VP_),Q (.int (g i j) s.toks) { s with toks:=s.toks+1 }->wpAny (model X.prog X.w) X.A (f (.int i t) (.int j u)) Q E s) :
  uP X f (rI0 λi j=>.int (g i j)):=by
 intro pins s σ H x y v u Q I rx ry h;obtain⟨i,j,rfl,rfl,q⟩:=h;obtain⟨t,rfl⟩:=rx;obtain⟨t',rfl⟩:=ry;exact rule i j t t' s _ _ ⟨.int (g i j),H,I.tok _,⟨_,rfl⟩,q⟩
theorem aav {f:Value->Value->Sem Value} {g:Int->Int->Bool}
  (rule:∀ (i j:Int) (t u:Tok) (s:Shared) (Q:VP_) (E:VP_),Q (.bool (g i j)) s->wpAny (model X.prog X.w) X.A (f (.int i t) (.int j u)) Q E s) :
  uP X f (rI0 λi j=>.bl (g i j)):=by
 intro pins s σ H x y v u Q I rx ry h;obtain⟨i,j,rfl,rfl,q⟩:=h;obtain⟨t,rfl⟩:=rx;obtain⟨t',rfl⟩:=ry;exact rule i j t t' s _ _ ⟨.bl (g i j),H,I,rfl,q⟩
def aiF (i j:Int):Prop:=0 < j/\j < 1073741824
def aiG (i j:Int):Prop:=0<=j/\j<=1000000/\i.natAbs < 2 ^ 64
def adK (i j:Int):Prop:=(-(2 ^ 64) < i/\i < 2 ^ 64)\/(-(2 ^ 64) < j/\j < 2 ^ 64)
theorem adK.ok {i j:Int} (h:adK i j):IntMulOk i j:=by
 rcases h with⟨h1,h2⟩|⟨h1,h2⟩
 ·exact .of_left (intBits_le_64 h1 h2)
 ·exact .of_right (intBits_le_64 h1 h2)
theorem adL:uP X (binaryOp .Add) (rI0 λi j=>.int (i+j)):=af2 λ_ _ _ _ _ _ _ q=>add_int q
theorem adM:uP X (binaryOp .Sub) (rI0 λi j=>.int (i - j)):=af2 λ_ _ _ _ _ _ _ q=>sub_int q
theorem adN:uP X (binaryOp .Mult) (rI adK λi j=>.int (i * j)):=opI λ_ _ _ _ _ _ _ hc q=>mul_int q hc.ok
theorem aaw:uP X (binaryOp .FloorDiv) (rI aiF λi j=>.int (i / j)):=opI λi j _ _ _ _ _ hc q=>by
 have h1:(0:Int) < j:=hc.1;have h2:j < 1073741824:=hc.2;exact floordiv_int (by omega) (by rw[Int.fdiv_eq_ediv_of_nonneg i (by omega)];exact q) (.inl (PyProof.noPylong_small (by omega)))
theorem adO:uP X (binaryOp .Mod) (rI (λ_ j=>0 < j) λi j=>.int (i % j)):=opI λi j _ _ _ _ _ hc q=>by
 have h1:(0:Int) < j:=hc;exact mod_int' (by omega) (by rw[Int.fmod_eq_emod_of_nonneg i (by omega)];exact q)
theorem adP:uP X (binaryOp .Pow) (rI aiG λi j=>.int (i ^ j.toNat)):=opI λ_ _ _ _ _ _ _ hc q=>pow_int_small hc.1 hc.2.1 hc.2.2 q
theorem unI {f:Value->Sem Value} {g:Int->Int}
  (rule:∀ (i:Int) (t:Tok) (s:Shared) (Q:VP_) (E:VP_),Q (.int (g i) s.toks) { s with toks:=s.toks+1 }->wpAny (model X.prog X.w) X.A (f (.int i t)) Q E s) :
  UnR X f (rU λi=>.int (g i)):=by
 intro pins s σ H x v Q I rx h;obtain⟨i,rfl,q⟩:=h;obtain⟨t,rfl⟩:=rx;exact rule i t s _ _ ⟨.int (g i),H,I.tok _,⟨_,rfl⟩,q⟩
theorem adQ:UnR X (unaryOp .USub) (rU λi=>.int (-i)):=unI λ_ _ _ _ _ q=>neg_int q
theorem W3 {pins:List (Addr×Obj)} {σ:St} {H:Hp} {s:Shared} {Q:VK} {k k':Bool} (I:Inv X pins σ H s) (q:Q (.bl k) H) (e:k=k'):EP X pins σ Q (.bool k') s:=by
 subst e;exact⟨.bl k,H,I,rfl,q⟩
theorem af3:uP X (compareOp .Lt) (rI0 λi j=>.bl (decide (i < j))):=aav λ_ _ _ _ _ _ _ q=>lt_int q
theorem af4:uP X (compareOp .LtE) (rI0 λi j=>.bl (decide (i<=j))):=aav λ_ _ _ _ _ _ _ q=>le_int q
theorem af5:uP X (compareOp .Gt) (rI0 λi j=>.bl (decide (j < i))):=aav λ_ _ _ _ _ _ _ q=>gt_int q
theorem af6:uP X (compareOp .GtE) (rI0 λi j=>.bl (decide (j<=i))):=aav λ_ _ _ _ _ _ _ q=>ge_int q
theorem Uv:uP X (compareOp .In) (λx y H Q=>∃ i j,x=.str i/\y=.str j/\Q (.bl (!(Builtin.Str.occurrences j i 0 j.length 1).isEmpty)) H):=by
 intro pins s σ H x y v u Q I rx ry h;obtain⟨i,j,rfl,rfl,q⟩:=h;obtain⟨t,rfl⟩:=rx;obtain⟨t',rfl⟩:=ry;exact in_str (W3 I q rfl)
theorem adR:uP X (compareOp .Is) (λx y H Q=>y=.non/\Q (.bl (decide (x=.non))) H):=by
 intro pins s σ H x y v u Q I rx ry h;obtain⟨rfl,q⟩:=h;cases ry;refine is_none_gen (W3 I q ?_);cases x<;>first
  |(cases rx;rfl)
  |(obtain⟨t,rfl⟩:=rx;rfl)
theorem uP.or {f:Value->Value->Sem Value} {r r':R2} (h:uP X f r) (h':uP X f r'):uP X f (λx y H Q=>r x y H Q\/r' x y H Q):=by
 intro pins s σ H x y v u Q I rx ry q;rcases q with q|q
 ·exact h pins s σ H x y v u Q I rx ry q
 ·exact h' pins s σ H x y v u Q I rx ry q
theorem cG (b:Expr) {op:CmpOp} (h:op≠.In:=by decide) (h2:op≠.NotIn:=by decide):behindInMarks op b=false:=by
 have e1:(op==CmpOp.In)=false:=by cases op<;>first|rfl|exact absurd rfl h
 have e2:(op==CmpOp.NotIn)=false:=by cases op<;>first|rfl|exact absurd rfl h2
 cases b<;>simp[behindInMarks,e1,e2]
theorem aax {op:CmpOp} {r:R2} (ho:uP X (compareOp op) r) (ha:PE X a ta) (hb:PE X b tb) (hm:behindInMarks op b=false):PE X (.Compare a [op] [b] pos) (tOp r ta tb):=by
 intro pins s σ H Q I h;exact wpAny_Compare1 (adJ ha hb I h λv u s2 x y H2 I2 rx ry q=>ho pins s2 σ H2 x y v u Q I2 rx ry q) hm
def af7 (t:TE):TT:=λσ H Q=>t σ H λx H'=>∃ k,x=.bl k/\Q k H'
theorem R6 {op:CmpOp} {r:R2} (ho:uP X (compareOp op) r) (ha:PE X a ta) (hb:PE X b tb) (hm:behindInMarks op b=false):PT X (.Compare a [op] [b] pos) (af7 (tOp r ta tb)):=by
 intro pins s σ H Q I h;refine wpAny_isTrue_Compare1 (gU (ha pins s σ H _ I h) λv s1 ⟨x,H1,I1,r1,q1⟩=>gU (hb pins s1 σ H1 _ I1 q1) λu s2 ⟨y,H2,I2,r2,q2⟩=>
  gU (ho pins s2 σ H2 x y v u _ I2 r1 r2 q2) λc s3 ⟨z,H3,I3,r3,k,e,q3⟩=>?_) hm
 subst e;cases r3;exact ja ⟨H3,I3,q3⟩
def W4 (r r':R2) (ta tb tc:TE):TE:=λσ H Q=>ta σ H λx H1=>tb σ H1 λy H2=>r x y H2 λz H3=>∃ k,z=.bl k ∧
 (if k=true then tc σ H3 λw' H4=>r' y w' H4 Q else Q (.bl false) H3)
theorem W5 {op op':CmpOp} {r r':R2} (ho:uP X (compareOp op) r) (ho':uP X (compareOp op') r') (ha:PE X a ta) (hb:PE X b tb) (hc:PE X c tc)
  (hm:lastMarks [op,op'] [b,c]=false:=by with_unfolding_all rfl):PE X (.Compare a [op,op'] [b,c] pos) (W4 r r' ta tb tc):=by
 intro pins s σ H Q I h;refine Compare_chain (gU (ha pins s σ H _ I h) λv s1 ⟨x,H1,I1,r1,q1⟩=>chain_link (gU (hb pins s1 σ H1 _ I1 q1) λu s2 ⟨y,H2,I2,r2,q2⟩=>
  gU (ho pins s2 σ H2 x y v u _ I2 r1 r2 q2) λd s3 ⟨z,H3,I3,r3,k,e,q3⟩=>?_)) hm
 subst e;cases r3;refine ja ?_;cases k with
 |false=>exact ite_ff ⟨.bl false,H3,I3,rfl,q3⟩
 |true=>exact ite_tt (chain_last (gU (hc pins s3 σ H3 _ I3 q3) λw' s4 ⟨z',H4,I4,r4,q4⟩=>ho' pins s4 σ H4 y z' u w' Q I4 r2 r4 q4))
def adS (K:FG_) (x:V) (H:Hp) (k:Bool):Prop:=
 match x with
 |.non=>k=false
 |.bl b=>k=b
 |.int i=>k=(i != 0)
 |.str y=>y.length<=sizeLine/\k=((y.length:Int) != 0)
 |.byt y=>y.size<=sizeLine/\k=((y.size:Int) != 0)
 |.ref p=>(∃ xs,sX K H p xs/\k=!xs.isEmpty)\/(∃ xs,yG K H p xs/\k=!xs.isEmpty)\/∃ kvs,H p=some (.dK kvs)/\k=!kvs.isEmpty
 |_=>False
theorem Qs {κ:Type} {kvs:List (κ×V)} {vs:List (κ×Value)} (r:KV kvs vs):(!vs.isEmpty)=!kvs.isEmpty:=by
 cases r<;>rfl
theorem El {xs:List V} {its:List Value} (r:Vals xs its):(!its.toArray.isEmpty)=!xs.isEmpty:=by
 cases r<;>simp
theorem z7:(sizeLine:Nat) < 2 ^ 63:=by rw[sizeLine_eq];decide
theorem adT:aiE X (λx H Q=>∃ k,adS X.K x H k/\Q k H):=by
 intro pins s σ H x v Q I rx h;obtain⟨k,e,q⟩:=h;have hl:=z7;have hs:sizeLine=16777216:=sizeLine_eq;cases x with
 |non=>
  cases rx;have e':k=false:=e;subst e';exact truthy_none ⟨H,I,q⟩
 |bl b=>
  cases rx;have e':k=b:=e;subst e';exact ja ⟨H,I,q⟩
 |int i=>
  obtain⟨t,rfl⟩:=rx;have e':k=(i != 0):=e;subst e';exact PySem.P.truthy_int ⟨H,I,q⟩
 |str y=>
  obtain⟨t,rfl⟩:=rx;obtain⟨hy,e'⟩:y.length<=sizeLine/\k=((y.length:Int) != 0):=e;subst e';exact PySem.P.truthy_str (by omega) ⟨H,I.tok _,q⟩
 |byt y=>
  obtain⟨t,rfl⟩:=rx;obtain⟨hy,e'⟩:y.size<=sizeLine/\k=((y.size:Int) != 0):=e;subst e';exact PySem.W.truthy_bytes (by omega) ⟨H,I.tok _,q⟩
 |ref p=>
  cases rx;have e':(∃ xs,sX X.K H p xs/\k=!xs.isEmpty)\/(∃ xs,yG X.K H p xs/\k=!xs.isEmpty)\/∃ kvs,H p=some (.dK kvs)/\k=!kvs.isEmpty:=e;rcases e' with⟨xs,hx,e'⟩|⟨xs,hx,e'⟩|⟨kvs,hx,e'⟩
  ·subst e';obtain⟨its,r,pl,hz⟩:=I.list hx;have hlen:=r.length;exact wpAny_truthy_list pl.isList (by simp only[zS];omega) ⟨H,I.tok _,by rw[El r];exact q⟩
  ·subst e';obtain⟨its,r,pl,hz⟩:=I.tuple hx;have hlen:=r.length;exact truthy_tuple pl (by simp only[zS];omega) ⟨H,I.tok _,by rw[El r];exact q⟩
  ·subst e';obtain⟨hz,hS,vs,r,m⟩:kvs.length<=sizeLine/\(p==sysModules)=false/\∃ vs,KV kvs vs/\s.heap.DictOf (dh X.prog X.w) p vs:=I.hok p _ hx;have hlen:kvs.length=vs.length:=Paired.length r;exact wpAny_truthy_dict hS m (by omega) ⟨H,I.tok _,by rw[Qs r];exact q⟩
 |_=>exact(show False from e).elim
theorem W6 (ha:PE X a ta) (he:∀ whole,isTrue a X.env whole=(do let v <-whole;standAt a.pos;holding [v] (truthy v))) :
  PT X a (λσ H Q=>ta σ H λx H'=>∃ k,adS X.K x H' k/\Q k H'):=by
 intro pins s σ H Q I h;exact isTrue_plain (gU (ha pins s σ H _ I h) λv s1 ⟨x,H1,I1,r1,q1⟩=>adT pins s1 σ H1 x v Q I1 r1 q1) (he _)
theorem Qt:uP X (binaryOp .Add) (λx y H Q=>∃ i j,x=.str i/\y=.str j/\i.length+j.length<=sizeLine/\Q (.str (i++j)) H):=by
 intro pins s σ H x y v u Q I rx ry h;obtain⟨i,j,rfl,rfl,hz,q⟩:=h;obtain⟨t,rfl⟩:=rx;obtain⟨t',rfl⟩:=ry;exact add_str (λt' tk=>⟨.str (i++j),H,I.tok _,⟨_,rfl⟩,q⟩) hz
theorem vals1 {x:V} {us:List Value} (r:Vals [x] us):∃ u,us=[u]/\RelV x u:=by
 cases r with
 |cons r1 r2=>cases r2;exact⟨_,rfl,r1⟩
theorem vals2 {x y:V} {us:List Value} (r:Vals [x,y] us):∃ u w',us=[u,w']/\RelV x u/\RelV y w':=by
 cases r with
 |cons r1 r2=>
  cases r2 with
  |cons r3 r4=>cases r4;exact⟨_,_,rfl,r1,r3⟩
theorem W7:gF X (.builtin "abs") (λxs H Q=>∃ i,xs=[.int i]/\Q (.int (if i < 0 then -i else i)) H):=by
 intro pins s σ H xs us Q I r h;obtain⟨i,rfl,q⟩:=h;obtain⟨u,rfl,t,rfl⟩:=vals1 r;exact call_abs_int λu tk=>⟨.int (if i < 0 then -i else i),H,I.tok _,⟨_,rfl⟩,q⟩
theorem Uw:gF X (.type "int") (λxs H Q=>(∃ i,xs=[.int i]/\Q (.int i) H)\/∃ k,xs=[.bl k]/\Q (.int (if k then 1 else 0)) H):=by
 intro pins s σ H xs us Q I r h;rcases h with⟨i,rfl,q⟩|⟨k,rfl,q⟩
 ·obtain⟨u,rfl,t,rfl⟩:=vals1 r;exact call_int_int ⟨.int i,H,I,⟨_,rfl⟩,q⟩
 ·obtain⟨u,rfl,r1⟩:=vals1 r;cases r1;exact call_int_bool ⟨.int (if k then 1 else 0),H,I.tok _,⟨_,rfl⟩,q⟩
end
end L2
namespace L2
open PySem PySem.Spec PyProof.Rows
structure af8 (h:Heap) (x dx C:Addr) (mA:Str->Option Value):Prop where
 obj:h.get? x=some (instObj C dx)
 ns:h.Ns1 dx mA
 ne:dx≠x
theorem Ux {h:Heap} {dx:Addr} {mA:Str->Option Value} (n:h.Ns1 dx mA):∃ od,h.get? dx=some od/\∀ name,lookIn name od=some (mA name):=by
 obtain⟨o,es,ep,ho,hd,hk,_,hm⟩:=n;refine⟨o,ho,λname=>?_⟩;have e:=hm name;unfold nsFind findBy at e;rw[<-KP] at e;unfold lookIn;rw[hd];dsimp only;split
 ·rename_i y q;rw[q] at e;exact congrArg some e
 ·rename_i q;rw[q] at e;have a:es.toList.any (·.refKey)=false:=by
   rw[List.any_eq_false];intro y hy;obtain⟨z,t,hkey⟩:=hk y (Array.mem_toList_iff.mp hy);simp[DictEntry.refKey,hkey]
  have a':¬ es.toList.any (·.refKey)=true:=by rw[a];exact zk
  rw[zC a'];exact congrArg some e
theorem af8.look {h:Heap} {x dx C:Addr} {mA:Str->Option Value} (I:af8 h x dx C mA):∃ od,PySem.W.InstAt h x (instObj C dx) C (some od)/\∀ name,lookIn name od=some (mA name):=
 let ⟨od,ho,hl⟩:=Ux I.ns
 ⟨od,⟨I.obj,rfl,rfl,ho⟩,hl⟩
section
variable {prog:Program} {w:World} {A:Around} {E:VP_} {s:Shared} {K:FG_} {x dx C f:Addr} {mA:Str->Option Value} {name:Str} {v:Value}
end
theorem zW.some_of {v:V} {o:Option Value} (r:zW (some v) o):∃ u,o=some u/\RelV v u:=by
 cases o with
 |none=>exact(show False from r).elim
 |some u=>exact⟨u,rfl,r⟩
section
variable {P:Program} {w:World} {H H':Hp} {h h':Heap} {a C dx:Addr} {fs fs':List (Str×V)}
end
structure Cls (K:FG_) (C:Addr):Prop where
 pg:plainGet K C Str.empty=true
 hd:PySem.W.hasDictIn K C=true
 po:PySem.W.plainOver K C=true
 sa:findIn K (.ref C) "__setattr__" = some (some (.builtin "object.__setattr__"))
theorem Cls.get {K:FG_} {C:Addr} (c:Cls K C) (f:Str):plainGet K C f=true:=c.pg
section
variable {X:Cx} {pins:List (Addr×Obj)} {σ:St} {H:Hp} {s:Shared} {a C dx:Addr} {fs:List (Str×V)} {f:Str} {v:V} {A:Around} {E:VP_}
theorem Inv.made (I:Inv X pins σ H s):Inv X pins σ (upd (upd H s.heap.objs.size (.own (s.heap.objs.size+1))) (s.heap.objs.size+1) (.ins C s.heap.objs.size []))
  { s with heap:=(s.heap.push emptyDict).push (instObj C s.heap.objs.size) }:=by
 have e1:(s.heap.push emptyDict).get? s.heap.objs.size=some emptyDict:=zl s.heap rfl;have e2:((s.heap.push emptyDict).push (instObj C s.heap.objs.size)).get? (s.heap.objs.size+1)=some (instObj C s.heap.objs.size):=by
  have:=zl (s.heap.push emptyDict) (o:=instObj C s.heap.objs.size) rfl;rwa [ZT] at this
 have e3:(s.heap.push emptyDict).Ns s.heap.objs.size (λ_=>none):=⟨emptyDict,#[],_,e1,rfl,(λe he=>absurd he (by simp)),λ_=>rfl⟩;have I1:=I.laid (a:=s.heap.objs.size) (o:=.own (s.heap.objs.size+1)) (h':=s.heap.push emptyDict) (t':=s.toks) (λb u q=>zd _ q) (zi _) ⟨_,e1⟩;refine I1.laid (a:=s.heap.objs.size+1) (o:=.ins C s.heap.objs.size []) (t':=s.toks) (λb u q=>zd _ q) (KL (ZT _ _)) ?_;have ne:s.heap.objs.size≠s.heap.objs.size+1:=Zl (qc _);refine⟨by rw[aM ne,aV],qi _,ne,e2,λ_=>none,(Heap.Ns1.of_empty e3).at λo q=>zd _ q,λ_=>True.intro,λy hy=>absurd rfl hy⟩
theorem aay {prog:Program} {w:World} {env:Env} {e:Expr} {f:Str} {pos:Pos} {s:Shared} {Q:VP_} (hb:attributeBase e f env (eval e env)=eval e env)
  (h:wpAny (model prog w) A (eval e env) (λo s₁=>wpAny (model prog w) A (getAttr o f true) Q E s₁) E s):wpAny (model prog w) A (eval (.Attribute e f pos) env) Q E s:=
 Attribute_any_ h (by rw[arm_eval_Attribute,hb])
end
section
variable {X:Cx} {o e value:Expr} {f:Str} {pos pos' tpos:Pos} {ta tv:TE}
end
section
variable {X:Cx} {pins:List (Addr×Obj)} {σ:St} {H:Hp} {s:Shared} {A:Around} {E:VP_} {Q:VP_} {c:Value} {b:Bool}
end
end L2
namespace L2
open PySem PySem.Spec PyProof.Rows
structure gW (k:Nat) (A:Around):Prop where
 hd:A.handled=none
 dp:A.depth+3 * k+5 < recursionLimit
 un:A.units+16 * k+200 < cLine
theorem gW.mono {j k:Nat} {A:Around} (r:gW k A) (h:j<=k):gW j A:=⟨r.hd,by have:=r.dp;omega,by have:=r.un;omega⟩
theorem gW.deeper {k:Nat} {A:Around} (r:gW (k+1) A) (env:Env):gW k (A.deeper env):=
 ⟨r.hd,by have:=r.dp;show A.depth+1+3 * k+5 < _;omega,by have:=r.un;show A.units+3+16 * k+200 < _;omega⟩
theorem gW.in1 {k:Nat} {A:Around} (r:gW (k+1) A):gW k A.in1:=
 ⟨r.hd,by have:=r.dp;show A.depth+3 * k+5 < _;omega,by have:=r.un;show A.units+1+16 * k+200 < _;omega⟩
theorem Qu {A:Around} {C:Addr} {us:List Value} {kw:List (Str×Value)}:(A.under (.builtin "type.__call__" ⟨.ref C::us,kw⟩)).depth=A.depth+1:=by
 first|rfl|simp[Around.under,Code.weight,Code.isCreation,Code.isGuard,Code.isCaller,Code.frames,Code.isFrame,guardIds]
theorem Qv {A:Around} {C:Addr} {us:List Value} {kw:List (Str×Value)}:(A.under (.builtin "type.__call__" ⟨.ref C::us,kw⟩)).units=A.units+1:=by
 first|rfl|simp[Around.under,Code.cUnits,Code.frames,Code.isFrame]
theorem gW.make {k:Nat} {A:Around} (r:gW (k+1) A) (C:Addr) (us:List Value) (kw:List (Str×Value)):gW k (A.under (.builtin "type.__call__" ⟨.ref C::us,kw⟩)):=
 ⟨r.hd,by have:=r.dp;rw[Qu];omega,by have:=r.un;rw[Qv];omega⟩
theorem gW.depth {k:Nat} {A:Around} (r:gW k A):A.depth < recursionLimit:=by have:=r.dp;omega
theorem gW.units {k:Nat} {A:Around} (r:gW k A):A.units+64 < cLine:=by have:=r.un;omega
def aaz:TA:=λ_ H Q=>Q [] H
def Mq (ta:TE) (tr:TA):TA:=λσ H Q=>ta σ H λx H1=>tr σ H1 λxs H2=>Q (x::xs) H2
section
variable {X:Cx} {e:Expr} {es:List Expr} {te:TE} {t:TA} {pos:Pos}
theorem g8:PA X [] aaz:=λ_ _ _ _ H Q I h=>Calls.spliced_nil ⟨[],H,I,.nil,h⟩
theorem bT (ha:PE X e te) (hr:PA X es t) (hs:starEach (e::es) X.env=(false,eval e X.env)::starEach es X.env:=by rfl):PA X (e::es) (Mq te t):=by
 intro pos pins s σ H Q I h;rw[hs];show wpAny _ _ (spliced ((false,eval e X.env)::backTo pos (starEach es X.env))) _ _ s;refine Calls.spliced_cons (gU (ha pins s σ H _ I h) λu s1 ⟨x,H1,I1,r1,q1⟩=>?_);exact gU (hr pos pins s1 σ H1 _ I1 q1) λus s2 ⟨xs,H2,I2,r2,q2⟩=>⟨x::xs,H2,I2,.cons r1 r2,q2⟩
def aiH (t:TA):TE:=λσ H Q=>t σ H λxs H1=>xs.length<=sizeLine/\∀ p,H1 p=none->Q (.ref p) (upd H1 p (.tup xs))
def aiI (t:TA):TE:=λσ H Q=>t σ H λxs H1=>xs.length<=sizeLine/\∀ p,H1 p=none->Q (.ref p) (upd H1 p (.lst xs))
theorem JZ {x1} (h:PA X es t):PE X (.Tuple es x1 pos) (aiH t):=by
 intro pins s σ H Q I hq;refine wpAny_Tuple_spliced (gU (h pos pins s σ H _ I hq) λus s1 ⟨xs,H1,I1,r,z,q⟩=>⟨by rw[<-r.length];exact z,?_⟩);have hf:H1 s1.heap.objs.size=none:=I1.hok.fresh (zi _);refine⟨.ref s1.heap.objs.size,upd H1 s1.heap.objs.size (.tup xs),I1.laid (t':=s1.toks) (λb u e=>zd _ e) (zi _) ?_,rfl,q _ hf⟩;exact⟨z,us,r,⟨_,zl _ rfl,rfl,⟨_,rfl⟩,rfl⟩⟩
theorem adU (h:PA X es t):PE X (.List es pos) (aiI t):=by
 intro pins s σ H Q I hq;refine wpAny_List_spliced (gU (h pos pins s σ H _ I hq) λus s1 ⟨xs,H1,I1,r,z,q⟩=>⟨by rw[<-r.length];exact z,?_⟩);have hf:H1 s1.heap.objs.size=none:=I1.hok.fresh (zi _);refine⟨.ref s1.heap.objs.size,upd H1 s1.heap.objs.size (.lst xs),I1.laid (t':=s1.toks) (λb u e=>zd _ e) (zi _) ?_,rfl,q _ hf⟩;exact⟨z,us,0,r,zl _ rfl⟩
end
abbrev Sp:=List V->Hp->VK->XK->Prop
abbrev Qi:=List Env->Hp->Shared->XK->Value->Shared->Prop
structure HN (P:Program) (w:World) (K:FG_) (mg:Str->Option Value) (base:Heap) (A:Around) (outer:List Env) (s:Shared) (H:Hp):Prop where
 frames:A.frames=some outer
 mod:Mod K mg base
 bs:∀ b o,base.get? b=some o->s.heap.get? b=some o/\H b=none
 Wn:base.objs.size<=s.heap.objs.size
 wX:s.heap.FunFrames base outer
 frf:∀ b∈frs outer,H b=none
 hok:uT P w H s.heap
 bare:AllBare s.gens
def CE (outer:List Env) (P:Program) (w:World) (H:Hp) (s:Shared) (Q:VK) (u:Value) (s':Shared):Prop:=
 ∃ v H',s'.os=s.os/\AllBare s'.gens/\Un (frs outer) [] H H' s.heap s'.heap/\uT P w H' s'.heap/\RelV v u/\Q v H'
def CR (CX:Qi) (outer:List Env) (P:Program) (w:World) (H:Hp) (s:Shared) (Q:VK) (E:XK) (r:Result) (s':Shared):Prop:=
 match r with
 |.ok (.ret u)=>CE outer P w H s Q u s'
 |.ok _=>False
 |.error e=>CX outer H s E e s'
structure eZ (P:Program) (w:World) (K:FG_) (mg:Str->Option Value) (base:Heap) (CX:Qi) (k:Nat) (f:Addr) (fd:FuncData) (ps:LS_) (sp:Sp):Prop where
 len:∀ vs H Q E,sp vs H Q E->vs.length=ps.length
 run:∀ (A:Around) (outer:List Env) (s:Shared) (H:Hp) (args:Args) (us:List Value) (vs:List V) (Q:VK) (E:XK),gW k A->HN P w K mg base A outer s H->BindsTo s fd args (ps.zip us)->Vals vs us->sp vs H Q E →
  codeAny (model P w) A (.call (.ref f) args) (CR CX outer P w H s Q E) s
theorem eZ.mono {P:Program} {w:World} {K:FG_} {mg:Str->Option Value} {base:Heap} {CX:Qi} {j k:Nat} {f:Addr} {fd:FuncData} {ps:LS_} {sp:Sp} (F:eZ P w K mg base CX j f fd ps sp) (h:j<=k) :
  eZ P w K mg base CX k f fd ps sp:=⟨F.len,λA outer s H args us vs Q E hr=>F.run A outer s H args us vs Q E (hr.mono h)⟩
theorem eZ.imp {P:Program} {w:World} {K:FG_} {mg:Str->Option Value} {base:Heap} {CX:Qi} {k:Nat} {f:Addr} {fd:FuncData} {ps:LS_} {sp sp':Sp} (F:eZ P w K mg base CX k f fd ps sp)
  (h:∀ vs H Q E,sp' vs H Q E->sp vs H Q E):eZ P w K mg base CX k f fd ps sp':=
 ⟨λvs H Q E q=>F.len vs H Q E (h _ _ _ _ q),λA outer s H args us vs Q E hr he hb hv hs=>F.run A outer s H args us vs Q E hr he hb hv (h _ _ _ _ hs)⟩
theorem HN.make {P:Program} {w:World} {K:FG_} {mg:Str->Option Value} {base:Heap} {A:Around} {outer:List Env} {s:Shared} {H:Hp} (e:HN P w K mg base A outer s H) (C:Addr) (us:List Value) (kw:List (Str×Value)) :
  HN P w K mg base (A.under (.builtin "type.__call__" ⟨.ref C::us,kw⟩)) outer s H:=⟨by first|exact e.frames|(simpa[Around.under,Code.envs,Code.isFrame,pushEnvs] using e.frames),e.mod,e.bs,e.Wn,e.wX,e.frf,e.hok,e.bare⟩
theorem HN.in1 {P:Program} {w:World} {K:FG_} {mg:Str->Option Value} {base:Heap} {A:Around} {outer:List Env} {s:Shared} {H:Hp} (e:HN P w K mg base A outer s H) :
  HN P w K mg base A.in1 outer s H:=⟨e.frames,e.mod,e.bs,e.Wn,e.wX,e.frf,e.hok,e.bare⟩
section
variable {X:Cx} {pins:List (Addr×Obj)} {σ:St} {H:Hp} {s s':Shared}
theorem Inv.env0 (I:Inv X pins σ H s):HN X.prog X.w X.K X.mg X.base X.A X.stack s H:=
 ⟨I.ok.frames,I.ok.mod,I.bs,zI I.ok.Wn I.sz,I.stack,I.Dg,I.hok,I.bare⟩
theorem Inv.after {Q:VK} {u:Value} (I:Inv X pins σ H s) (h:CE X.stack X.prog X.w H s Q u s'):EP X pins σ Q u s':=by
 obtain⟨v,H',os,bare,un,hok,r,q⟩:=h;obtain⟨hh,g,d,t,os'⟩:=s';obtain rfl:os'=s.os:=os;exact⟨v,H',I.call (h':=hh) (g':=g) (d':=d) (t':=t) (ch:=[]) un hok bare (λb z=>absurd z (by simp)),r,q⟩
end
def aga (sp:Sp) (dvs:List V) (E:XK) (t:TA):TE:=λσ H Q=>t σ H λvs H1=>sp (vs++dvs) H1 Q E
def Binds (K:FG_) (fd:FuncData) (ps:LS_) (ds:List Value):Prop:=
 ∀ (s:Shared) (us:List Value),K.In s.heap->(us++ds).length=ps.length->BindsTo s fd ⟨us,[]⟩ (ps.zip (us++ds))
theorem Binds.all {K:FG_} {fd:FuncData} {ps:LS_} (h:∀ us:List Value,us.length=ps.length->bindArgs fd ⟨us,[]⟩=pure (ps.zip us)):Binds K fd ps []:=λs us _ hl=>by
 rw[qA] at hl ⊢;exact .of_eq (h us hl)
def Passes (CX:Qi) (X:Cx) (E:XK):Prop:=∀ (pins:List (Addr×Obj)) (σ:St) (H:Hp) (s:Shared) (e:Value) (s':Shared),Inv X pins σ H s->CX X.stack H s E e s'->X.xe e s'
section
variable {X:Cx} {CX:Qi} {k:Nat} {f C:Addr} {fd:FuncData} {ps:LS_} {sp:Sp} {dvs:List V} {ds:List Value} {E:XK} {x m:Str} {p pos apos:Pos} {e o:Expr} {es:List Expr} {ta:TE} {t:TA}
theorem adV {pins:List (Addr×Obj)} {σ:St} {H:Hp} {s:Shared} {Q:VK} {us:List Value} {vs:List V} (F:eZ X.prog X.w X.K X.mg X.base CX k f fd ps sp) (hr:gW k X.A) (hb:Binds X.K fd ps ds) (hd:Vals dvs ds) (hx:Passes CX X E)
  (I:Inv X pins σ H s) (r:Vals vs us) (h:sp (vs++dvs) H Q E):wpAny (model X.prog X.w) X.A (call (.ref f) us) (EP X pins σ Q) X.xe s:=by
 have r2:Vals (vs++dvs) (us++ds):=r.append hd;have hl:(us++ds).length=ps.length:=by rw[<-r2.length];exact F.len _ _ _ _ h
 refine k7 (ku (F.run X.A X.stack s H ⟨us,[]⟩ (us++ds) (vs++dvs) Q E hr I.env0 (hb s us I.HJ hl) r2 h) λr s' hq=>?_);cases r with
 |error e=>exact hx pins σ H s e s' I hq
 |ok fl=>
  cases fl with
  |ret u=>exact I.after hq
  |next=>exact False.elim hq
  |brk=>exact False.elim hq
  |cont=>exact False.elim hq
theorem J1 (F:eZ X.prog X.w X.K X.mg X.base CX k f fd ps sp) (hr:gW k X.A) (hg:Gl X x) (hm:X.mg x=some (.ref f)) (hk:keepIn X.K (.ref f)=true) (hb:Binds X.K fd ps ds) (hd:Vals dvs ds) (hx:Passes CX X E)
  (ha:PA X (e::es) t) (hdb:(x==("__debug__" : Str))=false:=by decide) (he:starEach (e::es) X.env=(false,eval e X.env)::starEach es X.env:=by rfl) (hpl:(backTo pos (starEach es X.env)).any (·.1)=false:=by rfl) :
  PE X (.Call (.Name x p) (e::es) [] pos) (aga sp dvs E t):=by
 intro pins s σ H Q I h;refine kl (yH I hg hm ?_ hdb);refine callWith_K (h₀:=X.base) I.ok.mod.kin hk (gU (ha pos pins s σ H _ I h) λus s1 ⟨vs,H1,I1,r,q⟩=>⟨I1.HJ,?_⟩) he hpl;exact adV F hr hb hd hx I1 r q
end
section
variable {X:Cx} {CX:Qi} {k:Nat} {f C:Addr} {fd:FuncData} {ps ks:LS_} {sp:Sp} {E:XK} {x m:Str} {p pos apos kpos:Pos} {e o:Expr} {es:List Expr} {kws:List Keyword} {te ta:TE} {t tk:TA} {nm:Option Str}
variable {g:List Value->List Value->List Value} {gV:List V->List V->List V}
end
structure bw (N P:LS_) (sc:Scope):Prop where
 kind:sc.kind=.function
 co:sc.isCoroutine=false
 gen:sc.isGenerator=false
 nd:N.Nodup
 pre:N.take P.length=P
 par:∀ x∈P,sc.names.lookup x=some .local\/sc.names.lookup x=some .cell
 adW:∀ y∈sc.names,y.2≠.free
theorem IW {kindOf:Str->Option NameKind} {x:Str}:∀ {binds:List (Str×Value)} {m:Str->Option Value},(∀ v,(x,v)∉binds)->bindL kindOf binds m x=m x
 |[],_,_=>rfl
 |(n,v)::r,m,h=>by
  unfold bindL;rw[IW λw hw=>h w (zr _ hw)];split
  ·have:x≠n:=by rintro rfl;exact h v zo
   simp[this]
  ·rfl
theorem Ja {kindOf:Str->Option NameKind} {x:Str}:∀ {binds:List (Str×Value)} {m:Str->Option Value},(∀ v,(x,v)∉binds)->bindC kindOf binds m x=m x
 |[],_,_=>rfl
 |(n,v)::r,m,h=>by
  unfold bindC;rw[Ja λw hw=>h w (zr _ hw)];split
  ·rfl
  ·have:x≠n:=by rintro rfl;exact h v zo
   simp[this]
theorem Jb {kindOf:Str->Option NameKind} {x:Str} {v:Value}:∀ {P:LS_} {vs:List Value} {i:Nat} {m:Str->Option Value},P.Nodup->P[i]?=some x->vs[i]?=some v->kindOf x=some .local →
  bindL kindOf (P.zip vs) m x=some v
 |[],_,_,_,_,h,_,_=>by simp at h
 |_::_,[],_,_,_,_,h,_=>by simp at h
 |p::P,w::vs,0,m,nd,h1,h2,hk=>by
  simp at h1 h2;subst h1;subst h2;show bindL kindOf ((p,w)::P.zip vs) m p=_;unfold bindL;rw[IW λv hv=>(List.nodup_cons.mp nd).1 (List.of_mem_zip hv).1,zh hk];simp
 |p::P,w::vs,i+1,m,nd,h1,h2,hk=>by
  show bindL kindOf ((p,w)::P.zip vs) m x=_;unfold bindL;exact Jb (i:=i) (List.nodup_cons.mp nd).2 (by simpa using h1) (by simpa using h2) hk
theorem Jc {kindOf:Str->Option NameKind} {x:Str} {v:Value}:∀ {P:LS_} {vs:List Value} {i:Nat} {m:Str->Option Value},P.Nodup->P[i]?=some x->vs[i]?=some v->kindOf x≠some .local →
  bindC kindOf (P.zip vs) m x=some v
 |[],_,_,_,_,h,_,_=>by simp at h
 |_::_,[],_,_,_,_,h,_=>by simp at h
 |p::P,w::vs,0,m,nd,h1,h2,hk=>by
  simp at h1 h2;subst h1;subst h2;show bindC kindOf ((p,w)::P.zip vs) m p=_;unfold bindC;rw[Ja λv hv=>(List.nodup_cons.mp nd).1 (List.of_mem_zip hv).1,zC hk];simp
 |p::P,w::vs,i+1,m,nd,h1,h2,hk=>by
  show bindC kindOf ((p,w)::P.zip vs) m x=_;unfold bindC;exact Jc (i:=i) (List.nodup_cons.mp nd).2 (by simpa using h1) (by simpa using h2) hk
def start (N:LS_) (vs:List V):St:=vs.map some++List.replicate (N.length - vs.length) none
def wY (CX:Qi) (P:Program) (w:World) (K:FG_) (mg:Str->Option Value) (base:Heap) (N:LS_) (qual:Str) (scope:Scope) (f:Addr) (cd:Value) (A:Around) (outer:List Env) (s:Shared) (H:Hp) (E:XK):Cx where
 prog:=P
 w:=w
 K:=K
 mg:=mg
 base:=base
 A:=A.deeper (envOfC qual scope s.heap.objs.size f cd)
 N:=N
 s₀:=s
 H₀:=H
 env:=envOfC qual scope s.heap.objs.size f cd
 outer:=outer
 stack:=envOfC qual scope s.heap.objs.size f cd::outer
 ex:=[]
 calm:=true
 fn:=λ_=>true
 pn:=[]
 xe:=λe s'=>wpAny (model P w) (A.deeper (envOfC qual scope s.heap.objs.size f cd)) (leaving (envOfC qual scope s.heap.objs.size f cd) e) (λ_ s''=>CX outer H s E e s'') (λe' s''=>CX outer H s E e' s'') s'
theorem Mr {sc:Scope} {n:Nat} {x:Str} (h:sc.names.lookup x=some .cell):∃ c,(cellsFrom n sc.names []).lookup x=some c:=by
 have q:=cellsFrom_some sc.names n [] (.inl h);exact Option.isSome_iff_exists.mp q
theorem Uy {CX:Qi} {P:Program} {w:World} {K:FG_} {mg:Str->Option Value} {base:Heap} {N ps:LS_} {qual:Str} {scope:Scope} {f:Addr} {cd:Value} {A:Around} {outer:List Env} {s s1:Shared} {H:Hp} {E:XK} {us:List Value} {vs:List V}
  (S:bw N ps scope) (hd:A.handled=none) (e0:HN P w K mg base A outer s H) (hl:vs.length=ps.length) (r:Vals vs us)
  (x:InCallC s s.heap.objs.size (bindL (envOfC qual scope s.heap.objs.size f cd).kindOf (ps.zip us) λ_=>none) (cellsFrom (s.heap.objs.size+1) scope.names []) (bindC (envOfC qual scope s.heap.objs.size f cd).kindOf (ps.zip us) λ_=>none) s1) :
  Inv (wY CX P w K mg base N qual scope f cd A outer s H E) [] (start N vs) H s1:=by
 have hpl:ps.length<=N.length:=by have:=congrArg List.length S.pre;rw[qB] at this;omega
 obtain⟨h1,tk,rfl,hk⟩:=x.done;have noA:∀ b:Addr,b∉(wY CX P w K mg base N qual scope f cd A outer s H E).ex:=λb z=>absurd (show b∈([]:List Addr) from z) (by simp);refine⟨⟨e0.mod,S.kind,rfl,rfl,zi _,λy z c h1 h2=>?_,λy hy=>?_,λy c _ h=>?_,λ_=>hd,Around.frames_deeper e0.frames,.inr ⟨rfl,rfl⟩,λb z=>absurd z (noA b),e0.bs,e0.Wn,λb _ _=>noA b,λb z=>absurd z (noA b),e0.wX,e0.frf⟩,
  rfl,e0.bare,Un.kept hk,⟨_,x.toInCall.ns,λi y v h1 h2 h3=>?_⟩,λy c h=>⟨_,x.cell y c h⟩,e0.hok.fresh (zi _),λy c h=>?_,λp hp=>absurd (show p∈([]:List (Addr×Obj)) from hp) (by simp),e0.hok.kept hk,?_⟩
 ·exact name_of_addr x.apart (kb h1) (kb h2)
 ·have hy:scope.names.lookup y=some .cell\/scope.names.lookup y=some .free:=hy;rcases hy with hy|hy
  ·exact Mr hy
  ·exact absurd rfl (S.adW _ (kb hy))
 ·exact JJ (x.above y c (kb h))
 ·have hi:i < vs.length:=by
   unfold start at h2;by_cases hi:i < vs.length
   ·exact hi
   ·rw[QR (by simpa using hi)] at h2;rw[jn] at h2;split at h2<;>cases h2
  have ha:vs[i]?=some v:=by
   unfold start at h2;rw[Z3 (by simpa using hi),ZO] at h2;cases e:vs[i]? with
   |none=>rw[e] at h2;cases h2
   |some a=>rw[e] at h2;cases h2;rfl
  obtain⟨u,hu,rv⟩:=r.get ha;have hp:ps[i]?=some y:=by
   rw[<-S.pre,List.getElem?_take_of_lt (by omega)];exact h1
  have ndP:ps.Nodup:=by rw[<-S.pre];exact S.nd.sublist (List.take_sublist _ _)
  refine⟨u,rv,?_⟩;rcases S.par y (Kt hp) with k|k
  ·exact .inl ⟨k,Jb ndP hp hu k⟩
  ·obtain⟨c,e⟩:=Mr (n:=s.heap.objs.size+1) k;refine .inr ⟨.inl k,c,e,?_⟩;have q:=x.cell y c e;rw[Jc ndP hp hu (by show scope.names.lookup y≠_;rw[k];decide)] at q;exact q
 ·exact e0.hok.fresh (JJ (x.above y c (kb h)))
 ·unfold start;show _=N.length;rw[zt,zz,List.length_replicate];omega
theorem acO {CX:Qi} {P:Program} {w:World} {K:FG_} {mg:Str->Option Value} {base:Heap} {k:Nat} {f:Addr} {name qual:Str} {params:Arguments} {body:List Stmt} {scope:Scope} {dV kV doc pm cdv ct oc:Value} {an od:Option Addr}
  {osl:Array (Option Value)} {N ps:LS_} {sp:Sp} (lk:K.lookup f=some ⟨oc,od,.func (fnOf name qual params body scope dV kV doc pm an cdv ct),osl⟩) (hcd:codeIn K cdv qual=true) (S:bw N ps scope)
  (len:∀ vs H Q E,sp vs H Q E->vs.length=ps.length)
  (hbody:∀ (A:Around) (outer:List Env) (s:Shared) (H:Hp) (vs:List V) (Q:VK) (E:XK),gW k (A.deeper (envOfC qual scope s.heap.objs.size f cdv))->sp vs H Q E →
   ∃ t,zU (wY CX P w K mg base N qual scope f cdv A outer s H E) body t/\t { nx:=λ_ H'=>Q .non H',rt:=Q } (start N vs) H) :
  eZ P w K mg base CX (k+1) f (fnOf name qual params body scope dV kV doc pm an cdv ct) ps sp:=by
 refine⟨len,λA outer s H args us vs Q E hr e0 hb r hsp=>?_⟩;have hl:=len _ _ _ _ hsp;have KX:K.In s.heap:=e0.mod.kin.keeps λb o e=>(e0.bs b o e).1;have lim:s.heap.NoLimit:=e0.mod.nolimit.keeps λb o e=>(e0.bs b o e).1;have hkind:∀ y∈ps.zip us,scope.names.lookup y.1=some .local\/(scope.names.lookup y.1=some .cell/\((cellsFrom (s.heap.objs.size+1) scope.names []).lookup y.1).isSome=true):=λ⟨n,v⟩ hy=>by
  rcases S.par n (List.of_mem_zip hy).1 with q|q
  ·exact .inl q
  ·exact .inr ⟨q,cellsFrom_some _ _ _ (.inl q)⟩
 refine codeAny_call_function hr.depth (KX _ _ lk) rfl S.co S.gen rfl (PySem.W.codeRec_of KX hcd) (hb _ _ _ _ ?_);refine wpAny_newFunctionEnv_cells S.kind hkind λenv he s1 x=>?_;subst he;refine⟨lim.keeps x.toInCall.keep,codeAny_func ?_⟩;obtain⟨t,ht,hq⟩:=hbody A outer s H vs Q E (hr.deeper _) hsp;have I:Inv (wY CX P w K mg base N qual scope f cdv A outer s H E) [] (start N vs) H s1:=Uy S hr.hd e0 hl r x;refine ZN (ht [] s1 (start N vs) H _ I hq) (λfl s' hs=>?_) λe s' hs=>hs;have fin:∀ {σ':St} {H':Hp} {v:V} {u:Value},Inv (wY CX P w K mg base N qual scope f cdv A outer s H E) [] σ' H' s'->RelV v u->Q v H'->CE outer P w H s Q u s':=
  λ{σ' H' v u} J rv q=>⟨v,H',J.os,J.bare,J.base,J.hok,rv,q⟩
 cases fl with
 |ret u=>
  obtain⟨v,σ',H',J,rv,q⟩:=hs;exact fin J rv q
 |next=>
  obtain⟨σ',H',J,q⟩:=hs;exact fin (v:=V.non) (u:=Value.none) J rfl q
 |brk=>
  obtain⟨_,_,_,q⟩:=hs;exact False.elim q
 |cont=>
  obtain⟨_,_,_,q⟩:=hs;exact False.elim q
end L2
namespace L2
open PySem PySem.Spec PyProof.Rows
section
variable {X:Cx} {x:Str} {p pos:Pos} {e:Expr} {es:List Expr} {t:TA} {id T:String} {r:List V->Hp->VK->Prop}
def tCB (r:List V->Hp->VK->Prop) (t:TA):TE:=λσ H Q=>t σ H λvs H1=>r vs H1 Q
theorem nO (hc:gF X (.builtin id) r) (hg:Gl X x) (hm:X.mg x=none) (hv:bootBuiltins x=some (.builtin id)) (ha:PA X (e::es) t) (hn:x ≠ "__name__" := by decide) (hdb:(x==("__debug__" : Str))=false:=by decide)
  (he:starEach (e::es) X.env=(false,eval e X.env)::starEach es X.env:=by rfl) (hpl:(backTo pos (starEach es X.env)).any (·.1)=false:=by rfl):PE X (.Call (.Name x p) (e::es) [] pos) (tCB r t):=by
 intro pins s σ H Q I h;refine kl (zX I hg hm hv ?_ hn hdb);exact PyProof.Rows.callWith_builtin1 (gU (ha pos pins s σ H _ I h) λus s1 ⟨vs,H1,I1,r1,q1⟩=>hc pins s1 σ H1 vs us Q I1 r1 q1) he hpl
theorem Jd (hc:gF X (.type T) r) (hg:Gl X x) (hm:X.mg x=none) (hv:bootBuiltins x=some (.type T)) (ha:PA X (e::es) t) (hn:x ≠ "__name__" := by decide) (hdb:(x==("__debug__" : Str))=false:=by decide)
  (he:starEach (e::es) X.env=(false,eval e X.env)::starEach es X.env:=by rfl) (hpl:(backTo pos (starEach es X.env)).any (·.1)=false:=by rfl):PE X (.Call (.Name x p) (e::es) [] pos) (tCB r t):=by
 intro pins s σ H Q I h;refine kl (zX I hg hm hv ?_ hn hdb);exact PyProof.Rows.callWith_type1 (gU (ha pos pins s σ H _ I h) λus s1 ⟨vs,H1,I1,r1,q1⟩=>hc pins s1 σ H1 vs us Q I1 r1 q1) he hpl
theorem Em (hc:gF X (.type T) r) (hg:Gl X x) (hm:X.mg x=none) (hv:bootBuiltins x=some (.type T)) (hn:x ≠ "__name__" := by decide) (hdb:(x==("__debug__" : Str))=false:=by decide) :
  PE X (.Call (.Name x p) [] [] pos) (tCB r aaz):=by
 intro pins s σ H Q I h;refine kl (zX I hg hm hv ?_ hn hdb);exact PyProof.Rows.callWith_type0 (hc pins s σ H [] [] Q I .nil h)
end
end L2
namespace HT
open PySem PyProof.Rows
section
open PySem.SeqAt
open PySem.AutoSeq1 (wpAny_loadPart')
open PySem.MeetsSeq PySem.MeetsSeq2 PySem.MeetsSeq3
end
section
variable {prog:Program} {w:World} {A:Around} {E:VP_} {s:Shared}
theorem aaA {t b:Addr} {vs ws:List Value} {Q:VP_} (ht:IsTup s.heap t vs.toArray) (hb:IsTup s.heap b ws.toArray) (hv:vs≠[])
  (h1:ws=[]->Q (.ref t) s) (h2:ws≠[]->Q (.ref s.heap.objs.size) { s with heap:=s.heap.push { cls:=.type "tuple", data:=.seq (vs++ws).toArray } })
  (hsz:vs.length+ws.length<=sizeLine):wpAny (model prog w) A (binaryOp .Add (.ref t) (.ref b)) Q E s:=by
 obtain⟨⟨cls,dd,data,sl⟩,ho,hc,n,hd⟩:=id ht;obtain⟨⟨cls2,dd2,data2,sl2⟩,ho2,hc2,n2,hd2⟩:=id hb;simp only at hc hd hc2 hd2;subst hc hd hc2 hd2;have e:vs.toArray++ws.toArray=(vs++ws).toArray:=by simp
 by_cases hw:ws=[]
 ·exact concat_meets ⟨_,ho,rfl⟩ ⟨_,ho2,rfl⟩ noFill_tuple_add seq_tuple_add PySem.F.slot_tuple_add yi (ya _ _)
   (tuple_addW1 t b vs.toArray ws.toArray n n2 dd dd2 sl sl2 (by simpa using hv) (by simp[hw])) ⟨ho,ho2,h1 hw⟩
 ·refine concat_meets ⟨_,ho,rfl⟩ ⟨_,ho2,rfl⟩ noFill_tuple_add seq_tuple_add PySem.F.slot_tuple_add yi (ya _ _)
   (tuple_addW2 t b vs.toArray ws.toArray n n2 dd dd2 sl sl2 (by simpa using hv) (by simpa using hw) (by rw[zS,zS];exact hsz)) ⟨ho,ho2,?_⟩
  rw[e];exact h2 hw
def jd (n d:Nat):Option Int->Nat
 |none=>d
 |some v=>if v < 0 then(v+(n:Int)).toNat else min v.toNat n
theorem Eo (n d:Nat):jd n d none=d:=rfl
theorem yJ (n d k:Nat):jd n d (some (k:Int))=min k n:=by
 show(if(k:Int) < 0 then((k:Int)+(n:Int)).toNat else min (k:Int).toNat n)=min k n;rw[zC (by omega),qS]
theorem adX (n d:Nat) (hd:d<=n) (o:Option Int):jd n d o<=n:=by
 cases o with
 |none=>exact hd
 |some v=>
  show(if v < 0 then(v+(n:Int)).toNat else min v.toNat n)<=n;by_cases hv:v < 0
  ·rw[zh hv];omega
  ·rw[zC hv];exact Nat.min_le_right _ _
theorem R7 (v:Int) (n d:Nat):(if v < 0 then max (v+(n:Int)) 0 else min v (n:Int))=((jd n d (some v):Nat):Int):=by
 show(if v < 0 then max (v+(n:Int)) 0 else min v (n:Int))=(((if v < 0 then(v+(n:Int)).toNat else min v.toNat n):Nat):Int);by_cases hv:v < 0
 ·simp only[zh hv];omega
 ·simp only[zC hv];omega
theorem Qw (lo hi:Option Int) (n:Nat):Builtin.Slice.sliceAdjust lo hi 1 (n:Int)=(((jd n 0 lo:Nat):Int),((jd n n hi:Nat):Int)):=by
 have h1:¬ ((1:Int) < 0):=by omega
 unfold Builtin.Slice.sliceAdjust;simp only[h1,Qb];refine Prod.ext ?_ ?_
 ·cases lo with
  |none=>rfl
  |some v=>exact R7 v n 0
 ·cases hi with
  |none=>rfl
  |some v=>exact R7 v n n
theorem Qx (i j:Nat):Builtin.Slice.slicePlaces (i:Int) (j:Int) 1=j - i:=by
 unfold Builtin.Slice.slicePlaces;have h1:(1:Int) > 0:=by omega
 simp only[h1,Jn,Int.ediv_one];split<;>omega
theorem Ep {v:Value} {o:Option Int} {Q:Option Int->Shared->Prop} (p:IsPart v o) (h:Q o s):wpAny (model prog w) A (Builtin.Slice.slicePartIndex v) Q E s:=by
 cases p with
 |none=>exact slicePart_none h
 |int i t=>exact slicePart_int h
theorem rR {sl:Addr} {vl vu:Value} {lo hi:Option Int} {n:Nat} {Q:Int×Int×Nat->Shared->Prop} (hs:s.heap.IsSliceOf sl vl vu .none) (pl:IsPart vl lo) (pu:IsPart vu hi)
  (h:Q (((jd n 0 lo:Nat):Int),1,jd n n hi - jd n 0 lo) s):wpAny (model prog w) A (Builtin.Slice.sliceApplied (.ref sl) (pure (n:Int))) Q E s:=by
 obtain⟨os,hos,hcs,hds⟩:=id hs;unfold Builtin.Slice.sliceApplied Builtin.Slice.sliceFields;refine zb (zb (kg hos hds (x:=vl) rfl (zb (kg hos hds (x:=vu) rfl (zb (kg hos hds (x:=.none) rfl (ze ?_)))))));refine zb (slicePart_none ?_);show wpAny _ _ (if((1:Int)==0)=true then _ else _) _ _ s;rw[zC (by decide)];refine zb (Ep pl (zb (Ep pu (zb (ze ?_)))));show wpAny _ _ (match Builtin.Slice.sliceAdjust lo hi 1 (n:Int) with|(lo,hi)=>pure (lo,(1:Int),Builtin.Slice.slicePlaces lo hi 1)) _ _ s;rw[Qw lo hi n];show wpAny _ _ (pure (((jd n 0 lo:Nat):Int),(1:Int),Builtin.Slice.slicePlaces ((jd n 0 lo:Nat):Int) ((jd n n hi:Nat):Int) 1)) _ _ s;rw[Qx];exact ze h
theorem W8 (xs:Array Value) (i k:Nat):((List.range k).filterMap λ(m:Nat)=>xs[((i:Int)+(m:Int) * 1).toNat]?).toArray=((xs.toList.drop i).take k).toArray:=by
 have e:(λ(m:Nat)=>xs[((i:Int)+(m:Int) * 1).toNat]?)=λm=>xs[i+m]?:=by
  funext m;have:((i:Int)+(m:Int) * 1).toNat=i+m:=by omega
  rw[this]
 rw[e];have:=pick_run xs i k;rw[List.filterMap_map] at this;have e2:((λx=>xs[x]?) ∘ λx=>i+x)=λm=>xs[i+m]?:=rfl;rw[e2] at this;rw[this]
theorem yK {t sl:Addr} {items:Array Value} {vl vu:Value} {lo hi:Option Int} {Q:VP_} (ht:IsTup s.heap t items) (hs:s.heap.IsSliceOf sl vl vu .none) (pl:IsPart vl lo) (pu:IsPart vu hi)
  (hw:¬ (jd items.size 0 lo=0/\jd items.size items.size hi=items.size))
  (h:Q (.ref s.heap.objs.size) { s with heap:=s.heap.push { cls:=.type "tuple", data:=.seq ((items.toList.drop (jd items.size 0 lo)).take (jd items.size items.size hi - jd items.size 0 lo)).toArray } })
  (hsz:items.size<=sizeLine):wpAny (model prog w) A (getItem (.ref t) (.ref sl)) Q E s:=by
 have R8:sizeOk (.seq ((items.toList.drop (jd items.size 0 lo)).take (jd items.size items.size hi - jd items.size 0 lo)).toArray):=by
  show((items.toList.drop (jd items.size 0 lo)).take (jd items.size items.size hi - jd items.size 0 lo)).toArray.size<=sizeLine;rw[zS,qB,ZU,qE];omega
 have hj:jd items.size items.size hi<=items.size:=adX _ _ (zi _) hi;obtain⟨os,hos,hcs,hds⟩:=id hs;have hTs:s.TypeIs (.ref sl) "slice" := ⟨os,hos,hcs⟩;unfold getItem
 try with_reducible refine qV ?_
 first|refine zb (ze ?_)|skip
 refine zb (wpAny_sequenceKey ht.typeIs (by decide) ?_);refine zb (yf (name:=Str.ofString "__getitem__") ht.typeIs PyProof.Rows.slot_tuple_getitem
  (ke PyProof.Rows.slot_tuple_getitem ht.typeIs entry_tuple_getitem ?_ (args_tuple_getitem _ _)))
 show wpAny _ _ (Builtin.Tuple.tupleItemsOf (.ref t) >>= _) _ _ s;refine zb (tupleItemsOf_ ht ?_);refine zb (jv hTs ?_);rw[zh (by decide)];refine zb (rR hs pl pu ?_);have hno:¬ ((((jd items.size 0 lo:Nat):Int)==0&&(1:Int)==1&&(jd items.size items.size hi - jd items.size 0 lo)==items.size)=true):=by
  intro q;rw[ZE,ZE] at q;have q1:((jd items.size 0 lo:Nat):Int)=0:=eq_of_beq q.1.1;have q2:jd items.size items.size hi - jd items.size 0 lo=items.size:=eq_of_beq q.2;exact hw ⟨by omega,by omega⟩
 show wpAny _ _ (if(((jd items.size 0 lo:Nat):Int)==0&&(1:Int)==1&&(jd items.size items.size hi - jd items.size 0 lo)==items.size)=true then _ else _) _ _ s;rw[zC hno,W8]
 first
  |exact zb (m:=Builtin.Tuple.tupleExact _) (qh (ze ⟨_,rfl,ze h⟩) R8)
  |exact zb (m:=Builtin.Tuple.tupleExact _) (qh (zb (ze (ze ⟨_,rfl,ze h⟩))) R8)
  |exact zb (zb (m:=Builtin.Tuple.tupleExact _) (qh (ze (ze ⟨_,rfl,ze h⟩)) R8))
  |exact zb (zb (m:=Builtin.Tuple.tupleExact _) (qh (ze ⟨_,rfl,ze h⟩) R8))
end
end HT
namespace L2
open PySem PySem.Spec PyProof.Rows
abbrev TO:=St->Hp->(Option Int->Hp->Prop)->Prop
def PO (X:Cx) (e:Option Expr) (t:TO):Prop:=
 ∀ (pins:List (Addr×Obj)) (s:Shared) (σ:St) (H:Hp) (Q:Option Int->Hp->Prop),Inv X pins σ H s->t σ H Q →
  wpAny (model X.prog X.w) X.A (evalPart e X.env) (λu s'=>∃ o H',Inv X pins σ H' s'/\IsPart u o/\Q o H') X.xe s
def aaB:TO:=λ_ H Q=>Q none H
def agc (t:TE):TO:=λσ H Q=>t σ H λx H1=>∃ i,x=.int i/\Q (some i) H1
section
variable {X:Cx} {e:Expr} {te:TE} {lo hi:Option Expr} {tl th:TO} {pos p2:Pos}
theorem aaC:PO X none aaB:=by
 intro pins s σ H Q I h;rw[evalPart_none];exact ze ⟨none,H,I,.none,h⟩
theorem aaD (h:PE X e te):PO X (some e) (agc te):=by
 intro pins s σ H Q I hw;rw[evalPart_some];refine gU (h pins s σ H _ I hw) λu s1 ⟨x,H1,I1,r1,q1⟩=>?_;obtain⟨i,rfl,q⟩:=q1;obtain⟨t,rfl⟩:=r1;exact⟨some i,H1,I1,.int i t,q⟩
def SlR (X:Cx) (r:V->Option Int->Option Int->Hp->VK->Prop):Prop:=
 ∀ (pins:List (Addr×Obj)) (s:Shared) (σ:St) (H:Hp) (x:V) (v vl vu:Value) (lo hi:Option Int) (sl:Addr) (Q:VK),Inv X pins σ H s->RelV x v->s.heap.IsSliceOf sl vl vu .none->IsPart vl lo->IsPart vu hi->r x lo hi H Q →
  ∃ T id,typeLookup (.type T) "__getitem__" = pure (some (.builtin id))/\s.TypeIs v T/\wpAny (model X.prog X.w) X.A (getItem v (.ref sl)) (EP X pins σ Q) X.xe s
theorem SlR.or {r r':V->Option Int->Option Int->Hp->VK->Prop} (h:SlR X r) (h':SlR X r'):SlR X (λx lo hi H Q=>r x lo hi H Q\/r' x lo hi H Q):=by
 intro pins s σ H x v vl vu lo hi sl Q I rx hs pl pu q;rcases q with q|q
 ·exact h pins s σ H x v vl vu lo hi sl Q I rx hs pl pu q
 ·exact h' pins s σ H x v vl vu lo hi sl Q I rx hs pl pu q
def tSl (r:V->Option Int->Option Int->Hp->VK->Prop) (te:TE) (tl th:TO):TE:=λσ H Q=>te σ H λx H1=>tl σ H1 λl H2=>th σ H2 λu H3=>r x l u H3 Q
theorem W9 {r:V->Option Int->Option Int->Hp->VK->Prop} (hr:SlR X r) (he:PE X e te) (hl:PO X lo tl) (hu:PO X hi th):PE X (.Subscript e (.Slice lo hi none p2) pos) (tSl r te tl th):=by
 intro pins s σ H Q I h;refine Subscript_ (gU (he pins s σ H _ I h) λv s1 ⟨x,H1,I1,r1,q1⟩=>?_);refine wpAny_Slice (gU (hl pins s1 σ H1 _ I1 q1) λvl s2 ⟨l,H2,I2,pl,q2⟩=>gU (hu pins s2 σ H2 _ I2 q2) λvu s3 ⟨u,H3,I3,pu,q3⟩=>?_);rw[evalPart_none];refine ze ?_;have I4:Inv X pins σ H3 { s3 with heap:=s3.heap.push { cls:=.type "slice", data:=.fields #[vl,vu,.none] } }:=I3.kept (t':=s3.toks) λb ob q=>zd _ q;obtain⟨T,id,hT,ht,hg⟩:=hr pins { s3 with heap:=s3.heap.push { cls:=.type "slice", data:=.fields #[vl,vu,.none] } } σ H3 x v vl vu l u s3.heap.objs.size Q I4 r1 (Heap.IsSliceOf.new ..) pl pu q3;show wpAny (model X.prog X.w) X.A (subscriptTail e (.Slice lo hi none p2) v (.ref s3.heap.objs.size)) (EP X pins σ Q) X.xe { s3 with heap:=s3.heap.push { cls:=.type "slice", data:=.fields #[vl,vu,.none] } };exact tail_any (ops:=[.ref s3.heap.objs.size,v]) ht hT hg (by with_unfolding_all rfl)
def Ms (xs:List V) (lo hi:Option Int):List V:=(xs.drop (HT.jd xs.length 0 lo)).take (HT.jd xs.length xs.length hi - HT.jd xs.length 0 lo)
theorem Bf (xs:List V) (lo hi:Option Int):(Ms xs lo hi).length<=xs.length:=by
 unfold Ms;rw[qB,ZU];omega
def aiJ (K:FG_):V->Option Int->Option Int->Hp->VK->Prop:=λx lo hi H Q=>∃ a xs,x=.ref a/\yG K H a xs ∧
 ¬ (HT.jd xs.length 0 lo=0/\HT.jd xs.length xs.length hi=xs.length)/\∀ p,H p=none->Q (.ref p) (upd H p (.tup (Ms xs lo hi)))
theorem adY:SlR X (aiJ X.K):=by
 intro pins s σ H x v vl vu lo hi sl Q I rx hs pl pu h;obtain⟨a,xs,rfl,hx,hw,q⟩:=h;cases rx;obtain⟨its,r,ht,hz⟩:=I.tuple hx;have hlen:its.toArray.size=xs.length:=by rw[zS];exact r.length.symm
 refine⟨"tuple", _,PyProof.Rows.slot_tuple_getitem.lookup,ht.typeIs,?_⟩;refine HT.yK ht hs pl pu (by rw[hlen];exact hw) ?_ (by rw[hlen];exact hz);rw[hlen];refine⟨.ref s.heap.objs.size,_,I.laid (t':=s.toks) (o:=.tup (Ms xs lo hi)) (λb ob q=>zd _ q) (zi _) ?_,rfl,q _ (I.hok.fresh (zi _))⟩;exact⟨zI (Bf xs lo hi) hz,_,(r.drop (HT.jd xs.length 0 lo)).take (HT.jd xs.length xs.length hi - HT.jd xs.length 0 lo),sY.new _ _⟩
def agd (K:FG_):R2:=λx y H Q=>∃ a b xs ys,x=.ref a/\y=.ref b/\yG K H a xs/\yG K H b ys/\xs≠[]/\xs.length+ys.length<=sizeLine ∧
 (ys=[]->Q (.ref a) H)/\(ys≠[]->∀ p,H p=none->Q (.ref p) (upd H p (.tup (xs++ys))))
theorem Vals.Dm {xs:List V} {us:List Value} (r:Vals xs us):us=[]↔xs=[]:=by
 cases r with
 |nil=>simp
 |cons _ _=>simp
theorem aaE:uP X (binaryOp .Add) (agd X.K):=by
 intro pins s σ H x y v u Q I rx ry h;obtain⟨a,b,xs,ys,rfl,rfl,ha,hb,hx,hz,q1,q2⟩:=h;cases rx;cases ry;obtain⟨its,r1,p1,_⟩:=I.tuple ha;obtain⟨its2,r2,p2,_⟩:=I.tuple hb;refine HT.aaA p1 p2 (λz=>hx (r1.Dm.mp z)) (λz=>⟨.ref a,H,I,rfl,q1 (r2.Dm.mp z)⟩) (λz=>?_) (by rw[<-r1.length,<-r2.length];exact hz);refine⟨.ref s.heap.objs.size,_,I.laid (t':=s.toks) (o:=.tup (xs++ys)) (λb ob q=>zd _ q) (zi _) ?_,rfl,q2 (λw=>z (r2.Dm.mpr w)) _ (I.hok.fresh (zi _))⟩;exact⟨by rw[zt];exact hz,_,r1.append r2,sY.new _ _⟩
end
end L2
namespace L2
open PySem PySem.Spec PyProof.Rows
def ixN (n:Nat) (i:Int):Option Nat:=if 0<=i then(if i < n then some i.toNat else none) else if -(n:Int)<=i then some (i+n).toNat else none
def Er {α:Type} (xs:List α) (i:Int):Option α:=(ixN xs.length i).bind λj=>xs[j]?
theorem aaF {n:Nat} {i:Int} {j:Nat} (h:ixN n i=some j):seqIndex? i n=some j/\j < n ∧ -(n:Int)<=i/\i < n:=by
 unfold ixN at h;by_cases h0:0<=i
 ·rw[zh h0] at h;by_cases h1:i < n
  ·rw[zh h1] at h;have e:i.toNat=j:=JI h;exact⟨by rw[seqIndex_of h0 h1,e],by omega,by omega,h1⟩
  ·rw[zC h1] at h;cases h
 ·rw[zC h0] at h;by_cases h1 : -(n:Int)<=i
  ·rw[zh h1] at h;have e:(i+n).toNat=j:=JI h;exact⟨by rw[seqIndex_neg (by omega) h1,e],by omega,h1,by omega⟩
  ·rw[zC h1] at h;cases h
theorem J2 {α:Type} {xs:List α} {i:Int} {v:α} (h:Er xs i=some v):∃ j,seqIndex? i xs.length=some j/\xs[j]?=some v/\j < xs.length ∧ -(xs.length:Int)<=i/\i < xs.length:=by
 unfold Er at h;cases e:ixN xs.length i with
 |none=>rw[e] at h;cases h
 |some j=>
  rw[e] at h;obtain⟨h1,h2,h3,h4⟩:=aaF e;exact⟨j,h1,h,h2,h3,h4⟩
def R9 (b:Expr):Prop:=∀ o i,subscripted b false o i=operate [o,i] (getItem o i)
def IxR (X:Cx) (r:R2):Prop:=
 ∀ (value slice:Expr) (pins:List (Addr×Obj)) (s:Shared) (σ:St) (H:Hp) (x y:V) (v u:Value) (Q:VK),Inv X pins σ H s->RelV x v->RelV y u->r x y H Q →
  subscripted slice false v u=operate [v,u] (getItem v u)->wpAny (model X.prog X.w) X.A (subscriptTail value slice v u) (EP X pins σ Q) X.xe s
def MtR (X:Cx) (id:String) (r:V->List V->Hp->VK->Prop):Prop:=
 ∀ (pins:List (Addr×Obj)) (s:Shared) (σ:St) (H:Hp) (x:V) (xs:List V) (v:Value) (us:List Value) (Q:VK),Inv X pins σ H s->RelV x v->Vals xs us->r x xs H Q →
  wpAny (model X.prog X.w) X.A (call (.builtin id) (v::us)) (EP X pins σ Q) X.xe s
section
variable {X:Cx} {a b:Expr} {ta tb:TE} {pos:Pos}
theorem IxR.or {r r':R2} (h:IxR X r) (h':IxR X r'):IxR X (λx y H Q=>r x y H Q\/r' x y H Q):=by
 intro value slice pins s σ H x y v u Q I rx ry q hs;rcases q with q|q
 ·exact h value slice pins s σ H x y v u Q I rx ry q hs
 ·exact h' value slice pins s σ H x y v u Q I rx ry q hs
theorem MtR.or {id:String} {r r':V->List V->Hp->VK->Prop} (h:MtR X id r) (h':MtR X id r'):MtR X id (λx xs H Q=>r x xs H Q\/r' x xs H Q):=by
 intro pins s σ H x xs v us Q I rx rs q;rcases q with q|q
 ·exact h pins s σ H x xs v us Q I rx rs q
 ·exact h' pins s σ H x xs v us Q I rx rs q
theorem agf {r:R2} (hr:IxR X r) (ha:PE X a ta) (hb:PE X b tb) (hs:R9 b):PE X (.Subscript a b pos) (tOp r ta tb):=by
 intro pins s σ H Q I h;exact Subscript_ (adJ ha hb I h λv u s2 x y H2 I2 rx ry q=>hr a b pins s2 σ H2 x y v u Q I2 rx ry q (hs _ _))
def agg (K:FG_):R2:=λx y H Q=>∃ p xs i v,x=.ref p/\y=.int i/\sX K H p xs/\Er xs i=some v/\Q v H
def agh (K:FG_):R2:=λx y H Q=>∃ p xs i v,x=.ref p/\y=.int i/\yG K H p xs/\Er xs i=some v/\Q v H
def agj:R2:=λx y H Q=>∃ z i c,x=.str z/\y=.int i/\z.length<=sizeLine/\Er z.cps.toList i=some c/\Q (.str ⟨#[c]⟩) H
theorem aaI:IxR X (agg X.K):=by
 intro value slice pins s σ H x y v u Q I rx ry h hs;obtain⟨p,xs,i,z,rfl,rfl,hq,he,q⟩:=h;cases rx;obtain⟨t,rfl⟩:=ry;obtain⟨its,r,pl,hz⟩:=I.list hq;obtain⟨j,h1,h2,h3,h4,h5⟩:=J2 he;obtain⟨w,ew,R5⟩:=r.get h2;have hl:=r.length;have hn:=z7;have fin:EP X pins σ Q w s:=⟨z,H,I,R5,q⟩;by_cases h0:0<=i
 ·have hj:i.toNat=j:=by
   rw[seqIndex_of h0 h5] at h1;exact JI h1
  exact item_listR pl.isList h0 (by omega) (by rw[hj];simpa using ew) fin hs
 ·have hj:(i+(its.toArray.size:Int)).toNat=j:=by
   rw[seqIndex_neg (by omega) h4] at h1;rw[zS,<-hl];exact JI h1
  exact subscriptTail_builtinR (x:=w) pl.isList.typeIs slot_list_getitem.lookup
   (wpAny_getItem_list_neg (Q:=λr s'=>r=w/\EP X pins σ Q r s') pl.isList (by omega) (by rw[zS]<;>omega) (by omega) (by rw[hj];simpa using ew) ⟨rfl,fin⟩) hs
theorem ad0:IxR X (agh X.K):=by
 intro value slice pins s σ H x y v u Q I rx ry h hs;obtain⟨p,xs,i,z,rfl,rfl,hq,he,q⟩:=h;cases rx;obtain⟨t,rfl⟩:=ry;obtain⟨its,r,pl,hz⟩:=I.tuple hq;obtain⟨j,h1,h2,h3,h4,h5⟩:=J2 he;obtain⟨w,ew,R5⟩:=r.get h2;have hl:=r.length;have hn:=z7;have fin:EP X pins σ Q w s:=⟨z,H,I,R5,q⟩;exact subscriptTail_builtinR (x:=w) pl.typeIs slot_tuple_getitem.lookup
  (getItem_tuple (j:=j) (Q:=λr s'=>r=w/\EP X pins σ Q r s') pl (by omega) (by omega) (by rw[zS,<-hl];exact h1) (by simpa using ew) ⟨rfl,fin⟩) hs
theorem ad1:IxR X agj:=by
 intro value slice pins s σ H x y v u Q I rx ry h hs;obtain⟨z,i,c,rfl,rfl,hz,he,q⟩:=h;obtain⟨t,rfl⟩:=rx;obtain⟨t',rfl⟩:=ry;obtain⟨j,h1,h2,h3,h4,h5⟩:=J2 he;have hl:z.cps.toList.length=z.length:=by simp[Str.length]
 rw[hl] at h1 h4 h5;have hn:=z7;exact tail_any (typeIs_str s z t) slot_str_getitem.lookup (getItem_str (c:=c) (by
  have e1:decide (i < -(2 ^ 63:Int))=false:=ZA (by omega);have e2:decide (i>=2 ^ 63)=false:=ZA (by omega);rw[e1,e2,Bool.or_false]) (by rw[h1];simpa using h2) ⟨.str ⟨#[c]⟩,H,I.tok _,⟨_,rfl⟩,q⟩) hs
def rIx (K:FG_):R2:=λx y H Q=>agg K x y H Q\/agh K x y H Q\/agj x y H Q
theorem ad2:IxR X (rIx X.K):=aaI.or (ad0.or ad1)
theorem Inv.lst {pins:List (Addr×Obj)} {σ:St} {H:Hp} {s:Shared} {p:Addr} {xs:List V} (I:Inv X pins σ H s) (h:H p=some (.lst xs)) :
  ∃ (its:List Value) (n:Nat),Vals xs its/\s.heap.get? p=some { cls:=.type "list", data:=.seq its.toArray n }/\xs.length<=sizeLine:=by
 obtain⟨z,its,n,r,e⟩:=I.hok p _ h;exact⟨its,n,r,e,z⟩
theorem J3 (lo hi:Option Int) (n:Nat):(sliceBounds lo hi none n).1=((HT.jd n 0 lo:Nat):Int)/\(sliceBounds lo hi none n).2.1=((HT.jd n n hi:Nat):Int)/\(sliceBounds lo hi none n).2.2=1:=by
 refine⟨?_,?_,rfl⟩
 ·cases lo with
  |none=>simp[sliceBounds,HT.jd]
  |some i=>
   simp only[sliceBounds,HT.jd,Option.getD_none,show(1:Int) > 0 by decide,Jn];by_cases h:i < 0
   ·simp only[h,Jn]<;>omega
   ·simp only[h,Qb]<;>omega
 ·cases hi with
  |none=>simp[sliceBounds,HT.jd]
  |some i=>
   simp only[sliceBounds,HT.jd,Option.getD_none,show(1:Int) > 0 by decide,Jn];by_cases h:i < 0
   ·simp only[h,Jn]<;>omega
   ·simp only[h,Qb]<;>omega
theorem HS (its:List Value) (lo hi:Option Int):slicePick its.toArray lo hi none=((its.drop (HT.jd its.length 0 lo)).take (HT.jd its.length its.length hi - HT.jd its.length 0 lo)).toArray:=by
 obtain⟨h1,h2,h3⟩:=J3 lo hi its.toArray.size;unfold slicePick;rw[h1,h2,h3];simp only[sliceRange_one,pick_run,zS]<;>rfl
def aiK (K:FG_):V->Option Int->Option Int->Hp->VK->Prop:=λx lo hi H Q=>∃ a xs,x=.ref a/\sX K H a xs/\∀ p,H p=none->Q (.ref p) (upd H p (.lst (Ms xs lo hi)))
theorem aaJ:SlR X (aiK X.K):=by
 intro pins s σ H x v vl vu lo hi sl Q I rx hs pl pu h;obtain⟨a,xs,rfl,hx,q⟩:=h;cases rx;obtain⟨its,r,ht,hz⟩:=I.list hx;have hlen:=r.length;refine⟨"list", _,slot_list_getitem.lookup,ht.isList.typeIs,?_⟩;refine wpAny_getItem_list_slice ht.isList hs pl pu .none (by simp) ?_ (by rw[zS]<;>omega);rw[HS,<-hlen];refine⟨.ref s.heap.objs.size,_,I.laid (t':=s.toks) (o:=.lst (Ms xs lo hi)) (λb ob q=>zd _ q) (zi _) ?_,rfl,q _ (I.hok.fresh (zi _))⟩;exact⟨zI (Bf xs lo hi) hz,_,0,(r.drop (HT.jd xs.length 0 lo)).take (HT.jd xs.length xs.length hi - HT.jd xs.length 0 lo),zl _ rfl⟩
def uy:V->Bool
 |.non=>true
 |.bl _=>true
 |.int _=>true
 |.str _=>true
 |_=>false
def eqV:V->V->Bool
 |.non,.non=>true
 |.bl a,.bl b=>a==b
 |.bl a,.int b=>(if a then 1 else 0)==b
 |.int a,.bl b=>a==(if b then 1 else 0)
 |.int a,.int b=>a==b
 |.str a,.str b=>a==b
 |_,_=>false
theorem ad3 {A:Around} {s:Shared} {y x:V} {u v:Value} (ry:RelV y u) (rx:RelV x v) (fy:uy y=true) (fx:uy x=true):SeqAt.EqAt A s u v (eqV y x):=by
 cases y with
 |non=>
  cases ry;cases x with
  |non=>cases rx;exact SeqAt.EqAt.same _
  |bl b=>cases rx;exact SeqAt.EqAt.none_bool b
  |int b=>obtain⟨t,rfl⟩:=rx;exact SeqAt.EqAt.none_int b t
  |str b=>obtain⟨t,rfl⟩:=rx;exact SeqAt.EqAt.none_str b t
  |_=>exact absurd (show false=true from fx) zk
 |bl a=>
  cases ry;cases x with
  |non=>cases rx;exact SeqAt.EqAt.bool_none a
  |bl b=>cases rx;exact SeqAt.EqAt.bool_bool a b
  |int b=>obtain⟨t,rfl⟩:=rx;exact SeqAt.EqAt.bool_int a b t
  |str b=>obtain⟨t,rfl⟩:=rx;exact SeqAt.EqAt.bool_str a b t
  |_=>exact absurd (show false=true from fx) zk
 |int a=>
  obtain⟨t',rfl⟩:=ry;cases x with
  |non=>cases rx;exact SeqAt.EqAt.int_none a t'
  |bl b=>cases rx;exact SeqAt.EqAt.int_bool a t' b
  |int b=>obtain⟨t,rfl⟩:=rx;exact SeqAt.EqAt.int_int a t' b t
  |str b=>obtain⟨t,rfl⟩:=rx;exact SeqAt.EqAt.int_str a t' b t
  |_=>exact absurd (show false=true from fx) zk
 |str a=>
  obtain⟨t',rfl⟩:=ry;cases x with
  |non=>cases rx;exact SeqAt.EqAt.str_none a t'
  |bl b=>cases rx;exact SeqAt.EqAt.str_bool a t' b
  |int b=>obtain⟨t,rfl⟩:=rx;exact SeqAt.EqAt.str_int a t' b t
  |str b=>obtain⟨t,rfl⟩:=rx;exact SeqAt.EqAt.str_str a t' b t
  |_=>exact absurd (show false=true from fx) zk
 |_=>exact absurd (show false=true from fy) zk
def eqU (x:V) (u:Value):Bool:=match u with
 |.none=>eqV .non x
 |.bool b=>eqV (.bl b) x
 |.int i _=>eqV (.int i) x
 |.str z _=>eqV (.str z) x
 |_=>false
theorem Xa {x y:V} {u:Value} (r:RelV y u) (f:uy y=true):eqU x u=eqV y x:=by
 cases y with
 |non=>cases r;rfl
 |bl b=>cases r;rfl
 |int i=>obtain⟨t,rfl⟩:=r;rfl
 |str z=>obtain⟨t,rfl⟩:=r;rfl
 |_=>exact absurd (show false=true from f) zk
theorem J4 {x:V}:∀ {xs:List V} {us:List Value},Vals xs us->xs.all uy=true->us.any (eqU x)=xs.any λy=>eqV y x
 |_,_,.nil,_=>rfl
 |y::xs,u::us,.cons r t,f=>by
  rw[ka,ZE] at f;rw[JY,JY,Xa r f.1,J4 t f.2]
theorem Es {A:Around} {s:Shared} {x:V} {v:Value} (rx:RelV x v) (fx:uy x=true):∀ {xs:List V} {us:List Value},Vals xs us->xs.all uy=true->∀ u∈us,SeqAt.EqAt A s u v (eqU x u)
 |_,_,.nil,_=>λu hu=>by cases hu
 |y::xs,u::us,.cons r t,f=>λu' hu=>by
  rw[ka,ZE] at f;rcases List.mem_cons.mp hu with rfl|hu
  ·rw[Xa r f.1];exact ad3 r rx f.1 fx
  ·exact Es rx fx t f.2 u' hu
def inV (x:V) (xs:List V):Bool:=xs.any λy=>eqV y x
def rIn (K:FG_) (neg:Bool):R2:=λx y H Q=>∃ p xs,y=.ref p/\(sX K H p xs\/yG K H p xs)/\uy x=true/\xs.all uy=true/\Q (.bl (if neg then !inV x xs else inV x xs)) H
theorem Uz:uP X (compareOp .In) (rIn X.K false):=by
 intro pins s σ H x y v u Q I rx ry h;obtain⟨p,xs,rfl,hq,fx,fs,q⟩:=h;cases ry;rcases hq with hq|hq
 ·obtain⟨its,r,pl,hz⟩:=I.list hq;refine SeqAt.in_listAt (eqU x) pl.isList (λw hw=>Es rx fx r fs w (by simpa using hw)) ⟨.bl _,H,I,rfl,?_⟩;rw[show its.toArray.any (eqU x)=its.any (eqU x) by simp,J4 r fs];exact q
 ·obtain⟨its,r,pl,hz⟩:=I.tuple hq;refine SeqAt.in_tupleAt (eqU x) pl (λw hw=>Es rx fx r fs w (by simpa using hw)) ⟨.bl _,H,I,rfl,?_⟩;rw[show its.toArray.any (eqU x)=its.any (eqU x) by simp,J4 r fs];exact q
theorem J5:gF X (.builtin "len") (λxs H Q=>∃ p ys,xs=[.ref p]/\(sX X.K H p ys\/yG X.K H p ys)/\Q (.int ys.length) H):=by
 intro pins s σ H xs us Q I r h;obtain⟨p,ys,rfl,hq,q⟩:=h;obtain⟨u,rfl,rx⟩:=vals1 r;cases rx;have hn:=z7;rcases hq with hq|hq
 ·obtain⟨its,r',pl,hz⟩:=I.list hq;have hlen:=r'.length;exact Calls.call_len_list pl.isList (by simp only[zS]<;>omega) ⟨.int ys.length,H,I.tok _,⟨s.toks+1,by rw[zS,hlen]⟩,q⟩
 ·obtain⟨its,r',pl,hz⟩:=I.tuple hq;have hlen:=r'.length;exact len_tuple pl (by simp only[zS]<;>omega) ⟨.int ys.length,H,I.tok _,⟨s.toks+1,by rw[zS,hlen]⟩,q⟩
theorem J6:gF X (.builtin "len") (λxs H Q=>∃ z,xs=[.str z]/\z.length<=sizeLine/\Q (.int z.length) H):=by
 intro pins s σ H xs us Q I r h;obtain⟨z,rfl,hz,q⟩:=h;obtain⟨u,rfl,t,rfl⟩:=vals1 r;have hn:=z7;exact len_str (by omega) ⟨.int z.length,H,I.tok _,⟨_,rfl⟩,q⟩
theorem gF.or {f:Value} {r r':List V->Hp->VK->Prop} (h:gF X f r) (h':gF X f r'):gF X f (λxs H Q=>r xs H Q\/r' xs H Q):=by
 intro pins s σ H xs us Q I rs q;rcases q with q|q
 ·exact h pins s σ H xs us Q I rs q
 ·exact h' pins s σ H xs us Q I rs q
theorem HW:gF X (.type "tuple") (λxs H Q=>∃ p ys,xs=[.ref p]/\((sX X.K H p ys/\∀ l,H l=none->Q (.ref l) (upd H l (.tup ys)))\/(yG X.K H p ys/\Q (.ref p) H))):=by
 intro pins s σ H xs us Q I r h;obtain⟨p,ys,rfl,h⟩:=h;obtain⟨u,rfl,rx⟩:=vals1 r;cases rx;rcases h with⟨hq,q⟩|⟨hq,q⟩
 ·obtain⟨its,r',pl,hz⟩:=I.list hq;have hlen:=r'.length;refine call_tuple_list pl.isList (λh' kp=>?_) (by simp only[zS]<;>omega);have I1:Inv X pins σ H { s with heap:=h' }:=I.kept (t':=s.toks) kp;have I2:Inv X pins σ (upd H h'.objs.size (.tup ys)) { s with heap:=h'.push { cls:=.type "tuple", data:=.seq its.toArray } }:=
   I1.laid (t':=s.toks) (λb o e=>zd _ e) (zi _) (show fU X.prog X.w _ _ _ (.tup ys) from⟨hz,its,r',sY.new _ _⟩)
  exact⟨.ref h'.objs.size,_,I2,rfl,q _ (I1.hok.fresh (zi _))⟩
 ·obtain⟨its,r',pl,hz⟩:=I.tuple hq;exact call_tuple_same pl ⟨.ref p,H,I,rfl,q⟩
def tyV (K:FG_) (T:String) (x:V) (H:Hp):Prop:=match x with
 |.str _=>T = "str"
 |.int _=>T = "int"
 |.ref p=>(T = "list" ∧ ∃ xs,sX K H p xs)\/(T = "tuple" ∧ ∃ o,K.lookup p=some o/\o.cls=.type "tuple" ∧ o.dict=none) ∨
   (T = "dict" ∧ ((∃ kvs,H p=some (.dK kvs))\/∃ kvs,H p=some (.dT kvs)))\/(T = "set" ∧ ∃ S n,H p=some (.set S n))
 |_=>False
theorem ad4 {pins:List (Addr×Obj)} {σ:St} {H:Hp} {s:Shared} {T:String} {x:V} {v:Value} (I:Inv X pins σ H s) (r:RelV x v) (ty:tyV X.K T x H) :
  s.TypeIs v T/\∀ a,v=.ref a->∃ ob,s.heap.get? a=some ob/\ob.dict=none:=by
 cases x with
 |str z=>
  obtain⟨t,rfl⟩:=r;cases(show T = "str" from ty);exact⟨typeIs_str s z t,λ_ e=>nomatch e⟩
 |int i=>
  obtain⟨t,rfl⟩:=r;cases(show T = "int" from ty);exact⟨typeIs_int s i t,λ_ e=>nomatch e⟩
 |ref p=>
  cases r;rcases ty with⟨rfl,xs,hq⟩|⟨rfl,o,hk,hc,hd⟩|⟨rfl,hk⟩|⟨rfl,S,n,hk⟩
  ·obtain⟨its,_,pl,_⟩:=I.list hq;refine⟨pl.isList.typeIs,λa e=>?_⟩;cases e;obtain⟨o,n,e,c,hd,_⟩:=pl;exact⟨o,e,hd⟩
  ·refine⟨⟨o,I.HJ p o hk,hc⟩,λa e=>?_⟩;cases e;exact⟨o,I.HJ _ o hk,hd⟩
  ·have z:∃ o,s.heap.get? p=some o/\o.ExactDict:=by
    rcases hk with⟨kvs,hk⟩|⟨kvs,hk⟩
    ·obtain⟨_,_,_,_,o,_,_,e,ex,_⟩:=I.hok p _ hk;exact⟨o,e,ex⟩
    ·obtain⟨_,_,_,_,o,_,_,e,ex,_⟩:=I.hok p _ hk;exact⟨o,e,ex⟩
   obtain⟨o,e,ex⟩:=z;refine⟨⟨o,e,ex.1⟩,λa e2=>?_⟩;cases e2;exact⟨o,e,ex.2.1⟩
  ·obtain⟨o,_,_,_,e,ex,_⟩:=I.hok p _ hk;refine⟨⟨o,e,ex.1⟩,λa e2=>?_⟩;cases e2;exact⟨o,e,ex.2.1⟩
 |_=>exact False.elim ty
def tBM (K:FG_) (T:String) (r:V->List V->Hp->VK->Prop) (to:TE) (t:TA):TE:=λσ H Q=>to σ H λx H1=>tyV K T x H1/\t σ H1 λxs H2=>r x xs H2 Q
variable {o e:Expr} {es:List Expr} {to:TE} {t:TA} {name:Str} {apos cpos:Pos} {T id:String} {r:V->List V->Hp->VK->Prop}
theorem Et (pa:PlainAttrs T) (slot:Slot T name id) (hty:typeOf (.builtin id)=pure (.type "method_descriptor")) (hm:MtR X id r) (ho:PE X o to) (ha:PA X (e::es) t)
  (hbase:attributeBase o name X.env (eval o X.env)=eval o X.env:=by rfl)
  (hfew:((backTo cpos (starEach (e::es) X.env)).all (λx=>!x.1)&&(backToKw cpos (keywordEach [] X.env)).all (λx=>x.1.isSome)
   && decide ((e::es).length+([]:List Keyword).length+(if([]:List Keyword).isEmpty then 0 else 1) < 30))=true:=by rfl)
  (hline:(apos.endLine==cpos.line)=true:=by rfl) (hs:starEach (e::es) X.env=(false,eval e X.env)::starEach es X.env:=by rfl) (hplain:(backTo cpos (starEach es X.env)).any (·.1)=false:=by rfl) :
  PE X (.Call (.Attribute o name apos) (e::es) [] cpos) (tBM X.K T r to t):=by
 intro pins s σ H Q I h;refine wpAny_Call_method_late hbase hfew hline rfl (gU (ho pins s σ H _ I h) λv s1 ⟨x,H1,I1,r1,ty,q1⟩=>?_);obtain⟨h1,h2⟩:=ad4 I1 r1 ty;refine⟨T,id,pa,slot,hty,h1,h2,?_⟩;have hA:=ha cpos pins s1 σ H1 _ I1 q1;rw[hs] at hA ⊢;refine Calls.callWith_builtin (by show(false||(backTo cpos (starEach es X.env)).any (·.1))=false;rw[hplain]<;>rfl) (Calls.evalArgs_plain ?_);exact gU hA λus s2 ⟨vs,H2,I2,r2,q2⟩=>hm pins s2 σ H2 x vs v us Q I2 r1 r2 q2
end
end L2
namespace L2
open PySem PySem.Spec PyProof.Rows
def MtM (X:Cx) (id:String) (r:V->List V->Hp->VK->Prop):Prop:=
 ∀ (pins:List (Addr×Obj)) (s:Shared) (σ:St) (H:Hp) (x:V) (xs:List V) (v:Value) (us:List Value) (Q:VK),Inv X pins σ H s->RelV x v->Vals xs us->r x xs H Q →
  wpAny (model X.prog X.w) X.A (call (.builtin id) (v::us)) (EP X pins σ Q) X.xe s
theorem Vals.one:∀ {x:V} {us:List Value},Vals [x] us->∃ u,us=[u]/\RelV x u
 |_,_,.cons r .nil=>⟨_,rfl,r⟩
theorem Vals.two:∀ {x y:V} {us:List Value},Vals [x,y] us->∃ u v,us=[u,v]/\RelV x u/\RelV y v
 |_,_,_,.cons r (.cons q .nil)=>⟨_,_,rfl,r,q⟩
theorem Vals.zero:∀ {us:List Value},Vals [] us->us=[]
 |_,.nil=>rfl
theorem Vals.eraseIdx:∀ {xs:List V} {us:List Value} (i:Nat),Vals xs us->Vals (xs.eraseIdx i) (us.eraseIdx i)
 |_,_,_,.nil=>.nil
 |_,_,0,.cons _ t=>t
 |_,_,i+1,.cons r t=>.cons r (Vals.eraseIdx i t)
theorem Vals.reverse {xs:List V} {us:List Value} (h:Vals xs us):Vals xs.reverse us.reverse:=by
 induction h with
 |nil=>exact .nil
 |cons r t ih=>rw[KU,KU];exact Vals.append ih (.cons r .nil)
theorem Vals.rep {xs:List V} {us:List Value} (h:Vals xs us):∀ k:Nat,Vals (List.replicate k xs).flatten (List.replicate k us).flatten
 |0=>.nil
 |k+1=>by
  rw[qa,qa,QP,QP];exact Vals.append h (Vals.rep h k)
theorem foldl_rep (its:List Value):∀ (k:Nat) (acc:List Value),
  List.foldl (λx1 x2=>x1++x2) acc.toArray (List.replicate k its.toArray)=(acc++(List.replicate k its).flatten).toArray
 |0,acc=>by simp
 |k+1,acc=>by
  have e:acc.toArray++its.toArray=(acc++its).toArray:=by simp
  have e2:(acc++its)++(List.replicate k its).flatten=acc++(List.replicate (k+1) its).flatten:=by
   rw[qa,QP,JP]
  rw[<-e2,<-foldl_rep its k (acc++its),<-e,qa,kF]
section
variable {X:Cx} {pins:List (Addr×Obj)} {σ:St} {H:Hp} {s:Shared} {l b:Addr} {xs ys zs:List V}
theorem Inv.ad5 {its its':List Value} {n:Nat} {f:Array Value->Array Value} {t':Nat} (I:Inv X pins σ H s) (hH:H l=some (.lst xs))
  (e:s.heap.get? l=some { cls:=.type "list", data:=.seq its.toArray n }) (hf:f its.toArray=its'.toArray) (hv:Vals ys its') (hz:ys.length<=sizeLine) :
  Inv X pins σ (upd H l (.lst ys)) { s with heap:=s.heap.update l (Obj.mapSeq f),toks:=t' }:=by
 have q:=PySem.IsL.update e f;rw[hf] at q;refine I.write (x:=l) (e:=l) (by rw[hH];exact trivial) (.inl rfl) (λb' u hb hu=>(QQ s.heap (Obj.mapSeq f) (Q2 hb)).trans hu) ⟨_,q⟩ ?_;exact⟨hz,its',_,hv,q⟩
theorem Inv.aiL {its:List Value} {t':Nat} (I:Inv X pins σ H s) (hv:Vals ys its) (hz:ys.length<=sizeLine) :
  Inv X pins σ (upd H s.heap.objs.size (.lst ys)) { s with heap:=s.heap.push { cls:=.type "list", data:=.seq its.toArray },toks:=t' }:=
 I.laid (λ_ _ q=>zd _ q) (zi _) ⟨hz,its,0,hv,zl _ rfl⟩
theorem Inv.fresh (I:Inv X pins σ H s):H s.heap.objs.size=none:=I.hok.fresh (zi _)
theorem Inv.agk (I:Inv X pins σ H s) (hH:H l=some (.lst xs)):xs.length<=sizeLine/\∃ (its:List Value) (n:Nat),Vals xs its/\xs.length=its.length/\s.heap.get? l=some { cls:=.type "list", data:=.seq its.toArray n }:=by
 obtain⟨z,its,n,r,e⟩:=I.hok l _ hH;exact⟨z,its,n,r,r.length,e⟩
theorem Xb {n:Nat} (h:n<=sizeLine):Builtin.List.listTooLong n=false:=by
 unfold Builtin.List.listTooLong;exact ZA (by omega)
end
section
variable {X:Cx}
def aaM:V->List V->Hp->VK->Prop:=λx vs H Q=>∃ l xs y,x=.ref l/\vs=[y]/\H l=some (.lst xs)/\xs.length < sizeLine/\Q .non (upd H l (.lst (xs++[y])))
theorem z8:MtM X "list.append" aaM:=by
 intro pins s σ H x vs v us Q I rx rv h;obtain⟨l,xs,y,rfl,rfl,hH,hz,q⟩:=h;cases rx;obtain⟨u,rfl,ru⟩:=rv.one;obtain⟨z,its,n,r,hl,e⟩:=I.agk hH;refine call_meets F.slot_list_append ⟨_,e,rfl⟩ F.entry_list_append (F.args_list_append_2 _ _) (PySem.list_append l its.toArray n u (by rw[zS];omega)) ⟨e,?_⟩;refine⟨.non,_,I.ad5 (its':=its++[u]) hH e (by simp) (r.append (.cons ru .nil)) ?_,rfl,q⟩;rw[zt,ZY];omega
def aiM:R2:=λx y H Q=>∃ l k xs,x=.ref l/\y=.int k/\H l=some (.lst xs) ∧ -(2 ^ 63)<=k/\k < 2 ^ 63/\xs.length * k.toNat<=sizeLine ∧
 ∀ p,H p=none->Q (.ref p) (upd H p (.lst (List.replicate k.toNat xs).flatten))
theorem len_rep {α:Type} (xs:List α) (k:Nat):(List.replicate k xs).flatten.length=k * xs.length:=by
 induction k with
 |zero=>simp
 |succ k ih=>rw[qa,QP,zt,ih,Nat.succ_mul,Nat.add_comm]
theorem ad6:uP X (binaryOp .Mult) aiM:=by
 intro pins s σ H x y v u Q I rx ry h;obtain⟨l,k,xs,rfl,rfl,hH,h1,h2,hz,q⟩:=h;cases rx;obtain⟨t,rfl⟩:=ry;obtain⟨z,its,n,r,hl,e⟩:=I.agk hH;have hlen:its.toArray.size * k.toNat<=sizeLine:=by rw[zS,<-hl];exact hz
 have hcap:¬ its.toArray.size * k.toNat > (2 ^ 63 - 1) / 8:=by
  have:(sizeLine:Nat)<=(2 ^ 63 - 1) / 8:=by decide
  omega
 have hfit:¬ (!Builtin.List.listFitsIndex k)=true:=by
  rw[fitsIndex_both h1 h2];exact zk
 have agl:¬ Builtin.List.listTooLong (its.toArray.size * k.toNat)=true:=by
  rw[Xb hlen];exact zk
 have hnew:List.foldl (λx1 x2=>x1++x2) #[] (List.replicate (if its.toArray.isEmpty=true then 0 else k.toNat) its.toArray)=(List.replicate k.toNat its).flatten.toArray:=by
  have f0:∀ m:Nat,List.foldl (λx1 x2=>x1++x2) #[] (List.replicate m its.toArray)=(List.replicate m its).flatten.toArray:=λm=>by
   have:=foldl_rep its m [];rw[QY] at this;exact this
  rw[f0];cases its with
  |nil=>simp
  |cons a r'=>rw[zC (by simp)]
 refine wpAny_binaryOp_repeat_ref (T := "list") (U := "int") (by decide) ⟨_,e,rfl⟩ (λs'=>typeIs_int s' k t) noFill_list_mul F.fills_int_mul F.slot_int_rmul repeat_list F.slot_int_index.lookup
  (call_meets F.slot_int_rmul (typeIs_int s k t) F.entry_int_rmul (F.args_int_rmul_2 _ _) (int___rmul___int_list k t l its.toArray n)
   ⟨e,rfl,⟨_,e,rfl⟩,call_meets F.slot_list_mul ⟨_,e,rfl⟩ F.entry_list_mul (F.args_list_mul_2 _ _) (AutoListH.list___mul___list_int_3 l its.toArray n k t hfit hcap agl) ⟨e,?_⟩⟩)
 rw[hnew];exact⟨.ref _,_,I.aiL (t':=s.toks) (r.rep k.toNat) (by rw[len_rep,Nat.mul_comm];exact hz),rfl,q _ I.fresh⟩
end
section
variable {prog:Program} {w:World} {A:Around} {E:VP_} {s:Shared}
end
section
variable {X:Cx}
end
end L2
namespace L2
open PySem PySem.Spec PyProof.Rows
section
variable {κ:Type} [DecidableEq κ]
def yd (kvs:List (κ×V)) (k:κ):Option V:=(kvs.find? λkv=>decide (kv.1=k)).map (·.2)
def putK (kvs:List (κ×V)) (k:κ) (v:V):List (κ×V):=
 if(kvs.any λkv=>decide (kv.1=k))=true then kvs.map (λkv=>if kv.1=k then(kv.1,v) else kv) else kvs++[(k,v)]
def acQ (kvs:List (κ×V)) (k:κ):List (κ×V):=kvs.filter λkv=>decide (kv.1≠k)
theorem uW {p:κ×V} {r:List (κ×V)} {k:κ} (e:p.1=k):yd (p::r) k=some p.2:=by simp[yd,js,e]
theorem uX {p:κ×V} {r:List (κ×V)} {k:κ} (e:¬ p.1=k):yd (p::r) k=yd r k:=by simp[yd,js,e]
theorem Eu (k:κ):∀ kvs:List (κ×V),(kvs.any λkv=>decide (kv.1=k))=(yd kvs k).isSome
 |[]=>rfl
 |p::r=>by
  rw[JY];by_cases e:p.1=k
  ·simp only[uW e,QE e,Bool.true_or,Option.isSome_some]
  ·rw[uX e,ZA e,Bool.false_or];exact Eu k r
theorem Bg (kvs:List (κ×V)) (k:κ) (v:V):(putK kvs k v).length<=kvs.length+1:=by
 unfold putK;split
 ·rw[zz];omega
 ·rw[zt,Zp,List.length_nil];omega
theorem zW.UG {o:Option V} {u:Option Value} (r:zW o u):o.isSome=u.isSome:=by
 cases o with
 |none=>cases u with
  |none=>rfl
  |some _=>exact(show False from r).elim
 |some _=>cases u with
  |none=>exact(show False from r).elim
  |some _=>rfl
theorem zW.getD {o:Option V} {u:Option Value} {d:V} {d':Value} (r:zW o u) (rd:RelV d d'):RelV (o.getD d) (u.getD d'):=by
 cases o with
 |none=>cases u with
  |none=>exact rd
  |some _=>exact(show False from r).elim
 |some _=>cases u with
  |none=>exact(show False from r).elim
  |some _=>exact r
theorem KV.val {kvs:List (κ×V)} {vs:List (κ×Value)} (r:KV kvs vs) (k:κ):zW (yd kvs k) (valueAt vs k):=by
 unfold KV at r
 induction r with
 |nil=>exact True.intro
 |@cons p q ps qs h t ih=>
  obtain⟨h1,h2⟩:=h;by_cases e:p.1=k
  ·have e':q.1=k:=h1.symm.trans e;have b:valueAt (q::qs) k=some q.2:=by simp[valueAt,js,e']
   rw[uW e,b];exact h2
  ·have e':¬ q.1=k:=λz=>e (h1.trans z);have b:valueAt (q::qs) k=valueAt qs k:=by simp[valueAt,js,e']
   rw[uX e,b];exact ih
theorem KV.any {kvs:List (κ×V)} {vs:List (κ×Value)} (r:KV kvs vs) (k:κ):(kvs.any λkv=>decide (kv.1=k))=vs.any λkv=>decide (kv.1=k):=by
 unfold KV at r
 induction r with
 |nil=>rfl
 |cons h t ih=>rw[JY,JY,ih,h.1]
theorem KV.repl {kvs:List (κ×V)} {vs:List (κ×Value)} (r:KV kvs vs) (k:κ) {y:V} {u:Value} (ry:RelV y u) :
  KV (kvs.map λkv=>if kv.1=k then(kv.1,y) else kv) (vs.map λkv=>if kv.1=k then(kv.1,u) else kv):=by
 unfold KV at r ⊢
 induction r with
 |nil=>exact .nil
 |@cons p q ps qs h t ih=>
  rw[zw,zw];refine .cons ?_ ih;obtain⟨h1,h2⟩:=h;by_cases e:p.1=k
  ·rw[zh e,zh (h1.symm.trans e)];exact⟨h1,ry⟩
  ·rw[zC e,zC (λz=>e (h1.trans z))];exact⟨h1,h2⟩
theorem KV.put {kvs:List (κ×V)} {vs:List (κ×Value)} (r:KV kvs vs) (k:κ) {y:V} {u:Value} (ry:RelV y u):KV (putK kvs k y) (stored vs k u):=by
 unfold putK stored;rw[r.any k];by_cases e:(vs.any λkv=>decide (kv.1=k))=true
 ·rw[zh e,zh e];exact r.repl k ry
 ·rw[zC e,zC e];exact Paired.snoc r ⟨rfl,ry⟩
theorem KV.drop {kvs:List (κ×V)} {vs:List (κ×Value)} (r:KV kvs vs) (k:κ):KV (acQ kvs k) (without vs k):=by
 unfold KV at r ⊢;unfold acQ without
 induction r with
 |nil=>exact .nil
 |@cons p q ps qs h t ih=>
  obtain⟨h1,h2⟩:=h;rw[yb,yb];by_cases e:p.1=k
  ·have a:¬ decide (p.1≠k)=true:=by simp[e]
   have b:¬ decide (q.1≠k)=true:=by simp[h1.symm.trans e]
   rw[zC a,zC b];exact ih
  ·have e':¬ q.1=k:=λz=>e (h1.trans z);have a:decide (p.1≠k)=true:=by simp[e]
   have b:decide (q.1≠k)=true:=by simp[e']
   rw[zh a,zh b];exact .cons ⟨h1,h2⟩ ih
theorem KV.length {kvs:List (κ×V)} {vs:List (κ×Value)} (r:KV kvs vs):kvs.length=vs.length:=Paired.length r
end
theorem Xc {P:Program} {w:World} {k:Key} {u:Value} (r:RelV (kV k) u):(dh P w).is k u=true:=by
 cases k with
 |inl i=>obtain⟨t,e⟩:=(show ∃ t,u=Value.int i t from r);subst e;exact Mg P w i t
 |inr x=>obtain⟨t,e⟩:=(show ∃ t,u=Value.str x t from r);subst e;exact Mh P w x t
theorem Je {P:Program} {w:World}:∀ {ks:List Key} {us:List Value},Vals (ks.map kV) us->ItemsAre (dh P w) ks us
 |[],_,r=>by rw[List.map_nil] at r;cases r;exact .nil
 |k::ks,_,r=>by
  rw[zw] at r;cases r with
  |cons h t=>exact .cons (Xc h) (Je t)
abbrev KT (H:Hp):List (List Key×V)->List (List Key×Addr×Value)->Prop:=Paired λp q=>p.1=q.1/\H q.2.1=some (.tup (p.1.map kV))/\RelV p.2 q.2.2
theorem KT.val {H:Hp} {kvs:List (List Key×V)} {xs:List (List Key×Addr×Value)} (r:KT H kvs xs) (k:List Key):zW (yd kvs k) ((atKey xs k).map (·.2)):=by
 induction r with
 |nil=>exact True.intro
 |@cons p q ps qs h t ih=>
  obtain⟨h1,_,h2⟩:=h;by_cases e:p.1=k
  ·have e':q.1=k:=h1.symm.trans e;have b:atKey (q::qs) k=some q.2:=by simp[atKey,js,e']
   rw[uW e,b];exact h2
  ·have e':¬ q.1=k:=λz=>e (h1.trans z);have b:atKey (q::qs) k=atKey qs k:=by simp[atKey,js,e']
   rw[uX e,b];exact ih
theorem KT.repl {H:Hp} {kvs:List (List Key×V)} {xs:List (List Key×Addr×Value)} (r:KT H kvs xs) (k:List Key) {y:V} {u:Value} (ry:RelV y u) :
  KT H (kvs.map λkv=>if kv.1=k then(kv.1,y) else kv) (xs.map (putAt k u)):=by
 induction r with
 |nil=>exact .nil
 |@cons p q ps qs h t ih=>
  rw[zw,zw];refine .cons ?_ ih;obtain⟨h1,h2,h3⟩:=h;unfold putAt;by_cases e:p.1=k
  ·rw[zh e,zh (h1.symm.trans e)];exact⟨h1,h2,ry⟩
  ·rw[zC e,zC (λz=>e (h1.trans z))];exact⟨h1,h2,h3⟩
theorem KT.put {H:Hp} {kvs:List (List Key×V)} {xs:List (List Key×Addr×Value)} (r:KT H kvs xs) (k:List Key) {b:Addr} {y:V} {u:Value} (hb:H b=some (.tup (k.map kV))) (ry:RelV y u) :
  KT H (putK kvs k y) (storedH xs k b u):=by
 have e:(kvs.any λkv=>decide (kv.1=k))=(atKey xs k).isSome:=by
  rw[Eu,(r.val k).UG,Option.isSome_map]
 unfold putK storedH;rw[e];by_cases q:(atKey xs k).isSome=true
 ·rw[zh q,zh q];exact r.repl k ry
 ·rw[zC q,zC q];exact Paired.snoc r ⟨rfl,hb,ry⟩
theorem KT.keeps {H H':Hp} {kvs:List (List Key×V)} {xs:List (List Key×Addr×Value)} (r:KT H kvs xs) (ht:∀ b ys,H b=some (.tup ys)->H' b=some (.tup ys)):KT H' kvs xs:=
 Paired.aaq r λ_ _ z=>⟨z.1,ht _ _ z.2.1,z.2.2⟩
section
variable {P:Program} {w:World} {H:Hp} {h:Heap} {a:Addr}
theorem acR {u:HO} (ok:uT P w H h) (e:Rd H a u):fU P w H h a u:=e.ok ok
theorem xg {kvs:List (Key×V)} (ok:uT P w H h) (e:Rd H a (.dK kvs)):kvs.length<=sizeLine/\(a==sysModules)=false/\∃ vs,KV kvs vs/\h.DictOf (dh P w) a vs:=
 show fU P w H h a (.dK kvs) from acR ok e
theorem agm {kvs:List (Key×V)} (ok:uT P w H h) (e:H a=some (.dK kvs)):kvs.length<=sizeLine/\(a==sysModules)=false/\∃ vs,KV kvs vs/\h.DictOf (dh P w) a vs:=xg ok (.inl e)
theorem Qy {ks:List Key} (ok:uT P w H h) (e:H a=some (.tup (ks.map kV))):(tupleKind (dh P w)).is h ks a:=by
 obtain⟨_,its,r,o,h1,h2,⟨n,h3⟩,_⟩:=(show fU P w H h a (.tup (ks.map kV)) from ok a _ e);exact⟨o,its.toArray,n,h1,h2,h3,by simpa using Je r⟩
theorem Xd {kvs:List (List Key×V)} (ok:uT P w H h) (e:Rd H a (.dT kvs)):kvs.length<=sizeLine/\(a==sysModules)=false ∧
  ∃ xs,KT H kvs xs/\h.DictOfH (tupleKind (dh P w)) a xs:=by
 obtain⟨z,y,xs,r,o,es,ep,h1,h2,h3,h4,h5⟩:=(show fU P w H h a (.dT kvs) from acR ok e);refine⟨z,y,xs,r,o,es,ep,h1,h2,h3,h4,λx hx=>?_,h5⟩;have all:∀ {l:List (List Key×V)} {m:List (List Key×Addr×Value)},KT H l m->∀ x∈m,(tupleKind (dh P w)).is h x.1 x.2.1:=by
  intro l m q
  induction q with
  |nil=>intro x hx;exact nomatch hx
  |@cons p q ps qs hq t ih=>
   intro x hx;rcases List.mem_cons.mp hx with e|hx
   ·subst e;exact Qy ok (by rw[<-hq.1];exact hq.2.1)
   ·exact ih x hx
 exact all r x hx
theorem agn {kvs:List (List Key×V)} (ok:uT P w H h) (e:H a=some (.dT kvs)):kvs.length<=sizeLine/\(a==sysModules)=false ∧
  ∃ xs,KT H kvs xs/\h.DictOfH (tupleKind (dh P w)) a xs:=Xd ok (.inl e)
end
def Qz (H:Hp) (a:Addr) (y:V) (r:Option V):Prop:=
 (∃ kvs k,Rd H a (.dK kvs)/\y=kV k/\r=yd kvs k)\/∃ kvs k b,Rd H a (.dT kvs)/\y=.ref b/\H b=some (.tup (k.map kV))/\r=yd kvs k
def QC (H:Hp) (a:Addr) (y v:V) (H':Hp):Prop:=
 (∃ kvs k,H a=some (.dK kvs)/\y=kV k/\kvs.length < sizeLine/\H'=upd H a (.dK (putK kvs k v))) ∨
 ∃ kvs k b,H a=some (.dT kvs)/\y=.ref b/\H b=some (.tup (k.map kV))/\kvs.length < sizeLine/\H'=upd H a (.dT (putK kvs k v))
theorem Qz.k {H:Hp} {a:Addr} {kvs:List (Key×V)} {k:Key} (e:H a=some (.dK kvs)):Qz H a (kV k) (yd kvs k):=.inl ⟨kvs,k,.inl e,rfl,rfl⟩
theorem Qz.t {H:Hp} {a b:Addr} {kvs:List (List Key×V)} {k:List Key} (e:H a=some (.dT kvs)) (eb:H b=some (.tup (k.map kV))):Qz H a (.ref b) (yd kvs k):=.inr ⟨kvs,k,b,.inl e,rfl,eb,rfl⟩
theorem QC.k {H:Hp} {a:Addr} {kvs:List (Key×V)} {k:Key} {v:V} (e:H a=some (.dK kvs)) (hl:kvs.length < sizeLine):QC H a (kV k) v (upd H a (.dK (putK kvs k v))):=.inl ⟨kvs,k,e,rfl,hl,rfl⟩
theorem QC.t {H:Hp} {a b:Addr} {kvs:List (List Key×V)} {k:List Key} {v:V} (e:H a=some (.dT kvs)) (eb:H b=some (.tup (k.map kV))) (hl:kvs.length < sizeLine) :
  QC H a (.ref b) v (upd H a (.dT (putK kvs k v))):=.inr ⟨kvs,k,b,e,rfl,eb,hl,rfl⟩
section
variable {X:Cx} {pins:List (Addr×Obj)} {σ:St} {H:Hp} {s:Shared} {a:Addr} {y v:V} {u r:Value} {o:Option V} {A:Around} {E:VP_}
theorem Inv.big (I:Inv X pins σ H s):sysModules < s.heap.objs.size:=by
 have h:mainGlobals < s.heap.objs.size:=(I.mod.glob.keeps I.bk).lt;exact Nat.lt_trans (by decide) h
theorem UJ {Q:VP_} (hu:A.units+1 < cLine) (I:Inv X pins σ H s) (g:Qz H a y (some v)) (ry:RelV y u) (h:∀ w' s',Inv X pins σ H s'->RelV v w'->Q w' s') :
  wpAny (model X.prog X.w) A (getItem (.ref a) u) Q E s:=by
 rcases g with⟨kvs,k,e,ey,l⟩|⟨kvs,k,b,e,ey,eb,l⟩
 ·subst ey;obtain⟨z,hd,vs,rel,dd⟩:=xg I.hok e;obtain⟨w',hw,R5⟩:=zW.some_of (v:=v) (o:=valueAt vs k) (by rw[l];exact rel.val k);exact wpAny_getItem_of (Xc ry) dd.mapOf hw (h w' _ (I.tok _) R5)
 ·subst ey;cases(show u=Value.ref b from ry);obtain⟨z,hd,xs,rel,dd⟩:=Xd I.hok e;obtain⟨w',hw,R5⟩:=zW.some_of (v:=v) (o:=(atKey xs k).map (·.2)) (by rw[l];exact rel.val k);obtain⟨p,hp,hp2⟩:=Option.map_eq_some_iff.mp hw;refine wpAny_getItem_heap (tupleKind_room_in1 hu) (Qy I.hok eb) dd hp ?_;rw[hp2];exact h w' _ (I.tok _) R5
theorem Sd {h':Heap} {t':Nat} {ob:HO} (I:Inv X pins σ H s) (mu:Mut (H a)) (hs:Heap.SameBut a s.heap h') (he:∃ q,h'.get? a=some q) (new:fU X.prog X.w (upd H a ob) h' a ob) :
  Inv X pins σ (upd H a ob) { s with heap:=h',toks:=t' }:=
 I.write (x:=a) (e:=a) mu (.inl rfl) (λb q hb z=>(hs.2 b hb).trans z) he new
theorem ad7 {P:Program} {w:World} {H':Hp} {h':Heap} {kvs:List (Key×V)} {vs:List (Key×Value)} (z:kvs.length<=sizeLine) (hd:(a==sysModules)=false) (rel:KV kvs vs) (dd:h'.DictOf (dh P w) a vs) :
  fU P w H' h' a (.dK kvs):=⟨z,hd,vs,rel,dd⟩
theorem UL {H':Hp} {Q:Unit->Shared->Prop} (hu:A.units+1 < cLine) (I:Inv X pins σ H s) (g:QC H a y v H') (ry:RelV y u) (rv:RelV v r) (h:∀ s',Inv X pins σ H' s'->Q () s') :
  wpAny (model X.prog X.w) A (setItem (.ref a) u r) Q E s:=by
 rcases g with⟨kvs,k,e,ey,l,eH⟩|⟨kvs,k,b,e,ey,eb,l,eH⟩
 ·subst ey eH;obtain⟨z,hd,vs,rel,dd⟩:=agm I.hok e;have hz:vs.length<=sizeLine:=by rw[<-rel.length];exact z
  have hl:(putK kvs k v).length<=sizeLine:=by have:=Bg kvs k v;omega
  refine wpAny_setItem_pairs (hsz:=hz) (Xc ry) dd λh' dd' hs=>h _ ?_;have he:∃ q,h'.get? a=some q:=let ⟨q,_,_,hq,_⟩:=dd';⟨q,hq⟩;exact Sd I (by rw[e];exact True.intro) hs he (ad7 hl hd (rel.put k rv) dd')
 ·subst ey eH;cases(show u=Value.ref b from ry);obtain⟨z,hd,xs,rel,dd⟩:=agn I.hok e;have hz:xs.length<=sizeLine:=by rw[<-Paired.length rel];exact z
  have hl:(putK kvs k v).length<=sizeLine:=by have:=Bg kvs k v;omega
  refine wpAny_setItem_heap (hsz:=hz) (tupleKind_room_in1 hu) (Qy I.hok eb) dd λh' dd' hs=>h _ ?_;obtain⟨q,es,ep,hq,h2,h3,h4,_,h5⟩:=dd';refine Sd I (by rw[e];exact True.intro) hs ⟨q,hq⟩ ⟨hl,hd,_,(rel.put k eb rv).keeps λc ys ec=>?_,q,es,ep,hq,h2,h3,h4,h5⟩;rw[aM (nM ec e (λz=>nomatch z))];exact ec
end
section
variable {X:Cx} {pins:List (Addr×Obj)} {σ:St} {H:Hp} {s:Shared} {a:Addr} {kvs:List (Key×V)} {k:Key} {u:Value} {A:Around} {E:VP_}
end
def ad8 (i:Expr):Prop:=∀ ov iv,subscripted i false ov iv=operate [ov,iv] (getItem ov iv)
theorem aaN {prog:Program} {w:World} {A:Around} {E:VP_} {s:Shared} {env:Env} {value slice:Expr} {pos:Pos} {T id:String} {Q:VP_}
  (hl:typeLookup (.type T) "__getitem__" = pure (some (.builtin id))) (hs:ad8 slice)
  (h:wpAny (model prog w) A (eval value env) (λo s₁=>wpAny (model prog w) A (eval slice env) (λi s₂=>s₂.TypeIs o T/\wpAny (model prog w) A (getItem o i) Q E s₂) E s₁) E s) :
  wpAny (model prog w) A (eval (.Subscript value slice pos) env) Q E s:=by
 refine Subscript_ (ZN h (λo s₁ h₁=>ZN h₁ (λi s₂ h₂=>?_) λ_ _ x=>x) λ_ _ x=>x);obtain⟨hT,h₂⟩:=h₂;unfold subscriptTail;refine zb ?_;rw[getitemInPython_of_ne hT.not_modules];refine zb (wpAny_specialOf hT hl ?_);have fin:wpAny (model prog w) A (subscripted slice false o i) (λr s₃=>wpAny (model prog w) A (letTemporaryGo value o r >>= λ_=>pure r) Q E s₃) E s₂:=by
  rw[hs o i];exact wpAny_operating (ZN h₂ (λr s₃ h₃=>zb (wpAny_letTemporaryGo (ze h₃))) λ_ _ x=>x)
 first
  |exact ze (zb fin)
  |exact zb (ze (zb fin))
  |exact zb fin
theorem Mt {X:Cx} {pins:List (Addr×Obj)} {σ:St} {H:Hp} {s:Shared} {a:Addr} {y:V} {o:Option V} (I:Inv X pins σ H s) (g:Qz H a y o):s.TypeIs (.ref a) "dict" := by
 rcases g with⟨kvs,k,e,_,_⟩|⟨kvs,k,b,e,_,_,_⟩
 ·obtain⟨_,_,vs,_,dd⟩:=xg I.hok e;exact dd.typeIs
 ·obtain⟨_,_,xs,_,dd⟩:=Xd I.hok e;exact dd.typeIs
def ago (td ty:TE):TE:=λσ H Q=>td σ H λx H1=>ty σ H1 λy H2=>∃ a v,x=.ref a/\Qz H2 a y (some v)/\Q v H2
def agp (td ty tv:TE):TS:=λD σ H=>tv σ H λv H1=>td σ H1 λx H2=>ty σ H2 λy H3=>∃ a H4,x=.ref a/\QC H3 a y v H4/\D.nx σ H4
section
variable {X:Cx} {o i e value:Expr} {pos pos' tpos:Pos} {td ty tv:TE}
theorem aaO (hu:X.A.units+1 < cLine) (ho:PE X o td) (hi:PE X i ty) (hs:ad8 i):PE X (.Subscript o i pos) (ago td ty):=by
 intro pins s σ H Q I h;refine aaN PySem.F.slot_dict_getitem.lookup hs (gU (ho pins s σ H _ I h) λu s1 ⟨x,H1,I1,rx,q1⟩=>gU (hi pins s1 σ H1 _ I1 q1) λiv s2 ⟨y,H2,I2,ry,a,v,ex,g,q2⟩=>?_);subst ex;obtain rfl:u=Value.ref a:=rx;exact⟨Mt I2 g,UJ hu I2 g ry λw' s3 I3 R5=>⟨v,H2,I3,R5,q2⟩⟩
theorem aaP (hu:X.A.units+1 < cLine) (ho:PE X o td) (hi:PE X i ty) (hv:PE X value tv) (hs:swapsWith value (some (.Subscript o i pos')) pos.line X.env=pure false) :
  PS X (.Assign [.Subscript o i pos'] value pos) (agp td ty tv):=by
 intro pins s σ H D I h;refine wpAny_Assign_Subscript (gU (hv pins s σ H _ I h) λr s1 ⟨v,H1,I1,rv,q1⟩=>gU (ho pins s1 σ H1 _ I1 q1) λu s2 ⟨x,H2,I2,rx,q2⟩=>gU (hi pins s2 σ H2 _ I2 q2) λiv s3 ⟨y,H3,I3,ry,a,H4,ex,g,q3⟩=>?_) hs;subst ex;obtain rfl:u=Value.ref a:=rx;exact UL hu I3 g ry rv λs4 I4=>⟨σ,H4,I4,q3⟩
end
theorem Xe {P:Program} {w:World} {H:Hp} (h:Heap) (hb:sysModules < h.objs.size):fU P w H (h.push { cls:=.type "dict", data:=.dict #[] }) h.objs.size (.dK []):=
 ⟨qi _,beq_eq_false_iff_ne.mpr (Q2 (Zl hb)),[],.nil,Heap.DictOf.new h⟩
def ad9:TE:=λ_ H Q=>∀ p,H p=none->Q (.ref p) (upd H p (.dK []))
section
variable {X:Cx} {pos:Pos}
theorem Mu:PE X (.Dict [] [] pos) ad9:=λpins s σ H Q I h=>
 wpAny_Dict_empty ⟨.ref s.heap.objs.size,_,I.laid (a:=s.heap.objs.size) (o:=.dK []) (t':=s.toks) (λ_ _ q=>zd _ q) (zi _) (Xe s.heap I.big),rfl,h _ (I.hok.fresh (zi _))⟩
end
structure M1 (X:Cx) (o:Expr) (m:Str) (apos:Pos) (e:Expr) (cpos:Pos):Prop where
 base:attributeBase o m X.env (eval o X.env)=eval o X.env
 few:((backTo cpos (starEach [e] X.env)).all (λx=>!x.1)&&(backToKw cpos (keywordEach [] X.env)).all (λx=>x.1.isSome)
  && decide (([e]:List Expr).length+([]:List Keyword).length+(if([]:List Keyword).isEmpty then 0 else 1) < 30))=true
 line:(apos.endLine==cpos.line)=true
 trees:backTo cpos (starEach [e] X.env)=[(false,eval e X.env)]
structure M2 (X:Cx) (o:Expr) (m:Str) (apos:Pos) (e f:Expr) (cpos:Pos):Prop where
 base:attributeBase o m X.env (eval o X.env)=eval o X.env
 few:((backTo cpos (starEach [e,f] X.env)).all (λx=>!x.1)&&(backToKw cpos (keywordEach [] X.env)).all (λx=>x.1.isSome)
  && decide (([e,f]:List Expr).length+([]:List Keyword).length+(if([]:List Keyword).isEmpty then 0 else 1) < 30))=true
 line:(apos.endLine==cpos.line)=true
 trees:backTo cpos (starEach [e,f] X.env)=[(false,eval e X.env),(false,eval f X.env)]
section
variable {X:Cx} {pins:List (Addr×Obj)} {σ:St} {H:Hp} {s:Shared} {a:Addr} {y d:V} {u r:Value} {o:Option V} {A:Around} {E:VP_}
end
section
variable {X:Cx} {o e f:Expr} {apos cpos:Pos} {td ty tx:TE}
end
section
variable {X:Cx} {pins:List (Addr×Obj)} {σ:St} {H:Hp} {s:Shared} {a:Addr} {kvs:List (Key×V)} {A:Around} {E:VP_}
end
section
variable {X:Cx} {pins:List (Addr×Obj)} {σ:St} {H:Hp} {s:Shared} {a:Addr} {y:V} {u:Value} {A:Around} {E:VP_}
end
end L2
namespace Att
open PySem PySem.W PySem.Calls PyProof.Rows
theorem Ca {P:Params} {h:Heap}:∀ (ns:List Int) (vs:List Value),WellAll P h vs (ns.map WData.int)->IntsAre vs ns:=by
 intro ns
 induction ns with
 |nil=>
  intro vs w;rw[List.map_nil] at w;cases w;exact .nil
 |cons n ns ih=>
  intro vs w;rw[zw] at w;cases w with
  |cons a b=>
   cases a;exact .cons _ _ (ih _ b)
theorem UW {l:OpenLaw} {n:Nat} (hn:l.most=some n) {P:Params} {h:Heap} {args:List WData} {vals:List Value}
  (hpre:l.row.toRowW.claim.pre args=true) (hwl:WellAll P h vals args) :
  ∃ a vs ns,vals=[Value.ref a]/\args=[WData.list (ns.map WData.int)]/\h.get? a=some { cls:=.type "list", data:=.seq vs.toArray }/\IntsAre vs ns/\ns.length<=n:=by
 have hsh:WShape.hasAll [] args [.list .int]=true:=(pre_splitW hpre).1;have hc:l.pre.holds [] { args:=args }=true:=(pre_splitW hpre).2;obtain⟨d,r,rfl,h1,h2⟩:=hasAllW_cons hsh;obtain rfl:=hasAllW_nil h2;obtain⟨xs,rfl,h3⟩:=hasW_list h1;obtain⟨ns,rfl⟩:=items_int h3;have hlen:ns.length<=n:=by
  unfold OpenLaw.pre at hc;have h4:(WTm.not (.lt (.lit (.int (n:Int))) (.len (.arg 0)))).holds [] { args:=[.list (ns.map .int)] }=true:=by
   have h4:=(holds_andW hc).1;rw[hn] at h4;exact h4
  have h5:=condW_of h4 (w_not (w_lt w_lit (w_len_list (w_arg rfl))));rw[zz] at h5;refine Nat.le_of_not_lt λq=>?_;have q':(n:Int) < ((ns.length:Nat):Int):=by omega
  first
   |(rw[QE q'] at h5;exact absurd h5 (by decide))
   |(simp at h5;omega)
 cases hwl with
 |cons w1 w2=>
  cases w2;cases w1 with
  |list ho hall=>exact⟨_,_,ns,rfl,rfl,ho,Ca ns _ hall,hlen⟩
theorem U0 (l:OpenLaw) (args:List WData):l.row.toRowW.claim.post args (.bool true) args=true:=
 postW_of (r:=l.row.toRowW) (X:=(true==true))
  (show WShape.has [] (.bool true) .bool=true by first|rfl|decide|simp[WShape.has,WShape.arms,WShape.armsAll])
  (show(WTm.eq .res (.lit (.bool true))).value [] { args:=args,res:=some (.bool true),after:=args }=some (.bool (true==true)) from w_eq_bool (w_res rfl) w_lit) rfl
theorem Mv {l:OpenLaw} {n:Nat} {q:Program} {loose:LS_} {XP:(Str->Option Value)->Heap->Prop} {YP:World->Heap->Prop} {d:DefRec}
  (hn:l.most=some n) (hdf:d.params.defaults=[])
  (call:∀ (w:World) (s₀ s₁:Shared) (mg mb:Str->Option Value) (fa:Addr) (o:Obj) (pm cd doc:Value) (a:Addr) (vs:List Value) (ns:List Int),
   Ground q loose [] XP w s₀ mg mb s₁.heap->YP w s₁.heap →
   s₁.heap.get? fa=some o->o.data=.func (docDef d.name d.params d.body d.scope pm cd doc)->s₁.heap.CodeRec cd d.name->mg d.name=some (.ref fa) →
   s₁.heap.get? a=some { cls:=.type "list", data:=.seq vs.toArray }->IntsAre vs ns->ns.length<=n->s₁.gens=#[] →
   codeAny (model l.prog w) callerA (.call (.ref fa) ⟨[.ref a],[]⟩) (λr s'=>r=.ok (.ret (.bool true))/\OldK s₁.heap s'.heap/\s'.os=s₁.os/\AllBare s'.gens) s₁) :
  WalkO q loose XP YP l.row.toRowW d [] (λf vs=>PySem.call f vs):=by
 intro w s₀ s₁ mg mb G Y fa o pm cd doc dV kV ho hd hcd hD hmg hg args vals as hpre hlay hrd hwl hlo;obtain rfl:dV=.none:=Dflts.none hD hdf;obtain rfl:kV=.none:=Dflts.noKw hD;obtain⟨a,vs,ns,rfl,rfl,hobj,hints,hlen⟩:=UW hn hpre hwl;refine enter_call (ku (call w s₀ s₁ mg mb fa o pm cd doc a vs ns G Y ho (fd_plain hd) hcd hmg hobj hints hlen hg) λr s' hq=>?_);obtain⟨rfl,h2,h3,h4⟩:=hq;exact⟨.inl ⟨.bool true,.bool true,[],rfl,λ_=>rfl,.bool true,U0 l _,λ_=>⟨List.Pairwise.nil,λ_ hm=>(nomatch hm)⟩⟩,h2,h3,h4⟩
section
variable {prog:Program} {w:World} {A:Around} {E:VP_} {s:Shared} {K:Frag}
end
end Att
namespace L2
open PySem PySem.Spec PyProof.Rows
theorem wj:∀ {vs:List Value} {ns:List Int},IntsAre vs ns->Vals (ns.map V.int) vs
 |_,_,.nil=>.nil
 |_,_,.cons n t h=>.cons ⟨t,rfl⟩ (wj h)
def Only (H:Hp):Prop:=∀ b,H b=none\/∃ o xs,H b=some (.yF o (.lst xs))
theorem Xf {P:Program} {w:World} {K:FG_} {mg mb:Str->Option Value} {CX:Qi} {k:Nat} {fa a:Addr} {fd:FuncData} {x:Str} {sp:Sp} {s₁:Shared} {vs:List Value} {ns:List Int}
  (KX:K.In s₁.heap) (hns:s₁.heap.Ns mainGlobals mg) (hb:s₁.heap.Ns builtinsNs mb) (hbb:∀ x:Str,x ≠ "__name__" → mb x=bootBuiltins x) (hlim:s₁.heap.NoLimit) (hg:s₁.gens=#[])
  (ha:s₁.heap.get? a=some { cls:=.type "list", data:=.seq vs.toArray }) (hi:IntsAre vs ns) (hl:ns.length<=sizeLine) (hr:gW k callerA)
  (F:∀ base:Heap,K.In base->base.Ns mainGlobals mg->eZ P w K mg base CX k fa fd [x] sp) (hbind:∀ (s:Shared) (u:Value),BindsTo s fd ⟨[u],[]⟩ [(x,u)])
  (hsp:∀ H:Hp,Only H->sX K H a (ns.map V.int)->sp [.ref a] H (λv _=>v=.bl true) λ_ _ _=>False)
  (hCX:∀ H e s',CX [] H s₁ (λ_ _ _=>False) e s'->False) :
  codeAny (model P w) callerA (.call (.ref fa) ⟨[.ref a],[]⟩) (λr s'=>r=.ok (.ret (.bool true))/\OldK s₁.heap s'.heap/\s'.os=s₁.os/\AllBare s'.gens) s₁:=by
 have rv:=wj hi;have lenV:=hi.length;have core:∀ H:Hp,Only H->sX K H a (ns.map V.int)->uT P w H s₁.heap->(∀ b,H b≠none->b=a)->(H a≠none->K.lookup a=none) →
   codeAny (model P w) callerA (.call (.ref fa) ⟨[.ref a],[]⟩) (λr s'=>r=.ok (.ret (.bool true))/\OldK s₁.heap s'.heap/\s'.os=s₁.os/\AllBare s'.gens) s₁:=by
  intro H hO hS hok hA hK;have Sg:∀ {b:Addr} {o:Obj},s₁.heap.get? b=some o->H b=none->(JV s₁.heap H).get? b=some o:=λe n=>Wz e n;have noA:∀ {b:Addr} {o:Obj} {es:Array DictEntry} {ep:Nat},s₁.heap.get? b=some o->o.data=.dict es ep->H b=none:=λ{b o es ep} e d=>by
   cases q:H b with
   |none=>rfl
   |some u=>
    have e':b=a:=hA b (by rw[q];simp);subst e';rw[ha] at e;cases e;have d':Data.seq vs.toArray _=Data.dict es ep:=d;cases d'
  have nsK:∀ {b:Addr} {m:Str->Option Value},s₁.heap.Ns b m->(JV s₁.heap H).Ns b m:=λ{b m} ⟨o,es,ep,e,d,r⟩=>⟨o,es,ep,Sg e (noA e d),d,r⟩;have hKb:K.In (JV s₁.heap H):=λb o e=>Sg (KX b o e) (by
   cases q:H b with
   |none=>rfl
   |some u=>
    have e':b=a:=hA b (by rw[q];simp);subst e';rw[hK (by rw[q];simp)] at e;cases e)
  have hM:Mod K mg (JV s₁.heap H):=⟨hKb,nsK hns,⟨mb,nsK hb,hbb⟩,let ⟨mc,h1,h2⟩:=hlim;⟨mc,nsK h1,h2⟩⟩;have e0:HN P w K mg (JV s₁.heap H) callerA [] s₁ H:=⟨rfl,hM,λb o e=>aar e,KL (Um _ _),trivial,λb hb=>absurd (show b∈([]:List Addr) from hb) (by simp),hok,.of_eq hg⟩;refine ku ((F _ hKb (nsK hns)).run callerA [] s₁ H ⟨[.ref a],[]⟩ [.ref a] [.ref a] _ _ hr e0 (hbind s₁ (.ref a)) (.cons rfl .nil) (hsp H hO hS)) λr s' h=>?_;cases r with
  |error e=>exact(hCX H e s' h).elim
  |ok fl=>
   cases fl with
   |next=>exact False.elim h
   |brk=>exact False.elim h
   |cont=>exact False.elim h
   |ret u=>
    obtain⟨v,H',os,bare,un,hok',r',q⟩:=h;have q':v=.bl true:=q;subst q';obtain rfl:u=Value.bool true:=r';refine⟨rfl,OldK.of_keep λb o e=>?_,os,bare⟩;cases q:H b with
    |none=>exact un.keep b o e q (by intro z;exact absurd (show b∈([]:List Addr) from z) (by simp)) (by simp)
    |some u=>
     rcases hO b with z|⟨ob,xs,z⟩
     ·rw[q] at z;cases z
     ·have z2:=un.rQ b ob _ z;obtain⟨e1,_⟩:=hok b _ z;obtain⟨e2,_⟩:=hok' b _ z2;rw[e] at e1;cases e1;exact e2
 cases hk:K.lookup a with
 |some o=>
  have e:=KX a o hk;rw[ha] at e;cases e;refine core (λ_=>none) (λ_=>.inl rfl) (.inr ⟨_,vs.toArray,_,hk,rfl,rfl,rfl,by rw[zS,lenV];exact hl,by simpa using rv⟩) (λb u z=>by have z':(none:Option HO)=some u:=z;cases z') (λb z=>absurd rfl z) λz=>absurd rfl z
 |none=>
  refine core (λb=>if b=a then some (.yF { cls:=.type "list", data:=.seq vs.toArray } (.lst (ns.map V.int))) else none) (λb=>?_) (.inl (.inr ⟨{ cls:=.type "list", data:=.seq vs.toArray },zh rfl⟩)) (λb u z=>?_) (λb z=>?_) λ_=>hk
  ·by_cases hb:b=a
   ·exact .inr ⟨_,_,zh hb⟩
   ·exact .inl (zC hb)
  ·by_cases hb:b=a
   ·have z':=(zh hb).symm.trans z;cases z';subst hb;exact⟨ha,by rw[zz];exact hl,vs,_,rv,ha⟩
   ·have z':=(zC hb).symm.trans z;cases z'
  ·by_cases hb:b=a
   ·exact hb
   ·exact absurd (zC hb) z
end L2
namespace L2
open PySem PySem.Spec PyProof.Rows
theorem aaQ {l:PySem.W.OpenLaw} {n k:Nat} {q:Program} {loose:LS_} {XP:(Str->Option Value)->Heap->Prop} {YP:World->Heap->Prop} {d:DefRec} {K:Params->FG_} {CX:World->Qi} {sp:World->Sp} {x:Str}
  (hn:l.most=some n) (hn2:n<=sizeLine) (hdf:d.params.defaults=[]) (hr:gW k callerA)
  (hY:∀ (w:World) (h:Heap),YP w h->(K w.params).In h)
  (F:∀ (w:World) (mg:Str->Option Value) (fa:Addr) (h:Heap),(K w.params).In h->h.Ns mainGlobals mg->mg d.name=some (.ref fa) →
   ∃ fd:FuncData,(∀ (s:Shared) (u:Value),BindsTo s fd ⟨[u],[]⟩ [(x,u)]) ∧
    ∀ base:Heap,(K w.params).In base->base.Ns mainGlobals mg->eZ l.prog w (K w.params) mg base (CX w) k fa fd [x] (sp w))
  (hsp:∀ (w:World) (H:Hp) (a:Addr) (ns:List Int),ns.length<=n->Only H->sX (K w.params) H a (ns.map V.int)->sp w [.ref a] H (λv _=>v=.bl true) λ_ _ _=>False)
  (hCX:∀ (w:World) (H:Hp) (s:Shared) (e:Value) (s':Shared),CX w [] H s (λ_ _ _=>False) e s'->False) :
  PySem.W.WalkO q loose XP YP l.row.toRowW d [] (λf vs=>PySem.call f vs):=by
 refine Att.Mv hn hdf λw s₀ s₁ mg mb fa o pm cd doc a vs ns G Y ho hd hcd hmg hobj hints hlen hg=>?_;have KX:=hY w _ Y;obtain⟨fd,hb,hF⟩:=F w mg fa _ KX G.T.g hmg;exact Xf KX G.T.g G.T.b G.T.builtins G.T.nolimit hg hobj hints (zI hlen hn2) hr hF hb (λH hO hS=>hsp w H a ns hlen hO hS) λH e s'=>hCX w H s₁ e s'
theorem Xg {l:PySem.W.OpenLaw} {n k:Nat} {q:Program} {loose:LS_} {XP:(Str->Option Value)->Heap->Prop} {YP:World->Heap->Prop} {d:DefRec} {K:Params->FG_} {CX:Qi} {sp:FG_->Sp} {x:Str}
  (hn:l.most=some n) (hn2:n<=sizeLine) (hdf:d.params.defaults=[]) (hr:gW k callerA)
  (hY:∀ (w:World) (h:Heap),YP w h->(K w.params).In h)
  (F:∀ (w:World) (mg:Str->Option Value) (fa:Addr) (h:Heap),(K w.params).In h->h.Ns mainGlobals mg->mg d.name=some (.ref fa) →
   ∃ fd:FuncData,(∀ (s:Shared) (u:Value),BindsTo s fd ⟨[u],[]⟩ [(x,u)]) ∧
    ∀ base:Heap,(K w.params).In base->base.Ns mainGlobals mg->eZ l.prog w (K w.params) mg base CX k fa fd [x] (sp (K w.params)))
  (hsp:∀ (K:FG_) (H:Hp) (a:Addr) (ns:List Int),ns.length<=n->Only H->sX K H a (ns.map V.int)->sp K [.ref a] H (λv _=>v=.bl true) λ_ _ _=>False)
  (hCX:∀ (H:Hp) (s:Shared) (e:Value) (s':Shared),CX [] H s (λ_ _ _=>False) e s'->False) :
  PySem.W.WalkO q loose XP YP l.row.toRowW d [] (λf vs=>PySem.call f vs):=
 aaQ (K:=K) (CX:=λ_=>CX) (sp:=λw=>sp (K w.params)) hn hn2 hdf hr hY F (λw H a ns h1 h2 h3=>hsp (K w.params) H a ns h1 h2 h3) λ_ H s e s'=>hCX H s e s'
end L2
namespace L2
open PySem PySem.Spec PyProof.Rows
def oO (s:Stmt):Arguments:=match s with
 |.FunctionDef _ a _ _ _ _ _ _ _ _=>a
 |_=>{ posonlyargs:=[],args:=[],vararg:=none,kwonlyargs:=[],kw_defaults:=[],kwarg:=none,defaults:=[] }
def f9 (s:Stmt):List Stmt:=match s with
 |.FunctionDef _ _ b _ _ _ _ _ _ _=>b
 |_=>[]
def aF (s:Stmt):Scope:=match s with
 |.FunctionDef _ _ _ _ _ _ sc _ _ _=>sc
 |_=>{ kind:=.function,names:=[],isGenerator:=false,isCoroutine:=false }
abbrev xq:Qi:=λ_ _ _ _ _ _=>False
abbrev E0:XK:=λ_ _ _=>False
theorem acS {X:Cx}:Passes xq X E0:=λ_ _ _ _ _ _ _ h=>h.elim
structure HD (K:FG_) (x qual:Str) (st:Stmt) (f:Addr) (fd:FuncData):Prop where
 ex:∃ (oc:Value) (od:Option Addr) (kV doc pm:Value) (an:Option Addr) (cdv ct:Value) (osl:Array (Option Value)),
  fd=fnOf x qual (oO st) (f9 st) (aF st) .none kV doc pm an cdv ct/\K.lookup f=some ⟨oc,od,.func fd,osl⟩/\codeIn K cdv qual=true
 kp:keepIn K (.ref f)=true
section
variable {P:Program} {w:World} {K:FG_} {mg:Str->Option Value} {base:Heap}
theorem HD.ok {x qual:Str} {st:Stmt} {f:Addr} {fd:FuncData} {N ps:LS_} {k:Nat} {sp:Sp} (F:HD K x qual st f fd) (S:bw N ps (aF st)) (len:∀ vs H Q E,sp vs H Q E->vs.length=ps.length)
  (hbody:∀ (cdv:Value) (A:Around) (outer:List Env) (s:Shared) (H:Hp) (vs:List V) (Q:VK) (E:XK),gW k (A.deeper (envOfC qual (aF st) s.heap.objs.size f cdv))->sp vs H Q E →
   ∃ t,zU (wY xq P w K mg base N qual (aF st) f cdv A outer s H E).Mj (f9 st) t/\t { nx:=λ_ H'=>Q .non H',rt:=Q } (start N vs) H):eZ P w K mg base xq (k+1) f fd ps sp:=by
 obtain⟨oc,od,kV,doc,pm,an,cdv,ct,osl,rfl,lk,hcd⟩:=F.ex;refine acO lk hcd S len λA outer s H vs Q E hr hsp=>?_;obtain⟨t,h,q⟩:=hbody cdv A outer s H vs Q E hr hsp;exact⟨t,h.Mj,q⟩
theorem HD.binds {x qual:Str} {st:Stmt} {f:Addr} {fd:FuncData} {ps:LS_} (F:HD K x qual st f fd)
  (h:∀ (kV doc pm:Value) (an:Option Addr) (cdv ct:Value) (us:List Value),us.length=ps.length->bindArgs (fnOf x qual (oO st) (f9 st) (aF st) .none kV doc pm an cdv ct) ⟨us,[]⟩=pure (ps.zip us)):Binds K fd ps []:=by
 obtain⟨oc,od,kV,doc,pm,an,cdv,ct,osl,rfl,lk,hcd⟩:=F.ex;exact .all (h kV doc pm an cdv ct)
theorem J7 {x qual:Str} {st:Stmt} {f:Addr} {oc:Value} {od an:Option Addr} {osl:Array (Option Value)} {kV doc pm cdv ct:Value} (l:K.lookup f=some ⟨oc,od,.func (fnOf x qual (oO st) (f9 st) (aF st) .none kV doc pm an cdv ct),osl⟩)
  (c:codeIn K cdv qual=true) (k:keepIn K (.ref f)=true):HD K x qual st f (fnOf x qual (oO st) (f9 st) (aF st) .none kV doc pm an cdv ct):=⟨⟨oc,od,kV,doc,pm,an,cdv,ct,osl,rfl,l,c⟩,k⟩
end
section
variable {X:Cx}
theorem pv (i:Nat) {x:Str} {pos:Pos} (hN:X.N[i]?=some x:=by rfl) (hv:WD X.env.scope x:=by first|exact JA rfl|exact QO (JA rfl)|exact QO (QO rfl)) (hd:(x==("__debug__" : Str))=false:=by decide)
  (hcd:(x==("__classdict__" : Str))=false:=by decide):PE X (.Name x pos) (WM i):=sZ hN hv hd hcd
end
def Same (H H':Hp):Prop:=∀ b o,H b=some o->H' b=some o
theorem Same.refl (H:Hp):Same H H:=λ_ _ h=>h
theorem Same.trans {H H1 H2:Hp} (a:Same H H1) (b:Same H1 H2):Same H H2:=λc o h=>b c o (a c o h)
theorem Same.free {H H':Hp} (e:Same H H') {l:Addr} (h:H' l=Option.none):H l=Option.none:=by
 cases q:H l with
 |none=>rfl
 |some o=>
  rw[e l o q] at h;cases h
theorem Same.seq {K:FG_} {H H':Hp} {a:Addr} {xs:List V} (e:Same H H') (h:sX K H a xs):sX K H' a xs:=by
 rcases h with (h|⟨o,h⟩)|h
 ·exact .inl (.inl (e _ _ h))
 ·exact .inl (.inr ⟨o,e _ _ h⟩)
 ·exact .inr h
end L2
end
section
namespace P1
open PySem PySem.Spec PyProof.Rows L2
inductive Dt where
 |non|bl (b:Bool)|int (i:Int)|str (x:Str)|tup (xs:List Dt)|lst (xs:List Dt)|emp
inductive Bx where
 |z (d:Dt)|l (ds:List Dt)|o (ds:List Dt)|n (kvs:List (Key×Dt))|m (kvs:List (Key×Dt)) (w:Option Addr)
abbrev Ev:=List (Option Bx)
def FzL (K:FG_) (H:Hp) (a:Addr) (xs:List V):Prop:=
 (∃ o,H a=some (.yF o (.lst xs))) ∨
  ∃ (o:Obj) (its:Array Value) (n:Nat),K.lookup a=some o/\o.cls=.type "list" ∧ o.dict=none/\o.data=.seq its n/\its.size<=sizeLine/\Vals xs its.toList
theorem FzL.sq {K:FG_} {H:Hp} {a:Addr} {xs:List V} (h:FzL K H a xs):sX K H a xs:=by
 rcases h with h|h
 ·exact .inl (.inr h)
 ·exact .inr h
mutual
def Rep (K:FG_) (H:Hp):Dt->V->Prop
 |.non,v=>v=.non
 |.bl b,v=>v=.bl b
 |.int i,v=>v=.int i
 |.str x,v=>v=.str x/\x.length<=sizeLine
 |.tup ds,v=>∃ a vs,v=.ref a/\yG K H a vs/\aQ K H ds vs
 |.lst ds,v=>∃ a vs,v=.ref a/\FzL K H a vs/\aQ K H ds vs
 |.emp,v=>∃ a o,v=.ref a/\H a=some (.yF o (.dK []))
def aQ (K:FG_) (H:Hp):List Dt->List V->Prop
 |[],vs=>vs=[]
 |d::ds,vs=>∃ v r,vs=v::r/\Rep K H d v/\aQ K H ds r
end
structure Kp (H H':Hp):Prop where
 t:∀ a xs,H a=some (.tup xs)->H' a=some (.tup xs)
 f:∀ a o u,H a=some (.yF o u)->H' a=some (.yF o u)
theorem Kp.of {H H':Hp} (s:Same H H'):Kp H H':=⟨λa _ h=>s a _ h,λa _ _ h=>s a _ h⟩
theorem Kp.sqT {K:FG_} {H H':Hp} {a:Addr} {xs:List V} (k:Kp H H') (h:yG K H a xs):yG K H' a xs:=by
 rcases h with (h|⟨o,h⟩)|h
 ·exact .inl (.inl (k.t _ _ h))
 ·exact .inl (.inr ⟨o,k.f _ _ _ h⟩)
 ·exact .inr h
theorem Kp.fzL {K:FG_} {H H':Hp} {a:Addr} {xs:List V} (k:Kp H H') (h:FzL K H a xs):FzL K H' a xs:=by
 rcases h with⟨o,h⟩|h
 ·exact .inl ⟨o,k.f _ _ _ h⟩
 ·exact .inr h
theorem Kp.lst {H:Hp} {a:Addr} {xs:List V} {o:HO} (h:H a=some (.lst xs)):Kp H (upd H a o):=by
 refine⟨λb ys e=>?_,λb ob u e=>?_⟩
 ·rw[aM (nM e h (by intro z;cases z))];exact e
 ·rw[aM (nM e h (by intro z;cases z))];exact e
theorem Kp.dk {H:Hp} {a:Addr} {xs:List (Key×V)} {o:HO} (h:H a=some (.dK xs)):Kp H (upd H a o):=by
 refine⟨λb ys e=>?_,λb ob u e=>?_⟩
 ·rw[aM (nM e h (by intro z;cases z))];exact e
 ·rw[aM (nM e h (by intro z;cases z))];exact e
mutual
theorem Rep.kp {K:FG_} {H H':Hp} (k:Kp H H'):∀ {d:Dt} {v:V},Rep K H d v->Rep K H' d v
 |.non,_,h=>by simpa only[Rep] using h
 |.bl _,_,h=>by simpa only[Rep] using h
 |.int _,_,h=>by simpa only[Rep] using h
 |.str _,_,h=>by simpa only[Rep] using h
 |.tup ds,_,h=>by
  simp only[Rep] at h ⊢;obtain⟨a,vs,e,q,r⟩:=h;exact⟨a,vs,e,k.sqT q,aQ.kp k r⟩
 |.lst ds,_,h=>by
  simp only[Rep] at h ⊢;obtain⟨a,vs,e,q,r⟩:=h;exact⟨a,vs,e,k.fzL q,aQ.kp k r⟩
 |.emp,_,h=>by
  simp only[Rep] at h ⊢;obtain⟨a,o,e,q⟩:=h;exact⟨a,o,e,k.f _ _ _ q⟩
theorem aQ.kp {K:FG_} {H H':Hp} (k:Kp H H'):∀ {ds:List Dt} {vs:List V},aQ K H ds vs->aQ K H' ds vs
 |[],_,h=>by simpa only[aQ] using h
 |d::ds,_,h=>by
  simp only[aQ] at h ⊢;obtain⟨v,r,e,q,t⟩:=h;exact⟨v,r,e,Rep.kp k q,aQ.kp k t⟩
end
theorem aQ.length {K:FG_} {H:Hp}:∀ {ds:List Dt} {vs:List V},aQ K H ds vs->vs.length=ds.length
 |[],_,h=>by simp only[aQ] at h;subst h;rfl
 |d::ds,_,h=>by
  simp only[aQ] at h;obtain⟨v,r,rfl,_,t⟩:=h;simp[aQ.length t]
theorem aQ.nil {K:FG_} {H:Hp}:aQ K H [] []:=by simp only[aQ]
theorem aQ.cons {K:FG_} {H:Hp} {d:Dt} {v:V} {ds:List Dt} {vs:List V} (h:Rep K H d v) (t:aQ K H ds vs):aQ K H (d::ds) (v::vs):=by
 simp only[aQ];exact⟨v,vs,rfl,h,t⟩
theorem aQ.append {K:FG_} {H:Hp}:∀ {ds es:List Dt} {vs us:List V},aQ K H ds vs->aQ K H es us->aQ K H (ds++es) (vs++us)
 |[],_,_,_,h,t=>by simp only[aQ] at h;subst h;exact t
 |d::ds,_,_,_,h,t=>by
  simp only[aQ] at h;obtain⟨v,r,rfl,q,h⟩:=h;exact aQ.cons q (aQ.append h t)
theorem aQ.drop {K:FG_} {H:Hp}:∀ (n:Nat) {ds:List Dt} {vs:List V},aQ K H ds vs->aQ K H (ds.drop n) (vs.drop n)
 |0,_,_,h=>h
 |n+1,[],_,h=>by simp only[aQ] at h;subst h;exact aQ.nil
 |n+1,d::ds,_,h=>by
  simp only[aQ] at h;obtain⟨v,r,rfl,q,h⟩:=h;exact aQ.drop n h
theorem aQ.take {K:FG_} {H:Hp}:∀ (n:Nat) {ds:List Dt} {vs:List V},aQ K H ds vs->aQ K H (ds.take n) (vs.take n)
 |0,_,_,_=>aQ.nil
 |n+1,[],_,h=>by simp only[aQ] at h;subst h;exact aQ.nil
 |n+1,d::ds,_,h=>by
  simp only[aQ] at h;obtain⟨v,r,rfl,q,h⟩:=h;exact aQ.cons q (aQ.take n h)
theorem aQ.get {K:FG_} {H:Hp}:∀ {ds:List Dt} {vs:List V} {i:Nat} {d:Dt},aQ K H ds vs->ds[i]?=some d->∃ v,vs[i]?=some v/\Rep K H d v
 |[],_,_,_,_,e=>by simp at e
 |d::ds,_,0,_,h,e=>by
  simp only[aQ] at h;obtain⟨v,r,rfl,q,h⟩:=h;simp at e;subst e;exact⟨v,rfl,q⟩
 |d::ds,_,i+1,_,h,e=>by
  simp only[aQ] at h;obtain⟨v,r,rfl,q,h⟩:=h;obtain⟨u,e1,e2⟩:=aQ.get h (i:=i) (by simpa using e);exact⟨u,by simpa using e1,e2⟩
def okK:Key->Prop
 |.inl _=>True
 |.inr x=>x.length<=sizeLine
def iZ (K:FG_) (H:Hp) (kvs:List (Key×Dt)) (ks:List (Key×V)):Prop:=ks.map (·.1)=kvs.map (·.1)/\aQ K H (kvs.map (·.2)) (ks.map (·.2))/\∀ p∈kvs,okK p.1
theorem iZ.kp {K:FG_} {H H':Hp} {kvs:List (Key×Dt)} {ks:List (Key×V)} (h:iZ K H kvs ks) (k:Kp H H'):iZ K H' kvs ks:=⟨h.1,h.2.1.kp k,h.2.2⟩
def bA (K:FG_) (H:Hp):Bx->V->Prop
 |.z d,v=>Rep K H d v
 |.l ds,v=>∃ a vs,v=.ref a/\Rd H a (.lst vs)/\aQ K H ds vs
 |.o ds,v=>∃ a vs,v=.ref a/\H a=some (.lst vs)/\aQ K H ds vs
 |.n kvs,v=>∃ a ks,v=.ref a/\Rd H a (.dK ks)/\iZ K H kvs ks
 |.m kvs w,v=>∃ a ks,v=.ref a/\H a=some (.dK ks)/\iZ K H kvs ks/\∀ b,w=some b->b=a
theorem bA.same {K:FG_} {H H':Hp} (s:Same H H') {b:Bx} {v:V} (h:bA K H b v):bA K H' b v:=by
 cases b with
 |z d=>exact Rep.kp (.of s) h
 |l ds=>
  obtain⟨a,vs,e,q,r⟩:=h;refine⟨a,vs,e,?_,r.kp (.of s)⟩;rcases q with q|⟨o,q⟩
  ·exact .inl (s _ _ q)
  ·exact .inr ⟨o,s _ _ q⟩
 |o ds=>
  obtain⟨a,vs,e,q,r⟩:=h;exact⟨a,vs,e,s _ _ q,r.kp (.of s)⟩
 |n kvs=>
  obtain⟨a,vs,e,q,r⟩:=h;refine⟨a,vs,e,?_,r.kp (.of s)⟩;rcases q with q|⟨o,q⟩
  ·exact .inl (s _ _ q)
  ·exact .inr ⟨o,s _ _ q⟩
 |m kvs _=>
  obtain⟨a,vs,e,q,r⟩:=h;exact⟨a,vs,e,s _ _ q,r.1.kp (.of s),r.2⟩
def rC:Bx->Option (List Dt)
 |.z (.lst ds)=>some ds
 |.l ds=>some ds
 |.o ds=>some ds
 |_=>none
theorem bA.Jf {K:FG_} {H:Hp} {b:Bx} {v:V} {ds:List Dt} (h:bA K H b v) (e:rC b=some ds):∃ a vs,v=.ref a/\sX K H a vs/\aQ K H ds vs:=by
 cases b with
 |z d=>
  cases d<;>first|(cases e;done)|skip;cases e;simp only[bA,Rep] at h;obtain⟨a,vs,e,q,r⟩:=h;exact⟨a,vs,e,q.sq,r⟩
 |l ds'=>
  cases e;obtain⟨a,vs,e,q,r⟩:=h;exact⟨a,vs,e,.inl q,r⟩
 |o ds'=>
  cases e;obtain⟨a,vs,e,q,r⟩:=h;exact⟨a,vs,e,.inl (.inl q),r⟩
 |n _=>cases e
 |m _ _=>cases e
abbrev qy (K:FG_) (H:Hp):List Bx->List V->Prop:=Paired (bA K H)
theorem qy.same {K:FG_} {H H':Hp} (s:Same H H') {bs:List Bx} {vs:List V} (h:qy K H bs vs):qy K H' bs vs:=Paired.imp' (λ_ _ q=>bA.same s q) h
def Nw (H:Hp):Bx->V->Prop
 |.o _,v=>∀ a,v=.ref a->H a=none
 |.m _ _,v=>∀ a,v=.ref a->H a=none
 |_,_=>True
theorem Nw.old {H H1:Hp} (s:Same H H1) {b:Bx} {v:V} (h:Nw H1 b v):Nw H b v:=by
 cases b with
 |o ds=>exact λa e=>s.free (h a e)
 |m ds _=>exact λa e=>s.free (h a e)
 |_=>trivial
def loose:Bx->Bool
 |.z _=>false
 |_=>true
def yg:Bx->Bool
 |.o _=>true
 |.m _ _=>true
 |_=>false
structure bG (K:FG_) (H0 H:Hp) (σ:L2.St) (ρ:Ev):Prop where
 len:σ.length=ρ.length
 val:∀ (i:Nat) b,ρ[i]?=some (some b)->∃ v,σ[i]?=some (some v)/\bA K H b v
 own:∀ (i j:Nat) c a b,ρ[i]?=some (some c)->yg c=true->σ[i]?=some (some (.ref a))->ρ[j]?=some (some b)->loose b=true->σ[j]?=some (some (.ref a))->i=j
 base:Same H0 H
 new:∀ (i:Nat) c a,ρ[i]?=some (some c)->yg c=true->σ[i]?=some (some (.ref a))->H0 a=none
theorem bG.grow {K:FG_} {H0 H H':Hp} {σ:L2.St} {ρ:Ev} (r:bG K H0 H σ ρ) (s:Same H H'):bG K H0 H' σ ρ:=
 ⟨r.len,λi b e=>let ⟨v,e1,h⟩:=r.val i b e;⟨v,e1,h.same s⟩,r.own,r.base.trans s,r.new⟩
def tF (K:FG_) (f:Ev->Option Bx):TE:=λσ H Q=>∃ H0 ρ b,bG K H0 H σ ρ/\f ρ=some b/\∀ v H',Same H H'->Nw H b v->bA K H' b v->Q v H'
def tFA (K:FG_) (f:Ev->Option (List Bx)):TA:=λσ H Q=>∃ H0 ρ bs,bG K H0 H σ ρ/\f ρ=some bs/\∀ vs H',Same H H'->qy K H' bs vs->Q vs H'
def tFT (K:FG_) (f:Ev->Option Bool):TT:=λσ H Q=>∃ H0 ρ b,bG K H0 H σ ρ/\f ρ=some b/\∀ H',Same H H'->Q b H'
def PV (X:Cx) (e:Expr) (f:Ev->Option Bx):Prop:=PE X e (tF X.K f)
structure QV (X:Cx) (e:Expr) (f:Ev->Option Bx):Prop where
 run:PV X e f
def PVs (X:Cx) (es:List Expr) (f:Ev->Option (List Bx)):Prop:=PA X es (tFA X.K f)
structure Sh (X:Cx) (es:List Expr) (f:Ev->Option (List Bx)):Prop where
 run:PVs X es f
def PB (X:Cx) (e:Expr) (f:Ev->Option Bool):Prop:=PT X e (tFT X.K f)
structure QB (X:Cx) (e:Expr) (f:Ev->Option Bool):Prop where
 run:PB X e f
theorem z9 {X:Cx} {e:Expr} {t t':TE} (h:PE X e t) (m:∀ σ H Q,t' σ H Q->t σ H Q):PE X e t':=λpins s σ H Q I q=>h pins s σ H Q I (m σ H Q q)
theorem paM {X:Cx} {e:List Expr} {t t':TA} (h:PA X e t) (m:∀ σ H Q,t' σ H Q->t σ H Q):PA X e t':=λpos pins s σ H Q I q=>h pos pins s σ H Q I (m σ H Q q)
theorem ptM {X:Cx} {e:Expr} {t t':TT} (h:PT X e t) (m:∀ σ H Q,t' σ H Q->t σ H Q):PT X e t':=λpins s σ H Q I q=>h pins s σ H Q I (m σ H Q q)
theorem pwM {X:Cx} {e:Expr} {t t':TT} (h:PW X e t) (m:∀ σ H Q,t' σ H Q->t σ H Q):PW X e t':=λwh pins s σ H Q I q=>h wh pins s σ H Q I (m σ H Q q)
theorem Wq {X:Cx} {e:Stmt} {t t':TS} (h:PS X e t) (m:∀ D σ H,t' D σ H->t D σ H):PS X e t':=λpins s σ H D I q=>h pins s σ H D I (m D σ H q)
theorem QD {X:Cx} {e:List Stmt} {t t':TS} (h:zU X e t) (m:∀ D σ H,t' D σ H->t D σ H):zU X e t':=λpins s σ H D I q=>h pins s σ H D I (m D σ H q)
def rF (K:FG_) (g:Bx->Bx->Option Bx):R2:=λx y H Q=>∃ a b c,bA K H a x/\bA K H b y/\g a b=some c/\∀ w H',Same H H'->Nw H c w->bA K H' c w->Q w H'
def rF1 (K:FG_) (g:Bx->Option Bx):V->Hp->VK->Prop:=λx H Q=>∃ a c,bA K H a x/\g a=some c/\∀ w H',Same H H'->Nw H c w->bA K H' c w->Q w H'
def rFs (K:FG_) (g:List Bx->Option Bx):List V->Hp->VK->Prop:=λxs H Q=>∃ bs c,qy K H bs xs/\g bs=some c/\∀ w H',Same H H'->Nw H c w->bA K H' c w->Q w H'
abbrev HX (X:Cx) (f:Value->Value->Sem Value) (g:Bx->Bx->Option Bx):Prop:=uP X f (rF X.K g)
abbrev UnF (X:Cx) (f:Value->Sem Value) (g:Bx->Option Bx):Prop:=UnR X f (rF1 X.K g)
abbrev yL (X:Cx) (f:Value) (g:List Bx->Option Bx):Prop:=gF X f (rFs X.K g)
theorem uP.imp {X:Cx} {f:Value->Value->Sem Value} {r r':R2} (h:uP X f r) (m:∀ x y H Q,r' x y H Q->r x y H Q):uP X f r':=λpins s σ H x y v u Q I rx ry q=>h pins s σ H x y v u Q I rx ry (m x y H Q q)
theorem UnR.imp {X:Cx} {f:Value->Sem Value} {r r':V->Hp->VK->Prop} (h:UnR X f r) (m:∀ x H Q,r' x H Q->r x H Q):UnR X f r':=λpins s σ H x v Q I rx q=>h pins s σ H x v Q I rx (m x H Q q)
theorem gF.imp {X:Cx} {f:Value} {r r':List V->Hp->VK->Prop} (h:gF X f r) (m:∀ x H Q,r' x H Q->r x H Q):gF X f r':=λpins s σ H xs us Q I rx q=>h pins s σ H xs us Q I rx (m xs H Q q)
def b2 (g:Bx->Bx->Option Bx) (fa fb:Ev->Option Bx):Ev->Option Bx:=λρ=>(fa ρ).bind λx=>(fb ρ).bind λy=>g x y
def b1 (g:Bx->Option Bx) (fa:Ev->Option Bx):Ev->Option Bx:=λρ=>(fa ρ).bind g
def dw (g:List Bx->Option Bx) (fs:Ev->Option (List Bx)):Ev->Option Bx:=λρ=>(fs ρ).bind g
theorem bind_some {α β:Type} {o:Option α} {f:α->Option β} {b:β} (h:o.bind f=some b):∃ a,o=some a/\f a=some b:=by
 cases o with
 |none=>cases h
 |some a=>exact⟨a,rfl,h⟩
theorem Xh {K:FG_} {g:Bx->Bx->Option Bx} {fa fb:Ev->Option Bx} (σ:L2.St) (H:Hp) (Q:VK) (h:tF K (b2 g fa fb) σ H Q):tOp (rF K g) (tF K fa) (tF K fb) σ H Q:=by
 obtain⟨H0,ρ,c,E,e,q⟩:=h;obtain⟨a,ea,e⟩:=bind_some e;obtain⟨b,eb,e⟩:=bind_some e;refine⟨H0,ρ,a,E,ea,λv H1 s1 n1 r1=>⟨H0,ρ,b,E.grow s1,eb,λu H2 s2 n2 r2=>?_⟩⟩;exact⟨a,b,c,r1.same s2,r2,e,λw H3 s3 n3 r3=>q w H3 ((s1.trans s2).trans s3) (n3.old (s1.trans s2)) r3⟩
theorem agt {K:FG_} {g:Bx->Option Bx} {fa:Ev->Option Bx} (σ:L2.St) (H:Hp) (Q:VK) (h:tF K (b1 g fa) σ H Q):tUn (rF1 K g) (tF K fa) σ H Q:=by
 obtain⟨H0,ρ,c,E,e,q⟩:=h;obtain⟨a,ea,e⟩:=bind_some e;exact⟨H0,ρ,a,E,ea,λv H1 s1 n1 r1=>⟨a,c,r1,e,λw H3 s3 n3 r3=>q w H3 (s1.trans s3) (n3.old s1) r3⟩⟩
theorem convs {K:FG_} {g:List Bx->Option Bx} {fs:Ev->Option (List Bx)} (σ:L2.St) (H:Hp) (Q:VK) (h:tF K (dw g fs) σ H Q):tCB (rFs K g) (tFA K fs) σ H Q:=by
 obtain⟨H0,ρ,c,E,e,q⟩:=h;obtain⟨a,ea,e⟩:=bind_some e;exact⟨H0,ρ,a,E,ea,λv H1 s1 r1=>⟨a,c,r1,e,λw H3 s3 n3 r3=>q w H3 (s1.trans s3) (n3.old s1) r3⟩⟩
section
variable {X:Cx} {a b c e:Expr} {es:List Expr} {fa fb fc f:Ev->Option Bx} {fs:Ev->Option (List Bx)} {pos:Pos}
theorem aO {op:Operator} {g:Bx->Bx->Option Bx} (ho:HX X (binaryOp op) g) (ha:QV X a fa) (hb:QV X b fb):QV X (.BinOp a op b pos) (b2 g fa fb):=⟨have ha:=ha.run;have hb:=hb.run;z9 (afZ ho ha hb) Xh⟩
theorem agu {op:UnaryOp} {g:Bx->Option Bx} (ho:UnF X (unaryOp op) g) (ha:QV X a fa):QV X (.UnaryOp op a pos) (b1 g fa):=⟨have ha:=ha.run;z9 (af0 ho ha) agt⟩
theorem rD {op:CmpOp} {g:Bx->Bx->Option Bx} (ho:HX X (compareOp op) g) (ha:QV X a fa) (hb:QV X b fb) (hm:behindInMarks op b=false):QV X (.Compare a [op] [b] pos) (b2 g fa fb):=⟨have ha:=ha.run;have hb:=hb.run;z9 (aax ho ha hb hm) Xh⟩
def J8:Bx->Option Bool
 |.z (.bl b)=>some b
 |_=>none
theorem Ew {K:FG_} {H:Hp} {b:Bx} {v:V} {k:Bool} (h:bA K H b v) (e:J8 b=some k):v=.bl k:=by
 cases b with
 |z d=>
  cases d<;>first|(cases e;done)|skip;cases e;simpa only[bA,Rep] using h
 |_=>cases e
theorem agv {K:FG_} {f:Ev->Option Bx} (σ:L2.St) (H:Hp) (Q:Bool->Hp->Prop) (h:tFT K (λρ=>(f ρ).bind J8) σ H Q):tF K f σ H (λx H'=>∃ k,x=.bl k/\Q k H'):=by
 obtain⟨H0,ρ,k,E,e,q⟩:=h;obtain⟨b,eb,e⟩:=bind_some e;exact⟨H0,ρ,b,E,eb,λv H1 s1 n1 r1=>⟨k,Ew r1 e,q H1 s1⟩⟩
theorem dM {op:CmpOp} {g:Bx->Bx->Option Bx} (ho:HX X (compareOp op) g) (ha:QV X a fa) (hb:QV X b fb) (hm:behindInMarks op b=false):QB X (.Compare a [op] [b] pos) (λρ=>(b2 g fa fb ρ).bind J8):=⟨have ha:=ha.run;have hb:=hb.run;ptM (R6 ho ha hb hm) λσ H Q h=>Xh σ H _ (agv σ H Q h)⟩
def ch3 (g g':Bx->Bx->Option Bx) (fa fb fc:Ev->Option Bx):Ev->Option Bx:=λρ=>(fa ρ).bind λx=>(fb ρ).bind λy=>(g x y).bind λr=>(J8 r).bind λk=>if k=true then(fc ρ).bind λw=>g' y w else some (.z (.bl false))
theorem agw {K:FG_} {g g':Bx->Bx->Option Bx} {fa fb fc:Ev->Option Bx} (σ:L2.St) (H:Hp) (Q:VK) (h:tF K (ch3 g g' fa fb fc) σ H Q):W4 (rF K g) (rF K g') (tF K fa) (tF K fb) (tF K fc) σ H Q:=by
 obtain⟨H0,ρ,d,E,e,q⟩:=h;obtain⟨a,ea,e⟩:=bind_some e;obtain⟨b,eb,e⟩:=bind_some e;obtain⟨r,er,e⟩:=bind_some e;obtain⟨k,ek,e⟩:=bind_some e;refine⟨H0,ρ,a,E,ea,λv H1 s1 n1 r1=>⟨H0,ρ,b,E.grow s1,eb,λu H2 s2 n2 r2=>?_⟩⟩;refine⟨a,b,r,r1.same s2,r2,er,λw H3 s3 n3 r3=>⟨k,Ew r3 ek,?_⟩⟩;have s03:=(s1.trans s2).trans s3;cases k with
 |false=>
  rw[zC zk] at e ⊢;cases e;exact q _ H3 s03 trivial (by simp only[bA,Rep])
 |true=>
  rw[zh rfl] at e ⊢;obtain⟨w',ew,e⟩:=bind_some e;refine⟨H0,ρ,w',E.grow s03,ew,λx H4 s4 n4 r4=>?_⟩;exact⟨b,w',d,(r2.same s3).same s4,r4,e,λy H5 s5 n5 r5=>q y H5 ((s03.trans s4).trans s5) (n5.old (s03.trans s4)) r5⟩
theorem Mw {op op':CmpOp} {g g':Bx->Bx->Option Bx} (ho:HX X (compareOp op) g) (ho':HX X (compareOp op') g') (ha:QV X a fa) (hb:QV X b fb) (hc:QV X c fc) (hm:lastMarks [op,op'] [b,c]=false:=by with_unfolding_all rfl):QV X (.Compare a [op,op'] [b,c] pos) (ch3 g g' fa fb fc):=⟨have ha:=ha.run;have hb:=hb.run;have hc:=hc.run;z9 (W5 ho ho' ha hb hc hm) agw⟩
def Cd (ρ:Ev) (i:Nat):Option Bx:=match ρ[i]? with
 |some (some (.o ds))=>some (.l ds)
 |some (some (.m kvs _))=>some (.n kvs)
 |some (some b)=>some b
 |_=>none
theorem Mx {K:FG_} {H0 H:Hp} {σ:L2.St} {ρ:Ev} {i:Nat} {b:Bx} (E:bG K H0 H σ ρ) (e:Cd ρ i=some b):∃ v,σ[i]?=some (some v)/\bA K H b v:=by
 unfold Cd at e;split at e
 ·rename_i ds h;cases e;obtain⟨v,e1,a,vs,e2,q,r⟩:=E.val i _ h;exact⟨v,e1,a,vs,e2,.inl q,r⟩
 ·rename_i ds h;cases e;obtain⟨v,e1,a,vs,e2,q,r⟩:=E.val i _ h;exact⟨v,e1,a,vs,e2,.inl q,r.1⟩
 ·rename_i b' h;cases e;exact E.val i _ h
 ·cases e
theorem Dp {ρ:Ev} {i:Nat} {b:Bx} (e:Cd ρ i=some b):yg b=false:=by
 unfold Cd at e;split at e
 ·cases e;rfl
 ·cases e;rfl
 ·rename_i b' h1 h2 h3;cases e;cases b with
  |o ds=>exact absurd rfl (h1 ds)
  |m ds _=>exact absurd rfl (h2 ds _)
  |_=>rfl
 ·cases e
theorem ak (i:Nat) {x:Str} (hN:X.N[i]?=some x:=by rfl) (hv:WD X.env.scope x:=by first|exact JA rfl|exact QO (JA rfl)|exact QO (QO rfl)) (hd:(x==("__debug__" : Str))=false:=by decide) (hcd:(x==("__classdict__" : Str))=false:=by decide):QV X (.Name x pos) (λρ=>Cd ρ i):=⟨z9 (sZ hN hv hd hcd) λσ H Q h=>by
 obtain⟨H0,ρ,b,E,e,q⟩:=h;obtain⟨v,e1,r⟩:=Mx E e;refine⟨v,e1,q v H (Same.refl H) ?_ r⟩;cases b with
 |o ds=>have:=Dp e;cases this
 |m ds _=>have:=Dp e;cases this
 |_=>trivial⟩
def cB (d:Dt):Ev->Option Bx:=λ_=>some (.z d)
theorem U3 {v:V} {d:Dt} (h:PE X e (tC v)) (r:∀ H,Rep X.K H d v):PV X e (cB d):=z9 h λσ H Q q=>by
 obtain⟨H0,ρ,b,E,e,q⟩:=q;cases e;exact q v H (Same.refl H) trivial (r H)
theorem aA {i j}:QV X (.Constant (.int i) j pos) (cB (.int i)):=⟨U3 adz λH=>by simp only[Rep]⟩
theorem xu {i j}:QV X (.Constant (.bool i) j pos) (cB (.bl i)):=⟨U3 afQ λH=>by simp only[Rep]⟩
theorem kY {j}:QV X (.Constant .none j pos) (cB .non):=⟨U3 Qk λH=>by simp only[Rep]⟩
theorem Xi {x:Str} {j} (hx:x.length<=sizeLine:=by decide):PV X (.Constant (.str x) j pos) (cB (.str x)):=U3 Ql λH=>by unfold Rep;exact⟨rfl,hx⟩
theorem Mz {x:Str} {i:Int} {t:Tok} (hg:Gl X x) (hm:X.mg x=some (.int i t)) (hd:(x==("__debug__" : Str))=false:=by decide):QV X (.Name x pos) (cB (.int i)):=⟨U3 (nA hg hm (v:=.int i) ⟨t,rfl⟩ hd) λH=>by simp only[Rep]⟩
theorem Ey {x:Str} {y:Str} {t:Tok} (hg:Gl X x) (hm:X.mg x=some (.str y t)) (hy:y.length<=sizeLine:=by decide) (hd:(x==("__debug__" : Str))=false:=by decide):QV X (.Name x pos) (cB (.str y)):=⟨U3 (nA hg hm (v:=.str y) ⟨t,rfl⟩ hd) λH=>by unfold Rep;exact⟨rfl,hy⟩⟩
def Xj:Bx->Option Bool
 |.z .non=>some false
 |.z (.bl b)=>some b
 |.z (.int i)=>some (i != 0)
 |.z (.str x)=>some ((x.length:Int) != 0)
 |.z (.tup ds)=>some (!ds.isEmpty)
 |.z (.lst ds)=>some (!ds.isEmpty)
 |.l ds=>some (!ds.isEmpty)
 |.o ds=>some (!ds.isEmpty)
 |.z .emp=>none
 |.n _=>none
 |.m _ _=>none
theorem aQ.isEmpty {K:FG_} {H:Hp} {ds:List Dt} {vs:List V} (h:aQ K H ds vs):(!ds.isEmpty)=!vs.isEmpty:=by
 have:=h.length;cases ds<;>cases vs<;>simp_all
theorem aaR {K:FG_} {H:Hp} {b:Bx} {v:V} {k:Bool} (r:bA K H b v) (e:Xj b=some k):adS K v H k:=by
 cases b with
 |z d=>
  cases d with
  |non=>cases e;simp only[bA,Rep] at r;subst r;rfl
  |bl b=>cases e;simp only[bA,Rep] at r;subst r;rfl
  |int b=>cases e;simp only[bA,Rep] at r;subst r;rfl
  |str x=>cases e;simp only[bA,Rep] at r;obtain⟨rfl,h⟩:=r;exact⟨h,rfl⟩
  |tup ds=>
   cases e;simp only[bA,Rep] at r;obtain⟨a,vs,rfl,q,r⟩:=r;exact .inr (.inl ⟨vs,q,r.isEmpty⟩)
  |lst ds=>
   cases e;obtain⟨a,vs,rfl,q,r⟩:=r.Jf rfl;exact .inl ⟨vs,q,r.isEmpty⟩
  |emp=>cases e
 |l ds=>
  cases e;obtain⟨a,vs,rfl,q,r⟩:=r.Jf rfl;exact .inl ⟨vs,q,r.isEmpty⟩
 |o ds=>
  cases e;obtain⟨a,vs,rfl,q,r⟩:=r.Jf rfl;exact .inl ⟨vs,q,r.isEmpty⟩
 |n _=>cases e
 |m _ _=>cases e
theorem ig (h:QV X e f) (he:∀ whole,isTrue e X.env whole=(do let v <-whole;standAt e.pos;holding [v] (truthy v)):=by intro _;rfl):QB X e (λρ=>(f ρ).bind Xj):=⟨have h:=h.run;ptM (W6 h he) λσ H Q q=>by
 obtain⟨H0,ρ,k,E,e,q⟩:=q;obtain⟨b,eb,e⟩:=bind_some e;exact⟨H0,ρ,b,E,eb,λv H1 s1 n1 r1=>⟨k,aaR r1 e,q H1 s1⟩⟩⟩
def Qj (p q:Ev->Option Bool):Ev->Option Bool:=λρ=>(p ρ).bind λc=>if c=true then some true else q ρ
def rE (p:Ev->Option Bool):Ev->Option Bool:=λρ=>(p ρ).bind λc=>some (!c)
def PBW (X:Cx) (e:Expr) (f:Ev->Option Bool):Prop:=PW X e (tFT X.K f)
structure QBW (X:Cx) (e:Expr) (f:Ev->Option Bool):Prop where
 run:PBW X e f
variable {p q:Ev->Option Bool} {rest:List Expr}
theorem qz (ha:QB X a p):QBW X (.BoolOp .Or [a] pos) p:=⟨have ha:=ha.run;Qm ha⟩
theorem aeb {K:FG_} (σ:L2.St) (H:Hp) (Q:Bool->Hp->Prop) (h:tFT K (Qj p q) σ H Q):tOr (tFT K p) (tFT K q) σ H Q:=by
 obtain⟨H0,ρ,k,E,e,w⟩:=h;obtain⟨c,ec,e⟩:=bind_some e;refine⟨H0,ρ,c,E,ec,λH1 s1=>?_⟩;cases c with
 |true=>rw[zh rfl] at e ⊢;cases e;exact w H1 s1
 |false=>rw[zC zk] at e ⊢;exact⟨H0,ρ,k,E.grow s1,e,λH2 s2=>w H2 (s1.trans s2)⟩
theorem pP (ha:QB X a p) (hb:QBW X (.BoolOp .Or (b::rest) pos) q):QBW X (.BoolOp .Or (a::b::rest) pos) (Qj p q):=⟨have ha:=ha.run;have hb:=hb.run;pwM (Mi ha hb) aeb⟩
theorem MF (h:QBW X e p):QB X e p:=⟨have h:=h.run;h.pt⟩
theorem kZ (ha:QB X a p):QB X (.UnaryOp .Not a pos) (rE p):=⟨have ha:=ha.run;ptM (Qn ha) λσ H Q h=>by
 obtain⟨H0,ρ,k,E,e,w⟩:=h;obtain⟨c,ec,e⟩:=bind_some e;cases e;exact⟨H0,ρ,c,E,ec,λH1 s1=>w H1 s1⟩⟩
def yM (fa fb:Ev->Option Bx):Ev->Option Bx:=λρ=>((fa ρ).bind J8).bind λc=>if c=true then fb ρ else some (.z (.bl false))
theorem Aa {op} (h:QV X a fa):QV X (.BoolOp op [a] pos) fa:=⟨have h:=h.run;adC h⟩
theorem rG (ha:QV X a fa) (hb:QV X (.BoolOp .And (b::rest) pos) fb):QV X (.BoolOp .And (a::b::rest) pos) (yM fa fb):=⟨have ha:=ha.run;have hb:=hb.run;z9 (adD ha hb) λσ H Q h=>by
 obtain⟨H0,ρ,k,E,e,w⟩:=h;obtain⟨c,ec,e⟩:=bind_some e;obtain⟨x,ex,ec⟩:=bind_some ec;refine⟨H0,ρ,x,E,ex,λv H1 s1 n1 r1=>⟨c,Ew r1 ec,?_⟩⟩;cases c with
 |true=>rw[zh rfl] at e ⊢;exact⟨H0,ρ,k,E.grow s1,e,λv H2 s2 n2 r2=>w v H2 (s1.trans s2) (n2.old s1) r2⟩
 |false=>rw[zC zk] at e ⊢;cases e;exact w _ H1 s1 trivial (by simp only[bA,Rep])⟩
def Xk (p:Ev->Option Bool) (fa fb:Ev->Option Bx):Ev->Option Bx:=λρ=>(p ρ).bind λc=>if c=true then fa ρ else fb ρ
theorem J9 (hc:QB X c p) (ha:QV X a fa) (hb:QV X b fb):QV X (.IfExp c a b pos) (Xk p fa fb):=⟨have hc:=hc.run;have ha:=ha.run;have hb:=hb.run;z9 (WT hc ha hb) λσ H Q h=>by
 obtain⟨H0,ρ,k,E,e,w⟩:=h;obtain⟨c,ec,e⟩:=bind_some e;refine⟨H0,ρ,c,E,ec,λH1 s1=>?_⟩;cases c with
 |true=>rw[zh rfl] at e ⊢;exact⟨H0,ρ,k,E.grow s1,e,λv H2 s2 n2 r2=>w v H2 (s1.trans s2) (n2.old s1) r2⟩
 |false=>rw[zC zk] at e ⊢;exact⟨H0,ρ,k,E.grow s1,e,λv H2 s2 n2 r2=>w v H2 (s1.trans s2) (n2.old s1) r2⟩⟩
theorem wz:PVs X [] (λ_=>some []):=paM g8 λσ H Q h=>by
 obtain⟨H0,ρ,bs,E,e,q⟩:=h;cases e;exact q [] H (Same.refl H) .nil
def ao (f:Ev->Option Bx) (fs:Ev->Option (List Bx)):Ev->Option (List Bx):=λρ=>(f ρ).bind λb=>(fs ρ).bind λbs=>some (b::bs)
theorem pQ (h1:PV X e f) (h2:PVs X es fs) (hs:starEach (e::es) X.env=(false,eval e X.env)::starEach es X.env:=by rfl):PVs X (e::es) (ao f fs):=paM (bT h1 h2 hs) λσ H Q h=>by
 obtain⟨H0,ρ,bs,E,e,q⟩:=h;obtain⟨b,eb,e⟩:=bind_some e;obtain⟨bs',ebs,e⟩:=bind_some e;cases e;refine⟨H0,ρ,b,E,eb,λv H1 s1 n1 r1=>⟨H0,ρ,bs',E.grow s1,ebs,λvs H2 s2 r2=>?_⟩⟩;exact q (v::vs) H2 (s1.trans s2) (.cons (r1.same s2) r2)
def uQ:Bx->Option Bx
 |.z d=>some (.z d)
 |.o ds=>some (.z (.lst ds))
 |.l _=>none
 |.n _=>none
 |.m _ _=>none
theorem Ez {pins:List (Addr×Obj)} {σ:L2.St} {H:Hp} {s:Shared} {a:Addr} {vs:List V} (I:L2.Inv X pins σ H s) (h:H a=some (.lst vs)):∃ o,L2.Inv X pins σ (upd H a (.yF o (.lst vs))) s:=by
 obtain⟨z,its,n,r,e⟩:=I.hok a _ h;refine⟨{ cls:=.type "list", data:=.seq its.toArray n },⟨I.ok,I.os,I.bare,⟨I.base.keep,I.base.slot,λb ob q1 q2 q3=>?_,I.base.there,λb xs q=>?_,λb ob u q=>?_,λb ps q=>?_⟩,I.loc,I.cell,?_,λx c q=>?_,λp hp=>?_,?_,I.len⟩⟩
 ·have:=I.base.free b ob q1 q2 q3;rw[aM (bF h this).symm];exact this
 ·have:=I.base.tups b xs q;rw[aM (nM this h (by intro z;cases z))];exact this
 ·have:=I.base.rQ b ob u q;rw[aM (nM this h (by intro z;cases z))];exact this
 ·obtain⟨m,this⟩:=I.base.uN b ps q;rw[aM (nM this h (by intro z;cases z))];exact⟨m,this⟩
 ·rw[aM (bF h I.free).symm];exact I.free
 ·rw[aM (bF h (I.jP x c q)).symm];exact I.jP x c q
 ·obtain⟨q1,q2,q3⟩:=I.pin p hp;refine⟨q1,?_,q3⟩;rw[aM (bF h q2).symm];exact q2
 ·intro b u q;by_cases hb:b=a
  ·subst hb;rw[aV] at q;cases q;exact⟨e,z,its,n,r,e⟩
  ·rw[aM hb] at q;refine(I.hok b u q).stay (λc v _ w=>w) (λc w=>?_) λc xs w=>?_
   ·rw[aM (nM w h (by intro z;cases z))];exact w
   ·rw[aM (nM w h (by intro z;cases z))];exact w
theorem jH (h:QV X e f):QV X e (b1 uQ f):=⟨by
 have h:=h.run;intro pins s σ H Q I q;obtain⟨H0,ρ,b,E,e,q⟩:=q;obtain⟨x,ex,e⟩:=bind_some e;cases x with
 |z d=>
  cases e;exact h pins s σ H Q I ⟨H0,ρ,_,E,ex,λv H' s' n' r'=>q v H' s' trivial r'⟩
 |l ds=>cases e
 |n ds=>cases e
 |m ds _=>cases e
 |o ds=>
  cases e;refine gU (h pins s σ H (λv H'=>Same H H'/\Nw H (.o ds) v/\bA X.K H' (.o ds) v) I ⟨H0,ρ,_,E,ex,λv H' s' n' r'=>⟨s',n',r'⟩⟩) λu s1 hq=>?_;obtain⟨v,H1,I1,rv,s',n',r'⟩:=hq;obtain⟨a,vs,rfl,ha,rs⟩:=r';obtain⟨o,I2⟩:=Ez I1 ha;refine⟨.ref a,_,I2,rv,q _ _ (λc ob hc=>?_) trivial ?_⟩
  ·rw[aM (bF hc (n' a rfl))];exact s' c ob hc
  ·simp only[bA,Rep];exact⟨a,vs,rfl,.inl ⟨o,aV⟩,rs.kp (.lst ha)⟩⟩
def Ka:List Bx->Option (List Dt)
 |[]=>some []
 |.z d::r=>(Ka r).bind λds=>some (d::ds)
 |_=>none
theorem EY {K:FG_} {H:Hp}:∀ {bs:List Bx} {vs:List V} {ds:List Dt},qy K H bs vs->Ka bs=some ds->aQ K H ds vs
 |_,_,_,.nil,e=>by cases e;exact aQ.nil
 |b::bs,_,_,.cons h t,e=>by
  cases b with
  |z d=>
   simp only[Ka] at e;obtain⟨ds',e1,e2⟩:=bind_some e;cases e2;exact aQ.cons h (EY t e1)
  |_=>cases e
theorem Fb:∀ {bs:List Bx} {ds:List Dt},Ka bs=some ds->ds.length=bs.length
 |[],_,e=>by cases e;rfl
 |.z d::r,_,e=>by
  simp only[Ka] at e;obtain⟨ds',e1,e2⟩:=bind_some e;cases e2;simp[Fb e1]
 |.l _::_,_,e=>by cases e
 |.o _::_,_,e=>by cases e
 |.n _::_,_,e=>by cases e
 |.m _ _::_,_,e=>by cases e
def oh (bs:List Bx):Option Bx:=if bs.length<=1000 then(Ka bs).bind λds=>some (.z (.tup ds)) else none
def gY (bs:List Bx):Option Bx:=if bs.length<=1000 then(Ka bs).bind λds=>some (.o ds) else none
theorem bI {H:Hp} {p:Addr} {o:HO} (h:H p=none):Same H (upd H p o):=λb u e=>by rw[aM (bF e h)];exact e
theorem acT {n:Nat} (h:n<=1000):n<=sizeLine:=zI h (by decide)
theorem jL {x1} (h:Sh X es fs):QV X (.Tuple es x1 pos) (dw oh fs):=⟨have h:=h.run;z9 (JZ h) λσ H Q q=>by
 obtain⟨H0,ρ,c,E,e,q⟩:=q;obtain⟨bs,ebs,e⟩:=bind_some e;refine⟨H0,ρ,bs,E,ebs,λvs H1 s1 r1=>?_⟩;unfold oh at e;split at e
 ·rename_i hl;obtain⟨ds,e1,e⟩:=bind_some e;cases e;have r2:=EY r1 e1;refine⟨acT (by rw[r2.length,Fb e1];exact hl),λp hp=>q _ _ (s1.trans (bI hp)) trivial ?_⟩;simp only[bA,Rep];exact⟨p,vs,rfl,.inl (.inl aV),r2.kp (.of (bI hp))⟩
 ·cases e⟩
theorem dO (h:Sh X es fs):QV X (.List es pos) (dw gY fs):=⟨have h:=h.run;z9 (adU h) λσ H Q q=>by
 obtain⟨H0,ρ,c,E,e,q⟩:=q;obtain⟨bs,ebs,e⟩:=bind_some e;refine⟨H0,ρ,bs,E,ebs,λvs H1 s1 r1=>?_⟩;unfold gY at e;split at e
 ·rename_i hl;obtain⟨ds,e1,e⟩:=bind_some e;cases e;have r2:=EY r1 e1;refine⟨acT (by rw[r2.length,Fb e1];exact hl),λp hp=>q _ _ (s1.trans (bI hp)) (λa ea=>by cases ea;exact s1.free hp) ?_⟩;exact⟨p,vs,rfl,aV,r2.kp (.of (bI hp))⟩
 ·cases e⟩
theorem cg {x:Str} {id:String} {g:List Bx->Option Bx} {p:Pos} (hc:yL X (.builtin id) g) (hg:Gl X x) (hm:X.mg x=none) (hv:bootBuiltins x=some (.builtin id)) (ha:Sh X (e::es) fs) (hn:x ≠ "__name__" := by decide) (hdb:(x==("__debug__" : Str))=false:=by decide) (he:starEach (e::es) X.env=(false,eval e X.env)::starEach es X.env:=by rfl) (hpl:(backTo pos (starEach es X.env)).any (·.1)=false:=by rfl):QV X (.Call (.Name x p) (e::es) [] pos) (dw g fs):=⟨have ha:=ha.run;z9 (nO hc hg hm hv ha hn hdb he hpl) convs⟩
theorem jt {x:Str} {T:String} {g:List Bx->Option Bx} {p:Pos} (hc:yL X (.type T) g) (hg:Gl X x) (hm:X.mg x=none) (hv:bootBuiltins x=some (.type T)) (ha:Sh X (e::es) fs) (hn:x ≠ "__name__" := by decide) (hdb:(x==("__debug__" : Str))=false:=by decide) (he:starEach (e::es) X.env=(false,eval e X.env)::starEach es X.env:=by rfl) (hpl:(backTo pos (starEach es X.env)).any (·.1)=false:=by rfl):QV X (.Call (.Name x p) (e::es) [] pos) (dw g fs):=⟨have ha:=ha.run;z9 (Jd hc hg hm hv ha hn hdb he hpl) convs⟩
end
inductive Out where
 |nx (ρ:Ev)|rt (b:Bx)|bk (ρ:Ev)|ct (ρ:Ev)
def QF (K:FG_) (H0:Hp) (D:Ends):Out->Prop
 |.nx ρ=>∀ σ H,bG K H0 H σ ρ->D.nx σ H
 |.rt b=>∀ v H,Same H0 H->Nw H0 b v->bA K H b v->D.rt v H
 |.bk ρ=>∀ σ H,bG K H0 H σ ρ->D.bk σ H
 |.ct ρ=>∀ σ H,bG K H0 H σ ρ->D.ct σ H
def tG (K:FG_) (g:Ev->Option Out):TS:=λD σ H=>∃ H0 ρ r,bG K H0 H σ ρ/\g ρ=some r/\QF K H0 D r
def PG1 (X:Cx) (st:Stmt) (g:Ev->Option Out):Prop:=PS X st (tG X.K g)
structure Sq (X:Cx) (st:Stmt) (g:Ev->Option Out):Prop where
 run:PG1 X st g
def R0 (X:Cx) (st:List Stmt) (g:Ev->Option Out):Prop:=zU X st (tG X.K g)
structure QG (X:Cx) (st:List Stmt) (g:Ev->Option Out):Prop where
 run:R0 X st g
def aD (g1 g2:Ev->Option Out):Ev->Option Out:=λρ=>(g1 ρ).bind λr=>match r with
 |.nx ρ'=>g2 ρ'
 |r=>some r
section
variable {X:Cx} {a b c e:Expr} {es:List Expr} {fa fb fc f:Ev->Option Bx} {fs:Ev->Option (List Bx)} {pos:Pos} {st:Stmt} {rest:List Stmt} {g g1 g2:Ev->Option Out}
theorem aK  : QG X [] (λρ=>some (.nx ρ)):=⟨QD Dj λD σ H h=>by
 obtain⟨H0,ρ,r,E,e,q⟩:=h;cases e;exact q σ H E⟩
theorem aq (h1:Sq X st g1) (h2:QG X rest g2):QG X (st::rest) (aD g1 g2):=⟨have h1:=h1.run;have h2:=h2.run;QD (fZ h1 h2) λD σ H h=>by
 obtain⟨H0,ρ,r,E,e,q⟩:=h;obtain⟨r1,e1,e⟩:=bind_some e;refine⟨H0,ρ,r1,E,e1,?_⟩;cases r1 with
 |nx ρ'=>exact λσ' H' E'=>⟨H0,ρ',r,E',e,q⟩
 |rt b=>cases e;exact q
 |bk ρ'=>cases e;exact q
 |ct ρ'=>cases e;exact q⟩
def Xl:Bx->Option Out
 |.l _=>none
 |.n _=>none
 |b=>some (.rt b)
theorem bJ (h:QV X e f):Sq X (.Return (some e) pos) (λρ=>(f ρ).bind Xl):=⟨have h:=h.run;Wq (JX h) λD σ H h=>by
 obtain⟨H0,ρ,r,E,e,q⟩:=h;obtain⟨b,eb,e⟩:=bind_some e;refine⟨H0,ρ,b,E,eb,λv H1 s1 n1 r1=>?_⟩;cases b with
 |l ds=>cases e
 |z d=>cases e;exact q v H1 (E.base.trans s1) trivial r1
 |o ds=>cases e;exact q v H1 (E.base.trans s1) (n1.old E.base) r1
 |n ds=>cases e
 |m ds _=>cases e;exact q v H1 (E.base.trans s1) (n1.old E.base) r1⟩
def Kc (i:Nat) (ρ:Ev):Option Out:=match ρ[i]? with
 |some (some b)=>Xl b
 |_=>none
theorem Ss (i:Nat) {x:Str} {p:Pos} (hN:X.N[i]?=some x:=by rfl) (hv:WD X.env.scope x:=by first|exact JA rfl|exact QO (JA rfl)|exact QO (QO rfl)) (hd:(x==("__debug__" : Str))=false:=by decide) (hcd:(x==("__classdict__" : Str))=false:=by decide):Sq X (.Return (some (.Name x p)) pos) (Kc i):=⟨Wq (JX (sZ hN hv hd hcd)) λD σ H h=>by
 obtain⟨H0,ρ,r,E,e,q⟩:=h;unfold Kc at e;split at e
 ·rename_i b hb;obtain⟨v,e1,r1⟩:=E.val i b hb;refine⟨v,e1,?_⟩;cases b with
  |l ds=>cases e
  |z d=>cases e;exact q v H E.base trivial r1
  |o ds=>cases e;exact q v H E.base (λa ea=>E.new i _ a hb rfl (by rw[e1,ea])) r1
  |n ds=>cases e
  |m ds _=>cases e;exact q v H E.base (λa ea=>E.new i _ a hb rfl (by rw[e1,ea])) r1
 ·cases e⟩
def uY (p:Ev->Option Bool) (g1 g2:Ev->Option Out):Ev->Option Out:=λρ=>(p ρ).bind λk=>if k=true then g1 ρ else g2 ρ
theorem gK {p:Ev->Option Bool} {u v:List Stmt} (hc:QB X c p) (ha:QG X u g1) (hb:QG X v g2):Sq X (.If c u v pos) (uY p g1 g2):=⟨have hc:=hc.run;have ha:=ha.run;have hb:=hb.run;Wq (Ml hc ha hb) λD σ H h=>by
 obtain⟨H0,ρ,r,E,e,q⟩:=h;obtain⟨k,ek,e⟩:=bind_some e;refine⟨H0,ρ,k,E,ek,λH1 s1=>?_⟩;cases k with
 |true=>rw[zh rfl] at e ⊢;exact⟨H0,ρ,r,E.grow s1,e,q⟩
 |false=>rw[zC zk] at e ⊢;exact⟨H0,ρ,r,E.grow s1,e,q⟩⟩
theorem getset {α:Type} {l:List α} {i j:Nat} {x y:α} (h:(l.set i x)[j]?=some y):(j=i/\y=x/\i < l.length)\/(j≠i/\l[j]?=some y):=by
 rw[kQ] at h;by_cases e:i=j
 ·subst e;rw[zh rfl] at h;split at h
  ·cases h;exact .inl ⟨rfl,rfl,by assumption⟩
  ·cases h
 ·rw[zC e] at h;exact .inr ⟨λz=>e z.symm,h⟩
theorem Ab {α:Type} {l:List α} {i:Nat} (x:α) (h:i < l.length):(l.set i x)[i]?=some x:=by
 rw[kQ,zh rfl,zh h]
theorem oK {α:Type} {l:List α} {i j:Nat} (x:α) (h:j≠i):(l.set i x)[j]?=l[j]?:=by
 rw[kQ,zC (Q2 h)]
theorem bG.set {K:FG_} {H0 H H1:Hp} {σ:L2.St} {ρ:Ev} {i:Nat} {b:Bx} {v:V} (E:bG K H0 H σ ρ) (s:Same H H1) (r:bA K H1 b v) (hl:yg b=true\/loose b=false) (n:Nw H b v):bG K H0 H1 (σ.set i (some v)) (ρ.set i (some b)):=by
 have E1:=E.grow s;have apart:∀ (j:Nat) (b':Bx) (a:Addr),ρ[j]?=some (some b')->loose b'=true->σ[j]?=some (some (.ref a))->H a≠none:=λj b' a e1 e2 e3 z=>by
  obtain⟨v',e4,r'⟩:=E.val j b' e1;rw[e3] at e4;cases e4;cases b' with
  |z d=>cases e2
  |l ds=>
   obtain⟨a',vs,e5,q,_⟩:=r';cases e5;rcases q with q|⟨o,q⟩<;>(rw[z] at q;cases q)
  |o ds=>
   obtain⟨a',vs,e5,q,_⟩:=r';cases e5;rw[z] at q;cases q
  |n ds=>
   obtain⟨a',vs,e5,q,_⟩:=r';cases e5;rcases q with q|⟨o,q⟩<;>(rw[z] at q;cases q)
  |m ds _=>
   obtain⟨a',vs,e5,q,_⟩:=r';cases e5;rw[z] at q;cases q
 have nw:yg b=true->∀ a,v=.ref a->H a=none:=λho=>by
  cases b with
  |o ds=>exact n
  |m ds _=>exact n
  |_=>cases ho
 refine⟨by rw[qq,qq];exact E.len,λj b' e=>?_,λj k c a b' e1 ec e2 e3 e4 e5=>?_,E1.base,λj c a e1 ec e2=>?_⟩
 ·rcases getset e with⟨rfl,e',hi⟩|⟨hne,e'⟩
  ·cases e';exact⟨v,Ab _ (by rw[E.len];exact hi),r⟩
  ·rw[oK _ hne];exact E1.val j b' e'
 ·rcases getset e1 with⟨rfl,e',hi⟩|⟨hne,e'⟩
  ·cases e';rw[Ab _ (by rw[E.len];exact hi)] at e2;cases e2;rcases getset e3 with⟨rfl,e3',_⟩|⟨aaS,e3'⟩
   ·rfl
   ·rw[oK _ aaS] at e5;exact absurd (nw ec a rfl) (apart k b' a e3' e4 e5)
  ·rw[oK _ hne] at e2;rcases getset e3 with⟨rfl,e3',hi⟩|⟨aaS,e3'⟩
   ·cases e3';rw[Ab _ (by rw[E.len];exact hi)] at e5;cases e5;have hlo:loose c=true:=by cases c<;>first|rfl|cases ec
    rcases hl with hl|hl
    ·exact absurd (nw hl a rfl) (apart j _ a e' hlo e2)
    ·rw[hl] at e4;cases e4
   ·rw[oK _ aaS] at e5;exact E.own j k c a b' e' ec e2 e3' e4 e5
 ·rcases getset e1 with⟨rfl,e',hi⟩|⟨hne,e'⟩
  ·cases e';rw[Ab _ (by rw[E.len];exact hi)] at e2;cases e2;exact E.base.free (nw ec a rfl)
  ·rw[oK _ hne] at e2;exact E.new j c a e' ec e2
def Xm (ρ:Ev) (i:Nat):Bx->Option Ev
 |.l _=>none
 |.n _=>none
 |b=>some (ρ.set i (some b))
theorem aaT {K:FG_} {H0 H H1:Hp} {σ:L2.St} {ρ ρ':Ev} {i:Nat} {b:Bx} {v:V} (E:bG K H0 H σ ρ) (s:Same H H1) (r:bA K H1 b v) (n:Nw H b v) (e:Xm ρ i b=some ρ'):bG K H0 H1 (σ.set i (some v)) ρ':=by
 cases b with
 |l ds=>cases e
 |z d=>cases e;exact E.set s r (.inr rfl) n
 |o d=>cases e;exact E.set s r (.inl rfl) n
 |n ds=>cases e
 |m d _=>cases e;exact E.set s r (.inl rfl) n
theorem aY (i:Nat) {x:Str} {p:Pos} (hN:X.N.Nodup) (he:QV X e f) (hi:X.N[i]?=some x:=by rfl) (hx:Loc X.env.scope x:=by first|exact JA rfl|exact QO rfl) (hs:swapsWith e (some (.Name x p)) pos.line X.env=pure false:=by rfl) (hf:X.fn x=true\/X.env.scope.names.lookup x=some .local:=by first|exact .inl rfl|exact .inr rfl):Sq X (.Assign [.Name x p] e pos) (λρ=>(f ρ).bind λb=>(Xm ρ i b).bind λρ'=>some (.nx ρ')):=⟨have he:=he.run;Wq (uU hN hi hx he hs hf) λD σ H h=>by
 obtain⟨H0,ρ,r,E,e,q⟩:=h;obtain⟨b,eb,e⟩:=bind_some e;obtain⟨ρ',eρ,e⟩:=bind_some e;cases e;exact⟨H0,ρ,b,E,eb,λv H1 s1 n1 r1=>q _ _ (aaT E s1 r1 n1 eρ)⟩⟩
def Lo (σ:L2.St) (ρ:Ev) (σ':L2.St) (ρ':Ev):Prop:=∀ (j:Nat) b,loose b=true->ρ'[j]?=some (some b)->ρ[j]?=some (some b)/\σ'[j]?=σ[j]?
theorem Lo.refl {σ:L2.St} {ρ:Ev}:Lo σ ρ σ ρ:=λ_ _ _ e=>⟨e,rfl⟩
theorem Lo.trans {σ σ1 σ2:L2.St} {ρ ρ1 ρ2:Ev} (a:Lo σ ρ σ1 ρ1) (b:Lo σ1 ρ1 σ2 ρ2):Lo σ ρ σ2 ρ2:=λj c l e=>by
 obtain⟨e1,e2⟩:=b j c l e;obtain⟨e3,e4⟩:=a j c l e1;exact⟨e3,e2.trans e4⟩
theorem Lo.set {σ:L2.St} {ρ:Ev} (i:Nat) (v:V) (d:Dt):Lo σ ρ (σ.set i (some v)) (ρ.set i (some (.z d))):=λj b l e=>by
 rcases getset e with⟨rfl,e',_⟩|⟨hne,e'⟩
 ·cases e';cases l
 ·exact⟨e',oK _ hne⟩
def tgF (K:FG_) (g:Dt->Ev->Option Ev):TG:=λv σ H Q=>∃ H0 ρ d ρ',bG K H0 H σ ρ/\Rep K H d v/\g d ρ=some ρ'/\∀ σ',bG K H0 H σ' ρ'->Lo σ ρ σ' ρ'->Q σ' H
def PTg (X:Cx) (t:Expr) (g:Dt->Ev->Option Ev):Prop:=PG X t (tgF X.K g)
structure QTg (X:Cx) (t:Expr) (g:Dt->Ev->Option Ev):Prop where
 run:PTg X t g
theorem cM (i:Nat) {x:Str} (hN:X.N.Nodup) (hi:X.N[i]?=some x:=by rfl) (hx:Loc X.env.scope x:=by first|exact JA rfl|exact QO rfl) (hf:X.fn x=true\/X.env.scope.names.lookup x=some .local:=by first|exact .inl rfl|exact .inr rfl):QTg X (.Name x pos) (λd ρ=>some (ρ.set i (some (.z d)))):=⟨λpins s σ H v u Q I r h=>by
 obtain⟨H0,ρ,d,ρ',E,rd,e,q⟩:=h;cases e;exact Dl hN hi hx hf pins s σ H v u Q I r (q _ (E.set (b:=.z d) (Same.refl H) rd (.inr rfl) trivial) (Lo.set i v d))⟩
def aiO (K:FG_) (g:List Dt->Ev->Option Ev):TGs:=λvs σ H Q=>∃ H0 ρ ds ρ',bG K H0 H σ ρ/\aQ K H ds vs/\g ds ρ=some ρ'/\∀ σ',bG K H0 H σ' ρ'->Lo σ ρ σ' ρ'->Q σ' H
def aiP (X:Cx) (t:List Expr) (g:List Dt->Ev->Option Ev):Prop:=L2.R0 X t (aiO X.K g)
structure aaU (X:Cx) (t:List Expr) (g:List Dt->Ev->Option Ev):Prop where
 run:aiP X t g
def Sv:List Dt->Ev->Option Ev
 |[],ρ=>some ρ
 |_,_=>none
def tD (g:Dt->Ev->Option Ev) (gs:List Dt->Ev->Option Ev):List Dt->Ev->Option Ev
 |d::ds,ρ=>(g d ρ).bind (gs ds)
 |_,_=>none
theorem Sw  : aaU X [] Sv:=⟨λpins s σ H vs us Q I r h=>by
 obtain⟨H0,ρ,ds,ρ',E,rd,e,q⟩:=h;cases ds with
 |nil=>cases e;unfold aQ at rd;exact R4 pins s σ H vs us Q I r ⟨rd,q _ E Lo.refl⟩
 |cons d ds=>cases e⟩
theorem uZ {t:Expr} {ts:List Expr} {gt:Dt->Ev->Option Ev} {gs:List Dt->Ev->Option Ev} (h1:QTg X t gt) (h2:aaU X ts gs) (hs:(assignEach (t::ts) X.env).map (·.2)=assign t X.env::(assignEach ts X.env).map (·.2):=by rfl):aaU X (t::ts) (tD gt gs):=⟨have h1:=h1.run;have h2:=h2.run;λpins s σ H vs us Q I r h=>by
 obtain⟨H0,ρ,ds,ρ',E,rd,e,q⟩:=h;cases ds with
 |nil=>cases e
 |cons d ds=>
  unfold aQ at rd;obtain⟨v,vr,rfl,r1,r2⟩:=rd;simp only[tD] at e;obtain⟨ρ1,e1,e⟩:=bind_some e;exact Ek h1 h2 hs pins s σ H _ us Q I r ⟨v,vr,rfl,H0,ρ,d,ρ1,E,r1,e1,λσ1 E1 L1=>⟨H0,ρ1,ds,ρ',E1,r2,e,λσ2 E2 L2=>q σ2 E2 (L1.trans L2)⟩⟩⟩
def Jg (n:Nat) (gs:List Dt->Ev->Option Ev):Dt->Ev->Option Ev
 |.tup ds,ρ=>if ds.length=n then gs ds ρ else none
 |_,_=>none
theorem Xn {ts:List Expr} {k n:Nat} {gs:List Dt->Ev->Option Ev} (hc:X.calm=true) (h:aaU X ts gs) (hn:(assignEach ts X.env).length=n:=by rfl) (hst:(assignEach ts X.env).findIdx? (·.1)=none:=by rfl):QTg X (.Tuple ts k pos) (Jg n gs):=⟨have h:=h.run;λpins s σ H v u Q I r hw=>by
 obtain⟨H0,ρ,d,ρ',E,rd,e,q⟩:=hw;cases d with
 |tup ds=>
  simp only[Jg] at e;split at e
  ·rename_i hl;unfold Rep at rd;obtain⟨a,vs,rfl,hq,rs⟩:=rd;exact WW hc h hn hst pins s σ H _ u Q I r ⟨a,vs,rfl,hq,by rw[rs.length];exact hl,H0,ρ,ds,ρ',E,rs,e,q⟩
  ·cases e
 |_=>cases e⟩
theorem aed {tg:Expr} {gt:Dt->Ev->Option Ev} (he:QV X e f) (hg:QTg X tg gt) (hs:swapsWithSole [tg] e pos.line X.env=pure false:=by rfl) (hw:swappedStores [tg] e X.env=pure none:=by rfl) (h1:(assignEach [tg] X.env).map (·.2)=[assign tg X.env]:=by rfl):Sq X (.Assign [tg] e pos) (λρ=>(f ρ).bind λb=>match b with|.z d=>(gt d ρ).bind λρ'=>some (.nx ρ')|_=>none):=⟨have he:=he.run;have hg:=hg.run;Wq (adF he hg hs hw h1) λD σ H h=>by
 obtain⟨H0,ρ,r,E,e,q⟩:=h;obtain⟨b,eb,e⟩:=bind_some e;refine⟨H0,ρ,b,E,eb,λv H1 s1 n1 r1=>?_⟩;cases b with
 |z d=>
  obtain⟨ρ',eρ,e⟩:=bind_some e;cases e;exact⟨H0,ρ,d,ρ',E.grow s1,r1,eρ,λσ' E' _=>q _ _ E'⟩
 |_=>cases e⟩
def aaV (i j:Nat) (ρ:Ev):List Bx->Option Out
 |[.z d,.z d']=>some (.nx ((ρ.set i (some (.z d))).set j (some (.z d'))))
 |_=>none
theorem aee (i j:Nat) {x y:Str} {px py pt:Pos} {kt k2 pt2} (hc:X.calm=true) (hN:X.N.Nodup) (ha:Sh X [a,b] fs) (hi:X.N[i]?=some x:=by rfl) (hj:X.N[j]?=some y:=by rfl) (hij:i≠j:=by decide) (hx:X.env.scope.names.lookup x=some .local:=by rfl) (hy:X.env.scope.names.lookup y=some .local:=by rfl) (hw:swappedStores [.Tuple [.Name x px,.Name y py] kt pt] (.Tuple [a,b] k2 pt2) X.env=pure (some [x,y]):=by rfl) (hs:swapsWithSole [.Tuple [.Name x px,.Name y py] kt pt] (.Tuple [a,b] k2 pt2) pos.line X.env=pure false:=by rfl):Sq X (.Assign [.Tuple [.Name x px,.Name y py] kt pt] (.Tuple [a,b] k2 pt2) pos) (λρ=>(fs ρ).bind (aaV i j ρ)):=⟨have ha:=ha.run;Wq (adG hc hN hi hj hij hx hy ha hw hs) λD σ H h=>by
 obtain⟨H0,ρ,r,E,e,q⟩:=h;obtain⟨bs,eb,e⟩:=bind_some e;refine⟨H0,ρ,bs,E,eb,λvs H1 s1 r1=>?_⟩;unfold aaV at e;split at e
 ·rename_i d d';cases e;cases r1 with
  |cons p t=>
   cases t with
   |cons p' t'=>
    cases t';refine⟨_,_,rfl,q _ _ ?_⟩;exact((E.grow s1).set (b:=.z d) (Same.refl H1) p (.inr rfl) trivial).set (b:=.z d') (Same.refl H1) p' (.inr rfl) trivial
 ·cases e⟩
def aaW (ρ:Ev) (i:Nat):Bx->Option Out
 |.z d=>match ρ[i]? with
  |some (some (.o ds))=>if ds.length < sizeLine then some (.nx (ρ.set i (some (.o (ds++[d]))))) else none
  |_=>none
 |_=>none
theorem bG.aef {K:FG_} {H0 H:Hp} {σ:L2.St} {ρ:Ev} {i:Nat} {c0 c1:Bx} {a:Addr} {u:HO} (E:bG K H0 H σ ρ) (h:ρ[i]?=some (some c0)) (ho:yg c0=true) (hs:σ[i]?=some (some (.ref a))) (k:Kp H (upd H a u)) (r:bA K (upd H a u) c1 (.ref a)) :
  bG K H0 (upd H a u) σ (ρ.set i (some c1)):=by
 have hi:i < ρ.length:=(List.getElem?_eq_some_iff.mp h).1;have hb:H0 a=none:=E.new i c0 a h ho hs;have lo:∀ c,yg c=true->loose c=true:=λc hc=>by cases c<;>first|rfl|cases hc
 refine⟨by rw[qq];exact E.len,λj b' e=>?_,λj k' c a' b' e1 ec e2 e3 e4 e5=>?_,λc o e=>?_,λj c a' e1 ec e2=>?_⟩
 ·rcases getset e with⟨rfl,e',_⟩|⟨hne,e'⟩
  ·cases e';exact⟨_,hs,r⟩
  ·obtain⟨v,e1,r'⟩:=E.val j b' e';refine⟨v,e1,?_⟩;have away:∀ a',v=.ref a'->loose b'=true->a'≠a:=λa' ev hl z=>by
    subst z;exact hne (E.own i j c0 _ _ h ho hs e' hl (by rw[e1,ev])).symm
   cases b' with
   |z d=>exact Rep.kp k r'
   |l ds'=>
    obtain⟨a',vs',rfl,q,rr⟩:=r';refine⟨a',vs',rfl,?_,rr.kp k⟩;have hn:=away a' rfl rfl;rcases q with q|⟨o,q⟩
    ·exact .inl (by rw[aM hn];exact q)
    ·exact .inr ⟨o,by rw[aM hn];exact q⟩
   |o ds'=>
    obtain⟨a',vs',rfl,q,rr⟩:=r';have hn:=away a' rfl rfl;exact⟨a',vs',rfl,by rw[aM hn];exact q,rr.kp k⟩
   |n ds'=>
    obtain⟨a',vs',rfl,q,rr⟩:=r';refine⟨a',vs',rfl,?_,rr.kp k⟩;have hn:=away a' rfl rfl;rcases q with q|⟨o,q⟩
    ·exact .inl (by rw[aM hn];exact q)
    ·exact .inr ⟨o,by rw[aM hn];exact q⟩
   |m ds'=>
    obtain⟨a',vs',rfl,q,rr⟩:=r';have hn:=away a' rfl rfl;exact⟨a',vs',rfl,by rw[aM hn];exact q,rr.1.kp k,rr.2⟩
 ·have back:∀ (m:Nat) (b:Bx),(ρ.set i (some c1))[m]?=some (some b)->loose b=true->∃ b0,ρ[m]?=some (some b0)/\loose b0=true/\(yg b=true->yg b0=true):=λm b e l=>by
   rcases getset e with⟨rfl,e',_⟩|⟨hne,e'⟩
   ·exact⟨_,h,lo _ ho,λ_=>ho⟩
   ·exact⟨b,e',l,λz=>z⟩
  obtain⟨b0,q1,q2,q3⟩:=back j _ e1 (lo _ ec);obtain⟨b1,q4,q5,_⟩:=back k' _ e3 e4;exact E.own j k' b0 a' b1 q1 (q3 ec) e2 q4 q5 e5
 ·rw[aM (bF e hb)];exact E.base c o e
 ·rcases getset e1 with⟨rfl,e',_⟩|⟨hne,e'⟩
  ·exact E.new _ c0 a' h ho e2
  ·exact E.new j c a' e' ec e2
theorem bG.ad5 {K:FG_} {H0 H:Hp} {σ:L2.St} {ρ:Ev} {i:Nat} {ds es:List Dt} {a:Addr} {vs us:List V} (E:bG K H0 H σ ρ) (h:ρ[i]?=some (some (.o ds))) (hs:σ[i]?=some (some (.ref a))) (ha:H a=some (.lst vs)) (r:aQ K H es us) :
  bG K H0 (upd H a (.lst us)) σ (ρ.set i (some (.o es))):=E.aef h rfl hs (.lst ha) ⟨a,us,rfl,aV,r.kp (.lst ha)⟩
theorem Ad (i:Nat) {x:Str} {p apos cpos:Pos} (he:QV X e f) (hN:X.N[i]?=some x:=by rfl) (hv:WD X.env.scope x:=by first|exact JA rfl|exact QO (JA rfl)|exact QO (QO rfl)) (hd:(x==("__debug__" : Str))=false:=by decide) (hcd:(x==("__classdict__" : Str))=false:=by decide) (hst:starEach [e] X.env=[(false,eval e X.env)]:=by rfl) (hbase:attributeBase (.Name x p) "append" X.env (eval (.Name x p) X.env)=eval (.Name x p) X.env:=by rfl) (hfew:((backTo cpos (starEach [e] X.env)).all (λx=>!x.1)&&(backToKw cpos (keywordEach [] X.env)).all (λx=>x.1.isSome)&&decide ([e].length+([]:List Keyword).length+(if([]:List Keyword).isEmpty then 0 else 1) < 30))=true:=by rfl) (hline:(apos.endLine==cpos.line)=true:=by rfl) (hs:swapsWith (.Call (.Attribute (.Name x p) "append" apos) [e] [] cpos) none pos.line X.env=pure false:=by rfl):Sq X (.Expr (.Call (.Attribute (.Name x p) "append" apos) [e] [] cpos) pos) (λρ=>(f ρ).bind (aaW ρ i)):=⟨have he:=he.run;Wq (Dk (Et PySem.F.plainAttrs_list PySem.F.slot_list_append PySem.F.type_list_append z8 (sZ (i:=i) hN hv hd hcd) (bT he g8 (by rw[hst]<;>rfl)) hbase hfew hline (by rw[hst]<;>rfl) rfl) hs) λD σ H h=>by
  obtain⟨H0,ρ,r,E,e,q⟩:=h;obtain⟨b,eb,e⟩:=bind_some e;cases b with
  |z d=>
   simp only[aaW] at e;split at e
   ·rename_i ds hρ;split at e
    ·rename_i hl;cases e;obtain⟨v,e1,a,vs,rfl,ha,rs⟩:=E.val i _ hρ;refine⟨_,e1,.inl ⟨rfl,vs,.inl (.inl ha)⟩,H0,ρ,_,E,eb,λu H1 s1 n1 r1=>?_⟩;have E1:=E.grow s1;refine⟨a,vs,u,rfl,rfl,s1 _ _ ha,by rw[rs.length];exact hl,q _ _ ?_⟩;exact E1.ad5 hρ e1 (s1 _ _ ha) ((rs.kp (.of s1)).append (aQ.cons r1 aQ.nil))
    ·cases e
   ·cases e
  |_=>cases e⟩
end
def Its (x:Str):It:=⟨λi _=>i < x.cps.size,λi H v H'=>H'=H/\∃ c,x.cps[i]?=some c/\v=.str ⟨#[c]⟩,λi _=>x.cps.size<=i⟩
def aiQ (h:Heap) (it:Addr) (x:Str) (i:Nat):Prop:=∃ t,h.IsStrIter it "str_ascii_iterator" x t i\/h.IsStrIter it "str_iterator" x t i
theorem MJ {P:Program} {w:World} {K:FG_} {tg:Expr} (it:Addr) (x:Str):Turn P w K tg (Its x) [it] it (λi h=>aiQ h it x i) where
 mem:=by simp
 obj:=λi h st b hb=>by
  have e:b=it:=by simpa using hb
  subst e;obtain⟨t,⟨o,e,c,d⟩|⟨o,e,c,d⟩⟩:=st
  ·exact⟨o,e,λv z=>by rw[d] at z;cases z⟩
  ·exact⟨o,e,λv z=>by rw[d] at z;cases z⟩
 keep:=λi h h' st k=>by
  obtain⟨t,⟨o,e,c⟩|⟨o,e,c⟩⟩:=st
  ·exact⟨t,.inl ⟨o,k it (by simp) o e,c⟩⟩
  ·exact⟨t,.inr ⟨o,k it (by simp) o e,c⟩⟩
 item:=by
  intro X hP hw hK hc i pins s σ H E I hf st hg;subst hP hw hK;obtain⟨f0,f1,f2,f3,f4,f5⟩:=hf it (by simp);have hi:i < x.cps.size:=hg;have hx:x.cps[i]?=some x.cps[i]:=by simp[hi]
  obtain⟨t,st|st⟩:=st
  ·refine wpAny_pyNext_ascii_item st hx λh' st' sb=>?_;have I1:L2.Inv X pins σ H { s with heap:=h',toks:=s.toks+1 }:=I.turned (λb o hb e=>(sb.2 b hb).trans e) f0 f1 f3 f4 f5;obtain⟨o,e,c,d⟩:=id st';exact⟨_,rfl,Mp (s:={ s with heap:=h',toks:=s.toks+1 }) e c d (by decide) ⟨.str ⟨#[x.cps[i]]⟩,H,I1,⟨_,rfl⟩,⟨rfl,_,hx,rfl⟩,⟨t,.inl st'⟩,λb hb=>(hf b hb).1⟩⟩
  ·refine wpAny_pyNext_wide_item st hx λh' st' sb=>?_;have I1:L2.Inv X pins σ H { s with heap:=h',toks:=s.toks+1 }:=I.turned (λb o hb e=>(sb.2 b hb).trans e) f0 f1 f3 f4 f5;obtain⟨o,e,c,d⟩:=id st';exact⟨_,rfl,Mp (s:={ s with heap:=h',toks:=s.toks+1 }) e c d (by decide) ⟨.str ⟨#[x.cps[i]]⟩,H,I1,⟨_,rfl⟩,⟨rfl,_,hx,rfl⟩,⟨t,.inr st'⟩,λb hb=>(hf b hb).1⟩⟩
 done:=by
  intro X hP hw hK hc i pins s σ H E I hf st hg;subst hP hw hK;obtain⟨f0,f1,f2,f3,f4,f5⟩:=hf it (by simp);have hx:x.cps[i]?=none:=by have:x.cps.size<=i:=hg;simp[this]
  obtain⟨t,st|st⟩:=st
  ·exact wpAny_pyNext_ascii_end (I.ok.hd hc) st hx λh' eb=>⟨rfl,I.turned (t':=s.toks) (λb o hb e=>eb b o hb e) f0 f1 f3 f4 f5⟩
  ·exact wpAny_pyNext_wide_end (I.ok.hd hc) st hx λh' eb=>⟨rfl,I.turned (t':=s.toks) (λb o hb e=>eb b o hb e) f0 f1 f3 f4 f5⟩
 self:=λ_ _ _ _ _ st h=>by
  obtain⟨t,st|st⟩:=st
  ·exact wpAny_pyIter_striter_ascii st h
  ·exact wpAny_pyIter_striter_wide st h
section
variable {X:Cx} {tg:Expr}
def aiR (K:FG_) (tl:TE):TI:=λσ H R=>tl σ H λx H1=>(∃ a,x=.ref a/\(∃ xs,sX K H1 a xs)/\R (Itl K a) H1)\/(∃ a,x=.ref a/\(∃ xs,yG K H1 a xs)/\R (Itt K a) H1)\/∃ y,x=.str y/\R (Its y) H1
theorem Xo {l:Expr} {tl:TE} (hl:PE X l tl):PI X tg l (aiR X.K tl):=by
 intro pins s σ H R I h;refine gU (hl pins s σ H _ I h) λv s1 ⟨x,H1,I1,r1,q1⟩=>?_;have fp1:∀ (o:Obj) (b:Addr),b∈[s1.heap.objs.size]->uO X pins H1 b:=λo b hb=>by
  have e:b=s1.heap.objs.size:=by simpa using hb
  subst e;exact I1.Ur (zi _) (I1.hok.fresh (zi _))
 rcases q1 with⟨a,e,⟨xs,hq⟩,q⟩|⟨a,e,⟨xs,hq⟩,q⟩|⟨y,e,q⟩
 ·subst e;cases r1;obtain⟨its,rv,p,hz⟩:=I1.list hq;refine wpAny_pyIter_list p.isList ?_;exact⟨s1.heap.objs.size,[s1.heap.objs.size],_,_,H1,rfl,I1.kept (t':=s1.toks) λb o e=>zd _ e,Us a _,⟨_,zl _ rfl,rfl,rfl⟩,fp1 default,q⟩
 ·subst e;cases r1;obtain⟨its,rv,p,hz⟩:=I1.tuple hq;refine wpAny_pyIter_tuple (show s1.heap.IsTuple a its.toArray from p) ?_;exact⟨s1.heap.objs.size,[s1.heap.objs.size],_,_,H1,rfl,I1.kept (t':=s1.toks) λb o e=>zd _ e,Qp a _,⟨_,zl _ rfl,rfl,rfl⟩,fp1 default,q⟩
 ·subst e;obtain⟨t,rfl⟩:=r1;cases ha:y.cps.all (· < 128) with
  |true=>
   refine wpAny_pyIter_ascii ha ?_;exact⟨s1.heap.objs.size,[s1.heap.objs.size],_,_,H1,rfl,I1.kept (t':=s1.toks) λb o e=>zd _ e,MJ _ y,⟨t,.inl ⟨_,zl _ rfl,rfl,rfl⟩⟩,fp1 default,q⟩
  |false=>
   refine wpAny_pyIter_wide ha ?_;exact⟨s1.heap.objs.size,[s1.heap.objs.size],_,_,H1,rfl,I1.kept (t':=s1.toks) λb o e=>zd _ e,MJ _ y,⟨t,.inr ⟨_,zl _ rfl,rfl,rfl⟩⟩,fp1 default,q⟩
end
def Yields (K:FG_) (J:It) (ds:List Dt) (Hs:Hp):Prop:=∀ (i:Nat) (H:Hp),Same Hs H →
 (∀ d,ds[i]?=some d->J.go i H/\∀ x H',J.yld i H x H'->Same H H'/\Rep K H' d x)/\(ds.length<=i->J.stop i H)
theorem Yields.of {K:FG_} {J:It} {ds:List Dt} {Hs:Hp} (h:∀ (i:Nat) (H:Hp),Same Hs H →
  (∀ d,ds[i]?=some d->J.go i H/\∀ x H',J.yld i H x H'->H'=H/\Rep K H d x)/\(ds.length<=i->J.stop i H)):Yields K J ds Hs:=λi H s=>
 ⟨λd e=>⟨((h i H s).1 d e).1,λx H' y=>by
  obtain⟨rfl,r⟩:=((h i H s).1 d e).2 x H' y;exact⟨Same.refl _,r⟩⟩,(h i H s).2⟩
def signs (x:Str):List Dt:=x.cps.toList.map λc=>.str ⟨#[c]⟩
theorem Yields.list {K:FG_} {Hs:Hp} {a:Addr} {vs:List V} {ds:List Dt} (h:sX K Hs a vs) (r:aQ K Hs ds vs):Yields K (Itl K a) ds Hs:=.of λi H s=>by
 have h':=s.seq h;have r':=r.kp (.of s);refine⟨λd e=>?_,λe=>⟨vs,h',by rw[r.length];exact e⟩⟩;obtain⟨v,ev,rv⟩:=r'.get e;refine⟨⟨vs,v,h',ev⟩,λx H' y=>?_⟩;obtain⟨y1,y2⟩:=y;have:=y2 vs h';rw[ev] at this;cases this;exact⟨y1,rv⟩
theorem Yields.tup {K:FG_} {Hs:Hp} {a:Addr} {vs:List V} {ds:List Dt} (h:yG K Hs a vs) (r:aQ K Hs ds vs):Yields K (Itt K a) ds Hs:=.of λi H s=>by
 have h':=(Kp.of s).sqT h;have r':=r.kp (.of s);refine⟨λd e=>?_,λe=>⟨vs,h',by rw[r.length];exact e⟩⟩;obtain⟨v,ev,rv⟩:=r'.get e;refine⟨⟨vs,v,h',ev⟩,λx H' y=>?_⟩;obtain⟨y1,y2⟩:=y;have:=y2 vs h';rw[ev] at this;cases this;exact⟨y1,rv⟩
theorem Yields.str {K:FG_} {Hs:Hp} (x:Str):Yields K (Its x) (signs x) Hs:=.of λi H s=>by
 refine⟨λd e=>?_,λe=>?_⟩
 ·unfold signs at e;rw[ZO] at e;cases h:x.cps.toList[i]? with
  |none=>rw[h] at e;cases e
  |some c=>
   rw[h] at e;cases e;have hc:x.cps[i]?=some c:=by simpa using h
   have hi:i < x.cps.size:=by
    have:=(List.getElem?_eq_some_iff.mp h).1;simpa using this
   refine⟨hi,λv H' y=>?_⟩;obtain⟨y1,c',hc',rfl⟩:=y;rw[hc] at hc';cases hc';refine⟨y1,?_⟩;unfold Rep;exact⟨rfl,by show(1:Nat)<=sizeLine;decide⟩
 ·have:(signs x).length=x.cps.size:=by simp[signs]
  show x.cps.size<=i;omega
def MK (lo:Int) (n:Nat):List Dt:=(List.range n).map λk=>.int (lo+(k:Nat))
theorem Yields.rng {K:FG_} {Hs:Hp} (lo:Int) (n:Nat):Yields K (Itr lo n) (MK lo n) Hs:=.of λi H s=>by
 refine⟨λd e=>?_,λe=>?_⟩
 ·unfold MK at e;rw[ZO] at e;by_cases hi:i < n
  ·rw[List.getElem?_range hi] at e;cases e;refine⟨hi,λv H' y=>?_⟩;obtain⟨y1,y2⟩:=y;refine⟨y1,?_⟩;unfold Rep;exact y2
  ·rw[Q1 (by simp;omega)] at e;cases e
 ·have:(MK lo n).length=n:=by simp[MK]
  show n<=i;omega
def iF (K:FG_) (f:Ev->Option (List Dt)):TI:=λσ H R=>∃ H0 ρ ds,bG K H0 H σ ρ/\f ρ=some ds/\∀ J H',Same H H' →
 (∀ Hs,Same Hs H'->(∀ a,H a=none->Hs a=H' a)->(∀ a o u,H' a=some (.yF o u)->Hs a=H' a)->(∀ a vs,H' a=some (.tup vs)->Hs a=H' a)->Yields K J ds Hs)->R J H'
def PIF (X:Cx) (tg iter:Expr) (f:Ev->Option (List Dt)):Prop:=PI X tg iter (iF X.K f)
structure QIF (X:Cx) (tg iter:Expr) (f:Ev->Option (List Dt)):Prop where
 run:PIF X tg iter f
def aaX:Bx->Option (List Dt)
 |.z (.lst ds)=>some ds
 |.z (.tup ds)=>some ds
 |.z (.str x)=>some (signs x)
 |.o ds=>some ds
 |_=>none
section
variable {X:Cx} {tg e:Expr} {es:List Expr} {f:Ev->Option Bx} {fs:Ev->Option (List Bx)}
mutual
theorem Rep.part {K:FG_} {H Hs:Hp} (hf:∀ a o u,H a=some (.yF o u)->Hs a=H a) (ht:∀ a vs,H a=some (.tup vs)->Hs a=H a):∀ {d:Dt} {v:V},Rep K H d v->Rep K Hs d v
 |.non,_,h=>by simpa only[Rep] using h
 |.bl _,_,h=>by simpa only[Rep] using h
 |.int _,_,h=>by simpa only[Rep] using h
 |.str _,_,h=>by simpa only[Rep] using h
 |.tup ds,_,h=>by
  simp only[Rep] at h ⊢;obtain⟨a,vs,e,q,r⟩:=h;refine⟨a,vs,e,?_,aQ.part hf ht r⟩;rcases q with (q|⟨o,q⟩)|q
  ·exact .inl (.inl ((ht _ _ q).trans q))
  ·exact .inl (.inr ⟨o,(hf _ _ _ q).trans q⟩)
  ·exact .inr q
 |.lst ds,_,h=>by
  simp only[Rep] at h ⊢;obtain⟨a,vs,e,q,r⟩:=h;refine⟨a,vs,e,?_,aQ.part hf ht r⟩;rcases q with⟨o,q⟩|q
  ·exact .inl ⟨o,(hf _ _ _ q).trans q⟩
  ·exact .inr q
 |.emp,_,h=>by
  simp only[Rep] at h ⊢;obtain⟨a,o,e,q⟩:=h;exact⟨a,o,e,(hf _ _ _ q).trans q⟩
theorem aQ.part {K:FG_} {H Hs:Hp} (hf:∀ a o u,H a=some (.yF o u)->Hs a=H a) (ht:∀ a vs,H a=some (.tup vs)->Hs a=H a):∀ {ds:List Dt} {vs:List V},aQ K H ds vs->aQ K Hs ds vs
 |[],_,h=>by simpa only[aQ] using h
 |d::ds,_,h=>by
  simp only[aQ] at h ⊢;obtain⟨v,r,e,q,t⟩:=h;exact⟨v,r,e,Rep.part hf ht q,aQ.part hf ht t⟩
end
theorem Dq (h:QV X e f):QIF X tg e (λρ=>(f ρ).bind aaX):=⟨have h:=h.run;λpins s σ H R I q=>by
 refine Xo h pins s σ H R I ?_;obtain⟨H0,ρ,ds,E,e,q⟩:=q;obtain⟨b,eb,e⟩:=bind_some e;refine⟨H0,ρ,b,E,eb,λv H1 s1 n1 r1=>?_⟩;cases b with
 |z d=>
  cases d with
  |tup ds'=>
   cases e;simp only[bA,Rep] at r1;obtain⟨a,vs,rfl,hq,rs⟩:=r1;refine .inr (.inl ⟨a,rfl,⟨vs,hq⟩,q _ _ s1 λHs hs hn hf ht=>.tup ?_ (rs.part hf ht)⟩);rcases hq with (hq|⟨o,hq⟩)|hq
   ·exact .inl (.inl ((ht _ _ hq).trans hq))
   ·exact .inl (.inr ⟨o,(hf _ _ _ hq).trans hq⟩)
   ·exact .inr hq
  |lst ds'=>
   cases e;simp only[bA,Rep] at r1;obtain⟨a,vs,rfl,hq,rs⟩:=r1;refine .inl ⟨a,rfl,⟨vs,hq.sq⟩,q _ _ s1 λHs hs hn hf ht=>.list ?_ (rs.part hf ht)⟩;rcases hq with⟨o,hq⟩|hq
   ·exact .inl (.inr ⟨o,(hf _ _ _ hq).trans hq⟩)
   ·exact .inr hq
  |str x=>
   cases e;simp only[bA,Rep] at r1;obtain⟨rfl,_⟩:=r1;exact .inr (.inr ⟨x,rfl,q _ _ s1 λHs hs hn hf ht=>.str x⟩)
  |_=>cases e
 |l ds'=>cases e
 |n ds'=>cases e
 |m ds'=>cases e
 |o ds'=>
  cases e;obtain⟨a,vs,rfl,hq,rs⟩:=r1;refine .inl ⟨a,rfl,⟨vs,.inl (.inl hq)⟩,q _ _ s1 λHs hs hn hf ht=>.list (.inl (.inl ((hn a (n1 a rfl)).trans hq))) (rs.part hf ht)⟩⟩
def aeg:List Bx->Option (List Dt)
 |[.z (.int j)]=>if -(2 ^ 62)<=j/\j < 2 ^ 62 then some (MK 0 j.toNat) else none
 |_=>none
theorem jQ {p pos:Pos} (hg:Gl X "range") (hm:X.mg "range" = none) (ha:Sh X [e] fs) (hs:starEach [e] X.env=[(false,eval e X.env)]:=by rfl):QIF X tg (.Call (.Name "range" p) [e] [] pos) (λρ=>(fs ρ).bind aeg):=⟨have ha:=ha.run;λpins s σ H R I q=>by
 refine Ut hg hm ha hs pins s σ H R I ?_;obtain⟨H0,ρ,ds,E,e,q⟩:=q;obtain⟨bs,eb,e⟩:=bind_some e;refine⟨H0,ρ,bs,E,eb,λvs H1 s1 r1=>?_⟩;unfold aeg at e;split at e
 ·rename_i j;split at e
  ·rename_i hj;cases e;cases r1 with
   |cons p t=>
    cases t;simp only[bA,Rep] at p;subst p;exact⟨j,rfl,hj.1,hj.2,q _ _ s1 λHs _ _ _ _=>.rng 0 _⟩
  ·cases e
 ·cases e⟩
def Ce (gt:Dt->Ev->Option Ev) (gb:Ev->Option Out):List Dt->Ev->Option Out
 |[],ρ=>some (.nx ρ)
 |d::ds,ρ=>(gt d ρ).bind λρ1=>(gb ρ1).bind λr=>match r with
  |.nx ρ2=>Ce gt gb ds ρ2
  |.ct ρ2=>Ce gt gb ds ρ2
  |.bk ρ2=>some (.nx ρ2)
  |.rt b=>some (.rt b)
noncomputable def fQ (H:Hp) (σ:L2.St) (ρ:Ev):Hp:=λa=>@ite _ (∃ (i:Nat) (c:Bx),ρ[i]?=some (some c)/\yg c=true/\σ[i]?=some (some (.ref a))) (Classical.propDecidable _) none (H a)
theorem oR {H:Hp} {σ:L2.St} {ρ:Ev}:Same (fQ H σ ρ) H:=λa o e=>by
 unfold fQ at e;split at e
 ·cases e
 ·exact e
theorem bG.rebase {K:FG_} {H0 Hs H:Hp} {σ:L2.St} {ρ:Ev} (E:bG K Hs H σ ρ) (s:Same H0 Hs):bG K H0 H σ ρ:=⟨E.len,E.val,E.own,s.trans E.base,λi c a e1 ec e2=>s.free (E.new i c a e1 ec e2)⟩
theorem bG.sans {K:FG_} {H0 H:Hp} {σ:L2.St} {ρ:Ev} (E:bG K H0 H σ ρ):bG K (fQ H σ ρ) H σ ρ:=⟨E.len,E.val,E.own,oR,λi c a e1 ec e2=>by
 unfold fQ;rw[zh ⟨i,c,e1,ec,e2⟩]⟩
theorem bG.sub {K:FG_} {H0 H:Hp} {σ:L2.St} {ρ:Ev} (E:bG K H0 H σ ρ):Same H0 (fQ H σ ρ):=λa o e=>by
 unfold fQ;split
 ·rename_i h;obtain⟨i,c,e1,ec,e2⟩:=h;rw[E.new i c a e1 ec e2] at e;cases e
 ·exact E.base a o e
theorem oU {K:FG_} {H0 H:Hp} {σ:L2.St} {ρ:Ev} (E:bG K H0 H σ ρ) {a:Addr} (h:∀ vs,H a≠some (.lst vs)) (h2:∀ vs,H a≠some (.dK vs)):fQ H σ ρ a=H a:=by
 unfold fQ;split
 ·rename_i hh;obtain⟨i,c,e1,ec,e2⟩:=hh;obtain⟨v,e3,rc⟩:=E.val i _ e1;rw[e2] at e3;cases e3;cases c with
  |o ds=>obtain⟨a',vs,e4,q,_⟩:=rc;cases e4;exact absurd q (h vs)
  |m ds _=>obtain⟨a',vs,e4,q,_⟩:=rc;cases e4;exact absurd q (h2 vs)
  |_=>cases ec
 ·rfl
theorem QF.rebase {K:FG_} {H0 Hs:Hp} {D:Ends} {r:Out} (s:Same H0 Hs) (h:QF K H0 D r):QF K Hs D r:=by
 cases r with
 |nx ρ=>exact λσ H E=>h σ H (E.rebase s)
 |bk ρ=>exact λσ H E=>h σ H (E.rebase s)
 |ct ρ=>exact λσ H E=>h σ H (E.rebase s)
 |rt b=>exact λv H s' n r=>h v H (s.trans s') (n.old s) r
theorem Xp {gt:Dt->Ev->Option Ev} {gb:Ev->Option Out} {J:It} {ds:List Dt} {H0 H1:Hp} {σ:L2.St} {ρ:Ev} {D:Ends} {r:Out} (E1:bG X.K H0 H1 σ ρ) (Y:Yields X.K J ds (fQ H1 σ ρ)) (e:Ce gt gb ds ρ=some r) (q:QF X.K H0 D r) :
  ∃ W:Nat->Nat->L2.St->Hp->Prop,(∃ m,W 0 m σ H1)/\∀ i m σ H,W i m σ H →
   (J.stop i H/\D.nx σ H)\/(J.go i H/\∃ N:L2.St->Hp->Prop,(∀ σ' H',N σ' H'->∃ m',m' < m/\W (i+1) m' σ' H')/\∀ x H',J.yld i H x H'->tgF X.K gt x σ H' λσ2 H2=>tG X.K gb { D with nx:=N,ct:=N,bk:=D.nx } σ2 H2):=by
 have E2:=E1.sans;have q2:=q.rebase E1.sub;generalize fQ H1 σ ρ=Hs at Y E2 q2;refine⟨λi m σ' H'=>m=ds.length - i/\i<=ds.length/\∃ ρ',bG X.K Hs H' σ' ρ'/\Ce gt gb (ds.drop i) ρ'=some r,⟨ds.length,by simp,qi _,ρ,E2,by simpa using e⟩,?_⟩;rintro i m σ' H' ⟨rfl,hi',ρ',E',e'⟩;obtain⟨y1,y2⟩:=Y i H' E'.base;by_cases hlt:i < ds.length
 ·right;have hd:ds[i]?=some ds[i]:=by simp[hlt]
  obtain⟨go,yl⟩:=y1 _ hd;rw[kA hlt] at e';simp only[Ce] at e';obtain⟨ρ1,e1,e'⟩:=bind_some e';obtain⟨r1,e2,e'⟩:=bind_some e';refine⟨go,λσ2 H2=>∃ ρ2,bG X.K Hs H2 σ2 ρ2/\Ce gt gb (ds.drop (i+1)) ρ2=some r,λσ2 H2 ⟨ρ2,E3,e3⟩=>⟨ds.length - (i+1),by omega,rfl,hlt,ρ2,E3,e3⟩,λx H2 yy=>?_⟩;obtain⟨sm,rx⟩:=yl x H2 yy;refine⟨Hs,ρ',ds[i],ρ1,E'.grow sm,rx,e1,λσ1 E3 _=>⟨Hs,ρ1,r1,E3,e2,?_⟩⟩;cases r1 with
  |nx ρ2=>exact λσ2 H3 E4=>⟨ρ2,E4,e'⟩
  |ct ρ2=>exact λσ2 H3 E4=>⟨ρ2,E4,e'⟩
  |bk ρ2=>cases e';exact q2
  |rt b=>cases e';exact q2
 ·left;have hge:ds.length<=i:=by omega
  refine⟨y2 hge,?_⟩;rw[jI hge] at e';cases e';exact q2 σ' H' E'
theorem ou {iter:Expr} {body:List Stmt} {fi:Ev->Option (List Dt)} {gt:Dt->Ev->Option Ev} {gb:Ev->Option Out} {pos:Pos} (hp:PassesOwn (model X.prog X.w) X.A X.env X.xe) (hc:X.calm=true) (hi:QIF X tg iter fi) (hg:QTg X tg gt) (hb:QG X body gb) (hs:∀ x,foldedSetIterable iter X.env x=pure x:=by intro _;rfl):Sq X (.For tg iter body [] pos) (λρ=>(fi ρ).bind λds=>Ce gt gb ds ρ):=⟨have hi:=hi.run;have hg:=hg.run;have hb:=hb.run;Wq (W0 hp hc hi hg hb hs) λD σ H h=>by
 obtain⟨H0,ρ,r,E,e,q⟩:=h;obtain⟨ds,ed,e⟩:=bind_some e;refine⟨H0,ρ,ds,E,ed,λJ H1 s1 y=>?_⟩;have E1:=E.grow s1;refine Xp E1 ?_ e q;refine y _ oR (λa ha=>?_) (λa o u ha=>oU E1 (λvs z=>by rw[ha] at z;cases z) (λvs z=>by rw[ha] at z;cases z)) λa vs ha=>oU E1 (λvs z=>by rw[ha] at z;cases z) (λvs z=>by rw[ha] at z;cases z);unfold fQ;split
 ·rename_i hh;obtain⟨i,c,e1,ec,e2⟩:=hh;obtain⟨v,e3,rc⟩:=E.val i _ e1;rw[e2] at e3;cases e3;cases c with
  |o ds=>obtain⟨a',vs,e4,q,_⟩:=rc;cases e4;rw[ha] at q;cases q
  |m ds _=>obtain⟨a',vs,e4,q,_⟩:=rc;cases e4;rw[ha] at q;cases q
  |_=>cases ec
 ·rfl⟩
theorem bG.lend {K:FG_} {H0 H:Hp} {σ:L2.St} {ρ:Ev} {i:Nat} {ds:List Dt} (E:bG K H0 H σ ρ) (h:ρ[i]?=some (some (.o ds))):bG K H0 H σ (ρ.set i (some (.l ds))):=by
 have back:∀ (j:Nat) (b:Bx),(ρ.set i (some (.l ds)))[j]?=some (some b)->(j=i/\b=.l ds)\/(j≠i/\ρ[j]?=some (some b)):=λj b e=>by
  rcases getset e with⟨rfl,e',_⟩|⟨hne,e'⟩
  ·cases e';exact .inl ⟨rfl,rfl⟩
  ·exact .inr ⟨hne,e'⟩
 refine⟨by rw[qq];exact E.len,λj b e=>?_,λj k c a b e1 ec e2 e3 e4 e5=>?_,E.base,λj c a e1 ec e2=>?_⟩
 ·rcases back j b e with⟨rfl,rfl⟩|⟨hne,e'⟩
  ·obtain⟨v,e1,a,vs,e2,q,r⟩:=E.val _ _ h;exact⟨v,e1,a,vs,e2,.inl q,r⟩
  ·exact E.val j b e'
 ·rcases back j _ e1 with⟨rfl,z⟩|⟨hne,e'⟩
  ·subst z;cases ec
  ·rcases back k _ e3 with⟨rfl,z⟩|⟨aaS,e3'⟩
   ·exact E.own j _ c a _ e' ec e2 h rfl e5
   ·exact E.own j k c a b e' ec e2 e3' e4 e5
 ·rcases back j _ e1 with⟨rfl,z⟩|⟨hne,e'⟩
  ·subst z;cases ec
  ·exact E.new j c a e' ec e2
end
def SubL (cells:List (Str×Addr)):List (Str×Addr)->Prop
 |[]=>True
 |(n,c)::r=>cells.lookup n=some c/\SubL cells r
theorem SubL.get {cells:List (Str×Addr)}:∀ {cl:List (Str×Addr)},SubL cells cl->∀ {x:Str} {c:Addr},cl.lookup x=some c->cells.lookup x=some c
 |[],_,_,_,e=>by cases e
 |(n,d)::r,h,x,c,e=>by
  rw[List.lookup_cons] at e;by_cases hx:x==n
  ·simp only[hx] at e;cases e;have:x=n:=by simpa using hx
   rw[this];exact h.1
  ·have hx:(x==n)=false:=by simpa using hx
   simp only[hx] at e;exact SubL.get h.2 e
structure Cap (X:Cx) (scope:Scope) (cl:List (Str×Addr)) (x:Str) (i:Nat):Prop where
 n:X.N[i]?=some x
 k:X.env.kindOf x=some .cell\/X.env.kindOf x=some .free
 k':(relabel scope X.env).names.lookup x=some .cell\/(relabel scope X.env).names.lookup x=some .free
 c:∃ c,cl.lookup x=some c
def HY (X:Cx) (scope:Scope) (cl:List (Str×Addr)):LS_->List Nat->Prop
 |[],[]=>True
 |x::xs,i::is=>Cap X scope cl x i/\HY X scope cl xs is
 |_,_=>False
theorem HY.get {X:Cx} {scope:Scope} {cl:List (Str×Addr)}:∀ {xs:LS_} {is:List Nat},HY X scope cl xs is->xs.length=is.length/\∀ (j:Nat) (x:Str),xs[j]?=some x->∃ i,is[j]?=some i/\Cap X scope cl x i
 |[],[],_=>⟨rfl,λj x e=>by simp at e⟩
 |x::xs,i::is,h=>by
  obtain⟨h1,h2⟩:=h;obtain⟨l,g⟩:=HY.get h2;refine⟨by simp[l],λj y e=>?_⟩;cases j with
  |zero=>simp at e;subst e;exact⟨i,rfl,h1⟩
  |succ j=>obtain⟨k,e1,e2⟩:=g j y (by simpa using e);exact⟨k,by simpa using e1,e2⟩
 |[],_::_,h=>h.elim
 |_::_,[],h=>h.elim
def aeh (names:List (Str×NameKind)) (x:Str):Bool:=match names.lookup x with
 |some .cell=>true
 |_=>false
def QH (X:Cx) (N':LS_) (scope:Scope) (cl:List (Str×Addr)) (C:Addr) (s₀:Shared) (H₀:Hp) (fp:List Addr):Cx:=
 { X with N:=N',s₀:=s₀,H₀:=H₀,env:=compEnvC scope (cellsFrom (C+1) scope.names cl) C X.env,outer:=X.stack,ex:=fp,fn:=aeh scope.names,pn:=[],xe:=λ_ _=>False }
structure aei (h:Heap) (cs:List (Str×Addr)):Prop where
 inj:∀ x y c,cs.lookup x=some c->cs.lookup y=some c->x=y
 cell:∀ x c,cs.lookup x=some c->∃ v,h.IsCell c v
theorem lC {α:Type} {x n:Str} {a:α} {l:List (Str×α)} (h:x≠n):((n,a)::l).lookup x=l.lookup x:=by
 rw[List.lookup_cons,beq_eq_false_iff_ne.mpr h]
theorem Xq:∀ (names:List (Str×NameKind)) (h:Heap) (acc:List (Str×Addr)),aei h acc->aei (pushCells h names) (cellsFrom h.objs.size names acc)
 |[],_,_,x=>x
 |(n,k)::r,h,acc,x=>by
  unfold pushCells cellsFrom;split
  ·have hlt:∀ y c,acc.lookup y=some c->c≠h.objs.size:=λy c e=>let ⟨_,q⟩:=x.cell y c e;Zl q.lt;have:=Xq r (h.push { cls:=.type "cell", data:=.cell none }) ((n,h.objs.size)::acc) ⟨λy z c e1 e2=>?_,λy c e=>?_⟩
   ·rwa [ZT] at this
   ·by_cases hy:y=n<;>by_cases hz:z=n
    ·rw[hy,hz]
    ·subst hy;rw[kn] at e1;rw[lC hz] at e2;cases e1;exact absurd rfl (hlt _ _ e2)
    ·subst hz;rw[kn] at e2;rw[lC hy] at e1;cases e2;exact absurd rfl (hlt _ _ e1)
    ·rw[lC hy] at e1;rw[lC hz] at e2;exact x.inj y z c e1 e2
   ·by_cases hy:y=n
    ·subst hy;rw[kn] at e;cases e;exact⟨none,_,zl _ rfl,rfl⟩
    ·rw[lC hy] at e;obtain⟨v,q⟩:=x.cell y c e;exact⟨v,q.keeps λb o e=>zd _ e⟩
  ·exact Xq r h acc x
theorem yN:∀ (names:List (Str×NameKind)) (n:Nat) (acc:List (Str×Addr)) (x:Str) (c:Addr),(cellsFrom n names acc).lookup x=some c->acc.lookup x=some c\/n<=c
 |[],_,_,_,_,e=>.inl e
 |(m,k)::r,n,acc,x,c,e=>by
  unfold cellsFrom at e;split at e
  ·rcases yN r _ _ x c e with h|h
   ·by_cases hx:x=m
    ·subst hx;rw[kn] at h;cases h;exact .inr (zi _)
    ·rw[lC hx] at h;exact .inl h
   ·exact .inr (by omega)
  ·exact yN r _ _ x c e
theorem Kd:∀ (names:List (Str×NameKind)) (n:Nat) (acc:List (Str×Addr)) (x:Str),(x,NameKind.cell)∉names->(cellsFrom n names acc).lookup x=acc.lookup x
 |[],_,_,_,_=>rfl
 |(m,k)::r,n,acc,x,h=>by
  unfold cellsFrom;have hr:(x,NameKind.cell)∉r:=λz=>h (zr _ z);split
  ·rename_i hk;rw[Kd r _ _ x hr,lC λz=>h (by rw[z,<-beq_iff_eq.mp hk];exact zo ..)]
  ·exact Kd r _ _ x hr
theorem QK:∀ (names:List (Str×NameKind)) (n:Nat) (acc:List (Str×Addr)) (x:Str),((x,NameKind.cell)∈names\/∃ c,acc.lookup x=some c)->∃ c,(cellsFrom n names acc).lookup x=some c
 |[],_,_,_,h=>h.elim (λz=>by simp at z) λz=>z
 |(m,k)::r,n,acc,x,h=>by
  unfold cellsFrom;split
  ·refine QK r _ _ x ?_;by_cases hx:x=m
   ·exact .inr ⟨n,by rw[hx,kn]⟩
   ·rw[lC hx];exact h.imp_left λz=>(List.mem_cons.mp z).elim (λz=>absurd (congrArg Prod.fst z) hx) λz=>z
  ·rename_i hk;exact QK r _ _ x (h.imp_left λz=>(List.mem_cons.mp z).elim (λz=>by cases z;exact absurd rfl hk) λz=>z)
theorem U4 {M:Model} {A:Around} {E:VP_} {s:Shared} {scope:Scope} {g:Addr} {cl:List (Str×Addr)} {qual:Str} {env:Env} {Q:Env->Shared->Prop}
  (h:Q (newEnv scope s.heap.objs.size g (cellsFrom (s.heap.objs.size+1) scope.names cl) qual none .none (some env) builtinsNs) { s with heap:=pushCells (s.heap.push { cls:=.type "dict", data:=.dict #[] }) scope.names }) :
  wpAny M A (newFunctionEnv scope g cl [] qual none .none (some env)) Q E s:=by
 simp only[newFunctionEnv,Option.isSome_some,Jn];refine zb (wpAny_alloc ?_);refine zb (wpAny_layCells _ (λname kind cells=>by cases kind==NameKind.cell<;>simp) _ _ _ _ ?_);rw[show({ s with heap:=s.heap.push { cls:=.type "dict", data:=.dict #[] } }:Shared).heap.objs.size=s.heap.objs.size+1 from ZT ..];rw[List.forIn_nil];exact zb (ze (ze h))
structure yh (X:Cx) (scope:Scope) (cl:List (Str×Addr)) (xs:LS_) (is:List Nat):Prop where
 clos:closureFor scope X.env=pure cl
 kind:scope.kind=.function
 cell:∀ y∈scope.names,y.2=.cell->cl.lookup y.1=none
 names:∀ y∈scope.names,y.2=.local->scope.names.lookup y.1=some .local
 sub:SubL X.env.cells cl
 has:∀ x,((relabel scope X.env).names.lookup x=some .cell\/(relabel scope X.env).names.lookup x=some .free)->(x,NameKind.cell)∈scope.names\/∃ c,cl.lookup x=some c
 cap:HY X scope cl xs is
def Ae (is:List Nat) (σ:L2.St):L2.St:=is.map λi=>(σ[i]?).bind λv=>v
def qu (is:List Nat) (ρ:Ev):Ev:=is.map λi=>Cd ρ i
def TgK (n m:Nat) (g:Dt->Ev->Option Ev):Prop:=∀ d ρ ρ',g d ρ=some ρ'->ρ'.length=ρ.length/\∀ j,j < n\/m<=j->ρ'[j]?=ρ[j]?
def aaY (n m:Nat) (g:List Dt->Ev->Option Ev):Prop:=∀ d ρ ρ',g d ρ=some ρ'->ρ'.length=ρ.length/\∀ j,j < n\/m<=j->ρ'[j]?=ρ[j]?
theorem jX {n i m:Nat} (h:n<=i:=by decide) (h':i < m:=by decide):TgK n m (λd ρ=>some (ρ.set i (some (.z d)))):=λd ρ ρ' e=>by
 cases e;exact⟨by rw[qq],λj hj=>oK _ (by omega)⟩
theorem aaZ {n m:Nat}:aaY n m Sv:=λd ρ ρ' e=>by
 cases d with
 |nil=>cases e;exact⟨rfl,λ_ _=>rfl⟩
 |cons=>cases e
theorem MN {n m:Nat} {g:Dt->Ev->Option Ev} {gs:List Dt->Ev->Option Ev} (h:TgK n m g) (hs:aaY n m gs):aaY n m (tD g gs):=λd ρ ρ' e=>by
 cases d with
 |nil=>cases e
 |cons d ds=>
  simp only[tD] at e;obtain⟨ρ1,e1,e⟩:=bind_some e;obtain⟨a,b⟩:=h _ _ _ e1;obtain⟨a',b'⟩:=hs _ _ _ e;exact⟨a'.trans a,λj hj=>(b' j hj).trans (b j hj)⟩
theorem aej {n m k:Nat} {gs:List Dt->Ev->Option Ev} (hs:aaY n m gs):TgK n m (Jg k gs):=λd ρ ρ' e=>by
 cases d with
 |tup ds=>
  simp only[Jg] at e;split at e
  ·exact hs _ _ _ e
  ·cases e
 |_=>cases e
def Cg (gt:Dt->Ev->Option Ev) (p:Ev->Option Bool) (fs:Ev->Option (List Dt)) (ρ:Ev):List Dt->Option (List Dt)
 |[]=>some []
 |d::ds=>(gt d ρ).bind λρ1=>(p ρ1).bind λk=>if k=true then(fs ρ1).bind λys=>(Cg gt p fs ρ ds).bind λzs=>some (ys++zs) else Cg gt p fs ρ ds
def aek:Bx->Option (List Dt)
 |.z y=>some [y]
 |_=>none
def Jh (gt:Dt->Ev->Option Ev) (p:Ev->Option Bool) (fe:Ev->Option Bx) (ρ:Ev):List Dt->Option (List Dt):=Cg gt p (λρ=>(fe ρ).bind aek) ρ
theorem Ji {b:Bx} {ys:List Dt} (h:aek b=some ys):∃ y,b=.z y/\ys=[y]:=by
 cases b<;>cases h;exact⟨_,rfl,rfl⟩
theorem Af {gt:Dt->Ev->Option Ev} {p:Ev->Option Bool} {fe:Ev->Option Bx} {ρ:Ev}:∀ {ds out:List Dt},Jh gt p fe ρ ds=some out->out.length<=ds.length
 |[],_,e=>by cases e;exact zi _
 |d::ds,out,e=>by
  simp only[Jh,Cg] at e;obtain⟨ρ1,_,e⟩:=bind_some e;obtain⟨k,_,e⟩:=bind_some e;cases k with
  |false=>
   rw[zC zk] at e;exact zI (Af (gt:=gt) (p:=p) (fe:=fe) e) (by simp)
  |true=>
   rw[zh rfl] at e;obtain⟨ys,ey,e⟩:=bind_some e;obtain⟨zs,ez,e⟩:=bind_some e;obtain⟨b,_,ey⟩:=bind_some ey;obtain⟨y,_,rfl⟩:=Ji ey;cases e;simpa using Af (gt:=gt) (p:=p) (fe:=fe) ez
def Tests (X:Cx) (ifs:List Expr) (p:Ev->Option Bool):Prop:=(ifs=[]/\p=λ_=>some true)\/∃ c,ifs=[c]/\PB X c p
structure QL (X:Cx) (ifs:List Expr) (p:Ev->Option Bool):Prop where
 run:Tests X ifs p
section
variable {X:Cx} {elt tgt iter:Expr} {ifs:List Expr} {scope:Scope} {cl:List (Str×Addr)} {pos:Pos} {xs ts:LS_} {is:List Nat} {gt:Dt->Ev->Option Ev} {p:Ev->Option Bool} {fe:Ev->Option Bx} {fi:Ev->Option (List Dt)}
theorem Xr {pins:List (Addr×Obj)} {σ:L2.St} {H3:Hp} {s3:Shared} {fp:List Addr} (I3:L2.Inv X pins σ H3 s3) (O:yh X scope cl xs is)
  (hf:∀ b∈fp,uO X pins H3 b) (hfl:∀ b∈fp,b < s3.heap.objs.size) :
  L2.Inv (QH X (xs++ts) scope cl s3.heap.objs.size s3 H3 fp) [] (Ae is σ++List.replicate ts.length none) H3 { s3 with heap:=pushCells (s3.heap.push { cls:=.type "dict", data:=.dict #[] }) scope.names }:=by
 obtain⟨hl,hc⟩:=O.cap.get;have hsub:=O.sub;have hsz:(s3.heap.push { cls:=.type "dict", data:=.dict #[] }).objs.size=s3.heap.objs.size+1:=ZT ..;have hk:∀ b o,s3.heap.get? b=some o->(pushCells (s3.heap.push { cls:=.type "dict", data:=.dict #[] }) scope.names).get? b=some o:=λb o e=>pushCells_keeps _ _ b o (zd _ e);have cf:aei (pushCells (s3.heap.push { cls:=.type "dict", data:=.dict #[] }) scope.names) (cellsFrom (s3.heap.objs.size+1) scope.names cl):=by
  rw[<-hsz];refine Xq _ _ _ ⟨λx y c e1 e2=>I3.ok.inj x y c (hsub.get e1) (hsub.get e2),λx c e=>?_⟩;obtain⟨v,q⟩:=I3.cell x c (hsub.get e);exact⟨v,q.keeps λb o e=>zd _ e⟩
 have from':∀ x c,(cellsFrom (s3.heap.objs.size+1) scope.names cl).lookup x=some c->X.env.cells.lookup x=some c\/s3.heap.objs.size < c:=λx c e=>(yN _ _ _ x c e).imp_left hsub.get;refine⟨⟨I3.ok.mod,O.kind,I3.ok.glob,I3.ok.blt,zi _,cf.inj,λx hx=>QK _ _ _ x (O.has x hx),λx c hx e=>?_,I3.ok.hd,I3.ok.frames,.inl rfl,λb hb=>⟨Zl (hfl b hb),λx c e=>?_⟩,I3.bs,zI I3.ok.Wn I3.sz,λb o e hb=>?_,λb hb hb'=>?_,I3.stack,I3.Dg⟩,
  rfl,I3.bare,Un.kept hk,⟨_,(Heap.Ns.new s3.heap (.type "dict")).keeps (pushCells_keeps _ _),λj x v e1 e2 _=>?_⟩,cf.cell,I3.hok.fresh (zi _),λx c e=>(from' x c e).elim (I3.jP x c) λh=>I3.hok.fresh (JJ h),λq hq=>absurd (show q∈([]:List (Addr×Obj)) from hq) (by simp),I3.hok.kept hk,?_⟩
 ·refine(yN _ _ _ x c e).elim (λh=>?_) λh=>JJ h;have hx:(x,NameKind.cell)∈scope.names:=by
   have hx:aeh scope.names x=true:=hx;unfold aeh at hx;split at hx
   ·rename_i q;exact mem_of_lookup q
   ·cases hx
  rw[O.cell _ hx rfl] at h;cases h
 ·rcases from' x c e with h|h
  ·exact(hf b hb).2.2.2.2.1 x c h
  ·exact Q3 (Nat.lt_trans (hfl b hb) h)
 ·obtain⟨_,_,_,z,_⟩:=hf b hb;rcases z with z|z
  ·exact I3.ok.Uo b o e z
  ·exact absurd (ZH (zv e) (zI I3.ok.Wn z)) (JU _)
 ·obtain⟨_,n1,n2,_⟩:=hf b hb;rcases List.mem_cons.mp (I3.Ef b hb') with z|z
  ·exact n1 z
  ·exact n2 z
 ·have hj:j < is.length:=by
   by_cases hj:j < is.length
   ·exact hj
   ·rw[QR (by simp[Ae];omega)] at e2;rw[jn] at e2;split at e2<;>cases e2
  have e1':xs[j]?=some x:=by
   have e1:(xs++ts)[j]?=some x:=e1;rw[Z3 (by omega)] at e1;exact e1
  obtain⟨i,ei,hcp⟩:=hc j x e1';have e3:σ[i]?=some (some v):=by
   rw[Z3 (by simp[Ae];omega)] at e2;unfold Ae at e2;rw[ZO,ei] at e2;cases q:σ[i]? with
   |none=>rw[Option.map_some,q] at e2;cases e2
   |some o=>
    rw[Option.map_some,q] at e2;have:o=some v:=by simpa using e2
    rw[this]
  have vis:WD X.env.scope x:=by
   rcases hcp.k with k|k
   ·exact .inr (.inl k)
   ·exact .inr (.inr k)
  obtain⟨m',hn',hlk⟩:=I3.loc;obtain⟨u,r,l⟩:=hlk i x v hcp.n e3 vis;refine⟨u,r,?_⟩;rcases l with⟨k,_⟩|⟨k,c,ec,ic⟩
  ·rcases hcp.k with k'|k'<;>(rw[k] at k';cases k')
  ·obtain⟨c',ec'⟩:=hcp.c;have:=hsub.get ec';rw[ec] at this;cases this;refine .inr ⟨hcp.k',c,(Kd _ _ _ x λz=>by rw[O.cell _ z rfl] at ec';cases ec').trans ec',?_⟩;obtain⟨o,ho,hd⟩:=ic;exact⟨o,hk c o ho,hd⟩
 ·show(Ae is σ++List.replicate ts.length none).length=(xs++ts).length;simp[Ae,hl]
theorem bG.caps {K:FG_} {H0 H:Hp} {σ:L2.St} {ρ:Ev} (E:bG K H0 H σ ρ) (is:List Nat) (n:Nat):bG K H H (Ae is σ++List.replicate n none) (qu is ρ++List.replicate n none):=by
 have noO:∀ (j:Nat) c,(qu is ρ++List.replicate n none)[j]?=some (some c)->yg c=false:=λj c e=>by
  by_cases hj:j < is.length
  ·rw[Z3 (by simp[qu];omega)] at e;unfold qu at e;rw[ZO] at e;cases q:is[j]? with
   |none=>rw[q] at e;cases e
   |some i=>
    rw[q] at e;have:Cd ρ i=some c:=by simpa using e
    exact Dp this
  ·rw[QR (by simp[qu];omega),jn] at e;split at e<;>cases e
 refine⟨by simp[Ae,qu],λj b e=>?_,λj k c a b e ec=>absurd ec (by rw[noO j c e];exact zk),Same.refl H,λj c a e ec=>absurd ec (by rw[noO j c e];exact zk)⟩;by_cases hj:j < is.length
 ·rw[Z3 (by simp[qu];omega)] at e;rw[Z3 (by simp[Ae];omega)];unfold qu at e;unfold Ae;rw[ZO] at e ⊢;cases q:is[j]? with
  |none=>rw[q] at e;cases e
  |some i=>
   rw[q] at e;have:Cd ρ i=some b:=by simpa using e
   obtain⟨v,e1,r⟩:=Mx E this;exact⟨v,by simp[e1],r⟩
 ·rw[QR (by simp[qu];omega),jn] at e;split at e<;>cases e
theorem bG.forget {K:FG_} {H0 H:Hp} {σ:L2.St} {ρ ρ':Ev} (E:bG K H0 H σ ρ') (hl:ρ'.length=ρ.length) (h:∀ (j:Nat) b,ρ[j]?=some (some b)->ρ'[j]?=some (some b)):bG K H0 H σ ρ:=
 ⟨E.len.trans hl,λj b e=>E.val j b (h j b e),λi j c a b e1 ec e2 e3 e4 e5=>E.own i j c a b (h _ _ e1) ec e2 (h _ _ e3) e4 e5,E.base,λi c a e1 ec e2=>E.new i c a (h _ _ e1) ec e2⟩
structure Apt (Hb:Hp) (σ:L2.St) (ρ:Ev) (n:Nat):Prop where
 own:∀ (j:Nat) c,ρ[j]?=some (some c)->yg c=false
 lt:∀ (j:Nat) b,ρ[j]?=some (some b)->j < n
 old:∀ (j:Nat) c a,ρ[j]?=some (some c)->loose c=true->σ[j]?=some (some (.ref a))->Hb a≠none
def Fx (σ σ':L2.St) (ρ:Ev):Prop:=∀ (j:Nat) c,loose c=true->ρ[j]?=some (some c)->σ'[j]?=σ[j]?
theorem Apt.fx {Hb:Hp} {σ σ':L2.St} {ρ:Ev} {n:Nat} (P:Apt Hb σ ρ n) (f:Fx σ σ' ρ):Apt Hb σ' ρ n:=⟨P.own,P.lt,λj c a e hl ea=>P.old j c a e hl (by rw[<-f j c hl e];exact ea)⟩
theorem known {K:FG_} {H0 H:Hp} {σ:L2.St} {ρ:Ev} (E:bG K H0 H σ ρ) (j:Nat) (c:Bx) (a:Addr) (e:ρ[j]?=some (some c)) (hl:loose c=true) (ea:σ[j]?=some (some (.ref a))):H a≠none:=λz=>by
 obtain⟨v,e1,rc⟩:=E.val j _ e;rw[ea] at e1;cases e1;cases c with
 |z d=>cases hl
 |l dz=>
  obtain⟨a',vs,e2,q,_⟩:=rc;cases e2;rcases q with q|⟨o,q⟩<;>(rw[z] at q;cases q)
 |n dz=>
  obtain⟨a',vs,e2,q,_⟩:=rc;cases e2;rcases q with q|⟨o,q⟩<;>(rw[z] at q;cases q)
 |o dz=>
  obtain⟨a',vs,e2,q,_⟩:=rc;cases e2;rw[z] at q;cases q
 |m dz _=>
  obtain⟨a',vs,e2,q,_⟩:=rc;cases e2;rw[z] at q;cases q
theorem bG.grown {K:FG_} {Hb H:Hp} {σ:L2.St} {ρ:Ev} {n:Nat} {D:Addr} {o:HO} (E:bG K Hb H σ ρ) (P:Apt Hb σ ρ n) (hD:Hb D=none) (kp:Kp H (upd H D o)):bG K Hb (upd H D o) σ ρ:=by
 refine⟨E.len,λj b e=>?_,λj k c a b e ec=>absurd ec (by rw[P.own j c e];exact zk),λc o e=>?_,λj c a e ec=>absurd ec (by rw[P.own j c e];exact zk)⟩
 ·obtain⟨v,ev,rb⟩:=E.val j b e;refine⟨v,ev,?_⟩;cases b with
  |z d=>exact Rep.kp kp rb
  |o dz=>have:=P.own j _ e;cases this
  |m dz _=>have:=P.own j _ e;cases this
  |n dz=>
   obtain⟨a,vs,rfl,q,rr⟩:=rb;refine⟨a,vs,rfl,?_,rr.kp kp⟩;have ha:a≠D:=λz=>P.old j _ _ e rfl ev (by rw[z];exact hD);exact q.imp (λq=>by rw[aM ha];exact q) λ⟨o,q⟩=>⟨o,by rw[aM ha];exact q⟩
  |l dz=>
   obtain⟨a,vs,rfl,q,rr⟩:=rb;refine⟨a,vs,rfl,?_,rr.kp kp⟩;have ha:a≠D:=λz=>P.old j _ _ e rfl ev (by rw[z];exact hD);exact q.imp (λq=>by rw[aM ha];exact q) λ⟨o,q⟩=>⟨o,by rw[aM ha];exact q⟩
 ·rw[aM (bF e hD)];exact E.base c o e
def aa0 (X:Cx) (el:Addr->Env->Sem Unit) (fs:Ev->Option (List Dt)) (Ac:Addr->Hp->List Dt->HO->Prop) (N n:Nat):Prop:=∀ (pins:List (Addr×Obj)) (s:Shared) (σ:L2.St) (H Hb:Hp) (ρ:Ev) (D:Addr) (o:HO) (o1 ys:List Dt),L2.Inv X pins σ H s->bG X.K Hb H σ ρ->Apt Hb σ ρ n->Hb D=none->fs ρ=some ys->H D=some o->Ac D H o1 o->o1.length+ys.length<=N →
 wpAny (model X.prog X.w) X.A (el D X.env) (λ_ s'=>∃ σ' H' o',L2.Inv X pins σ' H' s'/\bG X.K Hb H' σ' ρ/\Fx σ σ' ρ/\H' D=some o'/\Ac D H' (o1++ys) o') X.xe s
theorem ael {el:Addr->Env->Sem Unit} {fs:Ev->Option (List Dt)} {Ac:Addr->Hp->List Dt->HO->Prop} {N n:Nat} (h:∀ (pins:List (Addr×Obj)) (s:Shared) (σ:L2.St) (H Hb:Hp) (ρ:Ev) (D:Addr) (o:HO) (o1 ys:List Dt),L2.Inv X pins σ H s->bG X.K Hb H σ ρ->fs ρ=some ys->H D=some o->Ac D H o1 o->o1.length+ys.length<=N →
  wpAny (model X.prog X.w) X.A (el D X.env) (λ_ s'=>∃ H9 o',L2.Inv X pins σ (upd H9 D o') s'/\Same H H9/\Kp H9 (upd H9 D o')/\Ac D (upd H9 D o') (o1++ys) o') X.xe s):aa0 X el fs Ac N n:=λpins s σ H Hb ρ D o o1 ys I E P hD e1 e2 a1 l=>by
 refine ZN (h pins s σ H Hb ρ D o o1 ys I E e1 e2 a1 l) (λ_ s' ⟨H9,o',I',s9,kp,a'⟩=>?_) λ_ _ z=>z;exact⟨σ,_,o',I',(E.grow s9).grown P hD kp,λ_ _ _ _=>rfl,aV,a'⟩
theorem U5 {comp:Expr} {d:Nat} {ipos:Pos} {Ac:Addr->Hp->List Dt->HO->Prop} {el:Addr->Env->Sem Unit} {fs:Ev->Option (List Dt)} {N n m:Nat} {pins:List (Addr×Obj)} {σ:L2.St} {H Hb:Hp} {s:Shared} {it D:Addr} {fp:List Addr} {tn:Nat->Heap->Prop} {J:It} {ds o0 out:List Dt} {o:HO} {ρ:Ev} {R:Result->Shared->Prop}
  (hcalm:X.calm=true) (hx:X.xe=λ_ _=>False) (U6:PTg X tgt gt) (hif:Tests X ifs p) (hel:aa0 X el fs Ac N m) (htk:TgK n m gt) (hnm:n<=m)
  (I:L2.Inv X pins σ H s) (E:bG X.K Hb H σ ρ) (P:Apt Hb σ ρ n) (hD:Hb D=none) (hHD:H D=some o) (hA:Ac D H o0 o)
  (T:Turn X.prog X.w X.K tgt J fp it tn) (st:tn 0 s.heap) (hf:∀ b∈fp,uO X pins H b) (Y:Yields X.K J ds Hb)
  (hout:Cg gt p fs ρ ds=some out) (hN:o0.length+out.length<=N)
  (hAk:∀ {D:Addr} {H H':Hp} {o1:List Dt} {o:HO},Kp H H'->Ac D H o1 o->Ac D H' o1 o)
  (hturn:∀ (it:Value) (D:Addr) (env:Env),compTurn comp d it (.ref D) env=(standAt ipos >>= λ_=>pyNext it >>= λr=>match r with
   |none=>pure (.done .next)
   |some v=>letOwnedTupleGo tgt it v >>= λ_=>assign tgt env v >>= λ_=>(forIn ifs true λc r=>if r=true then isTrue c env (eval c env) >>= λok=>pure (ForInStep.yield ok) else pure (ForInStep.yield r)) >>= λok=>if ok=true then el D env >>= λ_=>again (.compLoop comp d it (.ref D) env) else again (.compLoop comp d it (.ref D) env)))
  (hsh:∀ {it acc:Value} {env:Env} {Q:Fin->Shared->Prop} {E:VP_} {s:Shared},wpAny (model X.prog X.w) X.A ((compTurn comp d it acc env).onRaise (λx=>noteFrame x env >>= λ_=>theTreesLotGoes x)) Q E s->wpAny (model X.prog X.w) (X.A.under (.compLoop comp d it acc env)) ((model X.prog X.w).den (.compLoop comp d it acc env)) Q E s)
  (hR:∀ s' σ' H' o',L2.Inv X pins σ' H' s'->bG X.K Hb H' σ' ρ->Fx σ σ' ρ->H' D=some o'->Ac D H' (o0++out) o'->R (.ok .next) s') :
  codeAny (model X.prog X.w) X.A (.compLoop comp d (.ref it) (.ref D) X.env) R s:=by
 have hfC:∀ {H':Hp},(∀ b∈fp,H' b=none)->∀ b∈fp,uO X pins H' b:=λ{H'} hn b hb=>⟨hn b hb,(hf b hb).2⟩;refine codeAny_loop rfl (λk s'=>∃ (i:Nat) (σ':L2.St) (H':Hp) (o1 o2:List Dt) (o:HO),k=ds.length - i/\i<=ds.length/\L2.Inv X pins σ' H' s'/\tn i s'.heap/\(∀ b∈fp,H' b=none)/\bG X.K Hb H' σ' ρ/\Fx σ σ' ρ/\H' D=some o/\Ac D H' o1 o/\Cg gt p fs ρ (ds.drop i)=some o2/\o1++o2=o0++out) ?_ ds.length
  ⟨0,σ,H,o0,out,o,by simp,qi _,I,st,λb hb=>(hf b hb).1,E,λ_ _ _ _=>rfl,hHD,hA,by simpa using hout,rfl⟩
 rintro k s4 ⟨i,σ4,H4,o1,o2,o,rfl,hi,I4,st4,fr4,E4,F4,hD4,r4,e4,ho⟩;have P4:=P.fx F4;refine hsh (wpAny_noted ?_);rw[hturn];obtain⟨y1,y2⟩:=Y i H4 E4.base;by_cases hlt:i < ds.length
 ·have hd:ds[i]?=some ds[i]:=by simp[hlt]
  obtain⟨go,yl⟩:=y1 _ hd;rw[kA hlt] at e4;simp only[Cg] at e4;obtain⟨ρ1,e1,e4⟩:=bind_some e4;obtain⟨k,ek,e4⟩:=bind_some e4;obtain⟨hl1,hk1⟩:=htk _ _ _ e1;have back:∀ {σ5:L2.St} {H5:Hp},bG X.K Hb H5 σ5 ρ1->bG X.K Hb H5 σ5 ρ:=λE5=>E5.forget hl1 λj b e=>by rw[hk1 j (.inl (P.lt j b e))];exact e
  refine zb (Ki (zb ?_));refine gU (T.item X rfl rfl rfl hcalm i pins s4 σ4 H4 _ I4 (hfC fr4) st4 go) λr s5 ⟨u,hr,h5⟩=>?_;subst hr;refine zb (gU h5 λ_ s6 ⟨x,H6,I6,r6,y6,st6,fr6⟩=>?_);obtain⟨sm,rx⟩:=yl x H6 y6;have E4:=E4.grow sm;have hD4:=sm _ _ hD4;have r4:=hAk (.of sm) r4;have I6':=I6.pinned (hfC fr6) (T.obj _ _ st6);have ha:=U6 _ s6 σ4 H6 x u (λσ' H'=>H'=H6/\bG X.K Hb H6 σ' ρ1/\Lo σ4 ρ σ' ρ1) I6' r6 ⟨Hb,ρ,ds[i],ρ1,E4,rx,e1,λσ' E' L'=>⟨rfl,E',L'⟩⟩;rw[hx] at ha;refine zb (ZN ha (λ_ s7 h7=>?_) λ_ _ z=>z.elim);obtain⟨σ7,H7,I7,rfl,E7,L7⟩:=h7;have P7:Apt Hb σ7 ρ1 m:=by
   refine⟨λj c e=>?_,λj c e=>?_,λj c a e hl ea=>?_⟩
   ·cases c with
    |o ds=>exact P.own j _ (L7 j _ rfl e).1
    |m ds _=>exact P.own j _ (L7 j _ rfl e).1
    |_=>rfl
   ·refine Nat.lt_of_not_le λh=>?_;rw[hk1 j (.inr h)] at e;exact absurd (ZH (P.lt j c e) hnm) (Nat.not_lt.mpr h)
   ·obtain⟨e',ee⟩:=L7 j c hl e;exact P4.old j c a e' hl (by rw[<-ee];exact ea)
  have acW:∀ {σ5:L2.St},Fx σ7 σ5 ρ1->Fx σ σ5 ρ:=λf j c hl e=>by
   have e':ρ1[j]?=some (some c):=by rw[hk1 j (.inl (P.lt j c e))];exact e
   exact(f j c hl e').trans ((L7 j c hl e').2.trans (F4 j c hl e))
  have ht:wpAny (model X.prog X.w) X.A (forIn ifs true λc r=>if r=true then do let ok <-isTrue c X.env (eval c X.env);pure (ForInStep.yield ok) else pure (ForInStep.yield r))
    (λok s8=>ok=k/\∃ H8,L2.Inv X (pins++zZ fp s6.heap) σ7 H8 s8/\Same H7 H8) (notedBy (model X.prog X.w) X.A X.env λe s'=>R (.error e) s') s7:=by
   rcases hif with⟨rfl,rfl⟩|⟨c,rfl,hc⟩
   ·cases ek;exact wpAny_tests_nil ⟨rfl,H7,I7,Same.refl H7⟩
   ·refine wpAny_tests_one ?_;have:=hc _ s7 σ7 H7 (λb H8=>b=k/\Same H7 H8) I7 ⟨Hb,ρ1,k,E7,ek,λH8 s8=>⟨rfl,s8⟩⟩;rw[hx] at this;exact ZN this (λb s8 ⟨H8,I8,eb,s8'⟩=>⟨eb,H8,I8,s8'⟩) λ_ _ z=>z.elim
  refine zb (ZN ht (λok s8 h8=>?_) λ_ _ z=>z);obtain⟨rfl,H8,I8,s78⟩:=h8;have Xu:∀ {σ9:L2.St} {H9:Hp} {s9:Shared},L2.Inv X (pins++zZ fp s6.heap) σ9 H9 s9->L2.Inv X pins σ9 H9 s9/\tn (i+1) s9.heap/\∀ b∈fp,H9 b=none:=λ{σ9 H9 s9} I9=>by
   refine⟨I9.uV,T.keep _ _ _ st6 λb hb o e=>(I9.pin (b,o) (ZI _ (ZI _ (tu hb e)))).1,λb hb=>?_⟩;obtain⟨o,e,d⟩:=T.obj _ _ st6 b hb;exact(I9.pin (b,o) (ZI _ (ZI _ (tu hb e)))).2.1
  cases ok with
  |false=>
   rw[zC zk] at e4;obtain⟨I9,st9,fr9⟩:=Xu I8;exact ze ⟨rfl,ds.length - (i+1),by omega,i+1,σ7,H8,o1,o2,o,rfl,hlt,I9,st9,fr9,back (E7.grow s78),acW (λ_ _ _ _=>rfl),s78 _ _ hD4,hAk (.of s78) r4,e4,ho⟩
  |true=>
   rw[zh rfl] at e4;obtain⟨ys,eb,e4⟩:=bind_some e4;obtain⟨zs,e5,e4⟩:=bind_some e4;cases e4;have hl:=congrArg List.length ho;simp only[zt] at hl;have he:=hel _ s8 σ7 H8 Hb ρ1 D o o1 ys I8 (E7.grow s78) P7 hD eb (s78 _ _ hD4) (hAk (.of s78) r4) (by omega);rw[hx] at he;refine zb (ZN he (λ_ s10 h10=>?_) λ_ _ z=>z.elim);obtain⟨σ9,H9,o',I10,E9,F9,hD9,a5⟩:=h10;obtain⟨I11,aiU,aiV⟩:=Xu I10;exact ze ⟨rfl,ds.length - (i+1),by omega,i+1,σ9,H9,o1++ys,zs,o',rfl,hlt,I11,aiU,aiV,back E9,acW F9,hD9,a5,e5,by rw[JP];exact ho⟩
 ·have hge:ds.length<=i:=by omega
  rw[jI hge] at e4;cases e4;refine zb (Ki (zb ?_));refine gU (T.done X rfl rfl rfl hcalm i pins s4 σ4 H4 _ I4 (hfC fr4) st4 (y2 hge)) λr s5 ⟨hr,I5⟩=>?_;subst hr;rw[qA] at ho;exact ze (hR s5 σ4 H4 o I5 E4 F4 hD4 (by rw[<-ho];exact r4))
def oM (H:Hp) (D:Addr):Hp:=λb=>if b=D then none else H b
theorem jR {H:Hp} {D b:Addr} (h:b≠D):oM H D b=H b:=zC h
theorem tH {H:Hp} {D:Addr}:Same (oM H D) H:=λb o e=>by
 by_cases h:b=D
 ·rw[oM,zh h] at e;cases e
 ·rw[jR h] at e;exact e
theorem U7 {comp:Expr} {mk:Sem Value} {o0:Obj} {O0:HO} {Ac:Addr->Hp->List Dt->HO->Prop} {el:Addr->Env->Sem Unit} {fs:Ev->Option (List Dt)} {N m:Nat} {pins:List (Addr×Obj)} {σ:L2.St} {H2:Hp} {s2:Shared} {it:Addr} {fp:List Addr} {tn:Nat->Heap->Prop} {J:It} {ds out:List Dt} {ρ:Ev} {RR:Value->Addr->Result->Shared->Prop} {E:VP_}
  (O:yh X scope cl xs is) (hcalm:X.calm=true)
  (U6:∀ C s₀ H₀ fp,PTg (QH X (xs++ts) scope cl C s₀ H₀ fp) tgt gt) (hif:∀ C s₀ H₀ fp,Tests (QH X (xs++ts) scope cl C s₀ H₀ fp) ifs p) (helt:∀ C s₀ H₀ fp,aa0 (QH X (xs++ts) scope cl C s₀ H₀ fp) el fs Ac N m) (htk:TgK is.length m gt) (hnm:is.length<=m)
  (I2:L2.Inv X pins σ H2 s2) (Ec:bG X.K H2 H2 (Ae is σ++List.replicate ts.length none) (qu is ρ++List.replicate ts.length none)) (T:Turn X.prog X.w X.K tgt J fp it tn) (st:tn 0 s2.heap) (hf:∀ b∈fp,uO X pins H2 b) (Y:Yields X.K J ds H2)
  (hout:Cg gt p fs (qu is ρ++List.replicate ts.length none) ds=some out) (hlen:out.length<=N)
  (hRR:∀ (D C:Addr) (s':Shared) (H':Hp) (o:HO),H2 D=none->L2.Inv X pins σ H' s'->uO X pins H' C->(∃ m,s'.heap.Ns C m)->Same H2 H'->H' D=some o->Ac D H' out o->RR (.ref D) C (.ok .next) s')
  (hmk:∀ {Q:VP_},Q (.ref s2.heap.objs.size) { s2 with heap:=s2.heap.push o0 }->wpAny (model X.prog X.w) X.A mk Q E s2) (hO0:∀ H,fU X.prog X.w H (s2.heap.push o0) s2.heap.objs.size O0) (hA0:∀ H,Ac s2.heap.objs.size H [] O0)
  (hAk:∀ {D:Addr} {H H':Hp} {o1:List Dt} {o:HO},Kp H H'->Ac D H o1 o->Ac D H' o1 o)
  (hturn:∀ (it:Value) (D:Addr) (env:Env),compTurn comp 0 it (.ref D) env=(standAt iter.pos >>= λ_=>pyNext it >>= λr=>match r with
   |none=>pure (.done .next)
   |some v=>letOwnedTupleGo tgt it v >>= λ_=>assign tgt env v >>= λ_=>(forIn ifs true λc r=>if r=true then isTrue c env (eval c env) >>= λok=>pure (ForInStep.yield ok) else pure (ForInStep.yield r)) >>= λok=>if ok=true then el D env >>= λ_=>again (.compLoop comp 0 it (.ref D) env) else again (.compLoop comp 0 it (.ref D) env)))
  (hstart:∀ {it acc:Value} {env:Env} {R:Result->Shared->Prop} {s:Shared},codeAny (model X.prog X.w) X.A (.compLoop comp 0 it acc env) R s->wpAny (model X.prog X.w) X.A (pyIter it) (λit' s'=>codeAny (model X.prog X.w) X.A (.compLoop comp 0 it' acc env) R s') (notedBy (model X.prog X.w) X.A env λx s'=>R (.error x) s') s->codeAny (model X.prog X.w) X.A (.compStart comp 0 it acc env) R s)
  (hsh:∀ {it acc:Value} {env:Env} {Q:Fin->Shared->Prop} {E:VP_} {s:Shared},wpAny (model X.prog X.w) X.A ((compTurn comp 0 it acc env).onRaise (λx=>noteFrame x env >>= λ_=>theTreesLotGoes x)) Q E s->wpAny (model X.prog X.w) (X.A.under (.compLoop comp 0 it acc env)) ((model X.prog X.w).den (.compLoop comp 0 it acc env)) Q E s) :
  wpAny (model X.prog X.w) X.A mk (λacc s₃=>wpAny (model X.prog X.w) X.A (newFunctionEnv scope X.env.globals cl [] X.env.qual none .none (some X.env)) (λcenv s₄=>
   codeAny (model X.prog X.w) X.A (.compStart comp 0 (.ref it) acc { cenv with scope:=relabel scope X.env }) (RR acc cenv.locals) s₄) E s₃) E s2:=by
 refine hmk (U4 ?_);have hD:H2 s2.heap.objs.size=none:=I2.hok.fresh (zi _);have I3:L2.Inv X pins σ (upd H2 s2.heap.objs.size O0) { s2 with heap:=s2.heap.push o0 }:=
  I2.laid (t':=s2.toks) (λb o e=>zd _ e) (zi _) (hO0 _)
 have agD:∀ b∈fp,b < s2.heap.objs.size:=λb hb=>let ⟨o,e,_⟩:=T.obj 0 _ st b hb;zv e;have hf3:∀ b∈fp,uO X pins (upd H2 s2.heap.objs.size O0) b:=λb hb=>⟨by rw[aM (Zl (agD b hb))];exact(hf b hb).1,(hf b hb).2⟩;have st3:tn 0 (s2.heap.push o0):=T.keep 0 _ _ st λb hb o e=>zd _ e;have aa1:∀ b∈fp,b < (s2.heap.push o0).objs.size:=λb hb=>by rw[ZT];exact Qr (agD b hb)
 generalize hs3:({ s2 with heap:=s2.heap.push o0 }:Shared)=s3 at *
 have aiX:s3.heap=s2.heap.push o0:=by rw[<-hs3]
 rw[<-aiX] at st3 aa1;have IC:=Xr (ts:=ts) I3 O hf3 aa1;have st1:tn 0 (pushCells (s3.heap.push { cls:=.type "dict", data:=.dict #[] }) scope.names):=T.keep 0 _ _ st3 λb hb o e=>pushCells_keeps _ _ b o (zd _ e);have hfC:∀ b∈fp,uO (QH X (xs++ts) scope cl s3.heap.objs.size s3 (upd H2 s2.heap.objs.size O0) fp) [] (upd H2 s2.heap.objs.size O0) b:=λb hb=>by
  obtain⟨f0,f1,f2,f3,f4,f5⟩:=hf3 b hb;refine⟨f0,Zl (aa1 b hb),λz=>?_,.inl hb,λx c e z=>?_,λq hq=>absurd (show q∈([]:List (Addr×Obj)) from hq) (by simp)⟩
  ·rcases List.mem_cons.mp (I3.Ef b z) with q|q
   ·exact f1 q
   ·exact f2 q
  ·rcases yN _ _ _ x c e with h|h
   ·exact f4 x c (O.sub.get h) z
   ·rw[z] at h;exact absurd (ZH (aa1 b hb) (Nat.le_of_succ_le h)) (JU _)
 have P0:Apt H2 (Ae is σ++List.replicate ts.length none) (qu is ρ++List.replicate ts.length none) is.length:=by
  have g:∀ (j:Nat) c,(qu is ρ++List.replicate ts.length none)[j]?=some (some c)->j < is.length/\yg c=false:=λj c e=>by
   by_cases hj:j < is.length
   ·refine⟨hj,?_⟩;rw[Z3 (by simp[qu];omega)] at e;unfold qu at e;rw[ZO] at e;cases q:is[j]? with
    |none=>rw[q] at e;cases e
    |some i=>rw[q] at e;exact Dp (by simpa using e)
   ·rw[QR (by simp[qu];omega),jn] at e;split at e<;>cases e
  exact⟨λj c e=>(g j c e).2,λj c e=>(g j c e).1,known Ec⟩
 have h:=U5 (X:=QH X (xs++ts) scope cl s3.heap.objs.size s3 (upd H2 s2.heap.objs.size O0) fp) (R:=RR (.ref s2.heap.objs.size) s3.heap.objs.size) (o0:=[]) hcalm rfl (U6 _ _ _ _) (hif _ _ _ _) (helt _ _ _ _) htk hnm IC (Ec.grow (bI hD)) P0 hD aV (hA0 _) T st1 hfC Y hout (by simpa using hlen) hAk hturn hsh λs5 σ5 H5 o5 I5 E5 _ hD5 a5=>by
  have IB:L2.Inv X pins σ H5 s5:=I3.call' (ch:=fp) I5.os I5.base I5.hok I5.bare λb hb=>by
   obtain⟨f0,f1,f2,f3,f4,f5⟩:=hf3 b hb;exact⟨f3,f1,f4,f5⟩
  obtain⟨m,hn,_⟩:=I5.loc;exact hRR _ _ s5 H5 o5 hD IB (I3.Ur (zi _) I5.free) ⟨m,hn⟩ E5.base hD5 a5
 exact hstart h (T.self _ 0 _ _ _ st1 h)
def AcL (K:FG_) (_:Addr) (H:Hp) (o1:List Dt) (o:HO):Prop:=∃ us,o=.lst us/\aQ K H o1 us
theorem AcL.kp {K:FG_} {D:Addr} {H H':Hp} {o1:List Dt} {o:HO} (k:Kp H H'):AcL K D H o1 o->AcL K D H' o1 o:=λ⟨us,e,r⟩=>⟨us,e,r.kp k⟩
def aiY (fe:Ev->Option Bx):Ev->Option (List Dt):=λρ=>(fe ρ).bind aek
theorem aa2 {n:Nat} (h:PV X elt fe):aa0 X (λD env=>do let _ <-call (.builtin "list.append") [.ref D,<-eval elt env]) (aiY fe) (AcL X.K) 100000 n:=by
 refine ael λpins s σ H Hb ρ D o o1 ys I En ee hD ⟨us,e,r4⟩ hl=>?_;subst e;obtain⟨b,eb,ee⟩:=bind_some ee;obtain⟨y,rfl,rfl⟩:=Ji ee;refine zb (ZN (h pins s σ H (λv H9=>Same H H9/\Rep X.K H9 y v) I ⟨Hb,ρ,_,En,eb,λv H9 s9 _ r9=>⟨s9,r9⟩⟩) (λv s9 h9=>?_) λ_ _ z=>z);obtain⟨v',H9,I9,rv,s89,r9⟩:=h9;have hD9:=s89 _ _ hD;refine zb (ZN ((z8 (X:=X)) _ s9 σ H9 (.ref D) [v'] (.ref D) [v] (λw H10=>H10=upd H9 D (.lst (us++[v']))) I9 rfl (.cons rv .nil) ⟨_,us,v',rfl,rfl,hD9,by rw[r4.length];have h0:(100000:Nat) < sizeLine:=(by decide);simp at hl;omega,rfl⟩) (λw s10 h10=>?_) λ_ _ z=>z);obtain⟨w',H10,I10,_,rfl⟩:=h10;have kp:Kp H9 (upd H9 D (.lst (us++[v']))):=.lst hD9;exact ze ⟨H9,_,I10,s89,kp,us++[v'],rfl,((r4.kp (.of s89)).append (aQ.cons r9 aQ.nil)).kp kp⟩
theorem MP {pins:List (Addr×Obj)} {σ:L2.St} {H2:Hp} {s2:Shared} {it:Addr} {fp:List Addr} {tn:Nat->Heap->Prop} {J:It} {ds out:List Dt} {ρ:Ev} {RR:Value->Addr->Result->Shared->Prop} {E:VP_}
  (O:yh X scope cl xs is) (hcalm:X.calm=true)
  (U6:∀ C s₀ H₀ fp,PTg (QH X (xs++ts) scope cl C s₀ H₀ fp) tgt gt) (hif:∀ C s₀ H₀ fp,Tests (QH X (xs++ts) scope cl C s₀ H₀ fp) ifs p) (helt:∀ C s₀ H₀ fp,PV (QH X (xs++ts) scope cl C s₀ H₀ fp) elt fe) (htk:TgK is.length (is.length+ts.length) gt)
  (I2:L2.Inv X pins σ H2 s2) (Ec:bG X.K H2 H2 (Ae is σ++List.replicate ts.length none) (qu is ρ++List.replicate ts.length none)) (T:Turn X.prog X.w X.K tgt J fp it tn) (st:tn 0 s2.heap) (hf:∀ b∈fp,uO X pins H2 b) (Y:Yields X.K J ds H2)
  (hlen:ds.length<=100000) (hout:Jh gt p fe (qu is ρ++List.replicate ts.length none) ds=some out)
  (hRR:∀ (D C:Addr) (s':Shared) (H':Hp) (us:List V),H2 D=none->L2.Inv X pins σ H' s'->uO X pins H' C->(∃ m,s'.heap.Ns C m)->Same H2 H'->H' D=some (.lst us)->aQ X.K H' out us->RR (.ref D) C (.ok .next) s') :
  wpAny (model X.prog X.w) X.A (newList []) (λacc s₃=>wpAny (model X.prog X.w) X.A (newFunctionEnv scope X.env.globals cl [] X.env.qual none .none (some X.env)) (λcenv s₄=>
   codeAny (model X.prog X.w) X.A (.compStart (.ListComp elt [⟨tgt,iter,ifs,0⟩] scope pos) 0 (.ref it) acc { cenv with scope:=relabel scope X.env }) (RR acc cenv.locals) s₄) E s₃) E s2:=
 U7 (Ac:=AcL X.K) (O0:=.lst []) (N:=100000) O hcalm U6 hif (λC s₀ H₀ fp=>aa2 (helt C s₀ H₀ fp)) htk (Nat.le_add_right ..) I2 Ec T st hf Y hout (zI (Af hout) hlen) (λD C s' H' o a b c d e f g=>by obtain⟨us,rfl,r⟩:=g;exact hRR D C s' H' us a b c d e f r)
  qh (λ_=>⟨qi _,[],0,.nil,zl _ rfl⟩) (λ_=>⟨[],rfl,aQ.nil⟩) AcL.kp (λ_ _ _=>rfl) codeAny_compStart_list λh=>h
end
def iC (K:FG_) (f:Ev->Option (List Dt)):TI:=λσ H R=>∃ H0 ρ ds,bG K H0 H σ ρ/\f ρ=some ds/\∀ J H',Same H H'->Yields K J ds H'->R J H'
def PIC (X:Cx) (tg iter:Expr) (f:Ev->Option (List Dt)):Prop:=PI X tg iter (iC X.K f)
structure QIC (X:Cx) (tg iter:Expr) (f:Ev->Option (List Dt)):Prop where
 run:PIC X tg iter f
def Xv:Bx->Option (List Dt)
 |.z (.lst ds)=>some ds
 |.z (.tup ds)=>some ds
 |.z (.str x)=>some (signs x)
 |.o ds=>some ds
 |.l ds=>some ds
 |_=>none
section
variable {X:Cx} {e elt tgt iter:Expr} {es ifs:List Expr} {f:Ev->Option Bx} {fs:Ev->Option (List Bx)} {scope:Scope} {cl:List (Str×Addr)} {pos:Pos} {xs ts:LS_} {is:List Nat} {gt:Dt->Ev->Option Ev} {p:Ev->Option Bool} {fe:Ev->Option Bx} {fi:Ev->Option (List Dt)}
theorem Xw (h:QIF X tgt iter fi):QIC X tgt iter fi:=⟨have h:=h.run;λpins s σ H R I q=>by
 obtain⟨H0,ρ,ds,E,e,q⟩:=q;exact h pins s σ H R I ⟨H0,ρ,ds,E,e,λJ H' s' y=>q J H' s' (y H' (Same.refl H') (λ_ _=>rfl) (λ_ _ _ _=>rfl) λ_ _ _=>rfl)⟩⟩
theorem oV (h:QV X e f):QIC X tgt e (λρ=>(f ρ).bind Xv):=⟨have h:=h.run;λpins s σ H R I q=>by
 refine Xo h pins s σ H R I ?_;obtain⟨H0,ρ,ds,E,e,q⟩:=q;obtain⟨b,eb,e⟩:=bind_some e;refine⟨H0,ρ,b,E,eb,λv H1 s1 n1 r1=>?_⟩;cases b with
 |z d=>
  cases d with
  |tup ds'=>
   cases e;simp only[bA,Rep] at r1;obtain⟨a,vs,rfl,hq,rs⟩:=r1;exact .inr (.inl ⟨a,rfl,⟨vs,hq⟩,q _ _ s1 (.tup hq rs)⟩)
  |lst ds'=>
   cases e;obtain⟨a,vs,rfl,hq,rs⟩:=r1.Jf rfl;exact .inl ⟨a,rfl,⟨vs,hq⟩,q _ _ s1 (.list hq rs)⟩
  |str x=>
   cases e;simp only[bA,Rep] at r1;obtain⟨rfl,_⟩:=r1;exact .inr (.inr ⟨x,rfl,q _ _ s1 (.str x)⟩)
  |_=>cases e
 |l ds'=>
  cases e;obtain⟨a,vs,rfl,hq,rs⟩:=r1.Jf rfl;exact .inl ⟨a,rfl,⟨vs,hq⟩,q _ _ s1 (.list hq rs)⟩
 |o ds'=>
  cases e;obtain⟨a,vs,rfl,hq,rs⟩:=r1.Jf rfl;exact .inl ⟨a,rfl,⟨vs,hq⟩,q _ _ s1 (.list hq rs)⟩
 |n _=>cases e
 |m _ _=>cases e⟩
def lF (fi:Ev->Option (List Dt)) (gt:Dt->Ev->Option Ev) (p:Ev->Option Bool) (fe:Ev->Option Bx) (is:List Nat) (n:Nat):Ev->Option Bx:=λρ=>(fi ρ).bind λds=>
 if ds.length<=100000 then(Jh gt p fe (qu is ρ++List.replicate n none) ds).bind λout=>some (.o out) else none
theorem nC (ts:LS_) (O:yh X scope cl xs is) (hcalm:X.calm=true) (hi:QIC X tgt iter fi) (U6:∀ C s₀ H₀ fp,QTg (QH X (xs++ts) scope cl C s₀ H₀ fp) tgt gt) (hif:∀ C s₀ H₀ fp,QL (QH X (xs++ts) scope cl C s₀ H₀ fp) ifs p) (helt:∀ C s₀ H₀ fp,QV (QH X (xs++ts) scope cl C s₀ H₀ fp) elt fe) (htk:TgK is.length (is.length+ts.length) gt) (hs:∀ x,foldedSetIterable iter X.env x=pure x:=by intro _;rfl):QV X (.ListComp elt [⟨tgt,iter,ifs,0⟩] scope pos) (lF fi gt p fe is ts.length):=⟨have hi:=hi.run;have U6:=λC s₀ H₀ fp=>(U6 C s₀ H₀ fp).run;have hif:=λC s₀ H₀ fp=>(hif C s₀ H₀ fp).run;have helt:=λC s₀ H₀ fp=>(helt C s₀ H₀ fp).run;λpins s σ H Q I h=>by
 obtain⟨H0,ρ,b,E,e,q⟩:=h;obtain⟨ds,ed,e⟩:=bind_some e;split at e
 ·rename_i hlen;obtain⟨out,eo,e⟩:=bind_some e;cases e;rw[eval_ListComp];refine wpAny_comprehension_free (use:=none) rfl hs O.clos O.kind O.names ?_;refine gU (hi pins s σ H (λJ H'=>Same H H'/\Yields X.K J ds H') I ⟨H0,ρ,ds,E,ed,λJ H' s' y=>⟨s',y⟩⟩) λv s1 h1=>gU h1 λitv s2 h2=>?_;obtain⟨it,fp,tn,J,H2,rfl,I2,T,st,hf,s12,Y⟩:=h2;refine MP (RR:=λacc C=>compPost (model X.prog X.w) X.A X.xe none (EP X pins σ Q) acc C) (ts:=ts) (xs:=xs) O hcalm U6 hif helt htk I2 ((E.grow s12).caps is ts.length) T st hf Y hlen eo ?_;intro D C s' H' us hD I' fC ⟨m,hn⟩ s2' hD' r';refine⟨m,hn,λh' sb=>⟨.ref D,H',?_,rfl,q _ _ (s12.trans s2') (λa ea=>by cases ea;exact s12.free hD) ⟨D,us,rfl,hD',r'⟩⟩⟩;obtain⟨f0,f1,f2,f3,f4,f5⟩:=fC;exact I'.turned (t':=s'.toks) (λb o hb e=>(sb.2 b hb).trans e) f0 f1 f3 f4 f5
 ·cases e⟩
theorem aa3 (i:Nat) {y:Str} {py spos:Pos} (ts:LS_) (O:yh X scope cl xs is) (hcalm:X.calm=true) (hN:X.N.Nodup) (hi:QIC X tgt iter fi) (U6:∀ C s₀ H₀ fp,QTg (QH X (xs++ts) scope cl C s₀ H₀ fp) tgt gt) (hif:∀ C s₀ H₀ fp,QL (QH X (xs++ts) scope cl C s₀ H₀ fp) ifs p) (helt:∀ C s₀ H₀ fp,QV (QH X (xs++ts) scope cl C s₀ H₀ fp) elt fe) (htk:TgK is.length (is.length+ts.length) gt) (hsw:swapsWith (.ListComp elt [⟨tgt,iter,ifs,0⟩] scope pos) (some (.Name y py)) spos.line X.env=pure true:=by with_unfolding_all rfl) (hy:X.N[i]?=some y:=by rfl) (hx:Loc X.env.scope y:=by first|exact JA rfl|exact QO rfl) (hf:X.fn y=true\/X.env.scope.names.lookup y=some .local:=by first|exact .inl rfl|exact .inr rfl) (hs:∀ x,foldedSetIterable iter X.env x=pure x:=by intro _;rfl):Sq X (.Assign [.Name y py] (.ListComp elt [⟨tgt,iter,ifs,0⟩] scope pos) spos) (λρ=>(lF fi gt p fe is ts.length ρ).bind λb=>(Xm ρ i b).bind λρ'=>some (.nx ρ')):=⟨have hi:=hi.run;have U6:=λC s₀ H₀ fp=>(U6 C s₀ H₀ fp).run;have hif:=λC s₀ H₀ fp=>(hif C s₀ H₀ fp).run;have helt:=λC s₀ H₀ fp=>(helt C s₀ H₀ fp).run;λpins s σ H D I h=>by
 obtain⟨H0,ρ,r,E,e,q⟩:=h;obtain⟨b,eb,e⟩:=bind_some e;obtain⟨ds,ed,eb⟩:=bind_some eb;split at eb
 ·rename_i hlen;obtain⟨out,eo,eb⟩:=bind_some eb;cases eb;cases e;rw[exec_Assign_Name_used _ _ _ _ hsw];refine zb (Ki (zb ?_));show wpAny _ X.A (do let _ <-comprehension (.ListComp elt [⟨tgt,iter,ifs,0⟩] scope pos) scope X.env _ (newList []) false (eval iter X.env) (some (assign (.Name y py) X.env))) _ _ s;refine zb (ZN (wpAny_comprehension_free (use:=some (assign (.Name y py) X.env)) (Q:=λ_ s'=>SP X pins D .next s') rfl hs O.clos O.kind O.names ?_) (λ_ s' hq=>ze (ze hq)) λ_ _ e=>e);refine gU (hi pins s σ H (λJ H'=>Same H H'/\Yields X.K J ds H') I ⟨H0,ρ,ds,E,ed,λJ H' s' y=>⟨s',y⟩⟩) λv s1 h1=>gU h1 λitv s2 h2=>?_;obtain⟨it,fp,tn,J,H2,rfl,I2,T,st,hf',s12,Y⟩:=h2;refine MP (RR:=λacc C=>compPost (model X.prog X.w) X.A X.xe (some (assign (.Name y py) X.env)) (λ_ s'=>SP X pins D .next s') acc C) (ts:=ts) (xs:=xs) O hcalm U6 hif helt htk I2 ((E.grow s12).caps is ts.length) T st hf' Y hlen eo ?_;intro Da C s' H' us hD I' fC ⟨m,hn⟩ s2' hD' r';show wpAny _ X.A (assign (.Name y py) X.env (.ref Da)) _ _ s';obtain⟨f0,f1,f2,f3,f4,f5⟩:=fC;obtain⟨oC,es',ep,hoC,hdC,hrest⟩:=id hn;have I'':L2.Inv X (pins++[(C,oC)]) σ H' s':=I'.Dh λpp hp=>by
   rcases List.mem_append.mp hp with z|z
   ·exact I'.pin pp (ZI _ z)
   ·have:pp=(C,oC):=by simpa using z
    subst this;exact⟨hoC,f0,f1,f2,λv z=>by rw[hdC] at z;cases z⟩
  refine gU (L2.Dl hN hy hx hf (pins++[(C,oC)]) s' σ H' (.ref Da) (.ref Da) (λσ' H''=>σ'=σ.set i (some (.ref Da))/\H''=H') I'' rfl ⟨rfl,rfl⟩) λ_ s'' ⟨σ',H'',J',e1,e2⟩=>?_;subst e1 e2;have hC':=(J'.pin (C,oC) (by simp)).1;refine⟨m,⟨oC,es',ep,hC',hdC,hrest⟩,λh' sb=>?_⟩;refine⟨σ.set i (some (.ref Da)),H'',J'.uV.turned (t':=s''.toks) (λb o hb e=>(sb.2 b hb).trans e) f0 f1 f3 f4 f5,q _ _ ?_⟩;exact E.set (s12.trans s2') (b:=.o out) ⟨Da,us,rfl,hD',r'⟩ (.inl rfl) λa ea=>by cases ea;exact s12.free hD
 ·cases eb⟩
def lend:Bx->Bx
 |.o ds=>.l ds
 |.m ds _=>.n ds
 |b=>b
def isO:Bx->Bool
 |.o _=>true
 |.m _ _=>true
 |_=>false
def Wr (K:FG_) (n:Nat) (F:List Bx->Option Bx):Sp:=λvs H Q _=>vs.length=n/\∃ bs r,qy K H bs vs/\bs.all (λb=>!isO b)=true/\F bs=some r/\∀ v H',Same H H'->Nw H r v->bA K H' r v->Q v H'
def dW (n:Nat) (g:Ev->Option Out):List Bx->Option Bx:=λbs=>(g (bs.map some++List.replicate (n - bs.length) none)).bind λr=>match r with
 |.rt b=>some b
 |.nx _=>some (.z .non)
 |_=>none
theorem bG.start {K:FG_} {H:Hp} {N:LS_} {bs:List Bx} {vs:List V} (r:qy K H bs vs) (ho:bs.all (λb=>!isO b)=true):bG K H H (L2.start N vs) (bs.map some++List.replicate (N.length - bs.length) none):=by
 have hl:bs.length=vs.length:=Paired.length r;have get:∀ (i:Nat) b,(bs.map some++List.replicate (N.length - bs.length) none)[i]?=some (some b)->bs[i]?=some b:=λi b e=>by
  by_cases hi:i < bs.length
  ·rw[Z3 (by simpa using hi),ZO] at e;cases q:bs[i]? with
   |none=>rw[q] at e;cases e
   |some b'=>rw[q] at e;simpa using e
  ·rw[QR (by simp;omega),jn] at e;split at e<;>cases e
 have noO:∀ (i:Nat) c,(bs.map some++List.replicate (N.length - bs.length) none)[i]?=some (some c)->yg c=true->False:=λi c e ec=>by
  have:=List.all_eq_true.mp ho _ (Kt (get i _ e));cases c with
  |o ds=>cases this
  |m ds _=>cases this
  |_=>cases ec
 refine⟨?_,λi b e=>?_,λi j c a b e ec=>(noO i c e ec).elim,Same.refl H,λi c a e ec=>(noO i c e ec).elim⟩
 ·unfold L2.start;simp[hl]
 ·have e':=get i b e;have hi:i < bs.length:=(List.getElem?_eq_some_iff.mp e').1;have:∀ {bs:List Bx} {vs:List V} {i:Nat} {b:Bx},Paired (bA K H) bs vs->bs[i]?=some b->∃ v,vs[i]?=some v/\bA K H b v:=by
   intro bs vs i b r
   induction r generalizing i with
   |nil=>intro e;simp at e
   |cons p t ih=>
    intro e;cases i with
    |zero=>simp at e;subst e;exact⟨_,rfl,p⟩
    |succ i=>obtain⟨v,e1,e2⟩:=ih (i:=i) (by simpa using e);exact⟨v,by simpa using e1,e2⟩
  obtain⟨v,e1,e2⟩:=this r e';refine⟨v,?_,e2⟩;unfold L2.start;rw[Z3 (by simp;omega),ZO,e1];rfl
end
section
variable {P:Program} {w:World} {K:FG_} {mg:Str->Option Value} {base:Heap}
theorem ai1 {x qual:Str} {st:Stmt} {f:Addr} {fd:FuncData} {N ps:LS_} {k:Nat} {g:Ev->Option Out} (F:HD K x qual st f fd) (S:bw N ps (aF st))
  (hbody:∀ (cdv:Value) (A:Around) (outer:List Env) (s:Shared) (H:Hp) (E:XK),gW k (A.deeper (envOfC qual (aF st) s.heap.objs.size f cdv))->R0 (wY xq P w K mg base N qual (aF st) f cdv A outer s H E).Mj (f9 st) g) :
  eZ P w K mg base xq (k+1) f fd ps (Wr K ps.length (dW N.length g)):=by
 refine F.ok S (λvs H Q E h=>h.1) λcdv A outer s H vs Q E hr h=>?_;obtain⟨hl,bs,r,rb,ho,e,q⟩:=h;refine⟨_,hbody cdv A outer s H E hr,?_⟩;obtain⟨r',er,e⟩:=bind_some e;refine⟨H,_,r',bG.start rb ho,er,?_⟩;cases r' with
 |rt b=>cases e;exact λv H' s' n' r'=>q v H' s' n' r'
 |nx ρ=>cases e;exact λσ H' E'=>q _ H' E'.base trivial (by unfold bA Rep;rfl)
 |bk ρ=>cases e
 |ct ρ=>cases e
end
section
variable {X:Cx} {k:Nat} {f:Addr} {fd:FuncData} {ps:LS_} {F:List Bx->Option Bx} {x:Str} {p pos:Pos} {e:Expr} {es:List Expr} {fs:Ev->Option (List Bx)} {n:Nat}
theorem yO {K:FG_} {H:Hp}:∀ {bs:List Bx} {vs:List V},qy K H bs vs->qy K H (bs.map lend) vs
 |_,_,.nil=>.nil
 |b::bs,_,.cons h t=>by
  refine .cons ?_ (yO t);cases b with
  |z d=>exact h
  |l ds=>exact h
  |o ds=>obtain⟨a,vs,e,q,r⟩:=h;exact⟨a,vs,e,.inl q,r⟩
  |n ds=>exact h
  |m ds _=>obtain⟨a,vs,e,q,r⟩:=h;exact⟨a,vs,e,.inl q,r.1⟩
theorem Dr:∀ bs:List Bx,(bs.map lend).all (λb=>!isO b)=true
 |[]=>rfl
 |b::bs=>by
  rw[zw,ka,Dr bs];cases b<;>rfl
def bB (n:Nat) (F:List Bx->Option Bx) (fs:Ev->Option (List Bx)):Ev->Option Bx:=λρ=>(fs ρ).bind λbs=>if bs.length=n then F (bs.map lend) else none
theorem Ds (G:eZ X.prog X.w X.K X.mg X.base xq k f fd ps (Wr X.K n F)) (hr:gW k X.A) (hg:Gl X x) (hm:X.mg x=some (.ref f)) (hk:keepIn X.K (.ref f)=true) (hb:Binds X.K fd ps []) (ha:Sh X (e::es) fs) (hdb:(x==("__debug__" : Str))=false:=by decide) (he:starEach (e::es) X.env=(false,eval e X.env)::starEach es X.env:=by rfl) (hpl:(backTo pos (starEach es X.env)).any (·.1)=false:=by rfl):QV X (.Call (.Name x p) (e::es) [] pos) (bB n F fs):=⟨have ha:=ha.run;z9 (J1 G hr hg hm hk hb .nil (acS) ha hdb he hpl) λσ H Q h=>by
 obtain⟨H0,ρ,r,E,e,q⟩:=h;obtain⟨bs,eb,e⟩:=bind_some e;refine⟨H0,ρ,bs,E,eb,λvs H1 s1 r1=>?_⟩;split at e
 ·rename_i hn;rw[qA];exact⟨by rw[<-Paired.length r1];exact hn,_,r,yO r1,Dr bs,e,λv H2 s2 n2 r2=>q v H2 (s1.trans s2) (n2.old s1) r2⟩
 ·cases e⟩
end
end P1
end
section
namespace P1
open PySem PySem.Spec PyProof.Rows L2 SeqAt
open AutoSeq1 (wpAny_loadPart')
def Ia (h:Heap) (a:Addr):Prop:=∃ o ep,h.get? a=some o/\o.ExactDict/\o.data=.dict #[] ep
section
variable {A:Around} {s:Shared} {a b:Addr}
theorem yP {P:Program} {w:World} {kvs:List (Key×V)} {h:Heap} {vs:List (Key×Value)} (q:kvs=[]) (r:KV kvs vs) (d:h.DictOf (dh P w) a vs):Ia h a:=by
 subst q;cases r;obtain⟨o,es,ep,h1,h2,h3,_,h5,_⟩:=d;have:es=#[]:=by
  have:=h5.length;apply Array.eq_empty_of_size_eq_zero;simpa using this
 subst this;exact⟨o,ep,h1,h2,h3⟩
theorem Ia.dict (P:Program) (w:World) {h:Heap} (x:Ia h a):h.DictOf (strKind P w) a []:=by
 obtain⟨o,ep,h1,h2,h3⟩:=x;exact⟨o,#[],ep,h1,h2,h3,λe he=>by simp at he,.nil,List.nodup_nil⟩
theorem acY (ha:(a==sysModules)=false) (hb:(b==sysModules)=false) (da:Ia s.heap a) (db:Ia s.heap b) (hu:A.units < cLine):RcAt A s (.ref a) (.ref b) true:=λprog w E Q h=>
 PySem.W.keq_eq (knd:=strKind prog w) ha hb (da.dict prog w) (db.dict prog w) hu (λ_=>.nil) h
theorem agE (ha:(a==sysModules)=false) (hb:(b==sysModules)=false) (da:Ia s.heap a) (db:Ia s.heap b) (hu:A.units < cLine):RcNeAt A s (.ref a) (.ref b) false:=λprog w E Q h=>
 PySem.W.keq_ne (r:=true) (knd:=strKind prog w) ha hb (da.dict prog w) (db.dict prog w) hu (λ_=>.nil) h
theorem M4 (o:Obj) (b:Str) (u:Tok):Meets (Builtin.«dict.__eq__» ⟨[.ref a,.str b u],[]⟩) (λ_ R s=>(s.heap.get? a=some o/\o.cls=.type "dict")/\R (.ok (.ret .notImplemented)) s):=
 .of_wp λprog w A R s h=>by
  have ht:s.TypeIs (.ref a) "dict" := ⟨o,h.1.1,h.1.2⟩;show wpAny _ _ (Builtin.Dict.dictSlotArgs "__eq__" ⟨[.ref a,.str b u],[]⟩ >>= _) _ _ s;refine zb ?_;unfold Builtin.Dict.dictSlotArgs;refine zb (wpAny_notOrdered_dict ht ?_);show wpAny _ _ (pure (Value.ref a,Value.str b u)) _ _ s;refine ze ?_;refine zb (kc (T := "str") (typeIs_str s b u) PySem.F.sub_str_dict ?_);simp only[Bool.not_false,Jn];refine zb (KM ?_);exact ze ⟨_,rfl,h.2⟩
theorem M5 (b:Str) (u:Tok) (es:Array DictEntry) (ep:Nat) (dd:Option Addr) (sl:Array (Option Value)):Meets (Builtin.«str.__eq__» ⟨[.str b u,.ref a],[]⟩) (λ_ R s=>s.heap.get? a=some { cls:=.type "dict", dict:=dd,data:=.dict es ep,slots:=sl }/\R (.ok (.ret .notImplemented)) s):=
 .of_wp λprog w A R s h=>by obtain⟨hp,g,d,tk,os⟩:=s;obtain⟨hl,h⟩:=h;wp_walk using wpAny_loadPart' hl,KO hl;exact⟨_,rfl,h⟩
theorem Jj (x:Str) (t:Tok) (d:Ia s.heap a) (hu:A.units < cLine):RcAt A s (.str x t) (.ref a) false:=λprog w E Q h=>by
 obtain⟨⟨cls,dd,data,sl⟩,ep,ho,⟨hc,hd,hs⟩,he⟩:=d;simp only at hc he;subst hc he;exact rc_eq_decline_or (k:=false) (typeIs_str s x t) ⟨_,ho,rfl⟩ (by decide) PySem.F.sub_dict_str PySem.F.slot_str_eq PySem.F.slot_dict_eq_refl
  (λ_ hq=>call_meets PySem.F.slot_str_eq (typeIs_str s x t) PySem.F.entry_str_eq (PySem.F.args_str_eq_2 _ _) (M5 x t #[] ep dd sl) ⟨ho,hq⟩)
  (λ_ hq=>call_meets PySem.F.slot_dict_eq_refl ⟨_,ho,rfl⟩ PySem.F.entry_dict_eq (PySem.F.args_dict_eq_2 _ _) (M4 _ x t) ⟨⟨ho,rfl⟩,hq⟩)
  (λ_ hq=>wpAny_of_eq (rfl:isSame (.str x t) (.ref a)=pure false) hq) (.inr hu) h
theorem M6 (o:Obj) (b:Str) (u:Tok):Meets (Builtin.«dict.__ne__» ⟨[.ref a,.str b u],[]⟩) (λ_ R s=>(s.heap.get? a=some o/\o.cls=.type "dict")/\R (.ok (.ret .notImplemented)) s):=
 .of_wp λprog w A R s h=>by
  have ht:s.TypeIs (.ref a) "dict" := ⟨o,h.1.1,h.1.2⟩;show wpAny _ _ (Builtin.Dict.dictSlotArgs "__ne__" ⟨[.ref a,.str b u],[]⟩ >>= _) _ _ s;refine zb ?_;unfold Builtin.Dict.dictSlotArgs;refine zb (wpAny_notOrdered_dict ht ?_);show wpAny _ _ (pure (Value.ref a,Value.str b u)) _ _ s;refine ze ?_;refine zb (kc (T := "str") (typeIs_str s b u) PySem.F.sub_str_dict ?_);simp only[Bool.not_false,Jn];refine zb (KM ?_);exact ze ⟨_,rfl,h.2⟩
theorem M7 (b:Str) (u:Tok) (es:Array DictEntry) (ep:Nat) (dd:Option Addr) (sl:Array (Option Value)):Meets (Builtin.«str.__ne__» ⟨[.str b u,.ref a],[]⟩) (λ_ R s=>s.heap.get? a=some { cls:=.type "dict", dict:=dd,data:=.dict es ep,slots:=sl }/\R (.ok (.ret .notImplemented)) s):=
 .of_wp λprog w A R s h=>by obtain⟨hp,g,d,tk,os⟩:=s;obtain⟨hl,h⟩:=h;wp_walk using wpAny_loadPart' hl,KO hl;exact⟨_,rfl,h⟩
theorem U8 (x:Str) (t:Tok) (d:Ia s.heap a) (hu:A.units < cLine):RcNeAt A s (.str x t) (.ref a) true:=λprog w E Q h=>by
 obtain⟨⟨cls,dd,data,sl⟩,ep,ho,⟨hc,hd,hs⟩,he⟩:=d;simp only at hc he;subst hc he;exact rc_ne_decline_or (k:=false) (typeIs_str s x t) ⟨_,ho,rfl⟩ (by decide) PySem.F.sub_dict_str PySem.F.slot_str_ne PySem.F.slot_dict_ne_refl
  (λ_ hq=>call_meets PySem.F.slot_str_ne (typeIs_str s x t) PySem.F.entry_str_ne (PySem.F.args_str_ne_2 _ _) (M7 x t #[] ep dd sl) ⟨ho,hq⟩)
  (λ_ hq=>call_meets PySem.F.slot_dict_ne_refl ⟨_,ho,rfl⟩ PySem.F.entry_dict_ne (PySem.F.args_dict_ne_2 _ _) (M6 _ x t) ⟨⟨ho,rfl⟩,hq⟩)
  (λ_ hq=>wpAny_of_eq (rfl:isSame (.str x t) (.ref a)=pure false) hq) (.inr hu) h
theorem U9 (x:Str) (t:Tok) (d:Ia s.heap a) (hu:A.units < cLine):EqAt A s (.str x t) (.ref a) false:=λprog w E Q h=>by
 unfold eqBool;refine qV ?_;refine wpAny_ite_split (λhab=>absurd (eq_of_beq hab) nofun) (λ_=>?_);exact zb (Jj x t d hu prog w E _ (ja h))
end
mutual
def wA:Dt->Nat
 |.tup xs=>u0 xs+1
 |.lst xs=>u0 xs+1
 |_=>1
def u0:List Dt->Nat
 |[]=>0
 |d::ds=>max (wA d) (u0 ds)
end
mutual
def Du:Dt->Dt->Option Bool
 |.non,.non=>some true
 |.non,.bl _=>some false|.non,.int _=>some false|.non,.str _=>some false|.non,.tup _=>some false|.non,.lst _=>some false
 |.bl a,.bl b=>some (a==b)
 |.bl a,.int b=>some ((if a then 1 else 0)==b)
 |.bl _,.non=>some false|.bl _,.str _=>some false|.bl _,.tup _=>some false|.bl _,.lst _=>some false
 |.int a,.int b=>some (a==b)
 |.int a,.bl b=>some (a==(if b then 1 else 0))
 |.int _,.non=>some false|.int _,.str _=>some false|.int _,.tup _=>some false|.int _,.lst _=>some false
 |.str a,.str b=>some (a==b)
 |.str _,.non=>some false|.str _,.bl _=>some false|.str _,.int _=>some false|.str _,.tup _=>some false|.str _,.lst _=>some false|.str _,.emp=>some false
 |.tup xs,.tup ys=>mQ xs ys
 |.tup _,.non=>some false|.tup _,.bl _=>some false|.tup _,.int _=>some false|.tup _,.str _=>some false|.tup _,.lst _=>some false
 |.lst xs,.lst ys=>mQ xs ys
 |.emp,.emp=>some true
 |.lst _,.non=>some false|.lst _,.bl _=>some false|.lst _,.int _=>some false|.lst _,.str _=>some false|.lst _,.tup _=>some false
 |_,_=>none
def mQ:List Dt->List Dt->Option Bool
 |[],[]=>some true
 |[],_::_=>some false
 |_::_,[]=>some false
 |x::xs,y::ys=>match Du x y with
  |some b=>match mQ xs ys with
   |some c=>some (b&&c)
   |none=>none
  |none=>none
end
mutual
theorem M8:∀ {d:Dt} {k:Bool},Du d d=some k->k=true
 |.non,_,e=>by cases e;rfl
 |.bl b,_,e=>by cases e;simp
 |.int b,_,e=>by cases e;simp
 |.str b,_,e=>by cases e;simp
 |.tup xs,_,e=>Ag (ds:=xs) e
 |.lst xs,_,e=>Ag (ds:=xs) e
 |.emp,_,e=>by cases e;rfl
theorem Ag:∀ {ds:List Dt} {k:Bool},mQ ds ds=some k->k=true
 |[],_,e=>by simp only[mQ] at e;cases e;rfl
 |d::ds,_,e=>by
  simp only[mQ] at e;cases h:Du d d with
  |none=>rw[h] at e;cases e
  |some b=>
   rw[h] at e;simp only at e;cases h2:mQ ds ds with
   |none=>rw[h2] at e;cases e
   |some c=>
    rw[h2] at e;cases e;rw[M8 h,Ag h2];rfl
end
theorem Dv (xs ys:List Dt):Du (.tup xs) (.tup ys)=mQ xs ys:=rfl
theorem u5:∀ {xs ys:List Dt} {k:Bool},mQ xs ys=some k->∃ e:Nat->Bool,(∀ (j:Nat) x y,xs[j]?=some x->ys[j]?=some y->Du x y=some (e j))/\k=((List.range (min xs.length ys.length)).all e&&xs.length==ys.length)
 |[],[],k,h=>by simp only[mQ] at h;cases h;exact⟨λ_=>true,λj x y e=>by simp at e,by simp⟩
 |[],y::ys,k,h=>by simp only[mQ] at h;cases h;exact⟨λ_=>true,λj x y e=>by simp at e,by simp⟩
 |x::xs,[],k,h=>by simp only[mQ] at h;cases h;exact⟨λ_=>true,λj x y _ e=>by simp at e,by simp⟩
 |x::xs,y::ys,k,h=>by
  simp only[mQ] at h;cases h1:Du x y with
  |none=>rw[h1] at h;cases h
  |some b=>
   rw[h1] at h;simp only at h;cases h2:mQ xs ys with
   |none=>rw[h2] at h;cases h
   |some c=>
    rw[h2] at h;cases h;obtain⟨e,g,hc⟩:=u5 h2;refine⟨λj=>match j with|0=>b|j+1=>e j,λj u v eu ev=>?_,?_⟩
    ·cases j with
     |zero=>simp at eu ev;subst eu ev;exact h1
     |succ j=>exact g j u v (by simpa using eu) (by simpa using ev)
    ·have:min (x::xs).length (y::ys).length=min xs.length ys.length+1:=by simp only[Zp];omega
     rw[this,List.range_succ_eq_map,ka,List.all_map,hc];have hb:((x::xs).length==(y::ys).length)=(xs.length==ys.length):=by
      rw[Bool.eq_iff_iff];simp
     rw[hb,Bool.and_assoc];rfl
theorem u6:∀ {ds:List Dt} {j:Nat} {d:Dt},ds[j]?=some d->wA d<=u0 ds
 |[],_,_,e=>by simp at e
 |d::ds,0,_,e=>by simp at e;subst e;simp only[u0];exact Nat.le_max_left _ _
 |d::ds,j+1,_,e=>by
  simp only[u0];exact zI (u6 (ds:=ds) (j:=j) (by simpa using e)) (Nat.le_max_right _ _)
section
variable {X:Cx} {pins:List (Addr×Obj)} {σ:L2.St} {H:Hp} {s:Shared}
theorem Dw (I:L2.Inv X pins σ H s) {a:Addr} {vs:List V} (h:yG X.K H a vs):∃ ob,s.heap.get? a=some ob/\ob.cls=.type "tuple" := by
 obtain⟨its,_,⟨ob,e,c,_⟩,_⟩:=I.tuple h;exact⟨ob,e,c⟩
theorem Dy (I:L2.Inv X pins σ H s) {a:Addr} {vs:List V} (h:sX X.K H a vs):∃ ob,s.heap.get? a=some ob/\ob.cls=.type "list" := by
 obtain⟨its,_,⟨ob,n,e,c,_⟩,_⟩:=I.list h;exact⟨ob,e,c⟩
theorem tK (I:L2.Inv X pins σ H s) {a:Addr} {o:Obj} (h:H a=some (.yF o (.dK []))):∃ ob,s.heap.get? a=some ob/\ob.cls=.type "dict" := by
 obtain⟨e,_,_,vs,_,ob,es,ep,e2,ex,_⟩:=I.hok a _ h;exact⟨ob,e2,ex.1⟩
theorem Ah {a:Addr} {n m:String} (h:∃ ob,s.heap.get? a=some ob/\ob.cls=.type n) (q:∃ ob,s.heap.get? a=some ob/\ob.cls=.type m) (hn:n≠m):False:=by
 obtain⟨o,e,c⟩:=h;obtain⟨o',e',c'⟩:=q;rw[e] at e';cases e';rw[c] at c';exact hn (by injection c')
mutual
theorem Rep.inj (I:L2.Inv X pins σ H s):∀ {d e:Dt} {v:V},Rep X.K H d v->Rep X.K H e v->d=e
 |.non,e,v,h,q=>by
  simp only[Rep] at h;subst h;cases e<;>simp only[Rep] at q<;>first|rfl|(cases q;done)|(obtain⟨a,b,z,_⟩:=q;cases z;done)|(obtain⟨z,_⟩:=q;cases z;done)
 |.bl _,e,v,h,q=>by
  simp only[Rep] at h;subst h;cases e<;>simp only[Rep] at q<;>first|(cases q;rfl)|(cases q;done)|(obtain⟨a,b,z,_⟩:=q;cases z;done)|(obtain⟨z,_⟩:=q;cases z;done)
 |.int _,e,v,h,q=>by
  simp only[Rep] at h;subst h;cases e<;>simp only[Rep] at q<;>first|(cases q;rfl)|(cases q;done)|(obtain⟨a,b,z,_⟩:=q;cases z;done)|(obtain⟨z,_⟩:=q;cases z;done)
 |.str x,e,v,h,q=>by
  simp only[Rep] at h;have hv:v=.str x:=h.1;subst hv;cases e with
  |str y=>
   simp only[Rep] at q;have z:V.str x=V.str y:=q.1;injection z with z;rw[z]
  |tup es=>simp only[Rep] at q;obtain⟨a,b,z,_⟩:=q;cases z
  |lst es=>simp only[Rep] at q;obtain⟨a,b,z,_⟩:=q;cases z
  |emp=>simp only[Rep] at q;obtain⟨a,b,z,_⟩:=q;cases z
  |_=>simp only[Rep] at q;cases q
 |.tup ds,e,v,h,q=>by
  simp only[Rep] at h;obtain⟨a,vs,rfl,sq,r⟩:=h;cases e with
  |tup es=>
   simp only[Rep] at q;obtain⟨b,us,z,QM,r'⟩:=q;cases z;have:=I.IV sq QM;subst this;rw[aQ.inj I r r']
  |lst es=>
   simp only[Rep] at q;obtain⟨b,us,z,QM,r'⟩:=q;cases z;exact(Ah (Dw I sq) (Dy I QM.sq) (by decide)).elim
  |emp=>
   simp only[Rep] at q;obtain⟨b,o,z,QM⟩:=q;cases z;exact(Ah (Dw I sq) (tK I QM) (by decide)).elim
  |str x=>simp only[Rep] at q;have z:=q.1;cases z
  |_=>simp only[Rep] at q;cases q
 |.lst ds,e,v,h,q=>by
  simp only[Rep] at h;obtain⟨a,vs,rfl,sq,r⟩:=h;cases e with
  |lst es=>
   simp only[Rep] at q;obtain⟨b,us,z,QM,r'⟩:=q;cases z;have:=I.Ei sq.sq QM.sq;subst this;rw[aQ.inj I r r']
  |tup es=>
   simp only[Rep] at q;obtain⟨b,us,z,QM,r'⟩:=q;cases z;exact(Ah (Dy I sq.sq) (Dw I QM) (by decide)).elim
  |emp=>
   simp only[Rep] at q;obtain⟨b,o,z,QM⟩:=q;cases z;exact(Ah (Dy I sq.sq) (tK I QM) (by decide)).elim
  |str x=>simp only[Rep] at q;have z:=q.1;cases z
  |_=>simp only[Rep] at q;cases q
 |.emp,e,v,h,q=>by
  simp only[Rep] at h;obtain⟨a,o,rfl,sq⟩:=h;cases e with
  |emp=>rfl
  |tup es=>
   simp only[Rep] at q;obtain⟨b,us,z,QM,r'⟩:=q;cases z;exact(Ah (tK I sq) (Dw I QM) (by decide)).elim
  |lst es=>
   simp only[Rep] at q;obtain⟨b,us,z,QM,r'⟩:=q;cases z;exact(Ah (tK I sq) (Dy I QM.sq) (by decide)).elim
  |str x=>simp only[Rep] at q;have z:=q.1;cases z
  |_=>simp only[Rep] at q;cases q
theorem aQ.inj (I:L2.Inv X pins σ H s):∀ {ds es:List Dt} {vs:List V},aQ X.K H ds vs->aQ X.K H es vs->ds=es
 |[],es,vs,h,q=>by
  simp only[aQ] at h;subst h;cases es with
  |nil=>rfl
  |cons e es=>simp only[aQ] at q;obtain⟨_,_,z,_⟩:=q;cases z
 |d::ds,es,vs,h,q=>by
  simp only[aQ] at h;obtain⟨v,r,rfl,h1,h2⟩:=h;cases es with
  |nil=>simp only[aQ] at q;cases q
  |cons e es=>
   simp only[aQ] at q;obtain⟨v',r',z,q1,q2⟩:=q;cases z;rw[Rep.inj I h1 q1,aQ.inj I h2 q2]
end
theorem agF (I:L2.Inv X pins σ H s):∀ (n:Nat) {A:Around} {d e:Dt} {x y:V} {u v:Value} {k:Bool},min (wA d) (wA e)<=n->A.units+n < cLine->Rep X.K H d x->Rep X.K H e y->RelV x u->RelV y v->Du d e=some k->EqAt A s u v k:=by
 intro n
 induction n with
 |zero=>
  intro A d e x y u v k hn;have h1:1<=wA d:=by cases d<;>simp only[wA]<;>omega
  have h2:1<=wA e:=by cases e<;>simp only[wA]<;>omega
  omega
 |succ n ih=>
  intro A d e x y u v k hn hA rd re ru rv ek;have hu:A.units < cLine:=by omega
  by_cases hxy:u=v/\∃ a,u=.ref a
  ·obtain⟨rfl,a,rfl⟩:=hxy;have hx:x=.ref a:=by have:=ru.abs;simpa[adE] using this.symm
   have hy:y=.ref a:=by have:=rv.abs;simpa[adE] using this.symm
   subst hx hy;have:=Rep.inj I rd re;subst this;rw[M8 ek];exact EqAt.same _
  ·have items:∀ {ds es:List Dt} {vs us:List V} {its its2:List Value} {f:Nat->Bool},min (u0 ds) (u0 es)<=n->aQ X.K H ds vs->aQ X.K H es us->Vals vs its->Vals us its2->(∀ (j:Nat) x y,ds[j]?=some x->es[j]?=some y->Du x y=some (f j)) →
     ∀ j (h1:j < its.toArray.size) (h2:j < its2.toArray.size),EqAt A.in1 s its.toArray[j] its2.toArray[j] (f j):=by
    intro ds es vs us its its2 f hm r1 r2 w1 w2 hf j h1 h2;have l1:=w1.length;have l2:=w2.length;have l3:=r1.length;have l4:=r2.length;have j1:j < its.length:=by simpa using h1
    have j2:j < its2.length:=by simpa using h2
    have d1:ds[j]?=some ds[j]:=by simp
    have d2:es[j]?=some es[j]:=by simp
    obtain⟨a,ea,ra⟩:=r1.get d1;obtain⟨b,eb,rb⟩:=r2.get d2;obtain⟨p,ep,rp⟩:=w1.get ea;obtain⟨q,eq,rq⟩:=w2.get eb;have e1:its.toArray[j]=p:=by simpa[j1] using ep
    have e2:its2.toArray[j]=q:=by simpa[j2] using eq
    rw[e1,e2];have m1:=u6 d1;have m2:=u6 d2;exact ih (by omega) (by rw[units_in1];omega) ra rb rp rq (hf j _ _ d1 d2)
   cases d with
   |non=>
    cases rd;cases ru;cases e with
    |non=>cases re;cases rv;cases ek;exact EqAt.same _
    |bl b=>cases re;cases rv;cases ek;exact EqAt.none_bool b
    |int b=>cases re;obtain⟨t,rfl⟩:=rv;cases ek;exact EqAt.none_int b t
    |str b=>obtain⟨rfl,_⟩:=re;obtain⟨t,rfl⟩:=rv;cases ek;exact EqAt.none_str b t
    |tup es=>obtain⟨b,us,rfl,sq,_⟩:=re;cases rv;cases ek;obtain⟨_,_,p,_⟩:=I.tuple sq;exact EqAt.none_tuple p hu
    |lst es=>obtain⟨b,us,rfl,sq,_⟩:=re;cases rv;cases ek;obtain⟨_,_,p,_⟩:=I.list sq.sq;exact EqAt.none_list p.isList hu
    |emp=>cases ek
   |bl a=>
    cases rd;cases ru;cases e with
    |non=>cases re;cases rv;cases ek;exact EqAt.bool_none a
    |bl b=>cases re;cases rv;cases ek;exact EqAt.bool_bool a b
    |int b=>cases re;obtain⟨t,rfl⟩:=rv;cases ek;exact EqAt.bool_int a b t
    |str b=>obtain⟨rfl,_⟩:=re;obtain⟨t,rfl⟩:=rv;cases ek;exact EqAt.bool_str a b t
    |tup es=>obtain⟨b,us,rfl,sq,_⟩:=re;cases rv;cases ek;obtain⟨_,_,p,_⟩:=I.tuple sq;exact EqAt.bool_tuple a p hu
    |lst es=>obtain⟨b,us,rfl,sq,_⟩:=re;cases rv;cases ek;obtain⟨_,_,p,_⟩:=I.list sq.sq;exact EqAt.bool_list a p.isList hu
    |emp=>cases ek
   |int a=>
    cases rd;obtain⟨t',rfl⟩:=ru;cases e with
    |non=>cases re;cases rv;cases ek;exact EqAt.int_none a t'
    |bl b=>cases re;cases rv;cases ek;exact EqAt.int_bool a t' b
    |int b=>cases re;obtain⟨t,rfl⟩:=rv;cases ek;exact EqAt.int_int a t' b t
    |str b=>obtain⟨rfl,_⟩:=re;obtain⟨t,rfl⟩:=rv;cases ek;exact EqAt.int_str a t' b t
    |tup es=>obtain⟨b,us,rfl,sq,_⟩:=re;cases rv;cases ek;obtain⟨_,_,p,_⟩:=I.tuple sq;exact EqAt.int_tuple a t' p hu
    |lst es=>obtain⟨b,us,rfl,sq,_⟩:=re;cases rv;cases ek;obtain⟨_,_,p,_⟩:=I.list sq.sq;exact EqAt.int_list a t' p.isList hu
    |emp=>cases ek
   |str a=>
    obtain⟨rfl,_⟩:=rd;obtain⟨t',rfl⟩:=ru;cases e with
    |non=>cases re;cases rv;cases ek;exact EqAt.str_none a t'
    |bl b=>cases re;cases rv;cases ek;exact EqAt.str_bool a t' b
    |int b=>cases re;obtain⟨t,rfl⟩:=rv;cases ek;exact EqAt.str_int a t' b t
    |str b=>obtain⟨rfl,_⟩:=re;obtain⟨t,rfl⟩:=rv;cases ek;exact EqAt.str_str a t' b t
    |tup es=>obtain⟨b,us,rfl,sq,_⟩:=re;cases rv;cases ek;obtain⟨_,_,p,_⟩:=I.tuple sq;exact EqAt.str_tuple a t' p hu
    |lst es=>obtain⟨b,us,rfl,sq,_⟩:=re;cases rv;cases ek;obtain⟨_,_,p,_⟩:=I.list sq.sq;exact EqAt.str_list a t' p.isList hu
    |emp=>
     simp only[Rep] at re;obtain⟨p,o,rfl,e⟩:=re;cases rv;cases ek;obtain⟨_,_,vs,r,q⟩:=xg I.hok (.inr ⟨o,e⟩);exact U9 a t' (yP rfl r q) hu
   |tup ds=>
    obtain⟨a,vs,rfl,sa,ra⟩:=rd;cases ru;obtain⟨its,wv,p,_⟩:=I.tuple sa;cases e with
    |non=>cases re;cases rv;cases ek;exact EqAt.tuple_none p hu
    |bl b=>cases re;cases rv;cases ek;exact EqAt.tuple_bool b p hu
    |int b=>cases re;obtain⟨t,rfl⟩:=rv;cases ek;exact EqAt.tuple_int b t p hu
    |str b=>obtain⟨rfl,_⟩:=re;obtain⟨t,rfl⟩:=rv;cases ek;exact EqAt.tuple_str b t p hu
    |lst es=>obtain⟨b,us,rfl,sq,_⟩:=re;cases rv;cases ek;obtain⟨_,_,p2,_⟩:=I.list sq.sq;exact EqAt.tuple_list p p2.isList hu
    |tup es=>
     obtain⟨b,us,rfl,sb,rb⟩:=re;cases rv;obtain⟨its2,wu,p2,_⟩:=I.tuple sb;change mQ _ _=some _ at ek;obtain⟨f,hf,rfl⟩:=u5 ek;have hne:a≠b:=λz=>hxy ⟨by rw[z],a,rfl⟩;have z:=EqAt.of_refs hne (RcAt.tuples (A:=A) (e:=f) p p2 hu (items (by simp only[wA] at hn;omega) ra rb wv wu hf));have q1:its.toArray.size=ds.length:=by rw[zS,<-wv.length,ra.length]
     have q2:its2.toArray.size=es.length:=by rw[zS,<-wu.length,rb.length]
     rw[q1,q2] at z;exact z
    |emp=>cases ek
   |lst ds=>
    obtain⟨a,vs,rfl,sa,ra⟩:=rd;cases ru;obtain⟨its,wv,p,_⟩:=I.list sa.sq;cases e with
    |non=>cases re;cases rv;cases ek;exact EqAt.list_none p.isList hu
    |bl b=>cases re;cases rv;cases ek;exact EqAt.list_bool b p.isList hu
    |int b=>cases re;obtain⟨t,rfl⟩:=rv;cases ek;exact EqAt.list_int b t p.isList hu
    |str b=>obtain⟨rfl,_⟩:=re;obtain⟨t,rfl⟩:=rv;cases ek;exact EqAt.list_str b t p.isList hu
    |tup es=>obtain⟨b,us,rfl,sq,_⟩:=re;cases rv;cases ek;obtain⟨_,_,p2,_⟩:=I.tuple sq;exact EqAt.list_tuple p.isList p2 hu
    |lst es=>
     obtain⟨b,us,rfl,sb,rb⟩:=re;cases rv;obtain⟨its2,wu,p2,_⟩:=I.list sb.sq;change mQ _ _=some _ at ek;obtain⟨f,hf,rfl⟩:=u5 ek;have hne:a≠b:=λz=>hxy ⟨by rw[z],a,rfl⟩;have q1:its.toArray.size=ds.length:=by rw[zS,<-wv.length,ra.length]
     have q2:its2.toArray.size=es.length:=by rw[zS,<-wu.length,rb.length]
     by_cases hsz:its.toArray.size=its2.toArray.size
     ·have z:=EqAt.of_refs hne (RcAt.lists (A:=A) (e:=f) p.isList p2.isList hsz hu (items (by simp only[wA] at hn;omega) ra rb wv wu hf));have hl:ds.length=es.length:=by omega
      rw[q1] at z;rw[hl,Nat.min_self,beq_self_eq_true,Kk,<-hl];exact z
     ·have hl:(ds.length==es.length)=false:=by rw[beq_eq_false_iff_ne];omega
      rw[hl,Bool.and_false];exact EqAt.of_refs hne (RcAt.lists_lengths p.isList p2.isList (by simpa using hsz) hu)
    |emp=>cases ek
   |emp=>
    cases e<;>first|(cases ek;done)|skip;simp only[Rep] at rd re;obtain⟨a,o,rfl,e1⟩:=rd;obtain⟨b,o',rfl,e2⟩:=re;cases ru;cases rv;cases ek;obtain⟨_,m1,vs,r,q⟩:=xg I.hok (.inr ⟨o,e1⟩);obtain⟨_,m2,vs',r',q'⟩:=xg I.hok (.inr ⟨o',e2⟩);exact EqAt.of_refs (λz=>hxy ⟨by rw[z],a,rfl⟩) (acY m1 m2 (yP rfl r q) (yP rfl r' q') hu)
theorem M9 (I:L2.Inv X pins σ H s) {n:Nat} {A:Around} {ds es:List Dt} {vs us:List V} {its its2:List Value} {f:Nat->Bool} (hm:min (u0 ds) (u0 es)<=n) (hA:A.units+n+1 < cLine) (r1:aQ X.K H ds vs) (r2:aQ X.K H es us) (w1:Vals vs its) (w2:Vals us its2)
  (hf:∀ (j:Nat) x y,ds[j]?=some x->es[j]?=some y->Du x y=some (f j)):∀ j (h1:j < its.toArray.size) (h2:j < its2.toArray.size),EqAt A.in1 s its.toArray[j] its2.toArray[j] (f j):=by
 intro j h1 h2;have l1:=w1.length;have l2:=w2.length;have l3:=r1.length;have l4:=r2.length;have j1:j < its.length:=by simpa using h1
 have j2:j < its2.length:=by simpa using h2
 have d1:ds[j]?=some (ds[j]'(by omega)):=by simp
 have d2:es[j]?=some (es[j]'(by omega)):=by simp
 obtain⟨a,ea,ra⟩:=r1.get d1;obtain⟨b,eb,rb⟩:=r2.get d2;obtain⟨p,ep,rp⟩:=w1.get ea;obtain⟨q,eq,rq⟩:=w2.get eb;have e1:its.toArray[j]=p:=by simpa[j1] using ep
 have e2:its2.toArray[j]=q:=by simpa[j2] using eq
 rw[e1,e2];have m1:=u6 d1;have m2:=u6 d2;exact agF I n (by omega) (by rw[units_in1];omega) ra rb rp rq (hf j _ _ d1 d2)
end
def lG (K:FG_) (H:Hp):Dt->V->Prop
 |.lst ds,v=>∃ a vs,v=.ref a/\sX K H a vs/\aQ K H ds vs
 |d,v=>Rep K H d v
def oW:Bx->Bool
 |.n _=>true
 |.m _ _=>true
 |_=>false
def toD:Bx->Dt
 |.z d=>d
 |.l ds=>.lst ds
 |.o ds=>.lst ds
 |.n _=>.non
 |.m _ _=>.non
theorem bA.toD {K:FG_} {H:Hp} {b:Bx} {v:V} (h:bA K H b v) (hm:oW b=false):lG K H (toD b) v:=by
 cases b with
 |z d=>
  cases d with
  |lst ds=>exact h.Jf rfl
  |_=>exact h
 |l ds=>exact h.Jf rfl
 |o ds=>exact h.Jf rfl
 |n _=>cases hm
 |m _ _=>cases hm
section
variable {X:Cx} {pins:List (Addr×Obj)} {σ:L2.St} {H:Hp} {s:Shared}
theorem Sx (I:L2.Inv X pins σ H s) {d e:Dt} {x y:V} {u v:Value} {k:Bool} (hm:min (wA d) (wA e)<=100) (hA:X.A.units+100 < cLine) (rd:lG X.K H d x) (re:lG X.K H e y) (ru:RelV x u) (rv:RelV y v) (ek:Du d e=some k):RcAt X.A s u v k/\RcNeAt X.A s u v (!k):=by
 have hu:X.A.units < cLine:=by omega
 cases d with
 |non=>
  cases rd;cases ru;cases e with
  |non=>
   cases re;cases rv;cases ek;exact⟨.none_none,.none_none⟩
  |bl x2=>
   cases re;cases rv;cases ek;exact⟨.none_bool x2,.none_bool x2⟩
  |int x2=>
   cases re;obtain⟨t2,rfl⟩:=rv;cases ek;exact⟨.none_int x2 t2,.none_int x2 t2⟩
  |str x2=>
   obtain⟨rfl,_⟩:=re;obtain⟨t2,rfl⟩:=rv;cases ek;exact⟨.none_str x2 t2,.none_str x2 t2⟩
  |tup x2=>
   obtain⟨a2,vs2,rfl,Fd,QS⟩:=re;cases rv;obtain⟨its2,w2,p2,_⟩:=I.tuple Fd;cases ek;exact⟨.none_tuple p2 hu,.none_tuple p2 hu⟩
  |lst x2=>
   obtain⟨a2,vs2,rfl,Fd,QS⟩:=re;cases rv;obtain⟨its2,w2,p2,_⟩:=I.list Fd;cases ek;exact⟨.none_list p2.isList hu,.none_list p2.isList hu⟩
  |emp=>cases ek
 |bl x1=>
  cases rd;cases ru;cases e with
  |non=>
   cases re;cases rv;cases ek;exact⟨.bool_none x1,.bool_none x1⟩
  |bl x2=>
   cases re;cases rv;cases ek;exact⟨.bool_bool x1 x2,.bool_bool x1 x2⟩
  |int x2=>
   cases re;obtain⟨t2,rfl⟩:=rv;cases ek;exact⟨.bool_int x1 x2 t2,.bool_int x1 x2 t2⟩
  |str x2=>
   obtain⟨rfl,_⟩:=re;obtain⟨t2,rfl⟩:=rv;cases ek;exact⟨.bool_str x1 x2 t2,.bool_str x1 x2 t2⟩
  |tup x2=>
   obtain⟨a2,vs2,rfl,Fd,QS⟩:=re;cases rv;obtain⟨its2,w2,p2,_⟩:=I.tuple Fd;cases ek;exact⟨.bool_tuple x1 p2 hu,.bool_tuple x1 p2 hu⟩
  |lst x2=>
   obtain⟨a2,vs2,rfl,Fd,QS⟩:=re;cases rv;obtain⟨its2,w2,p2,_⟩:=I.list Fd;cases ek;exact⟨.bool_list x1 p2.isList hu,.bool_list x1 p2.isList hu⟩
  |emp=>cases ek
 |int x1=>
  cases rd;obtain⟨t1,rfl⟩:=ru;cases e with
  |non=>
   cases re;cases rv;cases ek;exact⟨.int_none x1 t1,.int_none x1 t1⟩
  |bl x2=>
   cases re;cases rv;cases ek;exact⟨.int_bool x1 t1 x2,.int_bool x1 t1 x2⟩
  |int x2=>
   cases re;obtain⟨t2,rfl⟩:=rv;cases ek;exact⟨.int_int x1 t1 x2 t2,.int_int x1 t1 x2 t2⟩
  |str x2=>
   obtain⟨rfl,_⟩:=re;obtain⟨t2,rfl⟩:=rv;cases ek;exact⟨.int_str x1 t1 x2 t2,.int_str x1 t1 x2 t2⟩
  |tup x2=>
   obtain⟨a2,vs2,rfl,Fd,QS⟩:=re;cases rv;obtain⟨its2,w2,p2,_⟩:=I.tuple Fd;cases ek;exact⟨.int_tuple x1 t1 p2 hu,.int_tuple x1 t1 p2 hu⟩
  |lst x2=>
   obtain⟨a2,vs2,rfl,Fd,QS⟩:=re;cases rv;obtain⟨its2,w2,p2,_⟩:=I.list Fd;cases ek;exact⟨.int_list x1 t1 p2.isList hu,.int_list x1 t1 p2.isList hu⟩
  |emp=>cases ek
 |str x1=>
  obtain⟨rfl,_⟩:=rd;obtain⟨t1,rfl⟩:=ru;cases e with
  |non=>
   cases re;cases rv;cases ek;exact⟨.str_none x1 t1,.str_none x1 t1⟩
  |bl x2=>
   cases re;cases rv;cases ek;exact⟨.str_bool x1 t1 x2,.str_bool x1 t1 x2⟩
  |int x2=>
   cases re;obtain⟨t2,rfl⟩:=rv;cases ek;exact⟨.str_int x1 t1 x2 t2,.str_int x1 t1 x2 t2⟩
  |str x2=>
   obtain⟨rfl,_⟩:=re;obtain⟨t2,rfl⟩:=rv;cases ek;exact⟨.str_str x1 t1 x2 t2,.str_str x1 t1 x2 t2⟩
  |tup x2=>
   obtain⟨a2,vs2,rfl,Fd,QS⟩:=re;cases rv;obtain⟨its2,w2,p2,_⟩:=I.tuple Fd;cases ek;exact⟨.str_tuple x1 t1 p2 hu,.str_tuple x1 t1 p2 hu⟩
  |lst x2=>
   obtain⟨a2,vs2,rfl,Fd,QS⟩:=re;cases rv;obtain⟨its2,w2,p2,_⟩:=I.list Fd;cases ek;exact⟨.str_list x1 t1 p2.isList hu,.str_list x1 t1 p2.isList hu⟩
  |emp=>
   simp only[lG,Rep] at re;obtain⟨p,o,rfl,e⟩:=re;cases rv;cases ek;obtain⟨_,_,vs,r,q⟩:=xg I.hok (.inr ⟨o,e⟩);exact⟨Jj x1 t1 (yP rfl r q) hu,U8 x1 t1 (yP rfl r q) hu⟩
 |tup x1=>
  obtain⟨a1,vs1,rfl,sq1,rr1⟩:=rd;cases ru;obtain⟨aa4,w1,p1,_⟩:=I.tuple sq1;cases e with
  |non=>
   cases re;cases rv;cases ek;exact⟨.tuple_none p1 hu,.tuple_none p1 hu⟩
  |bl x2=>
   cases re;cases rv;cases ek;exact⟨.tuple_bool x2 p1 hu,.tuple_bool x2 p1 hu⟩
  |int x2=>
   cases re;obtain⟨t2,rfl⟩:=rv;cases ek;exact⟨.tuple_int x2 t2 p1 hu,.tuple_int x2 t2 p1 hu⟩
  |str x2=>
   obtain⟨rfl,_⟩:=re;obtain⟨t2,rfl⟩:=rv;cases ek;exact⟨.tuple_str x2 t2 p1 hu,.tuple_str x2 t2 p1 hu⟩
  |tup x2=>
   obtain⟨a2,vs2,rfl,Fd,QS⟩:=re;cases rv;obtain⟨its2,w2,p2,_⟩:=I.tuple Fd;change mQ _ _=some _ at ek;obtain⟨f,hf,rfl⟩:=u5 ek;have q1:aa4.toArray.size=x1.length:=by rw[zS,<-w1.length,rr1.length]
   have q2:its2.toArray.size=x2.length:=by rw[zS,<-w2.length,QS.length]
   have it:=M9 I (n:=99) (A:=X.A) (by simp only[wA] at hm;omega) (by omega) rr1 QS w1 w2 hf;rw[<-q1,<-q2];exact⟨.tuples p1 p2 hu it,.tuples p1 p2 hu it⟩
  |lst x2=>
   obtain⟨a2,vs2,rfl,Fd,QS⟩:=re;cases rv;obtain⟨its2,w2,p2,_⟩:=I.list Fd;cases ek;exact⟨.tuple_list p1 p2.isList hu,.tuple_list p1 p2.isList hu⟩
  |emp=>cases ek
 |lst x1=>
  obtain⟨a1,vs1,rfl,sq1,rr1⟩:=rd;cases ru;obtain⟨aa4,w1,p1,_⟩:=I.list sq1;cases e with
  |non=>
   cases re;cases rv;cases ek;exact⟨.list_none p1.isList hu,.list_none p1.isList hu⟩
  |bl x2=>
   cases re;cases rv;cases ek;exact⟨.list_bool x2 p1.isList hu,.list_bool x2 p1.isList hu⟩
  |int x2=>
   cases re;obtain⟨t2,rfl⟩:=rv;cases ek;exact⟨.list_int x2 t2 p1.isList hu,.list_int x2 t2 p1.isList hu⟩
  |str x2=>
   obtain⟨rfl,_⟩:=re;obtain⟨t2,rfl⟩:=rv;cases ek;exact⟨.list_str x2 t2 p1.isList hu,.list_str x2 t2 p1.isList hu⟩
  |tup x2=>
   obtain⟨a2,vs2,rfl,Fd,QS⟩:=re;cases rv;obtain⟨its2,w2,p2,_⟩:=I.tuple Fd;cases ek;exact⟨.list_tuple p1.isList p2 hu,.list_tuple p1.isList p2 hu⟩
  |lst x2=>
   obtain⟨a2,vs2,rfl,Fd,QS⟩:=re;cases rv;obtain⟨its2,w2,p2,_⟩:=I.list Fd;change mQ _ _=some _ at ek;obtain⟨f,hf,rfl⟩:=u5 ek;have q1:aa4.toArray.size=x1.length:=by rw[zS,<-w1.length,rr1.length]
   have q2:its2.toArray.size=x2.length:=by rw[zS,<-w2.length,QS.length]
   have it:=M9 I (n:=99) (A:=X.A) (by simp only[wA] at hm;omega) (by omega) rr1 QS w1 w2 hf;by_cases hsz:aa4.toArray.size=its2.toArray.size
   ·have hl:x1.length=x2.length:=by omega
    rw[hl,Nat.min_self,beq_self_eq_true,Kk,<-hl,<-q1];exact⟨.lists p1.isList p2.isList hsz hu it,.lists p1.isList p2.isList hsz hu it⟩
   ·have hl:(x1.length==x2.length)=false:=by rw[beq_eq_false_iff_ne];omega
    rw[hl,Bool.and_false];exact⟨.lists_lengths p1.isList p2.isList (by simpa using hsz) hu,.lists_lengths p1.isList p2.isList (by simpa using hsz) hu⟩
  |emp=>cases ek
 |emp=>
  cases e<;>first|(cases ek;done)|skip;simp only[lG,Rep] at rd re;obtain⟨a,o,rfl,e1⟩:=rd;obtain⟨b,o',rfl,e2⟩:=re;cases ru;cases rv;cases ek;obtain⟨_,m1,vs,r,q⟩:=xg I.hok (.inr ⟨o,e1⟩);obtain⟨_,m2,vs',r',q'⟩:=xg I.hok (.inr ⟨o',e2⟩);exact⟨acY m1 m2 (yP rfl r q) (yP rfl r' q') hu,agE m1 m2 (yP rfl r q) (yP rfl r' q') hu⟩
def eqB (a b:Bx):Option Bx:=if oW a=true\/oW b=true then none else if min (wA (toD a)) (wA (toD b))<=100 then(Du (toD a) (toD b)).bind λk=>some (.z (.bl k)) else none
def Sy (a b:Bx):Option Bx:=if oW a=true\/oW b=true then none else if min (wA (toD a)) (wA (toD b))<=100 then(Du (toD a) (toD b)).bind λk=>some (.z (.bl (!k))) else none
theorem of_eq (hu:X.A.units+100 < cLine):HX X (compareOp .Eq) eqB:=by
 intro pins s σ H x y v u Q I rx ry h;obtain⟨a,b,c,ra,rb,e,q⟩:=h;unfold eqB at e;split at e
 ·cases e
 rename_i hz;have ha:oW a=false:=by cases h:oW a with|false=>rfl|true=>exact absurd (.inl h) hz
 have hb:oW b=false:=by cases h:oW b with|false=>rfl|true=>exact absurd (.inr h) hz
 split at e
 ·rename_i hm;obtain⟨k,ek,e⟩:=bind_some e;cases e;exact(Sx I hm hu (ra.toD ha) (rb.toD hb) rx ry ek).1 X.prog X.w X.xe _ ⟨.bl k,H,I,rfl,q _ H (Same.refl H) trivial (by unfold bA Rep;rfl)⟩
 ·cases e
theorem Fg (hu:X.A.units+100 < cLine):HX X (compareOp .NotEq) Sy:=by
 intro pins s σ H x y v u Q I rx ry h;obtain⟨a,b,c,ra,rb,e,q⟩:=h;unfold Sy at e;split at e
 ·cases e
 rename_i hz;have ha:oW a=false:=by cases h:oW a with|false=>rfl|true=>exact absurd (.inl h) hz
 have hb:oW b=false:=by cases h:oW b with|false=>rfl|true=>exact absurd (.inr h) hz
 split at e
 ·rename_i hm;obtain⟨k,ek,e⟩:=bind_some e;cases e;exact(Sx I hm hu (ra.toD ha) (rb.toD hb) rx ry ek).2 X.prog X.w X.xe _ ⟨.bl (!k),H,I,rfl,q _ H (Same.refl H) trivial (by unfold bA Rep;rfl)⟩
 ·cases e
theorem Ci {K:FG_} {H:Hp} {i:Int}:bA K H (.z (.int i)) (.int i):=by unfold bA Rep;rfl
theorem Va {K:FG_} {H:Hp} {b:Bool}:bA K H (.z (.bl b)) (.bl b):=by unfold bA Rep;rfl
theorem aa5 {K:FG_} {H:Hp} {x:Str} (h:x.length<=sizeLine):bA K H (.z (.str x)) (.str x):=by unfold bA Rep;exact⟨rfl,h⟩
theorem LQ {K:FG_} {H:Hp} {i:Int} {v:V} (h:bA K H (.z (.int i)) v):v=.int i:=by simpa only[bA,Rep] using h
theorem HF {K:FG_} {H:Hp} {x:Str} {v:V} (h:bA K H (.z (.str x)) v):v=.str x/\x.length<=sizeLine:=by simpa only[bA,Rep] using h
theorem inT {K:FG_} {H:Hp} {ds:List Dt} {v:V} (h:bA K H (.z (.tup ds)) v):∃ a vs,v=.ref a/\yG K H a vs/\aQ K H ds vs:=by simpa only[bA,Rep] using h
def i2 (g:Int->Int->Option Dt):Bx->Bx->Option Bx
 |.z (.int i),.z (.int j)=>(g i j).bind λd=>some (.z d)
 |_,_=>none
theorem Fi {f:Value->Value->Sem Value} {r:R2} {g:Int->Int->Option Dt} (ho:uP X f r) (h:∀ i j d H Q,g i j=some d->(∀ v,Rep X.K H d v->Q v H)->r (.int i) (.int j) H Q):HX X f (i2 g):=uP.imp ho λx y H Q q=>by
 obtain⟨a,b,c,ra,rb,e,q⟩:=q;unfold i2 at e;split at e
 ·rename_i i j;obtain⟨d,ed,e⟩:=bind_some e;cases e;rw[LQ ra,LQ rb];exact h i j d H Q ed λv rv=>q v H (Same.refl H) trivial rv
 ·cases e
theorem okI {K:FG_} {H:Hp} {i:Int}:Rep K H (.int i) (.int i):=by unfold Rep;rfl
theorem okT {K:FG_} {H:Hp} {b:Bool}:Rep K H (.bl b) (.bl b):=by unfold Rep;rfl
abbrev subB:=i2 λi j=>some (.int (i - j))
abbrev leB:=i2 λi j=>some (.bl (decide (i<=j)))
abbrev gtB:=i2 λi j=>some (.bl (decide (j < i)))
abbrev geB:=i2 λi j=>some (.bl (decide (j<=i)))
abbrev uz:=i2 λi j=>if 0 < j/\j < 1073741824 then some (.int (i / j)) else none
abbrev iu:=i2 λi j=>if 0 < j then some (.int (i % j)) else none
abbrev aem:=i2 λi j=>if 0<=j/\j<=1000/\i.natAbs < 2 ^ 64 then some (.int (i ^ j.toNat)) else none
theorem aen:HX X (binaryOp .Sub) subB:=Fi adM λi j d H Q e q=>by cases e;exact⟨i,j,rfl,rfl,q _ okI⟩
theorem of_le:HX X (compareOp .LtE) leB:=Fi af4 λi j d H Q e q=>by cases e;exact⟨i,j,rfl,rfl,q _ okT⟩
theorem acZ:HX X (compareOp .Gt) gtB:=Fi af5 λi j d H Q e q=>by cases e;exact⟨i,j,rfl,rfl,q _ okT⟩
theorem agI:HX X (compareOp .GtE) geB:=Fi af6 λi j d H Q e q=>by cases e;exact⟨i,j,rfl,rfl,q _ okT⟩
theorem oX:HX X (binaryOp .FloorDiv) uz:=Fi aaw λi j d H Q e q=>by
 split at e
 ·rename_i h;cases e;exact⟨i,j,rfl,rfl,h,q _ okI⟩
 ·cases e
theorem cH:HX X (binaryOp .Mod) iu:=Fi adO λi j d H Q e q=>by
 split at e
 ·rename_i h;cases e;exact⟨i,j,rfl,rfl,h,q _ okI⟩
 ·cases e
theorem aeo:HX X (binaryOp .Pow) aem:=Fi adP λi j d H Q e q=>by
 split at e
 ·rename_i h;cases e;exact⟨i,j,rfl,rfl,⟨h.1,by omega,h.2.2⟩,q _ okI⟩
 ·cases e
def Xx:Bx->Option Bx
 |.z (.int i)=>some (.z (.int (-i)))
 |_=>none
theorem aep:UnF X (unaryOp .USub) Xx:=UnR.imp adQ λx H Q q=>by
 obtain⟨a,c,ra,e,q⟩:=q;unfold Xx at e;split at e
 ·rename_i i;cases e;exact⟨i,LQ ra,q _ H (Same.refl H) trivial Ci⟩
 ·cases e
def Vb:Nat:=1000000
theorem aa6:Vb<=sizeLine:=by decide
theorem aer {l b:Addr} {vs us:List V} {Q:VK} (I:L2.Inv X pins σ H s) (hl:sX X.K H l vs) (hb:sX X.K H b us) (hz:vs.length+us.length<=sizeLine) (q:∀ p,H p=none->Q (.ref p) (upd H p (.lst (vs++us)))) :
  wpAny (model X.prog X.w) X.A (binaryOp .Add (.ref l) (.ref b)) (EP X pins σ Q) X.xe s:=by
 obtain⟨its,r1,⟨⟨cls,dd,data,sl⟩,n1,e1,c1,d1,dd1⟩,z1⟩:=I.list hl;obtain⟨its2,r2,⟨⟨cls2,dd2,data2,sl2⟩,n2,e2,c2,d2,Xy⟩,z2⟩:=I.list hb;simp only at c1 d1 dd1 c2 d2 Xy;subst c1 d1 dd1 c2 d2 Xy;have l1:=r1.length;have l2:=r2.length;have e:its.toArray++its2.toArray=(its++its2).toArray:=by simp
 refine concat_meets ⟨_,e1,rfl⟩ ⟨_,e2,rfl⟩ noFill_list_add seq_list_add PySem.F.slot_list_add PySem.F.entry_list_add (PySem.F.args_list_add_2 _ _) (list_addW l b its.toArray its2.toArray n1 n2 none none sl sl2 (by rw[zS,zS];omega)) ⟨e1,e2,?_⟩;rw[e];exact⟨.ref s.heap.objs.size,_,I.laid (t':=s.toks) (o:=.lst (vs++us)) (λb ob q=>zd _ q) (zi _) ⟨by rw[zt];exact hz,_,0,r1.append r2,zl _ rfl⟩,rfl,q _ (I.hok.fresh (zi _))⟩
theorem aes {l b:Addr} {vs us:List V} {Q:VK} (I:L2.Inv X pins σ H s) (hl:yG X.K H l vs) (hb:yG X.K H b us) (hz:vs.length+us.length<=sizeLine) (q0:vs=[]->Q (.ref b) H) (q1:us=[]->Q (.ref l) H) (q2:∀ p,H p=none->Q (.ref p) (upd H p (.tup (vs++us)))) :
  wpAny (model X.prog X.w) X.A (binaryOp .Add (.ref l) (.ref b)) (EP X pins σ Q) X.xe s:=by
 by_cases hv:vs=[]
 ·obtain⟨its,r1,⟨⟨cls,dd,data,sl⟩,e1,c1,n1,dd1⟩,z1⟩:=I.tuple hl;obtain⟨its2,r2,⟨⟨cls2,dd2,data2,sl2⟩,e2,c2,n2,Xy⟩,z2⟩:=I.tuple hb;simp only at c1 dd1 c2 Xy;subst c1 dd1 c2 Xy;have:its=[]:=r1.Dm.mpr hv;exact concat_meets ⟨_,e1,rfl⟩ ⟨_,e2,rfl⟩ noFill_tuple_add seq_tuple_add PySem.F.slot_tuple_add yi (ya _ _)
   (tuple_addW0 l b its.toArray its2.toArray n1 n2 dd dd2 sl sl2 (by simp[this])) ⟨e1,e2,⟨.ref b,H,I,rfl,q0 hv⟩⟩
 ·exact aaE pins s σ H (.ref l) (.ref b) (.ref l) (.ref b) Q I rfl rfl ⟨l,b,vs,us,rfl,rfl,hl,hb,hv,hz,q1,λ_=>q2⟩
def cu:Bx->Bx->Option Bx
 |.z (.int i),.z (.int j)=>some (.z (.int (i+j)))
 |.z (.str i),.z (.str j)=>if i.length+j.length<=Vb then some (.z (.str (i++j))) else none
 |.z (.tup xs),.z (.tup ys)=>if xs.length+ys.length<=Vb then some (.z (.tup (xs++ys))) else none
 |a,b=>(rC a).bind λxs=>(rC b).bind λys=>if xs.length+ys.length<=Vb then some (.o (xs++ys)) else none
theorem str_len (i j:Str):(i++j).length=i.length+j.length:=by
 show(i.cps++j.cps).size=_;rw[K2];rfl
theorem bh:HX X (binaryOp .Add) cu:=by
 intro pins s σ H x y v u Q I rx ry h;obtain⟨a,b,c,ra,rb,e,q⟩:=h;have hbig:=aa6;unfold cu at e;split at e
 ·rename_i i j;cases e;exact adL pins s σ H x y v u Q I rx ry ⟨i,j,LQ ra,LQ rb,q _ H (Same.refl H) trivial Ci⟩
 ·rename_i i j;split at e
  ·rename_i hl;cases e;exact Qt pins s σ H x y v u Q I rx ry ⟨i,j,(HF ra).1,(HF rb).1,by omega,q _ H (Same.refl H) trivial (aa5 (by rw[str_len];omega))⟩
  ·cases e
 ·rename_i xs ys;split at e
  ·rename_i hl;cases e;obtain⟨l,vs,rfl,sl,rl⟩:=inT ra;obtain⟨m,us,rfl,sm,rm⟩:=inT rb;cases rx;cases ry;have h1:=rl.length;have h2:=rm.length;refine aes I sl sm (by omega) (λz=>q _ H (Same.refl H) trivial ?_) (λz=>q _ H (Same.refl H) trivial ?_) λp hp=>q _ _ (bI hp) trivial ?_
   ·unfold bA Rep;refine⟨m,us,rfl,sm,?_⟩;have:xs=[]:=by subst z;exact List.eq_nil_of_length_eq_zero (by simpa using h1.symm)
    rw[this,QY];exact rm
   ·unfold bA Rep;refine⟨l,vs,rfl,sl,?_⟩;have:ys=[]:=by subst z;exact List.eq_nil_of_length_eq_zero (by simpa using h2.symm)
    rw[this,qA];exact rl
   ·unfold bA Rep;exact⟨p,_,rfl,.inl (.inl aV),(rl.append rm).kp (.of (bI hp))⟩
  ·cases e
 ·obtain⟨xs,ea,e⟩:=bind_some e;obtain⟨ys,eb,e⟩:=bind_some e;split at e
  ·rename_i hl;cases e;obtain⟨l,vs,rfl,sl,rl⟩:=ra.Jf ea;obtain⟨m,us,rfl,sm,rm⟩:=rb.Jf eb;cases rx;cases ry;have h1:=rl.length;have h2:=rm.length;refine aer I sl sm (by omega) λp hp=>q _ _ (bI hp) (λa ea=>by cases ea;exact hp) ⟨p,_,rfl,aV,(rl.append rm).kp (.of (bI hp))⟩
  ·cases e
def nP:Bx->Bx->Option Bx
 |.z (.int i),.z (.int j)=>if(-(2 ^ 64) < i/\i < 2 ^ 64)\/(-(2 ^ 64) < j/\j < 2 ^ 64) then some (.z (.int (i * j))) else none
 |.z (.str x),.z (.int n)=>if n<=1000 ∧ -1000<=n/\x.length<=1000 then some (.z (.str (Txt.mul x n))) else none
 |_,_=>none
theorem xG (x:Array Nat):∀ (n:Nat) (acc:Array Nat),((List.replicate n x).foldl (·++·) acc).size=acc.size+n * x.size
 |0,acc=>by simp
 |n+1,acc=>by
  rw[qa,kF,xG x n,K2,Nat.succ_mul];omega
theorem Ke (x:Str) (n:Int):(Txt.mul x n).length<=n.toNat * x.length+x.length:=by
 unfold Txt.mul;split
 ·exact qi _
 ·split
  ·exact Nat.le_add_left _ _
  ·show((List.replicate n.toNat x.cps).foldl (·++·) #[]).size<=_;rw[xG];show(#[]:Array Nat).size+n.toNat * x.cps.size<=n.toNat * x.cps.size+x.cps.size;simp
theorem gM:HX X (binaryOp .Mult) nP:=by
 intro pins s σ H x y v u Q I rx ry h;obtain⟨a,b,c,ra,rb,e,q⟩:=h;unfold nP at e;split at e
 ·rename_i i j;split at e
  ·rename_i hl;cases e;exact adN pins s σ H x y v u Q I rx ry ⟨i,j,LQ ra,LQ rb,hl,q _ H (Same.refl H) trivial Ci⟩
  ·cases e
 ·rename_i x' n;split at e
  ·rename_i hl;cases e;obtain⟨rfl,hx⟩:=HF ra;have hy:=LQ rb;subst hy;obtain⟨t,rfl⟩:=rx;obtain⟨t',rfl⟩:=ry;have hs:sizeLine=16777216:=sizeLine_eq;have hm:n.toNat * x'.length<=1000 * 1000:=Nat.mul_le_mul (by omega) hl.2.2;refine SB.mul ⟨?_,λh1 h2=>?_,λh1 h2=>?_⟩ λt' k=>⟨.str _,H,I.tok _,⟨_,rfl⟩,q _ H (Same.refl H) trivial (aa5 (zI (Ke x' n) (by omega)))⟩
   ·have e1:decide (n < -(2 ^ 63:Int))=false:=ZA (by omega);have e2:decide (n>=2 ^ 63)=false:=ZA (by omega);rw[e1,e2];rfl
   ·have hn:0 < n:=by omega
    have:(1000:Int)<=(2 ^ 63 - 1) / n:=(Int.le_ediv_iff_mul_le hn).mpr (by omega);omega
   ·show decide (x'.length * n.toNat > sizeLine)=false;rw[Nat.mul_comm];exact ZA (by omega)
  ·cases e
 ·cases e
def Bh (i j:Str):Bool:=!(Builtin.Str.occurrences j i 0 j.length 1).isEmpty
def yQ:Dt->Bool
 |.non=>true
 |.bl _=>true
 |.int _=>true
 |.str _=>true
 |_=>false
def memD (x:Dt) (ys:List Dt):Option Bool:=if yQ x=true/\ys.all yQ=true then some (ys.any λy=>match Du y x with|some true=>true|_=>false) else none
def wZ:Bx->Option (List Dt)
 |.z (.lst ds)=>some ds
 |.z (.tup ds)=>some ds
 |.l ds=>some ds
 |.o ds=>some ds
 |_=>none
def inB:Bx->Bx->Option Bool
 |.z (.str i),.z (.str j)=>some (Bh i j)
 |.z d,b=>(wZ b).bind λys=>memD d ys
 |_,_=>none
def inF (a b:Bx):Option Bx:=(inB a b).bind λk=>some (.z (.bl k))
theorem Nb {K:FG_} {H:Hp} {d:Dt} {v:V} (r:Rep K H d v) (f:yQ d=true):uy v=true:=by
 cases d<;>first|(cases f;done)|skip
 all_goals simp only[Rep] at r
 ·subst r;rfl
 ·subst r;rfl
 ·subst r;rfl
 ·obtain⟨rfl,_⟩:=r;rfl
theorem Jk {K:FG_} {H:Hp}:∀ {ds:List Dt} {vs:List V},aQ K H ds vs->ds.all yQ=true->vs.all uy=true
 |[],_,h,_=>by simp only[aQ] at h;subst h;rfl
 |d::ds,_,h,f=>by
  simp only[aQ] at h;obtain⟨v,r,rfl,h1,h2⟩:=h;rw[ka,ZE] at f;rw[ka,Nb h1 f.1,Jk h2 f.2];rfl
theorem Kf (b:Bool):(match some b with|some true=>true|_=>false)=b:=by cases b<;>rfl
theorem aa7 {K:FG_} {H:Hp} {d e:Dt} {x y:V} (rd:Rep K H d x) (re:Rep K H e y) (fd:yQ d=true) (fe:yQ e=true):eqV x y=(match Du d e with|some true=>true|_=>false):=by
 cases d<;>first|(cases fd;done)|skip
 all_goals (cases e<;>first|(cases fe;done)|skip)
 all_goals simp only[Rep] at rd re
 all_goals first
  |(subst rd;subst re;exact(Kf _).symm)
  |(obtain⟨rfl,_⟩:=rd;subst re;exact(Kf _).symm)
  |(subst rd;obtain⟨rfl,_⟩:=re;exact(Kf _).symm)
  |(obtain⟨rfl,_⟩:=rd;obtain⟨rfl,_⟩:=re;exact(Kf _).symm)
theorem SJ {K:FG_} {H:Hp} {d:Dt} {x:V} (rd:Rep K H d x) (fd:yQ d=true):∀ {ds:List Dt} {vs:List V},aQ K H ds vs->ds.all yQ=true->inV x vs=ds.any λy=>match Du y d with|some true=>true|_=>false
 |[],_,h,_=>by simp only[aQ] at h;subst h;rfl
 |e::ds,_,h,f=>by
  simp only[aQ] at h;obtain⟨v,r,rfl,h1,h2⟩:=h;rw[ka,ZE] at f;have:=SJ rd fd h2 f.2;unfold inV at this ⊢;rw[JY,JY,aa7 h1 rd f.1 fd,this]
theorem yR {K:FG_} {H:Hp} {b:Bx} {v:V} {ds:List Dt} (h:bA K H b v) (e:wZ b=some ds):∃ a vs,v=.ref a/\(sX K H a vs\/yG K H a vs)/\aQ K H ds vs:=by
 cases b with
 |z d=>
  cases d<;>first|(cases e;done)|skip
  ·cases e;obtain⟨a,vs,e,q,r⟩:=inT h;exact⟨a,vs,e,.inr q,r⟩
  ·cases e;obtain⟨a,vs,e,q,r⟩:=h.Jf rfl;exact⟨a,vs,e,.inl q,r⟩
 |l ds'=>
  cases e;obtain⟨a,vs,e,q,r⟩:=h.Jf rfl;exact⟨a,vs,e,.inl q,r⟩
 |o ds'=>
  cases e;obtain⟨a,vs,e,q,r⟩:=h.Jf rfl;exact⟨a,vs,e,.inl q,r⟩
 |n _=>cases e
 |m _ _=>cases e
theorem Vc {H:Hp} {a b:Bx} {x y:V} {k:Bool} (ra:bA X.K H a x) (rb:bA X.K H b y) (e:inB a b=some k) :
  (∃ i j,x=.str i/\y=.str j/\k=Bh i j)\/(∃ p xs,y=.ref p/\(sX X.K H p xs\/yG X.K H p xs)/\uy x=true/\xs.all uy=true/\k=inV x xs):=by
 unfold inB at e;split at e
 ·rename_i i j;cases e;exact .inl ⟨i,j,(HF ra).1,(HF rb).1,rfl⟩
 ·rename_i d _;obtain⟨ys,ey,e⟩:=bind_some e;unfold memD at e;split at e
  ·rename_i hf;cases e;obtain⟨p,vs,rfl,sq,rs⟩:=yR rb ey;have ra':Rep X.K H d x:=ra;exact .inr ⟨p,vs,rfl,sq,Nb ra' hf.1,Jk rs hf.2,(SJ ra' hf.1 rs hf.2).symm⟩
  ·cases e
 ·cases e
theorem Xz:HX X (compareOp .In) inF:=by
 intro pins s σ H x y v u Q I rx ry h;obtain⟨a,b,c,ra,rb,e,q⟩:=h;obtain⟨k,ek,e⟩:=bind_some e;cases e;rcases Vc ra rb ek with⟨i,j,rfl,rfl,rfl⟩|⟨p,xs,rfl,sq,f1,f2,rfl⟩
 ·exact Uv pins s σ H _ _ v u Q I rx ry ⟨i,j,rfl,rfl,q _ H (Same.refl H) trivial Va⟩
 ·exact Uz pins s σ H _ _ v u Q I rx ry ⟨p,xs,rfl,sq,f1,f2,q _ H (Same.refl H) trivial Va⟩
def QT:Bx->Bool
 |.z .non=>true
 |_=>false
theorem Vd {K:FG_} {H:Hp} {b:Bx} {v:V} (h:bA K H b v):decide (v=.non)=QT b:=by
 cases b with
 |z d=>
  cases d<;>simp only[bA,Rep] at h
  ·subst h;rfl
  ·subst h;rfl
  ·subst h;rfl
  ·obtain⟨rfl,_⟩:=h;rfl
  ·obtain⟨_,_,rfl,_⟩:=h;rfl
  ·obtain⟨_,_,rfl,_⟩:=h;rfl
  ·obtain⟨_,_,rfl,_⟩:=h;rfl
 |l ds=>obtain⟨_,_,rfl,_⟩:=h;rfl
 |o ds=>obtain⟨_,_,rfl,_⟩:=h;rfl
 |n ds=>obtain⟨_,_,rfl,_⟩:=h;rfl
 |m ds _=>obtain⟨_,_,rfl,_⟩:=h;rfl
def Ve (a:Bx):Bx->Option Bx
 |.z .non=>some (.z (.bl (QT a)))
 |_=>none
theorem of_is:HX X (compareOp .Is) Ve:=uP.imp adR λx y H Q q=>by
 obtain⟨a,b,c,ra,rb,e,q⟩:=q;unfold Ve at e;split at e
 ·cases e;simp only[bA,Rep] at rb;exact⟨rb,by rw[Vd ra];exact q _ H (Same.refl H) trivial Va⟩
 ·cases e
def fV:Bx->Bx->Option Bx
 |.z (.str x),.z (.int i)=>(Er x.cps.toList i).bind λc=>some (.z (.str ⟨#[c]⟩))
 |b,.z (.int i)=>(wZ b).bind λds=>(Er ds i).bind λd=>some (.z d)
 |_,_=>none
theorem aa8 {K:FG_} {H:Hp} {ds:List Dt} {vs:List V} {i:Int} {d:Dt} (r:aQ K H ds vs) (e:Er ds i=some d):∃ v,Er vs i=some v/\Rep K H d v:=by
 unfold Er at e ⊢;rw[r.length];obtain⟨j,ej,e⟩:=bind_some e;rw[ej];exact r.get e
theorem bC {a b:Expr} {fa fb:Ev->Option Bx} {pos:Pos} (ha:QV X a fa) (hb:QV X b fb) (hs:R9 b:=by intro _ _;with_unfolding_all rfl):QV X (.Subscript a b pos) (b2 fV fa fb):=⟨have ha:=ha.run;have hb:=hb.run;z9 (agf ad2 ha hb hs) λσ H Q h=>by
 obtain⟨H0,ρ,c,E,e,q⟩:=h;obtain⟨a,ea,e⟩:=bind_some e;obtain⟨b,eb,e⟩:=bind_some e;refine⟨H0,ρ,a,E,ea,λv H1 s1 n1 r1=>⟨H0,ρ,b,E.grow s1,eb,λu H2 s2 n2 r2=>?_⟩⟩;have r1':=r1.same s2;unfold fV at e;split at e
 ·rename_i x i;obtain⟨c',ec,e⟩:=bind_some e;cases e;exact .inr (.inr ⟨_,_,c',(HF r1').1,LQ r2,(HF r1').2,ec,q _ _ (s1.trans s2) trivial (aa5 (by show(1:Nat)<=sizeLine;decide))⟩)
 ·obtain⟨ds,ed,e⟩:=bind_some e;obtain⟨d,ei,e⟩:=bind_some e;cases e;obtain⟨p,vs,rfl,sq,rs⟩:=yR r1' ed;obtain⟨w,ew,R5⟩:=aa8 rs ei;have hi:=LQ r2;rcases sq with sq|sq
  ·exact .inl ⟨p,vs,_,w,rfl,hi,sq,ew,q _ _ (s1.trans s2) trivial R5⟩
  ·exact .inr (.inl ⟨p,vs,_,w,rfl,hi,sq,ew,q _ _ (s1.trans s2) trivial R5⟩)
 ·cases e⟩
end
theorem XC:bootBuiltins "int" = some (.type "int"):=by decide +kernel
theorem aeu:bootBuiltins "str" = some (.type "str"):=by decide +kernel
theorem nQ:bootBuiltins "tuple" = some (.type "tuple"):=by decide +kernel
theorem xH:bootBuiltins "isinstance" = some (.builtin "isinstance"):=by decide +kernel
theorem jM:bootBuiltins "len" = some (.builtin "len"):=by decide +kernel
theorem aev:bootBuiltins "abs" = some (.builtin "abs"):=by decide +kernel
theorem Fj:bootBuiltins "all" = some (.builtin "all"):=by decide +kernel
theorem aew:bootBuiltins "max" = some (.builtin "max"):=by decide +kernel
theorem Vf:bootBuiltins "sorted" = some (.builtin "sorted"):=by decide +kernel
section
variable {X:Cx} {pins:List (Addr×Obj)} {σ:L2.St} {H:Hp} {s:Shared}
def is_bool:Dt->Bool
 |.bl _=>true
 |_=>false
theorem XD (I:L2.Inv X pins σ H s) {d:Dt} {x:V} {v:Value} {Q:VK} (rd:lG X.K H d x) (rv:RelV x v) (q:Q (.bl (is_bool d)) H):wpAny (model X.prog X.w) X.A (call (.builtin "isinstance") [v,.type "bool"]) (EP X pins σ Q) X.xe s:=by
 cases d with
 |non=>simp only[lG,Rep] at rd;subst rd;cases rv;exact IsiPair.NoneType_bool ⟨.bl _,H,I.tok _,rfl,q⟩
 |bl b=>simp only[lG,Rep] at rd;subst rd;cases rv;exact IsiPair.bool_bool ⟨.bl _,H,I,rfl,q⟩
 |int b=>simp only[lG,Rep] at rd;subst rd;obtain⟨t,rfl⟩:=rv;exact IsiPair.int_bool ⟨.bl _,H,I.tok _,rfl,q⟩
 |str b=>simp only[lG,Rep] at rd;obtain⟨rfl,_⟩:=rd;obtain⟨t,rfl⟩:=rv;exact IsiPair.str_bool ⟨.bl _,H,I.tok _,rfl,q⟩
 |tup ds=>simp only[lG,Rep] at rd;obtain⟨a,vs,rfl,sq,_⟩:=rd;cases rv;obtain⟨_,_,p,_⟩:=I.tuple sq;exact IsiPair.isTuple_bool p (λ_ _ e=>e) ⟨.bl _,H,I.tok _,rfl,q⟩
 |lst ds=>simp only[lG] at rd;obtain⟨a,vs,rfl,sq,_⟩:=rd;cases rv;obtain⟨_,_,p,_⟩:=I.list sq;exact IsiPair.isList_bool p.isList (λ_ _ e=>e) ⟨.bl _,H,I.tok _,rfl,q⟩
 |emp=>simp only[lG,Rep] at rd;obtain⟨a,o,rfl,sq⟩:=rd;cases rv;obtain⟨ob,e,c⟩:=tK I sq;exact IsiPair.dict_bool e c ⟨.bl _,H,I.tok _,rfl,q⟩
def bU:Dt->Bool
 |.str _=>true
 |_=>false
theorem aa9 (I:L2.Inv X pins σ H s) {d:Dt} {x:V} {v:Value} {Q:VK} (rd:lG X.K H d x) (rv:RelV x v) (q:Q (.bl (bU d)) H):wpAny (model X.prog X.w) X.A (call (.builtin "isinstance") [v,.type "str"]) (EP X pins σ Q) X.xe s:=by
 cases d with
 |non=>simp only[lG,Rep] at rd;subst rd;cases rv;exact IsiPair.NoneType_str ⟨.bl _,H,I.tok _,rfl,q⟩
 |bl b=>simp only[lG,Rep] at rd;subst rd;cases rv;exact IsiPair.bool_str ⟨.bl _,H,I.tok _,rfl,q⟩
 |int b=>simp only[lG,Rep] at rd;subst rd;obtain⟨t,rfl⟩:=rv;exact IsiPair.int_str ⟨.bl _,H,I.tok _,rfl,q⟩
 |str b=>simp only[lG,Rep] at rd;obtain⟨rfl,_⟩:=rd;obtain⟨t,rfl⟩:=rv;exact IsiPair.str_str ⟨.bl _,H,I,rfl,q⟩
 |tup ds=>simp only[lG,Rep] at rd;obtain⟨a,vs,rfl,sq,_⟩:=rd;cases rv;obtain⟨_,_,p,_⟩:=I.tuple sq;exact IsiPair.isTuple_str p (λ_ _ e=>e) ⟨.bl _,H,I.tok _,rfl,q⟩
 |lst ds=>simp only[lG] at rd;obtain⟨a,vs,rfl,sq,_⟩:=rd;cases rv;obtain⟨_,_,p,_⟩:=I.list sq;exact IsiPair.isList_str p.isList (λ_ _ e=>e) ⟨.bl _,H,I.tok _,rfl,q⟩
 |emp=>simp only[lG,Rep] at rd;obtain⟨a,o,rfl,sq⟩:=rd;cases rv;obtain⟨ob,e,c⟩:=tK I sq;exact IsiPair.dict_str e c ⟨.bl _,H,I.tok _,rfl,q⟩
theorem mR {e:Expr} {f:Ev->Option Bx} {p p2 pos:Pos} (he:QV X e f) (hg:Gl X "isinstance") (hm:X.mg "isinstance" = none) (hg2:Gl X "str") (hm2:X.mg "str" = none) (hs:starEach [e,.Name "str" p2] X.env=[(false,eval e X.env),(false,eval (.Name "str" p2) X.env)]:=by rfl):QV X (.Call (.Name "isinstance" p) [e,.Name "str" p2] [] pos) (b1 (λb=>if oW b=true then none else some (.z (.bl (bU (toD b))))) f):=⟨by
 have he:=he.run;have hc:gF X (.builtin "isinstance") (λxs H Q=>∃ b x,xs=[x,.ty "str"]/\bA X.K H b x/\oW b=false/\Q (.bl (bU (toD b))) H):=by
  intro pins s σ H xs us Q I r h;obtain⟨b,x,rfl,rb,hmb,q⟩:=h;obtain⟨u,w',rfl,r1,r2⟩:=vals2 r;cases r2;exact aa9 I (rb.toD hmb) r1 q
 have ha:PA X [e,.Name "str" p2] (Mq (tF X.K f) (Mq (tC (.ty "str")) aaz)):=bT he (bT (Di hg2 hm2 (v:=.ty "str") (u:=.type "str") aeu rfl) g8) (by rw[hs]<;>rfl);refine z9 (nO hc hg hm xH ha (by decide) (by decide) (by rw[hs]<;>rfl) rfl) λσ H Q h=>?_;obtain⟨H0,ρ,c,E,e,q⟩:=h;obtain⟨b,eb,e⟩:=bind_some e;split at e
 ·cases e
 rename_i hz;cases e;exact⟨H0,ρ,b,E,eb,λv H1 s1 n1 r1=>⟨b,v,rfl,r1,by simpa using hz,q _ _ s1 trivial Va⟩⟩⟩
def is_tuple:Dt->Bool
 |.tup _=>true
 |_=>false
theorem Vg (I:L2.Inv X pins σ H s) {d:Dt} {x:V} {v:Value} {Q:VK} (rd:lG X.K H d x) (rv:RelV x v) (q:Q (.bl (is_tuple d)) H):wpAny (model X.prog X.w) X.A (call (.builtin "isinstance") [v,.type "tuple"]) (EP X pins σ Q) X.xe s:=by
 cases d with
 |non=>simp only[lG,Rep] at rd;subst rd;cases rv;exact IsiPair.NoneType_tuple ⟨.bl _,H,I.tok _,rfl,q⟩
 |bl b=>simp only[lG,Rep] at rd;subst rd;cases rv;exact IsiPair.bool_tuple ⟨.bl _,H,I.tok _,rfl,q⟩
 |int b=>simp only[lG,Rep] at rd;subst rd;obtain⟨t,rfl⟩:=rv;exact IsiPair.int_tuple ⟨.bl _,H,I.tok _,rfl,q⟩
 |str b=>simp only[lG,Rep] at rd;obtain⟨rfl,_⟩:=rd;obtain⟨t,rfl⟩:=rv;exact IsiPair.str_tuple ⟨.bl _,H,I.tok _,rfl,q⟩
 |tup ds=>simp only[lG,Rep] at rd;obtain⟨a,vs,rfl,sq,_⟩:=rd;cases rv;obtain⟨_,_,p,_⟩:=I.tuple sq;exact IsiPair.isTuple_tuple p (λ_ _ e=>e) ⟨.bl _,H,I,rfl,q⟩
 |lst ds=>simp only[lG] at rd;obtain⟨a,vs,rfl,sq,_⟩:=rd;cases rv;obtain⟨_,_,p,_⟩:=I.list sq;exact IsiPair.isList_tuple p.isList (λ_ _ e=>e) ⟨.bl _,H,I.tok _,rfl,q⟩
 |emp=>simp only[lG,Rep] at rd;obtain⟨a,o,rfl,sq⟩:=rd;cases rv;obtain⟨ob,e,c⟩:=tK I sq;exact IsiPair.dict_tuple e c ⟨.bl _,H,I.tok _,rfl,q⟩
theorem lH {e:Expr} {f:Ev->Option Bx} {p p2 pos:Pos} (he:QV X e f) (hg:Gl X "isinstance") (hm:X.mg "isinstance" = none) (hg2:Gl X "tuple") (hm2:X.mg "tuple" = none) (hs:starEach [e,.Name "tuple" p2] X.env=[(false,eval e X.env),(false,eval (.Name "tuple" p2) X.env)]:=by rfl):QV X (.Call (.Name "isinstance" p) [e,.Name "tuple" p2] [] pos) (b1 (λb=>if oW b=true then none else some (.z (.bl (is_tuple (toD b))))) f):=⟨by
 have he:=he.run;have hc:gF X (.builtin "isinstance") (λxs H Q=>∃ b x,xs=[x,.ty "tuple"]/\bA X.K H b x/\oW b=false/\Q (.bl (is_tuple (toD b))) H):=by
  intro pins s σ H xs us Q I r h;obtain⟨b,x,rfl,rb,hmb,q⟩:=h;obtain⟨u,w',rfl,r1,r2⟩:=vals2 r;cases r2;exact Vg I (rb.toD hmb) r1 q
 have ha:PA X [e,.Name "tuple" p2] (Mq (tF X.K f) (Mq (tC (.ty "tuple")) aaz)):=bT he (bT (Di hg2 hm2 (v:=.ty "tuple") (u:=.type "tuple") nQ rfl) g8) (by rw[hs]<;>rfl);refine z9 (nO hc hg hm xH ha (by decide) (by decide) (by rw[hs]<;>rfl) rfl) λσ H Q h=>?_;obtain⟨H0,ρ,c,E,e,q⟩:=h;obtain⟨b,eb,e⟩:=bind_some e;split at e
 ·cases e
 rename_i hz;cases e;exact⟨H0,ρ,b,E,eb,λv H1 s1 n1 r1=>⟨b,v,rfl,r1,by simpa using hz,q _ _ s1 trivial Va⟩⟩⟩
def tFO (K:FG_) (f:Ev->Option (Option Int)):TO:=λσ H Q=>∃ H0 ρ o,bG K H0 H σ ρ/\f ρ=some o/\∀ H',Same H H'->Q o H'
def PVo (X:Cx) (e:Option Expr) (f:Ev->Option (Option Int)):Prop:=PO X e (tFO X.K f)
structure QVo (X:Cx) (e:Option Expr) (f:Ev->Option (Option Int)):Prop where
 run:PVo X e f
theorem poM {e:Option Expr} {t t':TO} (h:PO X e t) (m:∀ σ H Q,t' σ H Q->t σ H Q):PO X e t':=λpins s σ H Q I q=>h pins s σ H Q I (m σ H Q q)
def fu:Ev->Option (Option Int):=λ_=>some none
theorem cU  : QVo X none fu:=⟨poM aaC λσ H Q h=>by
 obtain⟨H0,ρ,o,E,e,q⟩:=h;cases e;exact q H (Same.refl H)⟩
def aex:Bx->Option (Option Int)
 |.z (.int i)=>some (some i)
 |_=>none
def fj (f:Ev->Option Bx):Ev->Option (Option Int):=λρ=>(f ρ).bind aex
theorem bV {e:Expr} {f:Ev->Option Bx} (h:QV X e f):QVo X (some e) (fj f):=⟨have h:=h.run;poM (aaD h) λσ H Q q=>by
 obtain⟨H0,ρ,o,E,e,q⟩:=q;obtain⟨b,eb,e⟩:=bind_some e;refine⟨H0,ρ,b,E,eb,λv H1 s1 n1 r1=>?_⟩;unfold aex at e;split at e
 ·rename_i i;cases e;exact⟨i,LQ r1,q H1 s1⟩
 ·cases e⟩
def cutD (xs:List Dt) (lo hi:Option Int):List Dt:=(xs.drop (HT.jd xs.length 0 lo)).take (HT.jd xs.length xs.length hi - HT.jd xs.length 0 lo)
theorem Nf {K:FG_} {H:Hp} {ds:List Dt} {vs:List V} (r:aQ K H ds vs) (lo hi:Option Int):aQ K H (cutD ds lo hi) (Ms vs lo hi):=by
 unfold cutD Ms;rw[r.length];exact(r.drop _).take _
theorem XF (ds:List Dt) {lo hi:Option Int} (h1:HT.jd ds.length 0 lo=0) (h2:HT.jd ds.length ds.length hi=ds.length):cutD ds lo hi=ds:=by
 unfold cutD;rw[h1,h2];simp
theorem yS {t sl:Addr} {items:Array Value} {vl vu:Value} {lo hi:Option Int} {Q:VP_} {prog:Program} {w:World} {A:Around} {E:VP_} {s:Shared} (ht:IsTup s.heap t items) (hs:s.heap.IsSliceOf sl vl vu .none) (pl:IsPart vl lo) (pu:IsPart vu hi)
  (h1:HT.jd items.size 0 lo=0) (h2:HT.jd items.size items.size hi=items.size)
  (h:Q (.ref t) s):wpAny (model prog w) A (getItem (.ref t) (.ref sl)) Q E s:=by
 obtain⟨os,hos,hcs,hds⟩:=id hs;have hTs:s.TypeIs (.ref sl) "slice" := ⟨os,hos,hcs⟩;unfold getItem
 try with_reducible refine qV ?_
 first|refine zb (ze ?_)|skip
 refine zb (wpAny_sequenceKey ht.typeIs (by decide) ?_);refine zb (yf (name:=Str.ofString "__getitem__") ht.typeIs PyProof.Rows.slot_tuple_getitem
  (ke PyProof.Rows.slot_tuple_getitem ht.typeIs entry_tuple_getitem ?_ (args_tuple_getitem _ _)))
 show wpAny _ _ (Builtin.Tuple.tupleItemsOf (.ref t) >>= _) _ _ s;refine zb (tupleItemsOf_ ht ?_);refine zb (jv hTs ?_);rw[zh (by decide)];refine zb (HT.rR hs pl pu ?_);have hyes:(((HT.jd items.size 0 lo:Nat):Int)==0&&(1:Int)==1&&(HT.jd items.size items.size hi - HT.jd items.size 0 lo)==items.size)=true:=by
  rw[h1,h2];simp
 show wpAny _ _ (if(((HT.jd items.size 0 lo:Nat):Int)==0&&(1:Int)==1&&(HT.jd items.size items.size hi - HT.jd items.size 0 lo)==items.size)=true then _ else _) _ _ s;rw[zh hyes]
 first
  |refine zb (zb (jv ht.typeIs (ze ?_)))
  |refine zb (jv ht.typeIs (zb (ze ?_)))
  |refine zb (jv ht.typeIs ?_)
 rw[zh (by decide)]
 first
  |exact zb (KM (ze ⟨_,rfl,ze h⟩))
  |exact zb (KM (zb (ze (ze ⟨_,rfl,ze h⟩))))
def slB (b:Bx) (lo hi:Option Int):Option Bx:=match b with
 |.z (.str x)=>some (.z (.str (Txt.slice x lo hi)))
 |.z (.tup ds)=>some (.z (.tup (cutD ds lo hi)))
 |b=>(rC b).bind λds=>some (.o (cutD ds lo hi))
def rSl (K:FG_):V->Option Int->Option Int->Hp->VK->Prop:=λx lo hi H Q=>∃ b c,bA K H b x/\slB b lo hi=some c/\∀ w H',Same H H'->Nw H c w->bA K H' c w->Q w H'
theorem aey:SlR X (rSl X.K):=by
 intro pins s σ H x v vl vu lo hi sl Q I rx hs pl pu h;obtain⟨b,c,rb,e,q⟩:=h;unfold slB at e;split at e
 ·rename_i y;cases e;obtain⟨rfl,hy⟩:=HF rb;obtain⟨t,rfl⟩:=rx;refine⟨"str", _,F.slot_str_getitem.lookup,typeIs_str _ _ _,?_⟩;obtain⟨o,e1,e2,e3⟩:=hs;have fin:∀ t' k,EP X pins σ Q (.str (Txt.slice y lo hi) t') { s with toks:=k }:=λt' k=>⟨.str _,H,I.tok _,⟨_,rfl⟩,q _ H (Same.refl H) trivial (aa5 (zI (Txt.slice_le y _ _) hy))⟩;cases pl with
  |none=>
   cases pu with
   |none=>exact kL (l:=none) (u:=none) (st:=none) ⟨o,e1,e2,e3⟩ rfl (post_val_or_str ⟨zI (Txt.slice_le y _ _) hy,fin⟩)
   |int j uj=>exact kL (l:=none) (u:=some (j,uj)) (st:=none) ⟨o,e1,e2,e3⟩ rfl (post_val_or_str ⟨zI (Txt.slice_le y _ _) hy,fin⟩)
  |int i ui=>
   cases pu with
   |none=>exact kL (l:=some (i,ui)) (u:=none) (st:=none) ⟨o,e1,e2,e3⟩ rfl (post_val_or_str ⟨zI (Txt.slice_le y _ _) hy,fin⟩)
   |int j uj=>exact kL (l:=some (i,ui)) (u:=some (j,uj)) (st:=none) ⟨o,e1,e2,e3⟩ rfl (post_val_or_str ⟨zI (Txt.slice_le y _ _) hy,fin⟩)
 ·rename_i ds;cases e;obtain⟨a,vs,rfl,sq,rs⟩:=inT rb;by_cases hw:HT.jd vs.length 0 lo=0/\HT.jd vs.length vs.length hi=vs.length
  ·cases rx;obtain⟨its,r,ht,hz⟩:=I.tuple sq;have hlen:its.toArray.size=vs.length:=by rw[zS];exact r.length.symm
   refine⟨"tuple", _,PyProof.Rows.slot_tuple_getitem.lookup,ht.typeIs,yS ht hs pl pu (by rw[hlen];exact hw.1) (by rw[hlen];exact hw.2) ⟨.ref a,H,I,rfl,q _ H (Same.refl H) trivial ?_⟩⟩;rw[XF ds (by rw[<-rs.length];exact hw.1) (by rw[<-rs.length];exact hw.2)];exact rb
  ·refine adY pins s σ H _ v vl vu lo hi sl Q I rx hs pl pu ⟨a,vs,rfl,sq,hw,λp hp=>q _ _ (bI hp) trivial ?_⟩;unfold bA Rep;exact⟨p,_,rfl,.inl (.inl aV),(Nf rs lo hi).kp (.of (bI hp))⟩
 ·obtain⟨ds,ed,e⟩:=bind_some e;cases e;obtain⟨a,vs,rfl,sq,rs⟩:=rb.Jf ed;exact aaJ pins s σ H _ v vl vu lo hi sl Q I rx hs pl pu ⟨a,vs,rfl,sq,λp hp=>q _ _ (bI hp) (λa ea=>by cases ea;exact hp) ⟨p,_,rfl,aV,(Nf rs lo hi).kp (.of (bI hp))⟩⟩
def yj (f:Ev->Option Bx) (fl fh:Ev->Option (Option Int)):Ev->Option Bx:=λρ=>(f ρ).bind λb=>(fl ρ).bind λlo=>(fh ρ).bind λhi=>slB b lo hi
theorem iU {e:Expr} {lo hi:Option Expr} {f:Ev->Option Bx} {fl fh:Ev->Option (Option Int)} {p2 pos:Pos} (he:QV X e f) (hl:QVo X lo fl) (hh:QVo X hi fh):QV X (.Subscript e (.Slice lo hi none p2) pos) (yj f fl fh):=⟨have he:=he.run;have hl:=hl.run;have hh:=hh.run;z9 (W9 aey he hl hh) λσ H Q h=>by
 obtain⟨H0,ρ,c,E,e,q⟩:=h;obtain⟨b,eb,e⟩:=bind_some e;obtain⟨lo,el,e⟩:=bind_some e;obtain⟨hi,eh,e⟩:=bind_some e;refine⟨H0,ρ,b,E,eb,λv H1 s1 n1 r1=>⟨H0,ρ,lo,E.grow s1,el,λH2 s2=>⟨H0,ρ,hi,E.grow (s1.trans s2),eh,λH3 s3=>?_⟩⟩⟩;have s13:=(s1.trans s2).trans s3;exact⟨b,c,(r1.same s2).same s3,e,λw H4 s4 n4 r4=>q w H4 (s13.trans s4) (n4.old s13) r4⟩⟩
def nR:List Bx->Option Bx
 |[.z (.str x)]=>some (.z (.int x.length))
 |[b]=>(wZ b).bind λds=>some (.z (.int ds.length))
 |_=>none
theorem rep1 {K:FG_} {H:Hp} {b:Bx} {vs:List V} (r:qy K H [b] vs):∃ v,vs=[v]/\bA K H b v:=by
 cases r with
 |cons p t=>cases t;exact⟨_,rfl,p⟩
theorem rep2 {K:FG_} {H:Hp} {b c:Bx} {vs:List V} (r:qy K H [b,c] vs):∃ v u,vs=[v,u]/\bA K H b v/\bA K H c u:=by
 cases r with
 |cons p t=>
  cases t with
  |cons p' t'=>cases t';exact⟨_,_,rfl,p,p'⟩
theorem jN:yL X (.builtin "len") nR:=gF.imp (J5.or J6) λxs H Q q=>by
 obtain⟨bs,c,rb,e,q⟩:=q;unfold nR at e;split at e
 ·rename_i x;cases e;obtain⟨v,rfl,r1⟩:=rep1 rb;obtain⟨rfl,hx⟩:=HF r1;exact .inr ⟨x,rfl,hx,q _ H (Same.refl H) trivial Ci⟩
 ·obtain⟨ds,ed,e⟩:=bind_some e;cases e;obtain⟨v,rfl,r1⟩:=rep1 rb;obtain⟨p,vs,rfl,sq,rs⟩:=yR r1 ed;exact .inl ⟨p,vs,rfl,sq,by rw[rs.length];exact q _ H (Same.refl H) trivial Ci⟩
 ·cases e
def XH:List Bx->Option Bx
 |[.z (.int i)]=>some (.z (.int (if i < 0 then -i else i)))
 |_=>none
theorem aez:yL X (.builtin "abs") XH:=gF.imp W7 λxs H Q q=>by
 obtain⟨bs,c,rb,e,q⟩:=q;unfold XH at e;split at e
 ·rename_i i;cases e;obtain⟨v,rfl,r1⟩:=rep1 rb;have:=LQ r1;subst this;exact⟨i,rfl,q _ H (Same.refl H) trivial Ci⟩
 ·cases e
def Vh:List Bx->Option Bx
 |[.z (.int i)]=>some (.z (.int i))
 |[.z (.bl k)]=>some (.z (.int (if k then 1 else 0)))
 |_=>none
theorem XJ:yL X (.type "int") Vh:=gF.imp Uw λxs H Q q=>by
 obtain⟨bs,c,rb,e,q⟩:=q;unfold Vh at e;split at e
 ·rename_i i;cases e;obtain⟨v,rfl,r1⟩:=rep1 rb;have:=LQ r1;subst this;exact .inl ⟨i,rfl,q _ H (Same.refl H) trivial Ci⟩
 ·rename_i k;cases e;obtain⟨v,rfl,r1⟩:=rep1 rb;simp only[bA,Rep] at r1;subst r1;exact .inr ⟨k,rfl,q _ H (Same.refl H) trivial Ci⟩
 ·cases e
def oA:List Bx->Option Bx
 |[b]=>(wZ b).bind λds=>some (.z (.tup ds))
 |_=>none
theorem pR:yL X (.type "tuple") oA:=gF.imp HW λxs H Q q=>by
 obtain⟨bs,c,rb,e,q⟩:=q;unfold oA at e;split at e
 ·obtain⟨ds,ed,e⟩:=bind_some e;cases e;obtain⟨v,rfl,r1⟩:=rep1 rb;obtain⟨p,vs,rfl,sq,rs⟩:=yR r1 ed;refine⟨p,vs,rfl,?_⟩;rcases sq with sq|sq
  ·refine .inl ⟨sq,λl hl=>q _ _ (bI hl) trivial ?_⟩;unfold bA Rep;exact⟨l,vs,rfl,.inl (.inl aV),rs.kp (.of (bI hl))⟩
  ·refine .inr ⟨sq,q _ H (Same.refl H) trivial ?_⟩;unfold bA Rep;exact⟨p,vs,rfl,sq,rs⟩
 ·cases e
def Jl:List Dt->Option (List Bool)
 |[]=>some []
 |.bl b::ds=>(Jl ds).bind λbs=>some (b::bs)
 |_=>none
theorem Fl {K:FG_} {H:Hp}:∀ {ds:List Dt} {bs:List Bool} {vs:List V} {us:List Value},Jl ds=some bs->aQ K H ds vs->Vals vs us->us=bs.map Value.bool
 |[],_,_,_,e,r,w=>by
  cases e;simp only[aQ] at r;subst r;cases w;rfl
 |d::ds,_,_,_,e,r,w=>by
  simp only[aQ] at r;obtain⟨v,r',rfl,h1,h2⟩:=r;cases d<;>first|(cases e;done)|skip;simp only[Jl] at e;obtain⟨bs,e1,e⟩:=bind_some e;cases e;simp only[Rep] at h1;subst h1;cases w with
  |cons p t=>
   cases p;rw[Fl e1 h2 t];rfl
theorem all_range (bs:List Bool):((List.range bs.length).all λi=>bs.getD i false)=bs.all id:=by
 rw[Bool.eq_iff_iff,k9,k9];constructor
 ·intro h b hb;obtain⟨i,hi,rfl⟩:=List.mem_iff_getElem.mp hb;have:=h i (by simpa using hi);simpa[List.getD,hi] using this
 ·intro h i hi;have hi:i < bs.length:=by simpa using hi
  have:=h bs[i] (List.getElem_mem hi);simpa[List.getD,hi] using this
def allB:List Bx->Option Bx
 |[b]=>(rC b).bind λds=>(Jl ds).bind λbs=>some (.z (.bl (bs.all id)))
 |_=>none
theorem Ng {prog:Program} {w:World} {A:Around} (bs:List Bool):TruthOf prog w A (λi v=>(bs.map Value.bool).toArray[i]?=some v) λi=>bs.getD i false:=λi v s Q E h q=>by
 have h':(bs.map Value.bool)[i]?=some v:=by simpa using h
 rw[ZO] at h';cases e:bs[i]? with
 |none=>rw[e] at h';cases h'
 |some b=>
  rw[e] at h';cases h';have:bs.getD i false=b:=by simp[List.getD,e]
  have q':Q b s:=by rw[<-this];exact q
  exact ja q'
theorem Fo (hc:X.calm=true):yL X (.builtin "all") allB:=by
 intro pins s σ H xs us Q I r h;obtain⟨bs,c,rb,e,q⟩:=h;unfold allB at e;split at e
 ·obtain⟨ds,ed,e⟩:=bind_some e;obtain⟨ks,ek,e⟩:=bind_some e;cases e;obtain⟨v,rfl,r1⟩:=rep1 rb;obtain⟨a,vs,rfl,sq,rs⟩:=r1.Jf ed;obtain⟨u,rfl,ru⟩:=vals1 r;cases ru;obtain⟨its,w,pl,hz⟩:=I.list sq;have hv:=Fl ek rs w;have hlt:a < s.heap.objs.size:=by obtain⟨o,n,e,_⟩:=pl;exact zv e
  refine call_all_walk (wpAny_pyIter_list pl.isList ?_);refine⟨s.heap.objs.size,_,_,_,_,_,λi=>ks.getD i false,rfl,Walks.list (by show X.A.handled=none;exact I.ok.hd hc) s.heap.objs.size a (Zl hlt) its.toArray,⟨⟨_,zl _ rfl,rfl,rfl⟩,pl.isList.push _⟩,?_,λh' tk k=>?_⟩
  ·rw[hv];exact Ng ks
  ·have hn:its.toArray.size=ks.length:=by rw[hv];simp
   rw[hn,all_range];have I1:L2.Inv X pins σ H { s with heap:=s.heap.push { cls:=.type "list_iterator", data:=.fields #[.ref a,.int 0 0] } }:=I.kept (t':=s.toks) λb o e=>zd _ e;refine⟨.bl _,H,?_,rfl,q _ H (Same.refl H) trivial Va⟩;obtain⟨f0,f1,f2,f3,f4,f5⟩:=I.Ur (b:=s.heap.objs.size) (H':=H) (zi _) (I.hok.fresh (zi _));exact I1.turned (it:=s.heap.objs.size) (λb o hb e=>k b o (by simpa using hb) e) f0 f1 f3 f4 f5
 ·cases e
end
end P1
end
section
namespace P1
open PySem PySem.Spec PyProof.Rows L2
def gv (i:Nat):Ev->Option Bx:=λρ=>Cd ρ i
def u9 (g:Bx->Bx->Option Bx) (fa fb:Ev->Option Bx):Ev->Option Bool:=λρ=>(b2 g fa fb ρ).bind J8
def tV (f:Ev->Option Bx):Ev->Option Bool:=λρ=>(f ρ).bind Xj
def aG:Ev->Option (List Bx):=λ_=>some []
def mO (p:Dt->Bool) (f:Ev->Option Bx):Ev->Option Bx:=b1 (λb=>if oW b=true then none else some (.z (.bl (p (toD b))))) f
def eF:Ev->Option Out:=λρ=>some (.nx ρ)
def dX (f:Ev->Option Bx):Ev->Option Out:=λρ=>(f ρ).bind Xl
def setG (i:Nat) (f:Ev->Option Bx):Ev->Option Out:=λρ=>(f ρ).bind λb=>(Xm ρ i b).bind λρ'=>some (.nx ρ')
def aeA (gt:Dt->Ev->Option Ev) (f:Ev->Option Bx):Ev->Option Out:=λρ=>(f ρ).bind λb=>match b with|.z d=>(gt d ρ).bind λρ'=>some (.nx ρ')|_=>none
def aeB (i j:Nat) (fs:Ev->Option (List Bx)):Ev->Option Out:=λρ=>(fs ρ).bind (aaV i j ρ)
def Nh (i:Nat) (f:Ev->Option Bx):Ev->Option Out:=λρ=>(f ρ).bind (aaW ρ i)
def oY (fi:Ev->Option (List Dt)) (gt:Dt->Ev->Option Ev) (gb:Ev->Option Out):Ev->Option Out:=λρ=>(fi ρ).bind λds=>Ce gt gb ds ρ
def itF (f:Ev->Option Bx):Ev->Option (List Dt):=λρ=>(f ρ).bind aaX
def Ni (f:Ev->Option Bx):Ev->Option (List Dt):=λρ=>(f ρ).bind Xv
def SM (fs:Ev->Option (List Bx)):Ev->Option (List Dt):=λρ=>(fs ρ).bind aeg
def w5 (i:Nat):Dt->Ev->Option Ev:=λd ρ=>some (ρ.set i (some (.z d)))
def vq:Ev->Option Bool:=λ_=>some true
theorem fK {X:Cx}:QL X [] vq:=⟨.inl ⟨rfl,rfl⟩⟩
theorem aeC {X:Cx} {scope:Scope} {cl:List (Str×Addr)}:HY X scope cl [] []:=trivial
theorem abb {X:Cx} {scope:Scope} {cl:List (Str×Addr)} {x:Str} {i:Nat} {xs:LS_} {is:List Nat} (n:X.N[i]?=some x) (k:X.env.kindOf x=some .cell\/X.env.kindOf x=some .free)
  (k':(relabel scope X.env).names.lookup x=some .cell\/(relabel scope X.env).names.lookup x=some .free) (c:∃ c,cl.lookup x=some c) (r:HY X scope cl xs is):HY X scope cl (x::xs) (i::is):=⟨⟨n,k,k',c⟩,r⟩
theorem mem_of_lookup {names:List (Str×NameKind)} {x:Str} {k:NameKind}:names.lookup x=some k->(x,k)∈names:=kb
theorem aeD {X:Cx} {scope:Scope} {cl:List (Str×Addr)} {xs:LS_} {is:List Nat} (clos:closureFor scope X.env=pure cl) (kind:scope.kind=.function) (cell:scope.names.all (λy=>decide (y.2≠.cell)||(cl.lookup y.1).isNone)=true)
  (names:scope.names.all (λy=>decide (y.2=.local->scope.names.lookup y.1=some .local))=true) (sub:SubL X.env.cells cl)
  (has:(relabel scope X.env).names.all (λy=>!(y.2==.cell||y.2==.free)||(cl.lookup y.1).isSome||scope.names.contains (y.1,.cell))=true) (cap:HY X scope cl xs is):yh X scope cl xs is where
 clos:=clos
 kind:=kind
 cell:=λy hy hc=>by
  have:=List.all_eq_true.mp cell y hy;simp only[hc,ne_eq,not_true_eq_false,decide_false,Bool.false_or,Option.isNone_iff_eq_none] at this;exact this
 names:=λy hy=>jb (List.all_eq_true.mp names y hy)
 sub:=sub
 has:=λx hx=>by
  have h:∃ k,(relabel scope X.env).names.lookup x=some k/\(k==NameKind.cell||k==NameKind.free)=true:=by
   rcases hx with hx|hx
   ·exact⟨_,hx,rfl⟩
   ·exact⟨_,hx,rfl⟩
  obtain⟨k,e,hk⟩:=h;have:=List.all_eq_true.mp has _ (mem_of_lookup e);simp only[hk,Bool.not_true,Bool.false_or,kK] at this;rcases this with h|h
  ·exact .inr (Option.isSome_iff_exists.mp h)
  ·exact .inl (List.contains_iff_mem.mp h)
 cap:=cap
theorem Dz {k:Nat} {A:Around} (r:gW k A):A.units+100 < cLine:=by have:=r.un;omega
theorem aeE {F:List Bx->Option Bx} (h:∀ ns:List Int,ns.length<=63->F [.z (.lst (ns.map .int))]=some (.z (.bl true))) (hl:∀ ns:List Int,ns.length<=63->F [.l (ns.map .int)]=some (.z (.bl true))) (K:FG_) (H:Hp) (a:Addr) (ns:List Int) (hn:ns.length<=63) (_:Only H) (hS:sX K H a (ns.map V.int)) :
  Wr K 1 F [.ref a] H (λv _=>v=.bl true) λ_ _ _=>False:=by
 have rs:∀ ms:List Int,aQ K H (ms.map Dt.int) (ms.map V.int):=λms=>by
  induction ms with
  |nil=>exact aQ.nil
  |cons m ms ih=>exact aQ.cons (by unfold Rep;rfl) ih
 have fin:∀ v (H':Hp),Same H H'->Nw H (.z (.bl true)) v->bA K H' (.z (.bl true)) v->v=.bl true:=λv H' _ _ r=>by simpa only[bA,Rep] using r
 rcases hS with hS|hS
 ·exact⟨rfl,[.l (ns.map .int)],_,.cons ⟨a,_,rfl,hS,rs ns⟩ .nil,rfl,hl ns hn,fin⟩
 ·refine⟨rfl,[.z (.lst (ns.map .int))],_,.cons ?_ .nil,rfl,h ns hn,fin⟩;unfold bA Rep;exact⟨a,_,rfl,.inr hS,rs ns⟩
theorem ai4 {P:Program} {w:World} {K:FG_} {mg:Str->Option Value} {base:Heap} {x qual:Str} {st:Stmt} {f:Addr} {fd:FuncData} {N ps:LS_} {k n m:Nat} {g:Ev->Option Out} (F:HD K x qual st f fd) (S:bw N ps (aF st)) (hn:N.length=n) (hm:ps.length=m)
  (hbody:∀ (cdv:Value) (A:Around) (outer:List Env) (s:Shared) (H:Hp) (E:XK),gW k (A.deeper (envOfC qual (aF st) s.heap.objs.size f cdv))->R0 (wY xq P w K mg base N qual (aF st) f cdv A outer s H E).Mj (f9 st) g) :
  eZ P w K mg base xq (k+1) f fd ps (Wr K m (dW n g)):=by
 subst hn hm;exact ai1 F S hbody
section
variable {X:Cx} {e st:Expr} {f fs:Ev->Option Bx} {pos p2:Pos}
theorem Nj {pins:List (Addr×Obj)} {σ:L2.St} {H:Hp} {s:Shared} {a:Addr} (I:L2.Inv X pins σ H s) (h:H a=some (.dK [])):∃ o,L2.Inv X pins σ (upd H a (.yF o (.dK []))) s:=by
 have hk:=I.hok a _ h;obtain⟨z1,z2,z3,z4,o,z5,z6,e,ex⟩:=hk;refine⟨o,⟨I.ok,I.os,I.bare,⟨I.base.keep,I.base.slot,λb ob q1 q2 q3=>?_,I.base.there,λb xs q=>?_,λb ob u q=>?_,λb ps q=>?_⟩,I.loc,I.cell,?_,λx c q=>?_,λp hp=>?_,?_,I.len⟩⟩
 ·have:=I.base.free b ob q1 q2 q3;rw[aM (bF h this).symm];exact this
 ·have:=I.base.tups b xs q;rw[aM (nM this h (by intro z;cases z))];exact this
 ·have:=I.base.rQ b ob u q;rw[aM (nM this h (by intro z;cases z))];exact this
 ·obtain⟨m,this⟩:=I.base.uN b ps q;rw[aM (nM this h (by intro z;cases z))];exact⟨m,this⟩
 ·rw[aM (bF h I.free).symm];exact I.free
 ·rw[aM (bF h (I.jP x c q)).symm];exact I.jP x c q
 ·obtain⟨q1,q2,q3⟩:=I.pin p hp;refine⟨q1,?_,q3⟩;rw[aM (bF h q2).symm];exact q2
 ·intro b u q;by_cases hb:b=a
  ·subst hb;rw[aV] at q;cases q;exact⟨e,z1,z2,z3,z4,o,z5,z6,e,ex⟩
  ·rw[aM hb] at q;refine(I.hok b u q).stay (λc v _ w=>w) (λc w=>?_) λc xs w=>?_
   ·rw[aM (nM w h (by intro z;cases z))];exact w
   ·rw[aM (nM w h (by intro z;cases z))];exact w
theorem aeF  : QV X (.Dict [] [] pos) (cB .emp):=⟨by
 intro pins s σ H Q I q;obtain⟨H0,ρ,b,E,e,q⟩:=q;cases e;refine gU (Mu pins s σ H (λv H'=>∃ p,v=.ref p/\H p=none/\H'=upd H p (.dK [])) I λp hp=>⟨p,rfl,hp,rfl⟩) λu s1 hq=>?_;obtain⟨v,H1,I1,rv,p,rfl,hp,rfl⟩:=hq;obtain⟨o,I2⟩:=Nj I1 aV;refine⟨.ref p,_,I2,rv,q _ _ (λc ob hc=>?_) trivial ?_⟩
 ·rw[aM (bF hc hp),aM (bF hc hp)];exact hc
 ·simp only[bA,Rep];exact⟨p,o,rfl,aV⟩⟩
section
variable {prog:Program} {w:World} {A:Around} {E:VP_} {s:Shared}
end
theorem aQ.rev {K:FG_} {H:Hp}:∀ {ds:List Dt} {vs:List V},aQ K H ds vs->aQ K H ds.reverse vs.reverse
 |[],_,h=>by simp only[aQ] at h;subst h;exact aQ.nil
 |d::ds,_,h=>by
  simp only[aQ] at h;obtain⟨v,r,rfl,hd,hr⟩:=h;rw[KU,KU];exact aQ.append (aQ.rev hr) (aQ.cons hd aQ.nil)
end
section
variable {X:Cx} {e:Expr} {f:Ev->Option Bx}
def Vi:Bx->Bx->Option Bx
 |.z (.int i),.z (.int j)=>some (.z (.bl (decide (i < j))))
 |.z (.str x),.z (.str y)=>some (.z (.bl (decide (x.cps.toList < y.cps.toList))))
 |_,_=>none
theorem Ai:HX X (compareOp .Lt) Vi:=by
 intro pins s σ H x y v u Q I rx ry h;obtain⟨a,b,c,ra,rb,e,q⟩:=h;unfold Vi at e;split at e
 ·rename_i i j;cases e;exact af3 pins s σ H x y v u Q I rx ry ⟨i,j,LQ ra,LQ rb,q _ H (Same.refl H) trivial (by unfold bA;exact okT)⟩
 ·rename_i i j;cases e;obtain⟨rfl,_⟩:=HF ra;obtain⟨rfl,_⟩:=HF rb;obtain⟨t,rfl⟩:=rx;obtain⟨t',rfl⟩:=ry;exact PySem.P.lt_str ⟨.bl _,H,I,rfl,q _ H (Same.refl H) trivial (by unfold bA;exact okT)⟩
 ·cases e
def Bj:List Dt->Option LS_
 |[]=>some []
 |.str x::r=>(Bj r).bind λys=>some (x::ys)
 |_=>none
theorem wB {K:FG_} {H:Hp}:∀ {ds:List Dt} {vs:List V} {ys:LS_},aQ K H ds vs->Bj ds=some ys->vs=ys.map V.str/\∀ y∈ys,y.length<=sizeLine
 |[],_,_,h,e=>by cases e;simp only[aQ] at h;subst h;exact⟨rfl,λy hy=>by cases hy⟩
 |.str x::ds,_,_,h,e=>by
  simp only[Bj] at e;obtain⟨ys,e1,e2⟩:=bind_some e;cases e2;simp only[aQ] at h;obtain⟨v,r,rfl,hd,hr⟩:=h;obtain⟨rfl,hx⟩:v=.str x/\x.length<=sizeLine:=by simpa only[Rep] using hd
  obtain⟨rfl,h2⟩:=wB hr e1;refine⟨rfl,λy hy=>?_⟩;rcases List.mem_cons.mp hy with rfl|hy
  ·exact hx
  ·exact h2 y hy
 |.non::_,_,_,_,e=>by cases e
 |.bl _::_,_,_,_,e=>by cases e
 |.int _::_,_,_,_,e=>by cases e
 |.tup _::_,_,_,_,e=>by cases e
 |.lst _::_,_,_,_,e=>by cases e
 |.emp::_,_,_,_,e=>by cases e
theorem vA {K:FG_} {H:Hp}:∀ {ys:LS_},(∀ y∈ys,y.length<=sizeLine)->aQ K H (ys.map Dt.str) (ys.map V.str)
 |[],_=>aQ.nil
 |y::ys,h=>aQ.cons (by unfold Rep;exact⟨rfl,h y (zo ..)⟩) (vA λz hz=>h z (zr _ hz))
theorem tL:∀ {ys:LS_} {its:List Value},Vals (ys.map V.str) its->StrsAre its ys
 |[],_,h=>by cases h;exact .nil
 |y::ys,_,h=>by
  cases h with
  |cons r t=>
   obtain⟨tk,rfl⟩:=r;exact .cons y tk (tL t)
theorem wC:∀ {its:List Value} {ys:LS_},StrsAre its ys->Vals (ys.map V.str) its
 |_,_,.nil=>.nil
 |_,_,.cons y t h=>.cons ⟨t,rfl⟩ (wC h)
def LR (a b:Str):Prop:=ltCps b.cps.toList a.cps.toList=false
theorem yU:∀ (p:Str) (l:LS_),risingS p l=true->(p::l).Pairwise LR
 |p,[],_=>by simp
 |p,x::r,h=>by
  have h':(!ltCps x.cps.toList p.cps.toList&&risingS x r)=true:=h;rw[ZE] at h';have ih:=yU x r h'.2;have hx:LR p x:=by simpa[LR] using h'.1
  refine List.pairwise_cons.mpr ⟨λy hy=>?_,ih⟩;rcases List.mem_cons.mp hy with rfl|hy
  ·exact hx
  ·have hxy:LR x y:=kz ih hy;unfold LR at hx hxy ⊢;rw[ltCps_eq] at hx hxy ⊢;simp only[kf] at hx hxy ⊢;exact List.le_trans (α:=Nat) hx hxy
theorem Kg {l:LS_} (h:sortedS l=true):l.Pairwise LR:=by
 cases l with
 |nil=>exact .nil
 |cons p l=>exact yU p l h
theorem Nk {a b:Str} (h:LR a b) (h':LR b a):a=b:=by
 unfold LR at h h';rw[ltCps_eq] at h h';simp only[kf] at h h';have:=List.le_antisymm (as:=a.cps.toList) (bs:=b.cps.toList) h h';cases a;cases b;simp only[Str.mk.injEq];exact Array.toList_inj.mp this
theorem DG:∀ {l l':LS_},l.Perm l'->l.Pairwise LR->l'.Pairwise LR->l=l'
 |[],l',h,_,_=>by rw[List.nil_perm.mp h]
 |a::l,[],h,_,_=>by cases List.perm_nil.mp h
 |a::l,b::l',h,p,p'=>by
  have e:a=b:=by
   have ha:a∈b::l':=h.mem_iff.mp (zo ..);have hb:b∈a::l:=h.mem_iff.mpr (zo ..);rcases List.mem_cons.mp ha with h1|h1
   ·exact h1
   ·rcases List.mem_cons.mp hb with h2|h2
    ·exact h2.symm
    ·exact Nk (kz p h2) (kz p' h1)
  subst e;rw[DG ((List.perm_cons a).mp h) (List.pairwise_cons.mp p).2 (List.pairwise_cons.mp p').2]
def Vj (a b:Str):Bool:=!ltCps b.cps.toList a.cps.toList
def je (ys:LS_):LS_:=ys.mergeSort Vj
theorem eN (ys:LS_):(je ys).Perm ys:=List.mergeSort_perm ys Vj
theorem pU (ys:LS_):(je ys).Pairwise LR:=by
 have h:=List.pairwise_mergeSort (le:=Vj) (λa b c h1 h2=>by
  unfold Vj at *
  rw[ltCps_eq] at *
  simp only[kR,kf] at *
  exact List.le_trans (α:=Nat) h1 h2) (λa b=>by
  unfold Vj;rw[ltCps_eq,ltCps_eq];simp only[kK,kR,kf];exact List.le_total a.cps.toList b.cps.toList) ys
 exact h.imp λ{a b} hh=>by simpa[Vj,LR] using hh
theorem Np {ys zs:LS_} (hp:zs.Perm ys) (hs:sortedS zs=true):zs=je ys:=DG (hp.trans (eN ys).symm) (Kg hs) (pU ys)
def Jm (x:Str) (b:Bx):Option Bx:=(rC b).bind λds=>(Bj ds).bind λys=>if(ys.map (·.length)).sum+ys.length * x.length<=100000 then some (.z (.str (Txt.join x ys))) else none
theorem abd:MtR X "str.join" (λx xs H Q=>∃ y p ys,x=.str y/\xs=[.ref p]/\sX X.K H p (ys.map V.str)/\(ys.map (·.length)).sum+ys.length * y.length<=100000/\Q (.str (Txt.join y ys)) H):=by
 intro pins s σ H x xs v us Q I rx rs h;obtain⟨y,p,ys,rfl,rfl,sq,hb,q⟩:=h;obtain⟨t,rfl⟩:=rx;obtain⟨u,rfl,ru⟩:=vals1 rs;cases ru;obtain⟨its,r',pl,hz⟩:=I.list sq;exact join_list pl.isList (tL r') (by omega) λt' k=>⟨.str _,H,I.tok _,⟨_,rfl⟩,q⟩
theorem SN {x:Str} {j:Nat} {p1 apos cpos:Pos} (h:QV X e f) (hx:x.length<=sizeLine:=by decide) (hbase:attributeBase (.Constant (.str x) j p1) "join" X.env (eval (.Constant (.str x) j p1) X.env)=eval (.Constant (.str x) j p1) X.env:=by rfl) (hfew:((backTo cpos (starEach [e] X.env)).all (λx=>!x.1)&&(backToKw cpos (keywordEach [] X.env)).all (λx=>x.1.isSome)&&decide ([e].length+([]:List Keyword).length+(if([]:List Keyword).isEmpty then 0 else 1) < 30))=true:=by rfl) (hline:(apos.endLine==cpos.line)=true:=by rfl) (hs:starEach [e] X.env=(false,eval e X.env)::starEach [] X.env:=by rfl):QV X (.Call (.Attribute (.Constant (.str x) j p1) "join" apos) [e] [] cpos) (b1 (Jm x) f):=⟨have h:=h.run;z9 (Et (T := "str") Kb F.slot_str_join F.type_str_join abd (Xi (hx:=hx)) (pQ h wz hs) hbase hfew hline hs rfl) λσ H Q q=>by
  obtain⟨H0,ρ,c,E,e,q⟩:=q;obtain⟨a,ea,e⟩:=bind_some e;refine⟨H0,ρ,_,E,rfl,λv H1 s1 n1 r1=>?_⟩;obtain⟨rfl,hx'⟩:v=.str x/\x.length<=sizeLine:=by simpa only[bA,Rep] using r1
  refine⟨rfl,H0,ρ,[a],E.grow s1,by simp only[ao,ea,QN],λvs H2 s2 r2=>?_⟩;obtain⟨w,rfl,rw1⟩:=rep1 r2;unfold Jm at e;obtain⟨ds,ed,e⟩:=bind_some e;obtain⟨ys,ey,e⟩:=bind_some e;split at e
  ·rename_i hb;cases e;obtain⟨p,ws,rfl,sq,rs⟩:=rw1.Jf ed;obtain⟨rfl,hy⟩:=wB rs ey;refine⟨x,p,ys,rfl,rfl,sq,hb,q _ _ (s1.trans s2) trivial ?_⟩;unfold bA Rep;exact⟨rfl,joinOk_length (joinOk_of (by omega))⟩
  ·cases e⟩
end
section
variable {X:Cx}
def XM:List Bx->Option Bx
 |[.z (.int a),.z (.int b)]=>some (.z (.int (if b > a then b else a)))
 |_=>none
theorem ac0 {K:FG_} {H:Hp} {a b:Bx} {vs:List V} (h:qy K H [a,b] vs):∃ v w,vs=[v,w]/\bA K H a v/\bA K H b w:=by
 cases h with
 |cons p t=>
  cases t with
  |cons p' t'=>cases t';exact⟨_,_,rfl,p,p'⟩
theorem aeG (hc:X.calm=true):yL X (.builtin "max") XM:=by
 intro pins s σ H xs us Q I r h;obtain⟨bs,c,rb,e,q⟩:=h;unfold XM at e;split at e
 ·rename_i a b;cases e;obtain⟨v,w,rfl,r1,r2⟩:=ac0 rb;have hv:=LQ r1;have hw:=LQ r2;subst hv hw;obtain⟨u,u',rfl,ru,ru'⟩:=Vals.two r;obtain⟨t,rfl⟩:=ru;obtain⟨t',rfl⟩:=ru';refine max_two_ints (I.ok.hd hc) λh' tk kp=>?_;by_cases hb:b > a
  ·rw[zh hb] at q ⊢;exact⟨.int b,H,I.kept kp,⟨_,rfl⟩,q _ H (Same.refl H) trivial Ci⟩
  ·rw[zC hb] at q ⊢;exact⟨.int a,H,I.kept kp,⟨_,rfl⟩,q _ H (Same.refl H) trivial Ci⟩
 ·cases e
end
def Fp (kvs:List (Key×Dt)) (x:Key):Option Dt:=(kvs.find? λkv=>decide (kv.1=x)).map (·.2)
def QW (kvs:List (Key×Dt)) (x:Key) (d:Dt):List (Key×Dt):=
 if(kvs.any λkv=>decide (kv.1=x))=true then kvs.map (λkv=>if kv.1=x then(kv.1,d) else kv) else kvs++[(x,d)]
section
variable {K:FG_} {H:Hp}
theorem iZ.nil:iZ K H [] []:=⟨rfl,aQ.nil,λp hp=>by cases hp⟩
theorem iZ.inv {p:Key×Dt} {kvs:List (Key×Dt)} {ks:List (Key×V)} (h:iZ K H (p::kvs) ks):∃ v r,ks=(p.1,v)::r/\Rep K H p.2 v/\okK p.1/\iZ K H kvs r:=by
 obtain⟨h1,h2,h3⟩:=h;cases ks with
 |nil=>simp at h1
 |cons q r=>
  simp only[zw,KF] at h1;obtain⟨e,h1⟩:=h1;simp only[zw,aQ] at h2;obtain⟨v,r',e2,hv,hr⟩:=h2;simp only[KF] at e2;obtain⟨rfl,rfl⟩:=e2;exact⟨q.2,r,by rw[<-e],hv,h3 p (zo ..),h1,hr,λx hx=>h3 x (zr _ hx)⟩
theorem iZ.cons {p:Key×Dt} {kvs:List (Key×Dt)} {v:V} {r:List (Key×V)} (hv:Rep K H p.2 v) (hp:okK p.1) (h:iZ K H kvs r):iZ K H (p::kvs) ((p.1,v)::r):=
 ⟨by simp[h.1],aQ.cons hv h.2.1,λx hx=>by
  rcases List.mem_cons.mp hx with rfl|hx
  ·exact hp
  ·exact h.2.2 x hx⟩
theorem iZ.append {kvs:List (Key×Dt)} {ks:List (Key×V)} {x:Key} {d:Dt} {v:V} (h:iZ K H kvs ks) (hv:Rep K H d v) (hx:okK x):iZ K H (kvs++[(x,d)]) (ks++[(x,v)]):=
 ⟨by simp[h.1],by rw[qf,qf];exact aQ.append h.2.1 (aQ.cons hv aQ.nil),λp hp=>by
  rcases List.mem_append.mp hp with hp|hp
  ·exact h.2.2 p hp
  ·cases List.mem_singleton.mp hp;exact hx⟩
theorem iZ.len {kvs:List (Key×Dt)} {ks:List (Key×V)} (h:iZ K H kvs ks):ks.length=kvs.length:=by
 have:=congrArg List.length h.1;simpa using this
theorem iZ.look:∀ {kvs:List (Key×Dt)} {ks:List (Key×V)} {x:Key} {d:Dt},iZ K H kvs ks->Fp kvs x=some d->∃ v,yd ks x=some v/\Rep K H d v
 |[],_,_,_,_,e=>by cases e
 |p::kvs,_,x,d,h,e=>by
  obtain⟨v,r,rfl,hv,hpl,hr⟩:=h.inv;unfold Fp at e;by_cases hp:p.1=x
  ·rw[List.find?_cons_of_pos (by simpa using hp)] at e;cases e;exact⟨v,uW (by rw[hp]),hv⟩
  ·rw[List.find?_cons_of_neg (by simpa using hp)] at e;obtain⟨w,e1,e2⟩:=iZ.look hr e;exact⟨w,(uX (by simpa using hp)).trans e1,e2⟩
theorem iZ.any:∀ {kvs:List (Key×Dt)} {ks:List (Key×V)} {x:Key},iZ K H kvs ks->(ks.any λkv=>decide (kv.1=x))=kvs.any λkv=>decide (kv.1=x)
 |[],ks,_,h=>by
  have:=h.len;cases ks with
  |nil=>rfl
  |cons _ _=>simp at this
 |p::kvs,_,x,h=>by
  obtain⟨v,r,rfl,hv,hpl,hr⟩:=h.inv;rw[JY,JY,iZ.any hr]
theorem iZ.XQ:∀ {kvs:List (Key×Dt)} {ks:List (Key×V)} {x:Key} {d:Dt} {v:V},iZ K H kvs ks->Rep K H d v->iZ K H (kvs.map λkv=>if kv.1=x then(kv.1,d) else kv) (ks.map λkv=>if kv.1=x then(kv.1,v) else kv)
 |[],ks,_,_,_,h,_=>by
  have:=h.len;cases ks with
  |nil=>exact iZ.nil
  |cons _ _=>simp at this
 |p::kvs,_,x,d,v,h,hd=>by
  obtain⟨w,r,rfl,hw,hpl,hr⟩:=h.inv;rw[zw,zw];have ih:=iZ.XQ (x:=x) hr hd;by_cases hp:p.1=x
  ·rw[zh hp,zh (by simp[hp])];exact iZ.cons (p:=(p.1,d)) hd hpl ih
  ·rw[zC hp,zC (by simpa using hp)];exact iZ.cons hw hpl ih
theorem iZ.put {kvs:List (Key×Dt)} {ks:List (Key×V)} {x:Key} {d:Dt} {v:V} (h:iZ K H kvs ks) (hv:Rep K H d v) (hx:okK x):iZ K H (QW kvs x d) (putK ks x v):=by
 unfold QW putK;rw[h.any];split
 ·exact h.XQ hv
 ·exact h.append hv hx
end
section
variable {X:Cx} {e ek o:Expr} {f fk fo:Ev->Option Bx} {pos pos':Pos}
theorem abf  : QV X (.Dict [] [] pos) (λ_=>some (.m [] none)):=⟨z9 Mu λσ H Q h=>by
 obtain⟨H0,ρ,b,E,e,q⟩:=h;cases e;intro p hp;exact q _ _ (bI hp) (λa ea=>by cases ea;exact hp) ⟨p,[],rfl,aV,iZ.nil,λb h=>by cases h⟩⟩
def kyB:Bx->Option Key
 |.z (.str x)=>some (.inr x)
 |.z (.int i)=>some (.inl i)
 |_=>none
theorem SQ {K:FG_} {H:Hp} {b:Bx} {k:Key} {v:V} (e:kyB b=some k) (r:bA K H b v):v=kV k/\okK k:=by
 unfold kyB at e;split at e
 ·cases e;simp only[bA,Rep] at r;exact r
 ·cases e;simp only[bA,Rep] at r;exact⟨r,trivial⟩
 ·cases e
def Jo:Bx->Bx->Option Bx
 |.n kvs,b=>(kyB b).bind λk=>(Fp kvs k).bind λd=>some (.z d)
 |_,_=>none
theorem QX {a b c:Bx} (h:Jo a b=some c):∃ kvs k d,a=.n kvs/\kyB b=some k/\Fp kvs k=some d/\c=.z d:=by
 unfold Jo at h;split at h
 ·obtain⟨k,ek,h⟩:=bind_some h;obtain⟨d,ed,h⟩:=bind_some h;cases h;exact⟨_,k,d,rfl,ek,ed,rfl⟩
 ·cases h
theorem abg (hu:X.A.units+100 < cLine) (ho:QV X o fo) (hk:QV X ek fk) (hs:ad8 ek:=by intro _ _;rfl):QV X (.Subscript o ek pos) (b2 Jo fo fk):=⟨have ho:=ho.run;have hk:=hk.run;z9 (aaO (by omega) ho hk hs) λσ H Q h=>by
 obtain⟨H0,ρ,c,E,e,q⟩:=h;obtain⟨a,ea,e⟩:=bind_some e;obtain⟨b,eb,e⟩:=bind_some e;refine⟨H0,ρ,a,E,ea,λv H1 s1 n1 r1=>⟨H0,ρ,b,E.grow s1,eb,λw H2 s2 n2 r2=>?_⟩⟩;obtain⟨kvs,x,d,rfl,ekx,ed,rfl⟩:=QX e;obtain⟨p,ks,rfl,rd,rm⟩:=r1.same s2;obtain⟨v',ev,rv⟩:=rm.look ed;obtain⟨rfl,_⟩:=SQ ekx r2;exact⟨p,v',rfl,.inl ⟨ks,x,rd,rfl,ev.symm⟩,q _ _ (s1.trans s2) trivial rv⟩⟩
def Nq (ρ:Ev) (i:Nat):Bx->Bx->Option Out
 |.z d,b=>(kyB b).bind λx=>match ρ[i]? with
  |some (some (.m kvs w))=>if kvs.length < 1000 then some (.nx (ρ.set i (some (.m (QW kvs x d) w)))) else none
  |_=>none
 |_,_=>none
def XR (i:Nat) (f fk:Ev->Option Bx):Ev->Option Out:=λρ=>(f ρ).bind λb=>(fk ρ).bind λk=>Nq ρ i b k
theorem QZ {ρ:Ev} {i:Nat} {b k:Bx} {r:Out} (h:Nq ρ i b k=some r):∃ d y kvs w,b=.z d/\kyB k=some y/\ρ[i]?=some (some (.m kvs w))/\kvs.length < 1000/\r=.nx (ρ.set i (some (.m (QW kvs y d) w))):=by
 unfold Nq at h;split at h
 ·obtain⟨y,ey,h⟩:=bind_some h;split at h
  ·rename_i hρ;split at h
   ·rename_i hl;cases h;exact⟨_,y,_,_,rfl,ey,hρ,hl,rfl⟩
   ·cases h
  ·cases h
 ·cases h
theorem abh (i:Nat) {x:Str} {p:Pos} (hu:X.A.units+100 < cLine) (he:QV X e f) (hk:QV X ek fk) (hN:X.N[i]?=some x:=by rfl) (hv:WD X.env.scope x:=by first|exact JA rfl|exact QO (JA rfl)|exact QO (QO rfl)) (hd:(x==("__debug__" : Str))=false:=by decide) (hcd:(x==("__classdict__" : Str))=false:=by decide) (hs:swapsWith e (some (.Subscript (.Name x p) ek pos')) pos.line X.env=pure false:=by rfl):Sq X (.Assign [.Subscript (.Name x p) ek pos'] e pos) (λρ=>(f ρ).bind λb=>(fk ρ).bind λk=>Nq ρ i b k):=⟨have he:=he.run;have hk:=hk.run;Wq (aaP (by omega) (sZ (i:=i) hN hv hd hcd) hk he hs) λD σ H h=>by
  obtain⟨H0,ρ,r,E,e,q⟩:=h;obtain⟨b,eb,e⟩:=bind_some e;obtain⟨k,ek,e⟩:=bind_some e;refine⟨H0,ρ,b,E,eb,λv H1 s1 n1 r1=>?_⟩;obtain⟨d,y,kvs,w0,rfl,eky,hρ,hl,rfl⟩:=QZ e;have E1:=E.grow s1;obtain⟨w,e1,a,ks,rfl,ha,rm,tie⟩:=E1.val i _ hρ;refine⟨_,e1,H0,ρ,_,E1,ek,λu H2 s2 n2 r2=>?_⟩;obtain⟨rfl,hyl⟩:=SQ eky r2;have E2:=E1.grow s2;have ha2:=s2 _ _ ha;have kp:Kp H2 (upd H2 a (.dK (putK ks y v))):=.dk ha2;refine⟨a,_,rfl,QC.k (k:=y) ha2 (by rw[rm.len];exact Nat.lt_trans hl (by decide)),q _ _ ?_⟩;exact E2.aef hρ rfl e1 kp ⟨a,_,rfl,aV,((rm.kp (.of s2)).put (x:=y) (bA.same s2 r1) hyl).kp kp,tie⟩⟩
end
section
variable {X:Cx} {a b c e:Expr} {es:List Expr} {fa fb fc f:Ev->Option Bx} {fs:Ev->Option (List Bx)} {pos:Pos}
theorem aR {x:Str} {j} (hx:x.length<=sizeLine:=by decide):QV X (.Constant (.str x) j pos) (cB (.str x)):=⟨P1.Xi (hx:=hx)⟩
end
section
variable {X:Cx} {a b c e:Expr} {es:List Expr} {fa fb fc f:Ev->Option Bx} {fs:Ev->Option (List Bx)} {pos:Pos}
variable {p q:Ev->Option Bool} {rest:List Expr}
theorem aj (h1:QV X e f) (h2:Sh X es fs) (hs:starEach (e::es) X.env=(false,eval e X.env)::starEach es X.env:=by rfl):Sh X (e::es) (ao f fs):=⟨P1.pQ (h1:=h1.run) (h2:=h2.run) (hs:=hs)⟩
theorem aB  : Sh X [] (λ_=>some []):=⟨P1.wz ⟩
end
theorem ai6 {P:Program} {w:World} {K:FG_} {mg:Str->Option Value} {base:Heap} {x qual:Str} {st:Stmt} {f:Addr} {fd:FuncData} {N ps:LS_} {k n m:Nat} {g:Ev->Option Out} (F:HD K x qual st f fd) (S:bw N ps (aF st)) (hn:N.length=n) (hm:ps.length=m)
  (hbody:∀ (cdv:Value) (A:Around) (outer:List Env) (s:Shared) (H:Hp) (E:XK),gW k (A.deeper (envOfC qual (aF st) s.heap.objs.size f cdv))->QG (wY xq P w K mg base N qual (aF st) f cdv A outer s H E).Mj (f9 st) g) :
  eZ P w K mg base xq (k+1) f fd ps (Wr K m (dW n g)):=ai4 F S hn hm λcdv A outer s H E hr=>(hbody cdv A outer s H E hr).run
section
variable {prog:Program} {w:World} {A:Around} {E:VP_} {s:Shared}
theorem Kh {d:Addr} {kvs:List (Key×Value)} {ep:Nat} {Q:List Value->Shared->Prop} (hh:A.handled=none) (hd:(d==sysModules)=false) (hm:s.heap.DictAt (dh prog w) d kvs ep) (hn:kvs.length<=sizeLine)
  (hQ:∀ s' acc,s.heap.objs.size<=s'.heap.objs.size->(∀ b o,s.heap.get? b=some o->s'.heap.get? b=some o)->s'.gens=s.gens->s'.drawn=s.drawn->s'.os=s.os->ItemsOf (λi v=>∃ k x,kvs[i]?=some (k,x)/\(dh prog w).is k v=true) acc kvs.length->Q acc.toList s') :
  wpAny (model prog w) A (collect (.ref d)) Q E s:=by
 have hT:s.TypeIs (.ref d) "dict" := hm.dictOf.typeIs;have hlt:d < s.heap.objs.size:=by obtain⟨o,_,ho,_⟩:=hm;exact zv ho
 unfold collect;refine zb (wpAny_runValue (JE F.entry_proto_collect ?_));rw[Around.under_plainId F.plain_proto_collect _];show wpAny _ A.in1 (newList [] >>= λl=>again (.builtin "list.__iadd__" ⟨[l,.ref d],[]⟩)) _ _ s;refine zb (qh (ze ⟨plainId_quiet K0 _,JE F.entry_list_iadd ?_⟩));rw[Around.under_plainId K0 _];show wpAny _ A.in1 (Builtin.List.listExtendWith (.ref s.heap.objs.size) (.ref d) (.ref s.heap.objs.size)) _ _ _;unfold Builtin.List.listExtendWith;have hm1:=hm.at' (h':=s.heap.push { cls:=.type "list", data:=.seq ([]:List Value).toArray }) λo e=>zd _ e;refine zb (jv (T := "dict") hm1.dictOf.typeIs ?_);have h1:Builtin.List.listSameRef (.ref s.heap.objs.size) (.ref d)=false:=by simp[Builtin.List.listSameRef];exact Q3 hlt
 simp only[h1,show(Value.type "dict" == Value.type "list")=false by decide,show(Value.type "dict" == Value.type "tuple")=false by decide,Bool.or_false,Zs,Qb];refine zb (wpAny_pyIter_dict hd hm1 ?_);refine zb (qV ?_);have hm2:=hm1.at' (h':=(s.heap.push { cls:=.type "list", data:=.seq ([]:List Value).toArray }).push { cls:=.type "dict_keyiterator", data:=.fields #[.ref d,.int 0 0,.int kvs.length 0,.int ep 0] }) λo e=>zd _ e;unfold Builtin.List.listLengthHint;refine zb (wpAny_specialOf (T := "dict") hm2.dictOf.typeIs F.slot_dict_len.lookup ?_)
 wp_delta
 refine zb (kc (T := "dict") (b:=true) hm2.dictOf.typeIs (by rw[isSubtype_type];kernel_rfl) ?_);show wpAny _ A.in1 (typeOf (Value.ref d) >>= _) _ _ _;refine zb (jv (T := "dict") hm2.dictOf.typeIs (ze ?_));rw[zh (by decide)];show wpAny _ A.in1 (Builtin.List.listTouch (Value.ref s.heap.objs.size) >>= λ_=>again (Code.builtin "list.extend.loop" ⟨[Value.ref s.heap.objs.size,Value.ref (s.heap.push { cls:=.type "list", data:=.seq ([]:List Value).toArray }).objs.size,Value.ref s.heap.objs.size],[]⟩)) _ _ _;generalize hH:(s.heap.push { cls:=.type "list", data:=.seq ([]:List Value).toArray })=H at hm1 hm2 ⊢;have hHs:H.objs.size=s.heap.objs.size+1:=by rw[<-hH,ZT]
 generalize hG:H.push { cls:=.type "dict_keyiterator", data:=.fields #[.ref d,.int 0 0,.int kvs.length 0,.int ep 0] }=G at hm2 ⊢;have hS:G.get? s.heap.objs.size=some (seqObj "list" #[] 0):=by
  rw[<-hG];refine zd _ ?_;rw[<-hH];exact zl _ rfl
 have hI:G.get? H.objs.size=some { cls:=.type "dict_keyiterator", data:=.fields #[.ref d,.int 0 0,.int kvs.length 0,.int ep 0] }:=by
  rw[<-hG];exact zl _ rfl
 unfold Builtin.List.listTouch;refine zb (zb (listUpdate_at hS rfl (listUpdate_at (get?_update_seq hS _) rfl ?_ (by show _<=_;decide) (by show _<=_;decide)) (by show _<=_;decide) (by show _<=_;decide)));have hIS:H.objs.size≠s.heap.objs.size:=by omega
 have hdS:d≠s.heap.objs.size:=Zl hlt;have hS3:=get?_update_seq (get?_update_seq hS (λx=>x.push Value.none)) (λx=>x.pop);generalize hU:(G.update s.heap.objs.size (Obj.mapSeq λx=>x.push Value.none)).update s.heap.objs.size (Obj.mapSeq λx=>x.pop)=U at hS3;have keep:∀ b,b≠s.heap.objs.size->U.get? b=G.get? b:=λb hb=>by rw[<-hU,kB _ _ _ _ hb,kB _ _ _ _ hb]
 have st0:U.IsKeyIter H.objs.size d 0 kvs.length ep/\U.DictAt (dh prog w) d kvs ep:=⟨⟨_,(keep _ hIS).trans hI,rfl,rfl⟩,hm2.at' λo e=>(keep d hdS).trans e⟩;show wpAny _ A.in1 (again _) _ _ { s with heap:=U };have hSf:s.heap.objs.size∉[H.objs.size,d]:=λh=>by
  simp only[qv,qr,or_false] at h;rcases h with h|h
  ·exact hIS h.symm
  ·exact hdS h.symm
 refine ze ⟨plainId_quiet F.plain_extend_loop _,codeAny_extend_loopS (Walks.dictKeys (A:=A.in1) hh H.objs.size d (Zl (hHs▸Qr hlt)) kvs ep).toS hn s.heap.objs.size hSf _ kvs.length 0 { s with heap:=U } #[] _ rfl (qi _) st0 hS3 (ItemsOf.nil _) λs' acc' c' mv hS' hacc=>?_⟩;show wpAny _ A (load s.heap.objs.size >>= _) _ _ s';refine zb (KO hS' (ze (hQ s' acc' (JJ (zv hS')) (λb ob e=>?_) mv.gens mv.drawn mv.os hacc)));have hb:=zv e;refine mv.heap b ob (λh=>?_) ((keep b (Zl hb)).trans ?_)
 ·simp only[qv,qr,or_false] at h;rcases h with h|h
  ·exact Zl hb h
  ·rw[h,hHs] at hb;exact absurd hb (Nat.not_lt.mpr (ki _))
 ·rw[<-hG];refine zd _ ?_;rw[<-hH];exact zd _ e
theorem Bl:∀ (vs:List Value) (ys:LS_),vs.length=ys.length->(∀ (j:Nat) v,vs[j]?=some v->∃ y t,ys[j]?=some y/\v=.str y t)->StrsAre vs ys
 |[],[],_,_=>.nil
 |v::vs,y::ys,hl,h=>by
  obtain⟨y',t,e,rfl⟩:=h 0 v rfl;cases e;exact .cons y t (Bl vs ys (by simpa using hl) λj v hv=>h (j+1) v (by simpa using hv))
theorem Q0 {kvs:List (Key×Value)} {ys:LS_} (hk:kvs.map (·.1)=ys.map Sum.inr) {acc:Array Value} (h:ItemsOf (λi v=>∃ k x,kvs[i]?=some (k,x)/\(dh prog w).is k v=true) acc kvs.length):StrsAre acc.toList ys:=by
 have hl:kvs.length=ys.length:=by have:=congrArg List.length hk;simpa using this
 refine Bl _ _ (by rw[qE,h.1,hl]) λj v hv=>?_;obtain⟨k,x,e,hi⟩:=h.2 j v (by simpa using hv);have e1:(kvs.map (·.1))[j]?=some k:=by rw[ZO,e];rfl
 rw[hk,ZO] at e1;cases hy:ys[j]? with
 |none=>rw[hy] at e1;cases e1
 |some y=>
  rw[hy] at e1;cases e1;have hi':w6 (Sum.inr y) v=true:=hi;rcases cZ hi' with⟨i,t,e2,e3⟩|⟨z,t,e2,e3⟩
  ·cases e2
  ·cases e2;exact⟨_,t,rfl,e3⟩
theorem Nr {d:Addr} {kvs:List (Key×Value)} {ep:Nat} {ys:LS_} {Q:VP_} (hh:A.handled=none) (hd:(d==sysModules)=false) (hm:s.heap.DictAt (dh prog w) d kvs ep) (hk:kvs.map (·.1)=ys.map Sum.inr) (h64:ys.length < 64)
  (h:∀ (l:Addr) (h':Heap) (tk:Nat) (out:Array Value) (zs:LS_) (n:Nat),s.heap.objs.size<=l->(∀ b o,s.heap.get? b=some o->h'.get? b=some o)->h'.get? l=some (seqObj "list" out n)->StrsAre out.toList zs->zs.Perm ys->sortedS zs=true->Q (.ref l) { s with heap:=h',toks:=tk }) :
  wpAny (model prog w) A (call (.builtin "sorted") [.ref d]) Q E s:=by
 have hl:kvs.length=ys.length:=by have:=congrArg List.length hk;simpa using this
 refine Calls.call_function_entry kind_sorted plain_sorted entry_sorted (args_sorted1 _) ?_;unfold Builtin.«sorted»;refine zb (m:=checkCount "sorted" 1 1 _) (ze (zb (Kh (by exact hh) hd hm (zI (JJ (hl▸h64)) (by decide)) λs' acc hle ext hg hdr hos hit=>?_)));have hS:=Q0 hk hit;have hlen:acc.toList.length < 64:=by rw[qE,hit.1,hl];exact h64
 refine zb (wpAny_newList ?_);have hoL:(s'.heap.push (seqObj "list" acc.toList.toArray 0)).get? s'.heap.objs.size=some (seqObj "list" acc.toList.toArray 0):=zl _ rfl;refine zb (qV (ke slot_list_sort ⟨_,hoL,rfl⟩ entry_list_sort (list_sort_treeK strKind_oneLt hoL hS.keysOf (λv₁ v₂ rest e=>keyKind_strs (by rw[<-e];exact hS)) hlen λst' a1 a2=>⟨_,rfl,ze ⟨_,rfl,?_⟩⟩) (args_list_sort _)));obtain⟨zs,z1,z2,z3⟩:=sorted_out_str hS a1 a2;obtain⟨n,en⟩:=sortedHeap_at (out:=(arrOf st').map (·.2)) hoL;have key:=h s'.heap.objs.size _ s'.toks _ zs n hle (λb o e=>by
  have e1:=ext b o e;have hb:=zv e1;rw[sortedHeap_old (Zl hb) (by rw[ZT];exact Qr hb)];exact zd _ e1) en z1 z2 z3
 rw[<-hg,<-hdr,<-hos] at key;exact key
end
section
variable {X:Cx}
def Vk:List (Key×Dt)->Option LS_
 |[]=>some []
 |(.inr x,_)::r=>(Vk r).bind λys=>some (x::ys)
 |(.inl _,_)::_=>none
theorem wD:∀ {kvs:List (Key×Dt)} {ys:LS_},Vk kvs=some ys->kvs.map (·.1)=ys.map Sum.inr
 |[],_,e=>by cases e;rfl
 |(.inr x,_)::r,_,e=>by
  obtain⟨ys,e1,e⟩:=bind_some e;cases e;rw[zw,zw,wD e1]
 |(.inl _,_)::_,_,e=>by cases e
theorem abj {kvs:List (Key×Dt)} {ys:LS_} (e:Vk kvs=some ys) (h:∀ p∈kvs,okK p.1) (y:Str) (hy:y∈ys):y.length<=sizeLine:=by
 have:(Sum.inr y:Key)∈kvs.map (·.1):=by rw[wD e];exact List.mem_map.mpr ⟨y,hy,rfl⟩
 obtain⟨p,hp,ep⟩:=List.mem_map.mp this;have:=h p hp;rw[ep] at this;exact this
def Fq:List Bx->Option Bx
 |[.n kvs]=>(Vk kvs).bind λys=>if kvs.length < 64 then some (.o ((je ys).map Dt.str)) else none
 |_=>none
theorem S5:∀ {ks:List (Key×V)} {vs:List (Key×Value)},KV ks vs->vs.map (·.1)=ks.map (·.1)
 |_,_,.nil=>rfl
 |_,_,.cons h t=>by rw[zw,zw,S5 t,h.1]
theorem Q5 (hc:X.calm=true):yL X (.builtin "sorted") Fq:=by
 intro pins s σ H xs us Q I r h;obtain⟨bs,c,rb,e,q⟩:=h;unfold Fq at e;split at e
 ·rename_i kvs;obtain⟨ys,ey,e⟩:=bind_some e;have hlen:kvs.length=ys.length:=by have:=congrArg List.length (wD ey);simpa using this
  split at e
  ·rename_i h64;cases e;obtain⟨v,rfl,r1⟩:=rep1 rb;obtain⟨a,ks,rfl,rd,rm⟩:=r1;obtain⟨u,rfl,ru⟩:=vals1 r;cases ru;obtain⟨_,hsys,vs,kv,o,es,ep,dd⟩:=xg I.hok rd;have hk:vs.map (·.1)=ys.map Sum.inr:=by rw[S5 kv,rm.1];exact wD ey
   refine Nr (I.ok.hd hc) hsys ⟨o,es,dd⟩ hk (by omega) λl h' tk out zs n hle ext en z1 z2 z3=>?_;have ez:=Np z2 z3;subst ez;have hy:∀ y∈je ys,y.length<=sizeLine:=λy hy=>abj ey rm.2.2 y ((eN _).mem_iff.mp hy);have hl:=I.hok.fresh hle;refine⟨.ref l,_,I.laid (t':=tk) (a:=l) (o:=.lst ((je ys).map V.str)) ext hle ?_,rfl,q _ _ (bI hl) (λa ea=>by cases ea;exact hl) ⟨l,_,rfl,aV,vA hy⟩⟩;refine⟨by rw[zz,(eN _).length_eq,<-hlen];exact zI (JJ h64) (by decide),out.toList,n,wC z1,?_⟩;rw[en]
  ·cases e
 ·cases e
end
theorem bG.agN {K:FG_} {H0 H:Hp} {σ:L2.St} {ρ:Ev} (E:bG K H0 H σ ρ) (i:Nat):bG K H0 H σ (ρ.set i none):=by
 have back:∀ (j:Nat) (b:Bx),(ρ.set i none)[j]?=some (some b)->ρ[j]?=some (some b):=λj b e=>by
  rw[kQ] at e;split at e
  ·split at e<;>cases e
  ·exact e
 refine⟨by rw[qq];exact E.len,λj b e=>E.val j b (back j b e),λj k c a b e1 ec e2 e3 e4 e5=>E.own j k c a b (back _ _ e1) ec e2 (back _ _ e3) e4 e5,E.base,λj c a e1 ec e2=>E.new j c a (back _ _ e1) ec e2⟩
def kill (is:List Nat) (ρ:Ev):Ev:=is.foldl (λρ i=>ρ.set i none) ρ
theorem bG.kill {K:FG_} {H0 H:Hp} {σ:L2.St}:∀ (is:List Nat) {ρ:Ev},bG K H0 H σ ρ->bG K H0 H σ (P1.kill is ρ)
 |[],_,E=>E
 |i::is,_,E=>bG.kill is (E.agN i)
def iV (is:List Nat):Ev->Option Out:=λρ=>some (.nx (kill is ρ))
theorem XS {X:Cx} {ss:List Stmt} {g:Ev->Option Out} (is:List Nat) (h:R0 X ss g):R0 X ss (aD g (iV is)):=QD h λD σ H q=>by
 obtain⟨H0,ρ,r,E,e,q⟩:=q;obtain⟨r1,e1,e⟩:=bind_some e;refine⟨H0,ρ,r1,E,e1,?_⟩;cases r1 with
 |nx ρ1=>cases e;exact λσ' H' E'=>q σ' H' (E'.kill is)
 |rt b=>cases e;exact q
 |bk b=>cases e;exact q
 |ct b=>cases e;exact q
theorem cV {X:Cx} {ss:List Stmt} {g:Ev->Option Out} (is:List Nat) (h:QG X ss g):QG X ss (aD g (iV is)):=⟨XS is h.run⟩
end P1
end
section
namespace S1
open PySem PySem.Spec PyProof.Rows
section
variable (rk:Value->Nat)
def at_ (xs:Array Keyed) (i:Nat):Nat:=match xs[i]? with
 |some p=>rk p.1
 |none=>0
def Up (xs:Array Keyed) (k:Nat):Prop:=∀ i j,i<=j->j < k->at_ rk xs i<=at_ rk xs j
def Down (xs:Array Keyed) (k:Nat):Prop:=∀ i j,i<=j->j < k->at_ rk xs j<=at_ rk xs i
structure Bs (kd:SortKind) (b:Array Keyed) (st:SortSt):Prop where
 pm:(arrOf st).Perm b
 kd:kindOf st=kd
 fl:failedOf st=none
 pd:pendingOf st=#[]
variable {rk} {kd:SortKind} {b:Array Keyed}
theorem Bs.sz {st:SortSt} (h:Bs kd b st):(arrOf st).size=b.size:=h.pm.size_eq
theorem Bs.arr {st:SortSt} {xs:Array Keyed} (h:Bs kd b st) (hp:xs.Perm (arrOf st)):Bs kd b (PyProof.Rows.setArr st xs):=⟨hp.trans h.pm,h.kd,h.fl,h.pd⟩
theorem Nt {xs ys:Array Keyed} {i j:Nat} (h:xs[i]?=ys[j]?):at_ rk xs i=at_ rk ys j:=by unfold at_;rw[h]
theorem X3 {xs:Array Keyed} {i j:Nat} (hj:j<=xs.size) (k:Nat):at_ rk (mirror xs i j ((j - i) / 2)) k=if i<=k/\k < j then at_ rk xs (i+j - 1 - k) else at_ rk xs k:=by
 have e:=getElem?_mirror_all (i:=i) hj k;by_cases q:i<=k/\k < j
 ·simp only[zh q] at e ⊢;exact Nt e
 ·simp only[zC q] at e ⊢;exact Nt e
end
section
variable {prog:Program} {w:World} {A:Around} {E:VP_} {s:Shared} {b:Array Keyed} {kd:SortKind} {rk:Value->Nat}
def Cmp (prog:Program) (w:World) (A:Around) (s:Shared) (kd:SortKind) (rk:Value->Nat) (b:Array Keyed):Prop:=
 ∀ (E:VP_) (p q:Keyed) (Q:Bool->Shared->Prop),p∈b.toList->q∈b.toList->Q (decide (rk p.1 < rk q.1)) s->wpAny (model prog w) A (keyLt' kd p.1 q.1) Q E s
theorem agO {st:SortSt} {i j:Nat} {Q:Option Bool->SortSt->Prop} (hC:Cmp prog w A s kd rk b) (B:Bs kd b st) (hi:i < b.size) (hj:j < b.size)
  (h:Q (some (decide (at_ rk (arrOf st) i < at_ rk (arrOf st) j))) st):wpS (model prog w) A E s (ltAt' i j) Q st:=by
 have get:∀ k,k < b.size->∃ p,(arrOf st)[k]?=some p/\p∈b.toList:=λk hk=>by
  have hk':k < (arrOf st).size:=by rw[B.sz];exact hk
  exact⟨(arrOf st)[k],getElem?_pos _ k hk',(Array.perm_iff_toList_perm.mp B.pm).mem_iff.mp (by simp)⟩
 obtain⟨p,e1,m1⟩:=get i hi;obtain⟨q,e2,m2⟩:=get j hj;have h:Q (some (decide (rk p.1 < rk q.1))) st:=by unfold at_ at h;rw[e1,e2] at h;exact h
 rw[ltAt'_eq];refine wpS_bind (wpS_get ?_);show wpS _ _ _ _ (elem' (arrOf st) i >>= λx=>elem' (arrOf st) j >>= λy=>lt' x y) Q st;rw[elem'_eq,elem'_eq,e1,e2];refine wpS_bind (wpS_pure ?_);refine wpS_bind (wpS_pure ?_);rw[lt'_eq];refine wpS_bind (wpS_get ?_);rw[B.kd];exact wpS_bind (wpS_lift (wpAny_attempt (hC _ p q _ m1 m2 ⟨rfl,wpS_pure h⟩)))
theorem asc {st:SortSt} {a n:Nat} {Q:AscSt->SortSt->Prop} (hC:Cmp prog w A s kd rk b) (hn:n<=b.size) (ha:1<=a) (han:a<=n) (B:Bs kd b st) (hs:Up rk (arrOf st) a)
  (h:∀ m,a<=m->m<=n->Up rk (arrOf st) m->(m=n\/at_ rk (arrOf st) m < at_ rk (arrOf st) (m - 1))->Q (none,m) st):wpS (model prog w) A E s (ascLoop a n) Q st:=by
 unfold ascLoop;refine wpS_forRange (I:=λx c t=>t=st/\c=(none,x)/\Up rk (arrOf st) x) ?_ ?_ ⟨rfl,rfl,hs⟩
 ·rintro x c t hax hxn ⟨rfl,rfl,up⟩;refine wpS_bind (agO hC B (by omega) (by omega) ?_);by_cases q:at_ rk (arrOf t) x < at_ rk (arrOf t) (x - 1)
  ·simp only[q,decide_true,Jn];exact wpS_pure (h x hax (by omega) up (.inr q))
  ·simp only[q,decide_false,Zs,Qb];refine wpS_pure ⟨rfl,rfl,λi j hij hj=>?_⟩;by_cases hx:j < x
   ·exact up i j hij hx
   ·have e:j=x:=by omega
    subst e;by_cases hi:i=j
    ·rw[hi];exact zi _
    ·have:=up i (j - 1) (by omega) (by omega);omega
 ·rintro c t ⟨rfl,rfl,up⟩;rw[show max a n=n by omega] at up ⊢;exact h n han (zi _) up (.inl rfl)
theorem t3 {st:SortSt} {m n:Nat} {Q:Option Nat->SortSt->Prop} (hC:Cmp prog w A s kd rk b) (hn:n<=b.size) (h1:1<=m) (hmn:m<=n) (B:Bs kd b st) (hs:Down rk (arrOf st) m)
  (h:∀ k t,Bs kd b t->1<=k->k<=n->Up rk (arrOf t) k->Q (some k) t):wpS (model prog w) A E s (tail3 m n) Q st:=by
 unfold tail3;have hz:m<=(arrOf st).size:=by rw[B.sz];omega
 refine wpS_bind (wpS_reverse ?_);have B':Bs kd b (PyProof.Rows.setArr st (mirror (arrOf st) 0 m ((m - 0) / 2))):=B.arr (mirror_perm _ _ _ _);refine wpS_bind (asc hC hn h1 hmn B' (λi j hij hj=>?_) λk k1 k2 up _=>wpS_pure (h k _ B' (by omega) k2 up));show at_ rk (mirror (arrOf st) 0 m ((m - 0) / 2)) i<=at_ rk (mirror (arrOf st) 0 m ((m - 0) / 2)) j;rw[X3 hz,X3 hz,zh ⟨by omega,by omega⟩,zh ⟨by omega,by omega⟩];exact hs _ _ (by omega) (by omega)
def Dn (kd:SortKind) (rk:Value->Nat) (b:Array Keyed) (st:SortSt):Prop:=(arrOf st).Perm b/\failedOf st=none/\pendingOf st=#[(0,b.size,0)]/\Up rk (arrOf st) b.size
theorem Bs.dn {st:SortSt} (B:Bs kd b st) (up:Up rk (arrOf st) b.size):Dn kd rk b (setPending st ((pendingOf st).push (0,b.size,0))):=⟨B.pm,B.fl,(by show(pendingOf st).push _=_;rw[B.pd];rfl),up⟩
end
end S1
end
section
namespace S1
open PySem PySem.Spec PyProof.Rows L2
def ltK:Key->Key->Bool
 |.inl a,.inl b=>decide (a < b)
 |.inr x,.inr y=>decide (x.cps.toList < y.cps.toList)
 |.inl _,.inr _=>true
 |.inr _,.inl _=>false
def ac2:Key->Key->Bool
 |.inl _,.inl _=>true
 |.inr _,.inr _=>true
 |_,_=>false
def agP:List Key->List Key->Bool
 |[],[]=>false
 |[],_::_=>true
 |_::_,[]=>false
 |x::xs,y::ys=>if x=y then agP xs ys else ltK x y
section
variable {prog:Program} {w:World} {A:Around} {E:VP_} {s:Shared}
def Ks (ks:List Key) (its:List Value):Prop:=Paired (λk v=>w6 k v=true) ks its
def turn (fb:Bool):(Value×Value)×Nat->Option Bool×Unit->Sem (ForInStep (Option Bool×Unit)):=λx _=>match x with
 |((p,q),i)=>do
  let e <-eqBool p q
  if(!e)=true then do
    let r <-oneLt' (fb&&i==0) p q
    pure (ForInStep.done (some r,()))
   else pure (ForInStep.yield (none,()))
end
def ai8 (xs ys:List Key):Bool:=!agP ys xs
def Vl (h:Heap) (ks:List Key) (v:Value):Prop:=∃ (a:Addr) (o:Obj) (its:List Value) (n:Nat),v=.ref a/\h.get? a=some o/\o.cls=.type "tuple" ∧ o.data=.seq its.toArray n/\Ks ks its
theorem Vl.keep {h h':Heap} {ks:List Key} {v:Value} (q:Vl h ks v) (k:∀ c o,h.get? c=some o->h'.get? c=some o):Vl h' ks v:=by
 obtain⟨a,o,its,n,e,g,c,d,p⟩:=q;exact⟨a,o,its,n,e,k _ _ g,c,d,p⟩
theorem abk {k l:Key} {v:Value} (h:w6 k v=true) (h':w6 l v=true):k=l:=by
 rcases cZ h with⟨i,t,rfl,rfl⟩|⟨x,t,rfl,rfl⟩
 ·rcases cZ h' with⟨j,u,rfl,e⟩|⟨y,u,rfl,e⟩
  ·cases e;rfl
  ·cases e
 ·rcases cZ h' with⟨j,u,rfl,e⟩|⟨y,u,rfl,e⟩
  ·cases e
  ·cases e;rfl
theorem Ks.inj:∀ {ks ls:List Key} {its:List Value},Ks ks its->Ks ls its->ks=ls
 |_,_,[],h,h'=>by cases h;cases h';rfl
 |_,_,v::its,h,h'=>by
  cases h with
  |cons p t=>cases h' with
   |cons p' t'=>rw[abk p p',Ks.inj t t']
theorem Vl.inj {h:Heap} {ks ls:List Key} {v:Value} (q:Vl h ks v) (q':Vl h ls v):ks=ls:=by
 obtain⟨a,o,its,n,rfl,g,c,d,p⟩:=q;obtain⟨a',o',its',n',e,g',c',d',p'⟩:=q';cases e;rw[g] at g';cases g';rw[d] at d';injection d' with e1 e2;have e3:its=its':=by simpa using congrArg Array.toList e1
 subst e3;exact p.inj p'
section
variable {prog:Program} {w:World} {A:Around} {E:VP_} {s:Shared}
end
end S1
end
section
namespace P1
open PySem PySem.Spec PyProof.Rows L2 S1
section
variable {prog:Program} {w:World} {A:Around} {E:VP_} {s:Shared}
end
def agQ:Dt->Option Key
 |.int i=>some (.inl i)
 |.str x=>some (.inr x)
 |_=>none
def Nu:List Dt->Option (List Key)
 |[]=>some []
 |d::ds=>(agQ d).bind λk=>(Nu ds).bind λks=>some (k::ks)
def S7:Dt->Option (List Key)
 |.tup ds=>Nu ds
 |_=>none
def dK:Key->Dt
 |.inl i=>.int i
 |.inr x=>.str x
section
variable {X:Cx}
def abl (k l:List Key):Bool:=((k.zip l).all λp=>ac2 p.1 p.2)
theorem S8 {K:FG_} {H:Hp} {b:Bx} {v:V} {ds:List Dt} (h:bA K H b v) (e:wZ b=some ds):∃ a vs,v=.ref a/\(sX K H a vs\/yG K H a vs)/\aQ K H ds vs:=by
 cases b with
 |z d=>
  cases d<;>first|(cases e;done)|skip
  ·cases e;simp only[bA,Rep] at h;obtain⟨a,vs,e,q,r⟩:=h;exact⟨a,vs,e,.inr q,r⟩
  ·cases e;simp only[bA,Rep] at h;obtain⟨a,vs,e,q,r⟩:=h;exact⟨a,vs,e,.inl q.sq,r⟩
 |l ds'=>cases e;obtain⟨a,vs,e,q,r⟩:=h;exact⟨a,vs,e,.inl (.inl q),r⟩
 |o ds'=>cases e;obtain⟨a,vs,e,q,r⟩:=h;exact⟨a,vs,e,.inl (.inl (.inl q)),r⟩
 |n _=>cases e
 |m _ _=>cases e
end
end P1
end
section
namespace S6
open PySem PySem.Spec PyProof.Rows
theorem Vm {M:Model} {A:Around} {E:VP_} {s:Shared} {src:Source} {n:Nat} {Q:Nat->Shared->Prop} (hn:n≠0) (h:∀ i d,i < n->Q i { s with drawn:=d }):wpAny M A (choose src n) Q E s:=
 λΓ p hΓ=>⟨hn,h _ _ (Nat.mod_lt _ (Nat.pos_of_ne_zero hn))⟩
theorem Kl {α:Type}:∀ {xs:List α} {i:Nat} (hi:i < xs.length),(xs[i]::xs.eraseIdx i).Perm xs
 |x::xs,0,_=>List.Perm.refl _
 |x::xs,i+1,h=>by
  rw[List.eraseIdx_cons_succ,List.getElem_cons_succ];exact(List.Perm.swap _ _ _).trans ((Kl (xs:=xs) (i:=i) (by simpa using h)).cons x)
theorem abm {M:Model} {A:Around} {E:VP_} {α:Type}:∀ (n:Nat) (xs:List α) (s:Shared) (Q:List α->Shared->Prop),xs.length=n->(∀ ys d,ys.Perm xs->Q ys { s with drawn:=d })->wpAny M A (drawOrder n xs) Q E s:=by
 intro n
 induction n with
 |zero=>
  intro xs s Q hl h;cases xs with
  |nil=>
   unfold drawOrder;exact ze (h [] s.drawn (List.Perm.refl _))
  |cons x xs=>simp at hl
 |succ n ih=>
  intro xs s Q hl h;cases xs with
  |nil=>simp at hl
  |cons x xs=>
   unfold drawOrder;refine zb (Vm (by simp) λi d hi=>?_);have e:(x::xs)[i]?=some (x::xs)[i]:=by simp[hi]
   rw[e];dsimp only;refine zb (ih ((x::xs).eraseIdx i) _ _ (by rw[List.length_eraseIdx,zh hi];simp at hl ⊢;omega) λys d' hp=>ze ?_);exact h _ d' ((List.Perm.cons _ hp).trans (Kl hi))
theorem S9 {α:Type} (next:Nat->Nat):∀ (n k:Nat) (xs:List α) (out:Array α),xs.length=n->(pickOrder.go next n k xs out).toList.Perm (out.toList++xs)
 |0,k,[],out,_=>by unfold pickOrder.go;simp
 |n+1,k,x::xs,out,hl=>by
  unfold pickOrder.go;have hi:next k % (x::xs).length < (x::xs).length:=Nat.mod_lt _ (by simp);have e:(x::xs)[next k % (x::xs).length]?=some (x::xs)[next k % (x::xs).length]:=by rw[qo hi]
  rw[e];dsimp only;refine(S9 next n (k+1) _ _ (by rw[List.length_eraseIdx,zh hi];simp at hl ⊢;omega)).trans ?_;rw[Array.toList_push,JP];exact(List.Perm.refl _).append (Kl hi)
theorem Vn {α:Type} (next:Nat->Nat) (xs:Array α):(pickOrder next xs).toList.Perm xs.toList:=by
 have:=S9 next xs.size 0 xs.toList #[] (by simp);simpa[pickOrder] using this
structure Wk (w:World) (h:Heap) (a:Addr) (es:Array (Int×Value)) (ep:Nat) (t:SetTable):Prop where
 at_:∃ o,h.get? a=some o/\o.cls=.type "set" ∧ o.data=.set es ep t
 fit:t.fits es.size=true
 led:w.params.followText "set-order" = false->t.led=true
 non:1 < es.size->t.plain=false
theorem Wk.keep {w:World} {h h':Heap} {a:Addr} {es:Array (Int×Value)} {ep:Nat} {t:SetTable} (x:Wk w h a es ep t) (k:∀ o,h.get? a=some o->h'.get? a=some o):Wk w h' a es ep t:=
 ⟨let ⟨o,e,r⟩:=x.at_;⟨o,k o e,r⟩,x.fit,x.led,x.non⟩
def It (h:Heap) (it a:Addr) (first:Value) (i n ep:Nat):Prop:=∃ o,h.get? it=some o/\o.cls=.type "set_iterator" ∧ o.data=.fields #[first,.int (i:Int) 0,.ref a,.int (n:Int) 0,.int (ep:Int) 0]
theorem It.keep {h h':Heap} {it a:Addr} {f:Value} {i n ep:Nat} (x:It h it a f i n ep) (k:∀ o,h.get? it=some o->h'.get? it=some o):It h' it a f i n ep:=
 let ⟨o,e,r⟩:=x;⟨o,k o e,r⟩
theorem It.ty {s:Shared} {it a:Addr} {f:Value} {i n ep:Nat} (x:It s.heap it a f i n ep):s.TypeIs (.ref it) "set_iterator" := let ⟨o,e,c,_⟩:=x;⟨o,e,c⟩
theorem ju:Slot "set_iterator" "__next__" "set_iterator.__next__" :=
 .of (owner := "set_iterator") (n := "__next__") (by rw[typeLookup_type,builtinLookup_eq_fast];kernel_rfl) (by decide +kernel) (by decide +kernel) (by decide +kernel)
  (by first|exact .inl (by decide +kernel)|exact .inr (by decide +kernel)) (by rw[isSubtype_type];kernel_rfl)
theorem yV:Slot "set_iterator" "__iter__" "set_iterator.__iter__" :=
 .of (owner := "set_iterator") (n := "__iter__") (by rw[typeLookup_type,builtinLookup_eq_fast];kernel_rfl) (by decide +kernel) (by decide +kernel) (by decide +kernel)
  (by first|exact .inl (by decide +kernel)|exact .inr (by decide +kernel)) (by rw[isSubtype_type];kernel_rfl)
theorem Ib:entryFor table "set_iterator.__next__" = some Builtin.«set_iterator.__next__»:=entryFor_of_tree (by kernel_rfl)
theorem Cj:entryFor table "set.__iter__" = some Builtin.«frozenset.__iter__»:=entryFor_alias (id' := "frozenset.__iter__") (by kernel_rfl) rfl (by decide +kernel) (by kernel_rfl)
theorem Ie:entryFor table "set_iterator.__iter__" = some Builtin.«dict_keyiterator.__iter__»:=entryFor_alias (id' := "dict_keyiterator.__iter__") (by kernel_rfl) rfl (by decide +kernel) (by kernel_rfl)
theorem X4:Manifest.owners.lookup (String.ofList "rotareti_tes".toList.reverse)=some Manifest.sig_set_iterator:=by kernel_rfl
theorem Km (a:Value):argsOk "set_iterator.__next__" ⟨[a],[]⟩:=by
 unfold argsOk;rw[signature?_of (id := "set_iterator.__next__") (n := "__txen__".toList) (o := "rotareti_tes".toList) (by kernel_rfl) X4];kernel_rfl
theorem Ko (a:Value):argsOk "set_iterator.__iter__" ⟨[a],[]⟩:=by
 unfold argsOk;rw[signature?_of (id := "set_iterator.__iter__") (n := "__reti__".toList) (o := "rotareti_tes".toList) (by kernel_rfl) X4];kernel_rfl
section
variable {prog:Program} {w:World} {A:Around} {E:VP_} {s:Shared} {it a:Addr} {i ep:Nat} {es:Array (Int×Value)} {t:SetTable}
theorem DK {first:Value} {Q:Option Value->Shared->Prop} (hit:It s.heap it a first i es.size ep) (hw:Wk w s.heap a es ep t)
  (h:wpAny (model prog w) A.in1 (if let .int slot _:=first then(do
    match <-setNext a slot.toNat (i:Int).toNat (ep:Int).toNat with
    |some (x,next)=>
     setField (.ref it) 0 (rawInt next)
     setField (.ref it) 1 (rawInt ((i:Int)+1))
     ret x
    |none=>setField (.ref it) 2 .none;raiseNew (<-newExc (.type "StopIteration") []))
   else(do
    let some places <-seqItems? first|unsupported "internal:set_iterator"
    match places[(i:Int).toNat]? with
    |some (.int place _)=>
     let x <-setNextDrawn a place.toNat (ep:Int).toNat
     setField (.ref it) 1 (rawInt ((i:Int)+1))
     ret x
    |some _=>unsupported "internal:set_iterator"
    |none=>setField (.ref it) 0 (rawInt 0);setField (.ref it) 2 .none;raiseNew (<-newExc (.type "StopIteration") []))) (λfin s'=>∃ v,fin=.done (.ret v)/\Q (some v) s') (λe s'=>s'.TypeIs e "StopIteration" ∧ Q none s') s):wpAny (model prog w) A (pyNext (.ref it)) Q E s:=by
 obtain⟨o,ho,hc,hd⟩:=id hit;obtain⟨oa,hoa,hca,hda⟩:=hw.at_;unfold pyNext;refine zb (wpAny_attempt (yf (name:=Str.ofString "__next__") hit.ty ju (ke ju hit.ty Ib ?_ (Km _))));unfold Builtin.«set_iterator.__next__»;refine zb (ze ?_);refine zb (wpAny_fieldsOf ho hd ?_);show wpAny _ _ (setEntries a >>= _) _ _ s;refine zb (wpAny_setEntries_of hoa hda hw.fit ?_);rw[zC (by simp)];refine ZN h (λfin s' hq=>?_) λe s' hq=>?_
 ·obtain⟨v,rfl,hv⟩:=hq;exact⟨v,rfl,ze hv⟩
 ·refine zb (kc (T := "StopIteration") (b:=true) hq.1 isSubtype_stop ?_);exact ze hq.2
theorem Tc {hp:Heap} {Q:Option Value->Shared->Prop} (hh:A.handled=none) (h:∀ h',(∀ b o,hp.get? b=some o->h'.get? b=some o)->Q none { s with heap:=h' }) :
  wpAny (model prog w) A.in1 (do raiseNew (<-newExc (.type "StopIteration") [])) (λ(fin:Fin) s'=>∃ v,fin=.done (.ret v)/\Q (some v) s') (λe s'=>s'.TypeIs e "StopIteration" ∧ Q none s') { s with heap:=hp }:=by
 refine zb ?_;simp only[newExc,newTuple];refine zb (qh ?_ (by size_fits));refine zb (m:=firstArgMember _ _) (wpAny_of_eq (a:=Value.none) (by first|rfl|(simp only[firstArgMember];rfl)) ?_);refine qh ?_ (by size_fits);simp only[raiseNew];refine zb (wpAny_handled ?_);rw[show A.in1.handled=none from hh];refine zb (ze (wpAny_throw ⟨⟨_,zl _ rfl,rfl⟩,?_⟩));exact h _ λb o e=>zd _ (zd _ e)
theorem It.put {h:Heap} {f:Value} {n:Nat} (hit:It h it a f i n ep) (x:Value):It (h.update it (Obj.mapFields (·.setIfInBounds 0 x))) it a x i n ep:=by
 obtain⟨o,ho,hc,hd⟩:=hit;exact⟨_,QA _ ho (kX (j0 hd _)),(Obj.cls_mapFields ..).trans hc,by rw[j0 hd];simp⟩
theorem It.step {h:Heap} {f:Value} {n:Nat} (hit:It h it a f i n ep):It (h.update it (Obj.mapFields (·.setIfInBounds 1 (rawInt ((i:Int)+1))))) it a f (i+1) n ep:=by
 obtain⟨o,ho,hc,hd⟩:=hit;exact⟨_,QA _ ho (kX (j0 hd _)),(Obj.cls_mapFields ..).trans hc,by rw[j0 hd];simp[rawInt]⟩
theorem It.field {f:Value} {n k:Nat} {x:Value} {A:Around} {Q:Unit->Shared->Prop} {E:VP_} (hit:It s.heap it a f i n ep) (hk:k < 5) (h:Q () { s with heap:=s.heap.update it (Obj.mapFields (·.setIfInBounds k x)) }):wpAny (model prog w) A (setField (.ref it) k x) Q E s:=by
 obtain⟨o,ho,hc,hd⟩:=hit;exact wpAny_setField ho hd (by simpa using hk) h
theorem rT {h:Heap} {f:Obj->Obj} {b:Addr} {o:Obj} (hb:b≠it) (e:h.get? b=some o):(h.update it f).get? b=some o:=by rw[kB _ _ _ _ hb];exact e
theorem X5 {slot next:Nat} {x:Value} {Q:Option Value->Shared->Prop} (hit:It s.heap it a (.int (slot:Int) 0) i es.size ep) (hw:Wk w s.heap a es ep t)
  (hS:∀ {A':Around} {E':VP_} {Q':Option (Value×Nat)->Shared->Prop},Q' (some (x,next)) s->wpAny (model prog w) A' (setNext a slot i ep) Q' E' s)
  (h:∀ h',It h' it a (.int (next:Int) 0) (i+1) es.size ep->(∀ b o,b≠it->s.heap.get? b=some o->h'.get? b=some o)->Q (some x) { s with heap:=h' }):wpAny (model prog w) A (pyNext (.ref it)) Q E s:=by
 refine DK hit hw ?_;show wpAny _ _ (setNext a slot i ep >>= _) _ _ s;refine zb (hS ?_);refine zb (hit.field (by decide) ?_);refine zb ((hit.put _).field (s:={ s with heap:=_ }) (by decide) ?_);exact ze ⟨x,rfl,h _ ((hit.put _).step) λb o hb e=>rT hb (rT hb e)⟩
theorem Ft {slot:Nat} {Q:Option Value->Shared->Prop} (hh:A.handled=none) (hit:It s.heap it a (.int (slot:Int) 0) i es.size ep) (hw:Wk w s.heap a es ep t)
  (hS:∀ {A':Around} {E':VP_} {Q':Option (Value×Nat)->Shared->Prop},Q' none s->wpAny (model prog w) A' (setNext a slot i ep) Q' E' s)
  (h:∀ h',(∀ b o,b≠it->s.heap.get? b=some o->h'.get? b=some o)->Q none { s with heap:=h' }):wpAny (model prog w) A (pyNext (.ref it)) Q E s:=by
 refine DK hit hw ?_;show wpAny _ _ (setNext a slot i ep >>= _) _ _ s;refine zb (hS ?_);refine zb (hit.field (by decide) (Tc hh λh' k=>h h' λb o hb e=>k b o (rT hb e)))
theorem abn {tp:Addr} {pl:List Nat} {ot:Obj} {c:Nat} {j:Nat} {x:Int×Value} {Q:Option Value->Shared->Prop} (hit:It s.heap it a (.ref tp) i es.size ep) (hw:Wk w s.heap a es ep t)
  (ht:s.heap.get? tp=some ot) (hd:ot.data=.seq (pl.map λ(k:Nat)=>rawInt (k:Int)).toArray c) (hj:pl[i]?=some j) (hx:es[j]?=some x)
  (h:∀ h',It h' it a (.ref tp) (i+1) es.size ep->(∀ b o,b≠it->s.heap.get? b=some o->h'.get? b=some o)->Q (some x.2) { s with heap:=h' }):wpAny (model prog w) A (pyNext (.ref it)) Q E s:=by
 refine DK hit hw ?_;show wpAny _ _ (seqItems? (.ref tp) >>= _) _ _ s;refine zb (m:=seqItems? (.ref tp)) ?_;unfold seqItems?;refine zb (KO ht ?_);rw[hd];refine ze ?_;dsimp only;rw[qS,show((pl.map λ(k:Nat)=>rawInt (k:Int)).toArray)[i]?=some (rawInt (j:Int)) by simp[hj]];show wpAny _ _ (setNextDrawn a j ep >>= _) _ _ s;obtain⟨oa,hoa,hca,hda⟩:=hw.at_;refine zb (m:=setNextDrawn a j ep) ?_;unfold setNextDrawn;refine zb (ko hoa hda hw.fit ?_);dsimp only;rw[zC (by simp),hx];refine ze ?_;refine zb (hit.field (by decide) ?_);exact ze ⟨x.2,rfl,h _ hit.step λb o hb e=>rT hb e⟩
theorem Nv {tp:Addr} {pl:List Nat} {ot:Obj} {c:Nat} {Q:Option Value->Shared->Prop} (hh:A.handled=none) (hit:It s.heap it a (.ref tp) i es.size ep) (hw:Wk w s.heap a es ep t)
  (ht:s.heap.get? tp=some ot) (hd:ot.data=.seq (pl.map λ(k:Nat)=>rawInt (k:Int)).toArray c) (hj:pl[i]?=none)
  (h:∀ h',(∀ b o,b≠it->s.heap.get? b=some o->h'.get? b=some o)->Q none { s with heap:=h' }):wpAny (model prog w) A (pyNext (.ref it)) Q E s:=by
 refine DK hit hw ?_;show wpAny _ _ (seqItems? (.ref tp) >>= _) _ _ s;refine zb (m:=seqItems? (.ref tp)) ?_;unfold seqItems?;refine zb (KO ht ?_);rw[hd];refine ze ?_;dsimp only;rw[qS,show((pl.map λ(k:Nat)=>rawInt (k:Int)).toArray)[i]?=none by simpa using hj];refine zb (hit.field (by decide) ?_);refine zb ((hit.put _).field (s:={ s with heap:=_ }) (by decide) (Tc hh λh' k=>h h' λb o hb e=>k b o (rT hb (rT hb e))))
theorem wF {Q:Bool->Shared->Prop} (h:Q (w.params.followText "set-order") s):wpAny (model prog w) A setsByText Q E s:=by
 unfold setsByText;exact zb (wpAny_askSetting (ze h))
theorem Kq {f:Value} {n:Nat} {Q:VP_} (hit:It s.heap it a f i n ep) (h:Q (.ref it) s):wpAny (model prog w) A (pyIter (.ref it)) Q E s:=by
 refine wpAny_pyIter_slot hit.ty yV (ke yV hit.ty Ie ?_ (Ko _));show wpAny _ _ (ret (.ref it)) _ _ s;exact ze ⟨_,rfl, "set_iterator", _,hit.ty,ju.lookup,h⟩
def Kr (w:World) (a:Addr) (ep:Nat) (es:Array (Int×Value)):List Value:=(pickOrder (w.params.setOrder a ep) es).toList.map (·.2)
theorem Aj:(Kr w a ep es).Perm (es.toList.map (·.2)):=(Vn _ _).map _
theorem Jp {slot:Nat} {Q:Option (Value×Nat)->Shared->Prop} (hf:w.params.followText "set-order" = true) (hw:Wk w s.heap a es ep t) (h:Q (((Kr w a ep es)[i]?).map λv=>(v,slot)) s):wpAny (model prog w) A (setNext a slot i ep) Q E s:=by
 obtain⟨oa,hoa,hca,hda⟩:=hw.at_;unfold setNext;refine zb (ko hoa hda hw.fit (zb (wF ?_)));rw[hf];simp only[↓reduceIte,bne_self_eq_false,Zs];refine zb (m:=setWalk a) ?_;unfold setWalk;refine zb (ko hoa hda hw.fit (zb (wF ?_)));rw[hf];simp only[↓reduceIte];refine zb (wpAny_askSetting (ze (ze ?_)));have e:(pickOrder (w.params.setOrder a ep) es)[i]?.map (λe=>(e.2,slot))=((Kr w a ep es)[i]?).map λv=>(v,slot):=by
  unfold Kr;rw[ZO,Option.map_map,Array.getElem?_toList];rfl
 rw[<-e] at h;exact h
theorem Q6 (hh:A.handled=none) (hf:w.params.followText "set-order" = true) (hne:a≠it) (c:es.size<=sizeLine):Walks prog w A it [it,a] [it] es.size (λi v=>(Kr w a ep es)[i]?=some v) (λi h=>It h it a (.int 0 0) i es.size ep/\Wk w h a es ep t) where
 sub:=λb hb=>by simp at hb;simp[hb]
 frame:=λ_ _ _ st hk=>⟨st.1.keep λo e=>hk it (by simp) o e,st.2.keep λo e=>hk a (by simp) o e⟩
 item:=λi s Q E hi st hQ=>by
  have hl:(Kr w a ep es).length=es.size:=by rw[Aj.length_eq];simp
  obtain⟨v,hv⟩:∃ v,(Kr w a ep es)[i]?=some v:=⟨(Kr w a ep es)[i]'(by omega),by rw[qo]⟩;refine X5 (slot:=0) (next:=0) (x:=v) st.1 st.2 (λ{A' E' Q'} hq=>Jp hf st.2 (by rw[hv];exact hq)) λh' hi' k=>?_;exact hQ v h' s.toks hv ⟨hi',st.2.keep λo e=>k a o hne e⟩ λb o hb e=>k b o (λx=>hb (by simp[x])) e
 done:=λs Q E st hQ=>by
  have hl:(Kr w a ep es).length=es.size:=by rw[Aj.length_eq];simp
  refine Ft (slot:=0) hh st.1 st.2 (λ{A' E' Q'} hq=>Jp hf st.2 (by rw[Q1 (by omega)];exact hq)) λh' k=>?_;exact hQ h' s.toks λb o hb e=>k b o (λx=>hb (by simp[x])) e
 self:=λ_ _ _ _ st hQ=>Kq st.1 hQ
def Vo (pl:List Nat) (es:Array (Int×Value)):List Value:=pl.filterMap λj=>es[j]?.map (·.2)
theorem Vp {pl:List Nat} (h:pl.Perm (List.range es.size)):(Vo pl es).Perm (es.toList.map (·.2)):=by
 refine(h.filterMap _).trans ?_;rw[show(List.range es.size).filterMap (λj=>es[j]?.map (·.2))=((List.range es.size).filterMap λj=>es[j]?).map (·.2) by rw[List.map_filterMap],filterMap_getElem?_range]
theorem Nx:∀ {pl:List Nat},(∀ j∈pl,j < es.size)->∀ (i:Nat) (j:Nat),pl[i]?=some j->(Vo pl es)[i]?=es[j]?.map (·.2)
 |[],_,_,_,h=>by simp at h
 |k::pl,hb,i,j,h=>by
  have hk:=hb k (zo ..);have e:Vo (k::pl) es=es[k].2::Vo pl es:=by simp[Vo,hk]
  rw[e];cases i with
  |zero=>cases(show k=j by simpa using h);simp[hk]
  |succ i=>rw[List.getElem?_cons_succ];exact Nx (λj hj=>hb j (zr _ hj)) i j (by simpa using h)
theorem Q7 {tp:Addr} {pl:List Nat} (hh:A.handled=none) (hne:a≠it) (htp:tp≠it) (hp:pl.Perm (List.range es.size)):Walks prog w A it [it,a,tp] [it] es.size (λi v=>(Vo pl es)[i]?=some v)
  (λi h=>It h it a (.ref tp) i es.size ep/\Wk w h a es ep t/\∃ ot c,h.get? tp=some ot/\ot.data=.seq (pl.map λ(k:Nat)=>rawInt (k:Int)).toArray c) where
 sub:=λb hb=>by simp at hb;simp[hb]
 frame:=λ_ _ _ st hk=>⟨st.1.keep λo e=>hk it (by simp) o e,st.2.1.keep λo e=>hk a (by simp) o e,let ⟨ot,c,e,r⟩:=st.2.2;⟨ot,c,hk tp (by simp) ot e,r⟩⟩
 item:=λi s Q E hi st hQ=>by
  obtain⟨ot,c,e1,e2⟩:=st.2.2;have hl:pl.length=es.size:=by rw[hp.length_eq];simp
  have hb:∀ j∈pl,j < es.size:=λj hj=>List.mem_range.mp (hp.mem_iff.mp hj);have hj:pl[i]?=some (pl[i]'(by omega)):=by rw[qo]
  have hx:es[pl[i]'(by omega)]?=some (es[pl[i]'(by omega)]'(hb _ (List.getElem_mem _))):=by rw[Array.getElem?_eq_getElem]
  refine abn st.1 st.2.1 e1 e2 hj hx λh' hi' k=>?_;exact hQ _ h' s.toks (by rw[Nx hb i _ hj,hx];rfl) ⟨hi',st.2.1.keep λo e=>k a o hne e,ot,c,k tp ot htp e1,e2⟩ λb o hb e=>k b o (λx=>hb (by simp[x])) e
 done:=λs Q E st hQ=>by
  obtain⟨ot,c,e1,e2⟩:=st.2.2;have hl:pl.length=es.size:=by rw[hp.length_eq];simp
  refine Nv hh st.1 st.2.1 e1 e2 (by rw[Q1 (by omega)]) λh' k=>?_;exact hQ h' s.toks λb o hb e=>k b o (λx=>hb (by simp[x])) e
 self:=λ_ _ _ _ st hQ=>Kq st.1 hQ
def vB (t:SetTable) (i:Nat):Nat:=if i=0 then 0 else t.place.getD 0 0+1
theorem abo (j:Nat):SetTable.below #[j] 0=0:=by
 show SetTable.below.go #[j] 0 1 0 1=0;unfold SetTable.below.go;rw[zh (by decide)];show(if #[j].getD 0 0 < 0 then _ else SetTable.below.go #[j] 0 0 0 0)=0;rw[zC (KB _)];rfl
theorem abp (j:Nat):SetTable.below #[j] (j+1)=1:=by
 show SetTable.below.go #[j] (j+1) 1 0 1=1;unfold SetTable.below.go;rw[zh (by decide)];show(if j < j+1 then SetTable.below.go #[j] (j+1) 0 1 1 else _)=1;rw[zh (qc _)];rfl
theorem Vq {P:Option (Value×Nat)->Prop} {r:Option (Value×Nat)} (hp:t.place.size=es.size) (hn:es.size<=1) (hi:i<=es.size)
  (hr:r=match es[SetTable.below t.place (vB t i)]?,t.place[SetTable.below t.place (vB t i)]? with
   |some (_,x),some j=>some (x,j+1)
   |_,_=>none) (h:P (((es.toList.map (·.2))[i]?).map λv=>(v,vB t (i+1)))):P r:=by
 subst hr;by_cases h0:es.size=0
 ·have e:es=#[]:=Array.eq_empty_of_size_eq_zero h0;subst e;simpa using h
 ·have h1:es.size=1:=by omega
  obtain⟨x,rfl⟩:=Array.size_eq_one_iff.mp h1;obtain⟨j,hj⟩:=Array.size_eq_one_iff.mp (hp.trans h1);have hi:i=0\/i=1:=by omega
  rcases hi with rfl|rfl
  ·have e1:vB t 0=0:=rfl;have e2:vB t (0+1)=j+1:=by unfold vB;rw[hj];rfl
   rw[e2] at h;rw[e1,hj,abo];exact h
  ·have e2:vB t 1=j+1:=by unfold vB;rw[hj];rfl
   rw[e2,hj,abp];exact h
theorem Fv {Q:Option (Value×Nat)->Shared->Prop} (hf:w.params.followText "set-order" = false) (hw:Wk w s.heap a es ep t) (hn:es.size<=1) (hi:i<=es.size) (h:Q (((es.toList.map (·.2))[i]?).map λv=>(v,vB t (i+1))) s):wpAny (model prog w) A (setNext a (vB t i) i ep) Q E s:=by
 obtain⟨oa,hoa,hca,hda⟩:=hw.at_;have hp:t.place.size=es.size:=by
  have:=hw.fit;simp only[SetTable.fits,ZE,beq_iff_eq] at this;exact this.1
 unfold setNext;refine zb (ko hoa hda hw.fit (zb (wF ?_)));rw[hf];simp only[Zs,↓reduceIte];split
 ·rename_i hc;have hc:(!t.plain&&decide (es.size > 1))=true:=hc;simp at hc;omega
 ·have hl:wpAny (model prog w) A (if(!t.led&&!es.isEmpty)=true then unsupported "set:maker-not-led" else pure PUnit.unit) (λ_ s'=>s'=s) E s:=by
   rw[hw.led hf];exact ze rfl
  refine zb (ZN hl (λ_ s' e=>?_) λ_ _ x=>x);subst e;refine ze ?_;exact Vq (P:=λr=>Q r s') hp hn hi rfl h
theorem Ny (hh:A.handled=none) (hf:w.params.followText "set-order" = false) (hn:es.size<=1) (hne:a≠it):Walks prog w A it [it,a] [it] es.size (λi v=>(es.toList.map (·.2))[i]?=some v) (λi h=>It h it a (.int (vB t i:Nat) 0) i es.size ep/\Wk w h a es ep t) where
 sub:=λb hb=>by simp at hb;simp[hb]
 frame:=λ_ _ _ st hk=>⟨st.1.keep λo e=>hk it (by simp) o e,st.2.keep λo e=>hk a (by simp) o e⟩
 item:=λi s Q E hi st hQ=>by
  obtain⟨v,hv⟩:∃ v,(es.toList.map (·.2))[i]?=some v:=⟨(es.toList.map (·.2))[i]'(by simpa using hi),by rw[qo]⟩;refine X5 (x:=v) st.1 st.2 (λ{A' E' Q'} hq=>Fv hf st.2 hn (JJ hi) (by rw[hv];exact hq)) λh' hi' k=>?_;exact hQ v h' s.toks hv ⟨hi',st.2.keep λo e=>k a o hne e⟩ λb o hb e=>k b o (λx=>hb (by simp[x])) e
 done:=λs Q E st hQ=>by
  refine Ft hh st.1 st.2 (λ{A' E' Q'} hq=>Fv hf st.2 hn (zi _) (by rw[Q1 (by simp)];exact hq)) λh' k=>?_;exact hQ h' s.toks λb o hb e=>k b o (λx=>hb (by simp[x])) e
 self:=λ_ _ _ _ st hQ=>Kq st.1 hQ
theorem X6 (hw:Wk w s.heap a es ep t) (hc:es.size<=sizeLine) {Q:VP_}
  (h:∀ (it:Addr) (h':Heap) (d:Drawn) (fp:List Addr) (St:Nat->Heap->Prop) (ord:List Value),ord.Perm (es.toList.map (·.2))->(∀ A':Around,A'.handled=none->Walks prog w A' it fp [it] es.size (λi v=>ord[i]?=some v) St)->St 0 h'->s.heap.objs.size<=it->it < h'.objs.size →
   (∀ b∈fp,b=a\/s.heap.objs.size<=b)->(∀ b∈fp,b < h'.objs.size)->(∀ b o,s.heap.get? b=some o->h'.get? b=some o)->Q (.ref it) { s with heap:=h',drawn:=d }):wpAny (model prog w) A (pyIter (.ref a)) Q E s:=by
 obtain⟨oa,hoa,hca,hda⟩:=id hw.at_;have hT:s.TypeIs (.ref a) "set" := ⟨oa,hoa,hca⟩;have hlt:a < s.heap.objs.size:=zv hoa;refine wpAny_pyIter_slot hT F.slot_set_iter (ke F.slot_set_iter hT Cj ?_ (F.args_set_iter_1 _));show wpAny _ _ (Builtin.Frozenset.sizeOf a >>= _) _ _ s;refine zb (m:=Builtin.Frozenset.sizeOf a) (zb (wpAny_setEntries_of hoa hda hw.fit (ze ?_)));have hd:wpAny (model prog w) A.in1 (setDrawn a) (λb s'=>s'=s/\b=(!(w.params.followText "set-order")&&(!t.plain&&decide (es.size > 1)))) E s:=by
  unfold setDrawn;exact zb (ko hoa hda hw.fit (zb (wF (ze ⟨rfl,rfl⟩))))
 refine zb (ZN hd (λb s' e=>?_) λ_ _ x=>x);obtain⟨rfl,rfl⟩:=e;dsimp only;by_cases hf:w.params.followText "set-order" = true
 ·rw[hf];simp only[Bool.not_true,Bool.false_and,Zs,Qb];refine zb (ze ?_);refine zb (m:=setEpoch a) (wpAny_setEpoch_of hoa hda hw.fit ?_);refine zb (qh (ze ⟨_,rfl, "set_iterator", _,⟨_,zl _ rfl,rfl⟩,ju.lookup,?_⟩));have:=h s'.heap.objs.size (s'.heap.push { cls:=.type "set_iterator", data:=.fields #[.int 0 0,.int 0 0,.ref a,.int es.size 0,.int ep 0] }) s'.drawn [s'.heap.objs.size,a] _ _ Aj (λA' hh=>Q6 hh hf (t:=t) (ep:=ep) (Zl hlt) hc)
   ⟨⟨_,zl _ rfl,rfl,rfl⟩,hw.keep λo e=>zd _ e⟩ (zi _) (by rw[ZT];exact qc _) (λb hb=>by simp at hb;rcases hb with rfl|rfl;exact .inr (zi _);exact .inl rfl)
   (λb hb=>by simp at hb;rw[ZT];rcases hb with rfl|rfl;exact qc _;exact Qr hlt) λb o e=>zd _ e
  exact this
 ·have hf:w.params.followText "set-order" = false:=by simpa using hf
  rw[hf];simp only[Bool.not_false,Bool.true_and];by_cases hn:es.size<=1
  ·rw[zC (by simp;omega)];refine zb (ze ?_);refine zb (m:=setEpoch a) (wpAny_setEpoch_of hoa hda hw.fit ?_);refine zb (qh (ze ⟨_,rfl, "set_iterator", _,⟨_,zl _ rfl,rfl⟩,ju.lookup,?_⟩));have:=h s'.heap.objs.size (s'.heap.push { cls:=.type "set_iterator", data:=.fields #[.int 0 0,.int 0 0,.ref a,.int es.size 0,.int ep 0] }) s'.drawn [s'.heap.objs.size,a] _ _ (List.Perm.refl _) (λA' hh=>Ny hh hf hn (t:=t) (ep:=ep) (Zl hlt))
    ⟨⟨_,zl _ rfl,rfl,rfl⟩,hw.keep λo e=>zd _ e⟩ (zi _) (by rw[ZT];exact qc _) (λb hb=>by simp at hb;rcases hb with rfl|rfl;exact .inr (zi _);exact .inl rfl)
    (λb hb=>by simp at hb;rw[ZT];rcases hb with rfl|rfl;exact qc _;exact Qr hlt) λb o e=>zd _ e
   exact this
  ·rw[zh (by rw[hw.non (by omega)];simp;omega)];refine zb (abm _ _ _ _ (by simp) λpl d hp=>?_);refine zb (wpAny_newTuple ?_ (by rw[zz,hp.length_eq,List.length_range];exact hc));refine zb (m:=setEpoch a) (wpAny_setEpoch_of (zd _ hoa) hda hw.fit ?_);refine zb (qh (ze ⟨_,rfl, "set_iterator", _,⟨_,zl _ rfl,rfl⟩,ju.lookup,?_⟩));generalize hG:s'.heap.push { cls:=.type "tuple", data:=.seq (pl.map λ(k:Nat)=>rawInt (k:Int)).toArray }=G;have sG:G.objs.size=s'.heap.objs.size+1:=by rw[<-hG,ZT]
   have gG:G.get? s'.heap.objs.size=some { cls:=.type "tuple", data:=.seq (pl.map λ(k:Nat)=>rawInt (k:Int)).toArray }:=by rw[<-hG];exact zl _ rfl
   have kG:∀ b o,s'.heap.get? b=some o->G.get? b=some o:=λb o e=>by rw[<-hG];exact zd _ e
   have ltG:a < G.objs.size:=by rw[sG];exact Qr hlt
   have:=h G.objs.size (G.push { cls:=.type "set_iterator", data:=.fields #[.ref s'.heap.objs.size,.int 0 0,.ref a,.int es.size 0,.int ep 0] }) d [G.objs.size,a,s'.heap.objs.size] _ _ (Vp hp) (λA' hh=>Q7 hh (t:=t) (ep:=ep) (tp:=s'.heap.objs.size) (Zl ltG) (by rw[sG];exact Zl (qc _)) hp)
    ⟨⟨_,zl _ rfl,rfl,rfl⟩,hw.keep λo e=>zd _ (kG _ _ e),_,0,zd _ gG,rfl⟩ (by rw[sG];exact ki _) (by rw[ZT];exact qc _)
    (λb hb=>by simp at hb;rcases hb with rfl|rfl|rfl;exact .inr (by rw[sG];exact ki _);exact .inl rfl;exact .inr (zi _))
    (λb hb=>by
     simp at hb;rw[ZT];rcases hb with rfl|rfl|rfl
     ·exact qc _
     ·exact Qr ltG
     ·exact Qr (by rw[sG];exact qc _)) λb o e=>zd _ (kG _ _ e)
   exact this
end
end S6
end
section
namespace S6
open PySem PySem.Spec PyProof.Rows P1
section
variable {prog:Program} {w:World} {A:Around} {E:VP_} {s:Shared} {it a:Addr} {i ep:Nat} {es:Array (Int×Value)} {t:SetTable}
theorem Vr {ord:List Value} {acc:Array Value} {n:Nat} (hn:ord.length=n) (h:ItemsOf (λi v=>ord[i]?=some v) acc n):acc.toList=ord:=by
 apply List.ext_getElem?;intro j;by_cases hj:j < n
 ·have hl:j < acc.size:=by rw[h.1];exact hj
  have e:acc.toList[j]?=some acc[j]:=by simp[hl]
  rw[e,h.2 j acc[j] (by simp[hl])]
 ·rw[Q1 (by rw[qE,h.1];omega),Q1 (by omega)]
theorem Nz {Q:List Value->Shared->Prop} (hh:A.handled=none) (hw:Wk w s.heap a es ep t) (hc:es.size<=sizeLine)
  (hQ:∀ ord h' d tk,ord.Perm (es.toList.map (·.2))->s.heap.objs.size<=h'.objs.size->(∀ b o,s.heap.get? b=some o->h'.get? b=some o)->Q ord { s with heap:=h',drawn:=d,toks:=tk }) :
  wpAny (model prog w) A (collect (.ref a)) Q E s:=by
 obtain⟨oa,hoa,hca,hda⟩:=id hw.at_;have hT:s.TypeIs (.ref a) "set" := ⟨oa,hoa,hca⟩;have hlt:a < s.heap.objs.size:=zv hoa;unfold collect;refine zb (wpAny_runValue (JE F.entry_proto_collect ?_));rw[Around.under_plainId F.plain_proto_collect _];show wpAny _ A.in1 (newList [] >>= λq=>again (.builtin "list.__iadd__" ⟨[q,.ref a],[]⟩)) _ _ s;refine zb (qh (ze ⟨plainId_quiet K0 _,JE F.entry_list_iadd ?_⟩));rw[Around.under_plainId K0 _];show wpAny _ A.in1 (Builtin.List.listExtendWith (.ref s.heap.objs.size) (.ref a) (.ref s.heap.objs.size)) _ _ _;unfold Builtin.List.listExtendWith;generalize hH:(s.heap.push { cls:=.type "list", data:=.seq ([]:List Value).toArray })=H;have kH:∀ b o,s.heap.get? b=some o->H.get? b=some o:=λb o e=>by rw[<-hH];exact zd _ e
 have sH:H.objs.size=s.heap.objs.size+1:=by rw[<-hH,ZT]
 have gH:H.get? s.heap.objs.size=some (seqObj "list" #[] 0):=by rw[<-hH];exact zl _ rfl
 have hw1:Wk w H a es ep t:=hw.keep λo e=>kH a o e;refine zb (jv (T := "set") ⟨oa,kH _ _ hoa,hca⟩ ?_);have h1:Builtin.List.listSameRef (.ref s.heap.objs.size) (.ref a)=false:=by simp[Builtin.List.listSameRef];exact Q3 hlt
 simp only[h1,show(Value.type "set" == Value.type "list")=false by decide,show(Value.type "set" == Value.type "tuple")=false by decide,Bool.or_false,Zs,Qb];refine zb (X6 (s:={ s with heap:=H }) hw1 hc λit G d fp St ord hp W st0 hit hit2 hfp ak9 kG=>?_);refine zb (qV ?_);unfold Builtin.List.listLengthHint;have hT2:Shared.TypeIs { s with heap:=G,drawn:=d } (.ref a) "set" := ⟨oa,kG _ _ (kH _ _ hoa),hca⟩;refine zb (wpAny_specialOf (T := "set") hT2 F.slot_set_len.lookup ?_)
 wp_delta
 refine zb (kc (T := "set") (b:=true) hT2 (by rw[isSubtype_type];kernel_rfl) ?_);show wpAny _ A.in1 (typeOf (Value.ref a) >>= _) _ _ _;refine zb (jv (T := "set") hT2 (ze ?_));rw[zh (by decide)];show wpAny _ A.in1 (Builtin.List.listTouch (Value.ref s.heap.objs.size) >>= λ_=>again (Code.builtin "list.extend.loop" ⟨[Value.ref s.heap.objs.size,Value.ref it,Value.ref s.heap.objs.size],[]⟩)) _ _ _;have hS:G.get? s.heap.objs.size=some (seqObj "list" #[] 0):=kG _ _ gH;unfold Builtin.List.listTouch;refine zb (zb (listUpdate_at hS rfl (listUpdate_at (get?_update_seq hS _) rfl ?_ (by show _<=_;decide) (by show _<=_;decide)) (by show _<=_;decide) (by show _<=_;decide)));have hSf:s.heap.objs.size∉fp:=λhm=>by
  rcases hfp _ hm with e|e
  ·exact Q3 hlt e
  ·have e:H.objs.size<=s.heap.objs.size:=e;rw[sH] at e;exact absurd e (Nat.not_succ_le_self _)
 have hS3:=get?_update_seq (get?_update_seq hS (λx=>x.push Value.none)) (λx=>x.pop);generalize hU:(G.update s.heap.objs.size (Obj.mapSeq λx=>x.push Value.none)).update s.heap.objs.size (Obj.mapSeq λx=>x.pop)=U at hS3;have keep:∀ b,b≠s.heap.objs.size->U.get? b=G.get? b:=λb hb=>by rw[<-hU,kB _ _ _ _ hb,kB _ _ _ _ hb]
 have st1:St 0 U:=(W A hh).frame 0 G U st0 λb hb o e=>by rw[keep b λx=>hSf (x▸hb)];exact e
 show wpAny _ A.in1 (again _) _ _ { s with heap:=U,drawn:=d };have ho:ord.length=es.size:=by rw[hp.length_eq];simp
 refine ze ⟨plainId_quiet F.plain_extend_loop _,codeAny_extend_loopS (W A.in1 hh).toS hc s.heap.objs.size hSf _ es.size 0 { s with heap:=U,drawn:=d } #[] _ rfl (qi _) st1 hS3 (ItemsOf.nil _) λs' acc' c' mv hS' hacc=>?_⟩;show wpAny _ A (load s.heap.objs.size >>= _) _ _ s';refine zb (KO hS' (ze ?_));show Q acc'.toList s';rw[Vr ho hacc];have key:=hQ ord s'.heap s'.drawn s'.toks hp (JJ (zv hS')) λb ob e=>by
  have hb:=zv e;refine mv.heap b ob (λhm=>?_) ((keep b (Zl hb)).trans (kG _ _ (kH _ _ e)));simp only[qv,qr,or_false] at hm;rcases hm with hm|hm
  ·exact Zl hb hm
  ·have:H.objs.size<=it:=hit;rw[sH,<-hm] at this;exact absurd hb (Nat.not_lt.mpr (Nat.le_of_succ_le this))
 have e1:s'.gens=s.gens:=mv.gens;have e2:s'.os=s.os:=mv.os;rw[<-e1,<-e2] at key;exact key
end
theorem Ku {α:Type} [DecidableEq α]:∀ {xs ys:List α},xs.Nodup->ys.Nodup->(∀ z,z∈xs↔z∈ys)->xs.Perm ys
 |[],ys,_,_,h=>by
  have:ys=[]:=List.eq_nil_iff_forall_not_mem.mpr λz hz=>by simpa using(h z).mpr hz
  subst this;exact .refl _
 |x::xs,ys,hx,hy,h=>by
  have hm:x∈ys:=(h x).mp (zo ..);have hc:=List.nodup_cons.mp hx;refine((Ku hc.2 (hy.erase x) λz=>?_).cons x).trans (List.perm_cons_erase hm).symm;rw[hy.mem_erase_iff];constructor
  ·intro hz;exact⟨λe=>hc.1 (e▸hz),(h z).mp (zr _ hz)⟩
  ·intro⟨hn,hz⟩;rcases List.mem_cons.mp ((h z).mpr hz) with e|e
   ·exact absurd e hn
   ·exact e
theorem Bm {α β:Type} {R:α->β->Prop}:∀ {l l':List β},l'.Perm l->∀ {ys:List α},Paired R ys l->∃ ys',ys'.Perm ys/\Paired R ys' l':=by
 intro l l' hp
 replace hp:=hp.symm
 induction hp with
 |nil=>intro ys h;exact⟨ys,.refl _,h⟩
 |cons x _ ih=>intro ys h;cases h with|cons r t=>obtain⟨zs,z1,z2⟩:=ih t;exact⟨_::zs,z1.cons _,.cons r z2⟩
 |swap x y l=>intro ys h;cases h with|cons r t=>cases t with|cons r' t'=>exact⟨_,List.Perm.swap _ _ _,.cons r' (.cons r t')⟩
 |trans _ _ ih1 ih2=>intro ys h;obtain⟨zs,z1,z2⟩:=ih1 h;obtain⟨us,u1,u2⟩:=ih2 z2;exact⟨us,u1.trans z1,u2⟩
theorem Q8 {α β:Type} {R:α->β->Prop} {xs:List α} {us:List β} {ys:List α} {vs:List β} (h:Paired R xs us) (k:Paired R ys vs):Paired R (xs++ys) (us++vs):=by
 induction h with
 |nil=>exact k
 |cons r _ ih=>exact .cons r ih
theorem abq (t:SetTable) (es:Array (Int×Value)) (h:Int) (x:Value):(layNew t es h x).2.1.led=t.led:=by
 unfold layNew;split
 ·dsimp only[SetTable.put,SetTable.orStandIn];generalize SetTable.fits _ _=b;cases b<;>rfl
 ·rfl
theorem Vs (t:SetTable) (es:Array (Int×Value)) (n:Nat):(relayAll t es n).2.1.led=t.led/\(t.plain=false->(relayAll t es n).2.1.plain=false):=by
 unfold relayAll;split
 ·rename_i t' order e;have ht:t'.led=t.led/\t'.plain=t.plain:=by
   unfold SetTable.relaid SetTable.laid at e;cases hl:SetTable.layClean (SetTable.sizeAbove n - 1) (es.map (·.1)) with
   |none=>rw[hl] at e;cases e
   |some ow=>rw[hl] at e;cases e;exact⟨rfl,rfl⟩
  dsimp only;generalize (coversAll order es.size&&_)=b;cases b
  ·exact⟨rfl,λ_=>rfl⟩
  ·exact⟨ht.1,λhp=>ht.2.trans hp⟩
 ·exact⟨rfl,λ_=>rfl⟩
section
variable {prog:Program} {w:World} {A:Around} {E:VP_} {s:Shared} {a:Addr}
def Vt (prog:Program) (w:World) (y:Str) (e:Int×Value):Prop:=∃ tk,e=((strKind prog w).hash y,.str y tk)
structure X7 (prog:Program) (w:World) (ys:LS_) (es:Array (Int×Value)) (t:SetTable):Prop where
 rel:Paired (Vt prog w) ys es.toList
 nd:ys.Nodup
 fit:t.fits es.size=true
 led:w.params.followText "set-order" = false->t.led=true
 non:0 < es.size->t.plain=false
def Tx (prog:Program) (w:World) (h:Heap) (a:Addr) (ys:LS_):Prop:=∃ o es ep t,h.get? a=some o/\o.ExactSet/\o.data=.set es ep t/\X7 prog w ys es t
theorem Tx.keep {h h':Heap} {ys:LS_} (x:Tx prog w h a ys) (k:∀ o,h.get? a=some o->h'.get? a=some o):Tx prog w h' a ys:=
 let ⟨o,es,ep,t,e,r⟩:=x;⟨o,es,ep,t,k o e,r⟩
theorem X7.elems {ys:LS_} {es:Array (Int×Value)} {t:SetTable} (x:X7 prog w ys es t):ElemsOf (strKind prog w) es.toList:=by
 have:∀ {ys:LS_} {l:List (Int×Value)},Paired (Vt prog w) ys l->ElemsOf (strKind prog w) l:=by
  intro ys l h
  induction h with
  |nil=>intro e he;cases he
  |cons r _ ih=>
   intro e he;rcases List.mem_cons.mp he with rfl|he
   ·obtain⟨tk,rfl⟩:=r;exact⟨⟨_,strKind_is _ _ _ _,rfl⟩,rfl⟩
   ·exact ih e he
 exact this x.rel
theorem X7.size {ys:LS_} {es:Array (Int×Value)} {t:SetTable} (x:X7 prog w ys es t):es.size=ys.length:=by rw[x.rel.length];simp
theorem Td {y z:Str} {e:Int×Value} (h:Vt prog w y e):(strKind prog w).is z e.2=true↔z=y:=by
 obtain⟨tk,rfl⟩:=h;constructor
 ·intro q;exact(strKind prog w).inj _ _ _ q (strKind_is _ _ _ _)
 ·rintro rfl;exact strKind_is _ _ _ _
theorem Fw {y:Str}:∀ {ys:LS_} {l:List (Int×Value)},Paired (Vt prog w) ys l->((l.findIdx? λe=>(strKind prog w).is y e.2)=none↔y∉ys)
 |_,_,.nil=>by simp
 |z::ys,e::l,.cons r t=>by
  rw[List.findIdx?_cons];by_cases q:(strKind prog w).is y e.2=true
  ·rw[zh q,(Td r).mp q];simp
  ·rw[zC q];have:y≠z:=λe'=>q ((Td r).mpr e');rw[Option.map_eq_none_iff,Fw t];simp[this]
theorem X8 {ys:LS_} {y:Str} {tk:Nat} {Q:Bool->Shared->Prop} (hS:Tx prog w s.heap a ys) (hroom:ys.length+1 < scanBound)
  (h:∀ b h' ys',Heap.SameBut a s.heap h'->Tx prog w h' a ys'->(∀ z,z∈ys'↔z∈ys\/z=y)->ys'.length<=ys.length+1->Q b { s with heap:=h' }):wpAny (model prog w) A (setAddHashed a (.str y tk) ((strKind prog w).hash y)) Q E s:=by
 obtain⟨o,es,ep,t,ho,hex,hd,x⟩:=id hS;have hsz:=x.size;have hb1:es.size+1 < scanBound:=by rw[hsz];exact hroom
 have hel:=x.elems;have hkey:=strKind_is prog w y tk;unfold setAddHashed setAddHashedIn;refine qV (zb (ko ho hd x.fit ?_));dsimp only;rw[byScan_of (knd:=strKind prog w) (x:=.str y tk) rfl (by omega) hel];simp only[↓reduceIte];unfold setAddByScan;refine zb (zb (KM (zb (wpAny_setScan_of hkey ho hd x.fit hel ?_))));cases hr:es.toList.findIdx? (λe=>(strKind prog w).is y e.2) with
 |some j=>
  dsimp only;have hm:y∈ys:=by
   by_cases q:y∈ys
   ·exact q
   ·rw[(Fw x.rel).mpr q] at hr;cases hr
  refine ze (ze (h _ s.heap ys (Heap.SameBut.refl a s.heap) hS (λz=>⟨.inl,λq=>q.elim id λe=>e▸hm⟩) (ki _)))
 |none=>
  dsimp only;have hm:y∉ys:=(Fw x.rel).mp hr;have gw:∀ (b:Bool) {s₁:Shared} {Q':Unit->Shared->Prop},Q' () s₁->wpAny (model prog w) A (match b with|true=>rule "set.scan.the-table-gave-way" | false=>pure ()) Q' E s₁:=
   λb _ _ hq=>by cases b;exact ze hq;exact KM hq
  have hperm:=layNew_perm t es ((strKind prog w).hash y) (.str y tk);have hfits:=layNew_fits t es ((strKind prog w).hash y) (.str y tk);have abr:=abq t es ((strKind prog w).hash y) (.str y tk);generalize layNew t es ((strKind prog w).hash y) (.str y tk)=L at hperm hfits abr ⊢;obtain⟨es1,t1,wasDummy,gave⟩:=L;dsimp only at hperm hfits abr ⊢;rw[Array.toList_push] at hperm;refine zb (gw _ ?_);have hrel:Paired (Vt prog w) (ys++[y]) (es.toList++[((strKind prog w).hash y,.str y tk)]):=Q8 x.rel (.cons ⟨tk,rfl⟩ .nil);obtain⟨ys1,p1,r1⟩:=Bm hperm hrel;have nd1:ys1.Nodup:=p1.nodup_iff.mpr (List.nodup_append.mpr ⟨x.nd,by simp,λu hu v hv=>by simp at hv;subst hv;exact λe=>hm (e▸hu)⟩);have m1:∀ z,z∈ys1↔z∈ys\/z=y:=λz=>by rw[p1.mem_iff];simp
  have l1:ys1.length=ys.length+1:=by rw[p1.length_eq];simp
  have z1:es1.size=es.size+1:=by rw[<-qE,hperm.length_eq];simp
  have tail:∀ t2:SetTable,t2.fits es1.size=true->t2.led=t1.led->t2.plain=false->wpAny (model prog w) A (do
    storeSet a es1 t2
    if(!wasDummy&&t2.tooFull)=true then do
      (match (relayAll t2 es1 (SetTable.grown es1.size)).2.2 with|true=>rule "set.scan.the-table-gave-way" | false=>pure ())
      storeSet a (relayAll t2 es1 (SetTable.grown es1.size)).1 (relayAll t2 es1 (SetTable.grown es1.size)).2.1
      pure (some true)
     else pure (some true)) (λr s'=>∃ b,r=some b/\Q b s') E s:=by
   intro t2 f2 l2 p2;have up:∀ (hp:Heap) (ob:Obj) (e1 e2:Array (Int×Value)) (n1:Nat) (u1 u2:SetTable),hp.get? a=some ob->ob.data=.set e1 n1 u1->(hp.update a (Obj.putSet e2 u2)).get? a=some { ob with data:=.set e2 (n1+1) u2 }:=λhp ob e1 e2 n1 u1 u2 g q=>by
    have:=QA (Obj.putSet e2 u2) g (by rw[putSet_of e2 u2 q];rfl);rw[putSet_of e2 u2 q] at this;exact this
   have g1:=up s.heap o es es1 ep t t2 ho hd;refine zb (wpAny_storeSet_of ho hd ?_ (fits_of_scanBound (by omega)));split
   ·have hp:=relayAll_perm t2 es1 (SetTable.grown es1.size);have hf:=relayAll_fits t2 es1 (SetTable.grown es1.size);have hl:=Vs t2 es1 (SetTable.grown es1.size);generalize relayAll t2 es1 (SetTable.grown es1.size)=Rl at hp hf hl ⊢;obtain⟨es2,t3,gave2⟩:=Rl;dsimp only at hp hf hl ⊢;obtain⟨ys2,p2',r2⟩:=Bm hp r1;refine zb (gw _ ?_);refine zb (wpAny_storeSet_of g1 rfl ?_ (fits_of_scanBound (by rw[<-qE,hp.length_eq,qE];omega)));have g2:=up _ _ es1 es2 _ t2 t3 g1 rfl;exact ze ⟨true,rfl,h _ _ ys2 ((KI ..).trans (KI ..)) ⟨_,es2,_,t3,g2,hex,rfl,r2,p2'.nodup_iff.mpr nd1,hf,λq=>(hl.1.trans l2).trans (abr.trans (x.led q)),λ_=>hl.2 p2⟩ (λz=>by rw[p2'.mem_iff];exact m1 z) (by rw[p2'.length_eq];exact KL l1)⟩
   ·exact ze ⟨true,rfl,h _ _ ys1 (KI ..) ⟨_,es1,_,t2,g1,hex,rfl,r1,nd1,f2,λq=>l2.trans (abr.trans (x.led q)),λ_=>p2⟩ m1 (KL l1)⟩
  have fin:∀ {m:Sem (Option Bool)},wpAny (model prog w) A m (λr s'=>∃ b,r=some b/\Q b s') E s->wpAny (model prog w) A m (λr s'=>wpAny (model prog w) A (match r with|some added=>pure added|none=>setAddHashedIn a (.str y tk) ((strKind prog w).hash y) 99999) Q E s') E s:=λhm=>ZN hm (λr s' q=>by obtain⟨b,rfl,q⟩:=q;exact ze q) λ_ _ q=>q;refine fin ?_;split
  ·refine zb ?_;rw[hashByValue_scannable 8 (x:=.str y tk) rfl];refine ze ?_;exact tail { t1 with plain:=false } (SetTable.fits_plain_off hfits) rfl rfl
  ·rename_i hp;refine zb (ze ?_);simp only[↓reduceIte];exact tail t1 hfits rfl (by simpa using hp)
end
def blank (w:World):Obj:={ cls:=.type "set", dict:=none,data:=.set #[] 0 (.fresh 0 0 (!w.params.followText "set-order")) }
structure Adds (prog:Program) (w:World) (S:Addr) (wr:List Addr) {κ:Type} (C:Heap->List κ->Prop) (P:Nat->Value->Prop) (val:Nat->κ) (n:Nat):Prop where
 keep:∀ h h' ys,C h ys->(∀ b o,b∉wr->h.get? b=some o->h'.get? b=some o)->C h' ys
 add:∀ (A:Around) (E:VP_) (s:Shared) (i:Nat) (v:Value) (ys:List κ) (Q:Bool->Shared->Prop),A.units < cLine->i < n->P i v->C s.heap ys->ys.length<=i →
  (∀ b h' tk ys',Heap.SameBut S s.heap h'->C h' ys'->(∀ z,z∈ys'↔z∈ys\/z=val i)->ys'.length<=i+1->s.toks<=tk->Q b { s with heap:=h',toks:=tk })->wpAny (model prog w) A (setAdd S v) Q E s
section
variable {prog:Program} {w:World} {A:Around} {R:Result->Shared->Prop} {I:Addr} {fp wr:List Addr} {n:Nat} {P:Nat->Value->Prop} {St:Nat->Shared->Prop} {κ:Type} {C:Heap->List κ->Prop} {val:Nat->κ}
theorem Yb (W:WalksS prog w A.in1 I fp wr (λa b=>b=a) n P St) (S:Addr) (hSf:S∉fp) (ad:Adds prog w S wr C P val n) (hU:A.units+1 < cLine) :
  ∀ (k i:Nat) (s:Shared) (ys:List κ),n - i=k->i<=n->St i s->C s.heap ys->(∀ z,z∈ys↔∃ j,j < i/\z=val j)->ys.length<=i →
   (∀ s' ys',Moved (S::wr) (λa b=>b=a) s s'->C s'.heap ys'->(∀ z,z∈ys'↔∃ j,j < n/\z=val j)->R (.ok (.ret .none)) s') →
   codeAny (model prog w) A (.builtin "set.update.loop" ⟨[.ref S,.ref I],[]⟩) R s:=by
 have sub:∀ b,b∈wr->b∈S::wr:=λb q=>zr _ q;intro k
 induction k with
 |zero=>
  intro i s ys hk hi st hc hm hl hR;have:i=n:=by omega
  subst this;refine JE F.entry_set_update_loop ?_;rw[Around.under_plainId yk _];show wpAny _ A.in1 (pyNext (.ref I) >>= _) _ _ s;refine zb (W.done s _ _ st λs' mv=>?_);show wpAny _ A.in1 (ret Value.none) _ _ s';exact ze (hR s' ys (mv.mono sub) (ad.keep _ _ _ hc mv.heap) hm)
 |succ k ih=>
  intro i s ys hk hi st hc hm hl hR;have hlt:i < n:=by omega
  refine JE F.entry_set_update_loop ?_;rw[Around.under_plainId yk _];show wpAny _ A.in1 (pyNext (.ref I) >>= _) _ _ s;refine zb (W.item i s _ _ hlt st λv s' hP st' mv=>?_);show wpAny _ A.in1 (holding [v] (setAdd S v) >>= _) _ _ s';refine zb (qV (ad.add _ _ s' i v ys _ hU hlt hP (ad.keep _ _ _ hc mv.heap) hl λb h' tk ys' sb hc' hm' hl' htk=>?_));refine ze ⟨plainId_quiet yk _,ih (i+1) _ ys' (by omega) hlt (W.frame _ s' _ _ st' htk λb hb o e=>?_) hc' (λz=>?_) hl' λs'' ys'' ai9 hc'' hm''=>?_⟩
  ·rw[sb.2 b λq=>hSf (q▸hb)];exact e
  ·rw[hm' z,hm z];constructor
   ·rintro(⟨j,hj,e⟩|e)
    ·exact⟨j,by omega,e⟩
    ·exact⟨i,by omega,e⟩
   ·rintro⟨j,hj,e⟩;by_cases q:j=i
    ·exact .inr (q▸e)
    ·exact .inl ⟨j,by omega,e⟩
  ·refine hR s'' ys'' (Moved.trans W.gtrans ((mv.mono sub).then_heap htk λb o hb e=>?_) ai9) hc'' hm'';rw[sb.2 b λq=>hb (by rw[q];exact zo)];exact e
end
section
variable {prog:Program} {w:World} {A:Around} {E:VP_} {s:Shared}
theorem Q9 (x:Value) {Q₁:VP_} (h:Q₁ (.ref s.heap.objs.size) { s with heap:=s.heap.push (blank w) }) :
  codeAny (model prog w) A (.call (.builtin "set.__new__") ⟨[.type "set", x],[]⟩) (wants Q₁ E) s:=by
 refine codeAny_of_tree ?_;show wpAny _ A.in1 (do checkBuiltinCall "set.__new__" ⟨[.type "set", x],[]⟩;again (.builtin "set.__new__" ⟨[.type "set", x],[]⟩)) _ _ s;refine zb (wpAny_of_eq (F.newCall_set_1 x) (ze ⟨plainId_quiet F.plain_set_new _,JE F.entry_set_new ?_⟩));rw[Around.under_plainId F.plain_set_new _];unfold Builtin.«set.__new__» Builtin.Frozenset.newClass;have hsub:=sub_set_self;obtain⟨hp,g,d,tk,os⟩:=s;dsimp only
 wp_walk
 refine wpAny_askSetting (ze ?_);dsimp only;simp only[newObj];refine zb (wpAny_alloc (ze ?_));exact ze h
theorem sub_tuple_set:isSubtype (.type "tuple") (.type "set")=pure false:=by rw[isSubtype_type];kernel_rfl
theorem sub_tuple_frozenset:isSubtype (.type "tuple") (.type "frozenset")=pure false:=by rw[isSubtype_type];kernel_rfl
theorem Yc (hU:A.units+60 < cLine) {T:String} {l:Addr} {o:Obj} {κ:Type} {C:Heap->List κ->Prop} {P:Nat->Value->Prop} {val:Nat->κ} {n:Nat} {Q:VP_} (hh:A.handled=none) (ho:s.heap.get? l=some o) (hcl:o.cls=.type T) (hT:T = "list" ∨ T = "tuple")
  (hit:∀ (A':Around) (E':VP_) (Q':VP_) (h0:Heap),A'.handled=none->(∀ b ob,s.heap.get? b=some ob->h0.get? b=some ob) →
   (∀ (h':Heap) (St:Nat->Heap->Prop),(∀ A',A'.handled=none->Walks prog w A' h0.objs.size [h0.objs.size,l] [h0.objs.size] n P St)->St 0 h'->(∀ b ob,h0.get? b=some ob->h'.get? b=some ob)->Q' (.ref h0.objs.size) { s with heap:=h' })->wpAny (model prog w) A' (pyIter (.ref l)) Q' E' { s with heap:=h0 })
  (ad:Adds prog w s.heap.objs.size [s.heap.objs.size+1] C P val n) (hc0:∀ h',h'.get? s.heap.objs.size=some (blank w)->(∀ b ob,s.heap.get? b=some ob->h'.get? b=some ob)->C h' [])
  (h:∀ (h':Heap) (tk:Nat) (ys:List κ),C h' ys->(∀ z,z∈ys↔∃ j,j < n/\z=val j)->(∀ b ob,s.heap.get? b=some ob->h'.get? b=some ob)->Q (.ref s.heap.objs.size) { s with heap:=h',toks:=tk }) :
  wpAny (model prog w) A (call (.type "set") [.ref l]) Q E s:=by
 obtain⟨c,tl,hmro⟩:=F.called_set.mro;have hmade:=F.called_set.made;have hsub:=F.called_set.sub;have hlS:l < s.heap.objs.size:=zv ho;refine k7 (codeAny_of_tree ?_);show wpAny _ _ (callAny (.type "set") _) _ _ _;refine ze ⟨Code.quiet_builtin _ (by decide +kernel),JE F.entry_type_call ?_⟩;rw[Around.under_plain (weight_type_call_type "set" [.ref l] []) rfl];have h1:=F.called_set.notType;have h2:=F.called_set.canCreate;have hct:=F.typeCall_set_1 (.ref l)
 repeat (any_goals (first|assumption|wp_step))
 refine ku (Q9 (.ref l) (E:=E) (Q₁:=λobj s₁=>obj=.ref s.heap.objs.size/\s₁={ s with heap:=s.heap.push (blank w) }) ⟨rfl,rfl⟩) λr s₁ hr=>?_;cases r with
 |error e=>exact hr
 |ok fl=>
  cases fl with
  |ret obj=>
   obtain⟨rfl,rfl⟩:=hr;generalize hH:s.heap.push (blank w)=H;have sH:H.objs.size=s.heap.objs.size+1:=by rw[<-hH,ZT]
   have hS:H.get? s.heap.objs.size=some (blank w):=by rw[<-hH];exact zl _ rfl
   have kH:∀ b ob,s.heap.get? b=some ob->H.get? b=some ob:=λb ob e=>by rw[<-hH];exact zd _ e
   have hTS:Shared.TypeIs { s with heap:=H } (.ref s.heap.objs.size) "set" := ⟨_,hS,rfl⟩;have hli:=F.called_set.init.lookup;have hbi:=F.called_set.init.bind (.ref s.heap.objs.size)
   repeat (any_goals (first|assumption|wp_step))
   refine ku (Kn (R:=wants (λr s₂=>r=.none/\∃ h' tk ys,s₂={ s with heap:=h',toks:=tk }/\C h' ys/\(∀ z,z∈ys↔∃ j,j < n/\z=val j)/\(∀ b ob,s.heap.get? b=some ob->h'.get? b=some ob)) E) F.called_set.init.plain F.entry_set_init (check_set_init_1 hTS ?_)) λr₂ s₂ hr₂=>?_
   ·have hT2:Shared.TypeIs { s with heap:=H } (.ref l) T:=⟨o,kH _ _ ho,hcl⟩;have i1:isSubtype (.type T) (.type "set")=pure false:=by rcases hT with rfl|rfl;exact F.sub_list_set;exact sub_tuple_set
    have i2:isSubtype (.type T) (.type "frozenset")=pure false:=by rcases hT with rfl|rfl;exact F.sub_list_frozenset;exact sub_tuple_frozenset
    have i3:(Value.type T==Value.type "dict")=false:=by rcases hT with rfl|rfl<;>decide
    show wpAny _ _ (Builtin.«set.__init__» ⟨[.ref s.heap.objs.size,.ref l],[]⟩) _ _ _;have hup:∀ A':Around,A'.handled=none->A'.units+4 < cLine->wpAny (model prog w) A' (Builtin.Frozenset.updateFrom "set.__init__" s.heap.objs.size (.ref l)) (λ_ s₂=>∃ h' tk ys,s₂={ s with heap:=h',toks:=tk }/\C h' ys/\(∀ z,z∈ys↔∃ j,j < n/\z=val j)/\(∀ b ob,s.heap.get? b=some ob->h'.get? b=some ob)) E { s with heap:=H }:=by
     intro A' hA hA4;unfold Builtin.Frozenset.updateFrom Builtin.Frozenset.isAnySet;refine zb (zb (kc hT2 i1 ?_));refine kc hT2 i2 ?_;simp only[Zs,Qb];refine zb (jv hT2 ?_);simp only[i3,Zs,Qb];refine zb (hit A' _ _ H hA kH λG St W st0 kG=>?_);rw[sH] at W;rw[sH];have hSf:s.heap.objs.size∉[s.heap.objs.size+1,l]:=λq=>by
      simp only[qv,qr,or_false] at q;rcases q with q|q
      ·exact Zl (qc _) q
      ·exact Q3 hlS q
     refine zb (wpAny_runValue (Yb (W A'.in1 hA).toS s.heap.objs.size hSf ad (by omega) (n - 0) 0 _ [] rfl (qi _) st0 (hc0 G (kG _ _ hS) λb ob e=>kG _ _ (kH _ _ e)) (λz=>⟨λq=>(by cases q),λ⟨j,q,_⟩=>absurd q (KB _)⟩) (zi _) λs' ys mv c1 c2=>?_));refine ze ⟨s'.heap,s'.toks,ys,?_,c1,c2,λb ob e=>?_⟩
     ·have e1:s'.gens=s.gens:=mv.gens;have e2:s'.os=s.os:=mv.os;have e3:s'.drawn=s.drawn:=mv.drawn;rw[<-e1,<-e2,<-e3]
     ·have hb:=zv e;refine mv.heap b ob (λq=>?_) (kG _ _ (kH _ _ e));simp only[qv,qr,or_false] at q;rcases q with q|q
      ·exact Zl hb q
      ·exact Zl (Qr hb) q
    have hb:(blank w).data=.set #[] 0 (.fresh 0 0 (!w.params.followText "set-order")):=rfl;unfold Builtin.«set.__init__» noKeywords;generalize hUF:Builtin.Frozenset.updateFrom=UF at hup ⊢;unfold blank at hS
    wp_walk
    refine ZN (hup _ (by simp[hh]) (by simp;omega)) (λu s₂ q=>?_) λ_ _ q=>q;obtain⟨h',tk,ys,rfl,q⟩:=q;show wpAny _ _ (ret Value.none) _ _ _;exact ze ⟨rfl,h',tk,ys,rfl,q⟩
   ·cases r₂ with
    |error e=>exact hr₂
    |ok fl₂=>
     cases fl₂ with
     |ret r=>
      obtain⟨rfl,h',tk,ys,rfl,c1,c2,c3⟩:=hr₂
      repeat (any_goals (first|assumption|wp_step))
      exact h _ _ _ c1 c2 c3
     |_=>exact False.elim hr₂
  |_=>exact False.elim hr
end
end S6
end
section
namespace S6
open PySem
def aja (xs:Array Nat):Prop:=∀ i j,i < j->j < xs.size->xs.getD i 0 < xs.getD j 0
structure Tb (t:SetTable):Prop where
 mask:t.mask=7\/t.mask=31\/t.mask=127
 dum:t.dummies=#[]
 rise:aja t.place
 bd:∀ j:Nat,j∈t.place->j<=t.mask
 full:t.place.size<=t.mask
def ajb (mask:Nat) (p:SetTable.Probe):SetTable.Probe:=
 if p.more > 0 then { p with j:=p.j+1,more:=p.more - 1 } else
 { p with j:=(SetTable.leap mask p.i p.perturb).1,more:=SetTable.runEnd mask (SetTable.leap mask p.i p.perturb).1 - (SetTable.leap mask p.i p.perturb).1,i:=(SetTable.leap mask p.i p.perturb).1,perturb:=(SetTable.leap mask p.i p.perturb).2 }
def at0 (mask i perturb:Nat):SetTable.Probe:={ j:=i,more:=SetTable.runEnd mask i - i,i,perturb,dummy:=none }
def wlk (mask:Nat) (h:Int):Nat->SetTable.Probe
 |0=>at0 mask (SetTable.bits h % (mask+1)) (SetTable.bits h)
 |n+1=>ajb mask (wlk mask h n)
def nx (M i:Nat):Nat:=(i * 5+1) % M
structure Tok (t:SetTable) (es:Array (Int×Value)):Prop extends Tb t where
 size:t.place.size=es.size
 reach:∀ (i j:Nat) e,t.place[i]?=some j->es[i]?=some e->∃ n,n < 10 * SetTable.turns t.mask/\(wlk t.mask e.1 n).j=j/\∀ m,m < n->(wlk t.mask e.1 m).j∈t.place
end S6
end
section
namespace S6
open PySem PySem.Spec PyProof.Rows P1 L2
section
variable {prog:Program} {w:World} {A:Around} {E:VP_} {s:Shared} {a:Addr}
abbrev Yd (prog:Program) (w:World) (ks:List Key):Int:=tupleKeyHash (dh prog w) ks
def TE (prog:Program) (w:World) (h:Heap) (z:List Key×Addr) (e:Int×Value):Prop:=e=(Yd prog w z.1,.ref z.2)/\IsTupleKey (dh prog w) h z.1 z.2
structure aeH (prog:Program) (w:World) (h:Heap) (zs:List (List Key×Addr)) (es:Array (Int×Value)) (t:SetTable):Prop where
 rel:Paired (TE prog w h) zs es.toList
 nd:(zs.map (·.1)).Nodup
 tok:Tok t es
 load:es.size * 5 < t.mask * 3
 led:w.params.followText "set-order" = false->t.led=true
 non:0 < es.size->t.plain=false
def Tu (prog:Program) (w:World) (h:Heap) (a:Addr) (zs:List (List Key×Addr)):Prop:=∃ o es ep t,h.get? a=some o/\o.ExactSet/\o.data=.set es ep t/\aeH prog w h zs es t
theorem abt {h h':Heap} {ks:List Key} {b:Addr} (x:IsTupleKey (dh prog w) h ks b) (k:∀ o,h.get? b=some o->o.cls=.type "tuple" → h'.get? b=some o):IsTupleKey (dh prog w) h' ks b:=
 let ⟨o,its,n,e,c,r⟩:=x;⟨o,its,n,k o e c,c,r⟩
theorem Ye {h h':Heap} {zs:List (List Key×Addr)} {l:List (Int×Value)} (k:∀ b o,h.get? b=some o->o.cls=.type "tuple" → h'.get? b=some o) (r:Paired (TE prog w h) zs l):Paired (TE prog w h') zs l:=by
 induction r with
 |nil=>exact .nil
 |cons q _ ih=>exact .cons ⟨q.1,abt q.2 λo e c=>k _ o e c⟩ ih
theorem Tu.keep {h h':Heap} {zs:List (List Key×Addr)} (x:Tu prog w h a zs) (k:∀ b o,h.get? b=some o->h'.get? b=some o):Tu prog w h' a zs:=
 let ⟨o,es,ep,t,e,r,d,q⟩:=x;⟨o,es,ep,t,k a o e,r,d,⟨Ye (λb o e _=>k b o e) q.rel,q.nd,q.tok,q.load,q.led,q.non⟩⟩
theorem aeH.size {h:Heap} {zs:List (List Key×Addr)} {es:Array (Int×Value)} {t:SetTable} (x:aeH prog w h zs es t):es.size=zs.length:=by rw[x.rel.length];simp
theorem Tok.fits {t:SetTable} {es:Array (Int×Value)} (h:Tok t es):t.fits es.size=true:=by
 unfold SetTable.fits SetTable.fill;have h1:=h.full;have h2:=h.size;rw[h.dum];simp[h2];omega
end
end S6
end
section
namespace S1
open PySem PySem.Spec PyProof.Rows L2
section
variable {prog:Program} {w:World} {A:Around} {E:VP_} {s:Shared}
end
end S1
end
section
namespace P1
open PySem PySem.Spec PyProof.Rows L2 S6
def oF:LS_->LS_
 |[]=>[]
 |y::ys=>if y∈ys then oF ys else y::oF ys
theorem vC:∀ {ys:LS_} {z:Str},z∈oF ys↔z∈ys
 |[],z=>by simp[oF]
 |y::ys,z=>by
  unfold oF;split
  ·rename_i h;rw[vC,qv];exact⟨.inr,λq=>q.elim (λe=>e▸h) id⟩
  ·rw[qv,vC,qv]
theorem yW:∀ (ys:LS_),(oF ys).Nodup
 |[]=>by simp[oF]
 |y::ys=>by
  unfold oF;split
  ·exact yW ys
  ·rename_i h;exact List.nodup_cons.mpr ⟨λq=>h (vC.mp q),yW ys⟩
theorem NK:∀ (ys:LS_),(oF ys).length<=ys.length
 |[]=>by simp[oF]
 |y::ys=>by
  have:=NK ys;unfold oF;split<;>simp<;>omega
theorem Bo:∀ {vs:List Value} {ys:LS_},StrsAre vs ys->∀ (i:Nat) (v:Value),vs[i]?=some v->∃ y t,ys[i]?=some y/\v=.str y t
 |_,_,.nil,i,v,h=>by simp at h
 |_,_,.cons y t r,0,v,h=>by simp at h;exact⟨y,t,rfl,h.symm⟩
 |_,_,.cons y t r,i+1,v,h=>by
  obtain⟨z,t',e,r'⟩:=Bo r i v (by simpa using h);exact⟨z,t',by simpa using e,r'⟩
theorem Bp {prog:Program} {w:World}:∀ {ys:LS_} {l:List (Int×Value)},Paired (Vt prog w) ys l->StrsAre (l.map (·.2)) ys
 |_,_,.nil=>.nil
 |_,_,.cons r t=>by obtain⟨tk,rfl⟩:=r;exact .cons _ _ (Bp t)
theorem Kv:∀ {l l':List Value},l'.Perm l->∀ {ys:LS_},StrsAre l ys->∃ ys',ys'.Perm ys/\StrsAre l' ys':=by
 intro l l' hp
 replace hp:=hp.symm
 induction hp with
 |nil=>intro ys h;exact⟨ys,.refl _,h⟩
 |cons x _ ih=>intro ys h;cases h with|cons y k t=>obtain⟨zs,z1,z2⟩:=ih t;exact⟨y::zs,z1.cons _,.cons y k z2⟩
 |swap x y l=>intro ys h;cases h with|cons a k t=>cases t with|cons b k' t'=>exact⟨_,List.Perm.swap _ _ _,.cons b k' (.cons a k t')⟩
 |trans _ _ ih1 ih2=>intro ys h;obtain⟨zs,z1,z2⟩:=ih1 h;obtain⟨us,u1,u2⟩:=ih2 z2;exact⟨us,u1.trans z1,u2⟩
section
variable {X:Cx}
def hoS (X:Cx) (a:Addr) (zs:LS_):HO:=.ext λh=>Tx X.prog X.w h a zs
def ajd (X:Cx):List V->Hp->VK->Prop:=λxs H Q=>∃ v b ds ys,xs=[v]/\bA X.K H b v/\wZ b=some ds/\Bj ds=some ys/\ys.length < 4000/\∀ a zs H',Same H H'->H' a=some (hoS X a zs)->(∀ z,z∈zs↔z∈ys)->zs.Nodup->Q (.ref a) H'
theorem NP {S:Addr} {ys:LS_} {its:List Value} (hs:StrsAre its ys) (hl:ys.length < 4000):Adds X.prog X.w S [S+1] (λh zs=>Tx X.prog X.w h S zs) (λi v=>its.toArray[i]?=some v) (λi=>ys.getD i "") its.length where
 keep:=λh h' zs t k=>t.keep λo e=>k S o (by simp only[qv,qr,or_false];exact Zl (qc _)) e
 add:=λA E s i v zs Q _ hi hP hC hz h=>by
  obtain⟨y,t,ey,rfl⟩:=Bo hs i v (by simpa using hP);have hle:i < ys.length:=by
   rcases Nat.lt_or_ge i ys.length with q|q
   ·exact q
   ·rw[Q1 q] at ey;cases ey
  have hv:ys.getD i "" = y:=by simp[List.getD,ey]
  unfold setAdd;refine qV (zb ((strKind X.prog X.w).pyHash (strKind_is X.prog X.w y t) ?_));have hb:scanBound=4096:=rfl;refine X8 (s:={ s with toks:=s.toks+1 }) hC (by rw[hb];omega) λb h' zs' sb t' m l=>?_;exact h b h' _ zs' sb t' (by rw[hv];exact m) (by omega) (ki _)
theorem aeI (hc:X.calm=true) (hu:X.A.units+100 < cLine):gF X (.type "set") (ajd X):=by
 intro pins s σ H xs us Q I r h;obtain⟨v,b,ds,ys,rfl,rb,ed,ey,hl,q⟩:=h;obtain⟨u,rfl,ru⟩:=vals1 r;obtain⟨p,vs,rfl,sq,rs⟩:=S8 rb ed;obtain⟨rfl,hy⟩:=wB rs ey;cases ru;have hh:=I.ok.hd hc;have fin:∀ (h':Heap) (tk:Nat) (zs:LS_) (its:List Value),StrsAre its ys->its.length=ys.length->Tx X.prog X.w h' s.heap.objs.size zs->(∀ z,z∈zs↔∃ j,j < its.length/\z=ys.getD j "")->(∀ b ob,s.heap.get? b=some ob->h'.get? b=some ob)->EP X pins σ Q (.ref s.heap.objs.size) { s with heap:=h',toks:=tk }:=by
  intro h' tk zs its _ hlen tx hm k;have hfr:=I.hok.fresh (zi s.heap.objs.size);refine⟨.ref s.heap.objs.size,_,I.laid (t':=tk) (a:=s.heap.objs.size) (o:=hoS X s.heap.objs.size zs) k (zi _) ?_,rfl,q _ zs _ (bI hfr) aV (λz=>?_) ?_⟩
  ·obtain⟨o,es,ep,t,ho,_⟩:=id tx;exact⟨tx,⟨o,ho⟩,λh1 h2 t1 k1=>Tx.keep t1 k1⟩
  ·rw[hm z];constructor
   ·rintro⟨j,hj,rfl⟩;rw[hlen] at hj;simp[List.getD,hj]
   ·intro hz;obtain⟨j,hj,e⟩:=List.getElem_of_mem hz;exact⟨j,by rw[hlen];exact hj,by simp[List.getD,hj,e]⟩
  ·obtain⟨o,es,ep,t,ho,_,_,x⟩:=tx;exact x.nd
 rcases sq with sq|sq
 ·obtain⟨its,r',pl,hz⟩:=I.list sq;have hs:=tL r';have hlen:its.length=ys.length:=by rw[<-r'.length,zz]
  obtain⟨o,g,c,n,d⟩:=pl.isList;refine Yc (by omega) (T := "list") hh g c (.inl rfl) (P:=λi v=>its.toArray[i]?=some v) (n:=its.length) (λA' E' Q' h0 hA k0 hq=>?_) (NP hs hl) (λh' e k=>?_) λh' tk zs tx hm k=>fin h' tk zs its hs hlen tx hm k
  ·refine wpAny_pyIter_list (items:=its.toArray) ⟨o,k0 _ _ g,c,n,d⟩ ?_;have hne:p≠h0.objs.size:=Zl (zv (k0 _ _ g));refine hq _ (λi h=>h.IsListIter h0.objs.size p i/\h.IsList p its.toArray) (λA' hA=>by have:=Walks.list (prog:=X.prog) (w:=X.w) hA h0.objs.size p hne its.toArray;rw[zS] at this;exact this) ⟨⟨_,zl _ rfl,rfl,rfl⟩,⟨o,zd _ (k0 _ _ g),c,n,d⟩⟩ λb ob e=>zd _ e
  ·exact⟨_,#[],0,_,e,⟨rfl,rfl,rfl⟩,rfl,.nil,List.nodup_nil,rfl,λq=>by simp[SetTable.fresh,q],λq=>absurd q (JU _)⟩
 ·obtain⟨its,r',pl,hz⟩:=I.tuple sq;have hs:=tL r';have hlen:its.length=ys.length:=by rw[<-r'.length,zz]
  obtain⟨o,g,c,n,d⟩:=id pl;refine Yc (by omega) (T := "tuple") hh g c (.inr rfl) (P:=λi v=>its.toArray[i]?=some v) (n:=its.length) (λA' E' Q' h0 hA k0 hq=>?_) (NP hs hl) (λh' e k=>?_) λh' tk zs tx hm k=>fin h' tk zs its hs hlen tx hm k
  ·refine wpAny_pyIter_tuple (items:=its.toArray) ⟨o,k0 _ _ g,c,n,d⟩ ?_;have hne:p≠h0.objs.size:=Zl (zv (k0 _ _ g));refine hq _ (λi h=>h.IsTupleIter h0.objs.size p i/\h.IsTuple p its.toArray) (λA' hA=>by have:=Walks.tuple (prog:=X.prog) (w:=X.w) hA h0.objs.size p hne its.toArray;rw[zS] at this;exact this) ⟨⟨_,zl _ rfl,rfl,rfl⟩,⟨o,zd _ (k0 _ _ g),c,n,d⟩⟩ λb ob e=>zd _ e
  ·exact⟨_,#[],0,_,e,⟨rfl,rfl,rfl⟩,rfl,.nil,List.nodup_nil,rfl,λq=>by simp[SetTable.fresh,q],λq=>absurd q (JU _)⟩
theorem aeJ {pins:List (Addr×Obj)} {σ:L2.St} {H:Hp} {s:Shared} (I:Inv X pins σ H s) {a:Addr} {zs:LS_} (h:H a=some (hoS X a zs)):Tx X.prog X.w s.heap a zs:=(I.hok _ _ h).1
theorem Vu {pins:List (Addr×Obj)} {σ:L2.St} {H:Hp} {s:Shared} {d:Drawn} (I:Inv X pins σ H s):Inv X pins σ H { s with drawn:=d }:=⟨I.ok,I.os,I.bare,I.base,I.loc,I.cell,I.free,I.jP,I.pin,I.hok,I.len⟩
def agR (X:Cx):List V->Hp->VK->Prop:=λxs H Q=>∃ a zs,xs=[.ref a]/\H a=some (hoS X a zs)/\zs.length < 64/\(∀ z∈zs,z.length<=sizeLine)/\∀ l H',Same H H'->H l=none->H' l=some (.lst ((je zs).map V.str))->Q (.ref l) H'
theorem abu (hc:X.calm=true):gF X (.builtin "sorted") (agR X):=by
 intro pins s σ H xs us Q I r h;obtain⟨a,zs,rfl,ha,h64,hy,q⟩:=h;obtain⟨u,rfl,ru⟩:=vals1 r;cases ru;obtain⟨o,es,ep,t,ho,hex,hd,x⟩:=aeJ I ha;have hz:=x.size;have wk:Wk X.w s.heap a es ep t:=⟨⟨o,ho,hex.1,hd⟩,x.fit,x.led,λq=>x.non (by omega)⟩;refine Calls.call_function_entry kind_sorted plain_sorted entry_sorted (args_sorted1 _) ?_;unfold Builtin.«sorted»;refine zb (m:=checkCount "sorted" 1 1 _) (ze (zb (Nz (by exact I.ok.hd hc) wk (by rw[hz,sizeLine_eq];omega) λord h1 d tk hp hle ext=>?_)));obtain⟨ys,yp,hS⟩:=Kv hp (Bp x.rel);have hlen:ord.length < 64:=by rw[hp.length_eq];simp;omega
 refine zb (wpAny_newList ?_);have g0:(h1.push (seqObj "list" ord.toArray 0)).get? h1.objs.size=some (seqObj "list" ord.toArray 0):=zl _ rfl;refine zb (qV (ke slot_list_sort ⟨_,g0,rfl⟩ entry_list_sort (list_sort_treeK strKind_oneLt g0 hS.keysOf (λv₁ v₂ rest e=>keyKind_strs (by rw[<-e];exact hS)) hlen λst' a1 a2=>⟨_,rfl,ze ⟨_,rfl,?_⟩⟩) (args_list_sort _)));obtain⟨us,u1,u2,u3⟩:=sorted_out_str hS a1 a2;obtain⟨n,en⟩:=sortedHeap_at (out:=(arrOf st').map (·.2)) g0;have eu:=Np (u2.trans yp) u3;subst eu;have hfr:=I.hok.fresh (a:=h1.objs.size) hle;have I2:=Vu (d:=d) (I.laid (t':=tk) (a:=h1.objs.size) (o:=.lst ((je zs).map V.str)) (h':=sortedHeap (h1.push (seqObj "list" ord.toArray 0)) h1.objs.size ord ((arrOf st').map (·.2))) (λb o e=>by
  have e1:=ext b o e;have hb:=zv e1;rw[sortedHeap_old (Zl hb) (by rw[ZT];exact Qr hb)];exact zd _ e1) hle ⟨by rw[zz,(eN _).length_eq,sizeLine_eq];omega,((arrOf st').map (·.2)).toList,n,wC u1,by rw[en]⟩)
 exact⟨.ref h1.objs.size,_,I2,rfl,q _ _ (bI hfr) hfr aV⟩
def tS (X:Cx) (f:Ev->Option LS_):TE:=λσ H Q=>∃ H0 ρ ys,bG X.K H0 H σ ρ/\f ρ=some ys/\ys.length < 4000/\∀ a zs H',Same H H'->H' a=some (hoS X a zs)->(∀ z,z∈zs↔z∈ys)->zs.Nodup->(∀ z∈zs,z.length<=sizeLine)->Q (.ref a) H'
def PVS (X:Cx) (e:Expr) (f:Ev->Option LS_):Prop:=PE X e (tS X f)
def Yg (b:Bx):Option LS_:=(wZ b).bind Bj
variable {x:Str} {e:Expr} {f:Ev->Option Bx} {fs:Ev->Option LS_} {p pos:Pos}
theorem abv (hc:X.calm=true) (hu:X.A.units+100 < cLine) (hg:Gl X "set") (hm:X.mg "set" = none) (ha:PV X e f) (he:starEach (e::[]) X.env=(false,eval e X.env)::starEach [] X.env:=by rfl):PVS X (.Call (.Name "set" p) [e] [] pos) (λρ=>(f ρ).bind Yg):=by
 refine z9 (Jd (T := "set") (aeI hc hu) hg hm rfl (bT ha g8 he) (he:=he)) λσ H Q h=>?_;obtain⟨H0,ρ,ys,E,ef,hl,q⟩:=h;obtain⟨b,eb,ef⟩:=bind_some ef;obtain⟨ds,ed,ey⟩:=bind_some ef;refine⟨H0,ρ,b,E,eb,λv H1 s1 n1 r1=>⟨v,b,ds,ys,rfl,r1,ed,ey,hl,λa zs H2 s2 e2 m nd=>?_⟩⟩;refine q a zs H2 (s1.trans s2) e2 m nd λz hz=>?_;obtain⟨p',vs,rfl,sq,rs⟩:=S8 r1 ed;exact(wB rs ey).2 z ((m z).mp hz)
theorem abw (hc:X.calm=true) (hg:Gl X "sorted") (hm:X.mg "sorted" = none) (ha:PVS X e fs) (he:starEach (e::[]) X.env=(false,eval e X.env)::starEach [] X.env:=by rfl):PV X (.Call (.Name "sorted" p) [e] [] pos) (λρ=>(fs ρ).bind λys=>if ys.length < 4000/\(oF ys).length < 64 then some (.o ((je (oF ys)).map Dt.str)) else none):=by
 refine z9 (nO (id := "sorted") (abu hc) hg hm rfl (bT ha g8 he) (he:=he)) λσ H Q h=>?_;obtain⟨H0,ρ,b,E,ef,q⟩:=h;obtain⟨ys,ey,ef⟩:=bind_some ef;split at ef
 ·rename_i hl;cases ef;refine⟨H0,ρ,ys,E,ey,by omega,λa zs H1 s1 e1 m nd hy=>⟨a,zs,rfl,e1,?_,hy,λl H2 s2 hfr e2=>?_⟩⟩
  ·have:=(Ku nd (yW ys) λz=>by rw[m z,vC]).length_eq;omega
  ·have pm:=Ku nd (yW ys) λz=>by rw[m z,vC]
   have es:je zs=je (oF ys):=DG ((eN zs).trans (pm.trans (eN _).symm)) (pU zs) (pU _);rw[es] at e2;exact q _ H2 (s1.trans s2) (λa ea=>by cases ea;exact s1.free hfr) ⟨l,_,rfl,e2,vA λy h=>hy y (pm.mem_iff.mpr ((eN _).mem_iff.mp h))⟩
 ·cases ef
end
theorem aeK {H:Hp} {a:Addr} {φ:Heap->Prop} {o:HO} (h:H a=some (.ext φ)):Kp H (upd H a o):=by
 refine⟨λb ys e=>?_,λb ob u e=>?_⟩
 ·rw[aM (nM e h (by intro z;cases z))];exact e
 ·rw[aM (nM e h (by intro z;cases z))];exact e
section
variable {X:Cx}
end
section
variable {X:Cx} {elt tgt iter:Expr} {ifs:List Expr} {scope:Scope} {cl:List (Str×Addr)} {pos:Pos} {xs ts:LS_} {is:List Nat} {gt:Dt->Ev->Option Ev} {p:Ev->Option Bool} {fe:Ev->Option Bx} {fi:Ev->Option (List Dt)}
def AcS (X:Cx) (D:Addr) (_:Hp) (o1:List Dt) (o:HO):Prop:=∃ us,o=hoS X D us/\(∀ z,z∈us↔Dt.str z∈o1)/\us.Nodup/\(∀ z∈us,z.length<=sizeLine)/\us.length<=o1.length
end
section
variable {X:Cx} {elt tgt iter:Expr} {ifs:List Expr} {scope:Scope} {cl:List (Str×Addr)} {pos:Pos} {xs:LS_} {is:List Nat} {gt:Dt->Ev->Option Ev} {p:Ev->Option Bool} {fe:Ev->Option Bx} {fi:Ev->Option (List Dt)}
structure QVS (X:Cx) (e:Expr) (f:Ev->Option LS_):Prop where
 run:PVS X e f
def abx (f:Ev->Option Bx):Ev->Option LS_:=λρ=>(f ρ).bind Yg
def Te (fs:Ev->Option LS_):Ev->Option Bx:=λρ=>(fs ρ).bind λys=>if ys.length < 4000/\(oF ys).length < 64 then some (.o ((je (oF ys)).map Dt.str)) else none
variable {e:Expr} {f:Ev->Option Bx} {fs:Ev->Option LS_} {p':Pos}
theorem aby (hc:X.calm=true) (hu:X.A.units+100 < cLine) (hg:Gl X "set") (hm:X.mg "set" = none) (ha:QV X e f) (he:starEach (e::[]) X.env=(false,eval e X.env)::starEach [] X.env:=by rfl):QVS X (.Call (.Name "set" p') [e] [] pos) (abx f):=⟨abv hc hu hg hm ha.run he⟩
theorem abz (hc:X.calm=true) (hg:Gl X "sorted") (hm:X.mg "sorted" = none) (ha:QVS X e fs) (he:starEach (e::[]) X.env=(false,eval e X.env)::starEach [] X.env:=by rfl):QV X (.Call (.Name "sorted" p') [e] [] pos) (Te fs):=⟨abw hc hg hm ha.run he⟩
end
end P1
end
section
namespace P1
open PySem PySem.Spec PyProof.Rows L2 S1 S6
section
variable {X:Cx}
def Ts (prog:Program) (w:World) (h:Heap) (a:Addr) (zs:List (List Key×Addr)):Prop:=∃ o es ep t,h.get? a=some o/\o.ExactSet/\o.data=.set es ep t/\es.toList=zs.map (λz=>(Yd prog w z.1,(.ref z.2:Value)))/\t.fits es.size=true/\(w.params.followText "set-order" = false->t.led=true)/\(0 < es.size->t.plain=false)
theorem NQ {prog:Program} {w:World} {h:Heap}:∀ {zs:List (List Key×Addr)} {l:List (Int×Value)},Paired (TE prog w h) zs l->l=zs.map (λz=>(Yd prog w z.1,(.ref z.2:Value)))
 |_,_,.nil=>rfl
 |_,_,.cons r t=>by rw[zw,<-NQ t,r.1]
theorem Ts.of {prog:Program} {w:World} {h:Heap} {a:Addr} {zs:List (List Key×Addr)} (x:Tu prog w h a zs):Ts prog w h a zs:=
 let ⟨o,es,ep,t,e,r,d,q⟩:=x;⟨o,es,ep,t,e,r,d,NQ q.rel,q.tok.fits,q.led,q.non⟩
theorem Ts.keep {prog:Program} {w:World} {h h':Heap} {a:Addr} {zs:List (List Key×Addr)} (x:Ts prog w h a zs) (k:∀ o,h.get? a=some o->h'.get? a=some o):Ts prog w h' a zs:=
 let ⟨o,es,ep,t,e,r⟩:=x;⟨o,es,ep,t,k o e,r⟩
end
section
variable {α:Type} [DecidableEq α]
end
section
variable {X:Cx}
def abA (ks:List Key):Bool:=ks.any λk=>k.isRight
variable {e:Expr} {f:Ev->Option Bx} {fs:Ev->Option (List (List Key))} {p pos:Pos}
end
end P1
end
section
namespace P1
open PySem PySem.Spec PyProof.Rows L2
def ajf (kvs:List (Key×Dt)):Dt->List (Key×Dt)
 |.tup [.str k,d]=>QW kvs (.inr k) d
 |_=>kvs
def dictOf (out:List Dt):List (Key×Dt):=out.foldl ajf []
section
variable {X:Cx} {pins:List (Addr×Obj)} {σ:L2.St} {H:Hp} {s:Shared} {a:Addr} {A:Around} {E:VP_}
end
section
variable {X:Cx} {kx vx tgt iter:Expr} {ifs:List Expr} {scope:Scope} {cl:List (Str×Addr)} {pos:Pos} {xs ts:LS_} {is:List Nat} {gt:Dt->Ev->Option Ev} {p:Ev->Option Bool} {fk fv:Ev->Option Bx} {fi:Ev->Option (List Dt)}
def AcD (K:FG_) (_:Addr) (H:Hp) (o1:List Dt) (o:HO):Prop:=∃ us,o=.dK us/\iZ K H (dictOf o1) us/\us.length<=o1.length
theorem AcD.kp {K:FG_} {D:Addr} {H H':Hp} {o1:List Dt} {o:HO} (k:Kp H H'):AcD K D H o1 o->AcD K D H' o1 o:=λ⟨us,e,r,z⟩=>⟨us,e,r.kp k,z⟩
end
section
variable {X:Cx} {pins:List (Addr×Obj)} {σ:L2.St} {H:Hp} {s:Shared} {a:Addr} {ks:List (Key×V)} {o:Obj}
end
section
variable {X:Cx} {e elt tgt iter:Expr} {ifs:List Expr} {fd:Ev->Option Bx} {scope:Scope} {cl:List (Str×Addr)} {pos:Pos} {xs ts:LS_} {is:List Nat} {gt:Dt->Ev->Option Ev} {p:Ev->Option Bool} {fe:Ev->Option Bx}
end
section
variable {prog:Program} {w:World} {A:Around} {E:VP_} {s:Shared}
def two (a b:Str) (i:Nat):Str:=if i=0 then a else b
end
section
variable {X:Cx}
end
section
variable {X:Cx} {e:Expr} {es:List Expr} {fs:Ev->Option (List Bx)} {p px pos spos:Pos} {x y:Str} {k n:Nat} {f:Addr} {fd:FuncData} {ps:LS_} {G:Addr->List (Key×Dt)->List Bx->Option (List (Key×Dt))}
end
def isT:Option Bool->Bool
 |some true=>true
 |_=>false
def ajg (x:Dt) (ys:List Dt):Option Bool:=if(ys.all λy=>(Du y x).isSome&&decide (min (wA y) (wA x)<=60))=true then some (ys.any λy=>isT (Du y x)) else none
def inX (a b:Bx):Option Bx:=match a with
 |.z d=>(wZ b).bind λys=>(ajg d ys).bind λk=>some (.z (.bl k))
 |_=>none
section
variable {X:Cx} {pins:List (Addr×Obj)} {σ:L2.St} {H:Hp} {s:Shared}
end
section
variable {X:Cx} {g:Ev->Option Out} {st:List Stmt} {i:Nat}
def aeL (i:Nat) (ρ:Ev):Option Ev:=match ρ[i]? with
 |some (some (.o ds))=>some (ρ.set i (some (.z (.lst ds))))
 |_=>none
def fzG (i:Nat) (g:Ev->Option Out):Ev->Option Out:=λρ=>(aeL i ρ).bind g
theorem aeM (h:R0 X st g):R0 X st (fzG i g):=by
 intro pins s σ H D I q;obtain⟨H0,ρ,r,E,e,f⟩:=q;obtain⟨ρ',e1,e2⟩:=bind_some e;unfold aeL at e1;split at e1
 ·rename_i ds hr;cases e1;obtain⟨v,hv,a,vs,rfl,ha,rs⟩:=E.val i _ hr;obtain⟨o,I2⟩:=Ez I ha;have kp:Kp H (upd H a (.yF o (.lst vs))):=.lst ha;refine h pins s σ _ D I2 ⟨H0,_,r,E.aef hr rfl hv kp ?_,e2,f⟩;simp only[bA,Rep];exact⟨a,vs,rfl,.inl ⟨o,aV⟩,rs.kp kp⟩
 ·cases e1
theorem aeN (h:QG X st g):QG X st (fzG i g):=⟨aeM h.run⟩
end
open AutoSeq1 (wpAny_loadPart')
open SeqAt
section
variable {X:Cx} {pins:List (Addr×Obj)} {σ:L2.St} {H:Hp} {s:Shared}
end
section
variable {X:Cx} {o e:Expr} {fo fx:Ev->Option Bx}
end
section
variable {X:Cx} {c:Expr} {body:List Stmt} {t:Ev->Option Bool} {g:Ev->Option Out} {pos:Pos}
def Vv (t:Ev->Option Bool) (g:Ev->Option Out):Nat->Ev->Option Out
 |0,_=>none
 |n+1,ρ=>(t ρ).bind λb=>if b=true then(g ρ).bind λr=>match r with
  |.nx ρ'=>Vv t g n ρ'
  |.ct ρ'=>Vv t g n ρ'
  |.bk ρ'=>some (.nx ρ')
  |.rt b=>some (.rt b)
  else some (.nx ρ)
theorem Yh (n:Nat) (hp:PassesOwn (model X.prog X.w) X.A X.env X.xe) (hc:PB X c t) (hb:R0 X body g):PG1 X (.While c body [] pos) (Vv t g n):=
 Wq (WX hp hc hb) λD σ H q=>by
  obtain⟨H0,ρ,r,E,e,f⟩:=q;refine⟨λm σ H=>∃ H0 ρ r,bG X.K H0 H σ ρ/\Vv t g m ρ=some r/\QF X.K H0 D r,⟨n,H0,ρ,r,E,e,f⟩,?_⟩;rintro m σ H ⟨H0,ρ,r,E,e,f⟩;cases m with
  |zero=>cases e
  |succ m=>
   obtain⟨b,eb,e⟩:=bind_some e;refine⟨H0,ρ,b,E,eb,λH1 s1=>?_⟩;cases b with
   |false=>
    rw[zC (by decide)] at e ⊢;cases e;exact f σ H1 (E.grow s1)
   |true=>
    rw[zh rfl] at e ⊢;obtain⟨r',er,e⟩:=bind_some e;refine⟨λσ' H'=>∃ m',m' < m+1/\∃ H0 ρ r,bG X.K H0 H' σ' ρ/\Vv t g m' ρ=some r/\QF X.K H0 D r,λσ' H' z=>z,H0,ρ,r',E.grow s1,er,?_⟩;cases r' with
    |nx ρ'=>exact λσ' H' E'=>⟨m,qc m,H0,ρ',r,E',e,f⟩
    |ct ρ'=>exact λσ' H' E'=>⟨m,qc m,H0,ρ',r,E',e,f⟩
    |bk ρ'=>cases e;exact λσ' H' E'=>f σ' H' E'
    |rt b=>cases e;exact f
theorem Yi (n:Nat) (hp:PassesOwn (model X.prog X.w) X.A X.env X.xe) (hc:QB X c t) (hb:QG X body g):Sq X (.While c body [] pos) (Vv t g n):=⟨Yh n hp hc.run hb.run⟩
end
section
variable {X:Cx} {pins:List (Addr×Obj)} {σ:L2.St} {H:Hp} {s:Shared} {h':Heap}
theorem abB {t':Nat} {e it:Addr} {xs:List V} (I:L2.Inv X pins σ H s) (k:∀ b o,b≠e->b≠it->s.heap.get? b=some o->h'.get? b=some o) (fe:uO X pins H e) (fi:uO X pins H it)
  (he:∃ o,h'.get? e=some o) (hi:∃ o,h'.get? it=some o) (new:fU X.prog X.w (upd H s.heap.objs.size (.tup xs)) h' s.heap.objs.size (.tup xs)):L2.Inv X pins σ (upd H s.heap.objs.size (.tup xs)) { s with heap:=h',toks:=t' }:=by
 have hf:H s.heap.objs.size=none:=I.hok.fresh (zi _);have nd:∀ b u,H b=some u->b≠s.heap.objs.size:=λb u q z=>by rw[z,hf] at q;cases q
 have ne:∀ b u,H b=some u->b≠e/\b≠it:=λb u q=>⟨λz=>(by rw[z,fe.1] at q;cases q),λz=>(by rw[z,fi.1] at q;cases q)⟩;have nc:∀ b,b∉[e,it]->b≠e/\b≠it:=λb hb=>⟨λz=>hb (by simp[z]),λz=>hb (by simp[z])⟩;refine I.step (g':=s.gens) (d':=s.drawn) (ch:=[e,it]) (λb hb=>?_) (λb o _ _ hc q _=>k b o (nc b hc).1 (nc b hc).2 q) (λb o _ _ hc q _=>⟨o.slots,k b o (nc b hc).1 (nc b hc).2 q⟩) (λb o _ q n=>?_)
  (λb o hc q=>⟨o,k b o (nc b hc).1 (nc b hc).2 q⟩) (λb ys q=>?_) (λb o u q=>?_) (λb ps q=>⟨#[],?_⟩) (λm hm=>?_) (λb u q=>?_) I.bare
 ·rcases List.mem_cons.mp hb with rfl|hb
  ·exact⟨fe.2.2.2.1,fe.2.1,fe.2.2.2.2.1,fe.2.2.2.2.2⟩
  ·cases List.mem_singleton.mp hb;exact⟨fi.2.2.2.1,fi.2.1,fi.2.2.2.2.1,fi.2.2.2.2.2⟩
 ·rw[aM (Zl (zv q))];exact n
 ·rw[aM (nd b _ q)];exact q
 ·rw[aM (nd b _ q)];exact q
 ·rw[aM (nd b _ q),q];simp
 ·obtain⟨o,es,ep,ho,r⟩:=hm;exact⟨o,es,ep,k _ o (Q2 fe.2.1) (Q2 fi.2.1) ho,r⟩
 ·by_cases hb:b=s.heap.objs.size
  ·subst hb;rw[aV] at q;cases q;exact new
  ·rw[aM hb] at q;refine(I.hok b u q).stay (λc v hc w=>k c v ?_ ?_ w) (λc w=>?_) λc ys w=>?_
   ·rcases hc with rfl|z
    ·exact(ne _ _ q).1
    ·exact(ne _ _ z).1
   ·rcases hc with rfl|z
    ·exact(ne _ _ q).2
    ·exact(ne _ _ z).2
   ·rw[aM (nd c _ w)];exact w
   ·rw[aM (nd c _ w)];exact w
end
def Ite (K:FG_) (l:Addr):It:=
 ⟨λi H=>∃ xs x,sX K H l xs/\xs[i]?=some x,λi H v H'=>∃ p x,H p=none/\(∀ xs,sX K H l xs->xs[i]?=some x)/\v=.ref p/\H'=upd H p (.tup [.int i,x]),λi H=>∃ xs,sX K H l xs/\xs.length<=i⟩
theorem Vw {P:Program} {w:World} {K:FG_} {elts:List Expr} {x1:Nat} {tpos:Pos} (l e it:Addr) (hne:e≠it) :
  Turn P w K (.Tuple elts x1 tpos) (Ite K l) [e,it] e (λi h=>(∃ old,IsEnum h e it i old)/\h.IsListIter it l i) where
 mem:=by simp
 obj:=λi h st b hb=>by
  obtain⟨⟨old,h1⟩,o,h2,_,h3⟩:=st;rcases List.mem_cons.mp hb with rfl|hb
  ·exact⟨_,h1,λv z=>by cases z⟩
  ·cases List.mem_singleton.mp hb;exact⟨o,h2,λv z=>by rw[h3] at z;cases z⟩
 keep:=λi h h' st k=>by
  obtain⟨⟨old,h1⟩,h2⟩:=st;exact⟨⟨old,k e (by simp) _ h1⟩,h2.at λo q=>k it (by simp) o q⟩
 item:=by
  intro X hP hw hK hc i pins s σ H E I hf st hg;subst hP hw hK;obtain⟨⟨old,h1⟩,h2⟩:=st;obtain⟨xs,x,hq,hx⟩:=hg;obtain⟨its,rv,p,hz⟩:=I.list hq;obtain⟨u,hu,ru⟩:=rv.get hx;have fe:=hf e (by simp);have fi:=hf it (by simp);refine wpAny_pyNext_enum_item h1 h2 p.isList (x:=u) (by simpa using hu) hne λh1' ho hit' hT hsz hk=>⟨_,rfl,?_⟩;refine wpAny_letOwnedTupleGo_enum ho λh2' agT hsb=>?_;have elt:e < s.heap.objs.size:=zv h1;have ilt:it < s.heap.objs.size:=by obtain⟨_,q,_⟩:=h2;exact zv q
  have hT2:h2'.get? s.heap.objs.size=some { cls:=.type "tuple", data:=.seq #[.int i s.toks,u] }:=(hsb.2 _ (Q3 elt)).trans hT;have hit2:h2'.IsListIter it l (i+1):=hit'.at λo q=>(hsb.2 it (Q2 hne)).trans q;refine⟨.ref s.heap.objs.size,upd H s.heap.objs.size (.tup [.int i,x]),abB (t':=s.toks+1) I (λb o n1 n2 q=>(hsb.2 b n1).trans (hk b o n1 n2 q)) fe fi ⟨_,agT⟩ (by obtain⟨o,q,_⟩:=hit2;exact⟨o,q⟩) ?_,rfl,⟨_,x,I.hok.fresh (zi _),λys hy=>by rw[I.Ei hy hq];exact hx,rfl,rfl⟩,⟨⟨_,by simpa using agT⟩,hit2⟩,λb hb=>?_⟩
  ·exact⟨by show 2<=sizeLine;decide,[.int i s.toks,u],.cons ⟨_,rfl⟩ (.cons ru .nil),_,hT2,rfl,⟨_,rfl⟩,rfl⟩
  ·rcases List.mem_cons.mp hb with rfl|hb
   ·rw[aM (Zl elt)];exact fe.1
   ·cases List.mem_singleton.mp hb;rw[aM (Zl ilt)];exact fi.1
 done:=by
  intro X hP hw hK hc i pins s σ H E I hf st hg;subst hP hw hK;obtain⟨⟨old,h1⟩,h2⟩:=st;obtain⟨xs,hq,hx⟩:=hg;obtain⟨its,rv,p,hz⟩:=I.list hq;obtain⟨f0,f1,f2,f3,f4,f5⟩:=hf it (by simp);have hl:=rv.length;exact wpAny_pyNext_enum_end (I.ok.hd hc) h1 h2 p.isList (by simp;omega) λh' eb=>⟨rfl,I.turned (t':=s.toks) (λb o hb e=>eb b o hb e) f0 f1 f3 f4 f5⟩
 self:=λ_ _ _ _ _ st h=>by
  obtain⟨⟨old,h1⟩,_⟩:=st;exact wpAny_pyIter_enum h1 h
def Bq (ds:List Dt):List Dt:=(List.range ds.length).zipWith (λk d=>.tup [.int (k:Nat),d]) ds
theorem Jq (ds:List Dt):(Bq ds).length=ds.length:=by simp[Bq]
theorem Vx {ds:List Dt} {i:Nat} {d:Dt} (h:(Bq ds)[i]?=some d):∃ c,ds[i]?=some c/\d=.tup [.int (i:Nat),c]:=by
 have hi:i < ds.length:=by
  have:=(List.getElem?_eq_some_iff.mp h).1;rwa [Jq] at this
 refine⟨ds[i],by simp[hi],?_⟩;unfold Bq at h;rw[List.getElem?_zipWith] at h;simp[hi] at h;exact h.symm
theorem Yields.enum {K:FG_} {Hs:Hp} {l:Addr} {vs:List V} {ds:List Dt} (h:sX K Hs l vs) (r:aQ K Hs ds vs):Yields K (Ite K l) (Bq ds) Hs:=λi H s=>by
 have h':=s.seq h;have r':=r.kp (.of s);refine⟨λd e=>?_,λe=>⟨vs,h',by rw[Jq] at e;rw[r.length];exact e⟩⟩;obtain⟨c,ec,rfl⟩:=Vx e;obtain⟨v,ev,rv⟩:=r'.get ec;refine⟨⟨vs,v,h',ev⟩,λx H' y=>?_⟩;obtain⟨p,x0,hp,hq,rfl,rfl⟩:=y;have:=hq vs h';rw[ev] at this;cases this;have sm:Same H (upd H p (.tup [.int (i:Nat),v])):=λb o q=>by rw[aM (bF q hp)];exact q
 refine⟨sm,?_⟩;simp only[Rep];exact⟨p,_,rfl,.inl (.inl aV),aQ.cons (by simp only[Rep]) (aQ.cons (Rep.kp (.of sm) rv) aQ.nil)⟩
section
variable {X:Cx} {elts:List Expr} {x1:Nat} {tpos p pos:Pos} {e:Expr} {fs:Ev->Option (List Bx)}
def iEn (K:FG_) (ta:TA):TI:=λσ H R=>ta σ H λvs H1=>∃ l,vs=[.ref l]/\(∃ xs,sX K H1 l xs)/\R (Ite K l) H1
theorem Tf {ta:TA} (hg:Gl X "enumerate") (hm:X.mg "enumerate" = none) (ha:PA X [e] ta) (hs:starEach [e] X.env=[(false,eval e X.env)]:=by rfl):PI X (.Tuple elts x1 tpos) (.Call (.Name "enumerate" p) [e] [] pos) (iEn X.K ta):=by
 intro pins s σ H R I h;refine Call_ (zX I hg hm boot_enumerate (PyProof.Rows.callWith_type1 (gU (ha pos pins s σ H _ I h) λus s1 ⟨vs,H1,I1,r1,q1⟩=>?_) hs rfl));obtain⟨l,rfl,⟨xs,hq⟩,q⟩:=q1;obtain⟨u,rfl,ru⟩:=vals1 r1;cases ru;obtain⟨its,rv,p,hz⟩:=I1.list hq;refine call_enumerate_list p.isList λh' he hit hsz hk=>?_;refine wpAny_pyIter_enum he ?_;refine⟨s1.heap.objs.size+1,[s1.heap.objs.size+1,s1.heap.objs.size],_,_,H1,rfl,I1.kept (t':=s1.toks) hk,Vw l _ _ (Q3 (qc _)),⟨⟨_,he⟩,hit⟩,λb hb=>?_,q⟩;rcases List.mem_cons.mp hb with rfl|hb
 ·exact I1.Ur (ki _) (I1.hok.fresh (ki _))
 ·cases List.mem_singleton.mp hb;exact I1.Ur (zi _) (I1.hok.fresh (zi _))
def NT:List Bx->Option (List Dt)
 |[.z (.lst ds)]=>some (Bq ds)
 |_=>none
theorem Yj (hg:Gl X "enumerate") (hm:X.mg "enumerate" = none) (ha:PVs X [e] fs) (hs:starEach [e] X.env=[(false,eval e X.env)]:=by rfl):PIF X (.Tuple elts x1 tpos) (.Call (.Name "enumerate" p) [e] [] pos) (λρ=>(fs ρ).bind NT):=λpins s σ H R I q=>by
 refine Tf hg hm ha hs pins s σ H R I ?_;obtain⟨H0,ρ,ds,E,e,q⟩:=q;obtain⟨bs,eb,e⟩:=bind_some e;refine⟨H0,ρ,bs,E,eb,λvs H1 s1 r1=>?_⟩;unfold NT at e;split at e
 ·rename_i ds';cases e;obtain⟨v,rfl,rb⟩:=rep1 r1;simp only[bA,Rep] at rb;obtain⟨a,ws,rfl,hq,rs⟩:=rb;refine⟨a,rfl,⟨ws,hq.sq⟩,q _ _ s1 λHs hs hn hf ht=>.enum ?_ (rs.part hf ht)⟩;rcases hq with⟨o,hq⟩|hq
  ·exact .inl (.inr ⟨o,(hf _ _ _ hq).trans hq⟩)
  ·exact .inr hq
 ·cases e
theorem NZ (hg:Gl X "enumerate") (hm:X.mg "enumerate" = none) (ha:Sh X [e] fs) (hs:starEach [e] X.env=[(false,eval e X.env)]:=by rfl):QIF X (.Tuple elts x1 tpos) (.Call (.Name "enumerate" p) [e] [] pos) (λρ=>(fs ρ).bind NT):=⟨Yj hg hm ha.run hs⟩
end
section
variable {X:Cx} {e:Expr} {f:Ev->Option Bx} {pos:Pos}
end
section
variable {X:Cx}
end
section
variable {X:Cx} {e:Expr} {f:Ev->Option Bx} {pos:Pos}
end
section
variable {X:Cx} {e ek ev:Expr} {f fk fv:Ev->Option Bx} {pos:Pos} {st:Stmt}
def noG:Ev->Option Out:=λ_=>none
theorem Tg:Sq X st noG:=⟨λD pins s σ H I q=>by
 obtain⟨H0,ρ,r,E,e,q⟩:=q;cases e⟩
end
section
variable {X:Cx} {e st:Expr} {f fs:Ev->Option Bx} {pos p2:Pos}
def Vy (a b:Bx):Option Bx:=(rC a).bind λds=>match b with
 |.z (.int i)=>if i = -1 then some (.o ds.reverse) else none
 |_=>none
theorem Vz {a b c:Bx} (h:Vy a b=some c):∃ ds,rC a=some ds/\b=.z (.int (-1))/\c=.o ds.reverse:=by
 unfold Vy at h;obtain⟨ds,ed,h'⟩:=bind_some h;clear h;split at h'
 ·split at h'
  ·rename_i hi;subst hi;injection h' with h';exact⟨ds,ed,rfl,h'.symm⟩
  ·cases h'
 ·cases h'
theorem abC (he:QV X e f) (hst:QV X st fs) (hsub:∀ v i:Value,subscripted (.Slice none none (some st) p2) false v i=operate [v,i] (getItem v i):=by intro _ _;with_unfolding_all rfl):QV X (.Subscript e (.Slice none none (some st) p2) pos) (b2 Vy f fs):=by
 refine⟨?_⟩;intro pins s σ H Q I h;obtain⟨H0,ρ,c,E,ee,q⟩:=h;obtain⟨a,ea,ee⟩:=bind_some ee;obtain⟨b,eb,ee⟩:=bind_some ee;refine Subscript_ (gU (he.run pins s σ H (λx H1=>Same H H1/\bA X.K H1 a x) I ⟨H0,ρ,a,E,ea,λv H1 s1 n1 r1=>⟨s1,r1⟩⟩) λv s1 ⟨x,H1,I1,r1,sm1,rep1⟩=>?_);refine wpAny_Slice ?_;rw[evalPart_none];refine ze ?_;refine ze ?_;rw[evalPart_some];refine gU (hst.run pins s1 σ H1 (λy H2=>Same H1 H2/\bA X.K H2 b y) I1 ⟨H0,ρ,b,E.grow sm1,eb,λv H2 s2 n2 r2=>⟨s2,r2⟩⟩) λvk s2 ⟨y,H2,I2,r2,sm2,rep2⟩=>?_;obtain⟨ds,ed,rfl,rfl⟩:=Vz ee;have hy:y=.int (-1):=by simpa only[bA,Rep] using rep2
 subst hy;obtain⟨tk,rfl⟩:=r2;obtain⟨p,vs,rfl,sq,rs⟩:=(rep1.same sm2).Jf ed;cases r1;have I4:L2.Inv X pins σ H2 { s2 with heap:=s2.heap.push { cls:=.type "slice", data:=.fields #[.none,.none,.int (-1) tk] } }:=I2.kept (t':=s2.toks) λb ob q=>zd _ q;obtain⟨its,r,hq,hz⟩:=I4.list sq;show wpAny (model X.prog X.w) X.A (subscriptTail e (.Slice none none (some st) p2) (.ref p) (.ref s2.heap.objs.size)) (EP X pins σ Q) X.xe { s2 with heap:=s2.heap.push { cls:=.type "slice", data:=.fields #[.none,.none,.int (-1) tk] } };refine tail_any (ops:=[.ref p,.ref s2.heap.objs.size]) hq.isList.typeIs list_getitem_lookup (wpAny_getItem_list_slice hq.isList (Heap.IsSliceOf.new ..) .none .none (.int _ _) (by decide) ?_ (by rw[zS,<-r.length];exact hz)) (hsub _ _);rw[PySem.W.krv_pick];have hf:=I4.hok.fresh (zi _);refine⟨.ref _,_,I4.laid (t':=s2.toks) (o:=.lst vs.reverse) (λb ob q=>zd _ q) (zi _) ?_,rfl,q _ _ ((sm1.trans sm2).trans (bI hf)) (λa z=>by cases z;exact(sm1.trans sm2).free hf) ?_⟩
 ·exact⟨by rw[List.length_reverse];exact hz,its.reverse,0,r.reverse,zl _ rfl⟩
 ·exact⟨_,_,rfl,aV,(aQ.rev rs).kp (.of (bI hf))⟩
end
section
variable {prog:Program} {w:World} {A:Around} {E:VP_} {s:Shared}
theorem ad {a b:Nat} (h:a≠b):@Ne Addr a b:=h
end
section
variable {prog:Program} {w:World} {A:Around} {E:VP_} {s:Shared} {K:Type} [DecidableEq K] {knd:KeyKind prog w K}
end
section
variable {X:Cx} {ea eb:Expr} {fa fb:Ev->Option Bx} {p1 p2 pos1 pos2:Pos}
end
section
variable {X:Cx}
end
theorem Fy {X:Cx} {scope:Scope} {cl:List (Str×Addr)} (xs:LS_) (is:List Nat) (clos:closureFor scope X.env=pure cl:=by with_unfolding_all rfl) (kind:scope.kind=.function:=by rfl) (cell:scope.names.all (λy=>decide (y.2≠.cell)||(cl.lookup y.1).isNone)=true:=by rfl)
  (names:scope.names.all (λy=>decide (y.2=.local->scope.names.lookup y.1=some .local))=true:=by decide +kernel) (sub:SubL X.env.cells cl:=by repeat (first|exact trivial|refine⟨rfl,?_⟩))
  (has:(relabel scope X.env).names.all (λy=>!(y.2==.cell||y.2==.free)||(cl.lookup y.1).isSome||scope.names.contains (y.1,.cell))=true:=by rfl) (cap:HY X scope cl xs is:=by repeat (first|exact aeC|refine abb rfl (by first|exact .inl rfl|exact .inr rfl) (by first|exact .inl rfl|exact .inr rfl) ⟨_,rfl⟩ ?_)):yh X scope cl xs is:=aeD clos kind cell names sub has cap
theorem jw {N ps:LS_} {sc:Scope} (h1:sc.kind=.function:=by rfl) (h2:sc.isCoroutine=false:=by rfl) (h3:sc.isGenerator=false:=by rfl) (h4:N.Nodup:=by decide +kernel) (h5:N.take ps.length=ps:=by rfl) (h6:∀ x∈ps,sc.names.lookup x=some .local\/sc.names.lookup x=some .cell:=by decide +kernel) (h7:∀ y∈sc.names,y.2≠.free:=by decide +kernel):bw N ps sc:=⟨h1,h2,h3,h4,h5,h6,h7⟩
instance:Inhabited Dt:=⟨.non⟩
theorem bnd {α β:Type} (a:α) (f:α->Option β):(some a).bind f=f a:=(QN a f).trans (Eq.refl _)
def hold:Option Prop->Prop
 |none=>True
 |some p=>p
def bK:Option Prop->Option Prop->Option Prop
 |none,q=>q
 |some p,none=>some p
 |some p,some q=>some (p/\q)
def Ig (c:Prop):Option Prop->Option Prop
 |none=>none
 |some p=>some (c->p)
theorem aC {p q:Option Prop} (h:hold (bK p q)):hold p/\hold q:=by
 cases p with
 |none=>exact⟨trivial,h⟩
 |some p=>cases q with
  |none=>exact⟨h,trivial⟩
  |some q=>exact h
theorem lJ {c:Prop} {p:Option Prop} (h:hold (Ig c p)) (hc:c):hold p:=by
 cases p with
 |none=>trivial
 |some p=>exact h hc
structure R {α β:Type} (f:Ev->Option β) (ρ:Ev) (c:α->β) where
 v:α
 D:Option Prop
 ok:hold D->f ρ=some (c v)
abbrev zE {α:Type} (e:α->Dt):α->Bx:=λa=>.z (e a)
abbrev oE {α:Type} (e:α->Dt):List α->Bx:=λxs=>.o (xs.map e)
abbrev lE {α:Type} (e:α->Dt):List α->Bx:=λxs=>.l (xs.map e)
abbrev tE:Bool->Bool:=λb=>b
abbrev iE {α:Type} (e:α->Dt):List α->List Dt:=λxs=>xs.map e
abbrev eI:Int->Dt:=Dt.int
abbrev eB:Bool->Dt:=Dt.bl
abbrev eS:Str->Dt:=Dt.str
abbrev eD:Dt->Dt:=λd=>d
abbrev eL {α:Type} (e:α->Dt):List α->Dt:=λxs=>.lst (xs.map e)
abbrev eT {α:Type} (e:α->Dt):List α->Dt:=λxs=>.tup (xs.map e)
abbrev eO {α:Type} (e:α->Dt):Option α->Dt:=λo=>match o with|none=>.non|some a=>e a
abbrev eP1 {α:Type} (a:α->Dt):α->Dt:=λx=>.tup [a x]
abbrev zV {α β:Type} (a:α->Dt) (b:β->Dt):α×β->Dt:=λx=>.tup [a x.1,b x.2]
abbrev eP3 {α β γ:Type} (a:α->Dt) (b:β->Dt) (c:γ->Dt):α×β×γ->Dt:=λx=>.tup [a x.1,b x.2.1,c x.2.2]
abbrev eP4 {α β γ δ:Type} (a:α->Dt) (b:β->Dt) (c:γ->Dt) (d:δ->Dt):α×β×γ×δ->Dt:=λx=>.tup [a x.1,b x.2.1,c x.2.2.1,d x.2.2.2]
structure RL {α:Type} (f:Ev->Option Bx) (ρ:Ev) (e:α->Dt) where
 v:List α
 D:Option Prop
 b:Bx
 lk:rC b=some (v.map e)
 ok:hold D->f ρ=some b
section
variable {α β γ δ:Type} {ρ:Ev} {f fa fb fc:Ev->Option Bx} {fs:Ev->Option (List Bx)} {e:α->Dt} {e':β->Dt}
def iw (a:R f ρ (oE e)):RL f ρ e:=⟨a.v,a.D,_,rfl,a.ok⟩
def qw (a:R f ρ (lE e)):RL f ρ e:=⟨a.v,a.D,_,rfl,a.ok⟩
def N5 (a:R f ρ (zE (eL e))):RL f ρ e:=⟨a.v,a.D,_,rfl,a.ok⟩
def Lp (b:Bx) (ds:List Dt):Prop:=b=.z (.lst ds)\/b=.l ds
theorem Lp.Jf {b:Bx} {ds:List Dt} (h:Lp b ds):rC b=some ds:=by rcases h with rfl|rfl<;>rfl
theorem Lp.get {b:Bx} {ds:List Dt} {i:Nat} (h:Lp b ds) (hi:ρ[i]?=some (some b)):Cd ρ i=some b:=by
 rcases h with rfl|rfl<;>(unfold Cd;rw[hi])
theorem Lp.lend {b:Bx} {ds:List Dt} (h:Lp b ds):P1.lend b=b:=by rcases h with rfl|rfl<;>rfl
theorem yX {b:Bx} {ds:List Dt} (h:rC b=some ds):Lp (P1.lend b) ds:=by
 cases b with
 |z d=>cases d<;>cases h;exact .inl rfl
 |l d=>cases h;exact .inr rfl
 |o d=>cases h;exact .inr rfl
 |n d=>cases h
 |m d _=>cases h
def au (i:Nat) (c:α->Bx) (a:α) (h:Cd ρ i=some (c a)):R (gv i) ρ c:=⟨a,none,λ_=>h⟩
def cW (i:Nat) (e:α->Dt) (a:List α) {b:Bx} (h:Lp b (a.map e)) (hi:ρ[i]?=some (some b)):RL (gv i) ρ e:=⟨a,none,b,h.Jf,λ_=>h.get hi⟩
def rW (d:Dt) (e:α->Dt) (a:α) (h:d=e a):R (cB d) ρ (zE e):=⟨a,none,λ_=>by rw[h];rfl⟩
def Fz (a:R f ρ (zE e)):R f ρ (zE eD):=⟨e a.v,a.D,a.ok⟩
def Ra (a:R f ρ (zE e)):R f ρ (zE (eO e)):=⟨some a.v,a.D,a.ok⟩
def vD {e:α->Dt}:R (cB .non) ρ (zE (eO e)):=⟨none,none,λ_=>rfl⟩
def Yk [Inhabited α] (a:R f ρ (zE (eO e))):R f ρ (zE e):=⟨a.v.getD default,bK a.D (some (a.v.isSome=true)),λh=>by
 obtain⟨h1,h2⟩:=aC h;rw[a.ok h1];have h2:a.v.isSome=true:=h2;cases hv:a.v with
 |none=>rw[hv] at h2;cases h2
 |some x=>rfl⟩
def Rb (a:R f ρ (oE e)):R (b1 uQ f) ρ (zE (eL e)):=⟨a.v,a.D,λh=>by simp only[b1,a.ok h,bnd,uQ]⟩
def pW (a:R f ρ (zE e)):R (b1 uQ f) ρ (zE e):=⟨a.v,a.D,λh=>by simp only[b1,a.ok h,bnd,uQ]⟩
def dN (a:R fa ρ (zE eI)) (b:R fb ρ (zE eI)):R (b2 cu fa fb) ρ (zE eI):=⟨a.v+b.v,bK a.D b.D,λh=>by
 obtain⟨h1,h2⟩:=aC h;simp only[b2,a.ok h1,b.ok h2,bnd,cu]⟩
def agV (a:R fa ρ (zE eI)) (b:R fb ρ (zE eI)):R (b2 subB fa fb) ρ (zE eI):=⟨a.v - b.v,bK a.D b.D,λh=>by
 obtain⟨h1,h2⟩:=aC h;simp only[b2,a.ok h1,b.ok h2,bnd,i2]⟩
def Mul (a b:Int):Prop:=(-18446744073709551616 < a/\a < 18446744073709551616)\/(-18446744073709551616 < b/\b < 18446744073709551616)
def ac3 (a:R fa ρ (zE eI)) (b:R fb ρ (zE eI)):R (b2 nP fa fb) ρ (zE eI):=⟨a.v * b.v,bK (bK a.D b.D) (some (Mul a.v b.v)),λh=>by
 obtain⟨h,h3⟩:=aC h;obtain⟨h1,h2⟩:=aC h;simp only[b2,a.ok h1,b.ok h2,bnd];exact zh h3⟩
def lg (n:Int) (hn : -18446744073709551616 < n/\n < 18446744073709551616) (b:R fb ρ (zE eI)):R (b2 nP (cB (.int n)) fb) ρ (zE eI):=⟨n * b.v,b.D,λh=>by
 simp only[b2,b.ok h,bnd,cB];exact zh (.inl hn)⟩
def Ti (a:R fa ρ (zE eI)) (n:Int) (hn : -18446744073709551616 < n/\n < 18446744073709551616):R (b2 nP fa (cB (.int n))) ρ (zE eI):=⟨a.v * n,a.D,λh=>by
 simp only[b2,a.ok h,bnd,cB];exact zh (.inr hn)⟩
def aeP (a:R fa ρ (zE eI)) (b:R fb ρ (zE eI)):R (b2 uz fa fb) ρ (zE eI):=⟨a.v / b.v,bK (bK a.D b.D) (some (0 < b.v/\b.v < 1073741824)),λh=>by
 obtain⟨h,h3⟩:=aC h;obtain⟨h1,h2⟩:=aC h;have h3:0 < b.v/\b.v < 1073741824:=h3;simp only[b2,a.ok h1,b.ok h2,bnd,i2,zh h3]⟩
def qC (a:R fa ρ (zE eI)) (n:Int) (hn:0 < n/\n < 1073741824):R (b2 uz fa (cB (.int n))) ρ (zE eI):=⟨a.v / n,a.D,λh=>by
 simp only[b2,a.ok h,bnd,i2,cB,zh hn]⟩
def Br (a:R fa ρ (zE eI)) (b:R fb ρ (zE eI)):R (b2 iu fa fb) ρ (zE eI):=⟨a.v % b.v,bK (bK a.D b.D) (some (0 < b.v)),λh=>by
 obtain⟨h,h3⟩:=aC h;obtain⟨h1,h2⟩:=aC h;have h3:0 < b.v:=h3;simp only[b2,a.ok h1,b.ok h2,bnd,i2,zh h3]⟩
def dR (a:R fa ρ (zE eI)) (n:Int) (hn:0 < n):R (b2 iu fa (cB (.int n))) ρ (zE eI):=⟨a.v % n,a.D,λh=>by
 simp only[b2,a.ok h,bnd,i2,cB,zh hn]⟩
def aeQ (a b:Int) (n:Nat) (h:0<=b/\b<=1000/\a.natAbs < 18446744073709551616) (hb:b.toNat=n):R (b2 aem (cB (.int a)) (cB (.int b))) ρ (zE eI):=⟨a ^ n,none,λ_=>by
 simp only[b2,bnd,cB];show((if 0<=b/\b<=1000/\a.natAbs < 2 ^ 64 then some (Dt.int (a ^ b.toNat)) else none).bind λd=>some (Bx.z d))=_;rw[zh h,hb];rfl⟩
def abE (a:R fa ρ (zE eI)) (b:R fb ρ (zE eI)):R (b2 leB fa fb) ρ (zE eB):=⟨decide (a.v<=b.v),bK a.D b.D,λh=>by
 obtain⟨h1,h2⟩:=aC h;simp only[b2,a.ok h1,b.ok h2,bnd,i2]⟩
def agW (a:R fa ρ (zE eI)) (b:R fb ρ (zE eI)):R (b2 gtB fa fb) ρ (zE eB):=⟨decide (b.v < a.v),bK a.D b.D,λh=>by
 obtain⟨h1,h2⟩:=aC h;simp only[b2,a.ok h1,b.ok h2,bnd,i2]⟩
def x_ge (a:R fa ρ (zE eI)) (b:R fb ρ (zE eI)):R (b2 geB fa fb) ρ (zE eB):=⟨decide (b.v<=a.v),bK a.D b.D,λh=>by
 obtain⟨h1,h2⟩:=aC h;simp only[b2,a.ok h1,b.ok h2,bnd,i2]⟩
def N6 (a:R fa ρ (zE eI)) (b:R fb ρ (zE eI)):R (b2 Vi fa fb) ρ (zE eB):=⟨decide (a.v < b.v),bK a.D b.D,λh=>by
 obtain⟨h1,h2⟩:=aC h;simp only[b2,a.ok h1,b.ok h2,bnd,Vi]⟩
def Yl (x y:Str):Bool:=decide (x.cps.toList < y.cps.toList)
def agX (a:R fa ρ (zE eS)) (b:R fb ρ (zE eS)):R (b2 Vi fa fb) ρ (zE eB):=⟨Yl a.v b.v,bK a.D b.D,λh=>by
 obtain⟨h1,h2⟩:=aC h;simp only[b2,a.ok h1,b.ok h2,bnd,Vi,Yl]⟩
end
class Eqs {α:Type} [DecidableEq α] (e:α->Dt) (n:outParam Nat):Prop where
 eq:∀ a b,Du (e a) (e b)=some (decide (a=b))
 dp:∀ a,wA (e a)<=n
class Non {α:Type} (e:α->Dt):Prop where
 l:∀ a,Du .non (e a)=some false
 r:∀ a,Du (e a) .non=some false
instance:Eqs eI 1:=⟨λa b=>rfl,λa=>by simp[wA]⟩
instance:Eqs eB 1:=⟨λa b=>rfl,λa=>by simp[wA]⟩
instance:Eqs eS 1:=⟨λa b=>rfl,λa=>by simp[wA]⟩
instance:Non eI:=⟨λa=>rfl,λa=>rfl⟩
instance:Non eB:=⟨λa=>rfl,λa=>rfl⟩
instance:Non eS:=⟨λa=>rfl,λa=>rfl⟩
section
variable {α β γ δ:Type} [DecidableEq α] [DecidableEq β] [DecidableEq γ] [DecidableEq δ] {e:α->Dt} {e':β->Dt} {e'':γ->Dt} {e3:δ->Dt} {n m k l:Nat}
theorem FJ [Eqs e n]:∀ xs ys:List α,mQ (xs.map e) (ys.map e)=some (decide (xs=ys))
 |[],[]=>by simp[mQ]
 |[],y::ys=>by simp[mQ]
 |x::xs,[]=>by simp[mQ]
 |x::xs,y::ys=>by
  simp only[zw,mQ,Eqs.eq,FJ xs ys];congr 1;by_cases h:x=y<;>by_cases h':xs=ys<;>simp[h,h']
theorem FN [Eqs e n]:∀ xs:List α,u0 (xs.map e)<=n
 |[]=>by simp[u0]
 |x::xs=>by
  have:=Eqs.dp (e:=e) x;have:=FN xs;simp only[zw,u0];omega
instance [Eqs e n]:Eqs (eL e) (n+1):=⟨λa b=>FJ a b,λa=>by simp only[wA];have:=FN (e:=e) a;omega⟩
instance [Eqs e n]:Eqs (eT e) (n+1):=⟨λa b=>FJ a b,λa=>by simp only[wA];have:=FN (e:=e) a;omega⟩
instance:Non (eL e):=⟨λa=>rfl,λa=>rfl⟩
instance:Non (eT e):=⟨λa=>rfl,λa=>rfl⟩
instance:Non (eP1 e):=⟨λa=>rfl,λa=>rfl⟩
instance:Non (zV e e'):=⟨λa=>rfl,λa=>rfl⟩
instance:Non (eP3 e e' e''):=⟨λa=>rfl,λa=>rfl⟩
instance:Non (eP4 e e' e'' e3):=⟨λa=>rfl,λa=>rfl⟩
instance [Eqs e n]:Eqs (eP1 e) (n+1):=⟨λa b=>by
 simp only[Dv,mQ,Eqs.eq,Kk],λa=>by
 have:=Eqs.dp (e:=e) a;simp only[wA,u0];omega⟩
instance [Eqs e n] [Eqs e' m]:Eqs (zV e e') (max n m+1):=⟨λa b=>by
 obtain⟨a,a'⟩:=a;obtain⟨b,b'⟩:=b;simp only[Dv,mQ,Eqs.eq,Prod.mk.injEq,Bool.decide_and,Kk],λa=>by
 have:=Eqs.dp (e:=e) a.1;have:=Eqs.dp (e:=e') a.2;simp only[wA,u0];omega⟩
instance [Eqs e n] [Eqs e' m] [Eqs e'' k]:Eqs (eP3 e e' e'') (max n (max m k)+1):=⟨λa b=>by
 obtain⟨a,a',a2⟩:=a;obtain⟨b,b',b2⟩:=b;simp only[Dv,mQ,Eqs.eq,Prod.mk.injEq,Bool.decide_and,Kk],λa=>by
 have:=Eqs.dp (e:=e) a.1;have:=Eqs.dp (e:=e') a.2.1;have:=Eqs.dp (e:=e'') a.2.2;simp only[wA,u0];omega⟩
instance [Eqs e n] [Eqs e' m] [Eqs e'' k] [Eqs e3 l]:Eqs (eP4 e e' e'' e3) (max n (max m (max k l))+1):=⟨λa b=>by
 obtain⟨a,a',a2,a3⟩:=a;obtain⟨b,b',b2,b3⟩:=b;simp only[Dv,mQ,Eqs.eq,Prod.mk.injEq,Bool.decide_and,Kk],λa=>by
 have:=Eqs.dp (e:=e) a.1;have:=Eqs.dp (e:=e') a.2.1;have:=Eqs.dp (e:=e'') a.2.2.1;have:=Eqs.dp (e:=e3) a.2.2.2;simp only[wA,u0];omega⟩
instance [Eqs e n] [Non e]:Eqs (eO e) (n+1):=⟨λa b=>by
 cases a with
 |none=>cases b with
  |none=>exact rfl
  |some b=>exact(Non.l (e:=e) b).trans (by simp)
 |some a=>cases b with
  |none=>exact(Non.r (e:=e) a).trans (by simp)
  |some b=>exact(Eqs.eq (e:=e) a b).trans (by simp),λa=>by
 cases a with
 |none=>show wA .non<=n+1;simp[wA]
 |some a=>exact Nat.le_succ_of_le (Eqs.dp (e:=e) a)⟩
end
section
variable {α β γ δ:Type} {ρ:Ev} {f fa fb fc:Ev->Option Bx} {p q:Ev->Option Bool} {fs:Ev->Option (List Bx)} {e:α->Dt} {e':β->Dt}
def x_eq [DecidableEq α] {n:Nat} [Eqs e n] (hn:n<=100) (a:R fa ρ (zE e)) (b:R fb ρ (zE e)):R (b2 eqB fa fb) ρ (zE eB):=⟨decide (a.v=b.v),bK a.D b.D,λh=>by
 obtain⟨h1,h2⟩:=aC h;have:=Eqs.dp (e:=e) a.v;simp only[b2,a.ok h1,b.ok h2,bnd,eqB,oW,toD,Zs,or_self,Qb,Eqs.eq];rw[zh (by omega)]⟩
def abF [DecidableEq α] {n:Nat} [Eqs e n] (hn:n<=100) (a:R fa ρ (zE e)) (b:R fb ρ (zE e)):R (b2 Sy fa fb) ρ (zE eB):=⟨!decide (a.v=b.v),bK a.D b.D,λh=>by
 obtain⟨h1,h2⟩:=aC h;have:=Eqs.dp (e:=e) a.v;simp only[b2,a.ok h1,b.ok h2,bnd,Sy,oW,toD,Zs,or_self,Qb,Eqs.eq];rw[zh (by omega)]⟩
theorem DN {b:Bx} {ds:List Dt} (h:rC b=some ds):toD b=.lst ds/\oW b=false:=by
 cases b with
 |z d=>cases d<;>cases h;exact⟨rfl,rfl⟩
 |l d=>cases h;exact⟨rfl,rfl⟩
 |o d=>cases h;exact⟨rfl,rfl⟩
 |n d=>cases h
 |m d _=>cases h
def agY [DecidableEq α] {n:Nat} [Eqs e n] (hn:n+1<=100) (a:RL fa ρ e) (b:RL fb ρ e):R (b2 eqB fa fb) ρ (zE eB):=⟨decide (a.v=b.v),bK a.D b.D,λh=>by
 obtain⟨h1,h2⟩:=aC h;have:=Eqs.dp (e:=eL e) a.v;simp only[b2,a.ok h1,b.ok h2,bnd,eqB,(DN a.lk).1,(DN a.lk).2,(DN b.lk).1,(DN b.lk).2,Zs,or_self,Qb];have e1:=Eqs.eq (e:=eL e) a.v b.v;rw[zh (zI (Nat.min_le_left _ _) (zI (Eqs.dp (e:=eL e) a.v) hn)),e1,bnd]⟩
def DP (a b:Dt):Bool:=(Du a b).getD false
def VB (a b:Dt):Prop:=(Du a b).isSome=true/\min (wA a) (wA b)<=100
def Ym (a:R fa ρ (zE eD)) (b:R fb ρ (zE eD)):R (b2 eqB fa fb) ρ (zE eB):=⟨DP a.v b.v,bK (bK a.D b.D) (some (VB a.v b.v)),λh=>by
 obtain⟨h,h3⟩:=aC h;obtain⟨h1,h2⟩:=aC h;obtain⟨h3,h4⟩:VB a.v b.v:=h3;simp only[b2,a.ok h1,b.ok h2,bnd,eqB,oW,toD,Zs,or_self,Qb,zh h4];cases hd:Du a.v b.v with
 |none=>rw[hd] at h3;cases h3
 |some k=>simp only[DP,hd,bnd,Option.getD_some];exact zh h4⟩
def Yn (a:R fa ρ (zE eD)) (b:R fb ρ (zE eD)):R (b2 Sy fa fb) ρ (zE eB):=⟨!DP a.v b.v,bK (bK a.D b.D) (some (VB a.v b.v)),λh=>by
 obtain⟨h,h3⟩:=aC h;obtain⟨h1,h2⟩:=aC h;obtain⟨h3,h4⟩:VB a.v b.v:=h3;simp only[b2,a.ok h1,b.ok h2,bnd,Sy,oW,toD,Zs,or_self,Qb,zh h4];cases hd:Du a.v b.v with
 |none=>rw[hd] at h3;cases h3
 |some k=>simp only[DP,hd,bnd,Option.getD_some];exact zh h4⟩
def Yo (a:R fa ρ (zE (eO e))) (hn:∀ x,QT (.z (e x))=false):R (b2 Ve fa (cB .non)) ρ (zE eB):=⟨a.v.isNone,a.D,λh=>by
 simp only[b2,a.ok h,bnd,cB,Ve];cases hv:a.v with
 |none=>rfl
 |some x=>simp only[Option.isNone_some,hn]⟩
def xK (a:R fa ρ (zE eB)) (b:R fb ρ (zE eB)):R (yM fa fb) ρ (zE eB):=⟨a.v&&b.v,bK a.D (Ig (a.v=true) b.D),λh=>by
 obtain⟨h1,h2⟩:=aC h;simp only[yM,a.ok h1,bnd,J8];cases hv:a.v with
 |true=>simp only[Jn,Bool.true_and];exact b.ok (lJ h2 hv)
 |false=>simp only[Zs,Qb,Bool.false_and]⟩
def yq (a:R fa ρ (zE eB)):R (tV fa) ρ tE:=⟨a.v,a.D,λh=>by simp only[tV,a.ok h,bnd,Xj]⟩
def Yp (a:R fa ρ (zE eS)):R (tV fa) ρ tE:=⟨decide (a.v.length≠0),a.D,λh=>by
 simp only[tV,a.ok h,bnd,Xj];congr 1;exact Bool.eq_iff_iff.mpr (by simp)⟩
def iD {g:Bx->Bx->Option Bx} (a:R (b2 g fa fb) ρ (zE eB)):R (u9 g fa fb) ρ tE:=⟨a.v,a.D,λh=>by simp only[u9,a.ok h,bnd,J8]⟩
def FP (a:R p ρ tE) (b:R q ρ tE):R (Qj p q) ρ tE:=⟨a.v||b.v,bK a.D (Ig (a.v=false) b.D),λh=>by
 obtain⟨h1,h2⟩:=aC h;simp only[Qj,a.ok h1,bnd];cases hv:a.v with
 |true=>simp only[Jn,Bool.true_or]
 |false=>simp only[Zs,Qb,Bool.false_or];exact b.ok (lJ h2 hv)⟩
def qD (a:R p ρ tE):R (rE p) ρ tE:=⟨!a.v,a.D,λh=>by simp only[rE,a.ok h,bnd]⟩
def agZ {g g':Bx->Bx->Option Bx} (ab:R (b2 g fa fb) ρ (zE eB)) (bc:R (b2 g' fb fc) ρ (zE eB)):R (ch3 g g' fa fb fc) ρ (zE eB):=⟨ab.v&&bc.v,bK ab.D (Ig (ab.v=true) bc.D),λh=>by
 obtain⟨h1,h3⟩:=aC h;have e1:=ab.ok h1;simp only[b2] at e1;obtain⟨x,ex,e1⟩:=bind_some e1;obtain⟨y,ey,e1⟩:=bind_some e1;simp only[ch3,ex,ey,bnd,e1,J8];cases hv:ab.v with
 |true=>
  have e2:=bc.ok (lJ h3 hv);simp only[b2,ey,bnd] at e2;simp only[Jn,Bool.true_and];exact e2
 |false=>simp only[Zs,Qb,Bool.false_and]⟩
def abG {c:α->Bx} (t:R p ρ tE) (a:R fa ρ c) (b:R fb ρ c):R (Xk p fa fb) ρ c:=⟨if t.v=true then a.v else b.v,bK t.D (bK (Ig (t.v=true) a.D) (Ig (t.v=false) b.D)),λh=>by
 obtain⟨h1,h2⟩:=aC h;obtain⟨h2,h3⟩:=aC h2;simp only[Xk,t.ok h1,bnd];cases hv:t.v with
 |true=>simp only[Jn];exact a.ok (lJ h2 hv)
 |false=>simp only[Zs,Qb];exact b.ok (lJ h3 hv)⟩
end
section
variable {α β γ δ ε:Type} {ρ:Ev} {f fa fb fc fd:Ev->Option Bx} {p q:Ev->Option Bool} {fs:Ev->Option (List Bx)} {e:α->Dt} {e':β->Dt} {e'':γ->Dt} {e3:δ->Dt}
def aeR (e:α->Dt):R (dw oh aG) ρ (zE (eT e)):=⟨[],none,λ_=>rfl⟩
def Ak (a:R fa ρ (zE e)) (b:R fb ρ (zE e')):R (dw oh (ao fa (ao fb aG))) ρ (zE (zV e e')):=⟨(a.v,b.v),bK a.D b.D,λh=>by
 obtain⟨h1,h2⟩:=aC h;simp only[dw,ao,aG,a.ok h1,b.ok h2,bnd];rfl⟩
def cI (e:α->Dt):R aG ρ (λxs:List α=>xs.map (zE e)):=⟨[],none,λ_=>rfl⟩
def aH (a:R fa ρ (zE e)) (t:R fs ρ (λxs:List α=>xs.map (zE e))):R (ao fa fs) ρ (λxs:List α=>xs.map (zE e)):=⟨a.v::t.v,bK a.D t.D,λh=>by
 obtain⟨h1,h2⟩:=aC h;simp only[ao,a.ok h1,t.ok h2,bnd,zw]⟩
theorem FQ:∀ xs:List α,Ka (xs.map (zE e))=some (xs.map e)
 |[]=>rfl
 |x::xs=>by simp only[zw,Ka,FQ xs,bnd]
def iG (t:R fs ρ (λxs:List α=>xs.map (zE e))) (hl:t.v.length<=1000):R (dw gY fs) ρ (oE e):=⟨t.v,t.D,λh=>by
 simp only[dw,t.ok h,bnd,gY,zz,zh hl,FQ]⟩
def rH (t:R fs ρ (λxs:List Dt=>xs.map (zE eD))) (hl:t.v.length<=1000):R (dw oh fs) ρ (zE eD):=⟨.tup t.v,t.D,λh=>by
 simp only[dw,t.ok h,bnd,oh,zz,zh hl,FQ,List.map_id_fun',id]⟩
def at' [Inhabited α] (xs:List α) (i:Int):α:=(Er xs i).getD default
def In (n:Nat) (i:Int):Prop:=-(n:Int)<=i/\i < n
theorem wG {xs:List α} {i:Int} (h:In xs.length i):∃ x,Er xs i=some x:=by
 obtain⟨h1,h2⟩:=h;unfold Er ixN;by_cases h0:0<=i
 ·rw[zh h0,zh h2];exact⟨xs[i.toNat]'(by omega),qo (by omega)⟩
 ·rw[zC h0,zh h1];exact⟨xs[(i+xs.length).toNat]'(by omega),qo (by omega)⟩
theorem aeS {xs:List α} {i:Int} {x:α} (h:Er xs i=some x):Er (xs.map e) i=some (e x):=by
 unfold Er at h ⊢;rw[zz];obtain⟨j,ej,h⟩:=bind_some h;rw[ej,bnd,ZO,h];rfl
theorem Yq [Inhabited α] {xs:List α} {i:Int} (h:In xs.length i):Er (xs.map e) i=some (e (at' xs i)):=by
 obtain⟨x,hx⟩:=wG h;rw[aeS hx];unfold at';rw[hx];rfl
theorem abH {b:Bx} {ds:List Dt} {i:Int} (h:rC b=some ds):fV b (.z (.int i))=(Er ds i).bind λd=>some (.z d):=by
 cases b with
 |z d=>cases d<;>cases h;rfl
 |l d=>cases h;rfl
 |o d=>cases h;rfl
 |n d=>cases h
 |m d _=>cases h
def gD [Inhabited α] (a:RL fa ρ e) (b:R fb ρ (zE eI)):R (b2 fV fa fb) ρ (zE e):=⟨at' a.v b.v,bK (bK a.D b.D) (some (In a.v.length b.v)),λh=>by
 obtain⟨h,h3⟩:=aC h;obtain⟨h1,h2⟩:=aC h;simp only[b2,a.ok h1,b.ok h2,bnd,abH a.lk,Yq (show In a.v.length b.v from h3)]⟩
def ac4 [Inhabited α] (a:R fa ρ (zE (eT e))) (b:R fb ρ (zE eI)):R (b2 fV fa fb) ρ (zE e):=⟨at' a.v b.v,bK (bK a.D b.D) (some (In a.v.length b.v)),λh=>by
 obtain⟨h,h3⟩:=aC h;obtain⟨h1,h2⟩:=aC h;simp only[b2,a.ok h1,b.ok h2,bnd,fV,wZ,Yq (show In a.v.length b.v from h3)]⟩
def ch (x:Str) (i:Int):Str:=⟨#[(Er x.cps.toList i).getD 0]⟩
def Jr (a:R fa ρ (zE eS)) (b:R fb ρ (zE eI)):R (b2 fV fa fb) ρ (zE eS):=⟨ch a.v b.v,bK (bK a.D b.D) (some (In a.v.length b.v)),λh=>by
 obtain⟨h,h3⟩:=aC h;obtain⟨h1,h2⟩:=aC h;obtain⟨x,hx⟩:=wG (xs:=a.v.cps.toList) (i:=b.v) (show In a.v.length b.v from h3);simp only[b2,a.ok h1,b.ok h2,bnd,fV,hx,ch,Option.getD_some]⟩
def qF (d:Dt) (i:Int):Dt:=match fV (.z d) (.z (.int i)) with|some (.z y)=>y|_=>.non
def Rc (d:Dt) (i:Int):Prop:=match d with
 |.tup ds=>In ds.length i
 |.lst ds=>In ds.length i
 |.str x=>In x.length i
 |_=>False
def xM (a:R fa ρ (zE eD)) (b:R fb ρ (zE eI)):R (b2 fV fa fb) ρ (zE eD):=⟨qF a.v b.v,bK (bK a.D b.D) (some (Rc a.v b.v)),λh=>by
 obtain⟨h,h3⟩:=aC h;obtain⟨h1,h2⟩:=aC h;have h3:Rc a.v b.v:=h3;simp only[b2,a.ok h1,b.ok h2,bnd];show fV (.z a.v) (.z (.int b.v))=some (.z (qF a.v b.v));unfold qF;cases hv:a.v with
 |tup ds=>
  rw[hv] at h3;obtain⟨x,hx⟩:=wG (show In ds.length b.v from h3);simp only[fV,wZ,bnd,hx]
 |lst ds=>
  rw[hv] at h3;obtain⟨x,hx⟩:=wG (show In ds.length b.v from h3);simp only[fV,wZ,bnd,hx]
 |str x=>
  rw[hv] at h3;obtain⟨c,hx⟩:=wG (xs:=x.cps.toList) (show In x.length b.v from h3);simp only[fV,bnd,hx]
 |non=>rw[hv] at h3;exact absurd h3 id
 |bl _=>rw[hv] at h3;exact absurd h3 id
 |int _=>rw[hv] at h3;exact absurd h3 id
 |emp=>rw[hv] at h3;exact absurd h3 id⟩
def Bu (a:R fa ρ (zE e)) (g:α->β) (e':β->Dt) (i:Int) (h:∀ x,fV (.z (e x)) (.z (.int i))=some (.z (e' (g x)))):R (b2 fV fa (cB (.int i))) ρ (zE e'):=⟨g a.v,a.D,λhd=>by
 simp only[b2,a.ok hd,bnd,cB,h]⟩
def cut (xs:List α) (lo hi:Option Int):List α:=(xs.drop (HT.jd xs.length 0 lo)).take (HT.jd xs.length xs.length hi - HT.jd xs.length 0 lo)
theorem abI (xs:List α) (lo hi:Option Int):cutD (xs.map e) lo hi=(cut xs lo hi).map e:=by
 unfold cutD cut;rw[zz,List.map_take,List.map_drop]
abbrev pE:Option Int->Option Int:=λo=>o
def rJ:R fu ρ pE:=⟨none,none,λ_=>rfl⟩
def mU (a:R fa ρ (zE eI)):R (fj fa) ρ pE:=⟨some a.v,a.D,λh=>by simp only[fj,a.ok h,bnd,aex]⟩
variable {fl fh:Ev->Option (Option Int)}
theorem abJ {b:Bx} {ds:List Dt} {lo hi:Option Int} (h:rC b=some ds):slB b lo hi=some (.o (cutD ds lo hi)):=by
 cases b with
 |z d=>cases d<;>cases h;rfl
 |l d=>cases h;rfl
 |o d=>cases h;rfl
 |n d=>cases h
 |m d _=>cases h
def FT (a:RL fa ρ e) (l:R fl ρ pE) (u:R fh ρ pE):R (yj fa fl fh) ρ (oE e):=⟨cut a.v l.v u.v,bK a.D (bK l.D u.D),λh=>by
 obtain⟨h1,h⟩:=aC h;obtain⟨h2,h3⟩:=aC h;simp only[yj,a.ok h1,l.ok h2,u.ok h3,bnd,abJ a.lk,abI]⟩
def rY (a:R fa ρ (zE eS)) (l:R fl ρ pE) (u:R fh ρ pE):R (yj fa fl fh) ρ (zE eS):=⟨Txt.slice a.v l.v u.v,bK a.D (bK l.D u.D),λh=>by
 obtain⟨h1,h⟩:=aC h;obtain⟨h2,h3⟩:=aC h;simp only[yj,a.ok h1,l.ok h2,u.ok h3,bnd,slB]⟩
def uR (n:Nat):Prop:=n<=1000000
def mV (a:R fa ρ (zE eS)) (b:R fb ρ (zE eS)):R (b2 cu fa fb) ρ (zE eS):=⟨a.v++b.v,bK (bK a.D b.D) (some (uR (a.v.length+b.v.length))),λh=>by
 obtain⟨h,h3⟩:=aC h;obtain⟨h1,h2⟩:=aC h;simp only[b2,a.ok h1,b.ok h2,bnd,cu,zh (show a.v.length+b.v.length<=Vb from h3)]⟩
theorem Yr {b b':Bx} {ds ds':List Dt} (h:rC b=some ds) (h':rC b'=some ds') (hl:ds.length+ds'.length<=Vb):cu b b'=some (.o (ds++ds')):=by
 cases b with
 |z d=>
  cases d<;>cases h;cases b' with
  |z d'=>cases d'<;>cases h';exact zh hl
  |l d'=>cases h';exact zh hl
  |o d'=>cases h';exact zh hl
  |n d'=>cases h'
  |m d'=>cases h'
 |l d=>
  cases h;cases b' with
  |z d'=>cases d'<;>cases h';exact zh hl
  |l d'=>cases h';exact zh hl
  |o d'=>cases h';exact zh hl
  |n d'=>cases h'
  |m d'=>cases h'
 |o d=>
  cases h;cases b' with
  |z d'=>cases d'<;>cases h';exact zh hl
  |l d'=>cases h';exact zh hl
  |o d'=>cases h';exact zh hl
  |n d'=>cases h'
  |m d'=>cases h'
 |n d=>cases h
 |m d _=>cases h
def rK (a:RL fa ρ e) (b:RL fb ρ e):R (b2 cu fa fb) ρ (oE e):=⟨a.v++b.v,bK (bK a.D b.D) (some (uR (a.v.length+b.v.length))),λh=>by
 obtain⟨h,h3⟩:=aC h;obtain⟨h1,h2⟩:=aC h;simp only[b2,a.ok h1,b.ok h2,bnd];rw[Yr a.lk b.lk (by rw[zz,zz];exact h3)];simp only[oE,qf]⟩
def aeT (a:R fa ρ (zE eS)) (b:R fb ρ (zE eI)):R (b2 nP fa fb) ρ (zE eS):=⟨Txt.mul a.v b.v,bK (bK a.D b.D) (some (b.v<=1000 ∧ -1000<=b.v/\a.v.length<=1000)),λh=>by
 obtain⟨h,h3⟩:=aC h;obtain⟨h1,h2⟩:=aC h;simp only[b2,a.ok h1,b.ok h2,bnd];exact zh h3⟩
theorem Ys {b:Bx} {ds:List Dt} (h:rC b=some ds):nR [b]=some (.z (.int ds.length)):=by
 cases b with
 |z d=>cases d<;>cases h;rfl
 |l d=>cases h;rfl
 |o d=>cases h;rfl
 |n d=>cases h
 |m d _=>cases h
theorem Yt {b:Bx} {ds:List Dt} (h:rC b=some ds):wZ b=some ds:=by
 cases b with
 |z d=>cases d<;>cases h;rfl
 |l d=>cases h;rfl
 |o d=>cases h;rfl
 |n d=>cases h
 |m d _=>cases h
def x_len (a:RL fa ρ e):R (dw nR (ao fa aG)) ρ (zE eI):=⟨(a.v.length:Int),a.D,λh=>by
 simp only[dw,ao,aG,a.ok h,bnd,Ys a.lk,zz]⟩
def aeU (a:R fa ρ (zE (eT e))):R (dw nR (ao fa aG)) ρ (zE eI):=⟨(a.v.length:Int),a.D,λh=>by
 simp only[dw,ao,aG,a.ok h,bnd,nR,wZ,zz]⟩
def Kw (a:R fa ρ (zE eS)):R (dw nR (ao fa aG)) ρ (zE eI):=⟨(a.v.length:Int),a.D,λh=>by
 simp only[dw,ao,aG,a.ok h,bnd,nR]⟩
def oZ:Dt->Int
 |.tup ds=>ds.length
 |.lst ds=>ds.length
 |.str x=>x.length
 |_=>0
def tM:Dt->Bool
 |.tup _=>true
 |.lst _=>true
 |.str _=>true
 |_=>false
def yr (a:R fa ρ (zE eD)):R (dw nR (ao fa aG)) ρ (zE eI):=⟨oZ a.v,bK a.D (some (tM a.v=true)),λh=>by
 obtain⟨h,h4⟩:=aC h;have h4:tM a.v=true:=h4;simp only[dw,ao,aG,a.ok h,bnd];cases hv:a.v<;>rw[hv] at h4<;>first|(cases h4;done)|rfl⟩
def wH (a:RL fa ρ e):R (dw oA (ao fa aG)) ρ (zE (eT e)):=⟨a.v,a.D,λh=>by
 simp only[dw,ao,aG,a.ok h,bnd,oA,Yt a.lk]⟩
def ag0 (a:R fa ρ (zE eI)):R (dw XH (ao fa aG)) ρ (zE eI):=⟨if a.v < 0 then -a.v else a.v,a.D,λh=>by
 simp only[dw,ao,aG,a.ok h,bnd,XH]⟩
def Yu (a:R fa ρ (zE eB)):R (dw Vh (ao fa aG)) ρ (zE eI):=⟨if a.v=true then 1 else 0,a.D,λh=>by
 simp only[dw,ao,aG,a.ok h,bnd,Vh]⟩
theorem Js:∀ l:List Bool,Jl (l.map eB)=some l
 |[]=>rfl
 |a::l=>by simp only[zw,Jl,Js l,bnd]
def N7 (a:RL fa ρ eB):R (dw allB (ao fa aG)) ρ (zE eB):=⟨a.v.all id,a.D,λh=>by
 simp only[dw,ao,aG,a.ok h,bnd,allB,a.lk,Js]⟩
def ag1 (a:R fa ρ (zE eI)) (b:R fb ρ (zE eI)):R (dw XM (ao fa (ao fb aG))) ρ (zE eI):=⟨if b.v > a.v then b.v else a.v,bK a.D b.D,λh=>by
 obtain⟨h1,h2⟩:=aC h;simp only[dw,ao,aG,a.ok h1,b.ok h2,bnd,XM]⟩
def yZ (P:Dt->Bool) (a:R fa ρ (zE e)):R (mO P fa) ρ (zE eB):=⟨P (e a.v),a.D,λh=>by
 simp only[mO,b1,a.ok h,bnd,oW,toD,Zs,Qb]⟩
theorem strs_map:∀ l:LS_,Bj (l.map eS)=some l
 |[]=>rfl
 |a::l=>by simp only[zw,Bj,strs_map l,bnd]
def Yv (s:Str) (a:RL fa ρ eS):R (b1 (Jm s) fa) ρ (zE eS):=⟨Txt.join s a.v,bK a.D (some ((a.v.map (·.length)).sum+a.v.length * s.length<=100000)),λh=>by
 obtain⟨h,h4⟩:=aC h;simp only[b1,a.ok h,bnd,Jm,a.lk,strs_map];exact zh h4⟩
def FW:Dt->Str
 |.str x=>x
 |_=>⟨#[]⟩
def DR (a:R f ρ (zE eD)) (g:Dt->α) (e:α->Dt):R f ρ (zE e):=⟨g a.v,bK a.D (some (a.v=e (g a.v))),λhd=>by
 obtain⟨h1,h2⟩:=aC hd;have h2:a.v=e (g a.v):=h2;rw[a.ok h1];show some (Bx.z a.v)=some (Bx.z (e (g a.v)));rw[<-h2]⟩
class Flat {α:Type} (e:α->Dt):Prop where
 f:∀ a,yQ (e a)=true
instance:Flat eI:=⟨λ_=>rfl⟩
instance:Flat eB:=⟨λ_=>rfl⟩
instance:Flat eS:=⟨λ_=>rfl⟩
theorem Yw [DecidableEq α] {n:Nat} [Eqs e n] [Flat e] (x:α) (ys:List α):memD (e x) (ys.map e)=some (decide (x∈ys)):=by
 unfold memD;rw[zh ⟨Flat.f x,by rw[List.all_map];exact List.all_eq_true.mpr λy _=>Flat.f y⟩,List.any_map];congr 1;rw[Bool.eq_iff_iff,List.any_eq_true,decide_eq_true_iff];constructor
 ·rintro⟨y,hy,h⟩;simp only[Function.comp,Eqs.eq] at h;by_cases e1:y=x
  ·rw[<-e1];exact hy
  ·simp only[e1,decide_false] at h;cases h
 ·intro h;exact⟨x,h,by simp only[Function.comp,Eqs.eq,decide_true]⟩
theorem abK {b:Bx} {d:Dt} {ds:List Dt} (h:rC b=some ds):inB (.z d) b=memD d ds:=by
 cases b with
 |z d'=>cases d'<;>cases h;cases d<;>rfl
 |l d'=>cases h;cases d<;>rfl
 |o d'=>cases h;cases d<;>rfl
 |n d'=>cases h
 |m d'=>cases h
def ajh [DecidableEq α] {n:Nat} [Eqs e n] [Flat e] (a:R fa ρ (zE e)) (b:RL fb ρ e):R (b2 inF fa fb) ρ (zE eB):=⟨decide (a.v∈b.v),bK a.D b.D,λh=>by
 obtain⟨h1,h2⟩:=aC h;simp only[b2,a.ok h1,b.ok h2,bnd,inF,abK b.lk,Yw]⟩
def ac5 (a:R fa ρ (zE eS)) (b:R fb ρ (zE eS)):R (b2 inF fa fb) ρ (zE eB):=⟨Bh a.v b.v,bK a.D b.D,λh=>by
 obtain⟨h1,h2⟩:=aC h;simp only[b2,a.ok h1,b.ok h2,bnd,inF,inB]⟩
end
structure AR {γ:Type} (cA:γ->List Bx->Prop) (fs:Ev->Option (List Bx)) (ρ:Ev) where
 v:γ
 D:Option Prop
 bs:List Bx
 h:cA v bs
 ok:hold D->fs ρ=some bs
section
variable {α β γ δ ε σ:Type} {ρ:Ev} {f fa fb fc fd:Ev->Option Bx} {p q:Ev->Option Bool} {fs:Ev->Option (List Bx)} {e:α->Dt} {e':β->Dt} {e'':γ->Dt} {e3:δ->Dt}
def aN:Unit->List Bx->Prop:=λ_ bs=>bs=[]
def aZ (e:α->Dt) (t:γ->List Bx->Prop):α×γ->List Bx->Prop:=λx bs=>∃ r,bs=.z (e x.1)::r/\t x.2 r
def aL (e:α->Dt) (t:γ->List Bx->Prop):List α×γ->List Bx->Prop:=λx bs=>∃ b r,bs=b::r/\rC b=some (x.1.map e)/\t x.2 r
def bH:AR aN aG ρ:=⟨(),none,[],rfl,λ_=>rfl⟩
def cX {t:γ->List Bx->Prop} (a:R fa ρ (zE e)) (r:AR t fs ρ):AR (aZ e t) (ao fa fs) ρ:=⟨(a.v,r.v),bK a.D r.D,_,⟨_,rfl,r.h⟩,λh=>by
 obtain⟨h1,h2⟩:=aC h;simp only[ao,a.ok h1,r.ok h2,bnd]⟩
def FZ {t:γ->List Bx->Prop} (a:RL fa ρ e) (r:AR t fs ρ):AR (aL e t) (ao fa fs) ρ:=⟨(a.v,r.v),bK a.D r.D,_,⟨_,_,rfl,a.lk,r.h⟩,λh=>by
 obtain⟨h1,h2⟩:=aC h;simp only[ao,a.ok h1,r.ok h2,bnd]⟩
def x_call {cA:γ->List Bx->Prop} {F:List Bx->Option Bx} {n:Nat} {c:α->Bx} {T:γ->α} {Df:γ->Option Prop} (S:∀ v bs,cA v bs->bs.length=n/\(hold (Df v)->F (bs.map lend)=some (c (T v)))) (a:AR cA fs ρ):R (bB n F fs) ρ c:=⟨T a.v,bK a.D (Df a.v),λh=>by
 obtain⟨h1,h2⟩:=aC h;obtain⟨h3,h4⟩:=S a.v a.bs a.h;simp only[bB,a.ok h1,bnd,zh h3,h4 h2]⟩
theorem aeV {g:Ev->Option Out} {n:Nat} {bs:List Bx} {c:α->Bx} (x:R g (bs.map some++List.replicate (n - bs.length) none) (λr=>Out.rt (c r))) (h:hold x.D):dW n g bs=some (c x.v):=by
 unfold dW;rw[x.ok h];rfl
variable {fi:Ev->Option (List Dt)} {gt:Dt->Ev->Option Ev} {fe:Ev->Option Bx} {is:List Nat} {n:Nat}
def aji (xs:List α) (P:α->Option Prop):Option Prop:=some (∀ x∈xs,hold (P x))
theorem N8 {fs:Ev->Option (List Dt)} {ρ1:Ev} {g:α->List Dt} {π:α->Bool}:∀ xs:List α,(∀ x∈xs,∃ ρ2,gt (e x) ρ1=some ρ2/\p ρ2=some (π x)/\(π x=true->fs ρ2=some (g x)))->Cg gt p fs ρ1 (xs.map e)=some ((xs.filter π).flatMap g)
 |[],_=>rfl
 |x::xs,h=>by
  obtain⟨ρ2,h1,h2,h3⟩:=h x (zo ..);have ih:=N8 (g:=g) (π:=π) xs λy hy=>h y (zr _ hy);cases hp:π x with
  |true=>simp only[zw,Cg,h1,bnd,h2,hp,Jn,h3 hp,ih,yb,kq]
  |false=>simp only[zw,Cg,h1,bnd,h2,hp,ih,yb,Zs,Qb]
theorem Oa {g:α->β}:∀ xs:List α,xs.flatMap (λx=>[e' (g x)])=(xs.map g).map e'
 |[]=>rfl
 |x::xs=>by rw[kq,Oa xs];rfl
theorem Yx {ρ1:Ev} {g:α->β} {π:α->Bool} (xs:List α) (h:∀ x∈xs,∃ ρ2,gt (e x) ρ1=some ρ2/\p ρ2=some (π x)/\(π x=true->fe ρ2=some (.z (e' (g x))))):Jh gt p fe ρ1 (xs.map e)=some (((xs.filter π).map g).map e'):=by
 rw[<-Oa];exact N8 xs λx hx=>let ⟨ρ2,h1,h2,h3⟩:=h x hx;⟨ρ2,h1,h2,λhp=>by rw[h3 hp];rfl⟩
theorem comp_map {ρ1:Ev} {g:α->β} (xs:List α) (h:∀ x∈xs,∃ ρ2,gt (e x) ρ1=some ρ2/\fe ρ2=some (.z (e' (g x)))):Jh gt vq fe ρ1 (xs.map e)=some ((xs.map g).map e'):=
 (Yx (π:=λ_=>true) xs λx hx=>let ⟨ρ2,h1,h2⟩:=h x hx;⟨ρ2,h1,rfl,λ_=>h2⟩).trans (by rw[List.filter_eq_self.mpr λ_ _=>rfl])
def rM (it:R fi ρ (iE e)) (ρ2:α->Ev) (hg:∀ x,gt (e x) (qu is ρ++List.replicate n none)=some (ρ2 x)) (b:∀ x,R fe (ρ2 x) (zE e')):R (lF fi gt vq fe is n) ρ (oE e'):=⟨it.v.map λx=>(b x).v,bK (bK it.D (some (it.v.length<=100000))) (aji it.v λx=>(b x).D),λh=>by
 obtain⟨h,h3⟩:=aC h;obtain⟨h1,h2⟩:=aC h;have h3:∀ x∈it.v,hold (b x).D:=h3;simp only[lF,it.ok h1,bnd,zz,zh (show it.v.length<=100000 from h2),comp_map it.v λx hx=>⟨ρ2 x,hg x,(b x).ok (h3 x hx)⟩]⟩
def abL (it:R fi ρ (iE e)) (ρ2:α->Ev) (hg:∀ x,gt (e x) (qu is ρ++List.replicate n none)=some (ρ2 x)) (b:∀ x,R fe (ρ2 x) (zE e')) (hb:∀ x,(b x).D=none):R (lF fi gt vq fe is n) ρ (oE e'):=⟨it.v.map λx=>(b x).v,bK it.D (some (it.v.length<=100000)),λh=>by
 obtain⟨h1,h2⟩:=aC h;simp only[lF,it.ok h1,bnd,zz,zh (show it.v.length<=100000 from h2),comp_map it.v λx hx=>⟨ρ2 x,hg x,(b x).ok (by rw[hb x];trivial)⟩]⟩
def abM (a:RL fa ρ e):R (Ni fa) ρ (iE e):=⟨a.v,a.D,λh=>by
 have:Xv a.b=some (a.v.map e):=by
  have:=a.lk
  revert this
  generalize a.b=b;generalize a.v.map e=ds;intro this;cases b with
  |z d=>cases d<;>cases this;rfl
  |l d=>cases this;rfl
  |o d=>cases this;rfl
  |n d=>cases this
  |m d _=>cases this
 simp only[Ni,a.ok h,bnd,this]⟩
def ajj (a:R fa ρ (zE (eT e))):R (Ni fa) ρ (iE e):=⟨a.v,a.D,λh=>by simp only[Ni,a.ok h,bnd,Xv]⟩
def chars (x:Str):LS_:=x.cps.toList.map λc=>⟨#[c]⟩
theorem Yy (x:Str):signs x=(chars x).map eS:=by
 unfold signs chars;rw[QI];rfl
def vG:Dt->List Dt
 |.tup ds=>ds
 |.lst ds=>ds
 |.str x=>signs x
 |_=>[]
def abN (a:R fa ρ (zE eD)):R (Ni fa) ρ (iE eD):=⟨vG a.v,bK a.D (some (tM a.v=true)),λh=>by
 obtain⟨h,h4⟩:=aC h;have h4:tM a.v=true:=h4;simp only[Ni,a.ok h,bnd];cases hv:a.v<;>rw[hv] at h4<;>first|(cases h4;done)|(simp only[Xv,vG,iE,eD,List.map_id_fun',id])⟩
def aeW (a:R fa ρ (oE e)):R (itF fa) ρ (iE e):=⟨a.v,a.D,λh=>by simp only[itF,a.ok h,bnd,aaX]⟩
def rng (i:Int) (n:Nat):List Int:=(List.range n).map λk:Nat=>i+(k:Int)
theorem abO (i:Int) (n:Nat):MK i n=(rng i n).map eI:=by
 unfold MK rng;rw[QI];rfl
def Rg (j:Int):Prop:=-4611686018427387904<=j/\j < 4611686018427387904
def xO (a:R fa ρ (zE eI)):R (SM (ao fa aG)) ρ (iE eI):=⟨rng 0 a.v.toNat,bK a.D (some (Rg a.v)),λh=>by
 obtain⟨h,h4⟩:=aC h;simp only[SM,ao,aG,a.ok h,bnd];show(if -(2 ^ 62)<=a.v/\a.v < 2 ^ 62 then some (MK 0 a.v.toNat) else none)=_;exact(zh h4).trans (by rw[abO])⟩
end
section
variable {α β γ δ ε σ τ:Type} {ρ:Ev} {f fa fb fc fd:Ev->Option Bx} {p q:Ev->Option Bool} {fs:Ev->Option (List Bx)} {e:α->Dt} {e':β->Dt} {g g1 g2 k:Ev->Option Out} {cO:γ->Out} {gt:Dt->Ev->Option Ev}
theorem rN {ρ':Ev} (h:g1 ρ=some (.nx ρ')):aD g1 k ρ=k ρ':=by
 unfold aD;rw[h];rfl
def bD (x:R (aD g (aD g1 k)) ρ cO):R (aD (aD g g1) k) ρ cO:=⟨x.v,x.D,λh=>by
 rw[<-x.ok h];unfold aD;cases g ρ with
 |none=>rfl
 |some o=>cases o<;>rfl⟩
def cQ (x:R k ρ cO):R (aD eF k) ρ cO:=⟨x.v,x.D,λh=>x.ok h⟩
def dY {is:List Nat} (x:γ) (h:cO x=.nx (kill is ρ)):R (iV is) ρ cO:=⟨x,none,λ_=>by rw[h];rfl⟩
def cJ {c:α->Bx} (inj:α->γ) (a:R f ρ c) (h:∀ x,cO (inj x)=.rt (c x)) (hc:∀ x,Xl (c x)=some (.rt (c x))):R (aD (dX f) k) ρ cO:=⟨inj a.v,a.D,λhd=>by
 have:dX f ρ=some (.rt (c a.v)):=by unfold dX;rw[a.ok hd,bnd,hc]
 unfold aD;rw[this,h];rfl⟩
def Yz {c:α->Bx} (i:Nat) (inj:α->γ) (a:α) (hi:ρ[i]?=some (some (c a))) (h:∀ x,cO (inj x)=.rt (c x)) (hc:∀ x,Xl (c x)=some (.rt (c x))):R (aD (Kc i) k) ρ cO:=⟨inj a,none,λhd=>by
 have:Kc i ρ=some (.rt (c a)):=by unfold Kc;rw[hi];exact hc a
 unfold aD;rw[this,h];rfl⟩
def bN {c:α->Bx} (i:Nat) (a:R f ρ c) (hc:∀ x,Xm ρ i (c x)=some (ρ.set i (some (c x)))) (K:∀ x,R k (ρ.set i (some (c x))) cO):R (aD (setG i f) k) ρ cO:=⟨(K a.v).v,bK a.D (K a.v).D,λhd=>by
 obtain⟨h1,h2⟩:=aC hd;rw[rN (ρ':=ρ.set i (some (c a.v))) (by unfold setG;rw[a.ok h1,bnd,hc,bnd])];exact(K a.v).ok h2⟩
def ag2 (a:R f ρ (zE e)) (ρ2:α->Ev) (hg:∀ x,gt (e x) ρ=some (ρ2 x)) (K:∀ x,R k (ρ2 x) cO):R (aD (aeA gt f) k) ρ cO:=⟨(K a.v).v,bK a.D (K a.v).D,λhd=>by
 obtain⟨h1,h2⟩:=aC hd;rw[rN (ρ':=ρ2 a.v) (by unfold aeA;rw[a.ok h1,bnd];simp only[hg,bnd])];exact(K a.v).ok h2⟩
def ag3 (i j:Nat) (a:R fa ρ (zE e)) (b:R fb ρ (zE e')) (K:∀ x y,R k ((ρ.set i (some (.z (e x)))).set j (some (.z (e' y)))) cO):R (aD (aeB i j (ao fa (ao fb aG))) k) ρ cO:=⟨(K a.v b.v).v,bK (bK a.D b.D) (K a.v b.v).D,λhd=>by
 obtain⟨h1,h3⟩:=aC hd;obtain⟨h1,h2⟩:=aC h1;rw[rN (ρ':=(ρ.set i (some (.z (e a.v)))).set j (some (.z (e' b.v)))) (by unfold aeB;simp only[ao,aG,a.ok h1,b.ok h2,bnd,aaV])];exact(K a.v b.v).ok h3⟩
def Jt (i:Nat) (xs:List α) (hi:ρ[i]?=some (some (.o (xs.map e)))) (a:R f ρ (zE e)) (K:∀ ys:List α,R k (ρ.set i (some (.o (ys.map e)))) cO):R (aD (Nh i f) k) ρ cO:=⟨(K (xs++[a.v])).v,bK (bK a.D (some (uR xs.length))) (K (xs++[a.v])).D,λhd=>by
 obtain⟨h1,h3⟩:=aC hd;obtain⟨h1,h2⟩:=aC h1;have h2:xs.length<=1000000:=h2;rw[rN (ρ':=ρ.set i (some (.o ((xs++[a.v]).map e)))) (by
  unfold Nh;rw[a.ok h1,bnd];simp only[aaW,hi,zz,qf,zw,List.map_nil];rw[zh (Nat.lt_of_le_of_lt h2 (by decide))])]
 exact(K _).ok h3⟩
def jf (t:R p ρ tE) (a:R (aD g1 k) ρ cO) (b:R (aD g2 k) ρ cO):R (aD (uY p g1 g2) k) ρ cO:=⟨if t.v=true then a.v else b.v,bK t.D (bK (Ig (t.v=true) a.D) (Ig (t.v=false) b.D)),λhd=>by
 obtain⟨h1,h2⟩:=aC hd;obtain⟨h2,h3⟩:=aC h2;have e1:∀ c,t.v=c->aD (uY p g1 g2) k ρ=aD (if c=true then g1 else g2) k ρ:=λc hc=>by
  unfold aD uY;rw[t.ok h1,bnd,hc];cases c<;>rfl
 cases hv:t.v with
 |true=>rw[e1 true hv];simp only[Jn];exact a.ok (lJ h2 hv)
 |false=>rw[e1 false hv];simp only[Zs,Qb];exact b.ok (lJ h3 hv)⟩
def Tj (E:σ->Ev) (t:R p ρ tE) (a:R g1 ρ (λs=>Out.nx (E s))) (b:R g2 ρ (λs=>Out.nx (E s))) (K:∀ s,R k (E s) cO):R (aD (uY p g1 g2) k) ρ cO:=⟨(K (if t.v=true then a.v else b.v)).v,bK (bK t.D (bK (Ig (t.v=true) a.D) (Ig (t.v=false) b.D))) (K (if t.v=true then a.v else b.v)).D,λhd=>by
 obtain⟨h,h4⟩:=aC hd;obtain⟨h1,h2⟩:=aC h;obtain⟨h2,h3⟩:=aC h2;rw[rN (ρ':=E (if t.v=true then a.v else b.v)) (by
  unfold uY;rw[t.ok h1,bnd];cases hv:t.v with
  |true=>simp only[Jn];exact a.ok (lJ h2 hv)
  |false=>simp only[Zs,Qb];exact b.ok (lJ h3 hv))]
 exact(K _).ok h4⟩
def yt (step:σ->α->σ) (P:σ->α->Option Prop):List α->σ->Prop
 |[],_=>True
 |x::xs,s=>hold (P s x)/\yt step P xs (step s x)
theorem Ga {gb:Ev->Option Out} (E:σ->Ev) (ρ2:σ->α->Ev) (hg:∀ s x,gt (e x) (E s)=some (ρ2 s x)) (body:∀ s x,R gb (ρ2 s x) (λs=>Out.nx (E s))):∀ (xs:List α) (s:σ),yt (λs x=>(body s x).v) (λs x=>(body s x).D) xs s->Ce gt gb (xs.map e) (E s)=some (.nx (E (xs.foldl (λs x=>(body s x).v) s)))
 |[],s,_=>rfl
 |x::xs,s,h=>by
  simp only[zw,Ce,hg,bnd,(body s x).ok h.1,kF];exact Ga E ρ2 hg body xs _ h.2
variable {fi:Ev->Option (List Dt)} {gb:Ev->Option Out}
def Gb (E:σ->Ev) (s0:σ) (hE:ρ=E s0) (it:R fi ρ (iE e)) (ρ2:σ->α->Ev) (hg:∀ s x,gt (e x) (E s)=some (ρ2 s x)) (body:∀ s x,R gb (ρ2 s x) (λs=>Out.nx (E s))) (K:∀ s,R k (E s) cO):R (aD (oY fi gt gb) k) ρ cO:=⟨(K (it.v.foldl (λs x=>(body s x).v) s0)).v,bK (bK it.D (some (yt (λs x=>(body s x).v) (λs x=>(body s x).D) it.v s0))) (K (it.v.foldl (λs x=>(body s x).v) s0)).D,λhd=>by
 obtain⟨h,h4⟩:=aC hd;obtain⟨h1,h2⟩:=aC h;rw[rN (ρ':=E (it.v.foldl (λs x=>(body s x).v) s0)) (by
  unfold oY;rw[it.ok h1,bnd];subst hE;exact Ga E ρ2 hg body it.v s0 h2)]
 exact(K _).ok h4⟩
def aeX (E:σ->Ev) (s0:σ) (hE:ρ=E s0) (it:R fi ρ (iE e)) (ρ2:σ->α->Ev) (hg:∀ s x,gt (e x) (E s)=some (ρ2 s x)) (body:∀ s x,R gb (ρ2 s x) (λs=>Out.nx (E s))) (hb:∀ s x,(body s x).D=none) (K:∀ s,R k (E s) cO):R (aD (oY fi gt gb) k) ρ cO:=⟨(K (it.v.foldl (λs x=>(body s x).v) s0)).v,bK it.D (K (it.v.foldl (λs x=>(body s x).v) s0)).D,λhd=>by
 obtain⟨h1,h4⟩:=aC hd;have h2:∀ (xs:List α) (s:σ),yt (λs x=>(body s x).v) (λs x=>(body s x).D) xs s:=λxs=>by
  induction xs with
  |nil=>intro s;trivial
  |cons x xs ih=>intro s;exact⟨by show hold (body s x).D;rw[hb s x];trivial,ih _⟩
 rw[rN (ρ':=E (it.v.foldl (λs x=>(body s x).v) s0)) (by
  unfold oY;rw[it.ok h1,bnd];subst hE;exact Ga E ρ2 hg body it.v s0 (h2 _ _))]
 exact(K _).ok h4⟩
inductive jJ (σ τ:Type) where
 |nx (s:σ)|rt (r:τ)|bk (s:σ)|ct (s:σ)
def cC (E:σ->Ev) (c:τ->Bx):jJ σ τ->Out
 |.nx s=>.nx (E s)
 |.rt r=>.rt (c r)
 |.bk s=>.bk (E s)
 |.ct s=>.ct (E s)
def nU (step:σ->α->jJ σ τ):List α->σ->jJ σ τ
 |[],s=>.nx s
 |x::xs,s=>match step s x with
  |.nx s'=>nU step xs s'
  |.ct s'=>nU step xs s'
  |.bk s'=>.nx s'
  |.rt r=>.rt r
def qG (step:σ->α->jJ σ τ) (P:σ->α->Option Prop):List α->σ->Prop
 |[],_=>True
 |x::xs,s=>hold (P s x)/\match step s x with
  |.nx s'=>qG step P xs s'
  |.ct s'=>qG step P xs s'
  |.bk _=>True
  |.rt _=>True
theorem Kz {c:τ->Bx} (E:σ->Ev) (ρ2:σ->α->Ev) (hg:∀ s x,gt (e x) (E s)=some (ρ2 s x)) (body:∀ s x,R gb (ρ2 s x) (cC E c)):∀ (xs:List α) (s:σ),qG (λs x=>(body s x).v) (λs x=>(body s x).D) xs s->Ce gt gb (xs.map e) (E s)=some (cC E c (nU (λs x=>(body s x).v) xs s))
 |[],s,_=>rfl
 |x::xs,s,h=>by
  obtain⟨h1,h2⟩:=h;dsimp only at h2;simp only[zw,Ce,hg,bnd,(body s x).ok h1,nU]
  revert h2
  cases(body s x).v with
  |nx s'=>intro h2;exact Kz E ρ2 hg body xs s' h2
  |ct s'=>intro h2;exact Kz E ρ2 hg body xs s' h2
  |bk s'=>intro _;rfl
  |rt r=>intro _;rfl
theorem Gd (step:σ->α->jJ σ τ):∀ (xs:List α) (s:σ),(∃ s',nU step xs s=.nx s')\/∃ r,nU step xs s=.rt r
 |[],s=>.inl ⟨s,rfl⟩
 |x::xs,s=>by
  unfold nU;cases step s x with
  |nx s'=>exact Gd step xs s'
  |ct s'=>exact Gd step xs s'
  |bk s'=>exact .inl ⟨s',rfl⟩
  |rt r=>exact .inr ⟨r,rfl⟩
def behind (r:jJ σ τ) (inj:τ->γ) (K:σ->γ):γ:=match r with
 |.rt r=>inj r
 |.nx s=>K s
 |.bk s=>K s
 |.ct s=>K s
def tO (r:jJ σ τ) (K:σ->Prop):Prop:=match r with
 |.rt _=>True
 |.nx s=>K s
 |.bk s=>K s
 |.ct s=>K s
def Tn (r:jJ σ τ) (K:σ->Option Prop):Option Prop:=some (tO r λs=>hold (K s))
def R.to {α β:Type} {f:Ev->Option β} {ρ:Ev} {c:α->β} (x:R f ρ c) (v':α) (D':Option Prop) (hv:x.v=v':=by kernel_rfl) (hD:x.D=D':=by kernel_rfl):R f ρ c:=⟨v',D',λh=>by
 subst hv hD;exact x.ok h⟩
def KC {c:τ->Bx} (E:σ->Ev) (s0:σ) (hE:ρ=E s0) (it:R fi ρ (iE e)) (ρ2:σ->α->Ev) (hg:∀ s x,gt (e x) (E s)=some (ρ2 s x)) (body:∀ s x,R gb (ρ2 s x) (cC E c)) (inj:τ->γ) (hj:∀ r,cO (inj r)=.rt (c r)) (K:∀ s,R k (E s) cO):R (aD (oY fi gt gb) k) ρ cO:=⟨behind (nU (λs x=>(body s x).v) it.v s0) inj λs=>(K s).v,bK (bK it.D (some (qG (λs x=>(body s x).v) (λs x=>(body s x).D) it.v s0))) (Tn (nU (λs x=>(body s x).v) it.v s0) λs=>(K s).D),λhd=>by
 obtain⟨h,h4⟩:=aC hd;obtain⟨h1,h2⟩:=aC h;have e1:oY fi gt gb ρ=some (cC E c (nU (λs x=>(body s x).v) it.v s0)):=by
  unfold oY;rw[it.ok h1,bnd];subst hE;exact Kz E ρ2 hg body it.v s0 h2
 rcases Gd (λs x=>(body s x).v) it.v s0 with⟨s',es⟩|⟨r,es⟩
 ·rw[es] at e1 h4 ⊢;rw[rN e1];exact(K s').ok h4
 ·rw[es] at e1 ⊢;show aD (oY fi gt gb) k ρ=some (cO (inj r));unfold aD;rw[e1,hj];rfl⟩
class Ky {κ:Type} (c:κ->Key):Prop where
 inj:∀ a b,c a=c b->a=b
abbrev kS:Str->Key:=Sum.inr
abbrev kI:Int->Key:=Sum.inl
instance:Ky kS:=⟨λ_ _ h=>by cases h;rfl⟩
instance:Ky kI:=⟨λ_ _ h=>by cases h;rfl⟩
abbrev mE (e:α->Dt):List (Str×α)->Bx:=λm=>.m (m.map λq=>(kS q.1,e q.2)) none
abbrev nE (e:α->Dt):List (Str×α)->Bx:=λm=>.n (m.map λq=>(kS q.1,e q.2))
section
variable {κ:Type} [DecidableEq κ] {c:κ->Key}
def look [Inhabited α] (m:List (κ×α)) (x:κ):α:=((m.find? λq=>decide (q.1=x)).map (·.2)).getD default
def has (m:List (κ×α)) (x:κ):Bool:=m.any λq=>decide (q.1=x)
def put (m:List (κ×α)) (x:κ) (a:α):List (κ×α):=if has m x=true then m.map (λq=>if q.1=x then(q.1,a) else q) else m++[(x,a)]
theorem ac6 [Ky c] (a b:κ):decide (c a=c b)=decide (a=b):=by
 by_cases h:a=b
 ·rw[h];simp
 ·rw[ZA h,ZA λz=>h (Ky.inj (c:=c) _ _ z)]
theorem YB [Ky c] (m:List (κ×α)) (x:κ):Fp (m.map λq=>(c q.1,e q.2)) (c x)=((m.find? λq=>decide (q.1=x)).map (·.2)).map e:=by
 unfold Fp;rw[List.find?_map];simp only[Option.map_map,Function.comp_def,ac6]
theorem YC [Ky c] [Inhabited α] {m:List (κ×α)} {x:κ} (h:has m x=true):Fp (m.map λq=>(c q.1,e q.2)) (c x)=some (e (look m x)):=by
 rw[YB];unfold look;unfold has at h;rw[List.any_eq_true] at h;obtain⟨q,hq,hx⟩:=h;cases hf:m.find? λq=>decide (q.1=x) with
 |none=>exact absurd hx (by simpa using List.find?_eq_none.mp hf q hq)
 |some q=>rfl
theorem abP [Ky c] (m:List (κ×α)) (x:κ) (a:α):QW (m.map λq=>(c q.1,e q.2)) (c x) (e a)=(put m x a).map λq=>(c q.1,e q.2):=by
 unfold QW put has;rw[List.any_map];simp only[Function.comp_def,ac6];by_cases h:(m.any λq=>decide (q.1=x))=true
 ·rw[zh h,zh h];rw[QI,QI];refine QU λq _=>?_;simp only[Function.comp];by_cases hq:q.1=x
  ·simp[hq]
  ·have h':¬ c q.1=c x:=λz=>hq (Ky.inj (c:=c) _ _ z);simp[hq,h']
 ·rw[zC h,zC h];simp
end
theorem Ob:∀ m:List (Str×α),Vk (m.map λq=>(kS q.1,e q.2))=some (m.map (·.1))
 |[]=>rfl
 |q::m=>by rw[zw,Vk,Ob m,bnd];rfl
def aeY [Inhabited α] (a:R fa ρ (nE e)) (b:R fb ρ (zE eS)):R (b2 Jo fa fb) ρ (zE e):=⟨look a.v b.v,bK (bK a.D b.D) (some (has a.v b.v=true)),λh=>by
 obtain⟨h,h3⟩:=aC h;obtain⟨h1,h2⟩:=aC h;simp only[b2,a.ok h1,b.ok h2,bnd,Jo,kyB,YC (c:=kS) (show has a.v b.v=true from h3)]⟩
def aeZ (e:α->Dt):R (λ_=>some (.m [] none)) ρ (mE e):=⟨[],none,λ_=>rfl⟩
def abQ (a:R fa ρ (nE e)):R (dw Fq (ao fa aG)) ρ (oE eS):=⟨je (a.v.map (·.1)),bK a.D (some (a.v.length < 64)),λh=>by
 obtain⟨h,h4⟩:=aC h;simp only[dw,ao,aG,a.ok h,bnd,Fq,nE,Ob,zz,zh (show a.v.length < 64 from h4),QI]⟩
end
section
variable {α β:Type} {ρ:Ev} {fa f:Ev->Option Bx} {fs:Ev->Option LS_} {fi:Ev->Option (List Dt)} {e:α->Dt}
abbrev sE:LS_->LS_:=λys=>ys
theorem abR {b:Bx} {ds:List Dt} (h:rC b=some ds):wZ b=some ds:=by
 cases b with
 |z d=>cases d<;>first|exact h|(cases h;done)
 |l _=>exact h
 |o _=>exact h
 |n _=>cases h
 |m _ _=>cases h
def ag4 (a:RL fa ρ eS):R (abx fa) ρ sE:=⟨a.v,a.D,λh=>by
 simp only[abx,a.ok h,bnd,Yg,abR a.lk,strs_map]⟩
def ae0 (a:R fs ρ sE):R (Te fs) ρ (oE eS):=⟨je (oF a.v),bK a.D (some (a.v.length < 4000/\(oF a.v).length < 64)),λh=>by
 obtain⟨h,h4⟩:=aC h;simp only[Te,a.ok h,bnd];exact zh h4⟩
def YD (a:R fi ρ (iE eD)) (g:Dt->α) (e:α->Dt):R fi ρ (iE e):=⟨a.v.map g,bK a.D (some (∀ d∈a.v,d=e (g d))),λh=>by
 obtain⟨h,h4⟩:=aC h;have h4:∀ d∈a.v,d=e (g d):=h4;rw[a.ok h];show some (a.v.map eD)=some ((a.v.map g).map e);rw[QI];exact congrArg some (QU λd hd=>h4 d hd)⟩
def Rf:Dt->Dt×Dt
 |.tup [a,b]=>(a,b)
 |_=>(.non,.non)
def ajk (a:R fa ρ (zE eD)):R (itF fa) ρ (iE eD):=⟨vG a.v,bK a.D (some (tM a.v=true)),λh=>by
 obtain⟨h,h4⟩:=aC h;have h4:tM a.v=true:=h4;simp only[itF,a.ok h,bnd];cases hv:a.v<;>rw[hv] at h4<;>first|(cases h4;done)|(simp only[aaX,vG,iE,eD,List.map_id_fun',id])⟩
end
end P1
end
section
namespace P1
open PySem PySem.Spec PyProof.Rows L2 S1 S6
class qH {α:Type} (e:α->Dt) where
 k:α->Key
 ok:∀ a,agQ (e a)=some (k a)
 inj:∀ a b,k a=k b->a=b
 same:∀ a b,ac2 (k a) (k b)=true
instance:qH eI:=⟨λi=>.inl i,λ_=>rfl,λa b h=>by cases h;rfl,λ_ _=>rfl⟩
instance:qH eS:=⟨λi=>.inr i,λ_=>rfl,λa b h=>by cases h;rfl,λ_ _=>rfl⟩
class Kys {α:Type} (e:α->Dt) where
 k:α->List Key
 ok:∀ a,S7 (e a)=some (k a)
 inj:∀ a b,k a=k b->a=b
 shp:∀ a b,abl (k a) (k b)=true
 ne:∀ a,(k a).isEmpty=false
class ae1 {α:Type} (e:α->Dt) [Kys e]:Prop where
 tx:∀ a,abA (Kys.k e a)=true
section
variable {α β γ δ:Type} {e:α->Dt} {e':β->Dt} {e'':γ->Dt} {e3:δ->Dt}
instance [qH e] [qH e']:Kys (zV e e'):=⟨λq=>[qH.k e q.1,qH.k e' q.2],λq=>by simp only[S7,Nu,qH.ok,bnd],λa b h=>by
 simp only[KF,and_true] at h;exact Prod.ext (qH.inj _ _ h.1) (qH.inj _ _ h.2),λa b=>by simp[abl,qH.same],λ_=>rfl⟩
instance [qH e] [qH e'] [qH e'']:Kys (eP3 e e' e''):=⟨λq=>[qH.k e q.1,qH.k e' q.2.1,qH.k e'' q.2.2],λq=>by simp only[S7,Nu,qH.ok,bnd],λa b h=>by
 simp only[KF,and_true] at h;exact Prod.ext (qH.inj _ _ h.1) (Prod.ext (qH.inj _ _ h.2.1) (qH.inj _ _ h.2.2)),λa b=>by simp[abl,qH.same],λ_=>rfl⟩
instance [qH e] [qH e'] [qH e''] [qH e3]:Kys (eP4 e e' e'' e3):=⟨λq=>[qH.k e q.1,qH.k e' q.2.1,qH.k e'' q.2.2.1,qH.k e3 q.2.2.2],λq=>by simp only[S7,Nu,qH.ok,bnd],λa b h=>by
 simp only[KF,and_true] at h;exact Prod.ext (qH.inj _ _ h.1) (Prod.ext (qH.inj _ _ h.2.1) (Prod.ext (qH.inj _ _ h.2.2.1) (qH.inj _ _ h.2.2.2))),λa b=>by simp[abl,qH.same],λ_=>rfl⟩
instance [qH e]:ae1 (zV e eS):=⟨λa=>by simp[Kys.k,abA,qH.k]⟩
instance [qH e] [qH e']:ae1 (eP3 e eS e'):=⟨λa=>by simp[Kys.k,abA,qH.k]⟩
instance [qH e] [qH e'] [qH e'']:ae1 (eP4 e eS e' e''):=⟨λa=>by simp[Kys.k,abA,qH.k]⟩
variable {ρ:Ev} {fa f:Ev->Option Bx} {fs:Ev->Option (List (List Key))}
end
end P1
end
section
namespace P1
open PySem PySem.Spec PyProof.Rows L2
section
variable {α β γ:Type} {ρ:Ev} {fa fb fd f fk fv:Ev->Option Bx} {fs:Ev->Option (List Bx)} {fi:Ev->Option (List Dt)} {e:α->Dt} {e':β->Dt} {g k:Ev->Option Out} {cO:γ->Out} {gt:Dt->Ev->Option Ev} {p:Ev->Option Bool} {is:List Nat} {n:Nat}
abbrev mW (w:Option Addr) (e:α->Dt):List (Str×α)->Bx:=λm=>.m (m.map λq=>(kS q.1,e q.2)) w
def abT (w:Option Addr) (i:Nat) (m:List (Str×α)) (hi:ρ[i]?=some (some (mW w e m))) (a:R fa ρ (zE e)) (b:R fb ρ (zE eS)) (K:∀ m':List (Str×α),R k (ρ.set i (some (mW w e m'))) cO):R (aD (XR i fa fb) k) ρ cO:=⟨(K (put m b.v a.v)).v,bK (bK (bK a.D b.D) (some (m.length < 1000))) (K (put m b.v a.v)).D,λhd=>by
 obtain⟨h,h4⟩:=aC hd;obtain⟨h,h3⟩:=aC h;obtain⟨h1,h2⟩:=aC h;rw[rN (ρ':=ρ.set i (some (mW w e (put m b.v a.v)))) (by
  unfold XR;rw[a.ok h1,bnd,b.ok h2,bnd];simp only[Nq,kyB,bnd,hi,mW,zz,zh (show m.length < 1000 from h3),abP])]
 exact(K _).ok h4⟩
end
section
variable {α:Type} {ρ:Ev} {fa fb:Ev->Option Bx} {e:α->Dt}
end
end P1
end
section
namespace P1
open PySem PySem.Spec PyProof.Rows L2 S1 S6
section
variable {ρ:Ev} {fa:Ev->Option Bx}
def kT (xs:LS_):List Key:=xs.map Sum.inr
def ajl (a b:LS_):Bool:=ai8 (kT a) (kT b)
end
section
variable {α:Type} {ρ:Ev} {f:Ev->Option Bx} {e:α->Dt}
theorem map_some (e:α->Dt) (xs:List α):(xs.map some).map (eO e)=xs.map e:=by rw[QI];rfl
end
end P1
end
section
namespace P1
open PySem PySem.Spec PyProof.Rows L2
section
variable {α:Type} {k g:Ev->Option Out} {ρ:Ev} {cO:α->Out}
def ajm (i:Nat) (E:Ev) (hE:aeL i ρ=some E) (K:R k E cO):R (fzG i k) ρ cO:=⟨K.v,K.D,λh=>by
 unfold fzG;rw[hE];exact K.ok h⟩
end
section
variable {α:Type} {e:α->Dt} {ρ:Ev} {fa fb:Ev->Option Bx}
end
section
variable {σ τ γ:Type} {p:Ev->Option Bool} {gb k:Ev->Option Out} {ρ:Ev} {cO:γ->Out}
def Rh (cond:σ->Bool) (step:σ->jJ σ τ):Nat->σ->jJ σ τ
 |0,s=>.nx s
 |n+1,s=>if cond s=true then(match step s with
  |.nx s'=>Rh cond step n s'
  |.ct s'=>Rh cond step n s'
  |.bk s'=>.nx s'
  |.rt r=>.rt r) else .nx s
def whD (cond:σ->Bool) (cD:σ->Option Prop) (step:σ->jJ σ τ) (P:σ->Option Prop):Nat->σ->Prop
 |0,_=>False
 |n+1,s=>hold (cD s)/\(cond s=true->hold (P s)/\match step s with
  |.nx s'=>whD cond cD step P n s'
  |.ct s'=>whD cond cD step P n s'
  |.bk _=>True
  |.rt _=>True)
theorem wI (cond:σ->Bool) (step:σ->jJ σ τ):∀ (n:Nat) (s:σ),(∃ s',Rh cond step n s=.nx s')\/∃ r,Rh cond step n s=.rt r
 |0,s=>.inl ⟨s,rfl⟩
 |n+1,s=>by
  unfold Rh;split
  ·cases step s with
   |nx s'=>exact wI cond step n s'
   |ct s'=>exact wI cond step n s'
   |bk s'=>exact .inl ⟨s',rfl⟩
   |rt r=>exact .inr ⟨r,rfl⟩
  ·exact .inl ⟨s,rfl⟩
theorem Ri {c:τ->Bx} (E:σ->Ev) (test:∀ s,R p (E s) tE) (body:∀ s,R gb (E s) (cC E c)):∀ (n:Nat) (s:σ),whD (λs=>(test s).v) (λs=>(test s).D) (λs=>(body s).v) (λs=>(body s).D) n s->Vv p gb n (E s)=some (cC E c (Rh (λs=>(test s).v) (λs=>(body s).v) n s))
 |0,s,h=>absurd h id
 |n+1,s,h=>by
  obtain⟨h1,h2⟩:=h;have ht:p (E s)=some (test s).v:=(test s).ok h1;unfold Vv Rh;rw[ht,bnd];cases hc:(test s).v with
  |false=>rfl
  |true=>
   obtain⟨h3,h4⟩:=h2 hc;rw[zh rfl,zh rfl,(body s).ok h3,bnd];cases hb:(body s).v with
   |nx s'=>dsimp only at h4;rw[hb] at h4;exact Ri E test body n s' h4
   |ct s'=>dsimp only at h4;rw[hb] at h4;exact Ri E test body n s' h4
   |bk s'=>rfl
   |rt r=>rfl
def abU {c:τ->Bx} (n:Nat) (E:σ->Ev) (s0:σ) (hE:ρ=E s0) (test:∀ s,R p (E s) tE) (body:∀ s,R gb (E s) (cC E c)) (inj:τ->γ) (hj:∀ r,cO (inj r)=.rt (c r)) (K:∀ s,R k (E s) cO):R (aD (Vv p gb n) k) ρ cO:=
 ⟨behind (Rh (λs=>(test s).v) (λs=>(body s).v) n s0) inj λs=>(K s).v,bK (some (whD (λs=>(test s).v) (λs=>(test s).D) (λs=>(body s).v) (λs=>(body s).D) n s0)) (Tn (Rh (λs=>(test s).v) (λs=>(body s).v) n s0) λs=>(K s).D),λhd=>by
 obtain⟨h2,h4⟩:=aC hd;have e1:Vv p gb n ρ=some (cC E c (Rh (λs=>(test s).v) (λs=>(body s).v) n s0)):=by
  subst hE;exact Ri E test body n s0 h2
 rcases wI (λs=>(test s).v) (λs=>(body s).v) n s0 with⟨s',es⟩|⟨r,es⟩
 ·rw[es] at e1 h4 ⊢;rw[rN e1];exact(K s').ok h4
 ·rw[es] at e1 ⊢;show aD (Vv p gb n) k ρ=some (cO (inj r));unfold aD;rw[e1,hj];rfl⟩
end
section
variable {α:Type} {e:α->Dt} {ρ:Ev} {fa:Ev->Option Bx}
def enF (fs:Ev->Option (List Bx)):Ev->Option (List Dt):=λρ=>(fs ρ).bind NT
def Oc (xs:List α):List (Int×α):=(List.range xs.length).zipWith (λ(k:Nat) x=>((k:Int),x)) xs
theorem VD (xs:List α):Bq (xs.map e)=(Oc xs).map (zV eI e):=by
 unfold Bq Oc;rw[zz,List.zipWith_map_right,List.map_zipWith]
def ae2 (a:R fa ρ (zE (eL e))):R (enF (ao fa aG)) ρ (iE (zV eI e)):=⟨Oc a.v,a.D,λh=>by
 simp only[enF,ao,aG,a.ok h,bnd,zE,eL,NT,VD]⟩
end
section
variable {α β σ τ:Type}
theorem Tp {step:σ->α->σ} {P:σ->α->Option Prop} (I:Nat->σ->Prop):∀ (xs:List α) (m:Nat) (s0:σ),I m s0->(∀ k x s,xs[k]?=some x->I (m+k) s->hold (P s x)/\I (m+k+1) (step s x))->yt step P xs s0/\I (m+xs.length) (xs.foldl step s0)
 |[],m,s0,h0,_=>⟨trivial,h0⟩
 |x::xs,m,s0,h0,hs=>by
  obtain⟨h1,h2⟩:=hs 0 x s0 rfl h0;have:=Tp I xs (m+1) (step s0 x) h2 λk y s e h=>by
   have:=hs (k+1) y s (by simpa using e) (by rw[show m+(k+1)=m+1+k by omega];exact h);rw[show m+(k+1)+1=m+1+k+1 by omega] at this;exact this
  refine⟨⟨h1,this.1⟩,?_⟩;rw[Zp,show m+(xs.length+1)=m+1+xs.length by omega];exact this.2
theorem abW {i:Int} {n k:Nat} {x:Int} (h:(rng i n)[k]?=some x):x=i+k/\k < n:=by
 unfold rng at h;rw[ZO] at h;cases hk:(List.range n)[k]? with
 |none=>rw[hk] at h;cases h
 |some j=>
  rw[hk] at h;have hl:k < n:=by simpa using(List.getElem?_eq_some_iff.mp hk).1
  have:j=k:=by
   rw[List.getElem?_range hl] at hk;cases hk;rfl
  subst this;cases h;exact⟨rfl,hl⟩
theorem za (i:Int) (n:Nat):(rng i n).length=n:=by unfold rng;simp
theorem pX {step:σ->Int->σ} {P:σ->Int->Option Prop} (I:Nat->σ->Prop) (n:Nat) (s0:σ) (h0:I 0 s0) (hs:∀ (k:Nat) s,k < n->I k s->hold (P s k)/\I (k+1) (step s k)):yt step P (rng 0 n) s0/\I n ((rng 0 n).foldl step s0):=by
 have:=Tp (P:=P) I (rng 0 n) 0 s0 h0 λk x s e h=>by
  obtain⟨rfl,hk⟩:=abW e;rw[Nat.zero_add] at h ⊢;rw[Int.zero_add];exact hs k s hk h
 rw[za,Nat.zero_add] at this;exact this
theorem tU [Inhabited α] {xs:List α} {i:Int} (h:In xs.length i):at' xs i∈xs:=by
 obtain⟨x,hx⟩:=wG h;unfold at';rw[hx];unfold Er at hx;obtain⟨j,_,hx⟩:=bind_some hx;exact Kt hx
theorem KD [Inhabited α] {xs:List α} {k:Nat} {x:α} (h:xs[k]?=some x):at' xs (k:Int)=x:=by
 have hl:k < xs.length:=(List.getElem?_eq_some_iff.mp h).1;unfold at' Er ixN;rw[zh (by omega),zh (by omega),bnd,qS,h];rfl
theorem Ge [Inhabited α] (xs:List α) (k:Nat) (h:k < xs.length):at' xs (k:Int)=xs[k]:=KD (qo h)
theorem in_of {n:Nat} {i:Int} (h0:0<=i) (h1:i < n):In n i:=⟨by omega,h1⟩
theorem YF {n k:Nat} (h:k < n):In n (k:Int):=⟨by omega,by omega⟩
theorem rO {n:Nat} {x m:Int} (hm:0 < m) (h:m<=n):In n (x % m):=in_of (Int.emod_nonneg _ (by omega)) (Int.lt_of_lt_of_le (Int.emod_lt_of_pos _ hm) h)
theorem gZ (x:Int) {m:Int} (hm:0 < m):0<=x % m/\x % m < m:=⟨Int.emod_nonneg _ (by omega),Int.emod_lt_of_pos _ hm⟩
theorem zc {j:Int} (h0:0<=j) (h1:j<=1000000):Rg j:=⟨by omega,by omega⟩
theorem ac7 {a b:Int} (h0:0<=a) (h1:a < 18446744073709551616):Mul a b:=.inl ⟨by omega,h1⟩
theorem abX {xs:List α} {lo hi:Option Int} {x:α} (h:x∈cut xs lo hi):x∈xs:=List.mem_of_mem_drop (List.mem_of_mem_take h)
theorem KH (xs:List α) (lo hi:Option Int):(cut xs lo hi).length<=xs.length:=by
 unfold cut;rw[qB,ZU];omega
theorem Gf {xs:List α} {k:Nat} (h:k<=xs.length):cut xs (some (k:Int)) none=xs.drop k:=by
 unfold cut;rw[HT.yJ,HT.Eo,Nat.min_eq_left h,kU (by simp)]
theorem ae3 {xs:List α} {k:Nat} (h:k<=xs.length):cut xs none (some (k:Int))=xs.take k:=by
 unfold cut;rw[HT.yJ,HT.Eo,Nat.min_eq_left h,Nat.sub_zero,List.drop_zero]
theorem d8 (x y:Str):(x++y).length=x.length+y.length:=by
 show(x.cps++y.cps).size=_;rw[K2];rfl
theorem vH (x:Str) (i:Int):(ch x i).length=1:=rfl
theorem slice_le (x:Str) (l u:Option Int):(Txt.slice x l u).length<=x.length:=PyProof.Txt.length_slice_le x l u
theorem VF (x:Str):(chars x).length=x.length:=by unfold chars;rw[zz,qE];rfl
theorem VG (x:Str):(signs x).length=x.length:=by rw[Yy,zz,VF]
end
section
variable {α γ:Type} [Inhabited α] {e:α->Dt} {ρ:Ev} {f:Ev->Option Bx} {k:Ev->Option Out} {cO:γ->Out}
end
section
variable {ρ:Ev} {fa:Ev->Option Bx}
end
section
variable {α γ:Type} {e:α->Dt} {ρ:Ev} {f:Ev->Option Bx} {k:Ev->Option Out} {cO:γ->Out}
end
section
variable {α β γ:Type} {e:α->Dt} {f fa fb:Ev->Option Bx} {k g:Ev->Option Out} {ρ:Ev} {cO:γ->Out}
def Tq [Inhabited γ]:R (aD noG k) ρ cO:=⟨default,some False,λh=>absurd h id⟩
end
section
variable {α:Type} {e:α->Dt} {f fa fb:Ev->Option Bx} {ρ:Ev}
def ae4 (a:RL fa ρ e):R (b2 Vy fa (b1 Xx (cB (.int 1)))) ρ (oE e):=⟨a.v.reverse,a.D,λh=>by
 simp only[b2,b1,a.ok h,bnd,cB,Xx,Vy,a.lk,Jn,oE,List.map_reverse]⟩
end
section
variable {α β γ:Type} {e:α->Dt} {e':β->Dt} {fa fb:Ev->Option Bx} {ρ:Ev}
end
def RP {α β:Type} (f:Ev->Option β) (ρ:Ev) (c:α->β) (v:α) (D:Option Prop):Prop:=hold D->f ρ=some (c v)
theorem R.tp {α β:Type} {f:Ev->Option β} {ρ:Ev} {c:α->β} {v':α} {D':Option Prop} (x:R f ρ c) (hv:x.v=v':=by kernel_rfl) (hD:x.D=D':=by kernel_rfl):RP f ρ c v' D':=λh=>by
 subst hv hD;exact x.ok h
def RP.r {α β:Type} {f:Ev->Option β} {ρ:Ev} {c:α->β} {v:α} {D:Option Prop} (h:RP f ρ c v D):R f ρ c:=⟨v,D,h⟩
theorem len1 {α:Type} {p:List α->Prop} (h:∀ a,p [a]):∀ us:List α,us.length=1->p us
 |[a],_=>h a
theorem len2 {α:Type} {p:List α->Prop} (h:∀ a b,p [a,b]):∀ us:List α,us.length=2->p us
 |[a,b],_=>h a b
theorem ajn {α:Type} {p:List α->Prop} (h:∀ a b c,p [a,b,c]):∀ us:List α,us.length=3->p us
 |[a,b,c],_=>h a b c
theorem ajo {α:Type} {p:List α->Prop} (h:∀ a b c d,p [a,b,c,d]):∀ us:List α,us.length=4->p us
 |[a,b,c,d],_=>h a b c d
theorem ajp {α:Type} {p:List α->Prop} (h:∀ a b c d e,p [a,b,c,d,e]):∀ us:List α,us.length=5->p us
 |[a,b,c,d,e],_=>h a b c d e
end P1
end
section
namespace P1
open PySem PySem.Spec PyProof.Rows L2 S1
section
variable {prog:Program} {w:World} {A:Around} {E:VP_} {s:Shared}
end
section
variable {X:Cx}
end
section
variable {fa:Ev->Option Bx} {ρ:Ev}
end
end P1
end
section
namespace P1
open PySem PySem.Spec PyProof.Rows L2
section
variable {i n:Nat} {is:List Nat} {f:Ev->Option Bx} {fs:Ev->Option (List Bx)} {p:Ev->Option Bool} {gt:Dt->Ev->Option Ev} {g1 g2 gb:Ev->Option Out}
end
section
variable {X:Cx} {st:Stmt} {rest:List Stmt} {g1 g2:Ev->Option Out}
end
section
variable {P:Program} {w:World} {K:FG_} {mg:Str->Option Value} {base:Heap}
end
section
variable {X:Cx} {pins:List (Addr×Obj)} {σ:L2.St} {H:Hp} {s:Shared} {a:Addr} {ks:List V} {o:Obj}
end
def Fr3 (Hb Hc H:Hp) (σ:L2.St) (i:Nat):Prop:=∃ (t p0 p1 p2:Addr) (x0 x1 x2:List V) (o0 o1 o2:Obj),(x0.length < 1000/\x2.length < 1000)/\σ[i]?=some (some (.ref t))/\H t=some (.tup [.ref p0,.ref p1,.ref p2])/\(H p0=some (.yF o0 (.lst x0))/\H p1=some (.yF o1 (.lst x1))/\H p2=some (.yF o2 (.lst x2)))/\(Hc p0=none/\Hc p1=none/\Hc p2=none)/\(p0≠p1/\p0≠p2/\p1≠p2)/\(∀ ob u,Hb p0≠some (.yF ob u))/\(∀ ob u,Hb p1≠some (.yF ob u))/\∀ ob u,Hb p2≠some (.yF ob u)
theorem Fr3.grow {Hb Hc H H':Hp} {σ σ':L2.St} {i:Nat} (h:Fr3 Hb Hc H σ i) (s:Same H H') (hs:σ'[i]?=σ[i]?):Fr3 Hb Hc H' σ' i:=by
 obtain⟨t,p0,p1,p2,x0,x1,x2,o0,o1,o2,l,e,ht,⟨h0,h1,h2⟩,r⟩:=h;exact⟨t,p0,p1,p2,x0,x1,x2,o0,o1,o2,l,by rw[hs];exact e,s _ _ ht,⟨s _ _ h0,s _ _ h1,s _ _ h2⟩,r⟩
section
variable {X:Cx} {i:Nat} {M0 M1 M2 er:Expr} {f0 f2 f:Ev->Option Bx} {d0 d2:Dt} {z0 z1 z2 z3:Pos}
end
theorem bG.sl {K:FG_} {H0 H:Hp} {σ:L2.St} {ρ:Ev} (E:bG K H0 H σ ρ) {i:Nat} (h:∀ c,ρ[i]?≠some (some c)) (v:Option V):bG K H0 H (σ.set i v) ρ:=by
 have ne:∀ {j:Nat} {c:Bx},ρ[j]?=some (some c)->(σ.set i v)[j]?=σ[j]?:=λe=>Kx (λz=>h _ (z▸e));exact⟨by rw[qq];exact E.len,λj b e=>by rw[ne e];exact E.val j b e,λj k c a b e1 e2 e3 e4 e5 e6=>E.own j k c a b e1 e2 (by rw[<-ne e1];exact e3) e4 e5 (by rw[<-ne e4];exact e6),E.base,λj c a e1 e2 e3=>E.new j c a e1 e2 (by rw[<-ne e1];exact e3)⟩
section
variable {X:Cx} {st:List Stmt} {g:Ev->Option Out} {f fr fe:Ev->Option Bx} {p:Ev->Option Bool} {i i':Nat} {W:List Nat} {c e:Expr} {pos z:Pos}
end
section
variable {a b c g g1 g2 gb:Ev->Option Out} {f:Ev->Option Bx} {p:Ev->Option Bool} {i k:Nat} {gt:Dt->Ev->Option Ev}
end
end P1
end
section
namespace P1
open PySem PySem.Spec PyProof.Rows L2 S6
section
variable {X:Cx} {elt kx vx t1 i1 t2 i2:Expr} {f1 f2:List Expr} {scope:Scope} {cl:List (Str×Addr)} {pos:Pos} {xs:LS_} {is:List Nat} {g1 g2:Dt->Ev->Option Ev} {p1 p2:Ev->Option Bool} {fe fk fv:Ev->Option Bx} {fi1 fi2:Ev->Option (List Dt)} {fs:Ev->Option (List Dt)} {N m:Nat} {Ac:Addr->Hp->List Dt->HO->Prop} {el:Addr->Env->Sem Unit}
def cls2 (fi:Ev->Option (List Dt)) (gt:Dt->Ev->Option Ev) (p:Ev->Option Bool) (fs:Ev->Option (List Dt)) (is:List Nat) (n:Nat):Ev->Option (List Dt):=λρ=>(fi ρ).bind λds=>Cg gt p fs (qu is ρ++List.replicate n none) ds
theorem AcL.no {K:FG_} {D:Addr} {H:Hp} {o1:List Dt} {o:HO}:AcL K D H o1 o->(∀ ob u,o≠.yF ob u)/\∀ vs,o≠.tup vs:=λ⟨_,e,_⟩=>by subst e;exact⟨λ_ _ z=>(by cases z),λ_ z=>(by cases z)⟩
theorem AcS.no {D:Addr} {H:Hp} {o1:List Dt} {o:HO}:AcS X D H o1 o->(∀ ob u,o≠.yF ob u)/\∀ vs,o≠.tup vs:=λ⟨_,e,_⟩=>by subst e;exact⟨λ_ _ z=>(by cases z),λ_ z=>(by cases z)⟩
end
end P1
end
section
namespace P1
open PySem PySem.Spec PyProof.Rows L2
section
variable {α β:Type} {ρ:Ev} {e:α->Dt} {e':β->Dt} {p:Ev->Option Bool} {fi fs:Ev->Option (List Dt)} {gt:Dt->Ev->Option Ev} {fe:Ev->Option Bx} {is:List Nat} {n:Nat}
end
section
variable {X:Cx}
end
section
variable {ρ:Ev} {fa fb:Ev->Option Bx}
end
def hx (h:Heap) (a:Addr):HO:=.ext λh'=>h'.get? a=h.get? a
def LD (o:Option HO):Prop:=(∃ xs,o=some (.lst xs))\/∃ ks,o=some (.dK ks)
def Sep (as:List Addr) (σ:L2.St) (ρ:Ev):Prop:=∀ (j:Nat) c a,ρ[j]?=some (some c)->loose c=true->σ[j]?=some (some (.ref a))->a∉as
section
variable {X:Cx} {pins:List (Addr×Obj)} {σ:L2.St} {H H2:Hp} {s:Shared} {as:List Addr}
theorem LD.at {P:Program} {w:World} {H H':Hp} {h h':Heap} {a:Addr} {o:HO} (k:LD (some o)) (e:h'.get? a=h.get? a) (x:fU P w H h a o):fU P w H' h' a o:=by
 rcases k with⟨xs,hk⟩|⟨ks,hk⟩
 ·cases hk;obtain⟨z,its,n,v,g⟩:=x;exact⟨z,its,n,v,e.trans g⟩
 ·cases hk;obtain⟨z,hd,vs,kv,o,es,ep,ho,r⟩:=x;exact⟨z,hd,vs,kv,o,es,ep,e.trans ho,r⟩
theorem LD.obj {P:Program} {w:World} {H:Hp} {h:Heap} {a:Addr} (k:LD (H a)) (x:uT P w H h):∃ o,h.get? a=some o:=by
 rcases k with⟨xs,hk⟩|⟨ks,hk⟩
 ·obtain⟨_,its,n,_,g⟩:=x a _ hk;exact⟨_,g⟩
 ·obtain⟨_,_,vs,_,o,es,ep,ho,_⟩:=x a _ hk;exact⟨o,ho⟩
theorem bG.move {K:FG_} {Hb Hb' H H':Hp} {σ:L2.St} {ρ:Ev} (E:bG K Hb H σ ρ) (S:Sep as σ ρ) (kp:Kp H H') (ho:∀ b,b∉as->H' b=H b) (hb:Same Hb' H') (hn:∀ (j:Nat) c a,ρ[j]?=some (some c)->yg c=true->σ[j]?=some (some (.ref a))->Hb' a=none):bG K Hb' H' σ ρ:=by
 refine⟨E.len,λj b e=>?_,E.own,hb,hn⟩;obtain⟨v,ev,rb⟩:=E.val j b e;refine⟨v,ev,?_⟩;cases b with
 |z d=>exact Rep.kp kp rb
 |l dz=>
  obtain⟨a,vs,rfl,q,rr⟩:=rb;have ha:=ho a (S j _ a e rfl ev);exact⟨a,vs,rfl,q.imp (λq=>ha.trans q) λ⟨o,q⟩=>⟨o,ha.trans q⟩,rr.kp kp⟩
 |o dz=>
  obtain⟨a,vs,rfl,q,rr⟩:=rb;exact⟨a,vs,rfl,(ho a (S j _ a e rfl ev)).trans q,rr.kp kp⟩
 |n dz=>
  obtain⟨a,vs,rfl,q,rr⟩:=rb;have ha:=ho a (S j _ a e rfl ev);exact⟨a,vs,rfl,q.imp (λq=>ha.trans q) λ⟨o,q⟩=>⟨o,ha.trans q⟩,rr.kp kp⟩
 |m dz _=>
  obtain⟨a,vs,rfl,q,rr⟩:=rb;exact⟨a,vs,rfl,(ho a (S j _ a e rfl ev)).trans q,rr.1.kp kp,rr.2⟩
end
section
variable {X:Cx} {pins:List (Addr×Obj)} {σ:L2.St} {H:Hp} {s:Shared}
def ag5 {α:Type} (m:List (Int×List α)) (k:Int) (d:α):List (Int×List α):=if(m.any λq=>decide (q.1=k))=true then m.map λq=>if q.1=k then(q.1,q.2++[d]) else q else m++[(k,[d])]
structure Gp (K:FG_) (H:Hp) (D:Addr) (gs:List (Int×Addr×List Dt)):Prop where
 d:H D=some (.dK (gs.map λg=>(Sum.inl g.1,V.ref g.2.1)))
 l:∀ g∈gs,∃ vs,H g.2.1=some (.lst vs)/\aQ K H g.2.2 vs
 k:(gs.map (·.1)).Nodup
 a:(gs.map (·.2.1)).Nodup
def gpA (D:Addr) (gs:List (Int×Addr×List Dt)):List Addr:=D::gs.map (·.2.1)
theorem Gp.ld {K:FG_} {H:Hp} {D:Addr} {gs:List (Int×Addr×List Dt)} (G:Gp K H D gs):∀ a∈gpA D gs,LD (H a):=λa ha=>by
 rcases List.mem_cons.mp ha with rfl|ha
 ·exact .inr ⟨_,G.d⟩
 ·obtain⟨g,hg,rfl⟩:=List.mem_map.mp ha;obtain⟨vs,e,_⟩:=G.l g hg;exact .inl ⟨vs,e⟩
theorem Gp.kept {K:FG_} {H H':Hp} {D:Addr} {gs:List (Int×Addr×List Dt)} (G:Gp K H D gs) (h:∀ a∈gpA D gs,H' a=H a) (r:∀ ds vs,aQ K H ds vs->aQ K H' ds vs):Gp K H' D gs:=
 ⟨(h D (zo ..)).trans G.d,λg hg=>let ⟨vs,e,q⟩:=G.l g hg;⟨vs,(h _ (zr _ (List.mem_map.mpr ⟨g,hg,rfl⟩))).trans e,r _ _ q⟩,G.k,G.a⟩
theorem Gp.same {K:FG_} {H H':Hp} {D:Addr} {gs:List (Int×Addr×List Dt)} (G:Gp K H D gs) (s:Same H H'):Gp K H' D gs:=
 ⟨s _ _ G.d,λg hg=>let ⟨vs,e,q⟩:=G.l g hg;⟨vs,s _ _ e,q.kp (.of s)⟩,G.k,G.a⟩
theorem Gp.val {gs:List (Int×Addr×List Dt)} {k:Int}:∀ {w:V},yd (gs.map λg=>((Sum.inl g.1:Key),V.ref g.2.1)) (Sum.inl k)=some w->∃ g∈gs,g.1=k/\w=.ref g.2.1:=by
 induction gs with
 |nil=>intro w e;cases e
 |cons g gs ih=>
  intro w e;rw[zw] at e;by_cases hk:g.1=k
  ·rw[uW (by rw[hk])] at e;cases e;exact⟨g,zo ..,hk,rfl⟩
  ·rw[uX (by simpa using hk)] at e;obtain⟨g',h1,h2,h3⟩:=ih e;exact⟨g',zr _ h1,h2,h3⟩
end
section
variable {K:FG_} {H:Hp} {D l:Addr} {gs:List (Int×Addr×List Dt)} {k:Int} {x:Dt} {u:V}
theorem Gp.new (G:Gp K H D gs) (hn:yd (gs.map λg=>((Sum.inl g.1:Key),V.ref g.2.1)) (Sum.inl k)=none) (hl:H l=some (.lst [])) (hla:l∉gpA D gs) :
  Gp K (upd H D (.dK (putK (gs.map λg=>(Sum.inl g.1,V.ref g.2.1)) (Sum.inl k) (.ref l)))) D (gs++[(k,l,[])]):=by
 have kp:Kp H (upd H D (.dK (putK (gs.map λg=>(Sum.inl g.1,V.ref g.2.1)) (Sum.inl k) (.ref l)))):=.dk G.d;have hany:((gs.map λg=>((Sum.inl g.1:Key),V.ref g.2.1)).any λkv=>decide (kv.1=Sum.inl k))=false:=by rw[Eu,hn];rfl
 have hlD:l≠D:=λz=>hla (by rw[z];exact zo ..);have hkn:k∉gs.map (·.1):=λz=>by
  obtain⟨g,hg,e⟩:=List.mem_map.mp z;have:=List.any_eq_false.mp hany _ (List.mem_map.mpr ⟨g,hg,rfl⟩);simp only[JO] at this;exact this (by rw[e])
 refine⟨?_,λg hg=>?_,?_,?_⟩
 ·rw[aV,putK,zC (by rw[hany];exact zk),qf];rfl
 ·rcases List.mem_append.mp hg with hg|hg
  ·obtain⟨vs,e,r⟩:=G.l g hg;exact⟨vs,by rw[aM λz=>by rw[z,G.d] at e;cases e];exact e,r.kp kp⟩
  ·cases List.mem_singleton.mp hg;exact⟨[],by rw[aM hlD];exact hl,aQ.nil⟩
 ·rw[qf,KW];exact⟨G.k,by simp,λa ha b hb=>by cases List.mem_singleton.mp hb;exact λz=>hkn (by rw[z] at ha;exact ha)⟩
 ·rw[qf,KW];exact⟨G.a,by simp,λa ha b hb=>by cases List.mem_singleton.mp hb;exact λz=>hla (zr _ (by rw[z] at ha;exact ha))⟩
end
section
variable {X:Cx} {iter e1 e2 c ev:Expr} {fi:Ev->Option (List Dt)} {f1 f2 fv:Ev->Option Bx} {p:Ev->Option Bool} {x y w:Str} {pw py py2 py3 px p1 p2 p3 p4 pl a1 a2 c1 c2 pos:Pos}
theorem tW {ρ:Ev} {i q:Nat} {b:Bx} (h:(ρ.set i none)[q]?=some (some b)):q≠i/\ρ[q]?=some (some b):=by
 rcases getset h with⟨_,z,_⟩|⟨h1,h2⟩
 ·cases z
 ·exact⟨h1,h2⟩
end
end P1
end
section
namespace P1
open PySem PySem.Spec PyProof.Rows L2 S6
section
variable {X:Cx} {kx vx t1 i1 t2 i2:Expr} {f1 f2:List Expr} {scope:Scope} {cl:List (Str×Addr)} {pos:Pos} {xs:LS_} {is:List Nat} {g1 g2:Dt->Ev->Option Ev} {p1 p2:Ev->Option Bool} {fk fv:Ev->Option Bx} {fi1 fi2:Ev->Option (List Dt)} {m:Nat}
theorem AcD.no {K:FG_} {D:Addr} {H:Hp} {o1:List Dt} {o:HO}:AcD K D H o1 o->(∀ ob u,o≠.yF ob u)/\∀ vs,o≠.tup vs:=λ⟨_,e,_⟩=>by subst e;exact⟨λ_ _ z=>(by cases z),λ_ z=>(by cases z)⟩
end
end P1
end
section
namespace P1
open PySem PySem.Spec PyProof.Rows L2
section
variable {α β γ:Type} {ρ:Ev} {e:α->Dt} {e0:β->Dt} {fa fb fd f1 f2 fv:Ev->Option Bx} {p:Ev->Option Bool} {fi:Ev->Option (List Dt)} {kk:Ev->Option Out} {cO:γ->Out}
end
section
variable {X:Cx}
end
section
variable {α β:Type} {e:α->Dt} {ρ:Ev} {fa:Ev->Option Bx} {p:Ev->Option Bool} {fi fs:Ev->Option (List Dt)} {gt:Dt->Ev->Option Ev} {is:List Nat} {n:Nat}
end
section
variable {X:Cx} {a:Expr} {fa:Ev->Option Bx} {pos:Pos}
end
theorem cF {α:Type} {g:Ev->Option Out} {n:Nat} {bs:List Bx} {c:α->Bx} {v:α} {D:Option Prop} (x:RP g (bs.map some++List.replicate (n - bs.length) none) (λr=>Out.rt (c r)) v D) (h:hold D):dW n g bs=some (c v):=aeV x.r h
section
variable {α:Type} {e:α->Dt} {ρ:Ev} {fa:Ev->Option Bx}
end
open PySem.Builtin PySem.Builtin.Str
section
variable {X:Cx}
theorem YG:MtR X "str.split" (λx xs H Q=>∃ y z,x=.str y/\xs=[.str z]/\(z.length==0)=false/\y.length<=100000/\∀ l H',Same H H'->H l=none->H' l=some (.lst ((Txt.split y z).map V.str))->Q (.ref l) H'):=by
 intro pins s σ H x xs v us Q I rx rs h;obtain⟨y,z,rfl,rfl,hz,hy,q⟩:=h;obtain⟨t,rfl⟩:=rx;obtain⟨u,rfl,ru⟩:=vals1 rs;obtain⟨t2,rfl⟩:=ru;have sl:(100002:Nat)<=sizeLine:=by decide
 have hl:=split_le y z;have fin:∀ (l:List (Str×Tok)) (tk:Nat),l.map (·.1)=Txt.split y z->EP X pins σ Q (.ref s.heap.objs.size) { s with toks:=tk,heap:=s.heap.push { cls:=.type "list", data:=.seq (strValues l).toArray } }:=λl tk e=>by
  have I2:Inv X pins σ (upd H s.heap.objs.size (.lst ((Txt.split y z).map V.str))) { s with toks:=tk,heap:=s.heap.push { cls:=.type "list", data:=.seq (strValues l).toArray } }:=
   I.laid (t':=tk) (λb o e=>zd _ e) (zi _) (show fU X.prog X.w _ _ _ (.lst _) from⟨by rw[zz];omega,strValues l,0,wC (by rw[<-e];exact strsAre_of_values l),zl _ rfl⟩)
  have hfr:=I.hok.fresh (zi _);exact⟨.ref s.heap.objs.size,_,I2,rfl,q _ _ (bI hfr) hfr aV⟩
 cases h1:(decide (y.length < z.length)||decide (strKind y < strKind z))
 ·cases hf:(occurrences y z 0 y.length (y.length+1)).isEmpty
  ·have e:Txt.split y z=partsBetween y (occurrences y z 0 y.length (y.length+1)) z.length:=(zC (ne_true_of_eq_false h1)).trans (zC (ne_true_of_eq_false hf));refine call_meets ye (typeIs_str _ _ _) F.entry_str_split (F.args_str_split_2 _ _) (meets_str_split_sep y z t t2 h1 hz hf (by omega) (by rw[<-e];omega)) ?_;show EP X pins σ Q _ { s with toks:=_,heap:=s.heap.push { cls:=.type "list", data:=.seq (strsFrom s.toks (partsBetween y (occurrences y z 0 y.length (y.length+1)) z.length)).toArray } };rw[strsFrom_eq];exact fin _ _ ((numbered_texts _ _).trans e.symm)
  ·exact call_meets ye (typeIs_str _ _ _) F.entry_str_split (F.args_str_split_2 _ _) (meets_str_split_not_found y z t t2 h1 hz hf) (fin [(y,t)] s.toks ((zC (ne_true_of_eq_false h1)).trans (zh hf)).symm)
 ·exact call_meets ye (typeIs_str _ _ _) F.entry_str_split (F.args_str_split_2 _ _) (meets_str_split_cannot_occur y z t t2 h1) (fin [(y,t)] s.toks (zh h1).symm)
def Od:Bx->Bx->Option Bx
 |.z (.str y),.z (.str z)=>if(z.length==0)=false/\y.length<=100000 then some (.o ((Txt.split y z).map Dt.str)) else none
 |_,_=>none
variable {o e:Expr} {fo fx:Ev->Option Bx}
theorem zf {apos cpos:Pos} (ho:QV X o fo) (hx:QV X e fx) (hbase:attributeBase o "split" X.env (eval o X.env)=eval o X.env:=by rfl)
  (hfew:((backTo cpos (starEach [e] X.env)).all (λx=>!x.1)&&(backToKw cpos (keywordEach [] X.env)).all (λx=>x.1.isSome)&&decide ([e].length+([]:List Keyword).length+(if([]:List Keyword).isEmpty then 0 else 1) < 30))=true:=by rfl)
  (hline:(apos.endLine==cpos.line)=true:=by rfl) (hs:starEach [e] X.env=(false,eval e X.env)::starEach [] X.env:=by rfl):QV X (.Call (.Attribute o "split" apos) [e] [] cpos) (b2 Od fo fx):=
 ⟨z9 (Et (T := "str") Kb ye F.type_str_split YG ho.run (pQ hx.run wz hs) hbase hfew hline hs rfl) λσ H Q q=>by
  obtain⟨H0,ρ,c,E,e,q⟩:=q;obtain⟨a,ea,e⟩:=bind_some e;obtain⟨b,eb,e⟩:=bind_some e;unfold Od at e;split at e
  ·rename_i y z _;split at e
   ·rename_i hb;cases e;refine⟨H0,ρ,_,E,ea,λv H1 s1 n1 r1=>?_⟩;obtain⟨rfl,hy⟩:=HF r1;refine⟨rfl,H0,ρ,[_],E.grow s1,by simp only[ao,eb,QN];rfl,λvs H2 s2 r2=>?_⟩;obtain⟨w,rfl,rw1⟩:=rep1 r2;obtain⟨rfl,hz⟩:=HF rw1;refine⟨y,z,rfl,rfl,hb.1,hb.2,λl H3 s3 n3 e3=>q _ _ ((s1.trans s2).trans s3) (λa ea=>by cases ea;exact(s1.trans s2).free n3) ⟨l,_,rfl,e3,vA λp hp=>zI (part_short hp) hy⟩⟩
   ·cases e
  ·cases e⟩
theorem abY:MtR X "str.partition" (λx xs H Q=>∃ y z,x=.str y/\xs=[.str z]/\(z.length==0)=false/\y.length<=sizeLine/\∀ l H',Same H H'->H' l=some (.tup [.str (Txt.partition y z).1,.str (Txt.partition y z).2.1,.str (Txt.partition y z).2.2])->Q (.ref l) H'):=by
 intro pins s σ H x xs v us Q I rx rs h;obtain⟨y,z,rfl,rfl,hz,hy,q⟩:=h;obtain⟨t,rfl⟩:=rx;obtain⟨u,rfl,ru⟩:=vals1 rs;obtain⟨t2,rfl⟩:=ru;have fin:∀ (a b c:Tok) (tk:Nat),EP X pins σ Q (.ref s.heap.objs.size) { s with toks:=tk,heap:=s.heap.push { cls:=.type "tuple", data:=.seq [.str (Txt.partition y z).1 a,.str (Txt.partition y z).2.1 b,.str (Txt.partition y z).2.2 c].toArray } }:=λa b c tk=>by
  have I2:Inv X pins σ (upd H s.heap.objs.size (.tup [.str (Txt.partition y z).1,.str (Txt.partition y z).2.1,.str (Txt.partition y z).2.2])) { s with toks:=tk,heap:=s.heap.push { cls:=.type "tuple", data:=.seq [.str (Txt.partition y z).1 a,.str (Txt.partition y z).2.1 b,.str (Txt.partition y z).2.2 c].toArray } }:=
   I.laid (t':=tk) (λb o e=>zd _ e) (zi _) (show fU X.prog X.w _ _ _ (.tup _) from⟨by show(3:Nat)<=sizeLine;decide,_,.cons ⟨_,rfl⟩ (.cons ⟨_,rfl⟩ (.cons ⟨_,rfl⟩ .nil)),sY.new _ _⟩)
  have hfr:=I.hok.fresh (zi _);exact⟨.ref s.heap.objs.size,_,I2,rfl,q _ _ (bI hfr) aV⟩
 refine call_meets F.slot_str_partition (typeIs_str _ _ _) F.entry_str_partition (F.args_str_partition_2 _ _) (meets_str_partition y z t t2 hz hy) ?_;show EP X pins σ Q _ _;unfold Txt.partition at fin;cases ho:occurrences y z 0 y.length 1 with
 |nil=>rw[ho] at fin;exact fin _ _ _ _
 |cons i r=>rw[ho] at fin;exact fin _ _ _ _
def YH:Bx->Bx->Option Bx
 |.z (.str y),.z (.str z)=>if(z.length==0)=false then some (.z (.tup [.str (Txt.partition y z).1,.str (Txt.partition y z).2.1,.str (Txt.partition y z).2.2])) else none
 |_,_=>none
theorem abZ {apos cpos:Pos} (ho:QV X o fo) (hx:QV X e fx) (hbase:attributeBase o "partition" X.env (eval o X.env)=eval o X.env:=by rfl)
  (hfew:((backTo cpos (starEach [e] X.env)).all (λx=>!x.1)&&(backToKw cpos (keywordEach [] X.env)).all (λx=>x.1.isSome)&&decide ([e].length+([]:List Keyword).length+(if([]:List Keyword).isEmpty then 0 else 1) < 30))=true:=by rfl)
  (hline:(apos.endLine==cpos.line)=true:=by rfl) (hs:starEach [e] X.env=(false,eval e X.env)::starEach [] X.env:=by rfl):QV X (.Call (.Attribute o "partition" apos) [e] [] cpos) (b2 YH fo fx):=
 ⟨z9 (Et (T := "str") Kb F.slot_str_partition F.type_str_partition abY ho.run (pQ hx.run wz hs) hbase hfew hline hs rfl) λσ H Q q=>by
  obtain⟨H0,ρ,c,E,e,q⟩:=q;obtain⟨a,ea,e⟩:=bind_some e;obtain⟨b,eb,e⟩:=bind_some e;unfold YH at e;split at e
  ·rename_i y z _;split at e
   ·rename_i hb;cases e;refine⟨H0,ρ,_,E,ea,λv H1 s1 n1 r1=>?_⟩;obtain⟨rfl,hy⟩:=HF r1;refine⟨rfl,H0,ρ,[_],E.grow s1,by simp only[ao,eb,QN];rfl,λvs H2 s2 r2=>?_⟩;obtain⟨w,rfl,rw1⟩:=rep1 r2;obtain⟨rfl,hz⟩:=HF rw1;obtain⟨f1,f2,f3⟩:=fact_partition y z;refine⟨y,z,rfl,rfl,hb,hy,λl H3 s3 e3=>q _ _ ((s1.trans s2).trans s3) trivial ?_⟩;unfold bA Rep;exact⟨l,_,rfl,.inl (.inl e3),vA (ys:=[_,_,_]) λp hp=>by
     rcases List.mem_cons.mp hp with rfl|hp
     ·omega
     ·rcases List.mem_cons.mp hp with rfl|hp
      ·omega
      ·rw[List.mem_singleton.mp hp];omega⟩
   ·cases e
  ·cases e⟩
def txB:Bx->Option Str
 |.z (.str x)=>some x
 |_=>none
theorem YJ {b:Bx} {x:Str} (h:txB b=some x):b=.z (.str x):=by
 unfold txB at h;split at h
 ·cases h;rfl
 ·cases h
def ag7:Ev->Option Str:=λ_=>some Str.empty
def Oe (f:Ev->Option Bx) (g:Ev->Option Str):Ev->Option Str:=λρ=>(f ρ).bind λb=>(txB b).bind λx=>(g ρ).bind λt=>some (x++t)
def YK (g:Ev->Option Str):Ev->Option Bx:=λρ=>(g ρ).bind λt=>if t.length<=100000 then some (.z (.str t)) else none
structure QJ (X:Cx) (es:List Expr) (f:Ev->Option Str):Prop where
 run:∀ (acc:Str) (pins:List (Addr×Obj)) (s:Shared) (σ:L2.St) (H:Hp) (Q:VK),Inv X pins σ H s->(∃ H0 ρ t,bG X.K H0 H σ ρ/\f ρ=some t/\(acc++t).length<=sizeLine/\∀ H',Same H H'->Q (.str (acc++t)) H') →
  wpAny (model X.prog X.w) X.A (joinParts acc (evalEach es X.env)) (EP X pins σ Q) X.xe s
theorem ae5:QJ X [] ag7:=⟨λacc pins s σ H Q I h=>by
 obtain⟨H0,ρ,t,E,e,hl,q⟩:=h;cases e;rw[Str.append_empty] at hl q;exact joinParts_nil ⟨.str acc,H,I.tok _,⟨_,rfl⟩,q H (Same.refl H)⟩ hl⟩
theorem KJ {es:List Expr} {g:Ev->Option Str} (h1:QV X e fx) (h2:QJ X es g):QJ X (e::es) (Oe fx g):=⟨λacc pins s σ H Q I h=>by
 obtain⟨H0,ρ,t,E,e,hl,q⟩:=h;obtain⟨b,eb,e⟩:=bind_some e;obtain⟨x,ex,e⟩:=bind_some e;obtain⟨t',et,e⟩:=bind_some e;cases e;have hb:=YJ ex;subst hb;rw[<-Str.append_assoc] at hl q;have hl2:(acc++x).length<=sizeLine:=by rw[strLen_append] at hl;omega
 refine joinParts_cons (ZN (h1.run pins s σ H (λv H'=>Same H H'/\v=.str x) I ⟨H0,ρ,_,E,eb,λv H' s' n' r'=>⟨s',(HF r').1⟩⟩) (λv s1 hq=>?_) λ_ _ z=>z);obtain⟨w,H1,I1,r1,s1',rfl⟩:=hq;obtain⟨tk,rfl⟩:=r1;exact⟨hl2,h2.run (acc++x) pins s1 σ H1 Q I1 ⟨H0,ρ,t',E.grow s1',et,hl,λH2 s2=>q H2 (s1'.trans s2)⟩⟩⟩
theorem ab0 {es:List Expr} {e1 e2:Expr} {g:Ev->Option Str} {pos:Pos} (h:QJ X (e1::e2::es) g):QV X (.JoinedStr (e1::e2::es) pos) (YK g):=⟨λpins s σ H Q I q=>by
 obtain⟨H0,ρ,b,E,e,q⟩:=q;obtain⟨t,et,e⟩:=bind_some e;split at e
 ·rename_i hl;cases e;have sl:(100000:Nat)<=sizeLine:=by decide
  refine JoinedStr_many (h.run Str.empty pins s σ H Q I ⟨H0,ρ,t,E,et,by rw[Str.empty_append];omega,λH' s'=>by rw[Str.empty_append];exact q _ H' s' trivial (by unfold bA Rep;exact⟨rfl,by omega⟩)⟩)
 ·cases e⟩
end
section
variable {ρ:Ev} {fa fb:Ev->Option Bx} {g:Ev->Option Str}
def DW (a:R fa ρ (zE eS)) (b:R fb ρ (zE eS)):R (b2 Od fa fb) ρ (oE eS):=⟨Txt.split a.v b.v,bK (bK a.D b.D) (some ((b.v.length==0)=false/\a.v.length<=100000)),λh=>by
 obtain⟨h,h3⟩:=aC h;obtain⟨h1,h2⟩:=aC h;simp only[b2,a.ok h1,b.ok h2,bnd,Od,zE,eS];exact zh h3⟩
def ae6 (a:R fa ρ (zE eS)) (b:R fb ρ (zE eS)):R (b2 YH fa fb) ρ (zE (eP3 eS eS eS)):=⟨Txt.partition a.v b.v,bK (bK a.D b.D) (some ((b.v.length==0)=false)),λh=>by
 obtain⟨h,h3⟩:=aC h;obtain⟨h1,h2⟩:=aC h;simp only[b2,a.ok h1,b.ok h2,bnd,YH,zE,eS];exact zh h3⟩
end
section
variable {X:Cx}
def hoT (X:Cx) (a:Addr) (zs:LS_):HO:=.ext λh=>∃ n,n<=zs.length/\h.SetOf (strKind X.prog X.w) a (λz=>decide (z∈zs)) n
theorem YL {H:Hp} {h:Heap} {a:Addr} {zs:LS_} {n:Nat} (hn:n<=zs.length) (x:h.SetOf (strKind X.prog X.w) a (λz=>decide (z∈zs)) n):fU X.prog X.w H h a (hoT X a zs):=
 ⟨⟨n,hn,x⟩,(let ⟨o,_,_,_,ho,_⟩:=x;⟨o,ho⟩),λh1 h2 ⟨n,hn,o,es,ep,t,ho,r⟩ k=>⟨n,hn,o,es,ep,t,k o ho,r⟩⟩
theorem Tr:gF X (.type "set") (λxs H Q=>xs=[]/\∀ a H',Same H H'->H a=none->H' a=some (hoT X a [])->Q (.ref a) H'):=by
 intro pins s σ H xs us Q I r h;obtain⟨rfl,q⟩:=h;have hu:=r.zero;subst hu;refine call_set_0 λled=>?_;have hfr:=I.hok.fresh (zi _);refine⟨.ref s.heap.objs.size,_,I.laid (t':=s.toks) (a:=s.heap.objs.size) (o:=hoT X s.heap.objs.size []) (λb o e=>zd _ e) (zi _) ?_,rfl,q _ _ (bI hfr) hfr aV⟩;exact YL (n:=0) (zi _) ((setObjOf_fresh led).setOf (zl _ rfl) (by decide))
theorem ae7:uP X (compareOp .In) (λx y H Q=>∃ t a zs,x=.str t/\y=.ref a/\H a=some (hoT X a zs)/\Q (.bl (decide (t∈zs))) H):=by
 intro pins s σ H x y v u Q I rx ry h;obtain⟨t,a,zs,rfl,rfl,ha,q⟩:=h;obtain⟨tk,rfl⟩:=rx;cases ry;obtain⟨n,_,hS⟩:=(I.hok _ _ ha).1;exact wpAny_inSet_of (strKind_is X.prog X.w t tk) rfl hS ⟨.bl _,H,I.tok _,rfl,q⟩
def ag8 (X:Cx) (to:TE) (t:TA):TE:=λσ H Q=>to σ H λx H1=>∃ a,x=.ref a/\(∃ zs,H1 a=some (hoT X a zs))/\t σ H1 λxs H2=>∃ y zs,xs=[.str y]/\H2 a=some (hoT X a zs)/\zs.length < 4000/\Q .non (upd H2 a (hoT X a (zs++[y])))
theorem ab1 {o e:Expr} {to:TE} {t:TA} {apos cpos:Pos} (ho:PE X o to) (ha:PA X [e] t)
  (hbase:attributeBase o "add" X.env (eval o X.env)=eval o X.env:=by rfl)
  (hfew:((backTo cpos (starEach [e] X.env)).all (λx=>!x.1)&&(backToKw cpos (keywordEach [] X.env)).all (λx=>x.1.isSome)&&decide ([e].length+([]:List Keyword).length+(if([]:List Keyword).isEmpty then 0 else 1) < 30))=true:=by rfl)
  (hline:(apos.endLine==cpos.line)=true:=by rfl) (hs:starEach [e] X.env=(false,eval e X.env)::starEach [] X.env:=by rfl) (hplain:(backTo cpos (starEach [] X.env)).any (·.1)=false:=by rfl) :
  PE X (.Call (.Attribute o "add" apos) [e] [] cpos) (ag8 X to t):=by
 intro pins s σ H Q I h;refine wpAny_Call_method_late hbase hfew hline rfl (gU (ho pins s σ H _ I h) λv s1 ⟨x,H1,I1,r1,a,ea,⟨zs,hz⟩,q1⟩=>?_);subst ea;cases r1;obtain⟨n,_,hS⟩:=(I1.hok _ _ hz).1;refine⟨"set", "set.add", F.plainAttrs_set,F.slot_set_add,F.type_set_add,hS.typeIs,hS.noDict,?_⟩;have hA:=ha cpos pins s1 σ H1 _ I1 q1;rw[hs] at hA ⊢;refine Calls.callWith_builtin (by show(false||(backTo cpos (starEach [] X.env)).any (·.1))=false;rw[hplain]<;>rfl) (Calls.evalArgs_plain ?_);refine gU hA λus s2 ⟨vs,H2,I2,r2,y,zs2,ev,h2,hl,q2⟩=>?_;subst ev;obtain⟨u,rfl,tk,rfl⟩:=vals1 r2;obtain⟨n2,hn2,hS2⟩:=(I2.hok _ _ h2).1;have sb:(4001:Nat) < scanBound:=by decide
 refine call_set_add (k:=y) (strKind_is X.prog X.w y tk) rfl hS2 (by omega) λh' hsb hS'=>?_;have e:(λk'=>decide (k'∈zs2)||decide (k'=y))=λz=>decide (z∈zs2++[y]):=by
  funext z;simp
 rw[e] at hS';obtain⟨o',_,_,_,ho',_⟩:=id hS';exact⟨.non,_,I2.write (t':=s2.toks+1) (x:=a) (e:=a) (o:=hoT X a (zs2++[y])) (by rw[h2];trivial) (.inl rfl) (λb u hb e=>by rw[hsb.2 b hb];exact e) ⟨o',ho'⟩ (YL (by rw[zt,ZY];split<;>omega) hS'),rfl,q2⟩
end
def Bv (k1 k2 j:Nat) (f1:Ev->Option Bx) (p:Ev->Option Bool) (fe:Ev->Option Bx) (ρ0:Ev):List Dt->LS_->List Dt->Option (List Dt)
 |[],_,out=>some out
 |d::ds,seen,out=>match d with
  |.tup [a,b]=>(f1 ((ρ0.set k1 (some (.z a))).set k2 (some (.z b)))).bind λr=>match r with
   |.z dr=>(p (((ρ0.set k1 (some (.z a))).set k2 (some (.z b))).set j (some (.z dr)))).bind λc=>(fe (((ρ0.set k1 (some (.z a))).set k2 (some (.z b))).set j (some (.z dr)))).bind λv=>(txB v).bind λx=>
    if c=false/\x∉seen/\seen.length < 4000/\out.length < 4000 then Bv k1 k2 j f1 p fe ρ0 ds (seen++[x]) (out++[dr]) else none
   |_=>none
  |_=>none
def Og (i r j k1 k2:Nat) (fi:Ev->Option (List Dt)) (f1:Ev->Option Bx) (p:Ev->Option Bool) (fe:Ev->Option Bx):Ev->Option Out:=λρ=>match ρ[r]? with
 |some (some (.o []))=>if i < ρ.length/\j < ρ.length then(fi (((((ρ.set i none).set r none).set j none).set k1 none).set k2 none)).bind λds=>(Bv k1 k2 j f1 p fe (((((ρ.set i none).set r none).set j none).set k1 none).set k2 none) ds [] []).bind λout=>
   some (.nx ((((((ρ.set i none).set r none).set j none).set k1 none).set k2 none).set r (some (.o out)))) else none
 |_=>none
def rZ (k1 k2 j:Nat) (f1:Ev->Option Bx) (p:Ev->Option Bool) (fe:Ev->Option Bx) (fx:Ev->Option Dt) (ρ0:Ev):List Dt->LS_->List Dt->Option (Sum (List Dt) Dt)
 |[],_,out=>some (.inl out)
 |d::ds,seen,out=>match d with
  |.tup [a,b]=>(f1 ((ρ0.set k1 (some (.z a))).set k2 (some (.z b)))).bind λr=>match r with
   |.z dr=>(p (((ρ0.set k1 (some (.z a))).set k2 (some (.z b))).set j (some (.z dr)))).bind λc=>
    if c=true then(fx (((ρ0.set k1 (some (.z a))).set k2 (some (.z b))).set j (some (.z dr)))).bind λq=>some (.inr q)
    else(fe (((ρ0.set k1 (some (.z a))).set k2 (some (.z b))).set j (some (.z dr)))).bind λv=>(txB v).bind λx=>
     if x∈seen then(fx (((ρ0.set k1 (some (.z a))).set k2 (some (.z b))).set j (some (.z dr)))).bind λq=>some (.inr q)
     else if seen.length < 4000/\out.length < 4000 then rZ k1 k2 j f1 p fe fx ρ0 ds (seen++[x]) (out++[dr]) else none
   |_=>none
  |_=>none
def Ju (i r j k1 k2:Nat) (fi:Ev->Option (List Dt)) (f1:Ev->Option Bx) (p:Ev->Option Bool) (fe:Ev->Option Bx) (fx:Ev->Option Dt):Ev->Option (Sum Ev Dt):=λρ=>match ρ[r]? with
 |some (some (.o []))=>if i < ρ.length/\j < ρ.length then(fi (((((ρ.set i none).set r none).set j none).set k1 none).set k2 none)).bind λds=>(rZ k1 k2 j f1 p fe fx (((((ρ.set i none).set r none).set j none).set k1 none).set k2 none) ds [] []).bind λq=>match q with
   |.inl out=>some (.inl ((((((ρ.set i none).set r none).set j none).set k1 none).set k2 none).set r (some (.o out))))
   |.inr d=>some (.inr d) else none
 |_=>none
theorem YM {k1 k2 j:Nat} {f1:Ev->Option Bx} {p:Ev->Option Bool} {fe:Ev->Option Bx} {fx:Ev->Option Dt} {ρ0:Ev}:∀ {ds:List Dt} {seen:LS_} {out res:List Dt},Bv k1 k2 j f1 p fe ρ0 ds seen out=some res->rZ k1 k2 j f1 p fe fx ρ0 ds seen out=some (.inl res)
 |[],seen,out,res,h=>by simp only[Bv] at h;cases h;rfl
 |d::ds,seen,out,res,h=>by
  simp only[Bv] at h;split at h;rotate_left
  ·cases h
  obtain⟨b1,eb1,h⟩:=bind_some h;split at h;rotate_left
  ·cases h
  obtain⟨t,et,h⟩:=bind_some h;obtain⟨b2,eb2,h⟩:=bind_some h;obtain⟨z,ez,h⟩:=bind_some h;split at h;rotate_left
  ·cases h
  rename_i hok;have hz:=h;obtain⟨rfl,hnew,hs4,ho4⟩:=hok;simp only[rZ];rw[eb1];simp only[bnd];rw[et];simp only[bnd];rw[zC zk,eb2];simp only[bnd];rw[ez];simp only[bnd];rw[zC hnew,zh ⟨hs4,ho4⟩];exact YM hz
structure SnS (X:Cx) (i r j k1 k2:Nat) (x xr xj y1 y2:Str) (iter e1 e3:Expr) (p0 Ws Wt Rj q1 q2 pj pa px VH a1 c1 pe1 pr a2 Tt c2 pe2:Pos):Prop where
 nd:[i,r,j,k1,k2].Nodup:=by decide
 xi:X.N[i]?=some x:=by rfl
 xR:X.N[r]?=some xr:=by rfl
 xJ:X.N[j]?=some xj:=by rfl
 x1:X.N[k1]?=some y1:=by rfl
 x2:X.N[k2]?=some y2:=by rfl
 vi:WD X.env.scope x:=by first|exact JA rfl|exact QO (JA rfl)|exact QO (QO rfl)
 vr:WD X.env.scope xr:=by first|exact JA rfl|exact QO (JA rfl)|exact QO (QO rfl)
 vj:WD X.env.scope xj:=by first|exact JA rfl|exact QO (JA rfl)|exact QO (QO rfl)
 li:Loc X.env.scope x:=by first|exact JA rfl|exact QO rfl
 lj:Loc X.env.scope xj:=by first|exact JA rfl|exact QO rfl
 l1:Loc X.env.scope y1:=by first|exact JA rfl|exact QO rfl
 l2:Loc X.env.scope y2:=by first|exact JA rfl|exact QO rfl
 gi:X.fn x=true\/X.env.scope.names.lookup x=some .local:=by first|exact .inl rfl|exact .inr rfl
 gj:X.fn xj=true\/X.env.scope.names.lookup xj=some .local:=by first|exact .inl rfl|exact .inr rfl
 g1:X.fn y1=true\/X.env.scope.names.lookup y1=some .local:=by first|exact .inl rfl|exact .inr rfl
 g2:X.fn y2=true\/X.env.scope.names.lookup y2=some .local:=by first|exact .inl rfl|exact .inr rfl
 di:(x==("__debug__" : Str))=false:=by decide
 ci:(x==("__classdict__" : Str))=false:=by decide
 dr:(xr==("__debug__" : Str))=false:=by decide
 cr:(xr==("__classdict__" : Str))=false:=by decide
 dj:(xj==("__debug__" : Str))=false:=by decide
 cj:(xj==("__classdict__" : Str))=false:=by decide
 hs:∀ z,foldedSetIterable iter X.env z=pure z:=by intro _;rfl
 ht:(assignEach [.Name y1 q1,.Name y2 q2] X.env).map (·.2)=assign (.Name y1 q1) X.env::(assignEach [.Name y2 q2] X.env).map (·.2):=by rfl
 ht2:(assignEach [.Name y2 q2] X.env).map (·.2)=assign (.Name y2 q2) X.env::(assignEach [] X.env).map (·.2):=by rfl
 hn:(assignEach [.Name y1 q1,.Name y2 q2] X.env).length=2:=by rfl
 hst:(assignEach [.Name y1 q1,.Name y2 q2] X.env).findIdx? (·.1)=none:=by rfl
 s0:swapsWith (.Call (.Name "set" Ws) [] [] Wt) (some (.Name x p0)) Rj.line X.env=pure false:=by rfl
 s1:swapsWith e1 (some (.Name xj pj)) pa.line X.env=pure false:=by rfl
 hmk:behindInMarks .In (.Name x px)=false:=by with_unfolding_all rfl
 st1:starEach [e3] X.env=[(false,eval e3 X.env)]:=by rfl
 st2:starEach [.Name xj Tt] X.env=[(false,eval (.Name xj Tt) X.env)]:=by rfl
 hb1:attributeBase (.Name x VH) "add" X.env (eval (.Name x VH) X.env)=eval (.Name x VH) X.env:=by rfl
 hb2:attributeBase (.Name xr pr) "append" X.env (eval (.Name xr pr) X.env)=eval (.Name xr pr) X.env:=by rfl
 hw1:((backTo c1 (starEach [e3] X.env)).all (λx=>!x.1)&&(backToKw c1 (keywordEach [] X.env)).all (λx=>x.1.isSome)&&decide ([e3].length+([]:List Keyword).length+(if([]:List Keyword).isEmpty then 0 else 1) < 30))=true:=by rfl
 hw2:((backTo c2 (starEach [.Name xj Tt] X.env)).all (λx=>!x.1)&&(backToKw c2 (keywordEach [] X.env)).all (λx=>x.1.isSome)&&decide ([Expr.Name xj Tt].length+([]:List Keyword).length+(if([]:List Keyword).isEmpty then 0 else 1) < 30))=true:=by rfl
 hl1:(a1.endLine==c1.line)=true:=by rfl
 hl2:(a2.endLine==c2.line)=true:=by rfl
 s3:swapsWith (.Call (.Attribute (.Name x VH) "add" a1) [e3] [] c1) none pe1.line X.env=pure false:=by rfl
 s4:swapsWith (.Call (.Attribute (.Name xr pr) "append" a2) [.Name xj Tt] [] c2) none pe2.line X.env=pure false:=by rfl
section
variable {X:Cx} {iter e1 e2 e3 c:Expr} {fi:Ev->Option (List Dt)} {f1 fe:Ev->Option Bx} {p:Ev->Option Bool} {gr:Ev->Option Out} {fx:Ev->Option Dt} {tR tQ:TS} {x xr xj y1 y2:Str} {rest no:List Stmt} {kk:Nat} {p0 Ws Wt Rj q1 q2 pt pj pa px pb pif pf2 VH a1 c1 pe1 pr a2 Tt c2 pe2 pos:Pos}
theorem nd5 {i r j k1 k2:Nat} (h:[i,r,j,k1,k2].Nodup):i≠r/\i≠j/\i≠k1/\i≠k2/\r≠j/\r≠k1/\r≠k2/\j≠k1/\j≠k2/\k1≠k2:=by
 simp at h;omega
theorem Oh (i r j k1 k2:Nat) (hp:PassesOwn (model X.prog X.w) X.A X.env X.xe) (hc:X.calm=true) (hN:X.N.Nodup) (hg:Gl X "set") (hm:X.mg "set" = none) (hi:QIF X (.Tuple [.Name y1 q1,.Name y2 q2] kk pt) iter fi) (h1:QV X e1 f1) (hcn:QB X c p) (h2:QV X e2 fe) (h3:QV X e3 fe) (hR:zU X no tR) (hr:zU X rest tQ)
  (S:SnS X i r j k1 k2 x xr xj y1 y2 iter e1 e3 p0 Ws Wt Rj q1 q2 pj pa px VH a1 c1 pe1 pr a2 Tt c2 pe2:=by exact {}) :
  zU X (.Assign [.Name x p0] (.Call (.Name "set" Ws) [] [] Wt) Rj::.For (.Tuple [.Name y1 q1,.Name y2 q2] kk pt) iter [.Assign [.Name xj pj] e1 pa,.If (.BoolOp .Or [c,.Compare e2 [.In] [.Name x px] pb] pif) no [] pf2,.Expr (.Call (.Attribute (.Name x VH) "add" a1) [e3] [] c1) pe1,.Expr (.Call (.Attribute (.Name xr pr) "append" a2) [.Name xj Tt] [] c2) pe2] [] pos::rest) λDe σ H=>
   ∃ H0 ρ res,bG X.K H0 H σ ρ/\Ju i r j k1 k2 fi f1 p fe fx ρ=some res/\(∀ ρ',res=.inl ρ'->∀ σ' H',bG X.K H0 H' σ' ρ'->tQ De σ' H')/\∀ d,res=.inr d->∀ D' σ' H' ρ1,bG X.K H0 H' σ' ρ1->fx ρ1=some d->D'.rt=De.rt->tR D' σ' H':=by
 obtain⟨nd,xi,xR,xJ,x1,x2,vi,vr,vj,li,lj,l1,l2,gi,gj,g1,g2,di,ci,dr,cr,dj,cj,hs,ht,ht2,hn,hst,s0,s1,hmk,st1,st2,hb1,hb2,hw1,hw2,hl1,hl2,s3,s4⟩:=S;obtain⟨n1,n2,n3,n4,n5,n6,n7,n8,n9,n10⟩:=nd5 nd;have hadd:PE X (.Call (.Attribute (.Name x VH) "add" a1) [e3] [] c1) _:=ab1 (sZ (i:=i) xi vi di ci) (bT h3.run g8 (by rw[st1]<;>rfl)) hb1 hw1 hl1 (by rw[st1]<;>rfl) rfl;have happ:PE X (.Call (.Attribute (.Name xr pr) "append" a2) [.Name xj Tt] [] c2) _:=
  Et PySem.F.plainAttrs_list PySem.F.slot_list_append PySem.F.type_list_append z8 (sZ (i:=r) xR vr dr cr) (bT (sZ (i:=j) xJ vj dj cj) g8 (by rw[st2]<;>rfl)) hb2 hw2 hl2 (by rw[st2]<;>rfl) rfl
 refine QD (fZ (uU (pos:=Rj) (pos':=p0) hN xi li (Em Tr hg hm rfl) s0 gi)
  (fZ (W0 hp hc hi.run (L2.WW hc (L2.Ek (L2.Dl hN x1 l1 g1) (L2.Ek (L2.Dl hN x2 l2 g2) L2.R4 ht2) ht) hn hst)
   (fZ (uU (pos:=pa) (pos':=pj) hN xJ lj h1.run s1 gj) (fZ (Ml (Mi hcn.run (Qm (R6 ae7 h2.run (sZ (i:=i) xi vi di ci) hmk))).pt hR Dj) (fZ (Dk hadd s3) (yI (Dk happ s4))))) hs) hr)) λDe σ H h=>?_
 obtain⟨H0,ρ,alj,E,eo,q,qx⟩:=h;unfold Ju at eo;split at eo;rotate_left
 ·cases eo
 rename_i hρ;split at eo;rotate_left
 ·cases eo
 rename_i hij;obtain⟨ds,ed,eo⟩:=bind_some eo;obtain⟨res,em,eo⟩:=bind_some eo;obtain⟨v,hσr,L,vs0,rfl,hL,rs0⟩:=E.val r _ hρ;have fr:∀ (q:Nat) b,(((((ρ.set i none).set r none).set j none).set k1 none).set k2 none)[q]?=some (some b)->q≠i/\q≠r/\q≠j/\q≠k1/\q≠k2/\ρ[q]?=some (some b):=λq b e=>by
  obtain⟨m1,e⟩:=tW e;obtain⟨m2,e⟩:=tW e;obtain⟨m3,e⟩:=tW e;obtain⟨m4,e⟩:=tW e;obtain⟨m5,e⟩:=tW e;exact⟨m5,m4,m3,m2,m1,e⟩
 have hl0:(((((ρ.set i none).set r none).set j none).set k1 none).set k2 none).length=ρ.length:=by simp
 have hrL:r < ρ.length:=(List.getElem?_eq_some_iff.mp hρ).1;generalize ((((ρ.set i none).set r none).set j none).set k1 none).set k2 none=ρ0 at *
 refine⟨rfl,λD H1 sm1 hfr hD=>?_⟩;have E0:bG X.K H0 H1 σ ρ0:=(E.forget hl0.symm λq b e=>(fr q b e).2.2.2.2.2).grow sm1;have hL1:=sm1 _ _ hL;have hLD:L≠D:=λz=>by rw[z,hfr] at hL;cases hL
 have YQ:∀ (q:Nat) c a,ρ0[q]?=some (some c)->loose c=true->σ[q]?=some (some (.ref a))->a≠L/\a≠D:=λq c a e1 e2 e3=>by
  obtain⟨_,m2,_,_,_,e⟩:=fr q c e1;exact⟨λz=>by subst z;exact m2 (E.own r q _ a c hρ rfl hσr e e2 e3).symm,λz=>by subst z;exact known E q c a e e2 e3 hfr⟩
 have YS:∀ q c,ρ0[q]?=some (some c)->(σ.set i (some (V.ref D)))[q]?=σ[q]?:=λq c e=>oK _ (fr q c e).1;have E1:bG X.K H0 H1 (σ.set i (some (.ref D))) ρ0:=⟨by rw[qq];exact E0.len,λq b e=>by rw[YS q b e];exact E0.val q b e,
  λq q' c a b e1 e2 e3 e4 e5 e6=>E0.own q q' c a b e1 e2 (by rw[<-YS q c e1];exact e3) e4 e5 (by rw[<-YS q' b e4];exact e6),E0.base,λq c a e1 e2 e3=>E0.new q c a e1 e2 (by rw[<-YS q c e1];exact e3)⟩
 have hLs:σ.length=ρ.length:=E.len;have hσi:(σ.set i (some (V.ref D)))[i]?=some (some (.ref D)):=Ab _ (by omega);have ahb:(σ.set i (some (V.ref D)))[r]?=some (some (.ref L)):=(oK _ n1.symm).trans hσr;have sep1:∀ (q:Nat) c a,ρ0[q]?=some (some c)->loose c=true->(σ.set i (some (V.ref D)))[q]?=some (some (.ref a))->a≠L/\a≠D:=λq c a e1 e2 e3=>YQ q c a e1 e2 (by rw[<-YS q c e1];exact e3);have newL:H0 L=none:=E.new r _ L hρ rfl hσr;have newD:H0 D=none:=E.base.free hfr;clear YQ YS hσr E0 sm1 hL;dsimp only[R3];generalize hσs:σ.set i (some (V.ref D))=σ1 at *
 have hls1:σ1.length=ρ.length:=by rw[<-hσs,qq];exact hLs
 clear hσs;refine⟨H0,ρ0,ds,E1,ed,λJ H2 sm2 y=>?_⟩;have E2:=E1.grow sm2;have hL2:=sm2 _ _ hL1;have hD2:=sm2 _ _ hD;have Y:Yields X.K J ds (oM (oM (fQ H2 σ1 ρ0) L) D):=by
  refine y _ ((tH.trans tH).trans oR) (λa ha=>?_) (λa o u ha=>?_) λa vs ha=>?_
  ·rw[jR (λz=>by rw[z,hD] at ha;cases ha),jR (λz=>by rw[z,hL1] at ha;cases ha)];unfold fQ;rw[zC];rintro⟨q,c,e1,ec,e2⟩;exact known E1 q c a e1 (by cases c<;>first|rfl|cases ec) e2 ha
  ·rw[jR (λz=>by rw[z,hD2] at ha;cases ha),jR (λz=>by rw[z,hL2] at ha;cases ha)];exact oU E2 (λvs z=>by rw[ha] at z;cases z) λvs z=>by rw[ha] at z;cases z
  ·rw[jR (λz=>by rw[z,hD2] at ha;cases ha),jR (λz=>by rw[z,hL2] at ha;cases ha)];exact oU E2 (λvs z=>by rw[ha] at z;cases z) λvs z=>by rw[ha] at z;cases z
 have sub:Same H0 (oM (oM (fQ H2 σ1 ρ0) L) D):=λb o eb=>by
  rw[jR (λz=>by rw[z,newD] at eb;cases eb),jR (λz=>by rw[z,newL] at eb;cases eb)];exact E2.sub b o eb
 have ES:bG X.K (oM (oM (fQ H2 σ1 ρ0) L) D) H2 σ1 ρ0:=by
  have:=E2.sans;exact⟨this.len,this.val,this.own,(tH.trans tH).trans oR,λq c a e1 ec e2=>by
   unfold oM;split
   ·rfl
   ·split
    ·rfl
    ·exact this.new q c a e1 ec e2⟩
 have hsD:oM (oM (fQ H2 σ1 ρ0) L) D D=none:=zh rfl;have hsL:oM (oM (fQ H2 σ1 ρ0) L) D L=none:=by rw[jR hLD];exact zh rfl
 generalize oM (oM (fQ H2 σ1 ρ0) L) D=Hs at Y sub ES hsD hsL;refine⟨λn m' σ' H'=>m'=ds.length - n/\n<=ds.length/\(∀ q,q≠j->q≠k1->q≠k2->σ'[q]?=σ1[q]?)/\∃ seen outs vs,bG X.K Hs H' σ' ρ0/\H' L=some (.lst vs)/\aQ X.K H' outs vs/\H' D=some (hoT X D seen)/\rZ k1 k2 j f1 p fe fx ρ0 (ds.drop n) seen outs=some res,⟨ds.length,by simp,qi _,λ_ _ _ _=>rfl,[],[],vs0,ES,hL2,?_,hD2,em⟩,?_⟩
 ·have:=rs0.length;rw[List.length_nil] at this;rw[List.length_eq_zero_iff.mp this];exact aQ.nil
 rintro n m' σ' H' ⟨rfl,hn',hσ,seen,outs,vs,E',hL',rL,hD',em'⟩;obtain⟨y1',y2'⟩:=Y n H' E'.base;by_cases hlt:n < ds.length
 ·right;have hd:ds[n]?=some ds[n]:=by simp[hlt]
  obtain⟨go,yl⟩:=y1' _ hd;rw[kA hlt] at em';refine⟨go,λσ2 H2=>(∀ q,q≠j->q≠k1->q≠k2->σ2[q]?=σ1[q]?)/\∃ seen outs vs,bG X.K Hs H2 σ2 ρ0/\H2 L=some (.lst vs)/\aQ X.K H2 outs vs/\H2 D=some (hoT X D seen)/\rZ k1 k2 j f1 p fe fx ρ0 (ds.drop (n+1)) seen outs=some res,λσ2 H2 ⟨z1,z2⟩=>⟨ds.length - (n+1),by omega,rfl,hlt,z1,z2⟩,λxv H3 yy=>?_⟩;obtain⟨sm3,rx⟩:=yl xv H3 yy;simp only[rZ] at em';split at em';rotate_left
  ·cases em'
  rename_i da db hdd;rw[hdd] at rx;obtain⟨b1,eb1,em'⟩:=bind_some em';split at em';rotate_left
  ·cases em'
  rename_i d1;obtain⟨t,et,em'⟩:=bind_some em';simp only[Rep] at rx;obtain⟨ta,tvs,rfl,sq,rts⟩:=rx;simp only[aQ] at rts;obtain⟨va,_,rfl,ra,vb,_,rfl,rb,rfl⟩:=rts;have E3:=E'.grow sm3;have Ea:bG X.K Hs H3 (σ'.set k1 (some va)) (ρ0.set k1 (some (.z da))):=E3.set (b:=.z da) (Same.refl H3) ra (.inr rfl) trivial;have Eb:bG X.K Hs H3 ((σ'.set k1 (some va)).set k2 (some vb)) ((ρ0.set k1 (some (.z da))).set k2 (some (.z db))):=Ea.set (b:=.z db) (Same.refl H3) rb (.inr rfl) trivial;refine⟨ta,[va,vb],rfl,sq,rfl,va,[vb],rfl,vb,[],rfl,rfl,Hs,_,_,Eb,eb1,λv1 H4 s4' n4' r4=>?_⟩;have Ej:bG X.K Hs H4 (((σ'.set k1 (some va)).set k2 (some vb)).set j (some v1)) (((ρ0.set k1 (some (.z da))).set k2 (some (.z db))).set j (some (.z d1))):=Eb.set (b:=.z d1) s4' r4 (.inr rfl) trivial;have ag:∀ q,q≠j->q≠k1->q≠k2->(((σ'.set k1 (some va)).set k2 (some vb)).set j (some v1))[q]?=σ1[q]?:=λq a1 a2 a3=>by rw[oK _ a1,oK _ a3,oK _ a2];exact hσ q a1 a2 a3
  have hlj:(((σ'.set k1 (some va)).set k2 (some vb)).set j (some v1))[j]?=some (some v1):=Ab _ (by
   have:=E'.len;rw[qq,qq,this,hl0];exact hij.2)
  have hi':=(ag i n2 n3 n4).trans hσi;have hr':=(ag r n5 n6 n7).trans ahb;have dn:∀ (q:Nat) b,loose b=true->(((ρ0.set k1 (some (.z da))).set k2 (some (.z db))).set j (some (.z d1)))[q]?=some (some b)->ρ0[q]?=some (some b):=λq b hl e=>by
   rcases getset e with⟨_,z,_⟩|⟨_,e⟩
   ·cases z;cases hl
   ·rcases getset e with⟨_,z,_⟩|⟨_,e⟩
    ·cases z;cases hl
    ·rcases getset e with⟨_,z,_⟩|⟨_,e⟩
     ·cases z;cases hl
     ·exact e
  have sep2:∀ (q:Nat) c a,(((ρ0.set k1 (some (.z da))).set k2 (some (.z db))).set j (some (.z d1)))[q]?=some (some c)->loose c=true->(((σ'.set k1 (some va)).set k2 (some vb)).set j (some v1))[q]?=some (some (.ref a))->a≠L/\a≠D:=λq c a e1 e2 e3=>by
   have e0:=dn q c e2 e1;obtain⟨_,_,m3,m4,m5,_⟩:=fr q c e0;exact sep1 q c a e0 e2 (by rw[<-ag q m3 m4 m5];exact e3)
  have up:∀ (q:Nat) b,ρ0[q]?=some (some b)->(((ρ0.set k1 (some (.z da))).set k2 (some (.z db))).set j (some (.z d1)))[q]?=some (some b):=λq b e=>by
   obtain⟨_,_,m3,m4,m5,_⟩:=fr q b e;rw[oK _ m3,oK _ m5,oK _ m4];exact e
  have ahc:(((ρ0.set k1 (some (.z da))).set k2 (some (.z db))).set j (some (.z d1))).length=ρ0.length:=by simp
  have hLj:=s4' _ _ (sm3 _ _ hL');have hDj:=s4' _ _ (sm3 _ _ hD');have rLj:=(rL.kp (.of sm3)).kp (.of s4');dsimp only[R3];generalize ((σ'.set k1 (some va)).set k2 (some vb)).set j (some v1)=σ3 at *
  generalize ((ρ0.set k1 (some (.z da))).set k2 (some (.z db))).set j (some (.z d1))=ρ3 at *
  refine⟨Hs,ρ3,t,Ej,et,λH5 s5=>?_⟩;by_cases ht':t=true
  ·subst ht';rw[zh rfl] at em';obtain⟨d0,ex,em'⟩:=bind_some em';cases em';cases eo;show(if true=true then _ else _);rw[zh rfl];exact qx d0 rfl _ _ _ _ ((Ej.grow s5).rebase sub) ex rfl
  obtain rfl:t=false:=by cases t with
   |true=>exact absurd rfl ht'
   |false=>rfl
  rw[zC zk] at em';obtain⟨b2,eb2,em'⟩:=bind_some em';obtain⟨z,ez,em'⟩:=bind_some em';rw[YJ ez] at eb2;show(if false=true then _ else _);rw[zC zk];refine⟨Hs,ρ3,_,Ej.grow s5,eb2,λv2 H6 s6 n6' r6=>⟨_,hi',?_⟩⟩;obtain⟨rfl,hz⟩:=HF r6;refine⟨z,D,seen,rfl,rfl,s6 _ _ (s5 _ _ hDj),_,rfl,?_⟩;have E6:=(Ej.grow s5).grow s6;show(if decide (z∈seen)=true then _ else _);by_cases hnew:z∈seen
  ·rw[zh hnew] at em';obtain⟨d0,ex,em'⟩:=bind_some em';cases em';cases eo;rw[zh (QE hnew)];exact qx d0 rfl _ _ _ _ (E6.rebase sub) ex rfl
  rw[zC hnew] at em';split at em';rotate_left
  ·cases em'
  rename_i hok;have emz:=em';obtain⟨hs4,ho4⟩:=hok;rw[zC (by simpa using hnew)];refine⟨_,hi',D,rfl,⟨seen,s6 _ _ (s5 _ _ hDj)⟩,Hs,ρ3,_,E6,eb2,λv3 H7 s7 n7' r7=>?_⟩;obtain⟨rfl,_⟩:=HF r7;have E7:=E6.grow s7;have hD7:=s7 _ _ (s6 _ _ (s5 _ _ hDj));have hL7:=s7 _ _ (s6 _ _ (s5 _ _ hLj));refine⟨z,seen,rfl,hD7,hs4,?_⟩;have kD:Kp H7 (upd H7 D (hoT X D (seen++[z]))):=aeK hD7;have E8:bG X.K Hs (upd H7 D (hoT X D (seen++[z]))) σ3 ρ3:=E7.move (as:=[D]) (λq c a e1 e2 e3 z=>(sep2 q c a e1 e2 e3).2 (List.mem_singleton.mp z)) kD (λb hb=>aM λz=>hb (by rw[z];simp)) (λb o eb=>by
   rw[aM λz=>by rw[z,hsD] at eb;cases eb];exact E7.base b o eb) E7.new
  have hL8:upd H7 D (hoT X D (seen++[z])) L=some (.lst vs):=by rw[aM hLD];exact hL7
  have hD8:upd H7 D (hoT X D (seen++[z])) D=some (hoT X D (seen++[z])):=aV;have rL8:=(((rLj.kp (.of s5)).kp (.of s6)).kp (.of s7)).kp kD;have r8:Rep X.K (upd H7 D (hoT X D (seen++[z]))) d1 v1:=Rep.kp kD (Rep.kp (.of s7) (Rep.kp (.of s6) (Rep.kp (.of s5) r4)));generalize upd H7 D (hoT X D (seen++[z]))=H8 at *
  have sz:(4001:Nat)<=sizeLine:=by decide
  refine⟨_,hr',.inl ⟨rfl,vs,.inl (.inl hL8)⟩,_,hlj,L,vs,v1,rfl,rfl,hL8,by rw[rL8.length];omega,ag,seen++[z],outs++[d1],vs++[v1],?_,aV,(rL8.kp (.lst hL8)).append (aQ.cons (Rep.kp (.lst hL8) r8) aQ.nil),?_,emz⟩
  ·exact(E8.move (as:=[L]) (λq c a e1 e2 e3 z=>(sep2 q c a e1 e2 e3).1 (List.mem_singleton.mp z)) (.lst hL8) (λb hb=>aM λz=>hb (by rw[z];simp)) (λb o eb=>by
    rw[aM λz=>by rw[z,hsL] at eb;cases eb];exact E8.base b o eb) E8.new).forget ahc up
  ·rw[aM hLD.symm];exact hD8
 ·left;have hge:ds.length<=n:=by omega
  rw[jI hge] at em';cases em';cases eo;have agL:∀ (q:Nat) c,ρ0[q]?=some (some c)->σ'[q]?=σ1[q]?:=λq c e=>let ⟨_,_,m3,m4,m5,_⟩:=fr q c e;hσ q m3 m4 m5;have hr':σ'[r]?=some (some (.ref L)):=(hσ r n5 n6 n7).trans ahb;have E9:=E'.rebase sub;have YQ:∀ (q:Nat) c,ρ0[q]?=some (some c)->loose c=true->σ'[q]?≠some (some (.ref L)):=λq c e1 e2 e3=>(sep1 q c L e1 e2 (by rw[<-agL q c e1];exact e3)).1 rfl;refine⟨y2' hge,q _ rfl σ' H' ⟨by rw[qq];exact E9.len,λq b e=>?_,λa1 a2 c a b g1 g2 g3 g4 g5 g6=>?_,E9.base,λa1 c a g1 g2 g3=>?_⟩⟩
  ·rcases getset e with⟨rfl,z,_⟩|⟨_,e⟩
   ·cases z;exact⟨_,hr',L,vs,rfl,hL',rL⟩
   ·exact E9.val q b e
  ·rcases getset g1 with⟨rfl,z,_⟩|⟨_,k1'⟩
   ·cases z;rw[hr'] at g3;cases g3;rcases getset g4 with⟨rfl,_,_⟩|⟨_,k4⟩
    ·rfl
    ·exact absurd g6 (YQ a2 b k4 g5)
   ·rcases getset g4 with⟨rfl,z,_⟩|⟨_,k4⟩
    ·cases z;rw[hr'] at g6;cases g6;exact absurd g3 (YQ a1 c k1' (by cases c<;>first|rfl|cases g2))
    ·exact E9.own a1 a2 c a b k1' g2 g3 k4 g5 g6
  ·rcases getset g1 with⟨rfl,z,_⟩|⟨_,g1⟩
   ·rw[hr'] at g3;cases g3;exact newL
   ·exact E9.new a1 c a g1 g2 g3
theorem YT (i r j k1 k2:Nat) (hp:PassesOwn (model X.prog X.w) X.A X.env X.xe) (hc:X.calm=true) (hN:X.N.Nodup) (hg:Gl X "set") (hm:X.mg "set" = none) (hi:QIF X (.Tuple [.Name y1 q1,.Name y2 q2] kk pt) iter fi) (h1:QV X e1 f1) (hcn:QB X c p) (h2:QV X e2 fe) (h3:QV X e3 fe) (hr:QG X rest gr)
  (S:SnS X i r j k1 k2 x xr xj y1 y2 iter e1 e3 p0 Ws Wt Rj q1 q2 pj pa px VH a1 c1 pe1 pr a2 Tt c2 pe2:=by exact {}) :
  QG X (.Assign [.Name x p0] (.Call (.Name "set" Ws) [] [] Wt) Rj::.For (.Tuple [.Name y1 q1,.Name y2 q2] kk pt) iter [.Assign [.Name xj pj] e1 pa,.If (.BoolOp .Or [c,.Compare e2 [.In] [.Name x px] pb] pif) no [] pf2,.Expr (.Call (.Attribute (.Name x VH) "add" a1) [e3] [] c1) pe1,.Expr (.Call (.Attribute (.Name xr pr) "append" a2) [.Name xj Tt] [] c2) pe2] [] pos::rest) (aD (Og i r j k1 k2 fi f1 p fe) gr):=by
 refine⟨QD (Oh (fx:=λ_=>none) (tR:=Qo) i r j k1 k2 hp hc hN hg hm hi h1 hcn h2 h3 zY hr.run S) λDe σ H h=>?_⟩;obtain⟨H0,ρ,out,Ev,e,q⟩:=h;obtain⟨o1,eo,e⟩:=bind_some e;unfold Og at eo;split at eo;rotate_left
 ·cases eo
 rename_i hρ;split at eo;rotate_left
 ·cases eo
 rename_i hij;obtain⟨ds,ed,eo⟩:=bind_some eo;obtain⟨res,em,eo⟩:=bind_some eo;cases eo;refine⟨H0,ρ,.inl _,Ev,?_,λρ' z σ' H' E'=>⟨H0,_,out,E',(by cases z;exact e),q⟩,λd z=>nomatch z⟩;unfold Ju;rw[hρ];dsimp only;rw[zh hij,ed];simp only[bnd];rw[YM em];rfl
end
section
variable {α β γ δ:Type} {ρ:Ev} {e:α->Dt} {ea:β->Dt} {eb:δ->Dt} {f1 fe:Ev->Option Bx} {p:Ev->Option Bool} {fi:Ev->Option (List Dt)} {kk:Ev->Option Out} {cO:γ->Out}
end
end P1
end
section
namespace P1
open PySem PySem.Spec PyProof.Rows L2 S1
section
variable {prog:Program} {w:World} {A:Around} {E:VP_} {s:Shared}
end
section
variable {X:Cx}
end
section
variable {X:Cx} {k n:Nat} {f:Addr} {fd:FuncData} {ps:LS_} {F:List Bx->Option Bx} {x:Str} {p pos:Pos}
end
end P1
end
section
namespace P1
open PySem PySem.Spec PyProof.Rows L2 S1 S6
theorem len0 {α:Type} {p:List α->Prop} (h:p []):∀ us:List α,us.length=0->p us
 |[],_=>h
section
variable {α β:Type} {e:α->Dt} {ρ:Ev} {f g fa fb:Ev->Option Bx} {c:α->Bx}
end
section
variable {ρ:Ev}
def x_k (d:Dt):R (cB d) ρ (zE eD):=rW d eD d rfl
def x_i (i:Int):R (cB (.int i)) ρ (zE eI):=rW (.int i) eI i rfl
def jc (s:Str):R (cB (.str s)) ρ (zE eS):=rW (.str s) eS s rfl
end
abbrev Nn (K:FG_) (n:Str) (f:Addr):Prop:=nsIn K mainGlobals n=some (some (.ref f))
abbrev Lk (K:FG_) (f:Addr) (n:Str) (st:Stmt) (oc:Value) (od:Option Addr) (sl:Array (Option Value)) (kV dc pm:Value) (an:Option Addr) (cd ct:Value):Prop:=K.lookup f=some ⟨oc,od,.func (fnOf n n (oO st) (f9 st) (aF st) .none kV dc pm an cd ct),sl⟩
end P1
end
section
namespace P1
open PySem PySem.Spec PyProof.Rows L2
section
variable {α:Type} {ρ:Ev} {fa fb:Ev->Option Bx} {e:α->Dt}
end
def ExR (h:Heap) (e:Addr) (C:Value) (dx:Option Addr):Prop:=∃ vs sl,h.get? e=some ⟨C,dx,.fields vs,sl⟩/\vs[1]?=some .none
def Oi (h:Heap) (e:Addr) (C:Value) (dx:Option Addr) (fl:Value) (T:Addr):Prop:=
 ∃ vs sl oT ts,h.get? e=some ⟨C,dx,.fields vs,sl⟩/\vs[1]?=some (.ref T)/\T≠e/\h.get? T=some oT/\oT.data=.fields ts/\ts[3]?=some fl
structure KN (S ch:List Addr) (h h':Heap):Prop where
 keep:∀ b o,h.get? b=some o->b∉ch->b∉S->h'.get? b=some o
 slot:∀ b o,h.get? b=some o->b∉ch->∃ sl,h'.get? b=some { o with slots:=sl }
theorem KN.trans {S c1 c2:List Addr} {h h1 h2:Heap} (a:KN S c1 h h1) (b:KN S c2 h1 h2):KN S (c1++c2) h h2:=by
 refine⟨λx o e n m=>b.keep x o (a.keep x o e (λz=>n (JS _ z)) m) (λz=>n (ZI _ z)) m,λx o e n=>?_⟩;obtain⟨s1,e1⟩:=a.slot x o e (λz=>n (JS _ z));obtain⟨s2,e2⟩:=b.slot x _ e1 (λz=>n (ZI _ z));exact⟨s2,e2⟩
theorem KN.mono {S S' c1 c2:List Addr} {h h1:Heap} (a:KN S c1 h h1) (hc:∀ b∈c1,b∈c2) (hs:∀ b∈S,b∈S'):KN S' c2 h h1:=
 ⟨λx o e n m=>a.keep x o e (λz=>n (hc _ z)) (λz=>m (hs _ z)),λx o e n=>a.slot x o e (λz=>n (hc _ z))⟩
theorem KN.wX {S ch:List Addr} {h h1 base:Heap} {l:List Env} (a:KN S ch h h1) (nf:∀ b∈ch,∀ o,h.get? b=some o->∃ vs,o.data=.fields vs) (hl:h.FunFrames base l):h1.FunFrames base l:=
 hl.of_keeps λb o e hn=>by
  obtain⟨sl,q⟩:=a.slot b o e λz=>by
   obtain⟨vs,d⟩:=nf b z o e;exact hn vs d
  exact⟨_,q,rfl⟩
section
variable {M:Model} {A:Around} {Ex:VP_} {s:Shared} {base:Heap} {env:Env} {outer:List Env} {L e T:Addr} {C fl:Value} {dx:Option Addr} {Q:Unit->Shared->Prop}
theorem Jv {head:Value} {hadNext:Bool} {vs:Array Value} {sl:Array (Option Value)} (hfr:A.frames=some (env::outer)) (hl:s.heap.FunFrames base (env::outer)) (hf:env.frame=some L)
  (he:s.heap.get? e=some ⟨C,dx,.fields vs,sl⟩) (hsz:1 < vs.size)
  (h:∀ h' T,s.heap.objs.size<=T->KN (frs (env::outer)) [e] s.heap h'->Oi h' e C dx (rawInt L) T->Q () { s with heap:=h' }) :
  wpAny M A (do let a <-frameOf env;let pl <-entryPlaceOf L hadNext;let b <-EntryCells.newEntry head a .none (rawInt L) .none pl;setField (.ref e) 1 b) Q Ex s:=by
 have hene:e∉frs (env::outer):=λhm=>by
  obtain⟨_,o,ho,hnf⟩:=hl.mem hm;rw[he] at ho;cases ho;exact hnf vs rfl
 refine zb (wpAny_frameOf_fun hfr hl hf λh1 hs1=>?_);refine zb (wpAny_entryPlaceOf λpl hpl=>?_);unfold EntryCells.newEntry newFields;refine zb (qh ?_ (hpl.sizeOk5 _ _ _ _ _));have he1:h1.get? e=some ⟨C,dx,.fields vs,sl⟩:=(hs1.2.1 e hene).trans he;have he2:=zd (h:=h1) { cls:=.type "traceback", dict:=none,data:=.fields ([head,.ref L,.none,rawInt L,.none]++(if pl.isEmpty then List.replicate 6 Value.none else pl)).toArray } he1;refine wpAny_setField he2 rfl hsz (h _ h1.objs.size (by rw[hs1.1];exact zi _) ?_ ?_)
 ·have kp:∀ b o,b≠e->h1.get? b=some o->_:=λb o hb hq=>(QQ _ (Obj.mapFields (·.setIfInBounds 1 (Value.ref h1.objs.size))) (Q2 hb)).trans (zd
   { cls:=.type "traceback", dict:=none,data:=.fields ([head,.ref L,.none,rawInt L,.none]++(if pl.isEmpty then List.replicate 6 Value.none else pl)).toArray } hq)
  refine⟨λb o q n m=>kp b o (λz=>n (by simp[z])) ((hs1.2.1 b m).trans q),λb o q n=>?_⟩;obtain⟨sl',q'⟩:=hs1.2.2 b o q;exact⟨sl',kp b _ (λz=>n (by simp[z])) q'⟩
 ·have hTe:h1.objs.size≠e:=Q3 (zv he1);have he3:=QA (Obj.mapFields (·.setIfInBounds 1 (Value.ref h1.objs.size))) he2 (kX (j0 rfl _));have hT3:=(QQ (h1.push { cls:=.type "traceback", dict:=none,data:=.fields ([head,.ref L,.none,rawInt L,.none]++(if pl.isEmpty then List.replicate 6 Value.none else pl)).toArray })
   (Obj.mapFields (·.setIfInBounds 1 (Value.ref h1.objs.size))) (Q2 hTe)).trans (zl h1 rfl)
  refine⟨_,_,_,_,he3,by simp[hsz],hTe,hT3,rfl,?_⟩
  first|(simp;done)|(rcases hpl with rfl|⟨_,_,_,_,_,_,_,rfl⟩<;>simp)
theorem YW (hfr:A.frames=some (env::outer)) (hl:s.heap.FunFrames base (env::outer)) (hf:env.frame=some L) (hx:ExR s.heap e C dx)
  (h:∀ h' T,s.heap.objs.size<=T->KN (frs (env::outer)) [e] s.heap h'->Oi h' e C dx (rawInt L) T->Q () { s with heap:=h' }):wpAny M A (noteFrame (.ref e) env) Q Ex s:=by
 obtain⟨vs,sl,he,h1⟩:=hx;unfold noteFrame;simp only[hf];refine zb (kg he rfl h1 ?_);rw[zC (by decide)];exact Jv hfr hl hf he (Array.getElem?_eq_some_iff.mp h1).1 h
theorem VJ (hf:env.frame=some L) (hx:Oi s.heap e C dx (rawInt L) T) (h:Q () s):wpAny M A (noteFrame (.ref e) env) Q Ex s:=by
 obtain⟨vs,sl,oT,ts,he,h1,hTe,hT,hd,h3⟩:=hx;unfold noteFrame;simp only[hf];refine zb (kg he rfl h1 ?_);rw[zh (show(Value.ref T != Value.none)=true from by simp)];refine zb (kg hT hd h3 ?_);rw[zh (show(rawInt L==rawInt L)=true from by simp)];exact ze h
theorem Tv {fl':Value} (hx:Oi s.heap e C dx fl T):∀ h',h'=s.heap.update T (Obj.mapFields (·.setIfInBounds 3 fl'))->KN [] [T] s.heap h'/\Oi h' e C dx fl' T:=by
 obtain⟨vs,sl,oT,ts,he,h1,hTe,hT,hd,h3⟩:=hx;have hsz:3 < ts.size:=(Array.getElem?_eq_some_iff.mp h3).1;intro h' eh;subst eh;have oth:∀ b,b≠T->(s.heap.update T (Obj.mapFields (·.setIfInBounds 3 fl'))).get? b=s.heap.get? b:=λb hb=>QQ _ _ (Q2 hb);refine⟨⟨λb o q n _=>(oth b λz=>n (by simp[z])).trans q,λb o q n=>⟨o.slots,(oth b λz=>n (by simp[z])).trans q⟩⟩,vs,sl,_,_,(oth e (Q2 hTe)).trans he,h1,hTe,
  QA _ hT (kX (j0 hd _)),j0 hd _,by simp[hsz]⟩
theorem tY (fr:Option Addr) (hx:Oi s.heap e C dx fl T) (h:∀ h',KN [] [T] s.heap h'->Oi h' e C dx (fr.elim .none λf=>rawInt f) T->Q () { s with heap:=h' }):wpAny M A (setFlight (.ref e) fr) Q Ex s:=by
 obtain⟨x1,x2⟩:=Tv (fl':=fr.elim .none λf=>rawInt f) hx _ rfl;obtain⟨vs,sl,oT,ts,he,h1,hTe,hT,hd,h3⟩:=hx;unfold setFlight;refine zb (kg he rfl h1 ?_);rw[zh (show(Value.ref T != Value.none)=true from by simp)];exact wpAny_setField hT hd (Array.getElem?_eq_some_iff.mp h3).1 (h _ x1 x2)
theorem Tw (hfr:A.frames=some (env::outer)) (hl:s.heap.FunFrames base (env::outer)) (hf:env.frame=some L) (hx:Oi s.heap e C dx .none T)
  (h:∀ h' T',s.heap.objs.size<=T'->KN (frs (env::outer)) [T,e] s.heap h'->Oi h' e C dx (rawInt L) T'->Q () { s with heap:=h' }):wpAny M A (noteFrame (.ref e) env) Q Ex s:=by
 obtain⟨x1,x2⟩:=Tv (fl':=.none) hx _ rfl;obtain⟨vs,sl,oT,ts,he,h1,hTe,hT,hd,h3⟩:=hx;unfold noteFrame;simp only[hf];refine zb (kg he rfl h1 ?_);rw[zh (show(Value.ref T != Value.none)=true from by simp)];refine zb (kg hT hd h3 ?_);rw[zC (show ¬ ((Value.none==rawInt L)=true) from by simp[rawInt])];refine zb (wpAny_setField hT hd (Array.getElem?_eq_some_iff.mp h3).1 ?_);have x1':KN (frs (env::outer)) [T] _ _:=x1.mono (λ_ z=>z) (λ_ z=>nomatch z);refine Jv (base:=base) hfr (x1.wX (λb z o q=>by
  obtain rfl:b=T:=by simpa using z
  rw[hT] at q;cases q;exact⟨_,hd⟩) hl) hf ((x1.keep e _ he (by simpa using Q2 hTe) (by simp))) (Array.getElem?_eq_some_iff.mp h1).1 λh' T' z c x=>?_
 exact h h' T' (by have:=Heap.size_after_update s.heap T (Obj.mapFields (·.setIfInBounds 3 Value.none));exact this▸z) (x1'.trans c) x
end
structure zj (X:Cx) (H:Hp) (b:Addr):Prop where
 un:H b=none
 ab:X.s₀.heap.objs.size<=b
 nl:b≠X.env.locals
 nc:∀ x c,X.env.cells.lookup x=some c->c≠b
section
variable {X:Cx} {σ:L2.St} {H H':Hp} {s:Shared} {h':Heap} {ch:List Addr}
theorem zj.new (I:Inv X [] σ H s) {b:Addr} (h:s.heap.objs.size<=b):zj X H b:=
 ⟨I.hok.fresh h,zI I.sz h,λz=>by have:=I.lt;rw[<-z] at this;exact absurd this (Nat.not_lt.mpr h),λx c e z=>by
  obtain⟨v,q⟩:=I.cell x c e;have:c < s.heap.objs.size:=by
   obtain⟨o,q⟩:∃ o,s.heap.get? c=some o:=by
    first|(obtain⟨o,q,_⟩:=q;exact⟨o,q⟩)|exact⟨_,q⟩
   exact zv q
  rw[z] at this;exact absurd this (Nat.not_lt.mpr h)⟩
theorem DX {t':Nat} (hpn:X.pn=[]) (I:Inv X [] σ H s) (c:KN (frs X.stack) ch s.heap h') (hm:∀ b∈ch,zj X H b):Inv X [] σ H { s with heap:=h',toks:=t' }:=by
 refine I.step (g':=s.gens) (d':=s.drawn) (ch:=ch) (λb hb=>⟨.inr (hm b hb).ab,(hm b hb).nl,(hm b hb).nc,λp hp=>by rw[hpn] at hp;cases hp⟩)
  (λb o hL hb hc e n=>c.keep b o e hc λz=>(List.mem_cons.mp (I.Ef b z)).elim hL hb) (λb o _ _ hc e n=>c.slot b o e hc) (λ_ _ _ _ n=>n)
  (λb o hc e=>let ⟨_,q⟩:=c.slot b o e hc;⟨_,q⟩) (λ_ _ e=>e) (λ_ _ _ e=>e) (λb ps e=>⟨#[],by rw[e];simp⟩) (λm hm'=>?_) (λb u e=>?_) I.bare
 ·obtain⟨o,es,ep,ho,r⟩:=hm';obtain⟨sl,q⟩:=c.slot _ o ho λz=>(hm _ z).nl rfl;exact⟨_,es,ep,q,r⟩
 ·have ne:∀ (d:Addr) (w:HO),H d=some w->d∉ch/\d∉frs X.stack:=λd w q=>⟨λz=>(by rw[(hm d z).un] at q;cases q),λz=>(by rw[I.Dg d z] at q;cases q)⟩;refine(I.hok b u e).stay (λd v hd q=>?_) (λ_ q=>q) λ_ _ q=>q;rcases hd with z|z
  ·subst z;exact c.keep _ _ q (ne _ _ e).1 (ne _ _ e).2
  ·exact c.keep _ _ q (ne _ _ z).1 (ne _ _ z).2
def RX (X:Cx) (E:XK) (e:Value) (s:Shared):Prop:=
 ∃ a C dx σ H,e=.ref a/\Inv X [] σ H s/\zj X H a/\(ExR s.heap a C dx\/∃ T,zj X H T/\(Oi s.heap a C dx (rawInt X.env.locals) T\/Oi s.heap a C dx .none T))/\E C dx H
def Oj (P:Program) (w:World):Qi:=λouter H s E e s'=>
 ∃ a C dx H' T,e=.ref a/\s'.os=s.os/\AllBare s'.gens/\Un (frs outer) [] H H' s.heap s'.heap/\uT P w H' s'.heap/\s.heap.objs.size<=a/\s.heap.objs.size<=T/\H' a=none/\H' T=none ∧
  Oi s'.heap a C dx .none T/\E C dx H'
theorem ae9 {fs:List Addr} {h h1 h2:Heap} (u:Un fs [] H H' h h1) (c:KN fs ch h1 h2) (hc:∀ b∈ch,h.get? b=none):Un fs [] H H' h h2:=by
 have nc:∀ b o,h.get? b=some o->b∉ch:=λb o e z=>by rw[hc b z] at e;cases e
 refine⟨λb o e n f x=>c.keep b o (u.keep b o e n f x) (nc b o e) f,λb o e n f x=>?_,u.free,λb o e x=>?_,u.tups,u.rQ,u.uN⟩
 ·obtain⟨sl,q⟩:=u.slot b o e n f x;obtain⟨sl',q'⟩:=c.slot b _ q (nc b o e);exact⟨sl',q'⟩
 ·obtain⟨o',q⟩:=u.there b o e x;obtain⟨sl,q'⟩:=c.slot b _ q (nc b o e);exact⟨_,q'⟩
theorem Oi.apart {h:Heap} {e T:Addr} {C fl:Value} {dx:Option Addr} (x:Oi h e C dx fl T):(∃ o vs,h.get? e=some o/\o.data=.fields vs)/\∃ o vs,h.get? T=some o/\o.data=.fields vs:=by
 obtain⟨vs,sl,oT,ts,he,h1,hTe,hT,hd,h3⟩:=x;exact⟨⟨_,vs,he,rfl⟩,oT,ts,hT,hd⟩
theorem Tz {E:XK} {Ex:VP_} {Q:Unit->Shared->Prop} {a:Addr} {C:Value} {dx:Option Addr} (hpn:X.pn=[]) (hst:X.stack=X.env::X.outer) (hf:X.env.frame=some X.env.locals) (I:Inv X [] σ H s) (ma:zj X H a)
  (hx:ExR s.heap a C dx\/∃ T,zj X H T/\(Oi s.heap a C dx (rawInt X.env.locals) T\/Oi s.heap a C dx .none T))
  (h:∀ h' T,Inv X [] σ H { s with heap:=h' }->zj X H T->Oi h' a C dx (rawInt X.env.locals) T->Q () { s with heap:=h' }):wpAny (model X.prog X.w) X.A (noteFrame (.ref a) X.env) Q Ex s:=by
 rcases hx with x|⟨T,mT,x|x⟩
 ·have fr:=I.stack;rw[hst] at fr;refine YW (base:=X.base) (hst▸I.ok.frames) fr hf x λh' T z c x'=>?_;rw[<-hst] at c;have mT:zj X H T:=zj.new I z;exact h h' T (DX (t':=s.toks) hpn I c (λb hb=>(List.mem_singleton.mp hb)▸ma)) mT x'
 ·exact VJ hf x (h s.heap T I mT x)
 ·have fr:=I.stack;rw[hst] at fr;refine Tw (base:=X.base) (hst▸I.ok.frames) fr hf x λh' T' z c x'=>?_;rw[<-hst] at c;exact h h' T' (DX (t':=s.toks) hpn I c (λb hb=>by
   rcases List.mem_cons.mp hb with rfl|hb
   ·exact mT
   ·exact(List.mem_singleton.mp hb)▸ma)) (zj.new I z) x'
theorem VL {E:XK} (hpn:X.pn=[]) (hst:X.stack=X.env::X.outer) (hf:X.env.frame=some X.env.locals):PassesOwn (model X.prog X.w) X.A X.env (RX X E):=by
 intro e s' h;obtain⟨a,C,dx,σ,H,rfl,I,ma,hx,he⟩:=h;refine Tz (E:=E) hpn hst hf I ma hx λh' T I' mT x=>?_;show wpAny _ _ _ _ _ _;obtain⟨vs,sl,oT,ts,h1,h2,h3,h4,h5,h6⟩:=id x;refine zb (kg h1 rfl h2 ?_);rw[zC (by simp)];rw[hf];refine tY (s:={ s' with heap:=h' }) (some X.env.locals) x λh'' c x'=>?_;exact⟨a,C,dx,σ,H,rfl,DX (s:={ s' with heap:=h' }) (t':=s'.toks) hpn I' (c.mono (λ_ z=>z) λ_ z=>nomatch z) (λb hb=>(List.mem_singleton.mp hb)▸mT),ma,.inr ⟨T,mT,.inl x'⟩,he⟩
theorem YX {E:XK} {Ex:VP_} {e:Value} (hpn:X.pn=[]) (hst:X.stack=X.env::X.outer) (hf:X.env.frame=some X.env.locals) (hex:X.ex=[]) (h:RX X E e s) :
  wpAny (model X.prog X.w) X.A (leaving X.env e) (λ_ s''=>Oj X.prog X.w X.outer X.H₀ X.s₀ E e s'') Ex s:=by
 obtain⟨a,C,dx,σ,H,rfl,I,ma,hx,he⟩:=h;unfold leaving;refine zb (Tz (E:=E) hpn hst hf I ma hx λh' T I' mT x=>?_);refine tY (s:={ s with heap:=h' }) none x λh'' c x'=>?_;have J:=DX (s:={ s with heap:=h' }) (t':=s.toks) hpn I' (c.mono (λ_ z=>z) λ_ z=>nomatch z) (λb hb=>(List.mem_singleton.mp hb)▸mT);have u:=J.base;rw[hex] at u;exact⟨a,C,dx,H,T,rfl,J.os,J.bare,u,J.hok,ma.ab,mT.ab,ma.un,mT.un,x',he⟩
end
def VN (K:FG_) (C fI:Addr) (bmB:List Value) (newId:String):Bool:=match K.lookup C with
 |some ⟨.type "type", _,.cls cd,sl⟩=>(match cd.mro,sl.toList with
  |.ref C'::bm,[_,_,_,_,some (.builtin n),_]=>C'==C&&(n==newId&&(!cd.hasDel&&(PySem.W.tailIn K bmB bm&&(findIn K (.ref C) "__init__" == some (some (.ref fI))&&isFn K (.ref fI)))))
  |_,_=>false)
 |_=>false
def XCl (h:Heap) (C:Addr) (bmB:List Value) (newId:String):Prop:=∃ nm q N bs bm hdct sn sub ab col dd k0 k1 k2 k3 k5,h.get? C=some (excClassObj nm q C N bs bm hdct sn sub ab col dd k0 k1 k2 k3 k5 newId)/\OwnTail h bmB bm
theorem KQ {K:FG_} {h:Heap} {C fI:Addr} {bmB:List Value} {newId:String} (X:K.In h) (q:VN K C fI bmB newId=true):XCl h C bmB newId/\findIn K (.ref C) "__init__" = some (some (.ref fI))/\isFn K (.ref fI)=true:=by
 unfold VN at q;split at q
 ·rename_i dd cd sl ho;split at q
  ·rename_i C' bm k0 k1 k2 k3 n k5 hm hs;simp only[ZE,beq_iff_eq,kR] at q;obtain⟨rfl,rfl,hdel,ht,hi,hf⟩:=q;obtain⟨nm,bs,mro,ns,qn,hd,sn,sub,ab,col,del⟩:=cd;dsimp only at hm hdel;subst hm hdel;have hsl:sl=#[k0,k1,k2,k3,some (.builtin n),k5]:=by
    obtain⟨l⟩:=sl;simp only at hs;rw[hs]
   subst hsl;exact⟨⟨nm,qn,ns,bs,bm,hd,sn,sub,ab,col,dd,k0,k1,k2,k3,k5,X _ _ ho,PySem.W.tail_of_in X ht⟩,hi,hf⟩
  ·cases q
 ·cases q
theorem XCl.keeps {h h':Heap} {C:Addr} {bmB:List Value} {newId:String} (x:XCl h C bmB newId) (k:∀ b o,h.get? b=some o->h'.get? b=some o):XCl h' C bmB newId:=by
 obtain⟨nm,q,N,bs,bm,hdct,sn,sub,ab,col,dd,k0,k1,k2,k3,k5,hC,T⟩:=x;exact⟨nm,q,N,bs,bm,hdct,sn,sub,ab,col,dd,k0,k1,k2,k3,k5,k _ _ hC,T.keeps k⟩
section
variable {prog:Program} {w:World} {A:Around} {E:VP_} {h:Heap} {g:Array GenState} {d:Drawn} {t:Nat} {os:OsState} {C fI e:Addr} {rest bmB:List Value} {K:FG_} {B newId initId:String}
abbrev TF (C t:Addr):Obj:={ cls:=.ref C,data:=.fields #[.ref t,.none,.none,.none,.bool false,.none] }
theorem ab4 {Q:Fin->Shared->Prop} (F:ExcBaseFacts B newId initId bmB) (X:K.In h) (hx:VN K C fI bmB newId=true) (hr:rest.length<=sizeLine)
  (hq:∀ h',(∀ b o,h.get? b=some o->h'.get? b=some o)->h'.get? (h.objs.size+1)=some (TF C h.objs.size) →
   wpAny (model prog w) A (call (.ref fI) (.ref (h.objs.size+1)::rest)) (λr s'=>r=.none/\Q (.done (.ret (.ref (h.objs.size+1)))) s') E ⟨h',g,d,t,os⟩) :
  wpAny (model prog w) A (Builtin.«type.__call__» ⟨.ref C::rest,[]⟩) Q E ⟨h,g,d,t,os⟩:=by
 obtain⟨x,hi,hf⟩:=KQ X hx;obtain⟨nm,q,N,bs,bm,hdct,sn,sub,ab,col,dd,k0,k1,k2,k3,k5,hC,T⟩:=x
 repeat (first|with_reducible refine kP hC ?_|with_reducible refine wpAny_madeBy_exc hC ?_|wp_step)
 refine codeAny_call_builtin_code (Code.quiet_builtin _ F.quiet) (wpAny_check_new_subT F T hC ?_);refine codeAny_exc_new_subT F T hC ?_ hr;show wpAny _ _ _ _ _ _;have kp:∀ b o,h.get? b=some o->((h.push { cls:=.type "tuple", data:=.seq rest.toArray }).push (TF C h.objs.size)).get? b=some o:=λb o z=>zd _ (zd _ z);have hget:((h.push { cls:=.type "tuple", data:=.seq rest.toArray }).push (TF C h.objs.size)).get? (h.objs.size+1)=some (TF C h.objs.size):=by heap_get
 have hcC:(Value.ref C::bm).contains (.ref C)=true:=by simp
 unfold isInstance
 repeat (first|with_reducible refine kP hget ?_|(with_reducible refine wpAny_isSubtype_exc (kp _ _ hC) ?_;rw[hcC])|wp_step)
 show wpAny _ _ (typeLookup (.ref C) _) _ _ _;refine(looks_findIn (X.keeps kp) hi).at ?_;refine qV (zb ?_);unfold bindSpecial;obtain⟨oI,hfI,hfc⟩:∃ oI,h.get? fI=some oI/\oI.cls=.type "function" := by
  have this:(K.lookup fI).map (·.cls)=some (.type "function"):=beq_iff_eq.mp hf;obtain⟨o,ho,hc⟩:=Option.map_eq_some_iff.mp this;exact⟨o,X _ _ ho,hc⟩
 refine zb (jv (T := "function") ⟨_,kp _ _ hfI,hfc⟩ ?_);rw[zh (by decide)];refine ze (zb (ZN (hq _ kp hget) (λr s' hr=>?_) λ_ _ x=>x));obtain⟨rfl,hQ⟩:=hr
 wp_walk
 exact hQ
end
abbrev Wu (C t:Addr) (dx:Option Addr):Obj:={ cls:=.ref C,dict:=dx,data:=.fields #[.ref t,.none,.none,.none,.bool false,.none] }
section
variable {prog:Program} {w:World} {A:Around} {E:VP_} {h:Heap} {g:Array GenState} {d:Drawn} {t:Nat} {os:OsState} {C fI e:Addr} {rest bmB:List Value} {K:FG_} {B newId initId:String}
theorem afa {Q:VP_} (F:ExcBaseFacts B newId initId bmB) (X:K.In h) (hx:VN K C fI bmB newId=true) (hr:rest.length<=sizeLine)
  (hq:∀ h',(∀ b o,h.get? b=some o->h'.get? b=some o)->h'.get? (h.objs.size+1)=some (Wu C h.objs.size none) →
   wpAny (model prog w) (A.under (.builtin "type.__call__" ⟨.ref C::rest,[]⟩)) (call (.ref fI) (.ref (h.objs.size+1)::rest)) (λr s'=>r=.none/\Q (.ref (h.objs.size+1)) s') E ⟨h',g,d,t,os⟩) :
  wpAny (model prog w) A (call (.ref C) rest) Q E ⟨h,g,d,t,os⟩:=by
 obtain⟨nm,q,N,bs,bm,hdct,sn,sub,ab,col,dd,k0,k1,k2,k3,k5,hC,T⟩:=(KQ X hx).1;have f1:=tc_lookup;have f2:=tc_bind (.ref C);have hT:(⟨h,g,d,t,os⟩:Shared).TypeIs (.ref C) "type" := ⟨_,hC,rfl⟩;refine k7 (codeAny_of_tree ?_);show wpAny _ _ (callAny (.ref C) _) _ _ _
 repeat (any_goals (first|assumption|with_reducible refine kP hC ?_|wp_step))
 refine⟨rfl,?_⟩;exact codeAny_call_builtin_at (Code.quiet_builtin _ (by decide +kernel)) entry_typeCall (wpAny_check_type_call_sub hC (ab4 F X hx hr λh' k he=>hq h' k he))
theorem ab5 {M:Model} {s:Shared} {env:Env} {x:Sem Value} {Q:Flow->Shared->Prop} (hbase:bmB.contains (.type "BaseException")=true) (hh:A.handled=none)
  (hq:wpAny M A x (λv s1=>∃ e t dx,v=.ref e/\XCl s1.heap C bmB newId/\s1.heap.get? e=some (Wu C t dx)/\E (.ref e) s1) E s):wpAny M A (raiseStmt env (some x) none) Q E s:=by
 unfold raiseStmt;refine zb (ZN hq (λv s1 h1=>?_) λ_ _ z=>z);obtain⟨e,t,dx,rfl,⟨nm,q,N,bs,bm,hdct,sn,sub,ab,col,dd,k0,k1,k2,k3,k5,hC,T⟩,he,hE⟩:=h1;obtain⟨hp,g,d,tk,os⟩:=s1;dsimp only at hC he;have hcB:(Value.ref C::bm).contains (.type "BaseException")=true:=by rw[List.contains_cons,T.hasType hbase,Bool.or_true]
 repeat (first|with_reducible refine kP he ?_|with_reducible refine kP hC ?_|(with_reducible refine wpAny_isSubtype_exc hC ?_;rw[hcB])|wp_step)
 exact wpAny_raiseNew_none hh hE
theorem afb {Q:VP_} {t0:Addr} {dx:Option Addr} (F:ExcBaseFacts B newId initId bmB) (x:XCl h C bmB newId) (he:h.get? e=some (Wu C t0 dx)) (hr:rest.length<=sizeLine)
  (hq:∀ h' t1,(∀ b o,b≠e->h.get? b=some o->h'.get? b=some o)->h'.get? e=some (Wu C t1 dx)->h.objs.size<=t1->h'.objs.size=h.objs.size+1->Q .none ⟨h',g,d,t,os⟩) :
  wpAny (model prog w) A (call (.builtin initId) (.ref e::rest)) Q E ⟨h,g,d,t,os⟩:=by
 obtain⟨nm,q,N,bs,bm,hdct,sn,sub,ab,col,dd,k0,k1,k2,k3,k5,hC,T⟩:=x;refine k7 (Kn F.init.plain F.initEntry (wpAny_check_init_subT F T hC he rfl ?_))
 wp_walk
 refine hq _ h.objs.size (λb o hb z=>?_) ?_ (zi _) ?_
 ·rw[QQ _ _ (Q2 hb)];exact zd _ z
 ·rw[QA _ (zd _ he) rfl];rfl
 ·rw[Heap.size_after_update,ZT]
end
abbrev veM:List Value:=[.type "ValueError", .type "Exception", .type "BaseException", .type "object"]
theorem ab6 (self:Value):refuseLoop self "__setattr__" veM=pure ():=by kernel_rfl
def tZ:List Value->Bool
 |.ref _::r=>tZ r
 |l=>l==veM
theorem Gg (self:Value):∀ {l:List Value},tZ l=true->refuseLoop self "__setattr__" l=pure ()/\l.contains (.type "object")=true/\l.isEmpty=false
 |.ref c::r,e=>by
  have e':tZ r=true:=by unfold tZ at e;exact e
  obtain⟨a,b,_⟩:=Gg self (l:=r) e';exact⟨by rw[refuseLoop_ref];exact a,by rw[List.contains_cons,b,Bool.or_true],rfl⟩
 |[],e=>by cases e
 |.none::r,e=>by cases e
 |.bool _::r,e=>by cases e
 |.int _ _::r,e=>by cases e
 |.str _ _::r,e=>by cases e
 |.bytes _ _::r,e=>by cases e
 |.float _ _::r,e=>by cases e
 |.builtin _::r,e=>by cases e
 |.type n::r,e=>by
  have e':(.type n::r)=veM:=by unfold tZ at e;exact beq_iff_eq.mp e
  rw[e'];exact⟨ab6 self,by decide,rfl⟩
def setIn (K:FG_) (C:Addr) (name:Str):Bool:=
 (clsIn K C).any (λcd=>cd.hasDict&&tZ cd.mro)&&(findIn K (.ref C) "__setattr__" == some (some (.builtin "object.__setattr__"))&&findIn K (.ref C) name==some none)
section
variable {prog:Program} {w:World} {A:Around} {E:VP_} {h:Heap} {g:Array GenState} {d:Drawn} {t:Nat} {os:OsState} {C e:Addr} {K:FG_} {name:Str}
theorem ahe {Q:Unit->Shared->Prop} {t0:Addr} {v:Value} (X:K.In h) (hs:setIn K C name=true) (he:h.get? e=some (Wu C t0 none))
  (hq:∀ h' tk,(∀ b o,b≠e->h.get? b=some o->h'.get? b=some o)->h'.get? e=some (Wu C t0 (some h.objs.size))->h'.Ns1 h.objs.size (λy=>if y=name then some v else none)->Q () ⟨h',g,d,tk,os⟩) :
  wpAny (model prog w) A (setAttr (.ref e) name v) Q E ⟨h,g,d,t,os⟩:=by
 unfold setIn at hs;rw[ZE,ZE,beq_iff_eq,beq_iff_eq] at hs;obtain⟨h1,h2,h3⟩:=hs;obtain⟨cd,hc,hb⟩:∃ cd,clsIn K C=some cd/\(cd.hasDict&&tZ cd.mro)=true:=by
  cases q:clsIn K C with
  |none=>rw[q] at h1;cases h1
  |some cd=>rw[q] at h1;exact⟨cd,rfl,h1⟩
 rw[ZE] at hb;obtain⟨hd,hb⟩:=hb;obtain⟨p1,p2,p3⟩:=Gg (.ref e) hb;have I:PySem.W.InstAt h e (Wu C t0 none) C none:=⟨he,rfl,rfl,trivial⟩;refine PySem.W.set_plain (s:=⟨h,g,d,t,os⟩) X I h2 ?_;have SF:=PySem.F.store_object;have sub:PySem.W.Looks (model prog w) h (isInstance (.ref e) (.type "object")) true:=I.type.andThen (looks_mroIn X (by unfold mroIn;rw[hc,QN,zC (by rw[p3];decide),p2]));refine Kn SF.slot.plain SF.entry (@check_slot (model prog w) _ _ ⟨h,g,d,t+1,os⟩ "object.__setattr__" "object" "__setattr__" (.ref e) [.str name t,v] [] _ SF.kind SF.split sub (SF.args (.ref e) (.str name t) v) ?_);have hm:PySem.W.Looks (model prog w) h (mroOf (.ref C)) cd.mro:=(looks_clsIn X hc).andThen .now;rw[PySem.W.osa_eq,refuse_eq];refine zb (zb (I.type.at (zb (hm.at ?_))));rw[p1];refine ze (zb (I.type.at (zb ((looks_findIn X h3).at (zb (ze ?_))))));refine zb (ze (zb ?_));show wpAny _ _ (instanceDict e true) _ _ _;unfold instanceDict;refine zb (wpAny_loadPart he (zb ((looks_clsIn X hc).at ?_)));rw[hd];show wpAny _ _ (alloc { cls:=.type "dict", data:=.dict #[] } >>= λdx=>update e (λo=>{ o with dict:=some dx }) >>= λ_=>dictMade (.ref C) e dx) _ _ _;have hp:∀ b o,h.get? b=some o->(h.push { cls:=.type "dict", data:=.dict #[] }).get? b=some o:=λb o z=>zd _ z;have hne:h.objs.size≠e:=Q3 (zv he);have hd1:((h.push { cls:=.type "dict", data:=.dict #[] }).update e (λo=>{ o with dict:=some h.objs.size })).get? h.objs.size=some { cls:=.type "dict", data:=.dict #[] }:=by
  rw[QQ _ _ (Q2 hne)];exact zl _ rfl
 refine zb (wpAny_alloc (zb (wpAny_update (hp _ _ he) (ze ?_))));show wpAny _ _ (Builtin.ObjectAttr.storeInDict h.objs.size (.str name t) name v) _ _ _;unfold Builtin.ObjectAttr.storeInDict;refine zb (ze (zb ?_));have hn1:((h.push { cls:=.type "dict", data:=.dict #[] }).update e (λo=>{ o with dict:=some h.objs.size })).Ns1 h.objs.size (λ_=>none):=
  .of_empty ⟨_,#[],0,hd1,rfl,λx z=>by simp at z,λ_=>rfl⟩
 refine wpAny_nsSet1 hn1 λh' n1 sm=>?_;obtain⟨o,es,ep,ho,hd',hsz⟩:=n1.count (ns:=[name]) (Within.cons name v Within.nil);refine zb (wpAny_lookBehind ho (by rw[hd'];exact pastItsLine_dict (zI hsz (Nat.le_add_left _ _))) (ze ?_));refine hq h' _ (λb o hb z=>?_) ?_ n1
 ·rw[sm.2 b (Zl (zv z)),QQ _ _ (Q2 hb)];exact hp _ _ z
 ·rw[sm.2 e (Q2 hne),QA _ (hp _ _ he) rfl]
end
def xP (K:FG_) (C:Addr):Bool:=
 (clsIn K C).any (λcd=>cd.hasDict&&(!cd.mro.isEmpty&&(cd.mro.contains (.type "BaseException")&&cd.mro.contains (.type "object"))))&&(findIn K (.ref C) "__getattribute__" == some (some (.builtin "BaseException.__getattribute__")) &&
  (findIn K (.ref C) "__getattr__" == some none&&(findIn K (.ref C) "__class__" == some (some (.builtin "object.__class__")) &&
  (specialIn K (.builtin "object.__class__") "__get__" == some (some (.builtin "getset_descriptor.__get__"))&&takesIn K (.builtin "object.__class__")==some true))))
section
variable {prog:Program} {w:World} {A:Around} {E:VP_} {h:Heap} {g:Array GenState} {d:Drawn} {t:Nat} {os:OsState} {C e dx:Addr} {K:FG_} {name:Str} {v:Value} {vs:Array Value} {sl:Array (Option Value)} {m:Str->Option Value}
theorem VP {o:Obj} {es:Array DictEntry} {ep:Nat} (hd:o.data=.dict es ep) (hf:nsFind es name=some v):lookIn name o=some (some v):=by
 unfold lookIn;rw[hd];dsimp only;unfold nsFind findBy at hf;rw[<-KP] at hf;obtain⟨en,h1,h2⟩:=Option.map_eq_some_iff.mp hf;rw[h1];dsimp only;rw[h2]
structure ab7 (K:FG_) (C:Addr) (cd:ClassData):Prop where
 cls:clsIn K C=some cd
 dct:cd.hasDict=true
 ne:cd.mro.isEmpty=false
 be:cd.mro.contains (.type "BaseException")=true
 ob:cd.mro.contains (.type "object")=true
 ga:findIn K (.ref C) "__getattribute__" = some (some (.builtin "BaseException.__getattribute__"))
 hk:findIn K (.ref C) "__getattr__" = some none
 cl:findIn K (.ref C) "__class__" = some (some (.builtin "object.__class__"))
 gt:specialIn K (.builtin "object.__class__") "__get__" = some (some (.builtin "getset_descriptor.__get__"))
 tk:takesIn K (.builtin "object.__class__")=some true
theorem DY (hs:xP K C=true):∃ cd,ab7 K C cd:=by
 unfold xP at hs;simp only[ZE,beq_iff_eq] at hs;obtain⟨h1,h2,h3,h4,h5,h6⟩:=hs;cases q:clsIn K C with
 |none=>rw[q] at h1;cases h1
 |some cd=>
  rw[q] at h1;have h1:(cd.hasDict&&(!cd.mro.isEmpty&&(cd.mro.contains (.type "BaseException")&&cd.mro.contains (.type "object"))))=true:=h1;simp only[ZE,kR] at h1;exact⟨cd,⟨q,h1.1,h1.2.1,h1.2.2.1,h1.2.2.2,h2,h3,h4,h5,h6⟩⟩
theorem ab7.sub {cd:ClassData} (G:ab7 K C cd):mroIn K C (.type "object")=some true/\mroIn K C (.type "BaseException")=some true:=by
 unfold mroIn;rw[G.cls,QN,QN,zC (by rw[G.ne];decide),zC (by rw[G.ne];decide),G.ob,G.be];exact⟨rfl,rfl⟩
theorem YZ {cd:ClassData} {Q:VP_} {expr fill:Bool} {od:Obj} {tk:Tok} {fo:Builtin.ObjectAttr.Found} (X:K.In h) (G:ab7 K C cd) (I:PySem.W.InstAt h e ⟨.ref C,some dx,.fields vs,sl⟩ C (some od))
  (hfo:findObj K C (some od) name=some fo)
  (hq:wpAny (model prog w) A.in1 (match fo with|.value v=>ret v|.bind g a=>Builtin.ObjectAttr.bindTo g a (.ref e) (.ref C)|.missing=>unsupported "") (λfin s'=>match fin with|.done (.ret v)=>wpAny (model prog w) A (handedOut v) Q E s'|_=>False) (λ_ _=>False) ⟨h,g,d,t,os⟩)
  (hm:fo≠.missing):wpAny (model prog w) A (getAttrBy (.ref e) (.str name tk) fill expr) Q E ⟨h,g,d,t,os⟩:=by
 have hga:=looks_findIn (M:=model prog w) X G.ga;have hhk:PySem.W.Looks (model prog w) h (hookBefore (.ref C)) none:=PySem.W.looks_hook X (by rw[zh (by rfl)];exact G.hk);have sub:PySem.W.Looks (model prog w) h (isInstance (.ref e) (.type "BaseException")) true:=I.type.andThen (looks_mroIn X G.sub.2);unfold getAttrBy;refine qV (zb (I.type.at (zb (hga.at ?_))));have hx2:(Value.builtin "BaseException.__getattribute__" == Value.builtin "object.__getattribute__")=false:=by decide +kernel
 dsimp only;rw[zC (by rw[hx2,Bool.and_false];decide)];unfold getAttrByItsOwn;refine zb (hhk.at (zb (wpAny_attempt (qV ?_))));unfold callGetattribute;rw[zC (by cases expr<;>simp[onTheHeap])];unfold boundAndCalled;have SF:=PySem.F.attrBase_ValueError.ga;rw[SF.bind];refine zb (ze ?_);refine k7 (Kn SF.plain PySem.F.entry_bexc_ga (@check_slot (model prog w) _ _ ⟨h,g,d,t,os⟩ "BaseException.__getattribute__" "BaseException" "__getattribute__" (.ref e) [.str name tk] [] _ (by decide +kernel) (by decide +kernel) sub (PySem.F.args_bexc_ga (.ref e) (.str name tk)) ?_));have L1:=PySem.W.looks_find (M:=model prog w) X I hfo;refine zb (ze (zb (ze (zb (I.type.at (zb (L1.at ?_)))))));cases fo with
 |missing=>exact absurd rfl hm
 |value v=>
  refine ZN hq (λfin s' z=>?_) (λ_ _ z=>False.elim z);rcases fin with (_|_|_|_)|_<;>first|exact z|exact z.elim
 |bind g a=>
  refine ZN hq (λfin s' z=>?_) (λ_ _ z=>False.elim z);rcases fin with (_|_|_|_)|_<;>first|exact z|exact z.elim
theorem ahf {Q:VP_} {expr:Bool} (X:K.In h) (hs:xP K C=true) (hn:findIn K (.ref C) name=some none) (he:h.get? e=some ⟨.ref C,some dx,.fields vs,sl⟩) (hN:h.Ns1 dx m) (hm:m name=some v) (hv:handedIn v=true)
  (hq:Q v ⟨h,g,d,t+1,os⟩):wpAny (model prog w) A (getAttr (.ref e) name expr) Q E ⟨h,g,d,t,os⟩:=by
 obtain⟨cd,G⟩:=DY hs;obtain⟨od,es,ep,ho,hod,hk,hu,hf⟩:=hN;have I:PySem.W.InstAt h e ⟨.ref C,some dx,.fields vs,sl⟩ C (some od):=⟨he,rfl,rfl,ho⟩;have hfo:findObj K C (some od) name=some (.value v):=by
  unfold findObj PySem.W.ownOf;rw[G.cls,hn];simp only[QN,G.dct,Jn,VP hod ((hf name).trans hm)]
 unfold getAttr;refine zb (wpAny_mkText (YZ X G I hfo (ze ?_) (by intro z;cases z)));show wpAny _ _ (handedOut v) _ _ _;rw[PySem.W.handedOut_of hv];exact ze hq
def ExI (e C:Addr) (h:Heap):Prop:=∃ dx vs sl od,h.get? e=some ⟨.ref C,some dx,.fields vs,sl⟩/\h.get? dx=some od
theorem ahg (hs:xP K C=true):PySem.W.KitX K (.ref e) (.ref C) (ExI e C) where
 ty:=λM h X ⟨dx,vs,sl,od,he,ho⟩=>PySem.W.InstAt.type (od:=some od) ⟨he,rfl,rfl,ho⟩
 it:=λM h X _=>by
  obtain⟨cd,G⟩:=DY hs;have hcD:=G.cls;unfold clsIn at hcD;split at hcD
  ·rename_i c' d' cd' sl' ho;intro A' Q' E' s' k q;unfold isType loadHead;exact zb (wpAny_loadPart (k _ _ (X _ _ ho)) (ze q))
  ·cases hcD
 ne:=λh tp dd its n sl X htp=>by
  obtain⟨cd,G⟩:=DY hs;have hcD:=G.cls;refine Bool.eq_false_iff.mpr λq=>?_;have e:C=tp:=Value.ref.inj (beq_iff_eq.mp q);subst e;unfold clsIn at hcD;split at hcD
  ·rename_i c' d' cd' sl' ho;have z:=(X _ _ ho).symm.trans htp;cases z
  ·cases hcD
 ca:=λ{prog w A E Q s} X p k=>by
  obtain⟨cd,G⟩:=DY hs;obtain⟨dx,vs,sl,od,he,ho⟩:=p;obtain⟨h,g,d,t,os⟩:=s;have I:PySem.W.InstAt h e ⟨.ref C,some dx,.fields vs,sl⟩ C (some od):=⟨he,rfl,rfl,ho⟩;have hfo:findObj K C (some od) "__class__" = some (.bind (.builtin "getset_descriptor.__get__") (.builtin "object.__class__")):=PySem.W.findObj_data (by rw[G.cls];rfl) G.cl G.gt G.tk;unfold getAttr? getAttrBy?;refine zb (wpAny_mkText (zb (wpAny_attempt (YZ X G I hfo ?_ (by intro z;cases z)))));refine zb (qV (k7 (PySem.W.class_get (s:=⟨h,g,d,t+1,os⟩) (od:=some od) X I G.sub.1 (ze ?_))));exact PySem.W.handed_on rfl (ze k)
end
def Jw (e C:Addr) (dx:Option Addr):HO:=.ext λh=>∃ t,h.get? e=some (Wu C t dx)
theorem Rk {P:Program} {w:World} {H:Hp} {h:Heap} {e C t:Addr} {dx:Option Addr} (q:h.get? e=some (Wu C t dx)):fU P w H h e (Jw e C dx):=⟨⟨t,q⟩,⟨_,q⟩,λ_ _ ⟨t,p⟩ k=>⟨t,k _ p⟩⟩
section
variable {X:Cx} {pins:List (Addr×Obj)} {σ:L2.St} {H:Hp} {s:Shared} {C a:Addr} {o value:Expr} {ta tv:TE} {f:Str} {pos pos' p apos:Pos} {B newId initId:String} {bmB:List Value} {e:Expr} {es:List Expr} {t:TA} {x:Str}
theorem Rm {dx:Option Addr} (I:Inv X pins σ H s) (e:H a=some (Jw a C dx)):∃ t,s.heap.get? a=some (Wu C t dx):=(I.hok a _ e).1
theorem Inv.ab8 {h':Heap} {tk:Nat} {dx:Option Addr} (I:Inv X pins σ H s) (ea:H a=some (Jw a C dx)) (k:∀ b u,b≠a->s.heap.get? b=some u->h'.get? b=some u) {t1:Addr} (he:h'.get? a=some (Wu C t1 dx)) :
  Inv X pins σ H { s with heap:=h',toks:=tk }:=by
 have z:=I.write (t':=tk) (x:=a) (e:=a) (o:=Jw a C dx) (by rw[ea];trivial) (.inl rfl) k ⟨_,he⟩ (Rk he);have q:upd H a (Jw a C dx)=H:=by
  funext b;by_cases hb:b=a
  ·subst hb;rw[aV,ea]
  ·rw[aM hb]
 rwa [q] at z
theorem Inv.attr {h':Heap} {tk:Nat} {v:V} {u:Value} (I:Inv X pins σ H s) (ea:H a=some (Jw a C none)) (rv:RelV v u) (k:∀ b o,b≠a->s.heap.get? b=some o->h'.get? b=some o) {t1:Addr}
  (he:h'.get? a=some (Wu C t1 (some s.heap.objs.size))) (n1:h'.Ns1 s.heap.objs.size (λy=>if y=f then some u else none)) :
  Inv X pins σ (upd (upd H s.heap.objs.size (.xd [(f,v)])) a (Jw a C (some s.heap.objs.size))) { s with heap:=h',toks:=tk }:=by
 have hf:H s.heap.objs.size=none:=I.hok.fresh (zi _);have hla:a < s.heap.objs.size:=I.hok.lt ea;have hne:s.heap.objs.size≠a:=Q3 hla;have lt:∀ b u,s.heap.get? b=some u->b≠s.heap.objs.size:=λb u q=>Zl (zv q);have gu:∀ b,b≠a->b≠s.heap.objs.size->upd (upd H s.heap.objs.size (.xd [(f,v)])) a (Jw a C (some s.heap.objs.size)) b=H b:=λb h1 h2=>by rw[aM h1,aM h2]
 have na:∀ b w,H b=some w->(∀ φ,w≠.ext φ)->b≠a:=λb w q h z=>by subst z;rw[ea] at q;cases q;exact h _ rfl
 have nd:∀ b w,H b=some w->b≠s.heap.objs.size:=λb w q z=>by rw[z,hf] at q;cases q
 refine I.un (t':=tk) ⟨λb u q n _ _=>k b u (λz=>by subst z;rw[ea] at n;cases n) q,λb u q n _ _=>⟨u.slots,k b u (λz=>by subst z;rw[ea] at n;cases n) q⟩,
  λb u q n _=>?_,λb u q _=>?_,λb xs q=>?_,λb u xs q=>?_,λb ps q=>⟨#[],?_⟩⟩ (λb w q=>?_)
 ·rw[gu b (λz=>by subst z;rw[ea] at n;cases n) (lt b u q)];exact n
 ·by_cases hb:b=a
  ·subst hb;exact⟨_,he⟩
  ·exact⟨u,k b u hb q⟩
 ·rw[gu b (na b _ q λ_ z=>nomatch z) (nd b _ q)];exact q
 ·rw[gu b (na b _ q λ_ z=>nomatch z) (nd b _ q)];exact q
 ·rw[gu b (na b _ q λ_ z=>nomatch z) (nd b _ q),q];simp
 ·by_cases hb:b=a
  ·subst hb;rw[aV] at q;cases q;exact Rk he
  ·rw[aM hb] at q;by_cases hd:b=s.heap.objs.size
   ·subst hd;rw[aV] at q;cases q;refine⟨_,n1,λy=>?_⟩;by_cases hy:y=f
    ·subst hy;rw[zh rfl];simp only[List.lookup,beq_self_eq_true];exact rv
    ·rw[zC hy];have:(y==f)=false:=beq_eq_false_iff_ne.mpr hy;simp only[List.lookup,this];trivial
   ·rw[aM hd] at q;refine(I.hok b w q).stay (λc u hc z=>k c u ?_ z) (λc z=>?_) λc xs z=>?_
    ·rcases hc with hc|hc
     ·rw[hc];exact hb
     ·exact na c _ hc λ_ z=>nomatch z
    ·rw[gu c (na c _ z λ_ z=>nomatch z) (nd c _ z)];exact z
    ·rw[gu c (na c _ z λ_ z=>nomatch z) (nd c _ z)];exact z
def sEx (C:Addr) (ta tv:TE) (f:Str):TS:=λD σ H=>tv σ H λy H1=>ta σ H1 λx H2=>∃ a,x=.ref a/\H2 a=some (Jw a C none)/\∀ dx,H2 dx=none->dx≠a->D.nx σ (upd (upd H2 dx (.xd [(f,y)])) a (Jw a C (some dx)))
theorem ahh (hc:setIn X.K C f=true) (ha:PE X o ta) (hv:PE X value tv) (hs:swapsWith value (some (.Attribute o f pos')) pos.line X.env=pure false:=by rfl):PS X (.Assign [.Attribute o f pos'] value pos) (sEx C ta tv f):=by
 intro pins s σ H D I h;refine plainObj_wpAny_Assign_Attribute (gU (hv pins s σ H _ I h) λu s1 ⟨y,H1,I1,ry,q⟩=>gU (ha pins s1 σ H1 _ I1 q) λov s2 ⟨x,H2,I2,rx,a,ex,ea,q2⟩=>?_) hs;subst ex;obtain rfl:ov=Value.ref a:=rx;obtain⟨t0,ht⟩:=Rm I2 ea;have hf:H2 s2.heap.objs.size=none:=I2.hok.fresh (zi _);obtain⟨hh,g,d,tk,os⟩:=s2;refine ahe I2.HJ hc ht λh' tk' k he n1=>?_;exact⟨σ,_,Inv.attr (tk:=tk') I2 ea ry k he n1,q2 _ hf (Q3 (I2.hok.lt ea))⟩
def tBI (C:Addr) (t:TA):TE:=λσ H Q=>t σ H λvs H1=>∃ a v,vs=[.ref a,v]/\H1 a=some (Jw a C none)/\Q .non H1
def TJ (K:FG_) (FE:Addr) (initId:String):Prop:=
 specialIn K (.ref FE) "__getattribute__" = some (some (.builtin "type.__getattribute__"))/\PySem.W.readsIn K FE (.type "type")=true/\PySem.W.findCls K (.ref FE) (.type "type") "__init__" = some (.val (.builtin initId))
theorem Y0 {pl:Sem Bool} {FE fI:Addr} (F:ExcBaseFacts B newId initId bmB) (hx:VN X.K C fI bmB newId=true) (hg:Gl X x) (hm:X.mg x=some (.ref FE)) (hb:TJ X.K FE initId) (hh:handedIn (.builtin initId)=true) (ha:PA X (e::es) t)
  (hdb:(x==("__debug__" : Str))=false:=by decide) (he:starEach (e::es) X.env=(false,eval e X.env)::starEach es X.env:=by rfl) (hpl:(backTo pos (starEach es X.env)).any (·.1)=false:=by rfl)
  (ht:eval (.Call (.Attribute (.Name x p) "__init__" apos) (e::es) [] pos) X.env=(do
   let ov <-eval (.Name x p) X.env
   standAt apos.atName
   let (f,first) <-holding [ov] (getMethod ov "__init__" pl)
   callWith pos f first (backTo pos (starEach (e::es) X.env)) (backToKw pos (keywordEach [] X.env))):=by rfl) :
  PE X (.Call (.Attribute (.Name x p) "__init__" apos) (e::es) [] pos) (tBI C t):=by
 intro pins s σ H Q I h;refine PySem.W.methodCall_KW (pl:=pl) (yH I hg hm ?_ hdb) ht;refine PySem.W.method_cls I.HJ hb.1 (PySem.W.cls_value I.HJ hb.2.1 hb.2.2 hh ?_);refine PyProof.Rows.callWith_builtin1 (gU (ha pos pins _ σ H _ (I.tok (s.toks+1)) h) λus s1 ⟨vs,H1,I1,r1,a,v,ev,ea,q⟩=>?_) he hpl;subst ev;cases r1 with
 |cons ra r1=>
  cases r1 with
  |cons rv r1=>
   cases r1;obtain rfl:=ra;obtain⟨t0,h0⟩:=Rm I1 ea;have x1:=(KQ I1.HJ hx).1;obtain⟨hh',g,d,tk,os⟩:=s1;refine afb F x1 h0 (show 1<=sizeLine by decide +kernel) λh' t1 k he _ _=>?_;exact⟨.non,H1,Inv.ab8 (tk:=tk) I1 ea k he,rfl,q⟩
end
def qI (H:Hp) (a:Addr):Hp:=λb=>if b=a then none else H b
section
variable {X:Cx} {pins:List (Addr×Obj)} {σ:L2.St} {H:Hp} {s:Shared} {C a:Addr} {f:Str} {pos cpos p:Pos} {B newId initId:String} {bmB:List Value} {e:Expr} {x:Str} {te:TE}
theorem Inv.ab9 {φ:Heap->Prop} (I:Inv X pins σ H s) (ea:H a=some (.ext φ)):Inv X [] σ (qI H a) s:=by
 have dn:∀ b,H b=none->qI H a b=none:=λb q=>by unfold qI;split<;>first|rfl|exact q
 have ds:∀ b u,H b=some u->(∀ ψ,u≠.ext ψ)->qI H a b=some u:=λb u q n=>by
  unfold qI;rw[zC (λz=>by subst z;rw[ea] at q;cases q;exact n _ rfl)];exact q
 refine⟨I.ok,I.os,I.bare,⟨I.base.keep,I.base.slot,λb o e n x=>dn b (I.base.free b o e n x),I.base.there,λb xs q=>ds b _ (I.base.tups b xs q) (λ_ z=>nomatch z),λb o u q=>ds b _ (I.base.rQ b o u q) (λ_ z=>nomatch z),λb ps q=>?_⟩,
  I.loc,I.cell,dn _ I.free,λy c q=>dn _ (I.jP y c q),λp hp=>?_,λb u q=>?_,I.len⟩
 ·obtain⟨more,z⟩:=I.base.uN b ps q;exact⟨more,ds b _ z λ_ z=>nomatch z⟩
 ·obtain⟨z1,z2,z3⟩:=I.pin p (by rcases List.mem_append.mp hp with z|z;exact JS _ z;cases z);exact⟨z1,dn _ z2,z3⟩
 ·have hb:H b=some u:=by
   unfold qI at q;split at q
   ·cases q
   ·exact q
  exact(I.hok b u hb).stay (λ_ _ _ z=>z) (λc z=>ds c _ z λ_ z=>nomatch z) λc xs z=>ds c _ z λ_ z=>nomatch z
def spI (C:Addr) (f:Str) (ok:V->Prop):Sp:=λvs H Q _=>∃ a v,vs=[.ref a,v]/\ok v/\H a=some (Jw a C none)/\∀ H1 dx,Same H H1->H1 dx=none->dx≠a->Q .non (upd (upd H1 dx (.xd [(f,v)])) a (Jw a C (some dx)))
def tRz (C:Addr) (f:Str) (ok:V->Prop) (E:XK) (t:TA):TS:=λ_ σ H=>t σ H λvs H1=>∃ v,vs=[v]/\ok v/\∀ H2 dx,Same H1 H2->H2 dx=none->E (.ref C) (some dx) (upd H2 dx (.xd [(f,v)]))
theorem ahi {k:Nat} {fI:Addr} {fd:FuncData} {ps:LS_} {E:XK} {es:List Expr} {t:TA} {ok:V->Prop} (Fe:ExcBaseFacts B newId initId bmB) (hx:VN X.K C fI bmB newId=true) (hbase:bmB.contains (.type "BaseException")=true) (hk:keepIn X.K (.ref C)=true)
  (F:eZ X.prog X.w X.K X.mg X.base xq k fI fd ps (spI C f ok)) (hb:Binds X.K fd ps []) (hr:gW (k+1) X.A) (hg:Gl X x) (hm:X.mg x=some (.ref C)) (TQ:∀ e s,RX X E e s->X.xe e s) (ha:PA X (e::es) t)
  (hdb:(x==("__debug__" : Str))=false:=by decide) (hs:starEach (e::es) X.env=(false,eval e X.env)::starEach es X.env:=by rfl) (hpl:(backTo cpos (starEach es X.env)).any (·.1)=false:=by rfl) :
  PS X (.Raise (some (.Call (.Name x p) (e::es) [] cpos)) none pos) (tRz C f ok E t):=by
 intro pins s σ H D I h;rw[arm_exec_Raise];refine zb (Ki (ab5 (C:=C) (bmB:=bmB) (newId:=newId) hbase hr.hd (zb (ZN ?_ (λv s3 h3=>zb (Ki (ze h3))) λ_ _ x=>x))));refine kl (yH I hg hm ?_ hdb);refine callWith_K (h₀:=X.base) I.ok.mod.kin hk (gU (ha cpos pins s σ H _ I h) λus s1 ⟨vs,H1,I1,r,v,ev,hok,q⟩=>⟨I1.HJ,?_⟩) hs hpl;subst ev;have hl:us.length=1:=r.length.symm;have hf:H1 (s1.heap.objs.size+1)=none:=I1.hok.fresh (ki _);have mi:zj X H1 (s1.heap.objs.size+1):=zj.new (I1.Dh (WL:=[]) λ_ z=>nomatch z) (ki _);obtain⟨hh,g,d,tk,os⟩:=s1;refine afa Fe I1.HJ hx (by rw[QY,hl];decide +kernel) λh' k' he=>?_;have I2:Inv X pins σ (upd H1 (hh.objs.size+1) (Jw (hh.objs.size+1) C none)) ⟨h',g,d,tk,os⟩:=I1.laid (t':=tk) k' (ki _) (Rk he);have r2:Vals [V.ref (hh.objs.size+1),v] (Value.ref (hh.objs.size+1)::us):=.cons rfl r;have hps:ps.length=2:=(F.len [V.ref (hh.objs.size+1),v] (upd H1 (hh.objs.size+1) (Jw (hh.objs.size+1) C none)) (λ_ _=>True) E0 ⟨_,_,rfl,hok,aV,λ_ _ _ _ _=>trivial⟩).symm;rw[QY];refine k7 (ku (F.run _ X.stack _ _ ⟨Value.ref (hh.objs.size+1)::us,[]⟩ (Value.ref (hh.objs.size+1)::us) _ (λy H3=>y=.non/\∃ H4 dx,Same (upd H1 (hh.objs.size+1) (Jw (hh.objs.size+1) C none)) H4/\H4 dx=none/\dx≠hh.objs.size+1/\H3=upd (upd H4 dx (.xd [(f,v)])) (hh.objs.size+1) (Jw (hh.objs.size+1) C (some dx))) E0 (hr.make C us [])
  (I2.env0.make C us []) (by have:=hb ⟨h',g,d,tk,os⟩ (Value.ref (hh.objs.size+1)::us) I2.HJ (by rw[qA,Zp,hl,hps]);rwa [qA] at this) r2
  ⟨_,_,rfl,hok,aV,λH4 dx s4 hd hne=>⟨rfl,H4,dx,s4,hd,hne,rfl⟩⟩) λr s' hq'=>?_)
 cases r with
 |error e=>exact False.elim hq'
 |ok fl=>
  cases fl with
  |next=>exact False.elim hq'
  |brk=>exact False.elim hq'
  |cont=>exact False.elim hq'
  |ret u=>
   obtain⟨y,H3,I3,ry,ey,H4,dx,s4,hd,hne,eH⟩:=I2.after hq';subst ey eH;obtain rfl:u=Value.none:=ry;refine⟨rfl,hh.objs.size+1,?_⟩;have ea:(upd (upd H4 dx (.xd [(f,v)])) (hh.objs.size+1) (Jw (hh.objs.size+1) C (some dx))) (hh.objs.size+1)=some (Jw (hh.objs.size+1) C (some dx)):=aV;obtain⟨t1,h1⟩:=Rm I3 ea;have eH:qI (upd (upd H4 dx (.xd [(f,v)])) (hh.objs.size+1) (Jw (hh.objs.size+1) C (some dx))) (hh.objs.size+1)=upd (qI H4 (hh.objs.size+1)) dx (.xd [(f,v)]):=by
    funext b;unfold qI;by_cases hb:b=hh.objs.size+1
    ·rw[zh hb,hb,aM (Q2 hne),zh rfl]
    ·rw[zC hb,aM hb];by_cases hb':b=dx
     ·rw[hb',aV,aV]
     ·rw[aM hb',aM hb',zC hb]
   have J:=Inv.ab9 I3 ea;rw[eH] at J;have sm:Same H1 (qI H4 (hh.objs.size+1)):=λb o eb=>by
    have hb:b≠hh.objs.size+1:=λz=>by rw[z,hf] at eb;cases eb
    unfold qI;rw[zC hb];exact s4 b o (by rw[aM hb];exact eb)
   have hd':qI H4 (hh.objs.size+1) dx=none:=by unfold qI;rw[zC hne];exact hd
   refine⟨t1,some dx,rfl,(KQ I3.HJ hx).1,h1,TQ _ _ ⟨hh.objs.size+1,.ref C,some dx,σ,_,rfl,J,⟨by rw[aM (Q2 hne)];unfold qI;rw[zh rfl],mi.ab,mi.nl,mi.nc⟩,.inl ⟨_,_,h1,rfl⟩,q _ _ sm hd'⟩⟩
end
theorem Ol {name x:Str} (hx:x≠name):∀ (l:List DictEntry) (i:Nat),l.findIdx? (λe=>e.key.isStr name)=some i->(l.eraseIdx i).find? (λe=>e.key.isStr x)=l.find? (λe=>e.key.isStr x)
 |[],i,hi=>by simp at hi
 |e::l,i,hi=>by
  rw[List.findIdx?_cons] at hi;by_cases he:e.key.isStr name=true
  ·simp only[he,Jn,Option.some.injEq] at hi;subst hi;have:e.key.isStr x=false:=by
    cases hh:e.key.isStr x
    ·rfl
    ·exact absurd (Value.isStr_inj _ _ _ hh he) hx
   rw[List.eraseIdx_zero,List.tail_cons,js,this]
  ·have he':e.key.isStr name=false:=by simpa using he
   simp only[he',Zs,Qb] at hi;cases hj:l.findIdx? (λe=>e.key.isStr name) with
   |none=>simp[hj] at hi
   |some j=>
    simp only[hj,Option.map_some,Option.some.injEq] at hi;subst hi;rw[List.eraseIdx_cons_succ,js,js];cases e.key.isStr x with
    |false=>exact Ol hx l j hj
    |true=>rfl
section
variable {M:Model} {A:Around} {E:VP_} {s:Shared}
theorem afd {a:Addr} {m:Str->Option Value} {name:Str} {v:Value} {Q:Bool->Shared->Prop} (hn:s.heap.Ns a m) (hv:m name=some v)
  (hQ:∀ h' m',h'.Ns a m'->(∀ x,x≠name->m' x=m x)->Heap.SameBut a s.heap h'->Q true { s with heap:=h' }):wpAny M A (nsDel a name) Q E s:=by
 obtain⟨o,es,ep,ho,hd,hk,hm⟩:=id hn;have hany:es.any (·.refKey)=false:=by
  rw[Array.any_eq_false'];intro e he;obtain⟨n,t,h⟩:=hk e he;simp[DictEntry.refKey,h]
 have hin:es.any (·.key.isStr name)=true:=by
  have h1:=(hm name).trans hv;unfold nsFind findBy at h1;obtain⟨en,h2,_⟩:=Option.map_eq_some_iff.mp h1;rw[Array.any_eq_true'];exact⟨en,Array.mem_of_find?_eq_some h2,by have:=Array.find?_some h2;exact this⟩
 have hhas:nsHas name o=pure true:=by
  rw[nsHas_eq];unfold nsHasByArray;rw[hd];show(if(es.any λx=>x.key.isStr name)=true then _ else _)=_;rw[zh hin]
 unfold nsDel;refine zb (wpAny_loadPart ho ?_);rw[hhas];refine zb (ze ?_);rw[zh rfl];refine zb (wpAny_updatePart ho (ze ?_));obtain⟨cl,d,dt,sl⟩:=o;subst hd;cases hi:es.findIdx? (·.key.isStr name) with
 |none=>
  exfalso;obtain⟨i,hi',hp⟩:=Array.any_eq_true.mp hin;have:=Array.findIdx?_eq_none_iff.mp hi es[i] (Array.getElem_mem hi');rw[this] at hp;cases hp
 |some i=>
  refine hQ _ (nsFind (es.eraseIdxIfInBounds i)) ⟨_,_,ep+1,QA _ ho (by simp only[Obj.dropName_eq,Obj.dropNameByArray,hi]<;>rfl),(by simp only[Obj.dropName_eq,Obj.dropNameByArray,hi]<;>rfl),hk.erase i,λ_=>rfl⟩ (λx hx=>?_) (KI ..);rw[<-hm x];unfold nsFind findBy;rw[<-KP,<-KP,Array.toList_eraseIdxIfInBounds,Ol hx es.toList i (by rw[<-hi];obtain⟨l⟩:=es;simp)]
end
section
variable {X:Cx} {pins:List (Addr×Obj)} {σ:L2.St} {H:Hp} {s:Shared}
theorem afe {M:Model} {A:Around} {E:VP_} {i:Nat} {x:Str} {v:V} {Q:Unit->Shared->Prop} (I:Inv X pins σ H s) (hN:X.N.Nodup) (hi:X.N[i]?=some x) (hx:X.env.scope.names.lookup x=some .local) (hv:σ[i]?=some (some v))
  (h:∀ s',Inv X pins (σ.set i none) H s'->Q () s'):wpAny M A (deleteName X.env x) Q E s:=by
 obtain⟨m,hn,hl⟩:=id I.loc;obtain⟨u,ru,lk⟩:=hl i x v hi hv (.inl hx);have hk:X.env.kindOf x=some .local:=hx;have hm:m x=some u:=by
  rcases lk with⟨_,q⟩|⟨q,_⟩
  ·exact q
  ·rw[hk] at q;rcases q with q|q<;>cases q
 have go:∀ h' m',h'.Ns X.env.locals m'->(∀ y,y≠x->m' y=m y)->Heap.SameBut X.env.locals s.heap h'->Q () { s with heap:=h' }:=λh' m' n' sm sb=>by
  refine h _ ?_;have nl:∀ b o,X.s₀.heap.get? b=some o->b≠X.env.locals:=λb o e=>Zl (ZH (zv e) I.ok.above);have tr:∀ b w,H b=some w->b≠X.env.locals:=λb w q z=>by rw[z,I.free] at q;cases q
  refine⟨I.ok,I.os,I.bare,⟨λb o e n f y=>(sb.2 b (nl b o e)).trans (I.base.keep b o e n f y),λb o e n f y=>?_,I.base.free,λb o e y=>?_,I.base.tups,I.base.rQ,I.base.uN⟩,
   ⟨m',n',λj y v' h1 h2 h3=>?_⟩,λy c e=>?_,I.free,I.jP,λp hp=>?_,λb w q=>?_,by rw[qq];exact I.len⟩
  ·obtain⟨sl,q⟩:=I.base.slot b o e n f y;exact⟨sl,(sb.2 b (nl b o e)).trans q⟩
  ·obtain⟨o',q⟩:=I.base.there b o e y;exact⟨o',(sb.2 b (nl b o e)).trans q⟩
  ·have hj:j≠i:=λz=>by
    subst z;rw[kQ] at h2;split at h2
    ·split at h2<;>cases h2
    ·rename_i z;exact z rfl
   rw[Kx (Q2 hj)] at h2;obtain⟨u',r',lk'⟩:=hl j y v' h1 h2 h3;refine⟨u',r',?_⟩;rcases lk' with⟨k1,k2⟩|⟨k1,c,k2,k3⟩
   ·exact .inl ⟨k1,by rw[sm y (λz=>hj (Eh hN (z▸h1) hi))];exact k2⟩
   ·refine .inr ⟨k1,c,k2,?_⟩;have:=I.cne y c k2;unfold Heap.IsCell at k3 ⊢;rw[sb.2 c this];exact k3
  ·obtain⟨v',q⟩:=I.cell y c e;refine⟨v',?_⟩;unfold Heap.IsCell at q ⊢;rw[sb.2 c (I.cne y c e)];exact q
  ·obtain⟨q1,q2,q3,q4⟩:=I.pin p hp;exact⟨(sb.2 _ q3).trans q1,q2,q3,q4⟩
  ·refine(I.hok b w q).stay (λc u hc z=>(sb.2 c ?_).trans z) (λ_ z=>z) λ_ _ z=>z;rcases hc with hc|hc
   ·rw[hc];exact tr b w q
   ·exact tr c _ hc
 unfold deleteName;rw[hk];dsimp only;rw[I.ok.kind,zC (by rw[show(ScopeKind.function==ScopeKind.class)=false from rfl,show(ScopeKind.function==ScopeKind.module)=false from rfl];simp)];refine zb (afd hn hm λh' m' n' sm sb=>?_);exact ze (go h' m' n' sm sb)
end
section
variable {X:Cx} {pins:List (Addr×Obj)} {σ:L2.St} {H:Hp} {s:Shared} {E:XK}
theorem RX.jK {Ex:VP_} {e:Value} (h:RX (X.wish Ex) E e s):RX X E e s:=by
 obtain⟨a,C,dx,σ,H,r,I,m,x,q⟩:=h;refine⟨a,C,dx,σ,H,r,I.jK,⟨m.un,m.ab,m.nl,m.nc⟩,?_,q⟩;rcases x with x|⟨T,mT,x⟩
 ·exact .inl x
 ·exact .inr ⟨T,⟨mT.un,mT.ab,mT.nl,mT.nc⟩,x⟩
theorem zU.mono {st:List Stmt} {t:TS} {E1:VP_} (h:zU (X.wish E1) st t) (k:∀ e s,E1 e s->X.xe e s):zU X st t:=λpins s σ H D I hw=>
 ZN (h pins s σ H D (I.wish _) hw) (λ_ _ q=>q.jK) k
theorem PA.Mj {es:List Expr} {t:TA} (h:PA X.Mj es t):PA X es t:=λpos pins s σ H Q I hw=>
 ZN (h pos pins s σ H Q (I.wish _) hw) (λ_ _ ⟨v,H',I',r,q⟩=>⟨v,H',I'.jK,r,q⟩) λ_ _ z=>False.elim z
end
theorem HD.okX {P:Program} {w:World} {K:FG_} {mg:Str->Option Value} {base:Heap} {x qual:Str} {st:Stmt} {f:Addr} {fd:FuncData} {N ps:LS_} {k:Nat} {sp:Sp} (F:HD K x qual st f fd) (S:bw N ps (aF st)) (len:∀ vs H Q E,sp vs H Q E->vs.length=ps.length)
  (hbody:∀ (cdv:Value) (A:Around) (outer:List Env) (s:Shared) (H:Hp) (vs:List V) (Q:VK) (E:XK),gW k (A.deeper (envOfC qual (aF st) s.heap.objs.size f cdv))->sp vs H Q E →
   ∃ t,zU ((wY (Oj P w) P w K mg base N qual (aF st) f cdv A outer s H E).wish (RX (wY (Oj P w) P w K mg base N qual (aF st) f cdv A outer s H E) E)) (f9 st) t/\t { nx:=λ_ H'=>Q .non H',rt:=Q } (start N vs) H):eZ P w K mg base (Oj P w) (k+1) f fd ps sp:=by
 obtain⟨oc,od,kV,doc,pm,an,cdv,ct,osl,rfl,lk,hcd⟩:=F.ex;refine acO lk hcd S len λA outer s H vs Q E hr hsp=>?_;obtain⟨t,h,q⟩:=hbody cdv A outer s H vs Q E hr hsp;exact⟨t,zU.mono h λe s' hx=>YX rfl rfl rfl rfl hx,q⟩
theorem eZ.or {P:Program} {w:World} {K:FG_} {mg:Str->Option Value} {base:Heap} {CX:Qi} {k:Nat} {f:Addr} {fd:FuncData} {ps:LS_} {sp sp':Sp} (F:eZ P w K mg base xq k f fd ps sp) (G:eZ P w K mg base CX k f fd ps sp') :
  eZ P w K mg base CX k f fd ps (λvs H Q E=>sp vs H Q E\/sp' vs H Q E):=
 ⟨λvs H Q E h=>h.elim (F.len vs H Q E) (G.len vs H Q E),λA outer s H args us vs Q E hr he hb hv hs=>by
  rcases hs with hs|hs
  ·refine ku (F.run A outer s H args us vs Q E hr he hb hv hs) λr s' q=>?_;cases r with
   |error e=>exact False.elim q
   |ok fl=>cases fl<;>exact q
  ·exact G.run A outer s H args us vs Q E hr he hb hv hs⟩
def Y4 (a C dx:Addr):HO:=.ext λh=>∃ vs sl,h.get? a=some ⟨.ref C,some dx,.fields vs,sl⟩
theorem afg {P:Program} {w:World} {H:Hp} {h:Heap} {a C dx:Addr} {vs:Array Value} {sl:Array (Option Value)} (q:h.get? a=some ⟨.ref C,some dx,.fields vs,sl⟩):fU P w H h a (Y4 a C dx):=
 ⟨⟨vs,sl,q⟩,⟨_,q⟩,λ_ _ ⟨vs,sl,p⟩ k=>⟨vs,sl,k _ p⟩⟩
theorem ace {P:Program} {w:World} {H:Hp} {h h':Heap} {S ch:List Addr} (ok:uT P w H h) (c:KN S ch h h') (hc:∀ b∈ch,H b=none) (hS:∀ b∈S,H b=none):uT P w H h':=λb u e=>by
 have ne:∀ (d:Addr) (w:HO),H d=some w->d∉ch/\d∉S:=λd w q=>⟨λz=>(by rw[hc d z] at q;cases q),λz=>(by rw[hS d z] at q;cases q)⟩;refine(ok b u e).stay (λd v hd q=>?_) (λ_ q=>q) λ_ _ q=>q;rcases hd with z|z
 ·subst z;exact c.keep _ _ q (ne _ _ e).1 (ne _ _ e).2
 ·exact c.keep _ _ q (ne _ _ z).1 (ne _ _ z).2
theorem acf {P:Program} {w:World} {H:Hp} {h:Heap} {a:Addr} {o:HO} (ok:uT P w H h) (na:H a=none) (new:fU P w (upd H a o) h a o):uT P w (upd H a o) h:=λb u e=>by
 by_cases hb:b=a
 ·subst hb;rw[aV] at e;cases e;exact new
 ·rw[aM hb] at e;exact(ok b u e).stay (λ_ _ _ q=>q) (λc q=>by rw[aM (bF q na)];exact q) λc xs q=>by rw[aM (bF q na)];exact q
theorem afh {fs:List Addr} {H H':Hp} {h h':Heap} {a:Addr} {o:HO} (u:Un fs [] H H' h h') (na:H' a=none) (ha:h.get? a=none):Un fs [] H (upd H' a o) h h':=
 ⟨u.keep,u.slot,λb ob e n x=>by rw[aM (λz=>by rw[z,ha] at e;cases e)];exact u.free b ob e n x,u.there,λb xs q=>by rw[aM (bF (u.tups b xs q) na)];exact u.tups b xs q,
  λb ob xs q=>by rw[aM (bF (u.rQ b ob xs q) na)];exact u.rQ b ob xs q,λb ps q=>by
   obtain⟨m,z⟩:=u.uN b ps q;exact⟨m,by rw[aM (bF z na)];exact z⟩⟩
abbrev Cx.inX (X:Cx) (a:Addr):Cx:={ X with A:=X.A.mark (some (.ref a)),calm:=false,xe:=λ_ _=>False }
section
variable {X:Cx} {pins:List (Addr×Obj)} {σ:L2.St} {H:Hp} {s:Shared} {a:Addr}
theorem Inv.inX (I:Inv X pins σ H s):Inv (Cx.inX X a) pins σ H s:=
 ⟨⟨I.ok.mod,I.ok.kind,I.ok.glob,I.ok.blt,I.ok.above,I.ok.inj,I.ok.has,I.ok.cab,λz=>(by cases z),I.ok.frames,I.ok.stk,I.ok.exf,I.ok.bs,I.ok.Wn,I.ok.Uo,I.ok.WK,I.ok.wX,I.ok.frf⟩,I.os,I.bare,I.base,I.loc,I.cell,I.free,I.jP,I.pin,I.hok,I.len⟩
theorem Inv.ajx (ok:X.Ok) (I:Inv (Cx.inX X a) pins σ H s):Inv X pins σ H s:=⟨ok,I.os,I.bare,I.base,I.loc,I.cell,I.free,I.jP,I.pin,I.hok,I.len⟩
def XT (X:Cx) (C:Addr) (iv:Nat) (ts:TS) (D:Ends) (σ:L2.St):XK:=λCv dx H2=>Cv=.ref C/\∃ d,dx=some d/\∀ a,H2 a=none →
 ts { nx:=λσ' H'=>D.nx (σ'.set iv none) H',rt:=D.rt } (σ.set iv (some (.ref a))) (upd H2 a (Y4 a C d))
theorem Rn {C Cn:Addr} {iv:Nat} {n cn:Str} {np hp:Pos} {b0:Stmt} {suite:List Stmt} {ts:TS} {D:Ends} {H1:Hp} {s1 s':Shared} {e:Value} (hst:X.stack=X.env::X.outer) (hf:X.env.frame=some X.env.locals) (hN:X.N.Nodup)
  (hi:X.N[iv]?=some n) (hl:X.env.scope.names.lookup n=some .local) (hg:Gl X cn) (hm:X.mg cn=some (.ref Cn)) (hx:exmOne X.K (.ref C) (.ref Cn)=some true) (hs:∀ a,zU (Cx.inX X a) (b0::suite) ts)
  (I1:Inv X pins σ H1 s1) (hq:Oj X.prog X.w X.stack H1 s1 (XT X C iv ts D σ) e s') (hdb:(cn==("__debug__" : Str))=false:=by decide) :
  wpAny (model X.prog X.w) X.A (noteFrame e X.env) (λ_ s2=>wpAny (model X.prog X.w) X.A (setFlight e none) (λ_ s3=>wpAny (model X.prog X.w) X.A (handleBy e X.env [.ExceptHandler (some (.Name cn np)) (some n) (b0::suite) hp]) (SP X pins D) X.xe s3) X.xe s2) X.xe s':=by
 obtain⟨a,Cv,dx,H2,T,rfl,os,bare,un,hok,ha,hT,na,nT,ex,rfl,d,rfl,hE⟩:=hq;have J0:Inv X pins σ H2 s':=I1.call' (ch:=[]) os un hok bare λ_ z=>nomatch z;have fr:=J0.stack;rw[hst] at fr;have old:∀ b,s'.heap.objs.size<=b->s1.heap.get? b=none:=λb z=>by
  cases q:s1.heap.get? b with
  |none=>rfl
  |some o=>
   obtain⟨o',q'⟩:=un.there b o q (λz=>nomatch z);exact absurd (zv q') (Nat.not_lt.mpr z)
 have oa:s1.heap.get? a=none:=Heap.get?_none_of_le ha;have mk:∀ (h:Heap) (ch:List Addr) (tk:Nat),KN (frs X.stack) ch s'.heap h->(∀ b∈ch,s1.heap.get? b=none/\H2 b=none)->(∃ vs sl,h.get? a=some ⟨.ref C,some d,.fields vs,sl⟩)->Inv X pins σ (upd H2 a (Y4 a C d)) { s' with heap:=h,toks:=tk }:=λh ch tk c hc he=>by
  obtain⟨vs,sl,he⟩:=he;refine I1.call' (ch:=[]) (s':={ s' with heap:=h,toks:=tk }) os (afh (ae9 un c λb z=>(hc b z).1) na oa) ?_ bare λ_ z=>nomatch z;exact acf (ace hok c (λb z=>(hc b z).2) J0.Dg) na (afg he)
 refine Tw (base:=X.base) (hst▸I1.ok.frames) fr hf ex λh4 T' z c4 x4=>?_;rw[<-hst] at c4;refine tY (s:={ s' with heap:=h4 }) none x4 λh5 c5 x5=>?_;have nT':H2 T'=none:=hok.fresh z;have c45:=c4.trans (c5.mono (S':=frs X.stack) (c2:=[T']) (λ_ z=>z) λ_ z=>nomatch z);have cc:∀ b∈[T,a]++[T'],s1.heap.get? b=none/\H2 b=none:=λb hb=>by
  simp only[List.mem_append,qv,qr,or_false] at hb;rcases hb with (rfl|rfl)|rfl
  ·exact⟨Heap.get?_none_of_le hT,nT⟩
  ·exact⟨oa,na⟩
  ·exact⟨old _ z,nT'⟩
 have at5:∃ vs sl,h5.get? a=some ⟨.ref C,some d,.fields vs,sl⟩:=by
  obtain⟨vs,sl,_,_,q,_⟩:=x5;exact⟨vs,sl,q⟩
 have I5:=mk h5 _ s'.toks c45 cc at5;have LT:PySem.W.Looks (model X.prog X.w) h5 (typeOf (.ref a)) (.ref C):=by
  obtain⟨vs,sl,q⟩:=at5;exact(PySem.W.Looks.ld q).andThen .now
 refine wpAny_handleBy_cons (codeAny_handlers_test (yH (X:=Cx.inX X a) (Inv.inX I5) hg hm ?_ hdb)) (by intro q;cases q);refine(PySem.W.exm_one I5.HJ LT hx).at ?_;show codeAny _ _ _ _ _;refine codeAny_handlers_suite_as ?_;refine tY (s:={ s' with heap:=h5 }) none x5 λh6 c6 x6=>?_;have I6:=mk h6 _ s'.toks (c45.trans (c6.mono (S':=frs X.stack) (c2:=[T']) (λ_ z=>z) λ_ z=>nomatch z)) (λb hb=>by
  rcases List.mem_append.mp hb with hb|hb
  ·exact cc b hb
  ·exact cc b (ZI _ hb)) (by obtain⟨vs,sl,_,_,q,_⟩:=x6;exact⟨vs,sl,q⟩)
 refine pO (X:=X) (v:=.ref a) I6 hN hi (.inl hl) rfl (λs7 I7=>?_) (.inr hl);refine ZN (hs a pins s7 _ _ _ (Inv.inX I7) (hE a na)) (λfl s8 h8=>?_) λ_ _ z=>False.elim z;show wpAny _ _ _ _ _ _;have fin:∀ {σ':L2.St} {H':Hp},Inv (Cx.inX X a) pins σ' H' s8->(∀ s9,Inv X pins (σ'.set iv none) H' s9->SP X pins D fl s9) →
   wpAny (model X.prog X.w) X.A (do bindName X.env n .none;unbindBehindTheSuite X.env n hp) (λ_ s5=>SP X pins D fl s5) X.xe s8:=λ{σ' H'} J k=>by
  have J':=Inv.ajx I7.ok J;have hlt:iv < σ'.length:=by rw[J'.len];exact(List.getElem?_eq_some_iff.mp hi).1
  refine zb (wpAny_bindName (pO (v:=.non) J' hN hi (.inl hl) rfl (λs9 I9=>?_) (.inr hl)));unfold unbindBehindTheSuite unbindName;refine wpAny_onRaise (zb (wpAny_point (zb (afe (v:=.non) I9 hN hi hl (by rw[List.getElem?_set_self hlt]) λs10 I10=>wpAny_point (k s10 ?_)))));rwa [List.set_set] at I10
 cases fl with
 |next=>
  obtain⟨σ',H',J,q⟩:=h8;exact fin J λs9 I9=>⟨_,H',I9,q⟩
 |ret u=>
  obtain⟨v,σ',H',J,rv,q⟩:=h8;exact fin J λs9 I9=>⟨v,_,H',I9,rv,q⟩
 |brk=>
  obtain⟨_,_,_,q⟩:=h8;exact False.elim q
 |cont=>
  obtain⟨_,_,_,q⟩:=h8;exact False.elim q
end
section
variable {X:Cx} {C Cn f:Addr} {iv iy k:Nat} {n cn x y:Str} {np hp p py pa cpos pos:Pos} {b0:Stmt} {suite:List Stmt} {ts:TS} {tf:TE} {t:TA} {sp:Sp} {fd:FuncData} {ps:LS_} {e:Expr} {es:List Expr}
def ajy (X:Cx) (C f:Addr) (iv iy:Nat) (ts:TS) (tf:TE) (t:TA) (sp:Sp):TS:=λD σ H=>tf σ H λv H0=>v=.ref f/\t σ H0 λvs H1=>sp vs H1 (λv H2=>D.nx (σ.set iy (some v)) H2) (XT X C iv ts D σ)
theorem afi (hst:X.stack=X.env::X.outer) (hfr:X.env.frame=some X.env.locals) (hN:X.N.Nodup) (hi:X.N[iv]?=some n) (hl:X.env.scope.names.lookup n=some .local) (hiy:X.N[iy]?=some y) (hly:X.env.scope.names.lookup y=some .local)
  (hg:Gl X cn) (hm:X.mg cn=some (.ref Cn)) (hx:exmOne X.K (.ref C) (.ref Cn)=some true) (hs:∀ a,zU (Cx.inX X a) (b0::suite) ts)
  (hfe:PE X.Mj (.Name x p) tf) (F:eZ X.prog X.w X.K X.mg X.base (Oj X.prog X.w) k f fd ps sp) (hr:gW k X.A) (hk:keepIn X.K (.ref f)=true) (hb:Binds X.K fd ps []) (ha:PA X.Mj (e::es) t)
  (hdb:(cn==("__debug__" : Str))=false:=by decide) (hst':starEach (e::es) X.env=(false,eval e X.env)::starEach es X.env:=by rfl) (hpl:(backTo cpos (starEach es X.env)).any (·.1)=false:=by rfl)
  (hsw:swapsWith (.Call (.Name x p) (e::es) [] cpos) (some (.Name y py)) pa.line X.env=pure false:=by rfl) :
  PS X (.Try [.Assign [.Name y py] (.Call (.Name x p) (e::es) [] cpos) pa] [.ExceptHandler (some (.Name cn np)) (some n) (b0::suite) hp] [] [] pos) (ajy X C f iv iy ts tf t sp):=by
 intro pins s σ H D I h;refine wpAny_Try_except (k8 (wpAny_Assign_Name (kl ?_) hsw));refine ZN (hfe pins s σ H _ (I.wish _) h) (λu s0 ⟨v,H0,I0,r0,ev,q0⟩=>?_) (λ_ _ z=>False.elim z);subst ev;obtain rfl:u=Value.ref f:=r0;refine callWith_K (h₀:=X.base) I.ok.mod.kin hk (ZN (ha cpos pins s0 σ H0 _ I0 q0) (λus s1 ⟨vs,H1,I1,r,q⟩=>⟨I1.HJ,?_⟩) (λ_ _ z=>False.elim z)) hst' hpl;have I1':=I1.jK;have hl2:us.length=ps.length:=by rw[<-r.length];exact F.len _ _ _ _ q
 rw[QY];refine k7 (ku (F.run X.A X.stack s1 H1 ⟨us,[]⟩ us vs _ _ hr I1'.env0 (by have:=hb s1 us I1'.HJ (by rw[qA];exact hl2);rwa [qA] at this) r q) λr s' hq=>?_);cases r with
 |error e=>exact Rn hst hfr hN hi hl hg hm hx hs I1' hq hdb
 |ok fl=>
  cases fl with
  |next=>exact False.elim hq
  |brk=>exact False.elim hq
  |cont=>exact False.elim hq
  |ret u=>
   obtain⟨v,H2,I2,rv,q2⟩:=I1'.after hq;exact pO I2 hN hiy (.inl hly) rv (λs3 I3=>kC (kC ⟨_,H2,I3,q2⟩)) (.inr hly)
end
section
variable {X:Cx} {pins:List (Addr×Obj)} {σ:L2.St} {H:Hp} {s:Shared} {C a d:Addr} {fs:List (Str×V)} {f:Str} {o:Expr} {ta:TE} {pos:Pos}
theorem Y5 (I:Inv X pins σ H s) (ea:H a=some (Y4 a C d)) (ed:H d=some (.xd fs)):∃ vs sl m,s.heap.get? a=some ⟨.ref C,some d,.fields vs,sl⟩/\s.heap.Ns1 d m/\∀ f,zW (fs.lookup f) (m f):=by
 obtain⟨vs,sl,q⟩:=(I.hok a _ ea).1;obtain⟨m,n1,r⟩:=I.hok d _ ed;exact⟨vs,sl,m,q,n1,r⟩
def ajz (K:FG_) (H:Hp) (C:Addr) (c:V) (b:Bool):Prop:=
 (∃ D,c=.ref D/\kitOne K (.ref C) (.ref D)=some b)\/(∃ T,c=.ty T/\kitOne K (.ref C) (.type T)=some b) ∨
  ∃ (tp:Addr) (cs:List Addr),c=.ref tp/\H tp=some (.tup (cs.map V.ref))/\kitAny K (.ref C) (cs.map Value.ref)=some b
theorem Jx:∀ {cs:List Addr} {us:List Value},Vals (cs.map V.ref) us->us=cs.map Value.ref
 |[],_,h=>by cases h;rfl
 |c::cs,_,h=>by
  cases h with
  |cons r t=>rw[Jx t];obtain rfl:=r;rfl
theorem Gh {Cs:List Addr} (hC:∀ C,C∈Cs->xP X.K C=true):gF X (.builtin "isinstance") (λvs H Q=>∃ a C d fs c b,C∈Cs/\vs=[.ref a,c]/\H a=some (Y4 a C d)/\H d=some (.xd fs)/\ajz X.K H C c b/\Q (.bl b) H):=by
 intro pins s σ H vs us Q I r h;obtain⟨a,C,d,fs,c,b,hm,rfl,ea,ed,hb,q⟩:=h;cases r with
 |cons ra r=>
  cases r with
  |cons rc r=>
   cases r;obtain rfl:=ra;obtain⟨vs,sl,m,h1,⟨od,_,_,h2,_⟩,_⟩:=Y5 I ea ed;have Z:=ahg (e:=a) (hC C hm);have p:ExI a C s.heap:=⟨d,vs,sl,od,h1,h2⟩;rcases hb with⟨D,rfl,hb⟩|⟨T,rfl,hb⟩|⟨tp,cs,rfl,ht,hb⟩
   ·obtain rfl:=rc;exact kia_one Z I.HJ p hb (λz=>nomatch z) λtk=>⟨.bl b,H,I.tok tk,rfl,q⟩
   ·obtain rfl:=rc;exact kia_one Z I.HJ p hb (λz=>nomatch z) λtk=>⟨.bl b,H,I.tok tk,rfl,q⟩
   ·obtain rfl:=rc;obtain⟨_,its,hv,o,ho,hc,⟨nn,hd⟩,hdd⟩:=I.hok tp _ ht;obtain⟨oc,od',odt,osl⟩:=o;dsimp only at hc hd hdd;subst hc hd hdd;rw[Jx hv] at ho;exact PySem.W.kia_tup Z I.HJ p ho hb (λz=>nomatch z) λtk=>⟨.bl b,H,I.tok tk,rfl,q⟩
def ajA (Cs:List Addr) (ta:TE) (f:Str):TE:=λσ H Q=>ta σ H λx H1=>∃ a C d v,C∈Cs/\x=.ref a/\H1 a=some (Y4 a C d)/\H1 d=some (.xd [(f,v)])/\Q v H1
theorem Ro {v:V} {u:Value} (r:RelV v u):handedIn u=true:=by
 cases v with
 |non=>obtain rfl:=r;rfl
 |bl b=>obtain rfl:=r;rfl
 |int i=>obtain⟨t,rfl⟩:=r;rfl
 |str x=>obtain⟨t,rfl⟩:=r;rfl
 |byt b=>obtain⟨t,rfl⟩:=r;rfl
 |flt b=>obtain⟨t,rfl⟩:=r;rfl
 |ref a=>obtain rfl:=r;rfl
 |ty n=>obtain rfl:=r;rfl
theorem Y6 {Cs:List Addr} (hC:∀ C,C∈Cs->xP X.K C=true/\findIn X.K (.ref C) f=some none) (ha:PE X o ta) (hb:attributeBase o f X.env (eval o X.env)=eval o X.env):PE X (.Attribute o f pos) (ajA Cs ta f):=by
 intro pins s σ H Q I h;refine aay hb (gU (ha pins s σ H _ I h) λu s1 ⟨x,H1,I1,rx,a,C,d,v,hm,ex,ea,ed,q⟩=>?_);subst ex;obtain rfl:u=Value.ref a:=rx;obtain⟨vs,sl,m,h1,h2,h3⟩:=Y5 I1 ea ed;have r:=h3 f;simp only[List.lookup,beq_self_eq_true] at r;cases em:m f with
 |none=>rw[em] at r;exact False.elim r
 |some u=>
  rw[em] at r;obtain⟨hh,g,dr,tk,os⟩:=s1;exact ahf I1.HJ (hC C hm).1 (hC C hm).2 h1 h2 em (Ro r) ⟨v,H1,I1.tok _,r,q⟩
end
def XW (K:FG_) (C:Addr) (f:Str) (E:XK) (H0:Hp) (d:Dt):Prop:=∀ dx v H',Same H0 H'->H' dx=some (.xd [(f,v)])->Rep K H' d v->E (.ref C) (some dx) H'
theorem XW.rebase {K:FG_} {C:Addr} {f:Str} {E:XK} {H0 Hs:Hp} {d:Dt} (s:Same H0 Hs) (h:XW K C f E H0 d):XW K C f E Hs d:=λdx v H' s' e r=>h dx v H' (s.trans s') e r
def tX (K:FG_) (C:Addr) (f:Str) (E:XK) (gx:Ev->Option Dt):TS:=λ_ σ H=>∃ H0 ρ d,bG K H0 H σ ρ/\gx ρ=some d/\XW K C f E H0 d
structure QX1 (X:Cx) (C:Addr) (f:Str) (E:XK) (st:Stmt) (gx:Ev->Option Dt):Prop where
 run:PS X st (tX X.K C f E gx)
structure VR (X:Cx) (C:Addr) (f:Str) (E:XK) (st:List Stmt) (gx:Ev->Option Dt):Prop where
 run:zU X st (tX X.K C f E gx)
def zD:Bx->Option Dt
 |.z d=>some d
 |_=>none
section
variable {X:Cx} {C:Addr} {f x:Str} {E:XK} {e c tg iter:Expr} {fe:Ev->Option Bx} {gx gy:Ev->Option Dt} {g:Ev->Option Out} {pos cpos p:Pos} {st:Stmt} {rest body a b:List Stmt} {B newId initId:String} {bmB:List Value} {pc:Ev->Option Bool}
def rzX (okX:Dt->Bool) (fe:Ev->Option Bx):Ev->Option Dt:=λρ=>(fe ρ).bind λb=>(zD b).bind λd=>if okX d=true then some d else none
theorem Gi {okX:Dt->Bool} {k:Nat} {fI:Addr} {fd:FuncData} {ps:LS_} {ok:V->Prop} (Fe:ExcBaseFacts B newId initId bmB) (hx:VN X.K C fI bmB newId=true) (hbase:bmB.contains (.type "BaseException")=true) (hk:keepIn X.K (.ref C)=true)
  (F:eZ X.prog X.w X.K X.mg X.base xq k fI fd ps (spI C f ok)) (hb:Binds X.K fd ps []) (hr:gW (k+1) X.A) (hg:Gl X x) (hm:X.mg x=some (.ref C)) (TQ:∀ e s,RX X E e s->X.xe e s) (he:QV X e fe) (hok:∀ d v K H,okX d=true->Rep K H d v->ok v)
  (hdb:(x==("__debug__" : Str))=false:=by decide) (hs:starEach [e] X.env=(false,eval e X.env)::starEach [] X.env:=by rfl) (hpl:(backTo cpos (starEach [] X.env)).any (·.1)=false:=by rfl) :
  QX1 X C f E (.Raise (some (.Call (.Name x p) [e] [] cpos)) none pos) (rzX okX fe):=⟨Wq (ahi Fe hx hbase hk F hb hr hg hm TQ (bT he.run g8 hs) hdb hs hpl) λD σ H h=>by
 obtain⟨H0,ρ,d,Ev,ed,w⟩:=h;obtain⟨b,eb,ed⟩:=bind_some ed;obtain⟨d',ez,ed⟩:=bind_some ed;split at ed
 ·rename_i ho;cases ed;cases b with
  |z d'=>
   cases ez;refine⟨H0,ρ,_,Ev,eb,λv H1 s1 _ r1=>⟨v,rfl,hok _ _ _ _ ho r1,λH2 dx s2 hd=>?_⟩⟩;have sd:Same H2 (upd H2 dx (.xd [(f,v)])):=bI hd;exact w dx v _ ((Ev.base.trans s1).trans (s2.trans sd)) aV (Rep.kp (Kp.of (s2.trans sd)) r1)
  |l _=>cases ez
  |o _=>cases ez
  |n _=>cases ez
  |m _ _=>cases ez
 ·cases ed⟩
theorem su (h:QX1 X C f E st gx):VR X C f E (st::rest) gx:=⟨λpins s σ H D I hw=>k8 (ZN (h.run pins s σ H { nx:=λ_ _=>False,rt:=D.rt,bk:=D.bk,ct:=D.ct } I hw) (λfl s1 q=>by
 cases fl with
 |next=>obtain⟨_,_,_,z⟩:=q;exact False.elim z
 |ret v=>exact q
 |brk=>exact q
 |cont=>exact q) λ_ _ z=>z)⟩
def Bw (g:Ev->Option Out) (gx:Ev->Option Dt):Ev->Option Dt:=λρ=>(g ρ).bind λr=>match r with
 |.nx ρ'=>gx ρ'
 |_=>none
theorem Om (h:Sq X st g) (hx:VR X C f E rest gx):VR X C f E (st::rest) (Bw g gx):=⟨λpins s σ H D I hw=>by
 obtain⟨H0,ρ,d,Ev,ed,w⟩:=hw;obtain⟨r,er,ed⟩:=bind_some ed;cases r with
 |nx ρ'=>
  refine k8 (ZN (h.run pins s σ H { nx:=λσ' H'=>bG X.K H0 H' σ' ρ',rt:=λ_ _=>False } I ⟨H0,ρ,_,Ev,er,λσ' H' z=>z⟩) (λfl s1 q=>?_) λ_ _ z=>z);cases fl with
  |next=>
   obtain⟨σ',H',I',E'⟩:=q;exact hx.run pins s1 σ' H' D I' ⟨H0,ρ',d,E',ed,w⟩
  |ret v=>obtain⟨_,_,_,_,_,z⟩:=q;exact False.elim z
  |brk=>obtain⟨_,_,_,z⟩:=q;exact False.elim z
  |cont=>obtain⟨_,_,_,z⟩:=q;exact False.elim z
 |rt _=>cases ed
 |bk _=>cases ed
 |ct _=>cases ed⟩
def ifX (pc:Ev->Option Bool) (gx gy:Ev->Option Dt):Ev->Option Dt:=λρ=>(pc ρ).bind λk=>if k=true then gx ρ else gy ρ
theorem Oo {sts:List Stmt}:VR X C f E sts (λ_=>none):=⟨λpins s σ H D I hw=>by
 obtain⟨H0,ρ,d,Ev,ed,w⟩:=hw;cases ed⟩
theorem ac9 (hc:QB X c pc) (ha:VR X C f E a gx) (hb:VR X C f E b gy):QX1 X C f E (.If c a b pos) (ifX pc gx gy):=⟨Wq (Ml hc.run ha.run hb.run) λD σ H h=>by
 obtain⟨H0,ρ,d,Ev,ed,w⟩:=h;obtain⟨k,ek,ed⟩:=bind_some ed;refine⟨H0,ρ,k,Ev,ek,λH1 s1=>?_⟩;cases k with
 |true=>rw[zh rfl] at ed ⊢;exact⟨H0,ρ,d,Ev.grow s1,ed,w⟩
 |false=>rw[zC zk] at ed ⊢;exact⟨H0,ρ,d,Ev.grow s1,ed,w⟩⟩
end
def spX (K:FG_) (n:Nat) (Fx:List Bx->Option Dt) (C:Addr) (f:Str):Sp:=λvs H _ E=>vs.length=n/\∃ bs d,qy K H bs vs/\bs.all (λb=>!isO b)=true/\Fx bs=some d/\XW K C f E H d
def pY (n:Nat) (gx:Ev->Option Dt):List Bx->Option Dt:=λbs=>gx (bs.map some++List.replicate (n - bs.length) none)
section
variable {P:Program} {w:World} {K:FG_} {mg:Str->Option Value} {base:Heap}
abbrev cxR (P:Program) (w:World) (K:FG_) (mg:Str->Option Value) (base:Heap) (N:LS_) (qual:Str) (scope:Scope) (f:Addr) (cd:Value) (A:Around) (outer:List Env) (s:Shared) (H:Hp) (E:XK):Cx:=
 (wY (Oj P w) P w K mg base N qual scope f cd A outer s H E).wish (RX (wY (Oj P w) P w K mg base N qual scope f cd A outer s H E) E)
theorem Y7 {x qual:Str} {st:Stmt} {f C:Addr} {a:Str} {fd:FuncData} {N ps:LS_} {k n m:Nat} {gx:Ev->Option Dt} (F:HD K x qual st f fd) (S:bw N ps (aF st)) (hn:N.length=n) (hm:ps.length=m)
  (hbody:∀ (cdv:Value) (A:Around) (outer:List Env) (s:Shared) (H:Hp) (E:XK),gW k (A.deeper (envOfC qual (aF st) s.heap.objs.size f cdv)) →
   (∀ e s',RX (cxR P w K mg base N qual (aF st) f cdv A outer s H E) E e s'->(cxR P w K mg base N qual (aF st) f cdv A outer s H E).xe e s') →
   PassesOwn (model P w) (A.deeper (envOfC qual (aF st) s.heap.objs.size f cdv)) (envOfC qual (aF st) s.heap.objs.size f cdv) (cxR P w K mg base N qual (aF st) f cdv A outer s H E).xe →
   VR (cxR P w K mg base N qual (aF st) f cdv A outer s H E) C a E (f9 st) gx):eZ P w K mg base (Oj P w) (k+1) f fd ps (spX K m (pY n gx) C a):=
 HD.okX F S (λvs H Q E h=>h.1.trans hm.symm) λcdv A outer s H vs Q E hr hsp=>by
  obtain⟨_,bs,d,r,ho,e,w⟩:=hsp;subst hn;exact⟨_,(hbody cdv A outer s H E hr (λe s' h=>h.jK) (VL (X:=wY (Oj P _) P _ K mg base N qual (aF st) f cdv A outer s H E) rfl rfl rfl)).run,H,_,d,bG.start r ho,e,w⟩
theorem acg {x qual sn vn fe a:Str} {st:Stmt} {f C FE:Addr} {fd:FuncData} {k:Nat} {arg:Expr} {fa:Ev->Option Bx} {ok:V->Prop} {ρ0:V->Ev} {p1 p2 p3 p4 p5 p6 p7 p8 p9:Pos} {B newId initId:String} {bmB:List Value}
  (F:HD K x qual st f fd) (S:bw [sn,vn] [sn,vn] (aF st)) (Fe:ExcBaseFacts B newId initId bmB) (hx:VN K C f bmB newId=true) (afj:setIn K C a=true) (hm:mg fe=some (.ref FE)) (hb:TJ K FE initId) (hh:handedIn (.builtin initId)=true)
  (hbd:f9 st=[.Expr (.Call (.Attribute (.Name fe p1) "__init__" p2) [.Name sn p3,arg] [] p4) p5,.Assign [.Attribute (.Name sn p6) a p7] (.Name vn p8) p9])
  (hρ:∀ v,ok v->∃ b,fa (ρ0 v)=some b/\∀ H e,bG K H H [some (.ref e),some v] (ρ0 v))
  (hbody:∀ (cdv:Value) (A:Around) (outer:List Env) (s:Shared) (H:Hp) (E:XK) (X:Cx),X=(wY xq P w K mg base [sn,vn] qual (aF st) f cdv A outer s H E).Mj->gW k X.A →
   Gl X fe/\QV X arg fa/\PE X (.Name sn p3) (WM 0)/\PE X (.Name sn p6) (WM 0)/\PE X (.Name vn p8) (WM 1)/\(fe==("__debug__" : Str))=false/\starEach [.Name sn p3,arg] X.env=(false,eval (.Name sn p3) X.env)::starEach [arg] X.env/\starEach [arg] X.env=(false,eval arg X.env)::starEach [] X.env ∧
   (backTo p4 (starEach [arg] X.env)).any (·.1)=false/\swapsWith (.Call (.Attribute (.Name fe p1) "__init__" p2) [.Name sn p3,arg] [] p4) none p5.line X.env=pure false/\swapsWith (.Name vn p8) (some (.Attribute (.Name sn p6) a p7)) p9.line X.env=pure false ∧
   ∃ pl:Sem Bool,eval (.Call (.Attribute (.Name fe p1) "__init__" p2) [.Name sn p3,arg] [] p4) X.env=(do
    let ov <-eval (.Name fe p1) X.env
    standAt p2.atName
    let (f,first) <-holding [ov] (getMethod ov "__init__" pl)
    callWith p4 f first (backTo p4 (starEach [.Name sn p3,arg] X.env)) (backToKw p4 (keywordEach [] X.env)))) :
  eZ P w K mg base xq (k+1) f fd [sn,vn] (spI C a ok):=
 HD.ok F S (λvs H Q E h=>by obtain⟨_,_,rfl,_⟩:=h;rfl) λcdv A outer s H vs Q E hr hsp=>by
  obtain⟨e,v,rfl,hok,ea,q⟩:=hsp;obtain⟨h1,h2,h3,h4,h5,h6,h7,h8,h9,h10,h11,pl,h12⟩:=hbody cdv A outer s H E _ rfl hr;rw[hbd];refine⟨_,fZ (Dk (Y0 (pl:=pl) Fe hx h1 hm hb hh (bT h3 (bT h2.run g8 h8) h7) h6 h7 h9 h12) h10) (yI (ahh afj h4 h5 h11)),?_⟩;obtain⟨b,eb,ajB⟩:=hρ v hok;refine⟨.ref e,rfl,H,ρ0 v,b,ajB H e,eb,λy H1 s1 _ _=>⟨e,y,rfl,s1 _ _ ea,?_⟩⟩;exact⟨v,rfl,.ref e,rfl,e,rfl,s1 _ _ ea,λdx hd hne=>q H1 dx s1 hd hne⟩
def spG (f:Addr) (K:FG_) (n:Nat) (F:List Bx->Option Bx):Sp:=λvs H Q E=>∃ vs',vs=.ref f::vs'/\Wr K n F vs' H Q E
end
section
variable {X:Cx} {k n:Nat} {f h:Addr} {fd:FuncData} {ps:LS_} {F:List Bx->Option Bx} {fs:Ev->Option (List Bx)} {x y:Str} {p q pos:Pos} {e:Expr} {es:List Expr}
theorem sy (G:eZ X.prog X.w X.K X.mg X.base xq k f fd ps (spG h X.K n F)) (hr:gW k X.A) (hg:Gl X x) (hm:X.mg x=some (.ref f)) (hk:keepIn X.K (.ref f)=true) (hb:Binds X.K fd ps []) (hgy:Gl X y) (hmy:X.mg y=some (.ref h)) (ha:Sh X (e::es) fs)
  (hdb:(x==("__debug__" : Str))=false:=by decide) (hdy:(y==("__debug__" : Str))=false:=by decide) (he:starEach (.Name y q::e::es) X.env=(false,eval (.Name y q) X.env)::starEach (e::es) X.env:=by rfl) (hpl:(backTo pos (starEach (e::es) X.env)).any (·.1)=false:=by rfl) :
  QV X (.Call (.Name x p) (.Name y q::e::es) [] pos) (bB n F fs):=⟨z9 (J1 G hr hg hm hk hb .nil acS (bT (nA hgy hmy (v:=.ref h) rfl hdy) ha.run he) hdb he hpl) λσ H Q h=>by
 obtain⟨H0,ρ,r,E,e,q⟩:=h;obtain⟨bs,eb,e⟩:=bind_some e;refine⟨H0,ρ,bs,E,eb,λvs H1 s1 r1=>?_⟩;split at e
 ·rename_i hn;rw[qA];exact⟨vs,rfl,by rw[<-Paired.length r1];exact hn,_,r,yO r1,Dr bs,e,λv H2 s2 n2 r2=>q v H2 (s1.trans s2) (n2.old s1) r2⟩
 ·cases e⟩
end
end P1
end
section
namespace P1
open PySem PySem.Spec PyProof.Rows L2 S6
section
variable {X:Cx} {elt tgt iter:Expr} {ifs:List Expr} {scope:Scope} {cl:List (Str×Addr)} {pos:Pos} {xs ts:LS_} {is:List Nat} {gt:Dt->Ev->Option Ev} {p:Ev->Option Bool} {fe:Ev->Option Bx} {fi:Ev->Option (List Dt)}
end
section
variable {X:Cx} {x y:Str} {e2 se iter:Expr} {fS:Ev->Option LS_} {fe:Ev->Option Bx} {fx:Ev->Option Dt} {fi:Ev->Option (List Dt)} {no rest:List Stmt} {tR tQ:TS} {p0 Rj px pb pif pos pk:Pos} {C:Addr} {f:Str} {E:XK} {g:Ev->Option Out} {gx:Ev->Option Dt}
end
end P1
end
section
namespace P1
open PySem PySem.Spec PyProof.Rows L2
section
variable {X:Cx} {iter e1 e2 e3 c:Expr} {fi:Ev->Option (List Dt)} {f1 fe:Ev->Option Bx} {p:Ev->Option Bool} {gr:Ev->Option Out} {x xr xj y1 y2:Str} {rest no:List Stmt} {kk:Nat} {p0 Ws Wt Rj q1 q2 pt pj pa px pb pif pf2 VH a1 c1 pe1 pr a2 Tt c2 pe2 pos:Pos} {fx:Ev->Option Dt} {C:Addr} {f:Str} {E:XK}
theorem Y8 (i r j k1 k2:Nat) (hp:PassesOwn (model X.prog X.w) X.A X.env X.xe) (hc:X.calm=true) (hN:X.N.Nodup) (hg:Gl X "set") (hm:X.mg "set" = none) (hi:QIF X (.Tuple [.Name y1 q1,.Name y2 q2] kk pt) iter fi) (h1:QV X e1 f1) (hcn:QB X c p) (h2:QV X e2 fe) (h3:QV X e3 fe) (hR:VR X C f E no fx)
  (S:SnS X i r j k1 k2 x xr xj y1 y2 iter e1 e3 p0 Ws Wt Rj q1 q2 pj pa px VH a1 c1 pe1 pr a2 Tt c2 pe2:=by exact {}) :
  VR X C f E (.Assign [.Name x p0] (.Call (.Name "set" Ws) [] [] Wt) Rj::.For (.Tuple [.Name y1 q1,.Name y2 q2] kk pt) iter [.Assign [.Name xj pj] e1 pa,.If (.BoolOp .Or [c,.Compare e2 [.In] [.Name x px] pb] pif) no [] pf2,.Expr (.Call (.Attribute (.Name x VH) "add" a1) [e3] [] c1) pe1,.Expr (.Call (.Attribute (.Name xr pr) "append" a2) [.Name xj Tt] [] c2) pe2] [] pos::rest) (λρ=>(Ju i r j k1 k2 fi f1 p fe fx ρ).bind λq=>match q with
   |.inl _=>none
   |.inr d=>some d):=⟨QD (Oh (tQ:=Qo) i r j k1 k2 hp hc hN hg hm hi h1 hcn h2 h3 hR.run zY S) λDe σ H h=>by
 obtain⟨H0,ρ,d,Ev,e,w⟩:=h;obtain⟨q,eq,e⟩:=bind_some e;cases q with
 |inl ρ1=>cases e
 |inr d'=>
  cases e;exact⟨H0,ρ,_,Ev,eq,(λρ' z=>nomatch z),λd' z D' σ' H' ρ1 E' ex _=>by cases z;exact⟨H0,ρ1,d,E',ex,w⟩⟩⟩
end
section
variable {X:Cx} {C Cn f:Addr} {iv k:Nat} {n cn x:Str} {np hp p pa cpos pos:Pos} {b0:Stmt} {suite:List Stmt} {ts:TS} {tf:TE} {t:TA} {sp:Sp} {fd:FuncData} {ps:LS_} {e:Expr} {es:List Expr}
end
section
variable {X:Cx} {fx:Ev->Option Bx}
def hoI (f:Ev->Option Bx):Ev->Option Bx:=λρ=>(f ρ).bind λb=>match b with
 |.z (.int i)=>if 0<=i/\i < 100000 then some (.z (.str (toString i))) else none
 |_=>none
theorem Y9 {v:Expr} {pos:Pos} (h:QV X v fx):QV X (.FormattedValue v (-1) none pos) (hoI fx):=⟨λpins s σ H Q I q=>by
 obtain⟨H0,ρ,b,E,e,q⟩:=q;obtain⟨b',eb,e⟩:=bind_some e;split at e;rotate_left
 ·cases e
 rename_i i;split at e;rotate_left
 ·cases e
 rename_i hi;cases e;have hd:i.natAbs.log2 < 1920:=by
  by_cases h0:i.natAbs=0
  ·rw[h0];decide
  ·rw[Nat.log2_lt h0];exact ZH (show i.natAbs < 2 ^ 17 by omega) (Nat.pow_le_pow_right (by decide) (by decide))
 refine FormattedValue_plain (ZN (h.run pins s σ H (λv H'=>Same H H'/\bA X.K H' (.z (.int i)) v) I ⟨H0,ρ,_,E,eb,λv H' s' n' r'=>⟨s',r'⟩⟩) (λv s1 hq=>?_) λ_ _ z=>z);obtain⟨w,H1,I1,r1,s1',rb⟩:=hq;obtain rfl:w=.int i:=by simpa only[bA,Rep] using rb
 obtain⟨tk,rfl⟩:=r1;exact formatField_int_small hd ⟨.str (toString i),H1,I1.tok _,⟨_,rfl⟩,q _ H1 s1' trivial (by unfold bA Rep;exact⟨rfl,int_text_fits hd⟩)⟩⟩
end
section
variable {prog:Program} {w:World} {A:Around} {E:VP_} {it l:Addr} {xs:Array Value}
end
section
variable {X:Cx} {pos:Pos}
theorem wj:∀ {its:List Value} {ns:List Int},IntsAre its ns->Vals (ns.map V.int) its
 |_,_,.nil=>.nil
 |_,_,.cons y t h=>.cons ⟨t,rfl⟩ (wj h)
end
section
variable {X:Cx}
end
section
variable {α:Type} {e:α->Dt} {ρ:Ev} {fa:Ev->Option Bx}
end
section
variable {α β δ:Type} {ρ:Ev} {e:α->Dt} {ea:β->Dt} {eb:δ->Dt} {f1 fe:Ev->Option Bx} {p:Ev->Option Bool} {fi:Ev->Option (List Dt)} {fx:Ev->Option Dt} {d:Dt}
end
section
variable {X:Cx} {e:Expr} {f:Ev->Option Bx}
end
section
variable {X:Cx}
def Za:Bx->Bx->Option Bx
 |.o ds,.z (.int k)=>if 0<=k/\k<=1000/\ds.length<=1000 then some (.o (List.replicate k.toNat ds).flatten) else none
 |_,_=>none
theorem Oq {K:FG_} {H:Hp} {ds:List Dt} {vs:List V} (r:aQ K H ds vs):∀ n:Nat,aQ K H (List.replicate n ds).flatten (List.replicate n vs).flatten
 |0=>aQ.nil
 |n+1=>by
  rw[qa,qa,QP,QP];exact r.append (Oq r n)
theorem afl:HX X (binaryOp .Mult) Za:=uP.imp ad6 λx y H Q q=>by
 obtain⟨a,b,c,ra,rb,e,q⟩:=q;unfold Za at e;split at e
 ·rename_i ds k;split at e
  ·rename_i hk;cases e;obtain⟨l,vs,rfl,hl,rs⟩:=ra;obtain rfl:y=.int k:=by simpa only[bA,Rep] using rb
   have hlen:=rs.length;have h1:vs.length * k.toNat<=1000 * 1000:=Nat.mul_le_mul (by omega) (by omega);refine⟨l,k,vs,rfl,rfl,hl,by omega,by omega,zI h1 (by decide),λp hp=>q _ _ (bI hp) (λa ea=>by cases ea;exact hp) ⟨p,_,rfl,aV,?_⟩⟩;exact(Oq rs k.toNat).kp (.of (bI hp))
  ·cases e
 ·cases e
end
section
variable {ρ:Ev} {fa:Ev->Option Bx}
def ahk {α:Type} {e:α->Dt} {fb:Ev->Option Bx} (a:R fa ρ (oE e)) (b:R fb ρ (zE eI)):R (b2 Za fa fb) ρ (oE e):=⟨(List.replicate b.v.toNat a.v).flatten,bK (bK a.D b.D) (some (0<=b.v/\b.v<=1000/\a.v.length<=1000)),λh=>by
 obtain⟨h,h3⟩:=aC h;obtain⟨h1,h2⟩:=aC h;have h3:0<=b.v/\b.v<=1000/\a.v.length<=1000:=h3;simp only[b2,a.ok h1,b.ok h2,bnd,Za,oE,zE,eI,zz];rw[zh h3];have:∀ n:Nat,(List.replicate n (a.v.map e)).flatten=(List.replicate n a.v).flatten.map e:=by
  intro n
  induction n with
  |zero=>rfl
  |succ n ih=>rw[qa,qa,QP,QP,qf,ih]
 rw[this]⟩
end
section
variable {α β γ:Type} {ρ:Ev} {e:α->Dt} {fa fb:Ev->Option Bx} {g:Ev->Option β} {c:γ->β}
end
section
variable {X:Cx} {E:XK}
theorem ach (TQ:∀ e s,RX X E e s->X.xe e s):Passes (Oj X.prog X.w) X E:=λpins σ H s e s' I h=>by
 obtain⟨a,C,dx,H',T,rfl,os,bare,un,hok,ha,hT,na,nT,ex,he⟩:=h;have J:Inv X pins σ H' s':=I.call' (ch:=[]) os un hok bare λ_ z=>nomatch z;have J0:Inv X [] σ H' s':=⟨J.ok,J.os,J.bare,J.base,J.loc,J.cell,J.free,J.jP,λp hp=>J.pin p (List.mem_append.mpr ((List.mem_append.mp hp).elim .inl λz=>nomatch z)),J.hok,J.len⟩;have mine:∀ b,s.heap.objs.size<=b->H' b=none->zj X H' b:=λb hb nb=>⟨nb,zI I.sz hb,λz=>by have:=I.lt;rw[<-z] at this;exact absurd this (Nat.not_lt.mpr hb),λx c e z=>by
  obtain⟨v,q⟩:=I.cell x c e;have:c < s.heap.objs.size:=by
   obtain⟨o,q⟩:∃ o,s.heap.get? c=some o:=by
    first|(obtain⟨o,q,_⟩:=q;exact⟨o,q⟩)|exact⟨_,q⟩
   exact zv q
  rw[z] at this;exact absurd this (Nat.not_lt.mpr hb)⟩
 exact TQ _ _ ⟨a,C,dx,σ,H',rfl,J0,mine a ha na,.inr ⟨T,mine T hT nT,.inr ex⟩,he⟩
end
section
variable {X:Cx} {C:Addr} {f x:Str} {E:XK} {e:Expr} {es:List Expr} {elts:List Expr} {x1:Nat} {fs:Ev->Option (List Bx)} {gx gy:Ev->Option Dt} {p p1 cpos pos tpos epos:Pos} {body:List Stmt} {st:Stmt} {rest:List Stmt}
def orX (g h:Ev->Option Dt):Ev->Option Dt:=λρ=>match g ρ with
 |some d=>some d
 |none=>h ρ
def TV (n:Nat) (Fx:List Bx->Option Dt) (fs:Ev->Option (List Bx)):Ev->Option Dt:=λρ=>(fs ρ).bind λbs=>if bs.length=n then Fx (bs.map lend) else none
theorem Zb {k n:Nat} {fa:Addr} {fd:FuncData} {ps:LS_} {Fx:List Bx->Option Dt} (G:eZ X.prog X.w X.K X.mg X.base (Oj X.prog X.w) k fa fd ps (spX X.K n Fx C f)) (hr:gW k X.A) (hg:Gl X x) (hm:X.mg x=some (.ref fa)) (hk:keepIn X.K (.ref fa)=true) (hb:Binds X.K fd ps [])
  (TQ:∀ e s,RX X E e s->X.xe e s) (hp:PassesOwn (model X.prog X.w) X.A X.env X.xe) (hc:X.calm=true) (hge:Gl X "enumerate") (hme:X.mg "enumerate" = none) (ha:Sh X (e::es) fs)
  (hdb:(x==("__debug__" : Str))=false:=by decide) (he:starEach (e::es) X.env=(false,eval e X.env)::starEach es X.env:=by rfl) (hpl:(backTo cpos (starEach es X.env)).any (·.1)=false:=by rfl)
  (hs:starEach [.Call (.Name x p) (e::es) [] cpos] X.env=[(false,eval (.Call (.Name x p) (e::es) [] cpos) X.env)]:=by rfl) (hss:∀ y,foldedSetIterable (.Call (.Name "enumerate" p1) [.Call (.Name x p) (e::es) [] cpos] [] epos) X.env y=pure y:=by intro _;rfl)
  : QX1 X C f E (.For (.Tuple elts x1 tpos) (.Call (.Name "enumerate" p1) [.Call (.Name x p) (e::es) [] cpos] [] epos) body [] pos) (TV n Fx fs):=⟨λpins s σ H D I hw=>by
 refine wpAny_For (gU (Tf (elts:=elts) (x1:=x1) (tpos:=tpos) hge hme (bT (J1 G hr hg hm hk hb .nil (ach TQ) ha.run hdb he hpl) g8 hs) hs pins s σ H (λ_ _=>False) I ?_) λv s1 h1=>gU h1 λitv s2 h2=>?_) hss
 ·obtain⟨H0,ρ,d,Ev,ed,w⟩:=hw;obtain⟨bs,eb,ed⟩:=bind_some ed;split at ed
  ·rename_i hn;refine⟨H0,ρ,bs,Ev,eb,λvs H1 s1 r1=>?_⟩;show spX X.K n Fx C f (vs++[]) H1 _ E;rw[qA];exact⟨by rw[<-Paired.length r1];exact hn,_,d,yO r1,Dr bs,ed,w.rebase (Ev.base.trans s1)⟩
  ·cases ed
 ·obtain⟨_,_,_,_,_,_,_,_,_,_,z⟩:=h2;exact False.elim z⟩
end
section
variable {X:Cx} {o:Expr} {fo:Ev->Option Bx}
end
section
variable {X:Cx} {o e l:Expr} {es:List Expr} {fo f:Ev->Option Bx} {fs:Ev->Option (List Bx)} {x y z:Str}
end
instance {σ τ:Type} [Inhabited σ]:Inhabited (jJ σ τ):=⟨.nx default⟩
section
variable {α:Type} {ρ:Ev} {e:α->Dt} {fa fb:Ev->Option Bx}
end
section
variable {X:Cx} {o e e2:Expr} {fo fx fy:Ev->Option Bx}
theorem TX:MtR X "str.find" (λx xs H Q=>∃ y z,x=.str y/\((xs=[.str z]/\Q (.int (Txt.find y z)) H)\/∃ i,xs=[.str z,.int i]/\Q (.int (Txt.find3 y z i)) H)):=by
 intro pins s σ H x xs v us Q I rx rs h;obtain⟨y,z,rfl,h⟩:=h;obtain⟨t,rfl⟩:=rx;rcases h with⟨rfl,q⟩|⟨i,rfl,q⟩
 ·obtain⟨u,rfl,ru⟩:=vals1 rs;obtain⟨t2,rfl⟩:=ru;exact call_gives F.slot_str_find (typeIs_str _ _ _) F.entry_str_find (F.args_str_find_2 _ _) (gives_str_find y z t t2) ⟨.int (Txt.find y z),H,I.tok _,⟨_,rfl⟩,q⟩
 ·obtain⟨u,u',rfl,ru,ru'⟩:=vals2 rs;obtain⟨t2,rfl⟩:=ru;obtain⟨t3,rfl⟩:=ru';exact call_gives F.slot_str_find (typeIs_str _ _ _) F.entry_str_find (F.args_str_find_3 _ _ _) (gives_str_find_from y z i t t2 t3) ⟨.int (Txt.find3 y z i),H,I.tok _,⟨_,rfl⟩,q⟩
def V0:Bx->Bx->Option Bx
 |.z (.str y),.z (.str z)=>some (.z (.int (Txt.find y z)))
 |_,_=>none
def Zc (i:Int):Bx->Bx->Option Bx
 |.z (.str y),.z (.str z)=>some (.z (.int (Txt.find3 y z i)))
 |_,_=>none
theorem TY {apos cpos:Pos} (ho:QV X o fo) (hx:QV X e fx) (hbase:attributeBase o "find" X.env (eval o X.env)=eval o X.env:=by rfl)
  (hfew:((backTo cpos (starEach [e] X.env)).all (λx=>!x.1)&&(backToKw cpos (keywordEach [] X.env)).all (λx=>x.1.isSome)&&decide ([e].length+([]:List Keyword).length+(if([]:List Keyword).isEmpty then 0 else 1) < 30))=true:=by rfl)
  (hline:(apos.endLine==cpos.line)=true:=by rfl) (hs:starEach [e] X.env=(false,eval e X.env)::starEach [] X.env:=by rfl):QV X (.Call (.Attribute o "find" apos) [e] [] cpos) (b2 V0 fo fx):=
 ⟨z9 (Et (T := "str") Kb F.slot_str_find F.type_str_find TX ho.run (pQ hx.run wz hs) hbase hfew hline hs rfl) λσ H Q q=>by
  obtain⟨H0,ρ,c,E,e,q⟩:=q;obtain⟨a,ea,e⟩:=bind_some e;obtain⟨b,eb,e⟩:=bind_some e;unfold V0 at e;split at e
  ·rename_i y z _;cases e;refine⟨H0,ρ,_,E,ea,λv H1 s1 n1 r1=>?_⟩;obtain⟨rfl,hy⟩:=HF r1;refine⟨rfl,H0,ρ,[_],E.grow s1,by simp only[ao,eb,QN];rfl,λvs H2 s2 r2=>?_⟩;obtain⟨w,rfl,rw1⟩:=rep1 r2;obtain⟨rfl,hz⟩:=HF rw1;exact⟨y,z,rfl,.inl ⟨rfl,q _ _ (s1.trans s2) trivial Ci⟩⟩
  ·cases e⟩
theorem Zd {apos cpos p2:Pos} {i:Int} {j:Nat} (ho:QV X o fo) (hx:QV X e fx) (hbase:attributeBase o "find" X.env (eval o X.env)=eval o X.env:=by rfl)
  (hfew:((backTo cpos (starEach [e,.Constant (.int i) j p2] X.env)).all (λx=>!x.1)&&(backToKw cpos (keywordEach [] X.env)).all (λx=>x.1.isSome)&&decide (([e,.Constant (.int i) j p2]:List Expr).length+([]:List Keyword).length+(if([]:List Keyword).isEmpty then 0 else 1) < 30))=true:=by rfl)
  (hline:(apos.endLine==cpos.line)=true:=by rfl) (hs:starEach [e,.Constant (.int i) j p2] X.env=(false,eval e X.env)::starEach [.Constant (.int i) j p2] X.env:=by rfl) (hs2:starEach [.Constant (.int i) j p2] X.env=(false,eval (.Constant (.int i) j p2) X.env)::starEach [] X.env:=by rfl) :
  QV X (.Call (.Attribute o "find" apos) [e,.Constant (.int i) j p2] [] cpos) (b2 (Zc i) fo fx):=
 ⟨z9 (Et (T := "str") Kb F.slot_str_find F.type_str_find TX ho.run (pQ hx.run (pQ (aA (i:=i)).run wz hs2) hs) hbase hfew hline hs rfl) λσ H Q q=>by
  obtain⟨H0,ρ,c,E,e,q⟩:=q;obtain⟨a,ea,e⟩:=bind_some e;obtain⟨b,eb,e⟩:=bind_some e;unfold Zc at e;split at e
  ·rename_i y z _;cases e;refine⟨H0,ρ,_,E,ea,λv H1 s1 n1 r1=>?_⟩;obtain⟨rfl,hy⟩:=HF r1;refine⟨rfl,H0,ρ,[_,_],E.grow s1,by simp only[ao,eb,QN];rfl,λvs H2 s2 r2=>?_⟩;obtain⟨w,w2,rfl,rw1,rw2⟩:=ac0 r2;obtain⟨rfl,hz⟩:=HF rw1;have:=LQ rw2;subst this;exact⟨y,z,rfl,.inr ⟨i,rfl,q _ _ (s1.trans s2) trivial Ci⟩⟩
  ·cases e⟩
end
section
variable {ρ:Ev} {fa fb:Ev->Option Bx}
def Ze (a:R fa ρ (zE eS)) (b:R fb ρ (zE eS)):R (b2 V0 fa fb) ρ (zE eI):=⟨Txt.find a.v b.v,bK a.D b.D,λh=>by
 obtain⟨h1,h2⟩:=aC h;simp only[b2,a.ok h1,b.ok h2,bnd,V0]⟩
def aci (i:Int) (a:R fa ρ (zE eS)) (b:R fb ρ (zE eS)):R (b2 (Zc i) fa fb) ρ (zE eI):=⟨Txt.find3 a.v b.v i,bK a.D b.D,λh=>by
 obtain⟨h1,h2⟩:=aC h;simp only[b2,a.ok h1,b.ok h2,bnd,Zc]⟩
end
section
variable {X:Cx} {C:Addr} {f x:Str} {E:XK} {gx gy:Ev->Option Dt} {st:Stmt} {sts rest:List Stmt} {p0 Ws Wt Rj:Pos}
theorem afm (h1:VR X C f E sts gx) (h2:VR X C f E sts gy):VR X C f E sts (orX gx gy):=⟨λpins s σ H D I hw=>by
 obtain⟨H0,ρ,d,Ev,ed,w⟩:=hw;unfold orX at ed;split at ed
 ·rename_i q;cases ed;exact h1.run pins s σ H D I ⟨H0,ρ,_,Ev,q,w⟩
 ·exact h2.run pins s σ H D I ⟨H0,ρ,_,Ev,ed,w⟩⟩
theorem Zf (i:Nat) (hN:X.N.Nodup) (hg:Gl X "set") (hm:X.mg "set" = none) (hx:QX1 X C f E st gx) (xi:X.N[i]?=some x:=by rfl) (li:Loc X.env.scope x:=by first|exact JA rfl|exact QO rfl)
  (gi:X.fn x=true\/X.env.scope.names.lookup x=some .local:=by first|exact .inl rfl|exact .inr rfl) (s0:swapsWith (.Call (.Name "set" Ws) [] [] Wt) (some (.Name x p0)) Rj.line X.env=pure false:=by rfl) :
  VR X C f E (.Assign [.Name x p0] (.Call (.Name "set" Ws) [] [] Wt) Rj::st::rest) (λρ=>gx (ρ.set i none)):=by
 refine⟨QD (fZ (uU (pos:=Rj) (pos':=p0) hN xi li (Em Tr hg hm rfl) s0 gi) (su hx).run) λDe σ H h=>?_⟩;obtain⟨H0,ρ,d,Ev,e,w⟩:=h;refine⟨rfl,λD H1 sm1 hfr hD=>⟨H0,ρ.set i none,d,?_,e,w⟩⟩;have E0:bG X.K H0 H1 σ (ρ.set i none):=(Ev.forget (by simp) λq b e=>(tW e).2).grow sm1;have YS:∀ q c,(ρ.set i none)[q]?=some (some c)->(σ.set i (some (V.ref D)))[q]?=σ[q]?:=λq c e=>oK _ (tW e).1;exact⟨by rw[qq];exact E0.len,λq b e=>by rw[YS q b e];exact E0.val q b e,
  λq q' c a b e1 e2 e3 e4 e5 e6=>E0.own q q' c a b e1 e2 (by rw[<-YS q c e1];exact e3) e4 e5 (by rw[<-YS q' b e4];exact e6),E0.base,λq c a e1 e2 e3=>E0.new q c a e1 e2 (by rw[<-YS q c e1];exact e3)⟩
end
theorem Zg {k1 k2 j:Nat} {f1:Ev->Option Bx} {p:Ev->Option Bool} {fe:Ev->Option Bx} {fx:Ev->Option Dt} {ρ0:Ev}:∀ {ds:List Dt} {seen:LS_} {out res:List Dt},rZ k1 k2 j f1 p fe fx ρ0 ds seen out=some (.inl res)->Bv k1 k2 j f1 p fe ρ0 ds seen out=some res
 |[],seen,out,res,h=>by simp only[rZ] at h;cases h;rfl
 |d::ds,seen,out,res,h=>by
  simp only[rZ] at h;split at h;rotate_left
  ·cases h
  obtain⟨b1,eb1,h⟩:=bind_some h;split at h;rotate_left
  ·cases h
  obtain⟨t,et,h⟩:=bind_some h;cases t with
  |true=>
   rw[zh rfl] at h;obtain⟨_,_,h⟩:=bind_some h;cases h
  |false=>
   rw[zC zk] at h;obtain⟨b2,eb2,h⟩:=bind_some h;obtain⟨z,ez,h⟩:=bind_some h;split at h
   ·obtain⟨_,_,h⟩:=bind_some h;cases h
   rename_i hnew;split at h;rotate_left
   ·cases h
   rename_i hok;have hz:=h;simp only[Bv];rw[eb1];simp only[bnd];rw[et];simp only[bnd];rw[eb2];simp only[bnd];rw[ez];simp only[bnd];rw[zh ⟨trivial,hnew,hok.1,hok.2⟩];exact Zg hz
section
variable {P:Program} {w:World} {K:FG_} {mg:Str->Option Value} {base:Heap}
structure DQ (K:FG_) (mg:Str->Option Value) (x:Str) (st:Stmt) (ps:LS_) where
 f:Addr
 fd:FuncData
 F:HD K x x st f fd
 b:Binds K fd ps []
 m:mg x=some (.ref f)
 k:keepIn K (.ref f)=true
structure IQ (K:FG_) (C:Addr) (q:Str) (st:Stmt) (ps:LS_) where
 f:Addr
 fd:FuncData
 F:HD K "__init__" q st f fd
 b:Binds K fd ps []
def lD {x:Str} {st:Stmt} {ps:LS_} {f:Addr} {od an:Option Addr} {sl:Array (Option Value)} {oc kV dc pm cd ct:Value} {h:Heap} (X:K.In h) (G:h.Ns mainGlobals mg) (a:Nn K x f) (l:Lk K f x st oc od sl kV dc pm an cd ct) (c:codeIn K cd x=true) (k:keepIn K (.ref f)=true)
  (hb:∀ (kV doc pm:Value) (an:Option Addr) (cdv ct:Value) (us:List Value),us.length=ps.length->bindArgs (fnOf x x (oO st) (f9 st) (aF st) .none kV doc pm an cdv ct) ⟨us,[]⟩=pure (ps.zip us):=by intro _ _ _ _ _ _;first|exact P1.len1 λ_=>rfl|exact P1.len2 λ_ _=>rfl|exact P1.ajn λ_ _ _=>rfl|exact P1.ajo λ_ _ _ _=>rfl|exact P1.ajp λ_ _ _ _ _=>rfl|exact P1.len0 rfl):DQ K mg x st ps:=
 ⟨f,_,J7 l c k,(J7 l c k).binds hb,jS X G a,k⟩
def ajC {C f:Addr} {q:Str} {st:Stmt} {ps:LS_} {od an:Option Addr} {sl:Array (Option Value)} {oc kV dc pm cd ct:Value} (a:findIn K (.ref C) "__init__" = some (some (.ref f))) (l:K.lookup f=some ⟨oc,od,.func (fnOf "__init__" q (oO st) (f9 st) (aF st) .none kV dc pm an cd ct),sl⟩) (c:codeIn K cd q=true) (k:keepIn K (.ref f)=true)
  (hb:∀ (kV doc pm:Value) (an:Option Addr) (cdv ct:Value) (us:List Value),us.length=ps.length->bindArgs (fnOf "__init__" q (oO st) (f9 st) (aF st) .none kV doc pm an cdv ct) ⟨us,[]⟩=pure (ps.zip us):=by intro _ _ _ _ _ _;exact P1.len2 λ_ _=>rfl):IQ K C q st ps:=
 ⟨f,_,J7 l c k,(J7 l c k).binds hb⟩
theorem mgT {h:Heap} {x:Str} {v:Tok->Value} {tk:Tok} (X:K.In h) (G:h.Ns mainGlobals mg) (c:nsIn K mainGlobals x=some (some (v tk))):∃ tk,mg x=some (v tk):=⟨tk,jS X G c⟩
abbrev Ok (P:Program) (w:World) (base:Heap) {x:Str} {st:Stmt} {ps:LS_} (d:DQ K mg x st ps) (k n:Nat) (F:List Bx->Option Bx):Prop:=eZ P w K mg base xq k d.f d.fd ps (Wr K n F)
theorem zm {x:Str} {st:Stmt} {N ps:LS_} {k n m:Nat} {g:Ev->Option Out} (d:DQ K mg x st ps) (S:bw N ps (aF st))
  (hbody:∀ (cdv:Value) (A:Around) (outer:List Env) (s:Shared) (H:Hp) (E:XK),gW k (A.deeper (envOfC x (aF st) s.heap.objs.size d.f cdv))->(A.deeper (envOfC x (aF st) s.heap.objs.size d.f cdv)).units+100 < cLine->N.Nodup->QG (wY xq P w K mg base N x (aF st) d.f cdv A outer s H E).Mj (f9 st) g)
  (hn:N.length=n:=by rfl) (hm:ps.length=m:=by rfl):Ok P w base d (k+1) m (dW n g):=ai6 d.F S hn hm λcdv A outer s H E hr=>hbody cdv A outer s H E hr (Dz hr) S.nd
end
section
variable {X:Cx} {k m n:Nat} {x:Str} {st:Stmt} {ps:LS_} {F:List Bx->Option Bx} {fs:Ev->Option (List Bx)} {e:Expr} {es:List Expr} {p pos:Pos}
theorem c7 (d:DQ X.K X.mg x st ps) (G:Ok X.prog X.w X.base d k n F) (hr:gW m X.A) (ha:Sh X (e::es) fs) (hg:Gl X x:=by rfl) (hl:k<=m:=by decide) (hdb:(x==("__debug__" : Str))=false:=by decide) (he:starEach (e::es) X.env=(false,eval e X.env)::starEach es X.env:=by rfl) (hpl:(backTo pos (starEach es X.env)).any (·.1)=false:=by rfl):QV X (.Call (.Name x p) (e::es) [] pos) (bB n F fs):=
 Ds G (hr.mono hl) hg d.m d.k d.b ha hdb he hpl
end
theorem walkT {l:PySem.W.OpenLaw} {q:Program} {loose:LS_} {XP:(Str->Option Value)->Heap->Prop} {YP:World->Heap->Prop} {d:DefRec} {K:Params->FG_} {T:FG_->(Str->Option Value)->Type} {k:Nat} {x:Str} {st:Stmt} {F_law:List Bx->Option Bx} (dq:∀ {K mg},T K mg->DQ K mg "law" st [x]) (hk:gW k callerA) (hd:d.name = "law")
  (G:∀ (w:World) (mg:Str->Option Value) (base:Heap) (t:T (K w.params) mg),Ok l.prog w base (dq t) k 1 F_law) (hn:l.most=some 63) (hdf:d.params.defaults=[])
  (h1:∀ ns:List Int,ns.length<=63->F_law [.z (.lst (ns.map .int))]=some (.z (.bl true))) (h2:∀ ns:List Int,ns.length<=63->F_law [.l (ns.map .int)]=some (.z (.bl true)))
  (hb:∀ (kV doc pm:Value) (an:Option Addr) (cdv ct u:Value),bindArgs (fnOf "law" "law" (oO st) (f9 st) (aF st) .none kV doc pm an cdv ct) ⟨[u],[]⟩=pure [(x,u)])
  (hY:∀ (w:World) (h:Heap),YP w h->(K w.params).In h)
  (F:∀ (w:World) (mg:Str->Option Value) (h:Heap),(K w.params).In h->h.Ns mainGlobals mg->T (K w.params) mg) :
  PySem.W.WalkO q loose XP YP l.row.toRowW d [] (λf vs=>PySem.call f vs):=
 L2.Xg (n:=63) (k:=k) (x:=x) (CX:=xq) (sp:=λK=>Wr K 1 F_law) hn (by decide) hdf hk hY (λw mg fa h X N e=>by
  have t:=F w mg h X N;have em:=(dq t).m;rw[hd,em] at e;cases e;refine⟨(dq t).fd,λs u=>?_,λbase _ _=>G w mg base t⟩;obtain⟨oc,od,kV,doc,pm,an,cdv,ct,osl,e,lk,hcd⟩:=(dq t).F.ex;rw[e];exact .of_eq (hb kV doc pm an cdv ct u)) (λK H a ns hl hO hS=>aeE h1 h2 K H a ns hl hO hS) λ_ _ _ _ z=>z
theorem Al {d:Dt} (h:bU d=true):∃ x,d=.str x:=by
 cases d with
 |str x=>exact⟨x,rfl⟩
 |_=>cases h
theorem vI {d:Dt} (h:is_tuple d=true):∃ ds,d=.tup ds:=by
 cases d with
 |tup x=>exact⟨x,rfl⟩
 |_=>cases h
theorem wJ {d:Dt} (h:is_tuple d=true):tM d=true:=by
 obtain⟨ds,rfl⟩:=vI h;rfl
theorem T3 {ds:List Dt} {k:Nat} {d:Dt} (h:ds[k]?=some d):qF (.tup ds) (k:Int)=d:=by
 have hl:k < ds.length:=(List.getElem?_eq_some_iff.mp h).1;have:Er ds (k:Int)=some d:=by
  unfold Er ixN;rw[zh (by omega),zh (by omega),bnd,qS,h]
 unfold qF;simp only[fV,wZ,bnd,this]
theorem Rp {d:Dt} {i:Int} (h:is_tuple d=true) (h0:0<=i) (h1:i < oZ d):Rc d i:=by
 obtain⟨ds,rfl⟩:=vI h;exact in_of h0 h1
theorem Ot (a:Dt) (r:List Dt):qF (.tup (a::r)) 0=a:=T3 (k:=0) rfl
theorem Ou (a b:Dt) (r:List Dt):qF (.tup (a::b::r)) 1=b:=T3 (k:=1) rfl
theorem acj {x:Str} {d:Dt} (h:d∈vG (.str x)):d=eS (FW d):=by
 unfold vG signs at h;obtain⟨c,_,rfl⟩:=List.mem_map.mp h;rfl
theorem acn (x:Str):(vG (.str x)).length=x.length:=VG x
theorem lt_iff (a b:Str):Yl a b=true↔LR a b/\a≠b:=by
 unfold Yl LR;rw[ltCps_eq];simp only[JO,kf];constructor
 ·intro h;exact⟨List.lt_asymm h,λe=>by subst e;exact List.lt_irrefl _ h⟩
 ·intro⟨h,hn⟩;by_cases q:a.cps.toList < b.cps.toList
  ·exact q
  ·exact absurd (Nk (a:=a) (b:=b) (by unfold LR;rw[ltCps_eq];simpa using h) (by unfold LR;rw[ltCps_eq];simpa using q)) hn
theorem Zh (n:Nat):rng 0 (n+1)=0::(rng 0 n).map (·+1):=by
 unfold rng;rw[List.range_succ_eq_map,zw,QI,QI];refine congr (congrArg _ ?_) ?_
 ·simp
 ·apply QU;intro k _;simp only[Function.comp];omega
theorem KR {n:Nat} {i:Int} (h:i∈rng 0 n):∃ k:Nat,k < n/\i=(k:Int):=by
 unfold rng at h;obtain⟨k,hk,rfl⟩:=List.mem_map.mp h;exact⟨k,List.mem_range.mp hk,by omega⟩
def vJ (xs:LS_):Bool:=((rng 0 ((xs.length:Int) - 1).toNat).map λi:Int=>Yl (at' xs i) (at' xs (i+1))).all id
theorem T4 (a:Str) (l:LS_) {k:Nat} (h:k < l.length):at' (a::l) ((k:Int)+1)=at' l (k:Int):=by
 have e:=Ge (a::l) (k+1) (by simp;omega);rw[Ge l k h,show((k:Int)+1)=((k+1:Nat):Int) by omega,e];rfl
theorem Ov (a b:Str) (l:LS_):vJ (a::b::l)=(Yl a b&&vJ (b::l)):=by
 unfold vJ;rw[show(((a::b::l).length:Int) - 1).toNat=l.length+1 by simp only[Zp];omega,show(((b::l).length:Int) - 1).toNat=l.length by simp only[Zp];omega,Zh,zw,ka,QI];refine congr (congrArg _ ?_) (congrArg (λl:List Bool=>l.all id) ?_)
 ·have e0:=Ge (a::b::l) 0 (by simp);have e1:=Ge (a::b::l) 1 (by simp);show Yl (at' (a::b::l) ((0:Nat):Int)) (at' (a::b::l) ((1:Nat):Int))=Yl a b;rw[e0,e1];rfl
 ·apply QU;intro i hi;obtain⟨k,hk,rfl⟩:=KR hi;have e1:=T4 a (b::l) (k:=k) (by simp;omega);have e2:=T4 a (b::l) (k:=k+1) (by simp;omega);have e3:((k+1:Nat):Int)=(k:Int)+1:=by omega
  rw[e3] at e2;simp only[Function.comp];rw[e1,e2]
theorem BJ:∀ (xs:LS_),vJ xs=true↔xs.Pairwise λa b=>Yl a b=true
 |[]=>by simp[vJ,rng]
 |[a]=>by simp[vJ,rng]
 |a::b::l=>by
  rw[Ov,ZE,BJ (b::l),@List.pairwise_cons _ _ a (b::l)];constructor
  ·intro⟨h1,h2⟩;refine⟨λy hy=>?_,h2⟩;rcases List.mem_cons.mp hy with rfl|hy
   ·exact h1
   ·have:=kz h2 hy;unfold Yl at *
    simp only[JO] at *
    exact List.lt_trans h1 this
  ·intro⟨h1,h2⟩;exact⟨h1 b (zo ..),h2⟩
theorem T5:∀ {xs:LS_},xs.Nodup->oF xs=xs
 |[],_=>rfl
 |x::xs,h=>by
  have:=List.nodup_cons.mp h;unfold oF;rw[zC this.1,T5 this.2]
theorem V1 (xs:LS_):vJ xs=decide (xs=je (oF xs)):=by
 rw[Bool.eq_iff_iff,BJ,JO];constructor
 ·intro h;have nd:xs.Nodup:=h.imp λ{a b} q=>((lt_iff a b).mp q).2;rw[T5 nd];exact DG (eN xs).symm (h.imp λ{a b} q=>((lt_iff a b).mp q).1) (pU xs)
 ·intro h;rw[h];have nd:(je (oF xs)).Nodup:=(eN _).nodup_iff.mpr (yW xs);exact((pU (oF xs)).and nd).imp λ{a b} q=>(lt_iff a b).mpr q
end P1
end
section
namespace P1
open PySem PySem.Spec PyProof.Rows L2 S1 S6
structure Wd (U:LS_) (w:List LS_):Prop where
 ne:∀ s∈w,s≠[]
 so:∀ s∈w,s.Pairwise LR
 nd:w.flatten.Nodup
 sub:∀ x∈w.flatten,x∈U
 st:w.Pairwise (λa b=>ajl a b=true)
def same (w:List LS_) (x y:Str):Prop:=∃ s∈w,x∈s/\y∈s
section
variable {α β:Type}
structure GOk (m:List (Int×List α)) (xs:List α):Prop where
 k:(m.map (·.1)).Nodup
 ne:∀ q∈m,q.2≠[]
 p:(m.map (·.2)).flatten.Perm xs
theorem GOk.put {m:List (Int×List α)} {xs:List α} (h:GOk m xs) (k:Int) (x:α):GOk (ag5 m k x) (xs++[x]):=by
 unfold ag5;split
 ·rename_i hk;obtain⟨q0,hq,e⟩:=List.any_eq_true.mp hk;have e:q0.1=k:=jb e;obtain⟨pre,rest,rfl⟩:=List.append_of_mem hq;have nk:=h.k;rw[qf,zw,KW] at nk;have fix:∀ l:List (Int×List α),k∉l.map (·.1)->l.map (λq=>if q.1=k then(q.1,q.2++[x]) else q)=l:=λl hl=>by
   conv=>rhs;rw[<-List.map_id l]
   exact QU λq hq=>by rw[zC λz=>hl (List.mem_map.mpr ⟨q,hq,z⟩)];rfl
  have f1:=fix pre λz=>nk.2.2 _ z _ (zo ..) e.symm;have f2:=fix rest λz=>(List.nodup_cons.mp nk.2.1).1 (by rw[e];exact z);have f3:(pre++q0::rest).map (λq=>if q.1=k then(q.1,q.2++[x]) else q)=pre++(q0.1,q0.2++[x])::rest:=by rw[qf,zw,f1,f2,zh e]
  rw[f3];refine⟨by have:=h.k;simpa using this,λq hq=>?_,?_⟩
  ·rcases List.mem_append.mp hq with hq|hq
   ·exact h.ne q (JS _ hq)
   ·rcases List.mem_cons.mp hq with z|hq
    ·rw[z];simp
    ·exact h.ne q (ZI _ (zr _ hq))
  ·refine List.Perm.trans ?_ (h.p.append_right [x]);simp only[qf,zw,List.flatten_append,QP,JP];refine List.Perm.append_left _ (List.Perm.append_left _ ?_);exact List.perm_append_comm
 ·rename_i hk;refine⟨?_,λq hq=>?_,?_⟩
  ·rw[qf,KW];refine⟨h.k,by simp,λa ha b hb=>?_⟩;have hb:b=k:=by simpa using hb
   subst hb;intro z;subst z;obtain⟨q,hq,e⟩:=List.mem_map.mp ha;exact hk (List.any_eq_true.mpr ⟨q,hq,QE e⟩)
  ·rcases List.mem_append.mp hq with hq|hq
   ·exact h.ne q hq
   ·cases List.mem_singleton.mp hq;simp
  ·rw[qf,List.flatten_append];simpa using h.p.append_right [x]
end
end P1
end
section
set_option maxHeartbeats 1000000
namespace P1
open PySem PySem.Spec PyProof.Rows L2
open PySem.Builtin PySem.Builtin.Str
abbrev cs (s:Str):List Nat:=s.cps.toList
theorem dB (a b:Str):cs (a++b)=cs a++cs b:=Array.toList_append
theorem jg {a b:Str} (h:cs a=cs b):a=b:=Str.ext' (Array.toList_inj.mp h)
theorem bL (a:Str):a.length=(cs a).length:=by simp[Str.length]
theorem KY (y p q:Str) (ps:LS_):Str.join y (p::q::ps)=p++y++Str.join y (q::ps):=rfl
theorem Zi {x y:Str} {k:Nat} (h:StrLaws.At x y x.length k):∃ r,(cs x).drop k=cs y++r:=by
 have e:=h.2;rw[StrLaws.subAt_eq] at e;have e:((cs x).drop k).take y.length=cs y:=eq_of_beq e;exact⟨((cs x).drop k).drop y.length,by rw[<-e];exact(k6 _ _).symm⟩
theorem Zj {x y:Str} {k:Nat} {r:List Nat} (h:(cs x).drop k=cs y++r) (hk:k<=(cs x).length):StrLaws.At x y x.length k:=by
 refine⟨?_,?_⟩
 ·have:=congrArg List.length h;rw[ZU,zt,<-bL,<-bL] at this;rw[<-bL] at hk;omega
 ·rw[StrLaws.subAt_eq];apply beq_iff_eq.mpr;show((cs x).drop k).take y.length=cs y;rw[h,bL,kM]
theorem Gj {x y:Str} {c:Nat} {y':List Nat} (hy:cs y=c::y'):∀ (ps:LS_) (p:Str) (cuts:List Nat) (a f:Nat),(∀ q∈p::ps,c∉cs q)->a<=(cs x).length->(cs x).drop a=cs (Str.join y (p::ps))->StrLaws.ChainG x y x.length a cuts f->(∀ k,f<=k->¬ StrLaws.At x y x.length k) →
  StrLaws.partsFrom x y.length a cuts=p::ps
 |[],p,cuts,a,f,hc,ha,hx,hG,hn=>by
  have hx:(cs x).drop a=cs p:=hx;have hp:=hc p (zo ..);cases cuts with
  |nil=>
   show[strSub x a x.length]=[p];congr 1;refine jg ?_;show(strSub x a x.length).cps.toList=_;rw[StrLaws.strSub_toList];show((cs x).drop a).take (x.length - a)=_;rw[kU (by rw[ZU,bL];exact zi _),hx]
  |cons d r=>
   obtain⟨g1,g2,_,_⟩:=hG;obtain⟨t,et⟩:=Zi g2;refine absurd ?_ hp;rw[<-hx,show(cs x).drop a=((cs x).drop a).take (d - a)++(cs x).drop d by
    rw[show(cs x).drop d=((cs x).drop a).drop (d - a) by rw[Q4];congr 1;omega,k6],et,hy]
   exact ZI _ (zo ..)
 |q::ps,p,cuts,a,f,hc,ha,hx,hG,hn=>by
  have hx:(cs x).drop a=cs p++(cs y++cs (Str.join y (q::ps))):=by
   rw[hx,KY,dB,dB,JP]
  have hp:=hc p (zo ..);have hl:=congrArg List.length hx;rw[ZU,zt,zt] at hl;have hy1:1<=(cs y).length:=by rw[hy];simp
  have e1:(cs x).drop (a+(cs p).length)=cs y++cs (Str.join y (q::ps)):=by
   rw[<-Q4,hx,kN]
  have A1:StrLaws.At x y x.length (a+(cs p).length):=Zj e1 (by omega);have no:∀ d,a<=d->d < a+(cs p).length->¬ StrLaws.At x y x.length d:=λd h1 h2 hA=>by
   obtain⟨t,et⟩:=Zi hA;refine hp ?_;have:(cs x).drop d=((cs p).drop (d - a))++(cs y++cs (Str.join y (q::ps))):=by
    rw[show(cs x).drop d=((cs x).drop a).drop (d - a) by rw[Q4];congr 1;omega,hx,List.drop_append_of_le_length (by omega)]
   rw[et,hy] at this;have h3:(cs p).drop (d - a)≠[]:=λz=>by
    have:=congrArg List.length z;rw[ZU,List.length_nil] at this;omega
   cases hz:(cs p).drop (d - a) with
   |nil=>exact absurd hz h3
   |cons u v=>
    rw[hz] at this;injection this with e _;rw[e];exact List.mem_of_mem_drop (i:=d - a) (by rw[hz];exact zo ..)
  cases cuts with
  |nil=>
   have hG:f=a:=hG;exact absurd A1 (hn _ (by omega))
  |cons d r=>
   obtain⟨g1,g2,g3,g4⟩:=hG;have hd:d=a+(cs p).length:=by
    apply Decidable.byContradiction;intro hne;by_cases h:d < a+(cs p).length
    ·exact no d g1 h g2
    ·exact g3 _ (by omega) (by omega) A1
   subst hd;show strSub x a (a+(cs p).length)::StrLaws.partsFrom x y.length (a+(cs p).length+y.length) r=p::q::ps;rw[Gj hy ps q r _ f (λz hz=>hc z (zr _ hz)) (by rw[bL];omega) (by rw[<-Q4,e1,bL,kN]) g4 hn];congr 1;refine jg ?_;show(strSub x a (a+(cs p).length)).cps.toList=_;rw[StrLaws.strSub_toList];show((cs x).drop a).take (a+(cs p).length - a)=_;rw[hx,show a+(cs p).length - a=(cs p).length by omega,kM]
theorem Zk (x:Str):1<=Builtin.Str.strKind x:=by
 unfold Builtin.Str.strKind;split
 ·exact zi _
 ·split<;>decide
theorem Gk {y:Str} {c:Nat} {y':List Nat} (hy:cs y=c::y') (hk:Builtin.Str.strKind y=1) (p:Str) (ps:LS_) (hc:∀ q∈p::ps,c∉cs q):Txt.split (Txt.join y (p::ps)) y=p::ps:=by
 have ej:Txt.join y (p::ps)=Str.join y (p::ps):=StrLaws.glued_eq_join y _;rw[ej];have hl:1<=y.length:=by rw[bL,hy];simp
 generalize hx:Str.join y (p::ps)=x;obtain⟨f,hG,hn⟩:=StrLaws.occ_tight x y hl;have key:=Gj (x:=x) hy ps p _ 0 f hc (qi _) (by rw[hx];rfl) hG hn;unfold Txt.split;split
 ·rename_i h;rw[kK,JO,JO] at h;have:=Zk x;have h:x.length < y.length:=by omega
  cases ps with
  |nil=>rw[<-hx];rfl
  |cons q ps=>
   rw[<-hx,KY,d8,d8] at h;omega
 ·split
  ·rename_i h;rw[List.isEmpty_iff.mp h] at key;have key:[strSub x 0 x.length]=p::ps:=key;rw[StrLaws.sub_whole] at key;exact key
  ·rw[StrLaws.partsBetween_eq];exact key
theorem T6 {a b:Str} {c:Nat} (h:c∉cs a):Txt.partition (a++(⟨#[c]⟩++b)) ⟨#[c]⟩=(a,⟨#[c]⟩,b):=by
 have ex:cs (a++(⟨#[c]⟩++b))=cs a++c::cs b:=by rw[dB,dB];rfl
 generalize a++(⟨#[c]⟩++b)=x at ex;have hA:StrLaws.At x ⟨#[c]⟩ x.length (cs a).length:=Zj (r:=cs b) (by rw[ex,kN];rfl) (by rw[ex,zt];omega);rcases partition_whole x ⟨#[c]⟩ with⟨_,hn⟩|⟨i,hp,hi,hn⟩
 ·exact absurd hA (hn _)
 ·have e1:i=(cs a).length:=by
   have h1:¬ (cs a).length < i:=λz=>hn _ z hA;have h2:¬ i < (cs a).length:=λz=>by
    have:=(StrLaws.subAt_one x c i).mp hi;have this:(cs x)[i]?=some c:=this;rw[ex,Z3 z] at this;exact h (Kt this)
   omega
  subst e1;rw[hp];have e2:strSub x 0 (cs a).length=a:=jg (by
   show(strSub x 0 _).cps.toList=_;rw[StrLaws.strSub_toList];show((cs x).drop 0).take _=_;rw[ex,List.drop_zero,Nat.sub_zero,kM])
  have e3:strSub x ((cs a).length+(⟨#[c]⟩:Str).length) x.length=b:=jg (by
   show(strSub x _ _).cps.toList=_;rw[StrLaws.strSub_toList];show((cs x).drop ((cs a).length+1)).take _=_;rw[bL,ex,<-Q4,kN];show(cs b).take _=_;rw[kU];rw[zt,Zp];show _<=(cs a).length+((cs b).length+1) - ((cs a).length+1);omega)
  rw[e2,e3]
theorem Gm {x:Str} {n:Nat} (h:n<=x.length):cs (Txt.slice x (some (n:Int)) none)=(cs x).drop n:=by
 rw[slice_from_eq (b:=x.length) (by omega) (by omega) rfl];show((cs x).drop ((n:Int).toNat)).take _=_;rw[qS,kU (by rw[ZU,<-bL];omega)]
theorem sI {x:Str} {n:Nat} (h:n<=x.length):cs (Txt.slice x none (some (n:Int)))=(cs x).take n:=by
 have:=slice_closes_to (x:=x) (j:=(n:Int)) ⟨by omega,by rw[show x.cps.toList.length=x.length by simp[Str.length]];omega⟩;rw[eq_of_beq this];show((cs x).drop 0).take _=_;simp
theorem ahm {x:Str} {i:Int} (h:In x.length i):∃ c∈cs x,ch x i=⟨#[c]⟩:=by
 have:=tU (xs:=cs x) (i:=i) (by rw[<-bL];exact h);refine⟨_,this,?_⟩;unfold ch at';rfl
theorem wK:∀ (y p:Str) (ps:LS_),cs (Txt.join y (p::ps))=cs p++ps.flatMap λq=>cs y++cs q:=by
 intro y p ps;rw[show Txt.join y (p::ps)=Str.join y (p::ps) from StrLaws.glued_eq_join y _]
 induction ps generalizing p with
 |nil=>simp[Str.join]
 |cons q ps ih=>rw[KY,dB,dB,ih,kq,JP,JP]
end P1
end
section
set_option maxHeartbeats 1000000
namespace P1
open PySem PySem.Spec PyProof.Rows L2 S1 S6
section
variable {α:Type} [Inhabited α]
end
section
variable {α:Type} {e:α->Dt} [Kys e]
end
end P1
end
section
namespace P1
open PySem PySem.Spec PyProof.Rows L2
open PySem.Builtin PySem.Builtin.Str
theorem Ow (x y:Str):Txt.split x y≠[]:=by
 unfold Txt.split;split
 ·simp
 ·split
  ·simp
  ·rw[StrLaws.partsBetween_eq];obtain⟨p,r,e⟩:=StrLaws.partsFrom_ne x y.length 0 (Builtin.Str.occurrences x y 0 x.length (x.length+1));rw[e];simp
theorem join_split (x y:Str):Txt.join y (Txt.split x y)=x:=(StrLaws.glued_eq_join y _).trans (StrLaws.join_split x y)
theorem cnt_join (c:Nat) (y:Str):∀ (l:LS_),l≠[]->(cs (Txt.join y l)).count c+(cs y).count c=(l.map λq=>(cs q).count c+(cs y).count c).sum
 |[],h=>absurd rfl h
 |p::ps,_=>by
  have e:∀ ps:LS_,(ps.flatMap λq=>cs y++cs q).count c=(ps.map λq=>(cs q).count c+(cs y).count c).sum:=by
   intro ps
   induction ps with
   |nil=>rfl
   |cons q ps ih=>rw[kq,qk,qk,ih,zw,Kj];omega
  rw[wK,qk,e,zw,Kj];omega
theorem Zm {α:Type} (f:α->Nat) (k:Nat):∀ l:List α,(∀ q∈l,k<=f q)->k * l.length<=(l.map f).sum
 |[],_=>qi _
 |q::l,h=>by
  have:=Zm f k l λz hz=>h z (zr _ hz);have:=h q (zo ..);rw[Zp,zw,Kj,Nat.mul_succ];omega
end P1
end
section
set_option maxHeartbeats 1000000
namespace P1
open PySem PySem.Spec PyProof.Rows L2
open PySem.Builtin PySem.Builtin.Str
theorem iK (x:Str) (n:Nat):cs (Txt.slice x (some (n:Int)) none)=(cs x).drop n:=by
 by_cases h:n<=x.length
 ·exact Gm h
 ·have e:Txt.slice x (some (n:Int)) none=Txt.slice x (some (x.length:Int)) none:=by
   unfold Txt.slice;rw[indices_beyond (by omega)]
  rw[e,Gm (zi _),jI (by rw[<-bL];exact zi _),jI (by rw[<-bL];omega)]
theorem V2 {x:Str} {m n:Nat} (h:m<=n) (hn:n<=x.length):cs (Txt.slice x (some (m:Int)) (some (n:Int)))=((cs x).drop m).take (n - m):=by
 have:=slice_closes (x:=x) (i:=(m:Int)) (j:=(n:Int)) ⟨by omega,by omega,by rw[show x.cps.toList.length=x.length by simp[Str.length]];omega⟩;rw[eq_of_beq this];show((cs x).drop _).take _=_;rw[qS,show((n:Int) - (m:Int)).toNat=n - m by omega]
theorem Zn {l:List Nat} {n c:Nat} (h:c∈l.drop n):∃ v,n<=v/\v < l.length/\l[v]?=some c:=by
 obtain⟨k,hk⟩:=List.mem_iff_getElem?.mp h;rw[List.getElem?_drop] at hk;exact⟨n+k,by omega,(List.getElem?_eq_some_iff.mp hk).1,hk⟩
theorem KZ (x:Str) (v:Nat):x.cps.getD v 0=((cs x)[v]?).getD 0:=by
 rw[Array.getD_eq_getD_getElem?,Array.getElem?_toList]
theorem Ox (x:Str) (c n:Nat) (hn:n<=x.length):(Txt.find3 x ⟨#[c]⟩ (n:Int) = -1/\c∉(cs x).drop n)\/∃ a b,(cs x).drop n=a++c::b/\c∉a/\Txt.find3 x ⟨#[c]⟩ (n:Int)=((n+a.length:Nat):Int):=by
 have f:fromIndex x.length (n:Int)=n:=by
  unfold fromIndex;rw[zC (by omega),Int.max_eq_right (by omega)];exact qS n
 rcases StrLaws.find3_spec x c n with⟨h1,h2⟩|⟨k,h1,h2,h3,h4,h5⟩
 ·refine .inl ⟨h1,λhm=>?_⟩;obtain⟨v,v1,v2,v3⟩:=Zn hm;refine h2 v (by rw[f];exact v1) (by rw[bL];exact v2) ?_;rw[KZ,v3];rfl
 ·rw[f] at h2 h5;have h3':k < (cs x).length:=by rw[<-bL];exact h3
  have hk:(cs x)[k]=c:=by
   rw[KZ,qo h3'] at h4;exact h4
  refine .inr ⟨((cs x).drop n).take (k - n),(cs x).drop (k+1),?_,λhm=>?_,?_⟩
  ·have e:(cs x).drop k=c::(cs x).drop (k+1):=by rw[kA h3',hk]
   rw[<-e,show(cs x).drop k=((cs x).drop n).drop (k - n) by rw[Q4];congr 1;omega,k6]
  ·obtain⟨j,hj⟩:=List.mem_iff_getElem?.mp hm;have hj':=(List.getElem?_eq_some_iff.mp hj).1;rw[qB] at hj';rw[List.getElem?_take,zh (by omega),List.getElem?_drop] at hj;refine h5 (n+j) (by omega) (by omega) ?_;rw[KZ,hj];rfl
  ·rw[h1,qB,ZU,<-bL];congr 1;omega
theorem K1 (x:Str) (c:Nat):(Txt.find x ⟨#[c]⟩ = -1/\c∉cs x)\/∃ a b,cs x=a++c::b/\c∉a/\Txt.find x ⟨#[c]⟩=(a.length:Int):=by
 rw[find_is_find3];have:=Ox x c 0 (qi _);simp only[List.drop_zero,Nat.zero_add] at this;exact this
theorem yu {c:Nat}:∀ {a a' b b':List Nat},c∉a->c∉a'->a++c::b=a'++c::b'->a=a'/\b=b'
 |[],[],b,b',_,_,e=>⟨rfl,by injection e⟩
 |[],x::a',b,b',_,h',e=>by
  injection e with e1 _;exact absurd (e1▸zo ..) h'
 |x::a,[],b,b',h,_,e=>by
  injection e with e1 _;exact absurd (e1▸zo ..) h
 |x::a,y::a',b,b',h,h',e=>by
  injection e with e1 e2;obtain⟨r1,r2⟩:=yu (λz=>h (zr _ z)) (λz=>h' (zr _ z)) e2;exact⟨by rw[e1,r1],r2⟩
theorem Jy {x:Str} {c:Nat} (h:c∉cs x):(Txt.partition x ⟨#[c]⟩).2.1=Str.empty:=by
 unfold Txt.partition;rcases StrLaws.occ_head x ⟨#[c]⟩ 1 (zi 1) with⟨h0,hn⟩|⟨i,r,h0,hi,_⟩
 ·rw[h0]
 ·exact absurd ((mem_iff_at x c).mpr ⟨i,hi⟩) h
end P1
end
section
set_option synthInstance.maxSize 100000
namespace G04
open PySem PySem.Spec PyProof.Rows L2 P1
noncomputable section
abbrev LD_:=List P1.Dt
abbrev cR:Type:=Str×Str
abbrev Ck:cR->Dt:=zV eS eS
abbrev bM:Type:=Str×(List cR)
abbrev bO:bM->Dt:=zV eS (eT Ck)
abbrev Zo:Type:=Str×(List LS_)
abbrev jO:Zo->Dt:=zV eS (eT (eT eS))
abbrev aco:Type:=Dt×Dt
abbrev ahn:aco->Dt:=zV eD eD
def V3:List Dt:=[Dt.non,(Dt.int 0),(Dt.bl true),((eL eS) [("a:" : Str)]),(Dt.tup [(Dt.str "a"),(Dt.tup [])]),Dt.emp]
def top (i:Nat):Stmt:=PySem.Challenge.pw_onefolk_k04_texts_of_no_books.main.body.getD i (.Pass ⟨0,0,0,0⟩)
abbrev Gn:Stmt:=top 29
abbrev xQ:Stmt:=top 30
abbrev BK:Stmt:=top 31
abbrev vK:Stmt:=top 32
abbrev vL:Stmt:=top 33
abbrev uD:Stmt:=top 34
abbrev vM:Stmt:=top 39
abbrev uc:Stmt:=top 13
abbrev Gq:Stmt:=top 11
abbrev zp:Stmt:=top 20
abbrev Jz:Stmt:=top 18
abbrev JB:Stmt:=top 19
abbrev uE:Stmt:=top 23
abbrev zq:Stmt:=top 12
abbrev BL:Stmt:=top 22
abbrev Oz:Stmt:=top 21
abbrev OD:Stmt:=top 26
abbrev qJ:Stmt:=top 27
abbrev pZ:Stmt:=top 42
abbrev ud:Stmt:=top 25
abbrev xT:Stmt:=top 35
abbrev xU:Stmt:=top 36
abbrev zu:Stmt:=top 37
abbrev zx:Stmt:=top 40
abbrev JC:Stmt:=top 41
abbrev uF:Stmt:=top 46
abbrev BP:Stmt:=top 45
abbrev vN:Stmt:=top 43
abbrev zy:Stmt:=top 44
abbrev s_law:Stmt:=top 47
def xV:Ev->Option Out:=(aD (aD (setG 2 (b2 iu (b2 cu (b2 nP (gv 2) (cB (.int 69621))) (gv 3)) (cB (.int 2147483647)))) eF) (iV [3]))
def uf:Ev->Option Out:=(aD (uY (u9 Vi (gv 1) (dw nR (ao (gv 0) aG))) (aD (dX (b2 fV (gv 0) (gv 1))) eF) eF) (aD (setG 2 (b2 iu (b2 nP (cB (.int 48271)) (b2 cu (b2 cu (b2 nP (gv 1) (gv 1)) (b2 nP (cB (.int 7)) (gv 1))) (cB (.int 11)))) (cB (.int 2147483647)))) (aD (oY (itF (yj (gv 0) fu (fj (cB (.int 3))))) (w5 3) xV) (aD (dX (gv 2)) eF))))
def jh:List Bx->Option Bx:=dW 4 uf
def mX:Ev->Option Out:=(aD (aD (setG 3 (b2 iu (b2 cu (b2 cu (b2 nP (gv 3) (b2 cu (b2 iu (gv 3) (cB (.int 65521))) (cB (.int 40487)))) (b2 nP (cB (.int 7)) (gv 5))) (cB (.int 5))) (cB (.int 1999999973)))) (aD (Nh 2 (b2 fV (dw gY (ao (gv 3) (ao (b2 iu (gv 4) (cB (.int 1000000))) aG))) (dw Vh (ao (b2 gtB (gv 4) (cB (.int 0))) aG)))) (aD (setG 4 (b2 uz (gv 4) (cB (.int 1000000)))) eF))) (iV [5]))
def nD:Ev->Option Out:=(aD (setG 2 (dw gY aG)) (aD (setG 3 (b2 iu (b2 nP (b2 cu (b2 iu (gv 0) (cB (.int 1999999973))) (cB (.int 31))) (cB (.int 765432101))) (cB (.int 1999999973)))) (aD (setG 4 (cB (.int 0))) (aD (uY (Qj (u9 Vi (gv 0) (cB (.int 0))) (u9 geB (gv 0) (b2 aem (cB (.int 10)) (cB (.int 18))))) (aD (aD (setG 4 (dw XH (ao (gv 0) aG))) eF) (iV [])) (aD eF (iV []))) (aD (oY (SM (ao (gv 1) aG)) (w5 5) mX) (aD (Kc 2) eF))))))
def gq:List Bx->Option Bx:=dW 6 nD
def qb:Ev->Option Out:=(aD (aD (setG 7 (b2 fV (gv 2) (b2 iu (b2 cu (gv 6) (b2 fV (gv 0) (cB (.int 2)))) (cB (.int 15))))) (aD (setG 8 (b2 cu (b2 cu (yj (gv 3) fu (fj (gv 4))) (gv 7)) (yj (gv 3) (fj (gv 4)) fu))) (aD (uY (u9 eqB (b2 iu (b2 fV (gv 0) (cB (.int 3))) (cB (.int 3))) (cB (.int 1))) (aD (aD (setG 8 (b2 nP (b2 fV (gv 2) (b2 uz (gv 6) (cB (.int 8)))) (b2 cu (cB (.int 1)) (b2 iu (gv 6) (cB (.int 8)))))) eF) (iV [])) (aD eF (iV []))) (aD (Nh 5 (gv 8)) eF)))) (iV [6,7,8]))
def qK:Ev->Option Out:=(aD (setG 2 (cB (.str "abcdefghijklmnopqrstuvwxyz"))) (aD (setG 3 (b1 (Jm "") (lF (SM (ao (b2 iu (b2 fV (gv 0) (cB (.int 0))) (cB (.int 6))) aG)) (w5 2) vq (b2 fV (gv 0) (b2 iu (b2 uz (b2 fV (gv 1) (gv 2)) (cB (.int 40))) (cB (.int 26)))) [2,0] 1))) (aD (setG 4 (b2 iu (b2 fV (gv 0) (cB (.int 1))) (b2 cu (dw nR (ao (gv 3) aG)) (cB (.int 1))))) (aD (setG 5 (dw gY aG)) (aD (oY (SM (ao (gv 1) aG)) (w5 6) qb) (aD (Kc 5) eF))))))
def qL:List Bx->Option Bx:=dW 9 qK
def qM:Ev->Option Out:=(aD (aD (setG 3 (b2 cu (gv 3) (b2 fV (gv 1) (b2 iu (b2 uz (gv 0) (b2 cu (cB (.int 7)) (b2 nP (cB (.int 5)) (gv 4)))) (dw nR (ao (gv 1) aG)))))) eF) (iV [4]))
def lK:Ev->Option Out:=(aD (setG 3 (cB (.str ""))) (aD (oY (SM (ao (b2 cu (cB (.int 1)) (b2 iu (gv 0) (gv 2))) aG)) (w5 4) qM) (aD (dX (gv 3)) eF)))
def ji:List Bx->Option Bx:=dW 5 lK
def qN:Ev->Option Out:=(aD (aD (setG 4 (bB 3 ji (ao (b2 fV (gv 1) (b2 cu (cB (.int 1)) (b2 nP (cB (.int 2)) (gv 3)))) (ao (cB (.str "abcdefghijklmnopqrstuvwxyz")) (ao (b2 fV (dw gY (ao (cB (.int 2)) (ao (cB (.int 8)) aG))) (b2 iu (b2 uz (b2 fV (gv 1) (b2 cu (cB (.int 1)) (b2 nP (cB (.int 2)) (gv 3)))) (cB (.int 999))) (cB (.int 2)))) aG))))) (aD (setG 5 (b2 fV (dw gY (ao (cB (.str "ab01xyz9")) (ao (cB (.str "abcdefghijklmnopqrstuvwxyz0123456789")) aG))) (b2 iu (b2 uz (b2 fV (gv 1) (b2 cu (cB (.int 2)) (b2 nP (cB (.int 2)) (gv 3)))) (cB (.int 61))) (cB (.int 2))))) (aD (XR 2 (b1 uQ (bB 3 ji (ao (b2 fV (gv 1) (b2 cu (cB (.int 2)) (b2 nP (cB (.int 2)) (gv 3)))) (ao (gv 5) (ao (b2 fV (dw gY (ao (cB (.int 3)) (ao (cB (.int 12)) aG))) (b2 iu (b2 uz (b2 fV (gv 1) (b2 cu (cB (.int 2)) (b2 nP (cB (.int 2)) (gv 3)))) (cB (.int 999))) (cB (.int 2)))) aG))))) (gv 4)) eF))) (iV [3,4,5]))
def lM:Ev->Option Out:=(aD (setG 2 (λ_=>some (.m [] none))) (aD (oY (SM (ao (b2 iu (b2 fV (gv 1) (cB (.int 0))) (cB (.int 9))) aG)) (w5 3) qN) (aD (dX (dw oh (ao (gv 0) (ao (dw oA (ao (lF (Ni (dw Fq (ao (gv 2) aG))) (w5 1) vq (dw oh (ao (gv 1) (ao (b2 Jo (gv 0) (gv 1)) aG))) [2] 1) aG)) aG)))) eF)))
def lN:List Bx->Option Bx:=dW 6 lM
def qd:Ev->Option Out:=(aD (aD (setG 7 (b2 fV (gv 4) (b2 iu (b2 cu (b2 nP (cB (.int 7)) (gv 6)) (b2 fV (gv 3) (cB (.int 7)))) (cB (.int 15))))) (aD (Nh 5 (b1 uQ (bB 2 lN (ao (gv 7) (ao (b1 uQ (bB 2 gq (ao (b1 uQ (bB 2 jh (ao (gv 0) (ao (b1 uQ (b2 cu (b2 cu (gv 1) (cB (.int 1))) (gv 6))) aG)))) (ao (cB (.int 17)) aG)))) aG))))) eF)) (iV [6,7]))
def jY:Ev->Option Out:=(aD (setG 3 (bB 2 gq (ao (b1 uQ (bB 2 jh (ao (gv 0) (ao (gv 1) aG)))) (ao (cB (.int 8)) aG)))) (aD (setG 4 (bB 2 qL (ao (gv 3) (ao (cB (.int 15)) aG)))) (aD (setG 5 (dw gY aG)) (aD (oY (SM (ao (b2 iu (b2 fV (gv 3) (cB (.int 6))) (b2 cu (gv 2) (cB (.int 1)))) aG)) (w5 6) qd) (aD (dX (dw oA (ao (gv 5) aG))) eF)))))
def jZ:List Bx->Option Bx:=dW 8 jY
def qO:Ev->Option Out:=(aD (aD (setG 1 (b2 cu (b2 cu (b2 cu (b2 cu (b2 cu (gv 1) (b2 fV (dw gY (ao (cB (.str ",")) (ao (cB (.str "")) aG))) (dw Vh (ao (b2 eqB (gv 2) (cB (.int 0))) aG)))) (cB (.str " "))) (b2 fV (b2 fV (b2 fV (gv 0) (cB (.int 1))) (gv 2)) (cB (.int 0)))) (cB (.str " "))) (b2 fV (b2 fV (b2 fV (gv 0) (cB (.int 1))) (gv 2)) (cB (.int 1))))) eF) (iV [2]))
def lO:Ev->Option Out:=(aD (setG 1 (b2 cu (b2 fV (gv 0) (cB (.int 0))) (cB (.str ":")))) (aD (oY (SM (ao (dw nR (ao (b2 fV (gv 0) (cB (.int 1))) aG)) aG)) (w5 2) qO) (aD (dX (gv 1)) eF)))
def jj:List Bx->Option Bx:=dW 3 lO
def ug:Ev->Option Out:=(aD (uY (rE (tV (mO bU (gv 0)))) (aD noG eF) eF) (aD (dX (Xk (tV (gv 0)) (b2 Od (gv 0) (cB (.str "\n"))) (dw gY aG))) eF))
def eU:List Bx->Option Bx:=dW 1 ug
def uh:Ev->Option Out:=(aD (dX (yM (mO is_tuple (gv 0)) (b2 eqB (dw nR (ao (gv 0) aG)) (gv 1)))) eF)
def mY:List Bx->Option Bx:=dW 2 uh
def o7:Ev->Option Out:=(aD (dX (yM (mO bU (gv 0)) (yM (ch3 leB leB (cB (.int 1)) (dw nR (ao (gv 0) aG)) (gv 2)) (dw allB (ao (lF (Ni (gv 0)) (w5 1) vq (b2 inF (gv 1) (gv 0)) [1] 1) aG))))) eF)
def jy:List Bx->Option Bx:=dW 3 o7
def wL:Ev->Option Out:=(aD (dX (bB 3 jy (ao (gv 0) (ao (cB (.str "abcdefghijklmnopqrstuvwxyz")) (ao (cB (.int 8)) aG))))) eF)
def pJ:List Bx->Option Bx:=dW 1 wL
def wM:Ev->Option Out:=(aD (dX (bB 3 jy (ao (gv 0) (ao (b1 uQ (b2 cu (cB (.str "abcdefghijklmnopqrstuvwxyz")) (cB (.str "0123456789")))) (ao (cB (.int 12)) aG))))) eF)
def wN:List Bx->Option Bx:=dW 1 wM
def j4:Ev->Option Out:=(aD (dX (yM (bB 2 mY (ao (gv 0) (ao (cB (.int 2)) aG))) (yM (bB 1 pJ (ao (b2 fV (gv 0) (cB (.int 0))) aG)) (bB 1 wN (ao (b2 fV (gv 0) (cB (.int 1))) aG))))) eF)
def j5:List Bx->Option Bx:=dW 1 j4
def o8:Ev->Option Out:=(aD (dX (dw allB (ao (lF (SM (ao (b2 subB (dw nR (ao (gv 0) aG)) (cB (.int 1))) aG)) (w5 1) vq (b2 Vi (b2 fV (gv 0) (gv 1)) (b2 fV (gv 0) (b2 cu (gv 1) (cB (.int 1))))) [0] 1) aG))) eF)
def o9:List Bx->Option Bx:=dW 1 o8
def qP:Ev->Option Out:=(aD (uY (Qj (rE (tV (mO is_tuple (gv 0)))) (rE (tV (dw allB (ao (lF (Ni (gv 0)) (w5 0) vq (b1 uQ (bB 1 j5 (ao (gv 0) aG))) [] 1) aG))))) (aD (dX (cB (.bl false))) eF) eF) (aD (dX (bB 1 o9 (ao (b1 uQ (lF (Ni (gv 0)) (Jg 2 (tD (w5 0) (tD (w5 1) Sv))) vq (gv 0) [] 2)) aG))) eF))
def qQ:List Bx->Option Bx:=dW 1 qP
def zA:Ev->Option Out:=(aD (dX (yM (bB 2 mY (ao (gv 0) (ao (cB (.int 2)) aG))) (yM (bB 1 pJ (ao (b2 fV (gv 0) (cB (.int 0))) aG)) (bB 1 qQ (ao (b2 fV (gv 0) (cB (.int 1))) aG))))) eF)
def zB:List Bx->Option Bx:=dW 1 zA
def zF:Ev->Option Out:=(aD (aeA (Jg 3 (tD (w5 1) (tD (w5 2) (tD (w5 3) Sv)))) (b2 YH (gv 0) (cB (.str ":")))) (aD (uY (rE (tV (gv 2))) (aD (dX (cB .non)) eF) eF) (aD (uY (rE (tV (gv 3))) (aD (setG 4 (dw oh aG)) eF) (aD (uY (u9 eqB (b2 fV (gv 3) (cB (.int 0))) (cB (.str " "))) (aD (setG 4 (dw oA (ao (lF (Ni (b2 Od (yj (gv 3) (fj (cB (.int 1))) fu) (cB (.str ", ")))) (w5 0) vq (dw oA (ao (b2 Od (gv 0) (cB (.str " "))) aG)) [] 1) aG))) eF) (aD (dX (cB .non)) eF)) eF)) (aD (setG 5 (dw oh (ao (gv 1) (ao (gv 4) aG)))) (aD (dX (b1 uQ (Xk (tV (bB 1 zB (ao (gv 5) aG))) (gv 5) (cB .non)))) eF)))))
def dD:List Bx->Option Bx:=dW 6 zF
def qR:Ev->Option Out:=(aD (setG 1 (dw gY aG)) (aD (Og 2 1 5 3 4 (enF (ao (b1 uQ (bB 1 eU (ao (gv 0) aG))) aG)) (bB 1 dD (ao (gv 4) aG)) (u9 Ve (gv 5) (cB .non)) (b2 fV (gv 5) (cB (.int 0)))) (aD (dX (dw oA (ao (gv 1) aG))) eF)))
def qT:List Bx->Option Bx:=dW 6 qR
def qU:Dt->Bool
 |.int i=>decide (0<=i/\i < 100000)
 |_=>false
def BR:Ev->Option Dt:=ifX (rE (tV (mO bU (gv 0)))) (rzX qU (cB (.int 0))) (λ_=>none)
def zG:Ev->Option Dt:=Bw (setG 1 (dw gY aG)) (orX (λρ=>TV 1 (pY 1 BR) (ao (gv 0) aG) (ρ.set 2 none)) (λρ=>(Ju 2 1 5 3 4 (enF (ao (b1 uQ (bB 1 eU (ao (gv 0) aG))) aG)) (bB 1 dD (ao (gv 4) aG)) (u9 Ve (gv 5) (cB .non)) (b2 fV (gv 5) (cB (.int 0))) (rzX qU (gv 3)) ρ).bind λq=>match q with
 |.inl _=>none
 |.inr d=>some d))
def qW (Fn:List Bx->Option Bx) (Fx:List Bx->Option Dt):List Bx->Option Bx:=λbs=>match Fx bs with
 |some (.int i)=>some (.z (.tup [.str "refused", .int i]))
 |some _=>none
 |none=>(Fn bs).bind λb=>(zD b).bind λd=>some (.z (.tup [.str "told", d]))
def bY:List Bx->Option Bx:=qW qT (pY 6 zG)
def um:Ev->Option Out:=(aD (setG 1 (Xk (tV (mO bU (gv 0))) (bB 1 dD (ao (gv 0) aG)) (cB .non))) (aD (uY (u9 Ve (gv 1) (cB .non)) (aD noG eF) eF) (aD (dX (gv 1)) eF)))
def qe:List Bx->Option Bx:=dW 2 um
def uG:Ev->Option Dt:=Bw (setG 1 (Xk (tV (mO bU (gv 0))) (bB 1 dD (ao (gv 0) aG)) (cB .non))) (ifX (u9 Ve (gv 1) (cB .non)) (rzX qU (cB (.int 0))) (λ_=>none))
def bZ:List Bx->Option Bx:=qW qe (pY 2 uG)
def nF:Ev->Option Out:=(aD (dX (yM (mO bU (gv 0)) (yM (ch3 leB leB (cB (.int 1)) (dw nR (ao (gv 0) aG)) (gv 2)) (dw allB (ao (lF (Ni (gv 0)) (w5 1) vq (b2 inF (gv 1) (gv 0)) [1] 1) aG))))) eF)
def iM:List Bx->Option Bx:=dW 3 nF
def nG:Ev->Option Out:=(aD (dX (bB 3 iM (ao (gv 0) (ao (cB (.str "abcdefghijklmnopqrstuvwxyz")) (ao (cB (.int 8)) aG))))) eF)
def jT:List Bx->Option Bx:=dW 1 nG
def uH:Ev->Option Out:=(aD (aD (uY (Qj (rE (tV (mO is_tuple (gv 2)))) (Qj (u9 Sy (dw nR (ao (gv 2) aG)) (cB (.int 2))) (rE (tV (bB 1 jT (ao (b2 fV (gv 2) (cB (.int 0))) aG)))))) (aD (dX (cB (.bl false))) eF) eF) (aD (uY (rE (tV (bB 3 iM (ao (b2 fV (gv 2) (cB (.int 1))) (ao (cB (.str "abcdefghijklmnopqrstuvwxyz0123456789")) (ao (cB (.int 12)) aG)))))) (aD (dX (cB (.bl false))) eF) eF) (aD (Nh 1 (b2 fV (gv 2) (cB (.int 0)))) eF))) (iV [2]))
def pq:Ev->Option Out:=(aD (uY (Qj (rE (tV (mO is_tuple (gv 0)))) (Qj (u9 Sy (dw nR (ao (gv 0) aG)) (cB (.int 2))) (Qj (rE (tV (bB 1 jT (ao (b2 fV (gv 0) (cB (.int 0))) aG)))) (rE (tV (mO is_tuple (b2 fV (gv 0) (cB (.int 1))))))))) (aD (dX (cB (.bl false))) eF) eF) (aD (setG 1 (dw gY aG)) (aD (oY (itF (b2 fV (gv 0) (cB (.int 1)))) (w5 2) uH) (aD (dX (b2 eqB (gv 1) (Te (abx (gv 1))))) eF))))
def lQ:List Bx->Option Bx:=dW 3 pq
def oG:Ev->Option Out:=(aD (aD (setG 4 (b2 V0 (gv 3) (cB (.str ",")))) (aD (uY (u9 Vi (gv 4) (cB (.int 0))) (aD (aD (setG 4 (dw nR (ao (gv 3) aG))) eF) (iV [])) (aD eF (iV []))) (aD (setG 5 (yj (gv 3) fu (fj (gv 4)))) (aD (setG 6 (b2 (Zc 1) (gv 5) (cB (.str " ")))) (aD (uY (Qj (u9 Sy (yj (gv 5) fu (fj (cB (.int 1)))) (cB (.str " "))) (u9 Vi (gv 6) (cB (.int 0)))) (aD (dX (cB .non)) eF) eF) (aD (Nh 2 (dw oh (ao (b1 uQ (yj (gv 5) (fj (cB (.int 1))) (fj (gv 6)))) (ao (b1 uQ (yj (gv 5) (fj (b2 cu (gv 6) (cB (.int 1)))) fu)) aG)))) (aD (uY (u9 eqB (yj (gv 3) (fj (gv 4)) fu) (cB (.str ","))) (aD (dX (cB .non)) eF) eF) (aD (setG 3 (yj (gv 3) (fj (b2 cu (gv 4) (cB (.int 1)))) fu)) eF)))))))) (iV [4,5,6]))
def pA:Ev->Option Out:=(aD (setG 1 (b2 V0 (gv 0) (cB (.str ":")))) (aD (setG 2 (dw gY aG)) (aD (setG 3 (yj (gv 0) (fj (b2 cu (gv 1) (cB (.int 1)))) fu)) (aD (Vv (u9 Sy (gv 3) (cB (.str ""))) oG 1000) (aD (setG 7 (dw oh (ao (b1 uQ (yj (gv 0) fu (fj (gv 1)))) (ao (dw oA (ao (gv 2) aG)) aG)))) (aD (uY (Qj (u9 Vi (gv 1) (cB (.int 0))) (rE (tV (bB 1 lQ (ao (gv 7) aG))))) (aD (dX (cB .non)) eF) eF) (aD (dX (gv 7)) eF)))))))
def jz:List Bx->Option Bx:=dW 8 pA
def zH:Ev->Option Out:=(aD (aD (setG 4 (bB 1 jz (ao (b2 fV (gv 2) (gv 3)) aG))) (aD (uY (Qj (u9 Ve (gv 4) (cB .non)) (u9 inF (b2 fV (gv 4) (cB (.int 0))) (lF (Ni (gv 1)) (w5 0) vq (b2 fV (gv 0) (cB (.int 0))) [] 1))) (aD (dX (dw oh (ao (cB (.str "refused")) (ao (gv 3) aG)))) eF) eF) (aD (Nh 1 (gv 4)) eF))) (iV [3,4]))
def wO:Ev->Option Out:=(aD (uY (u9 eqB (gv 0) (cB (.str ""))) (aD (dX (dw oh (ao (cB (.str "told")) (ao (dw oh aG) aG)))) eF) eF) (aD (setG 1 (dw gY aG)) (aD (setG 2 (b2 Od (gv 0) (cB (.str "\n")))) (aD (oY (SM (ao (dw nR (ao (gv 2) aG)) aG)) (w5 3) zH) (aD (dX (dw oh (ao (cB (.str "told")) (ao (dw oA (ao (gv 1) aG)) aG)))) eF)))))
def pK:List Bx->Option Bx:=dW 5 wO
def j6:Ev->Option Out:=(aD (setG 1 (bB 1 jz (ao (gv 0) aG))) (aD (uY (u9 Ve (gv 1) (cB .non)) (aD (dX (b2 eqB (bB 1 bZ (ao (gv 0) aG)) (dw oh (ao (cB (.str "refused")) (ao (cB (.int 0)) aG))))) eF) eF) (aD (dX (b2 eqB (bB 1 bZ (ao (gv 0) aG)) (dw oh (ao (cB (.str "told")) (ao (gv 1) aG))))) eF)))
def fW:List Bx->Option Bx:=dW 2 j6
def qX:Ev->Option Out:=(aD (aeB 2 3 (ao (b2 iu (b2 fV (gv 1) (cB (.int 1))) (b2 cu (dw nR (ao (gv 0) aG)) (cB (.int 1)))) (ao (b2 iu (b2 fV (gv 1) (cB (.int 2))) (dw XM (ao (cB (.int 1)) (ao (dw nR (ao (gv 0) aG)) aG)))) aG))) (aD (uY (u9 eqB (b2 iu (b2 fV (gv 1) (cB (.int 0))) (cB (.int 4))) (cB (.int 0))) (aD (dX (b2 cu (b2 cu (yj (gv 0) fu (fj (gv 2))) (yj (gv 0) (fj (gv 3)) (fj (b2 cu (gv 3) (cB (.int 1)))))) (yj (gv 0) (fj (gv 2)) fu))) eF) eF) (aD (uY (u9 eqB (b2 iu (b2 fV (gv 1) (cB (.int 0))) (cB (.int 4))) (cB (.int 1))) (aD (dX (b2 cu (yj (gv 0) fu (fj (gv 2))) (yj (gv 0) (fj (b2 cu (gv 2) (cB (.int 1)))) fu))) eF) eF) (aD (uY (u9 eqB (b2 iu (b2 fV (gv 1) (cB (.int 0))) (cB (.int 4))) (cB (.int 2))) (aD (dX (b2 cu (b2 cu (yj (gv 0) fu (fj (gv 2))) (dw gY (ao (cB (.str "")) aG))) (yj (gv 0) (fj (gv 2)) fu))) eF) eF) (aD (dX (b2 Vy (gv 0) (b1 Xx (cB (.int 1))))) eF)))))
def qY:List Bx->Option Bx:=dW 4 qX
def lR:Ev->Option Out:=(aD (setG 1 (cB (.str "abcdefghijklmnopqrstuvwxyz0123456789 ABCDEFGHIJKLMNOPQRSTUVWXYZ"))) (aD (dX (b2 fV (b2 cu (gv 1) (cB (.str "!#$&'()*+,-./:;<=>?\x40[]^_`{|}~\"\\"))) (b2 iu (gv 0) (cB (.int 94))))) eF))
def lU:List Bx->Option Bx:=dW 2 lR
def uI:Ev->Option Out:=(aD (aD (setG 4 (b2 iu (b2 fV (gv 1) (b2 cu (cB (.int 1)) (b2 nP (cB (.int 3)) (gv 3)))) (b2 cu (dw nR (ao (gv 0) aG)) (cB (.int 1))))) (aD (setG 5 (b2 fV (b2 cu (gv 2) (b2 Za (dw gY (ao (b1 uQ (bB 1 lU (ao (b2 uz (b2 fV (gv 1) (b2 cu (cB (.int 2)) (b2 nP (cB (.int 3)) (gv 3)))) (cB (.int 24))) aG))) aG)) (cB (.int 8)))) (b2 iu (b2 fV (gv 1) (b2 cu (cB (.int 2)) (b2 nP (cB (.int 3)) (gv 3)))) (cB (.int 24))))) (aD (setG 0 (b2 cu (b2 cu (yj (gv 0) fu (fj (gv 4))) (b2 fV (dw gY (ao (cB (.str "")) (ao (gv 5) (ao (gv 5) aG)))) (b2 iu (b2 fV (gv 1) (b2 cu (cB (.int 3)) (b2 nP (cB (.int 3)) (gv 3)))) (cB (.int 3))))) (yj (gv 0) (fj (b2 cu (gv 4) (b2 fV (dw gY (ao (cB (.int 1)) (ao (cB (.int 0)) (ao (cB (.int 1)) aG)))) (b2 iu (b2 fV (gv 1) (b2 cu (cB (.int 3)) (b2 nP (cB (.int 3)) (gv 3)))) (cB (.int 3)))))) fu))) eF))) (iV [3,4,5]))
def pB:Ev->Option Out:=(aD (setG 2 (dw gY (ao (cB (.str " ")) (ao (cB (.str ",")) (ao (cB (.str ":")) (ao (cB (.str "\n")) (ao (cB (.str ", ")) (ao (cB (.str "a")) (ao (cB (.str "1")) (ao (cB (.str "A")) (ao (cB (.str "")) (ao (cB (.str "  ")) (ao (cB (.str "aaaaaaaaa")) (ao (cB (.str "a 1")) (ao (cB (.str ": ")) (ao (cB (.str ";")) (ao (cB (.str "-")) (ao (cB (.str "\n\n")) aG)))))))))))))))))) (aD (oY (SM (ao (b2 cu (cB (.int 1)) (b2 iu (b2 fV (gv 1) (cB (.int 0))) (cB (.int 3)))) aG)) (w5 3) uI) (aD (dX (gv 0)) eF)))
def lV:List Bx->Option Bx:=dW 6 pB
def Gr:Ev->Option Out:=(aD (aD (uY (Qj (u9 Sy (bB 1 bY (ao (gv 3) aG)) (dw oh (ao (cB (.str "refused")) (ao (cB (.int 0)) aG)))) (u9 Sy (bB 1 bZ (ao (gv 3) aG)) (dw oh (ao (cB (.str "refused")) (ao (cB (.int 0)) aG))))) (aD (dX (cB (.bl false))) eF) eF) eF) (iV [3]))
def Gs:Ev->Option Out:=(aD (aD (setG 6 (bB 2 gq (ao (gv 5) (ao (cB (.int 14)) aG)))) (aD (setG 7 (b2 fV (dw gY (ao (gv 2) (ao (b1 uQ (bB 2 qY (ao (gv 2) (ao (gv 6) aG)))) aG))) (b2 iu (b2 fV (gv 6) (cB (.int 3))) (cB (.int 2))))) (aD (setG 8 (b1 (Jm "\n") (gv 7))) (aD (uY (u9 gtB (b2 iu (b2 uz (b2 fV (gv 6) (cB (.int 3))) (cB (.int 2))) (cB (.int 3))) (cB (.int 0))) (aD (aD (setG 8 (bB 2 lV (ao (gv 8) (ao (b1 uQ (yj (gv 6) (fj (cB (.int 4))) fu)) aG)))) eF) (iV [])) (aD eF (iV []))) (aD (uY (u9 Sy (bB 1 bY (ao (gv 8) aG)) (bB 1 pK (ao (gv 8) aG))) (aD (dX (cB (.bl false))) eF) eF) (aD (setG 9 (bB 2 lV (ao (b2 fV (b2 cu (gv 2) (dw gY (ao (cB (.str "a: b 1, c 2")) aG))) (b2 iu (b2 fV (gv 6) (cB (.int 1))) (b2 cu (dw nR (ao (gv 2) aG)) (cB (.int 1))))) (ao (b1 uQ (yj (gv 6) (fj (cB (.int 4))) fu)) aG)))) (aD (uY (rE (tV (bB 1 fW (ao (gv 9) aG)))) (aD (dX (cB (.bl false))) eF) eF) eF))))))) (iV [5,6,7,8,9]))
def T7:Ev->Option Out:=(aD (setG 1 (bB 3 jZ (ao (gv 0) (ao (cB (.int 0)) (ao (cB (.int 6)) aG))))) (aD (setG 2 (lF (Ni (gv 1)) (w5 0) vq (b1 uQ (bB 1 jj (ao (gv 0) aG))) [] 1)) (aD (oY (itF (dw gY (ao (cB .non) (ao (cB (.int 0)) (ao (cB (.bl true)) (ao (b1 uQ (dw gY (ao (cB (.str "a:")) aG))) (ao (dw oh (ao (cB (.str "a")) (ao (dw oh aG) aG))) (ao (cB .emp) aG)))))))) (w5 3) Gr) (aD (setG 4 (dw gY (ao (cB (.str "")) (ao (cB (.str ":")) (ao (cB (.str "a")) (ao (cB (.str "a:")) (ao (cB (.str "a: ")) (ao (cB (.str "a:b 1")) (ao (cB (.str "a: b 1")) (ao (cB (.str "a: b 1,")) (ao (cB (.str "a: b 1, c")) (ao (cB (.str "a: b 1,c 2")) (ao (cB (.str "a: b 1, b 2")) aG))))))))))))) (aD (setG 4 (b2 cu (gv 4) (dw gY (ao (cB (.str "a: c 1, b 2")) (ao (cB (.str "a:\na:")) (ao (cB (.str "a:\n")) (ao (cB (.str "\na:")) (ao (cB (.str "a :")) (ao (cB (.str "a: b  1")) (ao (cB (.str "a: b 1 2")) (ao (cB (.str "a: b 1 , c 2")) (ao (cB (.str "a::")) aG)))))))))))) (aD (setG 4 (b2 cu (gv 4) (dw gY (ao (cB (.str "a: b 1, c 2")) (ao (cB (.str "\n")) aG))))) (aD (uY (rE (tV (dw allB (ao (lF (Ni (gv 4)) (w5 0) vq (yM (b2 eqB (bB 1 bY (ao (gv 0) aG)) (bB 1 pK (ao (gv 0) aG))) (bB 1 fW (ao (gv 0) aG))) [] 1) aG)))) (aD (dX (cB (.bl false))) eF) eF) (fzG 2 (aD (oY (itF (b2 cu (dw gY (ao (b1 uQ (bB 2 jh (ao (gv 0) (ao (cB (.int 8)) aG)))) aG)) (yj (gv 0) (fj (cB (.int 9))) (fj (cB (.int 30)))))) (w5 5) Gs) (aD (dX (cB (.bl true))) eF))))))))))
def F_law:List Bx->Option Bx:=dW 10 T7
end
end G04
end
section
set_option synthInstance.maxSize 100000
namespace G04
open PySem PySem.Spec PyProof.Rows L2 P1
abbrev Zq:Stmt:=match top 3 with
 |.ClassDef _ _ _ b _ _ _ _ _ _ _=>b.getD 0 (.Pass ⟨0,0,0,0⟩)
 |s=>s
section
variable {P:Program} {w:World} {K:FG_} {mg:Str->Option Value} {base:Heap} {FE:Addr}
def rwI:V->Prop
 |.int i=>0<=i/\i < 100000
 |_=>False
def rwD:V->Ev
 |.int i=>[none,some (.z (.int i))]
 |_=>[none,none]
def acp:Ev->Option Bx:=YK (Oe (cB (.str "row ")) (Oe (hoI (gv 1)) (Oe (cB (.str " is refused")) ag7)))
theorem aho {i:Int} (h:0<=i/\i < 100000):∃ b,acp [none,some (.z (.int i))]=some b:=by
 have hl:=int_text_length_le10 (a:=i) (k:=5) (by decide) (by omega);have hl2:(Str.ofString (toString i)).length<=6:=by rw[PySem.ofString_length];exact hl
 have e:acp [none,some (.z (.int i))]=(if(Str.ofString "row " ++ (Str.ofString (toString i)++(Str.ofString " is refused" ++ Str.empty))).length<=100000 then some (.z (.str (Str.ofString "row " ++ (Str.ofString (toString i)++(Str.ofString " is refused" ++ Str.empty))))) else none):=by
  have e1:hoI (gv 1) [none,some (.z (.int i))]=some (.z (.str (toString i))):=zh h;unfold acp YK;simp only[Oe,e1];rfl
 have l4:(Str.ofString "row ").length=4:=by decide +kernel
 have l11:(Str.ofString " is refused" ++ Str.empty).length=11:=by decide +kernel
 refine⟨_,e.trans (zh ?_)⟩;rw[strLen_append,strLen_append,l4,l11];omega
variable {D fJ:Addr} {fdJ:FuncData}
theorem afn:bw ["self", "row"] ["self", "row"] (aF Zq):=jw
theorem Zr (F:HD K "__init__" "NoText.__init__" Zq fJ fdJ) (hx:VN K D fJ veM "ValueError.__new__" = true) (afj:setIn K D "row" = true) (hm:mg "FolkError" = some (.ref FE)) (hb:TJ K FE "ValueError.__init__") :
  eZ P w K mg base xq 1 fJ fdJ ["self", "row"] (spI D "row" rwI):=by
 refine acg (k:=0) (fa:=acp) (ρ0:=rwD) (ok:=rwI) F afn kr hx afj hm hb (by decide +kernel) rfl (λv hv=>?_) λcdv A outer s H E X eX hr=>?_
 ·cases v with
  |int i=>
   obtain⟨b,eb⟩:=aho hv;refine⟨b,eb,λH e=>⟨rfl,λk b z=>?_,λk j c a b z hc=>?_,Same.refl H,λk c a z hc=>?_⟩⟩
   ·match k with
    |0=>cases z
    |1=>cases z;exact⟨_,rfl,by simp only[bA,Rep]⟩
    |_+2=>cases z
   ·match k with
    |0=>cases z
    |1=>cases z;cases hc
    |_+2=>cases z
   ·match k with
    |0=>cases z
    |1=>cases z;cases hc
    |_+2=>cases z
  |_=>exact False.elim hv
 ·subst eX;exact⟨rfl,ab0 (KJ aR (KJ (Y9 (ak 1)) (KJ aR ae5))),pv 0,pv 0,pv 1,by decide,rfl,rfl,rfl,rfl,rfl,_,rfl⟩
theorem Zt (d:Dt) (v:V) (K:FG_) (H:Hp) (ho:qU d=true) (r:Rep K H d v):rwI v:=by
 cases d<;>first|(cases ho;done)|skip;rename_i i;obtain rfl:v=.int i:=by simpa only[Rep] using r
 have ho:decide (0<=i/\i < 100000)=true:=ho;exact(show 0<=i/\i < 100000 from jb ho)
variable {V4 acq V5 f_c:Addr} {OJ T8 T9 ahp:FuncData}
theorem ahq:bw ["text"] ["text"] (aF uc):=jw
theorem ahr (F:HD K "lines_in" "lines_in" uc V4 OJ) (bx:mg "isinstance" = none) (xW:mg "str" = none)
  (hx:VN K D fJ veM "ValueError.__new__" = true) (hk:keepIn K (.ref D)=true) (Gu:eZ P w K mg base xq 1 fJ fdJ ["self", "row"] (spI D "row" rwI)) (hb:Binds K fdJ ["self", "row"] []) (hm:mg "NoText" = some (.ref D)) :
  eZ P w K mg base (Oj P w) 3 V4 OJ ["text"] (spX K 1 (pY 1 BR) D "row"):=by
 refine Y7 (k:=2) (gx:=BR) F ahq rfl rfl λcdv A outer s H E hr TQ hp=>?_;exact su (ac9 (kZ (ig (mR (ak 0) rfl bx rfl xW))) (su (Gi (okX:=qU) kr hx (by decide) hk Gu hb (hr.mono (by decide)) rfl hm TQ aA Zt)) Oo)
theorem ade:bw ["text", "rows", "names", "at", "line", "row"] ["text"] (aF qJ):=jw
theorem ahs (F:HD K "read_book" "read_book" qJ acq T8) (ajE:eZ P w K mg base xq 1 V4 OJ ["text"] (Wr K 1 eU)) (ajF:eZ P w K mg base (Oj P w) 3 V4 OJ ["text"] (spX K 1 (pY 1 BR) D "row")) (aht:mg "lines_in" = some (.ref V4)) (ahu:keepIn K (.ref V4)=true) (ahv:Binds K OJ ["text"] [])
  (afo:eZ P w K mg base xq 6 V5 T9 ["text"] (Wr K 1 dD)) (afp:mg "row_in" = some (.ref V5)) (afq:keepIn K (.ref V5)=true) (afr:Binds K T9 ["text"] []) (JD:mg "set" = none) (nW:mg "enumerate" = none)
  (hx:VN K D fJ veM "ValueError.__new__" = true) (hk:keepIn K (.ref D)=true) (Gu:eZ P w K mg base xq 1 fJ fdJ ["self", "row"] (spI D "row" rwI)) (hb:Binds K fdJ ["self", "row"] []) (hm:mg "NoText" = some (.ref D)) :
  eZ P w K mg base (Oj P w) 7 acq T8 ["text"] (spX K 1 (pY 6 zG) D "row"):=by
 refine Y7 (k:=6) (gx:=zG) F ade rfl rfl λcdv A outer s H E hr TQ hp=>?_;have hu:=Dz hr;have nd:=ade.nd;exact Om (aY 1 nd (dO aB)) (afm (Zf 2 nd rfl JD (Zb (n:=1) ajF (hr.mono (by decide)) rfl aht ahu ahv TQ hp rfl rfl nW (aj (ak 0) aB)))
  (Y8 2 1 5 3 4 hp rfl nd rfl JD (NZ rfl nW (aj (jH (Ds ajE (hr.mono (by decide)) rfl aht ahu ahv (aj (ak 0) aB))) aB)) (Ds afo (hr.mono (by decide)) rfl afp afq afr (aj (ak 4) aB)) (dM of_is (ak 5) kY (cG _)) (bC (ak 5) aA) (bC (ak 5) aA)
   (su (Gi (okX:=qU) kr hx (by decide) hk Gu hb (hr.mono (by decide)) rfl hm TQ (ak 3) Zt))))
theorem adf:bw ["text", "row"] ["text"] (aF ud):=jw
theorem ahw (F:HD K "read_row" "read_row" ud acq T8) (afo:eZ P w K mg base xq 6 V5 T9 ["text"] (Wr K 1 dD)) (afp:mg "row_in" = some (.ref V5)) (afq:keepIn K (.ref V5)=true) (afr:Binds K T9 ["text"] []) (bx:mg "isinstance" = none) (xW:mg "str" = none)
  (hx:VN K D fJ veM "ValueError.__new__" = true) (hk:keepIn K (.ref D)=true) (Gu:eZ P w K mg base xq 1 fJ fdJ ["self", "row"] (spI D "row" rwI)) (hb:Binds K fdJ ["self", "row"] []) (hm:mg "NoText" = some (.ref D)) :
  eZ P w K mg base (Oj P w) 7 acq T8 ["text"] (spX K 1 (pY 2 uG) D "row"):=by
 refine Y7 (k:=6) (gx:=uG) F adf rfl rfl λcdv A outer s H E hr TQ hp=>?_;have hu:=Dz hr;have nd:=adf.nd;exact Om (aY 1 nd (J9 (ig (mR (ak 0) rfl bx rfl xW)) (Ds afo (hr.mono (by decide)) rfl afp afq afr (aj (ak 0) aB)) kY)) (su (ac9 (dM of_is (ak 1) kY (cG _)) (su (Gi (okX:=qU) kr hx (by decide) hk Gu hb (hr.mono (by decide)) rfl hm TQ aA Zt)) Oo))
theorem Zu {X:Cx}:gF X (.builtin "isinstance") (λxs H Q=>∃ d x,xs=[x,.ty "bool"]/\Rep X.K H (.int d) x/\Q (.bl false) H):=by
 intro pins s σ H xs us Q I r h;obtain⟨d,x,rfl,rb,q⟩:=h;obtain⟨u,w',rfl,r1,r2⟩:=vals2 r;cases r2;exact XD I (d:=.int d) rb r1 q
variable {c1 c2 c3 c4 c5 c6 fD:Addr} {fdD:FuncData} {pD:LS_} {Fn Fc:List Bx->Option Bx} {Fx:List Bx->Option Dt}
theorem JF:bw ["_law_deed", "_law_thing", "_law_caught_here", "_law_found", "e", "_law_others"] ["_law_deed", "_law_thing"] (aF pZ):=jw
theorem JG (F:HD K "_law_caught" "_law_caught" pZ f_c ahp) (hk:keepIn K (.ref fD)=true) (hbD:Binds K fdD pD []) (G:eZ P w K mg base (Oj P w) 7 fD fdD pD (λvs H Q E=>Wr K 1 Fn vs H Q E\/spX K 1 Fx D "row" vs H Q E))
  (V6:mg "FolkError" = some (.ref FE)) (hex:exmOne K (.ref D) (.ref FE)=some true) (hget:xP K D=true) (hfn:findIn K (.ref D) "row" = some none) (m1:mg "NoName" = some (.ref c1)) (m2:mg "NoReason" = some (.ref c2)) (m3:mg "NoRoom" = some (.ref c3)) (m4:mg "NoRow" = some (.ref c4)) (m5:mg "NoStep" = some (.ref c5)) (m6:mg "NoUndo" = some (.ref c6))
  (hany:kitAny K (.ref D) [.ref c1,.ref c2,.ref c3,.ref c4,.ref c5,.ref c6]=some false) (hself:kitOne K (.ref D) (.ref D)=some true) (hve:kitOne K (.ref D) (.type "ValueError")=some true) (bx:mg "isinstance" = none) (acr:mg "ValueError" = none) (K3:mg "bool" = none) (hmD:mg "NoText" = some (.ref D))
  (link:∀ bs r,Fc bs=some r->(∃ d,Fn bs=some (.z d)/\r=.z (.tup [.str "told", d]))\/∃ i,Fx bs=some (.int i)/\r=.z (.tup [.str "refused", .int i])) :
  eZ P w K mg base xq 8 f_c ahp ["_law_deed", "_law_thing"] (spG fD K 1 Fc):=by
 refine HD.ok (k:=7) F JF (λvs H Q E h=>by obtain⟨vs',rfl,h,_⟩:=h;rw[Zp,h];rfl) λcdv A outer s H vs Q E hr hsp=>?_;have nd:=JF.nd;have hu:=Dz hr;have hC:∀ C,C∈[D]->xP K C=true:=λC z=>by rw[List.mem_singleton.mp z];exact hget
 have hC2:∀ C,C∈[D]->xP K C=true/\findIn K (.ref C) "row" = some none:=λC z=>by rw[List.mem_singleton.mp z];exact⟨hget,hfn⟩
 refine⟨_,(by exact(fZ (uU (i:=2) nd rfl (.inl rfl) Qk) (fZ (uU (i:=3) nd rfl (.inl rfl) Qk) (fZ (afi (C:=D) (iv:=4) (iy:=3) (f:=fD) rfl rfl nd rfl rfl rfl rfl rfl V6 hex (λa=>yI (uU (X:=Cx.inX _ a) (i:=2) nd rfl (.inl rfl) (pv 4))) (pv 0) G (hr.mono (by decide)) hk hbD (bT (pv 1) g8)) (fZ (Ml (adB (adA (pv 2))) (yI (JX (JZ (bT Ql (bT (pv 3) g8))))) Dj)
  (fZ (uU (i:=5) nd rfl (.inl rfl) (nO (Gh (Cs:=[D]) hC) rfl bx rfl (bT (pv 2) (bT (JZ (bT (nA (v:=.ref c1) rfl m1 rfl) (bT (nA (v:=.ref c2) rfl m2 rfl) (bT (nA (v:=.ref c3) rfl m3 rfl) (bT (nA (v:=.ref c4) rfl m4 rfl) (bT (nA (v:=.ref c5) rfl m5 rfl) (bT (nA (v:=.ref c6) rfl m6 rfl) g8))))))) g8))))
  (fZ (Ml (PW.pt (Mi (JW (pv 5)) (Mi (Qn (JW (nO (Gh (Cs:=[D]) hC) rfl bx rfl (bT (pv 2) (bT (nA (v:=.ref D) rfl hmD rfl) g8))))) (Mi (Qn (JW (nO (Gh (Cs:=[D]) hC) rfl bx rfl (bT (pv 2) (bT (Di (v:=.ty "ValueError") rfl acr rfl rfl) g8))))) (Qm (JW (nO Zu rfl bx rfl (bT (Y6 (Cs:=[D]) hC2 (pv 2) rfl) (bT (Di (v:=.ty "bool") rfl K3 rfl rfl) g8))))))))) zY Dj)
  (yI (JX (JZ (bT Ql (bT (Y6 (Cs:=[D]) hC2 (pv 2) rfl) g8)))))))))))),?_⟩
 obtain⟨vs',rfl,hl,bs,r,reps,no,er,q⟩:=hsp;obtain⟨v1,rfl⟩:∃ v1,vs'=[v1]:=by
  match vs',hl with
  |[v1],_=>exact⟨v1,rfl⟩
 rcases link bs r er with⟨d,en,rfl⟩|⟨i,ex,rfl⟩
 ·refine⟨.ref fD,rfl,rfl,v1,rfl,.inl ⟨rfl,bs,_,reps,no,en,λv H' s' _ r'=>?_⟩⟩;refine⟨.non,rfl,true,rfl,?_⟩;show(if true=true then _ else _);rw[zh rfl];refine⟨v,rfl,(show 2<=sizeLine by decide +kernel),λp hp=>q _ _ (s'.trans (bI hp)) trivial ?_⟩;have kp:=Kp.of (bI (o:=.tup [.str "told", v]) hp);show Rep K _ _ _;simp only[Rep];exact⟨p,_,rfl,.inl (.inl aV),aQ.cons (by simp only[Rep];exact⟨trivial,by decide +kernel⟩) (aQ.cons (Rep.kp kp r') aQ.nil)⟩
 ·refine⟨.ref fD,rfl,rfl,v1,rfl,.inr ⟨rfl,bs,.int i,reps,no,ex,λdx v H' s' ed r'=>⟨rfl,dx,rfl,λa na=>?_⟩⟩⟩;obtain rfl:v=.int i:=by simpa only[Rep] using r'
  refine⟨.ref a,rfl,?_⟩;have s4:Same H' (upd H' a (Y4 a D dx)):=bI na;refine⟨.ref a,rfl,false,rfl,?_⟩;show(if false=true then _ else _);rw[zC zk];refine⟨.ref a,rfl,(show 6<=sizeLine by decide +kernel),λp hp=>?_⟩;have s5:Same (upd H' a (Y4 a D dx)) (upd (upd H' a (Y4 a D dx)) p (.tup [.ref c1,.ref c2,.ref c3,.ref c4,.ref c5,.ref c6])):=bI hp;have ea:=s5 _ _ (aV (H:=H') (a:=a) (o:=Y4 a D dx));have ed5:=s5 _ _ (s4 _ _ ed);refine⟨a,D,dx,_,_,false,List.mem_singleton.mpr rfl,rfl,ea,ed5,.inr (.inr ⟨p,[c1,c2,c3,c4,c5,c6],rfl,aV,hany⟩),?_⟩;generalize hH5:upd (upd H' a (Y4 a D dx)) p (.tup [.ref c1,.ref c2,.ref c3,.ref c4,.ref c5,.ref c6])=H5 at *
  refine⟨.bl false,rfl,false,rfl,?_⟩;show(if false=true then _ else _);rw[zC zk];refine⟨.ref a,rfl,a,D,dx,_,_,true,List.mem_singleton.mpr rfl,rfl,ea,ed5,.inl ⟨D,rfl,hself⟩,true,rfl,?_⟩;show(if false=true then _ else _);rw[zC zk];refine⟨.ref a,rfl,a,D,dx,_,_,true,List.mem_singleton.mpr rfl,rfl,ea,ed5,.inr (.inl ⟨"ValueError", rfl,hve⟩),true,rfl,?_⟩;show(if false=true then _ else _);rw[zC zk];refine⟨.ref a,rfl,a,D,dx,.int i,List.mem_singleton.mpr rfl,rfl,ea,ed5,i,.int i,rfl,(by simp only[Rep]),false,rfl,?_⟩;show(if false=true then _ else _);rw[zC zk];refine⟨.ref a,rfl,a,D,dx,.int i,List.mem_singleton.mpr rfl,rfl,ea,ed5,(show 2<=sizeLine by decide +kernel),λp2 hp2=>q _ _ (((s'.trans s4).trans s5).trans (bI hp2)) trivial ?_⟩;show Rep K _ _ _;simp only[Rep];exact⟨p2,_,rfl,.inl (.inl aV),aQ.cons (by simp only[Rep];exact⟨trivial,by decide +kernel⟩) (aQ.cons (by simp only[Rep]) aQ.nil)⟩
theorem lkC {Fn:List Bx->Option Bx} {Fx:List Bx->Option Dt} (bs:List Bx) (r:Bx) (h:qW Fn Fx bs=some r):(∃ d,Fn bs=some (.z d)/\r=.z (.tup [.str "told", d]))\/∃ i,Fx bs=some (.int i)/\r=.z (.tup [.str "refused", .int i]):=by
 unfold qW at h;split at h
 ·rename_i i e;cases h;exact .inr ⟨i,e,rfl⟩
 ·cases h
 ·obtain⟨b,eb,h⟩:=bind_some h;obtain⟨d,ed,h⟩:=bind_some h;cases h;cases b<;>first|(cases ed;done)|skip;cases ed;exact .inl ⟨_,eb,rfl⟩
end
structure T (K:FG_) (mg:Str->Option Value) where
 {D:Addr}
 {FE:Addr}
 {c1:Addr}
 {c2:Addr}
 {c3:Addr}
 {c4:Addr}
 {c5:Addr}
 {c6:Addr}
 V6:mg "FolkError" = some (.ref FE)
 jmC:mg "NoText" = some (.ref D)
 m1:mg "NoName" = some (.ref c1)
 m2:mg "NoReason" = some (.ref c2)
 m3:mg "NoRoom" = some (.ref c3)
 m4:mg "NoRow" = some (.ref c4)
 m5:mg "NoStep" = some (.ref c5)
 m6:mg "NoUndo" = some (.ref c6)
 xJ:IQ K D "NoText.__init__" Zq ["self", "row"]
 hbi:TJ K FE "ValueError.__init__"
 jx:VN K D xJ.f veM "ValueError.__new__" = true
 ahz:setIn K D "row" = true
 jkC:keepIn K (.ref D)=true
 jex:exmOne K (.ref D) (.ref FE)=some true
 ahA:xP K D=true
 jfn:findIn K (.ref D) "row" = some none
 hany:kitAny K (.ref D) [.ref c1,.ref c2,.ref c3,.ref c4,.ref c5,.ref c6]=some false
 hself:kitOne K (.ref D) (.ref D)=some true
 hve:kitOne K (.ref D) (.type "ValueError")=some true
 acr:mg "ValueError" = none
 K3:mg "bool" = none
 lq:DQ K mg "_law_cell" Gn ["_law_script", "_law_k"]
 gA:DQ K mg "_law_numbers" xQ ["_law_cell_here", "_law_many"]
 qZ:DQ K mg "_law_names" BK ["_law_xs", "_law_many"]
 jk:DQ K mg "_law_any_text" vK ["_law_x", "_law_letters", "_law_most"]
 lW:DQ K mg "_law_wide_row" vL ["_law_name", "_law_xs"]
 j7:DQ K mg "_law_wide_book" uD ["_law_script", "_law_at", "_law_most"]
 lX:DQ K mg "_law_row_text" vM ["_law_row"]
 iz:DQ K mg "lines_in" uc ["text"]
 mZ:DQ K mg "is_tuple" Gq ["thing", "many"]
 jA:DQ K mg "is_text_of" zp ["thing", "signs", "longest"]
 pL:DQ K mg "is_name" Jz ["thing"]
 wQ:DQ K mg "is_word" JB ["thing"]
 j8:DQ K mg "is_field_word" uE ["thing"]
 pC:DQ K mg "are_rising" zq ["things"]
 q8:DQ K mg "are_words" BL ["thing"]
 zJ:DQ K mg "is_row" Oz ["thing"]
 gk:DQ K mg "row_in" OD ["text"]
 d9:DQ K mg "read_book" qJ ["text"]
 aP:DQ K mg "_law_caught" pZ ["_law_deed", "_law_thing"]
 eV:DQ K mg "read_row" ud ["text"]
 iQ:DQ K mg "_law_is_text" xT ["_law_thing", "_law_letters", "_law_most"]
 jU:DQ K mg "_law_is_name" xU ["_law_thing"]
 pF:DQ K mg "_law_is_row" zu ["_law_thing"]
 jB:DQ K mg "_law_row_in" zx ["_law_text"]
 sJ:DQ K mg "_law_due" JC ["_law_text"]
 iH:DQ K mg "_law_row_right" uF ["_law_text"]
 q9:DQ K mg "_law_moved" BP ["_law_rows", "_law_xs"]
 lY:DQ K mg "_law_any_sign" vN ["_law_x"]
 lZ:DQ K mg "_law_spoilt" zy ["_law_text", "_law_xs"]
 x_law:DQ K mg "law" s_law ["_law_script"]
 ahB:mg "abs" = none
 O1:mg "all" = none
 nW:mg "enumerate" = none
 adg:mg "int" = none
 bx:mg "isinstance" = none
 oN:mg "len" = none
 ahC:mg "max" = none
 nH:mg "range" = none
 JD:mg "set" = none
 O2:mg "sorted" = none
 xW:mg "str" = none
 j9:mg "tuple" = none
 V7:∃ tk,mg "FIGURES" = some (.str "0123456789" tk)
 JH:∃ tk,mg "LETTERS" = some (.str "abcdefghijklmnopqrstuvwxyz" tk)
 Gv:∃ tk,mg "LONGEST_NAME" = some (.int 8 tk)
 Gw:∃ tk,mg "LONGEST_WORD" = some (.int 12 tk)
section
variable {P:Program} {w:World} {K:FG_} {mg:Str->Option Value} {base:Heap} (t:T K mg)
theorem O4:bw ["_law_script", "_law_k", "_law_state", "_law_cell_here"] ["_law_script", "_law_k"] (aF Gn):=jw
theorem O5:Ok P w base t.lq 1 2 jh:=zm (g:=uf) t.lq O4 λ_ _ _ _ _ _ hr hu nd=>(aq (gK (dM Ai (ak 1) (cg jN rfl t.oN jM (aj (ak 0) aB)) (cG _)) (aq (bJ (bC (ak 0) (ak 1))) aK) aK) (aq (aY 2 nd (aO cH (aO gM aA (aO bh (aO bh (aO gM (ak 1) (ak 1)) (aO gM aA (ak 1))) aA)) aA)) (aq (ou PassesOwn.never rfl (Dq (iU (ak 0) cU (bV aA))) (cM 3 nd) (cV [3] (aq (aY 2 nd (aO cH (aO bh (aO gM (ak 2) aA) (ak 3)) aA)) aK))) (aq (bJ (ak 2)) aK))))
theorem Gx:bw ["_law_cell_here", "_law_many", "_law_found", "_law_state", "_law_digits", "_law_k"] ["_law_cell_here", "_law_many"] (aF xQ):=jw
theorem Gy:Ok P w base t.gA 1 2 gq:=zm (g:=nD) t.gA Gx λ_ _ _ _ _ _ hr hu nd=>(aq (aY 2 nd (dO aB)) (aq (aY 3 nd (aO cH (aO gM (aO bh (aO cH (ak 0) aA) aA) aA) aA)) (aq (aY 4 nd aA) (aq (gK (MF (pP (dM Ai (ak 0) aA (cG _)) (qz (dM agI (ak 0) (aO aeo aA aA) (cG _))))) (cV [] (aq (aY 4 nd (cg aez rfl t.ahB aev (aj (ak 0) aB))) aK)) (cV [] aK)) (aq (ou PassesOwn.never rfl (jQ rfl t.nH (aj (ak 1) aB)) (cM 5 nd) (cV [5] (aq (aY 3 nd (aO cH (aO bh (aO bh (aO gM (ak 3) (aO bh (aO cH (ak 3) aA) aA)) (aO gM aA (ak 5))) aA) aA)) (aq (Ad 2 (bC (dO (aj (ak 3) (aj (aO cH (ak 4) aA) aB))) (jt XJ rfl t.adg XC (aj (rD acZ (ak 4) aA (cG _)) aB)))) (aq (aY 4 nd (aO oX (ak 4) aA)) aK))))) (aq (Ss 2) aK))))))
theorem K4:bw ["_law_xs", "_law_many", "_law_letters", "_law_stem", "_law_at", "_law_found", "_law_k", "_law_mark", "_law_name"] ["_law_xs", "_law_many"] (aF BK):=jw
theorem K5:Ok P w base t.qZ 1 2 qL:=zm (g:=qK) t.qZ K4 λ_ _ _ _ _ _ hr hu nd=>(aq (aY 2 nd aR) (aq (aY 3 nd (SN (nC ["_law_k"] (Fy ["_law_letters", "_law_xs"] [2,0]) rfl (Xw (jQ rfl t.nH (aj (aO cH (bC (ak 0) aA) aA) aB))) (λ_ _ _ _=>(cM 2 (by show List.Nodup (_++_);decide +kernel))) (λ_ _ _ _=>fK) (λ_ _ _ _=>(bC (ak 0) (aO cH (aO oX (bC (ak 1) (ak 2)) aA) aA))) (jX)))) (aq (aY 4 nd (aO cH (bC (ak 0) aA) (aO bh (cg jN rfl t.oN jM (aj (ak 3) aB)) aA))) (aq (aY 5 nd (dO aB)) (aq (ou PassesOwn.never rfl (jQ rfl t.nH (aj (ak 1) aB)) (cM 6 nd) (cV [6,7,8] (aq (aY 7 nd (bC (ak 2) (aO cH (aO bh (ak 6) (bC (ak 0) aA)) aA))) (aq (aY 8 nd (aO bh (aO bh (iU (ak 3) cU (bV (ak 4))) (ak 7)) (iU (ak 3) (bV (ak 4)) cU))) (aq (gK (dM (of_eq hu) (aO cH (bC (ak 0) aA) aA) aA (cG _)) (cV [] (aq (aY 8 nd (aO gM (bC (ak 2) (aO oX (ak 6) aA)) (aO bh aA (aO cH (ak 6) aA)))) aK)) (cV [] aK)) (aq (Ad 5 (ak 8)) aK)))))) (aq (Ss 5) aK))))))
theorem Cm:bw ["_law_x", "_law_letters", "_law_most", "_law_found", "_law_k"] ["_law_x", "_law_letters", "_law_most"] (aF vK):=jw
theorem Cp:Ok P w base t.jk 1 3 ji:=zm (g:=lK) t.jk Cm λ_ _ _ _ _ _ hr hu nd=>(aq (aY 3 nd aR) (aq (ou PassesOwn.never rfl (jQ rfl t.nH (aj (aO bh aA (aO cH (ak 0) (ak 2))) aB)) (cM 4 nd) (cV [4] (aq (aY 3 nd (aO bh (ak 3) (bC (ak 1) (aO cH (aO oX (ak 0) (aO bh aA (aO gM aA (ak 4)))) (cg jN rfl t.oN jM (aj (ak 1) aB)))))) aK))) (aq (bJ (ak 3)) aK)))
theorem Cq:bw ["_law_name", "_law_xs", "_law_words", "_law_k", "_law_field", "_law_signs"] ["_law_name", "_law_xs"] (aF vL):=jw
theorem Cr (mj:Ok P w base t.jk 1 3 ji):Ok P w base t.lW 2 2 lN:=zm (g:=lM) t.lW Cq λ_ _ _ _ _ _ hr hu nd=>(aq (aY 2 nd abf) (aq (ou PassesOwn.never rfl (jQ rfl t.nH (aj (aO cH (bC (ak 1) aA) aA) aB)) (cM 3 nd) (cV [3,4,5] (aq (aY 4 nd (c7 t.jk mj hr (aj (bC (ak 1) (aO bh aA (aO gM aA (ak 3)))) (aj aR (aj (bC (dO (aj aA (aj aA aB))) (aO cH (aO oX (bC (ak 1) (aO bh aA (aO gM aA (ak 3)))) aA) aA)) aB))))) (aq (aY 5 nd (bC (dO (aj aR (aj aR aB))) (aO cH (aO oX (bC (ak 1) (aO bh aA (aO gM aA (ak 3)))) aA) aA))) (aq (abh 2 hu (jH (c7 t.jk mj hr (aj (bC (ak 1) (aO bh aA (aO gM aA (ak 3)))) (aj (ak 5) (aj (bC (dO (aj aA (aj aA aB))) (aO cH (aO oX (bC (ak 1) (aO bh aA (aO gM aA (ak 3)))) aA) aA)) aB))))) (ak 4)) aK))))) (aq (bJ (jL (aj (ak 0) (aj (jt pR rfl t.j9 nQ (aj (nC ["_law_field"] (Fy ["_law_words"] [2]) rfl (oV (cg (Q5 rfl) rfl t.O2 Vf (aj (ak 2) aB))) (λ_ _ _ _=>(cM 1 (by show List.Nodup (_++_);decide +kernel))) (λ_ _ _ _=>fK) (λ_ _ _ _=>(jL (aj (ak 1) (aj (abg hu (ak 0) (ak 1)) aB)))) (jX)) aB)) aB)))) aK)))
theorem Am:bw ["_law_script", "_law_at", "_law_most", "_law_head", "_law_names_here", "_law_found", "_law_k", "_law_name"] ["_law_script", "_law_at", "_law_most"] (aF uD):=jw
theorem Ao (lu:Ok P w base t.lq 1 2 jh) (vO:Ok P w base t.qZ 1 2 qL) (gB:Ok P w base t.gA 1 2 gq) (qg:Ok P w base t.lW 2 2 lN):Ok P w base t.j7 3 3 jZ:=zm (g:=jY) t.j7 Am λ_ _ _ _ _ _ hr hu nd=>(aq (aY 3 nd (c7 t.gA gB hr (aj (jH (c7 t.lq lu hr (aj (ak 0) (aj (ak 1) aB)))) (aj aA aB)))) (aq (aY 4 nd (c7 t.qZ vO hr (aj (ak 3) (aj aA aB)))) (aq (aY 5 nd (dO aB)) (aq (ou PassesOwn.never rfl (jQ rfl t.nH (aj (aO cH (bC (ak 3) aA) (aO bh (ak 2) aA)) aB)) (cM 6 nd) (cV [6,7] (aq (aY 7 nd (bC (ak 4) (aO cH (aO bh (aO gM aA (ak 6)) (bC (ak 3) aA)) aA))) (aq (Ad 5 (jH (c7 t.lW qg hr (aj (ak 7) (aj (jH (c7 t.gA gB hr (aj (jH (c7 t.lq lu hr (aj (ak 0) (aj (jH (aO bh (aO bh (ak 1) aA) (ak 6))) aB)))) (aj aA aB)))) aB))))) aK)))) (aq (bJ (jt pR rfl t.j9 nQ (aj (ak 5) aB))) aK)))))
theorem Cu:bw ["_law_row", "_law_text", "_law_k"] ["_law_row"] (aF vM):=jw
theorem Cw:Ok P w base t.lX 1 1 jj:=zm (g:=lO) t.lX Cu λ_ _ _ _ _ _ hr hu nd=>(aq (aY 1 nd (aO bh (bC (ak 0) aA) aR)) (aq (ou PassesOwn.never rfl (jQ rfl t.nH (aj (cg jN rfl t.oN jM (aj (bC (ak 0) aA) aB)) aB)) (cM 2 nd) (cV [2] (aq (aY 1 nd (aO bh (aO bh (aO bh (aO bh (aO bh (ak 1) (bC (dO (aj aR (aj aR aB))) (jt XJ rfl t.adg XC (aj (rD (of_eq hu) (ak 2) aA (cG _)) aB)))) aR) (bC (bC (bC (ak 0) aA) (ak 2)) aA)) aR) (bC (bC (bC (ak 0) aA) (ak 2)) aA))) aK))) (aq (bJ (ak 1)) aK)))
theorem O6:bw ["text"] ["text"] (aF uc):=jw
theorem O7:Ok P w base t.iz 1 1 eU:=zm (g:=ug) t.iz O6 λ_ _ _ _ _ _ hr hu nd=>(aq (gK (kZ (ig (mR (ak 0) rfl t.bx rfl t.xW))) (aq Tg aK) aK) (aq (bJ (J9 (ig (ak 0)) (zf (ak 0) aR) (dO aB))) aK))
theorem O8:bw ["thing", "many"] ["thing", "many"] (aF Gq):=jw
theorem O9:Ok P w base t.mZ 1 2 mY:=zm (g:=uh) t.mZ O8 λ_ _ _ _ _ _ hr hu nd=>(aq (bJ (rG (lH (ak 0) rfl t.bx rfl t.j9) (Aa (rD (of_eq hu) (cg jN rfl t.oN jM (aj (ak 0) aB)) (ak 1) (cG _))))) aK)
theorem Ih:bw ["thing", "signs", "longest"] ["thing", "signs", "longest"] (aF zp):=jw
theorem Ii:Ok P w base t.jA 1 3 jy:=zm (g:=o7) t.jA Ih λ_ _ _ _ _ _ hr hu nd=>(aq (bJ (rG (mR (ak 0) rfl t.bx rfl t.xW) (rG (Mw of_le of_le aA (cg jN rfl t.oN jM (aj (ak 0) aB)) (ak 2)) (Aa (cg (Fo rfl) rfl t.O1 Fj (aj (nC ["sign"] (Fy ["signs"] [1]) rfl (oV (ak 0)) (λ_ _ _ _=>(cM 1 (by show List.Nodup (_++_);decide +kernel))) (λ_ _ _ _=>fK) (λ_ _ _ _=>(rD Xz (ak 1) (ak 0) (by with_unfolding_all rfl))) (jX)) aB)))))) aK)
theorem Rq:bw ["thing"] ["thing"] (aF Jz):=jw
theorem Rr (jC:Ok P w base t.jA 1 3 jy):Ok P w base t.pL 2 1 pJ:=zm (g:=wL) t.pL Rq λ_ _ _ _ _ _ hr hu nd=>by
 obtain⟨Rt,Aq⟩:=t.JH;obtain⟨Wv,Gz⟩:=t.Gv;exact(aq (bJ (c7 t.jA jC hr (aj (ak 0) (aj (Ey rfl Aq) (aj (Mz rfl Gz) aB))))) aK)
theorem Ru:bw ["thing"] ["thing"] (aF JB):=jw
theorem Rv (jC:Ok P w base t.jA 1 3 jy):Ok P w base t.wQ 2 1 wN:=zm (g:=wM) t.wQ Ru λ_ _ _ _ _ _ hr hu nd=>by
 obtain⟨afs,V8⟩:=t.V7;obtain⟨Rt,Aq⟩:=t.JH;obtain⟨Ww,GC⟩:=t.Gw;exact(aq (bJ (c7 t.jA jC hr (aj (ak 0) (aj (jH (aO bh (Ey rfl Aq) (Ey rfl V8))) (aj (Mz rfl GC) aB))))) aK)
theorem Ar:bw ["thing"] ["thing"] (aF uE):=jw
theorem Av (pN:Ok P w base t.pL 2 1 pJ) (m7:Ok P w base t.mZ 1 2 mY) (Aw:Ok P w base t.wQ 2 1 wN):Ok P w base t.j8 3 1 j5:=zm (g:=j4) t.j8 Ar λ_ _ _ _ _ _ hr hu nd=>(aq (bJ (rG (c7 t.mZ m7 hr (aj (ak 0) (aj aA aB))) (rG (c7 t.pL pN hr (aj (bC (ak 0) aA) aB)) (Aa (c7 t.wQ Aw hr (aj (bC (ak 0) aA) aB)))))) aK)
theorem Ij:bw ["things"] ["things"] (aF zq):=jw
theorem Ik:Ok P w base t.pC 1 1 o9:=zm (g:=o8) t.pC Ij λ_ _ _ _ _ _ hr hu nd=>(aq (bJ (cg (Fo rfl) rfl t.O1 Fj (aj (nC ["at"] (Fy ["things"] [0]) rfl (Xw (jQ rfl t.nH (aj (aO aen (cg jN rfl t.oN jM (aj (ak 0) aB)) aA) aB))) (λ_ _ _ _=>(cM 1 (by show List.Nodup (_++_);decide +kernel))) (λ_ _ _ _=>fK) (λ_ _ _ _=>(rD Ai (bC (ak 0) (ak 1)) (bC (ak 0) (aO bh (ak 1) aA)) (cG _))) (jX)) aB))) aK)
theorem K6:bw ["thing"] ["thing"] (aF BL):=jw
theorem K7 (uo:Ok P w base t.pC 1 1 o9) (oH:Ok P w base t.j8 3 1 j5):Ok P w base t.q8 4 1 qQ:=zm (g:=qP) t.q8 K6 λ_ _ _ _ _ _ hr hu nd=>(aq (gK (MF (pP (kZ (ig (lH (ak 0) rfl t.bx rfl t.j9))) (qz (kZ (ig (cg (Fo rfl) rfl t.O1 Fj (aj (nC ["pair"] (Fy [] []) rfl (oV (ak 0)) (λ_ _ _ _=>(cM 0 (by show List.Nodup (_++_);decide +kernel))) (λ_ _ _ _=>fK) (λ_ _ _ _=>(jH (c7 t.j8 oH hr (aj (ak 0) aB)))) (jX)) aB))))))) (aq (bJ xu) aK) aK) (aq (bJ (c7 t.pC uo hr (aj (jH (nC ["field", "word"] (Fy [] []) rfl (oV (ak 0)) (λ_ _ _ _=>(Xn rfl (uZ (cM 0 (by show List.Nodup (_++_);decide +kernel)) (uZ (cM 1 (by show List.Nodup (_++_);decide +kernel)) Sw)))) (λ_ _ _ _=>fK) (λ_ _ _ _=>(ak 0)) (aej (MN (jX) (MN (jX) aaZ))))) aB))) aK))
theorem V9:bw ["thing"] ["thing"] (aF Oz):=jw
theorem Wa (vP:Ok P w base t.q8 4 1 qQ) (pN:Ok P w base t.pL 2 1 pJ) (m7:Ok P w base t.mZ 1 2 mY):Ok P w base t.zJ 5 1 zB:=zm (g:=zA) t.zJ V9 λ_ _ _ _ _ _ hr hu nd=>(aq (bJ (rG (c7 t.mZ m7 hr (aj (ak 0) (aj aA aB))) (rG (c7 t.pL pN hr (aj (bC (ak 0) aA) aB)) (Aa (c7 t.q8 vP hr (aj (bC (ak 0) aA) aB)))))) aK)
theorem Wb:bw ["text", "name", "colon", "rest", "words", "row"] ["text"] (aF OD):=jw
theorem Wc (GD:Ok P w base t.zJ 5 1 zB):Ok P w base t.gk 6 1 dD:=zm (g:=zF) t.gk Wb λ_ _ _ _ _ _ hr hu nd=>(aq (aed (abZ (ak 0) aR) (Xn rfl (uZ (cM 1 nd) (uZ (cM 2 nd) (uZ (cM 3 nd) Sw))))) (aq (gK (kZ (ig (ak 2))) (aq (bJ kY) aK) aK) (aq (gK (kZ (ig (ak 3))) (aq (aY 4 nd (jL aB)) aK) (aq (gK (dM (of_eq hu) (bC (ak 3) aA) aR (cG _)) (aq (aY 4 nd (jt pR rfl t.j9 nQ (aj (nC ["pair"] (Fy [] []) rfl (oV (zf (iU (ak 3) (bV aA) cU) aR)) (λ_ _ _ _=>(cM 0 (by show List.Nodup (_++_);decide +kernel))) (λ_ _ _ _=>fK) (λ_ _ _ _=>(jt pR rfl t.j9 nQ (aj (zf (ak 0) aR) aB))) (jX)) aB))) aK) (aq (bJ kY) aK)) aK)) (aq (aY 5 nd (jL (aj (ak 1) (aj (ak 4) aB)))) (aq (bJ (jH (J9 (ig (c7 t.zJ GD hr (aj (ak 5) aB))) (ak 5) kY))) aK)))))
theorem K8:bw ["text", "rows", "names", "at", "line", "row"] ["text"] (aF qJ):=jw
theorem K9 (ni:Ok P w base t.iz 1 1 eU) (iI:Ok P w base t.gk 6 1 dD):Ok P w base t.d9 7 1 qT:=zm (g:=qR) t.d9 K8 λ_ _ _ _ _ _ hr hu nd=>(aq (aY 1 nd (dO aB)) (YT 2 1 5 3 4 PassesOwn.never rfl nd rfl t.JD (NZ rfl t.nW (aj (jH (c7 t.iz ni hr (aj (ak 0) aB))) aB)) (c7 t.gk iI hr (aj (ak 4) aB)) (dM of_is (ak 5) kY (cG _)) (bC (ak 5) aA) (bC (ak 5) aA) (aq (bJ (jt pR rfl t.j9 nQ (aj (ak 1) aB))) aK)))
theorem Cy (ni:Ok P w base t.iz 1 1 eU) (iI:Ok P w base t.gk 6 1 dD) (vQ:Ok P w base t.d9 7 1 qT):eZ P w K mg base xq 8 t.aP.f t.aP.fd ["_law_deed", "_law_thing"] (spG t.d9.f K 1 bY):=
 have gJ:=Zr (P:=P) (w:=w) (base:=base) t.xJ.F t.jx t.ahz t.V6 t.hbi
 JG t.aP.F t.d9.k t.d9.b (P1.eZ.or vQ (ahs t.d9.F ni (ahr t.iz.F t.bx t.xW t.jx t.jkC gJ t.xJ.b t.jmC) t.iz.m t.iz.k t.iz.b iI t.gk.m t.gk.k t.gk.b t.JD t.nW t.jx t.jkC gJ t.xJ.b t.jmC)) t.V6 t.jex t.ahA t.jfn t.m1 t.m2 t.m3 t.m4 t.m5 t.m6 t.hany t.hself t.hve t.bx t.acr t.K3 t.jmC lkC
theorem Pa:bw ["text", "row"] ["text"] (aF ud):=jw
theorem Pb (iI:Ok P w base t.gk 6 1 dD):Ok P w base t.eV 7 1 qe:=zm (g:=um) t.eV Pa λ_ _ _ _ _ _ hr hu nd=>(aq (aY 1 nd (J9 (ig (mR (ak 0) rfl t.bx rfl t.xW)) (c7 t.gk iI hr (aj (ak 0) aB)) kY)) (aq (gK (dM of_is (ak 1) kY (cG _)) (aq Tg aK) aK) (aq (bJ (ak 1)) aK)))
theorem Cz (iI:Ok P w base t.gk 6 1 dD) (yw:Ok P w base t.eV 7 1 qe):eZ P w K mg base xq 8 t.aP.f t.aP.fd ["_law_deed", "_law_thing"] (spG t.eV.f K 1 bZ):=
 have gJ:=Zr (P:=P) (w:=w) (base:=base) t.xJ.F t.jx t.ahz t.V6 t.hbi
 JG t.aP.F t.eV.k t.eV.b (P1.eZ.or yw (ahw t.eV.F iI t.gk.m t.gk.k t.gk.b t.bx t.xW t.jx t.jkC gJ t.xJ.b t.jmC)) t.V6 t.jex t.ahA t.jfn t.m1 t.m2 t.m3 t.m4 t.m5 t.m6 t.hany t.hself t.hve t.bx t.acr t.K3 t.jmC lkC
theorem GF:bw ["_law_thing", "_law_letters", "_law_most"] ["_law_thing", "_law_letters", "_law_most"] (aF xT):=jw
theorem GJ:Ok P w base t.iQ 1 3 iM:=zm (g:=nF) t.iQ GF λ_ _ _ _ _ _ hr hu nd=>(aq (bJ (rG (mR (ak 0) rfl t.bx rfl t.xW) (rG (Mw of_le of_le aA (cg jN rfl t.oN jM (aj (ak 0) aB)) (ak 2)) (Aa (cg (Fo rfl) rfl t.O1 Fj (aj (nC ["_law_sign"] (Fy ["_law_letters"] [1]) rfl (oV (ak 0)) (λ_ _ _ _=>(cM 1 (by show List.Nodup (_++_);decide +kernel))) (λ_ _ _ _=>fK) (λ_ _ _ _=>(rD Xz (ak 1) (ak 0) (by with_unfolding_all rfl))) (jX)) aB)))))) aK)
theorem GK:bw ["_law_thing"] ["_law_thing"] (aF xU):=jw
theorem GP (iR:Ok P w base t.iQ 1 3 iM):Ok P w base t.jU 2 1 jT:=zm (g:=nG) t.jU GK λ_ _ _ _ _ _ hr hu nd=>(aq (bJ (c7 t.iQ iR hr (aj (ak 0) (aj aR (aj aA aB))))) aK)
theorem Il:bw ["_law_thing", "_law_fields", "_law_entry"] ["_law_thing"] (aF zu):=jw
theorem Im (nJ:Ok P w base t.jU 2 1 jT) (iR:Ok P w base t.iQ 1 3 iM):Ok P w base t.pF 3 1 lQ:=zm (g:=pq) t.pF Il λ_ _ _ _ _ _ hr hu nd=>(aq (gK (MF (pP (kZ (ig (lH (ak 0) rfl t.bx rfl t.j9))) (pP (dM (Fg hu) (cg jN rfl t.oN jM (aj (ak 0) aB)) aA (cG _)) (pP (kZ (ig (c7 t.jU nJ hr (aj (bC (ak 0) aA) aB)))) (qz (kZ (ig (lH (bC (ak 0) aA) rfl t.bx rfl t.j9)))))))) (aq (bJ xu) aK) aK) (aq (aY 1 nd (dO aB)) (aq (ou PassesOwn.never rfl (Dq (bC (ak 0) aA)) (cM 2 nd) (cV [2] (aq (gK (MF (pP (kZ (ig (lH (ak 2) rfl t.bx rfl t.j9))) (pP (dM (Fg hu) (cg jN rfl t.oN jM (aj (ak 2) aB)) aA (cG _)) (qz (kZ (ig (c7 t.jU nJ hr (aj (bC (ak 2) aA) aB)))))))) (aq (bJ xu) aK) aK) (aq (gK (kZ (ig (c7 t.iQ iR hr (aj (bC (ak 2) aA) (aj aR (aj aA aB)))))) (aq (bJ xu) aK) aK) (aq (Ad 1 (bC (ak 2) aA)) aK))))) (aq (bJ (rD (of_eq hu) (ak 1) (abz rfl rfl t.O2 (aby rfl hu rfl t.JD (ak 1))) (cG _))) aK))))
theorem Io:bw ["_law_text", "_law_at", "_law_words", "_law_left", "_law_end", "_law_part", "_law_gap", "_law_row"] ["_law_text"] (aF zx):=jw
theorem Ip (uq:Ok P w base t.pF 3 1 lQ):Ok P w base t.jB 4 1 jz:=zm (g:=pA) t.jB Io λ_ _ _ _ _ _ hr hu nd=>(aq (aY 1 nd (TY (ak 0) aR)) (aq (aY 2 nd (dO aB)) (aq (aY 3 nd (iU (ak 0) (bV (aO bh (ak 1) aA)) cU)) (aq (Yi 1000 PassesOwn.never (dM (Fg hu) (ak 3) aR (cG _)) (cV [4,5,6] (aq (aY 4 nd (TY (ak 3) aR)) (aq (gK (dM Ai (ak 4) aA (cG _)) (cV [] (aq (aY 4 nd (cg jN rfl t.oN jM (aj (ak 3) aB))) aK)) (cV [] aK)) (aq (aY 5 nd (iU (ak 3) cU (bV (ak 4)))) (aq (aY 6 nd (Zd (i:=1) (ak 5) aR)) (aq (gK (MF (pP (dM (Fg hu) (iU (ak 5) cU (bV aA)) aR (cG _)) (qz (dM Ai (ak 6) aA (cG _))))) (aq (bJ kY) aK) aK) (aq (Ad 2 (jL (aj (jH (iU (ak 5) (bV aA) (bV (ak 6)))) (aj (jH (iU (ak 5) (bV (aO bh (ak 6) aA)) cU)) aB)))) (aq (gK (dM (of_eq hu) (iU (ak 3) (bV (ak 4)) cU) aR (cG _)) (aq (bJ kY) aK) aK) (aq (aY 3 nd (iU (ak 3) (bV (aO bh (ak 4) aA)) cU)) aK)))))))))) (aq (aY 7 nd (jL (aj (jH (iU (ak 0) cU (bV (ak 1)))) (aj (jt pR rfl t.j9 nQ (aj (ak 2) aB)) aB)))) (aq (gK (MF (pP (dM Ai (ak 1) aA (cG _)) (qz (kZ (ig (c7 t.pF uq hr (aj (ak 7) aB))))))) (aq (bJ kY) aK) aK) (aq (bJ (ak 7)) aK)))))))
theorem Rx:bw ["_law_text", "_law_found", "_law_rows", "_law_k", "_law_row"] ["_law_text"] (aF JC):=jw
theorem Ry (jD:Ok P w base t.jB 4 1 jz):Ok P w base t.sJ 5 1 pK:=zm (g:=wO) t.sJ Rx λ_ _ _ _ _ _ hr hu nd=>(aq (gK (dM (of_eq hu) (ak 0) aR (cG _)) (aq (bJ (jL (aj aR (aj (jL aB) aB)))) aK) aK) (aq (aY 1 nd (dO aB)) (aq (aY 2 nd (zf (ak 0) aR)) (aq (ou PassesOwn.never rfl (jQ rfl t.nH (aj (cg jN rfl t.oN jM (aj (ak 2) aB)) aB)) (cM 3 nd) (cV [3,4] (aq (aY 4 nd (c7 t.jB jD hr (aj (bC (ak 2) (ak 3)) aB))) (aq (gK (MF (pP (dM of_is (ak 4) kY (cG _)) (qz (dM Xz (bC (ak 4) aA) (nC ["_law_one"] (Fy [] []) rfl (oV (ak 1)) (λ_ _ _ _=>(cM 0 (by show List.Nodup (_++_);decide +kernel))) (λ_ _ _ _=>fK) (λ_ _ _ _=>(bC (ak 0) aA)) (jX)) (by with_unfolding_all rfl))))) (aq (bJ (jL (aj aR (aj (ak 3) aB)))) aK) aK) (aq (Ad 1 (ak 4)) aK))))) (aq (bJ (jL (aj aR (aj (jt pR rfl t.j9 nQ (aj (ak 1) aB)) aB)))) aK)))))
theorem Ax:bw ["_law_text", "_law_row"] ["_law_text"] (aF uF):=jw
theorem Ay (fL:eZ P w K mg base xq 8 t.aP.f t.aP.fd ["_law_deed", "_law_thing"] (spG t.eV.f K 1 bZ)) (jD:Ok P w base t.jB 4 1 jz):Ok P w base t.iH 9 1 fW:=zm (g:=j6) t.iH Ax λ_ _ _ _ _ _ hr hu nd=>(aq (aY 1 nd (c7 t.jB jD hr (aj (ak 0) aB))) (aq (gK (dM of_is (ak 1) kY (cG _)) (aq (bJ (rD (of_eq hu) (sy fL (hr.mono (by decide)) rfl t.aP.m t.aP.k t.aP.b rfl t.eV.m (aj (ak 0) aB)) (jL (aj aR (aj aA aB))) (cG _))) aK) aK) (aq (bJ (rD (of_eq hu) (sy fL (hr.mono (by decide)) rfl t.aP.m t.aP.k t.aP.b rfl t.eV.m (aj (ak 0) aB)) (jL (aj aR (aj (ak 1) aB))) (cG _))) aK)))
theorem La:bw ["_law_rows", "_law_xs", "_law_at", "_law_other"] ["_law_rows", "_law_xs"] (aF BP):=jw
theorem Lb:Ok P w base t.q9 1 2 qY:=zm (g:=qX) t.q9 La λ_ _ _ _ _ _ hr hu nd=>(aq (aee 2 3 rfl nd (aj (aO cH (bC (ak 1) aA) (aO bh (cg jN rfl t.oN jM (aj (ak 0) aB)) aA)) (aj (aO cH (bC (ak 1) aA) (cg (aeG rfl) rfl t.ahC aew (aj aA (aj (cg jN rfl t.oN jM (aj (ak 0) aB)) aB)))) aB))) (aq (gK (dM (of_eq hu) (aO cH (bC (ak 1) aA) aA) aA (cG _)) (aq (bJ (aO bh (aO bh (iU (ak 0) cU (bV (ak 2))) (iU (ak 0) (bV (ak 3)) (bV (aO bh (ak 3) aA)))) (iU (ak 0) (bV (ak 2)) cU))) aK) aK) (aq (gK (dM (of_eq hu) (aO cH (bC (ak 1) aA) aA) aA (cG _)) (aq (bJ (aO bh (iU (ak 0) cU (bV (ak 2))) (iU (ak 0) (bV (aO bh (ak 2) aA)) cU))) aK) aK) (aq (gK (dM (of_eq hu) (aO cH (bC (ak 1) aA) aA) aA (cG _)) (aq (bJ (aO bh (aO bh (iU (ak 0) cU (bV (ak 2))) (dO (aj aR aB))) (iU (ak 0) (bV (ak 2)) cU))) aK) aK) (aq (bJ (abC (ak 0) (agu aep aA))) aK)))))
theorem CG:bw ["_law_x", "_law_signs"] ["_law_x"] (aF vN):=jw
theorem CJ:Ok P w base t.lY 1 1 lU:=zm (g:=lR) t.lY CG λ_ _ _ _ _ _ hr hu nd=>(aq (aY 1 nd aR) (aq (bJ (bC (aO bh (ak 1) aR) (aO cH (ak 0) aA))) aK))
theorem Ir:bw ["_law_text", "_law_xs", "_law_some", "_law_k", "_law_at", "_law_more"] ["_law_text", "_law_xs"] (aF zy):=jw
theorem Iu (qj:Ok P w base t.lY 1 1 lU):Ok P w base t.lZ 2 2 lV:=zm (g:=pB) t.lZ Ir λ_ _ _ _ _ _ hr hu nd=>(aq (aY 2 nd (dO (aj aR (aj aR (aj aR (aj aR (aj aR (aj aR (aj aR (aj aR (aj aR (aj aR (aj aR (aj aR (aj aR (aj aR (aj aR (aj aR aB)))))))))))))))))) (aq (ou PassesOwn.never rfl (jQ rfl t.nH (aj (aO bh aA (aO cH (bC (ak 1) aA) aA)) aB)) (cM 3 nd) (cV [3,4,5] (aq (aY 4 nd (aO cH (bC (ak 1) (aO bh aA (aO gM aA (ak 3)))) (aO bh (cg jN rfl t.oN jM (aj (ak 0) aB)) aA))) (aq (aY 5 nd (bC (aO bh (ak 2) (aO afl (dO (aj (jH (c7 t.lY qj hr (aj (aO oX (bC (ak 1) (aO bh aA (aO gM aA (ak 3)))) aA) aB))) aB)) aA)) (aO cH (bC (ak 1) (aO bh aA (aO gM aA (ak 3)))) aA))) (aq (aY 0 nd (aO bh (aO bh (iU (ak 0) cU (bV (ak 4))) (bC (dO (aj aR (aj (ak 5) (aj (ak 5) aB)))) (aO cH (bC (ak 1) (aO bh aA (aO gM aA (ak 3)))) aA))) (iU (ak 0) (bV (aO bh (ak 4) (bC (dO (aj aA (aj aA (aj aA aB)))) (aO cH (bC (ak 1) (aO bh aA (aO gM aA (ak 3)))) aA)))) cU))) aK))))) (aq (bJ (ak 0)) aK)))
theorem aft:bw ["_law_script", "_law_book", "_law_rows", "_law_thing", "_law_fixed", "_law_cell_here", "_law_xs", "_law_some", "_law_text", "_law_one"] ["_law_script"] (aF s_law):=jw
theorem afu (jl:eZ P w K mg base xq 8 t.aP.f t.aP.fd ["_law_deed", "_law_thing"] (spG t.d9.f K 1 bY)) (fL:eZ P w K mg base xq 8 t.aP.f t.aP.fd ["_law_deed", "_law_thing"] (spG t.eV.f K 1 bZ)) (lu:Ok P w base t.lq 1 2 jh) (wR:Ok P w base t.sJ 5 1 pK) (vR:Ok P w base t.q9 1 2 qY) (gB:Ok P w base t.gA 1 2 gq) (kh:Ok P w base t.iH 9 1 fW) (ql:Ok P w base t.lX 1 1 jj) (pG:Ok P w base t.lZ 2 2 lV) (oJ:Ok P w base t.j7 3 3 jZ):Ok P w base t.x_law 10 1 F_law:=zm (g:=T7) t.x_law aft λ_ _ _ _ _ _ hr hu nd=>(aq (aY 1 nd (c7 t.j7 oJ hr (aj (ak 0) (aj aA (aj aA aB))))) (aq (aa3 2 ["_law_row"] (Fy [] []) rfl nd (oV (ak 1)) (λ_ _ _ _=>(cM 0 (by show List.Nodup (_++_);decide +kernel))) (λ_ _ _ _=>fK) (λ_ _ _ _=>(jH (c7 t.lX ql hr (aj (ak 0) aB)))) (jX)) (aq (ou PassesOwn.never rfl (Dq (dO (aj kY (aj aA (aj xu (aj (jH (dO (aj aR aB))) (aj (jL (aj aR (aj (jL aB) aB))) (aj aeF aB)))))))) (cM 3 nd) (cV [3] (aq (gK (MF (pP (dM (Fg hu) (sy jl (hr.mono (by decide)) rfl t.aP.m t.aP.k t.aP.b rfl t.d9.m (aj (ak 3) aB)) (jL (aj aR (aj aA aB))) (cG _)) (qz (dM (Fg hu) (sy fL (hr.mono (by decide)) rfl t.aP.m t.aP.k t.aP.b rfl t.eV.m (aj (ak 3) aB)) (jL (aj aR (aj aA aB))) (cG _))))) (aq (bJ xu) aK) aK) aK))) (aq (aY 4 nd (dO (aj aR (aj aR (aj aR (aj aR (aj aR (aj aR (aj aR (aj aR (aj aR (aj aR (aj aR aB))))))))))))) (aq (aY 4 nd (aO bh (ak 4) (dO (aj aR (aj aR (aj aR (aj aR (aj aR (aj aR (aj aR (aj aR (aj aR aB)))))))))))) (aq (aY 4 nd (aO bh (ak 4) (dO (aj aR (aj aR aB))))) (aq (gK (kZ (ig (cg (Fo rfl) rfl t.O1 Fj (aj (nC ["_law_text"] (Fy [] []) rfl (oV (ak 4)) (λ_ _ _ _=>(cM 0 (by show List.Nodup (_++_);decide +kernel))) (λ_ _ _ _=>fK) (λ_ _ _ _=>(rG (rD (of_eq hu) (sy jl (hr.mono (by decide)) rfl t.aP.m t.aP.k t.aP.b rfl t.d9.m (aj (ak 0) aB)) (c7 t.sJ wR hr (aj (ak 0) aB)) (cG _)) (Aa (c7 t.iH kh hr (aj (ak 0) aB))))) (jX)) aB)))) (aq (bJ xu) aK) aK) (aeN (i:=2) (aq (ou PassesOwn.never rfl (Dq (aO bh (dO (aj (jH (c7 t.lq lu hr (aj (ak 0) (aj aA aB)))) aB)) (iU (ak 0) (bV aA) (bV aA)))) (cM 5 nd) (cV [5,6,7,8,9] (aq (aY 6 nd (c7 t.gA gB hr (aj (ak 5) (aj aA aB)))) (aq (aY 7 nd (bC (dO (aj (ak 2) (aj (jH (c7 t.q9 vR hr (aj (ak 2) (aj (ak 6) aB)))) aB))) (aO cH (bC (ak 6) aA) aA))) (aq (aY 8 nd (SN (ak 7))) (aq (gK (dM acZ (aO cH (aO oX (bC (ak 6) aA) aA) aA) aA (cG _)) (cV [] (aq (aY 8 nd (c7 t.lZ pG hr (aj (ak 8) (aj (jH (iU (ak 6) (bV aA) cU)) aB)))) aK)) (cV [] aK)) (aq (gK (dM (Fg hu) (sy jl (hr.mono (by decide)) rfl t.aP.m t.aP.k t.aP.b rfl t.d9.m (aj (ak 8) aB)) (c7 t.sJ wR hr (aj (ak 8) aB)) (cG _)) (aq (bJ xu) aK) aK) (aq (aY 9 nd (c7 t.lZ pG hr (aj (bC (aO bh (ak 2) (dO (aj aR aB))) (aO cH (bC (ak 6) aA) (aO bh (cg jN rfl t.oN jM (aj (ak 2) aB)) aA))) (aj (jH (iU (ak 6) (bV aA) cU)) aB)))) (aq (gK (kZ (ig (c7 t.iH kh hr (aj (ak 9) aB)))) (aq (bJ xu) aK) aK) aK))))))))) (aq (bJ xu) aK))))))))))
theorem all_ok:Ok P w base t.x_law 10 1 F_law:=by
 have lu:=O5 (P:=P) (w:=w) (base:=base) t;have gB:=Gy (P:=P) (w:=w) (base:=base) t;have vO:=K5 (P:=P) (w:=w) (base:=base) t;have mj:=Cp (P:=P) (w:=w) (base:=base) t;have qg:=Cr (P:=P) (w:=w) (base:=base) t mj;have oJ:=Ao (P:=P) (w:=w) (base:=base) t lu vO gB qg;have ql:=Cw (P:=P) (w:=w) (base:=base) t;have ni:=O7 (P:=P) (w:=w) (base:=base) t;have m7:=O9 (P:=P) (w:=w) (base:=base) t;have jC:=Ii (P:=P) (w:=w) (base:=base) t;have pN:=Rr (P:=P) (w:=w) (base:=base) t jC;have Aw:=Rv (P:=P) (w:=w) (base:=base) t jC;have oH:=Av (P:=P) (w:=w) (base:=base) t pN m7 Aw;have uo:=Ik (P:=P) (w:=w) (base:=base) t;have vP:=K7 (P:=P) (w:=w) (base:=base) t uo oH;have GD:=Wa (P:=P) (w:=w) (base:=base) t vP pN m7;have iI:=Wc (P:=P) (w:=w) (base:=base) t GD;have vQ:=K9 (P:=P) (w:=w) (base:=base) t ni iI;have jl:=Cy (P:=P) (w:=w) (base:=base) t ni iI vQ;have yw:=Pb (P:=P) (w:=w) (base:=base) t iI;have fL:=Cz (P:=P) (w:=w) (base:=base) t iI yw;have iR:=GJ (P:=P) (w:=w) (base:=base) t;have nJ:=GP (P:=P) (w:=w) (base:=base) t iR;have uq:=Im (P:=P) (w:=w) (base:=base) t nJ iR;have jD:=Ip (P:=P) (w:=w) (base:=base) t uq;have wR:=Ry (P:=P) (w:=w) (base:=base) t jD;have kh:=Ay (P:=P) (w:=w) (base:=base) t fL jD;have vR:=Lb (P:=P) (w:=w) (base:=base) t;have qj:=CJ (P:=P) (w:=w) (base:=base) t;have pG:=Iu (P:=P) (w:=w) (base:=base) t qj;have ahD:=afu (P:=P) (w:=w) (base:=base) t jl fL lu wR vR gB kh ql pG oJ;exact ahD
end
end G04
end
section
set_option synthInstance.maxSize 100000
namespace G04
open PySem PySem.Spec PyProof.Rows L2 P1
noncomputable section
def xX  (v6:Int) (v7:Int):Int:=(let v6:=(((v6 * (69621:Int))+v7) % (2147483647:Int));v6)
theorem Iv (v0:LI_) {jm:Bx} (kj:Lp jm (v0.map eI)) (v5:Int) (v6:Int) (v7:Int):RP xV [some jm,some ((zE eI) v5),some ((zE eI) v6),some ((zE eI) v7)] (λs=>Out.nx ((λv6:Int=>[some jm,some ((zE eI) v5),some ((zE eI) v6),none]) s)) (xX  v6 v7) (none):=R.tp (bD (bN 2 (dR (dN (Ti (au 2 (zE eI) v6 rfl) 69621 (by decide)) (au 3 (zE eI) v7 rfl)) 2147483647 (by decide)) (λ_=>rfl) λv6=>(cQ (dY v6 rfl))))
def aU (v0:LI_) (v5:Int):Int:=(if(decide (v5 < (v0.length:Int)))=true then(at' v0 v5) else(let v6:=(((48271:Int) * (((v5 * v5)+((7:Int) * v5))+(11:Int))) % (2147483647:Int));(let v6:Int:=((cut v0 none (some (3:Int))).foldl (λ(v6:Int) (v7:Int)=>(xX  v6 v7)) v6);v6)))
def lA (v0:LI_) (v5:Int):Prop:=(((decide (v5 < (v0.length:Int)))=true->In v0.length v5)/\((decide (v5 < (v0.length:Int)))=false->Mul v5 v5))
theorem Rz (v0:LI_) {jm:Bx} (kj:Lp jm (v0.map eI)) (v5:Int):RP uf [some jm,some ((zE eI) v5),none,none] (λr=>Out.rt ((zE eI) r)) (aU v0 v5) (some (lA v0 v5)):=R.tp (jf (iD (N6 (au 1 (zE eI) v5 rfl) (x_len (cW 0 eI v0 kj rfl)))) (bD (cJ (λr=>r) (gD (cW 0 eI v0 kj rfl) (au 1 (zE eI) v5 rfl)) (λ_=>rfl) λ_=>rfl)) (cQ (bN 2 (dR (lg 48271 (by decide) (dN (dN (ac3 (au 1 (zE eI) v5 rfl) (au 1 (zE eI) v5 rfl)) (lg 7 (by decide) (au 1 (zE eI) v5 rfl))) (x_i 11))) 2147483647 (by decide)) (λ_=>rfl) λv6=>(aeX (λv6:Int=>[some jm,some ((zE eI) v5),some ((zE eI) v6),none]) v6 rfl (aeW (FT (cW 0 eI v0 kj rfl) rJ (mU (x_i 3)))) _ (λ_ _=>rfl) (λ(v6:Int) (v7:Int)=>(Iv v0 kj v5 v6 v7).r) (λ_ _=>rfl) λv6=>(cJ (λr=>r) (au 2 (zE eI) v6 rfl) (λ_=>rfl) λ_=>rfl)))))
theorem yx:∀ v bs,(aL eI (aZ eI aN)) v bs->bs.length=2/\(hold (some (lA v.1 v.2.1))->jh (bs.map lend)=some ((zE eI) (aU v.1 v.2.1))):=by
 rintro⟨v0,v5,_⟩ _ ⟨jm,_,rfl,kj,⟨_,rfl,rfl⟩⟩;exact⟨rfl,λh=>cF (g:=uf) (n:=4) (bs:=[lend jm,.z (eI v5)]) (Rz v0 (yX kj) v5) h⟩
def cN  (s1:Int×LI_×Int) (v5:Int):Int×LI_×Int:=(let v6:=((((s1.1 * ((s1.1 % (65521:Int))+(40487:Int)))+((7:Int) * v5))+(5:Int)) % (1999999973:Int));(let v9:=s1.2.1++[(at' [v6,(s1.2.2 % (1000000:Int))] (if(decide ((0:Int) < s1.2.2))=true then(1:Int) else 0))];(let va:=(s1.2.2 / (1000000:Int));(v6,v9,va))))
def jE  (s1:Int×LI_×Int) (v5:Int):Prop:=(Mul s1.1 ((s1.1 % (65521:Int))+(40487:Int))/\(let v6:=((((s1.1 * ((s1.1 % (65521:Int))+(40487:Int)))+((7:Int) * v5))+(5:Int)) % (1999999973:Int));(In [v6,(s1.2.2 % (1000000:Int))].length (if(decide ((0:Int) < s1.2.2))=true then(1:Int) else 0)/\uR s1.2.1.length)))
theorem Az (v7:Int) (v8:Int) (s1:Int×LI_×Int) (v5:Int):RP mX [some ((zE eI) v7),some ((zE eI) v8),some ((oE eI) s1.2.1),some ((zE eI) s1.1),some ((zE eI) s1.2.2),some ((zE eI) v5)] (λs=>Out.nx ((λs1:Int×LI_×Int=>[some ((zE eI) v7),some ((zE eI) v8),some ((oE eI) s1.2.1),some ((zE eI) s1.1),some ((zE eI) s1.2.2),none]) s)) (cN  s1 v5) (some (jE  s1 v5)):=R.tp (bD (bN 3 (dR (dN (dN (ac3 (au 3 (zE eI) s1.1 rfl) (dN (dR (au 3 (zE eI) s1.1 rfl) 65521 (by decide)) (x_i 40487))) (lg 7 (by decide) (au 5 (zE eI) v5 rfl))) (x_i 5)) 1999999973 (by decide)) (λ_=>rfl) λv6=>(bD (Jt 2 s1.2.1 rfl (gD (iw (iG (aH (au 3 (zE eI) v6 rfl) (aH (dR (au 4 (zE eI) s1.2.2 rfl) 1000000 (by decide)) (cI eI))) (zg rfl))) (Yu (agW (au 4 (zE eI) s1.2.2 rfl) (x_i 0)))) λv9=>(bD (bN 4 (qC (au 4 (zE eI) s1.2.2 rfl) 1000000 (by decide)) (λ_=>rfl) λva=>(cQ (dY (v6,v9,va) rfl))))))))
def jF (v7:Int) (v8:Int) (v9:LI_) (v6:Int) (va:Int):LI_:=(let s1:Int×LI_×Int:=((rng 0 v8.toNat).foldl (λ(s1:Int×LI_×Int) (v5:Int)=>(cN  s1 v5)) (v6,v9,va));s1.2.1)
def nj (v7:Int) (v8:Int) (v9:LI_) (v6:Int) (va:Int):Prop:=(Rg v8/\yt (λ(s1:Int×LI_×Int) (v5:Int)=>(cN  s1 v5)) (λ(s1:Int×LI_×Int) (v5:Int)=>some (jE  s1 v5)) (rng 0 v8.toNat) (v6,v9,va))
def Ba:Ev->Option Out:=(aD (oY (SM (ao (gv 1) aG)) (w5 5) mX) (aD (Kc 2) eF))
theorem Bb (v7:Int) (v8:Int) (v9:LI_) (v6:Int) (va:Int):RP Ba [some ((zE eI) v7),some ((zE eI) v8),some ((oE eI) v9),some ((zE eI) v6),some ((zE eI) va),none] (λr=>Out.rt ((oE eI) r)) (jF v7 v8 v9 v6 va) (some (nj v7 v8 v9 v6 va)):=R.tp (Gb (λs1:Int×LI_×Int=>[some ((zE eI) v7),some ((zE eI) v8),some ((oE eI) s1.2.1),some ((zE eI) s1.1),some ((zE eI) s1.2.2),none]) (v6,v9,va) rfl (xO (au 1 (zE eI) v8 rfl)) _ (λ_ _=>rfl) (λ(s1:Int×LI_×Int) (v5:Int)=>(Az v7 v8 s1 v5).r) λs1=>(Yz 2 (λr=>r) s1.2.1 rfl (λ_=>rfl) λ_=>rfl))
def aJ (v7:Int) (v8:Int):LI_:=(let v9:=([]:List Int);(let v6:=((((v7 % (1999999973:Int))+(31:Int)) * (765432101:Int)) % (1999999973:Int));(let va:=(0:Int);(let va:Int:=(if((decide (v7 < (0:Int)))||(decide (((10:Int) ^ 18)<=v7)))=true then(let va:=(if v7 < 0 then -v7 else v7);va) else va);(jF v7 v8 v9 v6 va)))))
def iT (v7:Int) (v8:Int):Prop:=(let v9:=([]:List Int);(let v6:=((((v7 % (1999999973:Int))+(31:Int)) * (765432101:Int)) % (1999999973:Int));(let va:=(0:Int);(let va:Int:=(if((decide (v7 < (0:Int)))||(decide (((10:Int) ^ 18)<=v7)))=true then(let va:=(if v7 < 0 then -v7 else v7);va) else va);(nj v7 v8 v9 v6 va)))))
theorem Iw (v7:Int) (v8:Int):RP nD [some ((zE eI) v7),some ((zE eI) v8),none,none,none,none] (λr=>Out.rt ((oE eI) r)) (aJ v7 v8) (some (iT v7 v8)):=R.tp (bN 2 (iG (cI eI) (zg rfl)) (λ_=>rfl) λv9=>(bN 3 (dR (Ti (dN (dR (au 0 (zE eI) v7 rfl) 1999999973 (by decide)) (x_i 31)) 765432101 (by decide)) 1999999973 (by decide)) (λ_=>rfl) λv6=>(bN 4 (x_i 0) (λ_=>rfl) λva=>(Tj (λva:Int=>[some ((zE eI) v7),some ((zE eI) v8),some ((oE eI) v9),some ((zE eI) v6),some ((zE eI) va),none]) (FP (iD (N6 (au 0 (zE eI) v7 rfl) (x_i 0))) (iD (x_ge (au 0 (zE eI) v7 rfl) (aeQ 10 18 18 (by decide) rfl)))) (bD (bN 4 (ag0 (au 0 (zE eI) v7 rfl)) (λ_=>rfl) λva=>(cQ (dY va rfl)))) (cQ (dY va rfl)) λva=>(Bb v7 v8 v9 v6 va).r))))
theorem rP:∀ v bs,(aZ eI (aZ eI aN)) v bs->bs.length=2/\(hold (some (iT v.1 v.2.1))->gq (bs.map lend)=some ((oE eI) (aJ v.1 v.2.1))):=by
 rintro⟨v7,v8,_⟩ _ ⟨_,rfl,⟨_,rfl,rfl⟩⟩;exact⟨rfl,λh=>cF (g:=nD) (n:=6) (bs:=[.z (eI v7),.z (eI v8)]) (Iw v7 v8) h⟩
def fM (vc:LI_) (vd:Str) (ve:Str) (v2:Int) (v9:LS_) (v5:Int):LS_:=(let vf:=(ch vd ((v5+(at' vc (2:Int))) % (15:Int)));(let vg:=(((Txt.slice ve none (some v2))++vf)++(Txt.slice ve (some v2) none));(let vg:Str:=(if(decide (((at' vc (3:Int)) % (3:Int))=(1:Int)))=true then(let vg:=(Txt.mul (ch vd (v5 / (8:Int))) ((1:Int)+(v5 % (8:Int))));vg) else vg);(let v9:=v9++[vg];v9))))
def mq (vc:LI_) (vd:Str) (ve:Str) (v2:Int) (v9:LS_) (v5:Int):Prop:=((In vc.length (2:Int)/\In vd.length ((v5+(at' vc (2:Int))) % (15:Int)))/\(let vf:=(ch vd ((v5+(at' vc (2:Int))) % (15:Int)));((uR ((Txt.slice ve none (some v2)).length+vf.length)/\uR (((Txt.slice ve none (some v2))++vf).length+(Txt.slice ve (some v2) none).length))/\(let vg:=(((Txt.slice ve none (some v2))++vf)++(Txt.slice ve (some v2) none));((In vc.length (3:Int)/\((decide (((at' vc (3:Int)) % (3:Int))=(1:Int)))=true->(In vd.length (v5 / (8:Int))/\(((1:Int)+(v5 % (8:Int)))<=1000 ∧ -1000<=((1:Int)+(v5 % (8:Int)))/\(ch vd (v5 / (8:Int))).length<=1000))))/\(let vg:Str:=(if(decide (((at' vc (3:Int)) % (3:Int))=(1:Int)))=true then(let vg:=(Txt.mul (ch vd (v5 / (8:Int))) ((1:Int)+(v5 % (8:Int))));vg) else vg);uR v9.length))))))
theorem GQ (vc:LI_) {jm:Bx} (kj:Lp jm (vc.map eI)) (v8:Int) (vd:Str) (ve:Str) (v2:Int) (v9:LS_) (v5:Int):RP qb [some jm,some ((zE eI) v8),some ((zE eS) vd),some ((zE eS) ve),some ((zE eI) v2),some ((oE eS) v9),some ((zE eI) v5),none,none] (λs=>Out.nx ((λv9:LS_=>[some jm,some ((zE eI) v8),some ((zE eS) vd),some ((zE eS) ve),some ((zE eI) v2),some ((oE eS) v9),none,none,none]) s)) (fM vc vd ve v2 v9 v5) (some (mq vc vd ve v2 v9 v5)):=R.tp (bD (bN 7 (Jr (au 2 (zE eS) vd rfl) (dR (dN (au 6 (zE eI) v5 rfl) (gD (cW 0 eI vc kj rfl) (x_i 2))) 15 (by decide))) (λ_=>rfl) λvf=>(bD (bN 8 (mV (mV (rY (au 3 (zE eS) ve rfl) rJ (mU (au 4 (zE eI) v2 rfl))) (au 7 (zE eS) vf rfl)) (rY (au 3 (zE eS) ve rfl) (mU (au 4 (zE eI) v2 rfl)) rJ)) (λ_=>rfl) λvg=>(bD (Tj (λvg:Str=>[some jm,some ((zE eI) v8),some ((zE eS) vd),some ((zE eS) ve),some ((zE eI) v2),some ((oE eS) v9),some ((zE eI) v5),some ((zE eS) vf),some ((zE eS) vg)]) (iD (x_eq (by decide) (dR (gD (cW 0 eI vc kj rfl) (x_i 3)) 3 (by decide)) (x_i 1))) (bD (bN 8 (aeT (Jr (au 2 (zE eS) vd rfl) (qC (au 6 (zE eI) v5 rfl) 8 (by decide))) (dN (x_i 1) (dR (au 6 (zE eI) v5 rfl) 8 (by decide)))) (λ_=>rfl) λvg=>(cQ (dY vg rfl)))) (cQ (dY vg rfl)) λvg=>(bD (Jt 5 v9 rfl (au 8 (zE eS) vg rfl) λv9=>(cQ (dY v9 rfl))))))))))
def mz (vc:LI_) (v8:Int) (vd:Str) (ve:Str):LS_:=(let v2:=((at' vc (1:Int)) % ((ve.length:Int)+(1:Int)));(let v9:=([]:LS_);(let v9:LS_:=((rng 0 v8.toNat).foldl (λ(v9:LS_) (v5:Int)=>(fM vc vd ve v2 v9 v5)) v9);v9)))
def qm (vc:LI_) (v8:Int) (vd:Str) (ve:Str):Prop:=((In vc.length (1:Int)/\0 < ((ve.length:Int)+(1:Int)))/\(let v2:=((at' vc (1:Int)) % ((ve.length:Int)+(1:Int)));(let v9:=([]:LS_);(Rg v8/\yt (λ(v9:LS_) (v5:Int)=>(fM vc vd ve v2 v9 v5)) (λ(v9:LS_) (v5:Int)=>some (mq vc vd ve v2 v9 v5)) (rng 0 v8.toNat) v9))))
def GR:Ev->Option Out:=(aD (setG 4 (b2 iu (b2 fV (gv 0) (cB (.int 1))) (b2 cu (dw nR (ao (gv 3) aG)) (cB (.int 1))))) (aD (setG 5 (dw gY aG)) (aD (oY (SM (ao (gv 1) aG)) (w5 6) qb) (aD (Kc 5) eF))))
theorem GX (vc:LI_) {jm:Bx} (kj:Lp jm (vc.map eI)) (v8:Int) (vd:Str) (ve:Str):RP GR [some jm,some ((zE eI) v8),some ((zE eS) vd),some ((zE eS) ve),none,none,none,none,none] (λr=>Out.rt ((oE eS) r)) (mz vc v8 vd ve) (some (qm vc v8 vd ve)):=R.tp (bN 4 (Br (gD (cW 0 eI vc kj rfl) (x_i 1)) (dN (Kw (au 3 (zE eS) ve rfl)) (x_i 1))) (λ_=>rfl) λv2=>(bN 5 (iG (cI eS) (zg rfl)) (λ_=>rfl) λv9=>(Gb (λv9:LS_=>[some jm,some ((zE eI) v8),some ((zE eS) vd),some ((zE eS) ve),some ((zE eI) v2),some ((oE eS) v9),none,none,none]) v9 rfl (xO (au 1 (zE eI) v8 rfl)) _ (λ_ _=>rfl) (λ(v9:LS_) (v5:Int)=>(GQ vc kj v8 vd ve v2 v9 v5).r) λv9=>(Yz 5 (λr=>r) v9 rfl (λ_=>rfl) λ_=>rfl))))
def cT (vc:LI_) (v8:Int):LS_:=(let vd:=("abcdefghijklmnopqrstuvwxyz" : Str);(let ve:=(Txt.join "" ((rng 0 ((at' vc (0:Int)) % (6:Int)).toNat).map λv5:Int=>(ch vd (((at' vc v5) / (40:Int)) % (26:Int)))));(mz vc v8 vd ve)))
def rz (vc:LI_) (v8:Int):Prop:=(let vd:=("abcdefghijklmnopqrstuvwxyz" : Str);(((((In vc.length (0:Int)/\Rg ((at' vc (0:Int)) % (6:Int)))/\(rng 0 ((at' vc (0:Int)) % (6:Int)).toNat).length<=100000)/\(∀ v5∈(rng 0 ((at' vc (0:Int)) % (6:Int)).toNat),(In vc.length v5/\In vd.length (((at' vc v5) / (40:Int)) % (26:Int)))))/\(((rng 0 ((at' vc (0:Int)) % (6:Int)).toNat).map λv5:Int=>(ch vd (((at' vc v5) / (40:Int)) % (26:Int)))).map (·.length)).sum+((rng 0 ((at' vc (0:Int)) % (6:Int)).toNat).map λv5:Int=>(ch vd (((at' vc v5) / (40:Int)) % (26:Int)))).length * ("" : Str).length<=100000)/\(let ve:=(Txt.join "" ((rng 0 ((at' vc (0:Int)) % (6:Int)).toNat).map λv5:Int=>(ch vd (((at' vc v5) / (40:Int)) % (26:Int)))));(qm vc v8 vd ve))))
theorem Pg (vc:LI_) {jm:Bx} (kj:Lp jm (vc.map eI)) (v8:Int):RP qK [some jm,some ((zE eI) v8),none,none,none,none,none,none,none] (λr=>Out.rt ((oE eS) r)) (cT vc v8) (some (rz vc v8)):=R.tp (bN 2 (jc "abcdefghijklmnopqrstuvwxyz") (λ_=>rfl) λvd=>(bN 3 (Yv "" (iw (rM (xO (dR (gD (cW 0 eI vc kj rfl) (x_i 0)) 6 (by decide))) _ (λ_=>rfl) (λv5:Int=>(Jr (au 0 (zE eS) vd rfl) (dR (qC (gD (cW 1 eI vc kj (congrArg some (kj.get rfl))) (au 2 (zE eI) v5 rfl)) 40 (by decide)) 26 (by decide))))))) (λ_=>rfl) λve=>(GX vc kj v8 vd ve).r))
theorem Ph:∀ v bs,(aL eI (aZ eI aN)) v bs->bs.length=2/\(hold (some (rz v.1 v.2.1))->qL (bs.map lend)=some ((oE eS) (cT v.1 v.2.1))):=by
 rintro⟨vc,v8,_⟩ _ ⟨jm,_,rfl,kj,⟨_,rfl,rfl⟩⟩;exact⟨rfl,λh=>cF (g:=qK) (n:=9) (bs:=[lend jm,.z (eI v8)]) (Pg vc (yX kj) v8) h⟩
def iW (vj:Int) (vd:Str) (v9:Str) (v5:Int):Str:=(let v9:=(v9++(ch vd ((vj / ((7:Int)+((5:Int) * v5))) % (vd.length:Int))));v9)
def mC (vj:Int) (vd:Str) (v9:Str) (v5:Int):Prop:=((((0 < ((7:Int)+((5:Int) * v5))/\((7:Int)+((5:Int) * v5)) < 1073741824)/\0 < (vd.length:Int))/\In vd.length ((vj / ((7:Int)+((5:Int) * v5))) % (vd.length:Int)))/\uR (v9.length+(ch vd ((vj / ((7:Int)+((5:Int) * v5))) % (vd.length:Int))).length))
theorem zK (vj:Int) (vd:Str) (v3:Int) (v9:Str) (v5:Int):RP qM [some ((zE eI) vj),some ((zE eS) vd),some ((zE eI) v3),some ((zE eS) v9),some ((zE eI) v5)] (λs=>Out.nx ((λv9:Str=>[some ((zE eI) vj),some ((zE eS) vd),some ((zE eI) v3),some ((zE eS) v9),none]) s)) (iW vj vd v9 v5) (some (mC vj vd v9 v5)):=R.tp (bD (bN 3 (mV (au 3 (zE eS) v9 rfl) (Jr (au 1 (zE eS) vd rfl) (Br (aeP (au 0 (zE eI) vj rfl) (dN (x_i 7) (lg 5 (by decide) (au 4 (zE eI) v5 rfl)))) (Kw (au 1 (zE eS) vd rfl))))) (λ_=>rfl) λv9=>(cQ (dY v9 rfl))))
def fO (vj:Int) (vd:Str) (v3:Int):Str:=(let v9:=("" : Str);(let v9:Str:=((rng 0 ((1:Int)+(vj % v3)).toNat).foldl (λ(v9:Str) (v5:Int)=>(iW vj vd v9 v5)) v9);v9))
def jo (vj:Int) (vd:Str) (v3:Int):Prop:=(let v9:=("" : Str);((0 < v3/\Rg ((1:Int)+(vj % v3)))/\yt (λ(v9:Str) (v5:Int)=>(iW vj vd v9 v5)) (λ(v9:Str) (v5:Int)=>some (mC vj vd v9 v5)) (rng 0 ((1:Int)+(vj % v3)).toNat) v9))
theorem GZ (vj:Int) (vd:Str) (v3:Int):RP lK [some ((zE eI) vj),some ((zE eS) vd),some ((zE eI) v3),none,none] (λr=>Out.rt ((zE eS) r)) (fO vj vd v3) (some (jo vj vd v3)):=R.tp (bN 3 (jc "") (λ_=>rfl) λv9=>(Gb (λv9:Str=>[some ((zE eI) vj),some ((zE eS) vd),some ((zE eI) v3),some ((zE eS) v9),none]) v9 rfl (xO (dN (x_i 1) (Br (au 0 (zE eI) vj rfl) (au 2 (zE eI) v3 rfl)))) _ (λ_ _=>rfl) (λ(v9:Str) (v5:Int)=>(zK vj vd v3 v9 v5).r) λv9=>(cJ (λr=>r) (au 3 (zE eS) v9 rfl) (λ_=>rfl) λ_=>rfl)))
theorem vU:∀ v bs,(aZ eI (aZ eS (aZ eI aN))) v bs->bs.length=3/\(hold (some (jo v.1 v.2.1 v.2.2.1))->ji (bs.map lend)=some ((zE eS) (fO v.1 v.2.1 v.2.2.1))):=by
 rintro⟨vj,vd,v3,_⟩ _ ⟨_,rfl,⟨_,rfl,⟨_,rfl,rfl⟩⟩⟩;exact⟨rfl,λh=>cF (g:=lK) (n:=5) (bs:=[.z (eI vj),.z (eS vd),.z (eI v3)]) (GZ vj vd v3) h⟩
def dF (vc:LI_) (vh:(List (Str×Str))) (v5:Int):(List (Str×Str)):=(let vi:=(fO (at' vc ((1:Int)+((2:Int) * v5))) ("abcdefghijklmnopqrstuvwxyz" : Str) (at' [(2:Int),(8:Int)] (((at' vc ((1:Int)+((2:Int) * v5))) / (999:Int)) % (2:Int))));(let vk:=(at' [("ab01xyz9" : Str),("abcdefghijklmnopqrstuvwxyz0123456789" : Str)] (((at' vc ((2:Int)+((2:Int) * v5))) / (61:Int)) % (2:Int)));(let vh:=put vh vi (fO (at' vc ((2:Int)+((2:Int) * v5))) vk (at' [(3:Int),(12:Int)] (((at' vc ((2:Int)+((2:Int) * v5))) / (999:Int)) % (2:Int))));vh)))
def iY (vc:LI_) (vh:(List (Str×Str))) (v5:Int):Prop:=(((In vc.length ((1:Int)+((2:Int) * v5))/\(In vc.length ((1:Int)+((2:Int) * v5))/\In [(2:Int),(8:Int)].length (((at' vc ((1:Int)+((2:Int) * v5))) / (999:Int)) % (2:Int))))/\(jo (at' vc ((1:Int)+((2:Int) * v5))) ("abcdefghijklmnopqrstuvwxyz" : Str) (at' [(2:Int),(8:Int)] (((at' vc ((1:Int)+((2:Int) * v5))) / (999:Int)) % (2:Int)))))/\(let vi:=(fO (at' vc ((1:Int)+((2:Int) * v5))) ("abcdefghijklmnopqrstuvwxyz" : Str) (at' [(2:Int),(8:Int)] (((at' vc ((1:Int)+((2:Int) * v5))) / (999:Int)) % (2:Int))));((In vc.length ((2:Int)+((2:Int) * v5))/\In [("ab01xyz9" : Str),("abcdefghijklmnopqrstuvwxyz0123456789" : Str)].length (((at' vc ((2:Int)+((2:Int) * v5))) / (61:Int)) % (2:Int)))/\(let vk:=(at' [("ab01xyz9" : Str),("abcdefghijklmnopqrstuvwxyz0123456789" : Str)] (((at' vc ((2:Int)+((2:Int) * v5))) / (61:Int)) % (2:Int)));(((In vc.length ((2:Int)+((2:Int) * v5))/\(In vc.length ((2:Int)+((2:Int) * v5))/\In [(3:Int),(12:Int)].length (((at' vc ((2:Int)+((2:Int) * v5))) / (999:Int)) % (2:Int))))/\(jo (at' vc ((2:Int)+((2:Int) * v5))) vk (at' [(3:Int),(12:Int)] (((at' vc ((2:Int)+((2:Int) * v5))) / (999:Int)) % (2:Int)))))/\vh.length < 1000)))))
theorem zL (vg:Str) (vc:LI_) {b_1:Bx} (h_1:Lp b_1 (vc.map eI)) (vh:(List (Str×Str))) (v5:Int):RP qN [some ((zE eS) vg),some b_1,some ((mE eS) vh),some ((zE eI) v5),none,none] (λs=>Out.nx ((λvh:(List (Str×Str))=>[some ((zE eS) vg),some b_1,some ((mE eS) vh),none,none,none]) s)) (dF vc vh v5) (some (iY vc vh v5)):=R.tp (bD (bN 4 (x_call vU (cX (gD (cW 1 eI vc h_1 rfl) (dN (x_i 1) (lg 2 (by decide) (au 3 (zE eI) v5 rfl)))) (cX (jc "abcdefghijklmnopqrstuvwxyz") (cX (gD (iw (iG (aH (x_i 2) (aH (x_i 8) (cI eI))) (zg rfl))) (dR (qC (gD (cW 1 eI vc h_1 rfl) (dN (x_i 1) (lg 2 (by decide) (au 3 (zE eI) v5 rfl)))) 999 (by decide)) 2 (by decide))) bH)))) (λ_=>rfl) λvi=>(bD (bN 5 (gD (iw (iG (aH (jc "ab01xyz9") (aH (jc "abcdefghijklmnopqrstuvwxyz0123456789") (cI eS))) (zg rfl))) (dR (qC (gD (cW 1 eI vc h_1 rfl) (dN (x_i 2) (lg 2 (by decide) (au 3 (zE eI) v5 rfl)))) 61 (by decide)) 2 (by decide))) (λ_=>rfl) λvk=>(bD (abT none 2 vh rfl (pW (x_call vU (cX (gD (cW 1 eI vc h_1 rfl) (dN (x_i 2) (lg 2 (by decide) (au 3 (zE eI) v5 rfl)))) (cX (au 5 (zE eS) vk rfl) (cX (gD (iw (iG (aH (x_i 3) (aH (x_i 12) (cI eI))) (zg rfl))) (dR (qC (gD (cW 1 eI vc h_1 rfl) (dN (x_i 2) (lg 2 (by decide) (au 3 (zE eI) v5 rfl)))) 999 (by decide)) 2 (by decide))) bH))))) (au 4 (zE eS) vi rfl) λvh=>(cQ (dY vh rfl))))))))
def gO (vg:Str) (vc:LI_):bM:=(let vh:=([]:(List (Str×Str)));(let vh:(List (Str×Str)):=((rng 0 ((at' vc (0:Int)) % (9:Int)).toNat).foldl (λ(vh:(List (Str×Str))) (v5:Int)=>(dF vc vh v5)) vh);(vg,((je (vh.map (·.1))).map λvi:Str=>(vi,(look vh vi))))))
def jq (vg:Str) (vc:LI_):Prop:=(let vh:=([]:(List (Str×Str)));(((In vc.length (0:Int)/\Rg ((at' vc (0:Int)) % (9:Int)))/\yt (λ(vh:(List (Str×Str))) (v5:Int)=>(dF vc vh v5)) (λ(vh:(List (Str×Str))) (v5:Int)=>some (iY vc vh v5)) (rng 0 ((at' vc (0:Int)) % (9:Int)).toNat) vh)/\(let vh:(List (Str×Str)):=((rng 0 ((at' vc (0:Int)) % (9:Int)).toNat).foldl (λ(vh:(List (Str×Str))) (v5:Int)=>(dF vc vh v5)) vh);((vh.length < 64/\(je (vh.map (·.1))).length<=100000)/\(∀ vi∈(je (vh.map (·.1))),has vh vi=true)))))
theorem G3 (vg:Str) (vc:LI_) {b_1:Bx} (h_1:Lp b_1 (vc.map eI)):RP lM [some ((zE eS) vg),some b_1,none,none,none,none] (λr=>Out.rt ((zE bO) r)) (gO vg vc) (some (jq vg vc)):=R.tp (bN 2 (aeZ eS) (λ_=>rfl) λvh=>(Gb (λvh:(List (Str×Str))=>[some ((zE eS) vg),some b_1,some ((mE eS) vh),none,none,none]) vh rfl (xO (dR (gD (cW 1 eI vc h_1 rfl) (x_i 0)) 9 (by decide))) _ (λ_ _=>rfl) (λ(vh:(List (Str×Str))) (v5:Int)=>(zL vg vc h_1 vh v5).r) λvh=>(cJ (λr=>r) (Ak (au 0 (zE eS) vg rfl) (wH (iw (rM (abM (iw (abQ (au 2 (nE eS) vh rfl)))) _ (λ_=>rfl) (λvi:Str=>(Ak (au 1 (zE eS) vi rfl) (aeY (au 0 (nE eS) vh rfl) (au 1 (zE eS) vi rfl)))))))) (λ_=>rfl) λ_=>rfl)))
theorem G4:∀ v bs,(aZ eS (aL eI aN)) v bs->bs.length=2/\(hold (some (jq v.1 v.2.1))->lN (bs.map lend)=some ((zE bO) (gO v.1 v.2.1))):=by
 rintro⟨vg,vc,_⟩ _ ⟨_,rfl,⟨b_1,_,rfl,h_1,rfl⟩⟩;exact⟨rfl,λh=>cF (g:=lM) (n:=6) (bs:=[.z (eS vg),lend b_1]) (G3 vg vc (yX h_1)) h⟩
def iB (v0:LI_) (v2:Int) (v4:LI_) (vb:LS_) (v9:List bM) (v5:Int):(List bM):=(let vg:=(at' vb ((((7:Int) * v5)+(at' v4 (7:Int))) % (15:Int)));(let v9:=v9++[(gO vg (aJ (aU v0 ((v2+(1:Int))+v5)) (17:Int)))];v9))
def lB (v0:LI_) (v2:Int) (v4:LI_) (vb:LS_) (v9:List bM) (v5:Int):Prop:=((In v4.length (7:Int)/\In vb.length ((((7:Int) * v5)+(at' v4 (7:Int))) % (15:Int)))/\(let vg:=(at' vb ((((7:Int) * v5)+(at' v4 (7:Int))) % (15:Int)));((((lA v0 ((v2+(1:Int))+v5))/\(iT (aU v0 ((v2+(1:Int))+v5)) (17:Int)))/\(jq vg (aJ (aU v0 ((v2+(1:Int))+v5)) (17:Int))))/\uR v9.length)))
theorem yC (v0:LI_) {jm:Bx} (kj:Lp jm (v0.map eI)) (v2:Int) (v3:Int) (v4:LI_) (vb:LS_) (v9:List bM) (v5:Int):RP qd [some jm,some ((zE eI) v2),some ((zE eI) v3),some ((oE eI) v4),some ((oE eS) vb),some ((oE bO) v9),some ((zE eI) v5),none] (λs=>Out.nx ((λv9:(List bM)=>[some jm,some ((zE eI) v2),some ((zE eI) v3),some ((oE eI) v4),some ((oE eS) vb),some ((oE bO) v9),none,none]) s)) (iB v0 v2 v4 vb v9 v5) (some (lB v0 v2 v4 vb v9 v5)):=R.tp (bD (bN 7 (gD (qw (au 4 (lE eS) vb rfl)) (dR (dN (lg 7 (by decide) (au 6 (zE eI) v5 rfl)) (gD (qw (au 3 (lE eI) v4 rfl)) (x_i 7))) 15 (by decide))) (λ_=>rfl) λvg=>(bD (Jt 5 v9 rfl (pW (x_call G4 (cX (au 7 (zE eS) vg rfl) (FZ (N5 (Rb (x_call rP (cX (pW (x_call yx (FZ (cW 0 eI v0 kj rfl) (cX (pW (dN (dN (au 1 (zE eI) v2 rfl) (x_i 1)) (au 6 (zE eI) v5 rfl))) bH)))) (cX (x_i 17) bH))))) bH)))) λv9=>(cQ (dY v9 rfl))))))
def iJ (v0:LI_) (v2:Int) (v3:Int):(List bM):=(let v4:=(aJ (aU v0 v2) (8:Int));(let vb:=(cT v4 (15:Int));(let v9:=([]:List bM);(let v9:(List bM):=((rng 0 ((at' v4 (6:Int)) % (v3+(1:Int))).toNat).foldl (λ(v9:List bM) (v5:Int)=>(iB v0 v2 v4 vb v9 v5)) v9);v9))))
def kE (v0:LI_) (v2:Int) (v3:Int):Prop:=(((lA v0 v2)/\(iT (aU v0 v2) (8:Int)))/\(let v4:=(aJ (aU v0 v2) (8:Int));((rz v4 (15:Int))/\(let vb:=(cT v4 (15:Int));(let v9:=([]:List bM);(((In v4.length (6:Int)/\0 < (v3+(1:Int)))/\Rg ((at' v4 (6:Int)) % (v3+(1:Int))))/\yt (λ(v9:List bM) (v5:Int)=>(iB v0 v2 v4 vb v9 v5)) (λ(v9:List bM) (v5:Int)=>some (lB v0 v2 v4 vb v9 v5)) (rng 0 ((at' v4 (6:Int)) % (v3+(1:Int))).toNat) v9))))))
theorem CK (v0:LI_) {jm:Bx} (kj:Lp jm (v0.map eI)) (v2:Int) (v3:Int):RP jY [some jm,some ((zE eI) v2),some ((zE eI) v3),none,none,none,none,none] (λr=>Out.rt ((zE (eT bO)) r)) (iJ v0 v2 v3) (some (kE v0 v2 v3)):=R.tp (bN 3 (x_call rP (cX (pW (x_call yx (FZ (cW 0 eI v0 kj rfl) (cX (au 1 (zE eI) v2 rfl) bH)))) (cX (x_i 8) bH))) (λ_=>rfl) λv4=>(bN 4 (x_call Ph (FZ (qw (au 3 (lE eI) v4 rfl)) (cX (x_i 15) bH))) (λ_=>rfl) λvb=>(bN 5 (iG (cI bO) (zg rfl)) (λ_=>rfl) λv9=>(Gb (λv9:(List bM)=>[some jm,some ((zE eI) v2),some ((zE eI) v3),some ((oE eI) v4),some ((oE eS) vb),some ((oE bO) v9),none,none]) v9 rfl (xO (Br (gD (qw (au 3 (lE eI) v4 rfl)) (x_i 6)) (dN (au 2 (zE eI) v3 rfl) (x_i 1)))) _ (λ_ _=>rfl) (λ(v9:List bM) (v5:Int)=>(yC v0 kj v2 v3 v4 vb v9 v5).r) λv9=>(cJ (λr=>r) (wH (qw (au 5 (lE bO) v9 rfl))) (λ_=>rfl) λ_=>rfl)))))
theorem CN:∀ v bs,(aL eI (aZ eI (aZ eI aN))) v bs->bs.length=3/\(hold (some (kE v.1 v.2.1 v.2.2.1))->jZ (bs.map lend)=some ((zE (eT bO)) (iJ v.1 v.2.1 v.2.2.1))):=by
 rintro⟨v0,v2,v3,_⟩ _ ⟨jm,_,rfl,kj,⟨_,rfl,⟨_,rfl,rfl⟩⟩⟩;exact⟨rfl,λh=>cF (g:=jY) (n:=8) (bs:=[lend jm,.z (eI v2),.z (eI v3)]) (CK v0 (yX kj) v2 v3) h⟩
def eG (vm:bM) (vn:Str) (v5:Int):Str:=(let vn:=(((((vn++(at' [("," : Str),("" : Str)] (if(decide (v5=(0:Int)))=true then(1:Int) else 0)))++(" " : Str))++(at' vm.2 v5).1)++(" " : Str))++(at' vm.2 v5).2);vn)
def gn (vm:bM) (vn:Str) (v5:Int):Prop:=(((((((In [("," : Str),("" : Str)].length (if(decide (v5=(0:Int)))=true then(1:Int) else 0)/\uR (vn.length+(at' [("," : Str),("" : Str)] (if(decide (v5=(0:Int)))=true then(1:Int) else 0)).length))/\uR ((vn++(at' [("," : Str),("" : Str)] (if(decide (v5=(0:Int)))=true then(1:Int) else 0))).length+(" " : Str).length))/\In vm.2.length v5)/\uR (((vn++(at' [("," : Str),("" : Str)] (if(decide (v5=(0:Int)))=true then(1:Int) else 0)))++(" " : Str)).length+(at' vm.2 v5).1.length))/\uR ((((vn++(at' [("," : Str),("" : Str)] (if(decide (v5=(0:Int)))=true then(1:Int) else 0)))++(" " : Str))++(at' vm.2 v5).1).length+(" " : Str).length))/\In vm.2.length v5)/\uR (((((vn++(at' [("," : Str),("" : Str)] (if(decide (v5=(0:Int)))=true then(1:Int) else 0)))++(" " : Str))++(at' vm.2 v5).1)++(" " : Str)).length+(at' vm.2 v5).2.length))
theorem zM (vm:bM) (vn:Str) (v5:Int):RP qO [some ((zE bO) vm),some ((zE eS) vn),some ((zE eI) v5)] (λs=>Out.nx ((λvn:Str=>[some ((zE bO) vm),some ((zE eS) vn),none]) s)) (eG vm vn v5) (some (gn vm vn v5)):=R.tp (bD (bN 1 (mV (mV (mV (mV (mV (au 1 (zE eS) vn rfl) (gD (iw (iG (aH (jc ",") (aH (jc "") (cI eS))) (zg rfl))) (Yu (x_eq (by decide) (au 2 (zE eI) v5 rfl) (x_i 0))))) (jc " ")) (Bu (ac4 (Bu (au 0 (zE bO) vm rfl) (λq=>q.2) (eT Ck) 1 λ_=>rfl) (au 2 (zE eI) v5 rfl)) (λq=>q.1) eS 0 λ_=>rfl)) (jc " ")) (Bu (ac4 (Bu (au 0 (zE bO) vm rfl) (λq=>q.2) (eT Ck) 1 λ_=>rfl) (au 2 (zE eI) v5 rfl)) (λq=>q.2) eS 1 λ_=>rfl)) (λ_=>rfl) λvn=>(cQ (dY vn rfl))))
def dG (vm:bM):Str:=(let vn:=(vm.1++(":" : Str));(let vn:Str:=((rng 0 (vm.2.length:Int).toNat).foldl (λ(vn:Str) (v5:Int)=>(eG vm vn v5)) vn);vn))
def mD (vm:bM):Prop:=(uR (vm.1.length+(":" : Str).length)/\(let vn:=(vm.1++(":" : Str));(Rg (vm.2.length:Int)/\yt (λ(vn:Str) (v5:Int)=>(eG vm vn v5)) (λ(vn:Str) (v5:Int)=>some (gn vm vn v5)) (rng 0 (vm.2.length:Int).toNat) vn)))
theorem G5 (vm:bM):RP lO [some ((zE bO) vm),none,none] (λr=>Out.rt ((zE eS) r)) (dG vm) (some (mD vm)):=R.tp (bN 1 (mV (Bu (au 0 (zE bO) vm rfl) (λq=>q.1) eS 0 λ_=>rfl) (jc ":")) (λ_=>rfl) λvn=>(Gb (λvn:Str=>[some ((zE bO) vm),some ((zE eS) vn),none]) vn rfl (xO (aeU (Bu (au 0 (zE bO) vm rfl) (λq=>q.2) (eT Ck) 1 λ_=>rfl))) _ (λ_ _=>rfl) (λ(vn:Str) (v5:Int)=>(zM vm vn v5).r) λvn=>(cJ (λr=>r) (au 1 (zE eS) vn rfl) (λ_=>rfl) λ_=>rfl)))
theorem G6:∀ v bs,(aZ bO aN) v bs->bs.length=1/\(hold (some (mD v.1))->jj (bs.map lend)=some ((zE eS) (dG v.1))):=by
 rintro⟨vm,_⟩ _ ⟨_,rfl,rfl⟩;exact⟨rfl,λh=>cF (g:=lO) (n:=3) (bs:=[.z (bO vm)]) (G5 vm) h⟩
def dU (vp:Str):LS_:=(if(!(bU (eS vp)))=true then default else(if(decide (vp.length≠0))=true then(Txt.split vp ("\n" : Str)) else([]:LS_)))
def ur (vp:Str):Prop:=(((!(bU (eS vp)))=true->False)/\((!(bU (eS vp)))=false->((decide (vp.length≠0))=true->((("\n" : Str).length==0)=false/\vp.length<=100000))))
theorem RB (vp:Str):RP ug [some ((zE eS) vp)] (λr=>Out.rt ((oE eS) r)) (dU vp) (some (ur vp)):=R.tp (jf (qD (yq (yZ bU (au 0 (zE eS) vp rfl)))) (bD Tq) (cQ (cJ (λr=>r) (abG (Yp (au 0 (zE eS) vp rfl)) (DW (au 0 (zE eS) vp rfl) (jc "\n")) (iG (cI eS) (zg rfl))) (λ_=>rfl) λ_=>rfl)))
theorem RD:∀ v bs,(aZ eS aN) v bs->bs.length=1/\(hold (some (ur v.1))->eU (bs.map lend)=some ((oE eS) (dU v.1))):=by
 rintro⟨vp,_⟩ _ ⟨_,rfl,rfl⟩;exact⟨rfl,λh=>cF (g:=ug) (n:=1) (bs:=[.z (eS vp)]) (RB vp) h⟩
def eY (vt:Dt) (vu:Int):Bool:=((is_tuple vt)&&(decide ((oZ vt)=vu)))
def qp (vt:Dt) (vu:Int):Prop:=((is_tuple vt)=true->tM vt=true)
theorem RG (vt:Dt) (vu:Int):RP uh [some ((zE eD) vt),some ((zE eI) vu)] (λr=>Out.rt ((zE eB) r)) (eY vt vu) (some (qp vt vu)):=R.tp (cJ (λr=>r) (xK (yZ is_tuple (au 0 (zE eD) vt rfl)) (x_eq (by decide) (yr (au 0 (zE eD) vt rfl)) (au 1 (zE eI) vu rfl))) (λ_=>rfl) λ_=>rfl)
theorem G7:∀ v bs,(aZ eD (aZ eI aN)) v bs->bs.length=2/\(hold (some (qp v.1 v.2.1))->mY (bs.map lend)=some ((zE eB) (eY v.1 v.2.1))):=by
 rintro⟨vt,vu,_⟩ _ ⟨_,rfl,⟨_,rfl,rfl⟩⟩;exact⟨rfl,λh=>cF (g:=uh) (n:=2) (bs:=[.z (eD vt),.z (eI vu)]) (RG vt vu) h⟩
def fB (vt:Dt) (vv:Str) (vw:Int):Bool:=((bU vt)&&(((decide ((1:Int)<=(oZ vt)))&&(decide ((oZ vt)<=vw)))&&(((vG vt).map λvx:Dt=>(Bh (FW vx) vv)).all id)))
def jG (vt:Dt) (vv:Str) (vw:Int):Prop:=((bU vt)=true->((tM vt=true/\((decide ((1:Int)<=(oZ vt)))=true->tM vt=true))/\(((decide ((1:Int)<=(oZ vt)))&&(decide ((oZ vt)<=vw)))=true->((tM vt=true/\(vG vt).length<=100000)/\(∀ vx∈(vG vt),vx=eS (FW vx))))))
theorem Ld (vt:Dt) (vv:Str) (vw:Int):RP o7 [some ((zE eD) vt),some ((zE eS) vv),some ((zE eI) vw)] (λr=>Out.rt ((zE eB) r)) (fB vt vv vw) (some (jG vt vv vw)):=R.tp (cJ (λr=>r) (xK (yZ bU (au 0 (zE eD) vt rfl)) (xK (agZ (abE (x_i 1) (yr (au 0 (zE eD) vt rfl))) (abE (yr (au 0 (zE eD) vt rfl)) (au 2 (zE eI) vw rfl))) (N7 (iw (rM (abN (au 0 (zE eD) vt rfl)) _ (λ_=>rfl) (λvx:Dt=>(ac5 (DR (au 1 (zE eD) vx rfl) FW eS) (au 0 (zE eS) vv rfl)))))))) (λ_=>rfl) λ_=>rfl)
theorem zN:∀ v bs,(aZ eD (aZ eS (aZ eI aN))) v bs->bs.length=3/\(hold (some (jG v.1 v.2.1 v.2.2.1))->jy (bs.map lend)=some ((zE eB) (fB v.1 v.2.1 v.2.2.1))):=by
 rintro⟨vt,vv,vw,_⟩ _ ⟨_,rfl,⟨_,rfl,⟨_,rfl,rfl⟩⟩⟩;exact⟨rfl,λh=>cF (g:=o7) (n:=3) (bs:=[.z (eD vt),.z (eS vv),.z (eI vw)]) (Ld vt vv vw) h⟩
def gP (vt:Dt):Bool:=(fB vt ("abcdefghijklmnopqrstuvwxyz" : Str) (8:Int))
def sO (vt:Dt):Prop:=(jG vt ("abcdefghijklmnopqrstuvwxyz" : Str) (8:Int))
theorem Wf (vt:Dt):RP wL [some ((zE eD) vt)] (λr=>Out.rt ((zE eB) r)) (gP vt) (some (sO vt)):=R.tp (cJ (λr=>r) (x_call zN (cX (au 0 (zE eD) vt rfl) (cX (jc "abcdefghijklmnopqrstuvwxyz") (cX (x_i 8) bH)))) (λ_=>rfl) λ_=>rfl)
theorem JK:∀ v bs,(aZ eD aN) v bs->bs.length=1/\(hold (some (sO v.1))->pJ (bs.map lend)=some ((zE eB) (gP v.1))):=by
 rintro⟨vt,_⟩ _ ⟨_,rfl,rfl⟩;exact⟨rfl,λh=>cF (g:=wL) (n:=1) (bs:=[.z (eD vt)]) (Wf vt) h⟩
def nq (vt:Dt):Bool:=(fB vt (("abcdefghijklmnopqrstuvwxyz" : Str)++("0123456789" : Str)) (12:Int))
def wU (vt:Dt):Prop:=(uR (("abcdefghijklmnopqrstuvwxyz" : Str).length+("0123456789" : Str).length)/\(jG vt (("abcdefghijklmnopqrstuvwxyz" : Str)++("0123456789" : Str)) (12:Int)))
theorem Wg (vt:Dt):RP wM [some ((zE eD) vt)] (λr=>Out.rt ((zE eB) r)) (nq vt) (some (wU vt)):=R.tp (cJ (λr=>r) (x_call zN (cX (au 0 (zE eD) vt rfl) (cX (pW (mV (jc "abcdefghijklmnopqrstuvwxyz") (jc "0123456789"))) (cX (x_i 12) bH)))) (λ_=>rfl) λ_=>rfl)
theorem Wh:∀ v bs,(aZ eD aN) v bs->bs.length=1/\(hold (some (wU v.1))->wN (bs.map lend)=some ((zE eB) (nq v.1))):=by
 rintro⟨vt,_⟩ _ ⟨_,rfl,rfl⟩;exact⟨rfl,λh=>cF (g:=wM) (n:=1) (bs:=[.z (eD vt)]) (Wg vt) h⟩
def aX (vt:Dt):Bool:=((eY vt (2:Int))&&((gP (qF vt (0:Int)))&&(nq (qF vt (1:Int)))))
def kJ (vt:Dt):Prop:=((qp vt (2:Int))/\((eY vt (2:Int))=true->((Rc vt (0:Int)/\(sO (qF vt (0:Int))))/\((gP (qF vt (0:Int)))=true->(Rc vt (1:Int)/\(wU (qF vt (1:Int))))))))
theorem CP (vt:Dt):RP j4 [some ((zE eD) vt)] (λr=>Out.rt ((zE eB) r)) (aX vt) (some (kJ vt)):=R.tp (cJ (λr=>r) (xK (x_call G7 (cX (au 0 (zE eD) vt rfl) (cX (x_i 2) bH))) (xK (x_call JK (cX (xM (au 0 (zE eD) vt rfl) (x_i 0)) bH)) (x_call Wh (cX (xM (au 0 (zE eD) vt rfl) (x_i 1)) bH)))) (λ_=>rfl) λ_=>rfl)
theorem CQ:∀ v bs,(aZ eD aN) v bs->bs.length=1/\(hold (some (kJ v.1))->j5 (bs.map lend)=some ((zE eB) (aX v.1))):=by
 rintro⟨vt,_⟩ _ ⟨_,rfl,rfl⟩;exact⟨rfl,λh=>cF (g:=j4) (n:=1) (bs:=[.z (eD vt)]) (CP vt) h⟩
def pH (vz:LS_):Bool:=(((rng 0 ((vz.length:Int) - (1:Int)).toNat).map λva0:Int=>(Yl (at' vz va0) (at' vz (va0+(1:Int))))).all id)
def pI (vz:LS_):Prop:=((Rg ((vz.length:Int) - (1:Int))/\(rng 0 ((vz.length:Int) - (1:Int)).toNat).length<=100000)/\(∀ va0∈(rng 0 ((vz.length:Int) - (1:Int)).toNat),(In vz.length va0/\In vz.length (va0+(1:Int)))))
theorem Le (vz:LS_) {jm:Bx} (kj:Lp jm (vz.map eS)):RP o8 [some jm] (λr=>Out.rt ((zE eB) r)) (pH vz) (some (pI vz)):=R.tp (cJ (λr=>r) (N7 (iw (rM (xO (agV (x_len (cW 0 eS vz kj rfl)) (x_i 1))) _ (λ_=>rfl) (λva0:Int=>(agX (gD (cW 0 eS vz kj (congrArg some (kj.get rfl))) (au 1 (zE eI) va0 rfl)) (gD (cW 0 eS vz kj (congrArg some (kj.get rfl))) (dN (au 1 (zE eI) va0 rfl) (x_i 1)))))))) (λ_=>rfl) λ_=>rfl)
theorem Lf:∀ v bs,(aL eS aN) v bs->bs.length=1/\(hold (some (pI v.1))->o9 (bs.map lend)=some ((zE eB) (pH v.1))):=by
 rintro⟨vz,_⟩ _ ⟨jm,_,rfl,kj,rfl⟩;exact⟨rfl,λh=>cF (g:=o8) (n:=1) (bs:=[lend jm]) (Le vz (yX kj)) h⟩
def nY (vt:Dt):Bool:=(if((!(is_tuple vt))||(!(((vG vt).map λvy:Dt=>(aX vy)).all id)))=true then false else(pH (((vG vt).map Rf).map λq1:aco=>(FW q1.1))))
def rA (vt:Dt):Prop:=(((!(is_tuple vt))=false->((tM vt=true/\(vG vt).length<=100000)/\(∀ vy∈(vG vt),(kJ vy))))/\(((!(is_tuple vt))||(!(((vG vt).map λvy:Dt=>(aX vy)).all id)))=false->((((tM vt=true/\(∀ d∈(vG vt),d=ahn (Rf d)))/\((vG vt).map Rf).length<=100000)/\(∀ q1∈((vG vt).map Rf),q1.1=eS (FW q1.1)))/\(pI (((vG vt).map Rf).map λq1:aco=>(FW q1.1))))))
theorem Pj (vt:Dt):RP qP [some ((zE eD) vt)] (λr=>Out.rt ((zE eB) r)) (nY vt) (some (rA vt)):=R.tp (jf (FP (qD (yq (yZ is_tuple (au 0 (zE eD) vt rfl)))) (qD (yq (N7 (iw (rM (abN (au 0 (zE eD) vt rfl)) _ (λ_=>rfl) (λvy:Dt=>(pW (x_call CQ (cX (au 0 (zE eD) vy rfl) bH)))))))))) (bD (cJ (λr=>r) (rW (.bl false) eB false rfl) (λ_=>rfl) λ_=>rfl)) (cQ (cJ (λr=>r) (x_call Lf (FZ (N5 (Rb (rM (YD (abN (au 0 (zE eD) vt rfl)) Rf ahn) _ (λ_=>rfl) (λq1:aco=>(DR (au 0 (zE eD) q1.1 rfl) FW eS))))) bH)) (λ_=>rfl) λ_=>rfl)))
theorem Pk:∀ v bs,(aZ eD aN) v bs->bs.length=1/\(hold (some (rA v.1))->qQ (bs.map lend)=some ((zE eB) (nY v.1))):=by
 rintro⟨vt,_⟩ _ ⟨_,rfl,rfl⟩;exact⟨rfl,λh=>cF (g:=qP) (n:=1) (bs:=[.z (eD vt)]) (Pj vt) h⟩
def eE (vt:Dt):Bool:=((eY vt (2:Int))&&((gP (qF vt (0:Int)))&&(nY (qF vt (1:Int)))))
def vV (vt:Dt):Prop:=((qp vt (2:Int))/\((eY vt (2:Int))=true->((Rc vt (0:Int)/\(sO (qF vt (0:Int))))/\((gP (qF vt (0:Int)))=true->(Rc vt (1:Int)/\(rA (qF vt (1:Int))))))))
theorem Zv (vt:Dt):RP zA [some ((zE eD) vt)] (λr=>Out.rt ((zE eB) r)) (eE vt) (some (vV vt)):=R.tp (cJ (λr=>r) (xK (x_call G7 (cX (au 0 (zE eD) vt rfl) (cX (x_i 2) bH))) (xK (x_call JK (cX (xM (au 0 (zE eD) vt rfl) (x_i 0)) bH)) (x_call Pk (cX (xM (au 0 (zE eD) vt rfl) (x_i 1)) bH)))) (λ_=>rfl) λ_=>rfl)
theorem Pn:∀ v bs,(aZ eD aN) v bs->bs.length=1/\(hold (some (vV v.1))->zB (bs.map lend)=some ((zE eB) (eE v.1))):=by
 rintro⟨vt,_⟩ _ ⟨_,rfl,rfl⟩;exact⟨rfl,λh=>cF (g:=zA) (n:=1) (bs:=[.z (eD vt)]) (Zv vt) h⟩
def dH (vp:Str):(Option Zo):=(let q1:=(Txt.partition vp (":" : Str));(if(!(decide (q1.2.1.length≠0)))=true then none else(if(!(decide (q1.2.2.length≠0)))=true then(let vr:=([]:List LS_);(let vs:=(q1.1,vr);(if(eE (jO vs))=true then(some vs) else none))) else(if(decide ((ch q1.2.2 (0:Int))=(" " : Str)))=true then(let vr:=((Txt.split (Txt.slice q1.2.2 (some (1:Int)) none) (", " : Str)).map λvy:Str=>(Txt.split vy (" " : Str)));(let vs:=(q1.1,vr);(if(eE (jO vs))=true then(some vs) else none))) else none))))
def mF (vp:Str):Prop:=(((":" : Str).length==0)=false/\(let q1:=(Txt.partition vp (":" : Str));((!(decide (q1.2.1.length≠0)))=false->(((!(decide (q1.2.2.length≠0)))=true->(let vr:=([]:List LS_);(let vs:=(q1.1,vr);(vV (jO vs)))))/\((!(decide (q1.2.2.length≠0)))=false->(In q1.2.2.length (0:Int)/\((decide ((ch q1.2.2 (0:Int))=(" " : Str)))=true->((((((", " : Str).length==0)=false/\(Txt.slice q1.2.2 (some (1:Int)) none).length<=100000)/\(Txt.split (Txt.slice q1.2.2 (some (1:Int)) none) (", " : Str)).length<=100000)/\(∀ vy∈(Txt.split (Txt.slice q1.2.2 (some (1:Int)) none) (", " : Str)),(((" " : Str).length==0)=false/\vy.length<=100000)))/\(let vr:=((Txt.split (Txt.slice q1.2.2 (some (1:Int)) none) (", " : Str)).map λvy:Str=>(Txt.split vy (" " : Str)));(let vs:=(q1.1,vr);(vV (jO vs))))))))))))
theorem Zw (vp:Str):RP zF [some ((zE eS) vp),none,none,none,none,none] (λr=>Out.rt ((zE (eO jO)) r)) (dH vp) (some (mF vp)):=R.tp (ag2 (ae6 (au 0 (zE eS) vp rfl) (jc ":")) _ (λ_=>rfl) λq1=>(jf (qD (Yp (au 2 (zE eS) q1.2.1 rfl))) (bD (cJ (λr=>r) vD (λ_=>rfl) λ_=>rfl)) (cQ (jf (qD (Yp (au 3 (zE eS) q1.2.2 rfl))) (bD (bN 4 (aeR (eT eS)) (λ_=>rfl) λvr=>(cQ (bN 5 (Ak (au 1 (zE eS) q1.1 rfl) (au 4 (zE (eT (eT eS))) vr rfl)) (λ_=>rfl) λvs=>(cJ (λr=>r) (pW (abG (yq (x_call Pn (cX (Fz (au 5 (zE jO) vs rfl)) bH))) (Ra (au 5 (zE jO) vs rfl)) vD)) (λ_=>rfl) λ_=>rfl))))) (bD (jf (iD (x_eq (by decide) (Jr (au 3 (zE eS) q1.2.2 rfl) (x_i 0)) (jc " "))) (bD (bN 4 (wH (iw (rM (abM (iw (DW (rY (au 3 (zE eS) q1.2.2 rfl) (mU (x_i 1)) rJ) (jc ", ")))) _ (λ_=>rfl) (λvy:Str=>(wH (iw (DW (au 0 (zE eS) vy rfl) (jc " ")))))))) (λ_=>rfl) λvr=>(cQ (cQ (bN 5 (Ak (au 1 (zE eS) q1.1 rfl) (au 4 (zE (eT (eT eS))) vr rfl)) (λ_=>rfl) λvs=>(cJ (λr=>r) (pW (abG (yq (x_call Pn (cX (Fz (au 5 (zE jO) vs rfl)) bH))) (Ra (au 5 (zE jO) vs rfl)) vD)) (λ_=>rfl) λ_=>rfl)))))) (bD (cJ (λr=>r) vD (λ_=>rfl) λ_=>rfl))))))))
theorem G8:∀ v bs,(aZ eS aN) v bs->bs.length=1/\(hold (some (mF v.1))->dD (bs.map lend)=some ((zE (eO jO)) (dH v.1))):=by
 rintro⟨vp,_⟩ _ ⟨_,rfl,rfl⟩;exact⟨rfl,λh=>cF (g:=zF) (n:=6) (bs:=[.z (eS vp)]) (Zw vp) h⟩
def Ma (rd:Str->Option (Str×Dt)):Nat->LS_->List Dt->LS_->Dt
 |_,_,out,[]=>.tup [.str "told", .tup out]
 |k,seen,out,l::ls=>match rd l with
  |none=>.tup [.str "refused", .int (k:Nat)]
  |some q=>if q.1∈seen then .tup [.str "refused", .int (k:Nat)] else Ma rd (k+1) (seen++[q.1]) (out++[q.2]) ls
def gQ (vo:Dt):Dt:=.tup [.str "refused", .int 0]
def vW (vo:Dt):Prop:=bU vo=false
theorem G9:∀ v bs,(aZ eD aN) v bs->bs.length=1/\(hold (some (vW v.1))->bY (bs.map lend)=some ((zE eD) (gQ v.1))):=by
 rintro⟨vp,_⟩ _ ⟨_,rfl,rfl⟩;refine⟨rfl,λh=>?_⟩;have h:bU vp=false:=h;have e1:setG 1 (dw gY aG) [some (.z vp),none,none,none,none,none]=some (.nx [some (.z vp),some (.o []),none,none,none,none]):=rfl;have c:rE (tV (mO bU (gv 0))) [some (.z vp)]=some (!bU vp):=by cases vp<;>rfl
 have e2:TV 1 (pY 1 BR) (ao (gv 0) aG) ([some (.z vp),some (.o []),none,none,none,none].set 2 none)=some (.int 0):=by
  show BR [some (.z vp)]=_;unfold BR ifX;rw[c,h];rfl
 have ex:pY 6 zG [.z vp]=some (.int 0):=by
  show zG [some (.z vp),none,none,none,none,none]=_;unfold zG Bw;rw[e1,bnd]
  try dsimp only
  unfold orX;dsimp only;rw[e2]
 show bY [.z vp]=some (.z (.tup [.str "refused", .int 0]));unfold bY qW;rw[ex]
def yD (vp:Str):Zo:=(let vs:=(if(bU (eS vp))=true then(dH vp) else none);(if vs.isNone=true then default else(vs.getD default)))
def uw (vp:Str):Prop:=(((bU (eS vp))=true->(mF vp))/\(let vs:=(if(bU (eS vp))=true then(dH vp) else none);((vs.isNone=true->False)/\(vs.isNone=false->vs.isSome=true))))
theorem RJ (vp:Str):RP um [some ((zE eS) vp),none] (λr=>Out.rt ((zE jO) r)) (yD vp) (some (uw vp)):=R.tp (bN 1 (abG (yq (yZ bU (au 0 (zE eS) vp rfl))) (x_call G8 (cX (au 0 (zE eS) vp rfl) bH)) vD) (λ_=>rfl) λvs=>(jf (iD (Yo (au 1 (zE (eO jO)) vs rfl) λ_=>rfl)) (bD Tq) (cQ (cJ (λr=>r) (Yk (au 1 (zE (eO jO)) vs rfl)) (λ_=>rfl) λ_=>rfl))))
theorem RK:∀ v bs,(aZ eS aN) v bs->bs.length=1/\(hold (some (uw v.1))->qe (bs.map lend)=some ((zE jO) (yD v.1))):=by
 rintro⟨vp,_⟩ _ ⟨_,rfl,rfl⟩;exact⟨rfl,λh=>cF (g:=um) (n:=2) (bs:=[.z (eS vp)]) (RJ vp) h⟩
def jr (vo:Dt):Dt:=.tup [.str "refused", .int 0]
def vX (vo:Dt):Prop:=bU vo=false
theorem Hf:∀ v bs,(aZ eD aN) v bs->bs.length=1/\(hold (some (vX v.1))->bZ (bs.map lend)=some ((zE eD) (jr v.1))):=by
 rintro⟨vp,_⟩ _ ⟨_,rfl,rfl⟩;refine⟨rfl,λh=>?_⟩;have h:bU vp=false:=h;have c:tV (mO bU (gv 0)) [some (.z vp),none]=some (bU vp):=by cases vp<;>rfl
 have e1:setG 1 (Xk (tV (mO bU (gv 0))) (bB 1 dD (ao (gv 0) aG)) (cB .non)) [some (.z vp),none]=some (.nx [some (.z vp),some (.z .non)]):=by
  unfold setG Xk;rw[c,h];rfl
 have ex:pY 2 uG [.z vp]=some (.int 0):=by
  show uG [some (.z vp),none]=_;unfold uG Bw;rw[e1,bnd];rfl
 show bZ [.z vp]=some (.z (.tup [.str "refused", .int 0]));unfold bZ qW;rw[ex]
def rdP (l:Str):Option (Str×Dt):=(dH l).map λr=>(r.1,jO r)
def aW (vp:Str):Dt:=Ma rdP 0 [] [] (dU vp)
def gR (vp:Str):Prop:=ur vp/\(∀ l∈dU vp,mF l)/\(dU vp).length < 4000
theorem Zx {i:Int} (h:0<=i/\i < 100000):qU (.int i)=true:=QE h
def en (k:Nat):LS_->List Dt
 |[]=>[]
 |l::ls=>.tup [.int (k:Nat),.str l]::en (k+1) ls
theorem Zy:∀ (ls:LS_) (k:Nat),(List.zipWith (λ(j:Nat) x=>((j:Int),x)) (List.range' k ls.length) ls).map (zV eI eS)=en k ls
 |[],k=>rfl
 |l::ls,k=>by
  rw[Zp,List.range'_succ,List.zipWith_cons_cons,zw,en,Zy ls (k+1)]
theorem acs (ls:LS_):(Oc ls).map (zV eI eS)=en 0 ls:=by
 unfold Oc;rw[List.range_eq_range'];exact Zy ls 0
def r6 (vp:Str):Ev:=[some (.z (.str vp)),none,none,none,none,none]
abbrev SX (vp:Str):=rZ 3 4 5 (bB 1 dD (ao (gv 4) aG)) (u9 Ve (gv 5) (cB .non)) (b2 fV (gv 5) (cB (.int 0))) (rzX qU (gv 3)) (r6 vp)
theorem Ua (vp:Str):∀ (ls:LS_) (k:Nat) (seen:LS_) (out:List Dt),(∀ l∈ls,mF l)->seen.length+ls.length < 4000->out.length+ls.length < 4000->k+ls.length<=90000 →
  ∃ q,SX vp (en k ls) seen out=some q/\((∃ res,q=.inl res/\Ma rdP k seen out ls=.tup [.str "told", .tup res])\/∃ i:Int,q=.inr (.int i)/\Ma rdP k seen out ls=.tup [.str "refused", .int i])
 |[],k,seen,out,_,_,_,_=>⟨_,rfl,.inl ⟨_,rfl,rfl⟩⟩
 |l::ls,k,seen,out,hd,hs,ho,hk=>by
  have hl:=hd l (zo ..);rw[Zp] at hs ho hk;have ec:bB 1 dD (ao (gv 4) aG) [some (.z (.str vp)),none,none,some (.z (.int (k:Nat))),some (.z (.str l)),none]=some (.z (eO jO (dH l))):=
   (x_call G8 (cX (au 4 (zE eS) l (ρ:=[some (.z (.str vp)),none,none,some (.z (.int (k:Nat))),some (.z (.str l)),none]) rfl) bH)).ok hl
  have hf:∀ x,rzX qU (gv 3) [some (.z (.str vp)),none,none,some (.z (.int (k:Nat))),some (.z (.str l)),x]=some (.int (k:Nat)):=λx=>by
   have ok:qU (.int (k:Nat))=true:=Zx ⟨Int.natCast_nonneg k,by omega⟩;unfold rzX;rw[show gv 3 [some (.z (.str vp)),none,none,some (.z (.int (k:Nat))),some (.z (.str l)),x]=some (.z (.int (k:Nat))) from rfl,bnd];show(some (Dt.int (k:Nat))).bind _=_;rw[bnd,zh ok]
  cases hr:dH l with
  |none=>
   have er:rdP l=none:=by unfold rdP;rw[hr];rfl
   refine⟨.inr (.int (k:Nat)),?_,.inr ⟨_,rfl,by rw[Ma,er]⟩⟩;unfold SX;rw[en,rZ]
   try dsimp only
   rw[show((r6 vp).set 3 (some (.z (.int (k:Nat))))).set 4 (some (.z (.str l)))=[some (.z (.str vp)),none,none,some (.z (.int (k:Nat))),some (.z (.str l)),none] from rfl,ec,hr];simp only[bnd];show(some true).bind _=_;rw[bnd,zh rfl];show(rzX qU (gv 3) [some (.z (.str vp)),none,none,some (.z (.int (k:Nat))),some (.z (.str l)),some (.z .non)]).bind _=_;rw[hf,bnd]
  |some r=>
   have er:rdP l=some (r.1,jO r):=by unfold rdP;rw[hr];rfl
   have step:SX vp (en k (l::ls)) seen out=if r.1∈seen then some (.inr (.int (k:Nat))) else SX vp (en (k+1) ls) (seen++[r.1]) (out++[jO r]):=by
    unfold SX;rw[en,rZ]
    try dsimp only
    rw[show((r6 vp).set 3 (some (.z (.int (k:Nat))))).set 4 (some (.z (.str l)))=[some (.z (.str vp)),none,none,some (.z (.int (k:Nat))),some (.z (.str l)),none] from rfl,ec,hr];simp only[bnd];show(some false).bind _=_;rw[bnd,zC zk];show(some (Bx.z (.str r.1))).bind _=_;rw[bnd];show(some r.1).bind _=_;rw[bnd];by_cases hm:r.1∈seen
    ·rw[zh hm,zh hm];show(rzX qU (gv 3) [some (.z (.str vp)),none,none,some (.z (.int (k:Nat))),some (.z (.str l)),some (.z (jO r))]).bind _=_;rw[hf,bnd]
    ·rw[zC hm,zC hm,zh ⟨by omega,by omega⟩]
   rw[step,Ma,er];dsimp only;by_cases hm:r.1∈seen
   ·rw[zh hm,zh hm];exact⟨_,rfl,.inr ⟨_,rfl,rfl⟩⟩
   ·rw[zC hm,zC hm];exact Ua vp ls (k+1) (seen++[r.1]) (out++[jO r]) (λm hm=>hd m (zr _ hm)) (by rw[zt,ZY];omega) (by rw[zt,ZY];omega) (by omega)
def qxD:Sum LD_ Dt->Option Dt
 |.inl _=>none
 |.inr d=>some d
theorem sS:∀ v bs,(aZ eS aN) v bs->bs.length=1/\(hold (some (gR v.1))->bY (bs.map lend)=some ((zE eD) (aW v.1))):=by
 rintro⟨vp,_⟩ _ ⟨_,rfl,rfl⟩;refine⟨rfl,λh=>?_⟩;obtain⟨h1,h2,h3⟩:gR vp:=h;have e1:setG 1 (dw gY aG) [some (.z (.str vp)),none,none,none,none,none]=some (.nx [some (.z (.str vp)),some (.o []),none,none,none,none]):=rfl;have e2:TV 1 (pY 1 BR) (ao (gv 0) aG) ([some (.z (.str vp)),some (.o []),none,none,none,none].set 2 none)=none:=rfl;have e3:=(ae2 (Rb (x_call RD (cX (au 0 (zE eS) vp (ρ:=r6 vp) rfl) bH)))).ok h1;have e3:enF (ao (b1 uQ (bB 1 eU (ao (gv 0) aG))) aG) (r6 vp)=some (en 0 (dU vp)):=e3.trans (congrArg some (acs (dU vp)));obtain⟨q,eq,hq⟩:=Ua vp (dU vp) 0 [] [] h2 (by simpa using h3) (by simpa using h3) (by omega);have eH:Ju 2 1 5 3 4 (enF (ao (b1 uQ (bB 1 eU (ao (gv 0) aG))) aG)) (bB 1 dD (ao (gv 4) aG)) (u9 Ve (gv 5) (cB .non)) (b2 fV (gv 5) (cB (.int 0))) (rzX qU (gv 3)) [some (.z (.str vp)),some (.o []),none,none,none,none]=(SX vp (en 0 (dU vp)) [] []).bind λq=>match q with
   |.inl out=>some (.inl [some (.z (.str vp)),some (.o out),none,none,none,none])
   |.inr d=>some (.inr d):=by
  show(enF (ao (b1 uQ (bB 1 eU (ao (gv 0) aG))) aG) (r6 vp)).bind _=_;rw[e3,bnd];rfl
 show bY [.z (.str vp)]=some (.z (aW vp));unfold bY qW aW;have ex:pY 6 zG [.z (.str vp)]=qxD q:=by
  show zG [some (.z (.str vp)),none,none,none,none,none]=_;unfold zG Bw;rw[e1,bnd]
  try dsimp only
  unfold orX;dsimp only;rw[e2]
  try dsimp only
  rw[eH,eq,bnd];cases q<;>rfl
 rcases hq with⟨res,rfl,er⟩|⟨i,rfl,er⟩
 ·rw[ex,er];have eL:=Zg eq;have eb:qT [.z (.str vp)]=some (.z (.tup res)):=by
   show(qR [some (.z (.str vp)),none,none,none,none,none]).bind _=_;unfold qR;have e4:Og 2 1 5 3 4 (enF (ao (b1 uQ (bB 1 eU (ao (gv 0) aG))) aG)) (bB 1 dD (ao (gv 4) aG)) (u9 Ve (gv 5) (cB .non)) (b2 fV (gv 5) (cB (.int 0))) [some (.z (.str vp)),some (.o []),none,none,none,none]=some (.nx [some (.z (.str vp)),some (.o res),none,none,none,none]):=by
    show(enF (ao (b1 uQ (bB 1 eU (ao (gv 0) aG))) aG) (r6 vp)).bind _=_;rw[e3,bnd];show(Bv 3 4 5 _ _ _ (r6 vp) (en 0 (dU vp)) [] []).bind _=_;rw[eL,bnd];rfl
   show((aD (Og 2 1 5 3 4 _ _ _ _) _ [some (.z (.str vp)),some (.o []),none,none,none,none])).bind _=_;unfold aD;rw[e4];rfl
  unfold qxD;dsimp only;rw[eb];rfl
 ·rw[ex,er];rfl
def gC (vo:Dt) (vd:Str) (v3:Int):Bool:=((bU vo)&&(((decide ((1:Int)<=(oZ vo)))&&(decide ((oZ vo)<=v3)))&&(((vG vo).map λva6:Dt=>(Bh (FW va6) vd)).all id)))
def jV (vo:Dt) (vd:Str) (v3:Int):Prop:=((bU vo)=true->((tM vo=true/\((decide ((1:Int)<=(oZ vo)))=true->tM vo=true))/\(((decide ((1:Int)<=(oZ vo)))&&(decide ((oZ vo)<=v3)))=true->((tM vo=true/\(vG vo).length<=100000)/\(∀ va6∈(vG vo),va6=eS (FW va6))))))
theorem Iz (vo:Dt) (vd:Str) (v3:Int):RP nF [some ((zE eD) vo),some ((zE eS) vd),some ((zE eI) v3)] (λr=>Out.rt ((zE eB) r)) (gC vo vd v3) (some (jV vo vd v3)):=R.tp (cJ (λr=>r) (xK (yZ bU (au 0 (zE eD) vo rfl)) (xK (agZ (abE (x_i 1) (yr (au 0 (zE eD) vo rfl))) (abE (yr (au 0 (zE eD) vo rfl)) (au 2 (zE eI) v3 rfl))) (N7 (iw (rM (abN (au 0 (zE eD) vo rfl)) _ (λ_=>rfl) (λva6:Dt=>(ac5 (DR (au 1 (zE eD) va6 rfl) FW eS) (au 0 (zE eS) vd rfl)))))))) (λ_=>rfl) λ_=>rfl)
theorem xY:∀ v bs,(aZ eD (aZ eS (aZ eI aN))) v bs->bs.length=3/\(hold (some (jV v.1 v.2.1 v.2.2.1))->iM (bs.map lend)=some ((zE eB) (gC v.1 v.2.1 v.2.2.1))):=by
 rintro⟨vo,vd,v3,_⟩ _ ⟨_,rfl,⟨_,rfl,⟨_,rfl,rfl⟩⟩⟩;exact⟨rfl,λh=>cF (g:=nF) (n:=3) (bs:=[.z (eD vo),.z (eS vd),.z (eI v3)]) (Iz vo vd v3) h⟩
def fH (vo:Dt):Bool:=(gC vo ("abcdefghijklmnopqrstuvwxyz" : Str) (8:Int))
def jW (vo:Dt):Prop:=(jV vo ("abcdefghijklmnopqrstuvwxyz" : Str) (8:Int))
theorem IK (vo:Dt):RP nG [some ((zE eD) vo)] (λr=>Out.rt ((zE eB) r)) (fH vo) (some (jW vo)):=R.tp (cJ (λr=>r) (x_call xY (cX (au 0 (zE eD) vo rfl) (cX (jc "abcdefghijklmnopqrstuvwxyz") (cX (x_i 8) bH)))) (λ_=>rfl) λ_=>rfl)
theorem xZ:∀ v bs,(aZ eD aN) v bs->bs.length=1/\(hold (some (jW v.1))->jT (bs.map lend)=some ((zE eB) (fH v.1))):=by
 rintro⟨vo,_⟩ _ ⟨_,rfl,rfl⟩;exact⟨rfl,λh=>cF (g:=nG) (n:=1) (bs:=[.z (eD vo)]) (IK vo) h⟩
def dI  (rB:LS_) (ux:Dt):jJ (LS_) Bool:=(if((!(is_tuple ux))||((!decide ((oZ ux)=(2:Int)))||(!(fH (qF ux (0:Int))))))=true then(jJ.rt false) else(if(!(gC (qF ux (1:Int)) ("abcdefghijklmnopqrstuvwxyz0123456789" : Str) (12:Int)))=true then(jJ.rt false) else(let rB:=rB++[(FW (qF ux (0:Int)))];(jJ.nx rB))))
def kO  (rB:LS_) (ux:Dt):Prop:=(((!(is_tuple ux))=false->(tM ux=true/\((!decide ((oZ ux)=(2:Int)))=false->(Rc ux (0:Int)/\(jW (qF ux (0:Int)))))))/\(((!(is_tuple ux))||((!decide ((oZ ux)=(2:Int)))||(!(fH (qF ux (0:Int))))))=false->((Rc ux (1:Int)/\(jV (qF ux (1:Int)) ("abcdefghijklmnopqrstuvwxyz0123456789" : Str) (12:Int)))/\((!(gC (qF ux (1:Int)) ("abcdefghijklmnopqrstuvwxyz0123456789" : Str) (12:Int)))=false->((Rc ux (0:Int)/\(qF ux (0:Int))=eS (FW (qF ux (0:Int))))/\uR rB.length)))))
theorem CT (vo:Dt) (rB:LS_) (ux:Dt):RP uH [some ((zE eD) vo),some ((oE eS) rB),some ((zE eD) ux)] (cC (λrB:LS_=>[some ((zE eD) vo),some ((oE eS) rB),none]) (zE eB)) (dI  rB ux) (some (kO  rB ux)):=R.tp (bD (jf (FP (qD (yq (yZ is_tuple (au 2 (zE eD) ux rfl)))) (FP (iD (abF (by decide) (yr (au 2 (zE eD) ux rfl)) (x_i 2))) (qD (yq (x_call xZ (cX (xM (au 2 (zE eD) ux rfl) (x_i 0)) bH)))))) (bD (cJ .rt (rW (.bl false) eB false rfl) (λ_=>rfl) λ_=>rfl)) (cQ (bD (jf (qD (yq (x_call xY (cX (xM (au 2 (zE eD) ux rfl) (x_i 1)) (cX (jc "abcdefghijklmnopqrstuvwxyz0123456789") (cX (x_i 12) bH)))))) (bD (cJ .rt (rW (.bl false) eB false rfl) (λ_=>rfl) λ_=>rfl)) (cQ (bD (Jt 1 rB rfl (DR (xM (au 2 (zE eD) ux rfl) (x_i 0)) FW eS) λrB=>(cQ (dY (.nx rB) rfl))))))))))
def dZ (vo:Dt):Bool:=(if((!(is_tuple vo))||((!decide ((oZ vo)=(2:Int)))||((!(fH (qF vo (0:Int))))||(!(is_tuple (qF vo (1:Int)))))))=true then false else(let rB:=([]:LS_);(behind (nU (λ(rB:LS_) (ux:Dt)=>((dI  rB ux):jJ (LS_) Bool)) (vG (qF vo (1:Int))) rB) (λr=>r) λrB:LS_=>(decide (rB=(je (oF rB)))))))
def mG (vo:Dt):Prop:=(((!(is_tuple vo))=false->(tM vo=true/\((!decide ((oZ vo)=(2:Int)))=false->((Rc vo (0:Int)/\(jW (qF vo (0:Int))))/\((!(fH (qF vo (0:Int))))=false->Rc vo (1:Int))))))/\(((!(is_tuple vo))||((!decide ((oZ vo)=(2:Int)))||((!(fH (qF vo (0:Int))))||(!(is_tuple (qF vo (1:Int)))))))=false->(let rB:=([]:LS_);(((Rc vo (1:Int)/\tM (qF vo (1:Int))=true)/\qG (λ(rB:LS_) (ux:Dt)=>((dI  rB ux):jJ (LS_) Bool)) (λ(rB:LS_) (ux:Dt)=>some (kO  rB ux)) (vG (qF vo (1:Int))) rB)/\(tO (nU (λ(rB:LS_) (ux:Dt)=>((dI  rB ux):jJ (LS_) Bool)) (vG (qF vo (1:Int))) rB) λrB:LS_=>(rB.length < 4000/\(oF rB).length < 64))))))
theorem Lg (vo:Dt):RP pq [some ((zE eD) vo),none,none] (λr=>Out.rt ((zE eB) r)) (dZ vo) (some (mG vo)):=R.tp (jf (FP (qD (yq (yZ is_tuple (au 0 (zE eD) vo rfl)))) (FP (iD (abF (by decide) (yr (au 0 (zE eD) vo rfl)) (x_i 2))) (FP (qD (yq (x_call xZ (cX (xM (au 0 (zE eD) vo rfl) (x_i 0)) bH)))) (qD (yq (yZ is_tuple (xM (au 0 (zE eD) vo rfl) (x_i 1)))))))) (bD (cJ (λr=>r) (rW (.bl false) eB false rfl) (λ_=>rfl) λ_=>rfl)) (cQ (bN 1 (iG (cI eS) (zg rfl)) (λ_=>rfl) λrB=>(KC (λrB:LS_=>[some ((zE eD) vo),some ((oE eS) rB),none]) rB rfl (ajk (xM (au 0 (zE eD) vo rfl) (x_i 1))) _ (λ_ _=>rfl) (λ(rB:LS_) (ux:Dt)=>((CT vo rB ux).r:R _ _ (cC (λrB:LS_=>[some ((zE eD) vo),some ((oE eS) rB),none]) (zE eB)))) (λr=>r) (λ_=>rfl) λrB=>(cJ (λr=>r) (agY (by decide) (qw (au 1 (lE eS) rB rfl)) (iw (ae0 (ag4 (qw (au 1 (lE eS) rB rfl)))))) (λ_=>rfl) λ_=>rfl)))))
theorem Lh:∀ v bs,(aZ eD aN) v bs->bs.length=1/\(hold (some (mG v.1))->lQ (bs.map lend)=some ((zE eB) (dZ v.1))):=by
 rintro⟨vo,_⟩ _ ⟨_,rfl,rfl⟩;exact⟨rfl,λh=>cF (g:=pq) (n:=3) (bs:=[.z (eD vo)]) (Lg vo) h⟩
def bf  (s1:(List cR)×Str):jJ ((List cR)×Str) (Option bM):=(let BW:=(Txt.find s1.2 ("," : Str));(let BW:Int:=(if(decide (BW < (0:Int)))=true then(let BW:=(s1.2.length:Int);BW) else BW);(let Wx:=(Txt.slice s1.2 none (some BW));(let va5:=(Txt.find3 Wx (" " : Str) 1);(if((!decide ((Txt.slice Wx none (some (1:Int)))=(" " : Str)))||(decide (va5 < (0:Int))))=true then(jJ.rt none) else(let vh:=s1.1++[((Txt.slice Wx (some (1:Int)) (some va5)),(Txt.slice Wx (some (va5+(1:Int))) none))];(if(decide ((Txt.slice s1.2 (some BW) none)=("," : Str)))=true then(jJ.rt none) else(let Li:=(Txt.slice s1.2 (some (BW+(1:Int))) none);(jJ.nx (vh,Li))))))))))
def kW  (s1:(List cR)×Str):Prop:=(let BW:=(Txt.find s1.2 ("," : Str));(let BW:Int:=(if(decide (BW < (0:Int)))=true then(let BW:=(s1.2.length:Int);BW) else BW);(let Wx:=(Txt.slice s1.2 none (some BW));(let va5:=(Txt.find3 Wx (" " : Str) 1);(((!decide ((Txt.slice Wx none (some (1:Int)))=(" " : Str)))||(decide (va5 < (0:Int))))=false->uR s1.1.length)))))
theorem CV (vn:Str) (v2:Int) (s1:(List cR)×Str):RP oG [some ((zE eS) vn),some ((zE eI) v2),some ((oE Ck) s1.1),some ((zE eS) s1.2),none,none,none,none] (cC (λs1:(List cR)×Str=>[some ((zE eS) vn),some ((zE eI) v2),some ((oE Ck) s1.1),some ((zE eS) s1.2),none,none,none,none]) (zE (eO bO))) (bf  s1 ) (some (kW  s1 )):=R.tp (bD (bN 4 (Ze (au 3 (zE eS) s1.2 rfl) (jc ",")) (λ_=>rfl) λBW=>(bD (Tj (λBW:Int=>[some ((zE eS) vn),some ((zE eI) v2),some ((oE Ck) s1.1),some ((zE eS) s1.2),some ((zE eI) BW),none,none,none]) (iD (N6 (au 4 (zE eI) BW rfl) (x_i 0))) (bD (bN 4 (Kw (au 3 (zE eS) s1.2 rfl)) (λ_=>rfl) λBW=>(cQ (dY BW rfl)))) (cQ (dY BW rfl)) λBW=>(bD (bN 5 (rY (au 3 (zE eS) s1.2 rfl) rJ (mU (au 4 (zE eI) BW rfl))) (λ_=>rfl) λWx=>(bD (bN 6 (aci 1 (au 5 (zE eS) Wx rfl) (jc " ")) (λ_=>rfl) λva5=>(bD (jf (FP (iD (abF (by decide) (rY (au 5 (zE eS) Wx rfl) rJ (mU (x_i 1))) (jc " "))) (iD (N6 (au 6 (zE eI) va5 rfl) (x_i 0)))) (bD (cJ .rt vD (λ_=>rfl) λ_=>rfl)) (cQ (bD (Jt 2 s1.1 rfl (Ak (pW (rY (au 5 (zE eS) Wx rfl) (mU (x_i 1)) (mU (au 6 (zE eI) va5 rfl)))) (pW (rY (au 5 (zE eS) Wx rfl) (mU (dN (au 6 (zE eI) va5 rfl) (x_i 1))) rJ))) λvh=>(bD (jf (iD (x_eq (by decide) (rY (au 3 (zE eS) s1.2 rfl) (mU (au 4 (zE eI) BW rfl)) rJ) (jc ","))) (bD (cJ .rt vD (λ_=>rfl) λ_=>rfl)) (cQ (bD (bN 3 (rY (au 3 (zE eS) s1.2 rfl) (mU (dN (au 4 (zE eI) BW rfl) (x_i 1))) rJ) (λ_=>rfl) λLi=>(cQ (dY (.nx (vh,Li)) rfl))))))))))))))))))))
def uJ (vn:Str) (v2:Int) (vh:List cR) (Li:Str):(Option bM):=(behind (Rh (λs1:(List cR)×Str=>(!decide (s1.2=("" : Str)))) (λs1:(List cR)×Str=>((bf  s1):jJ ((List cR)×Str) (Option bM))) 1000 (vh,Li)) (λr=>r) λs1:(List cR)×Str=>(let vm:=((Txt.slice vn none (some v2)),s1.1);(if((decide (v2 < (0:Int)))||(!(dZ (bO vm))))=true then none else(some vm))))
def uK (vn:Str) (v2:Int) (vh:List cR) (Li:Str):Prop:=(whD (λs1:(List cR)×Str=>(!decide (s1.2=("" : Str)))) (λs1:(List cR)×Str=>none) (λs1:(List cR)×Str=>((bf  s1):jJ ((List cR)×Str) (Option bM))) (λs1:(List cR)×Str=>some (kW  s1)) 1000 (vh,Li)/\(tO (Rh (λs1:(List cR)×Str=>(!decide (s1.2=("" : Str)))) (λs1:(List cR)×Str=>((bf  s1):jJ ((List cR)×Str) (Option bM))) 1000 (vh,Li)) λs1:(List cR)×Str=>(let vm:=((Txt.slice vn none (some v2)),s1.1);((decide (v2 < (0:Int)))=false->(mG (bO vm))))))
def CW:Ev->Option Out:=(aD (Vv (u9 Sy (gv 3) (cB (.str ""))) oG 1000) (aD (setG 7 (dw oh (ao (b1 uQ (yj (gv 0) fu (fj (gv 1)))) (ao (dw oA (ao (gv 2) aG)) aG)))) (aD (uY (Qj (u9 Vi (gv 1) (cB (.int 0))) (rE (tV (bB 1 lQ (ao (gv 7) aG))))) (aD (dX (cB .non)) eF) eF) (aD (dX (gv 7)) eF))))
theorem CZ (vn:Str) (v2:Int) (vh:List cR) (Li:Str):RP CW [some ((zE eS) vn),some ((zE eI) v2),some ((oE Ck) vh),some ((zE eS) Li),none,none,none,none] (λr=>Out.rt ((zE (eO bO)) r)) (uJ vn v2 vh Li) (some (uK vn v2 vh Li)):=R.tp (abU 1000 (λs1:(List cR)×Str=>[some ((zE eS) vn),some ((zE eI) v2),some ((oE Ck) s1.1),some ((zE eS) s1.2),none,none,none,none]) (vh,Li) rfl (λs1:(List cR)×Str=>(iD (abF (by decide) (au 3 (zE eS) s1.2 rfl) (jc "")))) (λs1:(List cR)×Str=>((CV vn v2 s1).r:R _ _ (cC (λs1:(List cR)×Str=>[some ((zE eS) vn),some ((zE eI) v2),some ((oE Ck) s1.1),some ((zE eS) s1.2),none,none,none,none]) (zE (eO bO))))) (λr=>r) (λ_=>rfl) λs1=>(bN 7 (Ak (pW (rY (au 0 (zE eS) vn rfl) rJ (mU (au 1 (zE eI) v2 rfl)))) (wH (qw (au 2 (lE Ck) s1.1 rfl)))) (λ_=>rfl) λvm=>(jf (FP (iD (N6 (au 1 (zE eI) v2 rfl) (x_i 0))) (qD (yq (x_call Lh (cX (Fz (au 7 (zE bO) vm rfl)) bH))))) (bD (cJ (λr=>r) vD (λ_=>rfl) λ_=>rfl)) (cQ (cJ (λr=>r) (Ra (au 7 (zE bO) vm rfl)) (λ_=>rfl) λ_=>rfl)))))
def bQ (vn:Str):(Option bM):=(let v2:=(Txt.find vn (":" : Str));(let vh:=([]:List cR);(let Li:=(Txt.slice vn (some (v2+(1:Int))) none);(uJ vn v2 vh Li))))
def mH (vn:Str):Prop:=(let v2:=(Txt.find vn (":" : Str));(let vh:=([]:List cR);(let Li:=(Txt.slice vn (some (v2+(1:Int))) none);(uK vn v2 vh Li))))
theorem Lj (vn:Str):RP pA [some ((zE eS) vn),none,none,none,none,none,none,none] (λr=>Out.rt ((zE (eO bO)) r)) (bQ vn) (some (mH vn)):=R.tp (bN 1 (Ze (au 0 (zE eS) vn rfl) (jc ":")) (λ_=>rfl) λv2=>(bN 2 (iG (cI Ck) (zg rfl)) (λ_=>rfl) λvh=>(bN 3 (rY (au 0 (zE eS) vn rfl) (mU (dN (au 1 (zE eI) v2 rfl) (x_i 1))) rJ) (λ_=>rfl) λLi=>(CZ vn v2 vh Li).r)))
theorem zO:∀ v bs,(aZ eS aN) v bs->bs.length=1/\(hold (some (mH v.1))->jz (bs.map lend)=some ((zE (eO bO)) (bQ v.1))):=by
 rintro⟨vn,_⟩ _ ⟨_,rfl,rfl⟩;exact⟨rfl,λh=>cF (g:=pA) (n:=8) (bs:=[.z (eS vn)]) (Lj vn) h⟩
def fG (vl:LS_) (v9:List bM) (v5:Int):jJ ((List bM)) Dt:=(let vm:=(bQ (at' vl v5));(if(vm.isNone||(decide ((vm.getD default).1∈(v9.map λZz:bM=>Zz.1))))=true then(jJ.rt (Dt.tup [(Dt.str "refused"),(eI v5)])) else(let v9:=v9++[(vm.getD default)];(jJ.nx v9))))
def mJ (vl:LS_) (v9:List bM) (v5:Int):Prop:=((In vl.length v5/\(mH (at' vl v5)))/\(let vm:=(bQ (at' vl v5));((vm.isNone=false->(vm.isSome=true/\v9.length<=100000))/\((vm.isNone||(decide ((vm.getD default).1∈(v9.map λZz:bM=>Zz.1))))=false->(vm.isSome=true/\uR v9.length)))))
theorem Ln (vn:Str) (vl:LS_) (v9:List bM) (v5:Int):RP zH [some ((zE eS) vn),some ((oE bO) v9),some ((oE eS) vl),some ((zE eI) v5),none] (cC (λv9:(List bM)=>[some ((zE eS) vn),some ((oE bO) v9),some ((oE eS) vl),none,none]) (zE eD)) (fG vl v9 v5) (some (mJ vl v9 v5)):=R.tp (bD (bN 4 (x_call zO (cX (gD (qw (au 2 (lE eS) vl rfl)) (au 3 (zE eI) v5 rfl)) bH)) (λ_=>rfl) λvm=>(bD (jf (FP (iD (Yo (au 4 (zE (eO bO)) vm rfl) λ_=>rfl)) (iD (ajh (Bu (Yk (au 4 (zE (eO bO)) vm rfl)) (λq=>q.1) eS 0 λ_=>rfl) (iw (abL (abM (qw (au 1 (lE bO) v9 rfl))) _ (λ_=>rfl) (λZz:bM=>(Bu (au 0 (zE bO) Zz rfl) (λq=>q.1) eS 0 λ_=>rfl)) λ_=>rfl))))) (bD (cJ .rt (rH (aH (x_k (.str "refused")) (aH (Fz (au 3 (zE eI) v5 rfl)) (cI eD))) (zg rfl)) (λ_=>rfl) λ_=>rfl)) (cQ (bD (Jt 1 v9 rfl (Yk (au 4 (zE (eO bO)) vm rfl)) λv9=>(cQ (dY (.nx v9) rfl)))))))))
def cP (vn:Str):Dt:=(if(decide (vn=("" : Str)))=true then(Dt.tup [(Dt.str "told"),(Dt.tup [])]) else(let v9:=([]:List bM);(let vl:=(Txt.split vn ("\n" : Str));(behind (nU (λ(v9:List bM) (v5:Int)=>((fG vl v9 v5):jJ ((List bM)) Dt)) (rng 0 (vl.length:Int).toNat) v9) (λr=>r) λv9:(List bM)=>(Dt.tup [(Dt.str "told"),((eT bO) v9)])))))
def sU (vn:Str):Prop:=((decide (vn=("" : Str)))=false->(let v9:=([]:List bM);(((("\n" : Str).length==0)=false/\vn.length<=100000)/\(let vl:=(Txt.split vn ("\n" : Str));((Rg (vl.length:Int)/\qG (λ(v9:List bM) (v5:Int)=>((fG vl v9 v5):jJ ((List bM)) Dt)) (λ(v9:List bM) (v5:Int)=>some (mJ vl v9 v5)) (rng 0 (vl.length:Int).toNat) v9)/\(tO (nU (λ(v9:List bM) (v5:Int)=>((fG vl v9 v5):jJ ((List bM)) Dt)) (rng 0 (vl.length:Int).toNat) v9) λv9:(List bM)=>True))))))
theorem Wi (vn:Str):RP wO [some ((zE eS) vn),none,none,none,none] (λr=>Out.rt ((zE eD) r)) (cP vn) (some (sU vn)):=R.tp (jf (iD (x_eq (by decide) (au 0 (zE eS) vn rfl) (jc ""))) (bD (cJ (λr=>r) (rH (aH (x_k (.str "told")) (aH (rH (cI eD) (zg rfl)) (cI eD))) (zg rfl)) (λ_=>rfl) λ_=>rfl)) (cQ (bN 1 (iG (cI bO) (zg rfl)) (λ_=>rfl) λv9=>(bN 2 (DW (au 0 (zE eS) vn rfl) (jc "\n")) (λ_=>rfl) λvl=>(KC (λv9:(List bM)=>[some ((zE eS) vn),some ((oE bO) v9),some ((oE eS) vl),none,none]) v9 rfl (xO (x_len (qw (au 2 (lE eS) vl rfl)))) _ (λ_ _=>rfl) (λ(v9:List bM) (v5:Int)=>((Ln vn vl v9 v5).r:R _ _ (cC (λv9:(List bM)=>[some ((zE eS) vn),some ((oE bO) v9),some ((oE eS) vl),none,none]) (zE eD)))) (λr=>r) (λ_=>rfl) λv9=>(cJ (λr=>r) (rH (aH (x_k (.str "told")) (aH (Fz (wH (qw (au 1 (lE bO) v9 rfl)))) (cI eD))) (zg rfl)) (λ_=>rfl) λ_=>rfl))))))
theorem JL:∀ v bs,(aZ eS aN) v bs->bs.length=1/\(hold (some (sU v.1))->pK (bs.map lend)=some ((zE eD) (cP v.1))):=by
 rintro⟨vn,_⟩ _ ⟨_,rfl,rfl⟩;exact⟨rfl,λh=>cF (g:=wO) (n:=5) (bs:=[.z (eS vn)]) (Wi vn) h⟩
def bW (vp:Str):Dt:=match dH vp with
 |none=>.tup [.str "refused", .int 0]
 |some r=>.tup [.str "told", jO r]
def nu (vp:Str):Prop:=mF vp
theorem sV:∀ v bs,(aZ eS aN) v bs->bs.length=1/\(hold (some (nu v.1))->bZ (bs.map lend)=some ((zE eD) (bW v.1))):=by
 rintro⟨vp,_⟩ _ ⟨_,rfl,rfl⟩;refine⟨rfl,λh=>?_⟩;have h:mF vp:=h;have ec:bB 1 dD (ao (gv 0) aG) [some (.z (.str vp)),none]=some (.z (eO jO (dH vp))):=
  (x_call G8 (cX (au 0 (zE eS) vp (ρ:=[some (.z (.str vp)),none]) rfl) bH)).ok h
 have e1:setG 1 (Xk (tV (mO bU (gv 0))) (bB 1 dD (ao (gv 0) aG)) (cB .non)) [some (.z (.str vp)),none]=some (.nx [some (.z (.str vp)),some (.z (eO jO (dH vp)))]):=by
  unfold setG Xk;rw[show tV (mO bU (gv 0)) [some (.z (.str vp)),none]=some true from rfl,bnd,zh rfl,ec];rfl
 show bZ [.z (.str vp)]=some (.z (bW vp));unfold bZ qW bW;cases hr:dH vp with
 |none=>
  have ex:pY 2 uG [.z (.str vp)]=some (.int 0):=by
   show uG [some (.z (.str vp)),none]=_;unfold uG Bw;rw[e1,bnd,hr];rfl
  rw[ex]
 |some r=>
  have ex:pY 2 uG [.z (.str vp)]=none:=by
   show uG [some (.z (.str vp)),none]=_;unfold uG Bw;rw[e1,bnd,hr];rfl
  have eb:qe [.z (.str vp)]=some (.z (jO r)):=(RK (vp,()) [.z (.str vp)] ⟨_,rfl,rfl⟩).2 (show uw vp from by
   unfold uw;rw[show(if(bU (eS vp))=true then(dH vp) else none)=some r from(zh rfl).trans hr];exact⟨λ_=>h,⟨(λz=>by cases z),λ_=>rfl⟩⟩) |>.trans (by
    unfold yD;rw[show(if(bU (eS vp))=true then(dH vp) else none)=some r from(zh rfl).trans hr];rfl)
  rw[ex,eb];rfl
def cY (vn:Str):Bool:=(let vm:=(bQ vn);(if vm.isNone=true then(DP (bW vn) (Dt.tup [(Dt.str "refused"),(Dt.int 0)])) else(DP (bW vn) (Dt.tup [(Dt.str "told"),((eO bO) vm)]))))
def fX (vn:Str):Prop:=((mH vn)/\(let vm:=(bQ vn);((vm.isNone=true->((nu vn)/\VB (bW vn) (Dt.tup [(Dt.str "refused"),(Dt.int 0)])))/\(vm.isNone=false->((nu vn)/\VB (bW vn) (Dt.tup [(Dt.str "told"),((eO bO) vm)]))))))
theorem Dc (vn:Str):RP j6 [some ((zE eS) vn),none] (λr=>Out.rt ((zE eB) r)) (cY vn) (some (fX vn)):=R.tp (bN 1 (x_call zO (cX (au 0 (zE eS) vn rfl) bH)) (λ_=>rfl) λvm=>(jf (iD (Yo (au 1 (zE (eO bO)) vm rfl) λ_=>rfl)) (bD (cJ (λr=>r) (Ym (x_call sV (cX (au 0 (zE eS) vn rfl) bH)) (rH (aH (x_k (.str "refused")) (aH (x_k (.int 0)) (cI eD))) (zg rfl))) (λ_=>rfl) λ_=>rfl)) (cQ (cJ (λr=>r) (Ym (x_call sV (cX (au 0 (zE eS) vn rfl) bH)) (rH (aH (x_k (.str "told")) (aH (Fz (au 1 (zE (eO bO)) vm rfl)) (cI eD))) (zg rfl))) (λ_=>rfl) λ_=>rfl))))
theorem uL:∀ v bs,(aZ eS aN) v bs->bs.length=1/\(hold (some (fX v.1))->fW (bs.map lend)=some ((zE eB) (cY v.1))):=by
 rintro⟨vn,_⟩ _ ⟨_,rfl,rfl⟩;exact⟨rfl,λh=>cF (g:=j6) (n:=2) (bs:=[.z (eS vn)]) (Dc vn) h⟩
def dJ (vl:LS_) (vc:LI_):LS_:=(let y1:=((at' vc (1:Int)) % ((vl.length:Int)+(1:Int)));let y2:=((at' vc (2:Int)) % (if(vl.length:Int) > (1:Int) then(vl.length:Int) else(1:Int)));let v2:=y1;let vab:=y2;(if(decide (((at' vc (0:Int)) % (4:Int))=(0:Int)))=true then(((cut vl none (some v2))++(cut vl (some vab) (some (vab+(1:Int)))))++(cut vl (some v2) none)) else(if(decide (((at' vc (0:Int)) % (4:Int))=(1:Int)))=true then((cut vl none (some v2))++(cut vl (some (v2+(1:Int))) none)) else(if(decide (((at' vc (0:Int)) % (4:Int))=(2:Int)))=true then(((cut vl none (some v2))++[("" : Str)])++(cut vl (some v2) none)) else vl.reverse))))
def nZ (vl:LS_) (vc:LI_):Prop:=(((In vc.length (1:Int)/\0 < ((vl.length:Int)+(1:Int)))/\(In vc.length (2:Int)/\0 < (if(vl.length:Int) > (1:Int) then(vl.length:Int) else(1:Int))))/\(let y1:=((at' vc (1:Int)) % ((vl.length:Int)+(1:Int)));let y2:=((at' vc (2:Int)) % (if(vl.length:Int) > (1:Int) then(vl.length:Int) else(1:Int)));let v2:=y1;let vab:=y2;(In vc.length (0:Int)/\(((decide (((at' vc (0:Int)) % (4:Int))=(0:Int)))=true->(uR ((cut vl none (some v2)).length+(cut vl (some vab) (some (vab+(1:Int)))).length)/\uR (((cut vl none (some v2))++(cut vl (some vab) (some (vab+(1:Int))))).length+(cut vl (some v2) none).length)))/\((decide (((at' vc (0:Int)) % (4:Int))=(0:Int)))=false->(In vc.length (0:Int)/\(((decide (((at' vc (0:Int)) % (4:Int))=(1:Int)))=true->uR ((cut vl none (some v2)).length+(cut vl (some (v2+(1:Int))) none).length))/\((decide (((at' vc (0:Int)) % (4:Int))=(1:Int)))=false->(In vc.length (0:Int)/\((decide (((at' vc (0:Int)) % (4:Int))=(2:Int)))=true->(uR ((cut vl none (some v2)).length+[("" : Str)].length)/\uR (((cut vl none (some v2))++[("" : Str)]).length+(cut vl (some v2) none).length))))))))))))
theorem Pq (vl:LS_) {jm:Bx} (kj:Lp jm (vl.map eS)) (vc:LI_) {b_1:Bx} (h_1:Lp b_1 (vc.map eI)):RP qX [some jm,some b_1,none,none] (λr=>Out.rt ((oE eS) r)) (dJ vl vc) (some (nZ vl vc)):=R.tp (ag3 2 3 (Br (gD (cW 1 eI vc h_1 rfl) (x_i 1)) (dN (x_len (cW 0 eS vl kj rfl)) (x_i 1))) (Br (gD (cW 1 eI vc h_1 rfl) (x_i 2)) (ag1 (x_i 1) (x_len (cW 0 eS vl kj rfl)))) λv2 vab=>(jf (iD (x_eq (by decide) (dR (gD (cW 1 eI vc h_1 rfl) (x_i 0)) 4 (by decide)) (x_i 0))) (bD (cJ (λr=>r) (rK (iw (rK (iw (FT (cW 0 eS vl kj rfl) rJ (mU (au 2 (zE eI) v2 rfl)))) (iw (FT (cW 0 eS vl kj rfl) (mU (au 3 (zE eI) vab rfl)) (mU (dN (au 3 (zE eI) vab rfl) (x_i 1))))))) (iw (FT (cW 0 eS vl kj rfl) (mU (au 2 (zE eI) v2 rfl)) rJ))) (λ_=>rfl) λ_=>rfl)) (cQ (jf (iD (x_eq (by decide) (dR (gD (cW 1 eI vc h_1 rfl) (x_i 0)) 4 (by decide)) (x_i 1))) (bD (cJ (λr=>r) (rK (iw (FT (cW 0 eS vl kj rfl) rJ (mU (au 2 (zE eI) v2 rfl)))) (iw (FT (cW 0 eS vl kj rfl) (mU (dN (au 2 (zE eI) v2 rfl) (x_i 1))) rJ))) (λ_=>rfl) λ_=>rfl)) (cQ (jf (iD (x_eq (by decide) (dR (gD (cW 1 eI vc h_1 rfl) (x_i 0)) 4 (by decide)) (x_i 2))) (bD (cJ (λr=>r) (rK (iw (rK (iw (FT (cW 0 eS vl kj rfl) rJ (mU (au 2 (zE eI) v2 rfl)))) (iw (iG (aH (jc "") (cI eS)) (zg rfl))))) (iw (FT (cW 0 eS vl kj rfl) (mU (au 2 (zE eI) v2 rfl)) rJ))) (λ_=>rfl) λ_=>rfl)) (cQ (cJ (λr=>r) (ae4 (cW 0 eS vl kj rfl)) (λ_=>rfl) λ_=>rfl))))))))
theorem Pr:∀ v bs,(aL eS (aL eI aN)) v bs->bs.length=2/\(hold (some (nZ v.1 v.2.1))->qY (bs.map lend)=some ((oE eS) (dJ v.1 v.2.1))):=by
 rintro⟨vl,vc,_⟩ _ ⟨jm,_,rfl,kj,⟨b_1,_,rfl,h_1,rfl⟩⟩;exact⟨rfl,λh=>cF (g:=qX) (n:=4) (bs:=[lend jm,lend b_1]) (Pq vl (yX kj) vc (yX h_1)) h⟩
def bR (vj:Int):Str:=(let vk:=("abcdefghijklmnopqrstuvwxyz0123456789 ABCDEFGHIJKLMNOPQRSTUVWXYZ" : Str);(ch (vk++("!#$&'()*+,-./:;<=>?\x40[]^_`{|}~\"\\" : Str)) (vj % (94:Int))))
def mK (vj:Int):Prop:=(let vk:=("abcdefghijklmnopqrstuvwxyz0123456789 ABCDEFGHIJKLMNOPQRSTUVWXYZ" : Str);(uR (vk.length+("!#$&'()*+,-./:;<=>?\x40[]^_`{|}~\"\\" : Str).length)/\In (vk++("!#$&'()*+,-./:;<=>?\x40[]^_`{|}~\"\\" : Str)).length (vj % (94:Int))))
theorem Hg (vj:Int):RP lR [some ((zE eI) vj),none] (λr=>Out.rt ((zE eS) r)) (bR vj) (some (mK vj)):=R.tp (bN 1 (jc "abcdefghijklmnopqrstuvwxyz0123456789 ABCDEFGHIJKLMNOPQRSTUVWXYZ") (λ_=>rfl) λvk=>(cJ (λr=>r) (Jr (mV (au 1 (zE eS) vk rfl) (jc "!#$&'()*+,-./:;<=>?\x40[]^_`{|}~\"\\")) (dR (au 0 (zE eI) vj rfl) 94 (by decide))) (λ_=>rfl) λ_=>rfl))
theorem Hh:∀ v bs,(aZ eI aN) v bs->bs.length=1/\(hold (some (mK v.1))->lU (bs.map lend)=some ((zE eS) (bR v.1))):=by
 rintro⟨vj,_⟩ _ ⟨_,rfl,rfl⟩;exact⟨rfl,λh=>cF (g:=lR) (n:=2) (bs:=[.z (eI vj)]) (Hg vj) h⟩
def cL (vc:LI_) (sW:LS_) (vn:Str) (v5:Int):Str:=(let v2:=((at' vc ((1:Int)+((3:Int) * v5))) % ((vn.length:Int)+(1:Int)));(let Wy:=(at' (sW++(List.replicate (8:Int).toNat [(bR ((at' vc ((2:Int)+((3:Int) * v5))) / (24:Int)))]).flatten) ((at' vc ((2:Int)+((3:Int) * v5))) % (24:Int)));(let vn:=(((Txt.slice vn none (some v2))++(at' [("" : Str),Wy,Wy] ((at' vc ((3:Int)+((3:Int) * v5))) % (3:Int))))++(Txt.slice vn (some (v2+(at' [(1:Int),(0:Int),(1:Int)] ((at' vc ((3:Int)+((3:Int) * v5))) % (3:Int))))) none));vn)))
def fY (vc:LI_) (sW:LS_) (vn:Str) (v5:Int):Prop:=((In vc.length ((1:Int)+((3:Int) * v5))/\0 < ((vn.length:Int)+(1:Int)))/\(let v2:=((at' vc ((1:Int)+((3:Int) * v5))) % ((vn.length:Int)+(1:Int)));((((((In vc.length ((2:Int)+((3:Int) * v5))/\(mK ((at' vc ((2:Int)+((3:Int) * v5))) / (24:Int))))/\(0<=(8:Int)/\(8:Int)<=1000/\[(bR ((at' vc ((2:Int)+((3:Int) * v5))) / (24:Int)))].length<=1000))/\uR (sW.length+(List.replicate (8:Int).toNat [(bR ((at' vc ((2:Int)+((3:Int) * v5))) / (24:Int)))]).flatten.length))/\In vc.length ((2:Int)+((3:Int) * v5)))/\In (sW++(List.replicate (8:Int).toNat [(bR ((at' vc ((2:Int)+((3:Int) * v5))) / (24:Int)))]).flatten).length ((at' vc ((2:Int)+((3:Int) * v5))) % (24:Int)))/\(let Wy:=(at' (sW++(List.replicate (8:Int).toNat [(bR ((at' vc ((2:Int)+((3:Int) * v5))) / (24:Int)))]).flatten) ((at' vc ((2:Int)+((3:Int) * v5))) % (24:Int)));((((In vc.length ((3:Int)+((3:Int) * v5))/\In [("" : Str),Wy,Wy].length ((at' vc ((3:Int)+((3:Int) * v5))) % (3:Int)))/\uR ((Txt.slice vn none (some v2)).length+(at' [("" : Str),Wy,Wy] ((at' vc ((3:Int)+((3:Int) * v5))) % (3:Int))).length))/\(In vc.length ((3:Int)+((3:Int) * v5))/\In [(1:Int),(0:Int),(1:Int)].length ((at' vc ((3:Int)+((3:Int) * v5))) % (3:Int))))/\uR (((Txt.slice vn none (some v2))++(at' [("" : Str),Wy,Wy] ((at' vc ((3:Int)+((3:Int) * v5))) % (3:Int)))).length+(Txt.slice vn (some (v2+(at' [(1:Int),(0:Int),(1:Int)] ((at' vc ((3:Int)+((3:Int) * v5))) % (3:Int))))) none).length))))))
theorem Dd (vc:LI_) {b_1:Bx} (h_1:Lp b_1 (vc.map eI)) (sW:LS_) (vn:Str) (v5:Int):RP uI [some ((zE eS) vn),some b_1,some ((oE eS) sW),some ((zE eI) v5),none,none] (λs=>Out.nx ((λvn:Str=>[some ((zE eS) vn),some b_1,some ((oE eS) sW),none,none,none]) s)) (cL vc sW vn v5) (some (fY vc sW vn v5)):=R.tp (bD (bN 4 (Br (gD (cW 1 eI vc h_1 rfl) (dN (x_i 1) (lg 3 (by decide) (au 3 (zE eI) v5 rfl)))) (dN (Kw (au 0 (zE eS) vn rfl)) (x_i 1))) (λ_=>rfl) λv2=>(bD (bN 5 (gD (iw (rK (qw (au 2 (lE eS) sW rfl)) (iw (ahk (iG (aH (pW (x_call Hh (cX (qC (gD (cW 1 eI vc h_1 rfl) (dN (x_i 2) (lg 3 (by decide) (au 3 (zE eI) v5 rfl)))) 24 (by decide)) bH))) (cI eS)) (zg rfl)) (x_i 8))))) (dR (gD (cW 1 eI vc h_1 rfl) (dN (x_i 2) (lg 3 (by decide) (au 3 (zE eI) v5 rfl)))) 24 (by decide))) (λ_=>rfl) λWy=>(bD (bN 0 (mV (mV (rY (au 0 (zE eS) vn rfl) rJ (mU (au 4 (zE eI) v2 rfl))) (gD (iw (iG (aH (jc "") (aH (au 5 (zE eS) Wy rfl) (aH (au 5 (zE eS) Wy rfl) (cI eS)))) (zg rfl))) (dR (gD (cW 1 eI vc h_1 rfl) (dN (x_i 3) (lg 3 (by decide) (au 3 (zE eI) v5 rfl)))) 3 (by decide)))) (rY (au 0 (zE eS) vn rfl) (mU (dN (au 4 (zE eI) v2 rfl) (gD (iw (iG (aH (x_i 1) (aH (x_i 0) (aH (x_i 1) (cI eI)))) (zg rfl))) (dR (gD (cW 1 eI vc h_1 rfl) (dN (x_i 3) (lg 3 (by decide) (au 3 (zE eI) v5 rfl)))) 3 (by decide))))) rJ)) (λ_=>rfl) λvn=>(cQ (dY vn rfl))))))))
def d7 (vn:Str) (vc:LI_):Str:=(let sW:=[(" " : Str),("," : Str),(":" : Str),("\n" : Str),(", " : Str),("a" : Str),("1" : Str),("A" : Str),("" : Str),("  " : Str),("aaaaaaaaa" : Str),("a 1" : Str),(": " : Str),(";" : Str),("-" : Str),("\n\n" : Str)];(let vn:Str:=((rng 0 ((1:Int)+((at' vc (0:Int)) % (3:Int))).toNat).foldl (λ(vn:Str) (v5:Int)=>(cL vc sW vn v5)) vn);vn))
def mL (vn:Str) (vc:LI_):Prop:=(let sW:=[(" " : Str),("," : Str),(":" : Str),("\n" : Str),(", " : Str),("a" : Str),("1" : Str),("A" : Str),("" : Str),("  " : Str),("aaaaaaaaa" : Str),("a 1" : Str),(": " : Str),(";" : Str),("-" : Str),("\n\n" : Str)];((In vc.length (0:Int)/\Rg ((1:Int)+((at' vc (0:Int)) % (3:Int))))/\yt (λ(vn:Str) (v5:Int)=>(cL vc sW vn v5)) (λ(vn:Str) (v5:Int)=>some (fY vc sW vn v5)) (rng 0 ((1:Int)+((at' vc (0:Int)) % (3:Int))).toNat) vn))
theorem Lq (vn:Str) (vc:LI_) {b_1:Bx} (h_1:Lp b_1 (vc.map eI)):RP pB [some ((zE eS) vn),some b_1,none,none,none,none] (λr=>Out.rt ((zE eS) r)) (d7 vn vc) (some (mL vn vc)):=R.tp (bN 2 (iG (aH (jc " ") (aH (jc ",") (aH (jc ":") (aH (jc "\n") (aH (jc ", ") (aH (jc "a") (aH (jc "1") (aH (jc "A") (aH (jc "") (aH (jc "  ") (aH (jc "aaaaaaaaa") (aH (jc "a 1") (aH (jc ": ") (aH (jc ";") (aH (jc "-") (aH (jc "\n\n") (cI eS))))))))))))))))) (zg rfl)) (λ_=>rfl) λsW=>(Gb (λvn:Str=>[some ((zE eS) vn),some b_1,some ((oE eS) sW),none,none,none]) vn rfl (xO (dN (x_i 1) (dR (gD (cW 1 eI vc h_1 rfl) (x_i 0)) 3 (by decide)))) _ (λ_ _=>rfl) (λ(vn:Str) (v5:Int)=>(Dd vc h_1 sW vn v5).r) λvn=>(cJ (λr=>r) (au 0 (zE eS) vn rfl) (λ_=>rfl) λ_=>rfl)))
theorem zP:∀ v bs,(aZ eS (aL eI aN)) v bs->bs.length=2/\(hold (some (mL v.1 v.2.1))->lV (bs.map lend)=some ((zE eS) (d7 v.1 v.2.1))):=by
 rintro⟨vn,vc,_⟩ _ ⟨_,rfl,⟨b_1,_,rfl,h_1,rfl⟩⟩;exact⟨rfl,λh=>cF (g:=pB) (n:=6) (bs:=[.z (eS vn),lend b_1]) (Lq vn vc (yX h_1)) h⟩
def vY  (s1:Unit) (vo:Dt):jJ (Unit) Bool:=(if((!DP (gQ vo) (Dt.tup [(Dt.str "refused"),(Dt.int 0)]))||(!DP (jr vo) (Dt.tup [(Dt.str "refused"),(Dt.int 0)])))=true then(jJ.rt false) else(jJ.nx ()))
def Hi  (s1:Unit) (vo:Dt):Prop:=(((vW vo)/\VB (gQ vo) (Dt.tup [(Dt.str "refused"),(Dt.int 0)]))/\((!DP (gQ vo) (Dt.tup [(Dt.str "refused"),(Dt.int 0)]))=false->((vX vo)/\VB (jr vo) (Dt.tup [(Dt.str "refused"),(Dt.int 0)]))))
theorem ZC (v0:LI_) {jm:Bx} (kj:Lp jm (v0.map eI)) (v1:List bM) (vl:LS_) (s1:Unit) (vo:Dt):RP Gr [some jm,some ((zE (eT bO)) v1),some ((oE eS) vl),some ((zE eD) vo),none,none,none,none,none,none] (cC (λs1:Unit=>[some jm,some ((zE (eT bO)) v1),some ((oE eS) vl),none,none,none,none,none,none,none]) (zE eB)) (vY  s1 vo) (some (Hi  s1 vo)):=R.tp (bD (jf (FP (iD (Yn (x_call G9 (cX (au 3 (zE eD) vo rfl) bH)) (rH (aH (x_k (.str "refused")) (aH (x_k (.int 0)) (cI eD))) (zg rfl)))) (iD (Yn (x_call Hf (cX (au 3 (zE eD) vo rfl) bH)) (rH (aH (x_k (.str "refused")) (aH (x_k (.int 0)) (cI eD))) (zg rfl))))) (bD (cJ .rt (rW (.bl false) eB false rfl) (λ_=>rfl) λ_=>rfl)) (cQ (cQ (dY (.nx ()) rfl)))))
def qt (vl:LS_) (s2:Unit) (v7:Int):jJ (Unit) Bool:=(let vc:=(aJ v7 (14:Int));(let sW:=(at' [vl,(dJ vl vc)] ((at' vc (3:Int)) % (2:Int)));(let vn:=(Txt.join "\n" sW);(let vn:Str:=(if(decide ((0:Int) < (((at' vc (3:Int)) / (2:Int)) % (3:Int))))=true then(let vn:=(d7 vn (cut vc (some (4:Int)) none));vn) else vn);(if(!DP (aW vn) (cP vn))=true then(jJ.rt false) else(let Zz:=(d7 (at' (vl++[("a: b 1, c 2" : Str)]) ((at' vc (1:Int)) % ((vl.length:Int)+(1:Int)))) (cut vc (some (4:Int)) none));(if(!(cY Zz))=true then(jJ.rt false) else(jJ.nx ()))))))))
def vZ (vl:LS_) (s2:Unit) (v7:Int):Prop:=((iT v7 (14:Int))/\(let vc:=(aJ v7 (14:Int));((((nZ vl vc)/\In vc.length (3:Int))/\In [vl,(dJ vl vc)].length ((at' vc (3:Int)) % (2:Int)))/\(let sW:=(at' [vl,(dJ vl vc)] ((at' vc (3:Int)) % (2:Int)));((sW.map (·.length)).sum+sW.length * ("\n" : Str).length<=100000/\(let vn:=(Txt.join "\n" sW);((In vc.length (3:Int)/\((decide ((0:Int) < (((at' vc (3:Int)) / (2:Int)) % (3:Int))))=true->(mL vn (cut vc (some (4:Int)) none))))/\(let vn:Str:=(if(decide ((0:Int) < (((at' vc (3:Int)) / (2:Int)) % (3:Int))))=true then(let vn:=(d7 vn (cut vc (some (4:Int)) none));vn) else vn);((((gR vn)/\(sU vn))/\VB (aW vn) (cP vn))/\((!DP (aW vn) (cP vn))=false->((((uR (vl.length+[("a: b 1, c 2" : Str)].length)/\(In vc.length (1:Int)/\0 < ((vl.length:Int)+(1:Int))))/\In (vl++[("a: b 1, c 2" : Str)]).length ((at' vc (1:Int)) % ((vl.length:Int)+(1:Int))))/\(mL (at' (vl++[("a: b 1, c 2" : Str)]) ((at' vc (1:Int)) % ((vl.length:Int)+(1:Int)))) (cut vc (some (4:Int)) none)))/\(let Zz:=(d7 (at' (vl++[("a: b 1, c 2" : Str)]) ((at' vc (1:Int)) % ((vl.length:Int)+(1:Int)))) (cut vc (some (4:Int)) none));(fX Zz)))))))))))))
theorem ZD (v0:LI_) {jm:Bx} (kj:Lp jm (v0.map eI)) (v1:List bM) (vl:LS_) (uM:LS_) (s2:Unit) (v7:Int):RP Gs [some jm,some ((zE (eT bO)) v1),some ((zE (eL eS)) vl),none,some ((oE eS) uM),some ((zE eI) v7),none,none,none,none] (cC (λs2:Unit=>[some jm,some ((zE (eT bO)) v1),some ((zE (eL eS)) vl),none,some ((oE eS) uM),none,none,none,none,none]) (zE eB)) (qt vl s2 v7) (some (vZ vl s2 v7)):=R.tp (bD (bN 6 (x_call rP (cX (au 5 (zE eI) v7 rfl) (cX (x_i 14) bH))) (λ_=>rfl) λvc=>(bD (bN 7 (gD (iw (iG (aH (au 2 (zE (eL eS)) vl rfl) (aH (Rb (x_call Pr (FZ (N5 (au 2 (zE (eL eS)) vl rfl)) (FZ (qw (au 6 (lE eI) vc rfl)) bH)))) (cI (eL eS)))) (zg rfl))) (dR (gD (qw (au 6 (lE eI) vc rfl)) (x_i 3)) 2 (by decide))) (λ_=>rfl) λsW=>(bD (bN 8 (Yv "\n" (N5 (au 7 (zE (eL eS)) sW rfl))) (λ_=>rfl) λvn=>(bD (Tj (λvn:Str=>[some jm,some ((zE (eT bO)) v1),some ((zE (eL eS)) vl),none,some ((oE eS) uM),some ((zE eI) v7),some ((oE eI) vc),some ((zE (eL eS)) sW),some ((zE eS) vn),none]) (iD (agW (dR (qC (gD (qw (au 6 (lE eI) vc rfl)) (x_i 3)) 2 (by decide)) 3 (by decide)) (x_i 0))) (bD (bN 8 (x_call zP (cX (au 8 (zE eS) vn rfl) (FZ (N5 (Rb (FT (qw (au 6 (lE eI) vc rfl)) (mU (x_i 4)) rJ))) bH))) (λ_=>rfl) λvn=>(cQ (dY vn rfl)))) (cQ (dY vn rfl)) λvn=>(bD (jf (iD (Yn (x_call sS (cX (au 8 (zE eS) vn rfl) bH)) (x_call JL (cX (au 8 (zE eS) vn rfl) bH)))) (bD (cJ .rt (rW (.bl false) eB false rfl) (λ_=>rfl) λ_=>rfl)) (cQ (bD (bN 9 (x_call zP (cX (gD (iw (rK (N5 (au 2 (zE (eL eS)) vl rfl)) (iw (iG (aH (jc "a: b 1, c 2") (cI eS)) (zg rfl))))) (Br (gD (qw (au 6 (lE eI) vc rfl)) (x_i 1)) (dN (x_len (N5 (au 2 (zE (eL eS)) vl rfl))) (x_i 1)))) (FZ (N5 (Rb (FT (qw (au 6 (lE eI) vc rfl)) (mU (x_i 4)) rJ))) bH))) (λ_=>rfl) λZz=>(bD (jf (qD (yq (x_call uL (cX (au 9 (zE eS) Zz rfl) bH)))) (bD (cJ .rt (rW (.bl false) eB false rfl) (λ_=>rfl) λ_=>rfl)) (cQ (cQ (dY (.nx ()) rfl))))))))))))))))))
def zQ (v0:LI_) (v1:List bM) (vl:LS_) (uM:LS_):Bool:=(if(!((uM.map λvn:Str=>((DP (aW vn) (cP vn))&&(cY vn))).all id))=true then false else(behind (nU (λ(s2:Unit) (v7:Int)=>((qt vl s2 v7):jJ (Unit) Bool)) ([(aU v0 (8:Int))]++(cut v0 (some (9:Int)) (some (30:Int)))) ()) (λr=>r) λs2:Unit=>true))
def Hj (v0:LI_) (v1:List bM) (vl:LS_) (uM:LS_):Prop:=((uM.length<=100000/\(∀ vn∈uM,((((gR vn)/\(sU vn))/\VB (aW vn) (cP vn))/\((DP (aW vn) (cP vn))=true->(fX vn)))))/\((!((uM.map λvn:Str=>((DP (aW vn) (cP vn))&&(cY vn))).all id))=false->((((lA v0 (8:Int))/\uR ([(aU v0 (8:Int))].length+(cut v0 (some (9:Int)) (some (30:Int))).length))/\qG (λ(s2:Unit) (v7:Int)=>((qt vl s2 v7):jJ (Unit) Bool)) (λ(s2:Unit) (v7:Int)=>some (vZ vl s2 v7)) ([(aU v0 (8:Int))]++(cut v0 (some (9:Int)) (some (30:Int)))) ())/\(tO (nU (λ(s2:Unit) (v7:Int)=>((qt vl s2 v7):jJ (Unit) Bool)) ([(aU v0 (8:Int))]++(cut v0 (some (9:Int)) (some (30:Int)))) ()) λs2:Unit=>True))))
def Pu:Ev->Option Out:=(aD (uY (rE (tV (dw allB (ao (lF (Ni (gv 4)) (w5 0) vq (yM (b2 eqB (bB 1 bY (ao (gv 0) aG)) (bB 1 pK (ao (gv 0) aG))) (bB 1 fW (ao (gv 0) aG))) [] 1) aG)))) (aD (dX (cB (.bl false))) eF) eF) (fzG 2 (aD (oY (itF (b2 cu (dw gY (ao (b1 uQ (bB 2 jh (ao (gv 0) (ao (cB (.int 8)) aG)))) aG)) (yj (gv 0) (fj (cB (.int 9))) (fj (cB (.int 30)))))) (w5 5) Gs) (aD (dX (cB (.bl true))) eF))))
theorem ZF (v0:LI_) {jm:Bx} (kj:Lp jm (v0.map eI)) (v1:List bM) (vl:LS_) (uM:LS_):RP Pu [some jm,some ((zE (eT bO)) v1),some ((oE eS) vl),none,some ((oE eS) uM),none,none,none,none,none] (λr=>Out.rt ((zE eB) r)) (zQ v0 v1 vl uM) (some (Hj v0 v1 vl uM)):=R.tp (jf (qD (yq (N7 (iw (rM (abM (qw (au 4 (lE eS) uM rfl))) _ (λ_=>rfl) (λvn:Str=>(xK (Ym (x_call sS (cX (au 0 (zE eS) vn rfl) bH)) (x_call JL (cX (au 0 (zE eS) vn rfl) bH))) (x_call uL (cX (au 0 (zE eS) vn rfl) bH))))))))) (bD (cJ (λr=>r) (rW (.bl false) eB false rfl) (λ_=>rfl) λ_=>rfl)) (cQ (ajm 2 [some jm,some ((zE (eT bO)) v1),some ((zE (eL eS)) vl),none,some ((oE eS) uM),none,none,none,none,none] rfl (KC (λs2:Unit=>[some jm,some ((zE (eT bO)) v1),some ((zE (eL eS)) vl),none,some ((oE eS) uM),none,none,none,none,none]) () rfl (aeW (rK (iw (iG (aH (pW (x_call yx (FZ (cW 0 eI v0 kj rfl) (cX (x_i 8) bH)))) (cI eI)) (zg rfl))) (iw (FT (cW 0 eI v0 kj rfl) (mU (x_i 9)) (mU (x_i 30)))))) _ (λ_ _=>rfl) (λ(s2:Unit) (v7:Int)=>((ZD v0 kj v1 vl uM s2 v7).r:R _ _ (cC (λs2:Unit=>[some jm,some ((zE (eT bO)) v1),some ((zE (eL eS)) vl),none,some ((oE eS) uM),none,none,none,none,none]) (zE eB)))) (λr=>r) (λ_=>rfl) λs2=>(cJ (λr=>r) (rW (.bl true) eB true rfl) (λ_=>rfl) λ_=>rfl)))))
def zR (v0:LI_) (v1:List bM) (vl:LS_):Bool:=(behind (nU (λ(s1:Unit) (vo:Dt)=>((vY  s1 vo):jJ (Unit) Bool)) V3 ()) (λr=>r) λs1:Unit=>(let uM:=[("" : Str),(":" : Str),("a" : Str),("a:" : Str),("a: " : Str),("a:b 1" : Str),("a: b 1" : Str),("a: b 1," : Str),("a: b 1, c" : Str),("a: b 1,c 2" : Str),("a: b 1, b 2" : Str)];(let uM:=(uM++[("a: c 1, b 2" : Str),("a:\na:" : Str),("a:\n" : Str),("\na:" : Str),("a :" : Str),("a: b  1" : Str),("a: b 1 2" : Str),("a: b 1 , c 2" : Str),("a::" : Str)]);(let uM:=(uM++[("a: b 1, c 2" : Str),("\n" : Str)]);(zQ v0 v1 vl uM)))))
def Px (v0:LI_) (v1:List bM) (vl:LS_):Prop:=(qG (λ(s1:Unit) (vo:Dt)=>((vY  s1 vo):jJ (Unit) Bool)) (λ(s1:Unit) (vo:Dt)=>some (Hi  s1 vo)) V3 ()/\(tO (nU (λ(s1:Unit) (vo:Dt)=>((vY  s1 vo):jJ (Unit) Bool)) V3 ()) λs1:Unit=>(let uM:=[("" : Str),(":" : Str),("a" : Str),("a:" : Str),("a: " : Str),("a:b 1" : Str),("a: b 1" : Str),("a: b 1," : Str),("a: b 1, c" : Str),("a: b 1,c 2" : Str),("a: b 1, b 2" : Str)];(uR (uM.length+[("a: c 1, b 2" : Str),("a:\na:" : Str),("a:\n" : Str),("\na:" : Str),("a :" : Str),("a: b  1" : Str),("a: b 1 2" : Str),("a: b 1 , c 2" : Str),("a::" : Str)].length)/\(let uM:=(uM++[("a: c 1, b 2" : Str),("a:\na:" : Str),("a:\n" : Str),("\na:" : Str),("a :" : Str),("a: b  1" : Str),("a: b 1 2" : Str),("a: b 1 , c 2" : Str),("a::" : Str)]);(uR (uM.length+[("a: b 1, c 2" : Str),("\n" : Str)].length)/\(let uM:=(uM++[("a: b 1, c 2" : Str),("\n" : Str)]);(Hj v0 v1 vl uM))))))))
def Py:Ev->Option Out:=(aD (oY (itF (dw gY (ao (cB .non) (ao (cB (.int 0)) (ao (cB (.bl true)) (ao (b1 uQ (dw gY (ao (cB (.str "a:")) aG))) (ao (dw oh (ao (cB (.str "a")) (ao (dw oh aG) aG))) (ao (cB .emp) aG)))))))) (w5 3) Gr) (aD (setG 4 (dw gY (ao (cB (.str "")) (ao (cB (.str ":")) (ao (cB (.str "a")) (ao (cB (.str "a:")) (ao (cB (.str "a: ")) (ao (cB (.str "a:b 1")) (ao (cB (.str "a: b 1")) (ao (cB (.str "a: b 1,")) (ao (cB (.str "a: b 1, c")) (ao (cB (.str "a: b 1,c 2")) (ao (cB (.str "a: b 1, b 2")) aG))))))))))))) (aD (setG 4 (b2 cu (gv 4) (dw gY (ao (cB (.str "a: c 1, b 2")) (ao (cB (.str "a:\na:")) (ao (cB (.str "a:\n")) (ao (cB (.str "\na:")) (ao (cB (.str "a :")) (ao (cB (.str "a: b  1")) (ao (cB (.str "a: b 1 2")) (ao (cB (.str "a: b 1 , c 2")) (ao (cB (.str "a::")) aG)))))))))))) (aD (setG 4 (b2 cu (gv 4) (dw gY (ao (cB (.str "a: b 1, c 2")) (ao (cB (.str "\n")) aG))))) Pu))))
theorem ZG (v0:LI_) {jm:Bx} (kj:Lp jm (v0.map eI)) (v1:List bM) (vl:LS_):RP Py [some jm,some ((zE (eT bO)) v1),some ((oE eS) vl),none,none,none,none,none,none,none] (λr=>Out.rt ((zE eB) r)) (zR v0 v1 vl) (some (Px v0 v1 vl)):=R.tp (KC (λs1:Unit=>[some jm,some ((zE (eT bO)) v1),some ((oE eS) vl),none,none,none,none,none,none,none]) () rfl (aeW (iG (aH (x_k .non) (aH (x_k (.int 0)) (aH (x_k (.bl true)) (aH (Fz (Rb (iG (aH (jc "a:") (cI eS)) (zg rfl)))) (aH (rH (aH (x_k (.str "a")) (aH (rH (cI eD) (zg rfl)) (cI eD))) (zg rfl)) (aH (rW .emp eD .emp rfl) (cI eD))))))) (zg rfl))) _ (λ_ _=>rfl) (λ(s1:Unit) (vo:Dt)=>((ZC v0 kj v1 vl s1 vo).r:R _ _ (cC (λs1:Unit=>[some jm,some ((zE (eT bO)) v1),some ((oE eS) vl),none,none,none,none,none,none,none]) (zE eB)))) (λr=>r) (λ_=>rfl) λs1=>(bN 4 (iG (aH (jc "") (aH (jc ":") (aH (jc "a") (aH (jc "a:") (aH (jc "a: ") (aH (jc "a:b 1") (aH (jc "a: b 1") (aH (jc "a: b 1,") (aH (jc "a: b 1, c") (aH (jc "a: b 1,c 2") (aH (jc "a: b 1, b 2") (cI eS)))))))))))) (zg rfl)) (λ_=>rfl) λuM=>(bN 4 (rK (qw (au 4 (lE eS) uM rfl)) (iw (iG (aH (jc "a: c 1, b 2") (aH (jc "a:\na:") (aH (jc "a:\n") (aH (jc "\na:") (aH (jc "a :") (aH (jc "a: b  1") (aH (jc "a: b 1 2") (aH (jc "a: b 1 , c 2") (aH (jc "a::") (cI eS)))))))))) (zg rfl)))) (λ_=>rfl) λuM=>(bN 4 (rK (qw (au 4 (lE eS) uM rfl)) (iw (iG (aH (jc "a: b 1, c 2") (aH (jc "\n") (cI eS))) (zg rfl)))) (λ_=>rfl) λuM=>(ZF v0 kj v1 vl uM).r))))
def Hl (v0:LI_) (v1:List bM):Bool:=(let vl:=(v1.map λvm:bM=>(dG vm));(zR v0 v1 vl))
def Ho (v0:LI_) (v1:List bM):Prop:=((v1.length<=100000/\(∀ vm∈v1,(mD vm)))/\(let vl:=(v1.map λvm:bM=>(dG vm));(Px v0 v1 vl)))
def ZJ:Ev->Option Out:=(aD (setG 2 (lF (Ni (gv 1)) (w5 0) vq (b1 uQ (bB 1 jj (ao (gv 0) aG))) [] 1)) Py)
theorem ZK (v0:LI_) {jm:Bx} (kj:Lp jm (v0.map eI)) (v1:List bM):RP ZJ [some jm,some ((zE (eT bO)) v1),none,none,none,none,none,none,none,none] (λr=>Out.rt ((zE eB) r)) (Hl v0 v1) (some (Ho v0 v1)):=R.tp (bN 2 (rM (ajj (au 1 (zE (eT bO)) v1 rfl)) _ (λ_=>rfl) (λvm:bM=>(pW (x_call G6 (cX (au 0 (zE bO) vm rfl) bH))))) (λ_=>rfl) λvl=>(ZG v0 kj v1 vl).r)
def Ub (v0:LI_):Bool:=(let v1:=(iJ v0 (0:Int) (6:Int));(Hl v0 v1))
def Uc (v0:LI_):Prop:=((kE v0 (0:Int) (6:Int))/\(let v1:=(iJ v0 (0:Int) (6:Int));(Ho v0 v1)))
theorem ahE (v0:LI_) {jm:Bx} (kj:Lp jm (v0.map eI)):RP T7 [some jm,none,none,none,none,none,none,none,none,none] (λr=>Out.rt ((zE eB) r)) (Ub v0) (some (Uc v0)):=R.tp (bN 1 (x_call CN (FZ (cW 0 eI v0 kj rfl) (cX (x_i 0) (cX (x_i 6) bH)))) (λ_=>rfl) λv1=>(ZK v0 kj v1).r)
theorem adi:∀ v bs,(aL eI aN) v bs->bs.length=1/\(hold (some (Uc v.1))->F_law (bs.map lend)=some ((zE eB) (Ub v.1))):=by
 rintro⟨v0,_⟩ _ ⟨jm,_,rfl,kj,rfl⟩;exact⟨rfl,λh=>cF (g:=T7) (n:=10) (bs:=[lend jm]) (ahE v0 (yX kj)) h⟩
theorem adk (h:∀ ns:List Int,ns.length<=63->Uc ns/\Ub ns=true):(∀ ns:List Int,ns.length<=63->F_law [.z (.lst (ns.map .int))]=some (.z (.bl true)))/\∀ ns:List Int,ns.length<=63->F_law [.l (ns.map .int)]=some (.z (.bl true)):=
 ⟨λns hn=>((adi (ns,()) [.z (.lst (ns.map .int))] ⟨_,_,rfl,rfl,rfl⟩).2 (h ns hn).1).trans (by rw[(h ns hn).2]),λns hn=>((adi (ns,()) [.l (ns.map .int)] ⟨_,_,rfl,rfl,rfl⟩).2 (h ns hn).1).trans (by rw[(h ns hn).2])⟩
end
theorem RM (script:List Int) (k:Int) (h0:0<=k) (h1:k<=1000):lA script k:=by
 unfold lA;exact⟨λh=>in_of h0 (by simpa using h),λ_=>ac7 h0 (by omega)⟩
theorem ZL (k:Nat) (s:Int×List Int×Int) (hk:k < 1000) (h:(0<=s.1/\s.1 < 1999999973)/\s.2.1.length=k/\(∀ x∈s.2.1,0<=x)/\0<=s.2.2):jE s k/\(0<=(cN s k).1/\(cN s k).1 < 1999999973)/\(cN s k).2.1.length=k+1/\(∀ x∈(cN s k).2.1,0<=x)/\0<=(cN s k).2.2:=by
 obtain⟨h1,h2,h3,h4⟩:=h;have hin:In 2 (if(decide ((0:Int) < s.2.2))=true then(1:Int) else 0):=by split<;>exact in_of (by omega) (by omega)
 refine⟨⟨ac7 h1.1 (by omega),hin,?_⟩,gZ _ (by decide),?_,?_,Int.ediv_nonneg h4 (by decide)⟩
 ·show s.2.1.length<=1000000;omega
 ·show(s.2.1++[_]).length=k+1;rw[zt,h2];rfl
 ·intro x hx;rcases List.mem_append.mp hx with hx|hx
  ·exact h3 x hx
  ·cases List.mem_singleton.mp hx;have:=tU (xs:=[((((s.1 * ((s.1 % (65521:Int))+(40487:Int)))+((7:Int) * k))+(5:Int)) % (1999999973:Int)),(s.2.2 % (1000000:Int))]) hin;simp only[qv,qr,or_false] at this;rcases this with e|e<;>rw[e]
   ·exact(gZ _ (by decide)).1
   ·exact(gZ _ (by decide)).1
theorem Lr (c m:Int) (h0:0<=m) (h1:m<=1000):iT c m/\(aJ c m).length=m.toNat/\∀ x∈aJ c m,0<=x:=by
 have key:∀ st dg:Int,(0<=st/\st < 1999999973)->0<=dg->nj c m [] st dg/\(jF c m [] st dg).length=m.toNat/\∀ x∈jF c m [] st dg,0<=x:=λst dg hs hd=>by
  have:=pX (P:=λs k=>some (jE s k)) (λk s=>(0<=s.1/\s.1 < 1999999973)/\s.2.1.length=k/\(∀ x∈s.2.1,0<=x)/\0<=s.2.2) (step:=λs k=>cN s k) m.toNat (st,[],dg) ⟨hs,rfl,λx h=>(by cases h),hd⟩ λk s hk h=>ZL k s (by omega) h;exact⟨⟨zc h0 (by omega),this.1⟩,this.2.2.1,this.2.2.2.1⟩
 refine key _ _ (gZ _ (by decide)) ?_;dsimp only;split<;>(try split)<;>omega
theorem foldl_size {α:Type} (c:Array α):∀ (n:Nat) (a:Array α),((List.replicate n c).foldl (·++·) a).size=a.size+n * c.size
 |0,a=>by simp
 |n+1,a=>by
  rw[qa,kF,foldl_size c n,K2,Nat.succ_mul];omega
theorem Ke (x:Str) (k:Int):(Txt.mul x k).length<=x.length * k.toNat:=by
 unfold Txt.mul;split
 ·exact qi _
 split
 ·rename_i h0 h;simp only[kK,beq_iff_eq] at h;rcases h with h|h
  ·subst h;simp
  ·rw[h];simp
 ·show(Array.size _)<=_;rw[foldl_size];have:x.cps.size=x.length:=rfl;rw[this,Nat.mul_comm];simp
def LT:Str:=("abcdefghijklmnopqrstuvwxyz" : Str)
theorem RN:LT.length=26:=by decide +kernel
theorem fP {n:Nat} (h:n<=1000):uR n:=zI h (by decide)
theorem RQ (xs:List Int) (hl:6<=xs.length) (stem:Str) (hs:stem.length<=5) (at_:Int) (k:Nat) (found:LS_) (hk:k < 200) (h:found.length=k/\∀ n∈found,n.length<=12):mq xs LT stem at_ found k/\(fM xs LT stem at_ found k).length=k+1/\∀ n∈fM xs LT stem at_ found k,n.length<=12:=by
 have s1:=zI (slice_le stem none (some at_)) hs;have s2:=zI (slice_le stem (some at_) none) hs;have c1:=vH LT ((↑k+at' xs 2) % 15);have m8:=gZ (k:Int) (m:=8) (by decide);have hd:(0:Int)<=(k:Int) / 8/\(k:Int) / 8 < 26:=by omega
 refine⟨⟨⟨in_of (by decide) (by omega),rO (by decide) (by rw[RN];decide)⟩,⟨fP (by omega),fP (by rw[d8];omega)⟩,⟨in_of (by decide) (by omega),λ_=>⟨in_of hd.1 (by rw[RN];exact hd.2),by omega,by omega,by rw[vH];decide⟩⟩,fP (by omega)⟩,?_⟩;have key:∀ n:Str,n.length<=12->(found++[n]).length=k+1/\∀ m∈found++[n],m.length<=12:=λn hn=>⟨by simp[h.1],λm hm=>by
  rcases List.mem_append.mp hm with hm|hm
  ·exact h.2 m hm
  ·cases List.mem_singleton.mp hm;exact hn⟩
 unfold fM;dsimp only;split
 ·exact key _ (by have:=Ke (ch LT ((k:Int) / 8)) (1+(k:Int) % 8);rw[vH] at this;exact zI this (by omega))
 ·exact key _ (by rw[d8,d8,c1];omega)
theorem ZM (xs:LS_) (n:Nat) (h:∀ x∈xs,x.length<=n):(Txt.join "" xs).length<=xs.length * n:=by
 have h1:=StrLaws.join_length_le ("" : Str) xs;rw[<-StrLaws.glued_eq_join] at h1;have h2:(xs.map (·.length)).sum<=xs.length * n:=by
  clear h1
  induction xs with
  |nil=>simp
  |cons a l ih=>
   have:=ih λx hx=>h x (zr _ hx);have:=h a (zo ..);simp only[zw,Kj,Zp,Nat.succ_mul];omega
 have h3:("" : Str).length=0:=rfl;rw[h3,Nat.mul_zero] at h1;exact zI h1 (by omega)
theorem ajH (xs:LS_) (h:∀ x∈xs,x.length=1):(xs.map (·.length)).sum=xs.length:=by
 induction xs with
 |nil=>rfl
 |cons a l ih=>
  have:=ih λx hx=>h x (zr _ hx);have:=h a (zo ..);simp only[zw,Kj,Zp];omega
theorem ZP (xs:List Int) (hl:6<=xs.length) (many:Int) (h0:0<=many) (h1:many<=200):rz xs many/\(cT xs many).length=many.toNat/\∀ n∈cT xs many,n.length<=12:=by
 have m6:=gZ (at' xs 0) (m:=6) (by decide);have st:∀ stem:Str,stem.length<=5->qm xs many LT stem/\(mz xs many LT stem).length=many.toNat/\∀ n∈mz xs many LT stem,n.length<=12:=λstem hs=>by
  have:=pX (P:=λf k=>some (mq xs LT stem (at' xs 1 % ((stem.length:Int)+1)) f k)) (step:=λf k=>fM xs LT stem (at' xs 1 % ((stem.length:Int)+1)) f k) (λk s=>s.length=k/\∀ n∈s,n.length<=12) many.toNat [] ⟨rfl,λn h=>(by cases h)⟩ λk s hk h=>RQ xs hl stem hs _ k s (by omega) h;exact⟨⟨⟨in_of (by decide) (by omega),by omega⟩,zc h0 (by omega),this.1⟩,this.2⟩
 have c1:∀ x∈((rng 0 (at' xs 0 % 6).toNat).map λk_:Int=>ch LT (at' xs k_ / 40 % 26)),x.length=1:=λx hx=>by
  obtain⟨k,_,rfl⟩:=List.mem_map.mp hx;exact vH _ _
 have:=st (Txt.join "" ((rng 0 (at' xs 0 % 6).toNat).map λk_:Int=>ch LT (at' xs k_ / 40 % 26))) (by
  have:=ZM _ 1 λx hx=>KL (c1 x hx);rw[zz,za] at this;omega)
 refine⟨⟨⟨⟨⟨⟨in_of (by decide) (by omega),zc m6.1 (by omega)⟩,by rw[za];omega⟩,λk hk=>?_⟩,?_⟩,this.1⟩,this.2⟩
 ·obtain⟨j,hj,rfl⟩:=KR hk;exact⟨in_of (by omega) (by omega),rO (by decide) (by rw[show("abcdefghijklmnopqrstuvwxyz" : Str)=LT from rfl,RN];decide)⟩
 ·rw[show("abcdefghijklmnopqrstuvwxyz" : Str)=LT from rfl,ajH _ c1,zz,za];have h3:("" : Str).length=0:=rfl;rw[h3];omega
def nmF (xs:List Int) (stem:Str) (at_:Int) (k:Int):Str:=if(decide (((at' xs (3:Int)) % (3:Int))=(1:Int)))=true then(Txt.mul (ch LT (k / (8:Int))) ((1:Int)+(k % (8:Int)))) else(((Txt.slice stem none (some at_))++(ch LT ((k+(at' xs (2:Int))) % (15:Int))))++(Txt.slice stem (some at_) none))
theorem Hq {α β:Type} (g:β->α):∀ (l:List β) (f:List α),l.foldl (λf k=>f++[g k]) f=f++l.map g
 |[],f=>by simp
 |k::l,f=>by rw[kF,Hq g l];simp
def Lw (c:Nat):Prop:=97<=c/\c<=122
def Wd (c:Nat):Prop:=Lw c\/(48<=c/\c<=57)
def Nm (s:Str):Prop:=1<=s.length/\s.length<=8/\∀ c∈cs s,Lw c
def Wo (s:Str):Prop:=1<=s.length/\s.length<=12/\∀ c∈cs s,Wd c
abbrev Rw:=Str×List (Str×Str)
structure Pz (r:Rw):Prop where
 n:Nm r.1
 l:r.2.length<=8
 w:∀ q∈r.2,Nm q.1/\Wo q.2
theorem adl:∀ c∈cs LT,Lw c:=by unfold Lw;decide +kernel
def pc (q:Str×Str):Str:=q.1++((" " : Str)++(q.2++Str.empty))
def bd (ws:List (Str×Str)):Str:=if ws.isEmpty=true then Str.empty else(" " : Str)++Txt.join ", " (ws.map pc)
def rt (r:Rw):Str:=r.1++((":" : Str)++bd r.2)
theorem colon:(":" : Str)=⟨#[58]⟩:=by decide +kernel
theorem blank:(" " : Str)=⟨#[32]⟩:=by decide +kernel
theorem comma:("," : Str)=⟨#[44]⟩:=by decide +kernel
theorem ZQ:(", " : Str)=⟨#[44,32]⟩:=by decide +kernel
theorem Hr (a:Array Nat):cs ⟨a⟩=a.toList:=rfl
theorem Ht (q:Str×Str):cs (pc q)=cs q.1++32::cs q.2:=by
 unfold pc;rw[dB,dB,dB,blank,Hr];show _++([32]++(cs q.2++[]))=_;simp
def bl:List (Str×Str)->List Nat
 |[]=>[]
 |q::qs=>32::(cs (pc q)++qs.flatMap λq=>44::32::cs (pc q))
theorem ZR (ws:List (Str×Str)):cs (bd ws)=bl ws:=by
 unfold bd;cases ws with
 |nil=>rfl
 |cons q qs=>
  show cs ((" " : Str)++Txt.join ", " (pc q::qs.map pc))=_;rw[dB,wK,blank,Hr,ZQ,Hr,List.flatMap_map];rfl
theorem ZS (r:Rw):cs (rt r)=cs r.1++58::bl r.2:=by
 unfold rt;rw[dB,dB,ZR,colon,Hr];rfl
theorem acv (ws:List (Str×Str)) (q:Str×Str):bl (ws++[q])=bl ws++((if ws.length=0 then[] else[44])++(32::cs (pc q))):=by
 cases ws with
 |nil=>simp[bl]
 |cons p ps=>simp[bl]
theorem ZV {q:Str×Str} (h:Nm q.1/\Wo q.2):(cs (pc q)).length<=21:=by
 rw[Ht,zt,Zp,<-bL,<-bL];have:=h.1.2.1;have:=h.2.2.1;omega
theorem ZW:∀ (ws:List (Str×Str)),(∀ q∈ws,Nm q.1/\Wo q.2)->(bl ws).length<=23 * ws.length:=by
 intro ws h;have fm:∀ qs:List (Str×Str),(∀ q∈qs,Nm q.1/\Wo q.2)->(qs.flatMap λq=>44::32::cs (pc q)).length<=23 * qs.length:=by
  intro qs
  induction qs with
  |nil=>intro _;exact zi _
  |cons q qs ih=>
   intro h;have:=ih λz hz=>h z (zr _ hz);have:=ZV (h q (zo ..));rw[kq,zt,Zp,Zp,Zp];omega
 cases ws with
 |nil=>exact zi _
 |cons q qs=>
  have h1:=fm qs λz hz=>h z (zr _ hz);have h2:=ZV (h q (zo ..));show(32::(cs (pc q)++_)).length<=_;rw[Zp,zt,Zp];omega
theorem afv {r:Rw} (h:Pz r):(rt r).length<=200:=by
 rw[bL,ZS,zt,Zp,<-bL];have:=ZW r.2 h.w;have:=h.n.2.1;have:=h.l;omega
theorem at2 (y:Int) (h:y=0\/0 < y):at' [("," : Str),("" : Str)] (if(decide (y=(0:Int)))=true then(1:Int) else 0)=if y=0 then("" : Str) else("," : Str):=by
 by_cases e:y=0
 ·subst e;rfl
 ·rw[zC (by simpa using e),zC e];rfl
theorem PJ {r:Rw} (h:Pz r):mD r/\dG r=rt r:=by
 have hl:=h.l;have hn:=h.n.2.1;have c0:cs (r.1++(":" : Str))=cs r.1++[58]:=by rw[dB,colon]
 have:=pX (P:=λf k=>some (gn r f k)) (step:=λf k=>eG r f k) (λk (s:Str)=>cs s=cs r.1++[58]++bl (r.2.take k)) (r.2.length:Int).toNat (r.1++(":" : Str)) (by rw[c0];simp[bl]) λk s hk hs=>by
  have hk:k < r.2.length:=by omega
  have hb:=ZW (r.2.take k) λq hq=>h.w q (List.mem_of_mem_take hq);have hsl:s.length<=193:=by
   rw[bL,hs,zt,zt,<-bL];rw[qB] at hb;show r.1.length+1+_<=_;omega
  have ha:at' r.2 (k:Int)=r.2[k]:=Ge r.2 k hk;have hw:=h.w r.2[k] (List.getElem_mem hk);have w1:=hw.1.2.1;have w2:=hw.2.2.1;have hi:In r.2.length (k:Int):=YF hk;have h2:In 2 (if(decide ((k:Int)=(0:Int)))=true then(1:Int) else 0):=by split<;>exact in_of (by omega) (by omega)
  have sl:∀ y:Str,y.length<=250->∀ z:Str,z.length<=20->uR (y.length+z.length):=λy hy z hz=>fP (by omega);have ec:(if(k:Int)=0 then("" : Str) else("," : Str)).length<=1:=by split<;>decide +kernel
  have b1:(" " : Str).length=1:=by decide +kernel
  refine⟨?_,?_⟩
  ·show gn r s k;unfold gn;rw[at2 _ (by omega),ha];refine⟨⟨⟨⟨⟨⟨⟨h2,fP (by omega)⟩,fP ?_⟩,hi⟩,fP ?_⟩,fP ?_⟩,hi⟩,fP ?_⟩<;>(simp only[d8,b1];omega)
  ·show cs (eG r s k)=_;unfold eG;dsimp only;rw[at2 _ (by omega),ha,dB,dB,dB,dB,dB,hs,blank,Hr,List.take_add_one,qo hk,Option.toList_some,acv,Ht,qB];have e:cs (if(k:Int)=0 then("" : Str) else("," : Str))=if min k r.2.length=0 then[] else[44]:=by
    by_cases z:k=0
    ·subst z;rw[zh (show((0:Nat):Int)=0 from rfl),zh (by simp)];rfl
    ·rw[zC (by omega),zC (by omega),comma]
   rw[e];simp;rfl
 refine⟨⟨fP (by rw[show(":" : Str).length=1 by decide +kernel];omega),zc (by omega) (by omega),this.1⟩,jg ?_⟩;have e:=this.2;rw[qS,List.take_length] at e;rw[ZS];refine Eq.trans ?_ (e.trans (by simp));rfl
theorem ahG {q:Str×Str} (h:Nm q.1/\Wo q.2):Txt.split (pc q) (" " : Str)=[q.1,q.2]:=by
 have e:pc q=Txt.join (" " : Str) [q.1,q.2]:=jg (by rw[Ht,wK,blank];simp[Hr]);rw[e];refine Gk (c:=32) (y':=[]) (by rw[blank]) (by decide +kernel) _ _ λz hz hc=>?_;rcases List.mem_cons.mp hz with rfl|hz
 ·have:=h.1.2.2 _ hc;unfold Lw at this;omega
 ·cases List.mem_singleton.mp hz;have:=h.2.2.2 _ hc;unfold Wd Lw at this;omega
theorem acw {q:Str×Str} (h:Nm q.1/\Wo q.2) {c:Nat} (hc:c∈cs (pc q)):c=32\/Wd c:=by
 rw[Ht] at hc;rcases List.mem_append.mp hc with hc|hc
 ·exact .inr (.inl (h.1.2.2 _ hc))
 ·rcases List.mem_cons.mp hc with hc|hc
  ·exact .inl hc
  ·exact .inr (h.2.2.2 _ hc)
theorem ahH {q:Str×Str} {qs:List (Str×Str)} (h:∀ z∈q::qs,Nm z.1/\Wo z.2):Txt.split (Txt.join ", " ((q::qs).map pc)) (", " : Str)=(q::qs).map pc:=by
 rw[zw];refine Gk (c:=44) (y':=[32]) (by rw[ZQ]) (by decide +kernel) _ _ λz hz hc=>?_;obtain⟨p,hp,rfl⟩:∃ p∈q::qs,pc p=z:=by rw[<-zw] at hz;exact List.mem_map.mp hz
 rcases acw (h p hp) hc with e|e
 ·omega
 ·unfold Wd Lw at e;omega
theorem Bc (d:Dt) (sg:Str) (n:Int) (h:n<=1000):jG d sg n:=by
 unfold jG;intro hs;obtain⟨x,rfl⟩:=Al hs;refine⟨⟨rfl,λ_=>rfl⟩,λhl=>⟨⟨rfl,?_⟩,λs h=>acj h⟩⟩;rw[acn];have h2:(x.length:Int)<=n:=jb ((ZE _ _).mp hl).2;omega
theorem PK {d:Dt} {sg:Str} {n:Int} (h:fB d sg n=true):bU d=true:=by
 unfold fB at h;rw[ZE] at h;exact h.1
theorem ZX (d:Dt):sO d:=Bc d _ 8 (by decide)
theorem PL {d:Dt} (h:gP d=true):bU d=true:=PK h
theorem PN (d:Dt) (s:Str) (n:Int):gC d s n=fB d s n:=rfl
theorem Hu (d:Dt) (s:Str) (n:Int) (h:n<=1000):jV d s n:=Bc d s n h
theorem BX (d:Dt):fH d=gP d:=rfl
theorem Hv (d:Dt):jW d:=Hu d _ 8 (by decide)
theorem afw (d:Dt):wU d:=⟨by unfold uR;decide +kernel,Bc d _ 12 (by decide)⟩
theorem acy (d:Dt):gC d "abcdefghijklmnopqrstuvwxyz0123456789" 12=nq d:=by
 unfold nq;rw[PN];congr 1
theorem Ud (d:Dt) (n:Int):qp d n:=λh=>wJ h
theorem Hw {d:Dt} (h:eY d 2=true):∃ a b,d=.tup [a,b]:=by
 unfold eY at h;rw[ZE] at h;obtain⟨ds,rfl⟩:=vI h.1;have hl:(ds.length:Int)=2:=jb h.2
 match ds,hl with
 |[a,b],_=>exact⟨a,b,rfl⟩
 |[],h=>simp at h
 |[_],h=>simp at h
 |_::_::_::_,h=>simp at h;omega
theorem as_str {d:Dt} (h:bU d=true):d=eS (FW d):=by obtain⟨x,rfl⟩:=Al h;rfl
theorem ix0 (a b:Dt):Rc (.tup [a,b]) 0:=in_of (KS 0) (by simp)
theorem ix1 (a b:Dt):Rc (.tup [a,b]) 1:=in_of (by decide) (by simp)
theorem Ls (d:Dt):kJ d:=by
 refine⟨Ud d 2,λh=>?_⟩;obtain⟨a,b,rfl⟩:=Hw h;exact⟨⟨ix0 a b,ZX _⟩,λ_=>⟨ix1 a b,afw _⟩⟩
theorem Z0 {d:Dt} (h:aX d=true):∃ (f:Str) (b:Dt),d=.tup [.str f,b]:=by
 unfold aX at h;simp only[ZE] at h;obtain⟨a,b,rfl⟩:=Hw h.1;rw[Ot] at h;obtain⟨f,rfl⟩:=Al (PL h.2.1);exact⟨f,b,rfl⟩
theorem RT {l:List Dt} (h:((l.map λp:Dt=>aX p).all id)=true):∀ d∈l,aX d=true:=λd hd=>by
 rw[List.all_map,k9] at h;exact h d hd
theorem Z1 (xs:LS_) (h:xs.length<=1000):pI xs:=by
 refine⟨⟨by unfold Rg;have h0:(xs.length:Int)<=1000:=(by omega);have h1:(0:Int)<=xs.length:=(by omega);generalize (xs.length:Int)=n at h0 h1;omega,?_⟩,λi hi=>?_⟩
 ·unfold rng;rw[zz,List.length_range];omega
 ·obtain⟨k,hk,rfl⟩:=KR hi;exact⟨in_of (by omega) (by omega),in_of (by omega) (by omega)⟩
theorem acz (d:Dt) (h:(vG d).length<=60):rA d:=by
 refine⟨λht=>?_,λhq=>?_⟩
 ·have ht:is_tuple d=true:=by simpa using ht
  exact⟨⟨wJ ht,by omega⟩,λp _=>Ls p⟩
 ·simp only[Bool.or_eq_false_iff,Bool.not_eq_false'] at hq;have hf:=RT hq.2;refine⟨⟨⟨⟨wJ hq.1,λp hp=>?_⟩,by rw[zz];omega⟩,λq hq'=>?_⟩,Z1 _ (by rw[zz,zz];omega)⟩
  ·obtain⟨f,b,rfl⟩:=Z0 (hf p hp);rfl
  ·obtain⟨p,hp,rfl⟩:=List.mem_map.mp hq';obtain⟨f,b,rfl⟩:=Z0 (hf p hp);rfl
def W2 (d:Dt):Prop:=∀ a b,d=.tup [a,b]->(vG b).length<=60
theorem adn (d:Dt) (h:W2 d):vV d:=by
 refine⟨Ud d 2,λhq=>?_⟩;obtain⟨a,b,rfl⟩:=Hw hq;exact⟨⟨ix0 a b,ZX _⟩,λ_=>⟨ix1 a b,by rw[Ou];exact acz b (h a b rfl)⟩⟩
theorem ahI (fs:LS_) (d:Dt):dI fs d=if aX d=true then .nx (fs++[FW (qF d 0)]) else .rt false:=by
 unfold dI aX eY;rw[BX,acy];dsimp only;cases is_tuple d<;>cases decide (oZ d=2)<;>cases gP (qF d 0)<;>cases nq (qF d 1)<;>rfl
theorem ahJ (fs:LS_) (d:Dt) (h:fs.length<=60):kO fs d:=by
 refine⟨λht=>?_,λhq=>?_⟩
 ·have ht:is_tuple d=true:=by simpa using ht
  refine⟨wJ ht,λhl=>?_⟩;have hl:oZ d=2:=by simpa using hl
  exact⟨Rp ht (KS 0) (by omega),Hv _⟩
 ·simp only[Bool.or_eq_false_iff,Bool.not_eq_false',JO] at hq;obtain⟨ht,hl,hn⟩:=hq;refine⟨⟨Rp ht (by decide) (by omega),Hu _ _ 12 (by decide)⟩,λ_=>⟨⟨Rp ht (KS 0) (by omega),as_str (PL hn)⟩,zI h (by decide)⟩⟩
theorem PX:∀ (es:List Dt) (fs:LS_),fs.length+es.length<=60 →
  (nU (λ(fields:LS_) (entry:Dt)=>(dI fields entry:jJ LS_ Bool)) es fs=if((es.map λp:Dt=>aX p).all id)=true then .nx (fs++es.map λd=>FW (qF d 0)) else .rt false) ∧
  qG (λ(fields:LS_) (entry:Dt)=>(dI fields entry:jJ LS_ Bool)) (λ(fields:LS_) (entry:Dt)=>some (kO fields entry)) es fs
 |[],fs,_=>⟨by simp[nU],trivial⟩
 |d::es,fs,h=>by
  have hl:fs.length<=60:=by simp at h;omega
  unfold nU qG;rw[ahI];by_cases q:aX d=true
  ·rw[zh q];obtain⟨i1,i2⟩:=PX es (fs++[FW (qF d 0)]) (by simp at h ⊢;omega);refine⟨?_,ahJ fs d hl,i2⟩;dsimp only;rw[i1,zw,ka,q];simp
  ·rw[zC q];have q':aX d=false:=by simpa using q
   refine⟨?_,ahJ fs d hl,trivial⟩;simp[q']
theorem Lx {d:Dt} (hf:∀ p∈vG d,aX p=true):((vG d).map Rf).map (λq1:Dt×Dt=>FW q1.1)=(vG d).map λp=>FW (qF p 0):=by
 rw[QI];apply QU;intro p hp;obtain⟨f,b,rfl⟩:=Z0 (hf p hp);rw[Ot];rfl
theorem Ly (d:Dt) (h:W2 d):mG d/\dZ d=eE d:=by
 by_cases ht:eY d 2=true
 ·obtain⟨a,b,rfl⟩:=Hw ht;have hb:=h a b rfl;obtain⟨l1,l2⟩:=PX (vG b) [] (by simpa using hb);refine⟨⟨λ_=>⟨rfl,λ_=>⟨⟨ix0 a b,Hv _⟩,λ_=>ix1 a b⟩⟩,λhq=>?_⟩,?_⟩
  ·simp only[Ot,Ou,Bool.or_eq_false_iff,Bool.not_eq_false'] at hq;dsimp only;rw[Ou];refine⟨⟨⟨ix1 a b,wJ hq.2.2.2⟩,l2⟩,?_⟩;rw[l1];split
   ·have hl:([]++(vG b).map λd=>FW (qF d 0)).length<=60:=by simpa using hb
    exact⟨by omega,Nat.lt_of_le_of_lt (NK _) (by omega)⟩
   ·trivial
  ·unfold dZ eE nY pH;dsimp only;rw[Ot,Ou,BX,ht,l1];have e1:is_tuple (.tup [a,b])=true:=rfl;have e2:decide (oZ (.tup [a,b])=2)=true:=rfl;rw[e1,e2];cases gP a
   ·rfl
   ·cases hb':is_tuple b
    ·rfl
    ·cases hall:((vG b).map λp:Dt=>aX p).all id
     ·rfl
     ·have hc:=V1 ((vG b).map λp=>FW (qF p 0));unfold vJ at hc;rw[Lx (RT hall)];simp only[Bool.not_true,Bool.or_false,Zs,Qb,Jn,Bool.true_and,QY,behind];exact hc.symm
 ·have ht':eY d 2=false:=by simpa using ht
  have hn:((!(is_tuple d))||(!decide (oZ d=2)))=true:=by
   unfold eY at ht';cases h1:is_tuple d<;>cases h2:decide (oZ d=2)<;>rw[h1,h2] at ht'<;>first|rfl|cases ht'
  refine⟨⟨λhq=>?_,λhq=>?_⟩,?_⟩
  ·have hq:is_tuple d=true:=by simpa using hq
   refine⟨wJ hq,λhl=>?_⟩;rw[hq,hl] at hn;cases hn
  ·rw[<-Bool.or_assoc,hn] at hq;cases hq
  ·unfold dZ eE;rw[<-Bool.or_assoc,hn,ht'];rfl
theorem Z2 (x:Int) (ls:Str) (hls:0 < ls.length) (most:Int) (h0:0 < most) (h1:most<=12):jo x ls most/\(fO x ls most).length=(1+x % most).toNat/\∀ c∈cs (fO x ls most),c∈cs ls:=by
 have m:=gZ x (m:=most) h0;have:=pX (P:=λf k=>some (mC x ls f k)) (step:=λf k=>iW x ls f k) (λk (s:Str)=>s.length=k/\∀ c∈cs s,c∈cs ls) (1+x % most).toNat ("" : Str) ⟨rfl,λc hc=>by cases hc⟩ λk s hk h=>by
  have hi:In ls.length (x / (7+5 * (k:Int)) % (ls.length:Int)):=rO (by omega) (KS _);refine⟨⟨⟨⟨by omega,by omega⟩,hi⟩,fP (by rw[vH];omega)⟩,?_,λc hc=>?_⟩
  ·show(s++ch ls _).length=k+1;rw[d8,vH];omega
  ·have hc:c∈cs (s++ch ls (x / (7+5 * (k:Int)) % (ls.length:Int))):=hc;rw[dB] at hc;rcases List.mem_append.mp hc with hc|hc
   ·exact h.2 c hc
   ·obtain⟨d,hd,e⟩:=ahm hi;rw[e] at hc;cases List.mem_singleton.mp hc;exact hd
 exact⟨⟨⟨h0,zc (by omega) (by omega)⟩,this.1⟩,this.2⟩
theorem acA {α:Type} (m:List (Str×α)) (x:Str) (a:α):(put m x a).length<=m.length+1:=by
 unfold put;split<;>simp
theorem acB {α:Type} {m:List (Str×α)} {x:Str} {a:α} {q:Str×α} (h:q∈put m x a):q.1=x/\q.2=a\/q∈m:=by
 unfold put at h;split at h
 ·obtain⟨r,hr,e⟩:=List.mem_map.mp h;split at e
  ·rename_i he;subst e;exact .inl ⟨he,rfl⟩
  ·subst e;exact .inr hr
 ·rcases List.mem_append.mp h with h|h
  ·exact .inr h
  ·cases List.mem_singleton.mp h;exact .inl ⟨rfl,rfl⟩
theorem afx {α:Type} {m:List (Str×α)} {x:Str} (h:x∈m.map (·.1)):has m x=true:=by
 obtain⟨q,hq,rfl⟩:=List.mem_map.mp h;unfold has;exact List.any_eq_true.mpr ⟨q,hq,by simp⟩
theorem Z4 {m:List (Str×Str)} {x:Str} (h:x∈m.map (·.1)):∃ q∈m,look m x=q.2:=by
 unfold look;cases hf:m.find? λq=>decide (q.1=x) with
 |none=>
  obtain⟨q,hq,rfl⟩:=List.mem_map.mp h;have:=List.find?_eq_none.mp hf q hq;simp at this
 |some q=>exact⟨q,List.mem_of_find?_eq_some hf,rfl⟩
theorem ahK:∀ c∈cs ("ab01xyz9" : Str),Wd c:=by unfold Wd Lw;decide +kernel
theorem ahL:∀ c∈cs ("abcdefghijklmnopqrstuvwxyz0123456789" : Str),Wd c:=by unfold Wd Lw;decide +kernel
theorem Z5 (xs:List Int) (k:Nat) (hl:2+2 * k < xs.length) (ws:List (Str×Str)) (hk:k < 8) (h:ws.length<=k/\(∀ q∈ws,Nm q.1/\Wo q.2)):iY xs ws k/\(dF xs ws k).length<=k+1/\(∀ q∈dF xs ws k,Nm q.1/\Wo q.2):=by
 have i1:In xs.length (1+2 * (k:Int)):=in_of (by omega) (by omega);have i2:In xs.length (2+2 * (k:Int)):=in_of (by omega) (by omega);have j:∀ y:Int,In 2 (y % 2):=λy=>rO (by decide) (by decide);have o:∀ (a b:Int) (y:Int),at' [a,b] (y % 2)=a\/at' [a,b] (y % 2)=b:=λa b y=>by
  have:=tU (xs:=[a,b]) (j y);simpa using this
 have os:∀ y:Int,0 < (at' [("ab01xyz9" : Str),("abcdefghijklmnopqrstuvwxyz0123456789" : Str)] (y % 2)).length/\∀ c∈cs (at' [("ab01xyz9" : Str),("abcdefghijklmnopqrstuvwxyz0123456789" : Str)] (y % 2)),Wd c:=λy=>by
  have:=tU (xs:=[("ab01xyz9" : Str),("abcdefghijklmnopqrstuvwxyz0123456789" : Str)]) (j y);simp only[qv,qr,or_false] at this;rcases this with e|e<;>rw[e]
  ·exact⟨by decide +kernel,ahK⟩
  ·exact⟨by decide +kernel,ahL⟩
 have q1:=o 2 8 (at' xs (1+2 * (k:Int)) / 999);have q2:=o 3 12 (at' xs (2+2 * (k:Int)) / 999);have a1:=Z2 (at' xs (1+2 * (k:Int))) ("abcdefghijklmnopqrstuvwxyz" : Str) (by decide +kernel) (at' [(2:Int),(8:Int)] (at' xs (1+2 * (k:Int)) / 999 % 2)) (by omega) (by omega);have a2:=Z2 (at' xs (2+2 * (k:Int))) (at' [("ab01xyz9" : Str),("abcdefghijklmnopqrstuvwxyz0123456789" : Str)] (at' xs (2+2 * (k:Int)) / 61 % 2)) (os _).1 (at' [(3:Int),(12:Int)] (at' xs (2+2 * (k:Int)) / 999 % 2)) (by omega) (by omega);have m1:=gZ (at' xs (1+2 * (k:Int))) (m:=at' [(2:Int),(8:Int)] (at' xs (1+2 * (k:Int)) / 999 % 2)) (by omega);have m2:=gZ (at' xs (2+2 * (k:Int))) (m:=at' [(3:Int),(12:Int)] (at' xs (2+2 * (k:Int)) / 999 % 2)) (by omega);refine⟨⟨⟨⟨i1,i1,j _⟩,a1.1⟩,⟨i2,j _⟩,⟨⟨i2,i2,j _⟩,a2.1⟩,by omega⟩,?_,?_⟩
 ·exact zI (acA _ _ _) (by omega)
 ·intro q hq;rcases acB hq with⟨e1,e2⟩|hq
  ·rw[e1,e2];exact⟨⟨by rw[a1.2.1];omega,by rw[a1.2.1];omega,λc hc=>adl c (a1.2.2 c hc)⟩,by rw[a2.2.1];omega,by rw[a2.2.1];omega,λc hc=>(os _).2 c (a2.2.2 c hc)⟩
  ·exact h.2 q hq
theorem afy {name:Str} (hn:Nm name) (xs:List Int) (h0:1<=xs.length) (hl:∀ k:Nat,(k:Int) < at' xs 0 % 9->2+2 * k < xs.length):jq name xs/\Pz (gO name xs):=by
 have m:=gZ (at' xs 0) (m:=9) (by decide);have:=pX (P:=λf k=>some (iY xs f k)) (step:=λf k=>dF xs f k) (λk (s:List (Str×Str))=>s.length<=k/\(∀ q∈s,Nm q.1/\Wo q.2)) (at' xs 0 % 9).toNat [] ⟨zi 0,λq h=>(by cases h)⟩ λk s hk h=>Z5 xs k (hl k (by omega)) s (by omega) h;obtain⟨d1,w1,w2⟩:=this;have hs:∀ ws:List (Str×Str),(je (ws.map (·.1))).length=ws.length:=λws=>by rw[(eN _).length_eq,zz]
 refine⟨⟨⟨⟨in_of (by decide) (by omega),zc m.1 (by omega)⟩,d1⟩,⟨Nat.lt_of_le_of_lt w1 (by omega),by rw[hs];exact zI w1 (by omega)⟩,λf hf=>afx ((eN _).mem_iff.mp hf)⟩,hn,?_,?_⟩
 ·show(List.map _ (je _)).length<=8;rw[zz,hs];exact zI w1 (by omega)
 ·intro q hq;obtain⟨f,hf,rfl⟩:=List.mem_map.mp (show q∈List.map _ (je _) from hq);have hf:=(eN _).mem_iff.mp hf;obtain⟨r,hr,e⟩:=Z4 hf;obtain⟨s,hs',e'⟩:=List.mem_map.mp hf;dsimp only;rw[e,<-e'];exact⟨(w2 s hs').1,(w2 r hr).2⟩
theorem afz (c:Nat) (n:Int) (h:1<=n):cs (Txt.mul ⟨#[c]⟩ n)=List.replicate n.toNat c:=by
 unfold Txt.mul;split
 ·omega
 split
 ·rename_i h;simp only[kK,beq_iff_eq] at h;rcases h with h|h
  ·subst h;rfl
  ·cases h
 ·have:∀ (k:Nat) (a:Array Nat),((List.replicate k (#[c]:Array Nat)).foldl (·++·) a).toList=a.toList++List.replicate k c:=by
   intro k
   induction k with
   |zero=>intro a;simp
   |succ k ih=>
    intro a;rw[qa,kF,ih,Array.toList_append,qa];simp
  exact(this _ _).trans (by simp)
theorem Z6 {i:Int} (h:0<=i/\i < 26):ch LT i=⟨#[97+i.toNat]⟩:=by
 have:∀ i:Fin 26,ch LT (i.val:Int)=⟨#[97+i.val]⟩:=by decide +kernel
 have:=this ⟨i.toNat,by omega⟩;rwa [show((⟨i.toNat,by omega⟩:Fin 26).val:Int)=i by show(i.toNat:Int)=i;omega] at this
theorem acC {i n:Int} (h:0<=i/\i < 26) (h1:1<=n) (h8:n<=8):Nm (Txt.mul (ch LT i) n):=by
 have e:=afz (97+i.toNat) n h1;rw[<-Z6 h] at e;refine⟨?_,?_,λc hc=>?_⟩
 ·rw[bL,e,List.length_replicate];omega
 ·rw[bL,e,List.length_replicate];omega
 ·rw[e] at hc;rw[(List.mem_replicate.mp hc).2];unfold Lw;omega
theorem Z7 {l:LS_} {c:Nat} (h:c∈cs (Txt.join "" l)):∃ q∈l,c∈cs q:=by
 cases l with
 |nil=>cases h
 |cons p ps=>
  rw[wK] at h;rcases List.mem_append.mp h with h|h
  ·exact⟨p,zo ..,h⟩
  ·obtain⟨q,hq,h⟩:=List.mem_flatMap.mp h;exact⟨q,zr _ hq,h⟩
theorem Wj (xs:List Int) (many:Int):∃ (stem:Str) (at_:Int),(∀ c∈cs stem,Lw c)/\stem.length<=5/\0<=at_/\at_<=(stem.length:Int)/\cT xs many=(rng 0 many.toNat).map (nmF xs stem at_):=by
 have m6:=gZ (at' xs 0) (m:=6) (by decide);have mem:∀ x∈((rng 0 (at' xs 0 % 6).toNat).map λk_:Int=>ch LT (at' xs k_ / 40 % 26)),x.length=1/\∀ c∈cs x,Lw c:=λx hx=>by
  obtain⟨k,_,rfl⟩:=List.mem_map.mp hx;refine⟨vH _ _,λc hc=>?_⟩;rw[Z6 (gZ _ (by decide))] at hc;cases List.mem_singleton.mp hc;have:=gZ (at' xs k / 40) (m:=26) (by decide);unfold Lw;omega
 refine⟨Txt.join "" ((rng 0 (at' xs 0 % 6).toNat).map λk_:Int=>ch LT (at' xs k_ / 40 % 26)),at' xs 1 % (((Txt.join "" ((rng 0 (at' xs 0 % 6).toNat).map λk_:Int=>ch LT (at' xs k_ / 40 % 26))).length:Int)+1),λc hc=>?_,?_,?_,?_,(Hq (nmF xs _ _) _ []).trans (QY _)⟩
 ·obtain⟨q,hq,h⟩:=Z7 hc;exact(mem q hq).2 c h
 ·have:=ZM _ 1 λx hx=>KL (mem x hx).1;rw[zz,za] at this;omega
 ·exact(gZ _ (by omega)).1
 ·have:=(gZ (at' xs 1) (m:=((Txt.join "" ((rng 0 (at' xs 0 % 6).toNat).map λk_:Int=>ch LT (at' xs k_ / 40 % 26))).length:Int)+1) (by omega)).2;omega
theorem afA {xs:List Int} {stem:Str} {at_:Int} (h1:∀ c∈cs stem,Lw c) (h2:stem.length<=5) (h3:0<=at_) (h4:at_<=(stem.length:Int)) {k:Int} (hk:0<=k/\k < 15):Nm (nmF xs stem at_ k):=by
 unfold nmF;split
 ·exact acC (by omega) (by omega) (by omega)
 ·have s1:=sI (x:=stem) (n:=at_.toNat) (by omega);have s2:=Gm (x:=stem) (n:=at_.toNat) (by omega);rw[Int.toNat_of_nonneg h3] at s1 s2;have c1:=Z6 (i:=(k+at' xs 2) % 15) (by have:=gZ (k+at' xs 2) (m:=15) (by decide);omega);have m:=gZ (k+at' xs 2) (m:=15) (by decide);have e:cs ((Txt.slice stem none (some at_)++ch LT ((k+at' xs 2) % 15))++Txt.slice stem (some at_) none)=((cs stem).take at_.toNat++[97+((k+at' xs 2) % 15).toNat])++(cs stem).drop at_.toNat:=by
   rw[dB,dB,s1,s2,c1]
  have hl:((Txt.slice stem none (some at_)++ch LT ((k+at' xs 2) % 15))++Txt.slice stem (some at_) none).length=stem.length+1:=by
   rw[bL,e,zt,zt,qB,ZU,<-bL];show _+1+_=_;omega
  refine⟨by rw[hl];omega,by rw[hl];omega,λc hc=>?_⟩;rw[e] at hc;rcases List.mem_append.mp hc with hc|hc
  ·rcases List.mem_append.mp hc with hc|hc
   ·exact h1 c (List.mem_of_mem_take hc)
   ·cases List.mem_singleton.mp hc;unfold Lw;omega
  ·exact h1 c (List.mem_of_mem_drop hc)
structure Bk (b:List Rw):Prop where
 l:b.length<=6
 g:∀ r∈b,Pz r
theorem acD {g:Int->Str} {n:Nat} {i:Int} (h:0<=i/\i < n):at' ((rng 0 n).map g) i=g i:=by
 have:=KD (xs:=(rng 0 n).map g) (k:=i.toNat) (x:=g i) (by
  unfold rng;rw[QI,ZO,List.getElem?_range (by omega)];show some (g (0+(i.toNat:Int)))=some (g i);rw[Int.zero_add,Int.toNat_of_nonneg h.1])
 rwa [Int.toNat_of_nonneg h.1] at this
theorem acE {step:List Rw->Int->List Rw} {P:List Rw->Int->Option Prop} {row:Int->Rw} {n:Nat} (hn:n<=6) (hs:∀ b k,step b k=b++[row k]) (hr:∀ k:Nat,k < n->Pz (row k)) (hd:∀ (b:List Rw) (k:Nat),b.length=k->k < n->hold (P b k)):yt step P (rng 0 n) []/\Bk ((rng 0 n).foldl step []):=by
 have:=pX (P:=P) (step:=step) (λk (b:List Rw)=>b.length=k/\∀ r∈b,Pz r) n [] ⟨rfl,λr h=>(by cases h)⟩ λk b hk h=>by
  refine⟨hd b k h.1 hk,by rw[hs];simp[h.1],λr hr'=>?_⟩;rw[hs] at hr';rcases List.mem_append.mp hr' with hr'|hr'
  ·exact h.2 r hr'
  ·cases List.mem_singleton.mp hr';exact hr k hk
 exact⟨this.1,by rw[this.2.1];exact hn,this.2.2⟩
theorem acF (s:List Int):kE s 0 6/\Bk (iJ s 0 6):=by
 obtain⟨d1,l1,_⟩:=Lr (aU s 0) 8 (by decide) (by decide);have l8:(aJ (aU s 0) 8).length=8:=l1;obtain⟨d2,l2,n2⟩:=ZP (aJ (aU s 0) 8) (by omega) 15 (by decide) (by decide);obtain⟨stem,at_,a1,a2,a3,a4,e⟩:=Wj (aJ (aU s 0) 8) 15;have m:=gZ (at' (aJ (aU s 0) 8) 6) (m:=6+1) (by decide);have ix:∀ y:Int,In (cT (aJ (aU s 0) 8) 15).length (y % 15):=λy=>rO (by decide) (by rw[l2];decide);have nm:∀ y:Int,at' (cT (aJ (aU s 0) 8) 15) (y % 15)=nmF (aJ (aU s 0) 8) stem at_ (y % 15):=λy=>by rw[e];exact acD (n:=15) (gZ y (by decide))
 have wr:∀ k:Nat,k < 7->jq (at' (cT (aJ (aU s 0) 8) 15) ((7 * (k:Int)+at' (aJ (aU s 0) 8) 7) % 15)) (aJ (aU s ((0+1)+(k:Int))) 17)/\Pz (gO (at' (cT (aJ (aU s 0) 8) 15) ((7 * (k:Int)+at' (aJ (aU s 0) 8) 7) % 15)) (aJ (aU s ((0+1)+(k:Int))) 17)):=λk hk=>by
  obtain⟨_,lk,_⟩:=Lr (aU s ((0+1)+(k:Int))) 17 (by decide) (by decide);have lk:(aJ (aU s ((0+1)+(k:Int))) 17).length=17:=lk;have m9:=gZ (at' (aJ (aU s ((0+1)+(k:Int))) 17) 0) (m:=9) (by decide);rw[nm];exact afy (afA a1 a2 a3 a4 (gZ _ (by decide))) _ (by omega) λj hj=>by omega
 have:=acE (P:=λb k=>some (lB s 0 (aJ (aU s 0) 8) (cT (aJ (aU s 0) 8) 15) b k)) (step:=λb k=>iB s 0 (aJ (aU s 0) 8) (cT (aJ (aU s 0) 8) 15) b k)
  (row:=λk=>gO (at' (cT (aJ (aU s 0) 8) 15) ((7 * k+at' (aJ (aU s 0) 8) 7) % 15)) (aJ (aU s ((0+1)+k)) 17))
  (n:=(at' (aJ (aU s 0) 8) 6 % (6+1)).toNat) (by omega) (λb k=>rfl) (λk hk=>(wr k (by omega)).2) (λb k hb hk=>⟨⟨in_of (by decide) (by omega),ix _⟩,⟨⟨RM s _ (by omega) (by omega),(Lr _ 17 (by decide) (by decide)).1⟩,(wr k (by omega)).1⟩,fP (by omega)⟩)
 exact⟨⟨⟨RM s 0 (by decide) (by decide),d1⟩,d2,⟨⟨in_of (by decide) (by omega),by decide⟩,zc m.1 (by omega)⟩,this.1⟩,this.2⟩
def PO (p f w:List Nat):Prop:=p=32::(f++32::w)/\32∉f
def Ue (q:Str):Bool:=((!decide ((Txt.slice q none (some (1:Int)))=(" " : Str)))||(decide ((Txt.find3 q (" " : Str) 1) < (0:Int))))
theorem Bd (a:List Nat) (c:Nat) (b:List Nat):(a++c::b).drop (a.length+1)=b:=by
 rw[<-Q4,kN];rfl
theorem Ug (q:Str):(Ue q=true/\∀ f w,¬ PO (cs q) f w)\/(Ue q=false/\PO (cs q) (cs (Txt.slice q (some (1:Int)) (some (Txt.find3 q (" " : Str) 1)))) (cs (Txt.slice q (some ((Txt.find3 q (" " : Str) 1)+(1:Int))) none))):=by
 unfold Ue;cases hq:cs q with
 |nil=>
  refine .inl ⟨?_,λf w h=>nomatch h.1⟩;have:(Txt.slice q none (some (1:Int)))≠(" " : Str):=λe=>by
   have h1:=slice_le q none (some 1);rw[e,bL q,hq,show(" " : Str).length=1 by decide +kernel] at h1;exact absurd h1 (by decide)
  rw[ZA this];rfl
 |cons a p=>
  have hl:1<=q.length:=by rw[bL,hq];simp
  have s1:cs (Txt.slice q none (some (1:Int)))=[a]:=by
   have:=sI (x:=q) (n:=1) hl;refine(this:cs (Txt.slice q none (some ((1:Nat):Int)))=_).trans ?_;rw[hq];rfl
  by_cases ha:a=32
  ·subst ha;have e1:Txt.slice q none (some (1:Int))=(" " : Str):=jg (by rw[s1,blank]);rw[QE e1,blank];have hd:(cs q).drop 1=p:=by rw[hq];rfl
   rcases Ox q 32 1 hl with⟨f1,f2⟩|⟨x,y,f1,f2,f3⟩
   ·rw[hd] at f2;have f1:Txt.find3 q ⟨#[32]⟩ 1 = -1:=f1;rw[f1];refine .inl ⟨rfl,λf w h=>f2 ?_⟩;have:=h.1;injection this with _ e;rw[e];simp
   ·rw[hd] at f1;have f3:Txt.find3 q ⟨#[32]⟩ 1=((1+x.length:Nat):Int):=f3;rw[f3];have hql:q.length=1+(x.length+(y.length+1)):=by rw[bL,hq,f1];simp;omega
    have m1:cs (Txt.slice q (some (1:Int)) (some ((1+x.length:Nat):Int)))=x:=by
     refine(V2 (x:=q) (m:=1) (n:=1+x.length) (by omega) (by omega)).trans ?_;rw[hd,f1,show 1+x.length - 1=x.length by omega,kM]
    have m2:cs (Txt.slice q (some (((1+x.length:Nat):Int)+1)) none)=y:=by
     refine(iK q (1+x.length+1)).trans ?_;rw[show 1+x.length+1=1+(x.length+1) by omega,<-Q4,hd,f1,Bd]
    rw[m1,m2];refine .inr ⟨?_,by rw[f1],f2⟩;rw[ZA (by omega)];rfl
  ·refine .inl ⟨?_,λf w h=>ha (by have:=h.1;injection this)⟩;have:(Txt.slice q none (some (1:Int)))≠(" " : Str):=λe=>ha (by
    rw[e,blank] at s1;have s1:[32]=[a]:=s1;injection s1 with e;exact e.symm)
   rw[ZA this];rfl
abbrev St:=(List cR)×Str
def b1v (ws:List cR) (left q:Str) (n:Int):jJ St (Option bM):=if Ue q=true then jJ.rt none else if(decide ((Txt.slice left (some n) none)=("," : Str)))=true then jJ.rt none else jJ.nx (ws++[((Txt.slice q (some (1:Int)) (some (Txt.find3 q (" " : Str) 1))),(Txt.slice q (some ((Txt.find3 q (" " : Str) 1)+(1:Int))) none))],Txt.slice left (some (n+(1:Int))) none)
theorem afB (ws:List cR) (left:Str):bf (ws,left)=b1v ws left (Txt.slice left none (some (if(decide ((Txt.find left ("," : Str)) < (0:Int)))=true then(left.length:Int) else Txt.find left ("," : Str)))) (if(decide ((Txt.find left ("," : Str)) < (0:Int)))=true then(left.length:Int) else Txt.find left ("," : Str)):=rfl
theorem Qa (ws:List cR) (left:Str) :
  (∃ p r,44∉p/\cs left=p++44::r/\((∃ f w l',PO p (cs f) (cs w)/\cs l'=r/\r≠[]/\bf (ws,left)=.nx (ws++[(f,w)],l'))\/(bf (ws,left)=.rt none/\(r=[]\/∀ f w,¬ PO p f w)))) ∨
  (44∉cs left/\((∃ f w,PO (cs left) (cs f) (cs w)/\bf (ws,left)=.nx (ws++[(f,w)], ""))\/(bf (ws,left)=.rt none/\∀ f w,¬ PO (cs left) f w))):=by
 rw[afB,comma];rcases K1 left 44 with⟨h1,h2⟩|⟨p,r,h1,h2,h3⟩
 ·right;refine⟨h2,?_⟩;rw[h1,zh (by decide)];have e1:Txt.slice left none (some (left.length:Int))=left:=jg (by rw[sI (zi _),bL,List.take_length]);have e2:Txt.slice left (some (left.length:Int)) none≠("," : Str):=λe=>by
   have:=iK left left.length;rw[e,bL,List.drop_length,comma] at this;cases this
  have e3:Txt.slice left (some ((left.length:Int)+1)) none=("" : Str):=jg (by
   refine(iK left (left.length+1)).trans ?_;rw[jI (by rw[<-bL];omega)];rfl)
  rw[e1];unfold b1v;rcases Ug left with⟨c,hn⟩|⟨c,hp⟩
  ·exact .inr ⟨by rw[zh c],hn⟩
  ·refine .inl ⟨_,_,hp,?_⟩;rw[zC (by rw[c];exact zk),zC (by rw[ZA e2];exact zk),e3]
 ·left;refine⟨p,r,h2,h1,?_⟩;have hl:left.length=p.length+(r.length+1):=by rw[bL,h1];simp
  rw[h3,zC (by rw[ZA (by omega)];exact zk)];have e1:cs (Txt.slice left none (some (p.length:Int)))=p:=by rw[sI (by omega),h1,kM]
  have e2:cs (Txt.slice left (some (p.length:Int)) none)=44::r:=by rw[iK,h1,kN]
  have e3:cs (Txt.slice left (some ((p.length:Int)+1)) none)=r:=by
   refine(iK left (p.length+1)).trans ?_;rw[h1,Bd]
  generalize Txt.slice left none (some (p.length:Int))=q at *
  unfold b1v;rcases Ug q with⟨c,hn⟩|⟨c,hp⟩
  ·rw[e1] at hn;exact .inr ⟨by rw[zh c],.inr hn⟩
  ·rw[e1] at hp;rw[zC (by rw[c];exact zk)];by_cases hr:r=[]
   ·refine .inr ⟨zh (QE (jg (by rw[e2,hr,comma]))),.inl hr⟩
   ·refine .inl ⟨_,_,_,hp,e3,hr,?_⟩;rw[zC];rw[ZA λe=>hr ?_]
    ·exact zk
    ·rw[e,comma] at e2;have e2:[44]=44::r:=e2;injection e2 with _ e2;exact e2.symm
theorem wV (q:Str×Str) (qs:List (Str×Str)):bl (q::qs)=(32::(cs q.1++32::cs q.2))++(if qs=[] then[] else 44::bl qs):=by
 cases qs with
 |nil=>rw[zh rfl];simp[bl,Ht]
 |cons p ps=>rw[zC (by simp)];simp[bl,Ht]
theorem afC {us:List (Str×Str)} (h:bl us=[]):us=[]:=by
 cases us with
 |nil=>rfl
 |cons q qs=>cases h
theorem zT:∀ us:List (Str×Str),us.length<=(bl us).count 44+1
 |[]=>qi _
 |q::qs=>by
  have:=zT qs;rw[wV,qk,Zp];by_cases h:qs=[]
  ·subst h;simp
  ·rw[zC h,KA];omega
abbrev LP (n:Nat) (s:St):jJ St (Option bM):=Rh (λs1:(List cR)×Str=>(!decide (s1.2=("" : Str)))) (λs1:(List cR)×Str=>((bf s1):jJ ((List cR)×Str) (Option bM))) n s
theorem Hx (ws:List cR):∀ n,LP n (ws, "")=.nx (ws, "")
 |0=>rfl
 |n+1=>rfl
theorem Lz {n:Nat} {ws:List cR} {left:Str} (h:left≠("" : Str)):LP (n+1) (ws,left)=(match (bf (ws,left):jJ St (Option bM)) with
  |.nx s'=>LP n s'
  |.ct s'=>LP n s'
  |.bk s'=>.nx s'
  |.rt r=>.rt r):=by
 show Rh _ _ (n+1) (ws,left)=_;rw[Rh,zh (show(!decide (left=("" : Str)))=true by rw[ZA h];rfl)];generalize bf (ws,left)=c;cases c<;>rfl
theorem RV {s:Str} (h:cs s=[]):s=("" : Str):=jg (h.trans rfl)
theorem wg {p:List Nat} {c:Nat} (h:c∉p):p.count c=0:=List.count_eq_zero.mpr h
theorem yE:∀ (n:Nat) (ws:List cR) (left:Str) (s':St),LP n (ws,left)=.nx s'->(cs left).count 44 < n->∃ us,s'.1=ws++us/\cs left=bl us
 |0,_,_,_,_,h=>absurd h (KB _)
 |n+1,ws,left,s',e,h=>by
  by_cases hl:left=("" : Str)
  ·subst hl;rw[Hx] at e;cases e;exact⟨[],by simp,rfl⟩
  rw[Lz hl] at e;rcases Qa ws left with⟨p,r,hp,hpr,⟨f,w,l',po,el,hr,et⟩|⟨et,_⟩⟩|⟨hc,⟨f,w,po,et⟩|⟨et,_⟩⟩
  ·rw[et] at e;rw[hpr,qk,wg hp,KA] at h;obtain⟨us,h1,h2⟩:=yE n _ l' s' e (by rw[el];omega);refine⟨(f,w)::us,by rw[h1];simp,?_⟩;rw[wV,zC (λz=>hr (by rw[<-el,h2,z];rfl)),<-h2,el,hpr,po.1]
  ·rw[et] at e;cases e
  ·rw[et] at e;have e:LP n (ws++[(f,w)], "")=.nx s':=e;rw[Hx] at e;cases e;refine⟨[(f,w)],rfl,?_⟩;rw[wV,zh rfl,qA,po.1]
  ·rw[et] at e;cases e
theorem Ed:∀ (n:Nat) (ws:List cR) (left:Str) (r:Option bM),LP n (ws,left)=.rt r->r=none
 |0,_,_,_,e=>by cases e
 |n+1,ws,left,r,e=>by
  by_cases hl:left=("" : Str)
  ·subst hl;rw[Hx] at e;cases e
  rw[Lz hl] at e;rcases Qa ws left with⟨p,r,hp,hpr,⟨f,w,l',po,el,hr,et⟩|⟨et,_⟩⟩|⟨hc,⟨f,w,po,et⟩|⟨et,_⟩⟩
  ·rw[et] at e;exact Ed n _ l' _ e
  ·rw[et] at e;cases e;rfl
  ·rw[et] at e;exact Ed n _ _ _ e
  ·rw[et] at e;cases e;rfl
theorem yc:∀ (us ws:List cR) (left:Str) (n:Nat),cs left=bl us->(∀ u∈us,32∉cs u.1/\44∉cs u.1/\44∉cs u.2)->us.length < n->LP n (ws,left)=.nx (ws++us, "")
 |[],ws,left,n,h,_,_=>by
  rw[RV h,Hx,qA]
 |u::us,ws,left,0,_,_,hn=>absurd hn (KB _)
 |u::us,ws,left,n+1,h,hu,hn=>by
  have hl:left≠("" : Str):=λz=>by rw[z,wV] at h;cases h
  rw[Zp] at hn;rw[Lz hl];obtain⟨u1,u2,u3⟩:=hu u (zo ..);have h44:44∉32::(cs u.1++32::cs u.2):=λz=>by
   rcases List.mem_cons.mp z with z|z
   ·cases z
   ·rcases List.mem_append.mp z with z|z
    ·exact u2 z
    ·rcases List.mem_cons.mp z with z|z
     ·cases z
     ·exact u3 z
  have po:∀ {f w:Str},PO (32::(cs u.1++32::cs u.2)) (cs f) (cs w)->(f,w)=u:=λ{f w} z=>by
   obtain⟨z1,z2⟩:=z;injection z1 with _ z1;obtain⟨a,b⟩:=yu u1 z2 z1;rw[<-jg a,<-jg b]
  have has:PO (32::(cs u.1++32::cs u.2)) (cs u.1) (cs u.2):=⟨rfl,u1⟩;rw[wV] at h;by_cases hus:us=[]
  ·subst hus;rw[zh rfl,qA] at h;rcases Qa ws left with⟨p,r,hp,hpr,_⟩|⟨hc,⟨f,w,q,et⟩|⟨et,q⟩⟩
   ·rw[hpr] at h;exact absurd (by rw[<-h];simp) h44
   ·rw[h] at q;rw[et,po q];exact Hx _ _
   ·rw[h] at q;exact absurd has (q _ _)
  ·rw[zC hus] at h;rcases Qa ws left with⟨p,r,hp,hpr,q⟩|⟨hc,_⟩
   ·rw[hpr] at h;obtain⟨e1,e2⟩:=yu hp h44 h;subst e1 e2;rcases q with⟨f,w,l',q,el,hr,et⟩|⟨et,q⟩
    ·rw[et,po q];show LP n (ws++[u],l')=_;rw[yc us (ws++[u]) l' n el (λv hv=>hu v (zr _ hv)) (by omega)];simp
    ·rcases q with q|q
     ·exact absurd (afC q) hus
     ·exact absurd has (q _ _)
   ·exact absurd (by rw[h];simp) hc
theorem Z8:∀ (n:Nat) (ws:List cR) (left:Str),(cs left).count 44+1 < n->ws.length+n<=2000->whD (λs1:(List cR)×Str=>(!decide (s1.2=("" : Str)))) (λs1:(List cR)×Str=>none) (λs1:(List cR)×Str=>((bf s1):jJ ((List cR)×Str) (Option bM))) (λs1:(List cR)×Str=>some (kW s1)) n (ws,left)
 |0,_,_,h,_=>absurd h (KB _)
 |n+1,ws,left,h,hn=>by
  rw[whD];refine⟨trivial,λ_=>⟨λ_=>zI (show ws.length<=2000 by omega) (by decide),?_⟩⟩;have hb:=Qa ws left;generalize bf (ws,left)=c at hb ⊢;rcases hb with⟨p,r,hp,hpr,⟨f,w,l',po,el,hr,et⟩|⟨et,_⟩⟩|⟨hc,⟨f,w,po,et⟩|⟨et,_⟩⟩
  ·rw[et];rw[hpr,qk,wg hp,KA] at h;exact Z8 n _ l' (by rw[el];omega) (by rw[zt,ZY];omega)
  ·rw[et];trivial
  ·rw[et];obtain⟨m,rfl⟩:∃ m,n=m+1:=⟨n - 1,by omega⟩;show whD _ _ _ _ (m+1) _;rw[whD];exact⟨trivial,λz=>by cases z⟩
  ·rw[et];trivial
def pr (q:Str×Str):LS_:=[q.1,q.2]
theorem Z9 (n:Str) (ws:List cR):jO (n,ws.map pr)=bO (n,ws):=by
 show Dt.tup [.str n,.tup ((ws.map pr).map (eT eS))]=Dt.tup [.str n,.tup (ws.map (zV eS eS))];rw[QI];rfl
theorem Wm {x:Str} {c:Nat} (h:c∈cs x):(Dt.str ⟨#[c]⟩)∈vG (.str x):=KG (f:=λc=>Dt.str ⟨#[c]⟩) h
theorem in_str {c:Nat} {s:Str} (h:Bh ⟨#[c]⟩ s=true):c∈cs s:=by
 unfold Bh at h;rcases StrLaws.occ_head s ⟨#[c]⟩ 1 (zi 1) with⟨h0,hn⟩|⟨i,r,h0,hi,_⟩
 ·rw[h0] at h;cases h
 ·exact(mem_iff_at s c).mpr ⟨i,hi⟩
theorem Uh {x ls:Str} {n:Int} (h:fB (.str x) ls n=true):1<=x.length/\(x.length:Int)<=n/\∀ c∈cs x,c∈cs ls:=by
 unfold fB at h;simp only[ZE,k9] at h;obtain⟨_,⟨h1,h2⟩,h3⟩:=h;have h1:(1:Int)<=(x.length:Int):=jb h1;have h2:(x.length:Int)<=n:=jb h2;refine⟨by omega,h2,λc hc=>?_⟩;have h4:id (Bh (FW (Dt.str ⟨#[c]⟩)) ls)=true:=h3 _ (List.mem_map.mpr ⟨_,Wm hc,rfl⟩);exact in_str h4
theorem Ui {x:Str} (h:gP (.str x)=true):Nm x:=by
 obtain⟨h1,h2,h3⟩:=Uh (ls:=LT) (n:=8) h;exact⟨h1,by omega,λc hc=>adl c (h3 c hc)⟩
theorem ahM:∀ c∈cs (("abcdefghijklmnopqrstuvwxyz" : Str)++("0123456789" : Str)),Wd c:=by unfold Wd Lw;decide +kernel
theorem acG {x:Str} (h:nq (.str x)=true):Wo x:=by
 obtain⟨h1,h2,h3⟩:=Uh (ls:=("abcdefghijklmnopqrstuvwxyz" : Str)++("0123456789" : Str)) (n:=12) h;exact⟨h1,by omega,λc hc=>ahM c (h3 c hc)⟩
theorem JM {n:Str} {ds:List Dt} (h:eE (.tup [.str n,.tup ds])=true):Nm n/\∀ d∈ds,aX d=true:=by
 unfold eE at h;simp only[ZE,Ot,Ou] at h;obtain⟨_,h1,h2⟩:=h;refine⟨Ui h1,λd hd=>?_⟩;unfold nY at h2;split at h2
 ·cases h2
 ·rename_i hq;simp only[kK,not_or,kR,Bool.not_eq_true,Bool.not_eq_false] at hq;exact RT hq.2 d hd
theorem ado {l:LS_} (h:aX (eT eS l)=true):∃ q:Str×Str,l=pr q/\Nm q.1/\Wo q.2:=by
 have h':=h;unfold aX at h;simp only[ZE] at h;obtain⟨a,b,e⟩:=Hw h.1
 match l,e with
 |[x,y],e=>
  refine⟨(x,y),rfl,?_,?_⟩
  ·exact Ui h.2.1
  ·exact acG h.2.2
theorem afD {q:Str×Str} (h:aX (zV eS eS q)=true):Nm q.1/\Wo q.2:=by
 obtain⟨p,e,h1,h2⟩:=ado (l:=[q.1,q.2]) h;injection e with e1 e2;injection e2 with e2 _;rw[e1,e2];exact⟨h1,h2⟩
theorem Uj {n:Str} {ws:List cR} (h:eE (bO (n,ws))=true):Nm n/\∀ q∈ws,Nm q.1/\Wo q.2:=by
 obtain⟨h1,h2⟩:=JM (ds:=ws.map (zV eS eS)) h;exact⟨h1,λq hq=>afD (h2 _ (KG hq))⟩
def PF (N R:Str):Option Zo:=(if(!(decide (R.length≠0)))=true then(if(eE (jO (N,[])))=true then(some (N,[])) else none) else(if(decide ((ch R (0:Int))=(" " : Str)))=true then(if(eE (jO (N,((Txt.split (Txt.slice R (some (1:Int)) none) (", " : Str)).map λvy:Str=>(Txt.split vy (" " : Str))))))=true then(some (N,((Txt.split (Txt.slice R (some (1:Int)) none) (", " : Str)).map λvy:Str=>(Txt.split vy (" " : Str))))) else none) else none))
theorem sl1 {R:Str} {r:List Nat} (h:cs R=32::r):cs (Txt.slice R (some (1:Int)) none)=r:=by
 refine(iK R 1).trans ?_;rw[h];rfl
theorem ch0 {R:Str} {c:Nat} {r:List Nat} (h:cs R=c::r):ch R (0:Int)=⟨#[c]⟩:=by
 show(⟨#[at' (cs R) ((0:Nat):Int)]⟩:Str)=_;rw[KD (xs:=cs R) (k:=0) (x:=c) (by rw[h];rfl)]
theorem Qc {N R:Str} {ws:List cR} (h:cs R=bl ws) (hr:eE (bO (N,ws))=true):PF N R=some (N,ws.map pr):=by
 obtain⟨_,hw⟩:=Uj hr;unfold PF;cases ws with
 |nil=>
  rw[RV (s:=R) h,zh (by rfl)];have hr:eE (jO (N,[]))=true:=hr;rw[zh hr];rfl
 |cons q qs=>
  have e1:cs R=32::cs (Txt.join ", " ((q::qs).map pc)):=by
   rw[h,<-ZR];unfold bd;rw[zC (by simp),dB,blank];rfl
  have e2:Txt.slice R (some (1:Int)) none=Txt.join ", " ((q::qs).map pc):=jg (sl1 e1);have e3:((q::qs).map pc).map (λvy:Str=>Txt.split vy (" " : Str))=(q::qs).map pr:=by
   rw[QI];exact QU λz hz=>ahG (hw z hz)
  have e4:R.length≠0:=by rw[bL,e1];simp
  rw[zC (by rw[QE e4];exact zk),ch0 e1,blank,zh (QE rfl),<-blank,e2,ahH hw,e3,Z9,zh hr]
theorem choose {l:LS_}:(∀ x∈l,∃ q:Str×Str,Txt.split x (" " : Str)=pr q/\Nm q.1/\Wo q.2)->∃ ws:List cR,l.map (λvy:Str=>Txt.split vy (" " : Str))=ws.map pr/\l=ws.map pc:=by
 induction l with
 |nil=>exact λ_=>⟨[],rfl,rfl⟩
 |cons x l ih=>
  intro h;obtain⟨ws,h1,h2⟩:=ih λy hy=>h y (zr _ hy);obtain⟨q,h3,_,_⟩:=h x (zo ..);refine⟨q::ws,by rw[zw,zw,h1,h3],?_⟩;rw[zw,<-h2];congr 1;refine jg ?_;have:=join_split x (" " : Str);rw[h3] at this;rw[<-this];show cs (Txt.join " " [q.1,q.2])=_;rw[wK,Ht,blank];simp[Hr]
theorem aac {N R:Str} {x:Zo} (h:PF N R=some x):∃ ws,x=(N,ws.map pr)/\cs R=bl ws/\eE (bO (N,ws))=true:=by
 unfold PF at h;split at h
 ·rename_i hR;split at h
  ·rename_i hr;cases h;refine⟨[],rfl,?_,hr⟩;have:R.length=0:=by simpa using hR
   rw[bL] at this;exact List.length_eq_zero_iff.mp this
  ·cases h
 ·rename_i hR;split at h;rotate_left
  ·cases h
  rename_i hc;split at h;rotate_left
  ·cases h
  rename_i hr;cases h;cases hq:cs R with
  |nil=>exact absurd (by rw[bL,hq];rfl) hR
  |cons c r=>
   have hc:=jb hc;rw[ch0 hq,blank] at hc;have hc:c=32:=by
    have:=congrArg (λs:Str=>cs s) hc;have:[c]=[32]:=this;injection this
   subst hc;have e1:=sl1 hq;generalize Txt.slice R (some (1:Int)) none=S at *
   have hw:=(JM (ds:=((Txt.split S (", " : Str)).map λvy:Str=>Txt.split vy (" " : Str)).map (eT eS)) hr).2;obtain⟨ws,h1,h2⟩:=choose (l:=Txt.split S (", " : Str)) λy hy=>ado (hw _ (KG (KG hy)));refine⟨ws,by rw[h1],?_,by rw[h1,Z9] at hr;exact hr⟩;have hj:=join_split S (", " : Str);rw[h2] at hj;have hn:ws≠[]:=λz=>by rw[z] at h2;exact Ow _ _ h2
   rw[<-e1,<-hj,<-ZR];unfold bd;rw[zC (by simpa using hn),dB,blank];rfl
def LF (N R:Str):Option bM:=behind (LP 1000 ([],R)) (λr=>r) λs1=>if(!(dZ (bO (N,s1.1))))=true then none else some (N,s1.1)
theorem aad {N:Str} {ws:List cR} (h:ws.length<=60):W2 (bO (N,ws)):=λa b e=>by
 have e:Dt.tup [.str N,.tup (ws.map (zV eS eS))]=.tup [a,b]:=e;cases e;show(ws.map (zV eS eS)).length<=60;rw[zz];exact h
theorem aae {N R:Str} {x:bM} (hc:(cs R).count 44<=59) (h:LF N R=some x):∃ ws,x=(N,ws)/\cs R=bl ws/\eE (bO (N,ws))=true:=by
 unfold LF at h;rcases wI (λs1:(List cR)×Str=>(!decide (s1.2=("" : Str)))) (λs1:(List cR)×Str=>((bf s1):jJ ((List cR)×Str) (Option bM))) 1000 ([],R) with⟨s',e⟩|⟨r,e⟩
 ·have e:LP 1000 ([],R)=.nx s':=e;obtain⟨us,e1,e2⟩:=yE 1000 [] R s' e (by omega);rw[e] at h;have h:(if(!(dZ (bO (N,s'.1))))=true then none else some (N,s'.1))=some x:=h;rw[e1,QY] at h;have hl:=zT us;rw[<-e2] at hl;rw[(Ly (bO (N,us)) (aad (by omega))).2] at h;split at h
  ·cases h
  ·rename_i hr;cases h;exact⟨us,rfl,e2,by simpa using hr⟩
 ·have e:LP 1000 ([],R)=.rt r:=e;rw[e] at h;have h:r=some x:=h;rw[Ed _ _ _ _ e] at h;cases h
theorem Qd {N R:Str} {ws:List cR} (hc:(cs R).count 44<=59) (h:cs R=bl ws) (hr:eE (bO (N,ws))=true):LF N R=some (N,ws):=by
 obtain⟨_,hw⟩:=Uj hr;have hl:=zT ws;rw[<-h] at hl;have e:=yc ws [] R 1000 h (λu hu=>by
  obtain⟨h1,h2⟩:=hw u hu;refine⟨λz=>?_,λz=>?_,λz=>?_⟩
  ·have:=h1.2.2 _ z;unfold Lw at this;omega
  ·have:=h1.2.2 _ z;unfold Lw at this;omega
  ·have:=h2.2.2 _ z;unfold Wd Lw at this;omega) (by omega)
 unfold LF;rw[e];show(if(!(dZ (bO (N,[]++ws))))=true then none else some (N,[]++ws))=_;rw[QY,(Ly (bO (N,ws)) (aad (by omega))).2,hr];rfl
theorem ahN (N R:Str) (hc:(cs R).count 44<=59):((PF N R).map λr=>(r.1,jO r))=(LF N R).map λr=>(r.1,bO r):=by
 cases hp:PF N R with
 |some x=>
  obtain⟨ws,rfl,h2,h3⟩:=aac hp;rw[Qd hc h2 h3];show some (N,jO (N,ws.map pr))=some (N,bO (N,ws));rw[Z9]
 |none=>
  cases hl:LF N R with
  |none=>rfl
  |some x=>
   obtain⟨ws,rfl,h2,h3⟩:=aae hc hl;rw[Qc h2 h3] at hp;cases hp
structure Bt (t:Str):Prop where
 l:t.length<=3000
 c:(cs t).count 44<=59
theorem JN (t:Str):bQ t=behind (LP 1000 ([],Txt.slice t (some (Txt.find t (":" : Str)+(1:Int))) none)) (λr=>r) (λs1=>if((decide (Txt.find t (":" : Str) < (0:Int)))||(!(dZ (bO (Txt.slice t none (some (Txt.find t (":" : Str))),s1.1)))))=true then none else some (Txt.slice t none (some (Txt.find t (":" : Str))),s1.1)):=rfl
def Mf (l:Str):Option (Str×Dt):=(bQ l).map λr=>(r.1,bO r)
theorem aaf {t:Str} {n l:List Nat} (h:cs t=n++58::l):cs (Txt.slice t none (some (n.length:Int)))=n/\cs (Txt.slice t (some ((n.length:Int)+1)) none)=l:=by
 constructor
 ·rw[sI (by rw[bL,h];simp),h,kM]
 ·refine(iK t (n.length+1)).trans ?_;rw[h,Bd]
theorem adp {t:Str} (h:Bt t):rdP t=Mf t:=by
 unfold rdP Mf;rcases K1 t 58 with⟨h1,h2⟩|⟨n,l,h1,h2,h3⟩
 ·have e1:dH t=none:=by
   unfold dH;rw[colon];dsimp only;rw[Jy h2];rfl
  have e2:bQ t=none:=by
   rw[JN,colon,h1];rcases wI (λs1:(List cR)×Str=>(!decide (s1.2=("" : Str)))) (λs1:(List cR)×Str=>((bf s1):jJ ((List cR)×Str) (Option bM))) 1000 ([],Txt.slice t (some ((-1:Int)+(1:Int))) none) with⟨s',e⟩|⟨r,e⟩
   ·have e:LP 1000 ([],Txt.slice t (some ((-1:Int)+(1:Int))) none)=.nx s':=e;rw[e];rfl
   ·have e:LP 1000 ([],Txt.slice t (some ((-1:Int)+(1:Int))) none)=.rt r:=e;rw[e];exact Ed _ _ _ _ e
  rw[e1,e2];rfl
 ·obtain⟨c1,c2⟩:=aaf h1;have hc:=h.c;rw[h1,qk,List.count_cons] at hc;have e2:bQ t=LF (Txt.slice t none (some (n.length:Int))) (Txt.slice t (some ((n.length:Int)+1)) none):=by
   rw[JN,colon,h3,ZA (by omega)];rfl
  have et:t=Txt.slice t none (some (n.length:Int))++(⟨#[58]⟩++Txt.slice t (some ((n.length:Int)+1)) none):=jg (by
   rw[dB,dB,c1,c2,h1];rfl)
  have e1:dH t=PF (Txt.slice t none (some (n.length:Int))) (Txt.slice t (some ((n.length:Int)+1)) none):=by
   have ep:=T6 (a:=Txt.slice t none (some (n.length:Int))) (b:=Txt.slice t (some ((n.length:Int)+1)) none) (c:=58) (by rw[c1];exact h2);rw[<-et] at ep;unfold dH;rw[colon,ep];rfl
  rw[e1,e2];refine ahN _ _ ?_;rw[c2];omega
theorem aag {y q:Str}:∀ {l:LS_},q∈l->(cs q).Sublist (cs (Txt.join y l)):=λ{l} h=>by
 cases l with
 |nil=>cases h
 |cons p ps=>
  rw[wK];rcases List.mem_cons.mp h with rfl|h
  ·exact List.sublist_append_left ..
  ·refine List.Sublist.trans ?_ (ky ..)
   induction ps with
   |nil=>cases h
   |cons r rs ih=>
    rw[kq];rcases List.mem_cons.mp h with rfl|h
    ·exact(ky ..).trans (List.sublist_append_left ..)
    ·exact(ih (zr _ h) h).trans (ky ..)
theorem JQ {t y q:Str} (h:q∈Txt.split t y):(cs q).Sublist (cs t):=by
 have:=aag (y:=y) h;rwa [join_split] at this
theorem LC {t q:Str} (h:Bt t) (s:(cs q).Sublist (cs t)):Bt q:=⟨by
 have:=s.length_le;rw[<-bL,<-bL] at this;exact zI this h.l,zI (s.count_le 44) h.c⟩
theorem BZ {t y:Str} {c:Nat} (hy:(cs y).count c=1):(Txt.split t y).length<=(cs t).count c+1:=by
 have h:=cnt_join c y (Txt.split t y) (Ow t y);rw[join_split,hy] at h;have:=Zm (λq:Str=>(cs q).count c+1) 1 (Txt.split t y) λq _=>Nat.le_add_left ..;omega
theorem Hy {t:Str} (h:Bt t):mF t:=by
 have hp:(Txt.partition t (":" : Str)).2.2.length<=3000/\(cs (Txt.partition t (":" : Str)).2.2).count 44<=59\/(!(decide ((Txt.partition t (":" : Str)).2.1.length≠0)))=true:=by
  rcases K1 t 58 with⟨h1,h2⟩|⟨n,l,h1,h2,h3⟩
  ·right;rw[colon,Jy h2];rfl
  ·left;obtain⟨c1,c2⟩:=aaf h1;have et:t=Txt.slice t none (some (n.length:Int))++(⟨#[58]⟩++Txt.slice t (some ((n.length:Int)+1)) none):=jg (by
    rw[dB,dB,c1,c2,h1];rfl)
   have ep:=T6 (a:=Txt.slice t none (some (n.length:Int))) (b:=Txt.slice t (some ((n.length:Int)+1)) none) (c:=58) (by rw[c1];exact h2);rw[<-et] at ep;rw[colon,ep];have:(cs (Txt.slice t (some ((n.length:Int)+1)) none)).Sublist (cs t):=by
    rw[c2,h1];exact(List.sublist_cons_self ..).trans (ky ..)
   exact⟨(LC h this).l,(LC h this).c⟩
 have w2:∀ (n:Str) (l:List LS_),l.length<=60->W2 (jO (n,l)):=λn l hl a b e=>by
  have e:Dt.tup [.str n,.tup (l.map (eT eS))]=.tup [a,b]:=e;cases e;show(l.map (eT eS)).length<=60;rw[zz];exact hl
 unfold mF;refine⟨by decide +kernel,?_⟩;dsimp only;intro hq;rcases hp with⟨hp,hc⟩|hp;rotate_left
 ·rw[hq] at hp;cases hp
 generalize (Txt.partition t (":" : Str)).2.2=R at *
 generalize (Txt.partition t (":" : Str)).1=N at *
 refine⟨λ_=>adn _ (w2 _ _ (by simp)),λhR=>⟨in_of (by decide) ?_,λ_=>?_⟩⟩
 ·have:R.length≠0:=by simpa using hR
  omega
 ·have hs:=slice_le R (some 1) none;have hsub:(cs (Txt.slice R (some (1:Int)) none)).Sublist (cs R):=by
   have:=iK R 1;rw[show(some ((1:Nat):Int))=some (1:Int) from rfl] at this;rw[this];exact List.drop_sublist ..
  have hk:=BZ (t:=Txt.slice R (some (1:Int)) none) (y:=(", " : Str)) (c:=44) (by decide +kernel);have hk2:=hsub.count_le 44;refine⟨⟨⟨⟨by decide +kernel,by omega⟩,by omega⟩,λv hv=>⟨by decide +kernel,?_⟩⟩,adn _ (w2 _ _ (by rw[zz];omega))⟩;have:=(JQ hv).length_le;rw[<-bL,<-bL] at this;omega
theorem Qe {t:Str} (h:Bt t):mH t:=by
 have key:∀ R:Str,(cs R).Sublist (cs t)->∀ N:Str,∀ c:Bool,whD (λs1:(List cR)×Str=>(!decide (s1.2=("" : Str)))) (λs1:(List cR)×Str=>none) (λs1:(List cR)×Str=>((bf s1):jJ ((List cR)×Str) (Option bM))) (λs1:(List cR)×Str=>some (kW s1)) 1000 ([],R)/\tO (LP 1000 ([],R)) λs1=>c=false->mG (bO (N,s1.1)):=λR hs N c=>by
  have hc:=(LC h hs).c;refine⟨Z8 1000 [] R (by omega) (by decide),?_⟩;rcases wI (λs1:(List cR)×Str=>(!decide (s1.2=("" : Str)))) (λs1:(List cR)×Str=>((bf s1):jJ ((List cR)×Str) (Option bM))) 1000 ([],R) with⟨s',e⟩|⟨r,e⟩
  ·have e:LP 1000 ([],R)=.nx s':=e;obtain⟨us,e1,e2⟩:=yE 1000 [] R s' e (by omega);rw[e];intro _;have hl:=zT us;rw[<-e2] at hl;rw[e1,QY];exact(Ly (bO (N,us)) (aad (by omega))).1
  ·have e:LP 1000 ([],R)=.rt r:=e;rw[e];trivial
 refine key (Txt.slice t (some (Txt.find t (":" : Str)+(1:Int))) none) ?_ (Txt.slice t none (some (Txt.find t (":" : Str)))) _;obtain⟨k,hk⟩:∃ k:Nat,Txt.find t (":" : Str)+(1:Int)=(k:Int):=by
  have:=find_geG t (":" : Str);exact⟨(Txt.find t (":" : Str)+1).toNat,by omega⟩
 rw[hk,iK];exact List.drop_sublist ..
theorem Qf {f g:Str->Option (Str×Dt)}:∀ (ls:LS_) (k:Nat) (seen:LS_) (out:List Dt),(∀ l∈ls,f l=g l)->Ma f k seen out ls=Ma g k seen out ls
 |[],_,_,_,_=>rfl
 |l::ls,k,seen,out,h=>by
  rw[Ma,Ma,h l (zo ..)];cases g l with
  |none=>rfl
  |some q=>
   dsimp only;rw[Qf ls (k+1) (seen++[q.1]) (out++[q.2]) λz hz=>h z (zr _ hz)]
theorem Qg:∀ (ls:LS_) (k:Nat) (seen:LS_) (acc:List bM),(∃ i:Int,Ma Mf k seen (acc.map bO) ls=zV eS eI (("refused" : Str),i))\/∃ rows:List bM,Ma Mf k seen (acc.map bO) ls=zV eS (eT bO) (("told" : Str),rows)
 |[],k,seen,acc=>.inr ⟨acc,rfl⟩
 |l::ls,k,seen,acc=>by
  cases hr:bQ l with
  |none=>
   have er:Mf l=none:=by unfold Mf;rw[hr];rfl
   rw[Ma,er];exact .inl ⟨_,rfl⟩
  |some r=>
   have er:Mf l=some (r.1,bO r):=by unfold Mf;rw[hr];rfl
   rw[Ma,er];dsimp only;by_cases hm:r.1∈seen
   ·rw[zh hm];exact .inl ⟨_,rfl⟩
   ·rw[zC hm];have:=Qg ls (k+1) (seen++[r.1]) (acc++[r]);rw[qf] at this;exact this
theorem wW {α:Type} [DecidableEq α] {e:α->Dt} {n:Nat} [Eqs e n] (hn:n<=50) (x:α):DP (e x) (e x)=true/\VB (e x) (e x):=by
 have h:=Eqs.eq (e:=e) x x;rw[QE rfl] at h;have d:=Eqs.dp (e:=e) x;exact⟨by unfold DP;rw[h];rfl,by rw[h];rfl,by omega⟩
theorem Qh (vl:LS_):∀ (ls:LS_) (k:Nat) (acc:List bM),vl.drop k=ls->(∀ l∈ls,Bt l)->acc.length+ls.length<=5000 →
  behind (nU (λ(v9:List bM) (v5:Int)=>((fG vl v9 v5):jJ (List bM) Dt)) ((List.range' k ls.length).map λi:Nat=>(i:Int)) acc) (λr=>r) (λv9:List bM=>(Dt.tup [(Dt.str "told"),((eT bO) v9)]))=Ma Mf k (acc.map (·.1)) (acc.map bO) ls ∧
  qG (λ(v9:List bM) (v5:Int)=>((fG vl v9 v5):jJ (List bM) Dt)) (λ(v9:List bM) (v5:Int)=>some (mJ vl v9 v5)) ((List.range' k ls.length).map λi:Nat=>(i:Int)) acc
 |[],k,acc,_,_,_=>⟨rfl,trivial⟩
 |l::ls,k,acc,hk,hb,hl=>by
  rw[Zp] at hl;have hkl:k < vl.length:=by
   have:=congrArg List.length hk;rw[ZU,Zp] at this;omega
  have ha:at' vl (k:Int)=l:=KD (by
   have:=List.getElem?_drop (xs:=vl) (i:=k) (j:=0);rw[hk] at this;exact this.symm)
  have hk':vl.drop (k+1)=ls:=by rw[<-Q4,hk];rfl
  have dl:=Qe (hb l (zo ..));have fit:uR acc.length:=zI (show acc.length<=5000 by omega) (by decide);have D1:mJ vl acc (k:Int):=by
   unfold mJ;rw[ha];refine⟨⟨YF hkl,dl⟩,?_⟩;dsimp only;cases hr:bQ l with
   |none=>exact⟨(λz=>by cases z),λz=>by cases z⟩
   |some r=>exact⟨λ_=>⟨rfl,by omega⟩,λ_=>⟨rfl,fit⟩⟩
  rw[Zp,List.range'_succ,zw,nU,qG,Ma];have T1:(fG vl acc (k:Int):jJ (List bM) Dt)=match Mf l with
    |none=>.rt (.tup [.str "refused", .int (k:Nat)])
    |some q=>if q.1∈acc.map (·.1) then .rt (.tup [.str "refused", .int (k:Nat)]) else .nx (acc++[(bQ l).getD default]):=by
   unfold fG Mf;rw[ha];dsimp only;cases hr:bQ l with
   |none=>rfl
   |some r=>
    show(if(false||decide (r.1∈acc.map λx=>x.1))=true then _ else _)=(if r.1∈acc.map (·.1) then _ else _);by_cases hm:r.1∈acc.map (·.1)
    ·rw[zh hm,zh (by rw[QE hm];rfl)]
    ·rw[zC hm,zC (by rw[ZA hm];exact zk)]
  cases hr:bQ l with
  |none=>
   have er:Mf l=none:=by unfold Mf;rw[hr];rfl
   rw[er] at T1 ⊢;rw[T1];exact⟨rfl,D1,trivial⟩
  |some r=>
   have er:Mf l=some (r.1,bO r):=by unfold Mf;rw[hr];rfl
   rw[er,hr] at T1;rw[er];dsimp only at T1 ⊢;by_cases hm:r.1∈acc.map (·.1)
   ·rw[zh hm] at T1;rw[zh hm,T1];exact⟨rfl,D1,trivial⟩
   ·rw[zC hm] at T1;rw[zC hm,T1];have ih:=Qh vl ls (k+1) (acc++[r]) hk' (λz hz=>hb z (zr _ hz)) (by rw[zt,ZY];omega);rw[qf,qf] at ih;exact⟨ih.1,D1,ih.2⟩
theorem JR (n:Nat):rng 0 n=(List.range' 0 n).map λi:Nat=>(i:Int):=by
 unfold rng;rw[List.range_eq_range'];exact QU λi _=>Int.zero_add _
theorem both {t:Str} (h:Bt t):(gR t/\sU t)/\VB (aW t) (cP t)/\DP (aW t) (cP t)=true:=by
 have hl:=h.l;have n1:("\n" : Str).length=1:=by decide +kernel
 have D2:ur t:=⟨(λz=>by cases z),λ_ _=>⟨by rw[n1];rfl,by omega⟩⟩;have shape:∀ x,x=cP t->((∃ i:Int,x=zV eS eI (("refused" : Str),i))\/∃ rows:List bM,x=zV eS (eT bO) (("told" : Str),rows))->VB x (cP t)/\DP x (cP t)=true:=λx e hx=>by
  rw[<-e];rcases hx with⟨i,rfl⟩|⟨rows,rfl⟩
  ·exact(wW (e:=zV eS eI) (by decide) _).symm
  ·exact(wW (e:=zV eS (eT bO)) (by decide) _).symm
 by_cases he:t=("" : Str)
 ·subst he;have e0:dU ("" : Str)=[]:=rfl;refine⟨⟨⟨D2,λl hm=>by rw[e0] at hm;(cases hm),by rw[e0];decide⟩,λz=>by cases z⟩,shape _ ?_ ?_⟩
  ·unfold aW cP;rw[e0];rfl
  ·exact .inr ⟨[],by unfold aW;rw[e0];rfl⟩
 ·have hne:t.length≠0:=λz=>he (RV (List.length_eq_zero_iff.mp (by rw[<-bL];exact z)));have el:dU t=Txt.split t ("\n" : Str):=by
   unfold dU;rw[zC (by intro z;cases z),zh (QE hne)]
  have hb:∀ l∈Txt.split t ("\n" : Str),Bt l:=λl hm=>LC h (JQ hm);have hk:=BZ (t:=t) (y:=("\n" : Str)) (c:=10) (by decide +kernel);have hk2:(cs t).count 10<=t.length:=by rw[bL];exact List.count_le_length
  obtain⟨i1,i2⟩:=Qh (Txt.split t ("\n" : Str)) (Txt.split t ("\n" : Str)) 0 [] rfl hb (by rw[List.length_nil];omega);have ed:cP t=Ma Mf 0 [] [] (Txt.split t ("\n" : Str)):=by
   unfold cP;rw[zC (by rw[ZA he];exact zk)];dsimp only;rw[qS,JR];exact i1
  have ec:aW t=Ma Mf 0 [] [] (Txt.split t ("\n" : Str)):=by
   unfold aW;rw[el];exact Qf _ _ _ _ λl hm=>adp (hb l hm)
  refine⟨⟨⟨D2,by rw[el];exact λl hm=>Hy (hb l hm),by rw[el];omega⟩,λ_=>⟨⟨by decide +kernel,by omega⟩,?_⟩⟩,shape _ (by rw[ec,ed]) ?_⟩
  ·dsimp only;rw[qS,JR];refine⟨⟨zc (by omega) (by omega),i2⟩,?_⟩;cases(nU (λ(v9:List bM) (v5:Int)=>((fG (Txt.split t ("\n" : Str)) v9 v5):jJ (List bM) Dt)) ((List.range' 0 (Txt.split t ("\n" : Str)).length).map λi:Nat=>(i:Int)) [])<;>trivial
  ·rw[ec];exact Qg _ 0 [] []
theorem Hz {t:Str} (h:Bt t):fX t/\cY t=true:=by
 have e:=adp h;have s0:=wW (e:=zV eS eI) (by decide) (("refused" : Str),(0:Int));unfold rdP Mf at e;unfold fX cY;refine⟨⟨Qe h,?_⟩,?_⟩
 ·dsimp only;cases hl:bQ t with
  |none=>
   rw[hl] at e;have hp:dH t=none:=Option.map_eq_none_iff.mp e;refine⟨λ_=>⟨Hy h,?_⟩,λz=>by cases z⟩;unfold bW;rw[hp];exact s0.2
  |some r=>
   rw[hl] at e;refine⟨(λz=>by cases z),λ_=>⟨Hy h,?_⟩⟩;obtain⟨r',hp,er⟩:=Option.map_eq_some_iff.mp e;unfold bW;rw[hp];dsimp only;rw[show jO r'=bO r from congrArg Prod.snd er];exact(wW (e:=zV eS bO) (by decide) (("told" : Str),r)).2
 ·dsimp only;cases hl:bQ t with
  |none=>
   rw[hl] at e;have hp:dH t=none:=Option.map_eq_none_iff.mp e;rw[zh (by rfl)];unfold bW;rw[hp];exact s0.1
  |some r=>
   rw[hl] at e;rw[zC (by simp)];obtain⟨r',hp,er⟩:=Option.map_eq_some_iff.mp e;unfold bW;rw[hp];dsimp only;rw[show jO r'=bO r from congrArg Prod.snd er];exact(wW (e:=zV eS bO) (by decide) (("told" : Str),r)).1
theorem LK {α:Type} (f:α->Nat) (k:Nat):∀ l:List α,(∀ q∈l,f q<=k)->(l.map f).sum<=k * l.length
 |[],_=>qi _
 |q::l,h=>by
  have:=LK f k l λz hz=>h z (zr _ hz);have:=h q (zo ..);rw[zw,Kj,Zp,Nat.mul_succ];omega
theorem aah:∀ {ws:List (Str×Str)},(∀ q∈ws,Nm q.1/\Wo q.2)->(bl ws).count 44<=ws.length
 |[],_=>qi _
 |q::qs,h=>by
  have ih:=aah (ws:=qs) λz hz=>h z (zr _ hz);obtain⟨h1,h2⟩:=h q (zo ..);rw[wV,qk,List.count_cons_of_ne (by decide),qk,List.count_cons_of_ne (by decide),wg λz=>(by have:=h1.2.2 _ z;unfold Lw at this;omega),wg λz=>(by have:=h2.2.2 _ z;unfold Wd Lw at this;omega),Zp];split
  ·simp
  ·rw[KA];omega
theorem afE {r:Rw} (h:Pz r):(cs (rt r)).count 44<=8:=by
 rw[ZS,qk,List.count_cons_of_ne (by decide),wg λz=>(by have:=h.n.2.2 _ z;unfold Lw at this;omega)];have:=aah h.w;have:=h.l;omega
def Sm (t:Str):Prop:=t.length<=200/\(cs t).count 44<=8
theorem acH {l:LS_} (h:∀ t∈l,Sm t) (hl:l.length<=7):(l.map (·.length)).sum+l.length * ("\n" : Str).length<=100000/\(Txt.join "\n" l).length<=2000/\(cs (Txt.join "\n" l)).count 44<=56:=by
 have n1:("\n" : Str).length=1:=by decide +kernel
 have s1:=LK (λt:Str=>t.length) 200 l λt ht=>(h t ht).1;have h1:=StrLaws.join_length_le ("\n" : Str) l;rw[<-StrLaws.glued_eq_join] at h1;have h1:(Txt.join "\n" l).length<=_:=h1;rw[n1] at h1;refine⟨by rw[n1];omega,by omega,?_⟩;by_cases hn:l=[]
 ·subst hn;exact qi _
 ·have c:=cnt_join 44 ("\n" : Str) l hn;rw[show(cs ("\n" : Str)).count 44=0 by decide +kernel] at c;have s2:=LK (λq:Str=>(cs q).count 44+0) 8 l λt ht=>(h t ht).2;omega
theorem acI (x:Int):mK x/\(bR x).length=1:=by
 have e:(("abcdefghijklmnopqrstuvwxyz0123456789 ABCDEFGHIJKLMNOPQRSTUVWXYZ" : Str)++("!#$&'()*+,-./:;<=>?\x40[]^_`{|}~\"\\" : Str)).length=94:=by decide +kernel
 refine⟨⟨fP ?_,?_⟩,vH _ _⟩
 ·rw[d8] at e;omega
 ·rw[e];exact rO (by decide) (by decide)
theorem acJ {t:Str} (h:t.length<=1):(cs t).count 44<=1:=zI List.count_le_length (by rw[<-bL];exact h)
theorem RW (vc:List Int) (hc:vc.length=10) (sW:LS_) (hv:sW.length=16) (hs:∀ z∈sW,z.length<=9/\(cs z).count 44<=1) (vn:Str) (hn:vn.length<=2900) (k:Nat) (hk:k < 3) :
  fY vc sW vn k/\(cL vc sW vn k).length<=vn.length+9/\(cs (cL vc sW vn k)).count 44<=(cs vn).count 44+1:=by
 have i1:In vc.length ((1:Int)+((3:Int) * k)):=in_of (by omega) (by omega);have i2:In vc.length ((2:Int)+((3:Int) * k)):=in_of (by omega) (by omega);have i3:In vc.length ((3:Int)+((3:Int) * k)):=in_of (by omega) (by omega);unfold fY cL;dsimp only;generalize at' vc ((1:Int)+((3:Int) * k))=x1;generalize at' vc ((2:Int)+((3:Int) * k))=x2;generalize at' vc ((3:Int)+((3:Int) * k))=x3;obtain⟨d4,l4⟩:=acI (x2 / 24);have m1:=gZ x1 (m:=(vn.length:Int)+1) (by omega);obtain⟨n,hn1⟩:∃ n:Nat,x1 % ((vn.length:Int)+1)=(n:Int):=⟨(x1 % ((vn.length:Int)+1)).toNat,by omega⟩;have hn2:n<=vn.length:=by omega
 have lf:(List.replicate (8:Int).toNat [bR (x2 / 24)]).flatten.length=8:=rfl;have ll:(sW++(List.replicate (8:Int).toNat [bR (x2 / 24)]).flatten).length=24:=by rw[zt,lf,hv]
 have i4:In (sW++(List.replicate (8:Int).toNat [bR (x2 / 24)]).flatten).length (x2 % 24):=rO (by decide) (by rw[ll];decide);have hm:(at' (sW++(List.replicate (8:Int).toNat [bR (x2 / 24)]).flatten) (x2 % 24)).length<=9/\(cs (at' (sW++(List.replicate (8:Int).toNat [bR (x2 / 24)]).flatten) (x2 % 24))).count 44<=1:=by
  rcases List.mem_append.mp (tU i4) with z|z
  ·exact hs _ z
  ·obtain⟨w,hw,z⟩:=List.mem_flatten.mp z;rw[(List.mem_replicate.mp hw).2] at z;rw[List.mem_singleton.mp z];exact⟨by omega,acJ (by omega)⟩
 generalize at' (sW++(List.replicate (8:Int).toNat [bR (x2 / 24)]).flatten) (x2 % 24)=more at hm;have i5:In [("" : Str),more,more].length (x3 % 3):=rO (by decide) (KS 3);have i6:In [(1:Int),(0:Int),(1:Int)].length (x3 % 3):=rO (by decide) (by decide);have hm2:(at' [("" : Str),more,more] (x3 % 3)).length<=9/\(cs (at' [("" : Str),more,more] (x3 % 3))).count 44<=1:=by
  have:=tU i5;simp only[qv,qr,or_false] at this;rcases this with e|e|e<;>rw[e]
  ·exact⟨qi _,qi _⟩
  ·exact hm
  ·exact hm
 obtain⟨d,hd⟩:∃ d:Nat,at' [(1:Int),(0:Int),(1:Int)] (x3 % 3)=(d:Int):=by
  have:=tU i6;simp only[qv,qr,or_false] at this;rcases this with e|e|e<;>rw[e]
  ·exact⟨1,rfl⟩
  ·exact⟨0,rfl⟩
  ·exact⟨1,rfl⟩
 generalize at' [("" : Str),more,more] (x3 % 3)=mm at hm2;rw[hd,hn1];have s1:=slice_le vn none (some (n:Int));have s2:=slice_le vn (some ((n:Int)+(d:Int))) none;have c1:=sI hn2;have c2:cs (Txt.slice vn (some ((n:Int)+(d:Int))) none)=(cs vn).drop (n+d):=iK vn (n+d);refine⟨⟨⟨i1,by omega⟩,⟨⟨⟨⟨⟨i2,d4⟩,by decide,by decide,zg rfl⟩,fP (by rw[lf,hv];omega)⟩,i2⟩,i4⟩,⟨⟨⟨i3,i5⟩,zI (show _<=5000 by omega) (by decide)⟩,i3,i6⟩,zI (show _<=10000 by rw[d8];omega) (by decide)⟩,?_,?_⟩
 ·rw[d8,d8,bL (Txt.slice vn none (some (n:Int))),bL (Txt.slice vn (some ((n:Int)+(d:Int))) none),c1,c2,qB,ZU,<-bL];omega
 ·rw[dB,dB,c1,c2,qk,qk];have e1:((cs vn).take n).count 44+((cs vn).drop n).count 44=(cs vn).count 44:=by rw[<-qk,k6]
  have e2:((cs vn).drop (n+d)).count 44<=((cs vn).drop n).count 44:=by
   rw[<-Q4];exact(List.drop_sublist ..).count_le 44
  have:=hm2.2;omega
theorem RZ (S:LS_) (hL:S.length=16) (hS:∀ z∈S,z.length<=9/\(cs z).count 44<=1) (vn:Str) (vc:List Int) (hc:vc.length=10) (hn:vn.length<=2000):((In vc.length (0:Int)/\Rg ((1:Int)+((at' vc (0:Int)) % (3:Int))))/\yt (λ(vn:Str) (v5:Int)=>(cL vc S vn v5)) (λ(vn:Str) (v5:Int)=>some (fY vc S vn v5)) (rng 0 ((1:Int)+((at' vc (0:Int)) % (3:Int))).toNat) vn) ∧
  ((rng 0 ((1:Int)+((at' vc (0:Int)) % (3:Int))).toNat).foldl (λ(vn:Str) (v5:Int)=>(cL vc S vn v5)) vn).length<=vn.length+27/\(cs ((rng 0 ((1:Int)+((at' vc (0:Int)) % (3:Int))).toNat).foldl (λ(vn:Str) (v5:Int)=>(cL vc S vn v5)) vn)).count 44<=(cs vn).count 44+3:=by
 have m:=gZ (at' vc 0) (m:=3) (by decide);obtain⟨t1,t2,t3⟩:=pX (P:=λf k=>some (fY vc S f k)) (step:=λf k=>cL vc S f k) (λk (s:Str)=>s.length<=vn.length+9 * k/\(cs s).count 44<=(cs vn).count 44+k) (1+at' vc 0 % 3).toNat vn ⟨by omega,by omega⟩ λk s hk h=>by
  obtain⟨a,b,c⟩:=RW vc hc S hL hS s (by omega) k (by omega);exact⟨a,zI b (by omega),zI c (by omega)⟩
 exact⟨⟨⟨in_of (by decide) (by omega),zc (by omega) (by omega)⟩,t1⟩,by omega,by omega⟩
theorem JT (vn:Str) (vc:List Int) (hc:vc.length=10) (hn:vn.length<=2000):mL vn vc/\(d7 vn vc).length<=vn.length+27/\(cs (d7 vn vc)).count 44<=(cs vn).count 44+3:=RZ _ rfl (by decide +kernel) vn vc hc hn
theorem aai (vl:LS_) (vc:List Int) (hc:vc.length=14) (hl:vl.length<=6) (hs:∀ t∈vl,Sm t):nZ vl vc/\(dJ vl vc).length<=7/\∀ t∈dJ vl vc,Sm t:=by
 have ix:∀ j:Int,0<=j->j < 14->In vc.length j:=λj h0 h1=>in_of h0 (by omega);have m1:=gZ (at' vc 1) (m:=(vl.length:Int)+1) (by omega);obtain⟨n,hn⟩:∃ n:Nat,at' vc 1 % ((vl.length:Int)+1)=(n:Int):=⟨(at' vc 1 % ((vl.length:Int)+1)).toNat,by omega⟩;have hn2:n<=vl.length:=by omega
 have l1:=KH vl none (some (n:Int));have c1:(cut vl none (some (n:Int))).length+(cut vl (some (n:Int)) none).length=vl.length:=by
  rw[ae3 hn2,Gf hn2,qB,ZU];omega
 have se:Sm ("" : Str):=⟨qi _,qi _⟩;have sub:∀ a b t,t∈cut vl a b->Sm t:=λa b t h=>hs t (abX h);have two:∀ (a b:LS_),(∀ t∈a,Sm t)->(∀ t∈b,Sm t)->∀ t∈a++b,Sm t:=λa b h1 h2 t ht=>(List.mem_append.mp ht).elim (h1 t) (h2 t);unfold nZ dJ;dsimp only;rw[hn];generalize hx:at' vc 2 % (if(vl.length:Int) > (1:Int) then(vl.length:Int) else(1:Int))=x2;have hp:0 < (if(vl.length:Int) > (1:Int) then(vl.length:Int) else(1:Int)):=by split<;>omega
 have m2:=gZ (at' vc 2) hp;rw[hx] at m2;have l2:(cut vl (some x2) (some (x2+1))).length<=1:=by
  obtain⟨j,hj⟩:∃ j:Nat,x2=(j:Int):=⟨x2.toNat,by omega⟩;have e:(cut vl (some (j:Int)) (some ((j+1:Nat):Int))).length<=1:=by
   unfold cut;refine zI (List.length_take_le ..) ?_;rw[HT.yJ,HT.yJ];omega
  rw[hj];exact e
 have l3:=KH vl (some ((n:Int)+1)) none;refine⟨⟨⟨⟨ix 1 (by decide) (by decide),by omega⟩,ix 2 (by decide) (by decide),hp⟩,ix 0 (by decide) (by decide),λ_=>⟨fP (by omega),fP (by rw[zt];omega)⟩,λ_=>⟨ix 0 (by decide) (by decide),λ_=>fP (by omega),λ_=>⟨ix 0 (by decide) (by decide),λ_=>⟨fP (by rw[ZY];omega),fP (by rw[zt,ZY];omega)⟩⟩⟩⟩,?_,?_⟩
 ·split
  ·rw[zt,zt];omega
  ·split
   ·rw[zt];have:(cut vl (some ((n:Int)+1)) none).length<=vl.length:=l3;have l4:(cut vl (some ((n:Int)+1)) none).length<=(cut vl (some (n:Int)) none).length+1:=by
     have e:∀ j:Nat,(cut vl (some (j:Int)) none).length=vl.length - j:=λj=>by
      by_cases hj:j<=vl.length
      ·rw[Gf hj,ZU]
      ·unfold cut;rw[qB,ZU,HT.yJ,HT.Eo];omega
     have e1:=e (n+1);have e2:=e n;have e1:(cut vl (some ((n:Int)+1)) none).length=vl.length - (n+1):=e1;omega
    omega
   ·split
    ·rw[zt,zt,ZY];omega
    ·rw[List.length_reverse];omega
 ·split
  ·exact two _ _ (two _ _ (sub _ _) (sub _ _)) (sub _ _)
  ·split
   ·exact two _ _ (sub _ _) (sub _ _)
   ·split
    ·exact two _ _ (two _ _ (sub _ _) λt ht=>by rw[List.mem_singleton.mp ht];exact se) (sub _ _)
    ·exact λt ht=>hs t (List.mem_reverse.mp ht)
theorem HB {α:Type} {step:Unit->α->jJ Unit Bool} {P:Unit->α->Option Prop}:∀ (l:List α),(∀ x∈l,hold (P () x)/\step () x=.nx ())->nU step l ()=.nx ()/\qG step P l ()
 |[],_=>⟨rfl,trivial⟩
 |x::l,h=>by
  obtain⟨h1,h2⟩:=h x (zo ..);obtain⟨i1,i2⟩:=HB l λy hy=>h y (zr _ hy);rw[nU,qG,h2];exact⟨i1,h1,i2⟩
theorem ahO (vl:LS_) (hl:vl.length<=6) (hs:∀ t∈vl,Sm t) (c:Int):vZ vl () c/\(qt vl () c:jJ Unit Bool)=.nx ():=by
 obtain⟨d1,l1,_⟩:=Lr c 14 (by decide) (by decide);have l1:(aJ c 14).length=14:=l1;unfold vZ qt;dsimp only;refine⟨⟨d1,?_⟩,?_⟩<;>clear d1
 all_goals
  generalize aJ c 14=vc at *
  obtain⟨d2,l2,s2⟩:=aai vl vc l1 hl hs;have ahP:(cut vc (some (4:Int)) none).length=10:=by
   have:=Gf (xs:=vc) (k:=4) (by omega);refine(congrArg List.length (this:cut vc (some (4:Int)) none=_)).trans ?_;rw[ZU];omega
  have i2:In [vl,dJ vl vc].length (at' vc 3 % 2):=rO (by decide) (KS 2);have hv:(at' [vl,dJ vl vc] (at' vc 3 % 2)).length<=7/\∀ t∈at' [vl,dJ vl vc] (at' vc 3 % 2),Sm t:=by
   have:=tU i2;simp only[qv,qr,or_false] at this;rcases this with e|e<;>rw[e]
   ·exact⟨by omega,hs⟩
   ·exact⟨l2,s2⟩
  have m1:=gZ (at' vc 1) (m:=(vl.length:Int)+1) (by omega);have i4:In (vl++[("a: b 1, c 2" : Str)]).length (at' vc 1 % ((vl.length:Int)+1)):=in_of m1.1 (by rw[zt,ZY];omega);have ho:Sm (at' (vl++[("a: b 1, c 2" : Str)]) (at' vc 1 % ((vl.length:Int)+1))):=by
   rcases List.mem_append.mp (tU i4) with z|z
   ·exact hs _ z
   ·rw[List.mem_singleton.mp z];unfold Sm;decide +kernel
  generalize at' [vl,dJ vl vc] (at' vc 3 % 2)=sW at hv ⊢;generalize at' (vl++[("a: b 1, c 2" : Str)]) (at' vc 1 % ((vl.length:Int)+1))=one at ho ⊢;obtain⟨j1,j2,j3⟩:=acH hv.2 hv.1;have hcx:In vc.length (3:Int):=in_of (by decide) (by omega);generalize Txt.join "\n" sW=vn at *
  obtain⟨p1,p2,p3⟩:=JT vn (cut vc (some (4:Int)) none) ahP j2;obtain⟨o1,o2,o3⟩:=JT one (cut vc (some (4:Int)) none) ahP (by have:=ho.1;omega);have hb:Bt (if(decide ((0:Int) < (((at' vc (3:Int)) / (2:Int)) % (3:Int))))=true then(d7 vn (cut vc (some (4:Int)) none)) else vn):=by
   split
   ·exact⟨by omega,by omega⟩
   ·exact⟨by omega,by omega⟩
  have hb2:Bt (d7 one (cut vc (some (4:Int)) none)):=⟨by have:=ho.1;omega,by have:=ho.2;omega⟩;obtain⟨b1,b2,b3⟩:=both hb;obtain⟨r1,r2⟩:=Hz hb2
 ·refine⟨⟨⟨d2,hcx⟩,i2⟩,j1,⟨hcx,λ_=>p1⟩,⟨b1,b2⟩,λ_=>⟨⟨⟨⟨fP (by rw[ZY];omega),in_of (by decide) (by omega),by omega⟩,i4⟩,o1⟩,r1⟩⟩
 ·rw[b3,zC (by decide),r2,zC (by decide)]
theorem aaj {l:LS_} (h:∀ t∈l,t.length<=3000/\(cs t).count 44<=59) (v0:List Int) (hv:v0.length<=63) (v1:List bM) (vl:LS_) (hl:vl.length<=6) (hs:∀ t∈vl,Sm t) (hll:l.length<=100):Hj v0 v1 vl l/\zQ v0 v1 vl l=true:=by
 have hb:∀ t∈l,Bt t:=λt ht=>⟨(h t ht).1,(h t ht).2⟩;have ha:((l.map λvn:Str=>((DP (aW vn) (cP vn))&&(cY vn))).all id)=true:=by
  rw[List.all_map,k9];intro t ht;show((DP (aW t) (cP t))&&(cY t))=true;rw[(both (hb t ht)).2.2,(Hz (hb t ht)).2];rfl
 obtain⟨u1,u2⟩:=HB (step:=λ(s2:Unit) (v7:Int)=>((qt vl s2 v7):jJ (Unit) Bool)) (P:=λ(s2:Unit) (v7:Int)=>some (vZ vl s2 v7)) ([(aU v0 (8:Int))]++(cut v0 (some (9:Int)) (some (30:Int)))) λc _=>ahO vl hl hs c;have hc:=KH v0 (some (9:Int)) (some (30:Int));refine⟨⟨⟨by omega,λt ht=>⟨⟨(both (hb t ht)).1,(both (hb t ht)).2.1⟩,λ_=>(Hz (hb t ht)).1⟩⟩,λ_=>⟨⟨⟨RM v0 8 (by decide) (by decide),fP (by rw[ZY];omega)⟩,u2⟩,?_⟩⟩,?_⟩
 ·rw[u1];trivial
 ·unfold zQ;rw[ha,zC (by decide),u1];rfl
theorem adq:∀ d∈V3,bU d=false:=by
 intro d hd;unfold V3 at hd;simp only[qv,qr,or_false] at hd;rcases hd with rfl|rfl|rfl|rfl|rfl|rfl<;>rfl
theorem aak (ns:List Int) (hn:ns.length<=63):Uc ns/\Ub ns=true:=by
 obtain⟨db,hb⟩:=acF ns;have s0:=wW (e:=zV eS eI) (by decide) (("refused" : Str),(0:Int));have key:∀ b:List Rw,Bk b->Ho ns b/\Hl ns b=true:=λb hb=>by
  have hl:(b.map λvm:bM=>dG vm).length<=6:=by rw[zz];exact hb.l
  have hs:∀ t∈b.map λvm:bM=>dG vm,Sm t:=λt ht=>by
   obtain⟨r,hr,rfl⟩:=List.mem_map.mp ht;rw[(PJ (hb.g r hr)).2];exact⟨afv (hb.g r hr),afE (hb.g r hr)⟩
  obtain⟨u1,u2⟩:=HB (step:=λ(s1:Unit) (vo:Dt)=>((vY s1 vo):jJ (Unit) Bool)) (P:=λ(s1:Unit) (vo:Dt)=>some (Hi s1 vo)) V3 λd hd=>by
   refine⟨⟨⟨adq d hd,s0.2⟩,λ_=>⟨adq d hd,s0.2⟩⟩,?_⟩;show(if((!DP (gQ d) (Dt.tup [(Dt.str "refused"),(Dt.int 0)]))||(!DP (jr d) (Dt.tup [(Dt.str "refused"),(Dt.int 0)])))=true then _ else _)=_;have e1:DP (gQ d) (Dt.tup [(Dt.str "refused"),(Dt.int 0)])=true:=s0.1;have e2:DP (jr d) (Dt.tup [(Dt.str "refused"),(Dt.int 0)])=true:=s0.1;rw[e1,e2,zC (by decide)]
  have f:=λl h hll=>aaj (l:=l) h ns hn b (b.map λvm:bM=>dG vm) hl hs hll;refine⟨⟨⟨by have:=hb.l;omega,λr hr=>(PJ (hb.g r hr)).1⟩,u2,?_⟩,?_⟩
  ·rw[u1];exact⟨fP (by decide),fP (by decide),(f _ (by decide +kernel) (by decide)).1⟩
  ·show zR ns b (b.map λvm:bM=>dG vm)=true;unfold zR;rw[u1];exact(f _ (by decide +kernel) (by decide)).2
 exact⟨⟨db,(key _ hb).1⟩,(key _ hb).2⟩
theorem H1:∀ ns:List Int,ns.length<=63->F_law [.z (.lst (ns.map .int))]=some (.z (.bl true)):=(adk aak).1
theorem H2:∀ ns:List Int,ns.length<=63->F_law [.l (ns.map .int)]=some (.z (.bl true)):=(adk aak).2
end G04
end
open PySem PySem.W PyProof.Rows
def PySem.W.Fast.tw14070385672823805163:=0
def PySem.W.Fast.tw13223743002889967332:=0
def PySem.W.Fast.tw16244676971755523961:=0
def PySem.W.Fast.tw8854659597158174116:=0
def PySem.W.Fast.tw16144940502200793314:=0
def PySem.W.Fast.tw10497126488031077141:=0
def PySem.W.Fast.tw14230763838777405528:=0
def PySem.W.Fast.tw4945653320637979868:=0
def PySem.W.Fast.tw6747370352976083324:=0
def PySem.W.Fast.tw10484266427503673842:=0
def PySem.W.Fast.tw2879159363095617970:=0
def PySem.W.Fast.tw14929607590486866227:=0
def PySem.W.Fast.tw2987382259516603113:=0
def PySem.W.Fast.tw5629127332108576518:=0
def PySem.W.Fast.tw6635047582503610420:=0
def PySem.W.Fast.tw2831440141909618739:=0
def PySem.W.Fast.tw7131210435287746834:=0
def PySem.W.Fast.tw16360877507039139222:=0
def PySem.W.Fast.tw15303225306274235465:=0
def PySem.W.Fast.tw16733087676371004248:=0
def PySem.W.Fast.tw838357607147757518:=0
def PySem.W.Fast.tw16790572313164252874:=0
def PySem.W.Fast.tw13470927818174513049:=0
def PySem.W.Fast.tw1771342116682157185:=0
def PySem.W.Fast.tw7290436808286229814:=0
def PySem.W.Fast.tw14374846866794290335:=0
def PySem.W.Fast.tw7193999126548095696:=0
def PySem.W.Fast.tw10334346780426045882:=0
def PySem.W.Fast.tw567243753881686900:=0
def PySem.W.Fast.tw8111986370046563007:=0
def PySem.W.Fast.tw7021155308393335456:=0
def PySem.W.Fast.tw5217817270756421942:=0
def PySem.W.Fast.tw6242020337908332863:=0
def PySem.W.Fast.tw7379248607717898180:=0
def PySem.W.Fast.tw11937473711183026508:=0
def PySem.W.Fast.tw18229125105013371827:=0
def PySem.W.Fast.tw11536313855433121012:=0
def PySem.W.Fast.tw869086383424051418:=0
def PySem.W.Fast.tw10693782079551969624:=0
def PySem.W.Fast.tw11001065227108460669:=0
def PySem.W.Fast.tw6336505631716533817:=0
def PySem.W.Fast.tw2955856195592830183:=0
def PySem.W.Fast.tw3565190028163684916:=0
def PySem.W.Fast.tw14876146641528078637:=0
def PySem.W.Fast.tw1971630805493373182:=0
def PySem.W.Fast.tw17198716333052569596:=0
def PySem.W.Fast.tw16139325550515747507:=0
def PySem.W.Fast.tw17003957682372847110:=0
def PySem.W.Fast.tw4381198045185418525:=0
def PySem.W.Fast.tw1688213762706656553:=0
def PySem.W.Fast.tw10443841513864471680:=0
def PySem.W.Fast.tw6680458421840555405:=0
def PySem.W.Fast.tw10211873981042572398:=0
def PySem.W.Fast.tw13712373916624013674:=0
def PySem.W.Fast.tw7479654100059832363:=0
def PySem.W.Fast.tw14664393381243670899:=0
def PySem.W.Fast.tw2492649020555306554:=0
def PySem.W.Fast.tw2296844137812063519:=0
def PySem.W.Fast.tw10867613938959014040:=0
def PySem.W.Fast.tw4851045855499791263:=0
set_option maxRecDepth 100000 in
set_option maxHeartbeats 0 in
theorem PySem.Challenge.cw_onefolk_k04_texts_of_no_books_holds : PySem.Challenge.rw_onefolk_k04_texts_of_no_books.Holds := by
 w_on;refine PySem.W.holds_law (by decide +kernel) λsaid=>?_
 k_head;(case hw=>w_witness2)
 k_fill
 refine P1.walkT (l:=PySem.Challenge.rw_onefolk_k04_texts_of_no_books) (T:=G04.T) (k:=10) (x := "_law_script") (st:=G04.s_law) (F_law:=G04.F_law) (λt=>t.x_law) ⟨rfl,by decide,by decide⟩ rfl (λw mg base t=>G04.all_ok t) rfl rfl G04.H1 G04.H2 (λ_ _ _ _ _ _ _=>rfl) (λw h Y=>PySem.W.kIn_of Y) ?F
 case F=>
  intro w mg h KX G
  refine' ⟨jS KX G _,jS KX G _,jS KX G _,jS KX G _,jS KX G _,jS KX G _,jS KX G _,jS KX G _,P1.ajC _ _ _ _,⟨_,_,_⟩,_,_,_,_,_,_,_,_,_,ZZ KX G _,ZZ KX G _,P1.lD KX G _ _ _ _,P1.lD KX G _ _ _ _,P1.lD KX G _ _ _ _,P1.lD KX G _ _ _ _,P1.lD KX G _ _ _ _,P1.lD KX G _ _ _ _,P1.lD KX G _ _ _ _,P1.lD KX G _ _ _ _,P1.lD KX G _ _ _ _,P1.lD KX G _ _ _ _,P1.lD KX G _ _ _ _,P1.lD KX G _ _ _ _,P1.lD KX G _ _ _ _,P1.lD KX G _ _ _ _,P1.lD KX G _ _ _ _,P1.lD KX G _ _ _ _,P1.lD KX G _ _ _ _,P1.lD KX G _ _ _ _,P1.lD KX G _ _ _ _,P1.lD KX G _ _ _ _,P1.lD KX G _ _ _ _,P1.lD KX G _ _ _ _,P1.lD KX G _ _ _ _,P1.lD KX G _ _ _ _,P1.lD KX G _ _ _ _,P1.lD KX G _ _ _ _,P1.lD KX G _ _ _ _,P1.lD KX G _ _ _ _,P1.lD KX G _ _ _ _,P1.lD KX G _ _ _ _,ZZ KX G _,ZZ KX G _,ZZ KX G _,ZZ KX G _,ZZ KX G _,ZZ KX G _,ZZ KX G _,ZZ KX G _,ZZ KX G _,ZZ KX G _,ZZ KX G _,ZZ KX G _,P1.mgT KX G _,P1.mgT KX G _,P1.mgT KX G _,P1.mgT KX G _⟩
  all_goals try (show _=_;k_is)
  all_goals try kernel_rfl
