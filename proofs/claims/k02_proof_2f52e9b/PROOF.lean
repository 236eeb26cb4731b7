import PyProof.Rows.All
import Wide.All
import OpenK.AllK
import Wide.FinOn
import PyProof.EqAt
import PyProof.EqKinds
import PyProof.TupleCall
import PyProof.StrLoop
import PyProof.StrWalks
import PyProof.CompFree
import PyProof.NeKinds
import PyProof.Rows.RuleN_isinstance
import PyProof.ConsumeWalk
import PyProof.IsiPairs
import PyProof.IsiSeqPairs
import PyProof.IsiHeapPairs
import PyProof.IsiNone
import PyProof.PureStr
import PyProof.StrCalls
import PyProof.Rows.SortStr
import PyProof.Rows.StrJoin2
import PyProof.CallStr
import PyProof.WalkInts
import PyProof.Rows.StrDigits
import PyProof.DictWalks
import PyProof.DictTruth
import PyProof.CollectWalk
import PyProof.WalkLemmas
import PyProof.Rows.SortShellK
import PyProof.Rows.SortWalk
import PyProof.SetKind
import PyProof.FactsAll.set
import PyProof.Rows.SetFrom
import PyProof.TupleKey
import PyProof.IsRules
import PyProof.WalksMore
import PyProof.SetRoads
import PyProof.DictCompW
import PyProof.ListRange
import PyProof.FString5
import PyProof.MeetsSeq2
import PyProof.FactsAll.tuple_0
import PyProof.FactsAll.tuple_2
import PyProof.FactsAll.tuple_3
import PyProof.EnumFor
import PyProof.EnumMake
import PyProof.EnumStmt
import PyProof.Rows.EnumRows
import PyProof.SumWalk
import PyProof.Rows.SeqCalls
import KE.KRevSl
import PyProof.ZipIter
import PyProof.TupleIter
import PyProof.AttrMiss
import KE.KDictOf
import KE.KDictLaws
import PyProof.TupleOfStr
import PyProof.StrCalls2
import PyProof.Rows.StrNews2
import PyProof.Rows.StrItems
import PyProof.Rows.StrSplitAre
import PyProof.Rows.StrGen4
import PyProof.Rows.RegStrFacts
import PyProof.Rows.FStr
import PyProof.SetNew
import PyProof.Rows.SetObj
import PyProof.Seq
import PyProof.Rows.SortShell
import PyProof.StrLawsTight
import PyProof.Rows.StrPartPair
import PyProof.Rows.CatFin
import PyProof.Rows.StrClose
import Lean
import PySem.Challenge.RW_onefolk_k02_words_and_books_together
set_option maxRecDepth 100000
set_option maxHeartbeats 4000000
set_option linter.all false
set_option Elab.async false
section
open PySem PySem.Spec PyProof.Rows
abbrev LS_:=List PySem.Str
abbrev VP_:=PySem.Value->PySem.Shared->Prop
abbrev FG_:=PySem.W.Frag
abbrev LI_:=List Int
abbrev zb:=@wpAny_bind
abbrev zd:=@Heap.get?_push_of_some
abbrev ze:=@wpAny_pure
abbrev zg:=@List.length_map
abbrev zh:=@Nat.le_trans
abbrev zi:=@if_pos
abbrev zk:=@Nat.le_refl
abbrev zl:=@List.map_cons
abbrev zo:=@List.size_toArray
abbrev zr:=@Bool.false_ne_true
abbrev zt:=@Heap.lt_size
abbrev zv:=@Nat.le_of_ble_eq_true
abbrev zw:=@if_neg
abbrev zz:=@PySem.W.mg_of
abbrev zC:=@Heap.get?_push_size
abbrev zI:=@List.mem_append_right
abbrev zS:=@List.length_append
abbrev Zl:=@Nat.lt_of_lt_of_le
abbrev Zp:=@Bool.false_eq_true
abbrev Zs:=@List.mem_cons_of_mem
abbrev ZA:=@List.mem_cons_self
abbrev ZE:=@Nat.ne_of_lt
abbrev ZH:=@wpAny_mono
abbrev ZI:=@decide_eq_false
abbrev ZN:=@List.map_append
abbrev ZO:=@Bool.and_eq_true
abbrev ZT:=@List.getElem?_map
abbrev ZU:=@decide_eq_true
abbrev ZY:=@List.getElem?_append_left
abbrev ZZ:=@PySem.W.mg_none_of
abbrev Z3:=@wpAny_truthy_bool
abbrev qa:=@Or.inr
abbrev qc:=@if_false
abbrev qf:=@Heap.get?_update_other
abbrev qh:=@List.getElem?_append_right
abbrev qi:=@Heap.get?_update_self
abbrev qk:=@List.map_map
abbrev qo:=@List.mem_append_left
abbrev qq:=@Ne.symm
abbrev qr:=@List.getElem?_replicate
abbrev qv:=@List.length_set
abbrev qA:=@List.find?_cons
abbrev qB:=@List.append_nil
abbrev qE:=@Int.toNat_of_nonneg
abbrev qS:=@Or.inl
abbrev qV:=@Obj.data_mapFields
abbrev Qb:=@Option.some.inj
abbrev Qr:=@Nat.zero_le
abbrev QA:=@wpAny_newObj_type
abbrev QE:=@wpAny_standAt
abbrev QI:=@wpAny_holding
abbrev QN:=@List.any_cons
abbrev QO:=@if_true
abbrev QP:=@PySem.mem_of_lookup
abbrev QQ:=@Array.length_toList
abbrev QR:=@Option.bind_some
abbrev QU:=@List.length_cons
abbrev QY:=@List.all_eq_true
abbrev Q1:=@decide_eq_false_iff_not
abbrev Q2:=@wpAny_field
abbrev Q3:=@Nat.ne_of_gt
abbrev Q4:=@Nat.le_of_lt
abbrev ja:=@List.foldl_cons
abbrev jb:=@List.lookup_cons_self
abbrev jn:=@decide_eq_true_eq
abbrev js:=@Heap.size_push
abbrev jv:=@List.mem_of_getElem?
abbrev jI:=@wpAny_typeOf
abbrev jS:=@List.not_mem_nil
abbrev j0:=@Nat.lt_irrefl
abbrev j3:=@List.mem_cons
abbrev Jn:=@List.all_cons
abbrev JA:=@List.getElem?_eq_getElem
abbrev JE:=@wpAny_Call_Name_kw
abbrev JI:=@wpAny_getItem_str_slice
abbrev JJ:=@Nat.add_le_add
abbrev JO:=@wpAny_loadPart_at
abbrev JP:=@of_decide_eq_true
abbrev JS:=@List.getElem?_set
abbrev JU:=@Bool.not_eq_true'
abbrev JY:=@Obj.isFreed_of_fields
abbrev ka:=@List.length_take
abbrev kb:=@List.length_drop
abbrev kc:=@List.any_eq_true
abbrev ke:=@Bool.and_true
abbrev kf:=@List.getElem?_set_ne
abbrev kg:=@wpAny_passesOwn
abbrev ki:=@wpAny_execs_nil
abbrev kl:=@List.nil_append
abbrev km:=@List.cons.injEq
abbrev kn:=@Bool.eq_iff_iff
abbrev ko:=@List.replicate_succ
abbrev kq:=@codeAny_mono
abbrev kr:=@wpAny_call
abbrev ku:=@Array.find?_toList
abbrev ky:=@PySem.F.excBase_ValueError
abbrev kz:=@List.rel_of_pairwise_cons
abbrev kA:=@List.drop_eq_getElem_cons
abbrev kB:=@Nat.le_succ
abbrev kC:=@List.nodup_append
abbrev kD:=@List.append_assoc
abbrev kF:=@Array.size_append
abbrev kG:=@wpAny_comprehension_free
abbrev kH:=@PySem.F.args_tuple_add_2
abbrev kK:=@wpAny_execs_cons
abbrev kL:=@List.filter_cons
abbrev kM:=@PySem.F.entry_tuple_add
end
section
namespace L2
open PySem PySem.Spec PyProof.Rows
abbrev Key:=Sum Int Str
def nJ:Key->Value->Bool
 |.inl k,v=>Value.isInt k v
 |.inr x,v=>Value.isStrOf x v
def aco (w:World):Key->Int
 |.inl k=>hashInt k
 |.inr x=>hashStr w x
theorem bG:∀ {k:Key} {v:Value},nJ k v=true->(∃ i t,k=Sum.inl i/\v=Value.int i t)\/(∃ x t,k=Sum.inr x/\v=Value.str x t)
 |.inl i,v,h=>by
  obtain⟨t,e⟩:=Value.isInt_shape (k:=i) (v:=v) h
  exact .inl ⟨i,t,rfl,e⟩
 |.inr x,v,h=>by
  obtain⟨t,e⟩:=Value.isStrOf_shape (x:=x) (v:=v) h
  exact .inr ⟨x,t,rfl,e⟩
theorem La (i:Int) (t:Tok):nJ (.inl i) (.int i t)=true:=by simp[nJ,Value.isInt]
theorem Lb (x:Str) (t:Tok):nJ (.inr x) (.str x t)=true:=by simp[nJ,Value.isStrOf]
theorem WT (a b:Int):decide ((Sum.inl a:Key)=Sum.inl b)=(a==b):=by
 by_cases e:a=b
 ·subst e;simp
 ·have h:¬ (Sum.inl a:Key)=Sum.inl b:=fun q=>e (Sum.inl.inj q)
  rw[ZI h]
  exact (beq_eq_false_iff_ne.mpr e).symm
theorem WW (a b:Str):decide ((Sum.inr a:Key)=Sum.inr b)=decide (a=b):=by
 by_cases e:a=b
 ·subst e;simp
 ·have h:¬ (Sum.inr a:Key)=Sum.inr b:=fun q=>e (Sum.inr.inj q)
  rw[ZI h,ZI e]
theorem WX (a:Int) (b:Str):decide ((Sum.inl a:Key)=Sum.inr b)=false:=ZI (fun q=>nomatch q)
theorem WY (a:Str) (b:Int):decide ((Sum.inr a:Key)=Sum.inl b)=false:=ZI (fun q=>nomatch q)
def bY (prog:Program) (w:World):PySem.KeyKind prog w Key where
 is:=nJ
 hash:=aco w
 inj:=fun v a b ha hb=>by
  rcases bG ha with⟨i,t,rfl,rfl⟩|⟨x,t,rfl,rfl⟩
  ·rcases bG hb with⟨j,u,rfl,e⟩|⟨y,u,rfl,e⟩
   ·injection e with e1 _;rw[e1]
   ·exact nomatch e
  ·rcases bG hb with⟨j,u,rfl,e⟩|⟨y,u,rfl,e⟩
   ·exact nomatch e
   ·injection e with e1 _;rw[e1]
 byValue:=fun k v h=>by
  rcases bG h with⟨i,t,rfl,rfl⟩|⟨x,t,rfl,rfl⟩<;>rfl
 pyHash:=fun hv h=>by
  rcases bG hv with⟨i,t,rfl,rfl⟩|⟨x,t,rfl,rfl⟩
  ·exact wpAny_pyHash_int h
  ·exact wpAny_pyHash_str h
 eqBool:=fun hu hv h=>by
  rcases bG hu with⟨i,t,rfl,rfl⟩|⟨x,t,rfl,rfl⟩
  ·rcases bG hv with⟨j,u,rfl,rfl⟩|⟨y,u,rfl,rfl⟩
   ·rw[WT] at h;exact wpAny_eqBool_int h
   ·rw[WX] at h;exact SeqAt.EqAt.int_str i t y u _ _ _ _ h
  ·rcases bG hv with⟨j,u,rfl,rfl⟩|⟨y,u,rfl,rfl⟩
   ·rw[WY] at h;exact SeqAt.EqAt.str_int x t j u _ _ _ _ h
   ·rw[WW] at h;exact wpAny_eqBool_str h
 «strs»:=fun k x t v h=>by
  rcases bG h with⟨i,u,rfl,e⟩|⟨y,u,rfl,e⟩
  ·exact nomatch e
  ·injection e with e1 _
   subst e1
   cases v<;>rfl
theorem FT (prog:Program) (w:World) (i:Int) (t:Tok):(bY prog w).is (.inl i) (.int i t)=true:=La i t
theorem FW (prog:Program) (w:World) (x:Str) (t:Tok):(bY prog w).is (.inr x) (.str x t)=true:=Lb x t
end L2
namespace L2
open PySem PySem.Spec PyProof.Rows
inductive V where
 |non|bl (b:Bool)|int (i:Int)|str (x:Str)|W0 (b:Array UInt8)|flt (b:UInt64)|ref (a:Addr)|ty (n:String)
 deriving DecidableEq
def RelV:V->Value->Prop
 |.non,u=>u=Value.none
 |.bl b,u=>u=Value.bool b
 |.int i,u=>∃ t,u=Value.int i t
 |.str x,u=>∃ t,u=Value.str x t
 |.W0 b,u=>∃ t,u=Value.bytes b t
 |.flt b,u=>∃ t,u=Value.float b t
 |.ref a,u=>u=Value.ref a
 |.ty n,u=>u=Value.type n
abbrev Vals:List V->List Value->Prop:=Paired RelV
theorem Vals.length {xs:List V} {us:List Value} (r:Vals xs us):xs.length=us.length:=Paired.length r
theorem Vals.get:∀ {xs:List V} {us:List Value} {i:Nat} {x:V},Vals xs us->xs[i]?=some x->∃ u,us[i]?=some u/\RelV x u
 |_,_,_,_,.nil,e=>by simp at e
 |_,_,0,_,.cons r _,e=>by simp at e;subst e;exact⟨_,rfl,r⟩
 |_,_,i+1,x,.cons _ t,e=>by
  obtain⟨u,h1,h2⟩:=Vals.get (i:=i) (x:=x) t (by simpa using e)
  exact⟨u,by simpa using h1,h2⟩
theorem Vals.set {x:V} {u:Value} (r:RelV x u):∀ {xs:List V} {us:List Value} (i:Nat),Vals xs us->Vals (xs.set i x) (us.set i u)
 |_,_,_,.nil=>.nil
 |_,_,0,.cons _ t=>.cons r t
 |_,_,i+1,.cons q t=>.cons q (Vals.set r i t)
theorem Vals.append:∀ {xs ys:List V} {us ws:List Value},Vals xs us->Vals ys ws->Vals (xs++ys) (us++ws)
 |_,_,_,_,.nil,s=>s
 |_,_,_,_,.cons r t,s=>.cons r (Vals.append t s)
theorem Vals.take:∀ {xs:List V} {us:List Value} (n:Nat),Vals xs us->Vals (xs.take n) (us.take n)
 |_,_,0,_=>.nil
 |_,_,_+1,.nil=>.nil
 |_,_,n+1,.cons r t=>.cons r (Vals.take n t)
theorem Vals.drop:∀ {xs:List V} {us:List Value} (n:Nat),Vals xs us->Vals (xs.drop n) (us.drop n)
 |_,_,0,r=>r
 |_,_,_+1,.nil=>.nil
 |_,_,n+1,.cons _ t=>Vals.drop n t
def wI:Option V->Option Value->Prop
 |some v,some u=>RelV v u
 |none,none=>True
 |_,_=>False
def KV {κ:Type}:List (κ×V)->List (κ×Value)->Prop:=Paired fun (p:κ×V) (q:κ×Value)=>p.1=q.1/\RelV p.2 q.2
def kV:Key->V
 |.inl i=>.int i
 |.inr x=>.str x
inductive HO where
 |lst (xs:List V)
 |tup (xs:List V)
 |dK (kvs:List (Key×V))|dT (kvs:List (List Key×V))
 |set (S:Int->Bool) (n:Nat)
 |ins (C dx:Addr) (fs:List (Str×V))
 |own (x:Addr)
 |xd (fs:List (Str×V))
 |met (f x:Addr)
 |rng (lo hi:Int)
 |uR (o:Obj) (u:HO)
 |W2 (ps:Array Value)
 |ext (φ:Heap->Prop)
abbrev Hp:=Addr->Option HO
def upd (H:Hp) (a:Addr) (o:HO):Hp:=fun b=>if b=a then some o else H b
theorem aU {H:Hp} {a:Addr} {o:HO}:upd H a o a=some o:=by unfold upd;rw[zi rfl]
theorem aJ {H:Hp} {a b:Addr} {o:HO} (h:b≠a):upd H a o b=H b:=by unfold upd;rw[zw h]
def qU (h:Heap) (a:Addr) (items:Array Value):Prop:=∃ o,h.get? a=some o/\o.cls=.type "tuple" ∧ (∃ n,o.data=.seq items n)/\o.dict=none
theorem qU.weak {h:Heap} {a:Addr} {items:Array Value} (x:qU h a items):IsTup h a items:=let ⟨o,e,c,d,_⟩:=x;⟨o,e,c,d⟩
theorem qU.new (h:Heap) (items:Array Value):qU (h.push { cls:=.type "tuple", data:=.seq items }) h.objs.size items:=⟨_,zC _ rfl,rfl,⟨_,rfl⟩,rfl⟩
theorem lN {H:Hp} {a b:Addr} {o u:HO} (h:H a=some o) (h':H b=some u) (d:o≠u):a≠b:=by
 intro e;subst e;rw[h] at h';exact d (Qb h')
theorem aW {H:Hp} {a b:Addr} {o:HO} (h:H a=some o) (h':H b=none):a≠b:=by
 intro e;subst e;rw[h] at h';cases h'
section
variable (P:Program) (w:World)
def fj (H:Hp) (h:Heap) (a:Addr):HO->Prop
 |.lst xs=>xs.length<=sizeLine/\∃ (its:List Value) (n:Nat),Vals xs its/\h.get? a=some { cls:=.type "list", data:=.seq its.toArray n }
 |.tup xs=>xs.length<=sizeLine/\∃ its:List Value,Vals xs its/\qU h a its.toArray
 |.dK kvs=>kvs.length<=sizeLine/\(a==sysModules)=false/\∃ vs,KV kvs vs/\h.DictOf (bY P w) a vs
 |.dT kvs=>kvs.length<=sizeLine/\(a==sysModules)=false/\∃ xs:List (List Key×Addr×Value),
   Paired (fun (p:List Key×V) (q:List Key×Addr×Value)=>p.1=q.1/\H q.2.1=some (.tup (p.1.map kV))/\RelV p.2 q.2.2) kvs xs ∧
   ∃ o es ep,h.get? a=some o/\o.ExactDict/\o.data=.dict es ep/\es.toList=xs.map (entryOfKey (tupleKind (bY P w)))/\(xs.map (·.1)).Nodup
 |.set S n=>h.SetOf (intKind P w) a S n
 |.ins C dx fs=>H dx=some (.own a)/\fs.length<=1000/\dx≠a/\h.get? a=some (PySem.W.instObj C dx) ∧
   ∃ mA,h.Ns1 dx mA/\(∀ f,wI (fs.lookup f) (mA f))/\PySem.Within mA (fs.map (·.1))
 |.own _=>∃ o,h.get? a=some o
 |.xd fs=>∃ mA,h.Ns1 a mA/\∀ f,wI (fs.lookup f) (mA f)
 |.rng lo hi=>∃ t u v,h.get? a=some { cls:=.type "range", data:=.fields #[.int lo t,.int hi u,.int 1 v] }
 |.uR o u=>h.get? a=some o/\fj H h a u
 |.W2 ps=>h.get? a=some { cls:=.none,data:=.fields ps }
 |.met f x=>h.get? a=some (PySem.W.methodObj (.ref f) (.ref x))
 |.ext φ=>φ h/\(∃ o,h.get? a=some o)/\∀ h1 h2:Heap,φ h1->(∀ o,h1.get? a=some o->h2.get? a=some o)->φ h2
def qW (H:Hp) (h:Heap):Prop:=∀ a o,H a=some o->fj P w H h a o
end
section
variable {P:Program} {w:World} {H H':Hp} {h h':Heap} {a:Addr} {o:HO}
theorem fj.lt (x:fj P w H h a o):a < h.objs.size:=by
 cases o with
 |lst xs=>obtain⟨_,_,_,_,e⟩:=x;exact zt e
 |tup xs=>obtain⟨_,_,_,p⟩:=x;exact p.weak.lt
 |dK kvs=>obtain⟨_,_,_,_,o,_,_,e,_⟩:=x;exact zt e
 |dT kvs=>obtain⟨_,_,_,_,o,_,_,e,_⟩:=x;exact zt e
 |set S n=>obtain⟨o,_,_,_,e,_⟩:=x;exact zt e
 |ins C dx fs=>obtain⟨_,_,_,e,_⟩:=x;exact zt e
 |own y=>obtain⟨_,e⟩:=x;exact zt e
 |xd fs=>obtain⟨_,⟨_,_,_,e,_⟩,_⟩:=x;exact zt e
 |rng lo hi=>obtain⟨_,_,_,e⟩:=x;exact zt e
 |uR ob u=>obtain⟨e,_⟩:=x;exact zt e
 |W2 ps=>exact zt (show h.get? a=some _ from x)
 |met f y=>exact zt (show h.get? a=some _ from x)
 |ext φ=>obtain⟨_,⟨_,e⟩,_⟩:=x;exact zt e
theorem Paired.Sw {α β:Type} {F G:α->β->Prop}:∀ {l₁:List α} {l₂:List β},Paired F l₁ l₂->(∀ a b,F a b->G a b)->Paired G l₁ l₂
 |_,_,.nil,_=>.nil
 |_,_,.cons r t,f=>.cons (f _ _ r) (Paired.Sw t f)
theorem Paired.imp' {α β:Type} {F G:α->β->Prop} (f:∀ a b,F a b->G a b) {l₁:List α} {l₂:List β} (r:Paired F l₁ l₂):Paired G l₁ l₂:=Paired.Sw r f
theorem fj.stay (x:fj P w H h a o) (k:∀ b u,(b=a\/H b=some (.own a))->h.get? b=some u->h'.get? b=some u)
  (ho:∀ b,H b=some (.own a)->H' b=some (.own a)) (ht:∀ b xs,H b=some (.tup xs)->H' b=some (.tup xs)):fj P w H' h' a o:=by
 induction o with
 |lst xs=>obtain⟨z,its,n,r,e⟩:=x;exact⟨z,its,n,r,k _ _ (.inl rfl) e⟩
 |tup xs=>obtain⟨z,its,r,ob,e,c⟩:=x;exact⟨z,its,r,ob,k _ _ (.inl rfl) e,c⟩
 |dK kvs=>obtain⟨z,y,vs,r,ob,es,ep,e,c⟩:=x;exact⟨z,y,vs,r,ob,es,ep,k _ _ (.inl rfl) e,c⟩
 |dT kvs=>
  obtain⟨z,y,xs,r,ob,es,ep,e,c⟩:=x
  exact⟨z,y,xs,Paired.Sw r fun p q z=>⟨z.1,ht _ _ z.2.1,z.2.2⟩,ob,es,ep,k _ _ (.inl rfl) e,c⟩
 |set S n=>obtain⟨ob,es,ep,t,e,c⟩:=x;exact⟨ob,es,ep,t,k _ _ (.inl rfl) e,c⟩
 |ins C dx fs=>
  obtain⟨d,z,ne,e,mA,⟨od,es,ep,e2,c⟩,r⟩:=x
  exact⟨ho _ d,z,ne,k _ _ (.inl rfl) e,mA,⟨od,es,ep,k _ _ (.inr d) e2,c⟩,r⟩
 |own y=>obtain⟨ob,e⟩:=x;exact⟨ob,k _ _ (.inl rfl) e⟩
 |xd fs=>obtain⟨mA,⟨od,es,ep,e,c⟩,r⟩:=x;exact⟨mA,⟨od,es,ep,k _ _ (.inl rfl) e,c⟩,r⟩
 |rng lo hi=>obtain⟨t,u,v,e⟩:=x;exact⟨t,u,v,k _ _ (.inl rfl) e⟩
 |uR ob u ih=>obtain⟨e,q⟩:=x;exact⟨k _ _ (.inl rfl) e,ih q⟩
 |W2 ps=>
  have e:h.get? a=some { cls:=.none,data:=.fields ps }:=x
  show h'.get? a=some { cls:=.none,data:=.fields ps }
  exact k a _ (.inl rfl) e
 |met f y=>
  have e:h.get? a=some (PySem.W.methodObj (.ref f) (.ref y)):=x
  show h'.get? a=some (PySem.W.methodObj (.ref f) (.ref y))
  exact k a _ (.inl rfl) e
 |ext φ=>obtain⟨p,⟨o,e⟩,st⟩:=x;exact⟨st _ _ p fun o q=>k _ _ (.inl rfl) q,⟨o,k _ _ (.inl rfl) e⟩,st⟩
theorem qW.lt (x:qW P w H h) (e:H a=some o):a < h.objs.size:=(x a o e).lt
theorem qW.fresh (x:qW P w H h) (e:h.objs.size<=a):H a=none:=by
 cases q:H a with
 |none=>rfl
 |some u=>exact absurd (Zl (x.lt q) e) (j0 _)
theorem qW.kept (x:qW P w H h) (k:∀ b u,h.get? b=some u->h'.get? b=some u):qW P w H h':=fun a o e=>
 (x a o e).stay (fun b u _ q=>k b u q) (fun _ q=>q) fun _ _ q=>q
theorem qW.laid (x:qW P w H h) (k:∀ b u,h.get? b=some u->h'.get? b=some u) (hp:h.objs.size<=a) (new:fj P w (upd H a o) h' a o):qW P w (upd H a o) h':=fun b u e=>by
 have hn:=x.fresh hp
 by_cases hb:b=a
 ·subst hb;rw[aU] at e;cases e;exact new
 ·rw[aJ hb] at e
  exact (x b u e).stay (fun c v _ q=>k c v q) (fun c q=>by rw[aJ (aW q hn)];exact q) fun c xs q=>by rw[aJ (aW q hn)];exact q
end
def Rd (H:Hp) (a:Addr) (u:HO):Prop:=H a=some u\/∃ o,H a=some (.uR o u)
theorem Rd.of {H:Hp} {a:Addr} {u:HO} (h:H a=some u):Rd H a u:=.inl h
theorem Rd.ok {P:Program} {w:World} {H:Hp} {h:Heap} {a:Addr} {u:HO} (r:Rd H a u) (x:qW P w H h):fj P w H h a u:=by
 rcases r with r|⟨o,r⟩
 ·exact x a u r
 ·obtain⟨_,q⟩:=x a _ r
  exact q
def ZF:Option HO->Prop
 |some (.lst _)=>True
 |some (.dK _)=>True
 |some (.dT _)=>True
 |some (.set _ _)=>True
 |some (.ins _ _ _)=>True
 |some (.ext _)=>True
 |_=>False
section
variable {P:Program} {w:World} {H:Hp} {h h':Heap} {x e:Addr} {o':HO}
theorem qW.write (ok:qW P w H h) (mu:ZF (H x)) (he:e=x\/H e=some (.own x)) (k:∀ b u,b≠e->h.get? b=some u->h'.get? b=some u) (heo:∃ u,h'.get? e=some u)
  (new:fj P w (upd H x o') h' x o'):qW P w (upd H x o') h':=fun b u q=>by
 have ZG:∀ c y,H c=some (.own y)->c≠x:=fun c y r z=>by subst z;rw[r] at mu;exact mu
 have acp:∀ c xs,H c=some (.tup xs)->c≠x:=fun c xs r z=>by subst z;rw[r] at mu;exact mu
 by_cases hb:b=x
 ·subst hb;rw[aU] at q;cases q;exact new
 ·rw[aJ hb] at q
  by_cases hbe:b=e
  ·have q':H b=some (.own x):=by
    rcases he with z|z
    ·exact absurd (hbe.trans z) hb
    ·rw[hbe];exact z
   rw[q] at q';cases q'
   obtain⟨v,hv⟩:=heo
   exact⟨v,by rw[hbe];exact hv⟩
  ·refine (ok b u q).stay (fun c v hc r=>k c v ?_ r) (fun c r=>by rw[aJ (ZG c b r)];exact r) fun c xs r=>by rw[aJ (acp c xs r)];exact r
   rcases hc with rfl|hc
   ·exact hbe
   ·rintro rfl
    rcases he with z|z
    ·exact ZG c b hc z
    ·rw[hc] at z;cases z;exact hb rfl
end
structure Un (fs ex:List Addr) (H H':Hp) (h h':Heap):Prop where
 keep:∀ b o,h.get? b=some o->H b=none->b∉fs->b∉ex->h'.get? b=some o
 slot:∀ b o,h.get? b=some o->H b=none->b∈fs->b∉ex->∃ sl,h'.get? b=some { o with slots:=sl }
 free:∀ b o,h.get? b=some o->H b=none->b∉ex->H' b=none
 there:∀ b o,h.get? b=some o->b∉ex->∃ o',h'.get? b=some o'
 tups:∀ b xs,H b=some (.tup xs)->H' b=some (.tup xs)
 oR:∀ b o u,H b=some (.uR o u)->H' b=some (.uR o u)
 qO:∀ b ps,H b=some (.W2 ps)->∃ more,H' b=some (.W2 (ps++more))
section
variable {fs fs' ex ex':List Addr} {H H1 H2:Hp} {h h1 h2 h':Heap} {a x e:Addr} {o:HO}
theorem Un.any (u:Un fs ex H H1 h h1) {b:Addr} {ob:Obj} (q:h.get? b=some ob) (n:H b=none) (hx:b∉ex):∃ sl,h1.get? b=some { ob with slots:=sl }:=by
 by_cases hb:b∈fs
 ·exact u.slot b ob q n hb hx
 ·exact⟨ob.slots,u.keep b ob q n hb hx⟩
theorem Un.trans (a:Un fs ex H H1 h h1) (b:Un fs ex H1 H2 h1 h2):Un fs ex H H2 h h2 where
 keep:=fun c ob q n hc hx=>b.keep c ob (a.keep c ob q n hc hx) (a.free c ob q n hx) hc hx
 slot:=fun c ob q n hc hx=>by
  obtain⟨sl,e1⟩:=a.slot c ob q n hc hx
  obtain⟨sl',e2⟩:=b.slot c _ e1 (a.free c ob q n hx) hc hx
  exact⟨sl',e2⟩
 free:=fun c ob q n hx=>by
  obtain⟨o',e1⟩:=a.there c ob q hx
  exact b.free c o' e1 (a.free c ob q n hx) hx
 there:=fun c ob q hx=>by
  obtain⟨o',e1⟩:=a.there c ob q hx
  exact b.there c o' e1 hx
 tups:=fun c xs q=>b.tups c xs (a.tups c xs q)
 oR:=fun c ob xs q=>b.oR c ob xs (a.oR c ob xs q)
 qO:=fun c ps q=>by
  obtain⟨m1,e1⟩:=a.qO c ps q
  obtain⟨m2,e2⟩:=b.qO c _ e1
  exact⟨m1++m2,by rw[e2,Array.append_assoc]⟩
theorem Un.kept (k:∀ b u,h.get? b=some u->h'.get? b=some u):Un fs ex H H h h':=
 ⟨fun b ob q _ _ _=>k b ob q,fun b ob q _ _ _=>⟨ob.slots,k b ob q⟩,fun _ _ _ n _=>n,fun b ob q _=>⟨ob,k b ob q⟩,fun _ _ q=>q,fun _ _ _ q=>q,fun _ ps q=>⟨#[],by rw[q];simp⟩⟩
theorem Un.refl:Un fs ex H H h h:=Un.kept fun _ _ q=>q
theorem Un.laid (k:∀ b u,h.get? b=some u->h'.get? b=some u) (hp:h.objs.size<=a) (hn:H a=none):Un fs ex H (upd H a o) h h' where
 keep:=fun b u q _ _ _=>k b u q
 slot:=fun b u q _ _ _=>⟨u.slots,k b u q⟩
 free:=fun b u q n _=>by rw[aJ (ZE (Zl (zt q) hp))];exact n
 there:=fun b u q _=>⟨u,k b u q⟩
 tups:=fun b xs q=>by rw[aJ (aW q hn)];exact q
 oR:=fun b u xs q=>by rw[aJ (aW q hn)];exact q
 qO:=fun b ps q=>⟨#[],by rw[aJ (aW q hn),q];simp⟩
theorem Un.write (mu:ZF (H x)) (he:e=x\/H e=some (.own x)) (k:∀ b u,b≠e->h.get? b=some u->h'.get? b=some u) (heo:∃ u,h'.get? e=some u):Un fs ex H (upd H x o) h h':=by
 have hx:∀ b,H b=none->b≠x:=fun b n z=>by subst z;rw[n] at mu;exact mu
 have hb:∀ b,H b=none->b≠e:=fun b n z=>by
  subst z
  rcases he with r|r
  ·exact hx b n r
  ·rw[n] at r;cases r
 have hm:∀ b u,H b=some u->¬ ZF (some u)->b≠x:=fun b u q nm z=>by subst z;rw[q] at mu;exact nm mu
 refine⟨fun b u q n _ _=>k b u (hb b n) q,fun b u q n _ _=>⟨u.slots,k b u (hb b n) q⟩,fun b u q n _=>by rw[aJ (hx b n)];exact n,fun b u q _=>?_,
  fun b xs q=>by rw[aJ (hm b _ q fun z=>z)];exact q,fun b u xs q=>by rw[aJ (hm b _ q fun z=>z)];exact q,fun b ps q=>⟨#[],by rw[aJ (hm b _ q fun z=>z),q];simp⟩⟩
 by_cases hbe:b=e
 ·subst hbe;exact heo
 ·exact⟨u,k b u hbe q⟩
theorem Un.mono (u:Un fs ex H H1 h h1) (hs:∀ b∈fs,b∈fs') (hx:∀ b∈ex,b∈ex'):Un fs' ex' H H1 h h1:=
 ⟨fun b ob q n hb he=>u.keep b ob q n (fun z=>hb (hs b z)) fun z=>he (hx b z),fun _ _ q n _ he=>u.any q n fun z=>he (hx _ z),fun b ob q n he=>u.free b ob q n fun z=>he (hx b z),fun b ob q he=>u.there b ob q fun z=>he (hx b z),u.tups,u.oR,u.qO⟩
end
def trk (h:Heap) (H:Hp):List Addr:=(List.range h.objs.size).filter fun a=>(H a).isSome
def Dz (h:Heap) (H:Hp):Heap:=PySem.W.hideAll h (trk h H)
theorem Ld (h:Heap) (H:Hp):(Dz h H).objs.size=h.objs.size:=PySem.W.hideAll_size _ _
theorem Od {h:Heap} {H:Hp} {b:Addr} {o:Obj} (e:h.get? b=some o) (n:H b=none):(Dz h H).get? b=some o:=
 PySem.W.hideAll_get _ e fun hm=>by
  have q:(H b).isSome=true:=(List.mem_filter.mp hm).2
  rw[n] at q;simp at q
theorem Sx {h:Heap} {H:Hp} {b:Addr} {o:Obj} (e:(Dz h H).get? b=some o):h.get? b=some o/\H b=none:=by
 have e':h.get? b=some o:=PySem.W.of_hideAll (trk h H) e
 refine⟨e',?_⟩
 cases q:H b with
 |none=>rfl
 |some x=>
  have hm:b∈trk h H:=List.mem_filter.mpr ⟨List.mem_range.mpr (zt e'),by simp[q]⟩
  have z:(Dz h H).get? b=none:=PySem.W.hideAll_none (trk h H) hm
  rw[z] at e;cases e
def Sy (g h:Heap) (L:Addr):List (Addr×Obj):=(List.range h.objs.size).filterMap fun a=>if a=L\/(g.get? a).isSome=true then none else (h.get? a).map fun o=>(a,o)
def rest (g h:Heap) (L d:Addr):List (Addr×Obj):=(Sy g h L).filter fun p=>decide (p.1≠d)
end L2
namespace L2
open PySem PySem.Spec PyProof.Rows
structure Mod (K:FG_) (mg:Str->Option Value) (base:Heap):Prop where
 ZJ:K.In base
 glob:base.Ns mainGlobals mg
 blt:∃ mb,base.Ns builtinsNs mb/\∀ x:Str,x ≠ "__name__" → mb x=bootBuiltins x
 nolimit:base.NoLimit
structure Cx where
 prog:Program
 w:World
 K:FG_
 mg:Str->Option Value
 base:Heap
 A:Around
 N:LS_
 s₀:Shared
 H₀:Hp
 env:Env
 outer:List Env
 stack:List Env
 ex:List Addr
 fn:Str->Bool
 calm:Bool
 pn:List (Addr×Obj)
 xe:VP_
def frs (l:List Env):List Addr:=l.filterMap (·.frame)
abbrev Cx.fs (X:Cx):List Addr:=frs X.outer
def Oe (sc:Scope) (x:Str):Prop:=sc.names.lookup x=some .local\/sc.names.lookup x=some .cell\/sc.names.lookup x=some .free
def Loc (sc:Scope) (x:Str):Prop:=sc.names.lookup x=some .local\/sc.names.lookup x=some .cell
def Look (env:Env) (h:Heap) (m:Str->Option Value) (x:Str) (u:Value):Prop:=
 (env.kindOf x=some .local/\m x=some u)\/((env.kindOf x=some .cell\/env.kindOf x=some .free)/\∃ c,env.cells.lookup x=some c/\h.IsCell c (some u))
structure Cx.Ok (X:Cx):Prop where
 mod:Mod X.K X.mg X.base
 kind:X.env.scope.kind=.function
 glob:X.env.globals=mainGlobals
 blt:X.env.builtins=builtinsNs
 above:X.s₀.heap.objs.size<=X.env.locals
 inj:∀ x y c,X.env.cells.lookup x=some c->X.env.cells.lookup y=some c->x=y
 has:∀ x,(X.env.kindOf x=some .cell\/X.env.kindOf x=some .free)->∃ c,X.env.cells.lookup x=some c
 cab:∀ x c,X.fn x=true->X.env.cells.lookup x=some c->X.s₀.heap.objs.size<=c
 hd:X.calm=true->X.A.handled=none
 frames:X.A.frames=some X.stack
 stk:X.stack=X.outer\/(X.stack=X.env::X.outer/\X.env.frame=some X.env.locals)
 exf:∀ b∈X.ex,b≠X.env.locals/\∀ x c,X.env.cells.lookup x=some c->c≠b
 bs:∀ b o,X.base.get? b=some o->X.s₀.heap.get? b=some o/\X.H₀ b=none
 N8:X.base.objs.size<=X.s₀.heap.objs.size
 Le:∀ b o,X.base.get? b=some o->b∉X.ex
 Og:∀ b∈X.ex,b∉X.fs
 uf:X.s₀.heap.FunFrames X.base X.outer
 SJ:∀ b∈X.fs,X.H₀ b=none
structure Inv (X:Cx) (pins:List (Addr×Obj)) (σ:List (Option V)) (H:Hp) (s:Shared):Prop where
 ok:X.Ok
 os:s.os=X.s₀.os
 bare:AllBare s.gens
 base:Un X.fs X.ex X.H₀ H X.s₀.heap s.heap
 loc:∃ m,s.heap.Ns X.env.locals m/\∀ (i:Nat) (x:Str) (v:V),X.N[i]?=some x->σ[i]?=some (some v)->Oe X.env.scope x->∃ u,RelV v u/\Look X.env s.heap m x u
 cell:∀ x c,X.env.cells.lookup x=some c->∃ v,s.heap.IsCell c v
 free:H X.env.locals=none
 jP:∀ x c,X.env.cells.lookup x=some c->H c=none
 pin:∀ p∈X.pn++pins,s.heap.get? p.1=some p.2/\H p.1=none/\p.1≠X.env.locals/\p.1∉X.fs/\∀ v,p.2.data≠.cell v
 hok:qW X.prog X.w H s.heap
 len:σ.length=X.N.length
section
variable {X:Cx} {pins:List (Addr×Obj)} {σ:List (Option V)} {H H':Hp} {s:Shared} {h':Heap}
theorem Cx.Ok.acr (ok:X.Ok) {b:Addr} {o:Obj} (e:X.base.get? b=some o):b∉X.fs:=fun hb=>by
 have:=(ok.uf.mem hb).1
 rw[e] at this;cases this
theorem Inv.bs (I:Inv X pins σ H s):∀ b o,X.base.get? b=some o->s.heap.get? b=some o/\H b=none:=fun b o e=>
 ⟨I.base.keep b o (I.ok.bs b o e).1 (I.ok.bs b o e).2 (I.ok.acr e) (I.ok.Le b o e),I.base.free b o (I.ok.bs b o e).1 (I.ok.bs b o e).2 (I.ok.Le b o e)⟩
theorem Inv.bk (I:Inv X pins σ H s):∀ b o,X.base.get? b=some o->s.heap.get? b=some o:=fun b o e=>(I.bs b o e).1
theorem Inv.mod (I:Inv X pins σ H s):Mod X.K X.mg X.base:=I.ok.mod
theorem Inv.Bt (I:Inv X pins σ H s):X.K.In s.heap:=I.ok.mod.ZJ.keeps I.bk
theorem Inv.nolimit (I:Inv X pins σ H s):s.heap.NoLimit:=I.ok.mod.nolimit.keeps I.bk
theorem Inv.fr (I:Inv X pins σ H s):∃ m,Fr X.base X.env.locals s.heap m:=
 let ⟨m,hn,_⟩:=I.loc
 ⟨m,hn,I.bk,zh I.ok.N8 I.ok.above⟩
theorem Inv.lt (I:Inv X pins σ H s):X.env.locals < s.heap.objs.size:=let ⟨_,hn,_⟩:=I.loc;hn.lt
theorem Inv.sz (I:Inv X pins σ H s):X.s₀.heap.objs.size<=s.heap.objs.size:=zh I.ok.above (Q4 I.lt)
theorem Inv.acs (I:Inv X pins σ H s) {a:Addr} (h:s.heap.objs.size<=a):a∉X.fs:=fun hb=>by
 obtain⟨_,o,ho,_⟩:=I.ok.uf.mem hb
 exact absurd (Zl (zt ho) (zh I.sz h)) (j0 _)
theorem Inv.SM (I:Inv X pins σ H s):∀ x c,X.env.cells.lookup x=some c->c≠X.env.locals:=fun x c e z=>by
 obtain⟨v,o,ho,hd⟩:=I.cell x c e
 obtain⟨m,⟨o',es,ep,ho',hd',_⟩,_⟩:=I.loc
 rw[z,ho'] at ho;cases ho;rw[hd'] at hd;cases hd
theorem Inv.uf (I:Inv X pins σ H s):s.heap.FunFrames X.base X.outer:=by
 have all:∀ (l:List Env),(∀ b∈frs l,b∈X.fs)->X.s₀.heap.FunFrames X.base l->s.heap.FunFrames X.base l:=by
  intro l
  induction l with
  |nil=>intro _ _;trivial
  |cons env r ih=>
   intro hs hl
   obtain⟨hk,⟨L,o,hf,hn,ho,hd⟩,hr⟩:=hl
   have hL:L∈X.fs:=hs L (by unfold frs;rw[List.filterMap_cons,hf];exact ZA)
   obtain⟨sl,e⟩:=I.base.slot L o ho (I.ok.SJ L hL) hL fun z=>I.ok.Og L z hL
   exact⟨hk,⟨L,_,hf,hn,e,hd⟩,ih (fun b hb=>hs b (by unfold frs;rw[List.filterMap_cons,hf];exact Zs _ hb)) hr⟩
 exact all X.outer (fun _ hb=>hb) I.ok.uf
theorem Inv.stack (I:Inv X pins σ H s):s.heap.FunFrames X.base X.stack:=by
 rcases I.ok.stk with e|⟨e,hf⟩
 ·rw[e];exact I.uf
 ·rw[e]
  obtain⟨m,hn,_⟩:=I.loc
  refine .cons (by rw[I.ok.kind];decide) hf hn ?_ I.uf
  exact Heap.get?_none_of_le (zh I.ok.N8 I.ok.above)
theorem Inv.yS (I:Inv X pins σ H s):∀ b∈frs X.stack,b∈X.env.locals::X.fs:=fun b hb=>by
 rcases I.ok.stk with e|⟨e,hf⟩
 ·rw[e] at hb;exact Zs _ hb
 ·rw[e] at hb
  unfold frs at hb
  rw[List.filterMap_cons,hf] at hb
  exact hb
theorem Inv.yH (I:Inv X pins σ H s):∀ b∈frs X.stack,H b=none:=fun b hb=>by
 rcases List.mem_cons.mp (I.yS b hb) with e|hb
 ·rw[e];exact I.free
 ·obtain⟨_,o,ho,_⟩:=I.ok.uf.mem hb
  exact I.base.free b o ho (I.ok.SJ b hb) fun z=>I.ok.Og b z hb
theorem Inv.step {g':Array GenState} {t':Nat} {d':Drawn} {ch:List Addr} (I:Inv X pins σ H s)
  (hch:∀ b∈ch,(b∈X.ex\/X.s₀.heap.objs.size<=b)/\b≠X.env.locals/\(∀ x c,X.env.cells.lookup x=some c->c≠b)/\∀ p∈X.pn++pins,p.1≠b)
  (keep:∀ b o,b≠X.env.locals->b∉X.fs->b∉ch->s.heap.get? b=some o->H b=none->h'.get? b=some o)
  (slot:∀ b o,b≠X.env.locals->b∈X.fs->b∉ch->s.heap.get? b=some o->H b=none->∃ sl,h'.get? b=some { o with slots:=sl }) (free:∀ b o,b∉ch->s.heap.get? b=some o->H b=none->H' b=none)
  (there:∀ b o,b∉ch->s.heap.get? b=some o->∃ o',h'.get? b=some o')
  (tups:∀ b xs,H b=some (.tup xs)->H' b=some (.tup xs)) (oR:∀ b o u,H b=some (.uR o u)->H' b=some (.uR o u)) (qO:∀ b ps,H b=some (.W2 ps)->∃ more,H' b=some (.W2 (ps++more)))
  (ns:∀ m,s.heap.Ns X.env.locals m->h'.Ns X.env.locals m) (hok:qW X.prog X.w H' h') (hg:AllBare g') :
  Inv X pins σ H' { s with heap:=h',gens:=g',drawn:=d',toks:=t' }:=by
 have neL:∀ b o,X.s₀.heap.get? b=some o->b≠X.env.locals:=fun b o e=>ZE (Zl (zt e) I.ok.above)
 have neC:∀ b o,X.s₀.heap.get? b=some o->b∉X.ex->b∉ch:=fun b o e hx hb=>by
  rcases (hch b hb).1 with z|z
  ·exact hx z
  ·exact absurd (Zl (zt e) z) (j0 _)
 have cellK:∀ x c,X.env.cells.lookup x=some c->∀ v,s.heap.IsCell c v->h'.IsCell c v:=fun x c e v ⟨o,ho,hd⟩=>by
  have ZK:c∉ch:=fun z=>(hch c z).2.2.1 x c e rfl
  by_cases hc:c∈X.fs
  ·obtain⟨sl,q⟩:=slot c o (I.SM x c e) hc ZK ho (I.jP x c e)
   exact⟨_,q,hd⟩
  ·exact⟨o,keep c o (I.SM x c e) hc ZK ho (I.jP x c e),hd⟩
 refine⟨I.ok,I.os,hg,⟨fun b o e n hb hx=>?_,fun b o e n hb hx=>?_,fun b o e n hx=>?_,fun b o e hx=>?_,fun b xs e=>tups b xs (I.base.tups b xs e),fun b o xs e=>oR b o xs (I.base.oR b o xs e),fun b ps e=>?_⟩,?_,fun x c e=>?_,?_,fun x c e=>?_,fun p hp=>?_,hok,I.len⟩
 ·exact keep b o (neL b o e) hb (neC b o e hx) (I.base.keep b o e n hb hx) (I.base.free b o e n hx)
 ·obtain⟨sl,e1⟩:=I.base.slot b o e n hb hx
  obtain⟨sl',e2⟩:=slot b _ (neL b o e) hb (neC b o e hx) e1 (I.base.free b o e n hx)
  exact⟨sl',e2⟩
 ·obtain⟨o',e1⟩:=I.base.there b o e hx
  exact free b o' (neC b o e hx) e1 (I.base.free b o e n hx)
 ·obtain⟨o',e1⟩:=I.base.there b o e hx
  exact there b o' (neC b o e hx) e1
 ·obtain⟨m1,e1⟩:=I.base.qO b ps e
  obtain⟨m2,e2⟩:=qO b _ e1
  exact⟨m1++m2,by rw[e2,Array.append_assoc]⟩
 ·obtain⟨m,hn,hl⟩:=I.loc
  refine⟨m,ns m hn,fun i x v e1 e2 e3=>?_⟩
  obtain⟨u,r,l⟩:=hl i x v e1 e2 e3
  refine⟨u,r,?_⟩
  rcases l with l|⟨k,c,e,z⟩
  ·exact .inl l
  ·exact .inr ⟨k,c,e,cellK x c e _ z⟩
 ·obtain⟨v,z⟩:=I.cell x c e
  exact⟨v,cellK x c e v z⟩
 ·obtain⟨m,⟨o,_,_,ho,_⟩,_⟩:=I.loc
  exact free _ o (fun z=>(hch _ z).2.1 rfl) ho I.free
 ·obtain⟨v,o,ho,hd⟩:=I.cell x c e
  exact free c o (fun z=>(hch c z).2.2.1 x c e rfl) ho (I.jP x c e)
 ·obtain⟨e,n,ne,nf,d⟩:=I.pin p hp
  have ZK:p.1∉ch:=fun z=>(hch p.1 z).2.2.2 p hp rfl
  exact⟨keep p.1 p.2 ne nf ZK e n,free p.1 p.2 ZK e n,ne,nf,d⟩
theorem Inv.un {t':Nat} (I:Inv X pins σ H s) (u:Un X.fs [] H H' s.heap h') (hok:qW X.prog X.w H' h'):Inv X pins σ H' { s with heap:=h',toks:=t' }:=by
 obtain⟨m,⟨o,es,ep,ho,r⟩,_⟩:=id I.loc
 obtain⟨sl,hL⟩:=u.any ho I.free (by simp)
 exact I.step (g':=s.gens) (d':=s.drawn) (ch:=[]) (fun _ z=>nomatch z) (fun b o _ hb _ e n=>u.keep b o e n hb (by simp)) (fun b o _ hb _ e n=>u.slot b o e n hb (by simp)) (fun b o _ e n=>u.free b o e n (by simp)) (fun b o _ e=>u.there b o e (by simp)) u.tups u.oR u.qO (fun m' hm=>by
  obtain⟨o',es',ep',ho',r'⟩:=hm
  rw[ho] at ho';cases ho'
  exact⟨_,es',ep',hL,r'⟩) hok I.bare
theorem Inv.call {g':Array GenState} {t':Nat} {d':Drawn} {ch:List Addr} (I:Inv X pins σ H s) (u:Un (frs X.stack) ch H H' s.heap h') (hok:qW X.prog X.w H' h') (hg:AllBare g')
  (hch:∀ b∈ch,(b∈X.ex\/X.s₀.heap.objs.size<=b)/\b≠X.env.locals/\(∀ x c,X.env.cells.lookup x=some c->c≠b)/\∀ p∈X.pn++pins,p.1≠b) :
  Inv X pins σ H' { s with heap:=h',gens:=g',drawn:=d',toks:=t' }:=by
 obtain⟨m,⟨o,es,ep,ho,r⟩,_⟩:=id I.loc
 obtain⟨sl,hL⟩:=u.any ho I.free fun z=>(hch _ z).2.1 rfl
 exact I.step (ch:=ch) hch (fun b o hL hb hc e n=>u.keep b o e n (fun z=>(List.mem_cons.mp (I.yS b z)).elim hL hb) hc) (fun b o _ _ hc e n=>u.any e n hc) (fun b o hc e n=>u.free b o e n hc) (fun b o hc e=>u.there b o e hc) u.tups u.oR u.qO (fun m' hm=>by
  obtain⟨o',es',ep',ho',r'⟩:=hm
  rw[ho] at ho';cases ho'
  exact⟨_,es',ep',hL,r'⟩) hok hg
theorem Inv.turned {t':Nat} {it:Addr} (I:Inv X pins σ H s) (k:∀ b o,b≠it->s.heap.get? b=some o->h'.get? b=some o) (hn:H it=none) (hL:it≠X.env.locals)
  (h1:it∈X.ex\/X.s₀.heap.objs.size<=it) (h2:∀ x c,X.env.cells.lookup x=some c->c≠it) (h3:∀ p∈X.pn++pins,p.1≠it):Inv X pins σ H { s with heap:=h',toks:=t' }:=by
 have nit:∀ b u,H b=some u->b≠it:=fun b u e z=>by rw[z,hn] at e;cases e
 refine I.step (g':=s.gens) (d':=s.drawn) (ch:=[it]) (fun b hb=>?_) (fun b o _ _ hc e _=>k b o (fun z=>hc (by simp[z])) e) (fun b o _ _ hc e _=>⟨o.slots,k b o (fun z=>hc (by simp[z])) e⟩) (fun _ _ _ _ n=>n)
  (fun b o hc e=>⟨o,k b o (fun z=>hc (by simp[z])) e⟩) (fun _ _ e=>e) (fun _ _ _ e=>e) (fun b ps e=>⟨#[],by rw[e];simp⟩) (fun m hm=>?_) (fun b u e=>?_) I.bare
 ·have e:b=it:=by simpa using hb
  subst e
  exact⟨h1,hL,h2,h3⟩
 ·obtain⟨o,es,ep,ho,r⟩:=hm
  exact⟨o,es,ep,k _ o (qq hL) ho,r⟩
 ·refine (I.hok b u e).stay (fun c v hc q=>k c v ?_ q) (fun _ q=>q) fun _ _ q=>q
  rcases hc with z|z
  ·rw[z];exact nit b u e
  ·exact nit c _ z
theorem Inv.tok (I:Inv X pins σ H s) (t:Nat):Inv X pins σ H { s with toks:=t }:=I.un (h':=s.heap) (t':=t) Un.refl I.hok
theorem Inv.kept {t':Nat} (I:Inv X pins σ H s) (k:∀ b u,s.heap.get? b=some u->h'.get? b=some u):Inv X pins σ H { s with heap:=h',toks:=t' }:=I.un (Un.kept k) (I.hok.kept k)
theorem Inv.laid {a:Addr} {o:HO} {t':Nat} (I:Inv X pins σ H s) (k:∀ b u,s.heap.get? b=some u->h'.get? b=some u) (hp:s.heap.objs.size<=a) (new:fj X.prog X.w (upd H a o) h' a o) :
  Inv X pins σ (upd H a o) { s with heap:=h',toks:=t' }:=I.un (Un.laid k hp (I.hok.fresh hp)) (I.hok.laid k hp new)
theorem Inv.write {x e:Addr} {o:HO} {t':Nat} (I:Inv X pins σ H s) (mu:ZF (H x)) (he:e=x\/H e=some (.own x)) (k:∀ b u,b≠e->s.heap.get? b=some u->h'.get? b=some u) (heo:∃ u,h'.get? e=some u)
  (new:fj X.prog X.w (upd H x o) h' x o):Inv X pins σ (upd H x o) { s with heap:=h',toks:=t' }:=I.un (Un.write mu he k heo) (I.hok.write mu he k heo new)
theorem Inv.weak {σ':List (Option V)} (I:Inv X pins σ H s) (hl:σ'.length=σ.length) (w:∀ (i:Nat) v,σ'[i]?=some (some v)->σ[i]?=some (some v)):Inv X pins σ' H s:=
 ⟨I.ok,I.os,I.bare,I.base,let ⟨m,hn,hl'⟩:=I.loc;⟨m,hn,fun i x v e1 e2 e3=>hl' i x v e1 (w i v e2) e3⟩,I.cell,I.free,I.jP,I.pin,I.hok,hl.trans I.len⟩
theorem Inv.uT {Oh:List (Addr×Obj)} (I:Inv X pins σ H s) (h:∀ p∈Oh,s.heap.get? p.1=some p.2/\H p.1=none/\p.1≠X.env.locals/\p.1∉X.fs/\∀ v,p.2.data≠.cell v):Inv X Oh σ H s:=
 ⟨I.ok,I.os,I.bare,I.base,I.loc,I.cell,I.free,I.jP,fun p hp=>(List.mem_append.mp hp).elim (fun z=>I.pin p (qo _ z)) (h p),I.hok,I.len⟩
theorem yU {N:LS_} (hN:N.Nodup) {i j:Nat} {x:Str} (a:N[i]?=some x) (b:N[j]?=some x):i=j:=by
 obtain⟨h1,e1⟩:=List.getElem?_eq_some_iff.mp a
 obtain⟨h2,e2⟩:=List.getElem?_eq_some_iff.mp b
 exact (List.getElem_inj hN).mp (e1.trans e2.symm)
theorem Lf {M:Model} {A:Around} {E:VP_} {i:Nat} {x:Str} {v:V} {u:Value} {Q:Unit->Shared->Prop} (I:Inv X pins σ H s) (hN:X.N.Nodup) (hi:X.N[i]?=some x) (hx:Loc X.env.scope x) (r:RelV v u)
  (h:∀ s',Inv X pins (σ.set i (some v)) H s'->(∃ a,Heap.SameBut a s.heap s'.heap/\(a=X.env.locals\/X.env.cells.lookup x=some a))->Q () s') (hf:X.fn x=true\/X.env.scope.names.lookup x=some .local:=by first|exact .inl rfl|exact .inr rfl|assumption):wpAny M A (storeName X.env x u) Q E s:=by
 obtain⟨m,hn,hl⟩:=id I.loc
 have hcls:(X.env.scope.kind==.class||(X.env.scope.kind==.module&&X.env.locals != X.env.globals))=false:=by rw[I.ok.kind];rfl
 have hiσ:i < σ.length:=by rw[I.len];exact (List.getElem?_eq_some_iff.mp hi).1
 have SM:=I.SM
 have tracked:∀ {a:Addr} {h':Heap},(∃ o,s.heap.get? a=some o/\H a=none)->Heap.SameBut a s.heap h'->qW X.prog X.w H h':=fun {a h'} ha hs b ob e=>by
  obtain⟨_,_,hfree⟩:=ha
  refine (I.hok b ob e).stay (fun c w' hc q=>(hs.2 c ?_).trans q) (fun _ q=>q) fun _ _ q=>q
  rintro rfl
  rcases hc with rfl|hc
  ·rw[hfree] at e;cases e
  ·rw[hfree] at hc;cases hc
 rcases hx with hk|hk
 ·refine wpAny_storeName_local hk hn (fun h' hn' hs=>?_) hcls
  obtain⟨oL,_,_,hoL,_⟩:=id hn
  refine h _ ⟨I.ok,I.os,I.bare,⟨fun b o e n hb hx=>?_,fun b o e n hb hx=>?_,I.base.free,fun b o e hx=>?_,I.base.tups,I.base.oR,I.base.qO⟩,⟨_,hn',fun j y v' e1 e2 e3=>?_⟩,fun y c e=>?_,I.free,I.jP,fun p hp=>?_,tracked ⟨oL,hoL,I.free⟩ hs,by simpa using I.len⟩ ⟨_,hs,.inl rfl⟩
  ·exact (hs.2 b (ZE (Zl (zt e) I.ok.above))).trans (I.base.keep b o e n hb hx)
  ·obtain⟨sl,e1⟩:=I.base.slot b o e n hb hx
   exact⟨sl,(hs.2 b (ZE (Zl (zt e) I.ok.above))).trans e1⟩
  ·obtain⟨o',e1⟩:=I.base.there b o e hx
   exact⟨o',(hs.2 b (ZE (Zl (zt e) I.ok.above))).trans e1⟩
  ·by_cases hj:j=i
   ·subst hj
    rw[hi] at e1;cases e1
    rw[List.getElem?_set_self hiσ] at e2
    cases e2
    exact⟨u,r,.inl ⟨hk,by simp⟩⟩
   ·rw[kf (qq hj)] at e2
    obtain⟨u',r',q⟩:=hl j y v' e1 e2 e3
    refine⟨u',r',?_⟩
    rcases q with⟨k,e⟩|⟨k,c,e,z⟩
    ·refine .inl ⟨k,?_⟩
     have:y≠x:=fun e=>hj (yU hN e1 (e▸hi))
     simp[this,e]
    ·exact .inr ⟨k,c,e,z.sameBut hs (SM y c e)⟩
  ·obtain⟨w',z⟩:=I.cell y c e
   exact⟨w',z.sameBut hs (SM y c e)⟩
  ·obtain⟨e,n,ne,nf,d⟩:=I.pin p hp
   exact⟨(hs.2 p.1 ne).trans e,n,ne,nf,d⟩
 ·have hfn:X.fn x=true:=by
   rcases hf with z|z
   ·exact z
   ·rw[z] at hk;cases hk
  obtain⟨c,hc⟩:=I.ok.has x (.inl hk)
  obtain⟨w',z⟩:=I.cell x c hc
  refine wpAny_storeName_cell I.ok.kind hk hc z (fun h' hc' hs=>?_)
  obtain⟨oc,hoc,acu⟩:=id z
  refine h { s with heap:=h' } ⟨I.ok,I.os,I.bare,⟨fun b o e n hb hx=>?_,fun b o e n hb hx=>?_,I.base.free,fun b o e hx=>?_,I.base.tups,I.base.oR,I.base.qO⟩,⟨m,hn.sameBut hs (qq (SM x c hc)),fun j y v' e1 e2 e3=>?_⟩,fun y c' e=>?_,I.free,I.jP,fun p hp=>?_,tracked ⟨oc,hoc,I.jP x c hc⟩ hs,by simpa using I.len⟩ ⟨c,hs,.inr hc⟩
  ·exact (hs.2 b (ZE (Zl (zt e) (I.ok.cab x c hfn hc)))).trans (I.base.keep b o e n hb hx)
  ·obtain⟨sl,e1⟩:=I.base.slot b o e n hb hx
   exact⟨sl,(hs.2 b (ZE (Zl (zt e) (I.ok.cab x c hfn hc)))).trans e1⟩
  ·obtain⟨o',e1⟩:=I.base.there b o e hx
   exact⟨o',(hs.2 b (ZE (Zl (zt e) (I.ok.cab x c hfn hc)))).trans e1⟩
  ·by_cases hj:j=i
   ·subst hj
    rw[hi] at e1;cases e1
    rw[List.getElem?_set_self hiσ] at e2
    cases e2
    exact⟨u,r,.inr ⟨.inl hk,c,hc,hc'⟩⟩
   ·rw[kf (qq hj)] at e2
    obtain⟨u',r',q⟩:=hl j y v' e1 e2 e3
    refine⟨u',r',?_⟩
    rcases q with q|⟨k,c',e,z'⟩
    ·exact .inl q
    ·refine .inr ⟨k,c',e,z'.sameBut hs ?_⟩
     rintro rfl
     exact hj (yU hN e1 (I.ok.inj _ _ _ e hc▸hi))
  ·by_cases hcc:c'=c
   ·subst hcc;exact⟨_,hc'⟩
   ·obtain⟨w2,z2⟩:=I.cell y c' e
    exact⟨w2,z2.sameBut hs hcc⟩
  ·obtain⟨e,n,ne,nf,d⟩:=I.pin p hp
   refine⟨(hs.2 p.1 ?_).trans e,n,ne,nf,d⟩
   intro q
   rw[q,hoc] at e
   have q':oc=p.2:=Qb e
   exact d w' (by rw[<-q'];exact acu)
theorem qX {M:Model} {A:Around} {E:VP_} {i:Nat} {x:Str} {v:V} {u:Value} {Q:Unit->Shared->Prop} (I:Inv X pins σ H s) (hN:X.N.Nodup) (hi:X.N[i]?=some x) (hx:Loc X.env.scope x) (r:RelV v u)
  (h:∀ s',Inv X pins (σ.set i (some v)) H s'->Q () s') (hf:X.fn x=true\/X.env.scope.names.lookup x=some .local:=by first|exact .inl rfl|exact .inr rfl|assumption):wpAny M A (storeName X.env x u) Q E s:=
 Lf I hN hi hx r (fun s' I' _=>h s' I') hf
theorem Inv.call' {s':Shared} {ch:List Addr} (I:Inv X pins σ H s) (ho:s'.os=s.os) (u:Un (frs X.stack) ch H H' s.heap s'.heap) (hok:qW X.prog X.w H' s'.heap) (hg:AllBare s'.gens)
  (hch:∀ b∈ch,(b∈X.ex\/X.s₀.heap.objs.size<=b)/\b≠X.env.locals/\(∀ x c,X.env.cells.lookup x=some c->c≠b)/\∀ p∈X.pn++pins,p.1≠b):Inv X pins σ H' s':=by
 obtain⟨h',g',d',t',o'⟩:=s'
 have e:o'=s.os:=ho
 subst e
 exact I.call (g':=g') (t':=t') (d':=d') u hok hg hch
end
abbrev XK:=Value->Option Addr->Hp->Prop
abbrev St:=List (Option V)
abbrev VK:=V->Hp->Prop
abbrev TE:=St->Hp->VK->Prop
abbrev TT:=St->Hp->(Bool->Hp->Prop)->Prop
abbrev TA:=St->Hp->(List V->Hp->Prop)->Prop
structure Ends where
 nx:St->Hp->Prop
 rt:VK
 bk:St->Hp->Prop:=fun _ _=>False
 ct:St->Hp->Prop:=fun _ _=>False
abbrev TS:=Ends->St->Hp->Prop
def EP (X:Cx) (pins:List (Addr×Obj)) (σ:St) (Q:VK) (u:Value) (s':Shared):Prop:=∃ v H',Inv X pins σ H' s'/\RelV v u/\Q v H'
def TP (X:Cx) (pins:List (Addr×Obj)) (σ:St) (Q:Bool->Hp->Prop) (b:Bool) (s':Shared):Prop:=∃ H',Inv X pins σ H' s'/\Q b H'
def AP (X:Cx) (pins:List (Addr×Obj)) (σ:St) (Q:List V->Hp->Prop) (us:List Value) (s':Shared):Prop:=∃ vs H',Inv X pins σ H' s'/\Vals vs us/\Q vs H'
def SP (X:Cx) (pins:List (Addr×Obj)) (D:Ends) (f:Flow) (s':Shared):Prop:=
 match f with
 |.next=>∃ σ' H',Inv X pins σ' H' s'/\D.nx σ' H'
 |.brk=>∃ σ' H',Inv X pins σ' H' s'/\D.bk σ' H'
 |.cont=>∃ σ' H',Inv X pins σ' H' s'/\D.ct σ' H'
 |.ret u=>∃ v σ' H',Inv X pins σ' H' s'/\RelV v u/\D.rt v H'
def PE (X:Cx) (e:Expr) (t:TE):Prop:=
 ∀ (pins:List (Addr×Obj)) (s:Shared) (σ:St) (H:Hp) (Q:VK),Inv X pins σ H s->t σ H Q->wpAny (model X.prog X.w) X.A (eval e X.env) (EP X pins σ Q) X.xe s
def PT (X:Cx) (e:Expr) (t:TT):Prop:=
 ∀ (pins:List (Addr×Obj)) (s:Shared) (σ:St) (H:Hp) (Q:Bool->Hp->Prop),Inv X pins σ H s->t σ H Q->wpAny (model X.prog X.w) X.A (isTrue e X.env (eval e X.env)) (TP X pins σ Q) X.xe s
def PW (X:Cx) (e:Expr) (t:TT):Prop:=
 ∀ (whole:Sem Value) (pins:List (Addr×Obj)) (s:Shared) (σ:St) (H:Hp) (Q:Bool->Hp->Prop),Inv X pins σ H s->t σ H Q->wpAny (model X.prog X.w) X.A (isTrue e X.env whole) (TP X pins σ Q) X.xe s
theorem PW.pt {X:Cx} {e:Expr} {t:TT} (h:PW X e t):PT X e t:=h _
def PA (X:Cx) (es:List Expr) (t:TA):Prop:=
 ∀ (pos:Pos) (pins:List (Addr×Obj)) (s:Shared) (σ:St) (H:Hp) (Q:List V->Hp->Prop),Inv X pins σ H s->t σ H Q->wpAny (model X.prog X.w) X.A (spliced (backTo pos (starEach es X.env))) (AP X pins σ Q) X.xe s
def PS (X:Cx) (st:Stmt) (t:TS):Prop:=
 ∀ (pins:List (Addr×Obj)) (s:Shared) (σ:St) (H:Hp) (D:Ends),Inv X pins σ H s->t D σ H->wpAny (model X.prog X.w) X.A (exec st X.env) (SP X pins D) X.xe s
def wJ (X:Cx) (st:List Stmt) (t:TS):Prop:=
 ∀ (pins:List (Addr×Obj)) (s:Shared) (σ:St) (H:Hp) (D:Ends),Inv X pins σ H s->t D σ H->wpAny (model X.prog X.w) X.A (execs st X.env) (SP X pins D) X.xe s
theorem iu {α:Type} {t:Sem α} {Q Q':α->Shared->Prop} {M:Model} {A:Around} {E:VP_} {s:Shared} (h:wpAny M A t Q E s) (hQ:∀ a s,Q a s->Q' a s):wpAny M A t Q' E s:=ZH h hQ fun _ _ x=>x
end L2
namespace L2
open PySem PySem.Spec PyProof.Rows
section
variable {X:Cx}
def Oi (i:Nat):TE:=fun σ H Q=>∃ v,σ[i]?=some (some v)/\Q v H
def tC (v:V):TE:=fun _ H Q=>Q v H
theorem wK {i:Nat} {x:Str} {pos:Pos} (hN:X.N[i]?=some x) (hv:Oe X.env.scope x) (hd:(x==("__debug__" : Str))=false:=by decide) (hcd:(x==("__classdict__" : Str))=false:=by decide):PE X (.Name x pos) (Oi i):=by
 intro pins s σ H Q I h
 obtain⟨v,e,h⟩:=h
 obtain⟨m,hn,hl⟩:=I.loc
 obtain⟨u,r,l⟩:=hl i x v hN e hv
 have fin:EP X pins σ Q u s:=⟨v,H,I,r,h⟩
 rcases l with⟨hk,hm⟩|⟨hk,c,hc,hcell⟩
 ·exact wpAny_Name (wpAny_loadName_local I.ok.kind hk hn hm fin) hd
 ·rcases hk with hk|hk
  ·exact wpAny_Name (wpAny_loadName_cell I.ok.kind hk hc hcell fin) hd
  ·exact wpAny_Name (wpAny_loadName_free I.ok.kind hk hc hcell fin hcd) hd
theorem W3 {i j pos}:PE X (.Constant (.int i) j pos) (tC (.int i)):=fun _ _ _ H _ I h=>wpAny_Constant_int ⟨.int i,H,I.tok _,⟨_,rfl⟩,h⟩
theorem ZL {b j pos}:PE X (.Constant (.bool b) j pos) (tC (.bl b)):=fun _ _ _ H _ I h=>Constant_bool ⟨.bl b,H,I,rfl,h⟩
theorem DG {j pos}:PE X (.Constant .none j pos) (tC .non):=fun _ _ _ H _ I h=>Constant_none ⟨.non,H,I,rfl,h⟩
theorem DK {x j pos}:PE X (.Constant (.str x) j pos) (tC (.str x)):=fun _ _ _ H _ I h=>Calls.Constant_str ⟨.str x,H,I.tok _,⟨_,rfl⟩,h⟩
def Gl (X:Cx) (x:Str):Prop:=X.env.kindOf x=some .globalImplicit
theorem uU {E:VP_} {pins:List (Addr×Obj)} {s:Shared} {σ:St} {H:Hp} {x:Str} {u:Value} {pos:Pos} {Q:VP_} (I:Inv X pins σ H s) (hg:Gl X x) (hm:X.mg x=some u) (h:Q u s)
  (hd:(x==("__debug__" : Str))=false:=by decide):wpAny (model X.prog X.w) X.A (eval (.Name x pos) X.env) Q E s:=
 Calls.Name_function_global I.ok.kind hg (Calls.loadGlobal_global (by rw[I.ok.glob];exact I.mod.glob.keeps I.bk) hm h) hd
theorem yV {E:VP_} {pins:List (Addr×Obj)} {s:Shared} {σ:St} {H:Hp} {x:Str} {u:Value} {pos:Pos} {Q:VP_} (I:Inv X pins σ H s) (hg:Gl X x) (hm:X.mg x=none) (hv:bootBuiltins x=some u) (h:Q u s)
  (hn:x ≠ "__name__" := by decide) (hd:(x==("__debug__" : Str))=false:=by decide):wpAny (model X.prog X.w) X.A (eval (.Name x pos) X.env) Q E s:=by
 obtain⟨mb,h1,h2⟩:=I.mod.blt
 exact Calls.Name_function_global I.ok.kind hg (Calls.loadGlobal_builtin (by rw[I.ok.glob];exact I.mod.glob.keeps I.bk) hm (by rw[I.ok.blt];exact h1.keeps I.bk) ((h2 x hn).trans hv) h) hd
theorem lH {x:Str} {v:V} {u:Value} {pos:Pos} (hg:Gl X x) (hm:X.mg x=some u) (r:RelV v u) (hd:(x==("__debug__" : Str))=false:=by decide):PE X (.Name x pos) (tC v):=
 fun _ _ _ H _ I h=>uU I hg hm ⟨v,H,I,r,h⟩ hd
theorem JX {x:Str} {v:V} {u:Value} {pos:Pos} (hg:Gl X x) (hm:X.mg x=none) (hv:bootBuiltins x=some u) (r:RelV v u) (hn:x ≠ "__name__" := by decide) (hd:(x==("__debug__" : Str))=false:=by decide):PE X (.Name x pos) (tC v):=
 fun _ _ _ H _ I h=>yV I hg hm hv ⟨v,H,I,r,h⟩ hn hd
variable {a b:Expr} {ta tb:TE} {pos:Pos}
def PC (X:Cx) (op:CmpOp) (a b:Expr) (t:TE):Prop:=
 ∀ (pins:List (Addr×Obj)) (s:Shared) (σ:St) (H:Hp) (Q:VK),Inv X pins σ H s->t σ H Q →
  wpAny (model X.prog X.w) X.A (eval a X.env) (fun v s₁=>wpAny (model X.prog X.w) X.A (eval b X.env) (fun u s₂=>wpAny (model X.prog X.w) X.A (compareOp op v u) (EP X pins σ Q) X.xe s₂) X.xe s₁) X.xe s
theorem Oj (b:Expr) {op:CmpOp} (h:op≠.In) (h2:op≠.NotIn):behindInMarks op b=false:=by
 have e1:(op==CmpOp.In)=false:=by cases op<;>first|rfl|exact absurd rfl h
 have e2:(op==CmpOp.NotIn)=false:=by cases op<;>first|rfl|exact absurd rfl h2
 cases b<;>simp[behindInMarks,e1,e2]
def acv (ta:TE):TE:=fun σ H Q=>ta σ H fun x H1=>Q (.bl (decide (x=.non))) H1
theorem RelV.Ol {x:V} {v:Value} (r:RelV x v):(v==Value.none)=decide (x=.non):=by
 cases x with
 |non=>cases r;rfl
 |bl _=>cases r;rfl
 |int _=>obtain⟨t,rfl⟩:=r;rfl
 |str _=>obtain⟨t,rfl⟩:=r;rfl
 |W0 _=>obtain⟨t,rfl⟩:=r;rfl
 |flt _=>obtain⟨t,rfl⟩:=r;rfl
 |ref _=>cases r;rfl
 |ty _=>cases r;rfl
theorem W4 {j pos'} (ha:PE X a ta):PC X .Is a (.Constant .none j pos') (acv ta):=by
 intro pins s σ H Q I h
 refine iu (ha pins s σ H _ I h) fun v s1 ⟨x,H1,I1,r1,q1⟩=>?_
 exact Constant_none (is_none_gen ⟨.bl _,H1,I1,by rw[r1.Ol];rfl,q1⟩)
def tB (t:TE):TT:=fun σ H Q=>t σ H fun x H1=>∃ c,x=.bl c/\Q c H1
theorem W5 {op:CmpOp} {t:TE} (h:PC X op a b t) (h1:behindInMarks op b=false:=by first|exact Oj _ (by decide) (by decide)|rfl):PT X (.Compare a [op] [b] pos) (tB t):=by
 intro pins s σ H Q I hw
 refine wpAny_isTrue_Compare1 (iu (h pins s σ H _ I hw) fun v s1 h1=>iu h1 fun u s2 h2=>iu h2 fun c s3 ⟨x,H1,I1,r1,q1⟩=>?_) h1
 obtain⟨d,rfl,q⟩:=q1
 cases r1
 exact Z3 ⟨H1,I1,q⟩
theorem Ih {e:Expr} {t:TE} (h:PE X e t) (he:∀ whole,isTrue e X.env whole=(do let v <-whole;standAt e.pos;holding [v] (truthy v)):=by intro _;rfl):PT X e (tB t):=by
 intro pins s σ H Q I hw
 refine isTrue_plain (iu (h pins s σ H _ I hw) fun v s1 ⟨x,H1,I1,r1,q1⟩=>?_) (he _)
 obtain⟨d,rfl,q⟩:=q1
 cases r1
 exact Z3 ⟨H1,I1,q⟩
variable {tA tB':TT} {rest:List Expr}
def ZM (t u:TT):TT:=fun σ H Q=>t σ H fun c H1=>if c=true then u σ H1 Q else Q false H1
def tOr (t u:TT):TT:=fun σ H Q=>t σ H fun c H1=>if c=true then Q true H1 else u σ H1 Q
def acw (t:TT):TT:=fun σ H Q=>t σ H fun c H1=>Q (!c) H1
theorem SN (ha:PT X a tA):PW X (.BoolOp .And [a] pos) tA:=by
 intro wh pins s σ H Q I h
 refine isTrue_and (iu (ha pins s σ H Q I h) fun c s1 e=>?_)
 cases c with
 |true=>exact isTrue_and_nil e
 |false=>exact e
theorem Om (ha:PT X a tA):PW X (.BoolOp .Or [a] pos) tA:=by
 intro wh pins s σ H Q I h
 refine isTrue_or (iu (ha pins s σ H Q I h) fun c s1 e=>?_)
 cases c with
 |false=>exact isTrue_or_nil e
 |true=>exact e
theorem W6 (ha:PT X a tA) (hb:PW X (.BoolOp .And (b::rest) pos) tB'):PW X (.BoolOp .And (a::b::rest) pos) (ZM tA tB'):=by
 intro wh pins s σ H Q I h
 refine isTrue_and (iu (ha pins s σ H _ I h) fun c s1 ⟨H1,I1,q1⟩=>?_)
 cases c with
 |true=>exact hb wh pins s1 σ H1 Q I1 q1
 |false=>exact⟨H1,I1,q1⟩
theorem Oo (ha:PT X a tA) (hb:PW X (.BoolOp .Or (b::rest) pos) tB'):PW X (.BoolOp .Or (a::b::rest) pos) (tOr tA tB'):=by
 intro wh pins s σ H Q I h
 refine isTrue_or (iu (ha pins s σ H _ I h) fun c s1 ⟨H1,I1,q1⟩=>?_)
 cases c with
 |true=>exact⟨H1,I1,q1⟩
 |false=>exact hb wh pins s1 σ H1 Q I1 q1
theorem Ii (ha:PT X a tA):PT X (.UnaryOp .Not a pos) (acw tA):=by
 intro pins s σ H Q I h
 exact isTrue_not (ha pins s σ H (fun c H1=>Q (!c) H1) I h)
def ZP (ta tb:TE):TE:=fun σ H Q=>ta σ H fun x H1=>∃ c,x=.bl c/\if c=true then tb σ H1 Q else Q (.bl false) H1
theorem W7 {op} {t:TE} (h:PE X a t):PE X (.BoolOp op [a] pos) t:=fun pins s σ H Q I hw=>BoolOp_one (h pins s σ H Q I hw)
theorem W8 (ha:PE X a ta) (hb:PE X (.BoolOp .And (b::rest) pos) tb):PE X (.BoolOp .And (a::b::rest) pos) (ZP ta tb):=by
 intro pins s σ H Q I h
 refine BoolOp_and (iu (ha pins s σ H _ I h) fun v s1 ⟨x,H1,I1,r1,q1⟩=>?_)
 obtain⟨c,rfl,q1⟩:=q1
 cases r1
 refine Z3 ?_
 cases c with
 |true=>exact hb pins s1 σ H1 Q I1 q1
 |false=>exact⟨.bl false,H1,I1,rfl,q1⟩
end
end L2
namespace L2
open PySem PySem.Spec PyProof.Rows
def pW (K:FG_) (H:Hp) (a:Addr) (xs:List V):Prop:=
 Rd H a (.lst xs) ∨
  ∃ (o:Obj) (its:Array Value) (n:Nat),K.lookup a=some o/\o.cls=.type "list" ∧ o.dict=none/\o.data=.seq its n/\its.size<=sizeLine/\Vals xs its.toList
def uP (K:FG_) (H:Hp) (a:Addr) (xs:List V):Prop:=
 Rd H a (.tup xs) ∨
  ∃ (o:Obj) (its:Array Value) (n:Nat),K.lookup a=some o/\(o.cls=.type "tuple" ∧ o.dict=none)/\o.data=.seq its n/\its.size<=sizeLine/\Vals xs its.toList
def W9:Value->Option V
 |.none=>some .non
 |.bool b=>some (.bl b)
 |.int i _=>some (.int i)
 |.str x _=>some (.str x)
 |.bytes b _=>some (.W0 b)
 |.float b _=>some (.flt b)
 |.ref a=>some (.ref a)
 |.type n=>some (.ty n)
 |_=>none
theorem RelV.abs {x:V} {u:Value} (r:RelV x u):W9 u=some x:=by
 cases x with
 |non=>cases r;rfl
 |bl _=>cases r;rfl
 |int _=>obtain⟨t,rfl⟩:=r;rfl
 |str _=>obtain⟨t,rfl⟩:=r;rfl
 |W0 _=>obtain⟨t,rfl⟩:=r;rfl
 |flt _=>obtain⟨t,rfl⟩:=r;rfl
 |ref _=>cases r;rfl
 |ty _=>cases r;rfl
theorem RelV.inj {x y:V} {u:Value} (r:RelV x u) (q:RelV y u):x=y:=Qb (r.abs.symm.trans q.abs)
theorem Vals.inj:∀ {xs ys:List V} {us:List Value},Vals xs us->Vals ys us->xs=ys
 |_,_,_,.nil,.nil=>rfl
 |_,_,_,.cons r t,.cons r' t'=>by rw[r.inj r',Vals.inj t t']
section
variable {X:Cx} {pins:List (Addr×Obj)} {σ:St} {H:Hp} {s:Shared} {a:Addr} {xs ys:List V}
theorem pW.of {K:FG_} (h:H a=some (.lst xs)):pW K H a xs:=.inl (.inl h)
theorem uP.of {K:FG_} (h:H a=some (.tup xs)):uP K H a xs:=.inl (.inl h)
theorem Inv.list (I:Inv X pins σ H s) (h:pW X.K H a xs):∃ its:List Value,Vals xs its/\PlainL s.heap a its.toArray/\xs.length<=sizeLine:=by
 rcases h with h|⟨o,its,n,hk,hc,hd,hs,hz,r⟩
 ·obtain⟨z,its,n,r,e⟩:=h.ok I.hok
  exact⟨its,r,⟨_,n,e,rfl,rfl,rfl⟩,z⟩
 ·refine⟨its.toList,r,⟨o,n,I.Bt a o hk,hc,hd,by simpa using hs⟩,?_⟩
  have e:=r.length
  simp only[QQ] at e
  omega
theorem Inv.tuple (I:Inv X pins σ H s) (h:uP X.K H a xs):∃ its:List Value,Vals xs its/\IsTup s.heap a its.toArray/\xs.length<=sizeLine:=by
 rcases h with h|⟨o,its,n,hk,hc,hs,hz,r⟩
 ·obtain⟨z,its,r,p⟩:=h.ok I.hok
  exact⟨its,r,p.weak,z⟩
 ·refine⟨its.toList,r,⟨o,I.Bt a o hk,hc.1,n,by simpa using hs⟩,?_⟩
  have e:=r.length
  simp only[QQ] at e
  omega
theorem Inv.yW (I:Inv X pins σ H s) (h:pW X.K H a xs) (h':pW X.K H a ys):xs=ys:=by
 obtain⟨its,r,⟨o,n,e,_,_,d⟩,_⟩:=I.list h
 obtain⟨its',r',⟨o',n',e',_,_,d'⟩,_⟩:=I.list h'
 rw[e] at e';cases e'
 rw[d] at d'
 injection d' with d1 _
 have:its=its':=by simpa using congrArg Array.toList d1
 subst this
 exact r.inj r'
theorem Inv.Ce (I:Inv X pins σ H s) (h:uP X.K H a xs) (h':uP X.K H a ys):xs=ys:=by
 obtain⟨its,r,⟨o,e,_,n,d⟩,_⟩:=I.tuple h
 obtain⟨its',r',⟨o',e',_,n',d'⟩,_⟩:=I.tuple h'
 rw[e] at e';cases e'
 rw[d] at d'
 injection d' with d1 _
 have:its=its':=by simpa using congrArg Array.toList d1
 subst this
 exact r.inj r'
end
abbrev Cx.wish (X:Cx) (E:VP_):Cx:={ X with xe:=E }
abbrev Cx.Ia (X:Cx):Cx:=X.wish fun _ _=>False
theorem Cx.Ok.wish {X:Cx} (ok:X.Ok) (E:VP_):(X.wish E).Ok:=
 ⟨ok.mod,ok.kind,ok.glob,ok.blt,ok.above,ok.inj,ok.has,ok.cab,ok.hd,ok.frames,ok.stk,ok.exf,ok.bs,ok.N8,ok.Le,ok.Og,ok.uf,ok.SJ⟩
theorem Cx.Ok.jw {X:Cx} {E:VP_} (ok:(X.wish E).Ok):X.Ok:=
 ⟨ok.mod,ok.kind,ok.glob,ok.blt,ok.above,ok.inj,ok.has,ok.cab,ok.hd,ok.frames,ok.stk,ok.exf,ok.bs,ok.N8,ok.Le,ok.Og,ok.uf,ok.SJ⟩
section
variable {X:Cx} {pins:List (Addr×Obj)} {σ:St} {H:Hp} {s:Shared} {E:VP_}
theorem Inv.wish (I:Inv X pins σ H s) (E:VP_):Inv (X.wish E) pins σ H s:=⟨I.ok.wish E,I.os,I.bare,I.base,I.loc,I.cell,I.free,I.jP,I.pin,I.hok,I.len⟩
theorem Inv.jw (I:Inv (X.wish E) pins σ H s):Inv X pins σ H s:=⟨I.ok.jw,I.os,I.bare,I.base,I.loc,I.cell,I.free,I.jP,I.pin,I.hok,I.len⟩
theorem SP.jw {D:Ends} {f:Flow} {s':Shared} (h:SP (X.wish E) pins D f s'):SP X pins D f s':=by
 cases f with
 |next=>obtain⟨σ',H',I,q⟩:=h;exact⟨σ',H',I.jw,q⟩
 |brk=>obtain⟨σ',H',I,q⟩:=h;exact⟨σ',H',I.jw,q⟩
 |cont=>obtain⟨σ',H',I,q⟩:=h;exact⟨σ',H',I.jw,q⟩
 |ret u=>obtain⟨v,σ',H',I,r,q⟩:=h;exact⟨v,σ',H',I.jw,r,q⟩
theorem PE.Ia {e:Expr} {t:TE} (h:PE X.Ia e t):PE X e t:=fun pins s σ H Q I hw=>
 ZH (h pins s σ H Q (I.wish _) hw) (fun _ _ ⟨v,H',I',r,q⟩=>⟨v,H',I'.jw,r,q⟩) fun _ _ z=>False.elim z
theorem PT.Ia {e:Expr} {t:TT} (h:PT X.Ia e t):PT X e t:=fun pins s σ H Q I hw=>
 ZH (h pins s σ H Q (I.wish _) hw) (fun _ _ ⟨H',I',q⟩=>⟨H',I'.jw,q⟩) fun _ _ z=>False.elim z
theorem wJ.Ia {st:List Stmt} {t:TS} (h:wJ X.Ia st t):wJ X st t:=fun pins s σ H D I hw=>
 ZH (h pins s σ H D (I.wish _) hw) (fun _ _ q=>q.jw) fun _ _ z=>False.elim z
end
section
variable {X:Cx} {st:Stmt} {rest:List Stmt} {t u:TS} {e:Expr} {te:TE} {pos:Pos}
def ZQ:TS:=fun D σ H=>D.nx σ H
def acy (t u:TS):TS:=fun D σ H=>t { D with nx:=u D } σ H
theorem yI:wJ X [] ZQ:=fun _ _ σ H _ I h=>ki ⟨σ,H,I,h⟩
theorem jy (h1:PS X st t) (h2:wJ X rest u):wJ X (st::rest) (acy t u):=by
 intro pins s σ H D I h
 refine kK (iu (h1 pins s σ H { D with nx:=u D } I h) fun f s1 q=>?_)
 cases f with
 |next=>
  obtain⟨σ',H',I',q⟩:=q
  exact h2 pins s1 σ' H' D I' q
 |ret v=>exact q
 |brk=>exact q
 |cont=>exact q
theorem tL (h1:PS X st t):wJ X [st] t:=by
 intro pins s σ H D I h
 refine kK (iu (h1 pins s σ H D I h) fun f s1 q=>?_)
 cases f with
 |next=>exact ki q
 |ret v=>exact q
 |brk=>exact q
 |cont=>exact q
theorem Inv.quiet {pins:List (Addr×Obj)} {σ:St} {H:Hp} {s:Shared} (I:Inv X pins σ H s):interactive X.env=false:=by simp[interactive,I.ok.kind]
def ZR (te:TE):TS:=fun D σ H=>te σ H fun _ H1=>D.nx σ H1
theorem JZ (he:PE X e te) (hs:swapsWith e none pos.line X.env=pure false:=by rfl):PS X (.Expr e pos) (ZR te):=by
 intro pins s σ H D I h
 exact wpAny_Expr_any (iu (he pins s σ H _ I h) fun v s1 ⟨x,H1,I1,r1,q1⟩=>⟨σ,H1,I1,q1⟩) I.quiet hs
def acz (te:TE):TS:=fun D σ H=>te σ H D.rt
theorem yX (he:PE X e te):PS X (.Return (some e) pos) (acz te):=by
 intro pins s σ H D I h
 exact wpAny_Return_some (iu (he pins s σ H _ I h) fun v s1 ⟨x,H1,I1,r1,q1⟩=>⟨x,σ,H1,I1,r1,q1⟩)
def acA (c:TT) (t u:TS):TS:=fun D σ H=>c σ H fun b H1=>if b=true then t D σ H1 else u D σ H1
theorem FZ {c:Expr} {a b:List Stmt} {tc:TT} (hc:PT X c tc) (ha:wJ X a t) (hb:wJ X b u):PS X (.If c a b pos) (acA tc t u):=by
 intro pins s σ H D I h
 refine wpAny_If (iu (hc pins s σ H _ I h) fun d s1 ⟨H1,I1,q1⟩=>?_)
 cases d with
 |true=>exact ha pins s1 σ H1 D I1 q1
 |false=>exact hb pins s1 σ H1 D I1 q1
def Oq:TS:=fun _ _ _=>False
theorem Cg {sts:List Stmt}:wJ X sts Oq:=fun _ _ _ _ _ _ h=>h.elim
end
abbrev TG:=V->St->Hp->(St->Hp->Prop)->Prop
abbrev VR:=List V->St->Hp->(St->Hp->Prop)->Prop
def PG (X:Cx) (target:Expr) (t:TG):Prop:=
 ∀ (pins:List (Addr×Obj)) (s:Shared) (σ:St) (H:Hp) (v:V) (u:Value) (Q:St->Hp->Prop),Inv X pins σ H s->RelV v u->t v σ H Q →
  wpAny (model X.prog X.w) X.A (assign target X.env u) (fun _ s'=>∃ σ' H',Inv X pins σ' H' s'/\Q σ' H') X.xe s
def Ot (X:Cx) (ts:List Expr) (t:VR):Prop:=
 ∀ (pins:List (Addr×Obj)) (s:Shared) (σ:St) (H:Hp) (vs:List V) (us:List Value) (Q:St->Hp->Prop),Inv X pins σ H s->Vals vs us->t vs σ H Q →
  wpAny (model X.prog X.w) X.A (assignInOrder ((assignEach ts X.env).map (·.2)) us) (fun _ s'=>∃ σ' H',Inv X pins σ' H' s'/\Q σ' H') X.xe s
section
variable {X:Cx} {pos:Pos}
def V0 (i:Nat):TG:=fun v σ H Q=>Q (σ.set i (some v)) H
theorem yJ {i:Nat} {x:Str} (hN:X.N.Nodup) (hi:X.N[i]?=some x) (hx:Loc X.env.scope x) (hf:X.fn x=true\/X.env.scope.names.lookup x=some .local:=by first|exact .inl rfl|exact .inr rfl|assumption):PG X (.Name x pos) (V0 i):=by
 intro pins s σ H v u Q I r h
 exact wpAny_assign_Name (qX I hN hi hx r (fun s' I'=>⟨_,H,I',h⟩) hf)
def acB:VR:=fun vs σ H Q=>vs=[]/\Q σ H
def ZS (t:TG) (u:VR):VR:=fun vs σ H Q=>∃ v r,vs=v::r/\t v σ H fun σ' H'=>u r σ' H' Q
theorem SQ:Ot X [] acB:=by
 intro pins s σ H vs us Q I r h
 obtain⟨e,h⟩:=h
 subst e
 cases r
 exact assignInOrder_nil ⟨σ,H,I,h⟩
theorem Ou {e:Expr} {es:List Expr} {t:TG} {u:VR} (h1:PG X e t) (h2:Ot X es u)
  (hs:(assignEach (e::es) X.env).map (·.2)=assign e X.env::(assignEach es X.env).map (·.2):=by rfl):Ot X (e::es) (ZS t u):=by
 intro pins s σ H vs us Q I r h
 obtain⟨v,vr,e1,h⟩:=h
 subst e1
 cases r with
 |cons r rr=>
  rw[hs]
  refine assignInOrder_cons (iu (h1 pins s σ H _ _ _ I r h) fun _ s1 ⟨σ1,H1,I1,q1⟩=>?_)
  exact h2 pins s1 σ1 H1 _ _ Q I1 rr q1
def acC (K:FG_) (n:Nat) (t:VR):TG:=fun v σ H Q=>∃ a xs,v=.ref a/\uP K H a xs/\xs.length=n/\t xs σ H Q
theorem Xa {es:List Expr} {k:Nat} {t:VR} {n:Nat} (hc:X.calm=true) (h:Ot X es t)
  (hn:(assignEach es X.env).length=n:=by rfl) (hst:(assignEach es X.env).findIdx? (·.1)=none:=by rfl):PG X (.Tuple es k pos) (acC X.K n t):=by
 intro pins s σ H v u Q I r hw
 obtain⟨a,xs,e1,hq,hl,hw⟩:=hw
 subst e1
 cases r
 obtain⟨its,rv,ht,hz⟩:=I.tuple hq
 refine assign_Tuple_tuple (I.ok.hd hc) ht (by simp[hn,<-hl,rv.length]) hst fun h' hx=>?_
 have I1:Inv X pins σ H { s with heap:=h' }:=I.kept (t':=s.toks) fun b o e=>hx b o (ZE (zt e)) e
 exact h pins _ σ H xs _ Q I1 (by simpa using rv) hw
def ZV (te:TE) (g:TG):TS:=fun D σ H=>te σ H fun x H1=>g x σ H1 D.nx
theorem Xb {tg e:Expr} {te:TE} {g:TG} (he:PE X e te) (hg:PG X tg g) (hs:swapsWithSole [tg] e pos.line X.env=pure false:=by rfl) (hw:swappedStores [tg] e X.env=pure none:=by rfl)
  (h1:(assignEach [tg] X.env).map (·.2)=[assign tg X.env]:=by rfl):PS X (.Assign [tg] e pos) (ZV te g):=by
 intro pins s σ H D I h
 refine wpAny_Assign_stores (iu (he pins s σ H _ I h) fun v s1 ⟨x,H1,I1,r1,q1⟩=>?_) hs hw
 rw[h1]
 exact iu (hg pins s1 σ H1 x v _ I1 r1 q1) fun _ s2 q=>q
theorem yZ {i:Nat} {x:Str} {e:Expr} {te:TE} {pos':Pos} (hN:X.N.Nodup) (hi:X.N[i]?=some x) (hx:Loc X.env.scope x) (he:PE X e te) (hs:swapsWith e (some (.Name x pos')) pos.line X.env=pure false:=by rfl) (hf:X.fn x=true\/X.env.scope.names.lookup x=some .local:=by first|exact .inl rfl|exact .inr rfl|assumption) :
  PS X (.Assign [.Name x pos'] e pos) (ZV te (V0 i)):=by
 intro pins s σ H D I h
 refine wpAny_Assign_Name (iu (he pins s σ H _ I h) fun v s1 ⟨y,H1,I1,r1,q1⟩=>?_) hs
 exact qX I1 hN hi hx r1 (fun s2 I2=>⟨_,H1,I2,q1⟩) hf
end
structure It where
 go:Nat->Hp->Prop
 ZW:Nat->Hp->V->Hp->Prop
 stop:Nat->Hp->Prop
def qP (X:Cx) (pins:List (Addr×Obj)) (H:Hp) (b:Addr):Prop:=
 H b=none/\b≠X.env.locals/\b∉X.fs/\(b∈X.ex\/X.s₀.heap.objs.size<=b)/\(∀ x c,X.env.cells.lookup x=some c->c≠b)/\∀ p∈X.pn++pins,p.1≠b
theorem Inv.Lg {X:Cx} {pins:List (Addr×Obj)} {σ:St} {H H':Hp} {s:Shared} {b:Addr} (I:Inv X pins σ H s) (hb:s.heap.objs.size<=b) (hn:H' b=none):qP X pins H' b:=by
 refine⟨hn,Q3 (Zl I.lt hb),I.acs hb,.inr (zh I.sz hb),fun x c e z=>?_,fun p hp z=>?_⟩
 ·obtain⟨v,q⟩:=I.cell x c e
  exact absurd (Zl q.lt (by rw[z];exact hb)) (j0 _)
 ·exact absurd (Zl (zt (I.pin p hp).1) (by rw[z];exact hb)) (j0 _)
structure Turn (P:Program) (w:World) (K:FG_) (tg:Expr) (J:It) (fp:List Addr) (it:Addr) (tn:Nat->Heap->Prop):Prop where
 mem:it∈fp
 obj:∀ i h,tn i h->∀ b∈fp,∃ o,h.get? b=some o/\∀ v,o.data≠.cell v
 keep:∀ i h h',tn i h->(∀ b∈fp,∀ o,h.get? b=some o->h'.get? b=some o)->tn i h'
 item:∀ (X:Cx),X.prog=P->X.w=w->X.K=K->X.calm=true->∀ (i:Nat) (pins:List (Addr×Obj)) (s:Shared) (σ:St) (H:Hp) (E:VP_),Inv X pins σ H s->(∀ b∈fp,qP X pins H b)->tn i s.heap->J.go i H →
  wpAny (model P w) X.A (pyNext (.ref it)) (fun r s1=>∃ u,r=some u ∧
   wpAny (model P w) X.A (letOwnedTupleGo tg (.ref it) u) (fun _ s2=>∃ x H',Inv X pins σ H' s2/\RelV x u/\J.ZW i H x H'/\tn (i+1) s2.heap/\∀ b∈fp,H' b=none) E s1) E s
 done:∀ (X:Cx),X.prog=P->X.w=w->X.K=K->X.calm=true->∀ (i:Nat) (pins:List (Addr×Obj)) (s:Shared) (σ:St) (H:Hp) (E:VP_),Inv X pins σ H s->(∀ b∈fp,qP X pins H b)->tn i s.heap->J.stop i H →
  wpAny (model P w) X.A (pyNext (.ref it)) (fun r s1=>r=none/\Inv X pins σ H s1) E s
 self:∀ (A:Around) (i:Nat) (s:Shared) (Q:VP_) (E:VP_),tn i s.heap->Q (.ref it) s->wpAny (model P w) A (pyIter (.ref it)) Q E s
abbrev TI:=St->Hp->(It->Hp->Prop)->Prop
def PIE (X:Cx) (pins:List (Addr×Obj)) (σ:St) (tg:Expr) (R:It->Hp->Prop) (itv:Value) (s2:Shared):Prop:=
 ∃ (it:Addr) (fp:List Addr) (tn:Nat->Heap->Prop) (J:It) (H':Hp),itv=.ref it/\Inv X pins σ H' s2/\Turn X.prog X.w X.K tg J fp it tn/\tn 0 s2.heap/\(∀ b∈fp,qP X pins H' b)/\R J H'
def PI (X:Cx) (tg iter:Expr) (wi:TI):Prop:=
 ∀ (pins:List (Addr×Obj)) (s:Shared) (σ:St) (H:Hp) (R:It->Hp->Prop),Inv X pins σ H s->wi σ H R →
  wpAny (model X.prog X.w) X.A (eval iter X.env) (fun v s1=>wpAny (model X.prog X.w) X.A (pyIter v) (PIE X pins σ tg R) X.xe s1) X.xe s
theorem Ga {M:Model} {A:Around} {E:VP_} {s:Shared} {tg:Expr} {it:Addr} {u:Value} {o:Obj} {n:String} {vs:Array Value} {Q:Unit->Shared->Prop} (ho:s.heap.get? it=some o) (hc:o.cls=.type n) (hd:o.data=.fields vs)
  (hn:["enumerate", "zip", "dict_itemiterator", "dict_reverseitemiterator", "odict_iterator", "itertools.zip_longest", "itertools.pairwise"].contains n=false) (hQ:Q () s):wpAny M A (letOwnedTupleGo tg (.ref it) u) Q E s:=by
 unfold letOwnedTupleGo
 cases tg<;>first
  |exact ze hQ
  |(cases u<;>first
    |exact ze hQ
    |(refine zb (wpAny_load ho ?_)
      rw[hc,hd]
      show wpAny M A (if (["enumerate", "zip", "dict_itemiterator", "dict_reverseitemiterator", "odict_iterator", "itertools.zip_longest", "itertools.pairwise"].contains n&&vs[0]?==some (rawInt _))=true then _ else _) Q E s
      rw[zw (by intro h;rw[hn,Bool.false_and] at h;cases h)]
      exact ze hQ))
def Itl (K:FG_) (a:Addr):It:=
 ⟨fun i H=>∃ xs x,pW K H a xs/\xs[i]?=some x,fun i H x H'=>H'=H/\∀ xs,pW K H a xs->xs[i]?=some x,fun i H=>∃ xs,pW K H a xs/\xs.length<=i⟩
def Itt (K:FG_) (a:Addr):It:=
 ⟨fun i H=>∃ xs x,uP K H a xs/\xs[i]?=some x,fun i H x H'=>H'=H/\∀ xs,uP K H a xs->xs[i]?=some x,fun i H=>∃ xs,uP K H a xs/\xs.length<=i⟩
def Itr (lo:Int) (n:Nat):It:=⟨fun i _=>i < n,fun i H x H'=>H'=H/\x=.int (lo+i),fun i _=>n<=i⟩
theorem Lh {P:Program} {w:World} {K:FG_} {tg:Expr} (a it:Addr):Turn P w K tg (Itl K a) [it] it (fun i h=>h.IsListIter it a i) where
 mem:=by simp
 obj:=fun i h st b hb=>by
  have e:b=it:=by simpa using hb
  subst e
  obtain⟨o,e,c,d⟩:=st
  exact⟨o,e,fun v z=>by rw[d] at z;cases z⟩
 keep:=fun i h h' st k=>st.at fun o e=>k it (by simp) o e
 item:=by
  intro X hP hw hK hc i pins s σ H E I hf st hg
  subst hP hw hK
  obtain⟨xs,x,hq,hx⟩:=hg
  obtain⟨its,rv,p,hz⟩:=I.list hq
  obtain⟨u,hu,ru⟩:=rv.get hx
  obtain⟨f0,f1,f2,f3,f4,f5⟩:=hf it (by simp)
  refine wpAny_pyNext_list_item st p.isList (x:=u) (by simpa using hu) fun h' st' sb=>?_
  have I1:Inv X pins σ H { s with heap:=h' }:=I.turned (t':=s.toks) (fun b o hb e=>(sb.2 b hb).trans e) f0 f1 f3 f4 f5
  obtain⟨o,e,c,d⟩:=id st'
  exact⟨u,rfl,Ga (s:={ s with heap:=h' }) e c d (by decide) ⟨x,H,I1,ru,⟨rfl,fun ys hy=>by rw[I.yW hy hq];exact hx⟩,st',fun b hb=>(hf b hb).1⟩⟩
 done:=by
  intro X hP hw hK hc i pins s σ H E I hf st hg
  subst hP hw hK
  obtain⟨xs,hq,hx⟩:=hg
  obtain⟨its,rv,p,hz⟩:=I.list hq
  obtain⟨f0,f1,f2,f3,f4,f5⟩:=hf it (by simp)
  have hl:=rv.length
  exact wpAny_pyNext_list_end (I.ok.hd hc) st p.isList (by simp;omega) fun h' eb=>⟨rfl,I.turned (t':=s.toks) (fun b o hb e=>eb b o hb e) f0 f1 f3 f4 f5⟩
 self:=fun _ _ _ _ _ st h=>wpAny_pyIter_listiter st h
theorem Ij {P:Program} {w:World} {K:FG_} {tg:Expr} (a it:Addr):Turn P w K tg (Itt K a) [it] it (fun i h=>h.IsTupleIter it a i) where
 mem:=by simp
 obj:=fun i h st b hb=>by
  have e:b=it:=by simpa using hb
  subst e
  obtain⟨o,e,c,d⟩:=st
  exact⟨o,e,fun v z=>by rw[d] at z;cases z⟩
 keep:=fun i h h' st k=>st.at fun o e=>k it (by simp) o e
 item:=by
  intro X hP hw hK hc i pins s σ H E I hf st hg
  subst hP hw hK
  obtain⟨xs,x,hq,hx⟩:=hg
  obtain⟨its,rv,p,hz⟩:=I.tuple hq
  obtain⟨u,hu,ru⟩:=rv.get hx
  obtain⟨f0,f1,f2,f3,f4,f5⟩:=hf it (by simp)
  refine wpAny_pyNext_tuple_item st (show s.heap.IsTuple a its.toArray from p) (x:=u) (by simpa using hu) fun h' st' sb=>?_
  have I1:Inv X pins σ H { s with heap:=h' }:=I.turned (t':=s.toks) (fun b o hb e=>(sb.2 b hb).trans e) f0 f1 f3 f4 f5
  obtain⟨o,e,c,d⟩:=id st'
  exact⟨u,rfl,Ga (s:={ s with heap:=h' }) e c d (by decide) ⟨x,H,I1,ru,⟨rfl,fun ys hy=>by rw[I.Ce hy hq];exact hx⟩,st',fun b hb=>(hf b hb).1⟩⟩
 done:=by
  intro X hP hw hK hc i pins s σ H E I hf st hg
  subst hP hw hK
  obtain⟨xs,hq,hx⟩:=hg
  obtain⟨its,rv,p,hz⟩:=I.tuple hq
  obtain⟨f0,f1,f2,f3,f4,f5⟩:=hf it (by simp)
  have hl:=rv.length
  exact wpAny_pyNext_tuple_end (I.ok.hd hc) st (show s.heap.IsTuple a its.toArray from p) (by simp;omega) fun h' eb=>⟨rfl,I.turned (t':=s.toks) (fun b o hb e=>eb b o hb e) f0 f1 f3 f4 f5⟩
 self:=fun _ _ _ _ _ st h=>wpAny_pyIter_tupleiter st h
theorem Ik {P:Program} {w:World} {K:FG_} {tg:Expr} (it:Addr) (lo:Int) (n:Nat):Turn P w K tg (Itr lo n) [it] it (fun i h=>IsRangeIter h it (lo+(i:Nat) * 1) ((n:Int) - (i:Nat)) 1) where
 mem:=by simp
 obj:=fun i h st b hb=>by
  have e:b=it:=by simpa using hb
  subst e
  exact⟨_,st,fun v z=>by
   have z':Data.fields _=Data.cell v:=z
   cases z'⟩
 keep:=fun i h h' st k=>k it (by simp) _ st
 item:=by
  intro X hP hw hK hc i pins s σ H E I hf st hg
  subst hP hw hK
  obtain⟨f0,f1,f2,f3,f4,f5⟩:=hf it (by simp)
  have W:=Walks.range (prog:=X.prog) (w:=X.w) (I.ok.hd hc) it lo 1 n
  refine W.item i s _ _ hg st fun v h' tk hv st' kk=>?_
  obtain⟨t,rfl⟩:=hv
  have I1:Inv X pins σ H { s with heap:=h',toks:=tk }:=I.turned (fun b o hb e=>kk b o (by simpa using hb) e) f0 f1 f3 f4 f5
  refine⟨_,rfl,Ga (s:={ s with heap:=h',toks:=tk }) (n := "range_iterator") st' rfl rfl (by decide) ⟨.int (lo+i),H,I1,⟨t,?_⟩,⟨rfl,rfl⟩,st',fun b hb=>(hf b hb).1⟩⟩
  rw[Int.mul_one]
 done:=by
  intro X hP hw hK hc i pins s σ H E I hf st hg
  subst hP hw hK
  obtain⟨f0,f1,f2,f3,f4,f5⟩:=hf it (by simp)
  exact wpAny_pyNext_range_end (I.ok.hd hc) st (by have:n<=i:=hg;omega) fun h' eb=>⟨rfl,I.turned (t':=s.toks) (fun b o hb e=>eb b o hb e) f0 f1 f3 f4 f5⟩
 self:=fun _ _ _ _ _ st h=>wpAny_pyIter_rangeiter st h
end L2
namespace L2
open PySem PySem.Spec PyProof.Rows
section
variable {X:Cx} {tg:Expr}
theorem Ov {pins:List (Addr×Obj)} {σ:St} {H:Hp} {s:Shared} {R:It->Hp->Prop} {E:VP_} {lo hi:Int} {t u v:Tok} {tk:Nat} (I:Inv X pins σ H s) (h1 : -(2 ^ 62)<=lo) (h2:lo < 2 ^ 62) (h3 : -(2 ^ 62)<=hi) (h4:hi < 2 ^ 62)
  (q:R (Itr lo (hi - lo).toNat) H):wpAny (model X.prog X.w) X.A (pyIter (.ref s.heap.objs.size)) (PIE X pins σ tg R) E { s with heap:=s.heap.push { cls:=.type "range", data:=.fields #[.int lo t,.int hi u,.int 1 v] },toks:=tk }:=by
 refine wpAny_pyIter_range (IsRange.new ..) (small_one h1 h2 h3 h4) ?_
 have I1:Inv X pins σ H { s with heap:=s.heap.push { cls:=.type "range", data:=.fields #[.int lo t,.int hi u,.int 1 v] },toks:=tk }:=I.kept fun b o e=>zd _ e
 refine⟨(s.heap.push { cls:=.type "range", data:=.fields #[.int lo t,.int hi u,.int 1 v] }).objs.size,[(s.heap.push { cls:=.type "range", data:=.fields #[.int lo t,.int hi u,.int 1 v] }).objs.size],_,_,H,rfl,
  I1.kept (t':=tk) fun b o e=>zd _ e,Ik _ lo (hi - lo).toNat,?_,fun b hb=>?_,q⟩
 ·have e1:lo+((0:Nat):Int) * 1=lo:=by simp
  have e2:(((hi - lo).toNat:Nat):Int) - ((0:Nat):Int)=Builtin.Range.rangeSize lo hi 1:=by rw[rangeSize_one];split<;>omega
  show IsRangeIter _ _ (lo+((0:Nat):Int) * 1) ((((hi - lo).toNat:Nat):Int) - ((0:Nat):Int)) 1
  rw[e1,e2]
  exact zC _ rfl
 ·have e:b=(s.heap.push { cls:=.type "range", data:=.fields #[.int lo t,.int hi u,.int 1 v] }).objs.size:=by simpa using hb
  subst e
  exact I1.Lg (zk _) (I1.hok.fresh (zk _))
def ZX (ta:TA):TI:=fun σ H R=>ta σ H fun vs H1=>∃ j:Int,vs=[.int j] ∧ -(2 ^ 62)<=j/\j < 2 ^ 62/\R (Itr 0 j.toNat) H1
theorem Li {a:Expr} {ta:TA} {p pos:Pos} (hg:Gl X "range") (hm:X.mg "range" = none) (ha:PA X [a] ta) (hs:starEach [a] X.env=[(false,eval a X.env)]:=by rfl):PI X tg (.Call (.Name "range" p) [a] [] pos) (ZX ta):=by
 intro pins s σ H R I h
 refine Call_ (yV I hg hm boot_range (PyProof.Rows.callWith_type1 (iu (ha pos pins s σ H _ I h) fun us s1 ⟨vs,H1,I1,r1,q1⟩=>?_) hs rfl))
 obtain⟨j,e,q1,q2,q⟩:=q1
 subst e
 cases r1 with
 |cons r rr=>
  cases rr
  obtain⟨t,rfl⟩:=r
  exact call_range_1 (Ov I1 (by omega) (by omega) q1 q2 (by simpa using q))
def acF (wi:TI) (g:TG) (tb:TS):TS:=fun D σ H=>wi σ H fun J H1=>∃ W:Nat->Nat->St->Hp->Prop,(∃ m,W 0 m σ H1)/\∀ i m σ H,W i m σ H →
 (J.stop i H/\D.nx σ H)\/(J.go i H/\∃ N:St->Hp->Prop,(∀ σ' H',N σ' H'->∃ m',m' < m/\W (i+1) m' σ' H')/\∀ x H',J.ZW i H x H'->g x σ H' fun σ2 H2=>tb { D with nx:=N,ct:=N,bk:=D.nx } σ2 H2)
def wL (fp:List Addr) (h:Heap):List (Addr×Obj):=fp.filterMap fun b=>(h.get? b).map fun o=>(b,o)
theorem pX {fp:List Addr} {h:Heap} {b:Addr} {o:Obj} (hb:b∈fp) (e:h.get? b=some o):(b,o)∈wL fp h:=List.mem_filterMap.mpr ⟨b,hb,by rw[e];rfl⟩
theorem Lj {fp:List Addr} {h:Heap} {p:Addr×Obj} (hp:p∈wL fp h):p.1∈fp/\h.get? p.1=some p.2:=by
 obtain⟨b,hb,e⟩:=List.mem_filterMap.mp hp
 cases q:h.get? b with
 |none=>rw[q] at e;cases e
 |some o=>
  rw[q] at e
  have e':(b,o)=p:=Qb e
  subst e'
  exact⟨hb,q⟩
theorem Inv.pinned {pins:List (Addr×Obj)} {σ:St} {H:Hp} {s:Shared} {fp:List Addr} (I:Inv X pins σ H s) (hf:∀ b∈fp,qP X pins H b) (ho:∀ b∈fp,∃ o,s.heap.get? b=some o/\∀ v,o.data≠.cell v):Inv X (pins++wL fp s.heap) σ H s:=
 I.uT fun p hp=>(List.mem_append.mp hp).elim (fun z=>I.pin p (zI _ z)) fun z=>by
  obtain⟨hb,e⟩:=Lj z
  obtain⟨f0,f1,f2,_⟩:=hf p.1 hb
  obtain⟨o,e',d⟩:=ho p.1 hb
  rw[e] at e';cases e'
  exact⟨e,f0,f1,f2,d⟩
theorem Inv.oU {pins pl:List (Addr×Obj)} {σ:St} {H:Hp} {s:Shared} (I:Inv X (pins++pl) σ H s):Inv X pins σ H s:=I.uT fun p hp=>I.pin p (zI _ (qo _ hp))
theorem Ow {iter:Expr} {body:List Stmt} {wi:TI} {g:TG} {tb:TS} {pos:Pos} (hp:PassesOwn (model X.prog X.w) X.A X.env X.xe) (hc:X.calm=true) (hi:PI X tg iter wi) (hg:PG X tg g) (hb:wJ X body tb)
  (hs:∀ x,foldedSetIterable iter X.env x=pure x:=by intro _;rfl):PS X (.For tg iter body [] pos) (acF wi g tb):=by
 intro pins s σ H D I h
 refine wpAny_For (iu (hi pins s σ H _ I h) fun v s1 h1=>iu h1 fun itv s2 h2=>?_) hs
 obtain⟨it,fp,tn,J,H2,e,I2,T,st2,f2,W,⟨m0,w0⟩,turn⟩:=h2
 subst e
 have stat:∀ {H':Hp},(∀ b∈fp,H' b=none)->∀ b∈fp,qP X pins H' b:=fun hn b hb=>⟨hn b hb,(f2 b hb).2⟩
 refine codeAny_forLoop_any (fun n s'=>∃ i σ' H',Inv X pins σ' H' s'/\tn i s'.heap/\(∀ b∈fp,H' b=none)/\W i n σ' H') ?_ m0 ⟨0,σ,H2,I2,st2,fun b hb=>(f2 b hb).1,w0⟩
 rintro n s3 ⟨i,σ3,H3,I3,st3,fr3,w3⟩
 rcases turn i n σ3 H3 w3 with⟨stop,qn⟩|⟨go,N,hN,step⟩
 ·refine kg hp (iu (T.done X rfl rfl rfl hc i pins s3 σ3 H3 X.xe I3 (stat fr3) st3 stop) fun r s4 ⟨hr,I4⟩=>?_)
  subst hr
  exact ki ⟨σ3,H3,I4,qn⟩
 ·refine kg hp (iu (T.item X rfl rfl rfl hc i pins s3 σ3 H3 X.xe I3 (stat fr3) st3 go) fun r s4 ⟨u,hr,h4⟩=>?_)
  subst hr
  refine kg hp (iu h4 fun _ s5 ⟨x,H5,I5,r5,y5,st5,fr5⟩=>?_)
  have I5':=I5.pinned (stat fr5) (T.obj _ _ st5)
  refine kg hp (iu (hg _ s5 σ3 H5 x u _ I5' r5 (step x H5 y5)) fun _ s6 ⟨σ6,H6,I6,q6⟩=>?_)
  refine kg hp (iu (hb _ s6 σ6 H6 _ I6 q6) fun f s7 q7=>?_)
  have again:∀ {σ7:St} {H7:Hp},Inv X (pins++wL fp s5.heap) σ7 H7 s7->N σ7 H7->∃ m,m < n/\∃ i σ' H',Inv X pins σ' H' s7/\tn i s7.heap/\(∀ b∈fp,H' b=none)/\W i m σ' H':=fun {σ7 H7} I7 n7=>by
   obtain⟨m',hm,w7⟩:=hN σ7 H7 n7
   refine⟨m',hm,i+1,σ7,H7,I7.oU,T.keep _ _ _ st5 fun b hb o e=>(I7.pin (b,o) (zI _ (zI _ (pX hb e)))).1,fun b hb=>?_,w7⟩
   obtain⟨o,e,d⟩:=T.obj _ _ st5 b hb
   exact (I7.pin (b,o) (zI _ (zI _ (pX hb e)))).2.1
  cases f with
  |next=>obtain⟨σ7,H7,I7,n7⟩:=q7;exact again I7 n7
  |cont=>obtain⟨σ7,H7,I7,n7⟩:=q7;exact again I7 n7
  |brk=>obtain⟨σ7,H7,I7,q7⟩:=q7;exact⟨σ7,H7,I7.oU,q7⟩
  |ret v=>obtain⟨x7,σ7,H7,I7,r7,q7⟩:=q7;exact⟨x7,σ7,H7,I7.oU,r7,q7⟩
end
end L2
namespace L2
open PySem PySem.Spec PyProof.Rows
abbrev R2:=V->V->Hp->VK->Prop
def tM (X:Cx) (f:Value->Value->Sem Value) (r:R2):Prop:=
 ∀ (pins:List (Addr×Obj)) (s:Shared) (σ:St) (H:Hp) (x y:V) (v u:Value) (Q:VK),Inv X pins σ H s->RelV x v->RelV y u->r x y H Q →
  wpAny (model X.prog X.w) X.A (f v u) (EP X pins σ Q) X.xe s
def UnR (X:Cx) (f:Value->Sem Value) (r:V->Hp->VK->Prop):Prop:=
 ∀ (pins:List (Addr×Obj)) (s:Shared) (σ:St) (H:Hp) (x:V) (v:Value) (Q:VK),Inv X pins σ H s->RelV x v->r x H Q →
  wpAny (model X.prog X.w) X.A (f v) (EP X pins σ Q) X.xe s
def jz (X:Cx) (f:Value) (r:List V->Hp->VK->Prop):Prop:=
 ∀ (pins:List (Addr×Obj)) (s:Shared) (σ:St) (H:Hp) (xs:List V) (us:List Value) (Q:VK),Inv X pins σ H s->Vals xs us->r xs H Q →
  wpAny (model X.prog X.w) X.A (call f us) (EP X pins σ Q) X.xe s
def acI (X:Cx) (r:V->Hp->(Bool->Hp->Prop)->Prop):Prop:=
 ∀ (pins:List (Addr×Obj)) (s:Shared) (σ:St) (H:Hp) (x:V) (v:Value) (Q:Bool->Hp->Prop),Inv X pins σ H s->RelV x v->r x H Q →
  wpAny (model X.prog X.w) X.A (truthy v) (TP X pins σ Q) X.xe s
def Z0 (r:R2) (ta tb:TE):TE:=fun σ H Q=>ta σ H fun x H1=>tb σ H1 fun y H2=>r x y H2 Q
def rI (C:Int->Int->Prop) (g:Int->Int->V):R2:=fun x y H Q=>∃ i j,x=.int i/\y=.int j/\C i j/\Q (g i j) H
def Xc (g:Int->Int->V):R2:=fun x y H Q=>∃ i j,x=.int i/\y=.int j/\Q (g i j) H
section
variable {X:Cx} {a b c:Expr} {ta tb tc:TE} {pos:Pos}
theorem Xd (ha:PE X a ta) (hb:PE X b tb) {pins:List (Addr×Obj)} {s:Shared} {σ:St} {H:Hp} {R:V->V->Hp->Prop} (I:Inv X pins σ H s)
  (h:ta σ H fun x H1=>tb σ H1 fun y H2=>R x y H2) {Q:VP_} {f:Value->Value->Sem Value}
  (hf:∀ v u s2 x y H2,Inv X pins σ H2 s2->RelV x v->RelV y u->R x y H2->wpAny (model X.prog X.w) X.A (f v u) Q X.xe s2) :
  wpAny (model X.prog X.w) X.A (eval a X.env) (fun v s₁=>wpAny (model X.prog X.w) X.A (eval b X.env) (fun u s₂=>wpAny (model X.prog X.w) X.A (f v u) Q X.xe s₂) X.xe s₁) X.xe s:=by
 refine iu (ha pins s σ H _ I h) fun v s1 ⟨x,H1,I1,r1,q1⟩=>?_
 refine iu (hb pins s1 σ H1 _ I1 q1) fun u s2 ⟨y,H2,I2,r2,q2⟩=>?_
 exact hf v u s2 x y H2 I2 r1 r2 q2
theorem Z1 {op:Operator} {r:R2} (ho:tM X (binaryOp op) r) (ha:PE X a ta) (hb:PE X b tb):PE X (.BinOp a op b pos) (Z0 r ta tb):=by
 intro pins s σ H Q I h
 exact wpAny_BinOp (Xd ha hb I h fun v u s2 x y H2 I2 rx ry q=>ho pins s2 σ H2 x y v u Q I2 rx ry q)
theorem opI {f:Value->Value->Sem Value} {C:Int->Int->Prop} {g:Int->Int->Int}
  (rule:∀ (i j:Int) (t u:Tok) (s:Shared) (Q:VP_) (E:VP_),C i j->Q (.int (g i j) s.toks) { s with toks:=s.toks+1 }->wpAny (model X.prog X.w) X.A (f (.int i t) (.int j u)) Q E s) :
  tM X f (rI C fun i j=>.int (g i j)):=by
 intro pins s σ H x y v u Q I rx ry h
 obtain⟨i,j,rfl,rfl,hc,q⟩:=h
 obtain⟨t,rfl⟩:=rx
 obtain⟨t',rfl⟩:=ry
 exact rule i j t t' s _ _ hc ⟨.int (g i j),H,I.tok _,⟨_,rfl⟩,q⟩
theorem acJ {f:Value->Value->Sem Value} {g:Int->Int->Int}
  (rule:∀ (i j:Int) (t u:Tok) (s:Shared) (Q:VP_) (E:VP_),Q (.int (g i j) s.toks) { s with toks:=s.toks+1 }->wpAny (model X.prog X.w) X.A (f (.int i t) (.int j u)) Q E s) :
  tM X f (Xc fun i j=>.int (g i j)):=by
 intro pins s σ H x y v u Q I rx ry h
 obtain⟨i,j,rfl,rfl,q⟩:=h
 obtain⟨t,rfl⟩:=rx
 obtain⟨t',rfl⟩:=ry
 exact rule i j t t' s _ _ ⟨.int (g i j),H,I.tok _,⟨_,rfl⟩,q⟩
theorem SX {f:Value->Value->Sem Value} {g:Int->Int->Bool}
  (rule:∀ (i j:Int) (t u:Tok) (s:Shared) (Q:VP_) (E:VP_),Q (.bool (g i j)) s->wpAny (model X.prog X.w) X.A (f (.int i t) (.int j u)) Q E s) :
  tM X f (Xc fun i j=>.bl (g i j)):=by
 intro pins s σ H x y v u Q I rx ry h
 obtain⟨i,j,rfl,rfl,q⟩:=h
 obtain⟨t,rfl⟩:=rx
 obtain⟨t',rfl⟩:=ry
 exact rule i j t t' s _ _ ⟨.bl (g i j),H,I,rfl,q⟩
def acK (i j:Int):Prop:=0 < j/\j < 1073741824
def acL (i j:Int):Prop:=0<=j/\j<=1000000/\i.natAbs < 2 ^ 64
def Xe (i j:Int):Prop:=(-(2 ^ 64) < i/\i < 2 ^ 64)\/(-(2 ^ 64) < j/\j < 2 ^ 64)
theorem Xe.ok {i j:Int} (h:Xe i j):IntMulOk i j:=by
 rcases h with⟨h1,h2⟩|⟨h1,h2⟩
 ·exact .of_left (intBits_le_64 h1 h2)
 ·exact .of_right (intBits_le_64 h1 h2)
theorem Xf:tM X (binaryOp .Add) (Xc fun i j=>.int (i+j)):=acJ fun _ _ _ _ _ _ _ q=>add_int q
theorem Xg:tM X (binaryOp .Mult) (rI Xe fun i j=>.int (i * j)):=opI fun _ _ _ _ _ _ _ hc q=>mul_int q hc.ok
theorem S5:tM X (binaryOp .FloorDiv) (rI acK fun i j=>.int (i / j)):=opI fun i j _ _ _ _ _ hc q=>by
 have h1:(0:Int) < j:=hc.1
 have h2:j < 1073741824:=hc.2
 exact floordiv_int (by omega) (by rw[Int.fdiv_eq_ediv_of_nonneg i (by omega)];exact q) (.inl (PyProof.noPylong_small (by omega)))
theorem Xh:tM X (binaryOp .Mod) (rI (fun _ j=>0 < j) fun i j=>.int (i % j)):=opI fun i j _ _ _ _ _ hc q=>by
 have h1:(0:Int) < j:=hc
 exact mod_int' (by omega) (by rw[Int.fmod_eq_emod_of_nonneg i (by omega)];exact q)
theorem Xi:tM X (binaryOp .Pow) (rI acL fun i j=>.int (i ^ j.toNat)):=opI fun _ _ _ _ _ _ _ hc q=>pow_int_small hc.1 hc.2.1 hc.2.2 q
theorem Xj {pins:List (Addr×Obj)} {σ:St} {H:Hp} {s:Shared} {Q:VK} {k k':Bool} (I:Inv X pins σ H s) (q:Q (.bl k) H) (e:k=k'):EP X pins σ Q (.bool k') s:=by
 subst e
 exact⟨.bl k,H,I,rfl,q⟩
theorem Z2:tM X (compareOp .Lt) (Xc fun i j=>.bl (decide (i < j))):=SX fun _ _ _ _ _ _ _ q=>lt_int q
theorem Z4:tM X (compareOp .LtE) (Xc fun i j=>.bl (decide (i<=j))):=SX fun _ _ _ _ _ _ _ q=>le_int q
theorem Z5:tM X (compareOp .Gt) (Xc fun i j=>.bl (decide (j < i))):=SX fun _ _ _ _ _ _ _ q=>gt_int q
theorem Z6:tM X (compareOp .GtE) (Xc fun i j=>.bl (decide (j<=i))):=SX fun _ _ _ _ _ _ _ q=>ge_int q
theorem Ln:tM X (compareOp .In) (fun x y H Q=>∃ i j,x=.str i/\y=.str j/\Q (.bl (!(Builtin.Str.occurrences j i 0 j.length 1).isEmpty)) H):=by
 intro pins s σ H x y v u Q I rx ry h
 obtain⟨i,j,rfl,rfl,q⟩:=h
 obtain⟨t,rfl⟩:=rx
 obtain⟨t',rfl⟩:=ry
 exact in_str (Xj I q rfl)
theorem tM.or {f:Value->Value->Sem Value} {r r':R2} (h:tM X f r) (h':tM X f r'):tM X f (fun x y H Q=>r x y H Q\/r' x y H Q):=by
 intro pins s σ H x y v u Q I rx ry q
 rcases q with q|q
 ·exact h pins s σ H x y v u Q I rx ry q
 ·exact h' pins s σ H x y v u Q I rx ry q
theorem iV (b:Expr) {op:CmpOp} (h:op≠.In:=by decide) (h2:op≠.NotIn:=by decide):behindInMarks op b=false:=by
 have e1:(op==CmpOp.In)=false:=by cases op<;>first|rfl|exact absurd rfl h
 have e2:(op==CmpOp.NotIn)=false:=by cases op<;>first|rfl|exact absurd rfl h2
 cases b<;>simp[behindInMarks,e1,e2]
theorem S7 {op:CmpOp} {r:R2} (ho:tM X (compareOp op) r) (ha:PE X a ta) (hb:PE X b tb) (hm:behindInMarks op b=false):PE X (.Compare a [op] [b] pos) (Z0 r ta tb):=by
 intro pins s σ H Q I h
 exact wpAny_Compare1 (Xd ha hb I h fun v u s2 x y H2 I2 rx ry q=>ho pins s2 σ H2 x y v u Q I2 rx ry q) hm
def Z7 (t:TE):TT:=fun σ H Q=>t σ H fun x H'=>∃ k,x=.bl k/\Q k H'
theorem J1 {op:CmpOp} {r:R2} (ho:tM X (compareOp op) r) (ha:PE X a ta) (hb:PE X b tb) (hm:behindInMarks op b=false):PT X (.Compare a [op] [b] pos) (Z7 (Z0 r ta tb)):=by
 intro pins s σ H Q I h
 refine wpAny_isTrue_Compare1 (iu (ha pins s σ H _ I h) fun v s1 ⟨x,H1,I1,r1,q1⟩=>iu (hb pins s1 σ H1 _ I1 q1) fun u s2 ⟨y,H2,I2,r2,q2⟩=>
  iu (ho pins s2 σ H2 x y v u _ I2 r1 r2 q2) fun c s3 ⟨z,H3,I3,r3,k,e,q3⟩=>?_) hm
 subst e
 cases r3
 exact Z3 ⟨H3,I3,q3⟩
def Ox (r r':R2) (ta tb tc:TE):TE:=fun σ H Q=>ta σ H fun x H1=>tb σ H1 fun y H2=>r x y H2 fun z H3=>∃ k,z=.bl k ∧
 (if k=true then tc σ H3 fun w' H4=>r' y w' H4 Q else Q (.bl false) H3)
theorem Oz {op op':CmpOp} {r r':R2} (ho:tM X (compareOp op) r) (ho':tM X (compareOp op') r') (ha:PE X a ta) (hb:PE X b tb) (hc:PE X c tc)
  (hm:lastMarks [op,op'] [b,c]=false:=by with_unfolding_all rfl):PE X (.Compare a [op,op'] [b,c] pos) (Ox r r' ta tb tc):=by
 intro pins s σ H Q I h
 refine Compare_chain (iu (ha pins s σ H _ I h) fun v s1 ⟨x,H1,I1,r1,q1⟩=>chain_link (iu (hb pins s1 σ H1 _ I1 q1) fun u s2 ⟨y,H2,I2,r2,q2⟩=>
  iu (ho pins s2 σ H2 x y v u _ I2 r1 r2 q2) fun d s3 ⟨z,H3,I3,r3,k,e,q3⟩=>?_)) hm
 subst e
 cases r3
 refine Z3 ?_
 cases k with
 |false=>exact ite_ff ⟨.bl false,H3,I3,rfl,q3⟩
 |true=>exact ite_tt (chain_last (iu (hc pins s3 σ H3 _ I3 q3) fun w' s4 ⟨z',H4,I4,r4,q4⟩=>ho' pins s4 σ H4 y z' u w' Q I4 r2 r4 q4))
def Xk (K:FG_) (x:V) (H:Hp) (k:Bool):Prop:=
 match x with
 |.non=>k=false
 |.bl b=>k=b
 |.int i=>k=(i != 0)
 |.str y=>y.length<=sizeLine/\k=((y.length:Int) != 0)
 |.W0 y=>y.size<=sizeLine/\k=((y.size:Int) != 0)
 |.ref p=>(∃ xs,pW K H p xs/\k=!xs.isEmpty)\/(∃ xs,uP K H p xs/\k=!xs.isEmpty)\/∃ kvs,H p=some (.dK kvs)/\k=!kvs.isEmpty
 |_=>False
theorem Il {κ:Type} {kvs:List (κ×V)} {vs:List (κ×Value)} (r:KV kvs vs):(!vs.isEmpty)=!kvs.isEmpty:=by
 cases r<;>rfl
theorem za {xs:List V} {its:List Value} (r:Vals xs its):(!its.toArray.isEmpty)=!xs.isEmpty:=by
 cases r<;>simp
theorem wM:(sizeLine:Nat) < 2 ^ 63:=by rw[sizeLine_eq];decide
theorem Xl:acI X (fun x H Q=>∃ k,Xk X.K x H k/\Q k H):=by
 intro pins s σ H x v Q I rx h
 obtain⟨k,e,q⟩:=h
 have hl:=wM
 have hs:sizeLine=16777216:=sizeLine_eq
 cases x with
 |non=>
  cases rx
  have e':k=false:=e
  subst e'
  exact truthy_none ⟨H,I,q⟩
 |bl b=>
  cases rx
  have e':k=b:=e
  subst e'
  exact Z3 ⟨H,I,q⟩
 |int i=>
  obtain⟨t,rfl⟩:=rx
  have e':k=(i != 0):=e
  subst e'
  exact PySem.P.truthy_int ⟨H,I,q⟩
 |str y=>
  obtain⟨t,rfl⟩:=rx
  obtain⟨hy,e'⟩:y.length<=sizeLine/\k=((y.length:Int) != 0):=e
  subst e'
  exact PySem.P.truthy_str (by omega) ⟨H,I.tok _,q⟩
 |W0 y=>
  obtain⟨t,rfl⟩:=rx
  obtain⟨hy,e'⟩:y.size<=sizeLine/\k=((y.size:Int) != 0):=e
  subst e'
  exact PySem.W.truthy_bytes (by omega) ⟨H,I.tok _,q⟩
 |ref p=>
  cases rx
  have e':(∃ xs,pW X.K H p xs/\k=!xs.isEmpty)\/(∃ xs,uP X.K H p xs/\k=!xs.isEmpty)\/∃ kvs,H p=some (.dK kvs)/\k=!kvs.isEmpty:=e
  rcases e' with⟨xs,hx,e'⟩|⟨xs,hx,e'⟩|⟨kvs,hx,e'⟩
  ·subst e'
   obtain⟨its,r,pl,hz⟩:=I.list hx
   have hlen:=r.length
   exact wpAny_truthy_list pl.isList (by simp only[zo];omega) ⟨H,I.tok _,by rw[za r];exact q⟩
  ·subst e'
   obtain⟨its,r,pl,hz⟩:=I.tuple hx
   have hlen:=r.length
   exact truthy_tuple pl (by simp only[zo];omega) ⟨H,I.tok _,by rw[za r];exact q⟩
  ·subst e'
   obtain⟨hz,hS,vs,r,m⟩:kvs.length<=sizeLine/\(p==sysModules)=false/\∃ vs,KV kvs vs/\s.heap.DictOf (bY X.prog X.w) p vs:=I.hok p _ hx
   have hlen:kvs.length=vs.length:=Paired.length r
   exact wpAny_truthy_dict hS m (by omega) ⟨H,I.tok _,by rw[Il r];exact q⟩
 |_=>exact (show False from e).elim
theorem OD (ha:PE X a ta) (he:∀ whole,isTrue a X.env whole=(do let v <-whole;standAt a.pos;holding [v] (truthy v))) :
  PT X a (fun σ H Q=>ta σ H fun x H'=>∃ k,Xk X.K x H' k/\Q k H'):=by
 intro pins s σ H Q I h
 exact isTrue_plain (iu (ha pins s σ H _ I h) fun v s1 ⟨x,H1,I1,r1,q1⟩=>Xl pins s1 σ H1 x v Q I1 r1 q1) (he _)
theorem Im:tM X (binaryOp .Add) (fun x y H Q=>∃ i j,x=.str i/\y=.str j/\i.length+j.length<=sizeLine/\Q (.str (i++j)) H):=by
 intro pins s σ H x y v u Q I rx ry h
 obtain⟨i,j,rfl,rfl,hz,q⟩:=h
 obtain⟨t,rfl⟩:=rx
 obtain⟨t',rfl⟩:=ry
 exact add_str (fun t' tk=>⟨.str (i++j),H,I.tok _,⟨_,rfl⟩,q⟩) hz
theorem vals1 {x:V} {us:List Value} (r:Vals [x] us):∃ u,us=[u]/\RelV x u:=by
 cases r with
 |cons r1 r2=>cases r2;exact⟨_,rfl,r1⟩
theorem vals2 {x y:V} {us:List Value} (r:Vals [x,y] us):∃ u w',us=[u,w']/\RelV x u/\RelV y w':=by
 cases r with
 |cons r1 r2=>
  cases r2 with
  |cons r3 r4=>cases r4;exact⟨_,_,rfl,r1,r3⟩
theorem OJ:jz X (.builtin "abs") (fun xs H Q=>∃ i,xs=[.int i]/\Q (.int (if i < 0 then -i else i)) H):=by
 intro pins s σ H xs us Q I r h
 obtain⟨i,rfl,q⟩:=h
 obtain⟨u,rfl,t,rfl⟩:=vals1 r
 exact call_abs_int fun u tk=>⟨.int (if i < 0 then -i else i),H,I.tok _,⟨_,rfl⟩,q⟩
theorem Lq:jz X (.type "int") (fun xs H Q=>(∃ i,xs=[.int i]/\Q (.int i) H)\/∃ k,xs=[.bl k]/\Q (.int (if k then 1 else 0)) H):=by
 intro pins s σ H xs us Q I r h
 rcases h with⟨i,rfl,q⟩|⟨k,rfl,q⟩
 ·obtain⟨u,rfl,t,rfl⟩:=vals1 r
  exact call_int_int ⟨.int i,H,I,⟨_,rfl⟩,q⟩
 ·obtain⟨u,rfl,r1⟩:=vals1 r
  cases r1
  exact call_int_bool ⟨.int (if k then 1 else 0),H,I.tok _,⟨_,rfl⟩,q⟩
end
end L2
namespace L2
open PySem PySem.Spec PyProof.Rows
structure Z8 (h:Heap) (x dx C:Addr) (mA:Str->Option Value):Prop where
 obj:h.get? x=some (PySem.W.instObj C dx)
 ns:h.Ns1 dx mA
 ne:dx≠x
theorem Lr {h:Heap} {dx:Addr} {mA:Str->Option Value} (n:h.Ns1 dx mA):∃ od,h.get? dx=some od/\∀ name,PySem.W.lookIn name od=some (mA name):=by
 obtain⟨o,es,ep,ho,hd,hk,_,hm⟩:=n
 refine⟨o,ho,fun name=>?_⟩
 have e:=hm name
 unfold nsFind findBy at e
 rw[<-ku] at e
 unfold PySem.W.lookIn
 rw[hd]
 dsimp only
 split
 ·rename_i y q
  rw[q] at e
  exact congrArg some e
 ·rename_i q
  rw[q] at e
  have a:es.toList.any (·.refKey)=false:=by
   rw[List.any_eq_false]
   intro y hy
   obtain⟨z,t,hkey⟩:=hk y (Array.mem_toList_iff.mp hy)
   simp[DictEntry.refKey,hkey]
  have a':¬ es.toList.any (·.refKey)=true:=by rw[a];exact zr
  rw[zw a']
  exact congrArg some e
theorem Z8.look {h:Heap} {x dx C:Addr} {mA:Str->Option Value} (I:Z8 h x dx C mA):∃ od,PySem.W.InstAt h x (PySem.W.instObj C dx) C (some od)/\∀ name,PySem.W.lookIn name od=some (mA name):=
 let ⟨od,ho,hl⟩:=Lr I.ns
 ⟨od,⟨I.obj,rfl,rfl,ho⟩,hl⟩
section
variable {prog:Program} {w:World} {A:Around} {E:VP_} {s:Shared} {K:FG_} {x dx C f:Addr} {mA:Str->Option Value} {name:Str} {v:Value}
end
theorem wI.some_of {v:V} {o:Option Value} (r:wI (some v) o):∃ u,o=some u/\RelV v u:=by
 cases o with
 |none=>exact (show False from r).elim
 |some u=>exact⟨u,rfl,r⟩
section
variable {P:Program} {w:World} {H H':Hp} {h h':Heap} {a C dx:Addr} {fs fs':List (Str×V)}
end
structure Cls (K:FG_) (C:Addr):Prop where
 pg:PySem.W.plainGet K C Str.empty=true
 hd:PySem.W.hasDictIn K C=true
 po:PySem.W.plainOver K C=true
 sa:PySem.W.findIn K (.ref C) "__setattr__" = some (some (.builtin "object.__setattr__"))
theorem Cls.get {K:FG_} {C:Addr} (c:Cls K C) (f:Str):PySem.W.plainGet K C f=true:=c.pg
section
variable {X:Cx} {pins:List (Addr×Obj)} {σ:St} {H:Hp} {s:Shared} {a C dx:Addr} {fs:List (Str×V)} {f:Str} {v:V} {A:Around} {E:VP_}
theorem S8 {prog:Program} {w:World} {env:Env} {e:Expr} {f:Str} {pos:Pos} {s:Shared} {Q:VP_} (hb:attributeBase e f env (eval e env)=eval e env)
  (h:wpAny (model prog w) A (eval e env) (fun o s₁=>wpAny (model prog w) A (getAttr o f true) Q E s₁) E s):wpAny (model prog w) A (eval (.Attribute e f pos) env) Q E s:=
 Attribute_any_ h (by rw[arm_eval_Attribute,hb])
end
section
variable {X:Cx} {o e value:Expr} {f:Str} {pos pos' tpos:Pos} {ta tv:TE}
end
section
variable {X:Cx} {pins:List (Addr×Obj)} {σ:St} {H:Hp} {s:Shared} {A:Around} {E:VP_} {Q:VP_} {c:Value} {b:Bool}
end
end L2
namespace L2
open PySem PySem.Spec PyProof.Rows
structure iT (k:Nat) (A:Around):Prop where
 hd:A.handled=none
 dp:A.depth+3 * k+5 < recursionLimit
 un:A.units+16 * k+200 < cLine
theorem iT.mono {j k:Nat} {A:Around} (r:iT k A) (h:j<=k):iT j A:=⟨r.hd,by have:=r.dp;omega,by have:=r.un;omega⟩
theorem iT.deeper {k:Nat} {A:Around} (r:iT (k+1) A) (env:Env):iT k (A.deeper env):=
 ⟨r.hd,by have:=r.dp;show A.depth+1+3 * k+5 < _;omega,by have:=r.un;show A.units+3+16 * k+200 < _;omega⟩
theorem iT.in1 {k:Nat} {A:Around} (r:iT (k+1) A):iT k A.in1:=
 ⟨r.hd,by have:=r.dp;show A.depth+3 * k+5 < _;omega,by have:=r.un;show A.units+1+16 * k+200 < _;omega⟩
theorem Io {A:Around} {C:Addr} {us:List Value} {kw:List (Str×Value)}:(A.under (.builtin "type.__call__" ⟨.ref C::us,kw⟩)).depth=A.depth+1:=by
 first|rfl|simp[Around.under,Code.weight,Code.isCreation,Code.isGuard,Code.isCaller,Code.frames,Code.isFrame,guardIds]
theorem Ip {A:Around} {C:Addr} {us:List Value} {kw:List (Str×Value)}:(A.under (.builtin "type.__call__" ⟨.ref C::us,kw⟩)).units=A.units+1:=by
 first|rfl|simp[Around.under,Code.cUnits,Code.frames,Code.isFrame]
theorem iT.make {k:Nat} {A:Around} (r:iT (k+1) A) (C:Addr) (us:List Value) (kw:List (Str×Value)):iT k (A.under (.builtin "type.__call__" ⟨.ref C::us,kw⟩)):=
 ⟨r.hd,by have:=r.dp;rw[Io];omega,by have:=r.un;rw[Ip];omega⟩
theorem iT.depth {k:Nat} {A:Around} (r:iT k A):A.depth < recursionLimit:=by have:=r.dp;omega
theorem iT.units {k:Nat} {A:Around} (r:iT k A):A.units+64 < cLine:=by have:=r.un;omega
def Z9:TA:=fun _ H Q=>Q [] H
def O1 (ta:TE) (tr:TA):TA:=fun σ H Q=>ta σ H fun x H1=>tr σ H1 fun xs H2=>Q (x::xs) H2
section
variable {X:Cx} {e:Expr} {es:List Expr} {te:TE} {t:TA} {pos:Pos}
theorem lg:PA X [] Z9:=fun _ _ _ _ H Q I h=>Calls.spliced_nil ⟨[],H,I,.nil,h⟩
theorem bK (ha:PE X e te) (hr:PA X es t) (hs:starEach (e::es) X.env=(false,eval e X.env)::starEach es X.env:=by rfl):PA X (e::es) (O1 te t):=by
 intro pos pins s σ H Q I h
 rw[hs]
 show wpAny _ _ (spliced ((false,eval e X.env)::backTo pos (starEach es X.env))) _ _ s
 refine Calls.spliced_cons (iu (ha pins s σ H _ I h) fun u s1 ⟨x,H1,I1,r1,q1⟩=>?_)
 exact iu (hr pos pins s1 σ H1 _ I1 q1) fun us s2 ⟨xs,H2,I2,r2,q2⟩=>⟨x::xs,H2,I2,.cons r1 r2,q2⟩
def acM (t:TA):TE:=fun σ H Q=>t σ H fun xs H1=>xs.length<=sizeLine/\∀ p,H1 p=none->Q (.ref p) (upd H1 p (.tup xs))
def acN (t:TA):TE:=fun σ H Q=>t σ H fun xs H1=>xs.length<=sizeLine/\∀ p,H1 p=none->Q (.ref p) (upd H1 p (.lst xs))
theorem zc {x1} (h:PA X es t):PE X (.Tuple es x1 pos) (acM t):=by
 intro pins s σ H Q I hq
 refine wpAny_Tuple_spliced (iu (h pos pins s σ H _ I hq) fun us s1 ⟨xs,H1,I1,r,z,q⟩=>⟨by rw[<-r.length];exact z,?_⟩)
 have hf:H1 s1.heap.objs.size=none:=I1.hok.fresh (zk _)
 refine⟨.ref s1.heap.objs.size,upd H1 s1.heap.objs.size (.tup xs),I1.laid (t':=s1.toks) (fun b u e=>zd _ e) (zk _) ?_,rfl,q _ hf⟩
 exact⟨z,us,r,⟨_,zC _ rfl,rfl,⟨_,rfl⟩,rfl⟩⟩
theorem Xm (h:PA X es t):PE X (.List es pos) (acN t):=by
 intro pins s σ H Q I hq
 refine wpAny_List_spliced (iu (h pos pins s σ H _ I hq) fun us s1 ⟨xs,H1,I1,r,z,q⟩=>⟨by rw[<-r.length];exact z,?_⟩)
 have hf:H1 s1.heap.objs.size=none:=I1.hok.fresh (zk _)
 refine⟨.ref s1.heap.objs.size,upd H1 s1.heap.objs.size (.lst xs),I1.laid (t':=s1.toks) (fun b u e=>zd _ e) (zk _) ?_,rfl,q _ hf⟩
 exact⟨z,us,0,r,zC _ rfl⟩
end
abbrev Sp:=List V->Hp->VK->XK->Prop
abbrev Ib:=List Env->Hp->Shared->XK->Value->Shared->Prop
structure Bu (P:Program) (w:World) (K:FG_) (mg:Str->Option Value) (base:Heap) (A:Around) (outer:List Env) (s:Shared) (H:Hp):Prop where
 frames:A.frames=some outer
 mod:Mod K mg base
 bs:∀ b o,base.get? b=some o->s.heap.get? b=some o/\H b=none
 N8:base.objs.size<=s.heap.objs.size
 uf:s.heap.FunFrames base outer
 SJ:∀ b∈frs outer,H b=none
 hok:qW P w H s.heap
 bare:AllBare s.gens
def CE (outer:List Env) (P:Program) (w:World) (H:Hp) (s:Shared) (Q:VK) (u:Value) (s':Shared):Prop:=
 ∃ v H',s'.os=s.os/\AllBare s'.gens/\Un (frs outer) [] H H' s.heap s'.heap/\qW P w H' s'.heap/\RelV v u/\Q v H'
def CR (CX:Ib) (outer:List Env) (P:Program) (w:World) (H:Hp) (s:Shared) (Q:VK) (E:XK) (r:Result) (s':Shared):Prop:=
 match r with
 |.ok (.ret u)=>CE outer P w H s Q u s'
 |.ok _=>False
 |.error e=>CX outer H s E e s'
structure bF (P:Program) (w:World) (K:FG_) (mg:Str->Option Value) (base:Heap) (CX:Ib) (k:Nat) (f:Addr) (fd:FuncData) (ps:LS_) (sp:Sp):Prop where
 len:∀ vs H Q E,sp vs H Q E->vs.length=ps.length
 run:∀ (A:Around) (outer:List Env) (s:Shared) (H:Hp) (args:Args) (us:List Value) (vs:List V) (Q:VK) (E:XK),iT k A->Bu P w K mg base A outer s H->BindsTo s fd args (ps.zip us)->Vals vs us->sp vs H Q E →
  codeAny (model P w) A (.call (.ref f) args) (CR CX outer P w H s Q E) s
theorem bF.mono {P:Program} {w:World} {K:FG_} {mg:Str->Option Value} {base:Heap} {CX:Ib} {j k:Nat} {f:Addr} {fd:FuncData} {ps:LS_} {sp:Sp} (F:bF P w K mg base CX j f fd ps sp) (h:j<=k) :
  bF P w K mg base CX k f fd ps sp:=⟨F.len,fun A outer s H args us vs Q E hr=>F.run A outer s H args us vs Q E (hr.mono h)⟩
theorem bF.imp {P:Program} {w:World} {K:FG_} {mg:Str->Option Value} {base:Heap} {CX:Ib} {k:Nat} {f:Addr} {fd:FuncData} {ps:LS_} {sp sp':Sp} (F:bF P w K mg base CX k f fd ps sp)
  (h:∀ vs H Q E,sp' vs H Q E->sp vs H Q E):bF P w K mg base CX k f fd ps sp':=
 ⟨fun vs H Q E q=>F.len vs H Q E (h _ _ _ _ q),fun A outer s H args us vs Q E hr he hb hv hs=>F.run A outer s H args us vs Q E hr he hb hv (h _ _ _ _ hs)⟩
theorem Bu.make {P:Program} {w:World} {K:FG_} {mg:Str->Option Value} {base:Heap} {A:Around} {outer:List Env} {s:Shared} {H:Hp} (e:Bu P w K mg base A outer s H) (C:Addr) (us:List Value) (kw:List (Str×Value)) :
  Bu P w K mg base (A.under (.builtin "type.__call__" ⟨.ref C::us,kw⟩)) outer s H:=⟨by first|exact e.frames|(simpa [Around.under,Code.envs,Code.isFrame,pushEnvs] using e.frames),e.mod,e.bs,e.N8,e.uf,e.SJ,e.hok,e.bare⟩
theorem Bu.in1 {P:Program} {w:World} {K:FG_} {mg:Str->Option Value} {base:Heap} {A:Around} {outer:List Env} {s:Shared} {H:Hp} (e:Bu P w K mg base A outer s H) :
  Bu P w K mg base A.in1 outer s H:=⟨e.frames,e.mod,e.bs,e.N8,e.uf,e.SJ,e.hok,e.bare⟩
section
variable {X:Cx} {pins:List (Addr×Obj)} {σ:St} {H:Hp} {s s':Shared}
theorem Inv.env0 (I:Inv X pins σ H s):Bu X.prog X.w X.K X.mg X.base X.A X.stack s H:=
 ⟨I.ok.frames,I.ok.mod,I.bs,zh I.ok.N8 I.sz,I.stack,I.yH,I.hok,I.bare⟩
theorem Inv.after {Q:VK} {u:Value} (I:Inv X pins σ H s) (h:CE X.stack X.prog X.w H s Q u s'):EP X pins σ Q u s':=by
 obtain⟨v,H',os,bare,un,hok,r,q⟩:=h
 obtain⟨hh,g,d,t,os'⟩:=s'
 obtain rfl:os'=s.os:=os
 exact⟨v,H',I.call (h':=hh) (g':=g) (d':=d) (t':=t) (ch:=[]) un hok bare (fun b z=>absurd z (by simp)),r,q⟩
end
def aad (sp:Sp) (V1:List V) (E:XK) (t:TA):TE:=fun σ H Q=>t σ H fun vs H1=>sp (vs++V1) H1 Q E
def Binds (K:FG_) (fd:FuncData) (ps:LS_) (ds:List Value):Prop:=
 ∀ (s:Shared) (us:List Value),K.In s.heap->(us++ds).length=ps.length->BindsTo s fd ⟨us,[]⟩ (ps.zip (us++ds))
theorem Binds.all {K:FG_} {fd:FuncData} {ps:LS_} (h:∀ us:List Value,us.length=ps.length->bindArgs fd ⟨us,[]⟩=pure (ps.zip us)):Binds K fd ps []:=fun s us _ hl=>by
 rw[qB] at hl ⊢
 exact .of_eq (h us hl)
def Passes (CX:Ib) (X:Cx) (E:XK):Prop:=∀ (pins:List (Addr×Obj)) (σ:St) (H:Hp) (s:Shared) (e:Value) (s':Shared),Inv X pins σ H s->CX X.stack H s E e s'->X.xe e s'
section
variable {X:Cx} {CX:Ib} {k:Nat} {f C:Addr} {fd:FuncData} {ps:LS_} {sp:Sp} {V1:List V} {ds:List Value} {E:XK} {x m:Str} {p pos apos:Pos} {e o:Expr} {es:List Expr} {ta:TE} {t:TA}
theorem Xn {pins:List (Addr×Obj)} {σ:St} {H:Hp} {s:Shared} {Q:VK} {us:List Value} {vs:List V} (F:bF X.prog X.w X.K X.mg X.base CX k f fd ps sp) (hr:iT k X.A) (hb:Binds X.K fd ps ds) (hd:Vals V1 ds) (hx:Passes CX X E)
  (I:Inv X pins σ H s) (r:Vals vs us) (h:sp (vs++V1) H Q E):wpAny (model X.prog X.w) X.A (call (.ref f) us) (EP X pins σ Q) X.xe s:=by
 have r2:Vals (vs++V1) (us++ds):=r.append hd
 have hl:(us++ds).length=ps.length:=by rw[<-r2.length];exact F.len _ _ _ _ h
 refine kr (kq (F.run X.A X.stack s H ⟨us,[]⟩ (us++ds) (vs++V1) Q E hr I.env0 (hb s us I.Bt hl) r2 h) fun r s' hq=>?_)
 cases r with
 |error e=>exact hx pins σ H s e s' I hq
 |ok fl=>
  cases fl with
  |ret u=>exact I.after hq
  |next=>exact False.elim hq
  |brk=>exact False.elim hq
  |cont=>exact False.elim hq
theorem J2 (F:bF X.prog X.w X.K X.mg X.base CX k f fd ps sp) (hr:iT k X.A) (hg:Gl X x) (hm:X.mg x=some (.ref f)) (hk:PySem.W.keepIn X.K (.ref f)=true) (hb:Binds X.K fd ps ds) (hd:Vals V1 ds) (hx:Passes CX X E)
  (ha:PA X (e::es) t) (hdb:(x==("__debug__" : Str))=false:=by decide) (he:starEach (e::es) X.env=(false,eval e X.env)::starEach es X.env:=by rfl) (hpl:(backTo pos (starEach es X.env)).any (·.1)=false:=by rfl) :
  PE X (.Call (.Name x p) (e::es) [] pos) (aad sp V1 E t):=by
 intro pins s σ H Q I h
 refine JE (uU I hg hm ?_ hdb)
 refine PySem.W.callWith_K (h₀:=X.base) I.ok.mod.ZJ hk (iu (ha pos pins s σ H _ I h) fun us s1 ⟨vs,H1,I1,r,q⟩=>⟨I1.Bt,?_⟩) he hpl
 exact Xn F hr hb hd hx I1 r q
end
section
variable {X:Cx} {CX:Ib} {k:Nat} {f C:Addr} {fd:FuncData} {ps ks:LS_} {sp:Sp} {E:XK} {x m:Str} {p pos apos kpos:Pos} {e o:Expr} {es:List Expr} {kws:List Keyword} {te ta:TE} {t tk:TA} {nm:Option Str}
variable {g:List Value->List Value->List Value} {gV:List V->List V->List V}
end
structure bH (N P:LS_) (sc:Scope):Prop where
 kind:sc.kind=.function
 co:sc.isCoroutine=false
 gen:sc.isGenerator=false
 nd:N.Nodup
 pre:N.take P.length=P
 par:∀ x∈P,sc.names.lookup x=some .local\/sc.names.lookup x=some .cell
 Xo:∀ y∈sc.names,y.2≠.free
theorem Ci {kindOf:Str->Option NameKind} {x:Str}:∀ {binds:List (Str×Value)} {m:Str->Option Value},(∀ v,(x,v)∉binds)->bindL kindOf binds m x=m x
 |[],_,_=>rfl
 |(n,v)::r,m,h=>by
  unfold bindL
  rw[Ci fun w hw=>h w (Zs _ hw)]
  split
  ·have:x≠n:=by rintro rfl;exact h v ZA
   simp[this]
  ·rfl
theorem Cj {kindOf:Str->Option NameKind} {x:Str}:∀ {binds:List (Str×Value)} {m:Str->Option Value},(∀ v,(x,v)∉binds)->bindC kindOf binds m x=m x
 |[],_,_=>rfl
 |(n,v)::r,m,h=>by
  unfold bindC
  rw[Cj fun w hw=>h w (Zs _ hw)]
  split
  ·rfl
  ·have:x≠n:=by rintro rfl;exact h v ZA
   simp[this]
theorem Ck {kindOf:Str->Option NameKind} {x:Str} {v:Value}:∀ {P:LS_} {vs:List Value} {i:Nat} {m:Str->Option Value},P.Nodup->P[i]?=some x->vs[i]?=some v->kindOf x=some .local →
  bindL kindOf (P.zip vs) m x=some v
 |[],_,_,_,_,h,_,_=>by simp at h
 |_::_,[],_,_,_,_,h,_=>by simp at h
 |p::P,w::vs,0,m,nd,h1,h2,hk=>by
  simp at h1 h2;subst h1;subst h2
  show bindL kindOf ((p,w)::P.zip vs) m p=_
  unfold bindL
  rw[Ci fun v hv=>(List.nodup_cons.mp nd).1 (List.of_mem_zip hv).1,zi hk]
  simp
 |p::P,w::vs,i+1,m,nd,h1,h2,hk=>by
  show bindL kindOf ((p,w)::P.zip vs) m x=_
  unfold bindL
  exact Ck (i:=i) (List.nodup_cons.mp nd).2 (by simpa using h1) (by simpa using h2) hk
theorem Cm {kindOf:Str->Option NameKind} {x:Str} {v:Value}:∀ {P:LS_} {vs:List Value} {i:Nat} {m:Str->Option Value},P.Nodup->P[i]?=some x->vs[i]?=some v->kindOf x≠some .local →
  bindC kindOf (P.zip vs) m x=some v
 |[],_,_,_,_,h,_,_=>by simp at h
 |_::_,[],_,_,_,_,h,_=>by simp at h
 |p::P,w::vs,0,m,nd,h1,h2,hk=>by
  simp at h1 h2;subst h1;subst h2
  show bindC kindOf ((p,w)::P.zip vs) m p=_
  unfold bindC
  rw[Cj fun v hv=>(List.nodup_cons.mp nd).1 (List.of_mem_zip hv).1,zw hk]
  simp
 |p::P,w::vs,i+1,m,nd,h1,h2,hk=>by
  show bindC kindOf ((p,w)::P.zip vs) m x=_
  unfold bindC
  exact Cm (i:=i) (List.nodup_cons.mp nd).2 (by simpa using h1) (by simpa using h2) hk
def start (N:LS_) (vs:List V):St:=vs.map some++List.replicate (N.length - vs.length) none
def uD (CX:Ib) (P:Program) (w:World) (K:FG_) (mg:Str->Option Value) (base:Heap) (N:LS_) (qual:Str) (scope:Scope) (f:Addr) (cd:Value) (A:Around) (outer:List Env) (s:Shared) (H:Hp) (E:XK):Cx where
 prog:=P
 w:=w
 K:=K
 mg:=mg
 base:=base
 A:=A.deeper (envOfC qual scope s.heap.objs.size f cd)
 N:=N
 s₀:=s
 H₀:=H
 env:=envOfC qual scope s.heap.objs.size f cd
 outer:=outer
 stack:=envOfC qual scope s.heap.objs.size f cd::outer
 ex:=[]
 calm:=true
 fn:=fun _=>true
 pn:=[]
 xe:=fun e s'=>wpAny (model P w) (A.deeper (envOfC qual scope s.heap.objs.size f cd)) (leaving (envOfC qual scope s.heap.objs.size f cd) e) (fun _ s''=>CX outer H s E e s'') (fun e' s''=>CX outer H s E e' s'') s'
theorem Gb {sc:Scope} {n:Nat} {x:Str} (h:sc.names.lookup x=some .cell):∃ c,(cellsFrom n sc.names []).lookup x=some c:=by
 have q:=PySem.W.cellsFrom_some sc.names n [] (.inl h)
 exact Option.isSome_iff_exists.mp q
theorem Ls {CX:Ib} {P:Program} {w:World} {K:FG_} {mg:Str->Option Value} {base:Heap} {N ps:LS_} {qual:Str} {scope:Scope} {f:Addr} {cd:Value} {A:Around} {outer:List Env} {s s1:Shared} {H:Hp} {E:XK} {us:List Value} {vs:List V}
  (S:bH N ps scope) (hd:A.handled=none) (e0:Bu P w K mg base A outer s H) (hl:vs.length=ps.length) (r:Vals vs us)
  (x:InCallC s s.heap.objs.size (bindL (envOfC qual scope s.heap.objs.size f cd).kindOf (ps.zip us) fun _=>none) (cellsFrom (s.heap.objs.size+1) scope.names []) (bindC (envOfC qual scope s.heap.objs.size f cd).kindOf (ps.zip us) fun _=>none) s1) :
  Inv (uD CX P w K mg base N qual scope f cd A outer s H E) [] (start N vs) H s1:=by
 have hpl:ps.length<=N.length:=by have:=congrArg List.length S.pre;rw[ka] at this;omega
 obtain⟨h1,tk,rfl,hk⟩:=x.done
 have noA:∀ b:Addr,b∉(uD CX P w K mg base N qual scope f cd A outer s H E).ex:=fun b z=>absurd (show b∈([]:List Addr) from z) (by simp)
 refine⟨⟨e0.mod,S.kind,rfl,rfl,zk _,fun y z c h1 h2=>?_,fun y hy=>?_,fun y c _ h=>?_,fun _=>hd,Around.frames_deeper e0.frames,.inr ⟨rfl,rfl⟩,fun b z=>absurd z (noA b),e0.bs,e0.N8,fun b _ _=>noA b,fun b z=>absurd z (noA b),e0.uf,e0.SJ⟩,
  rfl,e0.bare,Un.kept hk,⟨_,x.toInCall.ns,fun i y v h1 h2 h3=>?_⟩,fun y c h=>⟨_,x.cell y c h⟩,e0.hok.fresh (zk _),fun y c h=>?_,fun p hp=>absurd (show p∈([]:List (Addr×Obj)) from hp) (by simp),e0.hok.kept hk,?_⟩
 ·exact name_of_addr x.apart (QP h1) (QP h2)
 ·have hy:scope.names.lookup y=some .cell\/scope.names.lookup y=some .free:=hy
  rcases hy with hy|hy
  ·exact Gb hy
  ·exact absurd rfl (S.Xo _ (QP hy))
 ·exact Q4 (x.above y c (QP h))
 ·have hi:i < vs.length:=by
   unfold start at h2
   by_cases hi:i < vs.length
   ·exact hi
   ·rw[qh (by simpa using hi)] at h2
    rw[qr] at h2
    split at h2<;>cases h2
  have ha:vs[i]?=some v:=by
   unfold start at h2
   rw[ZY (by simpa using hi),ZT] at h2
   cases e:vs[i]? with
   |none=>rw[e] at h2;cases h2
   |some a=>rw[e] at h2;cases h2;rfl
  obtain⟨u,hu,rv⟩:=r.get ha
  have hp:ps[i]?=some y:=by
   rw[<-S.pre,List.getElem?_take_of_lt (by omega)];exact h1
  have ndP:ps.Nodup:=by rw[<-S.pre];exact S.nd.sublist (List.take_sublist _ _)
  refine⟨u,rv,?_⟩
  rcases S.par y (jv hp) with k|k
  ·exact .inl ⟨k,Ck ndP hp hu k⟩
  ·obtain⟨c,e⟩:=Gb (n:=s.heap.objs.size+1) k
   refine .inr ⟨.inl k,c,e,?_⟩
   have q:=x.cell y c e
   rw[Cm ndP hp hu (by show scope.names.lookup y≠_;rw[k];decide)] at q
   exact q
 ·exact e0.hok.fresh (Q4 (x.above y c (QP h)))
 ·unfold start
  show _=N.length
  rw[zS,zg,List.length_replicate]
  omega
theorem V2 {CX:Ib} {P:Program} {w:World} {K:FG_} {mg:Str->Option Value} {base:Heap} {k:Nat} {f:Addr} {name qual:Str} {params:Arguments} {body:List Stmt} {scope:Scope} {dV kV doc pm cdv ct oc:Value} {an od:Option Addr}
  {osl:Array (Option Value)} {N ps:LS_} {sp:Sp} (lk:K.lookup f=some ⟨oc,od,.func (PySem.W.fnOf name qual params body scope dV kV doc pm an cdv ct),osl⟩) (hcd:PySem.W.codeIn K cdv qual=true) (S:bH N ps scope)
  (len:∀ vs H Q E,sp vs H Q E->vs.length=ps.length)
  (hbody:∀ (A:Around) (outer:List Env) (s:Shared) (H:Hp) (vs:List V) (Q:VK) (E:XK),iT k (A.deeper (envOfC qual scope s.heap.objs.size f cdv))->sp vs H Q E →
   ∃ t,wJ (uD CX P w K mg base N qual scope f cdv A outer s H E) body t/\t { nx:=fun _ H'=>Q .non H',rt:=Q } (start N vs) H) :
  bF P w K mg base CX (k+1) f (PySem.W.fnOf name qual params body scope dV kV doc pm an cdv ct) ps sp:=by
 refine⟨len,fun A outer s H args us vs Q E hr e0 hb r hsp=>?_⟩
 have hl:=len _ _ _ _ hsp
 have KX:K.In s.heap:=e0.mod.ZJ.keeps fun b o e=>(e0.bs b o e).1
 have lim:s.heap.NoLimit:=e0.mod.nolimit.keeps fun b o e=>(e0.bs b o e).1
 have hkind:∀ y∈ps.zip us,scope.names.lookup y.1=some .local\/(scope.names.lookup y.1=some .cell/\((cellsFrom (s.heap.objs.size+1) scope.names []).lookup y.1).isSome=true):=fun ⟨n,v⟩ hy=>by
  rcases S.par n (List.of_mem_zip hy).1 with q|q
  ·exact .inl q
  ·exact .inr ⟨q,PySem.W.cellsFrom_some _ _ _ (.inl q)⟩
 refine codeAny_call_function hr.depth (KX _ _ lk) rfl S.co S.gen rfl (PySem.W.codeRec_of KX hcd) (hb _ _ _ _ ?_)
 refine wpAny_newFunctionEnv_cells S.kind hkind fun env he s1 x=>?_
 subst he
 refine⟨lim.keeps x.toInCall.keep,codeAny_func ?_⟩
 obtain⟨t,ht,hq⟩:=hbody A outer s H vs Q E (hr.deeper _) hsp
 have I:Inv (uD CX P w K mg base N qual scope f cdv A outer s H E) [] (start N vs) H s1:=Ls S hr.hd e0 hl r x
 refine ZH (ht [] s1 (start N vs) H _ I hq) (fun fl s' hs=>?_) fun e s' hs=>hs
 have fin:∀ {σ':St} {H':Hp} {v:V} {u:Value},Inv (uD CX P w K mg base N qual scope f cdv A outer s H E) [] σ' H' s'->RelV v u->Q v H'->CE outer P w H s Q u s':=
  fun {σ' H' v u} J rv q=>⟨v,H',J.os,J.bare,J.base,J.hok,rv,q⟩
 cases fl with
 |ret u=>
  obtain⟨v,σ',H',J,rv,q⟩:=hs
  exact fin J rv q
 |next=>
  obtain⟨σ',H',J,q⟩:=hs
  exact fin (v:=V.non) (u:=Value.none) J rfl q
 |brk=>
  obtain⟨_,_,_,q⟩:=hs
  exact False.elim q
 |cont=>
  obtain⟨_,_,_,q⟩:=hs
  exact False.elim q
end L2
namespace L2
open PySem PySem.Spec PyProof.Rows
section
variable {X:Cx} {x:Str} {p pos:Pos} {e:Expr} {es:List Expr} {t:TA} {id T:String} {r:List V->Hp->VK->Prop}
def tCB (r:List V->Hp->VK->Prop) (t:TA):TE:=fun σ H Q=>t σ H fun vs H1=>r vs H1 Q
theorem qY (hc:jz X (.builtin id) r) (hg:Gl X x) (hm:X.mg x=none) (hv:bootBuiltins x=some (.builtin id)) (ha:PA X (e::es) t) (hn:x ≠ "__name__" := by decide) (hdb:(x==("__debug__" : Str))=false:=by decide)
  (he:starEach (e::es) X.env=(false,eval e X.env)::starEach es X.env:=by rfl) (hpl:(backTo pos (starEach es X.env)).any (·.1)=false:=by rfl):PE X (.Call (.Name x p) (e::es) [] pos) (tCB r t):=by
 intro pins s σ H Q I h
 refine JE (yV I hg hm hv ?_ hn hdb)
 exact PyProof.Rows.callWith_builtin1 (iu (ha pos pins s σ H _ I h) fun us s1 ⟨vs,H1,I1,r1,q1⟩=>hc pins s1 σ H1 vs us Q I1 r1 q1) he hpl
theorem Lx (hc:jz X (.type T) r) (hg:Gl X x) (hm:X.mg x=none) (hv:bootBuiltins x=some (.type T)) (ha:PA X (e::es) t) (hn:x ≠ "__name__" := by decide) (hdb:(x==("__debug__" : Str))=false:=by decide)
  (he:starEach (e::es) X.env=(false,eval e X.env)::starEach es X.env:=by rfl) (hpl:(backTo pos (starEach es X.env)).any (·.1)=false:=by rfl):PE X (.Call (.Name x p) (e::es) [] pos) (tCB r t):=by
 intro pins s σ H Q I h
 refine JE (yV I hg hm hv ?_ hn hdb)
 exact PyProof.Rows.callWith_type1 (iu (ha pos pins s σ H _ I h) fun us s1 ⟨vs,H1,I1,r1,q1⟩=>hc pins s1 σ H1 vs us Q I1 r1 q1) he hpl
end
end L2
namespace HT
open PySem PyProof.Rows
section
open PySem.SeqAt
open PySem.AutoSeq1 (wpAny_loadPart')
open PySem.MeetsSeq PySem.MeetsSeq2 PySem.MeetsSeq3
end
section
variable {prog:Program} {w:World} {A:Around} {E:VP_} {s:Shared}
theorem S9 {t b:Addr} {vs ws:List Value} {Q:VP_} (ht:IsTup s.heap t vs.toArray) (hb:IsTup s.heap b ws.toArray) (hv:vs≠[])
  (h1:ws=[]->Q (.ref t) s) (h2:ws≠[]->Q (.ref s.heap.objs.size) { s with heap:=s.heap.push { cls:=.type "tuple", data:=.seq (vs++ws).toArray } })
  (hsz:vs.length+ws.length<=sizeLine):wpAny (model prog w) A (binaryOp .Add (.ref t) (.ref b)) Q E s:=by
 obtain⟨⟨cls,dd,data,sl⟩,ho,hc,n,hd⟩:=id ht
 obtain⟨⟨cls2,dd2,data2,sl2⟩,ho2,hc2,n2,hd2⟩:=id hb
 simp only at hc hd hc2 hd2
 subst hc hd hc2 hd2
 have e:vs.toArray++ws.toArray=(vs++ws).toArray:=by simp
 by_cases hw:ws=[]
 ·exact concat_meets ⟨_,ho,rfl⟩ ⟨_,ho2,rfl⟩ noFill_tuple_add seq_tuple_add PySem.F.slot_tuple_add kM (kH _ _)
   (tuple_addW1 t b vs.toArray ws.toArray n n2 dd dd2 sl sl2 (by simpa using hv) (by simp[hw])) ⟨ho,ho2,h1 hw⟩
 ·refine concat_meets ⟨_,ho,rfl⟩ ⟨_,ho2,rfl⟩ noFill_tuple_add seq_tuple_add PySem.F.slot_tuple_add kM (kH _ _)
   (tuple_addW2 t b vs.toArray ws.toArray n n2 dd dd2 sl sl2 (by simpa using hv) (by simpa using hw) (by rw[zo,zo];exact hsz)) ⟨ho,ho2,?_⟩
  rw[e]
  exact h2 hw
def jj (n d:Nat):Option Int->Nat
 |none=>d
 |some v=>if v < 0 then (v+(n:Int)).toNat else min v.toNat n
theorem Xp (n d:Nat) (hd:d<=n) (o:Option Int):jj n d o<=n:=by
 cases o with
 |none=>exact hd
 |some v=>
  show (if v < 0 then (v+(n:Int)).toNat else min v.toNat n)<=n
  by_cases hv:v < 0
  ·rw[zi hv];omega
  ·rw[zw hv];exact Nat.min_le_right _ _
theorem J3 (v:Int) (n d:Nat):(if v < 0 then max (v+(n:Int)) 0 else min v (n:Int))=((jj n d (some v):Nat):Int):=by
 show (if v < 0 then max (v+(n:Int)) 0 else min v (n:Int))=(((if v < 0 then (v+(n:Int)).toNat else min v.toNat n):Nat):Int)
 by_cases hv:v < 0
 ·simp only[zi hv];omega
 ·simp only[zw hv];omega
theorem Ir (lo hi:Option Int) (n:Nat):Builtin.Slice.sliceAdjust lo hi 1 (n:Int)=(((jj n 0 lo:Nat):Int),((jj n n hi:Nat):Int)):=by
 have h1:¬ ((1:Int) < 0):=by omega
 unfold Builtin.Slice.sliceAdjust
 simp only[h1,qc]
 refine Prod.ext ?_ ?_
 ·cases lo with
  |none=>rfl
  |some v=>exact J3 v n 0
 ·cases hi with
  |none=>rfl
  |some v=>exact J3 v n n
theorem Iu (i j:Nat):Builtin.Slice.slicePlaces (i:Int) (j:Int) 1=j - i:=by
 unfold Builtin.Slice.slicePlaces
 have h1:(1:Int) > 0:=by omega
 simp only[h1,QO,Int.ediv_one]
 split<;>omega
theorem zf {v:Value} {o:Option Int} {Q:Option Int->Shared->Prop} (p:IsPart v o) (h:Q o s):wpAny (model prog w) A (Builtin.Slice.slicePartIndex v) Q E s:=by
 cases p with
 |none=>exact slicePart_none h
 |int i t=>exact slicePart_int h
theorem oV {sl:Addr} {vl vu:Value} {lo hi:Option Int} {n:Nat} {Q:Int×Int×Nat->Shared->Prop} (hs:s.heap.IsSliceOf sl vl vu .none) (pl:IsPart vl lo) (pu:IsPart vu hi)
  (h:Q (((jj n 0 lo:Nat):Int),1,jj n n hi - jj n 0 lo) s):wpAny (model prog w) A (Builtin.Slice.sliceApplied (.ref sl) (pure (n:Int))) Q E s:=by
 obtain⟨os,hos,hcs,hds⟩:=id hs
 unfold Builtin.Slice.sliceApplied Builtin.Slice.sliceFields
 refine zb (zb (Q2 hos hds (x:=vl) rfl (zb (Q2 hos hds (x:=vu) rfl (zb (Q2 hos hds (x:=.none) rfl (ze ?_)))))))
 refine zb (slicePart_none ?_)
 show wpAny _ _ (if ((1:Int)==0)=true then _ else _) _ _ s
 rw[zw (by decide)]
 refine zb (zf pl (zb (zf pu (zb (ze ?_)))))
 show wpAny _ _ (match Builtin.Slice.sliceAdjust lo hi 1 (n:Int) with|(lo,hi)=>pure (lo,(1:Int),Builtin.Slice.slicePlaces lo hi 1)) _ _ s
 rw[Ir lo hi n]
 show wpAny _ _ (pure (((jj n 0 lo:Nat):Int),(1:Int),Builtin.Slice.slicePlaces ((jj n 0 lo:Nat):Int) ((jj n n hi:Nat):Int) 1)) _ _ s
 rw[Iu]
 exact ze h
theorem O2 (xs:Array Value) (i k:Nat):((List.range k).filterMap fun (m:Nat)=>xs[((i:Int)+(m:Int) * 1).toNat]?).toArray=((xs.toList.drop i).take k).toArray:=by
 have e:(fun (m:Nat)=>xs[((i:Int)+(m:Int) * 1).toNat]?)=fun m=>xs[i+m]?:=by
  funext m
  have:((i:Int)+(m:Int) * 1).toNat=i+m:=by omega
  rw[this]
 rw[e]
 have:=pick_run xs i k
 rw[List.filterMap_map] at this
 have e2:((fun x=>xs[x]?) ∘ fun x=>i+x)=fun m=>xs[i+m]?:=rfl
 rw[e2] at this
 rw[this]
theorem uV {t sl:Addr} {items:Array Value} {vl vu:Value} {lo hi:Option Int} {Q:VP_} (ht:IsTup s.heap t items) (hs:s.heap.IsSliceOf sl vl vu .none) (pl:IsPart vl lo) (pu:IsPart vu hi)
  (hw:¬ (jj items.size 0 lo=0/\jj items.size items.size hi=items.size))
  (h:Q (.ref s.heap.objs.size) { s with heap:=s.heap.push { cls:=.type "tuple", data:=.seq ((items.toList.drop (jj items.size 0 lo)).take (jj items.size items.size hi - jj items.size 0 lo)).toArray } })
  (hsz:items.size<=sizeLine):wpAny (model prog w) A (getItem (.ref t) (.ref sl)) Q E s:=by
 have J4:sizeOk (.seq ((items.toList.drop (jj items.size 0 lo)).take (jj items.size items.size hi - jj items.size 0 lo)).toArray):=by
  show ((items.toList.drop (jj items.size 0 lo)).take (jj items.size items.size hi - jj items.size 0 lo)).toArray.size<=sizeLine
  rw[zo,ka,kb,QQ]
  omega
 have hj:jj items.size items.size hi<=items.size:=Xp _ _ (zk _) hi
 obtain⟨os,hos,hcs,hds⟩:=id hs
 have hTs:s.TypeIs (.ref sl) "slice" := ⟨os,hos,hcs⟩
 unfold getItem
 try with_reducible refine QI ?_
 first|refine zb (ze ?_)|skip
 refine zb (wpAny_sequenceKey ht.typeIs (by decide) ?_)
 refine zb (wpAny_callSpecial?_slot (name:=Str.ofString "__getitem__") ht.typeIs PyProof.Rows.slot_tuple_getitem
  (wpAny_call_entry PyProof.Rows.slot_tuple_getitem ht.typeIs entry_tuple_getitem ?_ (args_tuple_getitem _ _)))
 show wpAny _ _ (Builtin.Tuple.tupleItemsOf (.ref t) >>= _) _ _ s
 refine zb (tupleItemsOf_ ht ?_)
 refine zb (jI hTs ?_)
 rw[zi (by decide)]
 refine zb (oV hs pl pu ?_)
 have hno:¬ ((((jj items.size 0 lo:Nat):Int)==0&&(1:Int)==1&&(jj items.size items.size hi - jj items.size 0 lo)==items.size)=true):=by
  intro q
  rw[ZO,ZO] at q
  have q1:((jj items.size 0 lo:Nat):Int)=0:=eq_of_beq q.1.1
  have q2:jj items.size items.size hi - jj items.size 0 lo=items.size:=eq_of_beq q.2
  exact hw ⟨by omega,by omega⟩
 show wpAny _ _ (if (((jj items.size 0 lo:Nat):Int)==0&&(1:Int)==1&&(jj items.size items.size hi - jj items.size 0 lo)==items.size)=true then _ else _) _ _ s
 rw[zw hno,O2]
 first
  |exact zb (m:=Builtin.Tuple.tupleExact _) (QA (ze ⟨_,rfl,ze h⟩) J4)
  |exact zb (m:=Builtin.Tuple.tupleExact _) (QA (zb (ze (ze ⟨_,rfl,ze h⟩))) J4)
  |exact zb (zb (m:=Builtin.Tuple.tupleExact _) (QA (ze (ze ⟨_,rfl,ze h⟩)) J4))
  |exact zb (zb (m:=Builtin.Tuple.tupleExact _) (QA (ze ⟨_,rfl,ze h⟩) J4))
end
end HT
namespace L2
open PySem PySem.Spec PyProof.Rows
abbrev TO:=St->Hp->(Option Int->Hp->Prop)->Prop
def PO (X:Cx) (e:Option Expr) (t:TO):Prop:=
 ∀ (pins:List (Addr×Obj)) (s:Shared) (σ:St) (H:Hp) (Q:Option Int->Hp->Prop),Inv X pins σ H s->t σ H Q →
  wpAny (model X.prog X.w) X.A (evalPart e X.env) (fun u s'=>∃ o H',Inv X pins σ H' s'/\IsPart u o/\Q o H') X.xe s
def Tc:TO:=fun _ H Q=>Q none H
def aaf (t:TE):TO:=fun σ H Q=>t σ H fun x H1=>∃ i,x=.int i/\Q (some i) H1
section
variable {X:Cx} {e:Expr} {te:TE} {lo hi:Option Expr} {tl th:TO} {pos p2:Pos}
theorem Td:PO X none Tc:=by
 intro pins s σ H Q I h
 rw[evalPart_none]
 exact ze ⟨none,H,I,.none,h⟩
theorem Te (h:PE X e te):PO X (some e) (aaf te):=by
 intro pins s σ H Q I hw
 rw[evalPart_some]
 refine iu (h pins s σ H _ I hw) fun u s1 ⟨x,H1,I1,r1,q1⟩=>?_
 obtain⟨i,rfl,q⟩:=q1
 obtain⟨t,rfl⟩:=r1
 exact⟨some i,H1,I1,.int i t,q⟩
def V3 (X:Cx) (r:V->Option Int->Option Int->Hp->VK->Prop):Prop:=
 ∀ (pins:List (Addr×Obj)) (s:Shared) (σ:St) (H:Hp) (x:V) (v vl vu:Value) (lo hi:Option Int) (sl:Addr) (Q:VK),Inv X pins σ H s->RelV x v->s.heap.IsSliceOf sl vl vu .none->IsPart vl lo->IsPart vu hi->r x lo hi H Q →
  ∃ T id,typeLookup (.type T) "__getitem__" = pure (some (.builtin id))/\s.TypeIs v T/\wpAny (model X.prog X.w) X.A (getItem v (.ref sl)) (EP X pins σ Q) X.xe s
theorem V3.or {r r':V->Option Int->Option Int->Hp->VK->Prop} (h:V3 X r) (h':V3 X r'):V3 X (fun x lo hi H Q=>r x lo hi H Q\/r' x lo hi H Q):=by
 intro pins s σ H x v vl vu lo hi sl Q I rx hs pl pu q
 rcases q with q|q
 ·exact h pins s σ H x v vl vu lo hi sl Q I rx hs pl pu q
 ·exact h' pins s σ H x v vl vu lo hi sl Q I rx hs pl pu q
def tSl (r:V->Option Int->Option Int->Hp->VK->Prop) (te:TE) (tl th:TO):TE:=fun σ H Q=>te σ H fun x H1=>tl σ H1 fun l H2=>th σ H2 fun u H3=>r x l u H3 Q
theorem O4 {r:V->Option Int->Option Int->Hp->VK->Prop} (hr:V3 X r) (he:PE X e te) (hl:PO X lo tl) (hu:PO X hi th):PE X (.Subscript e (.Slice lo hi none p2) pos) (tSl r te tl th):=by
 intro pins s σ H Q I h
 refine Subscript_ (iu (he pins s σ H _ I h) fun v s1 ⟨x,H1,I1,r1,q1⟩=>?_)
 refine wpAny_Slice (iu (hl pins s1 σ H1 _ I1 q1) fun vl s2 ⟨l,H2,I2,pl,q2⟩=>iu (hu pins s2 σ H2 _ I2 q2) fun vu s3 ⟨u,H3,I3,pu,q3⟩=>?_)
 rw[evalPart_none]
 refine ze ?_
 have I4:Inv X pins σ H3 { s3 with heap:=s3.heap.push { cls:=.type "slice", data:=.fields #[vl,vu,.none] } }:=I3.kept (t':=s3.toks) fun b ob q=>zd _ q
 obtain⟨T,id,hT,ht,hg⟩:=hr pins { s3 with heap:=s3.heap.push { cls:=.type "slice", data:=.fields #[vl,vu,.none] } } σ H3 x v vl vu l u s3.heap.objs.size Q I4 r1 (Heap.IsSliceOf.new ..) pl pu q3
 show wpAny (model X.prog X.w) X.A (subscriptTail e (.Slice lo hi none p2) v (.ref s3.heap.objs.size)) (EP X pins σ Q) X.xe { s3 with heap:=s3.heap.push { cls:=.type "slice", data:=.fields #[vl,vu,.none] } }
 exact tail_any (ops:=[.ref s3.heap.objs.size,v]) ht hT hg (by with_unfolding_all rfl)
def Gd (xs:List V) (lo hi:Option Int):List V:=(xs.drop (HT.jj xs.length 0 lo)).take (HT.jj xs.length xs.length hi - HT.jj xs.length 0 lo)
theorem xV (xs:List V) (lo hi:Option Int):(Gd xs lo hi).length<=xs.length:=by
 unfold Gd
 rw[ka,kb]
 omega
def acP (K:FG_):V->Option Int->Option Int->Hp->VK->Prop:=fun x lo hi H Q=>∃ a xs,x=.ref a/\uP K H a xs ∧
 ¬ (HT.jj xs.length 0 lo=0/\HT.jj xs.length xs.length hi=xs.length)/\∀ p,H p=none->Q (.ref p) (upd H p (.tup (Gd xs lo hi)))
theorem Xq:V3 X (acP X.K):=by
 intro pins s σ H x v vl vu lo hi sl Q I rx hs pl pu h
 obtain⟨a,xs,rfl,hx,hw,q⟩:=h
 cases rx
 obtain⟨its,r,ht,hz⟩:=I.tuple hx
 have hlen:its.toArray.size=xs.length:=by rw[zo];exact r.length.symm
 refine⟨"tuple", _,PyProof.Rows.slot_tuple_getitem.lookup,ht.typeIs,?_⟩
 refine HT.uV ht hs pl pu (by rw[hlen];exact hw) ?_ (by rw[hlen];exact hz)
 rw[hlen]
 refine⟨.ref s.heap.objs.size,_,I.laid (t':=s.toks) (o:=.tup (Gd xs lo hi)) (fun b ob q=>zd _ q) (zk _) ?_,rfl,q _ (I.hok.fresh (zk _))⟩
 exact⟨zh (xV xs lo hi) hz,_,(r.drop (HT.jj xs.length 0 lo)).take (HT.jj xs.length xs.length hi - HT.jj xs.length 0 lo),qU.new _ _⟩
def aag (K:FG_):R2:=fun x y H Q=>∃ a b xs ys,x=.ref a/\y=.ref b/\uP K H a xs/\uP K H b ys/\xs≠[]/\xs.length+ys.length<=sizeLine ∧
 (ys=[]->Q (.ref a) H)/\(ys≠[]->∀ p,H p=none->Q (.ref p) (upd H p (.tup (xs++ys))))
theorem Vals.yK {xs:List V} {us:List Value} (r:Vals xs us):us=[]↔xs=[]:=by
 cases r with
 |nil=>simp
 |cons _ _=>simp
theorem Tf:tM X (binaryOp .Add) (aag X.K):=by
 intro pins s σ H x y v u Q I rx ry h
 obtain⟨a,b,xs,ys,rfl,rfl,ha,hb,hx,hz,q1,q2⟩:=h
 cases rx
 cases ry
 obtain⟨its,r1,p1,_⟩:=I.tuple ha
 obtain⟨its2,r2,p2,_⟩:=I.tuple hb
 refine HT.S9 p1 p2 (fun z=>hx (r1.yK.mp z)) (fun z=>⟨.ref a,H,I,rfl,q1 (r2.yK.mp z)⟩) (fun z=>?_) (by rw[<-r1.length,<-r2.length];exact hz)
 refine⟨.ref s.heap.objs.size,_,I.laid (t':=s.toks) (o:=.tup (xs++ys)) (fun b ob q=>zd _ q) (zk _) ?_,rfl,q2 (fun w=>z (r2.yK.mpr w)) _ (I.hok.fresh (zk _))⟩
 exact⟨by rw[zS];exact hz,_,r1.append r2,qU.new _ _⟩
end
end L2
namespace L2
open PySem PySem.Spec PyProof.Rows
def Zt (n:Nat) (i:Int):Option Nat:=if 0<=i then (if i < n then some i.toNat else none) else if -(n:Int)<=i then some (i+n).toNat else none
def Bv {α:Type} (xs:List α) (i:Int):Option α:=(Zt xs.length i).bind fun j=>xs[j]?
theorem Tg {n:Nat} {i:Int} {j:Nat} (h:Zt n i=some j):seqIndex? i n=some j/\j < n ∧ -(n:Int)<=i/\i < n:=by
 unfold Zt at h
 by_cases h0:0<=i
 ·rw[zi h0] at h
  by_cases h1:i < n
  ·rw[zi h1] at h
   have e:i.toNat=j:=Qb h
   exact⟨by rw[seqIndex_of h0 h1,e],by omega,by omega,h1⟩
  ·rw[zw h1] at h;cases h
 ·rw[zw h0] at h
  by_cases h1 : -(n:Int)<=i
  ·rw[zi h1] at h
   have e:(i+n).toNat=j:=Qb h
   exact⟨by rw[seqIndex_neg (by omega) h1,e],by omega,h1,by omega⟩
  ·rw[zw h1] at h;cases h
theorem DN {α:Type} {xs:List α} {i:Int} {v:α} (h:Bv xs i=some v):∃ j,seqIndex? i xs.length=some j/\xs[j]?=some v/\j < xs.length ∧ -(xs.length:Int)<=i/\i < xs.length:=by
 unfold Bv at h
 cases e:Zt xs.length i with
 |none=>rw[e] at h;cases h
 |some j=>
  rw[e] at h
  obtain⟨h1,h2,h3,h4⟩:=Tg e
  exact⟨j,h1,h,h2,h3,h4⟩
def J5 (b:Expr):Prop:=∀ o i,subscripted b false o i=operate [o,i] (getItem o i)
def Ti (X:Cx) (r:R2):Prop:=
 ∀ (value slice:Expr) (pins:List (Addr×Obj)) (s:Shared) (σ:St) (H:Hp) (x y:V) (v u:Value) (Q:VK),Inv X pins σ H s->RelV x v->RelV y u->r x y H Q →
  subscripted slice false v u=operate [v,u] (getItem v u)->wpAny (model X.prog X.w) X.A (subscriptTail value slice v u) (EP X pins σ Q) X.xe s
def Zu (X:Cx) (id:String) (r:V->List V->Hp->VK->Prop):Prop:=
 ∀ (pins:List (Addr×Obj)) (s:Shared) (σ:St) (H:Hp) (x:V) (xs:List V) (v:Value) (us:List Value) (Q:VK),Inv X pins σ H s->RelV x v->Vals xs us->r x xs H Q →
  wpAny (model X.prog X.w) X.A (call (.builtin id) (v::us)) (EP X pins σ Q) X.xe s
section
variable {X:Cx} {a b:Expr} {ta tb:TE} {pos:Pos}
theorem Ti.or {r r':R2} (h:Ti X r) (h':Ti X r'):Ti X (fun x y H Q=>r x y H Q\/r' x y H Q):=by
 intro value slice pins s σ H x y v u Q I rx ry q hs
 rcases q with q|q
 ·exact h value slice pins s σ H x y v u Q I rx ry q hs
 ·exact h' value slice pins s σ H x y v u Q I rx ry q hs
theorem Zu.or {id:String} {r r':V->List V->Hp->VK->Prop} (h:Zu X id r) (h':Zu X id r'):Zu X id (fun x xs H Q=>r x xs H Q\/r' x xs H Q):=by
 intro pins s σ H x xs v us Q I rx rs q
 rcases q with q|q
 ·exact h pins s σ H x xs v us Q I rx rs q
 ·exact h' pins s σ H x xs v us Q I rx rs q
theorem aah {r:R2} (hr:Ti X r) (ha:PE X a ta) (hb:PE X b tb) (hs:J5 b):PE X (.Subscript a b pos) (Z0 r ta tb):=by
 intro pins s σ H Q I h
 exact Subscript_ (Xd ha hb I h fun v u s2 x y H2 I2 rx ry q=>hr a b pins s2 σ H2 x y v u Q I2 rx ry q (hs _ _))
def aai (K:FG_):R2:=fun x y H Q=>∃ p xs i v,x=.ref p/\y=.int i/\pW K H p xs/\Bv xs i=some v/\Q v H
def aaj (K:FG_):R2:=fun x y H Q=>∃ p xs i v,x=.ref p/\y=.int i/\uP K H p xs/\Bv xs i=some v/\Q v H
def aak:R2:=fun x y H Q=>∃ z i c,x=.str z/\y=.int i/\z.length<=sizeLine/\Bv z.cps.toList i=some c/\Q (.str ⟨#[c]⟩) H
theorem Tj:Ti X (aai X.K):=by
 intro value slice pins s σ H x y v u Q I rx ry h hs
 obtain⟨p,xs,i,z,rfl,rfl,hq,he,q⟩:=h
 cases rx
 obtain⟨t,rfl⟩:=ry
 obtain⟨its,r,pl,hz⟩:=I.list hq
 obtain⟨j,h1,h2,h3,h4,h5⟩:=DN he
 obtain⟨w,ew,Oa⟩:=r.get h2
 have hl:=r.length
 have hn:=wM
 have fin:EP X pins σ Q w s:=⟨z,H,I,Oa,q⟩
 by_cases h0:0<=i
 ·have hj:i.toNat=j:=by
   rw[seqIndex_of h0 h5] at h1
   exact Qb h1
  exact item_listR pl.isList h0 (by omega) (by rw[hj];simpa using ew) fin hs
 ·have hj:(i+(its.toArray.size:Int)).toNat=j:=by
   rw[seqIndex_neg (by omega) h4] at h1
   rw[zo,<-hl]
   exact Qb h1
  exact subscriptTail_builtinR (x:=w) pl.isList.typeIs slot_list_getitem.lookup
   (wpAny_getItem_list_neg (Q:=fun r s'=>r=w/\EP X pins σ Q r s') pl.isList (by omega) (by rw[zo]<;>omega) (by omega) (by rw[hj];simpa using ew) ⟨rfl,fin⟩) hs
theorem Xr:Ti X (aaj X.K):=by
 intro value slice pins s σ H x y v u Q I rx ry h hs
 obtain⟨p,xs,i,z,rfl,rfl,hq,he,q⟩:=h
 cases rx
 obtain⟨t,rfl⟩:=ry
 obtain⟨its,r,pl,hz⟩:=I.tuple hq
 obtain⟨j,h1,h2,h3,h4,h5⟩:=DN he
 obtain⟨w,ew,Oa⟩:=r.get h2
 have hl:=r.length
 have hn:=wM
 have fin:EP X pins σ Q w s:=⟨z,H,I,Oa,q⟩
 exact subscriptTail_builtinR (x:=w) pl.typeIs slot_tuple_getitem.lookup
  (getItem_tuple (j:=j) (Q:=fun r s'=>r=w/\EP X pins σ Q r s') pl (by omega) (by omega) (by rw[zo,<-hl];exact h1) (by simpa using ew) ⟨rfl,fin⟩) hs
theorem Xu:Ti X aak:=by
 intro value slice pins s σ H x y v u Q I rx ry h hs
 obtain⟨z,i,c,rfl,rfl,hz,he,q⟩:=h
 obtain⟨t,rfl⟩:=rx
 obtain⟨t',rfl⟩:=ry
 obtain⟨j,h1,h2,h3,h4,h5⟩:=DN he
 have hl:z.cps.toList.length=z.length:=by simp[Str.length]
 rw[hl] at h1 h4 h5
 have hn:=wM
 exact tail_any (typeIs_str s z t) slot_str_getitem.lookup (getItem_str (c:=c) (by
  have e1:decide (i < -(2 ^ 63:Int))=false:=ZI (by omega)
  have e2:decide (i>=2 ^ 63)=false:=ZI (by omega)
  rw[e1,e2,Bool.or_false]) (by rw[h1];simpa using h2) ⟨.str ⟨#[c]⟩,H,I.tok _,⟨_,rfl⟩,q⟩) hs
def rIx (K:FG_):R2:=fun x y H Q=>aai K x y H Q\/aaj K x y H Q\/aak x y H Q
theorem Xv:Ti X (rIx X.K):=Tj.or (Xr.or Xu)
theorem Inv.lst {pins:List (Addr×Obj)} {σ:St} {H:Hp} {s:Shared} {p:Addr} {xs:List V} (I:Inv X pins σ H s) (h:H p=some (.lst xs)) :
  ∃ (its:List Value) (n:Nat),Vals xs its/\s.heap.get? p=some { cls:=.type "list", data:=.seq its.toArray n }/\xs.length<=sizeLine:=by
 obtain⟨z,its,n,r,e⟩:=I.hok p _ h
 exact⟨its,n,r,e,z⟩
theorem DP (lo hi:Option Int) (n:Nat):(sliceBounds lo hi none n).1=((HT.jj n 0 lo:Nat):Int)/\(sliceBounds lo hi none n).2.1=((HT.jj n n hi:Nat):Int)/\(sliceBounds lo hi none n).2.2=1:=by
 refine⟨?_,?_,rfl⟩
 ·cases lo with
  |none=>simp[sliceBounds,HT.jj]
  |some i=>
   simp only[sliceBounds,HT.jj,Option.getD_none,show (1:Int) > 0 by decide,QO]
   by_cases h:i < 0
   ·simp only[h,QO]<;>omega
   ·simp only[h,qc]<;>omega
 ·cases hi with
  |none=>simp[sliceBounds,HT.jj]
  |some i=>
   simp only[sliceBounds,HT.jj,Option.getD_none,show (1:Int) > 0 by decide,QO]
   by_cases h:i < 0
   ·simp only[h,QO]<;>omega
   ·simp only[h,qc]<;>omega
theorem Bw (its:List Value) (lo hi:Option Int):slicePick its.toArray lo hi none=((its.drop (HT.jj its.length 0 lo)).take (HT.jj its.length its.length hi - HT.jj its.length 0 lo)).toArray:=by
 obtain⟨h1,h2,h3⟩:=DP lo hi its.toArray.size
 unfold slicePick
 rw[h1,h2,h3]
 simp only[sliceRange_one,pick_run,zo]<;>rfl
def acQ (K:FG_):V->Option Int->Option Int->Hp->VK->Prop:=fun x lo hi H Q=>∃ a xs,x=.ref a/\pW K H a xs/\∀ p,H p=none->Q (.ref p) (upd H p (.lst (Gd xs lo hi)))
theorem Tn:V3 X (acQ X.K):=by
 intro pins s σ H x v vl vu lo hi sl Q I rx hs pl pu h
 obtain⟨a,xs,rfl,hx,q⟩:=h
 cases rx
 obtain⟨its,r,ht,hz⟩:=I.list hx
 have hlen:=r.length
 refine⟨"list", _,slot_list_getitem.lookup,ht.isList.typeIs,?_⟩
 refine wpAny_getItem_list_slice ht.isList hs pl pu .none (by simp) ?_ (by rw[zo]<;>omega)
 rw[Bw,<-hlen]
 refine⟨.ref s.heap.objs.size,_,I.laid (t':=s.toks) (o:=.lst (Gd xs lo hi)) (fun b ob q=>zd _ q) (zk _) ?_,rfl,q _ (I.hok.fresh (zk _))⟩
 exact⟨zh (xV xs lo hi) hz,_,0,(r.drop (HT.jj xs.length 0 lo)).take (HT.jj xs.length xs.length hi - HT.jj xs.length 0 lo),zC _ rfl⟩
def qD:V->Bool
 |.non=>true
 |.bl _=>true
 |.int _=>true
 |.str _=>true
 |_=>false
def Ly:V->V->Bool
 |.non,.non=>true
 |.bl a,.bl b=>a==b
 |.bl a,.int b=>(if a then 1 else 0)==b
 |.int a,.bl b=>a==(if b then 1 else 0)
 |.int a,.int b=>a==b
 |.str a,.str b=>a==b
 |_,_=>false
theorem Xw {A:Around} {s:Shared} {y x:V} {u v:Value} (ry:RelV y u) (rx:RelV x v) (fy:qD y=true) (fx:qD x=true):SeqAt.EqAt A s u v (Ly y x):=by
 cases y with
 |non=>
  cases ry
  cases x with
  |non=>cases rx;exact SeqAt.EqAt.same _
  |bl b=>cases rx;exact SeqAt.EqAt.none_bool b
  |int b=>obtain⟨t,rfl⟩:=rx;exact SeqAt.EqAt.none_int b t
  |str b=>obtain⟨t,rfl⟩:=rx;exact SeqAt.EqAt.none_str b t
  |_=>exact absurd (show false=true from fx) zr
 |bl a=>
  cases ry
  cases x with
  |non=>cases rx;exact SeqAt.EqAt.bool_none a
  |bl b=>cases rx;exact SeqAt.EqAt.bool_bool a b
  |int b=>obtain⟨t,rfl⟩:=rx;exact SeqAt.EqAt.bool_int a b t
  |str b=>obtain⟨t,rfl⟩:=rx;exact SeqAt.EqAt.bool_str a b t
  |_=>exact absurd (show false=true from fx) zr
 |int a=>
  obtain⟨t',rfl⟩:=ry
  cases x with
  |non=>cases rx;exact SeqAt.EqAt.int_none a t'
  |bl b=>cases rx;exact SeqAt.EqAt.int_bool a t' b
  |int b=>obtain⟨t,rfl⟩:=rx;exact SeqAt.EqAt.int_int a t' b t
  |str b=>obtain⟨t,rfl⟩:=rx;exact SeqAt.EqAt.int_str a t' b t
  |_=>exact absurd (show false=true from fx) zr
 |str a=>
  obtain⟨t',rfl⟩:=ry
  cases x with
  |non=>cases rx;exact SeqAt.EqAt.str_none a t'
  |bl b=>cases rx;exact SeqAt.EqAt.str_bool a t' b
  |int b=>obtain⟨t,rfl⟩:=rx;exact SeqAt.EqAt.str_int a t' b t
  |str b=>obtain⟨t,rfl⟩:=rx;exact SeqAt.EqAt.str_str a t' b t
  |_=>exact absurd (show false=true from fx) zr
 |_=>exact absurd (show false=true from fy) zr
def Iv (x:V) (u:Value):Bool:=match u with
 |.none=>Ly .non x
 |.bool b=>Ly (.bl b) x
 |.int i _=>Ly (.int i) x
 |.str z _=>Ly (.str z) x
 |_=>false
theorem O5 {x y:V} {u:Value} (r:RelV y u) (f:qD y=true):Iv x u=Ly y x:=by
 cases y with
 |non=>cases r;rfl
 |bl b=>cases r;rfl
 |int i=>obtain⟨t,rfl⟩:=r;rfl
 |str z=>obtain⟨t,rfl⟩:=r;rfl
 |_=>exact absurd (show false=true from f) zr
theorem uW {x:V}:∀ {xs:List V} {us:List Value},Vals xs us->xs.all qD=true->us.any (Iv x)=xs.any fun y=>Ly y x
 |_,_,.nil,_=>rfl
 |y::xs,u::us,.cons r t,f=>by
  rw[Jn,ZO] at f
  rw[QN,QN,O5 r f.1,uW t f.2]
theorem qZ {A:Around} {s:Shared} {x:V} {v:Value} (rx:RelV x v) (fx:qD x=true):∀ {xs:List V} {us:List Value},Vals xs us->xs.all qD=true->∀ u∈us,SeqAt.EqAt A s u v (Iv x u)
 |_,_,.nil,_=>fun u hu=>by cases hu
 |y::xs,u::us,.cons r t,f=>fun u' hu=>by
  rw[Jn,ZO] at f
  rcases List.mem_cons.mp hu with rfl|hu
  ·rw[O5 r f.1];exact Xw r rx f.1 fx
  ·exact qZ rx fx t f.2 u' hu
def inV (x:V) (xs:List V):Bool:=xs.any fun y=>Ly y x
def rIn (K:FG_) (neg:Bool):R2:=fun x y H Q=>∃ p xs,y=.ref p/\(pW K H p xs\/uP K H p xs)/\qD x=true/\xs.all qD=true/\Q (.bl (if neg then !inV x xs else inV x xs)) H
theorem Lz:tM X (compareOp .In) (rIn X.K false):=by
 intro pins s σ H x y v u Q I rx ry h
 obtain⟨p,xs,rfl,hq,fx,fs,q⟩:=h
 cases ry
 rcases hq with hq|hq
 ·obtain⟨its,r,pl,hz⟩:=I.list hq
  refine SeqAt.in_listAt (Iv x) pl.isList (fun w hw=>qZ rx fx r fs w (by simpa using hw)) ⟨.bl _,H,I,rfl,?_⟩
  rw[show its.toArray.any (Iv x)=its.any (Iv x) by simp,uW r fs]
  exact q
 ·obtain⟨its,r,pl,hz⟩:=I.tuple hq
  refine SeqAt.in_tupleAt (Iv x) pl (fun w hw=>qZ rx fx r fs w (by simpa using hw)) ⟨.bl _,H,I,rfl,?_⟩
  rw[show its.toArray.any (Iv x)=its.any (Iv x) by simp,uW r fs]
  exact q
theorem DQ:tM X (compareOp .NotIn) (rIn X.K true):=by
 intro pins s σ H x y v u Q I rx ry h
 obtain⟨p,xs,rfl,hq,fx,fs,q⟩:=h
 cases ry
 rcases hq with hq|hq
 ·obtain⟨its,r,pl,hz⟩:=I.list hq
  refine SeqAt.notIn_listAt (Iv x) pl.isList (fun w hw=>qZ rx fx r fs w (by simpa using hw)) ⟨.bl _,H,I,rfl,?_⟩
  rw[show its.toArray.any (Iv x)=its.any (Iv x) by simp,uW r fs]
  exact q
 ·obtain⟨its,r,pl,hz⟩:=I.tuple hq
  refine SeqAt.notIn_tupleAt (Iv x) pl (fun w hw=>qZ rx fx r fs w (by simpa using hw)) ⟨.bl _,H,I,rfl,?_⟩
  rw[show its.toArray.any (Iv x)=its.any (Iv x) by simp,uW r fs]
  exact q
theorem DR:tM X (compareOp .NotIn) (fun x y H Q=>∃ i j,x=.str i/\y=.str j/\Q (.bl (!(!(Builtin.Str.occurrences j i 0 j.length 1).isEmpty))) H):=by
 intro pins s σ H x y v u Q I rx ry h
 obtain⟨i,j,rfl,rfl,q⟩:=h
 obtain⟨t,rfl⟩:=rx
 obtain⟨t',rfl⟩:=ry
 exact notIn_str ⟨.bl _,H,I,rfl,q⟩
theorem DW:jz X (.builtin "len") (fun xs H Q=>∃ p ys,xs=[.ref p]/\(pW X.K H p ys\/uP X.K H p ys)/\Q (.int ys.length) H):=by
 intro pins s σ H xs us Q I r h
 obtain⟨p,ys,rfl,hq,q⟩:=h
 obtain⟨u,rfl,rx⟩:=vals1 r
 cases rx
 have hn:=wM
 rcases hq with hq|hq
 ·obtain⟨its,r',pl,hz⟩:=I.list hq
  have hlen:=r'.length
  exact Calls.call_len_list pl.isList (by simp only[zo]<;>omega) ⟨.int ys.length,H,I.tok _,⟨s.toks+1,by rw[zo,hlen]⟩,q⟩
 ·obtain⟨its,r',pl,hz⟩:=I.tuple hq
  have hlen:=r'.length
  exact len_tuple pl (by simp only[zo]<;>omega) ⟨.int ys.length,H,I.tok _,⟨s.toks+1,by rw[zo,hlen]⟩,q⟩
theorem DX:jz X (.builtin "len") (fun xs H Q=>∃ z,xs=[.str z]/\z.length<=sizeLine/\Q (.int z.length) H):=by
 intro pins s σ H xs us Q I r h
 obtain⟨z,rfl,hz,q⟩:=h
 obtain⟨u,rfl,t,rfl⟩:=vals1 r
 have hn:=wM
 exact len_str (by omega) ⟨.int z.length,H,I.tok _,⟨_,rfl⟩,q⟩
theorem jz.or {f:Value} {r r':List V->Hp->VK->Prop} (h:jz X f r) (h':jz X f r'):jz X f (fun xs H Q=>r xs H Q\/r' xs H Q):=by
 intro pins s σ H xs us Q I rs q
 rcases q with q|q
 ·exact h pins s σ H xs us Q I rs q
 ·exact h' pins s σ H xs us Q I rs q
theorem BJ:jz X (.type "tuple") (fun xs H Q=>∃ p ys,xs=[.ref p]/\((pW X.K H p ys/\∀ l,H l=none->Q (.ref l) (upd H l (.tup ys)))\/(uP X.K H p ys/\Q (.ref p) H))):=by
 intro pins s σ H xs us Q I r h
 obtain⟨p,ys,rfl,h⟩:=h
 obtain⟨u,rfl,rx⟩:=vals1 r
 cases rx
 rcases h with⟨hq,q⟩|⟨hq,q⟩
 ·obtain⟨its,r',pl,hz⟩:=I.list hq
  have hlen:=r'.length
  refine call_tuple_list pl.isList (fun h' kp=>?_) (by simp only[zo]<;>omega)
  have I1:Inv X pins σ H { s with heap:=h' }:=I.kept (t':=s.toks) kp
  have I2:Inv X pins σ (upd H h'.objs.size (.tup ys)) { s with heap:=h'.push { cls:=.type "tuple", data:=.seq its.toArray } }:=
   I1.laid (t':=s.toks) (fun b o e=>zd _ e) (zk _) (show fj X.prog X.w _ _ _ (.tup ys) from⟨hz,its,r',qU.new _ _⟩)
  exact⟨.ref h'.objs.size,_,I2,rfl,q _ (I1.hok.fresh (zk _))⟩
 ·obtain⟨its,r',pl,hz⟩:=I.tuple hq
  exact call_tuple_same pl ⟨.ref p,H,I,rfl,q⟩
def tyV (K:FG_) (T:String) (x:V) (H:Hp):Prop:=match x with
 |.str _=>T = "str"
 |.int _=>T = "int"
 |.ref p=>(T = "list" ∧ ∃ xs,pW K H p xs)\/(T = "tuple" ∧ ∃ o,K.lookup p=some o/\o.cls=.type "tuple" ∧ o.dict=none) ∨
   (T = "dict" ∧ ((∃ kvs,H p=some (.dK kvs))\/∃ kvs,H p=some (.dT kvs)))\/(T = "set" ∧ ∃ S n,H p=some (.set S n))
 |_=>False
theorem Xx {pins:List (Addr×Obj)} {σ:St} {H:Hp} {s:Shared} {T:String} {x:V} {v:Value} (I:Inv X pins σ H s) (r:RelV x v) (ty:tyV X.K T x H) :
  s.TypeIs v T/\∀ a,v=.ref a->∃ ob,s.heap.get? a=some ob/\ob.dict=none:=by
 cases x with
 |str z=>
  obtain⟨t,rfl⟩:=r
  cases (show T = "str" from ty)
  exact⟨typeIs_str s z t,fun _ e=>nomatch e⟩
 |int i=>
  obtain⟨t,rfl⟩:=r
  cases (show T = "int" from ty)
  exact⟨typeIs_int s i t,fun _ e=>nomatch e⟩
 |ref p=>
  cases r
  rcases ty with⟨rfl,xs,hq⟩|⟨rfl,o,hk,hc,hd⟩|⟨rfl,hk⟩|⟨rfl,S,n,hk⟩
  ·obtain⟨its,_,pl,_⟩:=I.list hq
   refine⟨pl.isList.typeIs,fun a e=>?_⟩
   cases e
   obtain⟨o,n,e,c,hd,_⟩:=pl
   exact⟨o,e,hd⟩
  ·refine⟨⟨o,I.Bt p o hk,hc⟩,fun a e=>?_⟩
   cases e
   exact⟨o,I.Bt _ o hk,hd⟩
  ·have z:∃ o,s.heap.get? p=some o/\o.ExactDict:=by
    rcases hk with⟨kvs,hk⟩|⟨kvs,hk⟩
    ·obtain⟨_,_,_,_,o,_,_,e,ex,_⟩:=I.hok p _ hk
     exact⟨o,e,ex⟩
    ·obtain⟨_,_,_,_,o,_,_,e,ex,_⟩:=I.hok p _ hk
     exact⟨o,e,ex⟩
   obtain⟨o,e,ex⟩:=z
   refine⟨⟨o,e,ex.1⟩,fun a e2=>?_⟩
   cases e2
   exact⟨o,e,ex.2.1⟩
  ·obtain⟨o,_,_,_,e,ex,_⟩:=I.hok p _ hk
   refine⟨⟨o,e,ex.1⟩,fun a e2=>?_⟩
   cases e2
   exact⟨o,e,ex.2.1⟩
 |_=>exact False.elim ty
def tBM (K:FG_) (T:String) (r:V->List V->Hp->VK->Prop) (to:TE) (t:TA):TE:=fun σ H Q=>to σ H fun x H1=>tyV K T x H1/\t σ H1 fun xs H2=>r x xs H2 Q
variable {o e:Expr} {es:List Expr} {to:TE} {t:TA} {name:Str} {apos cpos:Pos} {T id:String} {r:V->List V->Hp->VK->Prop}
theorem V4 (pa:PlainAttrs T) (slot:Slot T name id) (hty:typeOf (.builtin id)=pure (.type "method_descriptor")) (hm:Zu X id r) (ho:PE X o to) (ha:PA X (e::es) t)
  (hbase:attributeBase o name X.env (eval o X.env)=eval o X.env:=by rfl)
  (hfew:((backTo cpos (starEach (e::es) X.env)).all (fun x=>!x.1)&&(backToKw cpos (keywordEach [] X.env)).all (fun x=>x.1.isSome)
   && decide ((e::es).length+([]:List Keyword).length+(if ([]:List Keyword).isEmpty then 0 else 1) < 30))=true:=by rfl)
  (hline:(apos.endLine==cpos.line)=true:=by rfl) (hs:starEach (e::es) X.env=(false,eval e X.env)::starEach es X.env:=by rfl) (hplain:(backTo cpos (starEach es X.env)).any (·.1)=false:=by rfl) :
  PE X (.Call (.Attribute o name apos) (e::es) [] cpos) (tBM X.K T r to t):=by
 intro pins s σ H Q I h
 refine wpAny_Call_method_late hbase hfew hline rfl (iu (ho pins s σ H _ I h) fun v s1 ⟨x,H1,I1,r1,ty,q1⟩=>?_)
 obtain⟨h1,h2⟩:=Xx I1 r1 ty
 refine⟨T,id,pa,slot,hty,h1,h2,?_⟩
 have hA:=ha cpos pins s1 σ H1 _ I1 q1
 rw[hs] at hA ⊢
 refine Calls.callWith_builtin (by show (false||(backTo cpos (starEach es X.env)).any (·.1))=false;rw[hplain]<;>rfl) (Calls.evalArgs_plain ?_)
 exact iu hA fun us s2 ⟨vs,H2,I2,r2,q2⟩=>hm pins s2 σ H2 x vs v us Q I2 r1 r2 q2
end
end L2
namespace L2
open PySem PySem.Spec PyProof.Rows
def MtM (X:Cx) (id:String) (r:V->List V->Hp->VK->Prop):Prop:=
 ∀ (pins:List (Addr×Obj)) (s:Shared) (σ:St) (H:Hp) (x:V) (xs:List V) (v:Value) (us:List Value) (Q:VK),Inv X pins σ H s->RelV x v->Vals xs us->r x xs H Q →
  wpAny (model X.prog X.w) X.A (call (.builtin id) (v::us)) (EP X pins σ Q) X.xe s
theorem Vals.one:∀ {x:V} {us:List Value},Vals [x] us->∃ u,us=[u]/\RelV x u
 |_,_,.cons r .nil=>⟨_,rfl,r⟩
theorem Vals.zero:∀ {us:List Value},Vals [] us->us=[]
 |_,.nil=>rfl
theorem Vals.eraseIdx:∀ {xs:List V} {us:List Value} (i:Nat),Vals xs us->Vals (xs.eraseIdx i) (us.eraseIdx i)
 |_,_,_,.nil=>.nil
 |_,_,0,.cons _ t=>t
 |_,_,i+1,.cons r t=>.cons r (Vals.eraseIdx i t)
section
variable {X:Cx} {pins:List (Addr×Obj)} {σ:St} {H:Hp} {s:Shared} {l b:Addr} {xs ys zs:List V}
theorem Inv.Xy {its its':List Value} {n:Nat} {f:Array Value->Array Value} {t':Nat} (I:Inv X pins σ H s) (hH:H l=some (.lst xs))
  (e:s.heap.get? l=some { cls:=.type "list", data:=.seq its.toArray n }) (hf:f its.toArray=its'.toArray) (hv:Vals ys its') (hz:ys.length<=sizeLine) :
  Inv X pins σ (upd H l (.lst ys)) { s with heap:=s.heap.update l (Obj.mapSeq f),toks:=t' }:=by
 have q:=PySem.IsL.update e f
 rw[hf] at q
 refine I.write (x:=l) (e:=l) (by rw[hH];exact trivial) (.inl rfl) (fun b' u hb hu=>(qf s.heap (Obj.mapSeq f) (qq hb)).trans hu) ⟨_,q⟩ ?_
 exact⟨hz,its',_,hv,q⟩
theorem Inv.fresh (I:Inv X pins σ H s):H s.heap.objs.size=none:=I.hok.fresh (zk _)
theorem Inv.acR (I:Inv X pins σ H s) (hH:H l=some (.lst xs)):xs.length<=sizeLine/\∃ (its:List Value) (n:Nat),Vals xs its/\xs.length=its.length/\s.heap.get? l=some { cls:=.type "list", data:=.seq its.toArray n }:=by
 obtain⟨z,its,n,r,e⟩:=I.hok l _ hH
 exact⟨z,its,n,r,r.length,e⟩
end
section
variable {X:Cx}
def Tp:V->List V->Hp->VK->Prop:=fun x vs H Q=>∃ l xs y,x=.ref l/\vs=[y]/\H l=some (.lst xs)/\xs.length < sizeLine/\Q .non (upd H l (.lst (xs++[y])))
theorem Cp:MtM X "list.append" Tp:=by
 intro pins s σ H x vs v us Q I rx rv h
 obtain⟨l,xs,y,rfl,rfl,hH,hz,q⟩:=h
 cases rx
 obtain⟨u,rfl,ru⟩:=rv.one
 obtain⟨z,its,n,r,hl,e⟩:=I.acR hH
 refine call_meets F.slot_list_append ⟨_,e,rfl⟩ F.entry_list_append (F.args_list_append_2 _ _) (PySem.list_append l its.toArray n u (by rw[zo];omega)) ⟨e,?_⟩
 refine⟨.non,_,I.Xy (its':=its++[u]) hH e (by simp) (r.append (.cons ru .nil)) ?_,rfl,q⟩
 rw[zS,List.length_singleton]
 omega
end
section
variable {prog:Program} {w:World} {A:Around} {E:VP_} {s:Shared}
end
section
variable {X:Cx}
end
end L2
namespace L2
open PySem PySem.Spec PyProof.Rows
section
variable {κ:Type} [DecidableEq κ]
def uE (kvs:List (κ×V)) (k:κ):Option V:=(kvs.find? fun kv=>decide (kv.1=k)).map (·.2)
def putK (kvs:List (κ×V)) (k:κ) (v:V):List (κ×V):=
 if (kvs.any fun kv=>decide (kv.1=k))=true then kvs.map (fun kv=>if kv.1=k then (kv.1,v) else kv) else kvs++[(k,v)]
def V5 (kvs:List (κ×V)) (k:κ):List (κ×V):=kvs.filter fun kv=>decide (kv.1≠k)
theorem q8 {p:κ×V} {r:List (κ×V)} {k:κ} (e:p.1=k):uE (p::r) k=some p.2:=by simp[uE,qA,e]
theorem q9 {p:κ×V} {r:List (κ×V)} {k:κ} (e:¬ p.1=k):uE (p::r) k=uE r k:=by simp[uE,qA,e]
theorem zj (k:κ):∀ kvs:List (κ×V),(kvs.any fun kv=>decide (kv.1=k))=(uE kvs k).isSome
 |[]=>rfl
 |p::r=>by
  rw[QN]
  by_cases e:p.1=k
  ·simp only[q8 e,ZU e,Bool.true_or,Option.isSome_some]
  ·rw[q9 e,ZI e,Bool.false_or];exact zj k r
theorem xW (kvs:List (κ×V)) (k:κ) (v:V):(putK kvs k v).length<=kvs.length+1:=by
 unfold putK
 split
 ·rw[zg];omega
 ·rw[zS,QU,List.length_nil];omega
theorem wI.LC {o:Option V} {u:Option Value} (r:wI o u):o.isSome=u.isSome:=by
 cases o with
 |none=>cases u with
  |none=>rfl
  |some _=>exact (show False from r).elim
 |some _=>cases u with
  |none=>exact (show False from r).elim
  |some _=>rfl
theorem wI.getD {o:Option V} {u:Option Value} {d:V} {d':Value} (r:wI o u) (rd:RelV d d'):RelV (o.getD d) (u.getD d'):=by
 cases o with
 |none=>cases u with
  |none=>exact rd
  |some _=>exact (show False from r).elim
 |some _=>cases u with
  |none=>exact (show False from r).elim
  |some _=>exact r
theorem KV.val {kvs:List (κ×V)} {vs:List (κ×Value)} (r:KV kvs vs) (k:κ):wI (uE kvs k) (valueAt vs k):=by
 unfold KV at r
 induction r with
 |nil=>exact True.intro
 |@cons p q ps qs h t ih=>
  obtain⟨h1,h2⟩:=h
  by_cases e:p.1=k
  ·have e':q.1=k:=h1.symm.trans e
   have b:valueAt (q::qs) k=some q.2:=by simp[valueAt,qA,e']
   rw[q8 e,b];exact h2
  ·have e':¬ q.1=k:=fun z=>e (h1.trans z)
   have b:valueAt (q::qs) k=valueAt qs k:=by simp[valueAt,qA,e']
   rw[q9 e,b];exact ih
theorem KV.any {kvs:List (κ×V)} {vs:List (κ×Value)} (r:KV kvs vs) (k:κ):(kvs.any fun kv=>decide (kv.1=k))=vs.any fun kv=>decide (kv.1=k):=by
 unfold KV at r
 induction r with
 |nil=>rfl
 |cons h t ih=>rw[QN,QN,ih,h.1]
theorem KV.repl {kvs:List (κ×V)} {vs:List (κ×Value)} (r:KV kvs vs) (k:κ) {y:V} {u:Value} (ry:RelV y u) :
  KV (kvs.map fun kv=>if kv.1=k then (kv.1,y) else kv) (vs.map fun kv=>if kv.1=k then (kv.1,u) else kv):=by
 unfold KV at r ⊢
 induction r with
 |nil=>exact .nil
 |@cons p q ps qs h t ih=>
  rw[zl,zl]
  refine .cons ?_ ih
  obtain⟨h1,h2⟩:=h
  by_cases e:p.1=k
  ·rw[zi e,zi (h1.symm.trans e)];exact⟨h1,ry⟩
  ·rw[zw e,zw (fun z=>e (h1.trans z))];exact⟨h1,h2⟩
theorem KV.put {kvs:List (κ×V)} {vs:List (κ×Value)} (r:KV kvs vs) (k:κ) {y:V} {u:Value} (ry:RelV y u):KV (putK kvs k y) (stored vs k u):=by
 unfold putK stored
 rw[r.any k]
 by_cases e:(vs.any fun kv=>decide (kv.1=k))=true
 ·rw[zi e,zi e];exact r.repl k ry
 ·rw[zw e,zw e];exact Paired.snoc r ⟨rfl,ry⟩
theorem KV.drop {kvs:List (κ×V)} {vs:List (κ×Value)} (r:KV kvs vs) (k:κ):KV (V5 kvs k) (without vs k):=by
 unfold KV at r ⊢
 unfold V5 without
 induction r with
 |nil=>exact .nil
 |@cons p q ps qs h t ih=>
  obtain⟨h1,h2⟩:=h
  rw[kL,kL]
  by_cases e:p.1=k
  ·have a:¬ decide (p.1≠k)=true:=by simp[e]
   have b:¬ decide (q.1≠k)=true:=by simp[h1.symm.trans e]
   rw[zw a,zw b];exact ih
  ·have e':¬ q.1=k:=fun z=>e (h1.trans z)
   have a:decide (p.1≠k)=true:=by simp[e]
   have b:decide (q.1≠k)=true:=by simp[e']
   rw[zi a,zi b];exact .cons ⟨h1,h2⟩ ih
theorem KV.length {kvs:List (κ×V)} {vs:List (κ×Value)} (r:KV kvs vs):kvs.length=vs.length:=Paired.length r
end
theorem O6 {P:Program} {w:World} {k:Key} {u:Value} (r:RelV (kV k) u):(bY P w).is k u=true:=by
 cases k with
 |inl i=>obtain⟨t,e⟩:=(show ∃ t,u=Value.int i t from r);subst e;exact FT P w i t
 |inr x=>obtain⟨t,e⟩:=(show ∃ t,u=Value.str x t from r);subst e;exact FW P w x t
theorem Cq {P:Program} {w:World}:∀ {ks:List Key} {us:List Value},Vals (ks.map kV) us->ItemsAre (bY P w) ks us
 |[],_,r=>by rw[List.map_nil] at r;cases r;exact .nil
 |k::ks,_,r=>by
  rw[zl] at r
  cases r with
  |cons h t=>exact .cons (O6 h) (Cq t)
abbrev KT (H:Hp):List (List Key×V)->List (List Key×Addr×Value)->Prop:=Paired fun p q=>p.1=q.1/\H q.2.1=some (.tup (p.1.map kV))/\RelV p.2 q.2.2
theorem KT.val {H:Hp} {kvs:List (List Key×V)} {xs:List (List Key×Addr×Value)} (r:KT H kvs xs) (k:List Key):wI (uE kvs k) ((atKey xs k).map (·.2)):=by
 induction r with
 |nil=>exact True.intro
 |@cons p q ps qs h t ih=>
  obtain⟨h1,_,h2⟩:=h
  by_cases e:p.1=k
  ·have e':q.1=k:=h1.symm.trans e
   have b:atKey (q::qs) k=some q.2:=by simp[atKey,qA,e']
   rw[q8 e,b];exact h2
  ·have e':¬ q.1=k:=fun z=>e (h1.trans z)
   have b:atKey (q::qs) k=atKey qs k:=by simp[atKey,qA,e']
   rw[q9 e,b];exact ih
theorem KT.repl {H:Hp} {kvs:List (List Key×V)} {xs:List (List Key×Addr×Value)} (r:KT H kvs xs) (k:List Key) {y:V} {u:Value} (ry:RelV y u) :
  KT H (kvs.map fun kv=>if kv.1=k then (kv.1,y) else kv) (xs.map (putAt k u)):=by
 induction r with
 |nil=>exact .nil
 |@cons p q ps qs h t ih=>
  rw[zl,zl]
  refine .cons ?_ ih
  obtain⟨h1,h2,h3⟩:=h
  unfold putAt
  by_cases e:p.1=k
  ·rw[zi e,zi (h1.symm.trans e)];exact⟨h1,h2,ry⟩
  ·rw[zw e,zw (fun z=>e (h1.trans z))];exact⟨h1,h2,h3⟩
theorem KT.put {H:Hp} {kvs:List (List Key×V)} {xs:List (List Key×Addr×Value)} (r:KT H kvs xs) (k:List Key) {b:Addr} {y:V} {u:Value} (hb:H b=some (.tup (k.map kV))) (ry:RelV y u) :
  KT H (putK kvs k y) (storedH xs k b u):=by
 have e:(kvs.any fun kv=>decide (kv.1=k))=(atKey xs k).isSome:=by
  rw[zj,(r.val k).LC,Option.isSome_map]
 unfold putK storedH
 rw[e]
 by_cases q:(atKey xs k).isSome=true
 ·rw[zi q,zi q];exact r.repl k ry
 ·rw[zw q,zw q];exact Paired.snoc r ⟨rfl,hb,ry⟩
theorem KT.keeps {H H':Hp} {kvs:List (List Key×V)} {xs:List (List Key×Addr×Value)} (r:KT H kvs xs) (ht:∀ b ys,H b=some (.tup ys)->H' b=some (.tup ys)):KT H' kvs xs:=
 Paired.Sw r fun _ _ z=>⟨z.1,ht _ _ z.2.1,z.2.2⟩
section
variable {P:Program} {w:World} {H:Hp} {h:Heap} {a:Addr}
theorem V6 {u:HO} (ok:qW P w H h) (e:Rd H a u):fj P w H h a u:=e.ok ok
theorem um {kvs:List (Key×V)} (ok:qW P w H h) (e:Rd H a (.dK kvs)):kvs.length<=sizeLine/\(a==sysModules)=false/\∃ vs,KV kvs vs/\h.DictOf (bY P w) a vs:=
 show fj P w H h a (.dK kvs) from V6 ok e
theorem aal {kvs:List (Key×V)} (ok:qW P w H h) (e:H a=some (.dK kvs)):kvs.length<=sizeLine/\(a==sysModules)=false/\∃ vs,KV kvs vs/\h.DictOf (bY P w) a vs:=um ok (.inl e)
theorem Iw {ks:List Key} (ok:qW P w H h) (e:H a=some (.tup (ks.map kV))):(tupleKind (bY P w)).is h ks a:=by
 obtain⟨_,its,r,o,h1,h2,⟨n,h3⟩,_⟩:=(show fj P w H h a (.tup (ks.map kV)) from ok a _ e)
 exact⟨o,its.toArray,n,h1,h2,h3,by simpa using Cq r⟩
theorem O7 {kvs:List (List Key×V)} (ok:qW P w H h) (e:Rd H a (.dT kvs)):kvs.length<=sizeLine/\(a==sysModules)=false ∧
  ∃ xs,KT H kvs xs/\h.DictOfH (tupleKind (bY P w)) a xs:=by
 obtain⟨z,y,xs,r,o,es,ep,h1,h2,h3,h4,h5⟩:=(show fj P w H h a (.dT kvs) from V6 ok e)
 refine⟨z,y,xs,r,o,es,ep,h1,h2,h3,h4,fun x hx=>?_,h5⟩
 have all:∀ {l:List (List Key×V)} {m:List (List Key×Addr×Value)},KT H l m->∀ x∈m,(tupleKind (bY P w)).is h x.1 x.2.1:=by
  intro l m q
  induction q with
  |nil=>intro x hx;exact nomatch hx
  |@cons p q ps qs hq t ih=>
   intro x hx
   rcases List.mem_cons.mp hx with e|hx
   ·subst e
    exact Iw ok (by rw[<-hq.1];exact hq.2.1)
   ·exact ih x hx
 exact all r x hx
theorem aam {kvs:List (List Key×V)} (ok:qW P w H h) (e:H a=some (.dT kvs)):kvs.length<=sizeLine/\(a==sysModules)=false ∧
  ∃ xs,KT H kvs xs/\h.DictOfH (tupleKind (bY P w)) a xs:=O7 ok (.inl e)
end
def Iz (H:Hp) (a:Addr) (y:V) (r:Option V):Prop:=
 (∃ kvs k,Rd H a (.dK kvs)/\y=kV k/\r=uE kvs k)\/∃ kvs k b,Rd H a (.dT kvs)/\y=.ref b/\H b=some (.tup (k.map kV))/\r=uE kvs k
def IK (H:Hp) (a:Addr) (y v:V) (H':Hp):Prop:=
 (∃ kvs k,H a=some (.dK kvs)/\y=kV k/\kvs.length < sizeLine/\H'=upd H a (.dK (putK kvs k v))) ∨
 ∃ kvs k b,H a=some (.dT kvs)/\y=.ref b/\H b=some (.tup (k.map kV))/\kvs.length < sizeLine/\H'=upd H a (.dT (putK kvs k v))
theorem Iz.k {H:Hp} {a:Addr} {kvs:List (Key×V)} {k:Key} (e:H a=some (.dK kvs)):Iz H a (kV k) (uE kvs k):=.inl ⟨kvs,k,.inl e,rfl,rfl⟩
theorem Iz.t {H:Hp} {a b:Addr} {kvs:List (List Key×V)} {k:List Key} (e:H a=some (.dT kvs)) (eb:H b=some (.tup (k.map kV))):Iz H a (.ref b) (uE kvs k):=.inr ⟨kvs,k,b,.inl e,rfl,eb,rfl⟩
theorem IK.k {H:Hp} {a:Addr} {kvs:List (Key×V)} {k:Key} {v:V} (e:H a=some (.dK kvs)) (hl:kvs.length < sizeLine):IK H a (kV k) v (upd H a (.dK (putK kvs k v))):=.inl ⟨kvs,k,e,rfl,hl,rfl⟩
theorem IK.t {H:Hp} {a b:Addr} {kvs:List (List Key×V)} {k:List Key} {v:V} (e:H a=some (.dT kvs)) (eb:H b=some (.tup (k.map kV))) (hl:kvs.length < sizeLine) :
  IK H a (.ref b) v (upd H a (.dT (putK kvs k v))):=.inr ⟨kvs,k,b,e,rfl,eb,hl,rfl⟩
section
variable {X:Cx} {pins:List (Addr×Obj)} {σ:St} {H:Hp} {s:Shared} {a:Addr} {y v:V} {u r:Value} {o:Option V} {A:Around} {E:VP_}
theorem Inv.big (I:Inv X pins σ H s):sysModules < s.heap.objs.size:=by
 have h:mainGlobals < s.heap.objs.size:=(I.mod.glob.keeps I.bk).lt
 exact Nat.lt_trans (by decide) h
theorem LK {Q:VP_} (hu:A.units+1 < cLine) (I:Inv X pins σ H s) (g:Iz H a y (some v)) (ry:RelV y u) (h:∀ w' s',Inv X pins σ H s'->RelV v w'->Q w' s') :
  wpAny (model X.prog X.w) A (getItem (.ref a) u) Q E s:=by
 rcases g with⟨kvs,k,e,ey,l⟩|⟨kvs,k,b,e,ey,eb,l⟩
 ·subst ey
  obtain⟨z,hd,vs,rel,dd⟩:=um I.hok e
  obtain⟨w',hw,Oa⟩:=wI.some_of (v:=v) (o:=valueAt vs k) (by rw[l];exact rel.val k)
  exact wpAny_getItem_of (O6 ry) dd.mapOf hw (h w' _ (I.tok _) Oa)
 ·subst ey
  cases (show u=Value.ref b from ry)
  obtain⟨z,hd,xs,rel,dd⟩:=O7 I.hok e
  obtain⟨w',hw,Oa⟩:=wI.some_of (v:=v) (o:=(atKey xs k).map (·.2)) (by rw[l];exact rel.val k)
  obtain⟨p,hp,hp2⟩:=Option.map_eq_some_iff.mp hw
  refine wpAny_getItem_heap (tupleKind_room_in1 hu) (Iw I.hok eb) dd hp ?_
  rw[hp2]
  exact h w' _ (I.tok _) Oa
theorem J6 {h':Heap} {t':Nat} {ob:HO} (I:Inv X pins σ H s) (mu:ZF (H a)) (hs:Heap.SameBut a s.heap h') (he:∃ q,h'.get? a=some q) (new:fj X.prog X.w (upd H a ob) h' a ob) :
  Inv X pins σ (upd H a ob) { s with heap:=h',toks:=t' }:=
 I.write (x:=a) (e:=a) mu (.inl rfl) (fun b q hb z=>(hs.2 b hb).trans z) he new
theorem Xz {P:Program} {w:World} {H':Hp} {h':Heap} {kvs:List (Key×V)} {vs:List (Key×Value)} (z:kvs.length<=sizeLine) (hd:(a==sysModules)=false) (rel:KV kvs vs) (dd:h'.DictOf (bY P w) a vs) :
  fj P w H' h' a (.dK kvs):=⟨z,hd,vs,rel,dd⟩
theorem LQ {H':Hp} {Q:Unit->Shared->Prop} (hu:A.units+1 < cLine) (I:Inv X pins σ H s) (g:IK H a y v H') (ry:RelV y u) (rv:RelV v r) (h:∀ s',Inv X pins σ H' s'->Q () s') :
  wpAny (model X.prog X.w) A (setItem (.ref a) u r) Q E s:=by
 rcases g with⟨kvs,k,e,ey,l,eH⟩|⟨kvs,k,b,e,ey,eb,l,eH⟩
 ·subst ey eH
  obtain⟨z,hd,vs,rel,dd⟩:=aal I.hok e
  have hz:vs.length<=sizeLine:=by rw[<-rel.length];exact z
  have hl:(putK kvs k v).length<=sizeLine:=by have:=xW kvs k v;omega
  refine wpAny_setItem_pairs (hsz:=hz) (O6 ry) dd fun h' dd' hs=>h _ ?_
  have he:∃ q,h'.get? a=some q:=let ⟨q,_,_,hq,_⟩:=dd';⟨q,hq⟩
  exact J6 I (by rw[e];exact True.intro) hs he (Xz hl hd (rel.put k rv) dd')
 ·subst ey eH
  cases (show u=Value.ref b from ry)
  obtain⟨z,hd,xs,rel,dd⟩:=aam I.hok e
  have hz:xs.length<=sizeLine:=by rw[<-Paired.length rel];exact z
  have hl:(putK kvs k v).length<=sizeLine:=by have:=xW kvs k v;omega
  refine wpAny_setItem_heap (hsz:=hz) (tupleKind_room_in1 hu) (Iw I.hok eb) dd fun h' dd' hs=>h _ ?_
  obtain⟨q,es,ep,hq,h2,h3,h4,_,h5⟩:=dd'
  refine J6 I (by rw[e];exact True.intro) hs ⟨q,hq⟩ ⟨hl,hd,_,(rel.put k eb rv).keeps fun c ys ec=>?_,q,es,ep,hq,h2,h3,h4,h5⟩
  rw[aJ (lN ec e (fun z=>nomatch z))]
  exact ec
end
section
variable {X:Cx} {pins:List (Addr×Obj)} {σ:St} {H:Hp} {s:Shared} {a:Addr} {kvs:List (Key×V)} {k:Key} {u:Value} {A:Around} {E:VP_}
end
def XC (i:Expr):Prop:=∀ ov iv,subscripted i false ov iv=operate [ov,iv] (getItem ov iv)
theorem Tq {prog:Program} {w:World} {A:Around} {E:VP_} {s:Shared} {env:Env} {value slice:Expr} {pos:Pos} {T id:String} {Q:VP_}
  (hl:typeLookup (.type T) "__getitem__" = pure (some (.builtin id))) (hs:XC slice)
  (h:wpAny (model prog w) A (eval value env) (fun o s₁=>wpAny (model prog w) A (eval slice env) (fun i s₂=>s₂.TypeIs o T/\wpAny (model prog w) A (getItem o i) Q E s₂) E s₁) E s) :
  wpAny (model prog w) A (eval (.Subscript value slice pos) env) Q E s:=by
 refine Subscript_ (ZH h (fun o s₁ h₁=>ZH h₁ (fun i s₂ h₂=>?_) fun _ _ x=>x) fun _ _ x=>x)
 obtain⟨hT,h₂⟩:=h₂
 unfold subscriptTail
 refine zb ?_
 rw[getitemInPython_of_ne hT.not_modules]
 refine zb (wpAny_specialOf hT hl ?_)
 have fin:wpAny (model prog w) A (subscripted slice false o i) (fun r s₃=>wpAny (model prog w) A (letTemporaryGo value o r >>= fun _=>pure r) Q E s₃) E s₂:=by
  rw[hs o i]
  exact wpAny_operating (ZH h₂ (fun r s₃ h₃=>zb (wpAny_letTemporaryGo (ze h₃))) fun _ _ x=>x)
 first
  |exact ze (zb fin)
  |exact zb (ze (zb fin))
  |exact zb fin
theorem Ge {X:Cx} {pins:List (Addr×Obj)} {σ:St} {H:Hp} {s:Shared} {a:Addr} {y:V} {o:Option V} (I:Inv X pins σ H s) (g:Iz H a y o):s.TypeIs (.ref a) "dict" := by
 rcases g with⟨kvs,k,e,_,_⟩|⟨kvs,k,b,e,_,_,_⟩
 ·obtain⟨_,_,vs,_,dd⟩:=um I.hok e
  exact dd.typeIs
 ·obtain⟨_,_,xs,_,dd⟩:=O7 I.hok e
  exact dd.typeIs
def aan (td ty:TE):TE:=fun σ H Q=>td σ H fun x H1=>ty σ H1 fun y H2=>∃ a v,x=.ref a/\Iz H2 a y (some v)/\Q v H2
def aao (td ty tv:TE):TS:=fun D σ H=>tv σ H fun v H1=>td σ H1 fun x H2=>ty σ H2 fun y H3=>∃ a H4,x=.ref a/\IK H3 a y v H4/\D.nx σ H4
section
variable {X:Cx} {o i e value:Expr} {pos pos' tpos:Pos} {td ty tv:TE}
theorem Tr (hu:X.A.units+1 < cLine) (ho:PE X o td) (hi:PE X i ty) (hs:XC i):PE X (.Subscript o i pos) (aan td ty):=by
 intro pins s σ H Q I h
 refine Tq PySem.F.slot_dict_getitem.lookup hs (iu (ho pins s σ H _ I h) fun u s1 ⟨x,H1,I1,rx,q1⟩=>iu (hi pins s1 σ H1 _ I1 q1) fun iv s2 ⟨y,H2,I2,ry,a,v,ex,g,q2⟩=>?_)
 subst ex
 obtain rfl:u=Value.ref a:=rx
 exact⟨Ge I2 g,LK hu I2 g ry fun w' s3 I3 Oa=>⟨v,H2,I3,Oa,q2⟩⟩
theorem Tt (hu:X.A.units+1 < cLine) (ho:PE X o td) (hi:PE X i ty) (hv:PE X value tv) (hs:swapsWith value (some (.Subscript o i pos')) pos.line X.env=pure false) :
  PS X (.Assign [.Subscript o i pos'] value pos) (aao td ty tv):=by
 intro pins s σ H D I h
 refine wpAny_Assign_Subscript (iu (hv pins s σ H _ I h) fun r s1 ⟨v,H1,I1,rv,q1⟩=>iu (ho pins s1 σ H1 _ I1 q1) fun u s2 ⟨x,H2,I2,rx,q2⟩=>iu (hi pins s2 σ H2 _ I2 q2) fun iv s3 ⟨y,H3,I3,ry,a,H4,ex,g,q3⟩=>?_) hs
 subst ex
 obtain rfl:u=Value.ref a:=rx
 exact LQ hu I3 g ry rv fun s4 I4=>⟨σ,H4,I4,q3⟩
end
theorem O8 {P:Program} {w:World} {H:Hp} (h:Heap) (hb:sysModules < h.objs.size):fj P w H (h.push { cls:=.type "dict", data:=.dict #[] }) h.objs.size (.dK []):=
 ⟨Qr _,beq_eq_false_iff_ne.mpr (qq (ZE hb)),[],.nil,Heap.DictOf.new h⟩
def XD:TE:=fun _ H Q=>∀ p,H p=none->Q (.ref p) (upd H p (.dK []))
section
variable {X:Cx} {pos:Pos}
theorem Gf:PE X (.Dict [] [] pos) XD:=fun pins s σ H Q I h=>
 wpAny_Dict_empty ⟨.ref s.heap.objs.size,_,I.laid (a:=s.heap.objs.size) (o:=.dK []) (t':=s.toks) (fun _ _ q=>zd _ q) (zk _) (O8 s.heap I.big),rfl,h _ (I.hok.fresh (zk _))⟩
end
structure M1 (X:Cx) (o:Expr) (m:Str) (apos:Pos) (e:Expr) (cpos:Pos):Prop where
 base:attributeBase o m X.env (eval o X.env)=eval o X.env
 few:((backTo cpos (starEach [e] X.env)).all (fun x=>!x.1)&&(backToKw cpos (keywordEach [] X.env)).all (fun x=>x.1.isSome)
  && decide (([e]:List Expr).length+([]:List Keyword).length+(if ([]:List Keyword).isEmpty then 0 else 1) < 30))=true
 line:(apos.endLine==cpos.line)=true
 trees:backTo cpos (starEach [e] X.env)=[(false,eval e X.env)]
structure M2 (X:Cx) (o:Expr) (m:Str) (apos:Pos) (e f:Expr) (cpos:Pos):Prop where
 base:attributeBase o m X.env (eval o X.env)=eval o X.env
 few:((backTo cpos (starEach [e,f] X.env)).all (fun x=>!x.1)&&(backToKw cpos (keywordEach [] X.env)).all (fun x=>x.1.isSome)
  && decide (([e,f]:List Expr).length+([]:List Keyword).length+(if ([]:List Keyword).isEmpty then 0 else 1) < 30))=true
 line:(apos.endLine==cpos.line)=true
 trees:backTo cpos (starEach [e,f] X.env)=[(false,eval e X.env),(false,eval f X.env)]
section
variable {X:Cx} {pins:List (Addr×Obj)} {σ:St} {H:Hp} {s:Shared} {a:Addr} {y d:V} {u r:Value} {o:Option V} {A:Around} {E:VP_}
end
section
variable {X:Cx} {o e f:Expr} {apos cpos:Pos} {td ty tx:TE}
end
section
variable {X:Cx} {pins:List (Addr×Obj)} {σ:St} {H:Hp} {s:Shared} {a:Addr} {kvs:List (Key×V)} {A:Around} {E:VP_}
end
section
variable {X:Cx} {pins:List (Addr×Obj)} {σ:St} {H:Hp} {s:Shared} {a:Addr} {y:V} {u:Value} {A:Around} {E:VP_}
end
end L2
namespace Att
open PySem PySem.W PySem.Calls PyProof.Rows
theorem yj {P:Params} {h:Heap}:∀ (ns:List Int) (vs:List Value),WellAll P h vs (ns.map WData.int)->IntsAre vs ns:=by
 intro ns
 induction ns with
 |nil=>
  intro vs w
  rw[List.map_nil] at w
  cases w
  exact .nil
 |cons n ns ih=>
  intro vs w
  rw[zl] at w
  cases w with
  |cons a b=>
   cases a
   exact .cons _ _ (ih _ b)
theorem LR {l:OpenLaw} {n:Nat} (hn:l.most=some n) {P:Params} {h:Heap} {args:List WData} {vals:List Value}
  (hpre:l.row.toRowW.claim.pre args=true) (hwl:WellAll P h vals args) :
  ∃ a vs ns,vals=[Value.ref a]/\args=[WData.list (ns.map WData.int)]/\h.get? a=some { cls:=.type "list", data:=.seq vs.toArray }/\IntsAre vs ns/\ns.length<=n:=by
 have hsh:WShape.hasAll [] args [.list .int]=true:=(pre_splitW hpre).1
 have hc:l.pre.holds [] { args:=args }=true:=(pre_splitW hpre).2
 obtain⟨d,r,rfl,h1,h2⟩:=hasAllW_cons hsh
 obtain rfl:=hasAllW_nil h2
 obtain⟨xs,rfl,h3⟩:=hasW_list h1
 obtain⟨ns,rfl⟩:=items_int h3
 have hlen:ns.length<=n:=by
  unfold OpenLaw.pre at hc
  have h4:(WTm.not (.lt (.lit (.int (n:Int))) (.len (.arg 0)))).holds [] { args:=[.list (ns.map .int)] }=true:=by
   have h4:=(holds_andW hc).1
   rw[hn] at h4
   exact h4
  have h5:=condW_of h4 (w_not (w_lt w_lit (w_len_list (w_arg rfl))))
  rw[zg] at h5
  refine Nat.le_of_not_lt fun q=>?_
  have q':(n:Int) < ((ns.length:Nat):Int):=by omega
  first
   |(rw[ZU q'] at h5;exact absurd h5 (by decide))
   |(simp at h5;omega)
 cases hwl with
 |cons w1 w2=>
  cases w2
  cases w1 with
  |list ho hall=>exact⟨_,_,ns,rfl,rfl,ho,yj ns _ hall,hlen⟩
theorem Ma (l:OpenLaw) (args:List WData):l.row.toRowW.claim.post args (.bool true) args=true:=
 postW_of (r:=l.row.toRowW) (X:=(true==true))
  (show WShape.has [] (.bool true) .bool=true by first|rfl|decide|simp[WShape.has,WShape.arms,WShape.armsAll])
  (show (WTm.eq .res (.lit (.bool true))).value [] { args:=args,res:=some (.bool true),after:=args }=some (.bool (true==true)) from w_eq_bool (w_res rfl) w_lit) rfl
theorem Gg {l:OpenLaw} {n:Nat} {q:Program} {loose:LS_} {XP:(Str->Option Value)->Heap->Prop} {YP:World->Heap->Prop} {d:DefRec}
  (hn:l.most=some n) (hdf:d.params.defaults=[])
  (call:∀ (w:World) (s₀ s₁:Shared) (mg mb:Str->Option Value) (fa:Addr) (o:Obj) (pm cd doc:Value) (a:Addr) (vs:List Value) (ns:List Int),
   Ground q loose [] XP w s₀ mg mb s₁.heap->YP w s₁.heap →
   s₁.heap.get? fa=some o->o.data=.func (docDef d.name d.params d.body d.scope pm cd doc)->s₁.heap.CodeRec cd d.name->mg d.name=some (.ref fa) →
   s₁.heap.get? a=some { cls:=.type "list", data:=.seq vs.toArray }->IntsAre vs ns->ns.length<=n->s₁.gens=#[] →
   codeAny (model l.prog w) callerA (.call (.ref fa) ⟨[.ref a],[]⟩) (fun r s'=>r=.ok (.ret (.bool true))/\OldK s₁.heap s'.heap/\s'.os=s₁.os/\AllBare s'.gens) s₁) :
  WalkO q loose XP YP l.row.toRowW d [] (fun f vs=>PySem.call f vs):=by
 intro w s₀ s₁ mg mb G Y fa o pm cd doc dV kV ho hd hcd hD hmg hg args vals as hpre hlay hrd hwl hlo
 obtain rfl:dV=.none:=Dflts.none hD hdf
 obtain rfl:kV=.none:=Dflts.noKw hD
 obtain⟨a,vs,ns,rfl,rfl,hobj,hints,hlen⟩:=LR hn hpre hwl
 refine enter_call (kq (call w s₀ s₁ mg mb fa o pm cd doc a vs ns G Y ho (fd_plain hd) hcd hmg hobj hints hlen hg) fun r s' hq=>?_)
 obtain⟨rfl,h2,h3,h4⟩:=hq
 exact⟨.inl ⟨.bool true,.bool true,[],rfl,fun _=>rfl,.bool true,Ma l _,fun _=>⟨List.Pairwise.nil,fun _ hm=>(nomatch hm)⟩⟩,h2,h3,h4⟩
section
variable {prog:Program} {w:World} {A:Around} {E:VP_} {s:Shared} {K:Frag}
end
end Att
namespace L2
open PySem PySem.Spec PyProof.Rows
theorem tO:∀ {vs:List Value} {ns:List Int},IntsAre vs ns->Vals (ns.map V.int) vs
 |_,_,.nil=>.nil
 |_,_,.cons n t h=>.cons ⟨t,rfl⟩ (tO h)
def Only (H:Hp):Prop:=∀ b,H b=none\/∃ o xs,H b=some (.uR o (.lst xs))
theorem O9 {P:Program} {w:World} {K:FG_} {mg mb:Str->Option Value} {CX:Ib} {k:Nat} {fa a:Addr} {fd:FuncData} {x:Str} {sp:Sp} {s₁:Shared} {vs:List Value} {ns:List Int}
  (KX:K.In s₁.heap) (hns:s₁.heap.Ns mainGlobals mg) (hb:s₁.heap.Ns builtinsNs mb) (hbb:∀ x:Str,x ≠ "__name__" → mb x=bootBuiltins x) (hlim:s₁.heap.NoLimit) (hg:s₁.gens=#[])
  (ha:s₁.heap.get? a=some { cls:=.type "list", data:=.seq vs.toArray }) (hi:IntsAre vs ns) (hl:ns.length<=sizeLine) (hr:iT k callerA)
  (F:∀ base:Heap,K.In base->base.Ns mainGlobals mg->bF P w K mg base CX k fa fd [x] sp) (hbind:∀ (s:Shared) (u:Value),BindsTo s fd ⟨[u],[]⟩ [(x,u)])
  (hsp:∀ H:Hp,Only H->pW K H a (ns.map V.int)->sp [.ref a] H (fun v _=>v=.bl true) fun _ _ _=>False)
  (hCX:∀ H e s',CX [] H s₁ (fun _ _ _=>False) e s'->False) :
  codeAny (model P w) callerA (.call (.ref fa) ⟨[.ref a],[]⟩) (fun r s'=>r=.ok (.ret (.bool true))/\OldK s₁.heap s'.heap/\s'.os=s₁.os/\AllBare s'.gens) s₁:=by
 have rv:=tO hi
 have lenV:=hi.length
 have core:∀ H:Hp,Only H->pW K H a (ns.map V.int)->qW P w H s₁.heap->(∀ b,H b≠none->b=a)->(H a≠none->K.lookup a=none) →
   codeAny (model P w) callerA (.call (.ref fa) ⟨[.ref a],[]⟩) (fun r s'=>r=.ok (.ret (.bool true))/\OldK s₁.heap s'.heap/\s'.os=s₁.os/\AllBare s'.gens) s₁:=by
  intro H hO hS hok hA hK
  have J7:∀ {b:Addr} {o:Obj},s₁.heap.get? b=some o->H b=none->(Dz s₁.heap H).get? b=some o:=fun e n=>Od e n
  have noA:∀ {b:Addr} {o:Obj} {es:Array DictEntry} {ep:Nat},s₁.heap.get? b=some o->o.data=.dict es ep->H b=none:=fun {b o es ep} e d=>by
   cases q:H b with
   |none=>rfl
   |some u=>
    have e':b=a:=hA b (by rw[q];simp)
    subst e'
    rw[ha] at e;cases e
    have d':Data.seq vs.toArray _=Data.dict es ep:=d
    cases d'
  have nsK:∀ {b:Addr} {m:Str->Option Value},s₁.heap.Ns b m->(Dz s₁.heap H).Ns b m:=fun {b m} ⟨o,es,ep,e,d,r⟩=>⟨o,es,ep,J7 e (noA e d),d,r⟩
  have hKb:K.In (Dz s₁.heap H):=fun b o e=>J7 (KX b o e) (by
   cases q:H b with
   |none=>rfl
   |some u=>
    have e':b=a:=hA b (by rw[q];simp)
    subst e'
    rw[hK (by rw[q];simp)] at e;cases e)
  have hM:Mod K mg (Dz s₁.heap H):=⟨hKb,nsK hns,⟨mb,nsK hb,hbb⟩,let ⟨mc,h1,h2⟩:=hlim;⟨mc,nsK h1,h2⟩⟩
  have e0:Bu P w K mg (Dz s₁.heap H) callerA [] s₁ H:=⟨rfl,hM,fun b o e=>Sx e,Nat.le_of_eq (Ld _ _),trivial,fun b hb=>absurd (show b∈([]:List Addr) from hb) (by simp),hok,.of_eq hg⟩
  refine kq ((F _ hKb (nsK hns)).run callerA [] s₁ H ⟨[.ref a],[]⟩ [.ref a] [.ref a] _ _ hr e0 (hbind s₁ (.ref a)) (.cons rfl .nil) (hsp H hO hS)) fun r s' h=>?_
  cases r with
  |error e=>exact (hCX H e s' h).elim
  |ok fl=>
   cases fl with
   |next=>exact False.elim h
   |brk=>exact False.elim h
   |cont=>exact False.elim h
   |ret u=>
    obtain⟨v,H',os,bare,un,hok',r',q⟩:=h
    have q':v=.bl true:=q
    subst q'
    obtain rfl:u=Value.bool true:=r'
    refine⟨rfl,OldK.of_keep fun b o e=>?_,os,bare⟩
    cases q:H b with
    |none=>exact un.keep b o e q (by intro z;exact absurd (show b∈([]:List Addr) from z) (by simp)) (by simp)
    |some u=>
     rcases hO b with z|⟨ob,xs,z⟩
     ·rw[q] at z;cases z
     ·have z2:=un.oR b ob _ z
      obtain⟨e1,_⟩:=hok b _ z
      obtain⟨e2,_⟩:=hok' b _ z2
      rw[e] at e1;cases e1
      exact e2
 cases hk:K.lookup a with
 |some o=>
  have e:=KX a o hk
  rw[ha] at e
  cases e
  refine core (fun _=>none) (fun _=>.inl rfl) (.inr ⟨_,vs.toArray,_,hk,rfl,rfl,rfl,by rw[zo,lenV];exact hl,by simpa using rv⟩) (fun b u z=>by have z':(none:Option HO)=some u:=z;cases z') (fun b z=>absurd rfl z) fun z=>absurd rfl z
 |none=>
  refine core (fun b=>if b=a then some (.uR { cls:=.type "list", data:=.seq vs.toArray } (.lst (ns.map V.int))) else none) (fun b=>?_) (.inl (.inr ⟨{ cls:=.type "list", data:=.seq vs.toArray },zi rfl⟩)) (fun b u z=>?_) (fun b z=>?_) fun _=>hk
  ·by_cases hb:b=a
   ·exact .inr ⟨_,_,zi hb⟩
   ·exact .inl (zw hb)
  ·by_cases hb:b=a
   ·have z':=(zi hb).symm.trans z
    cases z'
    subst hb
    exact⟨ha,by rw[zg];exact hl,vs,_,rv,ha⟩
   ·have z':=(zw hb).symm.trans z
    cases z'
  ·by_cases hb:b=a
   ·exact hb
   ·exact absurd (zw hb) z
end L2
namespace L2
open PySem PySem.Spec PyProof.Rows
theorem Tv {l:PySem.W.OpenLaw} {n k:Nat} {q:Program} {loose:LS_} {XP:(Str->Option Value)->Heap->Prop} {YP:World->Heap->Prop} {d:DefRec} {K:Params->FG_} {CX:World->Ib} {sp:World->Sp} {x:Str}
  (hn:l.most=some n) (hn2:n<=sizeLine) (hdf:d.params.defaults=[]) (hr:iT k callerA)
  (hY:∀ (w:World) (h:Heap),YP w h->(K w.params).In h)
  (F:∀ (w:World) (mg:Str->Option Value) (fa:Addr) (h:Heap),(K w.params).In h->h.Ns mainGlobals mg->mg d.name=some (.ref fa) →
   ∃ fd:FuncData,(∀ (s:Shared) (u:Value),BindsTo s fd ⟨[u],[]⟩ [(x,u)]) ∧
    ∀ base:Heap,(K w.params).In base->base.Ns mainGlobals mg->bF l.prog w (K w.params) mg base (CX w) k fa fd [x] (sp w))
  (hsp:∀ (w:World) (H:Hp) (a:Addr) (ns:List Int),ns.length<=n->Only H->pW (K w.params) H a (ns.map V.int)->sp w [.ref a] H (fun v _=>v=.bl true) fun _ _ _=>False)
  (hCX:∀ (w:World) (H:Hp) (s:Shared) (e:Value) (s':Shared),CX w [] H s (fun _ _ _=>False) e s'->False) :
  PySem.W.WalkO q loose XP YP l.row.toRowW d [] (fun f vs=>PySem.call f vs):=by
 refine Att.Gg hn hdf fun w s₀ s₁ mg mb fa o pm cd doc a vs ns G Y ho hd hcd hmg hobj hints hlen hg=>?_
 have KX:=hY w _ Y
 obtain⟨fd,hb,hF⟩:=F w mg fa _ KX G.T.g hmg
 exact O9 KX G.T.g G.T.b G.T.builtins G.T.nolimit hg hobj hints (zh hlen hn2) hr hF hb (fun H hO hS=>hsp w H a ns hlen hO hS) fun H e s'=>hCX w H s₁ e s'
theorem Pa {l:PySem.W.OpenLaw} {n k:Nat} {q:Program} {loose:LS_} {XP:(Str->Option Value)->Heap->Prop} {YP:World->Heap->Prop} {d:DefRec} {K:Params->FG_} {CX:Ib} {sp:FG_->Sp} {x:Str}
  (hn:l.most=some n) (hn2:n<=sizeLine) (hdf:d.params.defaults=[]) (hr:iT k callerA)
  (hY:∀ (w:World) (h:Heap),YP w h->(K w.params).In h)
  (F:∀ (w:World) (mg:Str->Option Value) (fa:Addr) (h:Heap),(K w.params).In h->h.Ns mainGlobals mg->mg d.name=some (.ref fa) →
   ∃ fd:FuncData,(∀ (s:Shared) (u:Value),BindsTo s fd ⟨[u],[]⟩ [(x,u)]) ∧
    ∀ base:Heap,(K w.params).In base->base.Ns mainGlobals mg->bF l.prog w (K w.params) mg base CX k fa fd [x] (sp (K w.params)))
  (hsp:∀ (K:FG_) (H:Hp) (a:Addr) (ns:List Int),ns.length<=n->Only H->pW K H a (ns.map V.int)->sp K [.ref a] H (fun v _=>v=.bl true) fun _ _ _=>False)
  (hCX:∀ (H:Hp) (s:Shared) (e:Value) (s':Shared),CX [] H s (fun _ _ _=>False) e s'->False) :
  PySem.W.WalkO q loose XP YP l.row.toRowW d [] (fun f vs=>PySem.call f vs):=
 Tv (K:=K) (CX:=fun _=>CX) (sp:=fun w=>sp (K w.params)) hn hn2 hdf hr hY F (fun w H a ns h1 h2 h3=>hsp (K w.params) H a ns h1 h2 h3) fun _ H s e s'=>hCX H s e s'
end L2
namespace L2
open PySem PySem.Spec PyProof.Rows
def pY (s:Stmt):Arguments:=match s with
 |.FunctionDef _ a _ _ _ _ _ _ _ _=>a
 |_=>{ posonlyargs:=[],args:=[],vararg:=none,kwonlyargs:=[],kw_defaults:=[],kwarg:=none,defaults:=[] }
def iz (s:Stmt):List Stmt:=match s with
 |.FunctionDef _ _ b _ _ _ _ _ _ _=>b
 |_=>[]
def aM (s:Stmt):Scope:=match s with
 |.FunctionDef _ _ _ _ _ _ sc _ _ _=>sc
 |_=>{ kind:=.function,names:=[],isGenerator:=false,isCoroutine:=false }
abbrev jJ:Ib:=fun _ _ _ _ _ _=>False
abbrev E0:XK:=fun _ _ _=>False
theorem V7 {X:Cx}:Passes jJ X E0:=fun _ _ _ _ _ _ _ h=>h.elim
structure oW (K:FG_) (x qual:Str) (st:Stmt) (f:Addr) (fd:FuncData):Prop where
 ex:∃ (oc:Value) (od:Option Addr) (kV doc pm:Value) (an:Option Addr) (cdv ct:Value) (osl:Array (Option Value)),
  fd=PySem.W.fnOf x qual (pY st) (iz st) (aM st) .none kV doc pm an cdv ct/\K.lookup f=some ⟨oc,od,.func fd,osl⟩/\PySem.W.codeIn K cdv qual=true
 kp:PySem.W.keepIn K (.ref f)=true
section
variable {P:Program} {w:World} {K:FG_} {mg:Str->Option Value} {base:Heap}
theorem oW.ok {x qual:Str} {st:Stmt} {f:Addr} {fd:FuncData} {N ps:LS_} {k:Nat} {sp:Sp} (F:oW K x qual st f fd) (S:bH N ps (aM st)) (len:∀ vs H Q E,sp vs H Q E->vs.length=ps.length)
  (hbody:∀ (cdv:Value) (A:Around) (outer:List Env) (s:Shared) (H:Hp) (vs:List V) (Q:VK) (E:XK),iT k (A.deeper (envOfC qual (aM st) s.heap.objs.size f cdv))->sp vs H Q E →
   ∃ t,wJ (uD jJ P w K mg base N qual (aM st) f cdv A outer s H E).Ia (iz st) t/\t { nx:=fun _ H'=>Q .non H',rt:=Q } (start N vs) H):bF P w K mg base jJ (k+1) f fd ps sp:=by
 obtain⟨oc,od,kV,doc,pm,an,cdv,ct,osl,rfl,lk,hcd⟩:=F.ex
 refine V2 lk hcd S len fun A outer s H vs Q E hr hsp=>?_
 obtain⟨t,h,q⟩:=hbody cdv A outer s H vs Q E hr hsp
 exact⟨t,h.Ia,q⟩
theorem oW.binds {x qual:Str} {st:Stmt} {f:Addr} {fd:FuncData} {ps:LS_} (F:oW K x qual st f fd)
  (h:∀ (kV doc pm:Value) (an:Option Addr) (cdv ct:Value) (us:List Value),us.length=ps.length->bindArgs (PySem.W.fnOf x qual (pY st) (iz st) (aM st) .none kV doc pm an cdv ct) ⟨us,[]⟩=pure (ps.zip us)):Binds K fd ps []:=by
 obtain⟨oc,od,kV,doc,pm,an,cdv,ct,osl,rfl,lk,hcd⟩:=F.ex
 exact .all (h kV doc pm an cdv ct)
theorem gH {x qual:Str} {st:Stmt} {f:Addr} {oc:Value} {od an:Option Addr} {osl:Array (Option Value)} {kV doc pm cdv ct:Value} (l:K.lookup f=some ⟨oc,od,.func (PySem.W.fnOf x qual (pY st) (iz st) (aM st) .none kV doc pm an cdv ct),osl⟩)
  (c:PySem.W.codeIn K cdv qual=true) (k:PySem.W.keepIn K (.ref f)=true):oW K x qual st f (PySem.W.fnOf x qual (pY st) (iz st) (aM st) .none kV doc pm an cdv ct):=⟨⟨oc,od,kV,doc,pm,an,cdv,ct,osl,rfl,l,c⟩,k⟩
end
section
variable {X:Cx}
theorem pv (i:Nat) {x:Str} {pos:Pos} (hN:X.N[i]?=some x:=by rfl) (hv:Oe X.env.scope x:=by first|exact qS rfl|exact qa (qS rfl)|exact qa (qa rfl)) (hd:(x==("__debug__" : Str))=false:=by decide)
  (hcd:(x==("__classdict__" : Str))=false:=by decide):PE X (.Name x pos) (Oi i):=wK hN hv hd hcd
end
def Same (H H':Hp):Prop:=∀ b o,H b=some o->H' b=some o
theorem Same.refl (H:Hp):Same H H:=fun _ _ h=>h
theorem Same.trans {H H1 H2:Hp} (a:Same H H1) (b:Same H1 H2):Same H H2:=fun c o h=>b c o (a c o h)
theorem Same.free {H H':Hp} (e:Same H H') {l:Addr} (h:H' l=Option.none):H l=Option.none:=by
 cases q:H l with
 |none=>rfl
 |some o=>
  rw[e l o q] at h
  cases h
theorem Same.seq {K:FG_} {H H':Hp} {a:Addr} {xs:List V} (e:Same H H') (h:pW K H a xs):pW K H' a xs:=by
 rcases h with (h|⟨o,h⟩)|h
 ·exact .inl (.inl (e _ _ h))
 ·exact .inl (.inr ⟨o,e _ _ h⟩)
 ·exact .inr h
end L2
end
section
namespace P1
open PySem PySem.Spec PyProof.Rows L2
inductive Dt where
 |non|bl (b:Bool)|int (i:Int)|str (x:Str)|tup (xs:List Dt)|lst (xs:List Dt)|emp
inductive Bx where
 |z (d:Dt)|l (ds:List Dt)|o (ds:List Dt)|n (kvs:List (Key×Dt))|m (kvs:List (Key×Dt)) (w:Option Addr)
abbrev Ev:=List (Option Bx)
def FzL (K:FG_) (H:Hp) (a:Addr) (xs:List V):Prop:=
 (∃ o,H a=some (.uR o (.lst xs))) ∨
  ∃ (o:Obj) (its:Array Value) (n:Nat),K.lookup a=some o/\o.cls=.type "list" ∧ o.dict=none/\o.data=.seq its n/\its.size<=sizeLine/\Vals xs its.toList
theorem FzL.sq {K:FG_} {H:Hp} {a:Addr} {xs:List V} (h:FzL K H a xs):pW K H a xs:=by
 rcases h with h|h
 ·exact .inl (.inr h)
 ·exact .inr h
mutual
def Rep (K:FG_) (H:Hp):Dt->V->Prop
 |.non,v=>v=.non
 |.bl b,v=>v=.bl b
 |.int i,v=>v=.int i
 |.str x,v=>v=.str x/\x.length<=sizeLine
 |.tup ds,v=>∃ a vs,v=.ref a/\uP K H a vs/\aR K H ds vs
 |.lst ds,v=>∃ a vs,v=.ref a/\FzL K H a vs/\aR K H ds vs
 |.emp,v=>∃ a o,v=.ref a/\H a=some (.uR o (.dK []))
def aR (K:FG_) (H:Hp):List Dt->List V->Prop
 |[],vs=>vs=[]
 |d::ds,vs=>∃ v r,vs=v::r/\Rep K H d v/\aR K H ds r
end
structure Kp (H H':Hp):Prop where
 t:∀ a xs,H a=some (.tup xs)->H' a=some (.tup xs)
 f:∀ a o u,H a=some (.uR o u)->H' a=some (.uR o u)
theorem Kp.of {H H':Hp} (s:Same H H'):Kp H H':=⟨fun a _ h=>s a _ h,fun a _ _ h=>s a _ h⟩
theorem Kp.sqT {K:FG_} {H H':Hp} {a:Addr} {xs:List V} (k:Kp H H') (h:uP K H a xs):uP K H' a xs:=by
 rcases h with (h|⟨o,h⟩)|h
 ·exact .inl (.inl (k.t _ _ h))
 ·exact .inl (.inr ⟨o,k.f _ _ _ h⟩)
 ·exact .inr h
theorem Kp.fzL {K:FG_} {H H':Hp} {a:Addr} {xs:List V} (k:Kp H H') (h:FzL K H a xs):FzL K H' a xs:=by
 rcases h with⟨o,h⟩|h
 ·exact .inl ⟨o,k.f _ _ _ h⟩
 ·exact .inr h
theorem Kp.lst {H:Hp} {a:Addr} {xs:List V} {o:HO} (h:H a=some (.lst xs)):Kp H (upd H a o):=by
 refine⟨fun b ys e=>?_,fun b ob u e=>?_⟩
 ·rw[aJ (lN e h (by intro z;cases z))];exact e
 ·rw[aJ (lN e h (by intro z;cases z))];exact e
theorem Kp.dk {H:Hp} {a:Addr} {xs:List (Key×V)} {o:HO} (h:H a=some (.dK xs)):Kp H (upd H a o):=by
 refine⟨fun b ys e=>?_,fun b ob u e=>?_⟩
 ·rw[aJ (lN e h (by intro z;cases z))];exact e
 ·rw[aJ (lN e h (by intro z;cases z))];exact e
mutual
theorem Rep.kp {K:FG_} {H H':Hp} (k:Kp H H'):∀ {d:Dt} {v:V},Rep K H d v->Rep K H' d v
 |.non,_,h=>by simpa only[Rep] using h
 |.bl _,_,h=>by simpa only[Rep] using h
 |.int _,_,h=>by simpa only[Rep] using h
 |.str _,_,h=>by simpa only[Rep] using h
 |.tup ds,_,h=>by
  simp only[Rep] at h ⊢
  obtain⟨a,vs,e,q,r⟩:=h
  exact⟨a,vs,e,k.sqT q,aR.kp k r⟩
 |.lst ds,_,h=>by
  simp only[Rep] at h ⊢
  obtain⟨a,vs,e,q,r⟩:=h
  exact⟨a,vs,e,k.fzL q,aR.kp k r⟩
 |.emp,_,h=>by
  simp only[Rep] at h ⊢
  obtain⟨a,o,e,q⟩:=h
  exact⟨a,o,e,k.f _ _ _ q⟩
theorem aR.kp {K:FG_} {H H':Hp} (k:Kp H H'):∀ {ds:List Dt} {vs:List V},aR K H ds vs->aR K H' ds vs
 |[],_,h=>by simpa only[aR] using h
 |d::ds,_,h=>by
  simp only[aR] at h ⊢
  obtain⟨v,r,e,q,t⟩:=h
  exact⟨v,r,e,Rep.kp k q,aR.kp k t⟩
end
theorem aR.length {K:FG_} {H:Hp}:∀ {ds:List Dt} {vs:List V},aR K H ds vs->vs.length=ds.length
 |[],_,h=>by simp only[aR] at h;subst h;rfl
 |d::ds,_,h=>by
  simp only[aR] at h
  obtain⟨v,r,rfl,_,t⟩:=h
  simp[aR.length t]
theorem aR.nil {K:FG_} {H:Hp}:aR K H [] []:=by simp only[aR]
theorem aR.cons {K:FG_} {H:Hp} {d:Dt} {v:V} {ds:List Dt} {vs:List V} (h:Rep K H d v) (t:aR K H ds vs):aR K H (d::ds) (v::vs):=by
 simp only[aR];exact⟨v,vs,rfl,h,t⟩
theorem aR.append {K:FG_} {H:Hp}:∀ {ds es:List Dt} {vs us:List V},aR K H ds vs->aR K H es us->aR K H (ds++es) (vs++us)
 |[],_,_,_,h,t=>by simp only[aR] at h;subst h;exact t
 |d::ds,_,_,_,h,t=>by
  simp only[aR] at h
  obtain⟨v,r,rfl,q,h⟩:=h
  exact aR.cons q (aR.append h t)
theorem aR.drop {K:FG_} {H:Hp}:∀ (n:Nat) {ds:List Dt} {vs:List V},aR K H ds vs->aR K H (ds.drop n) (vs.drop n)
 |0,_,_,h=>h
 |n+1,[],_,h=>by simp only[aR] at h;subst h;exact aR.nil
 |n+1,d::ds,_,h=>by
  simp only[aR] at h
  obtain⟨v,r,rfl,q,h⟩:=h
  exact aR.drop n h
theorem aR.take {K:FG_} {H:Hp}:∀ (n:Nat) {ds:List Dt} {vs:List V},aR K H ds vs->aR K H (ds.take n) (vs.take n)
 |0,_,_,_=>aR.nil
 |n+1,[],_,h=>by simp only[aR] at h;subst h;exact aR.nil
 |n+1,d::ds,_,h=>by
  simp only[aR] at h
  obtain⟨v,r,rfl,q,h⟩:=h
  exact aR.cons q (aR.take n h)
theorem aR.get {K:FG_} {H:Hp}:∀ {ds:List Dt} {vs:List V} {i:Nat} {d:Dt},aR K H ds vs->ds[i]?=some d->∃ v,vs[i]?=some v/\Rep K H d v
 |[],_,_,_,_,e=>by simp at e
 |d::ds,_,0,_,h,e=>by
  simp only[aR] at h
  obtain⟨v,r,rfl,q,h⟩:=h
  simp at e;subst e;exact⟨v,rfl,q⟩
 |d::ds,_,i+1,_,h,e=>by
  simp only[aR] at h
  obtain⟨v,r,rfl,q,h⟩:=h
  obtain⟨u,e1,e2⟩:=aR.get h (i:=i) (by simpa using e)
  exact⟨u,by simpa using e1,e2⟩
def XF:Key->Prop
 |.inl _=>True
 |.inr x=>x.length<=sizeLine
def iU (K:FG_) (H:Hp) (kvs:List (Key×Dt)) (ks:List (Key×V)):Prop:=ks.map (·.1)=kvs.map (·.1)/\aR K H (kvs.map (·.2)) (ks.map (·.2))/\∀ p∈kvs,XF p.1
theorem iU.kp {K:FG_} {H H':Hp} {kvs:List (Key×Dt)} {ks:List (Key×V)} (h:iU K H kvs ks) (k:Kp H H'):iU K H' kvs ks:=⟨h.1,h.2.1.kp k,h.2.2⟩
def bh (K:FG_) (H:Hp):Bx->V->Prop
 |.z d,v=>Rep K H d v
 |.l ds,v=>∃ a vs,v=.ref a/\Rd H a (.lst vs)/\aR K H ds vs
 |.o ds,v=>∃ a vs,v=.ref a/\H a=some (.lst vs)/\aR K H ds vs
 |.n kvs,v=>∃ a ks,v=.ref a/\Rd H a (.dK ks)/\iU K H kvs ks
 |.m kvs w,v=>∃ a ks,v=.ref a/\H a=some (.dK ks)/\iU K H kvs ks/\∀ b,w=some b->b=a
theorem bh.same {K:FG_} {H H':Hp} (s:Same H H') {b:Bx} {v:V} (h:bh K H b v):bh K H' b v:=by
 cases b with
 |z d=>exact Rep.kp (.of s) h
 |l ds=>
  obtain⟨a,vs,e,q,r⟩:=h
  refine⟨a,vs,e,?_,r.kp (.of s)⟩
  rcases q with q|⟨o,q⟩
  ·exact .inl (s _ _ q)
  ·exact .inr ⟨o,s _ _ q⟩
 |o ds=>
  obtain⟨a,vs,e,q,r⟩:=h
  exact⟨a,vs,e,s _ _ q,r.kp (.of s)⟩
 |n kvs=>
  obtain⟨a,vs,e,q,r⟩:=h
  refine⟨a,vs,e,?_,r.kp (.of s)⟩
  rcases q with q|⟨o,q⟩
  ·exact .inl (s _ _ q)
  ·exact .inr ⟨o,s _ _ q⟩
 |m kvs _=>
  obtain⟨a,vs,e,q,r⟩:=h
  exact⟨a,vs,e,s _ _ q,r.1.kp (.of s),r.2⟩
def oX:Bx->Option (List Dt)
 |.z (.lst ds)=>some ds
 |.l ds=>some ds
 |.o ds=>some ds
 |_=>none
theorem bh.Cr {K:FG_} {H:Hp} {b:Bx} {v:V} {ds:List Dt} (h:bh K H b v) (e:oX b=some ds):∃ a vs,v=.ref a/\pW K H a vs/\aR K H ds vs:=by
 cases b with
 |z d=>
  cases d<;>first|(cases e;done)|skip
  cases e
  simp only[bh,Rep] at h
  obtain⟨a,vs,e,q,r⟩:=h
  exact⟨a,vs,e,q.sq,r⟩
 |l ds'=>
  cases e
  obtain⟨a,vs,e,q,r⟩:=h
  exact⟨a,vs,e,.inl q,r⟩
 |o ds'=>
  cases e
  obtain⟨a,vs,e,q,r⟩:=h
  exact⟨a,vs,e,.inl (.inl q),r⟩
 |n _=>cases e
 |m _ _=>cases e
abbrev qF (K:FG_) (H:Hp):List Bx->List V->Prop:=Paired (bh K H)
theorem qF.same {K:FG_} {H H':Hp} (s:Same H H') {bs:List Bx} {vs:List V} (h:qF K H bs vs):qF K H' bs vs:=Paired.imp' (fun _ _ q=>bh.same s q) h
def Nw (H:Hp):Bx->V->Prop
 |.o _,v=>∀ a,v=.ref a->H a=none
 |.m _ _,v=>∀ a,v=.ref a->H a=none
 |_,_=>True
theorem Nw.old {H H1:Hp} (s:Same H H1) {b:Bx} {v:V} (h:Nw H1 b v):Nw H b v:=by
 cases b with
 |o ds=>exact fun a e=>s.free (h a e)
 |m ds _=>exact fun a e=>s.free (h a e)
 |_=>trivial
def loose:Bx->Bool
 |.z _=>false
 |_=>true
def uX:Bx->Bool
 |.o _=>true
 |.m _ _=>true
 |_=>false
structure bw (K:FG_) (H0 H:Hp) (σ:L2.St) (ρ:Ev):Prop where
 len:σ.length=ρ.length
 val:∀ (i:Nat) b,ρ[i]?=some (some b)->∃ v,σ[i]?=some (some v)/\bh K H b v
 own:∀ (i j:Nat) c a b,ρ[i]?=some (some c)->uX c=true->σ[i]?=some (some (.ref a))->ρ[j]?=some (some b)->loose b=true->σ[j]?=some (some (.ref a))->i=j
 base:Same H0 H
 new:∀ (i:Nat) c a,ρ[i]?=some (some c)->uX c=true->σ[i]?=some (some (.ref a))->H0 a=none
theorem bw.grow {K:FG_} {H0 H H':Hp} {σ:L2.St} {ρ:Ev} (r:bw K H0 H σ ρ) (s:Same H H'):bw K H0 H' σ ρ:=
 ⟨r.len,fun i b e=>let ⟨v,e1,h⟩:=r.val i b e;⟨v,e1,h.same s⟩,r.own,r.base.trans s,r.new⟩
def tF (K:FG_) (f:Ev->Option Bx):TE:=fun σ H Q=>∃ H0 ρ b,bw K H0 H σ ρ/\f ρ=some b/\∀ v H',Same H H'->Nw H b v->bh K H' b v->Q v H'
def tFA (K:FG_) (f:Ev->Option (List Bx)):TA:=fun σ H Q=>∃ H0 ρ bs,bw K H0 H σ ρ/\f ρ=some bs/\∀ vs H',Same H H'->qF K H' bs vs->Q vs H'
def Tw (K:FG_) (f:Ev->Option Bool):TT:=fun σ H Q=>∃ H0 ρ b,bw K H0 H σ ρ/\f ρ=some b/\∀ H',Same H H'->Q b H'
def PV (X:Cx) (e:Expr) (f:Ev->Option Bx):Prop:=PE X e (tF X.K f)
structure QV (X:Cx) (e:Expr) (f:Ev->Option Bx):Prop where
 run:PV X e f
def PVs (X:Cx) (es:List Expr) (f:Ev->Option (List Bx)):Prop:=PA X es (tFA X.K f)
structure Pb (X:Cx) (es:List Expr) (f:Ev->Option (List Bx)):Prop where
 run:PVs X es f
def PB (X:Cx) (e:Expr) (f:Ev->Option Bool):Prop:=PT X e (Tw X.K f)
structure QB (X:Cx) (e:Expr) (f:Ev->Option Bool):Prop where
 run:PB X e f
theorem FN {X:Cx} {e:Expr} {t t':TE} (h:PE X e t) (m:∀ σ H Q,t' σ H Q->t σ H Q):PE X e t':=fun pins s σ H Q I q=>h pins s σ H Q I (m σ H Q q)
theorem paM {X:Cx} {e:List Expr} {t t':TA} (h:PA X e t) (m:∀ σ H Q,t' σ H Q->t σ H Q):PA X e t':=fun pos pins s σ H Q I q=>h pos pins s σ H Q I (m σ H Q q)
theorem ptM {X:Cx} {e:Expr} {t t':TT} (h:PT X e t) (m:∀ σ H Q,t' σ H Q->t σ H Q):PT X e t':=fun pins s σ H Q I q=>h pins s σ H Q I (m σ H Q q)
theorem pwM {X:Cx} {e:Expr} {t t':TT} (h:PW X e t) (m:∀ σ H Q,t' σ H Q->t σ H Q):PW X e t':=fun wh pins s σ H Q I q=>h wh pins s σ H Q I (m σ H Q q)
theorem Sh {X:Cx} {e:Stmt} {t t':TS} (h:PS X e t) (m:∀ D σ H,t' D σ H->t D σ H):PS X e t':=fun pins s σ H D I q=>h pins s σ H D I (m D σ H q)
theorem Mf {X:Cx} {e:List Stmt} {t t':TS} (h:wJ X e t) (m:∀ D σ H,t' D σ H->t D σ H):wJ X e t':=fun pins s σ H D I q=>h pins s σ H D I (m D σ H q)
def rF (K:FG_) (g:Bx->Bx->Option Bx):R2:=fun x y H Q=>∃ a b c,bh K H a x/\bh K H b y/\g a b=some c/\∀ w H',Same H H'->Nw H c w->bh K H' c w->Q w H'
def rFs (K:FG_) (g:List Bx->Option Bx):List V->Hp->VK->Prop:=fun xs H Q=>∃ bs c,qF K H bs xs/\g bs=some c/\∀ w H',Same H H'->Nw H c w->bh K H' c w->Q w H'
abbrev Cu (X:Cx) (f:Value->Value->Sem Value) (g:Bx->Bx->Option Bx):Prop:=tM X f (rF X.K g)
abbrev xX (X:Cx) (f:Value) (g:List Bx->Option Bx):Prop:=jz X f (rFs X.K g)
theorem tM.imp {X:Cx} {f:Value->Value->Sem Value} {r r':R2} (h:tM X f r) (m:∀ x y H Q,r' x y H Q->r x y H Q):tM X f r':=fun pins s σ H x y v u Q I rx ry q=>h pins s σ H x y v u Q I rx ry (m x y H Q q)
theorem UnR.imp {X:Cx} {f:Value->Sem Value} {r r':V->Hp->VK->Prop} (h:UnR X f r) (m:∀ x H Q,r' x H Q->r x H Q):UnR X f r':=fun pins s σ H x v Q I rx q=>h pins s σ H x v Q I rx (m x H Q q)
theorem jz.imp {X:Cx} {f:Value} {r r':List V->Hp->VK->Prop} (h:jz X f r) (m:∀ x H Q,r' x H Q->r x H Q):jz X f r':=fun pins s σ H xs us Q I rx q=>h pins s σ H xs us Q I rx (m xs H Q q)
def b2 (g:Bx->Bx->Option Bx) (fa fb:Ev->Option Bx):Ev->Option Bx:=fun ρ=>(fa ρ).bind fun x=>(fb ρ).bind fun y=>g x y
def b1 (g:Bx->Option Bx) (fa:Ev->Option Bx):Ev->Option Bx:=fun ρ=>(fa ρ).bind g
def cY (g:List Bx->Option Bx) (fs:Ev->Option (List Bx)):Ev->Option Bx:=fun ρ=>(fs ρ).bind g
theorem bind_some {α β:Type} {o:Option α} {f:α->Option β} {b:β} (h:o.bind f=some b):∃ a,o=some a/\f a=some b:=by
 cases o with
 |none=>cases h
 |some a=>exact⟨a,rfl,h⟩
theorem Pg {K:FG_} {g:Bx->Bx->Option Bx} {fa fb:Ev->Option Bx} (σ:L2.St) (H:Hp) (Q:VK) (h:tF K (b2 g fa fb) σ H Q):Z0 (rF K g) (tF K fa) (tF K fb) σ H Q:=by
 obtain⟨H0,ρ,c,E,e,q⟩:=h
 obtain⟨a,ea,e⟩:=bind_some e
 obtain⟨b,eb,e⟩:=bind_some e
 refine⟨H0,ρ,a,E,ea,fun v H1 s1 n1 r1=>⟨H0,ρ,b,E.grow s1,eb,fun u H2 s2 n2 r2=>?_⟩⟩
 exact⟨a,b,c,r1.same s2,r2,e,fun w H3 s3 n3 r3=>q w H3 ((s1.trans s2).trans s3) (n3.old (s1.trans s2)) r3⟩
theorem convs {K:FG_} {g:List Bx->Option Bx} {fs:Ev->Option (List Bx)} (σ:L2.St) (H:Hp) (Q:VK) (h:tF K (cY g fs) σ H Q):tCB (rFs K g) (tFA K fs) σ H Q:=by
 obtain⟨H0,ρ,c,E,e,q⟩:=h
 obtain⟨a,ea,e⟩:=bind_some e
 exact⟨H0,ρ,a,E,ea,fun v H1 s1 r1=>⟨a,c,r1,e,fun w H3 s3 n3 r3=>q w H3 (s1.trans s3) (n3.old s1) r3⟩⟩
section
variable {X:Cx} {a b c e:Expr} {es:List Expr} {fa fb fc f:Ev->Option Bx} {fs:Ev->Option (List Bx)} {pos:Pos}
theorem aP {op:Operator} {g:Bx->Bx->Option Bx} (ho:Cu X (binaryOp op) g) (ha:QV X a fa) (hb:QV X b fb):QV X (.BinOp a op b pos) (b2 g fa fb):=⟨have ha:=ha.run;have hb:=hb.run;FN (Z1 ho ha hb) Pg⟩
theorem wN {op:CmpOp} {g:Bx->Bx->Option Bx} (ho:Cu X (compareOp op) g) (ha:QV X a fa) (hb:QV X b fb) (hm:behindInMarks op b=false):QV X (.Compare a [op] [b] pos) (b2 g fa fb):=⟨have ha:=ha.run;have hb:=hb.run;FN (S7 ho ha hb hm) Pg⟩
def DY:Bx->Option Bool
 |.z (.bl b)=>some b
 |_=>none
theorem zm {K:FG_} {H:Hp} {b:Bx} {v:V} {k:Bool} (h:bh K H b v) (e:DY b=some k):v=.bl k:=by
 cases b with
 |z d=>
  cases d<;>first|(cases e;done)|skip
  cases e
  simpa only[bh,Rep] using h
 |_=>cases e
theorem aas {K:FG_} {f:Ev->Option Bx} (σ:L2.St) (H:Hp) (Q:Bool->Hp->Prop) (h:Tw K (fun ρ=>(f ρ).bind DY) σ H Q):tF K f σ H (fun x H'=>∃ k,x=.bl k/\Q k H'):=by
 obtain⟨H0,ρ,k,E,e,q⟩:=h
 obtain⟨b,eb,e⟩:=bind_some e
 exact⟨H0,ρ,b,E,eb,fun v H1 s1 n1 r1=>⟨k,zm r1 e,q H1 s1⟩⟩
theorem jx {op:CmpOp} {g:Bx->Bx->Option Bx} (ho:Cu X (compareOp op) g) (ha:QV X a fa) (hb:QV X b fb) (hm:behindInMarks op b=false):QB X (.Compare a [op] [b] pos) (fun ρ=>(b2 g fa fb ρ).bind DY):=⟨have ha:=ha.run;have hb:=hb.run;ptM (J1 ho ha hb hm) fun σ H Q h=>Pg σ H _ (aas σ H Q h)⟩
def ch3 (g g':Bx->Bx->Option Bx) (fa fb fc:Ev->Option Bx):Ev->Option Bx:=fun ρ=>(fa ρ).bind fun x=>(fb ρ).bind fun y=>(g x y).bind fun r=>(DY r).bind fun k=>if k=true then (fc ρ).bind fun w=>g' y w else some (.z (.bl false))
theorem aau {K:FG_} {g g':Bx->Bx->Option Bx} {fa fb fc:Ev->Option Bx} (σ:L2.St) (H:Hp) (Q:VK) (h:tF K (ch3 g g' fa fb fc) σ H Q):Ox (rF K g) (rF K g') (tF K fa) (tF K fb) (tF K fc) σ H Q:=by
 obtain⟨H0,ρ,d,E,e,q⟩:=h
 obtain⟨a,ea,e⟩:=bind_some e
 obtain⟨b,eb,e⟩:=bind_some e
 obtain⟨r,er,e⟩:=bind_some e
 obtain⟨k,ek,e⟩:=bind_some e
 refine⟨H0,ρ,a,E,ea,fun v H1 s1 n1 r1=>⟨H0,ρ,b,E.grow s1,eb,fun u H2 s2 n2 r2=>?_⟩⟩
 refine⟨a,b,r,r1.same s2,r2,er,fun w H3 s3 n3 r3=>⟨k,zm r3 ek,?_⟩⟩
 have s03:=(s1.trans s2).trans s3
 cases k with
 |false=>
  rw[zw zr] at e ⊢
  cases e
  exact q _ H3 s03 trivial (by simp only[bh,Rep])
 |true=>
  rw[zi rfl] at e ⊢
  obtain⟨w',ew,e⟩:=bind_some e
  refine⟨H0,ρ,w',E.grow s03,ew,fun x H4 s4 n4 r4=>?_⟩
  exact⟨b,w',d,(r2.same s3).same s4,r4,e,fun y H5 s5 n5 r5=>q y H5 ((s03.trans s4).trans s5) (n5.old (s03.trans s4)) r5⟩
theorem Ph {op op':CmpOp} {g g':Bx->Bx->Option Bx} (ho:Cu X (compareOp op) g) (ho':Cu X (compareOp op') g') (ha:QV X a fa) (hb:QV X b fb) (hc:QV X c fc) (hm:lastMarks [op,op'] [b,c]=false:=by with_unfolding_all rfl):QV X (.Compare a [op,op'] [b,c] pos) (ch3 g g' fa fb fc):=⟨have ha:=ha.run;have hb:=hb.run;have hc:=hc.run;FN (Oz ho ho' ha hb hc hm) aau⟩
def yp (ρ:Ev) (i:Nat):Option Bx:=match ρ[i]? with
 |some (some (.o ds))=>some (.l ds)
 |some (some (.m kvs _))=>some (.n kvs)
 |some (some b)=>some b
 |_=>none
theorem Gh {K:FG_} {H0 H:Hp} {σ:L2.St} {ρ:Ev} {i:Nat} {b:Bx} (E:bw K H0 H σ ρ) (e:yp ρ i=some b):∃ v,σ[i]?=some (some v)/\bh K H b v:=by
 unfold yp at e
 split at e
 ·rename_i ds h
  cases e
  obtain⟨v,e1,a,vs,e2,q,r⟩:=E.val i _ h
  exact⟨v,e1,a,vs,e2,.inl q,r⟩
 ·rename_i ds h
  cases e
  obtain⟨v,e1,a,vs,e2,q,r⟩:=E.val i _ h
  exact⟨v,e1,a,vs,e2,.inl q,r.1⟩
 ·rename_i b' h
  cases e
  exact E.val i _ h
 ·cases e
theorem yL {ρ:Ev} {i:Nat} {b:Bx} (e:yp ρ i=some b):uX b=false:=by
 unfold yp at e
 split at e
 ·cases e;rfl
 ·cases e;rfl
 ·rename_i b' h1 h2 h3
  cases e
  cases b with
  |o ds=>exact absurd rfl (h1 ds)
  |m ds _=>exact absurd rfl (h2 ds _)
  |_=>rfl
 ·cases e
theorem aj (i:Nat) {x:Str} (hN:X.N[i]?=some x:=by rfl) (hv:Oe X.env.scope x:=by first|exact qS rfl|exact qa (qS rfl)|exact qa (qa rfl)) (hd:(x==("__debug__" : Str))=false:=by decide) (hcd:(x==("__classdict__" : Str))=false:=by decide):QV X (.Name x pos) (fun ρ=>yp ρ i):=⟨FN (wK hN hv hd hcd) fun σ H Q h=>by
 obtain⟨H0,ρ,b,E,e,q⟩:=h
 obtain⟨v,e1,r⟩:=Gh E e
 refine⟨v,e1,q v H (Same.refl H) ?_ r⟩
 cases b with
 |o ds=>have:=yL e;cases this
 |m ds _=>have:=yL e;cases this
 |_=>trivial⟩
def cB (d:Dt):Ev->Option Bx:=fun _=>some (.z d)
theorem Mg {v:V} {d:Dt} (h:PE X e (tC v)) (r:∀ H,Rep X.K H d v):PV X e (cB d):=FN h fun σ H Q q=>by
 obtain⟨H0,ρ,b,E,e,q⟩:=q
 cases e
 exact q v H (Same.refl H) trivial (r H)
theorem aA {i j}:QV X (.Constant (.int i) j pos) (cB (.int i)):=⟨Mg W3 fun H=>by simp only[Rep]⟩
theorem Pj {i j}:QV X (.Constant (.bool i) j pos) (cB (.bl i)):=⟨Mg ZL fun H=>by simp only[Rep]⟩
theorem IV {j}:QV X (.Constant .none j pos) (cB .non):=⟨Mg DG fun H=>by simp only[Rep]⟩
theorem Pk {x:Str} {j} (hx:x.length<=sizeLine:=by decide):PV X (.Constant (.str x) j pos) (cB (.str x)):=Mg DK fun H=>by unfold Rep;exact⟨rfl,hx⟩
theorem Pn {x:Str} {i:Int} {t:Tok} (hg:Gl X x) (hm:X.mg x=some (.int i t)) (hd:(x==("__debug__" : Str))=false:=by decide):QV X (.Name x pos) (cB (.int i)):=⟨Mg (lH hg hm (v:=.int i) ⟨t,rfl⟩ hd) fun H=>by simp only[Rep]⟩
theorem Pq {x:Str} {y:Str} {t:Tok} (hg:Gl X x) (hm:X.mg x=some (.str y t)) (hy:y.length<=sizeLine:=by decide) (hd:(x==("__debug__" : Str))=false:=by decide):QV X (.Name x pos) (cB (.str y)):=⟨Mg (lH hg hm (v:=.str y) ⟨t,rfl⟩ hd) fun H=>by unfold Rep;exact⟨rfl,hy⟩⟩
def Tz:Bx->Option Bool
 |.z .non=>some false
 |.z (.bl b)=>some b
 |.z (.int i)=>some (i != 0)
 |.z (.str x)=>some ((x.length:Int) != 0)
 |.z (.tup ds)=>some (!ds.isEmpty)
 |.z (.lst ds)=>some (!ds.isEmpty)
 |.l ds=>some (!ds.isEmpty)
 |.o ds=>some (!ds.isEmpty)
 |.z .emp=>none
 |.n _=>none
 |.m _ _=>none
theorem aR.isEmpty {K:FG_} {H:Hp} {ds:List Dt} {vs:List V} (h:aR K H ds vs):(!ds.isEmpty)=!vs.isEmpty:=by
 have:=h.length
 cases ds<;>cases vs<;>simp_all
theorem TF {K:FG_} {H:Hp} {b:Bx} {v:V} {k:Bool} (r:bh K H b v) (e:Tz b=some k):Xk K v H k:=by
 cases b with
 |z d=>
  cases d with
  |non=>cases e;simp only[bh,Rep] at r;subst r;rfl
  |bl b=>cases e;simp only[bh,Rep] at r;subst r;rfl
  |int b=>cases e;simp only[bh,Rep] at r;subst r;rfl
  |str x=>cases e;simp only[bh,Rep] at r;obtain⟨rfl,h⟩:=r;exact⟨h,rfl⟩
  |tup ds=>
   cases e;simp only[bh,Rep] at r
   obtain⟨a,vs,rfl,q,r⟩:=r
   exact .inr (.inl ⟨vs,q,r.isEmpty⟩)
  |lst ds=>
   cases e
   obtain⟨a,vs,rfl,q,r⟩:=r.Cr rfl
   exact .inl ⟨vs,q,r.isEmpty⟩
  |emp=>cases e
 |l ds=>
  cases e
  obtain⟨a,vs,rfl,q,r⟩:=r.Cr rfl
  exact .inl ⟨vs,q,r.isEmpty⟩
 |o ds=>
  cases e
  obtain⟨a,vs,rfl,q,r⟩:=r.Cr rfl
  exact .inl ⟨vs,q,r.isEmpty⟩
 |n _=>cases e
 |m _ _=>cases e
theorem Ea (h:QV X e f) (he:∀ whole,isTrue e X.env whole=(do let v <-whole;standAt e.pos;holding [v] (truthy v)):=by intro _;rfl):QB X e (fun ρ=>(f ρ).bind Tz):=⟨have h:=h.run;ptM (OD h he) fun σ H Q q=>by
 obtain⟨H0,ρ,k,E,e,q⟩:=q
 obtain⟨b,eb,e⟩:=bind_some e
 exact⟨H0,ρ,b,E,eb,fun v H1 s1 n1 r1=>⟨k,TF r1 e,q H1 s1⟩⟩⟩
def Mh (p q:Ev->Option Bool):Ev->Option Bool:=fun ρ=>(p ρ).bind fun c=>if c=true then q ρ else some false
def V8 (p q:Ev->Option Bool):Ev->Option Bool:=fun ρ=>(p ρ).bind fun c=>if c=true then some true else q ρ
def IW (p:Ev->Option Bool):Ev->Option Bool:=fun ρ=>(p ρ).bind fun c=>some (!c)
def PBW (X:Cx) (e:Expr) (f:Ev->Option Bool):Prop:=PW X e (Tw X.K f)
structure XH (X:Cx) (e:Expr) (f:Ev->Option Bool):Prop where
 run:PBW X e f
variable {p q:Ev->Option Bool} {rest:List Expr}
theorem Pr (ha:QB X a p):XH X (.BoolOp .And [a] pos) p:=⟨have ha:=ha.run;SN ha⟩
theorem Eb (ha:QB X a p):XH X (.BoolOp .Or [a] pos) p:=⟨have ha:=ha.run;Om ha⟩
theorem TJ {K:FG_} (σ:L2.St) (H:Hp) (Q:Bool->Hp->Prop) (h:Tw K (Mh p q) σ H Q):ZM (Tw K p) (Tw K q) σ H Q:=by
 obtain⟨H0,ρ,k,E,e,w⟩:=h
 obtain⟨c,ec,e⟩:=bind_some e
 refine⟨H0,ρ,c,E,ec,fun H1 s1=>?_⟩
 cases c with
 |true=>rw[zi rfl] at e ⊢;exact⟨H0,ρ,k,E.grow s1,e,fun H2 s2=>w H2 (s1.trans s2)⟩
 |false=>rw[zw zr] at e ⊢;cases e;exact w H1 s1
theorem XJ {K:FG_} (σ:L2.St) (H:Hp) (Q:Bool->Hp->Prop) (h:Tw K (V8 p q) σ H Q):tOr (Tw K p) (Tw K q) σ H Q:=by
 obtain⟨H0,ρ,k,E,e,w⟩:=h
 obtain⟨c,ec,e⟩:=bind_some e
 refine⟨H0,ρ,c,E,ec,fun H1 s1=>?_⟩
 cases c with
 |true=>rw[zi rfl] at e ⊢;cases e;exact w H1 s1
 |false=>rw[zw zr] at e ⊢;exact⟨H0,ρ,k,E.grow s1,e,fun H2 s2=>w H2 (s1.trans s2)⟩
theorem TQ (ha:QB X a p) (hb:XH X (.BoolOp .And (b::rest) pos) q):XH X (.BoolOp .And (a::b::rest) pos) (Mh p q):=⟨have ha:=ha.run;have hb:=hb.run;pwM (W6 ha hb) TJ⟩
theorem Ja (ha:QB X a p) (hb:XH X (.BoolOp .Or (b::rest) pos) q):XH X (.BoolOp .Or (a::b::rest) pos) (V8 p q):=⟨have ha:=ha.run;have hb:=hb.run;pwM (Oo ha hb) XJ⟩
theorem TV (h:XH X e p):QB X e p:=⟨have h:=h.run;h.pt⟩
theorem Ed (ha:QB X a p):QB X (.UnaryOp .Not a pos) (IW p):=⟨have ha:=ha.run;ptM (Ii ha) fun σ H Q h=>by
 obtain⟨H0,ρ,k,E,e,w⟩:=h
 obtain⟨c,ec,e⟩:=bind_some e
 cases e
 exact⟨H0,ρ,c,E,ec,fun H1 s1=>w H1 s1⟩⟩
def Pu (fa fb:Ev->Option Bx):Ev->Option Bx:=fun ρ=>((fa ρ).bind DY).bind fun c=>if c=true then fb ρ else some (.z (.bl false))
theorem XM {op} (h:QV X a fa):QV X (.BoolOp op [a] pos) fa:=⟨have h:=h.run;W7 h⟩
theorem Px (ha:QV X a fa) (hb:QV X (.BoolOp .And (b::rest) pos) fb):QV X (.BoolOp .And (a::b::rest) pos) (Pu fa fb):=⟨have ha:=ha.run;have hb:=hb.run;FN (W8 ha hb) fun σ H Q h=>by
 obtain⟨H0,ρ,k,E,e,w⟩:=h
 obtain⟨c,ec,e⟩:=bind_some e
 obtain⟨x,ex,ec⟩:=bind_some ec
 refine⟨H0,ρ,x,E,ex,fun v H1 s1 n1 r1=>⟨c,zm r1 ec,?_⟩⟩
 cases c with
 |true=>rw[zi rfl] at e ⊢;exact⟨H0,ρ,k,E.grow s1,e,fun v H2 s2 n2 r2=>w v H2 (s1.trans s2) (n2.old s1) r2⟩
 |false=>rw[zw zr] at e ⊢;cases e;exact w _ H1 s1 trivial (by simp only[bh,Rep])⟩
theorem J8:PVs X [] (fun _=>some []):=paM lg fun σ H Q h=>by
 obtain⟨H0,ρ,bs,E,e,q⟩:=h
 cases e
 exact q [] H (Same.refl H) .nil
def ao (f:Ev->Option Bx) (fs:Ev->Option (List Bx)):Ev->Option (List Bx):=fun ρ=>(f ρ).bind fun b=>(fs ρ).bind fun bs=>some (b::bs)
theorem Gi (h1:PV X e f) (h2:PVs X es fs) (hs:starEach (e::es) X.env=(false,eval e X.env)::starEach es X.env:=by rfl):PVs X (e::es) (ao f fs):=paM (bK h1 h2 hs) fun σ H Q h=>by
 obtain⟨H0,ρ,bs,E,e,q⟩:=h
 obtain⟨b,eb,e⟩:=bind_some e
 obtain⟨bs',ebs,e⟩:=bind_some e
 cases e
 refine⟨H0,ρ,b,E,eb,fun v H1 s1 n1 r1=>⟨H0,ρ,bs',E.grow s1,ebs,fun vs H2 s2 r2=>?_⟩⟩
 exact q (v::vs) H2 (s1.trans s2) (.cons (r1.same s2) r2)
def uY:Bx->Option Bx
 |.z d=>some (.z d)
 |.o ds=>some (.z (.lst ds))
 |.l _=>none
 |.n _=>none
 |.m _ _=>none
theorem Jb {pins:List (Addr×Obj)} {σ:L2.St} {H:Hp} {s:Shared} {a:Addr} {vs:List V} (I:L2.Inv X pins σ H s) (h:H a=some (.lst vs)):∃ o,L2.Inv X pins σ (upd H a (.uR o (.lst vs))) s:=by
 obtain⟨z,its,n,r,e⟩:=I.hok a _ h
 refine⟨{ cls:=.type "list", data:=.seq its.toArray n },⟨I.ok,I.os,I.bare,⟨I.base.keep,I.base.slot,fun b ob q1 q2 q3=>?_,I.base.there,fun b xs q=>?_,fun b ob u q=>?_,fun b ps q=>?_⟩,I.loc,I.cell,?_,fun x c q=>?_,fun p hp=>?_,?_,I.len⟩⟩
 ·have:=I.base.free b ob q1 q2 q3
  rw[aJ (aW h this).symm];exact this
 ·have:=I.base.tups b xs q
  rw[aJ (lN this h (by intro z;cases z))];exact this
 ·have:=I.base.oR b ob u q
  rw[aJ (lN this h (by intro z;cases z))];exact this
 ·obtain⟨m,this⟩:=I.base.qO b ps q
  rw[aJ (lN this h (by intro z;cases z))];exact⟨m,this⟩
 ·rw[aJ (aW h I.free).symm];exact I.free
 ·rw[aJ (aW h (I.jP x c q)).symm];exact I.jP x c q
 ·obtain⟨q1,q2,q3⟩:=I.pin p hp
  refine⟨q1,?_,q3⟩
  rw[aJ (aW h q2).symm];exact q2
 ·intro b u q
  by_cases hb:b=a
  ·subst hb
   rw[aU] at q;cases q
   exact⟨e,z,its,n,r,e⟩
  ·rw[aJ hb] at q
   refine (I.hok b u q).stay (fun c v _ w=>w) (fun c w=>?_) fun c xs w=>?_
   ·rw[aJ (lN w h (by intro z;cases z))];exact w
   ·rw[aJ (lN w h (by intro z;cases z))];exact w
theorem jQ (h:QV X e f):QV X e (b1 uY f):=⟨by
 have h:=h.run
 intro pins s σ H Q I q
 obtain⟨H0,ρ,b,E,e,q⟩:=q
 obtain⟨x,ex,e⟩:=bind_some e
 cases x with
 |z d=>
  cases e
  exact h pins s σ H Q I ⟨H0,ρ,_,E,ex,fun v H' s' n' r'=>q v H' s' trivial r'⟩
 |l ds=>cases e
 |n ds=>cases e
 |m ds _=>cases e
 |o ds=>
  cases e
  refine iu (h pins s σ H (fun v H'=>Same H H'/\Nw H (.o ds) v/\bh X.K H' (.o ds) v) I ⟨H0,ρ,_,E,ex,fun v H' s' n' r'=>⟨s',n',r'⟩⟩) fun u s1 hq=>?_
  obtain⟨v,H1,I1,rv,s',n',r'⟩:=hq
  obtain⟨a,vs,rfl,ha,rs⟩:=r'
  obtain⟨o,I2⟩:=Jb I1 ha
  refine⟨.ref a,_,I2,rv,q _ _ (fun c ob hc=>?_) trivial ?_⟩
  ·rw[aJ (aW hc (n' a rfl))];exact s' c ob hc
  ·simp only[bh,Rep]
   exact⟨a,vs,rfl,.inl ⟨o,aU⟩,rs.kp (.lst ha)⟩⟩
def uZ:List Bx->Option (List Dt)
 |[]=>some []
 |.z d::r=>(uZ r).bind fun ds=>some (d::ds)
 |_=>none
theorem zp {K:FG_} {H:Hp}:∀ {bs:List Bx} {vs:List V} {ds:List Dt},qF K H bs vs->uZ bs=some ds->aR K H ds vs
 |_,_,_,.nil,e=>by cases e;exact aR.nil
 |b::bs,_,_,.cons h t,e=>by
  cases b with
  |z d=>
   simp only[uZ] at e
   obtain⟨ds',e1,e2⟩:=bind_some e
   cases e2
   exact aR.cons h (zp t e1)
  |_=>cases e
theorem zq:∀ {bs:List Bx} {ds:List Dt},uZ bs=some ds->ds.length=bs.length
 |[],_,e=>by cases e;rfl
 |.z d::r,_,e=>by
  simp only[uZ] at e
  obtain⟨ds',e1,e2⟩:=bind_some e
  cases e2
  simp[zq e1]
 |.l _::_,_,e=>by cases e
 |.o _::_,_,e=>by cases e
 |.n _::_,_,e=>by cases e
 |.m _ _::_,_,e=>by cases e
def gC (bs:List Bx):Option Bx:=if bs.length<=1000 then (uZ bs).bind fun ds=>some (.z (.tup ds)) else none
def mQ (bs:List Bx):Option Bx:=if bs.length<=1000 then (uZ bs).bind fun ds=>some (.o ds) else none
theorem bJ {H:Hp} {p:Addr} {o:HO} (h:H p=none):Same H (upd H p o):=fun b u e=>by rw[aJ (aW e h)];exact e
theorem V9 {n:Nat} (h:n<=1000):n<=sizeLine:=zh h (by decide)
theorem iw {x1} (h:Pb X es fs):QV X (.Tuple es x1 pos) (cY gC fs):=⟨have h:=h.run;FN (zc h) fun σ H Q q=>by
 obtain⟨H0,ρ,c,E,e,q⟩:=q
 obtain⟨bs,ebs,e⟩:=bind_some e
 refine⟨H0,ρ,bs,E,ebs,fun vs H1 s1 r1=>?_⟩
 unfold gC at e
 split at e
 ·rename_i hl
  obtain⟨ds,e1,e⟩:=bind_some e
  cases e
  have r2:=zp r1 e1
  refine⟨V9 (by rw[r2.length,zq e1];exact hl),fun p hp=>q _ _ (s1.trans (bJ hp)) trivial ?_⟩
  simp only[bh,Rep]
  exact⟨p,vs,rfl,.inl (.inl aU),r2.kp (.of (bJ hp))⟩
 ·cases e⟩
theorem jR (h:Pb X es fs):QV X (.List es pos) (cY mQ fs):=⟨have h:=h.run;FN (Xm h) fun σ H Q q=>by
 obtain⟨H0,ρ,c,E,e,q⟩:=q
 obtain⟨bs,ebs,e⟩:=bind_some e
 refine⟨H0,ρ,bs,E,ebs,fun vs H1 s1 r1=>?_⟩
 unfold mQ at e
 split at e
 ·rename_i hl
  obtain⟨ds,e1,e⟩:=bind_some e
  cases e
  have r2:=zp r1 e1
  refine⟨V9 (by rw[r2.length,zq e1];exact hl),fun p hp=>q _ _ (s1.trans (bJ hp)) (fun a ea=>by cases ea;exact s1.free hp) ?_⟩
  exact⟨p,vs,rfl,aU,r2.kp (.of (bJ hp))⟩
 ·cases e⟩
theorem fW {x:Str} {id:String} {g:List Bx->Option Bx} {p:Pos} (hc:xX X (.builtin id) g) (hg:Gl X x) (hm:X.mg x=none) (hv:bootBuiltins x=some (.builtin id)) (ha:Pb X (e::es) fs) (hn:x ≠ "__name__" := by decide) (hdb:(x==("__debug__" : Str))=false:=by decide) (he:starEach (e::es) X.env=(false,eval e X.env)::starEach es X.env:=by rfl) (hpl:(backTo pos (starEach es X.env)).any (·.1)=false:=by rfl):QV X (.Call (.Name x p) (e::es) [] pos) (cY g fs):=⟨have ha:=ha.run;FN (qY hc hg hm hv ha hn hdb he hpl) convs⟩
theorem mJ {x:Str} {T:String} {g:List Bx->Option Bx} {p:Pos} (hc:xX X (.type T) g) (hg:Gl X x) (hm:X.mg x=none) (hv:bootBuiltins x=some (.type T)) (ha:Pb X (e::es) fs) (hn:x ≠ "__name__" := by decide) (hdb:(x==("__debug__" : Str))=false:=by decide) (he:starEach (e::es) X.env=(false,eval e X.env)::starEach es X.env:=by rfl) (hpl:(backTo pos (starEach es X.env)).any (·.1)=false:=by rfl):QV X (.Call (.Name x p) (e::es) [] pos) (cY g fs):=⟨have ha:=ha.run;FN (Lx hc hg hm hv ha hn hdb he hpl) convs⟩
end
inductive Out where
 |nx (ρ:Ev)|rt (b:Bx)|bk (ρ:Ev)|ct (ρ:Ev)
def Py (K:FG_) (H0:Hp) (D:Ends):Out->Prop
 |.nx ρ=>∀ σ H,bw K H0 H σ ρ->D.nx σ H
 |.rt b=>∀ v H,Same H0 H->Nw H0 b v->bh K H b v->D.rt v H
 |.bk ρ=>∀ σ H,bw K H0 H σ ρ->D.bk σ H
 |.ct ρ=>∀ σ H,bw K H0 H σ ρ->D.ct σ H
def tG (K:FG_) (g:Ev->Option Out):TS:=fun D σ H=>∃ H0 ρ r,bw K H0 H σ ρ/\g ρ=some r/\Py K H0 D r
def PG1 (X:Cx) (st:Stmt) (g:Ev->Option Out):Prop:=PS X st (tG X.K g)
structure Pz (X:Cx) (st:Stmt) (g:Ev->Option Out):Prop where
 run:PG1 X st g
def Ot (X:Cx) (st:List Stmt) (g:Ev->Option Out):Prop:=wJ X st (tG X.K g)
structure PJ (X:Cx) (st:List Stmt) (g:Ev->Option Out):Prop where
 run:Ot X st g
def aH (g1 g2:Ev->Option Out):Ev->Option Out:=fun ρ=>(g1 ρ).bind fun r=>match r with
 |.nx ρ'=>g2 ρ'
 |r=>some r
section
variable {X:Cx} {a b c e:Expr} {es:List Expr} {fa fb fc f:Ev->Option Bx} {fs:Ev->Option (List Bx)} {pos:Pos} {st:Stmt} {rest:List Stmt} {g g1 g2:Ev->Option Out}
theorem aX  : PJ X [] (fun ρ=>some (.nx ρ)):=⟨Mf yI fun D σ H h=>by
 obtain⟨H0,ρ,r,E,e,q⟩:=h
 cases e
 exact q σ H E⟩
theorem aB (h1:Pz X st g1) (h2:PJ X rest g2):PJ X (st::rest) (aH g1 g2):=⟨have h1:=h1.run;have h2:=h2.run;Mf (jy h1 h2) fun D σ H h=>by
 obtain⟨H0,ρ,r,E,e,q⟩:=h
 obtain⟨r1,e1,e⟩:=bind_some e
 refine⟨H0,ρ,r1,E,e1,?_⟩
 cases r1 with
 |nx ρ'=>exact fun σ' H' E'=>⟨H0,ρ',r,E',e,q⟩
 |rt b=>cases e;exact q
 |bk ρ'=>cases e;exact q
 |ct ρ'=>cases e;exact q⟩
def Mi:Bx->Option Out
 |.l _=>none
 |.n _=>none
 |b=>some (.rt b)
theorem fX (h:QV X e f):Pz X (.Return (some e) pos) (fun ρ=>(f ρ).bind Mi):=⟨have h:=h.run;Sh (yX h) fun D σ H h=>by
 obtain⟨H0,ρ,r,E,e,q⟩:=h
 obtain⟨b,eb,e⟩:=bind_some e
 refine⟨H0,ρ,b,E,eb,fun v H1 s1 n1 r1=>?_⟩
 cases b with
 |l ds=>cases e
 |z d=>cases e;exact q v H1 (E.base.trans s1) trivial r1
 |o ds=>cases e;exact q v H1 (E.base.trans s1) (n1.old E.base) r1
 |n ds=>cases e
 |m ds _=>cases e;exact q v H1 (E.base.trans s1) (n1.old E.base) r1⟩
def Ef (i:Nat) (ρ:Ev):Option Out:=match ρ[i]? with
 |some (some b)=>Mi b
 |_=>none
theorem J9 (i:Nat) {x:Str} {p:Pos} (hN:X.N[i]?=some x:=by rfl) (hv:Oe X.env.scope x:=by first|exact qS rfl|exact qa (qS rfl)|exact qa (qa rfl)) (hd:(x==("__debug__" : Str))=false:=by decide) (hcd:(x==("__classdict__" : Str))=false:=by decide):Pz X (.Return (some (.Name x p)) pos) (Ef i):=⟨Sh (yX (wK hN hv hd hcd)) fun D σ H h=>by
 obtain⟨H0,ρ,r,E,e,q⟩:=h
 unfold Ef at e
 split at e
 ·rename_i b hb
  obtain⟨v,e1,r1⟩:=E.val i b hb
  refine⟨v,e1,?_⟩
  cases b with
  |l ds=>cases e
  |z d=>cases e;exact q v H E.base trivial r1
  |o ds=>cases e;exact q v H E.base (fun a ea=>E.new i _ a hb rfl (by rw[e1,ea])) r1
  |n ds=>cases e
  |m ds _=>cases e;exact q v H E.base (fun a ea=>E.new i _ a hb rfl (by rw[e1,ea])) r1
 ·cases e⟩
def BK (p:Ev->Option Bool) (g1 g2:Ev->Option Out):Ev->Option Out:=fun ρ=>(p ρ).bind fun k=>if k=true then g1 ρ else g2 ρ
theorem rz {p:Ev->Option Bool} {u v:List Stmt} (hc:QB X c p) (ha:PJ X u g1) (hb:PJ X v g2):Pz X (.If c u v pos) (BK p g1 g2):=⟨have hc:=hc.run;have ha:=ha.run;have hb:=hb.run;Sh (FZ hc ha hb) fun D σ H h=>by
 obtain⟨H0,ρ,r,E,e,q⟩:=h
 obtain⟨k,ek,e⟩:=bind_some e
 refine⟨H0,ρ,k,E,ek,fun H1 s1=>?_⟩
 cases k with
 |true=>rw[zi rfl] at e ⊢;exact⟨H0,ρ,r,E.grow s1,e,q⟩
 |false=>rw[zw zr] at e ⊢;exact⟨H0,ρ,r,E.grow s1,e,q⟩⟩
theorem getset {α:Type} {l:List α} {i j:Nat} {x y:α} (h:(l.set i x)[j]?=some y):(j=i/\y=x/\i < l.length)\/(j≠i/\l[j]?=some y):=by
 rw[JS] at h
 by_cases e:i=j
 ·subst e
  rw[zi rfl] at h
  split at h
  ·cases h;exact .inl ⟨rfl,rfl,by assumption⟩
  ·cases h
 ·rw[zw e] at h
  exact .inr ⟨fun z=>e z.symm,h⟩
theorem zu {α:Type} {l:List α} {i:Nat} (x:α) (h:i < l.length):(l.set i x)[i]?=some x:=by
 rw[JS,zi rfl,zi h]
theorem u0 {α:Type} {l:List α} {i j:Nat} (x:α) (h:j≠i):(l.set i x)[j]?=l[j]?:=by
 rw[JS,zw (qq h)]
theorem bw.set {K:FG_} {H0 H H1:Hp} {σ:L2.St} {ρ:Ev} {i:Nat} {b:Bx} {v:V} (E:bw K H0 H σ ρ) (s:Same H H1) (r:bh K H1 b v) (hl:uX b=true\/loose b=false) (n:Nw H b v):bw K H0 H1 (σ.set i (some v)) (ρ.set i (some b)):=by
 have E1:=E.grow s
 have apart:∀ (j:Nat) (b':Bx) (a:Addr),ρ[j]?=some (some b')->loose b'=true->σ[j]?=some (some (.ref a))->H a≠none:=fun j b' a e1 e2 e3 z=>by
  obtain⟨v',e4,r'⟩:=E.val j b' e1
  rw[e3] at e4;cases e4
  cases b' with
  |z d=>cases e2
  |l ds=>
   obtain⟨a',vs,e5,q,_⟩:=r'
   cases e5
   rcases q with q|⟨o,q⟩<;>(rw[z] at q;cases q)
  |o ds=>
   obtain⟨a',vs,e5,q,_⟩:=r'
   cases e5
   rw[z] at q;cases q
  |n ds=>
   obtain⟨a',vs,e5,q,_⟩:=r'
   cases e5
   rcases q with q|⟨o,q⟩<;>(rw[z] at q;cases q)
  |m ds _=>
   obtain⟨a',vs,e5,q,_⟩:=r'
   cases e5
   rw[z] at q;cases q
 have nw:uX b=true->∀ a,v=.ref a->H a=none:=fun ho=>by
  cases b with
  |o ds=>exact n
  |m ds _=>exact n
  |_=>cases ho
 refine⟨by rw[qv,qv];exact E.len,fun j b' e=>?_,fun j k c a b' e1 ec e2 e3 e4 e5=>?_,E1.base,fun j c a e1 ec e2=>?_⟩
 ·rcases getset e with⟨rfl,e',hi⟩|⟨hne,e'⟩
  ·cases e'
   exact⟨v,zu _ (by rw[E.len];exact hi),r⟩
  ·rw[u0 _ hne]
   exact E1.val j b' e'
 ·rcases getset e1 with⟨rfl,e',hi⟩|⟨hne,e'⟩
  ·cases e'
   rw[zu _ (by rw[E.len];exact hi)] at e2
   cases e2
   rcases getset e3 with⟨rfl,e3',_⟩|⟨TX,e3'⟩
   ·rfl
   ·rw[u0 _ TX] at e5
    exact absurd (nw ec a rfl) (apart k b' a e3' e4 e5)
  ·rw[u0 _ hne] at e2
   rcases getset e3 with⟨rfl,e3',hi⟩|⟨TX,e3'⟩
   ·cases e3'
    rw[zu _ (by rw[E.len];exact hi)] at e5
    cases e5
    have hlo:loose c=true:=by cases c<;>first|rfl|cases ec
    rcases hl with hl|hl
    ·exact absurd (nw hl a rfl) (apart j _ a e' hlo e2)
    ·rw[hl] at e4;cases e4
   ·rw[u0 _ TX] at e5
    exact E.own j k c a b' e' ec e2 e3' e4 e5
 ·rcases getset e1 with⟨rfl,e',hi⟩|⟨hne,e'⟩
  ·cases e'
   rw[zu _ (by rw[E.len];exact hi)] at e2
   cases e2
   exact E.base.free (nw ec a rfl)
  ·rw[u0 _ hne] at e2
   exact E.new j c a e' ec e2
def PK (ρ:Ev) (i:Nat):Bx->Option Ev
 |.l _=>none
 |.n _=>none
 |b=>some (ρ.set i (some b))
theorem TY {K:FG_} {H0 H H1:Hp} {σ:L2.St} {ρ ρ':Ev} {i:Nat} {b:Bx} {v:V} (E:bw K H0 H σ ρ) (s:Same H H1) (r:bh K H1 b v) (n:Nw H b v) (e:PK ρ i b=some ρ'):bw K H0 H1 (σ.set i (some v)) ρ':=by
 cases b with
 |l ds=>cases e
 |z d=>cases e;exact E.set s r (.inr rfl) n
 |o d=>cases e;exact E.set s r (.inl rfl) n
 |n ds=>cases e
 |m d _=>cases e;exact E.set s r (.inl rfl) n
theorem bA (i:Nat) {x:Str} {p:Pos} (hN:X.N.Nodup) (he:QV X e f) (hi:X.N[i]?=some x:=by rfl) (hx:Loc X.env.scope x:=by first|exact qS rfl|exact qa rfl) (hs:swapsWith e (some (.Name x p)) pos.line X.env=pure false:=by rfl) (hf:X.fn x=true\/X.env.scope.names.lookup x=some .local:=by first|exact .inl rfl|exact .inr rfl):Pz X (.Assign [.Name x p] e pos) (fun ρ=>(f ρ).bind fun b=>(PK ρ i b).bind fun ρ'=>some (.nx ρ')):=⟨have he:=he.run;Sh (yZ hN hi hx he hs hf) fun D σ H h=>by
 obtain⟨H0,ρ,r,E,e,q⟩:=h
 obtain⟨b,eb,e⟩:=bind_some e
 obtain⟨ρ',eρ,e⟩:=bind_some e
 cases e
 exact⟨H0,ρ,b,E,eb,fun v H1 s1 n1 r1=>q _ _ (TY E s1 r1 n1 eρ)⟩⟩
def Lo (σ:L2.St) (ρ:Ev) (σ':L2.St) (ρ':Ev):Prop:=∀ (j:Nat) b,loose b=true->ρ'[j]?=some (some b)->ρ[j]?=some (some b)/\σ'[j]?=σ[j]?
theorem Lo.refl {σ:L2.St} {ρ:Ev}:Lo σ ρ σ ρ:=fun _ _ _ e=>⟨e,rfl⟩
theorem Lo.trans {σ σ1 σ2:L2.St} {ρ ρ1 ρ2:Ev} (a:Lo σ ρ σ1 ρ1) (b:Lo σ1 ρ1 σ2 ρ2):Lo σ ρ σ2 ρ2:=fun j c l e=>by
 obtain⟨e1,e2⟩:=b j c l e
 obtain⟨e3,e4⟩:=a j c l e1
 exact⟨e3,e2.trans e4⟩
theorem Lo.set {σ:L2.St} {ρ:Ev} (i:Nat) (v:V) (d:Dt):Lo σ ρ (σ.set i (some v)) (ρ.set i (some (.z d))):=fun j b l e=>by
 rcases getset e with⟨rfl,e',_⟩|⟨hne,e'⟩
 ·cases e';cases l
 ·exact⟨e',u0 _ hne⟩
def tgF (K:FG_) (g:Dt->Ev->Option Ev):TG:=fun v σ H Q=>∃ H0 ρ d ρ',bw K H0 H σ ρ/\Rep K H d v/\g d ρ=some ρ'/\∀ σ',bw K H0 H σ' ρ'->Lo σ ρ σ' ρ'->Q σ' H
def PTg (X:Cx) (t:Expr) (g:Dt->Ev->Option Ev):Prop:=PG X t (tgF X.K g)
structure XQ (X:Cx) (t:Expr) (g:Dt->Ev->Option Ev):Prop where
 run:PTg X t g
theorem aY (i:Nat) {x:Str} (hN:X.N.Nodup) (hi:X.N[i]?=some x:=by rfl) (hx:Loc X.env.scope x:=by first|exact qS rfl|exact qa rfl) (hf:X.fn x=true\/X.env.scope.names.lookup x=some .local:=by first|exact .inl rfl|exact .inr rfl):XQ X (.Name x pos) (fun d ρ=>some (ρ.set i (some (.z d)))):=⟨fun pins s σ H v u Q I r h=>by
 obtain⟨H0,ρ,d,ρ',E,rd,e,q⟩:=h
 cases e
 exact yJ hN hi hx hf pins s σ H v u Q I r (q _ (E.set (b:=.z d) (Same.refl H) rd (.inr rfl) trivial) (Lo.set i v d))⟩
def acT (K:FG_) (g:List Dt->Ev->Option Ev):VR:=fun vs σ H Q=>∃ H0 ρ ds ρ',bw K H0 H σ ρ/\aR K H ds vs/\g ds ρ=some ρ'/\∀ σ',bw K H0 H σ' ρ'->Lo σ ρ σ' ρ'->Q σ' H
def acU (X:Cx) (t:List Expr) (g:List Dt->Ev->Option Ev):Prop:=L2.Ot X t (acT X.K g)
structure T3 (X:Cx) (t:List Expr) (g:List Dt->Ev->Option Ev):Prop where
 run:acU X t g
def rA:List Dt->Ev->Option Ev
 |[],ρ=>some ρ
 |_,_=>none
def eN (g:Dt->Ev->Option Ev) (gs:List Dt->Ev->Option Ev):List Dt->Ev->Option Ev
 |d::ds,ρ=>(g d ρ).bind (gs ds)
 |_,_=>none
theorem pZ  : T3 X [] rA:=⟨fun pins s σ H vs us Q I r h=>by
 obtain⟨H0,ρ,ds,ρ',E,rd,e,q⟩:=h
 cases ds with
 |nil=>cases e;unfold aR at rd;exact SQ pins s σ H vs us Q I r ⟨rd,q _ E Lo.refl⟩
 |cons d ds=>cases e⟩
theorem fu {t:Expr} {ts:List Expr} {gt:Dt->Ev->Option Ev} {gs:List Dt->Ev->Option Ev} (h1:XQ X t gt) (h2:T3 X ts gs) (hs:(assignEach (t::ts) X.env).map (·.2)=assign t X.env::(assignEach ts X.env).map (·.2):=by rfl):T3 X (t::ts) (eN gt gs):=⟨have h1:=h1.run;have h2:=h2.run;fun pins s σ H vs us Q I r h=>by
 obtain⟨H0,ρ,ds,ρ',E,rd,e,q⟩:=h
 cases ds with
 |nil=>cases e
 |cons d ds=>
  unfold aR at rd
  obtain⟨v,vr,rfl,r1,r2⟩:=rd
  simp only[eN] at e
  obtain⟨ρ1,e1,e⟩:=bind_some e
  exact Ou h1 h2 hs pins s σ H _ us Q I r ⟨v,vr,rfl,H0,ρ,d,ρ1,E,r1,e1,fun σ1 E1 L1=>⟨H0,ρ1,ds,ρ',E1,r2,e,fun σ2 E2 L2=>q σ2 E2 (L1.trans L2)⟩⟩⟩
def oY (n:Nat) (gs:List Dt->Ev->Option Ev):Dt->Ev->Option Ev
 |.tup ds,ρ=>if ds.length=n then gs ds ρ else none
 |_,_=>none
theorem uF {ts:List Expr} {k n:Nat} {gs:List Dt->Ev->Option Ev} (hc:X.calm=true) (h:T3 X ts gs) (hn:(assignEach ts X.env).length=n:=by rfl) (hst:(assignEach ts X.env).findIdx? (·.1)=none:=by rfl):XQ X (.Tuple ts k pos) (oY n gs):=⟨have h:=h.run;fun pins s σ H v u Q I r hw=>by
 obtain⟨H0,ρ,d,ρ',E,rd,e,q⟩:=hw
 cases d with
 |tup ds=>
  simp only[oY] at e
  split at e
  ·rename_i hl
   unfold Rep at rd
   obtain⟨a,vs,rfl,hq,rs⟩:=rd
   exact Xa hc h hn hst pins s σ H _ u Q I r ⟨a,vs,rfl,hq,by rw[rs.length];exact hl,H0,ρ,ds,ρ',E,rs,e,q⟩
  ·cases e
 |_=>cases e⟩
theorem XR {tg:Expr} {gt:Dt->Ev->Option Ev} (he:QV X e f) (hg:XQ X tg gt) (hs:swapsWithSole [tg] e pos.line X.env=pure false:=by rfl) (hw:swappedStores [tg] e X.env=pure none:=by rfl) (h1:(assignEach [tg] X.env).map (·.2)=[assign tg X.env]:=by rfl):Pz X (.Assign [tg] e pos) (fun ρ=>(f ρ).bind fun b=>match b with|.z d=>(gt d ρ).bind fun ρ'=>some (.nx ρ')|_=>none):=⟨have he:=he.run;have hg:=hg.run;Sh (Xb he hg hs hw h1) fun D σ H h=>by
 obtain⟨H0,ρ,r,E,e,q⟩:=h
 obtain⟨b,eb,e⟩:=bind_some e
 refine⟨H0,ρ,b,E,eb,fun v H1 s1 n1 r1=>?_⟩
 cases b with
 |z d=>
  obtain⟨ρ',eρ,e⟩:=bind_some e
  cases e
  exact⟨H0,ρ,d,ρ',E.grow s1,r1,eρ,fun σ' E' _=>q _ _ E'⟩
 |_=>cases e⟩
def T4 (ρ:Ev) (i:Nat):Bx->Option Out
 |.z d=>match ρ[i]? with
  |some (some (.o ds))=>if ds.length < sizeLine then some (.nx (ρ.set i (some (.o (ds++[d]))))) else none
  |_=>none
 |_=>none
theorem bw.aax {K:FG_} {H0 H:Hp} {σ:L2.St} {ρ:Ev} {i:Nat} {c0 c1:Bx} {a:Addr} {u:HO} (E:bw K H0 H σ ρ) (h:ρ[i]?=some (some c0)) (ho:uX c0=true) (hs:σ[i]?=some (some (.ref a))) (k:Kp H (upd H a u)) (r:bh K (upd H a u) c1 (.ref a)) :
  bw K H0 (upd H a u) σ (ρ.set i (some c1)):=by
 have hi:i < ρ.length:=(List.getElem?_eq_some_iff.mp h).1
 have hb:H0 a=none:=E.new i c0 a h ho hs
 have lo:∀ c,uX c=true->loose c=true:=fun c hc=>by cases c<;>first|rfl|cases hc
 refine⟨by rw[qv];exact E.len,fun j b' e=>?_,fun j k' c a' b' e1 ec e2 e3 e4 e5=>?_,fun c o e=>?_,fun j c a' e1 ec e2=>?_⟩
 ·rcases getset e with⟨rfl,e',_⟩|⟨hne,e'⟩
  ·cases e'
   exact⟨_,hs,r⟩
  ·obtain⟨v,e1,r'⟩:=E.val j b' e'
   refine⟨v,e1,?_⟩
   have away:∀ a',v=.ref a'->loose b'=true->a'≠a:=fun a' ev hl z=>by
    subst z
    exact hne (E.own i j c0 _ _ h ho hs e' hl (by rw[e1,ev])).symm
   cases b' with
   |z d=>exact Rep.kp k r'
   |l ds'=>
    obtain⟨a',vs',rfl,q,rr⟩:=r'
    refine⟨a',vs',rfl,?_,rr.kp k⟩
    have hn:=away a' rfl rfl
    rcases q with q|⟨o,q⟩
    ·exact .inl (by rw[aJ hn];exact q)
    ·exact .inr ⟨o,by rw[aJ hn];exact q⟩
   |o ds'=>
    obtain⟨a',vs',rfl,q,rr⟩:=r'
    have hn:=away a' rfl rfl
    exact⟨a',vs',rfl,by rw[aJ hn];exact q,rr.kp k⟩
   |n ds'=>
    obtain⟨a',vs',rfl,q,rr⟩:=r'
    refine⟨a',vs',rfl,?_,rr.kp k⟩
    have hn:=away a' rfl rfl
    rcases q with q|⟨o,q⟩
    ·exact .inl (by rw[aJ hn];exact q)
    ·exact .inr ⟨o,by rw[aJ hn];exact q⟩
   |m ds'=>
    obtain⟨a',vs',rfl,q,rr⟩:=r'
    have hn:=away a' rfl rfl
    exact⟨a',vs',rfl,by rw[aJ hn];exact q,rr.1.kp k,rr.2⟩
 ·have back:∀ (m:Nat) (b:Bx),(ρ.set i (some c1))[m]?=some (some b)->loose b=true->∃ b0,ρ[m]?=some (some b0)/\loose b0=true/\(uX b=true->uX b0=true):=fun m b e l=>by
   rcases getset e with⟨rfl,e',_⟩|⟨hne,e'⟩
   ·exact⟨_,h,lo _ ho,fun _=>ho⟩
   ·exact⟨b,e',l,fun z=>z⟩
  obtain⟨b0,q1,q2,q3⟩:=back j _ e1 (lo _ ec)
  obtain⟨b1,q4,q5,_⟩:=back k' _ e3 e4
  exact E.own j k' b0 a' b1 q1 (q3 ec) e2 q4 q5 e5
 ·rw[aJ (aW e hb)];exact E.base c o e
 ·rcases getset e1 with⟨rfl,e',_⟩|⟨hne,e'⟩
  ·exact E.new _ c0 a' h ho e2
  ·exact E.new j c a' e' ec e2
theorem bw.Xy {K:FG_} {H0 H:Hp} {σ:L2.St} {ρ:Ev} {i:Nat} {ds es:List Dt} {a:Addr} {vs us:List V} (E:bw K H0 H σ ρ) (h:ρ[i]?=some (some (.o ds))) (hs:σ[i]?=some (some (.ref a))) (ha:H a=some (.lst vs)) (r:aR K H es us) :
  bw K H0 (upd H a (.lst us)) σ (ρ.set i (some (.o es))):=E.aax h rfl hs (.lst ha) ⟨a,us,rfl,aU,r.kp (.lst ha)⟩
theorem Jc (i:Nat) {x:Str} {p apos cpos:Pos} (he:QV X e f) (hN:X.N[i]?=some x:=by rfl) (hv:Oe X.env.scope x:=by first|exact qS rfl|exact qa (qS rfl)|exact qa (qa rfl)) (hd:(x==("__debug__" : Str))=false:=by decide) (hcd:(x==("__classdict__" : Str))=false:=by decide) (hst:starEach [e] X.env=[(false,eval e X.env)]:=by rfl) (hbase:attributeBase (.Name x p) "append" X.env (eval (.Name x p) X.env)=eval (.Name x p) X.env:=by rfl) (hfew:((backTo cpos (starEach [e] X.env)).all (fun x=>!x.1)&&(backToKw cpos (keywordEach [] X.env)).all (fun x=>x.1.isSome)&&decide ([e].length+([]:List Keyword).length+(if ([]:List Keyword).isEmpty then 0 else 1) < 30))=true:=by rfl) (hline:(apos.endLine==cpos.line)=true:=by rfl) (hs:swapsWith (.Call (.Attribute (.Name x p) "append" apos) [e] [] cpos) none pos.line X.env=pure false:=by rfl):Pz X (.Expr (.Call (.Attribute (.Name x p) "append" apos) [e] [] cpos) pos) (fun ρ=>(f ρ).bind (T4 ρ i)):=⟨have he:=he.run;Sh (JZ (V4 PySem.F.plainAttrs_list PySem.F.slot_list_append PySem.F.type_list_append Cp (wK (i:=i) hN hv hd hcd) (bK he lg (by rw[hst]<;>rfl)) hbase hfew hline (by rw[hst]<;>rfl) rfl) hs) fun D σ H h=>by
  obtain⟨H0,ρ,r,E,e,q⟩:=h
  obtain⟨b,eb,e⟩:=bind_some e
  cases b with
  |z d=>
   simp only[T4] at e
   split at e
   ·rename_i ds hρ
    split at e
    ·rename_i hl
     cases e
     obtain⟨v,e1,a,vs,rfl,ha,rs⟩:=E.val i _ hρ
     refine⟨_,e1,.inl ⟨rfl,vs,.inl (.inl ha)⟩,H0,ρ,_,E,eb,fun u H1 s1 n1 r1=>?_⟩
     have E1:=E.grow s1
     refine⟨a,vs,u,rfl,rfl,s1 _ _ ha,by rw[rs.length];exact hl,q _ _ ?_⟩
     exact E1.Xy hρ e1 (s1 _ _ ha) ((rs.kp (.of s1)).append (aR.cons r1 aR.nil))
    ·cases e
   ·cases e
  |_=>cases e⟩
end
def Its (x:Str):It:=⟨fun i _=>i < x.cps.size,fun i H v H'=>H'=H/\∃ c,x.cps[i]?=some c/\v=.str ⟨#[c]⟩,fun i _=>x.cps.size<=i⟩
def acV (h:Heap) (it:Addr) (x:Str) (i:Nat):Prop:=∃ t,h.IsStrIter it "str_ascii_iterator" x t i\/h.IsStrIter it "str_iterator" x t i
theorem Gj {P:Program} {w:World} {K:FG_} {tg:Expr} (it:Addr) (x:Str):Turn P w K tg (Its x) [it] it (fun i h=>acV h it x i) where
 mem:=by simp
 obj:=fun i h st b hb=>by
  have e:b=it:=by simpa using hb
  subst e
  obtain⟨t,⟨o,e,c,d⟩|⟨o,e,c,d⟩⟩:=st
  ·exact⟨o,e,fun v z=>by rw[d] at z;cases z⟩
  ·exact⟨o,e,fun v z=>by rw[d] at z;cases z⟩
 keep:=fun i h h' st k=>by
  obtain⟨t,⟨o,e,c⟩|⟨o,e,c⟩⟩:=st
  ·exact⟨t,.inl ⟨o,k it (by simp) o e,c⟩⟩
  ·exact⟨t,.inr ⟨o,k it (by simp) o e,c⟩⟩
 item:=by
  intro X hP hw hK hc i pins s σ H E I hf st hg
  subst hP hw hK
  obtain⟨f0,f1,f2,f3,f4,f5⟩:=hf it (by simp)
  have hi:i < x.cps.size:=hg
  have hx:x.cps[i]?=some x.cps[i]:=by simp[hi]
  obtain⟨t,st|st⟩:=st
  ·refine wpAny_pyNext_ascii_item st hx fun h' st' sb=>?_
   have I1:L2.Inv X pins σ H { s with heap:=h',toks:=s.toks+1 }:=I.turned (fun b o hb e=>(sb.2 b hb).trans e) f0 f1 f3 f4 f5
   obtain⟨o,e,c,d⟩:=id st'
   exact⟨_,rfl,Ga (s:={ s with heap:=h',toks:=s.toks+1 }) e c d (by decide) ⟨.str ⟨#[x.cps[i]]⟩,H,I1,⟨_,rfl⟩,⟨rfl,_,hx,rfl⟩,⟨t,.inl st'⟩,fun b hb=>(hf b hb).1⟩⟩
  ·refine wpAny_pyNext_wide_item st hx fun h' st' sb=>?_
   have I1:L2.Inv X pins σ H { s with heap:=h',toks:=s.toks+1 }:=I.turned (fun b o hb e=>(sb.2 b hb).trans e) f0 f1 f3 f4 f5
   obtain⟨o,e,c,d⟩:=id st'
   exact⟨_,rfl,Ga (s:={ s with heap:=h',toks:=s.toks+1 }) e c d (by decide) ⟨.str ⟨#[x.cps[i]]⟩,H,I1,⟨_,rfl⟩,⟨rfl,_,hx,rfl⟩,⟨t,.inr st'⟩,fun b hb=>(hf b hb).1⟩⟩
 done:=by
  intro X hP hw hK hc i pins s σ H E I hf st hg
  subst hP hw hK
  obtain⟨f0,f1,f2,f3,f4,f5⟩:=hf it (by simp)
  have hx:x.cps[i]?=none:=by have:x.cps.size<=i:=hg;simp[this]
  obtain⟨t,st|st⟩:=st
  ·exact wpAny_pyNext_ascii_end (I.ok.hd hc) st hx fun h' eb=>⟨rfl,I.turned (t':=s.toks) (fun b o hb e=>eb b o hb e) f0 f1 f3 f4 f5⟩
  ·exact wpAny_pyNext_wide_end (I.ok.hd hc) st hx fun h' eb=>⟨rfl,I.turned (t':=s.toks) (fun b o hb e=>eb b o hb e) f0 f1 f3 f4 f5⟩
 self:=fun _ _ _ _ _ st h=>by
  obtain⟨t,st|st⟩:=st
  ·exact wpAny_pyIter_striter_ascii st h
  ·exact wpAny_pyIter_striter_wide st h
section
variable {X:Cx} {tg:Expr}
def acW (K:FG_) (tl:TE):TI:=fun σ H R=>tl σ H fun x H1=>(∃ a,x=.ref a/\(∃ xs,pW K H1 a xs)/\R (Itl K a) H1)\/(∃ a,x=.ref a/\(∃ xs,uP K H1 a xs)/\R (Itt K a) H1)\/∃ y,x=.str y/\R (Its y) H1
theorem PL {l:Expr} {tl:TE} (hl:PE X l tl):PI X tg l (acW X.K tl):=by
 intro pins s σ H R I h
 refine iu (hl pins s σ H _ I h) fun v s1 ⟨x,H1,I1,r1,q1⟩=>?_
 have fp1:∀ (o:Obj) (b:Addr),b∈[s1.heap.objs.size]->qP X pins H1 b:=fun o b hb=>by
  have e:b=s1.heap.objs.size:=by simpa using hb
  subst e
  exact I1.Lg (zk _) (I1.hok.fresh (zk _))
 rcases q1 with⟨a,e,⟨xs,hq⟩,q⟩|⟨a,e,⟨xs,hq⟩,q⟩|⟨y,e,q⟩
 ·subst e
  cases r1
  obtain⟨its,rv,p,hz⟩:=I1.list hq
  refine wpAny_pyIter_list p.isList ?_
  exact⟨s1.heap.objs.size,[s1.heap.objs.size],_,_,H1,rfl,I1.kept (t':=s1.toks) fun b o e=>zd _ e,Lh a _,⟨_,zC _ rfl,rfl,rfl⟩,fp1 default,q⟩
 ·subst e
  cases r1
  obtain⟨its,rv,p,hz⟩:=I1.tuple hq
  refine wpAny_pyIter_tuple (show s1.heap.IsTuple a its.toArray from p) ?_
  exact⟨s1.heap.objs.size,[s1.heap.objs.size],_,_,H1,rfl,I1.kept (t':=s1.toks) fun b o e=>zd _ e,Ij a _,⟨_,zC _ rfl,rfl,rfl⟩,fp1 default,q⟩
 ·subst e
  obtain⟨t,rfl⟩:=r1
  cases ha:y.cps.all (· < 128) with
  |true=>
   refine wpAny_pyIter_ascii ha ?_
   exact⟨s1.heap.objs.size,[s1.heap.objs.size],_,_,H1,rfl,I1.kept (t':=s1.toks) fun b o e=>zd _ e,Gj _ y,⟨t,.inl ⟨_,zC _ rfl,rfl,rfl⟩⟩,fp1 default,q⟩
  |false=>
   refine wpAny_pyIter_wide ha ?_
   exact⟨s1.heap.objs.size,[s1.heap.objs.size],_,_,H1,rfl,I1.kept (t':=s1.toks) fun b o e=>zd _ e,Gj _ y,⟨t,.inr ⟨_,zC _ rfl,rfl,rfl⟩⟩,fp1 default,q⟩
end
def Yields (K:FG_) (J:It) (ds:List Dt) (Hs:Hp):Prop:=∀ (i:Nat) (H:Hp),Same Hs H →
 (∀ d,ds[i]?=some d->J.go i H/\∀ x H',J.ZW i H x H'->Same H H'/\Rep K H' d x)/\(ds.length<=i->J.stop i H)
theorem Yields.of {K:FG_} {J:It} {ds:List Dt} {Hs:Hp} (h:∀ (i:Nat) (H:Hp),Same Hs H →
  (∀ d,ds[i]?=some d->J.go i H/\∀ x H',J.ZW i H x H'->H'=H/\Rep K H d x)/\(ds.length<=i->J.stop i H)):Yields K J ds Hs:=fun i H s=>
 ⟨fun d e=>⟨((h i H s).1 d e).1,fun x H' y=>by
  obtain⟨rfl,r⟩:=((h i H s).1 d e).2 x H' y
  exact⟨Same.refl _,r⟩⟩,(h i H s).2⟩
def signs (x:Str):List Dt:=x.cps.toList.map fun c=>.str ⟨#[c]⟩
theorem Yields.list {K:FG_} {Hs:Hp} {a:Addr} {vs:List V} {ds:List Dt} (h:pW K Hs a vs) (r:aR K Hs ds vs):Yields K (Itl K a) ds Hs:=.of fun i H s=>by
 have h':=s.seq h
 have r':=r.kp (.of s)
 refine⟨fun d e=>?_,fun e=>⟨vs,h',by rw[r.length];exact e⟩⟩
 obtain⟨v,ev,rv⟩:=r'.get e
 refine⟨⟨vs,v,h',ev⟩,fun x H' y=>?_⟩
 obtain⟨y1,y2⟩:=y
 have:=y2 vs h'
 rw[ev] at this;cases this
 exact⟨y1,rv⟩
theorem Yields.tup {K:FG_} {Hs:Hp} {a:Addr} {vs:List V} {ds:List Dt} (h:uP K Hs a vs) (r:aR K Hs ds vs):Yields K (Itt K a) ds Hs:=.of fun i H s=>by
 have h':=(Kp.of s).sqT h
 have r':=r.kp (.of s)
 refine⟨fun d e=>?_,fun e=>⟨vs,h',by rw[r.length];exact e⟩⟩
 obtain⟨v,ev,rv⟩:=r'.get e
 refine⟨⟨vs,v,h',ev⟩,fun x H' y=>?_⟩
 obtain⟨y1,y2⟩:=y
 have:=y2 vs h'
 rw[ev] at this;cases this
 exact⟨y1,rv⟩
theorem Yields.str {K:FG_} {Hs:Hp} (x:Str):Yields K (Its x) (signs x) Hs:=.of fun i H s=>by
 refine⟨fun d e=>?_,fun e=>?_⟩
 ·unfold signs at e
  rw[ZT] at e
  cases h:x.cps.toList[i]? with
  |none=>rw[h] at e;cases e
  |some c=>
   rw[h] at e;cases e
   have hc:x.cps[i]?=some c:=by simpa using h
   have hi:i < x.cps.size:=by
    have:=(List.getElem?_eq_some_iff.mp h).1
    simpa using this
   refine⟨hi,fun v H' y=>?_⟩
   obtain⟨y1,c',hc',rfl⟩:=y
   rw[hc] at hc';cases hc'
   refine⟨y1,?_⟩
   unfold Rep
   exact⟨rfl,by show (1:Nat)<=sizeLine;decide⟩
 ·have:(signs x).length=x.cps.size:=by simp[signs]
  show x.cps.size<=i
  omega
def Gk (lo:Int) (n:Nat):List Dt:=(List.range n).map fun k=>.int (lo+(k:Nat))
theorem Yields.rng {K:FG_} {Hs:Hp} (lo:Int) (n:Nat):Yields K (Itr lo n) (Gk lo n) Hs:=.of fun i H s=>by
 refine⟨fun d e=>?_,fun e=>?_⟩
 ·unfold Gk at e
  rw[ZT] at e
  by_cases hi:i < n
  ·rw[List.getElem?_range hi] at e
   cases e
   refine⟨hi,fun v H' y=>?_⟩
   obtain⟨y1,y2⟩:=y
   refine⟨y1,?_⟩
   unfold Rep
   exact y2
  ·rw[List.getElem?_eq_none (by simp;omega)] at e
   cases e
 ·have:(Gk lo n).length=n:=by simp[Gk]
  show n<=i
  omega
def iF (K:FG_) (f:Ev->Option (List Dt)):TI:=fun σ H R=>∃ H0 ρ ds,bw K H0 H σ ρ/\f ρ=some ds/\∀ J H',Same H H' →
 (∀ Hs,Same Hs H'->(∀ a,H a=none->Hs a=H' a)->(∀ a o u,H' a=some (.uR o u)->Hs a=H' a)->(∀ a vs,H' a=some (.tup vs)->Hs a=H' a)->Yields K J ds Hs)->R J H'
def PIF (X:Cx) (tg iter:Expr) (f:Ev->Option (List Dt)):Prop:=PI X tg iter (iF X.K f)
structure QIF (X:Cx) (tg iter:Expr) (f:Ev->Option (List Dt)):Prop where
 run:PIF X tg iter f
def T5:Bx->Option (List Dt)
 |.z (.lst ds)=>some ds
 |.z (.tup ds)=>some ds
 |.z (.str x)=>some (signs x)
 |.o ds=>some ds
 |_=>none
section
variable {X:Cx} {tg e:Expr} {es:List Expr} {f:Ev->Option Bx} {fs:Ev->Option (List Bx)}
mutual
theorem Rep.part {K:FG_} {H Hs:Hp} (hf:∀ a o u,H a=some (.uR o u)->Hs a=H a) (ht:∀ a vs,H a=some (.tup vs)->Hs a=H a):∀ {d:Dt} {v:V},Rep K H d v->Rep K Hs d v
 |.non,_,h=>by simpa only[Rep] using h
 |.bl _,_,h=>by simpa only[Rep] using h
 |.int _,_,h=>by simpa only[Rep] using h
 |.str _,_,h=>by simpa only[Rep] using h
 |.tup ds,_,h=>by
  simp only[Rep] at h ⊢
  obtain⟨a,vs,e,q,r⟩:=h
  refine⟨a,vs,e,?_,aR.part hf ht r⟩
  rcases q with (q|⟨o,q⟩)|q
  ·exact .inl (.inl ((ht _ _ q).trans q))
  ·exact .inl (.inr ⟨o,(hf _ _ _ q).trans q⟩)
  ·exact .inr q
 |.lst ds,_,h=>by
  simp only[Rep] at h ⊢
  obtain⟨a,vs,e,q,r⟩:=h
  refine⟨a,vs,e,?_,aR.part hf ht r⟩
  rcases q with⟨o,q⟩|q
  ·exact .inl ⟨o,(hf _ _ _ q).trans q⟩
  ·exact .inr q
 |.emp,_,h=>by
  simp only[Rep] at h ⊢
  obtain⟨a,o,e,q⟩:=h
  exact⟨a,o,e,(hf _ _ _ q).trans q⟩
theorem aR.part {K:FG_} {H Hs:Hp} (hf:∀ a o u,H a=some (.uR o u)->Hs a=H a) (ht:∀ a vs,H a=some (.tup vs)->Hs a=H a):∀ {ds:List Dt} {vs:List V},aR K H ds vs->aR K Hs ds vs
 |[],_,h=>by simpa only[aR] using h
 |d::ds,_,h=>by
  simp only[aR] at h ⊢
  obtain⟨v,r,e,q,t⟩:=h
  exact⟨v,r,e,Rep.part hf ht q,aR.part hf ht t⟩
end
theorem qb (h:QV X e f):QIF X tg e (fun ρ=>(f ρ).bind T5):=⟨have h:=h.run;fun pins s σ H R I q=>by
 refine PL h pins s σ H R I ?_
 obtain⟨H0,ρ,ds,E,e,q⟩:=q
 obtain⟨b,eb,e⟩:=bind_some e
 refine⟨H0,ρ,b,E,eb,fun v H1 s1 n1 r1=>?_⟩
 cases b with
 |z d=>
  cases d with
  |tup ds'=>
   cases e
   simp only[bh,Rep] at r1
   obtain⟨a,vs,rfl,hq,rs⟩:=r1
   refine .inr (.inl ⟨a,rfl,⟨vs,hq⟩,q _ _ s1 fun Hs hs hn hf ht=>.tup ?_ (rs.part hf ht)⟩)
   rcases hq with (hq|⟨o,hq⟩)|hq
   ·exact .inl (.inl ((ht _ _ hq).trans hq))
   ·exact .inl (.inr ⟨o,(hf _ _ _ hq).trans hq⟩)
   ·exact .inr hq
  |lst ds'=>
   cases e
   simp only[bh,Rep] at r1
   obtain⟨a,vs,rfl,hq,rs⟩:=r1
   refine .inl ⟨a,rfl,⟨vs,hq.sq⟩,q _ _ s1 fun Hs hs hn hf ht=>.list ?_ (rs.part hf ht)⟩
   rcases hq with⟨o,hq⟩|hq
   ·exact .inl (.inr ⟨o,(hf _ _ _ hq).trans hq⟩)
   ·exact .inr hq
  |str x=>
   cases e
   simp only[bh,Rep] at r1
   obtain⟨rfl,_⟩:=r1
   exact .inr (.inr ⟨x,rfl,q _ _ s1 fun Hs hs hn hf ht=>.str x⟩)
  |_=>cases e
 |l ds'=>cases e
 |n ds'=>cases e
 |m ds'=>cases e
 |o ds'=>
  cases e
  obtain⟨a,vs,rfl,hq,rs⟩:=r1
  refine .inl ⟨a,rfl,⟨vs,.inl (.inl hq)⟩,q _ _ s1 fun Hs hs hn hf ht=>.list (.inl (.inl ((hn a (n1 a rfl)).trans hq))) (rs.part hf ht)⟩⟩
def XS:List Bx->Option (List Dt)
 |[.z (.int j)]=>if -(2 ^ 62)<=j/\j < 2 ^ 62 then some (Gk 0 j.toNat) else none
 |_=>none
theorem oZ {p pos:Pos} (hg:Gl X "range") (hm:X.mg "range" = none) (ha:Pb X [e] fs) (hs:starEach [e] X.env=[(false,eval e X.env)]:=by rfl):QIF X tg (.Call (.Name "range" p) [e] [] pos) (fun ρ=>(fs ρ).bind XS):=⟨have ha:=ha.run;fun pins s σ H R I q=>by
 refine Li hg hm ha hs pins s σ H R I ?_
 obtain⟨H0,ρ,ds,E,e,q⟩:=q
 obtain⟨bs,eb,e⟩:=bind_some e
 refine⟨H0,ρ,bs,E,eb,fun vs H1 s1 r1=>?_⟩
 unfold XS at e
 split at e
 ·rename_i j
  split at e
  ·rename_i hj
   cases e
   cases r1 with
   |cons p t=>
    cases t
    simp only[bh,Rep] at p
    subst p
    exact⟨j,rfl,hj.1,hj.2,q _ _ s1 fun Hs _ _ _ _=>.rng 0 _⟩
  ·cases e
 ·cases e⟩
def yq (gt:Dt->Ev->Option Ev) (gb:Ev->Option Out):List Dt->Ev->Option Out
 |[],ρ=>some (.nx ρ)
 |d::ds,ρ=>(gt d ρ).bind fun ρ1=>(gb ρ1).bind fun r=>match r with
  |.nx ρ2=>yq gt gb ds ρ2
  |.ct ρ2=>yq gt gb ds ρ2
  |.bk ρ2=>some (.nx ρ2)
  |.rt b=>some (.rt b)
noncomputable def gJ (H:Hp) (σ:L2.St) (ρ:Ev):Hp:=fun a=>@ite _ (∃ (i:Nat) (c:Bx),ρ[i]?=some (some c)/\uX c=true/\σ[i]?=some (some (.ref a))) (Classical.propDecidable _) none (H a)
theorem qd {H:Hp} {σ:L2.St} {ρ:Ev}:Same (gJ H σ ρ) H:=fun a o e=>by
 unfold gJ at e
 split at e
 ·cases e
 ·exact e
theorem bw.rebase {K:FG_} {H0 Hs H:Hp} {σ:L2.St} {ρ:Ev} (E:bw K Hs H σ ρ) (s:Same H0 Hs):bw K H0 H σ ρ:=⟨E.len,E.val,E.own,s.trans E.base,fun i c a e1 ec e2=>s.free (E.new i c a e1 ec e2)⟩
theorem bw.sans {K:FG_} {H0 H:Hp} {σ:L2.St} {ρ:Ev} (E:bw K H0 H σ ρ):bw K (gJ H σ ρ) H σ ρ:=⟨E.len,E.val,E.own,qd,fun i c a e1 ec e2=>by
 unfold gJ
 rw[zi ⟨i,c,e1,ec,e2⟩]⟩
theorem bw.sub {K:FG_} {H0 H:Hp} {σ:L2.St} {ρ:Ev} (E:bw K H0 H σ ρ):Same H0 (gJ H σ ρ):=fun a o e=>by
 unfold gJ
 split
 ·rename_i h
  obtain⟨i,c,e1,ec,e2⟩:=h
  rw[E.new i c a e1 ec e2] at e;cases e
 ·exact E.base a o e
theorem jT {K:FG_} {H0 H:Hp} {σ:L2.St} {ρ:Ev} (E:bw K H0 H σ ρ) {a:Addr} (h:∀ vs,H a≠some (.lst vs)) (h2:∀ vs,H a≠some (.dK vs)):gJ H σ ρ a=H a:=by
 unfold gJ
 split
 ·rename_i hh
  obtain⟨i,c,e1,ec,e2⟩:=hh
  obtain⟨v,e3,rc⟩:=E.val i _ e1
  rw[e2] at e3;cases e3
  cases c with
  |o ds=>obtain⟨a',vs,e4,q,_⟩:=rc;cases e4;exact absurd q (h vs)
  |m ds _=>obtain⟨a',vs,e4,q,_⟩:=rc;cases e4;exact absurd q (h2 vs)
  |_=>cases ec
 ·rfl
theorem Py.rebase {K:FG_} {H0 Hs:Hp} {D:Ends} {r:Out} (s:Same H0 Hs) (h:Py K H0 D r):Py K Hs D r:=by
 cases r with
 |nx ρ=>exact fun σ H E=>h σ H (E.rebase s)
 |bk ρ=>exact fun σ H E=>h σ H (E.rebase s)
 |ct ρ=>exact fun σ H E=>h σ H (E.rebase s)
 |rt b=>exact fun v H s' n r=>h v H (s.trans s') (n.old s) r
theorem PN {gt:Dt->Ev->Option Ev} {gb:Ev->Option Out} {J:It} {ds:List Dt} {H0 H1:Hp} {σ:L2.St} {ρ:Ev} {D:Ends} {r:Out} (E1:bw X.K H0 H1 σ ρ) (Y:Yields X.K J ds (gJ H1 σ ρ)) (e:yq gt gb ds ρ=some r) (q:Py X.K H0 D r) :
  ∃ W:Nat->Nat->L2.St->Hp->Prop,(∃ m,W 0 m σ H1)/\∀ i m σ H,W i m σ H →
   (J.stop i H/\D.nx σ H)\/(J.go i H/\∃ N:L2.St->Hp->Prop,(∀ σ' H',N σ' H'->∃ m',m' < m/\W (i+1) m' σ' H')/\∀ x H',J.ZW i H x H'->tgF X.K gt x σ H' fun σ2 H2=>tG X.K gb { D with nx:=N,ct:=N,bk:=D.nx } σ2 H2):=by
 have E2:=E1.sans
 have q2:=q.rebase E1.sub
 generalize gJ H1 σ ρ=Hs at Y E2 q2
 refine⟨fun i m σ' H'=>m=ds.length - i/\i<=ds.length/\∃ ρ',bw X.K Hs H' σ' ρ'/\yq gt gb (ds.drop i) ρ'=some r,⟨ds.length,by simp,Qr _,ρ,E2,by simpa using e⟩,?_⟩
 rintro i m σ' H' ⟨rfl,hi',ρ',E',e'⟩
 obtain⟨y1,y2⟩:=Y i H' E'.base
 by_cases hlt:i < ds.length
 ·right
  have hd:ds[i]?=some ds[i]:=by simp[hlt]
  obtain⟨go,yl⟩:=y1 _ hd
  rw[kA hlt] at e'
  simp only[yq] at e'
  obtain⟨ρ1,e1,e'⟩:=bind_some e'
  obtain⟨r1,e2,e'⟩:=bind_some e'
  refine⟨go,fun σ2 H2=>∃ ρ2,bw X.K Hs H2 σ2 ρ2/\yq gt gb (ds.drop (i+1)) ρ2=some r,fun σ2 H2 ⟨ρ2,E3,e3⟩=>⟨ds.length - (i+1),by omega,rfl,hlt,ρ2,E3,e3⟩,fun x H2 yy=>?_⟩
  obtain⟨sm,rx⟩:=yl x H2 yy
  refine⟨Hs,ρ',ds[i],ρ1,E'.grow sm,rx,e1,fun σ1 E3 _=>⟨Hs,ρ1,r1,E3,e2,?_⟩⟩
  cases r1 with
  |nx ρ2=>exact fun σ2 H3 E4=>⟨ρ2,E4,e'⟩
  |ct ρ2=>exact fun σ2 H3 E4=>⟨ρ2,E4,e'⟩
  |bk ρ2=>cases e';exact q2
  |rt b=>cases e';exact q2
 ·left
  have hge:ds.length<=i:=by omega
  refine⟨y2 hge,?_⟩
  rw[List.drop_eq_nil_of_le hge] at e'
  cases e'
  exact q2 σ' H' E'
theorem oF {iter:Expr} {body:List Stmt} {fi:Ev->Option (List Dt)} {gt:Dt->Ev->Option Ev} {gb:Ev->Option Out} {pos:Pos} (hp:PassesOwn (model X.prog X.w) X.A X.env X.xe) (hc:X.calm=true) (hi:QIF X tg iter fi) (hg:XQ X tg gt) (hb:PJ X body gb) (hs:∀ x,foldedSetIterable iter X.env x=pure x:=by intro _;rfl):Pz X (.For tg iter body [] pos) (fun ρ=>(fi ρ).bind fun ds=>yq gt gb ds ρ):=⟨have hi:=hi.run;have hg:=hg.run;have hb:=hb.run;Sh (Ow hp hc hi hg hb hs) fun D σ H h=>by
 obtain⟨H0,ρ,r,E,e,q⟩:=h
 obtain⟨ds,ed,e⟩:=bind_some e
 refine⟨H0,ρ,ds,E,ed,fun J H1 s1 y=>?_⟩
 have E1:=E.grow s1
 refine PN E1 ?_ e q
 refine y _ qd (fun a ha=>?_) (fun a o u ha=>jT E1 (fun vs z=>by rw[ha] at z;cases z) (fun vs z=>by rw[ha] at z;cases z)) fun a vs ha=>jT E1 (fun vs z=>by rw[ha] at z;cases z) (fun vs z=>by rw[ha] at z;cases z)
 unfold gJ
 split
 ·rename_i hh
  obtain⟨i,c,e1,ec,e2⟩:=hh
  obtain⟨v,e3,rc⟩:=E.val i _ e1
  rw[e2] at e3;cases e3
  cases c with
  |o ds=>obtain⟨a',vs,e4,q,_⟩:=rc;cases e4;rw[ha] at q;cases q
  |m ds _=>obtain⟨a',vs,e4,q,_⟩:=rc;cases e4;rw[ha] at q;cases q
  |_=>cases ec
 ·rfl⟩
theorem bw.lend {K:FG_} {H0 H:Hp} {σ:L2.St} {ρ:Ev} {i:Nat} {ds:List Dt} (E:bw K H0 H σ ρ) (h:ρ[i]?=some (some (.o ds))):bw K H0 H σ (ρ.set i (some (.l ds))):=by
 have back:∀ (j:Nat) (b:Bx),(ρ.set i (some (.l ds)))[j]?=some (some b)->(j=i/\b=.l ds)\/(j≠i/\ρ[j]?=some (some b)):=fun j b e=>by
  rcases getset e with⟨rfl,e',_⟩|⟨hne,e'⟩
  ·cases e';exact .inl ⟨rfl,rfl⟩
  ·exact .inr ⟨hne,e'⟩
 refine⟨by rw[qv];exact E.len,fun j b e=>?_,fun j k c a b e1 ec e2 e3 e4 e5=>?_,E.base,fun j c a e1 ec e2=>?_⟩
 ·rcases back j b e with⟨rfl,rfl⟩|⟨hne,e'⟩
  ·obtain⟨v,e1,a,vs,e2,q,r⟩:=E.val _ _ h
   exact⟨v,e1,a,vs,e2,.inl q,r⟩
  ·exact E.val j b e'
 ·rcases back j _ e1 with⟨rfl,z⟩|⟨hne,e'⟩
  ·subst z;cases ec
  ·rcases back k _ e3 with⟨rfl,z⟩|⟨TX,e3'⟩
   ·exact E.own j _ c a _ e' ec e2 h rfl e5
   ·exact E.own j k c a b e' ec e2 e3' e4 e5
 ·rcases back j _ e1 with⟨rfl,z⟩|⟨hne,e'⟩
  ·subst z;cases ec
  ·exact E.new j c a e' ec e2
end
def SubL (cells:List (Str×Addr)):List (Str×Addr)->Prop
 |[]=>True
 |(n,c)::r=>cells.lookup n=some c/\SubL cells r
theorem SubL.get {cells:List (Str×Addr)}:∀ {cl:List (Str×Addr)},SubL cells cl->∀ {x:Str} {c:Addr},cl.lookup x=some c->cells.lookup x=some c
 |[],_,_,_,e=>by cases e
 |(n,d)::r,h,x,c,e=>by
  rw[List.lookup_cons] at e
  by_cases hx:x==n
  ·simp only[hx] at e
   cases e
   have:x=n:=by simpa using hx
   rw[this];exact h.1
  ·have hx:(x==n)=false:=by simpa using hx
   simp only[hx] at e
   exact SubL.get h.2 e
structure Cap (X:Cx) (scope:Scope) (cl:List (Str×Addr)) (x:Str) (i:Nat):Prop where
 n:X.N[i]?=some x
 k:X.env.kindOf x=some .cell\/X.env.kindOf x=some .free
 k':(relabel scope X.env).names.lookup x=some .cell\/(relabel scope X.env).names.lookup x=some .free
 c:∃ c,cl.lookup x=some c
def BL (X:Cx) (scope:Scope) (cl:List (Str×Addr)):LS_->List Nat->Prop
 |[],[]=>True
 |x::xs,i::is=>Cap X scope cl x i/\BL X scope cl xs is
 |_,_=>False
theorem BL.get {X:Cx} {scope:Scope} {cl:List (Str×Addr)}:∀ {xs:LS_} {is:List Nat},BL X scope cl xs is->xs.length=is.length/\∀ (j:Nat) (x:Str),xs[j]?=some x->∃ i,is[j]?=some i/\Cap X scope cl x i
 |[],[],_=>⟨rfl,fun j x e=>by simp at e⟩
 |x::xs,i::is,h=>by
  obtain⟨h1,h2⟩:=h
  obtain⟨l,g⟩:=BL.get h2
  refine⟨by simp[l],fun j y e=>?_⟩
  cases j with
  |zero=>simp at e;subst e;exact⟨i,rfl,h1⟩
  |succ j=>obtain⟨k,e1,e2⟩:=g j y (by simpa using e);exact⟨k,by simpa using e1,e2⟩
 |[],_::_,h=>h.elim
 |_::_,[],h=>h.elim
def X3 (names:List (Str×NameKind)) (x:Str):Bool:=match names.lookup x with
 |some .cell=>true
 |_=>false
def FP (X:Cx) (N':LS_) (scope:Scope) (cl:List (Str×Addr)) (C:Addr) (s₀:Shared) (H₀:Hp) (fp:List Addr):Cx:=
 { X with N:=N',s₀:=s₀,H₀:=H₀,env:=compEnvC scope (cellsFrom (C+1) scope.names cl) C X.env,outer:=X.stack,ex:=fp,fn:=X3 scope.names,pn:=[],xe:=fun _ _=>False }
structure X4 (h:Heap) (cs:List (Str×Addr)):Prop where
 inj:∀ x y c,cs.lookup x=some c->cs.lookup y=some c->x=y
 cell:∀ x c,cs.lookup x=some c->∃ v,h.IsCell c v
theorem jK {α:Type} {x n:Str} {a:α} {l:List (Str×α)} (h:x≠n):((n,a)::l).lookup x=l.lookup x:=by
 rw[List.lookup_cons,beq_eq_false_iff_ne.mpr h]
theorem PX:∀ (names:List (Str×NameKind)) (h:Heap) (acc:List (Str×Addr)),X4 h acc->X4 (pushCells h names) (cellsFrom h.objs.size names acc)
 |[],_,_,x=>x
 |(n,k)::r,h,acc,x=>by
  unfold pushCells cellsFrom
  split
  ·have hlt:∀ y c,acc.lookup y=some c->c≠h.objs.size:=fun y c e=>let ⟨_,q⟩:=x.cell y c e;ZE q.lt
   have:=PX r (h.push { cls:=.type "cell", data:=.cell none }) ((n,h.objs.size)::acc) ⟨fun y z c e1 e2=>?_,fun y c e=>?_⟩
   ·rwa [js] at this
   ·by_cases hy:y=n<;>by_cases hz:z=n
    ·rw[hy,hz]
    ·subst hy;rw[jb] at e1;rw[jK hz] at e2;cases e1;exact absurd rfl (hlt _ _ e2)
    ·subst hz;rw[jb] at e2;rw[jK hy] at e1;cases e2;exact absurd rfl (hlt _ _ e1)
    ·rw[jK hy] at e1;rw[jK hz] at e2;exact x.inj y z c e1 e2
   ·by_cases hy:y=n
    ·subst hy;rw[jb] at e;cases e;exact⟨none,_,zC _ rfl,rfl⟩
    ·rw[jK hy] at e
     obtain⟨v,q⟩:=x.cell y c e
     exact⟨v,q.keeps fun b o e=>zd _ e⟩
  ·exact PX r h acc x
theorem u5:∀ (names:List (Str×NameKind)) (n:Nat) (acc:List (Str×Addr)) (x:Str) (c:Addr),(cellsFrom n names acc).lookup x=some c->acc.lookup x=some c\/n<=c
 |[],_,_,_,_,e=>.inl e
 |(m,k)::r,n,acc,x,c,e=>by
  unfold cellsFrom at e
  split at e
  ·rcases u5 r _ _ x c e with h|h
   ·by_cases hx:x=m
    ·subst hx;rw[jb] at h;cases h;exact .inr (zk _)
    ·rw[jK hx] at h;exact .inl h
   ·exact .inr (by omega)
  ·exact u5 r _ _ x c e
theorem Eh:∀ (names:List (Str×NameKind)) (n:Nat) (acc:List (Str×Addr)) (x:Str),(x,NameKind.cell)∉names->(cellsFrom n names acc).lookup x=acc.lookup x
 |[],_,_,_,_=>rfl
 |(m,k)::r,n,acc,x,h=>by
  unfold cellsFrom
  have hr:(x,NameKind.cell)∉r:=fun z=>h (Zs _ z)
  split
  ·rename_i hk
   rw[Eh r _ _ x hr,jK fun z=>h (by rw[z,<-beq_iff_eq.mp hk];exact ZA ..)]
  ·exact Eh r _ _ x hr
theorem Jd:∀ (names:List (Str×NameKind)) (n:Nat) (acc:List (Str×Addr)) (x:Str),((x,NameKind.cell)∈names\/∃ c,acc.lookup x=some c)->∃ c,(cellsFrom n names acc).lookup x=some c
 |[],_,_,_,h=>h.elim (fun z=>by simp at z) fun z=>z
 |(m,k)::r,n,acc,x,h=>by
  unfold cellsFrom
  split
  ·refine Jd r _ _ x ?_
   by_cases hx:x=m
   ·exact .inr ⟨n,by rw[hx,jb]⟩
   ·rw[jK hx]
    exact h.imp_left fun z=>(List.mem_cons.mp z).elim (fun z=>absurd (congrArg Prod.fst z) hx) fun z=>z
  ·rename_i hk
   exact Jd r _ _ x (h.imp_left fun z=>(List.mem_cons.mp z).elim (fun z=>by cases z;exact absurd rfl hk) fun z=>z)
theorem Mj {M:Model} {A:Around} {E:VP_} {s:Shared} {scope:Scope} {g:Addr} {cl:List (Str×Addr)} {qual:Str} {env:Env} {Q:Env->Shared->Prop}
  (h:Q (newEnv scope s.heap.objs.size g (cellsFrom (s.heap.objs.size+1) scope.names cl) qual none .none (some env) builtinsNs) { s with heap:=pushCells (s.heap.push { cls:=.type "dict", data:=.dict #[] }) scope.names }) :
  wpAny M A (newFunctionEnv scope g cl [] qual none .none (some env)) Q E s:=by
 simp only[newFunctionEnv,Option.isSome_some,QO]
 refine zb (wpAny_alloc ?_)
 refine zb (wpAny_layCells _ (fun name kind cells=>by cases kind==NameKind.cell<;>simp) _ _ _ _ ?_)
 rw[show ({ s with heap:=s.heap.push { cls:=.type "dict", data:=.dict #[] } }:Shared).heap.objs.size=s.heap.objs.size+1 from js ..]
 rw[List.forIn_nil]
 exact zb (ze (ze h))
structure rB (X:Cx) (scope:Scope) (cl:List (Str×Addr)) (xs:LS_) (is:List Nat):Prop where
 clos:closureFor scope X.env=pure cl
 kind:scope.kind=.function
 cell:∀ y∈scope.names,y.2=.cell->cl.lookup y.1=none
 names:∀ y∈scope.names,y.2=.local->scope.names.lookup y.1=some .local
 sub:SubL X.env.cells cl
 has:∀ x,((relabel scope X.env).names.lookup x=some .cell\/(relabel scope X.env).names.lookup x=some .free)->(x,NameKind.cell)∈scope.names\/∃ c,cl.lookup x=some c
 cap:BL X scope cl xs is
def wO (is:List Nat) (σ:L2.St):L2.St:=is.map fun i=>(σ[i]?).bind fun v=>v
def lU (is:List Nat) (ρ:Ev):Ev:=is.map fun i=>yp ρ i
def T6 (n m:Nat) (g:Dt->Ev->Option Ev):Prop:=∀ d ρ ρ',g d ρ=some ρ'->ρ'.length=ρ.length/\∀ j,j < n\/m<=j->ρ'[j]?=ρ[j]?
def T7 (n m:Nat) (g:List Dt->Ev->Option Ev):Prop:=∀ d ρ ρ',g d ρ=some ρ'->ρ'.length=ρ.length/\∀ j,j < n\/m<=j->ρ'[j]?=ρ[j]?
theorem cP {n i m:Nat} (h:n<=i:=by decide) (h':i < m:=by decide):T6 n m (fun d ρ=>some (ρ.set i (some (.z d)))):=fun d ρ ρ' e=>by
 cases e
 exact⟨by rw[qv],fun j hj=>u0 _ (by omega)⟩
theorem Ei {n m:Nat}:T7 n m rA:=fun d ρ ρ' e=>by
 cases d with
 |nil=>cases e;exact⟨rfl,fun _ _=>rfl⟩
 |cons=>cases e
theorem o7 {n m:Nat} {g:Dt->Ev->Option Ev} {gs:List Dt->Ev->Option Ev} (h:T6 n m g) (hs:T7 n m gs):T7 n m (eN g gs):=fun d ρ ρ' e=>by
 cases d with
 |nil=>cases e
 |cons d ds=>
  simp only[eN] at e
  obtain⟨ρ1,e1,e⟩:=bind_some e
  obtain⟨a,b⟩:=h _ _ _ e1
  obtain⟨a',b'⟩:=hs _ _ _ e
  exact⟨a'.trans a,fun j hj=>(b' j hj).trans (b j hj)⟩
theorem Je {n m k:Nat} {gs:List Dt->Ev->Option Ev} (hs:T7 n m gs):T6 n m (oY k gs):=fun d ρ ρ' e=>by
 cases d with
 |tup ds=>
  simp only[oY] at e
  split at e
  ·exact hs _ _ _ e
  ·cases e
 |_=>cases e
def ug (gt:Dt->Ev->Option Ev) (p:Ev->Option Bool) (fs:Ev->Option (List Dt)) (ρ:Ev):List Dt->Option (List Dt)
 |[]=>some []
 |d::ds=>(gt d ρ).bind fun ρ1=>(p ρ1).bind fun k=>if k=true then (fs ρ1).bind fun ys=>(ug gt p fs ρ ds).bind fun zs=>some (ys++zs) else ug gt p fs ρ ds
def X5:Bx->Option (List Dt)
 |.z y=>some [y]
 |_=>none
def uo (gt:Dt->Ev->Option Ev) (p:Ev->Option Bool) (fe:Ev->Option Bx) (ρ:Ev):List Dt->Option (List Dt):=ug gt p (fun ρ=>(fe ρ).bind X5) ρ
theorem wQ {b:Bx} {ys:List Dt} (h:X5 b=some ys):∃ y,b=.z y/\ys=[y]:=by
 cases b<;>cases h
 exact⟨_,rfl,rfl⟩
theorem tU {gt:Dt->Ev->Option Ev} {p:Ev->Option Bool} {fe:Ev->Option Bx} {ρ:Ev}:∀ {ds out:List Dt},uo gt p fe ρ ds=some out->out.length<=ds.length
 |[],_,e=>by cases e;exact zk _
 |d::ds,out,e=>by
  simp only[uo,ug] at e
  obtain⟨ρ1,_,e⟩:=bind_some e
  obtain⟨k,_,e⟩:=bind_some e
  cases k with
  |false=>
   rw[zw zr] at e
   exact zh (tU (gt:=gt) (p:=p) (fe:=fe) e) (by simp)
  |true=>
   rw[zi rfl] at e
   obtain⟨ys,ey,e⟩:=bind_some e
   obtain⟨zs,ez,e⟩:=bind_some e
   obtain⟨b,_,ey⟩:=bind_some ey
   obtain⟨y,_,rfl⟩:=wQ ey
   cases e
   simpa using tU (gt:=gt) (p:=p) (fe:=fe) ez
def Tests (X:Cx) (ifs:List Expr) (p:Ev->Option Bool):Prop:=(ifs=[]/\p=fun _=>some true)\/∃ c,ifs=[c]/\PB X c p
structure Ej (X:Cx) (ifs:List Expr) (p:Ev->Option Bool):Prop where
 run:Tests X ifs p
section
variable {X:Cx} {elt tgt iter:Expr} {ifs:List Expr} {scope:Scope} {cl:List (Str×Addr)} {pos:Pos} {xs ts:LS_} {is:List Nat} {gt:Dt->Ev->Option Ev} {p:Ev->Option Bool} {fe:Ev->Option Bx} {fi:Ev->Option (List Dt)}
theorem Qa {pins:List (Addr×Obj)} {σ:L2.St} {H3:Hp} {s3:Shared} {fp:List Addr} (I3:L2.Inv X pins σ H3 s3) (O:rB X scope cl xs is)
  (hf:∀ b∈fp,qP X pins H3 b) (hfl:∀ b∈fp,b < s3.heap.objs.size) :
  L2.Inv (FP X (xs++ts) scope cl s3.heap.objs.size s3 H3 fp) [] (wO is σ++List.replicate ts.length none) H3 { s3 with heap:=pushCells (s3.heap.push { cls:=.type "dict", data:=.dict #[] }) scope.names }:=by
 obtain⟨hl,hc⟩:=O.cap.get
 have hsub:=O.sub
 have hsz:(s3.heap.push { cls:=.type "dict", data:=.dict #[] }).objs.size=s3.heap.objs.size+1:=js ..
 have hk:∀ b o,s3.heap.get? b=some o->(pushCells (s3.heap.push { cls:=.type "dict", data:=.dict #[] }) scope.names).get? b=some o:=fun b o e=>pushCells_keeps _ _ b o (zd _ e)
 have cf:X4 (pushCells (s3.heap.push { cls:=.type "dict", data:=.dict #[] }) scope.names) (cellsFrom (s3.heap.objs.size+1) scope.names cl):=by
  rw[<-hsz]
  refine PX _ _ _ ⟨fun x y c e1 e2=>I3.ok.inj x y c (hsub.get e1) (hsub.get e2),fun x c e=>?_⟩
  obtain⟨v,q⟩:=I3.cell x c (hsub.get e)
  exact⟨v,q.keeps fun b o e=>zd _ e⟩
 have from':∀ x c,(cellsFrom (s3.heap.objs.size+1) scope.names cl).lookup x=some c->X.env.cells.lookup x=some c\/s3.heap.objs.size < c:=fun x c e=>(u5 _ _ _ x c e).imp_left hsub.get
 refine⟨⟨I3.ok.mod,O.kind,I3.ok.glob,I3.ok.blt,zk _,cf.inj,fun x hx=>Jd _ _ _ x (O.has x hx),fun x c hx e=>?_,I3.ok.hd,I3.ok.frames,.inl rfl,fun b hb=>⟨ZE (hfl b hb),fun x c e=>?_⟩,I3.bs,zh I3.ok.N8 I3.sz,fun b o e hb=>?_,fun b hb hb'=>?_,I3.stack,I3.yH⟩,
  rfl,I3.bare,Un.kept hk,⟨_,(Heap.Ns.new s3.heap (.type "dict")).keeps (pushCells_keeps _ _),fun j x v e1 e2 _=>?_⟩,cf.cell,I3.hok.fresh (zk _),fun x c e=>(from' x c e).elim (I3.jP x c) fun h=>I3.hok.fresh (Q4 h),fun q hq=>absurd (show q∈([]:List (Addr×Obj)) from hq) (by simp),I3.hok.kept hk,?_⟩
 ·refine (u5 _ _ _ x c e).elim (fun h=>?_) fun h=>Q4 h
  have hx:(x,NameKind.cell)∈scope.names:=by
   have hx:X3 scope.names x=true:=hx
   unfold X3 at hx
   split at hx
   ·rename_i q;exact mem_of_lookup q
   ·cases hx
  rw[O.cell _ hx rfl] at h;cases h
 ·rcases from' x c e with h|h
  ·exact (hf b hb).2.2.2.2.1 x c h
  ·exact Q3 (Nat.lt_trans (hfl b hb) h)
 ·obtain⟨_,_,_,z,_⟩:=hf b hb
  rcases z with z|z
  ·exact I3.ok.Le b o e z
  ·exact absurd (Zl (zt e) (zh I3.ok.N8 z)) (j0 _)
 ·obtain⟨_,n1,n2,_⟩:=hf b hb
  rcases List.mem_cons.mp (I3.yS b hb') with z|z
  ·exact n1 z
  ·exact n2 z
 ·have hj:j < is.length:=by
   by_cases hj:j < is.length
   ·exact hj
   ·rw[qh (by simp[wO];omega)] at e2
    rw[qr] at e2
    split at e2<;>cases e2
  have e1':xs[j]?=some x:=by
   have e1:(xs++ts)[j]?=some x:=e1
   rw[ZY (by omega)] at e1;exact e1
  obtain⟨i,ei,hcp⟩:=hc j x e1'
  have e3:σ[i]?=some (some v):=by
   rw[ZY (by simp[wO];omega)] at e2
   unfold wO at e2
   rw[ZT,ei] at e2
   cases q:σ[i]? with
   |none=>rw[Option.map_some,q] at e2;cases e2
   |some o=>
    rw[Option.map_some,q] at e2
    have:o=some v:=by simpa using e2
    rw[this]
  have vis:Oe X.env.scope x:=by
   rcases hcp.k with k|k
   ·exact .inr (.inl k)
   ·exact .inr (.inr k)
  obtain⟨m',hn',hlk⟩:=I3.loc
  obtain⟨u,r,l⟩:=hlk i x v hcp.n e3 vis
  refine⟨u,r,?_⟩
  rcases l with⟨k,_⟩|⟨k,c,ec,ic⟩
  ·rcases hcp.k with k'|k'<;>(rw[k] at k';cases k')
  ·obtain⟨c',ec'⟩:=hcp.c
   have:=hsub.get ec'
   rw[ec] at this;cases this
   refine .inr ⟨hcp.k',c,(Eh _ _ _ x fun z=>by rw[O.cell _ z rfl] at ec';cases ec').trans ec',?_⟩
   obtain⟨o,ho,hd⟩:=ic
   exact⟨o,hk c o ho,hd⟩
 ·show (wO is σ++List.replicate ts.length none).length=(xs++ts).length
  simp[wO,hl]
theorem bw.caps {K:FG_} {H0 H:Hp} {σ:L2.St} {ρ:Ev} (E:bw K H0 H σ ρ) (is:List Nat) (n:Nat):bw K H H (wO is σ++List.replicate n none) (lU is ρ++List.replicate n none):=by
 have noO:∀ (j:Nat) c,(lU is ρ++List.replicate n none)[j]?=some (some c)->uX c=false:=fun j c e=>by
  by_cases hj:j < is.length
  ·rw[ZY (by simp[lU];omega)] at e
   unfold lU at e
   rw[ZT] at e
   cases q:is[j]? with
   |none=>rw[q] at e;cases e
   |some i=>
    rw[q] at e
    have:yp ρ i=some c:=by simpa using e
    exact yL this
  ·rw[qh (by simp[lU];omega),qr] at e
   split at e<;>cases e
 refine⟨by simp[wO,lU],fun j b e=>?_,fun j k c a b e ec=>absurd ec (by rw[noO j c e];exact zr),Same.refl H,fun j c a e ec=>absurd ec (by rw[noO j c e];exact zr)⟩
 by_cases hj:j < is.length
 ·rw[ZY (by simp[lU];omega)] at e
  rw[ZY (by simp[wO];omega)]
  unfold lU at e
  unfold wO
  rw[ZT] at e ⊢
  cases q:is[j]? with
  |none=>rw[q] at e;cases e
  |some i=>
   rw[q] at e
   have:yp ρ i=some b:=by simpa using e
   obtain⟨v,e1,r⟩:=Gh E this
   exact⟨v,by simp[e1],r⟩
 ·rw[qh (by simp[lU];omega),qr] at e
  split at e<;>cases e
theorem bw.forget {K:FG_} {H0 H:Hp} {σ:L2.St} {ρ ρ':Ev} (E:bw K H0 H σ ρ') (hl:ρ'.length=ρ.length) (h:∀ (j:Nat) b,ρ[j]?=some (some b)->ρ'[j]?=some (some b)):bw K H0 H σ ρ:=
 ⟨E.len.trans hl,fun j b e=>E.val j b (h j b e),fun i j c a b e1 ec e2 e3 e4 e5=>E.own i j c a b (h _ _ e1) ec e2 (h _ _ e3) e4 e5,E.base,fun i c a e1 ec e2=>E.new i c a (h _ _ e1) ec e2⟩
structure Wa (Hb:Hp) (σ:L2.St) (ρ:Ev) (n:Nat):Prop where
 own:∀ (j:Nat) c,ρ[j]?=some (some c)->uX c=false
 lt:∀ (j:Nat) b,ρ[j]?=some (some b)->j < n
 old:∀ (j:Nat) c a,ρ[j]?=some (some c)->loose c=true->σ[j]?=some (some (.ref a))->Hb a≠none
def Fx (σ σ':L2.St) (ρ:Ev):Prop:=∀ (j:Nat) c,loose c=true->ρ[j]?=some (some c)->σ'[j]?=σ[j]?
theorem Wa.fx {Hb:Hp} {σ σ':L2.St} {ρ:Ev} {n:Nat} (P:Wa Hb σ ρ n) (f:Fx σ σ' ρ):Wa Hb σ' ρ n:=⟨P.own,P.lt,fun j c a e hl ea=>P.old j c a e hl (by rw[<-f j c hl e];exact ea)⟩
theorem known {K:FG_} {H0 H:Hp} {σ:L2.St} {ρ:Ev} (E:bw K H0 H σ ρ) (j:Nat) (c:Bx) (a:Addr) (e:ρ[j]?=some (some c)) (hl:loose c=true) (ea:σ[j]?=some (some (.ref a))):H a≠none:=fun z=>by
 obtain⟨v,e1,rc⟩:=E.val j _ e
 rw[ea] at e1;cases e1
 cases c with
 |z d=>cases hl
 |l dz=>
  obtain⟨a',vs,e2,q,_⟩:=rc
  cases e2
  rcases q with q|⟨o,q⟩<;>(rw[z] at q;cases q)
 |n dz=>
  obtain⟨a',vs,e2,q,_⟩:=rc
  cases e2
  rcases q with q|⟨o,q⟩<;>(rw[z] at q;cases q)
 |o dz=>
  obtain⟨a',vs,e2,q,_⟩:=rc
  cases e2
  rw[z] at q;cases q
 |m dz _=>
  obtain⟨a',vs,e2,q,_⟩:=rc
  cases e2
  rw[z] at q;cases q
theorem bw.grown {K:FG_} {Hb H:Hp} {σ:L2.St} {ρ:Ev} {n:Nat} {D:Addr} {o:HO} (E:bw K Hb H σ ρ) (P:Wa Hb σ ρ n) (hD:Hb D=none) (kp:Kp H (upd H D o)):bw K Hb (upd H D o) σ ρ:=by
 refine⟨E.len,fun j b e=>?_,fun j k c a b e ec=>absurd ec (by rw[P.own j c e];exact zr),fun c o e=>?_,fun j c a e ec=>absurd ec (by rw[P.own j c e];exact zr)⟩
 ·obtain⟨v,ev,rb⟩:=E.val j b e
  refine⟨v,ev,?_⟩
  cases b with
  |z d=>exact Rep.kp kp rb
  |o dz=>have:=P.own j _ e;cases this
  |m dz _=>have:=P.own j _ e;cases this
  |n dz=>
   obtain⟨a,vs,rfl,q,rr⟩:=rb
   refine⟨a,vs,rfl,?_,rr.kp kp⟩
   have ha:a≠D:=fun z=>P.old j _ _ e rfl ev (by rw[z];exact hD)
   exact q.imp (fun q=>by rw[aJ ha];exact q) fun ⟨o,q⟩=>⟨o,by rw[aJ ha];exact q⟩
  |l dz=>
   obtain⟨a,vs,rfl,q,rr⟩:=rb
   refine⟨a,vs,rfl,?_,rr.kp kp⟩
   have ha:a≠D:=fun z=>P.old j _ _ e rfl ev (by rw[z];exact hD)
   exact q.imp (fun q=>by rw[aJ ha];exact q) fun ⟨o,q⟩=>⟨o,by rw[aJ ha];exact q⟩
 ·rw[aJ (aW e hD)];exact E.base c o e
def Qc (X:Cx) (el:Addr->Env->Sem Unit) (fs:Ev->Option (List Dt)) (Ac:Addr->Hp->List Dt->HO->Prop) (N n:Nat):Prop:=∀ (pins:List (Addr×Obj)) (s:Shared) (σ:L2.St) (H Hb:Hp) (ρ:Ev) (D:Addr) (o:HO) (o1 ys:List Dt),L2.Inv X pins σ H s->bw X.K Hb H σ ρ->Wa Hb σ ρ n->Hb D=none->fs ρ=some ys->H D=some o->Ac D H o1 o->o1.length+ys.length<=N →
 wpAny (model X.prog X.w) X.A (el D X.env) (fun _ s'=>∃ σ' H' o',L2.Inv X pins σ' H' s'/\bw X.K Hb H' σ' ρ/\Fx σ σ' ρ/\H' D=some o'/\Ac D H' (o1++ys) o') X.xe s
theorem Qd {el:Addr->Env->Sem Unit} {fs:Ev->Option (List Dt)} {Ac:Addr->Hp->List Dt->HO->Prop} {N n:Nat} (h:∀ (pins:List (Addr×Obj)) (s:Shared) (σ:L2.St) (H Hb:Hp) (ρ:Ev) (D:Addr) (o:HO) (o1 ys:List Dt),L2.Inv X pins σ H s->bw X.K Hb H σ ρ->fs ρ=some ys->H D=some o->Ac D H o1 o->o1.length+ys.length<=N →
  wpAny (model X.prog X.w) X.A (el D X.env) (fun _ s'=>∃ H9 o',L2.Inv X pins σ (upd H9 D o') s'/\Same H H9/\Kp H9 (upd H9 D o')/\Ac D (upd H9 D o') (o1++ys) o') X.xe s):Qc X el fs Ac N n:=fun pins s σ H Hb ρ D o o1 ys I E P hD e1 e2 a1 l=>by
 refine ZH (h pins s σ H Hb ρ D o o1 ys I E e1 e2 a1 l) (fun _ s' ⟨H9,o',I',s9,kp,a'⟩=>?_) fun _ _ z=>z
 exact⟨σ,_,o',I',(E.grow s9).grown P hD kp,fun _ _ _ _=>rfl,aU,a'⟩
theorem Ml {comp:Expr} {d:Nat} {ipos:Pos} {Ac:Addr->Hp->List Dt->HO->Prop} {el:Addr->Env->Sem Unit} {fs:Ev->Option (List Dt)} {N n m:Nat} {pins:List (Addr×Obj)} {σ:L2.St} {H Hb:Hp} {s:Shared} {it D:Addr} {fp:List Addr} {tn:Nat->Heap->Prop} {J:It} {ds o0 out:List Dt} {o:HO} {ρ:Ev} {R:Result->Shared->Prop}
  (hcalm:X.calm=true) (hx:X.xe=fun _ _=>False) (Jf:PTg X tgt gt) (hif:Tests X ifs p) (hel:Qc X el fs Ac N m) (htk:T6 n m gt) (hnm:n<=m)
  (I:L2.Inv X pins σ H s) (E:bw X.K Hb H σ ρ) (P:Wa Hb σ ρ n) (hD:Hb D=none) (hHD:H D=some o) (hA:Ac D H o0 o)
  (T:Turn X.prog X.w X.K tgt J fp it tn) (st:tn 0 s.heap) (hf:∀ b∈fp,qP X pins H b) (Y:Yields X.K J ds Hb)
  (hout:ug gt p fs ρ ds=some out) (hN:o0.length+out.length<=N)
  (hAk:∀ {D:Addr} {H H':Hp} {o1:List Dt} {o:HO},Kp H H'->Ac D H o1 o->Ac D H' o1 o)
  (hturn:∀ (it:Value) (D:Addr) (env:Env),compTurn comp d it (.ref D) env=(standAt ipos >>= fun _=>pyNext it >>= fun r=>match r with
   |none=>pure (.done .next)
   |some v=>letOwnedTupleGo tgt it v >>= fun _=>assign tgt env v >>= fun _=>(forIn ifs true fun c r=>if r=true then isTrue c env (eval c env) >>= fun ok=>pure (ForInStep.yield ok) else pure (ForInStep.yield r)) >>= fun ok=>if ok=true then el D env >>= fun _=>again (.compLoop comp d it (.ref D) env) else again (.compLoop comp d it (.ref D) env)))
  (hsh:∀ {it acc:Value} {env:Env} {Q:Fin->Shared->Prop} {E:VP_} {s:Shared},wpAny (model X.prog X.w) X.A ((compTurn comp d it acc env).onRaise (fun x=>noteFrame x env >>= fun _=>theTreesLotGoes x)) Q E s->wpAny (model X.prog X.w) (X.A.under (.compLoop comp d it acc env)) ((model X.prog X.w).den (.compLoop comp d it acc env)) Q E s)
  (hR:∀ s' σ' H' o',L2.Inv X pins σ' H' s'->bw X.K Hb H' σ' ρ->Fx σ σ' ρ->H' D=some o'->Ac D H' (o0++out) o'->R (.ok .next) s') :
  codeAny (model X.prog X.w) X.A (.compLoop comp d (.ref it) (.ref D) X.env) R s:=by
 have hfC:∀ {H':Hp},(∀ b∈fp,H' b=none)->∀ b∈fp,qP X pins H' b:=fun {H'} hn b hb=>⟨hn b hb,(hf b hb).2⟩
 refine codeAny_loop rfl (fun k s'=>∃ (i:Nat) (σ':L2.St) (H':Hp) (o1 o2:List Dt) (o:HO),k=ds.length - i/\i<=ds.length/\L2.Inv X pins σ' H' s'/\tn i s'.heap/\(∀ b∈fp,H' b=none)/\bw X.K Hb H' σ' ρ/\Fx σ σ' ρ/\H' D=some o/\Ac D H' o1 o/\ug gt p fs ρ (ds.drop i)=some o2/\o1++o2=o0++out) ?_ ds.length
  ⟨0,σ,H,o0,out,o,by simp,Qr _,I,st,fun b hb=>(hf b hb).1,E,fun _ _ _ _=>rfl,hHD,hA,by simpa using hout,rfl⟩
 rintro k s4 ⟨i,σ4,H4,o1,o2,o,rfl,hi,I4,st4,fr4,E4,F4,X6,r4,e4,ho⟩
 have P4:=P.fx F4
 refine hsh (wpAny_noted ?_)
 rw[hturn]
 obtain⟨y1,y2⟩:=Y i H4 E4.base
 by_cases hlt:i < ds.length
 ·have hd:ds[i]?=some ds[i]:=by simp[hlt]
  obtain⟨go,yl⟩:=y1 _ hd
  rw[kA hlt] at e4
  simp only[ug] at e4
  obtain⟨ρ1,e1,e4⟩:=bind_some e4
  obtain⟨k,ek,e4⟩:=bind_some e4
  obtain⟨hl1,hk1⟩:=htk _ _ _ e1
  have back:∀ {σ5:L2.St} {H5:Hp},bw X.K Hb H5 σ5 ρ1->bw X.K Hb H5 σ5 ρ:=fun E5=>E5.forget hl1 fun j b e=>by rw[hk1 j (.inl (P.lt j b e))];exact e
  refine zb (QE (zb ?_))
  refine iu (T.item X rfl rfl rfl hcalm i pins s4 σ4 H4 _ I4 (hfC fr4) st4 go) fun r s5 ⟨u,hr,h5⟩=>?_
  subst hr
  refine zb (iu h5 fun _ s6 ⟨x,H6,I6,r6,y6,st6,fr6⟩=>?_)
  obtain⟨sm,rx⟩:=yl x H6 y6
  have E4:=E4.grow sm
  have X6:=sm _ _ X6
  have r4:=hAk (.of sm) r4
  have I6':=I6.pinned (hfC fr6) (T.obj _ _ st6)
  have ha:=Jf _ s6 σ4 H6 x u (fun σ' H'=>H'=H6/\bw X.K Hb H6 σ' ρ1/\Lo σ4 ρ σ' ρ1) I6' r6 ⟨Hb,ρ,ds[i],ρ1,E4,rx,e1,fun σ' E' L'=>⟨rfl,E',L'⟩⟩
  rw[hx] at ha
  refine zb (ZH ha (fun _ s7 h7=>?_) fun _ _ z=>z.elim)
  obtain⟨σ7,H7,I7,rfl,E7,L7⟩:=h7
  have P7:Wa Hb σ7 ρ1 m:=by
   refine⟨fun j c e=>?_,fun j c e=>?_,fun j c a e hl ea=>?_⟩
   ·cases c with
    |o ds=>exact P.own j _ (L7 j _ rfl e).1
    |m ds _=>exact P.own j _ (L7 j _ rfl e).1
    |_=>rfl
   ·refine Nat.lt_of_not_le fun h=>?_
    rw[hk1 j (.inr h)] at e
    exact absurd (Zl (P.lt j c e) hnm) (Nat.not_lt.mpr h)
   ·obtain⟨e',ee⟩:=L7 j c hl e
    exact P4.old j c a e' hl (by rw[<-ee];exact ea)
  have Wb:∀ {σ5:L2.St},Fx σ7 σ5 ρ1->Fx σ σ5 ρ:=fun f j c hl e=>by
   have e':ρ1[j]?=some (some c):=by rw[hk1 j (.inl (P.lt j c e))];exact e
   exact (f j c hl e').trans ((L7 j c hl e').2.trans (F4 j c hl e))
  have ht:wpAny (model X.prog X.w) X.A (forIn ifs true fun c r=>if r=true then do let ok <-isTrue c X.env (eval c X.env);pure (ForInStep.yield ok) else pure (ForInStep.yield r))
    (fun ok s8=>ok=k/\∃ H8,L2.Inv X (pins++wL fp s6.heap) σ7 H8 s8/\Same H7 H8) (notedBy (model X.prog X.w) X.A X.env fun e s'=>R (.error e) s') s7:=by
   rcases hif with⟨rfl,rfl⟩|⟨c,rfl,hc⟩
   ·cases ek
    exact wpAny_tests_nil ⟨rfl,H7,I7,Same.refl H7⟩
   ·refine wpAny_tests_one ?_
    have:=hc _ s7 σ7 H7 (fun b H8=>b=k/\Same H7 H8) I7 ⟨Hb,ρ1,k,E7,ek,fun H8 s8=>⟨rfl,s8⟩⟩
    rw[hx] at this
    exact ZH this (fun b s8 ⟨H8,I8,eb,s8'⟩=>⟨eb,H8,I8,s8'⟩) fun _ _ z=>z.elim
  refine zb (ZH ht (fun ok s8 h8=>?_) fun _ _ z=>z)
  obtain⟨rfl,H8,I8,Zv⟩:=h8
  have Qe:∀ {σ9:L2.St} {H9:Hp} {s9:Shared},L2.Inv X (pins++wL fp s6.heap) σ9 H9 s9->L2.Inv X pins σ9 H9 s9/\tn (i+1) s9.heap/\∀ b∈fp,H9 b=none:=fun {σ9 H9 s9} I9=>by
   refine⟨I9.oU,T.keep _ _ _ st6 fun b hb o e=>(I9.pin (b,o) (zI _ (zI _ (pX hb e)))).1,fun b hb=>?_⟩
   obtain⟨o,e,d⟩:=T.obj _ _ st6 b hb
   exact (I9.pin (b,o) (zI _ (zI _ (pX hb e)))).2.1
  cases ok with
  |false=>
   rw[zw zr] at e4
   obtain⟨I9,st9,fr9⟩:=Qe I8
   exact ze ⟨rfl,ds.length - (i+1),by omega,i+1,σ7,H8,o1,o2,o,rfl,hlt,I9,st9,fr9,back (E7.grow Zv),Wb (fun _ _ _ _=>rfl),Zv _ _ X6,hAk (.of Zv) r4,e4,ho⟩
  |true=>
   rw[zi rfl] at e4
   obtain⟨ys,eb,e4⟩:=bind_some e4
   obtain⟨zs,e5,e4⟩:=bind_some e4
   cases e4
   have hl:=congrArg List.length ho
   simp only[zS] at hl
   have he:=hel _ s8 σ7 H8 Hb ρ1 D o o1 ys I8 (E7.grow Zv) P7 hD eb (Zv _ _ X6) (hAk (.of Zv) r4) (by omega)
   rw[hx] at he
   refine zb (ZH he (fun _ s10 h10=>?_) fun _ _ z=>z.elim)
   obtain⟨σ9,H9,o',I10,E9,F9,Wc,a5⟩:=h10
   obtain⟨I11,acZ,ac0⟩:=Qe I10
   exact ze ⟨rfl,ds.length - (i+1),by omega,i+1,σ9,H9,o1++ys,zs,o',rfl,hlt,I11,acZ,ac0,back E9,Wb F9,Wc,a5,e5,by rw[kD];exact ho⟩
 ·have hge:ds.length<=i:=by omega
  rw[List.drop_eq_nil_of_le hge] at e4
  cases e4
  refine zb (QE (zb ?_))
  refine iu (T.done X rfl rfl rfl hcalm i pins s4 σ4 H4 _ I4 (hfC fr4) st4 (y2 hge)) fun r s5 ⟨hr,I5⟩=>?_
  subst hr
  rw[qB] at ho
  exact ze (hR s5 σ4 H4 o I5 E4 F4 X6 (by rw[<-ho];exact r4))
theorem Cw {comp:Expr} {mk:Sem Value} {o0:Obj} {O0:HO} {Ac:Addr->Hp->List Dt->HO->Prop} {el:Addr->Env->Sem Unit} {fs:Ev->Option (List Dt)} {N m:Nat} {pins:List (Addr×Obj)} {σ:L2.St} {H2:Hp} {s2:Shared} {it:Addr} {fp:List Addr} {tn:Nat->Heap->Prop} {J:It} {ds out:List Dt} {ρ:Ev} {RR:Value->Addr->Result->Shared->Prop} {E:VP_}
  (O:rB X scope cl xs is) (hcalm:X.calm=true)
  (Jf:∀ C s₀ H₀ fp,PTg (FP X (xs++ts) scope cl C s₀ H₀ fp) tgt gt) (hif:∀ C s₀ H₀ fp,Tests (FP X (xs++ts) scope cl C s₀ H₀ fp) ifs p) (helt:∀ C s₀ H₀ fp,Qc (FP X (xs++ts) scope cl C s₀ H₀ fp) el fs Ac N m) (htk:T6 is.length m gt) (hnm:is.length<=m)
  (I2:L2.Inv X pins σ H2 s2) (Ec:bw X.K H2 H2 (wO is σ++List.replicate ts.length none) (lU is ρ++List.replicate ts.length none)) (T:Turn X.prog X.w X.K tgt J fp it tn) (st:tn 0 s2.heap) (hf:∀ b∈fp,qP X pins H2 b) (Y:Yields X.K J ds H2)
  (hout:ug gt p fs (lU is ρ++List.replicate ts.length none) ds=some out) (hlen:out.length<=N)
  (hRR:∀ (D C:Addr) (s':Shared) (H':Hp) (o:HO),H2 D=none->L2.Inv X pins σ H' s'->qP X pins H' C->(∃ m,s'.heap.Ns C m)->Same H2 H'->H' D=some o->Ac D H' out o->RR (.ref D) C (.ok .next) s')
  (hmk:∀ {Q:VP_},Q (.ref s2.heap.objs.size) { s2 with heap:=s2.heap.push o0 }->wpAny (model X.prog X.w) X.A mk Q E s2) (hO0:∀ H,fj X.prog X.w H (s2.heap.push o0) s2.heap.objs.size O0) (hA0:∀ H,Ac s2.heap.objs.size H [] O0)
  (hAk:∀ {D:Addr} {H H':Hp} {o1:List Dt} {o:HO},Kp H H'->Ac D H o1 o->Ac D H' o1 o)
  (hturn:∀ (it:Value) (D:Addr) (env:Env),compTurn comp 0 it (.ref D) env=(standAt iter.pos >>= fun _=>pyNext it >>= fun r=>match r with
   |none=>pure (.done .next)
   |some v=>letOwnedTupleGo tgt it v >>= fun _=>assign tgt env v >>= fun _=>(forIn ifs true fun c r=>if r=true then isTrue c env (eval c env) >>= fun ok=>pure (ForInStep.yield ok) else pure (ForInStep.yield r)) >>= fun ok=>if ok=true then el D env >>= fun _=>again (.compLoop comp 0 it (.ref D) env) else again (.compLoop comp 0 it (.ref D) env)))
  (hstart:∀ {it acc:Value} {env:Env} {R:Result->Shared->Prop} {s:Shared},codeAny (model X.prog X.w) X.A (.compLoop comp 0 it acc env) R s->wpAny (model X.prog X.w) X.A (pyIter it) (fun it' s'=>codeAny (model X.prog X.w) X.A (.compLoop comp 0 it' acc env) R s') (notedBy (model X.prog X.w) X.A env fun x s'=>R (.error x) s') s->codeAny (model X.prog X.w) X.A (.compStart comp 0 it acc env) R s)
  (hsh:∀ {it acc:Value} {env:Env} {Q:Fin->Shared->Prop} {E:VP_} {s:Shared},wpAny (model X.prog X.w) X.A ((compTurn comp 0 it acc env).onRaise (fun x=>noteFrame x env >>= fun _=>theTreesLotGoes x)) Q E s->wpAny (model X.prog X.w) (X.A.under (.compLoop comp 0 it acc env)) ((model X.prog X.w).den (.compLoop comp 0 it acc env)) Q E s) :
  wpAny (model X.prog X.w) X.A mk (fun acc s₃=>wpAny (model X.prog X.w) X.A (newFunctionEnv scope X.env.globals cl [] X.env.qual none .none (some X.env)) (fun cenv s₄=>
   codeAny (model X.prog X.w) X.A (.compStart comp 0 (.ref it) acc { cenv with scope:=relabel scope X.env }) (RR acc cenv.locals) s₄) E s₃) E s2:=by
 refine hmk (Mj ?_)
 have hD:H2 s2.heap.objs.size=none:=I2.hok.fresh (zk _)
 have I3:L2.Inv X pins σ (upd H2 s2.heap.objs.size O0) { s2 with heap:=s2.heap.push o0 }:=
  I2.laid (t':=s2.toks) (fun b o e=>zd _ e) (zk _) (hO0 _)
 have aaC:∀ b∈fp,b < s2.heap.objs.size:=fun b hb=>let ⟨o,e,_⟩:=T.obj 0 _ st b hb;zt e
 have hf3:∀ b∈fp,qP X pins (upd H2 s2.heap.objs.size O0) b:=fun b hb=>⟨by rw[aJ (ZE (aaC b hb))];exact (hf b hb).1,(hf b hb).2⟩
 have st3:tn 0 (s2.heap.push o0):=T.keep 0 _ _ st fun b hb o e=>zd _ e
 have T8:∀ b∈fp,b < (s2.heap.push o0).objs.size:=fun b hb=>by rw[js];exact Nat.lt_succ_of_lt (aaC b hb)
 generalize hs3:({ s2 with heap:=s2.heap.push o0 }:Shared)=s3 at *
 have ac2:s3.heap=s2.heap.push o0:=by rw[<-hs3]
 rw[<-ac2] at st3 T8
 have IC:=Qa (ts:=ts) I3 O hf3 T8
 have st1:tn 0 (pushCells (s3.heap.push { cls:=.type "dict", data:=.dict #[] }) scope.names):=T.keep 0 _ _ st3 fun b hb o e=>pushCells_keeps _ _ b o (zd _ e)
 have hfC:∀ b∈fp,qP (FP X (xs++ts) scope cl s3.heap.objs.size s3 (upd H2 s2.heap.objs.size O0) fp) [] (upd H2 s2.heap.objs.size O0) b:=fun b hb=>by
  obtain⟨f0,f1,f2,f3,f4,f5⟩:=hf3 b hb
  refine⟨f0,ZE (T8 b hb),fun z=>?_,.inl hb,fun x c e z=>?_,fun q hq=>absurd (show q∈([]:List (Addr×Obj)) from hq) (by simp)⟩
  ·rcases List.mem_cons.mp (I3.yS b z) with q|q
   ·exact f1 q
   ·exact f2 q
  ·rcases u5 _ _ _ x c e with h|h
   ·exact f4 x c (O.sub.get h) z
   ·rw[z] at h;exact absurd (Zl (T8 b hb) (Nat.le_of_succ_le h)) (j0 _)
 have P0:Wa H2 (wO is σ++List.replicate ts.length none) (lU is ρ++List.replicate ts.length none) is.length:=by
  have g:∀ (j:Nat) c,(lU is ρ++List.replicate ts.length none)[j]?=some (some c)->j < is.length/\uX c=false:=fun j c e=>by
   by_cases hj:j < is.length
   ·refine⟨hj,?_⟩
    rw[ZY (by simp[lU];omega)] at e
    unfold lU at e
    rw[ZT] at e
    cases q:is[j]? with
    |none=>rw[q] at e;cases e
    |some i=>rw[q] at e;exact yL (by simpa using e)
   ·rw[qh (by simp[lU];omega),qr] at e
    split at e<;>cases e
  exact⟨fun j c e=>(g j c e).2,fun j c e=>(g j c e).1,known Ec⟩
 have h:=Ml (X:=FP X (xs++ts) scope cl s3.heap.objs.size s3 (upd H2 s2.heap.objs.size O0) fp) (R:=RR (.ref s2.heap.objs.size) s3.heap.objs.size) (o0:=[]) hcalm rfl (Jf _ _ _ _) (hif _ _ _ _) (helt _ _ _ _) htk hnm IC (Ec.grow (bJ hD)) P0 hD aU (hA0 _) T st1 hfC Y hout (by simpa using hlen) hAk hturn hsh fun s5 σ5 H5 o5 I5 E5 _ hD5 a5=>by
  have IB:L2.Inv X pins σ H5 s5:=I3.call' (ch:=fp) I5.os I5.base I5.hok I5.bare fun b hb=>by
   obtain⟨f0,f1,f2,f3,f4,f5⟩:=hf3 b hb
   exact⟨f3,f1,f4,f5⟩
  obtain⟨m,hn,_⟩:=I5.loc
  exact hRR _ _ s5 H5 o5 hD IB (I3.Lg (zk _) I5.free) ⟨m,hn⟩ E5.base hD5 a5
 exact hstart h (T.self _ 0 _ _ _ st1 h)
def Wf (K:FG_) (_:Addr) (H:Hp) (o1:List Dt) (o:HO):Prop:=∃ us,o=.lst us/\aR K H o1 us
theorem Wf.kp {K:FG_} {D:Addr} {H H':Hp} {o1:List Dt} {o:HO} (k:Kp H H'):Wf K D H o1 o->Wf K D H' o1 o:=fun ⟨us,e,r⟩=>⟨us,e,r.kp k⟩
def aaD (fe:Ev->Option Bx):Ev->Option (List Dt):=fun ρ=>(fe ρ).bind X5
theorem T9 {n:Nat} (h:PV X elt fe):Qc X (fun D env=>do let _ <-call (.builtin "list.append") [.ref D,<-eval elt env]) (aaD fe) (Wf X.K) 100000 n:=by
 refine Qd fun pins s σ H Hb ρ D o o1 ys I En ee hD ⟨us,e,r4⟩ hl=>?_
 subst e
 obtain⟨b,eb,ee⟩:=bind_some ee
 obtain⟨y,rfl,rfl⟩:=wQ ee
 refine zb (ZH (h pins s σ H (fun v H9=>Same H H9/\Rep X.K H9 y v) I ⟨Hb,ρ,_,En,eb,fun v H9 s9 _ r9=>⟨s9,r9⟩⟩) (fun v s9 h9=>?_) fun _ _ z=>z)
 obtain⟨v',H9,I9,rv,Zw,r9⟩:=h9
 have Wc:=Zw _ _ hD
 refine zb (ZH ((Cp (X:=X)) _ s9 σ H9 (.ref D) [v'] (.ref D) [v] (fun w H10=>H10=upd H9 D (.lst (us++[v']))) I9 rfl (.cons rv .nil) ⟨_,us,v',rfl,rfl,Wc,by rw[r4.length];have h0:(100000:Nat) < sizeLine:=(by decide);simp at hl;omega,rfl⟩) (fun w s10 h10=>?_) fun _ _ z=>z)
 obtain⟨w',H10,I10,_,rfl⟩:=h10
 have kp:Kp H9 (upd H9 D (.lst (us++[v']))):=.lst Wc
 exact ze ⟨H9,_,I10,Zw,kp,us++[v'],rfl,((r4.kp (.of Zw)).append (aR.cons r9 aR.nil)).kp kp⟩
theorem Gm {pins:List (Addr×Obj)} {σ:L2.St} {H2:Hp} {s2:Shared} {it:Addr} {fp:List Addr} {tn:Nat->Heap->Prop} {J:It} {ds out:List Dt} {ρ:Ev} {RR:Value->Addr->Result->Shared->Prop} {E:VP_}
  (O:rB X scope cl xs is) (hcalm:X.calm=true)
  (Jf:∀ C s₀ H₀ fp,PTg (FP X (xs++ts) scope cl C s₀ H₀ fp) tgt gt) (hif:∀ C s₀ H₀ fp,Tests (FP X (xs++ts) scope cl C s₀ H₀ fp) ifs p) (helt:∀ C s₀ H₀ fp,PV (FP X (xs++ts) scope cl C s₀ H₀ fp) elt fe) (htk:T6 is.length (is.length+ts.length) gt)
  (I2:L2.Inv X pins σ H2 s2) (Ec:bw X.K H2 H2 (wO is σ++List.replicate ts.length none) (lU is ρ++List.replicate ts.length none)) (T:Turn X.prog X.w X.K tgt J fp it tn) (st:tn 0 s2.heap) (hf:∀ b∈fp,qP X pins H2 b) (Y:Yields X.K J ds H2)
  (hlen:ds.length<=100000) (hout:uo gt p fe (lU is ρ++List.replicate ts.length none) ds=some out)
  (hRR:∀ (D C:Addr) (s':Shared) (H':Hp) (us:List V),H2 D=none->L2.Inv X pins σ H' s'->qP X pins H' C->(∃ m,s'.heap.Ns C m)->Same H2 H'->H' D=some (.lst us)->aR X.K H' out us->RR (.ref D) C (.ok .next) s') :
  wpAny (model X.prog X.w) X.A (newList []) (fun acc s₃=>wpAny (model X.prog X.w) X.A (newFunctionEnv scope X.env.globals cl [] X.env.qual none .none (some X.env)) (fun cenv s₄=>
   codeAny (model X.prog X.w) X.A (.compStart (.ListComp elt [⟨tgt,iter,ifs,0⟩] scope pos) 0 (.ref it) acc { cenv with scope:=relabel scope X.env }) (RR acc cenv.locals) s₄) E s₃) E s2:=
 Cw (Ac:=Wf X.K) (O0:=.lst []) (N:=100000) O hcalm Jf hif (fun C s₀ H₀ fp=>T9 (helt C s₀ H₀ fp)) htk (Nat.le_add_right ..) I2 Ec T st hf Y hout (zh (tU hout) hlen) (fun D C s' H' o a b c d e f g=>by obtain⟨us,rfl,r⟩:=g;exact hRR D C s' H' us a b c d e f r)
  QA (fun _=>⟨Qr _,[],0,.nil,zC _ rfl⟩) (fun _=>⟨[],rfl,aR.nil⟩) Wf.kp (fun _ _ _=>rfl) codeAny_compStart_list fun h=>h
end
def iC (K:FG_) (f:Ev->Option (List Dt)):TI:=fun σ H R=>∃ H0 ρ ds,bw K H0 H σ ρ/\f ρ=some ds/\∀ J H',Same H H'->Yields K J ds H'->R J H'
def PIC (X:Cx) (tg iter:Expr) (f:Ev->Option (List Dt)):Prop:=PI X tg iter (iC X.K f)
structure QIC (X:Cx) (tg iter:Expr) (f:Ev->Option (List Dt)):Prop where
 run:PIC X tg iter f
def Qf:Bx->Option (List Dt)
 |.z (.lst ds)=>some ds
 |.z (.tup ds)=>some ds
 |.z (.str x)=>some (signs x)
 |.o ds=>some ds
 |.l ds=>some ds
 |_=>none
section
variable {X:Cx} {e elt tgt iter:Expr} {es ifs:List Expr} {f:Ev->Option Bx} {fs:Ev->Option (List Bx)} {scope:Scope} {cl:List (Str×Addr)} {pos:Pos} {xs ts:LS_} {is:List Nat} {gt:Dt->Ev->Option Ev} {p:Ev->Option Bool} {fe:Ev->Option Bx} {fi:Ev->Option (List Dt)}
theorem X7 (h:QIF X tgt iter fi):QIC X tgt iter fi:=⟨have h:=h.run;fun pins s σ H R I q=>by
 obtain⟨H0,ρ,ds,E,e,q⟩:=q
 exact h pins s σ H R I ⟨H0,ρ,ds,E,e,fun J H' s' y=>q J H' s' (y H' (Same.refl H') (fun _ _=>rfl) (fun _ _ _ _=>rfl) fun _ _ _=>rfl)⟩⟩
theorem fB (h:QV X e f):QIC X tgt e (fun ρ=>(f ρ).bind Qf):=⟨have h:=h.run;fun pins s σ H R I q=>by
 refine PL h pins s σ H R I ?_
 obtain⟨H0,ρ,ds,E,e,q⟩:=q
 obtain⟨b,eb,e⟩:=bind_some e
 refine⟨H0,ρ,b,E,eb,fun v H1 s1 n1 r1=>?_⟩
 cases b with
 |z d=>
  cases d with
  |tup ds'=>
   cases e
   simp only[bh,Rep] at r1
   obtain⟨a,vs,rfl,hq,rs⟩:=r1
   exact .inr (.inl ⟨a,rfl,⟨vs,hq⟩,q _ _ s1 (.tup hq rs)⟩)
  |lst ds'=>
   cases e
   obtain⟨a,vs,rfl,hq,rs⟩:=r1.Cr rfl
   exact .inl ⟨a,rfl,⟨vs,hq⟩,q _ _ s1 (.list hq rs)⟩
  |str x=>
   cases e
   simp only[bh,Rep] at r1
   obtain⟨rfl,_⟩:=r1
   exact .inr (.inr ⟨x,rfl,q _ _ s1 (.str x)⟩)
  |_=>cases e
 |l ds'=>
  cases e
  obtain⟨a,vs,rfl,hq,rs⟩:=r1.Cr rfl
  exact .inl ⟨a,rfl,⟨vs,hq⟩,q _ _ s1 (.list hq rs)⟩
 |o ds'=>
  cases e
  obtain⟨a,vs,rfl,hq,rs⟩:=r1.Cr rfl
  exact .inl ⟨a,rfl,⟨vs,hq⟩,q _ _ s1 (.list hq rs)⟩
 |n _=>cases e
 |m _ _=>cases e⟩
def dG (fi:Ev->Option (List Dt)) (gt:Dt->Ev->Option Ev) (p:Ev->Option Bool) (fe:Ev->Option Bx) (is:List Nat) (n:Nat):Ev->Option Bx:=fun ρ=>(fi ρ).bind fun ds=>
 if ds.length<=100000 then (uo gt p fe (lU is ρ++List.replicate n none) ds).bind fun out=>some (.o out) else none
theorem iB (ts:LS_) (O:rB X scope cl xs is) (hcalm:X.calm=true) (hi:QIC X tgt iter fi) (Jf:∀ C s₀ H₀ fp,XQ (FP X (xs++ts) scope cl C s₀ H₀ fp) tgt gt) (hif:∀ C s₀ H₀ fp,Ej (FP X (xs++ts) scope cl C s₀ H₀ fp) ifs p) (helt:∀ C s₀ H₀ fp,QV (FP X (xs++ts) scope cl C s₀ H₀ fp) elt fe) (htk:T6 is.length (is.length+ts.length) gt) (hs:∀ x,foldedSetIterable iter X.env x=pure x:=by intro _;rfl):QV X (.ListComp elt [⟨tgt,iter,ifs,0⟩] scope pos) (dG fi gt p fe is ts.length):=⟨have hi:=hi.run;have Jf:=fun C s₀ H₀ fp=>(Jf C s₀ H₀ fp).run;have hif:=fun C s₀ H₀ fp=>(hif C s₀ H₀ fp).run;have helt:=fun C s₀ H₀ fp=>(helt C s₀ H₀ fp).run;fun pins s σ H Q I h=>by
 obtain⟨H0,ρ,b,E,e,q⟩:=h
 obtain⟨ds,ed,e⟩:=bind_some e
 split at e
 ·rename_i hlen
  obtain⟨out,eo,e⟩:=bind_some e
  cases e
  rw[eval_ListComp]
  refine kG (use:=none) rfl hs O.clos O.kind O.names ?_
  refine iu (hi pins s σ H (fun J H'=>Same H H'/\Yields X.K J ds H') I ⟨H0,ρ,ds,E,ed,fun J H' s' y=>⟨s',y⟩⟩) fun v s1 h1=>iu h1 fun itv s2 h2=>?_
  obtain⟨it,fp,tn,J,H2,rfl,I2,T,st,hf,s12,Y⟩:=h2
  refine Gm (RR:=fun acc C=>compPost (model X.prog X.w) X.A X.xe none (EP X pins σ Q) acc C) (ts:=ts) (xs:=xs) O hcalm Jf hif helt htk I2 ((E.grow s12).caps is ts.length) T st hf Y hlen eo ?_
  intro D C s' H' us hD I' fC ⟨m,hn⟩ s2' hD' r'
  refine⟨m,hn,fun h' sb=>⟨.ref D,H',?_,rfl,q _ _ (s12.trans s2') (fun a ea=>by cases ea;exact s12.free hD) ⟨D,us,rfl,hD',r'⟩⟩⟩
  obtain⟨f0,f1,f2,f3,f4,f5⟩:=fC
  exact I'.turned (t':=s'.toks) (fun b o hb e=>(sb.2 b hb).trans e) f0 f1 f3 f4 f5
 ·cases e⟩
theorem Ek (i:Nat) {y:Str} {py spos:Pos} (ts:LS_) (O:rB X scope cl xs is) (hcalm:X.calm=true) (hN:X.N.Nodup) (hi:QIC X tgt iter fi) (Jf:∀ C s₀ H₀ fp,XQ (FP X (xs++ts) scope cl C s₀ H₀ fp) tgt gt) (hif:∀ C s₀ H₀ fp,Ej (FP X (xs++ts) scope cl C s₀ H₀ fp) ifs p) (helt:∀ C s₀ H₀ fp,QV (FP X (xs++ts) scope cl C s₀ H₀ fp) elt fe) (htk:T6 is.length (is.length+ts.length) gt) (hsw:swapsWith (.ListComp elt [⟨tgt,iter,ifs,0⟩] scope pos) (some (.Name y py)) spos.line X.env=pure true:=by with_unfolding_all rfl) (hy:X.N[i]?=some y:=by rfl) (hx:Loc X.env.scope y:=by first|exact qS rfl|exact qa rfl) (hf:X.fn y=true\/X.env.scope.names.lookup y=some .local:=by first|exact .inl rfl|exact .inr rfl) (hs:∀ x,foldedSetIterable iter X.env x=pure x:=by intro _;rfl):Pz X (.Assign [.Name y py] (.ListComp elt [⟨tgt,iter,ifs,0⟩] scope pos) spos) (fun ρ=>(dG fi gt p fe is ts.length ρ).bind fun b=>(PK ρ i b).bind fun ρ'=>some (.nx ρ')):=⟨have hi:=hi.run;have Jf:=fun C s₀ H₀ fp=>(Jf C s₀ H₀ fp).run;have hif:=fun C s₀ H₀ fp=>(hif C s₀ H₀ fp).run;have helt:=fun C s₀ H₀ fp=>(helt C s₀ H₀ fp).run;fun pins s σ H D I h=>by
 obtain⟨H0,ρ,r,E,e,q⟩:=h
 obtain⟨b,eb,e⟩:=bind_some e
 obtain⟨ds,ed,eb⟩:=bind_some eb
 split at eb
 ·rename_i hlen
  obtain⟨out,eo,eb⟩:=bind_some eb
  cases eb
  cases e
  rw[exec_Assign_Name_used _ _ _ _ hsw]
  refine zb (QE (zb ?_))
  show wpAny _ X.A (do let _ <-comprehension (.ListComp elt [⟨tgt,iter,ifs,0⟩] scope pos) scope X.env _ (newList []) false (eval iter X.env) (some (assign (.Name y py) X.env))) _ _ s
  refine zb (ZH (kG (use:=some (assign (.Name y py) X.env)) (Q:=fun _ s'=>SP X pins D .next s') rfl hs O.clos O.kind O.names ?_) (fun _ s' hq=>ze (ze hq)) fun _ _ e=>e)
  refine iu (hi pins s σ H (fun J H'=>Same H H'/\Yields X.K J ds H') I ⟨H0,ρ,ds,E,ed,fun J H' s' y=>⟨s',y⟩⟩) fun v s1 h1=>iu h1 fun itv s2 h2=>?_
  obtain⟨it,fp,tn,J,H2,rfl,I2,T,st,hf',s12,Y⟩:=h2
  refine Gm (RR:=fun acc C=>compPost (model X.prog X.w) X.A X.xe (some (assign (.Name y py) X.env)) (fun _ s'=>SP X pins D .next s') acc C) (ts:=ts) (xs:=xs) O hcalm Jf hif helt htk I2 ((E.grow s12).caps is ts.length) T st hf' Y hlen eo ?_
  intro Da C s' H' us hD I' fC ⟨m,hn⟩ s2' hD' r'
  show wpAny _ X.A (assign (.Name y py) X.env (.ref Da)) _ _ s'
  obtain⟨f0,f1,f2,f3,f4,f5⟩:=fC
  obtain⟨oC,es',ep,hoC,hdC,hrest⟩:=id hn
  have I'':L2.Inv X (pins++[(C,oC)]) σ H' s':=I'.uT fun pp hp=>by
   rcases List.mem_append.mp hp with z|z
   ·exact I'.pin pp (zI _ z)
   ·have:pp=(C,oC):=by simpa using z
    subst this
    exact⟨hoC,f0,f1,f2,fun v z=>by rw[hdC] at z;cases z⟩
  refine iu (L2.yJ hN hy hx hf (pins++[(C,oC)]) s' σ H' (.ref Da) (.ref Da) (fun σ' X8=>σ'=σ.set i (some (.ref Da))/\X8=H') I'' rfl ⟨rfl,rfl⟩) fun _ s'' ⟨σ',X8,J',e1,e2⟩=>?_
  subst e1 e2
  have hC':=(J'.pin (C,oC) (by simp)).1
  refine⟨m,⟨oC,es',ep,hC',hdC,hrest⟩,fun h' sb=>?_⟩
  refine⟨σ.set i (some (.ref Da)),X8,J'.oU.turned (t':=s''.toks) (fun b o hb e=>(sb.2 b hb).trans e) f0 f1 f3 f4 f5,q _ _ ?_⟩
  exact E.set (s12.trans s2') (b:=.o out) ⟨Da,us,rfl,hD',r'⟩ (.inl rfl) fun a ea=>by cases ea;exact s12.free hD
 ·cases eb⟩
def lend:Bx->Bx
 |.o ds=>.l ds
 |.m ds _=>.n ds
 |b=>b
def isO:Bx->Bool
 |.o _=>true
 |.m _ _=>true
 |_=>false
def nF (K:FG_) (n:Nat) (F:List Bx->Option Bx):Sp:=fun vs H Q _=>vs.length=n/\∃ bs r,qF K H bs vs/\bs.all (fun b=>!isO b)=true/\F bs=some r/\∀ v H',Same H H'->Nw H r v->bh K H' r v->Q v H'
def fG (n:Nat) (g:Ev->Option Out):List Bx->Option Bx:=fun bs=>(g (bs.map some++List.replicate (n - bs.length) none)).bind fun r=>match r with
 |.rt b=>some b
 |.nx _=>some (.z .non)
 |_=>none
theorem bw.start {K:FG_} {H:Hp} {N:LS_} {bs:List Bx} {vs:List V} (r:qF K H bs vs) (ho:bs.all (fun b=>!isO b)=true):bw K H H (L2.start N vs) (bs.map some++List.replicate (N.length - bs.length) none):=by
 have hl:bs.length=vs.length:=Paired.length r
 have get:∀ (i:Nat) b,(bs.map some++List.replicate (N.length - bs.length) none)[i]?=some (some b)->bs[i]?=some b:=fun i b e=>by
  by_cases hi:i < bs.length
  ·rw[ZY (by simpa using hi),ZT] at e
   cases q:bs[i]? with
   |none=>rw[q] at e;cases e
   |some b'=>rw[q] at e;simpa using e
  ·rw[qh (by simp;omega),qr] at e
   split at e<;>cases e
 have noO:∀ (i:Nat) c,(bs.map some++List.replicate (N.length - bs.length) none)[i]?=some (some c)->uX c=true->False:=fun i c e ec=>by
  have:=List.all_eq_true.mp ho _ (jv (get i _ e))
  cases c with
  |o ds=>cases this
  |m ds _=>cases this
  |_=>cases ec
 refine⟨?_,fun i b e=>?_,fun i j c a b e ec=>(noO i c e ec).elim,Same.refl H,fun i c a e ec=>(noO i c e ec).elim⟩
 ·unfold L2.start
  simp[hl]
 ·have e':=get i b e
  have hi:i < bs.length:=(List.getElem?_eq_some_iff.mp e').1
  have:∀ {bs:List Bx} {vs:List V} {i:Nat} {b:Bx},Paired (bh K H) bs vs->bs[i]?=some b->∃ v,vs[i]?=some v/\bh K H b v:=by
   intro bs vs i b r
   induction r generalizing i with
   |nil=>intro e;simp at e
   |cons p t ih=>
    intro e
    cases i with
    |zero=>simp at e;subst e;exact⟨_,rfl,p⟩
    |succ i=>obtain⟨v,e1,e2⟩:=ih (i:=i) (by simpa using e);exact⟨v,by simpa using e1,e2⟩
  obtain⟨v,e1,e2⟩:=this r e'
  refine⟨v,?_,e2⟩
  unfold L2.start
  rw[ZY (by simp;omega),ZT,e1]
  rfl
end
section
variable {P:Program} {w:World} {K:FG_} {mg:Str->Option Value} {base:Heap}
theorem ac5 {x qual:Str} {st:Stmt} {f:Addr} {fd:FuncData} {N ps:LS_} {k:Nat} {g:Ev->Option Out} (F:oW K x qual st f fd) (S:bH N ps (aM st))
  (hbody:∀ (cdv:Value) (A:Around) (outer:List Env) (s:Shared) (H:Hp) (E:XK),iT k (A.deeper (envOfC qual (aM st) s.heap.objs.size f cdv))->Ot (uD jJ P w K mg base N qual (aM st) f cdv A outer s H E).Ia (iz st) g) :
  bF P w K mg base jJ (k+1) f fd ps (nF K ps.length (fG N.length g)):=by
 refine F.ok S (fun vs H Q E h=>h.1) fun cdv A outer s H vs Q E hr h=>?_
 obtain⟨hl,bs,r,rb,ho,e,q⟩:=h
 refine⟨_,hbody cdv A outer s H E hr,?_⟩
 obtain⟨r',er,e⟩:=bind_some e
 refine⟨H,_,r',bw.start rb ho,er,?_⟩
 cases r' with
 |rt b=>cases e;exact fun v H' s' n' r'=>q v H' s' n' r'
 |nx ρ=>cases e;exact fun σ H' E'=>q _ H' E'.base trivial (by unfold bh Rep;rfl)
 |bk ρ=>cases e
 |ct ρ=>cases e
end
section
variable {X:Cx} {k:Nat} {f:Addr} {fd:FuncData} {ps:LS_} {F:List Bx->Option Bx} {x:Str} {p pos:Pos} {e:Expr} {es:List Expr} {fs:Ev->Option (List Bx)} {n:Nat}
theorem zx {K:FG_} {H:Hp}:∀ {bs:List Bx} {vs:List V},qF K H bs vs->qF K H (bs.map lend) vs
 |_,_,.nil=>.nil
 |b::bs,_,.cons h t=>by
  refine .cons ?_ (zx t)
  cases b with
  |z d=>exact h
  |l ds=>exact h
  |o ds=>obtain⟨a,vs,e,q,r⟩:=h;exact⟨a,vs,e,.inl q,r⟩
  |n ds=>exact h
  |m ds _=>obtain⟨a,vs,e,q,r⟩:=h;exact⟨a,vs,e,.inl q,r.1⟩
theorem El:∀ bs:List Bx,(bs.map lend).all (fun b=>!isO b)=true
 |[]=>rfl
 |b::bs=>by
  rw[zl,Jn,El bs]
  cases b<;>rfl
def dM (n:Nat) (F:List Bx->Option Bx) (fs:Ev->Option (List Bx)):Ev->Option Bx:=fun ρ=>(fs ρ).bind fun bs=>if bs.length=n then F (bs.map lend) else none
theorem cV (G:bF X.prog X.w X.K X.mg X.base jJ k f fd ps (nF X.K n F)) (hr:iT k X.A) (hg:Gl X x) (hm:X.mg x=some (.ref f)) (hk:PySem.W.keepIn X.K (.ref f)=true) (hb:Binds X.K fd ps []) (ha:Pb X (e::es) fs) (hdb:(x==("__debug__" : Str))=false:=by decide) (he:starEach (e::es) X.env=(false,eval e X.env)::starEach es X.env:=by rfl) (hpl:(backTo pos (starEach es X.env)).any (·.1)=false:=by rfl):QV X (.Call (.Name x p) (e::es) [] pos) (dM n F fs):=⟨have ha:=ha.run;FN (J2 G hr hg hm hk hb .nil (V7) ha hdb he hpl) fun σ H Q h=>by
 obtain⟨H0,ρ,r,E,e,q⟩:=h
 obtain⟨bs,eb,e⟩:=bind_some e
 refine⟨H0,ρ,bs,E,eb,fun vs H1 s1 r1=>?_⟩
 split at e
 ·rename_i hn
  rw[qB]
  exact⟨by rw[<-Paired.length r1];exact hn,_,r,zx r1,El bs,e,fun v H2 s2 n2 r2=>q v H2 (s1.trans s2) (n2.old s1) r2⟩
 ·cases e⟩
end
end P1
end
section
namespace P1
open PySem PySem.Spec PyProof.Rows L2 SeqAt
open AutoSeq1 (wpAny_loadPart')
def BP (h:Heap) (a:Addr):Prop:=∃ o ep,h.get? a=some o/\o.ExactDict/\o.data=.dict #[] ep
section
variable {A:Around} {s:Shared} {a b:Addr}
theorem u6 {P:Program} {w:World} {kvs:List (Key×V)} {h:Heap} {vs:List (Key×Value)} (q:kvs=[]) (r:KV kvs vs) (d:h.DictOf (bY P w) a vs):BP h a:=by
 subst q
 cases r
 obtain⟨o,es,ep,h1,h2,h3,_,h5,_⟩:=d
 have:es=#[]:=by
  have:=h5.length
  apply Array.eq_empty_of_size_eq_zero
  simpa using this
 subst this
 exact⟨o,ep,h1,h2,h3⟩
theorem BP.dict (P:Program) (w:World) {h:Heap} (x:BP h a):h.DictOf (strKind P w) a []:=by
 obtain⟨o,ep,h1,h2,h3⟩:=x
 exact⟨o,#[],ep,h1,h2,h3,fun e he=>by simp at he,.nil,List.nodup_nil⟩
theorem Wg (ha:(a==sysModules)=false) (hb:(b==sysModules)=false) (da:BP s.heap a) (db:BP s.heap b) (hu:A.units < cLine):RcAt A s (.ref a) (.ref b) true:=fun prog w E Q h=>
 PySem.W.keq_eq (knd:=strKind prog w) ha hb (da.dict prog w) (db.dict prog w) hu (fun _=>.nil) h
theorem aaG (ha:(a==sysModules)=false) (hb:(b==sysModules)=false) (da:BP s.heap a) (db:BP s.heap b) (hu:A.units < cLine):RcNeAt A s (.ref a) (.ref b) false:=fun prog w E Q h=>
 PySem.W.keq_ne (r:=true) (knd:=strKind prog w) ha hb (da.dict prog w) (db.dict prog w) hu (fun _=>.nil) h
theorem Gn (o:Obj) (b:Str) (u:Tok):Meets (Builtin.«dict.__eq__» ⟨[.ref a,.str b u],[]⟩) (fun _ R s=>(s.heap.get? a=some o/\o.cls=.type "dict")/\R (.ok (.ret .notImplemented)) s):=
 .of_wp fun prog w A R s h=>by
  have ht:s.TypeIs (.ref a) "dict" := ⟨o,h.1.1,h.1.2⟩
  show wpAny _ _ (Builtin.Dict.dictSlotArgs "__eq__" ⟨[.ref a,.str b u],[]⟩ >>= _) _ _ s
  refine zb ?_
  unfold Builtin.Dict.dictSlotArgs
  refine zb (wpAny_notOrdered_dict ht ?_)
  show wpAny _ _ (pure (Value.ref a,Value.str b u)) _ _ s
  refine ze ?_
  refine zb (wpAny_isInstance (T := "str") (typeIs_str s b u) PySem.F.sub_str_dict ?_)
  simp only[Bool.not_false,QO]
  refine zb (wpAny_rule ?_)
  exact ze ⟨_,rfl,h.2⟩
theorem Gq (b:Str) (u:Tok) (es:Array DictEntry) (ep:Nat) (dd:Option Addr) (sl:Array (Option Value)):Meets (Builtin.«str.__eq__» ⟨[.str b u,.ref a],[]⟩) (fun _ R s=>s.heap.get? a=some { cls:=.type "dict", dict:=dd,data:=.dict es ep,slots:=sl }/\R (.ok (.ret .notImplemented)) s):=
 .of_wp fun prog w A R s h=>by obtain⟨hp,g,d,tk,os⟩:=s;obtain⟨hl,h⟩:=h;wp_walk using wpAny_loadPart' hl,wpAny_load hl;exact⟨_,rfl,h⟩
theorem Cy (x:Str) (t:Tok) (d:BP s.heap a) (hu:A.units < cLine):RcAt A s (.str x t) (.ref a) false:=fun prog w E Q h=>by
 obtain⟨⟨cls,dd,data,sl⟩,ep,ho,⟨hc,hd,hs⟩,he⟩:=d
 simp only at hc he
 subst hc he
 exact rc_eq_decline_or (k:=false) (typeIs_str s x t) ⟨_,ho,rfl⟩ (by decide) PySem.F.sub_dict_str PySem.F.slot_str_eq PySem.F.slot_dict_eq_refl
  (fun _ hq=>call_meets PySem.F.slot_str_eq (typeIs_str s x t) PySem.F.entry_str_eq (PySem.F.args_str_eq_2 _ _) (Gq x t #[] ep dd sl) ⟨ho,hq⟩)
  (fun _ hq=>call_meets PySem.F.slot_dict_eq_refl ⟨_,ho,rfl⟩ PySem.F.entry_dict_eq (PySem.F.args_dict_eq_2 _ _) (Gn _ x t) ⟨⟨ho,rfl⟩,hq⟩)
  (fun _ hq=>wpAny_of_eq (rfl:isSame (.str x t) (.ref a)=pure false) hq) (.inr hu) h
theorem Gr (o:Obj) (b:Str) (u:Tok):Meets (Builtin.«dict.__ne__» ⟨[.ref a,.str b u],[]⟩) (fun _ R s=>(s.heap.get? a=some o/\o.cls=.type "dict")/\R (.ok (.ret .notImplemented)) s):=
 .of_wp fun prog w A R s h=>by
  have ht:s.TypeIs (.ref a) "dict" := ⟨o,h.1.1,h.1.2⟩
  show wpAny _ _ (Builtin.Dict.dictSlotArgs "__ne__" ⟨[.ref a,.str b u],[]⟩ >>= _) _ _ s
  refine zb ?_
  unfold Builtin.Dict.dictSlotArgs
  refine zb (wpAny_notOrdered_dict ht ?_)
  show wpAny _ _ (pure (Value.ref a,Value.str b u)) _ _ s
  refine ze ?_
  refine zb (wpAny_isInstance (T := "str") (typeIs_str s b u) PySem.F.sub_str_dict ?_)
  simp only[Bool.not_false,QO]
  refine zb (wpAny_rule ?_)
  exact ze ⟨_,rfl,h.2⟩
theorem Gs (b:Str) (u:Tok) (es:Array DictEntry) (ep:Nat) (dd:Option Addr) (sl:Array (Option Value)):Meets (Builtin.«str.__ne__» ⟨[.str b u,.ref a],[]⟩) (fun _ R s=>s.heap.get? a=some { cls:=.type "dict", dict:=dd,data:=.dict es ep,slots:=sl }/\R (.ok (.ret .notImplemented)) s):=
 .of_wp fun prog w A R s h=>by obtain⟨hp,g,d,tk,os⟩:=s;obtain⟨hl,h⟩:=h;wp_walk using wpAny_loadPart' hl,wpAny_load hl;exact⟨_,rfl,h⟩
theorem Mp (x:Str) (t:Tok) (d:BP s.heap a) (hu:A.units < cLine):RcNeAt A s (.str x t) (.ref a) true:=fun prog w E Q h=>by
 obtain⟨⟨cls,dd,data,sl⟩,ep,ho,⟨hc,hd,hs⟩,he⟩:=d
 simp only at hc he
 subst hc he
 exact rc_ne_decline_or (k:=false) (typeIs_str s x t) ⟨_,ho,rfl⟩ (by decide) PySem.F.sub_dict_str PySem.F.slot_str_ne PySem.F.slot_dict_ne_refl
  (fun _ hq=>call_meets PySem.F.slot_str_ne (typeIs_str s x t) PySem.F.entry_str_ne (PySem.F.args_str_ne_2 _ _) (Gs x t #[] ep dd sl) ⟨ho,hq⟩)
  (fun _ hq=>call_meets PySem.F.slot_dict_ne_refl ⟨_,ho,rfl⟩ PySem.F.entry_dict_ne (PySem.F.args_dict_ne_2 _ _) (Gr _ x t) ⟨⟨ho,rfl⟩,hq⟩)
  (fun _ hq=>wpAny_of_eq (rfl:isSame (.str x t) (.ref a)=pure false) hq) (.inr hu) h
theorem Mq (x:Str) (t:Tok) (d:BP s.heap a) (hu:A.units < cLine):EqAt A s (.str x t) (.ref a) false:=fun prog w E Q h=>by
 unfold eqBool
 refine QI ?_
 refine wpAny_ite_split (fun hab=>absurd (eq_of_beq hab) nofun) (fun _=>?_)
 exact zb (Cy x t d hu prog w E _ (Z3 h))
end
mutual
def oG:Dt->Nat
 |.tup xs=>qQ xs+1
 |.lst xs=>qQ xs+1
 |_=>1
def qQ:List Dt->Nat
 |[]=>0
 |d::ds=>max (oG d) (qQ ds)
end
mutual
def lW:Dt->Dt->Option Bool
 |.non,.non=>some true
 |.non,.bl _=>some false|.non,.int _=>some false|.non,.str _=>some false|.non,.tup _=>some false|.non,.lst _=>some false
 |.bl a,.bl b=>some (a==b)
 |.bl a,.int b=>some ((if a then 1 else 0)==b)
 |.bl _,.non=>some false|.bl _,.str _=>some false|.bl _,.tup _=>some false|.bl _,.lst _=>some false
 |.int a,.int b=>some (a==b)
 |.int a,.bl b=>some (a==(if b then 1 else 0))
 |.int _,.non=>some false|.int _,.str _=>some false|.int _,.tup _=>some false|.int _,.lst _=>some false
 |.str a,.str b=>some (a==b)
 |.str _,.non=>some false|.str _,.bl _=>some false|.str _,.int _=>some false|.str _,.tup _=>some false|.str _,.lst _=>some false|.str _,.emp=>some false
 |.tup xs,.tup ys=>jU xs ys
 |.tup _,.non=>some false|.tup _,.bl _=>some false|.tup _,.int _=>some false|.tup _,.str _=>some false|.tup _,.lst _=>some false
 |.lst xs,.lst ys=>jU xs ys
 |.emp,.emp=>some true
 |.lst _,.non=>some false|.lst _,.bl _=>some false|.lst _,.int _=>some false|.lst _,.str _=>some false|.lst _,.tup _=>some false
 |_,_=>none
def jU:List Dt->List Dt->Option Bool
 |[],[]=>some true
 |[],_::_=>some false
 |_::_,[]=>some false
 |x::xs,y::ys=>match lW x y with
  |some b=>match jU xs ys with
   |some c=>some (b&&c)
   |none=>none
  |none=>none
end
mutual
theorem zy:∀ {d:Dt} {k:Bool},lW d d=some k->k=true
 |.non,_,e=>by cases e;rfl
 |.bl b,_,e=>by cases e;simp
 |.int b,_,e=>by cases e;simp
 |.str b,_,e=>by cases e;simp
 |.tup xs,_,e=>wR (ds:=xs) e
 |.lst xs,_,e=>wR (ds:=xs) e
 |.emp,_,e=>by cases e;rfl
theorem wR:∀ {ds:List Dt} {k:Bool},jU ds ds=some k->k=true
 |[],_,e=>by simp only[jU] at e;cases e;rfl
 |d::ds,_,e=>by
  simp only[jU] at e
  cases h:lW d d with
  |none=>rw[h] at e;cases e
  |some b=>
   rw[h] at e
   simp only at e
   cases h2:jU ds ds with
   |none=>rw[h2] at e;cases e
   |some c=>
    rw[h2] at e
    cases e
    rw[zy h,wR h2]
    rfl
end
theorem yM (xs ys:List Dt):lW (.tup xs) (.tup ys)=jU xs ys:=rfl
theorem rC:∀ {xs ys:List Dt} {k:Bool},jU xs ys=some k->∃ e:Nat->Bool,(∀ (j:Nat) x y,xs[j]?=some x->ys[j]?=some y->lW x y=some (e j))/\k=((List.range (min xs.length ys.length)).all e&&xs.length==ys.length)
 |[],[],k,h=>by simp only[jU] at h;cases h;exact⟨fun _=>true,fun j x y e=>by simp at e,by simp⟩
 |[],y::ys,k,h=>by simp only[jU] at h;cases h;exact⟨fun _=>true,fun j x y e=>by simp at e,by simp⟩
 |x::xs,[],k,h=>by simp only[jU] at h;cases h;exact⟨fun _=>true,fun j x y _ e=>by simp at e,by simp⟩
 |x::xs,y::ys,k,h=>by
  simp only[jU] at h
  cases h1:lW x y with
  |none=>rw[h1] at h;cases h
  |some b=>
   rw[h1] at h
   simp only at h
   cases h2:jU xs ys with
   |none=>rw[h2] at h;cases h
   |some c=>
    rw[h2] at h
    cases h
    obtain⟨e,g,hc⟩:=rC h2
    refine⟨fun j=>match j with|0=>b|j+1=>e j,fun j u v eu ev=>?_,?_⟩
    ·cases j with
     |zero=>simp at eu ev;subst eu ev;exact h1
     |succ j=>exact g j u v (by simpa using eu) (by simpa using ev)
    ·have:min (x::xs).length (y::ys).length=min xs.length ys.length+1:=by simp only[QU];omega
     rw[this,List.range_succ_eq_map,Jn,List.all_map,hc]
     have hb:((x::xs).length==(y::ys).length)=(xs.length==ys.length):=by
      rw[kn];simp
     rw[hb,Bool.and_assoc]
     rfl
theorem rD:∀ {ds:List Dt} {j:Nat} {d:Dt},ds[j]?=some d->oG d<=qQ ds
 |[],_,_,e=>by simp at e
 |d::ds,0,_,e=>by simp at e;subst e;simp only[qQ];exact Nat.le_max_left _ _
 |d::ds,j+1,_,e=>by
  simp only[qQ]
  exact zh (rD (ds:=ds) (j:=j) (by simpa using e)) (Nat.le_max_right _ _)
section
variable {X:Cx} {pins:List (Addr×Obj)} {σ:L2.St} {H:Hp} {s:Shared}
theorem yN (I:L2.Inv X pins σ H s) {a:Addr} {vs:List V} (h:uP X.K H a vs):∃ ob,s.heap.get? a=some ob/\ob.cls=.type "tuple" := by
 obtain⟨its,_,⟨ob,e,c,_⟩,_⟩:=I.tuple h
 exact⟨ob,e,c⟩
theorem yO (I:L2.Inv X pins σ H s) {a:Addr} {vs:List V} (h:pW X.K H a vs):∃ ob,s.heap.get? a=some ob/\ob.cls=.type "list" := by
 obtain⟨its,_,⟨ob,n,e,c,_⟩,_⟩:=I.list h
 exact⟨ob,e,c⟩
theorem u9 (I:L2.Inv X pins σ H s) {a:Addr} {o:Obj} (h:H a=some (.uR o (.dK []))):∃ ob,s.heap.get? a=some ob/\ob.cls=.type "dict" := by
 obtain⟨e,_,_,vs,_,ob,es,ep,e2,ex,_⟩:=I.hok a _ h
 exact⟨ob,e2,ex.1⟩
theorem wU {a:Addr} {n m:String} (h:∃ ob,s.heap.get? a=some ob/\ob.cls=.type n) (q:∃ ob,s.heap.get? a=some ob/\ob.cls=.type m) (hn:n≠m):False:=by
 obtain⟨o,e,c⟩:=h
 obtain⟨o',e',c'⟩:=q
 rw[e] at e';cases e'
 rw[c] at c'
 exact hn (by injection c')
mutual
theorem Rep.inj (I:L2.Inv X pins σ H s):∀ {d e:Dt} {v:V},Rep X.K H d v->Rep X.K H e v->d=e
 |.non,e,v,h,q=>by
  simp only[Rep] at h;subst h
  cases e<;>simp only[Rep] at q<;>first|rfl|(cases q;done)|(obtain⟨a,b,z,_⟩:=q;cases z;done)|(obtain⟨z,_⟩:=q;cases z;done)
 |.bl _,e,v,h,q=>by
  simp only[Rep] at h;subst h
  cases e<;>simp only[Rep] at q<;>first|(cases q;rfl)|(cases q;done)|(obtain⟨a,b,z,_⟩:=q;cases z;done)|(obtain⟨z,_⟩:=q;cases z;done)
 |.int _,e,v,h,q=>by
  simp only[Rep] at h;subst h
  cases e<;>simp only[Rep] at q<;>first|(cases q;rfl)|(cases q;done)|(obtain⟨a,b,z,_⟩:=q;cases z;done)|(obtain⟨z,_⟩:=q;cases z;done)
 |.str x,e,v,h,q=>by
  simp only[Rep] at h
  have hv:v=.str x:=h.1
  subst hv
  cases e with
  |str y=>
   simp only[Rep] at q
   have z:V.str x=V.str y:=q.1
   injection z with z
   rw[z]
  |tup es=>simp only[Rep] at q;obtain⟨a,b,z,_⟩:=q;cases z
  |lst es=>simp only[Rep] at q;obtain⟨a,b,z,_⟩:=q;cases z
  |emp=>simp only[Rep] at q;obtain⟨a,b,z,_⟩:=q;cases z
  |_=>simp only[Rep] at q;cases q
 |.tup ds,e,v,h,q=>by
  simp only[Rep] at h
  obtain⟨a,vs,rfl,sq,r⟩:=h
  cases e with
  |tup es=>
   simp only[Rep] at q
   obtain⟨b,us,z,Jg,r'⟩:=q
   cases z
   have:=I.Ce sq Jg
   subst this
   rw[aR.inj I r r']
  |lst es=>
   simp only[Rep] at q
   obtain⟨b,us,z,Jg,r'⟩:=q
   cases z
   exact (wU (yN I sq) (yO I Jg.sq) (by decide)).elim
  |emp=>
   simp only[Rep] at q
   obtain⟨b,o,z,Jg⟩:=q
   cases z
   exact (wU (yN I sq) (u9 I Jg) (by decide)).elim
  |str x=>simp only[Rep] at q;have z:=q.1;cases z
  |_=>simp only[Rep] at q;cases q
 |.lst ds,e,v,h,q=>by
  simp only[Rep] at h
  obtain⟨a,vs,rfl,sq,r⟩:=h
  cases e with
  |lst es=>
   simp only[Rep] at q
   obtain⟨b,us,z,Jg,r'⟩:=q
   cases z
   have:=I.yW sq.sq Jg.sq
   subst this
   rw[aR.inj I r r']
  |tup es=>
   simp only[Rep] at q
   obtain⟨b,us,z,Jg,r'⟩:=q
   cases z
   exact (wU (yO I sq.sq) (yN I Jg) (by decide)).elim
  |emp=>
   simp only[Rep] at q
   obtain⟨b,o,z,Jg⟩:=q
   cases z
   exact (wU (yO I sq.sq) (u9 I Jg) (by decide)).elim
  |str x=>simp only[Rep] at q;have z:=q.1;cases z
  |_=>simp only[Rep] at q;cases q
 |.emp,e,v,h,q=>by
  simp only[Rep] at h
  obtain⟨a,o,rfl,sq⟩:=h
  cases e with
  |emp=>rfl
  |tup es=>
   simp only[Rep] at q
   obtain⟨b,us,z,Jg,r'⟩:=q
   cases z
   exact (wU (u9 I sq) (yN I Jg) (by decide)).elim
  |lst es=>
   simp only[Rep] at q
   obtain⟨b,us,z,Jg,r'⟩:=q
   cases z
   exact (wU (u9 I sq) (yO I Jg.sq) (by decide)).elim
  |str x=>simp only[Rep] at q;have z:=q.1;cases z
  |_=>simp only[Rep] at q;cases q
theorem aR.inj (I:L2.Inv X pins σ H s):∀ {ds es:List Dt} {vs:List V},aR X.K H ds vs->aR X.K H es vs->ds=es
 |[],es,vs,h,q=>by
  simp only[aR] at h;subst h
  cases es with
  |nil=>rfl
  |cons e es=>simp only[aR] at q;obtain⟨_,_,z,_⟩:=q;cases z
 |d::ds,es,vs,h,q=>by
  simp only[aR] at h
  obtain⟨v,r,rfl,h1,h2⟩:=h
  cases es with
  |nil=>simp only[aR] at q;cases q
  |cons e es=>
   simp only[aR] at q
   obtain⟨v',r',z,q1,q2⟩:=q
   cases z
   rw[Rep.inj I h1 q1,aR.inj I h2 q2]
end
theorem Wh (I:L2.Inv X pins σ H s):∀ (n:Nat) {A:Around} {d e:Dt} {x y:V} {u v:Value} {k:Bool},min (oG d) (oG e)<=n->A.units+n < cLine->Rep X.K H d x->Rep X.K H e y->RelV x u->RelV y v->lW d e=some k->EqAt A s u v k:=by
 intro n
 induction n with
 |zero=>
  intro A d e x y u v k hn
  have h1:1<=oG d:=by cases d<;>simp only[oG]<;>omega
  have h2:1<=oG e:=by cases e<;>simp only[oG]<;>omega
  omega
 |succ n ih=>
  intro A d e x y u v k hn hA rd re ru rv ek
  have hu:A.units < cLine:=by omega
  by_cases hxy:u=v/\∃ a,u=.ref a
  ·obtain⟨rfl,a,rfl⟩:=hxy
   have hx:x=.ref a:=by have:=ru.abs;simpa [W9] using this.symm
   have hy:y=.ref a:=by have:=rv.abs;simpa [W9] using this.symm
   subst hx hy
   have:=Rep.inj I rd re
   subst this
   rw[zy ek]
   exact EqAt.same _
  ·have items:∀ {ds es:List Dt} {vs us:List V} {its its2:List Value} {f:Nat->Bool},min (qQ ds) (qQ es)<=n->aR X.K H ds vs->aR X.K H es us->Vals vs its->Vals us its2->(∀ (j:Nat) x y,ds[j]?=some x->es[j]?=some y->lW x y=some (f j)) →
     ∀ j (h1:j < its.toArray.size) (h2:j < its2.toArray.size),EqAt A.in1 s its.toArray[j] its2.toArray[j] (f j):=by
    intro ds es vs us its its2 f hm r1 r2 w1 w2 hf j h1 h2
    have l1:=w1.length
    have l2:=w2.length
    have l3:=r1.length
    have l4:=r2.length
    have j1:j < its.length:=by simpa using h1
    have j2:j < its2.length:=by simpa using h2
    have d1:ds[j]?=some ds[j]:=by simp
    have d2:es[j]?=some es[j]:=by simp
    obtain⟨a,ea,ra⟩:=r1.get d1
    obtain⟨b,eb,rb⟩:=r2.get d2
    obtain⟨p,ep,rp⟩:=w1.get ea
    obtain⟨q,eq,rq⟩:=w2.get eb
    have e1:its.toArray[j]=p:=by simpa [j1] using ep
    have e2:its2.toArray[j]=q:=by simpa [j2] using eq
    rw[e1,e2]
    have m1:=rD d1
    have m2:=rD d2
    exact ih (by omega) (by rw[units_in1];omega) ra rb rp rq (hf j _ _ d1 d2)
   cases d with
   |non=>
    cases rd;cases ru
    cases e with
    |non=>cases re;cases rv;cases ek;exact EqAt.same _
    |bl b=>cases re;cases rv;cases ek;exact EqAt.none_bool b
    |int b=>cases re;obtain⟨t,rfl⟩:=rv;cases ek;exact EqAt.none_int b t
    |str b=>obtain⟨rfl,_⟩:=re;obtain⟨t,rfl⟩:=rv;cases ek;exact EqAt.none_str b t
    |tup es=>obtain⟨b,us,rfl,sq,_⟩:=re;cases rv;cases ek;obtain⟨_,_,p,_⟩:=I.tuple sq;exact EqAt.none_tuple p hu
    |lst es=>obtain⟨b,us,rfl,sq,_⟩:=re;cases rv;cases ek;obtain⟨_,_,p,_⟩:=I.list sq.sq;exact EqAt.none_list p.isList hu
    |emp=>cases ek
   |bl a=>
    cases rd;cases ru
    cases e with
    |non=>cases re;cases rv;cases ek;exact EqAt.bool_none a
    |bl b=>cases re;cases rv;cases ek;exact EqAt.bool_bool a b
    |int b=>cases re;obtain⟨t,rfl⟩:=rv;cases ek;exact EqAt.bool_int a b t
    |str b=>obtain⟨rfl,_⟩:=re;obtain⟨t,rfl⟩:=rv;cases ek;exact EqAt.bool_str a b t
    |tup es=>obtain⟨b,us,rfl,sq,_⟩:=re;cases rv;cases ek;obtain⟨_,_,p,_⟩:=I.tuple sq;exact EqAt.bool_tuple a p hu
    |lst es=>obtain⟨b,us,rfl,sq,_⟩:=re;cases rv;cases ek;obtain⟨_,_,p,_⟩:=I.list sq.sq;exact EqAt.bool_list a p.isList hu
    |emp=>cases ek
   |int a=>
    cases rd;obtain⟨t',rfl⟩:=ru
    cases e with
    |non=>cases re;cases rv;cases ek;exact EqAt.int_none a t'
    |bl b=>cases re;cases rv;cases ek;exact EqAt.int_bool a t' b
    |int b=>cases re;obtain⟨t,rfl⟩:=rv;cases ek;exact EqAt.int_int a t' b t
    |str b=>obtain⟨rfl,_⟩:=re;obtain⟨t,rfl⟩:=rv;cases ek;exact EqAt.int_str a t' b t
    |tup es=>obtain⟨b,us,rfl,sq,_⟩:=re;cases rv;cases ek;obtain⟨_,_,p,_⟩:=I.tuple sq;exact EqAt.int_tuple a t' p hu
    |lst es=>obtain⟨b,us,rfl,sq,_⟩:=re;cases rv;cases ek;obtain⟨_,_,p,_⟩:=I.list sq.sq;exact EqAt.int_list a t' p.isList hu
    |emp=>cases ek
   |str a=>
    obtain⟨rfl,_⟩:=rd;obtain⟨t',rfl⟩:=ru
    cases e with
    |non=>cases re;cases rv;cases ek;exact EqAt.str_none a t'
    |bl b=>cases re;cases rv;cases ek;exact EqAt.str_bool a t' b
    |int b=>cases re;obtain⟨t,rfl⟩:=rv;cases ek;exact EqAt.str_int a t' b t
    |str b=>obtain⟨rfl,_⟩:=re;obtain⟨t,rfl⟩:=rv;cases ek;exact EqAt.str_str a t' b t
    |tup es=>obtain⟨b,us,rfl,sq,_⟩:=re;cases rv;cases ek;obtain⟨_,_,p,_⟩:=I.tuple sq;exact EqAt.str_tuple a t' p hu
    |lst es=>obtain⟨b,us,rfl,sq,_⟩:=re;cases rv;cases ek;obtain⟨_,_,p,_⟩:=I.list sq.sq;exact EqAt.str_list a t' p.isList hu
    |emp=>
     simp only[Rep] at re
     obtain⟨p,o,rfl,e⟩:=re;cases rv;cases ek
     obtain⟨_,_,vs,r,q⟩:=um I.hok (.inr ⟨o,e⟩)
     exact Mq a t' (u6 rfl r q) hu
   |tup ds=>
    obtain⟨a,vs,rfl,sa,ra⟩:=rd;cases ru
    obtain⟨its,wv,p,_⟩:=I.tuple sa
    cases e with
    |non=>cases re;cases rv;cases ek;exact EqAt.tuple_none p hu
    |bl b=>cases re;cases rv;cases ek;exact EqAt.tuple_bool b p hu
    |int b=>cases re;obtain⟨t,rfl⟩:=rv;cases ek;exact EqAt.tuple_int b t p hu
    |str b=>obtain⟨rfl,_⟩:=re;obtain⟨t,rfl⟩:=rv;cases ek;exact EqAt.tuple_str b t p hu
    |lst es=>obtain⟨b,us,rfl,sq,_⟩:=re;cases rv;cases ek;obtain⟨_,_,p2,_⟩:=I.list sq.sq;exact EqAt.tuple_list p p2.isList hu
    |tup es=>
     obtain⟨b,us,rfl,sb,rb⟩:=re;cases rv
     obtain⟨its2,wu,p2,_⟩:=I.tuple sb
     change jU _ _=some _ at ek
     obtain⟨f,hf,rfl⟩:=rC ek
     have hne:a≠b:=fun z=>hxy ⟨by rw[z],a,rfl⟩
     have z:=EqAt.of_refs hne (RcAt.tuples (A:=A) (e:=f) p p2 hu (items (by simp only[oG] at hn;omega) ra rb wv wu hf))
     have q1:its.toArray.size=ds.length:=by rw[zo,<-wv.length,ra.length]
     have q2:its2.toArray.size=es.length:=by rw[zo,<-wu.length,rb.length]
     rw[q1,q2] at z
     exact z
    |emp=>cases ek
   |lst ds=>
    obtain⟨a,vs,rfl,sa,ra⟩:=rd;cases ru
    obtain⟨its,wv,p,_⟩:=I.list sa.sq
    cases e with
    |non=>cases re;cases rv;cases ek;exact EqAt.list_none p.isList hu
    |bl b=>cases re;cases rv;cases ek;exact EqAt.list_bool b p.isList hu
    |int b=>cases re;obtain⟨t,rfl⟩:=rv;cases ek;exact EqAt.list_int b t p.isList hu
    |str b=>obtain⟨rfl,_⟩:=re;obtain⟨t,rfl⟩:=rv;cases ek;exact EqAt.list_str b t p.isList hu
    |tup es=>obtain⟨b,us,rfl,sq,_⟩:=re;cases rv;cases ek;obtain⟨_,_,p2,_⟩:=I.tuple sq;exact EqAt.list_tuple p.isList p2 hu
    |lst es=>
     obtain⟨b,us,rfl,sb,rb⟩:=re;cases rv
     obtain⟨its2,wu,p2,_⟩:=I.list sb.sq
     change jU _ _=some _ at ek
     obtain⟨f,hf,rfl⟩:=rC ek
     have hne:a≠b:=fun z=>hxy ⟨by rw[z],a,rfl⟩
     have q1:its.toArray.size=ds.length:=by rw[zo,<-wv.length,ra.length]
     have q2:its2.toArray.size=es.length:=by rw[zo,<-wu.length,rb.length]
     by_cases hsz:its.toArray.size=its2.toArray.size
     ·have z:=EqAt.of_refs hne (RcAt.lists (A:=A) (e:=f) p.isList p2.isList hsz hu (items (by simp only[oG] at hn;omega) ra rb wv wu hf))
      have hl:ds.length=es.length:=by omega
      rw[q1] at z
      rw[hl,Nat.min_self,beq_self_eq_true,ke,<-hl]
      exact z
     ·have hl:(ds.length==es.length)=false:=by rw[beq_eq_false_iff_ne];omega
      rw[hl,Bool.and_false]
      exact EqAt.of_refs hne (RcAt.lists_lengths p.isList p2.isList (by simpa using hsz) hu)
    |emp=>cases ek
   |emp=>
    cases e<;>first|(cases ek;done)|skip
    simp only[Rep] at rd re
    obtain⟨a,o,rfl,e1⟩:=rd
    obtain⟨b,o',rfl,e2⟩:=re
    cases ru;cases rv;cases ek
    obtain⟨_,m1,vs,r,q⟩:=um I.hok (.inr ⟨o,e1⟩)
    obtain⟨_,m2,vs',r',q'⟩:=um I.hok (.inr ⟨o',e2⟩)
    exact EqAt.of_refs (fun z=>hxy ⟨by rw[z],a,rfl⟩) (Wg m1 m2 (u6 rfl r q) (u6 rfl r' q') hu)
theorem Gu (I:L2.Inv X pins σ H s) {n:Nat} {A:Around} {ds es:List Dt} {vs us:List V} {its its2:List Value} {f:Nat->Bool} (hm:min (qQ ds) (qQ es)<=n) (hA:A.units+n+1 < cLine) (r1:aR X.K H ds vs) (r2:aR X.K H es us) (w1:Vals vs its) (w2:Vals us its2)
  (hf:∀ (j:Nat) x y,ds[j]?=some x->es[j]?=some y->lW x y=some (f j)):∀ j (h1:j < its.toArray.size) (h2:j < its2.toArray.size),EqAt A.in1 s its.toArray[j] its2.toArray[j] (f j):=by
 intro j h1 h2
 have l1:=w1.length
 have l2:=w2.length
 have l3:=r1.length
 have l4:=r2.length
 have j1:j < its.length:=by simpa using h1
 have j2:j < its2.length:=by simpa using h2
 have d1:ds[j]?=some (ds[j]'(by omega)):=by simp
 have d2:es[j]?=some (es[j]'(by omega)):=by simp
 obtain⟨a,ea,ra⟩:=r1.get d1
 obtain⟨b,eb,rb⟩:=r2.get d2
 obtain⟨p,ep,rp⟩:=w1.get ea
 obtain⟨q,eq,rq⟩:=w2.get eb
 have e1:its.toArray[j]=p:=by simpa [j1] using ep
 have e2:its2.toArray[j]=q:=by simpa [j2] using eq
 rw[e1,e2]
 have m1:=rD d1
 have m2:=rD d2
 exact Wh I n (by omega) (by rw[units_in1];omega) ra rb rp rq (hf j _ _ d1 d2)
end
def wV (K:FG_) (H:Hp):Dt->V->Prop
 |.lst ds,v=>∃ a vs,v=.ref a/\pW K H a vs/\aR K H ds vs
 |d,v=>Rep K H d v
def nG:Bx->Bool
 |.n _=>true
 |.m _ _=>true
 |_=>false
def toD:Bx->Dt
 |.z d=>d
 |.l ds=>.lst ds
 |.o ds=>.lst ds
 |.n _=>.non
 |.m _ _=>.non
theorem bh.toD {K:FG_} {H:Hp} {b:Bx} {v:V} (h:bh K H b v) (hm:nG b=false):wV K H (toD b) v:=by
 cases b with
 |z d=>
  cases d with
  |lst ds=>exact h.Cr rfl
  |_=>exact h
 |l ds=>exact h.Cr rfl
 |o ds=>exact h.Cr rfl
 |n _=>cases hm
 |m _ _=>cases hm
section
variable {X:Cx} {pins:List (Addr×Obj)} {σ:L2.St} {H:Hp} {s:Shared}
theorem Ka (I:L2.Inv X pins σ H s) {d e:Dt} {x y:V} {u v:Value} {k:Bool} (hm:min (oG d) (oG e)<=100) (hA:X.A.units+100 < cLine) (rd:wV X.K H d x) (re:wV X.K H e y) (ru:RelV x u) (rv:RelV y v) (ek:lW d e=some k):RcAt X.A s u v k/\RcNeAt X.A s u v (!k):=by
 have hu:X.A.units < cLine:=by omega
 cases d with
 |non=>
  cases rd;cases ru
  cases e with
  |non=>
   cases re;cases rv
   cases ek
   exact⟨.none_none,.none_none⟩
  |bl x2=>
   cases re;cases rv
   cases ek
   exact⟨.none_bool x2,.none_bool x2⟩
  |int x2=>
   cases re;obtain⟨t2,rfl⟩:=rv
   cases ek
   exact⟨.none_int x2 t2,.none_int x2 t2⟩
  |str x2=>
   obtain⟨rfl,_⟩:=re;obtain⟨t2,rfl⟩:=rv
   cases ek
   exact⟨.none_str x2 t2,.none_str x2 t2⟩
  |tup x2=>
   obtain⟨a2,vs2,rfl,zA,Jh⟩:=re;cases rv;obtain⟨its2,w2,p2,_⟩:=I.tuple zA
   cases ek
   exact⟨.none_tuple p2 hu,.none_tuple p2 hu⟩
  |lst x2=>
   obtain⟨a2,vs2,rfl,zA,Jh⟩:=re;cases rv;obtain⟨its2,w2,p2,_⟩:=I.list zA
   cases ek
   exact⟨.none_list p2.isList hu,.none_list p2.isList hu⟩
  |emp=>cases ek
 |bl x1=>
  cases rd;cases ru
  cases e with
  |non=>
   cases re;cases rv
   cases ek
   exact⟨.bool_none x1,.bool_none x1⟩
  |bl x2=>
   cases re;cases rv
   cases ek
   exact⟨.bool_bool x1 x2,.bool_bool x1 x2⟩
  |int x2=>
   cases re;obtain⟨t2,rfl⟩:=rv
   cases ek
   exact⟨.bool_int x1 x2 t2,.bool_int x1 x2 t2⟩
  |str x2=>
   obtain⟨rfl,_⟩:=re;obtain⟨t2,rfl⟩:=rv
   cases ek
   exact⟨.bool_str x1 x2 t2,.bool_str x1 x2 t2⟩
  |tup x2=>
   obtain⟨a2,vs2,rfl,zA,Jh⟩:=re;cases rv;obtain⟨its2,w2,p2,_⟩:=I.tuple zA
   cases ek
   exact⟨.bool_tuple x1 p2 hu,.bool_tuple x1 p2 hu⟩
  |lst x2=>
   obtain⟨a2,vs2,rfl,zA,Jh⟩:=re;cases rv;obtain⟨its2,w2,p2,_⟩:=I.list zA
   cases ek
   exact⟨.bool_list x1 p2.isList hu,.bool_list x1 p2.isList hu⟩
  |emp=>cases ek
 |int x1=>
  cases rd;obtain⟨t1,rfl⟩:=ru
  cases e with
  |non=>
   cases re;cases rv
   cases ek
   exact⟨.int_none x1 t1,.int_none x1 t1⟩
  |bl x2=>
   cases re;cases rv
   cases ek
   exact⟨.int_bool x1 t1 x2,.int_bool x1 t1 x2⟩
  |int x2=>
   cases re;obtain⟨t2,rfl⟩:=rv
   cases ek
   exact⟨.int_int x1 t1 x2 t2,.int_int x1 t1 x2 t2⟩
  |str x2=>
   obtain⟨rfl,_⟩:=re;obtain⟨t2,rfl⟩:=rv
   cases ek
   exact⟨.int_str x1 t1 x2 t2,.int_str x1 t1 x2 t2⟩
  |tup x2=>
   obtain⟨a2,vs2,rfl,zA,Jh⟩:=re;cases rv;obtain⟨its2,w2,p2,_⟩:=I.tuple zA
   cases ek
   exact⟨.int_tuple x1 t1 p2 hu,.int_tuple x1 t1 p2 hu⟩
  |lst x2=>
   obtain⟨a2,vs2,rfl,zA,Jh⟩:=re;cases rv;obtain⟨its2,w2,p2,_⟩:=I.list zA
   cases ek
   exact⟨.int_list x1 t1 p2.isList hu,.int_list x1 t1 p2.isList hu⟩
  |emp=>cases ek
 |str x1=>
  obtain⟨rfl,_⟩:=rd;obtain⟨t1,rfl⟩:=ru
  cases e with
  |non=>
   cases re;cases rv
   cases ek
   exact⟨.str_none x1 t1,.str_none x1 t1⟩
  |bl x2=>
   cases re;cases rv
   cases ek
   exact⟨.str_bool x1 t1 x2,.str_bool x1 t1 x2⟩
  |int x2=>
   cases re;obtain⟨t2,rfl⟩:=rv
   cases ek
   exact⟨.str_int x1 t1 x2 t2,.str_int x1 t1 x2 t2⟩
  |str x2=>
   obtain⟨rfl,_⟩:=re;obtain⟨t2,rfl⟩:=rv
   cases ek
   exact⟨.str_str x1 t1 x2 t2,.str_str x1 t1 x2 t2⟩
  |tup x2=>
   obtain⟨a2,vs2,rfl,zA,Jh⟩:=re;cases rv;obtain⟨its2,w2,p2,_⟩:=I.tuple zA
   cases ek
   exact⟨.str_tuple x1 t1 p2 hu,.str_tuple x1 t1 p2 hu⟩
  |lst x2=>
   obtain⟨a2,vs2,rfl,zA,Jh⟩:=re;cases rv;obtain⟨its2,w2,p2,_⟩:=I.list zA
   cases ek
   exact⟨.str_list x1 t1 p2.isList hu,.str_list x1 t1 p2.isList hu⟩
  |emp=>
   simp only[wV,Rep] at re
   obtain⟨p,o,rfl,e⟩:=re;cases rv;cases ek
   obtain⟨_,_,vs,r,q⟩:=um I.hok (.inr ⟨o,e⟩)
   exact⟨Cy x1 t1 (u6 rfl r q) hu,Mp x1 t1 (u6 rfl r q) hu⟩
 |tup x1=>
  obtain⟨a1,vs1,rfl,sq1,rr1⟩:=rd;cases ru;obtain⟨Ua,w1,p1,_⟩:=I.tuple sq1
  cases e with
  |non=>
   cases re;cases rv
   cases ek
   exact⟨.tuple_none p1 hu,.tuple_none p1 hu⟩
  |bl x2=>
   cases re;cases rv
   cases ek
   exact⟨.tuple_bool x2 p1 hu,.tuple_bool x2 p1 hu⟩
  |int x2=>
   cases re;obtain⟨t2,rfl⟩:=rv
   cases ek
   exact⟨.tuple_int x2 t2 p1 hu,.tuple_int x2 t2 p1 hu⟩
  |str x2=>
   obtain⟨rfl,_⟩:=re;obtain⟨t2,rfl⟩:=rv
   cases ek
   exact⟨.tuple_str x2 t2 p1 hu,.tuple_str x2 t2 p1 hu⟩
  |tup x2=>
   obtain⟨a2,vs2,rfl,zA,Jh⟩:=re;cases rv;obtain⟨its2,w2,p2,_⟩:=I.tuple zA
   change jU _ _=some _ at ek
   obtain⟨f,hf,rfl⟩:=rC ek
   have q1:Ua.toArray.size=x1.length:=by rw[zo,<-w1.length,rr1.length]
   have q2:its2.toArray.size=x2.length:=by rw[zo,<-w2.length,Jh.length]
   have it:=Gu I (n:=99) (A:=X.A) (by simp only[oG] at hm;omega) (by omega) rr1 Jh w1 w2 hf
   rw[<-q1,<-q2]
   exact⟨.tuples p1 p2 hu it,.tuples p1 p2 hu it⟩
  |lst x2=>
   obtain⟨a2,vs2,rfl,zA,Jh⟩:=re;cases rv;obtain⟨its2,w2,p2,_⟩:=I.list zA
   cases ek
   exact⟨.tuple_list p1 p2.isList hu,.tuple_list p1 p2.isList hu⟩
  |emp=>cases ek
 |lst x1=>
  obtain⟨a1,vs1,rfl,sq1,rr1⟩:=rd;cases ru;obtain⟨Ua,w1,p1,_⟩:=I.list sq1
  cases e with
  |non=>
   cases re;cases rv
   cases ek
   exact⟨.list_none p1.isList hu,.list_none p1.isList hu⟩
  |bl x2=>
   cases re;cases rv
   cases ek
   exact⟨.list_bool x2 p1.isList hu,.list_bool x2 p1.isList hu⟩
  |int x2=>
   cases re;obtain⟨t2,rfl⟩:=rv
   cases ek
   exact⟨.list_int x2 t2 p1.isList hu,.list_int x2 t2 p1.isList hu⟩
  |str x2=>
   obtain⟨rfl,_⟩:=re;obtain⟨t2,rfl⟩:=rv
   cases ek
   exact⟨.list_str x2 t2 p1.isList hu,.list_str x2 t2 p1.isList hu⟩
  |tup x2=>
   obtain⟨a2,vs2,rfl,zA,Jh⟩:=re;cases rv;obtain⟨its2,w2,p2,_⟩:=I.tuple zA
   cases ek
   exact⟨.list_tuple p1.isList p2 hu,.list_tuple p1.isList p2 hu⟩
  |lst x2=>
   obtain⟨a2,vs2,rfl,zA,Jh⟩:=re;cases rv;obtain⟨its2,w2,p2,_⟩:=I.list zA
   change jU _ _=some _ at ek
   obtain⟨f,hf,rfl⟩:=rC ek
   have q1:Ua.toArray.size=x1.length:=by rw[zo,<-w1.length,rr1.length]
   have q2:its2.toArray.size=x2.length:=by rw[zo,<-w2.length,Jh.length]
   have it:=Gu I (n:=99) (A:=X.A) (by simp only[oG] at hm;omega) (by omega) rr1 Jh w1 w2 hf
   by_cases hsz:Ua.toArray.size=its2.toArray.size
   ·have hl:x1.length=x2.length:=by omega
    rw[hl,Nat.min_self,beq_self_eq_true,ke,<-hl,<-q1]
    exact⟨.lists p1.isList p2.isList hsz hu it,.lists p1.isList p2.isList hsz hu it⟩
   ·have hl:(x1.length==x2.length)=false:=by rw[beq_eq_false_iff_ne];omega
    rw[hl,Bool.and_false]
    exact⟨.lists_lengths p1.isList p2.isList (by simpa using hsz) hu,.lists_lengths p1.isList p2.isList (by simpa using hsz) hu⟩
  |emp=>cases ek
 |emp=>
  cases e<;>first|(cases ek;done)|skip
  simp only[wV,Rep] at rd re
  obtain⟨a,o,rfl,e1⟩:=rd
  obtain⟨b,o',rfl,e2⟩:=re
  cases ru;cases rv;cases ek
  obtain⟨_,m1,vs,r,q⟩:=um I.hok (.inr ⟨o,e1⟩)
  obtain⟨_,m2,vs',r',q'⟩:=um I.hok (.inr ⟨o',e2⟩)
  exact⟨Wg m1 m2 (u6 rfl r q) (u6 rfl r' q') hu,aaG m1 m2 (u6 rfl r q) (u6 rfl r' q') hu⟩
def eqB (a b:Bx):Option Bx:=if nG a=true\/nG b=true then none else if min (oG (toD a)) (oG (toD b))<=100 then (lW (toD a) (toD b)).bind fun k=>some (.z (.bl k)) else none
def Ie (a b:Bx):Option Bx:=if nG a=true\/nG b=true then none else if min (oG (toD a)) (oG (toD b))<=100 then (lW (toD a) (toD b)).bind fun k=>some (.z (.bl (!k))) else none
theorem of_eq (hu:X.A.units+100 < cLine):Cu X (compareOp .Eq) eqB:=by
 intro pins s σ H x y v u Q I rx ry h
 obtain⟨a,b,c,ra,rb,e,q⟩:=h
 unfold eqB at e
 split at e
 ·cases e
 rename_i hz
 have ha:nG a=false:=by cases h:nG a with|false=>rfl|true=>exact absurd (.inl h) hz
 have hb:nG b=false:=by cases h:nG b with|false=>rfl|true=>exact absurd (.inr h) hz
 split at e
 ·rename_i hm
  obtain⟨k,ek,e⟩:=bind_some e
  cases e
  exact (Ka I hm hu (ra.toD ha) (rb.toD hb) rx ry ek).1 X.prog X.w X.xe _ ⟨.bl k,H,I,rfl,q _ H (Same.refl H) trivial (by unfold bh Rep;rfl)⟩
 ·cases e
theorem Gv (hu:X.A.units+100 < cLine):Cu X (compareOp .NotEq) Ie:=by
 intro pins s σ H x y v u Q I rx ry h
 obtain⟨a,b,c,ra,rb,e,q⟩:=h
 unfold Ie at e
 split at e
 ·cases e
 rename_i hz
 have ha:nG a=false:=by cases h:nG a with|false=>rfl|true=>exact absurd (.inl h) hz
 have hb:nG b=false:=by cases h:nG b with|false=>rfl|true=>exact absurd (.inr h) hz
 split at e
 ·rename_i hm
  obtain⟨k,ek,e⟩:=bind_some e
  cases e
  exact (Ka I hm hu (ra.toD ha) (rb.toD hb) rx ry ek).2 X.prog X.w X.xe _ ⟨.bl (!k),H,I,rfl,q _ H (Same.refl H) trivial (by unfold bh Rep;rfl)⟩
 ·cases e
theorem Ji {K:FG_} {H:Hp} {i:Int}:bh K H (.z (.int i)) (.int i):=by unfold bh Rep;rfl
theorem Mr {K:FG_} {H:Hp} {b:Bool}:bh K H (.z (.bl b)) (.bl b):=by unfold bh Rep;rfl
theorem Ub {K:FG_} {H:Hp} {x:Str} (h:x.length<=sizeLine):bh K H (.z (.str x)) (.str x):=by unfold bh Rep;exact⟨rfl,h⟩
theorem Kc {K:FG_} {H:Hp} {i:Int} {v:V} (h:bh K H (.z (.int i)) v):v=.int i:=by simpa only[bh,Rep] using h
theorem Qg {K:FG_} {H:Hp} {x:Str} {v:V} (h:bh K H (.z (.str x)) v):v=.str x/\x.length<=sizeLine:=by simpa only[bh,Rep] using h
theorem inT {K:FG_} {H:Hp} {ds:List Dt} {v:V} (h:bh K H (.z (.tup ds)) v):∃ a vs,v=.ref a/\uP K H a vs/\aR K H ds vs:=by simpa only[bh,Rep] using h
def i2 (g:Int->Int->Option Dt):Bx->Bx->Option Bx
 |.z (.int i),.z (.int j)=>(g i j).bind fun d=>some (.z d)
 |_,_=>none
theorem Cz {f:Value->Value->Sem Value} {r:R2} {g:Int->Int->Option Dt} (ho:tM X f r) (h:∀ i j d H Q,g i j=some d->(∀ v,Rep X.K H d v->Q v H)->r (.int i) (.int j) H Q):Cu X f (i2 g):=tM.imp ho fun x y H Q q=>by
 obtain⟨a,b,c,ra,rb,e,q⟩:=q
 unfold i2 at e
 split at e
 ·rename_i i j
  obtain⟨d,ed,e⟩:=bind_some e
  cases e
  rw[Kc ra,Kc rb]
  exact h i j d H Q ed fun v rv=>q v H (Same.refl H) trivial rv
 ·cases e
theorem okI {K:FG_} {H:Hp} {i:Int}:Rep K H (.int i) (.int i):=by unfold Rep;rfl
theorem okT {K:FG_} {H:Hp} {b:Bool}:Rep K H (.bl b) (.bl b):=by unfold Rep;rfl
abbrev leB:=i2 fun i j=>some (.bl (decide (i<=j)))
abbrev gtB:=i2 fun i j=>some (.bl (decide (j < i)))
abbrev geB:=i2 fun i j=>some (.bl (decide (j<=i)))
abbrev o8:=i2 fun i j=>if 0 < j/\j < 1073741824 then some (.int (i / j)) else none
abbrev gD:=i2 fun i j=>if 0 < j then some (.int (i % j)) else none
abbrev Uc:=i2 fun i j=>if 0<=j/\j<=1000/\i.natAbs < 2 ^ 64 then some (.int (i ^ j.toNat)) else none
theorem of_le:Cu X (compareOp .LtE) leB:=Cz Z4 fun i j d H Q e q=>by cases e;exact⟨i,j,rfl,rfl,q _ okT⟩
theorem aaJ:Cu X (compareOp .Gt) gtB:=Cz Z5 fun i j d H Q e q=>by cases e;exact⟨i,j,rfl,rfl,q _ okT⟩
theorem aaK:Cu X (compareOp .GtE) geB:=Cz Z6 fun i j d H Q e q=>by cases e;exact⟨i,j,rfl,rfl,q _ okT⟩
theorem lY:Cu X (binaryOp .FloorDiv) o8:=Cz S5 fun i j d H Q e q=>by
 split at e
 ·rename_i h;cases e;exact⟨i,j,rfl,rfl,h,q _ okI⟩
 ·cases e
theorem cF:Cu X (binaryOp .Mod) gD:=Cz Xh fun i j d H Q e q=>by
 split at e
 ·rename_i h;cases e;exact⟨i,j,rfl,rfl,h,q _ okI⟩
 ·cases e
theorem Yb:Cu X (binaryOp .Pow) Uc:=Cz Xi fun i j d H Q e q=>by
 split at e
 ·rename_i h;cases e;exact⟨i,j,rfl,rfl,⟨h.1,by omega,h.2.2⟩,q _ okI⟩
 ·cases e
def Gw:Nat:=1000000
theorem Ud:Gw<=sizeLine:=by decide
theorem Yc {l b:Addr} {vs us:List V} {Q:VK} (I:L2.Inv X pins σ H s) (hl:pW X.K H l vs) (hb:pW X.K H b us) (hz:vs.length+us.length<=sizeLine) (q:∀ p,H p=none->Q (.ref p) (upd H p (.lst (vs++us)))) :
  wpAny (model X.prog X.w) X.A (binaryOp .Add (.ref l) (.ref b)) (EP X pins σ Q) X.xe s:=by
 obtain⟨its,r1,⟨⟨cls,dd,data,sl⟩,n1,e1,c1,d1,dd1⟩,z1⟩:=I.list hl
 obtain⟨its2,r2,⟨⟨cls2,dd2,data2,sl2⟩,n2,e2,c2,d2,Qh⟩,z2⟩:=I.list hb
 simp only at c1 d1 dd1 c2 d2 Qh
 subst c1 d1 dd1 c2 d2 Qh
 have l1:=r1.length
 have l2:=r2.length
 have e:its.toArray++its2.toArray=(its++its2).toArray:=by simp
 refine concat_meets ⟨_,e1,rfl⟩ ⟨_,e2,rfl⟩ noFill_list_add seq_list_add PySem.F.slot_list_add PySem.F.entry_list_add (PySem.F.args_list_add_2 _ _) (list_addW l b its.toArray its2.toArray n1 n2 none none sl sl2 (by rw[zo,zo];omega)) ⟨e1,e2,?_⟩
 rw[e]
 exact⟨.ref s.heap.objs.size,_,I.laid (t':=s.toks) (o:=.lst (vs++us)) (fun b ob q=>zd _ q) (zk _) ⟨by rw[zS];exact hz,_,0,r1.append r2,zC _ rfl⟩,rfl,q _ (I.hok.fresh (zk _))⟩
theorem Yd {l b:Addr} {vs us:List V} {Q:VK} (I:L2.Inv X pins σ H s) (hl:uP X.K H l vs) (hb:uP X.K H b us) (hz:vs.length+us.length<=sizeLine) (q0:vs=[]->Q (.ref b) H) (q1:us=[]->Q (.ref l) H) (q2:∀ p,H p=none->Q (.ref p) (upd H p (.tup (vs++us)))) :
  wpAny (model X.prog X.w) X.A (binaryOp .Add (.ref l) (.ref b)) (EP X pins σ Q) X.xe s:=by
 by_cases hv:vs=[]
 ·obtain⟨its,r1,⟨⟨cls,dd,data,sl⟩,e1,c1,n1,dd1⟩,z1⟩:=I.tuple hl
  obtain⟨its2,r2,⟨⟨cls2,dd2,data2,sl2⟩,e2,c2,n2,Qh⟩,z2⟩:=I.tuple hb
  simp only at c1 dd1 c2 Qh
  subst c1 dd1 c2 Qh
  have:its=[]:=r1.yK.mpr hv
  exact concat_meets ⟨_,e1,rfl⟩ ⟨_,e2,rfl⟩ noFill_tuple_add seq_tuple_add PySem.F.slot_tuple_add kM (kH _ _)
   (tuple_addW0 l b its.toArray its2.toArray n1 n2 dd dd2 sl sl2 (by simp[this])) ⟨e1,e2,⟨.ref b,H,I,rfl,q0 hv⟩⟩
 ·exact Tf pins s σ H (.ref l) (.ref b) (.ref l) (.ref b) Q I rfl rfl ⟨l,b,vs,us,rfl,rfl,hl,hb,hv,hz,q1,fun _=>q2⟩
def bQ:Bx->Bx->Option Bx
 |.z (.int i),.z (.int j)=>some (.z (.int (i+j)))
 |.z (.str i),.z (.str j)=>if i.length+j.length<=Gw then some (.z (.str (i++j))) else none
 |.z (.tup xs),.z (.tup ys)=>if xs.length+ys.length<=Gw then some (.z (.tup (xs++ys))) else none
 |a,b=>(oX a).bind fun xs=>(oX b).bind fun ys=>if xs.length+ys.length<=Gw then some (.o (xs++ys)) else none
theorem str_len (i j:Str):(i++j).length=i.length+j.length:=by
 show (i.cps++j.cps).size=_
 rw[kF];rfl
theorem bf:Cu X (binaryOp .Add) bQ:=by
 intro pins s σ H x y v u Q I rx ry h
 obtain⟨a,b,c,ra,rb,e,q⟩:=h
 have hbig:=Ud
 unfold bQ at e
 split at e
 ·rename_i i j
  cases e
  exact Xf pins s σ H x y v u Q I rx ry ⟨i,j,Kc ra,Kc rb,q _ H (Same.refl H) trivial Ji⟩
 ·rename_i i j
  split at e
  ·rename_i hl
   cases e
   exact Im pins s σ H x y v u Q I rx ry ⟨i,j,(Qg ra).1,(Qg rb).1,by omega,q _ H (Same.refl H) trivial (Ub (by rw[str_len];omega))⟩
  ·cases e
 ·rename_i xs ys
  split at e
  ·rename_i hl
   cases e
   obtain⟨l,vs,rfl,sl,rl⟩:=inT ra
   obtain⟨m,us,rfl,sm,rm⟩:=inT rb
   cases rx
   cases ry
   have h1:=rl.length
   have h2:=rm.length
   refine Yd I sl sm (by omega) (fun z=>q _ H (Same.refl H) trivial ?_) (fun z=>q _ H (Same.refl H) trivial ?_) fun p hp=>q _ _ (bJ hp) trivial ?_
   ·unfold bh Rep
    refine⟨m,us,rfl,sm,?_⟩
    have:xs=[]:=by subst z;exact List.eq_nil_of_length_eq_zero (by simpa using h1.symm)
    rw[this,kl];exact rm
   ·unfold bh Rep
    refine⟨l,vs,rfl,sl,?_⟩
    have:ys=[]:=by subst z;exact List.eq_nil_of_length_eq_zero (by simpa using h2.symm)
    rw[this,qB];exact rl
   ·unfold bh Rep
    exact⟨p,_,rfl,.inl (.inl aU),(rl.append rm).kp (.of (bJ hp))⟩
  ·cases e
 ·obtain⟨xs,ea,e⟩:=bind_some e
  obtain⟨ys,eb,e⟩:=bind_some e
  split at e
  ·rename_i hl
   cases e
   obtain⟨l,vs,rfl,sl,rl⟩:=ra.Cr ea
   obtain⟨m,us,rfl,sm,rm⟩:=rb.Cr eb
   cases rx
   cases ry
   have h1:=rl.length
   have h2:=rm.length
   refine Yc I sl sm (by omega) fun p hp=>q _ _ (bJ hp) (fun a ea=>by cases ea;exact hp) ⟨p,_,rfl,aU,(rl.append rm).kp (.of (bJ hp))⟩
  ·cases e
def mR:Bx->Bx->Option Bx
 |.z (.int i),.z (.int j)=>if (-(2 ^ 64) < i/\i < 2 ^ 64)\/(-(2 ^ 64) < j/\j < 2 ^ 64) then some (.z (.int (i * j))) else none
 |.z (.str x),.z (.int n)=>if n<=1000 ∧ -1000<=n/\x.length<=1000 then some (.z (.str (Txt.mul x n))) else none
 |_,_=>none
theorem uq (x:Array Nat):∀ (n:Nat) (acc:Array Nat),((List.replicate n x).foldl (·++·) acc).size=acc.size+n * x.size
 |0,acc=>by simp
 |n+1,acc=>by
  rw[ko,ja,uq x n,kF,Nat.succ_mul]
  omega
theorem Em (x:Str) (n:Int):(Txt.mul x n).length<=n.toNat * x.length+x.length:=by
 unfold Txt.mul
 split
 ·exact Qr _
 ·split
  ·exact Nat.le_add_left _ _
  ·show ((List.replicate n.toNat x.cps).foldl (·++·) #[]).size<=_
   rw[uq]
   show (#[]:Array Nat).size+n.toNat * x.cps.size<=n.toNat * x.cps.size+x.cps.size
   simp
theorem jD:Cu X (binaryOp .Mult) mR:=by
 intro pins s σ H x y v u Q I rx ry h
 obtain⟨a,b,c,ra,rb,e,q⟩:=h
 unfold mR at e
 split at e
 ·rename_i i j
  split at e
  ·rename_i hl
   cases e
   exact Xg pins s σ H x y v u Q I rx ry ⟨i,j,Kc ra,Kc rb,hl,q _ H (Same.refl H) trivial Ji⟩
  ·cases e
 ·rename_i x' n
  split at e
  ·rename_i hl
   cases e
   obtain⟨rfl,hx⟩:=Qg ra
   have hy:=Kc rb
   subst hy
   obtain⟨t,rfl⟩:=rx
   obtain⟨t',rfl⟩:=ry
   have hs:sizeLine=16777216:=sizeLine_eq
   have hm:n.toNat * x'.length<=1000 * 1000:=Nat.mul_le_mul (by omega) hl.2.2
   refine SB.mul ⟨?_,fun h1 h2=>?_,fun h1 h2=>?_⟩ fun t' k=>⟨.str _,H,I.tok _,⟨_,rfl⟩,q _ H (Same.refl H) trivial (Ub (zh (Em x' n) (by omega)))⟩
   ·have e1:decide (n < -(2 ^ 63:Int))=false:=ZI (by omega)
    have e2:decide (n>=2 ^ 63)=false:=ZI (by omega)
    rw[e1,e2];rfl
   ·have hn:0 < n:=by omega
    have:(1000:Int)<=(2 ^ 63 - 1) / n:=(Int.le_ediv_iff_mul_le hn).mpr (by omega)
    omega
   ·show decide (x'.length * n.toNat > sizeLine)=false
    rw[Nat.mul_comm]
    exact ZI (by omega)
  ·cases e
 ·cases e
def CG (i j:Str):Bool:=!(Builtin.Str.occurrences j i 0 j.length 1).isEmpty
def vq:Dt->Bool
 |.non=>true
 |.bl _=>true
 |.int _=>true
 |.str _=>true
 |_=>false
def memD (x:Dt) (ys:List Dt):Option Bool:=if vq x=true/\ys.all vq=true then some (ys.any fun y=>match lW y x with|some true=>true|_=>false) else none
def zB:Bx->Option (List Dt)
 |.z (.lst ds)=>some ds
 |.z (.tup ds)=>some ds
 |.l ds=>some ds
 |.o ds=>some ds
 |_=>none
def inB:Bx->Bx->Option Bool
 |.z (.str i),.z (.str j)=>some (CG i j)
 |.z d,b=>(zB b).bind fun ys=>memD d ys
 |_,_=>none
def inF (a b:Bx):Option Bx:=(inB a b).bind fun k=>some (.z (.bl k))
def Qi (a b:Bx):Option Bx:=(inB a b).bind fun k=>some (.z (.bl (!k)))
theorem Gx {K:FG_} {H:Hp} {d:Dt} {v:V} (r:Rep K H d v) (f:vq d=true):qD v=true:=by
 cases d<;>first|(cases f;done)|skip
 all_goals simp only[Rep] at r
 ·subst r;rfl
 ·subst r;rfl
 ·subst r;rfl
 ·obtain⟨rfl,_⟩:=r;rfl
theorem CJ {K:FG_} {H:Hp}:∀ {ds:List Dt} {vs:List V},aR K H ds vs->ds.all vq=true->vs.all qD=true
 |[],_,h,_=>by simp only[aR] at h;subst h;rfl
 |d::ds,_,h,f=>by
  simp only[aR] at h
  obtain⟨v,r,rfl,h1,h2⟩:=h
  rw[Jn,ZO] at f
  rw[Jn,Gx h1 f.1,CJ h2 f.2];rfl
theorem Eo (b:Bool):(match some b with|some true=>true|_=>false)=b:=by cases b<;>rfl
theorem Ue {K:FG_} {H:Hp} {d e:Dt} {x y:V} (rd:Rep K H d x) (re:Rep K H e y) (fd:vq d=true) (fe:vq e=true):Ly x y=(match lW d e with|some true=>true|_=>false):=by
 cases d<;>first|(cases fd;done)|skip
 all_goals (cases e<;>first|(cases fe;done)|skip)
 all_goals simp only[Rep] at rd re
 all_goals first
  |(subst rd;subst re;simp only[Ly,lW,Eo])
  |(obtain⟨rfl,_⟩:=rd;subst re;simp only[Ly,lW,Eo])
  |(subst rd;obtain⟨rfl,_⟩:=re;simp only[Ly,lW,Eo])
  |(obtain⟨rfl,_⟩:=rd;obtain⟨rfl,_⟩:=re;simp only[Ly,lW,Eo])
theorem Kd {K:FG_} {H:Hp} {d:Dt} {x:V} (rd:Rep K H d x) (fd:vq d=true):∀ {ds:List Dt} {vs:List V},aR K H ds vs->ds.all vq=true->inV x vs=ds.any fun y=>match lW y d with|some true=>true|_=>false
 |[],_,h,_=>by simp only[aR] at h;subst h;rfl
 |e::ds,_,h,f=>by
  simp only[aR] at h
  obtain⟨v,r,rfl,h1,h2⟩:=h
  rw[Jn,ZO] at f
  have:=Kd rd fd h2 f.2
  unfold inV at this ⊢
  rw[QN,QN,Ue h1 rd f.1 fd,this]
theorem vA {K:FG_} {H:Hp} {b:Bx} {v:V} {ds:List Dt} (h:bh K H b v) (e:zB b=some ds):∃ a vs,v=.ref a/\(pW K H a vs\/uP K H a vs)/\aR K H ds vs:=by
 cases b with
 |z d=>
  cases d<;>first|(cases e;done)|skip
  ·cases e
   obtain⟨a,vs,e,q,r⟩:=inT h
   exact⟨a,vs,e,.inr q,r⟩
  ·cases e
   obtain⟨a,vs,e,q,r⟩:=h.Cr rfl
   exact⟨a,vs,e,.inl q,r⟩
 |l ds'=>
  cases e
  obtain⟨a,vs,e,q,r⟩:=h.Cr rfl
  exact⟨a,vs,e,.inl q,r⟩
 |o ds'=>
  cases e
  obtain⟨a,vs,e,q,r⟩:=h.Cr rfl
  exact⟨a,vs,e,.inl q,r⟩
 |n _=>cases e
 |m _ _=>cases e
theorem CK {H:Hp} {a b:Bx} {x y:V} {k:Bool} (ra:bh X.K H a x) (rb:bh X.K H b y) (e:inB a b=some k) :
  (∃ i j,x=.str i/\y=.str j/\k=CG i j)\/(∃ p xs,y=.ref p/\(pW X.K H p xs\/uP X.K H p xs)/\qD x=true/\xs.all qD=true/\k=inV x xs):=by
 unfold inB at e
 split at e
 ·rename_i i j
  cases e
  exact .inl ⟨i,j,(Qg ra).1,(Qg rb).1,rfl⟩
 ·rename_i d _
  obtain⟨ys,ey,e⟩:=bind_some e
  unfold memD at e
  split at e
  ·rename_i hf
   cases e
   obtain⟨p,vs,rfl,sq,rs⟩:=vA rb ey
   have ra':Rep X.K H d x:=ra
   exact .inr ⟨p,vs,rfl,sq,Gx ra' hf.1,CJ rs hf.2,(Kd ra' hf.1 rs hf.2).symm⟩
  ·cases e
 ·cases e
theorem Wi:Cu X (compareOp .In) inF:=by
 intro pins s σ H x y v u Q I rx ry h
 obtain⟨a,b,c,ra,rb,e,q⟩:=h
 obtain⟨k,ek,e⟩:=bind_some e
 cases e
 rcases CK ra rb ek with⟨i,j,rfl,rfl,rfl⟩|⟨p,xs,rfl,sq,f1,f2,rfl⟩
 ·exact Ln pins s σ H _ _ v u Q I rx ry ⟨i,j,rfl,rfl,q _ H (Same.refl H) trivial Mr⟩
 ·exact Lz pins s σ H _ _ v u Q I rx ry ⟨p,xs,rfl,sq,f1,f2,q _ H (Same.refl H) trivial Mr⟩
theorem Gy:Cu X (compareOp .NotIn) Qi:=by
 intro pins s σ H x y v u Q I rx ry h
 obtain⟨a,b,c,ra,rb,e,q⟩:=h
 obtain⟨k,ek,e⟩:=bind_some e
 cases e
 rcases CK ra rb ek with⟨i,j,rfl,rfl,rfl⟩|⟨p,xs,rfl,sq,f1,f2,rfl⟩
 ·exact DR pins s σ H _ _ v u Q I rx ry ⟨i,j,rfl,rfl,q _ H (Same.refl H) trivial Mr⟩
 ·exact DQ pins s σ H _ _ v u Q I rx ry ⟨p,xs,rfl,sq,f1,f2,q _ H (Same.refl H) trivial Mr⟩
def gB:Bx->Bx->Option Bx
 |.z (.str x),.z (.int i)=>(Bv x.cps.toList i).bind fun c=>some (.z (.str ⟨#[c]⟩))
 |b,.z (.int i)=>(zB b).bind fun ds=>(Bv ds i).bind fun d=>some (.z d)
 |_,_=>none
theorem Ug {K:FG_} {H:Hp} {ds:List Dt} {vs:List V} {i:Int} {d:Dt} (r:aR K H ds vs) (e:Bv ds i=some d):∃ v,Bv vs i=some v/\Rep K H d v:=by
 unfold Bv at e ⊢
 rw[r.length]
 obtain⟨j,ej,e⟩:=bind_some e
 rw[ej]
 exact r.get e
theorem bB {a b:Expr} {fa fb:Ev->Option Bx} {pos:Pos} (ha:QV X a fa) (hb:QV X b fb) (hs:J5 b:=by intro _ _;with_unfolding_all rfl):QV X (.Subscript a b pos) (b2 gB fa fb):=⟨have ha:=ha.run;have hb:=hb.run;FN (aah Xv ha hb hs) fun σ H Q h=>by
 obtain⟨H0,ρ,c,E,e,q⟩:=h
 obtain⟨a,ea,e⟩:=bind_some e
 obtain⟨b,eb,e⟩:=bind_some e
 refine⟨H0,ρ,a,E,ea,fun v H1 s1 n1 r1=>⟨H0,ρ,b,E.grow s1,eb,fun u H2 s2 n2 r2=>?_⟩⟩
 have r1':=r1.same s2
 unfold gB at e
 split at e
 ·rename_i x i
  obtain⟨c',ec,e⟩:=bind_some e
  cases e
  exact .inr (.inr ⟨_,_,c',(Qg r1').1,Kc r2,(Qg r1').2,ec,q _ _ (s1.trans s2) trivial (Ub (by show (1:Nat)<=sizeLine;decide))⟩)
 ·obtain⟨ds,ed,e⟩:=bind_some e
  obtain⟨d,ei,e⟩:=bind_some e
  cases e
  obtain⟨p,vs,rfl,sq,rs⟩:=vA r1' ed
  obtain⟨w,ew,Oa⟩:=Ug rs ei
  have hi:=Kc r2
  rcases sq with sq|sq
  ·exact .inl ⟨p,vs,_,w,rfl,hi,sq,ew,q _ _ (s1.trans s2) trivial Oa⟩
  ·exact .inr (.inl ⟨p,vs,_,w,rfl,hi,sq,ew,q _ _ (s1.trans s2) trivial Oa⟩)
 ·cases e⟩
end
theorem Ye:bootBuiltins "int" = some (.type "int"):=by decide +kernel
theorem Yg:bootBuiltins "str" = some (.type "str"):=by decide +kernel
theorem rE:bootBuiltins "tuple" = some (.type "tuple"):=by decide +kernel
theorem BR:bootBuiltins "isinstance" = some (.builtin "isinstance"):=by decide +kernel
theorem rG:bootBuiltins "len" = some (.builtin "len"):=by decide +kernel
theorem Yh:bootBuiltins "abs" = some (.builtin "abs"):=by decide +kernel
theorem Jj:bootBuiltins "all" = some (.builtin "all"):=by decide +kernel
theorem Ms:bootBuiltins "sorted" = some (.builtin "sorted"):=by decide +kernel
section
variable {X:Cx} {pins:List (Addr×Obj)} {σ:L2.St} {H:Hp} {s:Shared}
def lV:Dt->Bool
 |.str _=>true
 |_=>false
theorem Uh (I:L2.Inv X pins σ H s) {d:Dt} {x:V} {v:Value} {Q:VK} (rd:wV X.K H d x) (rv:RelV x v) (q:Q (.bl (lV d)) H):wpAny (model X.prog X.w) X.A (call (.builtin "isinstance") [v,.type "str"]) (EP X pins σ Q) X.xe s:=by
 cases d with
 |non=>simp only[wV,Rep] at rd;subst rd;cases rv;exact IsiPair.NoneType_str ⟨.bl _,H,I.tok _,rfl,q⟩
 |bl b=>simp only[wV,Rep] at rd;subst rd;cases rv;exact IsiPair.bool_str ⟨.bl _,H,I.tok _,rfl,q⟩
 |int b=>simp only[wV,Rep] at rd;subst rd;obtain⟨t,rfl⟩:=rv;exact IsiPair.int_str ⟨.bl _,H,I.tok _,rfl,q⟩
 |str b=>simp only[wV,Rep] at rd;obtain⟨rfl,_⟩:=rd;obtain⟨t,rfl⟩:=rv;exact IsiPair.str_str ⟨.bl _,H,I,rfl,q⟩
 |tup ds=>simp only[wV,Rep] at rd;obtain⟨a,vs,rfl,sq,_⟩:=rd;cases rv;obtain⟨_,_,p,_⟩:=I.tuple sq;exact IsiPair.isTuple_str p (fun _ _ e=>e) ⟨.bl _,H,I.tok _,rfl,q⟩
 |lst ds=>simp only[wV] at rd;obtain⟨a,vs,rfl,sq,_⟩:=rd;cases rv;obtain⟨_,_,p,_⟩:=I.list sq;exact IsiPair.isList_str p.isList (fun _ _ e=>e) ⟨.bl _,H,I.tok _,rfl,q⟩
 |emp=>simp only[wV,Rep] at rd;obtain⟨a,o,rfl,sq⟩:=rd;cases rv;obtain⟨ob,e,c⟩:=u9 I sq;exact IsiPair.dict_str e c ⟨.bl _,H,I.tok _,rfl,q⟩
theorem Jk {e:Expr} {f:Ev->Option Bx} {p p2 pos:Pos} (he:QV X e f) (hg:Gl X "isinstance") (hm:X.mg "isinstance" = none) (hg2:Gl X "str") (hm2:X.mg "str" = none) (hs:starEach [e,.Name "str" p2] X.env=[(false,eval e X.env),(false,eval (.Name "str" p2) X.env)]:=by rfl):QV X (.Call (.Name "isinstance" p) [e,.Name "str" p2] [] pos) (b1 (fun b=>if nG b=true then none else some (.z (.bl (lV (toD b))))) f):=⟨by
 have he:=he.run
 have hc:jz X (.builtin "isinstance") (fun xs H Q=>∃ b x,xs=[x,.ty "str"]/\bh X.K H b x/\nG b=false/\Q (.bl (lV (toD b))) H):=by
  intro pins s σ H xs us Q I r h
  obtain⟨b,x,rfl,rb,hmb,q⟩:=h
  obtain⟨u,w',rfl,r1,r2⟩:=vals2 r
  cases r2
  exact Uh I (rb.toD hmb) r1 q
 have ha:PA X [e,.Name "str" p2] (O1 (tF X.K f) (O1 (tC (.ty "str")) Z9)):=bK he (bK (JX hg2 hm2 (v:=.ty "str") (u:=.type "str") Yg rfl) lg) (by rw[hs]<;>rfl)
 refine FN (qY hc hg hm BR ha (by decide) (by decide) (by rw[hs]<;>rfl) rfl) fun σ H Q h=>?_
 obtain⟨H0,ρ,c,E,e,q⟩:=h
 obtain⟨b,eb,e⟩:=bind_some e
 split at e
 ·cases e
 rename_i hz
 cases e
 exact⟨H0,ρ,b,E,eb,fun v H1 s1 n1 r1=>⟨b,v,rfl,r1,by simpa using hz,q _ _ s1 trivial Mr⟩⟩⟩
def tFO (K:FG_) (f:Ev->Option (Option Int)):TO:=fun σ H Q=>∃ H0 ρ o,bw K H0 H σ ρ/\f ρ=some o/\∀ H',Same H H'->Q o H'
def PVo (X:Cx) (e:Option Expr) (f:Ev->Option (Option Int)):Prop:=PO X e (tFO X.K f)
structure QVo (X:Cx) (e:Option Expr) (f:Ev->Option (Option Int)):Prop where
 run:PVo X e f
theorem poM {e:Option Expr} {t t':TO} (h:PO X e t) (m:∀ σ H Q,t' σ H Q->t σ H Q):PO X e t':=fun pins s σ H Q I q=>h pins s σ H Q I (m σ H Q q)
def iW:Ev->Option (Option Int):=fun _=>some none
theorem fY  : QVo X none iW:=⟨poM Td fun σ H Q h=>by
 obtain⟨H0,ρ,o,E,e,q⟩:=h
 cases e
 exact q H (Same.refl H)⟩
def Yi:Bx->Option (Option Int)
 |.z (.int i)=>some (some i)
 |_=>none
def kW (f:Ev->Option Bx):Ev->Option (Option Int):=fun ρ=>(f ρ).bind Yi
theorem fZ {e:Expr} {f:Ev->Option Bx} (h:QV X e f):QVo X (some e) (kW f):=⟨have h:=h.run;poM (Te h) fun σ H Q q=>by
 obtain⟨H0,ρ,o,E,e,q⟩:=q
 obtain⟨b,eb,e⟩:=bind_some e
 refine⟨H0,ρ,b,E,eb,fun v H1 s1 n1 r1=>?_⟩
 unfold Yi at e
 split at e
 ·rename_i i
  cases e
  exact⟨i,Kc r1,q H1 s1⟩
 ·cases e⟩
def cutD (xs:List Dt) (lo hi:Option Int):List Dt:=(xs.drop (HT.jj xs.length 0 lo)).take (HT.jj xs.length xs.length hi - HT.jj xs.length 0 lo)
theorem Gz {K:FG_} {H:Hp} {ds:List Dt} {vs:List V} (r:aR K H ds vs) (lo hi:Option Int):aR K H (cutD ds lo hi) (Gd vs lo hi):=by
 unfold cutD Gd
 rw[r.length]
 exact (r.drop _).take _
theorem Qj (ds:List Dt) {lo hi:Option Int} (h1:HT.jj ds.length 0 lo=0) (h2:HT.jj ds.length ds.length hi=ds.length):cutD ds lo hi=ds:=by
 unfold cutD
 rw[h1,h2]
 simp
theorem vB {t sl:Addr} {items:Array Value} {vl vu:Value} {lo hi:Option Int} {Q:VP_} {prog:Program} {w:World} {A:Around} {E:VP_} {s:Shared} (ht:IsTup s.heap t items) (hs:s.heap.IsSliceOf sl vl vu .none) (pl:IsPart vl lo) (pu:IsPart vu hi)
  (h1:HT.jj items.size 0 lo=0) (h2:HT.jj items.size items.size hi=items.size)
  (h:Q (.ref t) s):wpAny (model prog w) A (getItem (.ref t) (.ref sl)) Q E s:=by
 obtain⟨os,hos,hcs,hds⟩:=id hs
 have hTs:s.TypeIs (.ref sl) "slice" := ⟨os,hos,hcs⟩
 unfold getItem
 try with_reducible refine QI ?_
 first|refine zb (ze ?_)|skip
 refine zb (wpAny_sequenceKey ht.typeIs (by decide) ?_)
 refine zb (wpAny_callSpecial?_slot (name:=Str.ofString "__getitem__") ht.typeIs PyProof.Rows.slot_tuple_getitem
  (wpAny_call_entry PyProof.Rows.slot_tuple_getitem ht.typeIs entry_tuple_getitem ?_ (args_tuple_getitem _ _)))
 show wpAny _ _ (Builtin.Tuple.tupleItemsOf (.ref t) >>= _) _ _ s
 refine zb (tupleItemsOf_ ht ?_)
 refine zb (jI hTs ?_)
 rw[zi (by decide)]
 refine zb (HT.oV hs pl pu ?_)
 have hyes:(((HT.jj items.size 0 lo:Nat):Int)==0&&(1:Int)==1&&(HT.jj items.size items.size hi - HT.jj items.size 0 lo)==items.size)=true:=by
  rw[h1,h2];simp
 show wpAny _ _ (if (((HT.jj items.size 0 lo:Nat):Int)==0&&(1:Int)==1&&(HT.jj items.size items.size hi - HT.jj items.size 0 lo)==items.size)=true then _ else _) _ _ s
 rw[zi hyes]
 first
  |refine zb (zb (jI ht.typeIs (ze ?_)))
  |refine zb (jI ht.typeIs (zb (ze ?_)))
  |refine zb (jI ht.typeIs ?_)
 rw[zi (by decide)]
 first
  |exact zb (wpAny_rule (ze ⟨_,rfl,ze h⟩))
  |exact zb (wpAny_rule (zb (ze (ze ⟨_,rfl,ze h⟩))))
def slB (b:Bx) (lo hi:Option Int):Option Bx:=match b with
 |.z (.str x)=>some (.z (.str (Txt.slice x lo hi)))
 |.z (.tup ds)=>some (.z (.tup (cutD ds lo hi)))
 |b=>(oX b).bind fun ds=>some (.o (cutD ds lo hi))
def rSl (K:FG_):V->Option Int->Option Int->Hp->VK->Prop:=fun x lo hi H Q=>∃ b c,bh K H b x/\slB b lo hi=some c/\∀ w H',Same H H'->Nw H c w->bh K H' c w->Q w H'
theorem Yj:V3 X (rSl X.K):=by
 intro pins s σ H x v vl vu lo hi sl Q I rx hs pl pu h
 obtain⟨b,c,rb,e,q⟩:=h
 unfold slB at e
 split at e
 ·rename_i y
  cases e
  obtain⟨rfl,hy⟩:=Qg rb
  obtain⟨t,rfl⟩:=rx
  refine⟨"str", _,F.slot_str_getitem.lookup,typeIs_str _ _ _,?_⟩
  obtain⟨o,e1,e2,e3⟩:=hs
  have fin:∀ t' k,EP X pins σ Q (.str (Txt.slice y lo hi) t') { s with toks:=k }:=fun t' k=>⟨.str _,H,I.tok _,⟨_,rfl⟩,q _ H (Same.refl H) trivial (Ub (zh (Txt.slice_le y _ _) hy))⟩
  cases pl with
  |none=>
   cases pu with
   |none=>exact JI (l:=none) (u:=none) (st:=none) ⟨o,e1,e2,e3⟩ rfl (post_val_or_str ⟨zh (Txt.slice_le y _ _) hy,fin⟩)
   |int j uj=>exact JI (l:=none) (u:=some (j,uj)) (st:=none) ⟨o,e1,e2,e3⟩ rfl (post_val_or_str ⟨zh (Txt.slice_le y _ _) hy,fin⟩)
  |int i ui=>
   cases pu with
   |none=>exact JI (l:=some (i,ui)) (u:=none) (st:=none) ⟨o,e1,e2,e3⟩ rfl (post_val_or_str ⟨zh (Txt.slice_le y _ _) hy,fin⟩)
   |int j uj=>exact JI (l:=some (i,ui)) (u:=some (j,uj)) (st:=none) ⟨o,e1,e2,e3⟩ rfl (post_val_or_str ⟨zh (Txt.slice_le y _ _) hy,fin⟩)
 ·rename_i ds
  cases e
  obtain⟨a,vs,rfl,sq,rs⟩:=inT rb
  by_cases hw:HT.jj vs.length 0 lo=0/\HT.jj vs.length vs.length hi=vs.length
  ·cases rx
   obtain⟨its,r,ht,hz⟩:=I.tuple sq
   have hlen:its.toArray.size=vs.length:=by rw[zo];exact r.length.symm
   refine⟨"tuple", _,PyProof.Rows.slot_tuple_getitem.lookup,ht.typeIs,vB ht hs pl pu (by rw[hlen];exact hw.1) (by rw[hlen];exact hw.2) ⟨.ref a,H,I,rfl,q _ H (Same.refl H) trivial ?_⟩⟩
   rw[Qj ds (by rw[<-rs.length];exact hw.1) (by rw[<-rs.length];exact hw.2)]
   exact rb
  ·refine Xq pins s σ H _ v vl vu lo hi sl Q I rx hs pl pu ⟨a,vs,rfl,sq,hw,fun p hp=>q _ _ (bJ hp) trivial ?_⟩
   unfold bh Rep
   exact⟨p,_,rfl,.inl (.inl aU),(Gz rs lo hi).kp (.of (bJ hp))⟩
 ·obtain⟨ds,ed,e⟩:=bind_some e
  cases e
  obtain⟨a,vs,rfl,sq,rs⟩:=rb.Cr ed
  exact Tn pins s σ H _ v vl vu lo hi sl Q I rx hs pl pu ⟨a,vs,rfl,sq,fun p hp=>q _ _ (bJ hp) (fun a ea=>by cases ea;exact hp) ⟨p,_,rfl,aU,(Gz rs lo hi).kp (.of (bJ hp))⟩⟩
def CN (f:Ev->Option Bx) (fl fh:Ev->Option (Option Int)):Ev->Option Bx:=fun ρ=>(f ρ).bind fun b=>(fl ρ).bind fun lo=>(fh ρ).bind fun hi=>slB b lo hi
theorem o9 {e:Expr} {lo hi:Option Expr} {f:Ev->Option Bx} {fl fh:Ev->Option (Option Int)} {p2 pos:Pos} (he:QV X e f) (hl:QVo X lo fl) (hh:QVo X hi fh):QV X (.Subscript e (.Slice lo hi none p2) pos) (CN f fl fh):=⟨have he:=he.run;have hl:=hl.run;have hh:=hh.run;FN (O4 Yj he hl hh) fun σ H Q h=>by
 obtain⟨H0,ρ,c,E,e,q⟩:=h
 obtain⟨b,eb,e⟩:=bind_some e
 obtain⟨lo,el,e⟩:=bind_some e
 obtain⟨hi,eh,e⟩:=bind_some e
 refine⟨H0,ρ,b,E,eb,fun v H1 s1 n1 r1=>⟨H0,ρ,lo,E.grow s1,el,fun H2 s2=>⟨H0,ρ,hi,E.grow (s1.trans s2),eh,fun H3 s3=>?_⟩⟩⟩
 have s13:=(s1.trans s2).trans s3
 exact⟨b,c,(r1.same s2).same s3,e,fun w H4 s4 n4 r4=>q w H4 (s13.trans s4) (n4.old s13) r4⟩⟩
def pq:List Bx->Option Bx
 |[.z (.str x)]=>some (.z (.int x.length))
 |[b]=>(zB b).bind fun ds=>some (.z (.int ds.length))
 |_=>none
theorem rep1 {K:FG_} {H:Hp} {b:Bx} {vs:List V} (r:qF K H [b] vs):∃ v,vs=[v]/\bh K H b v:=by
 cases r with
 |cons p t=>cases t;exact⟨_,rfl,p⟩
theorem rH:xX X (.builtin "len") pq:=jz.imp (DW.or DX) fun xs H Q q=>by
 obtain⟨bs,c,rb,e,q⟩:=q
 unfold pq at e
 split at e
 ·rename_i x
  cases e
  obtain⟨v,rfl,r1⟩:=rep1 rb
  obtain⟨rfl,hx⟩:=Qg r1
  exact .inr ⟨x,rfl,hx,q _ H (Same.refl H) trivial Ji⟩
 ·obtain⟨ds,ed,e⟩:=bind_some e
  cases e
  obtain⟨v,rfl,r1⟩:=rep1 rb
  obtain⟨p,vs,rfl,sq,rs⟩:=vA r1 ed
  exact .inl ⟨p,vs,rfl,sq,by rw[rs.length];exact q _ H (Same.refl H) trivial Ji⟩
 ·cases e
def Mt:List Bx->Option Bx
 |[.z (.int i)]=>some (.z (.int (if i < 0 then -i else i)))
 |_=>none
theorem Yk:xX X (.builtin "abs") Mt:=jz.imp OJ fun xs H Q q=>by
 obtain⟨bs,c,rb,e,q⟩:=q
 unfold Mt at e
 split at e
 ·rename_i i
  cases e
  obtain⟨v,rfl,r1⟩:=rep1 rb
  have:=Kc r1
  subst this
  exact⟨i,rfl,q _ H (Same.refl H) trivial Ji⟩
 ·cases e
def Qk:List Bx->Option Bx
 |[.z (.int i)]=>some (.z (.int i))
 |[.z (.bl k)]=>some (.z (.int (if k then 1 else 0)))
 |_=>none
theorem Yl:xX X (.type "int") Qk:=jz.imp Lq fun xs H Q q=>by
 obtain⟨bs,c,rb,e,q⟩:=q
 unfold Qk at e
 split at e
 ·rename_i i
  cases e
  obtain⟨v,rfl,r1⟩:=rep1 rb
  have:=Kc r1
  subst this
  exact .inl ⟨i,rfl,q _ H (Same.refl H) trivial Ji⟩
 ·rename_i k
  cases e
  obtain⟨v,rfl,r1⟩:=rep1 rb
  simp only[bh,Rep] at r1
  subst r1
  exact .inr ⟨k,rfl,q _ H (Same.refl H) trivial Ji⟩
 ·cases e
def mU:List Bx->Option Bx
 |[b]=>(zB b).bind fun ds=>some (.z (.tup ds))
 |_=>none
theorem rJ:xX X (.type "tuple") mU:=jz.imp BJ fun xs H Q q=>by
 obtain⟨bs,c,rb,e,q⟩:=q
 unfold mU at e
 split at e
 ·obtain⟨ds,ed,e⟩:=bind_some e
  cases e
  obtain⟨v,rfl,r1⟩:=rep1 rb
  obtain⟨p,vs,rfl,sq,rs⟩:=vA r1 ed
  refine⟨p,vs,rfl,?_⟩
  rcases sq with sq|sq
  ·refine .inl ⟨sq,fun l hl=>q _ _ (bJ hl) trivial ?_⟩
   unfold bh Rep
   exact⟨l,vs,rfl,.inl (.inl aU),rs.kp (.of (bJ hl))⟩
  ·refine .inr ⟨sq,q _ H (Same.refl H) trivial ?_⟩
   unfold bh Rep
   exact⟨p,vs,rfl,sq,rs⟩
 ·cases e
def CP:List Dt->Option (List Bool)
 |[]=>some []
 |.bl b::ds=>(CP ds).bind fun bs=>some (b::bs)
 |_=>none
theorem zF {K:FG_} {H:Hp}:∀ {ds:List Dt} {bs:List Bool} {vs:List V} {us:List Value},CP ds=some bs->aR K H ds vs->Vals vs us->us=bs.map Value.bool
 |[],_,_,_,e,r,w=>by
  cases e
  simp only[aR] at r;subst r;cases w;rfl
 |d::ds,_,_,_,e,r,w=>by
  simp only[aR] at r
  obtain⟨v,r',rfl,h1,h2⟩:=r
  cases d<;>first|(cases e;done)|skip
  simp only[CP] at e
  obtain⟨bs,e1,e⟩:=bind_some e
  cases e
  simp only[Rep] at h1
  subst h1
  cases w with
  |cons p t=>
   cases p
   rw[zF e1 h2 t]
   rfl
theorem all_range (bs:List Bool):((List.range bs.length).all fun i=>bs.getD i false)=bs.all id:=by
 rw[kn,QY,QY]
 constructor
 ·intro h b hb
  obtain⟨i,hi,rfl⟩:=List.mem_iff_getElem.mp hb
  have:=h i (by simpa using hi)
  simpa [List.getD,hi] using this
 ·intro h i hi
  have hi:i < bs.length:=by simpa using hi
  have:=h bs[i] (List.getElem_mem hi)
  simpa [List.getD,hi] using this
def allB:List Bx->Option Bx
 |[b]=>(oX b).bind fun ds=>(CP ds).bind fun bs=>some (.z (.bl (bs.all id)))
 |_=>none
theorem GC {prog:Program} {w:World} {A:Around} (bs:List Bool):TruthOf prog w A (fun i v=>(bs.map Value.bool).toArray[i]?=some v) fun i=>bs.getD i false:=fun i v s Q E h q=>by
 have h':(bs.map Value.bool)[i]?=some v:=by simpa using h
 rw[ZT] at h'
 cases e:bs[i]? with
 |none=>rw[e] at h';cases h'
 |some b=>
  rw[e] at h'
  cases h'
  have:bs.getD i false=b:=by simp[List.getD,e]
  have q':Q b s:=by rw[<-this];exact q
  exact Z3 q'
theorem Jl (hc:X.calm=true):xX X (.builtin "all") allB:=by
 intro pins s σ H xs us Q I r h
 obtain⟨bs,c,rb,e,q⟩:=h
 unfold allB at e
 split at e
 ·obtain⟨ds,ed,e⟩:=bind_some e
  obtain⟨ks,ek,e⟩:=bind_some e
  cases e
  obtain⟨v,rfl,r1⟩:=rep1 rb
  obtain⟨a,vs,rfl,sq,rs⟩:=r1.Cr ed
  obtain⟨u,rfl,ru⟩:=vals1 r
  cases ru
  obtain⟨its,w,pl,hz⟩:=I.list sq
  have hv:=zF ek rs w
  have hlt:a < s.heap.objs.size:=by obtain⟨o,n,e,_⟩:=pl;exact zt e
  refine call_all_walk (wpAny_pyIter_list pl.isList ?_)
  refine⟨s.heap.objs.size,_,_,_,_,_,fun i=>ks.getD i false,rfl,Walks.list (by show X.A.handled=none;exact I.ok.hd hc) s.heap.objs.size a (ZE hlt) its.toArray,⟨⟨_,zC _ rfl,rfl,rfl⟩,pl.isList.push _⟩,?_,fun h' tk k=>?_⟩
  ·rw[hv];exact GC ks
  ·have hn:its.toArray.size=ks.length:=by rw[hv];simp
   rw[hn,all_range]
   have I1:L2.Inv X pins σ H { s with heap:=s.heap.push { cls:=.type "list_iterator", data:=.fields #[.ref a,.int 0 0] } }:=I.kept (t':=s.toks) fun b o e=>zd _ e
   refine⟨.bl _,H,?_,rfl,q _ H (Same.refl H) trivial Mr⟩
   obtain⟨f0,f1,f2,f3,f4,f5⟩:=I.Lg (b:=s.heap.objs.size) (H':=H) (zk _) (I.hok.fresh (zk _))
   exact I1.turned (it:=s.heap.objs.size) (fun b o hb e=>k b o (by simpa using hb) e) f0 f1 f3 f4 f5
 ·cases e
end
end P1
end
section
namespace P1
open PySem PySem.Spec PyProof.Rows L2
def gv (i:Nat):Ev->Option Bx:=fun ρ=>yp ρ i
def yP (g:Bx->Bx->Option Bx) (fa fb:Ev->Option Bx):Ev->Option Bool:=fun ρ=>(b2 g fa fb ρ).bind DY
def tV (f:Ev->Option Bx):Ev->Option Bool:=fun ρ=>(f ρ).bind Tz
def aQ:Ev->Option (List Bx):=fun _=>some []
def Ql (p:Dt->Bool) (f:Ev->Option Bx):Ev->Option Bx:=b1 (fun b=>if nG b=true then none else some (.z (.bl (p (toD b))))) f
def jL:Ev->Option Out:=fun ρ=>some (.nx ρ)
def jV (f:Ev->Option Bx):Ev->Option Out:=fun ρ=>(f ρ).bind Mi
def setG (i:Nat) (f:Ev->Option Bx):Ev->Option Out:=fun ρ=>(f ρ).bind fun b=>(PK ρ i b).bind fun ρ'=>some (.nx ρ')
def Ym (gt:Dt->Ev->Option Ev) (f:Ev->Option Bx):Ev->Option Out:=fun ρ=>(f ρ).bind fun b=>match b with|.z d=>(gt d ρ).bind fun ρ'=>some (.nx ρ')|_=>none
def Qm (i:Nat) (f:Ev->Option Bx):Ev->Option Out:=fun ρ=>(f ρ).bind (T4 ρ i)
def nH (fi:Ev->Option (List Dt)) (gt:Dt->Ev->Option Ev) (gb:Ev->Option Out):Ev->Option Out:=fun ρ=>(fi ρ).bind fun ds=>yq gt gb ds ρ
def Ke (f:Ev->Option Bx):Ev->Option (List Dt):=fun ρ=>(f ρ).bind T5
def xY (f:Ev->Option Bx):Ev->Option (List Dt):=fun ρ=>(f ρ).bind Qf
def Qn (fs:Ev->Option (List Bx)):Ev->Option (List Dt):=fun ρ=>(fs ρ).bind XS
def lX (i:Nat):Dt->Ev->Option Ev:=fun d ρ=>some (ρ.set i (some (.z d)))
def lZ:Ev->Option Bool:=fun _=>some true
theorem bZ {X:Cx}:Ej X [] lZ:=⟨.inl ⟨rfl,rfl⟩⟩
theorem qe {X:Cx} {c:Expr} {p:Ev->Option Bool} (h:QB X c p):Ej X [c] p:=⟨have h:=h.run;.inr ⟨c,rfl,h⟩⟩
theorem Yn {X:Cx} {scope:Scope} {cl:List (Str×Addr)}:BL X scope cl [] []:=trivial
theorem Ui {X:Cx} {scope:Scope} {cl:List (Str×Addr)} {x:Str} {i:Nat} {xs:LS_} {is:List Nat} (n:X.N[i]?=some x) (k:X.env.kindOf x=some .cell\/X.env.kindOf x=some .free)
  (k':(relabel scope X.env).names.lookup x=some .cell\/(relabel scope X.env).names.lookup x=some .free) (c:∃ c,cl.lookup x=some c) (r:BL X scope cl xs is):BL X scope cl (x::xs) (i::is):=⟨⟨n,k,k',c⟩,r⟩
theorem mem_of_lookup {names:List (Str×NameKind)} {x:Str} {k:NameKind}:names.lookup x=some k->(x,k)∈names:=QP
theorem Yo {X:Cx} {scope:Scope} {cl:List (Str×Addr)} {xs:LS_} {is:List Nat} (clos:closureFor scope X.env=pure cl) (kind:scope.kind=.function) (cell:scope.names.all (fun y=>decide (y.2≠.cell)||(cl.lookup y.1).isNone)=true)
  (names:scope.names.all (fun y=>decide (y.2=.local->scope.names.lookup y.1=some .local))=true) (sub:SubL X.env.cells cl)
  (has:(relabel scope X.env).names.all (fun y=>!(y.2==.cell||y.2==.free)||(cl.lookup y.1).isSome||scope.names.contains (y.1,.cell))=true) (cap:BL X scope cl xs is):rB X scope cl xs is where
 clos:=clos
 kind:=kind
 cell:=fun y hy hc=>by
  have:=List.all_eq_true.mp cell y hy
  simp only[hc,ne_eq,not_true_eq_false,decide_false,Bool.false_or,Option.isNone_iff_eq_none] at this
  exact this
 names:=fun y hy=>JP (List.all_eq_true.mp names y hy)
 sub:=sub
 has:=fun x hx=>by
  have h:∃ k,(relabel scope X.env).names.lookup x=some k/\(k==NameKind.cell||k==NameKind.free)=true:=by
   rcases hx with hx|hx
   ·exact⟨_,hx,rfl⟩
   ·exact⟨_,hx,rfl⟩
  obtain⟨k,e,hk⟩:=h
  have:=List.all_eq_true.mp has _ (mem_of_lookup e)
  simp only[hk,Bool.not_true,Bool.false_or,Bool.or_eq_true] at this
  rcases this with h|h
  ·exact .inr (Option.isSome_iff_exists.mp h)
  ·exact .inl (List.contains_iff_mem.mp h)
 cap:=cap
theorem dI {k:Nat} {A:Around} (r:iT k A):A.units+100 < cLine:=by have:=r.un;omega
theorem Yp {F:List Bx->Option Bx} (h:∀ ns:List Int,ns.length<=63->F [.z (.lst (ns.map .int))]=some (.z (.bl true))) (hl:∀ ns:List Int,ns.length<=63->F [.l (ns.map .int)]=some (.z (.bl true))) (K:FG_) (H:Hp) (a:Addr) (ns:List Int) (hn:ns.length<=63) (_:Only H) (hS:pW K H a (ns.map V.int)) :
  nF K 1 F [.ref a] H (fun v _=>v=.bl true) fun _ _ _=>False:=by
 have rs:∀ ms:List Int,aR K H (ms.map Dt.int) (ms.map V.int):=fun ms=>by
  induction ms with
  |nil=>exact aR.nil
  |cons m ms ih=>exact aR.cons (by unfold Rep;rfl) ih
 have fin:∀ v (H':Hp),Same H H'->Nw H (.z (.bl true)) v->bh K H' (.z (.bl true)) v->v=.bl true:=fun v H' _ _ r=>by simpa only[bh,Rep] using r
 rcases hS with hS|hS
 ·exact⟨rfl,[.l (ns.map .int)],_,.cons ⟨a,_,rfl,hS,rs ns⟩ .nil,rfl,hl ns hn,fin⟩
 ·refine⟨rfl,[.z (.lst (ns.map .int))],_,.cons ?_ .nil,rfl,h ns hn,fin⟩
  unfold bh Rep
  exact⟨a,_,rfl,.inr hS,rs ns⟩
theorem ac8 {P:Program} {w:World} {K:FG_} {mg:Str->Option Value} {base:Heap} {x qual:Str} {st:Stmt} {f:Addr} {fd:FuncData} {N ps:LS_} {k n m:Nat} {g:Ev->Option Out} (F:oW K x qual st f fd) (S:bH N ps (aM st)) (hn:N.length=n) (hm:ps.length=m)
  (hbody:∀ (cdv:Value) (A:Around) (outer:List Env) (s:Shared) (H:Hp) (E:XK),iT k (A.deeper (envOfC qual (aM st) s.heap.objs.size f cdv))->Ot (uD jJ P w K mg base N qual (aM st) f cdv A outer s H E).Ia (iz st) g) :
  bF P w K mg base jJ (k+1) f fd ps (nF K m (fG n g)):=by
 subst hn hm
 exact ac5 F S hbody
section
variable {X:Cx} {e st:Expr} {f fs:Ev->Option Bx} {pos p2:Pos}
theorem GD {pins:List (Addr×Obj)} {σ:L2.St} {H:Hp} {s:Shared} {a:Addr} (I:L2.Inv X pins σ H s) (h:H a=some (.dK [])):∃ o,L2.Inv X pins σ (upd H a (.uR o (.dK []))) s:=by
 have hk:=I.hok a _ h
 obtain⟨z1,z2,z3,z4,o,z5,z6,e,ex⟩:=hk
 refine⟨o,⟨I.ok,I.os,I.bare,⟨I.base.keep,I.base.slot,fun b ob q1 q2 q3=>?_,I.base.there,fun b xs q=>?_,fun b ob u q=>?_,fun b ps q=>?_⟩,I.loc,I.cell,?_,fun x c q=>?_,fun p hp=>?_,?_,I.len⟩⟩
 ·have:=I.base.free b ob q1 q2 q3
  rw[aJ (aW h this).symm];exact this
 ·have:=I.base.tups b xs q
  rw[aJ (lN this h (by intro z;cases z))];exact this
 ·have:=I.base.oR b ob u q
  rw[aJ (lN this h (by intro z;cases z))];exact this
 ·obtain⟨m,this⟩:=I.base.qO b ps q
  rw[aJ (lN this h (by intro z;cases z))];exact⟨m,this⟩
 ·rw[aJ (aW h I.free).symm];exact I.free
 ·rw[aJ (aW h (I.jP x c q)).symm];exact I.jP x c q
 ·obtain⟨q1,q2,q3⟩:=I.pin p hp
  refine⟨q1,?_,q3⟩
  rw[aJ (aW h q2).symm];exact q2
 ·intro b u q
  by_cases hb:b=a
  ·subst hb
   rw[aU] at q;cases q
   exact⟨e,z1,z2,z3,z4,o,z5,z6,e,ex⟩
  ·rw[aJ hb] at q
   refine (I.hok b u q).stay (fun c v _ w=>w) (fun c w=>?_) fun c xs w=>?_
   ·rw[aJ (lN w h (by intro z;cases z))];exact w
   ·rw[aJ (lN w h (by intro z;cases z))];exact w
theorem Yq  : QV X (.Dict [] [] pos) (cB .emp):=⟨by
 intro pins s σ H Q I q
 obtain⟨H0,ρ,b,E,e,q⟩:=q
 cases e
 refine iu (Gf pins s σ H (fun v H'=>∃ p,v=.ref p/\H p=none/\H'=upd H p (.dK [])) I fun p hp=>⟨p,rfl,hp,rfl⟩) fun u s1 hq=>?_
 obtain⟨v,H1,I1,rv,p,rfl,hp,rfl⟩:=hq
 obtain⟨o,I2⟩:=GD I1 aU
 refine⟨.ref p,_,I2,rv,q _ _ (fun c ob hc=>?_) trivial ?_⟩
 ·rw[aJ (aW hc hp),aJ (aW hc hp)];exact hc
 ·simp only[bh,Rep]
  exact⟨p,o,rfl,aU⟩⟩
section
variable {prog:Program} {w:World} {A:Around} {E:VP_} {s:Shared}
end
end
section
variable {X:Cx} {e:Expr} {f:Ev->Option Bx}
def Yr:Bx->Bx->Option Bx
 |.z (.int i),.z (.int j)=>some (.z (.bl (decide (i < j))))
 |.z (.str x),.z (.str y)=>some (.z (.bl (decide (x.cps.toList < y.cps.toList))))
 |_,_=>none
theorem Qo:Cu X (compareOp .Lt) Yr:=by
 intro pins s σ H x y v u Q I rx ry h
 obtain⟨a,b,c,ra,rb,e,q⟩:=h
 unfold Yr at e
 split at e
 ·rename_i i j
  cases e
  exact Z2 pins s σ H x y v u Q I rx ry ⟨i,j,Kc ra,Kc rb,q _ H (Same.refl H) trivial (by unfold bh;exact okT)⟩
 ·rename_i i j
  cases e
  obtain⟨rfl,_⟩:=Qg ra
  obtain⟨rfl,_⟩:=Qg rb
  obtain⟨t,rfl⟩:=rx
  obtain⟨t',rfl⟩:=ry
  exact PySem.P.lt_str ⟨.bl _,H,I,rfl,q _ H (Same.refl H) trivial (by unfold bh;exact okT)⟩
 ·cases e
def pA:List Dt->Option LS_
 |[]=>some []
 |.str x::r=>(pA r).bind fun ys=>some (x::ys)
 |_=>none
theorem CQ {K:FG_} {H:Hp}:∀ {ds:List Dt} {vs:List V} {ys:LS_},aR K H ds vs->pA ds=some ys->vs=ys.map V.str/\∀ y∈ys,y.length<=sizeLine
 |[],_,_,h,e=>by cases e;simp only[aR] at h;subst h;exact⟨rfl,fun y hy=>by cases hy⟩
 |.str x::ds,_,_,h,e=>by
  simp only[pA] at e
  obtain⟨ys,e1,e2⟩:=bind_some e
  cases e2
  simp only[aR] at h
  obtain⟨v,r,rfl,hd,hr⟩:=h
  obtain⟨rfl,hx⟩:v=.str x/\x.length<=sizeLine:=by simpa only[Rep] using hd
  obtain⟨rfl,h2⟩:=CQ hr e1
  refine⟨rfl,fun y hy=>?_⟩
  rcases List.mem_cons.mp hy with rfl|hy
  ·exact hx
  ·exact h2 y hy
 |.non::_,_,_,_,e=>by cases e
 |.bl _::_,_,_,_,e=>by cases e
 |.int _::_,_,_,_,e=>by cases e
 |.tup _::_,_,_,_,e=>by cases e
 |.lst _::_,_,_,_,e=>by cases e
 |.emp::_,_,_,_,e=>by cases e
theorem GF {K:FG_} {H:Hp}:∀ {ys:LS_},(∀ y∈ys,y.length<=sizeLine)->aR K H (ys.map Dt.str) (ys.map V.str)
 |[],_=>aR.nil
 |y::ys,h=>aR.cons (by unfold Rep;exact⟨rfl,h y (ZA ..)⟩) (GF fun z hz=>h z (Zs _ hz))
theorem zG:∀ {ys:LS_} {its:List Value},Vals (ys.map V.str) its->StrsAre its ys
 |[],_,h=>by cases h;exact .nil
 |y::ys,_,h=>by
  cases h with
  |cons r t=>
   obtain⟨tk,rfl⟩:=r
   exact .cons y tk (zG t)
theorem CT:∀ {its:List Value} {ys:LS_},StrsAre its ys->Vals (ys.map V.str) its
 |_,_,.nil=>.nil
 |_,_,.cons y t h=>.cons ⟨t,rfl⟩ (CT h)
def FQ (a b:Str):Prop:=ltCps b.cps.toList a.cps.toList=false
theorem vC:∀ (p:Str) (l:LS_),risingS p l=true->(p::l).Pairwise FQ
 |p,[],_=>by simp
 |p,x::r,h=>by
  have h':(!ltCps x.cps.toList p.cps.toList&&risingS x r)=true:=h
  rw[ZO] at h'
  have ih:=vC x r h'.2
  have hx:FQ p x:=by simpa [FQ] using h'.1
  refine List.pairwise_cons.mpr ⟨fun y hy=>?_,ih⟩
  rcases List.mem_cons.mp hy with rfl|hy
  ·exact hx
  ·have hxy:FQ x y:=kz ih hy
   unfold FQ at hx hxy ⊢
   rw[ltCps_eq] at hx hxy ⊢
   simp only[Q1] at hx hxy ⊢
   exact List.le_trans (α:=Nat) hx hxy
theorem Ep {l:LS_} (h:sortedS l=true):l.Pairwise FQ:=by
 cases l with
 |nil=>exact .nil
 |cons p l=>exact vC p l h
theorem GJ {a b:Str} (h:FQ a b) (h':FQ b a):a=b:=by
 unfold FQ at h h'
 rw[ltCps_eq] at h h'
 simp only[Q1] at h h'
 have:=List.le_antisymm (as:=a.cps.toList) (bs:=b.cps.toList) h h'
 cases a;cases b
 simp only[Str.mk.injEq]
 exact Array.toList_inj.mp this
theorem Kf:∀ {l l':LS_},l.Perm l'->l.Pairwise FQ->l'.Pairwise FQ->l=l'
 |[],l',h,_,_=>by rw[List.nil_perm.mp h]
 |a::l,[],h,_,_=>by cases List.perm_nil.mp h
 |a::l,b::l',h,p,p'=>by
  have e:a=b:=by
   have ha:a∈b::l':=h.mem_iff.mp (ZA ..)
   have hb:b∈a::l:=h.mem_iff.mpr (ZA ..)
   rcases List.mem_cons.mp ha with h1|h1
   ·exact h1
   ·rcases List.mem_cons.mp hb with h2|h2
    ·exact h2.symm
    ·exact GJ (kz p h2) (kz p' h1)
  subst e
  rw[Kf ((List.perm_cons a).mp h) (List.pairwise_cons.mp p).2 (List.pairwise_cons.mp p').2]
def Mu (a b:Str):Bool:=!ltCps b.cps.toList a.cps.toList
def nM (ys:LS_):LS_:=ys.mergeSort Mu
theorem jE (ys:LS_):(nM ys).Perm ys:=List.mergeSort_perm ys Mu
theorem zH (ys:LS_):(nM ys).Pairwise FQ:=by
 have h:=List.pairwise_mergeSort (le:=Mu) (fun a b c h1 h2=>by
  unfold Mu at *
  rw[ltCps_eq] at *
  simp only[JU,Q1] at *
  exact List.le_trans (α:=Nat) h1 h2) (fun a b=>by
  unfold Mu
  rw[ltCps_eq,ltCps_eq]
  simp only[Bool.or_eq_true,JU,Q1]
  exact List.le_total a.cps.toList b.cps.toList) ys
 exact h.imp fun {a b} hh=>by simpa [Mu,FQ] using hh
theorem Qp {ys zs:LS_} (hp:zs.Perm ys) (hs:sortedS zs=true):zs=nM ys:=Kf (hp.trans (jE ys).symm) (Ep hs) (zH ys)
def CV (x:Str) (b:Bx):Option Bx:=(oX b).bind fun ds=>(pA ds).bind fun ys=>if (ys.map (·.length)).sum+ys.length * x.length<=100000 then some (.z (.str (Txt.join x ys))) else none
theorem Uj:Zu X "str.join" (fun x xs H Q=>∃ y p ys,x=.str y/\xs=[.ref p]/\pW X.K H p (ys.map V.str)/\(ys.map (·.length)).sum+ys.length * y.length<=100000/\Q (.str (Txt.join y ys)) H):=by
 intro pins s σ H x xs v us Q I rx rs h
 obtain⟨y,p,ys,rfl,rfl,sq,hb,q⟩:=h
 obtain⟨t,rfl⟩:=rx
 obtain⟨u,rfl,ru⟩:=vals1 rs
 cases ru
 obtain⟨its,r',pl,hz⟩:=I.list sq
 exact join_list pl.isList (zG r') (by omega) fun t' k=>⟨.str _,H,I.tok _,⟨_,rfl⟩,q⟩
theorem Uk {x:Str} {j:Nat} {p1 apos cpos:Pos} (h:QV X e f) (hx:x.length<=sizeLine:=by decide) (hbase:attributeBase (.Constant (.str x) j p1) "join" X.env (eval (.Constant (.str x) j p1) X.env)=eval (.Constant (.str x) j p1) X.env:=by rfl) (hfew:((backTo cpos (starEach [e] X.env)).all (fun x=>!x.1)&&(backToKw cpos (keywordEach [] X.env)).all (fun x=>x.1.isSome)&&decide ([e].length+([]:List Keyword).length+(if ([]:List Keyword).isEmpty then 0 else 1) < 30))=true:=by rfl) (hline:(apos.endLine==cpos.line)=true:=by rfl) (hs:starEach [e] X.env=(false,eval e X.env)::starEach [] X.env:=by rfl):QV X (.Call (.Attribute (.Constant (.str x) j p1) "join" apos) [e] [] cpos) (b1 (CV x) f):=⟨have h:=h.run;FN (V4 (T := "str") F.plainAttrs_str F.slot_str_join F.type_str_join Uj (Pk (hx:=hx)) (Gi h J8 hs) hbase hfew hline hs rfl) fun σ H Q q=>by
  obtain⟨H0,ρ,c,E,e,q⟩:=q
  obtain⟨a,ea,e⟩:=bind_some e
  refine⟨H0,ρ,_,E,rfl,fun v H1 s1 n1 r1=>?_⟩
  obtain⟨rfl,hx'⟩:v=.str x/\x.length<=sizeLine:=by simpa only[bh,Rep] using r1
  refine⟨rfl,H0,ρ,[a],E.grow s1,by simp only[ao,ea,QR],fun vs H2 s2 r2=>?_⟩
  obtain⟨w,rfl,rw1⟩:=rep1 r2
  unfold CV at e
  obtain⟨ds,ed,e⟩:=bind_some e
  obtain⟨ys,ey,e⟩:=bind_some e
  split at e
  ·rename_i hb
   cases e
   obtain⟨p,ws,rfl,sq,rs⟩:=rw1.Cr ed
   obtain⟨rfl,hy⟩:=CQ rs ey
   refine⟨x,p,ys,rfl,rfl,sq,hb,q _ _ (s1.trans s2) trivial ?_⟩
   unfold bh Rep
   exact⟨rfl,joinOk_length (joinOk_of (by omega))⟩
  ·cases e⟩
end
section
variable {X:Cx}
end
def zJ (kvs:List (Key×Dt)) (x:Key):Option Dt:=(kvs.find? fun kv=>decide (kv.1=x)).map (·.2)
def Jm (kvs:List (Key×Dt)) (x:Key) (d:Dt):List (Key×Dt):=
 if (kvs.any fun kv=>decide (kv.1=x))=true then kvs.map (fun kv=>if kv.1=x then (kv.1,d) else kv) else kvs++[(x,d)]
section
variable {K:FG_} {H:Hp}
theorem iU.nil:iU K H [] []:=⟨rfl,aR.nil,fun p hp=>by cases hp⟩
theorem iU.inv {p:Key×Dt} {kvs:List (Key×Dt)} {ks:List (Key×V)} (h:iU K H (p::kvs) ks):∃ v r,ks=(p.1,v)::r/\Rep K H p.2 v/\XF p.1/\iU K H kvs r:=by
 obtain⟨h1,h2,h3⟩:=h
 cases ks with
 |nil=>simp at h1
 |cons q r=>
  simp only[zl,km] at h1
  obtain⟨e,h1⟩:=h1
  simp only[zl,aR] at h2
  obtain⟨v,r',e2,hv,hr⟩:=h2
  simp only[km] at e2
  obtain⟨rfl,rfl⟩:=e2
  exact⟨q.2,r,by rw[<-e],hv,h3 p (ZA ..),h1,hr,fun x hx=>h3 x (Zs _ hx)⟩
theorem iU.cons {p:Key×Dt} {kvs:List (Key×Dt)} {v:V} {r:List (Key×V)} (hv:Rep K H p.2 v) (hp:XF p.1) (h:iU K H kvs r):iU K H (p::kvs) ((p.1,v)::r):=
 ⟨by simp[h.1],aR.cons hv h.2.1,fun x hx=>by
  rcases List.mem_cons.mp hx with rfl|hx
  ·exact hp
  ·exact h.2.2 x hx⟩
theorem iU.append {kvs:List (Key×Dt)} {ks:List (Key×V)} {x:Key} {d:Dt} {v:V} (h:iU K H kvs ks) (hv:Rep K H d v) (hx:XF x):iU K H (kvs++[(x,d)]) (ks++[(x,v)]):=
 ⟨by simp[h.1],by rw[ZN,ZN];exact aR.append h.2.1 (aR.cons hv aR.nil),fun p hp=>by
  rcases List.mem_append.mp hp with hp|hp
  ·exact h.2.2 p hp
  ·cases List.mem_singleton.mp hp;exact hx⟩
theorem iU.len {kvs:List (Key×Dt)} {ks:List (Key×V)} (h:iU K H kvs ks):ks.length=kvs.length:=by
 have:=congrArg List.length h.1
 simpa using this
theorem iU.look:∀ {kvs:List (Key×Dt)} {ks:List (Key×V)} {x:Key} {d:Dt},iU K H kvs ks->zJ kvs x=some d->∃ v,uE ks x=some v/\Rep K H d v
 |[],_,_,_,_,e=>by cases e
 |p::kvs,_,x,d,h,e=>by
  obtain⟨v,r,rfl,hv,hpl,hr⟩:=h.inv
  unfold zJ at e
  by_cases hp:p.1=x
  ·rw[List.find?_cons_of_pos (by simpa using hp)] at e
   cases e
   exact⟨v,q8 (by rw[hp]),hv⟩
  ·rw[List.find?_cons_of_neg (by simpa using hp)] at e
   obtain⟨w,e1,e2⟩:=iU.look hr e
   exact⟨w,(q9 (by simpa using hp)).trans e1,e2⟩
theorem iU.any:∀ {kvs:List (Key×Dt)} {ks:List (Key×V)} {x:Key},iU K H kvs ks->(ks.any fun kv=>decide (kv.1=x))=kvs.any fun kv=>decide (kv.1=x)
 |[],ks,_,h=>by
  have:=h.len
  cases ks with
  |nil=>rfl
  |cons _ _=>simp at this
 |p::kvs,_,x,h=>by
  obtain⟨v,r,rfl,hv,hpl,hr⟩:=h.inv
  rw[QN,QN,iU.any hr]
theorem iU.Qq:∀ {kvs:List (Key×Dt)} {ks:List (Key×V)} {x:Key} {d:Dt} {v:V},iU K H kvs ks->Rep K H d v->iU K H (kvs.map fun kv=>if kv.1=x then (kv.1,d) else kv) (ks.map fun kv=>if kv.1=x then (kv.1,v) else kv)
 |[],ks,_,_,_,h,_=>by
  have:=h.len
  cases ks with
  |nil=>exact iU.nil
  |cons _ _=>simp at this
 |p::kvs,_,x,d,v,h,hd=>by
  obtain⟨w,r,rfl,hw,hpl,hr⟩:=h.inv
  rw[zl,zl]
  have ih:=iU.Qq (x:=x) hr hd
  by_cases hp:p.1=x
  ·rw[zi hp,zi (by simp[hp])]
   exact iU.cons (p:=(p.1,d)) hd hpl ih
  ·rw[zw hp,zw (by simpa using hp)]
   exact iU.cons hw hpl ih
theorem iU.put {kvs:List (Key×Dt)} {ks:List (Key×V)} {x:Key} {d:Dt} {v:V} (h:iU K H kvs ks) (hv:Rep K H d v) (hx:XF x):iU K H (Jm kvs x d) (putK ks x v):=by
 unfold Jm putK
 rw[h.any]
 split
 ·exact h.Qq hv
 ·exact h.append hv hx
end
section
variable {X:Cx} {e ek o:Expr} {f fk fo:Ev->Option Bx} {pos pos':Pos}
theorem Ul  : QV X (.Dict [] [] pos) (fun _=>some (.m [] none)):=⟨FN Gf fun σ H Q h=>by
 obtain⟨H0,ρ,b,E,e,q⟩:=h
 cases e
 intro p hp
 exact q _ _ (bJ hp) (fun a ea=>by cases ea;exact hp) ⟨p,[],rfl,aU,iU.nil,fun b h=>by cases h⟩⟩
def Wj:Bx->Option Key
 |.z (.str x)=>some (.inr x)
 |.z (.int i)=>some (.inl i)
 |_=>none
theorem Kg {K:FG_} {H:Hp} {b:Bx} {k:Key} {v:V} (e:Wj b=some k) (r:bh K H b v):v=kV k/\XF k:=by
 unfold Wj at e
 split at e
 ·cases e;simp only[bh,Rep] at r;exact r
 ·cases e;simp only[bh,Rep] at r;exact⟨r,trivial⟩
 ·cases e
def CW:Bx->Bx->Option Bx
 |.n kvs,b=>(Wj b).bind fun k=>(zJ kvs k).bind fun d=>some (.z d)
 |_,_=>none
theorem Jo {a b c:Bx} (h:CW a b=some c):∃ kvs k d,a=.n kvs/\Wj b=some k/\zJ kvs k=some d/\c=.z d:=by
 unfold CW at h
 split at h
 ·obtain⟨k,ek,h⟩:=bind_some h
  obtain⟨d,ed,h⟩:=bind_some h
  cases h
  exact⟨_,k,d,rfl,ek,ed,rfl⟩
 ·cases h
theorem Um (hu:X.A.units+100 < cLine) (ho:QV X o fo) (hk:QV X ek fk) (hs:XC ek:=by intro _ _;rfl):QV X (.Subscript o ek pos) (b2 CW fo fk):=⟨have ho:=ho.run;have hk:=hk.run;FN (Tr (by omega) ho hk hs) fun σ H Q h=>by
 obtain⟨H0,ρ,c,E,e,q⟩:=h
 obtain⟨a,ea,e⟩:=bind_some e
 obtain⟨b,eb,e⟩:=bind_some e
 refine⟨H0,ρ,a,E,ea,fun v H1 s1 n1 r1=>⟨H0,ρ,b,E.grow s1,eb,fun w H2 s2 n2 r2=>?_⟩⟩
 obtain⟨kvs,x,d,rfl,ekx,ed,rfl⟩:=Jo e
 obtain⟨p,ks,rfl,rd,rm⟩:=r1.same s2
 obtain⟨v',ev,rv⟩:=rm.look ed
 obtain⟨rfl,_⟩:=Kg ekx r2
 exact⟨p,v',rfl,.inl ⟨ks,x,rd,rfl,ev.symm⟩,q _ _ (s1.trans s2) trivial rv⟩⟩
def GK (ρ:Ev) (i:Nat):Bx->Bx->Option Out
 |.z d,b=>(Wj b).bind fun x=>match ρ[i]? with
  |some (some (.m kvs w))=>if kvs.length < 1000 then some (.nx (ρ.set i (some (.m (Jm kvs x d) w)))) else none
  |_=>none
 |_,_=>none
def Qs (i:Nat) (f fk:Ev->Option Bx):Ev->Option Out:=fun ρ=>(f ρ).bind fun b=>(fk ρ).bind fun k=>GK ρ i b k
theorem Jp {ρ:Ev} {i:Nat} {b k:Bx} {r:Out} (h:GK ρ i b k=some r):∃ d y kvs w,b=.z d/\Wj k=some y/\ρ[i]?=some (some (.m kvs w))/\kvs.length < 1000/\r=.nx (ρ.set i (some (.m (Jm kvs y d) w))):=by
 unfold GK at h
 split at h
 ·obtain⟨y,ey,h⟩:=bind_some h
  split at h
  ·rename_i hρ
   split at h
   ·rename_i hl
    cases h
    exact⟨_,y,_,_,rfl,ey,hρ,hl,rfl⟩
   ·cases h
  ·cases h
 ·cases h
theorem Uo (i:Nat) {x:Str} {p:Pos} (hu:X.A.units+100 < cLine) (he:QV X e f) (hk:QV X ek fk) (hN:X.N[i]?=some x:=by rfl) (hv:Oe X.env.scope x:=by first|exact qS rfl|exact qa (qS rfl)|exact qa (qa rfl)) (hd:(x==("__debug__" : Str))=false:=by decide) (hcd:(x==("__classdict__" : Str))=false:=by decide) (hs:swapsWith e (some (.Subscript (.Name x p) ek pos')) pos.line X.env=pure false:=by rfl):Pz X (.Assign [.Subscript (.Name x p) ek pos'] e pos) (fun ρ=>(f ρ).bind fun b=>(fk ρ).bind fun k=>GK ρ i b k):=⟨have he:=he.run;have hk:=hk.run;Sh (Tt (by omega) (wK (i:=i) hN hv hd hcd) hk he hs) fun D σ H h=>by
  obtain⟨H0,ρ,r,E,e,q⟩:=h
  obtain⟨b,eb,e⟩:=bind_some e
  obtain⟨k,ek,e⟩:=bind_some e
  refine⟨H0,ρ,b,E,eb,fun v H1 s1 n1 r1=>?_⟩
  obtain⟨d,y,kvs,w0,rfl,eky,hρ,hl,rfl⟩:=Jp e
  have E1:=E.grow s1
  obtain⟨w,e1,a,ks,rfl,ha,rm,tie⟩:=E1.val i _ hρ
  refine⟨_,e1,H0,ρ,_,E1,ek,fun u H2 s2 n2 r2=>?_⟩
  obtain⟨rfl,hyl⟩:=Kg eky r2
  have E2:=E1.grow s2
  have ha2:=s2 _ _ ha
  have kp:Kp H2 (upd H2 a (.dK (putK ks y v))):=.dk ha2
  refine⟨a,_,rfl,IK.k (k:=y) ha2 (by rw[rm.len];exact Nat.lt_trans hl (by decide)),q _ _ ?_⟩
  exact E2.aax hρ rfl e1 kp ⟨a,_,rfl,aU,((rm.kp (.of s2)).put (x:=y) (bh.same s2 r1) hyl).kp kp,tie⟩⟩
end
section
variable {X:Cx} {a b c e:Expr} {es:List Expr} {fa fb fc f:Ev->Option Bx} {fs:Ev->Option (List Bx)} {pos:Pos}
theorem fO {x:Str} {j} (hx:x.length<=sizeLine:=by decide):QV X (.Constant (.str x) j pos) (cB (.str x)):=⟨P1.Pk (hx:=hx)⟩
end
section
variable {X:Cx} {a b c e:Expr} {es:List Expr} {fa fb fc f:Ev->Option Bx} {fs:Ev->Option (List Bx)} {pos:Pos}
variable {p q:Ev->Option Bool} {rest:List Expr}
theorem ak (h1:QV X e f) (h2:Pb X es fs) (hs:starEach (e::es) X.env=(false,eval e X.env)::starEach es X.env:=by rfl):Pb X (e::es) (ao f fs):=⟨P1.Gi (h1:=h1.run) (h2:=h2.run) (hs:=hs)⟩
theorem aF  : Pb X [] (fun _=>some []):=⟨P1.J8 ⟩
end
theorem rK {P:Program} {w:World} {K:FG_} {mg:Str->Option Value} {base:Heap} {x qual:Str} {st:Stmt} {f:Addr} {fd:FuncData} {N ps:LS_} {k n m:Nat} {g:Ev->Option Out} (F:oW K x qual st f fd) (S:bH N ps (aM st)) (hn:N.length=n) (hm:ps.length=m)
  (hbody:∀ (cdv:Value) (A:Around) (outer:List Env) (s:Shared) (H:Hp) (E:XK),iT k (A.deeper (envOfC qual (aM st) s.heap.objs.size f cdv))->PJ (uD jJ P w K mg base N qual (aM st) f cdv A outer s H E).Ia (iz st) g) :
  bF P w K mg base jJ (k+1) f fd ps (nF K m (fG n g)):=ac8 F S hn hm fun cdv A outer s H E hr=>(hbody cdv A outer s H E hr).run
section
variable {prog:Program} {w:World} {A:Around} {E:VP_} {s:Shared}
theorem Er {d:Addr} {kvs:List (Key×Value)} {ep:Nat} {Q:List Value->Shared->Prop} (hh:A.handled=none) (hd:(d==sysModules)=false) (hm:s.heap.DictAt (bY prog w) d kvs ep) (hn:kvs.length<=sizeLine)
  (hQ:∀ s' acc,s.heap.objs.size<=s'.heap.objs.size->(∀ b o,s.heap.get? b=some o->s'.heap.get? b=some o)->s'.gens=s.gens->s'.drawn=s.drawn->s'.os=s.os->ItemsOf (fun i v=>∃ k x,kvs[i]?=some (k,x)/\(bY prog w).is k v=true) acc kvs.length->Q acc.toList s') :
  wpAny (model prog w) A (collect (.ref d)) Q E s:=by
 have hT:s.TypeIs (.ref d) "dict" := hm.dictOf.typeIs
 have hlt:d < s.heap.objs.size:=by obtain⟨o,_,ho,_⟩:=hm;exact zt ho
 unfold collect
 refine zb (wpAny_runValue (codeAny_builtin F.entry_proto_collect ?_));rw[Around.under_plainId F.plain_proto_collect _]
 show wpAny _ A.in1 (newList [] >>= fun l=>again (.builtin "list.__iadd__" ⟨[l,.ref d],[]⟩)) _ _ s
 refine zb (QA (ze ⟨plainId_quiet F.plain_list_iadd _,codeAny_builtin F.entry_list_iadd ?_⟩));rw[Around.under_plainId F.plain_list_iadd _]
 show wpAny _ A.in1 (Builtin.List.listExtendWith (.ref s.heap.objs.size) (.ref d) (.ref s.heap.objs.size)) _ _ _
 unfold Builtin.List.listExtendWith
 have hm1:=hm.at' (h':=s.heap.push { cls:=.type "list", data:=.seq ([]:List Value).toArray }) fun o e=>zd _ e
 refine zb (jI (T := "dict") hm1.dictOf.typeIs ?_)
 have h1:Builtin.List.listSameRef (.ref s.heap.objs.size) (.ref d)=false:=by simp[Builtin.List.listSameRef];exact Q3 hlt
 simp only[h1,show (Value.type "dict" == Value.type "list")=false by decide,show (Value.type "dict" == Value.type "tuple")=false by decide,Bool.or_false,Zp,qc]
 refine zb (wpAny_pyIter_dict hd hm1 ?_)
 refine zb (QI ?_)
 have hm2:=hm1.at' (h':=(s.heap.push { cls:=.type "list", data:=.seq ([]:List Value).toArray }).push { cls:=.type "dict_keyiterator", data:=.fields #[.ref d,.int 0 0,.int kvs.length 0,.int ep 0] }) fun o e=>zd _ e
 unfold Builtin.List.listLengthHint
 refine zb (wpAny_specialOf (T := "dict") hm2.dictOf.typeIs F.slot_dict_len.lookup ?_)
 wp_delta
 refine zb (wpAny_isInstance (T := "dict") (b:=true) hm2.dictOf.typeIs (by rw[isSubtype_type];kernel_rfl) ?_)
 show wpAny _ A.in1 (typeOf (Value.ref d) >>= _) _ _ _
 refine zb (jI (T := "dict") hm2.dictOf.typeIs (ze ?_))
 rw[zi (by decide)]
 show wpAny _ A.in1 (Builtin.List.listTouch (Value.ref s.heap.objs.size) >>= fun _=>again (Code.builtin "list.extend.loop" ⟨[Value.ref s.heap.objs.size,Value.ref (s.heap.push { cls:=.type "list", data:=.seq ([]:List Value).toArray }).objs.size,Value.ref s.heap.objs.size],[]⟩)) _ _ _
 generalize hH:(s.heap.push { cls:=.type "list", data:=.seq ([]:List Value).toArray })=H at hm1 hm2 ⊢
 have hHs:H.objs.size=s.heap.objs.size+1:=by rw[<-hH,js]
 generalize hG:H.push { cls:=.type "dict_keyiterator", data:=.fields #[.ref d,.int 0 0,.int kvs.length 0,.int ep 0] }=G at hm2 ⊢
 have hS:G.get? s.heap.objs.size=some (seqObj "list" #[] 0):=by
  rw[<-hG]
  refine zd _ ?_
  rw[<-hH]
  exact zC _ rfl
 have hI:G.get? H.objs.size=some { cls:=.type "dict_keyiterator", data:=.fields #[.ref d,.int 0 0,.int kvs.length 0,.int ep 0] }:=by
  rw[<-hG]
  exact zC _ rfl
 unfold Builtin.List.listTouch
 refine zb (zb (listUpdate_at hS rfl (listUpdate_at (get?_update_seq hS _) rfl ?_ (by show _<=_;decide) (by show _<=_;decide)) (by show _<=_;decide) (by show _<=_;decide)))
 have hIS:H.objs.size≠s.heap.objs.size:=by omega
 have hdS:d≠s.heap.objs.size:=ZE hlt
 have hS3:=get?_update_seq (get?_update_seq hS (fun x=>x.push Value.none)) (fun x=>x.pop)
 generalize hU:(G.update s.heap.objs.size (Obj.mapSeq fun x=>x.push Value.none)).update s.heap.objs.size (Obj.mapSeq fun x=>x.pop)=U at hS3
 have keep:∀ b,b≠s.heap.objs.size->U.get? b=G.get? b:=fun b hb=>by rw[<-hU,Heap.get?_update_ne _ _ _ _ hb,Heap.get?_update_ne _ _ _ _ hb]
 have st0:U.IsKeyIter H.objs.size d 0 kvs.length ep/\U.DictAt (bY prog w) d kvs ep:=⟨⟨_,(keep _ hIS).trans hI,rfl,rfl⟩,hm2.at' fun o e=>(keep d hdS).trans e⟩
 show wpAny _ A.in1 (again _) _ _ { s with heap:=U }
 have hSf:s.heap.objs.size∉[H.objs.size,d]:=fun h=>by
  simp only[j3,jS,or_false] at h
  rcases h with h|h
  ·exact hIS h.symm
  ·exact hdS h.symm
 refine ze ⟨plainId_quiet F.plain_extend_loop _,codeAny_extend_loopS (Walks.dictKeys (A:=A.in1) hh H.objs.size d (ZE (hHs▸Nat.lt_succ_of_lt hlt)) kvs ep).toS hn s.heap.objs.size hSf _ kvs.length 0 { s with heap:=U } #[] _ rfl (Qr _) st0 hS3 (ItemsOf.nil _) fun s' acc' c' mv hS' hacc=>?_⟩
 show wpAny _ A (load s.heap.objs.size >>= _) _ _ s'
 refine zb (wpAny_load hS' (ze (hQ s' acc' (Q4 (zt hS')) (fun b ob e=>?_) mv.gens mv.drawn mv.os hacc)))
 have hb:=zt e
 refine mv.heap b ob (fun h=>?_) ((keep b (ZE hb)).trans ?_)
 ·simp only[j3,jS,or_false] at h
  rcases h with h|h
  ·exact ZE hb h
  ·rw[h,hHs] at hb
   exact absurd hb (Nat.not_lt.mpr (kB _))
 ·rw[<-hG]
  refine zd _ ?_
  rw[<-hH]
  exact zd _ e
theorem xZ:∀ (vs:List Value) (ys:LS_),vs.length=ys.length->(∀ (j:Nat) v,vs[j]?=some v->∃ y t,ys[j]?=some y/\v=.str y t)->StrsAre vs ys
 |[],[],_,_=>.nil
 |v::vs,y::ys,hl,h=>by
  obtain⟨y',t,e,rfl⟩:=h 0 v rfl
  cases e
  exact .cons y t (xZ vs ys (by simpa using hl) fun j v hv=>h (j+1) v (by simpa using hv))
theorem Jq {kvs:List (Key×Value)} {ys:LS_} (hk:kvs.map (·.1)=ys.map Sum.inr) {acc:Array Value} (h:ItemsOf (fun i v=>∃ k x,kvs[i]?=some (k,x)/\(bY prog w).is k v=true) acc kvs.length):StrsAre acc.toList ys:=by
 have hl:kvs.length=ys.length:=by have:=congrArg List.length hk;simpa using this
 refine xZ _ _ (by rw[QQ,h.1,hl]) fun j v hv=>?_
 obtain⟨k,x,e,hi⟩:=h.2 j v (by simpa using hv)
 have e1:(kvs.map (·.1))[j]?=some k:=by rw[ZT,e];rfl
 rw[hk,ZT] at e1
 cases hy:ys[j]? with
 |none=>rw[hy] at e1;cases e1
 |some y=>
  rw[hy] at e1
  cases e1
  have hi':nJ (Sum.inr y) v=true:=hi
  rcases bG hi' with⟨i,t,e2,e3⟩|⟨z,t,e2,e3⟩
  ·cases e2
  ·cases e2
   exact⟨_,t,rfl,e3⟩
theorem GP {d:Addr} {kvs:List (Key×Value)} {ep:Nat} {ys:LS_} {Q:VP_} (hh:A.handled=none) (hd:(d==sysModules)=false) (hm:s.heap.DictAt (bY prog w) d kvs ep) (hk:kvs.map (·.1)=ys.map Sum.inr) (h64:ys.length < 64)
  (h:∀ (l:Addr) (h':Heap) (tk:Nat) (out:Array Value) (zs:LS_) (n:Nat),s.heap.objs.size<=l->(∀ b o,s.heap.get? b=some o->h'.get? b=some o)->h'.get? l=some (seqObj "list" out n)->StrsAre out.toList zs->zs.Perm ys->sortedS zs=true->Q (.ref l) { s with heap:=h',toks:=tk }) :
  wpAny (model prog w) A (call (.builtin "sorted") [.ref d]) Q E s:=by
 have hl:kvs.length=ys.length:=by have:=congrArg List.length hk;simpa using this
 refine Calls.call_function_entry kind_sorted plain_sorted entry_sorted (args_sorted1 _) ?_;unfold Builtin.«sorted»
 refine zb (m:=checkCount "sorted" 1 1 _) (ze (zb (Er (by exact hh) hd hm (zh (Q4 (hl▸h64)) (by decide)) fun s' acc hle ext hg hdr hos hit=>?_)))
 have hS:=Jq hk hit
 have hlen:acc.toList.length < 64:=by rw[QQ,hit.1,hl];exact h64
 refine zb (wpAny_newList ?_)
 have hoL:(s'.heap.push (seqObj "list" acc.toList.toArray 0)).get? s'.heap.objs.size=some (seqObj "list" acc.toList.toArray 0):=zC _ rfl
 refine zb (QI (wpAny_call_entry slot_list_sort ⟨_,hoL,rfl⟩ entry_list_sort (list_sort_treeK strKind_oneLt hoL hS.keysOf (fun v₁ v₂ rest e=>keyKind_strs (by rw[<-e];exact hS)) hlen fun st' a1 a2=>⟨_,rfl,ze ⟨_,rfl,?_⟩⟩) (args_list_sort _)))
 obtain⟨zs,z1,z2,z3⟩:=sorted_out_str hS a1 a2
 obtain⟨n,en⟩:=sortedHeap_at (out:=(arrOf st').map (·.2)) hoL
 have key:=h s'.heap.objs.size _ s'.toks _ zs n hle (fun b o e=>by
  have e1:=ext b o e
  have hb:=zt e1
  rw[sortedHeap_old (ZE hb) (by rw[js];exact Nat.lt_succ_of_lt hb)]
  exact zd _ e1) en z1 z2 z3
 rw[<-hg,<-hdr,<-hos] at key
 exact key
end
section
variable {X:Cx}
def Mv:List (Key×Dt)->Option LS_
 |[]=>some []
 |(.inr x,_)::r=>(Mv r).bind fun ys=>some (x::ys)
 |(.inl _,_)::_=>none
theorem tW:∀ {kvs:List (Key×Dt)} {ys:LS_},Mv kvs=some ys->kvs.map (·.1)=ys.map Sum.inr
 |[],_,e=>by cases e;rfl
 |(.inr x,_)::r,_,e=>by
  obtain⟨ys,e1,e⟩:=bind_some e
  cases e
  rw[zl,zl,tW e1]
 |(.inl _,_)::_,_,e=>by cases e
theorem Uq {kvs:List (Key×Dt)} {ys:LS_} (e:Mv kvs=some ys) (h:∀ p∈kvs,XF p.1) (y:Str) (hy:y∈ys):y.length<=sizeLine:=by
 have:(Sum.inr y:Key)∈kvs.map (·.1):=by rw[tW e];exact List.mem_map.mpr ⟨y,hy,rfl⟩
 obtain⟨p,hp,ep⟩:=List.mem_map.mp this
 have:=h p hp
 rw[ep] at this;exact this
def zK:List Bx->Option Bx
 |[.n kvs]=>(Mv kvs).bind fun ys=>if kvs.length < 64 then some (.o ((nM ys).map Dt.str)) else none
 |_=>none
theorem Kh:∀ {ks:List (Key×V)} {vs:List (Key×Value)},KV ks vs->vs.map (·.1)=ks.map (·.1)
 |_,_,.nil=>rfl
 |_,_,.cons h t=>by rw[zl,zl,Kh t,h.1]
theorem Jr (hc:X.calm=true):xX X (.builtin "sorted") zK:=by
 intro pins s σ H xs us Q I r h
 obtain⟨bs,c,rb,e,q⟩:=h
 unfold zK at e
 split at e
 ·rename_i kvs
  obtain⟨ys,ey,e⟩:=bind_some e
  have hlen:kvs.length=ys.length:=by have:=congrArg List.length (tW ey);simpa using this
  split at e
  ·rename_i h64
   cases e
   obtain⟨v,rfl,r1⟩:=rep1 rb
   obtain⟨a,ks,rfl,rd,rm⟩:=r1
   obtain⟨u,rfl,ru⟩:=vals1 r
   cases ru
   obtain⟨_,hsys,vs,kv,o,es,ep,dd⟩:=um I.hok rd
   have hk:vs.map (·.1)=ys.map Sum.inr:=by rw[Kh kv,rm.1];exact tW ey
   refine GP (I.ok.hd hc) hsys ⟨o,es,dd⟩ hk (by omega) fun l h' tk out zs n hle ext en z1 z2 z3=>?_
   have ez:=Qp z2 z3
   subst ez
   have hy:∀ y∈nM ys,y.length<=sizeLine:=fun y hy=>Uq ey rm.2.2 y ((jE _).mem_iff.mp hy)
   have hl:=I.hok.fresh hle
   refine⟨.ref l,_,I.laid (t':=tk) (a:=l) (o:=.lst ((nM ys).map V.str)) ext hle ?_,rfl,q _ _ (bJ hl) (fun a ea=>by cases ea;exact hl) ⟨l,_,rfl,aU,GF hy⟩⟩
   refine⟨by rw[zg,(jE _).length_eq,<-hlen];exact zh (Q4 h64) (by decide),out.toList,n,CT z1,?_⟩
   rw[en]
  ·cases e
 ·cases e
end
theorem bw.Wm {K:FG_} {H0 H:Hp} {σ:L2.St} {ρ:Ev} (E:bw K H0 H σ ρ) (i:Nat):bw K H0 H σ (ρ.set i none):=by
 have back:∀ (j:Nat) (b:Bx),(ρ.set i none)[j]?=some (some b)->ρ[j]?=some (some b):=fun j b e=>by
  rw[JS] at e
  split at e
  ·split at e<;>cases e
  ·exact e
 refine⟨by rw[qv];exact E.len,fun j b e=>E.val j b (back j b e),fun j k c a b e1 ec e2 e3 e4 e5=>E.own j k c a b (back _ _ e1) ec e2 (back _ _ e3) e4 e5,E.base,fun j c a e1 ec e2=>E.new j c a (back _ _ e1) ec e2⟩
def kill (is:List Nat) (ρ:Ev):Ev:=is.foldl (fun ρ i=>ρ.set i none) ρ
theorem bw.kill {K:FG_} {H0 H:Hp} {σ:L2.St}:∀ (is:List Nat) {ρ:Ev},bw K H0 H σ ρ->bw K H0 H σ (P1.kill is ρ)
 |[],_,E=>E
 |i::is,_,E=>bw.kill is (E.Wm i)
def gn (is:List Nat):Ev->Option Out:=fun ρ=>some (.nx (kill is ρ))
theorem Qt {X:Cx} {ss:List Stmt} {g:Ev->Option Out} (is:List Nat) (h:Ot X ss g):Ot X ss (aH g (gn is)):=Mf h fun D σ H q=>by
 obtain⟨H0,ρ,r,E,e,q⟩:=q
 obtain⟨r1,e1,e⟩:=bind_some e
 refine⟨H0,ρ,r1,E,e1,?_⟩
 cases r1 with
 |nx ρ1=>cases e;exact fun σ' H' E'=>q σ' H' (E'.kill is)
 |rt b=>cases e;exact q
 |bk b=>cases e;exact q
 |ct b=>cases e;exact q
theorem cg {X:Cx} {ss:List Stmt} {g:Ev->Option Out} (is:List Nat) (h:PJ X ss g):PJ X ss (aH g (gn is)):=⟨Qt is h.run⟩
end P1
end
section
namespace S1
open PySem PySem.Spec PyProof.Rows
section
variable (rk:Value->Nat)
def at_ (xs:Array Keyed) (i:Nat):Nat:=match xs[i]? with
 |some p=>rk p.1
 |none=>0
def Up (xs:Array Keyed) (k:Nat):Prop:=∀ i j,i<=j->j < k->at_ rk xs i<=at_ rk xs j
structure Bs (kd:SortKind) (b:Array Keyed) (st:SortSt):Prop where
 pm:(arrOf st).Perm b
 kd:kindOf st=kd
 fl:failedOf st=none
 pd:pendingOf st=#[]
variable {rk} {kd:SortKind} {b:Array Keyed}
theorem Bs.sz {st:SortSt} (h:Bs kd b st):(arrOf st).size=b.size:=h.pm.size_eq
end
section
variable {prog:Program} {w:World} {A:Around} {E:VP_} {s:Shared} {b:Array Keyed} {kd:SortKind} {rk:Value->Nat}
def Dn (kd:SortKind) (rk:Value->Nat) (b:Array Keyed) (st:SortSt):Prop:=(arrOf st).Perm b/\failedOf st=none/\pendingOf st=#[(0,b.size,0)]/\Up rk (arrOf st) b.size
theorem Bs.dn {st:SortSt} (B:Bs kd b st) (up:Up rk (arrOf st) b.size):Dn kd rk b (setPending st ((pendingOf st).push (0,b.size,0))):=⟨B.pm,B.fl,(by show (pendingOf st).push _=_;rw[B.pd];rfl),up⟩
end
end S1
end
section
namespace S1
open PySem PySem.Spec PyProof.Rows L2
def ltK:Key->Key->Bool
 |.inl a,.inl b=>decide (a < b)
 |.inr x,.inr y=>decide (x.cps.toList < y.cps.toList)
 |.inl _,.inr _=>true
 |.inr _,.inl _=>false
def Kl:Key->Key->Bool
 |.inl _,.inl _=>true
 |.inr _,.inr _=>true
 |_,_=>false
def aaN:List Key->List Key->Bool
 |[],[]=>false
 |[],_::_=>true
 |_::_,[]=>false
 |x::xs,y::ys=>if x=y then aaN xs ys else ltK x y
def Shp:List Key->List Key->Prop
 |x::xs,y::ys=>Kl x y=true/\Shp xs ys
 |_,_=>True
section
variable {prog:Program} {w:World} {A:Around} {E:VP_} {s:Shared}
theorem key_eq {x y:Key} {p q:Value} {Q:Bool->Shared->Prop} (hp:nJ x p=true) (hq:nJ y q=true) (h:Q (decide (x=y)) s):wpAny (model prog w) A (eqBool p q) Q E s:=
 (bY prog w).eqBool (a:=x) (b:=y) hp hq h
theorem Ys {fb:Bool} {x y:Key} {p q:Value} {Q:Bool->Shared->Prop} (hs:Kl x y=true) (hp:nJ x p=true) (hq:nJ y q=true) (h:Q (ltK x y) s):wpAny (model prog w) A (oneLt' fb p q) Q E s:=by
 rcases bG hp with⟨i,t,rfl,rfl⟩|⟨z,t,rfl,rfl⟩
 ·rcases bG hq with⟨j,u,rfl,rfl⟩|⟨z,u,rfl,rfl⟩
  ·cases fb with
   |true=>exact oneLt_int h
   |false=>
    rw[oneLt'_eq]
    simp only[Zp,qc]
    refine zb (show wpAny _ _ (compareOp .Lt (.int i t) (.int j u)) _ _ _ from lt_int ?_)
    exact Z3 h
  ·cases hs
 ·rcases bG hq with⟨j,u,rfl,rfl⟩|⟨z',u,rfl,rfl⟩
  ·cases hs
  ·cases fb with
   |true=>exact oneLt_str h
   |false=>
    rw[oneLt'_eq]
    simp only[Zp,qc]
    refine zb (show wpAny _ _ (compareOp .Lt (.str z t) (.str z' u)) _ _ _ from PySem.P.lt_str ?_)
    exact Z3 h
def Ks (ks:List Key) (its:List Value):Prop:=Paired (fun k v=>nJ k v=true) ks its
def dif:List Key->List Key->Option Bool
 |x::xs,y::ys=>if x=y then dif xs ys else some (ltK x y)
 |_,_=>none
def turn (fb:Bool):(Value×Value)×Nat->Option Bool×Unit->Sem (ForInStep (Option Bool×Unit)):=fun x _=>match x with
 |((p,q),i)=>do
  let e <-eqBool p q
  if (!e)=true then do
    let r <-oneLt' (fb&&i==0) p q
    pure (ForInStep.done (some r,()))
   else pure (ForInStep.yield (none,()))
theorem walk (fb:Bool):∀ (ks ls:List Key) (its jts:List Value) (i:Nat) (R:Option Bool×Unit->Shared->Prop),Ks ks its->Ks ls jts->Shp ks ls->R (dif ks ls,()) s->wpAny (model prog w) A (forIn ((its.zip jts).zipIdx i) ((none,()):Option Bool×Unit) (turn fb)) R E s
 |[],_,_,_,_,R,.nil,_,_,h=>ze h
 |_::_,[],_::_,_,_,R,_,.nil,_,h=>ze h
 |x::xs,y::ys,p::its,q::jts,i,R,.cons hp hk,.cons hq hl,hs,h=>by
  rw[List.zip_cons_cons,List.zipIdx_cons,List.forIn_cons]
  refine zb ?_
  show wpAny _ _ (eqBool p q >>= _) _ _ _
  refine zb (key_eq hp hq ?_)
  by_cases e:x=y
  ·simp only[e,decide_true,Bool.not_true,Zp,qc]
   refine ze (walk fb xs ys its jts (i+1) R hk hl hs.2 ?_)
   simp only[dif,zi e] at h
   exact h
  ·simp only[e,decide_false,Bool.not_false,QO]
   refine zb (Ys hs.1 hp hq (ze (ze ?_)))
   simp only[dif,zw e] at h
   exact h
end
def ada (xs ys:List Key):Bool:=!aaN ys xs
def Mw (h:Heap) (ks:List Key) (v:Value):Prop:=∃ (a:Addr) (o:Obj) (its:List Value) (n:Nat),v=.ref a/\h.get? a=some o/\o.cls=.type "tuple" ∧ o.data=.seq its.toArray n/\Ks ks its
theorem Mw.keep {h h':Heap} {ks:List Key} {v:Value} (q:Mw h ks v) (k:∀ c o,h.get? c=some o->h'.get? c=some o):Mw h' ks v:=by
 obtain⟨a,o,its,n,e,g,c,d,p⟩:=q
 exact⟨a,o,its,n,e,k _ _ g,c,d,p⟩
theorem Ur {k l:Key} {v:Value} (h:nJ k v=true) (h':nJ l v=true):k=l:=by
 rcases bG h with⟨i,t,rfl,rfl⟩|⟨x,t,rfl,rfl⟩
 ·rcases bG h' with⟨j,u,rfl,e⟩|⟨y,u,rfl,e⟩
  ·cases e;rfl
  ·cases e
 ·rcases bG h' with⟨j,u,rfl,e⟩|⟨y,u,rfl,e⟩
  ·cases e
  ·cases e;rfl
theorem Ks.inj:∀ {ks ls:List Key} {its:List Value},Ks ks its->Ks ls its->ks=ls
 |_,_,[],h,h'=>by cases h;cases h';rfl
 |_,_,v::its,h,h'=>by
  cases h with
  |cons p t=>cases h' with
   |cons p' t'=>rw[Ur p p',Ks.inj t t']
theorem Mw.inj {h:Heap} {ks ls:List Key} {v:Value} (q:Mw h ks v) (q':Mw h ls v):ks=ls:=by
 obtain⟨a,o,its,n,rfl,g,c,d,p⟩:=q
 obtain⟨a',o',its',n',e,g',c',d',p'⟩:=q'
 cases e
 rw[g] at g'
 cases g'
 rw[d] at d'
 injection d' with e1 e2
 have e3:its=its':=by simpa using congrArg Array.toList e1
 subst e3
 exact p.inj p'
section
variable {prog:Program} {w:World} {A:Around} {E:VP_} {s:Shared}
end
end S1
end
section
namespace P1
open PySem PySem.Spec PyProof.Rows L2 S1
section
variable {prog:Program} {w:World} {A:Around} {E:VP_} {s:Shared}
end
def aaO:Dt->Option Key
 |.int i=>some (.inl i)
 |.str x=>some (.inr x)
 |_=>none
def GQ:List Dt->Option (List Key)
 |[]=>some []
 |d::ds=>(aaO d).bind fun k=>(GQ ds).bind fun ks=>some (k::ks)
def Km:Dt->Option (List Key)
 |.tup ds=>GQ ds
 |_=>none
def dK:Key->Dt
 |.inl i=>.int i
 |.inr x=>.str x
section
variable {X:Cx}
def Us (k l:List Key):Bool:=((k.zip l).all fun p=>Kl p.1 p.2)
theorem Ut {K:FG_} {H:Hp} {b:Bx} {v:V} {ds:List Dt} (h:bh K H b v) (e:zB b=some ds):∃ a vs,v=.ref a/\(pW K H a vs\/uP K H a vs)/\aR K H ds vs:=by
 cases b with
 |z d=>
  cases d<;>first|(cases e;done)|skip
  ·cases e
   simp only[bh,Rep] at h
   obtain⟨a,vs,e,q,r⟩:=h
   exact⟨a,vs,e,.inr q,r⟩
  ·cases e
   simp only[bh,Rep] at h
   obtain⟨a,vs,e,q,r⟩:=h
   exact⟨a,vs,e,.inl q.sq,r⟩
 |l ds'=>cases e;obtain⟨a,vs,e,q,r⟩:=h;exact⟨a,vs,e,.inl (.inl q),r⟩
 |o ds'=>cases e;obtain⟨a,vs,e,q,r⟩:=h;exact⟨a,vs,e,.inl (.inl (.inl q)),r⟩
 |n _=>cases e
 |m _ _=>cases e
end
end P1
end
section
namespace S6
open PySem PySem.Spec PyProof.Rows
structure Wk (w:World) (h:Heap) (a:Addr) (es:Array (Int×Value)) (ep:Nat) (t:SetTable):Prop where
 at_:∃ o,h.get? a=some o/\o.cls=.type "set" ∧ o.data=.set es ep t
 fit:t.fits es.size=true
 led:w.params.followText "set-order" = false->t.led=true
 non:1 < es.size->t.plain=false
theorem Wk.keep {w:World} {h h':Heap} {a:Addr} {es:Array (Int×Value)} {ep:Nat} {t:SetTable} (x:Wk w h a es ep t) (k:∀ o,h.get? a=some o->h'.get? a=some o):Wk w h' a es ep t:=
 ⟨let ⟨o,e,r⟩:=x.at_;⟨o,k o e,r⟩,x.fit,x.led,x.non⟩
def It (h:Heap) (it a:Addr) (first:Value) (i n ep:Nat):Prop:=∃ o,h.get? it=some o/\o.cls=.type "set_iterator" ∧ o.data=.fields #[first,.int (i:Int) 0,.ref a,.int (n:Int) 0,.int (ep:Int) 0]
theorem It.keep {h h':Heap} {it a:Addr} {f:Value} {i n ep:Nat} (x:It h it a f i n ep) (k:∀ o,h.get? it=some o->h'.get? it=some o):It h' it a f i n ep:=
 let ⟨o,e,r⟩:=x;⟨o,k o e,r⟩
theorem It.ty {s:Shared} {it a:Addr} {f:Value} {i n ep:Nat} (x:It s.heap it a f i n ep):s.TypeIs (.ref it) "set_iterator" := let ⟨o,e,c,_⟩:=x;⟨o,e,c⟩
section
variable {prog:Program} {w:World} {A:Around} {E:VP_} {s:Shared} {it a:Addr} {i ep:Nat} {es:Array (Int×Value)} {t:SetTable}
theorem It.put {h:Heap} {f:Value} {n:Nat} (hit:It h it a f i n ep) (x:Value):It (h.update it (Obj.mapFields (·.setIfInBounds 0 x))) it a x i n ep:=by
 obtain⟨o,ho,hc,hd⟩:=hit
 exact⟨_,qi _ ho (JY (qV hd _)),(Obj.cls_mapFields ..).trans hc,by rw[qV hd];simp⟩
theorem It.step {h:Heap} {f:Value} {n:Nat} (hit:It h it a f i n ep):It (h.update it (Obj.mapFields (·.setIfInBounds 1 (rawInt ((i:Int)+1))))) it a f (i+1) n ep:=by
 obtain⟨o,ho,hc,hd⟩:=hit
 exact⟨_,qi _ ho (JY (qV hd _)),(Obj.cls_mapFields ..).trans hc,by rw[qV hd];simp[rawInt]⟩
theorem It.field {f:Value} {n k:Nat} {x:Value} {A:Around} {Q:Unit->Shared->Prop} {E:VP_} (hit:It s.heap it a f i n ep) (hk:k < 5) (h:Q () { s with heap:=s.heap.update it (Obj.mapFields (·.setIfInBounds k x)) }):wpAny (model prog w) A (setField (.ref it) k x) Q E s:=by
 obtain⟨o,ho,hc,hd⟩:=hit
 exact wpAny_setField ho hd (by simpa using hk) h
theorem Mx {Q:Bool->Shared->Prop} (h:Q (w.params.followText "set-order") s):wpAny (model prog w) A setsByText Q E s:=by
 unfold setsByText
 exact zb (wpAny_askSetting (ze h))
end
end S6
end
section
namespace S6
open PySem PySem.Spec PyProof.Rows P1
section
variable {prog:Program} {w:World} {A:Around} {E:VP_} {s:Shared} {it a:Addr} {i ep:Nat} {es:Array (Int×Value)} {t:SetTable}
end
section
variable {prog:Program} {w:World} {A:Around} {E:VP_} {s:Shared} {a:Addr}
def adb (prog:Program) (w:World) (y:Str) (e:Int×Value):Prop:=∃ tk,e=((strKind prog w).hash y,.str y tk)
structure Yt (prog:Program) (w:World) (ys:LS_) (es:Array (Int×Value)) (t:SetTable):Prop where
 rel:Paired (adb prog w) ys es.toList
 nd:ys.Nodup
 fit:t.fits es.size=true
 led:w.params.followText "set-order" = false->t.led=true
 non:0 < es.size->t.plain=false
def Tx (prog:Program) (w:World) (h:Heap) (a:Addr) (ys:LS_):Prop:=∃ o es ep t,h.get? a=some o/\o.ExactSet/\o.data=.set es ep t/\Yt prog w ys es t
theorem Tx.keep {h h':Heap} {ys:LS_} (x:Tx prog w h a ys) (k:∀ o,h.get? a=some o->h'.get? a=some o):Tx prog w h' a ys:=
 let ⟨o,es,ep,t,e,r⟩:=x;⟨o,es,ep,t,k o e,r⟩
theorem Yt.size {ys:LS_} {es:Array (Int×Value)} {t:SetTable} (x:Yt prog w ys es t):es.size=ys.length:=by rw[x.rel.length];simp
end
def blank (w:World):Obj:={ cls:=.type "set", dict:=none,data:=.set #[] 0 (.fresh 0 0 (!w.params.followText "set-order")) }
section
variable {prog:Program} {w:World} {A:Around} {R:Result->Shared->Prop} {I:Addr} {fp wr:List Addr} {n:Nat} {P:Nat->Value->Prop} {St:Nat->Shared->Prop} {κ:Type} {C:Heap->List κ->Prop} {val:Nat->κ}
end
section
variable {prog:Program} {w:World} {A:Around} {E:VP_} {s:Shared}
end
end S6
end
section
namespace S6
open PySem
def ade (xs:Array Nat):Prop:=∀ i j,i < j->j < xs.size->xs.getD i 0 < xs.getD j 0
structure Tb (t:SetTable):Prop where
 mask:t.mask=7\/t.mask=31\/t.mask=127
 dum:t.dummies=#[]
 rise:ade t.place
 bd:∀ j:Nat,j∈t.place->j<=t.mask
 full:t.place.size<=t.mask
def adf (mask:Nat) (p:SetTable.Probe):SetTable.Probe:=
 if p.more > 0 then { p with j:=p.j+1,more:=p.more - 1 } else
 { p with j:=(SetTable.leap mask p.i p.perturb).1,more:=SetTable.runEnd mask (SetTable.leap mask p.i p.perturb).1 - (SetTable.leap mask p.i p.perturb).1,i:=(SetTable.leap mask p.i p.perturb).1,perturb:=(SetTable.leap mask p.i p.perturb).2 }
def at0 (mask i perturb:Nat):SetTable.Probe:={ j:=i,more:=SetTable.runEnd mask i - i,i,perturb,dummy:=none }
def wlk (mask:Nat) (h:Int):Nat->SetTable.Probe
 |0=>at0 mask (SetTable.bits h % (mask+1)) (SetTable.bits h)
 |n+1=>adf mask (wlk mask h n)
def nx (M i:Nat):Nat:=(i * 5+1) % M
structure Tok (t:SetTable) (es:Array (Int×Value)):Prop extends Tb t where
 size:t.place.size=es.size
 reach:∀ (i j:Nat) e,t.place[i]?=some j->es[i]?=some e->∃ n,n < 10 * SetTable.turns t.mask/\(wlk t.mask e.1 n).j=j/\∀ m,m < n->(wlk t.mask e.1 m).j∈t.place
end S6
end
section
namespace S6
open PySem PySem.Spec PyProof.Rows P1 L2
section
variable {prog:Program} {w:World} {A:Around} {E:VP_} {s:Shared} {a:Addr}
abbrev Qu (prog:Program) (w:World) (ks:List Key):Int:=tupleKeyHash (bY prog w) ks
def TE (prog:Program) (w:World) (h:Heap) (z:List Key×Addr) (e:Int×Value):Prop:=e=(Qu prog w z.1,.ref z.2)/\IsTupleKey (bY prog w) h z.1 z.2
structure Yu (prog:Program) (w:World) (h:Heap) (zs:List (List Key×Addr)) (es:Array (Int×Value)) (t:SetTable):Prop where
 rel:Paired (TE prog w h) zs es.toList
 nd:(zs.map (·.1)).Nodup
 tok:Tok t es
 load:es.size * 5 < t.mask * 3
 led:w.params.followText "set-order" = false->t.led=true
 non:0 < es.size->t.plain=false
def Tu (prog:Program) (w:World) (h:Heap) (a:Addr) (zs:List (List Key×Addr)):Prop:=∃ o es ep t,h.get? a=some o/\o.ExactSet/\o.data=.set es ep t/\Yu prog w h zs es t
theorem Uu {h h':Heap} {ks:List Key} {b:Addr} (x:IsTupleKey (bY prog w) h ks b) (k:∀ o,h.get? b=some o->o.cls=.type "tuple" → h'.get? b=some o):IsTupleKey (bY prog w) h' ks b:=
 let ⟨o,its,n,e,c,r⟩:=x;⟨o,its,n,k o e c,c,r⟩
theorem Qv {h h':Heap} {zs:List (List Key×Addr)} {l:List (Int×Value)} (k:∀ b o,h.get? b=some o->o.cls=.type "tuple" → h'.get? b=some o) (r:Paired (TE prog w h) zs l):Paired (TE prog w h') zs l:=by
 induction r with
 |nil=>exact .nil
 |cons q _ ih=>exact .cons ⟨q.1,Uu q.2 fun o e c=>k _ o e c⟩ ih
theorem Tu.keep {h h':Heap} {zs:List (List Key×Addr)} (x:Tu prog w h a zs) (k:∀ b o,h.get? b=some o->h'.get? b=some o):Tu prog w h' a zs:=
 let ⟨o,es,ep,t,e,r,d,q⟩:=x;⟨o,es,ep,t,k a o e,r,d,⟨Qv (fun b o e _=>k b o e) q.rel,q.nd,q.tok,q.load,q.led,q.non⟩⟩
theorem Yu.size {h:Heap} {zs:List (List Key×Addr)} {es:Array (Int×Value)} {t:SetTable} (x:Yu prog w h zs es t):es.size=zs.length:=by rw[x.rel.length];simp
theorem Tok.fits {t:SetTable} {es:Array (Int×Value)} (h:Tok t es):t.fits es.size=true:=by
 unfold SetTable.fits SetTable.fill
 have h1:=h.full
 have h2:=h.size
 rw[h.dum]
 simp[h2]
 omega
end
end S6
end
section
namespace S1
open PySem PySem.Spec PyProof.Rows L2
section
variable {prog:Program} {w:World} {A:Around} {E:VP_} {s:Shared}
end
end S1
end
section
namespace P1
open PySem PySem.Spec PyProof.Rows L2 S6
section
variable {X:Cx}
def hoS (X:Cx) (a:Addr) (zs:LS_):HO:=.ext fun h=>Tx X.prog X.w h a zs
variable {x:Str} {e:Expr} {f:Ev->Option Bx} {fs:Ev->Option LS_} {p pos:Pos}
end
theorem Mz {prog:Program} {w:World} {A:Around} {E:VP_} {s:Shared} {Q:VP_} (h:Q (.ref s.heap.objs.size) { s with heap:=s.heap.push (blank w) }):wpAny (model prog w) A (newSet (.type "set")) Q E s:=by
 unfold newSet
 refine zb (Mx ?_)
 simp only[newObj]
 exact zb (wpAny_alloc (ze h))
theorem MF {prog:Program} {w:World} {A:Around} {R:Result->Shared->Prop} {s:Shared} {elt target iter:Expr} {ifs:List Expr} {rest:List Comprehension} {scope:Scope} {pos:Pos} {it acc:Value} {env:Env}
  (h0:codeAny (model prog w) A (.compLoop (.SetComp elt (⟨target,iter,ifs,0⟩::rest) scope pos) 0 it acc env) R s)
  (h:wpAny (model prog w) A (pyIter it) (fun it' s'=>codeAny (model prog w) A (.compLoop (.SetComp elt (⟨target,iter,ifs,0⟩::rest) scope pos) 0 it' acc env) R s') (notedBy (model prog w) A env fun x s'=>R (.error x) s') s) :
  codeAny (model prog w) A (.compStart (.SetComp elt (⟨target,iter,ifs,0⟩::rest) scope pos) 0 it acc env) R s:=by
 refine codeAny_of_tree ?_
 show wpAny _ _ ((compStart (.SetComp elt (⟨target,iter,ifs,0⟩::rest) scope pos) 0 it acc env).onRaise (fun x=>do noteFrame x env;standAt theWindowsPlace)) _ _ s
 refine wpAny_notedAt ?_
 unfold compStart
 show wpAny _ _ (ask >>= _) _ _ s
 refine zb (wpAny_askSetting (wpAny_ite ?_))
 split
 ·first
   |exact zb (ze (ze (And.intro rfl h0)))
   |exact ze (And.intro rfl h0)
 ·first
   |exact zb (wpAny_rule (zb (QE (zb (ZH h (fun it' s' h'=>ze (And.intro rfl h')) fun _ _ x=>x)))))
   |(refine zb (wpAny_rule ?_);show wpAny _ _ (standAt iter.pos >>= _) _ _ s;exact zb (QE (zb (ZH h (fun q s' h'=>ze (And.intro rfl h')) fun _ _ x=>x))))
theorem Yv {H:Hp} {a:Addr} {φ:Heap->Prop} {o:HO} (h:H a=some (.ext φ)):Kp H (upd H a o):=by
 refine⟨fun b ys e=>?_,fun b ob u e=>?_⟩
 ·rw[aJ (lN e h (by intro z;cases z))];exact e
 ·rw[aJ (lN e h (by intro z;cases z))];exact e
section
variable {X:Cx}
end
section
variable {X:Cx} {elt tgt iter:Expr} {ifs:List Expr} {scope:Scope} {cl:List (Str×Addr)} {pos:Pos} {xs ts:LS_} {is:List Nat} {gt:Dt->Ev->Option Ev} {p:Ev->Option Bool} {fe:Ev->Option Bx} {fi:Ev->Option (List Dt)}
def AcS (X:Cx) (D:Addr) (_:Hp) (o1:List Dt) (o:HO):Prop:=∃ us,o=hoS X D us/\(∀ z,z∈us↔Dt.str z∈o1)/\us.Nodup/\(∀ z∈us,z.length<=sizeLine)/\us.length<=o1.length
def Uv:Bx->Option (List Dt)
 |.z (.str x)=>some [.str x]
 |_=>none
end
theorem GR:∀ {ds:List Dt} {ys:LS_},pA ds=some ys->ds=ys.map Dt.str
 |[],_,e=>by cases e;rfl
 |.str x::ds,_,e=>by
  simp only[pA] at e
  obtain⟨ys,e1,e2⟩:=bind_some e
  cases e2
  rw[zl,<-GR e1]
 |.non::_,_,e=>by cases e
 |.bl _::_,_,e=>by cases e
 |.int _::_,_,e=>by cases e
 |.tup _::_,_,e=>by cases e
 |.lst _::_,_,e=>by cases e
 |.emp::_,_,e=>by cases e
section
variable {X:Cx} {elt tgt iter:Expr} {ifs:List Expr} {scope:Scope} {cl:List (Str×Addr)} {pos:Pos} {xs:LS_} {is:List Nat} {gt:Dt->Ev->Option Ev} {p:Ev->Option Bool} {fe:Ev->Option Bx} {fi:Ev->Option (List Dt)}
def adh (fe:Ev->Option Bx):Ev->Option (List Dt):=fun ρ=>(fe ρ).bind Uv
def Wn (fs fs':Ev->Option (List Dt)):Prop:=∀ ρ ys,fs ρ=some ys->(∀ d∈ys,∃ x,d=Dt.str x)->fs' ρ=some ys
theorem one_up:Wn (aaD fe) (adh fe):=fun ρ ys e h=>by
 obtain⟨b,eb,e⟩:=bind_some e
 obtain⟨y,rfl,rfl⟩:=wQ e
 obtain⟨x,rfl⟩:=h y (List.mem_singleton.mpr rfl)
 show (fe ρ).bind Uv=_
 rw[eb];rfl
theorem Js {fs fs':Ev->Option (List Dt)} (u:Wn fs fs') {ρ:Ev}:∀ {ds out:List Dt},ug gt p fs ρ ds=some out->(∀ d∈out,∃ x,d=Dt.str x)->ug gt p fs' ρ ds=some out
 |[],_,e,_=>e
 |d::ds,out,e,h=>by
  simp only[ug] at e ⊢
  obtain⟨ρ1,e1,e⟩:=bind_some e
  obtain⟨k,ek,e⟩:=bind_some e
  simp only[e1,ek,QR]
  cases k with
  |false=>rw[zw zr] at e ⊢;exact Js u e h
  |true=>
   rw[zi rfl] at e ⊢
   obtain⟨ys,ey,e⟩:=bind_some e
   obtain⟨zs,ez,e⟩:=bind_some e
   cases e
   rw[u ρ1 ys ey fun d hd=>h d (qo _ hd),Js u ez fun d hd=>h d (zI _ hd)]
   rfl
def Wq (fi:Ev->Option (List Dt)) (gt:Dt->Ev->Option Ev) (p:Ev->Option Bool) (fe:Ev->Option Bx) (is:List Nat) (n:Nat):Ev->Option LS_:=fun ρ=>(fi ρ).bind fun ds=>
 if ds.length < 4000 then (uo gt p fe (lU is ρ++List.replicate n none) ds).bind pA else none
variable {e:Expr} {f:Ev->Option Bx} {fs:Ev->Option LS_} {p':Pos}
end
end P1
end
section
namespace P1
open PySem PySem.Spec PyProof.Rows L2 S1 S6
section
variable {X:Cx}
def Ts (prog:Program) (w:World) (h:Heap) (a:Addr) (zs:List (List Key×Addr)):Prop:=∃ o es ep t,h.get? a=some o/\o.ExactSet/\o.data=.set es ep t/\es.toList=zs.map (fun z=>(Qu prog w z.1,(.ref z.2:Value)))/\t.fits es.size=true/\(w.params.followText "set-order" = false->t.led=true)/\(0 < es.size->t.plain=false)
theorem GX {prog:Program} {w:World} {h:Heap}:∀ {zs:List (List Key×Addr)} {l:List (Int×Value)},Paired (TE prog w h) zs l->l=zs.map (fun z=>(Qu prog w z.1,(.ref z.2:Value)))
 |_,_,.nil=>rfl
 |_,_,.cons r t=>by rw[zl,<-GX t,r.1]
theorem Ts.of {prog:Program} {w:World} {h:Heap} {a:Addr} {zs:List (List Key×Addr)} (x:Tu prog w h a zs):Ts prog w h a zs:=
 let ⟨o,es,ep,t,e,r,d,q⟩:=x;⟨o,es,ep,t,e,r,d,GX q.rel,q.tok.fits,q.led,q.non⟩
theorem Ts.keep {prog:Program} {w:World} {h h':Heap} {a:Addr} {zs:List (List Key×Addr)} (x:Ts prog w h a zs) (k:∀ o,h.get? a=some o->h'.get? a=some o):Ts prog w h' a zs:=
 let ⟨o,es,ep,t,e,r⟩:=x;⟨o,es,ep,t,k o e,r⟩
end
section
variable {α:Type} [DecidableEq α]
end
section
variable {X:Cx}
def Uw (ks:List Key):Bool:=ks.any fun k=>k.isRight
variable {e:Expr} {f:Ev->Option Bx} {fs:Ev->Option (List (List Key))} {p pos:Pos}
end
end P1
end
section
namespace P1
open PySem PySem.Spec PyProof.Rows L2
def adi (kvs:List (Key×Dt)):Dt->List (Key×Dt)
 |.tup [.str k,d]=>Jm kvs (.inr k) d
 |_=>kvs
def dictOf (out:List Dt):List (Key×Dt):=out.foldl adi []
section
variable {X:Cx} {pins:List (Addr×Obj)} {σ:L2.St} {H:Hp} {s:Shared} {a:Addr} {A:Around} {E:VP_}
end
section
variable {X:Cx} {kx vx tgt iter:Expr} {ifs:List Expr} {scope:Scope} {cl:List (Str×Addr)} {pos:Pos} {xs ts:LS_} {is:List Nat} {gt:Dt->Ev->Option Ev} {p:Ev->Option Bool} {fk fv:Ev->Option Bx} {fi:Ev->Option (List Dt)}
def AcD (K:FG_) (_:Addr) (H:Hp) (o1:List Dt) (o:HO):Prop:=∃ us,o=.dK us/\iU K H (dictOf o1) us/\us.length<=o1.length
theorem AcD.kp {K:FG_} {D:Addr} {H H':Hp} {o1:List Dt} {o:HO} (k:Kp H H'):AcD K D H o1 o->AcD K D H' o1 o:=fun ⟨us,e,r,z⟩=>⟨us,e,r.kp k,z⟩
end
section
variable {X:Cx} {pins:List (Addr×Obj)} {σ:L2.St} {H:Hp} {s:Shared} {a:Addr} {ks:List (Key×V)} {o:Obj}
end
section
variable {X:Cx} {e elt tgt iter:Expr} {ifs:List Expr} {fd:Ev->Option Bx} {scope:Scope} {cl:List (Str×Addr)} {pos:Pos} {xs ts:LS_} {is:List Nat} {gt:Dt->Ev->Option Ev} {p:Ev->Option Bool} {fe:Ev->Option Bx}
end
section
variable {prog:Program} {w:World} {A:Around} {E:VP_} {s:Shared}
end
section
variable {X:Cx}
end
section
variable {X:Cx} {e:Expr} {es:List Expr} {fs:Ev->Option (List Bx)} {p px pos spos:Pos} {x y:Str} {k n:Nat} {f:Addr} {fd:FuncData} {ps:LS_} {G:Addr->List (Key×Dt)->List Bx->Option (List (Key×Dt))}
end
def Sq:Option Bool->Bool
 |some true=>true
 |_=>false
def MJ (x:Dt) (ys:List Dt):Option Bool:=if (ys.all fun y=>(lW y x).isSome&&decide (min (oG y) (oG x)<=60))=true then some (ys.any fun y=>Sq (lW y x)) else none
def inX (a b:Bx):Option Bx:=match a with
 |.z d=>(zB b).bind fun ys=>(MJ d ys).bind fun k=>some (.z (.bl k))
 |_=>none
section
variable {X:Cx} {pins:List (Addr×Obj)} {σ:L2.St} {H:Hp} {s:Shared}
theorem Qw (I:L2.Inv X pins σ H s) (hu:X.A.units+100 < cLine) {d:Dt} {x:V} {u:Value} (rx:Rep X.K H d x) (ru:RelV x u) {ys:List Dt} {vs:List V} {its:List Value} (rs:aR X.K H ys vs) (rv:Vals vs its) {k:Bool} (hk:MJ d ys=some k) :
  ∃ e:Value->Bool,(∀ y,y∈its->SeqAt.EqAt X.A.in1 s y u (e y))/\its.any e=k:=by
 unfold MJ at hk
 split at hk
 ·rename_i hall
  injection hk with hk
  rw[QY] at hall
  have at_:∀ (i:Nat) y,its[i]?=some y->∃ c,ys[i]?=some c/\SeqAt.EqAt X.A.in1 s y u (Sq (lW c d)):=fun i y hy=>by
   have hl:=rv.length
   have hl2:=rs.length
   have hi:i < its.length:=(List.getElem?_eq_some_iff.mp hy).1
   have hi':i < ys.length:=by omega
   obtain⟨v,ev,r1⟩:=rs.get (show ys[i]?=some ys[i] by simp[hi'])
   obtain⟨y',ey,r2⟩:=rv.get ev
   rw[hy] at ey
   cases ey
   refine⟨ys[i],by simp[hi'],?_⟩
   have hc:=hall ys[i] (List.getElem_mem hi')
   rw[ZO] at hc
   obtain⟨b,hb⟩:=Option.isSome_iff_exists.mp hc.1
   have:=Wh I 60 (A:=X.A.in1) (JP hc.2) (by rw[units_in1];omega) r1 rx r2 ru hb
   rw[hb]
   cases b<;>exact this
  classical
  refine⟨fun y=>decide (∃ (i:Nat) (c:Dt),its[i]?=some y/\ys[i]?=some c/\Sq (lW c d)=true),fun y hy=>?_,?_⟩
  ·dsimp only
   by_cases q:∃ (i:Nat) (c:Dt),its[i]?=some y/\ys[i]?=some c/\Sq (lW c d)=true
   ·rw[ZU q]
    obtain⟨i,c,h1,h2,h3⟩:=q
    obtain⟨c',e1,e2⟩:=at_ i y h1
    rw[h2] at e1
    cases e1
    rw[h3] at e2
    exact e2
   ·rw[ZI q]
    obtain⟨i,hi,ei⟩:=List.getElem_of_mem hy
    have h1:its[i]?=some y:=by rw[JA hi,ei]
    obtain⟨c,e1,e2⟩:=at_ i y h1
    have:Sq (lW c d)=false:=by
     cases hq:Sq (lW c d) with
     |false=>rfl
     |true=>exact absurd ⟨i,c,h1,e1,hq⟩ q
    rw[this] at e2
    exact e2
  ·rw[<-hk,kn,kc,kc]
   constructor
   ·rintro⟨y,hy,h⟩
    obtain⟨i,c,h1,h2,h3⟩:=JP h
    exact⟨c,jv h2,h3⟩
   ·rintro⟨c,hc,h3⟩
    obtain⟨i,hi,ei⟩:=List.getElem_of_mem hc
    have hl:=rv.length
    have hl2:=rs.length
    have hi':i < its.length:=by omega
    exact⟨its[i],List.getElem_mem hi',ZU ⟨i,c,by simp[hi'],by rw[JA hi,ei],h3⟩⟩
 ·cases hk
theorem Yw (hu:X.A.units+100 < cLine):Cu X (compareOp .In) inX:=by
 intro pins s σ H x y v u Q I rx ry h
 obtain⟨a,b,c,ra,rb,e,q⟩:=h
 unfold inX at e
 split at e
 ·rename_i d
  obtain⟨ys,ey,e⟩:=bind_some e
  obtain⟨k,ek,e⟩:=bind_some e
  cases e
  obtain⟨p,vs,rfl,sq,rs⟩:=Ut rb ey
  cases ry
  rcases sq with sq|sq
  ·obtain⟨its,r',pl,hz⟩:=I.list sq
   obtain⟨f,f1,f2⟩:=Qw I hu ra rx rs r' ek
   refine SeqAt.in_listAt f pl.isList (fun w hw=>f1 w (by simpa using hw)) ⟨.bl k,H,I,by rw[show its.toArray.any f=its.any f by simp,f2];rfl,q _ H (Same.refl H) trivial (by simp only[bh,Rep])⟩
  ·obtain⟨its,r',pl,hz⟩:=I.tuple sq
   obtain⟨f,f1,f2⟩:=Qw I hu ra rx rs r' ek
   refine SeqAt.in_tupleAt f pl (fun w hw=>f1 w (by simpa using hw)) ⟨.bl k,H,I,by rw[show its.toArray.any f=its.any f by simp,f2];rfl,q _ H (Same.refl H) trivial (by simp only[bh,Rep])⟩
 ·cases e
end
section
variable {X:Cx} {g:Ev->Option Out} {st:List Stmt} {i:Nat}
end
open AutoSeq1 (wpAny_loadPart')
open SeqAt
section
variable {X:Cx} {pins:List (Addr×Obj)} {σ:L2.St} {H:Hp} {s:Shared}
end
section
variable {X:Cx} {o e:Expr} {fo fx:Ev->Option Bx}
end
section
variable {X:Cx} {c:Expr} {body:List Stmt} {t:Ev->Option Bool} {g:Ev->Option Out} {pos:Pos}
end
section
variable {X:Cx} {pins:List (Addr×Obj)} {σ:L2.St} {H:Hp} {s:Shared} {h':Heap}
theorem Ux {t':Nat} {e it:Addr} {xs:List V} (I:L2.Inv X pins σ H s) (k:∀ b o,b≠e->b≠it->s.heap.get? b=some o->h'.get? b=some o) (fe:qP X pins H e) (fi:qP X pins H it)
  (he:∃ o,h'.get? e=some o) (hi:∃ o,h'.get? it=some o) (new:fj X.prog X.w (upd H s.heap.objs.size (.tup xs)) h' s.heap.objs.size (.tup xs)):L2.Inv X pins σ (upd H s.heap.objs.size (.tup xs)) { s with heap:=h',toks:=t' }:=by
 have hf:H s.heap.objs.size=none:=I.hok.fresh (zk _)
 have nd:∀ b u,H b=some u->b≠s.heap.objs.size:=fun b u q z=>by rw[z,hf] at q;cases q
 have ne:∀ b u,H b=some u->b≠e/\b≠it:=fun b u q=>⟨fun z=>(by rw[z,fe.1] at q;cases q),fun z=>(by rw[z,fi.1] at q;cases q)⟩
 have nc:∀ b,b∉[e,it]->b≠e/\b≠it:=fun b hb=>⟨fun z=>hb (by simp[z]),fun z=>hb (by simp[z])⟩
 refine I.step (g':=s.gens) (d':=s.drawn) (ch:=[e,it]) (fun b hb=>?_) (fun b o _ _ hc q _=>k b o (nc b hc).1 (nc b hc).2 q) (fun b o _ _ hc q _=>⟨o.slots,k b o (nc b hc).1 (nc b hc).2 q⟩) (fun b o _ q n=>?_)
  (fun b o hc q=>⟨o,k b o (nc b hc).1 (nc b hc).2 q⟩) (fun b ys q=>?_) (fun b o u q=>?_) (fun b ps q=>⟨#[],?_⟩) (fun m hm=>?_) (fun b u q=>?_) I.bare
 ·rcases List.mem_cons.mp hb with rfl|hb
  ·exact⟨fe.2.2.2.1,fe.2.1,fe.2.2.2.2.1,fe.2.2.2.2.2⟩
  ·cases List.mem_singleton.mp hb
   exact⟨fi.2.2.2.1,fi.2.1,fi.2.2.2.2.1,fi.2.2.2.2.2⟩
 ·rw[aJ (ZE (zt q))];exact n
 ·rw[aJ (nd b _ q)];exact q
 ·rw[aJ (nd b _ q)];exact q
 ·rw[aJ (nd b _ q),q];simp
 ·obtain⟨o,es,ep,ho,r⟩:=hm
  exact⟨o,es,ep,k _ o (qq fe.2.1) (qq fi.2.1) ho,r⟩
 ·by_cases hb:b=s.heap.objs.size
  ·subst hb
   rw[aU] at q;cases q
   exact new
  ·rw[aJ hb] at q
   refine (I.hok b u q).stay (fun c v hc w=>k c v ?_ ?_ w) (fun c w=>?_) fun c ys w=>?_
   ·rcases hc with rfl|z
    ·exact (ne _ _ q).1
    ·exact (ne _ _ z).1
   ·rcases hc with rfl|z
    ·exact (ne _ _ q).2
    ·exact (ne _ _ z).2
   ·rw[aJ (nd c _ w)];exact w
   ·rw[aJ (nd c _ w)];exact w
end
def Ite (K:FG_) (l:Addr):It:=
 ⟨fun i H=>∃ xs x,pW K H l xs/\xs[i]?=some x,fun i H v H'=>∃ p x,H p=none/\(∀ xs,pW K H l xs->xs[i]?=some x)/\v=.ref p/\H'=upd H p (.tup [.int i,x]),fun i H=>∃ xs,pW K H l xs/\xs.length<=i⟩
theorem MK {P:Program} {w:World} {K:FG_} {elts:List Expr} {x1:Nat} {tpos:Pos} (l e it:Addr) (hne:e≠it) :
  Turn P w K (.Tuple elts x1 tpos) (Ite K l) [e,it] e (fun i h=>(∃ old,IsEnum h e it i old)/\h.IsListIter it l i) where
 mem:=by simp
 obj:=fun i h st b hb=>by
  obtain⟨⟨old,h1⟩,o,h2,_,h3⟩:=st
  rcases List.mem_cons.mp hb with rfl|hb
  ·exact⟨_,h1,fun v z=>by cases z⟩
  ·cases List.mem_singleton.mp hb
   exact⟨o,h2,fun v z=>by rw[h3] at z;cases z⟩
 keep:=fun i h h' st k=>by
  obtain⟨⟨old,h1⟩,h2⟩:=st
  exact⟨⟨old,k e (by simp) _ h1⟩,h2.at fun o q=>k it (by simp) o q⟩
 item:=by
  intro X hP hw hK hc i pins s σ H E I hf st hg
  subst hP hw hK
  obtain⟨⟨old,h1⟩,h2⟩:=st
  obtain⟨xs,x,hq,hx⟩:=hg
  obtain⟨its,rv,p,hz⟩:=I.list hq
  obtain⟨u,hu,ru⟩:=rv.get hx
  have fe:=hf e (by simp)
  have fi:=hf it (by simp)
  refine wpAny_pyNext_enum_item h1 h2 p.isList (x:=u) (by simpa using hu) hne fun h1' ho hit' hT hsz hk=>⟨_,rfl,?_⟩
  refine wpAny_letOwnedTupleGo_enum ho fun h2' aaQ hsb=>?_
  have elt:e < s.heap.objs.size:=zt h1
  have ilt:it < s.heap.objs.size:=by obtain⟨_,q,_⟩:=h2;exact zt q
  have hT2:h2'.get? s.heap.objs.size=some { cls:=.type "tuple", data:=.seq #[.int i s.toks,u] }:=(hsb.2 _ (Q3 elt)).trans hT
  have hit2:h2'.IsListIter it l (i+1):=hit'.at fun o q=>(hsb.2 it (qq hne)).trans q
  refine⟨.ref s.heap.objs.size,upd H s.heap.objs.size (.tup [.int i,x]),Ux (t':=s.toks+1) I (fun b o n1 n2 q=>(hsb.2 b n1).trans (hk b o n1 n2 q)) fe fi ⟨_,aaQ⟩ (by obtain⟨o,q,_⟩:=hit2;exact⟨o,q⟩) ?_,rfl,⟨_,x,I.hok.fresh (zk _),fun ys hy=>by rw[I.yW hy hq];exact hx,rfl,rfl⟩,⟨⟨_,by simpa using aaQ⟩,hit2⟩,fun b hb=>?_⟩
  ·exact⟨by show 2<=sizeLine;decide,[.int i s.toks,u],.cons ⟨_,rfl⟩ (.cons ru .nil),_,hT2,rfl,⟨_,rfl⟩,rfl⟩
  ·rcases List.mem_cons.mp hb with rfl|hb
   ·rw[aJ (ZE elt)];exact fe.1
   ·cases List.mem_singleton.mp hb
    rw[aJ (ZE ilt)];exact fi.1
 done:=by
  intro X hP hw hK hc i pins s σ H E I hf st hg
  subst hP hw hK
  obtain⟨⟨old,h1⟩,h2⟩:=st
  obtain⟨xs,hq,hx⟩:=hg
  obtain⟨its,rv,p,hz⟩:=I.list hq
  obtain⟨f0,f1,f2,f3,f4,f5⟩:=hf it (by simp)
  have hl:=rv.length
  exact wpAny_pyNext_enum_end (I.ok.hd hc) h1 h2 p.isList (by simp;omega) fun h' eb=>⟨rfl,I.turned (t':=s.toks) (fun b o hb e=>eb b o hb e) f0 f1 f3 f4 f5⟩
 self:=fun _ _ _ _ _ st h=>by
  obtain⟨⟨old,h1⟩,_⟩:=st
  exact wpAny_pyIter_enum h1 h
def yc (ds:List Dt):List Dt:=(List.range ds.length).zipWith (fun k d=>.tup [.int (k:Nat),d]) ds
theorem CZ (ds:List Dt):(yc ds).length=ds.length:=by simp[yc]
theorem MN {ds:List Dt} {i:Nat} {d:Dt} (h:(yc ds)[i]?=some d):∃ c,ds[i]?=some c/\d=.tup [.int (i:Nat),c]:=by
 have hi:i < ds.length:=by
  have:=(List.getElem?_eq_some_iff.mp h).1
  rwa [CZ] at this
 refine⟨ds[i],by simp[hi],?_⟩
 unfold yc at h
 rw[List.getElem?_zipWith] at h
 simp[hi] at h
 exact h.symm
theorem Yields.enum {K:FG_} {Hs:Hp} {l:Addr} {vs:List V} {ds:List Dt} (h:pW K Hs l vs) (r:aR K Hs ds vs):Yields K (Ite K l) (yc ds) Hs:=fun i H s=>by
 have h':=s.seq h
 have r':=r.kp (.of s)
 refine⟨fun d e=>?_,fun e=>⟨vs,h',by rw[CZ] at e;rw[r.length];exact e⟩⟩
 obtain⟨c,ec,rfl⟩:=MN e
 obtain⟨v,ev,rv⟩:=r'.get ec
 refine⟨⟨vs,v,h',ev⟩,fun x H' y=>?_⟩
 obtain⟨p,x0,hp,hq,rfl,rfl⟩:=y
 have:=hq vs h'
 rw[ev] at this;cases this
 have sm:Same H (upd H p (.tup [.int (i:Nat),v])):=fun b o q=>by rw[aJ (aW q hp)];exact q
 refine⟨sm,?_⟩
 simp only[Rep]
 exact⟨p,_,rfl,.inl (.inl aU),aR.cons (by simp only[Rep]) (aR.cons (Rep.kp (.of sm) rv) aR.nil)⟩
section
variable {X:Cx} {elts:List Expr} {x1:Nat} {tpos p pos:Pos} {e:Expr} {fs:Ev->Option (List Bx)}
def iEn (K:FG_) (ta:TA):TI:=fun σ H R=>ta σ H fun vs H1=>∃ l,vs=[.ref l]/\(∃ xs,pW K H1 l xs)/\R (Ite K l) H1
theorem Uy {ta:TA} (hg:Gl X "enumerate") (hm:X.mg "enumerate" = none) (ha:PA X [e] ta) (hs:starEach [e] X.env=[(false,eval e X.env)]:=by rfl):PI X (.Tuple elts x1 tpos) (.Call (.Name "enumerate" p) [e] [] pos) (iEn X.K ta):=by
 intro pins s σ H R I h
 refine Call_ (yV I hg hm boot_enumerate (PyProof.Rows.callWith_type1 (iu (ha pos pins s σ H _ I h) fun us s1 ⟨vs,H1,I1,r1,q1⟩=>?_) hs rfl))
 obtain⟨l,rfl,⟨xs,hq⟩,q⟩:=q1
 obtain⟨u,rfl,ru⟩:=vals1 r1
 cases ru
 obtain⟨its,rv,p,hz⟩:=I1.list hq
 refine call_enumerate_list p.isList fun h' he hit hsz hk=>?_
 refine wpAny_pyIter_enum he ?_
 refine⟨s1.heap.objs.size+1,[s1.heap.objs.size+1,s1.heap.objs.size],_,_,H1,rfl,I1.kept (t':=s1.toks) hk,MK l _ _ (Q3 (Nat.lt_succ_self _)),⟨⟨_,he⟩,hit⟩,fun b hb=>?_,q⟩
 rcases List.mem_cons.mp hb with rfl|hb
 ·exact I1.Lg (kB _) (I1.hok.fresh (kB _))
 ·cases List.mem_singleton.mp hb
  exact I1.Lg (zk _) (I1.hok.fresh (zk _))
def GZ:List Bx->Option (List Dt)
 |[b]=>(oX b).bind fun ds=>some (yc ds)
 |_=>none
theorem Qx (hg:Gl X "enumerate") (hm:X.mg "enumerate" = none) (ha:PVs X [e] fs) (hs:starEach [e] X.env=[(false,eval e X.env)]:=by rfl):PIC X (.Tuple elts x1 tpos) (.Call (.Name "enumerate" p) [e] [] pos) (fun ρ=>(fs ρ).bind GZ):=fun pins s σ H R I q=>by
 refine Uy hg hm ha hs pins s σ H R I ?_
 obtain⟨H0,ρ,ds,E,e,q⟩:=q
 obtain⟨bs,eb,e⟩:=bind_some e
 refine⟨H0,ρ,bs,E,eb,fun vs H1 s1 r1=>?_⟩
 unfold GZ at e
 split at e
 ·rename_i b
  obtain⟨ds',ed,e⟩:=bind_some e
  cases e
  obtain⟨v,rfl,rb⟩:=rep1 r1
  obtain⟨a,ws,rfl,sq,rs⟩:=rb.Cr ed
  exact⟨a,rfl,⟨ws,sq⟩,q _ _ s1 (.enum sq rs)⟩
 ·cases e
theorem Qy (hg:Gl X "enumerate") (hm:X.mg "enumerate" = none) (ha:Pb X [e] fs) (hs:starEach [e] X.env=[(false,eval e X.env)]:=by rfl):QIC X (.Tuple elts x1 tpos) (.Call (.Name "enumerate" p) [e] [] pos) (fun ρ=>(fs ρ).bind GZ):=⟨Qx hg hm ha.run hs⟩
end
section
variable {X:Cx} {e:Expr} {f:Ev->Option Bx} {pos:Pos}
end
section
variable {X:Cx}
end
section
variable {X:Cx} {e:Expr} {f:Ev->Option Bx} {pos:Pos}
end
section
variable {X:Cx} {e ek ev:Expr} {f fk fv:Ev->Option Bx} {pos:Pos} {st:Stmt}
def noG:Ev->Option Out:=fun _=>none
theorem Uz:Pz X st noG:=⟨fun D pins s σ H I q=>by
 obtain⟨H0,ρ,r,E,e,q⟩:=q
 cases e⟩
end
section
variable {X:Cx} {e st:Expr} {f fs:Ev->Option Bx} {pos p2:Pos}
end
section
variable {prog:Program} {w:World} {A:Around} {E:VP_} {s:Shared}
theorem ad {a b:Nat} (h:a≠b):@Ne Addr a b:=h
end
section
variable {prog:Program} {w:World} {A:Around} {E:VP_} {s:Shared} {K:Type} [DecidableEq K] {knd:KeyKind prog w K}
end
section
variable {X:Cx} {ea eb:Expr} {fa fb:Ev->Option Bx} {p1 p2 pos1 pos2:Pos}
end
section
variable {X:Cx}
end
theorem qg {X:Cx} {scope:Scope} {cl:List (Str×Addr)} (xs:LS_) (is:List Nat) (clos:closureFor scope X.env=pure cl:=by with_unfolding_all rfl) (kind:scope.kind=.function:=by rfl) (cell:scope.names.all (fun y=>decide (y.2≠.cell)||(cl.lookup y.1).isNone)=true:=by rfl)
  (names:scope.names.all (fun y=>decide (y.2=.local->scope.names.lookup y.1=some .local))=true:=by decide +kernel) (sub:SubL X.env.cells cl:=by repeat (first|exact trivial|refine⟨rfl,?_⟩))
  (has:(relabel scope X.env).names.all (fun y=>!(y.2==.cell||y.2==.free)||(cl.lookup y.1).isSome||scope.names.contains (y.1,.cell))=true:=by rfl) (cap:BL X scope cl xs is:=by repeat (first|exact Yn|refine Ui rfl (by first|exact .inl rfl|exact .inr rfl) (by first|exact .inl rfl|exact .inr rfl) ⟨_,rfl⟩ ?_)):rB X scope cl xs is:=Yo clos kind cell names sub has cap
theorem qj {N ps:LS_} {sc:Scope} (h1:sc.kind=.function:=by rfl) (h2:sc.isCoroutine=false:=by rfl) (h3:sc.isGenerator=false:=by rfl) (h4:N.Nodup:=by decide +kernel) (h5:N.take ps.length=ps:=by rfl) (h6:∀ x∈ps,sc.names.lookup x=some .local\/sc.names.lookup x=some .cell:=by decide +kernel) (h7:∀ y∈sc.names,y.2≠.free:=by decide +kernel):bH N ps sc:=⟨h1,h2,h3,h4,h5,h6,h7⟩
instance:Inhabited Dt:=⟨.non⟩
theorem bnd {α β:Type} (a:α) (f:α->Option β):(some a).bind f=f a:=(QR a f).trans (Eq.refl _)
def hold:Option Prop->Prop
 |none=>True
 |some p=>p
def bx:Option Prop->Option Prop->Option Prop
 |none,q=>q
 |some p,none=>some p
 |some p,some q=>some (p/\q)
def zL (c:Prop):Option Prop->Option Prop
 |none=>none
 |some p=>some (c->p)
theorem au {p q:Option Prop} (h:hold (bx p q)):hold p/\hold q:=by
 cases p with
 |none=>exact⟨trivial,h⟩
 |some p=>cases q with
  |none=>exact⟨h,trivial⟩
  |some q=>exact h
theorem jW {c:Prop} {p:Option Prop} (h:hold (zL c p)) (hc:c):hold p:=by
 cases p with
 |none=>trivial
 |some p=>exact h hc
structure R {α β:Type} (f:Ev->Option β) (ρ:Ev) (c:α->β) where
 v:α
 D:Option Prop
 ok:hold D->f ρ=some (c v)
abbrev zE {α:Type} (e:α->Dt):α->Bx:=fun a=>.z (e a)
abbrev oE {α:Type} (e:α->Dt):List α->Bx:=fun xs=>.o (xs.map e)
abbrev lE {α:Type} (e:α->Dt):List α->Bx:=fun xs=>.l (xs.map e)
abbrev tE:Bool->Bool:=fun b=>b
abbrev iE {α:Type} (e:α->Dt):List α->List Dt:=fun xs=>xs.map e
abbrev eI:Int->Dt:=Dt.int
abbrev eB:Bool->Dt:=Dt.bl
abbrev eS:Str->Dt:=Dt.str
abbrev eD:Dt->Dt:=fun d=>d
abbrev eL {α:Type} (e:α->Dt):List α->Dt:=fun xs=>.lst (xs.map e)
abbrev eT {α:Type} (e:α->Dt):List α->Dt:=fun xs=>.tup (xs.map e)
abbrev eO {α:Type} (e:α->Dt):Option α->Dt:=fun o=>match o with|none=>.non|some a=>e a
abbrev eP1 {α:Type} (a:α->Dt):α->Dt:=fun x=>.tup [a x]
abbrev Ob {α β:Type} (a:α->Dt) (b:β->Dt):α×β->Dt:=fun x=>.tup [a x.1,b x.2]
abbrev eP3 {α β γ:Type} (a:α->Dt) (b:β->Dt) (c:γ->Dt):α×β×γ->Dt:=fun x=>.tup [a x.1,b x.2.1,c x.2.2]
abbrev eP4 {α β γ δ:Type} (a:α->Dt) (b:β->Dt) (c:γ->Dt) (d:δ->Dt):α×β×γ×δ->Dt:=fun x=>.tup [a x.1,b x.2.1,c x.2.2.1,d x.2.2.2]
structure RL {α:Type} (f:Ev->Option Bx) (ρ:Ev) (e:α->Dt) where
 v:List α
 D:Option Prop
 b:Bx
 lk:oX b=some (v.map e)
 ok:hold D->f ρ=some b
section
variable {α β γ δ:Type} {ρ:Ev} {f fa fb fc:Ev->Option Bx} {fs:Ev->Option (List Bx)} {e:α->Dt} {e':β->Dt}
def lO (a:R f ρ (oE e)):RL f ρ e:=⟨a.v,a.D,_,rfl,a.ok⟩
def mj (a:R f ρ (lE e)):RL f ρ e:=⟨a.v,a.D,_,rfl,a.ok⟩
def adk (a:R f ρ (zE (eL e))):RL f ρ e:=⟨a.v,a.D,_,rfl,a.ok⟩
def Lp (b:Bx) (ds:List Dt):Prop:=b=.z (.lst ds)\/b=.l ds
theorem Lp.Cr {b:Bx} {ds:List Dt} (h:Lp b ds):oX b=some ds:=by rcases h with rfl|rfl<;>rfl
theorem Lp.get {b:Bx} {ds:List Dt} {i:Nat} (h:Lp b ds) (hi:ρ[i]?=some (some b)):yp ρ i=some b:=by
 rcases h with rfl|rfl<;>(unfold yp;rw[hi])
theorem Lp.lend {b:Bx} {ds:List Dt} (h:Lp b ds):P1.lend b=b:=by rcases h with rfl|rfl<;>rfl
theorem G3 {b:Bx} {ds:List Dt} (h:oX b=some ds):Lp (P1.lend b) ds:=by
 cases b with
 |z d=>cases d<;>cases h;exact .inl rfl
 |l d=>cases h;exact .inr rfl
 |o d=>cases h;exact .inr rfl
 |n d=>cases h
 |m d _=>cases h
def aq (i:Nat) (c:α->Bx) (a:α) (h:yp ρ i=some (c a)):R (gv i) ρ c:=⟨a,none,fun _=>h⟩
def kY (i:Nat) (e:α->Dt) (a:List α) {b:Bx} (h:Lp b (a.map e)) (hi:ρ[i]?=some (some b)):RL (gv i) ρ e:=⟨a,none,b,h.Cr,fun _=>h.get hi⟩
def Dc (d:Dt) (e:α->Dt) (a:α) (h:d=e a):R (cB d) ρ (zE e):=⟨a,none,fun _=>by rw[h];rfl⟩
def zM (a:R f ρ (zE e)):R f ρ (zE eD):=⟨e a.v,a.D,a.ok⟩
def Qz (a:R f ρ (zE e)):R f ρ (zE (eO e)):=⟨some a.v,a.D,a.ok⟩
def QC {e:α->Dt}:R (cB .non) ρ (zE (eO e)):=⟨none,none,fun _=>rfl⟩
def aaR (a:R f ρ (oE e)):R (b1 uY f) ρ (zE (eL e)):=⟨a.v,a.D,fun h=>by simp only[b1,a.ok h,bnd,uY]⟩
def lQ (a:R f ρ (zE e)):R (b1 uY f) ρ (zE e):=⟨a.v,a.D,fun h=>by simp only[b1,a.ok h,bnd,uY]⟩
def gF (a:R fa ρ (zE eI)) (b:R fb ρ (zE eI)):R (b2 bQ fa fb) ρ (zE eI):=⟨a.v+b.v,bx a.D b.D,fun h=>by
 obtain⟨h1,h2⟩:=au h
 simp only[b2,a.ok h1,b.ok h2,bnd,bQ]⟩
def Mul (a b:Int):Prop:=(-18446744073709551616 < a/\a < 18446744073709551616)\/(-18446744073709551616 < b/\b < 18446744073709551616)
def Wr (a:R fa ρ (zE eI)) (b:R fb ρ (zE eI)):R (b2 mR fa fb) ρ (zE eI):=⟨a.v * b.v,bx (bx a.D b.D) (some (Mul a.v b.v)),fun h=>by
 obtain⟨h,h3⟩:=au h
 obtain⟨h1,h2⟩:=au h
 simp only[b2,a.ok h1,b.ok h2,bnd]
 exact zi h3⟩
def oH (n:Int) (hn : -18446744073709551616 < n/\n < 18446744073709551616) (b:R fb ρ (zE eI)):R (b2 mR (cB (.int n)) fb) ρ (zE eI):=⟨n * b.v,b.D,fun h=>by
 simp only[b2,b.ok h,bnd,cB]
 exact zi (.inl hn)⟩
def Ko (a:R fa ρ (zE eI)) (n:Int) (hn : -18446744073709551616 < n/\n < 18446744073709551616):R (b2 mR fa (cB (.int n))) ρ (zE eI):=⟨a.v * n,a.D,fun h=>by
 simp only[b2,a.ok h,bnd,cB]
 exact zi (.inr hn)⟩
def Yx (a:R fa ρ (zE eI)) (b:R fb ρ (zE eI)):R (b2 o8 fa fb) ρ (zE eI):=⟨a.v / b.v,bx (bx a.D b.D) (some (0 < b.v/\b.v < 1073741824)),fun h=>by
 obtain⟨h,h3⟩:=au h
 obtain⟨h1,h2⟩:=au h
 have h3:0 < b.v/\b.v < 1073741824:=h3
 simp only[b2,a.ok h1,b.ok h2,bnd,i2,zi h3]⟩
def nO (a:R fa ρ (zE eI)) (n:Int) (hn:0 < n/\n < 1073741824):R (b2 o8 fa (cB (.int n))) ρ (zE eI):=⟨a.v / n,a.D,fun h=>by
 simp only[b2,a.ok h,bnd,i2,cB,zi hn]⟩
def vD (a:R fa ρ (zE eI)) (b:R fb ρ (zE eI)):R (b2 gD fa fb) ρ (zE eI):=⟨a.v % b.v,bx (bx a.D b.D) (some (0 < b.v)),fun h=>by
 obtain⟨h,h3⟩:=au h
 obtain⟨h1,h2⟩:=au h
 have h3:0 < b.v:=h3
 simp only[b2,a.ok h1,b.ok h2,bnd,i2,zi h3]⟩
def gq (a:R fa ρ (zE eI)) (n:Int) (hn:0 < n):R (b2 gD fa (cB (.int n))) ρ (zE eI):=⟨a.v % n,a.D,fun h=>by
 simp only[b2,a.ok h,bnd,i2,cB,zi hn]⟩
def Yy (a b:Int) (n:Nat) (h:0<=b/\b<=1000/\a.natAbs < 18446744073709551616) (hb:b.toNat=n):R (b2 Uc (cB (.int a)) (cB (.int b))) ρ (zE eI):=⟨a ^ n,none,fun _=>by
 simp only[b2,bnd,cB]
 show ((if 0<=b/\b<=1000/\a.natAbs < 2 ^ 64 then some (Dt.int (a ^ b.toNat)) else none).bind fun d=>some (Bx.z d))=_
 rw[zi h,hb]
 rfl⟩
def aaS (a:R fa ρ (zE eI)) (b:R fb ρ (zE eI)):R (b2 leB fa fb) ρ (zE eB):=⟨decide (a.v<=b.v),bx a.D b.D,fun h=>by
 obtain⟨h1,h2⟩:=au h
 simp only[b2,a.ok h1,b.ok h2,bnd,i2]⟩
def adl (a:R fa ρ (zE eI)) (b:R fb ρ (zE eI)):R (b2 gtB fa fb) ρ (zE eB):=⟨decide (b.v < a.v),bx a.D b.D,fun h=>by
 obtain⟨h1,h2⟩:=au h
 simp only[b2,a.ok h1,b.ok h2,bnd,i2]⟩
def x_ge (a:R fa ρ (zE eI)) (b:R fb ρ (zE eI)):R (b2 geB fa fb) ρ (zE eB):=⟨decide (b.v<=a.v),bx a.D b.D,fun h=>by
 obtain⟨h1,h2⟩:=au h
 simp only[b2,a.ok h1,b.ok h2,bnd,i2]⟩
def Ws (a:R fa ρ (zE eI)) (b:R fb ρ (zE eI)):R (b2 Yr fa fb) ρ (zE eB):=⟨decide (a.v < b.v),bx a.D b.D,fun h=>by
 obtain⟨h1,h2⟩:=au h
 simp only[b2,a.ok h1,b.ok h2,bnd,Yr]⟩
def ltS (x y:Str):Bool:=decide (x.cps.toList < y.cps.toList)
end
class Eqs {α:Type} [DecidableEq α] (e:α->Dt) (n:outParam Nat):Prop where
 eq:∀ a b,lW (e a) (e b)=some (decide (a=b))
 dp:∀ a,oG (e a)<=n
class Non {α:Type} (e:α->Dt):Prop where
 l:∀ a,lW .non (e a)=some false
 r:∀ a,lW (e a) .non=some false
instance:Eqs eI 1:=⟨fun a b=>rfl,fun a=>by simp[oG]⟩
instance:Eqs eB 1:=⟨fun a b=>rfl,fun a=>by simp[oG]⟩
instance:Eqs eS 1:=⟨fun a b=>rfl,fun a=>by simp[oG]⟩
instance:Non eI:=⟨fun a=>rfl,fun a=>rfl⟩
instance:Non eB:=⟨fun a=>rfl,fun a=>rfl⟩
instance:Non eS:=⟨fun a=>rfl,fun a=>rfl⟩
section
variable {α β γ δ:Type} [DecidableEq α] [DecidableEq β] [DecidableEq γ] [DecidableEq δ] {e:α->Dt} {e':β->Dt} {e'':γ->Dt} {e3:δ->Dt} {n m k l:Nat}
theorem zN [Eqs e n]:∀ xs ys:List α,jU (xs.map e) (ys.map e)=some (decide (xs=ys))
 |[],[]=>by simp[jU]
 |[],y::ys=>by simp[jU]
 |x::xs,[]=>by simp[jU]
 |x::xs,y::ys=>by
  simp only[zl,jU,Eqs.eq,zN xs ys]
  congr 1
  by_cases h:x=y<;>by_cases h':xs=ys<;>simp[h,h']
theorem zO [Eqs e n]:∀ xs:List α,qQ (xs.map e)<=n
 |[]=>by simp[qQ]
 |x::xs=>by
  have:=Eqs.dp (e:=e) x
  have:=zO xs
  simp only[zl,qQ]
  omega
instance [Eqs e n]:Eqs (eL e) (n+1):=⟨fun a b=>zN a b,fun a=>by simp only[oG];have:=zO (e:=e) a;omega⟩
instance [Eqs e n]:Eqs (eT e) (n+1):=⟨fun a b=>zN a b,fun a=>by simp only[oG];have:=zO (e:=e) a;omega⟩
instance:Non (eL e):=⟨fun a=>rfl,fun a=>rfl⟩
instance:Non (eT e):=⟨fun a=>rfl,fun a=>rfl⟩
instance:Non (eP1 e):=⟨fun a=>rfl,fun a=>rfl⟩
instance:Non (Ob e e'):=⟨fun a=>rfl,fun a=>rfl⟩
instance:Non (eP3 e e' e''):=⟨fun a=>rfl,fun a=>rfl⟩
instance:Non (eP4 e e' e'' e3):=⟨fun a=>rfl,fun a=>rfl⟩
instance [Eqs e n]:Eqs (eP1 e) (n+1):=⟨fun a b=>by
 simp only[yM,jU,Eqs.eq,ke],fun a=>by
 have:=Eqs.dp (e:=e) a
 simp only[oG,qQ];omega⟩
instance [Eqs e n] [Eqs e' m]:Eqs (Ob e e') (max n m+1):=⟨fun a b=>by
 obtain⟨a,a'⟩:=a;obtain⟨b,b'⟩:=b
 simp only[yM,jU,Eqs.eq,Prod.mk.injEq,Bool.decide_and,ke],fun a=>by
 have:=Eqs.dp (e:=e) a.1;have:=Eqs.dp (e:=e') a.2
 simp only[oG,qQ];omega⟩
instance [Eqs e n] [Eqs e' m] [Eqs e'' k]:Eqs (eP3 e e' e'') (max n (max m k)+1):=⟨fun a b=>by
 obtain⟨a,a',a2⟩:=a;obtain⟨b,b',b2⟩:=b
 simp only[yM,jU,Eqs.eq,Prod.mk.injEq,Bool.decide_and,ke],fun a=>by
 have:=Eqs.dp (e:=e) a.1;have:=Eqs.dp (e:=e') a.2.1;have:=Eqs.dp (e:=e'') a.2.2
 simp only[oG,qQ];omega⟩
instance [Eqs e n] [Eqs e' m] [Eqs e'' k] [Eqs e3 l]:Eqs (eP4 e e' e'' e3) (max n (max m (max k l))+1):=⟨fun a b=>by
 obtain⟨a,a',a2,a3⟩:=a;obtain⟨b,b',b2,b3⟩:=b
 simp only[yM,jU,Eqs.eq,Prod.mk.injEq,Bool.decide_and,ke],fun a=>by
 have:=Eqs.dp (e:=e) a.1;have:=Eqs.dp (e:=e') a.2.1;have:=Eqs.dp (e:=e'') a.2.2.1;have:=Eqs.dp (e:=e3) a.2.2.2
 simp only[oG,qQ];omega⟩
instance [Eqs e n] [Non e]:Eqs (eO e) (n+1):=⟨fun a b=>by
 cases a with
 |none=>cases b with
  |none=>exact rfl
  |some b=>exact (Non.l (e:=e) b).trans (by simp)
 |some a=>cases b with
  |none=>exact (Non.r (e:=e) a).trans (by simp)
  |some b=>exact (Eqs.eq (e:=e) a b).trans (by simp),fun a=>by
 cases a with
 |none=>show oG .non<=n+1;simp[oG]
 |some a=>exact Nat.le_succ_of_le (Eqs.dp (e:=e) a)⟩
end
section
variable {α β γ δ:Type} {ρ:Ev} {f fa fb fc:Ev->Option Bx} {p q:Ev->Option Bool} {fs:Ev->Option (List Bx)} {e:α->Dt} {e':β->Dt}
def x_eq [DecidableEq α] {n:Nat} [Eqs e n] (hn:n<=100) (a:R fa ρ (zE e)) (b:R fb ρ (zE e)):R (b2 eqB fa fb) ρ (zE eB):=⟨decide (a.v=b.v),bx a.D b.D,fun h=>by
 obtain⟨h1,h2⟩:=au h
 have:=Eqs.dp (e:=e) a.v
 simp only[b2,a.ok h1,b.ok h2,bnd,eqB,nG,toD,Zp,or_self,qc,Eqs.eq]
 rw[zi (by omega)]⟩
def aaT [DecidableEq α] {n:Nat} [Eqs e n] (hn:n<=100) (a:R fa ρ (zE e)) (b:R fb ρ (zE e)):R (b2 Ie fa fb) ρ (zE eB):=⟨!decide (a.v=b.v),bx a.D b.D,fun h=>by
 obtain⟨h1,h2⟩:=au h
 have:=Eqs.dp (e:=e) a.v
 simp only[b2,a.ok h1,b.ok h2,bnd,Ie,nG,toD,Zp,or_self,qc,Eqs.eq]
 rw[zi (by omega)]⟩
theorem yQ {b:Bx} {ds:List Dt} (h:oX b=some ds):toD b=.lst ds/\nG b=false:=by
 cases b with
 |z d=>cases d<;>cases h;exact⟨rfl,rfl⟩
 |l d=>cases h;exact⟨rfl,rfl⟩
 |o d=>cases h;exact⟨rfl,rfl⟩
 |n d=>cases h
 |m d _=>cases h
def aaU [DecidableEq α] {n:Nat} [Eqs e n] (hn:n+1<=100) (a:RL fa ρ e) (b:RL fb ρ e):R (b2 Ie fa fb) ρ (zE eB):=⟨!decide (a.v=b.v),bx a.D b.D,fun h=>by
 obtain⟨h1,h2⟩:=au h
 simp only[b2,a.ok h1,b.ok h2,bnd,Ie,(yQ a.lk).1,(yQ a.lk).2,(yQ b.lk).1,(yQ b.lk).2,Zp,or_self,qc]
 have e1:=Eqs.eq (e:=eL e) a.v b.v
 rw[zi (zh (Nat.min_le_left _ _) (zh (Eqs.dp (e:=eL e) a.v) hn)),e1,bnd]⟩
def Ig (a b:Dt):Bool:=(lW a b).getD false
def MP (a b:Dt):Prop:=(lW a b).isSome=true/\min (oG a) (oG b)<=100
def QD (a:R fa ρ (zE eD)) (b:R fb ρ (zE eD)):R (b2 eqB fa fb) ρ (zE eB):=⟨Ig a.v b.v,bx (bx a.D b.D) (some (MP a.v b.v)),fun h=>by
 obtain⟨h,h3⟩:=au h
 obtain⟨h1,h2⟩:=au h
 obtain⟨h3,h4⟩:MP a.v b.v:=h3
 simp only[b2,a.ok h1,b.ok h2,bnd,eqB,nG,toD,Zp,or_self,qc,zi h4]
 cases hd:lW a.v b.v with
 |none=>rw[hd] at h3;cases h3
 |some k=>simp only[Ig,hd,bnd,Option.getD_some];exact zi h4⟩
def Wt (a:R fa ρ (zE eD)) (b:R fb ρ (zE eD)):R (b2 Ie fa fb) ρ (zE eB):=⟨!Ig a.v b.v,bx (bx a.D b.D) (some (MP a.v b.v)),fun h=>by
 obtain⟨h,h3⟩:=au h
 obtain⟨h1,h2⟩:=au h
 obtain⟨h3,h4⟩:MP a.v b.v:=h3
 simp only[b2,a.ok h1,b.ok h2,bnd,Ie,nG,toD,Zp,or_self,qc,zi h4]
 cases hd:lW a.v b.v with
 |none=>rw[hd] at h3;cases h3
 |some k=>simp only[Ig,hd,bnd,Option.getD_some];exact zi h4⟩
def Wu (a:R fa ρ (zE eB)) (b:R fb ρ (zE eB)):R (Pu fa fb) ρ (zE eB):=⟨a.v&&b.v,bx a.D (zL (a.v=true) b.D),fun h=>by
 obtain⟨h1,h2⟩:=au h
 simp only[Pu,a.ok h1,bnd,DY]
 cases hv:a.v with
 |true=>simp only[QO,Bool.true_and];exact b.ok (jW h2 hv)
 |false=>simp only[Zp,qc,Bool.false_and]⟩
def Yz (a:R fa ρ (zE eB)):R (tV fa) ρ tE:=⟨a.v,a.D,fun h=>by simp only[tV,a.ok h,bnd,Tz]⟩
def mV {g:Bx->Bx->Option Bx} (a:R (b2 g fa fb) ρ (zE eB)):R (yP g fa fb) ρ tE:=⟨a.v,a.D,fun h=>by simp only[yP,a.ok h,bnd,DY]⟩
def aaV (a:R p ρ tE) (b:R q ρ tE):R (Mh p q) ρ tE:=⟨a.v&&b.v,bx a.D (zL (a.v=true) b.D),fun h=>by
 obtain⟨h1,h2⟩:=au h
 simp only[Mh,a.ok h1,bnd]
 cases hv:a.v with
 |true=>simp only[QO,Bool.true_and];exact b.ok (jW h2 hv)
 |false=>simp only[Zp,qc,Bool.false_and]⟩
def aaW (a:R p ρ tE) (b:R q ρ tE):R (V8 p q) ρ tE:=⟨a.v||b.v,bx a.D (zL (a.v=false) b.D),fun h=>by
 obtain⟨h1,h2⟩:=au h
 simp only[V8,a.ok h1,bnd]
 cases hv:a.v with
 |true=>simp only[QO,Bool.true_or]
 |false=>simp only[Zp,qc,Bool.false_or];exact b.ok (jW h2 hv)⟩
def QF (a:R p ρ tE):R (IW p) ρ tE:=⟨!a.v,a.D,fun h=>by simp only[IW,a.ok h,bnd]⟩
def adn {g g':Bx->Bx->Option Bx} (ab:R (b2 g fa fb) ρ (zE eB)) (bc:R (b2 g' fb fc) ρ (zE eB)):R (ch3 g g' fa fb fc) ρ (zE eB):=⟨ab.v&&bc.v,bx ab.D (zL (ab.v=true) bc.D),fun h=>by
 obtain⟨h1,h3⟩:=au h
 have e1:=ab.ok h1
 simp only[b2] at e1
 obtain⟨x,ex,e1⟩:=bind_some e1
 obtain⟨y,ey,e1⟩:=bind_some e1
 simp only[ch3,ex,ey,bnd,e1,DY]
 cases hv:ab.v with
 |true=>
  have e2:=bc.ok (jW h3 hv)
  simp only[b2,ey,bnd] at e2
  simp only[QO,Bool.true_and]
  exact e2
 |false=>simp only[Zp,qc,Bool.false_and]⟩
end
section
variable {α β γ δ ε:Type} {ρ:Ev} {f fa fb fc fd:Ev->Option Bx} {p q:Ev->Option Bool} {fs:Ev->Option (List Bx)} {e:α->Dt} {e':β->Dt} {e'':γ->Dt} {e3:δ->Dt}
def Es (e:α->Dt):R (cY gC aQ) ρ (zE (eT e)):=⟨[],none,fun _=>rfl⟩
def ql (a:R fa ρ (zE e)) (b:R fb ρ (zE e')):R (cY gC (ao fa (ao fb aQ))) ρ (zE (Ob e e')):=⟨(a.v,b.v),bx a.D b.D,fun h=>by
 obtain⟨h1,h2⟩:=au h
 simp only[cY,ao,aQ,a.ok h1,b.ok h2,bnd];rfl⟩
def fP (e:α->Dt):R aQ ρ (fun xs:List α=>xs.map (zE e)):=⟨[],none,fun _=>rfl⟩
def aV (a:R fa ρ (zE e)) (t:R fs ρ (fun xs:List α=>xs.map (zE e))):R (ao fa fs) ρ (fun xs:List α=>xs.map (zE e)):=⟨a.v::t.v,bx a.D t.D,fun h=>by
 obtain⟨h1,h2⟩:=au h
 simp only[ao,a.ok h1,t.ok h2,bnd,zl]⟩
theorem zP:∀ xs:List α,uZ (xs.map (zE e))=some (xs.map e)
 |[]=>rfl
 |x::xs=>by simp only[zl,uZ,zP xs,bnd]
def nP (t:R fs ρ (fun xs:List α=>xs.map (zE e))) (hl:t.v.length<=1000):R (cY mQ fs) ρ (oE e):=⟨t.v,t.D,fun h=>by
 simp only[cY,t.ok h,bnd,mQ,zg,zi hl,zP]⟩
def uG (t:R fs ρ (fun xs:List Dt=>xs.map (zE eD))) (hl:t.v.length<=1000):R (cY gC fs) ρ (zE eD):=⟨.tup t.v,t.D,fun h=>by
 simp only[cY,t.ok h,bnd,gC,zg,zi hl,zP,List.map_id_fun',id]⟩
def at' [Inhabited α] (xs:List α) (i:Int):α:=(Bv xs i).getD default
def In (n:Nat) (i:Int):Prop:=-(n:Int)<=i/\i < n
theorem Et {xs:List α} {i:Int} (h:In xs.length i):∃ x,Bv xs i=some x:=by
 obtain⟨h1,h2⟩:=h
 unfold Bv Zt
 by_cases h0:0<=i
 ·rw[zi h0,zi h2]
  exact⟨xs[i.toNat]'(by omega),JA (by omega)⟩
 ·rw[zw h0,zi h1]
  exact⟨xs[(i+xs.length).toNat]'(by omega),JA (by omega)⟩
theorem YB {xs:List α} {i:Int} {x:α} (h:Bv xs i=some x):Bv (xs.map e) i=some (e x):=by
 unfold Bv at h ⊢
 rw[zg]
 obtain⟨j,ej,h⟩:=bind_some h
 rw[ej,bnd,ZT,h]
 rfl
theorem QG [Inhabited α] {xs:List α} {i:Int} (h:In xs.length i):Bv (xs.map e) i=some (e (at' xs i)):=by
 obtain⟨x,hx⟩:=Et h
 rw[YB hx]
 unfold at'
 rw[hx]
 rfl
theorem UG {b:Bx} {ds:List Dt} {i:Int} (h:oX b=some ds):gB b (.z (.int i))=(Bv ds i).bind fun d=>some (.z d):=by
 cases b with
 |z d=>cases d<;>cases h;rfl
 |l d=>cases h;rfl
 |o d=>cases h;rfl
 |n d=>cases h
 |m d _=>cases h
def lq [Inhabited α] (a:RL fa ρ e) (b:R fb ρ (zE eI)):R (b2 gB fa fb) ρ (zE e):=⟨at' a.v b.v,bx (bx a.D b.D) (some (In a.v.length b.v)),fun h=>by
 obtain⟨h,h3⟩:=au h
 obtain⟨h1,h2⟩:=au h
 simp only[b2,a.ok h1,b.ok h2,bnd,UG a.lk,QG (show In a.v.length b.v from h3)]⟩
def aaX [Inhabited α] (a:R fa ρ (zE (eT e))) (b:R fb ρ (zE eI)):R (b2 gB fa fb) ρ (zE e):=⟨at' a.v b.v,bx (bx a.D b.D) (some (In a.v.length b.v)),fun h=>by
 obtain⟨h,h3⟩:=au h
 obtain⟨h1,h2⟩:=au h
 simp only[b2,a.ok h1,b.ok h2,bnd,gB,zB,QG (show In a.v.length b.v from h3)]⟩
def ch (x:Str) (i:Int):Str:=⟨#[(Bv x.cps.toList i).getD 0]⟩
def Dd (a:R fa ρ (zE eS)) (b:R fb ρ (zE eI)):R (b2 gB fa fb) ρ (zE eS):=⟨ch a.v b.v,bx (bx a.D b.D) (some (In a.v.length b.v)),fun h=>by
 obtain⟨h,h3⟩:=au h
 obtain⟨h1,h2⟩:=au h
 obtain⟨x,hx⟩:=Et (xs:=a.v.cps.toList) (i:=b.v) (show In a.v.length b.v from h3)
 simp only[b2,a.ok h1,b.ok h2,bnd,gB,hx,ch,Option.getD_some]⟩
def nQ (a:R fa ρ (zE e)) (g:α->β) (e':β->Dt) (i:Int) (h:∀ x,gB (.z (e x)) (.z (.int i))=some (.z (e' (g x)))):R (b2 gB fa (cB (.int i))) ρ (zE e'):=⟨g a.v,a.D,fun hd=>by
 simp only[b2,a.ok hd,bnd,cB,h]⟩
def cut (xs:List α) (lo hi:Option Int):List α:=(xs.drop (HT.jj xs.length 0 lo)).take (HT.jj xs.length xs.length hi - HT.jj xs.length 0 lo)
theorem UJ (xs:List α) (lo hi:Option Int):cutD (xs.map e) lo hi=(cut xs lo hi).map e:=by
 unfold cutD cut
 rw[zg,List.map_take,List.map_drop]
abbrev pE:Option Int->Option Int:=fun o=>o
def wW:R iW ρ pE:=⟨none,none,fun _=>rfl⟩
def wX (a:R fa ρ (zE eI)):R (kW fa) ρ pE:=⟨some a.v,a.D,fun h=>by simp only[kW,a.ok h,bnd,Yi]⟩
variable {fl fh:Ev->Option (Option Int)}
theorem UL {b:Bx} {ds:List Dt} {lo hi:Option Int} (h:oX b=some ds):slB b lo hi=some (.o (cutD ds lo hi)):=by
 cases b with
 |z d=>cases d<;>cases h;rfl
 |l d=>cases h;rfl
 |o d=>cases h;rfl
 |n d=>cases h
 |m d _=>cases h
def YC (a:RL fa ρ e) (l:R fl ρ pE) (u:R fh ρ pE):R (CN fa fl fh) ρ (oE e):=⟨cut a.v l.v u.v,bx a.D (bx l.D u.D),fun h=>by
 obtain⟨h1,h⟩:=au h
 obtain⟨h2,h3⟩:=au h
 simp only[CN,a.ok h1,l.ok h2,u.ok h3,bnd,UL a.lk,UJ]⟩
def ur (a:R fa ρ (zE eS)) (l:R fl ρ pE) (u:R fh ρ pE):R (CN fa fl fh) ρ (zE eS):=⟨Txt.slice a.v l.v u.v,bx a.D (bx l.D u.D),fun h=>by
 obtain⟨h1,h⟩:=au h
 obtain⟨h2,h3⟩:=au h
 simp only[CN,a.ok h1,l.ok h2,u.ok h3,bnd,slB]⟩
def vG (n:Nat):Prop:=n<=1000000
def mX (a:R fa ρ (zE eS)) (b:R fb ρ (zE eS)):R (b2 bQ fa fb) ρ (zE eS):=⟨a.v++b.v,bx (bx a.D b.D) (some (vG (a.v.length+b.v.length))),fun h=>by
 obtain⟨h,h3⟩:=au h
 obtain⟨h1,h2⟩:=au h
 simp only[b2,a.ok h1,b.ok h2,bnd,bQ,zi (show a.v.length+b.v.length<=Gw from h3)]⟩
def QH (a:R fa ρ (zE (eT e))) (b:R fb ρ (zE (eT e))):R (b2 bQ fa fb) ρ (zE (eT e)):=⟨a.v++b.v,bx (bx a.D b.D) (some (vG (a.v.length+b.v.length))),fun h=>by
 obtain⟨h,h3⟩:=au h
 obtain⟨h1,h2⟩:=au h
 simp only[b2,a.ok h1,b.ok h2,bnd,bQ,zg,zi (show a.v.length+b.v.length<=Gw from h3),zE,eT,ZN]⟩
theorem QJ {b b':Bx} {ds ds':List Dt} (h:oX b=some ds) (h':oX b'=some ds') (hl:ds.length+ds'.length<=Gw):bQ b b'=some (.o (ds++ds')):=by
 cases b with
 |z d=>
  cases d<;>cases h
  cases b' with
  |z d'=>cases d'<;>cases h';exact zi hl
  |l d'=>cases h';exact zi hl
  |o d'=>cases h';exact zi hl
  |n d'=>cases h'
  |m d'=>cases h'
 |l d=>
  cases h
  cases b' with
  |z d'=>cases d'<;>cases h';exact zi hl
  |l d'=>cases h';exact zi hl
  |o d'=>cases h';exact zi hl
  |n d'=>cases h'
  |m d'=>cases h'
 |o d=>
  cases h
  cases b' with
  |z d'=>cases d'<;>cases h';exact zi hl
  |l d'=>cases h';exact zi hl
  |o d'=>cases h';exact zi hl
  |n d'=>cases h'
  |m d'=>cases h'
 |n d=>cases h
 |m d _=>cases h
def wY (a:RL fa ρ e) (b:RL fb ρ e):R (b2 bQ fa fb) ρ (oE e):=⟨a.v++b.v,bx (bx a.D b.D) (some (vG (a.v.length+b.v.length))),fun h=>by
 obtain⟨h,h3⟩:=au h
 obtain⟨h1,h2⟩:=au h
 simp only[b2,a.ok h1,b.ok h2,bnd]
 rw[QJ a.lk b.lk (by rw[zg,zg];exact h3)]
 simp only[oE,ZN]⟩
def YD (a:R fa ρ (zE eS)) (b:R fb ρ (zE eI)):R (b2 mR fa fb) ρ (zE eS):=⟨Txt.mul a.v b.v,bx (bx a.D b.D) (some (b.v<=1000 ∧ -1000<=b.v/\a.v.length<=1000)),fun h=>by
 obtain⟨h,h3⟩:=au h
 obtain⟨h1,h2⟩:=au h
 simp only[b2,a.ok h1,b.ok h2,bnd]
 exact zi h3⟩
theorem QK {b:Bx} {ds:List Dt} (h:oX b=some ds):pq [b]=some (.z (.int ds.length)):=by
 cases b with
 |z d=>cases d<;>cases h;rfl
 |l d=>cases h;rfl
 |o d=>cases h;rfl
 |n d=>cases h
 |m d _=>cases h
theorem QL {b:Bx} {ds:List Dt} (h:oX b=some ds):zB b=some ds:=by
 cases b with
 |z d=>cases d<;>cases h;rfl
 |l d=>cases h;rfl
 |o d=>cases h;rfl
 |n d=>cases h
 |m d _=>cases h
def x_len (a:RL fa ρ e):R (cY pq (ao fa aQ)) ρ (zE eI):=⟨(a.v.length:Int),a.D,fun h=>by
 simp only[cY,ao,aQ,a.ok h,bnd,QK a.lk,zg]⟩
def YF (a:R fa ρ (zE (eT e))):R (cY pq (ao fa aQ)) ρ (zE eI):=⟨(a.v.length:Int),a.D,fun h=>by
 simp only[cY,ao,aQ,a.ok h,bnd,pq,zB,zg]⟩
def Eu (a:R fa ρ (zE eS)):R (cY pq (ao fa aQ)) ρ (zE eI):=⟨(a.v.length:Int),a.D,fun h=>by
 simp only[cY,ao,aQ,a.ok h,bnd,pq]⟩
def Jt:Dt->Int
 |.tup ds=>ds.length
 |.lst ds=>ds.length
 |.str x=>x.length
 |_=>0
def Ju:Dt->Bool
 |.tup _=>true
 |.lst _=>true
 |.str _=>true
 |_=>false
def QM (a:R fa ρ (zE eD)):R (cY pq (ao fa aQ)) ρ (zE eI):=⟨Jt a.v,bx a.D (some (Ju a.v=true)),fun h=>by
 obtain⟨h,h4⟩:=au h
 have h4:Ju a.v=true:=h4
 simp only[cY,ao,aQ,a.ok h,bnd]
 cases hv:a.v<;>rw[hv] at h4<;>first|(cases h4;done)|rfl⟩
def vH (a:RL fa ρ e):R (cY mU (ao fa aQ)) ρ (zE (eT e)):=⟨a.v,a.D,fun h=>by
 simp only[cY,ao,aQ,a.ok h,bnd,mU,QL a.lk]⟩
def aaY (a:R fa ρ (zE eI)):R (cY Mt (ao fa aQ)) ρ (zE eI):=⟨if a.v < 0 then -a.v else a.v,a.D,fun h=>by
 simp only[cY,ao,aQ,a.ok h,bnd,Mt]⟩
def YG (a:R fa ρ (zE eB)):R (cY Qk (ao fa aQ)) ρ (zE eI):=⟨if a.v=true then 1 else 0,a.D,fun h=>by
 simp only[cY,ao,aQ,a.ok h,bnd,Qk]⟩
theorem Dg:∀ l:List Bool,CP (l.map eB)=some l
 |[]=>rfl
 |a::l=>by simp only[zl,CP,Dg l,bnd]
def QS (a:RL fa ρ eB):R (cY allB (ao fa aQ)) ρ (zE eB):=⟨a.v.all id,a.D,fun h=>by
 simp only[cY,ao,aQ,a.ok h,bnd,allB,a.lk,Dg]⟩
def aaZ (P:Dt->Bool) (a:R fa ρ (zE e)):R (Ql P fa) ρ (zE eB):=⟨P (e a.v),a.D,fun h=>by
 simp only[Ql,b1,a.ok h,bnd,nG,toD,Zp,qc]⟩
theorem strs_map:∀ l:LS_,pA (l.map eS)=some l
 |[]=>rfl
 |a::l=>by simp only[zl,pA,strs_map l,bnd]
def YH (s:Str) (a:RL fa ρ eS):R (b1 (CV s) fa) ρ (zE eS):=⟨Txt.join s a.v,bx a.D (some ((a.v.map (·.length)).sum+a.v.length * s.length<=100000)),fun h=>by
 obtain⟨h,h4⟩:=au h
 simp only[b1,a.ok h,bnd,CV,a.lk,strs_map]
 exact zi h4⟩
def YJ (a:R f ρ (oE e)):R f ρ (oE eD):=⟨a.v.map e,a.D,fun hd=>by
 rw[a.ok hd]
 simp only[oE,eD,qk,Function.comp_def]⟩
def UW:Dt->Str
 |.str x=>x
 |_=>⟨#[]⟩
def Kq (a:R f ρ (zE eD)) (g:Dt->α) (e:α->Dt):R f ρ (zE e):=⟨g a.v,bx a.D (some (a.v=e (g a.v))),fun hd=>by
 obtain⟨h1,h2⟩:=au hd
 have h2:a.v=e (g a.v):=h2
 rw[a.ok h1]
 show some (Bx.z a.v)=some (Bx.z (e (g a.v)))
 rw[<-h2]⟩
class Flat {α:Type} (e:α->Dt):Prop where
 f:∀ a,vq (e a)=true
instance:Flat eI:=⟨fun _=>rfl⟩
instance:Flat eB:=⟨fun _=>rfl⟩
instance:Flat eS:=⟨fun _=>rfl⟩
theorem G4 [DecidableEq α] {n:Nat} [Eqs e n] [Flat e] (x:α) (ys:List α):memD (e x) (ys.map e)=some (decide (x∈ys)):=by
 unfold memD
 rw[zi ⟨Flat.f x,by rw[List.all_map];exact List.all_eq_true.mpr fun y _=>Flat.f y⟩,List.any_map]
 congr 1
 rw[kn,kc,decide_eq_true_iff]
 constructor
 ·rintro⟨y,hy,h⟩
  simp only[Function.comp,Eqs.eq] at h
  by_cases e1:y=x
  ·rw[<-e1];exact hy
  ·simp only[e1,decide_false] at h
   cases h
 ·intro h
  exact⟨x,h,by simp only[Function.comp,Eqs.eq,decide_true]⟩
theorem Kr {b:Bx} {d:Dt} {ds:List Dt} (h:oX b=some ds):inB (.z d) b=memD d ds:=by
 cases b with
 |z d'=>cases d'<;>cases h;cases d<;>rfl
 |l d'=>cases h;cases d<;>rfl
 |o d'=>cases h;cases d<;>rfl
 |n d'=>cases h
 |m d'=>cases h
def ado [DecidableEq α] {n:Nat} [Eqs e n] [Flat e] (a:R fa ρ (zE e)) (b:RL fb ρ e):R (b2 inF fa fb) ρ (zE eB):=⟨decide (a.v∈b.v),bx a.D b.D,fun h=>by
 obtain⟨h1,h2⟩:=au h
 simp only[b2,a.ok h1,b.ok h2,bnd,inF,Kr b.lk,G4]⟩
def aa0 [DecidableEq α] {n:Nat} [Eqs e n] [Flat e] (a:R fa ρ (zE e)) (b:RL fb ρ e):R (b2 Qi fa fb) ρ (zE eB):=⟨!decide (a.v∈b.v),bx a.D b.D,fun h=>by
 obtain⟨h1,h2⟩:=au h
 simp only[b2,a.ok h1,b.ok h2,bnd,Qi,Kr b.lk,G4]⟩
def aa1 (a:R fa ρ (zE eS)) (b:R fb ρ (zE eS)):R (b2 inF fa fb) ρ (zE eB):=⟨CG a.v b.v,bx a.D b.D,fun h=>by
 obtain⟨h1,h2⟩:=au h
 simp only[b2,a.ok h1,b.ok h2,bnd,inF,inB]⟩
end
structure AR {γ:Type} (cA:γ->List Bx->Prop) (fs:Ev->Option (List Bx)) (ρ:Ev) where
 v:γ
 D:Option Prop
 bs:List Bx
 h:cA v bs
 ok:hold D->fs ρ=some bs
section
variable {α β γ δ ε σ:Type} {ρ:Ev} {f fa fb fc fd:Ev->Option Bx} {p q:Ev->Option Bool} {fs:Ev->Option (List Bx)} {e:α->Dt} {e':β->Dt} {e'':γ->Dt} {e3:δ->Dt}
def aN:Unit->List Bx->Prop:=fun _ bs=>bs=[]
def aZ (e:α->Dt) (t:γ->List Bx->Prop):α×γ->List Bx->Prop:=fun x bs=>∃ r,bs=.z (e x.1)::r/\t x.2 r
def aL (e:α->Dt) (t:γ->List Bx->Prop):List α×γ->List Bx->Prop:=fun x bs=>∃ b r,bs=b::r/\oX b=some (x.1.map e)/\t x.2 r
def dW:AR aN aQ ρ:=⟨(),none,[],rfl,fun _=>rfl⟩
def eU {t:γ->List Bx->Prop} (a:R fa ρ (zE e)) (r:AR t fs ρ):AR (aZ e t) (ao fa fs) ρ:=⟨(a.v,r.v),bx a.D r.D,_,⟨_,rfl,r.h⟩,fun h=>by
 obtain⟨h1,h2⟩:=au h
 simp only[ao,a.ok h1,r.ok h2,bnd]⟩
def Jv {t:γ->List Bx->Prop} (a:RL fa ρ e) (r:AR t fs ρ):AR (aL e t) (ao fa fs) ρ:=⟨(a.v,r.v),bx a.D r.D,_,⟨_,_,rfl,a.lk,r.h⟩,fun h=>by
 obtain⟨h1,h2⟩:=au h
 simp only[ao,a.ok h1,r.ok h2,bnd]⟩
def x_call {cA:γ->List Bx->Prop} {F:List Bx->Option Bx} {n:Nat} {c:α->Bx} {T:γ->α} {Df:γ->Option Prop} (S:∀ v bs,cA v bs->bs.length=n/\(hold (Df v)->F (bs.map lend)=some (c (T v)))) (a:AR cA fs ρ):R (dM n F fs) ρ c:=⟨T a.v,bx a.D (Df a.v),fun h=>by
 obtain⟨h1,h2⟩:=au h
 obtain⟨h3,h4⟩:=S a.v a.bs a.h
 simp only[dM,a.ok h1,bnd,zi h3,h4 h2]⟩
theorem YK {g:Ev->Option Out} {n:Nat} {bs:List Bx} {c:α->Bx} (x:R g (bs.map some++List.replicate (n - bs.length) none) (fun r=>Out.rt (c r))) (h:hold x.D):fG n g bs=some (c x.v):=by
 unfold fG
 rw[x.ok h]
 rfl
variable {fi:Ev->Option (List Dt)} {gt:Dt->Ev->Option Ev} {fe:Ev->Option Bx} {is:List Nat} {n:Nat}
def aa2 (xs:List α) (P:α->Option Prop):Option Prop:=some (∀ x∈xs,hold (P x))
theorem G5 {fs:Ev->Option (List Dt)} {ρ1:Ev} {g:α->List Dt} {π:α->Bool}:∀ xs:List α,(∀ x∈xs,∃ ρ2,gt (e x) ρ1=some ρ2/\p ρ2=some (π x)/\(π x=true->fs ρ2=some (g x)))->ug gt p fs ρ1 (xs.map e)=some ((xs.filter π).flatMap g)
 |[],_=>rfl
 |x::xs,h=>by
  obtain⟨ρ2,h1,h2,h3⟩:=h x (ZA ..)
  have ih:=G5 (g:=g) (π:=π) xs fun y hy=>h y (Zs _ hy)
  cases hp:π x with
  |true=>simp only[zl,ug,h1,bnd,h2,hp,QO,h3 hp,ih,kL,List.flatMap_cons]
  |false=>simp only[zl,ug,h1,bnd,h2,hp,ih,kL,Zp,qc]
theorem G6 {g:α->β}:∀ xs:List α,xs.flatMap (fun x=>[e' (g x)])=(xs.map g).map e'
 |[]=>rfl
 |x::xs=>by rw[List.flatMap_cons,G6 xs];rfl
theorem zQ {ρ1:Ev} {g:α->β} {π:α->Bool} (xs:List α) (h:∀ x∈xs,∃ ρ2,gt (e x) ρ1=some ρ2/\p ρ2=some (π x)/\(π x=true->fe ρ2=some (.z (e' (g x))))):uo gt p fe ρ1 (xs.map e)=some (((xs.filter π).map g).map e'):=by
 rw[<-G6]
 exact G5 xs fun x hx=>let ⟨ρ2,h1,h2,h3⟩:=h x hx;⟨ρ2,h1,h2,fun hp=>by rw[h3 hp];rfl⟩
theorem comp_map {ρ1:Ev} {g:α->β} (xs:List α) (h:∀ x∈xs,∃ ρ2,gt (e x) ρ1=some ρ2/\fe ρ2=some (.z (e' (g x)))):uo gt lZ fe ρ1 (xs.map e)=some ((xs.map g).map e'):=
 (zQ (π:=fun _=>true) xs fun x hx=>let ⟨ρ2,h1,h2⟩:=h x hx;⟨ρ2,h1,rfl,fun _=>h2⟩).trans (by rw[List.filter_eq_self.mpr fun _ _=>rfl])
def uH (it:R fi ρ (iE e)) (ρ2:α->Ev) (hg:∀ x,gt (e x) (lU is ρ++List.replicate n none)=some (ρ2 x)) (b:∀ x,R fe (ρ2 x) (zE e')):R (dG fi gt lZ fe is n) ρ (oE e'):=⟨it.v.map fun x=>(b x).v,bx (bx it.D (some (it.v.length<=100000))) (aa2 it.v fun x=>(b x).D),fun h=>by
 obtain⟨h,h3⟩:=au h
 obtain⟨h1,h2⟩:=au h
 have h3:∀ x∈it.v,hold (b x).D:=h3
 simp only[dG,it.ok h1,bnd,zg,zi (show it.v.length<=100000 from h2),comp_map it.v fun x hx=>⟨ρ2 x,hg x,(b x).ok (h3 x hx)⟩]⟩
def vI (it:R fi ρ (iE e)) (ρ2:α->Ev) (hg:∀ x,gt (e x) (lU is ρ++List.replicate n none)=some (ρ2 x)) (b:∀ x,R fe (ρ2 x) (zE e')) (hb:∀ x,(b x).D=none):R (dG fi gt lZ fe is n) ρ (oE e'):=⟨it.v.map fun x=>(b x).v,bx it.D (some (it.v.length<=100000)),fun h=>by
 obtain⟨h1,h2⟩:=au h
 simp only[dG,it.ok h1,bnd,zg,zi (show it.v.length<=100000 from h2),comp_map it.v fun x hx=>⟨ρ2 x,hg x,(b x).ok (by rw[hb x];trivial)⟩]⟩
def Ku (it:R fi ρ (iE e)) (ρ2:α->Ev) (hg:∀ x,gt (e x) (lU is ρ++List.replicate n none)=some (ρ2 x)) (t:∀ x,R p (ρ2 x) tE) (b:∀ x,R fe (ρ2 x) (zE e')):R (dG fi gt p fe is n) ρ (oE e'):=⟨(it.v.filter fun x=>(t x).v).map fun x=>(b x).v,bx (bx it.D (some (it.v.length<=100000))) (aa2 it.v fun x=>bx (t x).D (zL ((t x).v=true) (b x).D)),fun h=>by
 obtain⟨h,h3⟩:=au h
 obtain⟨h1,h2⟩:=au h
 have h3:∀ x∈it.v,hold (bx (t x).D (zL ((t x).v=true) (b x).D)):=h3
 simp only[dG,it.ok h1,bnd,zg,zi (show it.v.length<=100000 from h2),zQ it.v fun x hx=>⟨ρ2 x,hg x,(t x).ok (au (h3 x hx)).1,fun ht=>(b x).ok (jW (au (h3 x hx)).2 ht)⟩]⟩
def G7 (it:R fi ρ (iE e)) (ρ2:α->Ev) (hg:∀ x,gt (e x) (lU is ρ++List.replicate n none)=some (ρ2 x)) (t:∀ x,R p (ρ2 x) tE) (b:∀ x,R fe (ρ2 x) (zE e')) (ht:∀ x,(t x).D=none) (hb:∀ x,(b x).D=none):R (dG fi gt p fe is n) ρ (oE e'):=⟨(it.v.filter fun x=>(t x).v).map fun x=>(b x).v,bx it.D (some (it.v.length<=100000)),fun h=>by
 obtain⟨h1,h2⟩:=au h
 simp only[dG,it.ok h1,bnd,zg,zi (show it.v.length<=100000 from h2),zQ it.v fun x hx=>⟨ρ2 x,hg x,(t x).ok (by rw[ht x];trivial),fun _=>(b x).ok (by rw[hb x];trivial)⟩]⟩
def YL (a:RL fa ρ e):R (xY fa) ρ (iE e):=⟨a.v,a.D,fun h=>by
 have:Qf a.b=some (a.v.map e):=by
  have:=a.lk
  revert this
  generalize a.b=b
  generalize a.v.map e=ds
  intro this
  cases b with
  |z d=>cases d<;>cases this;rfl
  |l d=>cases this;rfl
  |o d=>cases this;rfl
  |n d=>cases this
  |m d _=>cases this
 simp only[xY,a.ok h,bnd,this]⟩
def BW (a:R fa ρ (zE (eT e))):R (xY fa) ρ (iE e):=⟨a.v,a.D,fun h=>by simp only[xY,a.ok h,bnd,Qf]⟩
def chars (x:Str):LS_:=x.cps.toList.map fun c=>⟨#[c]⟩
theorem QT (x:Str):signs x=(chars x).map eS:=by
 unfold signs chars
 rw[qk]
 rfl
def Wv:Dt->List Dt
 |.tup ds=>ds
 |.lst ds=>ds
 |.str x=>signs x
 |_=>[]
def adp (a:R fa ρ (zE eD)):R (xY fa) ρ (iE eD):=⟨Wv a.v,bx a.D (some (Ju a.v=true)),fun h=>by
 obtain⟨h,h4⟩:=au h
 have h4:Ju a.v=true:=h4
 simp only[xY,a.ok h,bnd]
 cases hv:a.v<;>rw[hv] at h4<;>first|(cases h4;done)|(simp only[Qf,Wv,iE,eD,List.map_id_fun',id])⟩
def aa3 (a:R fa ρ (oE e)):R (Ke fa) ρ (iE e):=⟨a.v,a.D,fun h=>by simp only[Ke,a.ok h,bnd,T5]⟩
def YM (a:R fa ρ (zE (eT e))):R (Ke fa) ρ (iE e):=⟨a.v,a.D,fun h=>by simp only[Ke,a.ok h,bnd,T5]⟩
def rng (i:Int) (n:Nat):List Int:=(List.range n).map fun k:Nat=>i+(k:Int)
theorem U0 (i:Int) (n:Nat):Gk i n=(rng i n).map eI:=by
 unfold Gk rng
 rw[qk]
 rfl
def Rg (j:Int):Prop:=-4611686018427387904<=j/\j < 4611686018427387904
def Dh (a:R fa ρ (zE eI)):R (Qn (ao fa aQ)) ρ (iE eI):=⟨rng 0 a.v.toNat,bx a.D (some (Rg a.v)),fun h=>by
 obtain⟨h,h4⟩:=au h
 simp only[Qn,ao,aQ,a.ok h,bnd]
 show (if -(2 ^ 62)<=a.v/\a.v < 2 ^ 62 then some (Gk 0 a.v.toNat) else none)=_
 exact (zi h4).trans (by rw[U0])⟩
end
section
variable {α β γ δ ε σ τ:Type} {ρ:Ev} {f fa fb fc fd:Ev->Option Bx} {p q:Ev->Option Bool} {fs:Ev->Option (List Bx)} {e:α->Dt} {e':β->Dt} {g g1 g2 k:Ev->Option Out} {cO:γ->Out} {gt:Dt->Ev->Option Ev}
theorem rM {ρ':Ev} (h:g1 ρ=some (.nx ρ')):aH g1 k ρ=k ρ':=by
 unfold aH
 rw[h]
 rfl
def dH (x:R (aH g (aH g1 k)) ρ cO):R (aH (aH g g1) k) ρ cO:=⟨x.v,x.D,fun h=>by
 rw[<-x.ok h]
 unfold aH
 cases g ρ with
 |none=>rfl
 |some o=>cases o<;>rfl⟩
def gG (x:R k ρ cO):R (aH jL k) ρ cO:=⟨x.v,x.D,fun h=>x.ok h⟩
def dh {is:List Nat} (x:γ) (h:cO x=.nx (kill is ρ)):R (gn is) ρ cO:=⟨x,none,fun _=>by rw[h];rfl⟩
def jM {c:α->Bx} (inj:α->γ) (a:R f ρ c) (h:∀ x,cO (inj x)=.rt (c x)) (hc:∀ x,Mi (c x)=some (.rt (c x))):R (aH (jV f) k) ρ cO:=⟨inj a.v,a.D,fun hd=>by
 have:jV f ρ=some (.rt (c a.v)):=by unfold jV;rw[a.ok hd,bnd,hc]
 unfold aH
 rw[this,h]
 rfl⟩
def QW {c:α->Bx} (i:Nat) (inj:α->γ) (a:α) (hi:ρ[i]?=some (some (c a))) (h:∀ x,cO (inj x)=.rt (c x)) (hc:∀ x,Mi (c x)=some (.rt (c x))):R (aH (Ef i) k) ρ cO:=⟨inj a,none,fun hd=>by
 have:Ef i ρ=some (.rt (c a)):=by unfold Ef;rw[hi];exact hc a
 unfold aH
 rw[this,h]
 rfl⟩
def bR {c:α->Bx} (i:Nat) (a:R f ρ c) (hc:∀ x,PK ρ i (c x)=some (ρ.set i (some (c x)))) (K:∀ x,R k (ρ.set i (some (c x))) cO):R (aH (setG i f) k) ρ cO:=⟨(K a.v).v,bx a.D (K a.v).D,fun hd=>by
 obtain⟨h1,h2⟩:=au hd
 rw[rM (ρ':=ρ.set i (some (c a.v))) (by unfold setG;rw[a.ok h1,bnd,hc,bnd])]
 exact (K a.v).ok h2⟩
def aa4 (a:R f ρ (zE e)) (ρ2:α->Ev) (hg:∀ x,gt (e x) ρ=some (ρ2 x)) (K:∀ x,R k (ρ2 x) cO):R (aH (Ym gt f) k) ρ cO:=⟨(K a.v).v,bx a.D (K a.v).D,fun hd=>by
 obtain⟨h1,h2⟩:=au hd
 rw[rM (ρ':=ρ2 a.v) (by unfold Ym;rw[a.ok h1,bnd];simp only[hg,bnd])]
 exact (K a.v).ok h2⟩
def QX (i:Nat) (xs:List α) (hi:ρ[i]?=some (some (.o (xs.map e)))) (a:R f ρ (zE e)) (K:∀ ys:List α,R k (ρ.set i (some (.o (ys.map e)))) cO):R (aH (Qm i f) k) ρ cO:=⟨(K (xs++[a.v])).v,bx (bx a.D (some (vG xs.length))) (K (xs++[a.v])).D,fun hd=>by
 obtain⟨h1,h3⟩:=au hd
 obtain⟨h1,h2⟩:=au h1
 have h2:xs.length<=1000000:=h2
 rw[rM (ρ':=ρ.set i (some (.o ((xs++[a.v]).map e)))) (by
  unfold Qm
  rw[a.ok h1,bnd]
  simp only[T4,hi,zg,ZN,zl,List.map_nil]
  rw[zi (Nat.lt_of_le_of_lt h2 (by decide))])]
 exact (K _).ok h3⟩
def Di (t:R p ρ tE) (a:R (aH g1 k) ρ cO) (b:R (aH g2 k) ρ cO):R (aH (BK p g1 g2) k) ρ cO:=⟨if t.v=true then a.v else b.v,bx t.D (bx (zL (t.v=true) a.D) (zL (t.v=false) b.D)),fun hd=>by
 obtain⟨h1,h2⟩:=au hd
 obtain⟨h2,h3⟩:=au h2
 have e1:∀ c,t.v=c->aH (BK p g1 g2) k ρ=aH (if c=true then g1 else g2) k ρ:=fun c hc=>by
  unfold aH BK
  rw[t.ok h1,bnd,hc]
  cases c<;>rfl
 cases hv:t.v with
 |true=>rw[e1 true hv];simp only[QO];exact a.ok (jW h2 hv)
 |false=>rw[e1 false hv];simp only[Zp,qc];exact b.ok (jW h3 hv)⟩
def G8 (E:σ->Ev) (t:R p ρ tE) (a:R g1 ρ (fun s=>Out.nx (E s))) (b:R g2 ρ (fun s=>Out.nx (E s))) (K:∀ s,R k (E s) cO):R (aH (BK p g1 g2) k) ρ cO:=⟨(K (if t.v=true then a.v else b.v)).v,bx (bx t.D (bx (zL (t.v=true) a.D) (zL (t.v=false) b.D))) (K (if t.v=true then a.v else b.v)).D,fun hd=>by
 obtain⟨h,h4⟩:=au hd
 obtain⟨h1,h2⟩:=au h
 obtain⟨h2,h3⟩:=au h2
 rw[rM (ρ':=E (if t.v=true then a.v else b.v)) (by
  unfold BK
  rw[t.ok h1,bnd]
  cases hv:t.v with
  |true=>simp only[QO];exact a.ok (jW h2 hv)
  |false=>simp only[Zp,qc];exact b.ok (jW h3 hv))]
 exact (K _).ok h4⟩
def yr (step:σ->α->σ) (P:σ->α->Option Prop):List α->σ->Prop
 |[],_=>True
 |x::xs,s=>hold (P s x)/\yr step P xs (step s x)
theorem zR {gb:Ev->Option Out} (E:σ->Ev) (ρ2:σ->α->Ev) (hg:∀ s x,gt (e x) (E s)=some (ρ2 s x)) (body:∀ s x,R gb (ρ2 s x) (fun s=>Out.nx (E s))):∀ (xs:List α) (s:σ),yr (fun s x=>(body s x).v) (fun s x=>(body s x).D) xs s->yq gt gb (xs.map e) (E s)=some (.nx (E (xs.foldl (fun s x=>(body s x).v) s)))
 |[],s,_=>rfl
 |x::xs,s,h=>by
  simp only[zl,yq,hg,bnd,(body s x).ok h.1,ja]
  exact zR E ρ2 hg body xs _ h.2
variable {fi:Ev->Option (List Dt)} {gb:Ev->Option Out}
def G9 (E:σ->Ev) (s0:σ) (hE:ρ=E s0) (it:R fi ρ (iE e)) (ρ2:σ->α->Ev) (hg:∀ s x,gt (e x) (E s)=some (ρ2 s x)) (body:∀ s x,R gb (ρ2 s x) (fun s=>Out.nx (E s))) (K:∀ s,R k (E s) cO):R (aH (nH fi gt gb) k) ρ cO:=⟨(K (it.v.foldl (fun s x=>(body s x).v) s0)).v,bx (bx it.D (some (yr (fun s x=>(body s x).v) (fun s x=>(body s x).D) it.v s0))) (K (it.v.foldl (fun s x=>(body s x).v) s0)).D,fun hd=>by
 obtain⟨h,h4⟩:=au hd
 obtain⟨h1,h2⟩:=au h
 rw[rM (ρ':=E (it.v.foldl (fun s x=>(body s x).v) s0)) (by
  unfold nH
  rw[it.ok h1,bnd]
  subst hE
  exact zR E ρ2 hg body it.v s0 h2)]
 exact (K _).ok h4⟩
def QZ (E:σ->Ev) (s0:σ) (hE:ρ=E s0) (it:R fi ρ (iE e)) (ρ2:σ->α->Ev) (hg:∀ s x,gt (e x) (E s)=some (ρ2 s x)) (body:∀ s x,R gb (ρ2 s x) (fun s=>Out.nx (E s))) (hb:∀ s x,(body s x).D=none) (K:∀ s,R k (E s) cO):R (aH (nH fi gt gb) k) ρ cO:=⟨(K (it.v.foldl (fun s x=>(body s x).v) s0)).v,bx it.D (K (it.v.foldl (fun s x=>(body s x).v) s0)).D,fun hd=>by
 obtain⟨h1,h4⟩:=au hd
 have h2:∀ (xs:List α) (s:σ),yr (fun s x=>(body s x).v) (fun s x=>(body s x).D) xs s:=fun xs=>by
  induction xs with
  |nil=>intro s;trivial
  |cons x xs ih=>intro s;exact⟨by show hold (body s x).D;rw[hb s x];trivial,ih _⟩
 rw[rM (ρ':=E (it.v.foldl (fun s x=>(body s x).v) s0)) (by
  unfold nH
  rw[it.ok h1,bnd]
  subst hE
  exact zR E ρ2 hg body it.v s0 (h2 _ _))]
 exact (K _).ok h4⟩
inductive uQ (σ τ:Type) where
 |nx (s:σ)|rt (r:τ)|bk (s:σ)|ct (s:σ)
def cC (E:σ->Ev) (c:τ->Bx):uQ σ τ->Out
 |.nx s=>.nx (E s)
 |.rt r=>.rt (c r)
 |.bk s=>.bk (E s)
 |.ct s=>.ct (E s)
def oJ (step:σ->α->uQ σ τ):List α->σ->uQ σ τ
 |[],s=>.nx s
 |x::xs,s=>match step s x with
  |.nx s'=>oJ step xs s'
  |.ct s'=>oJ step xs s'
  |.bk s'=>.nx s'
  |.rt r=>.rt r
def vJ (step:σ->α->uQ σ τ) (P:σ->α->Option Prop):List α->σ->Prop
 |[],_=>True
 |x::xs,s=>hold (P s x)/\match step s x with
  |.nx s'=>vJ step P xs s'
  |.ct s'=>vJ step P xs s'
  |.bk _=>True
  |.rt _=>True
theorem Ew {c:τ->Bx} (E:σ->Ev) (ρ2:σ->α->Ev) (hg:∀ s x,gt (e x) (E s)=some (ρ2 s x)) (body:∀ s x,R gb (ρ2 s x) (cC E c)):∀ (xs:List α) (s:σ),vJ (fun s x=>(body s x).v) (fun s x=>(body s x).D) xs s->yq gt gb (xs.map e) (E s)=some (cC E c (oJ (fun s x=>(body s x).v) xs s))
 |[],s,_=>rfl
 |x::xs,s,h=>by
  obtain⟨h1,h2⟩:=h
  dsimp only at h2
  simp only[zl,yq,hg,bnd,(body s x).ok h1,oJ]
  revert h2
  cases (body s x).v with
  |nx s'=>intro h2;exact Ew E ρ2 hg body xs s' h2
  |ct s'=>intro h2;exact Ew E ρ2 hg body xs s' h2
  |bk s'=>intro _;rfl
  |rt r=>intro _;rfl
theorem zT (step:σ->α->uQ σ τ):∀ (xs:List α) (s:σ),(∃ s',oJ step xs s=.nx s')\/∃ r,oJ step xs s=.rt r
 |[],s=>.inl ⟨s,rfl⟩
 |x::xs,s=>by
  unfold oJ
  cases step s x with
  |nx s'=>exact zT step xs s'
  |ct s'=>exact zT step xs s'
  |bk s'=>exact .inl ⟨s',rfl⟩
  |rt r=>exact .inr ⟨r,rfl⟩
def behind (r:uQ σ τ) (inj:τ->γ) (K:σ->γ):γ:=match r with
 |.rt r=>inj r
 |.nx s=>K s
 |.bk s=>K s
 |.ct s=>K s
def vK (r:uQ σ τ) (K:σ->Prop):Prop:=match r with
 |.rt _=>True
 |.nx s=>K s
 |.bk s=>K s
 |.ct s=>K s
def U3 (r:uQ σ τ) (K:σ->Option Prop):Option Prop:=some (vK r fun s=>hold (K s))
def R.to {α β:Type} {f:Ev->Option β} {ρ:Ev} {c:α->β} (x:R f ρ c) (v':α) (D':Option Prop) (hv:x.v=v':=by kernel_rfl) (hD:x.D=D':=by kernel_rfl):R f ρ c:=⟨v',D',fun h=>by
 subst hv hD
 exact x.ok h⟩
def Jw {c:τ->Bx} (E:σ->Ev) (s0:σ) (hE:ρ=E s0) (it:R fi ρ (iE e)) (ρ2:σ->α->Ev) (hg:∀ s x,gt (e x) (E s)=some (ρ2 s x)) (body:∀ s x,R gb (ρ2 s x) (cC E c)) (inj:τ->γ) (hj:∀ r,cO (inj r)=.rt (c r)) (K:∀ s,R k (E s) cO):R (aH (nH fi gt gb) k) ρ cO:=⟨behind (oJ (fun s x=>(body s x).v) it.v s0) inj fun s=>(K s).v,bx (bx it.D (some (vJ (fun s x=>(body s x).v) (fun s x=>(body s x).D) it.v s0))) (U3 (oJ (fun s x=>(body s x).v) it.v s0) fun s=>(K s).D),fun hd=>by
 obtain⟨h,h4⟩:=au hd
 obtain⟨h1,h2⟩:=au h
 have e1:nH fi gt gb ρ=some (cC E c (oJ (fun s x=>(body s x).v) it.v s0)):=by
  unfold nH
  rw[it.ok h1,bnd]
  subst hE
  exact Ew E ρ2 hg body it.v s0 h2
 rcases zT (fun s x=>(body s x).v) it.v s0 with⟨s',es⟩|⟨r,es⟩
 ·rw[es] at e1 h4 ⊢
  rw[rM e1]
  exact (K s').ok h4
 ·rw[es] at e1 ⊢
  show aH (nH fi gt gb) k ρ=some (cO (inj r))
  unfold aH
  rw[e1,hj]
  rfl⟩
class Ky {κ:Type} (c:κ->Key):Prop where
 inj:∀ a b,c a=c b->a=b
abbrev kS:Str->Key:=Sum.inr
abbrev kI:Int->Key:=Sum.inl
instance:Ky kS:=⟨fun _ _ h=>by cases h;rfl⟩
instance:Ky kI:=⟨fun _ _ h=>by cases h;rfl⟩
abbrev mE (e:α->Dt):List (Str×α)->Bx:=fun m=>.m (m.map fun q=>(kS q.1,e q.2)) none
abbrev nE (e:α->Dt):List (Str×α)->Bx:=fun m=>.n (m.map fun q=>(kS q.1,e q.2))
section
variable {κ:Type} [DecidableEq κ] {c:κ->Key}
def look [Inhabited α] (m:List (κ×α)) (x:κ):α:=((m.find? fun q=>decide (q.1=x)).map (·.2)).getD default
def has (m:List (κ×α)) (x:κ):Bool:=m.any fun q=>decide (q.1=x)
def put (m:List (κ×α)) (x:κ) (a:α):List (κ×α):=if has m x=true then m.map (fun q=>if q.1=x then (q.1,a) else q) else m++[(x,a)]
theorem Ww [Ky c] (a b:κ):decide (c a=c b)=decide (a=b):=by
 by_cases h:a=b
 ·rw[h];simp
 ·rw[ZI h,ZI fun z=>h (Ky.inj (c:=c) _ _ z)]
theorem Q0 [Ky c] (m:List (κ×α)) (x:κ):zJ (m.map fun q=>(c q.1,e q.2)) (c x)=((m.find? fun q=>decide (q.1=x)).map (·.2)).map e:=by
 unfold zJ
 rw[List.find?_map]
 simp only[Option.map_map,Function.comp_def,Ww]
theorem Q5 [Ky c] [Inhabited α] {m:List (κ×α)} {x:κ} (h:has m x=true):zJ (m.map fun q=>(c q.1,e q.2)) (c x)=some (e (look m x)):=by
 rw[Q0]
 unfold look
 unfold has at h
 rw[kc] at h
 obtain⟨q,hq,hx⟩:=h
 cases hf:m.find? fun q=>decide (q.1=x) with
 |none=>exact absurd hx (by simpa using List.find?_eq_none.mp hf q hq)
 |some q=>rfl
theorem U4 [Ky c] (m:List (κ×α)) (x:κ) (a:α):Jm (m.map fun q=>(c q.1,e q.2)) (c x) (e a)=(put m x a).map fun q=>(c q.1,e q.2):=by
 unfold Jm put has
 rw[List.any_map]
 simp only[Function.comp_def,Ww]
 by_cases h:(m.any fun q=>decide (q.1=x))=true
 ·rw[zi h,zi h]
  rw[qk,qk]
  refine List.map_congr_left fun q _=>?_
  simp only[Function.comp]
  by_cases hq:q.1=x
  ·simp[hq]
  ·have h':¬ c q.1=c x:=fun z=>hq (Ky.inj (c:=c) _ _ z)
   simp[hq,h']
 ·rw[zw h,zw h]
  simp
end
theorem Hf:∀ m:List (Str×α),Mv (m.map fun q=>(kS q.1,e q.2))=some (m.map (·.1))
 |[]=>rfl
 |q::m=>by rw[zl,Mv,Hf m,bnd];rfl
def YQ [Inhabited α] (a:R fa ρ (nE e)) (b:R fb ρ (zE eS)):R (b2 CW fa fb) ρ (zE e):=⟨look a.v b.v,bx (bx a.D b.D) (some (has a.v b.v=true)),fun h=>by
 obtain⟨h,h3⟩:=au h
 obtain⟨h1,h2⟩:=au h
 simp only[b2,a.ok h1,b.ok h2,bnd,CW,Wj,Q5 (c:=kS) (show has a.v b.v=true from h3)]⟩
def YS (e:α->Dt):R (fun _=>some (.m [] none)) ρ (mE e):=⟨[],none,fun _=>rfl⟩
def U5 (a:R fa ρ (nE e)):R (cY zK (ao fa aQ)) ρ (oE eS):=⟨nM (a.v.map (·.1)),bx a.D (some (a.v.length < 64)),fun h=>by
 obtain⟨h,h4⟩:=au h
 simp only[cY,ao,aQ,a.ok h,bnd,zK,nE,Hf,zg,zi (show a.v.length < 64 from h4),qk]⟩
end
section
variable {α β:Type} {ρ:Ev} {fa f:Ev->Option Bx} {fs:Ev->Option LS_} {fi:Ev->Option (List Dt)} {e:α->Dt}
theorem U6 {b:Bx} {ds:List Dt} (h:oX b=some ds):zB b=some ds:=by
 cases b with
 |z d=>cases d<;>first|exact h|(cases h;done)
 |l _=>exact h
 |o _=>exact h
 |n _=>cases h
 |m _ _=>cases h
end
end P1
end
section
namespace P1
open PySem PySem.Spec PyProof.Rows L2 S1 S6
class nR {α:Type} (e:α->Dt) where
 k:α->Key
 ok:∀ a,aaO (e a)=some (k a)
 inj:∀ a b,k a=k b->a=b
 same:∀ a b,Kl (k a) (k b)=true
instance:nR eI:=⟨fun i=>.inl i,fun _=>rfl,fun a b h=>by cases h;rfl,fun _ _=>rfl⟩
instance:nR eS:=⟨fun i=>.inr i,fun _=>rfl,fun a b h=>by cases h;rfl,fun _ _=>rfl⟩
class U7 {α:Type} (e:α->Dt) where
 k:α->List Key
 ok:∀ a,Km (e a)=some (k a)
 inj:∀ a b,k a=k b->a=b
 shp:∀ a b,Us (k a) (k b)=true
 ne:∀ a,(k a).isEmpty=false
class YT {α:Type} (e:α->Dt) [U7 e]:Prop where
 tx:∀ a,Uw (U7.k e a)=true
section
variable {α β γ δ:Type} {e:α->Dt} {e':β->Dt} {e'':γ->Dt} {e3:δ->Dt}
instance [nR e] [nR e']:U7 (Ob e e'):=⟨fun q=>[nR.k e q.1,nR.k e' q.2],fun q=>by simp only[Km,GQ,nR.ok,bnd],fun a b h=>by
 simp only[km,and_true] at h
 exact Prod.ext (nR.inj _ _ h.1) (nR.inj _ _ h.2),fun a b=>by simp[Us,nR.same],fun _=>rfl⟩
instance [nR e] [nR e'] [nR e'']:U7 (eP3 e e' e''):=⟨fun q=>[nR.k e q.1,nR.k e' q.2.1,nR.k e'' q.2.2],fun q=>by simp only[Km,GQ,nR.ok,bnd],fun a b h=>by
 simp only[km,and_true] at h
 exact Prod.ext (nR.inj _ _ h.1) (Prod.ext (nR.inj _ _ h.2.1) (nR.inj _ _ h.2.2)),fun a b=>by simp[Us,nR.same],fun _=>rfl⟩
instance [nR e] [nR e'] [nR e''] [nR e3]:U7 (eP4 e e' e'' e3):=⟨fun q=>[nR.k e q.1,nR.k e' q.2.1,nR.k e'' q.2.2.1,nR.k e3 q.2.2.2],fun q=>by simp only[Km,GQ,nR.ok,bnd],fun a b h=>by
 simp only[km,and_true] at h
 exact Prod.ext (nR.inj _ _ h.1) (Prod.ext (nR.inj _ _ h.2.1) (Prod.ext (nR.inj _ _ h.2.2.1) (nR.inj _ _ h.2.2.2))),fun a b=>by simp[Us,nR.same],fun _=>rfl⟩
instance [nR e]:YT (Ob e eS):=⟨fun a=>by simp[U7.k,Uw,nR.k]⟩
instance [nR e] [nR e']:YT (eP3 e eS e'):=⟨fun a=>by simp[U7.k,Uw,nR.k]⟩
instance [nR e] [nR e'] [nR e'']:YT (eP4 e eS e' e''):=⟨fun a=>by simp[U7.k,Uw,nR.k]⟩
variable {ρ:Ev} {fa f:Ev->Option Bx} {fs:Ev->Option (List (List Key))}
end
end P1
end
section
namespace P1
open PySem PySem.Spec PyProof.Rows L2
section
variable {α β γ:Type} {ρ:Ev} {fa fb fd f fk fv:Ev->Option Bx} {fs:Ev->Option (List Bx)} {fi:Ev->Option (List Dt)} {e:α->Dt} {e':β->Dt} {g k:Ev->Option Out} {cO:γ->Out} {gt:Dt->Ev->Option Ev} {p:Ev->Option Bool} {is:List Nat} {n:Nat}
abbrev mW (w:Option Addr) (e:α->Dt):List (Str×α)->Bx:=fun m=>.m (m.map fun q=>(kS q.1,e q.2)) w
def U8 (w:Option Addr) (i:Nat) (m:List (Str×α)) (hi:ρ[i]?=some (some (mW w e m))) (a:R fa ρ (zE e)) (b:R fb ρ (zE eS)) (K:∀ m':List (Str×α),R k (ρ.set i (some (mW w e m'))) cO):R (aH (Qs i fa fb) k) ρ cO:=⟨(K (put m b.v a.v)).v,bx (bx (bx a.D b.D) (some (m.length < 1000))) (K (put m b.v a.v)).D,fun hd=>by
 obtain⟨h,h4⟩:=au hd
 obtain⟨h,h3⟩:=au h
 obtain⟨h1,h2⟩:=au h
 rw[rM (ρ':=ρ.set i (some (mW w e (put m b.v a.v)))) (by
  unfold Qs
  rw[a.ok h1,bnd,b.ok h2,bnd]
  simp only[GK,Wj,bnd,hi,mW,zg,zi (show m.length < 1000 from h3),U4])]
 exact (K _).ok h4⟩
end
section
variable {α:Type} {ρ:Ev} {fa fb:Ev->Option Bx} {e:α->Dt}
end
end P1
end
section
namespace P1
open PySem PySem.Spec PyProof.Rows L2 S1 S6
section
variable {ρ:Ev} {fa:Ev->Option Bx}
def kT (xs:LS_):List Key:=xs.map Sum.inr
def adq (a b:LS_):Bool:=ada (kT a) (kT b)
end
section
variable {α:Type} {ρ:Ev} {f:Ev->Option Bx} {e:α->Dt}
theorem map_some (e:α->Dt) (xs:List α):(xs.map some).map (eO e)=xs.map e:=by rw[qk];rfl
end
end P1
end
section
namespace P1
open PySem PySem.Spec PyProof.Rows L2
section
variable {α:Type} {k g:Ev->Option Out} {ρ:Ev} {cO:α->Out}
end
section
variable {α:Type} {e:α->Dt} {ρ:Ev} {fa fb:Ev->Option Bx}
end
section
variable {σ τ γ:Type} {p:Ev->Option Bool} {gb k:Ev->Option Out} {ρ:Ev} {cO:γ->Out}
end
section
variable {α:Type} {e:α->Dt} {ρ:Ev} {fa:Ev->Option Bx}
def enC (fs:Ev->Option (List Bx)):Ev->Option (List Dt):=fun ρ=>(fs ρ).bind GZ
def pB (xs:List α):List (Int×α):=(List.range xs.length).zipWith (fun (k:Nat) x=>((k:Int),x)) xs
theorem M4 (xs:List α):yc (xs.map e)=(pB xs).map (Ob eI e):=by
 unfold yc pB
 rw[zg,List.zipWith_map_right,List.map_zipWith]
def U9 (a:RL fa ρ e):R (enC (ao fa aQ)) ρ (iE (Ob eI e)):=⟨pB a.v,a.D,fun h=>by
 simp only[enC,ao,aQ,a.ok h,bnd,GZ,a.lk,M4]⟩
end
section
variable {α β σ τ:Type}
theorem Kv {step:σ->α->σ} {P:σ->α->Option Prop} (I:Nat->σ->Prop):∀ (xs:List α) (m:Nat) (s0:σ),I m s0->(∀ k x s,xs[k]?=some x->I (m+k) s->hold (P s x)/\I (m+k+1) (step s x))->yr step P xs s0/\I (m+xs.length) (xs.foldl step s0)
 |[],m,s0,h0,_=>⟨trivial,h0⟩
 |x::xs,m,s0,h0,hs=>by
  obtain⟨h1,h2⟩:=hs 0 x s0 rfl h0
  have:=Kv I xs (m+1) (step s0 x) h2 fun k y s e h=>by
   have:=hs (k+1) y s (by simpa using e) (by rw[show m+(k+1)=m+1+k by omega];exact h)
   rw[show m+(k+1)+1=m+1+k+1 by omega] at this
   exact this
  refine⟨⟨h1,this.1⟩,?_⟩
  rw[QU,show m+(xs.length+1)=m+1+xs.length by omega]
  exact this.2
theorem Va {i:Int} {n k:Nat} {x:Int} (h:(rng i n)[k]?=some x):x=i+k/\k < n:=by
 unfold rng at h
 rw[ZT] at h
 cases hk:(List.range n)[k]? with
 |none=>rw[hk] at h;cases h
 |some j=>
  rw[hk] at h
  have hl:k < n:=by simpa using (List.getElem?_eq_some_iff.mp hk).1
  have:j=k:=by
   rw[List.getElem?_range hl] at hk
   cases hk;rfl
  subst this
  cases h
  exact⟨rfl,hl⟩
theorem vL (i:Int) (n:Nat):(rng i n).length=n:=by unfold rng;simp
theorem rN {step:σ->Int->σ} {P:σ->Int->Option Prop} (I:Nat->σ->Prop) (n:Nat) (s0:σ) (h0:I 0 s0) (hs:∀ (k:Nat) s,k < n->I k s->hold (P s k)/\I (k+1) (step s k)):yr step P (rng 0 n) s0/\I n ((rng 0 n).foldl step s0):=by
 have:=Kv (P:=P) I (rng 0 n) 0 s0 h0 fun k x s e h=>by
  obtain⟨rfl,hk⟩:=Va e
  rw[Nat.zero_add] at h ⊢
  rw[Int.zero_add]
  exact hs k s hk h
 rw[vL,Nat.zero_add] at this
 exact this
theorem zU {step:Unit->α->uQ Unit Bool} {P:Unit->α->Option Prop}:∀ xs:List α,(∀ x∈xs,hold (P () x)/\(step () x=.nx ()\/step () x=.ct ()))->oJ step xs ()=.nx ()/\vJ step P xs ()
 |[],_=>⟨rfl,trivial⟩
 |x::xs,h=>by
  obtain⟨h1,h2⟩:=h x (ZA ..)
  have ih:=zU (P:=P) xs fun y hy=>h y (Zs _ hy)
  rcases h2 with h2|h2
  ·exact⟨by unfold oJ;rw[h2];exact ih.1,h1,by rw[h2];exact ih.2⟩
  ·exact⟨by unfold oJ;rw[h2];exact ih.1,h1,by rw[h2];exact ih.2⟩
theorem zV [Inhabited α] {xs:List α} {i:Int} (h:In xs.length i):at' xs i∈xs:=by
 obtain⟨x,hx⟩:=Et h
 unfold at'
 rw[hx]
 unfold Bv at hx
 obtain⟨j,_,hx⟩:=bind_some hx
 exact jv hx
theorem Q6 [Inhabited α] {xs:List α} {k:Nat} {x:α} (h:xs[k]?=some x):at' xs (k:Int)=x:=by
 have hl:k < xs.length:=(List.getElem?_eq_some_iff.mp h).1
 unfold at' Bv Zt
 rw[zi (by omega),zi (by omega),bnd,Int.toNat_natCast,h]
 rfl
theorem in_of {n:Nat} {i:Int} (h0:0<=i) (h1:i < n):In n i:=⟨by omega,h1⟩
theorem mY {n:Nat} {x m:Int} (hm:0 < m) (h:m<=n):In n (x % m):=in_of (Int.emod_nonneg _ (by omega)) (Int.lt_of_lt_of_le (Int.emod_lt_of_pos _ hm) h)
theorem gR (x:Int) {m:Int} (hm:0 < m):0<=x % m/\x % m < m:=⟨Int.emod_nonneg _ (by omega),Int.emod_lt_of_pos _ hm⟩
theorem Dj {j:Int} (h0:0<=j) (h1:j<=1000000):Rg j:=⟨by omega,by omega⟩
theorem Wx {a b:Int} (h0:0<=a) (h1:a < 18446744073709551616):Mul a b:=.inl ⟨by omega,h1⟩
theorem Kw {xs:List α} {lo hi:Option Int} {x:α} (h:x∈cut xs lo hi):x∈xs:=List.mem_of_mem_drop (List.mem_of_mem_take h)
theorem Kz (xs:List α) (lo hi:Option Int):(cut xs lo hi).length<=xs.length:=by
 unfold cut
 rw[ka,kb]
 omega
theorem iY (x y:Str):(x++y).length=x.length+y.length:=by
 show (x.cps++y.cps).size=_
 rw[kF]
 rfl
theorem lu (x:Str) (i:Int):(ch x i).length=1:=rfl
theorem slice_le (x:Str) (l u:Option Int):(Txt.slice x l u).length<=x.length:=PyProof.Txt.length_slice_le x l u
theorem M5 (x:Str):(chars x).length=x.length:=by unfold chars;rw[zg,QQ];rfl
theorem M6 (x:Str):(signs x).length=x.length:=by rw[QT,zg,M5]
end
section
variable {α γ:Type} [Inhabited α] {e:α->Dt} {ρ:Ev} {f:Ev->Option Bx} {k:Ev->Option Out} {cO:γ->Out}
end
section
variable {ρ:Ev} {fa:Ev->Option Bx}
end
section
variable {α γ:Type} {e:α->Dt} {ρ:Ev} {f:Ev->Option Bx} {k:Ev->Option Out} {cO:γ->Out}
end
section
variable {α β γ:Type} {e:α->Dt} {f fa fb:Ev->Option Bx} {k g:Ev->Option Out} {ρ:Ev} {cO:γ->Out}
end
section
variable {α:Type} {e:α->Dt} {f fa fb:Ev->Option Bx} {ρ:Ev}
end
section
variable {α β γ:Type} {e:α->Dt} {e':β->Dt} {fa fb:Ev->Option Bx} {ρ:Ev}
end
def RP {α β:Type} (f:Ev->Option β) (ρ:Ev) (c:α->β) (v:α) (D:Option Prop):Prop:=hold D->f ρ=some (c v)
theorem R.tp {α β:Type} {f:Ev->Option β} {ρ:Ev} {c:α->β} {v':α} {D':Option Prop} (x:R f ρ c) (hv:x.v=v':=by kernel_rfl) (hD:x.D=D':=by kernel_rfl):RP f ρ c v' D':=fun h=>by
 subst hv hD
 exact x.ok h
def RP.r {α β:Type} {f:Ev->Option β} {ρ:Ev} {c:α->β} {v:α} {D:Option Prop} (h:RP f ρ c v D):R f ρ c:=⟨v,D,h⟩
theorem len1 {α:Type} {p:List α->Prop} (h:∀ a,p [a]):∀ us:List α,us.length=1->p us
 |[a],_=>h a
theorem len2 {α:Type} {p:List α->Prop} (h:∀ a b,p [a,b]):∀ us:List α,us.length=2->p us
 |[a,b],_=>h a b
theorem M7 {α:Type} {p:List α->Prop} (h:∀ a b c,p [a,b,c]):∀ us:List α,us.length=3->p us
 |[a,b,c],_=>h a b c
end P1
end
section
namespace P1
open PySem PySem.Spec PyProof.Rows L2 S1
section
variable {prog:Program} {w:World} {A:Around} {E:VP_} {s:Shared}
end
section
variable {X:Cx}
end
section
variable {fa:Ev->Option Bx} {ρ:Ev}
end
end P1
end
section
namespace P1
open PySem PySem.Spec PyProof.Rows L2
section
variable {i n:Nat} {is:List Nat} {f:Ev->Option Bx} {fs:Ev->Option (List Bx)} {p:Ev->Option Bool} {gt:Dt->Ev->Option Ev} {g1 g2 gb:Ev->Option Out}
end
section
variable {X:Cx} {st:Stmt} {rest:List Stmt} {g1 g2:Ev->Option Out}
end
section
variable {P:Program} {w:World} {K:FG_} {mg:Str->Option Value} {base:Heap}
end
section
variable {X:Cx} {pins:List (Addr×Obj)} {σ:L2.St} {H:Hp} {s:Shared} {a:Addr} {ks:List V} {o:Obj}
end
def Fr3 (Hb Hc H:Hp) (σ:L2.St) (i:Nat):Prop:=∃ (t p0 p1 p2:Addr) (x0 x1 x2:List V) (o0 o1 o2:Obj),(x0.length < 1000/\x2.length < 1000)/\σ[i]?=some (some (.ref t))/\H t=some (.tup [.ref p0,.ref p1,.ref p2])/\(H p0=some (.uR o0 (.lst x0))/\H p1=some (.uR o1 (.lst x1))/\H p2=some (.uR o2 (.lst x2)))/\(Hc p0=none/\Hc p1=none/\Hc p2=none)/\(p0≠p1/\p0≠p2/\p1≠p2)/\(∀ ob u,Hb p0≠some (.uR ob u))/\(∀ ob u,Hb p1≠some (.uR ob u))/\∀ ob u,Hb p2≠some (.uR ob u)
theorem Fr3.grow {Hb Hc H H':Hp} {σ σ':L2.St} {i:Nat} (h:Fr3 Hb Hc H σ i) (s:Same H H') (hs:σ'[i]?=σ[i]?):Fr3 Hb Hc H' σ' i:=by
 obtain⟨t,p0,p1,p2,x0,x1,x2,o0,o1,o2,l,e,ht,⟨h0,h1,h2⟩,r⟩:=h
 exact⟨t,p0,p1,p2,x0,x1,x2,o0,o1,o2,l,by rw[hs];exact e,s _ _ ht,⟨s _ _ h0,s _ _ h1,s _ _ h2⟩,r⟩
section
variable {X:Cx} {i:Nat} {M0 M1 M2 er:Expr} {f0 f2 f:Ev->Option Bx} {d0 d2:Dt} {z0 z1 z2 z3:Pos}
end
theorem bw.sl {K:FG_} {H0 H:Hp} {σ:L2.St} {ρ:Ev} (E:bw K H0 H σ ρ) {i:Nat} (h:∀ c,ρ[i]?≠some (some c)) (v:Option V):bw K H0 H (σ.set i v) ρ:=by
 have ne:∀ {j:Nat} {c:Bx},ρ[j]?=some (some c)->(σ.set i v)[j]?=σ[j]?:=fun e=>kf (fun z=>h _ (z▸e))
 exact⟨by rw[qv];exact E.len,fun j b e=>by rw[ne e];exact E.val j b e,fun j k c a b e1 e2 e3 e4 e5 e6=>E.own j k c a b e1 e2 (by rw[<-ne e1];exact e3) e4 e5 (by rw[<-ne e4];exact e6),E.base,fun j c a e1 e2 e3=>E.new j c a e1 e2 (by rw[<-ne e1];exact e3)⟩
section
variable {X:Cx} {st:List Stmt} {g:Ev->Option Out} {f fr fe:Ev->Option Bx} {p:Ev->Option Bool} {i i':Nat} {W:List Nat} {c e:Expr} {pos z:Pos}
end
section
variable {a b c g g1 g2 gb:Ev->Option Out} {f:Ev->Option Bx} {p:Ev->Option Bool} {i k:Nat} {gt:Dt->Ev->Option Ev}
end
end P1
end
section
namespace P1
open PySem PySem.Spec PyProof.Rows L2 S6
section
variable {X:Cx} {elt kx vx t1 i1 t2 i2:Expr} {f1 f2:List Expr} {scope:Scope} {cl:List (Str×Addr)} {pos:Pos} {xs:LS_} {is:List Nat} {g1 g2:Dt->Ev->Option Ev} {p1 p2:Ev->Option Bool} {fe fk fv:Ev->Option Bx} {fi1 fi2:Ev->Option (List Dt)} {fs:Ev->Option (List Dt)} {N m:Nat} {Ac:Addr->Hp->List Dt->HO->Prop} {el:Addr->Env->Sem Unit}
def cls2 (fi:Ev->Option (List Dt)) (gt:Dt->Ev->Option Ev) (p:Ev->Option Bool) (fs:Ev->Option (List Dt)) (is:List Nat) (n:Nat):Ev->Option (List Dt):=fun ρ=>(fi ρ).bind fun ds=>ug gt p fs (lU is ρ++List.replicate n none) ds
theorem Wf.no {K:FG_} {D:Addr} {H:Hp} {o1:List Dt} {o:HO}:Wf K D H o1 o->(∀ ob u,o≠.uR ob u)/\∀ vs,o≠.tup vs:=fun ⟨_,e,_⟩=>by subst e;exact⟨fun _ _ z=>(by cases z),fun _ z=>(by cases z)⟩
theorem AcS.no {D:Addr} {H:Hp} {o1:List Dt} {o:HO}:AcS X D H o1 o->(∀ ob u,o≠.uR ob u)/\∀ vs,o≠.tup vs:=fun ⟨_,e,_⟩=>by subst e;exact⟨fun _ _ z=>(by cases z),fun _ z=>(by cases z)⟩
end
end P1
end
section
namespace P1
open PySem PySem.Spec PyProof.Rows L2
section
variable {α β:Type} {ρ:Ev} {e:α->Dt} {e':β->Dt} {p:Ev->Option Bool} {fi fs:Ev->Option (List Dt)} {gt:Dt->Ev->Option Ev} {fe:Ev->Option Bx} {is:List Nat} {n:Nat}
end
section
variable {X:Cx}
end
section
variable {ρ:Ev} {fa fb:Ev->Option Bx}
end
def hx (h:Heap) (a:Addr):HO:=.ext fun h'=>h'.get? a=h.get? a
def LD (o:Option HO):Prop:=(∃ xs,o=some (.lst xs))\/∃ ks,o=some (.dK ks)
section
variable {X:Cx} {pins:List (Addr×Obj)} {σ:L2.St} {H H2:Hp} {s:Shared} {as:List Addr}
theorem LD.at {P:Program} {w:World} {H H':Hp} {h h':Heap} {a:Addr} {o:HO} (k:LD (some o)) (e:h'.get? a=h.get? a) (x:fj P w H h a o):fj P w H' h' a o:=by
 rcases k with⟨xs,hk⟩|⟨ks,hk⟩
 ·cases hk
  obtain⟨z,its,n,v,g⟩:=x
  exact⟨z,its,n,v,e.trans g⟩
 ·cases hk
  obtain⟨z,hd,vs,kv,o,es,ep,ho,r⟩:=x
  exact⟨z,hd,vs,kv,o,es,ep,e.trans ho,r⟩
theorem LD.obj {P:Program} {w:World} {H:Hp} {h:Heap} {a:Addr} (k:LD (H a)) (x:qW P w H h):∃ o,h.get? a=some o:=by
 rcases k with⟨xs,hk⟩|⟨ks,hk⟩
 ·obtain⟨_,its,n,_,g⟩:=x a _ hk
  exact⟨_,g⟩
 ·obtain⟨_,_,vs,_,o,es,ep,ho,_⟩:=x a _ hk
  exact⟨o,ho⟩
end
section
variable {X:Cx} {pins:List (Addr×Obj)} {σ:L2.St} {H:Hp} {s:Shared}
def aa5 {α:Type} (m:List (Int×List α)) (k:Int) (d:α):List (Int×List α):=if (m.any fun q=>decide (q.1=k))=true then m.map fun q=>if q.1=k then (q.1,q.2++[d]) else q else m++[(k,[d])]
structure Gp (K:FG_) (H:Hp) (D:Addr) (gs:List (Int×Addr×List Dt)):Prop where
 d:H D=some (.dK (gs.map fun g=>(Sum.inl g.1,V.ref g.2.1)))
 l:∀ g∈gs,∃ vs,H g.2.1=some (.lst vs)/\aR K H g.2.2 vs
 k:(gs.map (·.1)).Nodup
 a:(gs.map (·.2.1)).Nodup
def gpA (D:Addr) (gs:List (Int×Addr×List Dt)):List Addr:=D::gs.map (·.2.1)
theorem Gp.ld {K:FG_} {H:Hp} {D:Addr} {gs:List (Int×Addr×List Dt)} (G:Gp K H D gs):∀ a∈gpA D gs,LD (H a):=fun a ha=>by
 rcases List.mem_cons.mp ha with rfl|ha
 ·exact .inr ⟨_,G.d⟩
 ·obtain⟨g,hg,rfl⟩:=List.mem_map.mp ha
  obtain⟨vs,e,_⟩:=G.l g hg
  exact .inl ⟨vs,e⟩
theorem Gp.kept {K:FG_} {H H':Hp} {D:Addr} {gs:List (Int×Addr×List Dt)} (G:Gp K H D gs) (h:∀ a∈gpA D gs,H' a=H a) (r:∀ ds vs,aR K H ds vs->aR K H' ds vs):Gp K H' D gs:=
 ⟨(h D (ZA ..)).trans G.d,fun g hg=>let ⟨vs,e,q⟩:=G.l g hg;⟨vs,(h _ (Zs _ (List.mem_map.mpr ⟨g,hg,rfl⟩))).trans e,r _ _ q⟩,G.k,G.a⟩
theorem Gp.same {K:FG_} {H H':Hp} {D:Addr} {gs:List (Int×Addr×List Dt)} (G:Gp K H D gs) (s:Same H H'):Gp K H' D gs:=
 ⟨s _ _ G.d,fun g hg=>let ⟨vs,e,q⟩:=G.l g hg;⟨vs,s _ _ e,q.kp (.of s)⟩,G.k,G.a⟩
theorem Gp.val {gs:List (Int×Addr×List Dt)} {k:Int}:∀ {w:V},uE (gs.map fun g=>((Sum.inl g.1:Key),V.ref g.2.1)) (Sum.inl k)=some w->∃ g∈gs,g.1=k/\w=.ref g.2.1:=by
 induction gs with
 |nil=>intro w e;cases e
 |cons g gs ih=>
  intro w e
  rw[zl] at e
  by_cases hk:g.1=k
  ·rw[q8 (by rw[hk])] at e
   cases e
   exact⟨g,ZA ..,hk,rfl⟩
  ·rw[q9 (by simpa using hk)] at e
   obtain⟨g',h1,h2,h3⟩:=ih e
   exact⟨g',Zs _ h1,h2,h3⟩
end
section
variable {K:FG_} {H:Hp} {D l:Addr} {gs:List (Int×Addr×List Dt)} {k:Int} {x:Dt} {u:V}
theorem Gp.new (G:Gp K H D gs) (hn:uE (gs.map fun g=>((Sum.inl g.1:Key),V.ref g.2.1)) (Sum.inl k)=none) (hl:H l=some (.lst [])) (hla:l∉gpA D gs) :
  Gp K (upd H D (.dK (putK (gs.map fun g=>(Sum.inl g.1,V.ref g.2.1)) (Sum.inl k) (.ref l)))) D (gs++[(k,l,[])]):=by
 have kp:Kp H (upd H D (.dK (putK (gs.map fun g=>(Sum.inl g.1,V.ref g.2.1)) (Sum.inl k) (.ref l)))):=.dk G.d
 have hany:((gs.map fun g=>((Sum.inl g.1:Key),V.ref g.2.1)).any fun kv=>decide (kv.1=Sum.inl k))=false:=by rw[zj,hn];rfl
 have hlD:l≠D:=fun z=>hla (by rw[z];exact ZA ..)
 have hkn:k∉gs.map (·.1):=fun z=>by
  obtain⟨g,hg,e⟩:=List.mem_map.mp z
  have:=List.any_eq_false.mp hany _ (List.mem_map.mpr ⟨g,hg,rfl⟩)
  simp only[jn] at this
  exact this (by rw[e])
 refine⟨?_,fun g hg=>?_,?_,?_⟩
 ·rw[aU,putK,zw (by rw[hany];exact zr),ZN];rfl
 ·rcases List.mem_append.mp hg with hg|hg
  ·obtain⟨vs,e,r⟩:=G.l g hg
   exact⟨vs,by rw[aJ fun z=>by rw[z,G.d] at e;cases e];exact e,r.kp kp⟩
  ·cases List.mem_singleton.mp hg
   exact⟨[],by rw[aJ hlD];exact hl,aR.nil⟩
 ·rw[ZN,kC]
  exact⟨G.k,by simp,fun a ha b hb=>by cases List.mem_singleton.mp hb;exact fun z=>hkn (by rw[z] at ha;exact ha)⟩
 ·rw[ZN,kC]
  exact⟨G.a,by simp,fun a ha b hb=>by cases List.mem_singleton.mp hb;exact fun z=>hla (Zs _ (by rw[z] at ha;exact ha))⟩
end
section
variable {X:Cx} {iter e1 e2 c ev:Expr} {fi:Ev->Option (List Dt)} {f1 f2 fv:Ev->Option Bx} {p:Ev->Option Bool} {x y w:Str} {pw py py2 py3 px p1 p2 p3 p4 pl a1 a2 c1 c2 pos:Pos}
theorem Vb {ρ:Ev} {i q:Nat} {b:Bx} (h:(ρ.set i none)[q]?=some (some b)):q≠i/\ρ[q]?=some (some b):=by
 rcases getset h with⟨_,z,_⟩|⟨h1,h2⟩
 ·cases z
 ·exact⟨h1,h2⟩
end
end P1
end
section
namespace P1
open PySem PySem.Spec PyProof.Rows L2 S6
section
variable {X:Cx} {kx vx t1 i1 t2 i2:Expr} {f1 f2:List Expr} {scope:Scope} {cl:List (Str×Addr)} {pos:Pos} {xs:LS_} {is:List Nat} {g1 g2:Dt->Ev->Option Ev} {p1 p2:Ev->Option Bool} {fk fv:Ev->Option Bx} {fi1 fi2:Ev->Option (List Dt)} {m:Nat}
theorem AcD.no {K:FG_} {D:Addr} {H:Hp} {o1:List Dt} {o:HO}:AcD K D H o1 o->(∀ ob u,o≠.uR ob u)/\∀ vs,o≠.tup vs:=fun ⟨_,e,_⟩=>by subst e;exact⟨fun _ _ z=>(by cases z),fun _ z=>(by cases z)⟩
end
end P1
end
section
namespace P1
open PySem PySem.Spec PyProof.Rows L2
section
variable {α β γ:Type} {ρ:Ev} {e:α->Dt} {e0:β->Dt} {fa fb fd f1 f2 fv:Ev->Option Bx} {p:Ev->Option Bool} {fi:Ev->Option (List Dt)} {kk:Ev->Option Out} {cO:γ->Out}
end
section
variable {X:Cx}
end
section
variable {α β:Type} {e:α->Dt} {ρ:Ev} {fa:Ev->Option Bx} {p:Ev->Option Bool} {fi fs:Ev->Option (List Dt)} {gt:Dt->Ev->Option Ev} {is:List Nat} {n:Nat}
end
section
variable {X:Cx} {a:Expr} {fa:Ev->Option Bx} {pos:Pos}
end
theorem fV {α:Type} {g:Ev->Option Out} {n:Nat} {bs:List Bx} {c:α->Bx} {v:α} {D:Option Prop} (x:RP g (bs.map some++List.replicate (n - bs.length) none) (fun r=>Out.rt (c r)) v D) (h:hold D):fG n g bs=some (c v):=YK x.r h
section
variable {α:Type} {e:α->Dt} {ρ:Ev} {fa:Ev->Option Bx}
end
open PySem.Builtin PySem.Builtin.Str
section
variable {X:Cx}
variable {o e:Expr} {fo fx:Ev->Option Bx}
end
section
variable {ρ:Ev} {fa fb:Ev->Option Bx} {g:Ev->Option Str}
end
section
variable {X:Cx}
def hoT (X:Cx) (a:Addr) (zs:LS_):HO:=.ext fun h=>∃ n,n<=zs.length/\h.SetOf (strKind X.prog X.w) a (fun z=>decide (z∈zs)) n
theorem Q7 {H:Hp} {h:Heap} {a:Addr} {zs:LS_} {n:Nat} (hn:n<=zs.length) (x:h.SetOf (strKind X.prog X.w) a (fun z=>decide (z∈zs)) n):fj X.prog X.w H h a (hoT X a zs):=
 ⟨⟨n,hn,x⟩,(let ⟨o,_,_,_,ho,_⟩:=x;⟨o,ho⟩),fun h1 h2 ⟨n,hn,o,es,ep,t,ho,r⟩ k=>⟨n,hn,o,es,ep,t,k o ho,r⟩⟩
theorem YW:tM X (compareOp .In) (fun x y H Q=>∃ t a zs,x=.str t/\y=.ref a/\H a=some (hoT X a zs)/\Q (.bl (decide (t∈zs))) H):=by
 intro pins s σ H x y v u Q I rx ry h
 obtain⟨t,a,zs,rfl,rfl,ha,q⟩:=h
 obtain⟨tk,rfl⟩:=rx
 cases ry
 obtain⟨n,_,hS⟩:=(I.hok _ _ ha).1
 exact wpAny_inSet_of (strKind_is X.prog X.w t tk) rfl hS ⟨.bl _,H,I.tok _,rfl,q⟩
end
section
variable {X:Cx} {iter e1 e2 e3 c:Expr} {fi:Ev->Option (List Dt)} {f1 fe:Ev->Option Bx} {p:Ev->Option Bool} {gr:Ev->Option Out} {fx:Ev->Option Dt} {tR tQ:TS} {x xr xj y1 y2:Str} {rest no:List Stmt} {kk:Nat} {p0 p00 p01 Wy q1 q2 pt pj pa px pb pif pf2 px3 a1 c1 pe1 pr a2 pj2 c2 pe2 pos:Pos}
end
section
variable {α β γ δ:Type} {ρ:Ev} {e:α->Dt} {ea:β->Dt} {eb:δ->Dt} {f1 fe:Ev->Option Bx} {p:Ev->Option Bool} {fi:Ev->Option (List Dt)} {kk:Ev->Option Out} {cO:γ->Out}
end
end P1
end
section
namespace P1
open PySem PySem.Spec PyProof.Rows L2 S1
section
variable {prog:Program} {w:World} {A:Around} {E:VP_} {s:Shared}
end
section
variable {X:Cx}
end
section
variable {X:Cx} {k n:Nat} {f:Addr} {fd:FuncData} {ps:LS_} {F:List Bx->Option Bx} {x:Str} {p pos:Pos}
end
end P1
end
section
namespace P1
open PySem PySem.Spec PyProof.Rows L2 S1 S6
section
variable {α β:Type} {e:α->Dt} {ρ:Ev} {f g fa fb:Ev->Option Bx} {c:α->Bx}
end
section
variable {ρ:Ev}
def x_k (d:Dt):R (cB d) ρ (zE eD):=Dc d eD d rfl
def x_i (i:Int):R (cB (.int i)) ρ (zE eI):=Dc (.int i) eI i rfl
def M8 (s:Str):R (cB (.str s)) ρ (zE eS):=Dc (.str s) eS s rfl
end
abbrev Nn (K:FG_) (n:Str) (f:Addr):Prop:=PySem.W.nsIn K mainGlobals n=some (some (.ref f))
abbrev Lk (K:FG_) (f:Addr) (n:Str) (st:Stmt) (oc:Value) (od:Option Addr) (sl:Array (Option Value)) (kV dc pm:Value) (an:Option Addr) (cd ct:Value):Prop:=K.lookup f=some ⟨oc,od,.func (PySem.W.fnOf n n (pY st) (iz st) (aM st) .none kV dc pm an cd ct),sl⟩
abbrev Zn (K:FG_) (n:Str):Prop:=PySem.W.nsIn K mainGlobals n=some none
end P1
end
section
namespace P1
open PySem PySem.Spec PyProof.Rows L2
section
variable {α:Type} {ρ:Ev} {fa fb:Ev->Option Bx} {e:α->Dt}
def Ey (x:Dt) (ys:List Dt):Bool:=ys.any fun y=>Sq (lW y x)
def Q8 (x:Dt) (ys:List Dt):Prop:=∀ y∈ys,(lW y x).isSome=true/\min (oG y) (oG x)<=60
theorem Vc {x:Dt} {ys:List Dt} (h:Q8 x ys):MJ x ys=some (Ey x ys):=by
 unfold MJ
 rw[zi]
 ·rfl
 ·rw[QY]
  intro y hy
  rw[(h y hy).1,Bool.true_and]
  exact ZU (h y hy).2
def aa7 (a:R fa ρ (zE eD)) (b:RL fb ρ e):R (b2 inX fa fb) ρ (zE eB):=⟨Ey a.v (b.v.map e),bx (bx a.D b.D) (some (Q8 a.v (b.v.map e))),fun h=>by
 obtain⟨h,h3⟩:=au h
 obtain⟨h1,h2⟩:=au h
 simp only[b2,a.ok h1,b.ok h2,bnd,inX,U6 b.lk,eD]
 show (MJ a.v (b.v.map e)).bind _=_
 rw[Vc h3]
 rfl⟩
end
def ExR (h:Heap) (e:Addr) (C:Value) (dx:Option Addr):Prop:=∃ vs sl,h.get? e=some ⟨C,dx,.fields vs,sl⟩/\vs[1]?=some .none
def Jx (h:Heap) (e:Addr) (C:Value) (dx:Option Addr) (fl:Value) (T:Addr):Prop:=
 ∃ vs sl oT ts,h.get? e=some ⟨C,dx,.fields vs,sl⟩/\vs[1]?=some (.ref T)/\T≠e/\h.get? T=some oT/\oT.data=.fields ts/\ts[3]?=some fl
structure Ez (S ch:List Addr) (h h':Heap):Prop where
 keep:∀ b o,h.get? b=some o->b∉ch->b∉S->h'.get? b=some o
 slot:∀ b o,h.get? b=some o->b∉ch->∃ sl,h'.get? b=some { o with slots:=sl }
theorem Ez.trans {S c1 c2:List Addr} {h h1 h2:Heap} (a:Ez S c1 h h1) (b:Ez S c2 h1 h2):Ez S (c1++c2) h h2:=by
 refine⟨fun x o e n m=>b.keep x o (a.keep x o e (fun z=>n (qo _ z)) m) (fun z=>n (zI _ z)) m,fun x o e n=>?_⟩
 obtain⟨s1,e1⟩:=a.slot x o e (fun z=>n (qo _ z))
 obtain⟨s2,e2⟩:=b.slot x _ e1 (fun z=>n (zI _ z))
 exact⟨s2,e2⟩
theorem Ez.mono {S S' c1 c2:List Addr} {h h1:Heap} (a:Ez S c1 h h1) (hc:∀ b∈c1,b∈c2) (hs:∀ b∈S,b∈S'):Ez S' c2 h h1:=
 ⟨fun x o e n m=>a.keep x o e (fun z=>n (hc _ z)) (fun z=>m (hs _ z)),fun x o e n=>a.slot x o e (fun z=>n (hc _ z))⟩
theorem Ez.uf {S ch:List Addr} {h h1 base:Heap} {l:List Env} (a:Ez S ch h h1) (nf:∀ b∈ch,∀ o,h.get? b=some o->∃ vs,o.data=.fields vs) (hl:h.FunFrames base l):h1.FunFrames base l:=
 hl.of_keeps fun b o e hn=>by
  obtain⟨sl,q⟩:=a.slot b o e fun z=>by
   obtain⟨vs,d⟩:=nf b z o e
   exact hn vs d
  exact⟨_,q,rfl⟩
section
variable {M:Model} {A:Around} {Ex:VP_} {s:Shared} {base:Heap} {env:Env} {outer:List Env} {L e T:Addr} {C fl:Value} {dx:Option Addr} {Q:Unit->Shared->Prop}
theorem Dk {head:Value} {hadNext:Bool} {vs:Array Value} {sl:Array (Option Value)} (hfr:A.frames=some (env::outer)) (hl:s.heap.FunFrames base (env::outer)) (hf:env.frame=some L)
  (he:s.heap.get? e=some ⟨C,dx,.fields vs,sl⟩) (hsz:1 < vs.size)
  (h:∀ h' T,s.heap.objs.size<=T->Ez (frs (env::outer)) [e] s.heap h'->Jx h' e C dx (rawInt L) T->Q () { s with heap:=h' }) :
  wpAny M A (do let a <-frameOf env;let pl <-entryPlaceOf L hadNext;let b <-EntryCells.newEntry head a .none (rawInt L) .none pl;setField (.ref e) 1 b) Q Ex s:=by
 have hene:e∉frs (env::outer):=fun hm=>by
  obtain⟨_,o,ho,hnf⟩:=hl.mem hm
  rw[he] at ho;cases ho;exact hnf vs rfl
 refine zb (wpAny_frameOf_fun hfr hl hf fun h1 hs1=>?_)
 refine zb (wpAny_entryPlaceOf fun pl hpl=>?_)
 unfold EntryCells.newEntry newFields
 refine zb (QA ?_ (hpl.sizeOk5 _ _ _ _ _))
 have he1:h1.get? e=some ⟨C,dx,.fields vs,sl⟩:=(hs1.2.1 e hene).trans he
 have he2:=zd (h:=h1) { cls:=.type "traceback", dict:=none,data:=.fields ([head,.ref L,.none,rawInt L,.none]++(if pl.isEmpty then List.replicate 6 Value.none else pl)).toArray } he1
 refine wpAny_setField he2 rfl hsz (h _ h1.objs.size (by rw[hs1.1];exact zk _) ?_ ?_)
 ·have kp:∀ b o,b≠e->h1.get? b=some o->_:=fun b o hb hq=>(qf _ (Obj.mapFields (·.setIfInBounds 1 (Value.ref h1.objs.size))) (qq hb)).trans (zd
   { cls:=.type "traceback", dict:=none,data:=.fields ([head,.ref L,.none,rawInt L,.none]++(if pl.isEmpty then List.replicate 6 Value.none else pl)).toArray } hq)
  refine⟨fun b o q n m=>kp b o (fun z=>n (by simp[z])) ((hs1.2.1 b m).trans q),fun b o q n=>?_⟩
  obtain⟨sl',q'⟩:=hs1.2.2 b o q
  exact⟨sl',kp b _ (fun z=>n (by simp[z])) q'⟩
 ·have hTe:h1.objs.size≠e:=Q3 (zt he1)
  have he3:=qi (Obj.mapFields (·.setIfInBounds 1 (Value.ref h1.objs.size))) he2 (JY (qV rfl _))
  have hT3:=(qf (h1.push { cls:=.type "traceback", dict:=none,data:=.fields ([head,.ref L,.none,rawInt L,.none]++(if pl.isEmpty then List.replicate 6 Value.none else pl)).toArray })
   (Obj.mapFields (·.setIfInBounds 1 (Value.ref h1.objs.size))) (qq hTe)).trans (zC h1 rfl)
  refine⟨_,_,_,_,he3,by simp[hsz],hTe,hT3,rfl,?_⟩
  first|(simp;done)|(rcases hpl with rfl|⟨_,_,_,_,_,_,_,rfl⟩<;>simp)
theorem Q9 (hfr:A.frames=some (env::outer)) (hl:s.heap.FunFrames base (env::outer)) (hf:env.frame=some L) (hx:ExR s.heap e C dx)
  (h:∀ h' T,s.heap.objs.size<=T->Ez (frs (env::outer)) [e] s.heap h'->Jx h' e C dx (rawInt L) T->Q () { s with heap:=h' }):wpAny M A (noteFrame (.ref e) env) Q Ex s:=by
 obtain⟨vs,sl,he,h1⟩:=hx
 unfold noteFrame
 simp only[hf]
 refine zb (Q2 he rfl h1 ?_)
 rw[zw (by decide)]
 exact Dk hfr hl hf he (Array.getElem?_eq_some_iff.mp h1).1 h
theorem M9 (hf:env.frame=some L) (hx:Jx s.heap e C dx (rawInt L) T) (h:Q () s):wpAny M A (noteFrame (.ref e) env) Q Ex s:=by
 obtain⟨vs,sl,oT,ts,he,h1,hTe,hT,hd,h3⟩:=hx
 unfold noteFrame
 simp only[hf]
 refine zb (Q2 he rfl h1 ?_)
 rw[zi (show (Value.ref T != Value.none)=true from by simp)]
 refine zb (Q2 hT hd h3 ?_)
 rw[zi (show (rawInt L==rawInt L)=true from by simp)]
 exact ze h
theorem KC {fl':Value} (hx:Jx s.heap e C dx fl T):∀ h',h'=s.heap.update T (Obj.mapFields (·.setIfInBounds 3 fl'))->Ez [] [T] s.heap h'/\Jx h' e C dx fl' T:=by
 obtain⟨vs,sl,oT,ts,he,h1,hTe,hT,hd,h3⟩:=hx
 have hsz:3 < ts.size:=(Array.getElem?_eq_some_iff.mp h3).1
 intro h' eh
 subst eh
 have oth:∀ b,b≠T->(s.heap.update T (Obj.mapFields (·.setIfInBounds 3 fl'))).get? b=s.heap.get? b:=fun b hb=>qf _ _ (qq hb)
 refine⟨⟨fun b o q n _=>(oth b fun z=>n (by simp[z])).trans q,fun b o q n=>⟨o.slots,(oth b fun z=>n (by simp[z])).trans q⟩⟩,vs,sl,_,_,(oth e (qq hTe)).trans he,h1,hTe,
  qi _ hT (JY (qV hd _)),qV hd _,by simp[hsz]⟩
theorem qm (fr:Option Addr) (hx:Jx s.heap e C dx fl T) (h:∀ h',Ez [] [T] s.heap h'->Jx h' e C dx (fr.elim .none fun f=>rawInt f) T->Q () { s with heap:=h' }):wpAny M A (setFlight (.ref e) fr) Q Ex s:=by
 obtain⟨x1,x2⟩:=KC (fl':=fr.elim .none fun f=>rawInt f) hx _ rfl
 obtain⟨vs,sl,oT,ts,he,h1,hTe,hT,hd,h3⟩:=hx
 unfold setFlight
 refine zb (Q2 he rfl h1 ?_)
 rw[zi (show (Value.ref T != Value.none)=true from by simp)]
 exact wpAny_setField hT hd (Array.getElem?_eq_some_iff.mp h3).1 (h _ x1 x2)
theorem Vd (hfr:A.frames=some (env::outer)) (hl:s.heap.FunFrames base (env::outer)) (hf:env.frame=some L) (hx:Jx s.heap e C dx .none T)
  (h:∀ h' T',s.heap.objs.size<=T'->Ez (frs (env::outer)) [T,e] s.heap h'->Jx h' e C dx (rawInt L) T'->Q () { s with heap:=h' }):wpAny M A (noteFrame (.ref e) env) Q Ex s:=by
 obtain⟨x1,x2⟩:=KC (fl':=.none) hx _ rfl
 obtain⟨vs,sl,oT,ts,he,h1,hTe,hT,hd,h3⟩:=hx
 unfold noteFrame
 simp only[hf]
 refine zb (Q2 he rfl h1 ?_)
 rw[zi (show (Value.ref T != Value.none)=true from by simp)]
 refine zb (Q2 hT hd h3 ?_)
 rw[zw (show ¬ ((Value.none==rawInt L)=true) from by simp[rawInt])]
 refine zb (wpAny_setField hT hd (Array.getElem?_eq_some_iff.mp h3).1 ?_)
 have x1':Ez (frs (env::outer)) [T] _ _:=x1.mono (fun _ z=>z) (fun _ z=>nomatch z)
 refine Dk (base:=base) hfr (x1.uf (fun b z o q=>by
  obtain rfl:b=T:=by simpa using z
  rw[hT] at q;cases q;exact⟨_,hd⟩) hl) hf ((x1.keep e _ he (by simpa using qq hTe) (by simp))) (Array.getElem?_eq_some_iff.mp h1).1 fun h' T' z c x=>?_
 exact h h' T' (by have:=Heap.size_after_update s.heap T (Obj.mapFields (·.setIfInBounds 3 Value.none));exact this▸z) (x1'.trans c) x
end
structure yu (X:Cx) (H:Hp) (b:Addr):Prop where
 un:H b=none
 ab:X.s₀.heap.objs.size<=b
 nl:b≠X.env.locals
 nc:∀ x c,X.env.cells.lookup x=some c->c≠b
section
variable {X:Cx} {σ:L2.St} {H H':Hp} {s:Shared} {h':Heap} {ch:List Addr}
theorem yu.new (I:Inv X [] σ H s) {b:Addr} (h:s.heap.objs.size<=b):yu X H b:=
 ⟨I.hok.fresh h,zh I.sz h,fun z=>by have:=I.lt;rw[<-z] at this;exact absurd this (Nat.not_lt.mpr h),fun x c e z=>by
  obtain⟨v,q⟩:=I.cell x c e
  have:c < s.heap.objs.size:=by
   obtain⟨o,q⟩:∃ o,s.heap.get? c=some o:=by
    first|(obtain⟨o,q,_⟩:=q;exact⟨o,q⟩)|exact⟨_,q⟩
   exact zt q
  rw[z] at this;exact absurd this (Nat.not_lt.mpr h)⟩
theorem EY {t':Nat} (hpn:X.pn=[]) (I:Inv X [] σ H s) (c:Ez (frs X.stack) ch s.heap h') (hm:∀ b∈ch,yu X H b):Inv X [] σ H { s with heap:=h',toks:=t' }:=by
 refine I.step (g':=s.gens) (d':=s.drawn) (ch:=ch) (fun b hb=>⟨.inr (hm b hb).ab,(hm b hb).nl,(hm b hb).nc,fun p hp=>by rw[hpn] at hp;cases hp⟩)
  (fun b o hL hb hc e n=>c.keep b o e hc fun z=>(List.mem_cons.mp (I.yS b z)).elim hL hb) (fun b o _ _ hc e n=>c.slot b o e hc) (fun _ _ _ _ n=>n)
  (fun b o hc e=>let ⟨_,q⟩:=c.slot b o e hc;⟨_,q⟩) (fun _ _ e=>e) (fun _ _ _ e=>e) (fun b ps e=>⟨#[],by rw[e];simp⟩) (fun m hm'=>?_) (fun b u e=>?_) I.bare
 ·obtain⟨o,es,ep,ho,r⟩:=hm'
  obtain⟨sl,q⟩:=c.slot _ o ho fun z=>(hm _ z).nl rfl
  exact⟨_,es,ep,q,r⟩
 ·have ne:∀ (d:Addr) (w:HO),H d=some w->d∉ch/\d∉frs X.stack:=fun d w q=>⟨fun z=>(by rw[(hm d z).un] at q;cases q),fun z=>(by rw[I.yH d z] at q;cases q)⟩
  refine (I.hok b u e).stay (fun d v hd q=>?_) (fun _ q=>q) fun _ _ q=>q
  rcases hd with z|z
  ·subst z;exact c.keep _ _ q (ne _ _ e).1 (ne _ _ e).2
  ·exact c.keep _ _ q (ne _ _ z).1 (ne _ _ z).2
def RX (X:Cx) (E:XK) (e:Value) (s:Shared):Prop:=
 ∃ a C dx σ H,e=.ref a/\Inv X [] σ H s/\yu X H a/\(ExR s.heap a C dx\/∃ T,yu X H T/\Jx s.heap a C dx (rawInt X.env.locals) T)/\E C dx H
def Nb (P:Program) (w:World):Ib:=fun outer H s E e s'=>
 ∃ a C dx H' T,e=.ref a/\s'.os=s.os/\AllBare s'.gens/\Un (frs outer) [] H H' s.heap s'.heap/\qW P w H' s'.heap/\s.heap.objs.size<=a/\s.heap.objs.size<=T/\H' a=none/\H' T=none ∧
  Jx s'.heap a C dx .none T/\E C dx H'
theorem YX {fs:List Addr} {h h1 h2:Heap} (u:Un fs [] H H' h h1) (c:Ez fs ch h1 h2) (hc:∀ b∈ch,h.get? b=none):Un fs [] H H' h h2:=by
 have nc:∀ b o,h.get? b=some o->b∉ch:=fun b o e z=>by rw[hc b z] at e;cases e
 refine⟨fun b o e n f x=>c.keep b o (u.keep b o e n f x) (nc b o e) f,fun b o e n f x=>?_,u.free,fun b o e x=>?_,u.tups,u.oR,u.qO⟩
 ·obtain⟨sl,q⟩:=u.slot b o e n f x
  obtain⟨sl',q'⟩:=c.slot b _ q (nc b o e)
  exact⟨sl',q'⟩
 ·obtain⟨o',q⟩:=u.there b o e x
  obtain⟨sl,q'⟩:=c.slot b _ q (nc b o e)
  exact⟨_,q'⟩
theorem Jx.apart {h:Heap} {e T:Addr} {C fl:Value} {dx:Option Addr} (x:Jx h e C dx fl T):(∃ o vs,h.get? e=some o/\o.data=.fields vs)/\∃ o vs,h.get? T=some o/\o.data=.fields vs:=by
 obtain⟨vs,sl,oT,ts,he,h1,hTe,hT,hd,h3⟩:=x
 exact⟨⟨_,vs,he,rfl⟩,oT,ts,hT,hd⟩
theorem KD {E:XK} {Ex:VP_} {Q:Unit->Shared->Prop} {a:Addr} {C:Value} {dx:Option Addr} (hpn:X.pn=[]) (hst:X.stack=X.env::X.outer) (hf:X.env.frame=some X.env.locals) (I:Inv X [] σ H s) (ma:yu X H a)
  (hx:ExR s.heap a C dx\/∃ T,yu X H T/\Jx s.heap a C dx (rawInt X.env.locals) T)
  (h:∀ h' T,Inv X [] σ H { s with heap:=h' }->yu X H T->Jx h' a C dx (rawInt X.env.locals) T->Q () { s with heap:=h' }):wpAny (model X.prog X.w) X.A (noteFrame (.ref a) X.env) Q Ex s:=by
 rcases hx with x|⟨T,mT,x⟩
 ·have fr:=I.stack
  rw[hst] at fr
  refine Q9 (base:=X.base) (hst▸I.ok.frames) fr hf x fun h' T z c x'=>?_
  rw[<-hst] at c
  have mT:yu X H T:=yu.new I z
  exact h h' T (EY (t':=s.toks) hpn I c (fun b hb=>(List.mem_singleton.mp hb)▸ma)) mT x'
 ·exact M9 hf x (h s.heap T I mT x)
theorem Nf {E:XK} (hpn:X.pn=[]) (hst:X.stack=X.env::X.outer) (hf:X.env.frame=some X.env.locals):PassesOwn (model X.prog X.w) X.A X.env (RX X E):=by
 intro e s' h
 obtain⟨a,C,dx,σ,H,rfl,I,ma,hx,he⟩:=h
 refine KD (E:=E) hpn hst hf I ma hx fun h' T I' mT x=>?_
 show wpAny _ _ _ _ _ _
 obtain⟨vs,sl,oT,ts,h1,h2,h3,h4,h5,h6⟩:=id x
 refine zb (Q2 h1 rfl h2 ?_)
 rw[zw (by simp)]
 rw[hf]
 refine qm (s:={ s' with heap:=h' }) (some X.env.locals) x fun h'' c x'=>?_
 exact⟨a,C,dx,σ,H,rfl,EY (s:={ s' with heap:=h' }) (t':=s'.toks) hpn I' (c.mono (fun _ z=>z) fun _ z=>nomatch z) (fun b hb=>(List.mem_singleton.mp hb)▸mT),ma,.inr ⟨T,mT,x'⟩,he⟩
theorem Ra {E:XK} {Ex:VP_} {e:Value} (hpn:X.pn=[]) (hst:X.stack=X.env::X.outer) (hf:X.env.frame=some X.env.locals) (hex:X.ex=[]) (h:RX X E e s) :
  wpAny (model X.prog X.w) X.A (leaving X.env e) (fun _ s''=>Nb X.prog X.w X.outer X.H₀ X.s₀ E e s'') Ex s:=by
 obtain⟨a,C,dx,σ,H,rfl,I,ma,hx,he⟩:=h
 unfold leaving
 refine zb (KD (E:=E) hpn hst hf I ma hx fun h' T I' mT x=>?_)
 refine qm (s:={ s with heap:=h' }) none x fun h'' c x'=>?_
 have J:=EY (s:={ s with heap:=h' }) (t':=s.toks) hpn I' (c.mono (fun _ z=>z) fun _ z=>nomatch z) (fun b hb=>(List.mem_singleton.mp hb)▸mT)
 have u:=J.base
 rw[hex] at u
 exact⟨a,C,dx,H,T,rfl,J.os,J.bare,u,J.hok,ma.ab,mT.ab,ma.un,mT.un,x',he⟩
end
def Ng (K:FG_) (C fI:Addr) (bmB:List Value) (newId:String):Bool:=match K.lookup C with
 |some ⟨.type "type", _,.cls cd,sl⟩=>(match cd.mro,sl.toList with
  |.ref C'::bm,[_,_,_,_,some (.builtin n),_]=>C'==C&&(n==newId&&(!cd.hasDel&&(PySem.W.tailIn K bmB bm&&(PySem.W.findIn K (.ref C) "__init__" == some (some (.ref fI))&&PySem.W.isFn K (.ref fI)))))
  |_,_=>false)
 |_=>false
def Zx (h:Heap) (C:Addr) (bmB:List Value) (newId:String):Prop:=∃ nm q N bs bm hdct sn sub ab col dd k0 k1 k2 k3 k5,h.get? C=some (excClassObj nm q C N bs bm hdct sn sub ab col dd k0 k1 k2 k3 k5 newId)/\OwnTail h bmB bm
theorem Fb {K:FG_} {h:Heap} {C fI:Addr} {bmB:List Value} {newId:String} (X:K.In h) (q:Ng K C fI bmB newId=true):Zx h C bmB newId/\PySem.W.findIn K (.ref C) "__init__" = some (some (.ref fI))/\PySem.W.isFn K (.ref fI)=true:=by
 unfold Ng at q
 split at q
 ·rename_i dd cd sl ho
  split at q
  ·rename_i C' bm k0 k1 k2 k3 n k5 hm hs
   simp only[ZO,beq_iff_eq,JU] at q
   obtain⟨rfl,rfl,hdel,ht,hi,hf⟩:=q
   obtain⟨nm,bs,mro,ns,qn,hd,sn,sub,ab,col,del⟩:=cd
   dsimp only at hm hdel
   subst hm hdel
   have hsl:sl=#[k0,k1,k2,k3,some (.builtin n),k5]:=by
    obtain⟨l⟩:=sl
    simp only at hs
    rw[hs]
   subst hsl
   exact⟨⟨nm,qn,ns,bs,bm,hd,sn,sub,ab,col,dd,k0,k1,k2,k3,k5,X _ _ ho,PySem.W.tail_of_in X ht⟩,hi,hf⟩
  ·cases q
 ·cases q
theorem Zx.keeps {h h':Heap} {C:Addr} {bmB:List Value} {newId:String} (x:Zx h C bmB newId) (k:∀ b o,h.get? b=some o->h'.get? b=some o):Zx h' C bmB newId:=by
 obtain⟨nm,q,N,bs,bm,hdct,sn,sub,ab,col,dd,k0,k1,k2,k3,k5,hC,T⟩:=x
 exact⟨nm,q,N,bs,bm,hdct,sn,sub,ab,col,dd,k0,k1,k2,k3,k5,k _ _ hC,T.keeps k⟩
section
variable {prog:Program} {w:World} {A:Around} {E:VP_} {h:Heap} {g:Array GenState} {d:Drawn} {t:Nat} {os:OsState} {C fI e:Addr} {rest bmB:List Value} {K:FG_} {B newId initId:String}
abbrev KH (C t:Addr):Obj:={ cls:=.ref C,data:=.fields #[.ref t,.none,.none,.none,.bool false,.none] }
theorem Ve {Q:Fin->Shared->Prop} (F:ExcBaseFacts B newId initId bmB) (X:K.In h) (hx:Ng K C fI bmB newId=true) (hr:rest.length<=sizeLine)
  (hq:∀ h',(∀ b o,h.get? b=some o->h'.get? b=some o)->h'.get? (h.objs.size+1)=some (KH C h.objs.size) →
   wpAny (model prog w) A (call (.ref fI) (.ref (h.objs.size+1)::rest)) (fun r s'=>r=.none/\Q (.done (.ret (.ref (h.objs.size+1)))) s') E ⟨h',g,d,t,os⟩) :
  wpAny (model prog w) A (Builtin.«type.__call__» ⟨.ref C::rest,[]⟩) Q E ⟨h,g,d,t,os⟩:=by
 obtain⟨x,hi,hf⟩:=Fb X hx
 obtain⟨nm,q,N,bs,bm,hdct,sn,sub,ab,col,dd,k0,k1,k2,k3,k5,hC,T⟩:=x
 repeat (first|with_reducible refine JO hC ?_|with_reducible refine wpAny_madeBy_exc hC ?_|wp_step)
 refine codeAny_call_builtin_code (Code.quiet_builtin _ F.quiet) (wpAny_check_new_subT F T hC ?_)
 refine codeAny_exc_new_subT F T hC ?_ hr
 show wpAny _ _ _ _ _ _
 have kp:∀ b o,h.get? b=some o->((h.push { cls:=.type "tuple", data:=.seq rest.toArray }).push (KH C h.objs.size)).get? b=some o:=fun b o z=>zd _ (zd _ z)
 have hget:((h.push { cls:=.type "tuple", data:=.seq rest.toArray }).push (KH C h.objs.size)).get? (h.objs.size+1)=some (KH C h.objs.size):=by heap_get
 have hcC:(Value.ref C::bm).contains (.ref C)=true:=by simp
 unfold isInstance
 repeat (first|with_reducible refine JO hget ?_|(with_reducible refine wpAny_isSubtype_exc (kp _ _ hC) ?_;rw[hcC])|wp_step)
 show wpAny _ _ (typeLookup (.ref C) _) _ _ _
 refine (PySem.W.looks_findIn (X.keeps kp) hi).at ?_
 refine QI (zb ?_)
 unfold bindSpecial
 obtain⟨oI,hfI,hfc⟩:∃ oI,h.get? fI=some oI/\oI.cls=.type "function" := by
  have this:(K.lookup fI).map (·.cls)=some (.type "function"):=beq_iff_eq.mp hf
  obtain⟨o,ho,hc⟩:=Option.map_eq_some_iff.mp this
  exact⟨o,X _ _ ho,hc⟩
 refine zb (jI (T := "function") ⟨_,kp _ _ hfI,hfc⟩ ?_)
 rw[zi (by decide)]
 refine ze (zb (ZH (hq _ kp hget) (fun r s' hr=>?_) fun _ _ x=>x))
 obtain⟨rfl,hQ⟩:=hr
 wp_walk
 exact hQ
end
abbrev Oc (C t:Addr) (dx:Option Addr):Obj:={ cls:=.ref C,dict:=dx,data:=.fields #[.ref t,.none,.none,.none,.bool false,.none] }
section
variable {prog:Program} {w:World} {A:Around} {E:VP_} {h:Heap} {g:Array GenState} {d:Drawn} {t:Nat} {os:OsState} {C fI e:Addr} {rest bmB:List Value} {K:FG_} {B newId initId:String}
theorem YZ {Q:VP_} (F:ExcBaseFacts B newId initId bmB) (X:K.In h) (hx:Ng K C fI bmB newId=true) (hr:rest.length<=sizeLine)
  (hq:∀ h',(∀ b o,h.get? b=some o->h'.get? b=some o)->h'.get? (h.objs.size+1)=some (Oc C h.objs.size none) →
   wpAny (model prog w) (A.under (.builtin "type.__call__" ⟨.ref C::rest,[]⟩)) (call (.ref fI) (.ref (h.objs.size+1)::rest)) (fun r s'=>r=.none/\Q (.ref (h.objs.size+1)) s') E ⟨h',g,d,t,os⟩) :
  wpAny (model prog w) A (call (.ref C) rest) Q E ⟨h,g,d,t,os⟩:=by
 obtain⟨nm,q,N,bs,bm,hdct,sn,sub,ab,col,dd,k0,k1,k2,k3,k5,hC,T⟩:=(Fb X hx).1
 have f1:=tc_lookup
 have f2:=tc_bind (.ref C)
 have hT:(⟨h,g,d,t,os⟩:Shared).TypeIs (.ref C) "type" := ⟨_,hC,rfl⟩
 refine kr (codeAny_of_tree ?_)
 show wpAny _ _ (callAny (.ref C) _) _ _ _
 repeat (any_goals (first|assumption|with_reducible refine JO hC ?_|wp_step))
 refine⟨rfl,?_⟩
 exact codeAny_call_builtin_at (Code.quiet_builtin _ (by decide +kernel)) entry_typeCall (wpAny_check_type_call_sub hC (Ve F X hx hr fun h' k he=>hq h' k he))
theorem Vf {M:Model} {s:Shared} {env:Env} {x:Sem Value} {Q:Flow->Shared->Prop} (hbase:bmB.contains (.type "BaseException")=true) (hh:A.handled=none)
  (hq:wpAny M A x (fun v s1=>∃ e t dx,v=.ref e/\Zx s1.heap C bmB newId/\s1.heap.get? e=some (Oc C t dx)/\E (.ref e) s1) E s):wpAny M A (raiseStmt env (some x) none) Q E s:=by
 unfold raiseStmt
 refine zb (ZH hq (fun v s1 h1=>?_) fun _ _ z=>z)
 obtain⟨e,t,dx,rfl,⟨nm,q,N,bs,bm,hdct,sn,sub,ab,col,dd,k0,k1,k2,k3,k5,hC,T⟩,he,hE⟩:=h1
 obtain⟨hp,g,d,tk,os⟩:=s1
 dsimp only at hC he
 have hcB:(Value.ref C::bm).contains (.type "BaseException")=true:=by rw[List.contains_cons,T.hasType hbase,Bool.or_true]
 repeat (first|with_reducible refine JO he ?_|with_reducible refine JO hC ?_|(with_reducible refine wpAny_isSubtype_exc hC ?_;rw[hcB])|wp_step)
 exact wpAny_raiseNew_none hh hE
theorem Y0 {Q:VP_} {t0:Addr} {dx:Option Addr} (F:ExcBaseFacts B newId initId bmB) (x:Zx h C bmB newId) (he:h.get? e=some (Oc C t0 dx)) (hr:rest.length<=sizeLine)
  (hq:∀ h' t1,(∀ b o,b≠e->h.get? b=some o->h'.get? b=some o)->h'.get? e=some (Oc C t1 dx)->h.objs.size<=t1->h'.objs.size=h.objs.size+1->Q .none ⟨h',g,d,t,os⟩) :
  wpAny (model prog w) A (call (.builtin initId) (.ref e::rest)) Q E ⟨h,g,d,t,os⟩:=by
 obtain⟨nm,q,N,bs,bm,hdct,sn,sub,ab,col,dd,k0,k1,k2,k3,k5,hC,T⟩:=x
 refine kr (codeAny_call_builtin F.init.plain F.initEntry (wpAny_check_init_subT F T hC he rfl ?_))
 wp_walk
 refine hq _ h.objs.size (fun b o hb z=>?_) ?_ (zk _) ?_
 ·rw[qf _ _ (qq hb)]
  exact zd _ z
 ·rw[qi _ (zd _ he) rfl]
  rfl
 ·rw[Heap.size_after_update,js]
end
abbrev Wz:List Value:=[.type "ValueError", .type "Exception", .type "BaseException", .type "object"]
theorem Vg (self:Value):refuseLoop self "__setattr__" Wz=pure ():=by kernel_rfl
def qp:List Value->Bool
 |.ref _::r=>qp r
 |l=>l==Wz
theorem zW (self:Value):∀ {l:List Value},qp l=true->refuseLoop self "__setattr__" l=pure ()/\l.contains (.type "object")=true/\l.isEmpty=false
 |.ref c::r,e=>by
  have e':qp r=true:=by unfold qp at e;exact e
  obtain⟨a,b,_⟩:=zW self (l:=r) e'
  exact⟨by rw[refuseLoop_ref];exact a,by rw[List.contains_cons,b,Bool.or_true],rfl⟩
 |[],e=>by cases e
 |.none::r,e=>by cases e
 |.bool _::r,e=>by cases e
 |.int _ _::r,e=>by cases e
 |.str _ _::r,e=>by cases e
 |.bytes _ _::r,e=>by cases e
 |.float _ _::r,e=>by cases e
 |.builtin _::r,e=>by cases e
 |.type n::r,e=>by
  have e':(.type n::r)=Wz:=by unfold qp at e;exact beq_iff_eq.mp e
  rw[e']
  exact⟨Vg self,by decide,rfl⟩
def setIn (K:FG_) (C:Addr) (name:Str):Bool:=
 (PySem.W.clsIn K C).any (fun cd=>cd.hasDict&&qp cd.mro)&&(PySem.W.findIn K (.ref C) "__setattr__" == some (some (.builtin "object.__setattr__"))&&PySem.W.findIn K (.ref C) name==some none)
section
variable {prog:Program} {w:World} {A:Around} {E:VP_} {h:Heap} {g:Array GenState} {d:Drawn} {t:Nat} {os:OsState} {C e:Addr} {K:FG_} {name:Str}
theorem aa9 {Q:Unit->Shared->Prop} {t0:Addr} {v:Value} (X:K.In h) (hs:setIn K C name=true) (he:h.get? e=some (Oc C t0 none))
  (hq:∀ h' tk,(∀ b o,b≠e->h.get? b=some o->h'.get? b=some o)->h'.get? e=some (Oc C t0 (some h.objs.size))->h'.Ns1 h.objs.size (fun y=>if y=name then some v else none)->Q () ⟨h',g,d,tk,os⟩) :
  wpAny (model prog w) A (setAttr (.ref e) name v) Q E ⟨h,g,d,t,os⟩:=by
 unfold setIn at hs
 rw[ZO,ZO,beq_iff_eq,beq_iff_eq] at hs
 obtain⟨h1,h2,h3⟩:=hs
 obtain⟨cd,hc,hb⟩:∃ cd,PySem.W.clsIn K C=some cd/\(cd.hasDict&&qp cd.mro)=true:=by
  cases q:PySem.W.clsIn K C with
  |none=>rw[q] at h1;cases h1
  |some cd=>rw[q] at h1;exact⟨cd,rfl,h1⟩
 rw[ZO] at hb
 obtain⟨hd,hb⟩:=hb
 obtain⟨p1,p2,p3⟩:=zW (.ref e) hb
 have I:PySem.W.InstAt h e (Oc C t0 none) C none:=⟨he,rfl,rfl,trivial⟩
 refine PySem.W.set_plain (s:=⟨h,g,d,t,os⟩) X I h2 ?_
 have SF:=PySem.F.store_object
 have sub:PySem.W.Looks (model prog w) h (isInstance (.ref e) (.type "object")) true:=I.type.andThen (PySem.W.looks_mroIn X (by unfold PySem.W.mroIn;rw[hc,QR,zw (by rw[p3];decide),p2]))
 refine codeAny_call_builtin SF.slot.plain SF.entry (@PySem.W.check_slot (model prog w) _ _ ⟨h,g,d,t+1,os⟩ "object.__setattr__" "object" "__setattr__" (.ref e) [.str name t,v] [] _ SF.kind SF.split sub (SF.args (.ref e) (.str name t) v) ?_)
 have hm:PySem.W.Looks (model prog w) h (mroOf (.ref C)) cd.mro:=(PySem.W.looks_clsIn X hc).andThen .now
 rw[PySem.W.osa_eq,refuse_eq]
 refine zb (zb (I.type.at (zb (hm.at ?_))))
 rw[p1]
 refine ze (zb (I.type.at (zb ((PySem.W.looks_findIn X h3).at (zb (ze ?_))))))
 refine zb (ze (zb ?_))
 show wpAny _ _ (instanceDict e true) _ _ _
 unfold instanceDict
 refine zb (wpAny_loadPart he (zb ((PySem.W.looks_clsIn X hc).at ?_)))
 rw[hd]
 show wpAny _ _ (alloc { cls:=.type "dict", data:=.dict #[] } >>= fun dx=>update e (fun o=>{ o with dict:=some dx }) >>= fun _=>dictMade (.ref C) e dx) _ _ _
 have hp:∀ b o,h.get? b=some o->(h.push { cls:=.type "dict", data:=.dict #[] }).get? b=some o:=fun b o z=>zd _ z
 have hne:h.objs.size≠e:=Q3 (zt he)
 have hd1:((h.push { cls:=.type "dict", data:=.dict #[] }).update e (fun o=>{ o with dict:=some h.objs.size })).get? h.objs.size=some { cls:=.type "dict", data:=.dict #[] }:=by
  rw[qf _ _ (qq hne)]
  exact zC _ rfl
 refine zb (wpAny_alloc (zb (wpAny_update (hp _ _ he) (ze ?_))))
 show wpAny _ _ (Builtin.ObjectAttr.storeInDict h.objs.size (.str name t) name v) _ _ _
 unfold Builtin.ObjectAttr.storeInDict
 refine zb (ze (zb ?_))
 have hn1:((h.push { cls:=.type "dict", data:=.dict #[] }).update e (fun o=>{ o with dict:=some h.objs.size })).Ns1 h.objs.size (fun _=>none):=
  .of_empty ⟨_,#[],0,hd1,rfl,fun x z=>by simp at z,fun _=>rfl⟩
 refine wpAny_nsSet1 hn1 fun h' n1 sm=>?_
 obtain⟨o,es,ep,ho,hd',hsz⟩:=n1.count (ns:=[name]) (Within.cons name v Within.nil)
 refine zb (wpAny_lookBehind ho (by rw[hd'];exact pastItsLine_dict (zh hsz (Nat.le_add_left _ _))) (ze ?_))
 refine hq h' _ (fun b o hb z=>?_) ?_ n1
 ·rw[sm.2 b (ZE (zt z)),qf _ _ (qq hb)]
  exact hp _ _ z
 ·rw[sm.2 e (qq hne),qi _ (hp _ _ he) rfl]
end
def rO (K:FG_) (C:Addr):Bool:=
 (PySem.W.clsIn K C).any (fun cd=>cd.hasDict&&(!cd.mro.isEmpty&&(cd.mro.contains (.type "BaseException")&&cd.mro.contains (.type "object"))))&&(PySem.W.findIn K (.ref C) "__getattribute__" == some (some (.builtin "BaseException.__getattribute__")) &&
  (PySem.W.findIn K (.ref C) "__getattr__" == some none&&(PySem.W.findIn K (.ref C) "__class__" == some (some (.builtin "object.__class__")) &&
  (PySem.W.specialIn K (.builtin "object.__class__") "__get__" == some (some (.builtin "getset_descriptor.__get__"))&&PySem.W.takesIn K (.builtin "object.__class__")==some true))))
section
variable {prog:Program} {w:World} {A:Around} {E:VP_} {h:Heap} {g:Array GenState} {d:Drawn} {t:Nat} {os:OsState} {C e dx:Addr} {K:FG_} {name:Str} {v:Value} {vs:Array Value} {sl:Array (Option Value)} {m:Str->Option Value}
theorem Nh {o:Obj} {es:Array DictEntry} {ep:Nat} (hd:o.data=.dict es ep) (hf:nsFind es name=some v):PySem.W.lookIn name o=some (some v):=by
 unfold PySem.W.lookIn
 rw[hd]
 dsimp only
 unfold nsFind findBy at hf
 rw[<-ku] at hf
 obtain⟨en,h1,h2⟩:=Option.map_eq_some_iff.mp hf
 rw[h1]
 dsimp only
 rw[h2]
structure Vh (K:FG_) (C:Addr) (cd:ClassData):Prop where
 cls:PySem.W.clsIn K C=some cd
 dct:cd.hasDict=true
 ne:cd.mro.isEmpty=false
 be:cd.mro.contains (.type "BaseException")=true
 ob:cd.mro.contains (.type "object")=true
 ga:PySem.W.findIn K (.ref C) "__getattribute__" = some (some (.builtin "BaseException.__getattribute__"))
 hk:PySem.W.findIn K (.ref C) "__getattr__" = some none
 cl:PySem.W.findIn K (.ref C) "__class__" = some (some (.builtin "object.__class__"))
 gt:PySem.W.specialIn K (.builtin "object.__class__") "__get__" = some (some (.builtin "getset_descriptor.__get__"))
 tk:PySem.W.takesIn K (.builtin "object.__class__")=some true
theorem yR (hs:rO K C=true):∃ cd,Vh K C cd:=by
 unfold rO at hs
 simp only[ZO,beq_iff_eq] at hs
 obtain⟨h1,h2,h3,h4,h5,h6⟩:=hs
 cases q:PySem.W.clsIn K C with
 |none=>rw[q] at h1;cases h1
 |some cd=>
  rw[q] at h1
  have h1:(cd.hasDict&&(!cd.mro.isEmpty&&(cd.mro.contains (.type "BaseException")&&cd.mro.contains (.type "object"))))=true:=h1
  simp only[ZO,JU] at h1
  exact⟨cd,⟨q,h1.1,h1.2.1,h1.2.2.1,h1.2.2.2,h2,h3,h4,h5,h6⟩⟩
theorem Vh.sub {cd:ClassData} (G:Vh K C cd):PySem.W.mroIn K C (.type "object")=some true/\PySem.W.mroIn K C (.type "BaseException")=some true:=by
 unfold PySem.W.mroIn
 rw[G.cls,QR,QR,zw (by rw[G.ne];decide),zw (by rw[G.ne];decide),G.ob,G.be]
 exact⟨rfl,rfl⟩
theorem Rb {cd:ClassData} {Q:VP_} {expr fill:Bool} {od:Obj} {tk:Tok} {fo:Builtin.ObjectAttr.Found} (X:K.In h) (G:Vh K C cd) (I:PySem.W.InstAt h e ⟨.ref C,some dx,.fields vs,sl⟩ C (some od))
  (hfo:PySem.W.findObj K C (some od) name=some fo)
  (hq:wpAny (model prog w) A.in1 (match fo with|.value v=>ret v|.bind g a=>Builtin.ObjectAttr.bindTo g a (.ref e) (.ref C)|.missing=>unsupported "") (fun fin s'=>match fin with|.done (.ret v)=>wpAny (model prog w) A (handedOut v) Q E s'|_=>False) (fun _ _=>False) ⟨h,g,d,t,os⟩)
  (hm:fo≠.missing):wpAny (model prog w) A (getAttrBy (.ref e) (.str name tk) fill expr) Q E ⟨h,g,d,t,os⟩:=by
 have hga:=PySem.W.looks_findIn (M:=model prog w) X G.ga
 have hhk:PySem.W.Looks (model prog w) h (hookBefore (.ref C)) none:=PySem.W.looks_hook X (by rw[zi (by rfl)];exact G.hk)
 have sub:PySem.W.Looks (model prog w) h (isInstance (.ref e) (.type "BaseException")) true:=I.type.andThen (PySem.W.looks_mroIn X G.sub.2)
 unfold getAttrBy
 refine QI (zb (I.type.at (zb (hga.at ?_))))
 have hx2:(Value.builtin "BaseException.__getattribute__" == Value.builtin "object.__getattribute__")=false:=by decide +kernel
 dsimp only
 rw[zw (by rw[hx2,Bool.and_false];decide)]
 unfold getAttrByItsOwn
 refine zb (hhk.at (zb (wpAny_attempt (QI ?_))))
 unfold callGetattribute
 rw[zw (by cases expr<;>simp[onTheHeap])]
 unfold boundAndCalled
 have SF:=PySem.F.attrBase_ValueError.ga
 rw[SF.bind]
 refine zb (ze ?_)
 refine kr (codeAny_call_builtin SF.plain PySem.F.entry_bexc_ga (@PySem.W.check_slot (model prog w) _ _ ⟨h,g,d,t,os⟩ "BaseException.__getattribute__" "BaseException" "__getattribute__" (.ref e) [.str name tk] [] _ (by decide +kernel) (by decide +kernel) sub (PySem.F.args_bexc_ga (.ref e) (.str name tk)) ?_))
 have L1:=PySem.W.looks_find (M:=model prog w) X I hfo
 refine zb (ze (zb (ze (zb (I.type.at (zb (L1.at ?_)))))))
 cases fo with
 |missing=>exact absurd rfl hm
 |value v=>
  refine ZH hq (fun fin s' z=>?_) (fun _ _ z=>False.elim z)
  rcases fin with (_|_|_|_)|_<;>first|exact z|exact z.elim
 |bind g a=>
  refine ZH hq (fun fin s' z=>?_) (fun _ _ z=>False.elim z)
  rcases fin with (_|_|_|_)|_<;>first|exact z|exact z.elim
theorem abb {Q:VP_} {expr:Bool} (X:K.In h) (hs:rO K C=true) (hn:PySem.W.findIn K (.ref C) name=some none) (he:h.get? e=some ⟨.ref C,some dx,.fields vs,sl⟩) (hN:h.Ns1 dx m) (hm:m name=some v) (hv:PySem.W.handedIn v=true)
  (hq:Q v ⟨h,g,d,t+1,os⟩):wpAny (model prog w) A (getAttr (.ref e) name expr) Q E ⟨h,g,d,t,os⟩:=by
 obtain⟨cd,G⟩:=yR hs
 obtain⟨od,es,ep,ho,hod,hk,hu,hf⟩:=hN
 have I:PySem.W.InstAt h e ⟨.ref C,some dx,.fields vs,sl⟩ C (some od):=⟨he,rfl,rfl,ho⟩
 have hfo:PySem.W.findObj K C (some od) name=some (.value v):=by
  unfold PySem.W.findObj PySem.W.ownOf
  rw[G.cls,hn]
  simp only[QR,G.dct,QO,Nh hod ((hf name).trans hm)]
 unfold getAttr
 refine zb (wpAny_mkText (Rb X G I hfo (ze ?_) (by intro z;cases z)))
 show wpAny _ _ (handedOut v) _ _ _
 rw[PySem.W.handedOut_of hv]
 exact ze hq
def ExI (e C:Addr) (h:Heap):Prop:=∃ dx vs sl od,h.get? e=some ⟨.ref C,some dx,.fields vs,sl⟩/\h.get? dx=some od
theorem abd (hs:rO K C=true):PySem.W.KitX K (.ref e) (.ref C) (ExI e C) where
 ty:=fun M h X ⟨dx,vs,sl,od,he,ho⟩=>PySem.W.InstAt.type (od:=some od) ⟨he,rfl,rfl,ho⟩
 it:=fun M h X _=>by
  obtain⟨cd,G⟩:=yR hs
  have hcD:=G.cls
  unfold PySem.W.clsIn at hcD
  split at hcD
  ·rename_i c' d' cd' sl' ho
   intro A' Q' E' s' k q
   unfold isType loadHead
   exact zb (wpAny_loadPart (k _ _ (X _ _ ho)) (ze q))
  ·cases hcD
 ne:=fun h tp dd its n sl X htp=>by
  obtain⟨cd,G⟩:=yR hs
  have hcD:=G.cls
  refine Bool.eq_false_iff.mpr fun q=>?_
  have e:C=tp:=Value.ref.inj (beq_iff_eq.mp q)
  subst e
  unfold PySem.W.clsIn at hcD
  split at hcD
  ·rename_i c' d' cd' sl' ho
   have z:=(X _ _ ho).symm.trans htp
   cases z
  ·cases hcD
 ca:=fun {prog w A E Q s} X p k=>by
  obtain⟨cd,G⟩:=yR hs
  obtain⟨dx,vs,sl,od,he,ho⟩:=p
  obtain⟨h,g,d,t,os⟩:=s
  have I:PySem.W.InstAt h e ⟨.ref C,some dx,.fields vs,sl⟩ C (some od):=⟨he,rfl,rfl,ho⟩
  have hfo:PySem.W.findObj K C (some od) "__class__" = some (.bind (.builtin "getset_descriptor.__get__") (.builtin "object.__class__")):=PySem.W.findObj_data (by rw[G.cls];rfl) G.cl G.gt G.tk
  unfold getAttr? getAttrBy?
  refine zb (wpAny_mkText (zb (wpAny_attempt (Rb X G I hfo ?_ (by intro z;cases z)))))
  refine zb (QI (kr (PySem.W.class_get (s:=⟨h,g,d,t+1,os⟩) (od:=some od) X I G.sub.1 (ze ?_))))
  exact PySem.W.handed_on rfl (ze k)
end
def Dl (e C:Addr) (dx:Option Addr):HO:=.ext fun h=>∃ t,h.get? e=some (Oc C t dx)
theorem Jy {P:Program} {w:World} {H:Hp} {h:Heap} {e C t:Addr} {dx:Option Addr} (q:h.get? e=some (Oc C t dx)):fj P w H h e (Dl e C dx):=⟨⟨t,q⟩,⟨_,q⟩,fun _ _ ⟨t,p⟩ k=>⟨t,k _ p⟩⟩
section
variable {X:Cx} {pins:List (Addr×Obj)} {σ:L2.St} {H:Hp} {s:Shared} {C a:Addr} {o value:Expr} {ta tv:TE} {f:Str} {pos pos' p apos:Pos} {B newId initId:String} {bmB:List Value} {e:Expr} {es:List Expr} {t:TA} {x:Str}
theorem Jz {dx:Option Addr} (I:Inv X pins σ H s) (e:H a=some (Dl a C dx)):∃ t,s.heap.get? a=some (Oc C t dx):=(I.hok a _ e).1
theorem Inv.Vi {h':Heap} {tk:Nat} {dx:Option Addr} (I:Inv X pins σ H s) (ea:H a=some (Dl a C dx)) (k:∀ b u,b≠a->s.heap.get? b=some u->h'.get? b=some u) {t1:Addr} (he:h'.get? a=some (Oc C t1 dx)) :
  Inv X pins σ H { s with heap:=h',toks:=tk }:=by
 have z:=I.write (t':=tk) (x:=a) (e:=a) (o:=Dl a C dx) (by rw[ea];trivial) (.inl rfl) k ⟨_,he⟩ (Jy he)
 have q:upd H a (Dl a C dx)=H:=by
  funext b
  by_cases hb:b=a
  ·subst hb;rw[aU,ea]
  ·rw[aJ hb]
 rwa [q] at z
theorem Inv.attr {h':Heap} {tk:Nat} {v:V} {u:Value} (I:Inv X pins σ H s) (ea:H a=some (Dl a C none)) (rv:RelV v u) (k:∀ b o,b≠a->s.heap.get? b=some o->h'.get? b=some o) {t1:Addr}
  (he:h'.get? a=some (Oc C t1 (some s.heap.objs.size))) (n1:h'.Ns1 s.heap.objs.size (fun y=>if y=f then some u else none)) :
  Inv X pins σ (upd (upd H s.heap.objs.size (.xd [(f,v)])) a (Dl a C (some s.heap.objs.size))) { s with heap:=h',toks:=tk }:=by
 have hf:H s.heap.objs.size=none:=I.hok.fresh (zk _)
 have hla:a < s.heap.objs.size:=I.hok.lt ea
 have hne:s.heap.objs.size≠a:=Q3 hla
 have lt:∀ b u,s.heap.get? b=some u->b≠s.heap.objs.size:=fun b u q=>ZE (zt q)
 have gu:∀ b,b≠a->b≠s.heap.objs.size->upd (upd H s.heap.objs.size (.xd [(f,v)])) a (Dl a C (some s.heap.objs.size)) b=H b:=fun b h1 h2=>by rw[aJ h1,aJ h2]
 have na:∀ b w,H b=some w->(∀ φ,w≠.ext φ)->b≠a:=fun b w q h z=>by subst z;rw[ea] at q;cases q;exact h _ rfl
 have nd:∀ b w,H b=some w->b≠s.heap.objs.size:=fun b w q z=>by rw[z,hf] at q;cases q
 refine I.un (t':=tk) ⟨fun b u q n _ _=>k b u (fun z=>by subst z;rw[ea] at n;cases n) q,fun b u q n _ _=>⟨u.slots,k b u (fun z=>by subst z;rw[ea] at n;cases n) q⟩,
  fun b u q n _=>?_,fun b u q _=>?_,fun b xs q=>?_,fun b u xs q=>?_,fun b ps q=>⟨#[],?_⟩⟩ (fun b w q=>?_)
 ·rw[gu b (fun z=>by subst z;rw[ea] at n;cases n) (lt b u q)];exact n
 ·by_cases hb:b=a
  ·subst hb;exact⟨_,he⟩
  ·exact⟨u,k b u hb q⟩
 ·rw[gu b (na b _ q fun _ z=>nomatch z) (nd b _ q)];exact q
 ·rw[gu b (na b _ q fun _ z=>nomatch z) (nd b _ q)];exact q
 ·rw[gu b (na b _ q fun _ z=>nomatch z) (nd b _ q),q];simp
 ·by_cases hb:b=a
  ·subst hb
   rw[aU] at q
   cases q
   exact Jy he
  ·rw[aJ hb] at q
   by_cases hd:b=s.heap.objs.size
   ·subst hd
    rw[aU] at q
    cases q
    refine⟨_,n1,fun y=>?_⟩
    by_cases hy:y=f
    ·subst hy
     rw[zi rfl]
     simp only[List.lookup,beq_self_eq_true]
     exact rv
    ·rw[zw hy]
     have:(y==f)=false:=beq_eq_false_iff_ne.mpr hy
     simp only[List.lookup,this]
     trivial
   ·rw[aJ hd] at q
    refine (I.hok b w q).stay (fun c u hc z=>k c u ?_ z) (fun c z=>?_) fun c xs z=>?_
    ·rcases hc with hc|hc
     ·rw[hc];exact hb
     ·exact na c _ hc fun _ z=>nomatch z
    ·rw[gu c (na c _ z fun _ z=>nomatch z) (nd c _ z)];exact z
    ·rw[gu c (na c _ z fun _ z=>nomatch z) (nd c _ z)];exact z
def sEx (C:Addr) (ta tv:TE) (f:Str):TS:=fun D σ H=>tv σ H fun y H1=>ta σ H1 fun x H2=>∃ a,x=.ref a/\H2 a=some (Dl a C none)/\∀ dx,H2 dx=none->dx≠a->D.nx σ (upd (upd H2 dx (.xd [(f,y)])) a (Dl a C (some dx)))
theorem abe (hc:setIn X.K C f=true) (ha:PE X o ta) (hv:PE X value tv) (hs:swapsWith value (some (.Attribute o f pos')) pos.line X.env=pure false:=by rfl):PS X (.Assign [.Attribute o f pos'] value pos) (sEx C ta tv f):=by
 intro pins s σ H D I h
 refine plainObj_wpAny_Assign_Attribute (iu (hv pins s σ H _ I h) fun u s1 ⟨y,H1,I1,ry,q⟩=>iu (ha pins s1 σ H1 _ I1 q) fun ov s2 ⟨x,H2,I2,rx,a,ex,ea,q2⟩=>?_) hs
 subst ex
 obtain rfl:ov=Value.ref a:=rx
 obtain⟨t0,ht⟩:=Jz I2 ea
 have hf:H2 s2.heap.objs.size=none:=I2.hok.fresh (zk _)
 obtain⟨hh,g,d,tk,os⟩:=s2
 refine aa9 I2.Bt hc ht fun h' tk' k he n1=>?_
 exact⟨σ,_,Inv.attr (tk:=tk') I2 ea ry k he n1,q2 _ hf (Q3 (I2.hok.lt ea))⟩
def tBI (C:Addr) (t:TA):TE:=fun σ H Q=>t σ H fun vs H1=>∃ a v,vs=[.ref a,v]/\H1 a=some (Dl a C none)/\Q .non H1
def KJ (K:FG_) (FE:Addr) (initId:String):Prop:=
 PySem.W.specialIn K (.ref FE) "__getattribute__" = some (some (.builtin "type.__getattribute__"))/\PySem.W.readsIn K FE (.type "type")=true/\PySem.W.findCls K (.ref FE) (.type "type") "__init__" = some (.val (.builtin initId))
theorem Rc {pl:Sem Bool} {FE fI:Addr} (F:ExcBaseFacts B newId initId bmB) (hx:Ng X.K C fI bmB newId=true) (hg:Gl X x) (hm:X.mg x=some (.ref FE)) (hb:KJ X.K FE initId) (hh:PySem.W.handedIn (.builtin initId)=true) (ha:PA X (e::es) t)
  (hdb:(x==("__debug__" : Str))=false:=by decide) (he:starEach (e::es) X.env=(false,eval e X.env)::starEach es X.env:=by rfl) (hpl:(backTo pos (starEach es X.env)).any (·.1)=false:=by rfl)
  (ht:eval (.Call (.Attribute (.Name x p) "__init__" apos) (e::es) [] pos) X.env=(do
   let ov <-eval (.Name x p) X.env
   standAt apos.atName
   let (f,first) <-holding [ov] (getMethod ov "__init__" pl)
   callWith pos f first (backTo pos (starEach (e::es) X.env)) (backToKw pos (keywordEach [] X.env))):=by rfl) :
  PE X (.Call (.Attribute (.Name x p) "__init__" apos) (e::es) [] pos) (tBI C t):=by
 intro pins s σ H Q I h
 refine PySem.W.methodCall_KW (pl:=pl) (uU I hg hm ?_ hdb) ht
 refine PySem.W.method_cls I.Bt hb.1 (PySem.W.cls_value I.Bt hb.2.1 hb.2.2 hh ?_)
 refine PyProof.Rows.callWith_builtin1 (iu (ha pos pins _ σ H _ (I.tok (s.toks+1)) h) fun us s1 ⟨vs,H1,I1,r1,a,v,ev,ea,q⟩=>?_) he hpl
 subst ev
 cases r1 with
 |cons ra r1=>
  cases r1 with
  |cons rv r1=>
   cases r1
   obtain rfl:=ra
   obtain⟨t0,h0⟩:=Jz I1 ea
   have x1:=(Fb I1.Bt hx).1
   obtain⟨hh',g,d,tk,os⟩:=s1
   refine Y0 F x1 h0 (show 1<=sizeLine by decide +kernel) fun h' t1 k he _ _=>?_
   exact⟨.non,H1,Inv.Vi (tk:=tk) I1 ea k he,rfl,q⟩
end
def nU (H:Hp) (a:Addr):Hp:=fun b=>if b=a then none else H b
section
variable {X:Cx} {pins:List (Addr×Obj)} {σ:L2.St} {H:Hp} {s:Shared} {C a:Addr} {f:Str} {pos cpos p:Pos} {B newId initId:String} {bmB:List Value} {e:Expr} {x:Str} {te:TE}
theorem Inv.Vj {φ:Heap->Prop} (I:Inv X pins σ H s) (ea:H a=some (.ext φ)):Inv X [] σ (nU H a) s:=by
 have dn:∀ b,H b=none->nU H a b=none:=fun b q=>by unfold nU;split<;>first|rfl|exact q
 have ds:∀ b u,H b=some u->(∀ ψ,u≠.ext ψ)->nU H a b=some u:=fun b u q n=>by
  unfold nU
  rw[zw (fun z=>by subst z;rw[ea] at q;cases q;exact n _ rfl)]
  exact q
 refine⟨I.ok,I.os,I.bare,⟨I.base.keep,I.base.slot,fun b o e n x=>dn b (I.base.free b o e n x),I.base.there,fun b xs q=>ds b _ (I.base.tups b xs q) (fun _ z=>nomatch z),fun b o u q=>ds b _ (I.base.oR b o u q) (fun _ z=>nomatch z),fun b ps q=>?_⟩,
  I.loc,I.cell,dn _ I.free,fun y c q=>dn _ (I.jP y c q),fun p hp=>?_,fun b u q=>?_,I.len⟩
 ·obtain⟨more,z⟩:=I.base.qO b ps q
  exact⟨more,ds b _ z fun _ z=>nomatch z⟩
 ·obtain⟨z1,z2,z3⟩:=I.pin p (by rcases List.mem_append.mp hp with z|z;exact qo _ z;cases z)
  exact⟨z1,dn _ z2,z3⟩
 ·have hb:H b=some u:=by
   unfold nU at q
   split at q
   ·cases q
   ·exact q
  exact (I.hok b u hb).stay (fun _ _ _ z=>z) (fun c z=>ds c _ z fun _ z=>nomatch z) fun c xs z=>ds c _ z fun _ z=>nomatch z
def Zy (C:Addr) (f:Str) (ok:V->Prop):Sp:=fun vs H Q _=>∃ a v,vs=[.ref a,v]/\ok v/\H a=some (Dl a C none)/\∀ H1 dx,Same H H1->H1 dx=none->dx≠a->Q .non (upd (upd H1 dx (.xd [(f,v)])) a (Dl a C (some dx)))
def tRz (C:Addr) (f:Str) (ok:V->Prop) (E:XK) (t:TA):TS:=fun _ σ H=>t σ H fun vs H1=>∃ v,vs=[v]/\ok v/\∀ H2 dx,Same H1 H2->H2 dx=none->E (.ref C) (some dx) (upd H2 dx (.xd [(f,v)]))
theorem abf {k:Nat} {fI:Addr} {fd:FuncData} {ps:LS_} {E:XK} {es:List Expr} {t:TA} {ok:V->Prop} (Fe:ExcBaseFacts B newId initId bmB) (hx:Ng X.K C fI bmB newId=true) (hbase:bmB.contains (.type "BaseException")=true) (hk:PySem.W.keepIn X.K (.ref C)=true)
  (F:bF X.prog X.w X.K X.mg X.base jJ k fI fd ps (Zy C f ok)) (hb:Binds X.K fd ps []) (hr:iT (k+1) X.A) (hg:Gl X x) (hm:X.mg x=some (.ref C)) (Y4:∀ e s,RX X E e s->X.xe e s) (ha:PA X (e::es) t)
  (hdb:(x==("__debug__" : Str))=false:=by decide) (hs:starEach (e::es) X.env=(false,eval e X.env)::starEach es X.env:=by rfl) (hpl:(backTo cpos (starEach es X.env)).any (·.1)=false:=by rfl) :
  PS X (.Raise (some (.Call (.Name x p) (e::es) [] cpos)) none pos) (tRz C f ok E t):=by
 intro pins s σ H D I h
 rw[arm_exec_Raise]
 refine zb (QE (Vf (C:=C) (bmB:=bmB) (newId:=newId) hbase hr.hd (zb (ZH ?_ (fun v s3 h3=>zb (QE (ze h3))) fun _ _ x=>x))))
 refine JE (uU I hg hm ?_ hdb)
 refine PySem.W.callWith_K (h₀:=X.base) I.ok.mod.ZJ hk (iu (ha cpos pins s σ H _ I h) fun us s1 ⟨vs,H1,I1,r,v,ev,hok,q⟩=>⟨I1.Bt,?_⟩) hs hpl
 subst ev
 have hl:us.length=1:=r.length.symm
 have hf:H1 (s1.heap.objs.size+1)=none:=I1.hok.fresh (kB _)
 have mi:yu X H1 (s1.heap.objs.size+1):=yu.new (I1.uT (Oh:=[]) fun _ z=>nomatch z) (kB _)
 obtain⟨hh,g,d,tk,os⟩:=s1
 refine YZ Fe I1.Bt hx (by rw[kl,hl];decide +kernel) fun h' k' he=>?_
 have I2:Inv X pins σ (upd H1 (hh.objs.size+1) (Dl (hh.objs.size+1) C none)) ⟨h',g,d,tk,os⟩:=I1.laid (t':=tk) k' (kB _) (Jy he)
 have r2:Vals [V.ref (hh.objs.size+1),v] (Value.ref (hh.objs.size+1)::us):=.cons rfl r
 have hps:ps.length=2:=(F.len [V.ref (hh.objs.size+1),v] (upd H1 (hh.objs.size+1) (Dl (hh.objs.size+1) C none)) (fun _ _=>True) E0 ⟨_,_,rfl,hok,aU,fun _ _ _ _ _=>trivial⟩).symm
 rw[kl]
 refine kr (kq (F.run _ X.stack _ _ ⟨Value.ref (hh.objs.size+1)::us,[]⟩ (Value.ref (hh.objs.size+1)::us) _ (fun y H3=>y=.non/\∃ H4 dx,Same (upd H1 (hh.objs.size+1) (Dl (hh.objs.size+1) C none)) H4/\H4 dx=none/\dx≠hh.objs.size+1/\H3=upd (upd H4 dx (.xd [(f,v)])) (hh.objs.size+1) (Dl (hh.objs.size+1) C (some dx))) E0 (hr.make C us [])
  (I2.env0.make C us []) (by have:=hb ⟨h',g,d,tk,os⟩ (Value.ref (hh.objs.size+1)::us) I2.Bt (by rw[qB,QU,hl,hps]);rwa [qB] at this) r2
  ⟨_,_,rfl,hok,aU,fun H4 dx s4 hd hne=>⟨rfl,H4,dx,s4,hd,hne,rfl⟩⟩) fun r s' hq'=>?_)
 cases r with
 |error e=>exact False.elim hq'
 |ok fl=>
  cases fl with
  |next=>exact False.elim hq'
  |brk=>exact False.elim hq'
  |cont=>exact False.elim hq'
  |ret u=>
   obtain⟨y,H3,I3,ry,ey,H4,dx,s4,hd,hne,eH⟩:=I2.after hq'
   subst ey eH
   obtain rfl:u=Value.none:=ry
   refine⟨rfl,hh.objs.size+1,?_⟩
   have ea:(upd (upd H4 dx (.xd [(f,v)])) (hh.objs.size+1) (Dl (hh.objs.size+1) C (some dx))) (hh.objs.size+1)=some (Dl (hh.objs.size+1) C (some dx)):=aU
   obtain⟨t1,h1⟩:=Jz I3 ea
   have eH:nU (upd (upd H4 dx (.xd [(f,v)])) (hh.objs.size+1) (Dl (hh.objs.size+1) C (some dx))) (hh.objs.size+1)=upd (nU H4 (hh.objs.size+1)) dx (.xd [(f,v)]):=by
    funext b
    unfold nU
    by_cases hb:b=hh.objs.size+1
    ·rw[zi hb,hb,aJ (qq hne),zi rfl]
    ·rw[zw hb,aJ hb]
     by_cases hb':b=dx
     ·rw[hb',aU,aU]
     ·rw[aJ hb',aJ hb',zw hb]
   have J:=Inv.Vj I3 ea
   rw[eH] at J
   have sm:Same H1 (nU H4 (hh.objs.size+1)):=fun b o eb=>by
    have hb:b≠hh.objs.size+1:=fun z=>by rw[z,hf] at eb;cases eb
    unfold nU
    rw[zw hb]
    exact s4 b o (by rw[aJ hb];exact eb)
   have hd':nU H4 (hh.objs.size+1) dx=none:=by unfold nU;rw[zw hne];exact hd
   refine⟨t1,some dx,rfl,(Fb I3.Bt hx).1,h1,Y4 _ _ ⟨hh.objs.size+1,.ref C,some dx,σ,_,rfl,J,⟨by rw[aJ (qq hne)];unfold nU;rw[zi rfl],mi.ab,mi.nl,mi.nc⟩,.inl ⟨_,_,h1,rfl⟩,q _ _ sm hd'⟩⟩
end
theorem Hg {name x:Str} (hx:x≠name):∀ (l:List DictEntry) (i:Nat),l.findIdx? (fun e=>e.key.isStr name)=some i->(l.eraseIdx i).find? (fun e=>e.key.isStr x)=l.find? (fun e=>e.key.isStr x)
 |[],i,hi=>by simp at hi
 |e::l,i,hi=>by
  rw[List.findIdx?_cons] at hi
  by_cases he:e.key.isStr name=true
  ·simp only[he,QO,Option.some.injEq] at hi;subst hi
   have:e.key.isStr x=false:=by
    cases hh:e.key.isStr x
    ·rfl
    ·exact absurd (Value.isStr_inj _ _ _ hh he) hx
   rw[List.eraseIdx_zero,List.tail_cons,qA,this]
  ·have he':e.key.isStr name=false:=by simpa using he
   simp only[he',Zp,qc] at hi
   cases hj:l.findIdx? (fun e=>e.key.isStr name) with
   |none=>simp[hj] at hi
   |some j=>
    simp only[hj,Option.map_some,Option.some.injEq] at hi;subst hi
    rw[List.eraseIdx_cons_succ,qA,qA]
    cases e.key.isStr x with
    |false=>exact Hg hx l j hj
    |true=>rfl
section
variable {M:Model} {A:Around} {E:VP_} {s:Shared}
theorem Y5 {a:Addr} {m:Str->Option Value} {name:Str} {v:Value} {Q:Bool->Shared->Prop} (hn:s.heap.Ns a m) (hv:m name=some v)
  (hQ:∀ h' m',h'.Ns a m'->(∀ x,x≠name->m' x=m x)->Heap.SameBut a s.heap h'->Q true { s with heap:=h' }):wpAny M A (nsDel a name) Q E s:=by
 obtain⟨o,es,ep,ho,hd,hk,hm⟩:=id hn
 have hany:es.any (·.refKey)=false:=by
  rw[Array.any_eq_false'];intro e he;obtain⟨n,t,h⟩:=hk e he;simp[DictEntry.refKey,h]
 have hin:es.any (·.key.isStr name)=true:=by
  have h1:=(hm name).trans hv
  unfold nsFind findBy at h1
  obtain⟨en,h2,_⟩:=Option.map_eq_some_iff.mp h1
  rw[Array.any_eq_true']
  exact⟨en,Array.mem_of_find?_eq_some h2,by have:=Array.find?_some h2;exact this⟩
 have hhas:nsHas name o=pure true:=by
  rw[nsHas_eq];unfold nsHasByArray;rw[hd]
  show (if (es.any fun x=>x.key.isStr name)=true then _ else _)=_
  rw[zi hin]
 unfold nsDel
 refine zb (wpAny_loadPart ho ?_)
 rw[hhas]
 refine zb (ze ?_)
 rw[zi rfl]
 refine zb (wpAny_updatePart ho (ze ?_))
 obtain⟨cl,d,dt,sl⟩:=o
 subst hd
 cases hi:es.findIdx? (·.key.isStr name) with
 |none=>
  exfalso
  obtain⟨i,hi',hp⟩:=Array.any_eq_true.mp hin
  have:=Array.findIdx?_eq_none_iff.mp hi es[i] (Array.getElem_mem hi')
  rw[this] at hp;cases hp
 |some i=>
  refine hQ _ (nsFind (es.eraseIdxIfInBounds i)) ⟨_,_,ep+1,qi _ ho (by simp only[Obj.dropName_eq,Obj.dropNameByArray,hi]<;>rfl),(by simp only[Obj.dropName_eq,Obj.dropNameByArray,hi]<;>rfl),hk.erase i,fun _=>rfl⟩ (fun x hx=>?_) (Heap.SameBut.update ..)
  rw[<-hm x]
  unfold nsFind findBy
  rw[<-ku,<-ku,Array.toList_eraseIdxIfInBounds,Hg hx es.toList i (by rw[<-hi];obtain⟨l⟩:=es;simp)]
end
section
variable {X:Cx} {pins:List (Addr×Obj)} {σ:L2.St} {H:Hp} {s:Shared}
theorem Y6 {M:Model} {A:Around} {E:VP_} {i:Nat} {x:Str} {v:V} {Q:Unit->Shared->Prop} (I:Inv X pins σ H s) (hN:X.N.Nodup) (hi:X.N[i]?=some x) (hx:X.env.scope.names.lookup x=some .local) (hv:σ[i]?=some (some v))
  (h:∀ s',Inv X pins (σ.set i none) H s'->Q () s'):wpAny M A (deleteName X.env x) Q E s:=by
 obtain⟨m,hn,hl⟩:=id I.loc
 obtain⟨u,ru,lk⟩:=hl i x v hi hv (.inl hx)
 have hk:X.env.kindOf x=some .local:=hx
 have hm:m x=some u:=by
  rcases lk with⟨_,q⟩|⟨q,_⟩
  ·exact q
  ·rw[hk] at q;rcases q with q|q<;>cases q
 have go:∀ h' m',h'.Ns X.env.locals m'->(∀ y,y≠x->m' y=m y)->Heap.SameBut X.env.locals s.heap h'->Q () { s with heap:=h' }:=fun h' m' n' sm sb=>by
  refine h _ ?_
  have nl:∀ b o,X.s₀.heap.get? b=some o->b≠X.env.locals:=fun b o e=>ZE (Zl (zt e) I.ok.above)
  have tr:∀ b w,H b=some w->b≠X.env.locals:=fun b w q z=>by rw[z,I.free] at q;cases q
  refine⟨I.ok,I.os,I.bare,⟨fun b o e n f y=>(sb.2 b (nl b o e)).trans (I.base.keep b o e n f y),fun b o e n f y=>?_,I.base.free,fun b o e y=>?_,I.base.tups,I.base.oR,I.base.qO⟩,
   ⟨m',n',fun j y v' h1 h2 h3=>?_⟩,fun y c e=>?_,I.free,I.jP,fun p hp=>?_,fun b w q=>?_,by rw[qv];exact I.len⟩
  ·obtain⟨sl,q⟩:=I.base.slot b o e n f y
   exact⟨sl,(sb.2 b (nl b o e)).trans q⟩
  ·obtain⟨o',q⟩:=I.base.there b o e y
   exact⟨o',(sb.2 b (nl b o e)).trans q⟩
  ·have hj:j≠i:=fun z=>by
    subst z
    rw[JS] at h2
    split at h2
    ·split at h2<;>cases h2
    ·rename_i z;exact z rfl
   rw[kf (qq hj)] at h2
   obtain⟨u',r',lk'⟩:=hl j y v' h1 h2 h3
   refine⟨u',r',?_⟩
   rcases lk' with⟨k1,k2⟩|⟨k1,c,k2,k3⟩
   ·exact .inl ⟨k1,by rw[sm y (fun z=>hj (yU hN (z▸h1) hi))];exact k2⟩
   ·refine .inr ⟨k1,c,k2,?_⟩
    have:=I.SM y c k2
    unfold Heap.IsCell at k3 ⊢
    rw[sb.2 c this];exact k3
  ·obtain⟨v',q⟩:=I.cell y c e
   refine⟨v',?_⟩
   unfold Heap.IsCell at q ⊢
   rw[sb.2 c (I.SM y c e)];exact q
  ·obtain⟨q1,q2,q3,q4⟩:=I.pin p hp
   exact⟨(sb.2 _ q3).trans q1,q2,q3,q4⟩
  ·refine (I.hok b w q).stay (fun c u hc z=>(sb.2 c ?_).trans z) (fun _ z=>z) fun _ _ z=>z
   rcases hc with hc|hc
   ·rw[hc];exact tr b w q
   ·exact tr c _ hc
 unfold deleteName
 rw[hk]
 dsimp only
 rw[I.ok.kind,zw (by rw[show (ScopeKind.function==ScopeKind.class)=false from rfl,show (ScopeKind.function==ScopeKind.module)=false from rfl];simp)]
 refine zb (Y5 hn hm fun h' m' n' sm sb=>?_)
 exact ze (go h' m' n' sm sb)
end
section
variable {X:Cx} {pins:List (Addr×Obj)} {σ:L2.St} {H:Hp} {s:Shared} {E:XK}
theorem RX.jw {Ex:VP_} {e:Value} (h:RX (X.wish Ex) E e s):RX X E e s:=by
 obtain⟨a,C,dx,σ,H,r,I,m,x,q⟩:=h
 refine⟨a,C,dx,σ,H,r,I.jw,⟨m.un,m.ab,m.nl,m.nc⟩,?_,q⟩
 rcases x with x|⟨T,mT,x⟩
 ·exact .inl x
 ·exact .inr ⟨T,⟨mT.un,mT.ab,mT.nl,mT.nc⟩,x⟩
theorem wJ.mono {st:List Stmt} {t:TS} {E1:VP_} (h:wJ (X.wish E1) st t) (k:∀ e s,E1 e s->X.xe e s):wJ X st t:=fun pins s σ H D I hw=>
 ZH (h pins s σ H D (I.wish _) hw) (fun _ _ q=>q.jw) k
theorem PA.Ia {es:List Expr} {t:TA} (h:PA X.Ia es t):PA X es t:=fun pos pins s σ H Q I hw=>
 ZH (h pos pins s σ H Q (I.wish _) hw) (fun _ _ ⟨v,H',I',r,q⟩=>⟨v,H',I'.jw,r,q⟩) fun _ _ z=>False.elim z
end
theorem oW.WD {P:Program} {w:World} {K:FG_} {mg:Str->Option Value} {base:Heap} {x qual:Str} {st:Stmt} {f:Addr} {fd:FuncData} {N ps:LS_} {k:Nat} {sp:Sp} (F:oW K x qual st f fd) (S:bH N ps (aM st)) (len:∀ vs H Q E,sp vs H Q E->vs.length=ps.length)
  (hbody:∀ (cdv:Value) (A:Around) (outer:List Env) (s:Shared) (H:Hp) (vs:List V) (Q:VK) (E:XK),iT k (A.deeper (envOfC qual (aM st) s.heap.objs.size f cdv))->sp vs H Q E →
   ∃ t,wJ ((uD (Nb P w) P w K mg base N qual (aM st) f cdv A outer s H E).wish (RX (uD (Nb P w) P w K mg base N qual (aM st) f cdv A outer s H E) E)) (iz st) t/\t { nx:=fun _ H'=>Q .non H',rt:=Q } (start N vs) H):bF P w K mg base (Nb P w) (k+1) f fd ps sp:=by
 obtain⟨oc,od,kV,doc,pm,an,cdv,ct,osl,rfl,lk,hcd⟩:=F.ex
 refine V2 lk hcd S len fun A outer s H vs Q E hr hsp=>?_
 obtain⟨t,h,q⟩:=hbody cdv A outer s H vs Q E hr hsp
 exact⟨t,wJ.mono h fun e s' hx=>Ra rfl rfl rfl rfl hx,q⟩
theorem bF.or {P:Program} {w:World} {K:FG_} {mg:Str->Option Value} {base:Heap} {CX:Ib} {k:Nat} {f:Addr} {fd:FuncData} {ps:LS_} {sp sp':Sp} (F:bF P w K mg base jJ k f fd ps sp) (G:bF P w K mg base CX k f fd ps sp') :
  bF P w K mg base CX k f fd ps (fun vs H Q E=>sp vs H Q E\/sp' vs H Q E):=
 ⟨fun vs H Q E h=>h.elim (F.len vs H Q E) (G.len vs H Q E),fun A outer s H args us vs Q E hr he hb hv hs=>by
  rcases hs with hs|hs
  ·refine kq (F.run A outer s H args us vs Q E hr he hb hv hs) fun r s' q=>?_
   cases r with
   |error e=>exact False.elim q
   |ok fl=>cases fl<;>exact q
  ·exact G.run A outer s H args us vs Q E hr he hb hv hs⟩
def Rf (a C dx:Addr):HO:=.ext fun h=>∃ vs sl,h.get? a=some ⟨.ref C,some dx,.fields vs,sl⟩
theorem Y7 {P:Program} {w:World} {H:Hp} {h:Heap} {a C dx:Addr} {vs:Array Value} {sl:Array (Option Value)} (q:h.get? a=some ⟨.ref C,some dx,.fields vs,sl⟩):fj P w H h a (Rf a C dx):=
 ⟨⟨vs,sl,q⟩,⟨_,q⟩,fun _ _ ⟨vs,sl,p⟩ k=>⟨vs,sl,k _ p⟩⟩
theorem Vk {P:Program} {w:World} {H:Hp} {h h':Heap} {S ch:List Addr} (ok:qW P w H h) (c:Ez S ch h h') (hc:∀ b∈ch,H b=none) (hS:∀ b∈S,H b=none):qW P w H h':=fun b u e=>by
 have ne:∀ (d:Addr) (w:HO),H d=some w->d∉ch/\d∉S:=fun d w q=>⟨fun z=>(by rw[hc d z] at q;cases q),fun z=>(by rw[hS d z] at q;cases q)⟩
 refine (ok b u e).stay (fun d v hd q=>?_) (fun _ q=>q) fun _ _ q=>q
 rcases hd with z|z
 ·subst z;exact c.keep _ _ q (ne _ _ e).1 (ne _ _ e).2
 ·exact c.keep _ _ q (ne _ _ z).1 (ne _ _ z).2
theorem Vl {P:Program} {w:World} {H:Hp} {h:Heap} {a:Addr} {o:HO} (ok:qW P w H h) (na:H a=none) (new:fj P w (upd H a o) h a o):qW P w (upd H a o) h:=fun b u e=>by
 by_cases hb:b=a
 ·subst hb;rw[aU] at e;cases e;exact new
 ·rw[aJ hb] at e
  exact (ok b u e).stay (fun _ _ _ q=>q) (fun c q=>by rw[aJ (aW q na)];exact q) fun c xs q=>by rw[aJ (aW q na)];exact q
theorem Y8 {fs:List Addr} {H H':Hp} {h h':Heap} {a:Addr} {o:HO} (u:Un fs [] H H' h h') (na:H' a=none) (ha:h.get? a=none):Un fs [] H (upd H' a o) h h':=
 ⟨u.keep,u.slot,fun b ob e n x=>by rw[aJ (fun z=>by rw[z,ha] at e;cases e)];exact u.free b ob e n x,u.there,fun b xs q=>by rw[aJ (aW (u.tups b xs q) na)];exact u.tups b xs q,
  fun b ob xs q=>by rw[aJ (aW (u.oR b ob xs q) na)];exact u.oR b ob xs q,fun b ps q=>by
   obtain⟨m,z⟩:=u.qO b ps q
   exact⟨m,by rw[aJ (aW z na)];exact z⟩⟩
abbrev Cx.inX (X:Cx) (a:Addr):Cx:={ X with A:=X.A.mark (some (.ref a)),calm:=false,xe:=fun _ _=>False }
section
variable {X:Cx} {pins:List (Addr×Obj)} {σ:L2.St} {H:Hp} {s:Shared} {a:Addr}
theorem Inv.inX (I:Inv X pins σ H s):Inv (Cx.inX X a) pins σ H s:=
 ⟨⟨I.ok.mod,I.ok.kind,I.ok.glob,I.ok.blt,I.ok.above,I.ok.inj,I.ok.has,I.ok.cab,fun z=>(by cases z),I.ok.frames,I.ok.stk,I.ok.exf,I.ok.bs,I.ok.N8,I.ok.Le,I.ok.Og,I.ok.uf,I.ok.SJ⟩,I.os,I.bare,I.base,I.loc,I.cell,I.free,I.jP,I.pin,I.hok,I.len⟩
theorem Inv.adw (ok:X.Ok) (I:Inv (Cx.inX X a) pins σ H s):Inv X pins σ H s:=⟨ok,I.os,I.bare,I.base,I.loc,I.cell,I.free,I.jP,I.pin,I.hok,I.len⟩
def XT (X:Cx) (C:Addr) (iv:Nat) (ts:TS) (D:Ends) (σ:L2.St):XK:=fun Cv dx H2=>Cv=.ref C/\∃ d,dx=some d/\∀ a,H2 a=none →
 ts { nx:=fun σ' H'=>D.nx (σ'.set iv none) H',rt:=D.rt } (σ.set iv (some (.ref a))) (upd H2 a (Rf a C d))
theorem JB {C Cn:Addr} {iv:Nat} {n cn:Str} {np hp:Pos} {b0:Stmt} {suite:List Stmt} {ts:TS} {D:Ends} {H1:Hp} {s1 s':Shared} {e:Value} (hst:X.stack=X.env::X.outer) (hf:X.env.frame=some X.env.locals) (hN:X.N.Nodup)
  (hi:X.N[iv]?=some n) (hl:X.env.scope.names.lookup n=some .local) (hg:Gl X cn) (hm:X.mg cn=some (.ref Cn)) (hx:PySem.W.exmOne X.K (.ref C) (.ref Cn)=some true) (hs:∀ a,wJ (Cx.inX X a) (b0::suite) ts)
  (I1:Inv X pins σ H1 s1) (hq:Nb X.prog X.w X.stack H1 s1 (XT X C iv ts D σ) e s') (hdb:(cn==("__debug__" : Str))=false:=by decide) :
  wpAny (model X.prog X.w) X.A (noteFrame e X.env) (fun _ s2=>wpAny (model X.prog X.w) X.A (setFlight e none) (fun _ s3=>wpAny (model X.prog X.w) X.A (handleBy e X.env [.ExceptHandler (some (.Name cn np)) (some n) (b0::suite) hp]) (SP X pins D) X.xe s3) X.xe s2) X.xe s':=by
 obtain⟨a,Cv,dx,H2,T,rfl,os,bare,un,hok,ha,hT,na,nT,ex,rfl,d,rfl,hE⟩:=hq
 have J0:Inv X pins σ H2 s':=I1.call' (ch:=[]) os un hok bare fun _ z=>nomatch z
 have fr:=J0.stack
 rw[hst] at fr
 have old:∀ b,s'.heap.objs.size<=b->s1.heap.get? b=none:=fun b z=>by
  cases q:s1.heap.get? b with
  |none=>rfl
  |some o=>
   obtain⟨o',q'⟩:=un.there b o q (fun z=>nomatch z)
   exact absurd (zt q') (Nat.not_lt.mpr z)
 have oa:s1.heap.get? a=none:=Heap.get?_none_of_le ha
 have mk:∀ (h:Heap) (ch:List Addr) (tk:Nat),Ez (frs X.stack) ch s'.heap h->(∀ b∈ch,s1.heap.get? b=none/\H2 b=none)->(∃ vs sl,h.get? a=some ⟨.ref C,some d,.fields vs,sl⟩)->Inv X pins σ (upd H2 a (Rf a C d)) { s' with heap:=h,toks:=tk }:=fun h ch tk c hc he=>by
  obtain⟨vs,sl,he⟩:=he
  refine I1.call' (ch:=[]) (s':={ s' with heap:=h,toks:=tk }) os (Y8 (YX un c fun b z=>(hc b z).1) na oa) ?_ bare fun _ z=>nomatch z
  exact Vl (Vk hok c (fun b z=>(hc b z).2) J0.yH) na (Y7 he)
 refine Vd (base:=X.base) (hst▸I1.ok.frames) fr hf ex fun h4 T' z c4 x4=>?_
 rw[<-hst] at c4
 refine qm (s:={ s' with heap:=h4 }) none x4 fun h5 c5 x5=>?_
 have nT':H2 T'=none:=hok.fresh z
 have c45:=c4.trans (c5.mono (S':=frs X.stack) (c2:=[T']) (fun _ z=>z) fun _ z=>nomatch z)
 have cc:∀ b∈[T,a]++[T'],s1.heap.get? b=none/\H2 b=none:=fun b hb=>by
  simp only[List.mem_append,j3,jS,or_false] at hb
  rcases hb with (rfl|rfl)|rfl
  ·exact⟨Heap.get?_none_of_le hT,nT⟩
  ·exact⟨oa,na⟩
  ·exact⟨old _ z,nT'⟩
 have at5:∃ vs sl,h5.get? a=some ⟨.ref C,some d,.fields vs,sl⟩:=by
  obtain⟨vs,sl,_,_,q,_⟩:=x5
  exact⟨vs,sl,q⟩
 have I5:=mk h5 _ s'.toks c45 cc at5
 have LT:PySem.W.Looks (model X.prog X.w) h5 (typeOf (.ref a)) (.ref C):=by
  obtain⟨vs,sl,q⟩:=at5
  exact (PySem.W.Looks.ld q).andThen .now
 refine wpAny_handleBy_cons (codeAny_handlers_test (uU (X:=Cx.inX X a) (Inv.inX I5) hg hm ?_ hdb)) (by intro q;cases q)
 refine (PySem.W.exm_one I5.Bt LT hx).at ?_
 show codeAny _ _ _ _ _
 refine codeAny_handlers_suite_as ?_
 refine qm (s:={ s' with heap:=h5 }) none x5 fun h6 c6 x6=>?_
 have I6:=mk h6 _ s'.toks (c45.trans (c6.mono (S':=frs X.stack) (c2:=[T']) (fun _ z=>z) fun _ z=>nomatch z)) (fun b hb=>by
  rcases List.mem_append.mp hb with hb|hb
  ·exact cc b hb
  ·exact cc b (zI _ hb)) (by obtain⟨vs,sl,_,_,q,_⟩:=x6;exact⟨vs,sl,q⟩)
 refine qX (X:=X) (v:=.ref a) I6 hN hi (.inl hl) rfl (fun s7 I7=>?_) (.inr hl)
 refine ZH (hs a pins s7 _ _ _ (Inv.inX I7) (hE a na)) (fun fl s8 h8=>?_) fun _ _ z=>False.elim z
 show wpAny _ _ _ _ _ _
 have fin:∀ {σ':L2.St} {H':Hp},Inv (Cx.inX X a) pins σ' H' s8->(∀ s9,Inv X pins (σ'.set iv none) H' s9->SP X pins D fl s9) →
   wpAny (model X.prog X.w) X.A (do bindName X.env n .none;unbindBehindTheSuite X.env n hp) (fun _ s5=>SP X pins D fl s5) X.xe s8:=fun {σ' H'} J k=>by
  have J':=Inv.adw I7.ok J
  have hlt:iv < σ'.length:=by rw[J'.len];exact (List.getElem?_eq_some_iff.mp hi).1
  refine zb (wpAny_bindName (qX (v:=.non) J' hN hi (.inl hl) rfl (fun s9 I9=>?_) (.inr hl)))
  unfold unbindBehindTheSuite unbindName
  refine wpAny_onRaise (zb (wpAny_point (zb (Y6 (v:=.non) I9 hN hi hl (by rw[List.getElem?_set_self hlt]) fun s10 I10=>wpAny_point (k s10 ?_)))))
  rwa [List.set_set] at I10
 cases fl with
 |next=>
  obtain⟨σ',H',J,q⟩:=h8
  exact fin J fun s9 I9=>⟨_,H',I9,q⟩
 |ret u=>
  obtain⟨v,σ',H',J,rv,q⟩:=h8
  exact fin J fun s9 I9=>⟨v,_,H',I9,rv,q⟩
 |brk=>
  obtain⟨_,_,_,q⟩:=h8
  exact False.elim q
 |cont=>
  obtain⟨_,_,_,q⟩:=h8
  exact False.elim q
end
section
variable {X:Cx} {C Cn f:Addr} {iv iy k:Nat} {n cn x y:Str} {np hp p py pa cpos pos:Pos} {b0:Stmt} {suite:List Stmt} {ts:TS} {tf:TE} {t:TA} {sp:Sp} {fd:FuncData} {ps:LS_} {e:Expr} {es:List Expr}
def adx (X:Cx) (C f:Addr) (iv iy:Nat) (ts:TS) (tf:TE) (t:TA) (sp:Sp):TS:=fun D σ H=>tf σ H fun v H0=>v=.ref f/\t σ H0 fun vs H1=>sp vs H1 (fun v H2=>D.nx (σ.set iy (some v)) H2) (XT X C iv ts D σ)
theorem Y9 (hst:X.stack=X.env::X.outer) (hfr:X.env.frame=some X.env.locals) (hN:X.N.Nodup) (hi:X.N[iv]?=some n) (hl:X.env.scope.names.lookup n=some .local) (hiy:X.N[iy]?=some y) (hly:X.env.scope.names.lookup y=some .local)
  (hg:Gl X cn) (hm:X.mg cn=some (.ref Cn)) (hx:PySem.W.exmOne X.K (.ref C) (.ref Cn)=some true) (hs:∀ a,wJ (Cx.inX X a) (b0::suite) ts)
  (hfe:PE X.Ia (.Name x p) tf) (F:bF X.prog X.w X.K X.mg X.base (Nb X.prog X.w) k f fd ps sp) (hr:iT k X.A) (hk:PySem.W.keepIn X.K (.ref f)=true) (hb:Binds X.K fd ps []) (ha:PA X.Ia (e::es) t)
  (hdb:(cn==("__debug__" : Str))=false:=by decide) (hst':starEach (e::es) X.env=(false,eval e X.env)::starEach es X.env:=by rfl) (hpl:(backTo cpos (starEach es X.env)).any (·.1)=false:=by rfl)
  (hsw:swapsWith (.Call (.Name x p) (e::es) [] cpos) (some (.Name y py)) pa.line X.env=pure false:=by rfl) :
  PS X (.Try [.Assign [.Name y py] (.Call (.Name x p) (e::es) [] cpos) pa] [.ExceptHandler (some (.Name cn np)) (some n) (b0::suite) hp] [] [] pos) (adx X C f iv iy ts tf t sp):=by
 intro pins s σ H D I h
 refine wpAny_Try_except (kK (wpAny_Assign_Name (JE ?_) hsw))
 refine ZH (hfe pins s σ H _ (I.wish _) h) (fun u s0 ⟨v,H0,I0,r0,ev,q0⟩=>?_) (fun _ _ z=>False.elim z)
 subst ev
 obtain rfl:u=Value.ref f:=r0
 refine PySem.W.callWith_K (h₀:=X.base) I.ok.mod.ZJ hk (ZH (ha cpos pins s0 σ H0 _ I0 q0) (fun us s1 ⟨vs,H1,I1,r,q⟩=>⟨I1.Bt,?_⟩) (fun _ _ z=>False.elim z)) hst' hpl
 have I1':=I1.jw
 have hl2:us.length=ps.length:=by rw[<-r.length];exact F.len _ _ _ _ q
 rw[kl]
 refine kr (kq (F.run X.A X.stack s1 H1 ⟨us,[]⟩ us vs _ _ hr I1'.env0 (by have:=hb s1 us I1'.Bt (by rw[qB];exact hl2);rwa [qB] at this) r q) fun r s' hq=>?_)
 cases r with
 |error e=>exact JB hst hfr hN hi hl hg hm hx hs I1' hq hdb
 |ok fl=>
  cases fl with
  |next=>exact False.elim hq
  |brk=>exact False.elim hq
  |cont=>exact False.elim hq
  |ret u=>
   obtain⟨v,H2,I2,rv,q2⟩:=I1'.after hq
   exact qX I2 hN hiy (.inl hly) rv (fun s3 I3=>ki (ki ⟨_,H2,I3,q2⟩)) (.inr hly)
end
section
variable {X:Cx} {pins:List (Addr×Obj)} {σ:L2.St} {H:Hp} {s:Shared} {C a d:Addr} {fs:List (Str×V)} {f:Str} {o:Expr} {ta:TE} {pos:Pos}
theorem Rh (I:Inv X pins σ H s) (ea:H a=some (Rf a C d)) (ed:H d=some (.xd fs)):∃ vs sl m,s.heap.get? a=some ⟨.ref C,some d,.fields vs,sl⟩/\s.heap.Ns1 d m/\∀ f,wI (fs.lookup f) (m f):=by
 obtain⟨vs,sl,q⟩:=(I.hok a _ ea).1
 obtain⟨m,n1,r⟩:=I.hok d _ ed
 exact⟨vs,sl,m,q,n1,r⟩
def ady (K:FG_) (H:Hp) (C:Addr) (c:V) (b:Bool):Prop:=
 (∃ D,c=.ref D/\PySem.W.kitOne K (.ref C) (.ref D)=some b)\/(∃ T,c=.ty T/\PySem.W.kitOne K (.ref C) (.type T)=some b) ∨
  ∃ (tp:Addr) (cs:List Addr),c=.ref tp/\H tp=some (.tup (cs.map V.ref))/\PySem.W.kitAny K (.ref C) (cs.map Value.ref)=some b
theorem Dm:∀ {cs:List Addr} {us:List Value},Vals (cs.map V.ref) us->us=cs.map Value.ref
 |[],_,h=>by cases h;rfl
 |c::cs,_,h=>by
  cases h with
  |cons r t=>rw[Dm t];obtain rfl:=r;rfl
theorem zX {Cs:List Addr} (hC:∀ C,C∈Cs->rO X.K C=true):jz X (.builtin "isinstance") (fun vs H Q=>∃ a C d fs c b,C∈Cs/\vs=[.ref a,c]/\H a=some (Rf a C d)/\H d=some (.xd fs)/\ady X.K H C c b/\Q (.bl b) H):=by
 intro pins s σ H vs us Q I r h
 obtain⟨a,C,d,fs,c,b,hm,rfl,ea,ed,hb,q⟩:=h
 cases r with
 |cons ra r=>
  cases r with
  |cons rc r=>
   cases r
   obtain rfl:=ra
   obtain⟨vs,sl,m,h1,⟨od,_,_,h2,_⟩,_⟩:=Rh I ea ed
   have Z:=abd (e:=a) (hC C hm)
   have p:ExI a C s.heap:=⟨d,vs,sl,od,h1,h2⟩
   rcases hb with⟨D,rfl,hb⟩|⟨T,rfl,hb⟩|⟨tp,cs,rfl,ht,hb⟩
   ·obtain rfl:=rc
    exact PySem.W.kia_one Z I.Bt p hb (fun z=>nomatch z) fun tk=>⟨.bl b,H,I.tok tk,rfl,q⟩
   ·obtain rfl:=rc
    exact PySem.W.kia_one Z I.Bt p hb (fun z=>nomatch z) fun tk=>⟨.bl b,H,I.tok tk,rfl,q⟩
   ·obtain rfl:=rc
    obtain⟨_,its,hv,o,ho,hc,⟨nn,hd⟩,hdd⟩:=I.hok tp _ ht
    obtain⟨oc,od',odt,osl⟩:=o
    dsimp only at hc hd hdd
    subst hc hd hdd
    rw[Dm hv] at ho
    exact PySem.W.kia_tup Z I.Bt p ho hb (fun z=>nomatch z) fun tk=>⟨.bl b,H,I.tok tk,rfl,q⟩
def adz (Cs:List Addr) (ta:TE) (f:Str):TE:=fun σ H Q=>ta σ H fun x H1=>∃ a C d v,C∈Cs/\x=.ref a/\H1 a=some (Rf a C d)/\H1 d=some (.xd [(f,v)])/\Q v H1
theorem JC {v:V} {u:Value} (r:RelV v u):PySem.W.handedIn u=true:=by
 cases v with
 |non=>obtain rfl:=r;rfl
 |bl b=>obtain rfl:=r;rfl
 |int i=>obtain⟨t,rfl⟩:=r;rfl
 |str x=>obtain⟨t,rfl⟩:=r;rfl
 |W0 b=>obtain⟨t,rfl⟩:=r;rfl
 |flt b=>obtain⟨t,rfl⟩:=r;rfl
 |ref a=>obtain rfl:=r;rfl
 |ty n=>obtain rfl:=r;rfl
theorem Za {Cs:List Addr} (hC:∀ C,C∈Cs->rO X.K C=true/\PySem.W.findIn X.K (.ref C) f=some none) (ha:PE X o ta) (hb:attributeBase o f X.env (eval o X.env)=eval o X.env):PE X (.Attribute o f pos) (adz Cs ta f):=by
 intro pins s σ H Q I h
 refine S8 hb (iu (ha pins s σ H _ I h) fun u s1 ⟨x,H1,I1,rx,a,C,d,v,hm,ex,ea,ed,q⟩=>?_)
 subst ex
 obtain rfl:u=Value.ref a:=rx
 obtain⟨vs,sl,m,h1,h2,h3⟩:=Rh I1 ea ed
 have r:=h3 f
 simp only[List.lookup,beq_self_eq_true] at r
 cases em:m f with
 |none=>rw[em] at r;exact False.elim r
 |some u=>
  rw[em] at r
  obtain⟨hh,g,dr,tk,os⟩:=s1
  exact abb I1.Bt (hC C hm).1 (hC C hm).2 h1 h2 em (JC r) ⟨v,H1,I1.tok _,r,q⟩
end
def XW (K:FG_) (C:Addr) (f:Str) (E:XK) (H0:Hp) (d:Dt):Prop:=∀ dx v H',Same H0 H'->H' dx=some (.xd [(f,v)])->Rep K H' d v->E (.ref C) (some dx) H'
theorem XW.rebase {K:FG_} {C:Addr} {f:Str} {E:XK} {H0 Hs:Hp} {d:Dt} (s:Same H0 Hs) (h:XW K C f E H0 d):XW K C f E Hs d:=fun dx v H' s' e r=>h dx v H' (s.trans s') e r
def tX (K:FG_) (C:Addr) (f:Str) (E:XK) (gx:Ev->Option Dt):TS:=fun _ σ H=>∃ H0 ρ d,bw K H0 H σ ρ/\gx ρ=some d/\XW K C f E H0 d
structure QX1 (X:Cx) (C:Addr) (f:Str) (E:XK) (st:Stmt) (gx:Ev->Option Dt):Prop where
 run:PS X st (tX X.K C f E gx)
structure Zb (X:Cx) (C:Addr) (f:Str) (E:XK) (st:List Stmt) (gx:Ev->Option Dt):Prop where
 run:wJ X st (tX X.K C f E gx)
def zD:Bx->Option Dt
 |.z d=>some d
 |_=>none
section
variable {X:Cx} {C:Addr} {f x:Str} {E:XK} {e c tg iter:Expr} {fe:Ev->Option Bx} {gx gy:Ev->Option Dt} {g:Ev->Option Out} {pos cpos p:Pos} {st:Stmt} {rest body a b:List Stmt} {B newId initId:String} {bmB:List Value} {pc:Ev->Option Bool}
def rzX (WD:Dt->Bool) (fe:Ev->Option Bx):Ev->Option Dt:=fun ρ=>(fe ρ).bind fun b=>(zD b).bind fun d=>if WD d=true then some d else none
theorem Hh {WD:Dt->Bool} {k:Nat} {fI:Addr} {fd:FuncData} {ps:LS_} {ok:V->Prop} (Fe:ExcBaseFacts B newId initId bmB) (hx:Ng X.K C fI bmB newId=true) (hbase:bmB.contains (.type "BaseException")=true) (hk:PySem.W.keepIn X.K (.ref C)=true)
  (F:bF X.prog X.w X.K X.mg X.base jJ k fI fd ps (Zy C f ok)) (hb:Binds X.K fd ps []) (hr:iT (k+1) X.A) (hg:Gl X x) (hm:X.mg x=some (.ref C)) (Y4:∀ e s,RX X E e s->X.xe e s) (he:QV X e fe) (hok:∀ d v K H,WD d=true->Rep K H d v->ok v)
  (hdb:(x==("__debug__" : Str))=false:=by decide) (hs:starEach [e] X.env=(false,eval e X.env)::starEach [] X.env:=by rfl) (hpl:(backTo cpos (starEach [] X.env)).any (·.1)=false:=by rfl) :
  QX1 X C f E (.Raise (some (.Call (.Name x p) [e] [] cpos)) none pos) (rzX WD fe):=⟨Sh (abf Fe hx hbase hk F hb hr hg hm Y4 (bK he.run lg hs) hdb hs hpl) fun D σ H h=>by
 obtain⟨H0,ρ,d,Ev,ed,w⟩:=h
 obtain⟨b,eb,ed⟩:=bind_some ed
 obtain⟨d',ez,ed⟩:=bind_some ed
 split at ed
 ·rename_i ho
  cases ed
  cases b with
  |z d'=>
   cases ez
   refine⟨H0,ρ,_,Ev,eb,fun v H1 s1 _ r1=>⟨v,rfl,hok _ _ _ _ ho r1,fun H2 dx s2 hd=>?_⟩⟩
   have sd:Same H2 (upd H2 dx (.xd [(f,v)])):=bJ hd
   exact w dx v _ ((Ev.base.trans s1).trans (s2.trans sd)) aU (Rep.kp (Kp.of (s2.trans sd)) r1)
  |l _=>cases ez
  |o _=>cases ez
  |n _=>cases ez
  |m _ _=>cases ez
 ·cases ed⟩
theorem zY (h:QX1 X C f E st gx):Zb X C f E (st::rest) gx:=⟨fun pins s σ H D I hw=>kK (ZH (h.run pins s σ H { nx:=fun _ _=>False,rt:=D.rt,bk:=D.bk,ct:=D.ct } I hw) (fun fl s1 q=>by
 cases fl with
 |next=>obtain⟨_,_,_,z⟩:=q;exact False.elim z
 |ret v=>exact q
 |brk=>exact q
 |cont=>exact q) fun _ _ z=>z)⟩
def ifX (pc:Ev->Option Bool) (gx gy:Ev->Option Dt):Ev->Option Dt:=fun ρ=>(pc ρ).bind fun k=>if k=true then gx ρ else gy ρ
theorem Ri {sts:List Stmt}:Zb X C f E sts (fun _=>none):=⟨fun pins s σ H D I hw=>by
 obtain⟨H0,ρ,d,Ev,ed,w⟩:=hw
 cases ed⟩
theorem abh (hc:QB X c pc) (ha:Zb X C f E a gx) (hb:Zb X C f E b gy):QX1 X C f E (.If c a b pos) (ifX pc gx gy):=⟨Sh (FZ hc.run ha.run hb.run) fun D σ H h=>by
 obtain⟨H0,ρ,d,Ev,ed,w⟩:=h
 obtain⟨k,ek,ed⟩:=bind_some ed
 refine⟨H0,ρ,k,Ev,ek,fun H1 s1=>?_⟩
 cases k with
 |true=>rw[zi rfl] at ed ⊢;exact⟨H0,ρ,d,Ev.grow s1,ed,w⟩
 |false=>rw[zw zr] at ed ⊢;exact⟨H0,ρ,d,Ev.grow s1,ed,w⟩⟩
end
def spX (K:FG_) (n:Nat) (Fx:List Bx->Option Dt) (C:Addr) (f:Str):Sp:=fun vs H _ E=>vs.length=n/\∃ bs d,qF K H bs vs/\bs.all (fun b=>!isO b)=true/\Fx bs=some d/\XW K C f E H d
def yd (n:Nat) (gx:Ev->Option Dt):List Bx->Option Dt:=fun bs=>gx (bs.map some++List.replicate (n - bs.length) none)
section
variable {P:Program} {w:World} {K:FG_} {mg:Str->Option Value} {base:Heap}
abbrev cxR (P:Program) (w:World) (K:FG_) (mg:Str->Option Value) (base:Heap) (N:LS_) (qual:Str) (scope:Scope) (f:Addr) (cd:Value) (A:Around) (outer:List Env) (s:Shared) (H:Hp) (E:XK):Cx:=
 (uD (Nb P w) P w K mg base N qual scope f cd A outer s H E).wish (RX (uD (Nb P w) P w K mg base N qual scope f cd A outer s H E) E)
theorem WK {x qual:Str} {st:Stmt} {f C:Addr} {a:Str} {fd:FuncData} {N ps:LS_} {k n m:Nat} {gx:Ev->Option Dt} (F:oW K x qual st f fd) (S:bH N ps (aM st)) (hn:N.length=n) (hm:ps.length=m)
  (hbody:∀ (cdv:Value) (A:Around) (outer:List Env) (s:Shared) (H:Hp) (E:XK),iT k (A.deeper (envOfC qual (aM st) s.heap.objs.size f cdv)) →
   (∀ e s',RX (cxR P w K mg base N qual (aM st) f cdv A outer s H E) E e s'->(cxR P w K mg base N qual (aM st) f cdv A outer s H E).xe e s') →
   PassesOwn (model P w) (A.deeper (envOfC qual (aM st) s.heap.objs.size f cdv)) (envOfC qual (aM st) s.heap.objs.size f cdv) (cxR P w K mg base N qual (aM st) f cdv A outer s H E).xe →
   Zb (cxR P w K mg base N qual (aM st) f cdv A outer s H E) C a E (iz st) gx):bF P w K mg base (Nb P w) (k+1) f fd ps (spX K m (yd n gx) C a):=
 oW.WD F S (fun vs H Q E h=>h.1.trans hm.symm) fun cdv A outer s H vs Q E hr hsp=>by
  obtain⟨_,bs,d,r,ho,e,w⟩:=hsp
  subst hn
  exact⟨_,(hbody cdv A outer s H E hr (fun e s' h=>h.jw) (Nf (X:=uD (Nb P _) P _ K mg base N qual (aM st) f cdv A outer s H E) rfl rfl rfl)).run,H,_,d,bw.start r ho,e,w⟩
theorem Vm {x qual sn vn fe a:Str} {st:Stmt} {f C FE:Addr} {fd:FuncData} {k:Nat} {arg:Expr} {fa:Ev->Option Bx} {ok:V->Prop} {ρ0:V->Ev} {p1 p2 p3 p4 p5 p6 p7 p8 p9:Pos} {B newId initId:String} {bmB:List Value}
  (F:oW K x qual st f fd) (S:bH [sn,vn] [sn,vn] (aM st)) (Fe:ExcBaseFacts B newId initId bmB) (hx:Ng K C f bmB newId=true) (Ni:setIn K C a=true) (hm:mg fe=some (.ref FE)) (hb:KJ K FE initId) (hh:PySem.W.handedIn (.builtin initId)=true)
  (hbd:iz st=[.Expr (.Call (.Attribute (.Name fe p1) "__init__" p2) [.Name sn p3,arg] [] p4) p5,.Assign [.Attribute (.Name sn p6) a p7] (.Name vn p8) p9])
  (hρ:∀ v,ok v->∃ b,fa (ρ0 v)=some b/\∀ H e,bw K H H [some (.ref e),some v] (ρ0 v))
  (hbody:∀ (cdv:Value) (A:Around) (outer:List Env) (s:Shared) (H:Hp) (E:XK) (X:Cx),X=(uD jJ P w K mg base [sn,vn] qual (aM st) f cdv A outer s H E).Ia->iT k X.A →
   Gl X fe/\QV X arg fa/\PE X (.Name sn p3) (Oi 0)/\PE X (.Name sn p6) (Oi 0)/\PE X (.Name vn p8) (Oi 1)/\(fe==("__debug__" : Str))=false/\starEach [.Name sn p3,arg] X.env=(false,eval (.Name sn p3) X.env)::starEach [arg] X.env/\starEach [arg] X.env=(false,eval arg X.env)::starEach [] X.env ∧
   (backTo p4 (starEach [arg] X.env)).any (·.1)=false/\swapsWith (.Call (.Attribute (.Name fe p1) "__init__" p2) [.Name sn p3,arg] [] p4) none p5.line X.env=pure false/\swapsWith (.Name vn p8) (some (.Attribute (.Name sn p6) a p7)) p9.line X.env=pure false ∧
   ∃ pl:Sem Bool,eval (.Call (.Attribute (.Name fe p1) "__init__" p2) [.Name sn p3,arg] [] p4) X.env=(do
    let ov <-eval (.Name fe p1) X.env
    standAt p2.atName
    let (f,first) <-holding [ov] (getMethod ov "__init__" pl)
    callWith p4 f first (backTo p4 (starEach [.Name sn p3,arg] X.env)) (backToKw p4 (keywordEach [] X.env)))) :
  bF P w K mg base jJ (k+1) f fd [sn,vn] (Zy C a ok):=
 oW.ok F S (fun vs H Q E h=>by obtain⟨_,_,rfl,_⟩:=h;rfl) fun cdv A outer s H vs Q E hr hsp=>by
  obtain⟨e,v,rfl,hok,ea,q⟩:=hsp
  obtain⟨h1,h2,h3,h4,h5,h6,h7,h8,h9,h10,h11,pl,h12⟩:=hbody cdv A outer s H E _ rfl hr
  rw[hbd]
  refine⟨_,jy (JZ (Rc (pl:=pl) Fe hx h1 hm hb hh (bK h3 (bK h2.run lg h8) h7) h6 h7 h9 h12) h10) (tL (abe Ni h4 h5 h11)),?_⟩
  obtain⟨b,eb,adC⟩:=hρ v hok
  refine⟨.ref e,rfl,H,ρ0 v,b,adC H e,eb,fun y H1 s1 _ _=>⟨e,y,rfl,s1 _ _ ea,?_⟩⟩
  exact⟨v,rfl,.ref e,rfl,e,rfl,s1 _ _ ea,fun dx hd hne=>q H1 dx s1 hd hne⟩
def Zz (f:Addr) (K:FG_) (n:Nat) (F:List Bx->Option Bx):Sp:=fun vs H Q E=>∃ vs',vs=.ref f::vs'/\nF K n F vs' H Q E
end
section
variable {X:Cx} {k n:Nat} {f h:Addr} {fd:FuncData} {ps:LS_} {F:List Bx->Option Bx} {fs:Ev->Option (List Bx)} {x y:Str} {p q pos:Pos} {e:Expr} {es:List Expr}
theorem zZ (G:bF X.prog X.w X.K X.mg X.base jJ k f fd ps (Zz h X.K n F)) (hr:iT k X.A) (hg:Gl X x) (hm:X.mg x=some (.ref f)) (hk:PySem.W.keepIn X.K (.ref f)=true) (hb:Binds X.K fd ps []) (hgy:Gl X y) (hmy:X.mg y=some (.ref h)) (ha:Pb X (e::es) fs)
  (hdb:(x==("__debug__" : Str))=false:=by decide) (hdy:(y==("__debug__" : Str))=false:=by decide) (he:starEach (.Name y q::e::es) X.env=(false,eval (.Name y q) X.env)::starEach (e::es) X.env:=by rfl) (hpl:(backTo pos (starEach (e::es) X.env)).any (·.1)=false:=by rfl) :
  QV X (.Call (.Name x p) (.Name y q::e::es) [] pos) (dM n F fs):=⟨FN (J2 G hr hg hm hk hb .nil V7 (bK (lH hgy hmy (v:=.ref h) rfl hdy) ha.run he) hdb he hpl) fun σ H Q h=>by
 obtain⟨H0,ρ,r,E,e,q⟩:=h
 obtain⟨bs,eb,e⟩:=bind_some e
 refine⟨H0,ρ,bs,E,eb,fun vs H1 s1 r1=>?_⟩
 split at e
 ·rename_i hn
  rw[qB]
  exact⟨vs,rfl,by rw[<-Paired.length r1];exact hn,_,r,zx r1,El bs,e,fun v H2 s2 n2 r2=>q v H2 (s1.trans s2) (n2.old s1) r2⟩
 ·cases e⟩
end
end P1
end
section
namespace P1
open PySem PySem.Spec PyProof.Rows L2 S6
section
variable {X:Cx} {elt tgt iter:Expr} {ifs:List Expr} {scope:Scope} {cl:List (Str×Addr)} {pos:Pos} {xs ts:LS_} {is:List Nat} {gt:Dt->Ev->Option Ev} {p:Ev->Option Bool} {fe:Ev->Option Bx} {fi:Ev->Option (List Dt)}
theorem Nj {H:Hp} {h:Heap} {a:Addr} (e:h.get? a=some (blank X.w)):fj X.prog X.w H h a (hoT X a []):=Q7 (n:=0) (zk _) ((setObjOf_fresh _).setOf e (by decide))
def AcT (X:Cx) (D:Addr) (_:Hp) (o1:List Dt) (o:HO):Prop:=∃ us,o=hoT X D us/\(∀ z,z∈us↔Dt.str z∈o1)/\us.length<=o1.length
theorem Vn {n:Nat} (h:PV X elt fe):Qc X (fun D env=>do let v <-eval elt env;standAt elt.pos;let _ <-call (.builtin "set.add") [.ref D,v]) (fun ρ=>(fe ρ).bind Uv) (AcT X) 4000 n:=by
 refine Qd fun pins s σ H Hb ρ D o o1 ys I En ee hD ⟨us,e,r4⟩ hl=>?_
 subst e
 obtain⟨b,eb,ee⟩:=bind_some ee
 obtain⟨yt,rfl,rfl⟩:∃ yt,b=.z (.str yt)/\ys=[.str yt]:=by
  unfold Uv at ee
  split at ee
  ·cases ee;exact⟨_,rfl,rfl⟩
  ·cases ee
 refine zb (ZH (h pins s σ H (fun v H9=>Same H H9/\Rep X.K H9 (.str yt) v) I ⟨Hb,ρ,_,En,eb,fun v H9 s9 _ r9=>⟨s9,r9⟩⟩) (fun v s9 h9=>?_) fun _ _ z=>z)
 obtain⟨v',H9,I9,rv,Zw,r9⟩:=h9
 obtain⟨rfl,hyl⟩:v'=.str yt/\yt.length<=sizeLine:=by simpa only[Rep] using r9
 obtain⟨tk,rfl⟩:=rv
 have Wc:=Zw _ _ hD
 simp only[List.length_singleton] at hl
 obtain⟨n2,hn2,hS2⟩:=(I9.hok _ _ Wc).1
 have sb:(4001:Nat) < scanBound:=by decide
 refine zb (QE (zb ?_))
 refine call_set_add (k:=yt) (strKind_is X.prog X.w yt tk) rfl hS2 (by omega) fun h' hsb hS'=>?_
 have e:(fun k'=>decide (k'∈us)||decide (k'=yt))=fun z=>decide (z∈us++[yt]):=by
  funext z;simp
 rw[e] at hS'
 obtain⟨o',_,_,_,ho',_⟩:=id hS'
 refine ze ⟨H9,_,I9.write (t':=s9.toks+1) (x:=D) (e:=D) (o:=hoT X D (us++[yt])) (by rw[Wc];trivial) (.inl rfl) (fun b u hb e=>by rw[hsb.2 b hb];exact e) ⟨o',ho'⟩ (Q7 (by rw[zS,List.length_singleton];split<;>omega) hS'),
  Zw,Yv Wc,us++[yt],rfl,fun z=>?_,by simp;omega⟩
 rw[List.mem_append,List.mem_append,r4.1 z]
 simp
def tST (X:Cx) (i:Nat) (f:Ev->Option LS_):TS:=fun D σ H=>∃ H0 ρ ys,bw X.K H0 H σ ρ/\f ρ=some ys/\∀ Da zs H',Same H H'->H Da=none->H' Da=some (hoT X Da zs)->(∀ z,z∈zs↔z∈ys)->D.nx (σ.set i (some (.ref Da))) H'
theorem z7 (i:Nat) {y:Str} {py spos:Pos} (ts:LS_) (O:rB X scope cl xs is) (hcalm:X.calm=true) (hN:X.N.Nodup) (hi:PIC X tgt iter fi)
  (Jf:∀ C s₀ H₀ fp,PTg (FP X (xs++ts) scope cl C s₀ H₀ fp) tgt gt) (hif:∀ C s₀ H₀ fp,Tests (FP X (xs++ts) scope cl C s₀ H₀ fp) ifs p) (helt:∀ C s₀ H₀ fp,PV (FP X (xs++ts) scope cl C s₀ H₀ fp) elt fe) (htk:T6 is.length (is.length+ts.length) gt)
  (hsw:swapsWith (.SetComp elt [⟨tgt,iter,ifs,0⟩] scope pos) (some (.Name y py)) spos.line X.env=pure true:=by with_unfolding_all rfl)
  (hy:X.N[i]?=some y:=by rfl) (hx:Loc X.env.scope y:=by first|exact qS rfl|exact qa rfl)
  (hf:X.fn y=true\/X.env.scope.names.lookup y=some .local:=by first|exact .inl rfl|exact .inr rfl)
  (hs:∀ x,foldedSetIterable iter X.env x=pure x:=by intro _;rfl):PS X (.Assign [.Name y py] (.SetComp elt [⟨tgt,iter,ifs,0⟩] scope pos) spos) (tST X i (Wq fi gt p fe is ts.length)):=fun pins s σ H D I h=>by
 obtain⟨H0,ρ,ys,E,e,q⟩:=h
 obtain⟨ds,ed,e⟩:=bind_some e
 split at e
 ·rename_i hlen
  obtain⟨out,eo,e⟩:=bind_some e
  have abj:=GR e
  rw[exec_Assign_Name_used _ _ _ _ hsw]
  refine zb (QE (zb ?_))
  show wpAny _ X.A (do let _ <-comprehension (.SetComp elt [⟨tgt,iter,ifs,0⟩] scope pos) scope X.env _ (newSet (.type "set")) false (eval iter X.env) (some (assign (.Name y py) X.env))) _ _ s
  refine zb (ZH (kG (use:=some (assign (.Name y py) X.env)) (Q:=fun _ s'=>SP X pins D .next s') rfl hs O.clos O.kind O.names ?_) (fun _ s' hq=>ze (ze hq)) fun _ _ e=>e)
  refine iu (hi pins s σ H (fun J H'=>Same H H'/\Yields X.K J ds H') I ⟨H0,ρ,ds,E,ed,fun J H' s' y=>⟨s',y⟩⟩) fun v s1 h1=>iu h1 fun itv s2 h2=>?_
  obtain⟨it,fp,tn,J,H2,rfl,I2,T,st,hf',s12,Y⟩:=h2
  have hst:∀ d∈out,∃ z,d=Dt.str z:=fun d hd=>by rw[abj] at hd;obtain⟨z,_,rfl⟩:=List.mem_map.mp hd;exact⟨z,rfl⟩
  refine Cw (Ac:=AcT X) (O0:=hoT X s2.heap.objs.size []) (N:=4000) (RR:=fun acc C=>compPost (model X.prog X.w) X.A X.xe (some (assign (.Name y py) X.env)) (fun _ s'=>SP X pins D .next s') acc C) (ts:=ts) (xs:=xs) O hcalm Jf hif (fun C s₀ H₀ fp=>Vn (helt C s₀ H₀ fp)) htk (Nat.le_add_right ..) I2 ((E.grow s12).caps is ts.length) T st hf' Y (Js one_up eo hst) (zh (tU eo) (Q4 hlen)) ?_
   Mz (fun _=>Nj (zC _ rfl)) (fun _=>⟨[],rfl,by simp,zk _⟩) (fun _ h=>h) (fun _ _ _=>rfl) MF fun h=>h
  rintro Da C s' H' o hD I' fC ⟨m,hn⟩ s2' hD' ⟨zs,rfl,mz,_⟩
  show wpAny _ X.A (assign (.Name y py) X.env (.ref Da)) _ _ s'
  obtain⟨f0,f1,f2,f3,f4,f5⟩:=fC
  obtain⟨oC,es',ep,hoC,hdC,hrest⟩:=id hn
  have I'':L2.Inv X (pins++[(C,oC)]) σ H' s':=I'.uT fun pp hp=>by
   rcases List.mem_append.mp hp with z|z
   ·exact I'.pin pp (zI _ z)
   ·have:pp=(C,oC):=by simpa using z
    subst this
    exact⟨hoC,f0,f1,f2,fun v z=>by rw[hdC] at z;cases z⟩
  refine iu (L2.yJ hN hy hx hf (pins++[(C,oC)]) s' σ H' (.ref Da) (.ref Da) (fun σ' X8=>σ'=σ.set i (some (.ref Da))/\X8=H') I'' rfl ⟨rfl,rfl⟩) fun _ s'' ⟨σ',X8,J',e1,e2⟩=>?_
  subst e1 e2
  have hC':=(J'.pin (C,oC) (by simp)).1
  refine⟨m,⟨oC,es',ep,hC',hdC,hrest⟩,fun h' sb=>?_⟩
  refine⟨σ.set i (some (.ref Da)),X8,J'.oU.turned (t':=s''.toks) (fun b o hb e=>(sb.2 b hb).trans e) f0 f1 f3 f4 f5,q Da zs _ (s12.trans s2') (s12.free hD) hD' fun z=>?_⟩
  rw[mz z,abj]
  constructor
  ·intro q'
   obtain⟨y,hy,e⟩:=List.mem_map.mp q'
   cases e;exact hy
  ·exact fun q'=>List.mem_map.mpr ⟨z,q',rfl⟩
 ·cases e
end
def Hi (k:Nat) (fe:Ev->Option Bx) (ys:LS_) (fx:Ev->Option Dt):List Dt->Ev->Option (Sum Ev Dt)
 |[],ρ=>some (.inl ρ)
 |d::ds,ρ=>(fe (ρ.set k (some (.z d)))).bind fun b=>match b with
  |.z (.str x)=>if x∈ys then (fx (ρ.set k (some (.z d)))).bind fun q=>some (.inr q) else Hi k fe ys fx ds (ρ.set k (some (.z d)))
  |_=>none
section
variable {X:Cx} {x y:Str} {e2 se iter:Expr} {fS:Ev->Option LS_} {fe:Ev->Option Bx} {fx:Ev->Option Dt} {fi:Ev->Option (List Dt)} {no rest:List Stmt} {tR tQ:TS} {p0 Wy px pb pif pos pk:Pos} {C:Addr} {f:Str} {E:XK} {g:Ev->Option Out} {gx:Ev->Option Dt}
def JD (j k:Nat) (fS:Ev->Option LS_) (fi:Ev->Option (List Dt)) (fe:Ev->Option Bx) (fx:Ev->Option Dt):Ev->Option (Sum Ev Dt):=fun ρ=>(fS ρ).bind fun ys=>(fi (ρ.set j none)).bind fun ds=>if j < ρ.length/\j≠k then Hi k fe ys fx ds (ρ.set j none) else none
theorem KN (j k:Nat) (hp:PassesOwn (model X.prog X.w) X.A X.env X.xe) (hc:X.calm=true) (hN:X.N.Nodup) (hS:PS X (.Assign [.Name x p0] se Wy) (tST X j fS)) (hi:QIF X (.Name y pk) iter fi) (h2:QV X e2 fe) (hR:wJ X no tR) (hQ:wJ X rest tQ)
  (xj:X.N[j]?=some x:=by rfl) (xk:X.N[k]?=some y:=by rfl) (vj:Oe X.env.scope x:=by first|exact qS rfl|exact qa (qS rfl)|exact qa (qa rfl)) (lj:Loc X.env.scope x:=by first|exact qS rfl|exact qa rfl) (lk:Loc X.env.scope y:=by first|exact qS rfl|exact qa rfl)
  (gj:X.fn x=true\/X.env.scope.names.lookup x=some .local:=by first|exact .inl rfl|exact .inr rfl) (gk:X.fn y=true\/X.env.scope.names.lookup y=some .local:=by first|exact .inl rfl|exact .inr rfl)
  (dj:(x==("__debug__" : Str))=false:=by decide) (cj:(x==("__classdict__" : Str))=false:=by decide) (hs:∀ z,foldedSetIterable iter X.env z=pure z:=by intro _;rfl)
  (hmk:behindInMarks .In (.Name x px)=false:=by with_unfolding_all rfl) :
  wJ X (.Assign [.Name x p0] se Wy::.For (.Name y pk) iter [.If (.Compare e2 [.In] [.Name x px] pb) no [] pif] [] pos::rest) fun De σ H=>
   ∃ H0 ρ r,bw X.K H0 H σ ρ/\JD j k fS fi fe fx ρ=some r/\(∀ ρ',r=.inl ρ'->∀ σ' H',bw X.K H0 H' σ' ρ'->tQ De σ' H')/\∀ d,r=.inr d->∀ D' σ' H' ρ1,bw X.K H0 H' σ' ρ1->fx ρ1=some d->D'.rt=De.rt->tR D' σ' H':=by
 refine Mf (jy hS
  (jy (Ow hp hc hi.run (L2.yJ hN xk lk gk) (tL (FZ (J1 YW h2.run (wK (i:=j) xj vj dj cj) hmk) hR yI)) hs) hQ)) fun De σ H h=>?_
 obtain⟨H0,ρ,r,Ev,e,q1,q2⟩:=h
 obtain⟨ys,ey,e⟩:=bind_some e
 obtain⟨ds,ed,e⟩:=bind_some e
 split at e
 rotate_left
 ·cases e
 rename_i hjk
 obtain⟨hj,hjk⟩:=hjk
 refine⟨H0,ρ,ys,Ev,ey,fun D zs H1 s1 hD0 hD hz=>?_⟩
 have E1:bw X.K H0 H1 (σ.set j (some (.ref D))) (ρ.set j none):=by
  have E0:=(Ev.Wm j).grow s1
  have ag:∀ (q:Nat) c,(ρ.set j none)[q]?=some (some c)->(σ.set j (some (V.ref D)))[q]?=σ[q]?:=fun q c z=>u0 _ (Vb z).1
  exact⟨by rw[qv];exact E0.len,fun q b e=>by rw[ag q b e];exact E0.val q b e,
   fun q q' c a b e1 e2 e3 e4 e5 e6=>E0.own q q' c a b e1 e2 (by rw[<-ag q c e1];exact e3) e4 e5 (by rw[<-ag q' b e4];exact e6),E0.base,fun q c a e1 e2 e3=>E0.new q c a e1 e2 (by rw[<-ag q c e1];exact e3)⟩
 have hσj:(σ.set j (some (V.ref D)))[j]?=some (some (.ref D)):=zu _ (by rw[Ev.len];exact hj)
 generalize σ.set j (some (V.ref D))=σ1 at *
 refine⟨H0,_,ds,E1,ed,fun J H2 s2 y=>?_⟩
 have E2:=E1.grow s2
 have hD2:=s2 _ _ hD
 have Y:Yields X.K J ds (gJ H2 σ1 (ρ.set j none)):=by
  refine y _ qd (fun a ha=>?_) (fun a o u ha=>jT E2 (fun vs z=>by rw[ha] at z;cases z) (fun vs z=>by rw[ha] at z;cases z)) fun a vs ha=>jT E2 (fun vs z=>by rw[ha] at z;cases z) (fun vs z=>by rw[ha] at z;cases z)
  unfold gJ
  rw[zw]
  rintro⟨q,c,e1,ec,e2⟩
  exact known E1 q c a e1 (by cases c<;>first|rfl|cases ec) e2 ha
 have hDs:gJ H2 σ1 (ρ.set j none) D=some (hoT X D zs):=(jT E2 (fun vs z=>by rw[hD2] at z;cases z) (fun vs z=>by rw[hD2] at z;cases z)).trans hD2
 have ES:=E2.sans
 have sub:=E2.sub
 generalize gJ H2 σ1 (ρ.set j none)=Hs at Y hDs ES sub
 refine⟨fun n m' σ' H'=>m'=ds.length - n/\n<=ds.length/\σ'[j]?=some (some (.ref D))/\∃ ρ',bw X.K Hs H' σ' ρ'/\Hi k fe ys fx (ds.drop n) ρ'=some r,⟨ds.length,by simp,Qr _,hσj,_,ES,e⟩,?_⟩
 rintro n m' σ' H' ⟨rfl,hn',hσ,ρ',E',em⟩
 obtain⟨y1',y2'⟩:=Y n H' E'.base
 by_cases hlt:n < ds.length
 ·right
  have hd:ds[n]?=some ds[n]:=by simp[hlt]
  obtain⟨go,yl⟩:=y1' _ hd
  rw[kA hlt] at em
  simp only[Hi] at em
  obtain⟨b,eb,em⟩:=bind_some em
  refine⟨go,fun σ2 H2=>σ2[j]?=some (some (.ref D))/\∃ ρ2,bw X.K Hs H2 σ2 ρ2/\Hi k fe ys fx (ds.drop (n+1)) ρ2=some r,fun σ2 H2 ⟨z1,z2⟩=>⟨ds.length - (n+1),by omega,rfl,hlt,z1,z2⟩,fun xv H3 yy=>?_⟩
  obtain⟨sm3,rx⟩:=yl xv H3 yy
  have E3:bw X.K Hs H3 (σ'.set k (some xv)) (ρ'.set k (some (.z ds[n]))):=(E'.grow sm3).set (b:=.z ds[n]) (Same.refl H3) rx (.inr rfl) trivial
  have hσ3:(σ'.set k (some xv))[j]?=some (some (.ref D)):=(u0 _ hjk).trans hσ
  split at em
  rotate_left
  ·cases em
  rename_i t
  refine⟨Hs,_,_,E3,eb,fun v H4 s4 _ r4=>⟨.ref D,hσ3,?_⟩⟩
  obtain⟨rfl,_⟩:v=.str t/\t.length<=sizeLine:=by simpa only[bh,Rep] using r4
  have E4:=E3.grow s4
  have X6:=E4.base _ _ hDs
  refine⟨t,D,zs,rfl,rfl,X6,?_⟩
  refine⟨decide (t∈zs),rfl,?_⟩
  dsimp only
  by_cases ht:t∈ys
  ·rw[zi ht] at em
   obtain⟨d,ex,em⟩:=bind_some em
   cases em
   rw[zi (ZU ((hz t).mpr ht))]
   exact q2 d rfl _ _ _ _ (E4.rebase sub) ex rfl
  ·rw[zw ht] at em
   rw[zw (by rw[ZI (fun z=>ht ((hz t).mp z))];exact zr)]
   exact⟨hσ3,_,E4,em⟩
 ·left
  have hge:ds.length<=n:=by omega
  refine⟨y2' hge,?_⟩
  rw[List.drop_eq_nil_of_le hge] at em
  cases em
  exact q1 _ rfl σ' H' (E'.rebase sub)
theorem Vo (j k:Nat) (hp:PassesOwn (model X.prog X.w) X.A X.env X.xe) (hc:X.calm=true) (hN:X.N.Nodup) (hS:PS X (.Assign [.Name x p0] se Wy) (tST X j fS)) (hi:QIF X (.Name y pk) iter fi) (h2:QV X e2 fe) (hQ:PJ X rest g)
  (xj:X.N[j]?=some x:=by rfl) (xk:X.N[k]?=some y:=by rfl) (vj:Oe X.env.scope x:=by first|exact qS rfl|exact qa (qS rfl)|exact qa (qa rfl)) (lj:Loc X.env.scope x:=by first|exact qS rfl|exact qa rfl) (lk:Loc X.env.scope y:=by first|exact qS rfl|exact qa rfl)
  (gj:X.fn x=true\/X.env.scope.names.lookup x=some .local:=by first|exact .inl rfl|exact .inr rfl) (gk:X.fn y=true\/X.env.scope.names.lookup y=some .local:=by first|exact .inl rfl|exact .inr rfl)
  (dj:(x==("__debug__" : Str))=false:=by decide) (cj:(x==("__classdict__" : Str))=false:=by decide) (hs:∀ z,foldedSetIterable iter X.env z=pure z:=by intro _;rfl)
  (hmk:behindInMarks .In (.Name x px)=false:=by with_unfolding_all rfl) :
  PJ X (.Assign [.Name x p0] se Wy::.For (.Name y pk) iter [.If (.Compare e2 [.In] [.Name x px] pb) no [] pif] [] pos::rest) (fun ρ=>(JD j k fS fi fe (fun _=>none) ρ).bind fun r=>match r with
   |.inl ρ'=>g ρ'
   |.inr _=>none):=⟨Mf (KN j k hp hc hN hS hi h2 Cg hQ.run xj xk vj lj lk gj gk dj cj hs hmk) fun De σ H h=>by
 obtain⟨H0,ρ,out,Ev,e,q⟩:=h
 obtain⟨r,er,e⟩:=bind_some e
 cases r with
 |inl ρ1=>exact⟨H0,ρ,_,Ev,er,fun ρ' z σ' H' E'=>(by cases z;exact⟨H0,ρ1,out,E',e,q⟩),fun d z=>nomatch z⟩
 |inr d=>cases e⟩
theorem Vp (j k:Nat) (hp:PassesOwn (model X.prog X.w) X.A X.env X.xe) (hc:X.calm=true) (hN:X.N.Nodup) (hS:PS X (.Assign [.Name x p0] se Wy) (tST X j fS)) (hi:QIF X (.Name y pk) iter fi) (h2:QV X e2 fe) (hR:Zb X C f E no fx)
  (xj:X.N[j]?=some x:=by rfl) (xk:X.N[k]?=some y:=by rfl) (vj:Oe X.env.scope x:=by first|exact qS rfl|exact qa (qS rfl)|exact qa (qa rfl)) (lj:Loc X.env.scope x:=by first|exact qS rfl|exact qa rfl) (lk:Loc X.env.scope y:=by first|exact qS rfl|exact qa rfl)
  (gj:X.fn x=true\/X.env.scope.names.lookup x=some .local:=by first|exact .inl rfl|exact .inr rfl) (gk:X.fn y=true\/X.env.scope.names.lookup y=some .local:=by first|exact .inl rfl|exact .inr rfl)
  (dj:(x==("__debug__" : Str))=false:=by decide) (cj:(x==("__classdict__" : Str))=false:=by decide) (hs:∀ z,foldedSetIterable iter X.env z=pure z:=by intro _;rfl)
  (hmk:behindInMarks .In (.Name x px)=false:=by with_unfolding_all rfl) :
  Zb X C f E (.Assign [.Name x p0] se Wy::.For (.Name y pk) iter [.If (.Compare e2 [.In] [.Name x px] pb) no [] pif] [] pos::rest) (fun ρ=>(JD j k fS fi fe fx ρ).bind fun r=>match r with
   |.inl _=>none
   |.inr d=>some d):=⟨Mf (KN (tQ:=Oq) j k hp hc hN hS hi h2 hR.run Cg xj xk vj lj lk gj gk dj cj hs hmk) fun De σ H h=>by
 obtain⟨H0,ρ,d,Ev,e,w⟩:=h
 obtain⟨r,er,e⟩:=bind_some e
 cases r with
 |inl ρ1=>cases e
 |inr d'=>
  cases e
  exact⟨H0,ρ,_,Ev,er,(fun ρ' z=>nomatch z),fun d' z D' σ' H' ρ1 E' ex _=>by cases z;exact⟨H0,ρ1,d,E',ex,w⟩⟩⟩
end
end P1
end
section
namespace P1
open PySem PySem.Spec PyProof.Rows L2
section
variable {X:Cx} {iter e1 e2 e3 c:Expr} {fi:Ev->Option (List Dt)} {f1 fe:Ev->Option Bx} {p:Ev->Option Bool} {gr:Ev->Option Out} {x xr xj y1 y2:Str} {rest no:List Stmt} {kk:Nat} {p0 p00 p01 Wy q1 q2 pt pj pa px pb pif pf2 px3 a1 c1 pe1 pr a2 pj2 c2 pe2 pos:Pos} {fx:Ev->Option Dt} {C:Addr} {f:Str} {E:XK}
end
section
variable {X:Cx} {C Cn f:Addr} {iv k:Nat} {n cn x:Str} {np hp p pa cpos pos:Pos} {b0:Stmt} {suite:List Stmt} {ts:TS} {tf:TE} {t:TA} {sp:Sp} {fd:FuncData} {ps:LS_} {e:Expr} {es:List Expr}
end
section
variable {X:Cx} {fx:Ev->Option Bx}
end
section
variable {prog:Program} {w:World} {A:Around} {E:VP_} {it l:Addr} {xs:Array Value}
end
section
variable {X:Cx} {pos:Pos}
theorem tO:∀ {its:List Value} {ns:List Int},IntsAre its ns->Vals (ns.map V.int) its
 |_,_,.nil=>.nil
 |_,_,.cons y t h=>.cons ⟨t,rfl⟩ (tO h)
end
section
variable {α:Type} {e:α->Dt} {ρ:Ev} {fa:Ev->Option Bx}
end
theorem Nk {d:Dt} (h:lV d=true):∃ x,d=.str x:=by
 cases d with
 |str x=>exact⟨x,rfl⟩
 |_=>cases h
theorem Vq (x y:Str):MP (.str x) (.str y):=⟨by rfl,by simp[oG]⟩
theorem Vr {x:Str} {d:Dt} (h:d∈Wv (.str x)):d=eS (UW d):=by
 unfold Wv signs at h
 obtain⟨c,_,rfl⟩:=List.mem_map.mp h
 rfl
theorem Vs (x:Str):(Wv (.str x)).length=x.length:=M6 x
theorem lt_iff (a b:Str):ltS a b=true↔FQ a b/\a≠b:=by
 unfold ltS FQ
 rw[ltCps_eq]
 simp only[jn,Q1]
 constructor
 ·intro h
  exact⟨List.lt_asymm h,fun e=>by subst e;exact List.lt_irrefl _ h⟩
 ·intro ⟨h,hn⟩
  by_cases q:a.cps.toList < b.cps.toList
  ·exact q
  ·exact absurd (GJ (a:=a) (b:=b) (by unfold FQ;rw[ltCps_eq];simpa using h) (by unfold FQ;rw[ltCps_eq];simpa using q)) hn
theorem Vt {n:Nat} {i:Int} (h:i∈rng 0 n):∃ k:Nat,k < n/\i=(k:Int):=by
 unfold rng at h
 obtain⟨k,hk,rfl⟩:=List.mem_map.mp h
 exact⟨k,List.mem_range.mp hk,by omega⟩
end P1
end
section
namespace P1
open PySem PySem.Spec PyProof.Rows L2 S1 S6
structure Wd (U:LS_) (w:List LS_):Prop where
 ne:∀ s∈w,s≠[]
 so:∀ s∈w,s.Pairwise FQ
 nd:w.flatten.Nodup
 sub:∀ x∈w.flatten,x∈U
 st:w.Pairwise (fun a b=>adq a b=true)
def same (w:List LS_) (x y:Str):Prop:=∃ s∈w,x∈s/\y∈s
section
variable {α β:Type}
structure GOk (m:List (Int×List α)) (xs:List α):Prop where
 k:(m.map (·.1)).Nodup
 ne:∀ q∈m,q.2≠[]
 p:(m.map (·.2)).flatten.Perm xs
theorem GOk.put {m:List (Int×List α)} {xs:List α} (h:GOk m xs) (k:Int) (x:α):GOk (aa5 m k x) (xs++[x]):=by
 unfold aa5
 split
 ·rename_i hk
  obtain⟨q0,hq,e⟩:=List.any_eq_true.mp hk
  have e:q0.1=k:=JP e
  obtain⟨pre,rest,rfl⟩:=List.append_of_mem hq
  have nk:=h.k
  rw[ZN,zl,kC] at nk
  have fix:∀ l:List (Int×List α),k∉l.map (·.1)->l.map (fun q=>if q.1=k then (q.1,q.2++[x]) else q)=l:=fun l hl=>by
   conv=>rhs;rw[<-List.map_id l]
   exact List.map_congr_left fun q hq=>by rw[zw fun z=>hl (List.mem_map.mpr ⟨q,hq,z⟩)];rfl
  have f1:=fix pre fun z=>nk.2.2 _ z _ (ZA ..) e.symm
  have f2:=fix rest fun z=>(List.nodup_cons.mp nk.2.1).1 (by rw[e];exact z)
  have f3:(pre++q0::rest).map (fun q=>if q.1=k then (q.1,q.2++[x]) else q)=pre++(q0.1,q0.2++[x])::rest:=by rw[ZN,zl,f1,f2,zi e]
  rw[f3]
  refine⟨by have:=h.k;simpa using this,fun q hq=>?_,?_⟩
  ·rcases List.mem_append.mp hq with hq|hq
   ·exact h.ne q (qo _ hq)
   ·rcases List.mem_cons.mp hq with z|hq
    ·rw[z];simp
    ·exact h.ne q (zI _ (Zs _ hq))
  ·refine List.Perm.trans ?_ (h.p.append_right [x])
   simp only[ZN,zl,List.flatten_append,List.flatten_cons,kD]
   refine List.Perm.append_left _ (List.Perm.append_left _ ?_)
   exact List.perm_append_comm
 ·rename_i hk
  refine⟨?_,fun q hq=>?_,?_⟩
  ·rw[ZN,kC]
   refine⟨h.k,by simp,fun a ha b hb=>?_⟩
   have hb:b=k:=by simpa using hb
   subst hb
   intro z
   subst z
   obtain⟨q,hq,e⟩:=List.mem_map.mp ha
   exact hk (List.any_eq_true.mpr ⟨q,hq,ZU e⟩)
  ·rcases List.mem_append.mp hq with hq|hq
   ·exact h.ne q hq
   ·cases List.mem_singleton.mp hq;simp
  ·rw[ZN,List.flatten_append]
   simpa using h.p.append_right [x]
end
end P1
end
section
set_option maxHeartbeats 1000000
namespace P1
open PySem PySem.Spec PyProof.Rows L2
open PySem.Builtin PySem.Builtin.Str
abbrev cs (s:Str):List Nat:=s.cps.toList
theorem z8 (a b:Str):cs (a++b)=cs a++cs b:=Array.toList_append
theorem wZ (a:Str):a.length=(cs a).length:=by simp[Str.length]
theorem Vu (y p q:Str) (ps:LS_):Str.join y (p::q::ps)=p++y++Str.join y (q::ps):=rfl
theorem Np {c:Nat} {s:Str} (h:c∈cs s):CG ⟨#[c]⟩ s=true:=by
 unfold CG
 obtain⟨i,hi⟩:=(mem_iff_at s c).mp h
 rcases StrLaws.occ_head s ⟨#[c]⟩ 1 (zk 1) with⟨h0,hn⟩|⟨i,r,h0,_,_⟩
 ·exact absurd hi (hn i)
 ·rw[h0];rfl
theorem Rj {x:Str} {n:Nat} (h:n<=x.length):cs (Txt.slice x (some (n:Int)) none)=(cs x).drop n:=by
 rw[slice_from_eq (b:=x.length) (by omega) (by omega) rfl]
 show ((cs x).drop ((n:Int).toNat)).take _=_
 rw[Int.toNat_natCast,List.take_of_length_le (by rw[kb,<-wZ];omega)]
theorem Rk {x:Str} {n:Nat} (h:n<=x.length):cs (Txt.slice x none (some (n:Int)))=(cs x).take n:=by
 have:=slice_closes_to (x:=x) (j:=(n:Int)) ⟨by omega,by rw[show x.cps.toList.length=x.length by simp[Str.length]];omega⟩
 rw[eq_of_beq this]
 show ((cs x).drop 0).take _=_
 simp
theorem abk {x:Str} {i:Int} (h:In x.length i):∃ c∈cs x,ch x i=⟨#[c]⟩:=by
 have:=zV (xs:=cs x) (i:=i) (by rw[<-wZ];exact h)
 refine⟨_,this,?_⟩
 unfold ch at'
 rfl
theorem Vv:∀ (y p:Str) (ps:LS_),cs (Txt.join y (p::ps))=cs p++ps.flatMap fun q=>cs y++cs q:=by
 intro y p ps
 rw[show Txt.join y (p::ps)=Str.join y (p::ps) from StrLaws.glued_eq_join y _]
 induction ps generalizing p with
 |nil=>simp[Str.join]
 |cons q ps ih=>rw[Vu,z8,z8,ih,List.flatMap_cons,kD,kD]
end P1
end
section
set_option maxHeartbeats 1000000
namespace P1
open PySem PySem.Spec PyProof.Rows L2 S1 S6
section
variable {α:Type} [Inhabited α]
end
section
variable {α:Type} {e:α->Dt} [U7 e]
end
end P1
end
section
set_option synthInstance.maxSize 100000
namespace G02
open PySem PySem.Spec PyProof.Rows L2 P1
noncomputable section
abbrev LD_:=List P1.Dt
abbrev jk:Type:=Str×Str
abbrev Nq:jk->Dt:=Ob eS eS
abbrev aO:Type:=Str×(List jk)
abbrev aK:aO->Dt:=Ob eS (eT Nq)
abbrev Fd:Type:=(List aO)×(List aO)
abbrev adE:Fd->Dt:=Ob (eT aK) (eT aK)
abbrev Rm:Type:=Int×Str
def JF:List Dt:=[(Dt.str "qqqqqqqq"),(Dt.str ""),(Dt.str "A"),Dt.non,(Dt.int 7),(Dt.bl true),(Dt.tup [(Dt.str "a")]),((eL eS) [("a" : Str)]),Dt.emp]
def top (i:Nat):Stmt:=PySem.Challenge.pw_onefolk_k02_words_and_books_together.main.body.getD i (.Pass ⟨0,0,0,0⟩)
abbrev qt:Stmt:=top 18
abbrev lJ:Stmt:=top 19
abbrev nW:Stmt:=top 20
abbrev jX:Stmt:=top 21
abbrev jY:Stmt:=top 22
abbrev jA:Stmt:=top 23
abbrev fH:Stmt:=top 29
abbrev iD:Stmt:=top 27
abbrev tY:Stmt:=top 14
abbrev iG:Stmt:=top 25
abbrev mq:Stmt:=top 26
abbrev mC:Stmt:=top 13
abbrev tZ:Stmt:=top 12
abbrev jl:Stmt:=top 28
abbrev z9:Stmt:=top 30
def uw:Ev->Option Out:=(aH (aH (setG 2 (b2 gD (b2 bQ (b2 mR (gv 2) (cB (.int 69621))) (gv 3)) (cB (.int 2147483647)))) jL) (gn [3]))
def qu:Ev->Option Out:=(aH (BK (yP Yr (gv 1) (cY pq (ao (gv 0) aQ))) (aH (jV (b2 gB (gv 0) (gv 1))) jL) jL) (aH (setG 2 (b2 gD (b2 mR (cB (.int 48271)) (b2 bQ (b2 bQ (b2 mR (gv 1) (gv 1)) (b2 mR (cB (.int 7)) (gv 1))) (cB (.int 11)))) (cB (.int 2147483647)))) (aH (nH (Ke (CN (gv 0) iW (kW (cB (.int 3))))) (lX 3) uw) (aH (jV (gv 2)) jL))))
def dX:List Bx->Option Bx:=fG 4 qu
def lA:Ev->Option Out:=(aH (aH (setG 3 (b2 gD (b2 bQ (b2 bQ (b2 mR (gv 3) (b2 bQ (b2 gD (gv 3) (cB (.int 65521))) (cB (.int 40487)))) (b2 mR (cB (.int 7)) (gv 5))) (cB (.int 5))) (cB (.int 1999999973)))) (aH (Qm 2 (b2 gB (cY mQ (ao (gv 3) (ao (b2 gD (gv 4) (cB (.int 1000000))) aQ))) (cY Qk (ao (b2 gtB (gv 4) (cB (.int 0))) aQ)))) (aH (setG 4 (b2 o8 (gv 4) (cB (.int 1000000)))) jL))) (gn [5]))
def lK:Ev->Option Out:=(aH (setG 2 (cY mQ aQ)) (aH (setG 3 (b2 gD (b2 mR (b2 bQ (b2 gD (gv 0) (cB (.int 1999999973))) (cB (.int 31))) (cB (.int 765432101))) (cB (.int 1999999973)))) (aH (setG 4 (cB (.int 0))) (aH (BK (V8 (yP Yr (gv 0) (cB (.int 0))) (yP geB (gv 0) (b2 Uc (cB (.int 10)) (cB (.int 18))))) (aH (aH (setG 4 (cY Mt (ao (gv 0) aQ))) jL) (gn [])) (aH jL (gn []))) (aH (nH (Qn (ao (gv 1) aQ)) (lX 5) lA) (aH (Ef 2) jL))))))
def bV:List Bx->Option Bx:=fG 6 lK
def mZ:Ev->Option Out:=(aH (aH (setG 7 (b2 gB (gv 2) (b2 gD (b2 bQ (gv 6) (b2 gB (gv 0) (cB (.int 2)))) (cB (.int 15))))) (aH (setG 8 (b2 bQ (b2 bQ (CN (gv 3) iW (kW (gv 4))) (gv 7)) (CN (gv 3) (kW (gv 4)) iW))) (aH (BK (yP eqB (b2 gD (b2 gB (gv 0) (cB (.int 3))) (cB (.int 3))) (cB (.int 1))) (aH (aH (setG 8 (b2 mR (b2 gB (gv 2) (b2 o8 (gv 6) (cB (.int 8)))) (b2 bQ (cB (.int 1)) (b2 gD (gv 6) (cB (.int 8)))))) jL) (gn [])) (aH jL (gn []))) (aH (Qm 5 (gv 8)) jL)))) (gn [6,7,8]))
def nY:Ev->Option Out:=(aH (setG 2 (cB (.str "abcdefghijklmnopqrstuvwxyz"))) (aH (setG 3 (b1 (CV "") (dG (Qn (ao (b2 gD (b2 gB (gv 0) (cB (.int 0))) (cB (.int 6))) aQ)) (lX 2) lZ (b2 gB (gv 0) (b2 gD (b2 o8 (b2 gB (gv 1) (gv 2)) (cB (.int 40))) (cB (.int 26)))) [2,0] 1))) (aH (setG 4 (b2 gD (b2 gB (gv 0) (cB (.int 1))) (b2 bQ (cY pq (ao (gv 3) aQ)) (cB (.int 1))))) (aH (setG 5 (cY mQ aQ)) (aH (nH (Qn (ao (gv 1) aQ)) (lX 6) mZ) (aH (Ef 5) jL))))))
def iZ:List Bx->Option Bx:=fG 9 nY
def nZ:Ev->Option Out:=(aH (aH (setG 3 (b2 bQ (gv 3) (b2 gB (gv 1) (b2 gD (b2 o8 (gv 0) (b2 bQ (cB (.int 7)) (b2 mR (cB (.int 5)) (gv 4)))) (cY pq (ao (gv 1) aQ)))))) jL) (gn [4]))
def jZ:Ev->Option Out:=(aH (setG 3 (cB (.str ""))) (aH (nH (Qn (ao (b2 bQ (cB (.int 1)) (b2 gD (gv 0) (gv 2))) aQ)) (lX 4) nZ) (aH (jV (gv 3)) jL)))
def cZ:List Bx->Option Bx:=fG 5 jZ
def n6:Ev->Option Out:=(aH (aH (setG 4 (dM 3 cZ (ao (b2 gB (gv 1) (b2 bQ (cB (.int 1)) (b2 mR (cB (.int 2)) (gv 3)))) (ao (cB (.str "abcdefghijklmnopqrstuvwxyz")) (ao (b2 gB (cY mQ (ao (cB (.int 2)) (ao (cB (.int 8)) aQ))) (b2 gD (b2 o8 (b2 gB (gv 1) (b2 bQ (cB (.int 1)) (b2 mR (cB (.int 2)) (gv 3)))) (cB (.int 999))) (cB (.int 2)))) aQ))))) (aH (Qs 2 (b1 uY (dM 3 cZ (ao (b2 gB (gv 1) (b2 bQ (cB (.int 2)) (b2 mR (cB (.int 2)) (gv 3)))) (ao (cB (.str "ab01xyz9")) (ao (b2 gB (cY mQ (ao (cB (.int 3)) (ao (cB (.int 12)) aQ))) (b2 gD (b2 o8 (b2 gB (gv 1) (b2 bQ (cB (.int 2)) (b2 mR (cB (.int 2)) (gv 3)))) (cB (.int 999))) (cB (.int 2)))) aQ))))) (gv 4)) jL)) (gn [3,4]))
def j4:Ev->Option Out:=(aH (setG 2 (fun _=>some (.m [] none))) (aH (nH (Qn (ao (b2 gD (b2 gB (gv 1) (cB (.int 0))) (cB (.int 9))) aQ)) (lX 3) n6) (aH (jV (cY gC (ao (gv 0) (ao (cY mU (ao (dG (xY (cY zK (ao (gv 2) aQ))) (lX 1) lZ (cY gC (ao (gv 1) (ao (b2 CW (gv 0) (gv 1)) aQ))) [2] 1) aQ)) aQ)))) jL)))
def dY:List Bx->Option Bx:=fG 5 j4
def m7:Ev->Option Out:=(aH (aH (setG 7 (b2 gB (gv 4) (b2 gD (b2 bQ (b2 mR (cB (.int 7)) (gv 6)) (b2 gB (gv 3) (cB (.int 7)))) (cB (.int 15))))) (aH (Qm 5 (b1 uY (dM 2 dY (ao (gv 7) (ao (b1 uY (dM 2 bV (ao (b1 uY (dM 2 dX (ao (gv 0) (ao (b1 uY (b2 bQ (b2 bQ (gv 1) (cB (.int 1))) (gv 6))) aQ)))) (ao (cB (.int 17)) aQ)))) aQ))))) jL)) (gn [6,7]))
def jB:Ev->Option Out:=(aH (setG 3 (dM 2 bV (ao (b1 uY (dM 2 dX (ao (gv 0) (ao (gv 1) aQ)))) (ao (cB (.int 8)) aQ)))) (aH (setG 4 (dM 2 iZ (ao (gv 3) (ao (cB (.int 15)) aQ)))) (aH (setG 5 (cY mQ aQ)) (aH (nH (Qn (ao (b2 gD (b2 gB (gv 3) (cB (.int 6))) (b2 bQ (gv 2) (cB (.int 1)))) aQ)) (lX 6) m7) (aH (jV (cY mU (ao (gv 5) aQ))) jL)))))
def cN:List Bx->Option Bx:=fG 8 jB
def KQ:Ev->Option LS_:=Wq (xY (gv 0)) (lX 0) lZ (b2 gB (gv 0) (cB (.int 0))) [] 1
def JG:Ev->Option Out:=fun ρ=>(JD 2 3 KQ (Ke (gv 1)) (b2 gB (gv 3) (cB (.int 0))) (fun _=>none) ρ).bind fun r=>match r with
 |.inl ρ'=>aH (jV (b2 bQ (gv 0) (gv 1))) jL ρ'
 |.inr _=>none
def Aa:Ev->Option Dt:=fun ρ=>(JD 2 3 KQ (Ke (gv 1)) (b2 gB (gv 3) (cB (.int 0))) (rzX (fun _=>true) (b2 gB (gv 3) (cB (.int 0)))) ρ).bind fun r=>match r with
 |.inl _=>none
 |.inr d=>some d
def cG:List Bx->Option Bx:=fun bs=>match fG 4 JG bs with
 |some (.z d)=>some (.z (.tup [.str "told", d]))
 |_=>(yd 4 Aa bs).bind fun d=>some (.z (.tup [.str "refused", d]))
def fJ:Ev->Option Out:=(aH (setG 2 (dG (xY (gv 0)) (lX 0) lZ (b2 gB (gv 0) (cB (.int 0))) [] 1)) (aH (setG 3 (dG (xY (gv 1)) (lX 1) (yP inF (b2 gB (gv 1) (cB (.int 0))) (gv 0)) (b2 gB (gv 1) (cB (.int 0))) [2] 1)) (aH (BK (yP Ie (gv 3) (cY mQ aQ)) (aH (jV (b2 eqB (dM 2 cG (ao (gv 0) (ao (gv 1) aQ))) (cY gC (ao (cB (.str "refused")) (ao (b2 gB (gv 3) (cB (.int 0))) aQ))))) jL) jL) (aH (jV (b2 eqB (dM 2 cG (ao (gv 0) (ao (gv 1) aQ))) (cY gC (ao (cB (.str "told")) (ao (b1 uY (b2 bQ (gv 0) (gv 1))) aQ))))) jL))))
def bL:List Bx->Option Bx:=fG 4 fJ
def iH:Ev->Option Out:=(aH (setG 3 (b2 gD (gv 1) (cY pq (ao (gv 0) aQ)))) (aH (jV (b2 bQ (b2 bQ (CN (gv 0) iW (kW (gv 3))) (b2 gB (cB (.str "abcdefghijklmnopqrstuvwxyz")) (b2 gD (gv 2) (cB (.int 26))))) (CN (gv 0) (kW (b2 bQ (gv 3) (cB (.int 1)))) iW))) jL))
def cH:List Bx->Option Bx:=fG 4 iH
def vM:Ev->Option Out:=(aH (aH (BK (yP eqB (gv 2) (gv 1)) (aH (jV (gv 3)) jL) jL) jL) (gn [2,3]))
def uc:Ev->Option Out:=(aH (nH (Ke (b2 gB (gv 0) (cB (.int 1)))) (oY 2 (eN (lX 2) (eN (lX 3) rA))) vM) (aH (jV (cB .non)) jL))
def lB:List Bx->Option Bx:=fG 4 uc
def lR:Ev->Option Out:=(aH (aH (BK (yP eqB (gv 3) (gv 1)) (aH (aH (setG 2 (gv 4)) jL) (gn [])) (aH jL (gn []))) jL) (gn [3,4]))
def iI:Ev->Option Out:=(aH (setG 2 (cB .non)) (aH (nH (Ke (b2 gB (gv 0) (cB (.int 1)))) (oY 2 (eN (lX 3) (eN (lX 4) rA))) lR) (aH (jV (b2 eqB (dM 2 lB (ao (gv 0) (ao (gv 1) aQ))) (gv 2))) jL)))
def cJ:List Bx->Option Bx:=fG 5 iI
def mD:Ev->Option Out:=(aH (setG 3 (cB (.str "abcdefghijklmnopqrstuvwxyz0123456789 ABCDEFGHIJKLMNOPQRSTUVWXYZ"))) (aH (setG 3 (b2 bQ (gv 3) (cB (.str "!#$&'()*+,-./:;<=>?\x40[]^_`{|}~\"\\")))) (aH (setG 4 (b2 gB (gv 3) (b2 gD (b2 o8 (gv 2) (cB (.int 6))) (b2 gB (cY mQ (ao (cB (.int 36)) (ao (cB (.int 94)) aQ))) (b2 gD (b2 o8 (gv 2) (cB (.int 3))) (cB (.int 2))))))) (aH (setG 5 (b2 gD (gv 1) (b2 bQ (cY pq (ao (gv 0) aQ)) (cB (.int 1))))) (aH (jV (b2 gB (cY mQ (ao (b1 uY (b2 bQ (b2 bQ (CN (gv 0) iW (kW (gv 5))) (gv 4)) (CN (gv 0) (kW (gv 5)) iW))) (ao (b1 uY (b2 bQ (b2 bQ (CN (gv 0) iW (kW (gv 5))) (gv 4)) (CN (gv 0) (kW (b2 bQ (gv 5) (cB (.int 1)))) iW))) (ao (b1 uY (b2 bQ (CN (gv 0) iW (kW (gv 5))) (CN (gv 0) (kW (b2 bQ (gv 5) (cB (.int 1)))) iW))) aQ)))) (b2 gD (gv 2) (cB (.int 3))))) jL)))))
def fK:List Bx->Option Bx:=fG 6 mD
def mF:Ev->Option Out:=(aH (jV (Pu (Ql lV (gv 0)) (Pu (ch3 leB leB (cB (.int 1)) (cY pq (ao (gv 0) aQ)) (gv 2)) (cY allB (ao (dG (xY (gv 0)) (lX 1) lZ (b2 inF (gv 1) (gv 0)) [1] 1) aQ))))) jL)
def gK:List Bx->Option Bx:=fG 3 mF
def ud:Ev->Option Out:=(aH (jV (dM 3 gK (ao (gv 0) (ao (cB (.str "abcdefghijklmnopqrstuvwxyz")) (ao (cB (.int 8)) aQ))))) jL)
def gW:List Bx->Option Bx:=fG 1 ud
def j5:Ev->Option Out:=(aH (BK (V8 (IW (tV (dM 1 gW (ao (gv 1) aQ)))) (yP Qi (gv 1) (dG (xY (gv 0)) (lX 0) lZ (b2 gB (gv 0) (cB (.int 0))) [] 1))) (aH (jV (cY gC (ao (cB (.str "refused")) (ao (gv 1) aQ)))) jL) jL) (aH (jV (cY gC (ao (cB (.str "told")) (ao (cY mU (ao (dG (xY (gv 0)) (lX 1) (yP Ie (b2 gB (gv 1) (cB (.int 0))) (gv 0)) (gv 1) [1] 1) aQ)) aQ)))) jL))
def gw:List Bx->Option Bx:=fG 2 j5
def jm:Ev->Option Out:=(aH (setG 2 (cY gC (ao (cB (.str "refused")) (ao (gv 1) aQ)))) (aH (BK (yP inX (gv 1) (dG (xY (gv 0)) (lX 0) lZ (b2 gB (gv 0) (cB (.int 0))) [] 1)) (aH (aH (setG 2 (cY gC (ao (cB (.str "told")) (ao (cY mU (ao (dG (xY (gv 0)) (lX 1) (yP Ie (b2 gB (gv 1) (cB (.int 0))) (gv 0)) (gv 1) [1] 1) aQ)) aQ)))) jL) (gn [])) (aH jL (gn []))) (aH (jV (b2 eqB (dM 2 gw (ao (gv 0) (ao (gv 1) aQ))) (gv 2))) jL)))
def cu:List Bx->Option Bx:=fG 3 jm
def Ab:Ev->Option Out:=(aH (aH (BK (IW (tV (dM 2 bL (ao (gv 7) (ao (gv 8) aQ))))) (aH (jV (cB (.bl false))) jL) jL) jL) (gn [7,8]))
def Ad:Ev->Option Out:=(aH (aH (setG 10 (b2 bQ (dG (xY (b2 gB (gv 9) (cB (.int 1)))) (oY 2 (eN (lX 0) (eN (lX 1) rA))) lZ (gv 0) [] 2) (cY mQ (ao (cB (.str "a")) (ao (cB (.str "zz")) (ao (cB (.str "name")) (ao (cB (.str "p")) aQ))))))) (aH (setG 10 (b2 bQ (gv 10) (dG (xY (b2 gB (gv 9) (cB (.int 1)))) (oY 2 (eN (lX 1) (eN (lX 2) rA))) lZ (b1 uY (dM 3 cH (ao (gv 1) (ao (b2 gB (gv 0) (cB (.int 3))) (ao (b2 o8 (b2 gB (gv 0) (cB (.int 4))) (cB (.int 7))) aQ))))) [3] 2))) (aH (BK (IW (tV (cY allB (ao (dG (xY (gv 10)) (lX 1) lZ (b1 uY (dM 2 cJ (ao (gv 0) (ao (gv 1) aQ)))) [9] 1) aQ)))) (aH (jV (cB (.bl false))) jL) jL) jL))) (gn [9,10]))
def KR:Ev->Option Out:=(aH (Ym (oY 2 (eN (lX 1) (eN (lX 2) rA))) (cY gC (ao (b1 uY (dM 3 cN (ao (gv 0) (ao (cB (.int 0)) (ao (cB (.int 10)) aQ))))) (ao (b1 uY (dM 3 cN (ao (gv 0) (ao (cB (.int 12)) (ao (cB (.int 10)) aQ))))) aQ)))) (aH (setG 3 (dM 2 bV (ao (b1 uY (dM 2 dX (ao (gv 0) (ao (cB (.int 24)) aQ)))) (ao (cB (.int 7)) aQ)))) (aH (BK (Mh (yP eqB (b2 gD (b2 gB (gv 3) (cB (.int 0))) (cB (.int 3))) (cB (.int 1))) (yP Ie (gv 1) (cY gC aQ))) (aH (aH (setG 4 (b2 gB (b2 gB (gv 1) (b2 gD (b2 gB (gv 3) (cB (.int 1))) (cY pq (ao (gv 1) aQ)))) (cB (.int 0)))) (aH (setG 5 (dG (xY (gv 2)) (lX 1) (yP Ie (b2 gB (gv 1) (cB (.int 0))) (gv 0)) (gv 1) [4] 1)) (aH (setG 6 (b2 gD (b2 gB (gv 3) (cB (.int 2))) (b2 bQ (cY pq (ao (gv 5) aQ)) (cB (.int 1))))) (aH (setG 2 (cY mU (ao (b2 bQ (b2 bQ (CN (gv 5) iW (kW (gv 6))) (cY mQ (ao (cY gC (ao (gv 4) (ao (cY gC aQ) aQ))) aQ))) (CN (gv 5) (kW (gv 6)) iW)) aQ))) jL)))) (gn [4,5,6])) (aH jL (gn [4,5,6]))) (aH (nH (Ke (cY mQ (ao (cY gC (ao (gv 1) (ao (gv 2) aQ))) (ao (cY gC (ao (gv 2) (ao (gv 1) aQ))) (ao (cY gC (ao (gv 1) (ao (gv 1) aQ))) (ao (cY gC (ao (gv 1) (ao (cY gC aQ) aQ))) (ao (cY gC (ao (cY gC aQ) (ao (gv 2) aQ))) aQ))))))) (oY 2 (eN (lX 7) (eN (lX 8) rA))) Ab) (aH (nH (Ke (b2 bQ (gv 1) (gv 2))) (lX 9) Ad) (aH (setG 11 (dG (xY (gv 1)) (lX 0) lZ (b2 gB (gv 0) (cB (.int 0))) [] 1)) (aH (setG 12 (b2 bQ (gv 11) (dG (enC (ao (gv 11) aQ)) (oY 2 (eN (lX 1) (eN (lX 2) rA))) lZ (b1 uY (dM 3 fK (ao (gv 2) (ao (b2 gB (gv 0) (cB (.int 5))) (ao (b1 uY (b2 bQ (b2 gB (gv 0) (cB (.int 6))) (b2 mR (cB (.int 577)) (gv 1)))) aQ))))) [3] 2))) (aH (setG 12 (b2 bQ (gv 12) (cY mQ (ao (cB (.str "qqqqqqqq")) (ao (cB (.str "")) (ao (cB (.str "A")) (ao (cB .non) (ao (cB (.int 7)) (ao (cB (.bl true)) (ao (cY gC (ao (cB (.str "a")) aQ)) (ao (b1 uY (cY mQ (ao (cB (.str "a")) aQ))) (ao (cB .emp) aQ)))))))))))) (aH (jV (cY allB (ao (dG (xY (gv 12)) (lX 1) lZ (b1 uY (dM 2 cu (ao (gv 0) (ao (gv 1) aQ)))) [1] 1) aQ))) jL)))))))))
def n8:List Bx->Option Bx:=fG 13 KR
end
end G02
end
section
set_option synthInstance.maxSize 100000
namespace G02
open PySem PySem.Spec PyProof.Rows L2 P1
abbrev j6:Stmt:=top 24
abbrev dR:Stmt:=top 15
abbrev gA:Stmt:=top 16
abbrev rP:Stmt:=match top 2 with
 |.ClassDef _ _ _ b _ _ _ _ _ _ _=>b.getD 0 (.Pass ⟨0,0,0,0⟩)
 |s=>s
section
variable {P:Program} {w:World} {K:FG_} {mg:Str->Option Value} {base:Heap} {C FE fI:Addr} {Rn:FuncData}
theorem Vw:bH ["self", "name"] ["self", "name"] (aM rP):=qj
theorem KY (F:oW K "__init__" "NoName.__init__" rP fI Rn) (hx:Ng K C fI Wz "ValueError.__new__" = true) (Ni:setIn K C "name" = true) (hm:mg "FolkError" = some (.ref FE)) (hb:KJ K FE "ValueError.__init__") :
  bF P w K mg base jJ 1 fI Rn ["self", "name"] (Zy C "name" fun _=>True):=by
 refine Vm (k:=0) (fa:=cB (.str "this name is refused")) (ρ0:=fun _=>[none,none]) F Vw ky hx Ni hm hb (by decide +kernel) rfl (fun v _=>⟨_,rfl,fun H e=>⟨rfl,fun i b z=>?_,fun i j c a b z=>?_,Same.refl H,fun i c a z=>?_⟩⟩) fun cdv A outer s H E X eX hr=>?_
 ·match i with
  |0=>cases z
  |1=>cases z
  |_+2=>cases z
 ·match i with
  |0=>cases z
  |1=>cases z
  |_+2=>cases z
 ·match i with
  |0=>cases z
  |1=>cases z
  |_+2=>cases z
 ·subst eX
  exact⟨rfl,fO,pv 0,pv 0,pv 1,by decide,rfl,rfl,rfl,rfl,rfl,_,rfl⟩
variable {dw yw yx:Addr} {dZ vN vO:FuncData}
theorem WL:bH ["book", "name"] ["book", "name"] (aM gA):=qj
def Ro:Ev->Option Bool:=V8 (IW (tV (dM 1 gW (ao (gv 1) aQ)))) (yP Qi (gv 1) (dG (xY (gv 0)) (lX 0) lZ (b2 gB (gv 0) (cB (.int 0))) [] 1))
def Rp:Ev->Option Bx:=cY mU (ao (dG (xY (gv 0)) (lX 1) (yP Ie (b2 gB (gv 1) (cB (.int 0))) (gv 0)) (gv 1) [1] 1) aQ)
def Vx:Ev->Option Out:=aH (BK Ro (aH noG jL) jL) (aH (jV Rp) jL)
def KZ:Ev->Option Dt:=ifX Ro (rzX (fun _=>true) (gv 1)) (fun _=>none)
theorem abl (F:oW K "book_without" "book_without" gA yw vN) (jN:bF P w K mg base jJ 2 dw dZ ["thing"] (nF K 1 gW)) (mK:mg "is_name" = some (.ref dw)) (mL:PySem.W.keepIn K (.ref dw)=true) (mO:Binds K dZ ["thing"] []) (lM:mg "tuple" = none) :
  bF P w K mg base jJ 3 yw vN ["book", "name"] (nF K 2 (fG 2 Vx)):=by
 refine rK (k:=2) (g:=Vx) F WL rfl rfl fun cdv A outer s H E hr=>?_
 have hu:=dI hr
 exact (aB (rz (TV (Ja (Ed (Ea (cV jN (hr.mono (by decide)) rfl mK mL mO (ak (aj 1) aF)))) (Eb (jx Gy (aj 1) (iB ["row"] (qg [] []) rfl (fB (aj 0)) (fun _ _ _ _=>(aY 0 (by show List.Nodup (_++_);decide +kernel))) (fun _ _ _ _=>bZ) (fun _ _ _ _=>(bB (aj 0) aA)) (cP)) (by with_unfolding_all rfl))))) (aB Uz aX) aX) (aB (fX (mJ rJ rfl lM rE (ak (iB ["row"] (qg ["name"] [1]) rfl (fB (aj 0)) (fun _ _ _ _=>(aY 1 (by show List.Nodup (_++_);decide +kernel))) (fun _ _ _ _=>(qe (jx (Gv hu) (bB (aj 1) aA) (aj 0) (iV _)))) (fun _ _ _ _=>(aj 1)) (cP)) aF))) aX))
theorem abm (F:oW K "book_without" "book_without" gA yw vN) (jN:bF P w K mg base jJ 2 dw dZ ["thing"] (nF K 1 gW)) (mK:mg "is_name" = some (.ref dw)) (mL:PySem.W.keepIn K (.ref dw)=true) (mO:Binds K dZ ["thing"] [])
  (hx:Ng K C fI Wz "ValueError.__new__" = true) (hk:PySem.W.keepIn K (.ref C)=true) (JH:bF P w K mg base jJ 1 fI Rn ["self", "name"] (Zy C "name" fun _=>True)) (hb:Binds K Rn ["self", "name"] []) (hm:mg "NoName" = some (.ref C)) :
  bF P w K mg base (Nb P w) 3 yw vN ["book", "name"] (spX K 2 (yd 2 KZ) C "name"):=by
 refine WK (k:=2) (gx:=KZ) F WL rfl rfl fun cdv A outer s H E hr Y4 hp=>?_
 have hu:=dI hr
 exact zY (abh (TV (Ja (Ed (Ea (cV jN (hr.mono (by decide)) rfl mK mL mO (ak (aj 1) aF)))) (Eb (jx Gy (aj 1) (iB ["row"] (qg [] []) rfl (fB (aj 0)) (fun _ _ _ _=>(aY 0 (by show List.Nodup (_++_);decide +kernel))) (fun _ _ _ _=>bZ) (fun _ _ _ _=>(bB (aj 0) aA)) (cP)) (by with_unfolding_all rfl))))) (zY (Hh (WD:=fun _=>true) ky hx (by decide) hk JH hb (hr.mono (by decide)) rfl hm Y4 (aj 1) (fun _ _ _ _ _ _=>trivial))) Ri)
theorem Dp:bH ["book", "other", "names", "row"] ["book", "other"] (aM dR):=qj
theorem abn (F:oW K "books_together" "books_together" dR yx vO):bF P w K mg base jJ 2 yx vO ["book", "other"] (nF K 2 (fG 4 JG)):=by
 refine rK (k:=1) (g:=JG) F Dp rfl rfl fun cdv A outer s H E hr=>?_
 have hu:=dI hr
 exact Vo 2 3 PassesOwn.never rfl Dp.nd (z7 2 ["row"] (qg [] []) rfl Dp.nd (fB (aj 0)).run (fun _ _ _ _=>(aY 0 (by show List.Nodup (_++_);decide +kernel)).run) (fun _ _ _ _=>bZ.run) (fun _ _ _ _=>(bB (aj 0) aA).run) (cP)) (qb (aj 1)) (bB (aj 3) aA) (aB (fX (aP bf (aj 0) (aj 1))) aX)
theorem abo (F:oW K "books_together" "books_together" dR yx vO) (hx:Ng K C fI Wz "ValueError.__new__" = true) (hk:PySem.W.keepIn K (.ref C)=true) (JH:bF P w K mg base jJ 1 fI Rn ["self", "name"] (Zy C "name" fun _=>True)) (hb:Binds K Rn ["self", "name"] []) (hm:mg "NoName" = some (.ref C)) :
  bF P w K mg base (Nb P w) 3 yx vO ["book", "other"] (spX K 2 (yd 4 Aa) C "name"):=by
 refine WK (k:=2) (gx:=Aa) F Dp rfl rfl fun cdv A outer s H E hr Y4 hp=>?_
 have hu:=dI hr
 exact Vp 2 3 hp rfl Dp.nd (z7 2 ["row"] (qg [] []) rfl Dp.nd (fB (aj 0)).run (fun _ _ _ _=>(aY 0 (by show List.Nodup (_++_);decide +kernel)).run) (fun _ _ _ _=>bZ.run) (fun _ _ _ _=>(bB (aj 0) aA).run) (cP)) (qb (aj 1)) (bB (aj 3) aA) (zY (Hh (WD:=fun _=>true) ky hx (by decide) hk JH hb (hr.mono (by decide)) rfl hm Y4 (bB (aj 3) aA) (fun _ _ _ _ _ _=>trivial)))
variable {f_c fD c1 c2 c3 c4 c5 c6:Addr} {abp fdD:FuncData} {pD:LS_} {Fn Fc:List Bx->Option Bx} {Fx:List Bx->Option Dt}
theorem Dq:bH ["_law_deed", "_law_book", "_law_thing", "_law_caught_here", "_law_found", "e", "_law_others"] ["_law_deed", "_law_book", "_law_thing"] (aM j6):=qj
theorem Dr (F:oW K "_law_caught" "_law_caught" j6 f_c abp) (hk:PySem.W.keepIn K (.ref fD)=true) (hbD:Binds K fdD pD []) (G:bF P w K mg base (Nb P w) 3 fD fdD pD (fun vs H Q E=>nF K 2 Fn vs H Q E\/spX K 2 Fx C "name" vs H Q E))
  (Nr:mg "FolkError" = some (.ref FE)) (hex:PySem.W.exmOne K (.ref C) (.ref FE)=some true) (hget:rO K C=true) (hfn:PySem.W.findIn K (.ref C) "name" = some none) (m1:mg "NoReason" = some (.ref c1)) (m2:mg "NoRoom" = some (.ref c2)) (m3:mg "NoRow" = some (.ref c3)) (m4:mg "NoStep" = some (.ref c4)) (m5:mg "NoText" = some (.ref c5)) (m6:mg "NoUndo" = some (.ref c6))
  (hany:PySem.W.kitAny K (.ref C) [.ref c1,.ref c2,.ref c3,.ref c4,.ref c5,.ref c6]=some false) (hself:PySem.W.kitOne K (.ref C) (.ref C)=some true) (hve:PySem.W.kitOne K (.ref C) (.type "ValueError")=some true) (cW:mg "isinstance" = none) (JK:mg "ValueError" = none) (ZC:mg "NoName" = some (.ref C))
  (link:∀ bs r,Fc bs=some r->(∃ d,Fn bs=some (.z d)/\r=.z (.tup [.str "told", d]))\/∃ d,Fx bs=some d/\r=.z (.tup [.str "refused", d])) :
  bF P w K mg base jJ 5 f_c abp ["_law_deed", "_law_book", "_law_thing"] (Zz fD K 2 Fc):=by
 refine oW.ok (k:=4) F Dq (fun vs H Q E h=>by obtain⟨vs',rfl,h,_⟩:=h;rw[QU,h];rfl) fun cdv A outer s H vs Q E hr hsp=>?_
 have nd:=Dq.nd
 have hC:∀ D,D∈[C]->rO K D=true:=fun D z=>by rw[List.mem_singleton.mp z];exact hget
 have hC2:∀ D,D∈[C]->rO K D=true/\PySem.W.findIn K (.ref D) "name" = some none:=fun D z=>by rw[List.mem_singleton.mp z];exact⟨hget,hfn⟩
 refine⟨_,(by exact (jy (yZ (i:=3) nd rfl (.inl rfl) DG) (jy (yZ (i:=4) nd rfl (.inl rfl) DG) (jy (Y9 (C:=C) (iv:=5) (iy:=4) (f:=fD) rfl rfl nd rfl rfl rfl rfl rfl Nr hex (fun a=>tL (yZ (X:=Cx.inX _ a) (i:=3) nd rfl (.inl rfl) (pv 5))) (pv 0) G (hr.mono (by decide)) hk hbD (bK (pv 1) (bK (pv 2) lg))) (jy (FZ (W5 (W4 (pv 3))) (tL (yX (zc (bK DK (bK (pv 4) lg))))) yI) (jy (yZ (i:=6) nd rfl (.inl rfl) (qY (zX (Cs:=[C]) hC) rfl cW rfl (bK (pv 3) (bK (zc (bK (lH (v:=.ref c1) rfl m1 rfl) (bK (lH (v:=.ref c2) rfl m2 rfl) (bK (lH (v:=.ref c3) rfl m3 rfl) (bK (lH (v:=.ref c4) rfl m4 rfl) (bK (lH (v:=.ref c5) rfl m5 rfl) (bK (lH (v:=.ref c6) rfl m6 rfl) lg))))))) lg)))) (jy (FZ (PW.pt (Oo (Ih (pv 6)) (Oo (Ii (Ih (qY (zX (Cs:=[C]) hC) rfl cW rfl (bK (pv 3) (bK (lH (v:=.ref C) rfl ZC rfl) lg))))) (Om (Ii (Ih (qY (zX (Cs:=[C]) hC) rfl cW rfl (bK (pv 3) (bK (JX (v:=.ty "ValueError") rfl JK rfl rfl) lg))))))))) (tL (yX (zc (bK DK (bK DG lg))))) yI) (tL (yX (zc (bK DK (bK (Za (Cs:=[C]) hC2 (pv 3) rfl) lg)))))))))))),?_⟩
 obtain⟨vs',rfl,hl,bs,r,reps,no,er,q⟩:=hsp
 obtain⟨v1,v2,rfl⟩:∃ v1 v2,vs'=[v1,v2]:=by
  match vs',hl with
  |[v1,v2],_=>exact⟨v1,v2,rfl⟩
 rcases link bs r er with⟨d,en,rfl⟩|⟨d,ex,rfl⟩
 ·refine⟨.ref fD,rfl,rfl,v1,rfl,v2,rfl,.inl ⟨rfl,bs,_,reps,no,en,fun v H' s' _ r'=>?_⟩⟩
  refine⟨.non,rfl,true,rfl,?_⟩
  show (if true=true then _ else _)
  rw[zi rfl]
  refine⟨v,rfl,(show 2<=sizeLine by decide +kernel),fun p hp=>q _ _ (s'.trans (bJ hp)) trivial ?_⟩
  have kp:=Kp.of (bJ (o:=.tup [.str "told", v]) hp)
  show Rep K _ _ _
  simp only[Rep]
  exact⟨p,_,rfl,.inl (.inl aU),aR.cons (by simp only[Rep];exact⟨trivial,by decide +kernel⟩) (aR.cons (Rep.kp kp r') aR.nil)⟩
 ·refine⟨.ref fD,rfl,rfl,v1,rfl,v2,rfl,.inr ⟨rfl,bs,d,reps,no,ex,fun dx v H' s' ed r'=>⟨rfl,dx,rfl,fun a na=>?_⟩⟩⟩
  refine⟨.ref a,rfl,?_⟩
  have s4:Same H' (upd H' a (Rf a C dx)):=bJ na
  refine⟨.ref a,rfl,false,rfl,?_⟩
  show (if false=true then _ else _)
  rw[zw zr]
  refine⟨.ref a,rfl,(show 6<=sizeLine by decide +kernel),fun p hp=>?_⟩
  have s5:Same (upd H' a (Rf a C dx)) (upd (upd H' a (Rf a C dx)) p (.tup [.ref c1,.ref c2,.ref c3,.ref c4,.ref c5,.ref c6])):=bJ hp
  have ea:=s5 _ _ (aU (H:=H') (a:=a) (o:=Rf a C dx))
  have ed5:=s5 _ _ (s4 _ _ ed)
  refine⟨a,C,dx,_,_,false,List.mem_singleton.mpr rfl,rfl,ea,ed5,.inr (.inr ⟨p,[c1,c2,c3,c4,c5,c6],rfl,aU,hany⟩),?_⟩
  generalize hH5:upd (upd H' a (Rf a C dx)) p (.tup [.ref c1,.ref c2,.ref c3,.ref c4,.ref c5,.ref c6])=H5 at *
  refine⟨.bl false,rfl,false,rfl,?_⟩
  show (if false=true then _ else _)
  rw[zw zr]
  refine⟨.ref a,rfl,a,C,dx,_,_,true,List.mem_singleton.mpr rfl,rfl,ea,ed5,.inl ⟨C,rfl,hself⟩,true,rfl,?_⟩
  show (if false=true then _ else _)
  rw[zw zr]
  refine⟨.ref a,rfl,a,C,dx,_,_,true,List.mem_singleton.mpr rfl,rfl,ea,ed5,.inr (.inl ⟨"ValueError", rfl,hve⟩),true,rfl,?_⟩
  show (if false=true then _ else _)
  rw[zw zr]
  refine⟨.ref a,rfl,a,C,dx,v,List.mem_singleton.mpr rfl,rfl,ea,ed5,(show 2<=sizeLine by decide +kernel),fun p2 hp2=>q _ _ (((s'.trans s4).trans s5).trans (bJ hp2)) trivial ?_⟩
  have kp:=Kp.of ((s4.trans s5).trans (bJ (o:=.tup [.str "refused", v]) hp2))
  show Rep K _ _ _
  simp only[Rep]
  exact⟨p2,_,rfl,.inl (.inl aU),aR.cons (by simp only[Rep];exact⟨trivial,by decide +kernel⟩) (aR.cons (Rep.kp kp r') aR.nil)⟩
theorem adF {x:Str} {f:Ev->Option Bx} {ρ:Ev} {b:Bx} (h:cY gC (ao (cB (.str x)) (ao f aQ)) ρ=some b):∃ d,f ρ=some (.z d)/\b=.z (.tup [.str x,d]):=by
 obtain⟨bs,eb,h⟩:=bind_some h
 obtain⟨b0,e0,eb⟩:=bind_some eb
 cases e0
 obtain⟨bs',e1,eb⟩:=bind_some eb
 cases eb
 obtain⟨b1,e2,e1⟩:=bind_some e1
 obtain⟨bs2,e3,e1⟩:=bind_some e1
 cases e3
 cases e1
 unfold gC at h
 split at h
 ·obtain⟨ds,ed,h⟩:=bind_some h
  cases h
  cases b1 with
  |z d=>simp only[uZ] at ed;cases ed;exact⟨d,e2,rfl⟩
  |l _=>simp[uZ] at ed
  |o _=>simp[uZ] at ed
  |n _=>simp[uZ] at ed
  |m _ _=>simp[uZ] at ed
 ·cases h
theorem abq {x:Str} {f:Ev->Option Bx} {ρ:Ev} {r:Out} (h:aH (jV (cY gC (ao (cB (.str x)) (ao f aQ)))) jL ρ=some r):∃ d,f ρ=some (.z d)/\r=.rt (.z (.tup [.str x,d])):=by
 obtain⟨r1,e1,h⟩:=bind_some h
 obtain⟨b,eb,e1⟩:=bind_some e1
 obtain⟨d,ed,rfl⟩:=adF eb
 cases e1
 cases h
 exact⟨d,ed,rfl⟩
theorem Zc (bs:List Bx) (r:Bx) (h:gw bs=some r):(∃ d,fG 2 Vx bs=some (.z d)/\r=.z (.tup [.str "told", d]))\/∃ d,yd 2 KZ bs=some d/\r=.z (.tup [.str "refused", d]):=by
 unfold gw at h
 unfold fG yd at *
 generalize bs.map some++List.replicate (2 - bs.length) none=ρ at *
 obtain⟨o,eo,h⟩:=bind_some h
 unfold j5 at eo
 obtain⟨o1,e1,eo⟩:=bind_some eo
 obtain⟨k,ek,e1⟩:=bind_some e1
 have ek:Ro ρ=some k:=ek
 cases k with
 |true=>
  rw[zi rfl] at e1
  obtain⟨d,ed,rfl⟩:=abq e1
  cases eo
  cases h
  refine .inr ⟨d,?_,rfl⟩
  unfold KZ ifX
  rw[ek]
  show rzX _ _ ρ=_
  unfold rzX
  rw[ed]
  rfl
 |false=>
  rw[zw zr] at e1
  cases e1
  obtain⟨d,ed,rfl⟩:=abq eo
  cases h
  refine .inl ⟨d,?_,rfl⟩
  have ed:Rp ρ=some (.z d):=ed
  unfold Vx aH BK
  rw[ek]
  show ((aH (jV Rp) jL ρ).bind _)=_
  unfold aH jV
  rw[ed]
  rfl
theorem Zd (bs:List Bx) (r:Bx) (h:cG bs=some r):(∃ d,fG 4 JG bs=some (.z d)/\r=.z (.tup [.str "told", d]))\/∃ d,yd 4 Aa bs=some d/\r=.z (.tup [.str "refused", d]):=by
 unfold cG at h
 split at h
 ·rename_i d e
  cases h
  exact .inl ⟨d,e,rfl⟩
 ·obtain⟨d,e,h⟩:=bind_some h
  cases h
  exact .inr ⟨d,e,rfl⟩
end
structure T (K:FG_) (mg:Str->Option Value) (jc:Addr) (jd:FuncData) (dN:Addr) (d7:FuncData) (je:Addr) (jo:FuncData) (d8:Addr) (eY:FuncData) (d9:Addr) (eZ:FuncData) (dD:Addr) (dU:FuncData) (dJ:Addr) (dO:FuncData) (yx:Addr) (vO:FuncData) (bM:Addr) (bU:FuncData) (cL:Addr) (cQ:FuncData) (lC:Addr) (lD:FuncData) (cM:Addr) (cR:FuncData) (gM:Addr) (gY:FuncData) (gO:Addr) (gZ:FuncData) (dw:Addr) (dZ:FuncData) (yw:Addr) (vN:FuncData) (fI:Addr) (Rn:FuncData) (C FE c1 c2 c3 c4 c5 c6:Addr) (cT:Addr) (dB:FuncData) (Ds:Addr) (Ae:FuncData):Prop where
 dX:oW K "_law_cell" "_law_cell" qt jc jd
 uI:Binds K jd ["_law_script", "_law_k"] []
 uJ:mg "_law_cell" = some (.ref jc)
 uK:PySem.W.keepIn K (.ref jc)=true
 bV:oW K "_law_numbers" "_law_numbers" lJ dN d7
 oK:Binds K d7 ["_law_cell_here", "_law_many"] []
 oM:mg "_law_numbers" = some (.ref dN)
 oN:PySem.W.keepIn K (.ref dN)=true
 iZ:oW K "_law_names" "_law_names" nW je jo
 Hj:Binds K jo ["_law_xs", "_law_many"] []
 Hl:mg "_law_names" = some (.ref je)
 Ho:PySem.W.keepIn K (.ref je)=true
 cZ:oW K "_law_any_text" "_law_any_text" jX d8 eY
 rQ:Binds K eY ["_law_x", "_law_letters", "_law_most"] []
 rR:mg "_law_any_text" = some (.ref d8)
 rT:PySem.W.keepIn K (.ref d8)=true
 dY:oW K "_law_wide_row" "_law_wide_row" jY d9 eZ
 Af:Binds K eZ ["_law_name", "_law_xs"] []
 Ag:mg "_law_wide_row" = some (.ref d9)
 Ah:PySem.W.keepIn K (.ref d9)=true
 cN:oW K "_law_wide_book" "_law_wide_book" jA dD dU
 qG:Binds K dU ["_law_script", "_law_at", "_law_most"] []
 qH:mg "_law_wide_book" = some (.ref dD)
 qI:PySem.W.keepIn K (.ref dD)=true
 vP:oW K "_law_caught" "_law_caught" j6 dJ dO
 qw:Binds K dO ["_law_deed", "_law_book", "_law_thing"] []
 qx:mg "_law_caught" = some (.ref dJ)
 qy:PySem.W.keepIn K (.ref dJ)=true
 abr:oW K "books_together" "books_together" dR yx vO
 adG:Binds K vO ["book", "other"] []
 abt:mg "books_together" = some (.ref yx)
 adH:PySem.W.keepIn K (.ref yx)=true
 bL:oW K "_law_together_right" "_law_together_right" fH bM bU
 rU:Binds K bU ["_law_one", "_law_other"] []
 rW:mg "_law_together_right" = some (.ref bM)
 rY:PySem.W.keepIn K (.ref bM)=true
 cH:oW K "_law_other_field" "_law_other_field" iD cL cQ
 vQ:Binds K cQ ["_law_field", "_law_place", "_law_x"] []
 vR:mg "_law_other_field" = some (.ref cL)
 vU:PySem.W.keepIn K (.ref cL)=true
 lB:oW K "word_of" "word_of" tY lC lD
 Nt:Binds K lD ["row", "field"] []
 Nu:mg "word_of" = some (.ref lC)
 Nv:PySem.W.keepIn K (.ref lC)=true
 cJ:oW K "_law_words_right" "_law_words_right" iG cM cR
 vV:Binds K cR ["_law_row", "_law_field"] []
 vW:mg "_law_words_right" = some (.ref cM)
 vX:PySem.W.keepIn K (.ref cM)=true
 fK:oW K "_law_signed" "_law_signed" mq gM gY
 Fg:Binds K gY ["_law_text", "_law_place", "_law_x"] []
 Fi:mg "_law_signed" = some (.ref gM)
 Fj:PySem.W.keepIn K (.ref gM)=true
 gK:oW K "is_text_of" "is_text_of" mC gO gZ
 Fl:Binds K gZ ["thing", "signs", "longest"] []
 Fo:mg "is_text_of" = some (.ref gO)
 Fp:PySem.W.keepIn K (.ref gO)=true
 gW:oW K "is_name" "is_name" tZ dw dZ
 mO:Binds K dZ ["thing"] []
 mK:mg "is_name" = some (.ref dw)
 mL:PySem.W.keepIn K (.ref dw)=true
 abu:oW K "book_without" "book_without" gA yw vN
 adI:Binds K vN ["book", "name"] []
 adJ:mg "book_without" = some (.ref yw)
 adK:PySem.W.keepIn K (.ref yw)=true
 F_I:oW K "__init__" "NoName.__init__" rP fI Rn
 b_I:Binds K Rn ["self", "name"] []
 hx:Ng K C fI Wz "ValueError.__new__" = true
 Ni:setIn K C "name" = true
 hbi:KJ K FE "ValueError.__init__"
 ZC:mg "NoName" = some (.ref C)
 Nr:mg "FolkError" = some (.ref FE)
 hkC:PySem.W.keepIn K (.ref C)=true
 hex:PySem.W.exmOne K (.ref C) (.ref FE)=some true
 hget:rO K C=true
 hfn:PySem.W.findIn K (.ref C) "name" = some none
 m1:mg "NoReason" = some (.ref c1)
 m2:mg "NoRoom" = some (.ref c2)
 m3:mg "NoRow" = some (.ref c3)
 m4:mg "NoStep" = some (.ref c4)
 m5:mg "NoText" = some (.ref c5)
 m6:mg "NoUndo" = some (.ref c6)
 hany:PySem.W.kitAny K (.ref C) [.ref c1,.ref c2,.ref c3,.ref c4,.ref c5,.ref c6]=some false
 hself:PySem.W.kitOne K (.ref C) (.ref C)=some true
 hve:PySem.W.kitOne K (.ref C) (.type "ValueError")=some true
 JK:mg "ValueError" = none
 cu:oW K "_law_left_right" "_law_left_right" jl cT dB
 w5:Binds K dB ["_law_book", "_law_thing"] []
 w6:mg "_law_left_right" = some (.ref cT)
 xg:PySem.W.keepIn K (.ref cT)=true
 n8:oW K "law" "law" z9 Ds Ae
 afK:Binds K Ae ["_law_script"] []
 afL:mg "law" = some (.ref Ds)
 afM:PySem.W.keepIn K (.ref Ds)=true
 K1:mg "abs" = none
 Du:mg "all" = none
 oh:mg "enumerate" = none
 K3:mg "int" = none
 cW:mg "isinstance" = none
 rZ:mg "len" = none
 mG:mg "range" = none
 vY:mg "sorted" = none
 K4:mg "str" = none
 lM:mg "tuple" = none
 Nx:∃ tk,mg "LETTERS" = some (.str "abcdefghijklmnopqrstuvwxyz" tk)
 Ai:∃ tk,mg "LONGEST_NAME" = some (.int 8 tk)
section
variable {P:Program} {w:World} {K:FG_} {mg:Str->Option Value} {base:Heap} {jc:Addr} {jd:FuncData} {dN:Addr} {d7:FuncData} {je:Addr} {jo:FuncData} {d8:Addr} {eY:FuncData} {d9:Addr} {eZ:FuncData} {dD:Addr} {dU:FuncData} {dJ:Addr} {dO:FuncData} {yx:Addr} {vO:FuncData} {bM:Addr} {bU:FuncData} {cL:Addr} {cQ:FuncData} {lC:Addr} {lD:FuncData} {cM:Addr} {cR:FuncData} {gM:Addr} {gY:FuncData} {gO:Addr} {gZ:FuncData} {dw:Addr} {dZ:FuncData} {yw:Addr} {vN:FuncData} {fI:Addr} {Rn:FuncData} {C FE c1 c2 c3 c4 c5 c6:Addr} {cT:Addr} {dB:FuncData} {Ds:Addr} {Ae:FuncData} (t:T K mg jc jd dN d7 je jo d8 eY d9 eZ dD dU dJ dO yx vO bM bU cL cQ lC lD cM cR gM gY gO gZ dw dZ yw vN fI Rn C FE c1 c2 c3 c4 c5 c6 cT dB Ds Ae)
theorem yg:bH ["_law_script", "_law_k", "_law_state", "_law_cell_here"] ["_law_script", "_law_k"] (aM qt):=qj
include t in
theorem Hq:bF P w K mg base jJ 1 jc jd ["_law_script", "_law_k"] (nF K 2 dX):=by
 unfold dX
 refine rK (k:=0) (g:=qu) t.dX yg rfl rfl fun cdv A outer s H E hr=>?_
 have hu:=dI hr
 have nd:=yg.nd
 exact (aB (rz (jx Qo (aj 1) (fW rH rfl t.rZ rG (ak (aj 0) aF)) (iV _)) (aB (fX (bB (aj 0) (aj 1))) aX) aX) (aB (bA 2 nd (aP cF (aP jD aA (aP bf (aP bf (aP jD (aj 1) (aj 1)) (aP jD aA (aj 1))) aA)) aA)) (aB (oF PassesOwn.never rfl (qb (o9 (aj 0) fY (fZ aA))) (aY 3 nd) (cg [3] (aB (bA 2 nd (aP cF (aP bf (aP jD (aj 2) aA) (aj 3)) aA)) aX))) (aB (fX (aj 2)) aX))))
theorem su:bH ["_law_cell_here", "_law_many", "_law_found", "_law_state", "_law_digits", "_law_k"] ["_law_cell_here", "_law_many"] (aM lJ):=qj
include t in
theorem Aj:bF P w K mg base jJ 1 dN d7 ["_law_cell_here", "_law_many"] (nF K 2 bV):=by
 unfold bV
 refine rK (k:=0) (g:=lK) t.bV su rfl rfl fun cdv A outer s H E hr=>?_
 have hu:=dI hr
 have nd:=su.nd
 exact (aB (bA 2 nd (jR aF)) (aB (bA 3 nd (aP cF (aP jD (aP bf (aP cF (aj 0) aA) aA) aA) aA)) (aB (bA 4 nd aA) (aB (rz (TV (Ja (jx Qo (aj 0) aA (iV _)) (Eb (jx aaK (aj 0) (aP Yb aA aA) (iV _))))) (cg [] (aB (bA 4 nd (fW Yk rfl t.K1 Yh (ak (aj 0) aF))) aX)) (cg [] aX)) (aB (oF PassesOwn.never rfl (oZ rfl t.mG (ak (aj 1) aF)) (aY 5 nd) (cg [5] (aB (bA 3 nd (aP cF (aP bf (aP bf (aP jD (aj 3) (aP bf (aP cF (aj 3) aA) aA)) (aP jD aA (aj 5))) aA) aA)) (aB (Jc 2 (bB (jR (ak (aj 3) (ak (aP cF (aj 4) aA) aF))) (mJ Yl rfl t.K3 Ye (ak (wN aaJ (aj 4) aA (iV _)) aF)))) (aB (bA 4 nd (aP lY (aj 4) aA)) aX))))) (aB (J9 2) aX))))))
theorem vZ:bH ["_law_xs", "_law_many", "_law_letters", "_law_stem", "_law_at", "_law_found", "_law_k", "_law_mark", "_law_name"] ["_law_xs", "_law_many"] (aM nW):=qj
include t in
theorem Fq:bF P w K mg base jJ 1 je jo ["_law_xs", "_law_many"] (nF K 2 iZ):=by
 unfold iZ
 refine rK (k:=0) (g:=nY) t.iZ vZ rfl rfl fun cdv A outer s H E hr=>?_
 have hu:=dI hr
 have nd:=vZ.nd
 exact (aB (bA 2 nd fO) (aB (bA 3 nd (Uk (iB ["_law_k"] (qg ["_law_letters", "_law_xs"] [2,0]) rfl (X7 (oZ rfl t.mG (ak (aP cF (bB (aj 0) aA) aA) aF))) (fun _ _ _ _=>(aY 2 (by show List.Nodup (_++_);decide +kernel))) (fun _ _ _ _=>bZ) (fun _ _ _ _=>(bB (aj 0) (aP cF (aP lY (bB (aj 1) (aj 2)) aA) aA))) (cP)))) (aB (bA 4 nd (aP cF (bB (aj 0) aA) (aP bf (fW rH rfl t.rZ rG (ak (aj 3) aF)) aA))) (aB (bA 5 nd (jR aF)) (aB (oF PassesOwn.never rfl (oZ rfl t.mG (ak (aj 1) aF)) (aY 6 nd) (cg [6,7,8] (aB (bA 7 nd (bB (aj 2) (aP cF (aP bf (aj 6) (bB (aj 0) aA)) aA))) (aB (bA 8 nd (aP bf (aP bf (o9 (aj 3) fY (fZ (aj 4))) (aj 7)) (o9 (aj 3) (fZ (aj 4)) fY))) (aB (rz (jx (of_eq hu) (aP cF (bB (aj 0) aA) aA) aA (iV _)) (cg [] (aB (bA 8 nd (aP jD (bB (aj 2) (aP lY (aj 6) aA)) (aP bf aA (aP cF (aj 6) aA)))) aX)) (cg [] aX)) (aB (Jc 5 (aj 8)) aX)))))) (aB (J9 5) aX))))))
theorem qJ:bH ["_law_x", "_law_letters", "_law_most", "_law_found", "_law_k"] ["_law_x", "_law_letters", "_law_most"] (aM jX):=qj
include t in
theorem yC:bF P w K mg base jJ 1 d8 eY ["_law_x", "_law_letters", "_law_most"] (nF K 3 cZ):=by
 unfold cZ
 refine rK (k:=0) (g:=jZ) t.cZ qJ rfl rfl fun cdv A outer s H E hr=>?_
 have hu:=dI hr
 have nd:=qJ.nd
 exact (aB (bA 3 nd fO) (aB (oF PassesOwn.never rfl (oZ rfl t.mG (ak (aP bf aA (aP cF (aj 0) (aj 2))) aF)) (aY 4 nd) (cg [4] (aB (bA 3 nd (aP bf (aj 3) (bB (aj 1) (aP cF (aP lY (aj 0) (aP bf aA (aP jD aA (aj 4)))) (fW rH rfl t.rZ rG (ak (aj 1) aF)))))) aX))) (aB (fX (aj 3)) aX)))
theorem qK:bH ["_law_name", "_law_xs", "_law_words", "_law_k", "_law_field"] ["_law_name", "_law_xs"] (aM jY):=qj
include t in
theorem yD (j7:bF P w K mg base jJ 1 d8 eY ["_law_x", "_law_letters", "_law_most"] (nF K 3 cZ)):bF P w K mg base jJ 2 d9 eZ ["_law_name", "_law_xs"] (nF K 2 dY):=by
 unfold dY
 refine rK (k:=1) (g:=j4) t.dY qK rfl rfl fun cdv A outer s H E hr=>?_
 have hu:=dI hr
 have nd:=qK.nd
 exact (aB (bA 2 nd Ul) (aB (oF PassesOwn.never rfl (oZ rfl t.mG (ak (aP cF (bB (aj 1) aA) aA) aF)) (aY 3 nd) (cg [3,4] (aB (bA 4 nd (cV j7 (hr.mono (by decide)) rfl t.rR t.rT t.rQ (ak (bB (aj 1) (aP bf aA (aP jD aA (aj 3)))) (ak fO (ak (bB (jR (ak aA (ak aA aF))) (aP cF (aP lY (bB (aj 1) (aP bf aA (aP jD aA (aj 3)))) aA) aA)) aF))))) (aB (Uo 2 hu (jQ (cV j7 (hr.mono (by decide)) rfl t.rR t.rT t.rQ (ak (bB (aj 1) (aP bf aA (aP jD aA (aj 3)))) (ak fO (ak (bB (jR (ak aA (ak aA aF))) (aP cF (aP lY (bB (aj 1) (aP bf aA (aP jD aA (aj 3)))) aA) aA)) aF))))) (aj 4)) aX)))) (aB (fX (iw (ak (aj 0) (ak (mJ rJ rfl t.lM rE (ak (iB ["_law_field"] (qg ["_law_words"] [2]) rfl (fB (fW (Jr rfl) rfl t.vY Ms (ak (aj 2) aF))) (fun _ _ _ _=>(aY 1 (by show List.Nodup (_++_);decide +kernel))) (fun _ _ _ _=>bZ) (fun _ _ _ _=>(iw (ak (aj 1) (ak (Um hu (aj 0) (aj 1)) aF)))) (cP)) aF)) aF)))) aX)))
theorem pC:bH ["_law_script", "_law_at", "_law_most", "_law_head", "_law_names_here", "_law_found", "_law_k", "_law_name"] ["_law_script", "_law_at", "_law_most"] (aM jA):=qj
include t in
theorem xq (jF:bF P w K mg base jJ 1 jc jd ["_law_script", "_law_k"] (nF K 2 dX)) (sy:bF P w K mg base jJ 1 je jo ["_law_xs", "_law_many"] (nF K 2 iZ)) (fQ:bF P w K mg base jJ 1 dN d7 ["_law_cell_here", "_law_many"] (nF K 2 bV)) (ni:bF P w K mg base jJ 2 d9 eZ ["_law_name", "_law_xs"] (nF K 2 dY)):bF P w K mg base jJ 3 dD dU ["_law_script", "_law_at", "_law_most"] (nF K 3 cN):=by
 unfold cN
 refine rK (k:=2) (g:=jB) t.cN pC rfl rfl fun cdv A outer s H E hr=>?_
 have hu:=dI hr
 have nd:=pC.nd
 exact (aB (bA 3 nd (cV fQ (hr.mono (by decide)) rfl t.oM t.oN t.oK (ak (jQ (cV jF (hr.mono (by decide)) rfl t.uJ t.uK t.uI (ak (aj 0) (ak (aj 1) aF)))) (ak aA aF)))) (aB (bA 4 nd (cV sy (hr.mono (by decide)) rfl t.Hl t.Ho t.Hj (ak (aj 3) (ak aA aF)))) (aB (bA 5 nd (jR aF)) (aB (oF PassesOwn.never rfl (oZ rfl t.mG (ak (aP cF (bB (aj 3) aA) (aP bf (aj 2) aA)) aF)) (aY 6 nd) (cg [6,7] (aB (bA 7 nd (bB (aj 4) (aP cF (aP bf (aP jD aA (aj 6)) (bB (aj 3) aA)) aA))) (aB (Jc 5 (jQ (cV ni (hr.mono (by decide)) rfl t.Ag t.Ah t.Af (ak (aj 7) (ak (jQ (cV fQ (hr.mono (by decide)) rfl t.oM t.oN t.oK (ak (jQ (cV jF (hr.mono (by decide)) rfl t.uJ t.uK t.uI (ak (aj 0) (ak (jQ (aP bf (aP bf (aj 1) aA) (aj 6))) aF)))) (ak aA aF)))) aF))))) aX)))) (aB (fX (mJ rJ rfl t.lM rE (ak (aj 5) aF))) aX)))))
include t in
theorem yE:bF P w K mg base jJ 5 dJ dO ["_law_deed", "_law_book", "_law_thing"] (Zz yx K 2 cG):=
 Dr t.vP t.adH t.adG (P1.bF.or ((abn t.abr).mono (by decide)) (abo t.abr t.hx t.hkC (KY t.F_I t.hx t.Ni t.Nr t.hbi) t.b_I t.ZC)) t.Nr t.hex t.hget t.hfn t.m1 t.m2 t.m3 t.m4 t.m5 t.m6 t.hany t.hself t.hve t.cW t.JK t.ZC Zd
theorem kZ:bH ["_law_one", "_law_other", "_law_names_here", "_law_both"] ["_law_one", "_law_other"] (aM fH):=qj
include t in
theorem qR (j8:bF P w K mg base jJ 5 dJ dO ["_law_deed", "_law_book", "_law_thing"] (Zz yx K 2 cG)):bF P w K mg base jJ 6 bM bU ["_law_one", "_law_other"] (nF K 2 bL):=by
 unfold bL
 refine rK (k:=5) (g:=fJ) t.bL kZ rfl rfl fun cdv A outer s H E hr=>?_
 have hu:=dI hr
 have nd:=kZ.nd
 exact (aB (bA 2 nd (iB ["_law_row"] (qg [] []) rfl (fB (aj 0)) (fun _ _ _ _=>(aY 0 (by show List.Nodup (_++_);decide +kernel))) (fun _ _ _ _=>bZ) (fun _ _ _ _=>(bB (aj 0) aA)) (cP))) (aB (Ek 3 ["_law_row"] (qg ["_law_names_here"] [2]) rfl nd (fB (aj 1)) (fun _ _ _ _=>(aY 1 (by show List.Nodup (_++_);decide +kernel))) (fun _ _ _ _=>(qe (jx Wi (bB (aj 1) aA) (aj 0) (by with_unfolding_all rfl)))) (fun _ _ _ _=>(bB (aj 1) aA)) (cP)) (aB (rz (jx (Gv hu) (aj 3) (jR aF) (iV _)) (aB (fX (wN (of_eq hu) (zZ j8 (hr.mono (by decide)) rfl t.qx t.qy t.qw rfl t.abt (ak (aj 0) (ak (aj 1) aF))) (iw (ak fO (ak (bB (aj 3) aA) aF))) (iV _))) aX) aX) (aB (fX (wN (of_eq hu) (zZ j8 (hr.mono (by decide)) rfl t.qx t.qy t.qw rfl t.abt (ak (aj 0) (ak (aj 1) aF))) (iw (ak fO (ak (jQ (aP bf (aj 0) (aj 1))) aF))) (iV _))) aX))))
theorem nj:bH ["_law_field", "_law_place", "_law_x", "_law_at"] ["_law_field", "_law_place", "_law_x"] (aM iD):=qj
include t in
theorem uL:bF P w K mg base jJ 1 cL cQ ["_law_field", "_law_place", "_law_x"] (nF K 3 cH):=by
 unfold cH
 refine rK (k:=0) (g:=iH) t.cH nj rfl rfl fun cdv A outer s H E hr=>?_
 have hu:=dI hr
 have nd:=nj.nd
 exact (aB (bA 3 nd (aP cF (aj 1) (fW rH rfl t.rZ rG (ak (aj 0) aF)))) (aB (fX (aP bf (aP bf (o9 (aj 0) fY (fZ (aj 3))) (bB fO (aP cF (aj 2) aA))) (o9 (aj 0) (fZ (aP bf (aj 3) aA)) fY))) aX))
theorem Ak:bH ["row", "field", "own_field", "word"] ["row", "field"] (aM tY):=qj
include t in
theorem JL:bF P w K mg base jJ 1 lC lD ["row", "field"] (nF K 2 lB):=by
 unfold lB
 refine rK (k:=0) (g:=uc) t.lB Ak rfl rfl fun cdv A outer s H E hr=>?_
 have hu:=dI hr
 have nd:=Ak.nd
 exact (aB (oF PassesOwn.never rfl (qb (bB (aj 0) aA)) (uF rfl (fu (aY 2 nd) (fu (aY 3 nd) pZ))) (cg [2,3] (aB (rz (jx (of_eq hu) (aj 2) (aj 1) (iV _)) (aB (fX (aj 3)) aX) aX) aX))) (aB (fX IV) aX))
theorem nq:bH ["_law_row", "_law_field", "_law_due", "_law_one", "_law_word"] ["_law_row", "_law_field"] (aM iG):=qj
include t in
theorem uM (xu:bF P w K mg base jJ 1 lC lD ["row", "field"] (nF K 2 lB)):bF P w K mg base jJ 2 cM cR ["_law_row", "_law_field"] (nF K 2 cJ):=by
 unfold cJ
 refine rK (k:=1) (g:=iI) t.cJ nq rfl rfl fun cdv A outer s H E hr=>?_
 have hu:=dI hr
 have nd:=nq.nd
 exact (aB (bA 2 nd IV) (aB (oF PassesOwn.never rfl (qb (bB (aj 0) aA)) (uF rfl (fu (aY 3 nd) (fu (aY 4 nd) pZ))) (cg [3,4] (aB (rz (jx (of_eq hu) (aj 3) (aj 1) (iV _)) (cg [] (aB (bA 2 nd (aj 4)) aX)) (cg [] aX)) aX))) (aB (fX (wN (of_eq hu) (cV xu (hr.mono (by decide)) rfl t.Nu t.Nv t.Nt (ak (aj 0) (ak (aj 1) aF))) (aj 2) (iV _))) aX)))
theorem ux:bH ["_law_text", "_law_place", "_law_x", "_law_signs", "_law_sign", "_law_at"] ["_law_text", "_law_place", "_law_x"] (aM mq):=qj
include t in
theorem BX:bF P w K mg base jJ 1 gM gY ["_law_text", "_law_place", "_law_x"] (nF K 3 fK):=by
 unfold fK
 refine rK (k:=0) (g:=mD) t.fK ux rfl rfl fun cdv A outer s H E hr=>?_
 have hu:=dI hr
 have nd:=ux.nd
 exact (aB (bA 3 nd fO) (aB (bA 3 nd (aP bf (aj 3) fO)) (aB (bA 4 nd (bB (aj 3) (aP cF (aP lY (aj 2) aA) (bB (jR (ak aA (ak aA aF))) (aP cF (aP lY (aj 2) aA) aA))))) (aB (bA 5 nd (aP cF (aj 1) (aP bf (fW rH rfl t.rZ rG (ak (aj 0) aF)) aA))) (aB (fX (bB (jR (ak (jQ (aP bf (aP bf (o9 (aj 0) fY (fZ (aj 5))) (aj 4)) (o9 (aj 0) (fZ (aj 5)) fY))) (ak (jQ (aP bf (aP bf (o9 (aj 0) fY (fZ (aj 5))) (aj 4)) (o9 (aj 0) (fZ (aP bf (aj 5) aA)) fY))) (ak (jQ (aP bf (o9 (aj 0) fY (fZ (aj 5))) (o9 (aj 0) (fZ (aP bf (aj 5) aA)) fY))) aF)))) (aP cF (aj 2) aA))) aX)))))
theorem uy:bH ["thing", "signs", "longest"] ["thing", "signs", "longest"] (aM mC):=qj
include t in
theorem BZ:bF P w K mg base jJ 1 gO gZ ["thing", "signs", "longest"] (nF K 3 gK):=by
 unfold gK
 refine rK (k:=0) (g:=mF) t.gK uy rfl rfl fun cdv A outer s H E hr=>?_
 have hu:=dI hr
 have nd:=uy.nd
 exact (aB (fX (Px (Jk (aj 0) rfl t.cW rfl t.K4) (Px (Ph of_le of_le aA (fW rH rfl t.rZ rG (ak (aj 0) aF)) (aj 2)) (XM (fW (Jl rfl) rfl t.Du Jj (ak (iB ["sign"] (qg ["signs"] [1]) rfl (fB (aj 0)) (fun _ _ _ _=>(aY 1 (by show List.Nodup (_++_);decide +kernel))) (fun _ _ _ _=>bZ) (fun _ _ _ _=>(wN Wi (aj 1) (aj 0) (by with_unfolding_all rfl))) (cP)) aF)))))) aX)
theorem Al:bH ["thing"] ["thing"] (aM tZ):=qj
include t in
theorem JM (qz:bF P w K mg base jJ 1 gO gZ ["thing", "signs", "longest"] (nF K 3 gK)):bF P w K mg base jJ 2 dw dZ ["thing"] (nF K 1 gW):=by
 unfold gW
 refine rK (k:=1) (g:=ud) t.gW Al rfl rfl fun cdv A outer s H E hr=>?_
 have hu:=dI hr
 have nd:=Al.nd
 obtain⟨Am,Ny⟩:=t.Nx
 obtain⟨qL,Ao⟩:=t.Ai
 exact (aB (fX (cV qz (hr.mono (by decide)) rfl t.Fo t.Fp t.Fl (ak (aj 0) (ak (Pq rfl Ny) (ak (Pn rfl Ao) aF))))) aX)
include t in
theorem yF (jN:bF P w K mg base jJ 2 dw dZ ["thing"] (nF K 1 gW)):bF P w K mg base jJ 5 dJ dO ["_law_deed", "_law_book", "_law_thing"] (Zz yw K 2 gw):=
 Dr t.vP t.adK t.adI (P1.bF.or (abl t.abu jN t.mK t.mL t.mO t.lM) (abm t.abu jN t.mK t.mL t.mO t.hx t.hkC (KY t.F_I t.hx t.Ni t.Nr t.hbi) t.b_I t.ZC)) t.Nr t.hex t.hget t.hfn t.m1 t.m2 t.m3 t.m4 t.m5 t.m6 t.hany t.hself t.hve t.cW t.JK t.ZC Zc
theorem ou:bH ["_law_book", "_law_thing", "_law_due"] ["_law_book", "_law_thing"] (aM jl):=qj
include t in
theorem wg (nu:bF P w K mg base jJ 5 dJ dO ["_law_deed", "_law_book", "_law_thing"] (Zz yw K 2 gw)):bF P w K mg base jJ 6 cT dB ["_law_book", "_law_thing"] (nF K 2 cu):=by
 unfold cu
 refine rK (k:=5) (g:=jm) t.cu ou rfl rfl fun cdv A outer s H E hr=>?_
 have hu:=dI hr
 have nd:=ou.nd
 exact (aB (bA 2 nd (iw (ak fO (ak (aj 1) aF)))) (aB (rz (jx (Yw hu) (aj 1) (iB ["_law_row"] (qg [] []) rfl (fB (aj 0)) (fun _ _ _ _=>(aY 0 (by show List.Nodup (_++_);decide +kernel))) (fun _ _ _ _=>bZ) (fun _ _ _ _=>(bB (aj 0) aA)) (cP)) (by with_unfolding_all rfl)) (cg [] (aB (bA 2 nd (iw (ak fO (ak (mJ rJ rfl t.lM rE (ak (iB ["_law_row"] (qg ["_law_thing"] [1]) rfl (fB (aj 0)) (fun _ _ _ _=>(aY 1 (by show List.Nodup (_++_);decide +kernel))) (fun _ _ _ _=>(qe (jx (Gv hu) (bB (aj 1) aA) (aj 0) (iV _)))) (fun _ _ _ _=>(aj 1)) (cP)) aF)) aF)))) aX)) (cg [] aX)) (aB (fX (wN (of_eq hu) (zZ nu (hr.mono (by decide)) rfl t.qx t.qy t.qw rfl t.adJ (ak (aj 0) (ak (aj 1) aF))) (aj 2) (iV _))) aX)))
theorem Rq:bH ["_law_script", "_law_one", "_law_other", "_law_xs", "_law_name", "_law_left", "_law_at", "_law_first", "_law_second", "_law_row", "_law_fields", "_law_names_here", "_law_things"] ["_law_script"] (aM z9):=qj
include t in
theorem Ze (jF:bF P w K mg base jJ 1 jc jd ["_law_script", "_law_k"] (nF K 2 dX)) (lF:bF P w K mg base jJ 6 cT dB ["_law_book", "_law_thing"] (nF K 2 cu)) (fQ:bF P w K mg base jJ 1 dN d7 ["_law_cell_here", "_law_many"] (nF K 2 bV)) (j9:bF P w K mg base jJ 1 cL cQ ["_law_field", "_law_place", "_law_x"] (nF K 3 cH)) (qC:bF P w K mg base jJ 1 gM gY ["_law_text", "_law_place", "_law_x"] (nF K 3 fK)) (jf:bF P w K mg base jJ 6 bM bU ["_law_one", "_law_other"] (nF K 2 bL)) (jC:bF P w K mg base jJ 3 dD dU ["_law_script", "_law_at", "_law_most"] (nF K 3 cN)) (kh:bF P w K mg base jJ 2 cM cR ["_law_row", "_law_field"] (nF K 2 cJ)):bF P w K mg base jJ 7 Ds Ae ["_law_script"] (nF K 1 n8):=by
 unfold n8
 refine rK (k:=6) (g:=KR) t.n8 Rq rfl rfl fun cdv A outer s H E hr=>?_
 have hu:=dI hr
 have nd:=Rq.nd
 exact (aB (XR (iw (ak (jQ (cV jC (hr.mono (by decide)) rfl t.qH t.qI t.qG (ak (aj 0) (ak aA (ak aA aF))))) (ak (jQ (cV jC (hr.mono (by decide)) rfl t.qH t.qI t.qG (ak (aj 0) (ak aA (ak aA aF))))) aF))) (uF rfl (fu (aY 1 nd) (fu (aY 2 nd) pZ)))) (aB (bA 3 nd (cV fQ (hr.mono (by decide)) rfl t.oM t.oN t.oK (ak (jQ (cV jF (hr.mono (by decide)) rfl t.uJ t.uK t.uI (ak (aj 0) (ak aA aF)))) (ak aA aF)))) (aB (rz (TV (TQ (jx (of_eq hu) (aP cF (bB (aj 3) aA) aA) aA (iV _)) (Pr (jx (Gv hu) (aj 1) (iw aF) (iV _))))) (cg [4,5,6] (aB (bA 4 nd (bB (bB (aj 1) (aP cF (bB (aj 3) aA) (fW rH rfl t.rZ rG (ak (aj 1) aF)))) aA)) (aB (Ek 5 ["_law_row"] (qg ["_law_name"] [4]) rfl nd (fB (aj 2)) (fun _ _ _ _=>(aY 1 (by show List.Nodup (_++_);decide +kernel))) (fun _ _ _ _=>(qe (jx (Gv hu) (bB (aj 1) aA) (aj 0) (iV _)))) (fun _ _ _ _=>(aj 1)) (cP)) (aB (bA 6 nd (aP cF (bB (aj 3) aA) (aP bf (fW rH rfl t.rZ rG (ak (aj 5) aF)) aA))) (aB (bA 2 nd (mJ rJ rfl t.lM rE (ak (aP bf (aP bf (o9 (aj 5) fY (fZ (aj 6))) (jR (ak (iw (ak (aj 4) (ak (iw aF) aF))) aF))) (o9 (aj 5) (fZ (aj 6)) fY)) aF))) aX))))) (cg [4,5,6] aX)) (aB (oF PassesOwn.never rfl (qb (jR (ak (iw (ak (aj 1) (ak (aj 2) aF))) (ak (iw (ak (aj 2) (ak (aj 1) aF))) (ak (iw (ak (aj 1) (ak (aj 1) aF))) (ak (iw (ak (aj 1) (ak (iw aF) aF))) (ak (iw (ak (iw aF) (ak (aj 2) aF))) aF))))))) (uF rfl (fu (aY 7 nd) (fu (aY 8 nd) pZ))) (cg [7,8] (aB (rz (Ed (Ea (cV jf (hr.mono (by decide)) rfl t.rW t.rY t.rU (ak (aj 7) (ak (aj 8) aF))))) (aB (fX Pj) aX) aX) aX))) (aB (oF PassesOwn.never rfl (qb (aP bf (aj 1) (aj 2))) (aY 9 nd) (cg [9,10] (aB (bA 10 nd (aP bf (iB ["_law_field", "_law_word"] (qg [] []) rfl (fB (bB (aj 9) aA)) (fun _ _ _ _=>(uF rfl (fu (aY 0 (by show List.Nodup (_++_);decide +kernel)) (fu (aY 1 (by show List.Nodup (_++_);decide +kernel)) pZ)))) (fun _ _ _ _=>bZ) (fun _ _ _ _=>(aj 0)) (Je (o7 (cP) (o7 (cP) Ei)))) (jR (ak fO (ak fO (ak fO (ak fO aF))))))) (aB (bA 10 nd (aP bf (aj 10) (iB ["_law_field", "_law_word"] (qg ["_law_xs"] [3]) rfl (fB (bB (aj 9) aA)) (fun _ _ _ _=>(uF rfl (fu (aY 1 (by show List.Nodup (_++_);decide +kernel)) (fu (aY 2 (by show List.Nodup (_++_);decide +kernel)) pZ)))) (fun _ _ _ _=>bZ) (fun _ _ _ _=>(jQ (cV j9 (hr.mono (by decide)) rfl t.vR t.vU t.vQ (ak (aj 1) (ak (bB (aj 0) aA) (ak (aP lY (bB (aj 0) aA) aA) aF)))))) (Je (o7 (cP) (o7 (cP) Ei)))))) (aB (rz (Ed (Ea (fW (Jl rfl) rfl t.Du Jj (ak (iB ["_law_field"] (qg ["_law_row"] [9]) rfl (fB (aj 10)) (fun _ _ _ _=>(aY 1 (by show List.Nodup (_++_);decide +kernel))) (fun _ _ _ _=>bZ) (fun _ _ _ _=>(jQ (cV kh (hr.mono (by decide)) rfl t.vW t.vX t.vV (ak (aj 0) (ak (aj 1) aF))))) (cP)) aF)))) (aB (fX Pj) aX) aX) aX))))) (aB (Ek 11 ["_law_row"] (qg [] []) rfl nd (fB (aj 1)) (fun _ _ _ _=>(aY 0 (by show List.Nodup (_++_);decide +kernel))) (fun _ _ _ _=>bZ) (fun _ _ _ _=>(bB (aj 0) aA)) (cP)) (aB (bA 12 nd (aP bf (aj 11) (iB ["_law_k", "_law_name"] (qg ["_law_xs"] [3]) rfl (Qy rfl t.oh (ak (aj 11) aF)) (fun _ _ _ _=>(uF rfl (fu (aY 1 (by show List.Nodup (_++_);decide +kernel)) (fu (aY 2 (by show List.Nodup (_++_);decide +kernel)) pZ)))) (fun _ _ _ _=>bZ) (fun _ _ _ _=>(jQ (cV qC (hr.mono (by decide)) rfl t.Fi t.Fj t.Fg (ak (aj 2) (ak (bB (aj 0) aA) (ak (jQ (aP bf (bB (aj 0) aA) (aP jD aA (aj 1)))) aF)))))) (Je (o7 (cP) (o7 (cP) Ei)))))) (aB (bA 12 nd (aP bf (aj 12) (jR (ak fO (ak fO (ak fO (ak IV (ak aA (ak Pj (ak (iw (ak fO aF)) (ak (jQ (jR (ak fO aF))) (ak Yq aF)))))))))))) (aB (fX (fW (Jl rfl) rfl t.Du Jj (ak (iB ["_law_thing"] (qg ["_law_one"] [1]) rfl (fB (aj 12)) (fun _ _ _ _=>(aY 1 (by show List.Nodup (_++_);decide +kernel))) (fun _ _ _ _=>bZ) (fun _ _ _ _=>(jQ (cV lF (hr.mono (by decide)) rfl t.w6 t.xg t.w5 (ak (aj 0) (ak (aj 1) aF))))) (cP)) aF))) aX)))))))))
end
theorem all_mk {l:PySem.W.OpenLaw} {w:World} {K:FG_} {h:Heap} {mg:Str->Option Value} {fa:Addr} {f0:Addr} {od0 an0:Option Addr} {sl0:Array (Option Value)} {oc0 kV0 dc0 pm0 cd0 ct0:Value} {f1:Addr} {od1 an1:Option Addr} {sl1:Array (Option Value)} {oc1 kV1 dc1 pm1 cd1 ct1:Value} {f2:Addr} {od2 an2:Option Addr} {sl2:Array (Option Value)} {oc2 kV2 dc2 pm2 cd2 ct2:Value} {f3:Addr} {od3 an3:Option Addr} {sl3:Array (Option Value)} {oc3 kV3 dc3 pm3 cd3 ct3:Value} {f4:Addr} {od4 an4:Option Addr} {sl4:Array (Option Value)} {oc4 kV4 dc4 pm4 cd4 ct4:Value} {f5:Addr} {od5 an5:Option Addr} {sl5:Array (Option Value)} {oc5 kV5 dc5 pm5 cd5 ct5:Value} {f6:Addr} {od6 an6:Option Addr} {sl6:Array (Option Value)} {oc6 kV6 dc6 pm6 cd6 ct6:Value} {f7:Addr} {od7 an7:Option Addr} {sl7:Array (Option Value)} {oc7 kV7 dc7 pm7 cd7 ct7:Value} {f8:Addr} {od8 an8:Option Addr} {sl8:Array (Option Value)} {oc8 kV8 dc8 pm8 cd8 ct8:Value} {f9:Addr} {od9 an9:Option Addr} {sl9:Array (Option Value)} {oc9 kV9 dc9 pm9 cd9 ct9:Value} {f10:Addr} {adM adN:Option Addr} {adO:Array (Option Value)} {adP adQ adR adS abv adT:Value} {f11:Addr} {adU adV:Option Addr} {adW:Array (Option Value)} {adX adY adZ ad0 abw ad1:Value} {f12:Addr} {ad3 ad4:Option Addr} {ad5:Array (Option Value)} {ad6 ad7 ad8 ad9 abx aea:Value} {f13:Addr} {aec aed:Option Addr} {aee:Array (Option Value)} {aef aeg aeh aei aby aej:Value} {f14:Addr} {ael aem:Option Addr} {aen:Array (Option Value)} {aeo aep aer aes abz aeu:Value} {f15:Addr} {aew aex:Option Addr} {aey:Array (Option Value)} {aez aeA aeB aeC abA aeD:Value} {f16:Addr} {aeF abB:Option Addr} {aeG:Array (Option Value)} {aeH abC abD abE Zf abF:Value} {f17:Addr} {aeJ aeK:Option Addr} {aeL:Array (Option Value)} {aeM aeN aeO aeP abG aeQ:Value} {f18:Addr} {aeR aeS:Option Addr} {aeT:Array (Option Value)} {aeU aeV aeW aeX abI aeY:Value} {C FE q1 q2 q3 q4 q5 q6:Addr} (X:K.In h) (G:h.Ns mainGlobals mg) (hfa:mg "law" = some (.ref fa))
  (a0:Nn K "_law_cell" f0) (l0:Lk K f0 "_law_cell" qt oc0 od0 sl0 kV0 dc0 pm0 an0 cd0 ct0) (c0:PySem.W.codeIn K cd0 "_law_cell" = true) (k0:PySem.W.keepIn K (.ref f0)=true)
  (a1:Nn K "_law_numbers" f1) (l1:Lk K f1 "_law_numbers" lJ oc1 od1 sl1 kV1 dc1 pm1 an1 cd1 ct1) (c1:PySem.W.codeIn K cd1 "_law_numbers" = true) (k1:PySem.W.keepIn K (.ref f1)=true)
  (a2:Nn K "_law_names" f2) (l2:Lk K f2 "_law_names" nW oc2 od2 sl2 kV2 dc2 pm2 an2 cd2 ct2) (c2:PySem.W.codeIn K cd2 "_law_names" = true) (k2:PySem.W.keepIn K (.ref f2)=true)
  (a3:Nn K "_law_any_text" f3) (l3:Lk K f3 "_law_any_text" jX oc3 od3 sl3 kV3 dc3 pm3 an3 cd3 ct3) (c3:PySem.W.codeIn K cd3 "_law_any_text" = true) (k3:PySem.W.keepIn K (.ref f3)=true)
  (a4:Nn K "_law_wide_row" f4) (l4:Lk K f4 "_law_wide_row" jY oc4 od4 sl4 kV4 dc4 pm4 an4 cd4 ct4) (c4:PySem.W.codeIn K cd4 "_law_wide_row" = true) (k4:PySem.W.keepIn K (.ref f4)=true)
  (a5:Nn K "_law_wide_book" f5) (l5:Lk K f5 "_law_wide_book" jA oc5 od5 sl5 kV5 dc5 pm5 an5 cd5 ct5) (c5:PySem.W.codeIn K cd5 "_law_wide_book" = true) (k5:PySem.W.keepIn K (.ref f5)=true)
  (a6:Nn K "_law_caught" f6) (l6:Lk K f6 "_law_caught" j6 oc6 od6 sl6 kV6 dc6 pm6 an6 cd6 ct6) (c6:PySem.W.codeIn K cd6 "_law_caught" = true) (k6:PySem.W.keepIn K (.ref f6)=true)
  (a7:Nn K "_law_together_right" f7) (l7:Lk K f7 "_law_together_right" fH oc7 od7 sl7 kV7 dc7 pm7 an7 cd7 ct7) (c7:PySem.W.codeIn K cd7 "_law_together_right" = true) (k7:PySem.W.keepIn K (.ref f7)=true)
  (a8:Nn K "_law_other_field" f8) (l8:Lk K f8 "_law_other_field" iD oc8 od8 sl8 kV8 dc8 pm8 an8 cd8 ct8) (c8:PySem.W.codeIn K cd8 "_law_other_field" = true) (k8:PySem.W.keepIn K (.ref f8)=true)
  (a9:Nn K "word_of" f9) (l9:Lk K f9 "word_of" tY oc9 od9 sl9 kV9 dc9 pm9 an9 cd9 ct9) (c9:PySem.W.codeIn K cd9 "word_of" = true) (k9:PySem.W.keepIn K (.ref f9)=true)
  (a10:Nn K "_law_words_right" f10) (l10:Lk K f10 "_law_words_right" iG adP adM adO adQ adR adS adN abv adT) (c10:PySem.W.codeIn K abv "_law_words_right" = true) (k10:PySem.W.keepIn K (.ref f10)=true)
  (a11:Nn K "_law_signed" f11) (l11:Lk K f11 "_law_signed" mq adX adU adW adY adZ ad0 adV abw ad1) (c11:PySem.W.codeIn K abw "_law_signed" = true) (k11:PySem.W.keepIn K (.ref f11)=true)
  (a12:Nn K "is_text_of" f12) (l12:Lk K f12 "is_text_of" mC ad6 ad3 ad5 ad7 ad8 ad9 ad4 abx aea) (c12:PySem.W.codeIn K abx "is_text_of" = true) (k12:PySem.W.keepIn K (.ref f12)=true)
  (a13:Nn K "is_name" f13) (l13:Lk K f13 "is_name" tZ aef aec aee aeg aeh aei aed aby aej) (c13:PySem.W.codeIn K aby "is_name" = true) (k13:PySem.W.keepIn K (.ref f13)=true)
  (a14:Nn K "book_without" f14) (l14:Lk K f14 "book_without" gA aeo ael aen aep aer aes aem abz aeu) (c14:PySem.W.codeIn K abz "book_without" = true) (k14:PySem.W.keepIn K (.ref f14)=true)
  (a15:Nn K "_law_left_right" f15) (l15:Lk K f15 "_law_left_right" jl aez aew aey aeA aeB aeC aex abA aeD) (c15:PySem.W.codeIn K abA "_law_left_right" = true) (k15:PySem.W.keepIn K (.ref f15)=true)
  (a16:Nn K "law" f16) (l16:Lk K f16 "law" z9 aeH aeF aeG abC abD abE abB Zf abF) (c16:PySem.W.codeIn K Zf "law" = true) (k16:PySem.W.keepIn K (.ref f16)=true)
  (a17:Nn K "books_together" f17) (l17:Lk K f17 "books_together" dR aeM aeJ aeL aeN aeO aeP aeK abG aeQ) (c17:PySem.W.codeIn K abG "books_together" = true) (k17:PySem.W.keepIn K (.ref f17)=true)
  (aC:Nn K "NoName" C) (aFE:Nn K "FolkError" FE) (r1:Nn K "NoReason" q1) (r2:Nn K "NoRoom" q2) (r3:Nn K "NoRow" q3) (r4:Nn K "NoStep" q4) (r5:Nn K "NoText" q5) (r6:Nn K "NoUndo" q6)
  (aI:PySem.W.findIn K (.ref C) "__init__" = some (some (.ref f18))) (lI:K.lookup f18=some ⟨aeU,aeR,.func (PySem.W.fnOf "__init__" "NoName.__init__" (pY rP) (iz rP) (aM rP) .none aeV aeW aeX aeS abI aeY),aeT⟩) (cI:PySem.W.codeIn K abI "NoName.__init__" = true) (kI:PySem.W.keepIn K (.ref f18)=true)
  (e1:Ng K C f18 Wz "ValueError.__new__" = true) (e2:setIn K C "name" = true) (e3:PySem.W.specialIn K (.ref FE) "__getattribute__" = some (some (.builtin "type.__getattribute__"))) (e4:PySem.W.readsIn K FE (.type "type")=true) (e5:PySem.W.findCls K (.ref FE) (.type "type") "__init__" = some (.val (.builtin "ValueError.__init__"))) (e6:PySem.W.keepIn K (.ref C)=true)
  (e7:PySem.W.exmOne K (.ref C) (.ref FE)=some true) (e8:rO K C=true) (e9:PySem.W.findIn K (.ref C) "name" = some none) (e10:PySem.W.kitAny K (.ref C) [.ref q1,.ref q2,.ref q3,.ref q4,.ref q5,.ref q6]=some false) (e11:PySem.W.kitOne K (.ref C) (.ref C)=some true) (e12:PySem.W.kitOne K (.ref C) (.type "ValueError")=some true) (JK:Zn K "ValueError")
  (K1:Zn K "abs")
  (Du:Zn K "all")
  (oh:Zn K "enumerate")
  (K3:Zn K "int")
  (cW:Zn K "isinstance")
  (rZ:Zn K "len")
  (mG:Zn K "range")
  (vY:Zn K "sorted")
  (K4:Zn K "str")
  (lM:Zn K "tuple")
  {Am:Tok} (Aq:PySem.W.nsIn K mainGlobals "LETTERS" = some (some (.str "abcdefghijklmnopqrstuvwxyz" Am)))
  {qL:Tok} (qM:PySem.W.nsIn K mainGlobals "LONGEST_NAME" = some (some (.int 8 qL))) :
  ∃ fd:FuncData,(∀ (s:Shared) (v:Value),BindsTo s fd ⟨[v],[]⟩ [("_law_script", v)])/\∀ base:Heap,K.In base->base.Ns mainGlobals mg->bF l.prog w K mg base jJ 7 fa fd ["_law_script"] (nF K 1 n8):=by
 have e:=hfa.symm.trans (zz X G a16)
 cases e
 have F0:=gH (st:=qt) l0 c0 k0
 have b0:=F0.binds (ps:=["_law_script", "_law_k"]) fun _ _ _ _ _ _=>len2 fun _ _=>rfl
 have F1:=gH (st:=lJ) l1 c1 k1
 have b1:=F1.binds (ps:=["_law_cell_here", "_law_many"]) fun _ _ _ _ _ _=>len2 fun _ _=>rfl
 have F2:=gH (st:=nW) l2 c2 k2
 have b2:=F2.binds (ps:=["_law_xs", "_law_many"]) fun _ _ _ _ _ _=>len2 fun _ _=>rfl
 have F3:=gH (st:=jX) l3 c3 k3
 have b3:=F3.binds (ps:=["_law_x", "_law_letters", "_law_most"]) fun _ _ _ _ _ _=>M7 fun _ _ _=>rfl
 have F4:=gH (st:=jY) l4 c4 k4
 have b4:=F4.binds (ps:=["_law_name", "_law_xs"]) fun _ _ _ _ _ _=>len2 fun _ _=>rfl
 have F5:=gH (st:=jA) l5 c5 k5
 have b5:=F5.binds (ps:=["_law_script", "_law_at", "_law_most"]) fun _ _ _ _ _ _=>M7 fun _ _ _=>rfl
 have F6:=gH (st:=j6) l6 c6 k6
 have b6:=F6.binds (ps:=["_law_deed", "_law_book", "_law_thing"]) fun _ _ _ _ _ _=>M7 fun _ _ _=>rfl
 have F7:=gH (st:=fH) l7 c7 k7
 have b7:=F7.binds (ps:=["_law_one", "_law_other"]) fun _ _ _ _ _ _=>len2 fun _ _=>rfl
 have F8:=gH (st:=iD) l8 c8 k8
 have b8:=F8.binds (ps:=["_law_field", "_law_place", "_law_x"]) fun _ _ _ _ _ _=>M7 fun _ _ _=>rfl
 have F9:=gH (st:=tY) l9 c9 k9
 have b9:=F9.binds (ps:=["row", "field"]) fun _ _ _ _ _ _=>len2 fun _ _=>rfl
 have F10:=gH (st:=iG) l10 c10 k10
 have b10:=F10.binds (ps:=["_law_row", "_law_field"]) fun _ _ _ _ _ _=>len2 fun _ _=>rfl
 have F11:=gH (st:=mq) l11 c11 k11
 have b11:=F11.binds (ps:=["_law_text", "_law_place", "_law_x"]) fun _ _ _ _ _ _=>M7 fun _ _ _=>rfl
 have F12:=gH (st:=mC) l12 c12 k12
 have b12:=F12.binds (ps:=["thing", "signs", "longest"]) fun _ _ _ _ _ _=>M7 fun _ _ _=>rfl
 have F13:=gH (st:=tZ) l13 c13 k13
 have b13:=F13.binds (ps:=["thing"]) fun _ _ _ _ _ _=>len1 fun _=>rfl
 have F14:=gH (st:=gA) l14 c14 k14
 have b14:=F14.binds (ps:=["book", "name"]) fun _ _ _ _ _ _=>len2 fun _ _=>rfl
 have F15:=gH (st:=jl) l15 c15 k15
 have b15:=F15.binds (ps:=["_law_book", "_law_thing"]) fun _ _ _ _ _ _=>len2 fun _ _=>rfl
 have F16:=gH (st:=z9) l16 c16 k16
 have b16:=F16.binds (ps:=["_law_script"]) fun _ _ _ _ _ _=>len1 fun _=>rfl
 have F17:=gH (st:=dR) l17 c17 k17
 have b17:=F17.binds (ps:=["book", "other"]) fun _ _ _ _ _ _=>len2 fun _ _=>rfl
 have FI:oW K "__init__" "NoName.__init__" rP f18 _:=gH (st:=rP) lI cI kI
 have bI:=FI.binds (ps:=["self", "name"]) fun _ _ _ _ _ _=>len2 fun _ _=>rfl
 have t:T K mg _ _ _ _ _ _ _ _ _ _ _ _ _ _ _ _ _ _ _ _ _ _ _ _ _ _ _ _ _ _ _ _ _ _ _ _ _ _ _ _ _ _ _ _ _ _:=⟨F0,b0,zz X G a0,k0,F1,b1,zz X G a1,k1,F2,b2,zz X G a2,k2,F3,b3,zz X G a3,k3,F4,b4,zz X G a4,k4,F5,b5,zz X G a5,k5,F6,b6,zz X G a6,k6,F17,b17,zz X G a17,k17,F7,b7,zz X G a7,k7,F8,b8,zz X G a8,k8,F9,b9,zz X G a9,k9,F10,b10,zz X G a10,k10,F11,b11,zz X G a11,k11,F12,b12,zz X G a12,k12,F13,b13,zz X G a13,k13,F14,b14,zz X G a14,k14,FI,bI,e1,e2,⟨e3,e4,e5⟩,zz X G aC,zz X G aFE,e6,e7,e8,e9,zz X G r1,zz X G r2,zz X G r3,zz X G r4,zz X G r5,zz X G r6,e10,e11,e12,ZZ X G JK,F15,b15,zz X G a15,k15,F16,b16,zz X G a16,k16,ZZ X G K1,ZZ X G Du,ZZ X G oh,ZZ X G K3,ZZ X G cW,ZZ X G rZ,ZZ X G mG,ZZ X G vY,ZZ X G K4,ZZ X G lM,⟨_,zz X G Aq⟩,⟨_,zz X G qM⟩⟩
 refine⟨PySem.W.fnOf "law" "law" (pY z9) (iz z9) (aM z9) .none abC abD abE abB Zf abF,fun s v=>.of_eq rfl,fun base _ _=>?_⟩
 have jF:=Hq (P:=l.prog) (w:=w) (base:=base) t
 have fQ:=Aj (P:=l.prog) (w:=w) (base:=base) t
 have sy:=Fq (P:=l.prog) (w:=w) (base:=base) t
 have j7:=yC (P:=l.prog) (w:=w) (base:=base) t
 have ni:=yD (P:=l.prog) (w:=w) (base:=base) t j7
 have jC:=xq (P:=l.prog) (w:=w) (base:=base) t jF sy fQ ni
 have j8:=yE (P:=l.prog) (w:=w) (base:=base) t
 have jf:=qR (P:=l.prog) (w:=w) (base:=base) t j8
 have j9:=uL (P:=l.prog) (w:=w) (base:=base) t
 have xu:=JL (P:=l.prog) (w:=w) (base:=base) t
 have kh:=uM (P:=l.prog) (w:=w) (base:=base) t xu
 have qC:=BX (P:=l.prog) (w:=w) (base:=base) t
 have qz:=BZ (P:=l.prog) (w:=w) (base:=base) t
 have jN:=JM (P:=l.prog) (w:=w) (base:=base) t qz
 have nu:=yF (P:=l.prog) (w:=w) (base:=base) t jN
 have lF:=wg (P:=l.prog) (w:=w) (base:=base) t nu
 have abJ:=Ze (P:=l.prog) (w:=w) (base:=base) t jF lF fQ j9 qC jf jC kh
 exact abJ
theorem walk {l:PySem.W.OpenLaw} {q:Program} {loose:LS_} {XP:(Str->Option Value)->Heap->Prop} {YP:World->Heap->Prop} {d:DefRec} {K:Params->FG_} (hn:l.most=some 63) (hdf:d.params.defaults=[])
  (h1:∀ ns:List Int,ns.length<=63->n8 [.z (.lst (ns.map .int))]=some (.z (.bl true))) (h2:∀ ns:List Int,ns.length<=63->n8 [.l (ns.map .int)]=some (.z (.bl true)))
  (hY:∀ (w:World) (h:Heap),YP w h->(K w.params).In h)
  (F:∀ (w:World) (mg:Str->Option Value) (fa:Addr) (h:Heap),(K w.params).In h->h.Ns mainGlobals mg->mg d.name=some (.ref fa) →
   ∃ fd:FuncData,(∀ (s:Shared) (u:Value),BindsTo s fd ⟨[u],[]⟩ [("_law_script", u)])/\∀ base:Heap,(K w.params).In base->base.Ns mainGlobals mg->bF l.prog w (K w.params) mg base jJ 7 fa fd ["_law_script"] (nF (K w.params) 1 n8)) :
  PySem.W.WalkO q loose XP YP l.row.toRowW d [] (fun f vs=>PySem.call f vs):=
 L2.Pa (n:=63) (k:=7) (x := "_law_script") (CX:=jJ) (sp:=fun K=>nF K 1 n8) hn (by decide) hdf ⟨rfl,by decide,by decide⟩ hY F (fun K H a ns hl hO hS=>Yp h1 h2 K H a ns hl hO hS) fun _ _ _ _ z=>z
end G02
end
section
set_option synthInstance.maxSize 100000
namespace G02
open PySem PySem.Spec PyProof.Rows L2 P1
noncomputable section
def uz  (v5:Int) (v6:Int):Int:=(let v5:=(((v5 * (69621:Int))+v6) % (2147483647:Int));v5)
theorem Ca (v0:LI_) {fU:Bx} (jO:Lp fU (v0.map eI)) (v4:Int) (v5:Int) (v6:Int):RP uw [some fU,some ((zE eI) v4),some ((zE eI) v5),some ((zE eI) v6)] (fun s=>Out.nx ((fun v5:Int=>[some fU,some ((zE eI) v4),some ((zE eI) v5),none]) s)) (uz  v5 v6) (none):=R.tp (dH (bR 2 (gq (gF (Ko (aq 2 (zE eI) v5 rfl) 69621 (by decide)) (aq 3 (zE eI) v6 rfl)) 2147483647 (by decide)) (fun _=>rfl) fun v5=>(gG (dh v5 rfl))))
def aG (v0:LI_) (v4:Int):Int:=(if (decide (v4 < (v0.length:Int)))=true then (at' v0 v4) else (let v5:=(((48271:Int) * (((v4 * v4)+((7:Int) * v4))+(11:Int))) % (2147483647:Int));(let v5:Int:=((cut v0 none (some (3:Int))).foldl (fun (v5:Int) (v6:Int)=>(uz  v5 v6)) v5);v5)))
def jG (v0:LI_) (v4:Int):Prop:=(((decide (v4 < (v0.length:Int)))=true->In v0.length v4)/\((decide (v4 < (v0.length:Int)))=false->Mul v4 v4))
theorem JN (v0:LI_) {fU:Bx} (jO:Lp fU (v0.map eI)) (v4:Int):RP qu [some fU,some ((zE eI) v4),none,none] (fun r=>Out.rt ((zE eI) r)) (aG v0 v4) (some (jG v0 v4)):=R.tp (Di (mV (Ws (aq 1 (zE eI) v4 rfl) (x_len (kY 0 eI v0 jO rfl)))) (dH (jM (fun r=>r) (lq (kY 0 eI v0 jO rfl) (aq 1 (zE eI) v4 rfl)) (fun _=>rfl) fun _=>rfl)) (gG (bR 2 (gq (oH 48271 (by decide) (gF (gF (Wr (aq 1 (zE eI) v4 rfl) (aq 1 (zE eI) v4 rfl)) (oH 7 (by decide) (aq 1 (zE eI) v4 rfl))) (x_i 11))) 2147483647 (by decide)) (fun _=>rfl) fun v5=>(QZ (fun v5:Int=>[some fU,some ((zE eI) v4),some ((zE eI) v5),none]) v5 rfl (aa3 (YC (kY 0 eI v0 jO rfl) wW (wX (x_i 3)))) _ (fun _ _=>rfl) (fun (v5:Int) (v6:Int)=>(Ca v0 jO v4 v5 v6).r) (fun _ _=>rfl) fun v5=>(jM (fun r=>r) (aq 2 (zE eI) v5 rfl) (fun _=>rfl) fun _=>rfl)))))
theorem uN:∀ v bs,(aL eI (aZ eI aN)) v bs->bs.length=2/\(hold (some (jG v.1 v.2.1))->dX (bs.map lend)=some ((zE eI) (aG v.1 v.2.1))):=by
 rintro⟨v0,v4,_⟩ _ ⟨fU,_,rfl,jO,⟨_,rfl,rfl⟩⟩
 exact⟨rfl,fun h=>fV (g:=qu) (n:=4) (bs:=[lend fU,.z (eI v4)]) (JN v0 (G3 jO) v4) h⟩
def bO  (s1:Int×LI_×Int) (v4:Int):Int×LI_×Int:=(let v5:=((((s1.1 * ((s1.1 % (65521:Int))+(40487:Int)))+((7:Int) * v4))+(5:Int)) % (1999999973:Int));(let v8:=s1.2.1++[(at' [v5,(s1.2.2 % (1000000:Int))] (if (decide ((0:Int) < s1.2.2))=true then (1:Int) else 0))];(let v9:=(s1.2.2 / (1000000:Int));(v5,v8,v9))))
def jq  (s1:Int×LI_×Int) (v4:Int):Prop:=(Mul s1.1 ((s1.1 % (65521:Int))+(40487:Int))/\(let v5:=((((s1.1 * ((s1.1 % (65521:Int))+(40487:Int)))+((7:Int) * v4))+(5:Int)) % (1999999973:Int));(In [v5,(s1.2.2 % (1000000:Int))].length (if (decide ((0:Int) < s1.2.2))=true then (1:Int) else 0)/\vG s1.2.1.length)))
theorem xG (v6:Int) (v7:Int) (s1:Int×LI_×Int) (v4:Int):RP lA [some ((zE eI) v6),some ((zE eI) v7),some ((oE eI) s1.2.1),some ((zE eI) s1.1),some ((zE eI) s1.2.2),some ((zE eI) v4)] (fun s=>Out.nx ((fun s1:Int×LI_×Int=>[some ((zE eI) v6),some ((zE eI) v7),some ((oE eI) s1.2.1),some ((zE eI) s1.1),some ((zE eI) s1.2.2),none]) s)) (bO  s1 v4) (some (jq  s1 v4)):=R.tp (dH (bR 3 (gq (gF (gF (Wr (aq 3 (zE eI) s1.1 rfl) (gF (gq (aq 3 (zE eI) s1.1 rfl) 65521 (by decide)) (x_i 40487))) (oH 7 (by decide) (aq 5 (zE eI) v4 rfl))) (x_i 5)) 1999999973 (by decide)) (fun _=>rfl) fun v5=>(dH (QX 2 s1.2.1 rfl (lq (lO (nP (aV (aq 3 (zE eI) v5 rfl) (aV (gq (aq 4 (zE eI) s1.2.2 rfl) 1000000 (by decide)) (fP eI))) (zv rfl))) (YG (adl (aq 4 (zE eI) s1.2.2 rfl) (x_i 0)))) fun v8=>(dH (bR 4 (nO (aq 4 (zE eI) s1.2.2 rfl) 1000000 (by decide)) (fun _=>rfl) fun v9=>(gG (dh (v5,v8,v9) rfl))))))))
def pF (v6:Int) (v7:Int) (v8:LI_) (v5:Int) (v9:Int):LI_:=v8
def pG:Ev->Option Out:=(aH (Ef 2) jL)
theorem xH (v6:Int) (v7:Int) (v8:LI_) (v5:Int) (v9:Int):RP pG [some ((zE eI) v6),some ((zE eI) v7),some ((oE eI) v8),some ((zE eI) v5),some ((zE eI) v9),none] (fun r=>Out.rt ((oE eI) r)) (pF v6 v7 v8 v5 v9) (none):=R.tp (QW 2 (fun r=>r) v8 rfl (fun _=>rfl) fun _=>rfl)
def jr (v6:Int) (v7:Int) (v8:LI_) (v5:Int) (v9:Int):LI_:=(let s1:Int×LI_×Int:=((rng 0 v7.toNat).foldl (fun (s1:Int×LI_×Int) (v4:Int)=>(bO  s1 v4)) (v5,v8,v9));(pF v6 v7 s1.2.1 s1.1 s1.2.2))
def lG (v6:Int) (v7:Int) (v8:LI_) (v5:Int) (v9:Int):Prop:=(Rg v7/\yr (fun (s1:Int×LI_×Int) (v4:Int)=>(bO  s1 v4)) (fun (s1:Int×LI_×Int) (v4:Int)=>some (jq  s1 v4)) (rng 0 v7.toNat) (v5,v8,v9))
def pH:Ev->Option Out:=(aH (nH (Qn (ao (gv 1) aQ)) (lX 5) lA) pG)
theorem xJ (v6:Int) (v7:Int) (v8:LI_) (v5:Int) (v9:Int):RP pH [some ((zE eI) v6),some ((zE eI) v7),some ((oE eI) v8),some ((zE eI) v5),some ((zE eI) v9),none] (fun r=>Out.rt ((oE eI) r)) (jr v6 v7 v8 v5 v9) (some (lG v6 v7 v8 v5 v9)):=R.tp (G9 (fun s1:Int×LI_×Int=>[some ((zE eI) v6),some ((zE eI) v7),some ((oE eI) s1.2.1),some ((zE eI) s1.1),some ((zE eI) s1.2.2),none]) (v5,v8,v9) rfl (Dh (aq 1 (zE eI) v7 rfl)) _ (fun _ _=>rfl) (fun (s1:Int×LI_×Int) (v4:Int)=>(xG v6 v7 s1 v4).r) fun s1=>(xH v6 v7 s1.2.1 s1.1 s1.2.2).r)
def pI (v6:Int) (v7:Int) (v8:LI_) (v5:Int) (v9:Int):LI_:=(let v9:Int:=(if ((decide (v6 < (0:Int)))||(decide (((10:Int) ^ 18)<=v6)))=true then (let v9:=(if v6 < 0 then -v6 else v6);v9) else v9);(jr v6 v7 v8 v5 v9))
def pJ (v6:Int) (v7:Int) (v8:LI_) (v5:Int) (v9:Int):Prop:=(let v9:Int:=(if ((decide (v6 < (0:Int)))||(decide (((10:Int) ^ 18)<=v6)))=true then (let v9:=(if v6 < 0 then -v6 else v6);v9) else v9);(lG v6 v7 v8 v5 v9))
def pK:Ev->Option Out:=(aH (BK (V8 (yP Yr (gv 0) (cB (.int 0))) (yP geB (gv 0) (b2 Uc (cB (.int 10)) (cB (.int 18))))) (aH (aH (setG 4 (cY Mt (ao (gv 0) aQ))) jL) (gn [])) (aH jL (gn []))) pH)
theorem xK (v6:Int) (v7:Int) (v8:LI_) (v5:Int) (v9:Int):RP pK [some ((zE eI) v6),some ((zE eI) v7),some ((oE eI) v8),some ((zE eI) v5),some ((zE eI) v9),none] (fun r=>Out.rt ((oE eI) r)) (pI v6 v7 v8 v5 v9) (some (pJ v6 v7 v8 v5 v9)):=R.tp (G8 (fun v9:Int=>[some ((zE eI) v6),some ((zE eI) v7),some ((oE eI) v8),some ((zE eI) v5),some ((zE eI) v9),none]) (aaW (mV (Ws (aq 0 (zE eI) v6 rfl) (x_i 0))) (mV (x_ge (aq 0 (zE eI) v6 rfl) (Yy 10 18 18 (by decide) rfl)))) (dH (bR 4 (aaY (aq 0 (zE eI) v6 rfl)) (fun _=>rfl) fun v9=>(gG (dh v9 rfl)))) (gG (dh v9 rfl)) fun v9=>(xJ v6 v7 v8 v5 v9).r)
def pL (v6:Int) (v7:Int) (v8:LI_) (v5:Int):LI_:=(let v9:=(0:Int);(pI v6 v7 v8 v5 v9))
def pN (v6:Int) (v7:Int) (v8:LI_) (v5:Int):Prop:=(let v9:=(0:Int);(pJ v6 v7 v8 v5 v9))
def pO:Ev->Option Out:=(aH (setG 4 (cB (.int 0))) pK)
theorem xM (v6:Int) (v7:Int) (v8:LI_) (v5:Int):RP pO [some ((zE eI) v6),some ((zE eI) v7),some ((oE eI) v8),some ((zE eI) v5),none,none] (fun r=>Out.rt ((oE eI) r)) (pL v6 v7 v8 v5) (some (pN v6 v7 v8 v5)):=R.tp (bR 4 (x_i 0) (fun _=>rfl) fun v9=>(xK v6 v7 v8 v5 v9).r)
def pP (v6:Int) (v7:Int) (v8:LI_):LI_:=(let v5:=((((v6 % (1999999973:Int))+(31:Int)) * (765432101:Int)) % (1999999973:Int));(pL v6 v7 v8 v5))
def pQ (v6:Int) (v7:Int) (v8:LI_):Prop:=(let v5:=((((v6 % (1999999973:Int))+(31:Int)) * (765432101:Int)) % (1999999973:Int));(pN v6 v7 v8 v5))
def xO:Ev->Option Out:=(aH (setG 3 (b2 gD (b2 mR (b2 bQ (b2 gD (gv 0) (cB (.int 1999999973))) (cB (.int 31))) (cB (.int 765432101))) (cB (.int 1999999973)))) pO)
theorem xP (v6:Int) (v7:Int) (v8:LI_):RP xO [some ((zE eI) v6),some ((zE eI) v7),some ((oE eI) v8),none,none,none] (fun r=>Out.rt ((oE eI) r)) (pP v6 v7 v8) (some (pQ v6 v7 v8)):=R.tp (bR 3 (gq (Ko (gF (gq (aq 0 (zE eI) v6 rfl) 1999999973 (by decide)) (x_i 31)) 765432101 (by decide)) 1999999973 (by decide)) (fun _=>rfl) fun v5=>(xM v6 v7 v8 v5).r)
def aD (v6:Int) (v7:Int):LI_:=(let v8:=([]:List Int);(pP v6 v7 v8))
def g8 (v6:Int) (v7:Int):Prop:=(let v8:=([]:List Int);(pQ v6 v7 v8))
theorem Cd (v6:Int) (v7:Int):RP lK [some ((zE eI) v6),some ((zE eI) v7),none,none,none,none] (fun r=>Out.rt ((oE eI) r)) (aD v6 v7) (some (g8 v6 v7)):=R.tp (bR 2 (nP (fP eI) (zv rfl)) (fun _=>rfl) fun v8=>(xP v6 v7 v8).r)
theorem oO:∀ v bs,(aZ eI (aZ eI aN)) v bs->bs.length=2/\(hold (some (g8 v.1 v.2.1))->bV (bs.map lend)=some ((oE eI) (aD v.1 v.2.1))):=by
 rintro⟨v6,v7,_⟩ _ ⟨_,rfl,⟨_,rfl,rfl⟩⟩
 exact⟨rfl,fun h=>fV (g:=lK) (n:=6) (bs:=[.z (eI v6),.z (eI v7)]) (Cd v6 v7) h⟩
def eE (vb:LI_) (vc:Str) (vd:Str) (v1:Int) (v8:LS_) (v4:Int):LS_:=(let ve:=(ch vc ((v4+(at' vb (2:Int))) % (15:Int)));(let vf:=(((Txt.slice vd none (some v1))++ve)++(Txt.slice vd (some v1) none));(let vf:Str:=(if (decide (((at' vb (3:Int)) % (3:Int))=(1:Int)))=true then (let vf:=(Txt.mul (ch vc (v4 / (8:Int))) ((1:Int)+(v4 % (8:Int))));vf) else vf);(let v8:=v8++[vf];v8))))
def kj (vb:LI_) (vc:Str) (vd:Str) (v1:Int) (v8:LS_) (v4:Int):Prop:=((In vb.length (2:Int)/\In vc.length ((v4+(at' vb (2:Int))) % (15:Int)))/\(let ve:=(ch vc ((v4+(at' vb (2:Int))) % (15:Int)));((vG ((Txt.slice vd none (some v1)).length+ve.length)/\vG (((Txt.slice vd none (some v1))++ve).length+(Txt.slice vd (some v1) none).length))/\(let vf:=(((Txt.slice vd none (some v1))++ve)++(Txt.slice vd (some v1) none));((In vb.length (3:Int)/\((decide (((at' vb (3:Int)) % (3:Int))=(1:Int)))=true->(In vc.length (v4 / (8:Int))/\(((1:Int)+(v4 % (8:Int)))<=1000 ∧ -1000<=((1:Int)+(v4 % (8:Int)))/\(ch vc (v4 / (8:Int))).length<=1000))))/\(let vf:Str:=(if (decide (((at' vb (3:Int)) % (3:Int))=(1:Int)))=true then (let vf:=(Txt.mul (ch vc (v4 / (8:Int))) ((1:Int)+(v4 % (8:Int))));vf) else vf);vG v8.length))))))
theorem Ar (vb:LI_) {fU:Bx} (jO:Lp fU (vb.map eI)) (v7:Int) (vc:Str) (vd:Str) (v1:Int) (v8:LS_) (v4:Int):RP mZ [some fU,some ((zE eI) v7),some ((zE eS) vc),some ((zE eS) vd),some ((zE eI) v1),some ((oE eS) v8),some ((zE eI) v4),none,none] (fun s=>Out.nx ((fun v8:LS_=>[some fU,some ((zE eI) v7),some ((zE eS) vc),some ((zE eS) vd),some ((zE eI) v1),some ((oE eS) v8),none,none,none]) s)) (eE vb vc vd v1 v8 v4) (some (kj vb vc vd v1 v8 v4)):=R.tp (dH (bR 7 (Dd (aq 2 (zE eS) vc rfl) (gq (gF (aq 6 (zE eI) v4 rfl) (lq (kY 0 eI vb jO rfl) (x_i 2))) 15 (by decide))) (fun _=>rfl) fun ve=>(dH (bR 8 (mX (mX (ur (aq 3 (zE eS) vd rfl) wW (wX (aq 4 (zE eI) v1 rfl))) (aq 7 (zE eS) ve rfl)) (ur (aq 3 (zE eS) vd rfl) (wX (aq 4 (zE eI) v1 rfl)) wW)) (fun _=>rfl) fun vf=>(dH (G8 (fun vf:Str=>[some fU,some ((zE eI) v7),some ((zE eS) vc),some ((zE eS) vd),some ((zE eI) v1),some ((oE eS) v8),some ((zE eI) v4),some ((zE eS) ve),some ((zE eS) vf)]) (mV (x_eq (by decide) (gq (lq (kY 0 eI vb jO rfl) (x_i 3)) 3 (by decide)) (x_i 1))) (dH (bR 8 (YD (Dd (aq 2 (zE eS) vc rfl) (nO (aq 6 (zE eI) v4 rfl) 8 (by decide))) (gF (x_i 1) (gq (aq 6 (zE eI) v4 rfl) 8 (by decide)))) (fun _=>rfl) fun vf=>(gG (dh vf rfl)))) (gG (dh vf rfl)) fun vf=>(dH (QX 5 v8 rfl (aq 8 (zE eS) vf rfl) fun v8=>(gG (dh v8 rfl))))))))))
def sE (vb:LI_) (v7:Int) (vc:Str) (vd:Str) (v1:Int) (v8:LS_):LS_:=v8
def sG:Ev->Option Out:=(aH (Ef 5) jL)
theorem Av (vb:LI_) {fU:Bx} (jO:Lp fU (vb.map eI)) (v7:Int) (vc:Str) (vd:Str) (v1:Int) (v8:LS_):RP sG [some fU,some ((zE eI) v7),some ((zE eS) vc),some ((zE eS) vd),some ((zE eI) v1),some ((oE eS) v8),none,none,none] (fun r=>Out.rt ((oE eS) r)) (sE vb v7 vc vd v1 v8) (none):=R.tp (QW 5 (fun r=>r) v8 rfl (fun _=>rfl) fun _=>rfl)
def sH (vb:LI_) (v7:Int) (vc:Str) (vd:Str) (v1:Int) (v8:LS_):LS_:=(let v8:LS_:=((rng 0 v7.toNat).foldl (fun (v8:LS_) (v4:Int)=>(eE vb vc vd v1 v8 v4)) v8);(sE vb v7 vc vd v1 v8))
def sI (vb:LI_) (v7:Int) (vc:Str) (vd:Str) (v1:Int) (v8:LS_):Prop:=(Rg v7/\yr (fun (v8:LS_) (v4:Int)=>(eE vb vc vd v1 v8 v4)) (fun (v8:LS_) (v4:Int)=>some (kj vb vc vd v1 v8 v4)) (rng 0 v7.toNat) v8)
def sJ:Ev->Option Out:=(aH (nH (Qn (ao (gv 1) aQ)) (lX 6) mZ) sG)
theorem Aw (vb:LI_) {fU:Bx} (jO:Lp fU (vb.map eI)) (v7:Int) (vc:Str) (vd:Str) (v1:Int) (v8:LS_):RP sJ [some fU,some ((zE eI) v7),some ((zE eS) vc),some ((zE eS) vd),some ((zE eI) v1),some ((oE eS) v8),none,none,none] (fun r=>Out.rt ((oE eS) r)) (sH vb v7 vc vd v1 v8) (some (sI vb v7 vc vd v1 v8)):=R.tp (G9 (fun v8:LS_=>[some fU,some ((zE eI) v7),some ((zE eS) vc),some ((zE eS) vd),some ((zE eI) v1),some ((oE eS) v8),none,none,none]) v8 rfl (Dh (aq 1 (zE eI) v7 rfl)) _ (fun _ _=>rfl) (fun (v8:LS_) (v4:Int)=>(Ar vb jO v7 vc vd v1 v8 v4).r) fun v8=>(Av vb jO v7 vc vd v1 v8).r)
def sO (vb:LI_) (v7:Int) (vc:Str) (vd:Str) (v1:Int):LS_:=(let v8:=([]:LS_);(sH vb v7 vc vd v1 v8))
def sS (vb:LI_) (v7:Int) (vc:Str) (vd:Str) (v1:Int):Prop:=(let v8:=([]:LS_);(sI vb v7 vc vd v1 v8))
def sU:Ev->Option Out:=(aH (setG 5 (cY mQ aQ)) sJ)
theorem Ax (vb:LI_) {fU:Bx} (jO:Lp fU (vb.map eI)) (v7:Int) (vc:Str) (vd:Str) (v1:Int):RP sU [some fU,some ((zE eI) v7),some ((zE eS) vc),some ((zE eS) vd),some ((zE eI) v1),none,none,none,none] (fun r=>Out.rt ((oE eS) r)) (sO vb v7 vc vd v1) (some (sS vb v7 vc vd v1)):=R.tp (bR 5 (nP (fP eS) (zv rfl)) (fun _=>rfl) fun v8=>(Aw vb jO v7 vc vd v1 v8).r)
def kE (vb:LI_) (v7:Int) (vc:Str) (vd:Str):LS_:=(let v1:=((at' vb (1:Int)) % ((vd.length:Int)+(1:Int)));(sO vb v7 vc vd v1))
def nA (vb:LI_) (v7:Int) (vc:Str) (vd:Str):Prop:=((In vb.length (1:Int)/\0 < ((vd.length:Int)+(1:Int)))/\(let v1:=((at' vb (1:Int)) % ((vd.length:Int)+(1:Int)));(sS vb v7 vc vd v1)))
def sV:Ev->Option Out:=(aH (setG 4 (b2 gD (b2 gB (gv 0) (cB (.int 1))) (b2 bQ (cY pq (ao (gv 3) aQ)) (cB (.int 1))))) sU)
theorem Ay (vb:LI_) {fU:Bx} (jO:Lp fU (vb.map eI)) (v7:Int) (vc:Str) (vd:Str):RP sV [some fU,some ((zE eI) v7),some ((zE eS) vc),some ((zE eS) vd),none,none,none,none,none] (fun r=>Out.rt ((oE eS) r)) (kE vb v7 vc vd) (some (nA vb v7 vc vd)):=R.tp (bR 4 (vD (lq (kY 0 eI vb jO rfl) (x_i 1)) (gF (Eu (aq 3 (zE eS) vd rfl)) (x_i 1))) (fun _=>rfl) fun v1=>(Ax vb jO v7 vc vd v1).r)
def sW (vb:LI_) (v7:Int) (vc:Str):LS_:=(let vd:=(Txt.join "" ((rng 0 ((at' vb (0:Int)) % (6:Int)).toNat).map fun v4:Int=>(ch vc (((at' vb v4) / (40:Int)) % (26:Int)))));(kE vb v7 vc vd))
def sX (vb:LI_) (v7:Int) (vc:Str):Prop:=(((((In vb.length (0:Int)/\Rg ((at' vb (0:Int)) % (6:Int)))/\(rng 0 ((at' vb (0:Int)) % (6:Int)).toNat).length<=100000)/\(∀ v4∈(rng 0 ((at' vb (0:Int)) % (6:Int)).toNat),(In vb.length v4/\In vc.length (((at' vb v4) / (40:Int)) % (26:Int)))))/\(((rng 0 ((at' vb (0:Int)) % (6:Int)).toNat).map fun v4:Int=>(ch vc (((at' vb v4) / (40:Int)) % (26:Int)))).map (·.length)).sum+((rng 0 ((at' vb (0:Int)) % (6:Int)).toNat).map fun v4:Int=>(ch vc (((at' vb v4) / (40:Int)) % (26:Int)))).length * ("" : Str).length<=100000)/\(let vd:=(Txt.join "" ((rng 0 ((at' vb (0:Int)) % (6:Int)).toNat).map fun v4:Int=>(ch vc (((at' vb v4) / (40:Int)) % (26:Int)))));(nA vb v7 vc vd)))
def Az:Ev->Option Out:=(aH (setG 3 (b1 (CV "") (dG (Qn (ao (b2 gD (b2 gB (gv 0) (cB (.int 0))) (cB (.int 6))) aQ)) (lX 2) lZ (b2 gB (gv 0) (b2 gD (b2 o8 (b2 gB (gv 1) (gv 2)) (cB (.int 40))) (cB (.int 26)))) [2,0] 1))) sV)
theorem Ba (vb:LI_) {fU:Bx} (jO:Lp fU (vb.map eI)) (v7:Int) (vc:Str):RP Az [some fU,some ((zE eI) v7),some ((zE eS) vc),none,none,none,none,none,none] (fun r=>Out.rt ((oE eS) r)) (sW vb v7 vc) (some (sX vb v7 vc)):=R.tp (bR 3 (YH "" (lO (uH (Dh (gq (lq (kY 0 eI vb jO rfl) (x_i 0)) 6 (by decide))) _ (fun _=>rfl) (fun v4:Int=>(Dd (aq 0 (zE eS) vc rfl) (gq (nO (lq (kY 1 eI vb jO (congrArg some (jO.get rfl))) (aq 2 (zE eI) v4 rfl)) 40 (by decide)) 26 (by decide))))))) (fun _=>rfl) fun vd=>(Ay vb jO v7 vc vd).r)
def bC (vb:LI_) (v7:Int):LS_:=(let vc:=("abcdefghijklmnopqrstuvwxyz" : Str);(sW vb v7 vc))
def oA (vb:LI_) (v7:Int):Prop:=(let vc:=("abcdefghijklmnopqrstuvwxyz" : Str);(sX vb v7 vc))
theorem Hr (vb:LI_) {fU:Bx} (jO:Lp fU (vb.map eI)) (v7:Int):RP nY [some fU,some ((zE eI) v7),none,none,none,none,none,none,none] (fun r=>Out.rt ((oE eS) r)) (bC vb v7) (some (oA vb v7)):=R.tp (bR 2 (M8 "abcdefghijklmnopqrstuvwxyz") (fun _=>rfl) fun vc=>(Ba vb jO v7 vc).r)
theorem Ht:∀ v bs,(aL eI (aZ eI aN)) v bs->bs.length=2/\(hold (some (oA v.1 v.2.1))->iZ (bs.map lend)=some ((oE eS) (bC v.1 v.2.1))):=by
 rintro⟨vb,v7,_⟩ _ ⟨fU,_,rfl,jO,⟨_,rfl,rfl⟩⟩
 exact⟨rfl,fun h=>fV (g:=nY) (n:=9) (bs:=[lend fU,.z (eI v7)]) (Hr vb (G3 jO) v7) h⟩
def iJ (vi:Int) (vc:Str) (v8:Str) (v4:Int):Str:=(let v8:=(v8++(ch vc ((vi / ((7:Int)+((5:Int) * v4))) % (vc.length:Int))));v8)
def kJ (vi:Int) (vc:Str) (v8:Str) (v4:Int):Prop:=((((0 < ((7:Int)+((5:Int) * v4))/\((7:Int)+((5:Int) * v4)) < 1073741824)/\0 < (vc.length:Int))/\In vc.length ((vi / ((7:Int)+((5:Int) * v4))) % (vc.length:Int)))/\vG (v8.length+(ch vc ((vi / ((7:Int)+((5:Int) * v4))) % (vc.length:Int))).length))
theorem wj (vi:Int) (vc:Str) (v2:Int) (v8:Str) (v4:Int):RP nZ [some ((zE eI) vi),some ((zE eS) vc),some ((zE eI) v2),some ((zE eS) v8),some ((zE eI) v4)] (fun s=>Out.nx ((fun v8:Str=>[some ((zE eI) vi),some ((zE eS) vc),some ((zE eI) v2),some ((zE eS) v8),none]) s)) (iJ vi vc v8 v4) (some (kJ vi vc v8 v4)):=R.tp (dH (bR 3 (mX (aq 3 (zE eS) v8 rfl) (Dd (aq 1 (zE eS) vc rfl) (vD (Yx (aq 0 (zE eI) vi rfl) (gF (x_i 7) (oH 5 (by decide) (aq 4 (zE eI) v4 rfl)))) (Eu (aq 1 (zE eS) vc rfl))))) (fun _=>rfl) fun v8=>(gG (dh v8 rfl))))
def eF (vi:Int) (vc:Str) (v2:Int):Str:=(let v8:=("" : Str);(let v8:Str:=((rng 0 ((1:Int)+(vi % v2)).toNat).foldl (fun (v8:Str) (v4:Int)=>(iJ vi vc v8 v4)) v8);v8))
def jg (vi:Int) (vc:Str) (v2:Int):Prop:=(let v8:=("" : Str);((0 < v2/\Rg ((1:Int)+(vi % v2)))/\yr (fun (v8:Str) (v4:Int)=>(iJ vi vc v8 v4)) (fun (v8:Str) (v4:Int)=>some (kJ vi vc v8 v4)) (rng 0 ((1:Int)+(vi % v2)).toNat) v8))
theorem Bb (vi:Int) (vc:Str) (v2:Int):RP jZ [some ((zE eI) vi),some ((zE eS) vc),some ((zE eI) v2),none,none] (fun r=>Out.rt ((zE eS) r)) (eF vi vc v2) (some (jg vi vc v2)):=R.tp (bR 3 (M8 "") (fun _=>rfl) fun v8=>(G9 (fun v8:Str=>[some ((zE eI) vi),some ((zE eS) vc),some ((zE eI) v2),some ((zE eS) v8),none]) v8 rfl (Dh (gF (x_i 1) (vD (aq 0 (zE eI) vi rfl) (aq 2 (zE eI) v2 rfl)))) _ (fun _ _=>rfl) (fun (v8:Str) (v4:Int)=>(wj vi vc v2 v8 v4).r) fun v8=>(jM (fun r=>r) (aq 3 (zE eS) v8 rfl) (fun _=>rfl) fun _=>rfl)))
theorem sY:∀ v bs,(aZ eI (aZ eS (aZ eI aN))) v bs->bs.length=3/\(hold (some (jg v.1 v.2.1 v.2.2.1))->cZ (bs.map lend)=some ((zE eS) (eF v.1 v.2.1 v.2.2.1))):=by
 rintro⟨vi,vc,v2,_⟩ _ ⟨_,rfl,⟨_,rfl,⟨_,rfl,rfl⟩⟩⟩
 exact⟨rfl,fun h=>fV (g:=jZ) (n:=5) (bs:=[.z (eI vi),.z (eS vc),.z (eI v2)]) (Bb vi vc v2) h⟩
def bT (vb:LI_) (vg:(List (Str×Str))) (v4:Int):(List (Str×Str)):=(let vh:=(eF (at' vb ((1:Int)+((2:Int) * v4))) ("abcdefghijklmnopqrstuvwxyz" : Str) (at' [(2:Int),(8:Int)] (((at' vb ((1:Int)+((2:Int) * v4))) / (999:Int)) % (2:Int))));(let vg:=put vg vh (eF (at' vb ((2:Int)+((2:Int) * v4))) ("ab01xyz9" : Str) (at' [(3:Int),(12:Int)] (((at' vb ((2:Int)+((2:Int) * v4))) / (999:Int)) % (2:Int))));vg))
def iK (vb:LI_) (vg:(List (Str×Str))) (v4:Int):Prop:=(((In vb.length ((1:Int)+((2:Int) * v4))/\(In vb.length ((1:Int)+((2:Int) * v4))/\In [(2:Int),(8:Int)].length (((at' vb ((1:Int)+((2:Int) * v4))) / (999:Int)) % (2:Int))))/\(jg (at' vb ((1:Int)+((2:Int) * v4))) ("abcdefghijklmnopqrstuvwxyz" : Str) (at' [(2:Int),(8:Int)] (((at' vb ((1:Int)+((2:Int) * v4))) / (999:Int)) % (2:Int)))))/\(let vh:=(eF (at' vb ((1:Int)+((2:Int) * v4))) ("abcdefghijklmnopqrstuvwxyz" : Str) (at' [(2:Int),(8:Int)] (((at' vb ((1:Int)+((2:Int) * v4))) / (999:Int)) % (2:Int))));(((In vb.length ((2:Int)+((2:Int) * v4))/\(In vb.length ((2:Int)+((2:Int) * v4))/\In [(3:Int),(12:Int)].length (((at' vb ((2:Int)+((2:Int) * v4))) / (999:Int)) % (2:Int))))/\(jg (at' vb ((2:Int)+((2:Int) * v4))) ("ab01xyz9" : Str) (at' [(3:Int),(12:Int)] (((at' vb ((2:Int)+((2:Int) * v4))) / (999:Int)) % (2:Int)))))/\vg.length < 1000)))
theorem wk (vf:Str) (vb:LI_) {b_1:Bx} (h_1:Lp b_1 (vb.map eI)) (vg:(List (Str×Str))) (v4:Int):RP n6 [some ((zE eS) vf),some b_1,some ((mE eS) vg),some ((zE eI) v4),none] (fun s=>Out.nx ((fun vg:(List (Str×Str))=>[some ((zE eS) vf),some b_1,some ((mE eS) vg),none,none]) s)) (bT vb vg v4) (some (iK vb vg v4)):=R.tp (dH (bR 4 (x_call sY (eU (lq (kY 1 eI vb h_1 rfl) (gF (x_i 1) (oH 2 (by decide) (aq 3 (zE eI) v4 rfl)))) (eU (M8 "abcdefghijklmnopqrstuvwxyz") (eU (lq (lO (nP (aV (x_i 2) (aV (x_i 8) (fP eI))) (zv rfl))) (gq (nO (lq (kY 1 eI vb h_1 rfl) (gF (x_i 1) (oH 2 (by decide) (aq 3 (zE eI) v4 rfl)))) 999 (by decide)) 2 (by decide))) dW)))) (fun _=>rfl) fun vh=>(dH (U8 none 2 vg rfl (lQ (x_call sY (eU (lq (kY 1 eI vb h_1 rfl) (gF (x_i 2) (oH 2 (by decide) (aq 3 (zE eI) v4 rfl)))) (eU (M8 "ab01xyz9") (eU (lq (lO (nP (aV (x_i 3) (aV (x_i 12) (fP eI))) (zv rfl))) (gq (nO (lq (kY 1 eI vb h_1 rfl) (gF (x_i 2) (oH 2 (by decide) (aq 3 (zE eI) v4 rfl)))) 999 (by decide)) 2 (by decide))) dW))))) (aq 4 (zE eS) vh rfl) fun vg=>(gG (dh vg rfl))))))
def eG (vf:Str) (vb:LI_):aO:=(let vg:=([]:(List (Str×Str)));(let vg:(List (Str×Str)):=((rng 0 ((at' vb (0:Int)) % (9:Int)).toNat).foldl (fun (vg:(List (Str×Str))) (v4:Int)=>(bT vb vg v4)) vg);(vf,((nM (vg.map (·.1))).map fun vh:Str=>(vh,(look vg vh))))))
def jh (vf:Str) (vb:LI_):Prop:=(let vg:=([]:(List (Str×Str)));(((In vb.length (0:Int)/\Rg ((at' vb (0:Int)) % (9:Int)))/\yr (fun (vg:(List (Str×Str))) (v4:Int)=>(bT vb vg v4)) (fun (vg:(List (Str×Str))) (v4:Int)=>some (iK vb vg v4)) (rng 0 ((at' vb (0:Int)) % (9:Int)).toNat) vg)/\(let vg:(List (Str×Str)):=((rng 0 ((at' vb (0:Int)) % (9:Int)).toNat).foldl (fun (vg:(List (Str×Str))) (v4:Int)=>(bT vb vg v4)) vg);((vg.length < 64/\(nM (vg.map (·.1))).length<=100000)/\(∀ vh∈(nM (vg.map (·.1))),has vg vh=true)))))
theorem Bc (vf:Str) (vb:LI_) {b_1:Bx} (h_1:Lp b_1 (vb.map eI)):RP j4 [some ((zE eS) vf),some b_1,none,none,none] (fun r=>Out.rt ((zE aK) r)) (eG vf vb) (some (jh vf vb)):=R.tp (bR 2 (YS eS) (fun _=>rfl) fun vg=>(G9 (fun vg:(List (Str×Str))=>[some ((zE eS) vf),some b_1,some ((mE eS) vg),none,none]) vg rfl (Dh (gq (lq (kY 1 eI vb h_1 rfl) (x_i 0)) 9 (by decide))) _ (fun _ _=>rfl) (fun (vg:(List (Str×Str))) (v4:Int)=>(wk vf vb h_1 vg v4).r) fun vg=>(jM (fun r=>r) (ql (aq 0 (zE eS) vf rfl) (vH (lO (uH (YL (lO (U5 (aq 2 (nE eS) vg rfl)))) _ (fun _=>rfl) (fun vh:Str=>(ql (aq 1 (zE eS) vh rfl) (YQ (aq 0 (nE eS) vg rfl) (aq 1 (zE eS) vh rfl)))))))) (fun _=>rfl) fun _=>rfl)))
theorem Bd:∀ v bs,(aZ eS (aL eI aN)) v bs->bs.length=2/\(hold (some (jh v.1 v.2.1))->dY (bs.map lend)=some ((zE aK) (eG v.1 v.2.1))):=by
 rintro⟨vf,vb,_⟩ _ ⟨_,rfl,⟨b_1,_,rfl,h_1,rfl⟩⟩
 exact⟨rfl,fun h=>fV (g:=j4) (n:=5) (bs:=[.z (eS vf),lend b_1]) (Bc vf vb (G3 h_1)) h⟩
def gP (v0:LI_) (v1:Int) (v3:LI_) (va:LS_) (v8:List aO) (v4:Int):(List aO):=(let vf:=(at' va ((((7:Int) * v4)+(at' v3 (7:Int))) % (15:Int)));(let v8:=v8++[(eG vf (aD (aG v0 ((v1+(1:Int))+v4)) (17:Int)))];v8))
def jH (v0:LI_) (v1:Int) (v3:LI_) (va:LS_) (v8:List aO) (v4:Int):Prop:=((In v3.length (7:Int)/\In va.length ((((7:Int) * v4)+(at' v3 (7:Int))) % (15:Int)))/\(let vf:=(at' va ((((7:Int) * v4)+(at' v3 (7:Int))) % (15:Int)));((((jG v0 ((v1+(1:Int))+v4))/\(g8 (aG v0 ((v1+(1:Int))+v4)) (17:Int)))/\(jh vf (aD (aG v0 ((v1+(1:Int))+v4)) (17:Int))))/\vG v8.length)))
theorem uO (v0:LI_) {fU:Bx} (jO:Lp fU (v0.map eI)) (v1:Int) (v2:Int) (v3:LI_) (va:LS_) (v8:List aO) (v4:Int):RP m7 [some fU,some ((zE eI) v1),some ((zE eI) v2),some ((oE eI) v3),some ((oE eS) va),some ((oE aK) v8),some ((zE eI) v4),none] (fun s=>Out.nx ((fun v8:(List aO)=>[some fU,some ((zE eI) v1),some ((zE eI) v2),some ((oE eI) v3),some ((oE eS) va),some ((oE aK) v8),none,none]) s)) (gP v0 v1 v3 va v8 v4) (some (jH v0 v1 v3 va v8 v4)):=R.tp (dH (bR 7 (lq (mj (aq 4 (lE eS) va rfl)) (gq (gF (oH 7 (by decide) (aq 6 (zE eI) v4 rfl)) (lq (mj (aq 3 (lE eI) v3 rfl)) (x_i 7))) 15 (by decide))) (fun _=>rfl) fun vf=>(dH (QX 5 v8 rfl (lQ (x_call Bd (eU (aq 7 (zE eS) vf rfl) (Jv (adk (aaR (x_call oO (eU (lQ (x_call uN (Jv (kY 0 eI v0 jO rfl) (eU (lQ (gF (gF (aq 1 (zE eI) v1 rfl) (x_i 1)) (aq 6 (zE eI) v4 rfl))) dW)))) (eU (x_i 17) dW))))) dW)))) fun v8=>(gG (dh v8 rfl))))))
def dF (v0:LI_) (v1:Int) (v2:Int):(List aO):=(let v3:=(aD (aG v0 v1) (8:Int));(let va:=(bC v3 (15:Int));(let v8:=([]:List aO);(let v8:(List aO):=((rng 0 ((at' v3 (6:Int)) % (v2+(1:Int))).toNat).foldl (fun (v8:List aO) (v4:Int)=>(gP v0 v1 v3 va v8 v4)) v8);v8))))
def gU (v0:LI_) (v1:Int) (v2:Int):Prop:=(((jG v0 v1)/\(g8 (aG v0 v1) (8:Int)))/\(let v3:=(aD (aG v0 v1) (8:Int));((oA v3 (15:Int))/\(let va:=(bC v3 (15:Int));(let v8:=([]:List aO);(((In v3.length (6:Int)/\0 < (v2+(1:Int)))/\Rg ((at' v3 (6:Int)) % (v2+(1:Int))))/\yr (fun (v8:List aO) (v4:Int)=>(gP v0 v1 v3 va v8 v4)) (fun (v8:List aO) (v4:Int)=>some (jH v0 v1 v3 va v8 v4)) (rng 0 ((at' v3 (6:Int)) % (v2+(1:Int))).toNat) v8))))))
theorem yG (v0:LI_) {fU:Bx} (jO:Lp fU (v0.map eI)) (v1:Int) (v2:Int):RP jB [some fU,some ((zE eI) v1),some ((zE eI) v2),none,none,none,none,none] (fun r=>Out.rt ((zE (eT aK)) r)) (dF v0 v1 v2) (some (gU v0 v1 v2)):=R.tp (bR 3 (x_call oO (eU (lQ (x_call uN (Jv (kY 0 eI v0 jO rfl) (eU (aq 1 (zE eI) v1 rfl) dW)))) (eU (x_i 8) dW))) (fun _=>rfl) fun v3=>(bR 4 (x_call Ht (Jv (mj (aq 3 (lE eI) v3 rfl)) (eU (x_i 15) dW))) (fun _=>rfl) fun va=>(bR 5 (nP (fP aK) (zv rfl)) (fun _=>rfl) fun v8=>(G9 (fun v8:(List aO)=>[some fU,some ((zE eI) v1),some ((zE eI) v2),some ((oE eI) v3),some ((oE eS) va),some ((oE aK) v8),none,none]) v8 rfl (Dh (vD (lq (mj (aq 3 (lE eI) v3 rfl)) (x_i 6)) (gF (aq 2 (zE eI) v2 rfl) (x_i 1)))) _ (fun _ _=>rfl) (fun (v8:List aO) (v4:Int)=>(uO v0 jO v1 v2 v3 va v8 v4).r) fun v8=>(jM (fun r=>r) (vH (mj (aq 5 (lE aK) v8 rfl))) (fun _=>rfl) fun _=>rfl)))))
theorem qN:∀ v bs,(aL eI (aZ eI (aZ eI aN))) v bs->bs.length=3/\(hold (some (gU v.1 v.2.1 v.2.2.1))->cN (bs.map lend)=some ((zE (eT aK)) (dF v.1 v.2.1 v.2.2.1))):=by
 rintro⟨v0,v1,v2,_⟩ _ ⟨fU,_,rfl,jO,⟨_,rfl,⟨_,rfl,rfl⟩⟩⟩
 exact⟨rfl,fun h=>fV (g:=jB) (n:=8) (bs:=[lend fU,.z (eI v1),.z (eI v2)]) (yG v0 (G3 jO) v1 v2) h⟩
def bN (vo:List aO) (vp:List aO):Dt:=match vp.find? (fun r=>decide (r.1∈vo.map (·.1))) with
 |some r=>Dt.tup [(Dt.str "refused"),(eS r.1)]
 |none=>Dt.tup [(Dt.str "told"),((eT aK) (vo++vp))]
def ji (vo:List aO) (vp:List aO):Prop:=vo.length < 4000/\vG (vo.length+vp.length)
theorem Rr:∀ vo:List aO,uo (lX 0) lZ (b2 gB (gv 0) (cB (.int 0))) [none] (vo.map aK)=some (vo.map fun r=>Dt.str r.1)
 |[]=>rfl
 |r::vo=>by
  have ih:=Rr vo
  unfold uo at ih ⊢
  simp only[zl,ug]
  rw[ih]
  rfl
theorem K5:∀ ys:LS_,pA (ys.map Dt.str)=some ys
 |[]=>rfl
 |y::ys=>by
  simp only[zl,pA,K5 ys]
  rfl
theorem abK (vo vp:List aO) (h:vo.length < 4000):KQ [some (.z (eT aK vo)),some (.z (eT aK vp)),none,none]=some (vo.map (·.1)):=by
 show (if (vo.map aK).length < 4000 then _ else _)=_
 rw[zi (by rw[zg];exact h)]
 show (uo (lX 0) lZ (b2 gB (gv 0) (cB (.int 0))) [none] (vo.map aK)).bind pA=_
 rw[Rr]
 show pA (vo.map fun r=>Dt.str r.1)=_
 have:(vo.map fun r=>Dt.str r.1)=(vo.map (·.1)).map Dt.str:=by rw[qk];rfl
 rw[this,K5]
theorem JQ (ys:LS_) (fx:Ev->Option Dt) (b1 b2':Option Bx):∀ (vp:List aO) (x:Option Bx),Hi 3 (b2 gB (gv 3) (cB (.int 0))) ys fx (vp.map aK) [b1,b2',none,x]=match vp.find? (fun r=>decide (r.1∈ys)) with
  |some r=>(fx [b1,b2',none,some (.z (aK r))]).bind fun q=>some (.inr q)
  |none=>some (.inl [b1,b2',none,(vp.getLast?.map fun r=>some (Bx.z (aK r))).getD x])
 |[],x=>rfl
 |r::vp,x=>by
  have ih:=JQ ys fx b1 b2' vp (some (.z (aK r)))
  simp only[zl,Hi]
  show (if r.1∈ys then _ else _)=_
  by_cases hr:r.1∈ys
  ·rw[zi hr,List.find?_cons_of_pos (by simpa using hr)]
   rfl
  ·rw[zw hr,List.find?_cons_of_neg (by simpa using hr)]
   refine ih.trans ?_
   cases vp.find? (fun r=>decide (r.1∈ys)) with
   |some q=>rfl
   |none=>cases vp<;>rfl
theorem sZ:∀ v bs,(aZ (eT aK) (aZ (eT aK) aN)) v bs->bs.length=2/\(hold (some (ji v.1 v.2.1))->cG (bs.map lend)=some ((zE eD) (bN v.1 v.2.1))):=by
 rintro⟨vo,vp,_⟩ _ ⟨_,rfl,⟨_,rfl,rfl⟩⟩
 refine⟨rfl,fun h=>?_⟩
 obtain⟨h1,h2⟩:ji vo vp:=h
 have hG:∀ fx,JD 2 3 KQ (Ke (gv 1)) (b2 gB (gv 3) (cB (.int 0))) fx [some (.z (eT aK vo)),some (.z (eT aK vp)),none,none]=Hi 3 (b2 gB (gv 3) (cB (.int 0))) (vo.map (·.1)) fx (vp.map aK) [some (.z (eT aK vo)),some (.z (eT aK vp)),none,none]:=fun fx=>by
  unfold JD
  rw[abK vo vp h1]
  rfl
 have e0:fG 4 JG [.z (eT aK vo),.z (eT aK vp)]=match vp.find? (fun r=>decide (r.1∈vo.map (·.1))) with
   |some _=>none
   |none=>some (.z (eT aK (vo++vp))):=by
  show (JG [some (.z (eT aK vo)),some (.z (eT aK vp)),none,none]).bind _=_
  unfold JG
  rw[hG,JQ]
  cases vp.find? (fun r=>decide (r.1∈vo.map (·.1))) with
  |some q=>rfl
  |none=>
   have ad:bQ (.z (eT aK vo)) (.z (eT aK vp))=some (.z (eT aK (vo++vp))):=by
    unfold vG at h2
    simp only[eT,bQ,zg,ZN]
    rw[zi (show vo.length+vp.length<=Gw from zh h2 (by decide))]
   show ((((bQ (.z (eT aK vo)) (.z (eT aK vp))).bind Mi).bind _).bind _)=_
   rw[ad]
   rfl
 have e1:yd 4 Aa [.z (eT aK vo),.z (eT aK vp)]=match vp.find? (fun r=>decide (r.1∈vo.map (·.1))) with
   |some r=>some (eS r.1)
   |none=>none:=by
  show Aa [some (.z (eT aK vo)),some (.z (eT aK vp)),none,none]=_
  unfold Aa
  rw[hG,JQ]
  cases vp.find? (fun r=>decide (r.1∈vo.map (·.1))) with
  |some q=>rfl
  |none=>rfl
 show cG [.z (eT aK vo),.z (eT aK vp)]=some (.z (bN vo vp))
 unfold cG bN
 rw[e0,e1]
 cases vp.find? (fun r=>decide (r.1∈vo.map (·.1))) with
 |some q=>rfl
 |none=>rfl
def cD (vj:List aO) (vk:List aO):Bool:=(let va:=(vj.map fun vm:aO=>vm.1);(let vn:=((vk.filter fun vm:aO=>(decide (vm.1∈va))).map fun vm:aO=>vm.1);(if (!decide (vn=([]:LS_)))=true then (Ig (bN vj vk) (Dt.tup [(Dt.str "refused"),(eS (at' vn (0:Int)))])) else (Ig (bN vj vk) (Dt.tup [(Dt.str "told"),((eT aK) (vj++vk))])))))
def fL (vj:List aO) (vk:List aO):Prop:=(vj.length<=100000/\(let va:=(vj.map fun vm:aO=>vm.1);(vk.length<=100000/\(let vn:=((vk.filter fun vm:aO=>(decide (vm.1∈va))).map fun vm:aO=>vm.1);(((!decide (vn=([]:LS_)))=true->(((ji vj vk)/\In vn.length (0:Int))/\MP (bN vj vk) (Dt.tup [(Dt.str "refused"),(eS (at' vn (0:Int)))])))/\((!decide (vn=([]:LS_)))=false->(((ji vj vk)/\vG (vj.length+vk.length))/\MP (bN vj vk) (Dt.tup [(Dt.str "told"),((eT aK) (vj++vk))]))))))))
theorem tu (vj:List aO) (vk:List aO):RP fJ [some ((zE (eT aK)) vj),some ((zE (eT aK)) vk),none,none] (fun r=>Out.rt ((zE eB) r)) (cD vj vk) (some (fL vj vk)):=R.tp (bR 2 (vI (BW (aq 0 (zE (eT aK)) vj rfl)) _ (fun _=>rfl) (fun vm:aO=>(nQ (aq 0 (zE aK) vm rfl) (fun q=>q.1) eS 0 fun _=>rfl)) fun _=>rfl) (fun _=>rfl) fun va=>(bR 3 (G7 (BW (aq 1 (zE (eT aK)) vk rfl)) _ (fun _=>rfl) (fun vm:aO=>(mV (ado (nQ (aq 1 (zE aK) vm rfl) (fun q=>q.1) eS 0 fun _=>rfl) (mj (aq 0 (lE eS) va rfl))))) (fun vm:aO=>(nQ (aq 1 (zE aK) vm rfl) (fun q=>q.1) eS 0 fun _=>rfl)) (fun _=>rfl) fun _=>rfl) (fun _=>rfl) fun vn=>(Di (mV (aaU (by decide) (mj (aq 3 (lE eS) vn rfl)) (lO (nP (fP eS) (zv rfl))))) (dH (jM (fun r=>r) (QD (x_call sZ (eU (aq 0 (zE (eT aK)) vj rfl) (eU (aq 1 (zE (eT aK)) vk rfl) dW))) (uG (aV (x_k (.str "refused")) (aV (zM (lq (mj (aq 3 (lE eS) vn rfl)) (x_i 0))) (fP eD))) (zv rfl))) (fun _=>rfl) fun _=>rfl)) (gG (jM (fun r=>r) (QD (x_call sZ (eU (aq 0 (zE (eT aK)) vj rfl) (eU (aq 1 (zE (eT aK)) vk rfl) dW))) (uG (aV (x_k (.str "told")) (aV (zM (lQ (QH (aq 0 (zE (eT aK)) vj rfl) (aq 1 (zE (eT aK)) vk rfl)))) (fP eD))) (zv rfl))) (fun _=>rfl) fun _=>rfl)))))
theorem tD:∀ v bs,(aZ (eT aK) (aZ (eT aK) aN)) v bs->bs.length=2/\(hold (some (fL v.1 v.2.1))->bL (bs.map lend)=some ((zE eB) (cD v.1 v.2.1))):=by
 rintro⟨vj,vk,_⟩ _ ⟨_,rfl,⟨_,rfl,rfl⟩⟩
 exact⟨rfl,fun h=>fV (g:=fJ) (n:=4) (bs:=[.z ((eT aK) vj),.z ((eT aK) vk)]) (tu vj vk) h⟩
def fM (vh:Str) (vt:Int) (vi:Int):Str:=(let v1:=(vt % (vh.length:Int));(((Txt.slice vh none (some v1))++(ch ("abcdefghijklmnopqrstuvwxyz" : Str) (vi % (26:Int))))++(Txt.slice vh (some (v1+(1:Int))) none)))
def iM (vh:Str) (vt:Int) (vi:Int):Prop:=(0 < (vh.length:Int)/\(let v1:=(vt % (vh.length:Int));((In ("abcdefghijklmnopqrstuvwxyz" : Str).length (vi % (26:Int))/\vG ((Txt.slice vh none (some v1)).length+(ch ("abcdefghijklmnopqrstuvwxyz" : Str) (vi % (26:Int))).length))/\vG (((Txt.slice vh none (some v1))++(ch ("abcdefghijklmnopqrstuvwxyz" : Str) (vi % (26:Int)))).length+(Txt.slice vh (some (v1+(1:Int))) none).length))))
theorem wz (vh:Str) (vt:Int) (vi:Int):RP iH [some ((zE eS) vh),some ((zE eI) vt),some ((zE eI) vi),none] (fun r=>Out.rt ((zE eS) r)) (fM vh vt vi) (some (iM vh vt vi)):=R.tp (bR 3 (vD (aq 1 (zE eI) vt rfl) (Eu (aq 0 (zE eS) vh rfl))) (fun _=>rfl) fun v1=>(jM (fun r=>r) (mX (mX (ur (aq 0 (zE eS) vh rfl) wW (wX (aq 3 (zE eI) v1 rfl))) (Dd (M8 "abcdefghijklmnopqrstuvwxyz") (gq (aq 2 (zE eI) vi rfl) 26 (by decide)))) (ur (aq 0 (zE eS) vh rfl) (wX (gF (aq 3 (zE eI) v1 rfl) (x_i 1))) wW)) (fun _=>rfl) fun _=>rfl))
theorem wA:∀ v bs,(aZ eS (aZ eI (aZ eI aN))) v bs->bs.length=3/\(hold (some (iM v.1 v.2.1 v.2.2.1))->cH (bs.map lend)=some ((zE eS) (fM v.1 v.2.1 v.2.2.1))):=by
 rintro⟨vh,vt,vi,_⟩ _ ⟨_,rfl,⟨_,rfl,⟨_,rfl,rfl⟩⟩⟩
 exact⟨rfl,fun h=>fV (g:=iH) (n:=4) (bs:=[.z (eS vh),.z (eI vt),.z (eI vi)]) (wz vh vt vi) h⟩
def cX (vv:Str) (s1:Unit) (q2:jk):uQ (Unit) (Option Str):=(if (decide (q2.1=vv))=true then (uQ.rt (some q2.2)) else (uQ.nx ()))
theorem Ft (vr:aO) (vv:Str) (s1:Unit) (q2:jk):RP vM [some ((zE aK) vr),some ((zE eS) vv),some ((zE eS) q2.1),some ((zE eS) q2.2)] (cC (fun s1:Unit=>[some ((zE aK) vr),some ((zE eS) vv),none,none]) (zE (eO eS))) (cX vv s1 q2) (none):=R.tp (dH (Di (mV (x_eq (by decide) (aq 2 (zE eS) q2.1 rfl) (aq 1 (zE eS) vv rfl))) (dH (jM .rt (Qz (aq 3 (zE eS) q2.2 rfl)) (fun _=>rfl) fun _=>rfl)) (gG (gG (dh (.nx ()) rfl)))))
def xQ (vr:aO) (vv:Str):(Option Str):=(behind (oJ (fun (s1:Unit) (q2:jk)=>((cX vv s1 q2):uQ (Unit) (Option Str))) vr.2 ()) (fun r=>r) fun s1:Unit=>none)
def xR (vr:aO) (vv:Str):Prop:=(vJ (fun (s1:Unit) (q2:jk)=>((cX vv s1 q2):uQ (Unit) (Option Str))) (fun (s1:Unit) (q2:jk)=>none) vr.2 ()/\(vK (oJ (fun (s1:Unit) (q2:jk)=>((cX vv s1 q2):uQ (Unit) (Option Str))) vr.2 ()) fun s1:Unit=>True))
theorem Nz (vr:aO) (vv:Str):RP uc [some ((zE aK) vr),some ((zE eS) vv),none,none] (fun r=>Out.rt ((zE (eO eS)) r)) (xQ vr vv) (some (xR vr vv)):=R.tp (Jw (fun s1:Unit=>[some ((zE aK) vr),some ((zE eS) vv),none,none]) () rfl (YM (nQ (aq 0 (zE aK) vr rfl) (fun q=>q.2) (eT Nq) 1 fun _=>rfl)) _ (fun _ _=>rfl) (fun (s1:Unit) (q2:jk)=>((Ft vr vv s1 q2).r:R _ _ (cC (fun s1:Unit=>[some ((zE aK) vr),some ((zE eS) vv),none,none]) (zE (eO eS))))) (fun r=>r) (fun _=>rfl) fun s1=>(jM (fun r=>r) QC (fun _=>rfl) fun _=>rfl))
theorem NK:∀ v bs,(aZ aK (aZ eS aN)) v bs->bs.length=2/\(hold (some (xR v.1 v.2.1))->lB (bs.map lend)=some ((zE (eO eS)) (xQ v.1 v.2.1))):=by
 rintro⟨vr,vv,_⟩ _ ⟨_,rfl,⟨_,rfl,rfl⟩⟩
 exact⟨rfl,fun h=>fV (g:=uc) (n:=4) (bs:=[.z (aK vr),.z (eS vv)]) (Nz vr vv) h⟩
def bD (vh:Str) (vu:(Option Str)) (q1:jk):(Option Str):=(let vu:(Option Str):=(if (decide (q1.1=vh))=true then (let vu:=(some q1.2);vu) else vu);vu)
theorem tH (vm:aO) (vh:Str) (vu:(Option Str)) (q1:jk):RP lR [some ((zE aK) vm),some ((zE eS) vh),some ((zE (eO eS)) vu),some ((zE eS) q1.1),some ((zE eS) q1.2)] (fun s=>Out.nx ((fun vu:(Option Str)=>[some ((zE aK) vm),some ((zE eS) vh),some ((zE (eO eS)) vu),none,none]) s)) (bD vh vu q1) (none):=R.tp (dH (G8 (fun vu:(Option Str)=>[some ((zE aK) vm),some ((zE eS) vh),some ((zE (eO eS)) vu),some ((zE eS) q1.1),some ((zE eS) q1.2)]) (mV (x_eq (by decide) (aq 3 (zE eS) q1.1 rfl) (aq 1 (zE eS) vh rfl))) (dH (bR 2 (Qz (aq 4 (zE eS) q1.2 rfl)) (fun _=>rfl) fun vu=>(gG (dh vu rfl)))) (gG (dh vu rfl)) fun vu=>(gG (dh vu rfl))))
def iQ (vm:aO) (vh:Str):Bool:=(let vu:=none;(let vu:(Option Str):=(vm.2.foldl (fun (vu:(Option Str)) (q1:jk)=>(bD vh vu q1)) vu);(decide ((xQ vm vh)=vu))))
def iR (vm:aO) (vh:Str):Prop:=(let vu:=none;(let vu:(Option Str):=(vm.2.foldl (fun (vu:(Option Str)) (q1:jk)=>(bD vh vu q1)) vu);(xR vm vh)))
theorem wB (vm:aO) (vh:Str):RP iI [some ((zE aK) vm),some ((zE eS) vh),none,none,none] (fun r=>Out.rt ((zE eB) r)) (iQ vm vh) (some (iR vm vh)):=R.tp (bR 2 QC (fun _=>rfl) fun vu=>(QZ (fun vu:(Option Str)=>[some ((zE aK) vm),some ((zE eS) vh),some ((zE (eO eS)) vu),none,none]) vu rfl (YM (nQ (aq 0 (zE aK) vm rfl) (fun q=>q.2) (eT Nq) 1 fun _=>rfl)) _ (fun _ _=>rfl) (fun (vu:(Option Str)) (q1:jk)=>(tH vm vh vu q1).r) (fun _ _=>rfl) fun vu=>(jM (fun r=>r) (x_eq (by decide) (x_call NK (eU (aq 0 (zE aK) vm rfl) (eU (aq 1 (zE eS) vh rfl) dW))) (aq 2 (zE (eO eS)) vu rfl)) (fun _=>rfl) fun _=>rfl)))
theorem wC:∀ v bs,(aZ aK (aZ eS aN)) v bs->bs.length=2/\(hold (some (iR v.1 v.2.1))->cJ (bs.map lend)=some ((zE eB) (iQ v.1 v.2.1))):=by
 rintro⟨vm,vh,_⟩ _ ⟨_,rfl,⟨_,rfl,rfl⟩⟩
 exact⟨rfl,fun h=>fV (g:=iI) (n:=5) (bs:=[.z (aK vm),.z (eS vh)]) (wB vm vh) h⟩
def jt (vx:Str) (vt:Int) (vi:Int):Str:=(let vy:=("abcdefghijklmnopqrstuvwxyz0123456789 ABCDEFGHIJKLMNOPQRSTUVWXYZ" : Str);(let vy:=(vy++("!#$&'()*+,-./:;<=>?\x40[]^_`{|}~\"\\" : Str));(let vz:=(ch vy ((vi / (6:Int)) % (at' [(36:Int),(94:Int)] ((vi / (3:Int)) % (2:Int)))));(let v1:=(vt % ((vx.length:Int)+(1:Int)));(at' [(((Txt.slice vx none (some v1))++vz)++(Txt.slice vx (some v1) none)),(((Txt.slice vx none (some v1))++vz)++(Txt.slice vx (some (v1+(1:Int))) none)),((Txt.slice vx none (some v1))++(Txt.slice vx (some (v1+(1:Int))) none))] (vi % (3:Int)))))))
def mH (vx:Str) (vt:Int) (vi:Int):Prop:=(let vy:=("abcdefghijklmnopqrstuvwxyz0123456789 ABCDEFGHIJKLMNOPQRSTUVWXYZ" : Str);(vG (vy.length+("!#$&'()*+,-./:;<=>?\x40[]^_`{|}~\"\\" : Str).length)/\(let vy:=(vy++("!#$&'()*+,-./:;<=>?\x40[]^_`{|}~\"\\" : Str));(((In [(36:Int),(94:Int)].length ((vi / (3:Int)) % (2:Int))/\0 < (at' [(36:Int),(94:Int)] ((vi / (3:Int)) % (2:Int))))/\In vy.length ((vi / (6:Int)) % (at' [(36:Int),(94:Int)] ((vi / (3:Int)) % (2:Int)))))/\(let vz:=(ch vy ((vi / (6:Int)) % (at' [(36:Int),(94:Int)] ((vi / (3:Int)) % (2:Int)))));(0 < ((vx.length:Int)+(1:Int))/\(let v1:=(vt % ((vx.length:Int)+(1:Int)));(((vG ((Txt.slice vx none (some v1)).length+vz.length)/\vG (((Txt.slice vx none (some v1))++vz).length+(Txt.slice vx (some v1) none).length))/\((vG ((Txt.slice vx none (some v1)).length+vz.length)/\vG (((Txt.slice vx none (some v1))++vz).length+(Txt.slice vx (some (v1+(1:Int))) none).length))/\vG ((Txt.slice vx none (some v1)).length+(Txt.slice vx (some (v1+(1:Int))) none).length)))/\In [(((Txt.slice vx none (some v1))++vz)++(Txt.slice vx (some v1) none)),(((Txt.slice vx none (some v1))++vz)++(Txt.slice vx (some (v1+(1:Int))) none)),((Txt.slice vx none (some v1))++(Txt.slice vx (some (v1+(1:Int))) none))].length (vi % (3:Int))))))))))
theorem Fv (vx:Str) (vt:Int) (vi:Int):RP mD [some ((zE eS) vx),some ((zE eI) vt),some ((zE eI) vi),none,none,none] (fun r=>Out.rt ((zE eS) r)) (jt vx vt vi) (some (mH vx vt vi)):=R.tp (bR 3 (M8 "abcdefghijklmnopqrstuvwxyz0123456789 ABCDEFGHIJKLMNOPQRSTUVWXYZ") (fun _=>rfl) fun vy=>(bR 3 (mX (aq 3 (zE eS) vy rfl) (M8 "!#$&'()*+,-./:;<=>?\x40[]^_`{|}~\"\\")) (fun _=>rfl) fun vy=>(bR 4 (Dd (aq 3 (zE eS) vy rfl) (vD (nO (aq 2 (zE eI) vi rfl) 6 (by decide)) (lq (lO (nP (aV (x_i 36) (aV (x_i 94) (fP eI))) (zv rfl))) (gq (nO (aq 2 (zE eI) vi rfl) 3 (by decide)) 2 (by decide))))) (fun _=>rfl) fun vz=>(bR 5 (vD (aq 1 (zE eI) vt rfl) (gF (Eu (aq 0 (zE eS) vx rfl)) (x_i 1))) (fun _=>rfl) fun v1=>(jM (fun r=>r) (lq (lO (nP (aV (lQ (mX (mX (ur (aq 0 (zE eS) vx rfl) wW (wX (aq 5 (zE eI) v1 rfl))) (aq 4 (zE eS) vz rfl)) (ur (aq 0 (zE eS) vx rfl) (wX (aq 5 (zE eI) v1 rfl)) wW))) (aV (lQ (mX (mX (ur (aq 0 (zE eS) vx rfl) wW (wX (aq 5 (zE eI) v1 rfl))) (aq 4 (zE eS) vz rfl)) (ur (aq 0 (zE eS) vx rfl) (wX (gF (aq 5 (zE eI) v1 rfl) (x_i 1))) wW))) (aV (lQ (mX (ur (aq 0 (zE eS) vx rfl) wW (wX (aq 5 (zE eI) v1 rfl))) (ur (aq 0 (zE eS) vx rfl) (wX (gF (aq 5 (zE eI) v1 rfl) (x_i 1))) wW))) (fP eS)))) (zv rfl))) (gq (aq 2 (zE eI) vi rfl) 3 (by decide))) (fun _=>rfl) fun _=>rfl)))))
theorem Fw:∀ v bs,(aZ eS (aZ eI (aZ eI aN))) v bs->bs.length=3/\(hold (some (mH v.1 v.2.1 v.2.2.1))->fK (bs.map lend)=some ((zE eS) (jt v.1 v.2.1 v.2.2.1))):=by
 rintro⟨vx,vt,vi,_⟩ _ ⟨_,rfl,⟨_,rfl,⟨_,rfl,rfl⟩⟩⟩
 exact⟨rfl,fun h=>fV (g:=mD) (n:=6) (bs:=[.z (eS vx),.z (eI vt),.z (eI vi)]) (Fv vx vt vi) h⟩
def gQ (qT:Dt) (Ss:Str) (Rt:Int):Bool:=((lV qT)&&(((decide ((1:Int)<=(Jt qT)))&&(decide ((Jt qT)<=Rt)))&&(((Wv qT).map fun ZD:Dt=>(CG (UW ZD) Ss)).all id)))
def kO (qT:Dt) (Ss:Str) (Rt:Int):Prop:=((lV qT)=true->((Ju qT=true/\((decide ((1:Int)<=(Jt qT)))=true->Ju qT=true))/\(((decide ((1:Int)<=(Jt qT)))&&(decide ((Jt qT)<=Rt)))=true->((Ju qT=true/\(Wv qT).length<=100000)/\(∀ ZD∈(Wv qT),ZD=eS (UW ZD))))))
theorem Fy (qT:Dt) (Ss:Str) (Rt:Int):RP mF [some ((zE eD) qT),some ((zE eS) Ss),some ((zE eI) Rt)] (fun r=>Out.rt ((zE eB) r)) (gQ qT Ss Rt) (some (kO qT Ss Rt)):=R.tp (jM (fun r=>r) (Wu (aaZ lV (aq 0 (zE eD) qT rfl)) (Wu (adn (aaS (x_i 1) (QM (aq 0 (zE eD) qT rfl))) (aaS (QM (aq 0 (zE eD) qT rfl)) (aq 2 (zE eI) Rt rfl))) (QS (lO (uH (adp (aq 0 (zE eD) qT rfl)) _ (fun _=>rfl) (fun ZD:Dt=>(aa1 (Kq (aq 1 (zE eD) ZD rfl) UW eS) (aq 0 (zE eS) Ss rfl)))))))) (fun _=>rfl) fun _=>rfl)
theorem Fz:∀ v bs,(aZ eD (aZ eS (aZ eI aN))) v bs->bs.length=3/\(hold (some (kO v.1 v.2.1 v.2.2.1))->gK (bs.map lend)=some ((zE eB) (gQ v.1 v.2.1 v.2.2.1))):=by
 rintro⟨qT,Ss,Rt,_⟩ _ ⟨_,rfl,⟨_,rfl,⟨_,rfl,rfl⟩⟩⟩
 exact⟨rfl,fun h=>fV (g:=mF) (n:=3) (bs:=[.z (eD qT),.z (eS Ss),.z (eI Rt)]) (Fy qT Ss Rt) h⟩
def ig (qT:Dt):Bool:=(gQ qT ("abcdefghijklmnopqrstuvwxyz" : Str) (8:Int))
def pR (qT:Dt):Prop:=(kO qT ("abcdefghijklmnopqrstuvwxyz" : Str) (8:Int))
theorem NP (qT:Dt):RP ud [some ((zE eD) qT)] (fun r=>Out.rt ((zE eB) r)) (ig qT) (some (pR qT)):=R.tp (jM (fun r=>r) (x_call Fz (eU (aq 0 (zE eD) qT rfl) (eU (M8 "abcdefghijklmnopqrstuvwxyz") (eU (x_i 8) dW)))) (fun _=>rfl) fun _=>rfl)
theorem NQ:∀ v bs,(aZ eD aN) v bs->bs.length=1/\(hold (some (pR v.1))->gW (bs.map lend)=some ((zE eB) (ig v.1))):=by
 rintro⟨qT,_⟩ _ ⟨_,rfl,rfl⟩
 exact⟨rfl,fun h=>fV (g:=ud) (n:=1) (bs:=[.z (eD qT)]) (NP qT) h⟩
def bW (vo:List aO) (vp:Dt):Dt:=(if ((!(ig vp))||(!decide ((UW vp)∈(vo.map fun vr:aO=>vr.1))))=true then (Dt.tup [(Dt.str "refused"),vp]) else (Dt.tup [(Dt.str "told"),((eT aK) ((vo.filter fun vr:aO=>(!Ig (eS vr.1) vp)).map fun vr:aO=>vr))]))
def nC (vo:List aO) (vp:Dt):Prop:=(((pR vp)/\((!(ig vp))=false->(vp=eS (UW vp)/\vo.length<=100000)))/\(((!(ig vp))||(!decide ((UW vp)∈(vo.map fun vr:aO=>vr.1))))=false->(vo.length<=100000/\(∀ vr∈vo,MP (eS vr.1) vp))))
theorem Bf (vo:List aO) (vp:Dt):RP j5 [some ((zE (eT aK)) vo),some ((zE eD) vp)] (fun r=>Out.rt ((zE eD) r)) (bW vo vp) (some (nC vo vp)):=R.tp (Di (aaW (QF (Yz (x_call NQ (eU (aq 1 (zE eD) vp rfl) dW)))) (mV (aa0 (Kq (aq 1 (zE eD) vp rfl) UW eS) (lO (vI (BW (aq 0 (zE (eT aK)) vo rfl)) _ (fun _=>rfl) (fun vr:aO=>(nQ (aq 0 (zE aK) vr rfl) (fun q=>q.1) eS 0 fun _=>rfl)) fun _=>rfl))))) (dH (jM (fun r=>r) (uG (aV (x_k (.str "refused")) (aV (aq 1 (zE eD) vp rfl) (fP eD))) (zv rfl)) (fun _=>rfl) fun _=>rfl)) (gG (jM (fun r=>r) (uG (aV (x_k (.str "told")) (aV (zM (vH (lO (Ku (BW (aq 0 (zE (eT aK)) vo rfl)) _ (fun _=>rfl) (fun vr:aO=>(mV (Wt (zM (nQ (aq 1 (zE aK) vr rfl) (fun q=>q.1) eS 0 fun _=>rfl)) (aq 0 (zE eD) vp rfl)))) (fun vr:aO=>(aq 1 (zE aK) vr rfl)))))) (fP eD))) (zv rfl)) (fun _=>rfl) fun _=>rfl)))
theorem Bg:∀ v bs,(aZ (eT aK) (aZ eD aN)) v bs->bs.length=2/\(hold (some (nC v.1 v.2.1))->gw (bs.map lend)=some ((zE eD) (bW v.1 v.2.1))):=by
 rintro⟨vo,vp,_⟩ _ ⟨_,rfl,⟨_,rfl,rfl⟩⟩
 exact⟨rfl,fun h=>fV (g:=j5) (n:=2) (bs:=[.z ((eT aK) vo),.z (eD vp)]) (Bf vo vp) h⟩
def cU (vo:List aO) (vp:Dt):Bool:=(let vu:=(Dt.tup [(Dt.str "refused"),vp]);(let vu:Dt:=(if (Ey vp ((vo.map fun vm:aO=>vm.1).map eS))=true then (let vu:=(Dt.tup [(Dt.str "told"),((eT aK) ((vo.filter fun vm:aO=>(!Ig (eS vm.1) vp)).map fun vm:aO=>vm))]);vu) else vu);(Ig (bW vo vp) vu)))
def ju (vo:List aO) (vp:Dt):Prop:=(let vu:=(Dt.tup [(Dt.str "refused"),vp]);(((vo.length<=100000/\Q8 vp ((vo.map fun vm:aO=>vm.1).map eS))/\((Ey vp ((vo.map fun vm:aO=>vm.1).map eS))=true->(vo.length<=100000/\(∀ vm∈vo,MP (eS vm.1) vp))))/\(let vu:Dt:=(if (Ey vp ((vo.map fun vm:aO=>vm.1).map eS))=true then (let vu:=(Dt.tup [(Dt.str "told"),((eT aK) ((vo.filter fun vm:aO=>(!Ig (eS vm.1) vp)).map fun vm:aO=>vm))]);vu) else vu);((nC vo vp)/\MP (bW vo vp) vu))))
theorem xT (vo:List aO) (vp:Dt):RP jm [some ((zE (eT aK)) vo),some ((zE eD) vp),none] (fun r=>Out.rt ((zE eB) r)) (cU vo vp) (some (ju vo vp)):=R.tp (bR 2 (uG (aV (x_k (.str "refused")) (aV (aq 1 (zE eD) vp rfl) (fP eD))) (zv rfl)) (fun _=>rfl) fun vu=>(G8 (fun vu:Dt=>[some ((zE (eT aK)) vo),some ((zE eD) vp),some ((zE eD) vu)]) (mV (aa7 (aq 1 (zE eD) vp rfl) (lO (vI (BW (aq 0 (zE (eT aK)) vo rfl)) _ (fun _=>rfl) (fun vm:aO=>(nQ (aq 0 (zE aK) vm rfl) (fun q=>q.1) eS 0 fun _=>rfl)) fun _=>rfl)))) (dH (bR 2 (uG (aV (x_k (.str "told")) (aV (zM (vH (lO (Ku (BW (aq 0 (zE (eT aK)) vo rfl)) _ (fun _=>rfl) (fun vm:aO=>(mV (Wt (zM (nQ (aq 1 (zE aK) vm rfl) (fun q=>q.1) eS 0 fun _=>rfl)) (aq 0 (zE eD) vp rfl)))) (fun vm:aO=>(aq 1 (zE aK) vm rfl)))))) (fP eD))) (zv rfl)) (fun _=>rfl) fun vu=>(gG (dh vu rfl)))) (gG (dh vu rfl)) fun vu=>(jM (fun r=>r) (QD (x_call Bg (eU (aq 0 (zE (eT aK)) vo rfl) (eU (aq 1 (zE eD) vp rfl) dW))) (aq 2 (zE eD) vu rfl)) (fun _=>rfl) fun _=>rfl)))
theorem xU:∀ v bs,(aZ (eT aK) (aZ eD aN)) v bs->bs.length=2/\(hold (some (ju v.1 v.2.1))->cu (bs.map lend)=some ((zE eB) (cU v.1 v.2.1))):=by
 rintro⟨vo,vp,_⟩ _ ⟨_,rfl,⟨_,rfl,rfl⟩⟩
 exact⟨rfl,fun h=>fV (g:=jm) (n:=3) (bs:=[.z ((eT aK) vo),.z (eD vp)]) (xT vo vp) h⟩
def pU  (s2:Unit) (q3:Fd):uQ (Unit) Bool:=(if (!(cD q3.1 q3.2))=true then (uQ.rt false) else (uQ.nx ()))
def Bh  (s2:Unit) (q3:Fd):Prop:=(fL q3.1 q3.2)
theorem Ru (v0:LI_) {fU:Bx} (jO:Lp fU (v0.map eI)) (vj:List aO) (vk:List aO) (vb:LI_) (s2:Unit) (q3:Fd):RP Ab [some fU,some ((zE (eT aK)) vj),some ((zE (eT aK)) vk),some ((oE eI) vb),none,none,none,some ((zE (eT aK)) q3.1),some ((zE (eT aK)) q3.2),none,none,none,none] (cC (fun s2:Unit=>[some fU,some ((zE (eT aK)) vj),some ((zE (eT aK)) vk),some ((oE eI) vb),none,none,none,none,none,none,none,none,none]) (zE eB)) (pU  s2 q3) (some (Bh  s2 q3)):=R.tp (dH (Di (QF (Yz (x_call tD (eU (aq 7 (zE (eT aK)) q3.1 rfl) (eU (aq 8 (zE (eT aK)) q3.2 rfl) dW))))) (dH (jM .rt (Dc (.bl false) eB false rfl) (fun _=>rfl) fun _=>rfl)) (gG (gG (dh (.nx ()) rfl)))))
def nD (vb:LI_) (s4:Unit) (vm:aO):uQ (Unit) Bool:=(let vs:=((vm.2.map fun q5:jk=>q5.1)++[("a" : Str),("zz" : Str),("name" : Str),("p" : Str)]);(let vs:=(vs++(vm.2.map fun q6:jk=>(fM q6.1 (at' vb (3:Int)) ((at' vb (4:Int)) / (7:Int)))));(if (!((vs.map fun vh:Str=>(iQ vm vh)).all id))=true then (uQ.rt false) else (uQ.nx ()))))
def wD (vb:LI_) (s4:Unit) (vm:aO):Prop:=((vm.2.length<=100000/\vG ((vm.2.map fun q5:jk=>q5.1).length+[("a" : Str),("zz" : Str),("name" : Str),("p" : Str)].length))/\(let vs:=((vm.2.map fun q5:jk=>q5.1)++[("a" : Str),("zz" : Str),("name" : Str),("p" : Str)]);(((vm.2.length<=100000/\(∀ q6∈vm.2,((In vb.length (3:Int)/\In vb.length (4:Int))/\(iM q6.1 (at' vb (3:Int)) ((at' vb (4:Int)) / (7:Int))))))/\vG (vs.length+(vm.2.map fun q6:jk=>(fM q6.1 (at' vb (3:Int)) ((at' vb (4:Int)) / (7:Int)))).length))/\(let vs:=(vs++(vm.2.map fun q6:jk=>(fM q6.1 (at' vb (3:Int)) ((at' vb (4:Int)) / (7:Int)))));(vs.length<=100000/\(∀ vh∈vs,(iR vm vh)))))))
theorem Rv (v0:LI_) {fU:Bx} (jO:Lp fU (v0.map eI)) (vj:List aO) (vk:List aO) (vb:LI_) (s4:Unit) (vm:aO):RP Ad [some fU,some ((zE (eT aK)) vj),some ((zE (eT aK)) vk),some ((oE eI) vb),none,none,none,none,none,some ((zE aK) vm),none,none,none] (cC (fun s4:Unit=>[some fU,some ((zE (eT aK)) vj),some ((zE (eT aK)) vk),some ((oE eI) vb),none,none,none,none,none,none,none,none,none]) (zE eB)) (nD vb s4 vm) (some (wD vb s4 vm)):=R.tp (dH (bR 10 (wY (lO (vI (BW (nQ (aq 9 (zE aK) vm rfl) (fun q=>q.2) (eT Nq) 1 fun _=>rfl)) _ (fun _=>rfl) (fun q5:jk=>(aq 0 (zE eS) q5.1 rfl)) fun _=>rfl)) (lO (nP (aV (M8 "a") (aV (M8 "zz") (aV (M8 "name") (aV (M8 "p") (fP eS))))) (zv rfl)))) (fun _=>rfl) fun vs=>(dH (bR 10 (wY (mj (aq 10 (lE eS) vs rfl)) (lO (uH (BW (nQ (aq 9 (zE aK) vm rfl) (fun q=>q.2) (eT Nq) 1 fun _=>rfl)) _ (fun _=>rfl) (fun q6:jk=>(lQ (x_call wA (eU (aq 1 (zE eS) q6.1 rfl) (eU (lq (mj (aq 0 (lE eI) vb rfl)) (x_i 3)) (eU (nO (lq (mj (aq 0 (lE eI) vb rfl)) (x_i 4)) 7 (by decide)) dW))))))))) (fun _=>rfl) fun vs=>(dH (Di (QF (Yz (QS (lO (uH (YL (mj (aq 10 (lE eS) vs rfl))) _ (fun _=>rfl) (fun vh:Str=>(lQ (x_call wC (eU (aq 0 (zE aK) vm rfl) (eU (aq 1 (zE eS) vh rfl) dW)))))))))) (dH (jM .rt (Dc (.bl false) eB false rfl) (fun _=>rfl) fun _=>rfl)) (gG (gG (dh (.nx ()) rfl)))))))))
def Hu (v0:LI_) (vj:List aO) (vk:List aO) (vb:LI_) (va:LS_) (vw:LD_):Bool:=((vw.map fun vp:Dt=>(cU vj vp)).all id)
def Hv (v0:LI_) (vj:List aO) (vk:List aO) (vb:LI_) (va:LS_) (vw:LD_):Prop:=(vw.length<=100000/\(∀ vp∈vw,(ju vj vp)))
def Hw:Ev->Option Out:=(aH (jV (cY allB (ao (dG (xY (gv 12)) (lX 1) lZ (b1 uY (dM 2 cu (ao (gv 0) (ao (gv 1) aQ)))) [1] 1) aQ))) jL)
theorem Rx (v0:LI_) {fU:Bx} (jO:Lp fU (v0.map eI)) (vj:List aO) (vk:List aO) (vb:LI_) (va:LS_) (vw:LD_):RP Hw [some fU,some ((zE (eT aK)) vj),some ((zE (eT aK)) vk),some ((oE eI) vb),none,none,none,none,none,none,none,some ((oE eS) va),some ((oE eD) vw)] (fun r=>Out.rt ((zE eB) r)) (Hu v0 vj vk vb va vw) (some (Hv v0 vj vk vb va vw)):=R.tp (jM (fun r=>r) (QS (lO (uH (YL (mj (aq 12 (lE eD) vw rfl))) _ (fun _=>rfl) (fun vp:Dt=>(lQ (x_call xU (eU (aq 0 (zE (eT aK)) vj rfl) (eU (aq 1 (zE eD) vp rfl) dW)))))))) (fun _=>rfl) fun _=>rfl)
def Hx (v0:LI_) (vj:List aO) (vk:List aO) (vb:LI_) (va:LS_) (vw:LD_):Bool:=(let vw:=(vw++JF);(Hu v0 vj vk vb va vw))
def Hy (v0:LI_) (vj:List aO) (vk:List aO) (vb:LI_) (va:LS_) (vw:LD_):Prop:=(vG (vw.length+JF.length)/\(let vw:=(vw++JF);(Hv v0 vj vk vb va vw)))
def Hz:Ev->Option Out:=(aH (setG 12 (b2 bQ (gv 12) (cY mQ (ao (cB (.str "qqqqqqqq")) (ao (cB (.str "")) (ao (cB (.str "A")) (ao (cB .non) (ao (cB (.int 7)) (ao (cB (.bl true)) (ao (cY gC (ao (cB (.str "a")) aQ)) (ao (b1 uY (cY mQ (ao (cB (.str "a")) aQ))) (ao (cB .emp) aQ)))))))))))) Hw)
theorem Ry (v0:LI_) {fU:Bx} (jO:Lp fU (v0.map eI)) (vj:List aO) (vk:List aO) (vb:LI_) (va:LS_) (vw:LD_):RP Hz [some fU,some ((zE (eT aK)) vj),some ((zE (eT aK)) vk),some ((oE eI) vb),none,none,none,none,none,none,none,some ((oE eS) va),some ((oE eD) vw)] (fun r=>Out.rt ((zE eB) r)) (Hx v0 vj vk vb va vw) (some (Hy v0 vj vk vb va vw)):=R.tp (bR 12 (wY (mj (aq 12 (lE eD) vw rfl)) (lO (nP (aV (x_k (.str "qqqqqqqq")) (aV (x_k (.str "")) (aV (x_k (.str "A")) (aV (x_k .non) (aV (x_k (.int 7)) (aV (x_k (.bl true)) (aV (uG (aV (x_k (.str "a")) (fP eD)) (zv rfl)) (aV (zM (aaR (nP (aV (M8 "a") (fP eS)) (zv rfl)))) (aV (Dc .emp eD .emp rfl) (fP eD)))))))))) (zv rfl)))) (fun _=>rfl) fun vw=>(Rx v0 jO vj vk vb va vw).r)
def HB (v0:LI_) (vj:List aO) (vk:List aO) (vb:LI_) (va:LS_):Bool:=(let vw:=((va++((pB va).map fun q7:Rm=>(jt q7.2 (at' vb (5:Int)) ((at' vb (6:Int))+((577:Int) * q7.1))))).map eS);(Hx v0 vj vk vb va vw))
def HD (v0:LI_) (vj:List aO) (vk:List aO) (vb:LI_) (va:LS_):Prop:=((((pB va).length<=100000/\(∀ q7∈(pB va),((In vb.length (5:Int)/\In vb.length (6:Int))/\(mH q7.2 (at' vb (5:Int)) ((at' vb (6:Int))+((577:Int) * q7.1))))))/\vG (va.length+((pB va).map fun q7:Rm=>(jt q7.2 (at' vb (5:Int)) ((at' vb (6:Int))+((577:Int) * q7.1)))).length))/\(let vw:=((va++((pB va).map fun q7:Rm=>(jt q7.2 (at' vb (5:Int)) ((at' vb (6:Int))+((577:Int) * q7.1))))).map eS);(Hy v0 vj vk vb va vw)))
def HF:Ev->Option Out:=(aH (setG 12 (b2 bQ (gv 11) (dG (enC (ao (gv 11) aQ)) (oY 2 (eN (lX 1) (eN (lX 2) rA))) lZ (b1 uY (dM 3 fK (ao (gv 2) (ao (b2 gB (gv 0) (cB (.int 5))) (ao (b1 uY (b2 bQ (b2 gB (gv 0) (cB (.int 6))) (b2 mR (cB (.int 577)) (gv 1)))) aQ))))) [3] 2))) Hz)
theorem Rz (v0:LI_) {fU:Bx} (jO:Lp fU (v0.map eI)) (vj:List aO) (vk:List aO) (vb:LI_) (va:LS_):RP HF [some fU,some ((zE (eT aK)) vj),some ((zE (eT aK)) vk),some ((oE eI) vb),none,none,none,none,none,none,none,some ((oE eS) va),none] (fun r=>Out.rt ((zE eB) r)) (HB v0 vj vk vb va) (some (HD v0 vj vk vb va)):=R.tp (bR 12 (YJ (wY (mj (aq 11 (lE eS) va rfl)) (lO (uH (U9 (mj (aq 11 (lE eS) va rfl))) _ (fun _=>rfl) (fun q7:Rm=>(lQ (x_call Fw (eU (aq 2 (zE eS) q7.2 rfl) (eU (lq (mj (aq 0 (lE eI) vb rfl)) (x_i 5)) (eU (lQ (gF (lq (mj (aq 0 (lE eI) vb rfl)) (x_i 6)) (oH 577 (by decide) (aq 1 (zE eI) q7.1 rfl)))) dW)))))))))) (fun _=>rfl) fun vw=>(Ry v0 jO vj vk vb va vw).r)
def Bj (v0:LI_) (vj:List aO) (vk:List aO) (vb:LI_):Bool:=(let va:=(vj.map fun vm:aO=>vm.1);(HB v0 vj vk vb va))
def Bl (v0:LI_) (vj:List aO) (vk:List aO) (vb:LI_):Prop:=(vj.length<=100000/\(let va:=(vj.map fun vm:aO=>vm.1);(HD v0 vj vk vb va)))
def HJ:Ev->Option Out:=(aH (setG 11 (dG (xY (gv 1)) (lX 0) lZ (b2 gB (gv 0) (cB (.int 0))) [] 1)) HF)
theorem RB (v0:LI_) {fU:Bx} (jO:Lp fU (v0.map eI)) (vj:List aO) (vk:List aO) (vb:LI_):RP HJ [some fU,some ((zE (eT aK)) vj),some ((zE (eT aK)) vk),some ((oE eI) vb),none,none,none,none,none,none,none,none,none] (fun r=>Out.rt ((zE eB) r)) (Bj v0 vj vk vb) (some (Bl v0 vj vk vb)):=R.tp (bR 11 (vI (BW (aq 1 (zE (eT aK)) vj rfl)) _ (fun _=>rfl) (fun vm:aO=>(nQ (aq 0 (zE aK) vm rfl) (fun q=>q.1) eS 0 fun _=>rfl)) fun _=>rfl) (fun _=>rfl) fun va=>(Rz v0 jO vj vk vb va).r)
def wF (v0:LI_) (vj:List aO) (vk:List aO) (vb:LI_):Bool:=(behind (oJ (fun (s4:Unit) (vm:aO)=>((nD vb s4 vm):uQ (Unit) Bool)) (vj++vk) ()) (fun r=>r) fun s4:Unit=>(Bj v0 vj vk vb))
def Bm (v0:LI_) (vj:List aO) (vk:List aO) (vb:LI_):Prop:=((vG (vj.length+vk.length)/\vJ (fun (s4:Unit) (vm:aO)=>((nD vb s4 vm):uQ (Unit) Bool)) (fun (s4:Unit) (vm:aO)=>some (wD vb s4 vm)) (vj++vk) ())/\(vK (oJ (fun (s4:Unit) (vm:aO)=>((nD vb s4 vm):uQ (Unit) Bool)) (vj++vk) ()) fun s4:Unit=>(Bl v0 vj vk vb)))
def HN:Ev->Option Out:=(aH (nH (Ke (b2 bQ (gv 1) (gv 2))) (lX 9) Ad) HJ)
theorem RD (v0:LI_) {fU:Bx} (jO:Lp fU (v0.map eI)) (vj:List aO) (vk:List aO) (vb:LI_):RP HN [some fU,some ((zE (eT aK)) vj),some ((zE (eT aK)) vk),some ((oE eI) vb),none,none,none,none,none,none,none,none,none] (fun r=>Out.rt ((zE eB) r)) (wF v0 vj vk vb) (some (Bm v0 vj vk vb)):=R.tp (Jw (fun s4:Unit=>[some fU,some ((zE (eT aK)) vj),some ((zE (eT aK)) vk),some ((oE eI) vb),none,none,none,none,none,none,none,none,none]) () rfl (YM (QH (aq 1 (zE (eT aK)) vj rfl) (aq 2 (zE (eT aK)) vk rfl))) _ (fun _ _=>rfl) (fun (s4:Unit) (vm:aO)=>((Rv v0 jO vj vk vb s4 vm).r:R _ _ (cC (fun s4:Unit=>[some fU,some ((zE (eT aK)) vj),some ((zE (eT aK)) vk),some ((oE eI) vb),none,none,none,none,none,none,none,none,none]) (zE eB)))) (fun r=>r) (fun _=>rfl) fun s4=>(RB v0 jO vj vk vb).r)
def wG (v0:LI_) (vj:List aO) (vk:List aO) (vb:LI_):Bool:=(behind (oJ (fun (s2:Unit) (q3:Fd)=>((pU  s2 q3):uQ (Unit) Bool)) [(vj,vk),(vk,vj),(vj,vj),(vj,([]:List aO)),(([]:List aO),vk)] ()) (fun r=>r) fun s2:Unit=>(wF v0 vj vk vb))
def Bo (v0:LI_) (vj:List aO) (vk:List aO) (vb:LI_):Prop:=(vJ (fun (s2:Unit) (q3:Fd)=>((pU  s2 q3):uQ (Unit) Bool)) (fun (s2:Unit) (q3:Fd)=>some (Bh  s2 q3)) [(vj,vk),(vk,vj),(vj,vj),(vj,([]:List aO)),(([]:List aO),vk)] ()/\(vK (oJ (fun (s2:Unit) (q3:Fd)=>((pU  s2 q3):uQ (Unit) Bool)) [(vj,vk),(vk,vj),(vj,vj),(vj,([]:List aO)),(([]:List aO),vk)] ()) fun s2:Unit=>(Bm v0 vj vk vb)))
def HS:Ev->Option Out:=(aH (nH (Ke (cY mQ (ao (cY gC (ao (gv 1) (ao (gv 2) aQ))) (ao (cY gC (ao (gv 2) (ao (gv 1) aQ))) (ao (cY gC (ao (gv 1) (ao (gv 1) aQ))) (ao (cY gC (ao (gv 1) (ao (cY gC aQ) aQ))) (ao (cY gC (ao (cY gC aQ) (ao (gv 2) aQ))) aQ))))))) (oY 2 (eN (lX 7) (eN (lX 8) rA))) Ab) HN)
theorem RG (v0:LI_) {fU:Bx} (jO:Lp fU (v0.map eI)) (vj:List aO) (vk:List aO) (vb:LI_):RP HS [some fU,some ((zE (eT aK)) vj),some ((zE (eT aK)) vk),some ((oE eI) vb),none,none,none,none,none,none,none,none,none] (fun r=>Out.rt ((zE eB) r)) (wG v0 vj vk vb) (some (Bo v0 vj vk vb)):=R.tp (Jw (fun s2:Unit=>[some fU,some ((zE (eT aK)) vj),some ((zE (eT aK)) vk),some ((oE eI) vb),none,none,none,none,none,none,none,none,none]) () rfl (aa3 (nP (aV (ql (aq 1 (zE (eT aK)) vj rfl) (aq 2 (zE (eT aK)) vk rfl)) (aV (ql (aq 2 (zE (eT aK)) vk rfl) (aq 1 (zE (eT aK)) vj rfl)) (aV (ql (aq 1 (zE (eT aK)) vj rfl) (aq 1 (zE (eT aK)) vj rfl)) (aV (ql (aq 1 (zE (eT aK)) vj rfl) (Es aK)) (aV (ql (Es aK) (aq 2 (zE (eT aK)) vk rfl)) (fP adE)))))) (zv rfl))) _ (fun _ _=>rfl) (fun (s2:Unit) (q3:Fd)=>((Ru v0 jO vj vk vb s2 q3).r:R _ _ (cC (fun s2:Unit=>[some fU,some ((zE (eT aK)) vj),some ((zE (eT aK)) vk),some ((oE eI) vb),none,none,none,none,none,none,none,none,none]) (zE eB)))) (fun r=>r) (fun _=>rfl) fun s2=>(RD v0 jO vj vk vb).r)
def tK (v0:LI_) (vj:List aO) (vk:List aO) (vb:LI_):Bool:=(let vk:(List aO):=(if ((decide (((at' vb (0:Int)) % (3:Int))=(1:Int)))&&(!decide (vj=([]:List aO))))=true then (let vf:=(at' vj ((at' vb (1:Int)) % (vj.length:Int))).1;(let vl:=((vk.filter fun vm:aO=>(!decide (vm.1=vf))).map fun vm:aO=>vm);(let v1:=((at' vb (2:Int)) % ((vl.length:Int)+(1:Int)));(let vk:=(((cut vl none (some v1))++[(vf,([]:List jk))])++(cut vl (some v1) none));vk)))) else vk);(wG v0 vj vk vb))
def Bp (v0:LI_) (vj:List aO) (vk:List aO) (vb:LI_):Prop:=((In vb.length (0:Int)/\(((decide (((at' vb (0:Int)) % (3:Int))=(1:Int)))&&(!decide (vj=([]:List aO))))=true->(((In vb.length (1:Int)/\0 < (vj.length:Int))/\In vj.length ((at' vb (1:Int)) % (vj.length:Int)))/\(let vf:=(at' vj ((at' vb (1:Int)) % (vj.length:Int))).1;(vk.length<=100000/\(let vl:=((vk.filter fun vm:aO=>(!decide (vm.1=vf))).map fun vm:aO=>vm);((In vb.length (2:Int)/\0 < ((vl.length:Int)+(1:Int)))/\(let v1:=((at' vb (2:Int)) % ((vl.length:Int)+(1:Int)));(vG ((cut vl none (some v1)).length+[(vf,([]:List jk))].length)/\vG (((cut vl none (some v1))++[(vf,([]:List jk))]).length+(cut vl (some v1) none).length))))))))))/\(let vk:(List aO):=(if ((decide (((at' vb (0:Int)) % (3:Int))=(1:Int)))&&(!decide (vj=([]:List aO))))=true then (let vf:=(at' vj ((at' vb (1:Int)) % (vj.length:Int))).1;(let vl:=((vk.filter fun vm:aO=>(!decide (vm.1=vf))).map fun vm:aO=>vm);(let v1:=((at' vb (2:Int)) % ((vl.length:Int)+(1:Int)));(let vk:=(((cut vl none (some v1))++[(vf,([]:List jk))])++(cut vl (some v1) none));vk)))) else vk);(Bo v0 vj vk vb)))
def HW:Ev->Option Out:=(aH (BK (Mh (yP eqB (b2 gD (b2 gB (gv 3) (cB (.int 0))) (cB (.int 3))) (cB (.int 1))) (yP Ie (gv 1) (cY gC aQ))) (aH (aH (setG 4 (b2 gB (b2 gB (gv 1) (b2 gD (b2 gB (gv 3) (cB (.int 1))) (cY pq (ao (gv 1) aQ)))) (cB (.int 0)))) (aH (setG 5 (dG (xY (gv 2)) (lX 1) (yP Ie (b2 gB (gv 1) (cB (.int 0))) (gv 0)) (gv 1) [4] 1)) (aH (setG 6 (b2 gD (b2 gB (gv 3) (cB (.int 2))) (b2 bQ (cY pq (ao (gv 5) aQ)) (cB (.int 1))))) (aH (setG 2 (cY mU (ao (b2 bQ (b2 bQ (CN (gv 5) iW (kW (gv 6))) (cY mQ (ao (cY gC (ao (gv 4) (ao (cY gC aQ) aQ))) aQ))) (CN (gv 5) (kW (gv 6)) iW)) aQ))) jL)))) (gn [4,5,6])) (aH jL (gn [4,5,6]))) HS)
theorem RJ (v0:LI_) {fU:Bx} (jO:Lp fU (v0.map eI)) (vj:List aO) (vk:List aO) (vb:LI_):RP HW [some fU,some ((zE (eT aK)) vj),some ((zE (eT aK)) vk),some ((oE eI) vb),none,none,none,none,none,none,none,none,none] (fun r=>Out.rt ((zE eB) r)) (tK v0 vj vk vb) (some (Bp v0 vj vk vb)):=R.tp (G8 (fun vk:(List aO)=>[some fU,some ((zE (eT aK)) vj),some ((zE (eT aK)) vk),some ((oE eI) vb),none,none,none,none,none,none,none,none,none]) (aaV (mV (x_eq (by decide) (gq (lq (mj (aq 3 (lE eI) vb rfl)) (x_i 0)) 3 (by decide)) (x_i 1))) (mV (aaT (by decide) (aq 1 (zE (eT aK)) vj rfl) (Es aK)))) (dH (bR 4 (nQ (aaX (aq 1 (zE (eT aK)) vj rfl) (vD (lq (mj (aq 3 (lE eI) vb rfl)) (x_i 1)) (YF (aq 1 (zE (eT aK)) vj rfl)))) (fun q=>q.1) eS 0 fun _=>rfl) (fun _=>rfl) fun vf=>(dH (bR 5 (G7 (BW (aq 2 (zE (eT aK)) vk rfl)) _ (fun _=>rfl) (fun vm:aO=>(mV (aaT (by decide) (nQ (aq 1 (zE aK) vm rfl) (fun q=>q.1) eS 0 fun _=>rfl) (aq 0 (zE eS) vf rfl)))) (fun vm:aO=>(aq 1 (zE aK) vm rfl)) (fun _=>rfl) fun _=>rfl) (fun _=>rfl) fun vl=>(dH (bR 6 (vD (lq (mj (aq 3 (lE eI) vb rfl)) (x_i 2)) (gF (x_len (mj (aq 5 (lE aK) vl rfl))) (x_i 1))) (fun _=>rfl) fun v1=>(dH (bR 2 (vH (lO (wY (lO (wY (lO (YC (mj (aq 5 (lE aK) vl rfl)) wW (wX (aq 6 (zE eI) v1 rfl)))) (lO (nP (aV (ql (aq 4 (zE eS) vf rfl) (Es Nq)) (fP aK)) (zv rfl))))) (lO (YC (mj (aq 5 (lE aK) vl rfl)) (wX (aq 6 (zE eI) v1 rfl)) wW))))) (fun _=>rfl) fun vk=>(gG (dh vk rfl)))))))))) (gG (dh vk rfl)) fun vk=>(RG v0 jO vj vk vb).r)
def Dv (v0:LI_) (vj:List aO) (vk:List aO):Bool:=(let vb:=(aD (aG v0 (24:Int)) (7:Int));(tK v0 vj vk vb))
def Dw (v0:LI_) (vj:List aO) (vk:List aO):Prop:=(((jG v0 (24:Int))/\(g8 (aG v0 (24:Int)) (7:Int)))/\(let vb:=(aD (aG v0 (24:Int)) (7:Int));(Bp v0 vj vk vb)))
def NT:Ev->Option Out:=(aH (setG 3 (dM 2 bV (ao (b1 uY (dM 2 dX (ao (gv 0) (ao (cB (.int 24)) aQ)))) (ao (cB (.int 7)) aQ)))) HW)
theorem NZ (v0:LI_) {fU:Bx} (jO:Lp fU (v0.map eI)) (vj:List aO) (vk:List aO):RP NT [some fU,some ((zE (eT aK)) vj),some ((zE (eT aK)) vk),none,none,none,none,none,none,none,none,none,none] (fun r=>Out.rt ((zE eB) r)) (Dv v0 vj vk) (some (Dw v0 vj vk)):=R.tp (bR 3 (x_call oO (eU (lQ (x_call uN (Jv (kY 0 eI v0 jO rfl) (eU (x_i 24) dW)))) (eU (x_i 7) dW))) (fun _=>rfl) fun vb=>(RJ v0 jO vj vk vb).r)
def K6 (v0:LI_):Bool:=(let q1:=((dF v0 (0:Int) (10:Int)),(dF v0 (12:Int) (10:Int)));(Dv v0 q1.1 q1.2))
def K7 (v0:LI_):Prop:=(((gU v0 (0:Int) (10:Int))/\(gU v0 (12:Int) (10:Int)))/\(let q1:=((dF v0 (0:Int) (10:Int)),(dF v0 (12:Int) (10:Int)));(Dw v0 q1.1 q1.2)))
theorem abL (v0:LI_) {fU:Bx} (jO:Lp fU (v0.map eI)):RP KR [some fU,none,none,none,none,none,none,none,none,none,none,none,none] (fun r=>Out.rt ((zE eB) r)) (K6 v0) (some (K7 v0)):=R.tp (aa4 (ql (lQ (x_call qN (Jv (kY 0 eI v0 jO rfl) (eU (x_i 0) (eU (x_i 10) dW))))) (lQ (x_call qN (Jv (kY 0 eI v0 jO rfl) (eU (x_i 12) (eU (x_i 10) dW)))))) _ (fun _=>rfl) fun q1=>(NZ v0 jO q1.1 q1.2).r)
theorem WM:∀ v bs,(aL eI aN) v bs->bs.length=1/\(hold (some (K7 v.1))->n8 (bs.map lend)=some ((zE eB) (K6 v.1))):=by
 rintro⟨v0,_⟩ _ ⟨fU,_,rfl,jO,rfl⟩
 exact⟨rfl,fun h=>fV (g:=KR) (n:=13) (bs:=[lend fU]) (abL v0 (G3 jO)) h⟩
theorem WQ (h:∀ ns:List Int,ns.length<=63->K7 ns/\K6 ns=true):(∀ ns:List Int,ns.length<=63->n8 [.z (.lst (ns.map .int))]=some (.z (.bl true)))/\∀ ns:List Int,ns.length<=63->n8 [.l (ns.map .int)]=some (.z (.bl true)):=
 ⟨fun ns hn=>((WM (ns,()) [.z (.lst (ns.map .int))] ⟨_,_,rfl,rfl,rfl⟩).2 (h ns hn).1).trans (by rw[(h ns hn).2]),fun ns hn=>((WM (ns,()) [.l (ns.map .int)] ⟨_,_,rfl,rfl,rfl⟩).2 (h ns hn).1).trans (by rw[(h ns hn).2])⟩
end
end G02
end
section
set_option synthInstance.maxSize 100000
namespace G02
open PySem PySem.Spec PyProof.Rows L2 P1
theorem JR (script:List Int) (k:Int) (h0:0<=k) (h1:k<=1000):jG script k:=by
 unfold jG
 exact⟨fun h=>in_of h0 (by simpa using h),fun _=>Wx h0 (by omega)⟩
theorem RK (k:Nat) (s:Int×List Int×Int) (hk:k < 1000) (h:(0<=s.1/\s.1 < 1999999973)/\s.2.1.length=k/\(∀ x∈s.2.1,0<=x)/\0<=s.2.2):jq s k/\(0<=(bO s k).1/\(bO s k).1 < 1999999973)/\(bO s k).2.1.length=k+1/\(∀ x∈(bO s k).2.1,0<=x)/\0<=(bO s k).2.2:=by
 obtain⟨h1,h2,h3,h4⟩:=h
 have hin:In 2 (if (decide ((0:Int) < s.2.2))=true then (1:Int) else 0):=by split<;>exact in_of (by omega) (by omega)
 refine⟨⟨Wx h1.1 (by omega),hin,?_⟩,gR _ (by decide),?_,?_,Int.ediv_nonneg h4 (by decide)⟩
 ·show s.2.1.length<=1000000
  omega
 ·show (s.2.1++[_]).length=k+1
  rw[zS,h2];rfl
 ·intro x hx
  rcases List.mem_append.mp hx with hx|hx
  ·exact h3 x hx
  ·cases List.mem_singleton.mp hx
   have:=zV (xs:=[((((s.1 * ((s.1 % (65521:Int))+(40487:Int)))+((7:Int) * k))+(5:Int)) % (1999999973:Int)),(s.2.2 % (1000000:Int))]) hin
   simp only[j3,jS,or_false] at this
   rcases this with e|e<;>rw[e]
   ·exact (gR _ (by decide)).1
   ·exact (gR _ (by decide)).1
theorem FJ (c m:Int) (h0:0<=m) (h1:m<=1000):g8 c m/\(aD c m).length=m.toNat/\∀ x∈aD c m,0<=x:=by
 have key:∀ st dg:Int,(0<=st/\st < 1999999973)->0<=dg->lG c m [] st dg/\(jr c m [] st dg).length=m.toNat/\∀ x∈jr c m [] st dg,0<=x:=fun st dg hs hd=>by
  have:=rN (P:=fun s k=>some (jq s k)) (fun k s=>(0<=s.1/\s.1 < 1999999973)/\s.2.1.length=k/\(∀ x∈s.2.1,0<=x)/\0<=s.2.2) (step:=fun s k=>bO s k) m.toNat (st,[],dg) ⟨hs,rfl,fun x h=>(by cases h),hd⟩ fun k s hk h=>RK k s (by omega) h
  exact⟨⟨Dj h0 (by omega),this.1⟩,this.2.2.1,this.2.2.2.1⟩
 refine key _ _ (gR _ (by decide)) ?_
 dsimp only
 split<;>(try split)<;>omega
theorem foldl_size {α:Type} (c:Array α):∀ (n:Nat) (a:Array α),((List.replicate n c).foldl (·++·) a).size=a.size+n * c.size
 |0,a=>by simp
 |n+1,a=>by
  rw[ko,ja,foldl_size c n,kF,Nat.succ_mul]
  omega
theorem Em (x:Str) (k:Int):(Txt.mul x k).length<=x.length * k.toNat:=by
 unfold Txt.mul
 split
 ·exact Qr _
 split
 ·rename_i h0 h
  simp only[Bool.or_eq_true,beq_iff_eq] at h
  rcases h with h|h
  ·subst h;simp
  ·rw[h];simp
 ·show (Array.size _)<=_
  rw[foldl_size]
  have:x.cps.size=x.length:=rfl
  rw[this,Nat.mul_comm]
  simp
def LT:Str:=("abcdefghijklmnopqrstuvwxyz" : Str)
theorem JT:LT.length=26:=by decide +kernel
theorem eV {n:Nat} (h:n<=1000):vG n:=zh h (by decide)
theorem JV (xs:List Int) (hl:6<=xs.length) (stem:Str) (hs:stem.length<=5) (at_:Int) (k:Nat) (found:LS_) (hk:k < 200) (h:found.length=k/\∀ n∈found,n.length<=12):kj xs LT stem at_ found k/\(eE xs LT stem at_ found k).length=k+1/\∀ n∈eE xs LT stem at_ found k,n.length<=12:=by
 have s1:=zh (slice_le stem none (some at_)) hs
 have s2:=zh (slice_le stem (some at_) none) hs
 have c1:=lu LT ((↑k+at' xs 2) % 15)
 have m8:=gR (k:Int) (m:=8) (by decide)
 have hd:(0:Int)<=(k:Int) / 8/\(k:Int) / 8 < 26:=by omega
 refine⟨⟨⟨in_of (by decide) (by omega),mY (by decide) (by rw[JT];decide)⟩,⟨eV (by omega),eV (by rw[iY];omega)⟩,⟨in_of (by decide) (by omega),fun _=>⟨in_of hd.1 (by rw[JT];exact hd.2),by omega,by omega,by rw[lu];decide⟩⟩,eV (by omega)⟩,?_⟩
 have key:∀ n:Str,n.length<=12->(found++[n]).length=k+1/\∀ m∈found++[n],m.length<=12:=fun n hn=>⟨by simp[h.1],fun m hm=>by
  rcases List.mem_append.mp hm with hm|hm
  ·exact h.2 m hm
  ·cases List.mem_singleton.mp hm;exact hn⟩
 unfold eE
 dsimp only
 split
 ·exact key _ (by have:=Em (ch LT ((k:Int) / 8)) (1+(k:Int) % 8);rw[lu] at this;exact zh this (by omega))
 ·exact key _ (by rw[iY,iY,c1];omega)
theorem RM (xs:LS_) (n:Nat) (h:∀ x∈xs,x.length<=n):(Txt.join "" xs).length<=xs.length * n:=by
 have h1:=StrLaws.join_length_le ("" : Str) xs
 rw[<-StrLaws.glued_eq_join] at h1
 have h2:(xs.map (·.length)).sum<=xs.length * n:=by
  clear h1
  induction xs with
  |nil=>simp
  |cons a l ih=>
   have:=ih fun x hx=>h x (Zs _ hx)
   have:=h a (ZA ..)
   simp only[zl,List.sum_cons,QU,Nat.succ_mul]
   omega
 have h3:("" : Str).length=0:=rfl
 rw[h3,Nat.mul_zero] at h1
 exact zh h1 (by omega)
theorem ae2 (xs:LS_) (h:∀ x∈xs,x.length=1):(xs.map (·.length)).sum=xs.length:=by
 induction xs with
 |nil=>rfl
 |cons a l ih=>
  have:=ih fun x hx=>h x (Zs _ hx)
  have:=h a (ZA ..)
  simp only[zl,List.sum_cons,QU]
  omega
theorem RN (xs:List Int) (hl:6<=xs.length) (many:Int) (h0:0<=many) (h1:many<=200):oA xs many/\(bC xs many).length=many.toNat/\∀ n∈bC xs many,n.length<=12:=by
 have m6:=gR (at' xs 0) (m:=6) (by decide)
 have st:∀ stem:Str,stem.length<=5->nA xs many LT stem/\(kE xs many LT stem).length=many.toNat/\∀ n∈kE xs many LT stem,n.length<=12:=fun stem hs=>by
  have:=rN (P:=fun f k=>some (kj xs LT stem (at' xs 1 % ((stem.length:Int)+1)) f k)) (step:=fun f k=>eE xs LT stem (at' xs 1 % ((stem.length:Int)+1)) f k) (fun k s=>s.length=k/\∀ n∈s,n.length<=12) many.toNat [] ⟨rfl,fun n h=>(by cases h)⟩ fun k s hk h=>JV xs hl stem hs _ k s (by omega) h
  exact⟨⟨⟨in_of (by decide) (by omega),by omega⟩,Dj h0 (by omega),this.1⟩,this.2⟩
 have c1:∀ x∈((rng 0 (at' xs 0 % 6).toNat).map fun k_:Int=>ch LT (at' xs k_ / 40 % 26)),x.length=1:=fun x hx=>by
  obtain⟨k,_,rfl⟩:=List.mem_map.mp hx
  exact lu _ _
 have:=st (Txt.join "" ((rng 0 (at' xs 0 % 6).toNat).map fun k_:Int=>ch LT (at' xs k_ / 40 % 26))) (by
  have:=RM _ 1 fun x hx=>Nat.le_of_eq (c1 x hx)
  rw[zg,vL] at this
  omega)
 refine⟨⟨⟨⟨⟨⟨in_of (by decide) (by omega),Dj m6.1 (by omega)⟩,by rw[vL];omega⟩,fun k hk=>?_⟩,?_⟩,this.1⟩,this.2⟩
 ·obtain⟨j,hj,rfl⟩:=Vt hk
  exact⟨in_of (by omega) (by omega),mY (by decide) (by rw[show ("abcdefghijklmnopqrstuvwxyz" : Str)=LT from rfl,JT];decide)⟩
 ·rw[show ("abcdefghijklmnopqrstuvwxyz" : Str)=LT from rfl,ae2 _ c1,zg,vL]
  have h3:("" : Str).length=0:=rfl
  rw[h3]
  omega
def Sv (xs:List Int) (stem:Str) (at_:Int) (k:Int):Str:=if (decide (((at' xs (3:Int)) % (3:Int))=(1:Int)))=true then (Txt.mul (ch LT (k / (8:Int))) ((1:Int)+(k % (8:Int)))) else (((Txt.slice stem none (some at_))++(ch LT ((k+(at' xs (2:Int))) % (15:Int))))++(Txt.slice stem (some at_) none))
theorem Bq {α β:Type} (g:β->α):∀ (l:List β) (f:List α),l.foldl (fun f k=>f++[g k]) f=f++l.map g
 |[],f=>by simp
 |k::l,f=>by rw[ja,Bq g l];simp
theorem JW {a b m m':Str} (h:(a++m)++b=(a++m')++b):m=m':=by
 have h:=congrArg (fun s:Str=>s.cps.toList) h
 have h:((a.cps++m.cps)++b.cps).toList=((a.cps++m'.cps)++b.cps).toList:=h
 simp only[Array.toList_append] at h
 have:=List.append_cancel_left (List.append_cancel_right h)
 cases m;cases m'
 congr 1
 exact Array.ext' this
theorem Zg:∀ i:Fin 30,∀ j:Fin 30,Txt.mul (ch LT ((i.val:Int) / 8)) (1+(i.val:Int) % 8)=Txt.mul (ch LT ((j.val:Int) / 8)) (1+(j.val:Int) % 8)->i=j:=by decide +kernel
theorem abM:∀ i:Fin 15,∀ j:Fin 15,ch LT (i.val:Int)=ch LT (j.val:Int)->i=j:=by decide +kernel
theorem Zh {x y:Int} (hx:0<=x/\x < 15) (hy:0<=y/\y < 15) (h:ch LT x=ch LT y):x=y:=by
 have:=abM ⟨x.toNat,by omega⟩ ⟨y.toNat,by omega⟩ (by
  show ch LT ((x.toNat:Nat):Int)=ch LT ((y.toNat:Nat):Int)
  rw[qE hx.1,qE hy.1];exact h)
 have:=congrArg Fin.val this
 have:x.toNat=y.toNat:=this
 omega
theorem Zi {xs:List Int} {stem:Str} {at_:Int} {i j:Nat} (hi:i < 15) (hj:j < 15) (h:Sv xs stem at_ i=Sv xs stem at_ j):i=j:=by
 unfold Sv at h
 by_cases e:(decide (((at' xs (3:Int)) % (3:Int))=(1:Int)))=true
 ·rw[zi e,zi e] at h
  exact congrArg Fin.val (Zg ⟨i,by omega⟩ ⟨j,by omega⟩ h)
 ·rw[zw e,zw e] at h
  have:=Zh (gR _ (by decide)) (gR _ (by decide)) (JW h)
  omega
theorem Zj {n:Nat} {g:Int->Str} (h:∀ i j:Nat,i < n->j < n->g i=g j->i=j):((rng 0 n).map g).Nodup:=by
 unfold rng
 rw[qk]
 unfold List.Nodup
 rw[List.pairwise_map]
 refine List.Pairwise.imp_of_mem ?_ (List.nodup_range (n:=n))
 intro a b ha hb hne e
 refine hne (h a b (List.mem_range.mp ha) (List.mem_range.mp hb) ?_)
 have e:g (0+(a:Int))=g (0+(b:Int)):=e
 rwa [Int.zero_add,Int.zero_add] at e
def Lw (c:Nat):Prop:=97<=c/\c<=122
def Wd (c:Nat):Prop:=Lw c\/(48<=c/\c<=57)
def Nm (s:Str):Prop:=1<=s.length/\s.length<=8/\∀ c∈cs s,Lw c
def Wo (s:Str):Prop:=1<=s.length/\s.length<=12/\∀ c∈cs s,Wd c
abbrev Rw:=Str×List (Str×Str)
structure uh (r:Rw):Prop where
 n:Nm r.1
 l:r.2.length<=8
 w:∀ q∈r.2,Nm q.1/\Wo q.2
 s:(r.2.map (·.1)).Pairwise fun a b=>ltS a b=true
theorem abN:∀ c∈cs LT,Lw c:=by unfold Lw;decide +kernel
theorem abO {c:Nat} (h:Lw c):c∈cs LT:=by
 have:∀ i:Fin 26,97+i.val∈cs LT:=by decide +kernel
 have:=this ⟨c - 97,by unfold Lw at h;omega⟩
 unfold Lw at h
 rwa [show 97+(c - 97)=c by omega] at this
theorem RQ (x:Int) (ls:Str) (hls:0 < ls.length) (most:Int) (h0:0 < most) (h1:most<=12):jg x ls most/\(eF x ls most).length=(1+x % most).toNat/\∀ c∈cs (eF x ls most),c∈cs ls:=by
 have m:=gR x (m:=most) h0
 have:=rN (P:=fun f k=>some (kJ x ls f k)) (step:=fun f k=>iJ x ls f k) (fun k (s:Str)=>s.length=k/\∀ c∈cs s,c∈cs ls) (1+x % most).toNat ("" : Str) ⟨rfl,fun c hc=>by cases hc⟩ fun k s hk h=>by
  have hi:In ls.length (x / (7+5 * (k:Int)) % (ls.length:Int)):=mY (by omega) (Int.le_refl _)
  refine⟨⟨⟨⟨by omega,by omega⟩,hi⟩,eV (by rw[lu];omega)⟩,?_,fun c hc=>?_⟩
  ·show (s++ch ls _).length=k+1
   rw[iY,lu];omega
  ·have hc:c∈cs (s++ch ls (x / (7+5 * (k:Int)) % (ls.length:Int))):=hc
   rw[z8] at hc
   rcases List.mem_append.mp hc with hc|hc
   ·exact h.2 c hc
   ·obtain⟨d,hd,e⟩:=abk hi
    rw[e] at hc
    cases List.mem_singleton.mp hc
    exact hd
 exact⟨⟨⟨h0,Dj (by omega) (by omega)⟩,this.1⟩,this.2⟩
theorem Vy {α:Type} (m:List (Str×α)) (x:Str) (a:α):(put m x a).length<=m.length+1:=by
 unfold put
 split<;>simp
theorem Vz {α:Type} {m:List (Str×α)} {x:Str} {a:α} {q:Str×α} (h:q∈put m x a):q.1=x/\q.2=a\/q∈m:=by
 unfold put at h
 split at h
 ·obtain⟨r,hr,e⟩:=List.mem_map.mp h
  split at e
  ·rename_i he;subst e;exact .inl ⟨he,rfl⟩
  ·subst e;exact .inr hr
 ·rcases List.mem_append.mp h with h|h
  ·exact .inr h
  ·cases List.mem_singleton.mp h;exact .inl ⟨rfl,rfl⟩
theorem RT {α:Type} {m:List (Str×α)} {x:Str} (h:x∈m.map (·.1)):has m x=true:=by
 obtain⟨q,hq,rfl⟩:=List.mem_map.mp h
 unfold has
 exact List.any_eq_true.mpr ⟨q,hq,by simp⟩
theorem Zk {α:Type} {m:List (Str×α)} {x:Str} {a:α} (h:(m.map (·.1)).Nodup):((put m x a).map (·.1)).Nodup:=by
 unfold put
 split
 ·rw[qk]
  have:(fun q:Str×α=>q.1) ∘ (fun q=>if q.1=x then (q.1,a) else q)=fun q=>q.1:=by
   funext q
   show (if q.1=x then (q.1,a) else q).1=q.1
   split<;>rfl
  rw[this];exact h
 ·rename_i hx
  rw[ZN]
  refine List.nodup_append.mpr ⟨h,by simp,fun y hy z hz e=>?_⟩
  have hz:z=x:=by simpa using hz
  exact hx (RT (by rw[<-hz,<-e];exact hy))
theorem RV {m:List (Str×Str)} {x:Str} (h:x∈m.map (·.1)):∃ q∈m,look m x=q.2:=by
 unfold look
 cases hf:m.find? fun q=>decide (q.1=x) with
 |none=>
  obtain⟨q,hq,rfl⟩:=List.mem_map.mp h
  have:=List.find?_eq_none.mp hf q hq
  simp at this
 |some q=>exact⟨q,List.mem_of_find?_eq_some hf,rfl⟩
theorem abP:∀ c∈cs ("ab01xyz9" : Str),Wd c:=by unfold Wd Lw;decide +kernel
theorem RW (xs:List Int) (k:Nat) (hl:2+2 * k < xs.length) (ws:List (Str×Str)) (hk:k < 8) (h:ws.length<=k/\(∀ q∈ws,Nm q.1/\Wo q.2)/\(ws.map (·.1)).Nodup):iK xs ws k/\(bT xs ws k).length<=k+1/\(∀ q∈bT xs ws k,Nm q.1/\Wo q.2)/\((bT xs ws k).map (·.1)).Nodup:=by
 have i1:In xs.length (1+2 * (k:Int)):=in_of (by omega) (by omega)
 have i2:In xs.length (2+2 * (k:Int)):=in_of (by omega) (by omega)
 have j:∀ y:Int,In 2 (y % 2):=fun y=>mY (by decide) (by decide)
 have o:∀ (a b:Int) (y:Int),at' [a,b] (y % 2)=a\/at' [a,b] (y % 2)=b:=fun a b y=>by
  have:=zV (xs:=[a,b]) (j y);simpa using this
 have q1:=o 2 8 (at' xs (1+2 * (k:Int)) / 999)
 have q2:=o 3 12 (at' xs (2+2 * (k:Int)) / 999)
 have a1:=RQ (at' xs (1+2 * (k:Int))) ("abcdefghijklmnopqrstuvwxyz" : Str) (by decide +kernel) (at' [(2:Int),(8:Int)] (at' xs (1+2 * (k:Int)) / 999 % 2)) (by omega) (by omega)
 have a2:=RQ (at' xs (2+2 * (k:Int))) ("ab01xyz9" : Str) (by decide +kernel) (at' [(3:Int),(12:Int)] (at' xs (2+2 * (k:Int)) / 999 % 2)) (by omega) (by omega)
 have m1:=gR (at' xs (1+2 * (k:Int))) (m:=at' [(2:Int),(8:Int)] (at' xs (1+2 * (k:Int)) / 999 % 2)) (by omega)
 have m2:=gR (at' xs (2+2 * (k:Int))) (m:=at' [(3:Int),(12:Int)] (at' xs (2+2 * (k:Int)) / 999 % 2)) (by omega)
 refine⟨⟨⟨⟨i1,i1,j _⟩,a1.1⟩,⟨⟨i2,i2,j _⟩,a2.1⟩,by omega⟩,?_,?_,Zk h.2.2⟩
 ·exact zh (Vy _ _ _) (by omega)
 ·intro q hq
  rcases Vz hq with⟨e1,e2⟩|hq
  ·rw[e1,e2]
   exact⟨⟨by rw[a1.2.1];omega,by rw[a1.2.1];omega,fun c hc=>abN c (a1.2.2 c hc)⟩,by rw[a2.2.1];omega,by rw[a2.2.1];omega,fun c hc=>abP c (a2.2.2 c hc)⟩
  ·exact h.2.1 q hq
theorem Zm {name:Str} (hn:Nm name) (xs:List Int) (h0:1<=xs.length) (hl:∀ k:Nat,(k:Int) < at' xs 0 % 9->2+2 * k < xs.length):jh name xs/\uh (eG name xs):=by
 have m:=gR (at' xs 0) (m:=9) (by decide)
 have:=rN (P:=fun f k=>some (iK xs f k)) (step:=fun f k=>bT xs f k) (fun k (s:List (Str×Str))=>s.length<=k/\(∀ q∈s,Nm q.1/\Wo q.2)/\(s.map (·.1)).Nodup) (at' xs 0 % 9).toNat [] ⟨zk 0,fun q h=>(by cases h),List.nodup_nil⟩ fun k s hk h=>RW xs k (hl k (by omega)) s (by omega) h
 obtain⟨d1,w1,w2,w3⟩:=this
 have hs:∀ ws:List (Str×Str),(nM (ws.map (·.1))).length=ws.length:=fun ws=>by rw[(jE _).length_eq,zg]
 refine⟨⟨⟨⟨in_of (by decide) (by omega),Dj m.1 (by omega)⟩,d1⟩,⟨Nat.lt_of_le_of_lt w1 (by omega),by rw[hs];exact zh w1 (by omega)⟩,fun f hf=>RT ((jE _).mem_iff.mp hf)⟩,hn,?_,?_,?_⟩
 ·show (List.map _ (nM _)).length<=8
  rw[zg,hs]
  exact zh w1 (by omega)
 ·intro q hq
  obtain⟨f,hf,rfl⟩:=List.mem_map.mp (show q∈List.map _ (nM _) from hq)
  have hf:=(jE _).mem_iff.mp hf
  obtain⟨r,hr,e⟩:=RV hf
  obtain⟨s,hs',e'⟩:=List.mem_map.mp hf
  dsimp only
  rw[e,<-e']
  exact⟨(w2 s hs').1,(w2 r hr).2⟩
 ·unfold eG
  dsimp only
  rw[qk]
  show (List.map (fun f=>f) (nM _)).Pairwise _
  rw[List.map_id']
  have nd:=(jE _).nodup_iff.mpr w3
  exact ((zH _).and nd).imp fun h=>(lt_iff _ _).mpr h
theorem Zo (c:Nat) (n:Int) (h:1<=n):cs (Txt.mul ⟨#[c]⟩ n)=List.replicate n.toNat c:=by
 unfold Txt.mul
 split
 ·omega
 split
 ·rename_i h
  simp only[Bool.or_eq_true,beq_iff_eq] at h
  rcases h with h|h
  ·subst h;rfl
  ·cases h
 ·have:∀ (k:Nat) (a:Array Nat),((List.replicate k (#[c]:Array Nat)).foldl (·++·) a).toList=a.toList++List.replicate k c:=by
   intro k
   induction k with
   |zero=>intro a;simp
   |succ k ih=>
    intro a
    rw[ko,ja,ih,Array.toList_append,ko]
    simp
  exact (this _ _).trans (by simp)
theorem RZ {i:Int} (h:0<=i/\i < 26):ch LT i=⟨#[97+i.toNat]⟩:=by
 have:∀ i:Fin 26,ch LT (i.val:Int)=⟨#[97+i.val]⟩:=by decide +kernel
 have:=this ⟨i.toNat,by omega⟩
 rwa [show ((⟨i.toNat,by omega⟩:Fin 26).val:Int)=i by show (i.toNat:Int)=i;omega] at this
theorem VB {i n:Int} (h:0<=i/\i < 26) (h1:1<=n) (h8:n<=8):Nm (Txt.mul (ch LT i) n):=by
 have e:=Zo (97+i.toNat) n h1
 rw[<-RZ h] at e
 refine⟨?_,?_,fun c hc=>?_⟩
 ·rw[wZ,e,List.length_replicate];omega
 ·rw[wZ,e,List.length_replicate];omega
 ·rw[e] at hc
  rw[(List.mem_replicate.mp hc).2]
  unfold Lw;omega
theorem R0 {l:LS_} {c:Nat} (h:c∈cs (Txt.join "" l)):∃ q∈l,c∈cs q:=by
 cases l with
 |nil=>cases h
 |cons p ps=>
  rw[Vv] at h
  rcases List.mem_append.mp h with h|h
  ·exact⟨p,ZA ..,h⟩
  ·obtain⟨q,hq,h⟩:=List.mem_flatMap.mp h
   exact⟨q,Zs _ hq,h⟩
theorem N5 (xs:List Int) (many:Int):∃ (stem:Str) (at_:Int),(∀ c∈cs stem,Lw c)/\stem.length<=5/\0<=at_/\at_<=(stem.length:Int)/\bC xs many=(rng 0 many.toNat).map (Sv xs stem at_):=by
 have m6:=gR (at' xs 0) (m:=6) (by decide)
 have mem:∀ x∈((rng 0 (at' xs 0 % 6).toNat).map fun k_:Int=>ch LT (at' xs k_ / 40 % 26)),x.length=1/\∀ c∈cs x,Lw c:=fun x hx=>by
  obtain⟨k,_,rfl⟩:=List.mem_map.mp hx
  refine⟨lu _ _,fun c hc=>?_⟩
  rw[RZ (gR _ (by decide))] at hc
  cases List.mem_singleton.mp hc
  have:=gR (at' xs k / 40) (m:=26) (by decide)
  unfold Lw;omega
 refine⟨Txt.join "" ((rng 0 (at' xs 0 % 6).toNat).map fun k_:Int=>ch LT (at' xs k_ / 40 % 26)),at' xs 1 % (((Txt.join "" ((rng 0 (at' xs 0 % 6).toNat).map fun k_:Int=>ch LT (at' xs k_ / 40 % 26))).length:Int)+1),fun c hc=>?_,?_,?_,?_,(Bq (Sv xs _ _) _ []).trans (kl _)⟩
 ·obtain⟨q,hq,h⟩:=R0 hc
  exact (mem q hq).2 c h
 ·have:=RM _ 1 fun x hx=>Nat.le_of_eq (mem x hx).1
  rw[zg,vL] at this
  omega
 ·exact (gR _ (by omega)).1
 ·have:=(gR (at' xs 1) (m:=((Txt.join "" ((rng 0 (at' xs 0 % 6).toNat).map fun k_:Int=>ch LT (at' xs k_ / 40 % 26))).length:Int)+1) (by omega)).2
  omega
theorem Zq {xs:List Int} {stem:Str} {at_:Int} (h1:∀ c∈cs stem,Lw c) (h2:stem.length<=5) (h3:0<=at_) (h4:at_<=(stem.length:Int)) {k:Int} (hk:0<=k/\k < 15):Nm (Sv xs stem at_ k):=by
 unfold Sv
 split
 ·exact VB (by omega) (by omega) (by omega)
 ·have s1:=Rk (x:=stem) (n:=at_.toNat) (by omega)
  have s2:=Rj (x:=stem) (n:=at_.toNat) (by omega)
  rw[qE h3] at s1 s2
  have c1:=RZ (i:=(k+at' xs 2) % 15) (by have:=gR (k+at' xs 2) (m:=15) (by decide);omega)
  have m:=gR (k+at' xs 2) (m:=15) (by decide)
  have e:cs ((Txt.slice stem none (some at_)++ch LT ((k+at' xs 2) % 15))++Txt.slice stem (some at_) none)=((cs stem).take at_.toNat++[97+((k+at' xs 2) % 15).toNat])++(cs stem).drop at_.toNat:=by
   rw[z8,z8,s1,s2,c1]
  have hl:((Txt.slice stem none (some at_)++ch LT ((k+at' xs 2) % 15))++Txt.slice stem (some at_) none).length=stem.length+1:=by
   rw[wZ,e,zS,zS,ka,kb,<-wZ]
   show _+1+_=_
   omega
  refine⟨by rw[hl];omega,by rw[hl];omega,fun c hc=>?_⟩
  rw[e] at hc
  rcases List.mem_append.mp hc with hc|hc
  ·rcases List.mem_append.mp hc with hc|hc
   ·exact h1 c (List.mem_of_mem_take hc)
   ·cases List.mem_singleton.mp hc
    unfold Lw;omega
  ·exact h1 c (List.mem_of_mem_drop hc)
structure Bk (b:List Rw):Prop where
 l:b.length<=40
 g:∀ r∈b,uh r
 nd:(b.map (·.1)).Nodup
theorem R3 (n:Nat):rng 0 (n+1)=rng 0 n++[(n:Int)]:=by
 unfold rng
 rw[List.range_succ,ZN]
 simp
theorem VD {g:Int->Str} {n:Nat} {i:Int} (h:0<=i/\i < n):at' ((rng 0 n).map g) i=g i:=by
 have:=Q6 (xs:=(rng 0 n).map g) (k:=i.toNat) (x:=g i) (by
  unfold rng
  rw[qk,ZT,List.getElem?_range (by omega)]
  show some (g (0+(i.toNat:Int)))=some (g i)
  rw[Int.zero_add,qE h.1])
 rwa [qE h.1] at this
theorem VF {xs:List Int} {stem:Str} {at_:Int} {i j:Int} (hi:0<=i/\i < 15) (hj:0<=j/\j < 15) (h:Sv xs stem at_ i=Sv xs stem at_ j):i=j:=by
 have:=Zi (xs:=xs) (stem:=stem) (at_:=at_) (i:=i.toNat) (j:=j.toNat) (by omega) (by omega) (by rw[qE hi.1,qE hj.1];exact h)
 omega
theorem VG {step:List Rw->Int->List Rw} {P:List Rw->Int->Option Prop} {name:Int->Str} {row:Int->Rw} {n:Nat} (hn:n<=40) (hs:∀ b k,step b k=b++[row k]) (hr:∀ k:Nat,k < n->uh (row k)/\(row k).1=name k) (hd:∀ (b:List Rw) (k:Nat),b.length=k->k < n->hold (P b k))
  (hi:∀ i j:Nat,i < n->j < n->name i=name j->i=j):yr step P (rng 0 n) []/\Bk ((rng 0 n).foldl step []):=by
 have:=rN (P:=P) (step:=step) (fun k (b:List Rw)=>b.length=k/\(∀ r∈b,uh r)/\b.map (·.1)=(rng 0 k).map name) n [] ⟨rfl,fun r h=>(by cases h),rfl⟩ fun k b hk h=>by
  obtain⟨r1,r2⟩:=hr k hk
  refine⟨hd b k h.1 hk,by rw[hs];simp[h.1],fun r hr'=>?_,?_⟩
  ·rw[hs] at hr'
   rcases List.mem_append.mp hr' with hr'|hr'
   ·exact h.2.1 r hr'
   ·cases List.mem_singleton.mp hr';exact r1
  ·rw[hs,ZN,h.2.2,R3,ZN]
   simp[r2]
 refine⟨this.1,by rw[this.2.1];exact hn,this.2.2.1,?_⟩
 rw[this.2.2.2]
 exact Zj hi
theorem K8 (s:List Int) (p:Int) (hp:0<=p/\p<=30):gU s p 10/\Bk (dF s p 10):=by
 obtain⟨d1,l1,_⟩:=FJ (aG s p) 8 (by decide) (by decide)
 have l8:(aD (aG s p) 8).length=8:=l1
 obtain⟨d2,l2,n2⟩:=RN (aD (aG s p) 8) (by omega) 15 (by decide) (by decide)
 obtain⟨stem,at_,a1,a2,a3,a4,e⟩:=N5 (aD (aG s p) 8) 15
 have m:=gR (at' (aD (aG s p) 8) 6) (m:=10+1) (by decide)
 have ix:∀ y:Int,In (bC (aD (aG s p) 8) 15).length (y % 15):=fun y=>mY (by decide) (by rw[l2];decide)
 have nm:∀ y:Int,at' (bC (aD (aG s p) 8) 15) (y % 15)=Sv (aD (aG s p) 8) stem at_ (y % 15):=fun y=>by rw[e];exact VD (n:=15) (gR y (by decide))
 have wr:∀ k:Nat,k < 11->jh (at' (bC (aD (aG s p) 8) 15) ((7 * (k:Int)+at' (aD (aG s p) 8) 7) % 15)) (aD (aG s ((p+1)+(k:Int))) 17)/\uh (eG (at' (bC (aD (aG s p) 8) 15) ((7 * (k:Int)+at' (aD (aG s p) 8) 7) % 15)) (aD (aG s ((p+1)+(k:Int))) 17)):=fun k hk=>by
  obtain⟨_,lk,_⟩:=FJ (aG s ((p+1)+(k:Int))) 17 (by decide) (by decide)
  have lk:(aD (aG s ((p+1)+(k:Int))) 17).length=17:=lk
  have m9:=gR (at' (aD (aG s ((p+1)+(k:Int))) 17) 0) (m:=9) (by decide)
  rw[nm]
  exact Zm (Zq a1 a2 a3 a4 (gR _ (by decide))) _ (by omega) fun j hj=>by omega
 have:=VG (P:=fun b k=>some (jH s p (aD (aG s p) 8) (bC (aD (aG s p) 8) 15) b k)) (step:=fun b k=>gP s p (aD (aG s p) 8) (bC (aD (aG s p) 8) 15) b k)
  (name:=fun k=>at' (bC (aD (aG s p) 8) 15) ((7 * k+at' (aD (aG s p) 8) 7) % 15)) (row:=fun k=>eG (at' (bC (aD (aG s p) 8) 15) ((7 * k+at' (aD (aG s p) 8) 7) % 15)) (aD (aG s ((p+1)+k)) 17))
  (n:=(at' (aD (aG s p) 8) 6 % (10+1)).toNat) (by omega) (fun b k=>rfl) (fun k hk=>⟨(wr k (by omega)).2,rfl⟩) (fun b k hb hk=>⟨⟨in_of (by decide) (by omega),ix _⟩,⟨⟨JR s _ (by omega) (by omega),(FJ _ 17 (by decide) (by decide)).1⟩,(wr k (by omega)).1⟩,eV (by omega)⟩) fun i j hi hj h=>by
   have h:at' (bC (aD (aG s p) 8) 15) ((7 * (i:Int)+at' (aD (aG s p) 8) 7) % 15)=at' (bC (aD (aG s p) 8) 15) ((7 * (j:Int)+at' (aD (aG s p) 8) 7) % 15):=h
   rw[nm,nm] at h
   have:=VF (gR _ (by decide)) (gR _ (by decide)) h
   omega
 exact⟨⟨⟨JR s p (by omega) (by omega),d1⟩,d2,⟨⟨in_of (by decide) (by omega),by decide⟩,Dj m.1 (by omega)⟩,this.1⟩,this.2⟩
theorem Br (f:Str):∀ (l:List jk) (a:Option Str),f∉l.map (·.1)->l.foldl (fun u q=>bD f u q) a=a
 |[],_,_=>rfl
 |q::l,a,h=>by
  rw[zl,j3,not_or] at h
  rw[ja]
  have:bD f a q=a:=by
   unfold bD
   rw[zw (by rw[jn];exact fun e=>h.1 e.symm)]
  rw[this]
  exact Br f l a h.2
theorem yh (f:Str):∀ l:List jk,(l.map (·.1)).Nodup->behind (oJ (fun (s:Unit) (q:jk)=>(cX f s q:uQ Unit (Option Str))) l ()) (fun r=>r) (fun _:Unit=>none)=l.foldl (fun u q=>bD f u q) none
 |[],_=>rfl
 |q::l,h=>by
  rw[zl,List.nodup_cons] at h
  rw[ja]
  unfold oJ cX bD
  by_cases e:q.1=f
  ·rw[zi (ZU e),zi (ZU e)]
   exact (Br f l (some q.2) (e▸h.1)).symm
  ·rw[zw (by rw[jn];exact e),zw (by rw[jn];exact e)]
   exact yh f l h.2
theorem R4 (f:Str):∀ l:List jk,vJ (fun (s:Unit) (q:jk)=>(cX f s q:uQ Unit (Option Str))) (fun (s:Unit) (q:jk)=>none) l ()
 |[]=>trivial
 |q::l=>by
  refine⟨trivial,?_⟩
  have h:cX f () q=.nx ()\/∃ r,cX f () q=.rt r:=by
   unfold cX
   split
   ·exact .inr ⟨_,rfl⟩
   ·exact .inl rfl
  rcases h with h|⟨r,h⟩
  ·dsimp only;rw[h];exact R4 f l
  ·dsimp only;rw[h];trivial
theorem ae3 (r:uQ Unit (Option Str)):vK r fun _:Unit=>True:=by cases r<;>trivial
theorem R5 {l:LS_} (h:l.Pairwise fun a b=>ltS a b=true):l.Nodup:=h.imp fun q=>((lt_iff _ _).mp q).2
theorem HX {r:Rw} (h:uh r) (f:Str):iR r f/\iQ r f=true:=
 ⟨⟨R4 f r.2,ae3 _⟩,ZU (yh f r.2 (R5 h.s))⟩
theorem R6 {f:Str} (h:Nm f) (t x:Int):iM f t x:=by
 have:=h.1
 have:=h.2.1
 have s1:=slice_le f none (some (t % (f.length:Int)))
 have s2:=slice_le f (some (t % (f.length:Int)+1)) none
 refine⟨by omega,⟨mY (by decide) (by decide),eV ?_⟩,eV ?_⟩
 ·rw[lu];omega
 ·rw[iY,lu];omega
theorem N6 {f:Str} (h:Nm f) (t x:Int):mH f t x:=by
 have:=h.1
 have:=h.2.1
 have s1:=slice_le f none (some (t % ((f.length:Int)+1)))
 have s2:=slice_le f (some (t % ((f.length:Int)+1))) none
 have s3:=slice_le f (some (t % ((f.length:Int)+1)+1)) none
 have o:at' [(36:Int),94] (x / 3 % 2)=36\/at' [(36:Int),94] (x / 3 % 2)=94:=by
  have:=zV (xs:=[(36:Int),94]) (i:=x / 3 % 2) (mY (by decide) (by decide));simpa using this
 refine⟨eV (by decide +kernel),⟨⟨mY (by decide) (by decide),by omega⟩,mY (by omega) ?_⟩,by omega,⟨⟨eV ?_,eV ?_⟩,⟨eV ?_,eV ?_⟩,eV ?_⟩,mY (by decide) (Int.le_refl 3)⟩
 ·rcases o with o|o<;>rw[o]<;>decide +kernel
 ·rw[lu];omega
 ·rw[iY,lu];omega
 ·rw[lu];omega
 ·rw[iY,lu];omega
 ·omega
theorem Dy {r:Rw} (h:uh r) {xs:List Int} (hx:7<=xs.length):wD xs () r/\nD xs () r=.nx ():=by
 have hl:=h.l
 refine⟨⟨⟨by omega,eV ?_⟩,⟨⟨by omega,fun q hq=>⟨⟨in_of (by decide) (by omega),in_of (by decide) (by omega)⟩,R6 (h.w q hq).1 _ _⟩⟩,eV ?_⟩,?_,fun f _=>(HX h f).1⟩,?_⟩
 ·rw[zg];exact JJ (zh hl (by decide:8<=996)) (zk 4)
 ·rw[zS,zg,zg]
  show r.2.length+4+r.2.length<=1000
  omega
 ·rw[zS,zS,zg,zg]
  show r.2.length+4+r.2.length<=100000
  omega
 ·unfold nD
  dsimp only
  rw[zw]
  rw[JU,Bool.not_eq_false,QY]
  intro b hb
  obtain⟨f,_,rfl⟩:=List.mem_map.mp hb
  exact (HX h f).2
theorem eq2 {α β:Type} [DecidableEq α] [DecidableEq β] {a:α->Dt} {b:β->Dt} {n m:Nat} [Eqs a n] [Eqs b m] (hm:max n m+1<=100) (x:α) (y:β):MP (.tup [a x,b y]) (.tup [a x,b y])/\Ig (.tup [a x,b y]) (.tup [a x,b y])=true:=by
 have e:=Eqs.eq (e:=Ob a b) (x,y) (x,y)
 have d:=Eqs.dp (e:=Ob a b) (x,y)
 have e:lW (.tup [a x,b y]) (.tup [a x,b y])=some (decide ((x,y)=(x,y))):=e
 have d:oG (.tup [a x,b y])<=_:=d
 refine⟨⟨by rw[e];rfl,by omega⟩,?_⟩
 unfold Ig
 rw[e]
 exact ZU rfl
theorem VH {a b:List Rw} (ha:a.length<=100) (hb:b.length<=100):fL a b/\cD a b=true:=by
 have dc:ji a b:=⟨by omega,eV (by omega)⟩
 have hf:=List.head?_filter (p:=fun r:Rw=>decide (r.1∈a.map fun r=>r.1)) (l:=b)
 cases hd:b.filter fun r:Rw=>decide (r.1∈a.map fun r=>r.1) with
 |nil=>
  rw[hd] at hf
  have c:bN a b=Dt.tup [(Dt.str "told"),((eT aK) (a++b))]:=by
   unfold bN
   rw[<-hf]
   rfl
  have q:=eq2 (a:=eS) (b:=eT aK) (by decide) ("told" : Str) (a++b)
  refine⟨⟨by omega,by omega,?_,?_⟩,?_⟩
  ·intro h;rw[hd] at h;exact absurd h (by decide)
  ·intro _
   exact⟨⟨dc,eV (by omega)⟩,by rw[c];exact q.1⟩
  ·unfold cD
   dsimp only
   rw[hd,zw (by decide),c]
   exact q.2
 |cons r rs=>
  rw[hd] at hf
  have c:bN a b=Dt.tup [(Dt.str "refused"),eS r.1]:=by
   unfold bN
   rw[<-hf]
   rfl
  have q:=eq2 (a:=eS) (b:=eS) (by decide) ("refused" : Str) r.1
  have z:at' (List.map (fun r:Rw=>r.1) (r::rs)) 0=r.1:=Q6 (k:=0) rfl
  have ne:(!decide (List.map (fun r:Rw=>r.1) (r::rs)=[]))=true:=by rw[ZI (by simp)];rfl
  refine⟨⟨by omega,by omega,?_,?_⟩,?_⟩
  ·intro _
   rw[hd,z,c]
   exact⟨⟨dc,in_of (by decide) (by simp)⟩,q.1⟩
  ·intro h;rw[hd,ne] at h;cases h
  ·unfold cD
   dsimp only
   rw[hd,zi ne,c,z]
   exact q.2
theorem N7 (d:Dt) (sg:Str) (n:Int) (h:n<=1000):kO d sg n:=by
 unfold kO
 intro hs
 obtain⟨x,rfl⟩:=Nk hs
 refine⟨⟨rfl,fun _=>rfl⟩,fun hl=>⟨⟨rfl,?_⟩,fun s h=>Vr h⟩⟩
 rw[Vs]
 have h2:(x.length:Int)<=n:=JP ((ZO _ _).mp hl).2
 omega
theorem HY {d:Dt} {sg:Str} {n:Int} (h:gQ d sg n=true):lV d=true:=by
 unfold gQ at h
 rw[ZO] at h
 exact h.1
theorem Zr (d:Dt):pR d:=N7 d _ 8 (by decide)
theorem R7 {d:Dt} (h:ig d=true):lV d=true:=HY h
theorem VJ {s ls:Str} {n:Int} (h1:1<=s.length) (h2:(s.length:Int)<=n) (h3:∀ c∈cs s,c∈cs ls):gQ (.str s) ls n=true:=by
 unfold gQ
 rw[show lV (.str s)=true from rfl,show Jt (.str s)=(s.length:Int) from rfl,ZU (show (1:Int)<=s.length by omega),ZU h2]
 show List.all _ id=true
 rw[QY]
 intro b hb
 obtain⟨d,hd,rfl⟩:=List.mem_map.mp hb
 obtain⟨c,hc,rfl⟩:=List.mem_map.mp (show d∈P1.signs s from hd)
 exact Np (h3 c hc)
theorem VL {s:Str} (h:Nm s):ig (.str s)=true:=VJ h.1 (by have:=h.2.1;omega) fun c hc=>abO (h.2.2 c hc)
def Th (d:Dt):Prop:=(∃ x,d=.str x)\/(lV d=false/\lW d d=some true/\oG d<=10/\∀ y,lW (.str y) d=some false)
theorem eq_self {d:Dt} (h:(lW d d).isSome=true):lW d d=some true:=by
 obtain⟨k,hk⟩:=Option.isSome_iff_exists.mp h
 rw[hk,zy hk]
theorem abQ:∀ d∈JF,Th d:=by
 intro d hd
 unfold JF at hd
 simp only[j3,jS,or_false] at hd
 rcases hd with rfl|rfl|rfl|rfl|rfl|rfl|rfl|rfl|rfl
 ·exact .inl ⟨_,rfl⟩
 ·exact .inl ⟨_,rfl⟩
 ·exact .inl ⟨_,rfl⟩
 all_goals exact .inr ⟨rfl,eq_self rfl,by decide,fun y=>rfl⟩
theorem VN (x:Str) (ns:LS_):Ey (.str x) (ns.map eS)=decide (x∈ns)/\Q8 (.str x) (ns.map eS):=by
 constructor
 ·unfold Ey
  rw[List.any_map,kn,kc,jn]
  constructor
  ·rintro⟨y,hy,h⟩
   have h:Sq (lW (eS y) (eS x))=true:=h
   rw[Eqs.eq] at h
   by_cases q:y=x
   ·exact q▸hy
   ·rw[ZI q] at h;cases h
  ·intro h
   refine⟨x,h,?_⟩
   show Sq (lW (eS x) (eS x))=true
   rw[Eqs.eq,ZU rfl]
   rfl
 ·intro d hd
  obtain⟨y,_,rfl⟩:=List.mem_map.mp hd
  refine⟨?_,?_⟩
  ·show (lW (eS y) (eS x)).isSome=true
   rw[Eqs.eq];rfl
  ·have:=Eqs.dp (e:=eS) y
   omega
theorem VP {d:Dt} (h:∀ y,lW (.str y) d=some false) (ns:LS_):Ey d (ns.map eS)=false/\Q8 d (ns.map eS):=by
 constructor
 ·unfold Ey
  rw[List.any_map,List.any_eq_false]
  intro y _ e
  have e:Sq (lW (.str y) d)=true:=e
  rw[h] at e
  cases e
 ·intro e he
  obtain⟨y,_,rfl⟩:=List.mem_map.mp he
  have:=Eqs.dp (e:=eS) y
  exact⟨by show (lW (.str y) d).isSome=true;rw[h];rfl,by omega⟩
theorem R8 {d:Dt} (h:lW d d=some true) (hd:oG d<=10):MP (.tup [.str "refused", d]) (.tup [.str "refused", d])/\Ig (.tup [.str "refused", d]) (.tup [.str "refused", d])=true:=by
 have e1:lW (.str "refused") (.str "refused")=some true:=Eqs.eq (e:=eS) _ _
 have e:lW (.tup [.str "refused", d]) (.tup [.str "refused", d])=some true:=by
  show jU [.str "refused", d] [.str "refused", d]=some true
  simp only[jU,e1,h]
  rfl
 refine⟨⟨by rw[e];rfl,?_⟩,by unfold Ig;rw[e];rfl⟩
 have:oG (.tup [.str "refused", d])<=12:=by
  simp only[oG,qQ]
  omega
 omega
theorem R9 (x:Str):lW (.str x) (.str x)=some true/\oG (.str x)<=10:=by
 have e:=Eqs.eq (e:=eS) x x
 have d:=Eqs.dp (e:=eS) x
 rw[ZU rfl] at e
 exact⟨e,zh d (by decide)⟩
theorem K9 {b:List Rw} (hl:b.length<=100) (hg:∀ r∈b,uh r) {d:Dt} (h:Th d):ju b d/\cU b d=true:=by
 have dn:pR d:=Zr d
 rcases h with⟨x,rfl⟩|⟨h1,h2,h3,h4⟩
 ·obtain⟨a1,a2⟩:=VN x (b.map fun r:Rw=>r.1)
  have as:UW (.str x)=x:=rfl
  have ex:∀ r:Rw,MP (eS r.1) (.str x):=fun r=>Vq r.1 x
  by_cases hx:x∈b.map fun r:Rw=>r.1
  ·rw[ZU hx] at a1
   have hn:ig (.str x)=true:=by
    obtain⟨r,hr,rfl⟩:=List.mem_map.mp hx
    exact VL (hg r hr).n
   have c:bW b (.str x)=Dt.tup [(Dt.str "told"),((eT aK) ((b.filter fun vr:Rw=>(!Ig (eS vr.1) (.str x))).map fun vr:Rw=>vr))]:=by
    unfold bW
    rw[hn,as,ZU hx]
    rfl
   have q:=eq2 (a:=eS) (b:=eT aK) (by decide) ("told" : Str) ((b.filter fun vr:Rw=>(!Ig (eS vr.1) (.str x))).map fun vr:Rw=>vr)
   refine⟨⟨⟨⟨by omega,a2⟩,fun _=>⟨by omega,fun r _=>ex r⟩⟩,⟨⟨dn,fun _=>⟨rfl,by omega⟩⟩,fun _=>⟨by omega,fun r _=>ex r⟩⟩,?_⟩,?_⟩
   ·dsimp only
    rw[a1,zi rfl,c]
    exact q.1
   ·unfold cU
    dsimp only
    rw[a1,zi rfl,c]
    exact q.2
  ·rw[ZI hx] at a1
   have c:bW b (.str x)=Dt.tup [(Dt.str "refused"),.str x]:=by
    unfold bW
    rw[as,ZI hx,Bool.not_false,Bool.or_true]
    rfl
   have q:=R8 (R9 x).1 (R9 x).2
   refine⟨⟨⟨⟨by omega,a2⟩,fun _=>⟨by omega,fun r _=>ex r⟩⟩,⟨⟨dn,fun _=>⟨rfl,by omega⟩⟩,fun _=>⟨by omega,fun r _=>ex r⟩⟩,?_⟩,?_⟩
   ·dsimp only
    rw[a1,zw (by decide),c]
    exact q.1
   ·unfold cU
    dsimp only
    rw[a1,zw (by decide),c]
    exact q.2
 ·obtain⟨a1,a2⟩:=VP h4 (b.map fun r:Rw=>r.1)
  have hn:ig d=false:=by
   cases hb:ig d with
   |false=>rfl
   |true=>rw[R7 hb] at h1;cases h1
  have c:bW b d=Dt.tup [(Dt.str "refused"),d]:=by
   unfold bW
   rw[hn]
   rfl
  have q:=R8 h2 h3
  refine⟨⟨⟨⟨by omega,a2⟩,fun h=>?_⟩,⟨⟨dn,fun h=>?_⟩,fun h=>?_⟩,?_⟩,?_⟩
  ·rw[a1] at h;cases h
  ·rw[hn] at h;cases h
  ·rw[hn] at h;cases h
  ·dsimp only
   rw[a1,zw (by decide),c]
   exact q.1
  ·unfold cU
   dsimp only
   rw[a1,zw (by decide),c]
   exact q.2
theorem Sd {α:Type} {xs:List α} {q:Int×α} (h:q∈pB xs):q.2∈xs:=by
 unfold pB at h
 rw[List.mem_iff_getElem?] at h
 obtain⟨i,hi⟩:=h
 rw[List.getElem?_zipWith] at hi
 cases h1:(List.range xs.length)[i]?<;>rw[h1] at hi<;>try (cases hi;done)
 cases h2:xs[i]?<;>rw[h2] at hi<;>try (cases hi;done)
 cases hi
 exact jv h2
theorem wH {α:Type} (xs:List α):(pB xs).length=xs.length:=by unfold pB;simp
theorem abR (ns:List Int) {a b:List Rw} {xs:List Int} (hx:7<=xs.length) (ha:a.length<=100) (ga:∀ r∈a,uh r):Bl ns a b xs/\Bj ns a b xs=true:=by
 have hn:∀ n∈a.map fun r:Rw=>r.1,Nm n:=fun n h=>by
  obtain⟨r,hr,rfl⟩:=List.mem_map.mp h
  exact (ga r hr).n
 have th:∀ d∈((((a.map fun r:Rw=>r.1)++((pB (a.map fun r:Rw=>r.1)).map fun q7:Rm=>(jt q7.2 (at' xs (5:Int)) ((at' xs (6:Int))+((577:Int) * q7.1))))).map eS)++JF),Th d:=fun d hd=>by
  rcases List.mem_append.mp hd with hd|hd
  ·obtain⟨x,_,rfl⟩:=List.mem_map.mp hd
   exact .inl ⟨x,rfl⟩
  ·exact abQ d hd
 have k9:JF.length=9:=rfl
 refine⟨⟨by omega,⟨⟨by rw[wH,zg];omega,fun q hq=>⟨⟨in_of (by decide) (by omega),in_of (by decide) (by omega)⟩,N6 (hn _ (Sd hq)) _ _⟩⟩,eV ?_⟩,eV ?_,?_,fun d hd=>(K9 ha ga (th d hd)).1⟩,?_⟩
 ·rw[zg,zg,wH,zg];omega
 ·rw[zg,zS,zg,zg,wH,zg,k9];omega
 ·rw[zS,zg,zS,zg,zg,wH,zg,k9];omega
 ·show List.all _ id=true
  rw[QY]
  intro t ht
  obtain⟨d,hd,rfl⟩:=List.mem_map.mp ht
  exact (K9 ha ga (th d hd)).2
theorem WR (ns:List Int) {a b:List Rw} {xs:List Int} (hx:7<=xs.length) (ha:a.length<=100) (hb:b.length<=100) (ga:∀ r∈a,uh r) (gb:∀ r∈b,uh r):Bo ns a b xs/\wG ns a b xs=true:=by
 have c6:=abR (b:=b) ns hx ha ga
 have l2:=zU (step:=fun s r=>nD xs s r) (P:=fun s r=>some (wD xs s r)) (a++b) fun r hr=>by
  have g:uh r:=by
   rcases List.mem_append.mp hr with hr|hr
   ·exact ga r hr
   ·exact gb r hr
  exact⟨(Dy g hx).1,.inl (Dy g hx).2⟩
 have l1:=zU (step:=fun s q=>pU s q) (P:=fun s q=>some (Bh s q)) [(a,b),(b,a),(a,a),(a,([]:List aO)),(([]:List aO),b)] fun q hq=>by
  have:q.1.length<=100/\q.2.length<=100:=by
   simp only[j3,jS,or_false] at hq
   rcases hq with rfl|rfl|rfl|rfl|rfl
   ·exact⟨ha,hb⟩
   ·exact⟨hb,ha⟩
   ·exact⟨ha,ha⟩
   ·exact⟨ha,Qr _⟩
   ·exact⟨Qr _,hb⟩
  obtain⟨h1,h2⟩:=VH this.1 this.2
  refine⟨h1,.inl ?_⟩
  unfold pU
  rw[h2]
  rfl
 have c7:Bm ns a b xs/\wF ns a b xs=true:=by
  refine⟨⟨⟨eV (by omega),l2.2⟩,?_⟩,?_⟩
  ·rw[l2.1];exact c6.1
  ·unfold wF;rw[l2.1];exact c6.2
 refine⟨⟨l1.2,?_⟩,?_⟩
 ·rw[l1.1];exact c7.1
 ·unfold wG;rw[l1.1];exact c7.2
theorem abS (ns:List Int) {a b:List Rw} {xs:List Int} (hx:7<=xs.length) (ha:a.length<=40) (hb:b.length<=40) (ga:∀ r∈a,uh r) (gb:∀ r∈b,uh r):Bp ns a b xs/\tK ns a b xs=true:=by
 cases hc:(decide (((at' xs (0:Int)) % (3:Int))=(1:Int)))&&(!decide (a=([]:List aO))) with
 |false=>
  have:=WR ns hx (zh ha (by decide)) (zh hb (by decide)) ga gb
  refine⟨⟨⟨in_of (by decide) (by omega),fun h=>by rw[hc] at h;cases h⟩,?_⟩,?_⟩
  ·dsimp only;rw[hc,zw (by decide)];exact this.1
  ·unfold tK;dsimp only;rw[hc,zw (by decide)];exact this.2
 |true=>
  have pos:0 < a.length:=by
   cases a with
   |nil=>rw[ZU (rfl:([]:List aO)=[]),Bool.not_true,Bool.and_false] at hc;cases hc
   |cons _ _=>exact Nat.succ_pos _
  have ia:In a.length (at' xs 1 % (a.length:Int)):=mY (by omega) (Int.le_refl _)
  have lf:∀ f:Str,((b.filter fun vm:Rw=>(!decide (vm.1=f))).map fun vm:Rw=>vm).length<=40:=fun f=>by
   rw[zg]
   exact zh (List.length_filter_le _ _) hb
  have gl:∀ (f:Str),∀ r∈(b.filter fun vm:Rw=>(!decide (vm.1=f))).map fun vm:Rw=>vm,uh r:=fun f r hr=>by
   obtain⟨q,hq,rfl⟩:=List.mem_map.mp hr
   exact gb q ((List.mem_filter.mp hq).1)
  have c1:=fun (l:List Rw) (i:Int)=>Kz l none (some i)
  have c2:=fun (l:List Rw) (i:Int)=>Kz l (some i) none
  have nm:uh ((at' a (at' xs 1 % (a.length:Int))).1,([]:List jk)):=⟨(ga _ (zV ia)).n,Qr _,(fun q h=>by cases h),List.Pairwise.nil⟩
  refine⟨⟨⟨in_of (by decide) (by omega),fun _=>⟨⟨⟨in_of (by decide) (by omega),by omega⟩,ia⟩,by omega,⟨in_of (by decide) (by omega),by omega⟩,eV ?_,eV ?_⟩⟩,?_⟩,?_⟩
  ·exact JJ (zh (c1 _ _) (zh (lf _) (by decide:40<=999))) (zk 1)
  ·refine zh (JJ (b:=40+1) ?_ (zh (c2 _ _) (lf _))) (by decide)
   rw[zS]
   exact JJ (zh (c1 _ _) (lf _)) (zk 1)
  all_goals
   have key:=fun i=>WR ns (a:=a) (b:=((cut ((b.filter fun vm:Rw=>(!decide (vm.1=(at' a (at' xs 1 % (a.length:Int))).1))).map fun vm:Rw=>vm) none (some i))++[((at' a (at' xs 1 % (a.length:Int))).1,([]:List jk))])++(cut ((b.filter fun vm:Rw=>(!decide (vm.1=(at' a (at' xs 1 % (a.length:Int))).1))).map fun vm:Rw=>vm) (some i) none)) hx (zh ha (by decide)) (by
    rw[zS,zS]
    exact zh (JJ (JJ (zh (c1 _ _) (lf _)) (zk 1)) (zh (c2 _ _) (lf _))) (by decide)) ga (fun r hr=>by
    rcases List.mem_append.mp hr with hr|hr
    ·rcases List.mem_append.mp hr with hr|hr
     ·exact gl _ r (Kw hr)
     ·cases List.mem_singleton.mp hr;exact nm
    ·exact gl _ r (Kw hr))
  ·dsimp only;rw[hc,zi rfl];exact (key _).1
  ·unfold tK;dsimp only;rw[hc,zi rfl];exact (key _).2
theorem Sg (ns:List Int) (_:ns.length<=63):K7 ns/\K6 ns=true:=by
 obtain⟨d1,b1⟩:=K8 ns 0 (by decide)
 obtain⟨d2,b2⟩:=K8 ns 12 (by decide)
 obtain⟨dn,ln,_⟩:=FJ (aG ns 24) 7 (by decide) (by decide)
 have ln:(aD (aG ns 24) 7).length=7:=ln
 have c9:=abS ns (xs:=aD (aG ns 24) 7) (by omega) b1.l b2.l b1.g b2.g
 exact⟨⟨⟨d1,d2⟩,⟨JR ns 24 (by decide) (by decide),dn⟩,c9.1⟩,c9.2⟩
theorem H1:∀ ns:List Int,ns.length<=63->n8 [.z (.lst (ns.map .int))]=some (.z (.bl true)):=(WQ Sg).1
theorem H2:∀ ns:List Int,ns.length<=63->n8 [.l (ns.map .int)]=some (.z (.bl true)):=(WQ Sg).2
end G02
end
open PySem PySem.W PyProof.Rows
set_option maxRecDepth 100000 in
set_option maxHeartbeats 0 in
theorem PySem.Challenge.cw_onefolk_k02_words_and_books_together_holds : PySem.Challenge.rw_onefolk_k02_words_and_books_together.Holds := by
 w_on;refine PySem.W.holds_law (by decide +kernel) fun said=>?_
 k_head;(case hw=>w_witness2)
 k_fill
 refine G02.walk (l:=PySem.Challenge.rw_onefolk_k02_words_and_books_together) rfl rfl G02.H1 G02.H2 (fun w h Y=>PySem.W.kIn_of Y) ?F
 case F=>
  intro w mg fa h KX G hmg
  refine' G02.all_mk KX G hmg ?a0 ?l0 ?c0 ?k0 ?a1 ?l1 ?c1 ?k1 ?a2 ?l2 ?c2 ?k2 ?a3 ?l3 ?c3 ?k3 ?a4 ?l4 ?c4 ?k4 ?a5 ?l5 ?c5 ?k5 ?a6 ?l6 ?c6 ?k6 ?a7 ?l7 ?c7 ?k7 ?a8 ?l8 ?c8 ?k8 ?a9 ?l9 ?c9 ?k9 ?a10 ?l10 ?c10 ?k10 ?a11 ?l11 ?c11 ?k11 ?a12 ?l12 ?c12 ?k12 ?a13 ?l13 ?c13 ?k13 ?a14 ?l14 ?c14 ?k14 ?a15 ?l15 ?c15 ?k15 ?a16 ?l16 ?c16 ?k16 ?a17 ?l17 ?c17 ?k17 ?aC ?aFE ?r1 ?r2 ?r3 ?r4 ?r5 ?r6 ?aI ?lI ?cI ?kI ?e1 ?e2 ?e3 ?e4 ?e5 ?e6 ?e7 ?e8 ?e9 ?e10 ?e11 ?e12 ?JK ?K1 ?Du ?oh ?K3 ?cW ?rZ ?mG ?vY ?K4 ?lM ?Aq ?qM
  all_goals try (show _=_;k_is)
  all_goals try kernel_rfl
