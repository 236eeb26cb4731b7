import PyProof.Rows.All
import Wide.All
import OpenK.AllK
import Wide.FinOn
import PyProof.EqAt
import PyProof.EqKinds
import PyProof.TupleCall
import PyProof.StrLoop
import PyProof.StrWalks
import PyProof.CompFree
import PyProof.NeKinds
import PyProof.Rows.RuleN_isinstance
import PyProof.ConsumeWalk
import PyProof.IsiPairs
import PyProof.IsiSeqPairs
import PyProof.IsiHeapPairs
import PyProof.IsiNone
import PyProof.PureStr
import PyProof.StrCalls
import PyProof.Rows.SortStr
import PyProof.Rows.StrJoin2
import PyProof.CallStr
import PyProof.WalkInts
import PyProof.Rows.StrDigits
import PyProof.DictWalks
import PyProof.DictTruth
import PyProof.CollectWalk
import PyProof.WalkLemmas
import PyProof.Rows.SortShellK
import PyProof.Rows.SortWalk
import PyProof.SetKind
import PyProof.FactsAll.set
import PyProof.Rows.SetFrom
import PyProof.TupleKey
import PyProof.IsRules
import PyProof.WalksMore
import PyProof.SetRoads
import PyProof.DictCompW
import PyProof.ListRange
import PyProof.FString5
import PyProof.MeetsSeq2
import PyProof.FactsAll.tuple_0
import PyProof.FactsAll.tuple_2
import PyProof.FactsAll.tuple_3
import PyProof.EnumFor
import PyProof.EnumMake
import PyProof.EnumStmt
import PyProof.Rows.EnumRows
import PyProof.SumWalk
import PyProof.Rows.SeqCalls
import KE.KRevSl
import PyProof.ZipIter
import PyProof.TupleIter
import PyProof.AttrMiss
import KE.KDictOf
import KE.KDictLaws
import PyProof.TupleOfStr
import PyProof.StrCalls2
import PyProof.Rows.StrNews2
import PyProof.Rows.StrItems
import PyProof.Rows.StrSplitAre
import PyProof.Rows.StrGen4
import PyProof.Rows.RegStrFacts
import PyProof.Rows.FStr
import PyProof.SetNew
import PyProof.Rows.SetObj
import PyProof.StrLawsTight
import PyProof.Rows.StrPartPair
import PyProof.Rows.CatFin
import PyProof.Rows.StrClose
import Lean
import PySem.Challenge.RW_onefolk_k03_books_as_texts
set_option maxRecDepth 100000
set_option maxHeartbeats 4000000
set_option linter.all false
set_option Elab.async false
section
namespace L2
open PySem PySem.Spec PyProof.Rows
abbrev Key:=Sum Int Str
def nY:Key->Value->Bool
 |.inl k,v=>Value.isInt k v
 |.inr x,v=>Value.isStrOf x v
def abK (w:World):Key->Int
 |.inl k=>hashInt k
 |.inr x=>hashStr w x
theorem bD:∀ {k:Key} {v:Value},nY k v=true->(∃ i t,k=Sum.inl i/\v=Value.int i t)\/(∃ x t,k=Sum.inr x/\v=Value.str x t)
 |.inl i,v,h=>by
  obtain⟨t,e⟩:=Value.isInt_shape (k:=i) (v:=v) h
  exact .inl ⟨i,t,rfl,e⟩
 |.inr x,v,h=>by
  obtain⟨t,e⟩:=Value.isStrOf_shape (x:=x) (v:=v) h
  exact .inr ⟨x,t,rfl,e⟩
theorem M9 (i:Int) (t:Tok):nY (.inl i) (.int i t)=true:=by simp[nY,Value.isInt]
theorem Nb (x:Str) (t:Tok):nY (.inr x) (.str x t)=true:=by simp[nY,Value.isStrOf]
theorem WT (a b:Int):decide ((Sum.inl a:Key)=Sum.inl b)=(a==b):=by
 by_cases e:a=b
 ·subst e;simp
 ·have h:¬ (Sum.inl a:Key)=Sum.inl b:=fun q=>e (Sum.inl.inj q)
  rw[decide_eq_false h]
  exact (beq_eq_false_iff_ne.mpr e).symm
theorem WW (a b:Str):decide ((Sum.inr a:Key)=Sum.inr b)=decide (a=b):=by
 by_cases e:a=b
 ·subst e;simp
 ·have h:¬ (Sum.inr a:Key)=Sum.inr b:=fun q=>e (Sum.inr.inj q)
  rw[decide_eq_false h,decide_eq_false e]
theorem WX (a:Int) (b:Str):decide ((Sum.inl a:Key)=Sum.inr b)=false:=decide_eq_false (fun q=>nomatch q)
theorem WY (a:Str) (b:Int):decide ((Sum.inr a:Key)=Sum.inl b)=false:=decide_eq_false (fun q=>nomatch q)
def bT (prog:Program) (w:World):PySem.KeyKind prog w Key where
 is:=nY
 hash:=abK w
 inj:=fun v a b ha hb=>by
  rcases bD ha with⟨i,t,rfl,rfl⟩|⟨x,t,rfl,rfl⟩
  ·rcases bD hb with⟨j,u,rfl,e⟩|⟨y,u,rfl,e⟩
   ·injection e with e1 _;rw[e1]
   ·exact nomatch e
  ·rcases bD hb with⟨j,u,rfl,e⟩|⟨y,u,rfl,e⟩
   ·exact nomatch e
   ·injection e with e1 _;rw[e1]
 byValue:=fun k v h=>by
  rcases bD h with⟨i,t,rfl,rfl⟩|⟨x,t,rfl,rfl⟩<;>rfl
 pyHash:=fun hv h=>by
  rcases bD hv with⟨i,t,rfl,rfl⟩|⟨x,t,rfl,rfl⟩
  ·exact wpAny_pyHash_int h
  ·exact wpAny_pyHash_str h
 eqBool:=fun hu hv h=>by
  rcases bD hu with⟨i,t,rfl,rfl⟩|⟨x,t,rfl,rfl⟩
  ·rcases bD hv with⟨j,u,rfl,rfl⟩|⟨y,u,rfl,rfl⟩
   ·rw[WT] at h;exact wpAny_eqBool_int h
   ·rw[WX] at h;exact SeqAt.EqAt.int_str i t y u _ _ _ _ h
  ·rcases bD hv with⟨j,u,rfl,rfl⟩|⟨y,u,rfl,rfl⟩
   ·rw[WY] at h;exact SeqAt.EqAt.str_int x t j u _ _ _ _ h
   ·rw[WW] at h;exact wpAny_eqBool_str h
 «strs»:=fun k x t v h=>by
  rcases bD h with⟨i,u,rfl,e⟩|⟨y,u,rfl,e⟩
  ·exact nomatch e
  ·injection e with e1 _
   subst e1
   cases v<;>rfl
theorem G4 (prog:Program) (w:World) (i:Int) (t:Tok):(bT prog w).is (.inl i) (.int i t)=true:=M9 i t
theorem G5 (prog:Program) (w:World) (x:Str) (t:Tok):(bT prog w).is (.inr x) (.str x t)=true:=Nb x t
end L2
namespace L2
open PySem PySem.Spec PyProof.Rows
inductive V where
 |non|bl (b:Bool)|int (i:Int)|str (x:Str)|Ze (b:Array UInt8)|flt (b:UInt64)|ref (a:Addr)|ty (n:String)
 deriving DecidableEq
def RelV:V->Value->Prop
 |.non,u=>u=Value.none
 |.bl b,u=>u=Value.bool b
 |.int i,u=>∃ t,u=Value.int i t
 |.str x,u=>∃ t,u=Value.str x t
 |.Ze b,u=>∃ t,u=Value.bytes b t
 |.flt b,u=>∃ t,u=Value.float b t
 |.ref a,u=>u=Value.ref a
 |.ty n,u=>u=Value.type n
abbrev Vals:List V->List Value->Prop:=Paired RelV
theorem Vals.length {xs:List V} {us:List Value} (r:Vals xs us):xs.length=us.length:=Paired.length r
theorem Vals.get:∀ {xs:List V} {us:List Value} {i:Nat} {x:V},Vals xs us->xs[i]?=some x->∃ u,us[i]?=some u/\RelV x u
 |_,_,_,_,.nil,e=>by simp at e
 |_,_,0,_,.cons r _,e=>by simp at e;subst e;exact⟨_,rfl,r⟩
 |_,_,i+1,x,.cons _ t,e=>by
  obtain⟨u,h1,h2⟩:=Vals.get (i:=i) (x:=x) t (by simpa using e)
  exact⟨u,by simpa using h1,h2⟩
theorem Vals.set {x:V} {u:Value} (r:RelV x u):∀ {xs:List V} {us:List Value} (i:Nat),Vals xs us->Vals (xs.set i x) (us.set i u)
 |_,_,_,.nil=>.nil
 |_,_,0,.cons _ t=>.cons r t
 |_,_,i+1,.cons q t=>.cons q (Vals.set r i t)
theorem Vals.append:∀ {xs ys:List V} {us ws:List Value},Vals xs us->Vals ys ws->Vals (xs++ys) (us++ws)
 |_,_,_,_,.nil,s=>s
 |_,_,_,_,.cons r t,s=>.cons r (Vals.append t s)
theorem Vals.take:∀ {xs:List V} {us:List Value} (n:Nat),Vals xs us->Vals (xs.take n) (us.take n)
 |_,_,0,_=>.nil
 |_,_,_+1,.nil=>.nil
 |_,_,n+1,.cons r t=>.cons r (Vals.take n t)
theorem Vals.drop:∀ {xs:List V} {us:List Value} (n:Nat),Vals xs us->Vals (xs.drop n) (us.drop n)
 |_,_,0,r=>r
 |_,_,_+1,.nil=>.nil
 |_,_,n+1,.cons _ t=>Vals.drop n t
def yS:Option V->Option Value->Prop
 |some v,some u=>RelV v u
 |none,none=>True
 |_,_=>False
def KV {κ:Type}:List (κ×V)->List (κ×Value)->Prop:=Paired fun (p:κ×V) (q:κ×Value)=>p.1=q.1/\RelV p.2 q.2
def kV:Key->V
 |.inl i=>.int i
 |.inr x=>.str x
inductive HO where
 |lst (xs:List V)
 |tup (xs:List V)
 |dK (kvs:List (Key×V))|dT (kvs:List (List Key×V))
 |set (S:Int->Bool) (n:Nat)
 |ins (C dx:Addr) (fs:List (Str×V))
 |own (x:Addr)
 |xd (fs:List (Str×V))
 |met (f x:Addr)
 |rng (lo hi:Int)
 |wO (o:Obj) (u:HO)
 |W0 (ps:Array Value)
 |ext (φ:Heap->Prop)
abbrev Hp:=Addr->Option HO
def upd (H:Hp) (a:Addr) (o:HO):Hp:=fun b=>if b=a then some o else H b
theorem bx {H:Hp} {a:Addr} {o:HO}:upd H a o a=some o:=by unfold upd;rw[if_pos rfl]
theorem aO {H:Hp} {a b:Addr} {o:HO} (h:b≠a):upd H a o b=H b:=by unfold upd;rw[if_neg h]
def qu (h:Heap) (a:Addr) (items:Array Value):Prop:=∃ o,h.get? a=some o/\o.cls=.type "tuple" ∧ (∃ n,o.data=.seq items n)/\o.dict=none
theorem qu.weak {h:Heap} {a:Addr} {items:Array Value} (x:qu h a items):IsTup h a items:=let ⟨o,e,c,d,_⟩:=x;⟨o,e,c,d⟩
theorem qu.new (h:Heap) (items:Array Value):qu (h.push { cls:=.type "tuple", data:=.seq items }) h.objs.size items:=⟨_,Heap.get?_push_size _ rfl,rfl,⟨_,rfl⟩,rfl⟩
theorem qX {H:Hp} {a b:Addr} {o u:HO} (h:H a=some o) (h':H b=some u) (d:o≠u):a≠b:=by
 intro e;subst e;rw[h] at h';exact d (Option.some.inj h')
theorem bY {H:Hp} {a b:Addr} {o:HO} (h:H a=some o) (h':H b=none):a≠b:=by
 intro e;subst e;rw[h] at h';cases h'
section
variable (P:Program) (w:World)
def fL (H:Hp) (h:Heap) (a:Addr):HO->Prop
 |.lst xs=>xs.length<=sizeLine/\∃ (its:List Value) (n:Nat),Vals xs its/\h.get? a=some { cls:=.type "list", data:=.seq its.toArray n }
 |.tup xs=>xs.length<=sizeLine/\∃ its:List Value,Vals xs its/\qu h a its.toArray
 |.dK kvs=>kvs.length<=sizeLine/\(a==sysModules)=false/\∃ vs,KV kvs vs/\h.DictOf (bT P w) a vs
 |.dT kvs=>kvs.length<=sizeLine/\(a==sysModules)=false/\∃ xs:List (List Key×Addr×Value),
   Paired (fun (p:List Key×V) (q:List Key×Addr×Value)=>p.1=q.1/\H q.2.1=some (.tup (p.1.map kV))/\RelV p.2 q.2.2) kvs xs ∧
   ∃ o es ep,h.get? a=some o/\o.ExactDict/\o.data=.dict es ep/\es.toList=xs.map (entryOfKey (tupleKind (bT P w)))/\(xs.map (·.1)).Nodup
 |.set S n=>h.SetOf (intKind P w) a S n
 |.ins C dx fs=>H dx=some (.own a)/\fs.length<=1000/\dx≠a/\h.get? a=some (PySem.W.instObj C dx) ∧
   ∃ mA,h.Ns1 dx mA/\(∀ f,yS (fs.lookup f) (mA f))/\PySem.Within mA (fs.map (·.1))
 |.own _=>∃ o,h.get? a=some o
 |.xd fs=>∃ mA,h.Ns1 a mA/\∀ f,yS (fs.lookup f) (mA f)
 |.rng lo hi=>∃ t u v,h.get? a=some { cls:=.type "range", data:=.fields #[.int lo t,.int hi u,.int 1 v] }
 |.wO o u=>h.get? a=some o/\fL H h a u
 |.W0 ps=>h.get? a=some { cls:=.none,data:=.fields ps }
 |.met f x=>h.get? a=some (PySem.W.methodObj (.ref f) (.ref x))
 |.ext φ=>φ h/\(∃ o,h.get? a=some o)/\∀ h1 h2:Heap,φ h1->(∀ o,h1.get? a=some o->h2.get? a=some o)->φ h2
def vC (H:Hp) (h:Heap):Prop:=∀ a o,H a=some o->fL P w H h a o
end
section
variable {P:Program} {w:World} {H H':Hp} {h h':Heap} {a:Addr} {o:HO}
theorem fL.lt (x:fL P w H h a o):a < h.objs.size:=by
 cases o with
 |lst xs=>obtain⟨_,_,_,_,e⟩:=x;exact Heap.lt_size e
 |tup xs=>obtain⟨_,_,_,p⟩:=x;exact p.weak.lt
 |dK kvs=>obtain⟨_,_,_,_,o,_,_,e,_⟩:=x;exact Heap.lt_size e
 |dT kvs=>obtain⟨_,_,_,_,o,_,_,e,_⟩:=x;exact Heap.lt_size e
 |set S n=>obtain⟨o,_,_,_,e,_⟩:=x;exact Heap.lt_size e
 |ins C dx fs=>obtain⟨_,_,_,e,_⟩:=x;exact Heap.lt_size e
 |own y=>obtain⟨_,e⟩:=x;exact Heap.lt_size e
 |xd fs=>obtain⟨_,⟨_,_,_,e,_⟩,_⟩:=x;exact Heap.lt_size e
 |rng lo hi=>obtain⟨_,_,_,e⟩:=x;exact Heap.lt_size e
 |wO ob u=>obtain⟨e,_⟩:=x;exact Heap.lt_size e
 |W0 ps=>exact Heap.lt_size (show h.get? a=some _ from x)
 |met f y=>exact Heap.lt_size (show h.get? a=some _ from x)
 |ext φ=>obtain⟨_,⟨_,e⟩,_⟩:=x;exact Heap.lt_size e
theorem Paired.TJ {α β:Type} {F G:α->β->Prop}:∀ {l₁:List α} {l₂:List β},Paired F l₁ l₂->(∀ a b,F a b->G a b)->Paired G l₁ l₂
 |_,_,.nil,_=>.nil
 |_,_,.cons r t,f=>.cons (f _ _ r) (Paired.TJ t f)
theorem Paired.imp' {α β:Type} {F G:α->β->Prop} (f:∀ a b,F a b->G a b) {l₁:List α} {l₂:List β} (r:Paired F l₁ l₂):Paired G l₁ l₂:=Paired.TJ r f
theorem fL.stay (x:fL P w H h a o) (k:∀ b u,(b=a\/H b=some (.own a))->h.get? b=some u->h'.get? b=some u)
  (ho:∀ b,H b=some (.own a)->H' b=some (.own a)) (ht:∀ b xs,H b=some (.tup xs)->H' b=some (.tup xs)):fL P w H' h' a o:=by
 induction o with
 |lst xs=>obtain⟨z,its,n,r,e⟩:=x;exact⟨z,its,n,r,k _ _ (.inl rfl) e⟩
 |tup xs=>obtain⟨z,its,r,ob,e,c⟩:=x;exact⟨z,its,r,ob,k _ _ (.inl rfl) e,c⟩
 |dK kvs=>obtain⟨z,y,vs,r,ob,es,ep,e,c⟩:=x;exact⟨z,y,vs,r,ob,es,ep,k _ _ (.inl rfl) e,c⟩
 |dT kvs=>
  obtain⟨z,y,xs,r,ob,es,ep,e,c⟩:=x
  exact⟨z,y,xs,Paired.TJ r fun p q z=>⟨z.1,ht _ _ z.2.1,z.2.2⟩,ob,es,ep,k _ _ (.inl rfl) e,c⟩
 |set S n=>obtain⟨ob,es,ep,t,e,c⟩:=x;exact⟨ob,es,ep,t,k _ _ (.inl rfl) e,c⟩
 |ins C dx fs=>
  obtain⟨d,z,ne,e,mA,⟨od,es,ep,e2,c⟩,r⟩:=x
  exact⟨ho _ d,z,ne,k _ _ (.inl rfl) e,mA,⟨od,es,ep,k _ _ (.inr d) e2,c⟩,r⟩
 |own y=>obtain⟨ob,e⟩:=x;exact⟨ob,k _ _ (.inl rfl) e⟩
 |xd fs=>obtain⟨mA,⟨od,es,ep,e,c⟩,r⟩:=x;exact⟨mA,⟨od,es,ep,k _ _ (.inl rfl) e,c⟩,r⟩
 |rng lo hi=>obtain⟨t,u,v,e⟩:=x;exact⟨t,u,v,k _ _ (.inl rfl) e⟩
 |wO ob u ih=>obtain⟨e,q⟩:=x;exact⟨k _ _ (.inl rfl) e,ih q⟩
 |W0 ps=>
  have e:h.get? a=some { cls:=.none,data:=.fields ps }:=x
  show h'.get? a=some { cls:=.none,data:=.fields ps }
  exact k a _ (.inl rfl) e
 |met f y=>
  have e:h.get? a=some (PySem.W.methodObj (.ref f) (.ref y)):=x
  show h'.get? a=some (PySem.W.methodObj (.ref f) (.ref y))
  exact k a _ (.inl rfl) e
 |ext φ=>obtain⟨p,⟨o,e⟩,st⟩:=x;exact⟨st _ _ p fun o q=>k _ _ (.inl rfl) q,⟨o,k _ _ (.inl rfl) e⟩,st⟩
theorem vC.lt (x:vC P w H h) (e:H a=some o):a < h.objs.size:=(x a o e).lt
theorem vC.fresh (x:vC P w H h) (e:h.objs.size<=a):H a=none:=by
 cases q:H a with
 |none=>rfl
 |some u=>exact absurd (Nat.lt_of_lt_of_le (x.lt q) e) (Nat.lt_irrefl _)
theorem vC.kept (x:vC P w H h) (k:∀ b u,h.get? b=some u->h'.get? b=some u):vC P w H h':=fun a o e=>
 (x a o e).stay (fun b u _ q=>k b u q) (fun _ q=>q) fun _ _ q=>q
theorem vC.laid (x:vC P w H h) (k:∀ b u,h.get? b=some u->h'.get? b=some u) (hp:h.objs.size<=a) (new:fL P w (upd H a o) h' a o):vC P w (upd H a o) h':=fun b u e=>by
 have hn:=x.fresh hp
 by_cases hb:b=a
 ·subst hb;rw[bx] at e;cases e;exact new
 ·rw[aO hb] at e
  exact (x b u e).stay (fun c v _ q=>k c v q) (fun c q=>by rw[aO (bY q hn)];exact q) fun c xs q=>by rw[aO (bY q hn)];exact q
end
def Rd (H:Hp) (a:Addr) (u:HO):Prop:=H a=some u\/∃ o,H a=some (.wO o u)
theorem Rd.of {H:Hp} {a:Addr} {u:HO} (h:H a=some u):Rd H a u:=.inl h
theorem Rd.ok {P:Program} {w:World} {H:Hp} {h:Heap} {a:Addr} {u:HO} (r:Rd H a u) (x:vC P w H h):fL P w H h a u:=by
 rcases r with r|⟨o,r⟩
 ·exact x a u r
 ·obtain⟨_,q⟩:=x a _ r
  exact q
def Zf:Option HO->Prop
 |some (.lst _)=>True
 |some (.dK _)=>True
 |some (.dT _)=>True
 |some (.set _ _)=>True
 |some (.ins _ _ _)=>True
 |some (.ext _)=>True
 |_=>False
section
variable {P:Program} {w:World} {H:Hp} {h h':Heap} {x e:Addr} {o':HO}
theorem vC.write (ok:vC P w H h) (mu:Zf (H x)) (he:e=x\/H e=some (.own x)) (k:∀ b u,b≠e->h.get? b=some u->h'.get? b=some u) (heo:∃ u,h'.get? e=some u)
  (new:fL P w (upd H x o') h' x o'):vC P w (upd H x o') h':=fun b u q=>by
 have Zg:∀ c y,H c=some (.own y)->c≠x:=fun c y r z=>by subst z;rw[r] at mu;exact mu
 have abL:∀ c xs,H c=some (.tup xs)->c≠x:=fun c xs r z=>by subst z;rw[r] at mu;exact mu
 by_cases hb:b=x
 ·subst hb;rw[bx] at q;cases q;exact new
 ·rw[aO hb] at q
  by_cases hbe:b=e
  ·have q':H b=some (.own x):=by
    rcases he with z|z
    ·exact absurd (hbe.trans z) hb
    ·rw[hbe];exact z
   rw[q] at q';cases q'
   obtain⟨v,hv⟩:=heo
   exact⟨v,by rw[hbe];exact hv⟩
  ·refine (ok b u q).stay (fun c v hc r=>k c v ?_ r) (fun c r=>by rw[aO (Zg c b r)];exact r) fun c xs r=>by rw[aO (abL c xs r)];exact r
   rcases hc with rfl|hc
   ·exact hbe
   ·rintro rfl
    rcases he with z|z
    ·exact Zg c b hc z
    ·rw[hc] at z;cases z;exact hb rfl
end
structure Un (fs ex:List Addr) (H H':Hp) (h h':Heap):Prop where
 keep:∀ b o,h.get? b=some o->H b=none->b∉fs->b∉ex->h'.get? b=some o
 slot:∀ b o,h.get? b=some o->H b=none->b∈fs->b∉ex->∃ sl,h'.get? b=some { o with slots:=sl }
 free:∀ b o,h.get? b=some o->H b=none->b∉ex->H' b=none
 there:∀ b o,h.get? b=some o->b∉ex->∃ o',h'.get? b=some o'
 tups:∀ b xs,H b=some (.tup xs)->H' b=some (.tup xs)
 vG:∀ b o u,H b=some (.wO o u)->H' b=some (.wO o u)
 wQ:∀ b ps,H b=some (.W0 ps)->∃ more,H' b=some (.W0 (ps++more))
section
variable {fs fs' ex ex':List Addr} {H H1 H2:Hp} {h h1 h2 h':Heap} {a x e:Addr} {o:HO}
theorem Un.any (u:Un fs ex H H1 h h1) {b:Addr} {ob:Obj} (q:h.get? b=some ob) (n:H b=none) (hx:b∉ex):∃ sl,h1.get? b=some { ob with slots:=sl }:=by
 by_cases hb:b∈fs
 ·exact u.slot b ob q n hb hx
 ·exact⟨ob.slots,u.keep b ob q n hb hx⟩
theorem Un.trans (a:Un fs ex H H1 h h1) (b:Un fs ex H1 H2 h1 h2):Un fs ex H H2 h h2 where
 keep:=fun c ob q n hc hx=>b.keep c ob (a.keep c ob q n hc hx) (a.free c ob q n hx) hc hx
 slot:=fun c ob q n hc hx=>by
  obtain⟨sl,e1⟩:=a.slot c ob q n hc hx
  obtain⟨sl',e2⟩:=b.slot c _ e1 (a.free c ob q n hx) hc hx
  exact⟨sl',e2⟩
 free:=fun c ob q n hx=>by
  obtain⟨o',e1⟩:=a.there c ob q hx
  exact b.free c o' e1 (a.free c ob q n hx) hx
 there:=fun c ob q hx=>by
  obtain⟨o',e1⟩:=a.there c ob q hx
  exact b.there c o' e1 hx
 tups:=fun c xs q=>b.tups c xs (a.tups c xs q)
 vG:=fun c ob xs q=>b.vG c ob xs (a.vG c ob xs q)
 wQ:=fun c ps q=>by
  obtain⟨m1,e1⟩:=a.wQ c ps q
  obtain⟨m2,e2⟩:=b.wQ c _ e1
  exact⟨m1++m2,by rw[e2,Array.append_assoc]⟩
theorem Un.kept (k:∀ b u,h.get? b=some u->h'.get? b=some u):Un fs ex H H h h':=
 ⟨fun b ob q _ _ _=>k b ob q,fun b ob q _ _ _=>⟨ob.slots,k b ob q⟩,fun _ _ _ n _=>n,fun b ob q _=>⟨ob,k b ob q⟩,fun _ _ q=>q,fun _ _ _ q=>q,fun _ ps q=>⟨#[],by rw[q];simp⟩⟩
theorem Un.refl:Un fs ex H H h h:=Un.kept fun _ _ q=>q
theorem Un.laid (k:∀ b u,h.get? b=some u->h'.get? b=some u) (hp:h.objs.size<=a) (hn:H a=none):Un fs ex H (upd H a o) h h' where
 keep:=fun b u q _ _ _=>k b u q
 slot:=fun b u q _ _ _=>⟨u.slots,k b u q⟩
 free:=fun b u q n _=>by rw[aO (Nat.ne_of_lt (Nat.lt_of_lt_of_le (Heap.lt_size q) hp))];exact n
 there:=fun b u q _=>⟨u,k b u q⟩
 tups:=fun b xs q=>by rw[aO (bY q hn)];exact q
 vG:=fun b u xs q=>by rw[aO (bY q hn)];exact q
 wQ:=fun b ps q=>⟨#[],by rw[aO (bY q hn),q];simp⟩
theorem Un.write (mu:Zf (H x)) (he:e=x\/H e=some (.own x)) (k:∀ b u,b≠e->h.get? b=some u->h'.get? b=some u) (heo:∃ u,h'.get? e=some u):Un fs ex H (upd H x o) h h':=by
 have hx:∀ b,H b=none->b≠x:=fun b n z=>by subst z;rw[n] at mu;exact mu
 have hb:∀ b,H b=none->b≠e:=fun b n z=>by
  subst z
  rcases he with r|r
  ·exact hx b n r
  ·rw[n] at r;cases r
 have hm:∀ b u,H b=some u->¬ Zf (some u)->b≠x:=fun b u q nm z=>by subst z;rw[q] at mu;exact nm mu
 refine⟨fun b u q n _ _=>k b u (hb b n) q,fun b u q n _ _=>⟨u.slots,k b u (hb b n) q⟩,fun b u q n _=>by rw[aO (hx b n)];exact n,fun b u q _=>?_,
  fun b xs q=>by rw[aO (hm b _ q fun z=>z)];exact q,fun b u xs q=>by rw[aO (hm b _ q fun z=>z)];exact q,fun b ps q=>⟨#[],by rw[aO (hm b _ q fun z=>z),q];simp⟩⟩
 by_cases hbe:b=e
 ·subst hbe;exact heo
 ·exact⟨u,k b u hbe q⟩
theorem Un.mono (u:Un fs ex H H1 h h1) (hs:∀ b∈fs,b∈fs') (hx:∀ b∈ex,b∈ex'):Un fs' ex' H H1 h h1:=
 ⟨fun b ob q n hb he=>u.keep b ob q n (fun z=>hb (hs b z)) fun z=>he (hx b z),fun _ _ q n _ he=>u.any q n fun z=>he (hx _ z),fun b ob q n he=>u.free b ob q n fun z=>he (hx b z),fun b ob q he=>u.there b ob q fun z=>he (hx b z),u.tups,u.vG,u.wQ⟩
end
def trk (h:Heap) (H:Hp):List Addr:=(List.range h.objs.size).filter fun a=>(H a).isSome
def Fg (h:Heap) (H:Hp):Heap:=PySem.W.hideAll h (trk h H)
theorem Nf (h:Heap) (H:Hp):(Fg h H).objs.size=h.objs.size:=PySem.W.hideAll_size _ _
theorem Ph {h:Heap} {H:Hp} {b:Addr} {o:Obj} (e:h.get? b=some o) (n:H b=none):(Fg h H).get? b=some o:=
 PySem.W.hideAll_get _ e fun hm=>by
  have q:(H b).isSome=true:=(List.mem_filter.mp hm).2
  rw[n] at q;simp at q
theorem TQ {h:Heap} {H:Hp} {b:Addr} {o:Obj} (e:(Fg h H).get? b=some o):h.get? b=some o/\H b=none:=by
 have e':h.get? b=some o:=PySem.W.of_hideAll (trk h H) e
 refine⟨e',?_⟩
 cases q:H b with
 |none=>rfl
 |some x=>
  have hm:b∈trk h H:=List.mem_filter.mpr ⟨List.mem_range.mpr (Heap.lt_size e'),by simp[q]⟩
  have z:(Fg h H).get? b=none:=PySem.W.hideAll_none (trk h H) hm
  rw[z] at e;cases e
def TV (g h:Heap) (L:Addr):List (Addr×Obj):=(List.range h.objs.size).filterMap fun a=>if a=L\/(g.get? a).isSome=true then none else (h.get? a).map fun o=>(a,o)
def rest (g h:Heap) (L d:Addr):List (Addr×Obj):=(TV g h L).filter fun p=>decide (p.1≠d)
end L2
namespace L2
open PySem PySem.Spec PyProof.Rows
structure Mod (K:PySem.W.Frag) (mg:Str->Option Value) (base:Heap):Prop where
 kin:K.In base
 glob:base.Ns mainGlobals mg
 blt:∃ mb,base.Ns builtinsNs mb/\∀ x:Str,x ≠ "__name__" → mb x=bootBuiltins x
 nolimit:base.NoLimit
structure Cx where
 prog:Program
 w:World
 K:PySem.W.Frag
 mg:Str->Option Value
 base:Heap
 A:Around
 N:List Str
 s₀:Shared
 H₀:Hp
 env:Env
 outer:List Env
 stack:List Env
 ex:List Addr
 fn:Str->Bool
 calm:Bool
 pn:List (Addr×Obj)
 xe:Value->Shared->Prop
def frs (l:List Env):List Addr:=l.filterMap (·.frame)
abbrev Cx.fs (X:Cx):List Addr:=frs X.outer
def Tq (sc:Scope) (x:Str):Prop:=sc.names.lookup x=some .local\/sc.names.lookup x=some .cell\/sc.names.lookup x=some .free
def Loc (sc:Scope) (x:Str):Prop:=sc.names.lookup x=some .local\/sc.names.lookup x=some .cell
def Look (env:Env) (h:Heap) (m:Str->Option Value) (x:Str) (u:Value):Prop:=
 (env.kindOf x=some .local/\m x=some u)\/((env.kindOf x=some .cell\/env.kindOf x=some .free)/\∃ c,env.cells.lookup x=some c/\h.IsCell c (some u))
structure Cx.Ok (X:Cx):Prop where
 mod:Mod X.K X.mg X.base
 kind:X.env.scope.kind=.function
 glob:X.env.globals=mainGlobals
 blt:X.env.builtins=builtinsNs
 above:X.s₀.heap.objs.size<=X.env.locals
 inj:∀ x y c,X.env.cells.lookup x=some c->X.env.cells.lookup y=some c->x=y
 has:∀ x,(X.env.kindOf x=some .cell\/X.env.kindOf x=some .free)->∃ c,X.env.cells.lookup x=some c
 cab:∀ x c,X.fn x=true->X.env.cells.lookup x=some c->X.s₀.heap.objs.size<=c
 hd:X.calm=true->X.A.handled=none
 frames:X.A.frames=some X.stack
 stk:X.stack=X.outer\/(X.stack=X.env::X.outer/\X.env.frame=some X.env.locals)
 exf:∀ b∈X.ex,b≠X.env.locals/\∀ x c,X.env.cells.lookup x=some c->c≠b
 bs:∀ b o,X.base.get? b=some o->X.s₀.heap.get? b=some o/\X.H₀ b=none
 Tr:X.base.objs.size<=X.s₀.heap.objs.size
 Pj:∀ b o,X.base.get? b=some o->b∉X.ex
 TX:∀ b∈X.ex,b∉X.fs
 yU:X.s₀.heap.FunFrames X.base X.outer
 W2:∀ b∈X.fs,X.H₀ b=none
structure Inv (X:Cx) (pins:List (Addr×Obj)) (σ:List (Option V)) (H:Hp) (s:Shared):Prop where
 ok:X.Ok
 os:s.os=X.s₀.os
 bare:AllBare s.gens
 base:Un X.fs X.ex X.H₀ H X.s₀.heap s.heap
 loc:∃ m,s.heap.Ns X.env.locals m/\∀ (i:Nat) (x:Str) (v:V),X.N[i]?=some x->σ[i]?=some (some v)->Tq X.env.scope x->∃ u,RelV v u/\Look X.env s.heap m x u
 cell:∀ x c,X.env.cells.lookup x=some c->∃ v,s.heap.IsCell c v
 free:H X.env.locals=none
 pF:∀ x c,X.env.cells.lookup x=some c->H c=none
 pin:∀ p∈X.pn++pins,s.heap.get? p.1=some p.2/\H p.1=none/\p.1≠X.env.locals/\p.1∉X.fs/\∀ v,p.2.data≠.cell v
 hok:vC X.prog X.w H s.heap
 len:σ.length=X.N.length
section
variable {X:Cx} {pins:List (Addr×Obj)} {σ:List (Option V)} {H H':Hp} {s:Shared} {h':Heap}
theorem Cx.Ok.abN (ok:X.Ok) {b:Addr} {o:Obj} (e:X.base.get? b=some o):b∉X.fs:=fun hb=>by
 have:=(ok.yU.mem hb).1
 rw[e] at this;cases this
theorem Inv.bs (I:Inv X pins σ H s):∀ b o,X.base.get? b=some o->s.heap.get? b=some o/\H b=none:=fun b o e=>
 ⟨I.base.keep b o (I.ok.bs b o e).1 (I.ok.bs b o e).2 (I.ok.abN e) (I.ok.Pj b o e),I.base.free b o (I.ok.bs b o e).1 (I.ok.bs b o e).2 (I.ok.Pj b o e)⟩
theorem Inv.bk (I:Inv X pins σ H s):∀ b o,X.base.get? b=some o->s.heap.get? b=some o:=fun b o e=>(I.bs b o e).1
theorem Inv.mod (I:Inv X pins σ H s):Mod X.K X.mg X.base:=I.ok.mod
theorem Inv.Y6 (I:Inv X pins σ H s):X.K.In s.heap:=I.ok.mod.kin.keeps I.bk
theorem Inv.nolimit (I:Inv X pins σ H s):s.heap.NoLimit:=I.ok.mod.nolimit.keeps I.bk
theorem Inv.fr (I:Inv X pins σ H s):∃ m,Fr X.base X.env.locals s.heap m:=
 let ⟨m,hn,_⟩:=I.loc
 ⟨m,hn,I.bk,Nat.le_trans I.ok.Tr I.ok.above⟩
theorem Inv.lt (I:Inv X pins σ H s):X.env.locals < s.heap.objs.size:=let ⟨_,hn,_⟩:=I.loc;hn.lt
theorem Inv.sz (I:Inv X pins σ H s):X.s₀.heap.objs.size<=s.heap.objs.size:=Nat.le_trans I.ok.above (Nat.le_of_lt I.lt)
theorem Inv.abO (I:Inv X pins σ H s) {a:Addr} (h:s.heap.objs.size<=a):a∉X.fs:=fun hb=>by
 obtain⟨_,o,ho,_⟩:=I.ok.yU.mem hb
 exact absurd (Nat.lt_of_lt_of_le (Heap.lt_size ho) (Nat.le_trans I.sz h)) (Nat.lt_irrefl _)
theorem Inv.W3 (I:Inv X pins σ H s):∀ x c,X.env.cells.lookup x=some c->c≠X.env.locals:=fun x c e z=>by
 obtain⟨v,o,ho,hd⟩:=I.cell x c e
 obtain⟨m,⟨o',es,ep,ho',hd',_⟩,_⟩:=I.loc
 rw[z,ho'] at ho;cases ho;rw[hd'] at hd;cases hd
theorem Inv.yU (I:Inv X pins σ H s):s.heap.FunFrames X.base X.outer:=by
 have all:∀ (l:List Env),(∀ b∈frs l,b∈X.fs)->X.s₀.heap.FunFrames X.base l->s.heap.FunFrames X.base l:=by
  intro l
  induction l with
  |nil=>intro _ _;trivial
  |cons env r ih=>
   intro hs hl
   obtain⟨hk,⟨L,o,hf,hn,ho,hd⟩,hr⟩:=hl
   have hL:L∈X.fs:=hs L (by unfold frs;rw[List.filterMap_cons,hf];exact List.mem_cons_self)
   obtain⟨sl,e⟩:=I.base.slot L o ho (I.ok.W2 L hL) hL fun z=>I.ok.TX L z hL
   exact⟨hk,⟨L,_,hf,hn,e,hd⟩,ih (fun b hb=>hs b (by unfold frs;rw[List.filterMap_cons,hf];exact List.mem_cons_of_mem _ hb)) hr⟩
 exact all X.outer (fun _ hb=>hb) I.ok.yU
theorem Inv.stack (I:Inv X pins σ H s):s.heap.FunFrames X.base X.stack:=by
 rcases I.ok.stk with e|⟨e,hf⟩
 ·rw[e];exact I.yU
 ·rw[e]
  obtain⟨m,hn,_⟩:=I.loc
  refine .cons (by rw[I.ok.kind];decide) hf hn ?_ I.yU
  exact Heap.get?_none_of_le (Nat.le_trans I.ok.Tr I.ok.above)
theorem Inv.Fi (I:Inv X pins σ H s):∀ b∈frs X.stack,b∈X.env.locals::X.fs:=fun b hb=>by
 rcases I.ok.stk with e|⟨e,hf⟩
 ·rw[e] at hb;exact List.mem_cons_of_mem _ hb
 ·rw[e] at hb
  unfold frs at hb
  rw[List.filterMap_cons,hf] at hb
  exact hb
theorem Inv.K7 (I:Inv X pins σ H s):∀ b∈frs X.stack,H b=none:=fun b hb=>by
 rcases List.mem_cons.mp (I.Fi b hb) with e|hb
 ·rw[e];exact I.free
 ·obtain⟨_,o,ho,_⟩:=I.ok.yU.mem hb
  exact I.base.free b o ho (I.ok.W2 b hb) fun z=>I.ok.TX b z hb
theorem Inv.step {g':Array GenState} {t':Nat} {d':Drawn} {ch:List Addr} (I:Inv X pins σ H s)
  (hch:∀ b∈ch,(b∈X.ex\/X.s₀.heap.objs.size<=b)/\b≠X.env.locals/\(∀ x c,X.env.cells.lookup x=some c->c≠b)/\∀ p∈X.pn++pins,p.1≠b)
  (keep:∀ b o,b≠X.env.locals->b∉X.fs->b∉ch->s.heap.get? b=some o->H b=none->h'.get? b=some o)
  (slot:∀ b o,b≠X.env.locals->b∈X.fs->b∉ch->s.heap.get? b=some o->H b=none->∃ sl,h'.get? b=some { o with slots:=sl }) (free:∀ b o,b∉ch->s.heap.get? b=some o->H b=none->H' b=none)
  (there:∀ b o,b∉ch->s.heap.get? b=some o->∃ o',h'.get? b=some o')
  (tups:∀ b xs,H b=some (.tup xs)->H' b=some (.tup xs)) (vG:∀ b o u,H b=some (.wO o u)->H' b=some (.wO o u)) (wQ:∀ b ps,H b=some (.W0 ps)->∃ more,H' b=some (.W0 (ps++more)))
  (ns:∀ m,s.heap.Ns X.env.locals m->h'.Ns X.env.locals m) (hok:vC X.prog X.w H' h') (hg:AllBare g') :
  Inv X pins σ H' { s with heap:=h',gens:=g',drawn:=d',toks:=t' }:=by
 have neL:∀ b o,X.s₀.heap.get? b=some o->b≠X.env.locals:=fun b o e=>Nat.ne_of_lt (Nat.lt_of_lt_of_le (Heap.lt_size e) I.ok.above)
 have neC:∀ b o,X.s₀.heap.get? b=some o->b∉X.ex->b∉ch:=fun b o e hx hb=>by
  rcases (hch b hb).1 with z|z
  ·exact hx z
  ·exact absurd (Nat.lt_of_lt_of_le (Heap.lt_size e) z) (Nat.lt_irrefl _)
 have cellK:∀ x c,X.env.cells.lookup x=some c->∀ v,s.heap.IsCell c v->h'.IsCell c v:=fun x c e v ⟨o,ho,hd⟩=>by
  have Zh:c∉ch:=fun z=>(hch c z).2.2.1 x c e rfl
  by_cases hc:c∈X.fs
  ·obtain⟨sl,q⟩:=slot c o (I.W3 x c e) hc Zh ho (I.pF x c e)
   exact⟨_,q,hd⟩
  ·exact⟨o,keep c o (I.W3 x c e) hc Zh ho (I.pF x c e),hd⟩
 refine⟨I.ok,I.os,hg,⟨fun b o e n hb hx=>?_,fun b o e n hb hx=>?_,fun b o e n hx=>?_,fun b o e hx=>?_,fun b xs e=>tups b xs (I.base.tups b xs e),fun b o xs e=>vG b o xs (I.base.vG b o xs e),fun b ps e=>?_⟩,?_,fun x c e=>?_,?_,fun x c e=>?_,fun p hp=>?_,hok,I.len⟩
 ·exact keep b o (neL b o e) hb (neC b o e hx) (I.base.keep b o e n hb hx) (I.base.free b o e n hx)
 ·obtain⟨sl,e1⟩:=I.base.slot b o e n hb hx
  obtain⟨sl',e2⟩:=slot b _ (neL b o e) hb (neC b o e hx) e1 (I.base.free b o e n hx)
  exact⟨sl',e2⟩
 ·obtain⟨o',e1⟩:=I.base.there b o e hx
  exact free b o' (neC b o e hx) e1 (I.base.free b o e n hx)
 ·obtain⟨o',e1⟩:=I.base.there b o e hx
  exact there b o' (neC b o e hx) e1
 ·obtain⟨m1,e1⟩:=I.base.wQ b ps e
  obtain⟨m2,e2⟩:=wQ b _ e1
  exact⟨m1++m2,by rw[e2,Array.append_assoc]⟩
 ·obtain⟨m,hn,hl⟩:=I.loc
  refine⟨m,ns m hn,fun i x v e1 e2 e3=>?_⟩
  obtain⟨u,r,l⟩:=hl i x v e1 e2 e3
  refine⟨u,r,?_⟩
  rcases l with l|⟨k,c,e,z⟩
  ·exact .inl l
  ·exact .inr ⟨k,c,e,cellK x c e _ z⟩
 ·obtain⟨v,z⟩:=I.cell x c e
  exact⟨v,cellK x c e v z⟩
 ·obtain⟨m,⟨o,_,_,ho,_⟩,_⟩:=I.loc
  exact free _ o (fun z=>(hch _ z).2.1 rfl) ho I.free
 ·obtain⟨v,o,ho,hd⟩:=I.cell x c e
  exact free c o (fun z=>(hch c z).2.2.1 x c e rfl) ho (I.pF x c e)
 ·obtain⟨e,n,ne,nf,d⟩:=I.pin p hp
  have Zh:p.1∉ch:=fun z=>(hch p.1 z).2.2.2 p hp rfl
  exact⟨keep p.1 p.2 ne nf Zh e n,free p.1 p.2 Zh e n,ne,nf,d⟩
theorem Inv.un {t':Nat} (I:Inv X pins σ H s) (u:Un X.fs [] H H' s.heap h') (hok:vC X.prog X.w H' h'):Inv X pins σ H' { s with heap:=h',toks:=t' }:=by
 obtain⟨m,⟨o,es,ep,ho,r⟩,_⟩:=id I.loc
 obtain⟨sl,hL⟩:=u.any ho I.free (by simp)
 exact I.step (g':=s.gens) (d':=s.drawn) (ch:=[]) (fun _ z=>nomatch z) (fun b o _ hb _ e n=>u.keep b o e n hb (by simp)) (fun b o _ hb _ e n=>u.slot b o e n hb (by simp)) (fun b o _ e n=>u.free b o e n (by simp)) (fun b o _ e=>u.there b o e (by simp)) u.tups u.vG u.wQ (fun m' hm=>by
  obtain⟨o',es',ep',ho',r'⟩:=hm
  rw[ho] at ho';cases ho'
  exact⟨_,es',ep',hL,r'⟩) hok I.bare
theorem Inv.call {g':Array GenState} {t':Nat} {d':Drawn} {ch:List Addr} (I:Inv X pins σ H s) (u:Un (frs X.stack) ch H H' s.heap h') (hok:vC X.prog X.w H' h') (hg:AllBare g')
  (hch:∀ b∈ch,(b∈X.ex\/X.s₀.heap.objs.size<=b)/\b≠X.env.locals/\(∀ x c,X.env.cells.lookup x=some c->c≠b)/\∀ p∈X.pn++pins,p.1≠b) :
  Inv X pins σ H' { s with heap:=h',gens:=g',drawn:=d',toks:=t' }:=by
 obtain⟨m,⟨o,es,ep,ho,r⟩,_⟩:=id I.loc
 obtain⟨sl,hL⟩:=u.any ho I.free fun z=>(hch _ z).2.1 rfl
 exact I.step (ch:=ch) hch (fun b o hL hb hc e n=>u.keep b o e n (fun z=>(List.mem_cons.mp (I.Fi b z)).elim hL hb) hc) (fun b o _ _ hc e n=>u.any e n hc) (fun b o hc e n=>u.free b o e n hc) (fun b o hc e=>u.there b o e hc) u.tups u.vG u.wQ (fun m' hm=>by
  obtain⟨o',es',ep',ho',r'⟩:=hm
  rw[ho] at ho';cases ho'
  exact⟨_,es',ep',hL,r'⟩) hok hg
theorem Inv.turned {t':Nat} {it:Addr} (I:Inv X pins σ H s) (k:∀ b o,b≠it->s.heap.get? b=some o->h'.get? b=some o) (hn:H it=none) (hL:it≠X.env.locals)
  (h1:it∈X.ex\/X.s₀.heap.objs.size<=it) (h2:∀ x c,X.env.cells.lookup x=some c->c≠it) (h3:∀ p∈X.pn++pins,p.1≠it):Inv X pins σ H { s with heap:=h',toks:=t' }:=by
 have nit:∀ b u,H b=some u->b≠it:=fun b u e z=>by rw[z,hn] at e;cases e
 refine I.step (g':=s.gens) (d':=s.drawn) (ch:=[it]) (fun b hb=>?_) (fun b o _ _ hc e _=>k b o (fun z=>hc (by simp[z])) e) (fun b o _ _ hc e _=>⟨o.slots,k b o (fun z=>hc (by simp[z])) e⟩) (fun _ _ _ _ n=>n)
  (fun b o hc e=>⟨o,k b o (fun z=>hc (by simp[z])) e⟩) (fun _ _ e=>e) (fun _ _ _ e=>e) (fun b ps e=>⟨#[],by rw[e];simp⟩) (fun m hm=>?_) (fun b u e=>?_) I.bare
 ·have e:b=it:=by simpa using hb
  subst e
  exact⟨h1,hL,h2,h3⟩
 ·obtain⟨o,es,ep,ho,r⟩:=hm
  exact⟨o,es,ep,k _ o (Ne.symm hL) ho,r⟩
 ·refine (I.hok b u e).stay (fun c v hc q=>k c v ?_ q) (fun _ q=>q) fun _ _ q=>q
  rcases hc with z|z
  ·rw[z];exact nit b u e
  ·exact nit c _ z
theorem Inv.tok (I:Inv X pins σ H s) (t:Nat):Inv X pins σ H { s with toks:=t }:=I.un (h':=s.heap) (t':=t) Un.refl I.hok
theorem Inv.kept {t':Nat} (I:Inv X pins σ H s) (k:∀ b u,s.heap.get? b=some u->h'.get? b=some u):Inv X pins σ H { s with heap:=h',toks:=t' }:=I.un (Un.kept k) (I.hok.kept k)
theorem Inv.laid {a:Addr} {o:HO} {t':Nat} (I:Inv X pins σ H s) (k:∀ b u,s.heap.get? b=some u->h'.get? b=some u) (hp:s.heap.objs.size<=a) (new:fL X.prog X.w (upd H a o) h' a o) :
  Inv X pins σ (upd H a o) { s with heap:=h',toks:=t' }:=I.un (Un.laid k hp (I.hok.fresh hp)) (I.hok.laid k hp new)
theorem Inv.write {x e:Addr} {o:HO} {t':Nat} (I:Inv X pins σ H s) (mu:Zf (H x)) (he:e=x\/H e=some (.own x)) (k:∀ b u,b≠e->s.heap.get? b=some u->h'.get? b=some u) (heo:∃ u,h'.get? e=some u)
  (new:fL X.prog X.w (upd H x o) h' x o):Inv X pins σ (upd H x o) { s with heap:=h',toks:=t' }:=I.un (Un.write mu he k heo) (I.hok.write mu he k heo new)
theorem Inv.weak {σ':List (Option V)} (I:Inv X pins σ H s) (hl:σ'.length=σ.length) (w:∀ (i:Nat) v,σ'[i]?=some (some v)->σ[i]?=some (some v)):Inv X pins σ' H s:=
 ⟨I.ok,I.os,I.bare,I.base,let ⟨m,hn,hl'⟩:=I.loc;⟨m,hn,fun i x v e1 e2 e3=>hl' i x v e1 (w i v e2) e3⟩,I.cell,I.free,I.pF,I.pin,I.hok,hl.trans I.len⟩
theorem Inv.Fj {V2:List (Addr×Obj)} (I:Inv X pins σ H s) (h:∀ p∈V2,s.heap.get? p.1=some p.2/\H p.1=none/\p.1≠X.env.locals/\p.1∉X.fs/\∀ v,p.2.data≠.cell v):Inv X V2 σ H s:=
 ⟨I.ok,I.os,I.bare,I.base,I.loc,I.cell,I.free,I.pF,fun p hp=>(List.mem_append.mp hp).elim (fun z=>I.pin p (List.mem_append_left _ z)) (h p),I.hok,I.len⟩
theorem G6 {N:List Str} (hN:N.Nodup) {i j:Nat} {x:Str} (a:N[i]?=some x) (b:N[j]?=some x):i=j:=by
 obtain⟨h1,e1⟩:=List.getElem?_eq_some_iff.mp a
 obtain⟨h2,e2⟩:=List.getElem?_eq_some_iff.mp b
 exact (List.getElem_inj hN).mp (e1.trans e2.symm)
theorem Ng {M:Model} {A:Around} {E:Value->Shared->Prop} {i:Nat} {x:Str} {v:V} {u:Value} {Q:Unit->Shared->Prop} (I:Inv X pins σ H s) (hN:X.N.Nodup) (hi:X.N[i]?=some x) (hx:Loc X.env.scope x) (r:RelV v u)
  (h:∀ s',Inv X pins (σ.set i (some v)) H s'->(∃ a,Heap.SameBut a s.heap s'.heap/\(a=X.env.locals\/X.env.cells.lookup x=some a))->Q () s') (hf:X.fn x=true\/X.env.scope.names.lookup x=some .local:=by first|exact .inl rfl|exact .inr rfl|assumption):wpAny M A (storeName X.env x u) Q E s:=by
 obtain⟨m,hn,hl⟩:=id I.loc
 have hcls:(X.env.scope.kind==.class||(X.env.scope.kind==.module&&X.env.locals != X.env.globals))=false:=by rw[I.ok.kind];rfl
 have hiσ:i < σ.length:=by rw[I.len];exact (List.getElem?_eq_some_iff.mp hi).1
 have W3:=I.W3
 have tracked:∀ {a:Addr} {h':Heap},(∃ o,s.heap.get? a=some o/\H a=none)->Heap.SameBut a s.heap h'->vC X.prog X.w H h':=fun {a h'} ha hs b ob e=>by
  obtain⟨_,_,hfree⟩:=ha
  refine (I.hok b ob e).stay (fun c w' hc q=>(hs.2 c ?_).trans q) (fun _ q=>q) fun _ _ q=>q
  rintro rfl
  rcases hc with rfl|hc
  ·rw[hfree] at e;cases e
  ·rw[hfree] at hc;cases hc
 rcases hx with hk|hk
 ·refine wpAny_storeName_local hk hn (fun h' hn' hs=>?_) hcls
  obtain⟨oL,_,_,hoL,_⟩:=id hn
  refine h _ ⟨I.ok,I.os,I.bare,⟨fun b o e n hb hx=>?_,fun b o e n hb hx=>?_,I.base.free,fun b o e hx=>?_,I.base.tups,I.base.vG,I.base.wQ⟩,⟨_,hn',fun j y v' e1 e2 e3=>?_⟩,fun y c e=>?_,I.free,I.pF,fun p hp=>?_,tracked ⟨oL,hoL,I.free⟩ hs,by simpa using I.len⟩ ⟨_,hs,.inl rfl⟩
  ·exact (hs.2 b (Nat.ne_of_lt (Nat.lt_of_lt_of_le (Heap.lt_size e) I.ok.above))).trans (I.base.keep b o e n hb hx)
  ·obtain⟨sl,e1⟩:=I.base.slot b o e n hb hx
   exact⟨sl,(hs.2 b (Nat.ne_of_lt (Nat.lt_of_lt_of_le (Heap.lt_size e) I.ok.above))).trans e1⟩
  ·obtain⟨o',e1⟩:=I.base.there b o e hx
   exact⟨o',(hs.2 b (Nat.ne_of_lt (Nat.lt_of_lt_of_le (Heap.lt_size e) I.ok.above))).trans e1⟩
  ·by_cases hj:j=i
   ·subst hj
    rw[hi] at e1;cases e1
    rw[List.getElem?_set_self hiσ] at e2
    cases e2
    exact⟨u,r,.inl ⟨hk,by simp⟩⟩
   ·rw[List.getElem?_set_ne (Ne.symm hj)] at e2
    obtain⟨u',r',q⟩:=hl j y v' e1 e2 e3
    refine⟨u',r',?_⟩
    rcases q with⟨k,e⟩|⟨k,c,e,z⟩
    ·refine .inl ⟨k,?_⟩
     have:y≠x:=fun e=>hj (G6 hN e1 (e▸hi))
     simp[this,e]
    ·exact .inr ⟨k,c,e,z.sameBut hs (W3 y c e)⟩
  ·obtain⟨w',z⟩:=I.cell y c e
   exact⟨w',z.sameBut hs (W3 y c e)⟩
  ·obtain⟨e,n,ne,nf,d⟩:=I.pin p hp
   exact⟨(hs.2 p.1 ne).trans e,n,ne,nf,d⟩
 ·have hfn:X.fn x=true:=by
   rcases hf with z|z
   ·exact z
   ·rw[z] at hk;cases hk
  obtain⟨c,hc⟩:=I.ok.has x (.inl hk)
  obtain⟨w',z⟩:=I.cell x c hc
  refine wpAny_storeName_cell I.ok.kind hk hc z (fun h' hc' hs=>?_)
  obtain⟨oc,hoc,abP⟩:=id z
  refine h { s with heap:=h' } ⟨I.ok,I.os,I.bare,⟨fun b o e n hb hx=>?_,fun b o e n hb hx=>?_,I.base.free,fun b o e hx=>?_,I.base.tups,I.base.vG,I.base.wQ⟩,⟨m,hn.sameBut hs (Ne.symm (W3 x c hc)),fun j y v' e1 e2 e3=>?_⟩,fun y c' e=>?_,I.free,I.pF,fun p hp=>?_,tracked ⟨oc,hoc,I.pF x c hc⟩ hs,by simpa using I.len⟩ ⟨c,hs,.inr hc⟩
  ·exact (hs.2 b (Nat.ne_of_lt (Nat.lt_of_lt_of_le (Heap.lt_size e) (I.ok.cab x c hfn hc)))).trans (I.base.keep b o e n hb hx)
  ·obtain⟨sl,e1⟩:=I.base.slot b o e n hb hx
   exact⟨sl,(hs.2 b (Nat.ne_of_lt (Nat.lt_of_lt_of_le (Heap.lt_size e) (I.ok.cab x c hfn hc)))).trans e1⟩
  ·obtain⟨o',e1⟩:=I.base.there b o e hx
   exact⟨o',(hs.2 b (Nat.ne_of_lt (Nat.lt_of_lt_of_le (Heap.lt_size e) (I.ok.cab x c hfn hc)))).trans e1⟩
  ·by_cases hj:j=i
   ·subst hj
    rw[hi] at e1;cases e1
    rw[List.getElem?_set_self hiσ] at e2
    cases e2
    exact⟨u,r,.inr ⟨.inl hk,c,hc,hc'⟩⟩
   ·rw[List.getElem?_set_ne (Ne.symm hj)] at e2
    obtain⟨u',r',q⟩:=hl j y v' e1 e2 e3
    refine⟨u',r',?_⟩
    rcases q with q|⟨k,c',e,z'⟩
    ·exact .inl q
    ·refine .inr ⟨k,c',e,z'.sameBut hs ?_⟩
     rintro rfl
     exact hj (G6 hN e1 (I.ok.inj _ _ _ e hc▸hi))
  ·by_cases hcc:c'=c
   ·subst hcc;exact⟨_,hc'⟩
   ·obtain⟨w2,z2⟩:=I.cell y c' e
    exact⟨w2,z2.sameBut hs hcc⟩
  ·obtain⟨e,n,ne,nf,d⟩:=I.pin p hp
   refine⟨(hs.2 p.1 ?_).trans e,n,ne,nf,d⟩
   intro q
   rw[q,hoc] at e
   have q':oc=p.2:=Option.some.inj e
   exact d w' (by rw[<-q'];exact abP)
theorem G7 {M:Model} {A:Around} {E:Value->Shared->Prop} {i:Nat} {x:Str} {v:V} {u:Value} {Q:Unit->Shared->Prop} (I:Inv X pins σ H s) (hN:X.N.Nodup) (hi:X.N[i]?=some x) (hx:Loc X.env.scope x) (r:RelV v u)
  (h:∀ s',Inv X pins (σ.set i (some v)) H s'->Q () s') (hf:X.fn x=true\/X.env.scope.names.lookup x=some .local:=by first|exact .inl rfl|exact .inr rfl|assumption):wpAny M A (storeName X.env x u) Q E s:=
 Ng I hN hi hx r (fun s' I' _=>h s' I') hf
theorem Inv.call' {s':Shared} {ch:List Addr} (I:Inv X pins σ H s) (ho:s'.os=s.os) (u:Un (frs X.stack) ch H H' s.heap s'.heap) (hok:vC X.prog X.w H' s'.heap) (hg:AllBare s'.gens)
  (hch:∀ b∈ch,(b∈X.ex\/X.s₀.heap.objs.size<=b)/\b≠X.env.locals/\(∀ x c,X.env.cells.lookup x=some c->c≠b)/\∀ p∈X.pn++pins,p.1≠b):Inv X pins σ H' s':=by
 obtain⟨h',g',d',t',o'⟩:=s'
 have e:o'=s.os:=ho
 subst e
 exact I.call (g':=g') (t':=t') (d':=d') u hok hg hch
end
abbrev XK:=Value->Option Addr->Hp->Prop
abbrev St:=List (Option V)
abbrev VK:=V->Hp->Prop
abbrev TE:=St->Hp->VK->Prop
abbrev TT:=St->Hp->(Bool->Hp->Prop)->Prop
abbrev TA:=St->Hp->(List V->Hp->Prop)->Prop
structure Ends where
 nx:St->Hp->Prop
 rt:VK
 bk:St->Hp->Prop:=fun _ _=>False
 ct:St->Hp->Prop:=fun _ _=>False
abbrev TS:=Ends->St->Hp->Prop
def EP (X:Cx) (pins:List (Addr×Obj)) (σ:St) (Q:VK) (u:Value) (s':Shared):Prop:=∃ v H',Inv X pins σ H' s'/\RelV v u/\Q v H'
def TP (X:Cx) (pins:List (Addr×Obj)) (σ:St) (Q:Bool->Hp->Prop) (b:Bool) (s':Shared):Prop:=∃ H',Inv X pins σ H' s'/\Q b H'
def AP (X:Cx) (pins:List (Addr×Obj)) (σ:St) (Q:List V->Hp->Prop) (us:List Value) (s':Shared):Prop:=∃ vs H',Inv X pins σ H' s'/\Vals vs us/\Q vs H'
def SP (X:Cx) (pins:List (Addr×Obj)) (D:Ends) (f:Flow) (s':Shared):Prop:=
 match f with
 |.next=>∃ σ' H',Inv X pins σ' H' s'/\D.nx σ' H'
 |.brk=>∃ σ' H',Inv X pins σ' H' s'/\D.bk σ' H'
 |.cont=>∃ σ' H',Inv X pins σ' H' s'/\D.ct σ' H'
 |.ret u=>∃ v σ' H',Inv X pins σ' H' s'/\RelV v u/\D.rt v H'
def PE (X:Cx) (e:Expr) (t:TE):Prop:=
 ∀ (pins:List (Addr×Obj)) (s:Shared) (σ:St) (H:Hp) (Q:VK),Inv X pins σ H s->t σ H Q->wpAny (model X.prog X.w) X.A (eval e X.env) (EP X pins σ Q) X.xe s
def PT (X:Cx) (e:Expr) (t:TT):Prop:=
 ∀ (pins:List (Addr×Obj)) (s:Shared) (σ:St) (H:Hp) (Q:Bool->Hp->Prop),Inv X pins σ H s->t σ H Q->wpAny (model X.prog X.w) X.A (isTrue e X.env (eval e X.env)) (TP X pins σ Q) X.xe s
def PW (X:Cx) (e:Expr) (t:TT):Prop:=
 ∀ (whole:Sem Value) (pins:List (Addr×Obj)) (s:Shared) (σ:St) (H:Hp) (Q:Bool->Hp->Prop),Inv X pins σ H s->t σ H Q->wpAny (model X.prog X.w) X.A (isTrue e X.env whole) (TP X pins σ Q) X.xe s
theorem PW.pt {X:Cx} {e:Expr} {t:TT} (h:PW X e t):PT X e t:=h _
def PA (X:Cx) (es:List Expr) (t:TA):Prop:=
 ∀ (pos:Pos) (pins:List (Addr×Obj)) (s:Shared) (σ:St) (H:Hp) (Q:List V->Hp->Prop),Inv X pins σ H s->t σ H Q->wpAny (model X.prog X.w) X.A (spliced (backTo pos (starEach es X.env))) (AP X pins σ Q) X.xe s
def PS (X:Cx) (st:Stmt) (t:TS):Prop:=
 ∀ (pins:List (Addr×Obj)) (s:Shared) (σ:St) (H:Hp) (D:Ends),Inv X pins σ H s->t D σ H->wpAny (model X.prog X.w) X.A (exec st X.env) (SP X pins D) X.xe s
def Jw (X:Cx) (st:List Stmt) (t:TS):Prop:=
 ∀ (pins:List (Addr×Obj)) (s:Shared) (σ:St) (H:Hp) (D:Ends),Inv X pins σ H s->t D σ H->wpAny (model X.prog X.w) X.A (execs st X.env) (SP X pins D) X.xe s
theorem jF {α:Type} {t:Sem α} {Q Q':α->Shared->Prop} {M:Model} {A:Around} {E:Value->Shared->Prop} {s:Shared} (h:wpAny M A t Q E s) (hQ:∀ a s,Q a s->Q' a s):wpAny M A t Q' E s:=wpAny_mono h hQ fun _ _ x=>x
end L2
namespace L2
open PySem PySem.Spec PyProof.Rows
section
variable {X:Cx}
def abQ (i:Nat):TE:=fun σ H Q=>∃ v,σ[i]?=some (some v)/\Q v H
def tC (v:V):TE:=fun _ H Q=>Q v H
theorem rH {i:Nat} {x:Str} {pos:Pos} (hN:X.N[i]?=some x) (hv:Tq X.env.scope x) (hd:(x==("__debug__" : Str))=false:=by decide) (hcd:(x==("__classdict__" : Str))=false:=by decide):PE X (.Name x pos) (abQ i):=by
 intro pins s σ H Q I h
 obtain⟨v,e,h⟩:=h
 obtain⟨m,hn,hl⟩:=I.loc
 obtain⟨u,r,l⟩:=hl i x v hN e hv
 have fin:EP X pins σ Q u s:=⟨v,H,I,r,h⟩
 rcases l with⟨hk,hm⟩|⟨hk,c,hc,hcell⟩
 ·exact wpAny_Name (wpAny_loadName_local I.ok.kind hk hn hm fin) hd
 ·rcases hk with hk|hk
  ·exact wpAny_Name (wpAny_loadName_cell I.ok.kind hk hc hcell fin) hd
  ·exact wpAny_Name (wpAny_loadName_free I.ok.kind hk hc hcell fin hcd) hd
theorem W4 {i j pos}:PE X (.Constant (.int i) j pos) (tC (.int i)):=fun _ _ _ H _ I h=>wpAny_Constant_int ⟨.int i,H,I.tok _,⟨_,rfl⟩,h⟩
theorem Zi {b j pos}:PE X (.Constant (.bool b) j pos) (tC (.bl b)):=fun _ _ _ H _ I h=>Constant_bool ⟨.bl b,H,I,rfl,h⟩
theorem W5 {j pos}:PE X (.Constant .none j pos) (tC .non):=fun _ _ _ H _ I h=>Constant_none ⟨.non,H,I,rfl,h⟩
theorem W6 {x j pos}:PE X (.Constant (.str x) j pos) (tC (.str x)):=fun _ _ _ H _ I h=>Calls.Constant_str ⟨.str x,H,I.tok _,⟨_,rfl⟩,h⟩
def Gl (X:Cx) (x:Str):Prop:=X.env.kindOf x=some .globalImplicit
theorem K8 {E:Value->Shared->Prop} {pins:List (Addr×Obj)} {s:Shared} {σ:St} {H:Hp} {x:Str} {u:Value} {pos:Pos} {Q:Value->Shared->Prop} (I:Inv X pins σ H s) (hg:Gl X x) (hm:X.mg x=some u) (h:Q u s)
  (hd:(x==("__debug__" : Str))=false:=by decide):wpAny (model X.prog X.w) X.A (eval (.Name x pos) X.env) Q E s:=
 Calls.Name_function_global I.ok.kind hg (Calls.loadGlobal_global (by rw[I.ok.glob];exact I.mod.glob.keeps I.bk) hm h) hd
theorem wR {E:Value->Shared->Prop} {pins:List (Addr×Obj)} {s:Shared} {σ:St} {H:Hp} {x:Str} {u:Value} {pos:Pos} {Q:Value->Shared->Prop} (I:Inv X pins σ H s) (hg:Gl X x) (hm:X.mg x=none) (hv:bootBuiltins x=some u) (h:Q u s)
  (hn:x ≠ "__name__" := by decide) (hd:(x==("__debug__" : Str))=false:=by decide):wpAny (model X.prog X.w) X.A (eval (.Name x pos) X.env) Q E s:=by
 obtain⟨mb,h1,h2⟩:=I.mod.blt
 exact Calls.Name_function_global I.ok.kind hg (Calls.loadGlobal_builtin (by rw[I.ok.glob];exact I.mod.glob.keeps I.bk) hm (by rw[I.ok.blt];exact h1.keeps I.bk) ((h2 x hn).trans hv) h) hd
theorem K9 {x:Str} {v:V} {u:Value} {pos:Pos} (hg:Gl X x) (hm:X.mg x=some u) (r:RelV v u) (hd:(x==("__debug__" : Str))=false:=by decide):PE X (.Name x pos) (tC v):=
 fun _ _ _ H _ I h=>K8 I hg hm ⟨v,H,I,r,h⟩ hd
theorem La {x:Str} {v:V} {u:Value} {pos:Pos} (hg:Gl X x) (hm:X.mg x=none) (hv:bootBuiltins x=some u) (r:RelV v u) (hn:x ≠ "__name__" := by decide) (hd:(x==("__debug__" : Str))=false:=by decide):PE X (.Name x pos) (tC v):=
 fun _ _ _ H _ I h=>wR I hg hm hv ⟨v,H,I,r,h⟩ hn hd
variable {a b:Expr} {ta tb:TE} {pos:Pos}
variable {tA tB':TT} {rest:List Expr}
def tOr (t u:TT):TT:=fun σ H Q=>t σ H fun c H1=>if c=true then Q true H1 else u σ H1 Q
def abR (t:TT):TT:=fun σ H Q=>t σ H fun c H1=>Q (!c) H1
theorem Pk (ha:PT X a tA):PW X (.BoolOp .Or [a] pos) tA:=by
 intro wh pins s σ H Q I h
 refine isTrue_or (jF (ha pins s σ H Q I h) fun c s1 e=>?_)
 cases c with
 |false=>exact isTrue_or_nil e
 |true=>exact e
theorem V3 (ha:PT X a tA) (hb:PW X (.BoolOp .Or (b::rest) pos) tB'):PW X (.BoolOp .Or (a::b::rest) pos) (tOr tA tB'):=by
 intro wh pins s σ H Q I h
 refine isTrue_or (jF (ha pins s σ H _ I h) fun c s1 ⟨H1,I1,q1⟩=>?_)
 cases c with
 |true=>exact⟨H1,I1,q1⟩
 |false=>exact hb wh pins s1 σ H1 Q I1 q1
theorem W7 (ha:PT X a tA):PT X (.UnaryOp .Not a pos) (abR tA):=by
 intro pins s σ H Q I h
 exact isTrue_not (ha pins s σ H (fun c H1=>Q (!c) H1) I h)
def Zj (ta tb:TE):TE:=fun σ H Q=>ta σ H fun x H1=>∃ c,x=.bl c/\if c=true then tb σ H1 Q else Q (.bl false) H1
theorem W8 {op} {t:TE} (h:PE X a t):PE X (.BoolOp op [a] pos) t:=fun pins s σ H Q I hw=>BoolOp_one (h pins s σ H Q I hw)
theorem W9 (ha:PE X a ta) (hb:PE X (.BoolOp .And (b::rest) pos) tb):PE X (.BoolOp .And (a::b::rest) pos) (Zj ta tb):=by
 intro pins s σ H Q I h
 refine BoolOp_and (jF (ha pins s σ H _ I h) fun v s1 ⟨x,H1,I1,r1,q1⟩=>?_)
 obtain⟨c,rfl,q1⟩:=q1
 cases r1
 refine wpAny_truthy_bool ?_
 cases c with
 |true=>exact hb pins s1 σ H1 Q I1 q1
 |false=>exact⟨.bl false,H1,I1,rfl,q1⟩
def tIf (t:TT) (ta tb:TE):TE:=fun σ H Q=>t σ H fun c H1=>if c=true then ta σ H1 Q else tb σ H1 Q
theorem Pn {c:Expr} (hc:PT X c tA) (ha:PE X a ta) (hb:PE X b tb):PE X (.IfExp c a b pos) (tIf tA ta tb):=by
 intro pins s σ H Q I h
 refine wpAny_IfExp (jF (hc pins s σ H _ I h) fun d s1 ⟨H1,I1,q1⟩=>?_)
 cases d with
 |true=>exact ha pins s1 σ H1 Q I1 q1
 |false=>exact hb pins s1 σ H1 Q I1 q1
end
end L2
namespace L2
open PySem PySem.Spec PyProof.Rows
def qw (K:PySem.W.Frag) (H:Hp) (a:Addr) (xs:List V):Prop:=
 Rd H a (.lst xs) ∨
  ∃ (o:Obj) (its:Array Value) (n:Nat),K.lookup a=some o/\o.cls=.type "list" ∧ o.dict=none/\o.data=.seq its n/\its.size<=sizeLine/\Vals xs its.toList
def vH (K:PySem.W.Frag) (H:Hp) (a:Addr) (xs:List V):Prop:=
 Rd H a (.tup xs) ∨
  ∃ (o:Obj) (its:Array Value) (n:Nat),K.lookup a=some o/\(o.cls=.type "tuple" ∧ o.dict=none)/\o.data=.seq its n/\its.size<=sizeLine/\Vals xs its.toList
def Xa:Value->Option V
 |.none=>some .non
 |.bool b=>some (.bl b)
 |.int i _=>some (.int i)
 |.str x _=>some (.str x)
 |.bytes b _=>some (.Ze b)
 |.float b _=>some (.flt b)
 |.ref a=>some (.ref a)
 |.type n=>some (.ty n)
 |_=>none
theorem RelV.abs {x:V} {u:Value} (r:RelV x u):Xa u=some x:=by
 cases x with
 |non=>cases r;rfl
 |bl _=>cases r;rfl
 |int _=>obtain⟨t,rfl⟩:=r;rfl
 |str _=>obtain⟨t,rfl⟩:=r;rfl
 |Ze _=>obtain⟨t,rfl⟩:=r;rfl
 |flt _=>obtain⟨t,rfl⟩:=r;rfl
 |ref _=>cases r;rfl
 |ty _=>cases r;rfl
theorem RelV.inj {x y:V} {u:Value} (r:RelV x u) (q:RelV y u):x=y:=Option.some.inj (r.abs.symm.trans q.abs)
theorem Vals.inj:∀ {xs ys:List V} {us:List Value},Vals xs us->Vals ys us->xs=ys
 |_,_,_,.nil,.nil=>rfl
 |_,_,_,.cons r t,.cons r' t'=>by rw[r.inj r',Vals.inj t t']
section
variable {X:Cx} {pins:List (Addr×Obj)} {σ:St} {H:Hp} {s:Shared} {a:Addr} {xs ys:List V}
theorem qw.of {K:PySem.W.Frag} (h:H a=some (.lst xs)):qw K H a xs:=.inl (.inl h)
theorem vH.of {K:PySem.W.Frag} (h:H a=some (.tup xs)):vH K H a xs:=.inl (.inl h)
theorem Inv.list (I:Inv X pins σ H s) (h:qw X.K H a xs):∃ its:List Value,Vals xs its/\PlainL s.heap a its.toArray/\xs.length<=sizeLine:=by
 rcases h with h|⟨o,its,n,hk,hc,hd,hs,hz,r⟩
 ·obtain⟨z,its,n,r,e⟩:=h.ok I.hok
  exact⟨its,r,⟨_,n,e,rfl,rfl,rfl⟩,z⟩
 ·refine⟨its.toList,r,⟨o,n,I.Y6 a o hk,hc,hd,by simpa using hs⟩,?_⟩
  have e:=r.length
  simp only[Array.length_toList] at e
  omega
theorem Inv.tuple (I:Inv X pins σ H s) (h:vH X.K H a xs):∃ its:List Value,Vals xs its/\IsTup s.heap a its.toArray/\xs.length<=sizeLine:=by
 rcases h with h|⟨o,its,n,hk,hc,hs,hz,r⟩
 ·obtain⟨z,its,r,p⟩:=h.ok I.hok
  exact⟨its,r,p.weak,z⟩
 ·refine⟨its.toList,r,⟨o,I.Y6 a o hk,hc.1,n,by simpa using hs⟩,?_⟩
  have e:=r.length
  simp only[Array.length_toList] at e
  omega
theorem Inv.zZ (I:Inv X pins σ H s) (h:qw X.K H a xs) (h':qw X.K H a ys):xs=ys:=by
 obtain⟨its,r,⟨o,n,e,_,_,d⟩,_⟩:=I.list h
 obtain⟨its',r',⟨o',n',e',_,_,d'⟩,_⟩:=I.list h'
 rw[e] at e';cases e'
 rw[d] at d'
 injection d' with d1 _
 have:its=its':=by simpa using congrArg Array.toList d1
 subst this
 exact r.inj r'
theorem Inv.Dw (I:Inv X pins σ H s) (h:vH X.K H a xs) (h':vH X.K H a ys):xs=ys:=by
 obtain⟨its,r,⟨o,e,_,n,d⟩,_⟩:=I.tuple h
 obtain⟨its',r',⟨o',e',_,n',d'⟩,_⟩:=I.tuple h'
 rw[e] at e';cases e'
 rw[d] at d'
 injection d' with d1 _
 have:its=its':=by simpa using congrArg Array.toList d1
 subst this
 exact r.inj r'
end
abbrev Cx.wish (X:Cx) (E:Value->Shared->Prop):Cx:={ X with xe:=E }
abbrev Cx.Pq (X:Cx):Cx:=X.wish fun _ _=>False
theorem Cx.Ok.wish {X:Cx} (ok:X.Ok) (E:Value->Shared->Prop):(X.wish E).Ok:=
 ⟨ok.mod,ok.kind,ok.glob,ok.blt,ok.above,ok.inj,ok.has,ok.cab,ok.hd,ok.frames,ok.stk,ok.exf,ok.bs,ok.Tr,ok.Pj,ok.TX,ok.yU,ok.W2⟩
theorem Cx.Ok.o8 {X:Cx} {E:Value->Shared->Prop} (ok:(X.wish E).Ok):X.Ok:=
 ⟨ok.mod,ok.kind,ok.glob,ok.blt,ok.above,ok.inj,ok.has,ok.cab,ok.hd,ok.frames,ok.stk,ok.exf,ok.bs,ok.Tr,ok.Pj,ok.TX,ok.yU,ok.W2⟩
section
variable {X:Cx} {pins:List (Addr×Obj)} {σ:St} {H:Hp} {s:Shared} {E:Value->Shared->Prop}
theorem Inv.wish (I:Inv X pins σ H s) (E:Value->Shared->Prop):Inv (X.wish E) pins σ H s:=⟨I.ok.wish E,I.os,I.bare,I.base,I.loc,I.cell,I.free,I.pF,I.pin,I.hok,I.len⟩
theorem Inv.o8 (I:Inv (X.wish E) pins σ H s):Inv X pins σ H s:=⟨I.ok.o8,I.os,I.bare,I.base,I.loc,I.cell,I.free,I.pF,I.pin,I.hok,I.len⟩
theorem SP.o8 {D:Ends} {f:Flow} {s':Shared} (h:SP (X.wish E) pins D f s'):SP X pins D f s':=by
 cases f with
 |next=>obtain⟨σ',H',I,q⟩:=h;exact⟨σ',H',I.o8,q⟩
 |brk=>obtain⟨σ',H',I,q⟩:=h;exact⟨σ',H',I.o8,q⟩
 |cont=>obtain⟨σ',H',I,q⟩:=h;exact⟨σ',H',I.o8,q⟩
 |ret u=>obtain⟨v,σ',H',I,r,q⟩:=h;exact⟨v,σ',H',I.o8,r,q⟩
theorem PE.Pq {e:Expr} {t:TE} (h:PE X.Pq e t):PE X e t:=fun pins s σ H Q I hw=>
 wpAny_mono (h pins s σ H Q (I.wish _) hw) (fun _ _ ⟨v,H',I',r,q⟩=>⟨v,H',I'.o8,r,q⟩) fun _ _ z=>False.elim z
theorem PT.Pq {e:Expr} {t:TT} (h:PT X.Pq e t):PT X e t:=fun pins s σ H Q I hw=>
 wpAny_mono (h pins s σ H Q (I.wish _) hw) (fun _ _ ⟨H',I',q⟩=>⟨H',I'.o8,q⟩) fun _ _ z=>False.elim z
theorem Jw.Pq {st:List Stmt} {t:TS} (h:Jw X.Pq st t):Jw X st t:=fun pins s σ H D I hw=>
 wpAny_mono (h pins s σ H D (I.wish _) hw) (fun _ _ q=>q.o8) fun _ _ z=>False.elim z
end
section
variable {X:Cx} {st:Stmt} {rest:List Stmt} {t u:TS} {e:Expr} {te:TE} {pos:Pos}
def Zk:TS:=fun D σ H=>D.nx σ H
def abS (t u:TS):TS:=fun D σ H=>t { D with nx:=u D } σ H
theorem Lb:Jw X [] Zk:=fun _ _ σ H _ I h=>wpAny_execs_nil ⟨σ,H,I,h⟩
theorem pG (h1:PS X st t) (h2:Jw X rest u):Jw X (st::rest) (abS t u):=by
 intro pins s σ H D I h
 refine wpAny_execs_cons (jF (h1 pins s σ H { D with nx:=u D } I h) fun f s1 q=>?_)
 cases f with
 |next=>
  obtain⟨σ',H',I',q⟩:=q
  exact h2 pins s1 σ' H' D I' q
 |ret v=>exact q
 |brk=>exact q
 |cont=>exact q
theorem TY (h1:PS X st t):Jw X [st] t:=by
 intro pins s σ H D I h
 refine wpAny_execs_cons (jF (h1 pins s σ H D I h) fun f s1 q=>?_)
 cases f with
 |next=>exact wpAny_execs_nil q
 |ret v=>exact q
 |brk=>exact q
 |cont=>exact q
theorem Inv.quiet {pins:List (Addr×Obj)} {σ:St} {H:Hp} {s:Shared} (I:Inv X pins σ H s):interactive X.env=false:=by simp[interactive,I.ok.kind]
def Zm (te:TE):TS:=fun D σ H=>te σ H fun _ H1=>D.nx σ H1
theorem Fl (he:PE X e te) (hs:swapsWith e none pos.line X.env=pure false:=by rfl):PS X (.Expr e pos) (Zm te):=by
 intro pins s σ H D I h
 exact wpAny_Expr_any (jF (he pins s σ H _ I h) fun v s1 ⟨x,H1,I1,r1,q1⟩=>⟨σ,H1,I1,q1⟩) I.quiet hs
def abT (te:TE):TS:=fun D σ H=>te σ H D.rt
theorem Pr (he:PE X e te):PS X (.Return (some e) pos) (abT te):=by
 intro pins s σ H D I h
 exact wpAny_Return_some (jF (he pins s σ H _ I h) fun v s1 ⟨x,H1,I1,r1,q1⟩=>⟨x,σ,H1,I1,r1,q1⟩)
def abU (c:TT) (t u:TS):TS:=fun D σ H=>c σ H fun b H1=>if b=true then t D σ H1 else u D σ H1
theorem V4 {c:Expr} {a b:List Stmt} {tc:TT} (hc:PT X c tc) (ha:Jw X a t) (hb:Jw X b u):PS X (.If c a b pos) (abU tc t u):=by
 intro pins s σ H D I h
 refine wpAny_If (jF (hc pins s σ H _ I h) fun d s1 ⟨H1,I1,q1⟩=>?_)
 cases d with
 |true=>exact ha pins s1 σ H1 D I1 q1
 |false=>exact hb pins s1 σ H1 D I1 q1
def Xb:TS:=fun _ _ _=>False
theorem Nh {sts:List Stmt}:Jw X sts Xb:=fun _ _ _ _ _ _ h=>h.elim
end
abbrev TG:=V->St->Hp->(St->Hp->Prop)->Prop
abbrev V5:=List V->St->Hp->(St->Hp->Prop)->Prop
def PG (X:Cx) (target:Expr) (t:TG):Prop:=
 ∀ (pins:List (Addr×Obj)) (s:Shared) (σ:St) (H:Hp) (v:V) (u:Value) (Q:St->Hp->Prop),Inv X pins σ H s->RelV v u->t v σ H Q →
  wpAny (model X.prog X.w) X.A (assign target X.env u) (fun _ s'=>∃ σ' H',Inv X pins σ' H' s'/\Q σ' H') X.xe s
def Pu (X:Cx) (ts:List Expr) (t:V5):Prop:=
 ∀ (pins:List (Addr×Obj)) (s:Shared) (σ:St) (H:Hp) (vs:List V) (us:List Value) (Q:St->Hp->Prop),Inv X pins σ H s->Vals vs us->t vs σ H Q →
  wpAny (model X.prog X.w) X.A (assignInOrder ((assignEach ts X.env).map (·.2)) us) (fun _ s'=>∃ σ' H',Inv X pins σ' H' s'/\Q σ' H') X.xe s
section
variable {X:Cx} {pos:Pos}
def Ld (i:Nat):TG:=fun v σ H Q=>Q (σ.set i (some v)) H
theorem zJ {i:Nat} {x:Str} (hN:X.N.Nodup) (hi:X.N[i]?=some x) (hx:Loc X.env.scope x) (hf:X.fn x=true\/X.env.scope.names.lookup x=some .local:=by first|exact .inl rfl|exact .inr rfl|assumption):PG X (.Name x pos) (Ld i):=by
 intro pins s σ H v u Q I r h
 exact wpAny_assign_Name (G7 I hN hi hx r (fun s' I'=>⟨_,H,I',h⟩) hf)
def abV:V5:=fun vs σ H Q=>vs=[]/\Q σ H
def Zn (t:TG) (u:V5):V5:=fun vs σ H Q=>∃ v r,vs=v::r/\t v σ H fun σ' H'=>u r σ' H' Q
theorem Le:Pu X [] abV:=by
 intro pins s σ H vs us Q I r h
 obtain⟨e,h⟩:=h
 subst e
 cases r
 exact assignInOrder_nil ⟨σ,H,I,h⟩
theorem z6 {e:Expr} {es:List Expr} {t:TG} {u:V5} (h1:PG X e t) (h2:Pu X es u)
  (hs:(assignEach (e::es) X.env).map (·.2)=assign e X.env::(assignEach es X.env).map (·.2):=by rfl):Pu X (e::es) (Zn t u):=by
 intro pins s σ H vs us Q I r h
 obtain⟨v,vr,e1,h⟩:=h
 subst e1
 cases r with
 |cons r rr=>
  rw[hs]
  refine assignInOrder_cons (jF (h1 pins s σ H _ _ _ I r h) fun _ s1 ⟨σ1,H1,I1,q1⟩=>?_)
  exact h2 pins s1 σ1 H1 _ _ Q I1 rr q1
def abW (K:PySem.W.Frag) (n:Nat) (t:V5):TG:=fun v σ H Q=>∃ a xs,v=.ref a/\vH K H a xs/\xs.length=n/\t xs σ H Q
theorem Px {es:List Expr} {k:Nat} {t:V5} {n:Nat} (hc:X.calm=true) (h:Pu X es t)
  (hn:(assignEach es X.env).length=n:=by rfl) (hst:(assignEach es X.env).findIdx? (·.1)=none:=by rfl):PG X (.Tuple es k pos) (abW X.K n t):=by
 intro pins s σ H v u Q I r hw
 obtain⟨a,xs,e1,hq,hl,hw⟩:=hw
 subst e1
 cases r
 obtain⟨its,rv,ht,hz⟩:=I.tuple hq
 refine assign_Tuple_tuple (I.ok.hd hc) ht (by simp[hn,<-hl,rv.length]) hst fun h' hx=>?_
 have I1:Inv X pins σ H { s with heap:=h' }:=I.kept (t':=s.toks) fun b o e=>hx b o (Nat.ne_of_lt (Heap.lt_size e)) e
 exact h pins _ σ H xs _ Q I1 (by simpa using rv) hw
def Zo (te:TE) (g:TG):TS:=fun D σ H=>te σ H fun x H1=>g x σ H1 D.nx
theorem Xc {tg e:Expr} {te:TE} {g:TG} (he:PE X e te) (hg:PG X tg g) (hs:swapsWithSole [tg] e pos.line X.env=pure false:=by rfl) (hw:swappedStores [tg] e X.env=pure none:=by rfl)
  (h1:(assignEach [tg] X.env).map (·.2)=[assign tg X.env]:=by rfl):PS X (.Assign [tg] e pos) (Zo te g):=by
 intro pins s σ H D I h
 refine wpAny_Assign_stores (jF (he pins s σ H _ I h) fun v s1 ⟨x,H1,I1,r1,q1⟩=>?_) hs hw
 rw[h1]
 exact jF (hg pins s1 σ H1 x v _ I1 r1 q1) fun _ s2 q=>q
theorem Jx {i:Nat} {x:Str} {e:Expr} {te:TE} {pos':Pos} (hN:X.N.Nodup) (hi:X.N[i]?=some x) (hx:Loc X.env.scope x) (he:PE X e te) (hs:swapsWith e (some (.Name x pos')) pos.line X.env=pure false:=by rfl) (hf:X.fn x=true\/X.env.scope.names.lookup x=some .local:=by first|exact .inl rfl|exact .inr rfl|assumption) :
  PS X (.Assign [.Name x pos'] e pos) (Zo te (Ld i)):=by
 intro pins s σ H D I h
 refine wpAny_Assign_Name (jF (he pins s σ H _ I h) fun v s1 ⟨y,H1,I1,r1,q1⟩=>?_) hs
 exact G7 I1 hN hi hx r1 (fun s2 I2=>⟨_,H1,I2,q1⟩) hf
end
section
variable {X:Cx} {pos:Pos}
end
structure It where
 go:Nat->Hp->Prop
 Zq:Nat->Hp->V->Hp->Prop
 stop:Nat->Hp->Prop
def rG (X:Cx) (pins:List (Addr×Obj)) (H:Hp) (b:Addr):Prop:=
 H b=none/\b≠X.env.locals/\b∉X.fs/\(b∈X.ex\/X.s₀.heap.objs.size<=b)/\(∀ x c,X.env.cells.lookup x=some c->c≠b)/\∀ p∈X.pn++pins,p.1≠b
theorem Inv.Ni {X:Cx} {pins:List (Addr×Obj)} {σ:St} {H H':Hp} {s:Shared} {b:Addr} (I:Inv X pins σ H s) (hb:s.heap.objs.size<=b) (hn:H' b=none):rG X pins H' b:=by
 refine⟨hn,Nat.ne_of_gt (Nat.lt_of_lt_of_le I.lt hb),I.abO hb,.inr (Nat.le_trans I.sz hb),fun x c e z=>?_,fun p hp z=>?_⟩
 ·obtain⟨v,q⟩:=I.cell x c e
  exact absurd (Nat.lt_of_lt_of_le q.lt (by rw[z];exact hb)) (Nat.lt_irrefl _)
 ·exact absurd (Nat.lt_of_lt_of_le (Heap.lt_size (I.pin p hp).1) (by rw[z];exact hb)) (Nat.lt_irrefl _)
structure Turn (P:Program) (w:World) (K:PySem.W.Frag) (tg:Expr) (J:It) (fp:List Addr) (it:Addr) (tn:Nat->Heap->Prop):Prop where
 mem:it∈fp
 obj:∀ i h,tn i h->∀ b∈fp,∃ o,h.get? b=some o/\∀ v,o.data≠.cell v
 keep:∀ i h h',tn i h->(∀ b∈fp,∀ o,h.get? b=some o->h'.get? b=some o)->tn i h'
 item:∀ (X:Cx),X.prog=P->X.w=w->X.K=K->X.calm=true->∀ (i:Nat) (pins:List (Addr×Obj)) (s:Shared) (σ:St) (H:Hp) (E:Value->Shared->Prop),Inv X pins σ H s->(∀ b∈fp,rG X pins H b)->tn i s.heap->J.go i H →
  wpAny (model P w) X.A (pyNext (.ref it)) (fun r s1=>∃ u,r=some u ∧
   wpAny (model P w) X.A (letOwnedTupleGo tg (.ref it) u) (fun _ s2=>∃ x H',Inv X pins σ H' s2/\RelV x u/\J.Zq i H x H'/\tn (i+1) s2.heap/\∀ b∈fp,H' b=none) E s1) E s
 done:∀ (X:Cx),X.prog=P->X.w=w->X.K=K->X.calm=true->∀ (i:Nat) (pins:List (Addr×Obj)) (s:Shared) (σ:St) (H:Hp) (E:Value->Shared->Prop),Inv X pins σ H s->(∀ b∈fp,rG X pins H b)->tn i s.heap->J.stop i H →
  wpAny (model P w) X.A (pyNext (.ref it)) (fun r s1=>r=none/\Inv X pins σ H s1) E s
 self:∀ (A:Around) (i:Nat) (s:Shared) (Q:Value->Shared->Prop) (E:Value->Shared->Prop),tn i s.heap->Q (.ref it) s->wpAny (model P w) A (pyIter (.ref it)) Q E s
abbrev TI:=St->Hp->(It->Hp->Prop)->Prop
def PIE (X:Cx) (pins:List (Addr×Obj)) (σ:St) (tg:Expr) (R:It->Hp->Prop) (itv:Value) (s2:Shared):Prop:=
 ∃ (it:Addr) (fp:List Addr) (tn:Nat->Heap->Prop) (J:It) (H':Hp),itv=.ref it/\Inv X pins σ H' s2/\Turn X.prog X.w X.K tg J fp it tn/\tn 0 s2.heap/\(∀ b∈fp,rG X pins H' b)/\R J H'
def PI (X:Cx) (tg iter:Expr) (wi:TI):Prop:=
 ∀ (pins:List (Addr×Obj)) (s:Shared) (σ:St) (H:Hp) (R:It->Hp->Prop),Inv X pins σ H s->wi σ H R →
  wpAny (model X.prog X.w) X.A (eval iter X.env) (fun v s1=>wpAny (model X.prog X.w) X.A (pyIter v) (PIE X pins σ tg R) X.xe s1) X.xe s
theorem G8 {M:Model} {A:Around} {E:Value->Shared->Prop} {s:Shared} {tg:Expr} {it:Addr} {u:Value} {o:Obj} {n:String} {vs:Array Value} {Q:Unit->Shared->Prop} (ho:s.heap.get? it=some o) (hc:o.cls=.type n) (hd:o.data=.fields vs)
  (hn:["enumerate", "zip", "dict_itemiterator", "dict_reverseitemiterator", "odict_iterator", "itertools.zip_longest", "itertools.pairwise"].contains n=false) (hQ:Q () s):wpAny M A (letOwnedTupleGo tg (.ref it) u) Q E s:=by
 unfold letOwnedTupleGo
 cases tg<;>first
  |exact wpAny_pure hQ
  |(cases u<;>first
    |exact wpAny_pure hQ
    |(refine wpAny_bind (wpAny_load ho ?_)
      rw[hc,hd]
      show wpAny M A (if (["enumerate", "zip", "dict_itemiterator", "dict_reverseitemiterator", "odict_iterator", "itertools.zip_longest", "itertools.pairwise"].contains n&&vs[0]?==some (rawInt _))=true then _ else _) Q E s
      rw[if_neg (by intro h;rw[hn,Bool.false_and] at h;cases h)]
      exact wpAny_pure hQ))
def Itl (K:PySem.W.Frag) (a:Addr):It:=
 ⟨fun i H=>∃ xs x,qw K H a xs/\xs[i]?=some x,fun i H x H'=>H'=H/\∀ xs,qw K H a xs->xs[i]?=some x,fun i H=>∃ xs,qw K H a xs/\xs.length<=i⟩
def Itt (K:PySem.W.Frag) (a:Addr):It:=
 ⟨fun i H=>∃ xs x,vH K H a xs/\xs[i]?=some x,fun i H x H'=>H'=H/\∀ xs,vH K H a xs->xs[i]?=some x,fun i H=>∃ xs,vH K H a xs/\xs.length<=i⟩
def Itr (lo:Int) (n:Nat):It:=⟨fun i _=>i < n,fun i H x H'=>H'=H/\x=.int (lo+i),fun i _=>n<=i⟩
theorem Nj {P:Program} {w:World} {K:PySem.W.Frag} {tg:Expr} (a it:Addr):Turn P w K tg (Itl K a) [it] it (fun i h=>h.IsListIter it a i) where
 mem:=by simp
 obj:=fun i h st b hb=>by
  have e:b=it:=by simpa using hb
  subst e
  obtain⟨o,e,c,d⟩:=st
  exact⟨o,e,fun v z=>by rw[d] at z;cases z⟩
 keep:=fun i h h' st k=>st.at fun o e=>k it (by simp) o e
 item:=by
  intro X hP hw hK hc i pins s σ H E I hf st hg
  subst hP hw hK
  obtain⟨xs,x,hq,hx⟩:=hg
  obtain⟨its,rv,p,hz⟩:=I.list hq
  obtain⟨u,hu,ru⟩:=rv.get hx
  obtain⟨f0,f1,f2,f3,f4,f5⟩:=hf it (by simp)
  refine wpAny_pyNext_list_item st p.isList (x:=u) (by simpa using hu) fun h' st' sb=>?_
  have I1:Inv X pins σ H { s with heap:=h' }:=I.turned (t':=s.toks) (fun b o hb e=>(sb.2 b hb).trans e) f0 f1 f3 f4 f5
  obtain⟨o,e,c,d⟩:=id st'
  exact⟨u,rfl,G8 (s:={ s with heap:=h' }) e c d (by decide) ⟨x,H,I1,ru,⟨rfl,fun ys hy=>by rw[I.zZ hy hq];exact hx⟩,st',fun b hb=>(hf b hb).1⟩⟩
 done:=by
  intro X hP hw hK hc i pins s σ H E I hf st hg
  subst hP hw hK
  obtain⟨xs,hq,hx⟩:=hg
  obtain⟨its,rv,p,hz⟩:=I.list hq
  obtain⟨f0,f1,f2,f3,f4,f5⟩:=hf it (by simp)
  have hl:=rv.length
  exact wpAny_pyNext_list_end (I.ok.hd hc) st p.isList (by simp;omega) fun h' eb=>⟨rfl,I.turned (t':=s.toks) (fun b o hb e=>eb b o hb e) f0 f1 f3 f4 f5⟩
 self:=fun _ _ _ _ _ st h=>wpAny_pyIter_listiter st h
theorem Jy {P:Program} {w:World} {K:PySem.W.Frag} {tg:Expr} (a it:Addr):Turn P w K tg (Itt K a) [it] it (fun i h=>h.IsTupleIter it a i) where
 mem:=by simp
 obj:=fun i h st b hb=>by
  have e:b=it:=by simpa using hb
  subst e
  obtain⟨o,e,c,d⟩:=st
  exact⟨o,e,fun v z=>by rw[d] at z;cases z⟩
 keep:=fun i h h' st k=>st.at fun o e=>k it (by simp) o e
 item:=by
  intro X hP hw hK hc i pins s σ H E I hf st hg
  subst hP hw hK
  obtain⟨xs,x,hq,hx⟩:=hg
  obtain⟨its,rv,p,hz⟩:=I.tuple hq
  obtain⟨u,hu,ru⟩:=rv.get hx
  obtain⟨f0,f1,f2,f3,f4,f5⟩:=hf it (by simp)
  refine wpAny_pyNext_tuple_item st (show s.heap.IsTuple a its.toArray from p) (x:=u) (by simpa using hu) fun h' st' sb=>?_
  have I1:Inv X pins σ H { s with heap:=h' }:=I.turned (t':=s.toks) (fun b o hb e=>(sb.2 b hb).trans e) f0 f1 f3 f4 f5
  obtain⟨o,e,c,d⟩:=id st'
  exact⟨u,rfl,G8 (s:={ s with heap:=h' }) e c d (by decide) ⟨x,H,I1,ru,⟨rfl,fun ys hy=>by rw[I.Dw hy hq];exact hx⟩,st',fun b hb=>(hf b hb).1⟩⟩
 done:=by
  intro X hP hw hK hc i pins s σ H E I hf st hg
  subst hP hw hK
  obtain⟨xs,hq,hx⟩:=hg
  obtain⟨its,rv,p,hz⟩:=I.tuple hq
  obtain⟨f0,f1,f2,f3,f4,f5⟩:=hf it (by simp)
  have hl:=rv.length
  exact wpAny_pyNext_tuple_end (I.ok.hd hc) st (show s.heap.IsTuple a its.toArray from p) (by simp;omega) fun h' eb=>⟨rfl,I.turned (t':=s.toks) (fun b o hb e=>eb b o hb e) f0 f1 f3 f4 f5⟩
 self:=fun _ _ _ _ _ st h=>wpAny_pyIter_tupleiter st h
theorem Jz {P:Program} {w:World} {K:PySem.W.Frag} {tg:Expr} (it:Addr) (lo:Int) (n:Nat):Turn P w K tg (Itr lo n) [it] it (fun i h=>IsRangeIter h it (lo+(i:Nat) * 1) ((n:Int) - (i:Nat)) 1) where
 mem:=by simp
 obj:=fun i h st b hb=>by
  have e:b=it:=by simpa using hb
  subst e
  exact⟨_,st,fun v z=>by
   have z':Data.fields _=Data.cell v:=z
   cases z'⟩
 keep:=fun i h h' st k=>k it (by simp) _ st
 item:=by
  intro X hP hw hK hc i pins s σ H E I hf st hg
  subst hP hw hK
  obtain⟨f0,f1,f2,f3,f4,f5⟩:=hf it (by simp)
  have W:=Walks.range (prog:=X.prog) (w:=X.w) (I.ok.hd hc) it lo 1 n
  refine W.item i s _ _ hg st fun v h' tk hv st' kk=>?_
  obtain⟨t,rfl⟩:=hv
  have I1:Inv X pins σ H { s with heap:=h',toks:=tk }:=I.turned (fun b o hb e=>kk b o (by simpa using hb) e) f0 f1 f3 f4 f5
  refine⟨_,rfl,G8 (s:={ s with heap:=h',toks:=tk }) (n := "range_iterator") st' rfl rfl (by decide) ⟨.int (lo+i),H,I1,⟨t,?_⟩,⟨rfl,rfl⟩,st',fun b hb=>(hf b hb).1⟩⟩
  rw[Int.mul_one]
 done:=by
  intro X hP hw hK hc i pins s σ H E I hf st hg
  subst hP hw hK
  obtain⟨f0,f1,f2,f3,f4,f5⟩:=hf it (by simp)
  exact wpAny_pyNext_range_end (I.ok.hd hc) st (by have:n<=i:=hg;omega) fun h' eb=>⟨rfl,I.turned (t':=s.toks) (fun b o hb e=>eb b o hb e) f0 f1 f3 f4 f5⟩
 self:=fun _ _ _ _ _ st h=>wpAny_pyIter_rangeiter st h
end L2
namespace L2
open PySem PySem.Spec PyProof.Rows
section
variable {X:Cx} {tg:Expr}
theorem Py {pins:List (Addr×Obj)} {σ:St} {H:Hp} {s:Shared} {R:It->Hp->Prop} {E:Value->Shared->Prop} {lo hi:Int} {t u v:Tok} {tk:Nat} (I:Inv X pins σ H s) (h1 : -(2 ^ 62)<=lo) (h2:lo < 2 ^ 62) (h3 : -(2 ^ 62)<=hi) (h4:hi < 2 ^ 62)
  (q:R (Itr lo (hi - lo).toNat) H):wpAny (model X.prog X.w) X.A (pyIter (.ref s.heap.objs.size)) (PIE X pins σ tg R) E { s with heap:=s.heap.push { cls:=.type "range", data:=.fields #[.int lo t,.int hi u,.int 1 v] },toks:=tk }:=by
 refine wpAny_pyIter_range (IsRange.new ..) (small_one h1 h2 h3 h4) ?_
 have I1:Inv X pins σ H { s with heap:=s.heap.push { cls:=.type "range", data:=.fields #[.int lo t,.int hi u,.int 1 v] },toks:=tk }:=I.kept fun b o e=>Heap.get?_push_of_some _ e
 refine⟨(s.heap.push { cls:=.type "range", data:=.fields #[.int lo t,.int hi u,.int 1 v] }).objs.size,[(s.heap.push { cls:=.type "range", data:=.fields #[.int lo t,.int hi u,.int 1 v] }).objs.size],_,_,H,rfl,
  I1.kept (t':=tk) fun b o e=>Heap.get?_push_of_some _ e,Jz _ lo (hi - lo).toNat,?_,fun b hb=>?_,q⟩
 ·have e1:lo+((0:Nat):Int) * 1=lo:=by simp
  have e2:(((hi - lo).toNat:Nat):Int) - ((0:Nat):Int)=Builtin.Range.rangeSize lo hi 1:=by rw[rangeSize_one];split<;>omega
  show IsRangeIter _ _ (lo+((0:Nat):Int) * 1) ((((hi - lo).toNat:Nat):Int) - ((0:Nat):Int)) 1
  rw[e1,e2]
  exact Heap.get?_push_size _ rfl
 ·have e:b=(s.heap.push { cls:=.type "range", data:=.fields #[.int lo t,.int hi u,.int 1 v] }).objs.size:=by simpa using hb
  subst e
  exact I1.Ni (Nat.le_refl _) (I1.hok.fresh (Nat.le_refl _))
def Zr (ta:TA):TI:=fun σ H R=>ta σ H fun vs H1=>∃ j:Int,vs=[.int j] ∧ -(2 ^ 62)<=j/\j < 2 ^ 62/\R (Itr 0 j.toNat) H1
theorem Nk {a:Expr} {ta:TA} {p pos:Pos} (hg:Gl X "range") (hm:X.mg "range" = none) (ha:PA X [a] ta) (hs:starEach [a] X.env=[(false,eval a X.env)]:=by rfl):PI X tg (.Call (.Name "range" p) [a] [] pos) (Zr ta):=by
 intro pins s σ H R I h
 refine Call_ (wR I hg hm boot_range (PyProof.Rows.callWith_type1 (jF (ha pos pins s σ H _ I h) fun us s1 ⟨vs,H1,I1,r1,q1⟩=>?_) hs rfl))
 obtain⟨j,e,q1,q2,q⟩:=q1
 subst e
 cases r1 with
 |cons r rr=>
  cases rr
  obtain⟨t,rfl⟩:=r
  exact call_range_1 (Py I1 (by omega) (by omega) q1 q2 (by simpa using q))
def abZ (wi:TI) (g:TG) (tb:TS):TS:=fun D σ H=>wi σ H fun J H1=>∃ W:Nat->Nat->St->Hp->Prop,(∃ m,W 0 m σ H1)/\∀ i m σ H,W i m σ H →
 (J.stop i H/\D.nx σ H)\/(J.go i H/\∃ N:St->Hp->Prop,(∀ σ' H',N σ' H'->∃ m',m' < m/\W (i+1) m' σ' H')/\∀ x H',J.Zq i H x H'->g x σ H' fun σ2 H2=>tb { D with nx:=N,ct:=N,bk:=D.nx } σ2 H2)
def wU (fp:List Addr) (h:Heap):List (Addr×Obj):=fp.filterMap fun b=>(h.get? b).map fun o=>(b,o)
theorem qx {fp:List Addr} {h:Heap} {b:Addr} {o:Obj} (hb:b∈fp) (e:h.get? b=some o):(b,o)∈wU fp h:=List.mem_filterMap.mpr ⟨b,hb,by rw[e];rfl⟩
theorem Np {fp:List Addr} {h:Heap} {p:Addr×Obj} (hp:p∈wU fp h):p.1∈fp/\h.get? p.1=some p.2:=by
 obtain⟨b,hb,e⟩:=List.mem_filterMap.mp hp
 cases q:h.get? b with
 |none=>rw[q] at e;cases e
 |some o=>
  rw[q] at e
  have e':(b,o)=p:=Option.some.inj e
  subst e'
  exact⟨hb,q⟩
theorem Inv.pinned {pins:List (Addr×Obj)} {σ:St} {H:Hp} {s:Shared} {fp:List Addr} (I:Inv X pins σ H s) (hf:∀ b∈fp,rG X pins H b) (ho:∀ b∈fp,∃ o,s.heap.get? b=some o/\∀ v,o.data≠.cell v):Inv X (pins++wU fp s.heap) σ H s:=
 I.Fj fun p hp=>(List.mem_append.mp hp).elim (fun z=>I.pin p (List.mem_append_right _ z)) fun z=>by
  obtain⟨hb,e⟩:=Np z
  obtain⟨f0,f1,f2,_⟩:=hf p.1 hb
  obtain⟨o,e',d⟩:=ho p.1 hb
  rw[e] at e';cases e'
  exact⟨e,f0,f1,f2,d⟩
theorem Inv.rJ {pins pl:List (Addr×Obj)} {σ:St} {H:Hp} {s:Shared} (I:Inv X (pins++pl) σ H s):Inv X pins σ H s:=I.Fj fun p hp=>I.pin p (List.mem_append_right _ (List.mem_append_left _ hp))
theorem Pz {iter:Expr} {body:List Stmt} {wi:TI} {g:TG} {tb:TS} {pos:Pos} (hp:PassesOwn (model X.prog X.w) X.A X.env X.xe) (hc:X.calm=true) (hi:PI X tg iter wi) (hg:PG X tg g) (hb:Jw X body tb)
  (hs:∀ x,foldedSetIterable iter X.env x=pure x:=by intro _;rfl):PS X (.For tg iter body [] pos) (abZ wi g tb):=by
 intro pins s σ H D I h
 refine wpAny_For (jF (hi pins s σ H _ I h) fun v s1 h1=>jF h1 fun itv s2 h2=>?_) hs
 obtain⟨it,fp,tn,J,H2,e,I2,T,st2,f2,W,⟨m0,w0⟩,turn⟩:=h2
 subst e
 have stat:∀ {H':Hp},(∀ b∈fp,H' b=none)->∀ b∈fp,rG X pins H' b:=fun hn b hb=>⟨hn b hb,(f2 b hb).2⟩
 refine codeAny_forLoop_any (fun n s'=>∃ i σ' H',Inv X pins σ' H' s'/\tn i s'.heap/\(∀ b∈fp,H' b=none)/\W i n σ' H') ?_ m0 ⟨0,σ,H2,I2,st2,fun b hb=>(f2 b hb).1,w0⟩
 rintro n s3 ⟨i,σ3,H3,I3,st3,fr3,w3⟩
 rcases turn i n σ3 H3 w3 with⟨stop,qn⟩|⟨go,N,hN,step⟩
 ·refine wpAny_passesOwn hp (jF (T.done X rfl rfl rfl hc i pins s3 σ3 H3 X.xe I3 (stat fr3) st3 stop) fun r s4 ⟨hr,I4⟩=>?_)
  subst hr
  exact wpAny_execs_nil ⟨σ3,H3,I4,qn⟩
 ·refine wpAny_passesOwn hp (jF (T.item X rfl rfl rfl hc i pins s3 σ3 H3 X.xe I3 (stat fr3) st3 go) fun r s4 ⟨u,hr,h4⟩=>?_)
  subst hr
  refine wpAny_passesOwn hp (jF h4 fun _ s5 ⟨x,H5,I5,r5,y5,st5,fr5⟩=>?_)
  have I5':=I5.pinned (stat fr5) (T.obj _ _ st5)
  refine wpAny_passesOwn hp (jF (hg _ s5 σ3 H5 x u _ I5' r5 (step x H5 y5)) fun _ s6 ⟨σ6,H6,I6,q6⟩=>?_)
  refine wpAny_passesOwn hp (jF (hb _ s6 σ6 H6 _ I6 q6) fun f s7 q7=>?_)
  have again:∀ {σ7:St} {H7:Hp},Inv X (pins++wU fp s5.heap) σ7 H7 s7->N σ7 H7->∃ m,m < n/\∃ i σ' H',Inv X pins σ' H' s7/\tn i s7.heap/\(∀ b∈fp,H' b=none)/\W i m σ' H':=fun {σ7 H7} I7 n7=>by
   obtain⟨m',hm,w7⟩:=hN σ7 H7 n7
   refine⟨m',hm,i+1,σ7,H7,I7.rJ,T.keep _ _ _ st5 fun b hb o e=>(I7.pin (b,o) (List.mem_append_right _ (List.mem_append_right _ (qx hb e)))).1,fun b hb=>?_,w7⟩
   obtain⟨o,e,d⟩:=T.obj _ _ st5 b hb
   exact (I7.pin (b,o) (List.mem_append_right _ (List.mem_append_right _ (qx hb e)))).2.1
  cases f with
  |next=>obtain⟨σ7,H7,I7,n7⟩:=q7;exact again I7 n7
  |cont=>obtain⟨σ7,H7,I7,n7⟩:=q7;exact again I7 n7
  |brk=>obtain⟨σ7,H7,I7,q7⟩:=q7;exact⟨σ7,H7,I7.rJ,q7⟩
  |ret v=>obtain⟨x7,σ7,H7,I7,r7,q7⟩:=q7;exact⟨x7,σ7,H7,I7.rJ,r7,q7⟩
end
end L2
namespace L2
open PySem PySem.Spec PyProof.Rows
abbrev R2:=V->V->Hp->VK->Prop
def rK (X:Cx) (f:Value->Value->Sem Value) (r:R2):Prop:=
 ∀ (pins:List (Addr×Obj)) (s:Shared) (σ:St) (H:Hp) (x y:V) (v u:Value) (Q:VK),Inv X pins σ H s->RelV x v->RelV y u->r x y H Q →
  wpAny (model X.prog X.w) X.A (f v u) (EP X pins σ Q) X.xe s
def UnR (X:Cx) (f:Value->Sem Value) (r:V->Hp->VK->Prop):Prop:=
 ∀ (pins:List (Addr×Obj)) (s:Shared) (σ:St) (H:Hp) (x:V) (v:Value) (Q:VK),Inv X pins σ H s->RelV x v->r x H Q →
  wpAny (model X.prog X.w) X.A (f v) (EP X pins σ Q) X.xe s
def gP (X:Cx) (f:Value) (r:List V->Hp->VK->Prop):Prop:=
 ∀ (pins:List (Addr×Obj)) (s:Shared) (σ:St) (H:Hp) (xs:List V) (us:List Value) (Q:VK),Inv X pins σ H s->Vals xs us->r xs H Q →
  wpAny (model X.prog X.w) X.A (call f us) (EP X pins σ Q) X.xe s
def ab2 (X:Cx) (r:V->Hp->(Bool->Hp->Prop)->Prop):Prop:=
 ∀ (pins:List (Addr×Obj)) (s:Shared) (σ:St) (H:Hp) (x:V) (v:Value) (Q:Bool->Hp->Prop),Inv X pins σ H s->RelV x v->r x H Q →
  wpAny (model X.prog X.w) X.A (truthy v) (TP X pins σ Q) X.xe s
def Zt (r:R2) (ta tb:TE):TE:=fun σ H Q=>ta σ H fun x H1=>tb σ H1 fun y H2=>r x y H2 Q
def rI (C:Int->Int->Prop) (g:Int->Int->V):R2:=fun x y H Q=>∃ i j,x=.int i/\y=.int j/\C i j/\Q (g i j) H
def V6 (g:Int->Int->V):R2:=fun x y H Q=>∃ i j,x=.int i/\y=.int j/\Q (g i j) H
section
variable {X:Cx} {a b c:Expr} {ta tb tc:TE} {pos:Pos}
theorem Xd (ha:PE X a ta) (hb:PE X b tb) {pins:List (Addr×Obj)} {s:Shared} {σ:St} {H:Hp} {R:V->V->Hp->Prop} (I:Inv X pins σ H s)
  (h:ta σ H fun x H1=>tb σ H1 fun y H2=>R x y H2) {Q:Value->Shared->Prop} {f:Value->Value->Sem Value}
  (hf:∀ v u s2 x y H2,Inv X pins σ H2 s2->RelV x v->RelV y u->R x y H2->wpAny (model X.prog X.w) X.A (f v u) Q X.xe s2) :
  wpAny (model X.prog X.w) X.A (eval a X.env) (fun v s₁=>wpAny (model X.prog X.w) X.A (eval b X.env) (fun u s₂=>wpAny (model X.prog X.w) X.A (f v u) Q X.xe s₂) X.xe s₁) X.xe s:=by
 refine jF (ha pins s σ H _ I h) fun v s1 ⟨x,H1,I1,r1,q1⟩=>?_
 refine jF (hb pins s1 σ H1 _ I1 q1) fun u s2 ⟨y,H2,I2,r2,q2⟩=>?_
 exact hf v u s2 x y H2 I2 r1 r2 q2
theorem Zu {op:Operator} {r:R2} (ho:rK X (binaryOp op) r) (ha:PE X a ta) (hb:PE X b tb):PE X (.BinOp a op b pos) (Zt r ta tb):=by
 intro pins s σ H Q I h
 exact wpAny_BinOp (Xd ha hb I h fun v u s2 x y H2 I2 rx ry q=>ho pins s2 σ H2 x y v u Q I2 rx ry q)
theorem opI {f:Value->Value->Sem Value} {C:Int->Int->Prop} {g:Int->Int->Int}
  (rule:∀ (i j:Int) (t u:Tok) (s:Shared) (Q:Value->Shared->Prop) (E:Value->Shared->Prop),C i j->Q (.int (g i j) s.toks) { s with toks:=s.toks+1 }->wpAny (model X.prog X.w) X.A (f (.int i t) (.int j u)) Q E s) :
  rK X f (rI C fun i j=>.int (g i j)):=by
 intro pins s σ H x y v u Q I rx ry h
 obtain⟨i,j,rfl,rfl,hc,q⟩:=h
 obtain⟨t,rfl⟩:=rx
 obtain⟨t',rfl⟩:=ry
 exact rule i j t t' s _ _ hc ⟨.int (g i j),H,I.tok _,⟨_,rfl⟩,q⟩
theorem Zv {f:Value->Value->Sem Value} {g:Int->Int->Int}
  (rule:∀ (i j:Int) (t u:Tok) (s:Shared) (Q:Value->Shared->Prop) (E:Value->Shared->Prop),Q (.int (g i j) s.toks) { s with toks:=s.toks+1 }->wpAny (model X.prog X.w) X.A (f (.int i t) (.int j u)) Q E s) :
  rK X f (V6 fun i j=>.int (g i j)):=by
 intro pins s σ H x y v u Q I rx ry h
 obtain⟨i,j,rfl,rfl,q⟩:=h
 obtain⟨t,rfl⟩:=rx
 obtain⟨t',rfl⟩:=ry
 exact rule i j t t' s _ _ ⟨.int (g i j),H,I.tok _,⟨_,rfl⟩,q⟩
theorem T3 {f:Value->Value->Sem Value} {g:Int->Int->Bool}
  (rule:∀ (i j:Int) (t u:Tok) (s:Shared) (Q:Value->Shared->Prop) (E:Value->Shared->Prop),Q (.bool (g i j)) s->wpAny (model X.prog X.w) X.A (f (.int i t) (.int j u)) Q E s) :
  rK X f (V6 fun i j=>.bl (g i j)):=by
 intro pins s σ H x y v u Q I rx ry h
 obtain⟨i,j,rfl,rfl,q⟩:=h
 obtain⟨t,rfl⟩:=rx
 obtain⟨t',rfl⟩:=ry
 exact rule i j t t' s _ _ ⟨.bl (g i j),H,I,rfl,q⟩
def ab3 (i j:Int):Prop:=0 < j/\j < 1073741824
def ab4 (i j:Int):Prop:=0<=j/\j<=1000000/\i.natAbs < 2 ^ 64
def Xe (i j:Int):Prop:=(-(2 ^ 64) < i/\i < 2 ^ 64)\/(-(2 ^ 64) < j/\j < 2 ^ 64)
theorem Xe.ok {i j:Int} (h:Xe i j):IntMulOk i j:=by
 rcases h with⟨h1,h2⟩|⟨h1,h2⟩
 ·exact .of_left (intBits_le_64 h1 h2)
 ·exact .of_right (intBits_le_64 h1 h2)
theorem Xf:rK X (binaryOp .Add) (V6 fun i j=>.int (i+j)):=Zv fun _ _ _ _ _ _ _ q=>add_int q
theorem Xg:rK X (binaryOp .Sub) (V6 fun i j=>.int (i - j)):=Zv fun _ _ _ _ _ _ _ q=>sub_int q
theorem Xh:rK X (binaryOp .Mult) (rI Xe fun i j=>.int (i * j)):=opI fun _ _ _ _ _ _ _ hc q=>mul_int q hc.ok
theorem T4:rK X (binaryOp .FloorDiv) (rI ab3 fun i j=>.int (i / j)):=opI fun i j _ _ _ _ _ hc q=>by
 have h1:(0:Int) < j:=hc.1
 have h2:j < 1073741824:=hc.2
 exact floordiv_int (by omega) (by rw[Int.fdiv_eq_ediv_of_nonneg i (by omega)];exact q) (.inl (PyProof.noPylong_small (by omega)))
theorem Xi:rK X (binaryOp .Mod) (rI (fun _ j=>0 < j) fun i j=>.int (i % j)):=opI fun i j _ _ _ _ _ hc q=>by
 have h1:(0:Int) < j:=hc
 exact mod_int' (by omega) (by rw[Int.fmod_eq_emod_of_nonneg i (by omega)];exact q)
theorem Xj:rK X (binaryOp .Pow) (rI ab4 fun i j=>.int (i ^ j.toNat)):=opI fun _ _ _ _ _ _ _ hc q=>pow_int_small hc.1 hc.2.1 hc.2.2 q
end
section
variable {X:Cx} {a b c:Expr} {ta tb tc:TE} {pos:Pos}
theorem PJ {pins:List (Addr×Obj)} {σ:St} {H:Hp} {s:Shared} {Q:VK} {k k':Bool} (I:Inv X pins σ H s) (q:Q (.bl k) H) (e:k=k'):EP X pins σ Q (.bool k') s:=by
 subst e
 exact⟨.bl k,H,I,rfl,q⟩
theorem Zw:rK X (compareOp .Lt) (V6 fun i j=>.bl (decide (i < j))):=T3 fun _ _ _ _ _ _ _ q=>lt_int q
theorem Zx:rK X (compareOp .LtE) (V6 fun i j=>.bl (decide (i<=j))):=T3 fun _ _ _ _ _ _ _ q=>le_int q
theorem Zy:rK X (compareOp .Gt) (V6 fun i j=>.bl (decide (j < i))):=T3 fun _ _ _ _ _ _ _ q=>gt_int q
theorem Zz:rK X (compareOp .GtE) (V6 fun i j=>.bl (decide (j<=i))):=T3 fun _ _ _ _ _ _ _ q=>ge_int q
theorem Nq:rK X (compareOp .In) (fun x y H Q=>∃ i j,x=.str i/\y=.str j/\Q (.bl (!(Builtin.Str.occurrences j i 0 j.length 1).isEmpty)) H):=by
 intro pins s σ H x y v u Q I rx ry h
 obtain⟨i,j,rfl,rfl,q⟩:=h
 obtain⟨t,rfl⟩:=rx
 obtain⟨t',rfl⟩:=ry
 exact in_str (PJ I q rfl)
theorem Xk:rK X (compareOp .Is) (fun x y H Q=>y=.non/\Q (.bl (decide (x=.non))) H):=by
 intro pins s σ H x y v u Q I rx ry h
 obtain⟨rfl,q⟩:=h
 cases ry
 refine is_none_gen (PJ I q ?_)
 cases x<;>first
  |(cases rx;rfl)
  |(obtain⟨t,rfl⟩:=rx;rfl)
theorem rK.or {f:Value->Value->Sem Value} {r r':R2} (h:rK X f r) (h':rK X f r'):rK X f (fun x y H Q=>r x y H Q\/r' x y H Q):=by
 intro pins s σ H x y v u Q I rx ry q
 rcases q with q|q
 ·exact h pins s σ H x y v u Q I rx ry q
 ·exact h' pins s σ H x y v u Q I rx ry q
theorem gD (b:Expr) {op:CmpOp} (h:op≠.In:=by decide) (h2:op≠.NotIn:=by decide):behindInMarks op b=false:=by
 have e1:(op==CmpOp.In)=false:=by cases op<;>first|rfl|exact absurd rfl h
 have e2:(op==CmpOp.NotIn)=false:=by cases op<;>first|rfl|exact absurd rfl h2
 cases b<;>simp[behindInMarks,e1,e2]
theorem T5 {op:CmpOp} {r:R2} (ho:rK X (compareOp op) r) (ha:PE X a ta) (hb:PE X b tb) (hm:behindInMarks op b=false):PE X (.Compare a [op] [b] pos) (Zt r ta tb):=by
 intro pins s σ H Q I h
 exact wpAny_Compare1 (Xd ha hb I h fun v u s2 x y H2 I2 rx ry q=>ho pins s2 σ H2 x y v u Q I2 rx ry q) hm
def ZC (t:TE):TT:=fun σ H Q=>t σ H fun x H'=>∃ k,x=.bl k/\Q k H'
theorem Lf {op:CmpOp} {r:R2} (ho:rK X (compareOp op) r) (ha:PE X a ta) (hb:PE X b tb) (hm:behindInMarks op b=false):PT X (.Compare a [op] [b] pos) (ZC (Zt r ta tb)):=by
 intro pins s σ H Q I h
 refine wpAny_isTrue_Compare1 (jF (ha pins s σ H _ I h) fun v s1 ⟨x,H1,I1,r1,q1⟩=>jF (hb pins s1 σ H1 _ I1 q1) fun u s2 ⟨y,H2,I2,r2,q2⟩=>
  jF (ho pins s2 σ H2 x y v u _ I2 r1 r2 q2) fun c s3 ⟨z,H3,I3,r3,k,e,q3⟩=>?_) hm
 subst e
 cases r3
 exact wpAny_truthy_bool ⟨H3,I3,q3⟩
def PK (r r':R2) (ta tb tc:TE):TE:=fun σ H Q=>ta σ H fun x H1=>tb σ H1 fun y H2=>r x y H2 fun z H3=>∃ k,z=.bl k ∧
 (if k=true then tc σ H3 fun w' H4=>r' y w' H4 Q else Q (.bl false) H3)
theorem PL {op op':CmpOp} {r r':R2} (ho:rK X (compareOp op) r) (ho':rK X (compareOp op') r') (ha:PE X a ta) (hb:PE X b tb) (hc:PE X c tc)
  (hm:lastMarks [op,op'] [b,c]=false:=by with_unfolding_all rfl):PE X (.Compare a [op,op'] [b,c] pos) (PK r r' ta tb tc):=by
 intro pins s σ H Q I h
 refine Compare_chain (jF (ha pins s σ H _ I h) fun v s1 ⟨x,H1,I1,r1,q1⟩=>chain_link (jF (hb pins s1 σ H1 _ I1 q1) fun u s2 ⟨y,H2,I2,r2,q2⟩=>
  jF (ho pins s2 σ H2 x y v u _ I2 r1 r2 q2) fun d s3 ⟨z,H3,I3,r3,k,e,q3⟩=>?_)) hm
 subst e
 cases r3
 refine wpAny_truthy_bool ?_
 cases k with
 |false=>exact ite_ff ⟨.bl false,H3,I3,rfl,q3⟩
 |true=>exact ite_tt (chain_last (jF (hc pins s3 σ H3 _ I3 q3) fun w' s4 ⟨z',H4,I4,r4,q4⟩=>ho' pins s4 σ H4 y z' u w' Q I4 r2 r4 q4))
def Xl (K:PySem.W.Frag) (x:V) (H:Hp) (k:Bool):Prop:=
 match x with
 |.non=>k=false
 |.bl b=>k=b
 |.int i=>k=(i != 0)
 |.str y=>y.length<=sizeLine/\k=((y.length:Int) != 0)
 |.Ze y=>y.size<=sizeLine/\k=((y.size:Int) != 0)
 |.ref p=>(∃ xs,qw K H p xs/\k=!xs.isEmpty)\/(∃ xs,vH K H p xs/\k=!xs.isEmpty)\/∃ kvs,H p=some (.dK kvs)/\k=!kvs.isEmpty
 |_=>False
theorem JB {κ:Type} {kvs:List (κ×V)} {vs:List (κ×Value)} (r:KV kvs vs):(!vs.isEmpty)=!kvs.isEmpty:=by
 cases r<;>rfl
theorem z7 {xs:List V} {its:List Value} (r:Vals xs its):(!its.toArray.isEmpty)=!xs.isEmpty:=by
 cases r<;>simp
theorem wV:(sizeLine:Nat) < 2 ^ 63:=by rw[sizeLine_eq];decide
theorem Xm:ab2 X (fun x H Q=>∃ k,Xl X.K x H k/\Q k H):=by
 intro pins s σ H x v Q I rx h
 obtain⟨k,e,q⟩:=h
 have hl:=wV
 have hs:sizeLine=16777216:=sizeLine_eq
 cases x with
 |non=>
  cases rx
  have e':k=false:=e
  subst e'
  exact truthy_none ⟨H,I,q⟩
 |bl b=>
  cases rx
  have e':k=b:=e
  subst e'
  exact wpAny_truthy_bool ⟨H,I,q⟩
 |int i=>
  obtain⟨t,rfl⟩:=rx
  have e':k=(i != 0):=e
  subst e'
  exact PySem.P.truthy_int ⟨H,I,q⟩
 |str y=>
  obtain⟨t,rfl⟩:=rx
  obtain⟨hy,e'⟩:y.length<=sizeLine/\k=((y.length:Int) != 0):=e
  subst e'
  exact PySem.P.truthy_str (by omega) ⟨H,I.tok _,q⟩
 |Ze y=>
  obtain⟨t,rfl⟩:=rx
  obtain⟨hy,e'⟩:y.size<=sizeLine/\k=((y.size:Int) != 0):=e
  subst e'
  exact PySem.W.truthy_bytes (by omega) ⟨H,I.tok _,q⟩
 |ref p=>
  cases rx
  have e':(∃ xs,qw X.K H p xs/\k=!xs.isEmpty)\/(∃ xs,vH X.K H p xs/\k=!xs.isEmpty)\/∃ kvs,H p=some (.dK kvs)/\k=!kvs.isEmpty:=e
  rcases e' with⟨xs,hx,e'⟩|⟨xs,hx,e'⟩|⟨kvs,hx,e'⟩
  ·subst e'
   obtain⟨its,r,pl,hz⟩:=I.list hx
   have hlen:=r.length
   exact wpAny_truthy_list pl.isList (by simp only[List.size_toArray];omega) ⟨H,I.tok _,by rw[z7 r];exact q⟩
  ·subst e'
   obtain⟨its,r,pl,hz⟩:=I.tuple hx
   have hlen:=r.length
   exact truthy_tuple pl (by simp only[List.size_toArray];omega) ⟨H,I.tok _,by rw[z7 r];exact q⟩
  ·subst e'
   obtain⟨hz,hS,vs,r,m⟩:kvs.length<=sizeLine/\(p==sysModules)=false/\∃ vs,KV kvs vs/\s.heap.DictOf (bT X.prog X.w) p vs:=I.hok p _ hx
   have hlen:kvs.length=vs.length:=Paired.length r
   exact wpAny_truthy_dict hS m (by omega) ⟨H,I.tok _,by rw[JB r];exact q⟩
 |_=>exact (show False from e).elim
theorem PN (ha:PE X a ta) (he:∀ whole,isTrue a X.env whole=(do let v <-whole;standAt a.pos;holding [v] (truthy v))) :
  PT X a (fun σ H Q=>ta σ H fun x H'=>∃ k,Xl X.K x H' k/\Q k H'):=by
 intro pins s σ H Q I h
 exact isTrue_plain (jF (ha pins s σ H _ I h) fun v s1 ⟨x,H1,I1,r1,q1⟩=>Xm pins s1 σ H1 x v Q I1 r1 q1) (he _)
theorem JC:rK X (binaryOp .Add) (fun x y H Q=>∃ i j,x=.str i/\y=.str j/\i.length+j.length<=sizeLine/\Q (.str (i++j)) H):=by
 intro pins s σ H x y v u Q I rx ry h
 obtain⟨i,j,rfl,rfl,hz,q⟩:=h
 obtain⟨t,rfl⟩:=rx
 obtain⟨t',rfl⟩:=ry
 exact add_str (fun t' tk=>⟨.str (i++j),H,I.tok _,⟨_,rfl⟩,q⟩) hz
theorem vals1 {x:V} {us:List Value} (r:Vals [x] us):∃ u,us=[u]/\RelV x u:=by
 cases r with
 |cons r1 r2=>cases r2;exact⟨_,rfl,r1⟩
theorem vals2 {x y:V} {us:List Value} (r:Vals [x,y] us):∃ u w',us=[u,w']/\RelV x u/\RelV y w':=by
 cases r with
 |cons r1 r2=>
  cases r2 with
  |cons r3 r4=>cases r4;exact⟨_,_,rfl,r1,r3⟩
theorem PX:gP X (.builtin "abs") (fun xs H Q=>∃ i,xs=[.int i]/\Q (.int (if i < 0 then -i else i)) H):=by
 intro pins s σ H xs us Q I r h
 obtain⟨i,rfl,q⟩:=h
 obtain⟨u,rfl,t,rfl⟩:=vals1 r
 exact call_abs_int fun u tk=>⟨.int (if i < 0 then -i else i),H,I.tok _,⟨_,rfl⟩,q⟩
theorem Nr:gP X (.type "int") (fun xs H Q=>(∃ i,xs=[.int i]/\Q (.int i) H)\/∃ k,xs=[.bl k]/\Q (.int (if k then 1 else 0)) H):=by
 intro pins s σ H xs us Q I r h
 rcases h with⟨i,rfl,q⟩|⟨k,rfl,q⟩
 ·obtain⟨u,rfl,t,rfl⟩:=vals1 r
  exact call_int_int ⟨.int i,H,I,⟨_,rfl⟩,q⟩
 ·obtain⟨u,rfl,r1⟩:=vals1 r
  cases r1
  exact call_int_bool ⟨.int (if k then 1 else 0),H,I.tok _,⟨_,rfl⟩,q⟩
end
end L2
namespace L2
open PySem PySem.Spec PyProof.Rows
structure ZD (h:Heap) (x dx C:Addr) (mA:Str->Option Value):Prop where
 obj:h.get? x=some (PySem.W.instObj C dx)
 ns:h.Ns1 dx mA
 ne:dx≠x
theorem Nt {h:Heap} {dx:Addr} {mA:Str->Option Value} (n:h.Ns1 dx mA):∃ od,h.get? dx=some od/\∀ name,PySem.W.lookIn name od=some (mA name):=by
 obtain⟨o,es,ep,ho,hd,hk,_,hm⟩:=n
 refine⟨o,ho,fun name=>?_⟩
 have e:=hm name
 unfold nsFind findBy at e
 rw[<-Array.find?_toList] at e
 unfold PySem.W.lookIn
 rw[hd]
 dsimp only
 split
 ·rename_i y q
  rw[q] at e
  exact congrArg some e
 ·rename_i q
  rw[q] at e
  have a:es.toList.any (·.refKey)=false:=by
   rw[List.any_eq_false]
   intro y hy
   obtain⟨z,t,hkey⟩:=hk y (Array.mem_toList_iff.mp hy)
   simp[DictEntry.refKey,hkey]
  have a':¬ es.toList.any (·.refKey)=true:=by rw[a];exact Bool.false_ne_true
  rw[if_neg a']
  exact congrArg some e
theorem ZD.look {h:Heap} {x dx C:Addr} {mA:Str->Option Value} (I:ZD h x dx C mA):∃ od,PySem.W.InstAt h x (PySem.W.instObj C dx) C (some od)/\∀ name,PySem.W.lookIn name od=some (mA name):=
 let ⟨od,ho,hl⟩:=Nt I.ns
 ⟨od,⟨I.obj,rfl,rfl,ho⟩,hl⟩
section
variable {prog:Program} {w:World} {A:Around} {E:Value->Shared->Prop} {s:Shared} {K:PySem.W.Frag} {x dx C f:Addr} {mA:Str->Option Value} {name:Str} {v:Value}
end
theorem yS.some_of {v:V} {o:Option Value} (r:yS (some v) o):∃ u,o=some u/\RelV v u:=by
 cases o with
 |none=>exact (show False from r).elim
 |some u=>exact⟨u,rfl,r⟩
section
variable {P:Program} {w:World} {H H':Hp} {h h':Heap} {a C dx:Addr} {fs fs':List (Str×V)}
end
structure Cls (K:PySem.W.Frag) (C:Addr):Prop where
 pg:PySem.W.plainGet K C Str.empty=true
 hd:PySem.W.hasDictIn K C=true
 po:PySem.W.plainOver K C=true
 sa:PySem.W.findIn K (.ref C) "__setattr__" = some (some (.builtin "object.__setattr__"))
theorem Cls.get {K:PySem.W.Frag} {C:Addr} (c:Cls K C) (f:Str):PySem.W.plainGet K C f=true:=c.pg
section
variable {X:Cx} {pins:List (Addr×Obj)} {σ:St} {H:Hp} {s:Shared} {a C dx:Addr} {fs:List (Str×V)} {f:Str} {v:V} {A:Around} {E:Value->Shared->Prop}
end
section
variable {X:Cx} {o e value:Expr} {f:Str} {pos pos' tpos:Pos} {ta tv:TE}
end
section
variable {X:Cx} {pins:List (Addr×Obj)} {σ:St} {H:Hp} {s:Shared} {A:Around} {E:Value->Shared->Prop} {Q:Value->Shared->Prop} {c:Value} {b:Bool}
end
end L2
namespace L2
open PySem PySem.Spec PyProof.Rows
structure lV (k:Nat) (A:Around):Prop where
 hd:A.handled=none
 dp:A.depth+3 * k+5 < recursionLimit
 un:A.units+16 * k+200 < cLine
theorem lV.mono {j k:Nat} {A:Around} (r:lV k A) (h:j<=k):lV j A:=⟨r.hd,by have:=r.dp;omega,by have:=r.un;omega⟩
theorem lV.deeper {k:Nat} {A:Around} (r:lV (k+1) A) (env:Env):lV k (A.deeper env):=
 ⟨r.hd,by have:=r.dp;show A.depth+1+3 * k+5 < _;omega,by have:=r.un;show A.units+3+16 * k+200 < _;omega⟩
theorem lV.in1 {k:Nat} {A:Around} (r:lV (k+1) A):lV k A.in1:=
 ⟨r.hd,by have:=r.dp;show A.depth+3 * k+5 < _;omega,by have:=r.un;show A.units+1+16 * k+200 < _;omega⟩
theorem lV.depth {k:Nat} {A:Around} (r:lV k A):A.depth < recursionLimit:=by have:=r.dp;omega
theorem lV.units {k:Nat} {A:Around} (r:lV k A):A.units+64 < cLine:=by have:=r.un;omega
def T6:TA:=fun _ H Q=>Q [] H
def G9 (ta:TE) (tr:TA):TA:=fun σ H Q=>ta σ H fun x H1=>tr σ H1 fun xs H2=>Q (x::xs) H2
section
variable {X:Cx} {e:Expr} {es:List Expr} {te:TE} {t:TA} {pos:Pos}
theorem wW:PA X [] T6:=fun _ _ _ _ H Q I h=>Calls.spliced_nil ⟨[],H,I,.nil,h⟩
theorem nZ (ha:PE X e te) (hr:PA X es t) (hs:starEach (e::es) X.env=(false,eval e X.env)::starEach es X.env:=by rfl):PA X (e::es) (G9 te t):=by
 intro pos pins s σ H Q I h
 rw[hs]
 show wpAny _ _ (spliced ((false,eval e X.env)::backTo pos (starEach es X.env))) _ _ s
 refine Calls.spliced_cons (jF (ha pins s σ H _ I h) fun u s1 ⟨x,H1,I1,r1,q1⟩=>?_)
 exact jF (hr pos pins s1 σ H1 _ I1 q1) fun us s2 ⟨xs,H2,I2,r2,q2⟩=>⟨x::xs,H2,I2,.cons r1 r2,q2⟩
def ab5 (t:TA):TE:=fun σ H Q=>t σ H fun xs H1=>xs.length<=sizeLine/\∀ p,H1 p=none->Q (.ref p) (upd H1 p (.tup xs))
def ab6 (t:TA):TE:=fun σ H Q=>t σ H fun xs H1=>xs.length<=sizeLine/\∀ p,H1 p=none->Q (.ref p) (upd H1 p (.lst xs))
theorem Xn {x1} (h:PA X es t):PE X (.Tuple es x1 pos) (ab5 t):=by
 intro pins s σ H Q I hq
 refine wpAny_Tuple_spliced (jF (h pos pins s σ H _ I hq) fun us s1 ⟨xs,H1,I1,r,z,q⟩=>⟨by rw[<-r.length];exact z,?_⟩)
 have hf:H1 s1.heap.objs.size=none:=I1.hok.fresh (Nat.le_refl _)
 refine⟨.ref s1.heap.objs.size,upd H1 s1.heap.objs.size (.tup xs),I1.laid (t':=s1.toks) (fun b u e=>Heap.get?_push_of_some _ e) (Nat.le_refl _) ?_,rfl,q _ hf⟩
 exact⟨z,us,r,⟨_,Heap.get?_push_size _ rfl,rfl,⟨_,rfl⟩,rfl⟩⟩
theorem Xo (h:PA X es t):PE X (.List es pos) (ab6 t):=by
 intro pins s σ H Q I hq
 refine wpAny_List_spliced (jF (h pos pins s σ H _ I hq) fun us s1 ⟨xs,H1,I1,r,z,q⟩=>⟨by rw[<-r.length];exact z,?_⟩)
 have hf:H1 s1.heap.objs.size=none:=I1.hok.fresh (Nat.le_refl _)
 refine⟨.ref s1.heap.objs.size,upd H1 s1.heap.objs.size (.lst xs),I1.laid (t':=s1.toks) (fun b u e=>Heap.get?_push_of_some _ e) (Nat.le_refl _) ?_,rfl,q _ hf⟩
 exact⟨z,us,0,r,Heap.get?_push_size _ rfl⟩
end
abbrev Sp:=List V->Hp->VK->XK->Prop
abbrev Lg:=List Env->Hp->Shared->XK->Value->Shared->Prop
structure JD (P:Program) (w:World) (K:PySem.W.Frag) (mg:Str->Option Value) (base:Heap) (A:Around) (outer:List Env) (s:Shared) (H:Hp):Prop where
 frames:A.frames=some outer
 mod:Mod K mg base
 bs:∀ b o,base.get? b=some o->s.heap.get? b=some o/\H b=none
 Tr:base.objs.size<=s.heap.objs.size
 yU:s.heap.FunFrames base outer
 W2:∀ b∈frs outer,H b=none
 hok:vC P w H s.heap
 bare:AllBare s.gens
def CE (outer:List Env) (P:Program) (w:World) (H:Hp) (s:Shared) (Q:VK) (u:Value) (s':Shared):Prop:=
 ∃ v H',s'.os=s.os/\AllBare s'.gens/\Un (frs outer) [] H H' s.heap s'.heap/\vC P w H' s'.heap/\RelV v u/\Q v H'
def CR (CX:Lg) (outer:List Env) (P:Program) (w:World) (H:Hp) (s:Shared) (Q:VK) (E:XK) (r:Result) (s':Shared):Prop:=
 match r with
 |.ok (.ret u)=>CE outer P w H s Q u s'
 |.ok _=>False
 |.error e=>CX outer H s E e s'
structure bF (P:Program) (w:World) (K:PySem.W.Frag) (mg:Str->Option Value) (base:Heap) (CX:Lg) (k:Nat) (f:Addr) (fd:FuncData) (ps:List Str) (sp:Sp):Prop where
 len:∀ vs H Q E,sp vs H Q E->vs.length=ps.length
 run:∀ (A:Around) (outer:List Env) (s:Shared) (H:Hp) (args:Args) (us:List Value) (vs:List V) (Q:VK) (E:XK),lV k A->JD P w K mg base A outer s H->BindsTo s fd args (ps.zip us)->Vals vs us->sp vs H Q E →
  codeAny (model P w) A (.call (.ref f) args) (CR CX outer P w H s Q E) s
theorem bF.mono {P:Program} {w:World} {K:PySem.W.Frag} {mg:Str->Option Value} {base:Heap} {CX:Lg} {j k:Nat} {f:Addr} {fd:FuncData} {ps:List Str} {sp:Sp} (F:bF P w K mg base CX j f fd ps sp) (h:j<=k) :
  bF P w K mg base CX k f fd ps sp:=⟨F.len,fun A outer s H args us vs Q E hr=>F.run A outer s H args us vs Q E (hr.mono h)⟩
theorem bF.imp {P:Program} {w:World} {K:PySem.W.Frag} {mg:Str->Option Value} {base:Heap} {CX:Lg} {k:Nat} {f:Addr} {fd:FuncData} {ps:List Str} {sp sp':Sp} (F:bF P w K mg base CX k f fd ps sp)
  (h:∀ vs H Q E,sp' vs H Q E->sp vs H Q E):bF P w K mg base CX k f fd ps sp':=
 ⟨fun vs H Q E q=>F.len vs H Q E (h _ _ _ _ q),fun A outer s H args us vs Q E hr he hb hv hs=>F.run A outer s H args us vs Q E hr he hb hv (h _ _ _ _ hs)⟩
theorem JD.in1 {P:Program} {w:World} {K:PySem.W.Frag} {mg:Str->Option Value} {base:Heap} {A:Around} {outer:List Env} {s:Shared} {H:Hp} (e:JD P w K mg base A outer s H) :
  JD P w K mg base A.in1 outer s H:=⟨e.frames,e.mod,e.bs,e.Tr,e.yU,e.W2,e.hok,e.bare⟩
section
variable {X:Cx} {pins:List (Addr×Obj)} {σ:St} {H:Hp} {s s':Shared}
theorem Inv.env0 (I:Inv X pins σ H s):JD X.prog X.w X.K X.mg X.base X.A X.stack s H:=
 ⟨I.ok.frames,I.ok.mod,I.bs,Nat.le_trans I.ok.Tr I.sz,I.stack,I.K7,I.hok,I.bare⟩
theorem Inv.after {Q:VK} {u:Value} (I:Inv X pins σ H s) (h:CE X.stack X.prog X.w H s Q u s'):EP X pins σ Q u s':=by
 obtain⟨v,H',os,bare,un,hok,r,q⟩:=h
 obtain⟨hh,g,d,t,os'⟩:=s'
 obtain rfl:os'=s.os:=os
 exact⟨v,H',I.call (h':=hh) (g':=g) (d':=d) (t':=t) (ch:=[]) un hok bare (fun b z=>absurd z (by simp)),r,q⟩
end
def ZF (sp:Sp) (V7:List V) (E:XK) (t:TA):TE:=fun σ H Q=>t σ H fun vs H1=>sp (vs++V7) H1 Q E
def Binds (K:PySem.W.Frag) (fd:FuncData) (ps:List Str) (ds:List Value):Prop:=
 ∀ (s:Shared) (us:List Value),K.In s.heap->(us++ds).length=ps.length->BindsTo s fd ⟨us,[]⟩ (ps.zip (us++ds))
theorem Binds.all {K:PySem.W.Frag} {fd:FuncData} {ps:List Str} (h:∀ us:List Value,us.length=ps.length->bindArgs fd ⟨us,[]⟩=pure (ps.zip us)):Binds K fd ps []:=fun s us _ hl=>by
 rw[List.append_nil] at hl ⊢
 exact .of_eq (h us hl)
def Passes (CX:Lg) (X:Cx) (E:XK):Prop:=∀ (pins:List (Addr×Obj)) (σ:St) (H:Hp) (s:Shared) (e:Value) (s':Shared),Inv X pins σ H s->CX X.stack H s E e s'->X.xe e s'
section
variable {X:Cx} {CX:Lg} {k:Nat} {f C:Addr} {fd:FuncData} {ps:List Str} {sp:Sp} {V7:List V} {ds:List Value} {E:XK} {x m:Str} {p pos apos:Pos} {e o:Expr} {es:List Expr} {ta:TE} {t:TA}
theorem Xp {pins:List (Addr×Obj)} {σ:St} {H:Hp} {s:Shared} {Q:VK} {us:List Value} {vs:List V} (F:bF X.prog X.w X.K X.mg X.base CX k f fd ps sp) (hr:lV k X.A) (hb:Binds X.K fd ps ds) (hd:Vals V7 ds) (hx:Passes CX X E)
  (I:Inv X pins σ H s) (r:Vals vs us) (h:sp (vs++V7) H Q E):wpAny (model X.prog X.w) X.A (call (.ref f) us) (EP X pins σ Q) X.xe s:=by
 have r2:Vals (vs++V7) (us++ds):=r.append hd
 have hl:(us++ds).length=ps.length:=by rw[<-r2.length];exact F.len _ _ _ _ h
 refine wpAny_call (codeAny_mono (F.run X.A X.stack s H ⟨us,[]⟩ (us++ds) (vs++V7) Q E hr I.env0 (hb s us I.Y6 hl) r2 h) fun r s' hq=>?_)
 cases r with
 |error e=>exact hx pins σ H s e s' I hq
 |ok fl=>
  cases fl with
  |ret u=>exact I.after hq
  |next=>exact False.elim hq
  |brk=>exact False.elim hq
  |cont=>exact False.elim hq
theorem T7 (F:bF X.prog X.w X.K X.mg X.base CX k f fd ps sp) (hr:lV k X.A) (hg:Gl X x) (hm:X.mg x=some (.ref f)) (hk:PySem.W.keepIn X.K (.ref f)=true) (hb:Binds X.K fd ps ds) (hd:Vals V7 ds) (hx:Passes CX X E)
  (ha:PA X (e::es) t) (hdb:(x==("__debug__" : Str))=false:=by decide) (he:starEach (e::es) X.env=(false,eval e X.env)::starEach es X.env:=by rfl) (hpl:(backTo pos (starEach es X.env)).any (·.1)=false:=by rfl) :
  PE X (.Call (.Name x p) (e::es) [] pos) (ZF sp V7 E t):=by
 intro pins s σ H Q I h
 refine wpAny_Call_Name_kw (K8 I hg hm ?_ hdb)
 refine PySem.W.callWith_K (h₀:=X.base) I.ok.mod.kin hk (jF (ha pos pins s σ H _ I h) fun us s1 ⟨vs,H1,I1,r,q⟩=>⟨I1.Y6,?_⟩) he hpl
 exact Xp F hr hb hd hx I1 r q
end
section
variable {X:Cx} {CX:Lg} {k:Nat} {f C:Addr} {fd:FuncData} {ps ks:List Str} {sp:Sp} {E:XK} {x m:Str} {p pos apos kpos:Pos} {e o:Expr} {es:List Expr} {kws:List Keyword} {te ta:TE} {t tk:TA} {nm:Option Str}
variable {g:List Value->List Value->List Value} {gV:List V->List V->List V}
end
structure bB (N P:List Str) (sc:Scope):Prop where
 kind:sc.kind=.function
 co:sc.isCoroutine=false
 gen:sc.isGenerator=false
 nd:N.Nodup
 pre:N.take P.length=P
 par:∀ x∈P,sc.names.lookup x=some .local\/sc.names.lookup x=some .cell
 Xq:∀ y∈sc.names,y.2≠.free
theorem Dy {kindOf:Str->Option NameKind} {x:Str}:∀ {binds:List (Str×Value)} {m:Str->Option Value},(∀ v,(x,v)∉binds)->bindL kindOf binds m x=m x
 |[],_,_=>rfl
 |(n,v)::r,m,h=>by
  unfold bindL
  rw[Dy fun w hw=>h w (List.mem_cons_of_mem _ hw)]
  split
  ·have:x≠n:=by rintro rfl;exact h v List.mem_cons_self
   simp[this]
  ·rfl
theorem Dz {kindOf:Str->Option NameKind} {x:Str}:∀ {binds:List (Str×Value)} {m:Str->Option Value},(∀ v,(x,v)∉binds)->bindC kindOf binds m x=m x
 |[],_,_=>rfl
 |(n,v)::r,m,h=>by
  unfold bindC
  rw[Dz fun w hw=>h w (List.mem_cons_of_mem _ hw)]
  split
  ·rfl
  ·have:x≠n:=by rintro rfl;exact h v List.mem_cons_self
   simp[this]
theorem DG {kindOf:Str->Option NameKind} {x:Str} {v:Value}:∀ {P:List Str} {vs:List Value} {i:Nat} {m:Str->Option Value},P.Nodup->P[i]?=some x->vs[i]?=some v->kindOf x=some .local →
  bindL kindOf (P.zip vs) m x=some v
 |[],_,_,_,_,h,_,_=>by simp at h
 |_::_,[],_,_,_,_,h,_=>by simp at h
 |p::P,w::vs,0,m,nd,h1,h2,hk=>by
  simp at h1 h2;subst h1;subst h2
  show bindL kindOf ((p,w)::P.zip vs) m p=_
  unfold bindL
  rw[Dy fun v hv=>(List.nodup_cons.mp nd).1 (List.of_mem_zip hv).1,if_pos hk]
  simp
 |p::P,w::vs,i+1,m,nd,h1,h2,hk=>by
  show bindL kindOf ((p,w)::P.zip vs) m x=_
  unfold bindL
  exact DG (i:=i) (List.nodup_cons.mp nd).2 (by simpa using h1) (by simpa using h2) hk
theorem DK {kindOf:Str->Option NameKind} {x:Str} {v:Value}:∀ {P:List Str} {vs:List Value} {i:Nat} {m:Str->Option Value},P.Nodup->P[i]?=some x->vs[i]?=some v->kindOf x≠some .local →
  bindC kindOf (P.zip vs) m x=some v
 |[],_,_,_,_,h,_,_=>by simp at h
 |_::_,[],_,_,_,_,h,_=>by simp at h
 |p::P,w::vs,0,m,nd,h1,h2,hk=>by
  simp at h1 h2;subst h1;subst h2
  show bindC kindOf ((p,w)::P.zip vs) m p=_
  unfold bindC
  rw[Dz fun v hv=>(List.nodup_cons.mp nd).1 (List.of_mem_zip hv).1,if_neg hk]
  simp
 |p::P,w::vs,i+1,m,nd,h1,h2,hk=>by
  show bindC kindOf ((p,w)::P.zip vs) m x=_
  unfold bindC
  exact DK (i:=i) (List.nodup_cons.mp nd).2 (by simpa using h1) (by simpa using h2) hk
def start (N:List Str) (vs:List V):St:=vs.map some++List.replicate (N.length - vs.length) none
def Fo (CX:Lg) (P:Program) (w:World) (K:PySem.W.Frag) (mg:Str->Option Value) (base:Heap) (N:List Str) (qual:Str) (scope:Scope) (f:Addr) (cd:Value) (A:Around) (outer:List Env) (s:Shared) (H:Hp) (E:XK):Cx where
 prog:=P
 w:=w
 K:=K
 mg:=mg
 base:=base
 A:=A.deeper (envOfC qual scope s.heap.objs.size f cd)
 N:=N
 s₀:=s
 H₀:=H
 env:=envOfC qual scope s.heap.objs.size f cd
 outer:=outer
 stack:=envOfC qual scope s.heap.objs.size f cd::outer
 ex:=[]
 calm:=true
 fn:=fun _=>true
 pn:=[]
 xe:=fun e s'=>wpAny (model P w) (A.deeper (envOfC qual scope s.heap.objs.size f cd)) (leaving (envOfC qual scope s.heap.objs.size f cd) e) (fun _ s''=>CX outer H s E e s'') (fun e' s''=>CX outer H s E e' s'') s'
theorem Hf {sc:Scope} {n:Nat} {x:Str} (h:sc.names.lookup x=some .cell):∃ c,(cellsFrom n sc.names []).lookup x=some c:=by
 have q:=PySem.W.cellsFrom_some sc.names n [] (.inl h)
 exact Option.isSome_iff_exists.mp q
theorem Nu {CX:Lg} {P:Program} {w:World} {K:PySem.W.Frag} {mg:Str->Option Value} {base:Heap} {N ps:List Str} {qual:Str} {scope:Scope} {f:Addr} {cd:Value} {A:Around} {outer:List Env} {s s1:Shared} {H:Hp} {E:XK} {us:List Value} {vs:List V}
  (S:bB N ps scope) (hd:A.handled=none) (e0:JD P w K mg base A outer s H) (hl:vs.length=ps.length) (r:Vals vs us)
  (x:InCallC s s.heap.objs.size (bindL (envOfC qual scope s.heap.objs.size f cd).kindOf (ps.zip us) fun _=>none) (cellsFrom (s.heap.objs.size+1) scope.names []) (bindC (envOfC qual scope s.heap.objs.size f cd).kindOf (ps.zip us) fun _=>none) s1) :
  Inv (Fo CX P w K mg base N qual scope f cd A outer s H E) [] (start N vs) H s1:=by
 have hpl:ps.length<=N.length:=by have:=congrArg List.length S.pre;rw[List.length_take] at this;omega
 obtain⟨h1,tk,rfl,hk⟩:=x.done
 have ZG:∀ b:Addr,b∉(Fo CX P w K mg base N qual scope f cd A outer s H E).ex:=fun b z=>absurd (show b∈([]:List Addr) from z) (by simp)
 refine⟨⟨e0.mod,S.kind,rfl,rfl,Nat.le_refl _,fun y z c h1 h2=>?_,fun y hy=>?_,fun y c _ h=>?_,fun _=>hd,Around.frames_deeper e0.frames,.inr ⟨rfl,rfl⟩,fun b z=>absurd z (ZG b),e0.bs,e0.Tr,fun b _ _=>ZG b,fun b z=>absurd z (ZG b),e0.yU,e0.W2⟩,
  rfl,e0.bare,Un.kept hk,⟨_,x.toInCall.ns,fun i y v h1 h2 h3=>?_⟩,fun y c h=>⟨_,x.cell y c h⟩,e0.hok.fresh (Nat.le_refl _),fun y c h=>?_,fun p hp=>absurd (show p∈([]:List (Addr×Obj)) from hp) (by simp),e0.hok.kept hk,?_⟩
 ·exact name_of_addr x.apart (PySem.mem_of_lookup h1) (PySem.mem_of_lookup h2)
 ·have hy:scope.names.lookup y=some .cell\/scope.names.lookup y=some .free:=hy
  rcases hy with hy|hy
  ·exact Hf hy
  ·exact absurd rfl (S.Xq _ (PySem.mem_of_lookup hy))
 ·exact Nat.le_of_lt (x.above y c (PySem.mem_of_lookup h))
 ·have hi:i < vs.length:=by
   unfold start at h2
   by_cases hi:i < vs.length
   ·exact hi
   ·rw[List.getElem?_append_right (by simpa using hi)] at h2
    rw[List.getElem?_replicate] at h2
    split at h2<;>cases h2
  have ha:vs[i]?=some v:=by
   unfold start at h2
   rw[List.getElem?_append_left (by simpa using hi),List.getElem?_map] at h2
   cases e:vs[i]? with
   |none=>rw[e] at h2;cases h2
   |some a=>rw[e] at h2;cases h2;rfl
  obtain⟨u,hu,rv⟩:=r.get ha
  have hp:ps[i]?=some y:=by
   rw[<-S.pre,List.getElem?_take_of_lt (by omega)];exact h1
  have ndP:ps.Nodup:=by rw[<-S.pre];exact S.nd.sublist (List.take_sublist _ _)
  refine⟨u,rv,?_⟩
  rcases S.par y (List.mem_of_getElem? hp) with k|k
  ·exact .inl ⟨k,DG ndP hp hu k⟩
  ·obtain⟨c,e⟩:=Hf (n:=s.heap.objs.size+1) k
   refine .inr ⟨.inl k,c,e,?_⟩
   have q:=x.cell y c e
   rw[DK ndP hp hu (by show scope.names.lookup y≠_;rw[k];decide)] at q
   exact q
 ·exact e0.hok.fresh (Nat.le_of_lt (x.above y c (PySem.mem_of_lookup h)))
 ·unfold start
  show _=N.length
  rw[List.length_append,List.length_map,List.length_replicate]
  omega
theorem ZJ {CX:Lg} {P:Program} {w:World} {K:PySem.W.Frag} {mg:Str->Option Value} {base:Heap} {k:Nat} {f:Addr} {name qual:Str} {params:Arguments} {body:List Stmt} {scope:Scope} {dV kV doc pm cdv ct oc:Value} {an od:Option Addr}
  {osl:Array (Option Value)} {N ps:List Str} {sp:Sp} (lk:K.lookup f=some ⟨oc,od,.func (PySem.W.fnOf name qual params body scope dV kV doc pm an cdv ct),osl⟩) (hcd:PySem.W.codeIn K cdv qual=true) (S:bB N ps scope)
  (len:∀ vs H Q E,sp vs H Q E->vs.length=ps.length)
  (hbody:∀ (A:Around) (outer:List Env) (s:Shared) (H:Hp) (vs:List V) (Q:VK) (E:XK),lV k (A.deeper (envOfC qual scope s.heap.objs.size f cdv))->sp vs H Q E →
   ∃ t,Jw (Fo CX P w K mg base N qual scope f cdv A outer s H E) body t/\t { nx:=fun _ H'=>Q .non H',rt:=Q } (start N vs) H) :
  bF P w K mg base CX (k+1) f (PySem.W.fnOf name qual params body scope dV kV doc pm an cdv ct) ps sp:=by
 refine⟨len,fun A outer s H args us vs Q E hr e0 hb r hsp=>?_⟩
 have hl:=len _ _ _ _ hsp
 have KX:K.In s.heap:=e0.mod.kin.keeps fun b o e=>(e0.bs b o e).1
 have lim:s.heap.NoLimit:=e0.mod.nolimit.keeps fun b o e=>(e0.bs b o e).1
 have hkind:∀ y∈ps.zip us,scope.names.lookup y.1=some .local\/(scope.names.lookup y.1=some .cell/\((cellsFrom (s.heap.objs.size+1) scope.names []).lookup y.1).isSome=true):=fun ⟨n,v⟩ hy=>by
  rcases S.par n (List.of_mem_zip hy).1 with q|q
  ·exact .inl q
  ·exact .inr ⟨q,PySem.W.cellsFrom_some _ _ _ (.inl q)⟩
 refine codeAny_call_function hr.depth (KX _ _ lk) rfl S.co S.gen rfl (PySem.W.codeRec_of KX hcd) (hb _ _ _ _ ?_)
 refine wpAny_newFunctionEnv_cells S.kind hkind fun env he s1 x=>?_
 subst he
 refine⟨lim.keeps x.toInCall.keep,codeAny_func ?_⟩
 obtain⟨t,ht,hq⟩:=hbody A outer s H vs Q E (hr.deeper _) hsp
 have I:Inv (Fo CX P w K mg base N qual scope f cdv A outer s H E) [] (start N vs) H s1:=Nu S hr.hd e0 hl r x
 refine wpAny_mono (ht [] s1 (start N vs) H _ I hq) (fun fl s' hs=>?_) fun e s' hs=>hs
 have fin:∀ {σ':St} {H':Hp} {v:V} {u:Value},Inv (Fo CX P w K mg base N qual scope f cdv A outer s H E) [] σ' H' s'->RelV v u->Q v H'->CE outer P w H s Q u s':=
  fun {σ' H' v u} J rv q=>⟨v,H',J.os,J.bare,J.base,J.hok,rv,q⟩
 cases fl with
 |ret u=>
  obtain⟨v,σ',H',J,rv,q⟩:=hs
  exact fin J rv q
 |next=>
  obtain⟨σ',H',J,q⟩:=hs
  exact fin (v:=V.non) (u:=Value.none) J rfl q
 |brk=>
  obtain⟨_,_,_,q⟩:=hs
  exact False.elim q
 |cont=>
  obtain⟨_,_,_,q⟩:=hs
  exact False.elim q
end L2
namespace L2
open PySem PySem.Spec PyProof.Rows
section
variable {X:Cx} {x:Str} {p pos:Pos} {e:Expr} {es:List Expr} {t:TA} {id T:String} {r:List V->Hp->VK->Prop}
def tCB (r:List V->Hp->VK->Prop) (t:TA):TE:=fun σ H Q=>t σ H fun vs H1=>r vs H1 Q
theorem z8 (hc:gP X (.builtin id) r) (hg:Gl X x) (hm:X.mg x=none) (hv:bootBuiltins x=some (.builtin id)) (ha:PA X (e::es) t) (hn:x ≠ "__name__" := by decide) (hdb:(x==("__debug__" : Str))=false:=by decide)
  (he:starEach (e::es) X.env=(false,eval e X.env)::starEach es X.env:=by rfl) (hpl:(backTo pos (starEach es X.env)).any (·.1)=false:=by rfl):PE X (.Call (.Name x p) (e::es) [] pos) (tCB r t):=by
 intro pins s σ H Q I h
 refine wpAny_Call_Name_kw (wR I hg hm hv ?_ hn hdb)
 exact PyProof.Rows.callWith_builtin1 (jF (ha pos pins s σ H _ I h) fun us s1 ⟨vs,H1,I1,r1,q1⟩=>hc pins s1 σ H1 vs us Q I1 r1 q1) he hpl
theorem Nv (hc:gP X (.type T) r) (hg:Gl X x) (hm:X.mg x=none) (hv:bootBuiltins x=some (.type T)) (ha:PA X (e::es) t) (hn:x ≠ "__name__" := by decide) (hdb:(x==("__debug__" : Str))=false:=by decide)
  (he:starEach (e::es) X.env=(false,eval e X.env)::starEach es X.env:=by rfl) (hpl:(backTo pos (starEach es X.env)).any (·.1)=false:=by rfl):PE X (.Call (.Name x p) (e::es) [] pos) (tCB r t):=by
 intro pins s σ H Q I h
 refine wpAny_Call_Name_kw (wR I hg hm hv ?_ hn hdb)
 exact PyProof.Rows.callWith_type1 (jF (ha pos pins s σ H _ I h) fun us s1 ⟨vs,H1,I1,r1,q1⟩=>hc pins s1 σ H1 vs us Q I1 r1 q1) he hpl
theorem JF (hc:gP X (.type T) r) (hg:Gl X x) (hm:X.mg x=none) (hv:bootBuiltins x=some (.type T)) (hn:x ≠ "__name__" := by decide) (hdb:(x==("__debug__" : Str))=false:=by decide) :
  PE X (.Call (.Name x p) [] [] pos) (tCB r T6):=by
 intro pins s σ H Q I h
 refine wpAny_Call_Name_kw (wR I hg hm hv ?_ hn hdb)
 exact PyProof.Rows.callWith_type0 (hc pins s σ H [] [] Q I .nil h)
end
end L2
namespace HT
open PySem PyProof.Rows
section
open PySem.SeqAt
open PySem.AutoSeq1 (wpAny_loadPart')
open PySem.MeetsSeq PySem.MeetsSeq2 PySem.MeetsSeq3
end
section
variable {prog:Program} {w:World} {A:Around} {E:Value->Shared->Prop} {s:Shared}
theorem T8 {t b:Addr} {vs ws:List Value} {Q:Value->Shared->Prop} (ht:IsTup s.heap t vs.toArray) (hb:IsTup s.heap b ws.toArray) (hv:vs≠[])
  (h1:ws=[]->Q (.ref t) s) (h2:ws≠[]->Q (.ref s.heap.objs.size) { s with heap:=s.heap.push { cls:=.type "tuple", data:=.seq (vs++ws).toArray } })
  (hsz:vs.length+ws.length<=sizeLine):wpAny (model prog w) A (binaryOp .Add (.ref t) (.ref b)) Q E s:=by
 obtain⟨⟨cls,dd,data,sl⟩,ho,hc,n,hd⟩:=id ht
 obtain⟨⟨cls2,dd2,data2,sl2⟩,ho2,hc2,n2,hd2⟩:=id hb
 simp only at hc hd hc2 hd2
 subst hc hd hc2 hd2
 have e:vs.toArray++ws.toArray=(vs++ws).toArray:=by simp
 by_cases hw:ws=[]
 ·exact concat_meets ⟨_,ho,rfl⟩ ⟨_,ho2,rfl⟩ noFill_tuple_add seq_tuple_add PySem.F.slot_tuple_add PySem.F.entry_tuple_add (PySem.F.args_tuple_add_2 _ _)
   (tuple_addW1 t b vs.toArray ws.toArray n n2 dd dd2 sl sl2 (by simpa using hv) (by simp[hw])) ⟨ho,ho2,h1 hw⟩
 ·refine concat_meets ⟨_,ho,rfl⟩ ⟨_,ho2,rfl⟩ noFill_tuple_add seq_tuple_add PySem.F.slot_tuple_add PySem.F.entry_tuple_add (PySem.F.args_tuple_add_2 _ _)
   (tuple_addW2 t b vs.toArray ws.toArray n n2 dd dd2 sl sl2 (by simpa using hv) (by simpa using hw) (by rw[List.size_toArray,List.size_toArray];exact hsz)) ⟨ho,ho2,?_⟩
  rw[e]
  exact h2 hw
def gQ (n d:Nat):Option Int->Nat
 |none=>d
 |some v=>if v < 0 then (v+(n:Int)).toNat else min v.toNat n
theorem Qa (n d:Nat):gQ n d none=d:=rfl
theorem T9 (n d k:Nat):gQ n d (some (k:Int))=min k n:=by
 show (if (k:Int) < 0 then ((k:Int)+(n:Int)).toNat else min (k:Int).toNat n)=min k n
 rw[if_neg (by omega),Int.toNat_natCast]
theorem Xr (n d:Nat) (hd:d<=n) (o:Option Int):gQ n d o<=n:=by
 cases o with
 |none=>exact hd
 |some v=>
  show (if v < 0 then (v+(n:Int)).toNat else min v.toNat n)<=n
  by_cases hv:v < 0
  ·rw[if_pos hv];omega
  ·rw[if_neg hv];exact Nat.min_le_right _ _
theorem Lh (v:Int) (n d:Nat):(if v < 0 then max (v+(n:Int)) 0 else min v (n:Int))=((gQ n d (some v):Nat):Int):=by
 show (if v < 0 then max (v+(n:Int)) 0 else min v (n:Int))=(((if v < 0 then (v+(n:Int)).toNat else min v.toNat n):Nat):Int)
 by_cases hv:v < 0
 ·simp only[if_pos hv];omega
 ·simp only[if_neg hv];omega
theorem JG (lo hi:Option Int) (n:Nat):Builtin.Slice.sliceAdjust lo hi 1 (n:Int)=(((gQ n 0 lo:Nat):Int),((gQ n n hi:Nat):Int)):=by
 have h1:¬ ((1:Int) < 0):=by omega
 unfold Builtin.Slice.sliceAdjust
 simp only[h1,if_false]
 refine Prod.ext ?_ ?_
 ·cases lo with
  |none=>rfl
  |some v=>exact Lh v n 0
 ·cases hi with
  |none=>rfl
  |some v=>exact Lh v n n
theorem JH (i j:Nat):Builtin.Slice.slicePlaces (i:Int) (j:Int) 1=j - i:=by
 unfold Builtin.Slice.slicePlaces
 have h1:(1:Int) > 0:=by omega
 simp only[h1,if_true,Int.ediv_one]
 split<;>omega
theorem z9 {v:Value} {o:Option Int} {Q:Option Int->Shared->Prop} (p:IsPart v o) (h:Q o s):wpAny (model prog w) A (Builtin.Slice.slicePartIndex v) Q E s:=by
 cases p with
 |none=>exact slicePart_none h
 |int i t=>exact slicePart_int h
theorem pH {sl:Addr} {vl vu:Value} {lo hi:Option Int} {n:Nat} {Q:Int×Int×Nat->Shared->Prop} (hs:s.heap.IsSliceOf sl vl vu .none) (pl:IsPart vl lo) (pu:IsPart vu hi)
  (h:Q (((gQ n 0 lo:Nat):Int),1,gQ n n hi - gQ n 0 lo) s):wpAny (model prog w) A (Builtin.Slice.sliceApplied (.ref sl) (pure (n:Int))) Q E s:=by
 obtain⟨os,hos,hcs,hds⟩:=id hs
 unfold Builtin.Slice.sliceApplied Builtin.Slice.sliceFields
 refine wpAny_bind (wpAny_bind (wpAny_field hos hds (x:=vl) rfl (wpAny_bind (wpAny_field hos hds (x:=vu) rfl (wpAny_bind (wpAny_field hos hds (x:=.none) rfl (wpAny_pure ?_)))))))
 refine wpAny_bind (slicePart_none ?_)
 show wpAny _ _ (if ((1:Int)==0)=true then _ else _) _ _ s
 rw[if_neg (by decide)]
 refine wpAny_bind (z9 pl (wpAny_bind (z9 pu (wpAny_bind (wpAny_pure ?_)))))
 show wpAny _ _ (match Builtin.Slice.sliceAdjust lo hi 1 (n:Int) with|(lo,hi)=>pure (lo,(1:Int),Builtin.Slice.slicePlaces lo hi 1)) _ _ s
 rw[JG lo hi n]
 show wpAny _ _ (pure (((gQ n 0 lo:Nat):Int),(1:Int),Builtin.Slice.slicePlaces ((gQ n 0 lo:Nat):Int) ((gQ n n hi:Nat):Int) 1)) _ _ s
 rw[JH]
 exact wpAny_pure h
theorem Qc (xs:Array Value) (i k:Nat):((List.range k).filterMap fun (m:Nat)=>xs[((i:Int)+(m:Int) * 1).toNat]?).toArray=((xs.toList.drop i).take k).toArray:=by
 have e:(fun (m:Nat)=>xs[((i:Int)+(m:Int) * 1).toNat]?)=fun m=>xs[i+m]?:=by
  funext m
  have:((i:Int)+(m:Int) * 1).toNat=i+m:=by omega
  rw[this]
 rw[e]
 have:=pick_run xs i k
 rw[List.filterMap_map] at this
 have e2:((fun x=>xs[x]?) ∘ fun x=>i+x)=fun m=>xs[i+m]?:=rfl
 rw[e2] at this
 rw[this]
theorem vI {t sl:Addr} {items:Array Value} {vl vu:Value} {lo hi:Option Int} {Q:Value->Shared->Prop} (ht:IsTup s.heap t items) (hs:s.heap.IsSliceOf sl vl vu .none) (pl:IsPart vl lo) (pu:IsPart vu hi)
  (hw:¬ (gQ items.size 0 lo=0/\gQ items.size items.size hi=items.size))
  (h:Q (.ref s.heap.objs.size) { s with heap:=s.heap.push { cls:=.type "tuple", data:=.seq ((items.toList.drop (gQ items.size 0 lo)).take (gQ items.size items.size hi - gQ items.size 0 lo)).toArray } })
  (hsz:items.size<=sizeLine):wpAny (model prog w) A (getItem (.ref t) (.ref sl)) Q E s:=by
 have Li:sizeOk (.seq ((items.toList.drop (gQ items.size 0 lo)).take (gQ items.size items.size hi - gQ items.size 0 lo)).toArray):=by
  show ((items.toList.drop (gQ items.size 0 lo)).take (gQ items.size items.size hi - gQ items.size 0 lo)).toArray.size<=sizeLine
  rw[List.size_toArray,List.length_take,List.length_drop,Array.length_toList]
  omega
 have hj:gQ items.size items.size hi<=items.size:=Xr _ _ (Nat.le_refl _) hi
 obtain⟨os,hos,hcs,hds⟩:=id hs
 have hTs:s.TypeIs (.ref sl) "slice" := ⟨os,hos,hcs⟩
 unfold getItem
 try with_reducible refine wpAny_holding ?_
 first|refine wpAny_bind (wpAny_pure ?_)|skip
 refine wpAny_bind (wpAny_sequenceKey ht.typeIs (by decide) ?_)
 refine wpAny_bind (wpAny_callSpecial?_slot (name:=Str.ofString "__getitem__") ht.typeIs PyProof.Rows.slot_tuple_getitem
  (wpAny_call_entry PyProof.Rows.slot_tuple_getitem ht.typeIs entry_tuple_getitem ?_ (args_tuple_getitem _ _)))
 show wpAny _ _ (Builtin.Tuple.tupleItemsOf (.ref t) >>= _) _ _ s
 refine wpAny_bind (tupleItemsOf_ ht ?_)
 refine wpAny_bind (wpAny_typeOf hTs ?_)
 rw[if_pos (by decide)]
 refine wpAny_bind (pH hs pl pu ?_)
 have hno:¬ ((((gQ items.size 0 lo:Nat):Int)==0&&(1:Int)==1&&(gQ items.size items.size hi - gQ items.size 0 lo)==items.size)=true):=by
  intro q
  rw[Bool.and_eq_true,Bool.and_eq_true] at q
  have q1:((gQ items.size 0 lo:Nat):Int)=0:=eq_of_beq q.1.1
  have q2:gQ items.size items.size hi - gQ items.size 0 lo=items.size:=eq_of_beq q.2
  exact hw ⟨by omega,by omega⟩
 show wpAny _ _ (if (((gQ items.size 0 lo:Nat):Int)==0&&(1:Int)==1&&(gQ items.size items.size hi - gQ items.size 0 lo)==items.size)=true then _ else _) _ _ s
 rw[if_neg hno,Qc]
 first
  |exact wpAny_bind (m:=Builtin.Tuple.tupleExact _) (wpAny_newObj_type (wpAny_pure ⟨_,rfl,wpAny_pure h⟩) Li)
  |exact wpAny_bind (m:=Builtin.Tuple.tupleExact _) (wpAny_newObj_type (wpAny_bind (wpAny_pure (wpAny_pure ⟨_,rfl,wpAny_pure h⟩))) Li)
  |exact wpAny_bind (wpAny_bind (m:=Builtin.Tuple.tupleExact _) (wpAny_newObj_type (wpAny_pure (wpAny_pure ⟨_,rfl,wpAny_pure h⟩)) Li))
  |exact wpAny_bind (wpAny_bind (m:=Builtin.Tuple.tupleExact _) (wpAny_newObj_type (wpAny_pure ⟨_,rfl,wpAny_pure h⟩) Li))
end
end HT
namespace L2
open PySem PySem.Spec PyProof.Rows
abbrev TO:=St->Hp->(Option Int->Hp->Prop)->Prop
def PO (X:Cx) (e:Option Expr) (t:TO):Prop:=
 ∀ (pins:List (Addr×Obj)) (s:Shared) (σ:St) (H:Hp) (Q:Option Int->Hp->Prop),Inv X pins σ H s->t σ H Q →
  wpAny (model X.prog X.w) X.A (evalPart e X.env) (fun u s'=>∃ o H',Inv X pins σ H' s'/\IsPart u o/\Q o H') X.xe s
def Ua:TO:=fun _ H Q=>Q none H
def ZK (t:TE):TO:=fun σ H Q=>t σ H fun x H1=>∃ i,x=.int i/\Q (some i) H1
section
variable {X:Cx} {e:Expr} {te:TE} {lo hi:Option Expr} {tl th:TO} {pos p2:Pos}
theorem Ub:PO X none Ua:=by
 intro pins s σ H Q I h
 rw[evalPart_none]
 exact wpAny_pure ⟨none,H,I,.none,h⟩
theorem Uc (h:PE X e te):PO X (some e) (ZK te):=by
 intro pins s σ H Q I hw
 rw[evalPart_some]
 refine jF (h pins s σ H _ I hw) fun u s1 ⟨x,H1,I1,r1,q1⟩=>?_
 obtain⟨i,rfl,q⟩:=q1
 obtain⟨t,rfl⟩:=r1
 exact⟨some i,H1,I1,.int i t,q⟩
def V8 (X:Cx) (r:V->Option Int->Option Int->Hp->VK->Prop):Prop:=
 ∀ (pins:List (Addr×Obj)) (s:Shared) (σ:St) (H:Hp) (x:V) (v vl vu:Value) (lo hi:Option Int) (sl:Addr) (Q:VK),Inv X pins σ H s->RelV x v->s.heap.IsSliceOf sl vl vu .none->IsPart vl lo->IsPart vu hi->r x lo hi H Q →
  ∃ T id,typeLookup (.type T) "__getitem__" = pure (some (.builtin id))/\s.TypeIs v T/\wpAny (model X.prog X.w) X.A (getItem v (.ref sl)) (EP X pins σ Q) X.xe s
theorem V8.or {r r':V->Option Int->Option Int->Hp->VK->Prop} (h:V8 X r) (h':V8 X r'):V8 X (fun x lo hi H Q=>r x lo hi H Q\/r' x lo hi H Q):=by
 intro pins s σ H x v vl vu lo hi sl Q I rx hs pl pu q
 rcases q with q|q
 ·exact h pins s σ H x v vl vu lo hi sl Q I rx hs pl pu q
 ·exact h' pins s σ H x v vl vu lo hi sl Q I rx hs pl pu q
def tSl (r:V->Option Int->Option Int->Hp->VK->Prop) (te:TE) (tl th:TO):TE:=fun σ H Q=>te σ H fun x H1=>tl σ H1 fun l H2=>th σ H2 fun u H3=>r x l u H3 Q
theorem Qd {r:V->Option Int->Option Int->Hp->VK->Prop} (hr:V8 X r) (he:PE X e te) (hl:PO X lo tl) (hu:PO X hi th):PE X (.Subscript e (.Slice lo hi none p2) pos) (tSl r te tl th):=by
 intro pins s σ H Q I h
 refine Subscript_ (jF (he pins s σ H _ I h) fun v s1 ⟨x,H1,I1,r1,q1⟩=>?_)
 refine wpAny_Slice (jF (hl pins s1 σ H1 _ I1 q1) fun vl s2 ⟨l,H2,I2,pl,q2⟩=>jF (hu pins s2 σ H2 _ I2 q2) fun vu s3 ⟨u,H3,I3,pu,q3⟩=>?_)
 rw[evalPart_none]
 refine wpAny_pure ?_
 have I4:Inv X pins σ H3 { s3 with heap:=s3.heap.push { cls:=.type "slice", data:=.fields #[vl,vu,.none] } }:=I3.kept (t':=s3.toks) fun b ob q=>Heap.get?_push_of_some _ q
 obtain⟨T,id,hT,ht,hg⟩:=hr pins { s3 with heap:=s3.heap.push { cls:=.type "slice", data:=.fields #[vl,vu,.none] } } σ H3 x v vl vu l u s3.heap.objs.size Q I4 r1 (Heap.IsSliceOf.new ..) pl pu q3
 show wpAny (model X.prog X.w) X.A (subscriptTail e (.Slice lo hi none p2) v (.ref s3.heap.objs.size)) (EP X pins σ Q) X.xe { s3 with heap:=s3.heap.push { cls:=.type "slice", data:=.fields #[vl,vu,.none] } }
 exact tail_any (ops:=[.ref s3.heap.objs.size,v]) ht hT hg (by with_unfolding_all rfl)
def Hg (xs:List V) (lo hi:Option Int):List V:=(xs.drop (HT.gQ xs.length 0 lo)).take (HT.gQ xs.length xs.length hi - HT.gQ xs.length 0 lo)
theorem yg (xs:List V) (lo hi:Option Int):(Hg xs lo hi).length<=xs.length:=by
 unfold Hg
 rw[List.length_take,List.length_drop]
 omega
def ab7 (K:PySem.W.Frag):V->Option Int->Option Int->Hp->VK->Prop:=fun x lo hi H Q=>∃ a xs,x=.ref a/\vH K H a xs ∧
 ¬ (HT.gQ xs.length 0 lo=0/\HT.gQ xs.length xs.length hi=xs.length)/\∀ p,H p=none->Q (.ref p) (upd H p (.tup (Hg xs lo hi)))
theorem Xu:V8 X (ab7 X.K):=by
 intro pins s σ H x v vl vu lo hi sl Q I rx hs pl pu h
 obtain⟨a,xs,rfl,hx,hw,q⟩:=h
 cases rx
 obtain⟨its,r,ht,hz⟩:=I.tuple hx
 have hlen:its.toArray.size=xs.length:=by rw[List.size_toArray];exact r.length.symm
 refine⟨"tuple", _,PyProof.Rows.slot_tuple_getitem.lookup,ht.typeIs,?_⟩
 refine HT.vI ht hs pl pu (by rw[hlen];exact hw) ?_ (by rw[hlen];exact hz)
 rw[hlen]
 refine⟨.ref s.heap.objs.size,_,I.laid (t':=s.toks) (o:=.tup (Hg xs lo hi)) (fun b ob q=>Heap.get?_push_of_some _ q) (Nat.le_refl _) ?_,rfl,q _ (I.hok.fresh (Nat.le_refl _))⟩
 exact⟨Nat.le_trans (yg xs lo hi) hz,_,(r.drop (HT.gQ xs.length 0 lo)).take (HT.gQ xs.length xs.length hi - HT.gQ xs.length 0 lo),qu.new _ _⟩
def ZL (K:PySem.W.Frag):R2:=fun x y H Q=>∃ a b xs ys,x=.ref a/\y=.ref b/\vH K H a xs/\vH K H b ys/\xs≠[]/\xs.length+ys.length<=sizeLine ∧
 (ys=[]->Q (.ref a) H)/\(ys≠[]->∀ p,H p=none->Q (.ref p) (upd H p (.tup (xs++ys))))
theorem Vals.zK {xs:List V} {us:List Value} (r:Vals xs us):us=[]↔xs=[]:=by
 cases r with
 |nil=>simp
 |cons _ _=>simp
theorem Ud:rK X (binaryOp .Add) (ZL X.K):=by
 intro pins s σ H x y v u Q I rx ry h
 obtain⟨a,b,xs,ys,rfl,rfl,ha,hb,hx,hz,q1,q2⟩:=h
 cases rx
 cases ry
 obtain⟨its,r1,p1,_⟩:=I.tuple ha
 obtain⟨its2,r2,p2,_⟩:=I.tuple hb
 refine HT.T8 p1 p2 (fun z=>hx (r1.zK.mp z)) (fun z=>⟨.ref a,H,I,rfl,q1 (r2.zK.mp z)⟩) (fun z=>?_) (by rw[<-r1.length,<-r2.length];exact hz)
 refine⟨.ref s.heap.objs.size,_,I.laid (t':=s.toks) (o:=.tup (xs++ys)) (fun b ob q=>Heap.get?_push_of_some _ q) (Nat.le_refl _) ?_,rfl,q2 (fun w=>z (r2.zK.mpr w)) _ (I.hok.fresh (Nat.le_refl _))⟩
 exact⟨by rw[List.length_append];exact hz,_,r1.append r2,qu.new _ _⟩
end
end L2
namespace L2
open PySem PySem.Spec PyProof.Rows
def Y7 (n:Nat) (i:Int):Option Nat:=if 0<=i then (if i < n then some i.toNat else none) else if -(n:Int)<=i then some (i+n).toNat else none
def Dg {α:Type} (xs:List α) (i:Int):Option α:=(Y7 xs.length i).bind fun j=>xs[j]?
theorem Ue {n:Nat} {i:Int} {j:Nat} (h:Y7 n i=some j):seqIndex? i n=some j/\j < n ∧ -(n:Int)<=i/\i < n:=by
 unfold Y7 at h
 by_cases h0:0<=i
 ·rw[if_pos h0] at h
  by_cases h1:i < n
  ·rw[if_pos h1] at h
   have e:i.toNat=j:=Option.some.inj h
   exact⟨by rw[seqIndex_of h0 h1,e],by omega,by omega,h1⟩
  ·rw[if_neg h1] at h;cases h
 ·rw[if_neg h0] at h
  by_cases h1 : -(n:Int)<=i
  ·rw[if_pos h1] at h
   have e:(i+n).toNat=j:=Option.some.inj h
   exact⟨by rw[seqIndex_neg (by omega) h1,e],by omega,h1,by omega⟩
  ·rw[if_neg h1] at h;cases h
theorem Fp {α:Type} {xs:List α} {i:Int} {v:α} (h:Dg xs i=some v):∃ j,seqIndex? i xs.length=some j/\xs[j]?=some v/\j < xs.length ∧ -(xs.length:Int)<=i/\i < xs.length:=by
 unfold Dg at h
 cases e:Y7 xs.length i with
 |none=>rw[e] at h;cases h
 |some j=>
  rw[e] at h
  obtain⟨h1,h2,h3,h4⟩:=Ue e
  exact⟨j,h1,h,h2,h3,h4⟩
def Lj (b:Expr):Prop:=∀ o i,subscripted b false o i=operate [o,i] (getItem o i)
def Ug (X:Cx) (r:R2):Prop:=
 ∀ (value slice:Expr) (pins:List (Addr×Obj)) (s:Shared) (σ:St) (H:Hp) (x y:V) (v u:Value) (Q:VK),Inv X pins σ H s->RelV x v->RelV y u->r x y H Q →
  subscripted slice false v u=operate [v,u] (getItem v u)->wpAny (model X.prog X.w) X.A (subscriptTail value slice v u) (EP X pins σ Q) X.xe s
def V9 (X:Cx) (id:String) (r:V->List V->Hp->VK->Prop):Prop:=
 ∀ (pins:List (Addr×Obj)) (s:Shared) (σ:St) (H:Hp) (x:V) (xs:List V) (v:Value) (us:List Value) (Q:VK),Inv X pins σ H s->RelV x v->Vals xs us->r x xs H Q →
  wpAny (model X.prog X.w) X.A (call (.builtin id) (v::us)) (EP X pins σ Q) X.xe s
section
variable {X:Cx} {a b:Expr} {ta tb:TE} {pos:Pos}
theorem Ug.or {r r':R2} (h:Ug X r) (h':Ug X r'):Ug X (fun x y H Q=>r x y H Q\/r' x y H Q):=by
 intro value slice pins s σ H x y v u Q I rx ry q hs
 rcases q with q|q
 ·exact h value slice pins s σ H x y v u Q I rx ry q hs
 ·exact h' value slice pins s σ H x y v u Q I rx ry q hs
theorem V9.or {id:String} {r r':V->List V->Hp->VK->Prop} (h:V9 X id r) (h':V9 X id r'):V9 X id (fun x xs H Q=>r x xs H Q\/r' x xs H Q):=by
 intro pins s σ H x xs v us Q I rx rs q
 rcases q with q|q
 ·exact h pins s σ H x xs v us Q I rx rs q
 ·exact h' pins s σ H x xs v us Q I rx rs q
theorem ZM {r:R2} (hr:Ug X r) (ha:PE X a ta) (hb:PE X b tb) (hs:Lj b):PE X (.Subscript a b pos) (Zt r ta tb):=by
 intro pins s σ H Q I h
 exact Subscript_ (Xd ha hb I h fun v u s2 x y H2 I2 rx ry q=>hr a b pins s2 σ H2 x y v u Q I2 rx ry q (hs _ _))
def ZP (K:PySem.W.Frag):R2:=fun x y H Q=>∃ p xs i v,x=.ref p/\y=.int i/\qw K H p xs/\Dg xs i=some v/\Q v H
def ZQ (K:PySem.W.Frag):R2:=fun x y H Q=>∃ p xs i v,x=.ref p/\y=.int i/\vH K H p xs/\Dg xs i=some v/\Q v H
def ZR:R2:=fun x y H Q=>∃ z i c,x=.str z/\y=.int i/\z.length<=sizeLine/\Dg z.cps.toList i=some c/\Q (.str ⟨#[c]⟩) H
theorem Uh:Ug X (ZP X.K):=by
 intro value slice pins s σ H x y v u Q I rx ry h hs
 obtain⟨p,xs,i,z,rfl,rfl,hq,he,q⟩:=h
 cases rx
 obtain⟨t,rfl⟩:=ry
 obtain⟨its,r,pl,hz⟩:=I.list hq
 obtain⟨j,h1,h2,h3,h4,h5⟩:=Fp he
 obtain⟨w,ew,Pg⟩:=r.get h2
 have hl:=r.length
 have hn:=wV
 have fin:EP X pins σ Q w s:=⟨z,H,I,Pg,q⟩
 by_cases h0:0<=i
 ·have hj:i.toNat=j:=by
   rw[seqIndex_of h0 h5] at h1
   exact Option.some.inj h1
  exact item_listR pl.isList h0 (by omega) (by rw[hj];simpa using ew) fin hs
 ·have hj:(i+(its.toArray.size:Int)).toNat=j:=by
   rw[seqIndex_neg (by omega) h4] at h1
   rw[List.size_toArray,<-hl]
   exact Option.some.inj h1
  exact subscriptTail_builtinR (x:=w) pl.isList.typeIs slot_list_getitem.lookup
   (wpAny_getItem_list_neg (Q:=fun r s'=>r=w/\EP X pins σ Q r s') pl.isList (by omega) (by rw[List.size_toArray]<;>omega) (by omega) (by rw[hj];simpa using ew) ⟨rfl,fin⟩) hs
theorem Xv:Ug X (ZQ X.K):=by
 intro value slice pins s σ H x y v u Q I rx ry h hs
 obtain⟨p,xs,i,z,rfl,rfl,hq,he,q⟩:=h
 cases rx
 obtain⟨t,rfl⟩:=ry
 obtain⟨its,r,pl,hz⟩:=I.tuple hq
 obtain⟨j,h1,h2,h3,h4,h5⟩:=Fp he
 obtain⟨w,ew,Pg⟩:=r.get h2
 have hl:=r.length
 have hn:=wV
 have fin:EP X pins σ Q w s:=⟨z,H,I,Pg,q⟩
 exact subscriptTail_builtinR (x:=w) pl.typeIs slot_tuple_getitem.lookup
  (getItem_tuple (j:=j) (Q:=fun r s'=>r=w/\EP X pins σ Q r s') pl (by omega) (by omega) (by rw[List.size_toArray,<-hl];exact h1) (by simpa using ew) ⟨rfl,fin⟩) hs
theorem Xw:Ug X ZR:=by
 intro value slice pins s σ H x y v u Q I rx ry h hs
 obtain⟨z,i,c,rfl,rfl,hz,he,q⟩:=h
 obtain⟨t,rfl⟩:=rx
 obtain⟨t',rfl⟩:=ry
 obtain⟨j,h1,h2,h3,h4,h5⟩:=Fp he
 have hl:z.cps.toList.length=z.length:=by simp[Str.length]
 rw[hl] at h1 h4 h5
 have hn:=wV
 exact tail_any (typeIs_str s z t) slot_str_getitem.lookup (getItem_str (c:=c) (by
  have e1:decide (i < -(2 ^ 63:Int))=false:=decide_eq_false (by omega)
  have e2:decide (i>=2 ^ 63)=false:=decide_eq_false (by omega)
  rw[e1,e2,Bool.or_false]) (by rw[h1];simpa using h2) ⟨.str ⟨#[c]⟩,H,I.tok _,⟨_,rfl⟩,q⟩) hs
def rIx (K:PySem.W.Frag):R2:=fun x y H Q=>ZP K x y H Q\/ZQ K x y H Q\/ZR x y H Q
theorem Xx:Ug X (rIx X.K):=Uh.or (Xv.or Xw)
theorem Inv.lst {pins:List (Addr×Obj)} {σ:St} {H:Hp} {s:Shared} {p:Addr} {xs:List V} (I:Inv X pins σ H s) (h:H p=some (.lst xs)) :
  ∃ (its:List Value) (n:Nat),Vals xs its/\s.heap.get? p=some { cls:=.type "list", data:=.seq its.toArray n }/\xs.length<=sizeLine:=by
 obtain⟨z,its,n,r,e⟩:=I.hok p _ h
 exact⟨its,n,r,e,z⟩
theorem Fq (lo hi:Option Int) (n:Nat):(sliceBounds lo hi none n).1=((HT.gQ n 0 lo:Nat):Int)/\(sliceBounds lo hi none n).2.1=((HT.gQ n n hi:Nat):Int)/\(sliceBounds lo hi none n).2.2=1:=by
 refine⟨?_,?_,rfl⟩
 ·cases lo with
  |none=>simp[sliceBounds,HT.gQ]
  |some i=>
   simp only[sliceBounds,HT.gQ,Option.getD_none,show (1:Int) > 0 by decide,if_true]
   by_cases h:i < 0
   ·simp only[h,if_true]<;>omega
   ·simp only[h,if_false]<;>omega
 ·cases hi with
  |none=>simp[sliceBounds,HT.gQ]
  |some i=>
   simp only[sliceBounds,HT.gQ,Option.getD_none,show (1:Int) > 0 by decide,if_true]
   by_cases h:i < 0
   ·simp only[h,if_true]<;>omega
   ·simp only[h,if_false]<;>omega
theorem Dh (its:List Value) (lo hi:Option Int):slicePick its.toArray lo hi none=((its.drop (HT.gQ its.length 0 lo)).take (HT.gQ its.length its.length hi - HT.gQ its.length 0 lo)).toArray:=by
 obtain⟨h1,h2,h3⟩:=Fq lo hi its.toArray.size
 unfold slicePick
 rw[h1,h2,h3]
 simp only[sliceRange_one,pick_run,List.size_toArray]<;>rfl
def ab8 (K:PySem.W.Frag):V->Option Int->Option Int->Hp->VK->Prop:=fun x lo hi H Q=>∃ a xs,x=.ref a/\qw K H a xs/\∀ p,H p=none->Q (.ref p) (upd H p (.lst (Hg xs lo hi)))
theorem Ui:V8 X (ab8 X.K):=by
 intro pins s σ H x v vl vu lo hi sl Q I rx hs pl pu h
 obtain⟨a,xs,rfl,hx,q⟩:=h
 cases rx
 obtain⟨its,r,ht,hz⟩:=I.list hx
 have hlen:=r.length
 refine⟨"list", _,slot_list_getitem.lookup,ht.isList.typeIs,?_⟩
 refine wpAny_getItem_list_slice ht.isList hs pl pu .none (by simp) ?_ (by rw[List.size_toArray]<;>omega)
 rw[Dh,<-hlen]
 refine⟨.ref s.heap.objs.size,_,I.laid (t':=s.toks) (o:=.lst (Hg xs lo hi)) (fun b ob q=>Heap.get?_push_of_some _ q) (Nat.le_refl _) ?_,rfl,q _ (I.hok.fresh (Nat.le_refl _))⟩
 exact⟨Nat.le_trans (yg xs lo hi) hz,_,0,(r.drop (HT.gQ xs.length 0 lo)).take (HT.gQ xs.length xs.length hi - HT.gQ xs.length 0 lo),Heap.get?_push_size _ rfl⟩
def qY:V->Bool
 |.non=>true
 |.bl _=>true
 |.int _=>true
 |.str _=>true
 |_=>false
def Nx:V->V->Bool
 |.non,.non=>true
 |.bl a,.bl b=>a==b
 |.bl a,.int b=>(if a then 1 else 0)==b
 |.int a,.bl b=>a==(if b then 1 else 0)
 |.int a,.int b=>a==b
 |.str a,.str b=>a==b
 |_,_=>false
theorem Xy {A:Around} {s:Shared} {y x:V} {u v:Value} (ry:RelV y u) (rx:RelV x v) (fy:qY y=true) (fx:qY x=true):SeqAt.EqAt A s u v (Nx y x):=by
 cases y with
 |non=>
  cases ry
  cases x with
  |non=>cases rx;exact SeqAt.EqAt.same _
  |bl b=>cases rx;exact SeqAt.EqAt.none_bool b
  |int b=>obtain⟨t,rfl⟩:=rx;exact SeqAt.EqAt.none_int b t
  |str b=>obtain⟨t,rfl⟩:=rx;exact SeqAt.EqAt.none_str b t
  |_=>exact absurd (show false=true from fx) Bool.false_ne_true
 |bl a=>
  cases ry
  cases x with
  |non=>cases rx;exact SeqAt.EqAt.bool_none a
  |bl b=>cases rx;exact SeqAt.EqAt.bool_bool a b
  |int b=>obtain⟨t,rfl⟩:=rx;exact SeqAt.EqAt.bool_int a b t
  |str b=>obtain⟨t,rfl⟩:=rx;exact SeqAt.EqAt.bool_str a b t
  |_=>exact absurd (show false=true from fx) Bool.false_ne_true
 |int a=>
  obtain⟨t',rfl⟩:=ry
  cases x with
  |non=>cases rx;exact SeqAt.EqAt.int_none a t'
  |bl b=>cases rx;exact SeqAt.EqAt.int_bool a t' b
  |int b=>obtain⟨t,rfl⟩:=rx;exact SeqAt.EqAt.int_int a t' b t
  |str b=>obtain⟨t,rfl⟩:=rx;exact SeqAt.EqAt.int_str a t' b t
  |_=>exact absurd (show false=true from fx) Bool.false_ne_true
 |str a=>
  obtain⟨t',rfl⟩:=ry
  cases x with
  |non=>cases rx;exact SeqAt.EqAt.str_none a t'
  |bl b=>cases rx;exact SeqAt.EqAt.str_bool a t' b
  |int b=>obtain⟨t,rfl⟩:=rx;exact SeqAt.EqAt.str_int a t' b t
  |str b=>obtain⟨t,rfl⟩:=rx;exact SeqAt.EqAt.str_str a t' b t
  |_=>exact absurd (show false=true from fx) Bool.false_ne_true
 |_=>exact absurd (show false=true from fy) Bool.false_ne_true
def Uj (x:V) (u:Value):Bool:=match u with
 |.none=>Nx .non x
 |.bool b=>Nx (.bl b) x
 |.int i _=>Nx (.int i) x
 |.str z _=>Nx (.str z) x
 |_=>false
theorem Qe {x y:V} {u:Value} (r:RelV y u) (f:qY y=true):Uj x u=Nx y x:=by
 cases y with
 |non=>cases r;rfl
 |bl b=>cases r;rfl
 |int i=>obtain⟨t,rfl⟩:=r;rfl
 |str z=>obtain⟨t,rfl⟩:=r;rfl
 |_=>exact absurd (show false=true from f) Bool.false_ne_true
theorem Ft {x:V}:∀ {xs:List V} {us:List Value},Vals xs us->xs.all qY=true->us.any (Uj x)=xs.any fun y=>Nx y x
 |_,_,.nil,_=>rfl
 |y::xs,u::us,.cons r t,f=>by
  rw[List.all_cons,Bool.and_eq_true] at f
  rw[List.any_cons,List.any_cons,Qe r f.1,Ft t f.2]
theorem Aa {A:Around} {s:Shared} {x:V} {v:Value} (rx:RelV x v) (fx:qY x=true):∀ {xs:List V} {us:List Value},Vals xs us->xs.all qY=true->∀ u∈us,SeqAt.EqAt A s u v (Uj x u)
 |_,_,.nil,_=>fun u hu=>by cases hu
 |y::xs,u::us,.cons r t,f=>fun u' hu=>by
  rw[List.all_cons,Bool.and_eq_true] at f
  rcases List.mem_cons.mp hu with rfl|hu
  ·rw[Qe r f.1];exact Xy r rx f.1 fx
  ·exact Aa rx fx t f.2 u' hu
def inV (x:V) (xs:List V):Bool:=xs.any fun y=>Nx y x
def rIn (K:PySem.W.Frag) (neg:Bool):R2:=fun x y H Q=>∃ p xs,y=.ref p/\(qw K H p xs\/vH K H p xs)/\qY x=true/\xs.all qY=true/\Q (.bl (if neg then !inV x xs else inV x xs)) H
theorem Ny:rK X (compareOp .In) (rIn X.K false):=by
 intro pins s σ H x y v u Q I rx ry h
 obtain⟨p,xs,rfl,hq,fx,fs,q⟩:=h
 cases ry
 rcases hq with hq|hq
 ·obtain⟨its,r,pl,hz⟩:=I.list hq
  refine SeqAt.in_listAt (Uj x) pl.isList (fun w hw=>Aa rx fx r fs w (by simpa using hw)) ⟨.bl _,H,I,rfl,?_⟩
  rw[show its.toArray.any (Uj x)=its.any (Uj x) by simp,Ft r fs]
  exact q
 ·obtain⟨its,r,pl,hz⟩:=I.tuple hq
  refine SeqAt.in_tupleAt (Uj x) pl (fun w hw=>Aa rx fx r fs w (by simpa using hw)) ⟨.bl _,H,I,rfl,?_⟩
  rw[show its.toArray.any (Uj x)=its.any (Uj x) by simp,Ft r fs]
  exact q
theorem Fv:gP X (.builtin "len") (fun xs H Q=>∃ p ys,xs=[.ref p]/\(qw X.K H p ys\/vH X.K H p ys)/\Q (.int ys.length) H):=by
 intro pins s σ H xs us Q I r h
 obtain⟨p,ys,rfl,hq,q⟩:=h
 obtain⟨u,rfl,rx⟩:=vals1 r
 cases rx
 have hn:=wV
 rcases hq with hq|hq
 ·obtain⟨its,r',pl,hz⟩:=I.list hq
  have hlen:=r'.length
  exact Calls.call_len_list pl.isList (by simp only[List.size_toArray]<;>omega) ⟨.int ys.length,H,I.tok _,⟨s.toks+1,by rw[List.size_toArray,hlen]⟩,q⟩
 ·obtain⟨its,r',pl,hz⟩:=I.tuple hq
  have hlen:=r'.length
  exact len_tuple pl (by simp only[List.size_toArray]<;>omega) ⟨.int ys.length,H,I.tok _,⟨s.toks+1,by rw[List.size_toArray,hlen]⟩,q⟩
theorem Fw:gP X (.builtin "len") (fun xs H Q=>∃ z,xs=[.str z]/\z.length<=sizeLine/\Q (.int z.length) H):=by
 intro pins s σ H xs us Q I r h
 obtain⟨z,rfl,hz,q⟩:=h
 obtain⟨u,rfl,t,rfl⟩:=vals1 r
 have hn:=wV
 exact len_str (by omega) ⟨.int z.length,H,I.tok _,⟨_,rfl⟩,q⟩
theorem gP.or {f:Value} {r r':List V->Hp->VK->Prop} (h:gP X f r) (h':gP X f r'):gP X f (fun xs H Q=>r xs H Q\/r' xs H Q):=by
 intro pins s σ H xs us Q I rs q
 rcases q with q|q
 ·exact h pins s σ H xs us Q I rs q
 ·exact h' pins s σ H xs us Q I rs q
theorem Di:gP X (.type "tuple") (fun xs H Q=>∃ p ys,xs=[.ref p]/\((qw X.K H p ys/\∀ l,H l=none->Q (.ref l) (upd H l (.tup ys)))\/(vH X.K H p ys/\Q (.ref p) H))):=by
 intro pins s σ H xs us Q I r h
 obtain⟨p,ys,rfl,h⟩:=h
 obtain⟨u,rfl,rx⟩:=vals1 r
 cases rx
 rcases h with⟨hq,q⟩|⟨hq,q⟩
 ·obtain⟨its,r',pl,hz⟩:=I.list hq
  have hlen:=r'.length
  refine call_tuple_list pl.isList (fun h' kp=>?_) (by simp only[List.size_toArray]<;>omega)
  have I1:Inv X pins σ H { s with heap:=h' }:=I.kept (t':=s.toks) kp
  have I2:Inv X pins σ (upd H h'.objs.size (.tup ys)) { s with heap:=h'.push { cls:=.type "tuple", data:=.seq its.toArray } }:=
   I1.laid (t':=s.toks) (fun b o e=>Heap.get?_push_of_some _ e) (Nat.le_refl _) (show fL X.prog X.w _ _ _ (.tup ys) from⟨hz,its,r',qu.new _ _⟩)
  exact⟨.ref h'.objs.size,_,I2,rfl,q _ (I1.hok.fresh (Nat.le_refl _))⟩
 ·obtain⟨its,r',pl,hz⟩:=I.tuple hq
  exact call_tuple_same pl ⟨.ref p,H,I,rfl,q⟩
def tyV (K:PySem.W.Frag) (T:String) (x:V) (H:Hp):Prop:=match x with
 |.str _=>T = "str"
 |.int _=>T = "int"
 |.ref p=>(T = "list" ∧ ∃ xs,qw K H p xs)\/(T = "tuple" ∧ ∃ o,K.lookup p=some o/\o.cls=.type "tuple" ∧ o.dict=none) ∨
   (T = "dict" ∧ ((∃ kvs,H p=some (.dK kvs))\/∃ kvs,H p=some (.dT kvs)))\/(T = "set" ∧ ∃ S n,H p=some (.set S n))
 |_=>False
theorem Xz {pins:List (Addr×Obj)} {σ:St} {H:Hp} {s:Shared} {T:String} {x:V} {v:Value} (I:Inv X pins σ H s) (r:RelV x v) (ty:tyV X.K T x H) :
  s.TypeIs v T/\∀ a,v=.ref a->∃ ob,s.heap.get? a=some ob/\ob.dict=none:=by
 cases x with
 |str z=>
  obtain⟨t,rfl⟩:=r
  cases (show T = "str" from ty)
  exact⟨typeIs_str s z t,fun _ e=>nomatch e⟩
 |int i=>
  obtain⟨t,rfl⟩:=r
  cases (show T = "int" from ty)
  exact⟨typeIs_int s i t,fun _ e=>nomatch e⟩
 |ref p=>
  cases r
  rcases ty with⟨rfl,xs,hq⟩|⟨rfl,o,hk,hc,hd⟩|⟨rfl,hk⟩|⟨rfl,S,n,hk⟩
  ·obtain⟨its,_,pl,_⟩:=I.list hq
   refine⟨pl.isList.typeIs,fun a e=>?_⟩
   cases e
   obtain⟨o,n,e,c,hd,_⟩:=pl
   exact⟨o,e,hd⟩
  ·refine⟨⟨o,I.Y6 p o hk,hc⟩,fun a e=>?_⟩
   cases e
   exact⟨o,I.Y6 _ o hk,hd⟩
  ·have z:∃ o,s.heap.get? p=some o/\o.ExactDict:=by
    rcases hk with⟨kvs,hk⟩|⟨kvs,hk⟩
    ·obtain⟨_,_,_,_,o,_,_,e,ex,_⟩:=I.hok p _ hk
     exact⟨o,e,ex⟩
    ·obtain⟨_,_,_,_,o,_,_,e,ex,_⟩:=I.hok p _ hk
     exact⟨o,e,ex⟩
   obtain⟨o,e,ex⟩:=z
   refine⟨⟨o,e,ex.1⟩,fun a e2=>?_⟩
   cases e2
   exact⟨o,e,ex.2.1⟩
  ·obtain⟨o,_,_,_,e,ex,_⟩:=I.hok p _ hk
   refine⟨⟨o,e,ex.1⟩,fun a e2=>?_⟩
   cases e2
   exact⟨o,e,ex.2.1⟩
 |_=>exact False.elim ty
def tBM (K:PySem.W.Frag) (T:String) (r:V->List V->Hp->VK->Prop) (to:TE) (t:TA):TE:=fun σ H Q=>to σ H fun x H1=>tyV K T x H1/\t σ H1 fun xs H2=>r x xs H2 Q
variable {o e:Expr} {es:List Expr} {to:TE} {t:TA} {name:Str} {apos cpos:Pos} {T id:String} {r:V->List V->Hp->VK->Prop}
theorem Hh (pa:PlainAttrs T) (slot:Slot T name id) (hty:typeOf (.builtin id)=pure (.type "method_descriptor")) (hm:V9 X id r) (ho:PE X o to) (ha:PA X (e::es) t)
  (hbase:attributeBase o name X.env (eval o X.env)=eval o X.env:=by rfl)
  (hfew:((backTo cpos (starEach (e::es) X.env)).all (fun x=>!x.1)&&(backToKw cpos (keywordEach [] X.env)).all (fun x=>x.1.isSome)
   && decide ((e::es).length+([]:List Keyword).length+(if ([]:List Keyword).isEmpty then 0 else 1) < 30))=true:=by rfl)
  (hline:(apos.endLine==cpos.line)=true:=by rfl) (hs:starEach (e::es) X.env=(false,eval e X.env)::starEach es X.env:=by rfl) (hplain:(backTo cpos (starEach es X.env)).any (·.1)=false:=by rfl) :
  PE X (.Call (.Attribute o name apos) (e::es) [] cpos) (tBM X.K T r to t):=by
 intro pins s σ H Q I h
 refine wpAny_Call_method_late hbase hfew hline rfl (jF (ho pins s σ H _ I h) fun v s1 ⟨x,H1,I1,r1,ty,q1⟩=>?_)
 obtain⟨h1,h2⟩:=Xz I1 r1 ty
 refine⟨T,id,pa,slot,hty,h1,h2,?_⟩
 have hA:=ha cpos pins s1 σ H1 _ I1 q1
 rw[hs] at hA ⊢
 refine Calls.callWith_builtin (by show (false||(backTo cpos (starEach es X.env)).any (·.1))=false;rw[hplain]<;>rfl) (Calls.evalArgs_plain ?_)
 exact jF hA fun us s2 ⟨vs,H2,I2,r2,q2⟩=>hm pins s2 σ H2 x vs v us Q I2 r1 r2 q2
end
end L2
namespace L2
open PySem PySem.Spec PyProof.Rows
def MtM (X:Cx) (id:String) (r:V->List V->Hp->VK->Prop):Prop:=
 ∀ (pins:List (Addr×Obj)) (s:Shared) (σ:St) (H:Hp) (x:V) (xs:List V) (v:Value) (us:List Value) (Q:VK),Inv X pins σ H s->RelV x v->Vals xs us->r x xs H Q →
  wpAny (model X.prog X.w) X.A (call (.builtin id) (v::us)) (EP X pins σ Q) X.xe s
theorem Vals.one:∀ {x:V} {us:List Value},Vals [x] us->∃ u,us=[u]/\RelV x u
 |_,_,.cons r .nil=>⟨_,rfl,r⟩
theorem Vals.zero:∀ {us:List Value},Vals [] us->us=[]
 |_,.nil=>rfl
section
variable {X:Cx} {pins:List (Addr×Obj)} {σ:St} {H:Hp} {s:Shared} {l b:Addr} {xs ys zs:List V}
theorem Inv.XC {its its':List Value} {n:Nat} {f:Array Value->Array Value} {t':Nat} (I:Inv X pins σ H s) (hH:H l=some (.lst xs))
  (e:s.heap.get? l=some { cls:=.type "list", data:=.seq its.toArray n }) (hf:f its.toArray=its'.toArray) (hv:Vals ys its') (hz:ys.length<=sizeLine) :
  Inv X pins σ (upd H l (.lst ys)) { s with heap:=s.heap.update l (Obj.mapSeq f),toks:=t' }:=by
 have q:=PySem.IsL.update e f
 rw[hf] at q
 refine I.write (x:=l) (e:=l) (by rw[hH];exact trivial) (.inl rfl) (fun b' u hb hu=>(Heap.get?_update_other s.heap (Obj.mapSeq f) (Ne.symm hb)).trans hu) ⟨_,q⟩ ?_
 exact⟨hz,its',_,hv,q⟩
theorem Inv.fresh (I:Inv X pins σ H s):H s.heap.objs.size=none:=I.hok.fresh (Nat.le_refl _)
theorem Inv.ab9 (I:Inv X pins σ H s) (hH:H l=some (.lst xs)):xs.length<=sizeLine/\∃ (its:List Value) (n:Nat),Vals xs its/\xs.length=its.length/\s.heap.get? l=some { cls:=.type "list", data:=.seq its.toArray n }:=by
 obtain⟨z,its,n,r,e⟩:=I.hok l _ hH
 exact⟨z,its,n,r,r.length,e⟩
end
section
variable {X:Cx}
def Uk:V->List V->Hp->VK->Prop:=fun x vs H Q=>∃ l xs y,x=.ref l/\vs=[y]/\H l=some (.lst xs)/\xs.length < sizeLine/\Q .non (upd H l (.lst (xs++[y])))
theorem wX:MtM X "list.append" Uk:=by
 intro pins s σ H x vs v us Q I rx rv h
 obtain⟨l,xs,y,rfl,rfl,hH,hz,q⟩:=h
 cases rx
 obtain⟨u,rfl,ru⟩:=rv.one
 obtain⟨z,its,n,r,hl,e⟩:=I.ab9 hH
 refine call_meets F.slot_list_append ⟨_,e,rfl⟩ F.entry_list_append (F.args_list_append_2 _ _) (PySem.list_append l its.toArray n u (by rw[List.size_toArray];omega)) ⟨e,?_⟩
 refine⟨.non,_,I.XC (its':=its++[u]) hH e (by simp) (r.append (.cons ru .nil)) ?_,rfl,q⟩
 rw[List.length_append,List.length_singleton]
 omega
end
section
variable {prog:Program} {w:World} {A:Around} {E:Value->Shared->Prop} {s:Shared}
end
section
variable {X:Cx}
end
end L2
namespace L2
open PySem PySem.Spec PyProof.Rows
section
variable {κ:Type} [DecidableEq κ]
def uO (kvs:List (κ×V)) (k:κ):Option V:=(kvs.find? fun kv=>decide (kv.1=k)).map (·.2)
def putK (kvs:List (κ×V)) (k:κ) (v:V):List (κ×V):=
 if (kvs.any fun kv=>decide (kv.1=k))=true then kvs.map (fun kv=>if kv.1=k then (kv.1,v) else kv) else kvs++[(k,v)]
def Wa (kvs:List (κ×V)) (k:κ):List (κ×V):=kvs.filter fun kv=>decide (kv.1≠k)
theorem rM {p:κ×V} {r:List (κ×V)} {k:κ} (e:p.1=k):uO (p::r) k=some p.2:=by simp[uO,List.find?_cons,e]
theorem rN {p:κ×V} {r:List (κ×V)} {k:κ} (e:¬ p.1=k):uO (p::r) k=uO r k:=by simp[uO,List.find?_cons,e]
theorem Ab (k:κ):∀ kvs:List (κ×V),(kvs.any fun kv=>decide (kv.1=k))=(uO kvs k).isSome
 |[]=>rfl
 |p::r=>by
  rw[List.any_cons]
  by_cases e:p.1=k
  ·simp only[rM e,decide_eq_true e,Bool.true_or,Option.isSome_some]
  ·rw[rN e,decide_eq_false e,Bool.false_or];exact Ab k r
theorem yh (kvs:List (κ×V)) (k:κ) (v:V):(putK kvs k v).length<=kvs.length+1:=by
 unfold putK
 split
 ·rw[List.length_map];omega
 ·rw[List.length_append,List.length_cons,List.length_nil];omega
theorem yS.Nz {o:Option V} {u:Option Value} (r:yS o u):o.isSome=u.isSome:=by
 cases o with
 |none=>cases u with
  |none=>rfl
  |some _=>exact (show False from r).elim
 |some _=>cases u with
  |none=>exact (show False from r).elim
  |some _=>rfl
theorem yS.getD {o:Option V} {u:Option Value} {d:V} {d':Value} (r:yS o u) (rd:RelV d d'):RelV (o.getD d) (u.getD d'):=by
 cases o with
 |none=>cases u with
  |none=>exact rd
  |some _=>exact (show False from r).elim
 |some _=>cases u with
  |none=>exact (show False from r).elim
  |some _=>exact r
theorem KV.val {kvs:List (κ×V)} {vs:List (κ×Value)} (r:KV kvs vs) (k:κ):yS (uO kvs k) (valueAt vs k):=by
 unfold KV at r
 induction r with
 |nil=>exact True.intro
 |@cons p q ps qs h t ih=>
  obtain⟨h1,h2⟩:=h
  by_cases e:p.1=k
  ·have e':q.1=k:=h1.symm.trans e
   have b:valueAt (q::qs) k=some q.2:=by simp[valueAt,List.find?_cons,e']
   rw[rM e,b];exact h2
  ·have e':¬ q.1=k:=fun z=>e (h1.trans z)
   have b:valueAt (q::qs) k=valueAt qs k:=by simp[valueAt,List.find?_cons,e']
   rw[rN e,b];exact ih
theorem KV.any {kvs:List (κ×V)} {vs:List (κ×Value)} (r:KV kvs vs) (k:κ):(kvs.any fun kv=>decide (kv.1=k))=vs.any fun kv=>decide (kv.1=k):=by
 unfold KV at r
 induction r with
 |nil=>rfl
 |cons h t ih=>rw[List.any_cons,List.any_cons,ih,h.1]
theorem KV.repl {kvs:List (κ×V)} {vs:List (κ×Value)} (r:KV kvs vs) (k:κ) {y:V} {u:Value} (ry:RelV y u) :
  KV (kvs.map fun kv=>if kv.1=k then (kv.1,y) else kv) (vs.map fun kv=>if kv.1=k then (kv.1,u) else kv):=by
 unfold KV at r ⊢
 induction r with
 |nil=>exact .nil
 |@cons p q ps qs h t ih=>
  rw[List.map_cons,List.map_cons]
  refine .cons ?_ ih
  obtain⟨h1,h2⟩:=h
  by_cases e:p.1=k
  ·rw[if_pos e,if_pos (h1.symm.trans e)];exact⟨h1,ry⟩
  ·rw[if_neg e,if_neg (fun z=>e (h1.trans z))];exact⟨h1,h2⟩
theorem KV.put {kvs:List (κ×V)} {vs:List (κ×Value)} (r:KV kvs vs) (k:κ) {y:V} {u:Value} (ry:RelV y u):KV (putK kvs k y) (stored vs k u):=by
 unfold putK stored
 rw[r.any k]
 by_cases e:(vs.any fun kv=>decide (kv.1=k))=true
 ·rw[if_pos e,if_pos e];exact r.repl k ry
 ·rw[if_neg e,if_neg e];exact Paired.snoc r ⟨rfl,ry⟩
theorem KV.drop {kvs:List (κ×V)} {vs:List (κ×Value)} (r:KV kvs vs) (k:κ):KV (Wa kvs k) (without vs k):=by
 unfold KV at r ⊢
 unfold Wa without
 induction r with
 |nil=>exact .nil
 |@cons p q ps qs h t ih=>
  obtain⟨h1,h2⟩:=h
  rw[List.filter_cons,List.filter_cons]
  by_cases e:p.1=k
  ·have a:¬ decide (p.1≠k)=true:=by simp[e]
   have b:¬ decide (q.1≠k)=true:=by simp[h1.symm.trans e]
   rw[if_neg a,if_neg b];exact ih
  ·have e':¬ q.1=k:=fun z=>e (h1.trans z)
   have a:decide (p.1≠k)=true:=by simp[e]
   have b:decide (q.1≠k)=true:=by simp[e']
   rw[if_pos a,if_pos b];exact .cons ⟨h1,h2⟩ ih
theorem KV.length {kvs:List (κ×V)} {vs:List (κ×Value)} (r:KV kvs vs):kvs.length=vs.length:=Paired.length r
end
theorem Qf {P:Program} {w:World} {k:Key} {u:Value} (r:RelV (kV k) u):(bT P w).is k u=true:=by
 cases k with
 |inl i=>obtain⟨t,e⟩:=(show ∃ t,u=Value.int i t from r);subst e;exact G4 P w i t
 |inr x=>obtain⟨t,e⟩:=(show ∃ t,u=Value.str x t from r);subst e;exact G5 P w x t
theorem DN {P:Program} {w:World}:∀ {ks:List Key} {us:List Value},Vals (ks.map kV) us->ItemsAre (bT P w) ks us
 |[],_,r=>by rw[List.map_nil] at r;cases r;exact .nil
 |k::ks,_,r=>by
  rw[List.map_cons] at r
  cases r with
  |cons h t=>exact .cons (Qf h) (DN t)
abbrev KT (H:Hp):List (List Key×V)->List (List Key×Addr×Value)->Prop:=Paired fun p q=>p.1=q.1/\H q.2.1=some (.tup (p.1.map kV))/\RelV p.2 q.2.2
theorem KT.val {H:Hp} {kvs:List (List Key×V)} {xs:List (List Key×Addr×Value)} (r:KT H kvs xs) (k:List Key):yS (uO kvs k) ((atKey xs k).map (·.2)):=by
 induction r with
 |nil=>exact True.intro
 |@cons p q ps qs h t ih=>
  obtain⟨h1,_,h2⟩:=h
  by_cases e:p.1=k
  ·have e':q.1=k:=h1.symm.trans e
   have b:atKey (q::qs) k=some q.2:=by simp[atKey,List.find?_cons,e']
   rw[rM e,b];exact h2
  ·have e':¬ q.1=k:=fun z=>e (h1.trans z)
   have b:atKey (q::qs) k=atKey qs k:=by simp[atKey,List.find?_cons,e']
   rw[rN e,b];exact ih
theorem KT.repl {H:Hp} {kvs:List (List Key×V)} {xs:List (List Key×Addr×Value)} (r:KT H kvs xs) (k:List Key) {y:V} {u:Value} (ry:RelV y u) :
  KT H (kvs.map fun kv=>if kv.1=k then (kv.1,y) else kv) (xs.map (putAt k u)):=by
 induction r with
 |nil=>exact .nil
 |@cons p q ps qs h t ih=>
  rw[List.map_cons,List.map_cons]
  refine .cons ?_ ih
  obtain⟨h1,h2,h3⟩:=h
  unfold putAt
  by_cases e:p.1=k
  ·rw[if_pos e,if_pos (h1.symm.trans e)];exact⟨h1,h2,ry⟩
  ·rw[if_neg e,if_neg (fun z=>e (h1.trans z))];exact⟨h1,h2,h3⟩
theorem KT.put {H:Hp} {kvs:List (List Key×V)} {xs:List (List Key×Addr×Value)} (r:KT H kvs xs) (k:List Key) {b:Addr} {y:V} {u:Value} (hb:H b=some (.tup (k.map kV))) (ry:RelV y u) :
  KT H (putK kvs k y) (storedH xs k b u):=by
 have e:(kvs.any fun kv=>decide (kv.1=k))=(atKey xs k).isSome:=by
  rw[Ab,(r.val k).Nz,Option.isSome_map]
 unfold putK storedH
 rw[e]
 by_cases q:(atKey xs k).isSome=true
 ·rw[if_pos q,if_pos q];exact r.repl k ry
 ·rw[if_neg q,if_neg q];exact Paired.snoc r ⟨rfl,hb,ry⟩
theorem KT.keeps {H H':Hp} {kvs:List (List Key×V)} {xs:List (List Key×Addr×Value)} (r:KT H kvs xs) (ht:∀ b ys,H b=some (.tup ys)->H' b=some (.tup ys)):KT H' kvs xs:=
 Paired.TJ r fun _ _ z=>⟨z.1,ht _ _ z.2.1,z.2.2⟩
section
variable {P:Program} {w:World} {H:Hp} {h:Heap} {a:Addr}
theorem Wb {u:HO} (ok:vC P w H h) (e:Rd H a u):fL P w H h a u:=e.ok ok
theorem Lk {kvs:List (Key×V)} (ok:vC P w H h) (e:Rd H a (.dK kvs)):kvs.length<=sizeLine/\(a==sysModules)=false/\∃ vs,KV kvs vs/\h.DictOf (bT P w) a vs:=
 show fL P w H h a (.dK kvs) from Wb ok e
theorem ZS {kvs:List (Key×V)} (ok:vC P w H h) (e:H a=some (.dK kvs)):kvs.length<=sizeLine/\(a==sysModules)=false/\∃ vs,KV kvs vs/\h.DictOf (bT P w) a vs:=Lk ok (.inl e)
theorem JK {ks:List Key} (ok:vC P w H h) (e:H a=some (.tup (ks.map kV))):(tupleKind (bT P w)).is h ks a:=by
 obtain⟨_,its,r,o,h1,h2,⟨n,h3⟩,_⟩:=(show fL P w H h a (.tup (ks.map kV)) from ok a _ e)
 exact⟨o,its.toArray,n,h1,h2,h3,by simpa using DN r⟩
theorem Qg {kvs:List (List Key×V)} (ok:vC P w H h) (e:Rd H a (.dT kvs)):kvs.length<=sizeLine/\(a==sysModules)=false ∧
  ∃ xs,KT H kvs xs/\h.DictOfH (tupleKind (bT P w)) a xs:=by
 obtain⟨z,y,xs,r,o,es,ep,h1,h2,h3,h4,h5⟩:=(show fL P w H h a (.dT kvs) from Wb ok e)
 refine⟨z,y,xs,r,o,es,ep,h1,h2,h3,h4,fun x hx=>?_,h5⟩
 have all:∀ {l:List (List Key×V)} {m:List (List Key×Addr×Value)},KT H l m->∀ x∈m,(tupleKind (bT P w)).is h x.1 x.2.1:=by
  intro l m q
  induction q with
  |nil=>intro x hx;exact nomatch hx
  |@cons p q ps qs hq t ih=>
   intro x hx
   rcases List.mem_cons.mp hx with e|hx
   ·subst e
    exact JK ok (by rw[<-hq.1];exact hq.2.1)
   ·exact ih x hx
 exact all r x hx
theorem ZV {kvs:List (List Key×V)} (ok:vC P w H h) (e:H a=some (.dT kvs)):kvs.length<=sizeLine/\(a==sysModules)=false ∧
  ∃ xs,KT H kvs xs/\h.DictOfH (tupleKind (bT P w)) a xs:=Qg ok (.inl e)
end
def JL (H:Hp) (a:Addr) (y:V) (r:Option V):Prop:=
 (∃ kvs k,Rd H a (.dK kvs)/\y=kV k/\r=uO kvs k)\/∃ kvs k b,Rd H a (.dT kvs)/\y=.ref b/\H b=some (.tup (k.map kV))/\r=uO kvs k
def JM (H:Hp) (a:Addr) (y v:V) (H':Hp):Prop:=
 (∃ kvs k,H a=some (.dK kvs)/\y=kV k/\kvs.length < sizeLine/\H'=upd H a (.dK (putK kvs k v))) ∨
 ∃ kvs k b,H a=some (.dT kvs)/\y=.ref b/\H b=some (.tup (k.map kV))/\kvs.length < sizeLine/\H'=upd H a (.dT (putK kvs k v))
theorem JL.k {H:Hp} {a:Addr} {kvs:List (Key×V)} {k:Key} (e:H a=some (.dK kvs)):JL H a (kV k) (uO kvs k):=.inl ⟨kvs,k,.inl e,rfl,rfl⟩
theorem JL.t {H:Hp} {a b:Addr} {kvs:List (List Key×V)} {k:List Key} (e:H a=some (.dT kvs)) (eb:H b=some (.tup (k.map kV))):JL H a (.ref b) (uO kvs k):=.inr ⟨kvs,k,b,.inl e,rfl,eb,rfl⟩
theorem JM.k {H:Hp} {a:Addr} {kvs:List (Key×V)} {k:Key} {v:V} (e:H a=some (.dK kvs)) (hl:kvs.length < sizeLine):JM H a (kV k) v (upd H a (.dK (putK kvs k v))):=.inl ⟨kvs,k,e,rfl,hl,rfl⟩
theorem JM.t {H:Hp} {a b:Addr} {kvs:List (List Key×V)} {k:List Key} {v:V} (e:H a=some (.dT kvs)) (eb:H b=some (.tup (k.map kV))) (hl:kvs.length < sizeLine) :
  JM H a (.ref b) v (upd H a (.dT (putK kvs k v))):=.inr ⟨kvs,k,b,e,rfl,eb,hl,rfl⟩
section
variable {X:Cx} {pins:List (Addr×Obj)} {σ:St} {H:Hp} {s:Shared} {a:Addr} {y v:V} {u r:Value} {o:Option V} {A:Around} {E:Value->Shared->Prop}
theorem Inv.big (I:Inv X pins σ H s):sysModules < s.heap.objs.size:=by
 have h:mainGlobals < s.heap.objs.size:=(I.mod.glob.keeps I.bk).lt
 exact Nat.lt_trans (by decide) h
theorem NK {Q:Value->Shared->Prop} (hu:A.units+1 < cLine) (I:Inv X pins σ H s) (g:JL H a y (some v)) (ry:RelV y u) (h:∀ w' s',Inv X pins σ H s'->RelV v w'->Q w' s') :
  wpAny (model X.prog X.w) A (getItem (.ref a) u) Q E s:=by
 rcases g with⟨kvs,k,e,ey,l⟩|⟨kvs,k,b,e,ey,eb,l⟩
 ·subst ey
  obtain⟨z,hd,vs,rel,dd⟩:=Lk I.hok e
  obtain⟨w',hw,Pg⟩:=yS.some_of (v:=v) (o:=valueAt vs k) (by rw[l];exact rel.val k)
  exact wpAny_getItem_of (Qf ry) dd.mapOf hw (h w' _ (I.tok _) Pg)
 ·subst ey
  cases (show u=Value.ref b from ry)
  obtain⟨z,hd,xs,rel,dd⟩:=Qg I.hok e
  obtain⟨w',hw,Pg⟩:=yS.some_of (v:=v) (o:=(atKey xs k).map (·.2)) (by rw[l];exact rel.val k)
  obtain⟨p,hp,hp2⟩:=Option.map_eq_some_iff.mp hw
  refine wpAny_getItem_heap (tupleKind_room_in1 hu) (JK I.hok eb) dd hp ?_
  rw[hp2]
  exact h w' _ (I.tok _) Pg
theorem Ln {h':Heap} {t':Nat} {ob:HO} (I:Inv X pins σ H s) (mu:Zf (H a)) (hs:Heap.SameBut a s.heap h') (he:∃ q,h'.get? a=some q) (new:fL X.prog X.w (upd H a ob) h' a ob) :
  Inv X pins σ (upd H a ob) { s with heap:=h',toks:=t' }:=
 I.write (x:=a) (e:=a) mu (.inl rfl) (fun b q hb z=>(hs.2 b hb).trans z) he new
theorem XD {P:Program} {w:World} {H':Hp} {h':Heap} {kvs:List (Key×V)} {vs:List (Key×Value)} (z:kvs.length<=sizeLine) (hd:(a==sysModules)=false) (rel:KV kvs vs) (dd:h'.DictOf (bT P w) a vs) :
  fL P w H' h' a (.dK kvs):=⟨z,hd,vs,rel,dd⟩
theorem NP {H':Hp} {Q:Unit->Shared->Prop} (hu:A.units+1 < cLine) (I:Inv X pins σ H s) (g:JM H a y v H') (ry:RelV y u) (rv:RelV v r) (h:∀ s',Inv X pins σ H' s'->Q () s') :
  wpAny (model X.prog X.w) A (setItem (.ref a) u r) Q E s:=by
 rcases g with⟨kvs,k,e,ey,l,eH⟩|⟨kvs,k,b,e,ey,eb,l,eH⟩
 ·subst ey eH
  obtain⟨z,hd,vs,rel,dd⟩:=ZS I.hok e
  have hz:vs.length<=sizeLine:=by rw[<-rel.length];exact z
  have hl:(putK kvs k v).length<=sizeLine:=by have:=yh kvs k v;omega
  refine wpAny_setItem_pairs (hsz:=hz) (Qf ry) dd fun h' dd' hs=>h _ ?_
  have he:∃ q,h'.get? a=some q:=let ⟨q,_,_,hq,_⟩:=dd';⟨q,hq⟩
  exact Ln I (by rw[e];exact True.intro) hs he (XD hl hd (rel.put k rv) dd')
 ·subst ey eH
  cases (show u=Value.ref b from ry)
  obtain⟨z,hd,xs,rel,dd⟩:=ZV I.hok e
  have hz:xs.length<=sizeLine:=by rw[<-Paired.length rel];exact z
  have hl:(putK kvs k v).length<=sizeLine:=by have:=yh kvs k v;omega
  refine wpAny_setItem_heap (hsz:=hz) (tupleKind_room_in1 hu) (JK I.hok eb) dd fun h' dd' hs=>h _ ?_
  obtain⟨q,es,ep,hq,h2,h3,h4,_,h5⟩:=dd'
  refine Ln I (by rw[e];exact True.intro) hs ⟨q,hq⟩ ⟨hl,hd,_,(rel.put k eb rv).keeps fun c ys ec=>?_,q,es,ep,hq,h2,h3,h4,h5⟩
  rw[aO (qX ec e (fun z=>nomatch z))]
  exact ec
end
section
variable {X:Cx} {pins:List (Addr×Obj)} {σ:St} {H:Hp} {s:Shared} {a:Addr} {kvs:List (Key×V)} {k:Key} {u:Value} {A:Around} {E:Value->Shared->Prop}
end
def XF (i:Expr):Prop:=∀ ov iv,subscripted i false ov iv=operate [ov,iv] (getItem ov iv)
theorem Ul {prog:Program} {w:World} {A:Around} {E:Value->Shared->Prop} {s:Shared} {env:Env} {value slice:Expr} {pos:Pos} {T id:String} {Q:Value->Shared->Prop}
  (hl:typeLookup (.type T) "__getitem__" = pure (some (.builtin id))) (hs:XF slice)
  (h:wpAny (model prog w) A (eval value env) (fun o s₁=>wpAny (model prog w) A (eval slice env) (fun i s₂=>s₂.TypeIs o T/\wpAny (model prog w) A (getItem o i) Q E s₂) E s₁) E s) :
  wpAny (model prog w) A (eval (.Subscript value slice pos) env) Q E s:=by
 refine Subscript_ (wpAny_mono h (fun o s₁ h₁=>wpAny_mono h₁ (fun i s₂ h₂=>?_) fun _ _ x=>x) fun _ _ x=>x)
 obtain⟨hT,h₂⟩:=h₂
 unfold subscriptTail
 refine wpAny_bind ?_
 rw[getitemInPython_of_ne hT.not_modules]
 refine wpAny_bind (wpAny_specialOf hT hl ?_)
 have fin:wpAny (model prog w) A (subscripted slice false o i) (fun r s₃=>wpAny (model prog w) A (letTemporaryGo value o r >>= fun _=>pure r) Q E s₃) E s₂:=by
  rw[hs o i]
  exact wpAny_operating (wpAny_mono h₂ (fun r s₃ h₃=>wpAny_bind (wpAny_letTemporaryGo (wpAny_pure h₃))) fun _ _ x=>x)
 first
  |exact wpAny_pure (wpAny_bind fin)
  |exact wpAny_bind (wpAny_pure (wpAny_bind fin))
  |exact wpAny_bind fin
theorem Hi {X:Cx} {pins:List (Addr×Obj)} {σ:St} {H:Hp} {s:Shared} {a:Addr} {y:V} {o:Option V} (I:Inv X pins σ H s) (g:JL H a y o):s.TypeIs (.ref a) "dict" := by
 rcases g with⟨kvs,k,e,_,_⟩|⟨kvs,k,b,e,_,_,_⟩
 ·obtain⟨_,_,vs,_,dd⟩:=Lk I.hok e
  exact dd.typeIs
 ·obtain⟨_,_,xs,_,dd⟩:=Qg I.hok e
  exact dd.typeIs
def ZW (td ty:TE):TE:=fun σ H Q=>td σ H fun x H1=>ty σ H1 fun y H2=>∃ a v,x=.ref a/\JL H2 a y (some v)/\Q v H2
def ZX (td ty tv:TE):TS:=fun D σ H=>tv σ H fun v H1=>td σ H1 fun x H2=>ty σ H2 fun y H3=>∃ a H4,x=.ref a/\JM H3 a y v H4/\D.nx σ H4
section
variable {X:Cx} {o i e value:Expr} {pos pos' tpos:Pos} {td ty tv:TE}
theorem Um (hu:X.A.units+1 < cLine) (ho:PE X o td) (hi:PE X i ty) (hs:XF i):PE X (.Subscript o i pos) (ZW td ty):=by
 intro pins s σ H Q I h
 refine Ul PySem.F.slot_dict_getitem.lookup hs (jF (ho pins s σ H _ I h) fun u s1 ⟨x,H1,I1,rx,q1⟩=>jF (hi pins s1 σ H1 _ I1 q1) fun iv s2 ⟨y,H2,I2,ry,a,v,ex,g,q2⟩=>?_)
 subst ex
 obtain rfl:u=Value.ref a:=rx
 exact⟨Hi I2 g,NK hu I2 g ry fun w' s3 I3 Pg=>⟨v,H2,I3,Pg,q2⟩⟩
theorem Uo (hu:X.A.units+1 < cLine) (ho:PE X o td) (hi:PE X i ty) (hv:PE X value tv) (hs:swapsWith value (some (.Subscript o i pos')) pos.line X.env=pure false) :
  PS X (.Assign [.Subscript o i pos'] value pos) (ZX td ty tv):=by
 intro pins s σ H D I h
 refine wpAny_Assign_Subscript (jF (hv pins s σ H _ I h) fun r s1 ⟨v,H1,I1,rv,q1⟩=>jF (ho pins s1 σ H1 _ I1 q1) fun u s2 ⟨x,H2,I2,rx,q2⟩=>jF (hi pins s2 σ H2 _ I2 q2) fun iv s3 ⟨y,H3,I3,ry,a,H4,ex,g,q3⟩=>?_) hs
 subst ex
 obtain rfl:u=Value.ref a:=rx
 exact NP hu I3 g ry rv fun s4 I4=>⟨σ,H4,I4,q3⟩
end
theorem Qh {P:Program} {w:World} {H:Hp} (h:Heap) (hb:sysModules < h.objs.size):fL P w H (h.push { cls:=.type "dict", data:=.dict #[] }) h.objs.size (.dK []):=
 ⟨Nat.zero_le _,beq_eq_false_iff_ne.mpr (Ne.symm (Nat.ne_of_lt hb)),[],.nil,Heap.DictOf.new h⟩
def XH:TE:=fun _ H Q=>∀ p,H p=none->Q (.ref p) (upd H p (.dK []))
section
variable {X:Cx} {pos:Pos}
theorem Qi:PE X (.Dict [] [] pos) XH:=fun pins s σ H Q I h=>
 wpAny_Dict_empty ⟨.ref s.heap.objs.size,_,I.laid (a:=s.heap.objs.size) (o:=.dK []) (t':=s.toks) (fun _ _ q=>Heap.get?_push_of_some _ q) (Nat.le_refl _) (Qh s.heap I.big),rfl,h _ (I.hok.fresh (Nat.le_refl _))⟩
end
structure M1 (X:Cx) (o:Expr) (m:Str) (apos:Pos) (e:Expr) (cpos:Pos):Prop where
 base:attributeBase o m X.env (eval o X.env)=eval o X.env
 few:((backTo cpos (starEach [e] X.env)).all (fun x=>!x.1)&&(backToKw cpos (keywordEach [] X.env)).all (fun x=>x.1.isSome)
  && decide (([e]:List Expr).length+([]:List Keyword).length+(if ([]:List Keyword).isEmpty then 0 else 1) < 30))=true
 line:(apos.endLine==cpos.line)=true
 trees:backTo cpos (starEach [e] X.env)=[(false,eval e X.env)]
structure M2 (X:Cx) (o:Expr) (m:Str) (apos:Pos) (e f:Expr) (cpos:Pos):Prop where
 base:attributeBase o m X.env (eval o X.env)=eval o X.env
 few:((backTo cpos (starEach [e,f] X.env)).all (fun x=>!x.1)&&(backToKw cpos (keywordEach [] X.env)).all (fun x=>x.1.isSome)
  && decide (([e,f]:List Expr).length+([]:List Keyword).length+(if ([]:List Keyword).isEmpty then 0 else 1) < 30))=true
 line:(apos.endLine==cpos.line)=true
 trees:backTo cpos (starEach [e,f] X.env)=[(false,eval e X.env),(false,eval f X.env)]
section
variable {X:Cx} {pins:List (Addr×Obj)} {σ:St} {H:Hp} {s:Shared} {a:Addr} {y d:V} {u r:Value} {o:Option V} {A:Around} {E:Value->Shared->Prop}
end
section
variable {X:Cx} {o e f:Expr} {apos cpos:Pos} {td ty tx:TE}
end
section
variable {X:Cx} {pins:List (Addr×Obj)} {σ:St} {H:Hp} {s:Shared} {a:Addr} {kvs:List (Key×V)} {A:Around} {E:Value->Shared->Prop}
end
section
variable {X:Cx} {pins:List (Addr×Obj)} {σ:St} {H:Hp} {s:Shared} {a:Addr} {y:V} {u:Value} {A:Around} {E:Value->Shared->Prop}
end
end L2
namespace Att
open PySem PySem.W PySem.Calls PyProof.Rows
theorem yV {P:Params} {h:Heap}:∀ (ns:List Int) (vs:List Value),WellAll P h vs (ns.map WData.int)->IntsAre vs ns:=by
 intro ns
 induction ns with
 |nil=>
  intro vs w
  rw[List.map_nil] at w
  cases w
  exact .nil
 |cons n ns ih=>
  intro vs w
  rw[List.map_cons] at w
  cases w with
  |cons a b=>
   cases a
   exact .cons _ _ (ih _ b)
theorem NQ {l:OpenLaw} {n:Nat} (hn:l.most=some n) {P:Params} {h:Heap} {args:List WData} {vals:List Value}
  (hpre:l.row.toRowW.claim.pre args=true) (hwl:WellAll P h vals args) :
  ∃ a vs ns,vals=[Value.ref a]/\args=[WData.list (ns.map WData.int)]/\h.get? a=some { cls:=.type "list", data:=.seq vs.toArray }/\IntsAre vs ns/\ns.length<=n:=by
 have hsh:WShape.hasAll [] args [.list .int]=true:=(pre_splitW hpre).1
 have hc:l.pre.holds [] { args:=args }=true:=(pre_splitW hpre).2
 obtain⟨d,r,rfl,h1,h2⟩:=hasAllW_cons hsh
 obtain rfl:=hasAllW_nil h2
 obtain⟨xs,rfl,h3⟩:=hasW_list h1
 obtain⟨ns,rfl⟩:=items_int h3
 have hlen:ns.length<=n:=by
  unfold OpenLaw.pre at hc
  have h4:(WTm.not (.lt (.lit (.int (n:Int))) (.len (.arg 0)))).holds [] { args:=[.list (ns.map .int)] }=true:=by
   have h4:=(holds_andW hc).1
   rw[hn] at h4
   exact h4
  have h5:=condW_of h4 (w_not (w_lt w_lit (w_len_list (w_arg rfl))))
  rw[List.length_map] at h5
  refine Nat.le_of_not_lt fun q=>?_
  have q':(n:Int) < ((ns.length:Nat):Int):=by omega
  first
   |(rw[decide_eq_true q'] at h5;exact absurd h5 (by decide))
   |(simp at h5;omega)
 cases hwl with
 |cons w1 w2=>
  cases w2
  cases w1 with
  |list ho hall=>exact⟨_,_,ns,rfl,rfl,ho,yV ns _ hall,hlen⟩
theorem NT (l:OpenLaw) (args:List WData):l.row.toRowW.claim.post args (.bool true) args=true:=
 postW_of (r:=l.row.toRowW) (X:=(true==true))
  (show WShape.has [] (.bool true) .bool=true by first|rfl|decide|simp[WShape.has,WShape.arms,WShape.armsAll])
  (show (WTm.eq .res (.lit (.bool true))).value [] { args:=args,res:=some (.bool true),after:=args }=some (.bool (true==true)) from w_eq_bool (w_res rfl) w_lit) rfl
theorem Hj {l:OpenLaw} {n:Nat} {q:Program} {loose:List Str} {XP:(Str->Option Value)->Heap->Prop} {YP:World->Heap->Prop} {d:DefRec}
  (hn:l.most=some n) (hdf:d.params.defaults=[])
  (call:∀ (w:World) (s₀ s₁:Shared) (mg mb:Str->Option Value) (fa:Addr) (o:Obj) (pm cd doc:Value) (a:Addr) (vs:List Value) (ns:List Int),
   Ground q loose [] XP w s₀ mg mb s₁.heap->YP w s₁.heap →
   s₁.heap.get? fa=some o->o.data=.func (docDef d.name d.params d.body d.scope pm cd doc)->s₁.heap.CodeRec cd d.name->mg d.name=some (.ref fa) →
   s₁.heap.get? a=some { cls:=.type "list", data:=.seq vs.toArray }->IntsAre vs ns->ns.length<=n->s₁.gens=#[] →
   codeAny (model l.prog w) callerA (.call (.ref fa) ⟨[.ref a],[]⟩) (fun r s'=>r=.ok (.ret (.bool true))/\OldK s₁.heap s'.heap/\s'.os=s₁.os/\AllBare s'.gens) s₁) :
  WalkO q loose XP YP l.row.toRowW d [] (fun f vs=>PySem.call f vs):=by
 intro w s₀ s₁ mg mb G Y fa o pm cd doc dV kV ho hd hcd hD hmg hg args vals as hpre hlay hrd hwl hlo
 obtain rfl:dV=.none:=Dflts.none hD hdf
 obtain rfl:kV=.none:=Dflts.noKw hD
 obtain⟨a,vs,ns,rfl,rfl,hobj,hints,hlen⟩:=NQ hn hpre hwl
 refine enter_call (codeAny_mono (call w s₀ s₁ mg mb fa o pm cd doc a vs ns G Y ho (fd_plain hd) hcd hmg hobj hints hlen hg) fun r s' hq=>?_)
 obtain⟨rfl,h2,h3,h4⟩:=hq
 exact⟨.inl ⟨.bool true,.bool true,[],rfl,fun _=>rfl,.bool true,NT l _,fun _=>⟨List.Pairwise.nil,fun _ hm=>(nomatch hm)⟩⟩,h2,h3,h4⟩
section
variable {prog:Program} {w:World} {A:Around} {E:Value->Shared->Prop} {s:Shared} {K:Frag}
end
end Att
namespace L2
open PySem PySem.Spec PyProof.Rows
theorem DP:∀ {vs:List Value} {ns:List Int},IntsAre vs ns->Vals (ns.map V.int) vs
 |_,_,.nil=>.nil
 |_,_,.cons n t h=>.cons ⟨t,rfl⟩ (DP h)
def Only (H:Hp):Prop:=∀ b,H b=none\/∃ o xs,H b=some (.wO o (.lst xs))
theorem Qj {P:Program} {w:World} {K:PySem.W.Frag} {mg mb:Str->Option Value} {CX:Lg} {k:Nat} {fa a:Addr} {fd:FuncData} {x:Str} {sp:Sp} {s₁:Shared} {vs:List Value} {ns:List Int}
  (KX:K.In s₁.heap) (hns:s₁.heap.Ns mainGlobals mg) (hb:s₁.heap.Ns builtinsNs mb) (hbb:∀ x:Str,x ≠ "__name__" → mb x=bootBuiltins x) (hlim:s₁.heap.NoLimit) (hg:s₁.gens=#[])
  (ha:s₁.heap.get? a=some { cls:=.type "list", data:=.seq vs.toArray }) (hi:IntsAre vs ns) (hl:ns.length<=sizeLine) (hr:lV k callerA)
  (F:∀ base:Heap,K.In base->base.Ns mainGlobals mg->bF P w K mg base CX k fa fd [x] sp) (hbind:∀ (s:Shared) (u:Value),BindsTo s fd ⟨[u],[]⟩ [(x,u)])
  (hsp:∀ H:Hp,Only H->qw K H a (ns.map V.int)->sp [.ref a] H (fun v _=>v=.bl true) fun _ _ _=>False)
  (Z0:∀ H e s',CX [] H s₁ (fun _ _ _=>False) e s'->False) :
  codeAny (model P w) callerA (.call (.ref fa) ⟨[.ref a],[]⟩) (fun r s'=>r=.ok (.ret (.bool true))/\OldK s₁.heap s'.heap/\s'.os=s₁.os/\AllBare s'.gens) s₁:=by
 have rv:=DP hi
 have lenV:=hi.length
 have core:∀ H:Hp,Only H->qw K H a (ns.map V.int)->vC P w H s₁.heap->(∀ b,H b≠none->b=a)->(H a≠none->K.lookup a=none) →
   codeAny (model P w) callerA (.call (.ref fa) ⟨[.ref a],[]⟩) (fun r s'=>r=.ok (.ret (.bool true))/\OldK s₁.heap s'.heap/\s'.os=s₁.os/\AllBare s'.gens) s₁:=by
  intro H hO hS hok hA hK
  have Lq:∀ {b:Addr} {o:Obj},s₁.heap.get? b=some o->H b=none->(Fg s₁.heap H).get? b=some o:=fun e n=>Ph e n
  have ZG:∀ {b:Addr} {o:Obj} {es:Array DictEntry} {ep:Nat},s₁.heap.get? b=some o->o.data=.dict es ep->H b=none:=fun {b o es ep} e d=>by
   cases q:H b with
   |none=>rfl
   |some u=>
    have e':b=a:=hA b (by rw[q];simp)
    subst e'
    rw[ha] at e;cases e
    have d':Data.seq vs.toArray _=Data.dict es ep:=d
    cases d'
  have nsK:∀ {b:Addr} {m:Str->Option Value},s₁.heap.Ns b m->(Fg s₁.heap H).Ns b m:=fun {b m} ⟨o,es,ep,e,d,r⟩=>⟨o,es,ep,Lq e (ZG e d),d,r⟩
  have hKb:K.In (Fg s₁.heap H):=fun b o e=>Lq (KX b o e) (by
   cases q:H b with
   |none=>rfl
   |some u=>
    have e':b=a:=hA b (by rw[q];simp)
    subst e'
    rw[hK (by rw[q];simp)] at e;cases e)
  have hM:Mod K mg (Fg s₁.heap H):=⟨hKb,nsK hns,⟨mb,nsK hb,hbb⟩,let ⟨mc,h1,h2⟩:=hlim;⟨mc,nsK h1,h2⟩⟩
  have e0:JD P w K mg (Fg s₁.heap H) callerA [] s₁ H:=⟨rfl,hM,fun b o e=>TQ e,Nat.le_of_eq (Nf _ _),trivial,fun b hb=>absurd (show b∈([]:List Addr) from hb) (by simp),hok,.of_eq hg⟩
  refine codeAny_mono ((F _ hKb (nsK hns)).run callerA [] s₁ H ⟨[.ref a],[]⟩ [.ref a] [.ref a] _ _ hr e0 (hbind s₁ (.ref a)) (.cons rfl .nil) (hsp H hO hS)) fun r s' h=>?_
  cases r with
  |error e=>exact (Z0 H e s' h).elim
  |ok fl=>
   cases fl with
   |next=>exact False.elim h
   |brk=>exact False.elim h
   |cont=>exact False.elim h
   |ret u=>
    obtain⟨v,H',os,bare,un,hok',r',q⟩:=h
    have q':v=.bl true:=q
    subst q'
    obtain rfl:u=Value.bool true:=r'
    refine⟨rfl,OldK.of_keep fun b o e=>?_,os,bare⟩
    cases q:H b with
    |none=>exact un.keep b o e q (by intro z;exact absurd (show b∈([]:List Addr) from z) (by simp)) (by simp)
    |some u=>
     rcases hO b with z|⟨ob,xs,z⟩
     ·rw[q] at z;cases z
     ·have z2:=un.vG b ob _ z
      obtain⟨e1,_⟩:=hok b _ z
      obtain⟨e2,_⟩:=hok' b _ z2
      rw[e] at e1;cases e1
      exact e2
 cases hk:K.lookup a with
 |some o=>
  have e:=KX a o hk
  rw[ha] at e
  cases e
  refine core (fun _=>none) (fun _=>.inl rfl) (.inr ⟨_,vs.toArray,_,hk,rfl,rfl,rfl,by rw[List.size_toArray,lenV];exact hl,by simpa using rv⟩) (fun b u z=>by have z':(none:Option HO)=some u:=z;cases z') (fun b z=>absurd rfl z) fun z=>absurd rfl z
 |none=>
  refine core (fun b=>if b=a then some (.wO { cls:=.type "list", data:=.seq vs.toArray } (.lst (ns.map V.int))) else none) (fun b=>?_) (.inl (.inr ⟨{ cls:=.type "list", data:=.seq vs.toArray },if_pos rfl⟩)) (fun b u z=>?_) (fun b z=>?_) fun _=>hk
  ·by_cases hb:b=a
   ·exact .inr ⟨_,_,if_pos hb⟩
   ·exact .inl (if_neg hb)
  ·by_cases hb:b=a
   ·have z':=(if_pos hb).symm.trans z
    cases z'
    subst hb
    exact⟨ha,by rw[List.length_map];exact hl,vs,_,rv,ha⟩
   ·have z':=(if_neg hb).symm.trans z
    cases z'
  ·by_cases hb:b=a
   ·exact hb
   ·exact absurd (if_neg hb) z
end L2
namespace L2
open PySem PySem.Spec PyProof.Rows
theorem Uq {l:PySem.W.OpenLaw} {n k:Nat} {q:Program} {loose:List Str} {XP:(Str->Option Value)->Heap->Prop} {YP:World->Heap->Prop} {d:DefRec} {K:Params->PySem.W.Frag} {CX:World->Lg} {sp:World->Sp} {x:Str}
  (hn:l.most=some n) (hn2:n<=sizeLine) (hdf:d.params.defaults=[]) (hr:lV k callerA)
  (hY:∀ (w:World) (h:Heap),YP w h->(K w.params).In h)
  (F:∀ (w:World) (mg:Str->Option Value) (fa:Addr) (h:Heap),(K w.params).In h->h.Ns mainGlobals mg->mg d.name=some (.ref fa) →
   ∃ fd:FuncData,(∀ (s:Shared) (u:Value),BindsTo s fd ⟨[u],[]⟩ [(x,u)]) ∧
    ∀ base:Heap,(K w.params).In base->base.Ns mainGlobals mg->bF l.prog w (K w.params) mg base (CX w) k fa fd [x] (sp w))
  (hsp:∀ (w:World) (H:Hp) (a:Addr) (ns:List Int),ns.length<=n->Only H->qw (K w.params) H a (ns.map V.int)->sp w [.ref a] H (fun v _=>v=.bl true) fun _ _ _=>False)
  (Z0:∀ (w:World) (H:Hp) (s:Shared) (e:Value) (s':Shared),CX w [] H s (fun _ _ _=>False) e s'->False) :
  PySem.W.WalkO q loose XP YP l.row.toRowW d [] (fun f vs=>PySem.call f vs):=by
 refine Att.Hj hn hdf fun w s₀ s₁ mg mb fa o pm cd doc a vs ns G Y ho hd hcd hmg hobj hints hlen hg=>?_
 have KX:=hY w _ Y
 obtain⟨fd,hb,hF⟩:=F w mg fa _ KX G.T.g hmg
 exact Qj KX G.T.g G.T.b G.T.builtins G.T.nolimit hg hobj hints (Nat.le_trans hlen hn2) hr hF hb (fun H hO hS=>hsp w H a ns hlen hO hS) fun H e s'=>Z0 w H s₁ e s'
theorem Qk {l:PySem.W.OpenLaw} {n k:Nat} {q:Program} {loose:List Str} {XP:(Str->Option Value)->Heap->Prop} {YP:World->Heap->Prop} {d:DefRec} {K:Params->PySem.W.Frag} {CX:Lg} {sp:PySem.W.Frag->Sp} {x:Str}
  (hn:l.most=some n) (hn2:n<=sizeLine) (hdf:d.params.defaults=[]) (hr:lV k callerA)
  (hY:∀ (w:World) (h:Heap),YP w h->(K w.params).In h)
  (F:∀ (w:World) (mg:Str->Option Value) (fa:Addr) (h:Heap),(K w.params).In h->h.Ns mainGlobals mg->mg d.name=some (.ref fa) →
   ∃ fd:FuncData,(∀ (s:Shared) (u:Value),BindsTo s fd ⟨[u],[]⟩ [(x,u)]) ∧
    ∀ base:Heap,(K w.params).In base->base.Ns mainGlobals mg->bF l.prog w (K w.params) mg base CX k fa fd [x] (sp (K w.params)))
  (hsp:∀ (K:PySem.W.Frag) (H:Hp) (a:Addr) (ns:List Int),ns.length<=n->Only H->qw K H a (ns.map V.int)->sp K [.ref a] H (fun v _=>v=.bl true) fun _ _ _=>False)
  (Z0:∀ (H:Hp) (s:Shared) (e:Value) (s':Shared),CX [] H s (fun _ _ _=>False) e s'->False) :
  PySem.W.WalkO q loose XP YP l.row.toRowW d [] (fun f vs=>PySem.call f vs):=
 Uq (K:=K) (CX:=fun _=>CX) (sp:=fun w=>sp (K w.params)) hn hn2 hdf hr hY F (fun w H a ns h1 h2 h3=>hsp (K w.params) H a ns h1 h2 h3) fun _ H s e s'=>Z0 H s e s'
end L2
namespace L2
open PySem PySem.Spec PyProof.Rows
def bI (s:Stmt):Arguments:=match s with
 |.FunctionDef _ a _ _ _ _ _ _ _ _=>a
 |_=>{ posonlyargs:=[],args:=[],vararg:=none,kwonlyargs:=[],kw_defaults:=[],kwarg:=none,defaults:=[] }
def bf (s:Stmt):List Stmt:=match s with
 |.FunctionDef _ _ b _ _ _ _ _ _ _=>b
 |_=>[]
def aG (s:Stmt):Scope:=match s with
 |.FunctionDef _ _ _ _ _ _ sc _ _ _=>sc
 |_=>{ kind:=.function,names:=[],isGenerator:=false,isCoroutine:=false }
abbrev jf:Lg:=fun _ _ _ _ _ _=>False
abbrev E0:XK:=fun _ _ _=>False
theorem Z1 {X:Cx}:Passes jf X E0:=fun _ _ _ _ _ _ _ h=>h.elim
structure uP (K:PySem.W.Frag) (x qual:Str) (st:Stmt) (f:Addr) (fd:FuncData):Prop where
 ex:∃ (oc:Value) (od:Option Addr) (kV doc pm:Value) (an:Option Addr) (cdv ct:Value) (osl:Array (Option Value)),
  fd=PySem.W.fnOf x qual (bI st) (bf st) (aG st) .none kV doc pm an cdv ct/\K.lookup f=some ⟨oc,od,.func fd,osl⟩/\PySem.W.codeIn K cdv qual=true
 kp:PySem.W.keepIn K (.ref f)=true
section
variable {P:Program} {w:World} {K:PySem.W.Frag} {mg:Str->Option Value} {base:Heap}
theorem uP.ok {x qual:Str} {st:Stmt} {f:Addr} {fd:FuncData} {N ps:List Str} {k:Nat} {sp:Sp} (F:uP K x qual st f fd) (S:bB N ps (aG st)) (len:∀ vs H Q E,sp vs H Q E->vs.length=ps.length)
  (hbody:∀ (cdv:Value) (A:Around) (outer:List Env) (s:Shared) (H:Hp) (vs:List V) (Q:VK) (E:XK),lV k (A.deeper (envOfC qual (aG st) s.heap.objs.size f cdv))->sp vs H Q E →
   ∃ t,Jw (Fo jf P w K mg base N qual (aG st) f cdv A outer s H E).Pq (bf st) t/\t { nx:=fun _ H'=>Q .non H',rt:=Q } (start N vs) H):bF P w K mg base jf (k+1) f fd ps sp:=by
 obtain⟨oc,od,kV,doc,pm,an,cdv,ct,osl,rfl,lk,hcd⟩:=F.ex
 refine ZJ lk hcd S len fun A outer s H vs Q E hr hsp=>?_
 obtain⟨t,h,q⟩:=hbody cdv A outer s H vs Q E hr hsp
 exact⟨t,h.Pq,q⟩
theorem uP.binds {x qual:Str} {st:Stmt} {f:Addr} {fd:FuncData} {ps:List Str} (F:uP K x qual st f fd)
  (h:∀ (kV doc pm:Value) (an:Option Addr) (cdv ct:Value) (us:List Value),us.length=ps.length->bindArgs (PySem.W.fnOf x qual (bI st) (bf st) (aG st) .none kV doc pm an cdv ct) ⟨us,[]⟩=pure (ps.zip us)):Binds K fd ps []:=by
 obtain⟨oc,od,kV,doc,pm,an,cdv,ct,osl,rfl,lk,hcd⟩:=F.ex
 exact .all (h kV doc pm an cdv ct)
theorem dM {x qual:Str} {st:Stmt} {f:Addr} {oc:Value} {od an:Option Addr} {osl:Array (Option Value)} {kV doc pm cdv ct:Value} (l:K.lookup f=some ⟨oc,od,.func (PySem.W.fnOf x qual (bI st) (bf st) (aG st) .none kV doc pm an cdv ct),osl⟩)
  (c:PySem.W.codeIn K cdv qual=true) (k:PySem.W.keepIn K (.ref f)=true):uP K x qual st f (PySem.W.fnOf x qual (bI st) (bf st) (aG st) .none kV doc pm an cdv ct):=⟨⟨oc,od,kV,doc,pm,an,cdv,ct,osl,rfl,l,c⟩,k⟩
end
section
variable {X:Cx}
end
def Same (H H':Hp):Prop:=∀ b o,H b=some o->H' b=some o
theorem Same.refl (H:Hp):Same H H:=fun _ _ h=>h
theorem Same.trans {H H1 H2:Hp} (a:Same H H1) (b:Same H1 H2):Same H H2:=fun c o h=>b c o (a c o h)
theorem Same.free {H H':Hp} (e:Same H H') {l:Addr} (h:H' l=Option.none):H l=Option.none:=by
 cases q:H l with
 |none=>rfl
 |some o=>
  rw[e l o q] at h
  cases h
theorem Same.seq {K:PySem.W.Frag} {H H':Hp} {a:Addr} {xs:List V} (e:Same H H') (h:qw K H a xs):qw K H' a xs:=by
 rcases h with (h|⟨o,h⟩)|h
 ·exact .inl (.inl (e _ _ h))
 ·exact .inl (.inr ⟨o,e _ _ h⟩)
 ·exact .inr h
end L2
end
section
namespace P1
open PySem PySem.Spec PyProof.Rows L2
inductive Dt where
 |non|bl (b:Bool)|int (i:Int)|str (x:Str)|tup (xs:List Dt)|lst (xs:List Dt)|emp
inductive Bx where
 |z (d:Dt)|l (ds:List Dt)|o (ds:List Dt)|n (kvs:List (Key×Dt))|m (kvs:List (Key×Dt)) (w:Option Addr)
abbrev Ev:=List (Option Bx)
def Z2 (K:PySem.W.Frag) (H:Hp) (a:Addr) (xs:List V):Prop:=
 (∃ o,H a=some (.wO o (.lst xs))) ∨
  ∃ (o:Obj) (its:Array Value) (n:Nat),K.lookup a=some o/\o.cls=.type "list" ∧ o.dict=none/\o.data=.seq its n/\its.size<=sizeLine/\Vals xs its.toList
theorem Z2.sq {K:PySem.W.Frag} {H:Hp} {a:Addr} {xs:List V} (h:Z2 K H a xs):qw K H a xs:=by
 rcases h with h|h
 ·exact .inl (.inr h)
 ·exact .inr h
mutual
def Rep (K:PySem.W.Frag) (H:Hp):Dt->V->Prop
 |.non,v=>v=.non
 |.bl b,v=>v=.bl b
 |.int i,v=>v=.int i
 |.str x,v=>v=.str x/\x.length<=sizeLine
 |.tup ds,v=>∃ a vs,v=.ref a/\vH K H a vs/\aJ K H ds vs
 |.lst ds,v=>∃ a vs,v=.ref a/\Z2 K H a vs/\aJ K H ds vs
 |.emp,v=>∃ a o,v=.ref a/\H a=some (.wO o (.dK []))
def aJ (K:PySem.W.Frag) (H:Hp):List Dt->List V->Prop
 |[],vs=>vs=[]
 |d::ds,vs=>∃ v r,vs=v::r/\Rep K H d v/\aJ K H ds r
end
structure Kp (H H':Hp):Prop where
 t:∀ a xs,H a=some (.tup xs)->H' a=some (.tup xs)
 f:∀ a o u,H a=some (.wO o u)->H' a=some (.wO o u)
theorem Kp.of {H H':Hp} (s:Same H H'):Kp H H':=⟨fun a _ h=>s a _ h,fun a _ _ h=>s a _ h⟩
theorem Kp.sqT {K:PySem.W.Frag} {H H':Hp} {a:Addr} {xs:List V} (k:Kp H H') (h:vH K H a xs):vH K H' a xs:=by
 rcases h with (h|⟨o,h⟩)|h
 ·exact .inl (.inl (k.t _ _ h))
 ·exact .inl (.inr ⟨o,k.f _ _ _ h⟩)
 ·exact .inr h
theorem Kp.fzL {K:PySem.W.Frag} {H H':Hp} {a:Addr} {xs:List V} (k:Kp H H') (h:Z2 K H a xs):Z2 K H' a xs:=by
 rcases h with⟨o,h⟩|h
 ·exact .inl ⟨o,k.f _ _ _ h⟩
 ·exact .inr h
theorem Kp.lst {H:Hp} {a:Addr} {xs:List V} {o:HO} (h:H a=some (.lst xs)):Kp H (upd H a o):=by
 refine⟨fun b ys e=>?_,fun b ob u e=>?_⟩
 ·rw[aO (qX e h (by intro z;cases z))];exact e
 ·rw[aO (qX e h (by intro z;cases z))];exact e
theorem Kp.dk {H:Hp} {a:Addr} {xs:List (Key×V)} {o:HO} (h:H a=some (.dK xs)):Kp H (upd H a o):=by
 refine⟨fun b ys e=>?_,fun b ob u e=>?_⟩
 ·rw[aO (qX e h (by intro z;cases z))];exact e
 ·rw[aO (qX e h (by intro z;cases z))];exact e
mutual
theorem Rep.kp {K:PySem.W.Frag} {H H':Hp} (k:Kp H H'):∀ {d:Dt} {v:V},Rep K H d v->Rep K H' d v
 |.non,_,h=>by simpa only[Rep] using h
 |.bl _,_,h=>by simpa only[Rep] using h
 |.int _,_,h=>by simpa only[Rep] using h
 |.str _,_,h=>by simpa only[Rep] using h
 |.tup ds,_,h=>by
  simp only[Rep] at h ⊢
  obtain⟨a,vs,e,q,r⟩:=h
  exact⟨a,vs,e,k.sqT q,aJ.kp k r⟩
 |.lst ds,_,h=>by
  simp only[Rep] at h ⊢
  obtain⟨a,vs,e,q,r⟩:=h
  exact⟨a,vs,e,k.fzL q,aJ.kp k r⟩
 |.emp,_,h=>by
  simp only[Rep] at h ⊢
  obtain⟨a,o,e,q⟩:=h
  exact⟨a,o,e,k.f _ _ _ q⟩
theorem aJ.kp {K:PySem.W.Frag} {H H':Hp} (k:Kp H H'):∀ {ds:List Dt} {vs:List V},aJ K H ds vs->aJ K H' ds vs
 |[],_,h=>by simpa only[aJ] using h
 |d::ds,_,h=>by
  simp only[aJ] at h ⊢
  obtain⟨v,r,e,q,t⟩:=h
  exact⟨v,r,e,Rep.kp k q,aJ.kp k t⟩
end
theorem aJ.length {K:PySem.W.Frag} {H:Hp}:∀ {ds:List Dt} {vs:List V},aJ K H ds vs->vs.length=ds.length
 |[],_,h=>by simp only[aJ] at h;subst h;rfl
 |d::ds,_,h=>by
  simp only[aJ] at h
  obtain⟨v,r,rfl,_,t⟩:=h
  simp[aJ.length t]
theorem aJ.nil {K:PySem.W.Frag} {H:Hp}:aJ K H [] []:=by simp only[aJ]
theorem aJ.cons {K:PySem.W.Frag} {H:Hp} {d:Dt} {v:V} {ds:List Dt} {vs:List V} (h:Rep K H d v) (t:aJ K H ds vs):aJ K H (d::ds) (v::vs):=by
 simp only[aJ];exact⟨v,vs,rfl,h,t⟩
theorem aJ.append {K:PySem.W.Frag} {H:Hp}:∀ {ds es:List Dt} {vs us:List V},aJ K H ds vs->aJ K H es us->aJ K H (ds++es) (vs++us)
 |[],_,_,_,h,t=>by simp only[aJ] at h;subst h;exact t
 |d::ds,_,_,_,h,t=>by
  simp only[aJ] at h
  obtain⟨v,r,rfl,q,h⟩:=h
  exact aJ.cons q (aJ.append h t)
theorem aJ.drop {K:PySem.W.Frag} {H:Hp}:∀ (n:Nat) {ds:List Dt} {vs:List V},aJ K H ds vs->aJ K H (ds.drop n) (vs.drop n)
 |0,_,_,h=>h
 |n+1,[],_,h=>by simp only[aJ] at h;subst h;exact aJ.nil
 |n+1,d::ds,_,h=>by
  simp only[aJ] at h
  obtain⟨v,r,rfl,q,h⟩:=h
  exact aJ.drop n h
theorem aJ.take {K:PySem.W.Frag} {H:Hp}:∀ (n:Nat) {ds:List Dt} {vs:List V},aJ K H ds vs->aJ K H (ds.take n) (vs.take n)
 |0,_,_,_=>aJ.nil
 |n+1,[],_,h=>by simp only[aJ] at h;subst h;exact aJ.nil
 |n+1,d::ds,_,h=>by
  simp only[aJ] at h
  obtain⟨v,r,rfl,q,h⟩:=h
  exact aJ.cons q (aJ.take n h)
theorem aJ.get {K:PySem.W.Frag} {H:Hp}:∀ {ds:List Dt} {vs:List V} {i:Nat} {d:Dt},aJ K H ds vs->ds[i]?=some d->∃ v,vs[i]?=some v/\Rep K H d v
 |[],_,_,_,_,e=>by simp at e
 |d::ds,_,0,_,h,e=>by
  simp only[aJ] at h
  obtain⟨v,r,rfl,q,h⟩:=h
  simp at e;subst e;exact⟨v,rfl,q⟩
 |d::ds,_,i+1,_,h,e=>by
  simp only[aJ] at h
  obtain⟨v,r,rfl,q,h⟩:=h
  obtain⟨u,e1,e2⟩:=aJ.get h (i:=i) (by simpa using e)
  exact⟨u,by simpa using e1,e2⟩
def XJ:Key->Prop
 |.inl _=>True
 |.inr x=>x.length<=sizeLine
def gM (K:PySem.W.Frag) (H:Hp) (kvs:List (Key×Dt)) (ks:List (Key×V)):Prop:=ks.map (·.1)=kvs.map (·.1)/\aJ K H (kvs.map (·.2)) (ks.map (·.2))/\∀ p∈kvs,XJ p.1
theorem gM.kp {K:PySem.W.Frag} {H H':Hp} {kvs:List (Key×Dt)} {ks:List (Key×V)} (h:gM K H kvs ks) (k:Kp H H'):gM K H' kvs ks:=⟨h.1,h.2.1.kp k,h.2.2⟩
def aU (K:PySem.W.Frag) (H:Hp):Bx->V->Prop
 |.z d,v=>Rep K H d v
 |.l ds,v=>∃ a vs,v=.ref a/\Rd H a (.lst vs)/\aJ K H ds vs
 |.o ds,v=>∃ a vs,v=.ref a/\H a=some (.lst vs)/\aJ K H ds vs
 |.n kvs,v=>∃ a ks,v=.ref a/\Rd H a (.dK ks)/\gM K H kvs ks
 |.m kvs w,v=>∃ a ks,v=.ref a/\H a=some (.dK ks)/\gM K H kvs ks/\∀ b,w=some b->b=a
theorem aU.same {K:PySem.W.Frag} {H H':Hp} (s:Same H H') {b:Bx} {v:V} (h:aU K H b v):aU K H' b v:=by
 cases b with
 |z d=>exact Rep.kp (.of s) h
 |l ds=>
  obtain⟨a,vs,e,q,r⟩:=h
  refine⟨a,vs,e,?_,r.kp (.of s)⟩
  rcases q with q|⟨o,q⟩
  ·exact .inl (s _ _ q)
  ·exact .inr ⟨o,s _ _ q⟩
 |o ds=>
  obtain⟨a,vs,e,q,r⟩:=h
  exact⟨a,vs,e,s _ _ q,r.kp (.of s)⟩
 |n kvs=>
  obtain⟨a,vs,e,q,r⟩:=h
  refine⟨a,vs,e,?_,r.kp (.of s)⟩
  rcases q with q|⟨o,q⟩
  ·exact .inl (s _ _ q)
  ·exact .inr ⟨o,s _ _ q⟩
 |m kvs _=>
  obtain⟨a,vs,e,q,r⟩:=h
  exact⟨a,vs,e,s _ _ q,r.1.kp (.of s),r.2⟩
def uz:Bx->Option (List Dt)
 |.z (.lst ds)=>some ds
 |.l ds=>some ds
 |.o ds=>some ds
 |_=>none
theorem aU.Fy {K:PySem.W.Frag} {H:Hp} {b:Bx} {v:V} {ds:List Dt} (h:aU K H b v) (e:uz b=some ds):∃ a vs,v=.ref a/\qw K H a vs/\aJ K H ds vs:=by
 cases b with
 |z d=>
  cases d<;>first|(cases e;done)|skip
  cases e
  simp only[aU,Rep] at h
  obtain⟨a,vs,e,q,r⟩:=h
  exact⟨a,vs,e,q.sq,r⟩
 |l ds'=>
  cases e
  obtain⟨a,vs,e,q,r⟩:=h
  exact⟨a,vs,e,.inl q,r⟩
 |o ds'=>
  cases e
  obtain⟨a,vs,e,q,r⟩:=h
  exact⟨a,vs,e,.inl (.inl q),r⟩
 |n _=>cases e
 |m _ _=>cases e
abbrev rO (K:PySem.W.Frag) (H:Hp):List Bx->List V->Prop:=Paired (aU K H)
theorem rO.same {K:PySem.W.Frag} {H H':Hp} (s:Same H H') {bs:List Bx} {vs:List V} (h:rO K H bs vs):rO K H' bs vs:=Paired.imp' (fun _ _ q=>aU.same s q) h
def Nw (H:Hp):Bx->V->Prop
 |.o _,v=>∀ a,v=.ref a->H a=none
 |.m _ _,v=>∀ a,v=.ref a->H a=none
 |_,_=>True
theorem Nw.old {H H1:Hp} (s:Same H H1) {b:Bx} {v:V} (h:Nw H1 b v):Nw H b v:=by
 cases b with
 |o ds=>exact fun a e=>s.free (h a e)
 |m ds _=>exact fun a e=>s.free (h a e)
 |_=>trivial
def loose:Bx->Bool
 |.z _=>false
 |_=>true
def uQ:Bx->Bool
 |.o _=>true
 |.m _ _=>true
 |_=>false
structure aV (K:PySem.W.Frag) (H0 H:Hp) (σ:L2.St) (ρ:Ev):Prop where
 len:σ.length=ρ.length
 val:∀ (i:Nat) b,ρ[i]?=some (some b)->∃ v,σ[i]?=some (some v)/\aU K H b v
 own:∀ (i j:Nat) c a b,ρ[i]?=some (some c)->uQ c=true->σ[i]?=some (some (.ref a))->ρ[j]?=some (some b)->loose b=true->σ[j]?=some (some (.ref a))->i=j
 base:Same H0 H
 new:∀ (i:Nat) c a,ρ[i]?=some (some c)->uQ c=true->σ[i]?=some (some (.ref a))->H0 a=none
theorem aV.grow {K:PySem.W.Frag} {H0 H H':Hp} {σ:L2.St} {ρ:Ev} (r:aV K H0 H σ ρ) (s:Same H H'):aV K H0 H' σ ρ:=
 ⟨r.len,fun i b e=>let ⟨v,e1,h⟩:=r.val i b e;⟨v,e1,h.same s⟩,r.own,r.base.trans s,r.new⟩
def tF (K:PySem.W.Frag) (f:Ev->Option Bx):TE:=fun σ H Q=>∃ H0 ρ b,aV K H0 H σ ρ/\f ρ=some b/\∀ v H',Same H H'->Nw H b v->aU K H' b v->Q v H'
def tFA (K:PySem.W.Frag) (f:Ev->Option (List Bx)):TA:=fun σ H Q=>∃ H0 ρ bs,aV K H0 H σ ρ/\f ρ=some bs/\∀ vs H',Same H H'->rO K H' bs vs->Q vs H'
def Y8 (K:PySem.W.Frag) (f:Ev->Option Bool):TT:=fun σ H Q=>∃ H0 ρ b,aV K H0 H σ ρ/\f ρ=some b/\∀ H',Same H H'->Q b H'
def PV (X:Cx) (e:Expr) (f:Ev->Option Bx):Prop:=PE X e (tF X.K f)
structure QV (X:Cx) (e:Expr) (f:Ev->Option Bx):Prop where
 run:PV X e f
def Z4 (X:Cx) (es:List Expr) (f:Ev->Option (List Bx)):Prop:=PA X es (tFA X.K f)
structure Tt (X:Cx) (es:List Expr) (f:Ev->Option (List Bx)):Prop where
 run:Z4 X es f
def PB (X:Cx) (e:Expr) (f:Ev->Option Bool):Prop:=PT X e (Y8 X.K f)
structure QB (X:Cx) (e:Expr) (f:Ev->Option Bool):Prop where
 run:PB X e f
theorem Dj {X:Cx} {e:Expr} {t t':TE} (h:PE X e t) (m:∀ σ H Q,t' σ H Q->t σ H Q):PE X e t':=fun pins s σ H Q I q=>h pins s σ H Q I (m σ H Q q)
theorem paM {X:Cx} {e:List Expr} {t t':TA} (h:PA X e t) (m:∀ σ H Q,t' σ H Q->t σ H Q):PA X e t':=fun pos pins s σ H Q I q=>h pos pins s σ H Q I (m σ H Q q)
theorem ptM {X:Cx} {e:Expr} {t t':TT} (h:PT X e t) (m:∀ σ H Q,t' σ H Q->t σ H Q):PT X e t':=fun pins s σ H Q I q=>h pins s σ H Q I (m σ H Q q)
theorem pwM {X:Cx} {e:Expr} {t t':TT} (h:PW X e t) (m:∀ σ H Q,t' σ H Q->t σ H Q):PW X e t':=fun wh pins s σ H Q I q=>h wh pins s σ H Q I (m σ H Q q)
theorem Wc {X:Cx} {e:Stmt} {t t':TS} (h:PS X e t) (m:∀ D σ H,t' D σ H->t D σ H):PS X e t':=fun pins s σ H D I q=>h pins s σ H D I (m D σ H q)
theorem Ur {X:Cx} {e:List Stmt} {t t':TS} (h:Jw X e t) (m:∀ D σ H,t' D σ H->t D σ H):Jw X e t':=fun pins s σ H D I q=>h pins s σ H D I (m D σ H q)
def rF (K:PySem.W.Frag) (g:Bx->Bx->Option Bx):R2:=fun x y H Q=>∃ a b c,aU K H a x/\aU K H b y/\g a b=some c/\∀ w H',Same H H'->Nw H c w->aU K H' c w->Q w H'
def rFs (K:PySem.W.Frag) (g:List Bx->Option Bx):List V->Hp->VK->Prop:=fun xs H Q=>∃ bs c,rO K H bs xs/\g bs=some c/\∀ w H',Same H H'->Nw H c w->aU K H' c w->Q w H'
abbrev DQ (X:Cx) (f:Value->Value->Sem Value) (g:Bx->Bx->Option Bx):Prop:=rK X f (rF X.K g)
abbrev yj (X:Cx) (f:Value) (g:List Bx->Option Bx):Prop:=gP X f (rFs X.K g)
theorem rK.imp {X:Cx} {f:Value->Value->Sem Value} {r r':R2} (h:rK X f r) (m:∀ x y H Q,r' x y H Q->r x y H Q):rK X f r':=fun pins s σ H x y v u Q I rx ry q=>h pins s σ H x y v u Q I rx ry (m x y H Q q)
theorem UnR.imp {X:Cx} {f:Value->Sem Value} {r r':V->Hp->VK->Prop} (h:UnR X f r) (m:∀ x H Q,r' x H Q->r x H Q):UnR X f r':=fun pins s σ H x v Q I rx q=>h pins s σ H x v Q I rx (m x H Q q)
theorem gP.imp {X:Cx} {f:Value} {r r':List V->Hp->VK->Prop} (h:gP X f r) (m:∀ x H Q,r' x H Q->r x H Q):gP X f r':=fun pins s σ H xs us Q I rx q=>h pins s σ H xs us Q I rx (m xs H Q q)
def b2 (g:Bx->Bx->Option Bx) (fa fb:Ev->Option Bx):Ev->Option Bx:=fun ρ=>(fa ρ).bind fun x=>(fb ρ).bind fun y=>g x y
def b1 (g:Bx->Option Bx) (fa:Ev->Option Bx):Ev->Option Bx:=fun ρ=>(fa ρ).bind g
def gO (g:List Bx->Option Bx) (fs:Ev->Option (List Bx)):Ev->Option Bx:=fun ρ=>(fs ρ).bind g
theorem bind_some {α β:Type} {o:Option α} {f:α->Option β} {b:β} (h:o.bind f=some b):∃ a,o=some a/\f a=some b:=by
 cases o with
 |none=>cases h
 |some a=>exact⟨a,rfl,h⟩
theorem Ql {K:PySem.W.Frag} {g:Bx->Bx->Option Bx} {fa fb:Ev->Option Bx} (σ:L2.St) (H:Hp) (Q:VK) (h:tF K (b2 g fa fb) σ H Q):Zt (rF K g) (tF K fa) (tF K fb) σ H Q:=by
 obtain⟨H0,ρ,c,E,e,q⟩:=h
 obtain⟨a,ea,e⟩:=bind_some e
 obtain⟨b,eb,e⟩:=bind_some e
 refine⟨H0,ρ,a,E,ea,fun v H1 s1 n1 r1=>⟨H0,ρ,b,E.grow s1,eb,fun u H2 s2 n2 r2=>?_⟩⟩
 exact⟨a,b,c,r1.same s2,r2,e,fun w H3 s3 n3 r3=>q w H3 ((s1.trans s2).trans s3) (n3.old (s1.trans s2)) r3⟩
theorem convs {K:PySem.W.Frag} {g:List Bx->Option Bx} {fs:Ev->Option (List Bx)} (σ:L2.St) (H:Hp) (Q:VK) (h:tF K (gO g fs) σ H Q):tCB (rFs K g) (tFA K fs) σ H Q:=by
 obtain⟨H0,ρ,c,E,e,q⟩:=h
 obtain⟨a,ea,e⟩:=bind_some e
 exact⟨H0,ρ,a,E,ea,fun v H1 s1 r1=>⟨a,c,r1,e,fun w H3 s3 n3 r3=>q w H3 (s1.trans s3) (n3.old s1) r3⟩⟩
section
variable {X:Cx} {a b c e:Expr} {es:List Expr} {fa fb fc f:Ev->Option Bx} {fs:Ev->Option (List Bx)} {pos:Pos}
theorem aM {op:Operator} {g:Bx->Bx->Option Bx} (ho:DQ X (binaryOp op) g) (ha:QV X a fa) (hb:QV X b fb):QV X (.BinOp a op b pos) (b2 g fa fb):=⟨have ha:=ha.run;have hb:=hb.run;Dj (Zu ho ha hb) Ql⟩
theorem rP {op:CmpOp} {g:Bx->Bx->Option Bx} (ho:DQ X (compareOp op) g) (ha:QV X a fa) (hb:QV X b fb) (hm:behindInMarks op b=false):QV X (.Compare a [op] [b] pos) (b2 g fa fb):=⟨have ha:=ha.run;have hb:=hb.run;Dj (T5 ho ha hb hm) Ql⟩
def Fz:Bx->Option Bool
 |.z (.bl b)=>some b
 |_=>none
theorem Ad {K:PySem.W.Frag} {H:Hp} {b:Bx} {v:V} {k:Bool} (h:aU K H b v) (e:Fz b=some k):v=.bl k:=by
 cases b with
 |z d=>
  cases d<;>first|(cases e;done)|skip
  cases e
  simpa only[aU,Rep] using h
 |_=>cases e
theorem Z5 {K:PySem.W.Frag} {f:Ev->Option Bx} (σ:L2.St) (H:Hp) (Q:Bool->Hp->Prop) (h:Y8 K (fun ρ=>(f ρ).bind Fz) σ H Q):tF K f σ H (fun x H'=>∃ k,x=.bl k/\Q k H'):=by
 obtain⟨H0,ρ,k,E,e,q⟩:=h
 obtain⟨b,eb,e⟩:=bind_some e
 exact⟨H0,ρ,b,E,eb,fun v H1 s1 n1 r1=>⟨k,Ad r1 e,q H1 s1⟩⟩
theorem nj {op:CmpOp} {g:Bx->Bx->Option Bx} (ho:DQ X (compareOp op) g) (ha:QV X a fa) (hb:QV X b fb) (hm:behindInMarks op b=false):QB X (.Compare a [op] [b] pos) (fun ρ=>(b2 g fa fb ρ).bind Fz):=⟨have ha:=ha.run;have hb:=hb.run;ptM (Lf ho ha hb hm) fun σ H Q h=>Ql σ H _ (Z5 σ H Q h)⟩
def Z6 (g g':Bx->Bx->Option Bx) (fa fb fc:Ev->Option Bx):Ev->Option Bx:=fun ρ=>(fa ρ).bind fun x=>(fb ρ).bind fun y=>(g x y).bind fun r=>(Fz r).bind fun k=>if k=true then (fc ρ).bind fun w=>g' y w else some (.z (.bl false))
theorem Z7 {K:PySem.W.Frag} {g g':Bx->Bx->Option Bx} {fa fb fc:Ev->Option Bx} (σ:L2.St) (H:Hp) (Q:VK) (h:tF K (Z6 g g' fa fb fc) σ H Q):PK (rF K g) (rF K g') (tF K fa) (tF K fb) (tF K fc) σ H Q:=by
 obtain⟨H0,ρ,d,E,e,q⟩:=h
 obtain⟨a,ea,e⟩:=bind_some e
 obtain⟨b,eb,e⟩:=bind_some e
 obtain⟨r,er,e⟩:=bind_some e
 obtain⟨k,ek,e⟩:=bind_some e
 refine⟨H0,ρ,a,E,ea,fun v H1 s1 n1 r1=>⟨H0,ρ,b,E.grow s1,eb,fun u H2 s2 n2 r2=>?_⟩⟩
 refine⟨a,b,r,r1.same s2,r2,er,fun w H3 s3 n3 r3=>⟨k,Ad r3 ek,?_⟩⟩
 have s03:=(s1.trans s2).trans s3
 cases k with
 |false=>
  rw[if_neg Bool.false_ne_true] at e ⊢
  cases e
  exact q _ H3 s03 trivial (by simp only[aU,Rep])
 |true=>
  rw[if_pos rfl] at e ⊢
  obtain⟨w',ew,e⟩:=bind_some e
  refine⟨H0,ρ,w',E.grow s03,ew,fun x H4 s4 n4 r4=>?_⟩
  exact⟨b,w',d,(r2.same s3).same s4,r4,e,fun y H5 s5 n5 r5=>q y H5 ((s03.trans s4).trans s5) (n5.old (s03.trans s4)) r5⟩
theorem Qm {op op':CmpOp} {g g':Bx->Bx->Option Bx} (ho:DQ X (compareOp op) g) (ho':DQ X (compareOp op') g') (ha:QV X a fa) (hb:QV X b fb) (hc:QV X c fc) (hm:lastMarks [op,op'] [b,c]=false:=by with_unfolding_all rfl):QV X (.Compare a [op,op'] [b,c] pos) (Z6 g g' fa fb fc):=⟨have ha:=ha.run;have hb:=hb.run;have hc:=hc.run;Dj (PL ho ho' ha hb hc hm) Z7⟩
def yW (ρ:Ev) (i:Nat):Option Bx:=match ρ[i]? with
 |some (some (.o ds))=>some (.l ds)
 |some (some (.m kvs _))=>some (.n kvs)
 |some (some b)=>some b
 |_=>none
theorem Hl {K:PySem.W.Frag} {H0 H:Hp} {σ:L2.St} {ρ:Ev} {i:Nat} {b:Bx} (E:aV K H0 H σ ρ) (e:yW ρ i=some b):∃ v,σ[i]?=some (some v)/\aU K H b v:=by
 unfold yW at e
 split at e
 ·rename_i ds h
  cases e
  obtain⟨v,e1,a,vs,e2,q,r⟩:=E.val i _ h
  exact⟨v,e1,a,vs,e2,.inl q,r⟩
 ·rename_i ds h
  cases e
  obtain⟨v,e1,a,vs,e2,q,r⟩:=E.val i _ h
  exact⟨v,e1,a,vs,e2,.inl q,r.1⟩
 ·rename_i b' h
  cases e
  exact E.val i _ h
 ·cases e
theorem zL {ρ:Ev} {i:Nat} {b:Bx} (e:yW ρ i=some b):uQ b=false:=by
 unfold yW at e
 split at e
 ·cases e;rfl
 ·cases e;rfl
 ·rename_i b' h1 h2 h3
  cases e
  cases b with
  |o ds=>exact absurd rfl (h1 ds)
  |m ds _=>exact absurd rfl (h2 ds _)
  |_=>rfl
 ·cases e
theorem ak (i:Nat) {x:Str} (hN:X.N[i]?=some x:=by rfl) (hv:Tq X.env.scope x:=by first|exact Or.inl rfl|exact Or.inr (Or.inl rfl)|exact Or.inr (Or.inr rfl)) (hd:(x==("__debug__" : Str))=false:=by decide) (hcd:(x==("__classdict__" : Str))=false:=by decide):QV X (.Name x pos) (fun ρ=>yW ρ i):=⟨Dj (rH hN hv hd hcd) fun σ H Q h=>by
 obtain⟨H0,ρ,b,E,e,q⟩:=h
 obtain⟨v,e1,r⟩:=Hl E e
 refine⟨v,e1,q v H (Same.refl H) ?_ r⟩
 cases b with
 |o ds=>have:=zL e;cases this
 |m ds _=>have:=zL e;cases this
 |_=>trivial⟩
def cB (d:Dt):Ev->Option Bx:=fun _=>some (.z d)
theorem NZ {v:V} {d:Dt} (h:PE X e (tC v)) (r:∀ H,Rep X.K H d v):PV X e (cB d):=Dj h fun σ H Q q=>by
 obtain⟨H0,ρ,b,E,e,q⟩:=q
 cases e
 exact q v H (Same.refl H) trivial (r H)
theorem aF {i j}:QV X (.Constant (.int i) j pos) (cB (.int i)):=⟨NZ W4 fun H=>by simp only[Rep]⟩
theorem Qn {i j}:QV X (.Constant (.bool i) j pos) (cB (.bl i)):=⟨NZ Zi fun H=>by simp only[Rep]⟩
theorem wY {j}:QV X (.Constant .none j pos) (cB .non):=⟨NZ W5 fun H=>by simp only[Rep]⟩
theorem Qo {x:Str} {j} (hx:x.length<=sizeLine:=by decide):PV X (.Constant (.str x) j pos) (cB (.str x)):=NZ W6 fun H=>by unfold Rep;exact⟨rfl,hx⟩
theorem Ho {x:Str} {i:Int} {t:Tok} (hg:Gl X x) (hm:X.mg x=some (.int i t)) (hd:(x==("__debug__" : Str))=false:=by decide):QV X (.Name x pos) (cB (.int i)):=⟨NZ (K9 hg hm (v:=.int i) ⟨t,rfl⟩ hd) fun H=>by simp only[Rep]⟩
theorem Ae {x:Str} {y:Str} {t:Tok} (hg:Gl X x) (hm:X.mg x=some (.str y t)) (hy:y.length<=sizeLine:=by decide) (hd:(x==("__debug__" : Str))=false:=by decide):QV X (.Name x pos) (cB (.str y)):=⟨NZ (K9 hg hm (v:=.str y) ⟨t,rfl⟩ hd) fun H=>by unfold Rep;exact⟨rfl,hy⟩⟩
def N5:Bx->Option Bool
 |.z .non=>some false
 |.z (.bl b)=>some b
 |.z (.int i)=>some (i != 0)
 |.z (.str x)=>some ((x.length:Int) != 0)
 |.z (.tup ds)=>some (!ds.isEmpty)
 |.z (.lst ds)=>some (!ds.isEmpty)
 |.l ds=>some (!ds.isEmpty)
 |.o ds=>some (!ds.isEmpty)
 |.z .emp=>none
 |.n _=>none
 |.m _ _=>none
theorem aJ.isEmpty {K:PySem.W.Frag} {H:Hp} {ds:List Dt} {vs:List V} (h:aJ K H ds vs):(!ds.isEmpty)=!vs.isEmpty:=by
 have:=h.length
 cases ds<;>cases vs<;>simp_all
theorem Us {K:PySem.W.Frag} {H:Hp} {b:Bx} {v:V} {k:Bool} (r:aU K H b v) (e:N5 b=some k):Xl K v H k:=by
 cases b with
 |z d=>
  cases d with
  |non=>cases e;simp only[aU,Rep] at r;subst r;rfl
  |bl b=>cases e;simp only[aU,Rep] at r;subst r;rfl
  |int b=>cases e;simp only[aU,Rep] at r;subst r;rfl
  |str x=>cases e;simp only[aU,Rep] at r;obtain⟨rfl,h⟩:=r;exact⟨h,rfl⟩
  |tup ds=>
   cases e;simp only[aU,Rep] at r
   obtain⟨a,vs,rfl,q,r⟩:=r
   exact .inr (.inl ⟨vs,q,r.isEmpty⟩)
  |lst ds=>
   cases e
   obtain⟨a,vs,rfl,q,r⟩:=r.Fy rfl
   exact .inl ⟨vs,q,r.isEmpty⟩
  |emp=>cases e
 |l ds=>
  cases e
  obtain⟨a,vs,rfl,q,r⟩:=r.Fy rfl
  exact .inl ⟨vs,q,r.isEmpty⟩
 |o ds=>
  cases e
  obtain⟨a,vs,rfl,q,r⟩:=r.Fy rfl
  exact .inl ⟨vs,q,r.isEmpty⟩
 |n _=>cases e
 |m _ _=>cases e
theorem o9 (h:QV X e f) (he:∀ whole,isTrue e X.env whole=(do let v <-whole;standAt e.pos;holding [v] (truthy v)):=by intro _;rfl):QB X e (fun ρ=>(f ρ).bind N5):=⟨have h:=h.run;ptM (PN h he) fun σ H Q q=>by
 obtain⟨H0,ρ,k,E,e,q⟩:=q
 obtain⟨b,eb,e⟩:=bind_some e
 exact⟨H0,ρ,b,E,eb,fun v H1 s1 n1 r1=>⟨k,Us r1 e,q H1 s1⟩⟩⟩
def Tv (p q:Ev->Option Bool):Ev->Option Bool:=fun ρ=>(p ρ).bind fun c=>if c=true then some true else q ρ
def Af (p:Ev->Option Bool):Ev->Option Bool:=fun ρ=>(p ρ).bind fun c=>some (!c)
def PBW (X:Cx) (e:Expr) (f:Ev->Option Bool):Prop:=PW X e (Y8 X.K f)
structure QBW (X:Cx) (e:Expr) (f:Ev->Option Bool):Prop where
 run:PBW X e f
variable {p q:Ev->Option Bool} {rest:List Expr}
theorem zM (ha:QB X a p):QBW X (.BoolOp .Or [a] pos) p:=⟨have ha:=ha.run;Pk ha⟩
theorem XM {K:PySem.W.Frag} (σ:L2.St) (H:Hp) (Q:Bool->Hp->Prop) (h:Y8 K (Tv p q) σ H Q):tOr (Y8 K p) (Y8 K q) σ H Q:=by
 obtain⟨H0,ρ,k,E,e,w⟩:=h
 obtain⟨c,ec,e⟩:=bind_some e
 refine⟨H0,ρ,c,E,ec,fun H1 s1=>?_⟩
 cases c with
 |true=>rw[if_pos rfl] at e ⊢;cases e;exact w H1 s1
 |false=>rw[if_neg Bool.false_ne_true] at e ⊢;exact⟨H0,ρ,k,E.grow s1,e,fun H2 s2=>w H2 (s1.trans s2)⟩
theorem FJ (ha:QB X a p) (hb:QBW X (.BoolOp .Or (b::rest) pos) q):QBW X (.BoolOp .Or (a::b::rest) pos) (Tv p q):=⟨have ha:=ha.run;have hb:=hb.run;pwM (V3 ha hb) XM⟩
theorem Ut (h:QBW X e p):QB X e p:=⟨have h:=h.run;h.pt⟩
theorem uR (ha:QB X a p):QB X (.UnaryOp .Not a pos) (Af p):=⟨have ha:=ha.run;ptM (W7 ha) fun σ H Q h=>by
 obtain⟨H0,ρ,k,E,e,w⟩:=h
 obtain⟨c,ec,e⟩:=bind_some e
 cases e
 exact⟨H0,ρ,c,E,ec,fun H1 s1=>w H1 s1⟩⟩
def uD (fa fb:Ev->Option Bx):Ev->Option Bx:=fun ρ=>((fa ρ).bind Fz).bind fun c=>if c=true then fb ρ else some (.z (.bl false))
theorem Ag {op} (h:QV X a fa):QV X (.BoolOp op [a] pos) fa:=⟨have h:=h.run;W8 h⟩
theorem pq (ha:QV X a fa) (hb:QV X (.BoolOp .And (b::rest) pos) fb):QV X (.BoolOp .And (a::b::rest) pos) (uD fa fb):=⟨have ha:=ha.run;have hb:=hb.run;Dj (W9 ha hb) fun σ H Q h=>by
 obtain⟨H0,ρ,k,E,e,w⟩:=h
 obtain⟨c,ec,e⟩:=bind_some e
 obtain⟨x,ex,ec⟩:=bind_some ec
 refine⟨H0,ρ,x,E,ex,fun v H1 s1 n1 r1=>⟨c,Ad r1 ec,?_⟩⟩
 cases c with
 |true=>rw[if_pos rfl] at e ⊢;exact⟨H0,ρ,k,E.grow s1,e,fun v H2 s2 n2 r2=>w v H2 (s1.trans s2) (n2.old s1) r2⟩
 |false=>rw[if_neg Bool.false_ne_true] at e ⊢;cases e;exact w _ H1 s1 trivial (by simp only[aU,Rep])⟩
def Y9 (p:Ev->Option Bool) (fa fb:Ev->Option Bx):Ev->Option Bx:=fun ρ=>(p ρ).bind fun c=>if c=true then fa ρ else fb ρ
theorem JN (hc:QB X c p) (ha:QV X a fa) (hb:QV X b fb):QV X (.IfExp c a b pos) (Y9 p fa fb):=⟨have hc:=hc.run;have ha:=ha.run;have hb:=hb.run;Dj (Pn hc ha hb) fun σ H Q h=>by
 obtain⟨H0,ρ,k,E,e,w⟩:=h
 obtain⟨c,ec,e⟩:=bind_some e
 refine⟨H0,ρ,c,E,ec,fun H1 s1=>?_⟩
 cases c with
 |true=>rw[if_pos rfl] at e ⊢;exact⟨H0,ρ,k,E.grow s1,e,fun v H2 s2 n2 r2=>w v H2 (s1.trans s2) (n2.old s1) r2⟩
 |false=>rw[if_neg Bool.false_ne_true] at e ⊢;exact⟨H0,ρ,k,E.grow s1,e,fun v H2 s2 n2 r2=>w v H2 (s1.trans s2) (n2.old s1) r2⟩⟩
theorem zN:Z4 X [] (fun _=>some []):=paM wW fun σ H Q h=>by
 obtain⟨H0,ρ,bs,E,e,q⟩:=h
 cases e
 exact q [] H (Same.refl H) .nil
def aC (f:Ev->Option Bx) (fs:Ev->Option (List Bx)):Ev->Option (List Bx):=fun ρ=>(f ρ).bind fun b=>(fs ρ).bind fun bs=>some (b::bs)
theorem vJ (h1:PV X e f) (h2:Z4 X es fs) (hs:starEach (e::es) X.env=(false,eval e X.env)::starEach es X.env:=by rfl):Z4 X (e::es) (aC f fs):=paM (nZ h1 h2 hs) fun σ H Q h=>by
 obtain⟨H0,ρ,bs,E,e,q⟩:=h
 obtain⟨b,eb,e⟩:=bind_some e
 obtain⟨bs',Z8,e⟩:=bind_some e
 cases e
 refine⟨H0,ρ,b,E,eb,fun v H1 s1 n1 r1=>⟨H0,ρ,bs',E.grow s1,Z8,fun vs H2 s2 r2=>?_⟩⟩
 exact q (v::vs) H2 (s1.trans s2) (.cons (r1.same s2) r2)
def zO:Bx->Option Bx
 |.z d=>some (.z d)
 |.o ds=>some (.z (.lst ds))
 |.l _=>none
 |.n _=>none
 |.m _ _=>none
theorem JQ {pins:List (Addr×Obj)} {σ:L2.St} {H:Hp} {s:Shared} {a:Addr} {vs:List V} (I:L2.Inv X pins σ H s) (h:H a=some (.lst vs)):∃ o,L2.Inv X pins σ (upd H a (.wO o (.lst vs))) s:=by
 obtain⟨z,its,n,r,e⟩:=I.hok a _ h
 refine⟨{ cls:=.type "list", data:=.seq its.toArray n },⟨I.ok,I.os,I.bare,⟨I.base.keep,I.base.slot,fun b ob q1 q2 q3=>?_,I.base.there,fun b xs q=>?_,fun b ob u q=>?_,fun b ps q=>?_⟩,I.loc,I.cell,?_,fun x c q=>?_,fun p hp=>?_,?_,I.len⟩⟩
 ·have:=I.base.free b ob q1 q2 q3
  rw[aO (bY h this).symm];exact this
 ·have:=I.base.tups b xs q
  rw[aO (qX this h (by intro z;cases z))];exact this
 ·have:=I.base.vG b ob u q
  rw[aO (qX this h (by intro z;cases z))];exact this
 ·obtain⟨m,this⟩:=I.base.wQ b ps q
  rw[aO (qX this h (by intro z;cases z))];exact⟨m,this⟩
 ·rw[aO (bY h I.free).symm];exact I.free
 ·rw[aO (bY h (I.pF x c q)).symm];exact I.pF x c q
 ·obtain⟨q1,q2,q3⟩:=I.pin p hp
  refine⟨q1,?_,q3⟩
  rw[aO (bY h q2).symm];exact q2
 ·intro b u q
  by_cases hb:b=a
  ·subst hb
   rw[bx] at q;cases q
   exact⟨e,z,its,n,r,e⟩
  ·rw[aO hb] at q
   refine (I.hok b u q).stay (fun c v _ w=>w) (fun c w=>?_) fun c xs w=>?_
   ·rw[aO (qX w h (by intro z;cases z))];exact w
   ·rw[aO (qX w h (by intro z;cases z))];exact w
theorem lW (h:QV X e f):QV X e (b1 zO f):=⟨by
 have h:=h.run
 intro pins s σ H Q I q
 obtain⟨H0,ρ,b,E,e,q⟩:=q
 obtain⟨x,ex,e⟩:=bind_some e
 cases x with
 |z d=>
  cases e
  exact h pins s σ H Q I ⟨H0,ρ,_,E,ex,fun v H' s' n' r'=>q v H' s' trivial r'⟩
 |l ds=>cases e
 |n ds=>cases e
 |m ds _=>cases e
 |o ds=>
  cases e
  refine jF (h pins s σ H (fun v H'=>Same H H'/\Nw H (.o ds) v/\aU X.K H' (.o ds) v) I ⟨H0,ρ,_,E,ex,fun v H' s' n' r'=>⟨s',n',r'⟩⟩) fun u s1 hq=>?_
  obtain⟨v,H1,I1,rv,s',n',r'⟩:=hq
  obtain⟨a,vs,rfl,ha,rs⟩:=r'
  obtain⟨o,I2⟩:=JQ I1 ha
  refine⟨.ref a,_,I2,rv,q _ _ (fun c ob hc=>?_) trivial ?_⟩
  ·rw[aO (bY hc (n' a rfl))];exact s' c ob hc
  ·simp only[aU,Rep]
   exact⟨a,vs,rfl,.inl ⟨o,bx⟩,rs.kp (.lst ha)⟩⟩
def FN:List Bx->Option (List Dt)
 |[]=>some []
 |.z d::r=>(FN r).bind fun ds=>some (d::ds)
 |_=>none
theorem Ah {K:PySem.W.Frag} {H:Hp}:∀ {bs:List Bx} {vs:List V} {ds:List Dt},rO K H bs vs->FN bs=some ds->aJ K H ds vs
 |_,_,_,.nil,e=>by cases e;exact aJ.nil
 |b::bs,_,_,.cons h t,e=>by
  cases b with
  |z d=>
   simp only[FN] at e
   obtain⟨ds',e1,e2⟩:=bind_some e
   cases e2
   exact aJ.cons h (Ah t e1)
  |_=>cases e
theorem Ai:∀ {bs:List Bx} {ds:List Dt},FN bs=some ds->ds.length=bs.length
 |[],_,e=>by cases e;rfl
 |.z d::r,_,e=>by
  simp only[FN] at e
  obtain⟨ds',e1,e2⟩:=bind_some e
  cases e2
  simp[Ai e1]
 |.l _::_,_,e=>by cases e
 |.o _::_,_,e=>by cases e
 |.n _::_,_,e=>by cases e
 |.m _ _::_,_,e=>by cases e
def yX (bs:List Bx):Option Bx:=if bs.length<=1000 then (FN bs).bind fun ds=>some (.z (.tup ds)) else none
def rQ (bs:List Bx):Option Bx:=if bs.length<=1000 then (FN bs).bind fun ds=>some (.o ds) else none
theorem bQ {H:Hp} {p:Addr} {o:HO} (h:H p=none):Same H (upd H p o):=fun b u e=>by rw[aO (bY e h)];exact e
theorem Wf {n:Nat} (h:n<=1000):n<=sizeLine:=Nat.le_trans h (by decide)
theorem wZ {x1} (h:Tt X es fs):QV X (.Tuple es x1 pos) (gO yX fs):=⟨have h:=h.run;Dj (Xn h) fun σ H Q q=>by
 obtain⟨H0,ρ,c,E,e,q⟩:=q
 obtain⟨bs,Z8,e⟩:=bind_some e
 refine⟨H0,ρ,bs,E,Z8,fun vs H1 s1 r1=>?_⟩
 unfold yX at e
 split at e
 ·rename_i hl
  obtain⟨ds,e1,e⟩:=bind_some e
  cases e
  have r2:=Ah r1 e1
  refine⟨Wf (by rw[r2.length,Ai e1];exact hl),fun p hp=>q _ _ (s1.trans (bQ hp)) trivial ?_⟩
  simp only[aU,Rep]
  exact⟨p,vs,rfl,.inl (.inl bx),r2.kp (.of (bQ hp))⟩
 ·cases e⟩
theorem mz (h:Tt X es fs):QV X (.List es pos) (gO rQ fs):=⟨have h:=h.run;Dj (Xo h) fun σ H Q q=>by
 obtain⟨H0,ρ,c,E,e,q⟩:=q
 obtain⟨bs,Z8,e⟩:=bind_some e
 refine⟨H0,ρ,bs,E,Z8,fun vs H1 s1 r1=>?_⟩
 unfold rQ at e
 split at e
 ·rename_i hl
  obtain⟨ds,e1,e⟩:=bind_some e
  cases e
  have r2:=Ah r1 e1
  refine⟨Wf (by rw[r2.length,Ai e1];exact hl),fun p hp=>q _ _ (s1.trans (bQ hp)) (fun a ea=>by cases ea;exact s1.free hp) ?_⟩
  exact⟨p,vs,rfl,bx,r2.kp (.of (bQ hp))⟩
 ·cases e⟩
theorem fM {x:Str} {id:String} {g:List Bx->Option Bx} {p:Pos} (hc:yj X (.builtin id) g) (hg:Gl X x) (hm:X.mg x=none) (hv:bootBuiltins x=some (.builtin id)) (ha:Tt X (e::es) fs) (hn:x ≠ "__name__" := by decide) (hdb:(x==("__debug__" : Str))=false:=by decide) (he:starEach (e::es) X.env=(false,eval e X.env)::starEach es X.env:=by rfl) (hpl:(backTo pos (starEach es X.env)).any (·.1)=false:=by rfl):QV X (.Call (.Name x p) (e::es) [] pos) (gO g fs):=⟨have ha:=ha.run;Dj (z8 hc hg hm hv ha hn hdb he hpl) convs⟩
theorem jG {x:Str} {T:String} {g:List Bx->Option Bx} {p:Pos} (hc:yj X (.type T) g) (hg:Gl X x) (hm:X.mg x=none) (hv:bootBuiltins x=some (.type T)) (ha:Tt X (e::es) fs) (hn:x ≠ "__name__" := by decide) (hdb:(x==("__debug__" : Str))=false:=by decide) (he:starEach (e::es) X.env=(false,eval e X.env)::starEach es X.env:=by rfl) (hpl:(backTo pos (starEach es X.env)).any (·.1)=false:=by rfl):QV X (.Call (.Name x p) (e::es) [] pos) (gO g fs):=⟨have ha:=ha.run;Dj (Nv hc hg hm hv ha hn hdb he hpl) convs⟩
end
inductive Out where
 |nx (ρ:Ev)|rt (b:Bx)|bk (ρ:Ev)|ct (ρ:Ev)
def Qp (K:PySem.W.Frag) (H0:Hp) (D:Ends):Out->Prop
 |.nx ρ=>∀ σ H,aV K H0 H σ ρ->D.nx σ H
 |.rt b=>∀ v H,Same H0 H->Nw H0 b v->aU K H b v->D.rt v H
 |.bk ρ=>∀ σ H,aV K H0 H σ ρ->D.bk σ H
 |.ct ρ=>∀ σ H,aV K H0 H σ ρ->D.ct σ H
def tG (K:PySem.W.Frag) (g:Ev->Option Out):TS:=fun D σ H=>∃ H0 ρ r,aV K H0 H σ ρ/\g ρ=some r/\Qp K H0 D r
def PG1 (X:Cx) (st:Stmt) (g:Ev->Option Out):Prop:=PS X st (tG X.K g)
structure Qq (X:Cx) (st:Stmt) (g:Ev->Option Out):Prop where
 run:PG1 X st g
def Pu (X:Cx) (st:List Stmt) (g:Ev->Option Out):Prop:=Jw X st (tG X.K g)
structure Qs (X:Cx) (st:List Stmt) (g:Ev->Option Out):Prop where
 run:Pu X st g
def aH (g1 g2:Ev->Option Out):Ev->Option Out:=fun ρ=>(g1 ρ).bind fun r=>match r with
 |.nx ρ'=>g2 ρ'
 |r=>some r
section
variable {X:Cx} {a b c e:Expr} {es:List Expr} {fa fb fc f:Ev->Option Bx} {fs:Ev->Option (List Bx)} {pos:Pos} {st:Stmt} {rest:List Stmt} {g g1 g2:Ev->Option Out}
theorem aQ  : Qs X [] (fun ρ=>some (.nx ρ)):=⟨Ur Lb fun D σ H h=>by
 obtain⟨H0,ρ,r,E,e,q⟩:=h
 cases e
 exact q σ H E⟩
theorem au (h1:Qq X st g1) (h2:Qs X rest g2):Qs X (st::rest) (aH g1 g2):=⟨have h1:=h1.run;have h2:=h2.run;Ur (pG h1 h2) fun D σ H h=>by
 obtain⟨H0,ρ,r,E,e,q⟩:=h
 obtain⟨r1,e1,e⟩:=bind_some e
 refine⟨H0,ρ,r1,E,e1,?_⟩
 cases r1 with
 |nx ρ'=>exact fun σ' H' E'=>⟨H0,ρ',r,E',e,q⟩
 |rt b=>cases e;exact q
 |bk ρ'=>cases e;exact q
 |ct ρ'=>cases e;exact q⟩
def Qt:Bx->Option Out
 |.l _=>none
 |.n _=>none
 |b=>some (.rt b)
theorem cD (h:QV X e f):Qq X (.Return (some e) pos) (fun ρ=>(f ρ).bind Qt):=⟨have h:=h.run;Wc (Pr h) fun D σ H h=>by
 obtain⟨H0,ρ,r,E,e,q⟩:=h
 obtain⟨b,eb,e⟩:=bind_some e
 refine⟨H0,ρ,b,E,eb,fun v H1 s1 n1 r1=>?_⟩
 cases b with
 |l ds=>cases e
 |z d=>cases e;exact q v H1 (E.base.trans s1) trivial r1
 |o ds=>cases e;exact q v H1 (E.base.trans s1) (n1.old E.base) r1
 |n ds=>cases e
 |m ds _=>cases e;exact q v H1 (E.base.trans s1) (n1.old E.base) r1⟩
def FP (i:Nat) (ρ:Ev):Option Out:=match ρ[i]? with
 |some (some b)=>Qt b
 |_=>none
theorem Lr (i:Nat) {x:Str} {p:Pos} (hN:X.N[i]?=some x:=by rfl) (hv:Tq X.env.scope x:=by first|exact Or.inl rfl|exact Or.inr (Or.inl rfl)|exact Or.inr (Or.inr rfl)) (hd:(x==("__debug__" : Str))=false:=by decide) (hcd:(x==("__classdict__" : Str))=false:=by decide):Qq X (.Return (some (.Name x p)) pos) (FP i):=⟨Wc (Pr (rH hN hv hd hcd)) fun D σ H h=>by
 obtain⟨H0,ρ,r,E,e,q⟩:=h
 unfold FP at e
 split at e
 ·rename_i b hb
  obtain⟨v,e1,r1⟩:=E.val i b hb
  refine⟨v,e1,?_⟩
  cases b with
  |l ds=>cases e
  |z d=>cases e;exact q v H E.base trivial r1
  |o ds=>cases e;exact q v H E.base (fun a ea=>E.new i _ a hb rfl (by rw[e1,ea])) r1
  |n ds=>cases e
  |m ds _=>cases e;exact q v H E.base (fun a ea=>E.new i _ a hb rfl (by rw[e1,ea])) r1
 ·cases e⟩
def Dc (p:Ev->Option Bool) (g1 g2:Ev->Option Out):Ev->Option Out:=fun ρ=>(p ρ).bind fun k=>if k=true then g1 ρ else g2 ρ
theorem pI {p:Ev->Option Bool} {u v:List Stmt} (hc:QB X c p) (ha:Qs X u g1) (hb:Qs X v g2):Qq X (.If c u v pos) (Dc p g1 g2):=⟨have hc:=hc.run;have ha:=ha.run;have hb:=hb.run;Wc (V4 hc ha hb) fun D σ H h=>by
 obtain⟨H0,ρ,r,E,e,q⟩:=h
 obtain⟨k,ek,e⟩:=bind_some e
 refine⟨H0,ρ,k,E,ek,fun H1 s1=>?_⟩
 cases k with
 |true=>rw[if_pos rfl] at e ⊢;exact⟨H0,ρ,r,E.grow s1,e,q⟩
 |false=>rw[if_neg Bool.false_ne_true] at e ⊢;exact⟨H0,ρ,r,E.grow s1,e,q⟩⟩
theorem getset {α:Type} {l:List α} {i j:Nat} {x y:α} (h:(l.set i x)[j]?=some y):(j=i/\y=x/\i < l.length)\/(j≠i/\l[j]?=some y):=by
 rw[List.getElem?_set] at h
 by_cases e:i=j
 ·subst e
  rw[if_pos rfl] at h
  split at h
  ·cases h;exact .inl ⟨rfl,rfl,by assumption⟩
  ·cases h
 ·rw[if_neg e] at h
  exact .inr ⟨fun z=>e z.symm,h⟩
theorem w5 {α:Type} {l:List α} {i:Nat} (x:α) (h:i < l.length):(l.set i x)[i]?=some x:=by
 rw[List.getElem?_set,if_pos rfl,if_pos h]
theorem nq {α:Type} {l:List α} {i j:Nat} (x:α) (h:j≠i):(l.set i x)[j]?=l[j]?:=by
 rw[List.getElem?_set,if_neg (Ne.symm h)]
theorem aV.set {K:PySem.W.Frag} {H0 H H1:Hp} {σ:L2.St} {ρ:Ev} {i:Nat} {b:Bx} {v:V} (E:aV K H0 H σ ρ) (s:Same H H1) (r:aU K H1 b v) (hl:uQ b=true\/loose b=false) (n:Nw H b v):aV K H0 H1 (σ.set i (some v)) (ρ.set i (some b)):=by
 have E1:=E.grow s
 have apart:∀ (j:Nat) (b':Bx) (a:Addr),ρ[j]?=some (some b')->loose b'=true->σ[j]?=some (some (.ref a))->H a≠none:=fun j b' a e1 e2 e3 z=>by
  obtain⟨v',e4,r'⟩:=E.val j b' e1
  rw[e3] at e4;cases e4
  cases b' with
  |z d=>cases e2
  |l ds=>
   obtain⟨a',vs,e5,q,_⟩:=r'
   cases e5
   rcases q with q|⟨o,q⟩<;>(rw[z] at q;cases q)
  |o ds=>
   obtain⟨a',vs,e5,q,_⟩:=r'
   cases e5
   rw[z] at q;cases q
  |n ds=>
   obtain⟨a',vs,e5,q,_⟩:=r'
   cases e5
   rcases q with q|⟨o,q⟩<;>(rw[z] at q;cases q)
  |m ds _=>
   obtain⟨a',vs,e5,q,_⟩:=r'
   cases e5
   rw[z] at q;cases q
 have nw:uQ b=true->∀ a,v=.ref a->H a=none:=fun ho=>by
  cases b with
  |o ds=>exact n
  |m ds _=>exact n
  |_=>cases ho
 refine⟨by rw[List.length_set,List.length_set];exact E.len,fun j b' e=>?_,fun j k c a b' e1 ec e2 e3 e4 e5=>?_,E1.base,fun j c a e1 ec e2=>?_⟩
 ·rcases getset e with⟨rfl,e',hi⟩|⟨hne,e'⟩
  ·cases e'
   exact⟨v,w5 _ (by rw[E.len];exact hi),r⟩
  ·rw[nq _ hne]
   exact E1.val j b' e'
 ·rcases getset e1 with⟨rfl,e',hi⟩|⟨hne,e'⟩
  ·cases e'
   rw[w5 _ (by rw[E.len];exact hi)] at e2
   cases e2
   rcases getset e3 with⟨rfl,e3',_⟩|⟨Uu,e3'⟩
   ·rfl
   ·rw[nq _ Uu] at e5
    exact absurd (nw ec a rfl) (apart k b' a e3' e4 e5)
  ·rw[nq _ hne] at e2
   rcases getset e3 with⟨rfl,e3',hi⟩|⟨Uu,e3'⟩
   ·cases e3'
    rw[w5 _ (by rw[E.len];exact hi)] at e5
    cases e5
    have hlo:loose c=true:=by cases c<;>first|rfl|cases ec
    rcases hl with hl|hl
    ·exact absurd (nw hl a rfl) (apart j _ a e' hlo e2)
    ·rw[hl] at e4;cases e4
   ·rw[nq _ Uu] at e5
    exact E.own j k c a b' e' ec e2 e3' e4 e5
 ·rcases getset e1 with⟨rfl,e',hi⟩|⟨hne,e'⟩
  ·cases e'
   rw[w5 _ (by rw[E.len];exact hi)] at e2
   cases e2
   exact E.base.free (nw ec a rfl)
  ·rw[nq _ hne] at e2
   exact E.new j c a e' ec e2
def Qu (ρ:Ev) (i:Nat):Bx->Option Ev
 |.l _=>none
 |.n _=>none
 |b=>some (ρ.set i (some b))
theorem Uv {K:PySem.W.Frag} {H0 H H1:Hp} {σ:L2.St} {ρ ρ':Ev} {i:Nat} {b:Bx} {v:V} (E:aV K H0 H σ ρ) (s:Same H H1) (r:aU K H1 b v) (n:Nw H b v) (e:Qu ρ i b=some ρ'):aV K H0 H1 (σ.set i (some v)) ρ':=by
 cases b with
 |l ds=>cases e
 |z d=>cases e;exact E.set s r (.inr rfl) n
 |o d=>cases e;exact E.set s r (.inl rfl) n
 |n ds=>cases e
 |m d _=>cases e;exact E.set s r (.inl rfl) n
theorem bw (i:Nat) {x:Str} {p:Pos} (hN:X.N.Nodup) (he:QV X e f) (hi:X.N[i]?=some x:=by rfl) (hx:Loc X.env.scope x:=by first|exact Or.inl rfl|exact Or.inr rfl) (hs:swapsWith e (some (.Name x p)) pos.line X.env=pure false:=by rfl) (hf:X.fn x=true\/X.env.scope.names.lookup x=some .local:=by first|exact .inl rfl|exact .inr rfl):Qq X (.Assign [.Name x p] e pos) (fun ρ=>(f ρ).bind fun b=>(Qu ρ i b).bind fun ρ'=>some (.nx ρ')):=⟨have he:=he.run;Wc (Jx hN hi hx he hs hf) fun D σ H h=>by
 obtain⟨H0,ρ,r,E,e,q⟩:=h
 obtain⟨b,eb,e⟩:=bind_some e
 obtain⟨ρ',eρ,e⟩:=bind_some e
 cases e
 exact⟨H0,ρ,b,E,eb,fun v H1 s1 n1 r1=>q _ _ (Uv E s1 r1 n1 eρ)⟩⟩
def Lo (σ:L2.St) (ρ:Ev) (σ':L2.St) (ρ':Ev):Prop:=∀ (j:Nat) b,loose b=true->ρ'[j]?=some (some b)->ρ[j]?=some (some b)/\σ'[j]?=σ[j]?
theorem Lo.refl {σ:L2.St} {ρ:Ev}:Lo σ ρ σ ρ:=fun _ _ _ e=>⟨e,rfl⟩
theorem Lo.trans {σ σ1 σ2:L2.St} {ρ ρ1 ρ2:Ev} (a:Lo σ ρ σ1 ρ1) (b:Lo σ1 ρ1 σ2 ρ2):Lo σ ρ σ2 ρ2:=fun j c l e=>by
 obtain⟨e1,e2⟩:=b j c l e
 obtain⟨e3,e4⟩:=a j c l e1
 exact⟨e3,e2.trans e4⟩
theorem Lo.set {σ:L2.St} {ρ:Ev} (i:Nat) (v:V) (d:Dt):Lo σ ρ (σ.set i (some v)) (ρ.set i (some (.z d))):=fun j b l e=>by
 rcases getset e with⟨rfl,e',_⟩|⟨hne,e'⟩
 ·cases e';cases l
 ·exact⟨e',nq _ hne⟩
def tgF (K:PySem.W.Frag) (g:Dt->Ev->Option Ev):TG:=fun v σ H Q=>∃ H0 ρ d ρ',aV K H0 H σ ρ/\Rep K H d v/\g d ρ=some ρ'/\∀ σ',aV K H0 H σ' ρ'->Lo σ ρ σ' ρ'->Q σ' H
def PTg (X:Cx) (t:Expr) (g:Dt->Ev->Option Ev):Prop:=PG X t (tgF X.K g)
structure XQ (X:Cx) (t:Expr) (g:Dt->Ev->Option Ev):Prop where
 run:PTg X t g
theorem bM (i:Nat) {x:Str} (hN:X.N.Nodup) (hi:X.N[i]?=some x:=by rfl) (hx:Loc X.env.scope x:=by first|exact Or.inl rfl|exact Or.inr rfl) (hf:X.fn x=true\/X.env.scope.names.lookup x=some .local:=by first|exact .inl rfl|exact .inr rfl):XQ X (.Name x pos) (fun d ρ=>some (ρ.set i (some (.z d)))):=⟨fun pins s σ H v u Q I r h=>by
 obtain⟨H0,ρ,d,ρ',E,rd,e,q⟩:=h
 cases e
 exact zJ hN hi hx hf pins s σ H v u Q I r (q _ (E.set (b:=.z d) (Same.refl H) rd (.inr rfl) trivial) (Lo.set i v d))⟩
def ace (K:PySem.W.Frag) (g:List Dt->Ev->Option Ev):V5:=fun vs σ H Q=>∃ H0 ρ ds ρ',aV K H0 H σ ρ/\aJ K H ds vs/\g ds ρ=some ρ'/\∀ σ',aV K H0 H σ' ρ'->Lo σ ρ σ' ρ'->Q σ' H
def acf (X:Cx) (t:List Expr) (g:List Dt->Ev->Option Ev):Prop:=L2.Pu X t (ace X.K g)
structure Uw (X:Cx) (t:List Expr) (g:List Dt->Ev->Option Ev):Prop where
 run:acf X t g
def DR:List Dt->Ev->Option Ev
 |[],ρ=>some ρ
 |_,_=>none
def kJ (g:Dt->Ev->Option Ev) (gs:List Dt->Ev->Option Ev):List Dt->Ev->Option Ev
 |d::ds,ρ=>(g d ρ).bind (gs ds)
 |_,_=>none
theorem zP  : Uw X [] DR:=⟨fun pins s σ H vs us Q I r h=>by
 obtain⟨H0,ρ,ds,ρ',E,rd,e,q⟩:=h
 cases ds with
 |nil=>cases e;unfold aJ at rd;exact Le pins s σ H vs us Q I r ⟨rd,q _ E Lo.refl⟩
 |cons d ds=>cases e⟩
theorem jQ {t:Expr} {ts:List Expr} {gt:Dt->Ev->Option Ev} {gs:List Dt->Ev->Option Ev} (h1:XQ X t gt) (h2:Uw X ts gs) (hs:(assignEach (t::ts) X.env).map (·.2)=assign t X.env::(assignEach ts X.env).map (·.2):=by rfl):Uw X (t::ts) (kJ gt gs):=⟨have h1:=h1.run;have h2:=h2.run;fun pins s σ H vs us Q I r h=>by
 obtain⟨H0,ρ,ds,ρ',E,rd,e,q⟩:=h
 cases ds with
 |nil=>cases e
 |cons d ds=>
  unfold aJ at rd
  obtain⟨v,vr,rfl,r1,r2⟩:=rd
  simp only[kJ] at e
  obtain⟨ρ1,e1,e⟩:=bind_some e
  exact z6 h1 h2 hs pins s σ H _ us Q I r ⟨v,vr,rfl,H0,ρ,d,ρ1,E,r1,e1,fun σ1 E1 L1=>⟨H0,ρ1,ds,ρ',E1,r2,e,fun σ2 E2 L2=>q σ2 E2 (L1.trans L2)⟩⟩⟩
def yp (n:Nat) (gs:List Dt->Ev->Option Ev):Dt->Ev->Option Ev
 |.tup ds,ρ=>if ds.length=n then gs ds ρ else none
 |_,_=>none
theorem FQ {ts:List Expr} {k n:Nat} {gs:List Dt->Ev->Option Ev} (hc:X.calm=true) (h:Uw X ts gs) (hn:(assignEach ts X.env).length=n:=by rfl) (hst:(assignEach ts X.env).findIdx? (·.1)=none:=by rfl):XQ X (.Tuple ts k pos) (yp n gs):=⟨have h:=h.run;fun pins s σ H v u Q I r hw=>by
 obtain⟨H0,ρ,d,ρ',E,rd,e,q⟩:=hw
 cases d with
 |tup ds=>
  simp only[yp] at e
  split at e
  ·rename_i hl
   unfold Rep at rd
   obtain⟨a,vs,rfl,hq,rs⟩:=rd
   exact Px hc h hn hst pins s σ H _ u Q I r ⟨a,vs,rfl,hq,by rw[rs.length];exact hl,H0,ρ,ds,ρ',E,rs,e,q⟩
  ·cases e
 |_=>cases e⟩
theorem Qv {tg:Expr} {gt:Dt->Ev->Option Ev} (he:QV X e f) (hg:XQ X tg gt) (hs:swapsWithSole [tg] e pos.line X.env=pure false:=by rfl) (hw:swappedStores [tg] e X.env=pure none:=by rfl) (h1:(assignEach [tg] X.env).map (·.2)=[assign tg X.env]:=by rfl):Qq X (.Assign [tg] e pos) (fun ρ=>(f ρ).bind fun b=>match b with|.z d=>(gt d ρ).bind fun ρ'=>some (.nx ρ')|_=>none):=⟨have he:=he.run;have hg:=hg.run;Wc (Xc he hg hs hw h1) fun D σ H h=>by
 obtain⟨H0,ρ,r,E,e,q⟩:=h
 obtain⟨b,eb,e⟩:=bind_some e
 refine⟨H0,ρ,b,E,eb,fun v H1 s1 n1 r1=>?_⟩
 cases b with
 |z d=>
  obtain⟨ρ',eρ,e⟩:=bind_some e
  cases e
  exact⟨H0,ρ,d,ρ',E.grow s1,r1,eρ,fun σ' E' _=>q _ _ E'⟩
 |_=>cases e⟩
def Ux (ρ:Ev) (i:Nat):Bx->Option Out
 |.z d=>match ρ[i]? with
  |some (some (.o ds))=>if ds.length < sizeLine then some (.nx (ρ.set i (some (.o (ds++[d]))))) else none
  |_=>none
 |_=>none
theorem aV.Z9 {K:PySem.W.Frag} {H0 H:Hp} {σ:L2.St} {ρ:Ev} {i:Nat} {c0 c1:Bx} {a:Addr} {u:HO} (E:aV K H0 H σ ρ) (h:ρ[i]?=some (some c0)) (ho:uQ c0=true) (hs:σ[i]?=some (some (.ref a))) (k:Kp H (upd H a u)) (r:aU K (upd H a u) c1 (.ref a)) :
  aV K H0 (upd H a u) σ (ρ.set i (some c1)):=by
 have hi:i < ρ.length:=(List.getElem?_eq_some_iff.mp h).1
 have hb:H0 a=none:=E.new i c0 a h ho hs
 have lo:∀ c,uQ c=true->loose c=true:=fun c hc=>by cases c<;>first|rfl|cases hc
 refine⟨by rw[List.length_set];exact E.len,fun j b' e=>?_,fun j k' c a' b' e1 ec e2 e3 e4 e5=>?_,fun c o e=>?_,fun j c a' e1 ec e2=>?_⟩
 ·rcases getset e with⟨rfl,e',_⟩|⟨hne,e'⟩
  ·cases e'
   exact⟨_,hs,r⟩
  ·obtain⟨v,e1,r'⟩:=E.val j b' e'
   refine⟨v,e1,?_⟩
   have away:∀ a',v=.ref a'->loose b'=true->a'≠a:=fun a' ev hl z=>by
    subst z
    exact hne (E.own i j c0 _ _ h ho hs e' hl (by rw[e1,ev])).symm
   cases b' with
   |z d=>exact Rep.kp k r'
   |l ds'=>
    obtain⟨a',vs',rfl,q,rr⟩:=r'
    refine⟨a',vs',rfl,?_,rr.kp k⟩
    have hn:=away a' rfl rfl
    rcases q with q|⟨o,q⟩
    ·exact .inl (by rw[aO hn];exact q)
    ·exact .inr ⟨o,by rw[aO hn];exact q⟩
   |o ds'=>
    obtain⟨a',vs',rfl,q,rr⟩:=r'
    have hn:=away a' rfl rfl
    exact⟨a',vs',rfl,by rw[aO hn];exact q,rr.kp k⟩
   |n ds'=>
    obtain⟨a',vs',rfl,q,rr⟩:=r'
    refine⟨a',vs',rfl,?_,rr.kp k⟩
    have hn:=away a' rfl rfl
    rcases q with q|⟨o,q⟩
    ·exact .inl (by rw[aO hn];exact q)
    ·exact .inr ⟨o,by rw[aO hn];exact q⟩
   |m ds'=>
    obtain⟨a',vs',rfl,q,rr⟩:=r'
    have hn:=away a' rfl rfl
    exact⟨a',vs',rfl,by rw[aO hn];exact q,rr.1.kp k,rr.2⟩
 ·have back:∀ (m:Nat) (b:Bx),(ρ.set i (some c1))[m]?=some (some b)->loose b=true->∃ b0,ρ[m]?=some (some b0)/\loose b0=true/\(uQ b=true->uQ b0=true):=fun m b e l=>by
   rcases getset e with⟨rfl,e',_⟩|⟨hne,e'⟩
   ·exact⟨_,h,lo _ ho,fun _=>ho⟩
   ·exact⟨b,e',l,fun z=>z⟩
  obtain⟨b0,q1,q2,q3⟩:=back j _ e1 (lo _ ec)
  obtain⟨b1,q4,q5,_⟩:=back k' _ e3 e4
  exact E.own j k' b0 a' b1 q1 (q3 ec) e2 q4 q5 e5
 ·rw[aO (bY e hb)];exact E.base c o e
 ·rcases getset e1 with⟨rfl,e',_⟩|⟨hne,e'⟩
  ·exact E.new _ c0 a' h ho e2
  ·exact E.new j c a' e' ec e2
theorem aV.XC {K:PySem.W.Frag} {H0 H:Hp} {σ:L2.St} {ρ:Ev} {i:Nat} {ds es:List Dt} {a:Addr} {vs us:List V} (E:aV K H0 H σ ρ) (h:ρ[i]?=some (some (.o ds))) (hs:σ[i]?=some (some (.ref a))) (ha:H a=some (.lst vs)) (r:aJ K H es us) :
  aV K H0 (upd H a (.lst us)) σ (ρ.set i (some (.o es))):=E.Z9 h rfl hs (.lst ha) ⟨a,us,rfl,bx,r.kp (.lst ha)⟩
theorem FT (i:Nat) {x:Str} {p apos cpos:Pos} (he:QV X e f) (hN:X.N[i]?=some x:=by rfl) (hv:Tq X.env.scope x:=by first|exact Or.inl rfl|exact Or.inr (Or.inl rfl)|exact Or.inr (Or.inr rfl)) (hd:(x==("__debug__" : Str))=false:=by decide) (hcd:(x==("__classdict__" : Str))=false:=by decide) (hst:starEach [e] X.env=[(false,eval e X.env)]:=by rfl) (hbase:attributeBase (.Name x p) "append" X.env (eval (.Name x p) X.env)=eval (.Name x p) X.env:=by rfl) (hfew:((backTo cpos (starEach [e] X.env)).all (fun x=>!x.1)&&(backToKw cpos (keywordEach [] X.env)).all (fun x=>x.1.isSome)&&decide ([e].length+([]:List Keyword).length+(if ([]:List Keyword).isEmpty then 0 else 1) < 30))=true:=by rfl) (hline:(apos.endLine==cpos.line)=true:=by rfl) (hs:swapsWith (.Call (.Attribute (.Name x p) "append" apos) [e] [] cpos) none pos.line X.env=pure false:=by rfl):Qq X (.Expr (.Call (.Attribute (.Name x p) "append" apos) [e] [] cpos) pos) (fun ρ=>(f ρ).bind (Ux ρ i)):=⟨have he:=he.run;Wc (Fl (Hh PySem.F.plainAttrs_list PySem.F.slot_list_append PySem.F.type_list_append wX (rH (i:=i) hN hv hd hcd) (nZ he wW (by rw[hst]<;>rfl)) hbase hfew hline (by rw[hst]<;>rfl) rfl) hs) fun D σ H h=>by
  obtain⟨H0,ρ,r,E,e,q⟩:=h
  obtain⟨b,eb,e⟩:=bind_some e
  cases b with
  |z d=>
   simp only[Ux] at e
   split at e
   ·rename_i ds hρ
    split at e
    ·rename_i hl
     cases e
     obtain⟨v,e1,a,vs,rfl,ha,rs⟩:=E.val i _ hρ
     refine⟨_,e1,.inl ⟨rfl,vs,.inl (.inl ha)⟩,H0,ρ,_,E,eb,fun u H1 s1 n1 r1=>?_⟩
     have E1:=E.grow s1
     refine⟨a,vs,u,rfl,rfl,s1 _ _ ha,by rw[rs.length];exact hl,q _ _ ?_⟩
     exact E1.XC hρ e1 (s1 _ _ ha) ((rs.kp (.of s1)).append (aJ.cons r1 aJ.nil))
    ·cases e
   ·cases e
  |_=>cases e⟩
end
def Its (x:Str):It:=⟨fun i _=>i < x.cps.size,fun i H v H'=>H'=H/\∃ c,x.cps[i]?=some c/\v=.str ⟨#[c]⟩,fun i _=>x.cps.size<=i⟩
def acg (h:Heap) (it:Addr) (x:Str) (i:Nat):Prop:=∃ t,h.IsStrIter it "str_ascii_iterator" x t i\/h.IsStrIter it "str_iterator" x t i
theorem Hq {P:Program} {w:World} {K:PySem.W.Frag} {tg:Expr} (it:Addr) (x:Str):Turn P w K tg (Its x) [it] it (fun i h=>acg h it x i) where
 mem:=by simp
 obj:=fun i h st b hb=>by
  have e:b=it:=by simpa using hb
  subst e
  obtain⟨t,⟨o,e,c,d⟩|⟨o,e,c,d⟩⟩:=st
  ·exact⟨o,e,fun v z=>by rw[d] at z;cases z⟩
  ·exact⟨o,e,fun v z=>by rw[d] at z;cases z⟩
 keep:=fun i h h' st k=>by
  obtain⟨t,⟨o,e,c⟩|⟨o,e,c⟩⟩:=st
  ·exact⟨t,.inl ⟨o,k it (by simp) o e,c⟩⟩
  ·exact⟨t,.inr ⟨o,k it (by simp) o e,c⟩⟩
 item:=by
  intro X hP hw hK hc i pins s σ H E I hf st hg
  subst hP hw hK
  obtain⟨f0,f1,f2,f3,f4,f5⟩:=hf it (by simp)
  have hi:i < x.cps.size:=hg
  have hx:x.cps[i]?=some x.cps[i]:=by simp[hi]
  obtain⟨t,st|st⟩:=st
  ·refine wpAny_pyNext_ascii_item st hx fun h' st' sb=>?_
   have I1:L2.Inv X pins σ H { s with heap:=h',toks:=s.toks+1 }:=I.turned (fun b o hb e=>(sb.2 b hb).trans e) f0 f1 f3 f4 f5
   obtain⟨o,e,c,d⟩:=id st'
   exact⟨_,rfl,G8 (s:={ s with heap:=h',toks:=s.toks+1 }) e c d (by decide) ⟨.str ⟨#[x.cps[i]]⟩,H,I1,⟨_,rfl⟩,⟨rfl,_,hx,rfl⟩,⟨t,.inl st'⟩,fun b hb=>(hf b hb).1⟩⟩
  ·refine wpAny_pyNext_wide_item st hx fun h' st' sb=>?_
   have I1:L2.Inv X pins σ H { s with heap:=h',toks:=s.toks+1 }:=I.turned (fun b o hb e=>(sb.2 b hb).trans e) f0 f1 f3 f4 f5
   obtain⟨o,e,c,d⟩:=id st'
   exact⟨_,rfl,G8 (s:={ s with heap:=h',toks:=s.toks+1 }) e c d (by decide) ⟨.str ⟨#[x.cps[i]]⟩,H,I1,⟨_,rfl⟩,⟨rfl,_,hx,rfl⟩,⟨t,.inr st'⟩,fun b hb=>(hf b hb).1⟩⟩
 done:=by
  intro X hP hw hK hc i pins s σ H E I hf st hg
  subst hP hw hK
  obtain⟨f0,f1,f2,f3,f4,f5⟩:=hf it (by simp)
  have hx:x.cps[i]?=none:=by have:x.cps.size<=i:=hg;simp[this]
  obtain⟨t,st|st⟩:=st
  ·exact wpAny_pyNext_ascii_end (I.ok.hd hc) st hx fun h' eb=>⟨rfl,I.turned (t':=s.toks) (fun b o hb e=>eb b o hb e) f0 f1 f3 f4 f5⟩
  ·exact wpAny_pyNext_wide_end (I.ok.hd hc) st hx fun h' eb=>⟨rfl,I.turned (t':=s.toks) (fun b o hb e=>eb b o hb e) f0 f1 f3 f4 f5⟩
 self:=fun _ _ _ _ _ st h=>by
  obtain⟨t,st|st⟩:=st
  ·exact wpAny_pyIter_striter_ascii st h
  ·exact wpAny_pyIter_striter_wide st h
section
variable {X:Cx} {tg:Expr}
def ach (K:PySem.W.Frag) (tl:TE):TI:=fun σ H R=>tl σ H fun x H1=>(∃ a,x=.ref a/\(∃ xs,qw K H1 a xs)/\R (Itl K a) H1)\/(∃ a,x=.ref a/\(∃ xs,vH K H1 a xs)/\R (Itt K a) H1)\/∃ y,x=.str y/\R (Its y) H1
theorem Qw {l:Expr} {tl:TE} (hl:PE X l tl):PI X tg l (ach X.K tl):=by
 intro pins s σ H R I h
 refine jF (hl pins s σ H _ I h) fun v s1 ⟨x,H1,I1,r1,q1⟩=>?_
 have fp1:∀ (o:Obj) (b:Addr),b∈[s1.heap.objs.size]->rG X pins H1 b:=fun o b hb=>by
  have e:b=s1.heap.objs.size:=by simpa using hb
  subst e
  exact I1.Ni (Nat.le_refl _) (I1.hok.fresh (Nat.le_refl _))
 rcases q1 with⟨a,e,⟨xs,hq⟩,q⟩|⟨a,e,⟨xs,hq⟩,q⟩|⟨y,e,q⟩
 ·subst e
  cases r1
  obtain⟨its,rv,p,hz⟩:=I1.list hq
  refine wpAny_pyIter_list p.isList ?_
  exact⟨s1.heap.objs.size,[s1.heap.objs.size],_,_,H1,rfl,I1.kept (t':=s1.toks) fun b o e=>Heap.get?_push_of_some _ e,Nj a _,⟨_,Heap.get?_push_size _ rfl,rfl,rfl⟩,fp1 default,q⟩
 ·subst e
  cases r1
  obtain⟨its,rv,p,hz⟩:=I1.tuple hq
  refine wpAny_pyIter_tuple (show s1.heap.IsTuple a its.toArray from p) ?_
  exact⟨s1.heap.objs.size,[s1.heap.objs.size],_,_,H1,rfl,I1.kept (t':=s1.toks) fun b o e=>Heap.get?_push_of_some _ e,Jy a _,⟨_,Heap.get?_push_size _ rfl,rfl,rfl⟩,fp1 default,q⟩
 ·subst e
  obtain⟨t,rfl⟩:=r1
  cases ha:y.cps.all (· < 128) with
  |true=>
   refine wpAny_pyIter_ascii ha ?_
   exact⟨s1.heap.objs.size,[s1.heap.objs.size],_,_,H1,rfl,I1.kept (t':=s1.toks) fun b o e=>Heap.get?_push_of_some _ e,Hq _ y,⟨t,.inl ⟨_,Heap.get?_push_size _ rfl,rfl,rfl⟩⟩,fp1 default,q⟩
  |false=>
   refine wpAny_pyIter_wide ha ?_
   exact⟨s1.heap.objs.size,[s1.heap.objs.size],_,_,H1,rfl,I1.kept (t':=s1.toks) fun b o e=>Heap.get?_push_of_some _ e,Hq _ y,⟨t,.inr ⟨_,Heap.get?_push_size _ rfl,rfl,rfl⟩⟩,fp1 default,q⟩
end
def Yields (K:PySem.W.Frag) (J:It) (ds:List Dt) (Hs:Hp):Prop:=∀ (i:Nat) (H:Hp),Same Hs H →
 (∀ d,ds[i]?=some d->J.go i H/\∀ x H',J.Zq i H x H'->Same H H'/\Rep K H' d x)/\(ds.length<=i->J.stop i H)
theorem Yields.of {K:PySem.W.Frag} {J:It} {ds:List Dt} {Hs:Hp} (h:∀ (i:Nat) (H:Hp),Same Hs H →
  (∀ d,ds[i]?=some d->J.go i H/\∀ x H',J.Zq i H x H'->H'=H/\Rep K H d x)/\(ds.length<=i->J.stop i H)):Yields K J ds Hs:=fun i H s=>
 ⟨fun d e=>⟨((h i H s).1 d e).1,fun x H' y=>by
  obtain⟨rfl,r⟩:=((h i H s).1 d e).2 x H' y
  exact⟨Same.refl _,r⟩⟩,(h i H s).2⟩
def signs (x:Str):List Dt:=x.cps.toList.map fun c=>.str ⟨#[c]⟩
theorem Yields.list {K:PySem.W.Frag} {Hs:Hp} {a:Addr} {vs:List V} {ds:List Dt} (h:qw K Hs a vs) (r:aJ K Hs ds vs):Yields K (Itl K a) ds Hs:=.of fun i H s=>by
 have h':=s.seq h
 have r':=r.kp (.of s)
 refine⟨fun d e=>?_,fun e=>⟨vs,h',by rw[r.length];exact e⟩⟩
 obtain⟨v,ev,rv⟩:=r'.get e
 refine⟨⟨vs,v,h',ev⟩,fun x H' y=>?_⟩
 obtain⟨y1,y2⟩:=y
 have:=y2 vs h'
 rw[ev] at this;cases this
 exact⟨y1,rv⟩
theorem Yields.tup {K:PySem.W.Frag} {Hs:Hp} {a:Addr} {vs:List V} {ds:List Dt} (h:vH K Hs a vs) (r:aJ K Hs ds vs):Yields K (Itt K a) ds Hs:=.of fun i H s=>by
 have h':=(Kp.of s).sqT h
 have r':=r.kp (.of s)
 refine⟨fun d e=>?_,fun e=>⟨vs,h',by rw[r.length];exact e⟩⟩
 obtain⟨v,ev,rv⟩:=r'.get e
 refine⟨⟨vs,v,h',ev⟩,fun x H' y=>?_⟩
 obtain⟨y1,y2⟩:=y
 have:=y2 vs h'
 rw[ev] at this;cases this
 exact⟨y1,rv⟩
theorem Yields.str {K:PySem.W.Frag} {Hs:Hp} (x:Str):Yields K (Its x) (signs x) Hs:=.of fun i H s=>by
 refine⟨fun d e=>?_,fun e=>?_⟩
 ·unfold signs at e
  rw[List.getElem?_map] at e
  cases h:x.cps.toList[i]? with
  |none=>rw[h] at e;cases e
  |some c=>
   rw[h] at e;cases e
   have hc:x.cps[i]?=some c:=by simpa using h
   have hi:i < x.cps.size:=by
    have:=(List.getElem?_eq_some_iff.mp h).1
    simpa using this
   refine⟨hi,fun v H' y=>?_⟩
   obtain⟨y1,c',hc',rfl⟩:=y
   rw[hc] at hc';cases hc'
   refine⟨y1,?_⟩
   unfold Rep
   exact⟨rfl,by show (1:Nat)<=sizeLine;decide⟩
 ·have:(signs x).length=x.cps.size:=by simp[signs]
  show x.cps.size<=i
  omega
def FW (lo:Int) (n:Nat):List Dt:=(List.range n).map fun k=>.int (lo+(k:Nat))
theorem Yields.rng {K:PySem.W.Frag} {Hs:Hp} (lo:Int) (n:Nat):Yields K (Itr lo n) (FW lo n) Hs:=.of fun i H s=>by
 refine⟨fun d e=>?_,fun e=>?_⟩
 ·unfold FW at e
  rw[List.getElem?_map] at e
  by_cases hi:i < n
  ·rw[List.getElem?_range hi] at e
   cases e
   refine⟨hi,fun v H' y=>?_⟩
   obtain⟨y1,y2⟩:=y
   refine⟨y1,?_⟩
   unfold Rep
   exact y2
  ·rw[List.getElem?_eq_none (by simp;omega)] at e
   cases e
 ·have:(FW lo n).length=n:=by simp[FW]
  show n<=i
  omega
def iF (K:PySem.W.Frag) (f:Ev->Option (List Dt)):TI:=fun σ H R=>∃ H0 ρ ds,aV K H0 H σ ρ/\f ρ=some ds/\∀ J H',Same H H' →
 (∀ Hs,Same Hs H'->(∀ a,H a=none->Hs a=H' a)->(∀ a o u,H' a=some (.wO o u)->Hs a=H' a)->(∀ a vs,H' a=some (.tup vs)->Hs a=H' a)->Yields K J ds Hs)->R J H'
def PIF (X:Cx) (tg iter:Expr) (f:Ev->Option (List Dt)):Prop:=PI X tg iter (iF X.K f)
structure QIF (X:Cx) (tg iter:Expr) (f:Ev->Option (List Dt)):Prop where
 run:PIF X tg iter f
def XR:Bx->Option (List Dt)
 |.z (.lst ds)=>some ds
 |.z (.tup ds)=>some ds
 |.z (.str x)=>some (signs x)
 |.o ds=>some ds
 |_=>none
section
variable {X:Cx} {tg e:Expr} {es:List Expr} {f:Ev->Option Bx} {fs:Ev->Option (List Bx)}
mutual
theorem Rep.part {K:PySem.W.Frag} {H Hs:Hp} (hf:∀ a o u,H a=some (.wO o u)->Hs a=H a) (ht:∀ a vs,H a=some (.tup vs)->Hs a=H a):∀ {d:Dt} {v:V},Rep K H d v->Rep K Hs d v
 |.non,_,h=>by simpa only[Rep] using h
 |.bl _,_,h=>by simpa only[Rep] using h
 |.int _,_,h=>by simpa only[Rep] using h
 |.str _,_,h=>by simpa only[Rep] using h
 |.tup ds,_,h=>by
  simp only[Rep] at h ⊢
  obtain⟨a,vs,e,q,r⟩:=h
  refine⟨a,vs,e,?_,aJ.part hf ht r⟩
  rcases q with (q|⟨o,q⟩)|q
  ·exact .inl (.inl ((ht _ _ q).trans q))
  ·exact .inl (.inr ⟨o,(hf _ _ _ q).trans q⟩)
  ·exact .inr q
 |.lst ds,_,h=>by
  simp only[Rep] at h ⊢
  obtain⟨a,vs,e,q,r⟩:=h
  refine⟨a,vs,e,?_,aJ.part hf ht r⟩
  rcases q with⟨o,q⟩|q
  ·exact .inl ⟨o,(hf _ _ _ q).trans q⟩
  ·exact .inr q
 |.emp,_,h=>by
  simp only[Rep] at h ⊢
  obtain⟨a,o,e,q⟩:=h
  exact⟨a,o,e,(hf _ _ _ q).trans q⟩
theorem aJ.part {K:PySem.W.Frag} {H Hs:Hp} (hf:∀ a o u,H a=some (.wO o u)->Hs a=H a) (ht:∀ a vs,H a=some (.tup vs)->Hs a=H a):∀ {ds:List Dt} {vs:List V},aJ K H ds vs->aJ K Hs ds vs
 |[],_,h=>by simpa only[aJ] using h
 |d::ds,_,h=>by
  simp only[aJ] at h ⊢
  obtain⟨v,r,e,q,t⟩:=h
  exact⟨v,r,e,Rep.part hf ht q,aJ.part hf ht t⟩
end
theorem Uy (h:QV X e f):QIF X tg e (fun ρ=>(f ρ).bind XR):=⟨have h:=h.run;fun pins s σ H R I q=>by
 refine Qw h pins s σ H R I ?_
 obtain⟨H0,ρ,ds,E,e,q⟩:=q
 obtain⟨b,eb,e⟩:=bind_some e
 refine⟨H0,ρ,b,E,eb,fun v H1 s1 n1 r1=>?_⟩
 cases b with
 |z d=>
  cases d with
  |tup ds'=>
   cases e
   simp only[aU,Rep] at r1
   obtain⟨a,vs,rfl,hq,rs⟩:=r1
   refine .inr (.inl ⟨a,rfl,⟨vs,hq⟩,q _ _ s1 fun Hs hs hn hf ht=>.tup ?_ (rs.part hf ht)⟩)
   rcases hq with (hq|⟨o,hq⟩)|hq
   ·exact .inl (.inl ((ht _ _ hq).trans hq))
   ·exact .inl (.inr ⟨o,(hf _ _ _ hq).trans hq⟩)
   ·exact .inr hq
  |lst ds'=>
   cases e
   simp only[aU,Rep] at r1
   obtain⟨a,vs,rfl,hq,rs⟩:=r1
   refine .inl ⟨a,rfl,⟨vs,hq.sq⟩,q _ _ s1 fun Hs hs hn hf ht=>.list ?_ (rs.part hf ht)⟩
   rcases hq with⟨o,hq⟩|hq
   ·exact .inl (.inr ⟨o,(hf _ _ _ hq).trans hq⟩)
   ·exact .inr hq
  |str x=>
   cases e
   simp only[aU,Rep] at r1
   obtain⟨rfl,_⟩:=r1
   exact .inr (.inr ⟨x,rfl,q _ _ s1 fun Hs hs hn hf ht=>.str x⟩)
  |_=>cases e
 |l ds'=>cases e
 |n ds'=>cases e
 |m ds'=>cases e
 |o ds'=>
  cases e
  obtain⟨a,vs,rfl,hq,rs⟩:=r1
  refine .inl ⟨a,rfl,⟨vs,.inl (.inl hq)⟩,q _ _ s1 fun Hs hs hn hf ht=>.list (.inl (.inl ((hn a (n1 a rfl)).trans hq))) (rs.part hf ht)⟩⟩
def XS:List Bx->Option (List Dt)
 |[.z (.int j)]=>if -(2 ^ 62)<=j/\j < 2 ^ 62 then some (FW 0 j.toNat) else none
 |_=>none
theorem jk {p pos:Pos} (hg:Gl X "range") (hm:X.mg "range" = none) (ha:Tt X [e] fs) (hs:starEach [e] X.env=[(false,eval e X.env)]:=by rfl):QIF X tg (.Call (.Name "range" p) [e] [] pos) (fun ρ=>(fs ρ).bind XS):=⟨have ha:=ha.run;fun pins s σ H R I q=>by
 refine Nk hg hm ha hs pins s σ H R I ?_
 obtain⟨H0,ρ,ds,E,e,q⟩:=q
 obtain⟨bs,eb,e⟩:=bind_some e
 refine⟨H0,ρ,bs,E,eb,fun vs H1 s1 r1=>?_⟩
 unfold XS at e
 split at e
 ·rename_i j
  split at e
  ·rename_i hj
   cases e
   cases r1 with
   |cons p t=>
    cases t
    simp only[aU,Rep] at p
    subst p
    exact⟨j,rfl,hj.1,hj.2,q _ _ s1 fun Hs _ _ _ _=>.rng 0 _⟩
  ·cases e
 ·cases e⟩
def yZ (gt:Dt->Ev->Option Ev) (gb:Ev->Option Out):List Dt->Ev->Option Out
 |[],ρ=>some (.nx ρ)
 |d::ds,ρ=>(gt d ρ).bind fun ρ1=>(gb ρ1).bind fun r=>match r with
  |.nx ρ2=>yZ gt gb ds ρ2
  |.ct ρ2=>yZ gt gb ds ρ2
  |.bk ρ2=>some (.nx ρ2)
  |.rt b=>some (.rt b)
noncomputable def dZ (H:Hp) (σ:L2.St) (ρ:Ev):Hp:=fun a=>@ite _ (∃ (i:Nat) (c:Bx),ρ[i]?=some (some c)/\uQ c=true/\σ[i]?=some (some (.ref a))) (Classical.propDecidable _) none (H a)
theorem mK {H:Hp} {σ:L2.St} {ρ:Ev}:Same (dZ H σ ρ) H:=fun a o e=>by
 unfold dZ at e
 split at e
 ·cases e
 ·exact e
theorem aV.rebase {K:PySem.W.Frag} {H0 Hs H:Hp} {σ:L2.St} {ρ:Ev} (E:aV K Hs H σ ρ) (s:Same H0 Hs):aV K H0 H σ ρ:=⟨E.len,E.val,E.own,s.trans E.base,fun i c a e1 ec e2=>s.free (E.new i c a e1 ec e2)⟩
theorem aV.sans {K:PySem.W.Frag} {H0 H:Hp} {σ:L2.St} {ρ:Ev} (E:aV K H0 H σ ρ):aV K (dZ H σ ρ) H σ ρ:=⟨E.len,E.val,E.own,mK,fun i c a e1 ec e2=>by
 unfold dZ
 rw[if_pos ⟨i,c,e1,ec,e2⟩]⟩
theorem aV.sub {K:PySem.W.Frag} {H0 H:Hp} {σ:L2.St} {ρ:Ev} (E:aV K H0 H σ ρ):Same H0 (dZ H σ ρ):=fun a o e=>by
 unfold dZ
 split
 ·rename_i h
  obtain⟨i,c,e1,ec,e2⟩:=h
  rw[E.new i c a e1 ec e2] at e;cases e
 ·exact E.base a o e
theorem mL {K:PySem.W.Frag} {H0 H:Hp} {σ:L2.St} {ρ:Ev} (E:aV K H0 H σ ρ) {a:Addr} (h:∀ vs,H a≠some (.lst vs)) (h2:∀ vs,H a≠some (.dK vs)):dZ H σ ρ a=H a:=by
 unfold dZ
 split
 ·rename_i hh
  obtain⟨i,c,e1,ec,e2⟩:=hh
  obtain⟨v,e3,rc⟩:=E.val i _ e1
  rw[e2] at e3;cases e3
  cases c with
  |o ds=>obtain⟨a',vs,e4,q,_⟩:=rc;cases e4;exact absurd q (h vs)
  |m ds _=>obtain⟨a',vs,e4,q,_⟩:=rc;cases e4;exact absurd q (h2 vs)
  |_=>cases ec
 ·rfl
theorem Qp.rebase {K:PySem.W.Frag} {H0 Hs:Hp} {D:Ends} {r:Out} (s:Same H0 Hs) (h:Qp K H0 D r):Qp K Hs D r:=by
 cases r with
 |nx ρ=>exact fun σ H E=>h σ H (E.rebase s)
 |bk ρ=>exact fun σ H E=>h σ H (E.rebase s)
 |ct ρ=>exact fun σ H E=>h σ H (E.rebase s)
 |rt b=>exact fun v H s' n r=>h v H (s.trans s') (n.old s) r
theorem Qx {gt:Dt->Ev->Option Ev} {gb:Ev->Option Out} {J:It} {ds:List Dt} {H0 H1:Hp} {σ:L2.St} {ρ:Ev} {D:Ends} {r:Out} (E1:aV X.K H0 H1 σ ρ) (Y:Yields X.K J ds (dZ H1 σ ρ)) (e:yZ gt gb ds ρ=some r) (q:Qp X.K H0 D r) :
  ∃ W:Nat->Nat->L2.St->Hp->Prop,(∃ m,W 0 m σ H1)/\∀ i m σ H,W i m σ H →
   (J.stop i H/\D.nx σ H)\/(J.go i H/\∃ N:L2.St->Hp->Prop,(∀ σ' H',N σ' H'->∃ m',m' < m/\W (i+1) m' σ' H')/\∀ x H',J.Zq i H x H'->tgF X.K gt x σ H' fun σ2 H2=>tG X.K gb { D with nx:=N,ct:=N,bk:=D.nx } σ2 H2):=by
 have E2:=E1.sans
 have q2:=q.rebase E1.sub
 generalize dZ H1 σ ρ=Hs at Y E2 q2
 refine⟨fun i m σ' H'=>m=ds.length - i/\i<=ds.length/\∃ ρ',aV X.K Hs H' σ' ρ'/\yZ gt gb (ds.drop i) ρ'=some r,⟨ds.length,by simp,Nat.zero_le _,ρ,E2,by simpa using e⟩,?_⟩
 rintro i m σ' H' ⟨rfl,hi',ρ',E',e'⟩
 obtain⟨y1,y2⟩:=Y i H' E'.base
 by_cases hlt:i < ds.length
 ·right
  have hd:ds[i]?=some ds[i]:=by simp[hlt]
  obtain⟨go,yl⟩:=y1 _ hd
  rw[List.drop_eq_getElem_cons hlt] at e'
  simp only[yZ] at e'
  obtain⟨ρ1,e1,e'⟩:=bind_some e'
  obtain⟨r1,e2,e'⟩:=bind_some e'
  refine⟨go,fun σ2 H2=>∃ ρ2,aV X.K Hs H2 σ2 ρ2/\yZ gt gb (ds.drop (i+1)) ρ2=some r,fun σ2 H2 ⟨ρ2,E3,e3⟩=>⟨ds.length - (i+1),by omega,rfl,hlt,ρ2,E3,e3⟩,fun x H2 yy=>?_⟩
  obtain⟨sm,rx⟩:=yl x H2 yy
  refine⟨Hs,ρ',ds[i],ρ1,E'.grow sm,rx,e1,fun σ1 E3 _=>⟨Hs,ρ1,r1,E3,e2,?_⟩⟩
  cases r1 with
  |nx ρ2=>exact fun σ2 H3 E4=>⟨ρ2,E4,e'⟩
  |ct ρ2=>exact fun σ2 H3 E4=>⟨ρ2,E4,e'⟩
  |bk ρ2=>cases e';exact q2
  |rt b=>cases e';exact q2
 ·left
  have hge:ds.length<=i:=by omega
  refine⟨y2 hge,?_⟩
  rw[List.drop_eq_nil_of_le hge] at e'
  cases e'
  exact q2 σ' H' E'
theorem qy {iter:Expr} {body:List Stmt} {fi:Ev->Option (List Dt)} {gt:Dt->Ev->Option Ev} {gb:Ev->Option Out} {pos:Pos} (hp:PassesOwn (model X.prog X.w) X.A X.env X.xe) (hc:X.calm=true) (hi:QIF X tg iter fi) (hg:XQ X tg gt) (hb:Qs X body gb) (hs:∀ x,foldedSetIterable iter X.env x=pure x:=by intro _;rfl):Qq X (.For tg iter body [] pos) (fun ρ=>(fi ρ).bind fun ds=>yZ gt gb ds ρ):=⟨have hi:=hi.run;have hg:=hg.run;have hb:=hb.run;Wc (Pz hp hc hi hg hb hs) fun D σ H h=>by
 obtain⟨H0,ρ,r,E,e,q⟩:=h
 obtain⟨ds,ed,e⟩:=bind_some e
 refine⟨H0,ρ,ds,E,ed,fun J H1 s1 y=>?_⟩
 have E1:=E.grow s1
 refine Qx E1 ?_ e q
 refine y _ mK (fun a ha=>?_) (fun a o u ha=>mL E1 (fun vs z=>by rw[ha] at z;cases z) (fun vs z=>by rw[ha] at z;cases z)) fun a vs ha=>mL E1 (fun vs z=>by rw[ha] at z;cases z) (fun vs z=>by rw[ha] at z;cases z)
 unfold dZ
 split
 ·rename_i hh
  obtain⟨i,c,e1,ec,e2⟩:=hh
  obtain⟨v,e3,rc⟩:=E.val i _ e1
  rw[e2] at e3;cases e3
  cases c with
  |o ds=>obtain⟨a',vs,e4,q,_⟩:=rc;cases e4;rw[ha] at q;cases q
  |m ds _=>obtain⟨a',vs,e4,q,_⟩:=rc;cases e4;rw[ha] at q;cases q
  |_=>cases ec
 ·rfl⟩
theorem aV.lend {K:PySem.W.Frag} {H0 H:Hp} {σ:L2.St} {ρ:Ev} {i:Nat} {ds:List Dt} (E:aV K H0 H σ ρ) (h:ρ[i]?=some (some (.o ds))):aV K H0 H σ (ρ.set i (some (.l ds))):=by
 have back:∀ (j:Nat) (b:Bx),(ρ.set i (some (.l ds)))[j]?=some (some b)->(j=i/\b=.l ds)\/(j≠i/\ρ[j]?=some (some b)):=fun j b e=>by
  rcases getset e with⟨rfl,e',_⟩|⟨hne,e'⟩
  ·cases e';exact .inl ⟨rfl,rfl⟩
  ·exact .inr ⟨hne,e'⟩
 refine⟨by rw[List.length_set];exact E.len,fun j b e=>?_,fun j k c a b e1 ec e2 e3 e4 e5=>?_,E.base,fun j c a e1 ec e2=>?_⟩
 ·rcases back j b e with⟨rfl,rfl⟩|⟨hne,e'⟩
  ·obtain⟨v,e1,a,vs,e2,q,r⟩:=E.val _ _ h
   exact⟨v,e1,a,vs,e2,.inl q,r⟩
  ·exact E.val j b e'
 ·rcases back j _ e1 with⟨rfl,z⟩|⟨hne,e'⟩
  ·subst z;cases ec
  ·rcases back k _ e3 with⟨rfl,z⟩|⟨Uu,e3'⟩
   ·exact E.own j _ c a _ e' ec e2 h rfl e5
   ·exact E.own j k c a b e' ec e2 e3' e4 e5
 ·rcases back j _ e1 with⟨rfl,z⟩|⟨hne,e'⟩
  ·subst z;cases ec
  ·exact E.new j c a e' ec e2
end
def SubL (cells:List (Str×Addr)):List (Str×Addr)->Prop
 |[]=>True
 |(n,c)::r=>cells.lookup n=some c/\SubL cells r
theorem SubL.get {cells:List (Str×Addr)}:∀ {cl:List (Str×Addr)},SubL cells cl->∀ {x:Str} {c:Addr},cl.lookup x=some c->cells.lookup x=some c
 |[],_,_,_,e=>by cases e
 |(n,d)::r,h,x,c,e=>by
  rw[List.lookup_cons] at e
  by_cases hx:x==n
  ·simp only[hx] at e
   cases e
   have:x=n:=by simpa using hx
   rw[this];exact h.1
  ·have hx:(x==n)=false:=by simpa using hx
   simp only[hx] at e
   exact SubL.get h.2 e
structure Cap (X:Cx) (scope:Scope) (cl:List (Str×Addr)) (x:Str) (i:Nat):Prop where
 n:X.N[i]?=some x
 k:X.env.kindOf x=some .cell\/X.env.kindOf x=some .free
 k':(relabel scope X.env).names.lookup x=some .cell\/(relabel scope X.env).names.lookup x=some .free
 c:∃ c,cl.lookup x=some c
def Dk (X:Cx) (scope:Scope) (cl:List (Str×Addr)):List Str->List Nat->Prop
 |[],[]=>True
 |x::xs,i::is=>Cap X scope cl x i/\Dk X scope cl xs is
 |_,_=>False
theorem Dk.get {X:Cx} {scope:Scope} {cl:List (Str×Addr)}:∀ {xs:List Str} {is:List Nat},Dk X scope cl xs is->xs.length=is.length/\∀ (j:Nat) (x:Str),xs[j]?=some x->∃ i,is[j]?=some i/\Cap X scope cl x i
 |[],[],_=>⟨rfl,fun j x e=>by simp at e⟩
 |x::xs,i::is,h=>by
  obtain⟨h1,h2⟩:=h
  obtain⟨l,g⟩:=Dk.get h2
  refine⟨by simp[l],fun j y e=>?_⟩
  cases j with
  |zero=>simp at e;subst e;exact⟨i,rfl,h1⟩
  |succ j=>obtain⟨k,e1,e2⟩:=g j y (by simpa using e);exact⟨k,by simpa using e1,e2⟩
 |[],_::_,h=>h.elim
 |_::_,[],h=>h.elim
def X3 (names:List (Str×NameKind)) (x:Str):Bool:=match names.lookup x with
 |some .cell=>true
 |_=>false
def JR (X:Cx) (N':List Str) (scope:Scope) (cl:List (Str×Addr)) (C:Addr) (s₀:Shared) (H₀:Hp) (fp:List Addr):Cx:=
 { X with N:=N',s₀:=s₀,H₀:=H₀,env:=compEnvC scope (cellsFrom (C+1) scope.names cl) C X.env,outer:=X.stack,ex:=fp,fn:=X3 scope.names,pn:=[],xe:=fun _ _=>False }
structure X4 (h:Heap) (cs:List (Str×Addr)):Prop where
 inj:∀ x y c,cs.lookup x=some c->cs.lookup y=some c->x=y
 cell:∀ x c,cs.lookup x=some c->∃ v,h.IsCell c v
theorem jH {α:Type} {x n:Str} {a:α} {l:List (Str×α)} (h:x≠n):((n,a)::l).lookup x=l.lookup x:=by
 rw[List.lookup_cons,beq_eq_false_iff_ne.mpr h]
theorem Qy:∀ (names:List (Str×NameKind)) (h:Heap) (acc:List (Str×Addr)),X4 h acc->X4 (pushCells h names) (cellsFrom h.objs.size names acc)
 |[],_,_,x=>x
 |(n,k)::r,h,acc,x=>by
  unfold pushCells cellsFrom
  split
  ·have hlt:∀ y c,acc.lookup y=some c->c≠h.objs.size:=fun y c e=>let ⟨_,q⟩:=x.cell y c e;Nat.ne_of_lt q.lt
   have:=Qy r (h.push { cls:=.type "cell", data:=.cell none }) ((n,h.objs.size)::acc) ⟨fun y z c e1 e2=>?_,fun y c e=>?_⟩
   ·rwa [Heap.size_push] at this
   ·by_cases hy:y=n<;>by_cases hz:z=n
    ·rw[hy,hz]
    ·subst hy;rw[List.lookup_cons_self] at e1;rw[jH hz] at e2;cases e1;exact absurd rfl (hlt _ _ e2)
    ·subst hz;rw[List.lookup_cons_self] at e2;rw[jH hy] at e1;cases e2;exact absurd rfl (hlt _ _ e1)
    ·rw[jH hy] at e1;rw[jH hz] at e2;exact x.inj y z c e1 e2
   ·by_cases hy:y=n
    ·subst hy;rw[List.lookup_cons_self] at e;cases e;exact⟨none,_,Heap.get?_push_size _ rfl,rfl⟩
    ·rw[jH hy] at e
     obtain⟨v,q⟩:=x.cell y c e
     exact⟨v,q.keeps fun b o e=>Heap.get?_push_of_some _ e⟩
  ·exact Qy r h acc x
theorem vK:∀ (names:List (Str×NameKind)) (n:Nat) (acc:List (Str×Addr)) (x:Str) (c:Addr),(cellsFrom n names acc).lookup x=some c->acc.lookup x=some c\/n<=c
 |[],_,_,_,_,e=>.inl e
 |(m,k)::r,n,acc,x,c,e=>by
  unfold cellsFrom at e
  split at e
  ·rcases vK r _ _ x c e with h|h
   ·by_cases hx:x=m
    ·subst hx;rw[List.lookup_cons_self] at h;cases h;exact .inr (Nat.le_refl _)
    ·rw[jH hx] at h;exact .inl h
   ·exact .inr (by omega)
  ·exact vK r _ _ x c e
theorem FZ:∀ (names:List (Str×NameKind)) (n:Nat) (acc:List (Str×Addr)) (x:Str),(x,NameKind.cell)∉names->(cellsFrom n names acc).lookup x=acc.lookup x
 |[],_,_,_,_=>rfl
 |(m,k)::r,n,acc,x,h=>by
  unfold cellsFrom
  have hr:(x,NameKind.cell)∉r:=fun z=>h (List.mem_cons_of_mem _ z)
  split
  ·rename_i hk
   rw[FZ r _ _ x hr,jH fun z=>h (by rw[z,<-beq_iff_eq.mp hk];exact List.mem_cons_self ..)]
  ·exact FZ r _ _ x hr
theorem JT:∀ (names:List (Str×NameKind)) (n:Nat) (acc:List (Str×Addr)) (x:Str),((x,NameKind.cell)∈names\/∃ c,acc.lookup x=some c)->∃ c,(cellsFrom n names acc).lookup x=some c
 |[],_,_,_,h=>h.elim (fun z=>by simp at z) fun z=>z
 |(m,k)::r,n,acc,x,h=>by
  unfold cellsFrom
  split
  ·refine JT r _ _ x ?_
   by_cases hx:x=m
   ·exact .inr ⟨n,by rw[hx,List.lookup_cons_self]⟩
   ·rw[jH hx]
    exact h.imp_left fun z=>(List.mem_cons.mp z).elim (fun z=>absurd (congrArg Prod.fst z) hx) fun z=>z
  ·rename_i hk
   exact JT r _ _ x (h.imp_left fun z=>(List.mem_cons.mp z).elim (fun z=>by cases z;exact absurd rfl hk) fun z=>z)
theorem N6 {M:Model} {A:Around} {E:Value->Shared->Prop} {s:Shared} {scope:Scope} {g:Addr} {cl:List (Str×Addr)} {qual:Str} {env:Env} {Q:Env->Shared->Prop}
  (h:Q (newEnv scope s.heap.objs.size g (cellsFrom (s.heap.objs.size+1) scope.names cl) qual none .none (some env) builtinsNs) { s with heap:=pushCells (s.heap.push { cls:=.type "dict", data:=.dict #[] }) scope.names }) :
  wpAny M A (newFunctionEnv scope g cl [] qual none .none (some env)) Q E s:=by
 simp only[newFunctionEnv,Option.isSome_some,if_true]
 refine wpAny_bind (wpAny_alloc ?_)
 refine wpAny_bind (wpAny_layCells _ (fun name kind cells=>by cases kind==NameKind.cell<;>simp) _ _ _ _ ?_)
 rw[show ({ s with heap:=s.heap.push { cls:=.type "dict", data:=.dict #[] } }:Shared).heap.objs.size=s.heap.objs.size+1 from Heap.size_push ..]
 rw[List.forIn_nil]
 exact wpAny_bind (wpAny_pure (wpAny_pure h))
structure uT (X:Cx) (scope:Scope) (cl:List (Str×Addr)) (xs:List Str) (is:List Nat):Prop where
 clos:closureFor scope X.env=pure cl
 kind:scope.kind=.function
 cell:∀ y∈scope.names,y.2=.cell->cl.lookup y.1=none
 names:∀ y∈scope.names,y.2=.local->scope.names.lookup y.1=some .local
 sub:SubL X.env.cells cl
 has:∀ x,((relabel scope X.env).names.lookup x=some .cell\/(relabel scope X.env).names.lookup x=some .free)->(x,NameKind.cell)∈scope.names\/∃ c,cl.lookup x=some c
 cap:Dk X scope cl xs is
def w6 (is:List Nat) (σ:L2.St):L2.St:=is.map fun i=>(σ[i]?).bind fun v=>v
def nW (is:List Nat) (ρ:Ev):Ev:=is.map fun i=>yW ρ i
def Wg (n m:Nat) (g:Dt->Ev->Option Ev):Prop:=∀ d ρ ρ',g d ρ=some ρ'->ρ'.length=ρ.length/\∀ j,j < n\/m<=j->ρ'[j]?=ρ[j]?
def Uz (n m:Nat) (g:List Dt->Ev->Option Ev):Prop:=∀ d ρ ρ',g d ρ=some ρ'->ρ'.length=ρ.length/\∀ j,j < n\/m<=j->ρ'[j]?=ρ[j]?
theorem jo {n i m:Nat} (h:n<=i:=by decide) (h':i < m:=by decide):Wg n m (fun d ρ=>some (ρ.set i (some (.z d)))):=fun d ρ ρ' e=>by
 cases e
 exact⟨by rw[List.length_set],fun j hj=>nq _ (by omega)⟩
theorem Ls {n m:Nat}:Uz n m DR:=fun d ρ ρ' e=>by
 cases d with
 |nil=>cases e;exact⟨rfl,fun _ _=>rfl⟩
 |cons=>cases e
theorem vL {n m:Nat} {g:Dt->Ev->Option Ev} {gs:List Dt->Ev->Option Ev} (h:Wg n m g) (hs:Uz n m gs):Uz n m (kJ g gs):=fun d ρ ρ' e=>by
 cases d with
 |nil=>cases e
 |cons d ds=>
  simp only[kJ] at e
  obtain⟨ρ1,e1,e⟩:=bind_some e
  obtain⟨a,b⟩:=h _ _ _ e1
  obtain⟨a',b'⟩:=hs _ _ _ e
  exact⟨a'.trans a,fun j hj=>(b' j hj).trans (b j hj)⟩
theorem Qz {n m k:Nat} {gs:List Dt->Ev->Option Ev} (hs:Uz n m gs):Wg n m (yp k gs):=fun d ρ ρ' e=>by
 cases d with
 |tup ds=>
  simp only[yp] at e
  split at e
  ·exact hs _ _ _ e
  ·cases e
 |_=>cases e
def za (gt:Dt->Ev->Option Ev) (p:Ev->Option Bool) (fs:Ev->Option (List Dt)) (ρ:Ev):List Dt->Option (List Dt)
 |[]=>some []
 |d::ds=>(gt d ρ).bind fun ρ1=>(p ρ1).bind fun k=>if k=true then (fs ρ1).bind fun ys=>(za gt p fs ρ ds).bind fun zs=>some (ys++zs) else za gt p fs ρ ds
def X5:Bx->Option (List Dt)
 |.z y=>some [y]
 |_=>none
def DW (gt:Dt->Ev->Option Ev) (p:Ev->Option Bool) (fe:Ev->Option Bx) (ρ:Ev):List Dt->Option (List Dt):=za gt p (fun ρ=>(fe ρ).bind X5) ρ
theorem DX {b:Bx} {ys:List Dt} (h:X5 b=some ys):∃ y,b=.z y/\ys=[y]:=by
 cases b<;>cases h
 exact⟨_,rfl,rfl⟩
theorem xg {gt:Dt->Ev->Option Ev} {p:Ev->Option Bool} {fe:Ev->Option Bx} {ρ:Ev}:∀ {ds out:List Dt},DW gt p fe ρ ds=some out->out.length<=ds.length
 |[],_,e=>by cases e;exact Nat.le_refl _
 |d::ds,out,e=>by
  simp only[DW,za] at e
  obtain⟨ρ1,_,e⟩:=bind_some e
  obtain⟨k,_,e⟩:=bind_some e
  cases k with
  |false=>
   rw[if_neg Bool.false_ne_true] at e
   exact Nat.le_trans (xg (gt:=gt) (p:=p) (fe:=fe) e) (by simp)
  |true=>
   rw[if_pos rfl] at e
   obtain⟨ys,ey,e⟩:=bind_some e
   obtain⟨zs,ez,e⟩:=bind_some e
   obtain⟨b,_,ey⟩:=bind_some ey
   obtain⟨y,_,rfl⟩:=DX ey
   cases e
   simpa using xg (gt:=gt) (p:=p) (fe:=fe) ez
def Tests (X:Cx) (ifs:List Expr) (p:Ev->Option Bool):Prop:=(ifs=[]/\p=fun _=>some true)\/∃ c,ifs=[c]/\PB X c p
structure JV (X:Cx) (ifs:List Expr) (p:Ev->Option Bool):Prop where
 run:Tests X ifs p
section
variable {X:Cx} {elt tgt iter:Expr} {ifs:List Expr} {scope:Scope} {cl:List (Str×Addr)} {pos:Pos} {xs ts:List Str} {is:List Nat} {gt:Dt->Ev->Option Ev} {p:Ev->Option Bool} {fe:Ev->Option Bx} {fi:Ev->Option (List Dt)}
theorem QC {pins:List (Addr×Obj)} {σ:L2.St} {H3:Hp} {s3:Shared} {fp:List Addr} (I3:L2.Inv X pins σ H3 s3) (O:uT X scope cl xs is)
  (hf:∀ b∈fp,rG X pins H3 b) (hfl:∀ b∈fp,b < s3.heap.objs.size) :
  L2.Inv (JR X (xs++ts) scope cl s3.heap.objs.size s3 H3 fp) [] (w6 is σ++List.replicate ts.length none) H3 { s3 with heap:=pushCells (s3.heap.push { cls:=.type "dict", data:=.dict #[] }) scope.names }:=by
 obtain⟨hl,hc⟩:=O.cap.get
 have hsub:=O.sub
 have hsz:(s3.heap.push { cls:=.type "dict", data:=.dict #[] }).objs.size=s3.heap.objs.size+1:=Heap.size_push ..
 have hk:∀ b o,s3.heap.get? b=some o->(pushCells (s3.heap.push { cls:=.type "dict", data:=.dict #[] }) scope.names).get? b=some o:=fun b o e=>pushCells_keeps _ _ b o (Heap.get?_push_of_some _ e)
 have cf:X4 (pushCells (s3.heap.push { cls:=.type "dict", data:=.dict #[] }) scope.names) (cellsFrom (s3.heap.objs.size+1) scope.names cl):=by
  rw[<-hsz]
  refine Qy _ _ _ ⟨fun x y c e1 e2=>I3.ok.inj x y c (hsub.get e1) (hsub.get e2),fun x c e=>?_⟩
  obtain⟨v,q⟩:=I3.cell x c (hsub.get e)
  exact⟨v,q.keeps fun b o e=>Heap.get?_push_of_some _ e⟩
 have from':∀ x c,(cellsFrom (s3.heap.objs.size+1) scope.names cl).lookup x=some c->X.env.cells.lookup x=some c\/s3.heap.objs.size < c:=fun x c e=>(vK _ _ _ x c e).imp_left hsub.get
 refine⟨⟨I3.ok.mod,O.kind,I3.ok.glob,I3.ok.blt,Nat.le_refl _,cf.inj,fun x hx=>JT _ _ _ x (O.has x hx),fun x c hx e=>?_,I3.ok.hd,I3.ok.frames,.inl rfl,fun b hb=>⟨Nat.ne_of_lt (hfl b hb),fun x c e=>?_⟩,I3.bs,Nat.le_trans I3.ok.Tr I3.sz,fun b o e hb=>?_,fun b hb hb'=>?_,I3.stack,I3.K7⟩,
  rfl,I3.bare,Un.kept hk,⟨_,(Heap.Ns.new s3.heap (.type "dict")).keeps (pushCells_keeps _ _),fun j x v e1 e2 _=>?_⟩,cf.cell,I3.hok.fresh (Nat.le_refl _),fun x c e=>(from' x c e).elim (I3.pF x c) fun h=>I3.hok.fresh (Nat.le_of_lt h),fun q hq=>absurd (show q∈([]:List (Addr×Obj)) from hq) (by simp),I3.hok.kept hk,?_⟩
 ·refine (vK _ _ _ x c e).elim (fun h=>?_) fun h=>Nat.le_of_lt h
  have hx:(x,NameKind.cell)∈scope.names:=by
   have hx:X3 scope.names x=true:=hx
   unfold X3 at hx
   split at hx
   ·rename_i q;exact mem_of_lookup q
   ·cases hx
  rw[O.cell _ hx rfl] at h;cases h
 ·rcases from' x c e with h|h
  ·exact (hf b hb).2.2.2.2.1 x c h
  ·exact Nat.ne_of_gt (Nat.lt_trans (hfl b hb) h)
 ·obtain⟨_,_,_,z,_⟩:=hf b hb
  rcases z with z|z
  ·exact I3.ok.Pj b o e z
  ·exact absurd (Nat.lt_of_lt_of_le (Heap.lt_size e) (Nat.le_trans I3.ok.Tr z)) (Nat.lt_irrefl _)
 ·obtain⟨_,n1,n2,_⟩:=hf b hb
  rcases List.mem_cons.mp (I3.Fi b hb') with z|z
  ·exact n1 z
  ·exact n2 z
 ·have hj:j < is.length:=by
   by_cases hj:j < is.length
   ·exact hj
   ·rw[List.getElem?_append_right (by simp[w6];omega)] at e2
    rw[List.getElem?_replicate] at e2
    split at e2<;>cases e2
  have e1':xs[j]?=some x:=by
   have e1:(xs++ts)[j]?=some x:=e1
   rw[List.getElem?_append_left (by omega)] at e1;exact e1
  obtain⟨i,ei,hcp⟩:=hc j x e1'
  have e3:σ[i]?=some (some v):=by
   rw[List.getElem?_append_left (by simp[w6];omega)] at e2
   unfold w6 at e2
   rw[List.getElem?_map,ei] at e2
   cases q:σ[i]? with
   |none=>rw[Option.map_some,q] at e2;cases e2
   |some o=>
    rw[Option.map_some,q] at e2
    have:o=some v:=by simpa using e2
    rw[this]
  have vis:Tq X.env.scope x:=by
   rcases hcp.k with k|k
   ·exact .inr (.inl k)
   ·exact .inr (.inr k)
  obtain⟨m',hn',hlk⟩:=I3.loc
  obtain⟨u,r,l⟩:=hlk i x v hcp.n e3 vis
  refine⟨u,r,?_⟩
  rcases l with⟨k,_⟩|⟨k,c,ec,ic⟩
  ·rcases hcp.k with k'|k'<;>(rw[k] at k';cases k')
  ·obtain⟨c',ec'⟩:=hcp.c
   have:=hsub.get ec'
   rw[ec] at this;cases this
   refine .inr ⟨hcp.k',c,(FZ _ _ _ x fun z=>by rw[O.cell _ z rfl] at ec';cases ec').trans ec',?_⟩
   obtain⟨o,ho,hd⟩:=ic
   exact⟨o,hk c o ho,hd⟩
 ·show (w6 is σ++List.replicate ts.length none).length=(xs++ts).length
  simp[w6,hl]
theorem aV.caps {K:PySem.W.Frag} {H0 H:Hp} {σ:L2.St} {ρ:Ev} (E:aV K H0 H σ ρ) (is:List Nat) (n:Nat):aV K H H (w6 is σ++List.replicate n none) (nW is ρ++List.replicate n none):=by
 have noO:∀ (j:Nat) c,(nW is ρ++List.replicate n none)[j]?=some (some c)->uQ c=false:=fun j c e=>by
  by_cases hj:j < is.length
  ·rw[List.getElem?_append_left (by simp[nW];omega)] at e
   unfold nW at e
   rw[List.getElem?_map] at e
   cases q:is[j]? with
   |none=>rw[q] at e;cases e
   |some i=>
    rw[q] at e
    have:yW ρ i=some c:=by simpa using e
    exact zL this
  ·rw[List.getElem?_append_right (by simp[nW];omega),List.getElem?_replicate] at e
   split at e<;>cases e
 refine⟨by simp[w6,nW],fun j b e=>?_,fun j k c a b e ec=>absurd ec (by rw[noO j c e];exact Bool.false_ne_true),Same.refl H,fun j c a e ec=>absurd ec (by rw[noO j c e];exact Bool.false_ne_true)⟩
 by_cases hj:j < is.length
 ·rw[List.getElem?_append_left (by simp[nW];omega)] at e
  rw[List.getElem?_append_left (by simp[w6];omega)]
  unfold nW at e
  unfold w6
  rw[List.getElem?_map] at e ⊢
  cases q:is[j]? with
  |none=>rw[q] at e;cases e
  |some i=>
   rw[q] at e
   have:yW ρ i=some b:=by simpa using e
   obtain⟨v,e1,r⟩:=Hl E this
   exact⟨v,by simp[e1],r⟩
 ·rw[List.getElem?_append_right (by simp[nW];omega),List.getElem?_replicate] at e
  split at e<;>cases e
theorem aV.forget {K:PySem.W.Frag} {H0 H:Hp} {σ:L2.St} {ρ ρ':Ev} (E:aV K H0 H σ ρ') (hl:ρ'.length=ρ.length) (h:∀ (j:Nat) b,ρ[j]?=some (some b)->ρ'[j]?=some (some b)):aV K H0 H σ ρ:=
 ⟨E.len.trans hl,fun j b e=>E.val j b (h j b e),fun i j c a b e1 ec e2 e3 e4 e5=>E.own i j c a b (h _ _ e1) ec e2 (h _ _ e3) e4 e5,E.base,fun i c a e1 ec e2=>E.new i c a (h _ _ e1) ec e2⟩
structure Wh (Hb:Hp) (σ:L2.St) (ρ:Ev) (n:Nat):Prop where
 own:∀ (j:Nat) c,ρ[j]?=some (some c)->uQ c=false
 lt:∀ (j:Nat) b,ρ[j]?=some (some b)->j < n
 old:∀ (j:Nat) c a,ρ[j]?=some (some c)->loose c=true->σ[j]?=some (some (.ref a))->Hb a≠none
def Fx (σ σ':L2.St) (ρ:Ev):Prop:=∀ (j:Nat) c,loose c=true->ρ[j]?=some (some c)->σ'[j]?=σ[j]?
theorem Wh.fx {Hb:Hp} {σ σ':L2.St} {ρ:Ev} {n:Nat} (P:Wh Hb σ ρ n) (f:Fx σ σ' ρ):Wh Hb σ' ρ n:=⟨P.own,P.lt,fun j c a e hl ea=>P.old j c a e hl (by rw[<-f j c hl e];exact ea)⟩
theorem known {K:PySem.W.Frag} {H0 H:Hp} {σ:L2.St} {ρ:Ev} (E:aV K H0 H σ ρ) (j:Nat) (c:Bx) (a:Addr) (e:ρ[j]?=some (some c)) (hl:loose c=true) (ea:σ[j]?=some (some (.ref a))):H a≠none:=fun z=>by
 obtain⟨v,e1,rc⟩:=E.val j _ e
 rw[ea] at e1;cases e1
 cases c with
 |z d=>cases hl
 |l dz=>
  obtain⟨a',vs,e2,q,_⟩:=rc
  cases e2
  rcases q with q|⟨o,q⟩<;>(rw[z] at q;cases q)
 |n dz=>
  obtain⟨a',vs,e2,q,_⟩:=rc
  cases e2
  rcases q with q|⟨o,q⟩<;>(rw[z] at q;cases q)
 |o dz=>
  obtain⟨a',vs,e2,q,_⟩:=rc
  cases e2
  rw[z] at q;cases q
 |m dz _=>
  obtain⟨a',vs,e2,q,_⟩:=rc
  cases e2
  rw[z] at q;cases q
theorem aV.grown {K:PySem.W.Frag} {Hb H:Hp} {σ:L2.St} {ρ:Ev} {n:Nat} {D:Addr} {o:HO} (E:aV K Hb H σ ρ) (P:Wh Hb σ ρ n) (hD:Hb D=none) (kp:Kp H (upd H D o)):aV K Hb (upd H D o) σ ρ:=by
 refine⟨E.len,fun j b e=>?_,fun j k c a b e ec=>absurd ec (by rw[P.own j c e];exact Bool.false_ne_true),fun c o e=>?_,fun j c a e ec=>absurd ec (by rw[P.own j c e];exact Bool.false_ne_true)⟩
 ·obtain⟨v,ev,rb⟩:=E.val j b e
  refine⟨v,ev,?_⟩
  cases b with
  |z d=>exact Rep.kp kp rb
  |o dz=>have:=P.own j _ e;cases this
  |m dz _=>have:=P.own j _ e;cases this
  |n dz=>
   obtain⟨a,vs,rfl,q,rr⟩:=rb
   refine⟨a,vs,rfl,?_,rr.kp kp⟩
   have ha:a≠D:=fun z=>P.old j _ _ e rfl ev (by rw[z];exact hD)
   exact q.imp (fun q=>by rw[aO ha];exact q) fun ⟨o,q⟩=>⟨o,by rw[aO ha];exact q⟩
  |l dz=>
   obtain⟨a,vs,rfl,q,rr⟩:=rb
   refine⟨a,vs,rfl,?_,rr.kp kp⟩
   have ha:a≠D:=fun z=>P.old j _ _ e rfl ev (by rw[z];exact hD)
   exact q.imp (fun q=>by rw[aO ha];exact q) fun ⟨o,q⟩=>⟨o,by rw[aO ha];exact q⟩
 ·rw[aO (bY e hD)];exact E.base c o e
def UG (X:Cx) (el:Addr->Env->Sem Unit) (fs:Ev->Option (List Dt)) (Ac:Addr->Hp->List Dt->HO->Prop) (N n:Nat):Prop:=∀ (pins:List (Addr×Obj)) (s:Shared) (σ:L2.St) (H Hb:Hp) (ρ:Ev) (D:Addr) (o:HO) (o1 ys:List Dt),L2.Inv X pins σ H s->aV X.K Hb H σ ρ->Wh Hb σ ρ n->Hb D=none->fs ρ=some ys->H D=some o->Ac D H o1 o->o1.length+ys.length<=N →
 wpAny (model X.prog X.w) X.A (el D X.env) (fun _ s'=>∃ σ' H' o',L2.Inv X pins σ' H' s'/\aV X.K Hb H' σ' ρ/\Fx σ σ' ρ/\H' D=some o'/\Ac D H' (o1++ys) o') X.xe s
theorem X6 {el:Addr->Env->Sem Unit} {fs:Ev->Option (List Dt)} {Ac:Addr->Hp->List Dt->HO->Prop} {N n:Nat} (h:∀ (pins:List (Addr×Obj)) (s:Shared) (σ:L2.St) (H Hb:Hp) (ρ:Ev) (D:Addr) (o:HO) (o1 ys:List Dt),L2.Inv X pins σ H s->aV X.K Hb H σ ρ->fs ρ=some ys->H D=some o->Ac D H o1 o->o1.length+ys.length<=N →
  wpAny (model X.prog X.w) X.A (el D X.env) (fun _ s'=>∃ H9 o',L2.Inv X pins σ (upd H9 D o') s'/\Same H H9/\Kp H9 (upd H9 D o')/\Ac D (upd H9 D o') (o1++ys) o') X.xe s):UG X el fs Ac N n:=fun pins s σ H Hb ρ D o o1 ys I E P hD e1 e2 a1 l=>by
 refine wpAny_mono (h pins s σ H Hb ρ D o o1 ys I E e1 e2 a1 l) (fun _ s' ⟨H9,o',I',s9,kp,a'⟩=>?_) fun _ _ z=>z
 exact⟨σ,_,o',I',(E.grow s9).grown P hD kp,fun _ _ _ _=>rfl,bx,a'⟩
theorem N7 {comp:Expr} {d:Nat} {ipos:Pos} {Ac:Addr->Hp->List Dt->HO->Prop} {el:Addr->Env->Sem Unit} {fs:Ev->Option (List Dt)} {N n m:Nat} {pins:List (Addr×Obj)} {σ:L2.St} {H Hb:Hp} {s:Shared} {it D:Addr} {fp:List Addr} {tn:Nat->Heap->Prop} {J:It} {ds o0 out:List Dt} {o:HO} {ρ:Ev} {R:Result->Shared->Prop}
  (hcalm:X.calm=true) (hx:X.xe=fun _ _=>False) (N8:PTg X tgt gt) (hif:Tests X ifs p) (hel:UG X el fs Ac N m) (htk:Wg n m gt) (hnm:n<=m)
  (I:L2.Inv X pins σ H s) (E:aV X.K Hb H σ ρ) (P:Wh Hb σ ρ n) (hD:Hb D=none) (hHD:H D=some o) (hA:Ac D H o0 o)
  (T:Turn X.prog X.w X.K tgt J fp it tn) (st:tn 0 s.heap) (hf:∀ b∈fp,rG X pins H b) (Y:Yields X.K J ds Hb)
  (hout:za gt p fs ρ ds=some out) (hN:o0.length+out.length<=N)
  (hAk:∀ {D:Addr} {H H':Hp} {o1:List Dt} {o:HO},Kp H H'->Ac D H o1 o->Ac D H' o1 o)
  (hturn:∀ (it:Value) (D:Addr) (env:Env),compTurn comp d it (.ref D) env=(standAt ipos >>= fun _=>pyNext it >>= fun r=>match r with
   |none=>pure (.done .next)
   |some v=>letOwnedTupleGo tgt it v >>= fun _=>assign tgt env v >>= fun _=>(forIn ifs true fun c r=>if r=true then isTrue c env (eval c env) >>= fun ok=>pure (ForInStep.yield ok) else pure (ForInStep.yield r)) >>= fun ok=>if ok=true then el D env >>= fun _=>again (.compLoop comp d it (.ref D) env) else again (.compLoop comp d it (.ref D) env)))
  (hsh:∀ {it acc:Value} {env:Env} {Q:Fin->Shared->Prop} {E:Value->Shared->Prop} {s:Shared},wpAny (model X.prog X.w) X.A ((compTurn comp d it acc env).onRaise (fun x=>noteFrame x env >>= fun _=>theTreesLotGoes x)) Q E s->wpAny (model X.prog X.w) (X.A.under (.compLoop comp d it acc env)) ((model X.prog X.w).den (.compLoop comp d it acc env)) Q E s)
  (hR:∀ s' σ' H' o',L2.Inv X pins σ' H' s'->aV X.K Hb H' σ' ρ->Fx σ σ' ρ->H' D=some o'->Ac D H' (o0++out) o'->R (.ok .next) s') :
  codeAny (model X.prog X.w) X.A (.compLoop comp d (.ref it) (.ref D) X.env) R s:=by
 have hfC:∀ {H':Hp},(∀ b∈fp,H' b=none)->∀ b∈fp,rG X pins H' b:=fun {H'} hn b hb=>⟨hn b hb,(hf b hb).2⟩
 refine codeAny_loop rfl (fun k s'=>∃ (i:Nat) (σ':L2.St) (H':Hp) (o1 o2:List Dt) (o:HO),k=ds.length - i/\i<=ds.length/\L2.Inv X pins σ' H' s'/\tn i s'.heap/\(∀ b∈fp,H' b=none)/\aV X.K Hb H' σ' ρ/\Fx σ σ' ρ/\H' D=some o/\Ac D H' o1 o/\za gt p fs ρ (ds.drop i)=some o2/\o1++o2=o0++out) ?_ ds.length
  ⟨0,σ,H,o0,out,o,by simp,Nat.zero_le _,I,st,fun b hb=>(hf b hb).1,E,fun _ _ _ _=>rfl,hHD,hA,by simpa using hout,rfl⟩
 rintro k s4 ⟨i,σ4,H4,o1,o2,o,rfl,hi,I4,st4,fr4,E4,F4,hD4,r4,e4,ho⟩
 have P4:=P.fx F4
 refine hsh (wpAny_noted ?_)
 rw[hturn]
 obtain⟨y1,y2⟩:=Y i H4 E4.base
 by_cases hlt:i < ds.length
 ·have hd:ds[i]?=some ds[i]:=by simp[hlt]
  obtain⟨go,yl⟩:=y1 _ hd
  rw[List.drop_eq_getElem_cons hlt] at e4
  simp only[za] at e4
  obtain⟨ρ1,e1,e4⟩:=bind_some e4
  obtain⟨k,ek,e4⟩:=bind_some e4
  obtain⟨hl1,hk1⟩:=htk _ _ _ e1
  have back:∀ {σ5:L2.St} {H5:Hp},aV X.K Hb H5 σ5 ρ1->aV X.K Hb H5 σ5 ρ:=fun E5=>E5.forget hl1 fun j b e=>by rw[hk1 j (.inl (P.lt j b e))];exact e
  refine wpAny_bind (wpAny_standAt (wpAny_bind ?_))
  refine jF (T.item X rfl rfl rfl hcalm i pins s4 σ4 H4 _ I4 (hfC fr4) st4 go) fun r s5 ⟨u,hr,h5⟩=>?_
  subst hr
  refine wpAny_bind (jF h5 fun _ s6 ⟨x,H6,I6,r6,y6,st6,fr6⟩=>?_)
  obtain⟨sm,rx⟩:=yl x H6 y6
  have E4:=E4.grow sm
  have hD4:=sm _ _ hD4
  have r4:=hAk (.of sm) r4
  have I6':=I6.pinned (hfC fr6) (T.obj _ _ st6)
  have ha:=N8 _ s6 σ4 H6 x u (fun σ' H'=>H'=H6/\aV X.K Hb H6 σ' ρ1/\Lo σ4 ρ σ' ρ1) I6' r6 ⟨Hb,ρ,ds[i],ρ1,E4,rx,e1,fun σ' E' L'=>⟨rfl,E',L'⟩⟩
  rw[hx] at ha
  refine wpAny_bind (wpAny_mono ha (fun _ s7 h7=>?_) fun _ _ z=>z.elim)
  obtain⟨σ7,H7,I7,rfl,E7,L7⟩:=h7
  have P7:Wh Hb σ7 ρ1 m:=by
   refine⟨fun j c e=>?_,fun j c e=>?_,fun j c a e hl ea=>?_⟩
   ·cases c with
    |o ds=>exact P.own j _ (L7 j _ rfl e).1
    |m ds _=>exact P.own j _ (L7 j _ rfl e).1
    |_=>rfl
   ·refine Nat.lt_of_not_le fun h=>?_
    rw[hk1 j (.inr h)] at e
    exact absurd (Nat.lt_of_lt_of_le (P.lt j c e) hnm) (Nat.not_lt.mpr h)
   ·obtain⟨e',ee⟩:=L7 j c hl e
    exact P4.old j c a e' hl (by rw[<-ee];exact ea)
  have Wi:∀ {σ5:L2.St},Fx σ7 σ5 ρ1->Fx σ σ5 ρ:=fun f j c hl e=>by
   have e':ρ1[j]?=some (some c):=by rw[hk1 j (.inl (P.lt j c e))];exact e
   exact (f j c hl e').trans ((L7 j c hl e').2.trans (F4 j c hl e))
  have ht:wpAny (model X.prog X.w) X.A (forIn ifs true fun c r=>if r=true then do let ok <-isTrue c X.env (eval c X.env);pure (ForInStep.yield ok) else pure (ForInStep.yield r))
    (fun ok s8=>ok=k/\∃ H8,L2.Inv X (pins++wU fp s6.heap) σ7 H8 s8/\Same H7 H8) (notedBy (model X.prog X.w) X.A X.env fun e s'=>R (.error e) s') s7:=by
   rcases hif with⟨rfl,rfl⟩|⟨c,rfl,hc⟩
   ·cases ek
    exact wpAny_tests_nil ⟨rfl,H7,I7,Same.refl H7⟩
   ·refine wpAny_tests_one ?_
    have:=hc _ s7 σ7 H7 (fun b H8=>b=k/\Same H7 H8) I7 ⟨Hb,ρ1,k,E7,ek,fun H8 s8=>⟨rfl,s8⟩⟩
    rw[hx] at this
    exact wpAny_mono this (fun b s8 ⟨H8,I8,eb,s8'⟩=>⟨eb,H8,I8,s8'⟩) fun _ _ z=>z.elim
  refine wpAny_bind (wpAny_mono ht (fun ok s8 h8=>?_) fun _ _ z=>z)
  obtain⟨rfl,H8,I8,Za⟩:=h8
  have QD:∀ {σ9:L2.St} {H9:Hp} {s9:Shared},L2.Inv X (pins++wU fp s6.heap) σ9 H9 s9->L2.Inv X pins σ9 H9 s9/\tn (i+1) s9.heap/\∀ b∈fp,H9 b=none:=fun {σ9 H9 s9} I9=>by
   refine⟨I9.rJ,T.keep _ _ _ st6 fun b hb o e=>(I9.pin (b,o) (List.mem_append_right _ (List.mem_append_right _ (qx hb e)))).1,fun b hb=>?_⟩
   obtain⟨o,e,d⟩:=T.obj _ _ st6 b hb
   exact (I9.pin (b,o) (List.mem_append_right _ (List.mem_append_right _ (qx hb e)))).2.1
  cases ok with
  |false=>
   rw[if_neg Bool.false_ne_true] at e4
   obtain⟨I9,st9,fr9⟩:=QD I8
   exact wpAny_pure ⟨rfl,ds.length - (i+1),by omega,i+1,σ7,H8,o1,o2,o,rfl,hlt,I9,st9,fr9,back (E7.grow Za),Wi (fun _ _ _ _=>rfl),Za _ _ hD4,hAk (.of Za) r4,e4,ho⟩
  |true=>
   rw[if_pos rfl] at e4
   obtain⟨ys,eb,e4⟩:=bind_some e4
   obtain⟨zs,e5,e4⟩:=bind_some e4
   cases e4
   have hl:=congrArg List.length ho
   simp only[List.length_append] at hl
   have he:=hel _ s8 σ7 H8 Hb ρ1 D o o1 ys I8 (E7.grow Za) P7 hD eb (Za _ _ hD4) (hAk (.of Za) r4) (by omega)
   rw[hx] at he
   refine wpAny_bind (wpAny_mono he (fun _ s10 h10=>?_) fun _ _ z=>z.elim)
   obtain⟨σ9,H9,o',I10,E9,F9,hD9,a5⟩:=h10
   obtain⟨I11,acn,aco⟩:=QD I10
   exact wpAny_pure ⟨rfl,ds.length - (i+1),by omega,i+1,σ9,H9,o1++ys,zs,o',rfl,hlt,I11,acn,aco,back E9,Wi F9,hD9,a5,e5,by rw[List.append_assoc];exact ho⟩
 ·have hge:ds.length<=i:=by omega
  rw[List.drop_eq_nil_of_le hge] at e4
  cases e4
  refine wpAny_bind (wpAny_standAt (wpAny_bind ?_))
  refine jF (T.done X rfl rfl rfl hcalm i pins s4 σ4 H4 _ I4 (hfC fr4) st4 (y2 hge)) fun r s5 ⟨hr,I5⟩=>?_
  subst hr
  rw[List.append_nil] at ho
  exact wpAny_pure (hR s5 σ4 H4 o I5 E4 F4 hD4 (by rw[<-ho];exact r4))
def mJ (H:Hp) (D:Addr):Hp:=fun b=>if b=D then none else H b
theorem jl {H:Hp} {D b:Addr} (h:b≠D):mJ H D b=H b:=if_neg h
theorem qz {H:Hp} {D:Addr}:Same (mJ H D) H:=fun b o e=>by
 by_cases h:b=D
 ·rw[mJ,if_pos h] at e;cases e
 ·rw[jl h] at e;exact e
theorem Oa {comp:Expr} {mk:Sem Value} {o0:Obj} {O0:HO} {Ac:Addr->Hp->List Dt->HO->Prop} {el:Addr->Env->Sem Unit} {fs:Ev->Option (List Dt)} {N m:Nat} {pins:List (Addr×Obj)} {σ:L2.St} {H2:Hp} {s2:Shared} {it:Addr} {fp:List Addr} {tn:Nat->Heap->Prop} {J:It} {ds out:List Dt} {ρ:Ev} {RR:Value->Addr->Result->Shared->Prop} {E:Value->Shared->Prop}
  (O:uT X scope cl xs is) (hcalm:X.calm=true)
  (N8:∀ C s₀ H₀ fp,PTg (JR X (xs++ts) scope cl C s₀ H₀ fp) tgt gt) (hif:∀ C s₀ H₀ fp,Tests (JR X (xs++ts) scope cl C s₀ H₀ fp) ifs p) (helt:∀ C s₀ H₀ fp,UG (JR X (xs++ts) scope cl C s₀ H₀ fp) el fs Ac N m) (htk:Wg is.length m gt) (hnm:is.length<=m)
  (I2:L2.Inv X pins σ H2 s2) (Ec:aV X.K H2 H2 (w6 is σ++List.replicate ts.length none) (nW is ρ++List.replicate ts.length none)) (T:Turn X.prog X.w X.K tgt J fp it tn) (st:tn 0 s2.heap) (hf:∀ b∈fp,rG X pins H2 b) (Y:Yields X.K J ds H2)
  (hout:za gt p fs (nW is ρ++List.replicate ts.length none) ds=some out) (hlen:out.length<=N)
  (hRR:∀ (D C:Addr) (s':Shared) (H':Hp) (o:HO),H2 D=none->L2.Inv X pins σ H' s'->rG X pins H' C->(∃ m,s'.heap.Ns C m)->Same H2 H'->H' D=some o->Ac D H' out o->RR (.ref D) C (.ok .next) s')
  (hmk:∀ {Q:Value->Shared->Prop},Q (.ref s2.heap.objs.size) { s2 with heap:=s2.heap.push o0 }->wpAny (model X.prog X.w) X.A mk Q E s2) (hO0:∀ H,fL X.prog X.w H (s2.heap.push o0) s2.heap.objs.size O0) (hA0:∀ H,Ac s2.heap.objs.size H [] O0)
  (hAk:∀ {D:Addr} {H H':Hp} {o1:List Dt} {o:HO},Kp H H'->Ac D H o1 o->Ac D H' o1 o)
  (hturn:∀ (it:Value) (D:Addr) (env:Env),compTurn comp 0 it (.ref D) env=(standAt iter.pos >>= fun _=>pyNext it >>= fun r=>match r with
   |none=>pure (.done .next)
   |some v=>letOwnedTupleGo tgt it v >>= fun _=>assign tgt env v >>= fun _=>(forIn ifs true fun c r=>if r=true then isTrue c env (eval c env) >>= fun ok=>pure (ForInStep.yield ok) else pure (ForInStep.yield r)) >>= fun ok=>if ok=true then el D env >>= fun _=>again (.compLoop comp 0 it (.ref D) env) else again (.compLoop comp 0 it (.ref D) env)))
  (hstart:∀ {it acc:Value} {env:Env} {R:Result->Shared->Prop} {s:Shared},codeAny (model X.prog X.w) X.A (.compLoop comp 0 it acc env) R s->wpAny (model X.prog X.w) X.A (pyIter it) (fun it' s'=>codeAny (model X.prog X.w) X.A (.compLoop comp 0 it' acc env) R s') (notedBy (model X.prog X.w) X.A env fun x s'=>R (.error x) s') s->codeAny (model X.prog X.w) X.A (.compStart comp 0 it acc env) R s)
  (hsh:∀ {it acc:Value} {env:Env} {Q:Fin->Shared->Prop} {E:Value->Shared->Prop} {s:Shared},wpAny (model X.prog X.w) X.A ((compTurn comp 0 it acc env).onRaise (fun x=>noteFrame x env >>= fun _=>theTreesLotGoes x)) Q E s->wpAny (model X.prog X.w) (X.A.under (.compLoop comp 0 it acc env)) ((model X.prog X.w).den (.compLoop comp 0 it acc env)) Q E s) :
  wpAny (model X.prog X.w) X.A mk (fun acc s₃=>wpAny (model X.prog X.w) X.A (newFunctionEnv scope X.env.globals cl [] X.env.qual none .none (some X.env)) (fun cenv s₄=>
   codeAny (model X.prog X.w) X.A (.compStart comp 0 (.ref it) acc { cenv with scope:=relabel scope X.env }) (RR acc cenv.locals) s₄) E s₃) E s2:=by
 refine hmk (N6 ?_)
 have hD:H2 s2.heap.objs.size=none:=I2.hok.fresh (Nat.le_refl _)
 have I3:L2.Inv X pins σ (upd H2 s2.heap.objs.size O0) { s2 with heap:=s2.heap.push o0 }:=
  I2.laid (t':=s2.toks) (fun b o e=>Heap.get?_push_of_some _ e) (Nat.le_refl _) (hO0 _)
 have aag:∀ b∈fp,b < s2.heap.objs.size:=fun b hb=>let ⟨o,e,_⟩:=T.obj 0 _ st b hb;Heap.lt_size e
 have hf3:∀ b∈fp,rG X pins (upd H2 s2.heap.objs.size O0) b:=fun b hb=>⟨by rw[aO (Nat.ne_of_lt (aag b hb))];exact (hf b hb).1,(hf b hb).2⟩
 have st3:tn 0 (s2.heap.push o0):=T.keep 0 _ _ st fun b hb o e=>Heap.get?_push_of_some _ e
 have UJ:∀ b∈fp,b < (s2.heap.push o0).objs.size:=fun b hb=>by rw[Heap.size_push];exact Nat.lt_succ_of_lt (aag b hb)
 generalize hs3:({ s2 with heap:=s2.heap.push o0 }:Shared)=s3 at *
 have acq:s3.heap=s2.heap.push o0:=by rw[<-hs3]
 rw[<-acq] at st3 UJ
 have IC:=QC (ts:=ts) I3 O hf3 UJ
 have st1:tn 0 (pushCells (s3.heap.push { cls:=.type "dict", data:=.dict #[] }) scope.names):=T.keep 0 _ _ st3 fun b hb o e=>pushCells_keeps _ _ b o (Heap.get?_push_of_some _ e)
 have hfC:∀ b∈fp,rG (JR X (xs++ts) scope cl s3.heap.objs.size s3 (upd H2 s2.heap.objs.size O0) fp) [] (upd H2 s2.heap.objs.size O0) b:=fun b hb=>by
  obtain⟨f0,f1,f2,f3,f4,f5⟩:=hf3 b hb
  refine⟨f0,Nat.ne_of_lt (UJ b hb),fun z=>?_,.inl hb,fun x c e z=>?_,fun q hq=>absurd (show q∈([]:List (Addr×Obj)) from hq) (by simp)⟩
  ·rcases List.mem_cons.mp (I3.Fi b z) with q|q
   ·exact f1 q
   ·exact f2 q
  ·rcases vK _ _ _ x c e with h|h
   ·exact f4 x c (O.sub.get h) z
   ·rw[z] at h;exact absurd (Nat.lt_of_lt_of_le (UJ b hb) (Nat.le_of_succ_le h)) (Nat.lt_irrefl _)
 have P0:Wh H2 (w6 is σ++List.replicate ts.length none) (nW is ρ++List.replicate ts.length none) is.length:=by
  have g:∀ (j:Nat) c,(nW is ρ++List.replicate ts.length none)[j]?=some (some c)->j < is.length/\uQ c=false:=fun j c e=>by
   by_cases hj:j < is.length
   ·refine⟨hj,?_⟩
    rw[List.getElem?_append_left (by simp[nW];omega)] at e
    unfold nW at e
    rw[List.getElem?_map] at e
    cases q:is[j]? with
    |none=>rw[q] at e;cases e
    |some i=>rw[q] at e;exact zL (by simpa using e)
   ·rw[List.getElem?_append_right (by simp[nW];omega),List.getElem?_replicate] at e
    split at e<;>cases e
  exact⟨fun j c e=>(g j c e).2,fun j c e=>(g j c e).1,known Ec⟩
 have h:=N7 (X:=JR X (xs++ts) scope cl s3.heap.objs.size s3 (upd H2 s2.heap.objs.size O0) fp) (R:=RR (.ref s2.heap.objs.size) s3.heap.objs.size) (o0:=[]) hcalm rfl (N8 _ _ _ _) (hif _ _ _ _) (helt _ _ _ _) htk hnm IC (Ec.grow (bQ hD)) P0 hD bx (hA0 _) T st1 hfC Y hout (by simpa using hlen) hAk hturn hsh fun s5 σ5 H5 o5 I5 E5 _ hD5 a5=>by
  have IB:L2.Inv X pins σ H5 s5:=I3.call' (ch:=fp) I5.os I5.base I5.hok I5.bare fun b hb=>by
   obtain⟨f0,f1,f2,f3,f4,f5⟩:=hf3 b hb
   exact⟨f3,f1,f4,f5⟩
  obtain⟨m,hn,_⟩:=I5.loc
  exact hRR _ _ s5 H5 o5 hD IB (I3.Ni (Nat.le_refl _) I5.free) ⟨m,hn⟩ E5.base hD5 a5
 exact hstart h (T.self _ 0 _ _ _ st1 h)
def Wj (K:PySem.W.Frag) (_:Addr) (H:Hp) (o1:List Dt) (o:HO):Prop:=∃ us,o=.lst us/\aJ K H o1 us
theorem Wj.kp {K:PySem.W.Frag} {D:Addr} {H H':Hp} {o1:List Dt} {o:HO} (k:Kp H H'):Wj K D H o1 o->Wj K D H' o1 o:=fun ⟨us,e,r⟩=>⟨us,e,r.kp k⟩
def acr (fe:Ev->Option Bx):Ev->Option (List Dt):=fun ρ=>(fe ρ).bind X5
theorem UL {n:Nat} (h:PV X elt fe):UG X (fun D env=>do let _ <-call (.builtin "list.append") [.ref D,<-eval elt env]) (acr fe) (Wj X.K) 100000 n:=by
 refine X6 fun pins s σ H Hb ρ D o o1 ys I En ee hD ⟨us,e,r4⟩ hl=>?_
 subst e
 obtain⟨b,eb,ee⟩:=bind_some ee
 obtain⟨y,rfl,rfl⟩:=DX ee
 refine wpAny_bind (wpAny_mono (h pins s σ H (fun v H9=>Same H H9/\Rep X.K H9 y v) I ⟨Hb,ρ,_,En,eb,fun v H9 s9 _ r9=>⟨s9,r9⟩⟩) (fun v s9 h9=>?_) fun _ _ z=>z)
 obtain⟨v',H9,I9,rv,s89,r9⟩:=h9
 have hD9:=s89 _ _ hD
 refine wpAny_bind (wpAny_mono ((wX (X:=X)) _ s9 σ H9 (.ref D) [v'] (.ref D) [v] (fun w H10=>H10=upd H9 D (.lst (us++[v']))) I9 rfl (.cons rv .nil) ⟨_,us,v',rfl,rfl,hD9,by rw[r4.length];have h0:(100000:Nat) < sizeLine:=(by decide);simp at hl;omega,rfl⟩) (fun w s10 h10=>?_) fun _ _ z=>z)
 obtain⟨w',H10,I10,_,rfl⟩:=h10
 have kp:Kp H9 (upd H9 D (.lst (us++[v']))):=.lst hD9
 exact wpAny_pure ⟨H9,_,I10,s89,kp,us++[v'],rfl,((r4.kp (.of s89)).append (aJ.cons r9 aJ.nil)).kp kp⟩
theorem Hr {pins:List (Addr×Obj)} {σ:L2.St} {H2:Hp} {s2:Shared} {it:Addr} {fp:List Addr} {tn:Nat->Heap->Prop} {J:It} {ds out:List Dt} {ρ:Ev} {RR:Value->Addr->Result->Shared->Prop} {E:Value->Shared->Prop}
  (O:uT X scope cl xs is) (hcalm:X.calm=true)
  (N8:∀ C s₀ H₀ fp,PTg (JR X (xs++ts) scope cl C s₀ H₀ fp) tgt gt) (hif:∀ C s₀ H₀ fp,Tests (JR X (xs++ts) scope cl C s₀ H₀ fp) ifs p) (helt:∀ C s₀ H₀ fp,PV (JR X (xs++ts) scope cl C s₀ H₀ fp) elt fe) (htk:Wg is.length (is.length+ts.length) gt)
  (I2:L2.Inv X pins σ H2 s2) (Ec:aV X.K H2 H2 (w6 is σ++List.replicate ts.length none) (nW is ρ++List.replicate ts.length none)) (T:Turn X.prog X.w X.K tgt J fp it tn) (st:tn 0 s2.heap) (hf:∀ b∈fp,rG X pins H2 b) (Y:Yields X.K J ds H2)
  (hlen:ds.length<=100000) (hout:DW gt p fe (nW is ρ++List.replicate ts.length none) ds=some out)
  (hRR:∀ (D C:Addr) (s':Shared) (H':Hp) (us:List V),H2 D=none->L2.Inv X pins σ H' s'->rG X pins H' C->(∃ m,s'.heap.Ns C m)->Same H2 H'->H' D=some (.lst us)->aJ X.K H' out us->RR (.ref D) C (.ok .next) s') :
  wpAny (model X.prog X.w) X.A (newList []) (fun acc s₃=>wpAny (model X.prog X.w) X.A (newFunctionEnv scope X.env.globals cl [] X.env.qual none .none (some X.env)) (fun cenv s₄=>
   codeAny (model X.prog X.w) X.A (.compStart (.ListComp elt [⟨tgt,iter,ifs,0⟩] scope pos) 0 (.ref it) acc { cenv with scope:=relabel scope X.env }) (RR acc cenv.locals) s₄) E s₃) E s2:=
 Oa (Ac:=Wj X.K) (O0:=.lst []) (N:=100000) O hcalm N8 hif (fun C s₀ H₀ fp=>UL (helt C s₀ H₀ fp)) htk (Nat.le_add_right ..) I2 Ec T st hf Y hout (Nat.le_trans (xg hout) hlen) (fun D C s' H' o a b c d e f g=>by obtain⟨us,rfl,r⟩:=g;exact hRR D C s' H' us a b c d e f r)
  wpAny_newObj_type (fun _=>⟨Nat.zero_le _,[],0,.nil,Heap.get?_push_size _ rfl⟩) (fun _=>⟨[],rfl,aJ.nil⟩) Wj.kp (fun _ _ _=>rfl) codeAny_compStart_list fun h=>h
end
def iC (K:PySem.W.Frag) (f:Ev->Option (List Dt)):TI:=fun σ H R=>∃ H0 ρ ds,aV K H0 H σ ρ/\f ρ=some ds/\∀ J H',Same H H'->Yields K J ds H'->R J H'
def PIC (X:Cx) (tg iter:Expr) (f:Ev->Option (List Dt)):Prop:=PI X tg iter (iC X.K f)
structure QIC (X:Cx) (tg iter:Expr) (f:Ev->Option (List Dt)):Prop where
 run:PIC X tg iter f
def QF:Bx->Option (List Dt)
 |.z (.lst ds)=>some ds
 |.z (.tup ds)=>some ds
 |.z (.str x)=>some (signs x)
 |.o ds=>some ds
 |.l ds=>some ds
 |_=>none
section
variable {X:Cx} {e elt tgt iter:Expr} {es ifs:List Expr} {f:Ev->Option Bx} {fs:Ev->Option (List Bx)} {scope:Scope} {cl:List (Str×Addr)} {pos:Pos} {xs ts:List Str} {is:List Nat} {gt:Dt->Ev->Option Ev} {p:Ev->Option Bool} {fe:Ev->Option Bx} {fi:Ev->Option (List Dt)}
theorem QG (h:QIF X tgt iter fi):QIC X tgt iter fi:=⟨have h:=h.run;fun pins s σ H R I q=>by
 obtain⟨H0,ρ,ds,E,e,q⟩:=q
 exact h pins s σ H R I ⟨H0,ρ,ds,E,e,fun J H' s' y=>q J H' s' (y H' (Same.refl H') (fun _ _=>rfl) (fun _ _ _ _=>rfl) fun _ _ _=>rfl)⟩⟩
theorem oh (h:QV X e f):QIC X tgt e (fun ρ=>(f ρ).bind QF):=⟨have h:=h.run;fun pins s σ H R I q=>by
 refine Qw h pins s σ H R I ?_
 obtain⟨H0,ρ,ds,E,e,q⟩:=q
 obtain⟨b,eb,e⟩:=bind_some e
 refine⟨H0,ρ,b,E,eb,fun v H1 s1 n1 r1=>?_⟩
 cases b with
 |z d=>
  cases d with
  |tup ds'=>
   cases e
   simp only[aU,Rep] at r1
   obtain⟨a,vs,rfl,hq,rs⟩:=r1
   exact .inr (.inl ⟨a,rfl,⟨vs,hq⟩,q _ _ s1 (.tup hq rs)⟩)
  |lst ds'=>
   cases e
   obtain⟨a,vs,rfl,hq,rs⟩:=r1.Fy rfl
   exact .inl ⟨a,rfl,⟨vs,hq⟩,q _ _ s1 (.list hq rs)⟩
  |str x=>
   cases e
   simp only[aU,Rep] at r1
   obtain⟨rfl,_⟩:=r1
   exact .inr (.inr ⟨x,rfl,q _ _ s1 (.str x)⟩)
  |_=>cases e
 |l ds'=>
  cases e
  obtain⟨a,vs,rfl,hq,rs⟩:=r1.Fy rfl
  exact .inl ⟨a,rfl,⟨vs,hq⟩,q _ _ s1 (.list hq rs)⟩
 |o ds'=>
  cases e
  obtain⟨a,vs,rfl,hq,rs⟩:=r1.Fy rfl
  exact .inl ⟨a,rfl,⟨vs,hq⟩,q _ _ s1 (.list hq rs)⟩
 |n _=>cases e
 |m _ _=>cases e⟩
def kE (fi:Ev->Option (List Dt)) (gt:Dt->Ev->Option Ev) (p:Ev->Option Bool) (fe:Ev->Option Bx) (is:List Nat) (n:Nat):Ev->Option Bx:=fun ρ=>(fi ρ).bind fun ds=>
 if ds.length<=100000 then (DW gt p fe (nW is ρ++List.replicate n none) ds).bind fun out=>some (.o out) else none
theorem mO (ts:List Str) (O:uT X scope cl xs is) (hcalm:X.calm=true) (hi:QIC X tgt iter fi) (N8:∀ C s₀ H₀ fp,XQ (JR X (xs++ts) scope cl C s₀ H₀ fp) tgt gt) (hif:∀ C s₀ H₀ fp,JV (JR X (xs++ts) scope cl C s₀ H₀ fp) ifs p) (helt:∀ C s₀ H₀ fp,QV (JR X (xs++ts) scope cl C s₀ H₀ fp) elt fe) (htk:Wg is.length (is.length+ts.length) gt) (hs:∀ x,foldedSetIterable iter X.env x=pure x:=by intro _;rfl):QV X (.ListComp elt [⟨tgt,iter,ifs,0⟩] scope pos) (kE fi gt p fe is ts.length):=⟨have hi:=hi.run;have N8:=fun C s₀ H₀ fp=>(N8 C s₀ H₀ fp).run;have hif:=fun C s₀ H₀ fp=>(hif C s₀ H₀ fp).run;have helt:=fun C s₀ H₀ fp=>(helt C s₀ H₀ fp).run;fun pins s σ H Q I h=>by
 obtain⟨H0,ρ,b,E,e,q⟩:=h
 obtain⟨ds,ed,e⟩:=bind_some e
 split at e
 ·rename_i hlen
  obtain⟨out,eo,e⟩:=bind_some e
  cases e
  rw[eval_ListComp]
  refine wpAny_comprehension_free (use:=none) rfl hs O.clos O.kind O.names ?_
  refine jF (hi pins s σ H (fun J H'=>Same H H'/\Yields X.K J ds H') I ⟨H0,ρ,ds,E,ed,fun J H' s' y=>⟨s',y⟩⟩) fun v s1 h1=>jF h1 fun itv s2 h2=>?_
  obtain⟨it,fp,tn,J,H2,rfl,I2,T,st,hf,s12,Y⟩:=h2
  refine Hr (RR:=fun acc C=>compPost (model X.prog X.w) X.A X.xe none (EP X pins σ Q) acc C) (ts:=ts) (xs:=xs) O hcalm N8 hif helt htk I2 ((E.grow s12).caps is ts.length) T st hf Y hlen eo ?_
  intro D C s' H' us hD I' fC ⟨m,hn⟩ s2' hD' r'
  refine⟨m,hn,fun h' sb=>⟨.ref D,H',?_,rfl,q _ _ (s12.trans s2') (fun a ea=>by cases ea;exact s12.free hD) ⟨D,us,rfl,hD',r'⟩⟩⟩
  obtain⟨f0,f1,f2,f3,f4,f5⟩:=fC
  exact I'.turned (t':=s'.toks) (fun b o hb e=>(sb.2 b hb).trans e) f0 f1 f3 f4 f5
 ·cases e⟩
theorem UW (i:Nat) {y:Str} {py spos:Pos} (ts:List Str) (O:uT X scope cl xs is) (hcalm:X.calm=true) (hN:X.N.Nodup) (hi:QIC X tgt iter fi) (N8:∀ C s₀ H₀ fp,XQ (JR X (xs++ts) scope cl C s₀ H₀ fp) tgt gt) (hif:∀ C s₀ H₀ fp,JV (JR X (xs++ts) scope cl C s₀ H₀ fp) ifs p) (helt:∀ C s₀ H₀ fp,QV (JR X (xs++ts) scope cl C s₀ H₀ fp) elt fe) (htk:Wg is.length (is.length+ts.length) gt) (hsw:swapsWith (.ListComp elt [⟨tgt,iter,ifs,0⟩] scope pos) (some (.Name y py)) spos.line X.env=pure true:=by with_unfolding_all rfl) (hy:X.N[i]?=some y:=by rfl) (hx:Loc X.env.scope y:=by first|exact Or.inl rfl|exact Or.inr rfl) (hf:X.fn y=true\/X.env.scope.names.lookup y=some .local:=by first|exact .inl rfl|exact .inr rfl) (hs:∀ x,foldedSetIterable iter X.env x=pure x:=by intro _;rfl):Qq X (.Assign [.Name y py] (.ListComp elt [⟨tgt,iter,ifs,0⟩] scope pos) spos) (fun ρ=>(kE fi gt p fe is ts.length ρ).bind fun b=>(Qu ρ i b).bind fun ρ'=>some (.nx ρ')):=⟨have hi:=hi.run;have N8:=fun C s₀ H₀ fp=>(N8 C s₀ H₀ fp).run;have hif:=fun C s₀ H₀ fp=>(hif C s₀ H₀ fp).run;have helt:=fun C s₀ H₀ fp=>(helt C s₀ H₀ fp).run;fun pins s σ H D I h=>by
 obtain⟨H0,ρ,r,E,e,q⟩:=h
 obtain⟨b,eb,e⟩:=bind_some e
 obtain⟨ds,ed,eb⟩:=bind_some eb
 split at eb
 ·rename_i hlen
  obtain⟨out,eo,eb⟩:=bind_some eb
  cases eb
  cases e
  rw[exec_Assign_Name_used _ _ _ _ hsw]
  refine wpAny_bind (wpAny_standAt (wpAny_bind ?_))
  show wpAny _ X.A (do let _ <-comprehension (.ListComp elt [⟨tgt,iter,ifs,0⟩] scope pos) scope X.env _ (newList []) false (eval iter X.env) (some (assign (.Name y py) X.env))) _ _ s
  refine wpAny_bind (wpAny_mono (wpAny_comprehension_free (use:=some (assign (.Name y py) X.env)) (Q:=fun _ s'=>SP X pins D .next s') rfl hs O.clos O.kind O.names ?_) (fun _ s' hq=>wpAny_pure (wpAny_pure hq)) fun _ _ e=>e)
  refine jF (hi pins s σ H (fun J H'=>Same H H'/\Yields X.K J ds H') I ⟨H0,ρ,ds,E,ed,fun J H' s' y=>⟨s',y⟩⟩) fun v s1 h1=>jF h1 fun itv s2 h2=>?_
  obtain⟨it,fp,tn,J,H2,rfl,I2,T,st,hf',s12,Y⟩:=h2
  refine Hr (RR:=fun acc C=>compPost (model X.prog X.w) X.A X.xe (some (assign (.Name y py) X.env)) (fun _ s'=>SP X pins D .next s') acc C) (ts:=ts) (xs:=xs) O hcalm N8 hif helt htk I2 ((E.grow s12).caps is ts.length) T st hf' Y hlen eo ?_
  intro Da C s' H' us hD I' fC ⟨m,hn⟩ s2' hD' r'
  show wpAny _ X.A (assign (.Name y py) X.env (.ref Da)) _ _ s'
  obtain⟨f0,f1,f2,f3,f4,f5⟩:=fC
  obtain⟨oC,es',ep,hoC,hdC,hrest⟩:=id hn
  have I'':L2.Inv X (pins++[(C,oC)]) σ H' s':=I'.Fj fun pp hp=>by
   rcases List.mem_append.mp hp with z|z
   ·exact I'.pin pp (List.mem_append_right _ z)
   ·have:pp=(C,oC):=by simpa using z
    subst this
    exact⟨hoC,f0,f1,f2,fun v z=>by rw[hdC] at z;cases z⟩
  refine jF (L2.zJ hN hy hx hf (pins++[(C,oC)]) s' σ H' (.ref Da) (.ref Da) (fun σ' H''=>σ'=σ.set i (some (.ref Da))/\H''=H') I'' rfl ⟨rfl,rfl⟩) fun _ s'' ⟨σ',H'',J',e1,e2⟩=>?_
  subst e1 e2
  have hC':=(J'.pin (C,oC) (by simp)).1
  refine⟨m,⟨oC,es',ep,hC',hdC,hrest⟩,fun h' sb=>?_⟩
  refine⟨σ.set i (some (.ref Da)),H'',J'.rJ.turned (t':=s''.toks) (fun b o hb e=>(sb.2 b hb).trans e) f0 f1 f3 f4 f5,q _ _ ?_⟩
  exact E.set (s12.trans s2') (b:=.o out) ⟨Da,us,rfl,hD',r'⟩ (.inl rfl) fun a ea=>by cases ea;exact s12.free hD
 ·cases eb⟩
def lend:Bx->Bx
 |.o ds=>.l ds
 |.m ds _=>.n ds
 |b=>b
def isO:Bx->Bool
 |.o _=>true
 |.m _ _=>true
 |_=>false
def jw (K:PySem.W.Frag) (n:Nat) (F:List Bx->Option Bx):Sp:=fun vs H Q _=>vs.length=n/\∃ bs r,rO K H bs vs/\bs.all (fun b=>!isO b)=true/\F bs=some r/\∀ v H',Same H H'->Nw H r v->aU K H' r v->Q v H'
def eY (n:Nat) (g:Ev->Option Out):List Bx->Option Bx:=fun bs=>(g (bs.map some++List.replicate (n - bs.length) none)).bind fun r=>match r with
 |.rt b=>some b
 |.nx _=>some (.z .non)
 |_=>none
theorem aV.start {K:PySem.W.Frag} {H:Hp} {N:List Str} {bs:List Bx} {vs:List V} (r:rO K H bs vs) (ho:bs.all (fun b=>!isO b)=true):aV K H H (L2.start N vs) (bs.map some++List.replicate (N.length - bs.length) none):=by
 have hl:bs.length=vs.length:=Paired.length r
 have get:∀ (i:Nat) b,(bs.map some++List.replicate (N.length - bs.length) none)[i]?=some (some b)->bs[i]?=some b:=fun i b e=>by
  by_cases hi:i < bs.length
  ·rw[List.getElem?_append_left (by simpa using hi),List.getElem?_map] at e
   cases q:bs[i]? with
   |none=>rw[q] at e;cases e
   |some b'=>rw[q] at e;simpa using e
  ·rw[List.getElem?_append_right (by simp;omega),List.getElem?_replicate] at e
   split at e<;>cases e
 have noO:∀ (i:Nat) c,(bs.map some++List.replicate (N.length - bs.length) none)[i]?=some (some c)->uQ c=true->False:=fun i c e ec=>by
  have:=List.all_eq_true.mp ho _ (List.mem_of_getElem? (get i _ e))
  cases c with
  |o ds=>cases this
  |m ds _=>cases this
  |_=>cases ec
 refine⟨?_,fun i b e=>?_,fun i j c a b e ec=>(noO i c e ec).elim,Same.refl H,fun i c a e ec=>(noO i c e ec).elim⟩
 ·unfold L2.start
  simp[hl]
 ·have e':=get i b e
  have hi:i < bs.length:=(List.getElem?_eq_some_iff.mp e').1
  have:∀ {bs:List Bx} {vs:List V} {i:Nat} {b:Bx},Paired (aU K H) bs vs->bs[i]?=some b->∃ v,vs[i]?=some v/\aU K H b v:=by
   intro bs vs i b r
   induction r generalizing i with
   |nil=>intro e;simp at e
   |cons p t ih=>
    intro e
    cases i with
    |zero=>simp at e;subst e;exact⟨_,rfl,p⟩
    |succ i=>obtain⟨v,e1,e2⟩:=ih (i:=i) (by simpa using e);exact⟨v,by simpa using e1,e2⟩
  obtain⟨v,e1,e2⟩:=this r e'
  refine⟨v,?_,e2⟩
  unfold L2.start
  rw[List.getElem?_append_left (by simp;omega),List.getElem?_map,e1]
  rfl
end
section
variable {P:Program} {w:World} {K:PySem.W.Frag} {mg:Str->Option Value} {base:Heap}
theorem acw {x qual:Str} {st:Stmt} {f:Addr} {fd:FuncData} {N ps:List Str} {k:Nat} {g:Ev->Option Out} (F:uP K x qual st f fd) (S:bB N ps (aG st))
  (hbody:∀ (cdv:Value) (A:Around) (outer:List Env) (s:Shared) (H:Hp) (E:XK),lV k (A.deeper (envOfC qual (aG st) s.heap.objs.size f cdv))->Pu (Fo jf P w K mg base N qual (aG st) f cdv A outer s H E).Pq (bf st) g) :
  bF P w K mg base jf (k+1) f fd ps (jw K ps.length (eY N.length g)):=by
 refine F.ok S (fun vs H Q E h=>h.1) fun cdv A outer s H vs Q E hr h=>?_
 obtain⟨hl,bs,r,rb,ho,e,q⟩:=h
 refine⟨_,hbody cdv A outer s H E hr,?_⟩
 obtain⟨r',er,e⟩:=bind_some e
 refine⟨H,_,r',aV.start rb ho,er,?_⟩
 cases r' with
 |rt b=>cases e;exact fun v H' s' n' r'=>q v H' s' n' r'
 |nx ρ=>cases e;exact fun σ H' E'=>q _ H' E'.base trivial (by unfold aU Rep;rfl)
 |bk ρ=>cases e
 |ct ρ=>cases e
end
section
variable {X:Cx} {k:Nat} {f:Addr} {fd:FuncData} {ps:List Str} {F:List Bx->Option Bx} {x:Str} {p pos:Pos} {e:Expr} {es:List Expr} {fs:Ev->Option (List Bx)} {n:Nat}
theorem Ht {K:PySem.W.Frag} {H:Hp}:∀ {bs:List Bx} {vs:List V},rO K H bs vs->rO K H (bs.map lend) vs
 |_,_,.nil=>.nil
 |b::bs,_,.cons h t=>by
  refine .cons ?_ (Ht t)
  cases b with
  |z d=>exact h
  |l ds=>exact h
  |o ds=>obtain⟨a,vs,e,q,r⟩:=h;exact⟨a,vs,e,.inl q,r⟩
  |n ds=>exact h
  |m ds _=>obtain⟨a,vs,e,q,r⟩:=h;exact⟨a,vs,e,.inl q,r.1⟩
theorem Lx:∀ bs:List Bx,(bs.map lend).all (fun b=>!isO b)=true
 |[]=>rfl
 |b::bs=>by
  rw[List.map_cons,List.all_cons,Lx bs]
  cases b<;>rfl
def bH (n:Nat) (F:List Bx->Option Bx) (fs:Ev->Option (List Bx)):Ev->Option Bx:=fun ρ=>(fs ρ).bind fun bs=>if bs.length=n then F (bs.map lend) else none
theorem aR (G:bF X.prog X.w X.K X.mg X.base jf k f fd ps (jw X.K n F)) (hr:lV k X.A) (hg:Gl X x) (hm:X.mg x=some (.ref f)) (hk:PySem.W.keepIn X.K (.ref f)=true) (hb:Binds X.K fd ps []) (ha:Tt X (e::es) fs) (hdb:(x==("__debug__" : Str))=false:=by decide) (he:starEach (e::es) X.env=(false,eval e X.env)::starEach es X.env:=by rfl) (hpl:(backTo pos (starEach es X.env)).any (·.1)=false:=by rfl):QV X (.Call (.Name x p) (e::es) [] pos) (bH n F fs):=⟨have ha:=ha.run;Dj (T7 G hr hg hm hk hb .nil (Z1) ha hdb he hpl) fun σ H Q h=>by
 obtain⟨H0,ρ,r,E,e,q⟩:=h
 obtain⟨bs,eb,e⟩:=bind_some e
 refine⟨H0,ρ,bs,E,eb,fun vs H1 s1 r1=>?_⟩
 split at e
 ·rename_i hn
  rw[List.append_nil]
  exact⟨by rw[<-Paired.length r1];exact hn,_,r,Ht r1,Lx bs,e,fun v H2 s2 n2 r2=>q v H2 (s1.trans s2) (n2.old s1) r2⟩
 ·cases e⟩
end
end P1
end
section
namespace P1
open PySem PySem.Spec PyProof.Rows L2 SeqAt
mutual
def vD:Dt->Nat
 |.tup xs=>rR xs+1
 |.lst xs=>rR xs+1
 |_=>1
def rR:List Dt->Nat
 |[]=>0
 |d::ds=>max (vD d) (rR ds)
end
mutual
def Dd:Dt->Dt->Option Bool
 |.non,.non=>some true
 |.non,.bl _=>some false|.non,.int _=>some false|.non,.str _=>some false|.non,.tup _=>some false|.non,.lst _=>some false
 |.bl a,.bl b=>some (a==b)
 |.bl a,.int b=>some ((if a then 1 else 0)==b)
 |.bl _,.non=>some false|.bl _,.str _=>some false|.bl _,.tup _=>some false|.bl _,.lst _=>some false
 |.int a,.int b=>some (a==b)
 |.int a,.bl b=>some (a==(if b then 1 else 0))
 |.int _,.non=>some false|.int _,.str _=>some false|.int _,.tup _=>some false|.int _,.lst _=>some false
 |.str a,.str b=>some (a==b)
 |.str _,.non=>some false|.str _,.bl _=>some false|.str _,.int _=>some false|.str _,.tup _=>some false|.str _,.lst _=>some false
 |.tup xs,.tup ys=>kO xs ys
 |.tup _,.non=>some false|.tup _,.bl _=>some false|.tup _,.int _=>some false|.tup _,.str _=>some false|.tup _,.lst _=>some false
 |.lst xs,.lst ys=>kO xs ys
 |.lst _,.non=>some false|.lst _,.bl _=>some false|.lst _,.int _=>some false|.lst _,.str _=>some false|.lst _,.tup _=>some false
 |_,_=>none
def kO:List Dt->List Dt->Option Bool
 |[],[]=>some true
 |[],_::_=>some false
 |_::_,[]=>some false
 |x::xs,y::ys=>match Dd x y with
  |some b=>match kO xs ys with
   |some c=>some (b&&c)
   |none=>none
  |none=>none
end
mutual
theorem Hu:∀ {d:Dt} {k:Bool},Dd d d=some k->k=true
 |.non,_,e=>by cases e;rfl
 |.bl b,_,e=>by cases e;simp
 |.int b,_,e=>by cases e;simp
 |.str b,_,e=>by cases e;simp
 |.tup xs,_,e=>xq (ds:=xs) e
 |.lst xs,_,e=>xq (ds:=xs) e
 |.emp,_,e=>by cases e
theorem xq:∀ {ds:List Dt} {k:Bool},kO ds ds=some k->k=true
 |[],_,e=>by simp only[kO] at e;cases e;rfl
 |d::ds,_,e=>by
  simp only[kO] at e
  cases h:Dd d d with
  |none=>rw[h] at e;cases e
  |some b=>
   rw[h] at e
   simp only at e
   cases h2:kO ds ds with
   |none=>rw[h2] at e;cases e
   |some c=>
    rw[h2] at e
    cases e
    rw[Hu h,xq h2]
    rfl
end
theorem zQ (xs ys:List Dt):Dd (.tup xs) (.tup ys)=kO xs ys:=rfl
theorem rT:∀ {xs ys:List Dt} {k:Bool},kO xs ys=some k->∃ e:Nat->Bool,(∀ (j:Nat) x y,xs[j]?=some x->ys[j]?=some y->Dd x y=some (e j))/\k=((List.range (min xs.length ys.length)).all e&&xs.length==ys.length)
 |[],[],k,h=>by simp only[kO] at h;cases h;exact⟨fun _=>true,fun j x y e=>by simp at e,by simp⟩
 |[],y::ys,k,h=>by simp only[kO] at h;cases h;exact⟨fun _=>true,fun j x y e=>by simp at e,by simp⟩
 |x::xs,[],k,h=>by simp only[kO] at h;cases h;exact⟨fun _=>true,fun j x y _ e=>by simp at e,by simp⟩
 |x::xs,y::ys,k,h=>by
  simp only[kO] at h
  cases h1:Dd x y with
  |none=>rw[h1] at h;cases h
  |some b=>
   rw[h1] at h
   simp only at h
   cases h2:kO xs ys with
   |none=>rw[h2] at h;cases h
   |some c=>
    rw[h2] at h
    cases h
    obtain⟨e,g,hc⟩:=rT h2
    refine⟨fun j=>match j with|0=>b|j+1=>e j,fun j u v eu ev=>?_,?_⟩
    ·cases j with
     |zero=>simp at eu ev;subst eu ev;exact h1
     |succ j=>exact g j u v (by simpa using eu) (by simpa using ev)
    ·have:min (x::xs).length (y::ys).length=min xs.length ys.length+1:=by simp only[List.length_cons];omega
     rw[this,List.range_succ_eq_map,List.all_cons,List.all_map,hc]
     have hb:((x::xs).length==(y::ys).length)=(xs.length==ys.length):=by
      rw[Bool.eq_iff_iff];simp
     rw[hb,Bool.and_assoc]
     rfl
theorem rU:∀ {ds:List Dt} {j:Nat} {d:Dt},ds[j]?=some d->vD d<=rR ds
 |[],_,_,e=>by simp at e
 |d::ds,0,_,e=>by simp at e;subst e;simp only[rR];exact Nat.le_max_left _ _
 |d::ds,j+1,_,e=>by
  simp only[rR]
  exact Nat.le_trans (rU (ds:=ds) (j:=j) (by simpa using e)) (Nat.le_max_right _ _)
section
variable {X:Cx} {pins:List (Addr×Obj)} {σ:L2.St} {H:Hp} {s:Shared}
theorem zR (I:L2.Inv X pins σ H s) {a:Addr} {vs:List V} (h:vH X.K H a vs):∃ ob,s.heap.get? a=some ob/\ob.cls=.type "tuple" := by
 obtain⟨its,_,⟨ob,e,c,_⟩,_⟩:=I.tuple h
 exact⟨ob,e,c⟩
theorem zT (I:L2.Inv X pins σ H s) {a:Addr} {vs:List V} (h:qw X.K H a vs):∃ ob,s.heap.get? a=some ob/\ob.cls=.type "list" := by
 obtain⟨its,_,⟨ob,n,e,c,_⟩,_⟩:=I.list h
 exact⟨ob,e,c⟩
theorem uh (I:L2.Inv X pins σ H s) {a:Addr} {o:Obj} (h:H a=some (.wO o (.dK []))):∃ ob,s.heap.get? a=some ob/\ob.cls=.type "dict" := by
 obtain⟨e,_,_,vs,_,ob,es,ep,e2,ex,_⟩:=I.hok a _ h
 exact⟨ob,e2,ex.1⟩
theorem xu {a:Addr} {n m:String} (h:∃ ob,s.heap.get? a=some ob/\ob.cls=.type n) (q:∃ ob,s.heap.get? a=some ob/\ob.cls=.type m) (hn:n≠m):False:=by
 obtain⟨o,e,c⟩:=h
 obtain⟨o',e',c'⟩:=q
 rw[e] at e';cases e'
 rw[c] at c'
 exact hn (by injection c')
mutual
theorem Rep.inj (I:L2.Inv X pins σ H s):∀ {d e:Dt} {v:V},Rep X.K H d v->Rep X.K H e v->d=e
 |.non,e,v,h,q=>by
  simp only[Rep] at h;subst h
  cases e<;>simp only[Rep] at q<;>first|rfl|(cases q;done)|(obtain⟨a,b,z,_⟩:=q;cases z;done)|(obtain⟨z,_⟩:=q;cases z;done)
 |.bl _,e,v,h,q=>by
  simp only[Rep] at h;subst h
  cases e<;>simp only[Rep] at q<;>first|(cases q;rfl)|(cases q;done)|(obtain⟨a,b,z,_⟩:=q;cases z;done)|(obtain⟨z,_⟩:=q;cases z;done)
 |.int _,e,v,h,q=>by
  simp only[Rep] at h;subst h
  cases e<;>simp only[Rep] at q<;>first|(cases q;rfl)|(cases q;done)|(obtain⟨a,b,z,_⟩:=q;cases z;done)|(obtain⟨z,_⟩:=q;cases z;done)
 |.str x,e,v,h,q=>by
  simp only[Rep] at h
  have hv:v=.str x:=h.1
  subst hv
  cases e with
  |str y=>
   simp only[Rep] at q
   have z:V.str x=V.str y:=q.1
   injection z with z
   rw[z]
  |tup es=>simp only[Rep] at q;obtain⟨a,b,z,_⟩:=q;cases z
  |lst es=>simp only[Rep] at q;obtain⟨a,b,z,_⟩:=q;cases z
  |emp=>simp only[Rep] at q;obtain⟨a,b,z,_⟩:=q;cases z
  |_=>simp only[Rep] at q;cases q
 |.tup ds,e,v,h,q=>by
  simp only[Rep] at h
  obtain⟨a,vs,rfl,sq,r⟩:=h
  cases e with
  |tup es=>
   simp only[Rep] at q
   obtain⟨b,us,z,JW,r'⟩:=q
   cases z
   have:=I.Dw sq JW
   subst this
   rw[aJ.inj I r r']
  |lst es=>
   simp only[Rep] at q
   obtain⟨b,us,z,JW,r'⟩:=q
   cases z
   exact (xu (zR I sq) (zT I JW.sq) (by decide)).elim
  |emp=>
   simp only[Rep] at q
   obtain⟨b,o,z,JW⟩:=q
   cases z
   exact (xu (zR I sq) (uh I JW) (by decide)).elim
  |str x=>simp only[Rep] at q;have z:=q.1;cases z
  |_=>simp only[Rep] at q;cases q
 |.lst ds,e,v,h,q=>by
  simp only[Rep] at h
  obtain⟨a,vs,rfl,sq,r⟩:=h
  cases e with
  |lst es=>
   simp only[Rep] at q
   obtain⟨b,us,z,JW,r'⟩:=q
   cases z
   have:=I.zZ sq.sq JW.sq
   subst this
   rw[aJ.inj I r r']
  |tup es=>
   simp only[Rep] at q
   obtain⟨b,us,z,JW,r'⟩:=q
   cases z
   exact (xu (zT I sq.sq) (zR I JW) (by decide)).elim
  |emp=>
   simp only[Rep] at q
   obtain⟨b,o,z,JW⟩:=q
   cases z
   exact (xu (zT I sq.sq) (uh I JW) (by decide)).elim
  |str x=>simp only[Rep] at q;have z:=q.1;cases z
  |_=>simp only[Rep] at q;cases q
 |.emp,e,v,h,q=>by
  simp only[Rep] at h
  obtain⟨a,o,rfl,sq⟩:=h
  cases e with
  |emp=>rfl
  |tup es=>
   simp only[Rep] at q
   obtain⟨b,us,z,JW,r'⟩:=q
   cases z
   exact (xu (uh I sq) (zR I JW) (by decide)).elim
  |lst es=>
   simp only[Rep] at q
   obtain⟨b,us,z,JW,r'⟩:=q
   cases z
   exact (xu (uh I sq) (zT I JW.sq) (by decide)).elim
  |str x=>simp only[Rep] at q;have z:=q.1;cases z
  |_=>simp only[Rep] at q;cases q
theorem aJ.inj (I:L2.Inv X pins σ H s):∀ {ds es:List Dt} {vs:List V},aJ X.K H ds vs->aJ X.K H es vs->ds=es
 |[],es,vs,h,q=>by
  simp only[aJ] at h;subst h
  cases es with
  |nil=>rfl
  |cons e es=>simp only[aJ] at q;obtain⟨_,_,z,_⟩:=q;cases z
 |d::ds,es,vs,h,q=>by
  simp only[aJ] at h
  obtain⟨v,r,rfl,h1,h2⟩:=h
  cases es with
  |nil=>simp only[aJ] at q;cases q
  |cons e es=>
   simp only[aJ] at q
   obtain⟨v',r',z,q1,q2⟩:=q
   cases z
   rw[Rep.inj I h1 q1,aJ.inj I h2 q2]
end
theorem aah (I:L2.Inv X pins σ H s):∀ (n:Nat) {A:Around} {d e:Dt} {x y:V} {u v:Value} {k:Bool},min (vD d) (vD e)<=n->A.units+n < cLine->Rep X.K H d x->Rep X.K H e y->RelV x u->RelV y v->Dd d e=some k->EqAt A s u v k:=by
 intro n
 induction n with
 |zero=>
  intro A d e x y u v k hn
  have h1:1<=vD d:=by cases d<;>simp only[vD]<;>omega
  have h2:1<=vD e:=by cases e<;>simp only[vD]<;>omega
  omega
 |succ n ih=>
  intro A d e x y u v k hn hA rd re ru rv ek
  have hu:A.units < cLine:=by omega
  by_cases hxy:u=v/\∃ a,u=.ref a
  ·obtain⟨rfl,a,rfl⟩:=hxy
   have hx:x=.ref a:=by have:=ru.abs;simpa [Xa] using this.symm
   have hy:y=.ref a:=by have:=rv.abs;simpa [Xa] using this.symm
   subst hx hy
   have:=Rep.inj I rd re
   subst this
   rw[Hu ek]
   exact EqAt.same _
  ·have items:∀ {ds es:List Dt} {vs us:List V} {its its2:List Value} {f:Nat->Bool},min (rR ds) (rR es)<=n->aJ X.K H ds vs->aJ X.K H es us->Vals vs its->Vals us its2->(∀ (j:Nat) x y,ds[j]?=some x->es[j]?=some y->Dd x y=some (f j)) →
     ∀ j (h1:j < its.toArray.size) (h2:j < its2.toArray.size),EqAt A.in1 s its.toArray[j] its2.toArray[j] (f j):=by
    intro ds es vs us its its2 f hm r1 r2 w1 w2 hf j h1 h2
    have l1:=w1.length
    have l2:=w2.length
    have l3:=r1.length
    have l4:=r2.length
    have j1:j < its.length:=by simpa using h1
    have j2:j < its2.length:=by simpa using h2
    have d1:ds[j]?=some ds[j]:=by simp
    have d2:es[j]?=some es[j]:=by simp
    obtain⟨a,ea,ra⟩:=r1.get d1
    obtain⟨b,eb,rb⟩:=r2.get d2
    obtain⟨p,ep,rp⟩:=w1.get ea
    obtain⟨q,eq,rq⟩:=w2.get eb
    have e1:its.toArray[j]=p:=by simpa [j1] using ep
    have e2:its2.toArray[j]=q:=by simpa [j2] using eq
    rw[e1,e2]
    have m1:=rU d1
    have m2:=rU d2
    exact ih (by omega) (by rw[units_in1];omega) ra rb rp rq (hf j _ _ d1 d2)
   cases d with
   |non=>
    cases rd;cases ru
    cases e with
    |non=>cases re;cases rv;cases ek;exact EqAt.same _
    |bl b=>cases re;cases rv;cases ek;exact EqAt.none_bool b
    |int b=>cases re;obtain⟨t,rfl⟩:=rv;cases ek;exact EqAt.none_int b t
    |str b=>obtain⟨rfl,_⟩:=re;obtain⟨t,rfl⟩:=rv;cases ek;exact EqAt.none_str b t
    |tup es=>obtain⟨b,us,rfl,sq,_⟩:=re;cases rv;cases ek;obtain⟨_,_,p,_⟩:=I.tuple sq;exact EqAt.none_tuple p hu
    |lst es=>obtain⟨b,us,rfl,sq,_⟩:=re;cases rv;cases ek;obtain⟨_,_,p,_⟩:=I.list sq.sq;exact EqAt.none_list p.isList hu
    |emp=>cases ek
   |bl a=>
    cases rd;cases ru
    cases e with
    |non=>cases re;cases rv;cases ek;exact EqAt.bool_none a
    |bl b=>cases re;cases rv;cases ek;exact EqAt.bool_bool a b
    |int b=>cases re;obtain⟨t,rfl⟩:=rv;cases ek;exact EqAt.bool_int a b t
    |str b=>obtain⟨rfl,_⟩:=re;obtain⟨t,rfl⟩:=rv;cases ek;exact EqAt.bool_str a b t
    |tup es=>obtain⟨b,us,rfl,sq,_⟩:=re;cases rv;cases ek;obtain⟨_,_,p,_⟩:=I.tuple sq;exact EqAt.bool_tuple a p hu
    |lst es=>obtain⟨b,us,rfl,sq,_⟩:=re;cases rv;cases ek;obtain⟨_,_,p,_⟩:=I.list sq.sq;exact EqAt.bool_list a p.isList hu
    |emp=>cases ek
   |int a=>
    cases rd;obtain⟨t',rfl⟩:=ru
    cases e with
    |non=>cases re;cases rv;cases ek;exact EqAt.int_none a t'
    |bl b=>cases re;cases rv;cases ek;exact EqAt.int_bool a t' b
    |int b=>cases re;obtain⟨t,rfl⟩:=rv;cases ek;exact EqAt.int_int a t' b t
    |str b=>obtain⟨rfl,_⟩:=re;obtain⟨t,rfl⟩:=rv;cases ek;exact EqAt.int_str a t' b t
    |tup es=>obtain⟨b,us,rfl,sq,_⟩:=re;cases rv;cases ek;obtain⟨_,_,p,_⟩:=I.tuple sq;exact EqAt.int_tuple a t' p hu
    |lst es=>obtain⟨b,us,rfl,sq,_⟩:=re;cases rv;cases ek;obtain⟨_,_,p,_⟩:=I.list sq.sq;exact EqAt.int_list a t' p.isList hu
    |emp=>cases ek
   |str a=>
    obtain⟨rfl,_⟩:=rd;obtain⟨t',rfl⟩:=ru
    cases e with
    |non=>cases re;cases rv;cases ek;exact EqAt.str_none a t'
    |bl b=>cases re;cases rv;cases ek;exact EqAt.str_bool a t' b
    |int b=>cases re;obtain⟨t,rfl⟩:=rv;cases ek;exact EqAt.str_int a t' b t
    |str b=>obtain⟨rfl,_⟩:=re;obtain⟨t,rfl⟩:=rv;cases ek;exact EqAt.str_str a t' b t
    |tup es=>obtain⟨b,us,rfl,sq,_⟩:=re;cases rv;cases ek;obtain⟨_,_,p,_⟩:=I.tuple sq;exact EqAt.str_tuple a t' p hu
    |lst es=>obtain⟨b,us,rfl,sq,_⟩:=re;cases rv;cases ek;obtain⟨_,_,p,_⟩:=I.list sq.sq;exact EqAt.str_list a t' p.isList hu
    |emp=>cases ek
   |tup ds=>
    obtain⟨a,vs,rfl,sa,ra⟩:=rd;cases ru
    obtain⟨its,wv,p,_⟩:=I.tuple sa
    cases e with
    |non=>cases re;cases rv;cases ek;exact EqAt.tuple_none p hu
    |bl b=>cases re;cases rv;cases ek;exact EqAt.tuple_bool b p hu
    |int b=>cases re;obtain⟨t,rfl⟩:=rv;cases ek;exact EqAt.tuple_int b t p hu
    |str b=>obtain⟨rfl,_⟩:=re;obtain⟨t,rfl⟩:=rv;cases ek;exact EqAt.tuple_str b t p hu
    |lst es=>obtain⟨b,us,rfl,sq,_⟩:=re;cases rv;cases ek;obtain⟨_,_,p2,_⟩:=I.list sq.sq;exact EqAt.tuple_list p p2.isList hu
    |tup es=>
     obtain⟨b,us,rfl,sb,rb⟩:=re;cases rv
     obtain⟨its2,wu,p2,_⟩:=I.tuple sb
     change kO _ _=some _ at ek
     obtain⟨f,hf,rfl⟩:=rT ek
     have hne:a≠b:=fun z=>hxy ⟨by rw[z],a,rfl⟩
     have z:=EqAt.of_refs hne (RcAt.tuples (A:=A) (e:=f) p p2 hu (items (by simp only[vD] at hn;omega) ra rb wv wu hf))
     have q1:its.toArray.size=ds.length:=by rw[List.size_toArray,<-wv.length,ra.length]
     have q2:its2.toArray.size=es.length:=by rw[List.size_toArray,<-wu.length,rb.length]
     rw[q1,q2] at z
     exact z
    |emp=>cases ek
   |lst ds=>
    obtain⟨a,vs,rfl,sa,ra⟩:=rd;cases ru
    obtain⟨its,wv,p,_⟩:=I.list sa.sq
    cases e with
    |non=>cases re;cases rv;cases ek;exact EqAt.list_none p.isList hu
    |bl b=>cases re;cases rv;cases ek;exact EqAt.list_bool b p.isList hu
    |int b=>cases re;obtain⟨t,rfl⟩:=rv;cases ek;exact EqAt.list_int b t p.isList hu
    |str b=>obtain⟨rfl,_⟩:=re;obtain⟨t,rfl⟩:=rv;cases ek;exact EqAt.list_str b t p.isList hu
    |tup es=>obtain⟨b,us,rfl,sq,_⟩:=re;cases rv;cases ek;obtain⟨_,_,p2,_⟩:=I.tuple sq;exact EqAt.list_tuple p.isList p2 hu
    |lst es=>
     obtain⟨b,us,rfl,sb,rb⟩:=re;cases rv
     obtain⟨its2,wu,p2,_⟩:=I.list sb.sq
     change kO _ _=some _ at ek
     obtain⟨f,hf,rfl⟩:=rT ek
     have hne:a≠b:=fun z=>hxy ⟨by rw[z],a,rfl⟩
     have q1:its.toArray.size=ds.length:=by rw[List.size_toArray,<-wv.length,ra.length]
     have q2:its2.toArray.size=es.length:=by rw[List.size_toArray,<-wu.length,rb.length]
     by_cases hsz:its.toArray.size=its2.toArray.size
     ·have z:=EqAt.of_refs hne (RcAt.lists (A:=A) (e:=f) p.isList p2.isList hsz hu (items (by simp only[vD] at hn;omega) ra rb wv wu hf))
      have hl:ds.length=es.length:=by omega
      rw[q1] at z
      rw[hl,Nat.min_self,beq_self_eq_true,Bool.and_true,<-hl]
      exact z
     ·have hl:(ds.length==es.length)=false:=by rw[beq_eq_false_iff_ne];omega
      rw[hl,Bool.and_false]
      exact EqAt.of_refs hne (RcAt.lists_lengths p.isList p2.isList (by simpa using hsz) hu)
    |emp=>cases ek
   |emp=>cases e<;>cases ek
theorem Hv (I:L2.Inv X pins σ H s) {n:Nat} {A:Around} {ds es:List Dt} {vs us:List V} {its its2:List Value} {f:Nat->Bool} (hm:min (rR ds) (rR es)<=n) (hA:A.units+n+1 < cLine) (r1:aJ X.K H ds vs) (r2:aJ X.K H es us) (w1:Vals vs its) (w2:Vals us its2)
  (hf:∀ (j:Nat) x y,ds[j]?=some x->es[j]?=some y->Dd x y=some (f j)):∀ j (h1:j < its.toArray.size) (h2:j < its2.toArray.size),EqAt A.in1 s its.toArray[j] its2.toArray[j] (f j):=by
 intro j h1 h2
 have l1:=w1.length
 have l2:=w2.length
 have l3:=r1.length
 have l4:=r2.length
 have j1:j < its.length:=by simpa using h1
 have j2:j < its2.length:=by simpa using h2
 have d1:ds[j]?=some (ds[j]'(by omega)):=by simp
 have d2:es[j]?=some (es[j]'(by omega)):=by simp
 obtain⟨a,ea,ra⟩:=r1.get d1
 obtain⟨b,eb,rb⟩:=r2.get d2
 obtain⟨p,ep,rp⟩:=w1.get ea
 obtain⟨q,eq,rq⟩:=w2.get eb
 have e1:its.toArray[j]=p:=by simpa [j1] using ep
 have e2:its2.toArray[j]=q:=by simpa [j2] using eq
 rw[e1,e2]
 have m1:=rU d1
 have m2:=rU d2
 exact aah I n (by omega) (by rw[units_in1];omega) ra rb rp rq (hf j _ _ d1 d2)
end
def qC (K:PySem.W.Frag) (H:Hp):Dt->V->Prop
 |.lst ds,v=>∃ a vs,v=.ref a/\qw K H a vs/\aJ K H ds vs
 |d,v=>Rep K H d v
def pA:Bx->Bool
 |.n _=>true
 |.m _ _=>true
 |_=>false
def toD:Bx->Dt
 |.z d=>d
 |.l ds=>.lst ds
 |.o ds=>.lst ds
 |.n _=>.non
 |.m _ _=>.non
theorem aU.toD {K:PySem.W.Frag} {H:Hp} {b:Bx} {v:V} (h:aU K H b v) (hm:pA b=false):qC K H (toD b) v:=by
 cases b with
 |z d=>
  cases d with
  |lst ds=>exact h.Fy rfl
  |_=>exact h
 |l ds=>exact h.Fy rfl
 |o ds=>exact h.Fy rfl
 |n _=>cases hm
 |m _ _=>cases hm
section
variable {X:Cx} {pins:List (Addr×Obj)} {σ:L2.St} {H:Hp} {s:Shared}
theorem Ly (I:L2.Inv X pins σ H s) {d e:Dt} {x y:V} {u v:Value} {k:Bool} (hm:min (vD d) (vD e)<=100) (hA:X.A.units+100 < cLine) (rd:qC X.K H d x) (re:qC X.K H e y) (ru:RelV x u) (rv:RelV y v) (ek:Dd d e=some k):RcAt X.A s u v k/\RcNeAt X.A s u v (!k):=by
 have hu:X.A.units < cLine:=by omega
 cases d with
 |non=>
  cases rd;cases ru
  cases e with
  |non=>
   cases re;cases rv
   cases ek
   exact⟨.none_none,.none_none⟩
  |bl x2=>
   cases re;cases rv
   cases ek
   exact⟨.none_bool x2,.none_bool x2⟩
  |int x2=>
   cases re;obtain⟨t2,rfl⟩:=rv
   cases ek
   exact⟨.none_int x2 t2,.none_int x2 t2⟩
  |str x2=>
   obtain⟨rfl,_⟩:=re;obtain⟨t2,rfl⟩:=rv
   cases ek
   exact⟨.none_str x2 t2,.none_str x2 t2⟩
  |tup x2=>
   obtain⟨a2,vs2,rfl,Aj,JX⟩:=re;cases rv;obtain⟨its2,w2,p2,_⟩:=I.tuple Aj
   cases ek
   exact⟨.none_tuple p2 hu,.none_tuple p2 hu⟩
  |lst x2=>
   obtain⟨a2,vs2,rfl,Aj,JX⟩:=re;cases rv;obtain⟨its2,w2,p2,_⟩:=I.list Aj
   cases ek
   exact⟨.none_list p2.isList hu,.none_list p2.isList hu⟩
  |emp=>cases ek
 |bl x1=>
  cases rd;cases ru
  cases e with
  |non=>
   cases re;cases rv
   cases ek
   exact⟨.bool_none x1,.bool_none x1⟩
  |bl x2=>
   cases re;cases rv
   cases ek
   exact⟨.bool_bool x1 x2,.bool_bool x1 x2⟩
  |int x2=>
   cases re;obtain⟨t2,rfl⟩:=rv
   cases ek
   exact⟨.bool_int x1 x2 t2,.bool_int x1 x2 t2⟩
  |str x2=>
   obtain⟨rfl,_⟩:=re;obtain⟨t2,rfl⟩:=rv
   cases ek
   exact⟨.bool_str x1 x2 t2,.bool_str x1 x2 t2⟩
  |tup x2=>
   obtain⟨a2,vs2,rfl,Aj,JX⟩:=re;cases rv;obtain⟨its2,w2,p2,_⟩:=I.tuple Aj
   cases ek
   exact⟨.bool_tuple x1 p2 hu,.bool_tuple x1 p2 hu⟩
  |lst x2=>
   obtain⟨a2,vs2,rfl,Aj,JX⟩:=re;cases rv;obtain⟨its2,w2,p2,_⟩:=I.list Aj
   cases ek
   exact⟨.bool_list x1 p2.isList hu,.bool_list x1 p2.isList hu⟩
  |emp=>cases ek
 |int x1=>
  cases rd;obtain⟨t1,rfl⟩:=ru
  cases e with
  |non=>
   cases re;cases rv
   cases ek
   exact⟨.int_none x1 t1,.int_none x1 t1⟩
  |bl x2=>
   cases re;cases rv
   cases ek
   exact⟨.int_bool x1 t1 x2,.int_bool x1 t1 x2⟩
  |int x2=>
   cases re;obtain⟨t2,rfl⟩:=rv
   cases ek
   exact⟨.int_int x1 t1 x2 t2,.int_int x1 t1 x2 t2⟩
  |str x2=>
   obtain⟨rfl,_⟩:=re;obtain⟨t2,rfl⟩:=rv
   cases ek
   exact⟨.int_str x1 t1 x2 t2,.int_str x1 t1 x2 t2⟩
  |tup x2=>
   obtain⟨a2,vs2,rfl,Aj,JX⟩:=re;cases rv;obtain⟨its2,w2,p2,_⟩:=I.tuple Aj
   cases ek
   exact⟨.int_tuple x1 t1 p2 hu,.int_tuple x1 t1 p2 hu⟩
  |lst x2=>
   obtain⟨a2,vs2,rfl,Aj,JX⟩:=re;cases rv;obtain⟨its2,w2,p2,_⟩:=I.list Aj
   cases ek
   exact⟨.int_list x1 t1 p2.isList hu,.int_list x1 t1 p2.isList hu⟩
  |emp=>cases ek
 |str x1=>
  obtain⟨rfl,_⟩:=rd;obtain⟨t1,rfl⟩:=ru
  cases e with
  |non=>
   cases re;cases rv
   cases ek
   exact⟨.str_none x1 t1,.str_none x1 t1⟩
  |bl x2=>
   cases re;cases rv
   cases ek
   exact⟨.str_bool x1 t1 x2,.str_bool x1 t1 x2⟩
  |int x2=>
   cases re;obtain⟨t2,rfl⟩:=rv
   cases ek
   exact⟨.str_int x1 t1 x2 t2,.str_int x1 t1 x2 t2⟩
  |str x2=>
   obtain⟨rfl,_⟩:=re;obtain⟨t2,rfl⟩:=rv
   cases ek
   exact⟨.str_str x1 t1 x2 t2,.str_str x1 t1 x2 t2⟩
  |tup x2=>
   obtain⟨a2,vs2,rfl,Aj,JX⟩:=re;cases rv;obtain⟨its2,w2,p2,_⟩:=I.tuple Aj
   cases ek
   exact⟨.str_tuple x1 t1 p2 hu,.str_tuple x1 t1 p2 hu⟩
  |lst x2=>
   obtain⟨a2,vs2,rfl,Aj,JX⟩:=re;cases rv;obtain⟨its2,w2,p2,_⟩:=I.list Aj
   cases ek
   exact⟨.str_list x1 t1 p2.isList hu,.str_list x1 t1 p2.isList hu⟩
  |emp=>cases ek
 |tup x1=>
  obtain⟨a1,vs1,rfl,sq1,rr1⟩:=rd;cases ru;obtain⟨U0,w1,p1,_⟩:=I.tuple sq1
  cases e with
  |non=>
   cases re;cases rv
   cases ek
   exact⟨.tuple_none p1 hu,.tuple_none p1 hu⟩
  |bl x2=>
   cases re;cases rv
   cases ek
   exact⟨.tuple_bool x2 p1 hu,.tuple_bool x2 p1 hu⟩
  |int x2=>
   cases re;obtain⟨t2,rfl⟩:=rv
   cases ek
   exact⟨.tuple_int x2 t2 p1 hu,.tuple_int x2 t2 p1 hu⟩
  |str x2=>
   obtain⟨rfl,_⟩:=re;obtain⟨t2,rfl⟩:=rv
   cases ek
   exact⟨.tuple_str x2 t2 p1 hu,.tuple_str x2 t2 p1 hu⟩
  |tup x2=>
   obtain⟨a2,vs2,rfl,Aj,JX⟩:=re;cases rv;obtain⟨its2,w2,p2,_⟩:=I.tuple Aj
   change kO _ _=some _ at ek
   obtain⟨f,hf,rfl⟩:=rT ek
   have q1:U0.toArray.size=x1.length:=by rw[List.size_toArray,<-w1.length,rr1.length]
   have q2:its2.toArray.size=x2.length:=by rw[List.size_toArray,<-w2.length,JX.length]
   have it:=Hv I (n:=99) (A:=X.A) (by simp only[vD] at hm;omega) (by omega) rr1 JX w1 w2 hf
   rw[<-q1,<-q2]
   exact⟨.tuples p1 p2 hu it,.tuples p1 p2 hu it⟩
  |lst x2=>
   obtain⟨a2,vs2,rfl,Aj,JX⟩:=re;cases rv;obtain⟨its2,w2,p2,_⟩:=I.list Aj
   cases ek
   exact⟨.tuple_list p1 p2.isList hu,.tuple_list p1 p2.isList hu⟩
  |emp=>cases ek
 |lst x1=>
  obtain⟨a1,vs1,rfl,sq1,rr1⟩:=rd;cases ru;obtain⟨U0,w1,p1,_⟩:=I.list sq1
  cases e with
  |non=>
   cases re;cases rv
   cases ek
   exact⟨.list_none p1.isList hu,.list_none p1.isList hu⟩
  |bl x2=>
   cases re;cases rv
   cases ek
   exact⟨.list_bool x2 p1.isList hu,.list_bool x2 p1.isList hu⟩
  |int x2=>
   cases re;obtain⟨t2,rfl⟩:=rv
   cases ek
   exact⟨.list_int x2 t2 p1.isList hu,.list_int x2 t2 p1.isList hu⟩
  |str x2=>
   obtain⟨rfl,_⟩:=re;obtain⟨t2,rfl⟩:=rv
   cases ek
   exact⟨.list_str x2 t2 p1.isList hu,.list_str x2 t2 p1.isList hu⟩
  |tup x2=>
   obtain⟨a2,vs2,rfl,Aj,JX⟩:=re;cases rv;obtain⟨its2,w2,p2,_⟩:=I.tuple Aj
   cases ek
   exact⟨.list_tuple p1.isList p2 hu,.list_tuple p1.isList p2 hu⟩
  |lst x2=>
   obtain⟨a2,vs2,rfl,Aj,JX⟩:=re;cases rv;obtain⟨its2,w2,p2,_⟩:=I.list Aj
   change kO _ _=some _ at ek
   obtain⟨f,hf,rfl⟩:=rT ek
   have q1:U0.toArray.size=x1.length:=by rw[List.size_toArray,<-w1.length,rr1.length]
   have q2:its2.toArray.size=x2.length:=by rw[List.size_toArray,<-w2.length,JX.length]
   have it:=Hv I (n:=99) (A:=X.A) (by simp only[vD] at hm;omega) (by omega) rr1 JX w1 w2 hf
   by_cases hsz:U0.toArray.size=its2.toArray.size
   ·have hl:x1.length=x2.length:=by omega
    rw[hl,Nat.min_self,beq_self_eq_true,Bool.and_true,<-hl,<-q1]
    exact⟨.lists p1.isList p2.isList hsz hu it,.lists p1.isList p2.isList hsz hu it⟩
   ·have hl:(x1.length==x2.length)=false:=by rw[beq_eq_false_iff_ne];omega
    rw[hl,Bool.and_false]
    exact⟨.lists_lengths p1.isList p2.isList (by simpa using hsz) hu,.lists_lengths p1.isList p2.isList (by simpa using hsz) hu⟩
  |emp=>cases ek
 |emp=>cases e<;>cases ek
def eqB (a b:Bx):Option Bx:=if pA a=true\/pA b=true then none else if min (vD (toD a)) (vD (toD b))<=100 then (Dd (toD a) (toD b)).bind fun k=>some (.z (.bl k)) else none
def Wm (a b:Bx):Option Bx:=if pA a=true\/pA b=true then none else if min (vD (toD a)) (vD (toD b))<=100 then (Dd (toD a) (toD b)).bind fun k=>some (.z (.bl (!k))) else none
theorem of_eq (hu:X.A.units+100 < cLine):DQ X (compareOp .Eq) eqB:=by
 intro pins s σ H x y v u Q I rx ry h
 obtain⟨a,b,c,ra,rb,e,q⟩:=h
 unfold eqB at e
 split at e
 ·cases e
 rename_i hz
 have ha:pA a=false:=by cases h:pA a with|false=>rfl|true=>exact absurd (.inl h) hz
 have hb:pA b=false:=by cases h:pA b with|false=>rfl|true=>exact absurd (.inr h) hz
 split at e
 ·rename_i hm
  obtain⟨k,ek,e⟩:=bind_some e
  cases e
  exact (Ly I hm hu (ra.toD ha) (rb.toD hb) rx ry ek).1 X.prog X.w X.xe _ ⟨.bl k,H,I,rfl,q _ H (Same.refl H) trivial (by unfold aU Rep;rfl)⟩
 ·cases e
theorem QH (hu:X.A.units+100 < cLine):DQ X (compareOp .NotEq) Wm:=by
 intro pins s σ H x y v u Q I rx ry h
 obtain⟨a,b,c,ra,rb,e,q⟩:=h
 unfold Wm at e
 split at e
 ·cases e
 rename_i hz
 have ha:pA a=false:=by cases h:pA a with|false=>rfl|true=>exact absurd (.inl h) hz
 have hb:pA b=false:=by cases h:pA b with|false=>rfl|true=>exact absurd (.inr h) hz
 split at e
 ·rename_i hm
  obtain⟨k,ek,e⟩:=bind_some e
  cases e
  exact (Ly I hm hu (ra.toD ha) (rb.toD hb) rx ry ek).2 X.prog X.w X.xe _ ⟨.bl (!k),H,I,rfl,q _ H (Same.refl H) trivial (by unfold aU Rep;rfl)⟩
 ·cases e
end
section
variable {X:Cx} {pins:List (Addr×Obj)} {σ:L2.St} {H:Hp} {s:Shared}
theorem JZ {K:PySem.W.Frag} {H:Hp} {i:Int}:aU K H (.z (.int i)) (.int i):=by unfold aU Rep;rfl
theorem Ob {K:PySem.W.Frag} {H:Hp} {b:Bool}:aU K H (.z (.bl b)) (.bl b):=by unfold aU Rep;rfl
theorem U3 {K:PySem.W.Frag} {H:Hp} {x:Str} (h:x.length<=sizeLine):aU K H (.z (.str x)) (.str x):=by unfold aU Rep;exact⟨rfl,h⟩
theorem Lz {K:PySem.W.Frag} {H:Hp} {i:Int} {v:V} (h:aU K H (.z (.int i)) v):v=.int i:=by simpa only[aU,Rep] using h
theorem Ga {K:PySem.W.Frag} {H:Hp} {x:Str} {v:V} (h:aU K H (.z (.str x)) v):v=.str x/\x.length<=sizeLine:=by simpa only[aU,Rep] using h
theorem inT {K:PySem.W.Frag} {H:Hp} {ds:List Dt} {v:V} (h:aU K H (.z (.tup ds)) v):∃ a vs,v=.ref a/\vH K H a vs/\aJ K H ds vs:=by simpa only[aU,Rep] using h
def i2 (g:Int->Int->Option Dt):Bx->Bx->Option Bx
 |.z (.int i),.z (.int j)=>(g i j).bind fun d=>some (.z d)
 |_,_=>none
theorem Ak {f:Value->Value->Sem Value} {r:R2} {g:Int->Int->Option Dt} (ho:rK X f r) (h:∀ i j d H Q,g i j=some d->(∀ v,Rep X.K H d v->Q v H)->r (.int i) (.int j) H Q):DQ X f (i2 g):=rK.imp ho fun x y H Q q=>by
 obtain⟨a,b,c,ra,rb,e,q⟩:=q
 unfold i2 at e
 split at e
 ·rename_i i j
  obtain⟨d,ed,e⟩:=bind_some e
  cases e
  rw[Lz ra,Lz rb]
  exact h i j d H Q ed fun v rv=>q v H (Same.refl H) trivial rv
 ·cases e
theorem okI {K:PySem.W.Frag} {H:Hp} {i:Int}:Rep K H (.int i) (.int i):=by unfold Rep;rfl
theorem okT {K:PySem.W.Frag} {H:Hp} {b:Bool}:Rep K H (.bl b) (.bl b):=by unfold Rep;rfl
abbrev subB:=i2 fun i j=>some (.int (i - j))
abbrev leB:=i2 fun i j=>some (.bl (decide (i<=j)))
abbrev gtB:=i2 fun i j=>some (.bl (decide (j < i)))
abbrev geB:=i2 fun i j=>some (.bl (decide (j<=i)))
abbrev qZ:=i2 fun i j=>if 0 < j/\j < 1073741824 then some (.int (i / j)) else none
abbrev gR:=i2 fun i j=>if 0 < j then some (.int (i % j)) else none
abbrev U4:=i2 fun i j=>if 0<=j/\j<=1000/\i.natAbs < 2 ^ 64 then some (.int (i ^ j.toNat)) else none
theorem X7:DQ X (binaryOp .Sub) subB:=Ak Xg fun i j d H Q e q=>by cases e;exact⟨i,j,rfl,rfl,q _ okI⟩
theorem of_le:DQ X (compareOp .LtE) leB:=Ak Zx fun i j d H Q e q=>by cases e;exact⟨i,j,rfl,rfl,q _ okT⟩
theorem aak:DQ X (compareOp .Gt) gtB:=Ak Zy fun i j d H Q e q=>by cases e;exact⟨i,j,rfl,rfl,q _ okT⟩
theorem aal:DQ X (compareOp .GtE) geB:=Ak Zz fun i j d H Q e q=>by cases e;exact⟨i,j,rfl,rfl,q _ okT⟩
theorem ou:DQ X (binaryOp .FloorDiv) qZ:=Ak T4 fun i j d H Q e q=>by
 split at e
 ·rename_i h;cases e;exact⟨i,j,rfl,rfl,h,q _ okI⟩
 ·cases e
theorem cH:DQ X (binaryOp .Mod) gR:=Ak Xi fun i j d H Q e q=>by
 split at e
 ·rename_i h;cases e;exact⟨i,j,rfl,rfl,h,q _ okI⟩
 ·cases e
theorem X8:DQ X (binaryOp .Pow) U4:=Ak Xj fun i j d H Q e q=>by
 split at e
 ·rename_i h;cases e;exact⟨i,j,rfl,rfl,⟨h.1,by omega,h.2.2⟩,q _ okI⟩
 ·cases e
def Oc:Nat:=1000000
theorem U5:Oc<=sizeLine:=by decide
theorem Yb {l b:Addr} {vs us:List V} {Q:VK} (I:L2.Inv X pins σ H s) (hl:qw X.K H l vs) (hb:qw X.K H b us) (hz:vs.length+us.length<=sizeLine) (q:∀ p,H p=none->Q (.ref p) (upd H p (.lst (vs++us)))) :
  wpAny (model X.prog X.w) X.A (binaryOp .Add (.ref l) (.ref b)) (EP X pins σ Q) X.xe s:=by
 obtain⟨its,r1,⟨⟨cls,dd,data,sl⟩,n1,e1,c1,d1,dd1⟩,z1⟩:=I.list hl
 obtain⟨its2,r2,⟨⟨cls2,dd2,data2,sl2⟩,n2,e2,c2,d2,QK⟩,z2⟩:=I.list hb
 simp only at c1 d1 dd1 c2 d2 QK
 subst c1 d1 dd1 c2 d2 QK
 have l1:=r1.length
 have l2:=r2.length
 have e:its.toArray++its2.toArray=(its++its2).toArray:=by simp
 refine concat_meets ⟨_,e1,rfl⟩ ⟨_,e2,rfl⟩ noFill_list_add seq_list_add PySem.F.slot_list_add PySem.F.entry_list_add (PySem.F.args_list_add_2 _ _) (list_addW l b its.toArray its2.toArray n1 n2 none none sl sl2 (by rw[List.size_toArray,List.size_toArray];omega)) ⟨e1,e2,?_⟩
 rw[e]
 exact⟨.ref s.heap.objs.size,_,I.laid (t':=s.toks) (o:=.lst (vs++us)) (fun b ob q=>Heap.get?_push_of_some _ q) (Nat.le_refl _) ⟨by rw[List.length_append];exact hz,_,0,r1.append r2,Heap.get?_push_size _ rfl⟩,rfl,q _ (I.hok.fresh (Nat.le_refl _))⟩
theorem Yc {l b:Addr} {vs us:List V} {Q:VK} (I:L2.Inv X pins σ H s) (hl:vH X.K H l vs) (hb:vH X.K H b us) (hz:vs.length+us.length<=sizeLine) (q0:vs=[]->Q (.ref b) H) (q1:us=[]->Q (.ref l) H) (q2:∀ p,H p=none->Q (.ref p) (upd H p (.tup (vs++us)))) :
  wpAny (model X.prog X.w) X.A (binaryOp .Add (.ref l) (.ref b)) (EP X pins σ Q) X.xe s:=by
 by_cases hv:vs=[]
 ·obtain⟨its,r1,⟨⟨cls,dd,data,sl⟩,e1,c1,n1,dd1⟩,z1⟩:=I.tuple hl
  obtain⟨its2,r2,⟨⟨cls2,dd2,data2,sl2⟩,e2,c2,n2,QK⟩,z2⟩:=I.tuple hb
  simp only at c1 dd1 c2 QK
  subst c1 dd1 c2 QK
  have:its=[]:=r1.zK.mpr hv
  exact concat_meets ⟨_,e1,rfl⟩ ⟨_,e2,rfl⟩ noFill_tuple_add seq_tuple_add PySem.F.slot_tuple_add PySem.F.entry_tuple_add (PySem.F.args_tuple_add_2 _ _)
   (tuple_addW0 l b its.toArray its2.toArray n1 n2 dd dd2 sl sl2 (by simp[this])) ⟨e1,e2,⟨.ref b,H,I,rfl,q0 hv⟩⟩
 ·exact Ud pins s σ H (.ref l) (.ref b) (.ref l) (.ref b) Q I rfl rfl ⟨l,b,vs,us,rfl,rfl,hl,hb,hv,hz,q1,fun _=>q2⟩
def d8:Bx->Bx->Option Bx
 |.z (.int i),.z (.int j)=>some (.z (.int (i+j)))
 |.z (.str i),.z (.str j)=>if i.length+j.length<=Oc then some (.z (.str (i++j))) else none
 |.z (.tup xs),.z (.tup ys)=>if xs.length+ys.length<=Oc then some (.z (.tup (xs++ys))) else none
 |a,b=>(uz a).bind fun xs=>(uz b).bind fun ys=>if xs.length+ys.length<=Oc then some (.o (xs++ys)) else none
theorem str_len (i j:Str):(i++j).length=i.length+j.length:=by
 show (i.cps++j.cps).size=_
 rw[Array.size_append];rfl
theorem bJ:DQ X (binaryOp .Add) d8:=by
 intro pins s σ H x y v u Q I rx ry h
 obtain⟨a,b,c,ra,rb,e,q⟩:=h
 have hbig:=U5
 unfold d8 at e
 split at e
 ·rename_i i j
  cases e
  exact Xf pins s σ H x y v u Q I rx ry ⟨i,j,Lz ra,Lz rb,q _ H (Same.refl H) trivial JZ⟩
 ·rename_i i j
  split at e
  ·rename_i hl
   cases e
   exact JC pins s σ H x y v u Q I rx ry ⟨i,j,(Ga ra).1,(Ga rb).1,by omega,q _ H (Same.refl H) trivial (U3 (by rw[str_len];omega))⟩
  ·cases e
 ·rename_i xs ys
  split at e
  ·rename_i hl
   cases e
   obtain⟨l,vs,rfl,sl,rl⟩:=inT ra
   obtain⟨m,us,rfl,sm,rm⟩:=inT rb
   cases rx
   cases ry
   have h1:=rl.length
   have h2:=rm.length
   refine Yc I sl sm (by omega) (fun z=>q _ H (Same.refl H) trivial ?_) (fun z=>q _ H (Same.refl H) trivial ?_) fun p hp=>q _ _ (bQ hp) trivial ?_
   ·unfold aU Rep
    refine⟨m,us,rfl,sm,?_⟩
    have:xs=[]:=by subst z;exact List.eq_nil_of_length_eq_zero (by simpa using h1.symm)
    rw[this,List.nil_append];exact rm
   ·unfold aU Rep
    refine⟨l,vs,rfl,sl,?_⟩
    have:ys=[]:=by subst z;exact List.eq_nil_of_length_eq_zero (by simpa using h2.symm)
    rw[this,List.append_nil];exact rl
   ·unfold aU Rep
    exact⟨p,_,rfl,.inl (.inl bx),(rl.append rm).kp (.of (bQ hp))⟩
  ·cases e
 ·obtain⟨xs,ea,e⟩:=bind_some e
  obtain⟨ys,eb,e⟩:=bind_some e
  split at e
  ·rename_i hl
   cases e
   obtain⟨l,vs,rfl,sl,rl⟩:=ra.Fy ea
   obtain⟨m,us,rfl,sm,rm⟩:=rb.Fy eb
   cases rx
   cases ry
   have h1:=rl.length
   have h2:=rm.length
   refine Yb I sl sm (by omega) fun p hp=>q _ _ (bQ hp) (fun a ea=>by cases ea;exact hp) ⟨p,_,rfl,bx,(rl.append rm).kp (.of (bQ hp))⟩
  ·cases e
def nu:Bx->Bx->Option Bx
 |.z (.int i),.z (.int j)=>if (-(2 ^ 64) < i/\i < 2 ^ 64)\/(-(2 ^ 64) < j/\j < 2 ^ 64) then some (.z (.int (i * j))) else none
 |.z (.str x),.z (.int n)=>if n<=1000 ∧ -1000<=n/\x.length<=1000 then some (.z (.str (Txt.mul x n))) else none
 |_,_=>none
theorem uF (x:Array Nat):∀ (n:Nat) (acc:Array Nat),((List.replicate n x).foldl (·++·) acc).size=acc.size+n * x.size
 |0,acc=>by simp
 |n+1,acc=>by
  rw[List.replicate_succ,List.foldl_cons,uF x n,Array.size_append,Nat.succ_mul]
  omega
theorem Gb (x:Str) (n:Int):(Txt.mul x n).length<=n.toNat * x.length+x.length:=by
 unfold Txt.mul
 split
 ·exact Nat.zero_le _
 ·split
  ·exact Nat.le_add_left _ _
  ·show ((List.replicate n.toNat x.cps).foldl (·++·) #[]).size<=_
   rw[uF]
   show (#[]:Array Nat).size+n.toNat * x.cps.size<=n.toNat * x.cps.size+x.cps.size
   simp
theorem ji:DQ X (binaryOp .Mult) nu:=by
 intro pins s σ H x y v u Q I rx ry h
 obtain⟨a,b,c,ra,rb,e,q⟩:=h
 unfold nu at e
 split at e
 ·rename_i i j
  split at e
  ·rename_i hl
   cases e
   exact Xh pins s σ H x y v u Q I rx ry ⟨i,j,Lz ra,Lz rb,hl,q _ H (Same.refl H) trivial JZ⟩
  ·cases e
 ·rename_i x' n
  split at e
  ·rename_i hl
   cases e
   obtain⟨rfl,hx⟩:=Ga ra
   have hy:=Lz rb
   subst hy
   obtain⟨t,rfl⟩:=rx
   obtain⟨t',rfl⟩:=ry
   have hs:sizeLine=16777216:=sizeLine_eq
   have hm:n.toNat * x'.length<=1000 * 1000:=Nat.mul_le_mul (by omega) hl.2.2
   refine SB.mul ⟨?_,fun h1 h2=>?_,fun h1 h2=>?_⟩ fun t' k=>⟨.str _,H,I.tok _,⟨_,rfl⟩,q _ H (Same.refl H) trivial (U3 (Nat.le_trans (Gb x' n) (by omega)))⟩
   ·have e1:decide (n < -(2 ^ 63:Int))=false:=decide_eq_false (by omega)
    have e2:decide (n>=2 ^ 63)=false:=decide_eq_false (by omega)
    rw[e1,e2];rfl
   ·have hn:0 < n:=by omega
    have:(1000:Int)<=(2 ^ 63 - 1) / n:=(Int.le_ediv_iff_mul_le hn).mpr (by omega)
    omega
   ·show decide (x'.length * n.toNat > sizeLine)=false
    rw[Nat.mul_comm]
    exact decide_eq_false (by omega)
  ·cases e
 ·cases e
def DY (i j:Str):Bool:=!(Builtin.Str.occurrences j i 0 j.length 1).isEmpty
def vM:Dt->Bool
 |.non=>true
 |.bl _=>true
 |.int _=>true
 |.str _=>true
 |_=>false
def memD (x:Dt) (ys:List Dt):Option Bool:=if vM x=true/\ys.all vM=true then some (ys.any fun y=>match Dd y x with|some true=>true|_=>false) else none
def Gd:Bx->Option (List Dt)
 |.z (.lst ds)=>some ds
 |.z (.tup ds)=>some ds
 |.l ds=>some ds
 |.o ds=>some ds
 |_=>none
def inB:Bx->Bx->Option Bool
 |.z (.str i),.z (.str j)=>some (DY i j)
 |.z d,b=>(Gd b).bind fun ys=>memD d ys
 |_,_=>none
def inF (a b:Bx):Option Bx:=(inB a b).bind fun k=>some (.z (.bl k))
theorem Hw {K:PySem.W.Frag} {H:Hp} {d:Dt} {v:V} (r:Rep K H d v) (f:vM d=true):qY v=true:=by
 cases d<;>first|(cases f;done)|skip
 all_goals simp only[Rep] at r
 ·subst r;rfl
 ·subst r;rfl
 ·subst r;rfl
 ·obtain⟨rfl,_⟩:=r;rfl
theorem Ed {K:PySem.W.Frag} {H:Hp}:∀ {ds:List Dt} {vs:List V},aJ K H ds vs->ds.all vM=true->vs.all qY=true
 |[],_,h,_=>by simp only[aJ] at h;subst h;rfl
 |d::ds,_,h,f=>by
  simp only[aJ] at h
  obtain⟨v,r,rfl,h1,h2⟩:=h
  rw[List.all_cons,Bool.and_eq_true] at f
  rw[List.all_cons,Hw h1 f.1,Ed h2 f.2];rfl
theorem Ge (b:Bool):(match some b with|some true=>true|_=>false)=b:=by cases b<;>rfl
theorem U6 {K:PySem.W.Frag} {H:Hp} {d e:Dt} {x y:V} (rd:Rep K H d x) (re:Rep K H e y) (fd:vM d=true) (fe:vM e=true):Nx x y=(match Dd d e with|some true=>true|_=>false):=by
 cases d<;>first|(cases fd;done)|skip
 all_goals (cases e<;>first|(cases fe;done)|skip)
 all_goals simp only[Rep] at rd re
 all_goals first
  |(subst rd;subst re;simp only[Nx,Dd,Ge])
  |(obtain⟨rfl,_⟩:=rd;subst re;simp only[Nx,Dd,Ge])
  |(subst rd;obtain⟨rfl,_⟩:=re;simp only[Nx,Dd,Ge])
  |(obtain⟨rfl,_⟩:=rd;obtain⟨rfl,_⟩:=re;simp only[Nx,Dd,Ge])
theorem LC {K:PySem.W.Frag} {H:Hp} {d:Dt} {x:V} (rd:Rep K H d x) (fd:vM d=true):∀ {ds:List Dt} {vs:List V},aJ K H ds vs->ds.all vM=true->inV x vs=ds.any fun y=>match Dd y d with|some true=>true|_=>false
 |[],_,h,_=>by simp only[aJ] at h;subst h;rfl
 |e::ds,_,h,f=>by
  simp only[aJ] at h
  obtain⟨v,r,rfl,h1,h2⟩:=h
  rw[List.all_cons,Bool.and_eq_true] at f
  have:=LC rd fd h2 f.2
  unfold inV at this ⊢
  rw[List.any_cons,List.any_cons,U6 h1 rd f.1 fd,this]
theorem vN {K:PySem.W.Frag} {H:Hp} {b:Bx} {v:V} {ds:List Dt} (h:aU K H b v) (e:Gd b=some ds):∃ a vs,v=.ref a/\(qw K H a vs\/vH K H a vs)/\aJ K H ds vs:=by
 cases b with
 |z d=>
  cases d<;>first|(cases e;done)|skip
  ·cases e
   obtain⟨a,vs,e,q,r⟩:=inT h
   exact⟨a,vs,e,.inr q,r⟩
  ·cases e
   obtain⟨a,vs,e,q,r⟩:=h.Fy rfl
   exact⟨a,vs,e,.inl q,r⟩
 |l ds'=>
  cases e
  obtain⟨a,vs,e,q,r⟩:=h.Fy rfl
  exact⟨a,vs,e,.inl q,r⟩
 |o ds'=>
  cases e
  obtain⟨a,vs,e,q,r⟩:=h.Fy rfl
  exact⟨a,vs,e,.inl q,r⟩
 |n _=>cases e
 |m _ _=>cases e
theorem Od {H:Hp} {a b:Bx} {x y:V} {k:Bool} (ra:aU X.K H a x) (rb:aU X.K H b y) (e:inB a b=some k) :
  (∃ i j,x=.str i/\y=.str j/\k=DY i j)\/(∃ p xs,y=.ref p/\(qw X.K H p xs\/vH X.K H p xs)/\qY x=true/\xs.all qY=true/\k=inV x xs):=by
 unfold inB at e
 split at e
 ·rename_i i j
  cases e
  exact .inl ⟨i,j,(Ga ra).1,(Ga rb).1,rfl⟩
 ·rename_i d _
  obtain⟨ys,ey,e⟩:=bind_some e
  unfold memD at e
  split at e
  ·rename_i hf
   cases e
   obtain⟨p,vs,rfl,sq,rs⟩:=vN rb ey
   have ra':Rep X.K H d x:=ra
   exact .inr ⟨p,vs,rfl,sq,Hw ra' hf.1,Ed rs hf.2,(LC ra' hf.1 rs hf.2).symm⟩
  ·cases e
 ·cases e
theorem aan:DQ X (compareOp .In) inF:=by
 intro pins s σ H x y v u Q I rx ry h
 obtain⟨a,b,c,ra,rb,e,q⟩:=h
 obtain⟨k,ek,e⟩:=bind_some e
 cases e
 rcases Od ra rb ek with⟨i,j,rfl,rfl,rfl⟩|⟨p,xs,rfl,sq,f1,f2,rfl⟩
 ·exact Nq pins s σ H _ _ v u Q I rx ry ⟨i,j,rfl,rfl,q _ H (Same.refl H) trivial Ob⟩
 ·exact Ny pins s σ H _ _ v u Q I rx ry ⟨p,xs,rfl,sq,f1,f2,q _ H (Same.refl H) trivial Ob⟩
def J0:Bx->Bool
 |.z .non=>true
 |_=>false
theorem Oe {K:PySem.W.Frag} {H:Hp} {b:Bx} {v:V} (h:aU K H b v):decide (v=.non)=J0 b:=by
 cases b with
 |z d=>
  cases d<;>simp only[aU,Rep] at h
  ·subst h;rfl
  ·subst h;rfl
  ·subst h;rfl
  ·obtain⟨rfl,_⟩:=h;rfl
  ·obtain⟨_,_,rfl,_⟩:=h;rfl
  ·obtain⟨_,_,rfl,_⟩:=h;rfl
  ·obtain⟨_,_,rfl,_⟩:=h;rfl
 |l ds=>obtain⟨_,_,rfl,_⟩:=h;rfl
 |o ds=>obtain⟨_,_,rfl,_⟩:=h;rfl
 |n ds=>obtain⟨_,_,rfl,_⟩:=h;rfl
 |m ds _=>obtain⟨_,_,rfl,_⟩:=h;rfl
def Zb (a:Bx):Bx->Option Bx
 |.z .non=>some (.z (.bl (J0 a)))
 |_=>none
theorem of_is:DQ X (compareOp .Is) Zb:=rK.imp Xk fun x y H Q q=>by
 obtain⟨a,b,c,ra,rb,e,q⟩:=q
 unfold Zb at e
 split at e
 ·cases e
  simp only[aU,Rep] at rb
  exact⟨rb,by rw[Oe ra];exact q _ H (Same.refl H) trivial Ob⟩
 ·cases e
def jx:Bx->Bx->Option Bx
 |.z (.str x),.z (.int i)=>(Dg x.cps.toList i).bind fun c=>some (.z (.str ⟨#[c]⟩))
 |b,.z (.int i)=>(Gd b).bind fun ds=>(Dg ds i).bind fun d=>some (.z d)
 |_,_=>none
theorem U7 {K:PySem.W.Frag} {H:Hp} {ds:List Dt} {vs:List V} {i:Int} {d:Dt} (r:aJ K H ds vs) (e:Dg ds i=some d):∃ v,Dg vs i=some v/\Rep K H d v:=by
 unfold Dg at e ⊢
 rw[r.length]
 obtain⟨j,ej,e⟩:=bind_some e
 rw[ej]
 exact r.get e
theorem bG {a b:Expr} {fa fb:Ev->Option Bx} {pos:Pos} (ha:QV X a fa) (hb:QV X b fb) (hs:Lj b:=by intro _ _;with_unfolding_all rfl):QV X (.Subscript a b pos) (b2 jx fa fb):=⟨have ha:=ha.run;have hb:=hb.run;Dj (ZM Xx ha hb hs) fun σ H Q h=>by
 obtain⟨H0,ρ,c,E,e,q⟩:=h
 obtain⟨a,ea,e⟩:=bind_some e
 obtain⟨b,eb,e⟩:=bind_some e
 refine⟨H0,ρ,a,E,ea,fun v H1 s1 n1 r1=>⟨H0,ρ,b,E.grow s1,eb,fun u H2 s2 n2 r2=>?_⟩⟩
 have r1':=r1.same s2
 unfold jx at e
 split at e
 ·rename_i x i
  obtain⟨c',ec,e⟩:=bind_some e
  cases e
  exact .inr (.inr ⟨_,_,c',(Ga r1').1,Lz r2,(Ga r1').2,ec,q _ _ (s1.trans s2) trivial (U3 (by show (1:Nat)<=sizeLine;decide))⟩)
 ·obtain⟨ds,ed,e⟩:=bind_some e
  obtain⟨d,ei,e⟩:=bind_some e
  cases e
  obtain⟨p,vs,rfl,sq,rs⟩:=vN r1' ed
  obtain⟨w,ew,Pg⟩:=U7 rs ei
  have hi:=Lz r2
  rcases sq with sq|sq
  ·exact .inl ⟨p,vs,_,w,rfl,hi,sq,ew,q _ _ (s1.trans s2) trivial Pg⟩
  ·exact .inr (.inl ⟨p,vs,_,w,rfl,hi,sq,ew,q _ _ (s1.trans s2) trivial Pg⟩)
 ·cases e⟩
end
theorem QL:bootBuiltins "int" = some (.type "int"):=by decide +kernel
theorem Yd:bootBuiltins "str" = some (.type "str"):=by decide +kernel
theorem nA:bootBuiltins "tuple" = some (.type "tuple"):=by decide +kernel
theorem uG:bootBuiltins "isinstance" = some (.builtin "isinstance"):=by decide +kernel
theorem rW:bootBuiltins "len" = some (.builtin "len"):=by decide +kernel
theorem Ye:bootBuiltins "abs" = some (.builtin "abs"):=by decide +kernel
theorem J1:bootBuiltins "all" = some (.builtin "all"):=by decide +kernel
theorem Og:bootBuiltins "sorted" = some (.builtin "sorted"):=by decide +kernel
section
variable {X:Cx} {pins:List (Addr×Obj)} {σ:L2.St} {H:Hp} {s:Shared}
def dh:Dt->Bool
 |.str _=>true
 |_=>false
theorem U8 (I:L2.Inv X pins σ H s) {d:Dt} {x:V} {v:Value} {Q:VK} (rd:qC X.K H d x) (rv:RelV x v) (q:Q (.bl (dh d)) H):wpAny (model X.prog X.w) X.A (call (.builtin "isinstance") [v,.type "str"]) (EP X pins σ Q) X.xe s:=by
 cases d with
 |non=>simp only[qC,Rep] at rd;subst rd;cases rv;exact IsiPair.NoneType_str ⟨.bl _,H,I.tok _,rfl,q⟩
 |bl b=>simp only[qC,Rep] at rd;subst rd;cases rv;exact IsiPair.bool_str ⟨.bl _,H,I.tok _,rfl,q⟩
 |int b=>simp only[qC,Rep] at rd;subst rd;obtain⟨t,rfl⟩:=rv;exact IsiPair.int_str ⟨.bl _,H,I.tok _,rfl,q⟩
 |str b=>simp only[qC,Rep] at rd;obtain⟨rfl,_⟩:=rd;obtain⟨t,rfl⟩:=rv;exact IsiPair.str_str ⟨.bl _,H,I,rfl,q⟩
 |tup ds=>simp only[qC,Rep] at rd;obtain⟨a,vs,rfl,sq,_⟩:=rd;cases rv;obtain⟨_,_,p,_⟩:=I.tuple sq;exact IsiPair.isTuple_str p (fun _ _ e=>e) ⟨.bl _,H,I.tok _,rfl,q⟩
 |lst ds=>simp only[qC] at rd;obtain⟨a,vs,rfl,sq,_⟩:=rd;cases rv;obtain⟨_,_,p,_⟩:=I.list sq;exact IsiPair.isList_str p.isList (fun _ _ e=>e) ⟨.bl _,H,I.tok _,rfl,q⟩
 |emp=>simp only[qC,Rep] at rd;obtain⟨a,o,rfl,sq⟩:=rd;cases rv;obtain⟨ob,e,c⟩:=uh I sq;exact IsiPair.dict_str e c ⟨.bl _,H,I.tok _,rfl,q⟩
theorem qD {e:Expr} {f:Ev->Option Bx} {p p2 pos:Pos} (he:QV X e f) (hg:Gl X "isinstance") (hm:X.mg "isinstance" = none) (hg2:Gl X "str") (hm2:X.mg "str" = none) (hs:starEach [e,.Name "str" p2] X.env=[(false,eval e X.env),(false,eval (.Name "str" p2) X.env)]:=by rfl):QV X (.Call (.Name "isinstance" p) [e,.Name "str" p2] [] pos) (b1 (fun b=>if pA b=true then none else some (.z (.bl (dh (toD b))))) f):=⟨by
 have he:=he.run
 have hc:gP X (.builtin "isinstance") (fun xs H Q=>∃ b x,xs=[x,.ty "str"]/\aU X.K H b x/\pA b=false/\Q (.bl (dh (toD b))) H):=by
  intro pins s σ H xs us Q I r h
  obtain⟨b,x,rfl,rb,hmb,q⟩:=h
  obtain⟨u,w',rfl,r1,r2⟩:=vals2 r
  cases r2
  exact U8 I (rb.toD hmb) r1 q
 have ha:PA X [e,.Name "str" p2] (G9 (tF X.K f) (G9 (tC (.ty "str")) T6)):=nZ he (nZ (La hg2 hm2 (v:=.ty "str") (u:=.type "str") Yd rfl) wW) (by rw[hs]<;>rfl)
 refine Dj (z8 hc hg hm uG ha (by decide) (by decide) (by rw[hs]<;>rfl) rfl) fun σ H Q h=>?_
 obtain⟨H0,ρ,c,E,e,q⟩:=h
 obtain⟨b,eb,e⟩:=bind_some e
 split at e
 ·cases e
 rename_i hz
 cases e
 exact⟨H0,ρ,b,E,eb,fun v H1 s1 n1 r1=>⟨b,v,rfl,r1,by simpa using hz,q _ _ s1 trivial Ob⟩⟩⟩
def is_tuple:Dt->Bool
 |.tup _=>true
 |_=>false
theorem Oh (I:L2.Inv X pins σ H s) {d:Dt} {x:V} {v:Value} {Q:VK} (rd:qC X.K H d x) (rv:RelV x v) (q:Q (.bl (is_tuple d)) H):wpAny (model X.prog X.w) X.A (call (.builtin "isinstance") [v,.type "tuple"]) (EP X pins σ Q) X.xe s:=by
 cases d with
 |non=>simp only[qC,Rep] at rd;subst rd;cases rv;exact IsiPair.NoneType_tuple ⟨.bl _,H,I.tok _,rfl,q⟩
 |bl b=>simp only[qC,Rep] at rd;subst rd;cases rv;exact IsiPair.bool_tuple ⟨.bl _,H,I.tok _,rfl,q⟩
 |int b=>simp only[qC,Rep] at rd;subst rd;obtain⟨t,rfl⟩:=rv;exact IsiPair.int_tuple ⟨.bl _,H,I.tok _,rfl,q⟩
 |str b=>simp only[qC,Rep] at rd;obtain⟨rfl,_⟩:=rd;obtain⟨t,rfl⟩:=rv;exact IsiPair.str_tuple ⟨.bl _,H,I.tok _,rfl,q⟩
 |tup ds=>simp only[qC,Rep] at rd;obtain⟨a,vs,rfl,sq,_⟩:=rd;cases rv;obtain⟨_,_,p,_⟩:=I.tuple sq;exact IsiPair.isTuple_tuple p (fun _ _ e=>e) ⟨.bl _,H,I,rfl,q⟩
 |lst ds=>simp only[qC] at rd;obtain⟨a,vs,rfl,sq,_⟩:=rd;cases rv;obtain⟨_,_,p,_⟩:=I.list sq;exact IsiPair.isList_tuple p.isList (fun _ _ e=>e) ⟨.bl _,H,I.tok _,rfl,q⟩
 |emp=>simp only[qC,Rep] at rd;obtain⟨a,o,rfl,sq⟩:=rd;cases rv;obtain⟨ob,e,c⟩:=uh I sq;exact IsiPair.dict_tuple e c ⟨.bl _,H,I.tok _,rfl,q⟩
theorem qF {e:Expr} {f:Ev->Option Bx} {p p2 pos:Pos} (he:QV X e f) (hg:Gl X "isinstance") (hm:X.mg "isinstance" = none) (hg2:Gl X "tuple") (hm2:X.mg "tuple" = none) (hs:starEach [e,.Name "tuple" p2] X.env=[(false,eval e X.env),(false,eval (.Name "tuple" p2) X.env)]:=by rfl):QV X (.Call (.Name "isinstance" p) [e,.Name "tuple" p2] [] pos) (b1 (fun b=>if pA b=true then none else some (.z (.bl (is_tuple (toD b))))) f):=⟨by
 have he:=he.run
 have hc:gP X (.builtin "isinstance") (fun xs H Q=>∃ b x,xs=[x,.ty "tuple"]/\aU X.K H b x/\pA b=false/\Q (.bl (is_tuple (toD b))) H):=by
  intro pins s σ H xs us Q I r h
  obtain⟨b,x,rfl,rb,hmb,q⟩:=h
  obtain⟨u,w',rfl,r1,r2⟩:=vals2 r
  cases r2
  exact Oh I (rb.toD hmb) r1 q
 have ha:PA X [e,.Name "tuple" p2] (G9 (tF X.K f) (G9 (tC (.ty "tuple")) T6)):=nZ he (nZ (La hg2 hm2 (v:=.ty "tuple") (u:=.type "tuple") nA rfl) wW) (by rw[hs]<;>rfl)
 refine Dj (z8 hc hg hm uG ha (by decide) (by decide) (by rw[hs]<;>rfl) rfl) fun σ H Q h=>?_
 obtain⟨H0,ρ,c,E,e,q⟩:=h
 obtain⟨b,eb,e⟩:=bind_some e
 split at e
 ·cases e
 rename_i hz
 cases e
 exact⟨H0,ρ,b,E,eb,fun v H1 s1 n1 r1=>⟨b,v,rfl,r1,by simpa using hz,q _ _ s1 trivial Ob⟩⟩⟩
def tFO (K:PySem.W.Frag) (f:Ev->Option (Option Int)):TO:=fun σ H Q=>∃ H0 ρ o,aV K H0 H σ ρ/\f ρ=some o/\∀ H',Same H H'->Q o H'
def PVo (X:Cx) (e:Option Expr) (f:Ev->Option (Option Int)):Prop:=PO X e (tFO X.K f)
structure QVo (X:Cx) (e:Option Expr) (f:Ev->Option (Option Int)):Prop where
 run:PVo X e f
theorem poM {e:Option Expr} {t t':TO} (h:PO X e t) (m:∀ σ H Q,t' σ H Q->t σ H Q):PO X e t':=fun pins s σ H Q I q=>h pins s σ H Q I (m σ H Q q)
def uU:Ev->Option (Option Int):=fun _=>some none
theorem rY  : QVo X none uU:=⟨poM Ub fun σ H Q h=>by
 obtain⟨H0,ρ,o,E,e,q⟩:=h
 cases e
 exact q H (Same.refl H)⟩
def Yg:Bx->Option (Option Int)
 |.z (.int i)=>some (some i)
 |_=>none
def yq (f:Ev->Option Bx):Ev->Option (Option Int):=fun ρ=>(f ρ).bind Yg
theorem rZ {e:Expr} {f:Ev->Option Bx} (h:QV X e f):QVo X (some e) (yq f):=⟨have h:=h.run;poM (Uc h) fun σ H Q q=>by
 obtain⟨H0,ρ,o,E,e,q⟩:=q
 obtain⟨b,eb,e⟩:=bind_some e
 refine⟨H0,ρ,b,E,eb,fun v H1 s1 n1 r1=>?_⟩
 unfold Yg at e
 split at e
 ·rename_i i
  cases e
  exact⟨i,Lz r1,q H1 s1⟩
 ·cases e⟩
def cutD (xs:List Dt) (lo hi:Option Int):List Dt:=(xs.drop (HT.gQ xs.length 0 lo)).take (HT.gQ xs.length xs.length hi - HT.gQ xs.length 0 lo)
theorem Hx {K:PySem.W.Frag} {H:Hp} {ds:List Dt} {vs:List V} (r:aJ K H ds vs) (lo hi:Option Int):aJ K H (cutD ds lo hi) (Hg vs lo hi):=by
 unfold cutD Hg
 rw[r.length]
 exact (r.drop _).take _
theorem QM (ds:List Dt) {lo hi:Option Int} (h1:HT.gQ ds.length 0 lo=0) (h2:HT.gQ ds.length ds.length hi=ds.length):cutD ds lo hi=ds:=by
 unfold cutD
 rw[h1,h2]
 simp
theorem vO {t sl:Addr} {items:Array Value} {vl vu:Value} {lo hi:Option Int} {Q:Value->Shared->Prop} {prog:Program} {w:World} {A:Around} {E:Value->Shared->Prop} {s:Shared} (ht:IsTup s.heap t items) (hs:s.heap.IsSliceOf sl vl vu .none) (pl:IsPart vl lo) (pu:IsPart vu hi)
  (h1:HT.gQ items.size 0 lo=0) (h2:HT.gQ items.size items.size hi=items.size)
  (h:Q (.ref t) s):wpAny (model prog w) A (getItem (.ref t) (.ref sl)) Q E s:=by
 obtain⟨os,hos,hcs,hds⟩:=id hs
 have hTs:s.TypeIs (.ref sl) "slice" := ⟨os,hos,hcs⟩
 unfold getItem
 try with_reducible refine wpAny_holding ?_
 first|refine wpAny_bind (wpAny_pure ?_)|skip
 refine wpAny_bind (wpAny_sequenceKey ht.typeIs (by decide) ?_)
 refine wpAny_bind (wpAny_callSpecial?_slot (name:=Str.ofString "__getitem__") ht.typeIs PyProof.Rows.slot_tuple_getitem
  (wpAny_call_entry PyProof.Rows.slot_tuple_getitem ht.typeIs entry_tuple_getitem ?_ (args_tuple_getitem _ _)))
 show wpAny _ _ (Builtin.Tuple.tupleItemsOf (.ref t) >>= _) _ _ s
 refine wpAny_bind (tupleItemsOf_ ht ?_)
 refine wpAny_bind (wpAny_typeOf hTs ?_)
 rw[if_pos (by decide)]
 refine wpAny_bind (HT.pH hs pl pu ?_)
 have hyes:(((HT.gQ items.size 0 lo:Nat):Int)==0&&(1:Int)==1&&(HT.gQ items.size items.size hi - HT.gQ items.size 0 lo)==items.size)=true:=by
  rw[h1,h2];simp
 show wpAny _ _ (if (((HT.gQ items.size 0 lo:Nat):Int)==0&&(1:Int)==1&&(HT.gQ items.size items.size hi - HT.gQ items.size 0 lo)==items.size)=true then _ else _) _ _ s
 rw[if_pos hyes]
 first
  |refine wpAny_bind (wpAny_bind (wpAny_typeOf ht.typeIs (wpAny_pure ?_)))
  |refine wpAny_bind (wpAny_typeOf ht.typeIs (wpAny_bind (wpAny_pure ?_)))
  |refine wpAny_bind (wpAny_typeOf ht.typeIs ?_)
 rw[if_pos (by decide)]
 first
  |exact wpAny_bind (wpAny_rule (wpAny_pure ⟨_,rfl,wpAny_pure h⟩))
  |exact wpAny_bind (wpAny_rule (wpAny_bind (wpAny_pure (wpAny_pure ⟨_,rfl,wpAny_pure h⟩))))
def slB (b:Bx) (lo hi:Option Int):Option Bx:=match b with
 |.z (.str x)=>some (.z (.str (Txt.slice x lo hi)))
 |.z (.tup ds)=>some (.z (.tup (cutD ds lo hi)))
 |b=>(uz b).bind fun ds=>some (.o (cutD ds lo hi))
def rSl (K:PySem.W.Frag):V->Option Int->Option Int->Hp->VK->Prop:=fun x lo hi H Q=>∃ b c,aU K H b x/\slB b lo hi=some c/\∀ w H',Same H H'->Nw H c w->aU K H' c w->Q w H'
theorem Yh:V8 X (rSl X.K):=by
 intro pins s σ H x v vl vu lo hi sl Q I rx hs pl pu h
 obtain⟨b,c,rb,e,q⟩:=h
 unfold slB at e
 split at e
 ·rename_i y
  cases e
  obtain⟨rfl,hy⟩:=Ga rb
  obtain⟨t,rfl⟩:=rx
  refine⟨"str", _,F.slot_str_getitem.lookup,typeIs_str _ _ _,?_⟩
  obtain⟨o,e1,e2,e3⟩:=hs
  have fin:∀ t' k,EP X pins σ Q (.str (Txt.slice y lo hi) t') { s with toks:=k }:=fun t' k=>⟨.str _,H,I.tok _,⟨_,rfl⟩,q _ H (Same.refl H) trivial (U3 (Nat.le_trans (Txt.slice_le y _ _) hy))⟩
  cases pl with
  |none=>
   cases pu with
   |none=>exact wpAny_getItem_str_slice (l:=none) (u:=none) (st:=none) ⟨o,e1,e2,e3⟩ rfl (post_val_or_str ⟨Nat.le_trans (Txt.slice_le y _ _) hy,fin⟩)
   |int j uj=>exact wpAny_getItem_str_slice (l:=none) (u:=some (j,uj)) (st:=none) ⟨o,e1,e2,e3⟩ rfl (post_val_or_str ⟨Nat.le_trans (Txt.slice_le y _ _) hy,fin⟩)
  |int i ui=>
   cases pu with
   |none=>exact wpAny_getItem_str_slice (l:=some (i,ui)) (u:=none) (st:=none) ⟨o,e1,e2,e3⟩ rfl (post_val_or_str ⟨Nat.le_trans (Txt.slice_le y _ _) hy,fin⟩)
   |int j uj=>exact wpAny_getItem_str_slice (l:=some (i,ui)) (u:=some (j,uj)) (st:=none) ⟨o,e1,e2,e3⟩ rfl (post_val_or_str ⟨Nat.le_trans (Txt.slice_le y _ _) hy,fin⟩)
 ·rename_i ds
  cases e
  obtain⟨a,vs,rfl,sq,rs⟩:=inT rb
  by_cases hw:HT.gQ vs.length 0 lo=0/\HT.gQ vs.length vs.length hi=vs.length
  ·cases rx
   obtain⟨its,r,ht,hz⟩:=I.tuple sq
   have hlen:its.toArray.size=vs.length:=by rw[List.size_toArray];exact r.length.symm
   refine⟨"tuple", _,PyProof.Rows.slot_tuple_getitem.lookup,ht.typeIs,vO ht hs pl pu (by rw[hlen];exact hw.1) (by rw[hlen];exact hw.2) ⟨.ref a,H,I,rfl,q _ H (Same.refl H) trivial ?_⟩⟩
   rw[QM ds (by rw[<-rs.length];exact hw.1) (by rw[<-rs.length];exact hw.2)]
   exact rb
  ·refine Xu pins s σ H _ v vl vu lo hi sl Q I rx hs pl pu ⟨a,vs,rfl,sq,hw,fun p hp=>q _ _ (bQ hp) trivial ?_⟩
   unfold aU Rep
   exact⟨p,_,rfl,.inl (.inl bx),(Hx rs lo hi).kp (.of (bQ hp))⟩
 ·obtain⟨ds,ed,e⟩:=bind_some e
  cases e
  obtain⟨a,vs,rfl,sq,rs⟩:=rb.Fy ed
  exact Ui pins s σ H _ v vl vu lo hi sl Q I rx hs pl pu ⟨a,vs,rfl,sq,fun p hp=>q _ _ (bQ hp) (fun a ea=>by cases ea;exact hp) ⟨p,_,rfl,bx,(Hx rs lo hi).kp (.of (bQ hp))⟩⟩
def Tw (f:Ev->Option Bx) (fl fh:Ev->Option (Option Int)):Ev->Option Bx:=fun ρ=>(f ρ).bind fun b=>(fl ρ).bind fun lo=>(fh ρ).bind fun hi=>slB b lo hi
theorem Hy {e:Expr} {lo hi:Option Expr} {f:Ev->Option Bx} {fl fh:Ev->Option (Option Int)} {p2 pos:Pos} (he:QV X e f) (hl:QVo X lo fl) (hh:QVo X hi fh):QV X (.Subscript e (.Slice lo hi none p2) pos) (Tw f fl fh):=⟨have he:=he.run;have hl:=hl.run;have hh:=hh.run;Dj (Qd Yh he hl hh) fun σ H Q h=>by
 obtain⟨H0,ρ,c,E,e,q⟩:=h
 obtain⟨b,eb,e⟩:=bind_some e
 obtain⟨lo,el,e⟩:=bind_some e
 obtain⟨hi,eh,e⟩:=bind_some e
 refine⟨H0,ρ,b,E,eb,fun v H1 s1 n1 r1=>⟨H0,ρ,lo,E.grow s1,el,fun H2 s2=>⟨H0,ρ,hi,E.grow (s1.trans s2),eh,fun H3 s3=>?_⟩⟩⟩
 have s13:=(s1.trans s2).trans s3
 exact⟨b,c,(r1.same s2).same s3,e,fun w H4 s4 n4 r4=>q w H4 (s13.trans s4) (n4.old s13) r4⟩⟩
def pJ:List Bx->Option Bx
 |[.z (.str x)]=>some (.z (.int x.length))
 |[b]=>(Gd b).bind fun ds=>some (.z (.int ds.length))
 |_=>none
theorem rep1 {K:PySem.W.Frag} {H:Hp} {b:Bx} {vs:List V} (r:rO K H [b] vs):∃ v,vs=[v]/\aU K H b v:=by
 cases r with
 |cons p t=>cases t;exact⟨_,rfl,p⟩
theorem su:yj X (.builtin "len") pJ:=gP.imp (Fv.or Fw) fun xs H Q q=>by
 obtain⟨bs,c,rb,e,q⟩:=q
 unfold pJ at e
 split at e
 ·rename_i x
  cases e
  obtain⟨v,rfl,r1⟩:=rep1 rb
  obtain⟨rfl,hx⟩:=Ga r1
  exact .inr ⟨x,rfl,hx,q _ H (Same.refl H) trivial JZ⟩
 ·obtain⟨ds,ed,e⟩:=bind_some e
  cases e
  obtain⟨v,rfl,r1⟩:=rep1 rb
  obtain⟨p,vs,rfl,sq,rs⟩:=vN r1 ed
  exact .inl ⟨p,vs,rfl,sq,by rw[rs.length];exact q _ H (Same.refl H) trivial JZ⟩
 ·cases e
def Oi:List Bx->Option Bx
 |[.z (.int i)]=>some (.z (.int (if i < 0 then -i else i)))
 |_=>none
theorem Yi:yj X (.builtin "abs") Oi:=gP.imp PX fun xs H Q q=>by
 obtain⟨bs,c,rb,e,q⟩:=q
 unfold Oi at e
 split at e
 ·rename_i i
  cases e
  obtain⟨v,rfl,r1⟩:=rep1 rb
  have:=Lz r1
  subst this
  exact⟨i,rfl,q _ H (Same.refl H) trivial JZ⟩
 ·cases e
def Oj:List Bx->Option Bx
 |[.z (.int i)]=>some (.z (.int i))
 |[.z (.bl k)]=>some (.z (.int (if k then 1 else 0)))
 |_=>none
theorem QS:yj X (.type "int") Oj:=gP.imp Nr fun xs H Q q=>by
 obtain⟨bs,c,rb,e,q⟩:=q
 unfold Oj at e
 split at e
 ·rename_i i
  cases e
  obtain⟨v,rfl,r1⟩:=rep1 rb
  have:=Lz r1
  subst this
  exact .inl ⟨i,rfl,q _ H (Same.refl H) trivial JZ⟩
 ·rename_i k
  cases e
  obtain⟨v,rfl,r1⟩:=rep1 rb
  simp only[aU,Rep] at r1
  subst r1
  exact .inr ⟨k,rfl,q _ H (Same.refl H) trivial JZ⟩
 ·cases e
def pB:List Bx->Option Bx
 |[b]=>(Gd b).bind fun ds=>some (.z (.tup ds))
 |_=>none
theorem pK:yj X (.type "tuple") pB:=gP.imp Di fun xs H Q q=>by
 obtain⟨bs,c,rb,e,q⟩:=q
 unfold pB at e
 split at e
 ·obtain⟨ds,ed,e⟩:=bind_some e
  cases e
  obtain⟨v,rfl,r1⟩:=rep1 rb
  obtain⟨p,vs,rfl,sq,rs⟩:=vN r1 ed
  refine⟨p,vs,rfl,?_⟩
  rcases sq with sq|sq
  ·refine .inl ⟨sq,fun l hl=>q _ _ (bQ hl) trivial ?_⟩
   unfold aU Rep
   exact⟨l,vs,rfl,.inl (.inl bx),rs.kp (.of (bQ hl))⟩
  ·refine .inr ⟨sq,q _ H (Same.refl H) trivial ?_⟩
   unfold aU Rep
   exact⟨p,vs,rfl,sq,rs⟩
 ·cases e
def Ef:List Dt->Option (List Bool)
 |[]=>some []
 |.bl b::ds=>(Ef ds).bind fun bs=>some (b::bs)
 |_=>none
theorem Al {K:PySem.W.Frag} {H:Hp}:∀ {ds:List Dt} {bs:List Bool} {vs:List V} {us:List Value},Ef ds=some bs->aJ K H ds vs->Vals vs us->us=bs.map Value.bool
 |[],_,_,_,e,r,w=>by
  cases e
  simp only[aJ] at r;subst r;cases w;rfl
 |d::ds,_,_,_,e,r,w=>by
  simp only[aJ] at r
  obtain⟨v,r',rfl,h1,h2⟩:=r
  cases d<;>first|(cases e;done)|skip
  simp only[Ef] at e
  obtain⟨bs,e1,e⟩:=bind_some e
  cases e
  simp only[Rep] at h1
  subst h1
  cases w with
  |cons p t=>
   cases p
   rw[Al e1 h2 t]
   rfl
theorem all_range (bs:List Bool):((List.range bs.length).all fun i=>bs.getD i false)=bs.all id:=by
 rw[Bool.eq_iff_iff,List.all_eq_true,List.all_eq_true]
 constructor
 ·intro h b hb
  obtain⟨i,hi,rfl⟩:=List.mem_iff_getElem.mp hb
  have:=h i (by simpa using hi)
  simpa [List.getD,hi] using this
 ·intro h i hi
  have hi:i < bs.length:=by simpa using hi
  have:=h bs[i] (List.getElem_mem hi)
  simpa [List.getD,hi] using this
def allB:List Bx->Option Bx
 |[b]=>(uz b).bind fun ds=>(Ef ds).bind fun bs=>some (.z (.bl (bs.all id)))
 |_=>none
theorem Hz {prog:Program} {w:World} {A:Around} (bs:List Bool):TruthOf prog w A (fun i v=>(bs.map Value.bool).toArray[i]?=some v) fun i=>bs.getD i false:=fun i v s Q E h q=>by
 have h':(bs.map Value.bool)[i]?=some v:=by simpa using h
 rw[List.getElem?_map] at h'
 cases e:bs[i]? with
 |none=>rw[e] at h';cases h'
 |some b=>
  rw[e] at h'
  cases h'
  have:bs.getD i false=b:=by simp[List.getD,e]
  have q':Q b s:=by rw[<-this];exact q
  exact wpAny_truthy_bool q'
theorem J2 (hc:X.calm=true):yj X (.builtin "all") allB:=by
 intro pins s σ H xs us Q I r h
 obtain⟨bs,c,rb,e,q⟩:=h
 unfold allB at e
 split at e
 ·obtain⟨ds,ed,e⟩:=bind_some e
  obtain⟨ks,ek,e⟩:=bind_some e
  cases e
  obtain⟨v,rfl,r1⟩:=rep1 rb
  obtain⟨a,vs,rfl,sq,rs⟩:=r1.Fy ed
  obtain⟨u,rfl,ru⟩:=vals1 r
  cases ru
  obtain⟨its,w,pl,hz⟩:=I.list sq
  have hv:=Al ek rs w
  have hlt:a < s.heap.objs.size:=by obtain⟨o,n,e,_⟩:=pl;exact Heap.lt_size e
  refine call_all_walk (wpAny_pyIter_list pl.isList ?_)
  refine⟨s.heap.objs.size,_,_,_,_,_,fun i=>ks.getD i false,rfl,Walks.list (by show X.A.handled=none;exact I.ok.hd hc) s.heap.objs.size a (Nat.ne_of_lt hlt) its.toArray,⟨⟨_,Heap.get?_push_size _ rfl,rfl,rfl⟩,pl.isList.push _⟩,?_,fun h' tk k=>?_⟩
  ·rw[hv];exact Hz ks
  ·have hn:its.toArray.size=ks.length:=by rw[hv];simp
   rw[hn,all_range]
   have I1:L2.Inv X pins σ H { s with heap:=s.heap.push { cls:=.type "list_iterator", data:=.fields #[.ref a,.int 0 0] } }:=I.kept (t':=s.toks) fun b o e=>Heap.get?_push_of_some _ e
   refine⟨.bl _,H,?_,rfl,q _ H (Same.refl H) trivial Ob⟩
   obtain⟨f0,f1,f2,f3,f4,f5⟩:=I.Ni (b:=s.heap.objs.size) (H':=H) (Nat.le_refl _) (I.hok.fresh (Nat.le_refl _))
   exact I1.turned (it:=s.heap.objs.size) (fun b o hb e=>k b o (by simpa using hb) e) f0 f1 f3 f4 f5
 ·cases e
end
end P1
end
section
namespace P1
open PySem PySem.Spec PyProof.Rows L2
def gv (i:Nat):Ev->Option Bx:=fun ρ=>yW ρ i
def HB (g:Bx->Bx->Option Bx) (fa fb:Ev->Option Bx):Ev->Option Bool:=fun ρ=>(b2 g fa fb ρ).bind Fz
def tV (f:Ev->Option Bx):Ev->Option Bool:=fun ρ=>(f ρ).bind N5
def aK:Ev->Option (List Bx):=fun _=>some []
def sy (p:Dt->Bool) (f:Ev->Option Bx):Ev->Option Bx:=b1 (fun b=>if pA b=true then none else some (.z (.bl (p (toD b))))) f
def jg:Ev->Option Out:=fun ρ=>some (.nx ρ)
def jj (f:Ev->Option Bx):Ev->Option Out:=fun ρ=>(f ρ).bind Qt
def setG (i:Nat) (f:Ev->Option Bx):Ev->Option Out:=fun ρ=>(f ρ).bind fun b=>(Qu ρ i b).bind fun ρ'=>some (.nx ρ')
def U9 (gt:Dt->Ev->Option Ev) (f:Ev->Option Bx):Ev->Option Out:=fun ρ=>(f ρ).bind fun b=>match b with|.z d=>(gt d ρ).bind fun ρ'=>some (.nx ρ')|_=>none
def Ol (i:Nat) (f:Ev->Option Bx):Ev->Option Out:=fun ρ=>(f ρ).bind (Ux ρ i)
def pL (fi:Ev->Option (List Dt)) (gt:Dt->Ev->Option Ev) (gb:Ev->Option Out):Ev->Option Out:=fun ρ=>(fi ρ).bind fun ds=>yZ gt gb ds ρ
def itF (f:Ev->Option Bx):Ev->Option (List Dt):=fun ρ=>(f ρ).bind XR
def J3 (f:Ev->Option Bx):Ev->Option (List Dt):=fun ρ=>(f ρ).bind QF
def Gf (fs:Ev->Option (List Bx)):Ev->Option (List Dt):=fun ρ=>(fs ρ).bind XS
def uV (i:Nat):Dt->Ev->Option Ev:=fun d ρ=>some (ρ.set i (some (.z d)))
def uE:Ev->Option Bool:=fun _=>some true
theorem fB {X:Cx}:JV X [] uE:=⟨.inl ⟨rfl,rfl⟩⟩
theorem Yj {X:Cx} {scope:Scope} {cl:List (Str×Addr)}:Dk X scope cl [] []:=trivial
theorem Va {X:Cx} {scope:Scope} {cl:List (Str×Addr)} {x:Str} {i:Nat} {xs:List Str} {is:List Nat} (n:X.N[i]?=some x) (k:X.env.kindOf x=some .cell\/X.env.kindOf x=some .free)
  (k':(relabel scope X.env).names.lookup x=some .cell\/(relabel scope X.env).names.lookup x=some .free) (c:∃ c,cl.lookup x=some c) (r:Dk X scope cl xs is):Dk X scope cl (x::xs) (i::is):=⟨⟨n,k,k',c⟩,r⟩
theorem mem_of_lookup {names:List (Str×NameKind)} {x:Str} {k:NameKind}:names.lookup x=some k->(x,k)∈names:=PySem.mem_of_lookup
theorem Yk {X:Cx} {scope:Scope} {cl:List (Str×Addr)} {xs:List Str} {is:List Nat} (clos:closureFor scope X.env=pure cl) (kind:scope.kind=.function) (cell:scope.names.all (fun y=>decide (y.2≠.cell)||(cl.lookup y.1).isNone)=true)
  (names:scope.names.all (fun y=>decide (y.2=.local->scope.names.lookup y.1=some .local))=true) (sub:SubL X.env.cells cl)
  (has:(relabel scope X.env).names.all (fun y=>!(y.2==.cell||y.2==.free)||(cl.lookup y.1).isSome||scope.names.contains (y.1,.cell))=true) (cap:Dk X scope cl xs is):uT X scope cl xs is where
 clos:=clos
 kind:=kind
 cell:=fun y hy hc=>by
  have:=List.all_eq_true.mp cell y hy
  simp only[hc,ne_eq,not_true_eq_false,decide_false,Bool.false_or,Option.isNone_iff_eq_none] at this
  exact this
 names:=fun y hy=>of_decide_eq_true (List.all_eq_true.mp names y hy)
 sub:=sub
 has:=fun x hx=>by
  have h:∃ k,(relabel scope X.env).names.lookup x=some k/\(k==NameKind.cell||k==NameKind.free)=true:=by
   rcases hx with hx|hx
   ·exact⟨_,hx,rfl⟩
   ·exact⟨_,hx,rfl⟩
  obtain⟨k,e,hk⟩:=h
  have:=List.all_eq_true.mp has _ (mem_of_lookup e)
  simp only[hk,Bool.not_true,Bool.false_or,Bool.or_eq_true] at this
  rcases this with h|h
  ·exact .inr (Option.isSome_iff_exists.mp h)
  ·exact .inl (List.contains_iff_mem.mp h)
 cap:=cap
theorem bZ {k:Nat} {A:Around} (r:lV k A):A.units+100 < cLine:=by have:=r.un;omega
theorem Yl {F:List Bx->Option Bx} (h:∀ ns:List Int,ns.length<=63->F [.z (.lst (ns.map .int))]=some (.z (.bl true))) (hl:∀ ns:List Int,ns.length<=63->F [.l (ns.map .int)]=some (.z (.bl true))) (K:PySem.W.Frag) (H:Hp) (a:Addr) (ns:List Int) (hn:ns.length<=63) (_:Only H) (hS:qw K H a (ns.map V.int)) :
  jw K 1 F [.ref a] H (fun v _=>v=.bl true) fun _ _ _=>False:=by
 have rs:∀ ms:List Int,aJ K H (ms.map Dt.int) (ms.map V.int):=fun ms=>by
  induction ms with
  |nil=>exact aJ.nil
  |cons m ms ih=>exact aJ.cons (by unfold Rep;rfl) ih
 have fin:∀ v (H':Hp),Same H H'->Nw H (.z (.bl true)) v->aU K H' (.z (.bl true)) v->v=.bl true:=fun v H' _ _ r=>by simpa only[aU,Rep] using r
 rcases hS with hS|hS
 ·exact⟨rfl,[.l (ns.map .int)],_,.cons ⟨a,_,rfl,hS,rs ns⟩ .nil,rfl,hl ns hn,fin⟩
 ·refine⟨rfl,[.z (.lst (ns.map .int))],_,.cons ?_ .nil,rfl,h ns hn,fin⟩
  unfold aU Rep
  exact⟨a,_,rfl,.inr hS,rs ns⟩
theorem acA {P:Program} {w:World} {K:PySem.W.Frag} {mg:Str->Option Value} {base:Heap} {x qual:Str} {st:Stmt} {f:Addr} {fd:FuncData} {N ps:List Str} {k n m:Nat} {g:Ev->Option Out} (F:uP K x qual st f fd) (S:bB N ps (aG st)) (hn:N.length=n) (hm:ps.length=m)
  (hbody:∀ (cdv:Value) (A:Around) (outer:List Env) (s:Shared) (H:Hp) (E:XK),lV k (A.deeper (envOfC qual (aG st) s.heap.objs.size f cdv))->Pu (Fo jf P w K mg base N qual (aG st) f cdv A outer s H E).Pq (bf st) g) :
  bF P w K mg base jf (k+1) f fd ps (jw K m (eY n g)):=by
 subst hn hm
 exact acw F S hbody
section
variable {X:Cx} {e st:Expr} {f fs:Ev->Option Bx} {pos p2:Pos}
section
variable {prog:Program} {w:World} {A:Around} {E:Value->Shared->Prop} {s:Shared}
end
end
section
variable {X:Cx} {e:Expr} {f:Ev->Option Bx}
def Tz:Bx->Bx->Option Bx
 |.z (.int i),.z (.int j)=>some (.z (.bl (decide (i < j))))
 |.z (.str x),.z (.str y)=>some (.z (.bl (decide (x.cps.toList < y.cps.toList))))
 |_,_=>none
theorem J4:DQ X (compareOp .Lt) Tz:=by
 intro pins s σ H x y v u Q I rx ry h
 obtain⟨a,b,c,ra,rb,e,q⟩:=h
 unfold Tz at e
 split at e
 ·rename_i i j
  cases e
  exact Zw pins s σ H x y v u Q I rx ry ⟨i,j,Lz ra,Lz rb,q _ H (Same.refl H) trivial (by unfold aU;exact okT)⟩
 ·rename_i i j
  cases e
  obtain⟨rfl,_⟩:=Ga ra
  obtain⟨rfl,_⟩:=Ga rb
  obtain⟨t,rfl⟩:=rx
  obtain⟨t',rfl⟩:=ry
  exact PySem.P.lt_str ⟨.bl _,H,I,rfl,q _ H (Same.refl H) trivial (by unfold aU;exact okT)⟩
 ·cases e
def Eh:List Dt->Option (List Str)
 |[]=>some []
 |.str x::r=>(Eh r).bind fun ys=>some (x::ys)
 |_=>none
theorem Ei {K:PySem.W.Frag} {H:Hp}:∀ {ds:List Dt} {vs:List V} {ys:List Str},aJ K H ds vs->Eh ds=some ys->vs=ys.map V.str/\∀ y∈ys,y.length<=sizeLine
 |[],_,_,h,e=>by cases e;simp only[aJ] at h;subst h;exact⟨rfl,fun y hy=>by cases hy⟩
 |.str x::ds,_,_,h,e=>by
  simp only[Eh] at e
  obtain⟨ys,e1,e2⟩:=bind_some e
  cases e2
  simp only[aJ] at h
  obtain⟨v,r,rfl,hd,hr⟩:=h
  obtain⟨rfl,hx⟩:v=.str x/\x.length<=sizeLine:=by simpa only[Rep] using hd
  obtain⟨rfl,h2⟩:=Ei hr e1
  refine⟨rfl,fun y hy=>?_⟩
  rcases List.mem_cons.mp hy with rfl|hy
  ·exact hx
  ·exact h2 y hy
 |.non::_,_,_,_,e=>by cases e
 |.bl _::_,_,_,_,e=>by cases e
 |.int _::_,_,_,_,e=>by cases e
 |.tup _::_,_,_,_,e=>by cases e
 |.lst _::_,_,_,_,e=>by cases e
 |.emp::_,_,_,_,e=>by cases e
theorem vP {K:PySem.W.Frag} {H:Hp}:∀ {ys:List Str},(∀ y∈ys,y.length<=sizeLine)->aJ K H (ys.map Dt.str) (ys.map V.str)
 |[],_=>aJ.nil
 |y::ys,h=>aJ.cons (by unfold Rep;exact⟨rfl,h y (List.mem_cons_self ..)⟩) (vP fun z hz=>h z (List.mem_cons_of_mem _ hz))
theorem Am:∀ {ys:List Str} {its:List Value},Vals (ys.map V.str) its->StrsAre its ys
 |[],_,h=>by cases h;exact .nil
 |y::ys,_,h=>by
  cases h with
  |cons r t=>
   obtain⟨tk,rfl⟩:=r
   exact .cons y tk (Am t)
theorem xG:∀ {its:List Value} {ys:List Str},StrsAre its ys->Vals (ys.map V.str) its
 |_,_,.nil=>.nil
 |_,_,.cons y t h=>.cons ⟨t,rfl⟩ (xG h)
def G3 (a b:Str):Prop:=ltCps b.cps.toList a.cps.toList=false
theorem vQ:∀ (p:Str) (l:List Str),risingS p l=true->(p::l).Pairwise G3
 |p,[],_=>by simp
 |p,x::r,h=>by
  have h':(!ltCps x.cps.toList p.cps.toList&&risingS x r)=true:=h
  rw[Bool.and_eq_true] at h'
  have ih:=vQ x r h'.2
  have hx:G3 p x:=by simpa [G3] using h'.1
  refine List.pairwise_cons.mpr ⟨fun y hy=>?_,ih⟩
  rcases List.mem_cons.mp hy with rfl|hy
  ·exact hx
  ·have hxy:G3 x y:=List.rel_of_pairwise_cons ih hy
   unfold G3 at hx hxy ⊢
   rw[ltCps_eq] at hx hxy ⊢
   simp only[decide_eq_false_iff_not] at hx hxy ⊢
   exact List.le_trans (α:=Nat) hx hxy
theorem Gg {l:List Str} (h:sortedS l=true):l.Pairwise G3:=by
 cases l with
 |nil=>exact .nil
 |cons p l=>exact vQ p l h
theorem HD {a b:Str} (h:G3 a b) (h':G3 b a):a=b:=by
 unfold G3 at h h'
 rw[ltCps_eq] at h h'
 simp only[decide_eq_false_iff_not] at h h'
 have:=List.le_antisymm (as:=a.cps.toList) (bs:=b.cps.toList) h h'
 cases a;cases b
 simp only[Str.mk.injEq]
 exact Array.toList_inj.mp this
theorem LK:∀ {l l':List Str},l.Perm l'->l.Pairwise G3->l'.Pairwise G3->l=l'
 |[],l',h,_,_=>by rw[List.nil_perm.mp h]
 |a::l,[],h,_,_=>by cases List.perm_nil.mp h
 |a::l,b::l',h,p,p'=>by
  have e:a=b:=by
   have ha:a∈b::l':=h.mem_iff.mp (List.mem_cons_self ..)
   have hb:b∈a::l:=h.mem_iff.mpr (List.mem_cons_self ..)
   rcases List.mem_cons.mp ha with h1|h1
   ·exact h1
   ·rcases List.mem_cons.mp hb with h2|h2
    ·exact h2.symm
    ·exact HD (List.rel_of_pairwise_cons p h2) (List.rel_of_pairwise_cons p' h1)
  subst e
  rw[LK ((List.perm_cons a).mp h) (List.pairwise_cons.mp p).2 (List.pairwise_cons.mp p').2]
def Om (a b:Str):Bool:=!ltCps b.cps.toList a.cps.toList
def oA (ys:List Str):List Str:=ys.mergeSort Om
theorem jy (ys:List Str):(oA ys).Perm ys:=List.mergeSort_perm ys Om
theorem Ao (ys:List Str):(oA ys).Pairwise G3:=by
 have h:=List.pairwise_mergeSort (le:=Om) (fun a b c h1 h2=>by
  unfold Om at *
  rw[ltCps_eq] at *
  simp only[Bool.not_eq_true',decide_eq_false_iff_not] at *
  exact List.le_trans (α:=Nat) h1 h2) (fun a b=>by
  unfold Om
  rw[ltCps_eq,ltCps_eq]
  simp only[Bool.or_eq_true,Bool.not_eq_true',decide_eq_false_iff_not]
  exact List.le_total a.cps.toList b.cps.toList) ys
 exact h.imp fun {a b} hh=>by simpa [Om,G3] using hh
theorem QT {ys zs:List Str} (hp:zs.Perm ys) (hs:sortedS zs=true):zs=oA ys:=LK (hp.trans (jy ys).symm) (Gg hs) (Ao ys)
def uH (x:Str) (b:Bx):Option Bx:=(uz b).bind fun ds=>(Eh ds).bind fun ys=>if (ys.map (·.length)).sum+ys.length * x.length<=100000 then some (.z (.str (Txt.join x ys))) else none
theorem Vb:V9 X "str.join" (fun x xs H Q=>∃ y p ys,x=.str y/\xs=[.ref p]/\qw X.K H p (ys.map V.str)/\(ys.map (·.length)).sum+ys.length * y.length<=100000/\Q (.str (Txt.join y ys)) H):=by
 intro pins s σ H x xs v us Q I rx rs h
 obtain⟨y,p,ys,rfl,rfl,sq,hb,q⟩:=h
 obtain⟨t,rfl⟩:=rx
 obtain⟨u,rfl,ru⟩:=vals1 rs
 cases ru
 obtain⟨its,r',pl,hz⟩:=I.list sq
 exact join_list pl.isList (Am r') (by omega) fun t' k=>⟨.str _,H,I.tok _,⟨_,rfl⟩,q⟩
theorem zU {x:Str} {j:Nat} {p1 apos cpos:Pos} (h:QV X e f) (hx:x.length<=sizeLine:=by decide) (hbase:attributeBase (.Constant (.str x) j p1) "join" X.env (eval (.Constant (.str x) j p1) X.env)=eval (.Constant (.str x) j p1) X.env:=by rfl) (hfew:((backTo cpos (starEach [e] X.env)).all (fun x=>!x.1)&&(backToKw cpos (keywordEach [] X.env)).all (fun x=>x.1.isSome)&&decide ([e].length+([]:List Keyword).length+(if ([]:List Keyword).isEmpty then 0 else 1) < 30))=true:=by rfl) (hline:(apos.endLine==cpos.line)=true:=by rfl) (hs:starEach [e] X.env=(false,eval e X.env)::starEach [] X.env:=by rfl):QV X (.Call (.Attribute (.Constant (.str x) j p1) "join" apos) [e] [] cpos) (b1 (uH x) f):=⟨have h:=h.run;Dj (Hh (T := "str") F.plainAttrs_str F.slot_str_join F.type_str_join Vb (Qo (hx:=hx)) (vJ h zN hs) hbase hfew hline hs rfl) fun σ H Q q=>by
  obtain⟨H0,ρ,c,E,e,q⟩:=q
  obtain⟨a,ea,e⟩:=bind_some e
  refine⟨H0,ρ,_,E,rfl,fun v H1 s1 n1 r1=>?_⟩
  obtain⟨rfl,hx'⟩:v=.str x/\x.length<=sizeLine:=by simpa only[aU,Rep] using r1
  refine⟨rfl,H0,ρ,[a],E.grow s1,by simp only[aC,ea,Option.bind_some],fun vs H2 s2 r2=>?_⟩
  obtain⟨w,rfl,rw1⟩:=rep1 r2
  unfold uH at e
  obtain⟨ds,ed,e⟩:=bind_some e
  obtain⟨ys,ey,e⟩:=bind_some e
  split at e
  ·rename_i hb
   cases e
   obtain⟨p,ws,rfl,sq,rs⟩:=rw1.Fy ed
   obtain⟨rfl,hy⟩:=Ei rs ey
   refine⟨x,p,ys,rfl,rfl,sq,hb,q _ _ (s1.trans s2) trivial ?_⟩
   unfold aU Rep
   exact⟨rfl,joinOk_length (joinOk_of (by omega))⟩
  ·cases e⟩
end
section
variable {X:Cx}
end
def Aq (kvs:List (Key×Dt)) (x:Key):Option Dt:=(kvs.find? fun kv=>decide (kv.1=x)).map (·.2)
def J5 (kvs:List (Key×Dt)) (x:Key) (d:Dt):List (Key×Dt):=
 if (kvs.any fun kv=>decide (kv.1=x))=true then kvs.map (fun kv=>if kv.1=x then (kv.1,d) else kv) else kvs++[(x,d)]
section
variable {K:PySem.W.Frag} {H:Hp}
theorem gM.nil:gM K H [] []:=⟨rfl,aJ.nil,fun p hp=>by cases hp⟩
theorem gM.inv {p:Key×Dt} {kvs:List (Key×Dt)} {ks:List (Key×V)} (h:gM K H (p::kvs) ks):∃ v r,ks=(p.1,v)::r/\Rep K H p.2 v/\XJ p.1/\gM K H kvs r:=by
 obtain⟨h1,h2,h3⟩:=h
 cases ks with
 |nil=>simp at h1
 |cons q r=>
  simp only[List.map_cons,List.cons.injEq] at h1
  obtain⟨e,h1⟩:=h1
  simp only[List.map_cons,aJ] at h2
  obtain⟨v,r',e2,hv,hr⟩:=h2
  simp only[List.cons.injEq] at e2
  obtain⟨rfl,rfl⟩:=e2
  exact⟨q.2,r,by rw[<-e],hv,h3 p (List.mem_cons_self ..),h1,hr,fun x hx=>h3 x (List.mem_cons_of_mem _ hx)⟩
theorem gM.cons {p:Key×Dt} {kvs:List (Key×Dt)} {v:V} {r:List (Key×V)} (hv:Rep K H p.2 v) (hp:XJ p.1) (h:gM K H kvs r):gM K H (p::kvs) ((p.1,v)::r):=
 ⟨by simp[h.1],aJ.cons hv h.2.1,fun x hx=>by
  rcases List.mem_cons.mp hx with rfl|hx
  ·exact hp
  ·exact h.2.2 x hx⟩
theorem gM.append {kvs:List (Key×Dt)} {ks:List (Key×V)} {x:Key} {d:Dt} {v:V} (h:gM K H kvs ks) (hv:Rep K H d v) (hx:XJ x):gM K H (kvs++[(x,d)]) (ks++[(x,v)]):=
 ⟨by simp[h.1],by rw[List.map_append,List.map_append];exact aJ.append h.2.1 (aJ.cons hv aJ.nil),fun p hp=>by
  rcases List.mem_append.mp hp with hp|hp
  ·exact h.2.2 p hp
  ·cases List.mem_singleton.mp hp;exact hx⟩
theorem gM.len {kvs:List (Key×Dt)} {ks:List (Key×V)} (h:gM K H kvs ks):ks.length=kvs.length:=by
 have:=congrArg List.length h.1
 simpa using this
theorem gM.look:∀ {kvs:List (Key×Dt)} {ks:List (Key×V)} {x:Key} {d:Dt},gM K H kvs ks->Aq kvs x=some d->∃ v,uO ks x=some v/\Rep K H d v
 |[],_,_,_,_,e=>by cases e
 |p::kvs,_,x,d,h,e=>by
  obtain⟨v,r,rfl,hv,hpl,hr⟩:=h.inv
  unfold Aq at e
  by_cases hp:p.1=x
  ·rw[List.find?_cons_of_pos (by simpa using hp)] at e
   cases e
   exact⟨v,rM (by rw[hp]),hv⟩
  ·rw[List.find?_cons_of_neg (by simpa using hp)] at e
   obtain⟨w,e1,e2⟩:=gM.look hr e
   exact⟨w,(rN (by simpa using hp)).trans e1,e2⟩
theorem gM.any:∀ {kvs:List (Key×Dt)} {ks:List (Key×V)} {x:Key},gM K H kvs ks->(ks.any fun kv=>decide (kv.1=x))=kvs.any fun kv=>decide (kv.1=x)
 |[],ks,_,h=>by
  have:=h.len
  cases ks with
  |nil=>rfl
  |cons _ _=>simp at this
 |p::kvs,_,x,h=>by
  obtain⟨v,r,rfl,hv,hpl,hr⟩:=h.inv
  rw[List.any_cons,List.any_cons,gM.any hr]
theorem gM.QW:∀ {kvs:List (Key×Dt)} {ks:List (Key×V)} {x:Key} {d:Dt} {v:V},gM K H kvs ks->Rep K H d v->gM K H (kvs.map fun kv=>if kv.1=x then (kv.1,d) else kv) (ks.map fun kv=>if kv.1=x then (kv.1,v) else kv)
 |[],ks,_,_,_,h,_=>by
  have:=h.len
  cases ks with
  |nil=>exact gM.nil
  |cons _ _=>simp at this
 |p::kvs,_,x,d,v,h,hd=>by
  obtain⟨w,r,rfl,hw,hpl,hr⟩:=h.inv
  rw[List.map_cons,List.map_cons]
  have ih:=gM.QW (x:=x) hr hd
  by_cases hp:p.1=x
  ·rw[if_pos hp,if_pos (by simp[hp])]
   exact gM.cons (p:=(p.1,d)) hd hpl ih
  ·rw[if_neg hp,if_neg (by simpa using hp)]
   exact gM.cons hw hpl ih
theorem gM.put {kvs:List (Key×Dt)} {ks:List (Key×V)} {x:Key} {d:Dt} {v:V} (h:gM K H kvs ks) (hv:Rep K H d v) (hx:XJ x):gM K H (J5 kvs x d) (putK ks x v):=by
 unfold J5 putK
 rw[h.any]
 split
 ·exact h.QW hv
 ·exact h.append hv hx
end
section
variable {X:Cx} {e ek o:Expr} {f fk fo:Ev->Option Bx} {pos pos':Pos}
theorem Vc  : QV X (.Dict [] [] pos) (fun _=>some (.m [] none)):=⟨Dj Qi fun σ H Q h=>by
 obtain⟨H0,ρ,b,E,e,q⟩:=h
 cases e
 intro p hp
 exact q _ _ (bQ hp) (fun a ea=>by cases ea;exact hp) ⟨p,[],rfl,bx,gM.nil,fun b h=>by cases h⟩⟩
def Wn:Bx->Option Key
 |.z (.str x)=>some (.inr x)
 |.z (.int i)=>some (.inl i)
 |_=>none
theorem LQ {K:PySem.W.Frag} {H:Hp} {b:Bx} {k:Key} {v:V} (e:Wn b=some k) (r:aU K H b v):v=kV k/\XJ k:=by
 unfold Wn at e
 split at e
 ·cases e;simp only[aU,Rep] at r;exact r
 ·cases e;simp only[aU,Rep] at r;exact⟨r,trivial⟩
 ·cases e
def Ek:Bx->Bx->Option Bx
 |.n kvs,b=>(Wn b).bind fun k=>(Aq kvs k).bind fun d=>some (.z d)
 |_,_=>none
theorem J6 {a b c:Bx} (h:Ek a b=some c):∃ kvs k d,a=.n kvs/\Wn b=some k/\Aq kvs k=some d/\c=.z d:=by
 unfold Ek at h
 split at h
 ·obtain⟨k,ek,h⟩:=bind_some h
  obtain⟨d,ed,h⟩:=bind_some h
  cases h
  exact⟨_,k,d,rfl,ek,ed,rfl⟩
 ·cases h
theorem Vd (hu:X.A.units+100 < cLine) (ho:QV X o fo) (hk:QV X ek fk) (hs:XF ek:=by intro _ _;rfl):QV X (.Subscript o ek pos) (b2 Ek fo fk):=⟨have ho:=ho.run;have hk:=hk.run;Dj (Um (by omega) ho hk hs) fun σ H Q h=>by
 obtain⟨H0,ρ,c,E,e,q⟩:=h
 obtain⟨a,ea,e⟩:=bind_some e
 obtain⟨b,eb,e⟩:=bind_some e
 refine⟨H0,ρ,a,E,ea,fun v H1 s1 n1 r1=>⟨H0,ρ,b,E.grow s1,eb,fun w H2 s2 n2 r2=>?_⟩⟩
 obtain⟨kvs,x,d,rfl,ekx,ed,rfl⟩:=J6 e
 obtain⟨p,ks,rfl,rd,rm⟩:=r1.same s2
 obtain⟨v',ev,rv⟩:=rm.look ed
 obtain⟨rfl,_⟩:=LQ ekx r2
 exact⟨p,v',rfl,.inl ⟨ks,x,rd,rfl,ev.symm⟩,q _ _ (s1.trans s2) trivial rv⟩⟩
def HF (ρ:Ev) (i:Nat):Bx->Bx->Option Out
 |.z d,b=>(Wn b).bind fun x=>match ρ[i]? with
  |some (some (.m kvs w))=>if kvs.length < 1000 then some (.nx (ρ.set i (some (.m (J5 kvs x d) w)))) else none
  |_=>none
 |_,_=>none
def QX (i:Nat) (f fk:Ev->Option Bx):Ev->Option Out:=fun ρ=>(f ρ).bind fun b=>(fk ρ).bind fun k=>HF ρ i b k
theorem J7 {ρ:Ev} {i:Nat} {b k:Bx} {r:Out} (h:HF ρ i b k=some r):∃ d y kvs w,b=.z d/\Wn k=some y/\ρ[i]?=some (some (.m kvs w))/\kvs.length < 1000/\r=.nx (ρ.set i (some (.m (J5 kvs y d) w))):=by
 unfold HF at h
 split at h
 ·obtain⟨y,ey,h⟩:=bind_some h
  split at h
  ·rename_i hρ
   split at h
   ·rename_i hl
    cases h
    exact⟨_,y,_,_,rfl,ey,hρ,hl,rfl⟩
   ·cases h
  ·cases h
 ·cases h
theorem Ve (i:Nat) {x:Str} {p:Pos} (hu:X.A.units+100 < cLine) (he:QV X e f) (hk:QV X ek fk) (hN:X.N[i]?=some x:=by rfl) (hv:Tq X.env.scope x:=by first|exact Or.inl rfl|exact Or.inr (Or.inl rfl)|exact Or.inr (Or.inr rfl)) (hd:(x==("__debug__" : Str))=false:=by decide) (hcd:(x==("__classdict__" : Str))=false:=by decide) (hs:swapsWith e (some (.Subscript (.Name x p) ek pos')) pos.line X.env=pure false:=by rfl):Qq X (.Assign [.Subscript (.Name x p) ek pos'] e pos) (fun ρ=>(f ρ).bind fun b=>(fk ρ).bind fun k=>HF ρ i b k):=⟨have he:=he.run;have hk:=hk.run;Wc (Uo (by omega) (rH (i:=i) hN hv hd hcd) hk he hs) fun D σ H h=>by
  obtain⟨H0,ρ,r,E,e,q⟩:=h
  obtain⟨b,eb,e⟩:=bind_some e
  obtain⟨k,ek,e⟩:=bind_some e
  refine⟨H0,ρ,b,E,eb,fun v H1 s1 n1 r1=>?_⟩
  obtain⟨d,y,kvs,w0,rfl,eky,hρ,hl,rfl⟩:=J7 e
  have E1:=E.grow s1
  obtain⟨w,e1,a,ks,rfl,ha,rm,tie⟩:=E1.val i _ hρ
  refine⟨_,e1,H0,ρ,_,E1,ek,fun u H2 s2 n2 r2=>?_⟩
  obtain⟨rfl,hyl⟩:=LQ eky r2
  have E2:=E1.grow s2
  have ha2:=s2 _ _ ha
  have kp:Kp H2 (upd H2 a (.dK (putK ks y v))):=.dk ha2
  refine⟨a,_,rfl,JM.k (k:=y) ha2 (by rw[rm.len];exact Nat.lt_trans hl (by decide)),q _ _ ?_⟩
  exact E2.Z9 hρ rfl e1 kp ⟨a,_,rfl,bx,((rm.kp (.of s2)).put (x:=y) (aU.same s2 r1) hyl).kp kp,tie⟩⟩
end
section
variable {X:Cx} {a b c e:Expr} {es:List Expr} {fa fb fc f:Ev->Option Bx} {fs:Ev->Option (List Bx)} {pos:Pos}
theorem fD {x:Str} {j} (hx:x.length<=sizeLine:=by decide):QV X (.Constant (.str x) j pos) (cB (.str x)):=⟨P1.Qo (hx:=hx)⟩
end
section
variable {X:Cx} {a b c e:Expr} {es:List Expr} {fa fb fc f:Ev->Option Bx} {fs:Ev->Option (List Bx)} {pos:Pos}
variable {p q:Ev->Option Bool} {rest:List Expr}
theorem ao (h1:QV X e f) (h2:Tt X es fs) (hs:starEach (e::es) X.env=(false,eval e X.env)::starEach es X.env:=by rfl):Tt X (e::es) (aC f fs):=⟨P1.vJ (h1:=h1.run) (h2:=h2.run) (hs:=hs)⟩
end
section
variable {X:Cx} {a b c e:Expr} {es:List Expr} {fa fb fc f:Ev->Option Bx} {fs:Ev->Option (List Bx)} {pos:Pos}
variable {p q:Ev->Option Bool} {rest:List Expr}
theorem aD  : Tt X [] (fun _=>some []):=⟨P1.zN ⟩
end
theorem nC {P:Program} {w:World} {K:PySem.W.Frag} {mg:Str->Option Value} {base:Heap} {x qual:Str} {st:Stmt} {f:Addr} {fd:FuncData} {N ps:List Str} {k n m:Nat} {g:Ev->Option Out} (F:uP K x qual st f fd) (S:bB N ps (aG st)) (hn:N.length=n) (hm:ps.length=m)
  (hbody:∀ (cdv:Value) (A:Around) (outer:List Env) (s:Shared) (H:Hp) (E:XK),lV k (A.deeper (envOfC qual (aG st) s.heap.objs.size f cdv))->Qs (Fo jf P w K mg base N qual (aG st) f cdv A outer s H E).Pq (bf st) g) :
  bF P w K mg base jf (k+1) f fd ps (jw K m (eY n g)):=acA F S hn hm fun cdv A outer s H E hr=>(hbody cdv A outer s H E hr).run
section
variable {prog:Program} {w:World} {A:Around} {E:Value->Shared->Prop} {s:Shared}
theorem Gh {d:Addr} {kvs:List (Key×Value)} {ep:Nat} {Q:List Value->Shared->Prop} (hh:A.handled=none) (hd:(d==sysModules)=false) (hm:s.heap.DictAt (bT prog w) d kvs ep) (hn:kvs.length<=sizeLine)
  (hQ:∀ s' acc,s.heap.objs.size<=s'.heap.objs.size->(∀ b o,s.heap.get? b=some o->s'.heap.get? b=some o)->s'.gens=s.gens->s'.drawn=s.drawn->s'.os=s.os->ItemsOf (fun i v=>∃ k x,kvs[i]?=some (k,x)/\(bT prog w).is k v=true) acc kvs.length->Q acc.toList s') :
  wpAny (model prog w) A (collect (.ref d)) Q E s:=by
 have hT:s.TypeIs (.ref d) "dict" := hm.dictOf.typeIs
 have hlt:d < s.heap.objs.size:=by obtain⟨o,_,ho,_⟩:=hm;exact Heap.lt_size ho
 unfold collect
 refine wpAny_bind (wpAny_runValue (codeAny_builtin F.entry_proto_collect ?_));rw[Around.under_plainId F.plain_proto_collect _]
 show wpAny _ A.in1 (newList [] >>= fun l=>again (.builtin "list.__iadd__" ⟨[l,.ref d],[]⟩)) _ _ s
 refine wpAny_bind (wpAny_newObj_type (wpAny_pure ⟨plainId_quiet F.plain_list_iadd _,codeAny_builtin F.entry_list_iadd ?_⟩));rw[Around.under_plainId F.plain_list_iadd _]
 show wpAny _ A.in1 (Builtin.List.listExtendWith (.ref s.heap.objs.size) (.ref d) (.ref s.heap.objs.size)) _ _ _
 unfold Builtin.List.listExtendWith
 have hm1:=hm.at' (h':=s.heap.push { cls:=.type "list", data:=.seq ([]:List Value).toArray }) fun o e=>Heap.get?_push_of_some _ e
 refine wpAny_bind (wpAny_typeOf (T := "dict") hm1.dictOf.typeIs ?_)
 have h1:Builtin.List.listSameRef (.ref s.heap.objs.size) (.ref d)=false:=by simp[Builtin.List.listSameRef];exact Nat.ne_of_gt hlt
 simp only[h1,show (Value.type "dict" == Value.type "list")=false by decide,show (Value.type "dict" == Value.type "tuple")=false by decide,Bool.or_false,Bool.false_eq_true,if_false]
 refine wpAny_bind (wpAny_pyIter_dict hd hm1 ?_)
 refine wpAny_bind (wpAny_holding ?_)
 have hm2:=hm1.at' (h':=(s.heap.push { cls:=.type "list", data:=.seq ([]:List Value).toArray }).push { cls:=.type "dict_keyiterator", data:=.fields #[.ref d,.int 0 0,.int kvs.length 0,.int ep 0] }) fun o e=>Heap.get?_push_of_some _ e
 unfold Builtin.List.listLengthHint
 refine wpAny_bind (wpAny_specialOf (T := "dict") hm2.dictOf.typeIs F.slot_dict_len.lookup ?_)
 wp_delta
 refine wpAny_bind (wpAny_isInstance (T := "dict") (b:=true) hm2.dictOf.typeIs (by rw[isSubtype_type];kernel_rfl) ?_)
 show wpAny _ A.in1 (typeOf (Value.ref d) >>= _) _ _ _
 refine wpAny_bind (wpAny_typeOf (T := "dict") hm2.dictOf.typeIs (wpAny_pure ?_))
 rw[if_pos (by decide)]
 show wpAny _ A.in1 (Builtin.List.listTouch (Value.ref s.heap.objs.size) >>= fun _=>again (Code.builtin "list.extend.loop" ⟨[Value.ref s.heap.objs.size,Value.ref (s.heap.push { cls:=.type "list", data:=.seq ([]:List Value).toArray }).objs.size,Value.ref s.heap.objs.size],[]⟩)) _ _ _
 generalize hH:(s.heap.push { cls:=.type "list", data:=.seq ([]:List Value).toArray })=H at hm1 hm2 ⊢
 have hHs:H.objs.size=s.heap.objs.size+1:=by rw[<-hH,Heap.size_push]
 generalize hG:H.push { cls:=.type "dict_keyiterator", data:=.fields #[.ref d,.int 0 0,.int kvs.length 0,.int ep 0] }=G at hm2 ⊢
 have hS:G.get? s.heap.objs.size=some (seqObj "list" #[] 0):=by
  rw[<-hG]
  refine Heap.get?_push_of_some _ ?_
  rw[<-hH]
  exact Heap.get?_push_size _ rfl
 have hI:G.get? H.objs.size=some { cls:=.type "dict_keyiterator", data:=.fields #[.ref d,.int 0 0,.int kvs.length 0,.int ep 0] }:=by
  rw[<-hG]
  exact Heap.get?_push_size _ rfl
 unfold Builtin.List.listTouch
 refine wpAny_bind (wpAny_bind (listUpdate_at hS rfl (listUpdate_at (get?_update_seq hS _) rfl ?_ (by show _<=_;decide) (by show _<=_;decide)) (by show _<=_;decide) (by show _<=_;decide)))
 have hIS:H.objs.size≠s.heap.objs.size:=by omega
 have hdS:d≠s.heap.objs.size:=Nat.ne_of_lt hlt
 have hS3:=get?_update_seq (get?_update_seq hS (fun x=>x.push Value.none)) (fun x=>x.pop)
 generalize hU:(G.update s.heap.objs.size (Obj.mapSeq fun x=>x.push Value.none)).update s.heap.objs.size (Obj.mapSeq fun x=>x.pop)=U at hS3
 have keep:∀ b,b≠s.heap.objs.size->U.get? b=G.get? b:=fun b hb=>by rw[<-hU,Heap.get?_update_ne _ _ _ _ hb,Heap.get?_update_ne _ _ _ _ hb]
 have st0:U.IsKeyIter H.objs.size d 0 kvs.length ep/\U.DictAt (bT prog w) d kvs ep:=⟨⟨_,(keep _ hIS).trans hI,rfl,rfl⟩,hm2.at' fun o e=>(keep d hdS).trans e⟩
 show wpAny _ A.in1 (again _) _ _ { s with heap:=U }
 have hSf:s.heap.objs.size∉[H.objs.size,d]:=fun h=>by
  simp only[List.mem_cons,List.not_mem_nil,or_false] at h
  rcases h with h|h
  ·exact hIS h.symm
  ·exact hdS h.symm
 refine wpAny_pure ⟨plainId_quiet F.plain_extend_loop _,codeAny_extend_loopS (Walks.dictKeys (A:=A.in1) hh H.objs.size d (Nat.ne_of_lt (hHs▸Nat.lt_succ_of_lt hlt)) kvs ep).toS hn s.heap.objs.size hSf _ kvs.length 0 { s with heap:=U } #[] _ rfl (Nat.zero_le _) st0 hS3 (ItemsOf.nil _) fun s' acc' c' mv hS' hacc=>?_⟩
 show wpAny _ A (load s.heap.objs.size >>= _) _ _ s'
 refine wpAny_bind (wpAny_load hS' (wpAny_pure (hQ s' acc' (Nat.le_of_lt (Heap.lt_size hS')) (fun b ob e=>?_) mv.gens mv.drawn mv.os hacc)))
 have hb:=Heap.lt_size e
 refine mv.heap b ob (fun h=>?_) ((keep b (Nat.ne_of_lt hb)).trans ?_)
 ·simp only[List.mem_cons,List.not_mem_nil,or_false] at h
  rcases h with h|h
  ·exact Nat.ne_of_lt hb h
  ·rw[h,hHs] at hb
   exact absurd hb (Nat.not_lt.mpr (Nat.le_succ _))
 ·rw[<-hG]
  refine Heap.get?_push_of_some _ ?_
  rw[<-hH]
  exact Heap.get?_push_of_some _ e
theorem yr:∀ (vs:List Value) (ys:List Str),vs.length=ys.length->(∀ (j:Nat) v,vs[j]?=some v->∃ y t,ys[j]?=some y/\v=.str y t)->StrsAre vs ys
 |[],[],_,_=>.nil
 |v::vs,y::ys,hl,h=>by
  obtain⟨y',t,e,rfl⟩:=h 0 v rfl
  cases e
  exact .cons y t (yr vs ys (by simpa using hl) fun j v hv=>h (j+1) v (by simpa using hv))
theorem J8 {kvs:List (Key×Value)} {ys:List Str} (hk:kvs.map (·.1)=ys.map Sum.inr) {acc:Array Value} (h:ItemsOf (fun i v=>∃ k x,kvs[i]?=some (k,x)/\(bT prog w).is k v=true) acc kvs.length):StrsAre acc.toList ys:=by
 have hl:kvs.length=ys.length:=by have:=congrArg List.length hk;simpa using this
 refine yr _ _ (by rw[Array.length_toList,h.1,hl]) fun j v hv=>?_
 obtain⟨k,x,e,hi⟩:=h.2 j v (by simpa using hv)
 have e1:(kvs.map (·.1))[j]?=some k:=by rw[List.getElem?_map,e];rfl
 rw[hk,List.getElem?_map] at e1
 cases hy:ys[j]? with
 |none=>rw[hy] at e1;cases e1
 |some y=>
  rw[hy] at e1
  cases e1
  have hi':nY (Sum.inr y) v=true:=hi
  rcases bD hi' with⟨i,t,e2,e3⟩|⟨z,t,e2,e3⟩
  ·cases e2
  ·cases e2
   exact⟨_,t,rfl,e3⟩
theorem HJ {d:Addr} {kvs:List (Key×Value)} {ep:Nat} {ys:List Str} {Q:Value->Shared->Prop} (hh:A.handled=none) (hd:(d==sysModules)=false) (hm:s.heap.DictAt (bT prog w) d kvs ep) (hk:kvs.map (·.1)=ys.map Sum.inr) (h64:ys.length < 64)
  (h:∀ (l:Addr) (h':Heap) (tk:Nat) (out:Array Value) (zs:List Str) (n:Nat),s.heap.objs.size<=l->(∀ b o,s.heap.get? b=some o->h'.get? b=some o)->h'.get? l=some (seqObj "list" out n)->StrsAre out.toList zs->zs.Perm ys->sortedS zs=true->Q (.ref l) { s with heap:=h',toks:=tk }) :
  wpAny (model prog w) A (call (.builtin "sorted") [.ref d]) Q E s:=by
 have hl:kvs.length=ys.length:=by have:=congrArg List.length hk;simpa using this
 refine Calls.call_function_entry kind_sorted plain_sorted entry_sorted (args_sorted1 _) ?_;unfold Builtin.«sorted»
 refine wpAny_bind (m:=checkCount "sorted" 1 1 _) (wpAny_pure (wpAny_bind (Gh (by exact hh) hd hm (Nat.le_trans (Nat.le_of_lt (hl▸h64)) (by decide)) fun s' acc hle ext hg hdr hos hit=>?_)))
 have hS:=J8 hk hit
 have hlen:acc.toList.length < 64:=by rw[Array.length_toList,hit.1,hl];exact h64
 refine wpAny_bind (wpAny_newList ?_)
 have hoL:(s'.heap.push (seqObj "list" acc.toList.toArray 0)).get? s'.heap.objs.size=some (seqObj "list" acc.toList.toArray 0):=Heap.get?_push_size _ rfl
 refine wpAny_bind (wpAny_holding (wpAny_call_entry slot_list_sort ⟨_,hoL,rfl⟩ entry_list_sort (list_sort_treeK strKind_oneLt hoL hS.keysOf (fun v₁ v₂ rest e=>keyKind_strs (by rw[<-e];exact hS)) hlen fun st' a1 a2=>⟨_,rfl,wpAny_pure ⟨_,rfl,?_⟩⟩) (args_list_sort _)))
 obtain⟨zs,z1,z2,z3⟩:=sorted_out_str hS a1 a2
 obtain⟨n,en⟩:=sortedHeap_at (out:=(arrOf st').map (·.2)) hoL
 have key:=h s'.heap.objs.size _ s'.toks _ zs n hle (fun b o e=>by
  have e1:=ext b o e
  have hb:=Heap.lt_size e1
  rw[sortedHeap_old (Nat.ne_of_lt hb) (by rw[Heap.size_push];exact Nat.lt_succ_of_lt hb)]
  exact Heap.get?_push_of_some _ e1) en z1 z2 z3
 rw[<-hg,<-hdr,<-hos] at key
 exact key
end
section
variable {X:Cx}
def Oo:List (Key×Dt)->Option (List Str)
 |[]=>some []
 |(.inr x,_)::r=>(Oo r).bind fun ys=>some (x::ys)
 |(.inl _,_)::_=>none
theorem um:∀ {kvs:List (Key×Dt)} {ys:List Str},Oo kvs=some ys->kvs.map (·.1)=ys.map Sum.inr
 |[],_,e=>by cases e;rfl
 |(.inr x,_)::r,_,e=>by
  obtain⟨ys,e1,e⟩:=bind_some e
  cases e
  rw[List.map_cons,List.map_cons,um e1]
 |(.inl _,_)::_,_,e=>by cases e
theorem Vf {kvs:List (Key×Dt)} {ys:List Str} (e:Oo kvs=some ys) (h:∀ p∈kvs,XJ p.1) (y:Str) (hy:y∈ys):y.length<=sizeLine:=by
 have:(Sum.inr y:Key)∈kvs.map (·.1):=by rw[um e];exact List.mem_map.mpr ⟨y,hy,rfl⟩
 obtain⟨p,hp,ep⟩:=List.mem_map.mp this
 have:=h p hp
 rw[ep] at this;exact this
def Ar:List Bx->Option Bx
 |[.n kvs]=>(Oo kvs).bind fun ys=>if kvs.length < 64 then some (.o ((oA ys).map Dt.str)) else none
 |_=>none
theorem LR:∀ {ks:List (Key×V)} {vs:List (Key×Value)},KV ks vs->vs.map (·.1)=ks.map (·.1)
 |_,_,.nil=>rfl
 |_,_,.cons h t=>by rw[List.map_cons,List.map_cons,LR t,h.1]
theorem J9 (hc:X.calm=true):yj X (.builtin "sorted") Ar:=by
 intro pins s σ H xs us Q I r h
 obtain⟨bs,c,rb,e,q⟩:=h
 unfold Ar at e
 split at e
 ·rename_i kvs
  obtain⟨ys,ey,e⟩:=bind_some e
  have hlen:kvs.length=ys.length:=by have:=congrArg List.length (um ey);simpa using this
  split at e
  ·rename_i h64
   cases e
   obtain⟨v,rfl,r1⟩:=rep1 rb
   obtain⟨a,ks,rfl,rd,rm⟩:=r1
   obtain⟨u,rfl,ru⟩:=vals1 r
   cases ru
   obtain⟨_,hsys,vs,kv,o,es,ep,dd⟩:=Lk I.hok rd
   have hk:vs.map (·.1)=ys.map Sum.inr:=by rw[LR kv,rm.1];exact um ey
   refine HJ (I.ok.hd hc) hsys ⟨o,es,dd⟩ hk (by omega) fun l h' tk out zs n hle ext en z1 z2 z3=>?_
   have ez:=QT z2 z3
   subst ez
   have hy:∀ y∈oA ys,y.length<=sizeLine:=fun y hy=>Vf ey rm.2.2 y ((jy _).mem_iff.mp hy)
   have hl:=I.hok.fresh hle
   refine⟨.ref l,_,I.laid (t':=tk) (a:=l) (o:=.lst ((oA ys).map V.str)) ext hle ?_,rfl,q _ _ (bQ hl) (fun a ea=>by cases ea;exact hl) ⟨l,_,rfl,bx,vP hy⟩⟩
   refine⟨by rw[List.length_map,(jy _).length_eq,<-hlen];exact Nat.le_trans (Nat.le_of_lt h64) (by decide),out.toList,n,xG z1,?_⟩
   rw[en]
  ·cases e
 ·cases e
end
theorem aV.aaq {K:PySem.W.Frag} {H0 H:Hp} {σ:L2.St} {ρ:Ev} (E:aV K H0 H σ ρ) (i:Nat):aV K H0 H σ (ρ.set i none):=by
 have back:∀ (j:Nat) (b:Bx),(ρ.set i none)[j]?=some (some b)->ρ[j]?=some (some b):=fun j b e=>by
  rw[List.getElem?_set] at e
  split at e
  ·split at e<;>cases e
  ·exact e
 refine⟨by rw[List.length_set];exact E.len,fun j b e=>E.val j b (back j b e),fun j k c a b e1 ec e2 e3 e4 e5=>E.own j k c a b (back _ _ e1) ec e2 (back _ _ e3) e4 e5,E.base,fun j c a e1 ec e2=>E.new j c a (back _ _ e1) ec e2⟩
def kill (is:List Nat) (ρ:Ev):Ev:=is.foldl (fun ρ i=>ρ.set i none) ρ
theorem aV.kill {K:PySem.W.Frag} {H0 H:Hp} {σ:L2.St}:∀ (is:List Nat) {ρ:Ev},aV K H0 H σ ρ->aV K H0 H σ (P1.kill is ρ)
 |[],_,E=>E
 |i::is,_,E=>aV.kill is (E.aaq i)
def jh (is:List Nat):Ev->Option Out:=fun ρ=>some (.nx (kill is ρ))
theorem QZ {X:Cx} {ss:List Stmt} {g:Ev->Option Out} (is:List Nat) (h:Pu X ss g):Pu X ss (aH g (jh is)):=Ur h fun D σ H q=>by
 obtain⟨H0,ρ,r,E,e,q⟩:=q
 obtain⟨r1,e1,e⟩:=bind_some e
 refine⟨H0,ρ,r1,E,e1,?_⟩
 cases r1 with
 |nx ρ1=>cases e;exact fun σ' H' E'=>q σ' H' (E'.kill is)
 |rt b=>cases e;exact q
 |bk b=>cases e;exact q
 |ct b=>cases e;exact q
theorem dN {X:Cx} {ss:List Stmt} {g:Ev->Option Out} (is:List Nat) (h:Qs X ss g):Qs X ss (aH g (jh is)):=⟨QZ is h.run⟩
end P1
end
section
namespace S1
open PySem PySem.Spec PyProof.Rows
section
variable (rk:Value->Nat)
def at_ (xs:Array Keyed) (i:Nat):Nat:=match xs[i]? with
 |some p=>rk p.1
 |none=>0
def Up (xs:Array Keyed) (k:Nat):Prop:=∀ i j,i<=j->j < k->at_ rk xs i<=at_ rk xs j
structure Bs (kd:SortKind) (b:Array Keyed) (st:SortSt):Prop where
 pm:(arrOf st).Perm b
 kd:kindOf st=kd
 fl:failedOf st=none
 pd:pendingOf st=#[]
variable {rk} {kd:SortKind} {b:Array Keyed}
theorem Bs.sz {st:SortSt} (h:Bs kd b st):(arrOf st).size=b.size:=h.pm.size_eq
end
section
variable {prog:Program} {w:World} {A:Around} {E:Value->Shared->Prop} {s:Shared} {b:Array Keyed} {kd:SortKind} {rk:Value->Nat}
end
section
variable {prog:Program} {w:World} {A:Around} {E:Value->Shared->Prop} {s:Shared} {b:Array Keyed} {kd:SortKind} {rk:Value->Nat}
def Dn (kd:SortKind) (rk:Value->Nat) (b:Array Keyed) (st:SortSt):Prop:=(arrOf st).Perm b/\failedOf st=none/\pendingOf st=#[(0,b.size,0)]/\Up rk (arrOf st) b.size
theorem Bs.dn {st:SortSt} (B:Bs kd b st) (up:Up rk (arrOf st) b.size):Dn kd rk b (setPending st ((pendingOf st).push (0,b.size,0))):=⟨B.pm,B.fl,(by show (pendingOf st).push _=_;rw[B.pd];rfl),up⟩
end
end S1
end
section
namespace S1
open PySem PySem.Spec PyProof.Rows L2
def ltK:Key->Key->Bool
 |.inl a,.inl b=>decide (a < b)
 |.inr x,.inr y=>decide (x.cps.toList < y.cps.toList)
 |.inl _,.inr _=>true
 |.inr _,.inl _=>false
def Ma:Key->Key->Bool
 |.inl _,.inl _=>true
 |.inr _,.inr _=>true
 |_,_=>false
def aar:List Key->List Key->Bool
 |[],[]=>false
 |[],_::_=>true
 |_::_,[]=>false
 |x::xs,y::ys=>if x=y then aar xs ys else ltK x y
def Shp:List Key->List Key->Prop
 |x::xs,y::ys=>Ma x y=true/\Shp xs ys
 |_,_=>True
section
variable {prog:Program} {w:World} {A:Around} {E:Value->Shared->Prop} {s:Shared}
theorem key_eq {x y:Key} {p q:Value} {Q:Bool->Shared->Prop} (hp:nY x p=true) (hq:nY y q=true) (h:Q (decide (x=y)) s):wpAny (model prog w) A (eqBool p q) Q E s:=
 (bT prog w).eqBool (a:=x) (b:=y) hp hq h
theorem Ym {fb:Bool} {x y:Key} {p q:Value} {Q:Bool->Shared->Prop} (hs:Ma x y=true) (hp:nY x p=true) (hq:nY y q=true) (h:Q (ltK x y) s):wpAny (model prog w) A (oneLt' fb p q) Q E s:=by
 rcases bD hp with⟨i,t,rfl,rfl⟩|⟨z,t,rfl,rfl⟩
 ·rcases bD hq with⟨j,u,rfl,rfl⟩|⟨z,u,rfl,rfl⟩
  ·cases fb with
   |true=>exact oneLt_int h
   |false=>
    rw[oneLt'_eq]
    simp only[Bool.false_eq_true,if_false]
    refine wpAny_bind (show wpAny _ _ (compareOp .Lt (.int i t) (.int j u)) _ _ _ from lt_int ?_)
    exact wpAny_truthy_bool h
  ·cases hs
 ·rcases bD hq with⟨j,u,rfl,rfl⟩|⟨z',u,rfl,rfl⟩
  ·cases hs
  ·cases fb with
   |true=>exact oneLt_str h
   |false=>
    rw[oneLt'_eq]
    simp only[Bool.false_eq_true,if_false]
    refine wpAny_bind (show wpAny _ _ (compareOp .Lt (.str z t) (.str z' u)) _ _ _ from PySem.P.lt_str ?_)
    exact wpAny_truthy_bool h
def Ks (ks:List Key) (its:List Value):Prop:=Paired (fun k v=>nY k v=true) ks its
def dif:List Key->List Key->Option Bool
 |x::xs,y::ys=>if x=y then dif xs ys else some (ltK x y)
 |_,_=>none
def turn (fb:Bool):(Value×Value)×Nat->Option Bool×Unit->Sem (ForInStep (Option Bool×Unit)):=fun x _=>match x with
 |((p,q),i)=>do
  let e <-eqBool p q
  if (!e)=true then do
    let r <-oneLt' (fb&&i==0) p q
    pure (ForInStep.done (some r,()))
   else pure (ForInStep.yield (none,()))
theorem walk (fb:Bool):∀ (ks ls:List Key) (its jts:List Value) (i:Nat) (R:Option Bool×Unit->Shared->Prop),Ks ks its->Ks ls jts->Shp ks ls->R (dif ks ls,()) s->wpAny (model prog w) A (forIn ((its.zip jts).zipIdx i) ((none,()):Option Bool×Unit) (turn fb)) R E s
 |[],_,_,_,_,R,.nil,_,_,h=>wpAny_pure h
 |_::_,[],_::_,_,_,R,_,.nil,_,h=>wpAny_pure h
 |x::xs,y::ys,p::its,q::jts,i,R,.cons hp hk,.cons hq hl,hs,h=>by
  rw[List.zip_cons_cons,List.zipIdx_cons,List.forIn_cons]
  refine wpAny_bind ?_
  show wpAny _ _ (eqBool p q >>= _) _ _ _
  refine wpAny_bind (key_eq hp hq ?_)
  by_cases e:x=y
  ·simp only[e,decide_true,Bool.not_true,Bool.false_eq_true,if_false]
   refine wpAny_pure (walk fb xs ys its jts (i+1) R hk hl hs.2 ?_)
   simp only[dif,if_pos e] at h
   exact h
  ·simp only[e,decide_false,Bool.not_false,if_true]
   refine wpAny_bind (Ym hs.1 hp hq (wpAny_pure (wpAny_pure ?_)))
   simp only[dif,if_neg e] at h
   exact h
end
def acC (xs ys:List Key):Bool:=!aar ys xs
def Oq (h:Heap) (ks:List Key) (v:Value):Prop:=∃ (a:Addr) (o:Obj) (its:List Value) (n:Nat),v=.ref a/\h.get? a=some o/\o.cls=.type "tuple" ∧ o.data=.seq its.toArray n/\Ks ks its
theorem Oq.keep {h h':Heap} {ks:List Key} {v:Value} (q:Oq h ks v) (k:∀ c o,h.get? c=some o->h'.get? c=some o):Oq h' ks v:=by
 obtain⟨a,o,its,n,e,g,c,d,p⟩:=q
 exact⟨a,o,its,n,e,k _ _ g,c,d,p⟩
theorem Vg {k l:Key} {v:Value} (h:nY k v=true) (h':nY l v=true):k=l:=by
 rcases bD h with⟨i,t,rfl,rfl⟩|⟨x,t,rfl,rfl⟩
 ·rcases bD h' with⟨j,u,rfl,e⟩|⟨y,u,rfl,e⟩
  ·cases e;rfl
  ·cases e
 ·rcases bD h' with⟨j,u,rfl,e⟩|⟨y,u,rfl,e⟩
  ·cases e
  ·cases e;rfl
theorem Ks.inj:∀ {ks ls:List Key} {its:List Value},Ks ks its->Ks ls its->ks=ls
 |_,_,[],h,h'=>by cases h;cases h';rfl
 |_,_,v::its,h,h'=>by
  cases h with
  |cons p t=>cases h' with
   |cons p' t'=>rw[Vg p p',Ks.inj t t']
theorem Oq.inj {h:Heap} {ks ls:List Key} {v:Value} (q:Oq h ks v) (q':Oq h ls v):ks=ls:=by
 obtain⟨a,o,its,n,rfl,g,c,d,p⟩:=q
 obtain⟨a',o',its',n',e,g',c',d',p'⟩:=q'
 cases e
 rw[g] at g'
 cases g'
 rw[d] at d'
 injection d' with e1 e2
 have e3:its=its':=by simpa using congrArg Array.toList e1
 subst e3
 exact p.inj p'
section
variable {prog:Program} {w:World} {A:Around} {E:Value->Shared->Prop} {s:Shared}
end
end S1
end
section
namespace P1
open PySem PySem.Spec PyProof.Rows L2 S1
section
variable {prog:Program} {w:World} {A:Around} {E:Value->Shared->Prop} {s:Shared}
end
def aas:Dt->Option Key
 |.int i=>some (.inl i)
 |.str x=>some (.inr x)
 |_=>none
def HN:List Dt->Option (List Key)
 |[]=>some []
 |d::ds=>(aas d).bind fun k=>(HN ds).bind fun ks=>some (k::ks)
def Mf:Dt->Option (List Key)
 |.tup ds=>HN ds
 |_=>none
def dK:Key->Dt
 |.inl i=>.int i
 |.inr x=>.str x
section
variable {X:Cx}
def Vh (k l:List Key):Bool:=((k.zip l).all fun p=>Ma p.1 p.2)
end
end P1
end
section
namespace S6
open PySem PySem.Spec PyProof.Rows
structure Wk (w:World) (h:Heap) (a:Addr) (es:Array (Int×Value)) (ep:Nat) (t:SetTable):Prop where
 at_:∃ o,h.get? a=some o/\o.cls=.type "set" ∧ o.data=.set es ep t
 fit:t.fits es.size=true
 led:w.params.followText "set-order" = false->t.led=true
 non:1 < es.size->t.plain=false
theorem Wk.keep {w:World} {h h':Heap} {a:Addr} {es:Array (Int×Value)} {ep:Nat} {t:SetTable} (x:Wk w h a es ep t) (k:∀ o,h.get? a=some o->h'.get? a=some o):Wk w h' a es ep t:=
 ⟨let ⟨o,e,r⟩:=x.at_;⟨o,k o e,r⟩,x.fit,x.led,x.non⟩
def It (h:Heap) (it a:Addr) (first:Value) (i n ep:Nat):Prop:=∃ o,h.get? it=some o/\o.cls=.type "set_iterator" ∧ o.data=.fields #[first,.int (i:Int) 0,.ref a,.int (n:Int) 0,.int (ep:Int) 0]
theorem It.keep {h h':Heap} {it a:Addr} {f:Value} {i n ep:Nat} (x:It h it a f i n ep) (k:∀ o,h.get? it=some o->h'.get? it=some o):It h' it a f i n ep:=
 let ⟨o,e,r⟩:=x;⟨o,k o e,r⟩
theorem It.ty {s:Shared} {it a:Addr} {f:Value} {i n ep:Nat} (x:It s.heap it a f i n ep):s.TypeIs (.ref it) "set_iterator" := let ⟨o,e,c,_⟩:=x;⟨o,e,c⟩
section
variable {prog:Program} {w:World} {A:Around} {E:Value->Shared->Prop} {s:Shared} {it a:Addr} {i ep:Nat} {es:Array (Int×Value)} {t:SetTable}
theorem It.put {h:Heap} {f:Value} {n:Nat} (hit:It h it a f i n ep) (x:Value):It (h.update it (Obj.mapFields (·.setIfInBounds 0 x))) it a x i n ep:=by
 obtain⟨o,ho,hc,hd⟩:=hit
 exact⟨_,Heap.get?_update_self _ ho (Obj.isFreed_of_fields (Obj.data_mapFields hd _)),(Obj.cls_mapFields ..).trans hc,by rw[Obj.data_mapFields hd];simp⟩
theorem It.step {h:Heap} {f:Value} {n:Nat} (hit:It h it a f i n ep):It (h.update it (Obj.mapFields (·.setIfInBounds 1 (rawInt ((i:Int)+1))))) it a f (i+1) n ep:=by
 obtain⟨o,ho,hc,hd⟩:=hit
 exact⟨_,Heap.get?_update_self _ ho (Obj.isFreed_of_fields (Obj.data_mapFields hd _)),(Obj.cls_mapFields ..).trans hc,by rw[Obj.data_mapFields hd];simp[rawInt]⟩
theorem It.field {f:Value} {n k:Nat} {x:Value} {A:Around} {Q:Unit->Shared->Prop} {E:Value->Shared->Prop} (hit:It s.heap it a f i n ep) (hk:k < 5) (h:Q () { s with heap:=s.heap.update it (Obj.mapFields (·.setIfInBounds k x)) }):wpAny (model prog w) A (setField (.ref it) k x) Q E s:=by
 obtain⟨o,ho,hc,hd⟩:=hit
 exact wpAny_setField ho hd (by simpa using hk) h
end
section
variable {prog:Program} {w:World} {A:Around} {E:Value->Shared->Prop} {s:Shared} {it a:Addr} {i ep:Nat} {es:Array (Int×Value)} {t:SetTable}
end
section
variable {prog:Program} {w:World} {A:Around} {E:Value->Shared->Prop} {s:Shared} {it a:Addr} {i ep:Nat} {es:Array (Int×Value)} {t:SetTable}
end
section
variable {prog:Program} {w:World} {A:Around} {E:Value->Shared->Prop} {s:Shared} {it a:Addr} {i ep:Nat} {es:Array (Int×Value)} {t:SetTable}
end
end S6
end
section
namespace S6
open PySem PySem.Spec PyProof.Rows P1
section
variable {prog:Program} {w:World} {A:Around} {E:Value->Shared->Prop} {s:Shared} {it a:Addr} {i ep:Nat} {es:Array (Int×Value)} {t:SetTable}
end
section
variable {prog:Program} {w:World} {A:Around} {E:Value->Shared->Prop} {s:Shared} {a:Addr}
def acD (prog:Program) (w:World) (y:Str) (e:Int×Value):Prop:=∃ tk,e=((strKind prog w).hash y,.str y tk)
structure Yn (prog:Program) (w:World) (ys:List Str) (es:Array (Int×Value)) (t:SetTable):Prop where
 rel:Paired (acD prog w) ys es.toList
 nd:ys.Nodup
 fit:t.fits es.size=true
 led:w.params.followText "set-order" = false->t.led=true
 non:0 < es.size->t.plain=false
def Tx (prog:Program) (w:World) (h:Heap) (a:Addr) (ys:List Str):Prop:=∃ o es ep t,h.get? a=some o/\o.ExactSet/\o.data=.set es ep t/\Yn prog w ys es t
theorem Tx.keep {h h':Heap} {ys:List Str} (x:Tx prog w h a ys) (k:∀ o,h.get? a=some o->h'.get? a=some o):Tx prog w h' a ys:=
 let ⟨o,es,ep,t,e,r⟩:=x;⟨o,es,ep,t,k o e,r⟩
theorem Yn.size {ys:List Str} {es:Array (Int×Value)} {t:SetTable} (x:Yn prog w ys es t):es.size=ys.length:=by rw[x.rel.length];simp
end
def blank (w:World):Obj:={ cls:=.type "set", dict:=none,data:=.set #[] 0 (.fresh 0 0 (!w.params.followText "set-order")) }
section
variable {prog:Program} {w:World} {A:Around} {R:Result->Shared->Prop} {I:Addr} {fp wr:List Addr} {n:Nat} {P:Nat->Value->Prop} {St:Nat->Shared->Prop} {κ:Type} {C:Heap->List κ->Prop} {val:Nat->κ}
end
section
variable {prog:Program} {w:World} {A:Around} {E:Value->Shared->Prop} {s:Shared}
end
end S6
end
section
namespace S6
open PySem
def acE (xs:Array Nat):Prop:=∀ i j,i < j->j < xs.size->xs.getD i 0 < xs.getD j 0
structure Tb (t:SetTable):Prop where
 mask:t.mask=7\/t.mask=31\/t.mask=127
 dum:t.dummies=#[]
 rise:acE t.place
 bd:∀ j:Nat,j∈t.place->j<=t.mask
 full:t.place.size<=t.mask
def acF (mask:Nat) (p:SetTable.Probe):SetTable.Probe:=
 if p.more > 0 then { p with j:=p.j+1,more:=p.more - 1 } else
 { p with j:=(SetTable.leap mask p.i p.perturb).1,more:=SetTable.runEnd mask (SetTable.leap mask p.i p.perturb).1 - (SetTable.leap mask p.i p.perturb).1,i:=(SetTable.leap mask p.i p.perturb).1,perturb:=(SetTable.leap mask p.i p.perturb).2 }
def at0 (mask i perturb:Nat):SetTable.Probe:={ j:=i,more:=SetTable.runEnd mask i - i,i,perturb,dummy:=none }
def wlk (mask:Nat) (h:Int):Nat->SetTable.Probe
 |0=>at0 mask (SetTable.bits h % (mask+1)) (SetTable.bits h)
 |n+1=>acF mask (wlk mask h n)
def nx (M i:Nat):Nat:=(i * 5+1) % M
structure Tok (t:SetTable) (es:Array (Int×Value)):Prop extends Tb t where
 size:t.place.size=es.size
 reach:∀ (i j:Nat) e,t.place[i]?=some j->es[i]?=some e->∃ n,n < 10 * SetTable.turns t.mask/\(wlk t.mask e.1 n).j=j/\∀ m,m < n->(wlk t.mask e.1 m).j∈t.place
end S6
end
section
namespace S6
open PySem PySem.Spec PyProof.Rows P1 L2
section
variable {prog:Program} {w:World} {A:Around} {E:Value->Shared->Prop} {s:Shared} {a:Addr}
abbrev Q0 (prog:Program) (w:World) (ks:List Key):Int:=tupleKeyHash (bT prog w) ks
def TE (prog:Program) (w:World) (h:Heap) (z:List Key×Addr) (e:Int×Value):Prop:=e=(Q0 prog w z.1,.ref z.2)/\IsTupleKey (bT prog w) h z.1 z.2
structure Yo (prog:Program) (w:World) (h:Heap) (zs:List (List Key×Addr)) (es:Array (Int×Value)) (t:SetTable):Prop where
 rel:Paired (TE prog w h) zs es.toList
 nd:(zs.map (·.1)).Nodup
 tok:Tok t es
 load:es.size * 5 < t.mask * 3
 led:w.params.followText "set-order" = false->t.led=true
 non:0 < es.size->t.plain=false
def Tu (prog:Program) (w:World) (h:Heap) (a:Addr) (zs:List (List Key×Addr)):Prop:=∃ o es ep t,h.get? a=some o/\o.ExactSet/\o.data=.set es ep t/\Yo prog w h zs es t
theorem Vi {h h':Heap} {ks:List Key} {b:Addr} (x:IsTupleKey (bT prog w) h ks b) (k:∀ o,h.get? b=some o->o.cls=.type "tuple" → h'.get? b=some o):IsTupleKey (bT prog w) h' ks b:=
 let ⟨o,its,n,e,c,r⟩:=x;⟨o,its,n,k o e c,c,r⟩
theorem Q5 {h h':Heap} {zs:List (List Key×Addr)} {l:List (Int×Value)} (k:∀ b o,h.get? b=some o->o.cls=.type "tuple" → h'.get? b=some o) (r:Paired (TE prog w h) zs l):Paired (TE prog w h') zs l:=by
 induction r with
 |nil=>exact .nil
 |cons q _ ih=>exact .cons ⟨q.1,Vi q.2 fun o e c=>k _ o e c⟩ ih
theorem Tu.keep {h h':Heap} {zs:List (List Key×Addr)} (x:Tu prog w h a zs) (k:∀ b o,h.get? b=some o->h'.get? b=some o):Tu prog w h' a zs:=
 let ⟨o,es,ep,t,e,r,d,q⟩:=x;⟨o,es,ep,t,k a o e,r,d,⟨Q5 (fun b o e _=>k b o e) q.rel,q.nd,q.tok,q.load,q.led,q.non⟩⟩
theorem Yo.size {h:Heap} {zs:List (List Key×Addr)} {es:Array (Int×Value)} {t:SetTable} (x:Yo prog w h zs es t):es.size=zs.length:=by rw[x.rel.length];simp
theorem Tok.fits {t:SetTable} {es:Array (Int×Value)} (h:Tok t es):t.fits es.size=true:=by
 unfold SetTable.fits SetTable.fill
 have h1:=h.full
 have h2:=h.size
 rw[h.dum]
 simp[h2]
 omega
end
section
variable {prog:Program} {w:World} {A:Around} {E:Value->Shared->Prop} {s:Shared} {a:Addr}
end
end S6
end
section
namespace S1
open PySem PySem.Spec PyProof.Rows L2
section
variable {prog:Program} {w:World} {A:Around} {E:Value->Shared->Prop} {s:Shared}
end
end S1
end
section
namespace P1
open PySem PySem.Spec PyProof.Rows L2 S6
section
variable {X:Cx}
def hoS (X:Cx) (a:Addr) (zs:List Str):HO:=.ext fun h=>Tx X.prog X.w h a zs
variable {x:Str} {e:Expr} {f:Ev->Option Bx} {fs:Ev->Option (List Str)} {p pos:Pos}
end
theorem Yp {H:Hp} {a:Addr} {φ:Heap->Prop} {o:HO} (h:H a=some (.ext φ)):Kp H (upd H a o):=by
 refine⟨fun b ys e=>?_,fun b ob u e=>?_⟩
 ·rw[aO (qX e h (by intro z;cases z))];exact e
 ·rw[aO (qX e h (by intro z;cases z))];exact e
section
variable {X:Cx}
end
section
variable {X:Cx} {elt tgt iter:Expr} {ifs:List Expr} {scope:Scope} {cl:List (Str×Addr)} {pos:Pos} {xs ts:List Str} {is:List Nat} {gt:Dt->Ev->Option Ev} {p:Ev->Option Bool} {fe:Ev->Option Bx} {fi:Ev->Option (List Dt)}
def AcS (X:Cx) (D:Addr) (_:Hp) (o1:List Dt) (o:HO):Prop:=∃ us,o=hoS X D us/\(∀ z,z∈us↔Dt.str z∈o1)/\us.Nodup/\(∀ z∈us,z.length<=sizeLine)/\us.length<=o1.length
end
section
variable {X:Cx} {elt tgt iter:Expr} {ifs:List Expr} {scope:Scope} {cl:List (Str×Addr)} {pos:Pos} {xs:List Str} {is:List Nat} {gt:Dt->Ev->Option Ev} {p:Ev->Option Bool} {fe:Ev->Option Bx} {fi:Ev->Option (List Dt)}
variable {e:Expr} {f:Ev->Option Bx} {fs:Ev->Option (List Str)} {p':Pos}
end
end P1
end
section
namespace P1
open PySem PySem.Spec PyProof.Rows L2 S1 S6
section
variable {X:Cx}
def Ts (prog:Program) (w:World) (h:Heap) (a:Addr) (zs:List (List Key×Addr)):Prop:=∃ o es ep t,h.get? a=some o/\o.ExactSet/\o.data=.set es ep t/\es.toList=zs.map (fun z=>(Q0 prog w z.1,(.ref z.2:Value)))/\t.fits es.size=true/\(w.params.followText "set-order" = false->t.led=true)/\(0 < es.size->t.plain=false)
theorem HS {prog:Program} {w:World} {h:Heap}:∀ {zs:List (List Key×Addr)} {l:List (Int×Value)},Paired (TE prog w h) zs l->l=zs.map (fun z=>(Q0 prog w z.1,(.ref z.2:Value)))
 |_,_,.nil=>rfl
 |_,_,.cons r t=>by rw[List.map_cons,<-HS t,r.1]
theorem Ts.of {prog:Program} {w:World} {h:Heap} {a:Addr} {zs:List (List Key×Addr)} (x:Tu prog w h a zs):Ts prog w h a zs:=
 let ⟨o,es,ep,t,e,r,d,q⟩:=x;⟨o,es,ep,t,e,r,d,HS q.rel,q.tok.fits,q.led,q.non⟩
theorem Ts.keep {prog:Program} {w:World} {h h':Heap} {a:Addr} {zs:List (List Key×Addr)} (x:Ts prog w h a zs) (k:∀ o,h.get? a=some o->h'.get? a=some o):Ts prog w h' a zs:=
 let ⟨o,es,ep,t,e,r⟩:=x;⟨o,es,ep,t,k o e,r⟩
end
section
variable {α:Type} [DecidableEq α]
end
section
variable {X:Cx}
def Vj (ks:List Key):Bool:=ks.any fun k=>k.isRight
variable {e:Expr} {f:Ev->Option Bx} {fs:Ev->Option (List (List Key))} {p pos:Pos}
end
end P1
end
section
namespace P1
open PySem PySem.Spec PyProof.Rows L2
def acH (kvs:List (Key×Dt)):Dt->List (Key×Dt)
 |.tup [.str k,d]=>J5 kvs (.inr k) d
 |_=>kvs
def dictOf (out:List Dt):List (Key×Dt):=out.foldl acH []
section
variable {X:Cx} {pins:List (Addr×Obj)} {σ:L2.St} {H:Hp} {s:Shared} {a:Addr} {A:Around} {E:Value->Shared->Prop}
end
section
variable {X:Cx} {kx vx tgt iter:Expr} {ifs:List Expr} {scope:Scope} {cl:List (Str×Addr)} {pos:Pos} {xs ts:List Str} {is:List Nat} {gt:Dt->Ev->Option Ev} {p:Ev->Option Bool} {fk fv:Ev->Option Bx} {fi:Ev->Option (List Dt)}
def AcD (K:PySem.W.Frag) (_:Addr) (H:Hp) (o1:List Dt) (o:HO):Prop:=∃ us,o=.dK us/\gM K H (dictOf o1) us/\us.length<=o1.length
theorem AcD.kp {K:PySem.W.Frag} {D:Addr} {H H':Hp} {o1:List Dt} {o:HO} (k:Kp H H'):AcD K D H o1 o->AcD K D H' o1 o:=fun ⟨us,e,r,z⟩=>⟨us,e,r.kp k,z⟩
end
section
variable {X:Cx} {pins:List (Addr×Obj)} {σ:L2.St} {H:Hp} {s:Shared} {a:Addr} {ks:List (Key×V)} {o:Obj}
end
section
variable {X:Cx} {e elt tgt iter:Expr} {ifs:List Expr} {fd:Ev->Option Bx} {scope:Scope} {cl:List (Str×Addr)} {pos:Pos} {xs ts:List Str} {is:List Nat} {gt:Dt->Ev->Option Ev} {p:Ev->Option Bool} {fe:Ev->Option Bx}
end
section
variable {prog:Program} {w:World} {A:Around} {E:Value->Shared->Prop} {s:Shared}
end
section
variable {X:Cx}
end
section
variable {X:Cx} {e:Expr} {es:List Expr} {fs:Ev->Option (List Bx)} {p px pos spos:Pos} {x y:Str} {k n:Nat} {f:Addr} {fd:FuncData} {ps:List Str} {G:Addr->List (Key×Dt)->List Bx->Option (List (Key×Dt))}
end
section
variable {X:Cx} {pins:List (Addr×Obj)} {σ:L2.St} {H:Hp} {s:Shared}
end
section
variable {X:Cx} {g:Ev->Option Out} {st:List Stmt} {i:Nat}
end
open AutoSeq1 (wpAny_loadPart')
open SeqAt
section
variable {X:Cx} {pins:List (Addr×Obj)} {σ:L2.St} {H:Hp} {s:Shared}
end
section
variable {X:Cx} {o e:Expr} {fo fx:Ev->Option Bx}
end
section
variable {X:Cx} {c:Expr} {body:List Stmt} {t:Ev->Option Bool} {g:Ev->Option Out} {pos:Pos}
end
section
variable {X:Cx} {pins:List (Addr×Obj)} {σ:L2.St} {H:Hp} {s:Shared} {h':Heap}
theorem Vk {t':Nat} {e it:Addr} {xs:List V} (I:L2.Inv X pins σ H s) (k:∀ b o,b≠e->b≠it->s.heap.get? b=some o->h'.get? b=some o) (fe:rG X pins H e) (fi:rG X pins H it)
  (he:∃ o,h'.get? e=some o) (hi:∃ o,h'.get? it=some o) (new:fL X.prog X.w (upd H s.heap.objs.size (.tup xs)) h' s.heap.objs.size (.tup xs)):L2.Inv X pins σ (upd H s.heap.objs.size (.tup xs)) { s with heap:=h',toks:=t' }:=by
 have hf:H s.heap.objs.size=none:=I.hok.fresh (Nat.le_refl _)
 have nd:∀ b u,H b=some u->b≠s.heap.objs.size:=fun b u q z=>by rw[z,hf] at q;cases q
 have ne:∀ b u,H b=some u->b≠e/\b≠it:=fun b u q=>⟨fun z=>(by rw[z,fe.1] at q;cases q),fun z=>(by rw[z,fi.1] at q;cases q)⟩
 have nc:∀ b,b∉[e,it]->b≠e/\b≠it:=fun b hb=>⟨fun z=>hb (by simp[z]),fun z=>hb (by simp[z])⟩
 refine I.step (g':=s.gens) (d':=s.drawn) (ch:=[e,it]) (fun b hb=>?_) (fun b o _ _ hc q _=>k b o (nc b hc).1 (nc b hc).2 q) (fun b o _ _ hc q _=>⟨o.slots,k b o (nc b hc).1 (nc b hc).2 q⟩) (fun b o _ q n=>?_)
  (fun b o hc q=>⟨o,k b o (nc b hc).1 (nc b hc).2 q⟩) (fun b ys q=>?_) (fun b o u q=>?_) (fun b ps q=>⟨#[],?_⟩) (fun m hm=>?_) (fun b u q=>?_) I.bare
 ·rcases List.mem_cons.mp hb with rfl|hb
  ·exact⟨fe.2.2.2.1,fe.2.1,fe.2.2.2.2.1,fe.2.2.2.2.2⟩
  ·cases List.mem_singleton.mp hb
   exact⟨fi.2.2.2.1,fi.2.1,fi.2.2.2.2.1,fi.2.2.2.2.2⟩
 ·rw[aO (Nat.ne_of_lt (Heap.lt_size q))];exact n
 ·rw[aO (nd b _ q)];exact q
 ·rw[aO (nd b _ q)];exact q
 ·rw[aO (nd b _ q),q];simp
 ·obtain⟨o,es,ep,ho,r⟩:=hm
  exact⟨o,es,ep,k _ o (Ne.symm fe.2.1) (Ne.symm fi.2.1) ho,r⟩
 ·by_cases hb:b=s.heap.objs.size
  ·subst hb
   rw[bx] at q;cases q
   exact new
  ·rw[aO hb] at q
   refine (I.hok b u q).stay (fun c v hc w=>k c v ?_ ?_ w) (fun c w=>?_) fun c ys w=>?_
   ·rcases hc with rfl|z
    ·exact (ne _ _ q).1
    ·exact (ne _ _ z).1
   ·rcases hc with rfl|z
    ·exact (ne _ _ q).2
    ·exact (ne _ _ z).2
   ·rw[aO (nd c _ w)];exact w
   ·rw[aO (nd c _ w)];exact w
end
def Ite (K:PySem.W.Frag) (l:Addr):It:=
 ⟨fun i H=>∃ xs x,qw K H l xs/\xs[i]?=some x,fun i H v H'=>∃ p x,H p=none/\(∀ xs,qw K H l xs->xs[i]?=some x)/\v=.ref p/\H'=upd H p (.tup [.int i,x]),fun i H=>∃ xs,qw K H l xs/\xs.length<=i⟩
theorem Ot {P:Program} {w:World} {K:PySem.W.Frag} {elts:List Expr} {x1:Nat} {tpos:Pos} (l e it:Addr) (hne:e≠it) :
  Turn P w K (.Tuple elts x1 tpos) (Ite K l) [e,it] e (fun i h=>(∃ old,IsEnum h e it i old)/\h.IsListIter it l i) where
 mem:=by simp
 obj:=fun i h st b hb=>by
  obtain⟨⟨old,h1⟩,o,h2,_,h3⟩:=st
  rcases List.mem_cons.mp hb with rfl|hb
  ·exact⟨_,h1,fun v z=>by cases z⟩
  ·cases List.mem_singleton.mp hb
   exact⟨o,h2,fun v z=>by rw[h3] at z;cases z⟩
 keep:=fun i h h' st k=>by
  obtain⟨⟨old,h1⟩,h2⟩:=st
  exact⟨⟨old,k e (by simp) _ h1⟩,h2.at fun o q=>k it (by simp) o q⟩
 item:=by
  intro X hP hw hK hc i pins s σ H E I hf st hg
  subst hP hw hK
  obtain⟨⟨old,h1⟩,h2⟩:=st
  obtain⟨xs,x,hq,hx⟩:=hg
  obtain⟨its,rv,p,hz⟩:=I.list hq
  obtain⟨u,hu,ru⟩:=rv.get hx
  have fe:=hf e (by simp)
  have fi:=hf it (by simp)
  refine wpAny_pyNext_enum_item h1 h2 p.isList (x:=u) (by simpa using hu) hne fun h1' ho hit' hT hsz hk=>⟨_,rfl,?_⟩
  refine wpAny_letOwnedTupleGo_enum ho fun h2' aau hsb=>?_
  have elt:e < s.heap.objs.size:=Heap.lt_size h1
  have ilt:it < s.heap.objs.size:=by obtain⟨_,q,_⟩:=h2;exact Heap.lt_size q
  have hT2:h2'.get? s.heap.objs.size=some { cls:=.type "tuple", data:=.seq #[.int i s.toks,u] }:=(hsb.2 _ (Nat.ne_of_gt elt)).trans hT
  have hit2:h2'.IsListIter it l (i+1):=hit'.at fun o q=>(hsb.2 it (Ne.symm hne)).trans q
  refine⟨.ref s.heap.objs.size,upd H s.heap.objs.size (.tup [.int i,x]),Vk (t':=s.toks+1) I (fun b o n1 n2 q=>(hsb.2 b n1).trans (hk b o n1 n2 q)) fe fi ⟨_,aau⟩ (by obtain⟨o,q,_⟩:=hit2;exact⟨o,q⟩) ?_,rfl,⟨_,x,I.hok.fresh (Nat.le_refl _),fun ys hy=>by rw[I.zZ hy hq];exact hx,rfl,rfl⟩,⟨⟨_,by simpa using aau⟩,hit2⟩,fun b hb=>?_⟩
  ·exact⟨by show 2<=sizeLine;decide,[.int i s.toks,u],.cons ⟨_,rfl⟩ (.cons ru .nil),_,hT2,rfl,⟨_,rfl⟩,rfl⟩
  ·rcases List.mem_cons.mp hb with rfl|hb
   ·rw[aO (Nat.ne_of_lt elt)];exact fe.1
   ·cases List.mem_singleton.mp hb
    rw[aO (Nat.ne_of_lt ilt)];exact fi.1
 done:=by
  intro X hP hw hK hc i pins s σ H E I hf st hg
  subst hP hw hK
  obtain⟨⟨old,h1⟩,h2⟩:=st
  obtain⟨xs,hq,hx⟩:=hg
  obtain⟨its,rv,p,hz⟩:=I.list hq
  obtain⟨f0,f1,f2,f3,f4,f5⟩:=hf it (by simp)
  have hl:=rv.length
  exact wpAny_pyNext_enum_end (I.ok.hd hc) h1 h2 p.isList (by simp;omega) fun h' eb=>⟨rfl,I.turned (t':=s.toks) (fun b o hb e=>eb b o hb e) f0 f1 f3 f4 f5⟩
 self:=fun _ _ _ _ _ st h=>by
  obtain⟨⟨old,h1⟩,_⟩:=st
  exact wpAny_pyIter_enum h1 h
def yt (ds:List Dt):List Dt:=(List.range ds.length).zipWith (fun k d=>.tup [.int (k:Nat),d]) ds
theorem El (ds:List Dt):(yt ds).length=ds.length:=by simp[yt]
theorem Ou {ds:List Dt} {i:Nat} {d:Dt} (h:(yt ds)[i]?=some d):∃ c,ds[i]?=some c/\d=.tup [.int (i:Nat),c]:=by
 have hi:i < ds.length:=by
  have:=(List.getElem?_eq_some_iff.mp h).1
  rwa [El] at this
 refine⟨ds[i],by simp[hi],?_⟩
 unfold yt at h
 rw[List.getElem?_zipWith] at h
 simp[hi] at h
 exact h.symm
theorem Yields.enum {K:PySem.W.Frag} {Hs:Hp} {l:Addr} {vs:List V} {ds:List Dt} (h:qw K Hs l vs) (r:aJ K Hs ds vs):Yields K (Ite K l) (yt ds) Hs:=fun i H s=>by
 have h':=s.seq h
 have r':=r.kp (.of s)
 refine⟨fun d e=>?_,fun e=>⟨vs,h',by rw[El] at e;rw[r.length];exact e⟩⟩
 obtain⟨c,ec,rfl⟩:=Ou e
 obtain⟨v,ev,rv⟩:=r'.get ec
 refine⟨⟨vs,v,h',ev⟩,fun x H' y=>?_⟩
 obtain⟨p,x0,hp,hq,rfl,rfl⟩:=y
 have:=hq vs h'
 rw[ev] at this;cases this
 have sm:Same H (upd H p (.tup [.int (i:Nat),v])):=fun b o q=>by rw[aO (bY q hp)];exact q
 refine⟨sm,?_⟩
 simp only[Rep]
 exact⟨p,_,rfl,.inl (.inl bx),aJ.cons (by simp only[Rep]) (aJ.cons (Rep.kp (.of sm) rv) aJ.nil)⟩
section
variable {X:Cx} {elts:List Expr} {x1:Nat} {tpos p pos:Pos} {e:Expr} {fs:Ev->Option (List Bx)}
def iEn (K:PySem.W.Frag) (ta:TA):TI:=fun σ H R=>ta σ H fun vs H1=>∃ l,vs=[.ref l]/\(∃ xs,qw K H1 l xs)/\R (Ite K l) H1
theorem Vl {ta:TA} (hg:Gl X "enumerate") (hm:X.mg "enumerate" = none) (ha:PA X [e] ta) (hs:starEach [e] X.env=[(false,eval e X.env)]:=by rfl):PI X (.Tuple elts x1 tpos) (.Call (.Name "enumerate" p) [e] [] pos) (iEn X.K ta):=by
 intro pins s σ H R I h
 refine Call_ (wR I hg hm boot_enumerate (PyProof.Rows.callWith_type1 (jF (ha pos pins s σ H _ I h) fun us s1 ⟨vs,H1,I1,r1,q1⟩=>?_) hs rfl))
 obtain⟨l,rfl,⟨xs,hq⟩,q⟩:=q1
 obtain⟨u,rfl,ru⟩:=vals1 r1
 cases ru
 obtain⟨its,rv,p,hz⟩:=I1.list hq
 refine call_enumerate_list p.isList fun h' he hit hsz hk=>?_
 refine wpAny_pyIter_enum he ?_
 refine⟨s1.heap.objs.size+1,[s1.heap.objs.size+1,s1.heap.objs.size],_,_,H1,rfl,I1.kept (t':=s1.toks) hk,Ot l _ _ (Nat.ne_of_gt (Nat.lt_succ_self _)),⟨⟨_,he⟩,hit⟩,fun b hb=>?_,q⟩
 rcases List.mem_cons.mp hb with rfl|hb
 ·exact I1.Ni (Nat.le_succ _) (I1.hok.fresh (Nat.le_succ _))
 ·cases List.mem_singleton.mp hb
  exact I1.Ni (Nat.le_refl _) (I1.hok.fresh (Nat.le_refl _))
def HW:List Bx->Option (List Dt)
 |[.z (.lst ds)]=>some (yt ds)
 |_=>none
theorem Q6 (hg:Gl X "enumerate") (hm:X.mg "enumerate" = none) (ha:Z4 X [e] fs) (hs:starEach [e] X.env=[(false,eval e X.env)]:=by rfl):PIF X (.Tuple elts x1 tpos) (.Call (.Name "enumerate" p) [e] [] pos) (fun ρ=>(fs ρ).bind HW):=fun pins s σ H R I q=>by
 refine Vl hg hm ha hs pins s σ H R I ?_
 obtain⟨H0,ρ,ds,E,e,q⟩:=q
 obtain⟨bs,eb,e⟩:=bind_some e
 refine⟨H0,ρ,bs,E,eb,fun vs H1 s1 r1=>?_⟩
 unfold HW at e
 split at e
 ·rename_i ds'
  cases e
  obtain⟨v,rfl,rb⟩:=rep1 r1
  simp only[aU,Rep] at rb
  obtain⟨a,ws,rfl,hq,rs⟩:=rb
  refine⟨a,rfl,⟨ws,hq.sq⟩,q _ _ s1 fun Hs hs hn hf ht=>.enum ?_ (rs.part hf ht)⟩
  rcases hq with⟨o,hq⟩|hq
  ·exact .inl (.inr ⟨o,(hf _ _ _ hq).trans hq⟩)
  ·exact .inr hq
 ·cases e
theorem Q7 (hg:Gl X "enumerate") (hm:X.mg "enumerate" = none) (ha:Tt X [e] fs) (hs:starEach [e] X.env=[(false,eval e X.env)]:=by rfl):QIF X (.Tuple elts x1 tpos) (.Call (.Name "enumerate" p) [e] [] pos) (fun ρ=>(fs ρ).bind HW):=⟨Q6 hg hm ha.run hs⟩
end
section
variable {X:Cx} {e:Expr} {f:Ev->Option Bx} {pos:Pos}
end
section
variable {X:Cx} {e:Expr} {f:Ev->Option Bx} {pos:Pos}
end
section
variable {X:Cx}
end
section
variable {X:Cx} {e:Expr} {f:Ev->Option Bx} {pos:Pos}
end
section
variable {X:Cx} {e ek ev:Expr} {f fk fv:Ev->Option Bx} {pos:Pos} {st:Stmt}
def noG:Ev->Option Out:=fun _=>none
theorem Mg:Qq X st noG:=⟨fun D pins s σ H I q=>by
 obtain⟨H0,ρ,r,E,e,q⟩:=q
 cases e⟩
end
section
variable {X:Cx} {e st:Expr} {f fs:Ev->Option Bx} {pos p2:Pos}
end
section
variable {prog:Program} {w:World} {A:Around} {E:Value->Shared->Prop} {s:Shared}
end
section
variable {prog:Program} {w:World} {A:Around} {E:Value->Shared->Prop} {s:Shared}
end
section
variable {prog:Program} {w:World} {A:Around} {E:Value->Shared->Prop} {s:Shared}
end
section
variable {prog:Program} {w:World} {A:Around} {E:Value->Shared->Prop} {s:Shared}
end
section
variable {prog:Program} {w:World} {A:Around} {E:Value->Shared->Prop} {s:Shared}
end
section
variable {prog:Program} {w:World} {A:Around} {E:Value->Shared->Prop} {s:Shared} {K:Type} [DecidableEq K] {knd:KeyKind prog w K}
end
section
variable {prog:Program} {w:World} {A:Around} {E:Value->Shared->Prop} {s:Shared} {K:Type} [DecidableEq K] {knd:KeyKind prog w K}
end
section
variable {X:Cx} {ea eb:Expr} {fa fb:Ev->Option Bx} {p1 p2 pos1 pos2:Pos}
end
section
variable {X:Cx}
end
theorem Dl {X:Cx} {scope:Scope} {cl:List (Str×Addr)} (xs:List Str) (is:List Nat) (clos:closureFor scope X.env=pure cl:=by with_unfolding_all rfl) (kind:scope.kind=.function:=by rfl) (cell:scope.names.all (fun y=>decide (y.2≠.cell)||(cl.lookup y.1).isNone)=true:=by rfl)
  (names:scope.names.all (fun y=>decide (y.2=.local->scope.names.lookup y.1=some .local))=true:=by decide +kernel) (sub:SubL X.env.cells cl:=by repeat (first|exact trivial|refine⟨rfl,?_⟩))
  (has:(relabel scope X.env).names.all (fun y=>!(y.2==.cell||y.2==.free)||(cl.lookup y.1).isSome||scope.names.contains (y.1,.cell))=true:=by rfl) (cap:Dk X scope cl xs is:=by repeat (first|exact Yj|refine Va rfl (by first|exact .inl rfl|exact .inr rfl) (by first|exact .inl rfl|exact .inr rfl) ⟨_,rfl⟩ ?_)):uT X scope cl xs is:=Yk clos kind cell names sub has cap
theorem nD {N ps:List Str} {sc:Scope} (h1:sc.kind=.function:=by rfl) (h2:sc.isCoroutine=false:=by rfl) (h3:sc.isGenerator=false:=by rfl) (h4:N.Nodup:=by decide +kernel) (h5:N.take ps.length=ps:=by rfl) (h6:∀ x∈ps,sc.names.lookup x=some .local\/sc.names.lookup x=some .cell:=by decide +kernel) (h7:∀ y∈sc.names,y.2≠.free:=by decide +kernel):bB N ps sc:=⟨h1,h2,h3,h4,h5,h6,h7⟩
instance:Inhabited Dt:=⟨.non⟩
theorem bnd {α β:Type} (a:α) (f:α->Option β):(some a).bind f=f a:=(Option.bind_some a f).trans (Eq.refl _)
def hold:Option Prop->Prop
 |none=>True
 |some p=>p
def aX:Option Prop->Option Prop->Option Prop
 |none,q=>q
 |some p,none=>some p
 |some p,some q=>some (p/\q)
def Dm (c:Prop):Option Prop->Option Prop
 |none=>none
 |some p=>some (c->p)
theorem aA {p q:Option Prop} (h:hold (aX p q)):hold p/\hold q:=by
 cases p with
 |none=>exact⟨trivial,h⟩
 |some p=>cases q with
  |none=>exact⟨h,trivial⟩
  |some q=>exact h
theorem jR {c:Prop} {p:Option Prop} (h:hold (Dm c p)) (hc:c):hold p:=by
 cases p with
 |none=>trivial
 |some p=>exact h hc
structure R {α β:Type} (f:Ev->Option β) (ρ:Ev) (c:α->β) where
 v:α
 D:Option Prop
 ok:hold D->f ρ=some (c v)
abbrev zE {α:Type} (e:α->Dt):α->Bx:=fun a=>.z (e a)
abbrev oE {α:Type} (e:α->Dt):List α->Bx:=fun xs=>.o (xs.map e)
abbrev lE {α:Type} (e:α->Dt):List α->Bx:=fun xs=>.l (xs.map e)
abbrev tE:Bool->Bool:=fun b=>b
abbrev iE {α:Type} (e:α->Dt):List α->List Dt:=fun xs=>xs.map e
abbrev eI:Int->Dt:=Dt.int
abbrev eB:Bool->Dt:=Dt.bl
abbrev eS:Str->Dt:=Dt.str
abbrev eL {α:Type} (e:α->Dt):List α->Dt:=fun xs=>.lst (xs.map e)
abbrev eT {α:Type} (e:α->Dt):List α->Dt:=fun xs=>.tup (xs.map e)
abbrev eO {α:Type} (e:α->Dt):Option α->Dt:=fun o=>match o with|none=>.non|some a=>e a
abbrev eP1 {α:Type} (a:α->Dt):α->Dt:=fun x=>.tup [a x]
abbrev Ka {α β:Type} (a:α->Dt) (b:β->Dt):α×β->Dt:=fun x=>.tup [a x.1,b x.2]
abbrev eP3 {α β γ:Type} (a:α->Dt) (b:β->Dt) (c:γ->Dt):α×β×γ->Dt:=fun x=>.tup [a x.1,b x.2.1,c x.2.2]
abbrev eP4 {α β γ δ:Type} (a:α->Dt) (b:β->Dt) (c:γ->Dt) (d:δ->Dt):α×β×γ×δ->Dt:=fun x=>.tup [a x.1,b x.2.1,c x.2.2.1,d x.2.2.2]
structure RL {α:Type} (f:Ev->Option Bx) (ρ:Ev) (e:α->Dt) where
 v:List α
 D:Option Prop
 b:Bx
 lk:uz b=some (v.map e)
 ok:hold D->f ρ=some b
section
variable {α β γ δ:Type} {ρ:Ev} {f fa fb fc:Ev->Option Bx} {fs:Ev->Option (List Bx)} {e:α->Dt} {e':β->Dt}
def qG (a:R f ρ (oE e)):RL f ρ e:=⟨a.v,a.D,_,rfl,a.ok⟩
def xH (a:R f ρ (lE e)):RL f ρ e:=⟨a.v,a.D,_,rfl,a.ok⟩
def Yq (a:R f ρ (zE (eL e))):RL f ρ e:=⟨a.v,a.D,_,rfl,a.ok⟩
def Lp (b:Bx) (ds:List Dt):Prop:=b=.z (.lst ds)\/b=.l ds
theorem Lp.Fy {b:Bx} {ds:List Dt} (h:Lp b ds):uz b=some ds:=by rcases h with rfl|rfl<;>rfl
theorem Lp.get {b:Bx} {ds:List Dt} {i:Nat} (h:Lp b ds) (hi:ρ[i]?=some (some b)):yW ρ i=some b:=by
 rcases h with rfl|rfl<;>(unfold yW;rw[hi])
theorem Lp.lend {b:Bx} {ds:List Dt} (h:Lp b ds):P1.lend b=b:=by rcases h with rfl|rfl<;>rfl
theorem Av {b:Bx} {ds:List Dt} (h:uz b=some ds):Lp (P1.lend b) ds:=by
 cases b with
 |z d=>cases d<;>cases h;exact .inl rfl
 |l d=>cases h;exact .inr rfl
 |o d=>cases h;exact .inr rfl
 |n d=>cases h
 |m d _=>cases h
def aB (i:Nat) (c:α->Bx) (a:α) (h:yW ρ i=some (c a)):R (gv i) ρ c:=⟨a,none,fun _=>h⟩
def gU (i:Nat) (e:α->Dt) (a:List α) {b:Bx} (h:Lp b (a.map e)) (hi:ρ[i]?=some (some b)):RL (gv i) ρ e:=⟨a,none,b,h.Fy,fun _=>h.get hi⟩
def aP (d:Dt) (e:α->Dt) (a:α) (h:d=e a):R (cB d) ρ (zE e):=⟨a,none,fun _=>by rw[h];rfl⟩
def Kc (a:R f ρ (zE e)):R f ρ (zE (eO e)):=⟨some a.v,a.D,a.ok⟩
def Aw {e:α->Dt}:R (cB .non) ρ (zE (eO e)):=⟨none,none,fun _=>rfl⟩
def aaw [Inhabited α] (a:R f ρ (zE (eO e))):R f ρ (zE e):=⟨a.v.getD default,aX a.D (some (a.v.isSome=true)),fun h=>by
 obtain⟨h1,h2⟩:=aA h
 rw[a.ok h1]
 have h2:a.v.isSome=true:=h2
 cases hv:a.v with
 |none=>rw[hv] at h2;cases h2
 |some x=>rfl⟩
def Vm (a:R f ρ (oE e)):R (b1 zO f) ρ (zE (eL e)):=⟨a.v,a.D,fun h=>by simp only[b1,a.ok h,bnd,zO]⟩
def oF (a:R f ρ (zE e)):R (b1 zO f) ρ (zE e):=⟨a.v,a.D,fun h=>by simp only[b1,a.ok h,bnd,zO]⟩
def gF (a:R fa ρ (zE eI)) (b:R fb ρ (zE eI)):R (b2 d8 fa fb) ρ (zE eI):=⟨a.v+b.v,aX a.D b.D,fun h=>by
 obtain⟨h1,h2⟩:=aA h
 simp only[b2,a.ok h1,b.ok h2,bnd,d8]⟩
def aax (a:R fa ρ (zE eI)) (b:R fb ρ (zE eI)):R (b2 subB fa fb) ρ (zE eI):=⟨a.v - b.v,aX a.D b.D,fun h=>by
 obtain⟨h1,h2⟩:=aA h
 simp only[b2,a.ok h1,b.ok h2,bnd,i2]⟩
def Mul (a b:Int):Prop:=(-18446744073709551616 < a/\a < 18446744073709551616)\/(-18446744073709551616 < b/\b < 18446744073709551616)
def Wq (a:R fa ρ (zE eI)) (b:R fb ρ (zE eI)):R (b2 nu fa fb) ρ (zE eI):=⟨a.v * b.v,aX (aX a.D b.D) (some (Mul a.v b.v)),fun h=>by
 obtain⟨h,h3⟩:=aA h
 obtain⟨h1,h2⟩:=aA h
 simp only[b2,a.ok h1,b.ok h2,bnd]
 exact if_pos h3⟩
def pC (n:Int) (hn : -18446744073709551616 < n/\n < 18446744073709551616) (b:R fb ρ (zE eI)):R (b2 nu (cB (.int n)) fb) ρ (zE eI):=⟨n * b.v,b.D,fun h=>by
 simp only[b2,b.ok h,bnd,cB]
 exact if_pos (.inl hn)⟩
def Mh (a:R fa ρ (zE eI)) (n:Int) (hn : -18446744073709551616 < n/\n < 18446744073709551616):R (b2 nu fa (cB (.int n))) ρ (zE eI):=⟨a.v * n,a.D,fun h=>by
 simp only[b2,a.ok h,bnd,cB]
 exact if_pos (.inr hn)⟩
def Yr (a:R fa ρ (zE eI)) (b:R fb ρ (zE eI)):R (b2 qZ fa fb) ρ (zE eI):=⟨a.v / b.v,aX (aX a.D b.D) (some (0 < b.v/\b.v < 1073741824)),fun h=>by
 obtain⟨h,h3⟩:=aA h
 obtain⟨h1,h2⟩:=aA h
 have h3:0 < b.v/\b.v < 1073741824:=h3
 simp only[b2,a.ok h1,b.ok h2,bnd,i2,if_pos h3]⟩
def qH (a:R fa ρ (zE eI)) (n:Int) (hn:0 < n/\n < 1073741824):R (b2 qZ fa (cB (.int n))) ρ (zE eI):=⟨a.v / n,a.D,fun h=>by
 simp only[b2,a.ok h,bnd,i2,cB,if_pos hn]⟩
def Mi (a:R fa ρ (zE eI)) (b:R fb ρ (zE eI)):R (b2 gR fa fb) ρ (zE eI):=⟨a.v % b.v,aX (aX a.D b.D) (some (0 < b.v)),fun h=>by
 obtain⟨h,h3⟩:=aA h
 obtain⟨h1,h2⟩:=aA h
 have h3:0 < b.v:=h3
 simp only[b2,a.ok h1,b.ok h2,bnd,i2,if_pos h3]⟩
def d9 (a:R fa ρ (zE eI)) (n:Int) (hn:0 < n):R (b2 gR fa (cB (.int n))) ρ (zE eI):=⟨a.v % n,a.D,fun h=>by
 simp only[b2,a.ok h,bnd,i2,cB,if_pos hn]⟩
def Ys (a b:Int) (n:Nat) (h:0<=b/\b<=1000/\a.natAbs < 18446744073709551616) (hb:b.toNat=n):R (b2 U4 (cB (.int a)) (cB (.int b))) ρ (zE eI):=⟨a ^ n,none,fun _=>by
 simp only[b2,bnd,cB]
 show ((if 0<=b/\b<=1000/\a.natAbs < 2 ^ 64 then some (Dt.int (a ^ b.toNat)) else none).bind fun d=>some (Bx.z d))=_
 rw[if_pos h,hb]
 rfl⟩
def aay (a:R fa ρ (zE eI)) (b:R fb ρ (zE eI)):R (b2 leB fa fb) ρ (zE eB):=⟨decide (a.v<=b.v),aX a.D b.D,fun h=>by
 obtain⟨h1,h2⟩:=aA h
 simp only[b2,a.ok h1,b.ok h2,bnd,i2]⟩
def acI (a:R fa ρ (zE eI)) (b:R fb ρ (zE eI)):R (b2 gtB fa fb) ρ (zE eB):=⟨decide (b.v < a.v),aX a.D b.D,fun h=>by
 obtain⟨h1,h2⟩:=aA h
 simp only[b2,a.ok h1,b.ok h2,bnd,i2]⟩
def x_ge (a:R fa ρ (zE eI)) (b:R fb ρ (zE eI)):R (b2 geB fa fb) ρ (zE eB):=⟨decide (b.v<=a.v),aX a.D b.D,fun h=>by
 obtain⟨h1,h2⟩:=aA h
 simp only[b2,a.ok h1,b.ok h2,bnd,i2]⟩
def Wr (a:R fa ρ (zE eI)) (b:R fb ρ (zE eI)):R (b2 Tz fa fb) ρ (zE eB):=⟨decide (a.v < b.v),aX a.D b.D,fun h=>by
 obtain⟨h1,h2⟩:=aA h
 simp only[b2,a.ok h1,b.ok h2,bnd,Tz]⟩
def Mj (x y:Str):Bool:=decide (x.cps.toList < y.cps.toList)
def aaz (a:R fa ρ (zE eS)) (b:R fb ρ (zE eS)):R (b2 Tz fa fb) ρ (zE eB):=⟨Mj a.v b.v,aX a.D b.D,fun h=>by
 obtain⟨h1,h2⟩:=aA h
 simp only[b2,a.ok h1,b.ok h2,bnd,Tz,Mj]⟩
end
class Eqs {α:Type} [DecidableEq α] (e:α->Dt) (n:outParam Nat):Prop where
 eq:∀ a b,Dd (e a) (e b)=some (decide (a=b))
 dp:∀ a,vD (e a)<=n
class Non {α:Type} (e:α->Dt):Prop where
 l:∀ a,Dd .non (e a)=some false
 r:∀ a,Dd (e a) .non=some false
instance:Eqs eI 1:=⟨fun a b=>rfl,fun a=>by simp[vD]⟩
instance:Eqs eB 1:=⟨fun a b=>rfl,fun a=>by simp[vD]⟩
instance:Eqs eS 1:=⟨fun a b=>rfl,fun a=>by simp[vD]⟩
instance:Non eI:=⟨fun a=>rfl,fun a=>rfl⟩
instance:Non eB:=⟨fun a=>rfl,fun a=>rfl⟩
instance:Non eS:=⟨fun a=>rfl,fun a=>rfl⟩
section
variable {α β γ δ:Type} [DecidableEq α] [DecidableEq β] [DecidableEq γ] [DecidableEq δ] {e:α->Dt} {e':β->Dt} {e'':γ->Dt} {e3:δ->Dt} {n m k l:Nat}
theorem Ax [Eqs e n]:∀ xs ys:List α,kO (xs.map e) (ys.map e)=some (decide (xs=ys))
 |[],[]=>by simp[kO]
 |[],y::ys=>by simp[kO]
 |x::xs,[]=>by simp[kO]
 |x::xs,y::ys=>by
  simp only[List.map_cons,kO,Eqs.eq,Ax xs ys]
  congr 1
  by_cases h:x=y<;>by_cases h':xs=ys<;>simp[h,h']
theorem Ay [Eqs e n]:∀ xs:List α,rR (xs.map e)<=n
 |[]=>by simp[rR]
 |x::xs=>by
  have:=Eqs.dp (e:=e) x
  have:=Ay xs
  simp only[List.map_cons,rR]
  omega
instance [Eqs e n]:Eqs (eL e) (n+1):=⟨fun a b=>Ax a b,fun a=>by simp only[vD];have:=Ay (e:=e) a;omega⟩
instance [Eqs e n]:Eqs (eT e) (n+1):=⟨fun a b=>Ax a b,fun a=>by simp only[vD];have:=Ay (e:=e) a;omega⟩
instance:Non (eL e):=⟨fun a=>rfl,fun a=>rfl⟩
instance:Non (eT e):=⟨fun a=>rfl,fun a=>rfl⟩
instance:Non (eP1 e):=⟨fun a=>rfl,fun a=>rfl⟩
instance:Non (Ka e e'):=⟨fun a=>rfl,fun a=>rfl⟩
instance:Non (eP3 e e' e''):=⟨fun a=>rfl,fun a=>rfl⟩
instance:Non (eP4 e e' e'' e3):=⟨fun a=>rfl,fun a=>rfl⟩
instance [Eqs e n]:Eqs (eP1 e) (n+1):=⟨fun a b=>by
 simp only[zQ,kO,Eqs.eq,Bool.and_true],fun a=>by
 have:=Eqs.dp (e:=e) a
 simp only[vD,rR];omega⟩
instance [Eqs e n] [Eqs e' m]:Eqs (Ka e e') (max n m+1):=⟨fun a b=>by
 obtain⟨a,a'⟩:=a;obtain⟨b,b'⟩:=b
 simp only[zQ,kO,Eqs.eq,Prod.mk.injEq,Bool.decide_and,Bool.and_true],fun a=>by
 have:=Eqs.dp (e:=e) a.1;have:=Eqs.dp (e:=e') a.2
 simp only[vD,rR];omega⟩
instance [Eqs e n] [Eqs e' m] [Eqs e'' k]:Eqs (eP3 e e' e'') (max n (max m k)+1):=⟨fun a b=>by
 obtain⟨a,a',a2⟩:=a;obtain⟨b,b',b2⟩:=b
 simp only[zQ,kO,Eqs.eq,Prod.mk.injEq,Bool.decide_and,Bool.and_true],fun a=>by
 have:=Eqs.dp (e:=e) a.1;have:=Eqs.dp (e:=e') a.2.1;have:=Eqs.dp (e:=e'') a.2.2
 simp only[vD,rR];omega⟩
instance [Eqs e n] [Eqs e' m] [Eqs e'' k] [Eqs e3 l]:Eqs (eP4 e e' e'' e3) (max n (max m (max k l))+1):=⟨fun a b=>by
 obtain⟨a,a',a2,a3⟩:=a;obtain⟨b,b',b2,b3⟩:=b
 simp only[zQ,kO,Eqs.eq,Prod.mk.injEq,Bool.decide_and,Bool.and_true],fun a=>by
 have:=Eqs.dp (e:=e) a.1;have:=Eqs.dp (e:=e') a.2.1;have:=Eqs.dp (e:=e'') a.2.2.1;have:=Eqs.dp (e:=e3) a.2.2.2
 simp only[vD,rR];omega⟩
instance [Eqs e n] [Non e]:Eqs (eO e) (n+1):=⟨fun a b=>by
 cases a with
 |none=>cases b with
  |none=>exact rfl
  |some b=>exact (Non.l (e:=e) b).trans (by simp)
 |some a=>cases b with
  |none=>exact (Non.r (e:=e) a).trans (by simp)
  |some b=>exact (Eqs.eq (e:=e) a b).trans (by simp),fun a=>by
 cases a with
 |none=>show vD .non<=n+1;simp[vD]
 |some a=>exact Nat.le_succ_of_le (Eqs.dp (e:=e) a)⟩
end
section
variable {α β γ δ:Type} {ρ:Ev} {f fa fb fc:Ev->Option Bx} {p q:Ev->Option Bool} {fs:Ev->Option (List Bx)} {e:α->Dt} {e':β->Dt}
def x_eq [DecidableEq α] {n:Nat} [Eqs e n] (hn:n<=100) (a:R fa ρ (zE e)) (b:R fb ρ (zE e)):R (b2 eqB fa fb) ρ (zE eB):=⟨decide (a.v=b.v),aX a.D b.D,fun h=>by
 obtain⟨h1,h2⟩:=aA h
 have:=Eqs.dp (e:=e) a.v
 simp only[b2,a.ok h1,b.ok h2,bnd,eqB,pA,toD,Bool.false_eq_true,or_self,if_false,Eqs.eq]
 rw[if_pos (by omega)]⟩
def Yt [DecidableEq α] {n:Nat} [Eqs e n] (hn:n<=100) (a:R fa ρ (zE e)) (b:R fb ρ (zE e)):R (b2 Wm fa fb) ρ (zE eB):=⟨!decide (a.v=b.v),aX a.D b.D,fun h=>by
 obtain⟨h1,h2⟩:=aA h
 have:=Eqs.dp (e:=e) a.v
 simp only[b2,a.ok h1,b.ok h2,bnd,Wm,pA,toD,Bool.false_eq_true,or_self,if_false,Eqs.eq]
 rw[if_pos (by omega)]⟩
def Ws (a:R fa ρ (zE (eO e))) (hn:∀ x,J0 (.z (e x))=false):R (b2 Zb fa (cB .non)) ρ (zE eB):=⟨a.v.isNone,a.D,fun h=>by
 simp only[b2,a.ok h,bnd,cB,Zb]
 cases hv:a.v with
 |none=>rfl
 |some x=>simp only[Option.isNone_some,hn]⟩
def sE (a:R fa ρ (zE eB)) (b:R fb ρ (zE eB)):R (uD fa fb) ρ (zE eB):=⟨a.v&&b.v,aX a.D (Dm (a.v=true) b.D),fun h=>by
 obtain⟨h1,h2⟩:=aA h
 simp only[uD,a.ok h1,bnd,Fz]
 cases hv:a.v with
 |true=>simp only[if_true,Bool.true_and];exact b.ok (jR h2 hv)
 |false=>simp only[Bool.false_eq_true,if_false,Bool.false_and]⟩
def Kd (a:R fa ρ (zE eB)):R (tV fa) ρ tE:=⟨a.v,a.D,fun h=>by simp only[tV,a.ok h,bnd,N5]⟩
def Q8 (a:R fa ρ (zE eS)):R (tV fa) ρ tE:=⟨decide (a.v.length≠0),a.D,fun h=>by
 simp only[tV,a.ok h,bnd,N5]
 congr 1
 exact Bool.eq_iff_iff.mpr (by simp)⟩
def aaA (a:R fa ρ (zE (eT e))):R (tV fa) ρ tE:=⟨!a.v.isEmpty,a.D,fun h=>by
 simp only[tV,a.ok h,bnd,N5,List.isEmpty_map]⟩
def sG {g:Bx->Bx->Option Bx} (a:R (b2 g fa fb) ρ (zE eB)):R (HB g fa fb) ρ tE:=⟨a.v,a.D,fun h=>by simp only[HB,a.ok h,bnd,Fz]⟩
def Vn (a:R p ρ tE) (b:R q ρ tE):R (Tv p q) ρ tE:=⟨a.v||b.v,aX a.D (Dm (a.v=false) b.D),fun h=>by
 obtain⟨h1,h2⟩:=aA h
 simp only[Tv,a.ok h1,bnd]
 cases hv:a.v with
 |true=>simp only[if_true,Bool.true_or]
 |false=>simp only[Bool.false_eq_true,if_false,Bool.false_or];exact b.ok (jR h2 hv)⟩
def Az (a:R p ρ tE):R (Af p) ρ tE:=⟨!a.v,a.D,fun h=>by simp only[Af,a.ok h,bnd]⟩
def acJ {g g':Bx->Bx->Option Bx} (ab:R (b2 g fa fb) ρ (zE eB)) (bc:R (b2 g' fb fc) ρ (zE eB)):R (Z6 g g' fa fb fc) ρ (zE eB):=⟨ab.v&&bc.v,aX ab.D (Dm (ab.v=true) bc.D),fun h=>by
 obtain⟨h1,h3⟩:=aA h
 have e1:=ab.ok h1
 simp only[b2] at e1
 obtain⟨x,ex,e1⟩:=bind_some e1
 obtain⟨y,ey,e1⟩:=bind_some e1
 simp only[Z6,ex,ey,bnd,e1,Fz]
 cases hv:ab.v with
 |true=>
  have e2:=bc.ok (jR h3 hv)
  simp only[b2,ey,bnd] at e2
  simp only[if_true,Bool.true_and]
  exact e2
 |false=>simp only[Bool.false_eq_true,if_false,Bool.false_and]⟩
def Vo {c:α->Bx} (t:R p ρ tE) (a:R fa ρ c) (b:R fb ρ c):R (Y9 p fa fb) ρ c:=⟨if t.v=true then a.v else b.v,aX t.D (aX (Dm (t.v=true) a.D) (Dm (t.v=false) b.D)),fun h=>by
 obtain⟨h1,h2⟩:=aA h
 obtain⟨h2,h3⟩:=aA h2
 simp only[Y9,t.ok h1,bnd]
 cases hv:t.v with
 |true=>simp only[if_true];exact a.ok (jR h2 hv)
 |false=>simp only[Bool.false_eq_true,if_false];exact b.ok (jR h3 hv)⟩
end
section
variable {α β γ δ ε:Type} {ρ:Ev} {f fa fb fc fd:Ev->Option Bx} {p q:Ev->Option Bool} {fs:Ev->Option (List Bx)} {e:α->Dt} {e':β->Dt} {e'':γ->Dt} {e3:δ->Dt}
def Ke (e:α->Dt):R (gO yX aK) ρ (zE (eT e)):=⟨[],none,fun _=>rfl⟩
def Gi (a:R fa ρ (zE e)) (b:R fb ρ (zE e')):R (gO yX (aC fa (aC fb aK))) ρ (zE (Ka e e')):=⟨(a.v,b.v),aX a.D b.D,fun h=>by
 obtain⟨h1,h2⟩:=aA h
 simp only[gO,aC,aK,a.ok h1,b.ok h2,bnd];rfl⟩
def mC (e:α->Dt):R aK ρ (fun xs:List α=>xs.map (zE e)):=⟨[],none,fun _=>rfl⟩
def jT (a:R fa ρ (zE e)) (t:R fs ρ (fun xs:List α=>xs.map (zE e))):R (aC fa fs) ρ (fun xs:List α=>xs.map (zE e)):=⟨a.v::t.v,aX a.D t.D,fun h=>by
 obtain⟨h1,h2⟩:=aA h
 simp only[aC,a.ok h1,t.ok h2,bnd,List.map_cons]⟩
theorem HX:∀ xs:List α,FN (xs.map (zE e))=some (xs.map e)
 |[]=>rfl
 |x::xs=>by simp only[List.map_cons,FN,HX xs,bnd]
def q8 (t:R fs ρ (fun xs:List α=>xs.map (zE e))) (hl:t.v.length<=1000):R (gO rQ fs) ρ (oE e):=⟨t.v,t.D,fun h=>by
 simp only[gO,t.ok h,bnd,rQ,List.length_map,if_pos hl,HX]⟩
def at' [Inhabited α] (xs:List α) (i:Int):α:=(Dg xs i).getD default
def In (n:Nat) (i:Int):Prop:=-(n:Int)<=i/\i < n
theorem Gj {xs:List α} {i:Int} (h:In xs.length i):∃ x,Dg xs i=some x:=by
 obtain⟨h1,h2⟩:=h
 unfold Dg Y7
 by_cases h0:0<=i
 ·rw[if_pos h0,if_pos h2]
  exact⟨xs[i.toNat]'(by omega),List.getElem?_eq_getElem (by omega)⟩
 ·rw[if_neg h0,if_pos h1]
  exact⟨xs[(i+xs.length).toNat]'(by omega),List.getElem?_eq_getElem (by omega)⟩
theorem Yu {xs:List α} {i:Int} {x:α} (h:Dg xs i=some x):Dg (xs.map e) i=some (e x):=by
 unfold Dg at h ⊢
 rw[List.length_map]
 obtain⟨j,ej,h⟩:=bind_some h
 rw[ej,bnd,List.getElem?_map,h]
 rfl
theorem Q9 [Inhabited α] {xs:List α} {i:Int} (h:In xs.length i):Dg (xs.map e) i=some (e (at' xs i)):=by
 obtain⟨x,hx⟩:=Gj h
 rw[Yu hx]
 unfold at'
 rw[hx]
 rfl
theorem Vp {b:Bx} {ds:List Dt} {i:Int} (h:uz b=some ds):jx b (.z (.int i))=(Dg ds i).bind fun d=>some (.z d):=by
 cases b with
 |z d=>cases d<;>cases h;rfl
 |l d=>cases h;rfl
 |o d=>cases h;rfl
 |n d=>cases h
 |m d _=>cases h
def kW [Inhabited α] (a:RL fa ρ e) (b:R fb ρ (zE eI)):R (b2 jx fa fb) ρ (zE e):=⟨at' a.v b.v,aX (aX a.D b.D) (some (In a.v.length b.v)),fun h=>by
 obtain⟨h,h3⟩:=aA h
 obtain⟨h1,h2⟩:=aA h
 simp only[b2,a.ok h1,b.ok h2,bnd,Vp a.lk,Q9 (show In a.v.length b.v from h3)]⟩
def Ml [Inhabited α] (a:R fa ρ (zE (eT e))) (b:R fb ρ (zE eI)):R (b2 jx fa fb) ρ (zE e):=⟨at' a.v b.v,aX (aX a.D b.D) (some (In a.v.length b.v)),fun h=>by
 obtain⟨h,h3⟩:=aA h
 obtain⟨h1,h2⟩:=aA h
 simp only[b2,a.ok h1,b.ok h2,bnd,jx,Gd,Q9 (show In a.v.length b.v from h3)]⟩
def ch (x:Str) (i:Int):Str:=⟨#[(Dg x.cps.toList i).getD 0]⟩
def Em (a:R fa ρ (zE eS)) (b:R fb ρ (zE eI)):R (b2 jx fa fb) ρ (zE eS):=⟨ch a.v b.v,aX (aX a.D b.D) (some (In a.v.length b.v)),fun h=>by
 obtain⟨h,h3⟩:=aA h
 obtain⟨h1,h2⟩:=aA h
 obtain⟨x,hx⟩:=Gj (xs:=a.v.cps.toList) (i:=b.v) (show In a.v.length b.v from h3)
 simp only[b2,a.ok h1,b.ok h2,bnd,jx,hx,ch,Option.getD_some]⟩
def sH (a:R fa ρ (zE e)) (g:α->β) (e':β->Dt) (i:Int) (h:∀ x,jx (.z (e x)) (.z (.int i))=some (.z (e' (g x)))):R (b2 jx fa (cB (.int i))) ρ (zE e'):=⟨g a.v,a.D,fun hd=>by
 simp only[b2,a.ok hd,bnd,cB,h]⟩
def cut (xs:List α) (lo hi:Option Int):List α:=(xs.drop (HT.gQ xs.length 0 lo)).take (HT.gQ xs.length xs.length hi - HT.gQ xs.length 0 lo)
theorem Vq (xs:List α) (lo hi:Option Int):cutD (xs.map e) lo hi=(cut xs lo hi).map e:=by
 unfold cutD cut
 rw[List.length_map,List.map_take,List.map_drop]
abbrev pE:Option Int->Option Int:=fun o=>o
def Ra:R uU ρ pE:=⟨none,none,fun _=>rfl⟩
def Rb (a:R fa ρ (zE eI)):R (yq fa) ρ pE:=⟨some a.v,a.D,fun h=>by simp only[yq,a.ok h,bnd,Yg]⟩
variable {fl fh:Ev->Option (Option Int)}
theorem Vr {b:Bx} {ds:List Dt} {lo hi:Option Int} (h:uz b=some ds):slB b lo hi=some (.o (cutD ds lo hi)):=by
 cases b with
 |z d=>cases d<;>cases h;rfl
 |l d=>cases h;rfl
 |o d=>cases h;rfl
 |n d=>cases h
 |m d _=>cases h
def aaB (a:RL fa ρ e) (l:R fl ρ pE) (u:R fh ρ pE):R (Tw fa fl fh) ρ (oE e):=⟨cut a.v l.v u.v,aX a.D (aX l.D u.D),fun h=>by
 obtain⟨h1,h⟩:=aA h
 obtain⟨h2,h3⟩:=aA h
 simp only[Tw,a.ok h1,l.ok h2,u.ok h3,bnd,Vr a.lk,Vq]⟩
def Rc (a:R fa ρ (zE eS)) (l:R fl ρ pE) (u:R fh ρ pE):R (Tw fa fl fh) ρ (zE eS):=⟨Txt.slice a.v l.v u.v,aX a.D (aX l.D u.D),fun h=>by
 obtain⟨h1,h⟩:=aA h
 obtain⟨h2,h3⟩:=aA h
 simp only[Tw,a.ok h1,l.ok h2,u.ok h3,bnd,slB]⟩
def Dp (n:Nat):Prop:=n<=1000000
def pD (a:R fa ρ (zE eS)) (b:R fb ρ (zE eS)):R (b2 d8 fa fb) ρ (zE eS):=⟨a.v++b.v,aX (aX a.D b.D) (some (Dp (a.v.length+b.v.length))),fun h=>by
 obtain⟨h,h3⟩:=aA h
 obtain⟨h1,h2⟩:=aA h
 simp only[b2,a.ok h1,b.ok h2,bnd,d8,if_pos (show a.v.length+b.v.length<=Oc from h3)]⟩
theorem Rf {b b':Bx} {ds ds':List Dt} (h:uz b=some ds) (h':uz b'=some ds') (hl:ds.length+ds'.length<=Oc):d8 b b'=some (.o (ds++ds')):=by
 cases b with
 |z d=>
  cases d<;>cases h
  cases b' with
  |z d'=>cases d'<;>cases h';exact if_pos hl
  |l d'=>cases h';exact if_pos hl
  |o d'=>cases h';exact if_pos hl
  |n d'=>cases h'
  |m d'=>cases h'
 |l d=>
  cases h
  cases b' with
  |z d'=>cases d'<;>cases h';exact if_pos hl
  |l d'=>cases h';exact if_pos hl
  |o d'=>cases h';exact if_pos hl
  |n d'=>cases h'
  |m d'=>cases h'
 |o d=>
  cases h
  cases b' with
  |z d'=>cases d'<;>cases h';exact if_pos hl
  |l d'=>cases h';exact if_pos hl
  |o d'=>cases h';exact if_pos hl
  |n d'=>cases h'
  |m d'=>cases h'
 |n d=>cases h
 |m d _=>cases h
def Yv (a:RL fa ρ e) (b:RL fb ρ e):R (b2 d8 fa fb) ρ (oE e):=⟨a.v++b.v,aX (aX a.D b.D) (some (Dp (a.v.length+b.v.length))),fun h=>by
 obtain⟨h,h3⟩:=aA h
 obtain⟨h1,h2⟩:=aA h
 simp only[b2,a.ok h1,b.ok h2,bnd]
 rw[Rf a.lk b.lk (by rw[List.length_map,List.length_map];exact h3)]
 simp only[oE,List.map_append]⟩
def Rh (a:R fa ρ (zE eS)) (b:R fb ρ (zE eI)):R (b2 nu fa fb) ρ (zE eS):=⟨Txt.mul a.v b.v,aX (aX a.D b.D) (some (b.v<=1000 ∧ -1000<=b.v/\a.v.length<=1000)),fun h=>by
 obtain⟨h,h3⟩:=aA h
 obtain⟨h1,h2⟩:=aA h
 simp only[b2,a.ok h1,b.ok h2,bnd]
 exact if_pos h3⟩
theorem Ri {b:Bx} {ds:List Dt} (h:uz b=some ds):pJ [b]=some (.z (.int ds.length)):=by
 cases b with
 |z d=>cases d<;>cases h;rfl
 |l d=>cases h;rfl
 |o d=>cases h;rfl
 |n d=>cases h
 |m d _=>cases h
theorem Rj {b:Bx} {ds:List Dt} (h:uz b=some ds):Gd b=some ds:=by
 cases b with
 |z d=>cases d<;>cases h;rfl
 |l d=>cases h;rfl
 |o d=>cases h;rfl
 |n d=>cases h
 |m d _=>cases h
def x_len (a:RL fa ρ e):R (gO pJ (aC fa aK)) ρ (zE eI):=⟨(a.v.length:Int),a.D,fun h=>by
 simp only[gO,aC,aK,a.ok h,bnd,Ri a.lk,List.length_map]⟩
def Rk (a:R fa ρ (zE (eT e))):R (gO pJ (aC fa aK)) ρ (zE eI):=⟨(a.v.length:Int),a.D,fun h=>by
 simp only[gO,aC,aK,a.ok h,bnd,pJ,Gd,List.length_map]⟩
def Gk (a:R fa ρ (zE eS)):R (gO pJ (aC fa aK)) ρ (zE eI):=⟨(a.v.length:Int),a.D,fun h=>by
 simp only[gO,aC,aK,a.ok h,bnd,pJ]⟩
def uo (a:RL fa ρ e):R (gO pB (aC fa aK)) ρ (zE (eT e)):=⟨a.v,a.D,fun h=>by
 simp only[gO,aC,aK,a.ok h,bnd,pB,Rj a.lk]⟩
def aaC (a:R fa ρ (zE eI)):R (gO Oi (aC fa aK)) ρ (zE eI):=⟨if a.v < 0 then -a.v else a.v,a.D,fun h=>by
 simp only[gO,aC,aK,a.ok h,bnd,Oi]⟩
def Rm (a:R fa ρ (zE eB)):R (gO Oj (aC fa aK)) ρ (zE eI):=⟨if a.v=true then 1 else 0,a.D,fun h=>by
 simp only[gO,aC,aK,a.ok h,bnd,Oj]⟩
theorem Eo:∀ l:List Bool,Ef (l.map eB)=some l
 |[]=>rfl
 |a::l=>by simp only[List.map_cons,Ef,Eo l,bnd]
def Rn (a:RL fa ρ eB):R (gO allB (aC fa aK)) ρ (zE eB):=⟨a.v.all id,a.D,fun h=>by
 simp only[gO,aC,aK,a.ok h,bnd,allB,a.lk,Eo]⟩
def yu (P:Dt->Bool) (a:R fa ρ (zE e)):R (sy P fa) ρ (zE eB):=⟨P (e a.v),a.D,fun h=>by
 simp only[sy,b1,a.ok h,bnd,pA,toD,Bool.false_eq_true,if_false]⟩
theorem strs_map:∀ l:List Str,Eh (l.map eS)=some l
 |[]=>rfl
 |a::l=>by simp only[List.map_cons,Eh,strs_map l,bnd]
def Gm (s:Str) (a:RL fa ρ eS):R (b1 (uH s) fa) ρ (zE eS):=⟨Txt.join s a.v,aX a.D (some ((a.v.map (·.length)).sum+a.v.length * s.length<=100000)),fun h=>by
 obtain⟨h,h4⟩:=aA h
 simp only[b1,a.ok h,bnd,uH,a.lk,strs_map]
 exact if_pos h4⟩
class Flat {α:Type} (e:α->Dt):Prop where
 f:∀ a,vM (e a)=true
instance:Flat eI:=⟨fun _=>rfl⟩
instance:Flat eB:=⟨fun _=>rfl⟩
instance:Flat eS:=⟨fun _=>rfl⟩
def aaD (a:R fa ρ (zE eS)) (b:R fb ρ (zE eS)):R (b2 inF fa fb) ρ (zE eB):=⟨DY a.v b.v,aX a.D b.D,fun h=>by
 obtain⟨h1,h2⟩:=aA h
 simp only[b2,a.ok h1,b.ok h2,bnd,inF,inB]⟩
end
structure AR {γ:Type} (cA:γ->List Bx->Prop) (fs:Ev->Option (List Bx)) (ρ:Ev) where
 v:γ
 D:Option Prop
 bs:List Bx
 h:cA v bs
 ok:hold D->fs ρ=some bs
section
variable {α β γ δ ε σ:Type} {ρ:Ev} {f fa fb fc fd:Ev->Option Bx} {p q:Ev->Option Bool} {fs:Ev->Option (List Bx)} {e:α->Dt} {e':β->Dt} {e'':γ->Dt} {e3:δ->Dt}
def aN:Unit->List Bx->Prop:=fun _ bs=>bs=[]
def aZ (e:α->Dt) (t:γ->List Bx->Prop):α×γ->List Bx->Prop:=fun x bs=>∃ r,bs=.z (e x.1)::r/\t x.2 r
def aL (e:α->Dt) (t:γ->List Bx->Prop):List α×γ->List Bx->Prop:=fun x bs=>∃ b r,bs=b::r/\uz b=some (x.1.map e)/\t x.2 r
def bA:AR aN aK ρ:=⟨(),none,[],rfl,fun _=>rfl⟩
def cT {t:γ->List Bx->Prop} (a:R fa ρ (zE e)) (r:AR t fs ρ):AR (aZ e t) (aC fa fs) ρ:=⟨(a.v,r.v),aX a.D r.D,_,⟨_,rfl,r.h⟩,fun h=>by
 obtain⟨h1,h2⟩:=aA h
 simp only[aC,a.ok h1,r.ok h2,bnd]⟩
def Dq {t:γ->List Bx->Prop} (a:RL fa ρ e) (r:AR t fs ρ):AR (aL e t) (aC fa fs) ρ:=⟨(a.v,r.v),aX a.D r.D,_,⟨_,_,rfl,a.lk,r.h⟩,fun h=>by
 obtain⟨h1,h2⟩:=aA h
 simp only[aC,a.ok h1,r.ok h2,bnd]⟩
def x_call {cA:γ->List Bx->Prop} {F:List Bx->Option Bx} {n:Nat} {c:α->Bx} {T:γ->α} {Df:γ->Option Prop} (S:∀ v bs,cA v bs->bs.length=n/\(hold (Df v)->F (bs.map lend)=some (c (T v)))) (a:AR cA fs ρ):R (bH n F fs) ρ c:=⟨T a.v,aX a.D (Df a.v),fun h=>by
 obtain⟨h1,h2⟩:=aA h
 obtain⟨h3,h4⟩:=S a.v a.bs a.h
 simp only[bH,a.ok h1,bnd,if_pos h3,h4 h2]⟩
theorem Yw {g:Ev->Option Out} {n:Nat} {bs:List Bx} {c:α->Bx} (x:R g (bs.map some++List.replicate (n - bs.length) none) (fun r=>Out.rt (c r))) (h:hold x.D):eY n g bs=some (c x.v):=by
 unfold eY
 rw[x.ok h]
 rfl
variable {fi:Ev->Option (List Dt)} {gt:Dt->Ev->Option Ev} {fe:Ev->Option Bx} {is:List Nat} {n:Nat}
def aaE (xs:List α) (P:α->Option Prop):Option Prop:=some (∀ x∈xs,hold (P x))
theorem HY {fs:Ev->Option (List Dt)} {ρ1:Ev} {g:α->List Dt} {π:α->Bool}:∀ xs:List α,(∀ x∈xs,∃ ρ2,gt (e x) ρ1=some ρ2/\p ρ2=some (π x)/\(π x=true->fs ρ2=some (g x)))->za gt p fs ρ1 (xs.map e)=some ((xs.filter π).flatMap g)
 |[],_=>rfl
 |x::xs,h=>by
  obtain⟨ρ2,h1,h2,h3⟩:=h x (List.mem_cons_self ..)
  have ih:=HY (g:=g) (π:=π) xs fun y hy=>h y (List.mem_cons_of_mem _ hy)
  cases hp:π x with
  |true=>simp only[List.map_cons,za,h1,bnd,h2,hp,if_true,h3 hp,ih,List.filter_cons,List.flatMap_cons]
  |false=>simp only[List.map_cons,za,h1,bnd,h2,hp,ih,List.filter_cons,Bool.false_eq_true,if_false]
theorem Ia {g:α->β}:∀ xs:List α,xs.flatMap (fun x=>[e' (g x)])=(xs.map g).map e'
 |[]=>rfl
 |x::xs=>by rw[List.flatMap_cons,Ia xs];rfl
theorem Ro {ρ1:Ev} {g:α->β} {π:α->Bool} (xs:List α) (h:∀ x∈xs,∃ ρ2,gt (e x) ρ1=some ρ2/\p ρ2=some (π x)/\(π x=true->fe ρ2=some (.z (e' (g x))))):DW gt p fe ρ1 (xs.map e)=some (((xs.filter π).map g).map e'):=by
 rw[<-Ia]
 exact HY xs fun x hx=>let ⟨ρ2,h1,h2,h3⟩:=h x hx;⟨ρ2,h1,h2,fun hp=>by rw[h3 hp];rfl⟩
theorem comp_map {ρ1:Ev} {g:α->β} (xs:List α) (h:∀ x∈xs,∃ ρ2,gt (e x) ρ1=some ρ2/\fe ρ2=some (.z (e' (g x)))):DW gt uE fe ρ1 (xs.map e)=some ((xs.map g).map e'):=
 (Ro (π:=fun _=>true) xs fun x hx=>let ⟨ρ2,h1,h2⟩:=h x hx;⟨ρ2,h1,rfl,fun _=>h2⟩).trans (by rw[List.filter_eq_self.mpr fun _ _=>rfl])
def sI (it:R fi ρ (iE e)) (ρ2:α->Ev) (hg:∀ x,gt (e x) (nW is ρ++List.replicate n none)=some (ρ2 x)) (b:∀ x,R fe (ρ2 x) (zE e')):R (kE fi gt uE fe is n) ρ (oE e'):=⟨it.v.map fun x=>(b x).v,aX (aX it.D (some (it.v.length<=100000))) (aaE it.v fun x=>(b x).D),fun h=>by
 obtain⟨h,h3⟩:=aA h
 obtain⟨h1,h2⟩:=aA h
 have h3:∀ x∈it.v,hold (b x).D:=h3
 simp only[kE,it.ok h1,bnd,List.length_map,if_pos (show it.v.length<=100000 from h2),comp_map it.v fun x hx=>⟨ρ2 x,hg x,(b x).ok (h3 x hx)⟩]⟩
def Mp (it:R fi ρ (iE e)) (ρ2:α->Ev) (hg:∀ x,gt (e x) (nW is ρ++List.replicate n none)=some (ρ2 x)) (b:∀ x,R fe (ρ2 x) (zE e')) (hb:∀ x,(b x).D=none):R (kE fi gt uE fe is n) ρ (oE e'):=⟨it.v.map fun x=>(b x).v,aX it.D (some (it.v.length<=100000)),fun h=>by
 obtain⟨h1,h2⟩:=aA h
 simp only[kE,it.ok h1,bnd,List.length_map,if_pos (show it.v.length<=100000 from h2),comp_map it.v fun x hx=>⟨ρ2 x,hg x,(b x).ok (by rw[hb x];trivial)⟩]⟩
def aaF (a:RL fa ρ e):R (J3 fa) ρ (iE e):=⟨a.v,a.D,fun h=>by
 have:QF a.b=some (a.v.map e):=by
  have:=a.lk
  revert this
  generalize a.b=b
  generalize a.v.map e=ds
  intro this
  cases b with
  |z d=>cases d<;>cases this;rfl
  |l d=>cases this;rfl
  |o d=>cases this;rfl
  |n d=>cases this
  |m d _=>cases this
 simp only[J3,a.ok h,bnd,this]⟩
def Rp (a:R fa ρ (zE (eT e))):R (J3 fa) ρ (iE e):=⟨a.v,a.D,fun h=>by simp only[J3,a.ok h,bnd,QF]⟩
def chars (x:Str):List Str:=x.cps.toList.map fun c=>⟨#[c]⟩
theorem Rq (x:Str):signs x=(chars x).map eS:=by
 unfold signs chars
 rw[List.map_map]
 rfl
def acK (a:R fa ρ (zE eS)):R (J3 fa) ρ (iE eS):=⟨chars a.v,a.D,fun h=>by simp only[J3,a.ok h,bnd,QF,Rq]⟩
def acL (a:R fa ρ (oE e)):R (itF fa) ρ (iE e):=⟨a.v,a.D,fun h=>by simp only[itF,a.ok h,bnd,XR]⟩
def rng (i:Int) (n:Nat):List Int:=(List.range n).map fun k:Nat=>i+(k:Int)
theorem Mq (i:Int) (n:Nat):FW i n=(rng i n).map eI:=by
 unfold FW rng
 rw[List.map_map]
 rfl
def Rg (j:Int):Prop:=-4611686018427387904<=j/\j < 4611686018427387904
def vR (a:R fa ρ (zE eI)):R (Gf (aC fa aK)) ρ (iE eI):=⟨rng 0 a.v.toNat,aX a.D (some (Rg a.v)),fun h=>by
 obtain⟨h,h4⟩:=aA h
 simp only[Gf,aC,aK,a.ok h,bnd]
 show (if -(2 ^ 62)<=a.v/\a.v < 2 ^ 62 then some (FW 0 a.v.toNat) else none)=_
 exact (if_pos h4).trans (by rw[Mq])⟩
def Yx (n:Int) (m:Nat) (hm:n.toNat=m) (hn:Rg n):R (Gf (aC (cB (.int n)) aK)) ρ (iE eI):=⟨rng 0 m,none,fun _=>by
 simp only[Gf,aC,aK,bnd,cB]
 show (if -(2 ^ 62)<=n/\n < 2 ^ 62 then some (FW 0 n.toNat) else none)=_
 exact (if_pos hn).trans (by rw[Mq,hm])⟩
end
section
variable {α β γ δ ε σ τ:Type} {ρ:Ev} {f fa fb fc fd:Ev->Option Bx} {p q:Ev->Option Bool} {fs:Ev->Option (List Bx)} {e:α->Dt} {e':β->Dt} {g g1 g2 k:Ev->Option Out} {cO:γ->Out} {gt:Dt->Ev->Option Ev}
theorem qI {ρ':Ev} (h:g1 ρ=some (.nx ρ')):aH g1 k ρ=k ρ':=by
 unfold aH
 rw[h]
 rfl
def dD (x:R (aH g (aH g1 k)) ρ cO):R (aH (aH g g1) k) ρ cO:=⟨x.v,x.D,fun h=>by
 rw[<-x.ok h]
 unfold aH
 cases g ρ with
 |none=>rfl
 |some o=>cases o<;>rfl⟩
def fX (x:R k ρ cO):R (aH jg k) ρ cO:=⟨x.v,x.D,fun h=>x.ok h⟩
def fZ {is:List Nat} (x:γ) (h:cO x=.nx (kill is ρ)):R (jh is) ρ cO:=⟨x,none,fun _=>by rw[h];rfl⟩
def d7 {c:α->Bx} (inj:α->γ) (a:R f ρ c) (h:∀ x,cO (inj x)=.rt (c x)) (hc:∀ x,Qt (c x)=some (.rt (c x))):R (aH (jj f) k) ρ cO:=⟨inj a.v,a.D,fun hd=>by
 have:jj f ρ=some (.rt (c a.v)):=by unfold jj;rw[a.ok hd,bnd,hc]
 unfold aH
 rw[this,h]
 rfl⟩
def Rr {c:α->Bx} (i:Nat) (inj:α->γ) (a:α) (hi:ρ[i]?=some (some (c a))) (h:∀ x,cO (inj x)=.rt (c x)) (hc:∀ x,Qt (c x)=some (.rt (c x))):R (aH (FP i) k) ρ cO:=⟨inj a,none,fun hd=>by
 have:FP i ρ=some (.rt (c a)):=by unfold FP;rw[hi];exact hc a
 unfold aH
 rw[this,h]
 rfl⟩
def bR {c:α->Bx} (i:Nat) (a:R f ρ c) (hc:∀ x,Qu ρ i (c x)=some (ρ.set i (some (c x)))) (K:∀ x,R k (ρ.set i (some (c x))) cO):R (aH (setG i f) k) ρ cO:=⟨(K a.v).v,aX a.D (K a.v).D,fun hd=>by
 obtain⟨h1,h2⟩:=aA hd
 rw[qI (ρ':=ρ.set i (some (c a.v))) (by unfold setG;rw[a.ok h1,bnd,hc,bnd])]
 exact (K a.v).ok h2⟩
def Wt (a:R f ρ (zE e)) (ρ2:α->Ev) (hg:∀ x,gt (e x) ρ=some (ρ2 x)) (K:∀ x,R k (ρ2 x) cO):R (aH (U9 gt f) k) ρ cO:=⟨(K a.v).v,aX a.D (K a.v).D,fun hd=>by
 obtain⟨h1,h2⟩:=aA hd
 rw[qI (ρ':=ρ2 a.v) (by unfold U9;rw[a.ok h1,bnd];simp only[hg,bnd])]
 exact (K a.v).ok h2⟩
def Mr (i:Nat) (xs:List α) (hi:ρ[i]?=some (some (.o (xs.map e)))) (a:R f ρ (zE e)) (K:∀ ys:List α,R k (ρ.set i (some (.o (ys.map e)))) cO):R (aH (Ol i f) k) ρ cO:=⟨(K (xs++[a.v])).v,aX (aX a.D (some (Dp xs.length))) (K (xs++[a.v])).D,fun hd=>by
 obtain⟨h1,h3⟩:=aA hd
 obtain⟨h1,h2⟩:=aA h1
 have h2:xs.length<=1000000:=h2
 rw[qI (ρ':=ρ.set i (some (.o ((xs++[a.v]).map e)))) (by
  unfold Ol
  rw[a.ok h1,bnd]
  simp only[Ux,hi,List.length_map,List.map_append,List.map_cons,List.map_nil]
  rw[if_pos (Nat.lt_of_le_of_lt h2 (by decide))])]
 exact (K _).ok h3⟩
def uI (t:R p ρ tE) (a:R (aH g1 k) ρ cO) (b:R (aH g2 k) ρ cO):R (aH (Dc p g1 g2) k) ρ cO:=⟨if t.v=true then a.v else b.v,aX t.D (aX (Dm (t.v=true) a.D) (Dm (t.v=false) b.D)),fun hd=>by
 obtain⟨h1,h2⟩:=aA hd
 obtain⟨h2,h3⟩:=aA h2
 have e1:∀ c,t.v=c->aH (Dc p g1 g2) k ρ=aH (if c=true then g1 else g2) k ρ:=fun c hc=>by
  unfold aH Dc
  rw[t.ok h1,bnd,hc]
  cases c<;>rfl
 cases hv:t.v with
 |true=>rw[e1 true hv];simp only[if_true];exact a.ok (jR h2 hv)
 |false=>rw[e1 false hv];simp only[Bool.false_eq_true,if_false];exact b.ok (jR h3 hv)⟩
def Rt (E:σ->Ev) (t:R p ρ tE) (a:R g1 ρ (fun s=>Out.nx (E s))) (b:R g2 ρ (fun s=>Out.nx (E s))) (K:∀ s,R k (E s) cO):R (aH (Dc p g1 g2) k) ρ cO:=⟨(K (if t.v=true then a.v else b.v)).v,aX (aX t.D (aX (Dm (t.v=true) a.D) (Dm (t.v=false) b.D))) (K (if t.v=true then a.v else b.v)).D,fun hd=>by
 obtain⟨h,h4⟩:=aA hd
 obtain⟨h1,h2⟩:=aA h
 obtain⟨h2,h3⟩:=aA h2
 rw[qI (ρ':=E (if t.v=true then a.v else b.v)) (by
  unfold Dc
  rw[t.ok h1,bnd]
  cases hv:t.v with
  |true=>simp only[if_true];exact a.ok (jR h2 hv)
  |false=>simp only[Bool.false_eq_true,if_false];exact b.ok (jR h3 hv))]
 exact (K _).ok h4⟩
def vU (step:σ->α->σ) (P:σ->α->Option Prop):List α->σ->Prop
 |[],_=>True
 |x::xs,s=>hold (P s x)/\vU step P xs (step s x)
theorem Ba {gb:Ev->Option Out} (E:σ->Ev) (ρ2:σ->α->Ev) (hg:∀ s x,gt (e x) (E s)=some (ρ2 s x)) (body:∀ s x,R gb (ρ2 s x) (fun s=>Out.nx (E s))):∀ (xs:List α) (s:σ),vU (fun s x=>(body s x).v) (fun s x=>(body s x).D) xs s->yZ gt gb (xs.map e) (E s)=some (.nx (E (xs.foldl (fun s x=>(body s x).v) s)))
 |[],s,_=>rfl
 |x::xs,s,h=>by
  simp only[List.map_cons,yZ,hg,bnd,(body s x).ok h.1,List.foldl_cons]
  exact Ba E ρ2 hg body xs _ h.2
variable {fi:Ev->Option (List Dt)} {gb:Ev->Option Out}
def Bb (E:σ->Ev) (s0:σ) (hE:ρ=E s0) (it:R fi ρ (iE e)) (ρ2:σ->α->Ev) (hg:∀ s x,gt (e x) (E s)=some (ρ2 s x)) (body:∀ s x,R gb (ρ2 s x) (fun s=>Out.nx (E s))) (K:∀ s,R k (E s) cO):R (aH (pL fi gt gb) k) ρ cO:=⟨(K (it.v.foldl (fun s x=>(body s x).v) s0)).v,aX (aX it.D (some (vU (fun s x=>(body s x).v) (fun s x=>(body s x).D) it.v s0))) (K (it.v.foldl (fun s x=>(body s x).v) s0)).D,fun hd=>by
 obtain⟨h,h4⟩:=aA hd
 obtain⟨h1,h2⟩:=aA h
 rw[qI (ρ':=E (it.v.foldl (fun s x=>(body s x).v) s0)) (by
  unfold pL
  rw[it.ok h1,bnd]
  subst hE
  exact Ba E ρ2 hg body it.v s0 h2)]
 exact (K _).ok h4⟩
def Yy (E:σ->Ev) (s0:σ) (hE:ρ=E s0) (it:R fi ρ (iE e)) (ρ2:σ->α->Ev) (hg:∀ s x,gt (e x) (E s)=some (ρ2 s x)) (body:∀ s x,R gb (ρ2 s x) (fun s=>Out.nx (E s))) (hb:∀ s x,(body s x).D=none) (K:∀ s,R k (E s) cO):R (aH (pL fi gt gb) k) ρ cO:=⟨(K (it.v.foldl (fun s x=>(body s x).v) s0)).v,aX it.D (K (it.v.foldl (fun s x=>(body s x).v) s0)).D,fun hd=>by
 obtain⟨h1,h4⟩:=aA hd
 have h2:∀ (xs:List α) (s:σ),vU (fun s x=>(body s x).v) (fun s x=>(body s x).D) xs s:=fun xs=>by
  induction xs with
  |nil=>intro s;trivial
  |cons x xs ih=>intro s;exact⟨by show hold (body s x).D;rw[hb s x];trivial,ih _⟩
 rw[qI (ρ':=E (it.v.foldl (fun s x=>(body s x).v) s0)) (by
  unfold pL
  rw[it.ok h1,bnd]
  subst hE
  exact Ba E ρ2 hg body it.v s0 (h2 _ _))]
 exact (K _).ok h4⟩
inductive Kf (σ τ:Type) where
 |nx (s:σ)|rt (r:τ)|bk (s:σ)|ct (s:σ)
def cC (E:σ->Ev) (c:τ->Bx):Kf σ τ->Out
 |.nx s=>.nx (E s)
 |.rt r=>.rt (c r)
 |.bk s=>.bk (E s)
 |.ct s=>.ct (E s)
def uW (step:σ->α->Kf σ τ):List α->σ->Kf σ τ
 |[],s=>.nx s
 |x::xs,s=>match step s x with
  |.nx s'=>uW step xs s'
  |.ct s'=>uW step xs s'
  |.bk s'=>.nx s'
  |.rt r=>.rt r
def Ep (step:σ->α->Kf σ τ) (P:σ->α->Option Prop):List α->σ->Prop
 |[],_=>True
 |x::xs,s=>hold (P s x)/\match step s x with
  |.nx s'=>Ep step P xs s'
  |.ct s'=>Ep step P xs s'
  |.bk _=>True
  |.rt _=>True
theorem Gn {c:τ->Bx} (E:σ->Ev) (ρ2:σ->α->Ev) (hg:∀ s x,gt (e x) (E s)=some (ρ2 s x)) (body:∀ s x,R gb (ρ2 s x) (cC E c)):∀ (xs:List α) (s:σ),Ep (fun s x=>(body s x).v) (fun s x=>(body s x).D) xs s->yZ gt gb (xs.map e) (E s)=some (cC E c (uW (fun s x=>(body s x).v) xs s))
 |[],s,_=>rfl
 |x::xs,s,h=>by
  obtain⟨h1,h2⟩:=h
  dsimp only at h2
  simp only[List.map_cons,yZ,hg,bnd,(body s x).ok h1,uW]
  revert h2
  cases (body s x).v with
  |nx s'=>intro h2;exact Gn E ρ2 hg body xs s' h2
  |ct s'=>intro h2;exact Gn E ρ2 hg body xs s' h2
  |bk s'=>intro _;rfl
  |rt r=>intro _;rfl
theorem Bc (step:σ->α->Kf σ τ):∀ (xs:List α) (s:σ),(∃ s',uW step xs s=.nx s')\/∃ r,uW step xs s=.rt r
 |[],s=>.inl ⟨s,rfl⟩
 |x::xs,s=>by
  unfold uW
  cases step s x with
  |nx s'=>exact Bc step xs s'
  |ct s'=>exact Bc step xs s'
  |bk s'=>exact .inl ⟨s',rfl⟩
  |rt r=>exact .inr ⟨r,rfl⟩
def behind (r:Kf σ τ) (inj:τ->γ) (K:σ->γ):γ:=match r with
 |.rt r=>inj r
 |.nx s=>K s
 |.bk s=>K s
 |.ct s=>K s
def Ms (r:Kf σ τ) (K:σ->Prop):Prop:=match r with
 |.rt _=>True
 |.nx s=>K s
 |.bk s=>K s
 |.ct s=>K s
def Vs (r:Kf σ τ) (K:σ->Option Prop):Option Prop:=some (Ms r fun s=>hold (K s))
def R.to {α β:Type} {f:Ev->Option β} {ρ:Ev} {c:α->β} (x:R f ρ c) (v':α) (D':Option Prop) (hv:x.v=v':=by kernel_rfl) (hD:x.D=D':=by kernel_rfl):R f ρ c:=⟨v',D',fun h=>by
 subst hv hD
 exact x.ok h⟩
def Yz {c:τ->Bx} (E:σ->Ev) (s0:σ) (hE:ρ=E s0) (it:R fi ρ (iE e)) (ρ2:σ->α->Ev) (hg:∀ s x,gt (e x) (E s)=some (ρ2 s x)) (body:∀ s x,R gb (ρ2 s x) (cC E c)) (inj:τ->γ) (hj:∀ r,cO (inj r)=.rt (c r)) (K:∀ s,R k (E s) cO):R (aH (pL fi gt gb) k) ρ cO:=⟨behind (uW (fun s x=>(body s x).v) it.v s0) inj fun s=>(K s).v,aX (aX it.D (some (Ep (fun s x=>(body s x).v) (fun s x=>(body s x).D) it.v s0))) (Vs (uW (fun s x=>(body s x).v) it.v s0) fun s=>(K s).D),fun hd=>by
 obtain⟨h,h4⟩:=aA hd
 obtain⟨h1,h2⟩:=aA h
 have e1:pL fi gt gb ρ=some (cC E c (uW (fun s x=>(body s x).v) it.v s0)):=by
  unfold pL
  rw[it.ok h1,bnd]
  subst hE
  exact Gn E ρ2 hg body it.v s0 h2
 rcases Bc (fun s x=>(body s x).v) it.v s0 with⟨s',es⟩|⟨r,es⟩
 ·rw[es] at e1 h4 ⊢
  rw[qI e1]
  exact (K s').ok h4
 ·rw[es] at e1 ⊢
  show aH (pL fi gt gb) k ρ=some (cO (inj r))
  unfold aH
  rw[e1,hj]
  rfl⟩
class Ky {κ:Type} (c:κ->Key):Prop where
 inj:∀ a b,c a=c b->a=b
abbrev kS:Str->Key:=Sum.inr
abbrev kI:Int->Key:=Sum.inl
instance:Ky kS:=⟨fun _ _ h=>by cases h;rfl⟩
instance:Ky kI:=⟨fun _ _ h=>by cases h;rfl⟩
abbrev mE (e:α->Dt):List (Str×α)->Bx:=fun m=>.m (m.map fun q=>(kS q.1,e q.2)) none
abbrev nE (e:α->Dt):List (Str×α)->Bx:=fun m=>.n (m.map fun q=>(kS q.1,e q.2))
section
variable {κ:Type} [DecidableEq κ] {c:κ->Key}
def look [Inhabited α] (m:List (κ×α)) (x:κ):α:=((m.find? fun q=>decide (q.1=x)).map (·.2)).getD default
def has (m:List (κ×α)) (x:κ):Bool:=m.any fun q=>decide (q.1=x)
def put (m:List (κ×α)) (x:κ) (a:α):List (κ×α):=if has m x=true then m.map (fun q=>if q.1=x then (q.1,a) else q) else m++[(x,a)]
theorem Wu [Ky c] (a b:κ):decide (c a=c b)=decide (a=b):=by
 by_cases h:a=b
 ·rw[h];simp
 ·rw[decide_eq_false h,decide_eq_false fun z=>h (Ky.inj (c:=c) _ _ z)]
theorem Ru [Ky c] (m:List (κ×α)) (x:κ):Aq (m.map fun q=>(c q.1,e q.2)) (c x)=((m.find? fun q=>decide (q.1=x)).map (·.2)).map e:=by
 unfold Aq
 rw[List.find?_map]
 simp only[Option.map_map,Function.comp_def,Wu]
theorem Rv [Ky c] [Inhabited α] {m:List (κ×α)} {x:κ} (h:has m x=true):Aq (m.map fun q=>(c q.1,e q.2)) (c x)=some (e (look m x)):=by
 rw[Ru]
 unfold look
 unfold has at h
 rw[List.any_eq_true] at h
 obtain⟨q,hq,hx⟩:=h
 cases hf:m.find? fun q=>decide (q.1=x) with
 |none=>exact absurd hx (by simpa using List.find?_eq_none.mp hf q hq)
 |some q=>rfl
theorem Vt [Ky c] (m:List (κ×α)) (x:κ) (a:α):J5 (m.map fun q=>(c q.1,e q.2)) (c x) (e a)=(put m x a).map fun q=>(c q.1,e q.2):=by
 unfold J5 put has
 rw[List.any_map]
 simp only[Function.comp_def,Wu]
 by_cases h:(m.any fun q=>decide (q.1=x))=true
 ·rw[if_pos h,if_pos h]
  rw[List.map_map,List.map_map]
  refine List.map_congr_left fun q _=>?_
  simp only[Function.comp]
  by_cases hq:q.1=x
  ·simp[hq]
  ·have h':¬ c q.1=c x:=fun z=>hq (Ky.inj (c:=c) _ _ z)
   simp[hq,h']
 ·rw[if_neg h,if_neg h]
  simp
end
theorem Ib:∀ m:List (Str×α),Oo (m.map fun q=>(kS q.1,e q.2))=some (m.map (·.1))
 |[]=>rfl
 |q::m=>by rw[List.map_cons,Oo,Ib m,bnd];rfl
def YB [Inhabited α] (a:R fa ρ (nE e)) (b:R fb ρ (zE eS)):R (b2 Ek fa fb) ρ (zE e):=⟨look a.v b.v,aX (aX a.D b.D) (some (has a.v b.v=true)),fun h=>by
 obtain⟨h,h3⟩:=aA h
 obtain⟨h1,h2⟩:=aA h
 simp only[b2,a.ok h1,b.ok h2,bnd,Ek,Wn,Rv (c:=kS) (show has a.v b.v=true from h3)]⟩
def YC (e:α->Dt):R (fun _=>some (.m [] none)) ρ (mE e):=⟨[],none,fun _=>rfl⟩
def Vu (a:R fa ρ (nE e)):R (gO Ar (aC fa aK)) ρ (oE eS):=⟨oA (a.v.map (·.1)),aX a.D (some (a.v.length < 64)),fun h=>by
 obtain⟨h,h4⟩:=aA h
 simp only[gO,aC,aK,a.ok h,bnd,Ar,nE,Ib,List.length_map,if_pos (show a.v.length < 64 from h4),List.map_map]⟩
end
section
variable {α β:Type} {ρ:Ev} {fa f:Ev->Option Bx} {fs:Ev->Option (List Str)} {fi:Ev->Option (List Dt)} {e:α->Dt}
theorem Wv (n:Nat):∃ m,m=n:=⟨n,rfl⟩
noncomputable def kN (n:Nat):Nat:=Classical.choose (Wv n)
theorem Ie (n:Nat):kN n=n:=Classical.choose_spec (Wv n)
noncomputable def YD (n:Int) (m:Nat) (hm:n.toNat=m) (hn:Rg n):R (Gf (aC (cB (.int n)) aK)) ρ (iE eI):=⟨rng 0 (kN m),none,fun h=>by rw[Ie];exact (Yx n m hm hn).ok h⟩
end
end P1
end
section
namespace P1
open PySem PySem.Spec PyProof.Rows L2 S1 S6
class oG {α:Type} (e:α->Dt) where
 k:α->Key
 ok:∀ a,aas (e a)=some (k a)
 inj:∀ a b,k a=k b->a=b
 same:∀ a b,Ma (k a) (k b)=true
instance:oG eI:=⟨fun i=>.inl i,fun _=>rfl,fun a b h=>by cases h;rfl,fun _ _=>rfl⟩
instance:oG eS:=⟨fun i=>.inr i,fun _=>rfl,fun a b h=>by cases h;rfl,fun _ _=>rfl⟩
class Ww {α:Type} (e:α->Dt) where
 k:α->List Key
 ok:∀ a,Mf (e a)=some (k a)
 inj:∀ a b,k a=k b->a=b
 shp:∀ a b,Vh (k a) (k b)=true
 ne:∀ a,(k a).isEmpty=false
class YF {α:Type} (e:α->Dt) [Ww e]:Prop where
 tx:∀ a,Vj (Ww.k e a)=true
section
variable {α β γ δ:Type} {e:α->Dt} {e':β->Dt} {e'':γ->Dt} {e3:δ->Dt}
instance [oG e] [oG e']:Ww (Ka e e'):=⟨fun q=>[oG.k e q.1,oG.k e' q.2],fun q=>by simp only[Mf,HN,oG.ok,bnd],fun a b h=>by
 simp only[List.cons.injEq,and_true] at h
 exact Prod.ext (oG.inj _ _ h.1) (oG.inj _ _ h.2),fun a b=>by simp[Vh,oG.same],fun _=>rfl⟩
instance [oG e] [oG e'] [oG e'']:Ww (eP3 e e' e''):=⟨fun q=>[oG.k e q.1,oG.k e' q.2.1,oG.k e'' q.2.2],fun q=>by simp only[Mf,HN,oG.ok,bnd],fun a b h=>by
 simp only[List.cons.injEq,and_true] at h
 exact Prod.ext (oG.inj _ _ h.1) (Prod.ext (oG.inj _ _ h.2.1) (oG.inj _ _ h.2.2)),fun a b=>by simp[Vh,oG.same],fun _=>rfl⟩
instance [oG e] [oG e'] [oG e''] [oG e3]:Ww (eP4 e e' e'' e3):=⟨fun q=>[oG.k e q.1,oG.k e' q.2.1,oG.k e'' q.2.2.1,oG.k e3 q.2.2.2],fun q=>by simp only[Mf,HN,oG.ok,bnd],fun a b h=>by
 simp only[List.cons.injEq,and_true] at h
 exact Prod.ext (oG.inj _ _ h.1) (Prod.ext (oG.inj _ _ h.2.1) (Prod.ext (oG.inj _ _ h.2.2.1) (oG.inj _ _ h.2.2.2))),fun a b=>by simp[Vh,oG.same],fun _=>rfl⟩
instance [oG e]:YF (Ka e eS):=⟨fun a=>by simp[Ww.k,Vj,oG.k]⟩
instance [oG e] [oG e']:YF (eP3 e eS e'):=⟨fun a=>by simp[Ww.k,Vj,oG.k]⟩
instance [oG e] [oG e'] [oG e'']:YF (eP4 e eS e' e''):=⟨fun a=>by simp[Ww.k,Vj,oG.k]⟩
variable {ρ:Ev} {fa f:Ev->Option Bx} {fs:Ev->Option (List (List Key))}
end
end P1
end
section
namespace P1
open PySem PySem.Spec PyProof.Rows L2
section
variable {α β γ:Type} {ρ:Ev} {fa fb fd f fk fv:Ev->Option Bx} {fs:Ev->Option (List Bx)} {fi:Ev->Option (List Dt)} {e:α->Dt} {e':β->Dt} {g k:Ev->Option Out} {cO:γ->Out} {gt:Dt->Ev->Option Ev} {p:Ev->Option Bool} {is:List Nat} {n:Nat}
abbrev mW (w:Option Addr) (e:α->Dt):List (Str×α)->Bx:=fun m=>.m (m.map fun q=>(kS q.1,e q.2)) w
def Vv (w:Option Addr) (i:Nat) (m:List (Str×α)) (hi:ρ[i]?=some (some (mW w e m))) (a:R fa ρ (zE e)) (b:R fb ρ (zE eS)) (K:∀ m':List (Str×α),R k (ρ.set i (some (mW w e m'))) cO):R (aH (QX i fa fb) k) ρ cO:=⟨(K (put m b.v a.v)).v,aX (aX (aX a.D b.D) (some (m.length < 1000))) (K (put m b.v a.v)).D,fun hd=>by
 obtain⟨h,h4⟩:=aA hd
 obtain⟨h,h3⟩:=aA h
 obtain⟨h1,h2⟩:=aA h
 rw[qI (ρ':=ρ.set i (some (mW w e (put m b.v a.v)))) (by
  unfold QX
  rw[a.ok h1,bnd,b.ok h2,bnd]
  simp only[HF,Wn,bnd,hi,mW,List.length_map,if_pos (show m.length < 1000 from h3),Vt])]
 exact (K _).ok h4⟩
end
section
variable {α:Type} {ρ:Ev} {fa fb:Ev->Option Bx} {e:α->Dt}
end
end P1
end
section
namespace P1
open PySem PySem.Spec PyProof.Rows L2 S1 S6
section
variable {ρ:Ev} {fa:Ev->Option Bx}
def kT (xs:List Str):List Key:=xs.map Sum.inr
def acM (a b:List Str):Bool:=acC (kT a) (kT b)
end
section
variable {α:Type} {ρ:Ev} {f:Ev->Option Bx} {e:α->Dt}
theorem map_some (e:α->Dt) (xs:List α):(xs.map some).map (eO e)=xs.map e:=by rw[List.map_map];rfl
end
end P1
end
section
namespace P1
open PySem PySem.Spec PyProof.Rows L2
section
variable {α:Type} {k g:Ev->Option Out} {ρ:Ev} {cO:α->Out}
end
section
variable {α:Type} {e:α->Dt} {ρ:Ev} {fa fb:Ev->Option Bx}
end
section
variable {σ τ γ:Type} {p:Ev->Option Bool} {gb k:Ev->Option Out} {ρ:Ev} {cO:γ->Out}
end
section
variable {α:Type} {e:α->Dt} {ρ:Ev} {fa:Ev->Option Bx}
def enF (fs:Ev->Option (List Bx)):Ev->Option (List Dt):=fun ρ=>(fs ρ).bind HW
def uJ (xs:List α):List (Int×α):=(List.range xs.length).zipWith (fun (k:Nat) x=>((k:Int),x)) xs
theorem Ov (xs:List α):yt (xs.map e)=(uJ xs).map (Ka eI e):=by
 unfold yt uJ
 rw[List.length_map,List.zipWith_map_right,List.map_zipWith]
def YG (a:R fa ρ (zE (eL e))):R (enF (aC fa aK)) ρ (iE (Ka eI e)):=⟨uJ a.v,a.D,fun h=>by
 simp only[enF,aC,aK,a.ok h,bnd,zE,eL,HW,Ov]⟩
end
section
variable {α β σ τ:Type}
theorem Mt {step:σ->α->σ} {P:σ->α->Option Prop} (I:Nat->σ->Prop):∀ (xs:List α) (m:Nat) (s0:σ),I m s0->(∀ k x s,xs[k]?=some x->I (m+k) s->hold (P s x)/\I (m+k+1) (step s x))->vU step P xs s0/\I (m+xs.length) (xs.foldl step s0)
 |[],m,s0,h0,_=>⟨trivial,h0⟩
 |x::xs,m,s0,h0,hs=>by
  obtain⟨h1,h2⟩:=hs 0 x s0 rfl h0
  have:=Mt I xs (m+1) (step s0 x) h2 fun k y s e h=>by
   have:=hs (k+1) y s (by simpa using e) (by rw[show m+(k+1)=m+1+k by omega];exact h)
   rw[show m+(k+1)+1=m+1+k+1 by omega] at this
   exact this
  refine⟨⟨h1,this.1⟩,?_⟩
  rw[List.length_cons,show m+(xs.length+1)=m+1+xs.length by omega]
  exact this.2
theorem Vw {i:Int} {n k:Nat} {x:Int} (h:(rng i n)[k]?=some x):x=i+k/\k < n:=by
 unfold rng at h
 rw[List.getElem?_map] at h
 cases hk:(List.range n)[k]? with
 |none=>rw[hk] at h;cases h
 |some j=>
  rw[hk] at h
  have hl:k < n:=by simpa using (List.getElem?_eq_some_iff.mp hk).1
  have:j=k:=by
   rw[List.getElem?_range hl] at hk
   cases hk;rfl
  subst this
  cases h
  exact⟨rfl,hl⟩
theorem uq (i:Int) (n:Nat):(rng i n).length=n:=by unfold rng;simp
theorem pN {step:σ->Int->σ} {P:σ->Int->Option Prop} (I:Nat->σ->Prop) (n:Nat) (s0:σ) (h0:I 0 s0) (hs:∀ (k:Nat) s,k < n->I k s->hold (P s k)/\I (k+1) (step s k)):vU step P (rng 0 n) s0/\I n ((rng 0 n).foldl step s0):=by
 have:=Mt (P:=P) I (rng 0 n) 0 s0 h0 fun k x s e h=>by
  obtain⟨rfl,hk⟩:=Vw e
  rw[Nat.zero_add] at h ⊢
  rw[Int.zero_add]
  exact hs k s hk h
 rw[uq,Nat.zero_add] at this
 exact this
theorem Ig {step:Unit->α->Kf Unit Bool} {P:Unit->α->Option Prop}:∀ xs:List α,(∀ x∈xs,hold (P () x)/\(step () x=.nx ()\/step () x=.ct ()))->uW step xs ()=.nx ()/\Ep step P xs ()
 |[],_=>⟨rfl,trivial⟩
 |x::xs,h=>by
  obtain⟨h1,h2⟩:=h x (List.mem_cons_self ..)
  have ih:=Ig (P:=P) xs fun y hy=>h y (List.mem_cons_of_mem _ hy)
  rcases h2 with h2|h2
  ·exact⟨by unfold uW;rw[h2];exact ih.1,h1,by rw[h2];exact ih.2⟩
  ·exact⟨by unfold uW;rw[h2];exact ih.1,h1,by rw[h2];exact ih.2⟩
theorem Gq [Inhabited α] {xs:List α} {i:Int} (h:In xs.length i):at' xs i∈xs:=by
 obtain⟨x,hx⟩:=Gj h
 unfold at'
 rw[hx]
 unfold Dg at hx
 obtain⟨j,_,hx⟩:=bind_some hx
 exact List.mem_of_getElem? hx
theorem Bd [Inhabited α] {xs:List α} {k:Nat} {x:α} (h:xs[k]?=some x):at' xs (k:Int)=x:=by
 have hl:k < xs.length:=(List.getElem?_eq_some_iff.mp h).1
 unfold at' Dg Y7
 rw[if_pos (by omega),if_pos (by omega),bnd,Int.toNat_natCast,h]
 rfl
theorem xK [Inhabited α] (xs:List α) (k:Nat) (h:k < xs.length):at' xs (k:Int)=xs[k]:=Bd (List.getElem?_eq_getElem h)
theorem in_of {n:Nat} {i:Int} (h0:0<=i) (h1:i < n):In n i:=⟨by omega,h1⟩
theorem Rx {n k:Nat} (h:k < n):In n (k:Int):=⟨by omega,by omega⟩
theorem uX {n:Nat} {x m:Int} (hm:0 < m) (h:m<=n):In n (x % m):=in_of (Int.emod_nonneg _ (by omega)) (Int.lt_of_lt_of_le (Int.emod_lt_of_pos _ hm) h)
theorem eZ (x:Int) {m:Int} (hm:0 < m):0<=x % m/\x % m < m:=⟨Int.emod_nonneg _ (by omega),Int.emod_lt_of_pos _ hm⟩
theorem yw {j:Int} (h0:0<=j) (h1:j<=1000000):Rg j:=⟨by omega,by omega⟩
theorem Wx {a b:Int} (h0:0<=a) (h1:a < 18446744073709551616):Mul a b:=.inl ⟨by omega,h1⟩
theorem Vx (xs:List α) (lo hi:Option Int):(cut xs lo hi).length<=xs.length:=by
 unfold cut
 rw[List.length_take,List.length_drop]
 omega
theorem Ry {xs:List α} {k:Nat} (h:k<=xs.length):cut xs (some (k:Int)) none=xs.drop k:=by
 unfold cut
 rw[HT.T9,HT.Qa,Nat.min_eq_left h,List.take_of_length_le (by simp)]
theorem dF (x y:Str):(x++y).length=x.length+y.length:=by
 show (x.cps++y.cps).size=_
 rw[Array.size_append]
 rfl
theorem sJ (x:Str) (i:Int):(ch x i).length=1:=rfl
theorem slice_le (x:Str) (l u:Option Int):(Txt.slice x l u).length<=x.length:=PyProof.Txt.length_slice_le x l u
theorem Ow (x:Str):(chars x).length=x.length:=by unfold chars;rw[List.length_map,Array.length_toList];rfl
end
section
variable {α γ:Type} [Inhabited α] {e:α->Dt} {ρ:Ev} {f:Ev->Option Bx} {k:Ev->Option Out} {cO:γ->Out}
end
section
variable {ρ:Ev} {fa:Ev->Option Bx}
end
section
variable {α γ:Type} {e:α->Dt} {ρ:Ev} {f:Ev->Option Bx} {k:Ev->Option Out} {cO:γ->Out}
end
section
variable {α β γ:Type} {e:α->Dt} {f fa fb:Ev->Option Bx} {k g:Ev->Option Out} {ρ:Ev} {cO:γ->Out}
def Mu [Inhabited γ]:R (aH noG k) ρ cO:=⟨default,some False,fun h=>absurd h id⟩
end
section
variable {α:Type} {e:α->Dt} {f fa fb:Ev->Option Bx} {ρ:Ev}
def Rz (a:R fa ρ (zE e)) (n:Nat) (h:∀ x,∃ ds,e x=.tup ds/\ds.length=n):R (gO pJ (aC fa aK)) ρ (zE eI):=⟨(n:Int),a.D,fun hd=>by
 obtain⟨ds,e1,e2⟩:=h a.v
 simp only[gO,aC,aK,a.ok hd,bnd,zE,e1,pJ,Gd,e2]⟩
end
section
variable {α β γ:Type} {e:α->Dt} {e':β->Dt} {fa fb:Ev->Option Bx} {ρ:Ev}
end
def RP {α β:Type} (f:Ev->Option β) (ρ:Ev) (c:α->β) (v:α) (D:Option Prop):Prop:=hold D->f ρ=some (c v)
theorem R.tp {α β:Type} {f:Ev->Option β} {ρ:Ev} {c:α->β} {v':α} {D':Option Prop} (x:R f ρ c) (hv:x.v=v':=by kernel_rfl) (hD:x.D=D':=by kernel_rfl):RP f ρ c v' D':=fun h=>by
 subst hv hD
 exact x.ok h
def RP.r {α β:Type} {f:Ev->Option β} {ρ:Ev} {c:α->β} {v:α} {D:Option Prop} (h:RP f ρ c v D):R f ρ c:=⟨v,D,h⟩
theorem len1 {α:Type} {p:List α->Prop} (h:∀ a,p [a]):∀ us:List α,us.length=1->p us
 |[a],_=>h a
theorem len2 {α:Type} {p:List α->Prop} (h:∀ a b,p [a,b]):∀ us:List α,us.length=2->p us
 |[a,b],_=>h a b
theorem YH {α:Type} {p:List α->Prop} (h:∀ a b c,p [a,b,c]):∀ us:List α,us.length=3->p us
 |[a,b,c],_=>h a b c
end P1
end
section
namespace P1
open PySem PySem.Spec PyProof.Rows L2 S1
section
variable {prog:Program} {w:World} {A:Around} {E:Value->Shared->Prop} {s:Shared}
end
section
variable {X:Cx}
end
section
variable {fa:Ev->Option Bx} {ρ:Ev}
end
end P1
end
section
namespace P1
open PySem PySem.Spec PyProof.Rows L2
section
variable {i n:Nat} {is:List Nat} {f:Ev->Option Bx} {fs:Ev->Option (List Bx)} {p:Ev->Option Bool} {gt:Dt->Ev->Option Ev} {g1 g2 gb:Ev->Option Out}
end
section
variable {X:Cx} {st:Stmt} {rest:List Stmt} {g1 g2:Ev->Option Out}
end
section
variable {P:Program} {w:World} {K:PySem.W.Frag} {mg:Str->Option Value} {base:Heap}
end
section
variable {X:Cx} {pins:List (Addr×Obj)} {σ:L2.St} {H:Hp} {s:Shared} {a:Addr} {ks:List V} {o:Obj}
end
def Fr3 (Hb Hc H:Hp) (σ:L2.St) (i:Nat):Prop:=∃ (t p0 p1 p2:Addr) (x0 x1 x2:List V) (o0 o1 o2:Obj),(x0.length < 1000/\x2.length < 1000)/\σ[i]?=some (some (.ref t))/\H t=some (.tup [.ref p0,.ref p1,.ref p2])/\(H p0=some (.wO o0 (.lst x0))/\H p1=some (.wO o1 (.lst x1))/\H p2=some (.wO o2 (.lst x2)))/\(Hc p0=none/\Hc p1=none/\Hc p2=none)/\(p0≠p1/\p0≠p2/\p1≠p2)/\(∀ ob u,Hb p0≠some (.wO ob u))/\(∀ ob u,Hb p1≠some (.wO ob u))/\∀ ob u,Hb p2≠some (.wO ob u)
theorem Fr3.grow {Hb Hc H H':Hp} {σ σ':L2.St} {i:Nat} (h:Fr3 Hb Hc H σ i) (s:Same H H') (hs:σ'[i]?=σ[i]?):Fr3 Hb Hc H' σ' i:=by
 obtain⟨t,p0,p1,p2,x0,x1,x2,o0,o1,o2,l,e,ht,⟨h0,h1,h2⟩,r⟩:=h
 exact⟨t,p0,p1,p2,x0,x1,x2,o0,o1,o2,l,by rw[hs];exact e,s _ _ ht,⟨s _ _ h0,s _ _ h1,s _ _ h2⟩,r⟩
section
variable {X:Cx} {i:Nat} {M0 M1 M2 er:Expr} {f0 f2 f:Ev->Option Bx} {d0 d2:Dt} {z0 z1 z2 z3:Pos}
end
theorem aV.sl {K:PySem.W.Frag} {H0 H:Hp} {σ:L2.St} {ρ:Ev} (E:aV K H0 H σ ρ) {i:Nat} (h:∀ c,ρ[i]?≠some (some c)) (v:Option V):aV K H0 H (σ.set i v) ρ:=by
 have ne:∀ {j:Nat} {c:Bx},ρ[j]?=some (some c)->(σ.set i v)[j]?=σ[j]?:=fun e=>List.getElem?_set_ne (fun z=>h _ (z▸e))
 exact⟨by rw[List.length_set];exact E.len,fun j b e=>by rw[ne e];exact E.val j b e,fun j k c a b e1 e2 e3 e4 e5 e6=>E.own j k c a b e1 e2 (by rw[<-ne e1];exact e3) e4 e5 (by rw[<-ne e4];exact e6),E.base,fun j c a e1 e2 e3=>E.new j c a e1 e2 (by rw[<-ne e1];exact e3)⟩
section
variable {X:Cx} {st:List Stmt} {g:Ev->Option Out} {f fr fe:Ev->Option Bx} {p:Ev->Option Bool} {i i':Nat} {W:List Nat} {c e:Expr} {pos z:Pos}
end
section
variable {a b c g g1 g2 gb:Ev->Option Out} {f:Ev->Option Bx} {p:Ev->Option Bool} {i k:Nat} {gt:Dt->Ev->Option Ev}
end
end P1
end
section
namespace P1
open PySem PySem.Spec PyProof.Rows L2 S6
section
variable {X:Cx} {elt kx vx t1 i1 t2 i2:Expr} {f1 f2:List Expr} {scope:Scope} {cl:List (Str×Addr)} {pos:Pos} {xs:List Str} {is:List Nat} {g1 g2:Dt->Ev->Option Ev} {p1 p2:Ev->Option Bool} {fe fk fv:Ev->Option Bx} {fi1 fi2:Ev->Option (List Dt)} {fs:Ev->Option (List Dt)} {N m:Nat} {Ac:Addr->Hp->List Dt->HO->Prop} {el:Addr->Env->Sem Unit}
def cls2 (fi:Ev->Option (List Dt)) (gt:Dt->Ev->Option Ev) (p:Ev->Option Bool) (fs:Ev->Option (List Dt)) (is:List Nat) (n:Nat):Ev->Option (List Dt):=fun ρ=>(fi ρ).bind fun ds=>za gt p fs (nW is ρ++List.replicate n none) ds
theorem Wj.no {K:PySem.W.Frag} {D:Addr} {H:Hp} {o1:List Dt} {o:HO}:Wj K D H o1 o->(∀ ob u,o≠.wO ob u)/\∀ vs,o≠.tup vs:=fun ⟨_,e,_⟩=>by subst e;exact⟨fun _ _ z=>(by cases z),fun _ z=>(by cases z)⟩
theorem AcS.no {D:Addr} {H:Hp} {o1:List Dt} {o:HO}:AcS X D H o1 o->(∀ ob u,o≠.wO ob u)/\∀ vs,o≠.tup vs:=fun ⟨_,e,_⟩=>by subst e;exact⟨fun _ _ z=>(by cases z),fun _ z=>(by cases z)⟩
end
end P1
end
section
namespace P1
open PySem PySem.Spec PyProof.Rows L2
section
variable {α β:Type} {ρ:Ev} {e:α->Dt} {e':β->Dt} {p:Ev->Option Bool} {fi fs:Ev->Option (List Dt)} {gt:Dt->Ev->Option Ev} {fe:Ev->Option Bx} {is:List Nat} {n:Nat}
end
section
variable {X:Cx}
end
section
variable {ρ:Ev} {fa fb:Ev->Option Bx}
end
def hx (h:Heap) (a:Addr):HO:=.ext fun h'=>h'.get? a=h.get? a
def LD (o:Option HO):Prop:=(∃ xs,o=some (.lst xs))\/∃ ks,o=some (.dK ks)
def Sep (as:List Addr) (σ:L2.St) (ρ:Ev):Prop:=∀ (j:Nat) c a,ρ[j]?=some (some c)->loose c=true->σ[j]?=some (some (.ref a))->a∉as
section
variable {X:Cx} {pins:List (Addr×Obj)} {σ:L2.St} {H H2:Hp} {s:Shared} {as:List Addr}
theorem LD.at {P:Program} {w:World} {H H':Hp} {h h':Heap} {a:Addr} {o:HO} (k:LD (some o)) (e:h'.get? a=h.get? a) (x:fL P w H h a o):fL P w H' h' a o:=by
 rcases k with⟨xs,hk⟩|⟨ks,hk⟩
 ·cases hk
  obtain⟨z,its,n,v,g⟩:=x
  exact⟨z,its,n,v,e.trans g⟩
 ·cases hk
  obtain⟨z,hd,vs,kv,o,es,ep,ho,r⟩:=x
  exact⟨z,hd,vs,kv,o,es,ep,e.trans ho,r⟩
theorem LD.obj {P:Program} {w:World} {H:Hp} {h:Heap} {a:Addr} (k:LD (H a)) (x:vC P w H h):∃ o,h.get? a=some o:=by
 rcases k with⟨xs,hk⟩|⟨ks,hk⟩
 ·obtain⟨_,its,n,_,g⟩:=x a _ hk
  exact⟨_,g⟩
 ·obtain⟨_,_,vs,_,o,es,ep,ho,_⟩:=x a _ hk
  exact⟨o,ho⟩
theorem aV.move {K:PySem.W.Frag} {Hb Hb' H H':Hp} {σ:L2.St} {ρ:Ev} (E:aV K Hb H σ ρ) (S:Sep as σ ρ) (kp:Kp H H') (ho:∀ b,b∉as->H' b=H b) (hb:Same Hb' H') (hn:∀ (j:Nat) c a,ρ[j]?=some (some c)->uQ c=true->σ[j]?=some (some (.ref a))->Hb' a=none):aV K Hb' H' σ ρ:=by
 refine⟨E.len,fun j b e=>?_,E.own,hb,hn⟩
 obtain⟨v,ev,rb⟩:=E.val j b e
 refine⟨v,ev,?_⟩
 cases b with
 |z d=>exact Rep.kp kp rb
 |l dz=>
  obtain⟨a,vs,rfl,q,rr⟩:=rb
  have ha:=ho a (S j _ a e rfl ev)
  exact⟨a,vs,rfl,q.imp (fun q=>ha.trans q) fun ⟨o,q⟩=>⟨o,ha.trans q⟩,rr.kp kp⟩
 |o dz=>
  obtain⟨a,vs,rfl,q,rr⟩:=rb
  exact⟨a,vs,rfl,(ho a (S j _ a e rfl ev)).trans q,rr.kp kp⟩
 |n dz=>
  obtain⟨a,vs,rfl,q,rr⟩:=rb
  have ha:=ho a (S j _ a e rfl ev)
  exact⟨a,vs,rfl,q.imp (fun q=>ha.trans q) fun ⟨o,q⟩=>⟨o,ha.trans q⟩,rr.kp kp⟩
 |m dz _=>
  obtain⟨a,vs,rfl,q,rr⟩:=rb
  exact⟨a,vs,rfl,(ho a (S j _ a e rfl ev)).trans q,rr.1.kp kp,rr.2⟩
end
section
variable {X:Cx} {pins:List (Addr×Obj)} {σ:L2.St} {H:Hp} {s:Shared}
def aaG {α:Type} (m:List (Int×List α)) (k:Int) (d:α):List (Int×List α):=if (m.any fun q=>decide (q.1=k))=true then m.map fun q=>if q.1=k then (q.1,q.2++[d]) else q else m++[(k,[d])]
structure Gp (K:PySem.W.Frag) (H:Hp) (D:Addr) (gs:List (Int×Addr×List Dt)):Prop where
 d:H D=some (.dK (gs.map fun g=>(Sum.inl g.1,V.ref g.2.1)))
 l:∀ g∈gs,∃ vs,H g.2.1=some (.lst vs)/\aJ K H g.2.2 vs
 k:(gs.map (·.1)).Nodup
 a:(gs.map (·.2.1)).Nodup
def gpA (D:Addr) (gs:List (Int×Addr×List Dt)):List Addr:=D::gs.map (·.2.1)
theorem Gp.kept {K:PySem.W.Frag} {H H':Hp} {D:Addr} {gs:List (Int×Addr×List Dt)} (G:Gp K H D gs) (h:∀ a∈gpA D gs,H' a=H a) (r:∀ ds vs,aJ K H ds vs->aJ K H' ds vs):Gp K H' D gs:=
 ⟨(h D (List.mem_cons_self ..)).trans G.d,fun g hg=>let ⟨vs,e,q⟩:=G.l g hg;⟨vs,(h _ (List.mem_cons_of_mem _ (List.mem_map.mpr ⟨g,hg,rfl⟩))).trans e,r _ _ q⟩,G.k,G.a⟩
theorem Gp.same {K:PySem.W.Frag} {H H':Hp} {D:Addr} {gs:List (Int×Addr×List Dt)} (G:Gp K H D gs) (s:Same H H'):Gp K H' D gs:=
 ⟨s _ _ G.d,fun g hg=>let ⟨vs,e,q⟩:=G.l g hg;⟨vs,s _ _ e,q.kp (.of s)⟩,G.k,G.a⟩
theorem Gp.val {gs:List (Int×Addr×List Dt)} {k:Int}:∀ {w:V},uO (gs.map fun g=>((Sum.inl g.1:Key),V.ref g.2.1)) (Sum.inl k)=some w->∃ g∈gs,g.1=k/\w=.ref g.2.1:=by
 induction gs with
 |nil=>intro w e;cases e
 |cons g gs ih=>
  intro w e
  rw[List.map_cons] at e
  by_cases hk:g.1=k
  ·rw[rM (by rw[hk])] at e
   cases e
   exact⟨g,List.mem_cons_self ..,hk,rfl⟩
  ·rw[rN (by simpa using hk)] at e
   obtain⟨g',h1,h2,h3⟩:=ih e
   exact⟨g',List.mem_cons_of_mem _ h1,h2,h3⟩
end
section
variable {K:PySem.W.Frag} {H:Hp} {D l:Addr} {gs:List (Int×Addr×List Dt)} {k:Int} {x:Dt} {u:V}
theorem Gp.new (G:Gp K H D gs) (hn:uO (gs.map fun g=>((Sum.inl g.1:Key),V.ref g.2.1)) (Sum.inl k)=none) (hl:H l=some (.lst [])) (hla:l∉gpA D gs) :
  Gp K (upd H D (.dK (putK (gs.map fun g=>(Sum.inl g.1,V.ref g.2.1)) (Sum.inl k) (.ref l)))) D (gs++[(k,l,[])]):=by
 have kp:Kp H (upd H D (.dK (putK (gs.map fun g=>(Sum.inl g.1,V.ref g.2.1)) (Sum.inl k) (.ref l)))):=.dk G.d
 have hany:((gs.map fun g=>((Sum.inl g.1:Key),V.ref g.2.1)).any fun kv=>decide (kv.1=Sum.inl k))=false:=by rw[Ab,hn];rfl
 have hlD:l≠D:=fun z=>hla (by rw[z];exact List.mem_cons_self ..)
 have hkn:k∉gs.map (·.1):=fun z=>by
  obtain⟨g,hg,e⟩:=List.mem_map.mp z
  have:=List.any_eq_false.mp hany _ (List.mem_map.mpr ⟨g,hg,rfl⟩)
  simp only[decide_eq_true_eq] at this
  exact this (by rw[e])
 refine⟨?_,fun g hg=>?_,?_,?_⟩
 ·rw[bx,putK,if_neg (by rw[hany];exact Bool.false_ne_true),List.map_append];rfl
 ·rcases List.mem_append.mp hg with hg|hg
  ·obtain⟨vs,e,r⟩:=G.l g hg
   exact⟨vs,by rw[aO fun z=>by rw[z,G.d] at e;cases e];exact e,r.kp kp⟩
  ·cases List.mem_singleton.mp hg
   exact⟨[],by rw[aO hlD];exact hl,aJ.nil⟩
 ·rw[List.map_append,List.nodup_append]
  exact⟨G.k,by simp,fun a ha b hb=>by cases List.mem_singleton.mp hb;exact fun z=>hkn (by rw[z] at ha;exact ha)⟩
 ·rw[List.map_append,List.nodup_append]
  exact⟨G.a,by simp,fun a ha b hb=>by cases List.mem_singleton.mp hb;exact fun z=>hla (List.mem_cons_of_mem _ (by rw[z] at ha;exact ha))⟩
end
section
variable {X:Cx} {iter e1 e2 c ev:Expr} {fi:Ev->Option (List Dt)} {f1 f2 fv:Ev->Option Bx} {p:Ev->Option Bool} {x y w:Str} {pw py py2 py3 px p1 p2 p3 p4 pl a1 a2 c1 c2 pos:Pos}
end
section
variable {X:Cx} {iter e1 e2 c ev:Expr} {fi:Ev->Option (List Dt)} {f1 f2 fv:Ev->Option Bx} {p:Ev->Option Bool} {x y w:Str} {pw py py2 py3 px p1 p2 p3 p4 pl a1 a2 c1 c2 pos:Pos}
theorem vV {ρ:Ev} {i q:Nat} {b:Bx} (h:(ρ.set i none)[q]?=some (some b)):q≠i/\ρ[q]?=some (some b):=by
 rcases getset h with⟨_,z,_⟩|⟨h1,h2⟩
 ·cases z
 ·exact⟨h1,h2⟩
end
end P1
end
section
namespace P1
open PySem PySem.Spec PyProof.Rows L2 S6
section
variable {X:Cx} {kx vx t1 i1 t2 i2:Expr} {f1 f2:List Expr} {scope:Scope} {cl:List (Str×Addr)} {pos:Pos} {xs:List Str} {is:List Nat} {g1 g2:Dt->Ev->Option Ev} {p1 p2:Ev->Option Bool} {fk fv:Ev->Option Bx} {fi1 fi2:Ev->Option (List Dt)} {m:Nat}
theorem AcD.no {K:PySem.W.Frag} {D:Addr} {H:Hp} {o1:List Dt} {o:HO}:AcD K D H o1 o->(∀ ob u,o≠.wO ob u)/\∀ vs,o≠.tup vs:=fun ⟨_,e,_⟩=>by subst e;exact⟨fun _ _ z=>(by cases z),fun _ z=>(by cases z)⟩
end
end P1
end
section
namespace P1
open PySem PySem.Spec PyProof.Rows L2
section
variable {α β γ:Type} {ρ:Ev} {e:α->Dt} {e0:β->Dt} {fa fb fd f1 f2 fv:Ev->Option Bx} {p:Ev->Option Bool} {fi:Ev->Option (List Dt)} {kk:Ev->Option Out} {cO:γ->Out}
end
section
variable {X:Cx}
end
section
variable {α β:Type} {e:α->Dt} {ρ:Ev} {fa:Ev->Option Bx} {p:Ev->Option Bool} {fi fs:Ev->Option (List Dt)} {gt:Dt->Ev->Option Ev} {is:List Nat} {n:Nat}
end
section
variable {X:Cx} {a:Expr} {fa:Ev->Option Bx} {pos:Pos}
end
theorem bU {α:Type} {g:Ev->Option Out} {n:Nat} {bs:List Bx} {c:α->Bx} {v:α} {D:Option Prop} (x:RP g (bs.map some++List.replicate (n - bs.length) none) (fun r=>Out.rt (c r)) v D) (h:hold D):eY n g bs=some (c v):=Yw x.r h
section
variable {α:Type} {e:α->Dt} {ρ:Ev} {fa:Ev->Option Bx}
end
open PySem.Builtin PySem.Builtin.Str
section
variable {X:Cx}
theorem RB:V9 X "str.split" (fun x xs H Q=>∃ y z,x=.str y/\xs=[.str z]/\(z.length==0)=false/\y.length<=100000/\∀ l H',Same H H'->H l=none->H' l=some (.lst ((Txt.split y z).map V.str))->Q (.ref l) H'):=by
 intro pins s σ H x xs v us Q I rx rs h
 obtain⟨y,z,rfl,rfl,hz,hy,q⟩:=h
 obtain⟨t,rfl⟩:=rx
 obtain⟨u,rfl,ru⟩:=vals1 rs
 obtain⟨t2,rfl⟩:=ru
 have sl:(100002:Nat)<=sizeLine:=by decide
 have hl:=split_le y z
 have fin:∀ (l:List (Str×Tok)) (tk:Nat),l.map (·.1)=Txt.split y z->EP X pins σ Q (.ref s.heap.objs.size) { s with toks:=tk,heap:=s.heap.push { cls:=.type "list", data:=.seq (strValues l).toArray } }:=fun l tk e=>by
  have I2:Inv X pins σ (upd H s.heap.objs.size (.lst ((Txt.split y z).map V.str))) { s with toks:=tk,heap:=s.heap.push { cls:=.type "list", data:=.seq (strValues l).toArray } }:=
   I.laid (t':=tk) (fun b o e=>Heap.get?_push_of_some _ e) (Nat.le_refl _) (show fL X.prog X.w _ _ _ (.lst _) from⟨by rw[List.length_map];omega,strValues l,0,xG (by rw[<-e];exact strsAre_of_values l),Heap.get?_push_size _ rfl⟩)
  have hfr:=I.hok.fresh (Nat.le_refl _)
  exact⟨.ref s.heap.objs.size,_,I2,rfl,q _ _ (bQ hfr) hfr bx⟩
 cases h1:(decide (y.length < z.length)||decide (strKind y < strKind z))
 ·cases hf:(occurrences y z 0 y.length (y.length+1)).isEmpty
  ·have e:Txt.split y z=partsBetween y (occurrences y z 0 y.length (y.length+1)) z.length:=(if_neg (ne_true_of_eq_false h1)).trans (if_neg (ne_true_of_eq_false hf))
   refine call_meets F.slot_str_split (typeIs_str _ _ _) F.entry_str_split (F.args_str_split_2 _ _) (meets_str_split_sep y z t t2 h1 hz hf (by omega) (by rw[<-e];omega)) ?_
   show EP X pins σ Q _ { s with toks:=_,heap:=s.heap.push { cls:=.type "list", data:=.seq (strsFrom s.toks (partsBetween y (occurrences y z 0 y.length (y.length+1)) z.length)).toArray } }
   rw[strsFrom_eq]
   exact fin _ _ ((numbered_texts _ _).trans e.symm)
  ·exact call_meets F.slot_str_split (typeIs_str _ _ _) F.entry_str_split (F.args_str_split_2 _ _) (meets_str_split_not_found y z t t2 h1 hz hf) (fin [(y,t)] s.toks ((if_neg (ne_true_of_eq_false h1)).trans (if_pos hf)).symm)
 ·exact call_meets F.slot_str_split (typeIs_str _ _ _) F.entry_str_split (F.args_str_split_2 _ _) (meets_str_split_cannot_occur y z t t2 h1) (fin [(y,t)] s.toks (if_pos h1).symm)
def Kg:Bx->Bx->Option Bx
 |.z (.str y),.z (.str z)=>if (z.length==0)=false/\y.length<=100000 then some (.o ((Txt.split y z).map Dt.str)) else none
 |_,_=>none
variable {o e:Expr} {fo fx:Ev->Option Bx}
theorem Bf {apos cpos:Pos} (ho:QV X o fo) (hx:QV X e fx) (hbase:attributeBase o "split" X.env (eval o X.env)=eval o X.env:=by rfl)
  (hfew:((backTo cpos (starEach [e] X.env)).all (fun x=>!x.1)&&(backToKw cpos (keywordEach [] X.env)).all (fun x=>x.1.isSome)&&decide ([e].length+([]:List Keyword).length+(if ([]:List Keyword).isEmpty then 0 else 1) < 30))=true:=by rfl)
  (hline:(apos.endLine==cpos.line)=true:=by rfl) (hs:starEach [e] X.env=(false,eval e X.env)::starEach [] X.env:=by rfl):QV X (.Call (.Attribute o "split" apos) [e] [] cpos) (b2 Kg fo fx):=
 ⟨Dj (Hh (T := "str") F.plainAttrs_str F.slot_str_split F.type_str_split RB ho.run (vJ hx.run zN hs) hbase hfew hline hs rfl) fun σ H Q q=>by
  obtain⟨H0,ρ,c,E,e,q⟩:=q
  obtain⟨a,ea,e⟩:=bind_some e
  obtain⟨b,eb,e⟩:=bind_some e
  unfold Kg at e
  split at e
  ·rename_i y z _
   split at e
   ·rename_i hb
    cases e
    refine⟨H0,ρ,_,E,ea,fun v H1 s1 n1 r1=>?_⟩
    obtain⟨rfl,hy⟩:=Ga r1
    refine⟨rfl,H0,ρ,[_],E.grow s1,by simp only[aC,eb,Option.bind_some];rfl,fun vs H2 s2 r2=>?_⟩
    obtain⟨w,rfl,rw1⟩:=rep1 r2
    obtain⟨rfl,hz⟩:=Ga rw1
    refine⟨y,z,rfl,rfl,hb.1,hb.2,fun l H3 s3 n3 e3=>q _ _ ((s1.trans s2).trans s3) (fun a ea=>by cases ea;exact (s1.trans s2).free n3) ⟨l,_,rfl,e3,vP fun p hp=>Nat.le_trans (part_short hp) hy⟩⟩
   ·cases e
  ·cases e⟩
theorem Vy:V9 X "str.partition" (fun x xs H Q=>∃ y z,x=.str y/\xs=[.str z]/\(z.length==0)=false/\y.length<=sizeLine/\∀ l H',Same H H'->H' l=some (.tup [.str (Txt.partition y z).1,.str (Txt.partition y z).2.1,.str (Txt.partition y z).2.2])->Q (.ref l) H'):=by
 intro pins s σ H x xs v us Q I rx rs h
 obtain⟨y,z,rfl,rfl,hz,hy,q⟩:=h
 obtain⟨t,rfl⟩:=rx
 obtain⟨u,rfl,ru⟩:=vals1 rs
 obtain⟨t2,rfl⟩:=ru
 have fin:∀ (a b c:Tok) (tk:Nat),EP X pins σ Q (.ref s.heap.objs.size) { s with toks:=tk,heap:=s.heap.push { cls:=.type "tuple", data:=.seq [.str (Txt.partition y z).1 a,.str (Txt.partition y z).2.1 b,.str (Txt.partition y z).2.2 c].toArray } }:=fun a b c tk=>by
  have I2:Inv X pins σ (upd H s.heap.objs.size (.tup [.str (Txt.partition y z).1,.str (Txt.partition y z).2.1,.str (Txt.partition y z).2.2])) { s with toks:=tk,heap:=s.heap.push { cls:=.type "tuple", data:=.seq [.str (Txt.partition y z).1 a,.str (Txt.partition y z).2.1 b,.str (Txt.partition y z).2.2 c].toArray } }:=
   I.laid (t':=tk) (fun b o e=>Heap.get?_push_of_some _ e) (Nat.le_refl _) (show fL X.prog X.w _ _ _ (.tup _) from⟨by show (3:Nat)<=sizeLine;decide,_,.cons ⟨_,rfl⟩ (.cons ⟨_,rfl⟩ (.cons ⟨_,rfl⟩ .nil)),qu.new _ _⟩)
  have hfr:=I.hok.fresh (Nat.le_refl _)
  exact⟨.ref s.heap.objs.size,_,I2,rfl,q _ _ (bQ hfr) bx⟩
 refine call_meets F.slot_str_partition (typeIs_str _ _ _) F.entry_str_partition (F.args_str_partition_2 _ _) (meets_str_partition y z t t2 hz hy) ?_
 show EP X pins σ Q _ _
 unfold Txt.partition at fin
 cases ho:occurrences y z 0 y.length 1 with
 |nil=>rw[ho] at fin;exact fin _ _ _ _
 |cons i r=>rw[ho] at fin;exact fin _ _ _ _
def RD:Bx->Bx->Option Bx
 |.z (.str y),.z (.str z)=>if (z.length==0)=false then some (.z (.tup [.str (Txt.partition y z).1,.str (Txt.partition y z).2.1,.str (Txt.partition y z).2.2])) else none
 |_,_=>none
theorem Vz {apos cpos:Pos} (ho:QV X o fo) (hx:QV X e fx) (hbase:attributeBase o "partition" X.env (eval o X.env)=eval o X.env:=by rfl)
  (hfew:((backTo cpos (starEach [e] X.env)).all (fun x=>!x.1)&&(backToKw cpos (keywordEach [] X.env)).all (fun x=>x.1.isSome)&&decide ([e].length+([]:List Keyword).length+(if ([]:List Keyword).isEmpty then 0 else 1) < 30))=true:=by rfl)
  (hline:(apos.endLine==cpos.line)=true:=by rfl) (hs:starEach [e] X.env=(false,eval e X.env)::starEach [] X.env:=by rfl):QV X (.Call (.Attribute o "partition" apos) [e] [] cpos) (b2 RD fo fx):=
 ⟨Dj (Hh (T := "str") F.plainAttrs_str F.slot_str_partition F.type_str_partition Vy ho.run (vJ hx.run zN hs) hbase hfew hline hs rfl) fun σ H Q q=>by
  obtain⟨H0,ρ,c,E,e,q⟩:=q
  obtain⟨a,ea,e⟩:=bind_some e
  obtain⟨b,eb,e⟩:=bind_some e
  unfold RD at e
  split at e
  ·rename_i y z _
   split at e
   ·rename_i hb
    cases e
    refine⟨H0,ρ,_,E,ea,fun v H1 s1 n1 r1=>?_⟩
    obtain⟨rfl,hy⟩:=Ga r1
    refine⟨rfl,H0,ρ,[_],E.grow s1,by simp only[aC,eb,Option.bind_some];rfl,fun vs H2 s2 r2=>?_⟩
    obtain⟨w,rfl,rw1⟩:=rep1 r2
    obtain⟨rfl,hz⟩:=Ga rw1
    obtain⟨f1,f2,f3⟩:=fact_partition y z
    refine⟨y,z,rfl,rfl,hb,hy,fun l H3 s3 e3=>q _ _ ((s1.trans s2).trans s3) trivial ?_⟩
    unfold aU Rep
    exact⟨l,_,rfl,.inl (.inl e3),vP (ys:=[_,_,_]) fun p hp=>by
     rcases List.mem_cons.mp hp with rfl|hp
     ·omega
     ·rcases List.mem_cons.mp hp with rfl|hp
      ·omega
      ·rw[List.mem_singleton.mp hp];omega⟩
   ·cases e
  ·cases e⟩
def Wy:Bx->Option Str
 |.z (.str x)=>some x
 |_=>none
theorem Kh {b:Bx} {x:Str} (h:Wy b=some x):b=.z (.str x):=by
 unfold Wy at h
 split at h
 ·cases h;rfl
 ·cases h
def RG:Ev->Option Str:=fun _=>some Str.empty
def pO (f:Ev->Option Bx) (g:Ev->Option Str):Ev->Option Str:=fun ρ=>(f ρ).bind fun b=>(Wy b).bind fun x=>(g ρ).bind fun t=>some (x++t)
def Er (g:Ev->Option Str):Ev->Option Bx:=fun ρ=>(g ρ).bind fun t=>if t.length<=100000 then some (.z (.str t)) else none
structure QJ (X:Cx) (es:List Expr) (f:Ev->Option Str):Prop where
 run:∀ (acc:Str) (pins:List (Addr×Obj)) (s:Shared) (σ:L2.St) (H:Hp) (Q:VK),Inv X pins σ H s->(∃ H0 ρ t,aV X.K H0 H σ ρ/\f ρ=some t/\(acc++t).length<=sizeLine/\∀ H',Same H H'->Q (.str (acc++t)) H') →
  wpAny (model X.prog X.w) X.A (joinParts acc (evalEach es X.env)) (EP X pins σ Q) X.xe s
theorem Kl:QJ X [] RG:=⟨fun acc pins s σ H Q I h=>by
 obtain⟨H0,ρ,t,E,e,hl,q⟩:=h
 cases e
 rw[Str.append_empty] at hl q
 exact joinParts_nil ⟨.str acc,H,I.tok _,⟨_,rfl⟩,q H (Same.refl H)⟩ hl⟩
theorem oH {es:List Expr} {g:Ev->Option Str} (h1:QV X e fx) (h2:QJ X es g):QJ X (e::es) (pO fx g):=⟨fun acc pins s σ H Q I h=>by
 obtain⟨H0,ρ,t,E,e,hl,q⟩:=h
 obtain⟨b,eb,e⟩:=bind_some e
 obtain⟨x,ex,e⟩:=bind_some e
 obtain⟨t',et,e⟩:=bind_some e
 cases e
 have hb:=Kh ex
 subst hb
 rw[<-Str.append_assoc] at hl q
 have hl2:(acc++x).length<=sizeLine:=by rw[strLen_append] at hl;omega
 refine joinParts_cons (wpAny_mono (h1.run pins s σ H (fun v H'=>Same H H'/\v=.str x) I ⟨H0,ρ,_,E,eb,fun v H' s' n' r'=>⟨s',(Ga r').1⟩⟩) (fun v s1 hq=>?_) fun _ _ z=>z)
 obtain⟨w,H1,I1,r1,s1',rfl⟩:=hq
 obtain⟨tk,rfl⟩:=r1
 exact⟨hl2,h2.run (acc++x) pins s1 σ H1 Q I1 ⟨H0,ρ,t',E.grow s1',et,hl,fun H2 s2=>q H2 (s1'.trans s2)⟩⟩⟩
theorem Gr {es:List Expr} {e1 e2:Expr} {g:Ev->Option Str} {pos:Pos} (h:QJ X (e1::e2::es) g):QV X (.JoinedStr (e1::e2::es) pos) (Er g):=⟨fun pins s σ H Q I q=>by
 obtain⟨H0,ρ,b,E,e,q⟩:=q
 obtain⟨t,et,e⟩:=bind_some e
 split at e
 ·rename_i hl
  cases e
  have sl:(100000:Nat)<=sizeLine:=by decide
  refine JoinedStr_many (h.run Str.empty pins s σ H Q I ⟨H0,ρ,t,E,et,by rw[Str.empty_append];omega,fun H' s'=>by rw[Str.empty_append];exact q _ H' s' trivial (by unfold aU Rep;exact⟨rfl,by omega⟩)⟩)
 ·cases e⟩
def Wz (f:Ev->Option Bx):Ev->Option Bx:=fun ρ=>(f ρ).bind fun b=>(Wy b).bind fun x=>some (.z (.str x))
theorem vW {v:Expr} {pos:Pos} (h:QV X v fx):QV X (.FormattedValue v (-1) none pos) (Wz fx):=⟨fun pins s σ H Q I q=>by
 obtain⟨H0,ρ,b,E,e,q⟩:=q
 obtain⟨b',eb,e⟩:=bind_some e
 obtain⟨x,ex,e⟩:=bind_some e
 cases e
 have hb:=Kh ex
 subst hb
 refine FormattedValue_plain (wpAny_mono (h.run pins s σ H (fun v H'=>Same H H'/\aU X.K H' (.z (.str x)) v) I ⟨H0,ρ,_,E,eb,fun v H' s' n' r'=>⟨s',r'⟩⟩) (fun v s1 hq=>?_) fun _ _ z=>z)
 obtain⟨w,H1,I1,r1,s1',rb⟩:=hq
 obtain⟨rfl,hx⟩:=Ga rb
 obtain⟨tk,rfl⟩:=r1
 exact formatField_str (fun t' k=>⟨.str x,H1,I1.tok _,⟨_,rfl⟩,q _ H1 s1' trivial rb⟩) hx⟩
end
section
variable {ρ:Ev} {fa fb:Ev->Option Bx} {g:Ev->Option Str}
def Gs (a:R fa ρ (zE eS)) (b:R fb ρ (zE eS)):R (b2 Kg fa fb) ρ (oE eS):=⟨Txt.split a.v b.v,aX (aX a.D b.D) (some ((b.v.length==0)=false/\a.v.length<=100000)),fun h=>by
 obtain⟨h,h3⟩:=aA h
 obtain⟨h1,h2⟩:=aA h
 simp only[b2,a.ok h1,b.ok h2,bnd,Kg,zE,eS]
 exact if_pos h3⟩
def YJ (a:R fa ρ (zE eS)) (b:R fb ρ (zE eS)):R (b2 RD fa fb) ρ (zE (eP3 eS eS eS)):=⟨Txt.partition a.v b.v,aX (aX a.D b.D) (some ((b.v.length==0)=false)),fun h=>by
 obtain⟨h,h3⟩:=aA h
 obtain⟨h1,h2⟩:=aA h
 simp only[b2,a.ok h1,b.ok h2,bnd,RD,zE,eS]
 exact if_pos h3⟩
def acQ {α:Type} [Inhabited α] {e:α->Dt} (a:R fa ρ (zE (eT e))):R fa ρ (zE (Ka e e)):=⟨(at' a.v 0,at' a.v 1),aX a.D (some (a.v.length=2)),fun h=>by
 obtain⟨h1,h2⟩:=aA h
 rw[a.ok h1]
 have h2:a.v.length=2:=h2
 generalize a.v=l at h2 ⊢
 cases l with
 |nil=>cases h2
 |cons x l=>cases l with
  |nil=>cases h2
  |cons y l=>cases l with
   |nil=>rfl
   |cons z l=>simp at h2⟩
def RJ:R RG ρ (fun t:Str=>t):=⟨Str.empty,none,fun _=>rfl⟩
def RK (c:Str) (b:R g ρ (fun t:Str=>t)):R (pO (cB (.str c)) g) ρ (fun t:Str=>t):=⟨c++b.v,b.D,fun h=>by
 simp only[pO,cB,bnd,Wy,b.ok h]⟩
def Ih (a:R fa ρ (zE eS)) (b:R g ρ (fun t:Str=>t)):R (pO (Wz fa) g) ρ (fun t:Str=>t):=⟨a.v++b.v,aX a.D b.D,fun h=>by
 obtain⟨h1,h2⟩:=aA h
 simp only[pO,Wz,a.ok h1,bnd,Wy,zE,eS,b.ok h2]⟩
def Km (b:R g ρ (fun t:Str=>t)):R (Er g) ρ (zE eS):=⟨b.v,aX b.D (some (b.v.length<=100000)),fun h=>by
 obtain⟨h1,h2⟩:=aA h
 simp only[Er,b.ok h1,bnd,zE,eS]
 exact if_pos h2⟩
end
section
variable {X:Cx}
def hoT (X:Cx) (a:Addr) (zs:List Str):HO:=.ext fun h=>∃ n,n<=zs.length/\h.SetOf (strKind X.prog X.w) a (fun z=>decide (z∈zs)) n
theorem RM {H:Hp} {h:Heap} {a:Addr} {zs:List Str} {n:Nat} (hn:n<=zs.length) (x:h.SetOf (strKind X.prog X.w) a (fun z=>decide (z∈zs)) n):fL X.prog X.w H h a (hoT X a zs):=
 ⟨⟨n,hn,x⟩,(let ⟨o,_,_,_,ho,_⟩:=x;⟨o,ho⟩),fun h1 h2 ⟨n,hn,o,es,ep,t,ho,r⟩ k=>⟨n,hn,o,es,ep,t,k o ho,r⟩⟩
theorem VB:gP X (.type "set") (fun xs H Q=>xs=[]/\∀ a H',Same H H'->H a=none->H' a=some (hoT X a [])->Q (.ref a) H'):=by
 intro pins s σ H xs us Q I r h
 obtain⟨rfl,q⟩:=h
 have hu:=r.zero
 subst hu
 refine call_set_0 fun led=>?_
 have hfr:=I.hok.fresh (Nat.le_refl _)
 refine⟨.ref s.heap.objs.size,_,I.laid (t':=s.toks) (a:=s.heap.objs.size) (o:=hoT X s.heap.objs.size []) (fun b o e=>Heap.get?_push_of_some _ e) (Nat.le_refl _) ?_,rfl,q _ _ (bQ hfr) hfr bx⟩
 exact RM (n:=0) (Nat.le_refl _) ((setObjOf_fresh led).setOf (Heap.get?_push_size _ rfl) (by decide))
theorem YK:rK X (compareOp .In) (fun x y H Q=>∃ t a zs,x=.str t/\y=.ref a/\H a=some (hoT X a zs)/\Q (.bl (decide (t∈zs))) H):=by
 intro pins s σ H x y v u Q I rx ry h
 obtain⟨t,a,zs,rfl,rfl,ha,q⟩:=h
 obtain⟨tk,rfl⟩:=rx
 cases ry
 obtain⟨n,_,hS⟩:=(I.hok _ _ ha).1
 exact wpAny_inSet_of (strKind_is X.prog X.w t tk) rfl hS ⟨.bl _,H,I.tok _,rfl,q⟩
def aaH (X:Cx) (to:TE) (t:TA):TE:=fun σ H Q=>to σ H fun x H1=>∃ a,x=.ref a/\(∃ zs,H1 a=some (hoT X a zs))/\t σ H1 fun xs H2=>∃ y zs,xs=[.str y]/\H2 a=some (hoT X a zs)/\zs.length < 4000/\Q .non (upd H2 a (hoT X a (zs++[y])))
theorem VD {o e:Expr} {to:TE} {t:TA} {apos cpos:Pos} (ho:PE X o to) (ha:PA X [e] t)
  (hbase:attributeBase o "add" X.env (eval o X.env)=eval o X.env:=by rfl)
  (hfew:((backTo cpos (starEach [e] X.env)).all (fun x=>!x.1)&&(backToKw cpos (keywordEach [] X.env)).all (fun x=>x.1.isSome)&&decide ([e].length+([]:List Keyword).length+(if ([]:List Keyword).isEmpty then 0 else 1) < 30))=true:=by rfl)
  (hline:(apos.endLine==cpos.line)=true:=by rfl) (hs:starEach [e] X.env=(false,eval e X.env)::starEach [] X.env:=by rfl) (hplain:(backTo cpos (starEach [] X.env)).any (·.1)=false:=by rfl) :
  PE X (.Call (.Attribute o "add" apos) [e] [] cpos) (aaH X to t):=by
 intro pins s σ H Q I h
 refine wpAny_Call_method_late hbase hfew hline rfl (jF (ho pins s σ H _ I h) fun v s1 ⟨x,H1,I1,r1,a,ea,⟨zs,hz⟩,q1⟩=>?_)
 subst ea
 cases r1
 obtain⟨n,_,hS⟩:=(I1.hok _ _ hz).1
 refine⟨"set", "set.add", F.plainAttrs_set,F.slot_set_add,F.type_set_add,hS.typeIs,hS.noDict,?_⟩
 have hA:=ha cpos pins s1 σ H1 _ I1 q1
 rw[hs] at hA ⊢
 refine Calls.callWith_builtin (by show (false||(backTo cpos (starEach [] X.env)).any (·.1))=false;rw[hplain]<;>rfl) (Calls.evalArgs_plain ?_)
 refine jF hA fun us s2 ⟨vs,H2,I2,r2,y,zs2,ev,h2,hl,q2⟩=>?_
 subst ev
 obtain⟨u,rfl,tk,rfl⟩:=vals1 r2
 obtain⟨n2,hn2,hS2⟩:=(I2.hok _ _ h2).1
 have sb:(4001:Nat) < scanBound:=by decide
 refine call_set_add (k:=y) (strKind_is X.prog X.w y tk) rfl hS2 (by omega) fun h' hsb hS'=>?_
 have e:(fun k'=>decide (k'∈zs2)||decide (k'=y))=fun z=>decide (z∈zs2++[y]):=by
  funext z;simp
 rw[e] at hS'
 obtain⟨o',_,_,_,ho',_⟩:=id hS'
 exact⟨.non,_,I2.write (t':=s2.toks+1) (x:=a) (e:=a) (o:=hoT X a (zs2++[y])) (by rw[h2];trivial) (.inl rfl) (fun b u hb e=>by rw[hsb.2 b hb];exact e) ⟨o',ho'⟩ (RM (by rw[List.length_append,List.length_singleton];split<;>omega) hS'),rfl,q2⟩
end
def yx (k1 k2 j:Nat) (f1:Ev->Option Bx) (p:Ev->Option Bool) (fe:Ev->Option Bx) (ρ0:Ev):List Dt->List Str->List Dt->Option (List Dt)
 |[],_,out=>some out
 |d::ds,seen,out=>match d with
  |.tup [a,b]=>(f1 ((ρ0.set k1 (some (.z a))).set k2 (some (.z b)))).bind fun r=>match r with
   |.z dr=>(p (((ρ0.set k1 (some (.z a))).set k2 (some (.z b))).set j (some (.z dr)))).bind fun c=>(fe (((ρ0.set k1 (some (.z a))).set k2 (some (.z b))).set j (some (.z dr)))).bind fun v=>(Wy v).bind fun x=>
    if c=false/\x∉seen/\seen.length < 4000/\out.length < 4000 then yx k1 k2 j f1 p fe ρ0 ds (seen++[x]) (out++[dr]) else none
   |_=>none
  |_=>none
def Ii (i r j k1 k2:Nat) (fi:Ev->Option (List Dt)) (f1:Ev->Option Bx) (p:Ev->Option Bool) (fe:Ev->Option Bx):Ev->Option Out:=fun ρ=>match ρ[r]? with
 |some (some (.o []))=>if i < ρ.length/\j < ρ.length then (fi (((((ρ.set i none).set r none).set j none).set k1 none).set k2 none)).bind fun ds=>(yx k1 k2 j f1 p fe (((((ρ.set i none).set r none).set j none).set k1 none).set k2 none) ds [] []).bind fun out=>
   some (.nx ((((((ρ.set i none).set r none).set j none).set k1 none).set k2 none).set r (some (.o out)))) else none
 |_=>none
section
variable {X:Cx} {iter e1 e2 e3 c:Expr} {fi:Ev->Option (List Dt)} {f1 fe:Ev->Option Bx} {p:Ev->Option Bool} {gr:Ev->Option Out} {x xr xj y1 y2:Str} {rest no:List Stmt} {kk:Nat} {p0 p00 p01 p02 q1 q2 pt pj pa px pb pif pf2 Zc a1 c1 pe1 pr a2 YL c2 pe2 pos:Pos}
theorem nd5 {i r j k1 k2:Nat} (h:[i,r,j,k1,k2].Nodup):i≠r/\i≠j/\i≠k1/\i≠k2/\r≠j/\r≠k1/\r≠k2/\j≠k1/\j≠k2/\k1≠k2:=by
 simp at h;omega
theorem RN (i r j k1 k2:Nat) (hp:PassesOwn (model X.prog X.w) X.A X.env X.xe) (hc:X.calm=true) (hN:X.N.Nodup) (hg:Gl X "set") (hm:X.mg "set" = none) (hi:QIF X (.Tuple [.Name y1 q1,.Name y2 q2] kk pt) iter fi) (h1:QV X e1 f1) (hcn:QB X c p) (h2:QV X e2 fe) (h3:QV X e3 fe) (hr:Qs X rest gr)
  (nd:[i,r,j,k1,k2].Nodup:=by decide) (xi:X.N[i]?=some x:=by rfl) (xR:X.N[r]?=some xr:=by rfl) (xJ:X.N[j]?=some xj:=by rfl) (x1:X.N[k1]?=some y1:=by rfl) (x2:X.N[k2]?=some y2:=by rfl)
  (vi:Tq X.env.scope x:=by first|exact Or.inl rfl|exact Or.inr (Or.inl rfl)|exact Or.inr (Or.inr rfl)) (vr:Tq X.env.scope xr:=by first|exact Or.inl rfl|exact Or.inr (Or.inl rfl)|exact Or.inr (Or.inr rfl)) (vj:Tq X.env.scope xj:=by first|exact Or.inl rfl|exact Or.inr (Or.inl rfl)|exact Or.inr (Or.inr rfl))
  (li:Loc X.env.scope x:=by first|exact Or.inl rfl|exact Or.inr rfl) (lj:Loc X.env.scope xj:=by first|exact Or.inl rfl|exact Or.inr rfl) (l1:Loc X.env.scope y1:=by first|exact Or.inl rfl|exact Or.inr rfl) (l2:Loc X.env.scope y2:=by first|exact Or.inl rfl|exact Or.inr rfl)
  (gi:X.fn x=true\/X.env.scope.names.lookup x=some .local:=by first|exact .inl rfl|exact .inr rfl) (gj:X.fn xj=true\/X.env.scope.names.lookup xj=some .local:=by first|exact .inl rfl|exact .inr rfl) (g1:X.fn y1=true\/X.env.scope.names.lookup y1=some .local:=by first|exact .inl rfl|exact .inr rfl) (g2:X.fn y2=true\/X.env.scope.names.lookup y2=some .local:=by first|exact .inl rfl|exact .inr rfl)
  (di:(x==("__debug__" : Str))=false:=by decide) (ci:(x==("__classdict__" : Str))=false:=by decide) (dr:(xr==("__debug__" : Str))=false:=by decide) (cr:(xr==("__classdict__" : Str))=false:=by decide) (dj:(xj==("__debug__" : Str))=false:=by decide) (cj:(xj==("__classdict__" : Str))=false:=by decide)
  (hs:∀ z,foldedSetIterable iter X.env z=pure z:=by intro _;rfl)
  (ht:(assignEach [.Name y1 q1,.Name y2 q2] X.env).map (·.2)=assign (.Name y1 q1) X.env::(assignEach [.Name y2 q2] X.env).map (·.2):=by rfl) (ht2:(assignEach [.Name y2 q2] X.env).map (·.2)=assign (.Name y2 q2) X.env::(assignEach [] X.env).map (·.2):=by rfl)
  (hn:(assignEach [.Name y1 q1,.Name y2 q2] X.env).length=2:=by rfl) (hst:(assignEach [.Name y1 q1,.Name y2 q2] X.env).findIdx? (·.1)=none:=by rfl)
  (s0:swapsWith (.Call (.Name "set" p00) [] [] p01) (some (.Name x p0)) p02.line X.env=pure false:=by rfl) (s1:swapsWith e1 (some (.Name xj pj)) pa.line X.env=pure false:=by rfl)
  (hmk:behindInMarks .In (.Name x px)=false:=by with_unfolding_all rfl)
  (st1:starEach [e3] X.env=[(false,eval e3 X.env)]:=by rfl) (st2:starEach [.Name xj YL] X.env=[(false,eval (.Name xj YL) X.env)]:=by rfl)
  (hb1:attributeBase (.Name x Zc) "add" X.env (eval (.Name x Zc) X.env)=eval (.Name x Zc) X.env:=by rfl) (hb2:attributeBase (.Name xr pr) "append" X.env (eval (.Name xr pr) X.env)=eval (.Name xr pr) X.env:=by rfl)
  (hw1:((backTo c1 (starEach [e3] X.env)).all (fun x=>!x.1)&&(backToKw c1 (keywordEach [] X.env)).all (fun x=>x.1.isSome)&&decide ([e3].length+([]:List Keyword).length+(if ([]:List Keyword).isEmpty then 0 else 1) < 30))=true:=by rfl)
  (hw2:((backTo c2 (starEach [.Name xj YL] X.env)).all (fun x=>!x.1)&&(backToKw c2 (keywordEach [] X.env)).all (fun x=>x.1.isSome)&&decide ([Expr.Name xj YL].length+([]:List Keyword).length+(if ([]:List Keyword).isEmpty then 0 else 1) < 30))=true:=by rfl)
  (hl1:(a1.endLine==c1.line)=true:=by rfl) (hl2:(a2.endLine==c2.line)=true:=by rfl)
  (s3:swapsWith (.Call (.Attribute (.Name x Zc) "add" a1) [e3] [] c1) none pe1.line X.env=pure false:=by rfl)
  (s4:swapsWith (.Call (.Attribute (.Name xr pr) "append" a2) [.Name xj YL] [] c2) none pe2.line X.env=pure false:=by rfl) :
  Qs X (.Assign [.Name x p0] (.Call (.Name "set" p00) [] [] p01) p02::.For (.Tuple [.Name y1 q1,.Name y2 q2] kk pt) iter [.Assign [.Name xj pj] e1 pa,.If (.BoolOp .Or [c,.Compare e2 [.In] [.Name x px] pb] pif) no [] pf2,.Expr (.Call (.Attribute (.Name x Zc) "add" a1) [e3] [] c1) pe1,.Expr (.Call (.Attribute (.Name xr pr) "append" a2) [.Name xj YL] [] c2) pe2] [] pos::rest) (aH (Ii i r j k1 k2 fi f1 p fe) gr):=by
 obtain⟨n1,n2,n3,n4,n5,n6,n7,n8,n9,n10⟩:=nd5 nd
 have hadd:PE X (.Call (.Attribute (.Name x Zc) "add" a1) [e3] [] c1) _:=VD (rH (i:=i) xi vi di ci) (nZ h3.run wW (by rw[st1]<;>rfl)) hb1 hw1 hl1 (by rw[st1]<;>rfl) rfl
 have happ:PE X (.Call (.Attribute (.Name xr pr) "append" a2) [.Name xj YL] [] c2) _:=
  Hh PySem.F.plainAttrs_list PySem.F.slot_list_append PySem.F.type_list_append wX (rH (i:=r) xR vr dr cr) (nZ (rH (i:=j) xJ vj dj cj) wW (by rw[st2]<;>rfl)) hb2 hw2 hl2 (by rw[st2]<;>rfl) rfl
 refine⟨Ur (pG (Jx (pos:=p02) (pos':=p0) hN xi li (JF VB hg hm rfl) s0 gi)
  (pG (Pz hp hc hi.run (L2.Px hc (L2.z6 (L2.zJ hN x1 l1 g1) (L2.z6 (L2.zJ hN x2 l2 g2) L2.Le ht2) ht) hn hst)
   (pG (Jx (pos:=pa) (pos':=pj) hN xJ lj h1.run s1 gj) (pG (V4 (V3 hcn.run (Pk (Lf YK h2.run (rH (i:=i) xi vi di ci) hmk))).pt Nh Lb) (pG (Fl hadd s3) (TY (Fl happ s4))))) hs) hr.run)) fun De σ H h=>?_⟩
 obtain⟨H0,ρ,out,E,e,q⟩:=h
 obtain⟨o1,eo,e⟩:=bind_some e
 unfold Ii at eo
 split at eo
 rotate_left
 ·cases eo
 rename_i hρ
 split at eo
 rotate_left
 ·cases eo
 rename_i hij
 obtain⟨ds,ed,eo⟩:=bind_some eo
 obtain⟨res,em,eo⟩:=bind_some eo
 cases eo
 obtain⟨v,hσr,L,vs0,rfl,hL,rs0⟩:=E.val r _ hρ
 have fr:∀ (q:Nat) b,(((((ρ.set i none).set r none).set j none).set k1 none).set k2 none)[q]?=some (some b)->q≠i/\q≠r/\q≠j/\q≠k1/\q≠k2/\ρ[q]?=some (some b):=fun q b e=>by
  obtain⟨m1,e⟩:=vV e
  obtain⟨m2,e⟩:=vV e
  obtain⟨m3,e⟩:=vV e
  obtain⟨m4,e⟩:=vV e
  obtain⟨m5,e⟩:=vV e
  exact⟨m5,m4,m3,m2,m1,e⟩
 have hl0:(((((ρ.set i none).set r none).set j none).set k1 none).set k2 none).length=ρ.length:=by simp
 have hrL:r < ρ.length:=(List.getElem?_eq_some_iff.mp hρ).1
 generalize ((((ρ.set i none).set r none).set j none).set k1 none).set k2 none=ρ0 at *
 refine⟨rfl,fun D H1 sm1 hfr hD=>?_⟩
 have E0:aV X.K H0 H1 σ ρ0:=(E.forget hl0.symm fun q b e=>(fr q b e).2.2.2.2.2).grow sm1
 have hL1:=sm1 _ _ hL
 have hLD:L≠D:=fun z=>by rw[z,hfr] at hL;cases hL
 have RQ:∀ (q:Nat) c a,ρ0[q]?=some (some c)->loose c=true->σ[q]?=some (some (.ref a))->a≠L/\a≠D:=fun q c a e1 e2 e3=>by
  obtain⟨_,m2,_,_,_,e⟩:=fr q c e1
  exact⟨fun z=>by subst z;exact m2 (E.own r q _ a c hρ rfl hσr e e2 e3).symm,fun z=>by subst z;exact known E q c a e e2 e3 hfr⟩
 have Zd:∀ q c,ρ0[q]?=some (some c)->(σ.set i (some (V.ref D)))[q]?=σ[q]?:=fun q c e=>nq _ (fr q c e).1
 have E1:aV X.K H0 H1 (σ.set i (some (.ref D))) ρ0:=⟨by rw[List.length_set];exact E0.len,fun q b e=>by rw[Zd q b e];exact E0.val q b e,
  fun q q' c a b e1 e2 e3 e4 e5 e6=>E0.own q q' c a b e1 e2 (by rw[<-Zd q c e1];exact e3) e4 e5 (by rw[<-Zd q' b e4];exact e6),E0.base,fun q c a e1 e2 e3=>E0.new q c a e1 e2 (by rw[<-Zd q c e1];exact e3)⟩
 have hLs:σ.length=ρ.length:=E.len
 have hσi:(σ.set i (some (V.ref D)))[i]?=some (some (.ref D)):=w5 _ (by omega)
 have aaI:(σ.set i (some (V.ref D)))[r]?=some (some (.ref L)):=(nq _ n1.symm).trans hσr
 have sep1:∀ (q:Nat) c a,ρ0[q]?=some (some c)->loose c=true->(σ.set i (some (V.ref D)))[q]?=some (some (.ref a))->a≠L/\a≠D:=fun q c a e1 e2 e3=>RQ q c a e1 e2 (by rw[<-Zd q c e1];exact e3)
 have newL:H0 L=none:=E.new r _ L hρ rfl hσr
 have newD:H0 D=none:=E.base.free hfr
 clear RQ Zd hσr E0 sm1 hL
 dsimp only[Ld]
 generalize hσs:σ.set i (some (V.ref D))=σ1 at *
 have hls1:σ1.length=ρ.length:=by rw[<-hσs,List.length_set];exact hLs
 clear hσs
 refine⟨H0,ρ0,ds,E1,ed,fun J H2 sm2 y=>?_⟩
 have E2:=E1.grow sm2
 have hL2:=sm2 _ _ hL1
 have hD2:=sm2 _ _ hD
 have Y:Yields X.K J ds (mJ (mJ (dZ H2 σ1 ρ0) L) D):=by
  refine y _ ((qz.trans qz).trans mK) (fun a ha=>?_) (fun a o u ha=>?_) fun a vs ha=>?_
  ·rw[jl (fun z=>by rw[z,hD] at ha;cases ha),jl (fun z=>by rw[z,hL1] at ha;cases ha)]
   unfold dZ
   rw[if_neg]
   rintro⟨q,c,e1,ec,e2⟩
   exact known E1 q c a e1 (by cases c<;>first|rfl|cases ec) e2 ha
  ·rw[jl (fun z=>by rw[z,hD2] at ha;cases ha),jl (fun z=>by rw[z,hL2] at ha;cases ha)]
   exact mL E2 (fun vs z=>by rw[ha] at z;cases z) fun vs z=>by rw[ha] at z;cases z
  ·rw[jl (fun z=>by rw[z,hD2] at ha;cases ha),jl (fun z=>by rw[z,hL2] at ha;cases ha)]
   exact mL E2 (fun vs z=>by rw[ha] at z;cases z) fun vs z=>by rw[ha] at z;cases z
 have sub:Same H0 (mJ (mJ (dZ H2 σ1 ρ0) L) D):=fun b o eb=>by
  rw[jl (fun z=>by rw[z,newD] at eb;cases eb),jl (fun z=>by rw[z,newL] at eb;cases eb)]
  exact E2.sub b o eb
 have ES:aV X.K (mJ (mJ (dZ H2 σ1 ρ0) L) D) H2 σ1 ρ0:=by
  have:=E2.sans
  exact⟨this.len,this.val,this.own,(qz.trans qz).trans mK,fun q c a e1 ec e2=>by
   unfold mJ
   split
   ·rfl
   ·split
    ·rfl
    ·exact this.new q c a e1 ec e2⟩
 have hsD:mJ (mJ (dZ H2 σ1 ρ0) L) D D=none:=if_pos rfl
 have hsL:mJ (mJ (dZ H2 σ1 ρ0) L) D L=none:=by rw[jl hLD];exact if_pos rfl
 generalize mJ (mJ (dZ H2 σ1 ρ0) L) D=Hs at Y sub ES hsD hsL
 refine⟨fun n m' σ' H'=>m'=ds.length - n/\n<=ds.length/\(∀ q,q≠j->q≠k1->q≠k2->σ'[q]?=σ1[q]?)/\∃ seen outs vs,aV X.K Hs H' σ' ρ0/\H' L=some (.lst vs)/\aJ X.K H' outs vs/\H' D=some (hoT X D seen)/\yx k1 k2 j f1 p fe ρ0 (ds.drop n) seen outs=some res,⟨ds.length,by simp,Nat.zero_le _,fun _ _ _ _=>rfl,[],[],vs0,ES,hL2,?_,hD2,em⟩,?_⟩
 ·have:=rs0.length
  rw[List.length_nil] at this
  rw[List.length_eq_zero_iff.mp this]
  exact aJ.nil
 rintro n m' σ' H' ⟨rfl,hn',hσ,seen,outs,vs,E',hL',rL,hD',em'⟩
 obtain⟨y1',y2'⟩:=Y n H' E'.base
 by_cases hlt:n < ds.length
 ·right
  have hd:ds[n]?=some ds[n]:=by simp[hlt]
  obtain⟨go,yl⟩:=y1' _ hd
  rw[List.drop_eq_getElem_cons hlt] at em'
  refine⟨go,fun σ2 H2=>(∀ q,q≠j->q≠k1->q≠k2->σ2[q]?=σ1[q]?)/\∃ seen outs vs,aV X.K Hs H2 σ2 ρ0/\H2 L=some (.lst vs)/\aJ X.K H2 outs vs/\H2 D=some (hoT X D seen)/\yx k1 k2 j f1 p fe ρ0 (ds.drop (n+1)) seen outs=some res,fun σ2 H2 ⟨z1,z2⟩=>⟨ds.length - (n+1),by omega,rfl,hlt,z1,z2⟩,fun xv H3 yy=>?_⟩
  obtain⟨sm3,rx⟩:=yl xv H3 yy
  simp only[yx] at em'
  split at em'
  rotate_left
  ·cases em'
  rename_i da db hdd
  rw[hdd] at rx
  obtain⟨b1,eb1,em'⟩:=bind_some em'
  split at em'
  rotate_left
  ·cases em'
  rename_i d1
  obtain⟨t,et,em'⟩:=bind_some em'
  obtain⟨b2,eb2,em'⟩:=bind_some em'
  obtain⟨z,ez,em'⟩:=bind_some em'
  rw[Kh ez] at eb2
  split at em'
  rotate_left
  ·cases em'
  rename_i hok
  have emz:=em'
  obtain⟨rfl,hnew,hs4,ho4⟩:=hok
  simp only[Rep] at rx
  obtain⟨ta,tvs,rfl,sq,rts⟩:=rx
  simp only[aJ] at rts
  obtain⟨va,_,rfl,ra,vb,_,rfl,rb,rfl⟩:=rts
  have E3:=E'.grow sm3
  have Ea:aV X.K Hs H3 (σ'.set k1 (some va)) (ρ0.set k1 (some (.z da))):=E3.set (b:=.z da) (Same.refl H3) ra (.inr rfl) trivial
  have Eb:aV X.K Hs H3 ((σ'.set k1 (some va)).set k2 (some vb)) ((ρ0.set k1 (some (.z da))).set k2 (some (.z db))):=Ea.set (b:=.z db) (Same.refl H3) rb (.inr rfl) trivial
  refine⟨ta,[va,vb],rfl,sq,rfl,va,[vb],rfl,vb,[],rfl,rfl,Hs,_,_,Eb,eb1,fun v1 H4 s4' n4' r4=>?_⟩
  have Ej:aV X.K Hs H4 (((σ'.set k1 (some va)).set k2 (some vb)).set j (some v1)) (((ρ0.set k1 (some (.z da))).set k2 (some (.z db))).set j (some (.z d1))):=Eb.set (b:=.z d1) s4' r4 (.inr rfl) trivial
  have ag:∀ q,q≠j->q≠k1->q≠k2->(((σ'.set k1 (some va)).set k2 (some vb)).set j (some v1))[q]?=σ1[q]?:=fun q a1 a2 a3=>by rw[nq _ a1,nq _ a3,nq _ a2];exact hσ q a1 a2 a3
  have hlj:(((σ'.set k1 (some va)).set k2 (some vb)).set j (some v1))[j]?=some (some v1):=w5 _ (by
   have:=E'.len
   rw[List.length_set,List.length_set,this,hl0];exact hij.2)
  have hi':=(ag i n2 n3 n4).trans hσi
  have hr':=(ag r n5 n6 n7).trans aaI
  have dn:∀ (q:Nat) b,loose b=true->(((ρ0.set k1 (some (.z da))).set k2 (some (.z db))).set j (some (.z d1)))[q]?=some (some b)->ρ0[q]?=some (some b):=fun q b hl e=>by
   rcases getset e with⟨_,z,_⟩|⟨_,e⟩
   ·cases z;cases hl
   ·rcases getset e with⟨_,z,_⟩|⟨_,e⟩
    ·cases z;cases hl
    ·rcases getset e with⟨_,z,_⟩|⟨_,e⟩
     ·cases z;cases hl
     ·exact e
  have sep2:∀ (q:Nat) c a,(((ρ0.set k1 (some (.z da))).set k2 (some (.z db))).set j (some (.z d1)))[q]?=some (some c)->loose c=true->(((σ'.set k1 (some va)).set k2 (some vb)).set j (some v1))[q]?=some (some (.ref a))->a≠L/\a≠D:=fun q c a e1 e2 e3=>by
   have e0:=dn q c e2 e1
   obtain⟨_,_,m3,m4,m5,_⟩:=fr q c e0
   exact sep1 q c a e0 e2 (by rw[<-ag q m3 m4 m5];exact e3)
  have up:∀ (q:Nat) b,ρ0[q]?=some (some b)->(((ρ0.set k1 (some (.z da))).set k2 (some (.z db))).set j (some (.z d1)))[q]?=some (some b):=fun q b e=>by
   obtain⟨_,_,m3,m4,m5,_⟩:=fr q b e
   rw[nq _ m3,nq _ m5,nq _ m4];exact e
  have aaJ:(((ρ0.set k1 (some (.z da))).set k2 (some (.z db))).set j (some (.z d1))).length=ρ0.length:=by simp
  have hLj:=s4' _ _ (sm3 _ _ hL')
  have hDj:=s4' _ _ (sm3 _ _ hD')
  have rLj:=(rL.kp (.of sm3)).kp (.of s4')
  dsimp only[Ld]
  generalize ((σ'.set k1 (some va)).set k2 (some vb)).set j (some v1)=σ3 at *
  generalize ((ρ0.set k1 (some (.z da))).set k2 (some (.z db))).set j (some (.z d1))=ρ3 at *
  refine⟨Hs,ρ3,false,Ej,et,fun H5 s5=>?_⟩
  show (if false=true then _ else _)
  rw[if_neg Bool.false_ne_true]
  refine⟨Hs,ρ3,_,Ej.grow s5,eb2,fun v2 H6 s6 n6' r6=>⟨_,hi',?_⟩⟩
  obtain⟨rfl,hz⟩:=Ga r6
  refine⟨z,D,seen,rfl,rfl,s6 _ _ (s5 _ _ hDj),_,rfl,?_⟩
  show (if decide (z∈seen)=true then _ else _)
  rw[if_neg (by simpa using hnew)]
  have E6:=(Ej.grow s5).grow s6
  refine⟨_,hi',D,rfl,⟨seen,s6 _ _ (s5 _ _ hDj)⟩,Hs,ρ3,_,E6,eb2,fun v3 H7 s7 n7' r7=>?_⟩
  obtain⟨rfl,_⟩:=Ga r7
  have E7:=E6.grow s7
  have hD7:=s7 _ _ (s6 _ _ (s5 _ _ hDj))
  have hL7:=s7 _ _ (s6 _ _ (s5 _ _ hLj))
  refine⟨z,seen,rfl,hD7,hs4,?_⟩
  have kD:Kp H7 (upd H7 D (hoT X D (seen++[z]))):=Yp hD7
  have E8:aV X.K Hs (upd H7 D (hoT X D (seen++[z]))) σ3 ρ3:=E7.move (as:=[D]) (fun q c a e1 e2 e3 z=>(sep2 q c a e1 e2 e3).2 (List.mem_singleton.mp z)) kD (fun b hb=>aO fun z=>hb (by rw[z];simp)) (fun b o eb=>by
   rw[aO fun z=>by rw[z,hsD] at eb;cases eb]
   exact E7.base b o eb) E7.new
  have hL8:upd H7 D (hoT X D (seen++[z])) L=some (.lst vs):=by rw[aO hLD];exact hL7
  have hD8:upd H7 D (hoT X D (seen++[z])) D=some (hoT X D (seen++[z])):=bx
  have rL8:=(((rLj.kp (.of s5)).kp (.of s6)).kp (.of s7)).kp kD
  have r8:Rep X.K (upd H7 D (hoT X D (seen++[z]))) d1 v1:=Rep.kp kD (Rep.kp (.of s7) (Rep.kp (.of s6) (Rep.kp (.of s5) r4)))
  generalize upd H7 D (hoT X D (seen++[z]))=H8 at *
  have sz:(4001:Nat)<=sizeLine:=by decide
  refine⟨_,hr',.inl ⟨rfl,vs,.inl (.inl hL8)⟩,_,hlj,L,vs,v1,rfl,rfl,hL8,by rw[rL8.length];omega,ag,seen++[z],outs++[d1],vs++[v1],?_,bx,(rL8.kp (.lst hL8)).append (aJ.cons (Rep.kp (.lst hL8) r8) aJ.nil),?_,emz⟩
  ·exact (E8.move (as:=[L]) (fun q c a e1 e2 e3 z=>(sep2 q c a e1 e2 e3).1 (List.mem_singleton.mp z)) (.lst hL8) (fun b hb=>aO fun z=>hb (by rw[z];simp)) (fun b o eb=>by
    rw[aO fun z=>by rw[z,hsL] at eb;cases eb]
    exact E8.base b o eb) E8.new).forget aaJ up
  ·rw[aO hLD.symm];exact hD8
 ·left
  have hge:ds.length<=n:=by omega
  rw[List.drop_eq_nil_of_le hge] at em'
  cases em'
  have agL:∀ (q:Nat) c,ρ0[q]?=some (some c)->σ'[q]?=σ1[q]?:=fun q c e=>let ⟨_,_,m3,m4,m5,_⟩:=fr q c e;hσ q m3 m4 m5
  have hr':σ'[r]?=some (some (.ref L)):=(hσ r n5 n6 n7).trans aaI
  have E9:=E'.rebase sub
  have RQ:∀ (q:Nat) c,ρ0[q]?=some (some c)->loose c=true->σ'[q]?≠some (some (.ref L)):=fun q c e1 e2 e3=>(sep1 q c L e1 e2 (by rw[<-agL q c e1];exact e3)).1 rfl
  refine⟨y2' hge,H0,_,out,⟨by rw[List.length_set];exact E9.len,fun q b e=>?_,fun a1 a2 c a b g1 g2 g3 g4 g5 g6=>?_,E9.base,fun a1 c a g1 g2 g3=>?_⟩,e,q⟩
  ·rcases getset e with⟨rfl,z,_⟩|⟨_,e⟩
   ·cases z;exact⟨_,hr',L,vs,rfl,hL',rL⟩
   ·exact E9.val q b e
  ·rcases getset g1 with⟨rfl,z,_⟩|⟨_,k1'⟩
   ·cases z
    rw[hr'] at g3;cases g3
    rcases getset g4 with⟨rfl,_,_⟩|⟨_,k4⟩
    ·rfl
    ·exact absurd g6 (RQ a2 b k4 g5)
   ·rcases getset g4 with⟨rfl,z,_⟩|⟨_,k4⟩
    ·cases z
     rw[hr'] at g6;cases g6
     exact absurd g3 (RQ a1 c k1' (by cases c<;>first|rfl|cases g2))
    ·exact E9.own a1 a2 c a b k1' g2 g3 k4 g5 g6
  ·rcases getset g1 with⟨rfl,z,_⟩|⟨_,g1⟩
   ·rw[hr'] at g3;cases g3
    exact newL
   ·exact E9.new a1 c a g1 g2 g3
end
section
variable {α β γ δ:Type} {ρ:Ev} {e:α->Dt} {ea:β->Dt} {eb:δ->Dt} {f1 fe:Ev->Option Bx} {p:Ev->Option Bool} {fi:Ev->Option (List Dt)} {kk:Ev->Option Out} {cO:γ->Out}
theorem Mv [Inhabited α] {k1 k2 j:Nat} {A:β×δ->Option α} {V:β×δ->Str}:∀ (xs:List (β×δ)) (seen:List Str) (outs:List α),(∀ x∈xs,(A x).isSome=true/\f1 ((ρ.set k1 (some (.z (ea x.1)))).set k2 (some (.z (eb x.2))))=some (.z (eO e (A x)))/\p (((ρ.set k1 (some (.z (ea x.1)))).set k2 (some (.z (eb x.2)))).set j (some (.z (eO e (A x)))))=some false/\fe (((ρ.set k1 (some (.z (ea x.1)))).set k2 (some (.z (eb x.2)))).set j (some (.z (eO e (A x)))))=some (.z (.str (V x)))) →
  (seen++xs.map V).Nodup->seen.length+xs.length < 4000->outs.length+xs.length < 4000->yx k1 k2 j f1 p fe ρ (xs.map (Ka ea eb)) seen (outs.map e)=some ((outs++xs.map fun x=>(A x).getD default).map e)
 |[],seen,outs,_,_,_,_=>by simp[yx]
 |x::xs,seen,outs,h,hn,h1,h2=>by
  obtain⟨a1,a2,a3,a4⟩:=h x (List.mem_cons_self ..)
  rw[List.length_cons] at h1 h2
  rw[List.map_cons]
  simp only[yx,Ka,a2,bnd,a3,a4,Wy]
  rw[if_pos ⟨by first|rfl|trivial,fun hm=>by
   rw[List.map_cons] at hn
   exact (List.nodup_append.mp hn).2.2 _ hm _ (List.mem_cons_self ..) rfl,by omega,by rw[List.length_map];omega⟩]
  have e1:outs.map e++[eO e (A x)]=(outs++[(A x).getD default]).map e:=by
   rw[List.map_append]
   cases hA:A x with
   |none=>rw[hA] at a1;cases a1
   |some y=>rfl
  rw[e1,Mv xs (seen++[V x]) (outs++[(A x).getD default]) (fun y hy=>h y (List.mem_cons_of_mem _ hy)) (by simpa using hn) (by simp;omega) (by simp;omega)]
  simp
def YM [Inhabited α] (i r j k1 k2:Nat) (m0:List α) (hr:ρ[r]?=some (some (oE e m0))) (hij:(decide (i < ρ.length)&&decide (j < ρ.length))=true) {ρ0:Ev} (h0:((((ρ.set i none).set r none).set j none).set k1 none).set k2 none=ρ0) (it:R fi ρ0 (iE (Ka ea eb)))
  (a:∀ x:β×δ,R f1 ((ρ0.set k1 (some (.z (ea x.1)))).set k2 (some (.z (eb x.2)))) (zE (eO e))) (c:∀ (x:β×δ) (y:Option α),R p (((ρ0.set k1 (some (.z (ea x.1)))).set k2 (some (.z (eb x.2)))).set j (some (.z (eO e y)))) tE)
  (v:∀ (x:β×δ) (y:Option α),R fe (((ρ0.set k1 (some (.z (ea x.1)))).set k2 (some (.z (eb x.2)))).set j (some (.z (eO e y)))) (zE eS)) (K:∀ m:List α,R kk (ρ0.set r (some (oE e m))) cO):R (aH (Ii i r j k1 k2 fi f1 p fe) kk) ρ cO:=
 ⟨(K (it.v.map fun x=>(a x).v.getD default)).v,aX (aX (aX (aX (some (m0=[])) it.D) (some (it.v.length < 4000/\(it.v.map fun x=>(v x (a x).v).v).Nodup))) (aaE it.v fun x=>aX (a x).D (aX (some ((a x).v.isSome=true)) (aX (c x (a x).v).D (aX (some ((c x (a x).v).v=false)) (v x (a x).v).D))))) (K (it.v.map fun x=>(a x).v.getD default)).D,fun hd=>by
 obtain⟨h,h4⟩:=aA hd
 obtain⟨h,h3⟩:=aA h
 obtain⟨h',h2⟩:=aA h
 obtain⟨hm,h1⟩:=aA h'
 have hm:m0=[]:=hm
 rw[hm] at hr
 have h2:it.v.length < 4000/\(it.v.map fun x=>(v x (a x).v).v).Nodup:=h2
 have h3:∀ x∈it.v,hold (aX (a x).D (aX (some ((a x).v.isSome=true)) (aX (c x (a x).v).D (aX (some ((c x (a x).v).v=false)) (v x (a x).v).D)))):=h3
 rw[Bool.and_eq_true,decide_eq_true_eq,decide_eq_true_eq] at hij
 rw[qI (ρ':=ρ0.set r (some (oE e (it.v.map fun x=>(a x).v.getD default)))) (by
  unfold Ii
  rw[show ρ[r]?=some (some (Bx.o [])) from hr]
  simp only[if_pos hij,h0,it.ok h1,bnd]
  have:=Mv (ρ:=ρ0) (k1:=k1) (k2:=k2) (j:=j) (f1:=f1) (p:=p) (fe:=fe) (e:=e) (ea:=ea) (eb:=eb) (A:=fun x=>(a x).v) (V:=fun x=>(v x (a x).v).v) it.v [] [] (fun x hx=>by
   obtain⟨d1,d2⟩:=aA (h3 x hx)
   obtain⟨d2,d3⟩:=aA d2
   obtain⟨d3,d4⟩:=aA d3
   obtain⟨d4,d5⟩:=aA d4
   have d4:(c x (a x).v).v=false:=d4
   exact⟨d2,(a x).ok d1,by rw[(c x (a x).v).ok d3,d4],(v x (a x).v).ok d5⟩) (by simpa using h2.2) (by simpa using h2.1) (by simpa using h2.1)
  rw[List.map_nil] at this
  rw[show (iE (Ka ea eb)) it.v=it.v.map (Ka ea eb) from rfl,this,bnd]
  rfl)]
 exact (K _).ok h4⟩
end
theorem lt_iff (a b:Str):Mj a b=true↔G3 a b/\a≠b:=by
 unfold Mj G3
 rw[ltCps_eq]
 simp only[decide_eq_true_eq,decide_eq_false_iff_not]
 constructor
 ·intro h
  exact⟨List.lt_asymm h,fun e=>by subst e;exact List.lt_irrefl _ h⟩
 ·intro ⟨h,hn⟩
  by_cases q:a.cps.toList < b.cps.toList
  ·exact q
  ·exact absurd (HD (a:=a) (b:=b) (by unfold G3;rw[ltCps_eq];simpa using h) (by unfold G3;rw[ltCps_eq];simpa using q)) hn
theorem RT (n:Nat):rng 0 (n+1)=0::(rng 0 n).map (·+1):=by
 unfold rng
 rw[List.range_succ_eq_map,List.map_cons,List.map_map,List.map_map]
 refine congr (congrArg _ ?_) ?_
 ·simp
 ·apply List.map_congr_left
  intro k _
  simp only[Function.comp]
  omega
theorem zV {n:Nat} {i:Int} (h:i∈rng 0 n):∃ k:Nat,k < n/\i=(k:Int):=by
 unfold rng at h
 obtain⟨k,hk,rfl⟩:=List.mem_map.mp h
 exact⟨k,List.mem_range.mp hk,by omega⟩
def xM (xs:List Str):Bool:=((rng 0 ((xs.length:Int) - 1).toNat).map fun i:Int=>Mj (at' xs i) (at' xs (i+1))).all id
theorem Mw (a:Str) (l:List Str) {k:Nat} (h:k < l.length):at' (a::l) ((k:Int)+1)=at' l (k:Int):=by
 have e:=xK (a::l) (k+1) (by simp;omega)
 rw[xK l k h,show ((k:Int)+1)=((k+1:Nat):Int) by omega,e]
 rfl
theorem Ij (a b:Str) (l:List Str):xM (a::b::l)=(Mj a b&&xM (b::l)):=by
 unfold xM
 rw[show (((a::b::l).length:Int) - 1).toNat=l.length+1 by simp only[List.length_cons];omega,show (((b::l).length:Int) - 1).toNat=l.length by simp only[List.length_cons];omega,RT,List.map_cons,List.all_cons,List.map_map]
 refine congr (congrArg _ ?_) (congrArg (fun l:List Bool=>l.all id) ?_)
 ·have e0:=xK (a::b::l) 0 (by simp)
  have e1:=xK (a::b::l) 1 (by simp)
  show Mj (at' (a::b::l) ((0:Nat):Int)) (at' (a::b::l) ((1:Nat):Int))=Mj a b
  rw[e0,e1]
  rfl
 ·apply List.map_congr_left
  intro i hi
  obtain⟨k,hk,rfl⟩:=zV hi
  have e1:=Mw a (b::l) (k:=k) (by simp;omega)
  have e2:=Mw a (b::l) (k:=k+1) (by simp;omega)
  have e3:((k+1:Nat):Int)=(k:Int)+1:=by omega
  rw[e3] at e2
  simp only[Function.comp]
  rw[e1,e2]
theorem yC:∀ (xs:List Str),xM xs=true↔xs.Pairwise fun a b=>Mj a b=true
 |[]=>by simp[xM,rng]
 |[a]=>by simp[xM,rng]
 |a::b::l=>by
  rw[Ij,Bool.and_eq_true,yC (b::l),@List.pairwise_cons _ _ a (b::l)]
  constructor
  ·intro ⟨h1,h2⟩
   refine⟨fun y hy=>?_,h2⟩
   rcases List.mem_cons.mp hy with rfl|hy
   ·exact h1
   ·have:=List.rel_of_pairwise_cons h2 hy
    unfold Mj at *
    simp only[decide_eq_true_eq] at *
    exact List.lt_trans h1 this
  ·intro ⟨h1,h2⟩
   exact⟨h1 b (List.mem_cons_self ..),h2⟩
end P1
end
section
namespace P1
open PySem PySem.Spec PyProof.Rows L2 S1 S6
structure Wd (U:List Str) (w:List (List Str)):Prop where
 ne:∀ s∈w,s≠[]
 so:∀ s∈w,s.Pairwise G3
 nd:w.flatten.Nodup
 sub:∀ x∈w.flatten,x∈U
 st:w.Pairwise (fun a b=>acM a b=true)
def same (w:List (List Str)) (x y:Str):Prop:=∃ s∈w,x∈s/\y∈s
section
variable {α β:Type}
structure GOk (m:List (Int×List α)) (xs:List α):Prop where
 k:(m.map (·.1)).Nodup
 ne:∀ q∈m,q.2≠[]
 p:(m.map (·.2)).flatten.Perm xs
theorem GOk.put {m:List (Int×List α)} {xs:List α} (h:GOk m xs) (k:Int) (x:α):GOk (aaG m k x) (xs++[x]):=by
 unfold aaG
 split
 ·rename_i hk
  obtain⟨q0,hq,e⟩:=List.any_eq_true.mp hk
  have e:q0.1=k:=of_decide_eq_true e
  obtain⟨pre,rest,rfl⟩:=List.append_of_mem hq
  have nk:=h.k
  rw[List.map_append,List.map_cons,List.nodup_append] at nk
  have fix:∀ l:List (Int×List α),k∉l.map (·.1)->l.map (fun q=>if q.1=k then (q.1,q.2++[x]) else q)=l:=fun l hl=>by
   conv=>rhs;rw[<-List.map_id l]
   exact List.map_congr_left fun q hq=>by rw[if_neg fun z=>hl (List.mem_map.mpr ⟨q,hq,z⟩)];rfl
  have f1:=fix pre fun z=>nk.2.2 _ z _ (List.mem_cons_self ..) e.symm
  have f2:=fix rest fun z=>(List.nodup_cons.mp nk.2.1).1 (by rw[e];exact z)
  have f3:(pre++q0::rest).map (fun q=>if q.1=k then (q.1,q.2++[x]) else q)=pre++(q0.1,q0.2++[x])::rest:=by rw[List.map_append,List.map_cons,f1,f2,if_pos e]
  rw[f3]
  refine⟨by have:=h.k;simpa using this,fun q hq=>?_,?_⟩
  ·rcases List.mem_append.mp hq with hq|hq
   ·exact h.ne q (List.mem_append_left _ hq)
   ·rcases List.mem_cons.mp hq with z|hq
    ·rw[z];simp
    ·exact h.ne q (List.mem_append_right _ (List.mem_cons_of_mem _ hq))
  ·refine List.Perm.trans ?_ (h.p.append_right [x])
   simp only[List.map_append,List.map_cons,List.flatten_append,List.flatten_cons,List.append_assoc]
   refine List.Perm.append_left _ (List.Perm.append_left _ ?_)
   exact List.perm_append_comm
 ·rename_i hk
  refine⟨?_,fun q hq=>?_,?_⟩
  ·rw[List.map_append,List.nodup_append]
   refine⟨h.k,by simp,fun a ha b hb=>?_⟩
   have hb:b=k:=by simpa using hb
   subst hb
   intro z
   subst z
   obtain⟨q,hq,e⟩:=List.mem_map.mp ha
   exact hk (List.any_eq_true.mpr ⟨q,hq,decide_eq_true e⟩)
  ·rcases List.mem_append.mp hq with hq|hq
   ·exact h.ne q hq
   ·cases List.mem_singleton.mp hq;simp
  ·rw[List.map_append,List.flatten_append]
   simpa using h.p.append_right [x]
end
end P1
end
section
set_option maxHeartbeats 1000000
namespace P1
open PySem PySem.Spec PyProof.Rows L2
open PySem.Builtin PySem.Builtin.Str
abbrev cs (s:Str):List Nat:=s.cps.toList
theorem bV (a b:Str):cs (a++b)=cs a++cs b:=Array.toList_append
theorem sO {a b:Str} (h:cs a=cs b):a=b:=Str.ext' (Array.toList_inj.mp h)
theorem dw (a:Str):a.length=(cs a).length:=by simp[Str.length]
theorem Gu (y p q:Str) (ps:List Str):Str.join y (p::q::ps)=p++y++Str.join y (q::ps):=rfl
theorem RV {x y:Str} {k:Nat} (h:StrLaws.At x y x.length k):∃ r,(cs x).drop k=cs y++r:=by
 have e:=h.2
 rw[StrLaws.subAt_eq] at e
 have e:((cs x).drop k).take y.length=cs y:=eq_of_beq e
 exact⟨((cs x).drop k).drop y.length,by rw[<-e];exact (List.take_append_drop _ _).symm⟩
theorem RW {x y:Str} {k:Nat} {r:List Nat} (h:(cs x).drop k=cs y++r) (hk:k<=(cs x).length):StrLaws.At x y x.length k:=by
 refine⟨?_,?_⟩
 ·have:=congrArg List.length h
  rw[List.length_drop,List.length_append,<-dw,<-dw] at this
  rw[<-dw] at hk
  omega
 ·rw[StrLaws.subAt_eq]
  apply beq_iff_eq.mpr
  show ((cs x).drop k).take y.length=cs y
  rw[h,dw,List.take_left]
theorem Bg {x y:Str} {c:Nat} {y':List Nat} (hy:cs y=c::y'):∀ (ps:List Str) (p:Str) (cuts:List Nat) (a f:Nat),(∀ q∈p::ps,c∉cs q)->a<=(cs x).length->(cs x).drop a=cs (Str.join y (p::ps))->StrLaws.ChainG x y x.length a cuts f->(∀ k,f<=k->¬ StrLaws.At x y x.length k) →
  StrLaws.partsFrom x y.length a cuts=p::ps
 |[],p,cuts,a,f,hc,ha,hx,hG,hn=>by
  have hx:(cs x).drop a=cs p:=hx
  have hp:=hc p (List.mem_cons_self ..)
  cases cuts with
  |nil=>
   show [strSub x a x.length]=[p]
   congr 1
   refine sO ?_
   show (strSub x a x.length).cps.toList=_
   rw[StrLaws.strSub_toList]
   show ((cs x).drop a).take (x.length - a)=_
   rw[List.take_of_length_le (by rw[List.length_drop,dw];exact Nat.le_refl _),hx]
  |cons d r=>
   obtain⟨g1,g2,_,_⟩:=hG
   obtain⟨t,et⟩:=RV g2
   refine absurd ?_ hp
   rw[<-hx,show (cs x).drop a=((cs x).drop a).take (d - a)++(cs x).drop d by
    rw[show (cs x).drop d=((cs x).drop a).drop (d - a) by rw[List.drop_drop];congr 1;omega,List.take_append_drop],et,hy]
   exact List.mem_append_right _ (List.mem_cons_self ..)
 |q::ps,p,cuts,a,f,hc,ha,hx,hG,hn=>by
  have hx:(cs x).drop a=cs p++(cs y++cs (Str.join y (q::ps))):=by
   rw[hx,Gu,bV,bV,List.append_assoc]
  have hp:=hc p (List.mem_cons_self ..)
  have hl:=congrArg List.length hx
  rw[List.length_drop,List.length_append,List.length_append] at hl
  have hy1:1<=(cs y).length:=by rw[hy];simp
  have e1:(cs x).drop (a+(cs p).length)=cs y++cs (Str.join y (q::ps)):=by
   rw[<-List.drop_drop,hx,List.drop_left]
  have A1:StrLaws.At x y x.length (a+(cs p).length):=RW e1 (by omega)
  have no:∀ d,a<=d->d < a+(cs p).length->¬ StrLaws.At x y x.length d:=fun d h1 h2 hA=>by
   obtain⟨t,et⟩:=RV hA
   refine hp ?_
   have:(cs x).drop d=((cs p).drop (d - a))++(cs y++cs (Str.join y (q::ps))):=by
    rw[show (cs x).drop d=((cs x).drop a).drop (d - a) by rw[List.drop_drop];congr 1;omega,hx,List.drop_append_of_le_length (by omega)]
   rw[et,hy] at this
   have h3:(cs p).drop (d - a)≠[]:=fun z=>by
    have:=congrArg List.length z
    rw[List.length_drop,List.length_nil] at this
    omega
   cases hz:(cs p).drop (d - a) with
   |nil=>exact absurd hz h3
   |cons u v=>
    rw[hz] at this
    injection this with e _
    rw[e]
    exact List.mem_of_mem_drop (i:=d - a) (by rw[hz];exact List.mem_cons_self ..)
  cases cuts with
  |nil=>
   have hG:f=a:=hG
   exact absurd A1 (hn _ (by omega))
  |cons d r=>
   obtain⟨g1,g2,g3,g4⟩:=hG
   have hd:d=a+(cs p).length:=by
    apply Decidable.byContradiction
    intro hne
    by_cases h:d < a+(cs p).length
    ·exact no d g1 h g2
    ·exact g3 _ (by omega) (by omega) A1
   subst hd
   show strSub x a (a+(cs p).length)::StrLaws.partsFrom x y.length (a+(cs p).length+y.length) r=p::q::ps
   rw[Bg hy ps q r _ f (fun z hz=>hc z (List.mem_cons_of_mem _ hz)) (by rw[dw];omega) (by rw[<-List.drop_drop,e1,dw,List.drop_left]) g4 hn]
   congr 1
   refine sO ?_
   show (strSub x a (a+(cs p).length)).cps.toList=_
   rw[StrLaws.strSub_toList]
   show ((cs x).drop a).take (a+(cs p).length - a)=_
   rw[hx,show a+(cs p).length - a=(cs p).length by omega,List.take_left]
theorem RX (x:Str):1<=Builtin.Str.strKind x:=by
 unfold Builtin.Str.strKind
 split
 ·exact Nat.le_refl _
 ·split<;>decide
theorem uY {y:Str} {c:Nat} {y':List Nat} (hy:cs y=c::y') (hk:Builtin.Str.strKind y=1) (p:Str) (ps:List Str) (hc:∀ q∈p::ps,c∉cs q):Txt.split (Txt.join y (p::ps)) y=p::ps:=by
 have ej:Txt.join y (p::ps)=Str.join y (p::ps):=StrLaws.glued_eq_join y _
 rw[ej]
 have hl:1<=y.length:=by rw[dw,hy];simp
 generalize hx:Str.join y (p::ps)=x
 obtain⟨f,hG,hn⟩:=StrLaws.occ_tight x y hl
 have key:=Bg (x:=x) hy ps p _ 0 f hc (Nat.zero_le _) (by rw[hx];rfl) hG hn
 unfold Txt.split
 split
 ·rename_i h
  rw[Bool.or_eq_true,decide_eq_true_eq,decide_eq_true_eq] at h
  have:=RX x
  have h:x.length < y.length:=by omega
  cases ps with
  |nil=>rw[<-hx];rfl
  |cons q ps=>
   rw[<-hx,Gu,dF,dF] at h
   omega
 ·split
  ·rename_i h
   rw[List.isEmpty_iff.mp h] at key
   have key:[strSub x 0 x.length]=p::ps:=key
   rw[StrLaws.sub_whole] at key
   exact key
  ·rw[StrLaws.partsBetween_eq]
   exact key
theorem VF {a b:Str} {c:Nat} (h:c∉cs a):Txt.partition (a++(⟨#[c]⟩++b)) ⟨#[c]⟩=(a,⟨#[c]⟩,b):=by
 have ex:cs (a++(⟨#[c]⟩++b))=cs a++c::cs b:=by rw[bV,bV];rfl
 generalize a++(⟨#[c]⟩++b)=x at ex
 have hA:StrLaws.At x ⟨#[c]⟩ x.length (cs a).length:=RW (r:=cs b) (by rw[ex,List.drop_left];rfl) (by rw[ex,List.length_append];omega)
 rcases partition_whole x ⟨#[c]⟩ with⟨_,hn⟩|⟨i,hp,hi,hn⟩
 ·exact absurd hA (hn _)
 ·have e1:i=(cs a).length:=by
   have h1:¬ (cs a).length < i:=fun z=>hn _ z hA
   have h2:¬ i < (cs a).length:=fun z=>by
    have:=(StrLaws.subAt_one x c i).mp hi
    have this:(cs x)[i]?=some c:=this
    rw[ex,List.getElem?_append_left z] at this
    exact h (List.mem_of_getElem? this)
   omega
  subst e1
  rw[hp]
  have e2:strSub x 0 (cs a).length=a:=sO (by
   show (strSub x 0 _).cps.toList=_
   rw[StrLaws.strSub_toList]
   show ((cs x).drop 0).take _=_
   rw[ex,List.drop_zero,Nat.sub_zero,List.take_left])
  have e3:strSub x ((cs a).length+(⟨#[c]⟩:Str).length) x.length=b:=sO (by
   show (strSub x _ _).cps.toList=_
   rw[StrLaws.strSub_toList]
   show ((cs x).drop ((cs a).length+1)).take _=_
   rw[dw,ex,<-List.drop_drop,List.drop_left]
   show (cs b).take _=_
   rw[List.take_of_length_le]
   rw[List.length_append,List.length_cons]
   show _<=(cs a).length+((cs b).length+1) - ((cs a).length+1)
   omega)
  rw[e2,e3]
theorem Ox {c:Nat} {s:Str} (h:c∈cs s):DY ⟨#[c]⟩ s=true:=by
 unfold DY
 obtain⟨i,hi⟩:=(mem_iff_at s c).mp h
 rcases StrLaws.occ_head s ⟨#[c]⟩ 1 (Nat.le_refl 1) with⟨h0,hn⟩|⟨i,r,h0,_,_⟩
 ·exact absurd hi (hn i)
 ·rw[h0];rfl
theorem Ik {x:Str} {n:Nat} (h:n<=x.length):cs (Txt.slice x (some (n:Int)) none)=(cs x).drop n:=by
 rw[slice_from_eq (b:=x.length) (by omega) (by omega) rfl]
 show ((cs x).drop ((n:Int).toNat)).take _=_
 rw[Int.toNat_natCast,List.take_of_length_le (by rw[List.length_drop,<-dw];omega)]
theorem RZ {x:Str} {n:Nat} (h:n<=x.length):cs (Txt.slice x none (some (n:Int)))=(cs x).take n:=by
 have:=slice_closes_to (x:=x) (j:=(n:Int)) ⟨by omega,by rw[show x.cps.toList.length=x.length by simp[Str.length]];omega⟩
 rw[eq_of_beq this]
 show ((cs x).drop 0).take _=_
 simp
theorem R0 (x:Str):chars x=(cs x).map fun c=>⟨#[c]⟩:=rfl
theorem aaK {x:Str} {i:Int} (h:In x.length i):∃ c∈cs x,ch x i=⟨#[c]⟩:=by
 have:=Gq (xs:=cs x) (i:=i) (by rw[<-dw];exact h)
 refine⟨_,this,?_⟩
 unfold ch at'
 rfl
theorem zW:∀ (y p:Str) (ps:List Str),cs (Txt.join y (p::ps))=cs p++ps.flatMap fun q=>cs y++cs q:=by
 intro y p ps
 rw[show Txt.join y (p::ps)=Str.join y (p::ps) from StrLaws.glued_eq_join y _]
 induction ps generalizing p with
 |nil=>simp[Str.join]
 |cons q ps ih=>rw[Gu,bV,bV,ih,List.flatMap_cons,List.append_assoc,List.append_assoc]
end P1
end
section
set_option synthInstance.maxSize 100000
namespace G03
open PySem PySem.Spec PyProof.Rows L2 P1
noncomputable section
abbrev nF:Type:=Str×Str
abbrev jm:nF->Dt:=Ka eS eS
abbrev aW:Type:=Str×(List nF)
abbrev aY:aW->Dt:=Ka eS (eT jm)
abbrev R3:Type:=Int×Str
def top (i:Nat):Stmt:=PySem.Challenge.pw_onefolk_k03_books_as_texts.main.body.getD i (.Pass ⟨0,0,0,0⟩)
abbrev kY:Stmt:=top 25
abbrev gB:Stmt:=top 26
abbrev jJ:Stmt:=top 27
abbrev fO:Stmt:=top 28
abbrev fP:Stmt:=top 29
abbrev eE:Stmt:=top 30
abbrev fQ:Stmt:=top 32
abbrev fU:Stmt:=top 31
abbrev kZ:Stmt:=top 19
abbrev lg:Stmt:=top 5
abbrev iK:Stmt:=top 14
abbrev mY:Stmt:=top 12
abbrev mZ:Stmt:=top 13
abbrev eF:Stmt:=top 17
abbrev iM:Stmt:=top 6
abbrev jK:Stmt:=top 16
abbrev pP:Stmt:=top 15
abbrev pQ:Stmt:=top 21
abbrev lq:Stmt:=top 20
abbrev jL:Stmt:=top 22
abbrev lu:Stmt:=top 7
abbrev jM:Stmt:=top 23
abbrev vX:Stmt:=top 33
def uK:Ev->Option Out:=(aH (aH (setG 2 (b2 gR (b2 d8 (b2 nu (gv 2) (cB (.int 69621))) (gv 3)) (cB (.int 2147483647)))) jg) (jh [3]))
def qJ:Ev->Option Out:=(aH (Dc (HB Tz (gv 1) (gO pJ (aC (gv 0) aK))) (aH (jj (b2 jx (gv 0) (gv 1))) jg) jg) (aH (setG 2 (b2 gR (b2 nu (cB (.int 48271)) (b2 d8 (b2 d8 (b2 nu (gv 1) (gv 1)) (b2 nu (cB (.int 7)) (gv 1))) (cB (.int 11)))) (cB (.int 2147483647)))) (aH (pL (itF (Tw (gv 0) uU (yq (cB (.int 3))))) (uV 3) uK) (aH (jj (gv 2)) jg))))
def cF:List Bx->Option Bx:=eY 4 qJ
def lA:Ev->Option Out:=(aH (aH (setG 3 (b2 gR (b2 d8 (b2 d8 (b2 nu (gv 3) (b2 d8 (b2 gR (gv 3) (cB (.int 65521))) (cB (.int 40487)))) (b2 nu (cB (.int 7)) (gv 5))) (cB (.int 5))) (cB (.int 1999999973)))) (aH (Ol 2 (b2 jx (gO rQ (aC (gv 3) (aC (b2 gR (gv 4) (cB (.int 1000000))) aK))) (gO Oj (aC (b2 gtB (gv 4) (cB (.int 0))) aK)))) (aH (setG 4 (b2 qZ (gv 4) (cB (.int 1000000)))) jg))) (jh [5]))
def lN:Ev->Option Out:=(aH (setG 2 (gO rQ aK)) (aH (setG 3 (b2 gR (b2 nu (b2 d8 (b2 gR (gv 0) (cB (.int 1999999973))) (cB (.int 31))) (cB (.int 765432101))) (cB (.int 1999999973)))) (aH (setG 4 (cB (.int 0))) (aH (Dc (Tv (HB Tz (gv 0) (cB (.int 0))) (HB geB (gv 0) (b2 U4 (cB (.int 10)) (cB (.int 18))))) (aH (aH (setG 4 (gO Oi (aC (gv 0) aK))) jg) (jh [])) (aH jg (jh []))) (aH (pL (Gf (aC (gv 1) aK)) (uV 5) lA) (aH (FP 2) jg))))))
def bC:List Bx->Option Bx:=eY 6 lN
def nG:Ev->Option Out:=(aH (aH (setG 7 (b2 jx (gv 2) (b2 gR (b2 d8 (gv 6) (b2 jx (gv 0) (cB (.int 2)))) (cB (.int 15))))) (aH (setG 8 (b2 d8 (b2 d8 (Tw (gv 3) uU (yq (gv 4))) (gv 7)) (Tw (gv 3) (yq (gv 4)) uU))) (aH (Dc (HB eqB (b2 gR (b2 jx (gv 0) (cB (.int 3))) (cB (.int 3))) (cB (.int 1))) (aH (aH (setG 8 (b2 nu (b2 jx (gv 2) (b2 qZ (gv 6) (cB (.int 8)))) (b2 d8 (cB (.int 1)) (b2 gR (gv 6) (cB (.int 8)))))) jg) (jh [])) (aH jg (jh []))) (aH (Ol 5 (gv 8)) jg)))) (jh [6,7,8]))
def oJ:Ev->Option Out:=(aH (setG 2 (cB (.str "abcdefghijklmnopqrstuvwxyz"))) (aH (setG 3 (b1 (uH "") (kE (Gf (aC (b2 gR (b2 jx (gv 0) (cB (.int 0))) (cB (.int 6))) aK)) (uV 2) uE (b2 jx (gv 0) (b2 gR (b2 qZ (b2 jx (gv 1) (gv 2)) (cB (.int 40))) (cB (.int 26)))) [2,0] 1))) (aH (setG 4 (b2 gR (b2 jx (gv 0) (cB (.int 1))) (b2 d8 (gO pJ (aC (gv 3) aK)) (cB (.int 1))))) (aH (setG 5 (gO rQ aK)) (aH (pL (Gf (aC (gv 1) aK)) (uV 6) nG) (aH (FP 5) jg))))))
def gW:List Bx->Option Bx:=eY 9 oJ
def oK:Ev->Option Out:=(aH (aH (setG 3 (b2 d8 (gv 3) (b2 jx (gv 1) (b2 gR (b2 qZ (gv 0) (b2 d8 (cB (.int 7)) (b2 nu (cB (.int 5)) (gv 4)))) (gO pJ (aC (gv 1) aK)))))) jg) (jh [4]))
def jU:Ev->Option Out:=(aH (setG 3 (cB (.str ""))) (aH (pL (Gf (aC (b2 d8 (cB (.int 1)) (b2 gR (gv 0) (gv 2))) aK)) (uV 4) oK) (aH (jj (gv 3)) jg)))
def cI:List Bx->Option Bx:=eY 5 jU
def oM:Ev->Option Out:=(aH (aH (setG 4 (bH 3 cI (aC (b2 jx (gv 1) (b2 d8 (cB (.int 1)) (b2 nu (cB (.int 2)) (gv 3)))) (aC (cB (.str "abcdefghijklmnopqrstuvwxyz")) (aC (b2 jx (gO rQ (aC (cB (.int 2)) (aC (cB (.int 8)) aK))) (b2 gR (b2 qZ (b2 jx (gv 1) (b2 d8 (cB (.int 1)) (b2 nu (cB (.int 2)) (gv 3)))) (cB (.int 999))) (cB (.int 2)))) aK))))) (aH (setG 5 (b2 jx (gO rQ (aC (cB (.str "ab01xyz9")) (aC (cB (.str "abcdefghijklmnopqrstuvwxyz0123456789")) aK))) (b2 gR (b2 qZ (b2 jx (gv 1) (b2 d8 (cB (.int 2)) (b2 nu (cB (.int 2)) (gv 3)))) (cB (.int 61))) (cB (.int 2))))) (aH (QX 2 (b1 zO (bH 3 cI (aC (b2 jx (gv 1) (b2 d8 (cB (.int 2)) (b2 nu (cB (.int 2)) (gv 3)))) (aC (gv 5) (aC (b2 jx (gO rQ (aC (cB (.int 3)) (aC (cB (.int 12)) aK))) (b2 gR (b2 qZ (b2 jx (gv 1) (b2 d8 (cB (.int 2)) (b2 nu (cB (.int 2)) (gv 3)))) (cB (.int 999))) (cB (.int 2)))) aK))))) (gv 4)) jg))) (jh [3,4,5]))
def jV:Ev->Option Out:=(aH (setG 2 (fun _=>some (.m [] none))) (aH (pL (Gf (aC (b2 gR (b2 jx (gv 1) (cB (.int 0))) (cB (.int 9))) aK)) (uV 3) oM) (aH (jj (gO yX (aC (gv 0) (aC (gO pB (aC (kE (J3 (gO Ar (aC (gv 2) aK))) (uV 1) uE (gO yX (aC (gv 1) (aC (b2 Ek (gv 0) (gv 1)) aK))) [2] 1) aK)) aK)))) jg)))
def cg:List Bx->Option Bx:=eY 6 jV
def nH:Ev->Option Out:=(aH (aH (setG 7 (b2 jx (gv 4) (b2 gR (b2 d8 (b2 nu (cB (.int 7)) (gv 6)) (b2 jx (gv 3) (cB (.int 7)))) (cB (.int 15))))) (aH (Ol 5 (b1 zO (bH 2 cg (aC (gv 7) (aC (b1 zO (bH 2 bC (aC (b1 zO (bH 2 cF (aC (gv 0) (aC (b1 zO (b2 d8 (b2 d8 (gv 1) (cB (.int 1))) (gv 6))) aK)))) (aC (cB (.int 17)) aK)))) aK))))) jg)) (jh [6,7]))
def jq:Ev->Option Out:=(aH (setG 3 (bH 2 bC (aC (b1 zO (bH 2 cF (aC (gv 0) (aC (gv 1) aK)))) (aC (cB (.int 8)) aK)))) (aH (setG 4 (bH 2 gW (aC (gv 3) (aC (cB (.int 15)) aK)))) (aH (setG 5 (gO rQ aK)) (aH (pL (Gf (aC (b2 gR (b2 jx (gv 3) (cB (.int 6))) (b2 d8 (gv 2) (cB (.int 1)))) aK)) (uV 6) nH) (aH (jj (gO pB (aC (gv 5) aK))) jg)))))
def cU:List Bx->Option Bx:=eY 8 jq
def oN:Ev->Option Out:=(aH (aH (Ol 3 (b1 zO (bH 2 cg (aC (b2 nu (b2 jx (gv 1) (b2 gR (b2 d8 (gv 4) (b2 jx (gv 2) (cB (.int 0)))) (cB (.int 26)))) (b2 d8 (cB (.int 1)) (b2 qZ (gv 4) (cB (.int 26))))) (aC (b1 zO (b2 d8 (gO rQ (aC (b2 gR (b2 jx (gv 2) (b2 gR (gv 4) (cB (.int 17)))) (cB (.int 4))) aK)) (Tw (gv 2) (yq (b2 gR (gv 4) (cB (.int 9)))) uU))) aK))))) jg) (jh [4]))
def jW:Ev->Option Out:=(aH (setG 1 (cB (.str "abcdefghijklmnopqrstuvwxyz"))) (aH (setG 2 (bH 2 bC (aC (b1 zO (bH 2 cF (aC (gv 0) (aC (cB (.int 14)) aK)))) (aC (cB (.int 17)) aK)))) (aH (setG 3 (gO rQ aK)) (aH (pL (Gf (aC (cB (.int 40)) aK)) (uV 4) oN) (aH (jj (gO pB (aC (gv 3) aK))) jg)))))
def cJ:List Bx->Option Bx:=eY 5 jW
def oO:Ev->Option Out:=(aH (aH (setG 1 (b2 d8 (b2 d8 (b2 d8 (b2 d8 (b2 d8 (gv 1) (b2 jx (gO rQ (aC (cB (.str ",")) (aC (cB (.str "")) aK))) (gO Oj (aC (b2 eqB (gv 2) (cB (.int 0))) aK)))) (cB (.str " "))) (b2 jx (b2 jx (b2 jx (gv 0) (cB (.int 1))) (gv 2)) (cB (.int 0)))) (cB (.str " "))) (b2 jx (b2 jx (b2 jx (gv 0) (cB (.int 1))) (gv 2)) (cB (.int 1))))) jg) (jh [2]))
def jX:Ev->Option Out:=(aH (setG 1 (b2 d8 (b2 jx (gv 0) (cB (.int 0))) (cB (.str ":")))) (aH (pL (Gf (aC (gO pJ (aC (b2 jx (gv 0) (cB (.int 1))) aK)) aK)) (uV 2) oO) (aH (jj (gv 1)) jg)))
def cL:List Bx->Option Bx:=eY 3 jX
def qK:Ev->Option Out:=(aH (U9 (yp 2 (kJ (uV 1) (kJ (uV 2) DR))) (gv 0)) (aH (Dc (Af (tV (gv 2))) (aH (jj (Er (pO (Wz (gv 1)) (pO (cB (.str ":")) RG)))) jg) jg) (aH (setG 3 (b1 (uH ", ") (kE (J3 (gv 2)) (yp 2 (kJ (uV 0) (kJ (uV 1) DR))) uE (Er (pO (Wz (gv 0)) (pO (cB (.str " ")) (pO (Wz (gv 1)) RG)))) [] 2))) (aH (jj (Er (pO (Wz (gv 1)) (pO (cB (.str ": ")) (pO (Wz (gv 3)) RG))))) jg))))
def gk:List Bx->Option Bx:=eY 4 qK
def lB:Ev->Option Out:=(aH (jj (uD (sy is_tuple (gv 0)) (b2 eqB (gO pJ (aC (gv 0) aK)) (gv 1)))) jg)
def fG:List Bx->Option Bx:=eY 2 lB
def mQ:Ev->Option Out:=(aH (jj (uD (sy dh (gv 0)) (uD (Z6 leB leB (cB (.int 1)) (gO pJ (aC (gv 0) aK)) (gv 2)) (gO allB (aC (kE (J3 (gv 0)) (uV 1) uE (b2 inF (gv 1) (gv 0)) [1] 1) aK))))) jg)
def dB:List Bx->Option Bx:=eY 3 mQ
def ur:Ev->Option Out:=(aH (jj (bH 3 dB (aC (gv 0) (aC (cB (.str "abcdefghijklmnopqrstuvwxyz")) (aC (cB (.int 8)) aK))))) jg)
def iQ:List Bx->Option Bx:=eY 1 ur
def uw:Ev->Option Out:=(aH (jj (bH 3 dB (aC (gv 0) (aC (b1 zO (b2 d8 (cB (.str "abcdefghijklmnopqrstuvwxyz")) (cB (.str "0123456789")))) (aC (cB (.int 12)) aK))))) jg)
def lC:List Bx->Option Bx:=eY 1 uw
def jr:Ev->Option Out:=(aH (jj (uD (bH 2 fG (aC (gv 0) (aC (cB (.int 2)) aK))) (uD (bH 1 iQ (aC (b2 jx (gv 0) (cB (.int 0))) aK)) (bH 1 lC (aC (b2 jx (gv 0) (cB (.int 1))) aK))))) jg)
def cV:List Bx->Option Bx:=eY 1 jr
def mR:Ev->Option Out:=(aH (jj (gO allB (aC (kE (Gf (aC (b2 subB (gO pJ (aC (gv 0) aK)) (cB (.int 1))) aK)) (uV 1) uE (b2 Tz (b2 jx (gv 0) (gv 1)) (b2 jx (gv 0) (b2 d8 (gv 1) (cB (.int 1))))) [0] 1) aK))) jg)
def gn:List Bx->Option Bx:=eY 1 mR
def oR:Ev->Option Out:=(aH (Dc (Tv (Af (tV (sy is_tuple (gv 0)))) (Af (tV (gO allB (aC (kE (J3 (gv 0)) (uV 0) uE (b1 zO (bH 1 cV (aC (gv 0) aK))) [] 1) aK))))) (aH (jj (cB (.bl false))) jg) jg) (aH (jj (bH 1 gn (aC (b1 zO (kE (J3 (gv 0)) (yp 2 (kJ (uV 0) (kJ (uV 1) DR))) uE (gv 0) [] 2)) aK))) jg))
def gY:List Bx->Option Bx:=eY 1 oR
def vY:Ev->Option Out:=(aH (jj (uD (bH 2 fG (aC (gv 0) (aC (cB (.int 2)) aK))) (uD (bH 1 iQ (aC (b2 jx (gv 0) (cB (.int 0))) aK)) (bH 1 gY (aC (b2 jx (gv 0) (cB (.int 1))) aK))))) jg)
def nJ:List Bx->Option Bx:=eY 1 vY
def vZ:Ev->Option Out:=(aH (U9 (yp 3 (kJ (uV 1) (kJ (uV 2) (kJ (uV 3) DR)))) (b2 RD (gv 0) (cB (.str ":")))) (aH (Dc (Af (tV (gv 2))) (aH (jj (cB .non)) jg) jg) (aH (Dc (Af (tV (gv 3))) (aH (setG 4 (gO yX aK)) jg) (aH (Dc (HB eqB (b2 jx (gv 3) (cB (.int 0))) (cB (.str " "))) (aH (setG 4 (gO pB (aC (kE (J3 (b2 Kg (Tw (gv 3) (yq (cB (.int 1))) uU) (cB (.str ", ")))) (uV 0) uE (gO pB (aC (b2 Kg (gv 0) (cB (.str " "))) aK)) [] 1) aK))) jg) (aH (jj (cB .non)) jg)) jg)) (aH (setG 5 (gO yX (aC (gv 1) (aC (gv 4) aK)))) (aH (jj (b1 zO (Y9 (tV (bH 1 nJ (aC (gv 5) aK))) (gv 5) (cB .non)))) jg)))))
def jY:List Bx->Option Bx:=eY 6 vZ
def qL:Ev->Option Out:=(aH (setG 1 (Y9 (tV (sy dh (gv 0))) (bH 1 jY (aC (gv 0) aK)) (cB .non))) (aH (Dc (HB Zb (gv 1) (cB .non)) (aH noG jg) jg) (aH (jj (gv 1)) jg)))
def jz:List Bx->Option Bx:=eY 2 qL
def oU:Ev->Option Out:=(aH (jj (b1 (uH "\n") (kE (J3 (gv 0)) (uV 0) uE (b1 zO (bH 1 gk (aC (gv 0) aK))) [] 1))) jg)
def dG:List Bx->Option Bx:=eY 1 oU
def qM:Ev->Option Out:=(aH (Dc (Af (tV (sy dh (gv 0)))) (aH noG jg) jg) (aH (jj (Y9 (tV (gv 0)) (b2 Kg (gv 0) (cB (.str "\n"))) (gO rQ aK))) jg))
def jA:List Bx->Option Bx:=eY 1 qM
def oV:Ev->Option Out:=(aH (setG 1 (gO rQ aK)) (aH (Ii 2 1 5 3 4 (enF (aC (b1 zO (bH 1 jA (aC (gv 0) aK))) aK)) (bH 1 jY (aC (gv 4) aK)) (HB Zb (gv 5) (cB .non)) (b2 jx (gv 5) (cB (.int 0)))) (aH (jj (gO pB (aC (gv 1) aK))) jg)))
def dH:List Bx->Option Bx:=eY 6 oV
def Bh:Ev->Option Out:=(aH (aH (Dc (Tv (HB Wm (bH 1 gk (aC (b2 jx (gv 1) (gv 3)) aK)) (b2 jx (gv 2) (gv 3))) (HB Wm (bH 1 jz (aC (b2 jx (gv 2) (gv 3)) aK)) (b2 jx (gv 1) (gv 3)))) (aH (jj (cB (.bl false))) jg) jg) jg) (jh [3]))
def Mx:Ev->Option Out:=(aH (setG 1 (bH 3 cU (aC (gv 0) (aC (cB (.int 0)) (aC (cB (.int 12)) aK))))) (aH (Dc (HB eqB (b2 gR (b2 jx (bH 2 bC (aC (b1 zO (bH 2 cF (aC (gv 0) (aC (cB (.int 13)) aK)))) (aC (cB (.int 1)) aK))) (cB (.int 0))) (cB (.int 8))) (cB (.int 1))) (aH (aH (setG 1 (bH 1 cJ (aC (gv 0) aK))) jg) (jh [])) (aH jg (jh []))) (aH (setG 2 (kE (J3 (gv 1)) (uV 0) uE (b1 zO (bH 1 cL (aC (gv 0) aK))) [] 1)) (aH (pL (Gf (aC (gO pJ (aC (gv 1) aK)) aK)) (uV 3) Bh) (aH (setG 4 (bH 1 dG (aC (gv 1) aK))) (aH (Dc (Tv (Af (tV (sy dh (gv 4)))) (HB Wm (gv 4) (b1 (uH "\n") (gv 2)))) (aH (jj (cB (.bl false))) jg) jg) (aH (setG 5 (bH 1 dH (aC (gv 4) aK))) (aH (jj (uD (sy is_tuple (gv 5)) (uD (b2 eqB (gv 5) (gv 1)) (uD (b2 eqB (bH 1 dG (aC (gO yX aK) aK)) (cB (.str ""))) (b2 eqB (bH 1 dH (aC (cB (.str "")) aK)) (gO yX aK)))))) jg))))))))
def oW:List Bx->Option Bx:=eY 6 Mx
end
end G03
end
section
set_option synthInstance.maxSize 100000
namespace G03
open PySem PySem.Spec PyProof.Rows L2 P1
structure T (K:PySem.W.Frag) (mg:Str->Option Value) (gq:Addr) (fY:FuncData) (cG:Addr) (cM:FuncData) (gZ:Addr) (iR:FuncData) (dO:Addr) (eG:FuncData) (cN:Addr) (cW:FuncData) (cX:Addr) (dI:FuncData) (dR:Addr) (eN:FuncData) (dU:Addr) (eU:FuncData) (g8:Addr) (ig:FuncData) (iu:Addr) (iw:FuncData) (fj:Addr) (fH:FuncData) (jN:Addr) (jB:FuncData) (lD:Addr) (lF:FuncData) (cY:Addr) (dJ:FuncData) (gw:Addr) (gC:FuncData) (iy:Addr) (iT:FuncData) (nM:Addr) (m7:FuncData) (lX:Addr) (lG:FuncData) (jC:Addr) (jO:FuncData) (iz:Addr) (iU:FuncData) (jD:Addr) (jP:FuncData) (iB:Addr) (iV:FuncData) (Es:Addr) (Bj:FuncData):Prop where
 cF:uP K "_law_cell" "_law_cell" kY gq fY
 qN:Binds K fY ["_law_script", "_law_k"] []
 qO:mg "_law_cell" = some (.ref gq)
 qP:PySem.W.keepIn K (.ref gq)=true
 bC:uP K "_law_numbers" "_law_numbers" gB cG cM
 lO:Binds K cM ["_law_cell_here", "_law_many"] []
 lQ:mg "_law_numbers" = some (.ref cG)
 lR:PySem.W.keepIn K (.ref cG)=true
 gW:uP K "_law_names" "_law_names" jJ gZ iR
 Il:Binds K iR ["_law_xs", "_law_many"] []
 Im:mg "_law_names" = some (.ref gZ)
 Io:PySem.W.keepIn K (.ref gZ)=true
 cI:uP K "_law_any_text" "_law_any_text" fO dO eG
 sS:Binds K eG ["_law_x", "_law_letters", "_law_most"] []
 sU:mg "_law_any_text" = some (.ref dO)
 sV:PySem.W.keepIn K (.ref dO)=true
 cg:uP K "_law_wide_row" "_law_wide_row" fP cN cW
 sW:Binds K cW ["_law_name", "_law_xs"] []
 sX:mg "_law_wide_row" = some (.ref cN)
 sY:PySem.W.keepIn K (.ref cN)=true
 cU:uP K "_law_wide_book" "_law_wide_book" eE cX dI
 zc:Binds K dI ["_law_script", "_law_at", "_law_most"] []
 zf:mg "_law_wide_book" = some (.ref cX)
 zj:PySem.W.keepIn K (.ref cX)=true
 cJ:uP K "_law_greatest" "_law_greatest" fQ dR eN
 Bl:Binds K eN ["_law_script"] []
 Bm:mg "_law_greatest" = some (.ref dR)
 Bo:PySem.W.keepIn K (.ref dR)=true
 cL:uP K "_law_row_text" "_law_row_text" fU dU eU
 Bp:Binds K eU ["_law_row"] []
 Bq:mg "_law_row_text" = some (.ref dU)
 Br:PySem.W.keepIn K (.ref dU)=true
 gk:uP K "show_row" "show_row" kZ g8 ig
 Bt:Binds K ig ["row"] []
 Bu:mg "show_row" = some (.ref g8)
 Bv:PySem.W.keepIn K (.ref g8)=true
 fG:uP K "is_tuple" "is_tuple" lg iu iw
 Bw:Binds K iw ["thing", "many"] []
 BJ:mg "is_tuple" = some (.ref iu)
 BK:PySem.W.keepIn K (.ref iu)=true
 dB:uP K "is_text_of" "is_text_of" iK fj fH
 wg:Binds K fH ["thing", "signs", "longest"] []
 wj:mg "is_text_of" = some (.ref fj)
 wk:PySem.W.keepIn K (.ref fj)=true
 iQ:uP K "is_name" "is_name" mY jN jB
 Et:Binds K jB ["thing"] []
 Eu:mg "is_name" = some (.ref jN)
 Ew:PySem.W.keepIn K (.ref jN)=true
 lC:uP K "is_word" "is_word" mZ lD lF
 Oz:Binds K lF ["thing"] []
 OD:mg "is_word" = some (.ref lD)
 OJ:PySem.W.keepIn K (.ref lD)=true
 cV:uP K "is_field_word" "is_field_word" eF cY dJ
 zm:Binds K dJ ["thing"] []
 zp:mg "is_field_word" = some (.ref cY)
 zq:PySem.W.keepIn K (.ref cY)=true
 gn:uP K "are_rising" "are_rising" iM gw gC
 Gv:Binds K gC ["things"] []
 Gw:mg "are_rising" = some (.ref gw)
 Gx:PySem.W.keepIn K (.ref gw)=true
 gY:uP K "are_words" "are_words" jK iy iT
 Ip:Binds K iT ["thing"] []
 Ir:mg "are_words" = some (.ref iy)
 Iu:PySem.W.keepIn K (.ref iy)=true
 nJ:uP K "is_row" "is_row" pP nM m7
 R4:Binds K m7 ["thing"] []
 R5:mg "is_row" = some (.ref nM)
 R6:PySem.W.keepIn K (.ref nM)=true
 jY:uP K "row_in" "row_in" pQ lX lG
 Iv:Binds K lG ["text"] []
 Iw:mg "row_in" = some (.ref lX)
 Iz:PySem.W.keepIn K (.ref lX)=true
 jz:uP K "read_row" "read_row" lq jC jO
 Ko:Binds K jO ["text"] []
 Kq:mg "read_row" = some (.ref jC)
 Kr:PySem.W.keepIn K (.ref jC)=true
 dG:uP K "show_book" "show_book" jL iz iU
 yD:Binds K iU ["book"] []
 yE:mg "show_book" = some (.ref iz)
 yF:PySem.W.keepIn K (.ref iz)=true
 jA:uP K "lines_in" "lines_in" lu jD jP
 Ku:Binds K jP ["text"] []
 Kv:mg "lines_in" = some (.ref jD)
 Kw:PySem.W.keepIn K (.ref jD)=true
 dH:uP K "read_book" "read_book" jM iB iV
 yG:Binds K iV ["text"] []
 yH:mg "read_book" = some (.ref iB)
 yI:PySem.W.keepIn K (.ref iB)=true
 oW:uP K "law" "law" vX Es Bj
 afV:Binds K Bj ["_law_script"] []
 afW:mg "law" = some (.ref Es)
 afX:PySem.W.keepIn K (.ref Es)=true
 IK:mg "abs" = none
 BL:mg "all" = none
 lY:mg "enumerate" = none
 Ey:mg "int" = none
 cu:mg "isinstance" = none
 q9:mg "len" = none
 gG:mg "range" = none
 IV:mg "set" = none
 sZ:mg "sorted" = none
 yJ:mg "str" = none
 iW:mg "tuple" = none
 O1:∃ tk,mg "FIGURES" = some (.str "0123456789" tk)
 Ez:∃ tk,mg "LETTERS" = some (.str "abcdefghijklmnopqrstuvwxyz" tk)
 BP:∃ tk,mg "LONGEST_NAME" = some (.int 8 tk)
 BR:∃ tk,mg "LONGEST_WORD" = some (.int 12 tk)
section
variable {P:Program} {w:World} {K:PySem.W.Frag} {mg:Str->Option Value} {base:Heap} {gq:Addr} {fY:FuncData} {cG:Addr} {cM:FuncData} {gZ:Addr} {iR:FuncData} {dO:Addr} {eG:FuncData} {cN:Addr} {cW:FuncData} {cX:Addr} {dI:FuncData} {dR:Addr} {eN:FuncData} {dU:Addr} {eU:FuncData} {g8:Addr} {ig:FuncData} {iu:Addr} {iw:FuncData} {fj:Addr} {fH:FuncData} {jN:Addr} {jB:FuncData} {lD:Addr} {lF:FuncData} {cY:Addr} {dJ:FuncData} {gw:Addr} {gC:FuncData} {iy:Addr} {iT:FuncData} {nM:Addr} {m7:FuncData} {lX:Addr} {lG:FuncData} {jC:Addr} {jO:FuncData} {iz:Addr} {iU:FuncData} {jD:Addr} {jP:FuncData} {iB:Addr} {iV:FuncData} {Es:Addr} {Bj:FuncData} (t:T K mg gq fY cG cM gZ iR dO eG cN cW cX dI dR eN dU eU g8 ig iu iw fj fH jN jB lD lF cY dJ gw gC iy iT nM m7 lX lG jC jO iz iU jD jP iB iV Es Bj)
theorem yK:bB ["_law_script", "_law_k", "_law_state", "_law_cell_here"] ["_law_script", "_law_k"] (aG kY):=nD
include t in
theorem IW:bF P w K mg base jf 1 gq fY ["_law_script", "_law_k"] (jw K 2 cF):=by
 unfold cF
 refine nC (k:=0) (g:=qJ) t.cF yK rfl rfl fun cdv A outer s H E hr=>?_
 have hu:=bZ hr
 have nd:=yK.nd
 exact (au (pI (nj J4 (ak 1) (fM su rfl t.q9 rW (ao (ak 0) aD)) (gD _)) (au (cD (bG (ak 0) (ak 1))) aQ) aQ) (au (bw 2 nd (aM cH (aM ji aF (aM bJ (aM bJ (aM ji (ak 1) (ak 1)) (aM ji aF (ak 1))) aF)) aF)) (au (qy PassesOwn.never rfl (Uy (Hy (ak 0) rY (rZ aF))) (bM 3 nd) (dN [3] (au (bw 2 nd (aM cH (aM bJ (aM ji (ak 2) aF) (ak 3)) aF)) aQ))) (au (cD (ak 2)) aQ))))
theorem tu:bB ["_law_cell_here", "_law_many", "_law_found", "_law_state", "_law_digits", "_law_k"] ["_law_cell_here", "_law_many"] (aG gB):=nD
include t in
theorem BW:bF P w K mg base jf 1 cG cM ["_law_cell_here", "_law_many"] (jw K 2 bC):=by
 unfold bC
 refine nC (k:=0) (g:=lN) t.bC tu rfl rfl fun cdv A outer s H E hr=>?_
 have hu:=bZ hr
 have nd:=tu.nd
 exact (au (bw 2 nd (mz aD)) (au (bw 3 nd (aM cH (aM ji (aM bJ (aM cH (ak 0) aF) aF) aF) aF)) (au (bw 4 nd aF) (au (pI (Ut (FJ (nj J4 (ak 0) aF (gD _)) (zM (nj aal (ak 0) (aM X8 aF aF) (gD _))))) (dN [] (au (bw 4 nd (fM Yi rfl t.IK Ye (ao (ak 0) aD))) aQ)) (dN [] aQ)) (au (qy PassesOwn.never rfl (jk rfl t.gG (ao (ak 1) aD)) (bM 5 nd) (dN [5] (au (bw 3 nd (aM cH (aM bJ (aM bJ (aM ji (ak 3) (aM bJ (aM cH (ak 3) aF) aF)) (aM ji aF (ak 5))) aF) aF)) (au (FT 2 (bG (mz (ao (ak 3) (ao (aM cH (ak 4) aF) aD))) (jG QS rfl t.Ey QL (ao (rP aak (ak 4) aF (gD _)) aD)))) (au (bw 4 nd (aM ou (ak 4) aF)) aQ))))) (au (Lr 2) aQ))))))
theorem wz:bB ["_law_xs", "_law_many", "_law_letters", "_law_stem", "_law_at", "_law_found", "_law_k", "_law_mark", "_law_name"] ["_law_xs", "_law_many"] (aG jJ):=nD
include t in
theorem Gy:bF P w K mg base jf 1 gZ iR ["_law_xs", "_law_many"] (jw K 2 gW):=by
 unfold gW
 refine nC (k:=0) (g:=oJ) t.gW wz rfl rfl fun cdv A outer s H E hr=>?_
 have hu:=bZ hr
 have nd:=wz.nd
 exact (au (bw 2 nd fD) (au (bw 3 nd (zU (mO ["_law_k"] (Dl ["_law_letters", "_law_xs"] [2,0]) rfl (QG (jk rfl t.gG (ao (aM cH (bG (ak 0) aF) aF) aD))) (fun _ _ _ _=>(bM 2 (by show List.Nodup (_++_);decide +kernel))) (fun _ _ _ _=>fB) (fun _ _ _ _=>(bG (ak 0) (aM cH (aM ou (bG (ak 1) (ak 2)) aF) aF))) (jo)))) (au (bw 4 nd (aM cH (bG (ak 0) aF) (aM bJ (fM su rfl t.q9 rW (ao (ak 3) aD)) aF))) (au (bw 5 nd (mz aD)) (au (qy PassesOwn.never rfl (jk rfl t.gG (ao (ak 1) aD)) (bM 6 nd) (dN [6,7,8] (au (bw 7 nd (bG (ak 2) (aM cH (aM bJ (ak 6) (bG (ak 0) aF)) aF))) (au (bw 8 nd (aM bJ (aM bJ (Hy (ak 3) rY (rZ (ak 4))) (ak 7)) (Hy (ak 3) (rZ (ak 4)) rY))) (au (pI (nj (of_eq hu) (aM cH (bG (ak 0) aF) aF) aF (gD _)) (dN [] (au (bw 8 nd (aM ji (bG (ak 2) (aM ou (ak 6) aF)) (aM bJ aF (aM cH (ak 6) aF)))) aQ)) (dN [] aQ)) (au (FT 5 (ak 8)) aQ)))))) (au (Lr 5) aQ))))))
theorem rz:bB ["_law_x", "_law_letters", "_law_most", "_law_found", "_law_k"] ["_law_x", "_law_letters", "_law_most"] (aG fO):=nD
include t in
theorem zu:bF P w K mg base jf 1 dO eG ["_law_x", "_law_letters", "_law_most"] (jw K 3 cI):=by
 unfold cI
 refine nC (k:=0) (g:=jU) t.cI rz rfl rfl fun cdv A outer s H E hr=>?_
 have hu:=bZ hr
 have nd:=rz.nd
 exact (au (bw 3 nd fD) (au (qy PassesOwn.never rfl (jk rfl t.gG (ao (aM bJ aF (aM cH (ak 0) (ak 2))) aD)) (bM 4 nd) (dN [4] (au (bw 3 nd (aM bJ (ak 3) (bG (ak 1) (aM cH (aM ou (ak 0) (aM bJ aF (aM ji aF (ak 4)))) (fM su rfl t.q9 rW (ao (ak 1) aD)))))) aQ))) (au (cD (ak 3)) aQ)))
theorem rA:bB ["_law_name", "_law_xs", "_law_words", "_law_k", "_law_field", "_law_signs"] ["_law_name", "_law_xs"] (aG fP):=nD
include t in
theorem zx (jZ:bF P w K mg base jf 1 dO eG ["_law_x", "_law_letters", "_law_most"] (jw K 3 cI)):bF P w K mg base jf 2 cN cW ["_law_name", "_law_xs"] (jw K 2 cg):=by
 unfold cg
 refine nC (k:=1) (g:=jV) t.cg rA rfl rfl fun cdv A outer s H E hr=>?_
 have hu:=bZ hr
 have nd:=rA.nd
 exact (au (bw 2 nd Vc) (au (qy PassesOwn.never rfl (jk rfl t.gG (ao (aM cH (bG (ak 1) aF) aF) aD)) (bM 3 nd) (dN [3,4,5] (au (bw 4 nd (aR jZ (hr.mono (by decide)) rfl t.sU t.sV t.sS (ao (bG (ak 1) (aM bJ aF (aM ji aF (ak 3)))) (ao fD (ao (bG (mz (ao aF (ao aF aD))) (aM cH (aM ou (bG (ak 1) (aM bJ aF (aM ji aF (ak 3)))) aF) aF)) aD))))) (au (bw 5 nd (bG (mz (ao fD (ao fD aD))) (aM cH (aM ou (bG (ak 1) (aM bJ aF (aM ji aF (ak 3)))) aF) aF))) (au (Ve 2 hu (lW (aR jZ (hr.mono (by decide)) rfl t.sU t.sV t.sS (ao (bG (ak 1) (aM bJ aF (aM ji aF (ak 3)))) (ao (ak 5) (ao (bG (mz (ao aF (ao aF aD))) (aM cH (aM ou (bG (ak 1) (aM bJ aF (aM ji aF (ak 3)))) aF) aF)) aD))))) (ak 4)) aQ))))) (au (cD (wZ (ao (ak 0) (ao (jG pK rfl t.iW nA (ao (mO ["_law_field"] (Dl ["_law_words"] [2]) rfl (oh (fM (J9 rfl) rfl t.sZ Og (ao (ak 2) aD))) (fun _ _ _ _=>(bM 1 (by show List.Nodup (_++_);decide +kernel))) (fun _ _ _ _=>fB) (fun _ _ _ _=>(wZ (ao (ak 1) (ao (Vd hu (ak 0) (ak 1)) aD)))) (jo)) aD)) aD)))) aQ)))
theorem pR:bB ["_law_script", "_law_at", "_law_most", "_law_head", "_law_names_here", "_law_found", "_law_k", "_law_name"] ["_law_script", "_law_at", "_law_most"] (aG eE):=nD
include t in
theorem xO (fJ:bF P w K mg base jf 1 gq fY ["_law_script", "_law_k"] (jw K 2 cF)) (tB:bF P w K mg base jf 1 gZ iR ["_law_xs", "_law_many"] (jw K 2 gW)) (bW:bF P w K mg base jf 1 cG cM ["_law_cell_here", "_law_many"] (jw K 2 bC)) (fV:bF P w K mg base jf 2 cN cW ["_law_name", "_law_xs"] (jw K 2 cg)):bF P w K mg base jf 3 cX dI ["_law_script", "_law_at", "_law_most"] (jw K 3 cU):=by
 unfold cU
 refine nC (k:=2) (g:=jq) t.cU pR rfl rfl fun cdv A outer s H E hr=>?_
 have hu:=bZ hr
 have nd:=pR.nd
 exact (au (bw 3 nd (aR bW (hr.mono (by decide)) rfl t.lQ t.lR t.lO (ao (lW (aR fJ (hr.mono (by decide)) rfl t.qO t.qP t.qN (ao (ak 0) (ao (ak 1) aD)))) (ao aF aD)))) (au (bw 4 nd (aR tB (hr.mono (by decide)) rfl t.Im t.Io t.Il (ao (ak 3) (ao aF aD)))) (au (bw 5 nd (mz aD)) (au (qy PassesOwn.never rfl (jk rfl t.gG (ao (aM cH (bG (ak 3) aF) (aM bJ (ak 2) aF)) aD)) (bM 6 nd) (dN [6,7] (au (bw 7 nd (bG (ak 4) (aM cH (aM bJ (aM ji aF (ak 6)) (bG (ak 3) aF)) aF))) (au (FT 5 (lW (aR fV (hr.mono (by decide)) rfl t.sX t.sY t.sW (ao (ak 7) (ao (lW (aR bW (hr.mono (by decide)) rfl t.lQ t.lR t.lO (ao (lW (aR fJ (hr.mono (by decide)) rfl t.qO t.qP t.qN (ao (ak 0) (ao (lW (aM bJ (aM bJ (ak 1) aF) (ak 6))) aD)))) (ao aF aD)))) aD))))) aQ)))) (au (cD (jG pK rfl t.iW nA (ao (ak 5) aD))) aQ)))))
theorem rB:bB ["_law_script", "_law_letters", "_law_xs", "_law_found", "_law_k"] ["_law_script"] (aG fQ):=nD
include t in
theorem zy (fJ:bF P w K mg base jf 1 gq fY ["_law_script", "_law_k"] (jw K 2 cF)) (bW:bF P w K mg base jf 1 cG cM ["_law_cell_here", "_law_many"] (jw K 2 bC)) (fV:bF P w K mg base jf 2 cN cW ["_law_name", "_law_xs"] (jw K 2 cg)):bF P w K mg base jf 3 dR eN ["_law_script"] (jw K 1 cJ):=by
 unfold cJ
 refine nC (k:=2) (g:=jW) t.cJ rB rfl rfl fun cdv A outer s H E hr=>?_
 have hu:=bZ hr
 have nd:=rB.nd
 exact (au (bw 1 nd fD) (au (bw 2 nd (aR bW (hr.mono (by decide)) rfl t.lQ t.lR t.lO (ao (lW (aR fJ (hr.mono (by decide)) rfl t.qO t.qP t.qN (ao (ak 0) (ao aF aD)))) (ao aF aD)))) (au (bw 3 nd (mz aD)) (au (qy PassesOwn.never rfl (jk rfl t.gG (ao aF aD)) (bM 4 nd) (dN [4] (au (FT 3 (lW (aR fV (hr.mono (by decide)) rfl t.sX t.sY t.sW (ao (aM ji (bG (ak 1) (aM cH (aM bJ (ak 4) (bG (ak 2) aF)) aF)) (aM bJ aF (aM ou (ak 4) aF))) (ao (lW (aM bJ (mz (ao (aM cH (bG (ak 2) (aM cH (ak 4) aF)) aF) aD)) (Hy (ak 2) (rZ (aM cH (ak 4) aF)) rY))) aD))))) aQ))) (au (cD (jG pK rfl t.iW nA (ao (ak 3) aD))) aQ)))))
theorem rC:bB ["_law_row", "_law_text", "_law_k"] ["_law_row"] (aG fU):=nD
include t in
theorem zA:bF P w K mg base jf 1 dU eU ["_law_row"] (jw K 1 cL):=by
 unfold cL
 refine nC (k:=0) (g:=jX) t.cL rC rfl rfl fun cdv A outer s H E hr=>?_
 have hu:=bZ hr
 have nd:=rC.nd
 exact (au (bw 1 nd (aM bJ (bG (ak 0) aF) fD)) (au (qy PassesOwn.never rfl (jk rfl t.gG (ao (fM su rfl t.q9 rW (ao (bG (ak 0) aF) aD)) aD)) (bM 2 nd) (dN [2] (au (bw 1 nd (aM bJ (aM bJ (aM bJ (aM bJ (aM bJ (ak 1) (bG (mz (ao fD (ao fD aD))) (jG QS rfl t.Ey QL (ao (rP (of_eq hu) (ak 2) aF (gD _)) aD)))) fD) (bG (bG (bG (ak 0) aF) (ak 2)) aF)) fD) (bG (bG (bG (ak 0) aF) (ak 2)) aF))) aQ))) (au (cD (ak 1)) aQ)))
theorem yL:bB ["row", "name", "words", "shown"] ["row"] (aG kZ):=nD
include t in
theorem Ja:bF P w K mg base jf 1 g8 ig ["row"] (jw K 1 gk):=by
 unfold gk
 refine nC (k:=0) (g:=qK) t.gk yL rfl rfl fun cdv A outer s H E hr=>?_
 have hu:=bZ hr
 have nd:=yL.nd
 exact (au (Qv (ak 0) (FQ rfl (jQ (bM 1 nd) (jQ (bM 2 nd) zP)))) (au (pI (uR (o9 (ak 2))) (au (cD (Gr (oH (vW (ak 1)) (oH fD Kl)))) aQ) aQ) (au (bw 3 nd (zU (mO ["field", "word"] (Dl [] []) rfl (oh (ak 2)) (fun _ _ _ _=>(FQ rfl (jQ (bM 0 (by show List.Nodup (_++_);decide +kernel)) (jQ (bM 1 (by show List.Nodup (_++_);decide +kernel)) zP)))) (fun _ _ _ _=>fB) (fun _ _ _ _=>(Gr (oH (vW (ak 0)) (oH fD (oH (vW (ak 1)) Kl))))) (Qz (vL (jo) (vL (jo) Ls)))))) (au (cD (Gr (oH (vW (ak 1)) (oH fD (oH (vW (ak 3)) Kl))))) aQ))))
theorem yM:bB ["thing", "many"] ["thing", "many"] (aG lg):=nD
include t in
theorem Jb:bF P w K mg base jf 1 iu iw ["thing", "many"] (jw K 2 fG):=by
 unfold fG
 refine nC (k:=0) (g:=lB) t.fG yM rfl rfl fun cdv A outer s H E hr=>?_
 have hu:=bZ hr
 have nd:=yM.nd
 exact (au (cD (pq (qF (ak 0) rfl t.cu rfl t.iW) (Ag (rP (of_eq hu) (fM su rfl t.q9 rW (ao (ak 0) aD)) (ak 1) (gD _))))) aQ)
theorem uL:bB ["thing", "signs", "longest"] ["thing", "signs", "longest"] (aG iK):=nD
include t in
theorem Dr:bF P w K mg base jf 1 fj fH ["thing", "signs", "longest"] (jw K 3 dB):=by
 unfold dB
 refine nC (k:=0) (g:=mQ) t.dB uL rfl rfl fun cdv A outer s H E hr=>?_
 have hu:=bZ hr
 have nd:=uL.nd
 exact (au (cD (pq (qD (ak 0) rfl t.cu rfl t.yJ) (pq (Qm of_le of_le aF (fM su rfl t.q9 rW (ao (ak 0) aD)) (ak 2)) (Ag (fM (J2 rfl) rfl t.BL J1 (ao (mO ["sign"] (Dl ["signs"] [1]) rfl (oh (ak 0)) (fun _ _ _ _=>(bM 1 (by show List.Nodup (_++_);decide +kernel))) (fun _ _ _ _=>fB) (fun _ _ _ _=>(rP aan (ak 1) (ak 0) (by with_unfolding_all rfl))) (jo)) aD)))))) aQ)
theorem BX:bB ["thing"] ["thing"] (aG mY):=nD
include t in
theorem Kz (iY:bF P w K mg base jf 1 fj fH ["thing", "signs", "longest"] (jw K 3 dB)):bF P w K mg base jf 2 jN jB ["thing"] (jw K 1 iQ):=by
 unfold iQ
 refine nC (k:=1) (g:=ur) t.iQ BX rfl rfl fun cdv A outer s H E hr=>?_
 have hu:=bZ hr
 have nd:=BX.nd
 obtain⟨uZ,xP⟩:=t.Ez
 obtain⟨rD,BZ⟩:=t.BP
 exact (au (cD (aR iY (hr.mono (by decide)) rfl t.wj t.wk t.wg (ao (ak 0) (ao (Ae rfl xP) (ao (Ho rfl BZ) aD))))) aQ)
theorem Ca:bB ["thing"] ["thing"] (aG mZ):=nD
include t in
theorem KC (iY:bF P w K mg base jf 1 fj fH ["thing", "signs", "longest"] (jw K 3 dB)):bF P w K mg base jf 2 lD lF ["thing"] (jw K 1 lC):=by
 unfold lC
 refine nC (k:=1) (g:=uw) t.lC Ca rfl rfl fun cdv A outer s H E hr=>?_
 have hu:=bZ hr
 have nd:=Ca.nd
 obtain⟨Cd,O2⟩:=t.O1
 obtain⟨uZ,xP⟩:=t.Ez
 obtain⟨rE,Ce⟩:=t.BR
 exact (au (cD (aR iY (hr.mono (by decide)) rfl t.wj t.wk t.wg (ao (ak 0) (ao (lW (aM bJ (Ae rfl xP) (Ae rfl O2))) (ao (Ho rfl Ce) aD))))) aQ)
theorem pU:bB ["thing"] ["thing"] (aG eF):=nD
include t in
theorem xQ (ni:bF P w K mg base jf 2 jN jB ["thing"] (jw K 1 iQ)) (lH:bF P w K mg base jf 1 iu iw ["thing", "many"] (jw K 2 fG)) (xT:bF P w K mg base jf 2 lD lF ["thing"] (jw K 1 lC)):bF P w K mg base jf 3 cY dJ ["thing"] (jw K 1 cV):=by
 unfold cV
 refine nC (k:=2) (g:=jr) t.cV pU rfl rfl fun cdv A outer s H E hr=>?_
 have hu:=bZ hr
 have nd:=pU.nd
 exact (au (cD (pq (aR lH (hr.mono (by decide)) rfl t.BJ t.BK t.Bw (ao (ak 0) (ao aF aD))) (pq (aR ni (hr.mono (by decide)) rfl t.Eu t.Ew t.Et (ao (bG (ak 0) aF) aD)) (Ag (aR xT (hr.mono (by decide)) rfl t.OD t.OJ t.Oz (ao (bG (ak 0) aF) aD)))))) aQ)
theorem uM:bB ["things"] ["things"] (aG iM):=nD
include t in
theorem Ds:bF P w K mg base jf 1 gw gC ["things"] (jw K 1 gn):=by
 unfold gn
 refine nC (k:=0) (g:=mR) t.gn uM rfl rfl fun cdv A outer s H E hr=>?_
 have hu:=bZ hr
 have nd:=uM.nd
 exact (au (cD (fM (J2 rfl) rfl t.BL J1 (ao (mO ["at"] (Dl ["things"] [0]) rfl (QG (jk rfl t.gG (ao (aM X7 (fM su rfl t.q9 rW (ao (ak 0) aD)) aF) aD))) (fun _ _ _ _=>(bM 1 (by show List.Nodup (_++_);decide +kernel))) (fun _ _ _ _=>fB) (fun _ _ _ _=>(rP J4 (bG (ak 0) (ak 1)) (bG (ak 0) (aM bJ (ak 1) aF)) (gD _))) (jo)) aD))) aQ)
theorem wA:bB ["thing"] ["thing"] (aG jK):=nD
include t in
theorem Gz (qQ:bF P w K mg base jf 1 gw gC ["things"] (jw K 1 gn)) (mD:bF P w K mg base jf 3 cY dJ ["thing"] (jw K 1 cV)):bF P w K mg base jf 4 iy iT ["thing"] (jw K 1 gY):=by
 unfold gY
 refine nC (k:=3) (g:=oR) t.gY wA rfl rfl fun cdv A outer s H E hr=>?_
 have hu:=bZ hr
 have nd:=wA.nd
 exact (au (pI (Ut (FJ (uR (o9 (qF (ak 0) rfl t.cu rfl t.iW))) (zM (uR (o9 (fM (J2 rfl) rfl t.BL J1 (ao (mO ["pair"] (Dl [] []) rfl (oh (ak 0)) (fun _ _ _ _=>(bM 0 (by show List.Nodup (_++_);decide +kernel))) (fun _ _ _ _=>fB) (fun _ _ _ _=>(lW (aR mD (hr.mono (by decide)) rfl t.zp t.zq t.zm (ao (ak 0) aD)))) (jo)) aD))))))) (au (cD Qn) aQ) aQ) (au (cD (aR qQ (hr.mono (by decide)) rfl t.Gw t.Gx t.Gv (ao (lW (mO ["field", "word"] (Dl [] []) rfl (oh (ak 0)) (fun _ _ _ _=>(FQ rfl (jQ (bM 0 (by show List.Nodup (_++_);decide +kernel)) (jQ (bM 1 (by show List.Nodup (_++_);decide +kernel)) zP)))) (fun _ _ _ _=>fB) (fun _ _ _ _=>(ak 0)) (Qz (vL (jo) (vL (jo) Ls))))) aD))) aQ))
theorem EY:bB ["thing"] ["thing"] (aG pP):=nD
include t in
theorem O4 (tD:bF P w K mg base jf 4 iy iT ["thing"] (jw K 1 gY)) (ni:bF P w K mg base jf 2 jN jB ["thing"] (jw K 1 iQ)) (lH:bF P w K mg base jf 1 iu iw ["thing", "many"] (jw K 2 fG)):bF P w K mg base jf 5 nM m7 ["thing"] (jw K 1 nJ):=by
 unfold nJ
 refine nC (k:=4) (g:=vY) t.nJ EY rfl rfl fun cdv A outer s H E hr=>?_
 have hu:=bZ hr
 have nd:=EY.nd
 exact (au (cD (pq (aR lH (hr.mono (by decide)) rfl t.BJ t.BK t.Bw (ao (ak 0) (ao aF aD))) (pq (aR ni (hr.mono (by decide)) rfl t.Eu t.Ew t.Et (ao (bG (ak 0) aF) aD)) (Ag (aR tD (hr.mono (by decide)) rfl t.Ir t.Iu t.Ip (ao (bG (ak 0) aF) aD)))))) aQ)
theorem Fb:bB ["text", "name", "colon", "rest", "words", "row"] ["text"] (aG pQ):=nD
include t in
theorem O5 (Cg:bF P w K mg base jf 5 nM m7 ["thing"] (jw K 1 nJ)):bF P w K mg base jf 6 lX lG ["text"] (jw K 1 jY):=by
 unfold jY
 refine nC (k:=5) (g:=vZ) t.jY Fb rfl rfl fun cdv A outer s H E hr=>?_
 have hu:=bZ hr
 have nd:=Fb.nd
 exact (au (Qv (Vz (ak 0) fD) (FQ rfl (jQ (bM 1 nd) (jQ (bM 2 nd) (jQ (bM 3 nd) zP))))) (au (pI (uR (o9 (ak 2))) (au (cD wY) aQ) aQ) (au (pI (uR (o9 (ak 3))) (au (bw 4 nd (wZ aD)) aQ) (au (pI (nj (of_eq hu) (bG (ak 3) aF) fD (gD _)) (au (bw 4 nd (jG pK rfl t.iW nA (ao (mO ["pair"] (Dl [] []) rfl (oh (Bf (Hy (ak 3) (rZ aF) rY) fD)) (fun _ _ _ _=>(bM 0 (by show List.Nodup (_++_);decide +kernel))) (fun _ _ _ _=>fB) (fun _ _ _ _=>(jG pK rfl t.iW nA (ao (Bf (ak 0) fD) aD))) (jo)) aD))) aQ) (au (cD wY) aQ)) aQ)) (au (bw 5 nd (wZ (ao (ak 1) (ao (ak 4) aD)))) (au (cD (lW (JN (o9 (aR Cg (hr.mono (by decide)) rfl t.R5 t.R6 t.R4 (ao (ak 5) aD))) (ak 5) wY))) aQ)))))
theorem yN:bB ["text", "row"] ["text"] (aG lq):=nD
include t in
theorem Jc (pW:bF P w K mg base jf 6 lX lG ["text"] (jw K 1 jY)):bF P w K mg base jf 7 jC jO ["text"] (jw K 1 jz):=by
 unfold jz
 refine nC (k:=6) (g:=qL) t.jz yN rfl rfl fun cdv A outer s H E hr=>?_
 have hu:=bZ hr
 have nd:=yN.nd
 exact (au (bw 1 nd (JN (o9 (qD (ak 0) rfl t.cu rfl t.yJ)) (aR pW (hr.mono (by decide)) rfl t.Iw t.Iz t.Iv (ao (ak 0) aD)) wY)) (au (pI (nj of_is (ak 1) wY (gD _)) (au Mg aQ) aQ) (au (cD (ak 1)) aQ)))
theorem wB:bB ["book"] ["book"] (aG jL):=nD
include t in
theorem GC (lJ:bF P w K mg base jf 1 g8 ig ["row"] (jw K 1 gk)):bF P w K mg base jf 2 iz iU ["book"] (jw K 1 dG):=by
 unfold dG
 refine nC (k:=1) (g:=oU) t.dG wB rfl rfl fun cdv A outer s H E hr=>?_
 have hu:=bZ hr
 have nd:=wB.nd
 exact (au (cD (zU (mO ["row"] (Dl [] []) rfl (oh (ak 0)) (fun _ _ _ _=>(bM 0 (by show List.Nodup (_++_);decide +kernel))) (fun _ _ _ _=>fB) (fun _ _ _ _=>(lW (aR lJ (hr.mono (by decide)) rfl t.Bu t.Bv t.Bt (ao (ak 0) aD)))) (jo)))) aQ)
theorem yO:bB ["text"] ["text"] (aG lu):=nD
include t in
theorem Jd:bF P w K mg base jf 1 jD jP ["text"] (jw K 1 jA):=by
 unfold jA
 refine nC (k:=0) (g:=qM) t.jA yO rfl rfl fun cdv A outer s H E hr=>?_
 have hu:=bZ hr
 have nd:=yO.nd
 exact (au (pI (uR (o9 (qD (ak 0) rfl t.cu rfl t.yJ))) (au Mg aQ) aQ) (au (cD (JN (o9 (ak 0)) (Bf (ak 0) fD) (mz aD))) aQ))
theorem wC:bB ["text", "rows", "names", "at", "line", "row"] ["text"] (aG jM):=nD
include t in
theorem GD (u0:bF P w K mg base jf 1 jD jP ["text"] (jw K 1 jA)) (pW:bF P w K mg base jf 6 lX lG ["text"] (jw K 1 jY)):bF P w K mg base jf 7 iB iV ["text"] (jw K 1 dH):=by
 unfold dH
 refine nC (k:=6) (g:=oV) t.dH wC rfl rfl fun cdv A outer s H E hr=>?_
 have hu:=bZ hr
 have nd:=wC.nd
 exact (au (bw 1 nd (mz aD)) (RN 2 1 5 3 4 PassesOwn.never rfl nd rfl t.IV (Q7 rfl t.lY (ao (lW (aR u0 (hr.mono (by decide)) rfl t.Kv t.Kw t.Ku (ao (ak 0) aD))) aD)) (aR pW (hr.mono (by decide)) rfl t.Iw t.Iz t.Iv (ao (ak 4) aD)) (nj of_is (ak 5) wY (gD _)) (bG (ak 5) aF) (bG (ak 5) aF) (au (cD (jG pK rfl t.iW nA (ao (ak 1) aD))) aQ)))
theorem R7:bB ["_law_script", "_law_book", "_law_texts", "_law_k", "_law_text", "_law_found"] ["_law_script"] (aG vX):=nD
include t in
theorem YQ (fJ:bF P w K mg base jf 1 gq fY ["_law_script", "_law_k"] (jw K 2 cF)) (nO:bF P w K mg base jf 3 dR eN ["_law_script"] (jw K 1 cJ)) (bW:bF P w K mg base jf 1 cG cM ["_law_cell_here", "_law_many"] (jw K 2 bC)) (nP:bF P w K mg base jf 1 dU eU ["_law_row"] (jw K 1 cL)) (mF:bF P w K mg base jf 3 cX dI ["_law_script", "_law_at", "_law_most"] (jw K 3 cU)) (oX:bF P w K mg base jf 7 iB iV ["text"] (jw K 1 dH)) (u5:bF P w K mg base jf 7 jC jO ["text"] (jw K 1 jz)) (oY:bF P w K mg base jf 2 iz iU ["book"] (jw K 1 dG)) (lJ:bF P w K mg base jf 1 g8 ig ["row"] (jw K 1 gk)):bF P w K mg base jf 8 Es Bj ["_law_script"] (jw K 1 oW):=by
 unfold oW
 refine nC (k:=7) (g:=Mx) t.oW R7 rfl rfl fun cdv A outer s H E hr=>?_
 have hu:=bZ hr
 have nd:=R7.nd
 exact (au (bw 1 nd (aR mF (hr.mono (by decide)) rfl t.zf t.zj t.zc (ao (ak 0) (ao aF (ao aF aD))))) (au (pI (nj (of_eq hu) (aM cH (bG (aR bW (hr.mono (by decide)) rfl t.lQ t.lR t.lO (ao (lW (aR fJ (hr.mono (by decide)) rfl t.qO t.qP t.qN (ao (ak 0) (ao aF aD)))) (ao aF aD))) aF) aF) aF (gD _)) (dN [] (au (bw 1 nd (aR nO (hr.mono (by decide)) rfl t.Bm t.Bo t.Bl (ao (ak 0) aD))) aQ)) (dN [] aQ)) (au (UW 2 ["_law_row"] (Dl [] []) rfl nd (oh (ak 1)) (fun _ _ _ _=>(bM 0 (by show List.Nodup (_++_);decide +kernel))) (fun _ _ _ _=>fB) (fun _ _ _ _=>(lW (aR nP (hr.mono (by decide)) rfl t.Bq t.Br t.Bp (ao (ak 0) aD)))) (jo)) (au (qy PassesOwn.never rfl (jk rfl t.gG (ao (fM su rfl t.q9 rW (ao (ak 1) aD)) aD)) (bM 3 nd) (dN [3] (au (pI (Ut (FJ (nj (QH hu) (aR lJ (hr.mono (by decide)) rfl t.Bu t.Bv t.Bt (ao (bG (ak 1) (ak 3)) aD)) (bG (ak 2) (ak 3)) (gD _)) (zM (nj (QH hu) (aR u5 (hr.mono (by decide)) rfl t.Kq t.Kr t.Ko (ao (bG (ak 2) (ak 3)) aD)) (bG (ak 1) (ak 3)) (gD _))))) (au (cD Qn) aQ) aQ) aQ))) (au (bw 4 nd (aR oY (hr.mono (by decide)) rfl t.yE t.yF t.yD (ao (ak 1) aD))) (au (pI (Ut (FJ (uR (o9 (qD (ak 4) rfl t.cu rfl t.yJ))) (zM (nj (QH hu) (ak 4) (zU (ak 2)) (gD _))))) (au (cD Qn) aQ) aQ) (au (bw 5 nd (aR oX (hr.mono (by decide)) rfl t.yH t.yI t.yG (ao (ak 4) aD))) (au (cD (pq (qF (ak 5) rfl t.cu rfl t.iW) (pq (rP (of_eq hu) (ak 5) (ak 1) (gD _)) (pq (rP (of_eq hu) (aR oY (hr.mono (by decide)) rfl t.yE t.yF t.yD (ao (wZ aD) aD)) fD (gD _)) (Ag (rP (of_eq hu) (aR oX (hr.mono (by decide)) rfl t.yH t.yI t.yG (ao fD aD)) (wZ aD) (gD _))))))) aQ))))))))
end
end G03
end
section
set_option synthInstance.maxSize 100000
namespace G03
open PySem PySem.Spec PyProof.Rows L2 P1
theorem all_mk {l:PySem.W.OpenLaw} {w:World} {K:PySem.W.Frag} {h:Heap} {mg:Str->Option Value} {fa:Addr} {f0:Addr} {od0 an0:Option Addr} {sl0:Array (Option Value)} {oc0 kV0 dc0 pm0 cd0 ct0:Value} {f1:Addr} {od1 an1:Option Addr} {sl1:Array (Option Value)} {oc1 kV1 dc1 pm1 cd1 ct1:Value} {f2:Addr} {od2 an2:Option Addr} {sl2:Array (Option Value)} {oc2 kV2 dc2 pm2 cd2 ct2:Value} {f3:Addr} {od3 an3:Option Addr} {sl3:Array (Option Value)} {oc3 kV3 dc3 pm3 cd3 ct3:Value} {f4:Addr} {od4 an4:Option Addr} {sl4:Array (Option Value)} {oc4 kV4 dc4 pm4 cd4 ct4:Value} {f5:Addr} {od5 an5:Option Addr} {sl5:Array (Option Value)} {oc5 kV5 dc5 pm5 cd5 ct5:Value} {f6:Addr} {od6 an6:Option Addr} {sl6:Array (Option Value)} {oc6 kV6 dc6 pm6 cd6 ct6:Value} {f7:Addr} {od7 an7:Option Addr} {sl7:Array (Option Value)} {oc7 kV7 dc7 pm7 cd7 ct7:Value} {f8:Addr} {od8 an8:Option Addr} {sl8:Array (Option Value)} {oc8 kV8 dc8 pm8 cd8 ct8:Value} {f9:Addr} {od9 an9:Option Addr} {sl9:Array (Option Value)} {oc9 kV9 dc9 pm9 cd9 ct9:Value} {f10:Addr} {acY acZ:Option Addr} {ac0:Array (Option Value)} {ac1 ac2 ac3 ac4 aaL ac5:Value} {f11:Addr} {ac6 ac7:Option Addr} {ac8:Array (Option Value)} {ac9 ada adb ade aaM adf:Value} {f12:Addr} {adh adi:Option Addr} {adk:Array (Option Value)} {adl adn ado adp aaN adq:Value} {f13:Addr} {adu adv:Option Addr} {adw:Array (Option Value)} {adx ady adz adA aaO adB:Value} {f14:Addr} {adD adE:Option Addr} {adF:Array (Option Value)} {adG adH adI adJ aaP adK:Value} {f15:Addr} {adM adN:Option Addr} {adO:Array (Option Value)} {adP adQ adR adS aaQ adT:Value} {f16:Addr} {adV adW:Option Addr} {adX:Array (Option Value)} {adY adZ ad0 ad1 aaR ad2:Value} {f17:Addr} {ad4 ad5:Option Addr} {ad6:Array (Option Value)} {ad7 ad8 ad9 aea aaS aeb:Value} {f18:Addr} {aed aee:Option Addr} {aef:Array (Option Value)} {aeg aeh aei aej aaT aek:Value} {f19:Addr} {aem aen:Option Addr} {aeo:Array (Option Value)} {aep aer aes aeu aaU aev:Value} {f20:Addr} {aex aey:Option Addr} {aez:Array (Option Value)} {aeA aeB aeC aeD aaV aeE:Value} {f21:Addr} {aeG aeH:Option Addr} {aeI:Array (Option Value)} {aeJ aeK aeL aeM aaW aeN:Value} {f22:Addr} {aeP aaX:Option Addr} {aeQ:Array (Option Value)} {aeR aaY aaZ aa0 YS aa1:Value} (X:K.In h) (G:h.Ns mainGlobals mg) (hfa:mg "law" = some (.ref fa))
  (a0:PySem.W.nsIn K mainGlobals "_law_cell" = some (some (.ref f0))) (l0:K.lookup f0=some ⟨oc0,od0,.func (PySem.W.fnOf "_law_cell" "_law_cell" (bI kY) (bf kY) (aG kY) .none kV0 dc0 pm0 an0 cd0 ct0),sl0⟩) (c0:PySem.W.codeIn K cd0 "_law_cell" = true) (k0:PySem.W.keepIn K (.ref f0)=true)
  (a1:PySem.W.nsIn K mainGlobals "_law_numbers" = some (some (.ref f1))) (l1:K.lookup f1=some ⟨oc1,od1,.func (PySem.W.fnOf "_law_numbers" "_law_numbers" (bI gB) (bf gB) (aG gB) .none kV1 dc1 pm1 an1 cd1 ct1),sl1⟩) (c1:PySem.W.codeIn K cd1 "_law_numbers" = true) (k1:PySem.W.keepIn K (.ref f1)=true)
  (a2:PySem.W.nsIn K mainGlobals "_law_names" = some (some (.ref f2))) (l2:K.lookup f2=some ⟨oc2,od2,.func (PySem.W.fnOf "_law_names" "_law_names" (bI jJ) (bf jJ) (aG jJ) .none kV2 dc2 pm2 an2 cd2 ct2),sl2⟩) (c2:PySem.W.codeIn K cd2 "_law_names" = true) (k2:PySem.W.keepIn K (.ref f2)=true)
  (a3:PySem.W.nsIn K mainGlobals "_law_any_text" = some (some (.ref f3))) (l3:K.lookup f3=some ⟨oc3,od3,.func (PySem.W.fnOf "_law_any_text" "_law_any_text" (bI fO) (bf fO) (aG fO) .none kV3 dc3 pm3 an3 cd3 ct3),sl3⟩) (c3:PySem.W.codeIn K cd3 "_law_any_text" = true) (k3:PySem.W.keepIn K (.ref f3)=true)
  (a4:PySem.W.nsIn K mainGlobals "_law_wide_row" = some (some (.ref f4))) (l4:K.lookup f4=some ⟨oc4,od4,.func (PySem.W.fnOf "_law_wide_row" "_law_wide_row" (bI fP) (bf fP) (aG fP) .none kV4 dc4 pm4 an4 cd4 ct4),sl4⟩) (c4:PySem.W.codeIn K cd4 "_law_wide_row" = true) (k4:PySem.W.keepIn K (.ref f4)=true)
  (a5:PySem.W.nsIn K mainGlobals "_law_wide_book" = some (some (.ref f5))) (l5:K.lookup f5=some ⟨oc5,od5,.func (PySem.W.fnOf "_law_wide_book" "_law_wide_book" (bI eE) (bf eE) (aG eE) .none kV5 dc5 pm5 an5 cd5 ct5),sl5⟩) (c5:PySem.W.codeIn K cd5 "_law_wide_book" = true) (k5:PySem.W.keepIn K (.ref f5)=true)
  (a6:PySem.W.nsIn K mainGlobals "_law_greatest" = some (some (.ref f6))) (l6:K.lookup f6=some ⟨oc6,od6,.func (PySem.W.fnOf "_law_greatest" "_law_greatest" (bI fQ) (bf fQ) (aG fQ) .none kV6 dc6 pm6 an6 cd6 ct6),sl6⟩) (c6:PySem.W.codeIn K cd6 "_law_greatest" = true) (k6:PySem.W.keepIn K (.ref f6)=true)
  (a7:PySem.W.nsIn K mainGlobals "_law_row_text" = some (some (.ref f7))) (l7:K.lookup f7=some ⟨oc7,od7,.func (PySem.W.fnOf "_law_row_text" "_law_row_text" (bI fU) (bf fU) (aG fU) .none kV7 dc7 pm7 an7 cd7 ct7),sl7⟩) (c7:PySem.W.codeIn K cd7 "_law_row_text" = true) (k7:PySem.W.keepIn K (.ref f7)=true)
  (a8:PySem.W.nsIn K mainGlobals "show_row" = some (some (.ref f8))) (l8:K.lookup f8=some ⟨oc8,od8,.func (PySem.W.fnOf "show_row" "show_row" (bI kZ) (bf kZ) (aG kZ) .none kV8 dc8 pm8 an8 cd8 ct8),sl8⟩) (c8:PySem.W.codeIn K cd8 "show_row" = true) (k8:PySem.W.keepIn K (.ref f8)=true)
  (a9:PySem.W.nsIn K mainGlobals "is_tuple" = some (some (.ref f9))) (l9:K.lookup f9=some ⟨oc9,od9,.func (PySem.W.fnOf "is_tuple" "is_tuple" (bI lg) (bf lg) (aG lg) .none kV9 dc9 pm9 an9 cd9 ct9),sl9⟩) (c9:PySem.W.codeIn K cd9 "is_tuple" = true) (k9:PySem.W.keepIn K (.ref f9)=true)
  (a10:PySem.W.nsIn K mainGlobals "is_text_of" = some (some (.ref f10))) (l10:K.lookup f10=some ⟨ac1,acY,.func (PySem.W.fnOf "is_text_of" "is_text_of" (bI iK) (bf iK) (aG iK) .none ac2 ac3 ac4 acZ aaL ac5),ac0⟩) (c10:PySem.W.codeIn K aaL "is_text_of" = true) (k10:PySem.W.keepIn K (.ref f10)=true)
  (a11:PySem.W.nsIn K mainGlobals "is_name" = some (some (.ref f11))) (l11:K.lookup f11=some ⟨ac9,ac6,.func (PySem.W.fnOf "is_name" "is_name" (bI mY) (bf mY) (aG mY) .none ada adb ade ac7 aaM adf),ac8⟩) (c11:PySem.W.codeIn K aaM "is_name" = true) (k11:PySem.W.keepIn K (.ref f11)=true)
  (a12:PySem.W.nsIn K mainGlobals "is_word" = some (some (.ref f12))) (l12:K.lookup f12=some ⟨adl,adh,.func (PySem.W.fnOf "is_word" "is_word" (bI mZ) (bf mZ) (aG mZ) .none adn ado adp adi aaN adq),adk⟩) (c12:PySem.W.codeIn K aaN "is_word" = true) (k12:PySem.W.keepIn K (.ref f12)=true)
  (a13:PySem.W.nsIn K mainGlobals "is_field_word" = some (some (.ref f13))) (l13:K.lookup f13=some ⟨adx,adu,.func (PySem.W.fnOf "is_field_word" "is_field_word" (bI eF) (bf eF) (aG eF) .none ady adz adA adv aaO adB),adw⟩) (c13:PySem.W.codeIn K aaO "is_field_word" = true) (k13:PySem.W.keepIn K (.ref f13)=true)
  (a14:PySem.W.nsIn K mainGlobals "are_rising" = some (some (.ref f14))) (l14:K.lookup f14=some ⟨adG,adD,.func (PySem.W.fnOf "are_rising" "are_rising" (bI iM) (bf iM) (aG iM) .none adH adI adJ adE aaP adK),adF⟩) (c14:PySem.W.codeIn K aaP "are_rising" = true) (k14:PySem.W.keepIn K (.ref f14)=true)
  (a15:PySem.W.nsIn K mainGlobals "are_words" = some (some (.ref f15))) (l15:K.lookup f15=some ⟨adP,adM,.func (PySem.W.fnOf "are_words" "are_words" (bI jK) (bf jK) (aG jK) .none adQ adR adS adN aaQ adT),adO⟩) (c15:PySem.W.codeIn K aaQ "are_words" = true) (k15:PySem.W.keepIn K (.ref f15)=true)
  (a16:PySem.W.nsIn K mainGlobals "is_row" = some (some (.ref f16))) (l16:K.lookup f16=some ⟨adY,adV,.func (PySem.W.fnOf "is_row" "is_row" (bI pP) (bf pP) (aG pP) .none adZ ad0 ad1 adW aaR ad2),adX⟩) (c16:PySem.W.codeIn K aaR "is_row" = true) (k16:PySem.W.keepIn K (.ref f16)=true)
  (a17:PySem.W.nsIn K mainGlobals "row_in" = some (some (.ref f17))) (l17:K.lookup f17=some ⟨ad7,ad4,.func (PySem.W.fnOf "row_in" "row_in" (bI pQ) (bf pQ) (aG pQ) .none ad8 ad9 aea ad5 aaS aeb),ad6⟩) (c17:PySem.W.codeIn K aaS "row_in" = true) (k17:PySem.W.keepIn K (.ref f17)=true)
  (a18:PySem.W.nsIn K mainGlobals "read_row" = some (some (.ref f18))) (l18:K.lookup f18=some ⟨aeg,aed,.func (PySem.W.fnOf "read_row" "read_row" (bI lq) (bf lq) (aG lq) .none aeh aei aej aee aaT aek),aef⟩) (c18:PySem.W.codeIn K aaT "read_row" = true) (k18:PySem.W.keepIn K (.ref f18)=true)
  (a19:PySem.W.nsIn K mainGlobals "show_book" = some (some (.ref f19))) (l19:K.lookup f19=some ⟨aep,aem,.func (PySem.W.fnOf "show_book" "show_book" (bI jL) (bf jL) (aG jL) .none aer aes aeu aen aaU aev),aeo⟩) (c19:PySem.W.codeIn K aaU "show_book" = true) (k19:PySem.W.keepIn K (.ref f19)=true)
  (a20:PySem.W.nsIn K mainGlobals "lines_in" = some (some (.ref f20))) (l20:K.lookup f20=some ⟨aeA,aex,.func (PySem.W.fnOf "lines_in" "lines_in" (bI lu) (bf lu) (aG lu) .none aeB aeC aeD aey aaV aeE),aez⟩) (c20:PySem.W.codeIn K aaV "lines_in" = true) (k20:PySem.W.keepIn K (.ref f20)=true)
  (a21:PySem.W.nsIn K mainGlobals "read_book" = some (some (.ref f21))) (l21:K.lookup f21=some ⟨aeJ,aeG,.func (PySem.W.fnOf "read_book" "read_book" (bI jM) (bf jM) (aG jM) .none aeK aeL aeM aeH aaW aeN),aeI⟩) (c21:PySem.W.codeIn K aaW "read_book" = true) (k21:PySem.W.keepIn K (.ref f21)=true)
  (a22:PySem.W.nsIn K mainGlobals "law" = some (some (.ref f22))) (l22:K.lookup f22=some ⟨aeR,aeP,.func (PySem.W.fnOf "law" "law" (bI vX) (bf vX) (aG vX) .none aaY aaZ aa0 aaX YS aa1),aeQ⟩) (c22:PySem.W.codeIn K YS "law" = true) (k22:PySem.W.keepIn K (.ref f22)=true)
  (IK:PySem.W.nsIn K mainGlobals "abs" = some none)
  (BL:PySem.W.nsIn K mainGlobals "all" = some none)
  (lY:PySem.W.nsIn K mainGlobals "enumerate" = some none)
  (Ey:PySem.W.nsIn K mainGlobals "int" = some none)
  (cu:PySem.W.nsIn K mainGlobals "isinstance" = some none)
  (q9:PySem.W.nsIn K mainGlobals "len" = some none)
  (gG:PySem.W.nsIn K mainGlobals "range" = some none)
  (IV:PySem.W.nsIn K mainGlobals "set" = some none)
  (sZ:PySem.W.nsIn K mainGlobals "sorted" = some none)
  (yJ:PySem.W.nsIn K mainGlobals "str" = some none)
  (iW:PySem.W.nsIn K mainGlobals "tuple" = some none)
  {Cd:Tok} (u6:PySem.W.nsIn K mainGlobals "FIGURES" = some (some (.str "0123456789" Cd)))
  {uZ:Tok} (u9:PySem.W.nsIn K mainGlobals "LETTERS" = some (some (.str "abcdefghijklmnopqrstuvwxyz" uZ)))
  {rD:Tok} (mG:PySem.W.nsIn K mainGlobals "LONGEST_NAME" = some (some (.int 8 rD)))
  {rE:Tok} (mH:PySem.W.nsIn K mainGlobals "LONGEST_WORD" = some (some (.int 12 rE))) :
  ∃ fd:FuncData,(∀ (s:Shared) (v:Value),BindsTo s fd ⟨[v],[]⟩ [("_law_script", v)])/\∀ base:Heap,K.In base->base.Ns mainGlobals mg->bF l.prog w K mg base jf 8 fa fd ["_law_script"] (jw K 1 oW):=by
 have e:=hfa.symm.trans (PySem.W.mg_of X G a22)
 cases e
 have F0:=dM (st:=kY) l0 c0 k0
 have b0:=F0.binds (ps:=["_law_script", "_law_k"]) fun _ _ _ _ _ _=>len2 fun _ _=>rfl
 have F1:=dM (st:=gB) l1 c1 k1
 have b1:=F1.binds (ps:=["_law_cell_here", "_law_many"]) fun _ _ _ _ _ _=>len2 fun _ _=>rfl
 have F2:=dM (st:=jJ) l2 c2 k2
 have b2:=F2.binds (ps:=["_law_xs", "_law_many"]) fun _ _ _ _ _ _=>len2 fun _ _=>rfl
 have F3:=dM (st:=fO) l3 c3 k3
 have b3:=F3.binds (ps:=["_law_x", "_law_letters", "_law_most"]) fun _ _ _ _ _ _=>YH fun _ _ _=>rfl
 have F4:=dM (st:=fP) l4 c4 k4
 have b4:=F4.binds (ps:=["_law_name", "_law_xs"]) fun _ _ _ _ _ _=>len2 fun _ _=>rfl
 have F5:=dM (st:=eE) l5 c5 k5
 have b5:=F5.binds (ps:=["_law_script", "_law_at", "_law_most"]) fun _ _ _ _ _ _=>YH fun _ _ _=>rfl
 have F6:=dM (st:=fQ) l6 c6 k6
 have b6:=F6.binds (ps:=["_law_script"]) fun _ _ _ _ _ _=>len1 fun _=>rfl
 have F7:=dM (st:=fU) l7 c7 k7
 have b7:=F7.binds (ps:=["_law_row"]) fun _ _ _ _ _ _=>len1 fun _=>rfl
 have F8:=dM (st:=kZ) l8 c8 k8
 have b8:=F8.binds (ps:=["row"]) fun _ _ _ _ _ _=>len1 fun _=>rfl
 have F9:=dM (st:=lg) l9 c9 k9
 have b9:=F9.binds (ps:=["thing", "many"]) fun _ _ _ _ _ _=>len2 fun _ _=>rfl
 have F10:=dM (st:=iK) l10 c10 k10
 have b10:=F10.binds (ps:=["thing", "signs", "longest"]) fun _ _ _ _ _ _=>YH fun _ _ _=>rfl
 have F11:=dM (st:=mY) l11 c11 k11
 have b11:=F11.binds (ps:=["thing"]) fun _ _ _ _ _ _=>len1 fun _=>rfl
 have F12:=dM (st:=mZ) l12 c12 k12
 have b12:=F12.binds (ps:=["thing"]) fun _ _ _ _ _ _=>len1 fun _=>rfl
 have F13:=dM (st:=eF) l13 c13 k13
 have b13:=F13.binds (ps:=["thing"]) fun _ _ _ _ _ _=>len1 fun _=>rfl
 have F14:=dM (st:=iM) l14 c14 k14
 have b14:=F14.binds (ps:=["things"]) fun _ _ _ _ _ _=>len1 fun _=>rfl
 have F15:=dM (st:=jK) l15 c15 k15
 have b15:=F15.binds (ps:=["thing"]) fun _ _ _ _ _ _=>len1 fun _=>rfl
 have F16:=dM (st:=pP) l16 c16 k16
 have b16:=F16.binds (ps:=["thing"]) fun _ _ _ _ _ _=>len1 fun _=>rfl
 have F17:=dM (st:=pQ) l17 c17 k17
 have b17:=F17.binds (ps:=["text"]) fun _ _ _ _ _ _=>len1 fun _=>rfl
 have F18:=dM (st:=lq) l18 c18 k18
 have b18:=F18.binds (ps:=["text"]) fun _ _ _ _ _ _=>len1 fun _=>rfl
 have F19:=dM (st:=jL) l19 c19 k19
 have b19:=F19.binds (ps:=["book"]) fun _ _ _ _ _ _=>len1 fun _=>rfl
 have F20:=dM (st:=lu) l20 c20 k20
 have b20:=F20.binds (ps:=["text"]) fun _ _ _ _ _ _=>len1 fun _=>rfl
 have F21:=dM (st:=jM) l21 c21 k21
 have b21:=F21.binds (ps:=["text"]) fun _ _ _ _ _ _=>len1 fun _=>rfl
 have F22:=dM (st:=vX) l22 c22 k22
 have b22:=F22.binds (ps:=["_law_script"]) fun _ _ _ _ _ _=>len1 fun _=>rfl
 have t:T K mg _ _ _ _ _ _ _ _ _ _ _ _ _ _ _ _ _ _ _ _ _ _ _ _ _ _ _ _ _ _ _ _ _ _ _ _ _ _ _ _ _ _ _ _ _ _:=⟨F0,b0,PySem.W.mg_of X G a0,k0,F1,b1,PySem.W.mg_of X G a1,k1,F2,b2,PySem.W.mg_of X G a2,k2,F3,b3,PySem.W.mg_of X G a3,k3,F4,b4,PySem.W.mg_of X G a4,k4,F5,b5,PySem.W.mg_of X G a5,k5,F6,b6,PySem.W.mg_of X G a6,k6,F7,b7,PySem.W.mg_of X G a7,k7,F8,b8,PySem.W.mg_of X G a8,k8,F9,b9,PySem.W.mg_of X G a9,k9,F10,b10,PySem.W.mg_of X G a10,k10,F11,b11,PySem.W.mg_of X G a11,k11,F12,b12,PySem.W.mg_of X G a12,k12,F13,b13,PySem.W.mg_of X G a13,k13,F14,b14,PySem.W.mg_of X G a14,k14,F15,b15,PySem.W.mg_of X G a15,k15,F16,b16,PySem.W.mg_of X G a16,k16,F17,b17,PySem.W.mg_of X G a17,k17,F18,b18,PySem.W.mg_of X G a18,k18,F19,b19,PySem.W.mg_of X G a19,k19,F20,b20,PySem.W.mg_of X G a20,k20,F21,b21,PySem.W.mg_of X G a21,k21,F22,b22,PySem.W.mg_of X G a22,k22,PySem.W.mg_none_of X G IK,PySem.W.mg_none_of X G BL,PySem.W.mg_none_of X G lY,PySem.W.mg_none_of X G Ey,PySem.W.mg_none_of X G cu,PySem.W.mg_none_of X G q9,PySem.W.mg_none_of X G gG,PySem.W.mg_none_of X G IV,PySem.W.mg_none_of X G sZ,PySem.W.mg_none_of X G yJ,PySem.W.mg_none_of X G iW,⟨_,PySem.W.mg_of X G u6⟩,⟨_,PySem.W.mg_of X G u9⟩,⟨_,PySem.W.mg_of X G mG⟩,⟨_,PySem.W.mg_of X G mH⟩⟩
 refine⟨PySem.W.fnOf "law" "law" (bI vX) (bf vX) (aG vX) .none aaY aaZ aa0 aaX YS aa1,fun s v=>.of_eq rfl,fun base _ _=>?_⟩
 have fJ:=IW (P:=l.prog) (w:=w) (base:=base) t
 have bW:=BW (P:=l.prog) (w:=w) (base:=base) t
 have tB:=Gy (P:=l.prog) (w:=w) (base:=base) t
 have jZ:=zu (P:=l.prog) (w:=w) (base:=base) t
 have fV:=zx (P:=l.prog) (w:=w) (base:=base) t jZ
 have mF:=xO (P:=l.prog) (w:=w) (base:=base) t fJ tB bW fV
 have nO:=zy (P:=l.prog) (w:=w) (base:=base) t fJ bW fV
 have nP:=zA (P:=l.prog) (w:=w) (base:=base) t
 have lJ:=Ja (P:=l.prog) (w:=w) (base:=base) t
 have lH:=Jb (P:=l.prog) (w:=w) (base:=base) t
 have iY:=Dr (P:=l.prog) (w:=w) (base:=base) t
 have ni:=Kz (P:=l.prog) (w:=w) (base:=base) t iY
 have xT:=KC (P:=l.prog) (w:=w) (base:=base) t iY
 have mD:=xQ (P:=l.prog) (w:=w) (base:=base) t ni lH xT
 have qQ:=Ds (P:=l.prog) (w:=w) (base:=base) t
 have tD:=Gz (P:=l.prog) (w:=w) (base:=base) t qQ mD
 have Cg:=O4 (P:=l.prog) (w:=w) (base:=base) t tD ni lH
 have pW:=O5 (P:=l.prog) (w:=w) (base:=base) t Cg
 have u5:=Jc (P:=l.prog) (w:=w) (base:=base) t pW
 have oY:=GC (P:=l.prog) (w:=w) (base:=base) t lJ
 have u0:=Jd (P:=l.prog) (w:=w) (base:=base) t
 have oX:=GD (P:=l.prog) (w:=w) (base:=base) t u0 pW
 have aa3:=YQ (P:=l.prog) (w:=w) (base:=base) t fJ nO bW nP mF oX u5 oY lJ
 exact aa3
theorem walk {l:PySem.W.OpenLaw} {q:Program} {loose:List Str} {XP:(Str->Option Value)->Heap->Prop} {YP:World->Heap->Prop} {d:DefRec} {K:Params->PySem.W.Frag} (hn:l.most=some 63) (hdf:d.params.defaults=[])
  (h1:∀ ns:List Int,ns.length<=63->oW [.z (.lst (ns.map .int))]=some (.z (.bl true))) (h2:∀ ns:List Int,ns.length<=63->oW [.l (ns.map .int)]=some (.z (.bl true)))
  (hY:∀ (w:World) (h:Heap),YP w h->(K w.params).In h)
  (F:∀ (w:World) (mg:Str->Option Value) (fa:Addr) (h:Heap),(K w.params).In h->h.Ns mainGlobals mg->mg d.name=some (.ref fa) →
   ∃ fd:FuncData,(∀ (s:Shared) (u:Value),BindsTo s fd ⟨[u],[]⟩ [("_law_script", u)])/\∀ base:Heap,(K w.params).In base->base.Ns mainGlobals mg->bF l.prog w (K w.params) mg base jf 8 fa fd ["_law_script"] (jw (K w.params) 1 oW)) :
  PySem.W.WalkO q loose XP YP l.row.toRowW d [] (fun f vs=>PySem.call f vs):=
 L2.Qk (n:=63) (k:=8) (x := "_law_script") (CX:=jf) (sp:=fun K=>jw K 1 oW) hn (by decide) hdf ⟨rfl,by decide,by decide⟩ hY F (fun K H a ns hl hO hS=>Yl h1 h2 K H a ns hl hO hS) fun _ _ _ _ z=>z
end G03
end
section
set_option synthInstance.maxSize 100000
namespace G03
open PySem PySem.Spec PyProof.Rows L2 P1
noncomputable section
def uN  (v6:Int) (v7:Int):Int:=(let v6:=(((v6 * (69621:Int))+v7) % (2147483647:Int));v6)
theorem Du (v0:(List Int)) {eV:Bx} (iZ:Lp eV (v0.map eI)) (v5:Int) (v6:Int) (v7:Int):RP uK [some eV,some ((zE eI) v5),some ((zE eI) v6),some ((zE eI) v7)] (fun s=>Out.nx ((fun v6:Int=>[some eV,some ((zE eI) v5),some ((zE eI) v6),none]) s)) (uN  v6 v7) (none):=R.tp (dD (bR 2 (d9 (gF (Mh (aB 2 (zE eI) v6 rfl) 69621 (by decide)) (aB 3 (zE eI) v7 rfl)) 2147483647 (by decide)) (fun _=>rfl) fun v6=>(fX (fZ v6 rfl))))
def aq (v0:(List Int)) (v5:Int):Int:=(if (decide (v5 < (v0.length:Int)))=true then (at' v0 v5) else (let v6:=(((48271:Int) * (((v5 * v5)+((7:Int) * v5))+(11:Int))) % (2147483647:Int));(let v6:Int:=((cut v0 none (some (3:Int))).foldl (fun (v6:Int) (v7:Int)=>(uN  v6 v7)) v6);v6)))
def iD (v0:(List Int)) (v5:Int):Prop:=(((decide (v5 < (v0.length:Int)))=true->In v0.length v5)/\((decide (v5 < (v0.length:Int)))=false->Mul v5 v5))
theorem KD (v0:(List Int)) {eV:Bx} (iZ:Lp eV (v0.map eI)) (v5:Int):RP qJ [some eV,some ((zE eI) v5),none,none] (fun r=>Out.rt ((zE eI) r)) (aq v0 v5) (some (iD v0 v5)):=R.tp (uI (sG (Wr (aB 1 (zE eI) v5 rfl) (x_len (gU 0 eI v0 iZ rfl)))) (dD (d7 (fun r=>r) (kW (gU 0 eI v0 iZ rfl) (aB 1 (zE eI) v5 rfl)) (fun _=>rfl) fun _=>rfl)) (fX (bR 2 (d9 (pC 48271 (by decide) (gF (gF (Wq (aB 1 (zE eI) v5 rfl) (aB 1 (zE eI) v5 rfl)) (pC 7 (by decide) (aB 1 (zE eI) v5 rfl))) (aP (.int 11) eI (11:Int) rfl))) 2147483647 (by decide)) (fun _=>rfl) fun v6=>(Yy (fun v6:Int=>[some eV,some ((zE eI) v5),some ((zE eI) v6),none]) v6 rfl (acL (aaB (gU 0 eI v0 iZ rfl) Ra (Rb (aP (.int 3) eI (3:Int) rfl)))) _ (fun _ _=>rfl) (fun (v6:Int) (v7:Int)=>(Du v0 iZ v5 v6 v7).r) (fun _ _=>rfl) fun v6=>(d7 (fun r=>r) (aB 2 (zE eI) v6 rfl) (fun _=>rfl) fun _=>rfl)))))
theorem qR:∀ v bs,(aL eI (aZ eI aN)) v bs->bs.length=2/\(hold (some (iD v.1 v.2.1))->cF (bs.map lend)=some ((zE eI) (aq v.1 v.2.1))):=by
 rintro⟨v0,v5,_⟩ _ ⟨eV,_,rfl,iZ,⟨_,rfl,rfl⟩⟩
 exact⟨rfl,fun h=>bU (g:=qJ) (n:=4) (bs:=[lend eV,.z (eI v5)]) (KD v0 (Av iZ) v5) h⟩
end
end G03
end
section
set_option synthInstance.maxSize 100000
namespace G03
open PySem PySem.Spec PyProof.Rows L2 P1
noncomputable section
def bK  (s1:Int×(List Int)×Int) (v5:Int):Int×(List Int)×Int:=(let v6:=((((s1.1 * ((s1.1 % (65521:Int))+(40487:Int)))+((7:Int) * v5))+(5:Int)) % (1999999973:Int));(let v9:=s1.2.1++[(at' [v6,(s1.2.2 % (1000000:Int))] (if (decide ((0:Int) < s1.2.2))=true then (1:Int) else 0))];(let va:=(s1.2.2 / (1000000:Int));(v6,v9,va))))
def jc  (s1:Int×(List Int)×Int) (v5:Int):Prop:=(Mul s1.1 ((s1.1 % (65521:Int))+(40487:Int))/\(let v6:=((((s1.1 * ((s1.1 % (65521:Int))+(40487:Int)))+((7:Int) * v5))+(5:Int)) % (1999999973:Int));(In [v6,(s1.2.2 % (1000000:Int))].length (if (decide ((0:Int) < s1.2.2))=true then (1:Int) else 0)/\Dp s1.2.1.length)))
theorem xU (v7:Int) (v8:Int) (s1:Int×(List Int)×Int) (v5:Int):RP lA [some ((zE eI) v7),some ((zE eI) v8),some ((oE eI) s1.2.1),some ((zE eI) s1.1),some ((zE eI) s1.2.2),some ((zE eI) v5)] (fun s=>Out.nx ((fun s1:Int×(List Int)×Int=>[some ((zE eI) v7),some ((zE eI) v8),some ((oE eI) s1.2.1),some ((zE eI) s1.1),some ((zE eI) s1.2.2),none]) s)) (bK  s1 v5) (some (jc  s1 v5)):=R.tp (dD (bR 3 (d9 (gF (gF (Wq (aB 3 (zE eI) s1.1 rfl) (gF (d9 (aB 3 (zE eI) s1.1 rfl) 65521 (by decide)) (aP (.int 40487) eI (40487:Int) rfl))) (pC 7 (by decide) (aB 5 (zE eI) v5 rfl))) (aP (.int 5) eI (5:Int) rfl)) 1999999973 (by decide)) (fun _=>rfl) fun v6=>(dD (Mr 2 s1.2.1 rfl (kW (qG (q8 (jT (aB 3 (zE eI) v6 rfl) (jT (d9 (aB 4 (zE eI) s1.2.2 rfl) 1000000 (by decide)) (mC eI))) (Nat.le_of_ble_eq_true rfl))) (Rm (acI (aB 4 (zE eI) s1.2.2 rfl) (aP (.int 0) eI (0:Int) rfl)))) fun v9=>(dD (bR 4 (qH (aB 4 (zE eI) s1.2.2 rfl) 1000000 (by decide)) (fun _=>rfl) fun va=>(fX (fZ (v6,v9,va) rfl))))))))
def pX (v7:Int) (v8:Int) (v9:(List Int)) (v6:Int) (va:Int):(List Int):=v9
def pY:Ev->Option Out:=(aH (FP 2) jg)
theorem xV (v7:Int) (v8:Int) (v9:(List Int)) (v6:Int) (va:Int):RP pY [some ((zE eI) v7),some ((zE eI) v8),some ((oE eI) v9),some ((zE eI) v6),some ((zE eI) va),none] (fun r=>Out.rt ((oE eI) r)) (pX v7 v8 v9 v6 va) (none):=R.tp (Rr 2 (fun r=>r) v9 rfl (fun _=>rfl) fun _=>rfl)
def jd (v7:Int) (v8:Int) (v9:(List Int)) (v6:Int) (va:Int):(List Int):=(let s1:Int×(List Int)×Int:=((rng 0 v8.toNat).foldl (fun (s1:Int×(List Int)×Int) (v5:Int)=>(bK  s1 v5)) (v6,v9,va));(pX v7 v8 s1.2.1 s1.1 s1.2.2))
def lK (v7:Int) (v8:Int) (v9:(List Int)) (v6:Int) (va:Int):Prop:=(Rg v8/\vU (fun (s1:Int×(List Int)×Int) (v5:Int)=>(bK  s1 v5)) (fun (s1:Int×(List Int)×Int) (v5:Int)=>some (jc  s1 v5)) (rng 0 v8.toNat) (v6,v9,va))
def pZ:Ev->Option Out:=(aH (pL (Gf (aC (gv 1) aK)) (uV 5) lA) pY)
theorem xW (v7:Int) (v8:Int) (v9:(List Int)) (v6:Int) (va:Int):RP pZ [some ((zE eI) v7),some ((zE eI) v8),some ((oE eI) v9),some ((zE eI) v6),some ((zE eI) va),none] (fun r=>Out.rt ((oE eI) r)) (jd v7 v8 v9 v6 va) (some (lK v7 v8 v9 v6 va)):=R.tp (Bb (fun s1:Int×(List Int)×Int=>[some ((zE eI) v7),some ((zE eI) v8),some ((oE eI) s1.2.1),some ((zE eI) s1.1),some ((zE eI) s1.2.2),none]) (v6,v9,va) rfl (vR (aB 1 (zE eI) v8 rfl)) _ (fun _ _=>rfl) (fun (s1:Int×(List Int)×Int) (v5:Int)=>(xU v7 v8 s1 v5).r) fun s1=>(xV v7 v8 s1.2.1 s1.1 s1.2.2).r)
def p7 (v7:Int) (v8:Int) (v9:(List Int)) (v6:Int) (va:Int):(List Int):=(let va:Int:=(if ((decide (v7 < (0:Int)))||(decide (((10:Int) ^ 18)<=v7)))=true then (let va:=(if v7 < 0 then -v7 else v7);va) else va);(jd v7 v8 v9 v6 va))
def p8 (v7:Int) (v8:Int) (v9:(List Int)) (v6:Int) (va:Int):Prop:=(let va:Int:=(if ((decide (v7 < (0:Int)))||(decide (((10:Int) ^ 18)<=v7)))=true then (let va:=(if v7 < 0 then -v7 else v7);va) else va);(lK v7 v8 v9 v6 va))
def qb:Ev->Option Out:=(aH (Dc (Tv (HB Tz (gv 0) (cB (.int 0))) (HB geB (gv 0) (b2 U4 (cB (.int 10)) (cB (.int 18))))) (aH (aH (setG 4 (gO Oi (aC (gv 0) aK))) jg) (jh [])) (aH jg (jh []))) pZ)
theorem xX (v7:Int) (v8:Int) (v9:(List Int)) (v6:Int) (va:Int):RP qb [some ((zE eI) v7),some ((zE eI) v8),some ((oE eI) v9),some ((zE eI) v6),some ((zE eI) va),none] (fun r=>Out.rt ((oE eI) r)) (p7 v7 v8 v9 v6 va) (some (p8 v7 v8 v9 v6 va)):=R.tp (Rt (fun va:Int=>[some ((zE eI) v7),some ((zE eI) v8),some ((oE eI) v9),some ((zE eI) v6),some ((zE eI) va),none]) (Vn (sG (Wr (aB 0 (zE eI) v7 rfl) (aP (.int 0) eI (0:Int) rfl))) (sG (x_ge (aB 0 (zE eI) v7 rfl) (Ys 10 18 18 (by decide) rfl)))) (dD (bR 4 (aaC (aB 0 (zE eI) v7 rfl)) (fun _=>rfl) fun va=>(fX (fZ va rfl)))) (fX (fZ va rfl)) fun va=>(xW v7 v8 v9 v6 va).r)
def qd (v7:Int) (v8:Int) (v9:(List Int)) (v6:Int):(List Int):=(let va:=(0:Int);(p7 v7 v8 v9 v6 va))
def qe (v7:Int) (v8:Int) (v9:(List Int)) (v6:Int):Prop:=(let va:=(0:Int);(p8 v7 v8 v9 v6 va))
def qg:Ev->Option Out:=(aH (setG 4 (cB (.int 0))) qb)
theorem xY (v7:Int) (v8:Int) (v9:(List Int)) (v6:Int):RP qg [some ((zE eI) v7),some ((zE eI) v8),some ((oE eI) v9),some ((zE eI) v6),none,none] (fun r=>Out.rt ((oE eI) r)) (qd v7 v8 v9 v6) (some (qe v7 v8 v9 v6)):=R.tp (bR 4 (aP (.int 0) eI (0:Int) rfl) (fun _=>rfl) fun va=>(xX v7 v8 v9 v6 va).r)
def qj (v7:Int) (v8:Int) (v9:(List Int)):(List Int):=(let v6:=((((v7 % (1999999973:Int))+(31:Int)) * (765432101:Int)) % (1999999973:Int));(qd v7 v8 v9 v6))
def ql (v7:Int) (v8:Int) (v9:(List Int)):Prop:=(let v6:=((((v7 % (1999999973:Int))+(31:Int)) * (765432101:Int)) % (1999999973:Int));(qe v7 v8 v9 v6))
def xZ:Ev->Option Out:=(aH (setG 3 (b2 gR (b2 nu (b2 d8 (b2 gR (gv 0) (cB (.int 1999999973))) (cB (.int 31))) (cB (.int 765432101))) (cB (.int 1999999973)))) qg)
theorem yc (v7:Int) (v8:Int) (v9:(List Int)):RP xZ [some ((zE eI) v7),some ((zE eI) v8),some ((oE eI) v9),none,none,none] (fun r=>Out.rt ((oE eI) r)) (qj v7 v8 v9) (some (ql v7 v8 v9)):=R.tp (bR 3 (d9 (Mh (gF (d9 (aB 0 (zE eI) v7 rfl) 1999999973 (by decide)) (aP (.int 31) eI (31:Int) rfl)) 765432101 (by decide)) 1999999973 (by decide)) (fun _=>rfl) fun v6=>(xY v7 v8 v9 v6).r)
def aj (v7:Int) (v8:Int):(List Int):=(let v9:=([]:List Int);(qj v7 v8 v9))
def fK (v7:Int) (v8:Int):Prop:=(let v9:=([]:List Int);(ql v7 v8 v9))
theorem Dv (v7:Int) (v8:Int):RP lN [some ((zE eI) v7),some ((zE eI) v8),none,none,none,none] (fun r=>Out.rt ((oE eI) r)) (aj v7 v8) (some (fK v7 v8)):=R.tp (bR 2 (q8 (mC eI) (Nat.le_of_ble_eq_true rfl)) (fun _=>rfl) fun v9=>(yc v7 v8 v9).r)
theorem lU:∀ v bs,(aZ eI (aZ eI aN)) v bs->bs.length=2/\(hold (some (fK v.1 v.2.1))->bC (bs.map lend)=some ((oE eI) (aj v.1 v.2.1))):=by
 rintro⟨v7,v8,_⟩ _ ⟨_,rfl,⟨_,rfl,rfl⟩⟩
 exact⟨rfl,fun h=>bU (g:=lN) (n:=6) (bs:=[.z (eI v7),.z (eI v8)]) (Dv v7 v8) h⟩
end
end G03
end
section
set_option synthInstance.maxSize 100000
namespace G03
open PySem PySem.Spec PyProof.Rows L2 P1
noncomputable section
def dW (vc:(List Int)) (vd:Str) (ve:Str) (v2:Int) (v9:(List Str)) (v5:Int):(List Str):=(let vf:=(ch vd ((v5+(at' vc (2:Int))) % (15:Int)));(let vg:=(((Txt.slice ve none (some v2))++vf)++(Txt.slice ve (some v2) none));(let vg:Str:=(if (decide (((at' vc (3:Int)) % (3:Int))=(1:Int)))=true then (let vg:=(Txt.mul (ch vd (v5 / (8:Int))) ((1:Int)+(v5 % (8:Int))));vg) else vg);(let v9:=v9++[vg];v9))))
def j4 (vc:(List Int)) (vd:Str) (ve:Str) (v2:Int) (v9:(List Str)) (v5:Int):Prop:=((In vc.length (2:Int)/\In vd.length ((v5+(at' vc (2:Int))) % (15:Int)))/\(let vf:=(ch vd ((v5+(at' vc (2:Int))) % (15:Int)));((Dp ((Txt.slice ve none (some v2)).length+vf.length)/\Dp (((Txt.slice ve none (some v2))++vf).length+(Txt.slice ve (some v2) none).length))/\(let vg:=(((Txt.slice ve none (some v2))++vf)++(Txt.slice ve (some v2) none));((In vc.length (3:Int)/\((decide (((at' vc (3:Int)) % (3:Int))=(1:Int)))=true->(In vd.length (v5 / (8:Int))/\(((1:Int)+(v5 % (8:Int)))<=1000 ∧ -1000<=((1:Int)+(v5 % (8:Int)))/\(ch vd (v5 / (8:Int))).length<=1000))))/\(let vg:Str:=(if (decide (((at' vc (3:Int)) % (3:Int))=(1:Int)))=true then (let vg:=(Txt.mul (ch vd (v5 / (8:Int))) ((1:Int)+(v5 % (8:Int))));vg) else vg);Dp v9.length))))))
theorem Ci (vc:(List Int)) {eV:Bx} (iZ:Lp eV (vc.map eI)) (v8:Int) (vd:Str) (ve:Str) (v2:Int) (v9:(List Str)) (v5:Int):RP nG [some eV,some ((zE eI) v8),some ((zE eS) vd),some ((zE eS) ve),some ((zE eI) v2),some ((oE eS) v9),some ((zE eI) v5),none,none] (fun s=>Out.nx ((fun v9:(List Str)=>[some eV,some ((zE eI) v8),some ((zE eS) vd),some ((zE eS) ve),some ((zE eI) v2),some ((oE eS) v9),none,none,none]) s)) (dW vc vd ve v2 v9 v5) (some (j4 vc vd ve v2 v9 v5)):=R.tp (dD (bR 7 (Em (aB 2 (zE eS) vd rfl) (d9 (gF (aB 6 (zE eI) v5 rfl) (kW (gU 0 eI vc iZ rfl) (aP (.int 2) eI (2:Int) rfl))) 15 (by decide))) (fun _=>rfl) fun vf=>(dD (bR 8 (pD (pD (Rc (aB 3 (zE eS) ve rfl) Ra (Rb (aB 4 (zE eI) v2 rfl))) (aB 7 (zE eS) vf rfl)) (Rc (aB 3 (zE eS) ve rfl) (Rb (aB 4 (zE eI) v2 rfl)) Ra)) (fun _=>rfl) fun vg=>(dD (Rt (fun vg:Str=>[some eV,some ((zE eI) v8),some ((zE eS) vd),some ((zE eS) ve),some ((zE eI) v2),some ((oE eS) v9),some ((zE eI) v5),some ((zE eS) vf),some ((zE eS) vg)]) (sG (x_eq (by decide) (d9 (kW (gU 0 eI vc iZ rfl) (aP (.int 3) eI (3:Int) rfl)) 3 (by decide)) (aP (.int 1) eI (1:Int) rfl))) (dD (bR 8 (Rh (Em (aB 2 (zE eS) vd rfl) (qH (aB 6 (zE eI) v5 rfl) 8 (by decide))) (gF (aP (.int 1) eI (1:Int) rfl) (d9 (aB 6 (zE eI) v5 rfl) 8 (by decide)))) (fun _=>rfl) fun vg=>(fX (fZ vg rfl)))) (fX (fZ vg rfl)) fun vg=>(dD (Mr 5 v9 rfl (aB 8 (zE eS) vg rfl) fun v9=>(fX (fZ v9 rfl))))))))))
def tH (vc:(List Int)) (v8:Int) (vd:Str) (ve:Str) (v2:Int) (v9:(List Str)):(List Str):=v9
def tK:Ev->Option Out:=(aH (FP 5) jg)
theorem Cj (vc:(List Int)) {eV:Bx} (iZ:Lp eV (vc.map eI)) (v8:Int) (vd:Str) (ve:Str) (v2:Int) (v9:(List Str)):RP tK [some eV,some ((zE eI) v8),some ((zE eS) vd),some ((zE eS) ve),some ((zE eI) v2),some ((oE eS) v9),none,none,none] (fun r=>Out.rt ((oE eS) r)) (tH vc v8 vd ve v2 v9) (none):=R.tp (Rr 5 (fun r=>r) v9 rfl (fun _=>rfl) fun _=>rfl)
def tL (vc:(List Int)) (v8:Int) (vd:Str) (ve:Str) (v2:Int) (v9:(List Str)):(List Str):=(let v9:(List Str):=((rng 0 v8.toNat).foldl (fun (v9:(List Str)) (v5:Int)=>(dW vc vd ve v2 v9 v5)) v9);(tH vc v8 vd ve v2 v9))
def tM (vc:(List Int)) (v8:Int) (vd:Str) (ve:Str) (v2:Int) (v9:(List Str)):Prop:=(Rg v8/\vU (fun (v9:(List Str)) (v5:Int)=>(dW vc vd ve v2 v9 v5)) (fun (v9:(List Str)) (v5:Int)=>some (j4 vc vd ve v2 v9 v5)) (rng 0 v8.toNat) v9)
def tO:Ev->Option Out:=(aH (pL (Gf (aC (gv 1) aK)) (uV 6) nG) tK)
theorem Ck (vc:(List Int)) {eV:Bx} (iZ:Lp eV (vc.map eI)) (v8:Int) (vd:Str) (ve:Str) (v2:Int) (v9:(List Str)):RP tO [some eV,some ((zE eI) v8),some ((zE eS) vd),some ((zE eS) ve),some ((zE eI) v2),some ((oE eS) v9),none,none,none] (fun r=>Out.rt ((oE eS) r)) (tL vc v8 vd ve v2 v9) (some (tM vc v8 vd ve v2 v9)):=R.tp (Bb (fun v9:(List Str)=>[some eV,some ((zE eI) v8),some ((zE eS) vd),some ((zE eS) ve),some ((zE eI) v2),some ((oE eS) v9),none,none,none]) v9 rfl (vR (aB 1 (zE eI) v8 rfl)) _ (fun _ _=>rfl) (fun (v9:(List Str)) (v5:Int)=>(Ci vc iZ v8 vd ve v2 v9 v5).r) fun v9=>(Cj vc iZ v8 vd ve v2 v9).r)
def tQ (vc:(List Int)) (v8:Int) (vd:Str) (ve:Str) (v2:Int):(List Str):=(let v9:=([]:List Str);(tL vc v8 vd ve v2 v9))
def tR (vc:(List Int)) (v8:Int) (vd:Str) (ve:Str) (v2:Int):Prop:=(let v9:=([]:List Str);(tM vc v8 vd ve v2 v9))
def tU:Ev->Option Out:=(aH (setG 5 (gO rQ aK)) tO)
theorem Cm (vc:(List Int)) {eV:Bx} (iZ:Lp eV (vc.map eI)) (v8:Int) (vd:Str) (ve:Str) (v2:Int):RP tU [some eV,some ((zE eI) v8),some ((zE eS) vd),some ((zE eS) ve),some ((zE eI) v2),none,none,none,none] (fun r=>Out.rt ((oE eS) r)) (tQ vc v8 vd ve v2) (some (tR vc v8 vd ve v2)):=R.tp (bR 5 (q8 (mC eS) (Nat.le_of_ble_eq_true rfl)) (fun _=>rfl) fun v9=>(Ck vc iZ v8 vd ve v2 v9).r)
def j5 (vc:(List Int)) (v8:Int) (vd:Str) (ve:Str):(List Str):=(let v2:=((at' vc (1:Int)) % ((ve.length:Int)+(1:Int)));(tQ vc v8 vd ve v2))
def nQ (vc:(List Int)) (v8:Int) (vd:Str) (ve:Str):Prop:=((In vc.length (1:Int)/\0 < ((ve.length:Int)+(1:Int)))/\(let v2:=((at' vc (1:Int)) % ((ve.length:Int)+(1:Int)));(tR vc v8 vd ve v2)))
def tW:Ev->Option Out:=(aH (setG 4 (b2 gR (b2 jx (gv 0) (cB (.int 1))) (b2 d8 (gO pJ (aC (gv 3) aK)) (cB (.int 1))))) tU)
theorem Cp (vc:(List Int)) {eV:Bx} (iZ:Lp eV (vc.map eI)) (v8:Int) (vd:Str) (ve:Str):RP tW [some eV,some ((zE eI) v8),some ((zE eS) vd),some ((zE eS) ve),none,none,none,none,none] (fun r=>Out.rt ((oE eS) r)) (j5 vc v8 vd ve) (some (nQ vc v8 vd ve)):=R.tp (bR 4 (Mi (kW (gU 0 eI vc iZ rfl) (aP (.int 1) eI (1:Int) rfl)) (gF (Gk (aB 3 (zE eS) ve rfl)) (aP (.int 1) eI (1:Int) rfl))) (fun _=>rfl) fun v2=>(Cm vc iZ v8 vd ve v2).r)
def tX (vc:(List Int)) (v8:Int) (vd:Str):(List Str):=(let ve:=(Txt.join "" ((rng 0 ((at' vc (0:Int)) % (6:Int)).toNat).map fun v5:Int=>(ch vd (((at' vc v5) / (40:Int)) % (26:Int)))));(j5 vc v8 vd ve))
def tY (vc:(List Int)) (v8:Int) (vd:Str):Prop:=(((((In vc.length (0:Int)/\Rg ((at' vc (0:Int)) % (6:Int)))/\(rng 0 ((at' vc (0:Int)) % (6:Int)).toNat).length<=100000)/\(∀ v5∈(rng 0 ((at' vc (0:Int)) % (6:Int)).toNat),(In vc.length v5/\In vd.length (((at' vc v5) / (40:Int)) % (26:Int)))))/\(((rng 0 ((at' vc (0:Int)) % (6:Int)).toNat).map fun v5:Int=>(ch vd (((at' vc v5) / (40:Int)) % (26:Int)))).map (·.length)).sum+((rng 0 ((at' vc (0:Int)) % (6:Int)).toNat).map fun v5:Int=>(ch vd (((at' vc v5) / (40:Int)) % (26:Int)))).length * ("" : Str).length<=100000)/\(let ve:=(Txt.join "" ((rng 0 ((at' vc (0:Int)) % (6:Int)).toNat).map fun v5:Int=>(ch vd (((at' vc v5) / (40:Int)) % (26:Int)))));(nQ vc v8 vd ve)))
def Cq:Ev->Option Out:=(aH (setG 3 (b1 (uH "") (kE (Gf (aC (b2 gR (b2 jx (gv 0) (cB (.int 0))) (cB (.int 6))) aK)) (uV 2) uE (b2 jx (gv 0) (b2 gR (b2 qZ (b2 jx (gv 1) (gv 2)) (cB (.int 40))) (cB (.int 26)))) [2,0] 1))) tW)
theorem Cr (vc:(List Int)) {eV:Bx} (iZ:Lp eV (vc.map eI)) (v8:Int) (vd:Str):RP Cq [some eV,some ((zE eI) v8),some ((zE eS) vd),none,none,none,none,none,none] (fun r=>Out.rt ((oE eS) r)) (tX vc v8 vd) (some (tY vc v8 vd)):=R.tp (bR 3 (Gm "" (qG (sI (vR (d9 (kW (gU 0 eI vc iZ rfl) (aP (.int 0) eI (0:Int) rfl)) 6 (by decide))) _ (fun _=>rfl) (fun v5:Int=>(Em (aB 0 (zE eS) vd rfl) (d9 (qH (kW (gU 1 eI vc iZ (congrArg some (iZ.get rfl))) (aB 2 (zE eI) v5 rfl)) 40 (by decide)) 26 (by decide))))))) (fun _=>rfl) fun ve=>(Cp vc iZ v8 vd ve).r)
def bh (vc:(List Int)) (v8:Int):(List Str):=(let vd:=("abcdefghijklmnopqrstuvwxyz" : Str);(tX vc v8 vd))
def oZ (vc:(List Int)) (v8:Int):Prop:=(let vd:=("abcdefghijklmnopqrstuvwxyz" : Str);(tY vc v8 vd))
theorem Je (vc:(List Int)) {eV:Bx} (iZ:Lp eV (vc.map eI)) (v8:Int):RP oJ [some eV,some ((zE eI) v8),none,none,none,none,none,none,none] (fun r=>Out.rt ((oE eS) r)) (bh vc v8) (some (oZ vc v8)):=R.tp (bR 2 (aP (.str "abcdefghijklmnopqrstuvwxyz") eS ("abcdefghijklmnopqrstuvwxyz" : Str) rfl) (fun _=>rfl) fun vd=>(Cr vc iZ v8 vd).r)
theorem Jf:∀ v bs,(aL eI (aZ eI aN)) v bs->bs.length=2/\(hold (some (oZ v.1 v.2.1))->gW (bs.map lend)=some ((oE eS) (bh v.1 v.2.1))):=by
 rintro⟨vc,v8,_⟩ _ ⟨eV,_,rfl,iZ,⟨_,rfl,rfl⟩⟩
 exact⟨rfl,fun h=>bU (g:=oJ) (n:=9) (bs:=[lend eV,.z (eI v8)]) (Je vc (Av iZ) v8) h⟩
end
end G03
end
section
set_option synthInstance.maxSize 100000
namespace G03
open PySem PySem.Spec PyProof.Rows L2 P1
noncomputable section
def gH (vj:Int) (vd:Str) (v9:Str) (v5:Int):Str:=(let v9:=(v9++(ch vd ((vj / ((7:Int)+((5:Int) * v5))) % (vd.length:Int))));v9)
def j6 (vj:Int) (vd:Str) (v9:Str) (v5:Int):Prop:=((((0 < ((7:Int)+((5:Int) * v5))/\((7:Int)+((5:Int) * v5)) < 1073741824)/\0 < (vd.length:Int))/\In vd.length ((vj / ((7:Int)+((5:Int) * v5))) % (vd.length:Int)))/\Dp (v9.length+(ch vd ((vj / ((7:Int)+((5:Int) * v5))) % (vd.length:Int))).length))
theorem wD (vj:Int) (vd:Str) (v3:Int) (v9:Str) (v5:Int):RP oK [some ((zE eI) vj),some ((zE eS) vd),some ((zE eI) v3),some ((zE eS) v9),some ((zE eI) v5)] (fun s=>Out.nx ((fun v9:Str=>[some ((zE eI) vj),some ((zE eS) vd),some ((zE eI) v3),some ((zE eS) v9),none]) s)) (gH vj vd v9 v5) (some (j6 vj vd v9 v5)):=R.tp (dD (bR 3 (pD (aB 3 (zE eS) v9 rfl) (Em (aB 1 (zE eS) vd rfl) (Mi (Yr (aB 0 (zE eI) vj rfl) (gF (aP (.int 7) eI (7:Int) rfl) (pC 5 (by decide) (aB 4 (zE eI) v5 rfl)))) (Gk (aB 1 (zE eS) vd rfl))))) (fun _=>rfl) fun v9=>(fX (fZ v9 rfl))))
def dX (vj:Int) (vd:Str) (v3:Int):Str:=(let v9:=("" : Str);(let v9:Str:=((rng 0 ((1:Int)+(vj % v3)).toNat).foldl (fun (v9:Str) (v5:Int)=>(gH vj vd v9 v5)) v9);v9))
def iG (vj:Int) (vd:Str) (v3:Int):Prop:=(let v9:=("" : Str);((0 < v3/\Rg ((1:Int)+(vj % v3)))/\vU (fun (v9:Str) (v5:Int)=>(gH vj vd v9 v5)) (fun (v9:Str) (v5:Int)=>some (j6 vj vd v9 v5)) (rng 0 ((1:Int)+(vj % v3)).toNat) v9))
theorem Cu (vj:Int) (vd:Str) (v3:Int):RP jU [some ((zE eI) vj),some ((zE eS) vd),some ((zE eI) v3),none,none] (fun r=>Out.rt ((zE eS) r)) (dX vj vd v3) (some (iG vj vd v3)):=R.tp (bR 3 (aP (.str "") eS ("" : Str) rfl) (fun _=>rfl) fun v9=>(Bb (fun v9:Str=>[some ((zE eI) vj),some ((zE eS) vd),some ((zE eI) v3),some ((zE eS) v9),none]) v9 rfl (vR (gF (aP (.int 1) eI (1:Int) rfl) (Mi (aB 0 (zE eI) vj rfl) (aB 2 (zE eI) v3 rfl)))) _ (fun _ _=>rfl) (fun (v9:Str) (v5:Int)=>(wD vj vd v3 v9 v5).r) fun v9=>(d7 (fun r=>r) (aB 3 (zE eS) v9 rfl) (fun _=>rfl) fun _=>rfl)))
theorem tZ:∀ v bs,(aZ eI (aZ eS (aZ eI aN))) v bs->bs.length=3/\(hold (some (iG v.1 v.2.1 v.2.2.1))->cI (bs.map lend)=some ((zE eS) (dX v.1 v.2.1 v.2.2.1))):=by
 rintro⟨vj,vd,v3,_⟩ _ ⟨_,rfl,⟨_,rfl,⟨_,rfl,rfl⟩⟩⟩
 exact⟨rfl,fun h=>bU (g:=jU) (n:=5) (bs:=[.z (eI vj),.z (eS vd),.z (eI v3)]) (Cu vj vd v3) h⟩
end
end G03
end
section
set_option synthInstance.maxSize 100000
namespace G03
open PySem PySem.Spec PyProof.Rows L2 P1
noncomputable section
def bN (vc:(List Int)) (vh:(List (Str×Str))) (v5:Int):(List (Str×Str)):=(let vi:=(dX (at' vc ((1:Int)+((2:Int) * v5))) ("abcdefghijklmnopqrstuvwxyz" : Str) (at' [(2:Int),(8:Int)] (((at' vc ((1:Int)+((2:Int) * v5))) / (999:Int)) % (2:Int))));(let vk:=(at' [("ab01xyz9" : Str),("abcdefghijklmnopqrstuvwxyz0123456789" : Str)] (((at' vc ((2:Int)+((2:Int) * v5))) / (61:Int)) % (2:Int)));(let vh:=put vh vi (dX (at' vc ((2:Int)+((2:Int) * v5))) vk (at' [(3:Int),(12:Int)] (((at' vc ((2:Int)+((2:Int) * v5))) / (999:Int)) % (2:Int))));vh)))
def gJ (vc:(List Int)) (vh:(List (Str×Str))) (v5:Int):Prop:=(((In vc.length ((1:Int)+((2:Int) * v5))/\(In vc.length ((1:Int)+((2:Int) * v5))/\In [(2:Int),(8:Int)].length (((at' vc ((1:Int)+((2:Int) * v5))) / (999:Int)) % (2:Int))))/\(iG (at' vc ((1:Int)+((2:Int) * v5))) ("abcdefghijklmnopqrstuvwxyz" : Str) (at' [(2:Int),(8:Int)] (((at' vc ((1:Int)+((2:Int) * v5))) / (999:Int)) % (2:Int)))))/\(let vi:=(dX (at' vc ((1:Int)+((2:Int) * v5))) ("abcdefghijklmnopqrstuvwxyz" : Str) (at' [(2:Int),(8:Int)] (((at' vc ((1:Int)+((2:Int) * v5))) / (999:Int)) % (2:Int))));((In vc.length ((2:Int)+((2:Int) * v5))/\In [("ab01xyz9" : Str),("abcdefghijklmnopqrstuvwxyz0123456789" : Str)].length (((at' vc ((2:Int)+((2:Int) * v5))) / (61:Int)) % (2:Int)))/\(let vk:=(at' [("ab01xyz9" : Str),("abcdefghijklmnopqrstuvwxyz0123456789" : Str)] (((at' vc ((2:Int)+((2:Int) * v5))) / (61:Int)) % (2:Int)));(((In vc.length ((2:Int)+((2:Int) * v5))/\(In vc.length ((2:Int)+((2:Int) * v5))/\In [(3:Int),(12:Int)].length (((at' vc ((2:Int)+((2:Int) * v5))) / (999:Int)) % (2:Int))))/\(iG (at' vc ((2:Int)+((2:Int) * v5))) vk (at' [(3:Int),(12:Int)] (((at' vc ((2:Int)+((2:Int) * v5))) / (999:Int)) % (2:Int)))))/\vh.length < 1000)))))
theorem wF (vg:Str) (vc:(List Int)) {b_1:Bx} (h_1:Lp b_1 (vc.map eI)) (vh:(List (Str×Str))) (v5:Int):RP oM [some ((zE eS) vg),some b_1,some ((mE eS) vh),some ((zE eI) v5),none,none] (fun s=>Out.nx ((fun vh:(List (Str×Str))=>[some ((zE eS) vg),some b_1,some ((mE eS) vh),none,none,none]) s)) (bN vc vh v5) (some (gJ vc vh v5)):=R.tp (dD (bR 4 (x_call tZ (cT (kW (gU 1 eI vc h_1 rfl) (gF (aP (.int 1) eI (1:Int) rfl) (pC 2 (by decide) (aB 3 (zE eI) v5 rfl)))) (cT (aP (.str "abcdefghijklmnopqrstuvwxyz") eS ("abcdefghijklmnopqrstuvwxyz" : Str) rfl) (cT (kW (qG (q8 (jT (aP (.int 2) eI (2:Int) rfl) (jT (aP (.int 8) eI (8:Int) rfl) (mC eI))) (Nat.le_of_ble_eq_true rfl))) (d9 (qH (kW (gU 1 eI vc h_1 rfl) (gF (aP (.int 1) eI (1:Int) rfl) (pC 2 (by decide) (aB 3 (zE eI) v5 rfl)))) 999 (by decide)) 2 (by decide))) bA)))) (fun _=>rfl) fun vi=>(dD (bR 5 (kW (qG (q8 (jT (aP (.str "ab01xyz9") eS ("ab01xyz9" : Str) rfl) (jT (aP (.str "abcdefghijklmnopqrstuvwxyz0123456789") eS ("abcdefghijklmnopqrstuvwxyz0123456789" : Str) rfl) (mC eS))) (Nat.le_of_ble_eq_true rfl))) (d9 (qH (kW (gU 1 eI vc h_1 rfl) (gF (aP (.int 2) eI (2:Int) rfl) (pC 2 (by decide) (aB 3 (zE eI) v5 rfl)))) 61 (by decide)) 2 (by decide))) (fun _=>rfl) fun vk=>(dD (Vv none 2 vh rfl (oF (x_call tZ (cT (kW (gU 1 eI vc h_1 rfl) (gF (aP (.int 2) eI (2:Int) rfl) (pC 2 (by decide) (aB 3 (zE eI) v5 rfl)))) (cT (aB 5 (zE eS) vk rfl) (cT (kW (qG (q8 (jT (aP (.int 3) eI (3:Int) rfl) (jT (aP (.int 12) eI (12:Int) rfl) (mC eI))) (Nat.le_of_ble_eq_true rfl))) (d9 (qH (kW (gU 1 eI vc h_1 rfl) (gF (aP (.int 2) eI (2:Int) rfl) (pC 2 (by decide) (aB 3 (zE eI) v5 rfl)))) 999 (by decide)) 2 (by decide))) bA))))) (aB 4 (zE eS) vi rfl) fun vh=>(fX (fZ vh rfl))))))))
def bO (vg:Str) (vc:(List Int)):aW:=(let vh:=([]:(List (Str×Str)));(let vh:(List (Str×Str)):=((rng 0 ((at' vc (0:Int)) % (9:Int)).toNat).foldl (fun (vh:(List (Str×Str))) (v5:Int)=>(bN vc vh v5)) vh);(vg,((oA (vh.map (·.1))).map fun vi:Str=>(vi,(look vh vi))))))
def dY (vg:Str) (vc:(List Int)):Prop:=(let vh:=([]:(List (Str×Str)));(((In vc.length (0:Int)/\Rg ((at' vc (0:Int)) % (9:Int)))/\vU (fun (vh:(List (Str×Str))) (v5:Int)=>(bN vc vh v5)) (fun (vh:(List (Str×Str))) (v5:Int)=>some (gJ vc vh v5)) (rng 0 ((at' vc (0:Int)) % (9:Int)).toNat) vh)/\(let vh:(List (Str×Str)):=((rng 0 ((at' vc (0:Int)) % (9:Int)).toNat).foldl (fun (vh:(List (Str×Str))) (v5:Int)=>(bN vc vh v5)) vh);((vh.length < 64/\(oA (vh.map (·.1))).length<=100000)/\(∀ vi∈(oA (vh.map (·.1))),has vh vi=true)))))
theorem Cv (vg:Str) (vc:(List Int)) {b_1:Bx} (h_1:Lp b_1 (vc.map eI)):RP jV [some ((zE eS) vg),some b_1,none,none,none,none] (fun r=>Out.rt ((zE aY) r)) (bO vg vc) (some (dY vg vc)):=R.tp (bR 2 (YC eS) (fun _=>rfl) fun vh=>(Bb (fun vh:(List (Str×Str))=>[some ((zE eS) vg),some b_1,some ((mE eS) vh),none,none,none]) vh rfl (vR (d9 (kW (gU 1 eI vc h_1 rfl) (aP (.int 0) eI (0:Int) rfl)) 9 (by decide))) _ (fun _ _=>rfl) (fun (vh:(List (Str×Str))) (v5:Int)=>(wF vg vc h_1 vh v5).r) fun vh=>(d7 (fun r=>r) (Gi (aB 0 (zE eS) vg rfl) (uo (qG (sI (aaF (qG (Vu (aB 2 (nE eS) vh rfl)))) _ (fun _=>rfl) (fun vi:Str=>(Gi (aB 1 (zE eS) vi rfl) (YB (aB 0 (nE eS) vh rfl) (aB 1 (zE eS) vi rfl)))))))) (fun _=>rfl) fun _=>rfl)))
theorem uc:∀ v bs,(aZ eS (aL eI aN)) v bs->bs.length=2/\(hold (some (dY v.1 v.2.1))->cg (bs.map lend)=some ((zE aY) (bO v.1 v.2.1))):=by
 rintro⟨vg,vc,_⟩ _ ⟨_,rfl,⟨b_1,_,rfl,h_1,rfl⟩⟩
 exact⟨rfl,fun h=>bU (g:=jV) (n:=6) (bs:=[.z (eS vg),lend b_1]) (Cv vg vc (Av h_1)) h⟩
end
end G03
end
section
set_option synthInstance.maxSize 100000
namespace G03
open PySem PySem.Spec PyProof.Rows L2 P1
noncomputable section
def gA (v0:(List Int)) (v2:Int) (v4:(List Int)) (vb:(List Str)) (v9:(List aW)) (v5:Int):(List aW):=(let vg:=(at' vb ((((7:Int) * v5)+(at' v4 (7:Int))) % (15:Int)));(let v9:=v9++[(bO vg (aj (aq v0 ((v2+(1:Int))+v5)) (17:Int)))];v9))
def jE (v0:(List Int)) (v2:Int) (v4:(List Int)) (vb:(List Str)) (v9:(List aW)) (v5:Int):Prop:=((In v4.length (7:Int)/\In vb.length ((((7:Int) * v5)+(at' v4 (7:Int))) % (15:Int)))/\(let vg:=(at' vb ((((7:Int) * v5)+(at' v4 (7:Int))) % (15:Int)));((((iD v0 ((v2+(1:Int))+v5))/\(fK (aq v0 ((v2+(1:Int))+v5)) (17:Int)))/\(dY vg (aj (aq v0 ((v2+(1:Int))+v5)) (17:Int))))/\Dp v9.length)))
theorem vA (v0:(List Int)) {eV:Bx} (iZ:Lp eV (v0.map eI)) (v2:Int) (v3:Int) (v4:(List Int)) (vb:(List Str)) (v9:(List aW)) (v5:Int):RP nH [some eV,some ((zE eI) v2),some ((zE eI) v3),some ((oE eI) v4),some ((oE eS) vb),some ((oE aY) v9),some ((zE eI) v5),none] (fun s=>Out.nx ((fun v9:(List aW)=>[some eV,some ((zE eI) v2),some ((zE eI) v3),some ((oE eI) v4),some ((oE eS) vb),some ((oE aY) v9),none,none]) s)) (gA v0 v2 v4 vb v9 v5) (some (jE v0 v2 v4 vb v9 v5)):=R.tp (dD (bR 7 (kW (xH (aB 4 (lE eS) vb rfl)) (d9 (gF (pC 7 (by decide) (aB 6 (zE eI) v5 rfl)) (kW (xH (aB 3 (lE eI) v4 rfl)) (aP (.int 7) eI (7:Int) rfl))) 15 (by decide))) (fun _=>rfl) fun vg=>(dD (Mr 5 v9 rfl (oF (x_call uc (cT (aB 7 (zE eS) vg rfl) (Dq (Yq (Vm (x_call lU (cT (oF (x_call qR (Dq (gU 0 eI v0 iZ rfl) (cT (oF (gF (gF (aB 1 (zE eI) v2 rfl) (aP (.int 1) eI (1:Int) rfl)) (aB 6 (zE eI) v5 rfl))) bA)))) (cT (aP (.int 17) eI (17:Int) rfl) bA))))) bA)))) fun v9=>(fX (fZ v9 rfl))))))
def eX (v0:(List Int)) (v2:Int) (v3:Int):(List aW):=(let v4:=(aj (aq v0 v2) (8:Int));(let vb:=(bh v4 (15:Int));(let v9:=([]:List aW);(let v9:(List aW):=((rng 0 ((at' v4 (6:Int)) % (v3+(1:Int))).toNat).foldl (fun (v9:(List aW)) (v5:Int)=>(gA v0 v2 v4 vb v9 v5)) v9);v9))))
def jt (v0:(List Int)) (v2:Int) (v3:Int):Prop:=(((iD v0 v2)/\(fK (aq v0 v2) (8:Int)))/\(let v4:=(aj (aq v0 v2) (8:Int));((oZ v4 (15:Int))/\(let vb:=(bh v4 (15:Int));(let v9:=([]:List aW);(((In v4.length (6:Int)/\0 < (v3+(1:Int)))/\Rg ((at' v4 (6:Int)) % (v3+(1:Int))))/\vU (fun (v9:(List aW)) (v5:Int)=>(gA v0 v2 v4 vb v9 v5)) (fun (v9:(List aW)) (v5:Int)=>some (jE v0 v2 v4 vb v9 v5)) (rng 0 ((at' v4 (6:Int)) % (v3+(1:Int))).toNat) v9))))))
theorem zB (v0:(List Int)) {eV:Bx} (iZ:Lp eV (v0.map eI)) (v2:Int) (v3:Int):RP jq [some eV,some ((zE eI) v2),some ((zE eI) v3),none,none,none,none,none] (fun r=>Out.rt ((zE (eT aY)) r)) (eX v0 v2 v3) (some (jt v0 v2 v3)):=R.tp (bR 3 (x_call lU (cT (oF (x_call qR (Dq (gU 0 eI v0 iZ rfl) (cT (aB 1 (zE eI) v2 rfl) bA)))) (cT (aP (.int 8) eI (8:Int) rfl) bA))) (fun _=>rfl) fun v4=>(bR 4 (x_call Jf (Dq (xH (aB 3 (lE eI) v4 rfl)) (cT (aP (.int 15) eI (15:Int) rfl) bA))) (fun _=>rfl) fun vb=>(bR 5 (q8 (mC aY) (Nat.le_of_ble_eq_true rfl)) (fun _=>rfl) fun v9=>(Bb (fun v9:(List aW)=>[some eV,some ((zE eI) v2),some ((zE eI) v3),some ((oE eI) v4),some ((oE eS) vb),some ((oE aY) v9),none,none]) v9 rfl (vR (Mi (kW (xH (aB 3 (lE eI) v4 rfl)) (aP (.int 6) eI (6:Int) rfl)) (gF (aB 2 (zE eI) v3 rfl) (aP (.int 1) eI (1:Int) rfl)))) _ (fun _ _=>rfl) (fun (v9:(List aW)) (v5:Int)=>(vA v0 iZ v2 v3 v4 vb v9 v5).r) fun v9=>(d7 (fun r=>r) (uo (xH (aB 5 (lE aY) v9 rfl))) (fun _=>rfl) fun _=>rfl)))))
theorem zF:∀ v bs,(aL eI (aZ eI (aZ eI aN))) v bs->bs.length=3/\(hold (some (jt v.1 v.2.1 v.2.2.1))->cU (bs.map lend)=some ((zE (eT aY)) (eX v.1 v.2.1 v.2.2.1))):=by
 rintro⟨v0,v2,v3,_⟩ _ ⟨eV,_,rfl,iZ,⟨_,rfl,⟨_,rfl,rfl⟩⟩⟩
 exact⟨rfl,fun h=>bU (g:=jq) (n:=8) (bs:=[lend eV,.z (eI v2),.z (eI v3)]) (zB v0 (Av iZ) v2 v3) h⟩
end
end G03
end
section
set_option synthInstance.maxSize 100000
namespace G03
open PySem PySem.Spec PyProof.Rows L2 P1
noncomputable section
def gK (vd:Str) (vc:(List Int)) (v9:(List aW)) (v5:Int):(List aW):=(let v9:=v9++[(bO (Txt.mul (ch vd ((v5+(at' vc (0:Int))) % (26:Int))) ((1:Int)+(v5 / (26:Int)))) ([((at' vc (v5 % (17:Int))) % (4:Int))]++(cut vc (some (v5 % (9:Int))) none)))];v9)
def j7 (vd:Str) (vc:(List Int)) (v9:(List aW)) (v5:Int):Prop:=(((((In vc.length (0:Int)/\In vd.length ((v5+(at' vc (0:Int))) % (26:Int)))/\(((1:Int)+(v5 / (26:Int)))<=1000 ∧ -1000<=((1:Int)+(v5 / (26:Int)))/\(ch vd ((v5+(at' vc (0:Int))) % (26:Int))).length<=1000))/\(In vc.length (v5 % (17:Int))/\Dp ([((at' vc (v5 % (17:Int))) % (4:Int))].length+(cut vc (some (v5 % (9:Int))) none).length)))/\(dY (Txt.mul (ch vd ((v5+(at' vc (0:Int))) % (26:Int))) ((1:Int)+(v5 / (26:Int)))) ([((at' vc (v5 % (17:Int))) % (4:Int))]++(cut vc (some (v5 % (9:Int))) none))))/\Dp v9.length)
theorem wG (v0:(List Int)) {eV:Bx} (iZ:Lp eV (v0.map eI)) (vd:Str) (vc:(List Int)) (v9:(List aW)) (v5:Int):RP oN [some eV,some ((zE eS) vd),some ((oE eI) vc),some ((oE aY) v9),some ((zE eI) v5)] (fun s=>Out.nx ((fun v9:(List aW)=>[some eV,some ((zE eS) vd),some ((oE eI) vc),some ((oE aY) v9),none]) s)) (gK vd vc v9 v5) (some (j7 vd vc v9 v5)):=R.tp (dD (Mr 3 v9 rfl (oF (x_call uc (cT (Rh (Em (aB 1 (zE eS) vd rfl) (d9 (gF (aB 4 (zE eI) v5 rfl) (kW (xH (aB 2 (lE eI) vc rfl)) (aP (.int 0) eI (0:Int) rfl))) 26 (by decide))) (gF (aP (.int 1) eI (1:Int) rfl) (qH (aB 4 (zE eI) v5 rfl) 26 (by decide)))) (Dq (Yq (Vm (Yv (qG (q8 (jT (d9 (kW (xH (aB 2 (lE eI) vc rfl)) (d9 (aB 4 (zE eI) v5 rfl) 17 (by decide))) 4 (by decide)) (mC eI)) (Nat.le_of_ble_eq_true rfl))) (qG (aaB (xH (aB 2 (lE eI) vc rfl)) (Rb (d9 (aB 4 (zE eI) v5 rfl) 9 (by decide))) Ra))))) bA)))) fun v9=>(fX (fZ v9 rfl))))
def fW (v0:(List Int)):(List aW):=(let vd:=("abcdefghijklmnopqrstuvwxyz" : Str);(let vc:=(aj (aq v0 (14:Int)) (17:Int));(let v9:=([]:List aW);(let v9:(List aW):=((rng 0 (kN 40)).foldl (fun (v9:(List aW)) (v5:Int)=>(gK vd vc v9 v5)) v9);v9))))
def j8 (v0:(List Int)):Prop:=(let vd:=("abcdefghijklmnopqrstuvwxyz" : Str);(((iD v0 (14:Int))/\(fK (aq v0 (14:Int)) (17:Int)))/\(let vc:=(aj (aq v0 (14:Int)) (17:Int));(let v9:=([]:List aW);vU (fun (v9:(List aW)) (v5:Int)=>(gK vd vc v9 v5)) (fun (v9:(List aW)) (v5:Int)=>some (j7 vd vc v9 v5)) (rng 0 (kN 40)) v9))))
theorem Cw (v0:(List Int)) {eV:Bx} (iZ:Lp eV (v0.map eI)):RP jW [some eV,none,none,none,none] (fun r=>Out.rt ((zE (eT aY)) r)) (fW v0) (some (j8 v0)):=R.tp (bR 1 (aP (.str "abcdefghijklmnopqrstuvwxyz") eS ("abcdefghijklmnopqrstuvwxyz" : Str) rfl) (fun _=>rfl) fun vd=>(bR 2 (x_call lU (cT (oF (x_call qR (Dq (gU 0 eI v0 iZ rfl) (cT (aP (.int 14) eI (14:Int) rfl) bA)))) (cT (aP (.int 17) eI (17:Int) rfl) bA))) (fun _=>rfl) fun vc=>(bR 3 (q8 (mC aY) (Nat.le_of_ble_eq_true rfl)) (fun _=>rfl) fun v9=>(Bb (fun v9:(List aW)=>[some eV,some ((zE eS) vd),some ((oE eI) vc),some ((oE aY) v9),none]) v9 rfl (YD 40 40 rfl (by unfold Rg;decide)) _ (fun _ _=>rfl) (fun (v9:(List aW)) (v5:Int)=>(wG v0 iZ vd vc v9 v5).r) fun v9=>(d7 (fun r=>r) (uo (xH (aB 3 (lE aY) v9 rfl))) (fun _=>rfl) fun _=>rfl)))))
theorem Cy:∀ v bs,(aL eI aN) v bs->bs.length=1/\(hold (some (j8 v.1))->cJ (bs.map lend)=some ((zE (eT aY)) (fW v.1))):=by
 rintro⟨v0,_⟩ _ ⟨eV,_,rfl,iZ,rfl⟩
 exact⟨rfl,fun h=>bU (g:=jW) (n:=5) (bs:=[lend eV]) (Cw v0 (Av iZ)) h⟩
end
end G03
end
section
set_option synthInstance.maxSize 100000
namespace G03
open PySem PySem.Spec PyProof.Rows L2 P1
noncomputable section
def cR (vm:aW) (vn:Str) (v5:Int):Str:=(let vn:=(((((vn++(at' [("," : Str),("" : Str)] (if (decide (v5=(0:Int)))=true then (1:Int) else 0)))++(" " : Str))++(at' vm.2 v5).1)++(" " : Str))++(at' vm.2 v5).2);vn)
def fu (vm:aW) (vn:Str) (v5:Int):Prop:=(((((((In [("," : Str),("" : Str)].length (if (decide (v5=(0:Int)))=true then (1:Int) else 0)/\Dp (vn.length+(at' [("," : Str),("" : Str)] (if (decide (v5=(0:Int)))=true then (1:Int) else 0)).length))/\Dp ((vn++(at' [("," : Str),("" : Str)] (if (decide (v5=(0:Int)))=true then (1:Int) else 0))).length+(" " : Str).length))/\In vm.2.length v5)/\Dp (((vn++(at' [("," : Str),("" : Str)] (if (decide (v5=(0:Int)))=true then (1:Int) else 0)))++(" " : Str)).length+(at' vm.2 v5).1.length))/\Dp ((((vn++(at' [("," : Str),("" : Str)] (if (decide (v5=(0:Int)))=true then (1:Int) else 0)))++(" " : Str))++(at' vm.2 v5).1).length+(" " : Str).length))/\In vm.2.length v5)/\Dp (((((vn++(at' [("," : Str),("" : Str)] (if (decide (v5=(0:Int)))=true then (1:Int) else 0)))++(" " : Str))++(at' vm.2 v5).1)++(" " : Str)).length+(at' vm.2 v5).2.length))
theorem wH (vm:aW) (vn:Str) (v5:Int):RP oO [some ((zE aY) vm),some ((zE eS) vn),some ((zE eI) v5)] (fun s=>Out.nx ((fun vn:Str=>[some ((zE aY) vm),some ((zE eS) vn),none]) s)) (cR vm vn v5) (some (fu vm vn v5)):=R.tp (dD (bR 1 (pD (pD (pD (pD (pD (aB 1 (zE eS) vn rfl) (kW (qG (q8 (jT (aP (.str ",") eS ("," : Str) rfl) (jT (aP (.str "") eS ("" : Str) rfl) (mC eS))) (Nat.le_of_ble_eq_true rfl))) (Rm (x_eq (by decide) (aB 2 (zE eI) v5 rfl) (aP (.int 0) eI (0:Int) rfl))))) (aP (.str " ") eS (" " : Str) rfl)) (sH (Ml (sH (aB 0 (zE aY) vm rfl) (fun q=>q.2) (eT jm) 1 fun _=>rfl) (aB 2 (zE eI) v5 rfl)) (fun q=>q.1) eS 0 fun _=>rfl)) (aP (.str " ") eS (" " : Str) rfl)) (sH (Ml (sH (aB 0 (zE aY) vm rfl) (fun q=>q.2) (eT jm) 1 fun _=>rfl) (aB 2 (zE eI) v5 rfl)) (fun q=>q.2) eS 1 fun _=>rfl)) (fun _=>rfl) fun vn=>(fX (fZ vn rfl))))
def cP (vm:aW):Str:=(let vn:=(vm.1++(":" : Str));(let vn:Str:=((rng 0 (vm.2.length:Int).toNat).foldl (fun (vn:Str) (v5:Int)=>(cR vm vn v5)) vn);vn))
def j9 (vm:aW):Prop:=(Dp (vm.1.length+(":" : Str).length)/\(let vn:=(vm.1++(":" : Str));(Rg (vm.2.length:Int)/\vU (fun (vn:Str) (v5:Int)=>(cR vm vn v5)) (fun (vn:Str) (v5:Int)=>some (fu vm vn v5)) (rng 0 (vm.2.length:Int).toNat) vn)))
theorem Cz (vm:aW):RP jX [some ((zE aY) vm),none,none] (fun r=>Out.rt ((zE eS) r)) (cP vm) (some (j9 vm)):=R.tp (bR 1 (pD (sH (aB 0 (zE aY) vm rfl) (fun q=>q.1) eS 0 fun _=>rfl) (aP (.str ":") eS (":" : Str) rfl)) (fun _=>rfl) fun vn=>(Bb (fun vn:Str=>[some ((zE aY) vm),some ((zE eS) vn),none]) vn rfl (vR (Rk (sH (aB 0 (zE aY) vm rfl) (fun q=>q.2) (eT jm) 1 fun _=>rfl))) _ (fun _ _=>rfl) (fun (vn:Str) (v5:Int)=>(wH vm vn v5).r) fun vn=>(d7 (fun r=>r) (aB 1 (zE eS) vn rfl) (fun _=>rfl) fun _=>rfl)))
theorem CG:∀ v bs,(aZ aY aN) v bs->bs.length=1/\(hold (some (j9 v.1))->cL (bs.map lend)=some ((zE eS) (cP v.1))):=by
 rintro⟨vm,_⟩ _ ⟨_,rfl,rfl⟩
 exact⟨rfl,fun h=>bU (g:=jX) (n:=3) (bs:=[.z (aY vm)]) (Cz vm) h⟩
end
end G03
end
section
set_option synthInstance.maxSize 100000
namespace G03
open PySem PySem.Spec PyProof.Rows L2 P1
noncomputable section
def bL (vo:aW):Str:=(let q1:=vo;(if (!(!q1.2.isEmpty))=true then (q1.1++((":" : Str)++Str.empty)) else (let vp:=(Txt.join ", " (q1.2.map fun q2:nF=>(q2.1++((" " : Str)++(q2.2++Str.empty)))));(q1.1++((": " : Str)++(vp++Str.empty))))))
def nR (vo:aW):Prop:=(let q1:=vo;(((!(!q1.2.isEmpty))=true->(q1.1++((":" : Str)++Str.empty)).length<=100000)/\((!(!q1.2.isEmpty))=false->(((q1.2.length<=100000/\(∀ q2∈q1.2,(q2.1++((" " : Str)++(q2.2++Str.empty))).length<=100000))/\((q1.2.map fun q2:nF=>(q2.1++((" " : Str)++(q2.2++Str.empty)))).map (·.length)).sum+(q1.2.map fun q2:nF=>(q2.1++((" " : Str)++(q2.2++Str.empty)))).length * (", " : Str).length<=100000)/\(let vp:=(Txt.join ", " (q1.2.map fun q2:nF=>(q2.1++((" " : Str)++(q2.2++Str.empty)))));(q1.1++((": " : Str)++(vp++Str.empty))).length<=100000)))))
theorem KH (vo:aW):RP qK [some ((zE aY) vo),none,none,none] (fun r=>Out.rt ((zE eS) r)) (bL vo) (some (nR vo)):=R.tp (Wt (aB 0 (zE aY) vo rfl) _ (fun _=>rfl) fun q1=>(uI (Az (aaA (aB 2 (zE (eT jm)) q1.2 rfl))) (dD (d7 (fun r=>r) (Km (Ih (aB 1 (zE eS) q1.1 rfl) (RK ":" RJ))) (fun _=>rfl) fun _=>rfl)) (fX (bR 3 (Gm ", " (qG (sI (Rp (aB 2 (zE (eT jm)) q1.2 rfl)) _ (fun _=>rfl) (fun q2:nF=>(Km (Ih (aB 0 (zE eS) q2.1 rfl) (RK " " (Ih (aB 1 (zE eS) q2.2 rfl) RJ)))))))) (fun _=>rfl) fun vp=>(d7 (fun r=>r) (Km (Ih (aB 1 (zE eS) q1.1 rfl) (RK ": " (Ih (aB 3 (zE eS) vp rfl) RJ)))) (fun _=>rfl) fun _=>rfl)))))
theorem CJ:∀ v bs,(aZ aY aN) v bs->bs.length=1/\(hold (some (nR v.1))->gk (bs.map lend)=some ((zE eS) (bL v.1))):=by
 rintro⟨vo,_⟩ _ ⟨_,rfl,rfl⟩
 exact⟨rfl,fun h=>bU (g:=qK) (n:=4) (bs:=[.z (aY vo)]) (KH vo) h⟩
end
end G03
end
section
set_option synthInstance.maxSize 100000
namespace G03
open PySem PySem.Spec PyProof.Rows L2 P1
noncomputable section
def qT (vs:aW) (vt:Int):Bool:=((is_tuple (aY vs))&&(decide ((2:Int)=vt)))
theorem KJ (vs:aW) (vt:Int):RP lB [some ((zE aY) vs),some ((zE eI) vt)] (fun r=>Out.rt ((zE eB) r)) (qT vs vt) none:=R.tp (d7 (fun r=>r) (sE (yu is_tuple (aB 0 (zE aY) vs rfl)) (x_eq (by decide) (Rz (aB 0 (zE aY) vs rfl) 2 fun _=>⟨_,rfl,rfl⟩) (aB 1 (zE eI) vt rfl))) (fun _=>rfl) fun _=>rfl)
theorem KN:∀ v bs,(aZ aY (aZ eI aN)) v bs->bs.length=2/\(hold (none)->fG (bs.map lend)=some ((zE eB) (qT v.1 v.2.1))):=by
 rintro⟨vs,vt,_⟩ _ ⟨_,rfl,⟨_,rfl,rfl⟩⟩
 exact⟨rfl,fun h=>bU (g:=lB) (n:=2) (bs:=[.z (aY vs),.z (eI vt)]) (KJ vs vt) h⟩
end
end G03
end
section
set_option synthInstance.maxSize 100000
namespace G03
open PySem PySem.Spec PyProof.Rows L2 P1
noncomputable section
def je (vs:Str) (vu:Str) (vv:Int):Bool:=((dh (eS vs))&&(((decide ((1:Int)<=(vs.length:Int)))&&(decide ((vs.length:Int)<=vv)))&&(((chars vs).map fun vw:Str=>(DY vw vu)).all id)))
def kh (vs:Str) (vu:Str) (vv:Int):Prop:=((dh (eS vs))=true->(((decide ((1:Int)<=(vs.length:Int)))&&(decide ((vs.length:Int)<=vv)))=true->(chars vs).length<=100000))
theorem GF (vs:Str) (vu:Str) (vv:Int):RP mQ [some ((zE eS) vs),some ((zE eS) vu),some ((zE eI) vv)] (fun r=>Out.rt ((zE eB) r)) (je vs vu vv) (some (kh vs vu vv)):=R.tp (d7 (fun r=>r) (sE (yu dh (aB 0 (zE eS) vs rfl)) (sE (acJ (aay (aP (.int 1) eI (1:Int) rfl) (Gk (aB 0 (zE eS) vs rfl))) (aay (Gk (aB 0 (zE eS) vs rfl)) (aB 2 (zE eI) vv rfl))) (Rn (qG (Mp (acK (aB 0 (zE eS) vs rfl)) _ (fun _=>rfl) (fun vw:Str=>(aaD (aB 1 (zE eS) vw rfl) (aB 0 (zE eS) vu rfl))) fun _=>rfl))))) (fun _=>rfl) fun _=>rfl)
theorem wI:∀ v bs,(aZ eS (aZ eS (aZ eI aN))) v bs->bs.length=3/\(hold (some (kh v.1 v.2.1 v.2.2.1))->dB (bs.map lend)=some ((zE eB) (je v.1 v.2.1 v.2.2.1))):=by
 rintro⟨vs,vu,vv,_⟩ _ ⟨_,rfl,⟨_,rfl,⟨_,rfl,rfl⟩⟩⟩
 exact⟨rfl,fun h=>bU (g:=mQ) (n:=3) (bs:=[.z (eS vs),.z (eS vu),.z (eI vv)]) (GF vs vu vv) h⟩
end
end G03
end
section
set_option synthInstance.maxSize 100000
namespace G03
open PySem PySem.Spec PyProof.Rows L2 P1
noncomputable section
def lM (vs:Str):Bool:=(je vs ("abcdefghijklmnopqrstuvwxyz" : Str) (8:Int))
def qm (vs:Str):Prop:=(kh vs ("abcdefghijklmnopqrstuvwxyz" : Str) (8:Int))
theorem O6 (vs:Str):RP ur [some ((zE eS) vs)] (fun r=>Out.rt ((zE eB) r)) (lM vs) (some (qm vs)):=R.tp (d7 (fun r=>r) (x_call wI (cT (aB 0 (zE eS) vs rfl) (cT (aP (.str "abcdefghijklmnopqrstuvwxyz") eS ("abcdefghijklmnopqrstuvwxyz" : Str) rfl) (cT (aP (.int 8) eI (8:Int) rfl) bA)))) (fun _=>rfl) fun _=>rfl)
theorem Fd:∀ v bs,(aZ eS aN) v bs->bs.length=1/\(hold (some (qm v.1))->iQ (bs.map lend)=some ((zE eB) (lM v.1))):=by
 rintro⟨vs,_⟩ _ ⟨_,rfl,rfl⟩
 exact⟨rfl,fun h=>bU (g:=ur) (n:=1) (bs:=[.z (eS vs)]) (O6 vs) h⟩
end
end G03
end
section
set_option synthInstance.maxSize 100000
namespace G03
open PySem PySem.Spec PyProof.Rows L2 P1
noncomputable section
def mU (vs:nF) (vt:Int):Bool:=((is_tuple (jm vs))&&(decide ((2:Int)=vt)))
theorem GJ (vs:nF) (vt:Int):RP lB [some ((zE jm) vs),some ((zE eI) vt)] (fun r=>Out.rt ((zE eB) r)) (mU vs vt) none:=R.tp (d7 (fun r=>r) (sE (yu is_tuple (aB 0 (zE jm) vs rfl)) (x_eq (by decide) (Rz (aB 0 (zE jm) vs rfl) 2 fun _=>⟨_,rfl,rfl⟩) (aB 1 (zE eI) vt rfl))) (fun _=>rfl) fun _=>rfl)
theorem GK:∀ v bs,(aZ jm (aZ eI aN)) v bs->bs.length=2/\(hold (none)->fG (bs.map lend)=some ((zE eB) (mU v.1 v.2.1))):=by
 rintro⟨vs,vt,_⟩ _ ⟨_,rfl,⟨_,rfl,rfl⟩⟩
 exact⟨rfl,fun h=>bU (g:=lB) (n:=2) (bs:=[.z (jm vs),.z (eI vt)]) (GJ vs vt) h⟩
end
end G03
end
section
set_option synthInstance.maxSize 100000
namespace G03
open PySem PySem.Spec PyProof.Rows L2 P1
noncomputable section
def ux (vs:Str):Bool:=(je vs (("abcdefghijklmnopqrstuvwxyz" : Str)++("0123456789" : Str)) (12:Int))
def uy (vs:Str):Prop:=(Dp (("abcdefghijklmnopqrstuvwxyz" : Str).length+("0123456789" : Str).length)/\(kh vs (("abcdefghijklmnopqrstuvwxyz" : Str)++("0123456789" : Str)) (12:Int)))
theorem O7 (vs:Str):RP uw [some ((zE eS) vs)] (fun r=>Out.rt ((zE eB) r)) (ux vs) (some (uy vs)):=R.tp (d7 (fun r=>r) (x_call wI (cT (aB 0 (zE eS) vs rfl) (cT (oF (pD (aP (.str "abcdefghijklmnopqrstuvwxyz") eS ("abcdefghijklmnopqrstuvwxyz" : Str) rfl) (aP (.str "0123456789") eS ("0123456789" : Str) rfl))) (cT (aP (.int 12) eI (12:Int) rfl) bA)))) (fun _=>rfl) fun _=>rfl)
theorem O8:∀ v bs,(aZ eS aN) v bs->bs.length=1/\(hold (some (uy v.1))->lC (bs.map lend)=some ((zE eB) (ux v.1))):=by
 rintro⟨vs,_⟩ _ ⟨_,rfl,rfl⟩
 exact⟨rfl,fun h=>bU (g:=uw) (n:=1) (bs:=[.z (eS vs)]) (O7 vs) h⟩
end
end G03
end
section
set_option synthInstance.maxSize 100000
namespace G03
open PySem PySem.Spec PyProof.Rows L2 P1
noncomputable section
def cZ (vs:nF):Bool:=((mU vs (2:Int))&&((lM vs.1)&&(ux vs.2)))
def ju (vs:nF):Prop:=((mU vs (2:Int))=true->((qm vs.1)/\((lM vs.1)=true->(uy vs.2))))
theorem zG (vs:nF):RP jr [some ((zE jm) vs)] (fun r=>Out.rt ((zE eB) r)) (cZ vs) (some (ju vs)):=R.tp (d7 (fun r=>r) (sE (x_call GK (cT (aB 0 (zE jm) vs rfl) (cT (aP (.int 2) eI (2:Int) rfl) bA))) (sE (x_call Fd (cT (sH (aB 0 (zE jm) vs rfl) (fun q=>q.1) eS 0 fun _=>rfl) bA)) (x_call O8 (cT (sH (aB 0 (zE jm) vs rfl) (fun q=>q.2) eS 1 fun _=>rfl) bA)))) (fun _=>rfl) fun _=>rfl)
theorem zH:∀ v bs,(aZ jm aN) v bs->bs.length=1/\(hold (some (ju v.1))->cV (bs.map lend)=some ((zE eB) (cZ v.1))):=by
 rintro⟨vs,_⟩ _ ⟨_,rfl,rfl⟩
 exact⟨rfl,fun h=>bU (g:=jr) (n:=1) (bs:=[.z (jm vs)]) (zG vs) h⟩
end
end G03
end
section
set_option synthInstance.maxSize 100000
namespace G03
open PySem PySem.Spec PyProof.Rows L2 P1
noncomputable section
def mV (vy:(List Str)):Bool:=(((rng 0 ((vy.length:Int) - (1:Int)).toNat).map fun vz:Int=>(Mj (at' vy vz) (at' vy (vz+(1:Int))))).all id)
def mX (vy:(List Str)):Prop:=((Rg ((vy.length:Int) - (1:Int))/\(rng 0 ((vy.length:Int) - (1:Int)).toNat).length<=100000)/\(∀ vz∈(rng 0 ((vy.length:Int) - (1:Int)).toNat),(In vy.length vz/\In vy.length (vz+(1:Int)))))
theorem GP (vy:(List Str)) {eV:Bx} (iZ:Lp eV (vy.map eS)):RP mR [some eV] (fun r=>Out.rt ((zE eB) r)) (mV vy) (some (mX vy)):=R.tp (d7 (fun r=>r) (Rn (qG (sI (vR (aax (x_len (gU 0 eS vy iZ rfl)) (aP (.int 1) eI (1:Int) rfl))) _ (fun _=>rfl) (fun vz:Int=>(aaz (kW (gU 0 eS vy iZ (congrArg some (iZ.get rfl))) (aB 1 (zE eI) vz rfl)) (kW (gU 0 eS vy iZ (congrArg some (iZ.get rfl))) (gF (aB 1 (zE eI) vz rfl) (aP (.int 1) eI (1:Int) rfl)))))))) (fun _=>rfl) fun _=>rfl)
theorem GQ:∀ v bs,(aL eS aN) v bs->bs.length=1/\(hold (some (mX v.1))->gn (bs.map lend)=some ((zE eB) (mV v.1))):=by
 rintro⟨vy,_⟩ _ ⟨eV,_,rfl,iZ,rfl⟩
 exact⟨rfl,fun h=>bU (g:=mR) (n:=1) (bs:=[lend eV]) (GP vy (Av iZ)) h⟩
end
end G03
end
section
set_option synthInstance.maxSize 100000
namespace G03
open PySem PySem.Spec PyProof.Rows L2 P1
noncomputable section
def lZ (vs:(List nF)):Bool:=(if ((!(is_tuple ((eT jm) vs)))||(!((vs.map fun vx:nF=>(cZ vx)).all id)))=true then false else (mV (vs.map fun q1:nF=>q1.1)))
def o7 (vs:(List nF)):Prop:=(((!(is_tuple ((eT jm) vs)))=false->(vs.length<=100000/\(∀ vx∈vs,(ju vx))))/\(((!(is_tuple ((eT jm) vs)))||(!((vs.map fun vx:nF=>(cZ vx)).all id)))=false->(vs.length<=100000/\(mX (vs.map fun q1:nF=>q1.1)))))
theorem Jg (vs:(List nF)):RP oR [some ((zE (eT jm)) vs)] (fun r=>Out.rt ((zE eB) r)) (lZ vs) (some (o7 vs)):=R.tp (uI (Vn (Az (Kd (yu is_tuple (aB 0 (zE (eT jm)) vs rfl)))) (Az (Kd (Rn (qG (sI (Rp (aB 0 (zE (eT jm)) vs rfl)) _ (fun _=>rfl) (fun vx:nF=>(oF (x_call zH (cT (aB 0 (zE jm) vx rfl) bA)))))))))) (dD (d7 (fun r=>r) (aP (.bl false) eB false rfl) (fun _=>rfl) fun _=>rfl)) (fX (d7 (fun r=>r) (x_call GQ (Dq (Yq (Vm (Mp (Rp (aB 0 (zE (eT jm)) vs rfl)) _ (fun _=>rfl) (fun q1:nF=>(aB 0 (zE eS) q1.1 rfl)) fun _=>rfl))) bA)) (fun _=>rfl) fun _=>rfl)))
theorem Jh:∀ v bs,(aZ (eT jm) aN) v bs->bs.length=1/\(hold (some (o7 v.1))->gY (bs.map lend)=some ((zE eB) (lZ v.1))):=by
 rintro⟨vs,_⟩ _ ⟨_,rfl,rfl⟩
 exact⟨rfl,fun h=>bU (g:=oR) (n:=1) (bs:=[.z ((eT jm) vs)]) (Jg vs) h⟩
end
end G03
end
section
set_option synthInstance.maxSize 100000
namespace G03
open PySem PySem.Spec PyProof.Rows L2 P1
noncomputable section
def qp (vs:aW):Bool:=((qT vs (2:Int))&&((lM vs.1)&&(lZ vs.2)))
def ud (vs:aW):Prop:=((qT vs (2:Int))=true->((qm vs.1)/\((lM vs.1)=true->(o7 vs.2))))
theorem R8 (vs:aW):RP vY [some ((zE aY) vs)] (fun r=>Out.rt ((zE eB) r)) (qp vs) (some (ud vs)):=R.tp (d7 (fun r=>r) (sE (x_call KN (cT (aB 0 (zE aY) vs rfl) (cT (aP (.int 2) eI (2:Int) rfl) bA))) (sE (x_call Fd (cT (sH (aB 0 (zE aY) vs rfl) (fun q=>q.1) eS 0 fun _=>rfl) bA)) (x_call Jh (cT (sH (aB 0 (zE aY) vs rfl) (fun q=>q.2) (eT jm) 1 fun _=>rfl) bA)))) (fun _=>rfl) fun _=>rfl)
theorem Ji:∀ v bs,(aZ aY aN) v bs->bs.length=1/\(hold (some (ud v.1))->nJ (bs.map lend)=some ((zE eB) (qp v.1))):=by
 rintro⟨vs,_⟩ _ ⟨_,rfl,rfl⟩
 exact⟨rfl,fun h=>bU (g:=vY) (n:=1) (bs:=[.z (aY vs)]) (R8 vs) h⟩
end
end G03
end
section
set_option synthInstance.maxSize 100000
namespace G03
open PySem PySem.Spec PyProof.Rows L2 P1
noncomputable section
def cQ (vq:Str):(Option aW):=(let q1:=(Txt.partition vq (":" : Str));(if (!(decide (q1.2.1.length≠0)))=true then none else (if (!(decide (q1.2.2.length≠0)))=true then (let vr:=([]:List nF);(let vo:=(q1.1,vr);(if (qp vo)=true then (some vo) else none))) else (if (decide ((ch q1.2.2 (0:Int))=(" " : Str)))=true then (let vr:=((Txt.split (Txt.slice q1.2.2 (some (1:Int)) none) (", " : Str)).map fun vx:Str=>(at' (Txt.split vx (" " : Str)) 0,at' (Txt.split vx (" " : Str)) 1));(let vo:=(q1.1,vr);(if (qp vo)=true then (some vo) else none))) else none))))
def qt (vq:Str):Prop:=(((":" : Str).length==0)=false/\(let q1:=(Txt.partition vq (":" : Str));((!(decide (q1.2.1.length≠0)))=false->(((!(decide (q1.2.2.length≠0)))=true->(let vr:=([]:List nF);(let vo:=(q1.1,vr);(ud vo))))/\((!(decide (q1.2.2.length≠0)))=false->(In q1.2.2.length (0:Int)/\((decide ((ch q1.2.2 (0:Int))=(" " : Str)))=true->((((((", " : Str).length==0)=false/\(Txt.slice q1.2.2 (some (1:Int)) none).length<=100000)/\(Txt.split (Txt.slice q1.2.2 (some (1:Int)) none) (", " : Str)).length<=100000)/\(∀ vx∈(Txt.split (Txt.slice q1.2.2 (some (1:Int)) none) (", " : Str)),((((" " : Str).length==0)=false/\vx.length<=100000)/\(Txt.split vx (" " : Str)).length=2)))/\(let vr:=((Txt.split (Txt.slice q1.2.2 (some (1:Int)) none) (", " : Str)).map fun vx:Str=>(at' (Txt.split vx (" " : Str)) 0,at' (Txt.split vx (" " : Str)) 1));(let vo:=(q1.1,vr);(ud vo)))))))))))
theorem R9 (vq:Str):RP vZ [some ((zE eS) vq),none,none,none,none,none] (fun r=>Out.rt ((zE (eO aY)) r)) (cQ vq) (some (qt vq)):=R.tp (Wt (YJ (aB 0 (zE eS) vq rfl) (aP (.str ":") eS (":" : Str) rfl)) _ (fun _=>rfl) fun q1=>(uI (Az (Q8 (aB 2 (zE eS) q1.2.1 rfl))) (dD (d7 (fun r=>r) Aw (fun _=>rfl) fun _=>rfl)) (fX (uI (Az (Q8 (aB 3 (zE eS) q1.2.2 rfl))) (dD (bR 4 (Ke jm) (fun _=>rfl) fun vr=>(fX (bR 5 (Gi (aB 1 (zE eS) q1.1 rfl) (aB 4 (zE (eT jm)) vr rfl)) (fun _=>rfl) fun vo=>(d7 (fun r=>r) (oF (Vo (Kd (x_call Ji (cT (aB 5 (zE aY) vo rfl) bA))) (Kc (aB 5 (zE aY) vo rfl)) Aw)) (fun _=>rfl) fun _=>rfl))))) (dD (uI (sG (x_eq (by decide) (Em (aB 3 (zE eS) q1.2.2 rfl) (aP (.int 0) eI (0:Int) rfl)) (aP (.str " ") eS (" " : Str) rfl))) (dD (bR 4 (uo (qG (sI (aaF (qG (Gs (Rc (aB 3 (zE eS) q1.2.2 rfl) (Rb (aP (.int 1) eI (1:Int) rfl)) Ra) (aP (.str ", ") eS (", " : Str) rfl)))) _ (fun _=>rfl) (fun vx:Str=>(acQ (uo (qG (Gs (aB 0 (zE eS) vx rfl) (aP (.str " ") eS (" " : Str) rfl))))))))) (fun _=>rfl) fun vr=>(fX (fX (bR 5 (Gi (aB 1 (zE eS) q1.1 rfl) (aB 4 (zE (eT jm)) vr rfl)) (fun _=>rfl) fun vo=>(d7 (fun r=>r) (oF (Vo (Kd (x_call Ji (cT (aB 5 (zE aY) vo rfl) bA))) (Kc (aB 5 (zE aY) vo rfl)) Aw)) (fun _=>rfl) fun _=>rfl)))))) (dD (d7 (fun r=>r) Aw (fun _=>rfl) fun _=>rfl))))))))
theorem Jj:∀ v bs,(aZ eS aN) v bs->bs.length=1/\(hold (some (qt v.1))->jY (bs.map lend)=some ((zE (eO aY)) (cQ v.1))):=by
 rintro⟨vq,_⟩ _ ⟨_,rfl,rfl⟩
 exact⟨rfl,fun h=>bU (g:=vZ) (n:=6) (bs:=[.z (eS vq)]) (R9 vq) h⟩
end
end G03
end
section
set_option synthInstance.maxSize 100000
namespace G03
open PySem PySem.Spec PyProof.Rows L2 P1
noncomputable section
def nT (vq:Str):(Option aW):=(let vo:=(if (dh (eS vq))=true then (cQ vq) else none);(if vo.isNone=true then default else vo))
def qU (vq:Str):Prop:=(((dh (eS vq))=true->(qt vq))/\(let vo:=(if (dh (eS vq))=true then (cQ vq) else none);(vo.isNone=true->False)))
theorem KQ (vq:Str):RP qL [some ((zE eS) vq),none] (fun r=>Out.rt ((zE (eO aY)) r)) (nT vq) (some (qU vq)):=R.tp (bR 1 (Vo (Kd (yu dh (aB 0 (zE eS) vq rfl))) (x_call Jj (cT (aB 0 (zE eS) vq rfl) bA)) Aw) (fun _=>rfl) fun vo=>(uI (sG (Ws (aB 1 (zE (eO aY)) vo rfl) fun _=>rfl)) (dD Mu) (fX (d7 (fun r=>r) (aB 1 (zE (eO aY)) vo rfl) (fun _=>rfl) fun _=>rfl))))
theorem KR:∀ v bs,(aZ eS aN) v bs->bs.length=1/\(hold (some (qU v.1))->jz (bs.map lend)=some ((zE (eO aY)) (nT v.1))):=by
 rintro⟨vq,_⟩ _ ⟨_,rfl,rfl⟩
 exact⟨rfl,fun h=>bU (g:=qL) (n:=2) (bs:=[.z (eS vq)]) (KQ vq) h⟩
end
end G03
end
section
set_option synthInstance.maxSize 100000
namespace G03
open PySem PySem.Spec PyProof.Rows L2 P1
noncomputable section
def iH (Mz:(List aW)):Str:=(Txt.join "\n" (Mz.map fun vo:aW=>(bL vo)))
def mj (Mz:(List aW)):Prop:=((Mz.length<=100000/\(∀ vo∈Mz,(nR vo)))/\((Mz.map fun vo:aW=>(bL vo)).map (·.length)).sum+(Mz.map fun vo:aW=>(bL vo)).length * ("\n" : Str).length<=100000)
theorem Jk (Mz:(List aW)):RP oU [some ((zE (eT aY)) Mz)] (fun r=>Out.rt ((zE eS) r)) (iH Mz) (some (mj Mz)):=R.tp (d7 (fun r=>r) (Gm "\n" (qG (sI (Rp (aB 0 (zE (eT aY)) Mz rfl)) _ (fun _=>rfl) (fun vo:aW=>(oF (x_call CJ (cT (aB 0 (zE aY) vo rfl) bA))))))) (fun _=>rfl) fun _=>rfl)
theorem yP:∀ v bs,(aZ (eT aY) aN) v bs->bs.length=1/\(hold (some (mj v.1))->dG (bs.map lend)=some ((zE eS) (iH v.1))):=by
 rintro⟨Mz,_⟩ _ ⟨_,rfl,rfl⟩
 exact⟨rfl,fun h=>bU (g:=oU) (n:=1) (bs:=[.z ((eT aY) Mz)]) (Jk Mz) h⟩
end
end G03
end
section
set_option synthInstance.maxSize 100000
namespace G03
open PySem PySem.Spec PyProof.Rows L2 P1
noncomputable section
def iI (vq:Str):(List Str):=(if (!(dh (eS vq)))=true then default else (if (decide (vq.length≠0))=true then (Txt.split vq ("\n" : Str)) else ([]:List Str)))
def qW (vq:Str):Prop:=(((!(dh (eS vq)))=true->False)/\((!(dh (eS vq)))=false->((decide (vq.length≠0))=true->((("\n" : Str).length==0)=false/\vq.length<=100000))))
theorem KY (vq:Str):RP qM [some ((zE eS) vq)] (fun r=>Out.rt ((oE eS) r)) (iI vq) (some (qW vq)):=R.tp (uI (Az (Kd (yu dh (aB 0 (zE eS) vq rfl)))) (dD Mu) (fX (d7 (fun r=>r) (Vo (Q8 (aB 0 (zE eS) vq rfl)) (Gs (aB 0 (zE eS) vq rfl) (aP (.str "\n") eS ("\n" : Str) rfl)) (q8 (mC eS) (Nat.le_of_ble_eq_true rfl))) (fun _=>rfl) fun _=>rfl)))
theorem KZ:∀ v bs,(aZ eS aN) v bs->bs.length=1/\(hold (some (qW v.1))->jA (bs.map lend)=some ((oE eS) (iI v.1))):=by
 rintro⟨vq,_⟩ _ ⟨_,rfl,rfl⟩
 exact⟨rfl,fun h=>bU (g:=qM) (n:=1) (bs:=[.z (eS vq)]) (KY vq) h⟩
end
end G03
end
section
set_option synthInstance.maxSize 100000
namespace G03
open PySem PySem.Spec PyProof.Rows L2 P1
noncomputable section
def iJ (vq:Str):(List aW):=(let WD:=([]:List aW);(let WD:=((uJ (iI vq)).map fun q1:R3=>(cQ q1.2).getD default);WD))
def mq (vq:Str):Prop:=(let WD:=([]:List aW);(((WD=[]/\(qW vq))/\((uJ (iI vq)).length < 4000/\((uJ (iI vq)).map fun q1:R3=>(let y2:=(cQ q1.2);(y2.getD default).1)).Nodup))/\(∀ q1∈(uJ (iI vq)),((qt q1.2)/\(((cQ q1.2)).isSome=true/\((let y2:=(cQ q1.2);y2.isNone=false)/\(let y2:=(cQ q1.2);y2.isSome=true)))))))
theorem Jl (vq:Str):RP oV [some ((zE eS) vq),none,none,none,none,none] (fun r=>Out.rt ((zE (eT aY)) r)) (iJ vq) (some (mq vq)):=R.tp (bR 1 (q8 (mC aY) (Nat.le_of_ble_eq_true rfl)) (fun _=>rfl) fun WD=>(YM 2 1 5 3 4 WD rfl rfl (ρ0:=[some ((zE eS) vq),none,none,none,none,none]) rfl (YG (Vm (x_call KZ (cT (aB 0 (zE eS) vq rfl) bA)))) (fun q1:R3=>(x_call Jj (cT (aB 4 (zE eS) q1.2 rfl) bA))) (fun (q1:R3) y2=>(sG (Ws (aB 5 (zE (eO aY)) y2 rfl) fun _=>rfl))) (fun (q1:R3) y2=>(sH (aaw (aB 5 (zE (eO aY)) y2 rfl)) (fun q=>q.1) eS 0 fun _=>rfl)) fun WD=>(d7 (fun r=>r) (uo (xH (aB 1 (lE aY) WD rfl))) (fun _=>rfl) fun _=>rfl)))
theorem yQ:∀ v bs,(aZ eS aN) v bs->bs.length=1/\(hold (some (mq v.1))->dH (bs.map lend)=some ((zE (eT aY)) (iJ v.1))):=by
 rintro⟨vq,_⟩ _ ⟨_,rfl,rfl⟩
 exact⟨rfl,fun h=>bU (g:=oV) (n:=6) (bs:=[.z (eS vq)]) (Jl vq) h⟩
end
end G03
end
section
set_option synthInstance.maxSize 100000
namespace G03
open PySem PySem.Spec PyProof.Rows L2 P1
noncomputable section
def nU (v1:(List aW)) (vl:(List Str)) (s1:Unit) (v5:Int):Kf (Unit) Bool:=(if ((!decide ((bL (at' v1 v5))=(at' vl v5)))||(!decide ((nT (at' vl v5))=(some (at' v1 v5)))))=true then (Kf.rt false) else (Kf.nx ()))
def uf (v1:(List aW)) (vl:(List Str)) (s1:Unit) (v5:Int):Prop:=(((In v1.length v5/\(nR (at' v1 v5)))/\In vl.length v5)/\((!decide ((bL (at' v1 v5))=(at' vl v5)))=false->((In vl.length v5/\(qU (at' vl v5)))/\In v1.length v5)))
theorem Sd (v0:(List Int)) {eV:Bx} (iZ:Lp eV (v0.map eI)) (v1:(List aW)) (vl:(List Str)) (s1:Unit) (v5:Int):RP Bh [some eV,some ((zE (eT aY)) v1),some ((oE eS) vl),some ((zE eI) v5),none,none] (cC (fun s1:Unit=>[some eV,some ((zE (eT aY)) v1),some ((oE eS) vl),none,none,none]) (zE eB)) (nU v1 vl s1 v5) (some (uf v1 vl s1 v5)):=R.tp (dD (uI (Vn (sG (Yt (by decide) (x_call CJ (cT (Ml (aB 1 (zE (eT aY)) v1 rfl) (aB 3 (zE eI) v5 rfl)) bA)) (kW (xH (aB 2 (lE eS) vl rfl)) (aB 3 (zE eI) v5 rfl)))) (sG (Yt (by decide) (x_call KR (cT (kW (xH (aB 2 (lE eS) vl rfl)) (aB 3 (zE eI) v5 rfl)) bA)) (Kc (Ml (aB 1 (zE (eT aY)) v1 rfl) (aB 3 (zE eI) v5 rfl)))))) (dD (d7 .rt (aP (.bl false) eB false rfl) (fun _=>rfl) fun _=>rfl)) (fX (fX (fZ (.nx ()) rfl)))))
def wJ (v0:(List Int)) (v1:(List aW)) (vl:(List Str)) (vn:Str) (v9:(List aW)):Bool:=((is_tuple ((eT aY) v9))&&((decide (v9=v1))&&((decide ((iH ([]:List aW))=("" : Str)))&&(decide ((iJ ("" : Str))=([]:List aW))))))
def CK (v0:(List Int)) (v1:(List aW)) (vl:(List Str)) (vn:Str) (v9:(List aW)):Prop:=((is_tuple ((eT aY) v9))=true->((decide (v9=v1))=true->((mj ([]:List aW))/\((decide ((iH ([]:List aW))=("" : Str)))=true->(mq ("" : Str))))))
def Jm:Ev->Option Out:=(aH (jj (uD (sy is_tuple (gv 5)) (uD (b2 eqB (gv 5) (gv 1)) (uD (b2 eqB (bH 1 dG (aC (gO yX aK) aK)) (cB (.str ""))) (b2 eqB (bH 1 dH (aC (cB (.str "")) aK)) (gO yX aK)))))) jg)
theorem Sg (v0:(List Int)) {eV:Bx} (iZ:Lp eV (v0.map eI)) (v1:(List aW)) (vl:(List Str)) (vn:Str) (v9:(List aW)):RP Jm [some eV,some ((zE (eT aY)) v1),some ((oE eS) vl),none,some ((zE eS) vn),some ((zE (eT aY)) v9)] (fun r=>Out.rt ((zE eB) r)) (wJ v0 v1 vl vn v9) (some (CK v0 v1 vl vn v9)):=R.tp (d7 (fun r=>r) (sE (yu is_tuple (aB 5 (zE (eT aY)) v9 rfl)) (sE (x_eq (by decide) (aB 5 (zE (eT aY)) v9 rfl) (aB 1 (zE (eT aY)) v1 rfl)) (sE (x_eq (by decide) (x_call yP (cT (Ke aY) bA)) (aP (.str "") eS ("" : Str) rfl)) (x_eq (by decide) (x_call yQ (cT (aP (.str "") eS ("" : Str) rfl) bA)) (Ke aY))))) (fun _=>rfl) fun _=>rfl)
def wK (v0:(List Int)) (v1:(List aW)) (vl:(List Str)) (vn:Str):Bool:=(if ((!(dh (eS vn)))||(!decide (vn=(Txt.join "\n" vl))))=true then false else (let v9:=(iJ vn);(wJ v0 v1 vl vn v9)))
def CN (v0:(List Int)) (v1:(List aW)) (vl:(List Str)) (vn:Str):Prop:=(((!(dh (eS vn)))=false->(vl.map (·.length)).sum+vl.length * ("\n" : Str).length<=100000)/\(((!(dh (eS vn)))||(!decide (vn=(Txt.join "\n" vl))))=false->((mq vn)/\(let v9:=(iJ vn);(CK v0 v1 vl vn v9)))))
def Jo:Ev->Option Out:=(aH (Dc (Tv (Af (tV (sy dh (gv 4)))) (HB Wm (gv 4) (b1 (uH "\n") (gv 2)))) (aH (jj (cB (.bl false))) jg) jg) (aH (setG 5 (bH 1 dH (aC (gv 4) aK))) Jm))
theorem Sh (v0:(List Int)) {eV:Bx} (iZ:Lp eV (v0.map eI)) (v1:(List aW)) (vl:(List Str)) (vn:Str):RP Jo [some eV,some ((zE (eT aY)) v1),some ((oE eS) vl),none,some ((zE eS) vn),none] (fun r=>Out.rt ((zE eB) r)) (wK v0 v1 vl vn) (some (CN v0 v1 vl vn)):=R.tp (uI (Vn (Az (Kd (yu dh (aB 4 (zE eS) vn rfl)))) (sG (Yt (by decide) (aB 4 (zE eS) vn rfl) (Gm "\n" (xH (aB 2 (lE eS) vl rfl)))))) (dD (d7 (fun r=>r) (aP (.bl false) eB false rfl) (fun _=>rfl) fun _=>rfl)) (fX (bR 5 (x_call yQ (cT (aB 4 (zE eS) vn rfl) bA)) (fun _=>rfl) fun v9=>(Sg v0 iZ v1 vl vn v9).r)))
def wL (v0:(List Int)) (v1:(List aW)) (vl:(List Str)):Bool:=(let vn:=(iH v1);(wK v0 v1 vl vn))
def CP (v0:(List Int)) (v1:(List aW)) (vl:(List Str)):Prop:=((mj v1)/\(let vn:=(iH v1);(CN v0 v1 vl vn)))
def Jp:Ev->Option Out:=(aH (setG 4 (bH 1 dG (aC (gv 1) aK))) Jo)
theorem Sq (v0:(List Int)) {eV:Bx} (iZ:Lp eV (v0.map eI)) (v1:(List aW)) (vl:(List Str)):RP Jp [some eV,some ((zE (eT aY)) v1),some ((oE eS) vl),none,none,none] (fun r=>Out.rt ((zE eB) r)) (wL v0 v1 vl) (some (CP v0 v1 vl)):=R.tp (bR 4 (x_call yP (cT (aB 1 (zE (eT aY)) v1 rfl) bA)) (fun _=>rfl) fun vn=>(Sh v0 iZ v1 vl vn).r)
def ug (v0:(List Int)) (v1:(List aW)) (vl:(List Str)):Bool:=(behind (uW (fun (s1:Unit) (v5:Int)=>((nU v1 vl s1 v5):Kf (Unit) Bool)) (rng 0 (v1.length:Int).toNat) ()) (fun r=>r) fun s1:Unit=>(wL v0 v1 vl))
def wM (v0:(List Int)) (v1:(List aW)) (vl:(List Str)):Prop:=((Rg (v1.length:Int)/\Ep (fun (s1:Unit) (v5:Int)=>((nU v1 vl s1 v5):Kf (Unit) Bool)) (fun (s1:Unit) (v5:Int)=>some (uf v1 vl s1 v5)) (rng 0 (v1.length:Int).toNat) ())/\(Ms (uW (fun (s1:Unit) (v5:Int)=>((nU v1 vl s1 v5):Kf (Unit) Bool)) (rng 0 (v1.length:Int).toNat) ()) fun s1:Unit=>(CP v0 v1 vl)))
def Jq:Ev->Option Out:=(aH (pL (Gf (aC (gO pJ (aC (gv 1) aK)) aK)) (uV 3) Bh) Jp)
theorem Ss (v0:(List Int)) {eV:Bx} (iZ:Lp eV (v0.map eI)) (v1:(List aW)) (vl:(List Str)):RP Jq [some eV,some ((zE (eT aY)) v1),some ((oE eS) vl),none,none,none] (fun r=>Out.rt ((zE eB) r)) (ug v0 v1 vl) (some (wM v0 v1 vl)):=R.tp (Yz (fun s1:Unit=>[some eV,some ((zE (eT aY)) v1),some ((oE eS) vl),none,none,none]) () rfl (vR (Rk (aB 1 (zE (eT aY)) v1 rfl))) _ (fun _ _=>rfl) (fun (s1:Unit) (v5:Int)=>((Sd v0 iZ v1 vl s1 v5).r:R _ _ (cC (fun s1:Unit=>[some eV,some ((zE (eT aY)) v1),some ((oE eS) vl),none,none,none]) (zE eB)))) (fun r=>r) (fun _=>rfl) fun s1=>(Sq v0 iZ v1 vl).r)
def CQ (v0:(List Int)) (v1:(List aW)):Bool:=(let vl:=(v1.map fun vm:aW=>(cP vm));(ug v0 v1 vl))
def CT (v0:(List Int)) (v1:(List aW)):Prop:=((v1.length<=100000/\(∀ vm∈v1,(j9 vm)))/\(let vl:=(v1.map fun vm:aW=>(cP vm));(wM v0 v1 vl)))
def Jr:Ev->Option Out:=(aH (setG 2 (kE (J3 (gv 1)) (uV 0) uE (b1 zO (bH 1 cL (aC (gv 0) aK))) [] 1)) Jq)
theorem Sv (v0:(List Int)) {eV:Bx} (iZ:Lp eV (v0.map eI)) (v1:(List aW)):RP Jr [some eV,some ((zE (eT aY)) v1),none,none,none,none] (fun r=>Out.rt ((zE eB) r)) (CQ v0 v1) (some (CT v0 v1)):=R.tp (bR 2 (sI (Rp (aB 1 (zE (eT aY)) v1 rfl)) _ (fun _=>rfl) (fun vm:aW=>(oF (x_call CG (cT (aB 0 (zE aY) vm rfl) bA))))) (fun _=>rfl) fun vl=>(Ss v0 iZ v1 vl).r)
def Js (v0:(List Int)) (v1:(List aW)):Bool:=(let v1:(List aW):=(if (decide (((at' (aj (aq v0 (13:Int)) (1:Int)) (0:Int)) % (8:Int))=(1:Int)))=true then (let v1:=(fW v0);v1) else v1);(CQ v0 v1))
def Jt (v0:(List Int)) (v1:(List aW)):Prop:=(((((iD v0 (13:Int))/\(fK (aq v0 (13:Int)) (1:Int)))/\In (aj (aq v0 (13:Int)) (1:Int)).length (0:Int))/\((decide (((at' (aj (aq v0 (13:Int)) (1:Int)) (0:Int)) % (8:Int))=(1:Int)))=true->(j8 v0)))/\(let v1:(List aW):=(if (decide (((at' (aj (aq v0 (13:Int)) (1:Int)) (0:Int)) % (8:Int))=(1:Int)))=true then (let v1:=(fW v0);v1) else v1);(CT v0 v1)))
def Sw:Ev->Option Out:=(aH (Dc (HB eqB (b2 gR (b2 jx (bH 2 bC (aC (b1 zO (bH 2 cF (aC (gv 0) (aC (cB (.int 13)) aK)))) (aC (cB (.int 1)) aK))) (cB (.int 0))) (cB (.int 8))) (cB (.int 1))) (aH (aH (setG 1 (bH 1 cJ (aC (gv 0) aK))) jg) (jh [])) (aH jg (jh []))) Jr)
theorem Sx (v0:(List Int)) {eV:Bx} (iZ:Lp eV (v0.map eI)) (v1:(List aW)):RP Sw [some eV,some ((zE (eT aY)) v1),none,none,none,none] (fun r=>Out.rt ((zE eB) r)) (Js v0 v1) (some (Jt v0 v1)):=R.tp (Rt (fun v1:(List aW)=>[some eV,some ((zE (eT aY)) v1),none,none,none,none]) (sG (x_eq (by decide) (d9 (kW (qG (x_call lU (cT (oF (x_call qR (Dq (gU 0 eI v0 iZ rfl) (cT (aP (.int 13) eI (13:Int) rfl) bA)))) (cT (aP (.int 1) eI (1:Int) rfl) bA)))) (aP (.int 0) eI (0:Int) rfl)) 8 (by decide)) (aP (.int 1) eI (1:Int) rfl))) (dD (bR 1 (x_call Cy (Dq (gU 0 eI v0 iZ rfl) bA)) (fun _=>rfl) fun v1=>(fX (fZ v1 rfl)))) (fX (fZ v1 rfl)) fun v1=>(Sv v0 iZ v1).r)
def MF (v0:(List Int)):Bool:=(let v1:=(eX v0 (0:Int) (12:Int));(Js v0 v1))
def MJ (v0:(List Int)):Prop:=((jt v0 (0:Int) (12:Int))/\(let v1:=(eX v0 (0:Int) (12:Int));(Jt v0 v1)))
theorem aa4 (v0:(List Int)) {eV:Bx} (iZ:Lp eV (v0.map eI)):RP Mx [some eV,none,none,none,none,none] (fun r=>Out.rt ((zE eB) r)) (MF v0) (some (MJ v0)):=R.tp (bR 1 (x_call zF (Dq (gU 0 eI v0 iZ rfl) (cT (aP (.int 0) eI (0:Int) rfl) (cT (aP (.int 12) eI (12:Int) rfl) bA)))) (fun _=>rfl) fun v1=>(Sx v0 iZ v1).r)
theorem WK:∀ v bs,(aL eI aN) v bs->bs.length=1/\(hold (some (MJ v.1))->oW (bs.map lend)=some ((zE eB) (MF v.1))):=by
 rintro⟨v0,_⟩ _ ⟨eV,_,rfl,iZ,rfl⟩
 exact⟨rfl,fun h=>bU (g:=Mx) (n:=6) (bs:=[lend eV]) (aa4 v0 (Av iZ)) h⟩
theorem WL (h:∀ ns:List Int,ns.length<=63->MJ ns/\MF ns=true):(∀ ns:List Int,ns.length<=63->oW [.z (.lst (ns.map .int))]=some (.z (.bl true)))/\∀ ns:List Int,ns.length<=63->oW [.l (ns.map .int)]=some (.z (.bl true)):=
 ⟨fun ns hn=>((WK (ns,()) [.z (.lst (ns.map .int))] ⟨_,_,rfl,rfl,rfl⟩).2 (h ns hn).1).trans (by rw[(h ns hn).2]),fun ns hn=>((WK (ns,()) [.l (ns.map .int)] ⟨_,_,rfl,rfl,rfl⟩).2 (h ns hn).1).trans (by rw[(h ns hn).2])⟩
end
end G03
end
section
set_option synthInstance.maxSize 100000
namespace G03
open PySem PySem.Spec PyProof.Rows L2 P1
theorem GR (script:List Int) (k:Int) (h0:0<=k) (h1:k<=1000):iD script k:=by
 unfold iD
 exact⟨fun h=>in_of h0 (by simpa using h),fun _=>Wx h0 (by omega)⟩
theorem Sy (k:Nat) (s:Int×List Int×Int) (hk:k < 1000) (h:(0<=s.1/\s.1 < 1999999973)/\s.2.1.length=k/\(∀ x∈s.2.1,0<=x)/\0<=s.2.2):jc s k/\(0<=(bK s k).1/\(bK s k).1 < 1999999973)/\(bK s k).2.1.length=k+1/\(∀ x∈(bK s k).2.1,0<=x)/\0<=(bK s k).2.2:=by
 obtain⟨h1,h2,h3,h4⟩:=h
 have hin:In 2 (if (decide ((0:Int) < s.2.2))=true then (1:Int) else 0):=by split<;>exact in_of (by omega) (by omega)
 refine⟨⟨Wx h1.1 (by omega),hin,?_⟩,eZ _ (by decide),?_,?_,Int.ediv_nonneg h4 (by decide)⟩
 ·show s.2.1.length<=1000000
  omega
 ·show (s.2.1++[_]).length=k+1
  rw[List.length_append,h2];rfl
 ·intro x hx
  rcases List.mem_append.mp hx with hx|hx
  ·exact h3 x hx
  ·cases List.mem_singleton.mp hx
   have:=Gq (xs:=[((((s.1 * ((s.1 % (65521:Int))+(40487:Int)))+((7:Int) * k))+(5:Int)) % (1999999973:Int)),(s.2.2 % (1000000:Int))]) hin
   simp only[List.mem_cons,List.not_mem_nil,or_false] at this
   rcases this with e|e<;>rw[e]
   ·exact (eZ _ (by decide)).1
   ·exact (eZ _ (by decide)).1
theorem CV (c m:Int) (h0:0<=m) (h1:m<=1000):fK c m/\(aj c m).length=m.toNat/\∀ x∈aj c m,0<=x:=by
 have key:∀ st dg:Int,(0<=st/\st < 1999999973)->0<=dg->lK c m [] st dg/\(jd c m [] st dg).length=m.toNat/\∀ x∈jd c m [] st dg,0<=x:=fun st dg hs hd=>by
  have:=pN (P:=fun s k=>some (jc s k)) (fun k s=>(0<=s.1/\s.1 < 1999999973)/\s.2.1.length=k/\(∀ x∈s.2.1,0<=x)/\0<=s.2.2) (step:=fun s k=>bK s k) m.toNat (st,[],dg) ⟨hs,rfl,fun x h=>(by cases h),hd⟩ fun k s hk h=>Sy k s (by omega) h
  exact⟨⟨yw h0 (by omega),this.1⟩,this.2.2.1,this.2.2.2.1⟩
 refine key _ _ (eZ _ (by decide)) ?_
 dsimp only
 split<;>(try split)<;>omega
theorem foldl_size {α:Type} (c:Array α):∀ (n:Nat) (a:Array α),((List.replicate n c).foldl (·++·) a).size=a.size+n * c.size
 |0,a=>by simp
 |n+1,a=>by
  rw[List.replicate_succ,List.foldl_cons,foldl_size c n,Array.size_append,Nat.succ_mul]
  omega
theorem Gb (x:Str) (k:Int):(Txt.mul x k).length<=x.length * k.toNat:=by
 unfold Txt.mul
 split
 ·exact Nat.zero_le _
 split
 ·rename_i h0 h
  simp only[Bool.or_eq_true,beq_iff_eq] at h
  rcases h with h|h
  ·subst h;simp
  ·rw[h];simp
 ·show (Array.size _)<=_
  rw[foldl_size]
  have:x.cps.size=x.length:=rfl
  rw[this,Nat.mul_comm]
  simp
def LT:Str:=("abcdefghijklmnopqrstuvwxyz" : Str)
theorem GX:LT.length=26:=by decide +kernel
theorem kj {n:Nat} (h:n<=1000):Dp n:=Nat.le_trans h (by decide)
theorem K1 (xs:List Int) (hl:6<=xs.length) (stem:Str) (hs:stem.length<=5) (at_:Int) (k:Nat) (found:List Str) (hk:k < 200) (h:found.length=k/\∀ n∈found,n.length<=12):j4 xs LT stem at_ found k/\(dW xs LT stem at_ found k).length=k+1/\∀ n∈dW xs LT stem at_ found k,n.length<=12:=by
 have s1:=Nat.le_trans (slice_le stem none (some at_)) hs
 have s2:=Nat.le_trans (slice_le stem (some at_) none) hs
 have c1:=sJ LT ((↑k+at' xs 2) % 15)
 have m8:=eZ (k:Int) (m:=8) (by decide)
 have hd:(0:Int)<=(k:Int) / 8/\(k:Int) / 8 < 26:=by omega
 refine⟨⟨⟨in_of (by decide) (by omega),uX (by decide) (by rw[GX];decide)⟩,⟨kj (by omega),kj (by rw[dF];omega)⟩,⟨in_of (by decide) (by omega),fun _=>⟨in_of hd.1 (by rw[GX];exact hd.2),by omega,by omega,by rw[sJ];decide⟩⟩,kj (by omega)⟩,?_⟩
 have key:∀ n:Str,n.length<=12->(found++[n]).length=k+1/\∀ m∈found++[n],m.length<=12:=fun n hn=>⟨by simp[h.1],fun m hm=>by
  rcases List.mem_append.mp hm with hm|hm
  ·exact h.2 m hm
  ·cases List.mem_singleton.mp hm;exact hn⟩
 unfold dW
 dsimp only
 split
 ·exact key _ (by have:=Gb (ch LT ((k:Int) / 8)) (1+(k:Int) % 8);rw[sJ] at this;exact Nat.le_trans this (by omega))
 ·exact key _ (by rw[dF,dF,c1];omega)
theorem SJ (xs:List Str) (n:Nat) (h:∀ x∈xs,x.length<=n):(Txt.join "" xs).length<=xs.length * n:=by
 have h1:=StrLaws.join_length_le ("" : Str) xs
 rw[<-StrLaws.glued_eq_join] at h1
 have h2:(xs.map (·.length)).sum<=xs.length * n:=by
  clear h1
  induction xs with
  |nil=>simp
  |cons a l ih=>
   have:=ih fun x hx=>h x (List.mem_cons_of_mem _ hx)
   have:=h a (List.mem_cons_self ..)
   simp only[List.map_cons,List.sum_cons,List.length_cons,Nat.succ_mul]
   omega
 have h3:("" : Str).length=0:=rfl
 rw[h3,Nat.mul_zero] at h1
 exact Nat.le_trans h1 (by omega)
theorem afd (xs:List Str) (h:∀ x∈xs,x.length=1):(xs.map (·.length)).sum=xs.length:=by
 induction xs with
 |nil=>rfl
 |cons a l ih=>
  have:=ih fun x hx=>h x (List.mem_cons_of_mem _ hx)
  have:=h a (List.mem_cons_self ..)
  simp only[List.map_cons,List.sum_cons,List.length_cons]
  omega
theorem SM (xs:List Int) (hl:6<=xs.length) (many:Int) (h0:0<=many) (h1:many<=200):oZ xs many/\(bh xs many).length=many.toNat/\∀ n∈bh xs many,n.length<=12:=by
 have m6:=eZ (at' xs 0) (m:=6) (by decide)
 have st:∀ stem:Str,stem.length<=5->nQ xs many LT stem/\(j5 xs many LT stem).length=many.toNat/\∀ n∈j5 xs many LT stem,n.length<=12:=fun stem hs=>by
  have:=pN (P:=fun f k=>some (j4 xs LT stem (at' xs 1 % ((stem.length:Int)+1)) f k)) (step:=fun f k=>dW xs LT stem (at' xs 1 % ((stem.length:Int)+1)) f k) (fun k s=>s.length=k/\∀ n∈s,n.length<=12) many.toNat [] ⟨rfl,fun n h=>(by cases h)⟩ fun k s hk h=>K1 xs hl stem hs _ k s (by omega) h
  exact⟨⟨⟨in_of (by decide) (by omega),by omega⟩,yw h0 (by omega),this.1⟩,this.2⟩
 have c1:∀ x∈((rng 0 (at' xs 0 % 6).toNat).map fun k_:Int=>ch LT (at' xs k_ / 40 % 26)),x.length=1:=fun x hx=>by
  obtain⟨k,_,rfl⟩:=List.mem_map.mp hx
  exact sJ _ _
 have:=st (Txt.join "" ((rng 0 (at' xs 0 % 6).toNat).map fun k_:Int=>ch LT (at' xs k_ / 40 % 26))) (by
  have:=SJ _ 1 fun x hx=>Nat.le_of_eq (c1 x hx)
  rw[List.length_map,uq] at this
  omega)
 refine⟨⟨⟨⟨⟨⟨in_of (by decide) (by omega),yw m6.1 (by omega)⟩,by rw[uq];omega⟩,fun k hk=>?_⟩,?_⟩,this.1⟩,this.2⟩
 ·obtain⟨j,hj,rfl⟩:=zV hk
  exact⟨in_of (by omega) (by omega),uX (by decide) (by rw[show ("abcdefghijklmnopqrstuvwxyz" : Str)=LT from rfl,GX];decide)⟩
 ·rw[show ("abcdefghijklmnopqrstuvwxyz" : Str)=LT from rfl,afd _ c1,List.length_map,uq]
  have h3:("" : Str).length=0:=rfl
  rw[h3]
  omega
def TF (xs:List Int) (stem:Str) (at_:Int) (k:Int):Str:=if (decide (((at' xs (3:Int)) % (3:Int))=(1:Int)))=true then (Txt.mul (ch LT (k / (8:Int))) ((1:Int)+(k % (8:Int)))) else (((Txt.slice stem none (some at_))++(ch LT ((k+(at' xs (2:Int))) % (15:Int))))++(Txt.slice stem (some at_) none))
theorem CW {α β:Type} (g:β->α):∀ (l:List β) (f:List α),l.foldl (fun f k=>f++[g k]) f=f++l.map g
 |[],f=>by simp
 |k::l,f=>by rw[List.foldl_cons,CW g l];simp
theorem K3 {a b m m':Str} (h:(a++m)++b=(a++m')++b):m=m':=by
 have h:=congrArg (fun s:Str=>s.cps.toList) h
 have h:((a.cps++m.cps)++b.cps).toList=((a.cps++m'.cps)++b.cps).toList:=h
 simp only[Array.toList_append] at h
 have:=List.append_cancel_left (List.append_cancel_right h)
 cases m;cases m'
 congr 1
 exact Array.ext' this
theorem YT:∀ i:Fin 30,∀ j:Fin 30,Txt.mul (ch LT ((i.val:Int) / 8)) (1+(i.val:Int) % 8)=Txt.mul (ch LT ((j.val:Int) / 8)) (1+(j.val:Int) % 8)->i=j:=by decide +kernel
theorem aa5:∀ i:Fin 15,∀ j:Fin 15,ch LT (i.val:Int)=ch LT (j.val:Int)->i=j:=by decide +kernel
theorem YW {x y:Int} (hx:0<=x/\x < 15) (hy:0<=y/\y < 15) (h:ch LT x=ch LT y):x=y:=by
 have:=aa5 ⟨x.toNat,by omega⟩ ⟨y.toNat,by omega⟩ (by
  show ch LT ((x.toNat:Nat):Int)=ch LT ((y.toNat:Nat):Int)
  rw[Int.toNat_of_nonneg hx.1,Int.toNat_of_nonneg hy.1];exact h)
 have:=congrArg Fin.val this
 have:x.toNat=y.toNat:=this
 omega
theorem YX {xs:List Int} {stem:Str} {at_:Int} {i j:Nat} (hi:i < 15) (hj:j < 15) (h:TF xs stem at_ i=TF xs stem at_ j):i=j:=by
 unfold TF at h
 by_cases e:(decide (((at' xs (3:Int)) % (3:Int))=(1:Int)))=true
 ·rw[if_pos e,if_pos e] at h
  exact congrArg Fin.val (YT ⟨i,by omega⟩ ⟨j,by omega⟩ h)
 ·rw[if_neg e,if_neg e] at h
  have:=YW (eZ _ (by decide)) (eZ _ (by decide)) (K3 h)
  omega
theorem YZ {n:Nat} {g:Int->Str} (h:∀ i j:Nat,i < n->j < n->g i=g j->i=j):((rng 0 n).map g).Nodup:=by
 unfold rng
 rw[List.map_map]
 unfold List.Nodup
 rw[List.pairwise_map]
 refine List.Pairwise.imp_of_mem ?_ (List.nodup_range (n:=n))
 intro a b ha hb hne e
 refine hne (h a b (List.mem_range.mp ha) (List.mem_range.mp hb) ?_)
 have e:g (0+(a:Int))=g (0+(b:Int)):=e
 rwa [Int.zero_add,Int.zero_add] at e
end G03
end
section
set_option synthInstance.maxSize 100000
namespace G03
open PySem PySem.Spec PyProof.Rows L2 P1
def Lw (c:Nat):Prop:=97<=c/\c<=122
def Wd (c:Nat):Prop:=Lw c\/(48<=c/\c<=57)
def Nm (s:Str):Prop:=1<=s.length/\s.length<=8/\∀ c∈cs s,Lw c
def Wo (s:Str):Prop:=1<=s.length/\s.length<=12/\∀ c∈cs s,Wd c
abbrev Rw:=Str×List (Str×Str)
structure vB (r:Rw):Prop where
 n:Nm r.1
 l:r.2.length<=8
 w:∀ q∈r.2,Nm q.1/\Wo q.2
 s:(r.2.map (·.1)).Pairwise fun a b=>Mj a b=true
theorem aa6:∀ c∈cs LT,Lw c:=by unfold Lw;decide +kernel
theorem WM {c:Nat} (h:Lw c):c∈cs LT:=by
 have:∀ i:Fin 26,97+i.val∈cs LT:=by decide +kernel
 have:=this ⟨c - 97,by unfold Lw at h;omega⟩
 unfold Lw at h
 rwa [show 97+(c - 97)=c by omega] at this
theorem afe {c:Nat} (h:Wd c):c∈cs (("abcdefghijklmnopqrstuvwxyz" : Str)++("0123456789" : Str)):=by
 rw[bV]
 rcases h with h|h
 ·exact List.mem_append_left _ (WM h)
 ·have:∀ i:Fin 10,48+i.val∈cs ("0123456789" : Str):=by decide +kernel
  have:=this ⟨c - 48,by omega⟩
  rw[show 48+(c - 48)=c by omega] at this
  exact List.mem_append_right _ this
theorem MK {s ls:Str} {n:Int} (h1:1<=s.length) (h2:(s.length:Int)<=n) (h3:∀ c∈cs s,c∈cs ls) (h4:s.length<=100):kh s ls n/\je s ls n=true:=by
 refine⟨fun _ _=>by rw[Ow];omega,?_⟩
 unfold je
 rw[Bool.and_eq_true,Bool.and_eq_true,Bool.and_eq_true,decide_eq_true_eq,decide_eq_true_eq,List.all_eq_true]
 refine⟨rfl,⟨by omega,h2⟩,fun b hb=>?_⟩
 obtain⟨x,hx,rfl⟩:=List.mem_map.mp hb
 rw[R0] at hx
 obtain⟨c,hc,rfl⟩:=List.mem_map.mp hx
 exact Ox (h3 c hc)
theorem zX {s:Str} (h:Nm s):qm s/\lM s=true:=MK h.1 (by have:=h.2.1;omega) (fun c hc=>WM (h.2.2 c hc)) (by have:=h.2.1;omega)
theorem MN {s:Str} (h:Wo s):uy s/\ux s=true:=by
 have:=MK (ls:=("abcdefghijklmnopqrstuvwxyz" : Str)++("0123456789" : Str)) (n:=12) h.1 (by have:=h.2.1;omega) (fun c hc=>afe (h.2.2 c hc)) (by have:=h.2.1;omega)
 exact⟨⟨by unfold Dp;decide +kernel,this.1⟩,this.2⟩
theorem WQ {q:Str×Str} (h1:Nm q.1) (h2:Wo q.2):ju q/\cZ q=true:=by
 refine⟨fun _=>⟨(zX h1).1,fun _=>(MN h2).1⟩,?_⟩
 unfold cZ
 rw[(zX h1).2,(MN h2).2]
 rfl
theorem O9 {xs:List Str} (h:xs.length<=100) (hp:xs.Pairwise fun a b=>Mj a b=true):mX xs/\mV xs=true:=by
 refine⟨⟨⟨⟨by omega,by omega⟩,by rw[uq];omega⟩,fun z hz=>?_⟩,(yC xs).mpr hp⟩
 obtain⟨k,hk,rfl⟩:=zV hz
 exact⟨in_of (by omega) (by omega),in_of (by omega) (by omega)⟩
theorem SN {ws:List (Str×Str)} (hl:ws.length<=8) (hw:∀ q∈ws,Nm q.1/\Wo q.2) (hs:(ws.map (·.1)).Pairwise fun a b=>Mj a b=true):o7 ws/\lZ ws=true:=by
 have r:=O9 (xs:=ws.map fun q1=>q1.1) (by rw[List.length_map];omega) hs
 have a:((ws.map fun vx=>cZ vx).all id)=true:=by
  rw[List.all_eq_true]
  intro b hb
  obtain⟨q,hq,rfl⟩:=List.mem_map.mp hb
  exact (WQ (hw q hq).1 (hw q hq).2).2
 refine⟨⟨fun _=>⟨by omega,fun q hq=>(WQ (hw q hq).1 (hw q hq).2).1⟩,fun _=>⟨by omega,r.1⟩⟩,?_⟩
 unfold lZ
 rw[a]
 exact r.2
theorem Pa {r:Rw} (h:vB r):ud r/\qp r=true:=by
 have w:=SN h.l h.w h.s
 refine⟨fun _=>⟨(zX h.n).1,fun _=>w.1⟩,?_⟩
 unfold qp
 rw[(zX h.n).2,w.2]
 rfl
def pc (q:Str×Str):Str:=q.1++((" " : Str)++(q.2++Str.empty))
def bd (ws:List (Str×Str)):Str:=if ws.isEmpty=true then Str.empty else (" " : Str)++Txt.join ", " (ws.map pc)
def rt (r:Rw):Str:=r.1++((":" : Str)++bd r.2)
theorem colon:(":" : Str)=⟨#[58]⟩:=by decide +kernel
theorem blank:(" " : Str)=⟨#[32]⟩:=by decide +kernel
theorem comma:("," : Str)=⟨#[44]⟩:=by decide +kernel
theorem SQ:(", " : Str)=⟨#[44,32]⟩:=by decide +kernel
theorem Y0:(": " : Str)=⟨#[58,32]⟩:=by decide +kernel
theorem afg:("\n" : Str)=⟨#[10]⟩:=by decide +kernel
theorem Fe (a:Array Nat):cs ⟨a⟩=a.toList:=rfl
theorem MP (q:Str×Str):cs (pc q)=cs q.1++32::cs q.2:=by
 unfold pc
 rw[bV,bV,bV,blank,Fe]
 show _++([32]++(cs q.2++[]))=_
 simp
def bl:List (Str×Str)->List Nat
 |[]=>[]
 |q::qs=>32::(cs (pc q)++qs.flatMap fun q=>44::32::cs (pc q))
theorem aa7 (ws:List (Str×Str)):cs (bd ws)=bl ws:=by
 unfold bd
 cases ws with
 |nil=>rfl
 |cons q qs=>
  show cs ((" " : Str)++Txt.join ", " (pc q::qs.map pc))=_
  rw[bV,zW,blank,Fe,SQ,Fe,List.flatMap_map]
  rfl
theorem M4 (r:Rw):cs (rt r)=cs r.1++58::bl r.2:=by
 unfold rt
 rw[bV,bV,aa7,colon,Fe]
 rfl
theorem VG (ws:List (Str×Str)) (q:Str×Str):bl (ws++[q])=bl ws++((if ws.length=0 then [] else [44])++(32::cs (pc q))):=by
 cases ws with
 |nil=>simp[bl]
 |cons p ps=>simp[bl]
theorem GZ {q:Str×Str} (h:Nm q.1/\Wo q.2):(cs (pc q)).length<=21:=by
 rw[MP,List.length_append,List.length_cons,<-dw,<-dw]
 have:=h.1.2.1
 have:=h.2.2.1
 omega
theorem SX:∀ (ws:List (Str×Str)),(∀ q∈ws,Nm q.1/\Wo q.2)->(bl ws).length<=23 * ws.length:=by
 intro ws h
 have fm:∀ qs:List (Str×Str),(∀ q∈qs,Nm q.1/\Wo q.2)->(qs.flatMap fun q=>44::32::cs (pc q)).length<=23 * qs.length:=by
  intro qs
  induction qs with
  |nil=>intro _;exact Nat.le_refl _
  |cons q qs ih=>
   intro h
   have:=ih fun z hz=>h z (List.mem_cons_of_mem _ hz)
   have:=GZ (h q (List.mem_cons_self ..))
   rw[List.flatMap_cons,List.length_append,List.length_cons,List.length_cons,List.length_cons]
   omega
 cases ws with
 |nil=>exact Nat.le_refl _
 |cons q qs=>
  have h1:=fm qs fun z hz=>h z (List.mem_cons_of_mem _ hz)
  have h2:=GZ (h q (List.mem_cons_self ..))
  show (32::(cs (pc q)++_)).length<=_
  rw[List.length_cons,List.length_append,List.length_cons]
  omega
theorem K4 {r:Rw} (h:vB r):(rt r).length<=200:=by
 rw[dw,M4,List.length_append,List.length_cons,<-dw]
 have:=SX r.2 h.w
 have:=h.n.2.1
 have:=h.l
 omega
theorem zY {r:Rw} (h:vB r):nR r/\bL r=rt r:=by
 have hl:=K4 h
 have hs:∀ q∈r.2,(pc q).length<=100:=fun q hq=>by have:=GZ (h.w q hq);rw[dw];omega
 have hsum:((r.2.map pc).map (·.length)).sum<=r.2.length * 100:=by
  rw[List.map_map]
  have:∀ l:List (Str×Str),(∀ q∈l,(pc q).length<=100)->(l.map ((fun x:Str=>x.length) ∘ pc)).sum<=l.length * 100:=by
   intro l
   induction l with
   |nil=>intro _;exact Nat.le_refl _
   |cons q l ih=>
    intro h
    have:=ih fun z hz=>h z (List.mem_cons_of_mem _ hz)
    have h2:=h q (List.mem_cons_self ..)
    rw[List.map_cons,List.sum_cons,List.length_cons]
    show (pc q).length+_<=_
    omega
  exact this r.2 hs
 have c2:(", " : Str).length=2:=by decide +kernel
 have eq:bL r=rt r:=by
  unfold bL
  dsimp only
  obtain⟨n,ws⟩:=r
  cases ws with
  |nil=>rfl
  |cons q qs=>
   rw[if_neg (by simp)]
   refine sO ?_
   unfold rt bd
   rw[if_neg (by simp)]
   rw[bV,bV,bV,bV,bV,bV,Y0,colon,blank]
   show _++([58,32]++(_++[]))=_++([58]++([32]++_))
   rw[List.append_nil]
   rfl
 have hl8:=h.l
 refine⟨⟨fun he=>?_,fun he=>⟨⟨⟨by omega,fun q hq=>Nat.le_trans (hs q hq) (by decide)⟩,?_⟩,?_⟩⟩,eq⟩
 ·have e:bL r=r.1++((":" : Str)++Str.empty):=if_pos he
  rw[<-e,eq];omega
 ·rw[c2]
  have hsum:((r.2.map fun q2:Str×Str=>q2.1++((" " : Str)++(q2.2++Str.empty))).map (·.length)).sum<=r.2.length * 100:=hsum
  refine Nat.le_trans (Nat.add_le_add_right hsum _) ?_
  rw[List.length_map]
  omega
 ·have e:bL r=r.1++((": " : Str)++(Txt.join ", " (r.2.map fun q2:Str×Str=>q2.1++((" " : Str)++(q2.2++Str.empty)))++Str.empty)):=if_neg (by rw[he];decide)
  dsimp only
  rw[<-e,eq];omega
end G03
end
section
set_option synthInstance.maxSize 100000
namespace G03
open PySem PySem.Spec PyProof.Rows L2 P1
theorem at2 (y:Int) (h:y=0\/0 < y):at' [("," : Str),("" : Str)] (if (decide (y=(0:Int)))=true then (1:Int) else 0)=if y=0 then ("" : Str) else ("," : Str):=by
 by_cases e:y=0
 ·subst e;rfl
 ·rw[if_neg (by simpa using e),if_neg e];rfl
theorem Ju {r:Rw} (h:vB r):j9 r/\cP r=rt r:=by
 have hl:=h.l
 have hn:=h.n.2.1
 have c0:cs (r.1++(":" : Str))=cs r.1++[58]:=by rw[bV,colon]
 have:=pN (P:=fun f k=>some (fu r f k)) (step:=fun f k=>cR r f k) (fun k (s:Str)=>cs s=cs r.1++[58]++bl (r.2.take k)) (r.2.length:Int).toNat (r.1++(":" : Str)) (by rw[c0];simp[bl]) fun k s hk hs=>by
  have hk:k < r.2.length:=by omega
  have hb:=SX (r.2.take k) fun q hq=>h.w q (List.mem_of_mem_take hq)
  have hsl:s.length<=193:=by
   rw[dw,hs,List.length_append,List.length_append,<-dw]
   rw[List.length_take] at hb
   show r.1.length+1+_<=_
   omega
  have ha:at' r.2 (k:Int)=r.2[k]:=xK r.2 k hk
  have hw:=h.w r.2[k] (List.getElem_mem hk)
  have w1:=hw.1.2.1
  have w2:=hw.2.2.1
  have hi:In r.2.length (k:Int):=Rx hk
  have h2:In 2 (if (decide ((k:Int)=(0:Int)))=true then (1:Int) else 0):=by split<;>exact in_of (by omega) (by omega)
  have sl:∀ y:Str,y.length<=250->∀ z:Str,z.length<=20->Dp (y.length+z.length):=fun y hy z hz=>kj (by omega)
  have ec:(if (k:Int)=0 then ("" : Str) else ("," : Str)).length<=1:=by split<;>decide +kernel
  have b1:(" " : Str).length=1:=by decide +kernel
  refine⟨?_,?_⟩
  ·show fu r s k
   unfold fu
   rw[at2 _ (by omega),ha]
   refine⟨⟨⟨⟨⟨⟨⟨h2,kj (by omega)⟩,kj ?_⟩,hi⟩,kj ?_⟩,kj ?_⟩,hi⟩,kj ?_⟩<;>(simp only[dF,b1];omega)
  ·show cs (cR r s k)=_
   unfold cR
   dsimp only
   rw[at2 _ (by omega),ha,bV,bV,bV,bV,bV,hs,blank,Fe,List.take_add_one,List.getElem?_eq_getElem hk,Option.toList_some,VG,MP,List.length_take]
   have e:cs (if (k:Int)=0 then ("" : Str) else ("," : Str))=if min k r.2.length=0 then [] else [44]:=by
    by_cases z:k=0
    ·subst z;rw[if_pos (show ((0:Nat):Int)=0 from rfl),if_pos (by simp)];rfl
    ·rw[if_neg (by omega),if_neg (by omega),comma]
   rw[e]
   simp
   rfl
 refine⟨⟨kj (by rw[show (":" : Str).length=1 by decide +kernel];omega),yw (by omega) (by omega),this.1⟩,sO ?_⟩
 have e:=this.2
 rw[Int.toNat_natCast,List.take_length] at e
 rw[M4]
 refine Eq.trans ?_ (e.trans (by simp))
 rfl
theorem WR {q:Str×Str} (h:Nm q.1/\Wo q.2):Txt.split (pc q) (" " : Str)=[q.1,q.2]:=by
 have e:pc q=Txt.join (" " : Str) [q.1,q.2]:=sO (by rw[MP,zW,blank];simp[Fe])
 rw[e]
 refine uY (c:=32) (y':=[]) (by rw[blank]) (by decide +kernel) _ _ fun z hz hc=>?_
 rcases List.mem_cons.mp hz with rfl|hz
 ·have:=h.1.2.2 _ hc;unfold Lw at this;omega
 ·cases List.mem_singleton.mp hz
  have:=h.2.2.2 _ hc
  unfold Wd Lw at this;omega
theorem M5 {q:Str×Str} (h:Nm q.1/\Wo q.2) {c:Nat} (hc:c∈cs (pc q)):c=32\/Wd c:=by
 rw[MP] at hc
 rcases List.mem_append.mp hc with hc|hc
 ·exact .inr (.inl (h.1.2.2 _ hc))
 ·rcases List.mem_cons.mp hc with hc|hc
  ·exact .inl hc
  ·exact .inr (h.2.2.2 _ hc)
theorem aa8 {q:Str×Str} {qs:List (Str×Str)} (h:∀ z∈q::qs,Nm z.1/\Wo z.2):Txt.split (Txt.join ", " ((q::qs).map pc)) (", " : Str)=(q::qs).map pc:=by
 rw[List.map_cons]
 refine uY (c:=44) (y':=[32]) (by rw[SQ]) (by decide +kernel) _ _ fun z hz hc=>?_
 obtain⟨p,hp,rfl⟩:∃ p∈q::qs,pc p=z:=by rw[<-List.map_cons] at hz;exact List.mem_map.mp hz
 rcases M5 (h p hp) hc with e|e
 ·omega
 ·unfold Wd Lw at e;omega
theorem VH {r:Rw} (h:vB r):Txt.partition (rt r) (":" : Str)=(r.1,(":" : Str),bd r.2):=by
 unfold rt
 rw[colon]
 exact VF fun hc=>by have:=h.n.2.2 _ hc;unfold Lw at this;omega
theorem yd {r:Rw} (h:vB r):qt (rt r)/\cQ (rt r)=some r:=by
 obtain⟨dr,tr⟩:=Pa h
 have hl:=K4 h
 have c1:(":" : Str).length=1:=by decide +kernel
 have hbl:(bd r.2).length<=200:=by
  have:(rt r).length=r.1.length+((":" : Str).length+(bd r.2).length):=by unfold rt;rw[dF,dF]
  omega
 have k1:(!decide ((":" : Str).length≠0))=false:=by rw[c1];rfl
 unfold qt cQ
 rw[VH h]
 obtain⟨n,ws⟩:=r
 dsimp only
 cases ws with
 |nil=>
  have k2:(!decide ((bd []).length≠0))=true:=by rfl
  refine⟨⟨by rw[c1];rfl,fun _=>⟨fun _=>dr,fun z=>by rw[k2] at z;cases z⟩⟩,?_⟩
  rw[k1,if_neg Bool.false_ne_true,if_pos k2,if_pos tr]
 |cons q qs=>
  have eb:bd (q::qs)=(⟨#[32]⟩:Str)++Txt.join ", " ((q::qs).map pc):=by unfold bd;rw[if_neg (by simp),blank]
  have lb:(bd (q::qs)).length=1+(Txt.join ", " ((q::qs).map pc)).length:=by rw[eb,dF];rfl
  have hbl:(bd (q::qs)).length<=200:=hbl
  have k2:(!decide ((bd (q::qs)).length≠0))=false:=by rw[lb];simp
  have sl:Txt.slice (bd (q::qs)) (some (1:Int)) none=Txt.join ", " ((q::qs).map pc):=sO (by
   have:=Ik (x:=bd (q::qs)) (n:=1) (by omega)
   refine (this:cs (Txt.slice _ (some ((1:Nat):Int)) none)=_).trans ?_
   rw[eb,bV];rfl)
  have c0:ch (bd (q::qs)) (0:Int)=(" " : Str):=by
   rw[blank]
   have e:cs (bd (q::qs))=32::cs (Txt.join ", " ((q::qs).map pc)):=by rw[eb,bV];rfl
   show (⟨#[at' (cs (bd (q::qs))) ((0:Nat):Int)]⟩:Str)=_
   rw[Bd (xs:=cs (bd (q::qs))) (k:=0) (x:=32) (by rw[e];rfl)]
  have sp:=aa8 h.w
  have mp:((q::qs).map pc).map (fun vx:Str=>(at' (Txt.split vx (" " : Str)) 0,at' (Txt.split vx (" " : Str)) 1))=q::qs:=by
   rw[List.map_map]
   have:∀ l:List (Str×Str),(∀ z∈l,Nm z.1/\Wo z.2)->l.map ((fun vx:Str=>(at' (Txt.split vx (" " : Str)) 0,at' (Txt.split vx (" " : Str)) 1)) ∘ pc)=l:=by
    intro l
    induction l with
    |nil=>intro _;rfl
    |cons p l ih=>
     intro hp
     rw[List.map_cons,ih fun z hz=>hp z (List.mem_cons_of_mem _ hz)]
     congr 1
     show (at' (Txt.split (pc p) (" " : Str)) 0,at' (Txt.split (pc p) (" " : Str)) 1)=p
     rw[WR (hp p (List.mem_cons_self ..))]
     rfl
   exact this _ h.w
  rw[sl,sp,mp,c0,k1,k2]
  refine⟨⟨by rw[c1];rfl,fun _=>⟨(fun z=>by cases z),fun _=>⟨in_of (by decide) (by omega),fun _=>⟨⟨⟨⟨by decide +kernel,by omega⟩,?_⟩,fun vx hx=>?_⟩,dr⟩⟩⟩⟩,?_⟩
  ·rw[List.length_map];have:=h.l;show (q::qs).length<=_;have:(q::qs).length<=8:=h.l;omega
  ·obtain⟨p,hp,rfl⟩:=List.mem_map.mp hx
   have:=GZ (h.w p hp)
   refine⟨⟨by decide +kernel,by rw[dw];omega⟩,?_⟩
   rw[WR (h.w p hp)]
   rfl
  ·rw[if_neg Bool.false_ne_true,if_neg Bool.false_ne_true,if_pos (by simp),if_pos tr]
theorem yR {r:Rw} (h:vB r):qU (rt r)/\nT (rt r)=some r:=by
 obtain⟨d,t⟩:=yd h
 have e:(if (dh (eS (rt r)))=true then cQ (rt r) else none)=some r:=(if_pos rfl).trans t
 refine⟨⟨fun _=>d,?_⟩,?_⟩
 ·dsimp only
  rw[e]
  intro z;cases z
 ·unfold nT
  dsimp only
  rw[e]
  rfl
end G03
end
section
set_option synthInstance.maxSize 100000
namespace G03
open PySem PySem.Spec PyProof.Rows L2 P1
theorem S5 (x:Int) (ls:Str) (hls:0 < ls.length) (most:Int) (h0:0 < most) (h1:most<=12):iG x ls most/\(dX x ls most).length=(1+x % most).toNat/\∀ c∈cs (dX x ls most),c∈cs ls:=by
 have m:=eZ x (m:=most) h0
 have:=pN (P:=fun f k=>some (j6 x ls f k)) (step:=fun f k=>gH x ls f k) (fun k (s:Str)=>s.length=k/\∀ c∈cs s,c∈cs ls) (1+x % most).toNat ("" : Str) ⟨rfl,fun c hc=>by cases hc⟩ fun k s hk h=>by
  have hi:In ls.length (x / (7+5 * (k:Int)) % (ls.length:Int)):=uX (by omega) (Int.le_refl _)
  refine⟨⟨⟨⟨by omega,by omega⟩,hi⟩,kj (by rw[sJ];omega)⟩,?_,fun c hc=>?_⟩
  ·show (s++ch ls _).length=k+1
   rw[dF,sJ];omega
  ·have hc:c∈cs (s++ch ls (x / (7+5 * (k:Int)) % (ls.length:Int))):=hc
   rw[bV] at hc
   rcases List.mem_append.mp hc with hc|hc
   ·exact h.2 c hc
   ·obtain⟨d,hd,e⟩:=aaK hi
    rw[e] at hc
    cases List.mem_singleton.mp hc
    exact hd
 exact⟨⟨⟨h0,yw (by omega) (by omega)⟩,this.1⟩,this.2⟩
theorem VJ {α:Type} (m:List (Str×α)) (x:Str) (a:α):(put m x a).length<=m.length+1:=by
 unfold put
 split<;>simp
theorem VL {α:Type} {m:List (Str×α)} {x:Str} {a:α} {q:Str×α} (h:q∈put m x a):q.1=x/\q.2=a\/q∈m:=by
 unfold put at h
 split at h
 ·obtain⟨r,hr,e⟩:=List.mem_map.mp h
  split at e
  ·rename_i he;subst e;exact .inl ⟨he,rfl⟩
  ·subst e;exact .inr hr
 ·rcases List.mem_append.mp h with h|h
  ·exact .inr h
  ·cases List.mem_singleton.mp h;exact .inl ⟨rfl,rfl⟩
theorem S7 {α:Type} {m:List (Str×α)} {x:Str} (h:x∈m.map (·.1)):has m x=true:=by
 obtain⟨q,hq,rfl⟩:=List.mem_map.mp h
 unfold has
 exact List.any_eq_true.mpr ⟨q,hq,by simp⟩
theorem Y4 {α:Type} {m:List (Str×α)} {x:Str} {a:α} (h:(m.map (·.1)).Nodup):((put m x a).map (·.1)).Nodup:=by
 unfold put
 split
 ·rw[List.map_map]
  have:(fun q:Str×α=>q.1) ∘ (fun q=>if q.1=x then (q.1,a) else q)=fun q=>q.1:=by
   funext q
   show (if q.1=x then (q.1,a) else q).1=q.1
   split<;>rfl
  rw[this];exact h
 ·rename_i hx
  rw[List.map_append]
  refine List.nodup_append.mpr ⟨h,by simp,fun y hy z hz e=>?_⟩
  have hz:z=x:=by simpa using hz
  exact hx (S7 (by rw[<-hz,<-e];exact hy))
theorem S8 {m:List (Str×Str)} {x:Str} (h:x∈m.map (·.1)):∃ q∈m,look m x=q.2:=by
 unfold look
 cases hf:m.find? fun q=>decide (q.1=x) with
 |none=>
  obtain⟨q,hq,rfl⟩:=List.mem_map.mp h
  have:=List.find?_eq_none.mp hf q hq
  simp at this
 |some q=>exact⟨q,List.mem_of_find?_eq_some hf,rfl⟩
theorem aa9:∀ c∈cs ("ab01xyz9" : Str),Wd c:=by unfold Wd Lw;decide +kernel
theorem abb:∀ c∈cs ("abcdefghijklmnopqrstuvwxyz0123456789" : Str),Wd c:=by unfold Wd Lw;decide +kernel
theorem S9 (xs:List Int) (k:Nat) (hl:2+2 * k < xs.length) (ws:List (Str×Str)) (hk:k < 8) (h:ws.length<=k/\(∀ q∈ws,Nm q.1/\Wo q.2)/\(ws.map (·.1)).Nodup):gJ xs ws k/\(bN xs ws k).length<=k+1/\(∀ q∈bN xs ws k,Nm q.1/\Wo q.2)/\((bN xs ws k).map (·.1)).Nodup:=by
 have i1:In xs.length (1+2 * (k:Int)):=in_of (by omega) (by omega)
 have i2:In xs.length (2+2 * (k:Int)):=in_of (by omega) (by omega)
 have j:∀ y:Int,In 2 (y % 2):=fun y=>uX (by decide) (by decide)
 have o:∀ (a b:Int) (y:Int),at' [a,b] (y % 2)=a\/at' [a,b] (y % 2)=b:=fun a b y=>by
  have:=Gq (xs:=[a,b]) (j y);simpa using this
 have os:∀ y:Int,0 < (at' [("ab01xyz9" : Str),("abcdefghijklmnopqrstuvwxyz0123456789" : Str)] (y % 2)).length/\∀ c∈cs (at' [("ab01xyz9" : Str),("abcdefghijklmnopqrstuvwxyz0123456789" : Str)] (y % 2)),Wd c:=fun y=>by
  have:=Gq (xs:=[("ab01xyz9" : Str),("abcdefghijklmnopqrstuvwxyz0123456789" : Str)]) (j y)
  simp only[List.mem_cons,List.not_mem_nil,or_false] at this
  rcases this with e|e<;>rw[e]
  ·exact⟨by decide +kernel,aa9⟩
  ·exact⟨by decide +kernel,abb⟩
 have q1:=o 2 8 (at' xs (1+2 * (k:Int)) / 999)
 have q2:=o 3 12 (at' xs (2+2 * (k:Int)) / 999)
 have a1:=S5 (at' xs (1+2 * (k:Int))) ("abcdefghijklmnopqrstuvwxyz" : Str) (by decide +kernel) (at' [(2:Int),(8:Int)] (at' xs (1+2 * (k:Int)) / 999 % 2)) (by omega) (by omega)
 have a2:=S5 (at' xs (2+2 * (k:Int))) (at' [("ab01xyz9" : Str),("abcdefghijklmnopqrstuvwxyz0123456789" : Str)] (at' xs (2+2 * (k:Int)) / 61 % 2)) (os _).1 (at' [(3:Int),(12:Int)] (at' xs (2+2 * (k:Int)) / 999 % 2)) (by omega) (by omega)
 have m1:=eZ (at' xs (1+2 * (k:Int))) (m:=at' [(2:Int),(8:Int)] (at' xs (1+2 * (k:Int)) / 999 % 2)) (by omega)
 have m2:=eZ (at' xs (2+2 * (k:Int))) (m:=at' [(3:Int),(12:Int)] (at' xs (2+2 * (k:Int)) / 999 % 2)) (by omega)
 refine⟨⟨⟨⟨i1,i1,j _⟩,a1.1⟩,⟨i2,j _⟩,⟨⟨i2,i2,j _⟩,a2.1⟩,by omega⟩,?_,?_,Y4 h.2.2⟩
 ·exact Nat.le_trans (VJ _ _ _) (by omega)
 ·intro q hq
  rcases VL hq with⟨e1,e2⟩|hq
  ·rw[e1,e2]
   exact⟨⟨by rw[a1.2.1];omega,by rw[a1.2.1];omega,fun c hc=>aa6 c (a1.2.2 c hc)⟩,by rw[a2.2.1];omega,by rw[a2.2.1];omega,fun c hc=>(os _).2 c (a2.2.2 c hc)⟩
  ·exact h.2.1 q hq
theorem Tc {name:Str} (hn:Nm name) (xs:List Int) (h0:1<=xs.length) (hl:∀ k:Nat,(k:Int) < at' xs 0 % 9->2+2 * k < xs.length):dY name xs/\vB (bO name xs):=by
 have m:=eZ (at' xs 0) (m:=9) (by decide)
 have:=pN (P:=fun f k=>some (gJ xs f k)) (step:=fun f k=>bN xs f k) (fun k (s:List (Str×Str))=>s.length<=k/\(∀ q∈s,Nm q.1/\Wo q.2)/\(s.map (·.1)).Nodup) (at' xs 0 % 9).toNat [] ⟨Nat.le_refl 0,fun q h=>(by cases h),List.nodup_nil⟩ fun k s hk h=>S9 xs k (hl k (by omega)) s (by omega) h
 obtain⟨d1,w1,w2,w3⟩:=this
 have hs:∀ ws:List (Str×Str),(oA (ws.map (·.1))).length=ws.length:=fun ws=>by rw[(jy _).length_eq,List.length_map]
 refine⟨⟨⟨⟨in_of (by decide) (by omega),yw m.1 (by omega)⟩,d1⟩,⟨Nat.lt_of_le_of_lt w1 (by omega),by rw[hs];exact Nat.le_trans w1 (by omega)⟩,fun f hf=>S7 ((jy _).mem_iff.mp hf)⟩,hn,?_,?_,?_⟩
 ·show (List.map _ (oA _)).length<=8
  rw[List.length_map,hs]
  exact Nat.le_trans w1 (by omega)
 ·intro q hq
  obtain⟨f,hf,rfl⟩:=List.mem_map.mp (show q∈List.map _ (oA _) from hq)
  have hf:=(jy _).mem_iff.mp hf
  obtain⟨r,hr,e⟩:=S8 hf
  obtain⟨s,hs',e'⟩:=List.mem_map.mp hf
  dsimp only
  rw[e,<-e']
  exact⟨(w2 s hs').1,(w2 r hr).2⟩
 ·unfold bO
  dsimp only
  rw[List.map_map]
  show (List.map (fun f=>f) (oA _)).Pairwise _
  rw[List.map_id']
  have nd:=(jy _).nodup_iff.mpr w3
  exact ((Ao _).and nd).imp fun h=>(lt_iff _ _).mpr h
theorem K5 (c:Nat) (n:Int) (h:1<=n):cs (Txt.mul ⟨#[c]⟩ n)=List.replicate n.toNat c:=by
 unfold Txt.mul
 split
 ·omega
 split
 ·rename_i h
  simp only[Bool.or_eq_true,beq_iff_eq] at h
  rcases h with h|h
  ·subst h;rfl
  ·cases h
 ·have:∀ (k:Nat) (a:Array Nat),((List.replicate k (#[c]:Array Nat)).foldl (·++·) a).toList=a.toList++List.replicate k c:=by
   intro k
   induction k with
   |zero=>intro a;simp
   |succ k ih=>
    intro a
    rw[List.replicate_succ,List.foldl_cons,ih,Array.toList_append,List.replicate_succ]
    simp
  exact (this _ _).trans (by simp)
theorem Jv {i:Int} (h:0<=i/\i < 26):ch LT i=⟨#[97+i.toNat]⟩:=by
 have:∀ i:Fin 26,ch LT (i.val:Int)=⟨#[97+i.val]⟩:=by decide +kernel
 have:=this ⟨i.toNat,by omega⟩
 rwa [show ((⟨i.toNat,by omega⟩:Fin 26).val:Int)=i by show (i.toNat:Int)=i;omega] at this
theorem M6 {i n:Int} (h:0<=i/\i < 26) (h1:1<=n) (h8:n<=8):Nm (Txt.mul (ch LT i) n):=by
 have e:=K5 (97+i.toNat) n h1
 rw[<-Jv h] at e
 refine⟨?_,?_,fun c hc=>?_⟩
 ·rw[dw,e,List.length_replicate];omega
 ·rw[dw,e,List.length_replicate];omega
 ·rw[e] at hc
  rw[(List.mem_replicate.mp hc).2]
  unfold Lw;omega
theorem Td {l:List Str} {c:Nat} (h:c∈cs (Txt.join "" l)):∃ q∈l,c∈cs q:=by
 cases l with
 |nil=>cases h
 |cons p ps=>
  rw[zW] at h
  rcases List.mem_append.mp h with h|h
  ·exact⟨p,List.mem_cons_self ..,h⟩
  ·obtain⟨q,hq,h⟩:=List.mem_flatMap.mp h
   exact⟨q,List.mem_cons_of_mem _ hq,h⟩
theorem Pb (xs:List Int) (many:Int):∃ (stem:Str) (at_:Int),(∀ c∈cs stem,Lw c)/\stem.length<=5/\0<=at_/\at_<=(stem.length:Int)/\bh xs many=(rng 0 many.toNat).map (TF xs stem at_):=by
 have m6:=eZ (at' xs 0) (m:=6) (by decide)
 have mem:∀ x∈((rng 0 (at' xs 0 % 6).toNat).map fun k_:Int=>ch LT (at' xs k_ / 40 % 26)),x.length=1/\∀ c∈cs x,Lw c:=fun x hx=>by
  obtain⟨k,_,rfl⟩:=List.mem_map.mp hx
  refine⟨sJ _ _,fun c hc=>?_⟩
  rw[Jv (eZ _ (by decide))] at hc
  cases List.mem_singleton.mp hc
  have:=eZ (at' xs k / 40) (m:=26) (by decide)
  unfold Lw;omega
 refine⟨Txt.join "" ((rng 0 (at' xs 0 % 6).toNat).map fun k_:Int=>ch LT (at' xs k_ / 40 % 26)),at' xs 1 % (((Txt.join "" ((rng 0 (at' xs 0 % 6).toNat).map fun k_:Int=>ch LT (at' xs k_ / 40 % 26))).length:Int)+1),fun c hc=>?_,?_,?_,?_,(CW (TF xs _ _) _ []).trans (List.nil_append _)⟩
 ·obtain⟨q,hq,h⟩:=Td hc
  exact (mem q hq).2 c h
 ·have:=SJ _ 1 fun x hx=>Nat.le_of_eq (mem x hx).1
  rw[List.length_map,uq] at this
  omega
 ·exact (eZ _ (by omega)).1
 ·have:=(eZ (at' xs 1) (m:=((Txt.join "" ((rng 0 (at' xs 0 % 6).toNat).map fun k_:Int=>ch LT (at' xs k_ / 40 % 26))).length:Int)+1) (by omega)).2
  omega
theorem Y5 {xs:List Int} {stem:Str} {at_:Int} (h1:∀ c∈cs stem,Lw c) (h2:stem.length<=5) (h3:0<=at_) (h4:at_<=(stem.length:Int)) {k:Int} (hk:0<=k/\k < 15):Nm (TF xs stem at_ k):=by
 unfold TF
 split
 ·exact M6 (by omega) (by omega) (by omega)
 ·have s1:=RZ (x:=stem) (n:=at_.toNat) (by omega)
  have s2:=Ik (x:=stem) (n:=at_.toNat) (by omega)
  rw[Int.toNat_of_nonneg h3] at s1 s2
  have c1:=Jv (i:=(k+at' xs 2) % 15) (by have:=eZ (k+at' xs 2) (m:=15) (by decide);omega)
  have m:=eZ (k+at' xs 2) (m:=15) (by decide)
  have e:cs ((Txt.slice stem none (some at_)++ch LT ((k+at' xs 2) % 15))++Txt.slice stem (some at_) none)=((cs stem).take at_.toNat++[97+((k+at' xs 2) % 15).toNat])++(cs stem).drop at_.toNat:=by
   rw[bV,bV,s1,s2,c1]
  have hl:((Txt.slice stem none (some at_)++ch LT ((k+at' xs 2) % 15))++Txt.slice stem (some at_) none).length=stem.length+1:=by
   rw[dw,e,List.length_append,List.length_append,List.length_take,List.length_drop,<-dw]
   show _+1+_=_
   omega
  refine⟨by rw[hl];omega,by rw[hl];omega,fun c hc=>?_⟩
  rw[e] at hc
  rcases List.mem_append.mp hc with hc|hc
  ·rcases List.mem_append.mp hc with hc|hc
   ·exact h1 c (List.mem_of_mem_take hc)
   ·cases List.mem_singleton.mp hc
    unfold Lw;omega
  ·exact h1 c (List.mem_of_mem_drop hc)
end G03
end
section
set_option synthInstance.maxSize 100000
namespace G03
open PySem PySem.Spec PyProof.Rows L2 P1
structure Bk (b:List Rw):Prop where
 l:b.length<=40
 g:∀ r∈b,vB r
 nd:(b.map (·.1)).Nodup
theorem Te (n:Nat):rng 0 (n+1)=rng 0 n++[(n:Int)]:=by
 unfold rng
 rw[List.range_succ,List.map_append]
 simp
theorem VN {g:Int->Str} {n:Nat} {i:Int} (h:0<=i/\i < n):at' ((rng 0 n).map g) i=g i:=by
 have:=Bd (xs:=(rng 0 n).map g) (k:=i.toNat) (x:=g i) (by
  unfold rng
  rw[List.map_map,List.getElem?_map,List.getElem?_range (by omega)]
  show some (g (0+(i.toNat:Int)))=some (g i)
  rw[Int.zero_add,Int.toNat_of_nonneg h.1])
 rwa [Int.toNat_of_nonneg h.1] at this
theorem VP {xs:List Int} {stem:Str} {at_:Int} {i j:Int} (hi:0<=i/\i < 15) (hj:0<=j/\j < 15) (h:TF xs stem at_ i=TF xs stem at_ j):i=j:=by
 have:=YX (xs:=xs) (stem:=stem) (at_:=at_) (i:=i.toNat) (j:=j.toNat) (by omega) (by omega) (by rw[Int.toNat_of_nonneg hi.1,Int.toNat_of_nonneg hj.1];exact h)
 omega
theorem M7 {step:List Rw->Int->List Rw} {P:List Rw->Int->Option Prop} {name:Int->Str} {row:Int->Rw} {n:Nat} (hn:n<=40) (hs:∀ b k,step b k=b++[row k]) (hr:∀ k:Nat,k < n->vB (row k)/\(row k).1=name k) (hd:∀ (b:List Rw) (k:Nat),b.length=k->k < n->hold (P b k))
  (hi:∀ i j:Nat,i < n->j < n->name i=name j->i=j):vU step P (rng 0 n) []/\Bk ((rng 0 n).foldl step []):=by
 have:=pN (P:=P) (step:=step) (fun k (b:List Rw)=>b.length=k/\(∀ r∈b,vB r)/\b.map (·.1)=(rng 0 k).map name) n [] ⟨rfl,fun r h=>(by cases h),rfl⟩ fun k b hk h=>by
  obtain⟨r1,r2⟩:=hr k hk
  refine⟨hd b k h.1 hk,by rw[hs];simp[h.1],fun r hr'=>?_,?_⟩
  ·rw[hs] at hr'
   rcases List.mem_append.mp hr' with hr'|hr'
   ·exact h.2.1 r hr'
   ·cases List.mem_singleton.mp hr';exact r1
  ·rw[hs,List.map_append,h.2.2,Te,List.map_append]
   simp[r2]
 refine⟨this.1,by rw[this.2.1];exact hn,this.2.2.1,?_⟩
 rw[this.2.2.2]
 exact YZ hi
theorem VR (s:List Int):jt s 0 12/\Bk (eX s 0 12):=by
 obtain⟨d1,l1,_⟩:=CV (aq s 0) 8 (by decide) (by decide)
 have l8:(aj (aq s 0) 8).length=8:=l1
 obtain⟨d2,l2,n2⟩:=SM (aj (aq s 0) 8) (by omega) 15 (by decide) (by decide)
 obtain⟨stem,at_,a1,a2,a3,a4,e⟩:=Pb (aj (aq s 0) 8) 15
 have m:=eZ (at' (aj (aq s 0) 8) 6) (m:=12+1) (by decide)
 have ix:∀ y:Int,In (bh (aj (aq s 0) 8) 15).length (y % 15):=fun y=>uX (by decide) (by rw[l2];decide)
 have nm:∀ y:Int,at' (bh (aj (aq s 0) 8) 15) (y % 15)=TF (aj (aq s 0) 8) stem at_ (y % 15):=fun y=>by rw[e];exact VN (n:=15) (eZ y (by decide))
 have wr:∀ k:Nat,k < 13->dY (at' (bh (aj (aq s 0) 8) 15) ((7 * (k:Int)+at' (aj (aq s 0) 8) 7) % 15)) (aj (aq s ((0+1)+(k:Int))) 17)/\vB (bO (at' (bh (aj (aq s 0) 8) 15) ((7 * (k:Int)+at' (aj (aq s 0) 8) 7) % 15)) (aj (aq s ((0+1)+(k:Int))) 17)):=fun k hk=>by
  obtain⟨_,lk,_⟩:=CV (aq s ((0+1)+(k:Int))) 17 (by decide) (by decide)
  have lk:(aj (aq s ((0+1)+(k:Int))) 17).length=17:=lk
  have m9:=eZ (at' (aj (aq s ((0+1)+(k:Int))) 17) 0) (m:=9) (by decide)
  rw[nm]
  exact Tc (Y5 a1 a2 a3 a4 (eZ _ (by decide))) _ (by omega) fun j hj=>by omega
 have:=M7 (P:=fun b k=>some (jE s 0 (aj (aq s 0) 8) (bh (aj (aq s 0) 8) 15) b k)) (step:=fun b k=>gA s 0 (aj (aq s 0) 8) (bh (aj (aq s 0) 8) 15) b k)
  (name:=fun k=>at' (bh (aj (aq s 0) 8) 15) ((7 * k+at' (aj (aq s 0) 8) 7) % 15)) (row:=fun k=>bO (at' (bh (aj (aq s 0) 8) 15) ((7 * k+at' (aj (aq s 0) 8) 7) % 15)) (aj (aq s ((0+1)+k)) 17))
  (n:=(at' (aj (aq s 0) 8) 6 % (12+1)).toNat) (by omega) (fun b k=>rfl) (fun k hk=>⟨(wr k (by omega)).2,rfl⟩) (fun b k hb hk=>⟨⟨in_of (by decide) (by omega),ix _⟩,⟨⟨GR s _ (by omega) (by omega),(CV _ 17 (by decide) (by decide)).1⟩,(wr k (by omega)).1⟩,kj (by omega)⟩) fun i j hi hj h=>by
   have h:at' (bh (aj (aq s 0) 8) 15) ((7 * (i:Int)+at' (aj (aq s 0) 8) 7) % 15)=at' (bh (aj (aq s 0) 8) 15) ((7 * (j:Int)+at' (aj (aq s 0) 8) 7) % 15):=h
   rw[nm,nm] at h
   have:=VP (eZ _ (by decide)) (eZ _ (by decide)) h
   omega
 exact⟨⟨⟨GR s 0 (by decide) (by decide),d1⟩,d2,⟨⟨in_of (by decide) (by omega),by decide⟩,yw m.1 (by omega)⟩,this.1⟩,this.2⟩
theorem Tf {i j n m:Int} (hi:0<=i/\i < 26) (hj:0<=j/\j < 26) (hn:1<=n) (hm:1<=m) (h:Txt.mul (ch LT i) n=Txt.mul (ch LT j) m):i=j/\n=m:=by
 have e1:=K5 (97+i.toNat) n hn
 have e2:=K5 (97+j.toNat) m hm
 rw[<-Jv hi,h] at e1
 rw[<-Jv hj,e1] at e2
 have l:=congrArg List.length e2
 rw[List.length_replicate,List.length_replicate] at l
 have hm1:97+i.toNat∈List.replicate m.toNat (97+j.toNat):=by rw[<-e2];exact List.mem_replicate.mpr ⟨by omega,rfl⟩
 have:=(List.mem_replicate.mp hm1).2
 omega
theorem Tg (s:List Int):j8 s/\Bk (fW s):=by
 obtain⟨d1,l1,_⟩:=CV (aq s 14) 17 (by decide) (by decide)
 have l17:(aj (aq s 14) 17).length=17:=l1
 have wr:∀ k:Nat,k < 40->dY (Txt.mul (ch LT (((k:Int)+at' (aj (aq s 14) 17) 0) % 26)) (1+(k:Int) / 26)) ([at' (aj (aq s 14) 17) ((k:Int) % 17) % 4]++cut (aj (aq s 14) 17) (some ((k:Int) % 9)) none)/\vB (bO (Txt.mul (ch LT (((k:Int)+at' (aj (aq s 14) 17) 0) % 26)) (1+(k:Int) / 26)) ([at' (aj (aq s 14) 17) ((k:Int) % 17) % 4]++cut (aj (aq s 14) 17) (some ((k:Int) % 9)) none)):=fun k hk=>by
  have m4:=eZ (at' (aj (aq s 14) 17) ((k:Int) % 17)) (m:=4) (by decide)
  have c:=Ry (xs:=aj (aq s 14) 17) (k:=k % 9) (by omega)
  have ek:(((k % 9:Nat):Int))=(k:Int) % 9:=by omega
  rw[ek] at c
  have ll:([at' (aj (aq s 14) 17) ((k:Int) % 17) % 4]++cut (aj (aq s 14) 17) (some ((k:Int) % 9)) none).length=1+(17 - k % 9):=by
   rw[List.length_append,c,List.length_drop,l17];rfl
  have e0:at' ([at' (aj (aq s 14) 17) ((k:Int) % 17) % 4]++cut (aj (aq s 14) 17) (some ((k:Int) % 9)) none) 0=at' (aj (aq s 14) 17) ((k:Int) % 17) % 4:=Bd (k:=0) rfl
  exact Tc (M6 (eZ _ (by decide)) (by omega) (by omega)) _ (by omega) fun j hj=>by
   rw[e0] at hj
   omega
 have:=M7 (P:=fun b k=>some (j7 LT (aj (aq s 14) 17) b k)) (step:=fun b k=>gK LT (aj (aq s 14) 17) b k)
  (name:=fun k=>Txt.mul (ch LT ((k+at' (aj (aq s 14) 17) 0) % 26)) (1+k / 26)) (row:=fun k=>bO (Txt.mul (ch LT ((k+at' (aj (aq s 14) 17) 0) % 26)) (1+k / 26)) ([at' (aj (aq s 14) 17) (k % 17) % 4]++cut (aj (aq s 14) 17) (some (k % 9)) none))
  (n:=kN 40) (by rw[Ie];exact Nat.le_refl _) (fun b k=>rfl) (fun k hk=>⟨(wr k (by rw[Ie] at hk;exact hk)).2,rfl⟩) (fun b k hb hk=>by
   rw[Ie] at hk
   have c:=Vx (aj (aq s 14) 17) (some ((k:Int) % 9)) none
   exact⟨⟨⟨⟨⟨in_of (by decide) (by omega),uX (by decide) (by rw[GX];decide)⟩,by omega,by omega,by rw[sJ];decide⟩,uX (by decide) (by omega),kj (by simp;omega)⟩,(wr k hk).1⟩,kj (by omega)⟩) fun i j hi hj h=>by
   rw[Ie] at hi hj
   have:=Tf (eZ _ (by decide)) (eZ _ (by decide)) (by omega) (by omega) h
   omega
 exact⟨⟨⟨GR s 14 (by decide) (by decide),d1⟩,this.1⟩,this.2⟩
theorem V0 {ws:List (Str×Str)} (h:∀ q∈ws,Nm q.1/\Wo q.2) {c:Nat} (hc:c∈bl ws):c≠10:=by
 have pf:∀ q∈ws,c∈cs (pc q)->c≠10:=fun q hq hc=>by
  rcases M5 (h q hq) hc with e|e
  ·omega
  ·unfold Wd Lw at e;omega
 cases ws with
 |nil=>cases hc
 |cons q qs=>
  rcases List.mem_cons.mp hc with e|hc
  ·omega
  ·rcases List.mem_append.mp hc with hc|hc
   ·exact pf q (List.mem_cons_self ..) hc
   ·obtain⟨p,hp,hc⟩:=List.mem_flatMap.mp hc
    rcases List.mem_cons.mp hc with e|hc
    ·omega
    ·rcases List.mem_cons.mp hc with e|hc
     ·omega
     ·exact pf p (List.mem_cons_of_mem _ hp) hc
theorem V1 {r:Rw} (h:vB r):10∉cs (rt r):=fun hc=>by
 rw[M4] at hc
 rcases List.mem_append.mp hc with hc|hc
 ·have:=h.n.2.2 _ hc;unfold Lw at this;omega
 ·rcases List.mem_cons.mp hc with e|hc
  ·omega
  ·exact V0 h.w hc rfl
theorem K6 {b:List Rw} (h:∀ r∈b,vB r):((b.map rt).map (·.length)).sum<=200 * b.length:=by
 induction b with
 |nil=>exact Nat.le_refl _
 |cons r b ih=>
  have:=ih fun z hz=>h z (List.mem_cons_of_mem _ hz)
  have:=K4 (h r (List.mem_cons_self ..))
  rw[List.map_cons,List.map_cons,List.sum_cons,List.length_cons]
  omega
theorem Ti {b:List Rw} (h:Bk b):qW (Txt.join "\n" (b.map rt))/\iI (Txt.join "\n" (b.map rt))=b.map rt:=by
 have n1:("\n" : Str).length=1:=by decide +kernel
 have hl:(Txt.join "\n" (b.map rt)).length<=100000:=by
  have h1:=StrLaws.join_length_le ("\n" : Str) (b.map rt)
  rw[<-StrLaws.glued_eq_join] at h1
  have h1:(Txt.join "\n" (b.map rt)).length<=_:=h1
  have h2:=K6 h.g
  have h3:=h.l
  rw[n1,List.length_map] at h1
  omega
 refine⟨⟨(fun z=>by cases z),fun _ _=>⟨by rw[n1];rfl,hl⟩⟩,?_⟩
 unfold iI
 rw[if_neg (by intro z;cases z)]
 cases b with
 |nil=>rfl
 |cons r b=>
  rw[if_pos (by
   rw[decide_eq_true_eq,dw,List.map_cons,zW,M4,List.length_append,List.length_append,List.length_cons]
   omega),List.map_cons]
  refine uY (c:=10) (y':=[]) (by rw[afg]) (by decide +kernel) _ _ fun z hz=>?_
  rw[<-List.map_cons] at hz
  obtain⟨p,hp,rfl⟩:=List.mem_map.mp hz
  exact V1 (h.g p hp)
theorem CZ {β:Type} (g:Str->β) (xs:List Str):(uJ xs).map (fun q=>g q.2)=xs.map g:=by
 unfold uJ
 rw[List.map_zipWith]
 refine List.ext_getElem (by simp) fun i h1 h2=>?_
 simp
theorem Tj {xs:List Str} {q:Int×Str} (h:q∈uJ xs):q.2∈xs:=by
 have:=List.mem_map_of_mem (f:=fun q:Int×Str=>q.2) h
 rw[CZ (fun x=>x) xs,List.map_id'] at this
 exact this
theorem M8 {b:List Rw} (h:Bk b):mq (Txt.join "\n" (b.map rt))/\iJ (Txt.join "\n" (b.map rt))=b:=by
 obtain⟨d,t⟩:=Ti h
 have e1:(b.map rt).map (fun x=>(cQ x).getD default)=b:=by
  rw[List.map_map]
  refine (List.map_congr_left fun r hr=>?_).trans (List.map_id' b)
  show (cQ (rt r)).getD default=r
  rw[(yd (h.g r hr)).2];rfl
 have hl:=h.l
 refine⟨⟨⟨⟨rfl,d⟩,?_,?_⟩,fun q hq=>?_⟩,?_⟩
 ·rw[t]
  show ((List.range _).zipWith _ _).length < 4000
  simp
  omega
 ·rw[t]
  have:=CZ (fun x=>((cQ x).getD default).1) (b.map rt)
  have e2:(b.map rt).map (fun x=>((cQ x).getD default).1)=b.map (·.1):=by
   have:=congrArg (List.map (fun r:Rw=>r.1)) e1
   rw[List.map_map] at this
   exact this
  rw[e2] at this
  exact this▸h.nd
 ·rw[t] at hq
  obtain⟨r,hr,e⟩:=List.mem_map.mp (Tj hq)
  obtain⟨d,t⟩:=yd (h.g r hr)
  rw[<-e]
  dsimp only
  rw[t]
  exact⟨d,rfl,rfl,rfl⟩
 ·unfold iJ
  dsimp only
  rw[t]
  exact (CZ (fun x=>(cQ x).getD default) (b.map rt)).trans e1
theorem wN {b:List Rw} (h:Bk b):mj b/\iH b=Txt.join "\n" (b.map rt):=by
 have e:(b.map fun vo:Rw=>bL vo)=b.map rt:=List.map_congr_left fun r hr=>(zY (h.g r hr)).2
 have n1:("\n" : Str).length=1:=by decide +kernel
 have h2:=K6 h.g
 have h3:=h.l
 refine⟨⟨⟨by omega,fun r hr=>(zY (h.g r hr)).1⟩,?_⟩,?_⟩
 ·show ((b.map fun vo:Rw=>bL vo).map (·.length)).sum+(b.map fun vo:Rw=>bL vo).length * ("\n" : Str).length<=100000
  rw[e,n1,List.length_map]
  omega
 ·show Txt.join "\n" (b.map fun vo:Rw=>bL vo)=_
  rw[e]
theorem Tn:Bk []:=⟨Nat.zero_le _,fun r h=>(by cases h),List.nodup_nil⟩
theorem abd (ns:List Int) {b:List Rw} (h:Bk b):CT ns b/\CQ ns b=true:=by
 have e:(b.map fun vm:Rw=>cP vm)=b.map rt:=List.map_congr_left fun r hr=>(Ju (h.g r hr)).2
 have n1:("\n" : Str).length=1:=by decide +kernel
 have h2:=K6 h.g
 have h3:=h.l
 obtain⟨f1,f2⟩:=Ig (P:=fun s1 v5=>some (uf b (b.map rt) s1 v5)) (step:=fun s1 v5=>nU b (b.map rt) s1 v5) (rng 0 (b.length:Int).toNat) fun k hk=>by
  obtain⟨j,hj,rfl⟩:=zV hk
  have hj:j < b.length:=by omega
  have a1:at' b (j:Int)=b[j]:=xK b j hj
  have a2:at' (b.map rt) (j:Int)=rt b[j]:=Bd (by rw[List.getElem?_map,List.getElem?_eq_getElem hj];rfl)
  have g:=h.g _ (List.getElem_mem hj)
  have i1:In b.length (j:Int):=Rx hj
  have i2:In (b.map rt).length (j:Int):=by rw[List.length_map];exact i1
  refine⟨?_,.inl ?_⟩
  ·show uf b (b.map rt) () j
   unfold uf
   rw[a1,a2]
   exact⟨⟨⟨i1,(zY g).1⟩,i2⟩,fun _=>⟨⟨i2,(yR g).1⟩,i1⟩⟩
  ·show nU b (b.map rt) () j=_
   unfold nU
   rw[a1,a2,(zY g).2,(yR g).2]
   simp
 obtain⟨sd,st⟩:=wN h
 obtain⟨rd,rr⟩:=M8 h
 obtain⟨sd0,st0⟩:=wN Tn
 obtain⟨rd0,rr0⟩:=M8 Tn
 have ee:Txt.join "\n" (([]:List Rw).map rt)=("" : Str):=rfl
 rw[ee] at st0 rd0 rr0
 have c2:CK ns b (b.map rt) (Txt.join "\n" (b.map rt)) b/\wJ ns b (b.map rt) (Txt.join "\n" (b.map rt)) b=true:=by
  refine⟨fun _ _=>⟨sd0,fun _=>rd0⟩,?_⟩
  unfold wJ
  rw[st0,rr0,decide_eq_true rfl,decide_eq_true rfl,decide_eq_true rfl]
  rfl
 have c3:CN ns b (b.map rt) (Txt.join "\n" (b.map rt))/\wK ns b (b.map rt) (Txt.join "\n" (b.map rt))=true:=by
  refine⟨⟨fun _=>by rw[n1,List.length_map];omega,fun _=>⟨rd,?_⟩⟩,?_⟩
  ·dsimp only
   rw[rr];exact c2.1
  ·unfold wK
   rw[if_neg (by rw[decide_eq_true rfl];intro z;cases z)]
   dsimp only
   rw[rr];exact c2.2
 have c4:CP ns b (b.map rt)/\wL ns b (b.map rt)=true:=by
  refine⟨⟨sd,?_⟩,?_⟩
  ·dsimp only
   rw[st];exact c3.1
  ·unfold wL
   dsimp only
   rw[st];exact c3.2
 have c5:wM ns b (b.map rt)/\ug ns b (b.map rt)=true:=by
  refine⟨⟨⟨yw (by omega) (by omega),f2⟩,?_⟩,?_⟩
  ·rw[f1];exact c4.1
  ·unfold ug
   rw[f1];exact c4.2
 refine⟨⟨⟨by omega,fun r hr=>(Ju (h.g r hr)).1⟩,?_⟩,?_⟩
 ·show wM ns b (b.map fun vm:Rw=>cP vm)
  rw[e];exact c5.1
 ·show ug ns b (b.map fun vm:Rw=>cP vm)=true
  rw[e];exact c5.2
theorem Tp (ns:List Int) (_:ns.length<=63):MJ ns/\MF ns=true:=by
 obtain⟨d1,b1⟩:=VR ns
 obtain⟨d2,b2⟩:=Tg ns
 obtain⟨dn,ln,_⟩:=CV (aq ns 13) 1 (by decide) (by decide)
 have ln:(aj (aq ns 13) 1).length=1:=ln
 have hb:∀ c:Bool,Bk (if c=true then fW ns else eX ns 0 12):=fun c=>by
  cases c
  ·exact b1
  ·exact b2
 have c6:=abd ns (hb (decide (((at' (aj (aq ns 13) 1) 0) % 8)=1)))
 exact⟨⟨d1,⟨⟨⟨GR ns 13 (by decide) (by decide),dn⟩,in_of (by decide) (by omega)⟩,fun _=>d2⟩,c6.1⟩,c6.2⟩
theorem H1:∀ ns:List Int,ns.length<=63->oW [.z (.lst (ns.map .int))]=some (.z (.bl true)):=(WL Tp).1
theorem H2:∀ ns:List Int,ns.length<=63->oW [.l (ns.map .int)]=some (.z (.bl true)):=(WL Tp).2
end G03
end
open PySem PySem.W PyProof.Rows
set_option maxRecDepth 100000 in
set_option maxHeartbeats 0 in
theorem PySem.Challenge.cw_onefolk_k03_books_as_texts_holds : PySem.Challenge.rw_onefolk_k03_books_as_texts.Holds := by
 w_on;refine PySem.W.holds_law (by decide +kernel) fun said=>?_
 k_head;(case hw=>w_witness2)
 k_fill
 refine G03.walk (l:=PySem.Challenge.rw_onefolk_k03_books_as_texts) rfl rfl G03.H1 G03.H2 (fun w h Y=>PySem.W.kIn_of Y) ?F
 case F=>
  intro w mg fa h KX G hmg
  refine' G03.all_mk KX G hmg ?a0 ?l0 ?c0 ?k0 ?a1 ?l1 ?c1 ?k1 ?a2 ?l2 ?c2 ?k2 ?a3 ?l3 ?c3 ?k3 ?a4 ?l4 ?c4 ?k4 ?a5 ?l5 ?c5 ?k5 ?a6 ?l6 ?c6 ?k6 ?a7 ?l7 ?c7 ?k7 ?a8 ?l8 ?c8 ?k8 ?a9 ?l9 ?c9 ?k9 ?a10 ?l10 ?c10 ?k10 ?a11 ?l11 ?c11 ?k11 ?a12 ?l12 ?c12 ?k12 ?a13 ?l13 ?c13 ?k13 ?a14 ?l14 ?c14 ?k14 ?a15 ?l15 ?c15 ?k15 ?a16 ?l16 ?c16 ?k16 ?a17 ?l17 ?c17 ?k17 ?a18 ?l18 ?c18 ?k18 ?a19 ?l19 ?c19 ?k19 ?a20 ?l20 ?c20 ?k20 ?a21 ?l21 ?c21 ?k21 ?a22 ?l22 ?c22 ?k22 ?IK ?BL ?lY ?Ey ?cu ?q9 ?gG ?IV ?sZ ?yJ ?iW ?u6 ?u9 ?mG ?mH
  (case a0=>k_is);(case l0=>k_is);(case c0=>k_is);(case k0=>k_is)
  (case a1=>k_is);(case l1=>k_is);(case c1=>k_is);(case k1=>k_is)
  (case a2=>k_is);(case l2=>k_is);(case c2=>k_is);(case k2=>k_is)
  (case a3=>k_is);(case l3=>k_is);(case c3=>k_is);(case k3=>k_is)
  (case a4=>k_is);(case l4=>k_is);(case c4=>k_is);(case k4=>k_is)
  (case a5=>k_is);(case l5=>k_is);(case c5=>k_is);(case k5=>k_is)
  (case a6=>k_is);(case l6=>k_is);(case c6=>k_is);(case k6=>k_is)
  (case a7=>k_is);(case l7=>k_is);(case c7=>k_is);(case k7=>k_is)
  (case a8=>k_is);(case l8=>k_is);(case c8=>k_is);(case k8=>k_is)
  (case a9=>k_is);(case l9=>k_is);(case c9=>k_is);(case k9=>k_is)
  (case a10=>k_is);(case l10=>k_is);(case c10=>k_is);(case k10=>k_is)
  (case a11=>k_is);(case l11=>k_is);(case c11=>k_is);(case k11=>k_is)
  (case a12=>k_is);(case l12=>k_is);(case c12=>k_is);(case k12=>k_is)
  (case a13=>k_is);(case l13=>k_is);(case c13=>k_is);(case k13=>k_is)
  (case a14=>k_is);(case l14=>k_is);(case c14=>k_is);(case k14=>k_is)
  (case a15=>k_is);(case l15=>k_is);(case c15=>k_is);(case k15=>k_is)
  (case a16=>k_is);(case l16=>k_is);(case c16=>k_is);(case k16=>k_is)
  (case a17=>k_is);(case l17=>k_is);(case c17=>k_is);(case k17=>k_is)
  (case a18=>k_is);(case l18=>k_is);(case c18=>k_is);(case k18=>k_is)
  (case a19=>k_is);(case l19=>k_is);(case c19=>k_is);(case k19=>k_is)
  (case a20=>k_is);(case l20=>k_is);(case c20=>k_is);(case k20=>k_is)
  (case a21=>k_is);(case l21=>k_is);(case c21=>k_is);(case k21=>k_is)
  (case a22=>k_is);(case l22=>k_is);(case c22=>k_is);(case k22=>k_is)
  (case IK=>k_is)
  (case BL=>k_is)
  (case lY=>k_is)
  (case Ey=>k_is)
  (case cu=>k_is)
  (case q9=>k_is)
  (case gG=>k_is)
  (case IV=>k_is)
  (case sZ=>k_is)
  (case yJ=>k_is)
  (case iW=>k_is)
  (case u6=>k_is)
  (case u9=>k_is)
  (case mG=>k_is)
  (case mH=>k_is)
