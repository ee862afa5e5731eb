import PyProof.Rows.All
import Wide.All
import OpenK.AllK
import Wide.FinOn
import Lean
import PyProof.EqAt
import PyProof.EqKinds
import PyProof.TupleCall
import PyProof.NeKinds
import PyProof.Rows.SortRuns
import PyProof.Rows.SortWalk
import KE.KSortTup
import KE.RegKTryMore
import KE.RegKIsAll
import KE.KPairComp
import PyProof.ExcAttrAll.ValueError
import PyProof.Rows.SumAny
import KE.KSortKey
import KE.KLam
import KE.KNestM
import KE.KListMore
import KE.KIntText
import PyProof.StrOps2
import PySem.Challenge.RW_weirgauge_k09_too_late
set_option Elab.async false
set_option linter.all false
set_option maxRecDepth 100000
set_option maxHeartbeats 4000000
abbrev Fg7:=PySem.W.Frag
macro:max "DK":term=>`(by decide +kernel)
macro:max "LI":term=>`(by lia)
namespace L2
open PySem PySem.Spec PyProof.Rows
abbrev Key:=Sum Int Str
def rj:Key->Value->Bool
 |.inl k,v=>Value.isInt k v
 |.inr x,v=>Value.isStrOf x v
def WT(w:World):Key->Int
 |.inl k=>hashInt k
 |.inr x=>hashStr w x
theorem cN:∀{k:Key}{v:Value},rj k v=true->(∃i t,k=Sum.inl i/\v=Value.int i t)\/(∃x t,k=Sum.inr x/\v=Value.str x t)
 |.inl i,v,h=>by
  obtain⟨t,e⟩:=Value.isInt_shape (k:=i) (v:=v) h
  exact .inl ⟨i,t,rfl,e⟩
 |.inr x,v,h=>by
  obtain⟨t,e⟩:=Value.isStrOf_shape (x:=x) (v:=v) h
  exact .inr ⟨x,t,rfl,e⟩
theorem CB(i:Int)(t:Tok):rj (.inl i) (.int i t)=true:=by simp[rj,Value.isInt]
theorem CA(x:Str)(t:Tok):rj (.inr x) (.str x t)=true:=by simp[rj,Value.isStrOf]
theorem Nr(a b:Int):decide ((Sum.inl a:Key)=Sum.inl b)=(a==b):=by
 by_cases e:a=b
 ·subst e;simp
 ·have h:¬(Sum.inl a:Key)=Sum.inl b:=λq=>e (Sum.inl.inj q)
  rw[decide_eq_false h]
  exact(beq_eq_false_iff_ne.mpr e).symm
theorem Nn(a b:Str):decide ((Sum.inr a:Key)=Sum.inr b)=decide (a=b):=by
 by_cases e:a=b
 ·subst e;simp
 ·have h:¬(Sum.inr a:Key)=Sum.inr b:=λq=>e (Sum.inr.inj q)
  rw[decide_eq_false h,decide_eq_false e]
theorem Nq(a:Int)(b:Str):decide ((Sum.inl a:Key)=Sum.inr b)=false:=decide_eq_false (λq=>nomatch q)
theorem Np(a:Str)(b:Int):decide ((Sum.inr a:Key)=Sum.inl b)=false:=decide_eq_false (λq=>nomatch q)
def bO(prog:Program)(w:World):PySem.KeyKind prog w Key where
 is:=rj
 hash:=WT w
 inj:=λv a b ha hb=>by
  rcases cN ha with⟨i,t,rfl,rfl⟩|⟨x,t,rfl,rfl⟩
  ·rcases cN hb with⟨j,u,rfl,e⟩|⟨y,u,rfl,e⟩
   ·injection e with e1 _;rw[e1]
   ·exact nomatch e
  ·rcases cN hb with⟨j,u,rfl,e⟩|⟨y,u,rfl,e⟩
   ·exact nomatch e
   ·injection e with e1 _;rw[e1]
 byValue:=λk v h=>by
  rcases cN h with⟨i,t,rfl,rfl⟩|⟨x,t,rfl,rfl⟩<;>rfl
 pyHash:=λhv h=>by
  rcases cN hv with⟨i,t,rfl,rfl⟩|⟨x,t,rfl,rfl⟩
  ·exact wpAny_pyHash_int h
  ·exact wpAny_pyHash_str h
 eqBool:=λhu hv h=>by
  rcases cN hu with⟨i,t,rfl,rfl⟩|⟨x,t,rfl,rfl⟩
  ·rcases cN hv with⟨j,u,rfl,rfl⟩|⟨y,u,rfl,rfl⟩
   ·rw[Nr]at h;exact wpAny_eqBool_int h
   ·rw[Nq]at h;exact SeqAt.EqAt.int_str i t y u _ _ _ _ h
  ·rcases cN hv with⟨j,u,rfl,rfl⟩|⟨y,u,rfl,rfl⟩
   ·rw[Np]at h;exact SeqAt.EqAt.str_int x t j u _ _ _ _ h
   ·rw[Nn]at h;exact wpAny_eqBool_str h
 «strs» :=λk x t v h=>by
  rcases cN h with⟨i,u,rfl,e⟩|⟨y,u,rfl,e⟩
  ·exact nomatch e
  ·injection e with e1 _
   subst e1
   cases v<;>rfl
theorem zc(prog:Program)(w:World)(k:Key)(v:Value):(bO prog w).is k v=rj k v:=rfl
theorem xq(prog:Program)(w:World)(i:Int)(t:Tok):(bO prog w).is (.inl i) (.int i t)=true:=CB i t
theorem xo(prog:Program)(w:World)(x:Str)(t:Tok):(bO prog w).is (.inr x) (.str x t)=true:=CA x t
inductive V where
 |eN|bl(b:Bool)|int(i:Int)|str(x:Str)|DB(b:Array UInt8)|NQ(b:UInt64)|ref(a:Addr)|ty(n:String)
 deriving DecidableEq
def RelV:V->Value->Prop
 |.eN,u=>u=Value.none
 |.bl b,u=>u=Value.bool b
 |.int i,u=>∃t,u=Value.int i t
 |.str x,u=>∃t,u=Value.str x t
 |.DB b,u=>∃t,u=Value.bytes b t
 |.NQ b,u=>∃t,u=Value.float b t
 |.ref a,u=>u=Value.ref a
 |.ty n,u=>u=Value.type n
abbrev Vals:List V->List Value->Prop:=Paired RelV
theorem Vals.length{xs:List V}{us:List Value}(r:Vals xs us):xs.length=us.length:=Paired.length r
theorem Vals.get:∀{xs:List V}{us:List Value}{i:Nat}{x:V},Vals xs us->xs[i]? = some x->∃u,us[i]? = some u/\RelV x u
 |_,_,_,_,.nil,e=>by simp at e
 |_,_,0,_,.cons r _,e=>by simp at e;subst e;exact⟨_,rfl,r⟩
 |_,_,i+1,x,.cons _ t,e=>by
  obtain⟨u,h1,h2⟩:=Vals.get (i:=i) (x:=x) t (by simpa using e)
  exact⟨u,by simpa using h1,h2⟩
theorem Vals.set{x:V}{u:Value}(r:RelV x u):∀{xs:List V}{us:List Value}(i:Nat),Vals xs us->Vals (xs.set i x) (us.set i u)
 |_,_,_,.nil=>.nil
 |_,_,0,.cons _ t=>.cons r t
 |_,_,i+1,.cons q t=>.cons q (Vals.set r i t)
theorem Vals.append:∀{xs ys:List V}{us ws:List Value},Vals xs us->Vals ys ws->Vals (xs++ys) (us++ws)
 |_,_,_,_,.nil,s=>s
 |_,_,_,_,.cons r t,s=>.cons r (Vals.append t s)
theorem Vals.take:∀{xs:List V}{us:List Value}(n:Nat),Vals xs us->Vals (xs.take n) (us.take n)
 |_,_,0,_=>.nil
 |_,_,_+1,.nil=>.nil
 |_,_,n+1,.cons r t=>.cons r (Vals.take n t)
theorem Vals.drop:∀{xs:List V}{us:List Value}(n:Nat),Vals xs us->Vals (xs.drop n) (us.drop n)
 |_,_,0,r=>r
 |_,_,_+1,.nil=>.nil
 |_,_,n+1,.cons _ t=>Vals.drop n t
def ju:Option V->Option Value->Prop
 |some v,some u=>RelV v u
 |none,none=>True
 |_,_=>False
def KV{κ:Type}:List (κ×V)->List (κ×Value)->Prop:=Paired λ(p:κ×V) (q:κ×Value)=>p.1=q.1/\RelV p.2 q.2
def kV:Key->V
 |.inl i=>.int i
 |.inr x=>.str x
inductive HO where
  |lst(xs:List V)
  |tup(xs:List V)
  |dK(kvs:List (Key×V))|dT(kvs:List (List Key×V))
  |set(S:Int->Bool)(n:Nat)
  |ins(C dx:Addr)(fs:List (Str×V))
  |own(x:Addr)
  |xd(fs:List (Str×V))
  |met(f x:Addr)
  |VX(lo hi:Int)
  |e_(o:Obj)(u:HO)
  |pY(ps:Array Value)
  |ext(φ:Heap->Prop)
abbrev Hp:=Addr->Option HO
def upd(H:Hp)(a:Addr)(o:HO):Hp:=λb=>if b=a then some o else H b
theorem af{H:Hp}{a:Addr}{o:HO}:upd H a o a=some o:=by unfold upd;rw[if_pos rfl]
theorem ai{H:Hp}{a b:Addr}{o:HO}(h:b≠a):upd H a o b=H b:=by unfold upd;rw[if_neg h]
theorem gu{H:Hp}{a:Addr}{o u:HO}:upd (upd H a o) a u=upd H a u:=by
 funext b;unfold upd;split<;>rfl
theorem aT{H:Hp}{a b:Addr}{o u:HO}(h:H a=some o)(h':H b=some u)(d:o≠u):a≠b:=by
 intro e;subst e;rw[h]at h';exact d (Option.some.inj h')
theorem av{H:Hp}{a b:Addr}{o:HO}(h:H a=some o)(h':H b=none):a≠b:=by
 intro e;subst e;rw[h]at h';cases h'
section
variable (P:Program) (w:World)
def cC(H:Hp)(h:Heap)(a:Addr):HO->Prop
 |.lst xs=>xs.length<=sizeLine/\∃(its:List Value) (n:Nat),Vals xs its/\h.get? a=some {cls:=.type "list",data:=.seq its.toArray n}
 |.tup xs=>xs.length<=sizeLine/\∃its:List Value,Vals xs its/\IsTup h a its.toArray
 |.dK kvs=>kvs.length<=sizeLine/\(a==sysModules)=false/\∃vs,KV kvs vs/\h.DictOf (bO P w) a vs
 |.dT kvs=>kvs.length<=sizeLine/\(a==sysModules)=false/\∃xs:List (List Key×Addr×Value),
   Paired (λ(p:List Key×V) (q:List Key×Addr×Value)=>p.1=q.1/\H q.2.1=some (.tup (p.1.map kV))/\RelV p.2 q.2.2) kvs xs/\
   ∃o es ep,h.get? a=some o/\o.ExactDict/\o.data=.dict es ep/\es.toList=xs.map (entryOfKey (tupleKind (bO P w)))/\(xs.map (·.1)).Nodup
 |.set S n=>h.SetOf (intKind P w) a S n
 |.ins C dx fs=>H dx=some (.own a)/\fs.length<=1000/\dx≠a/\h.get? a=some (PySem.W.instObj C dx)/\
   ∃mA,h.Ns1 dx mA/\(∀f,ju (fs.lookup f) (mA f))/\PySem.Within mA (fs.map (·.1))
 |.own _=>∃o,h.get? a=some o
 |.xd fs=>∃mA,h.Ns1 a mA/\∀f,ju (fs.lookup f) (mA f)
 |.VX lo hi=>∃t u v,h.get? a=some {cls:=.type "range",data:=.fields #[.int lo t,.int hi u,.int 1 v]}
 |.e_ o u=>h.get? a=some o/\cC H h a u
 |.pY ps=>h.get? a=some {cls:=.none,data:=.fields ps}
 |.met f x=>h.get? a=some (PySem.W.methodObj (.ref f) (.ref x))
 |.ext φ=>φ h/\(∃o,h.get? a=some o)/\∀h1 h2:Heap,φ h1->(∀o,h1.get? a=some o->h2.get? a=some o)->φ h2
def lU(H:Hp)(h:Heap):Prop:=∀a o,H a=some o->cC P w H h a o
end
section
variable {P:Program} {w:World} {H H':Hp} {h h':Heap} {a:Addr} {o:HO}
theorem cC.lt(x:cC P w H h a o):a<h.objs.size:=by
 cases o with
 |lst xs=>obtain⟨_,_,_,_,e⟩:=x;exact Heap.lt_size e
 |tup xs=>obtain⟨_,_,_,p⟩:=x;exact p.lt
 |dK kvs=>obtain⟨_,_,_,_,o,_,_,e,_⟩:=x;exact Heap.lt_size e
 |dT kvs=>obtain⟨_,_,_,_,o,_,_,e,_⟩:=x;exact Heap.lt_size e
 |set S n=>obtain⟨o,_,_,_,e,_⟩:=x;exact Heap.lt_size e
 |ins C dx fs=>obtain⟨_,_,_,e,_⟩:=x;exact Heap.lt_size e
 |own y=>obtain⟨_,e⟩:=x;exact Heap.lt_size e
 |xd fs=>obtain⟨_,⟨_,_,_,e,_⟩,_⟩:=x;exact Heap.lt_size e
 |VX lo hi=>obtain⟨_,_,_,e⟩:=x;exact Heap.lt_size e
 |e_ ob u=>obtain⟨e,_⟩:=x;exact Heap.lt_size e
 |pY ps=>exact Heap.lt_size (show h.get? a=some _ from x)
 |met f y=>exact Heap.lt_size (show h.get? a=some _ from x)
 |ext φ=>obtain⟨_,⟨_,e⟩,_⟩:=x;exact Heap.lt_size e
theorem Paired.FZ{α β:Type}{F G:α->β->Prop}:∀{l₁:List α}{l₂:List β},Paired F l₁ l₂->(∀a b,F a b->G a b)->Paired G l₁ l₂
 |_,_,.nil,_=>.nil
 |_,_,.cons r t,f=>.cons (f _ _ r) (Paired.FZ t f)
theorem Paired.imp'{α β:Type}{F G:α->β->Prop}(f:∀a b,F a b->G a b){l₁:List α}{l₂:List β}(r:Paired F l₁ l₂):Paired G l₁ l₂:=Paired.FZ r f
theorem cC.stay(x:cC P w H h a o)(k:∀b u,(b=a\/H b=some (.own a))->h.get? b=some u->h'.get? b=some u)
  (ho:∀b,H b=some (.own a)->H' b=some (.own a))(ht:∀b xs,H b=some (.tup xs)->H' b=some (.tup xs)):cC P w H' h' a o:=by
 induction o with
 |lst xs=>obtain⟨z,its,n,r,e⟩:=x;exact⟨z,its,n,r,k _ _ (.inl rfl) e⟩
 |tup xs=>obtain⟨z,its,r,ob,e,c⟩:=x;exact⟨z,its,r,ob,k _ _ (.inl rfl) e,c⟩
 |dK kvs=>obtain⟨z,y,vs,r,ob,es,ep,e,c⟩:=x;exact⟨z,y,vs,r,ob,es,ep,k _ _ (.inl rfl) e,c⟩
 |dT kvs=>
  obtain⟨z,y,xs,r,ob,es,ep,e,c⟩:=x
  exact⟨z,y,xs,Paired.FZ r λp q z=>⟨z.1,ht _ _ z.2.1,z.2.2⟩,ob,es,ep,k _ _ (.inl rfl) e,c⟩
 |set S n=>obtain⟨ob,es,ep,t,e,c⟩:=x;exact⟨ob,es,ep,t,k _ _ (.inl rfl) e,c⟩
 |ins C dx fs=>
  obtain⟨d,z,ne,e,mA,⟨od,es,ep,e2,c⟩,r⟩:=x
  exact⟨ho _ d,z,ne,k _ _ (.inl rfl) e,mA,⟨od,es,ep,k _ _ (.inr d) e2,c⟩,r⟩
 |own y=>obtain⟨ob,e⟩:=x;exact⟨ob,k _ _ (.inl rfl) e⟩
 |xd fs=>obtain⟨mA,⟨od,es,ep,e,c⟩,r⟩:=x;exact⟨mA,⟨od,es,ep,k _ _ (.inl rfl) e,c⟩,r⟩
 |VX lo hi=>obtain⟨t,u,v,e⟩:=x;exact⟨t,u,v,k _ _ (.inl rfl) e⟩
 |e_ ob u ih=>obtain⟨e,q⟩:=x;exact⟨k _ _ (.inl rfl) e,ih q⟩
 |pY ps=>
  have e:h.get? a=some {cls:=.none,data:=.fields ps}:=x
  show h'.get? a=some {cls:=.none,data:=.fields ps}
  exact k a _ (.inl rfl) e
 |met f y=>
  have e:h.get? a=some (PySem.W.methodObj (.ref f) (.ref y)):=x
  show h'.get? a=some (PySem.W.methodObj (.ref f) (.ref y))
  exact k a _ (.inl rfl) e
 |ext φ=>obtain⟨p,⟨o,e⟩,st⟩:=x;exact⟨st _ _ p λo q=>k _ _ (.inl rfl) q,⟨o,k _ _ (.inl rfl) e⟩,st⟩
theorem lU.lt(x:lU P w H h)(e:H a=some o):a<h.objs.size:=(x a o e).lt
theorem lU.fresh(x:lU P w H h)(e:h.objs.size<=a):H a=none:=by
 cases q:H a with
 |none=>rfl
 |some u=>exact absurd (Nat.lt_of_lt_of_le (x.lt q) e) (Nat.lt_irrefl _)
theorem lU.kept(x:lU P w H h)(k:∀b u,h.get? b=some u->h'.get? b=some u):lU P w H h':=λa o e=>
 (x a o e).stay (λb u _ q=>k b u q) (λ_ q=>q) λ_ _ q=>q
theorem lU.laid(x:lU P w H h)(k:∀b u,h.get? b=some u->h'.get? b=some u)(hp:h.objs.size<=a)(new:cC P w (upd H a o) h' a o):lU P w (upd H a o) h':=λb u e=>by
 have hn:=x.fresh hp
 by_cases hb:b=a
 ·subst hb;rw[af]at e;cases e;exact new
 ·rw[ai hb]at e
  exact(x b u e).stay (λc v _ q=>k c v q) (λc q=>by rw[ai (av q hn)];exact q) λc xs q=>by rw[ai (av q hn)];exact q
end
def Rd(H:Hp)(a:Addr)(u:HO):Prop:=H a=some u\/∃o,H a=some (.e_ o u)
theorem Rd.ok{P:Program}{w:World}{H:Hp}{h:Heap}{a:Addr}{u:HO}(r:Rd H a u)(x:lU P w H h):cC P w H h a u:=by
 rcases r with r|⟨o,r⟩
 ·exact x a u r
 ·obtain⟨_,q⟩:=x a _ r
  exact q
def Ua:Option HO->Prop
 |some (.lst _)=>True
 |some (.dK _)=>True
 |some (.dT _)=>True
 |some (.set _ _)=>True
 |some (.ins _ _ _)=>True
 |some (.ext _)=>True
 |_=>False
section
variable {P:Program} {w:World} {H:Hp} {h h':Heap} {x e:Addr} {o':HO}
theorem lU.write(ok:lU P w H h)(mu:Ua (H x))(he:e=x\/H e=some (.own x))(k:∀b u,b≠e->h.get? b=some u->h'.get? b=some u)(Pg:∃u,h'.get? e=some u)
  (new:cC P w (upd H x o') h' x o'):lU P w (upd H x o') h':=λb u q=>by
 have QL:∀c y,H c=some (.own y)->c≠x:=λc y r z=>by subst z;rw[r]at mu;exact mu
 have Wj:∀c xs,H c=some (.tup xs)->c≠x:=λc xs r z=>by subst z;rw[r]at mu;exact mu
 by_cases hb:b=x
 ·subst hb;rw[af]at q;cases q;exact new
 ·rw[ai hb]at q
  by_cases NN:b=e
  ·have q':H b=some (.own x):=by
    rcases he with z|z
    ·exact absurd (NN.trans z) hb
    ·rw[NN];exact z
   rw[q]at q';cases q'
   obtain⟨v,hv⟩:=Pg
   exact⟨v,by rw[NN];exact hv⟩
  ·refine(ok b u q).stay (λc v hc r=>k c v ?_ r) (λc r=>by rw[ai (QL c b r)];exact r) λc xs r=>by rw[ai (Wj c xs r)];exact r
   rcases hc with rfl|hc
   ·exact NN
   ·rintro rfl
    rcases he with z|z
    ·exact QL c b hc z
    ·rw[hc]at z;cases z;exact hb rfl
end
structure Un(fs ex:List Addr)(H H':Hp)(h h':Heap):Prop where
 keep:∀b o,h.get? b=some o->H b=none->b∉fs->b∉ex->h'.get? b=some o
 slot:∀b o,h.get? b=some o->H b=none->b∈fs->b∉ex->∃sl,h'.get? b=some {o with slots:=sl}
 free:∀b o,h.get? b=some o->H b=none->b∉ex->H' b=none
 there:∀b o,h.get? b=some o->b∉ex->∃o',h'.get? b=some o'
 tups:∀b xs,H b=some (.tup xs)->H' b=some (.tup xs)
 mZ:∀b o u,H b=some (.e_ o u)->H' b=some (.e_ o u)
 qK:∀b ps,H b=some (.pY ps)->∃more,H' b=some (.pY (ps++more))
section
variable {fs fs' ex ex':List Addr} {H H1 H2:Hp} {h h1 h2 h':Heap} {a x e:Addr} {o:HO}
theorem Un.any(u:Un fs ex H H1 h h1){b:Addr}{ob:Obj}(q:h.get? b=some ob)(n:H b=none)(hx:b∉ex):∃sl,h1.get? b=some {ob with slots:=sl}:=by
 by_cases hb:b∈fs
 ·exact u.slot b ob q n hb hx
 ·exact⟨ob.slots,u.keep b ob q n hb hx⟩
theorem Un.kept(k:∀b u,h.get? b=some u->h'.get? b=some u):Un fs ex H H h h':=
 ⟨λb ob q _ _ _=>k b ob q,λb ob q _ _ _=>⟨ob.slots,k b ob q⟩,λ_ _ _ n _=>n,λb ob q _=>⟨ob,k b ob q⟩,λ_ _ q=>q,λ_ _ _ q=>q,λ_ ps q=>⟨#[],by rw[q];simp⟩⟩
theorem Un.refl:Un fs ex H H h h:=Un.kept λ_ _ q=>q
theorem Un.laid(k:∀b u,h.get? b=some u->h'.get? b=some u)(hp:h.objs.size<=a)(hn:H a=none):Un fs ex H (upd H a o) h h' where
 keep:=λb u q _ _ _=>k b u q
 slot:=λb u q _ _ _=>⟨u.slots,k b u q⟩
 free:=λb u q n _=>by rw[ai (Nat.ne_of_lt (Nat.lt_of_lt_of_le (Heap.lt_size q) hp))];exact n
 there:=λb u q _=>⟨u,k b u q⟩
 tups:=λb xs q=>by rw[ai (av q hn)];exact q
 mZ:=λb u xs q=>by rw[ai (av q hn)];exact q
 qK:=λb ps q=>⟨#[],by rw[ai (av q hn),q];simp⟩
theorem Un.write(mu:Ua (H x))(he:e=x\/H e=some (.own x))(k:∀b u,b≠e->h.get? b=some u->h'.get? b=some u)(Pg:∃u,h'.get? e=some u):Un fs ex H (upd H x o) h h':=by
 have hx:∀b,H b=none->b≠x:=λb n z=>by subst z;rw[n]at mu;exact mu
 have hb:∀b,H b=none->b≠e:=λb n z=>by
  subst z
  rcases he with r|r
  ·exact hx b n r
  ·rw[n]at r;cases r
 have hm:∀b u,H b=some u->¬Ua (some u)->b≠x:=λb u q nm z=>by subst z;rw[q]at mu;exact nm mu
 refine⟨λb u q n _ _=>k b u (hb b n) q,λb u q n _ _=>⟨u.slots,k b u (hb b n) q⟩,λb u q n _=>by rw[ai (hx b n)];exact n,λb u q _=>?_,
  λb xs q=>by rw[ai (hm b _ q λz=>z)];exact q,λb u xs q=>by rw[ai (hm b _ q λz=>z)];exact q,λb ps q=>⟨#[],by rw[ai (hm b _ q λz=>z),q];simp⟩⟩
 by_cases NN:b=e
 ·subst NN;exact Pg
 ·exact⟨u,k b u NN q⟩
end
def Uo(h:Heap)(H:Hp):List Addr:=(List.range h.objs.size).filter λa=>(H a).isSome
def ve(h:Heap)(H:Hp):Heap:=PySem.W.hideAll h (Uo h H)
theorem CJ(h:Heap)(H:Hp):(ve h H).objs.size=h.objs.size:=PySem.W.hideAll_size _ _
theorem GB{h:Heap}{H:Hp}{b:Addr}{o:Obj}(e:h.get? b=some o)(n:H b=none):(ve h H).get? b=some o:=
 PySem.W.hideAll_get _ e λhm=>by
  have q:(H b).isSome=true:=(List.mem_filter.mp hm).2
  rw[n]at q;simp at q
theorem IL{h:Heap}{H:Hp}{b:Addr}{o:Obj}(e:(ve h H).get? b=some o):h.get? b=some o/\H b=none:=by
 have e':h.get? b=some o:=PySem.W.of_hideAll (Uo h H) e
 refine⟨e',?_⟩
 cases q:H b with
 |none=>rfl
 |some x=>
  have hm:b∈Uo h H:=List.mem_filter.mpr ⟨List.mem_range.mpr (Heap.lt_size e'),by simp[q]⟩
  have z:(ve h H).get? b=none:=PySem.W.hideAll_none (Uo h H) hm
  rw[z]at e;cases e
structure Mod(K:Fg7)(mg:Str->Option Value)(base:Heap):Prop where
 Rv:K.In base
 glob:base.Ns mainGlobals mg
 blt:∃mb,base.Ns builtinsNs mb/\∀x:Str,x≠"__name__"->mb x=bootBuiltins x
 nolimit:base.NoLimit
structure Cx where
 prog:Program
 w:World
 K:Fg7
 mg:Str->Option Value
 base:Heap
 A:Around
 N:List Str
 s₀:Shared
 H₀:Hp
 env:Env
 outer:List Env
 stack:List Env
 ex:List Addr
 fn:Str->Bool
 calm:Bool
 pn:List (Addr×Obj)
 xe:Value->Shared->Prop
def frs(l:List Env):List Addr:=l.filterMap (·.frame)
abbrev Cx.fs(X:Cx):List Addr:=frs X.outer
def U_(sc:Scope)(x:Str):Prop:=sc.names.lookup x=some .local\/sc.names.lookup x=some .cell\/sc.names.lookup x=some .free
def Loc(sc:Scope)(x:Str):Prop:=sc.names.lookup x=some .local\/sc.names.lookup x=some .cell
def Look(env:Env)(h:Heap)(m:Str->Option Value)(x:Str)(u:Value):Prop:=
 (env.kindOf x=some .local/\m x=some u)\/((env.kindOf x=some .cell\/env.kindOf x=some .free)/\∃c,env.cells.lookup x=some c/\h.IsCell c (some u))
structure Cx.Ok(X:Cx):Prop where
 mod:Mod X.K X.mg X.base
 kind:X.env.scope.kind=.function
 glob:X.env.globals=mainGlobals
 blt:X.env.builtins=builtinsNs
 above:X.s₀.heap.objs.size<=X.env.locals
 inj:∀x y c,X.env.cells.lookup x=some c->X.env.cells.lookup y=some c->x=y
 has:∀x,(X.env.kindOf x=some .cell\/X.env.kindOf x=some .free)->∃c,X.env.cells.lookup x=some c
 Pn:∀x c,X.fn x=true->X.env.cells.lookup x=some c->X.s₀.heap.objs.size<=c
 hd:X.calm=true->X.A.handled=none
 frames:X.A.frames=some X.stack
 stk:X.stack=X.outer\/(X.stack=X.env::X.outer/\X.env.frame=some X.env.locals)
 UU:∀b∈X.ex,b≠X.env.locals/\∀x c,X.env.cells.lookup x=some c->c≠b
 bs:∀b o,X.base.get? b=some o->X.s₀.heap.get? b=some o/\X.H₀ b=none
 Hj:X.base.objs.size<=X.s₀.heap.objs.size
 Cg:∀b o,X.base.get? b=some o->b∉X.ex
 CP:∀b∈X.ex,b∉X.fs
 oO:X.s₀.heap.FunFrames X.base X.outer
 LG:∀b∈X.fs,X.H₀ b=none
structure Inv(X:Cx)(pins:List (Addr×Obj))(σ:List (Option V))(H:Hp)(s:Shared):Prop where
 ok:X.Ok
 os:s.os=X.s₀.os
 bare:AllBare s.gens
 base:Un X.fs X.ex X.H₀ H X.s₀.heap s.heap
 loc:∃m,s.heap.Ns X.env.locals m/\∀(i:Nat)(x:Str)(v:V),X.N[i]? = some x->σ[i]? = some (some v)->U_ X.env.scope x->∃u,RelV v u/\Look X.env s.heap m x u
 cell:∀x c,X.env.cells.lookup x=some c->∃v,s.heap.IsCell c v
 free:H X.env.locals=none
 gK:∀x c,X.env.cells.lookup x=some c->H c=none
 pin:∀p∈X.pn++pins,s.heap.get? p.1=some p.2/\H p.1=none/\p.1≠X.env.locals/\p.1∉X.fs/\∀v,p.2.data≠.cell v
 hok:lU X.prog X.w H s.heap
 len:σ.length=X.N.length
section
variable {X:Cx} {pins:List (Addr×Obj)} {σ:List (Option V)} {H H':Hp} {s:Shared} {h':Heap}
theorem Cx.Ok.Wo(ok:X.Ok){b:Addr}{o:Obj}(e:X.base.get? b=some o):b∉X.fs:=λhb=>by
 have:=(ok.oO.mem hb).1
 rw[e]at this;cases this
theorem Inv.bs(I:Inv X pins σ H s):∀b o,X.base.get? b=some o->s.heap.get? b=some o/\H b=none:=λb o e=>
 ⟨I.base.keep b o (I.ok.bs b o e).1 (I.ok.bs b o e).2 (I.ok.Wo e) (I.ok.Cg b o e),I.base.free b o (I.ok.bs b o e).1 (I.ok.bs b o e).2 (I.ok.Cg b o e)⟩
theorem Inv.bk(I:Inv X pins σ H s):∀b o,X.base.get? b=some o->s.heap.get? b=some o:=λb o e=>(I.bs b o e).1
theorem Inv.mod(I:Inv X pins σ H s):Mod X.K X.mg X.base:=I.ok.mod
theorem Inv.mX(I:Inv X pins σ H s):X.K.In s.heap:=I.ok.mod.Rv.keeps I.bk
theorem Inv.nolimit(I:Inv X pins σ H s):s.heap.NoLimit:=I.ok.mod.nolimit.keeps I.bk
theorem Inv.lt(I:Inv X pins σ H s):X.env.locals<s.heap.objs.size:=let⟨_,hn,_⟩:=I.loc;hn.lt
theorem Inv.sz(I:Inv X pins σ H s):X.s₀.heap.objs.size<=s.heap.objs.size:=Nat.le_trans I.ok.above (Nat.le_of_lt I.lt)
theorem Inv.Wm(I:Inv X pins σ H s){a:Addr}(h:s.heap.objs.size<=a):a∉X.fs:=λhb=>by
 obtain⟨_,o,ho,_⟩:=I.ok.oO.mem hb
 exact absurd (Nat.lt_of_lt_of_le (Heap.lt_size ho) (Nat.le_trans I.sz h)) (Nat.lt_irrefl _)
theorem Inv.Ow(I:Inv X pins σ H s):∀x c,X.env.cells.lookup x=some c->c≠X.env.locals:=λx c e z=>by
 obtain⟨v,o,ho,hd⟩:=I.cell x c e
 obtain⟨m,⟨o',es,ep,ho',hd',_⟩,_⟩:=I.loc
 rw[z,ho']at ho;cases ho;rw[hd']at hd;cases hd
theorem Inv.oO(I:Inv X pins σ H s):s.heap.FunFrames X.base X.outer:=by
 have all:∀(l:List Env),(∀b∈frs l,b∈X.fs)->X.s₀.heap.FunFrames X.base l->s.heap.FunFrames X.base l:=by
  intro l
  induction l with
  |nil=>intro _ _;trivial
  |cons env r ih=>
   intro hs hl
   obtain⟨hk,⟨L,o,hf,hn,ho,hd⟩,hr⟩:=hl
   have hL:L∈X.fs:=hs L (by unfold frs;rw[List.filterMap_cons,hf];exact List.mem_cons_self)
   obtain⟨sl,e⟩:=I.base.slot L o ho (I.ok.LG L hL) hL λz=>I.ok.CP L z hL
   exact⟨hk,⟨L,_,hf,hn,e,hd⟩,ih (λb hb=>hs b (by unfold frs;rw[List.filterMap_cons,hf];exact List.mem_cons_of_mem _ hb)) hr⟩
 exact all X.outer (λ_ hb=>hb) I.ok.oO
theorem Inv.stack(I:Inv X pins σ H s):s.heap.FunFrames X.base X.stack:=by
 rcases I.ok.stk with e|⟨e,hf⟩
 ·rw[e];exact I.oO
 ·rw[e]
  obtain⟨m,hn,_⟩:=I.loc
  refine .cons (by rw[I.ok.kind];decide) hf hn ?_ I.oO
  exact Heap.get?_none_of_le (Nat.le_trans I.ok.Hj I.ok.above)
theorem Inv.uD(I:Inv X pins σ H s):∀b∈frs X.stack,b∈X.env.locals::X.fs:=λb hb=>by
 rcases I.ok.stk with e|⟨e,hf⟩
 ·rw[e]at hb;exact List.mem_cons_of_mem _ hb
 ·rw[e]at hb
  unfold frs at hb
  rw[List.filterMap_cons,hf]at hb
  exact hb
theorem Inv.uE(I:Inv X pins σ H s):∀b∈frs X.stack,H b=none:=λb hb=>by
 rcases List.mem_cons.mp (I.uD b hb)with e|hb
 ·rw[e];exact I.free
 ·obtain⟨_,o,ho,_⟩:=I.ok.oO.mem hb
  exact I.base.free b o ho (I.ok.LG b hb) λz=>I.ok.CP b z hb
theorem Inv.step{g':Array GenState}{t':Nat}{d':Drawn}{ch:List Addr}(I:Inv X pins σ H s)
  (hch:∀b∈ch,(b∈X.ex\/X.s₀.heap.objs.size<=b)/\b≠X.env.locals/\(∀x c,X.env.cells.lookup x=some c->c≠b)/\∀p∈X.pn++pins,p.1≠b)
  (keep:∀b o,b≠X.env.locals->b∉X.fs->b∉ch->s.heap.get? b=some o->H b=none->h'.get? b=some o)
  (slot:∀b o,b≠X.env.locals->b∈X.fs->b∉ch->s.heap.get? b=some o->H b=none->∃sl,h'.get? b=some {o with slots:=sl})(free:∀b o,b∉ch->s.heap.get? b=some o->H b=none->H' b=none)
  (there:∀b o,b∉ch->s.heap.get? b=some o->∃o',h'.get? b=some o')
  (tups:∀b xs,H b=some (.tup xs)->H' b=some (.tup xs))(mZ:∀b o u,H b=some (.e_ o u)->H' b=some (.e_ o u))(qK:∀b ps,H b=some (.pY ps)->∃more,H' b=some (.pY (ps++more)))
  (ns:∀m,s.heap.Ns X.env.locals m->h'.Ns X.env.locals m)(hok:lU X.prog X.w H' h')(hg:AllBare g'):
  Inv X pins σ H' {s with heap:=h',gens:=g',drawn:=d',toks:=t'}:=by
 have Zp:∀b o,X.s₀.heap.get? b=some o->b≠X.env.locals:=λb o e=>Nat.ne_of_lt (Nat.lt_of_lt_of_le (Heap.lt_size e) I.ok.above)
 have UA:∀b o,X.s₀.heap.get? b=some o->b∉X.ex->b∉ch:=λb o e hx hb=>by
  rcases(hch b hb).1 with z|z
  ·exact hx z
  ·exact absurd (Nat.lt_of_lt_of_le (Heap.lt_size e) z) (Nat.lt_irrefl _)
 have cellK:∀x c,X.env.cells.lookup x=some c->∀v,s.heap.IsCell c v->h'.IsCell c v:=λx c e v ⟨o,ho,hd⟩=>by
  have QV:c∉ch:=λz=>(hch c z).2.2.1 x c e rfl
  by_cases hc:c∈X.fs
  ·obtain⟨sl,q⟩:=slot c o (I.Ow x c e) hc QV ho (I.gK x c e)
   exact⟨_,q,hd⟩
  ·exact⟨o,keep c o (I.Ow x c e) hc QV ho (I.gK x c e),hd⟩
 refine⟨I.ok,I.os,hg,⟨λb o e n hb hx=>?_,λb o e n hb hx=>?_,λb o e n hx=>?_,λb o e hx=>?_,λb xs e=>tups b xs (I.base.tups b xs e),λb o xs e=>mZ b o xs (I.base.mZ b o xs e),λb ps e=>?_⟩,?_,λx c e=>?_,?_,λx c e=>?_,λp hp=>?_,hok,I.len⟩
 ·exact keep b o (Zp b o e) hb (UA b o e hx) (I.base.keep b o e n hb hx) (I.base.free b o e n hx)
 ·obtain⟨sl,e1⟩:=I.base.slot b o e n hb hx
  obtain⟨sl',e2⟩:=slot b _ (Zp b o e) hb (UA b o e hx) e1 (I.base.free b o e n hx)
  exact⟨sl',e2⟩
 ·obtain⟨o',e1⟩:=I.base.there b o e hx
  exact free b o' (UA b o e hx) e1 (I.base.free b o e n hx)
 ·obtain⟨o',e1⟩:=I.base.there b o e hx
  exact there b o' (UA b o e hx) e1
 ·obtain⟨m1,e1⟩:=I.base.qK b ps e
  obtain⟨m2,e2⟩:=qK b _ e1
  exact⟨m1++m2,by rw[e2,Array.append_assoc]⟩
 ·obtain⟨m,hn,hl⟩:=I.loc
  refine⟨m,ns m hn,λi x v e1 e2 e3=>?_⟩
  obtain⟨u,r,l⟩:=hl i x v e1 e2 e3
  refine⟨u,r,?_⟩
  rcases l with l|⟨k,c,e,z⟩
  ·exact .inl l
  ·exact .inr ⟨k,c,e,cellK x c e _ z⟩
 ·obtain⟨v,z⟩:=I.cell x c e
  exact⟨v,cellK x c e v z⟩
 ·obtain⟨m,⟨o,_,_,ho,_⟩,_⟩:=I.loc
  exact free _ o (λz=>(hch _ z).2.1 rfl) ho I.free
 ·obtain⟨v,o,ho,hd⟩:=I.cell x c e
  exact free c o (λz=>(hch c z).2.2.1 x c e rfl) ho (I.gK x c e)
 ·obtain⟨e,n,ne,nf,d⟩:=I.pin p hp
  have QV:p.1∉ch:=λz=>(hch p.1 z).2.2.2 p hp rfl
  exact⟨keep p.1 p.2 ne nf QV e n,free p.1 p.2 QV e n,ne,nf,d⟩
theorem Inv.un{t':Nat}(I:Inv X pins σ H s)(u:Un X.fs [] H H' s.heap h')(hok:lU X.prog X.w H' h'):Inv X pins σ H' {s with heap:=h',toks:=t'}:=by
 obtain⟨m,⟨o,es,ep,ho,r⟩,_⟩:=id I.loc
 obtain⟨sl,hL⟩:=u.any ho I.free (by simp)
 exact I.step (g':=s.gens) (d':=s.drawn) (ch:=[]) (λ_ z=>nomatch z) (λb o _ hb _ e n=>u.keep b o e n hb (by simp)) (λb o _ hb _ e n=>u.slot b o e n hb (by simp)) (λb o _ e n=>u.free b o e n (by simp)) (λb o _ e=>u.there b o e (by simp)) u.tups u.mZ u.qK (λm' hm=>by
  obtain⟨o',es',Pk,ho',r'⟩:=hm
  rw[ho]at ho';cases ho'
  exact⟨_,es',Pk,hL,r'⟩) hok I.bare
theorem Inv.call{g':Array GenState}{t':Nat}{d':Drawn}{ch:List Addr}(I:Inv X pins σ H s)(u:Un (frs X.stack) ch H H' s.heap h')(hok:lU X.prog X.w H' h')(hg:AllBare g')
  (hch:∀b∈ch,(b∈X.ex\/X.s₀.heap.objs.size<=b)/\b≠X.env.locals/\(∀x c,X.env.cells.lookup x=some c->c≠b)/\∀p∈X.pn++pins,p.1≠b):
  Inv X pins σ H' {s with heap:=h',gens:=g',drawn:=d',toks:=t'}:=by
 obtain⟨m,⟨o,es,ep,ho,r⟩,_⟩:=id I.loc
 obtain⟨sl,hL⟩:=u.any ho I.free λz=>(hch _ z).2.1 rfl
 exact I.step (ch:=ch) hch (λb o hL hb hc e n=>u.keep b o e n (λz=>(List.mem_cons.mp (I.uD b z)).elim hL hb) hc) (λb o _ _ hc e n=>u.any e n hc) (λb o hc e n=>u.free b o e n hc) (λb o hc e=>u.there b o e hc) u.tups u.mZ u.qK (λm' hm=>by
  obtain⟨o',es',Pk,ho',r'⟩:=hm
  rw[ho]at ho';cases ho'
  exact⟨_,es',Pk,hL,r'⟩) hok hg
theorem Inv.turned{t':Nat}{it:Addr}(I:Inv X pins σ H s)(k:∀b o,b≠it->s.heap.get? b=some o->h'.get? b=some o)(hn:H it=none)(hL:it≠X.env.locals)
  (h1:it∈X.ex\/X.s₀.heap.objs.size<=it)(h2:∀x c,X.env.cells.lookup x=some c->c≠it)(h3:∀p∈X.pn++pins,p.1≠it):Inv X pins σ H {s with heap:=h',toks:=t'}:=by
 have QS:∀b u,H b=some u->b≠it:=λb u e z=>by rw[z,hn]at e;cases e
 refine I.step (g':=s.gens) (d':=s.drawn) (ch:=[it]) (λb hb=>?_) (λb o _ _ hc e _=>k b o (λz=>hc (by simp[z])) e) (λb o _ _ hc e _=>⟨o.slots,k b o (λz=>hc (by simp[z])) e⟩) (λ_ _ _ _ n=>n)
  (λb o hc e=>⟨o,k b o (λz=>hc (by simp[z])) e⟩) (λ_ _ e=>e) (λ_ _ _ e=>e) (λb ps e=>⟨#[],by rw[e];simp⟩) (λm hm=>?_) (λb u e=>?_) I.bare
 ·have e:b=it:=by simpa using hb
  subst e
  exact⟨h1,hL,h2,h3⟩
 ·obtain⟨o,es,ep,ho,r⟩:=hm
  exact⟨o,es,ep,k _ o (Ne.symm hL) ho,r⟩
 ·refine(I.hok b u e).stay (λc v hc q=>k c v ?_ q) (λ_ q=>q) λ_ _ q=>q
  rcases hc with z|z
  ·rw[z];exact QS b u e
  ·exact QS c _ z
theorem Inv.tok(I:Inv X pins σ H s)(t:Nat):Inv X pins σ H {s with toks:=t}:=I.un (h':=s.heap) (t':=t) Un.refl I.hok
theorem Inv.kept{t':Nat}(I:Inv X pins σ H s)(k:∀b u,s.heap.get? b=some u->h'.get? b=some u):Inv X pins σ H {s with heap:=h',toks:=t'}:=I.un (Un.kept k) (I.hok.kept k)
theorem Inv.laid{a:Addr}{o:HO}{t':Nat}(I:Inv X pins σ H s)(k:∀b u,s.heap.get? b=some u->h'.get? b=some u)(hp:s.heap.objs.size<=a)(new:cC X.prog X.w (upd H a o) h' a o):
  Inv X pins σ (upd H a o) {s with heap:=h',toks:=t'}:=I.un (Un.laid k hp (I.hok.fresh hp)) (I.hok.laid k hp new)
theorem Inv.write{x e:Addr}{o:HO}{t':Nat}(I:Inv X pins σ H s)(mu:Ua (H x))(he:e=x\/H e=some (.own x))(k:∀b u,b≠e->s.heap.get? b=some u->h'.get? b=some u)(Pg:∃u,h'.get? e=some u)
  (new:cC X.prog X.w (upd H x o) h' x o):Inv X pins σ (upd H x o) {s with heap:=h',toks:=t'}:=I.un (Un.write mu he k Pg) (I.hok.write mu he k Pg new)
theorem Inv.weak{σ':List (Option V)}(I:Inv X pins σ H s)(hl:σ'.length=σ.length)(w:∀(i:Nat) v,σ'[i]? = some (some v)->σ[i]? = some (some v)):Inv X pins σ' H s:=
 ⟨I.ok,I.os,I.bare,I.base,let⟨m,hn,hl'⟩:=I.loc;⟨m,hn,λi x v e1 e2 e3=>hl' i x v e1 (w i v e2) e3⟩,I.cell,I.free,I.gK,I.pin,I.hok,hl.trans I.len⟩
theorem Inv.AR{ir:List (Addr×Obj)}(I:Inv X pins σ H s)(h:∀p∈ir,s.heap.get? p.1=some p.2/\H p.1=none/\p.1≠X.env.locals/\p.1∉X.fs/\∀v,p.2.data≠.cell v):Inv X ir σ H s:=
 ⟨I.ok,I.os,I.bare,I.base,I.loc,I.cell,I.free,I.gK,λp hp=>(List.mem_append.mp hp).elim (λz=>I.pin p (List.mem_append_left _ z)) (h p),I.hok,I.len⟩
theorem wZ{N:List Str}(hN:N.Nodup){i j:Nat}{x:Str}(a:N[i]? = some x)(b:N[j]? = some x):i=j:=by
 obtain⟨h1,e1⟩:=List.getElem?_eq_some_iff.mp a
 obtain⟨h2,e2⟩:=List.getElem?_eq_some_iff.mp b
 exact(List.getElem_inj hN).mp (e1.trans e2.symm)
theorem BN{M:Model}{A:Around}{E:Value->Shared->Prop}{i:Nat}{x:Str}{v:V}{u:Value}{Q:Unit->Shared->Prop}(I:Inv X pins σ H s)(hN:X.N.Nodup)(hi:X.N[i]? = some x)(hx:Loc X.env.scope x)(r:RelV v u)
  (h:∀s',Inv X pins (σ.set i (some v)) H s'->(∃a,Heap.SameBut a s.heap s'.heap/\(a=X.env.locals\/X.env.cells.lookup x=some a))->Q () s')(hf:X.fn x=true\/X.env.scope.names.lookup x=some .local:=by first|exact .inl rfl|exact .inr rfl|assumption):wpAny M A (storeName X.env x u) Q E s:=by
 obtain⟨m,hn,hl⟩:=id I.loc
 have hcls:(X.env.scope.kind == .class||(X.env.scope.kind == .module&&X.env.locals != X.env.globals))=false:=by rw[I.ok.kind];rfl
 have ZV:i<σ.length:=by rw[I.len];exact(List.getElem?_eq_some_iff.mp hi).1
 have Ow:=I.Ow
 have tracked:∀{a:Addr}{h':Heap},(∃o,s.heap.get? a=some o/\H a=none)->Heap.SameBut a s.heap h'->lU X.prog X.w H h':=λ{a h'} ha hs b ob e=>by
  obtain⟨_,_,hfree⟩:=ha
  refine(I.hok b ob e).stay (λc w' hc q=>(hs.2 c ?_).trans q) (λ_ q=>q) λ_ _ q=>q
  rintro rfl
  rcases hc with rfl|hc
  ·rw[hfree]at e;cases e
  ·rw[hfree]at hc;cases hc
 rcases hx with hk|hk
 ·refine wpAny_storeName_local hk hn (λh' hn' hs=>?_) hcls
  obtain⟨oL,_,_,GA,_⟩:=id hn
  refine h _ ⟨I.ok,I.os,I.bare,⟨λb o e n hb hx=>?_,λb o e n hb hx=>?_,I.base.free,λb o e hx=>?_,I.base.tups,I.base.mZ,I.base.qK⟩,⟨_,hn',λj y v' e1 e2 e3=>?_⟩,λy c e=>?_,I.free,I.gK,λp hp=>?_,tracked ⟨oL,GA,I.free⟩ hs,by simpa using I.len⟩ ⟨_,hs,.inl rfl⟩
  ·exact(hs.2 b (Nat.ne_of_lt (Nat.lt_of_lt_of_le (Heap.lt_size e) I.ok.above))).trans (I.base.keep b o e n hb hx)
  ·obtain⟨sl,e1⟩:=I.base.slot b o e n hb hx
   exact⟨sl,(hs.2 b (Nat.ne_of_lt (Nat.lt_of_lt_of_le (Heap.lt_size e) I.ok.above))).trans e1⟩
  ·obtain⟨o',e1⟩:=I.base.there b o e hx
   exact⟨o',(hs.2 b (Nat.ne_of_lt (Nat.lt_of_lt_of_le (Heap.lt_size e) I.ok.above))).trans e1⟩
  ·by_cases hj:j=i
   ·subst hj
    rw[hi]at e1;cases e1
    rw[List.getElem?_set_self ZV]at e2
    cases e2
    exact⟨u,r,.inl ⟨hk,by simp⟩⟩
   ·rw[List.getElem?_set_ne (Ne.symm hj)]at e2
    obtain⟨u',r',q⟩:=hl j y v' e1 e2 e3
    refine⟨u',r',?_⟩
    rcases q with⟨k,e⟩|⟨k,c,e,z⟩
    ·refine .inl ⟨k,?_⟩
     have:y≠x:=λe=>hj (wZ hN e1 (e▸hi))
     simp[this,e]
    ·exact .inr ⟨k,c,e,z.sameBut hs (Ow y c e)⟩
  ·obtain⟨w',z⟩:=I.cell y c e
   exact⟨w',z.sameBut hs (Ow y c e)⟩
  ·obtain⟨e,n,ne,nf,d⟩:=I.pin p hp
   exact⟨(hs.2 p.1 ne).trans e,n,ne,nf,d⟩
 ·have hfn:X.fn x=true:=by
   rcases hf with z|z
   ·exact z
   ·rw[z]at hk;cases hk
  obtain⟨c,hc⟩:=I.ok.has x (.inl hk)
  obtain⟨w',z⟩:=I.cell x c hc
  refine wpAny_storeName_cell I.ok.kind hk hc z (λh' hc' hs=>?_)
  obtain⟨oc,hoc,Xl⟩:=id z
  refine h {s with heap:=h'} ⟨I.ok,I.os,I.bare,⟨λb o e n hb hx=>?_,λb o e n hb hx=>?_,I.base.free,λb o e hx=>?_,I.base.tups,I.base.mZ,I.base.qK⟩,⟨m,hn.sameBut hs (Ne.symm (Ow x c hc)),λj y v' e1 e2 e3=>?_⟩,λy c' e=>?_,I.free,I.gK,λp hp=>?_,tracked ⟨oc,hoc,I.gK x c hc⟩ hs,by simpa using I.len⟩ ⟨c,hs,.inr hc⟩
  ·exact(hs.2 b (Nat.ne_of_lt (Nat.lt_of_lt_of_le (Heap.lt_size e) (I.ok.Pn x c hfn hc)))).trans (I.base.keep b o e n hb hx)
  ·obtain⟨sl,e1⟩:=I.base.slot b o e n hb hx
   exact⟨sl,(hs.2 b (Nat.ne_of_lt (Nat.lt_of_lt_of_le (Heap.lt_size e) (I.ok.Pn x c hfn hc)))).trans e1⟩
  ·obtain⟨o',e1⟩:=I.base.there b o e hx
   exact⟨o',(hs.2 b (Nat.ne_of_lt (Nat.lt_of_lt_of_le (Heap.lt_size e) (I.ok.Pn x c hfn hc)))).trans e1⟩
  ·by_cases hj:j=i
   ·subst hj
    rw[hi]at e1;cases e1
    rw[List.getElem?_set_self ZV]at e2
    cases e2
    exact⟨u,r,.inr ⟨.inl hk,c,hc,hc'⟩⟩
   ·rw[List.getElem?_set_ne (Ne.symm hj)]at e2
    obtain⟨u',r',q⟩:=hl j y v' e1 e2 e3
    refine⟨u',r',?_⟩
    rcases q with q|⟨k,c',e,z'⟩
    ·exact .inl q
    ·refine .inr ⟨k,c',e,z'.sameBut hs ?_⟩
     rintro rfl
     exact hj (wZ hN e1 (I.ok.inj _ _ _ e hc▸hi))
  ·by_cases hcc:c'=c
   ·subst hcc;exact⟨_,hc'⟩
   ·obtain⟨w2,z2⟩:=I.cell y c' e
    exact⟨w2,z2.sameBut hs hcc⟩
  ·obtain⟨e,n,ne,nf,d⟩:=I.pin p hp
   refine⟨(hs.2 p.1 ?_).trans e,n,ne,nf,d⟩
   intro q
   rw[q,hoc]at e
   have q':oc=p.2:=Option.some.inj e
   exact d w' (by rw[←q'];exact Xl)
theorem wj{M:Model}{A:Around}{E:Value->Shared->Prop}{i:Nat}{x:Str}{v:V}{u:Value}{Q:Unit->Shared->Prop}(I:Inv X pins σ H s)(hN:X.N.Nodup)(hi:X.N[i]? = some x)(hx:Loc X.env.scope x)(r:RelV v u)
  (h:∀s',Inv X pins (σ.set i (some v)) H s'->Q () s')(hf:X.fn x=true\/X.env.scope.names.lookup x=some .local:=by first|exact .inl rfl|exact .inr rfl|assumption):wpAny M A (storeName X.env x u) Q E s:=
 BN I hN hi hx r (λs' I' _=>h s' I') hf
theorem Inv.TJ{s':Shared}{ch:List Addr}(I:Inv X pins σ H s)(ho:s'.os=s.os)(u:Un (frs X.stack) ch H H' s.heap s'.heap)(hok:lU X.prog X.w H' s'.heap)(hg:AllBare s'.gens)
  (hch:∀b∈ch,(b∈X.ex\/X.s₀.heap.objs.size<=b)/\b≠X.env.locals/\(∀x c,X.env.cells.lookup x=some c->c≠b)/\∀p∈X.pn++pins,p.1≠b):Inv X pins σ H' s':=by
 obtain⟨h',g',d',t',o'⟩:=s'
 have e:o'=s.os:=ho
 subst e
 exact I.call (g':=g') (t':=t') (d':=d') u hok hg hch
end
abbrev XK:=Value->Option Addr->Hp->Prop
abbrev St:=List (Option V)
abbrev VK:=V->Hp->Prop
abbrev TE:=St->Hp->VK->Prop
abbrev TT:=St->Hp->(Bool->Hp->Prop)->Prop
abbrev TA:=St->Hp->(List V->Hp->Prop)->Prop
structure Ends where
 nx:St->Hp->Prop
 rt:VK
 bk:St->Hp->Prop:=λ_ _=>False
 ct:St->Hp->Prop:=λ_ _=>False
abbrev TS:=Ends->St->Hp->Prop
inductive EP(X:Cx)(pins:List (Addr×Obj))(σ:St)(Q:VK)(u:Value)(s':Shared):Prop
 |mk(v:_)(H':_):(Inv X pins σ H' s')->(RelV v u)->(Q v H')->EP X pins σ Q u s'
def TP(X:Cx)(pins:List (Addr×Obj))(σ:St)(Q:Bool->Hp->Prop)(b:Bool)(s':Shared):Prop:=∃H',Inv X pins σ H' s'/\Q b H'
inductive AP(X:Cx)(pins:List (Addr×Obj))(σ:St)(Q:List V->Hp->Prop)(us:List Value)(s':Shared):Prop
 |mk(vs:_)(H':_):(Inv X pins σ H' s')->(Vals vs us)->(Q vs H')->AP X pins σ Q us s'
def SP(X:Cx)(pins:List (Addr×Obj))(D:Ends)(f:Flow)(s':Shared):Prop:=
 match f with
 |.next=>∃σ' H',Inv X pins σ' H' s'/\D.nx σ' H'
 |.brk=>∃σ' H',Inv X pins σ' H' s'/\D.bk σ' H'
 |.cont=>∃σ' H',Inv X pins σ' H' s'/\D.ct σ' H'
 |.ret u=>∃v σ' H',Inv X pins σ' H' s'/\RelV v u/\D.rt v H'
def PE(X:Cx)(e:Expr)(t:TE):Prop:=
 ∀(pins:List (Addr×Obj))(s:Shared)(σ:St)(H:Hp)(Q:VK),Inv X pins σ H s->t σ H Q->wpAny (model X.prog X.w) X.A (eval e X.env) (EP X pins σ Q) X.xe s
def PT(X:Cx)(e:Expr)(t:TT):Prop:=
 ∀(pins:List (Addr×Obj))(s:Shared)(σ:St)(H:Hp)(Q:Bool->Hp->Prop),Inv X pins σ H s->t σ H Q->wpAny (model X.prog X.w) X.A (isTrue e X.env (eval e X.env)) (TP X pins σ Q) X.xe s
def PW(X:Cx)(e:Expr)(t:TT):Prop:=
 ∀(whole:Sem Value)(pins:List (Addr×Obj))(s:Shared)(σ:St)(H:Hp)(Q:Bool->Hp->Prop),Inv X pins σ H s->t σ H Q->wpAny (model X.prog X.w) X.A (isTrue e X.env whole) (TP X pins σ Q) X.xe s
theorem PW.pt{X:Cx}{e:Expr}{t:TT}(h:PW X e t):PT X e t:=h _
def PA(X:Cx)(es:List Expr)(t:TA):Prop:=
 ∀(pos:Pos)(pins:List (Addr×Obj))(s:Shared)(σ:St)(H:Hp)(Q:List V->Hp->Prop),Inv X pins σ H s->t σ H Q->wpAny (model X.prog X.w) X.A (spliced (backTo pos (starEach es X.env))) (AP X pins σ Q) X.xe s
def PS(X:Cx)(st:Stmt)(t:TS):Prop:=
 ∀(pins:List (Addr×Obj))(s:Shared)(σ:St)(H:Hp)(D:Ends),Inv X pins σ H s->t D σ H->wpAny (model X.prog X.w) X.A (exec st X.env) (SP X pins D) X.xe s
def vN(X:Cx)(st:List Stmt)(t:TS):Prop:=
 ∀(pins:List (Addr×Obj))(s:Shared)(σ:St)(H:Hp)(D:Ends),Inv X pins σ H s->t D σ H->wpAny (model X.prog X.w) X.A (execs st X.env) (SP X pins D) X.xe s
theorem dI{α:Type}{t:Sem α}{Q Q':α->Shared->Prop}{M:Model}{A:Around}{E:Value->Shared->Prop}{s:Shared}(h:wpAny M A t Q E s)(hQ:∀a s,Q a s->Q' a s):wpAny M A t Q' E s:=wpAny_mono h hQ λ_ _ x=>x
section
variable {X:Cx}
inductive Ke(i:Nat)(σ:St)(H:Hp)(Q:VK):Prop
 |mk(v:_):(σ[i]? = some (some v))->(Q v H)->Ke i σ H Q
def DR(i:Nat):TE:=λσ H Q=>Ke i σ H Q
def tC(v:V):TE:=λ_ H Q=>Q v H
theorem MB{i:Nat}{x:Str}{pos:Pos}(hN:X.N[i]? = some x)(hv:U_ X.env.scope x)(hd:(x==("__debug__":Str))=false:=by decide)(hcd:(x==("__classdict__":Str))=false:=by decide):PE X (.Name x pos) (DR i):=by
 intro pins s σ H Q I h
 obtain⟨v,e,h⟩:=h
 obtain⟨m,hn,hl⟩:=I.loc
 obtain⟨u,r,l⟩:=hl i x v hN e hv
 have fin:EP X pins σ Q u s:=⟨v,H,I,r,h⟩
 rcases l with⟨hk,hm⟩|⟨hk,c,hc,hcell⟩
 ·exact wpAny_Name (wpAny_loadName_local I.ok.kind hk hn hm fin) hd
 ·rcases hk with hk|hk
  ·exact wpAny_Name (wpAny_loadName_cell I.ok.kind hk hc hcell fin) hd
  ·exact wpAny_Name (wpAny_loadName_free I.ok.kind hk hc hcell fin hcd) hd
theorem ah{i j pos}:PE X (.Constant (.int i) j pos) (tC (.int i)):=λ_ _ _ H _ I h=>wpAny_Constant_int ⟨.int i,H,I.tok _,⟨_,rfl⟩,h⟩
theorem fJ{b j pos}:PE X (.Constant (.bool b) j pos) (tC (.bl b)):=λ_ _ _ H _ I h=>Constant_bool ⟨.bl b,H,I,rfl,h⟩
theorem iw{j pos}:PE X (.Constant .none j pos) (tC .eN):=λ_ _ _ H _ I h=>Constant_none ⟨.eN,H,I,rfl,h⟩
theorem cA{x j pos}:PE X (.Constant (.str x) j pos) (tC (.str x)):=λ_ _ _ H _ I h=>Calls.Constant_str ⟨.str x,H,I.tok _,⟨_,rfl⟩,h⟩
def Gl(X:Cx)(x:Str):Prop:=X.env.kindOf x=some .globalImplicit
theorem uZ{E:Value->Shared->Prop}{pins:List (Addr×Obj)}{s:Shared}{σ:St}{H:Hp}{x:Str}{u:Value}{pos:Pos}{Q:Value->Shared->Prop}(I:Inv X pins σ H s)(hg:Gl X x)(hm:X.mg x=some u)(h:Q u s)
  (hd:(x==("__debug__":Str))=false:=by decide):wpAny (model X.prog X.w) X.A (eval (.Name x pos) X.env) Q E s:=
 Calls.Name_function_global I.ok.kind hg (Calls.loadGlobal_global (by rw[I.ok.glob];exact I.mod.glob.keeps I.bk) hm h) hd
theorem jn{E:Value->Shared->Prop}{pins:List (Addr×Obj)}{s:Shared}{σ:St}{H:Hp}{x:Str}{u:Value}{pos:Pos}{Q:Value->Shared->Prop}(I:Inv X pins σ H s)(hg:Gl X x)(hm:X.mg x=none)(hv:bootBuiltins x=some u)(h:Q u s)
  (hn:x≠"__name__":=by decide)(hd:(x==("__debug__":Str))=false:=by decide):wpAny (model X.prog X.w) X.A (eval (.Name x pos) X.env) Q E s:=by
 obtain⟨mb,h1,h2⟩:=I.mod.blt
 exact Calls.Name_function_global I.ok.kind hg (Calls.loadGlobal_builtin (by rw[I.ok.glob];exact I.mod.glob.keeps I.bk) hm (by rw[I.ok.blt];exact h1.keeps I.bk) ((h2 x hn).trans hv) h) hd
theorem IC{x:Str}{v:V}{u:Value}{pos:Pos}(hg:Gl X x)(hm:X.mg x=some u)(r:RelV v u)(hd:(x==("__debug__":Str))=false:=by decide):PE X (.Name x pos) (tC v):=
 λ_ _ _ H _ I h=>uZ I hg hm ⟨v,H,I,r,h⟩ hd
theorem bF{x:Str}{v:V}{u:Value}{pos:Pos}(hg:Gl X x)(hm:X.mg x=none)(hv:bootBuiltins x=some u)(r:RelV v u)(hn:x≠"__name__":=by decide)(hd:(x==("__debug__":Str))=false:=by decide):PE X (.Name x pos) (tC v):=
 λ_ _ _ H _ I h=>jn I hg hm hv ⟨v,H,I,r,h⟩ hn hd
variable {a b:Expr} {ta tb:TE} {pos:Pos}
inductive YI(Q:Bool->Hp->Prop)(x:V)(H1:Hp):Prop
 |mk(c:_):(x=.bl c)->(Q c H1)->YI Q x H1
def tB(t:TE):TT:=λσ H Q=>t σ H λx H1=>YI Q x H1
theorem bU{e:Expr}{t:TE}(h:PE X e t)(he:∀whole,isTrue e X.env whole=(do let v ←whole;standAt e.pos;holding [v] (truthy v)):=by intro _;rfl):PT X e (tB t):=by
 intro pins s σ H Q I hw
 refine isTrue_plain (dI (h pins s σ H _ I hw) λv s1 ⟨x,H1,I1,r1,q1⟩=>?_) (he _)
 obtain⟨d,rfl,q⟩:=q1
 cases r1
 exact wpAny_truthy_bool ⟨H1,I1,q⟩
variable {tA Uq:TT} {rest:List Expr}
def PZ(t u:TT):TT:=λσ H Q=>t σ H λc H1=>if c=true then u σ H1 Q else Q false H1
def tOr(t u:TT):TT:=λσ H Q=>t σ H λc H1=>if c=true then Q true H1 else u σ H1 Q
def Vy(t:TT):TT:=λσ H Q=>t σ H λc H1=>Q (!c) H1
theorem jj(ha:PT X a tA):PW X (.BoolOp .And [a] pos) tA:=by
 intro wh pins s σ H Q I h
 refine isTrue_and (dI (ha pins s σ H Q I h) λc s1 e=>?_)
 cases c with
 |true=>exact isTrue_and_nil e
 |false=>exact e
theorem iO(ha:PT X a tA):PW X (.BoolOp .Or [a] pos) tA:=by
 intro wh pins s σ H Q I h
 refine isTrue_or (dI (ha pins s σ H Q I h) λc s1 e=>?_)
 cases c with
 |false=>exact isTrue_or_nil e
 |true=>exact e
theorem jk(ha:PT X a tA)(hb:PW X (.BoolOp .And (b::rest) pos) Uq):PW X (.BoolOp .And (a::b::rest) pos) (PZ tA Uq):=by
 intro wh pins s σ H Q I h
 refine isTrue_and (dI (ha pins s σ H _ I h) λc s1 ⟨H1,I1,q1⟩=>?_)
 cases c with
 |true=>exact hb wh pins s1 σ H1 Q I1 q1
 |false=>exact⟨H1,I1,q1⟩
theorem iY(ha:PT X a tA)(hb:PW X (.BoolOp .Or (b::rest) pos) Uq):PW X (.BoolOp .Or (a::b::rest) pos) (tOr tA Uq):=by
 intro wh pins s σ H Q I h
 refine isTrue_or (dI (ha pins s σ H _ I h) λc s1 ⟨H1,I1,q1⟩=>?_)
 cases c with
 |true=>exact⟨H1,I1,q1⟩
 |false=>exact hb wh pins s1 σ H1 Q I1 q1
theorem dO(ha:PT X a tA):PT X (.UnaryOp .Not a pos) (Vy tA):=by
 intro pins s σ H Q I h
 exact isTrue_not (ha pins s σ H (λc H1=>Q (!c) H1) I h)
inductive Ec(tb:TE)(σ:St)(Q:VK)(x:V)(H1:Hp):Prop
 |mk(c:_):(x=.bl c)->(if c=true then tb σ H1 Q else Q (.bl false) H1)->Ec tb σ Q x H1
def PY(ta tb:TE):TE:=λσ H Q=>ta σ H λx H1=>Ec tb σ Q x H1
inductive Kf(tb:TE)(σ:St)(Q:VK)(x:V)(H1:Hp):Prop
 |mk(c:_):(x=.bl c)->(if c=true then Q (.bl true) H1 else tb σ H1 Q)->Kf tb σ Q x H1
def Vx(ta tb:TE):TE:=λσ H Q=>ta σ H λx H1=>Kf tb σ Q x H1
inductive DX(Q:VK)(x:V)(H1:Hp):Prop
 |mk(c:_):(x=.bl c)->(Q (.bl (!c)) H1)->DX Q x H1
def PV(ta:TE):TE:=λσ H Q=>ta σ H λx H1=>DX Q x H1
theorem iu{op}{t:TE}(h:PE X a t):PE X (.BoolOp op [a] pos) t:=λpins s σ H Q I hw=>BoolOp_one (h pins s σ H Q I hw)
theorem iP(ha:PE X a ta)(hb:PE X (.BoolOp .And (b::rest) pos) tb):PE X (.BoolOp .And (a::b::rest) pos) (PY ta tb):=by
 intro pins s σ H Q I h
 refine BoolOp_and (dI (ha pins s σ H _ I h) λv s1 ⟨x,H1,I1,r1,q1⟩=>?_)
 obtain⟨c,rfl,q1⟩:=q1
 cases r1
 refine wpAny_truthy_bool ?_
 cases c with
 |true=>exact hb pins s1 σ H1 Q I1 q1
 |false=>exact⟨.bl false,H1,I1,rfl,q1⟩
theorem K_(ha:PE X a ta)(hb:PE X (.BoolOp .Or (b::rest) pos) tb):PE X (.BoolOp .Or (a::b::rest) pos) (Vx ta tb):=by
 intro pins s σ H Q I h
 refine BoolOp_or (dI (ha pins s σ H _ I h) λv s1 ⟨x,H1,I1,r1,q1⟩=>?_)
 obtain⟨c,rfl,q1⟩:=q1
 cases r1
 refine wpAny_truthy_bool ?_
 cases c with
 |false=>exact hb pins s1 σ H1 Q I1 q1
 |true=>exact⟨.bl true,H1,I1,rfl,q1⟩
theorem Fy(ha:PE X a ta):PE X (.UnaryOp .Not a pos) (PV ta):=by
 intro pins s σ H Q I h
 refine UnaryOp_ (dI (ha pins s σ H _ I h) λv s1 ⟨x,H1,I1,r1,q1⟩=>?_)
 obtain⟨c,rfl,q1⟩:=q1
 cases r1
 exact not_of (wpAny_truthy_bool ⟨.bl (!c),H1,I1,rfl,q1⟩)
end
def br(K:Fg7)(H:Hp)(a:Addr)(xs:List V):Prop:=
 Rd H a (.lst xs)\/
  ∃(o:Obj) (its:Array Value) (n:Nat),K.lookup a=some o/\o.cls=.type "list"/\o.dict=none/\o.data=.seq its n/\its.size<=sizeLine/\Vals xs its.toList
def bu(K:Fg7)(H:Hp)(a:Addr)(xs:List V):Prop:=
 Rd H a (.tup xs)\/
  ∃(o:Obj) (its:Array Value) (n:Nat),K.lookup a=some o/\o.cls=.type "tuple"/\o.data=.seq its n/\its.size<=sizeLine/\Vals xs its.toList
def Yv:Value->Option V
 |.none=>some .eN
 |.bool b=>some (.bl b)
 |.int i _=>some (.int i)
 |.str x _=>some (.str x)
 |.bytes b _=>some (.DB b)
 |.float b _=>some (.NQ b)
 |.ref a=>some (.ref a)
 |.type n=>some (.ty n)
 |_=>none
theorem RelV.abs{x:V}{u:Value}(r:RelV x u):Yv u=some x:=by
 cases x with
 |eN=>cases r;rfl
 |bl _=>cases r;rfl
 |int _=>obtain⟨t,rfl⟩:=r;rfl
 |str _=>obtain⟨t,rfl⟩:=r;rfl
 |DB _=>obtain⟨t,rfl⟩:=r;rfl
 |NQ _=>obtain⟨t,rfl⟩:=r;rfl
 |ref _=>cases r;rfl
 |ty _=>cases r;rfl
theorem RelV.inj{x y:V}{u:Value}(r:RelV x u)(q:RelV y u):x=y:=Option.some.inj (r.abs.symm.trans q.abs)
theorem Vals.inj:∀{xs ys:List V}{us:List Value},Vals xs us->Vals ys us->xs=ys
 |_,_,_,.nil,.nil=>rfl
 |_,_,_,.cons r t,.cons r' t'=>by rw[r.inj r',Vals.inj t t']
section
variable {X:Cx} {pins:List (Addr×Obj)} {σ:St} {H:Hp} {s:Shared} {a:Addr} {xs ys:List V}
theorem br.of{K:Fg7}(h:H a=some (.lst xs)):br K H a xs:=.inl (.inl h)
theorem bu.of{K:Fg7}(h:H a=some (.tup xs)):bu K H a xs:=.inl (.inl h)
theorem Inv.list(I:Inv X pins σ H s)(h:br X.K H a xs):∃its:List Value,Vals xs its/\PlainL s.heap a its.toArray/\xs.length<=sizeLine:=by
 rcases h with h|⟨o,its,n,hk,hc,hd,hs,hz,r⟩
 ·obtain⟨z,its,n,r,e⟩:=h.ok I.hok
  exact⟨its,r,⟨_,n,e,rfl,rfl,rfl⟩,z⟩
 ·refine⟨its.toList,r,⟨o,n,I.mX a o hk,hc,hd,by simpa using hs⟩,?_⟩
  have e:=r.length
  simp only[Array.length_toList]at e
  lia
theorem Inv.tuple(I:Inv X pins σ H s)(h:bu X.K H a xs):∃its:List Value,Vals xs its/\IsTup s.heap a its.toArray/\xs.length<=sizeLine:=by
 rcases h with h|⟨o,its,n,hk,hc,hs,hz,r⟩
 ·obtain⟨z,its,r,p⟩:=h.ok I.hok
  exact⟨its,r,p,z⟩
 ·refine⟨its.toList,r,⟨o,I.mX a o hk,hc,n,by simpa using hs⟩,?_⟩
  have e:=r.length
  simp only[Array.length_toList]at e
  lia
theorem Inv.xC(I:Inv X pins σ H s)(h:br X.K H a xs)(h':br X.K H a ys):xs=ys:=by
 obtain⟨its,r,⟨o,n,e,_,_,d⟩,_⟩:=I.list h
 obtain⟨its',r',⟨o',n',e',_,_,d'⟩,_⟩:=I.list h'
 rw[e]at e';cases e'
 rw[d]at d'
 injection d' with d1 _
 have:its=its':=by simpa using congrArg Array.toList d1
 subst this
 exact r.inj r'
theorem Inv.sY(I:Inv X pins σ H s)(h:bu X.K H a xs)(h':bu X.K H a ys):xs=ys:=by
 obtain⟨its,r,⟨o,e,_,n,d⟩,_⟩:=I.tuple h
 obtain⟨its',r',⟨o',e',_,n',d'⟩,_⟩:=I.tuple h'
 rw[e]at e';cases e'
 rw[d]at d'
 injection d' with d1 _
 have:its=its':=by simpa using congrArg Array.toList d1
 subst this
 exact r.inj r'
end
abbrev Cx.qH(X:Cx)(E:Value->Shared->Prop):Cx:={X with xe:=E}
abbrev Cx.HE(X:Cx):Cx:=X.qH λ_ _=>False
theorem Cx.Ok.qH{X:Cx}(ok:X.Ok)(E:Value->Shared->Prop):(X.qH E).Ok:=
 ⟨ok.mod,ok.kind,ok.glob,ok.blt,ok.above,ok.inj,ok.has,ok.Pn,ok.hd,ok.frames,ok.stk,ok.UU,ok.bs,ok.Hj,ok.Cg,ok.CP,ok.oO,ok.LG⟩
theorem Cx.Ok.jD{X:Cx}{E:Value->Shared->Prop}(ok:(X.qH E).Ok):X.Ok:=
 ⟨ok.mod,ok.kind,ok.glob,ok.blt,ok.above,ok.inj,ok.has,ok.Pn,ok.hd,ok.frames,ok.stk,ok.UU,ok.bs,ok.Hj,ok.Cg,ok.CP,ok.oO,ok.LG⟩
section
variable {X:Cx} {pins:List (Addr×Obj)} {σ:St} {H:Hp} {s:Shared} {E:Value->Shared->Prop}
theorem Inv.qH(I:Inv X pins σ H s)(E:Value->Shared->Prop):Inv (X.qH E) pins σ H s:=⟨I.ok.qH E,I.os,I.bare,I.base,I.loc,I.cell,I.free,I.gK,I.pin,I.hok,I.len⟩
theorem Inv.jD(I:Inv (X.qH E) pins σ H s):Inv X pins σ H s:=⟨I.ok.jD,I.os,I.bare,I.base,I.loc,I.cell,I.free,I.gK,I.pin,I.hok,I.len⟩
theorem SP.jD{D:Ends}{f:Flow}{s':Shared}(h:SP (X.qH E) pins D f s'):SP X pins D f s':=by
 cases f with
 |next=>obtain⟨σ',H',I,q⟩:=h;exact⟨σ',H',I.jD,q⟩
 |brk=>obtain⟨σ',H',I,q⟩:=h;exact⟨σ',H',I.jD,q⟩
 |cont=>obtain⟨σ',H',I,q⟩:=h;exact⟨σ',H',I.jD,q⟩
 |ret u=>obtain⟨v,σ',H',I,r,q⟩:=h;exact⟨v,σ',H',I.jD,r,q⟩
theorem vN.HE{st:List Stmt}{t:TS}(h:vN X.HE st t):vN X st t:=λpins s σ H D I hw=>
 wpAny_mono (h pins s σ H D (I.qH _) hw) (λ_ _ q=>q.jD) λ_ _ z=>False.elim z
end
section
variable {X:Cx} {st:Stmt} {rest:List Stmt} {t u:TS} {e:Expr} {te:TE} {pos:Pos}
def tF:TS:=λD σ H=>D.nx σ H
def PR(t u:TS):TS:=λD σ H=>t {D with nx:=u D} σ H
theorem aR:vN X [] tF:=λ_ _ σ H _ I h=>wpAny_execs_nil ⟨σ,H,I,h⟩
theorem aq(h1:PS X st t)(h2:vN X rest u):vN X (st::rest) (PR t u):=by
 intro pins s σ H D I h
 refine wpAny_execs_cons (dI (h1 pins s σ H {D with nx:=u D} I h) λf s1 q=>?_)
 cases f with
 |next=>
  obtain⟨σ',H',I',q⟩:=q
  exact h2 pins s1 σ' H' D I' q
 |ret v=>exact q
 |brk=>exact q
 |cont=>exact q
theorem au(h1:PS X st t):vN X [st] t:=by
 intro pins s σ H D I h
 refine wpAny_execs_cons (dI (h1 pins s σ H D I h) λf s1 q=>?_)
 cases f with
 |next=>exact wpAny_execs_nil q
 |ret v=>exact q
 |brk=>exact q
 |cont=>exact q
theorem Inv.quiet{pins:List (Addr×Obj)}{σ:St}{H:Hp}{s:Shared}(I:Inv X pins σ H s):interactive X.env=false:=by simp[interactive,I.ok.kind]
def Kl(te:TE):TS:=λD σ H=>te σ H λ_ H1=>D.nx σ H1
theorem Iw(he:PE X e te)(hs:swapsWith e none pos.line X.env=pure false:=by rfl):PS X (.Expr e pos) (Kl te):=by
 intro pins s σ H D I h
 exact wpAny_Expr_any (dI (he pins s σ H _ I h) λv s1 ⟨x,H1,I1,r1,q1⟩=>⟨σ,H1,I1,q1⟩) I.quiet hs
def Vw(te:TE):TS:=λD σ H=>te σ H D.rt
theorem aL(he:PE X e te):PS X (.Return (some e) pos) (Vw te):=by
 intro pins s σ H D I h
 exact wpAny_Return_some (dI (he pins s σ H _ I h) λv s1 ⟨x,H1,I1,r1,q1⟩=>⟨x,σ,H1,I1,r1,q1⟩)
def VA(c:TT)(t u:TS):TS:=λD σ H=>c σ H λb H1=>if b=true then t D σ H1 else u D σ H1
theorem bw{c:Expr}{a b:List Stmt}{tc:TT}(hc:PT X c tc)(ha:vN X a t)(hb:vN X b u):PS X (.If c a b pos) (VA tc t u):=by
 intro pins s σ H D I h
 refine wpAny_If (dI (hc pins s σ H _ I h) λd s1 ⟨H1,I1,q1⟩=>?_)
 cases d with
 |true=>exact ha pins s1 σ H1 D I1 q1
 |false=>exact hb pins s1 σ H1 D I1 q1
def LV:TS:=λ_ _ _=>False
theorem jH:PS X st LV:=λ_ _ _ _ _ _ h=>h.elim
end
abbrev TG:=V->St->Hp->(St->Hp->Prop)->Prop
abbrev HK:=List V->St->Hp->(St->Hp->Prop)->Prop
def PG(X:Cx)(target:Expr)(t:TG):Prop:=
 ∀(pins:List (Addr×Obj))(s:Shared)(σ:St)(H:Hp)(v:V)(u:Value)(Q:St->Hp->Prop),Inv X pins σ H s->RelV v u->t v σ H Q->
  wpAny (model X.prog X.w) X.A (assign target X.env u) (λ_ s'=>∃σ' H',Inv X pins σ' H' s'/\Q σ' H') X.xe s
def Po(X:Cx)(ts:List Expr)(t:HK):Prop:=
 ∀(pins:List (Addr×Obj))(s:Shared)(σ:St)(H:Hp)(vs:List V)(us:List Value)(Q:St->Hp->Prop),Inv X pins σ H s->Vals vs us->t vs σ H Q->
  wpAny (model X.prog X.w) X.A (assignInOrder ((assignEach ts X.env).map (·.2)) us) (λ_ s'=>∃σ' H',Inv X pins σ' H' s'/\Q σ' H') X.xe s
abbrev jd:=V->V->V->Hp->(Hp->Prop)->Prop
def OI(X:Cx)(t:jd):Prop:=
 ∀(pins:List (Addr×Obj))(s:Shared)(σ:St)(H:Hp)(o i v:V)(ov iv u:Value)(Q:Hp->Prop),Inv X pins σ H s->RelV o ov->RelV i iv->RelV v u->t o i v H Q->
  wpAny (model X.prog X.w) X.A (setItem ov iv u) (λ_ s'=>∃H',Inv X pins σ H' s'/\Q H') X.xe s
section
variable {X:Cx} {pos:Pos}
def ff(i:Nat):TG:=λv σ H Q=>Q (σ.set i (some v)) H
theorem aV{i:Nat}{x:Str}(hN:X.N.Nodup)(hi:X.N[i]? = some x)(hx:Loc X.env.scope x)(hf:X.fn x=true\/X.env.scope.names.lookup x=some .local:=by first|exact .inl rfl|exact .inr rfl|assumption):PG X (.Name x pos) (ff i):=by
 intro pins s σ H v u Q I r h
 exact wpAny_assign_Name (wj I hN hi hx r (λs' I'=>⟨_,H,I',h⟩) hf)
def XW:HK:=λvs σ H Q=>vs=[]/\Q σ H
inductive GG(t:TG)(u:HK)(vs:List V)(σ:St)(H:Hp)(Q:St->Hp->Prop):Prop
 |mk(v:_)(r:_):(vs=v::r)->(t v σ H λσ' H'=>u r σ' H' Q)->GG t u vs σ H Q
def SW(t:TG)(u:HK):HK:=λvs σ H Q=>GG t u vs σ H Q
theorem AS:Po X [] XW:=by
 intro pins s σ H vs us Q I r h
 obtain⟨e,h⟩:=h
 subst e
 cases r
 exact assignInOrder_nil ⟨σ,H,I,h⟩
theorem mJ{e:Expr}{es:List Expr}{t:TG}{u:HK}(h1:PG X e t)(h2:Po X es u)
  (hs:(assignEach (e::es) X.env).map (·.2)=assign e X.env::(assignEach es X.env).map (·.2):=by rfl):Po X (e::es) (SW t u):=by
 intro pins s σ H vs us Q I r h
 obtain⟨v,vr,e1,h⟩:=h
 subst e1
 cases r with
 |cons r rr=>
  rw[hs]
  refine assignInOrder_cons (dI (h1 pins s σ H _ _ _ I r h) λ_ s1 ⟨σ1,H1,I1,q1⟩=>?_)
  exact h2 pins s1 σ1 H1 _ _ Q I1 rr q1
inductive LF(K:Fg7)(n:Nat)(t:HK)(v:V)(σ:St)(H:Hp)(Q:St->Hp->Prop):Prop
 |mk(a:_)(xs:_):(v=.ref a)->(bu K H a xs)->(xs.length=n)->(t xs σ H Q)->LF K n t v σ H Q
def SV(K:Fg7)(n:Nat)(t:HK):TG:=λv σ H Q=>LF K n t v σ H Q
theorem My{es:List Expr}{k:Nat}{t:HK}{n:Nat}(hc:X.calm=true)(h:Po X es t)
  (hn:(assignEach es X.env).length=n:=by rfl)(hst:(assignEach es X.env).findIdx? (·.1)=none:=by rfl):PG X (.Tuple es k pos) (SV X.K n t):=by
 intro pins s σ H v u Q I r hw
 obtain⟨a,xs,e1,hq,hl,hw⟩:=hw
 subst e1
 cases r
 obtain⟨its,rv,ht,hz⟩:=I.tuple hq
 refine assign_Tuple_tuple (I.ok.hd hc) ht (by simp[hn,←hl,rv.length]) hst λh' hx=>?_
 have I1:Inv X pins σ H {s with heap:=h'}:=I.kept (t':=s.toks) λb o e=>hx b o (Nat.ne_of_lt (Heap.lt_size e)) e
 exact h pins _ σ H xs _ Q I1 (by simpa using rv) hw
def XU(to ti:TE)(t:jd):TG:=λv σ H Q=>to σ H λo H1=>ti σ H1 λi H2=>t o i v H2 λH3=>Q σ H3
theorem Mz{o i:Expr}{to ti:TE}{t:jd}(ho:PE X o to)(hi:PE X i ti)(hs:OI X t)
  (ha:∀v,assign (.Subscript o i pos) X.env v=(do
   let ov ←holding [v] (eval o X.env)
   let iv ←holding [v,ov] (eval i X.env)
   standAt pos
   holding [v,ov,iv] (setItem ov iv v)
   release [v,ov,iv] []):=by intro _;rfl):PG X (.Subscript o i pos) (XU to ti t):=by
 intro pins s σ H v u Q I r h
 rw[ha]
 refine wpAny_bind (wpAny_holding (dI (ho pins s σ H _ I h) λov s1 ⟨x,H1,I1,r1,q1⟩=>?_))
 refine wpAny_bind (wpAny_holding (dI (hi pins s1 σ H1 _ I1 q1) λiv s2 ⟨y,H2,I2,r2,q2⟩=>?_))
 refine wpAny_bind (wpAny_standAt (wpAny_bind (wpAny_holding (dI (hs pins s2 σ H2 x y v ov iv u _ I2 r1 r2 r q2) λ_ s3 ⟨H3,I3,q3⟩=>?_))))
 exact wpAny_release ⟨σ,H3,I3,q3⟩
def Eb(te:TE)(g:TG):TS:=λD σ H=>te σ H λx H1=>g x σ H1 D.nx
theorem Mu{tg e:Expr}{te:TE}{g:TG}(he:PE X e te)(hg:PG X tg g)(hs:swapsWithSole [tg] e pos.line X.env=pure false:=by rfl)(hw:swappedStores [tg] e X.env=pure none:=by rfl)
  (h1:(assignEach [tg] X.env).map (·.2)=[assign tg X.env]:=by rfl):PS X (.Assign [tg] e pos) (Eb te g):=by
 intro pins s σ H D I h
 refine wpAny_Assign_stores (dI (he pins s σ H _ I h) λv s1 ⟨x,H1,I1,r1,q1⟩=>?_) hs hw
 rw[h1]
 exact dI (hg pins s1 σ H1 x v _ I1 r1 q1) λ_ s2 q=>q
theorem Ft{i:Nat}{x:Str}{e:Expr}{te:TE}{pos':Pos}(hN:X.N.Nodup)(hi:X.N[i]? = some x)(hx:Loc X.env.scope x)(he:PE X e te)(hs:swapsWith e (some (.Name x pos')) pos.line X.env=pure false:=by rfl)(hf:X.fn x=true\/X.env.scope.names.lookup x=some .local:=by first|exact .inl rfl|exact .inr rfl|assumption):
  PS X (.Assign [.Name x pos'] e pos) (Eb te (ff i)):=by
 intro pins s σ H D I h
 refine wpAny_Assign_Name (dI (he pins s σ H _ I h) λv s1 ⟨y,H1,I1,r1,q1⟩=>?_) hs
 exact wj I1 hN hi hx r1 (λs2 I2=>⟨_,H1,I2,q1⟩) hf
end
section
variable {X:Cx} {pos:Pos}
end
structure It where
 go:Nat->Hp->Prop
 DG:Nat->Hp->V->Hp->Prop
 stop:Nat->Hp->Prop
def gm(X:Cx)(pins:List (Addr×Obj))(H:Hp)(b:Addr):Prop:=
 H b=none/\b≠X.env.locals/\b∉X.fs/\(b∈X.ex\/X.s₀.heap.objs.size<=b)/\(∀x c,X.env.cells.lookup x=some c->c≠b)/\∀p∈X.pn++pins,p.1≠b
theorem Inv.rq{X:Cx}{pins:List (Addr×Obj)}{σ:St}{H H':Hp}{s:Shared}{b:Addr}(I:Inv X pins σ H s)(hb:s.heap.objs.size<=b)(hn:H' b=none):gm X pins H' b:=by
 refine⟨hn,Nat.ne_of_gt (Nat.lt_of_lt_of_le I.lt hb),I.Wm hb,.inr (Nat.le_trans I.sz hb),λx c e z=>?_,λp hp z=>?_⟩
 ·obtain⟨v,q⟩:=I.cell x c e
  exact absurd (Nat.lt_of_lt_of_le q.lt (by rw[z];exact hb)) (Nat.lt_irrefl _)
 ·exact absurd (Nat.lt_of_lt_of_le (Heap.lt_size (I.pin p hp).1) (by rw[z];exact hb)) (Nat.lt_irrefl _)
structure Turn(P:Program)(w:World)(K:Fg7)(tg:Expr)(J:It)(fp:List Addr)(it:Addr)(tn:Nat->Heap->Prop):Prop where
 mem:it∈fp
 obj:∀i h,tn i h->∀b∈fp,∃o,h.get? b=some o/\∀v,o.data≠.cell v
 keep:∀i h h',tn i h->(∀b∈fp,∀o,h.get? b=some o->h'.get? b=some o)->tn i h'
 item:∀(X:Cx),X.prog=P->X.w=w->X.K=K->X.calm=true->∀(i:Nat)(pins:List (Addr×Obj))(s:Shared)(σ:St)(H:Hp)(E:Value->Shared->Prop),Inv X pins σ H s->(∀b∈fp,gm X pins H b)->tn i s.heap->J.go i H->
  wpAny (model P w) X.A (pyNext (.ref it)) (λr s1=>∃u,r=some u/\
   wpAny (model P w) X.A (letOwnedTupleGo tg (.ref it) u) (λ_ s2=>∃x H',Inv X pins σ H' s2/\RelV x u/\J.DG i H x H'/\tn (i+1) s2.heap/\∀b∈fp,H' b=none) E s1) E s
 done:∀(X:Cx),X.prog=P->X.w=w->X.K=K->X.calm=true->∀(i:Nat)(pins:List (Addr×Obj))(s:Shared)(σ:St)(H:Hp)(E:Value->Shared->Prop),Inv X pins σ H s->(∀b∈fp,gm X pins H b)->tn i s.heap->J.stop i H->
  wpAny (model P w) X.A (pyNext (.ref it)) (λr s1=>r=none/\Inv X pins σ H s1) E s
 self:∀(A:Around)(i:Nat)(s:Shared)(Q:Value->Shared->Prop)(E:Value->Shared->Prop),tn i s.heap->Q (.ref it) s->wpAny (model P w) A (pyIter (.ref it)) Q E s
abbrev TI:=St->Hp->(It->Hp->Prop)->Prop
inductive Vb(X:Cx)(pins:List (Addr×Obj))(σ:St)(tg:Expr)(R:It->Hp->Prop)(itv:Value)(s2:Shared):Prop
 |mk(it:Addr)(fp:List Addr)(tn:Nat->Heap->Prop)(J:It)(H':Hp):(itv=.ref it)->(Inv X pins σ H' s2)->(Turn X.prog X.w X.K tg J fp it tn)->(tn 0 s2.heap)->((∀b∈fp,gm X pins H' b))->(R J H')->Vb X pins σ tg R itv s2
def PI(X:Cx)(tg iter:Expr)(wi:TI):Prop:=
 ∀(pins:List (Addr×Obj))(s:Shared)(σ:St)(H:Hp)(R:It->Hp->Prop),Inv X pins σ H s->wi σ H R->
  wpAny (model X.prog X.w) X.A (eval iter X.env) (λv s1=>wpAny (model X.prog X.w) X.A (pyIter v) (Vb X pins σ tg R) X.xe s1) X.xe s
theorem ud{M:Model}{A:Around}{E:Value->Shared->Prop}{s:Shared}{tg:Expr}{it:Addr}{u:Value}{o:Obj}{n:String}{vs:Array Value}{Q:Unit->Shared->Prop}(ho:s.heap.get? it=some o)(hc:o.cls=.type n)(hd:o.data=.fields vs)
    (hn:["enumerate","zip","dict_itemiterator","dict_reverseitemiterator","odict_iterator","itertools.zip_longest","itertools.pairwise"].contains n=false)(hQ:Q () s):wpAny M A (letOwnedTupleGo tg (.ref it) u) Q E s:=by
  unfold letOwnedTupleGo
  cases tg<;>first
    |exact wpAny_pure hQ
    |(cases u<;>first
        |exact wpAny_pure hQ
        |(refine wpAny_bind (wpAny_load ho ?_)
          rw[hc,hd]
          show wpAny M A (if(["enumerate","zip","dict_itemiterator","dict_reverseitemiterator","odict_iterator","itertools.zip_longest","itertools.pairwise"].contains n&&vs[0]? == some (rawInt _))=true then _ else _) Q E s
          rw[if_neg (by intro h;rw[hn,Bool.false_and]at h;cases h)]
          exact wpAny_pure hQ))
def JS(K:Fg7)(a:Addr):It:=
 ⟨λi H=>∃xs x,br K H a xs/\xs[i]? = some x,λi H x H'=>H'=H/\∀xs,br K H a xs->xs[i]? = some x,λi H=>∃xs,br K H a xs/\xs.length<=i⟩
def Uc(K:Fg7)(a:Addr):It:=
 ⟨λi H=>∃xs x,bu K H a xs/\xs[i]? = some x,λi H x H'=>H'=H/\∀xs,bu K H a xs->xs[i]? = some x,λi H=>∃xs,bu K H a xs/\xs.length<=i⟩
def Pp(lo:Int)(n:Nat):It:=⟨λi _=>i<n,λi H x H'=>H'=H/\x=.int (lo+i),λi _=>n<=i⟩
theorem BH{P:Program}{w:World}{K:Fg7}{tg:Expr}(a it:Addr):Turn P w K tg (JS K a) [it] it (λi h=>h.IsListIter it a i)where
 mem:=by simp
 obj:=λi h st b hb=>by
  have e:b=it:=by simpa using hb
  subst e
  obtain⟨o,e,c,d⟩:=st
  exact⟨o,e,λv z=>by rw[d]at z;cases z⟩
 keep:=λi h h' st k=>st.at λo e=>k it (by simp) o e
 item:=by
  intro X hP hw hK hc i pins s σ H E I hf st hg
  subst hP hw hK
  obtain⟨xs,x,hq,hx⟩:=hg
  obtain⟨its,rv,p,hz⟩:=I.list hq
  obtain⟨u,hu,ru⟩:=rv.get hx
  obtain⟨f0,f1,f2,f3,f4,f5⟩:=hf it (by simp)
  refine wpAny_pyNext_list_item st p.isList (x:=u) (by simpa using hu) λh' st' sb=>?_
  have I1:Inv X pins σ H {s with heap:=h'}:=I.turned (t':=s.toks) (λb o hb e=>(sb.2 b hb).trans e) f0 f1 f3 f4 f5
  obtain⟨o,e,c,d⟩:=id st'
  exact⟨u,rfl,ud (s:={s with heap:=h'}) e c d (by decide) ⟨x,H,I1,ru,⟨rfl,λys hy=>by rw[I.xC hy hq];exact hx⟩,st',λb hb=>(hf b hb).1⟩⟩
 done:=by
  intro X hP hw hK hc i pins s σ H E I hf st hg
  subst hP hw hK
  obtain⟨xs,hq,hx⟩:=hg
  obtain⟨its,rv,p,hz⟩:=I.list hq
  obtain⟨f0,f1,f2,f3,f4,f5⟩:=hf it (by simp)
  have hl:=rv.length
  exact wpAny_pyNext_list_end (I.ok.hd hc) st p.isList (by simp;lia) λh' eb=>⟨rfl,I.turned (t':=s.toks) (λb o hb e=>eb b o hb e) f0 f1 f3 f4 f5⟩
 self:=λ_ _ _ _ _ st h=>wpAny_pyIter_listiter st h
theorem yz{P:Program}{w:World}{K:Fg7}{tg:Expr}(a it:Addr):Turn P w K tg (Uc K a) [it] it (λi h=>h.IsTupleIter it a i)where
 mem:=by simp
 obj:=λi h st b hb=>by
  have e:b=it:=by simpa using hb
  subst e
  obtain⟨o,e,c,d⟩:=st
  exact⟨o,e,λv z=>by rw[d]at z;cases z⟩
 keep:=λi h h' st k=>st.at λo e=>k it (by simp) o e
 item:=by
  intro X hP hw hK hc i pins s σ H E I hf st hg
  subst hP hw hK
  obtain⟨xs,x,hq,hx⟩:=hg
  obtain⟨its,rv,p,hz⟩:=I.tuple hq
  obtain⟨u,hu,ru⟩:=rv.get hx
  obtain⟨f0,f1,f2,f3,f4,f5⟩:=hf it (by simp)
  refine wpAny_pyNext_tuple_item st (show s.heap.IsTuple a its.toArray from p) (x:=u) (by simpa using hu) λh' st' sb=>?_
  have I1:Inv X pins σ H {s with heap:=h'}:=I.turned (t':=s.toks) (λb o hb e=>(sb.2 b hb).trans e) f0 f1 f3 f4 f5
  obtain⟨o,e,c,d⟩:=id st'
  exact⟨u,rfl,ud (s:={s with heap:=h'}) e c d (by decide) ⟨x,H,I1,ru,⟨rfl,λys hy=>by rw[I.sY hy hq];exact hx⟩,st',λb hb=>(hf b hb).1⟩⟩
 done:=by
  intro X hP hw hK hc i pins s σ H E I hf st hg
  subst hP hw hK
  obtain⟨xs,hq,hx⟩:=hg
  obtain⟨its,rv,p,hz⟩:=I.tuple hq
  obtain⟨f0,f1,f2,f3,f4,f5⟩:=hf it (by simp)
  have hl:=rv.length
  exact wpAny_pyNext_tuple_end (I.ok.hd hc) st (show s.heap.IsTuple a its.toArray from p) (by simp;lia) λh' eb=>⟨rfl,I.turned (t':=s.toks) (λb o hb e=>eb b o hb e) f0 f1 f3 f4 f5⟩
 self:=λ_ _ _ _ _ st h=>wpAny_pyIter_tupleiter st h
theorem yC{P:Program}{w:World}{K:Fg7}{tg:Expr}(it:Addr)(lo:Int)(n:Nat):Turn P w K tg (Pp lo n) [it] it (λi h=>IsRangeIter h it (lo+(i:Nat)*1) ((n:Int)-(i:Nat)) 1)where
 mem:=by simp
 obj:=λi h st b hb=>by
  have e:b=it:=by simpa using hb
  subst e
  exact⟨_,st,λv z=>by
   have z':Data.fields _=Data.cell v:=z
   cases z'⟩
 keep:=λi h h' st k=>k it (by simp) _ st
 item:=by
  intro X hP hw hK hc i pins s σ H E I hf st hg
  subst hP hw hK
  obtain⟨f0,f1,f2,f3,f4,f5⟩:=hf it (by simp)
  have W:=Walks.range (prog:=X.prog) (w:=X.w) (I.ok.hd hc) it lo 1 n
  refine W.item i s _ _ hg st λv h' tk hv st' kk=>?_
  obtain⟨t,rfl⟩:=hv
  have I1:Inv X pins σ H {s with heap:=h',toks:=tk}:=I.turned (λb o hb e=>kk b o (by simpa using hb) e) f0 f1 f3 f4 f5
  refine⟨_,rfl,ud (s:={s with heap:=h',toks:=tk}) (n:="range_iterator") st' rfl rfl (by decide) ⟨.int (lo+i),H,I1,⟨t,?_⟩,⟨rfl,rfl⟩,st',λb hb=>(hf b hb).1⟩⟩
  rw[Int.mul_one]
 done:=by
  intro X hP hw hK hc i pins s σ H E I hf st hg
  subst hP hw hK
  obtain⟨f0,f1,f2,f3,f4,f5⟩:=hf it (by simp)
  exact wpAny_pyNext_range_end (I.ok.hd hc) st (by have:n<=i:=hg;lia) λh' eb=>⟨rfl,I.turned (t':=s.toks) (λb o hb e=>eb b o hb e) f0 f1 f3 f4 f5⟩
 self:=λ_ _ _ _ _ st h=>wpAny_pyIter_rangeiter st h
section
variable {X:Cx} {tg:Expr}
inductive Gx(K:Fg7)(R:It->Hp->Prop)(x:V)(H1:Hp):Prop
 |mk(a:_):(x=.ref a)->((∃xs,br K H1 a xs))->(R (JS K a) H1)->Gx K R x H1
def RC(K:Fg7)(tl:TE):TI:=λσ H R=>tl σ H λx H1=>Gx K R x H1
inductive Lj(K:Fg7)(R:It->Hp->Prop)(x:V)(H1:Hp):Prop
 |mk(a:_):(x=.ref a)->((∃xs,bu K H1 a xs))->(R (Uc K a) H1)->Lj K R x H1
def WX(K:Fg7)(tl:TE):TI:=λσ H R=>tl σ H λx H1=>Lj K R x H1
theorem bD{l:Expr}{tl:TE}(hl:PE X l tl):PI X tg l (RC X.K tl):=by
 intro pins s σ H R I h
 refine dI (hl pins s σ H _ I h) λv s1 ⟨x,H1,I1,r1,q1⟩=>?_
 obtain⟨a,e,⟨xs,hq⟩,q⟩:=q1
 subst e
 cases r1
 obtain⟨its,rv,p,hz⟩:=I1.list hq
 refine wpAny_pyIter_list p.isList ?_
 refine⟨s1.heap.objs.size,[s1.heap.objs.size],_,_,H1,rfl,I1.kept (t':=s1.toks) λb o e=>Heap.get?_push_of_some _ e,BH a _,⟨_,Heap.get?_push_size _ rfl,rfl,rfl⟩,λb hb=>?_,q⟩
 have e:b=s1.heap.objs.size:=by simpa using hb
 subst e
 exact I1.rq (Nat.le_refl _) (I1.hok.fresh (Nat.le_refl _))
theorem Mx{l:Expr}{tl:TE}(hl:PE X l tl):PI X tg l (WX X.K tl):=by
 intro pins s σ H R I h
 refine dI (hl pins s σ H _ I h) λv s1 ⟨x,H1,I1,r1,q1⟩=>?_
 obtain⟨a,e,⟨xs,hq⟩,q⟩:=q1
 subst e
 cases r1
 obtain⟨its,rv,p,hz⟩:=I1.tuple hq
 refine wpAny_pyIter_tuple (show s1.heap.IsTuple a its.toArray from p) ?_
 refine⟨s1.heap.objs.size,[s1.heap.objs.size],_,_,H1,rfl,I1.kept (t':=s1.toks) λb o e=>Heap.get?_push_of_some _ e,yz a _,⟨_,Heap.get?_push_size _ rfl,rfl,rfl⟩,λb hb=>?_,q⟩
 have e:b=s1.heap.objs.size:=by simpa using hb
 subst e
 exact I1.rq (Nat.le_refl _) (I1.hok.fresh (Nat.le_refl _))
theorem Fb{pins:List (Addr×Obj)}{σ:St}{H:Hp}{s:Shared}{R:It->Hp->Prop}{E:Value->Shared->Prop}{lo hi:Int}{t u v:Tok}{tk:Nat}(I:Inv X pins σ H s)(h1: -(2^62)<=lo)(h2:lo<2^62)(h3: -(2^62)<=hi)(h4:hi<2^62)
  (q:R (Pp lo (hi-lo).toNat) H):wpAny (model X.prog X.w) X.A (pyIter (.ref s.heap.objs.size)) (Vb X pins σ tg R) E {s with heap:=s.heap.push {cls:=.type "range",data:=.fields #[.int lo t,.int hi u,.int 1 v]},toks:=tk}:=by
 refine wpAny_pyIter_range (IsRange.new ..) (small_one h1 h2 h3 h4) ?_
 have I1:Inv X pins σ H {s with heap:=s.heap.push {cls:=.type "range",data:=.fields #[.int lo t,.int hi u,.int 1 v]},toks:=tk}:=I.kept λb o e=>Heap.get?_push_of_some _ e
 refine⟨(s.heap.push {cls:=.type "range",data:=.fields #[.int lo t,.int hi u,.int 1 v]}).objs.size,[(s.heap.push {cls:=.type "range",data:=.fields #[.int lo t,.int hi u,.int 1 v]}).objs.size],_,_,H,rfl,
  I1.kept (t':=tk) λb o e=>Heap.get?_push_of_some _ e,yC _ lo (hi-lo).toNat,?_,λb hb=>?_,q⟩
 ·have e1:lo+((0:Nat):Int)*1=lo:=by simp
  have e2:(((hi-lo).toNat:Nat):Int)-((0:Nat):Int)=Builtin.Range.rangeSize lo hi 1:=by rw[rangeSize_one];split<;>lia
  show IsRangeIter _ _ (lo+((0:Nat):Int)*1) ((((hi-lo).toNat:Nat):Int)-((0:Nat):Int)) 1
  rw[e1,e2]
  exact Heap.get?_push_size _ rfl
 ·have e:b=(s.heap.push {cls:=.type "range",data:=.fields #[.int lo t,.int hi u,.int 1 v]}).objs.size:=by simpa using hb
  subst e
  exact I1.rq (Nat.le_refl _) (I1.hok.fresh (Nat.le_refl _))
inductive Gw(R:It->Hp->Prop)(vs:List V)(H1:Hp):Prop
 |mk(j:Int):(vs=[.int j])->(-(2^62)<=j)->(j<2^62)->(R (Pp 0 j.toNat) H1)->Gw R vs H1
def RB(ta:TA):TI:=λσ H R=>ta σ H λvs H1=>Gw R vs H1
theorem nT{a:Expr}{ta:TA}{p pos:Pos}(hg:Gl X "range")(hm:X.mg "range"=none)(ha:PA X [a] ta)(hs:starEach [a] X.env=[(false,eval a X.env)]:=by rfl):PI X tg (.Call (.Name "range" p) [a] [] pos) (RB ta):=by
 intro pins s σ H R I h
 refine Call_ (jn I hg hm boot_range (PyProof.Rows.callWith_type1 (dI (ha pos pins s σ H _ I h) λus s1 ⟨vs,H1,I1,r1,q1⟩=>?_) hs rfl))
 obtain⟨j,e,q1,q2,q⟩:=q1
 subst e
 cases r1 with
 |cons r rr=>
  cases rr
  obtain⟨t,rfl⟩:=r
  exact call_range_1 (Fb I1 LI LI q1 q2 (by simpa using q))
def VB(wi:TI)(g:TG)(tb:TS):TS:=λD σ H=>wi σ H λJ H1=>∃W:Nat->Nat->St->Hp->Prop,(∃m,W 0 m σ H1)/\∀i m σ H,W i m σ H->
 (J.stop i H/\D.nx σ H)\/(J.go i H/\∃N:St->Hp->Prop,(∀σ' H',N σ' H'->∃m',m'<m/\W (i+1) m' σ' H')/\∀x H',J.DG i H x H'->g x σ H' λσ2 H2=>tb {D with nx:=N,ct:=N,bk:=D.nx} σ2 H2)
def kX(fp:List Addr)(h:Heap):List (Addr×Obj):=fp.filterMap λb=>(h.get? b).map λo=>(b,o)
theorem gi{fp:List Addr}{h:Heap}{b:Addr}{o:Obj}(hb:b∈fp)(e:h.get? b=some o):(b,o)∈kX fp h:=List.mem_filterMap.mpr ⟨b,hb,by rw[e];rfl⟩
theorem Ce{fp:List Addr}{h:Heap}{p:Addr×Obj}(hp:p∈kX fp h):p.1∈fp/\h.get? p.1=some p.2:=by
 obtain⟨b,hb,e⟩:=List.mem_filterMap.mp hp
 cases q:h.get? b with
 |none=>rw[q]at e;cases e
 |some o=>
  rw[q]at e
  have e':(b,o)=p:=Option.some.inj e
  subst e'
  exact⟨hb,q⟩
theorem Inv.pinned{pins:List (Addr×Obj)}{σ:St}{H:Hp}{s:Shared}{fp:List Addr}(I:Inv X pins σ H s)(hf:∀b∈fp,gm X pins H b)(ho:∀b∈fp,∃o,s.heap.get? b=some o/\∀v,o.data≠.cell v):Inv X (pins++kX fp s.heap) σ H s:=
 I.AR λp hp=>(List.mem_append.mp hp).elim (λz=>I.pin p (List.mem_append_right _ z)) λz=>by
  obtain⟨hb,e⟩:=Ce z
  obtain⟨f0,f1,f2,_⟩:=hf p.1 hb
  obtain⟨o,e',d⟩:=ho p.1 hb
  rw[e]at e';cases e'
  exact⟨e,f0,f1,f2,d⟩
theorem Inv.iV{pins pl:List (Addr×Obj)}{σ:St}{H:Hp}{s:Shared}(I:Inv X (pins++pl) σ H s):Inv X pins σ H s:=I.AR λp hp=>I.pin p (List.mem_append_right _ (List.mem_append_left _ hp))
theorem eZ{iter:Expr}{body:List Stmt}{wi:TI}{g:TG}{tb:TS}{pos:Pos}(hp:PassesOwn (model X.prog X.w) X.A X.env X.xe)(hc:X.calm=true)(hi:PI X tg iter wi)(hg:PG X tg g)(hb:vN X body tb)
  (hs:∀x,foldedSetIterable iter X.env x=pure x:=by intro _;rfl):PS X (.For tg iter body [] pos) (VB wi g tb):=by
 intro pins s σ H D I h
 refine wpAny_For (dI (hi pins s σ H _ I h) λv s1 h1=>dI h1 λitv s2 h2=>?_) hs
 obtain⟨it,fp,tn,J,H2,e,I2,T,st2,f2,W,⟨m0,w0⟩,turn⟩:=h2
 subst e
 have yF:∀{H':Hp},(∀b∈fp,H' b=none)->∀b∈fp,gm X pins H' b:=λhn b hb=>⟨hn b hb,(f2 b hb).2⟩
 refine codeAny_forLoop_any (λn s'=>∃i σ' H',Inv X pins σ' H' s'/\tn i s'.heap/\(∀b∈fp,H' b=none)/\W i n σ' H') ?_ m0 ⟨0,σ,H2,I2,st2,λb hb=>(f2 b hb).1,w0⟩
 rintro n s3 ⟨i,σ3,H3,I3,st3,fr3,w3⟩
 rcases turn i n σ3 H3 w3 with⟨stop,qn⟩|⟨go,N,hN,step⟩
 ·refine wpAny_passesOwn hp (dI (T.done X rfl rfl rfl hc i pins s3 σ3 H3 X.xe I3 (yF fr3) st3 stop) λr s4 ⟨hr,I4⟩=>?_)
  subst hr
  exact wpAny_execs_nil ⟨σ3,H3,I4,qn⟩
 ·refine wpAny_passesOwn hp (dI (T.item X rfl rfl rfl hc i pins s3 σ3 H3 X.xe I3 (yF fr3) st3 go) λr s4 ⟨u,hr,h4⟩=>?_)
  subst hr
  refine wpAny_passesOwn hp (dI h4 λ_ s5 ⟨x,H5,I5,r5,y5,Du,UT⟩=>?_)
  have I5':=I5.pinned (yF UT) (T.obj _ _ Du)
  refine wpAny_passesOwn hp (dI (hg _ s5 σ3 H5 x u _ I5' r5 (step x H5 y5)) λ_ s6 ⟨σ6,H6,I6,q6⟩=>?_)
  refine wpAny_passesOwn hp (dI (hb _ s6 σ6 H6 _ I6 q6) λf s7 q7=>?_)
  have again:∀{σ7:St}{H7:Hp},Inv X (pins++kX fp s5.heap) σ7 H7 s7->N σ7 H7->∃m,m<n/\∃i σ' H',Inv X pins σ' H' s7/\tn i s7.heap/\(∀b∈fp,H' b=none)/\W i m σ' H':=λ{σ7 H7} I7 n7=>by
   obtain⟨m',hm,w7⟩:=hN σ7 H7 n7
   refine⟨m',hm,i+1,σ7,H7,I7.iV,T.keep _ _ _ Du λb hb o e=>(I7.pin (b,o) (List.mem_append_right _ (List.mem_append_right _ (gi hb e)))).1,λb hb=>?_,w7⟩
   obtain⟨o,e,d⟩:=T.obj _ _ Du b hb
   exact(I7.pin (b,o) (List.mem_append_right _ (List.mem_append_right _ (gi hb e)))).2.1
  cases f with
  |next=>obtain⟨σ7,H7,I7,n7⟩:=q7;exact again I7 n7
  |cont=>obtain⟨σ7,H7,I7,n7⟩:=q7;exact again I7 n7
  |brk=>obtain⟨σ7,H7,I7,q7⟩:=q7;exact⟨σ7,H7,I7.iV,q7⟩
  |ret v=>obtain⟨x7,σ7,H7,I7,r7,q7⟩:=q7;exact⟨x7,σ7,H7,I7.iV,r7,q7⟩
end
theorem eS{K:Fg7}{a:Addr}{xs:List V}{g:TG}{tb:TS}{D:Ends}{σ:St}{H:Hp}(Pv:Nat->St->Hp->Prop)(h0:Pv 0 σ H)(hl:∀i σ H,i<=xs.length->Pv i σ H->br K H a xs)
  (hs:∀i x σ H,xs[i]? = some x->Pv i σ H->g x σ H λσ2 H2=>tb {D with nx:=Pv (i+1),ct:=Pv (i+1),bk:=D.nx} σ2 H2)(hd:∀σ H,Pv xs.length σ H->D.nx σ H):
  ∃W:Nat->Nat->St->Hp->Prop,(∃m,W 0 m σ H)/\∀i m σ H,W i m σ H->
   ((JS K a).stop i H/\D.nx σ H)\/((JS K a).go i H/\∃N:St->Hp->Prop,(∀σ' H',N σ' H'->∃m',m'<m/\W (i+1) m' σ' H')/\∀x H',(JS K a).DG i H x H'->g x σ H' λσ2 H2=>tb {D with nx:=N,ct:=N,bk:=D.nx} σ2 H2):=by
 refine⟨λi m σ H=>m=xs.length-i/\i<=xs.length/\Pv i σ H,⟨xs.length,by simp,Nat.zero_le _,h0⟩,?_⟩
 rintro i m σ H ⟨rfl,hi,p⟩
 have q:=hl i σ H hi p
 by_cases hlt:i<xs.length
 ·refine .inr ⟨⟨xs,xs[i],q,by simp[hlt]⟩,Pv (i+1),λσ' H' p'=>⟨xs.length-(i+1),by lia,rfl,hlt,p'⟩,λx H' y=>?_⟩
  obtain⟨e,y⟩:=y
  subst e
  exact hs i x σ _ (y xs q) p
 ·have e:i=xs.length:=by lia
  subst e
  exact .inl ⟨⟨xs,q,Nat.le_refl _⟩,hd σ H p⟩
theorem Jq{K:Fg7}{a:Addr}{xs:List V}{g:TG}{tb:TS}{D:Ends}{σ:St}{H:Hp}(Pv:Nat->St->Hp->Prop)(h0:Pv 0 σ H)(hl:∀i σ H,i<=xs.length->Pv i σ H->bu K H a xs)
  (hs:∀i x σ H,xs[i]? = some x->Pv i σ H->g x σ H λσ2 H2=>tb {D with nx:=Pv (i+1),ct:=Pv (i+1),bk:=D.nx} σ2 H2)(hd:∀σ H,Pv xs.length σ H->D.nx σ H):
  ∃W:Nat->Nat->St->Hp->Prop,(∃m,W 0 m σ H)/\∀i m σ H,W i m σ H->
   ((Uc K a).stop i H/\D.nx σ H)\/((Uc K a).go i H/\∃N:St->Hp->Prop,(∀σ' H',N σ' H'->∃m',m'<m/\W (i+1) m' σ' H')/\∀x H',(Uc K a).DG i H x H'->g x σ H' λσ2 H2=>tb {D with nx:=N,ct:=N,bk:=D.nx} σ2 H2):=by
 refine⟨λi m σ H=>m=xs.length-i/\i<=xs.length/\Pv i σ H,⟨xs.length,by simp,Nat.zero_le _,h0⟩,?_⟩
 rintro i m σ H ⟨rfl,hi,p⟩
 have q:=hl i σ H hi p
 by_cases hlt:i<xs.length
 ·refine .inr ⟨⟨xs,xs[i],q,by simp[hlt]⟩,Pv (i+1),λσ' H' p'=>⟨xs.length-(i+1),by lia,rfl,hlt,p'⟩,λx H' y=>?_⟩
  obtain⟨e,y⟩:=y
  subst e
  exact hs i x σ _ (y xs q) p
 ·have e:i=xs.length:=by lia
  subst e
  exact .inl ⟨⟨xs,q,Nat.le_refl _⟩,hd σ H p⟩
theorem jZ{lo:Int}{n:Nat}{g:TG}{tb:TS}{D:Ends}{σ:St}{H:Hp}(Pv:Nat->St->Hp->Prop)(h0:Pv 0 σ H)
  (hs:∀i σ H,i<n->Pv i σ H->g (.int (lo+i)) σ H λσ2 H2=>tb {D with nx:=Pv (i+1),ct:=Pv (i+1),bk:=D.nx} σ2 H2)(hd:∀σ H,Pv n σ H->D.nx σ H):
  ∃W:Nat->Nat->St->Hp->Prop,(∃m,W 0 m σ H)/\∀i m σ H,W i m σ H->
   ((Pp lo n).stop i H/\D.nx σ H)\/((Pp lo n).go i H/\∃N:St->Hp->Prop,(∀σ' H',N σ' H'->∃m',m'<m/\W (i+1) m' σ' H')/\∀x H',(Pp lo n).DG i H x H'->g x σ H' λσ2 H2=>tb {D with nx:=N,ct:=N,bk:=D.nx} σ2 H2):=by
 refine⟨λi m σ H=>m=n-i/\i<=n/\Pv i σ H,⟨n,by simp,Nat.zero_le _,h0⟩,?_⟩
 rintro i m σ H ⟨rfl,hi,p⟩
 by_cases hlt:i<n
 ·refine .inr ⟨hlt,Pv (i+1),λσ' H' p'=>⟨n-(i+1),by lia,rfl,hlt,p'⟩,λx H' y=>?_⟩
  obtain⟨e,y⟩:=y
  subst e y
  exact hs i σ _ hlt p
 ·have e:i=n:=by lia
  subst e
  exact .inl ⟨Nat.le_refl _,hd σ H p⟩
abbrev R2:=V->V->Hp->VK->Prop
def iR(X:Cx)(f:Value->Value->Sem Value)(r:R2):Prop:=
 ∀(pins:List (Addr×Obj))(s:Shared)(σ:St)(H:Hp)(x y:V)(v u:Value)(Q:VK),Inv X pins σ H s->RelV x v->RelV y u->r x y H Q->
  wpAny (model X.prog X.w) X.A (f v u) (EP X pins σ Q) X.xe s
def LP(X:Cx)(f:Value->Sem Value)(r:V->Hp->VK->Prop):Prop:=
 ∀(pins:List (Addr×Obj))(s:Shared)(σ:St)(H:Hp)(x:V)(v:Value)(Q:VK),Inv X pins σ H s->RelV x v->r x H Q->
  wpAny (model X.prog X.w) X.A (f v) (EP X pins σ Q) X.xe s
def iM(X:Cx)(f:Value)(r:List V->Hp->VK->Prop):Prop:=
 ∀(pins:List (Addr×Obj))(s:Shared)(σ:St)(H:Hp)(xs:List V)(us:List Value)(Q:VK),Inv X pins σ H s->Vals xs us->r xs H Q->
  wpAny (model X.prog X.w) X.A (call f us) (EP X pins σ Q) X.xe s
def OS(r:R2)(ta tb:TE):TE:=λσ H Q=>ta σ H λx H1=>tb σ H1 λy H2=>r x y H2 Q
def tUn(r:V->Hp->VK->Prop)(ta:TE):TE:=λσ H Q=>ta σ H λx H1=>r x H1 Q
inductive YU(C:Int->Int->Prop)(g:Int->Int->V)(x:V)(y:V)(H:Hp)(Q:VK):Prop
 |mk(i:_)(j:_):(x=.int i)->(y=.int j)->(C i j)->(Q (g i j) H)->YU C g x y H Q
def rI(C:Int->Int->Prop)(g:Int->Int->V):R2:=λx y H Q=>YU C g x y H Q
inductive QB(g:Int->Int->V)(x:V)(y:V)(H:Hp)(Q:VK):Prop
 |mk(i:_)(j:_):(x=.int i)->(y=.int j)->(Q (g i j) H)->QB g x y H Q
def Mr(g:Int->Int->V):R2:=λx y H Q=>QB g x y H Q
inductive YT(g:Int->V)(x:V)(H:Hp)(Q:VK):Prop
 |mk(i:_):(x=.int i)->(Q (g i) H)->YT g x H Q
def rU(g:Int->V):V->Hp->VK->Prop:=λx H Q=>YT g x H Q
section
variable {X:Cx} {a b c:Expr} {ta tb tc:TE} {pos:Pos}
theorem OD(ha:PE X a ta)(hb:PE X b tb){pins:List (Addr×Obj)}{s:Shared}{σ:St}{H:Hp}{R:V->V->Hp->Prop}(I:Inv X pins σ H s)
  (h:ta σ H λx H1=>tb σ H1 λy H2=>R x y H2){Q:Value->Shared->Prop}{f:Value->Value->Sem Value}
  (hf:∀v u s2 x y H2,Inv X pins σ H2 s2->RelV x v->RelV y u->R x y H2->wpAny (model X.prog X.w) X.A (f v u) Q X.xe s2):
  wpAny (model X.prog X.w) X.A (eval a X.env) (λv s₁=>wpAny (model X.prog X.w) X.A (eval b X.env) (λu s₂=>wpAny (model X.prog X.w) X.A (f v u) Q X.xe s₂) X.xe s₁) X.xe s:=by
 refine dI (ha pins s σ H _ I h) λv s1 ⟨x,H1,I1,r1,q1⟩=>?_
 refine dI (hb pins s1 σ H1 _ I1 q1) λu s2 ⟨y,H2,I2,r2,q2⟩=>?_
 exact hf v u s2 x y H2 I2 r1 r2 q2
theorem aD{op:Operator}{r:R2}(ho:iR X (binaryOp op) r)(ha:PE X a ta)(hb:PE X b tb):PE X (.BinOp a op b pos) (OS r ta tb):=by
 intro pins s σ H Q I h
 exact wpAny_BinOp (OD ha hb I h λv u s2 x y H2 I2 rx ry q=>ho pins s2 σ H2 x y v u Q I2 rx ry q)
theorem mL{op:UnaryOp}{r:V->Hp->VK->Prop}(ho:LP X (unaryOp op) r)(ha:PE X a ta):PE X (.UnaryOp op a pos) (tUn r ta):=by
 intro pins s σ H Q I h
 exact UnaryOp_ (dI (ha pins s σ H _ I h) λv s1 ⟨x,H1,I1,r1,q1⟩=>ho pins s1 σ H1 x v Q I1 r1 q1)
theorem Uw{f:Value->Value->Sem Value}{C:Int->Int->Prop}{g:Int->Int->Int}
  (rule:∀(i j:Int)(t u:Tok)(s:Shared)(Q:Value->Shared->Prop)(E:Value->Shared->Prop),C i j->Q (.int (g i j) s.toks) {s with toks:=s.toks+1}->wpAny (model X.prog X.w) X.A (f (.int i t) (.int j u)) Q E s):
  iR X f (rI C λi j=>.int (g i j)):=by
 intro pins s σ H x y v u Q I rx ry h
 obtain⟨i,j,rfl,rfl,hc,q⟩:=h
 obtain⟨t,rfl⟩:=rx
 obtain⟨t',rfl⟩:=ry
 exact rule i j t t' s _ _ hc ⟨.int (g i j),H,I.tok _,⟨_,rfl⟩,q⟩
theorem QH{f:Value->Value->Sem Value}{g:Int->Int->Int}
  (rule:∀(i j:Int)(t u:Tok)(s:Shared)(Q:Value->Shared->Prop)(E:Value->Shared->Prop),Q (.int (g i j) s.toks) {s with toks:=s.toks+1}->wpAny (model X.prog X.w) X.A (f (.int i t) (.int j u)) Q E s):
  iR X f (Mr λi j=>.int (g i j)):=by
 intro pins s σ H x y v u Q I rx ry h
 obtain⟨i,j,rfl,rfl,q⟩:=h
 obtain⟨t,rfl⟩:=rx
 obtain⟨t',rfl⟩:=ry
 exact rule i j t t' s _ _ ⟨.int (g i j),H,I.tok _,⟨_,rfl⟩,q⟩
theorem MK{f:Value->Value->Sem Value}{g:Int->Int->Bool}
  (rule:∀(i j:Int)(t u:Tok)(s:Shared)(Q:Value->Shared->Prop)(E:Value->Shared->Prop),Q (.bool (g i j)) s->wpAny (model X.prog X.w) X.A (f (.int i t) (.int j u)) Q E s):
  iR X f (Mr λi j=>.bl (g i j)):=by
 intro pins s σ H x y v u Q I rx ry h
 obtain⟨i,j,rfl,rfl,q⟩:=h
 obtain⟨t,rfl⟩:=rx
 obtain⟨t',rfl⟩:=ry
 exact rule i j t t' s _ _ ⟨.bl (g i j),H,I,rfl,q⟩
def JU(i j:Int):Prop:=(-(2^64)<i/\i<2^64)\/(-(2^64)<j/\j<2^64)
theorem JU.ok{i j:Int}(h:JU i j):IntMulOk i j:=by
 rcases h with⟨h1,h2⟩|⟨h1,h2⟩
 ·exact .of_left (intBits_le_64 h1 h2)
 ·exact .of_right (intBits_le_64 h1 h2)
theorem MJ:iR X (binaryOp .Add) (Mr λi j=>.int (i+j)):=QH λ_ _ _ _ _ _ _ q=>add_int q
theorem ME:iR X (binaryOp .Sub) (Mr λi j=>.int (i-j)):=QH λ_ _ _ _ _ _ _ q=>sub_int q
theorem MF:iR X (binaryOp .Mult) (rI JU λi j=>.int (i*j)):=Uw λ_ _ _ _ _ _ _ hc q=>mul_int q hc.ok
theorem MH:iR X (binaryOp .Mod) (rI (λ_ j=>0<j) λi j=>.int (i%j)):=Uw λi j _ _ _ _ _ hc q=>by
 have h1:(0:Int)<j:=hc
 exact mod_int' LI (by rw[Int.fmod_eq_emod_of_nonneg i LI];exact q)
theorem unI{f:Value->Sem Value}{g:Int->Int}
  (rule:∀(i:Int)(t:Tok)(s:Shared)(Q:Value->Shared->Prop)(E:Value->Shared->Prop),Q (.int (g i) s.toks) {s with toks:=s.toks+1}->wpAny (model X.prog X.w) X.A (f (.int i t)) Q E s):
  LP X f (rU λi=>.int (g i)):=by
 intro pins s σ H x v Q I rx h
 obtain⟨i,rfl,q⟩:=h
 obtain⟨t,rfl⟩:=rx
 exact rule i t s _ _ ⟨.int (g i),H,I.tok _,⟨_,rfl⟩,q⟩
theorem LR:LP X (unaryOp .USub) (rU λi=>.int (-i)):=unI λ_ _ _ _ _ q=>neg_int q
end
def Qf:V->V->Bool
 |.eN,.eN=>true|.eN,.int _=>true|.int _,.eN=>true|.eN,.bl _=>true|.bl _,.eN=>true|.eN,.str _=>true|.str _,.eN=>true
 |.int _,.int _=>true|.bl _,.bl _=>true|.str _,.str _=>true|.DB _,.DB _=>true
 |.int _,.str _=>true|.str _,.int _=>true|.bl _,.str _=>true|.str _,.bl _=>true
 |_,_=>false
def rEq:R2:=λx y H Q=>Qf x y=true/\Q (.bl (decide (x=y))) H
def rNe:R2:=λx y H Q=>Qf x y=true/\Q (.bl (!decide (x=y))) H
theorem Br{i j:Int}:decide (V.int i=V.int j)=(i==j):=by
 rw[Bool.eq_iff_iff]
 simp
theorem GV{i j:Bool}:decide (V.bl i=V.bl j)=(i==j):=by
 rw[Bool.eq_iff_iff]
 simp
theorem Bp{i j:Str}:decide (V.str i=V.str j)=(i==j):=by
 rw[Bool.eq_iff_iff]
 simp
theorem Bs{i j:Array UInt8}:decide (V.DB i=V.DB j)=(i.toList==j.toList):=by
 rw[Bool.eq_iff_iff]
 cases i
 cases j
 simp
section
variable {X:Cx} {a b c:Expr} {ta tb tc:TE} {pos:Pos}
theorem bJ{pins:List (Addr×Obj)}{σ:St}{H:Hp}{s:Shared}{Q:VK}{k k':Bool}(I:Inv X pins σ H s)(q:Q (.bl k) H)(e:k=k'):EP X pins σ Q (.bool k') s:=by
 subst e
 exact⟨.bl k,H,I,rfl,q⟩
theorem dF:iR X (compareOp .Eq) rEq:=by
 intro pins s σ H x y v u Q I rx ry h
 obtain⟨hs,q⟩:=h
 cases x with
 |eN=>
  cases rx
  cases y with
  |eN=>cases ry;exact PySem.EqNone.eq_none_none (bJ I q (by simp))
  |bl j=>cases ry;exact PySem.EqNone.eq_none_bool (bJ I q (by simp))
  |int j=>obtain⟨t',rfl⟩:=ry;exact PySem.EqNone.eq_none_int (bJ I q (by simp))
  |str j=>obtain⟨t',rfl⟩:=ry;exact PySem.EqNone.eq_none_str (bJ I q (by simp))
  |_=>exact absurd (show false=true from hs) Bool.false_ne_true
 |bl i=>
  cases rx
  cases y with
  |eN=>cases ry;exact PySem.EqNone.eq_bool_none (bJ I q (by simp))
  |bl j=>cases ry;exact eq_bool (bJ I q GV)
  |str j=>obtain⟨t',rfl⟩:=ry;exact PySem.EqMixed.eq_bool_str (bJ I q (by simp))
  |_=>exact absurd (show false=true from hs) Bool.false_ne_true
 |int i=>
  obtain⟨t,rfl⟩:=rx
  cases y with
  |eN=>cases ry;exact PySem.EqNone.eq_int_none (bJ I q (by simp))
  |int j=>obtain⟨t',rfl⟩:=ry;exact eq_int (bJ I q Br)
  |str j=>obtain⟨t',rfl⟩:=ry;exact PySem.EqMixed.eq_int_str (bJ I q (by simp))
  |_=>exact absurd (show false=true from hs) Bool.false_ne_true
 |str i=>
  obtain⟨t,rfl⟩:=rx
  cases y with
  |eN=>cases ry;exact PySem.EqNone.eq_str_none (bJ I q (by simp))
  |bl j=>cases ry;exact PySem.EqMixed.eq_str_bool (bJ I q (by simp))
  |int j=>obtain⟨t',rfl⟩:=ry;exact PySem.EqMixed.eq_str_int (bJ I q (by simp))
  |str j=>obtain⟨t',rfl⟩:=ry;exact eq_str (bJ I q Bp)
  |_=>exact absurd (show false=true from hs) Bool.false_ne_true
 |DB i=>
  obtain⟨t,rfl⟩:=rx
  cases y with
  |DB j=>obtain⟨t',rfl⟩:=ry;exact PySem.W.eq_bytes (bJ I q Bs)
  |_=>exact absurd (show false=true from hs) Bool.false_ne_true
 |_=>cases y<;>exact absurd (show false=true from hs) Bool.false_ne_true
theorem tW:iR X (compareOp .NotEq) rNe:=by
 intro pins s σ H x y v u Q I rx ry h
 obtain⟨hs,q⟩:=h
 cases x with
 |eN=>
  cases rx
  cases y with
  |eN=>cases ry;exact PySem.EqNone.ne_none_none (bJ I q (by simp))
  |bl j=>cases ry;exact PySem.EqNone.ne_none_bool (bJ I q (by simp))
  |int j=>obtain⟨t',rfl⟩:=ry;exact PySem.EqNone.ne_none_int (bJ I q (by simp))
  |str j=>obtain⟨t',rfl⟩:=ry;exact PySem.EqNone.ne_none_str (bJ I q (by simp))
  |_=>exact absurd (show false=true from hs) Bool.false_ne_true
 |bl i=>
  cases rx
  cases y with
  |eN=>cases ry;exact PySem.EqNone.ne_bool_none (bJ I q (by simp))
  |bl j=>cases ry;exact ne_bool (bJ I q (congrArg not GV))
  |str j=>obtain⟨t',rfl⟩:=ry;exact PySem.EqMixed.ne_bool_str (bJ I q (by simp))
  |_=>exact absurd (show false=true from hs) Bool.false_ne_true
 |int i=>
  obtain⟨t,rfl⟩:=rx
  cases y with
  |eN=>cases ry;exact PySem.EqNone.ne_int_none (bJ I q (by simp))
  |int j=>obtain⟨t',rfl⟩:=ry;exact ne_int (bJ I q (congrArg not Br))
  |str j=>obtain⟨t',rfl⟩:=ry;exact PySem.EqMixed.ne_int_str (bJ I q (by simp))
  |_=>exact absurd (show false=true from hs) Bool.false_ne_true
 |str i=>
  obtain⟨t,rfl⟩:=rx
  cases y with
  |eN=>cases ry;exact PySem.EqNone.ne_str_none (bJ I q (by simp))
  |bl j=>cases ry;exact PySem.EqMixed.ne_str_bool (bJ I q (by simp))
  |int j=>obtain⟨t',rfl⟩:=ry;exact PySem.EqMixed.ne_str_int (bJ I q (by simp))
  |str j=>obtain⟨t',rfl⟩:=ry;exact ne_str (bJ I q (congrArg not Bp))
  |_=>exact absurd (show false=true from hs) Bool.false_ne_true
 |DB i=>
  obtain⟨t,rfl⟩:=rx
  cases y with
  |DB j=>obtain⟨t',rfl⟩:=ry;exact PySem.W.ne_bytes (bJ I q (congrArg not Bs))
  |_=>exact absurd (show false=true from hs) Bool.false_ne_true
 |_=>cases y<;>exact absurd (show false=true from hs) Bool.false_ne_true
theorem QE:iR X (compareOp .Lt) (Mr λi j=>.bl (decide (i<j))):=MK λ_ _ _ _ _ _ _ q=>lt_int q
theorem QF:iR X (compareOp .LtE) (Mr λi j=>.bl (decide (i<=j))):=MK λ_ _ _ _ _ _ _ q=>le_int q
theorem QG:iR X (compareOp .Gt) (Mr λi j=>.bl (decide (j<i))):=MK λ_ _ _ _ _ _ _ q=>gt_int q
theorem uU:iR X (compareOp .Is) (λx y H Q=>y=.eN/\Q (.bl (decide (x=.eN))) H):=by
 intro pins s σ H x y v u Q I rx ry h
 obtain⟨rfl,q⟩:=h
 cases ry
 refine is_none_gen (bJ I q ?_)
 cases x<;>first
  |(cases rx;rfl)
  |(obtain⟨t,rfl⟩:=rx;rfl)
theorem mO:iR X (compareOp .IsNot) (λx y H Q=>y=.eN/\Q (.bl (!decide (x=.eN))) H):=by
 intro pins s σ H x y v u Q I rx ry h
 obtain⟨rfl,q⟩:=h
 cases ry
 refine isnot_none_gen (bJ I q ?_)
 cases x<;>first
  |(cases rx;rfl)
  |(obtain⟨t,rfl⟩:=rx;rfl)
theorem aM(b:Expr){op:CmpOp}(h:op≠.In:=by decide)(h2:op≠.NotIn:=by decide):behindInMarks op b=false:=by
 have e1:(op==CmpOp.In)=false:=by cases op<;>first|rfl|exact absurd rfl h
 have e2:(op==CmpOp.NotIn)=false:=by cases op<;>first|rfl|exact absurd rfl h2
 cases b<;>simp[behindInMarks,e1,e2]
theorem eG{op:CmpOp}{r:R2}(ho:iR X (compareOp op) r)(ha:PE X a ta)(hb:PE X b tb)(hm:behindInMarks op b=false):PE X (.Compare a [op] [b] pos) (OS r ta tb):=by
 intro pins s σ H Q I h
 exact wpAny_Compare1 (OD ha hb I h λv u s2 x y H2 I2 rx ry q=>ho pins s2 σ H2 x y v u Q I2 rx ry q) hm
inductive DT(Q:Bool->Hp->Prop)(x:V)(H':Hp):Prop
 |mk(k:_):(x=.bl k)->(Q k H')->DT Q x H'
def z_(t:TE):TT:=λσ H Q=>t σ H λx H'=>DT Q x H'
theorem aK{op:CmpOp}{r:R2}(ho:iR X (compareOp op) r)(ha:PE X a ta)(hb:PE X b tb)(hm:behindInMarks op b=false):PT X (.Compare a [op] [b] pos) (z_ (OS r ta tb)):=by
 intro pins s σ H Q I h
 refine wpAny_isTrue_Compare1 (dI (ha pins s σ H _ I h) λv s1 ⟨x,H1,I1,r1,q1⟩=>dI (hb pins s1 σ H1 _ I1 q1) λu s2 ⟨y,H2,I2,r2,q2⟩=>
  dI (ho pins s2 σ H2 x y v u _ I2 r1 r2 q2) λc s3 ⟨z,H3,I3,r3,k,e,q3⟩=>?_) hm
 subst e
 cases r3
 exact wpAny_truthy_bool ⟨H3,I3,q3⟩
inductive Ad(r':R2)(tc:TE)(σ:St)(Q:VK)(y:V)(z:V)(H3:Hp):Prop
 |mk(k:_):(z=.bl k)->((if k=true then tc σ H3 λw' H4=>r' y w' H4 Q else Q (.bl false) H3))->Ad r' tc σ Q y z H3
def LZ(r r':R2)(ta tb tc:TE):TE:=λσ H Q=>ta σ H λx H1=>tb σ H1 λy H2=>r x y H2 λz H3=>Ad r' tc σ Q y z H3
theorem Fq{op op':CmpOp}{r r':R2}(ho:iR X (compareOp op) r)(ho':iR X (compareOp op') r')(ha:PE X a ta)(hb:PE X b tb)(hc:PE X c tc)
  (hm:lastMarks [op,op'] [b,c]=false:=by with_unfolding_all rfl):PT X (.Compare a [op,op'] [b,c] pos) (z_ (LZ r r' ta tb tc)):=by
 intro pins s σ H Q I h
 refine isTrue_chain (dI (ha pins s σ H _ I h) λv s1 ⟨x,H1,I1,r1,q1⟩=>test_link (dI (hb pins s1 σ H1 _ I1 q1) λu s2 ⟨y,H2,I2,r2,q2⟩=>
  dI (ho pins s2 σ H2 x y v u _ I2 r1 r2 q2) λd s3 ⟨z,H3,I3,r3,k,e,q3⟩=>?_)) hm
 subst e
 cases r3
 refine wpAny_truthy_bool ?_
 cases k with
 |false=>
  obtain⟨k',e',q'⟩:=q3
  cases e'
  exact ite_ff ⟨H3,I3,q'⟩
 |true=>
  refine ite_tt (test_last (dI (hc pins s3 σ H3 _ I3 q3) λw' s4 ⟨z',H4,I4,r4,q4⟩=>dI (ho' pins s4 σ H4 y z' u w' _ I4 r2 r4 q4) λd' s5 ⟨z2,H5,I5,r5,k2,e2,q5⟩=>?_))
  subst e2
  cases r5
  exact wpAny_truthy_bool ⟨H5,I5,q5⟩
theorem qZ:(sizeLine:Nat)<2^63:=by rw[sizeLine_eq];decide
theorem qR:iR X (binaryOp .Add) (λx y H Q=>∃i j,x=.str i/\y=.str j/\i.length+j.length<=sizeLine/\Q (.str (i++j)) H):=by
 intro pins s σ H x y v u Q I rx ry h
 obtain⟨i,j,rfl,rfl,hz,q⟩:=h
 obtain⟨t,rfl⟩:=rx
 obtain⟨t',rfl⟩:=ry
 exact add_str (λt' tk=>⟨.str (i++j),H,I.tok _,⟨_,rfl⟩,q⟩) hz
theorem vals1{x:V}{us:List Value}(r:Vals [x] us):∃u,us=[u]/\RelV x u:=by
 cases r with
 |cons r1 r2=>cases r2;exact⟨_,rfl,r1⟩
theorem vals2{x y:V}{us:List Value}(r:Vals [x,y] us):∃u w',us=[u,w']/\RelV x u/\RelV y w':=by
 cases r with
 |cons r1 r2=>
  cases r2 with
  |cons r3 r4=>cases r4;exact⟨_,_,rfl,r1,r3⟩
end
structure zM(h:Heap)(x dx C:Addr)(mA:Str->Option Value):Prop where
 obj:h.get? x=some (PySem.W.instObj C dx)
 ns:h.Ns1 dx mA
 ne:dx≠x
theorem Cv{h:Heap}{dx:Addr}{mA:Str->Option Value}(n:h.Ns1 dx mA):∃od,h.get? dx=some od/\∀name,PySem.W.lookIn name od=some (mA name):=by
 obtain⟨o,es,ep,ho,hd,hk,_,hm⟩:=n
 refine⟨o,ho,λname=>?_⟩
 have e:=hm name
 unfold nsFind findBy at e
 rw[←Array.find?_toList]at e
 unfold PySem.W.lookIn
 rw[hd]
 dsimp only
 split
 ·rename_i y q
  rw[q]at e
  exact congrArg some e
 ·rename_i q
  rw[q]at e
  have a:es.toList.any (·.refKey)=false:=by
   rw[List.any_eq_false]
   intro y hy
   obtain⟨z,t,hkey⟩:=hk y (Array.mem_toList_iff.mp hy)
   simp[DictEntry.refKey,hkey]
  have a':¬es.toList.any (·.refKey)=true:=by rw[a];exact Bool.false_ne_true
  rw[if_neg a']
  exact congrArg some e
theorem zM.look{h:Heap}{x dx C:Addr}{mA:Str->Option Value}(I:zM h x dx C mA):∃od,PySem.W.InstAt h x (PySem.W.instObj C dx) C (some od)/\∀name,PySem.W.lookIn name od=some (mA name):=
 let⟨od,ho,hl⟩:=Cv I.ns
 ⟨od,⟨I.obj,rfl,rfl,ho⟩,hl⟩
section
variable {prog:Program} {w:World} {A:Around} {E:Value->Shared->Prop} {s:Shared} {K:Fg7} {x dx C f:Addr} {mA:Str->Option Value} {name:Str} {v:Value}
theorem get_map{expr:Bool}{Q:Value->Shared->Prop}(X:K.In s.heap)(I:zM s.heap x dx C mA)(hg:PySem.W.plainGet K C name=true)(hh:PySem.W.hasDictIn K C=true)
  (ha:PySem.W.findIn K (.ref C) name=some none)(hv:mA name=some v)(hv':PySem.W.handedIn v=true)(h:Q v {s with toks:=s.toks+1}):
  wpAny (model prog w) A (getAttr (.ref x) name expr) Q E s:=by
 obtain⟨od,J,hl⟩:=I.look
 exact PySem.W.get_value X J (PySem.W.plainGet_of hg).1 (PySem.W.findObj_own hh ha rfl (by rw[hl,hv])) hv' h
theorem GF{pl:Sem Bool}{Q:Value×List Value->Shared->Prop}(X:K.In s.heap)(I:zM s.heap x dx C mA)(hg:PySem.W.plainGet K C name=true)
  (hf:PySem.W.findIn K (.ref C) name=some (some (.ref f)))(ht:PySem.W.isFn K (.ref f)=true)(hv:mA name=none)(h:Q (.ref f,[.ref x]) s):
  wpAny (model prog w) A (getMethod (.ref x) name pl) Q E s:=by
 obtain⟨od,J,hl⟩:=I.look
 exact PySem.W.method_fn X J (PySem.W.plainGet_of hg).1 (PySem.W.plainGet_of hg).2 hf (beq_iff_eq.mp ht) (by show(PySem.W.lookIn name od).map (·.isSome)=some false;rw[hl,hv];rfl) h
theorem Ii{ns:List Str}{Q:Unit->Shared->Prop}(X:K.In s.heap)(I:zM s.heap x dx C mA)
  (hs:PySem.W.findIn K (.ref C) "__setattr__"=some (some (.builtin "object.__setattr__")))(hp:PySem.W.plainOver K C=true)(ht:PySem.W.takerIn K C name=some none)(hh:PySem.W.hasDictIn K C=true)
  (hw:PySem.Within mA ns)(hsz:ns.length<=sizeLine)
  (h:∀h',zM h' x dx C (λy=>if y=name then some v else mA y)->Heap.SameBut dx s.heap h'->Q () {s with heap:=h',toks:=s.toks+2}):
  wpAny (model prog w) A (setAttr (.ref x) name v) Q E s:=by
 obtain⟨od,J,hl⟩:=I.look
 refine PySem.W.set_plain X J hs (PySem.W.osa_open (s:={s with toks:=s.toks+1}) (r:=none) X J hp ht λb=>?_)
 obtain⟨cd,hc,hd'⟩:=PySem.W.any_some hh
 have hx:s.heap.get? x=some ⟨.ref C,some dx,.plain,#[]⟩:=I.obj
 refine wpAny_bind (wpAny_pure (wpAny_bind (wpAny_bind (wpAny_loadPart hx (wpAny_bind (PySem.W.Looks.here (s:={s with toks:=s.toks+1}) (PySem.W.looks_clsIn X hc) ?_))))))
 rw[hd']
 refine wpAny_pure (a:=some dx) (wpAny_bind (wpAny_pure (wpAny_bind ?_)))
 refine wpAny_nsSet1 (s:={s with toks:=s.toks+1}) I.ns λh' hn2 hs2=>?_
 obtain⟨oD,esD,epD,hoD,hdD,hcD⟩:=hn2.count (PySem.Within.cons name v hw)
 refine wpAny_bind (wpAny_lookBehind hoD (by rw[hdD];exact pastItsLine_dict (Nat.le_trans hcD (by rw[List.length_cons];lia))) ?_)
 exact wpAny_pure (h _ ⟨(hs2.2 _ (Ne.symm I.ne)).trans I.obj,hn2,I.ne⟩ hs2)
theorem F_{R:Result->Shared->Prop}{vs:List Value}{kw:List (Str×Value)}(X:K.In s.heap)(hm:PySem.W.makesIn K C=true)
  (hi:PySem.W.findIn K (.ref C) "__init__"=some (some (.ref f)))(hf:PySem.W.typeIn K (.ref f)=some (.type "function"))
  (h:codeAny (model prog w) (A.under (.builtin "type.__call__" ⟨.ref C::vs,kw⟩)) (.call (.ref f) ⟨.ref (s.heap.objs.size+1)::vs,kw⟩) (PySem.W.InitBack (s.heap.objs.size+1) R)
   {s with heap:=(s.heap.push PySem.W.emptyDict).push (PySem.W.instObj C s.heap.objs.size)}):
  codeAny (model prog w) A (.call (.ref C) ⟨vs,kw⟩) R s:=by
 obtain⟨hh,g,d,t,os⟩:=s
 exact PySem.W.make_core (PySem.W.makes_of X hm) (PySem.W.looks_findIn X hi) (λself=>PySem.W.bind_fn X self hf) (.inl rfl) h
end
def gG(f:Str)(v:V):List (Str×V)->List (Str×V)
 |[]=>[(f,v)]
 |(g,x)::r=>if g=f then(g,v)::r else(g,x)::gG f v r
theorem pP(f g:Str)(v:V):∀fs:List (Str×V),(gG f v fs).lookup g=if g=f then some v else fs.lookup g
 |[]=>by
  show List.lookup g [(f,v)]=_
  by_cases h:g=f
  ·have hb:(g==f)=true:=beq_iff_eq.mpr h
   simp only[List.lookup,hb,if_pos h]
  ·have hb:(g==f)=false:=beq_eq_false_iff_ne.mpr h
   simp only[List.lookup,hb,if_neg h]
 |(k,x)::r=>by
  have ih:=pP f g v r
  rw[show gG f v ((k,x)::r)=(if k=f then(k,v)::r else(k,x)::gG f v r)from rfl]
  by_cases hk:k=f
  ·rw[if_pos hk]
   by_cases h:g=k
   ·have hb:(g==k)=true:=beq_iff_eq.mpr h
    simp only[List.lookup,hb,if_pos (h.trans hk)]
   ·have hb:(g==k)=false:=beq_eq_false_iff_ne.mpr h
    simp only[List.lookup,hb,if_neg (λe:g=f=>h (e.trans hk.symm))]
  ·rw[if_neg hk]
   by_cases h:g=k
   ·have hb:(g==k)=true:=beq_iff_eq.mpr h
    simp only[List.lookup,hb,if_neg (λe:g=f=>hk (h.symm.trans e))]
   ·have hb:(g==k)=false:=beq_eq_false_iff_ne.mpr h
    simp only[List.lookup,hb]
    exact ih
theorem oK(f:Str)(v:V):∀fs:List (Str×V),f∈(gG f v fs).map (·.1)/\∀g,g∈fs.map (·.1)->g∈(gG f v fs).map (·.1)
 |[]=>⟨by simp[gG],λg h=>by simp at h⟩
 |(k,x)::r=>by
  obtain⟨i1,i2⟩:=oK f v r
  rw[show gG f v ((k,x)::r)=(if k=f then(k,v)::r else(k,x)::gG f v r)from rfl]
  by_cases hk:k=f
  ·rw[if_pos hk]
   subst hk
   exact⟨by simp,λg h=>by simpa using h⟩
  ·rw[if_neg hk]
   refine⟨?_,λg h=>?_⟩
   ·rw[List.map_cons]
    exact List.mem_cons_of_mem _ i1
   ·rw[List.map_cons]at h ⊢
    rcases List.mem_cons.mp h with e|e
    ·exact List.mem_cons.mpr (.inl e)
    ·exact List.mem_cons_of_mem _ (i2 g e)
theorem pR(f:Str)(v:V):∀fs:List (Str×V),(gG f v fs).length<=fs.length+1
 |[]=>by simp[gG]
 |(k,x)::r=>by
  have ih:=pR f v r
  rw[show gG f v ((k,x)::r)=(if k=f then(k,v)::r else(k,x)::gG f v r)from rfl]
  by_cases hk:k=f
  ·rw[if_pos hk,List.length_cons,List.length_cons];lia
  ·rw[if_neg hk,List.length_cons,List.length_cons];lia
theorem ju.some_of{v:V}{o:Option Value}(r:ju (some v) o):∃u,o=some u/\RelV v u:=by
 cases o with
 |none=>exact(show False from r).elim
 |some u=>exact⟨u,rfl,r⟩
theorem ju.none_of{o:Option Value}(r:ju none o):o=none:=by
 cases o with
 |none=>rfl
 |some u=>exact(show False from r).elim
theorem CK{v:V}{u:Value}(r:RelV v u):PySem.W.handedIn u=true:=by
 cases v with
 |eN=>cases(show u=Value.none from r);rfl
 |bl b=>cases(show u=Value.bool b from r);rfl
 |int i=>obtain⟨t,e⟩:=(show∃t,u=Value.int i t from r);cases e;rfl
 |str x=>obtain⟨t,e⟩:=(show∃t,u=Value.str x t from r);cases e;rfl
 |DB b=>obtain⟨t,e⟩:=(show∃t,u=Value.bytes b t from r);cases e;rfl
 |NQ b=>obtain⟨t,e⟩:=(show∃t,u=Value.float b t from r);cases e;rfl
 |ref a=>cases(show u=Value.ref a from r);rfl
 |ty n=>cases(show u=Value.type n from r);rfl
section
variable {P:Program} {w:World} {H H':Hp} {h h':Heap} {a C dx:Addr} {fs fs':List (Str×V)}
theorem qB(hok:lU P w H h)(e:H a=some (.ins C dx fs)):∃mA,zM h a dx C mA/\(∀f,ju (fs.lookup f) (mA f))/\PySem.Within mA (fs.map (·.1))/\fs.length<=1000/\H dx=some (.own a):=by
 obtain⟨d,z,ne,ob,mA,n,r,q⟩:=(show cC P w H h a (.ins C dx fs)from hok a _ e)
 exact⟨mA,⟨ob,n,ne⟩,r,q,z,d⟩
end
structure Dr(K:Fg7)(C:Addr):Prop where
 pg:PySem.W.plainGet K C Str.empty=true
 hd:PySem.W.hasDictIn K C=true
 po:PySem.W.plainOver K C=true
 sa:PySem.W.findIn K (.ref C) "__setattr__"=some (some (.builtin "object.__setattr__"))
theorem Dr.get{K:Fg7}{C:Addr}(c:Dr K C)(f:Str):PySem.W.plainGet K C f=true:=c.pg
def fD(K:Fg7)(C:Addr)(f:Str):Prop:=PySem.W.findIn K (.ref C) f=some none
theorem fD.PK{K:Fg7}{C:Addr}{f:Str}(n:fD K C f):PySem.W.takerIn K C f=some none:=by
 unfold PySem.W.takerIn
 rw[show PySem.W.findIn K (.ref C) f=some none from n]
 rfl
structure Meth(K:Fg7)(C:Addr)(m:Str)(f:Addr):Prop where
 at_:PySem.W.findIn K (.ref C) m=some (some (.ref f))
 fn:PySem.W.isFn K (.ref f)=true
 kp:PySem.W.keepIn K (.ref f)=true
section
variable {X:Cx} {pins:List (Addr×Obj)} {σ:St} {H:Hp} {s:Shared} {a C dx:Addr} {fs:List (Str×V)} {f:Str} {v:V} {A:Around} {E:Value->Shared->Prop}
theorem zo{b:Bool}{Q:Value->Shared->Prop}(I:Inv X pins σ H s)(e:H a=some (.ins C dx fs))(c:Dr X.K C)(n:fD X.K C f)(l:fs.lookup f=some v)
  (h:∀u s',Inv X pins σ H s'->RelV v u->Q u s'):wpAny (model X.prog X.w) A (getAttr (.ref a) f b) Q E s:=by
 obtain⟨mA,O,r,_,_,_⟩:=qB I.hok e
 obtain⟨u,hu,ru⟩:=ju.some_of (v:=v) (o:=mA f) (by rw[←l];exact r f)
 exact get_map I.mX O (c.get f) c.hd n hu (CK ru) (h u _ (I.tok _) ru)
theorem rm{m:Str}{g:Addr}{pl:Sem Bool}{Q:Value×List Value->Shared->Prop}(I:Inv X pins σ H s)(e:H a=some (.ins C dx fs))(c:Dr X.K C)(k:Meth X.K C m g)(l:fs.lookup m=none)
  (h:Q (.ref g,[.ref a]) s):wpAny (model X.prog X.w) A (getMethod (.ref a) m pl) Q E s:=by
 obtain⟨mA,O,r,_,_,_⟩:=qB I.hok e
 have hn:mA m=none:=ju.none_of (by rw[←l];exact r m)
 exact GF I.mX O (c.get m) k.at_ k.fn hn h
theorem yI{y:V}{u:Value}{Q:Unit->Shared->Prop}(I:Inv X pins σ H s)(e:H a=some (.ins C dx fs))(c:Dr X.K C)(n:fD X.K C f)(hl:fs.length<1000)(ry:RelV y u)
  (h:∀s',Inv X pins σ (upd H a (.ins C dx (gG f y fs))) s'->Q () s'):wpAny (model X.prog X.w) A (setAttr (.ref a) f u) Q E s:=by
 obtain⟨mA,O,r,wi,_,ho⟩:=qB I.hok e
 have hz:(fs.map (·.1)).length<=sizeLine:=by rw[List.length_map,sizeLine_eq];lia
 refine Ii I.mX O c.sa c.po n.PK c.hd wi hz λh' O' sb=>h _ ?_
 have hd:∃o,h'.get? dx=some o:=let⟨o,_,_,e',_⟩:=O'.ns;⟨o,e'⟩
 refine I.write (x:=a) (e:=dx) (by rw[e];exact True.intro) (.inr ho) (λb q hb z=>(sb.2 b hb).trans z) hd ?_
 refine⟨by rw[ai O.ne];exact ho,?_,O.ne,O'.obj,_,O'.ns,λg=>?_,λg hg=>?_⟩
 ·have:=pR f y fs;lia
 ·show ju ((gG f y fs).lookup g) (if g=f then some u else mA g)
  rw[pP]
  by_cases q:g=f
  ·rw[if_pos q,if_pos q];exact ry
  ·rw[if_neg q,if_neg q];exact r g
 ·by_cases q:g=f
  ·rw[q];exact(oK f y fs).1
  ·refine(oK f y fs).2 g (wi g λz=>hg ?_)
   show(if g=f then some u else mA g)=none
   rw[if_neg q];exact z
theorem Inv.made(I:Inv X pins σ H s):Inv X pins σ (upd (upd H s.heap.objs.size (.own (s.heap.objs.size+1))) (s.heap.objs.size+1) (.ins C s.heap.objs.size []))
  {s with heap:=(s.heap.push PySem.W.emptyDict).push (PySem.W.instObj C s.heap.objs.size)}:=by
 have e1:(s.heap.push PySem.W.emptyDict).get? s.heap.objs.size=some PySem.W.emptyDict:=Heap.get?_push_size s.heap rfl
 have e2:((s.heap.push PySem.W.emptyDict).push (PySem.W.instObj C s.heap.objs.size)).get? (s.heap.objs.size+1)=some (PySem.W.instObj C s.heap.objs.size):=by
  have:=Heap.get?_push_size (s.heap.push PySem.W.emptyDict) (o:=PySem.W.instObj C s.heap.objs.size) rfl
  rwa [Heap.size_push]at this
 have e3:(s.heap.push PySem.W.emptyDict).Ns s.heap.objs.size (λ_=>none):=⟨PySem.W.emptyDict,#[],_,e1,rfl,(λe he=>absurd he (by simp)),λ_=>rfl⟩
 have I1:=I.laid (a:=s.heap.objs.size) (o:=.own (s.heap.objs.size+1)) (h':=s.heap.push PySem.W.emptyDict) (t':=s.toks) (λb u q=>Heap.get?_push_of_some _ q) (Nat.le_refl _) ⟨_,e1⟩
 refine I1.laid (a:=s.heap.objs.size+1) (o:=.ins C s.heap.objs.size []) (t':=s.toks) (λb u q=>Heap.get?_push_of_some _ q) (Nat.le_of_eq (Heap.size_push _ _)) ?_
 have ne:s.heap.objs.size≠s.heap.objs.size+1:=Nat.ne_of_lt (Nat.lt_succ_self _)
 refine⟨by rw[ai ne,af],Nat.zero_le _,ne,e2,λ_=>none,(Heap.Ns1.of_empty e3).at λo q=>Heap.get?_push_of_some _ q,λ_=>True.intro,λy hy=>absurd rfl hy⟩
theorem JN{prog:Program}{w:World}{env:Env}{e:Expr}{f:Str}{pos:Pos}{s:Shared}{Q:Value->Shared->Prop}(hb:attributeBase e f env (eval e env)=eval e env)
  (h:wpAny (model prog w) A (eval e env) (λo s₁=>wpAny (model prog w) A (getAttr o f true) Q E s₁) E s):wpAny (model prog w) A (eval (.Attribute e f pos) env) Q E s:=
 Attribute_any_ h (by rw[arm_eval_Attribute,hb])
end
inductive Kh(K:Fg7)(f:Str)(Q:VK)(x:V)(H1:Hp):Prop
 |mk(a:_)(C:_)(dx:_)(fs:_)(v:_):(x=.ref a)->(H1 a=some (.ins C dx fs))->(Dr K C)->(fD K C f)->(fs.lookup f=some v)->(Q v H1)->Kh K f Q x H1
def HY(K:Fg7)(ta:TE)(f:Str):TE:=λσ H Q=>ta σ H λx H1=>Kh K f Q x H1
inductive KD(K:Fg7)(f:Str)(D:Ends)(σ:St)(y:V)(x:V)(H2:Hp):Prop
 |mk(a:_)(C:_)(dx:_)(fs:_):(x=.ref a)->(H2 a=some (.ins C dx fs))->(Dr K C)->(fD K C f)->(fs.length<1000)->(D.nx σ (upd H2 a (.ins C dx (gG f y fs))))->KD K f D σ y x H2
def VQ(K:Fg7)(ta tv:TE)(f:Str):TS:=λD σ H=>tv σ H λy H1=>ta σ H1 λx H2=>KD K f D σ y x H2
section
variable {X:Cx} {o e value:Expr} {f:Str} {pos pos' tpos:Pos} {ta tv:TE}
theorem dD(he:PE X e ta)(hb:attributeBase e f X.env (eval e X.env)=eval e X.env):PE X (.Attribute e f pos) (HY X.K ta f):=by
 intro pins s σ H Q I h
 refine JN hb (dI (he pins s σ H _ I h) λu s1 ⟨x,H1,I1,rx,a,C,dx,fs,v,ex,ea,c,n,l,q⟩=>?_)
 subst ex
 obtain rfl:u=Value.ref a:=rx
 exact zo I1 ea c n l λu' s2 I2 ru=>⟨v,H1,I2,ru,q⟩
theorem qN(ha:PE X o ta)(hv:PE X value tv)(hs:swapsWith value (some (.Attribute o f pos')) pos.line X.env=pure false):PS X (.Assign [.Attribute o f pos'] value pos) (VQ X.K ta tv f):=by
 intro pins s σ H D I h
 refine plainObj_wpAny_Assign_Attribute (dI (hv pins s σ H _ I h) λu s1 ⟨y,H1,I1,ry,q⟩=>dI (ha pins s1 σ H1 _ I1 q) λov s2 ⟨x,H2,I2,rx,a,C,dx,fs,ex,ea,c,n,l,q2⟩=>?_) hs
 subst ex
 obtain rfl:ov=Value.ref a:=rx
 exact yI I2 ea c n l ry λs3 I3=>⟨σ,_,I3,q2⟩
end
section
variable {X:Cx} {pins:List (Addr×Obj)} {σ:St} {H:Hp} {s:Shared} {A:Around} {E:Value->Shared->Prop} {Q:Value->Shared->Prop} {c:Value} {b:Bool}
inductive oZ(K:Fg7)(H:Hp):V->Value->Prop where
 |eN:oZ K H .eN (.type "NoneType")
 |bl(x:Bool):oZ K H (.bl x) (.type "bool")
 |int(i:Int):oZ K H (.int i) (.type "int")
 |str(x:Str):oZ K H (.str x) (.type "str")
 |NQ(x:UInt64):oZ K H (.NQ x) (.type "float")
 |lst{a:Addr}{xs:List V}(e:H a=some (.lst xs)):oZ K H (.ref a) (.type "list")
 |e_{a:Addr}{o:Obj}{xs:List V}(e:H a=some (.e_ o (.lst xs))):oZ K H (.ref a) (.type "list")
 |tup{a:Addr}{xs:List V}(e:H a=some (.tup xs)):oZ K H (.ref a) (.type "tuple")
 |dK{a:Addr}{kvs:List (Key×V)}(e:H a=some (.dK kvs)):oZ K H (.ref a) (.type "dict")
 |dT{a:Addr}{kvs:List (List Key×V)}(e:H a=some (.dT kvs)):oZ K H (.ref a) (.type "dict")
 |ins{a C dx:Addr}{fs:List (Str×V)}(e:H a=some (.ins C dx fs))(cl:Dr K C)(ha:PySem.W.findIn K (.ref C) "__class__"=some (some (.builtin "object.__class__")))
   (hn:PySem.W.specialIn K (.builtin "object.__class__") "__get__"=some (some (.builtin "getset_descriptor.__get__")))(htk:PySem.W.takesIn K (.builtin "object.__class__")=some true)
   (hm:PySem.W.mroIn K C (.type "object")=some true):oZ K H (.ref a) (.ref C)
theorem CF{x:V}{u t:Value}(I:Inv X pins σ H s)(rx:RelV x u)(ty:oZ X.K H x t)(e:PySem.W.kitOne X.K t c=some b)(h:∀tk,Q (.bool b) {s with toks:=tk}):
  wpAny (model X.prog X.w) A (call (.builtin "isinstance") [u,c]) Q E s:=by
 cases ty with
 |eN=>cases(show u=Value.none from rx);exact PySem.W.kia_one PySem.W.kitx_none I.mX True.intro e (λz=>nomatch z) h
 |bl y=>cases(show u=Value.bool y from rx);exact PySem.W.kia_one PySem.W.kitx_bool I.mX True.intro e (λz=>nomatch z) h
 |int i=>obtain⟨t,q⟩:=(show∃t,u=Value.int i t from rx);cases q;exact PySem.W.kia_one PySem.W.kitx_int I.mX True.intro e (λz=>nomatch z) h
 |str y=>obtain⟨t,q⟩:=(show∃t,u=Value.str y t from rx);cases q;exact PySem.W.kia_one PySem.W.kitx_str I.mX True.intro e (λz=>nomatch z) h
 |NQ y=>obtain⟨t,q⟩:=(show∃t,u=Value.float y t from rx);cases q;exact PySem.W.kia_one PySem.W.kitx_float I.mX True.intro e (λz=>nomatch z) h
 | @lst a xs ea=>
  cases(show u=Value.ref a from rx)
  obtain⟨_,_,n,_,h1⟩:=(show cC X.prog X.w H s.heap a (.lst xs)from I.hok a _ ea)
  exact PySem.W.kia_one PySem.W.kitx_list I.mX ⟨_,h1,rfl⟩ e (λz=>nomatch z) h
 | @e_ a ob xs ea=>
  cases(show u=Value.ref a from rx)
  obtain⟨_,_,_,n,_,h1⟩:=(show cC X.prog X.w H s.heap a (.e_ ob (.lst xs))from I.hok a _ ea)
  exact PySem.W.kia_one PySem.W.kitx_list I.mX ⟨_,h1,rfl⟩ e (λz=>nomatch z) h
 | @tup a xs ea=>
  cases(show u=Value.ref a from rx)
  obtain⟨_,_,_,p⟩:=(show cC X.prog X.w H s.heap a (.tup xs)from I.hok a _ ea)
  obtain⟨o,h1,h2,_⟩:=p
  exact PySem.W.kia_one PySem.W.kitx_tuple I.mX ⟨o,h1,h2⟩ e (λz=>nomatch z) h
 | @dK a kvs ea=>
  cases(show u=Value.ref a from rx)
  obtain⟨_,_,vs,_,p⟩:=(show cC X.prog X.w H s.heap a (.dK kvs)from I.hok a _ ea)
  obtain⟨o,es,ep,h1,h2,_⟩:=p
  exact PySem.W.kia_one PySem.W.kitx_dict I.mX ⟨o,h1,h2.1⟩ e (λz=>nomatch z) h
 | @dT a kvs ea=>
  cases(show u=Value.ref a from rx)
  obtain⟨_,_,xs,_,o,es,ep,h1,h2,_⟩:=(show cC X.prog X.w H s.heap a (.dT kvs)from I.hok a _ ea)
  exact PySem.W.kia_one PySem.W.kitx_dict I.mX ⟨o,h1,h2.1⟩ e (λz=>nomatch z) h
 | @ins a C dx fs ea cl ha hn htk hm=>
  cases(show u=Value.ref a from rx)
  obtain⟨mA,O,_⟩:=qB I.hok ea
  obtain⟨od,J,_⟩:=O.look
  exact PySem.W.kia_one (PySem.W.kitx_own (cl.get _) cl.hd ha hn htk hm) I.mX J e (λz=>nomatch z) h
end
structure dS(k:Nat)(A:Around):Prop where
 hd:A.handled=none
 dp:A.depth+3*k+5<recursionLimit
 un:A.units+16*k+200<cLine
theorem dS.mono{j k:Nat}{A:Around}(r:dS k A)(h:j<=k):dS j A:=⟨r.hd,by have:=r.dp;lia,by have:=r.un;lia⟩
theorem dS.deeper{k:Nat}{A:Around}(r:dS (k+1) A)(env:Env):dS k (A.deeper env):=
 ⟨r.hd,by have:=r.dp;show A.depth+1+3*k+5<_;lia,by have:=r.un;show A.units+3+16*k+200<_;lia⟩
theorem dS.in1{k:Nat}{A:Around}(r:dS (k+1) A):dS k A.in1:=
 ⟨r.hd,by have:=r.dp;show A.depth+3*k+5<_;lia,by have:=r.un;show A.units+1+16*k+200<_;lia⟩
theorem zf{A:Around}{C:Addr}{us:List Value}{kw:List (Str×Value)}:(A.under (.builtin "type.__call__" ⟨.ref C::us,kw⟩)).depth=A.depth+1:=by
 first|rfl|simp[Around.under,Code.weight,Code.isCreation,Code.isGuard,Code.isCaller,Code.frames,Code.isFrame,guardIds]
theorem ze{A:Around}{C:Addr}{us:List Value}{kw:List (Str×Value)}:(A.under (.builtin "type.__call__" ⟨.ref C::us,kw⟩)).units=A.units+1:=by
 first|rfl|simp[Around.under,Code.cUnits,Code.frames,Code.isFrame]
theorem dS.make{k:Nat}{A:Around}(r:dS (k+1) A)(C:Addr)(us:List Value)(kw:List (Str×Value)):dS k (A.under (.builtin "type.__call__" ⟨.ref C::us,kw⟩)):=
 ⟨r.hd,by have:=r.dp;rw[zf];lia,by have:=r.un;rw[ze];lia⟩
theorem dS.depth{k:Nat}{A:Around}(r:dS k A):A.depth<recursionLimit:=by have:=r.dp;lia
theorem dS.units{k:Nat}{A:Around}(r:dS k A):A.units+64<cLine:=by have:=r.un;lia
def LU:TA:=λ_ H Q=>Q [] H
def Km(ta:TE)(tr:TA):TA:=λσ H Q=>ta σ H λx H1=>tr σ H1 λxs H2=>Q (x::xs) H2
section
variable {X:Cx} {e:Expr} {es:List Expr} {te:TE} {t:TA} {pos:Pos}
theorem aj:PA X [] LU:=λ_ _ _ _ H Q I h=>Calls.spliced_nil ⟨[],H,I,.nil,h⟩
theorem IG(ha:PE X e te)(hr:PA X es t)(hs:starEach (e::es) X.env=(false,eval e X.env)::starEach es X.env:=by rfl):PA X (e::es) (Km te t):=by
 intro pos pins s σ H Q I h
 rw[hs]
 show wpAny _ _ (spliced ((false,eval e X.env)::backTo pos (starEach es X.env))) _ _ s
 refine Calls.spliced_cons (dI (ha pins s σ H _ I h) λu s1 ⟨x,H1,I1,r1,q1⟩=>?_)
 exact dI (hr pos pins s1 σ H1 _ I1 q1) λus s2 ⟨xs,H2,I2,r2,q2⟩=>⟨x::xs,H2,I2,.cons r1 r2,q2⟩
def Vv(t:TA):TE:=λσ H Q=>t σ H λxs H1=>xs.length<=sizeLine/\∀p,H1 p=none->Q (.ref p) (upd H1 p (.tup xs))
def Vz(t:TA):TE:=λσ H Q=>t σ H λxs H1=>xs.length<=sizeLine/\∀p,H1 p=none->Q (.ref p) (upd H1 p (.lst xs))
theorem cK{x1}(h:PA X es t):PE X (.Tuple es x1 pos) (Vv t):=by
 intro pins s σ H Q I hq
 refine wpAny_Tuple_spliced (dI (h pos pins s σ H _ I hq) λus s1 ⟨xs,H1,I1,r,z,q⟩=>⟨by rw[←r.length];exact z,?_⟩)
 have hf:H1 s1.heap.objs.size=none:=I1.hok.fresh (Nat.le_refl _)
 refine⟨.ref s1.heap.objs.size,upd H1 s1.heap.objs.size (.tup xs),I1.laid (t':=s1.toks) (λb u e=>Heap.get?_push_of_some _ e) (Nat.le_refl _) ?_,rfl,q _ hf⟩
 exact⟨z,us,r,⟨_,Heap.get?_push_size _ rfl,rfl,_,rfl⟩⟩
theorem cL(h:PA X es t):PE X (.List es pos) (Vz t):=by
 intro pins s σ H Q I hq
 refine wpAny_List_spliced (dI (h pos pins s σ H _ I hq) λus s1 ⟨xs,H1,I1,r,z,q⟩=>⟨by rw[←r.length];exact z,?_⟩)
 have hf:H1 s1.heap.objs.size=none:=I1.hok.fresh (Nat.le_refl _)
 refine⟨.ref s1.heap.objs.size,upd H1 s1.heap.objs.size (.lst xs),I1.laid (t':=s1.toks) (λb u e=>Heap.get?_push_of_some _ e) (Nat.le_refl _) ?_,rfl,q _ hf⟩
 exact⟨z,us,0,r,Heap.get?_push_size _ rfl⟩
end
abbrev Sp:=List V->Hp->VK->XK->Prop
abbrev Ds:=List Env->Hp->Shared->XK->Value->Shared->Prop
structure ye(P:Program)(w:World)(K:Fg7)(mg:Str->Option Value)(base:Heap)(A:Around)(outer:List Env)(s:Shared)(H:Hp):Prop where
 frames:A.frames=some outer
 mod:Mod K mg base
 bs:∀b o,base.get? b=some o->s.heap.get? b=some o/\H b=none
 Hj:base.objs.size<=s.heap.objs.size
 oO:s.heap.FunFrames base outer
 LG:∀b∈frs outer,H b=none
 hok:lU P w H s.heap
 bare:AllBare s.gens
inductive CE(outer:List Env)(P:Program)(w:World)(H:Hp)(s:Shared)(Q:VK)(u:Value)(s':Shared):Prop
 |mk(v:_)(H':_):(s'.os=s.os)->(AllBare s'.gens)->(Un (frs outer) [] H H' s.heap s'.heap)->(lU P w H' s'.heap)->(RelV v u)->(Q v H')->CE outer P w H s Q u s'
def CR(CX:Ds)(outer:List Env)(P:Program)(w:World)(H:Hp)(s:Shared)(Q:VK)(E:XK)(r:Result)(s':Shared):Prop:=
 match r with
 |.ok (.ret u)=>CE outer P w H s Q u s'
 |.ok _=>False
 |.error e=>CX outer H s E e s'
structure nB(P:Program)(w:World)(K:Fg7)(mg:Str->Option Value)(base:Heap)(CX:Ds)(k:Nat)(f:Addr)(fd:FuncData)(ps:List Str)(sp:Sp):Prop where
 len:∀vs H Q E,sp vs H Q E->vs.length=ps.length
 run:∀(A:Around)(outer:List Env)(s:Shared)(H:Hp)(args:Args)(us:List Value)(vs:List V)(Q:VK)(E:XK),dS k A->ye P w K mg base A outer s H->BindsTo s fd args (ps.zip us)->Vals vs us->sp vs H Q E->
  codeAny (model P w) A (.call (.ref f) args) (CR CX outer P w H s Q E) s
theorem nB.imp{P:Program}{w:World}{K:Fg7}{mg:Str->Option Value}{base:Heap}{CX:Ds}{k:Nat}{f:Addr}{fd:FuncData}{ps:List Str}{sp vM:Sp}(F:nB P w K mg base CX k f fd ps sp)
  (h:∀vs H Q E,vM vs H Q E->sp vs H Q E):nB P w K mg base CX k f fd ps vM:=
 ⟨λvs H Q E q=>F.len vs H Q E (h _ _ _ _ q),λA outer s H args us vs Q E hr he hb hv hs=>F.run A outer s H args us vs Q E hr he hb hv (h _ _ _ _ hs)⟩
theorem ye.make{P:Program}{w:World}{K:Fg7}{mg:Str->Option Value}{base:Heap}{A:Around}{outer:List Env}{s:Shared}{H:Hp}(e:ye P w K mg base A outer s H)(C:Addr)(us:List Value)(kw:List (Str×Value)):
  ye P w K mg base (A.under (.builtin "type.__call__" ⟨.ref C::us,kw⟩)) outer s H:=⟨by first|exact e.frames|(simpa [Around.under,Code.envs,Code.isFrame,pushEnvs]using e.frames),e.mod,e.bs,e.Hj,e.oO,e.LG,e.hok,e.bare⟩
section
variable {X:Cx} {pins:List (Addr×Obj)} {σ:St} {H:Hp} {s s':Shared}
theorem Inv.Tu(I:Inv X pins σ H s):ye X.prog X.w X.K X.mg X.base X.A X.stack s H:=
 ⟨I.ok.frames,I.ok.mod,I.bs,Nat.le_trans I.ok.Hj I.sz,I.stack,I.uE,I.hok,I.bare⟩
theorem Inv.after{Q:VK}{u:Value}(I:Inv X pins σ H s)(h:CE X.stack X.prog X.w H s Q u s'):EP X pins σ Q u s':=by
 obtain⟨v,H',os,bare,un,hok,r,q⟩:=h
 obtain⟨hh,g,d,t,os'⟩:=s'
 obtain rfl:os'=s.os:=os
 exact⟨v,H',I.call (h':=hh) (g':=g) (d':=d) (t':=t) (ch:=[]) un hok bare (λb z=>absurd z (by simp)),r,q⟩
end
def Ea(sp:Sp)(qE:List V)(E:XK)(t:TA):TE:=λσ H Q=>t σ H λvs H1=>sp (vs++qE) H1 Q E
inductive DY(C:Addr)(m:Str)(sp:Sp)(qE:List V)(E:XK)(t:TA)(σ:St)(Q:VK)(x:V)(H1:Hp):Prop
 |mk(a:_)(dx:_)(fs:_):(x=.ref a)->(H1 a=some (.ins C dx fs))->(fs.lookup m=none)->(t σ H1 λvs H2=>sp (x::(vs++qE)) H2 Q E)->DY C m sp qE E t σ Q x H1
def Aa(C:Addr)(m:Str)(sp:Sp)(qE:List V)(E:XK)(ta:TE)(t:TA):TE:=λσ H Q=>ta σ H λx H1=>DY C m sp qE E t σ Q x H1
def Kg(C:Addr)(sp:Sp)(qE:List V)(E:XK)(t:TA):TE:=λσ H Q=>t σ H λvs H1=>∀x dx,H1 x=none->H1 dx=none->dx≠x->
 sp (.ref x::(vs++qE)) (upd (upd H1 dx (.own x)) x (.ins C dx [])) (λv H2=>v=.eN/\Q (.ref x) H2) E
def Binds(K:Fg7)(fd:FuncData)(ps:List Str)(ds:List Value):Prop:=
 ∀(s:Shared)(us:List Value),K.In s.heap->(us++ds).length=ps.length->BindsTo s fd ⟨us,[]⟩ (ps.zip (us++ds))
theorem Binds.all{K:Fg7}{fd:FuncData}{ps:List Str}(h:∀us:List Value,us.length=ps.length->bindArgs fd ⟨us,[]⟩=pure (ps.zip us)):Binds K fd ps []:=λs us _ hl=>by
 rw[List.append_nil]at hl ⊢
 exact .of_eq (h us hl)
def Passes(CX:Ds)(X:Cx)(E:XK):Prop:=∀(pins:List (Addr×Obj))(σ:St)(H:Hp)(s:Shared)(e:Value)(s':Shared),Inv X pins σ H s->CX X.stack H s E e s'->X.xe e s'
section
variable {X:Cx} {CX:Ds} {k:Nat} {f C:Addr} {fd:FuncData} {ps:List Str} {sp:Sp} {qE:List V} {ds:List Value} {E:XK} {x m:Str} {p pos apos:Pos} {e o:Expr} {es:List Expr} {ta:TE} {t:TA}
theorem yQ{pins:List (Addr×Obj)}{σ:St}{H:Hp}{s:Shared}{Q:VK}{us:List Value}{vs:List V}(F:nB X.prog X.w X.K X.mg X.base CX k f fd ps sp)(hr:dS k X.A)(hb:Binds X.K fd ps ds)(hd:Vals qE ds)(hx:Passes CX X E)
  (I:Inv X pins σ H s)(r:Vals vs us)(h:sp (vs++qE) H Q E):wpAny (model X.prog X.w) X.A (call (.ref f) us) (EP X pins σ Q) X.xe s:=by
 have r2:Vals (vs++qE) (us++ds):=r.append hd
 have hl:(us++ds).length=ps.length:=by rw[←r2.length];exact F.len _ _ _ _ h
 refine wpAny_call (codeAny_mono (F.run X.A X.stack s H ⟨us,[]⟩ (us++ds) (vs++qE) Q E hr I.Tu (hb s us I.mX hl) r2 h) λr s' hq=>?_)
 cases r with
 |error e=>exact hx pins σ H s e s' I hq
 |ok fl=>
  cases fl with
  |ret u=>exact I.after hq
  |next=>exact False.elim hq
  |brk=>exact False.elim hq
  |cont=>exact False.elim hq
theorem IF(F:nB X.prog X.w X.K X.mg X.base CX k f fd ps sp)(hr:dS k X.A)(hg:Gl X x)(hm:X.mg x=some (.ref f))(hk:PySem.W.keepIn X.K (.ref f)=true)(hb:Binds X.K fd ps ds)(hd:Vals qE ds)(hx:Passes CX X E)
  (ha:PA X (e::es) t)(hdb:(x==("__debug__":Str))=false:=by decide)(he:starEach (e::es) X.env=(false,eval e X.env)::starEach es X.env:=by rfl)(hpl:(backTo pos (starEach es X.env)).any (·.1)=false:=by rfl):
  PE X (.Call (.Name x p) (e::es) [] pos) (Ea sp qE E t):=by
 intro pins s σ H Q I h
 refine wpAny_Call_Name_kw (uZ I hg hm ?_ hdb)
 refine PySem.W.callWith_K (h₀:=X.base) I.ok.mod.Rv hk (dI (ha pos pins s σ H _ I h) λus s1 ⟨vs,H1,I1,r,q⟩=>⟨I1.mX,?_⟩) he hpl
 exact yQ F hr hb hd hx I1 r q
theorem IA{pl:Sem Bool}(he:PE X o ta)(c:Dr X.K C)(hm:Meth X.K C m f)(F:nB X.prog X.w X.K X.mg X.base CX k f fd ps sp)(hr:dS k X.A)(hb:Binds X.K fd ps ds)(hd:Vals qE ds)(hx:Passes CX X E)(ha:PA X (e::es) t)
  (hst:starEach (e::es) X.env=(false,eval e X.env)::starEach es X.env:=by rfl)(hpl:(backTo pos (starEach es X.env)).any (·.1)=false:=by rfl)
  (ht:eval (.Call (.Attribute o m apos) (e::es) [] pos) X.env=(do
   let ov ←eval o X.env
   standAt apos.atName
   let(f,first) ←holding [ov] (getMethod ov m pl)
   callWith pos f first (backTo pos (starEach (e::es) X.env)) (backToKw pos (keywordEach [] X.env))):=by rfl):
  PE X (.Call (.Attribute o m apos) (e::es) [] pos) (Aa C m sp qE E ta t):=by
 intro pins s σ H Q I h
 refine PySem.W.methodCall_KW (pl:=pl) (dI (he pins s σ H _ I h) λu s1 ⟨x,H1,I1,rx,a,dx,fs,ex,ea,l,q⟩=>?_) ht
 subst ex
 obtain rfl:u=Value.ref a:=rx
 refine rm I1 ea c hm l ?_
 refine PySem.W.callWith_K (first:=[.ref a]) (h₀:=X.base) I.ok.mod.Rv hm.kp (dI (ha pos pins s1 σ H1 _ I1 q) λus s2 ⟨vs,H2,I2,r,q2⟩=>⟨I2.mX,?_⟩) hst hpl
 exact yQ (us:=.ref a::us) (vs:=.ref a::vs) F hr hb hd hx I2 (.cons rfl r) q2
theorem Fz{pl:Sem Bool}(he:PE X o ta)(c:Dr X.K C)(hm:Meth X.K C m f)(F:nB X.prog X.w X.K X.mg X.base CX k f fd ps sp)(hr:dS k X.A)(hb:Binds X.K fd ps ds)(hd:Vals qE ds)(hx:Passes CX X E)
  (ht:eval (.Call (.Attribute o m apos) [] [] pos) X.env=(do
   let ov ←eval o X.env
   standAt apos.atName
   let(f,first) ←holding [ov] (getMethod ov m pl)
   callWith pos f first (backTo pos (starEach [] X.env)) (backToKw pos (keywordEach [] X.env))):=by rfl):
  PE X (.Call (.Attribute o m apos) [] [] pos) (Aa C m sp qE E ta LU):=by
 intro pins s σ H Q I h
 refine PySem.W.methodCall_KW (pl:=pl) (dI (he pins s σ H _ I h) λu s1 ⟨x,H1,I1,rx,a,dx,fs,ex,ea,l,q⟩=>?_) ht
 subst ex
 obtain rfl:u=Value.ref a:=rx
 refine rm I1 ea c hm l ?_
 exact PySem.W.callWith_K0 (first:=[.ref a]) I1.mX hm.kp (yQ (us:=[.ref a]) (vs:=[.ref a]) F hr hb hd hx I1 (.cons rfl .nil) q)
structure Mk(K:Fg7)(C f:Addr):Prop where
 makes:PySem.W.makesIn K C=true
 init:PySem.W.findIn K (.ref C) "__init__"=some (some (.ref f))
 fn:PySem.W.isFn K (.ref f)=true
 kp:PySem.W.keepIn K (.ref C)=true
theorem ER{pins:List (Addr×Obj)}{σ:St}{H:Hp}{s:Shared}{Q:VK}{us:List Value}{vs:List V}(M:Mk X.K C f)(F:nB X.prog X.w X.K X.mg X.base CX k f fd ps sp)(hr:dS (k+1) X.A)(hb:Binds X.K fd ps ds)(hd:Vals qE ds)
  (hx:Passes CX X E)(I:Inv X pins σ H s)(r:Vals vs us)
  (h:∀x dx,H x=none->H dx=none->dx≠x->sp (.ref x::(vs++qE)) (upd (upd H dx (.own x)) x (.ins C dx [])) (λv H2=>v=.eN/\Q (.ref x) H2) E):
  wpAny (model X.prog X.w) X.A (call (.ref C) us) (EP X pins σ Q) X.xe s:=by
 have hq:=h (s.heap.objs.size+1) s.heap.objs.size (I.hok.fresh (Nat.le_succ _)) (I.hok.fresh (Nat.le_refl _)) (Nat.ne_of_lt (Nat.lt_succ_self _))
 have I2:=Inv.made (C:=C) I
 have r2:Vals (V.ref (s.heap.objs.size+1)::(vs++qE)) (Value.ref (s.heap.objs.size+1)::(us++ds)):=.cons rfl (r.append hd)
 have hl:(Value.ref (s.heap.objs.size+1)::us++ds).length=ps.length:=by
  have e:=r2.length
  rw[F.len _ _ _ _ hq]at e
  exact e.symm
 refine wpAny_call (F_ (f:=f) I.mX M.makes M.init (beq_iff_eq.mp M.fn) (codeAny_mono (F.run _ X.stack _ _ ⟨Value.ref (s.heap.objs.size+1)::us,[]⟩ (Value.ref (s.heap.objs.size+1)::(us++ds)) _ _ E (hr.make C us [])
  (I2.Tu.make C us []) (hb _ (Value.ref (s.heap.objs.size+1)::us) I2.mX hl) r2 hq) λr s' hq'=>?_))
 cases r with
 |error e=>exact hx pins σ _ _ e s' I2 hq'
 |ok fl=>
  cases fl with
  |ret u=>
   obtain⟨v,H',I3,rv,ev,q3⟩:=I2.after hq'
   subst ev
   exact⟨rv,⟨V.ref (s.heap.objs.size+1),H',I3,rfl,q3⟩⟩
  |next=>exact False.elim hq'
  |brk=>exact False.elim hq'
  |cont=>exact False.elim hq'
theorem IB(M:Mk X.K C f)(F:nB X.prog X.w X.K X.mg X.base CX k f fd ps sp)(hr:dS (k+1) X.A)(hg:Gl X x)(hm:X.mg x=some (.ref C))(hb:Binds X.K fd ps ds)(hd:Vals qE ds)(hx:Passes CX X E)
  (ha:PA X (e::es) t)(hdb:(x==("__debug__":Str))=false:=by decide)(he:starEach (e::es) X.env=(false,eval e X.env)::starEach es X.env:=by rfl)(hpl:(backTo pos (starEach es X.env)).any (·.1)=false:=by rfl):
  PE X (.Call (.Name x p) (e::es) [] pos) (Kg C sp qE E t):=by
 intro pins s σ H Q I h
 refine wpAny_Call_Name_kw (uZ I hg hm ?_ hdb)
 refine PySem.W.callWith_K (h₀:=X.base) I.ok.mod.Rv M.kp (dI (ha pos pins s σ H _ I h) λus s1 ⟨vs,H1,I1,r,q⟩=>⟨I1.mX,?_⟩) he hpl
 exact ER M F hr hb hd hx I1 r q
end
section
variable {X:Cx} {CX:Ds} {k:Nat} {f C:Addr} {fd:FuncData} {ps ks:List Str} {sp:Sp} {E:XK} {x m:Str} {p pos apos kpos:Pos} {e o:Expr} {es:List Expr} {kws:List Keyword} {te ta:TE} {t tk:TA} {nm:Option Str}
variable {g:List Value->List Value->List Value} {gV:List V->List V->List V}
end
structure aP(N P:List Str)(sc:Scope):Prop where
 kind:sc.kind=.function
 co:sc.isCoroutine=false
 gen:sc.isGenerator=false
 nd:N.Nodup
 pre:N.take P.length=P
 par:∀x∈P,sc.names.lookup x=some .local\/sc.names.lookup x=some .cell
 ML:∀y∈sc.names,y.2≠.free
theorem uq{kindOf:Str->Option NameKind}{x:Str}:∀{binds:List (Str×Value)}{m:Str->Option Value},(∀v,(x,v)∉binds)->bindL kindOf binds m x=m x
 |[],_,_=>rfl
 |(n,v)::r,m,h=>by
  unfold bindL
  rw[uq λw hw=>h w (List.mem_cons_of_mem _ hw)]
  split
  ·have:x≠n:=by rintro rfl;exact h v List.mem_cons_self
   simp[this]
  ·rfl
theorem uu{kindOf:Str->Option NameKind}{x:Str}:∀{binds:List (Str×Value)}{m:Str->Option Value},(∀v,(x,v)∉binds)->bindC kindOf binds m x=m x
 |[],_,_=>rfl
 |(n,v)::r,m,h=>by
  unfold bindC
  rw[uu λw hw=>h w (List.mem_cons_of_mem _ hw)]
  split
  ·rfl
  ·have:x≠n:=by rintro rfl;exact h v List.mem_cons_self
   simp[this]
theorem ur{kindOf:Str->Option NameKind}{x:Str}{v:Value}:∀{P:List Str}{vs:List Value}{i:Nat}{m:Str->Option Value},P.Nodup->P[i]? = some x->vs[i]? = some v->kindOf x=some .local->
  bindL kindOf (P.zip vs) m x=some v
 |[],_,_,_,_,h,_,_=>by simp at h
 |_::_,[],_,_,_,_,h,_=>by simp at h
 |p::P,w::vs,0,m,nd,h1,h2,hk=>by
  simp at h1 h2;subst h1;subst h2
  show bindL kindOf ((p,w)::P.zip vs) m p=_
  unfold bindL
  rw[uq λv hv=>(List.nodup_cons.mp nd).1 (List.of_mem_zip hv).1,if_pos hk]
  simp
 |p::P,w::vs,i+1,m,nd,h1,h2,hk=>by
  show bindL kindOf ((p,w)::P.zip vs) m x=_
  unfold bindL
  exact ur (i:=i) (List.nodup_cons.mp nd).2 (by simpa using h1) (by simpa using h2) hk
theorem uv{kindOf:Str->Option NameKind}{x:Str}{v:Value}:∀{P:List Str}{vs:List Value}{i:Nat}{m:Str->Option Value},P.Nodup->P[i]? = some x->vs[i]? = some v->kindOf x≠some .local->
  bindC kindOf (P.zip vs) m x=some v
 |[],_,_,_,_,h,_,_=>by simp at h
 |_::_,[],_,_,_,_,h,_=>by simp at h
 |p::P,w::vs,0,m,nd,h1,h2,hk=>by
  simp at h1 h2;subst h1;subst h2
  show bindC kindOf ((p,w)::P.zip vs) m p=_
  unfold bindC
  rw[uu λv hv=>(List.nodup_cons.mp nd).1 (List.of_mem_zip hv).1,if_neg hk]
  simp
 |p::P,w::vs,i+1,m,nd,h1,h2,hk=>by
  show bindC kindOf ((p,w)::P.zip vs) m x=_
  unfold bindC
  exact uv (i:=i) (List.nodup_cons.mp nd).2 (by simpa using h1) (by simpa using h2) hk
def start(N:List Str)(vs:List V):St:=vs.map some++List.replicate (N.length-vs.length) none
def qf(CX:Ds)(P:Program)(w:World)(K:Fg7)(mg:Str->Option Value)(base:Heap)(N:List Str)(qual:Str)(scope:Scope)(f:Addr)(cd:Value)(A:Around)(outer:List Env)(s:Shared)(H:Hp)(E:XK):Cx where
 prog:=P
 w:=w
 K:=K
 mg:=mg
 base:=base
 A:=A.deeper (envOfC qual scope s.heap.objs.size f cd)
 N:=N
 s₀:=s
 H₀:=H
 env:=envOfC qual scope s.heap.objs.size f cd
 outer:=outer
 stack:=envOfC qual scope s.heap.objs.size f cd::outer
 ex:=[]
 calm:=true
 fn:=λ_=>true
 pn:=[]
 xe:=λe s'=>wpAny (model P w) (A.deeper (envOfC qual scope s.heap.objs.size f cd)) (leaving (envOfC qual scope s.heap.objs.size f cd) e) (λ_ s''=>CX outer H s E e s'') (λe' s''=>CX outer H s E e' s'') s'
theorem xV{sc:Scope}{n:Nat}{x:Str}(h:sc.names.lookup x=some .cell):∃c,(cellsFrom n sc.names []).lookup x=some c:=by
 have q:=PySem.W.cellsFrom_some sc.names n [] (.inl h)
 exact Option.isSome_iff_exists.mp q
theorem t_{CX:Ds}{P:Program}{w:World}{K:Fg7}{mg:Str->Option Value}{base:Heap}{N ps:List Str}{qual:Str}{scope:Scope}{f:Addr}{cd:Value}{A:Around}{outer:List Env}{s s1:Shared}{H:Hp}{E:XK}{us:List Value}{vs:List V}
  (S:aP N ps scope)(hd:A.handled=none)(e0:ye P w K mg base A outer s H)(hl:vs.length=ps.length)(r:Vals vs us)
  (x:InCallC s s.heap.objs.size (bindL (envOfC qual scope s.heap.objs.size f cd).kindOf (ps.zip us) λ_=>none) (cellsFrom (s.heap.objs.size+1) scope.names []) (bindC (envOfC qual scope s.heap.objs.size f cd).kindOf (ps.zip us) λ_=>none) s1):
  Inv (qf CX P w K mg base N qual scope f cd A outer s H E) [] (start N vs) H s1:=by
 have hpl:ps.length<=N.length:=by have:=congrArg List.length S.pre;rw[List.length_take]at this;lia
 obtain⟨h1,tk,rfl,hk⟩:=x.done
 have QN:∀b:Addr,b∉(qf CX P w K mg base N qual scope f cd A outer s H E).ex:=λb z=>absurd (show b∈([]:List Addr)from z) (by simp)
 refine⟨⟨e0.mod,S.kind,rfl,rfl,Nat.le_refl _,λy z c h1 h2=>?_,λy hy=>?_,λy c _ h=>?_,λ_=>hd,Around.frames_deeper e0.frames,.inr ⟨rfl,rfl⟩,λb z=>absurd z (QN b),e0.bs,e0.Hj,λb _ _=>QN b,λb z=>absurd z (QN b),e0.oO,e0.LG⟩,
  rfl,e0.bare,Un.kept hk,⟨_,x.toInCall.ns,λi y v h1 h2 h3=>?_⟩,λy c h=>⟨_,x.cell y c h⟩,e0.hok.fresh (Nat.le_refl _),λy c h=>?_,λp hp=>absurd (show p∈([]:List (Addr×Obj))from hp) (by simp),e0.hok.kept hk,?_⟩
 ·exact name_of_addr x.apart (PySem.mem_of_lookup h1) (PySem.mem_of_lookup h2)
 ·have hy:scope.names.lookup y=some .cell\/scope.names.lookup y=some .free:=hy
  rcases hy with hy|hy
  ·exact xV hy
  ·exact absurd rfl (S.ML _ (PySem.mem_of_lookup hy))
 ·exact Nat.le_of_lt (x.above y c (PySem.mem_of_lookup h))
 ·have hi:i<vs.length:=by
   unfold start at h2
   by_cases hi:i<vs.length
   ·exact hi
   ·rw[List.getElem?_append_right (by simpa using hi)]at h2
    rw[List.getElem?_replicate]at h2
    split at h2<;>cases h2
  have ha:vs[i]? = some v:=by
   unfold start at h2
   rw[List.getElem?_append_left (by simpa using hi),List.getElem?_map]at h2
   cases e:vs[i]? with
   |none=>rw[e]at h2;cases h2
   |some a=>rw[e]at h2;cases h2;rfl
  obtain⟨u,hu,rv⟩:=r.get ha
  have hp:ps[i]? = some y:=by
   rw[←S.pre,List.getElem?_take_of_lt LI];exact h1
  have Zq:ps.Nodup:=by rw[←S.pre];exact S.nd.sublist (List.take_sublist _ _)
  refine⟨u,rv,?_⟩
  rcases S.par y (List.mem_of_getElem? hp)with k|k
  ·exact .inl ⟨k,ur Zq hp hu k⟩
  ·obtain⟨c,e⟩:=xV (n:=s.heap.objs.size+1) k
   refine .inr ⟨.inl k,c,e,?_⟩
   have q:=x.cell y c e
   rw[uv Zq hp hu (by show scope.names.lookup y≠_;rw[k];decide)]at q
   exact q
 ·exact e0.hok.fresh (Nat.le_of_lt (x.above y c (PySem.mem_of_lookup h)))
 ·unfold start
  show _=N.length
  rw[List.length_append,List.length_map,List.length_replicate]
  lia
theorem LH{CX:Ds}{P:Program}{w:World}{K:Fg7}{mg:Str->Option Value}{base:Heap}{k:Nat}{f:Addr}{name qual:Str}{params:Arguments}{body:List Stmt}{scope:Scope}{dV kV doc pm cdv ct oc:Value}{an od:Option Addr}
  {osl:Array (Option Value)}{N ps:List Str}{sp:Sp}(lk:K.lookup f=some ⟨oc,od,.func (PySem.W.fnOf name qual params body scope dV kV doc pm an cdv ct),osl⟩)(hcd:PySem.W.codeIn K cdv qual=true)(S:aP N ps scope)
  (len:∀vs H Q E,sp vs H Q E->vs.length=ps.length)
  (hbody:∀(A:Around)(outer:List Env)(s:Shared)(H:Hp)(vs:List V)(Q:VK)(E:XK),dS k (A.deeper (envOfC qual scope s.heap.objs.size f cdv))->sp vs H Q E->
   ∃t,vN (qf CX P w K mg base N qual scope f cdv A outer s H E) body t/\t {nx:=λ_ H'=>Q .eN H',rt:=Q} (start N vs) H):
  nB P w K mg base CX (k+1) f (PySem.W.fnOf name qual params body scope dV kV doc pm an cdv ct) ps sp:=by
 refine⟨len,λA outer s H args us vs Q E hr e0 hb r yp=>?_⟩
 have hl:=len _ _ _ _ yp
 have KX:K.In s.heap:=e0.mod.Rv.keeps λb o e=>(e0.bs b o e).1
 have lim:s.heap.NoLimit:=e0.mod.nolimit.keeps λb o e=>(e0.bs b o e).1
 have hkind:∀y∈ps.zip us,scope.names.lookup y.1=some .local\/(scope.names.lookup y.1=some .cell/\((cellsFrom (s.heap.objs.size+1) scope.names []).lookup y.1).isSome=true):=λ⟨n,v⟩ hy=>by
  rcases S.par n (List.of_mem_zip hy).1 with q|q
  ·exact .inl q
  ·exact .inr ⟨q,PySem.W.cellsFrom_some _ _ _ (.inl q)⟩
 refine codeAny_call_function hr.depth (KX _ _ lk) rfl S.co S.gen rfl (PySem.W.codeRec_of KX hcd) (hb _ _ _ _ ?_)
 refine wpAny_newFunctionEnv_cells S.kind hkind λenv he s1 x=>?_
 subst he
 refine⟨lim.keeps x.toInCall.keep,codeAny_func ?_⟩
 obtain⟨t,ht,hq⟩:=hbody A outer s H vs Q E (hr.deeper _) yp
 have I:Inv (qf CX P w K mg base N qual scope f cdv A outer s H E) [] (start N vs) H s1:=t_ S hr.hd e0 hl r x
 refine wpAny_mono (ht [] s1 (start N vs) H _ I hq) (λfl s' hs=>?_) λe s' hs=>hs
 have fin:∀{σ':St}{H':Hp}{v:V}{u:Value},Inv (qf CX P w K mg base N qual scope f cdv A outer s H E) [] σ' H' s'->RelV v u->Q v H'->CE outer P w H s Q u s':=
  λ{σ' H' v u} J rv q=>⟨v,H',J.os,J.bare,J.base,J.hok,rv,q⟩
 cases fl with
 |ret u=>
  obtain⟨v,σ',H',J,rv,q⟩:=hs
  exact fin J rv q
 |next=>
  obtain⟨σ',H',J,q⟩:=hs
  exact fin (v:=V.eN) (u:=Value.none) J rfl q
 |brk=>
  obtain⟨_,_,_,q⟩:=hs
  exact False.elim q
 |cont=>
  obtain⟨_,_,_,q⟩:=hs
  exact False.elim q
section
variable {X:Cx} {x:Str} {p pos:Pos} {e:Expr} {es:List Expr} {t:TA} {id T:String} {r:List V->Hp->VK->Prop}
def Up(r:List V->Hp->VK->Prop)(t:TA):TE:=λσ H Q=>t σ H λvs H1=>r vs H1 Q
theorem FF(hc:iM X (.builtin id) r)(hg:Gl X x)(hm:X.mg x=none)(hv:bootBuiltins x=some (.builtin id))(ha:PA X (e::es) t)(hn:x≠"__name__":=by decide)(hdb:(x==("__debug__":Str))=false:=by decide)
  (he:starEach (e::es) X.env=(false,eval e X.env)::starEach es X.env:=by rfl)(hpl:(backTo pos (starEach es X.env)).any (·.1)=false:=by rfl):PE X (.Call (.Name x p) (e::es) [] pos) (Up r t):=by
 intro pins s σ H Q I h
 refine wpAny_Call_Name_kw (jn I hg hm hv ?_ hn hdb)
 exact PyProof.Rows.callWith_builtin1 (dI (ha pos pins s σ H _ I h) λus s1 ⟨vs,H1,I1,r1,q1⟩=>hc pins s1 σ H1 vs us Q I1 r1 q1) he hpl
theorem Ca(hc:iM X (.type T) r)(hg:Gl X x)(hm:X.mg x=none)(hv:bootBuiltins x=some (.type T))(ha:PA X (e::es) t)(hn:x≠"__name__":=by decide)(hdb:(x==("__debug__":Str))=false:=by decide)
  (he:starEach (e::es) X.env=(false,eval e X.env)::starEach es X.env:=by rfl)(hpl:(backTo pos (starEach es X.env)).any (·.1)=false:=by rfl):PE X (.Call (.Name x p) (e::es) [] pos) (Up r t):=by
 intro pins s σ H Q I h
 refine wpAny_Call_Name_kw (jn I hg hm hv ?_ hn hdb)
 exact PyProof.Rows.callWith_type1 (dI (ha pos pins s σ H _ I h) λus s1 ⟨vs,H1,I1,r1,q1⟩=>hc pins s1 σ H1 vs us Q I1 r1 q1) he hpl
end
end L2
namespace HT
open PySem PyProof.Rows
theorem E_(A:Around)(s:Shared)(a:Int)(t:Tok)(c:Int)(u:Tok)(prog:Program)(w:World)(E:Value->Shared->Prop)(Q:Value->Shared->Prop)(h:Q (.bool (decide (a<c))) s):
  wpAny (model prog w) A (richCompare .Lt (.int a t) (.int c u)) Q E s:=
 (PyProof.Rows.lt_int h:wpAny (model prog w) A (compareOp .Lt (.int a t) (.int c u)) Q E s)
section
open PySem.SeqAt
open PySem.AutoSeq1 (wpAny_loadPart')
open PySem.MeetsSeq PySem.MeetsSeq2 PySem.MeetsSeq3
end
section
variable {prog:Program} {w:World} {A:Around} {E:Value->Shared->Prop} {s:Shared}
theorem JI{t b:Addr}{vs ws:List Value}{Q:Value->Shared->Prop}(ht:IsTup s.heap t vs.toArray)(hb:IsTup s.heap b ws.toArray)(hv:vs≠[])
  (h1:ws=[]->Q (.ref t) s)(h2:ws≠[]->Q (.ref s.heap.objs.size) {s with heap:=s.heap.push {cls:=.type "tuple",data:=.seq (vs++ws).toArray} })
  (hsz:vs.length+ws.length<=sizeLine):wpAny (model prog w) A (binaryOp .Add (.ref t) (.ref b)) Q E s:=by
 obtain⟨⟨cls,dd,data,sl⟩,ho,hc,n,hd⟩:=id ht
 obtain⟨⟨Yo,dd2,data2,sl2⟩,ho2,hc2,n2,hd2⟩:=id hb
 simp only at hc hd hc2 hd2
 subst hc hd hc2 hd2
 have e:vs.toArray++ws.toArray=(vs++ws).toArray:=by simp
 by_cases hw:ws=[]
 ·exact concat_meets ⟨_,ho,rfl⟩ ⟨_,ho2,rfl⟩ noFill_tuple_add seq_tuple_add PySem.F.slot_tuple_add PySem.F.entry_tuple_add (PySem.F.args_tuple_add_2 _ _)
   (tuple_addW1 t b vs.toArray ws.toArray n n2 dd dd2 sl sl2 (by simpa using hv) (by simp[hw])) ⟨ho,ho2,h1 hw⟩
 ·refine concat_meets ⟨_,ho,rfl⟩ ⟨_,ho2,rfl⟩ noFill_tuple_add seq_tuple_add PySem.F.slot_tuple_add PySem.F.entry_tuple_add (PySem.F.args_tuple_add_2 _ _)
   (tuple_addW2 t b vs.toArray ws.toArray n n2 dd dd2 sl sl2 (by simpa using hv) (by simpa using hw) (by rw[List.size_toArray,List.size_toArray];exact hsz)) ⟨ho,ho2,?_⟩
  rw[e]
  exact h2 hw
def fT(n d:Nat):Option Int->Nat
 |none=>d
 |some v=>if v<0 then(v+(n:Int)).toNat else min v.toNat n
theorem EL(n d:Nat):fT n d none=d:=rfl
theorem AI(n d k:Nat):fT n d (some (k:Int))=min k n:=by
 show(if(k:Int)<0 then((k:Int)+(n:Int)).toNat else min (k:Int).toNat n)=min k n
 rw[if_neg LI,Int.toNat_natCast]
theorem Ml(n d:Nat)(hd:d<=n)(o:Option Int):fT n d o<=n:=by
 cases o with
 |none=>exact hd
 |some v=>
  show(if v<0 then(v+(n:Int)).toNat else min v.toNat n)<=n
  by_cases hv:v<0
  ·rw[if_pos hv];lia
  ·rw[if_neg hv];exact Nat.min_le_right _ _
theorem Bw(v:Int)(n d:Nat):(if v<0 then max (v+(n:Int)) 0 else min v (n:Int))=((fT n d (some v):Nat):Int):=by
 show(if v<0 then max (v+(n:Int)) 0 else min v (n:Int))=(((if v<0 then(v+(n:Int)).toNat else min v.toNat n):Nat):Int)
 by_cases hv:v<0
 ·simp only[if_pos hv];lia
 ·simp only[if_neg hv];lia
theorem zL(lo hi:Option Int)(n:Nat):Builtin.Slice.sliceAdjust lo hi 1 (n:Int)=(((fT n 0 lo:Nat):Int),((fT n n hi:Nat):Int)):=by
 have h1:¬((1:Int)<0):=by lia
 unfold Builtin.Slice.sliceAdjust
 simp only[h1,if_false]
 refine Prod.ext ?_ ?_
 ·cases lo with
  |none=>rfl
  |some v=>exact Bw v n 0
 ·cases hi with
  |none=>rfl
  |some v=>exact Bw v n n
theorem yS(i j:Nat):Builtin.Slice.slicePlaces (i:Int) (j:Int) 1=j-i:=by
 unfold Builtin.Slice.slicePlaces
 have h1:(1:Int)>0:=by lia
 simp only[h1,if_true,Int.ediv_one]
 split<;>lia
theorem qL{v:Value}{o:Option Int}{Q:Option Int->Shared->Prop}(p:IsPart v o)(h:Q o s):wpAny (model prog w) A (Builtin.Slice.slicePartIndex v) Q E s:=by
 cases p with
 |none=>exact slicePart_none h
 |int i t=>exact slicePart_int h
theorem nN{sl:Addr}{vl vu:Value}{lo hi:Option Int}{n:Nat}{Q:Int×Int×Nat->Shared->Prop}(hs:s.heap.IsSliceOf sl vl vu .none)(pl:IsPart vl lo)(pu:IsPart vu hi)
  (h:Q (((fT n 0 lo:Nat):Int),1,fT n n hi-fT n 0 lo) s):wpAny (model prog w) A (Builtin.Slice.sliceApplied (.ref sl) (pure (n:Int))) Q E s:=by
 obtain⟨os,hos,hcs,hds⟩:=id hs
 unfold Builtin.Slice.sliceApplied Builtin.Slice.sliceFields
 refine wpAny_bind (wpAny_bind (wpAny_field hos hds (x:=vl) rfl (wpAny_bind (wpAny_field hos hds (x:=vu) rfl (wpAny_bind (wpAny_field hos hds (x:=.none) rfl (wpAny_pure ?_)))))))
 refine wpAny_bind (slicePart_none ?_)
 show wpAny _ _ (if((1:Int)==0)=true then _ else _) _ _ s
 rw[if_neg (by decide)]
 refine wpAny_bind (qL pl (wpAny_bind (qL pu (wpAny_bind (wpAny_pure ?_)))))
 show wpAny _ _ (match Builtin.Slice.sliceAdjust lo hi 1 (n:Int)with|(lo,hi)=>pure (lo,(1:Int),Builtin.Slice.slicePlaces lo hi 1)) _ _ s
 rw[zL lo hi n]
 show wpAny _ _ (pure (((fT n 0 lo:Nat):Int),(1:Int),Builtin.Slice.slicePlaces ((fT n 0 lo:Nat):Int) ((fT n n hi:Nat):Int) 1)) _ _ s
 rw[yS]
 exact wpAny_pure h
theorem Fv(xs:Array Value)(i k:Nat):((List.range k).filterMap λ(m:Nat)=>xs[((i:Int)+(m:Int)*1).toNat]?).toArray=((xs.toList.drop i).take k).toArray:=by
 have e:(λ(m:Nat)=>xs[((i:Int)+(m:Int)*1).toNat]?)=λm=>xs[i+m]? :=by
  funext m
  have:((i:Int)+(m:Int)*1).toNat=i+m:=by lia
  rw[this]
 rw[e]
 have:=pick_run xs i k
 rw[List.filterMap_map]at this
 have e2:((λx=>xs[x]?)∘λx=>i+x)=λm=>xs[i+m]? :=rfl
 rw[e2]at this
 rw[this]
theorem mY{t sl:Addr}{items:Array Value}{vl vu:Value}{lo hi:Option Int}{Q:Value->Shared->Prop}(ht:IsTup s.heap t items)(hs:s.heap.IsSliceOf sl vl vu .none)(pl:IsPart vl lo)(pu:IsPart vu hi)
  (hw:¬(fT items.size 0 lo=0/\fT items.size items.size hi=items.size))
  (h:Q (.ref s.heap.objs.size) {s with heap:=s.heap.push {cls:=.type "tuple",data:=.seq ((items.toList.drop (fT items.size 0 lo)).take (fT items.size items.size hi-fT items.size 0 lo)).toArray} })
  (hsz:items.size<=sizeLine):wpAny (model prog w) A (getItem (.ref t) (.ref sl)) Q E s:=by
 have Bm:sizeOk (.seq ((items.toList.drop (fT items.size 0 lo)).take (fT items.size items.size hi-fT items.size 0 lo)).toArray):=by
  show((items.toList.drop (fT items.size 0 lo)).take (fT items.size items.size hi-fT items.size 0 lo)).toArray.size<=sizeLine
  rw[List.size_toArray,List.length_take,List.length_drop,Array.length_toList]
  lia
 have hj:fT items.size items.size hi<=items.size:=Ml _ _ (Nat.le_refl _) hi
 obtain⟨os,hos,hcs,hds⟩:=id hs
 have hTs:s.TypeIs (.ref sl) "slice":=⟨os,hos,hcs⟩
 unfold getItem
 try with_reducible refine wpAny_holding ?_
 first|refine wpAny_bind (wpAny_pure ?_)|skip
 refine wpAny_bind (wpAny_sequenceKey ht.typeIs (by decide) ?_)
 refine wpAny_bind (wpAny_callSpecial?_slot (name:=Str.ofString "__getitem__") ht.typeIs PyProof.Rows.slot_tuple_getitem
  (wpAny_call_entry PyProof.Rows.slot_tuple_getitem ht.typeIs entry_tuple_getitem ?_ (args_tuple_getitem _ _)))
 show wpAny _ _ (Builtin.Tuple.tupleItemsOf (.ref t) >>= _) _ _ s
 refine wpAny_bind (tupleItemsOf_ ht ?_)
 refine wpAny_bind (wpAny_typeOf hTs ?_)
 rw[if_pos (by decide)]
 refine wpAny_bind (nN hs pl pu ?_)
 have hno:¬((((fT items.size 0 lo:Nat):Int)==0&&(1:Int)==1&&(fT items.size items.size hi-fT items.size 0 lo)==items.size)=true):=by
  intro q
  rw[Bool.and_eq_true,Bool.and_eq_true]at q
  have q1:((fT items.size 0 lo:Nat):Int)=0:=eq_of_beq q.1.1
  have q2:fT items.size items.size hi-fT items.size 0 lo=items.size:=eq_of_beq q.2
  exact hw ⟨by lia,by lia⟩
 show wpAny _ _ (if(((fT items.size 0 lo:Nat):Int)==0&&(1:Int)==1&&(fT items.size items.size hi-fT items.size 0 lo)==items.size)=true then _ else _) _ _ s
 rw[if_neg hno,Fv]
 first
  |exact wpAny_bind (m:=Builtin.Tuple.tupleExact _) (wpAny_newObj_type (wpAny_pure ⟨_,rfl,wpAny_pure h⟩) Bm)
  |exact wpAny_bind (m:=Builtin.Tuple.tupleExact _) (wpAny_newObj_type (wpAny_bind (wpAny_pure (wpAny_pure ⟨_,rfl,wpAny_pure h⟩))) Bm)
  |exact wpAny_bind (wpAny_bind (m:=Builtin.Tuple.tupleExact _) (wpAny_newObj_type (wpAny_pure (wpAny_pure ⟨_,rfl,wpAny_pure h⟩)) Bm))
  |exact wpAny_bind (wpAny_bind (m:=Builtin.Tuple.tupleExact _) (wpAny_newObj_type (wpAny_pure ⟨_,rfl,wpAny_pure h⟩) Bm))
end
end HT
namespace L2
open PySem PySem.Spec PyProof.Rows
abbrev TO:=St->Hp->(Option Int->Hp->Prop)->Prop
def PO(X:Cx)(e:Option Expr)(t:TO):Prop:=
 ∀(pins:List (Addr×Obj))(s:Shared)(σ:St)(H:Hp)(Q:Option Int->Hp->Prop),Inv X pins σ H s->t σ H Q->
  wpAny (model X.prog X.w) X.A (evalPart e X.env) (λu s'=>∃o H',Inv X pins σ H' s'/\IsPart u o/\Q o H') X.xe s
def HX:TO:=λ_ H Q=>Q none H
inductive DW(Q:Option Int->Hp->Prop)(x:V)(H1:Hp):Prop
 |mk(i:_):(x=.int i)->(Q (some i) H1)->DW Q x H1
def PU(t:TE):TO:=λσ H Q=>t σ H λx H1=>DW Q x H1
theorem intsAre_of{ns:List Int}:∀{us:List Value},Vals (ns.map V.int) us->IntsAre us ns:=by
 induction ns with
 |nil=>intro us r;rw[List.map_nil]at r;cases r;exact .nil
 |cons n ns ih=>
  intro us r
  rw[List.map_cons]at r
  cases r with
  |cons r1 r2=>
   obtain⟨t,e⟩:=r1
   subst e
   exact .cons n t (ih r2)
section
variable {X:Cx} {e:Expr} {te:TE} {lo hi:Option Expr} {tl th:TO} {pos p2:Pos}
theorem AQ:PO X none HX:=by
 intro pins s σ H Q I h
 rw[evalPart_none]
 exact wpAny_pure ⟨none,H,I,.none,h⟩
theorem qz(h:PE X e te):PO X (some e) (PU te):=by
 intro pins s σ H Q I hw
 rw[evalPart_some]
 refine dI (h pins s σ H _ I hw) λu s1 ⟨x,H1,I1,r1,q1⟩=>?_
 obtain⟨i,rfl,q⟩:=q1
 obtain⟨t,rfl⟩:=r1
 exact⟨some i,H1,I1,.int i t,q⟩
def Va(X:Cx)(r:V->Option Int->Option Int->Hp->VK->Prop):Prop:=
 ∀(pins:List (Addr×Obj))(s:Shared)(σ:St)(H:Hp)(x:V)(v vl vu:Value)(lo hi:Option Int)(sl:Addr)(Q:VK),Inv X pins σ H s->RelV x v->s.heap.IsSliceOf sl vl vu .none->IsPart vl lo->IsPart vu hi->r x lo hi H Q->
  ∃T id,typeLookup (.type T) "__getitem__"=pure (some (.builtin id))/\s.TypeIs v T/\wpAny (model X.prog X.w) X.A (getItem v (.ref sl)) (EP X pins σ Q) X.xe s
def tSl(r:V->Option Int->Option Int->Hp->VK->Prop)(te:TE)(tl th:TO):TE:=λσ H Q=>te σ H λx H1=>tl σ H1 λl H2=>th σ H2 λu H3=>r x l u H3 Q
theorem qP{r:V->Option Int->Option Int->Hp->VK->Prop}(hr:Va X r)(he:PE X e te)(hl:PO X lo tl)(hu:PO X hi th):PE X (.Subscript e (.Slice lo hi none p2) pos) (tSl r te tl th):=by
 intro pins s σ H Q I h
 refine Subscript_ (dI (he pins s σ H _ I h) λv s1 ⟨x,H1,I1,r1,q1⟩=>?_)
 refine wpAny_Slice (dI (hl pins s1 σ H1 _ I1 q1) λvl s2 ⟨l,H2,I2,pl,q2⟩=>dI (hu pins s2 σ H2 _ I2 q2) λvu s3 ⟨u,H3,I3,pu,q3⟩=>?_)
 rw[evalPart_none]
 refine wpAny_pure ?_
 have I4:Inv X pins σ H3 {s3 with heap:=s3.heap.push {cls:=.type "slice",data:=.fields #[vl,vu,.none]} }:=I3.kept (t':=s3.toks) λb ob q=>Heap.get?_push_of_some _ q
 obtain⟨T,id,hT,ht,hg⟩:=hr pins {s3 with heap:=s3.heap.push {cls:=.type "slice",data:=.fields #[vl,vu,.none]} } σ H3 x v vl vu l u s3.heap.objs.size Q I4 r1 (Heap.IsSliceOf.new ..) pl pu q3
 show wpAny (model X.prog X.w) X.A (subscriptTail e (.Slice lo hi none p2) v (.ref s3.heap.objs.size)) (EP X pins σ Q) X.xe {s3 with heap:=s3.heap.push {cls:=.type "slice",data:=.fields #[vl,vu,.none]} }
 exact tail_any (ops:=[.ref s3.heap.objs.size,v]) ht hT hg (by with_unfolding_all rfl)
def oQ(xs:List V)(lo hi:Option Int):List V:=(xs.drop (HT.fT xs.length 0 lo)).take (HT.fT xs.length xs.length hi-HT.fT xs.length 0 lo)
theorem pU(xs:List V)(lo hi:Option Int):(oQ xs lo hi).length<=xs.length:=by
 unfold oQ
 rw[List.length_take,List.length_drop]
 lia
inductive KJ(K:Fg7)(x:V)(lo:Option Int)(hi:Option Int)(H:Hp)(Q:VK):Prop
 |mk(a:_)(xs:_):(x=.ref a)->(bu K H a xs)->(¬(HT.fT xs.length 0 lo=0/\HT.fT xs.length xs.length hi=xs.length))->(∀p,H p=none->Q (.ref p) (upd H p (.tup (oQ xs lo hi))))->KJ K x lo hi H Q
def V_(K:Fg7):V->Option Int->Option Int->Hp->VK->Prop:=λx lo hi H Q=>KJ K x lo hi H Q
theorem ED:Va X (V_ X.K):=by
 intro pins s σ H x v vl vu lo hi sl Q I rx hs pl pu h
 obtain⟨a,xs,rfl,hx,hw,q⟩:=h
 cases rx
 obtain⟨its,r,ht,hz⟩:=I.tuple hx
 have hlen:its.toArray.size=xs.length:=by rw[List.size_toArray];exact r.length.symm
 refine⟨"tuple",_,PyProof.Rows.slot_tuple_getitem.lookup,ht.typeIs,?_⟩
 refine HT.mY ht hs pl pu (by rw[hlen];exact hw) ?_ (by rw[hlen];exact hz)
 rw[hlen]
 refine⟨.ref s.heap.objs.size,_,I.laid (t':=s.toks) (o:=.tup (oQ xs lo hi)) (λb ob q=>Heap.get?_push_of_some _ q) (Nat.le_refl _) ?_,rfl,q _ (I.hok.fresh (Nat.le_refl _))⟩
 exact⟨Nat.le_trans (pU xs lo hi) hz,_,(r.drop (HT.fT xs.length 0 lo)).take (HT.fT xs.length xs.length hi-HT.fT xs.length 0 lo),IsTup.new _ _⟩
inductive Fo(K:Fg7)(x:V)(y:V)(H:Hp)(Q:VK):Prop
 |mk(a:_)(b:_)(xs:_)(ys:_):(x=.ref a)->(y=.ref b)->(bu K H a xs)->(bu K H b ys)->(xs≠[])->(xs.length+ys.length<=sizeLine)->((ys=[]->Q (.ref a) H))->((ys≠[]->∀p,H p=none->Q (.ref p) (upd H p (.tup (xs++ys)))))->Fo K x y H Q
def KY(K:Fg7):R2:=λx y H Q=>Fo K x y H Q
theorem Vals.uX{xs:List V}{us:List Value}(r:Vals xs us):us=[]↔xs=[]:=by
 cases r with
 |nil=>simp
 |cons _ _=>simp
theorem IK:iR X (binaryOp .Add) (KY X.K):=by
 intro pins s σ H x y v u Q I rx ry h
 obtain⟨a,b,xs,ys,rfl,rfl,ha,hb,hx,hz,q1,q2⟩:=h
 cases rx
 cases ry
 obtain⟨its,r1,p1,_⟩:=I.tuple ha
 obtain⟨its2,r2,p2,_⟩:=I.tuple hb
 refine HT.JI p1 p2 (λz=>hx (r1.uX.mp z)) (λz=>⟨.ref a,H,I,rfl,q1 (r2.uX.mp z)⟩) (λz=>?_) (by rw[←r1.length,←r2.length];exact hz)
 refine⟨.ref s.heap.objs.size,_,I.laid (t':=s.toks) (o:=.tup (xs++ys)) (λb ob q=>Heap.get?_push_of_some _ q) (Nat.le_refl _) ?_,rfl,q2 (λw=>z (r2.uX.mpr w)) _ (I.hok.fresh (Nat.le_refl _))⟩
 exact⟨by rw[List.length_append];exact hz,_,r1.append r2,IsTup.new _ _⟩
end
def Gs(n:Nat)(i:Int):Option Nat:=if 0<=i then(if i<n then some i.toNat else none)else if -(n:Int)<=i then some (i+n).toNat else none
def yr{α:Type}(xs:List α)(i:Int):Option α:=(Gs xs.length i).bind λj=>xs[j]?
theorem Bh{n:Nat}{i:Int}{j:Nat}(h:Gs n i=some j):seqIndex? i n=some j/\j<n/\-(n:Int)<=i/\i<n:=by
 unfold Gs at h
 by_cases h0:0<=i
 ·rw[if_pos h0]at h
  by_cases h1:i<n
  ·rw[if_pos h1]at h
   have e:i.toNat=j:=Option.some.inj h
   exact⟨by rw[seqIndex_of h0 h1,e],by lia,by lia,h1⟩
  ·rw[if_neg h1]at h;cases h
 ·rw[if_neg h0]at h
  by_cases h1: -(n:Int)<=i
  ·rw[if_pos h1]at h
   have e:(i+n).toNat=j:=Option.some.inj h
   exact⟨by rw[seqIndex_neg LI h1,e],by lia,h1,by lia⟩
  ·rw[if_neg h1]at h;cases h
theorem vB{α:Type}{xs:List α}{i:Int}{v:α}(h:yr xs i=some v):∃j,seqIndex? i xs.length=some j/\xs[j]? = some v/\j<xs.length/\-(xs.length:Int)<=i/\i<xs.length:=by
 unfold yr at h
 cases e:Gs xs.length i with
 |none=>rw[e]at h;cases h
 |some j=>
  rw[e]at h
  obtain⟨h1,h2,h3,h4⟩:=Bh e
  exact⟨j,h1,h,h2,h3,h4⟩
theorem fR{α:Type}{xs:List α}{j:Nat}{v:α}(h:xs[j]? = some v):yr xs (j:Int)=some v:=by
 have hj:j<xs.length:=(List.getElem?_eq_some_iff.mp h).1
 have e:Gs xs.length (j:Int)=some j:=by
  unfold Gs
  rw[if_pos LI,if_pos LI];simp
 unfold yr;rw[e];exact h
theorem nu{α:Type}(xs:List α)(v:α):yr (xs++[v]) (-1)=some v:=by
 have hl:(xs++[v]).length=xs.length+1:=by simp
 have e:Gs (xs++[v]).length (-1)=some xs.length:=by
  unfold Gs
  rw[hl,if_neg (by decide),if_pos LI]
  congr 1
  lia
 unfold yr
 rw[e]
 show(xs++[v])[xs.length]? = some v
 simp
def JQ(b:Expr):Prop:=∀o i,subscripted b false o i=operate [o,i] (getItem o i)
def Hv(X:Cx)(r:R2):Prop:=
 ∀(value slice:Expr)(pins:List (Addr×Obj))(s:Shared)(σ:St)(H:Hp)(x y:V)(v u:Value)(Q:VK),Inv X pins σ H s->RelV x v->RelV y u->r x y H Q->
  subscripted slice false v u=operate [v,u] (getItem v u)->wpAny (model X.prog X.w) X.A (subscriptTail value slice v u) (EP X pins σ Q) X.xe s
def Yw(X:Cx)(id:String)(r:V->List V->Hp->VK->Prop):Prop:=
 ∀(pins:List (Addr×Obj))(s:Shared)(σ:St)(H:Hp)(x:V)(xs:List V)(v:Value)(us:List Value)(Q:VK),Inv X pins σ H s->RelV x v->Vals xs us->r x xs H Q->
  wpAny (model X.prog X.w) X.A (call (.builtin id) (v::us)) (EP X pins σ Q) X.xe s
section
variable {X:Cx} {a b:Expr} {ta tb:TE} {pos:Pos}
theorem Hv.or{r r':R2}(h:Hv X r)(h':Hv X r'):Hv X (λx y H Q=>r x y H Q\/r' x y H Q):=by
 intro value slice pins s σ H x y v u Q I rx ry q hs
 rcases q with q|q
 ·exact h value slice pins s σ H x y v u Q I rx ry q hs
 ·exact h' value slice pins s σ H x y v u Q I rx ry q hs
theorem aH{r:R2}(hr:Hv X r)(ha:PE X a ta)(hb:PE X b tb)(hs:JQ b):PE X (.Subscript a b pos) (OS r ta tb):=by
 intro pins s σ H Q I h
 exact Subscript_ (OD ha hb I h λv u s2 x y H2 I2 rx ry q=>hr a b pins s2 σ H2 x y v u Q I2 rx ry q (hs _ _))
inductive KS(K:Fg7)(x:V)(y:V)(H:Hp)(Q:VK):Prop
 |mk(p:_)(xs:_)(i:_)(v:_):(x=.ref p)->(y=.int i)->(br K H p xs)->(yr xs i=some v)->(Q v H)->KS K x y H Q
def Qz(K:Fg7):R2:=λx y H Q=>KS K x y H Q
inductive KQ(K:Fg7)(x:V)(y:V)(H:Hp)(Q:VK):Prop
 |mk(p:_)(xs:_)(i:_)(v:_):(x=.ref p)->(y=.int i)->(bu K H p xs)->(yr xs i=some v)->(Q v H)->KQ K x y H Q
def Mp(K:Fg7):R2:=λx y H Q=>KQ K x y H Q
inductive KR(x:V)(y:V)(H:Hp)(Q:VK):Prop
 |mk(z:_)(i:_)(c:_):(x=.str z)->(y=.int i)->(z.length<=sizeLine)->(yr z.cps.toList i=some c)->(Q (.str ⟨#[c]⟩) H)->KR x y H Q
def Qy:R2:=λx y H Q=>KR x y H Q
theorem cj:Hv X (Qz X.K):=by
 intro value slice pins s σ H x y v u Q I rx ry h hs
 obtain⟨p,xs,i,z,rfl,rfl,hq,he,q⟩:=h
 cases rx
 obtain⟨t,rfl⟩:=ry
 obtain⟨its,r,pl,hz⟩:=I.list hq
 obtain⟨j,h1,h2,h3,h4,h5⟩:=vB he
 obtain⟨w,ew,rw'⟩:=r.get h2
 have hl:=r.length
 have hn:=qZ
 have fin:EP X pins σ Q w s:=⟨z,H,I,rw',q⟩
 by_cases h0:0<=i
 ·have hj:i.toNat=j:=by
   rw[seqIndex_of h0 h5]at h1
   exact Option.some.inj h1
  exact item_listR pl.isList h0 LI (by rw[hj];simpa using ew) fin hs
 ·have hj:(i+(its.toArray.size:Int)).toNat=j:=by
   rw[seqIndex_neg LI h4]at h1
   rw[List.size_toArray,←hl]
   exact Option.some.inj h1
  exact subscriptTail_builtinR (x:=w) pl.isList.typeIs slot_list_getitem.lookup
   (wpAny_getItem_list_neg (Q:=λr s'=>r=w/\EP X pins σ Q r s') pl.isList LI (by rw[List.size_toArray]<;>lia) LI (by rw[hj];simpa using ew) ⟨rfl,fin⟩) hs
theorem a_:Hv X (Mp X.K):=by
 intro value slice pins s σ H x y v u Q I rx ry h hs
 obtain⟨p,xs,i,z,rfl,rfl,hq,he,q⟩:=h
 cases rx
 obtain⟨t,rfl⟩:=ry
 obtain⟨its,r,pl,hz⟩:=I.tuple hq
 obtain⟨j,h1,h2,h3,h4,h5⟩:=vB he
 obtain⟨w,ew,rw'⟩:=r.get h2
 have hl:=r.length
 have hn:=qZ
 have fin:EP X pins σ Q w s:=⟨z,H,I,rw',q⟩
 exact subscriptTail_builtinR (x:=w) pl.typeIs slot_tuple_getitem.lookup
  (getItem_tuple (j:=j) (Q:=λr s'=>r=w/\EP X pins σ Q r s') pl LI LI (by rw[List.size_toArray,←hl];exact h1) (by simpa using ew) ⟨rfl,fin⟩) hs
theorem Nx:Hv X Qy:=by
 intro value slice pins s σ H x y v u Q I rx ry h hs
 obtain⟨z,i,c,rfl,rfl,hz,he,q⟩:=h
 obtain⟨t,rfl⟩:=rx
 obtain⟨t',rfl⟩:=ry
 obtain⟨j,h1,h2,h3,h4,h5⟩:=vB he
 have hl:z.cps.toList.length=z.length:=by simp[Str.length]
 rw[hl]at h1 h4 h5
 have hn:=qZ
 exact tail_any (typeIs_str s z t) slot_str_getitem.lookup (getItem_str (c:=c) (by
  have e1:decide (i < -(2^63:Int))=false:=decide_eq_false LI
  have e2:decide (i≥2^63)=false:=decide_eq_false LI
  rw[e1,e2,Bool.or_false]) (by rw[h1];simpa using h2) ⟨.str ⟨#[c]⟩,H,I.tok _,⟨_,rfl⟩,q⟩) hs
def rIx(K:Fg7):R2:=λx y H Q=>Qz K x y H Q\/Mp K x y H Q\/Qy x y H Q
theorem Gq:Hv X (rIx X.K):=cj.or (a_.or Nx)
theorem zd(its:List Value)(n j:Nat)(u:Value):Obj.mapSeq (·.setIfInBounds j u) {cls:=.type "list",data:=.seq its.toArray n}={cls:=.type "list",data:=.seq (its.set j u).toArray n}:=by
 simp[Obj.mapSeq]
theorem Inv.lst{pins:List (Addr×Obj)}{σ:St}{H:Hp}{s:Shared}{p:Addr}{xs:List V}(I:Inv X pins σ H s)(h:H p=some (.lst xs)):
  ∃(its:List Value) (n:Nat),Vals xs its/\s.heap.get? p=some {cls:=.type "list",data:=.seq its.toArray n}/\xs.length<=sizeLine:=by
 obtain⟨z,its,n,r,e⟩:=I.hok p _ h
 exact⟨its,n,r,e,z⟩
theorem Inv.MQ{pins:List (Addr×Obj)}{σ:St}{H:Hp}{s:Shared}{p:Addr}{xs ys:List V}{its its':List Value}{n n':Nat}{f:Obj->Obj}(I:Inv X pins σ H s)(h:H p=some (.lst xs))
  (ho:s.heap.get? p=some {cls:=.type "list",data:=.seq its.toArray n})(hf:f {cls:=.type "list",data:=.seq its.toArray n}={cls:=.type "list",data:=.seq its'.toArray n'})(r:Vals ys its')(hz:ys.length<=sizeLine)(t:Nat):
  Inv X pins σ (upd H p (.lst ys)) {s with heap:=s.heap.update p f,toks:=t}:=by
 have e:(s.heap.update p f).get? p=some {cls:=.type "list",data:=.seq its'.toArray n'}:=by
  rw[Heap.get?_update_self f ho (by rw[hf]<;>rfl),hf]
 refine I.write (x:=p) (e:=p) (by rw[h];trivial) (.inl rfl) (λb u hb q=>(Heap.get?_update_other _ _ (Ne.symm hb)).trans q) ⟨_,e⟩ ?_
 exact⟨hz,its',n',r,e⟩
inductive Fe(o:V)(i:V)(v:V)(H:Hp)(Q:(Hp->Prop)):Prop
 |mk(p:_)(xs:_)(k:_)(j:_):(o=.ref p)->(i=.int k)->(H p=some (.lst xs))->(Gs xs.length k=some j)->(Q (upd H p (.lst (xs.set j v))))->Fe o i v H Q
def Qw:V->V->V->Hp->(Hp->Prop)->Prop:=λo i v H Q=>Fe o i v H Q
theorem set_list:OI X Qw:=by
 intro pins s σ H o i v ov iv u Q I ro ri rv h
 obtain⟨p,xs,k,j,rfl,rfl,hp,hj,q⟩:=h
 cases ro
 obtain⟨t,rfl⟩:=ri
 obtain⟨its,n,r,ho,hz⟩:=I.lst hp
 obtain⟨h1,h2,h3,h4⟩:=Bh hj
 have hl:=r.length
 have hn:=qZ
 have I':Inv X pins σ (upd H p (.lst (xs.set j v))) {s with heap:=s.heap.update p (Obj.mapSeq (·.setIfInBounds j u))}:=
  I.MQ hp ho (zd its n j u) (r.set rv j) (by rw[List.length_set];exact hz) s.toks
 by_cases h0:0<=k
 ·have hk:k.toNat=j:=by
   rw[seqIndex_of h0 h4]at h1
   exact Option.some.inj h1
  exact PySem.W.ki_setAt ho h0 LI (by rw[List.size_toArray,←hl];exact h4) (by rw[hk];exact⟨_,I',q⟩)
 ·have hk:(k+(its.toArray.size:Int)).toNat=j:=by
   rw[seqIndex_neg LI h3]at h1
   rw[List.size_toArray,←hl]
   exact Option.some.inj h1
  exact PySem.W.ki_setBack ho LI (by rw[List.size_toArray,←hl];exact h3) LI (by rw[hk];exact⟨_,I',q⟩)
theorem uJ(lo hi:Option Int)(n:Nat):(sliceBounds lo hi none n).1=((HT.fT n 0 lo:Nat):Int)/\(sliceBounds lo hi none n).2.1=((HT.fT n n hi:Nat):Int)/\(sliceBounds lo hi none n).2.2=1:=by
 refine⟨?_,?_,rfl⟩
 ·cases lo with
  |none=>simp[sliceBounds,HT.fT]
  |some i=>
   simp only[sliceBounds,HT.fT,Option.getD_none,show(1:Int)>0 by decide,if_true]
   by_cases h:i<0
   ·simp only[h,if_true]<;>lia
   ·simp only[h,if_false]<;>lia
 ·cases hi with
  |none=>simp[sliceBounds,HT.fT]
  |some i=>
   simp only[sliceBounds,HT.fT,Option.getD_none,show(1:Int)>0 by decide,if_true]
   by_cases h:i<0
   ·simp only[h,if_true]<;>lia
   ·simp only[h,if_false]<;>lia
theorem sC(its:List Value)(lo hi:Option Int):slicePick its.toArray lo hi none=((its.drop (HT.fT its.length 0 lo)).take (HT.fT its.length its.length hi-HT.fT its.length 0 lo)).toArray:=by
 obtain⟨h1,h2,h3⟩:=uJ lo hi its.toArray.size
 unfold slicePick
 rw[h1,h2,h3]
 simp only[sliceRange_one,pick_run,List.size_toArray]<;>rfl
inductive KL(K:Fg7)(x:V)(lo:Option Int)(hi:Option Int)(H:Hp)(Q:VK):Prop
 |mk(a:_)(xs:_):(x=.ref a)->(br K H a xs)->(∀p,H p=none->Q (.ref p) (upd H p (.lst (oQ xs lo hi))))->KL K x lo hi H Q
def Wa(K:Fg7):V->Option Int->Option Int->Hp->VK->Prop:=λx lo hi H Q=>KL K x lo hi H Q
theorem Ih:Va X (Wa X.K):=by
 intro pins s σ H x v vl vu lo hi sl Q I rx hs pl pu h
 obtain⟨a,xs,rfl,hx,q⟩:=h
 cases rx
 obtain⟨its,r,ht,hz⟩:=I.list hx
 have hlen:=r.length
 refine⟨"list",_,slot_list_getitem.lookup,ht.isList.typeIs,?_⟩
 refine wpAny_getItem_list_slice ht.isList hs pl pu .none (by simp) ?_ (by rw[List.size_toArray]<;>lia)
 rw[sC,←hlen]
 refine⟨.ref s.heap.objs.size,_,I.laid (t':=s.toks) (o:=.lst (oQ xs lo hi)) (λb ob q=>Heap.get?_push_of_some _ q) (Nat.le_refl _) ?_,rfl,q _ (I.hok.fresh (Nat.le_refl _))⟩
 exact⟨Nat.le_trans (pU xs lo hi) hz,_,0,(r.drop (HT.fT xs.length 0 lo)).take (HT.fT xs.length xs.length hi-HT.fT xs.length 0 lo),Heap.get?_push_size _ rfl⟩
theorem aX:iM X (.builtin "len") (λxs H Q=>∃p ys,xs=[.ref p]/\(br X.K H p ys\/bu X.K H p ys)/\Q (.int ys.length) H):=by
 intro pins s σ H xs us Q I r h
 obtain⟨p,ys,rfl,hq,q⟩:=h
 obtain⟨u,rfl,rx⟩:=vals1 r
 cases rx
 have hn:=qZ
 rcases hq with hq|hq
 ·obtain⟨its,r',pl,hz⟩:=I.list hq
  have hlen:=r'.length
  exact Calls.call_len_list pl.isList (by simp only[List.size_toArray]<;>lia) ⟨.int ys.length,H,I.tok _,⟨s.toks+1,by rw[List.size_toArray,hlen]⟩,q⟩
 ·obtain⟨its,r',pl,hz⟩:=I.tuple hq
  have hlen:=r'.length
  exact len_tuple pl (by simp only[List.size_toArray]<;>lia) ⟨.int ys.length,H,I.tok _,⟨s.toks+1,by rw[List.size_toArray,hlen]⟩,q⟩
theorem eX:iM X (.type "list") (λxs H Q=>∃p ys,xs=[.ref p]/\(br X.K H p ys\/bu X.K H p ys)/\∀l,H l=none->Q (.ref l) (upd H l (.lst ys))):=by
 intro pins s σ H xs us Q I r h
 obtain⟨p,ys,rfl,hq,q⟩:=h
 obtain⟨u,rfl,rx⟩:=vals1 r
 cases rx
 have fin:∀(its:List Value),Vals ys its->ys.length<=sizeLine->∀(h':Heap)(c':Nat),(∀b o',s.heap.get? b=some o'->h'.get? b=some o')->
   h'.get? s.heap.objs.size=some {cls:=.type "list",dict:=none,data:=.seq its.toArray c',slots:= #[]}->EP X pins σ Q (.ref s.heap.objs.size) {s with heap:=h'}:=λits r' hz h' c' kp e=>
  ⟨.ref s.heap.objs.size,_,I.laid (t':=s.toks) kp (Nat.le_refl _) (show cC X.prog X.w _ h' _ (.lst ys)from⟨hz,its,c',r',e⟩),rfl,q _ (I.hok.fresh (Nat.le_refl _))⟩
 rcases hq with hq|hq
 ·obtain⟨its,r',pl,hz⟩:=I.list hq
  have hlen:=r'.length
  obtain⟨o,ho,hc,n,hd⟩:=pl.isList
  exact call_list_seq p (.inl rfl) ho hc hd (λh' c' kp e=>fin its r' hz h' c' kp e) (by simp only[List.size_toArray]<;>lia)
 ·obtain⟨its,r',pl,hz⟩:=I.tuple hq
  have hlen:=r'.length
  obtain⟨o,ho,hc,n,hd⟩:=pl
  exact call_list_seq p (.inr rfl) ho hc hd (λh' c' kp e=>fin its r' hz h' c' kp e) (by simp only[List.size_toArray]<;>lia)
def Vp(K:Fg7)(T:String)(x:V)(H:Hp):Prop:=match x with
 |.str _=>T="str"
 |.int _=>T="int"
 |.ref p=>(T="list"/\∃xs,br K H p xs)\/(T="tuple"/\∃o,K.lookup p=some o/\o.cls=.type "tuple"/\o.dict=none)\/
   (T="dict"/\((∃kvs,H p=some (.dK kvs))\/∃kvs,H p=some (.dT kvs)))\/(T="set"/\∃S n,H p=some (.set S n))
 |_=>False
theorem DN{pins:List (Addr×Obj)}{σ:St}{H:Hp}{s:Shared}{T:String}{x:V}{v:Value}(I:Inv X pins σ H s)(r:RelV x v)(ty:Vp X.K T x H):
  s.TypeIs v T/\∀a,v=.ref a->∃ob,s.heap.get? a=some ob/\ob.dict=none:=by
 cases x with
 |str z=>
  obtain⟨t,rfl⟩:=r
  cases(show T="str" from ty)
  exact⟨typeIs_str s z t,λ_ e=>nomatch e⟩
 |int i=>
  obtain⟨t,rfl⟩:=r
  cases(show T="int" from ty)
  exact⟨typeIs_int s i t,λ_ e=>nomatch e⟩
 |ref p=>
  cases r
  rcases ty with⟨rfl,xs,hq⟩|⟨rfl,o,hk,hc,hd⟩|⟨rfl,hk⟩|⟨rfl,S,n,hk⟩
  ·obtain⟨its,_,pl,_⟩:=I.list hq
   refine⟨pl.isList.typeIs,λa e=>?_⟩
   cases e
   obtain⟨o,n,e,c,hd,_⟩:=pl
   exact⟨o,e,hd⟩
  ·refine⟨⟨o,I.mX p o hk,hc⟩,λa e=>?_⟩
   cases e
   exact⟨o,I.mX _ o hk,hd⟩
  ·have z:∃o,s.heap.get? p=some o/\o.ExactDict:=by
    rcases hk with⟨kvs,hk⟩|⟨kvs,hk⟩
    ·obtain⟨_,_,_,_,o,_,_,e,ex,_⟩:=I.hok p _ hk
     exact⟨o,e,ex⟩
    ·obtain⟨_,_,_,_,o,_,_,e,ex,_⟩:=I.hok p _ hk
     exact⟨o,e,ex⟩
   obtain⟨o,e,ex⟩:=z
   refine⟨⟨o,e,ex.1⟩,λa e2=>?_⟩
   cases e2
   exact⟨o,e,ex.2.1⟩
  ·obtain⟨o,_,_,_,e,ex,_⟩:=I.hok p _ hk
   refine⟨⟨o,e,ex.1⟩,λa e2=>?_⟩
   cases e2
   exact⟨o,e,ex.2.1⟩
 |_=>exact False.elim ty
def VC(K:Fg7)(T:String)(r:V->List V->Hp->VK->Prop)(to:TE):TE:=λσ H Q=>to σ H λx H1=>Vp K T x H1/\r x [] H1 Q
def tBM(K:Fg7)(T:String)(r:V->List V->Hp->VK->Prop)(to:TE)(t:TA):TE:=λσ H Q=>to σ H λx H1=>Vp K T x H1/\t σ H1 λxs H2=>r x xs H2 Q
variable {o e:Expr} {es:List Expr} {to:TE} {t:TA} {name:Str} {apos cpos:Pos} {T id:String} {r:V->List V->Hp->VK->Prop}
theorem FG(pa:PlainAttrs T)(slot:Slot T name id)(hty:typeOf (.builtin id)=pure (.type "method_descriptor"))(hm:Yw X id r)(ho:PE X o to)
  (hbase:attributeBase o name X.env (eval o X.env)=eval o X.env:=by rfl)(hline:(apos.endLine==cpos.line)=true:=by rfl):PE X (.Call (.Attribute o name apos) [] [] cpos) (VC X.K T r to):=by
 intro pins s σ H Q I h
 refine wpAny_Call_method0_late hbase hline (dI (ho pins s σ H _ I h) λv s1 ⟨x,H1,I1,r1,ty,q1⟩=>?_)
 obtain⟨h1,h2⟩:=DN I1 r1 ty
 exact⟨T,id,pa,slot,hty,h1,h2,Calls.callWith_builtin rfl (PySem.evalArgs_none (hm pins s1 σ H1 x [] v [] Q I1 r1 .nil q1))⟩
theorem jJ(pa:PlainAttrs T)(slot:Slot T name id)(hty:typeOf (.builtin id)=pure (.type "method_descriptor"))(hm:Yw X id r)(ho:PE X o to)(ha:PA X (e::es) t)
  (hbase:attributeBase o name X.env (eval o X.env)=eval o X.env:=by rfl)
  (hfew:((backTo cpos (starEach (e::es) X.env)).all (λx=> !x.1)&&(backToKw cpos (keywordEach [] X.env)).all (λx=>x.1.isSome)
   && decide ((e::es).length+([]:List Keyword).length+(if([]:List Keyword).isEmpty then 0 else 1)<30))=true:=by rfl)
  (hline:(apos.endLine==cpos.line)=true:=by rfl)(hs:starEach (e::es) X.env=(false,eval e X.env)::starEach es X.env:=by rfl)(hplain:(backTo cpos (starEach es X.env)).any (·.1)=false:=by rfl):
  PE X (.Call (.Attribute o name apos) (e::es) [] cpos) (tBM X.K T r to t):=by
 intro pins s σ H Q I h
 refine wpAny_Call_method_late hbase hfew hline rfl (dI (ho pins s σ H _ I h) λv s1 ⟨x,H1,I1,r1,ty,q1⟩=>?_)
 obtain⟨h1,h2⟩:=DN I1 r1 ty
 refine⟨T,id,pa,slot,hty,h1,h2,?_⟩
 have hA:=ha cpos pins s1 σ H1 _ I1 q1
 rw[hs]at hA ⊢
 refine Calls.callWith_builtin (by show(false||(backTo cpos (starEach es X.env)).any (·.1))=false;rw[hplain]<;>rfl) (Calls.evalArgs_plain ?_)
 exact dI hA λus s2 ⟨vs,H2,I2,r2,q2⟩=>hm pins s2 σ H2 x vs v us Q I2 r1 r2 q2
/- xs.append(e),list.index on a Q_ tuple .. are Yw facts of 06m -/
end
def MtM(X:Cx)(id:String)(r:V->List V->Hp->VK->Prop):Prop:=
 ∀(pins:List (Addr×Obj))(s:Shared)(σ:St)(H:Hp)(x:V)(xs:List V)(v:Value)(us:List Value)(Q:VK),Inv X pins σ H s->RelV x v->Vals xs us->r x xs H Q->
  wpAny (model X.prog X.w) X.A (call (.builtin id) (v::us)) (EP X pins σ Q) X.xe s
theorem Vals.one:∀{x:V}{us:List Value},Vals [x] us->∃u,us=[u]/\RelV x u
 |_,_,.cons r .nil=>⟨_,rfl,r⟩
section
variable {X:Cx} {pins:List (Addr×Obj)} {σ:St} {H:Hp} {s:Shared} {l b:Addr} {xs ys zs:List V}
theorem Inv.WI{its its':List Value}{n:Nat}{f:Array Value->Array Value}{t':Nat}(I:Inv X pins σ H s)(hH:H l=some (.lst xs))
  (e:s.heap.get? l=some {cls:=.type "list",data:=.seq its.toArray n})(hf:f its.toArray=its'.toArray)(hv:Vals ys its')(hz:ys.length<=sizeLine):
  Inv X pins σ (upd H l (.lst ys)) {s with heap:=s.heap.update l (Obj.mapSeq f),toks:=t'}:=by
 have q:=PySem.IsL.update e f
 rw[hf]at q
 refine I.write (x:=l) (e:=l) (by rw[hH];exact trivial) (.inl rfl) (λb' u hb hu=>(Heap.get?_update_other s.heap (Obj.mapSeq f) (Ne.symm hb)).trans hu) ⟨_,q⟩ ?_
 exact⟨hz,its',_,hv,q⟩
theorem Inv.Rl{its:List Value}{t':Nat}(I:Inv X pins σ H s)(hv:Vals ys its)(hz:ys.length<=sizeLine):
  Inv X pins σ (upd H s.heap.objs.size (.lst ys)) {s with heap:=s.heap.push {cls:=.type "list",data:=.seq its.toArray},toks:=t'}:=
 I.laid (λ_ _ q=>Heap.get?_push_of_some _ q) (Nat.le_refl _) ⟨hz,its,0,hv,Heap.get?_push_size _ rfl⟩
theorem Inv.fresh(I:Inv X pins σ H s):H s.heap.objs.size=none:=I.hok.fresh (Nat.le_refl _)
theorem Inv.MR(I:Inv X pins σ H s)(hH:H l=some (.lst xs)):xs.length<=sizeLine/\∃(its:List Value) (n:Nat),Vals xs its/\xs.length=its.length/\s.heap.get? l=some {cls:=.type "list",data:=.seq its.toArray n}:=by
 obtain⟨z,its,n,r,e⟩:=I.hok l _ hH
 exact⟨z,its,n,r,r.length,e⟩
end
section
variable {X:Cx}
inductive wR(x:V)(vs:List V)(H:Hp)(Q:VK):Prop
 |mk(l:_)(xs:_)(y:_):(x=.ref l)->(vs=[y])->(H l=some (.lst xs))->(xs.length<sizeLine)->(Q .eN (upd H l (.lst (xs++[y]))))->wR x vs H Q
def Ir:V->List V->Hp->VK->Prop:=λx vs H Q=>wR x vs H Q
theorem dw:MtM X "list.append" Ir:=by
 intro pins s σ H x vs v us Q I rx rv h
 obtain⟨l,xs,y,rfl,rfl,hH,hz,q⟩:=h
 cases rx
 obtain⟨u,rfl,ru⟩:=rv.one
 obtain⟨z,its,n,r,hl,e⟩:=I.MR hH
 refine call_meets F.slot_list_append ⟨_,e,rfl⟩ F.entry_list_append (F.args_list_append_2 _ _) (PySem.list_append l its.toArray n u (by rw[List.size_toArray];lia)) ⟨e,?_⟩
 refine⟨.eN,_,I.WI (its':=its++[u]) hH e (by simp) (r.append (.cons ru .nil)) ?_,rfl,q⟩
 rw[List.length_append,List.length_singleton]
 lia
inductive KZ(x:V)(y:V)(H:Hp)(Q:VK):Prop
 |mk(l:_)(b:_)(xs:_)(zs:_):(x=.ref l)->(y=.ref b)->(H l=some (.lst xs))->(H b=some (.lst zs))->(xs.length+zs.length<=sizeLine)->(∀p,H p=none->Q (.ref p) (upd H p (.lst (xs++zs))))->KZ x y H Q
def Wf:R2:=λx y H Q=>KZ x y H Q
theorem uV:iR X (binaryOp .Add) Wf:=by
 intro pins s σ H x y v u Q I rx ry h
 obtain⟨l,b,xs,zs,rfl,rfl,hH,hB,hz,q⟩:=h
 cases rx
 cases ry
 obtain⟨z,its,n,r,hl,e⟩:=I.MR hH
 obtain⟨z2,its2,n2,r2,hl2,e2⟩:=I.MR hB
 refine PySem.P.add_list e e2 ?_ (by rw[List.size_toArray,List.size_toArray];lia)
 have ea:its.toArray++its2.toArray=(its++its2).toArray:=by simp
 rw[ea]
 exact⟨.ref _,_,I.Rl (t':=s.toks) (r.append r2) (by rw[List.length_append];lia),rfl,q _ I.fresh⟩
end
section
variable {prog:Program} {w:World} {A:Around} {E:Value->Shared->Prop} {s:Shared}
end
section
variable {X:Cx}
end
end L2
namespace Att
open PySem PySem.W PySem.Calls PyProof.Rows
theorem qe{P:Params}{h:Heap}:∀(ns:List Int)(vs:List Value),WellAll P h vs (ns.map WData.int)->IntsAre vs ns:=by
 intro ns
 induction ns with
 |nil=>
  intro vs w
  rw[List.map_nil]at w
  cases w
  exact .nil
 |cons n ns ih=>
  intro vs w
  rw[List.map_cons]at w
  cases w with
  |cons a b=>
   cases a
   exact .cons _ _ (ih _ b)
theorem BR{l:OpenLaw}{n:Nat}(hn:l.most=some n){P:Params}{h:Heap}{args:List WData}{vals:List Value}
  (hpre:l.row.toRowW.claim.pre args=true)(hwl:WellAll P h vals args):
  ∃a vs ns,vals=[Value.ref a]/\args=[WData.list (ns.map WData.int)]/\h.get? a=some {cls:=.type "list",data:=.seq vs.toArray}/\IntsAre vs ns/\ns.length<=n:=by
 have hsh:WShape.hasAll [] args [.list .int]=true:=(pre_splitW hpre).1
 have hc:l.pre.holds [] {args:=args}=true:=(pre_splitW hpre).2
 obtain⟨d,r,rfl,h1,h2⟩:=hasAllW_cons hsh
 obtain rfl:=hasAllW_nil h2
 obtain⟨xs,rfl,h3⟩:=hasW_list h1
 obtain⟨ns,rfl⟩:=items_int h3
 have hlen:ns.length<=n:=by
  unfold OpenLaw.pre at hc
  have h4:(WTm.not (.lt (.lit (.int (n:Int))) (.len (.arg 0)))).holds [] {args:=[.list (ns.map .int)]}=true:=by
   have h4:=(holds_andW hc).1
   rw[hn]at h4
   exact h4
  have h5:=condW_of h4 (w_not (w_lt w_lit (w_len_list (w_arg rfl))))
  rw[List.length_map]at h5
  refine Nat.le_of_not_lt λq=>?_
  have q':(n:Int)<((ns.length:Nat):Int):=by lia
  first
   |(rw[decide_eq_true q']at h5;exact absurd h5 (by decide))
   |(simp at h5;lia)
 cases hwl with
 |cons w1 w2=>
  cases w2
  cases w1 with
  |list ho hall=>exact⟨_,_,ns,rfl,rfl,ho,qe ns _ hall,hlen⟩
theorem B_(l:OpenLaw)(args:List WData):l.row.toRowW.claim.post args (.bool true) args=true:=
 postW_of (r:=l.row.toRowW) (X:=(true==true))
  (show WShape.has [] (.bool true) .bool=true by first|rfl|decide|simp[WShape.has,WShape.arms,WShape.armsAll])
  (show(WTm.eq .res (.lit (.bool true))).value [] {args:=args,res:=some (.bool true),after:=args}=some (.bool (true==true))from w_eq_bool (w_res rfl) w_lit) rfl
theorem x_{l:OpenLaw}{n:Nat}{q:Program}{loose:List Str}{XP:(Str->Option Value)->Heap->Prop}{YP:World->Heap->Prop}{d:DefRec}
  (hn:l.most=some n)(hdf:d.params.defaults=[])
  (call:∀(w:World)(s₀ s₁:Shared)(mg mb:Str->Option Value)(fa:Addr)(o:Obj)(pm cd doc:Value)(a:Addr)(vs:List Value)(ns:List Int),
   Ground q loose [] XP w s₀ mg mb s₁.heap->YP w s₁.heap->
   s₁.heap.get? fa=some o->o.data=.func (docDef d.name d.params d.body d.scope pm cd doc)->s₁.heap.CodeRec cd d.name->mg d.name=some (.ref fa)->
   s₁.heap.get? a=some {cls:=.type "list",data:=.seq vs.toArray}->IntsAre vs ns->ns.length<=n->s₁.gens= #[]->
   codeAny (model l.prog w) callerA (.call (.ref fa) ⟨[.ref a],[]⟩) (λr s'=>r=.ok (.ret (.bool true))/\OldK s₁.heap s'.heap/\s'.os=s₁.os/\AllBare s'.gens) s₁):
  WalkO q loose XP YP l.row.toRowW d [] (λf vs=>PySem.call f vs):=by
 intro w s₀ s₁ mg mb G Y fa o pm cd doc dV kV ho hd hcd hD hmg hg args vals as hpre hlay hrd hwl hlo
 obtain rfl:dV=.none:=Dflts.none hD hdf
 obtain rfl:kV=.none:=Dflts.noKw hD
 obtain⟨a,vs,ns,rfl,rfl,hobj,hints,hlen⟩:=BR hn hpre hwl
 refine enter_call (codeAny_mono (call w s₀ s₁ mg mb fa o pm cd doc a vs ns G Y ho (fd_plain hd) hcd hmg hobj hints hlen hg) λr s' hq=>?_)
 obtain⟨rfl,h2,h3,h4⟩:=hq
 exact⟨.inl ⟨.bool true,.bool true,[],rfl,λ_=>rfl,.bool true,B_ l _,λ_=>⟨List.Pairwise.nil,λ_ hm=>(nomatch hm)⟩⟩,h2,h3,h4⟩
section
variable {prog:Program} {w:World} {A:Around} {E:Value->Shared->Prop} {s:Shared} {K:Frag}
end
end Att
namespace L2
open PySem PySem.Spec PyProof.Rows
theorem sW:∀{vs:List Value}{ns:List Int},IntsAre vs ns->Vals (ns.map V.int) vs
 |_,_,.nil=>.nil
 |_,_,.cons n t h=>.cons ⟨t,rfl⟩ (sW h)
def inClass(s:Stmt)(j:Nat):Stmt:=match s with
 |.ClassDef _ _ _ body _ _ _ _ _ _ _=>body.getD j (.Pass ⟨0,0,0,0⟩)
 |_=>.Pass ⟨0,0,0,0⟩
def aI(s:Stmt):Arguments:=match s with
 |.FunctionDef _ a _ _ _ _ _ _ _ _=>a
 |_=>{posonlyargs:=[],args:=[],vararg:=none,kwonlyargs:=[],kw_defaults:=[],kwarg:=none,defaults:=[]}
def aE(s:Stmt):List Stmt:=match s with
 |.FunctionDef _ _ b _ _ _ _ _ _ _=>b
 |_=>[]
def ao(s:Stmt):Scope:=match s with
 |.FunctionDef _ _ _ _ _ _ sc _ _ _=>sc
 |_=>{kind:=.function,names:=[],isGenerator:=false,isCoroutine:=false}
abbrev iS:Ds:=λ_ _ _ _ _ _=>False
abbrev E0:XK:=λ_ _ _=>False
theorem fK{X:Cx}:Passes iS X E0:=λ_ _ _ _ _ _ _ h=>h.elim
structure Ui(K:Fg7)(x qual:Str)(st:Stmt)(f:Addr)(fd:FuncData):Prop where
 ex:∃(oc:Value) (od:Option Addr) (kV doc pm:Value) (an:Option Addr) (cdv ct:Value) (osl:Array (Option Value)),
  fd=PySem.W.fnOf x qual (aI st) (aE st) (ao st) .none kV doc pm an cdv ct/\K.lookup f=some ⟨oc,od,.func fd,osl⟩/\PySem.W.codeIn K cdv qual=true
 kp:PySem.W.keepIn K (.ref f)=true
section
variable {P:Program} {w:World} {K:Fg7} {mg:Str->Option Value} {base:Heap}
theorem Ui.ok{x qual:Str}{st:Stmt}{f:Addr}{fd:FuncData}{N ps:List Str}{k:Nat}{sp:Sp}(F:Ui K x qual st f fd)(S:aP N ps (ao st))(len:∀vs H Q E,sp vs H Q E->vs.length=ps.length)
  (hbody:∀(cdv:Value)(A:Around)(outer:List Env)(s:Shared)(H:Hp)(vs:List V)(Q:VK)(E:XK),dS k (A.deeper (envOfC qual (ao st) s.heap.objs.size f cdv))->sp vs H Q E->
   ∃t,vN (qf iS P w K mg base N qual (ao st) f cdv A outer s H E).HE (aE st) t/\t {nx:=λ_ H'=>Q .eN H',rt:=Q} (start N vs) H):nB P w K mg base iS (k+1) f fd ps sp:=by
 obtain⟨oc,od,kV,doc,pm,an,cdv,ct,osl,rfl,lk,hcd⟩:=F.ex
 refine LH lk hcd S len λA outer s H vs Q E hr yp=>?_
 obtain⟨t,h,q⟩:=hbody cdv A outer s H vs Q E hr yp
 exact⟨t,h.HE,q⟩
theorem GH{x qual:Str}{st:Stmt}{f:Addr}{oc:Value}{od an:Option Addr}{osl:Array (Option Value)}{kV doc pm cdv ct:Value}(l:K.lookup f=some ⟨oc,od,.func (PySem.W.fnOf x qual (aI st) (aE st) (ao st) .none kV doc pm an cdv ct),osl⟩)
  (c:PySem.W.codeIn K cdv qual=true)(k:PySem.W.keepIn K (.ref f)=true):Ui K x qual st f (PySem.W.fnOf x qual (aI st) (aE st) (ao st) .none kV doc pm an cdv ct):=⟨⟨oc,od,kV,doc,pm,an,cdv,ct,osl,rfl,l,c⟩,k⟩
end
theorem uc{A:Around}{k:Nat}(hr:dS k A):A.units+1<cLine:=Nat.lt_of_le_of_lt (Nat.add_le_add_left (by decide:1<=64) _) hr.units
theorem BP{n:Nat}(h:n<=1000):n<sizeLine:=Nat.lt_of_le_of_lt h (by decide)
section
variable {X:Cx}
theorem pv(i:Nat){x:Str}{pos:Pos}(hN:X.N[i]? = some x:=by rfl)(hv:U_ X.env.scope x:=by first|exact Or.inl rfl|exact Or.inr (Or.inl rfl)|exact Or.inr (Or.inr rfl))(hd:(x==("__debug__":Str))=false:=by decide)
  (hcd:(x==("__classdict__":Str))=false:=by decide):PE X (.Name x pos) (DR i):=MB hN hv hd hcd
end
theorem CD{A B:Prop}(h:B):if false=true then A else B:=by
 rw[if_neg Bool.false_ne_true]
 exact h
theorem Jd{A B:Prop}(h:A):if true=true then A else B:=by
 rw[if_pos rfl]
 exact h
theorem aO{c A B:Prop}[Decidable c](h1:c->A)(h2:¬c->B):if c then A else B:=by
 by_cases h:c
 ·rw[if_pos h]
  exact h1 h
 ·rw[if_neg h]
  exact h2 h
def aA(H H':Hp):Prop:=∀b o,H b=some o->H' b=some o
theorem aA.refl(H:Hp):aA H H:=λ_ _ h=>h
theorem aA.trans{H H1 H2:Hp}(a:aA H H1)(b:aA H1 H2):aA H H2:=λc o h=>b c o (a c o h)
theorem aA.free{H H':Hp}(e:aA H H'){l:Addr}(h:H' l=Option.none):H l=Option.none:=by
 cases q:H l with
 |none=>rfl
 |some o=>
  rw[e l o q]at h
  cases h
theorem aA.seq{K:Fg7}{H H':Hp}{a:Addr}{xs:List V}(e:aA H H')(h:br K H a xs):br K H' a xs:=by
 rcases h with(h|⟨o,h⟩)|h
 ·exact .inl (.inl (e _ _ h))
 ·exact .inl (.inr ⟨o,e _ _ h⟩)
 ·exact .inr h
theorem aF:bootBuiltins "isinstance"=some (.builtin "isinstance"):=DK
theorem eT:bootBuiltins "len"=some (.builtin "len"):=DK
theorem OC:bootBuiltins "max"=some (.builtin "max"):=DK
theorem OB:bootBuiltins "min"=some (.builtin "min"):=DK
theorem gY:bootBuiltins "sorted"=some (.builtin "sorted"):=DK
theorem Oz:bootBuiltins "sum"=some (.builtin "sum"):=DK
theorem qG:bootBuiltins "bool"=some (.type "bool"):=DK
theorem JK:bootBuiltins "dict"=some (.type "dict"):=DK
theorem zC:bootBuiltins "int"=some (.type "int"):=DK
theorem dR:bootBuiltins "list"=some (.type "list"):=DK
theorem OA:bootBuiltins "set"=some (.type "set"):=DK
theorem rH:bootBuiltins "str"=some (.type "str"):=DK
theorem jS:bootBuiltins "tuple"=some (.type "tuple"):=DK
theorem Be{n k:Nat}(hk:0<k)(h:n<2^k):n.log2<k:=by
 rcases Nat.eq_zero_or_pos n with e|e
 ·subst e
  have:Nat.log2 0=0:=by decide
  lia
 ·exact(Nat.log2_lt (Nat.ne_of_gt e)).mpr h
def zO(i:Int):Prop:= -(10^100)<i/\i<10^100
set_option exponentiation.threshold 500 in
theorem zO.nat{i:Int}(h:zO i):i.natAbs<2^400:=by
 have h1: -(10^100:Int)<i:=h.1
 have h2:i<(10^100:Int):=h.2
 have e:(10:Int)^100<2^400:=by decide
 lia
theorem zO.bits{i:Int}(h:zO i):Builtin.Int.intBits i<=2^20:=by
 unfold Builtin.Int.intBits
 split
 ·exact Nat.zero_le _
 ·have:=Be (by decide) h.nat
  lia
theorem zO.QM{i j:Int}(h:zO j):Builtin.divisionGoesByPylong i j=false:=
 PyProof.noPylong_of_log2 (Nat.lt_trans (Be (by decide) h.nat) (by decide))
section
variable {X:Cx}
theorem IJ:iR X (binaryOp .Mult) (rI (λi j=>zO i/\zO j) λi j=>.int (i*j)):=Uw λ_ _ _ _ _ _ _ hc q=>mul_int q (.of_bits hc.1.bits hc.2.bits)
theorem FJ:iR X (binaryOp .FloorDiv) (rI (λ_ j=>0<j/\zO j) λi j=>.int (i/j)):=Uw λi j _ _ _ _ _ hc q=>by
 have h1:(0:Int)<j:=hc.1
 exact floordiv_int LI (by rw[Int.fdiv_eq_ediv_of_nonneg i LI];exact q) (.inl hc.2.QM)
end
def Hw(lo st:Int)(n:Nat):It:=⟨λi _=>i<n,λi H x H'=>H'=H/\x=.int (lo+i*st),λi _=>n<=i⟩
theorem vR{P:Program}{w:World}{K:Fg7}{tg:Expr}(it:Addr)(lo st:Int)(n:Nat):Turn P w K tg (Hw lo st n) [it] it (λi h=>IsRangeIter h it (lo+(i:Nat)*st) ((n:Int)-(i:Nat)) st)where
 mem:=by simp
 obj:=λi h st b hb=>by
  have e:b=it:=by simpa using hb
  subst e
  exact⟨_,st,λv z=>by
   have z':Data.fields _=Data.cell v:=z
   cases z'⟩
 keep:=λi h h' st k=>k it (by simp) _ st
 item:=by
  intro X hP hw hK hc i pins s σ H E I hf st' hg
  subst hP hw hK
  obtain⟨f0,f1,f2,f3,f4,f5⟩:=hf it (by simp)
  have W:=Walks.range (prog:=X.prog) (w:=X.w) (I.ok.hd hc) it lo st n
  refine W.item i s _ _ hg st' λv h' tk hv st'' kk=>?_
  obtain⟨t,rfl⟩:=hv
  have I1:Inv X pins σ H {s with heap:=h',toks:=tk}:=I.turned (λb o hb e=>kk b o (by simpa using hb) e) f0 f1 f3 f4 f5
  exact⟨_,rfl,ud (s:={s with heap:=h',toks:=tk}) (n:="range_iterator") st'' rfl rfl (by decide) ⟨.int (lo+i*st),H,I1,⟨t,rfl⟩,⟨rfl,rfl⟩,st'',λb hb=>(hf b hb).1⟩⟩
 done:=by
  intro X hP hw hK hc i pins s σ H E I hf st' hg
  subst hP hw hK
  obtain⟨f0,f1,f2,f3,f4,f5⟩:=hf it (by simp)
  exact wpAny_pyNext_range_end (I.ok.hd hc) st' (by have:n<=i:=hg;lia) λh' eb=>⟨rfl,I.turned (t':=s.toks) (λb o hb e=>eb b o hb e) f0 f1 f3 f4 f5⟩
 self:=λ_ _ _ _ _ st' h=>wpAny_pyIter_rangeiter st' h
theorem BG{P:Program}{w:World}{K:Fg7}{tg:Expr}(it:Addr)(lo st:Int)(n:Nat):Turn P w K tg (Hw lo st n) [it] it (λi h=>IsLongIter h it (lo+(i:Nat)*st) ((n:Int)-(i:Nat)) st)where
 mem:=by simp
 obj:=λi h st b hb=>by
  have e:b=it:=by simpa using hb
  subst e
  exact⟨_,st,λv z=>by
   have z':Data.fields _=Data.cell v:=z
   cases z'⟩
 keep:=λi h h' st k=>k it (by simp) _ st
 item:=by
  intro X hP hw hK hc i pins s σ H E I hf st' hg
  subst hP hw hK
  obtain⟨f0,f1,f2,f3,f4,f5⟩:=hf it (by simp)
  have W:=Walks.longrange (prog:=X.prog) (w:=X.w) (I.ok.hd hc) it lo st n
  refine W.item i s _ _ hg st' λv h' tk hv st'' kk=>?_
  obtain⟨t,rfl⟩:=hv
  have I1:Inv X pins σ H {s with heap:=h',toks:=tk}:=I.turned (λb o hb e=>kk b o (by simpa using hb) e) f0 f1 f3 f4 f5
  exact⟨_,rfl,ud (s:={s with heap:=h',toks:=tk}) (n:="longrange_iterator") st'' rfl rfl (by decide) ⟨.int (lo+i*st),H,I1,⟨t,rfl⟩,⟨rfl,rfl⟩,st'',λb hb=>(hf b hb).1⟩⟩
 done:=by
  intro X hP hw hK hc i pins s σ H E I hf st' hg
  subst hP hw hK
  obtain⟨f0,f1,f2,f3,f4,f5⟩:=hf it (by simp)
  exact wpAny_pyNext_long_end (I.ok.hd hc) st' (by have:n<=i:=hg;lia) λh' eb=>⟨rfl,I.turned (t':=s.toks) (λb o hb e=>eb b o hb e) f0 f1 f3 f4 f5⟩
 self:=λ_ _ _ _ _ st' h=>wpAny_pyIter_longiter st' h
theorem uP(a b c:Int):0<=Builtin.Range.rangeSize a b c:=by
 unfold Builtin.Range.rangeSize
 split<;>split<;>first|lia|(have:=Int.ediv_nonneg (a:=b-a-1) (b:=c) LI LI;lia)|(have:=Int.ediv_nonneg (a:=a-b-1) (b:= -c) LI LI;lia)
def mG(lo hi st:Int):Nat:=(Builtin.Range.rangeSize lo hi st).toNat
theorem EX(lo hi:Int):mG lo hi 1=(hi-lo).toNat:=by
 unfold mG
 rw[rangeSize_one]
 split<;>lia
section
variable {X:Cx} {tg:Expr}
theorem tS{pins:List (Addr×Obj)}{σ:St}{H:Hp}{s:Shared}{R:It->Hp->Prop}{E:Value->Shared->Prop}{lo hi st:Int}{t u v:Tok}{tk:Nat}(I:Inv X pins σ H s)
  (q:R (Hw lo st (mG lo hi st)) H):wpAny (model X.prog X.w) X.A (pyIter (.ref s.heap.objs.size)) (Vb X pins σ tg R) E {s with heap:=s.heap.push {cls:=.type "range",data:=.fields #[.int lo t,.int hi u,.int st v]},toks:=tk}:=by
 have I1:Inv X pins σ H {s with heap:=s.heap.push {cls:=.type "range",data:=.fields #[.int lo t,.int hi u,.int st v]},toks:=tk}:=I.kept λb o e=>Heap.get?_push_of_some _ e
 have e1:lo+((0:Nat):Int)*st=lo:=by simp
 have e2:((mG lo hi st:Nat):Int)-((0:Nat):Int)=Builtin.Range.rangeSize lo hi st:=by
  have:=uP lo hi st
  unfold mG
  lia
 have fpo:∀b∈[(s.heap.push {cls:=.type "range",data:=.fields #[.int lo t,.int hi u,.int st v]}).objs.size],gm X pins H b:=λb hb=>by
  have e:b=(s.heap.push {cls:=.type "range",data:=.fields #[.int lo t,.int hi u,.int st v]}).objs.size:=by simpa using hb
  subst e
  exact I1.rq (Nat.le_refl _) (I1.hok.fresh (Nat.le_refl _))
 cases hsm:Builtin.Range.small lo hi st with
 |true=>
  refine wpAny_pyIter_range (IsRange.new ..) hsm ?_
  refine⟨(s.heap.push {cls:=.type "range",data:=.fields #[.int lo t,.int hi u,.int st v]}).objs.size,[(s.heap.push {cls:=.type "range",data:=.fields #[.int lo t,.int hi u,.int st v]}).objs.size],_,_,H,rfl,
   I1.kept (t':=tk) λb o e=>Heap.get?_push_of_some _ e,vR _ lo st (mG lo hi st),?_,fpo,q⟩
  show IsRangeIter _ _ (lo+((0:Nat):Int)*st) (((mG lo hi st:Nat):Int)-((0:Nat):Int)) st
  rw[e1,e2]
  exact Heap.get?_push_size _ rfl
 |false=>
  refine wpAny_pyIter_longrange (IsRange.new ..) hsm ?_
  refine⟨(s.heap.push {cls:=.type "range",data:=.fields #[.int lo t,.int hi u,.int st v]}).objs.size,[(s.heap.push {cls:=.type "range",data:=.fields #[.int lo t,.int hi u,.int st v]}).objs.size],_,_,H,rfl,
   I1.kept (t':=tk) λb o e=>Heap.get?_push_of_some _ e,BG _ lo st (mG lo hi st),?_,fpo,q⟩
  show IsLongIter _ _ (lo+((0:Nat):Int)*st) (((mG lo hi st:Nat):Int)-((0:Nat):Int)) st
  rw[e1,e2]
  exact Heap.get?_push_size _ rfl
inductive Bk(R:It->Hp->Prop)(vs:List V)(H1:Hp):Prop
 |mk(i j:Int):(vs=[.int i,.int j])->(R (Hw i 1 (mG i j 1)) H1)->Bk R vs H1
def NB(ta:TA):TI:=λσ H R=>ta σ H λvs H1=>Bk R vs H1
inductive Bj(R:It->Hp->Prop)(vs:List V)(H1:Hp):Prop
 |mk(i j k:Int):(vs=[.int i,.int j,.int k])->((0<k/\zO k))->(R (Hw i k (mG i j k)) H1)->Bj R vs H1
def Nz(ta:TA):TI:=λσ H R=>ta σ H λvs H1=>Bj R vs H1
theorem yU{a b:Expr}{ta:TA}{p pos:Pos}(hg:Gl X "range")(hm:X.mg "range"=none)(ha:PA X [a,b] ta)(hs:starEach [a,b] X.env=[(false,eval a X.env),(false,eval b X.env)]:=by rfl)(hs2:starEach [b] X.env=[(false,eval b X.env)]:=by rfl):
  PI X tg (.Call (.Name "range" p) [a,b] [] pos) (NB ta):=by
 intro pins s σ H R I h
 refine Call_ (jn I hg hm boot_range (PyProof.Rows.callWith_type1 (dI (ha pos pins s σ H _ I h) λus s1 ⟨vs,H1,I1,r1,q1⟩=>?_) (by rw[hs,hs2]) (by rw[hs2];rfl)))
 obtain⟨i,j,e,q⟩:=q1
 subst e
 cases r1 with
 |cons r rr=>
  cases rr with
  |cons r' rr=>
   cases rr
   obtain⟨t,rfl⟩:=r
   obtain⟨t',rfl⟩:=r'
   exact call_range_2 (tS I1 q)
theorem yT{a b c:Expr}{ta:TA}{p pos:Pos}(hg:Gl X "range")(hm:X.mg "range"=none)(ha:PA X [a,b,c] ta)(hs:starEach [a,b,c] X.env=(false,eval a X.env)::starEach [b,c] X.env:=by rfl)
  (hs2:starEach [b,c] X.env=[(false,eval b X.env),(false,eval c X.env)]:=by rfl):
  PI X tg (.Call (.Name "range" p) [a,b,c] [] pos) (Nz ta):=by
 intro pins s σ H R I h
 refine Call_ (jn I hg hm boot_range (PyProof.Rows.callWith_type1 (dI (ha pos pins s σ H _ I h) λus s1 ⟨vs,H1,I1,r1,q1⟩=>?_) hs (by rw[hs2];rfl)))
 obtain⟨i,j,k,e,⟨hk,hf⟩,q⟩:=q1
 subst e
 cases r1 with
 |cons r rr=>
  cases rr with
  |cons r' rr=>
   cases rr with
   |cons r'' rr=>
    cases rr
    obtain⟨t,rfl⟩:=r
    obtain⟨t',rfl⟩:=r'
    obtain⟨t'',rfl⟩:=r''
    exact call_range_3 LI (tS (tk:=s1.toks) I1 q) (.inl hf.QM)
end
theorem zq{lo st:Int}{n:Nat}{g:TG}{tb:TS}{D:Ends}{σ:St}{H:Hp}(Pv:Nat->St->Hp->Prop)(h0:Pv 0 σ H)
  (hs:∀i σ H,i<n->Pv i σ H->g (.int (lo+i*st)) σ H λσ2 H2=>tb {D with nx:=Pv (i+1),ct:=Pv (i+1),bk:=D.nx} σ2 H2)(hd:∀σ H,Pv n σ H->D.nx σ H):
  ∃W:Nat->Nat->St->Hp->Prop,(∃m,W 0 m σ H)/\∀i m σ H,W i m σ H->
   ((Hw lo st n).stop i H/\D.nx σ H)\/((Hw lo st n).go i H/\∃N:St->Hp->Prop,(∀σ' H',N σ' H'->∃m',m'<m/\W (i+1) m' σ' H')/\∀x H',(Hw lo st n).DG i H x H'->g x σ H' λσ2 H2=>tb {D with nx:=N,ct:=N,bk:=D.nx} σ2 H2):=by
 refine⟨λi m σ H=>m=n-i/\i<=n/\Pv i σ H,⟨n,by simp,Nat.zero_le _,h0⟩,?_⟩
 rintro i m σ H ⟨rfl,hi,p⟩
 by_cases hlt:i<n
 ·refine .inr ⟨hlt,Pv (i+1),λσ' H' p'=>⟨n-(i+1),by lia,rfl,hlt,p'⟩,λx H' y=>?_⟩
  obtain⟨e,y⟩:=y
  subst e y
  exact hs i σ _ hlt p
 ·have e:i=n:=by lia
  subst e
  exact .inl ⟨Nat.le_refl _,hd σ H p⟩
theorem jQ{prog:Program}{w:World}{A:Around}{R:Result->Shared->Prop}{s:Shared}{elt target iter:Expr}{ifs:List Expr}{scope:Scope}{pos:Pos}{it acc:Value}{env:Env}(I:Nat->Shared->Prop)
  (turn:∀n s,I n s->wpAny (model prog w) A (pyNext it) (λr s₁=>match r with
   |none=>R (.ok .next) s₁
   |some v=>wpAny (model prog w) A (letOwnedTupleGo target it v) (λ_ s₁'=>wpAny (model prog w) A (assign target env v) (λ_ s₂=>
     wpAny (model prog w) A (forIn ifs true λc r=>if r=true then do let ok ←isTrue c env (eval c env);pure (ForInStep.yield ok)else pure (ForInStep.yield r)) (λok s₃=>
      if ok=true then wpAny (model prog w) A (eval elt env) (λx s₄=>
       wpAny (model prog w) A (call (.builtin "list.append") [acc,x]) (λ_ s₅=>∃m,m<n/\I m s₅) (notedBy (model prog w) A env λe s'=>R (.error e) s') s₄) (notedBy (model prog w) A env λe s'=>R (.error e) s') s₃
      else∃m,m<n/\I m s₃) (notedBy (model prog w) A env λe s'=>R (.error e) s') s₂) (notedBy (model prog w) A env λe s'=>R (.error e) s') s₁') (notedBy (model prog w) A env λe s'=>R (.error e) s') s₁)
   (notedBy (model prog w) A env λe s'=>R (.error e) s') s)
  (n:Nat)(h:I n s):
  codeAny (model prog w) A (.compLoop (.ListComp elt [⟨target,iter,ifs,0⟩] scope pos) 0 it acc env) R s:=by
 refine codeAny_loop rfl I (λn s hI=>?_) n h
 show wpAny _ A ((compTurn (.ListComp elt [⟨target,iter,ifs,0⟩] scope pos) 0 it acc env).onRaise (λx=>do noteFrame x env;theTreesLotGoes x)) _ _ s
 refine wpAny_noted ?_
 rw[compTurn_list]
 refine wpAny_bind (wpAny_standAt (wpAny_bind (wpAny_mono (turn n s hI) (λr s₁ h₁=>?_) λ_ _ h'=>h')))
 cases r with
 |none=>exact wpAny_pure h₁
 |some v=>
  refine wpAny_bind (wpAny_mono h₁ (λ_ s₁' h₁'=>?_) λ_ _ h'=>h')
  refine wpAny_bind (wpAny_mono h₁' (λ_ s₂ h₂=>wpAny_bind (wpAny_mono h₂ (λok s₃ h₃=>?_) λ_ _ h'=>h')) λ_ _ h'=>h')
  cases ok with
  |false=>exact wpAny_pure ⟨rfl,h₃⟩
  |true=>
   exact wpAny_bind (wpAny_bind (wpAny_mono h₃ (λx s₄ h₄=>wpAny_bind (wpAny_mono h₄ (λ_ s₅ h₅=>wpAny_pure (wpAny_pure ⟨rfl,h₅⟩)) λ_ _ h'=>h')) λ_ _ h'=>h'))
def Dg(X:Cx)(ifs:List Expr)(t:TT):Prop:=
 ∀(pins:List (Addr×Obj))(s:Shared)(σ:St)(H:Hp)(Q:Bool->Hp->Prop),Inv X pins σ H s->t σ H Q->
  wpAny (model X.prog X.w) X.A (forIn ifs true λc r=>if r=true then do let ok ←isTrue c X.env (eval c X.env);pure (ForInStep.yield ok)else pure (ForInStep.yield r)) (TP X pins σ Q) X.xe s
def Vu:TT:=λ_ H Q=>Q true H
theorem gP{X:Cx}:Dg X [] Vu:=λ_ _ _ H _ I h=>by
 rw[List.forIn_nil]
 exact wpAny_pure ⟨H,I,h⟩
theorem gx{X:Cx}{c:Expr}{t:TT}(h:PT X c t):Dg X [c] t:=λpins s σ H Q I hw=>wpAny_tests_one (h pins s σ H Q I hw)
def dJ(js:List (Option Nat))(σ:St):St:=js.map λo=>o.bind λj=>(σ[j]?).join
def yb(σ' σ:St):Prop:=σ'.length=σ.length/\∀(i:Nat) v,σ'[i]? = some (some v)->σ[i]? = some (some v)
def D_(wi:TI)(g:TG)(tc:TT)(te:TE)(js:List (Option Nat)):TE:=λσ H Q=>wi σ H λJ H1=>∀D,H1 D=none->∃W:Nat->Nat->List V->Hp->Prop,(∃m,W 0 m [] (upd H1 D (.lst [])))/\
 ∀i m xs H,W i m xs H->H D=some (.lst xs)/\((J.stop i H/\Q (.ref D) H)\/(J.go i H/\∃N:List V->Hp->Prop,(∀ys H',N ys H'->∃m',m'<m/\W (i+1) m' ys H')/\∀x H',J.DG i H x H'->g x (dJ js σ) H' λσ2 H2=>yb (dJ js σ) σ2/\tc σ2 H2 λb H3=>
  if b=true then te σ2 H3 λv H4=>∃ys,H4 D=some (.lst ys)/\ys.length<sizeLine/\N (ys++[v]) (upd H4 D (.lst (ys++[v])))
  else∃ys,N ys H3))
def dP(X:Cx)(pins:List (Addr×Obj))(NY:List Str)(scope:Scope)(cl:List (Str×Addr))(fp:List Addr)(C:Addr)(s:Shared)(H:Hp):Cx:=
 {X with N:=NY,s₀:=s,H₀:=H,env:=compEnvC scope cl C X.env,outer:=X.stack,stack:=X.stack,ex:=fp,fn:=λ_=>false,pn:=X.pn++pins,xe:=λ_ _=>False}
def cD(cells:List (Str×Addr)):List (Str×Addr)->Prop
 |[]=>True
 |p::r=>cells.lookup p.1=some p.2/\cD cells r
theorem cD.get{cells:List (Str×Addr)}:∀{cl:List (Str×Addr)}{y:Str}{c:Addr},cD cells cl->cl.lookup y=some c->cells.lookup y=some c
 |[],_,_,_,h=>by simp at h
 |(n,a)::r,y,c,⟨h1,h2⟩,h=>by
  rw[List.lookup_cons]at h
  cases e:y==n with
  |true=>
   rw[e]at h
   cases h
   rw[beq_iff_eq]at e
   rw[e]
   exact h1
  |false=>
   rw[e]at h
   exact cD.get h2 h
def iG(X:Cx)(scope:Scope):List (Option Nat)->List Str->Prop
 |[],[]=>True
 |none::js,_::N=>iG X scope js N
 |some j::js,x::N=>(X.N[j]? = some x/\scope.names.lookup x=some .free/\X.env.kindOf x≠some .local/\(X.env.kindOf x=some .cell\/X.env.kindOf x=some .free))/\iG X scope js N
 |_,_=>False
theorem iG.len{X:Cx}{scope:Scope}:∀{js:List (Option Nat)}{N:List Str},iG X scope js N->js.length=N.length
 |[],[],_=>rfl
 |none::js,_::N,h=>by
  have h':iG X scope js N:=h
  rw[List.length_cons,List.length_cons,h'.len]
 |some j::js,x::N,h=>by
  have h':iG X scope js N:=h.2
  rw[List.length_cons,List.length_cons,h'.len]
 |[],_::_,h=>h.elim
 |none::_,[],h=>h.elim
 |some _::_,[],h=>h.elim
theorem iG.get{X:Cx}{scope:Scope}:∀{js:List (Option Nat)}{N:List Str}{i j:Nat}{x:Str},iG X scope js N->js[i]? = some (some j)->N[i]? = some x->
  X.N[j]? = some x/\scope.names.lookup x=some .free/\X.env.kindOf x≠some .local/\(X.env.kindOf x=some .cell\/X.env.kindOf x=some .free)
 |[],[],_,_,_,_,e,_=>by simp at e
 |none::js,y::N,0,_,_,_,e,_=>by simp at e
 |none::js,y::N,i+1,_,_,h,e,e'=>iG.get (js:=js) (N:=N) (i:=i) h (by simpa using e) (by simpa using e')
 |some j'::js,y::N,0,_,_,h,e,e'=>by
  simp at e e'
  subst e e'
  exact h.1
 |some j'::js,y::N,i+1,_,_,h,e,e'=>iG.get (js:=js) (N:=N) (i:=i) h.2 (by simpa using e) (by simpa using e')
 |[],_::_,_,_,_,h,_,_=>h.elim
 |none::_,[],_,_,_,h,_,_=>h.elim
 |some _::_,[],_,_,_,h,_,_=>h.elim
theorem gJ{env:Env}:∀{names:List (Str×NameKind)}{x:Str},names.lookup x=some .free->
    ((names.map λ(n,k)=>if(k==NameKind.free&&env.scope.kind == .function&&env.kindOf n==some .cell)then(n,NameKind.cell)else(n,k)).lookup x=some .cell\/
     (names.map λ(n,k)=>if(k==NameKind.free&&env.scope.kind == .function&&env.kindOf n==some .cell)then(n,NameKind.cell)else(n,k)).lookup x=some .free)
  |[],_,h=>by simp at h
  |(n,k)::r,x,h=>by
    have ih:= @gJ env r x
    simp only[List.map_cons]
    cases hx:x==n with
    |true=>
      simp only[List.lookup_cons,hx]at h
      cases h
      by_cases hc:(NameKind.free==NameKind.free&&env.scope.kind == .function&&env.kindOf n==some .cell)=true
      · rw[if_pos hc];simp only[List.lookup_cons,hx];simp
      · rw[if_neg hc];simp only[List.lookup_cons,hx];simp
    |false=>
      simp only[List.lookup_cons,hx]at h
      by_cases hc:(k==NameKind.free&&env.scope.kind == .function&&env.kindOf n==some .cell)=true
      · rw[if_pos hc];simp only[List.lookup_cons,hx];exact ih h
      · rw[if_neg hc];simp only[List.lookup_cons,hx];exact ih h
theorem wQ{env:Env}{scope:Scope}{x:Str}{k:NameKind}(hcell:∀y∈scope.names,y.2≠.cell)(h:(relabel scope env).names.lookup x=some k)(hk:k=.cell\/k=.free):∃y∈scope.names,y.1=x/\y.2=.free:=by
 have hm:=PySem.mem_of_lookup h
 have hm':(x,k)∈scope.names.map λ(n,k)=>if(k==NameKind.free&&env.scope.kind == .function&&env.kindOf n==some .cell)then(n,NameKind.cell)else(n,k):=hm
 obtain⟨⟨n,k'⟩,hy,e⟩:=List.mem_map.mp hm'
 by_cases hc:(k'==NameKind.free&&env.scope.kind == .function&&env.kindOf n==some .cell)=true
 ·have e':(n,NameKind.cell)=(x,k):=by rw[←e];exact(if_pos hc).symm
  injection e' with e1 e2
  have hc2:k'=NameKind.free:=by
   rw[Bool.and_eq_true,Bool.and_eq_true]at hc
   simpa using hc.1.1
  exact⟨(n,k'),hy,e1,hc2⟩
 ·have e':(n,k')=(x,k):=by rw[←e];exact(if_neg hc).symm
  injection e' with e1 e2
  rcases hk with hk|hk
  ·exact absurd (e2.trans hk) (hcell _ hy)
  ·exact⟨(n,k'),hy,e1,e2.trans hk⟩
section
variable {X:Cx}
theorem JG{pins:List (Addr×Obj)}{σ:St}{H:Hp}{s:Shared}{NY:List Str}{scope:Scope}{cl:List (Str×Addr)}{fp:List Addr}(I:Inv X pins σ H s)(hkind:scope.kind=.function)
  (hcell:∀y∈scope.names,y.2≠.cell)(hcl:cD X.env.cells cl)(hfr:∀y∈scope.names,y.2=.free->(cl.lookup y.1).isSome=true)(hf:∀b∈fp,gm X pins H b)(ho:∀b∈fp,∃o,s.heap.get? b=some o):
  (dP X pins NY scope cl fp s.heap.objs.size s H).Ok where
 mod:=I.ok.mod
 kind:=hkind
 glob:=I.ok.glob
 blt:=I.ok.blt
 above:=Nat.le_refl _
 inj:=λx y c h1 h2=>I.ok.inj x y c (hcl.get h1) (hcl.get h2)
 has:=λx hx=>by
  have h:∃k,(relabel scope X.env).names.lookup x=some k/\(k=.cell\/k=.free):=by
   rcases hx with hx|hx
   ·exact⟨_,hx,.inl rfl⟩
   ·exact⟨_,hx,.inr rfl⟩
  obtain⟨k,h1,h2⟩:=h
  obtain⟨y,hy,e1,e2⟩:=wQ hcell h1 h2
  have:=hfr y hy e2
  rw[e1]at this
  exact Option.isSome_iff_exists.mp this
 Pn:=λx c h=>absurd h Bool.false_ne_true
 hd:=I.ok.hd
 frames:=I.ok.frames
 stk:=.inl rfl
 UU:=λb hb=>by
  obtain⟨f0,f1,f2,f3,f4,f5⟩:=hf b hb
  obtain⟨o,e⟩:=ho b hb
  exact⟨Nat.ne_of_lt (Heap.lt_size e),λx c h=>f4 x c (hcl.get h)⟩
 bs:=I.bs
 Hj:=Nat.le_trans I.ok.Hj I.sz
 Cg:=λb o e hb=>by
  obtain⟨f0,f1,f2,f3,f4,f5⟩:=hf b hb
  rcases f3 with z|z
  ·exact I.ok.Cg b o e z
  ·exact absurd (Nat.lt_of_lt_of_le (Heap.lt_size e) (Nat.le_trans I.ok.Hj z)) (Nat.lt_irrefl _)
 CP:=λb hb hfs=>by
  obtain⟨f0,f1,f2,f3,f4,f5⟩:=hf b hb
  rcases List.mem_cons.mp (I.uD b hfs)with z|z
  ·exact f1 z
  ·exact f2 z
 oO:=I.stack
 LG:=I.uE
theorem tH{js:List (Option Nat)}{σ:St}{i:Nat}{v:V}(h:(dJ js σ)[i]? = some (some v)):∃j,js[i]? = some (some j)/\σ[j]? = some (some v):=by
 unfold dJ at h
 rw[List.getElem?_map]at h
 cases e:js[i]? with
 |none=>rw[e]at h;cases h
 |some o=>
  rw[e]at h
  have h':(o.bind λj=>(σ[j]?).join)=some v:=Option.some.inj h
  cases o with
  |none=>cases h'
  |some j=>
   have h'':(σ[j]?).join=some v:=h'
   refine⟨j,rfl,?_⟩
   cases e2:σ[j]? with
   |none=>rw[e2]at h'';cases h''
   |some w=>
    rw[e2]at h''
    cases w with
    |none=>cases h''
    |some u=>
     have:u=v:=Option.some.inj h''
     rw[this]
theorem G_{pins:List (Addr×Obj)}{σ:St}{H:Hp}{s:Shared}{h':Heap}{NY:List Str}{js:List (Option Nat)}{scope:Scope}{cl:List (Str×Addr)}{fp:List Addr}{t':Nat}{m':Str->Option Value}(I:Inv X pins σ H s)(hkind:scope.kind=.function)
  (hcell:∀y∈scope.names,y.2≠.cell)(hcl:cD X.env.cells cl)(hfr:∀y∈scope.names,y.2=.free->(cl.lookup y.1).isSome=true)(Lz:iG X scope js NY)(hf:∀b∈fp,gm X pins H b)(ho:∀b∈fp,∃o,s.heap.get? b=some o)
  (hk:∀b o,s.heap.get? b=some o->h'.get? b=some o)(hn:h'.Ns s.heap.objs.size m'):
  Inv (dP X pins NY scope cl fp s.heap.objs.size s H) [] (dJ js σ) H {s with heap:=h',toks:=t'}where
 ok:=JG I hkind hcell hcl hfr hf ho
 os:=rfl
 bare:=I.bare
 base:=Un.kept hk
 loc:=by
  obtain⟨m,hnX,hl⟩:=I.loc
  refine⟨m',hn,λi x v e1 e2 e3=>?_⟩
  obtain⟨j,ej,ev⟩:=tH e2
  obtain⟨a1,a2,a3,a4⟩:=Lz.get ej e1
  have vis:U_ X.env.scope x:=by
   rcases a4 with a4|a4
   ·exact .inr (.inl a4)
   ·exact .inr (.inr a4)
  obtain⟨u,ru,lk⟩:=hl j x v a1 ev vis
  refine⟨u,ru,?_⟩
  rcases lk with⟨k,_⟩|⟨_,c,ec,hc⟩
  ·exact absurd k a3
  ·have h1:∃c',cl.lookup x=some c':=by
    have:=hfr (x,.free) (PySem.mem_of_lookup a2) rfl
    exact Option.isSome_iff_exists.mp this
   obtain⟨c',ec'⟩:=h1
   have e4:=hcl.get ec'
   rw[ec]at e4
   cases e4
   refine .inr ⟨?_,c,ec',?_⟩
   ·exact gJ a2
   ·obtain⟨o,h1,h2⟩:=hc
    exact⟨o,hk _ _ h1,h2⟩
 cell:=λx c e=>by
  obtain⟨v,o,h1,h2⟩:=I.cell x c (hcl.get e)
  exact⟨v,o,hk _ _ h1,h2⟩
 free:=I.hok.fresh (Nat.le_refl _)
 gK:=λx c e=>I.gK x c (hcl.get e)
 pin:=λp hp=>by
  have sE:p∈(X.pn++pins)++[]:=hp
  rw[List.append_nil]at sE
  obtain⟨a1,a2,a3,a4,a5⟩:=I.pin p sE
  refine⟨hk _ _ a1,a2,Nat.ne_of_lt (Heap.lt_size a1),λz=>?_,a5⟩
  rcases List.mem_cons.mp (I.uD p.1 z)with z|z
  ·exact a3 z
  ·exact a4 z
 hok:=I.hok.kept hk
 len:=by
  show(js.map _).length=NY.length
  rw[List.length_map]
  exact Lz.len
theorem xU{use:Option (Value->Sem Unit)}{R:Value->Shared->Prop}{Q:VK}{pins:List (Addr×Obj)}{s:Shared}{σ:St}{H:Hp}{elt tgt iter:Expr}{ifs:List Expr}{scope:Scope}{cl:List (Str×Addr)}{pos cpos:Pos}{wi:TI}{g:TG}{tc:TT}{te:TE}{NY:List Str}{js:List (Option Nat)}(hc:X.calm=true)(hkind:scope.kind=.function)(hclos:closureFor scope X.env=pure cl)(hcl:cD X.env.cells cl)(Lz:iG X scope js NY)(hi:PI X tgt iter wi)
  (hb:∀pins fp C s H,PG (dP X pins NY scope cl fp C s H) tgt g/\Dg (dP X pins NY scope cl fp C s H) ifs tc/\PE (dP X pins NY scope cl fp C s H) elt te)
  (hcell:∀y∈scope.names,y.2≠.cell)(hnames:∀y∈scope.names,y.2=.local->scope.names.lookup y.1=some .local)(GC:(scope.names.all λy=> !(y.2 == .free)||(cl.lookup y.1).isSome)=true)(hs:∀x,foldedSetIterable iter X.env x=pure x)
  (fin:∀(D C:Addr)(s6:Shared)(H5:Hp),Inv X pins σ H5 s6->gm X pins H5 C->(∃m,s6.heap.Ns C m)->Q (.ref D) H5->compPost (model X.prog X.w) X.A X.xe use R (.ref D) C (.ok .next) s6)
  (I:Inv X pins σ H s)(h:D_ wi g tc te js σ H Q):wpAny (model X.prog X.w) X.A (comprehension (.ListComp elt [⟨tgt,iter,ifs,0⟩] scope pos) scope X.env cpos (newList []) false (eval iter X.env) use) R X.xe s:=by
 have hfr:∀y∈scope.names,y.2=.free->(cl.lookup y.1).isSome=true:=λy hy e=>by
  have z:=List.all_eq_true.mp GC y hy
  rw[e]at z
  simpa using z
 refine wpAny_comprehension_free (use:=use) (g:=⟨tgt,iter,ifs,0⟩) (gs:=[]) rfl hs hclos hkind hnames (dI (hi pins s σ H _ I h) λv s1 h1=>dI h1 λitv s2 h2=>?_)
 obtain⟨it,fp,tn,J,H2,e,I2,T,st2,f2,q2⟩:=h2
 subst e
 refine wpAny_newObj_type ?_ (by show 0<=sizeLine;exact Nat.zero_le _)
 have nD:H2 s2.heap.objs.size=none:=I2.hok.fresh (Nat.le_refl _)
 obtain⟨W,⟨m0,w0⟩,turn⟩:=q2 s2.heap.objs.size nD
 have I3:Inv X pins σ (upd H2 s2.heap.objs.size (.lst [])) {s2 with heap:=s2.heap.push {cls:=.type "list",data:=.seq ([]:List Value).toArray} }:=I2.Rl (t':=s2.toks) .nil (Nat.zero_le _)
 have UI:∀b o,s2.heap.get? b=some o->(s2.heap.push {cls:=.type "list",data:=.seq ([]:List Value).toArray}).get? b=some o:=λb o e=>Heap.get?_push_of_some _ e
 have Zg:∀b∈fp,∃o,s2.heap.get? b=some o:=λb hb=>let⟨o,e,_⟩:=T.obj _ _ st2 b hb;⟨o,e⟩
 have f3:∀b∈fp,gm X pins (upd H2 s2.heap.objs.size (.lst [])) b:=λb hb=>by
  obtain⟨f0,fr⟩:=f2 b hb
  obtain⟨o,e⟩:=Zg b hb
  exact⟨by rw[ai (Nat.ne_of_lt (Heap.lt_size e))];exact f0,fr⟩
 generalize hs3:({s2 with heap:=s2.heap.push {cls:=.type "list",data:=.seq ([]:List Value).toArray} }:Shared)=s3 at I3
 have RU:s3.heap=s2.heap.push {cls:=.type "list",data:=.seq ([]:List Value).toArray}:=by rw[←hs3]
 have st3:tn 0 s3.heap:=T.keep _ _ _ st2 λb hb o e=>by rw[RU];exact UI b o e
 have ob3:∀b∈fp,∃o,s3.heap.get? b=some o:=λb hb=>by
  obtain⟨o,e⟩:=Zg b hb
  exact⟨o,by rw[RU];exact UI b o e⟩
 refine wpAny_newFunctionEnv hcell (by intro y hy;simp at hy) (λh1 hns UN=>?_) hkind
 have Pa:∀b o,s3.heap.get? b=some o->h1.get? b=some o:=λb o e=>UN.extBut b o (Nat.ne_of_lt (Heap.lt_size e)) (Heap.get?_push_of_some _ e)
 have IY:=G_ (X:=X) (NY:=NY) (js:=js) (scope:=scope) (cl:=cl) (fp:=fp) (t':=s3.toks+([]:List (Str×Value)).length) I3 hkind hcell hcl hfr Lz f3 ob3 Pa hns
 have YJ:tn 0 h1:=T.keep _ _ _ st3 λb _ o e=>Pa b o e
 have yF:∀{pl:List (Addr×Obj)}{H':Hp},(∀b∈fp,H' b=none)->(∀p∈pl,p.1∉fp)->∀b∈fp,gm (dP X pins NY scope cl fp s3.heap.objs.size s3 (upd H2 s2.heap.objs.size (.lst []))) pl H' b:=λ{pl H'} hn hp b hb=>by
  obtain⟨g1,g2⟩:=IY.ok.UU b hb
  refine⟨hn b hb,g1,IY.ok.CP b hb,.inl hb,g2,λp sE=>?_⟩
  rcases List.mem_append.mp sE with z|z
  ·exact(f3 b hb).2.2.2.2.2 p z
  ·intro e
   exact hp p z (e▸hb)
 have loop:∀s4:Shared,s4={s3 with heap:=h1,toks:=s3.toks+([]:List (Str×Value)).length}->
   codeAny (model X.prog X.w) X.A (.compLoop (.ListComp elt [⟨tgt,iter,ifs,0⟩] scope pos) 0 (.ref it) (.ref s2.heap.objs.size) (compEnvC scope cl s3.heap.objs.size X.env))
    (compPost (model X.prog X.w) X.A X.xe use R (.ref s2.heap.objs.size) s3.heap.objs.size) s4:=by
  rintro s4 rfl
  refine jQ (λn s'=>∃i xs H',Inv (dP X pins NY scope cl fp s3.heap.objs.size s3 (upd H2 s2.heap.objs.size (.lst []))) [] (dJ js σ) H' s'/\tn i s'.heap/\(∀b∈fp,H' b=none)/\W i n xs H') ?_ m0
   ⟨0,[],_,IY,YJ,λb hb=>(f3 b hb).1,w0⟩
  rintro n s5 ⟨i,xs,H5,I5,Du,UT,w5⟩
  obtain⟨hD5,alt⟩:=turn i n xs H5 w5
  obtain⟨bG,bI,bE⟩:=hb pins fp s3.heap.objs.size s3 (upd H2 s2.heap.objs.size (.lst []))
  rcases alt with⟨stop,qn⟩|⟨go,N,hN,step⟩
  ·refine wpAny_mono (T.done (dP X pins NY scope cl fp s3.heap.objs.size s3 (upd H2 s2.heap.objs.size (.lst []))) rfl rfl rfl hc i [] s5 (dJ js σ) H5 (λ_ _=>False) I5 (yF UT (by simp)) Du stop) (λr s6 hr=>?_) λ_ _ z=>z.elim
   obtain⟨hr,I6⟩:=hr
   subst hr
   have I7:Inv X pins σ H5 s6:=I3.TJ I6.os I6.base I6.hok I6.bare λb hb=>let⟨_,g1,_,g3,g4,g5⟩:=f3 b hb;⟨g3,g1,g4,g5⟩
   obtain⟨m6,Xo,_⟩:=I6.loc
   exact fin _ _ s6 H5 I7 (I3.rq (b:=s3.heap.objs.size) (Nat.le_refl _) (show H5 s3.heap.objs.size=none from I6.free)) ⟨m6,Xo⟩ qn
  ·refine wpAny_mono (T.item (dP X pins NY scope cl fp s3.heap.objs.size s3 (upd H2 s2.heap.objs.size (.lst []))) rfl rfl rfl hc i [] s5 (dJ js σ) H5 (λ_ _=>False) I5 (yF UT (by simp)) Du go) (λr s6 hr=>?_) λ_ _ z=>z.elim
   obtain⟨u,hr,h6⟩:=hr
   subst hr
   refine wpAny_mono h6 (λ_ s7 h7=>?_) λ_ _ z=>z.elim
   obtain⟨x,H7,I7,r7,y7,VG,fr7⟩:=h7
   have I7':=I7.pinned (yF fr7 (by simp)) (T.obj _ _ VG)
   have back:∀{σ8:St}{H8:Hp}{s8:Shared},Inv (dP X pins NY scope cl fp s3.heap.objs.size s3 (upd H2 s2.heap.objs.size (.lst []))) ([]++kX fp s7.heap) σ8 H8 s8->tn (i+1) s8.heap/\(∀b∈fp,H8 b=none):=λ{σ8 H8 s8} I8=>by
    refine⟨T.keep _ _ _ VG λb hb o e=>(I8.pin (b,o) (List.mem_append_right _ (List.mem_append_right _ (gi hb e)))).1,λb hb=>?_⟩
    obtain⟨o,e,_⟩:=T.obj _ _ VG b hb
    exact(I8.pin (b,o) (List.mem_append_right _ (List.mem_append_right _ (gi hb e)))).2.1
   refine wpAny_mono (bG _ s7 (dJ js σ) H7 x u _ I7' r7 (step x H7 y7)) (λ_ s8 h8=>?_) λ_ _ z=>z.elim
   obtain⟨σ8,H8,I8,wk,q8⟩:=h8
   have forget:∀{H8:Hp}{s8:Shared},Inv (dP X pins NY scope cl fp s3.heap.objs.size s3 (upd H2 s2.heap.objs.size (.lst []))) ([]++kX fp s7.heap) σ8 H8 s8->Inv (dP X pins NY scope cl fp s3.heap.objs.size s3 (upd H2 s2.heap.objs.size (.lst []))) [] (dJ js σ) H8 s8:=λI8=>I8.iV.weak wk.1 wk.2
   refine wpAny_mono (bI _ s8 σ8 H8 _ I8 q8) (λok s9 h9=>?_) λ_ _ z=>z.elim
   obtain⟨H9,I9,q9⟩:=h9
   cases ok with
   |false=>
    rw[if_neg Bool.false_ne_true]at q9 ⊢
    obtain⟨ys,n9⟩:=q9
    obtain⟨m',hm,w9⟩:=hN _ _ n9
    exact⟨m',hm,i+1,ys,H9,forget I9,(back I9).1,(back I9).2,w9⟩
   |true=>
    rw[if_pos rfl]at q9 ⊢
    refine wpAny_mono (bE _ s9 σ8 H9 _ I9 q9) (λxv yP h10=>?_) λ_ _ z=>z.elim
    obtain⟨v,Yy,I10,r10,ys,hD,hz,n10⟩:=h10
    obtain⟨m',hm,w10⟩:=hN _ _ n10
    refine wpAny_mono (dw (X:=dP X pins NY scope cl fp s3.heap.objs.size s3 (upd H2 s2.heap.objs.size (.lst []))) _ yP σ8 Yy (.ref s2.heap.objs.size) [v] _ [xv] (λ_ Ug=>Ug=upd Yy s2.heap.objs.size (.lst (ys++[v]))) I10 rfl (.cons r10 .nil) ⟨_,ys,v,rfl,rfl,hD,hz,rfl⟩) (λ_ s11 h11=>?_) λ_ _ z=>z.elim
    obtain⟨_,Ug,Yx,_,e11⟩:=h11
    subst e11
    exact⟨m',hm,i+1,_,_,forget Yx,(back Yx).1,(back Yx).2,w10⟩
 exact codeAny_compStart_list (loop _ rfl) (T.self _ 0 _ _ _ YJ (loop _ rfl))
theorem eF{elt tgt iter:Expr}{ifs:List Expr}{scope:Scope}{cl:List (Str×Addr)}{pos:Pos}{wi:TI}{g:TG}{tc:TT}{te:TE}{NY:List Str}{js:List (Option Nat)}(hc:X.calm=true)
  (hkind:scope.kind=.function)(hclos:closureFor scope X.env=pure cl)(hcl:cD X.env.cells cl)(Lz:iG X scope js NY)
  (hi:PI X tgt iter wi)
  (hb:∀pins fp C s H,PG (dP X pins NY scope cl fp C s H) tgt g/\Dg (dP X pins NY scope cl fp C s H) ifs tc/\PE (dP X pins NY scope cl fp C s H) elt te)
  (hcell:∀y∈scope.names,y.2≠.cell:=by decide)(hnames:∀y∈scope.names,y.2=.local->scope.names.lookup y.1=some .local:=by decide)
  (GC:(scope.names.all λy=> !(y.2 == .free)||(cl.lookup y.1).isSome)=true:=by first|rfl|with_unfolding_all rfl)(hs:∀x,foldedSetIterable iter X.env x=pure x:=by intro _;rfl):
  PE X (.ListComp elt [⟨tgt,iter,ifs,0⟩] scope pos) (D_ wi g tc te js):=by
 intro pins s σ H Q I h
 rw[eval_ListComp]
 refine xU hc hkind hclos hcl Lz hi hb hcell hnames GC hs (λD C s6 H5 I7 fC hn q=>?_) I h
 obtain⟨m6,Xo⟩:=hn
 obtain⟨c0,c1,c2,c3,c4,c5⟩:=fC
 exact⟨m6,Xo,λh7 VJ=>⟨.ref D,H5,I7.turned (t':=s6.toks) (λb o hb e=>VJ.extBut b o hb e) c0 c1 c3 c4 c5,rfl,q⟩⟩
end
theorem cy{js:List (Option Nat)}{σ:St}{i:Nat}{v:V}(h:js[i]? = some none):yb (dJ js σ) ((dJ js σ).set i (some v)):=by
 refine⟨by rw[List.length_set],λk u e=>?_⟩
 by_cases hk:k=i
 ·subst hk
  obtain⟨j,ej,_⟩:=tH e
  rw[h]at ej
  cases ej
 ·rw[List.getElem?_set_ne (Ne.symm hk)]
  exact e
theorem GZ{lo st:Int}{n:Nat}{g:TG}{tc:TT}{te:TE}{js:List (Option Nat)}{σ:St}{H1:Hp}{D:Addr}{Q:VK}(Pv:Nat->List V->Hp->Prop)(h0:Pv 0 [] (upd H1 D (.lst [])))(hD:∀i ys H,Pv i ys H->H D=some (.lst ys))
  (hs:∀i ys H,i<n->Pv i ys H->g (.int (lo+i*st)) (dJ js σ) H λσ2 H2=>yb (dJ js σ) σ2/\tc σ2 H2 λb H3=>
   if b=true then te σ2 H3 λv H4=>∃zs,H4 D=some (.lst zs)/\zs.length<sizeLine/\Pv (i+1) (zs++[v]) (upd H4 D (.lst (zs++[v])))else∃zs,Pv (i+1) zs H3)
  (hd:∀ys H,Pv n ys H->Q (.ref D) H):
  ∃W:Nat->Nat->List V->Hp->Prop,(∃m,W 0 m [] (upd H1 D (.lst [])))/\
   ∀i m xs H,W i m xs H->H D=some (.lst xs)/\(((Hw lo st n).stop i H/\Q (.ref D) H)\/((Hw lo st n).go i H/\∃N:List V->Hp->Prop,(∀ys H',N ys H'->∃m',m'<m/\W (i+1) m' ys H')/\∀x H',(Hw lo st n).DG i H x H'->g x (dJ js σ) H' λσ2 H2=>yb (dJ js σ) σ2/\tc σ2 H2 λb H3=>
    if b=true then te σ2 H3 λv H4=>∃ys,H4 D=some (.lst ys)/\ys.length<sizeLine/\N (ys++[v]) (upd H4 D (.lst (ys++[v])))
    else∃ys,N ys H3)):=by
 refine⟨λi m ys H=>m=n-i/\i<=n/\Pv i ys H,⟨n,by simp,Nat.zero_le _,h0⟩,?_⟩
 rintro i m ys H ⟨rfl,hi,p⟩
 refine⟨hD i ys H p,?_⟩
 by_cases hlt:i<n
 ·refine .inr ⟨hlt,Pv (i+1),λzs H' p'=>⟨n-(i+1),by lia,rfl,hlt,p'⟩,λx H' y=>?_⟩
  obtain⟨e,y⟩:=y
  subst e y
  exact hs i ys _ hlt p
 ·have e:i=n:=by lia
  subst e
  exact .inl ⟨Nat.le_refl _,hd ys H p⟩
inductive Dv where
 |eN|bl(b:Bool)|int(i:Int)|str(x:Str)|tup(l:List Dv)|lst(l:List Dv)
mutual
inductive Dn(K:Fg7)(H:Hp):V->Dv->Prop
 |eN:Dn K H .eN .eN
 |bl(b:Bool):Dn K H (.bl b) (.bl b)
 |int(i:Int):Dn K H (.int i) (.int i)
 |str(x:Str):Dn K H (.str x) (.str x)
 |tup{a:Addr}{xs:List V}{ds:List Dv}:bu K H a xs->gz K H xs ds->Dn K H (.ref a) (.tup ds)
 |lst{a:Addr}{xs:List V}{ds:List Dv}:br K H a xs->gz K H xs ds->Dn K H (.ref a) (.lst ds)
inductive gz(K:Fg7)(H:Hp):List V->List Dv->Prop
 |nil:gz K H [] []
 |cons{x:V}{xs:List V}{d:Dv}{ds:List Dv}:Dn K H x d->gz K H xs ds->gz K H (x::xs) (d::ds)
end
mutual
def Dv.dep:Dv->Nat
 |.tup l=>Dv.deps l+1
 |.lst l=>Dv.deps l+1
 |_=>0
def Dv.deps:List Dv->Nat
 |[]=>0
 |d::r=>max (Dv.dep d) (Dv.deps r)
end
/- no bool meets an int -/
mutual
def eO:Dv->Dv->Bool
 |.bl _,.int _=>false
 |.int _,.bl _=>false
 |.tup l,.tup r=>gh l r
 |.lst l,.lst r=>gh l r
 |_,_=>true
def gh:List Dv->List Dv->Bool
 |d::l,e::r=>eO d e&&gh l r
 |_,_=>true
end
theorem Paired.app{α β:Type}{F:α->β->Prop}{xs ys:List α}{ks ls:List β}(h:Paired F xs ks)(h':Paired F ys ls):Paired F (xs++ys) (ks++ls):=by
 induction h with
 |nil=>exact h'
 |cons r _ ih=>exact .cons r ih
theorem Paired.getL{α β:Type}{F:α->β->Prop}{xs:List α}{ks:List β}(h:Paired F xs ks):∀{i:Nat}{x:α},xs[i]? = some x->∃k,ks[i]? = some k/\F x k:=by
 induction h with
 |nil=>intro i x e;simp at e
 |cons r _ ih=>
  intro i x e
  cases i with
  |zero=>simp at e;subst e;exact⟨_,rfl,r⟩
  |succ i=>exact ih e
theorem Paired.XS{α β:Type}{F:α->β->Prop}{xs:List α}{ks:List β}(h:Paired F xs ks):∀{i:Nat}{k:β},ks[i]? = some k->∃x,xs[i]? = some x/\F x k:=by
 induction h with
 |nil=>intro i x e;simp at e
 |cons r _ ih=>
  intro i x e
  cases i with
  |zero=>simp at e;subst e;exact⟨_,rfl,r⟩
  |succ i=>exact ih e
theorem gz.pair{K:Fg7}{H:Hp}{ds:List Dv}:∀{xs:List V},gz K H xs ds->Paired (Dn K H) xs ds:=by
 induction ds with
 |nil=>intro xs h;cases h;exact .nil
 |cons d ds ih=>intro xs h;cases h with|cons r t=>exact .cons r (ih t)
theorem gz.of{K:Fg7}{H:Hp}{xs:List V}{ds:List Dv}(h:Paired (Dn K H) xs ds):gz K H xs ds:=by
 induction h with
 |nil=>exact .nil
 |cons r _ ih=>exact .cons r ih
theorem gz.length{K:Fg7}{H:Hp}{xs:List V}{ds:List Dv}(h:gz K H xs ds):xs.length=ds.length:=Paired.length h.pair
theorem gz.get{K:Fg7}{H:Hp}{xs:List V}{ds:List Dv}{i:Nat}{d:Dv}(h:gz K H xs ds)(e:ds[i]? = some d):∃x,xs[i]? = some x/\Dn K H x d:=Paired.XS h.pair e
theorem gz.get'{K:Fg7}{H:Hp}{xs:List V}{ds:List Dv}{i:Nat}{x:V}(h:gz K H xs ds)(e:xs[i]? = some x):∃d,ds[i]? = some d/\Dn K H x d:=Paired.getL h.pair e
theorem gz.snoc{K:Fg7}{H:Hp}{xs:List V}{ds:List Dv}{x:V}{d:Dv}(h:gz K H xs ds)(r:Dn K H x d):gz K H (xs++[x]) (ds++[d]):=gz.of (Paired.snoc h.pair r)
structure Hs(K:Fg7)(H H':Hp):Prop where
 t:∀a xs,bu K H a xs->bu K H' a xs
 l:∀a xs,br K H a xs->br K H' a xs
mutual
theorem Dn.stay{K:Fg7}{H H':Hp}(e:Hs K H H'):∀{v:V}{d:Dv},Dn K H v d->Dn K H' v d
 |_,_,.eN=>.eN
 |_,_,.bl b=>.bl b
 |_,_,.int i=>.int i
 |_,_,.str x=>.str x
 |_,_,.tup h t=>.tup (e.t _ _ h) (gz.stay e t)
 |_,_,.lst h t=>.lst (e.l _ _ h) (gz.stay e t)
theorem gz.stay{K:Fg7}{H H':Hp}(e:Hs K H H'):∀{vs:List V}{ds:List Dv},gz K H vs ds->gz K H' vs ds
 |_,_,.nil=>.nil
 |_,_,.cons r t=>.cons (Dn.stay e r) (gz.stay e t)
end
theorem aA.ji{K:Fg7}{H H':Hp}{a:Addr}{xs:List V}(e:aA H H')(h:bu K H a xs):bu K H' a xs:=by
 rcases h with(h|⟨o,h⟩)|h
 ·exact .inl (.inl (e _ _ h))
 ·exact .inl (.inr ⟨o,e _ _ h⟩)
 ·exact .inr h
theorem aA.stays{K:Fg7}{H H':Hp}(e:aA H H'):Hs K H H':=⟨λ_ _ h=>e.ji h,λ_ _ h=>e.seq h⟩
theorem aA.new{H:Hp}{a:Addr}{o:HO}(h:H a=none):aA H (upd H a o):=λb u e=>by
 rw[ai (av e h)]
 exact e
theorem in1_units(A:Around):A.in1.units=A.units+1:=by
 first|rfl|simp[Around.in1]
section
variable {X:Cx} {pins:List (Addr×Obj)} {σ:St} {H:Hp} {s:Shared}
theorem xR{A:Around}{its its2:List Value}{ds es:List Dv}(he:∀(j:Nat) u w d e,its[j]? = some u->its2[j]? = some w->ds[j]? = some d->es[j]? = some e->∃b,SeqAt.EqAt A s u w b/\(b=true↔d=e))
  (l1:its.length=ds.length)(l2:its2.length=es.length):
  ∃f:Nat->Bool,(∀j(h1:j<its.toArray.size)(h2:j<its2.toArray.size),SeqAt.EqAt A s its.toArray[j] its2.toArray[j] (f j))/\
   (((List.range (min its.length its2.length)).all f&&its.length==its2.length)=true↔ds=es):=by
 have key:∀j:Nat,∃b:Bool,(∀(h1:j<its.length)(h2:j<its2.length),SeqAt.EqAt A s its[j] its2[j] b/\(b=true↔ds[j]? = es[j]?)):=λj=>by
  by_cases h1:j<its.length
  ·by_cases h2:j<its2.length
   ·obtain⟨b,hb,hi⟩:=he j its[j] its2[j] (ds[j]' LI) (es[j]' LI) (by simp[h1]) (by simp[h2]) (by simp) (by simp)
    refine⟨b,λ_ _=>⟨hb,?_⟩⟩
    rw[hi]
    simp[show j<ds.length by lia,show j<es.length by lia]
   ·exact⟨true,λ_ z=>absurd z h2⟩
  ·exact⟨true,λz=>absurd z h1⟩
 refine⟨λj=>Classical.choose (key j),λj h1 h2=>?_,?_⟩
 ·have LD:j<its.length:=by simpa using h1
  have h2':j<its2.length:=by simpa using h2
  have:=(Classical.choose_spec (key j) LD h2').1
  simpa using this
 ·rw[Bool.and_eq_true,List.all_eq_true,beq_iff_eq]
  constructor
  ·rintro⟨ha,hl⟩
   apply List.ext_getElem?
   intro j
   by_cases hj:j<its.length
   ·have hj2:j<its2.length:=by lia
    exact((Classical.choose_spec (key j) hj hj2).2).mp (ha j (List.mem_range.mpr LI))
   ·rw[List.getElem?_eq_none LI,List.getElem?_eq_none LI]
  ·rintro rfl
   refine⟨λj hj=>?_,by lia⟩
   have hj':=List.mem_range.mp hj
   exact((Classical.choose_spec (key j) LI LI).2).mpr rfl
theorem iy:∀{ds es:List Dv}{j:Nat}{d e:Dv},gh ds es=true->ds[j]? = some d->es[j]? = some e->eO d e=true
 |[],_,_,_,_,_,h,_=>by simp at h
 |_::_,[],_,_,_,_,_,h=>by simp at h
 |a::l,b::r,0,d,e,h,h1,h2=>by
  simp at h1 h2
  subst h1 h2
  simp only[gh,Bool.and_eq_true]at h
  exact h.1
 |a::l,b::r,j+1,d,e,h,h1,h2=>by
  simp only[gh,Bool.and_eq_true]at h
  exact iy (j:=j) h.2 (by simpa using h1) (by simpa using h2)
theorem iB:∀{ds:List Dv}{j:Nat}{d:Dv},ds[j]? = some d->d.dep<=Dv.deps ds
 |[],_,_,h=>by simp at h
 |a::l,0,d,h=>by
  simp at h
  subst h
  simp only[Dv.deps]
  exact Nat.le_max_left _ _
 |a::l,j+1,d,h=>by
  have:=iB (ds:=l) (j:=j) (d:=d) (by simpa using h)
  simp only[Dv.deps]
  exact Nat.le_trans this (Nat.le_max_right _ _)
theorem AK{A:Around}{a b:Addr}{xs ys:List V}{ds es:List Dv}(I:Inv X pins σ H s)(ha:bu X.K H a xs)(hb:bu X.K H b ys)(da:gz X.K H xs ds)(db:gz X.K H ys es)(hu:A.units<cLine)
  (he:∀(j:Nat) x y u w d e,xs[j]? = some x->ys[j]? = some y->ds[j]? = some d->es[j]? = some e->Dn X.K H x d->Dn X.K H y e->RelV x u->RelV y w->∃b,SeqAt.EqAt A.in1 s u w b/\(b=true↔d=e)):
  ∃k,SeqAt.RcAt A s (.ref a) (.ref b) k/\SeqAt.RcNeAt A s (.ref a) (.ref b) (!k)/\(k=true↔ds=es):=by
 obtain⟨its,r1,p1,_⟩:=I.tuple ha
 obtain⟨its2,r2,p2,_⟩:=I.tuple hb
 obtain⟨f,h1,h2⟩:=xR (A:=A.in1) (s:=s) (its:=its) (its2:=its2) (ds:=ds) (es:=es) (λj u w d e e1 e2 e3 e4=>by
  obtain⟨x,ex,dx⟩:=da.get e3
  obtain⟨y,ey,dy⟩:=db.get e4
  obtain⟨u',eu,ru⟩:=r1.get ex
  obtain⟨w',ew,rw'⟩:=r2.get ey
  rw[e1]at eu;cases eu
  rw[e2]at ew;cases ew
  exact he j x y u w d e ex ey e3 e4 dx dy ru rw') (by rw[←r1.length];exact da.length) (by rw[←r2.length];exact db.length)
 have q1:=SeqAt.RcAt.tuples (A:=A) (s:=s) (l:=a) (b:=b) (items:=its.toArray) (items2:=its2.toArray) (e:=f) p1 p2 hu h1
 have q2:=SeqAt.RcNeAt.tuples (A:=A) (s:=s) (l:=a) (b:=b) (items:=its.toArray) (items2:=its2.toArray) (e:=f) p1 p2 hu h1
 rw[List.size_toArray,List.size_toArray]at q1 q2
 exact⟨_,q1,q2,h2⟩
theorem AL{A:Around}{a b:Addr}{xs ys:List V}{ds es:List Dv}(I:Inv X pins σ H s)(ha:br X.K H a xs)(hb:br X.K H b ys)(da:gz X.K H xs ds)(db:gz X.K H ys es)(hu:A.units<cLine)
  (he:∀(j:Nat) x y u w d e,xs[j]? = some x->ys[j]? = some y->ds[j]? = some d->es[j]? = some e->Dn X.K H x d->Dn X.K H y e->RelV x u->RelV y w->∃b,SeqAt.EqAt A.in1 s u w b/\(b=true↔d=e)):
  ∃k,SeqAt.RcAt A s (.ref a) (.ref b) k/\SeqAt.RcNeAt A s (.ref a) (.ref b) (!k)/\(k=true↔ds=es):=by
 obtain⟨its,r1,p1,_⟩:=I.list ha
 obtain⟨its2,r2,p2,_⟩:=I.list hb
 obtain⟨f,h1,h2⟩:=xR (A:=A.in1) (s:=s) (its:=its) (its2:=its2) (ds:=ds) (es:=es) (λj u w d e e1 e2 e3 e4=>by
  obtain⟨x,ex,dx⟩:=da.get e3
  obtain⟨y,ey,dy⟩:=db.get e4
  obtain⟨u',eu,ru⟩:=r1.get ex
  obtain⟨w',ew,rw'⟩:=r2.get ey
  rw[e1]at eu;cases eu
  rw[e2]at ew;cases ew
  exact he j x y u w d e ex ey e3 e4 dx dy ru rw') (by rw[←r1.length];exact da.length) (by rw[←r2.length];exact db.length)
 have l1:its.length=ds.length:=by rw[←r1.length];exact da.length
 have l2:its2.length=es.length:=by rw[←r2.length];exact db.length
 by_cases hl:its.length=its2.length
 ·have hsz:its.toArray.size=its2.toArray.size:=by rw[List.size_toArray,List.size_toArray];exact hl
  have q1:=SeqAt.RcAt.lists (A:=A) (s:=s) (l:=a) (b:=b) (items:=its.toArray) (items2:=its2.toArray) (e:=f) p1.isList p2.isList hsz hu h1
  have q2:=SeqAt.RcNeAt.lists (A:=A) (s:=s) (l:=a) (b:=b) (items:=its.toArray) (items2:=its2.toArray) (e:=f) p1.isList p2.isList hsz hu h1
  rw[List.size_toArray]at q1 q2
  refine⟨_,q1,q2,?_⟩
  rw[←h2,hl,Nat.min_self]
  simp
 ·have hsz:(its.toArray.size != its2.toArray.size)=true:=by
   rw[List.size_toArray,List.size_toArray]
   simpa using hl
  refine⟨false,SeqAt.RcAt.lists_lengths p1.isList p2.isList hsz hu,SeqAt.RcNeAt.lists_lengths p1.isList p2.isList hsz hu,?_⟩
  constructor
  ·intro z;cases z
  ·rintro rfl
   exact absurd (l1.trans l2.symm) hl
mutual
theorem Dn.inj(I:Inv X pins σ H s):∀{x:V}{d e:Dv},Dn X.K H x d->Dn X.K H x e->d=e
 |_,_,_,.eN,.eN=>rfl
 |_,_,_,.bl _,.bl _=>rfl
 |_,_,_,.int _,.int _=>rfl
 |_,_,_,.str _,.str _=>rfl
 |_,_,_,.tup (a:=a) h t,.tup h' t'=>by
  have e:=I.sY h h'
  subst e
  rw[gz.inj I t t']
 |_,_,_,.lst (a:=a) h t,.lst h' t'=>by
  have e:=I.xC h h'
  subst e
  rw[gz.inj I t t']
 |_,_,_,.tup (a:=a) h t,.lst h' t'=>by
  obtain⟨its,_,p1,_⟩:=I.tuple h
  obtain⟨its2,_,p2,_⟩:=I.list h'
  exact absurd rfl (SeqAt.ne_of_list_tuple p2.isList p1)
 |_,_,_,.lst (a:=a) h t,.tup h' t'=>by
  obtain⟨its,_,p1,_⟩:=I.tuple h'
  obtain⟨its2,_,p2,_⟩:=I.list h
  exact absurd rfl (SeqAt.ne_of_list_tuple p2.isList p1)
theorem gz.inj(I:Inv X pins σ H s):∀{xs:List V}{ds es:List Dv},gz X.K H xs ds->gz X.K H xs es->ds=es
 |_,_,_,.nil,.nil=>rfl
 |_,_,_,.cons r t,.cons r' t'=>by rw[Dn.inj I r r',gz.inj I t t']
end
theorem bW{d e:Dv}(h:d≠e):(false=true↔d=e):=⟨λz=>(nomatch z),λz=>absurd z h⟩
theorem um(I:Inv X pins σ H s){n:Nat}{A:Around}{d e:Dv}{x y:V}{u w:Value}(hd:d.dep<=n)(hu:A.units<cLine)(hm:eO d e=true)(dx:Dn X.K H x d)(dy:Dn X.K H y e)(rx:RelV x u)(ry:RelV y w)
  (ih:∀{d' e':Dv}{x' y':V}{u' w':Value},d'.dep+1<=n->eO d' e'=true->Dn X.K H x' d'->Dn X.K H y' e'->RelV x' u'->RelV y' w'->∃b,SeqAt.EqAt A.in1 s u' w' b/\(b=true↔d'=e')):
  ∃b,SeqAt.EqAt A s u w b/\(b=true↔d=e):=by
 cases dx with
 |eN=>
  cases rx
  cases dy with
  |eN=>cases ry;exact⟨true,SeqAt.EqAt.same _,by simp⟩
  |bl b=>cases ry;exact⟨false,SeqAt.EqAt.none_bool b,bW (by simp)⟩
  |int i=>obtain⟨t,rfl⟩:=ry;exact⟨false,SeqAt.EqAt.none_int i t,bW (by simp)⟩
  |str z=>obtain⟨t,rfl⟩:=ry;exact⟨false,SeqAt.EqAt.none_str z t,bW (by simp)⟩
  |tup h _=>cases ry;obtain⟨its,_,p,_⟩:=I.tuple h;exact⟨false,SeqAt.EqAt.none_tuple p hu,bW (by simp)⟩
  |lst h _=>cases ry;obtain⟨its,_,p,_⟩:=I.list h;exact⟨false,SeqAt.EqAt.none_list p.isList hu,bW (by simp)⟩
 |bl a=>
  cases rx
  cases dy with
  |eN=>cases ry;exact⟨false,SeqAt.EqAt.bool_none a,bW (by simp)⟩
  |bl b=>cases ry;exact⟨_,SeqAt.EqAt.bool_bool a b,by simp⟩
  |int i=>exact absurd hm (by simp[eO])
  |str z=>obtain⟨t,rfl⟩:=ry;exact⟨false,SeqAt.EqAt.bool_str a z t,bW (by simp)⟩
  |tup h _=>cases ry;obtain⟨its,_,p,_⟩:=I.tuple h;exact⟨false,SeqAt.EqAt.bool_tuple a p hu,bW (by simp)⟩
  |lst h _=>cases ry;obtain⟨its,_,p,_⟩:=I.list h;exact⟨false,SeqAt.EqAt.bool_list a p.isList hu,bW (by simp)⟩
 |int a=>
  obtain⟨ta,rfl⟩:=rx
  cases dy with
  |eN=>cases ry;exact⟨false,SeqAt.EqAt.int_none a ta,bW (by simp)⟩
  |bl b=>exact absurd hm (by simp[eO])
  |int i=>obtain⟨t,rfl⟩:=ry;exact⟨_,SeqAt.EqAt.int_int a ta i t,by simp⟩
  |str z=>obtain⟨t,rfl⟩:=ry;exact⟨false,SeqAt.EqAt.int_str a ta z t,bW (by simp)⟩
  |tup h _=>cases ry;obtain⟨its,_,p,_⟩:=I.tuple h;exact⟨false,SeqAt.EqAt.int_tuple a ta p hu,bW (by simp)⟩
  |lst h _=>cases ry;obtain⟨its,_,p,_⟩:=I.list h;exact⟨false,SeqAt.EqAt.int_list a ta p.isList hu,bW (by simp)⟩
 |str a=>
  obtain⟨ta,rfl⟩:=rx
  cases dy with
  |eN=>cases ry;exact⟨false,SeqAt.EqAt.str_none a ta,bW (by simp)⟩
  |bl b=>cases ry;exact⟨false,SeqAt.EqAt.str_bool a ta b,bW (by simp)⟩
  |int i=>obtain⟨t,rfl⟩:=ry;exact⟨false,SeqAt.EqAt.str_int a ta i t,bW (by simp)⟩
  |str z=>obtain⟨t,rfl⟩:=ry;exact⟨_,SeqAt.EqAt.str_str a ta z t,by simp⟩
  |tup h _=>cases ry;obtain⟨its,_,p,_⟩:=I.tuple h;exact⟨false,SeqAt.EqAt.str_tuple a ta p hu,bW (by simp)⟩
  |lst h _=>cases ry;obtain⟨its,_,p,_⟩:=I.list h;exact⟨false,SeqAt.EqAt.str_list a ta p.isList hu,bW (by simp)⟩
 | @tup a xs ds ha da=>
  cases rx
  obtain⟨its,_,p,_⟩:=I.tuple ha
  cases dy with
  |eN=>cases ry;exact⟨false,SeqAt.EqAt.tuple_none p hu,bW (by simp)⟩
  |bl b=>cases ry;exact⟨false,SeqAt.EqAt.tuple_bool b p hu,bW (by simp)⟩
  |int i=>obtain⟨t,rfl⟩:=ry;exact⟨false,SeqAt.EqAt.tuple_int i t p hu,bW (by simp)⟩
  |str z=>obtain⟨t,rfl⟩:=ry;exact⟨false,SeqAt.EqAt.tuple_str z t p hu,bW (by simp)⟩
  |lst h _=>cases ry;obtain⟨its2,_,p2,_⟩:=I.list h;exact⟨false,SeqAt.EqAt.tuple_list p p2.isList hu,bW (by simp)⟩
  | @tup b ys es hb db=>
   cases ry
   by_cases hab:a=b
   ·subst hab
    exact⟨true,SeqAt.EqAt.same _,by rw[Dn.inj I (.tup ha da) (.tup hb db)];simp⟩
   ·have hm':gh ds es=true:=by simpa only[eO]using hm
    have hd':Dv.deps ds+1<=n:=by simpa only[Dv.dep]using hd
    obtain⟨k,q1,_,q3⟩:=AK I ha hb da db hu (λj x' y' u' w' d' e' _ _ e3 e4 JC JB Io Im=>ih (by have:=iB e3;lia) (iy hm' e3 e4) JC JB Io Im)
    refine⟨k,SeqAt.EqAt.of_refs hab q1,?_⟩
    rw[q3]
    simp
 | @lst a xs ds ha da=>
  cases rx
  obtain⟨its,_,p,_⟩:=I.list ha
  cases dy with
  |eN=>cases ry;exact⟨false,SeqAt.EqAt.list_none p.isList hu,bW (by simp)⟩
  |bl b=>cases ry;exact⟨false,SeqAt.EqAt.list_bool b p.isList hu,bW (by simp)⟩
  |int i=>obtain⟨t,rfl⟩:=ry;exact⟨false,SeqAt.EqAt.list_int i t p.isList hu,bW (by simp)⟩
  |str z=>obtain⟨t,rfl⟩:=ry;exact⟨false,SeqAt.EqAt.list_str z t p.isList hu,bW (by simp)⟩
  |tup h _=>cases ry;obtain⟨its2,_,p2,_⟩:=I.tuple h;exact⟨false,SeqAt.EqAt.list_tuple p.isList p2 hu,bW (by simp)⟩
  | @lst b ys es hb db=>
   cases ry
   by_cases hab:a=b
   ·subst hab
    exact⟨true,SeqAt.EqAt.same _,by rw[Dn.inj I (.lst ha da) (.lst hb db)];simp⟩
   ·have hm':gh ds es=true:=by simpa only[eO]using hm
    have hd':Dv.deps ds+1<=n:=by simpa only[Dv.dep]using hd
    obtain⟨k,q1,_,q3⟩:=AL I ha hb da db hu (λj x' y' u' w' d' e' _ _ e3 e4 JC JB Io Im=>ih (by have:=iB e3;lia) (iy hm' e3 e4) JC JB Io Im)
    refine⟨k,SeqAt.EqAt.of_refs hab q1,?_⟩
    rw[q3]
    simp
theorem jo(I:Inv X pins σ H s):∀(n:Nat){A:Around}{d e:Dv}{x y:V}{u w:Value},d.dep<=n->A.units+n<cLine->eO d e=true->Dn X.K H x d->Dn X.K H y e->RelV x u->RelV y w->∃b,SeqAt.EqAt A s u w b/\(b=true↔d=e)
 |0,A,d,e,x,y,u,w,hd,hu,hm,dx,dy,rx,ry=>um I hd LI hm dx dy rx ry λh=>absurd h LI
 |n+1,A,d,e,x,y,u,w,hd,hu,hm,dx,dy,rx,ry=>um I hd LI hm dx dy rx ry λh hm' JC JB Io Im=>jo I n LI (by rw[in1_units];lia) hm' JC JB Io Im
inductive KW(K:Fg7)(x:V)(y:V)(H:Hp)(Q:VK):Prop
 |mk(d:_)(e:_):(Dn K H x d)->(Dn K H y e)->(((∃l r,d=.tup l/\e=.tup r)\/∃l r,d=.lst l/\e=.lst r))->(eO d e=true)->(d.dep<=30)->(∀b:Bool,(b=true↔d=e)->Q (.bl b) H)->KW K x y H Q
def We(K:Fg7):R2:=λx y H Q=>KW K x y H Q
inductive KN(K:Fg7)(x:V)(y:V)(H:Hp)(Q:VK):Prop
 |mk(d:_)(e:_):(Dn K H x d)->(Dn K H y e)->(((∃l r,d=.tup l/\e=.tup r)\/∃l r,d=.lst l/\e=.lst r))->(eO d e=true)->(d.dep<=30)->(∀b:Bool,(b=true↔d=e)->Q (.bl (!b)) H)->KN K x y H Q
def Wb(K:Fg7):R2:=λx y H Q=>KN K x y H Q
theorem AM{A:Around}{d e:Dv}{x y:V}{u w:Value}(I:Inv X pins σ H s)(hu:A.units+64<cLine)(dx:Dn X.K H x d)(dy:Dn X.K H y e)(hk:(∃l r,d=.tup l/\e=.tup r)\/∃l r,d=.lst l/\e=.lst r)(hm:eO d e=true)
  (hd:d.dep<=30)(rx:RelV x u)(ry:RelV y w):∃k,SeqAt.RcAt A s u w k/\SeqAt.RcNeAt A s u w (!k)/\(k=true↔d=e):=by
 rcases hk with⟨l,r,rfl,rfl⟩|⟨l,r,rfl,rfl⟩
 ·cases dx with
  |tup ha da=>
   cases dy with
   |tup hb db=>
    cases rx
    cases ry
    have hm':gh l r=true:=by simpa only[eO]using hm
    have hd':Dv.deps l+1<=30:=by simpa only[Dv.dep]using hd
    obtain⟨k,q1,q2,q3⟩:=AK I ha hb da db (A:=A) LI (λj x' y' u' w' d' e' _ _ e3 e4 JC JB Io Im=>jo I 30 (by have:=iB e3;lia) (by rw[in1_units];lia) (iy hm' e3 e4) JC JB Io Im)
    exact⟨k,q1,q2,by rw[q3];simp⟩
 ·cases dx with
  |lst ha da=>
   cases dy with
   |lst hb db=>
    cases rx
    cases ry
    have hm':gh l r=true:=by simpa only[eO]using hm
    have hd':Dv.deps l+1<=30:=by simpa only[Dv.dep]using hd
    obtain⟨k,q1,q2,q3⟩:=AL I ha hb da db (A:=A) LI (λj x' y' u' w' d' e' _ _ e3 e4 JC JB Io Im=>jo I 30 (by have:=iB e3;lia) (by rw[in1_units];lia) (iy hm' e3 e4) JC JB Io Im)
    exact⟨k,q1,q2,by rw[q3];simp⟩
end
theorem MI{X:Cx}(hu:X.A.units+64<cLine):iR X (compareOp .Eq) (We X.K):=by
 intro pins s σ H x y v u Q I rx ry h
 obtain⟨d,e,dx,dy,hk,hm,hd,q⟩:=h
 obtain⟨k,q1,_,q3⟩:=AM I hu dx dy hk hm hd rx ry
 exact q1 _ _ _ _ ⟨.bl k,H,I,rfl,q k q3⟩
theorem FI{X:Cx}(hu:X.A.units+64<cLine):iR X (compareOp .NotEq) (Wb X.K):=by
 intro pins s σ H x y v u Q I rx ry h
 obtain⟨d,e,dx,dy,hk,hm,hd,q⟩:=h
 obtain⟨k,_,q2,q3⟩:=AM I hu dx dy hk hm hd rx ry
 exact q2 _ _ _ _ ⟨.bl (!k),H,I,rfl,q k q3⟩
theorem aS{X:Cx}:iM X (.builtin "isinstance") (λxs H Q=>∃x T t b,xs=[x,.ty T]/\oZ X.K H x t/\PySem.W.kitOne X.K t (.type T)=some b/\Q (.bl b) H):=by
 intro pins s σ H xs us Q I r h
 obtain⟨x,T,t,b,rfl,ty,e,q⟩:=h
 obtain⟨u,w',rfl,rx,ry⟩:=vals2 r
 cases ry
 exact CF I rx ty e λtk=>⟨.bl b,H,I.tok _,rfl,q⟩
structure aJ(K:Fg7)(x:Str)(st:Stmt):Prop where
 ex:∃(f:Addr) (oc:Value) (od:Option Addr) (kV doc pm:Value) (an:Option Addr) (cdv ct:Value) (osl:Array (Option Value)),
  PySem.W.nsIn K mainGlobals x=some (some (.ref f))/\K.lookup f=some ⟨oc,od,.func (PySem.W.fnOf x x (aI st) (aE st) (ao st) .none kV doc pm an cdv ct),osl⟩/\PySem.W.codeIn K cdv x=true/\PySem.W.keepIn K (.ref f)=true
theorem aJ.mk'{K:Fg7}{x:Str}{st:Stmt}{f:Addr}{oc:Value}{od:Option Addr}{kV doc pm:Value}{an:Option Addr}{cdv ct:Value}{osl:Array (Option Value)}
  (a:PySem.W.nsIn K mainGlobals x=some (some (.ref f)))(l:K.lookup f=some ⟨oc,od,.func (PySem.W.fnOf x x (aI st) (aE st) (ao st) .none kV doc pm an cdv ct),osl⟩)
  (c:PySem.W.codeIn K cdv x=true)(k:PySem.W.keepIn K (.ref f)=true):aJ K x st:=⟨⟨f,oc,od,kV,doc,pm,an,cdv,ct,osl,a,l,c,k⟩⟩
structure MG(K:Fg7)(mg:Str->Option Value):Prop where
 is:∀x v,PySem.W.nsIn K mainGlobals x=some (some v)->mg x=some v
 no:∀x,PySem.W.nsIn K mainGlobals x=some none->mg x=none
def ef(P:Program)(w:World)(K:Fg7)(mg:Str->Option Value)(x:Str)(ps:List Str)(k:Nat)(sp:Sp):Prop:=
 ∃(f:Addr) (fd:FuncData),mg x=some (.ref f)/\PySem.W.keepIn K (.ref f)=true/\(∀us:List Value,us.length=ps.length->bindArgs fd ⟨us,[]⟩=pure (ps.zip us))/\∀base,nB P w K mg base iS k f fd ps sp
theorem ef.imp{P:Program}{w:World}{K:Fg7}{mg:Str->Option Value}{x:Str}{ps:List Str}{k:Nat}{sp vM:Sp}(F:ef P w K mg x ps k sp)(h:∀vs H Q E,vM vs H Q E->sp vs H Q E):ef P w K mg x ps k vM:=by
 obtain⟨f,fd,h1,h2,h3,h4⟩:=F
 exact⟨f,fd,h1,h2,h3,λbase=>(h4 base).imp h⟩
theorem aJ.fn{P:Program}{w:World}{K:Fg7}{mg:Str->Option Value}{x:Str}{st:Stmt}{N ps:List Str}{k:Nat}{sp:Sp}(D:aJ K x st)(M:MG K mg)(S:aP N ps (ao st))
  (hb:∀(kV doc pm:Value)(an:Option Addr)(cdv ct:Value)(us:List Value),us.length=ps.length->bindArgs (PySem.W.fnOf x x (aI st) (aE st) (ao st) .none kV doc pm an cdv ct) ⟨us,[]⟩=pure (ps.zip us))
  (len:∀vs H Q E,sp vs H Q E->vs.length=ps.length)
  (hbody:∀(f:Addr)(base:Heap)(cdv:Value)(A:Around)(outer:List Env)(s:Shared)(H:Hp)(vs:List V)(Q:VK)(E:XK),dS k (A.deeper (envOfC x (ao st) s.heap.objs.size f cdv))->sp vs H Q E->
   ∃t,vN (qf iS P w K mg base N x (ao st) f cdv A outer s H E).HE (aE st) t/\t {nx:=λ_ H'=>Q .eN H',rt:=Q} (start N vs) H):ef P w K mg x ps (k+1) sp:=by
 obtain⟨f,oc,od,kV,doc,pm,an,cdv,ct,osl,a,l,c,kp⟩:=D.ex
 have F:Ui K x x st f (PySem.W.fnOf x x (aI st) (aE st) (ao st) .none kV doc pm an cdv ct):=GH l c kp
 exact⟨f,_,M.is _ _ a,kp,hb kV doc pm an cdv ct,λbase=>F.ok S len (hbody f base)⟩
section
variable {X:Cx} {k:Nat} {ps:List Str} {sp:Sp} {x:Str} {p pos:Pos} {e:Expr} {es:List Expr} {t:TA}
theorem FE(F:ef X.prog X.w X.K X.mg x ps k sp)(hr:dS k X.A)(hg:Gl X x)(ha:PA X (e::es) t)
  (hdb:(x==("__debug__":Str))=false:=by decide)(he:starEach (e::es) X.env=(false,eval e X.env)::starEach es X.env:=by rfl)(hpl:(backTo pos (starEach es X.env)).any (·.1)=false:=by rfl):
  PE X (.Call (.Name x p) (e::es) [] pos) (Ea sp [] E0 t):=by
 obtain⟨f,fd,h1,h2,h3,h4⟩:=F
 exact IF (h4 X.base) hr hg h1 h2 (.all h3) .nil fK ha hdb he hpl
def dZ(K:Fg7)(x:Str)(v:V):Prop:=∃u,PySem.W.nsIn K mainGlobals x=some (some u)/\RelV v u
theorem jI{v:V}(G:dZ X.K x v)(M:MG X.K X.mg)(hg:Gl X x)(hd:(x==("__debug__":Str))=false:=by decide):PE X (.Name x p) (tC v):=by
 obtain⟨u,h1,h2⟩:=G
 exact IC hg (M.is _ _ h1) h2 hd
end
inductive DV(t:TS)(u:TS)(D:Ends)(σ:St)(H:Hp):Prop
 |mk(G:St->Hp->Prop):(t {D with nx:=G} σ H)->(∀σ' H',G σ' H'->u D σ' H')->DV t u D σ H
def PN(t u:TS):TS:=λD σ H=>DV t u D σ H
theorem gX{X:Cx}{st:Stmt}{rest:List Stmt}{t u:TS}(h1:PS X st t)(h2:vN X rest u):vN X (st::rest) (PN t u):=by
 intro pins s σ H D I h
 obtain⟨G,q1,q2⟩:=h
 refine wpAny_execs_cons (dI (h1 pins s σ H {D with nx:=G} I q1) λf s1 q=>?_)
 cases f with
 |next=>
  obtain⟨σ',H',I',q⟩:=q
  exact h2 pins s1 σ' H' D I' (q2 σ' H' q)
 |ret v=>exact q
 |brk=>exact q
 |cont=>exact q
theorem iG.nil{X:Cx}{scope:Scope}:iG X scope [] []:=trivial
theorem iG.own{X:Cx}{scope:Scope}{js:List (Option Nat)}{x:Str}{N:List Str}(h:iG X scope js N):iG X scope (none::js) (x::N):=h
theorem iG.out{X:Cx}{scope:Scope}{j:Nat}{js:List (Option Nat)}{x:Str}{N:List Str}(h1:X.N[j]? = some x)(h2:scope.names.lookup x=some .free)(h3:X.env.kindOf x=some .cell\/X.env.kindOf x=some .free)(h:iG X scope js N):iG X scope (some j::js) (x::N):=by
 refine⟨⟨h1,h2,?_,h3⟩,h⟩
 rcases h3 with e|e<;>rw[e]<;>intro z<;>cases z
theorem cD.nil{cells:List (Str×Addr)}:cD cells []:=trivial
theorem cD.cons{cells:List (Str×Addr)}{p:Str×Addr}{r:List (Str×Addr)}(h1:cells.lookup p.1=some p.2)(h2:cD cells r):cD cells (p::r):=⟨h1,h2⟩
abbrev aZ{K:Fg7}{mg:PySem.Str->Option PySem.Value}(_:MG K mg):Fg7:=K
def nR:Expr->Bool
 |.Starred .. =>false
 |_=>true
theorem h_{e:Expr}{es:List Expr}{env:Env}(h:nR e=true):starEach (e::es) env=(false,eval e env)::starEach es env:=by
 cases e<;>first|rfl|exact absurd h Bool.false_ne_true
def jW:List Expr->Bool
 |[]=>true
 |e::r=>nR e&&jW r
theorem jr{pos:Pos}{env:Env}:∀{es:List Expr},jW es=true->(backTo pos (starEach es env)).any (·.1)=false
 |[],_=>rfl
 |e::r,h=>by
  simp only[jW,Bool.and_eq_true]at h
  rw[h_ h.1]
  show(false||(backTo pos (starEach r env)).any (·.1))=false
  rw[jr h.2]
  rfl
def yZ:Expr->Bool
 |.ListComp .. =>false
 |.SetComp .. =>false
 |.DictComp .. =>false
 |_=>true
theorem pL{e:Expr}{t:Option Expr}{l:Nat}{env:Env}(h:yZ e=true):swapsWith e t l env=pure false:=by
 cases e<;>first|rfl|exact absurd h Bool.false_ne_true
section
variable {X:Cx} {e:Expr} {es:List Expr} {te ta tb:TE} {t:TA} {pos p:Pos} {x:Str} {k:Nat} {ps:List Str} {sp:Sp}
theorem pc(ha:PE X e te)(hr:PA X es t)(h:nR e=true:=by rfl):PA X (e::es) (Km te t):=IG ha hr (h_ h)
theorem cW{i:Nat}{pos':Pos}(hN:X.N.Nodup)(hi:X.N[i]? = some x)(hx:Loc X.env.scope x)(he:PE X e te)(h:yZ e=true:=by rfl)(hf:X.fn x=true\/X.env.scope.names.lookup x=some .local:=by first|exact .inl rfl|exact .inr rfl|assumption):
  PS X (.Assign [.Name x pos'] e pos) (Eb te (ff i)):=Ft hN hi hx he (pL h) hf
theorem gI(he:PE X e te)(h:yZ e=true:=by rfl):PS X (.Expr e pos) (Kl te):=Iw he (pL h)
theorem aW(F:ef X.prog X.w X.K X.mg x ps k sp)(hr:dS k X.A)(hg:Gl X x)(ha:PA X (e::es) t)(hdb:(x==("__debug__":Str))=false:=by decide)(h1:nR e=true:=by rfl)(h2:jW es=true:=by rfl):
  PE X (.Call (.Name x p) (e::es) [] pos) (Ea sp [] E0 t):=FE F hr hg ha hdb (h_ h1) (jr h2)
variable {id T:String} {r:List V->Hp->VK->Prop}
theorem aU(hc:iM X (.builtin id) r)(hg:Gl X x)(hm:X.mg x=none)(hv:bootBuiltins x=some (.builtin id))(ha:PA X (e::es) t)(hn:x≠"__name__":=by decide)(hdb:(x==("__debug__":Str))=false:=by decide)
  (h1:nR e=true:=by rfl)(h2:jW es=true:=by rfl):PE X (.Call (.Name x p) (e::es) [] pos) (Up r t):=FF hc hg hm hv ha hn hdb (h_ h1) (jr h2)
theorem jl(hc:iM X (.type T) r)(hg:Gl X x)(hm:X.mg x=none)(hv:bootBuiltins x=some (.type T))(ha:PA X (e::es) t)(hn:x≠"__name__":=by decide)(hdb:(x==("__debug__":Str))=false:=by decide)
  (h1:nR e=true:=by rfl)(h2:jW es=true:=by rfl):PE X (.Call (.Name x p) (e::es) [] pos) (Up r t):=Ca hc hg hm hv ha hn hdb (h_ h1) (jr h2)
end
inductive J_(x:V)(y:V)(H:Hp)(Q:VK):Prop
 |mk(i:_)(j:_):(x=.int i)->(y=.int j)->(Q (.int (i+j)) H)->J_ x y H Q
def Vk:R2:=λx y H Q=>J_ x y H Q
inductive JW(x:V)(y:V)(H:Hp)(Q:VK):Prop
 |mk(i:_)(j:_):(x=.int i)->(y=.int j)->(Q (.int (i-j)) H)->JW x y H Q
def Vg:R2:=λx y H Q=>JW x y H Q
inductive JY(x:V)(y:V)(H:Hp)(Q:VK):Prop
 |mk(i:_)(j:_):(x=.int i)->(y=.int j)->(JU i j)->(Q (.int (i*j)) H)->JY x y H Q
def Vi:R2:=λx y H Q=>JY x y H Q
inductive DE(x:V)(y:V)(H:Hp)(Q:VK):Prop
 |mk(i:_)(j:_):(x=.int i)->(y=.int j)->((zO i/\zO j))->(Q (.int (i*j)) H)->DE x y H Q
def Pq:R2:=λx y H Q=>DE x y H Q
inductive DF(x:V)(y:V)(H:Hp)(Q:VK):Prop
 |mk(i:_)(j:_):(x=.int i)->(y=.int j)->((0<j/\zO j))->(Q (.int (i/j)) H)->DF x y H Q
def Px:R2:=λx y H Q=>DF x y H Q
inductive JZ(x:V)(y:V)(H:Hp)(Q:VK):Prop
 |mk(i:_)(j:_):(x=.int i)->(y=.int j)->(0<j)->(Q (.int (i%j)) H)->JZ x y H Q
def Vj:R2:=λx y H Q=>JZ x y H Q
inductive Pr(x:V)(y:V)(H:Hp)(Q:VK):Prop
 |mk(i:_)(j:_):(x=.int i)->(y=.int j)->(Q (.bl (decide (i<j))) H)->Pr x y H Q
def zLt:R2:=λx y H Q=>Pr x y H Q
inductive Pu(x:V)(y:V)(H:Hp)(Q:VK):Prop
 |mk(i:_)(j:_):(x=.int i)->(y=.int j)->(Q (.bl (decide (i<=j))) H)->Pu x y H Q
def YD:R2:=λx y H Q=>Pu x y H Q
inductive Pw(x:V)(y:V)(H:Hp)(Q:VK):Prop
 |mk(i:_)(j:_):(x=.int i)->(y=.int j)->(Q (.bl (decide (j<i))) H)->Pw x y H Q
def zGt:R2:=λx y H Q=>Pw x y H Q
inductive JX(x:V)(H:Hp)(Q:VK):Prop
 |mk(i:_):(x=.int i)->(Q (.int (-i)) H)->JX x H Q
def Vh:V->Hp->VK->Prop:=λx H Q=>JX x H Q
section
variable {X:Cx}
theorem iR.of{f:Value->Value->Sem Value}{r r':R2}(h:iR X f r)(k:∀x y H Q,r' x y H Q->r x y H Q):iR X f r':=λpins s σ H x y v u Q I a b z=>h pins s σ H x y v u Q I a b (k x y H Q z)
theorem LP.of{f:Value->Sem Value}{r r':V->Hp->VK->Prop}(h:LP X f r)(k:∀x H Q,r' x H Q->r x H Q):LP X f r':=λpins s σ H x v Q I a z=>h pins s σ H x v Q I a (k x H Q z)
theorem jA:iR X (binaryOp .Add) Vk:=MJ.of λ_ _ _ _ ⟨i,j,a,b,q⟩=>⟨i,j,a,b,q⟩
theorem qS:iR X (binaryOp .Sub) Vg:=ME.of λ_ _ _ _ ⟨i,j,a,b,q⟩=>⟨i,j,a,b,q⟩
theorem gg:iR X (binaryOp .Mult) Vi:=MF.of λ_ _ _ _ ⟨i,j,a,b,c,q⟩=>⟨i,j,a,b,c,q⟩
theorem FL:iR X (binaryOp .Mult) Pq:=IJ.of λ_ _ _ _ ⟨i,j,a,b,c,q⟩=>⟨i,j,a,b,c,q⟩
theorem AY:iR X (binaryOp .FloorDiv) Px:=FJ.of λ_ _ _ _ ⟨i,j,a,b,c,q⟩=>⟨i,j,a,b,c,q⟩
theorem oMod:iR X (binaryOp .Mod) Vj:=MH.of λ_ _ _ _ ⟨i,j,a,b,c,q⟩=>⟨i,j,a,b,c,q⟩
theorem oLt:iR X (compareOp .Lt) zLt:=QE.of λ_ _ _ _ ⟨i,j,a,b,q⟩=>⟨i,j,a,b,q⟩
theorem oLe:iR X (compareOp .LtE) YD:=QF.of λ_ _ _ _ ⟨i,j,a,b,q⟩=>⟨i,j,a,b,q⟩
theorem QJ:iR X (compareOp .Gt) zGt:=QG.of λ_ _ _ _ ⟨i,j,a,b,q⟩=>⟨i,j,a,b,q⟩
theorem uA:LP X (unaryOp .USub) Vh:=LR.of λ_ _ _ ⟨i,a,q⟩=>⟨i,a,q⟩
end
theorem dZ.ofStr{K:Fg7}{x z:Str}{t:Tok}(a:PySem.W.nsIn K mainGlobals x=some (some (.str z t))):dZ K x (.str z):=⟨_,a,⟨t,rfl⟩⟩
theorem dZ.ofInt{K:Fg7}{x:Str}{i:Int}{t:Tok}(a:PySem.W.nsIn K mainGlobals x=some (some (.int i t))):dZ K x (.int i):=⟨_,a,⟨t,rfl⟩⟩
section
variable {κ:Type} [DecidableEq κ]
def kh(kvs:List (κ×V))(k:κ):Option V:=(kvs.find? λkv=>decide (kv.1=k)).map (·.2)
def putK(kvs:List (κ×V))(k:κ)(v:V):List (κ×V):=
 if(kvs.any λkv=>decide (kv.1=k))=true then kvs.map (λkv=>if kv.1=k then(kv.1,v)else kv)else kvs++[(k,v)]
def jP(kvs:List (κ×V))(k:κ):List (κ×V):=kvs.filter λkv=>decide (kv.1≠k)
theorem mh{p:κ×V}{r:List (κ×V)}{k:κ}(e:p.1=k):kh (p::r) k=some p.2:=by simp[kh,List.find?_cons,e]
theorem mj{p:κ×V}{r:List (κ×V)}{k:κ}(e:¬p.1=k):kh (p::r) k=kh r k:=by simp[kh,List.find?_cons,e]
theorem vQ(k:κ):∀kvs:List (κ×V),(kvs.any λkv=>decide (kv.1=k))=(kh kvs k).isSome
 |[]=>rfl
 |p::r=>by
  rw[List.any_cons]
  by_cases e:p.1=k
  ·simp only[mh e,decide_eq_true e,Bool.true_or,Option.isSome_some]
  ·rw[mj e,decide_eq_false e,Bool.false_or];exact vQ k r
theorem pQ(kvs:List (κ×V))(k:κ)(v:V):(putK kvs k v).length<=kvs.length+1:=by
 unfold putK
 split
 ·rw[List.length_map];lia
 ·rw[List.length_append,List.length_cons,List.length_nil];lia
theorem ju.CG{o:Option V}{u:Option Value}(r:ju o u):o.isSome=u.isSome:=by
 cases o with
 |none=>cases u with
  |none=>rfl
  |some _=>exact(show False from r).elim
 |some _=>cases u with
  |none=>exact(show False from r).elim
  |some _=>rfl
theorem ju.getD{o:Option V}{u:Option Value}{d:V}{d':Value}(r:ju o u)(rd:RelV d d'):RelV (o.getD d) (u.getD d'):=by
 cases o with
 |none=>cases u with
  |none=>exact rd
  |some _=>exact(show False from r).elim
 |some _=>cases u with
  |none=>exact(show False from r).elim
  |some _=>exact r
theorem KV.val{kvs:List (κ×V)}{vs:List (κ×Value)}(r:KV kvs vs)(k:κ):ju (kh kvs k) (valueAt vs k):=by
 unfold KV at r
 induction r with
 |nil=>exact True.intro
 | @cons p q ps qs h t ih=>
  obtain⟨h1,h2⟩:=h
  by_cases e:p.1=k
  ·have e':q.1=k:=h1.symm.trans e
   have b:valueAt (q::qs) k=some q.2:=by simp[valueAt,List.find?_cons,e']
   rw[mh e,b];exact h2
  ·have e':¬q.1=k:=λz=>e (h1.trans z)
   have b:valueAt (q::qs) k=valueAt qs k:=by simp[valueAt,List.find?_cons,e']
   rw[mj e,b];exact ih
theorem KV.any{kvs:List (κ×V)}{vs:List (κ×Value)}(r:KV kvs vs)(k:κ):(kvs.any λkv=>decide (kv.1=k))=vs.any λkv=>decide (kv.1=k):=by
 unfold KV at r
 induction r with
 |nil=>rfl
 |cons h t ih=>rw[List.any_cons,List.any_cons,ih,h.1]
theorem KV.repl{kvs:List (κ×V)}{vs:List (κ×Value)}(r:KV kvs vs)(k:κ){y:V}{u:Value}(ry:RelV y u):
  KV (kvs.map λkv=>if kv.1=k then(kv.1,y)else kv) (vs.map λkv=>if kv.1=k then(kv.1,u)else kv):=by
 unfold KV at r ⊢
 induction r with
 |nil=>exact .nil
 | @cons p q ps qs h t ih=>
  rw[List.map_cons,List.map_cons]
  refine .cons ?_ ih
  obtain⟨h1,h2⟩:=h
  by_cases e:p.1=k
  ·rw[if_pos e,if_pos (h1.symm.trans e)];exact⟨h1,ry⟩
  ·rw[if_neg e,if_neg (λz=>e (h1.trans z))];exact⟨h1,h2⟩
theorem KV.put{kvs:List (κ×V)}{vs:List (κ×Value)}(r:KV kvs vs)(k:κ){y:V}{u:Value}(ry:RelV y u):KV (putK kvs k y) (stored vs k u):=by
 unfold putK stored
 rw[r.any k]
 by_cases e:(vs.any λkv=>decide (kv.1=k))=true
 ·rw[if_pos e,if_pos e];exact r.repl k ry
 ·rw[if_neg e,if_neg e];exact Paired.snoc r ⟨rfl,ry⟩
theorem KV.length{kvs:List (κ×V)}{vs:List (κ×Value)}(r:KV kvs vs):kvs.length=vs.length:=Paired.length r
theorem GS(kvs:List (κ×V))(k:κ):(jP kvs k).length<=kvs.length:=List.length_filter_le _ _
end
theorem Bg{P:Program}{w:World}{k:Key}{u:Value}(r:RelV (kV k) u):(bO P w).is k u=true:=by
 cases k with
 |inl i=>obtain⟨t,e⟩:=(show∃t,u=Value.int i t from r);subst e;exact xq P w i t
 |inr x=>obtain⟨t,e⟩:=(show∃t,u=Value.str x t from r);subst e;exact xo P w x t
theorem tZ{P:Program}{w:World}:∀{ks:List Key}{us:List Value},Vals (ks.map kV) us->ItemsAre (bO P w) ks us
 |[],_,r=>by rw[List.map_nil]at r;cases r;exact .nil
 |k::ks,_,r=>by
  rw[List.map_cons]at r
  cases r with
  |cons h t=>exact .cons (Bg h) (tZ t)
abbrev KT(H:Hp):List (List Key×V)->List (List Key×Addr×Value)->Prop:=Paired λp q=>p.1=q.1/\H q.2.1=some (.tup (p.1.map kV))/\RelV p.2 q.2.2
theorem KT.val{H:Hp}{kvs:List (List Key×V)}{xs:List (List Key×Addr×Value)}(r:KT H kvs xs)(k:List Key):ju (kh kvs k) ((atKey xs k).map (·.2)):=by
 induction r with
 |nil=>exact True.intro
 | @cons p q ps qs h t ih=>
  obtain⟨h1,_,h2⟩:=h
  by_cases e:p.1=k
  ·have e':q.1=k:=h1.symm.trans e
   have b:atKey (q::qs) k=some q.2:=by simp[atKey,List.find?_cons,e']
   rw[mh e,b];exact h2
  ·have e':¬q.1=k:=λz=>e (h1.trans z)
   have b:atKey (q::qs) k=atKey qs k:=by simp[atKey,List.find?_cons,e']
   rw[mj e,b];exact ih
theorem KT.repl{H:Hp}{kvs:List (List Key×V)}{xs:List (List Key×Addr×Value)}(r:KT H kvs xs)(k:List Key){y:V}{u:Value}(ry:RelV y u):
  KT H (kvs.map λkv=>if kv.1=k then(kv.1,y)else kv) (xs.map (putAt k u)):=by
 induction r with
 |nil=>exact .nil
 | @cons p q ps qs h t ih=>
  rw[List.map_cons,List.map_cons]
  refine .cons ?_ ih
  obtain⟨h1,h2,h3⟩:=h
  unfold putAt
  by_cases e:p.1=k
  ·rw[if_pos e,if_pos (h1.symm.trans e)];exact⟨h1,h2,ry⟩
  ·rw[if_neg e,if_neg (λz=>e (h1.trans z))];exact⟨h1,h2,h3⟩
theorem KT.put{H:Hp}{kvs:List (List Key×V)}{xs:List (List Key×Addr×Value)}(r:KT H kvs xs)(k:List Key){b:Addr}{y:V}{u:Value}(hb:H b=some (.tup (k.map kV)))(ry:RelV y u):
  KT H (putK kvs k y) (storedH xs k b u):=by
 have e:(kvs.any λkv=>decide (kv.1=k))=(atKey xs k).isSome:=by
  rw[vQ,(r.val k).CG,Option.isSome_map]
 unfold putK storedH
 rw[e]
 by_cases q:(atKey xs k).isSome=true
 ·rw[if_pos q,if_pos q];exact r.repl k ry
 ·rw[if_neg q,if_neg q];exact Paired.snoc r ⟨rfl,hb,ry⟩
theorem KT.keeps{H H':Hp}{kvs:List (List Key×V)}{xs:List (List Key×Addr×Value)}(r:KT H kvs xs)(ht:∀b ys,H b=some (.tup ys)->H' b=some (.tup ys)):KT H' kvs xs:=
 Paired.FZ r λ_ _ z=>⟨z.1,ht _ _ z.2.1,z.2.2⟩
section
variable {P:Program} {w:World} {H:Hp} {h:Heap} {a:Addr}
theorem KH{u:HO}(ok:lU P w H h)(e:Rd H a u):cC P w H h a u:=e.ok ok
theorem uh{kvs:List (Key×V)}(ok:lU P w H h)(e:Rd H a (.dK kvs)):kvs.length<=sizeLine/\(a==sysModules)=false/\∃vs,KV kvs vs/\h.DictOf (bO P w) a vs:=
 show cC P w H h a (.dK kvs)from KH ok e
theorem Tv{kvs:List (Key×V)}(ok:lU P w H h)(e:H a=some (.dK kvs)):kvs.length<=sizeLine/\(a==sysModules)=false/\∃vs,KV kvs vs/\h.DictOf (bO P w) a vs:=uh ok (.inl e)
theorem q_{ks:List Key}(ok:lU P w H h)(e:H a=some (.tup (ks.map kV))):(tupleKind (bO P w)).is h ks a:=by
 obtain⟨_,its,r,o,h1,h2,n,h3⟩:=(show cC P w H h a (.tup (ks.map kV))from ok a _ e)
 exact⟨o,its.toArray,n,h1,h2,h3,by simpa using tZ r⟩
theorem uf{kvs:List (List Key×V)}(ok:lU P w H h)(e:Rd H a (.dT kvs)):kvs.length<=sizeLine/\(a==sysModules)=false/\
  ∃xs,KT H kvs xs/\h.DictOfH (tupleKind (bO P w)) a xs:=by
 obtain⟨z,y,xs,r,o,es,ep,h1,h2,h3,h4,h5⟩:=(show cC P w H h a (.dT kvs)from KH ok e)
 refine⟨z,y,xs,r,o,es,ep,h1,h2,h3,h4,λx hx=>?_,h5⟩
 have all:∀{l:List (List Key×V)}{m:List (List Key×Addr×Value)},KT H l m->∀x∈m,(tupleKind (bO P w)).is h x.1 x.2.1:=by
  intro l m q
  induction q with
  |nil=>intro x hx;exact nomatch hx
  | @cons p q ps qs hq t ih=>
   intro x hx
   rcases List.mem_cons.mp hx with e|hx
   ·subst e
    exact q_ ok (by rw[←hq.1];exact hq.2.1)
   ·exact ih x hx
 exact all r x hx
theorem LK{kvs:List (List Key×V)}(ok:lU P w H h)(e:H a=some (.dT kvs)):kvs.length<=sizeLine/\(a==sysModules)=false/\
  ∃xs,KT H kvs xs/\h.DictOfH (tupleKind (bO P w)) a xs:=uf ok (.inl e)
end
def vK(H:Hp)(a:Addr)(y:V)(r:Option V):Prop:=
 (∃kvs k,Rd H a (.dK kvs)/\y=kV k/\r=kh kvs k)\/∃kvs k b,Rd H a (.dT kvs)/\y=.ref b/\H b=some (.tup (k.map kV))/\r=kh kvs k
def Dq(H:Hp)(a:Addr)(y v:V)(H':Hp):Prop:=
 (∃kvs k,H a=some (.dK kvs)/\y=kV k/\kvs.length<sizeLine/\H'=upd H a (.dK (putK kvs k v)))\/
 ∃kvs k b,H a=some (.dT kvs)/\y=.ref b/\H b=some (.tup (k.map kV))/\kvs.length<sizeLine/\H'=upd H a (.dT (putK kvs k v))
theorem vK.t{H:Hp}{a b:Addr}{kvs:List (List Key×V)}{k:List Key}(e:H a=some (.dT kvs))(eb:H b=some (.tup (k.map kV))):vK H a (.ref b) (kh kvs k):=.inr ⟨kvs,k,b,.inl e,rfl,eb,rfl⟩
theorem Dq.t{H:Hp}{a b:Addr}{kvs:List (List Key×V)}{k:List Key}{v:V}(e:H a=some (.dT kvs))(eb:H b=some (.tup (k.map kV)))(hl:kvs.length<sizeLine):
  Dq H a (.ref b) v (upd H a (.dT (putK kvs k v))):=.inr ⟨kvs,k,b,e,rfl,eb,hl,rfl⟩
section
variable {X:Cx} {pins:List (Addr×Obj)} {σ:St} {H:Hp} {s:Shared} {a:Addr} {y v:V} {u r:Value} {o:Option V} {A:Around} {E:Value->Shared->Prop}
theorem Inv.big(I:Inv X pins σ H s):sysModules<s.heap.objs.size:=by
 have h:mainGlobals<s.heap.objs.size:=(I.mod.glob.keeps I.bk).lt
 exact Nat.lt_trans (by decide) h
theorem CU{Q:Value->Shared->Prop}(hu:A.units+1<cLine)(I:Inv X pins σ H s)(g:vK H a y (some v))(ry:RelV y u)(h:∀w' s',Inv X pins σ H s'->RelV v w'->Q w' s'):
  wpAny (model X.prog X.w) A (getItem (.ref a) u) Q E s:=by
 rcases g with⟨kvs,k,e,ey,l⟩|⟨kvs,k,b,e,ey,eb,l⟩
 ·subst ey
  obtain⟨z,hd,vs,rel,dd⟩:=uh I.hok e
  obtain⟨w',hw,rw'⟩:=ju.some_of (v:=v) (o:=valueAt vs k) (by rw[l];exact rel.val k)
  exact wpAny_getItem_of (Bg ry) dd.mapOf hw (h w' _ (I.tok _) rw')
 ·subst ey
  cases(show u=Value.ref b from ry)
  obtain⟨z,hd,xs,rel,dd⟩:=uf I.hok e
  obtain⟨w',hw,rw'⟩:=ju.some_of (v:=v) (o:=(atKey xs k).map (·.2)) (by rw[l];exact rel.val k)
  obtain⟨p,hp,hp2⟩:=Option.map_eq_some_iff.mp hw
  refine wpAny_getItem_heap (tupleKind_room_in1 hu) (q_ I.hok eb) dd hp ?_
  rw[hp2]
  exact h w' _ (I.tok _) rw'
theorem vn{h':Heap}{t':Nat}{ob:HO}(I:Inv X pins σ H s)(mu:Ua (H a))(hs:Heap.SameBut a s.heap h')(he:∃q,h'.get? a=some q)(new:cC X.prog X.w (upd H a ob) h' a ob):
  Inv X pins σ (upd H a ob) {s with heap:=h',toks:=t'}:=
 I.write (x:=a) (e:=a) mu (.inl rfl) (λb q hb z=>(hs.2 b hb).trans z) he new
theorem Ol{P:Program}{w:World}{H':Hp}{h':Heap}{kvs:List (Key×V)}{vs:List (Key×Value)}(z:kvs.length<=sizeLine)(hd:(a==sysModules)=false)(rel:KV kvs vs)(dd:h'.DictOf (bO P w) a vs):
  cC P w H' h' a (.dK kvs):=⟨z,hd,vs,rel,dd⟩
theorem CT{H':Hp}{Q:Unit->Shared->Prop}(hu:A.units+1<cLine)(I:Inv X pins σ H s)(g:Dq H a y v H')(ry:RelV y u)(rv:RelV v r)(h:∀s',Inv X pins σ H' s'->Q () s'):
  wpAny (model X.prog X.w) A (setItem (.ref a) u r) Q E s:=by
 rcases g with⟨kvs,k,e,ey,l,eH⟩|⟨kvs,k,b,e,ey,eb,l,eH⟩
 ·subst ey eH
  obtain⟨z,hd,vs,rel,dd⟩:=Tv I.hok e
  have hz:vs.length<=sizeLine:=by rw[←rel.length];exact z
  have hl:(putK kvs k v).length<=sizeLine:=by have:=pQ kvs k v;lia
  refine wpAny_setItem_pairs (hsz:=hz) (Bg ry) dd λh' LO hs=>h _ ?_
  have he:∃q,h'.get? a=some q:=let⟨q,_,_,hq,_⟩:=LO;⟨q,hq⟩
  exact vn I (by rw[e];exact True.intro) hs he (Ol hl hd (rel.put k rv) LO)
 ·subst ey eH
  cases(show u=Value.ref b from ry)
  obtain⟨z,hd,xs,rel,dd⟩:=LK I.hok e
  have hz:xs.length<=sizeLine:=by rw[←Paired.length rel];exact z
  have hl:(putK kvs k v).length<=sizeLine:=by have:=pQ kvs k v;lia
  refine wpAny_setItem_heap (hsz:=hz) (tupleKind_room_in1 hu) (q_ I.hok eb) dd λh' LO hs=>h _ ?_
  obtain⟨q,es,ep,hq,h2,h3,h4,_,h5⟩:=LO
  refine vn I (by rw[e];exact True.intro) hs ⟨q,hq⟩ ⟨hl,hd,_,(rel.put k eb rv).keeps λc ys ec=>?_,q,es,ep,hq,h2,h3,h4,h5⟩
  rw[ai (aT ec e (λz=>nomatch z))]
  exact ec
end
section
variable {X:Cx} {pins:List (Addr×Obj)} {σ:St} {H:Hp} {s:Shared} {a:Addr} {kvs:List (Key×V)} {k:Key} {u:Value} {A:Around} {E:Value->Shared->Prop}
end
def T_(i:Expr):Prop:=∀ov iv,subscripted i false ov iv=operate [ov,iv] (getItem ov iv)
theorem HZ{prog:Program}{w:World}{A:Around}{E:Value->Shared->Prop}{s:Shared}{env:Env}{value slice:Expr}{pos:Pos}{T id:String}{Q:Value->Shared->Prop}
  (hl:typeLookup (.type T) "__getitem__"=pure (some (.builtin id)))(hs:T_ slice)
  (h:wpAny (model prog w) A (eval value env) (λo s₁=>wpAny (model prog w) A (eval slice env) (λi s₂=>s₂.TypeIs o T/\wpAny (model prog w) A (getItem o i) Q E s₂) E s₁) E s):
  wpAny (model prog w) A (eval (.Subscript value slice pos) env) Q E s:=by
 refine Subscript_ (wpAny_mono h (λo s₁ h₁=>wpAny_mono h₁ (λi s₂ h₂=>?_) λ_ _ x=>x) λ_ _ x=>x)
 obtain⟨hT,h₂⟩:=h₂
 unfold subscriptTail
 refine wpAny_bind ?_
 rw[getitemInPython_of_ne hT.not_modules]
 refine wpAny_bind (wpAny_specialOf hT hl ?_)
 have fin:wpAny (model prog w) A (subscripted slice false o i) (λr s₃=>wpAny (model prog w) A (letTemporaryGo value o r >>= λ_=>pure r) Q E s₃) E s₂:=by
  rw[hs o i]
  exact wpAny_operating (wpAny_mono h₂ (λr s₃ h₃=>wpAny_bind (wpAny_letTemporaryGo (wpAny_pure h₃))) λ_ _ x=>x)
 first
  |exact wpAny_pure (wpAny_bind fin)
  |exact wpAny_bind (wpAny_pure (wpAny_bind fin))
  |exact wpAny_bind fin
theorem xT{X:Cx}{pins:List (Addr×Obj)}{σ:St}{H:Hp}{s:Shared}{a:Addr}{y:V}{o:Option V}(I:Inv X pins σ H s)(g:vK H a y o):s.TypeIs (.ref a) "dict":=by
 rcases g with⟨kvs,k,e,_,_⟩|⟨kvs,k,b,e,_,_,_⟩
 ·obtain⟨_,_,vs,_,dd⟩:=uh I.hok e
  exact dd.typeIs
 ·obtain⟨_,_,xs,_,dd⟩:=uf I.hok e
  exact dd.typeIs
inductive DZ(Q:VK)(x:V)(y:V)(H2:Hp):Prop
 |mk(a:_)(v:_):(x=.ref a)->(vK H2 a y (some v))->(Q v H2)->DZ Q x y H2
def PX(td ty:TE):TE:=λσ H Q=>td σ H λx H1=>ty σ H1 λy H2=>DZ Q x y H2
inductive EM(D:Ends)(σ:St)(v:V)(x:V)(y:V)(H3:Hp):Prop
 |mk(a:_)(H4:_):(x=.ref a)->(Dq H3 a y v H4)->(D.nx σ H4)->EM D σ v x y H3
def Qs(td ty tv:TE):TS:=λD σ H=>tv σ H λv H1=>td σ H1 λx H2=>ty σ H2 λy H3=>EM D σ v x y H3
section
variable {X:Cx} {o i e value:Expr} {pos pos' tpos:Pos} {td ty tv:TE}
theorem IE(hu:X.A.units+1<cLine)(ho:PE X o td)(hi:PE X i ty)(hs:T_ i):PE X (.Subscript o i pos) (PX td ty):=by
 intro pins s σ H Q I h
 refine HZ PySem.F.slot_dict_getitem.lookup hs (dI (ho pins s σ H _ I h) λu s1 ⟨x,H1,I1,rx,q1⟩=>dI (hi pins s1 σ H1 _ I1 q1) λiv s2 ⟨y,H2,I2,ry,a,v,ex,g,q2⟩=>?_)
 subst ex
 obtain rfl:u=Value.ref a:=rx
 exact⟨xT I2 g,CU hu I2 g ry λw' s3 I3 rw'=>⟨v,H2,I3,rw',q2⟩⟩
theorem AO(hu:X.A.units+1<cLine)(ho:PE X o td)(hi:PE X i ty)(hv:PE X value tv)(hs:swapsWith value (some (.Subscript o i pos')) pos.line X.env=pure false):
  PS X (.Assign [.Subscript o i pos'] value pos) (Qs td ty tv):=by
 intro pins s σ H D I h
 refine wpAny_Assign_Subscript (dI (hv pins s σ H _ I h) λr s1 ⟨v,H1,I1,rv,q1⟩=>dI (ho pins s1 σ H1 _ I1 q1) λu s2 ⟨x,H2,I2,rx,q2⟩=>dI (hi pins s2 σ H2 _ I2 q2) λiv s3 ⟨y,H3,I3,ry,a,H4,ex,g,q3⟩=>?_) hs
 subst ex
 obtain rfl:u=Value.ref a:=rx
 exact CT hu I3 g ry rv λs4 I4=>⟨σ,H4,I4,q3⟩
end
theorem GQ{P:Program}{w:World}{H:Hp}(h:Heap)(hb:sysModules<h.objs.size):cC P w H (h.push {cls:=.type "dict",data:=.dict #[]}) h.objs.size (.dT []):=
 ⟨Nat.zero_le _,beq_eq_false_iff_ne.mpr (Ne.symm (Nat.ne_of_lt hb)),[],.nil,_,#[],0,Heap.get?_push_size _ rfl,⟨rfl,rfl,rfl⟩,rfl,rfl,List.nodup_nil⟩
def LX:TE:=λ_ H Q=>∀p,H p=none->Q (.ref p) (upd H p (.dT []))
section
variable {X:Cx} {pos:Pos}
theorem wV:PE X (.Dict [] [] pos) LX:=λpins s σ H Q I h=>
 wpAny_Dict_empty ⟨.ref s.heap.objs.size,_,I.laid (a:=s.heap.objs.size) (o:=.dT []) (t':=s.toks) (λ_ _ q=>Heap.get?_push_of_some _ q) (Nat.le_refl _) (GQ s.heap I.big),rfl,h _ (I.hok.fresh (Nat.le_refl _))⟩
end
structure M1(X:Cx)(o:Expr)(m:Str)(apos:Pos)(e:Expr)(cpos:Pos):Prop where
 base:attributeBase o m X.env (eval o X.env)=eval o X.env
 few:((backTo cpos (starEach [e] X.env)).all (λx=> !x.1)&&(backToKw cpos (keywordEach [] X.env)).all (λx=>x.1.isSome)
  && decide (([e]:List Expr).length+([]:List Keyword).length+(if([]:List Keyword).isEmpty then 0 else 1)<30))=true
 line:(apos.endLine==cpos.line)=true
 trees:backTo cpos (starEach [e] X.env)=[(false,eval e X.env)]
structure M2(X:Cx)(o:Expr)(m:Str)(apos:Pos)(e f:Expr)(cpos:Pos):Prop where
 base:attributeBase o m X.env (eval o X.env)=eval o X.env
 few:((backTo cpos (starEach [e,f] X.env)).all (λx=> !x.1)&&(backToKw cpos (keywordEach [] X.env)).all (λx=>x.1.isSome)
  && decide (([e,f]:List Expr).length+([]:List Keyword).length+(if([]:List Keyword).isEmpty then 0 else 1)<30))=true
 line:(apos.endLine==cpos.line)=true
 trees:backTo cpos (starEach [e,f] X.env)=[(false,eval e X.env),(false,eval f X.env)]
def Vc(H:Hp)(a:Addr):Prop:=(∃kvs,Rd H a (.dK kvs))\/∃kvs,Rd H a (.dT kvs)
theorem Gu{X:Cx}{pins:List (Addr×Obj)}{σ:St}{H:Hp}{s:Shared}{a:Addr}(I:Inv X pins σ H s)(d:Vc H a):
  s.TypeIs (.ref a) "dict"/\(∀b,Value.ref a=.ref b->∃ob,s.heap.get? b=some ob/\ob.dict=none)/\(a==sysModules)=false:=by
 rcases d with⟨kvs,e⟩|⟨kvs,e⟩
 ·obtain⟨_,hd,vs,_,dd⟩:=uh I.hok e
  refine⟨dd.typeIs,λb q=>?_,hd⟩
  cases q
  obtain⟨ob,_,_,h1,h2,_⟩:=dd
  exact⟨ob,h1,h2.2.1⟩
 ·obtain⟨_,hd,xs,_,dd⟩:=uf I.hok e
  refine⟨dd.typeIs,λb q=>?_,hd⟩
  cases q
  obtain⟨ob,_,_,h1,h2,_⟩:=dd
  exact⟨ob,h1,h2.2.1⟩
section
variable {X:Cx} {pins:List (Addr×Obj)} {σ:St} {H:Hp} {s:Shared} {a:Addr} {y d:V} {u r:Value} {o:Option V} {A:Around} {E:Value->Shared->Prop}
theorem Ou{Q:Value->Shared->Prop}(hu:A.units+1<cLine)(I:Inv X pins σ H s)(g:vK H a y o)(ry:RelV y u)(rd:RelV d r)(h:∀w' s',Inv X pins σ H s'->RelV (o.getD d) w'->Q w' s'):
  wpAny (model X.prog X.w) A (call (.builtin "dict.get") [.ref a,u,r]) Q E s:=by
 rcases g with⟨kvs,k,e,ey,l⟩|⟨kvs,k,b,e,ey,eb,l⟩
 ·subst ey
  obtain⟨z,hd,vs,rel,dd⟩:=uh I.hok e
  refine call_meetsIn PySem.F.slot_dict_get dd.typeIs PySem.F.entry_dict_get (PySem.F.args_dict_get_3 _ _ _) (meets_dict_get_default (bO X.prog X.w) a (Bg ry) hd r) ⟨_,dd.mapOf,h _ _ (I.tok _) ?_⟩
  rw[l]
  exact(rel.val k).getD rd
 ·subst ey
  cases(show u=Value.ref b from ry)
  obtain⟨z,hd,xs,rel,dd⟩:=uf I.hok e
  refine call_meetsIn PySem.F.slot_dict_get dd.typeIs PySem.F.entry_dict_get (PySem.F.args_dict_get_3 _ _ _) (meetsH_dict_get_default (tupleKind (bO X.prog X.w)) a b hd r) ⟨tupleKind_room_in1 hu,k,xs,q_ I.hok eb,dd,h _ _ (I.tok _) ?_⟩
  rw[l]
  exact(rel.val k).getD rd
end
inductive Ac(ty:TE)(tx:TE)(σ:St)(Q:VK)(x:V)(H1:Hp):Prop
 |mk(a:_):(x=.ref a)->(Vc H1 a)->(ty σ H1 λy H2=>tx σ H2 λz H3=>∃o,vK H3 a y o/\Q (o.getD z) H3)->Ac ty tx σ Q x H1
def LY(td ty tx:TE):TE:=λσ H Q=>td σ H λx H1=>Ac ty tx σ Q x H1
section
variable {X:Cx} {o e f:Expr} {apos cpos:Pos} {td ty tx:TE}
theorem FD(hu:X.A.units+1<cLine)(ho:PE X o td)(he:PE X e ty)(hf:PE X f tx)(m:M2 X o "get" apos e f cpos):PE X (.Call (.Attribute o "get" apos) [e,f] [] cpos) (LY td ty tx):=by
 intro pins s σ H Q I h
 refine wpAny_Call_method m.base m.few m.line PySem.F.plainAttrs_dict PySem.F.slot_dict_get PySem.F.type_dict_get (dI (ho pins s σ H _ I h) λu s1 ⟨x,H1,I1,rx,a,ex,d,q1⟩=>?_)
 subst ex
 obtain rfl:u=Value.ref a:=rx
 obtain⟨t1,t2,_⟩:=Gu I1 d
 refine⟨t1,t2,?_⟩
 rw[m.trees]
 refine Calls.callWith_builtin rfl (Calls.evalArgs_plain (Calls.spliced_cons (dI (he pins s1 σ H1 _ I1 q1) λiv s2 ⟨y,H2,I2,ry,q2⟩=>
  Calls.spliced_cons (dI (hf pins s2 σ H2 _ I2 q2) λfv s3 ⟨z,H3,I3,rz,ov,g,q3⟩=>Calls.spliced_nil ?_))))
 exact Ou hu I3 g ry rz λw' s4 I4 rw'=>⟨_,H3,I4,rw',q3⟩
end
section
variable {X:Cx} {pins:List (Addr×Obj)} {σ:St} {H:Hp} {s:Shared} {a:Addr} {kvs:List (Key×V)} {A:Around} {E:Value->Shared->Prop}
end
section
variable {X:Cx} {pins:List (Addr×Obj)} {σ:St} {H:Hp} {s:Shared} {a:Addr} {y:V} {u:Value} {A:Around} {E:Value->Shared->Prop}
end
section
variable {X:Cx}
end
section
variable {κ:Type} [DecidableEq κ]
end
end L2
namespace TS
open PySem PyProof.Rows
abbrev SM:=StateT SortSt Sem
def vh:Bool->Keyed->Array Keyed->Nat->Nat->Nat->SM (Option Nat):=sortPriv% PySem.Builtin.gallop
def byd(left:Bool)(key:Keyed)(arr:Array Keyed)(base i:Nat):SM (Option Bool):=elem' arr (base+i) >>= λx=>if left=true then lt' x key else lt' key x >>= λr=>pure (r.map λb=> !b)
def bin(p:Nat->SM (Option Bool))(n lo hi:Nat):SM (Option Nat):=
 (forIn [:n] ((none,lo,hi):Option (Option Nat)×Nat×Nat) λ_ c=>
  if c.2.1≥c.2.2 then pure (.done (none,c.2.1,c.2.2))else p (c.2.1+(c.2.2-c.2.1)/2) >>= λx=>match x with
   |some z=>if z=true then pure (.yield (none,c.2.1+(c.2.2-c.2.1)/2+1,c.2.2))else pure (.yield (none,c.2.1,c.2.1+(c.2.2-c.2.1)/2))
   |_=>pure (.done (some none,c.2.1,c.2.2))) >>= λc=>match c.1 with
  |some r=>pure r
  |none=>pure (some c.2.2)
def upw(p:Nat->SM (Option Bool))(n hint m:Nat):SM (Option (Option Nat)×Nat×Nat):=
 forIn [:n] ((none,0,1):Option (Option Nat)×Nat×Nat) λ_ c=>
  if c.2.2≥m then pure (.done (none,c.2.1,c.2.2))else p (hint+c.2.2) >>= λx=>match x with
   |some z=>if(!z)=true then pure (.done (none,c.2.1,c.2.2))else pure (.yield (none,c.2.2,2*c.2.2+1))
   |_=>pure (.done (some none,c.2.1,c.2.2))
def dnw(p:Nat->SM (Option Bool))(n hint m:Nat):SM (Option (Option Nat)×Nat×Nat):=
 forIn [:n] ((none,0,1):Option (Option Nat)×Nat×Nat) λ_ c=>
  if c.2.2≥m then pure (.done (none,c.2.1,c.2.2))else p (hint-c.2.2) >>= λx=>match x with
   |some z=>if z=true then pure (.done (none,c.2.1,c.2.2))else pure (.yield (none,c.2.2,2*c.2.2+1))
   |_=>pure (.done (some none,c.2.1,c.2.2))
def XT(p:Nat->SM (Option Bool))(n hint:Nat):SM (Option Nat):=p hint >>= λx=>match x with
  |some z=>if z=true then upw p n hint (n-hint) >>= λc=>(match c.1 with
       |some r=>pure r
       |none=>bin p n (hint+c.2.1+1) (hint+min c.2.2 (n-hint)))
      else dnw p n hint (hint+1) >>= λc=>(match c.1 with
        |some r=>pure r
        |none=>bin p n (hint+1-min c.2.2 (hint+1)) (hint-c.2.1))
  |_=>pure none
theorem bnd{α β:Type}(m:SM α){f g:α->SM β}(h:∀x,f x=g x):(m >>= f)=(m >>= g):=by rw[funext h]
theorem lop{β:Type}(n:Nat)(c:β){f g:Nat->β->SM (ForInStep β)}(h:∀i x,f i x=g i x):(forIn [:n] c f)=(forIn [:n] c g):=by rw[funext λi=>funext (h i)]
theorem JL{α β:Type}{m m':SM α}{f g:α->SM β}(h0:m=m')(h:∀x,f x=g x):(m >>= f)=(m' >>= g):=by rw[h0,funext h]
theorem zp(left:Bool)(key:Keyed)(arr:Array Keyed)(base n hint:Nat):vh left key arr base n hint=XT (byd left key arr base) n hint:=by
 unfold vh XT
 refine bnd _ λx=>?_
 cases x with
 |none=>rfl
 |some z=>
  cases z with
  |true=>
   refine JL (lop _ _ λi c=>?_) λc=>?_
   ·obtain⟨r,l,o⟩:=c
    refine ite_congr rfl (λ_=>rfl) (λ_=>bnd _ λx=>?_)
    cases x<;>rfl
   ·obtain⟨r,l,o⟩:=c
    cases r with
    |some r=>rfl
    |none=>
     refine JL (lop _ _ λi c=>?_) λc=>?_
     ·obtain⟨r,l,o⟩:=c
      refine ite_congr rfl (λ_=>rfl) (λ_=>bnd _ λx=>?_)
      cases x<;>rfl
     ·obtain⟨r,l,o⟩:=c
      cases r<;>rfl
  |false=>
   refine JL (lop _ _ λi c=>?_) λc=>?_
   ·obtain⟨r,l,o⟩:=c
    refine ite_congr rfl (λ_=>rfl) (λ_=>bnd _ λx=>?_)
    cases x<;>rfl
   ·obtain⟨r,l,o⟩:=c
    cases r with
    |some r=>rfl
    |none=>
     refine JL (lop _ _ λi c=>?_) λc=>?_
     ·obtain⟨r,l,o⟩:=c
      refine ite_congr rfl (λ_=>rfl) (λ_=>bnd _ λx=>?_)
      cases x<;>rfl
     ·obtain⟨r,l,o⟩:=c
      cases r<;>rfl
structure Ord(S:Keyed->Prop)(blt:Keyed->Keyed->Bool):Prop where
 Gv:∀x,S x->blt x x=false
 zK:∀x y,S x->S y->blt x y=true->blt y x=false
 tr:∀x y z,S x->S y->S z->blt y x=false->blt z y=false->blt z x=false
def By(prog:Program)(w:World)(A:Around)(E:Value->Shared->Prop)(s:Shared)(κ:SortKind)(S:Keyed->Prop)(blt:Keyed->Keyed->Bool):Prop:=
 ∀(x y:Keyed)(st:SortSt)(Q:Option Bool->SortSt->Prop),S x->S y->kindOf st=κ->Q (some (blt x y)) st->wpS (model prog w) A E s (lt' x y) Q st
section
variable {prog:Program} {w:World} {A:Around} {E:Value->Shared->Prop} {s:Shared} {κ:SortKind} {S:Keyed->Prop} {blt:Keyed->Keyed->Bool}
theorem cU{arr:Array Keyed}{i:Nat}{p:Keyed}{Q:Keyed->SortSt->Prop}{st:SortSt}(h:arr[i]? = some p)(hq:Q p st):wpS (model prog w) A E s (elem' arr i) Q st:=by
 rw[elem'_eq,h]
 exact wpS_pure hq
theorem PC(C:By prog w A E s κ S blt){left:Bool}{key x:Keyed}{arr:Array Keyed}{base i:Nat}{st:SortSt}{Q:Option Bool->SortSt->Prop}(hk:kindOf st=κ)(hx:arr[base+i]? = some x)(sx:S x)(sk:S key)
  (hq:Q (some (if left=true then blt x key else !blt key x)) st):wpS (model prog w) A E s (byd left key arr base i) Q st:=by
 refine wpS_bind (cU hx ?_)
 cases left with
 |true=>exact C x key st _ sx sk hk hq
 |false=>exact wpS_bind (C key x st _ sk sx hk (wpS_pure hq))
def Tst(prog:Program)(w:World)(A:Around)(E:Value->Shared->Prop)(s:Shared)(p:Nat->SM (Option Bool))(P:Nat->Bool)(n:Nat)(st:SortSt):Prop:=
 ∀(i:Nat)(Q:Option Bool->SortSt->Prop),i<n->Q (some (P i)) st->wpS (model prog w) A E s (p i) Q st
theorem sV{p:Nat->SM (Option Bool)}{P:Nat->Bool}{n lo hi:Nat}{st:SortSt}{Q:Option Nat->SortSt->Prop}(T:Tst prog w A E s p P n st)(mono:∀i j,i<=j->j<n->P j=true->P i=true)(hlh:lo<=hi)(hhn:hi<=n)
  (h1:∀i,i<lo->P i=true)(h2:∀i,hi<=i->i<n->P i=false)(hq:∀k,k<=n->(∀i,i<k->P i=true)->(∀i,k<=i->i<n->P i=false)->Q (some k) st):wpS (model prog w) A E s (bin p n lo hi) Q st:=by
 refine wpS_bind (wpS_forRange (λi c st'=>st'=st/\c.1=none/\c.2.1<=c.2.2/\c.2.2<=n/\c.2.2-c.2.1+i<=n/\(∀i,i<c.2.1->P i=true)/\∀i,c.2.2<=i->i<n->P i=false) ?_ ?_ ⟨rfl,rfl,hlh,hhn,by simp only;lia,h1,h2⟩)
 ·rintro i ⟨r,l,h⟩ st' _ hi ⟨rfl,rfl,a1,a2,a3,a4,a5⟩
  simp only at a1 a2 a3 a4 a5 ⊢
  by_cases hc:l≥h
  ·rw[if_pos hc]
   refine wpS_pure ?_
   have e:l=h:=by lia
   subst e
   exact wpS_pure (hq l a2 a4 a5)
  ·rw[if_neg hc]
   have hm:l+(h-l)/2<n:=by lia
   refine wpS_bind (T _ _ hm ?_)
   cases z:P (l+(h-l)/2)with
   |true=>
    refine wpS_pure ⟨rfl,rfl,?_,a2,?_,λj hj=>?_,a5⟩
    ·simp only;lia
    ·simp only;lia
    ·simp only at hj
     exact mono j _ LI hm z
   |false=>
    refine wpS_pure ⟨rfl,rfl,?_,?_,?_,a4,λj hj hjn=>?_⟩
    ·simp only;lia
    ·simp only;lia
    ·simp only;lia
    ·simp only at hj
     cases y:P j with
     |false=>rfl
     |true=>
      have:=mono _ j hj hjn y
      rw[z]at this
      cases this
 ·rintro⟨r,l,h⟩ st' ⟨rfl,rfl,a1,a2,a3,a4,a5⟩
  simp only at a1 a2 a3 a4 a5 ⊢
  have e:l=h:=by lia
  subst e
  exact wpS_pure (hq l a2 a4 a5)
theorem PB{p:Nat->SM (Option Bool)}{P:Nat->Bool}{n hint:Nat}{st:SortSt}{Q:Option Nat->SortSt->Prop}(T:Tst prog w A E s p P n st)(mono:∀i j,i<=j->j<n->P j=true->P i=true)(hh:hint<n)
  (hq:∀k,k<=n->(∀i,i<k->P i=true)->(∀i,k<=i->i<n->P i=false)->Q (some k) st):wpS (model prog w) A E s (XT p n hint) Q st:=by
 have dn:∀i j,i<=j->j<n->P i=false->P j=false:=λi j hij hj z=>by
  cases y:P j with
  |false=>rfl
  |true=>
   have:=mono i j hij hj y
   rw[z]at this
   cases this
 refine wpS_bind (T _ _ hh ?_)
 cases z:P hint with
 |true=>
  refine wpS_bind (wpS_forRange (λi c st'=>st'=st/\c.1=none/\i<c.2.2/\c.2.1<c.2.2/\hint+c.2.1<n/\P (hint+c.2.1)=true) ?_ ?_ ⟨rfl,rfl,by simp,by simp,by simpa using hh,by simpa using z⟩)
  ·rintro i ⟨r,l,o⟩ st' _ hi ⟨rfl,rfl,a1,a2,a3,a4⟩
   simp only at a1 a2 a3 a4 ⊢
   by_cases hc:o≥n-hint
   ·rw[if_pos hc]
    refine wpS_pure ?_
    refine sV T mono (by simp only;lia) (by simp only;lia) (λj hj=>mono j _ (by simp only at hj;lia) a3 a4) (λj hj hjn=>?_) hq
    simp only at hj
    lia
   ·rw[if_neg hc]
    refine wpS_bind (T _ _ LI ?_)
    cases y:P (hint+o)with
    |true=>exact wpS_pure ⟨rfl,rfl,by simp only;lia,by simp only;lia,by simp only;lia,y⟩
    |false=>
     refine wpS_pure ?_
     refine sV T mono (by simp only;lia) (by simp only;lia) (λj hj=>mono j _ (by simp only at hj;lia) a3 a4) (λj hj hjn=>dn _ j ?_ hjn y) hq
     simp only at hj
     lia
  ·rintro⟨r,l,o⟩ st' ⟨rfl,rfl,a1,a2,a3,a4⟩
   simp only at a1 a2 a3 a4 ⊢
   refine sV T mono LI LI (λj hj=>mono j _ LI a3 a4) (λj hj hjn=>?_) hq
   lia
 |false=>
  refine wpS_bind (wpS_forRange (λi c st'=>st'=st/\c.1=none/\i<c.2.2/\c.2.1<c.2.2/\c.2.1<=hint/\P (hint-c.2.1)=false) ?_ ?_ ⟨rfl,rfl,by simp,by simp,by simp,by simpa using z⟩)
  ·rintro i ⟨r,l,o⟩ st' _ hi ⟨rfl,rfl,a1,a2,a3,a4⟩
   simp only at a1 a2 a3 a4 ⊢
   by_cases hc:o≥hint+1
   ·rw[if_pos hc]
    refine wpS_pure ?_
    refine sV T mono (by simp only;lia) (by simp only;lia) (λj hj=>?_) (λj hj hjn=>dn _ j (by simp only at hj;lia) hjn a4) hq
    simp only at hj
    lia
   ·rw[if_neg hc]
    refine wpS_bind (T _ _ LI ?_)
    cases y:P (hint-o)with
    |false=>exact wpS_pure ⟨rfl,rfl,by simp only;lia,by simp only;lia,by simp only;lia,y⟩
    |true=>
     refine wpS_pure ?_
     refine sV T mono (by simp only;lia) (by simp only;lia) (λj hj=>mono j _ ?_ LI y) (λj hj hjn=>dn _ j (by simp only at hj;lia) hjn a4) hq
     simp only at hj
     lia
  ·rintro⟨r,l,o⟩ st' ⟨rfl,rfl,a1,a2,a3,a4⟩
   simp only at a1 a2 a3 a4 ⊢
   refine sV T mono LI LI (λj hj=>?_) (λj hj hjn=>dn _ j LI hjn a4) hq
   lia
theorem iU(O:Ord S blt)(C:By prog w A E s κ S blt){left:Bool}{key:Keyed}{arr:Array Keyed}{base n hint:Nat}{X:Nat->Keyed}{st:SortSt}{Q:Option Nat->SortSt->Prop}(hk:kindOf st=κ)
  (hX:∀i,i<n->arr[base+i]? = some (X i))(hS:∀i,i<n->S (X i))(sk:S key)(Kn:∀i j,i<=j->j<n->blt (X j) (X i)=false)(hh:hint<n)
  (hq:∀k,k<=n->(∀i,i<k->(if left=true then blt (X i) key else !blt key (X i))=true)->(∀i,k<=i->i<n->(if left=true then blt (X i) key else !blt key (X i))=false)->Q (some k) st):
  wpS (model prog w) A E s (vh left key arr base n hint) Q st:=by
 rw[zp]
 refine PB (P:=λi=>if left=true then blt (X i) key else !blt key (X i)) (λi Q' hi hQ'=>PC C hk (hX i hi) (hS i hi) sk hQ') (λi j hij hj z=>?_) hh hq
 have l1:=Kn i j hij hj
 cases left with
 |true=>
  simp only[if_true]at z ⊢
  cases y:blt (X i) key with
  |true=>rfl
  |false=>
   have:=O.tr key (X i) (X j) sk (hS i LI) (hS j hj) y l1
   rw[z]at this
   cases this
 |false=>
  simp only[Bool.false_eq_true,if_false,Bool.not_eq_true']at z ⊢
  exact O.tr (X i) (X j) key (hS i LI) (hS j hj) sk l1 z
end
abbrev rR(blt:Keyed->Keyed->Bool)(l:List Keyed):Prop:=l.Pairwise λx y=>blt y x=false
structure Lo(blt:Keyed->Keyed->Bool)(T o ra rb:List Keyed):Prop where
 perm:(o++(ra++rb)).Perm T
 so:rR blt o
 sa:rR blt ra
 sb:rR blt rb
 low:∀x∈o,∀y∈ra++rb,blt y x=false
structure Good(blt:Keyed->Keyed->Bool)(T:List Keyed)(r:Array Keyed):Prop where
 perm:r.toList.Perm T
 Kn:rR blt r.toList
theorem Lo.mC{blt:Keyed->Keyed->Bool}{T o p ra rb:List Keyed}(h:Lo blt T o (p++ra) rb)(hx:∀x∈p,∀y∈rb,blt y x=false):Lo blt T (o++p) ra rb:=by
 obtain⟨h1,h2,h3,h4,h5⟩:=h
 have h3':=List.pairwise_append.mp h3
 refine⟨?_,?_,h3'.2.1,h4,λx hx' y hy=>?_⟩
 ·have e:o++p++(ra++rb)=o++(p++ra++rb):=by simp
  rw[e]
  exact h1
 ·exact List.pairwise_append.mpr ⟨h2,h3'.1,λx hx' y hy=>h5 x hx' y (by simp[hy])⟩
 ·rcases List.mem_append.mp hx' with z|z
  ·exact h5 x z y (by rcases List.mem_append.mp hy with q|q<;>simp[q])
  ·rcases List.mem_append.mp hy with q|q
   ·exact h3'.2.2 x z y q
   ·exact hx x z y q
theorem Lo.pJ{blt:Keyed->Keyed->Bool}{T o p ra rb:List Keyed}(h:Lo blt T o ra (p++rb))(hx:∀x∈p,∀y∈ra,blt y x=false):Lo blt T (o++p) ra rb:=by
 obtain⟨h1,h2,h3,h4,h5⟩:=h
 have NP:=List.pairwise_append.mp h4
 refine⟨?_,?_,h3,NP.2.1,λx hx' y hy=>?_⟩
 ·refine List.Perm.trans ?_ h1
  rw[List.append_assoc]
  refine List.Perm.append_left o ?_
  rw[←List.append_assoc,←List.append_assoc]
  exact List.Perm.append_right rb List.perm_append_comm
 ·exact List.pairwise_append.mpr ⟨h2,NP.1,λx hx' y hy=>h5 x hx' y (by simp[hy])⟩
 ·rcases List.mem_append.mp hx' with z|z
  ·exact h5 x z y (by rcases List.mem_append.mp hy with q|q<;>simp[q])
  ·rcases List.mem_append.mp hy with q|q
   ·exact hx x z y q
   ·exact NP.2.2 x z y q
theorem Lo.end{blt:Keyed->Keyed->Bool}{T o:List Keyed}(h:Lo blt T o [] []):o.Perm T/\rR blt o:=⟨by simpa using h.perm,h.so⟩
theorem Lo.JA{blt:Keyed->Keyed->Bool}{T o ra:List Keyed}(h:Lo blt T o ra []):(o++ra).Perm T/\rR blt (o++ra):=by
 have h':Lo blt T o (ra++[]) []:=by rw[List.append_nil];exact h
 exact(h'.mC λ_ _ _ z=>by cases z).end
theorem Lo.Jz{blt:Keyed->Keyed->Bool}{T o rb:List Keyed}(h:Lo blt T o [] rb):(o++rb).Perm T/\rR blt (o++rb):=by
 have h':Lo blt T o [] (rb++[]):=by rw[List.append_nil];exact h
 exact(h'.pJ λ_ _ _ z=>by cases z).end
theorem drop_cons{l:List Keyed}{i:Nat}{x:Keyed}(h:l[i]? = some x):l.drop i=x::l.drop (i+1):=by
 obtain⟨hi,e⟩:=List.getElem?_eq_some_iff.mp h
 rw[List.drop_eq_getElem_cons hi,e]
theorem rE(l:List Keyed)(i k:Nat):l.drop i=(l.drop i).take k++l.drop (i+k):=by
 rw[←List.drop_drop,List.take_append_drop]
theorem aG{a:Array Keyed}{i:Nat}{x:Keyed}(h:a[i]? = some x):a.toList[i]? = some x:=by simpa using h
theorem aB{a:Array Keyed}{i:Nat}(h:i<a.size):a[i]? = some a[i]:=by simp[h]
theorem ext_toList(a:Array Keyed)(i j:Nat):(a.extract i j).toList=(a.toList.drop i).take (j-i):=by simp
theorem qD(a:Array Keyed)(i:Nat):(a.extract i a.size).toList=a.toList.drop i:=by
 rw[ext_toList]
 exact List.take_of_length_le (by simp)
theorem kR{blt:Keyed->Keyed->Bool}{S:Keyed->Prop}(O:Ord S blt){l:List Keyed}(hs:rR blt l)(hS:∀x∈l,S x){i j:Nat}{x y:Keyed}(hx:l[i]? = some x)(hy:l[j]? = some y)(hij:i<=j):blt y x=false:=by
 obtain⟨hi,rfl⟩:=List.getElem?_eq_some_iff.mp hx
 obtain⟨hj,rfl⟩:=List.getElem?_eq_some_iff.mp hy
 by_cases e:i=j
 ·subst e
  exact O.Gv _ (hS _ (List.getElem_mem hi))
 ·exact List.pairwise_iff_getElem.mp hs i j hi hj LI
theorem jE{blt:Keyed->Keyed->Bool}{S:Keyed->Prop}(O:Ord S blt){l:List Keyed}(hs:rR blt l)(hS:∀x∈l,S x){i:Nat}{x y:Keyed}(hx:l[i]? = some x)(hy:y∈l.drop i):blt y x=false:=by
 obtain⟨k,hk,rfl⟩:=List.mem_iff_getElem.mp hy
 have hk':k<l.length-i:=by simpa using hk
 have e:l[i+k]? = some (l.drop i)[k]:=by
  rw[List.getElem_drop]
  exact List.getElem?_eq_getElem LI
 exact kR O hs hS hx e LI
abbrev setG(st:SortSt)(g:Nat):SortSt:=SortSt.mk' (kindOf st) (arrOf st) (pendingOf st) g (failedOf st)
theorem jV(st:SortSt):setG st (gallopOf st)=st:=rfl
def FU:Array Keyed->Array Keyed->SM (Array Keyed):=sortPriv% PySem.Builtin.mergeLo
section
variable {prog:Program} {w:World} {A:Around} {E:Value->Shared->Prop} {s:Shared} {κ:SortKind} {S:Keyed->Prop} {blt:Keyed->Keyed->Bool}
theorem nK{x:String}{Q:Unit->SortSt->Prop}{st:SortSt}(h:Q () st):wpS (model prog w) A E s (liftM (rule x):SM Unit) Q st:=wpS_lift (wpAny_rule ⟨rfl,h⟩)
theorem UY{st st':SortSt}{c1:Prop}{R:Nat->Prop}{G:SortSt->Prop}(h:∃g,st'=setG st g/\c1/\∃rem,R rem)(k:∀g rem,R rem->G (setG st g)):G st':=let⟨g,e,_,rem,r⟩:=h;e▸k g rem r
theorem el0{st st':SortSt}{c1 P:Prop}{G:SortSt->Prop}(h:∃g,st'=setG st g/\c1/\P)(k:∀g,P->G (setG st g)):G st':=let⟨g,e,_,r⟩:=h;e▸k g r
theorem UX{st st':SortSt}{P:Prop}{G:SortSt->Prop}(h:st'=st/\P)(k:P->G st):G st':=let⟨e,r⟩:=h;e▸k r
theorem zV{α β γ:Type}{m:SM γ}{R:γ->SortSt->Prop}{st:SortSt}(jp:α->β->SM γ)(P:α->β->SortSt->Prop)(h1:∀x y st,P x y st->wpS (model prog w) A E s (jp x y) R st)
  (h2:(∀x y st,P x y st->wpS (model prog w) A E s (jp x y) R st)->wpS (model prog w) A E s m R st):wpS (model prog w) A E s m R st:=h2 h1
theorem qx{α β δ γ:Type}{m:SM γ}{R:γ->SortSt->Prop}{st:SortSt}(jp:α->β->δ->SM γ)(P:α->β->δ->SortSt->Prop)(h1:∀x y z st,P x y z st->wpS (model prog w) A E s (jp x y z) R st)
  (h2:(∀x y z st,P x y z st->wpS (model prog w) A E s (jp x y z) R st)->wpS (model prog w) A E s m R st):wpS (model prog w) A E s m R st:=h2 h1
theorem w_ite{α:Type}{c:Prop}[Decidable c]{m n:SM α}{Q:α->SortSt->Prop}{st:SortSt}(h1:c->wpS (model prog w) A E s m Q st)(h2:¬c->wpS (model prog w) A E s n Q st):wpS (model prog w) A E s (if c then m else n) Q st:=by
 by_cases h:c
 ·rw[if_pos h]
  exact h1 h
 ·rw[if_neg h]
  exact h2 h
structure At(blt:Keyed->Keyed->Bool)(a b:Array Keyed)(rem:Nat)(out:Array Keyed)(ia ib:Nat):Prop where
 lo:Lo blt (a.toList++b.toList) out.toList (a.toList.drop ia) (b.toList.drop ib)
 ha:ia+1<a.size
 hb:ib<b.size
 hr:(a.size-ia)+(b.size-ib)<=rem
theorem BC(O:Ord S blt)(C:By prog w A E s κ S blt){a b:Array Keyed}{st:SortSt}{Q:Array Keyed->SortSt->Prop}(hk:kindOf st=κ)(Sa:∀x∈a.toList,S x)(Sb:∀x∈b.toList,S x)(sa:rR blt a.toList)(sb:rR blt b.toList)
  {a0 b0 al:Keyed}(ea:a[0]? = some a0)(eb:b[0]? = some b0)(el:a[a.size-1]? = some al)(h0:blt b0 a0=true)(hl:∀y∈b.toList,blt al y=false)
  (hQ:∀m g,Good blt (a.toList++b.toList) m->Q m (setG st g)):wpS (model prog w) A E s (FU a b) Q st:=by
 have na:0<a.size:=by
  rcases Nat.eq_zero_or_pos a.size with z|z
  ·rw[Array.getElem?_eq_none LI]at ea
   cases ea
  ·exact z
 have nb:0<b.size:=by
  rcases Nat.eq_zero_or_pos b.size with z|z
  ·rw[Array.getElem?_eq_none LI]at eb
   cases eb
  ·exact z
 have sa0:=Sa a0 (List.mem_of_getElem? (aG ea))
 have sb0:=Sb b0 (List.mem_of_getElem? (aG eb))
 have SA:∀{i x},a[i]? = some x->S x:=λh=>Sa _ (List.mem_of_getElem? (aG h))
 have SB:∀{i x},b[i]? = some x->S x:=λh=>Sb _ (List.mem_of_getElem? (aG h))
 have LM:∀{i y},y∈a.toList.drop i->S y:=λh=>Sa _ (List.mem_of_mem_drop h)
 have LL:∀{i y},y∈b.toList.drop i->S y:=λh=>Sb _ (List.mem_of_mem_drop h)
 have fin:∀(out:Array Keyed)(ia ib:Nat),Lo blt (a.toList++b.toList) out.toList (a.toList.drop ia) (b.toList.drop ib)->(ib=b.size\/ia=a.size)->Good blt (a.toList++b.toList) (out++a.extract ia a.size++b.extract ib b.size):=by
  intro out ia ib h hz
  have e:(out++a.extract ia a.size++b.extract ib b.size).toList=out.toList++a.toList.drop ia++b.toList.drop ib:=by
   rw[Array.toList_append,Array.toList_append,qD,qD]
  rcases hz with z|z
  ·have zb:b.toList.drop ib=[]:=List.drop_of_length_le (by simp[z])
   rw[zb]at h
   have:=h.JA
   exact⟨by rw[e,zb,List.append_nil];exact this.1,by rw[e,zb,List.append_nil];exact this.2⟩
  ·have za:a.toList.drop ia=[]:=List.drop_of_length_le (by simp[z])
   rw[za]at h
   have:=h.Jz
   exact⟨by rw[e,za,List.append_nil];exact this.1,by rw[e,za,List.append_nil];exact this.2⟩
 have last:∀(out:Array Keyed)(ia ib:Nat),Lo blt (a.toList++b.toList) out.toList (a.toList.drop ia) (b.toList.drop ib)->ia+1=a.size->Good blt (a.toList++b.toList) (out++b.extract ib b.size++a.extract ia a.size):=by
  intro out ia ib h hz
  have e:(out++b.extract ib b.size++a.extract ia a.size).toList=out.toList++b.toList.drop ib++a.toList.drop ia:=by
   rw[Array.toList_append,Array.toList_append,qD,qD]
  have ed:a.toList.drop ia=[al]:=by
   have e1:a.toList[ia]? = some al:=aG (by rw[show ia=a.size-1 by lia];exact el)
   rw[drop_cons e1,List.drop_of_length_le (by simp;lia)]
  have h':Lo blt (a.toList++b.toList) out.toList (a.toList.drop ia) (b.toList.drop ib++[]):=by rw[List.append_nil];exact h
  have h2:=(h'.pJ λx hx y hy=>by
   rw[ed]at hy
   rw[List.mem_singleton.mp hy]
   exact hl x (List.mem_of_mem_drop hx)).JA
  exact⟨by rw[e];exact h2.1,by rw[e];exact h2.2⟩
 have tK:∀{out ia ib x y},Lo blt (a.toList++b.toList) (out:Array Keyed).toList (a.toList.drop ia) (b.toList.drop ib)->b[ib]? = some x->a[ia]? = some y->blt y x=false->Lo blt (a.toList++b.toList) (out.push x).toList (a.toList.drop ia) (b.toList.drop (ib+1)):=by
  intro out ia ib x y h hx hy hlt
  rw[drop_cons (aG hx)]at h
  rw[Array.toList_push]
  refine h.pJ (p:=[x]) λz hz y' hy'=>?_
  rw[List.mem_singleton.mp hz]
  exact O.tr x y y' (SB hx) (SA hy) (LM hy') hlt (jE O sa Sa (aG hy) hy')
 have wm:∀{out ia ib x y},Lo blt (a.toList++b.toList) (out:Array Keyed).toList (a.toList.drop ia) (b.toList.drop ib)->a[ia]? = some x->b[ib]? = some y->blt y x=false->Lo blt (a.toList++b.toList) (out.push x).toList (a.toList.drop (ia+1)) (b.toList.drop ib):=by
  intro out ia ib x y h hx hy hlt
  rw[drop_cons (aG hx)]at h
  rw[Array.toList_push]
  refine h.mC (p:=[x]) λz hz y' hy'=>?_
  rw[List.mem_singleton.mp hz]
  exact O.tr x y y' (SA hx) (SB hy) (LL hy') hlt (jE O sb Sb (aG hy) hy')
 have start:Lo blt (a.toList++b.toList) (#[b0]:Array Keyed).toList (a.toList.drop 0) (b.toList.drop 1):=by
  have h:Lo blt (a.toList++b.toList) (#[]:Array Keyed).toList (a.toList.drop 0) (b.toList.drop 0):=⟨by simp,by simp,by simpa using sa,by simpa using sb,by simp⟩
  exact tK h eb ea (O.zK b0 a0 sb0 sa0 h0)
 refine wpS_bind (nK ?_)
 refine wpS_bind (cU eb ?_)
 extract_lets -merge -underBinder o1
 refine w_ite (λc1=>?_) (λc1=>?_)
 ·exact wpS_pure (jV st▸hQ _ (gallopOf st) (fin _ 0 1 start (.inl (beq_iff_eq.mp c1))))
 refine w_ite (λc2=>?_) (λc2=>?_)
 ·exact wpS_pure (jV st▸hQ _ (gallopOf st) (last _ 0 1 start (beq_iff_eq.mp c2)))
 have n1:1<b.size:=by
  have:¬1=b.size:=λz=>c1 (beq_iff_eq.mpr z)
  lia
 have n2:0+1<a.size:=by
  have:¬0+1=a.size:=λz=>c2 (beq_iff_eq.mpr z)
  lia
 refine wpS_bind (wpS_get ?_)
 refine wpS_bind (wpS_forRange (λi c st'=>∃g,st'=setG st g/\c.1=none/\∃rem,rem+i<a.size+b.size/\At blt a b rem c.2.1 c.2.2.1 c.2.2.2.1) ?_ ?_ ⟨gallopOf st,rfl,rfl,a.size+b.size-1,by lia,start,n2,n1,by simp only;lia⟩)
 rotate_left
 ·rintro⟨r,out,ia,ib,mg⟩ st' ⟨g,rfl,rfl,rem,h1,h2⟩
  have h3:=h2.hr
  have h4:=h2.ha
  simp only at h3 h4
  exact absurd h1 LI
 clear_value o1
 intro i c st' _ hi hI
 refine UY hI λg rem h=>?_
 clear hI
 extract_lets -merge -underBinder s0 o s1 ja s2 jb mg ac bc
 have h1:=h.1
 have h2:At blt a b rem o ja jb:=h.2
 clear h
 clear_value o ja jb mg ac bc
 clear s2 s1 s0
 refine wpS_bind (wpS_mono (Q:=λ(c:Option (Array Keyed)×Array Keyed×Nat×Nat×Nat×Nat) st'=>st'=setG st g/\((∃r,c.1=some r/\Good blt (a.toList++b.toList) r)\/(c.1=none/\At blt a b rem c.2.1 c.2.2.1 c.2.2.2.1)))
  (wpS_forRange (λ_ (c:Option (Array Keyed)×Array Keyed×Nat×Nat×Nat×Nat) st'=>st'=setG st g/\c.1=none/\At blt a b rem c.2.1 c.2.2.1 c.2.2.2.1) ?_ (λc st' h=>⟨h.1,.inr ⟨h.2.1,h.2.2⟩⟩) ⟨rfl,rfl,h2⟩) ?_)
 ·clear h2
  intro j c st' _ hj hI
  refine UX hI λh=>?_
  clear hI
  extract_lets -merge -underBinder s0 o s1 ja s2 jb s3 ca cb
  have h2:At blt a b rem o ja jb:=h.2
  clear h
  clear_value o ja jb ca cb
  clear s3 s2 s1 s0
  obtain⟨lo,ha,hb,hr⟩:=h2
  obtain⟨bk,ex⟩:∃x,b[jb]? = some x:=⟨_,aB hb⟩
  obtain⟨ak,ey⟩:∃x,a[ja]? = some x:=⟨_,aB (show ja<a.size by lia)⟩
  refine wpS_bind (cU ex (wpS_bind (cU ey (wpS_bind (C _ _ _ _ (SB ex) (SA ey) hk ?_)))))
  cases z:blt bk ak with
  |true=>
   dsimp only
   refine w_ite (λ_=>wpS_bind (cU ex ?_)) λz=>absurd rfl z
   have lo':=tK lo ex ey (O.zK _ _ (SB ex) (SA ey) z)
   refine w_ite (λd1=>?_) (λd1=>?_)
   ·exact wpS_pure ⟨rfl,.inl ⟨_,rfl,fin _ _ _ lo' (.inl (beq_iff_eq.mp d1))⟩⟩
   have Ov:¬jb+1=b.size:=λz=>d1 (beq_iff_eq.mpr z)
   have at':At blt a b rem (o.push bk) ja (jb+1):=⟨lo',ha,by lia,by lia⟩
   exact w_ite (λ_=>wpS_pure ⟨rfl,.inr ⟨rfl,at'⟩⟩) λ_=>wpS_pure ⟨rfl,rfl,at'⟩
  |false=>
   dsimp only
   refine w_ite (λz=>absurd z Bool.false_ne_true) λ_=>wpS_bind (cU ey ?_)
   have lo':=wm lo ey ex z
   refine w_ite (λd1=>?_) (λd1=>?_)
   ·exact wpS_pure ⟨rfl,.inl ⟨_,rfl,last _ _ _ lo' (beq_iff_eq.mp d1)⟩⟩
   have Ov:¬ja+1+1=a.size:=λz=>d1 (beq_iff_eq.mpr z)
   have at':At blt a b rem (o.push ak) (ja+1) jb:=⟨lo',by lia,hb,by lia⟩
   exact w_ite (λ_=>wpS_pure ⟨rfl,.inr ⟨rfl,at'⟩⟩) λ_=>wpS_pure ⟨rfl,rfl,at'⟩
 clear h2
 intro c st' hI
 refine UX hI λh=>?_
 clear hI
 dsimp(zeta:=false) only
 extract_lets -merge -underBinder r' s1 o s2 ja s3 jb s4 ca cb
 have h':(∃r,r'=some r/\Good blt (a.toList++b.toList) r)\/(r'=none/\At blt a b rem o ja jb):=h
 clear h
 clear_value r' o ja jb ca cb
 clear s4 s3 s2 s1
 cases r' with
 |some r=>
  refine wpS_pure (wpS_pure (hQ _ g ?_))
  rcases h' with⟨r1,e,gd⟩|⟨e,_⟩
  ·rw[Option.some.inj e];exact gd
  ·cases e
 |none=>
 have h:At blt a b rem o ja jb:=by
  rcases h' with⟨r1,e,_⟩|h
  ·cases e
  ·exact h.2
 clear h'
 refine wpS_bind (nK ?_)
 extract_lets -merge -underBinder WB
 clear_value WB
 refine wpS_bind (wpS_mono (Q:=λ(c:Option (Array Keyed)×Array Keyed×Nat×Nat×Nat×Nat×Nat) st'=>∃g',st'=setG st g'/\((∃r,c.1=some r/\Good blt (a.toList++b.toList) r)\/(c.1=none/\At blt a b (rem-1) c.2.1 c.2.2.1 c.2.2.2.1)))
  (wpS_forRange (λj (c:Option (Array Keyed)×Array Keyed×Nat×Nat×Nat×Nat×Nat) st'=>∃g',st'=setG st g'/\c.1=none/\At blt a b (if j=0 then rem else rem-1) c.2.1 c.2.2.1 c.2.2.2.1) ?_ (λc st' ⟨g',h1,h2,h3⟩=>⟨g',h1,.inr ⟨h2,by rw[if_neg LI]at h3;exact h3⟩⟩) ⟨g,rfl,rfl,by simpa using h⟩) ?_)
 ·clear h
  intro j c st' _ hj hI
  refine el0 hI λg' h=>?_
  clear hI
  extract_lets -merge -underBinder s0 o s1 ja s2 jb s3 WC s4 Yu Yr Ja WA
  have h2:At blt a b (if j=0 then rem else rem-1) o ja jb:=h
  clear h
  clear_value o ja jb WC Yu Yr WA
  clear s4 s3 s2 s1 s0
  have lo:=h2.lo
  have ha:=h2.ha
  have hb:=h2.hb
  have hr':(a.size-ja)+(b.size-jb)<=rem:=by
   have hr:=h2.hr
   split at hr<;>lia
  clear h2
  have ex:=aB hb
  generalize b[jb]=bk at ex
  have ja0:ja<a.size:=by lia
  refine zV Ja (λ_ _ st'=>∃g,st'=setG st g) ?_ λJ=>?_
  rotate_left
  ·clear_value Ja
   exact w_ite (λ_=>J _ _ _ ⟨_,rfl⟩) λ_=>J _ _ _ ⟨_,rfl⟩
  rintro _ mg3 st' ⟨g3,rfl⟩
  unfold Ja
  clear Ja
  refine wpS_bind (wpS_modify ?_)
  refine wpS_bind (cU (p:=bk) ex (wpS_bind (iU (left:=false) (X:=λi=>(a[ja+i]?).getD b0) O C hk (λi hi=>?_) (λi hi=>?_) (SB ex) (λi l hil hl'=>?_) LI λk hk1 p1 p2=>?_)))
  ·rw[aB (show ja+i<a.size by lia)];rfl
  ·rw[aB (show ja+i<a.size by lia)];exact SA (aB (show ja+i<a.size by lia))
  ·rw[aB (show ja+i<a.size by lia),aB (show ja+l<a.size by lia)]
   exact kR O sa Sa (aG (aB (show ja+i<a.size by lia))) (aG (aB (show ja+l<a.size by lia))) LI
  have xy:∀y,a[ja+k]? = some y->blt bk y=true:=λy e=>by
   have hq:ja+k<a.size:=(Array.getElem?_eq_some_iff.mp e).1
   have:=p2 k (Nat.le_refl _) LI
   rw[e]at this
   simpa using this
  dsimp(zeta:=false) only
  extract_lets -merge -underBinder Yt I_ kZ ym
  obtain⟨eo,en⟩:kZ=o++a.extract ja (ja+k)/\ym=ja+k:=⟨rfl,rfl⟩
  clear_value Yt kZ ym
  refine qx I_ (λ_ kZ i2 st'=>(∃g,st'=setG st g)/\ja<=i2/\i2+1<a.size/\Lo blt (a.toList++b.toList) kZ.toList (a.toList.drop i2) (b.toList.drop jb)/\∀y,a[i2]? = some y->blt bk y=true) ?_ λJ=>?_
  rotate_left
  ·clear_value I_
   refine w_ite (λk0=>?_) (λk0=>?_)
   ·have lo2:Lo blt (a.toList++b.toList) kZ.toList (a.toList.drop ym) (b.toList.drop jb):=by
     rw[eo,en,Array.toList_append,ext_toList]
     rw[rE a.toList ja k]at lo
     rw[show ja+k-ja=k by lia]
     refine lo.mC λx hx y hy=>?_
     obtain⟨q,hq,rfl⟩:=List.mem_iff_getElem.mp hx
     have hq2:q<k:=by simp only[List.length_take]at hq;lia
     have e1:=p1 q hq2
     rw[aB (show ja+q<a.size by lia)]at e1
     simp only[Bool.false_eq_true,if_false,Option.getD_some,Bool.not_eq_true']at e1
     have e2:((a.toList.drop ja).take k)[q]=a[ja+q]' LI:=by simp
     rw[e2]
     have sx:=SA (aB (show ja+q<a.size by lia))
     exact O.tr _ _ _ sx (SB ex) (LL hy) e1 (jE O sb Sb (aG ex) hy)
    refine w_ite (λd1=>?_) (λd1=>?_)
    ·exact wpS_pure ⟨_,rfl,.inl ⟨_,rfl,last _ _ _ lo2 (beq_iff_eq.mp d1)⟩⟩
    have Ov:¬ym+1=a.size:=λz=>d1 (beq_iff_eq.mpr z)
    refine w_ite (λd2=>?_) (λd2=>?_)
    ·exact wpS_pure ⟨_,rfl,.inl ⟨_,rfl,fin _ _ _ lo2 (.inr (beq_iff_eq.mp d2))⟩⟩
    have d2':¬ym=a.size:=λz=>d2 (beq_iff_eq.mpr z)
    exact J _ _ _ _ ⟨⟨_,rfl⟩,by lia,by lia,lo2,λy e=>xy y (by rw[←en];exact e)⟩
   ·exact J _ _ _ _ ⟨⟨_,rfl⟩,Nat.le_refl _,ha,lo,λy e=>xy y (by rw[show ja+k=ja by lia];exact e)⟩
  clear eo en p1 p2 xy lo
  rintro _ kZ i2 st' ⟨⟨g4,rfl⟩,i2j,i2a,lo2,xy⟩
  unfold I_
  clear I_
  obtain⟨ak,ue⟩:∃x,a[i2]? = some x:=⟨_,aB (show i2<a.size by lia)⟩
  refine wpS_bind (cU (p:=bk) ex ?_)
  extract_lets -merge -underBinder uT ZI
  obtain⟨Yd,eb3⟩:kZ.push bk=uT/\ZI=jb+1:=⟨rfl,rfl⟩
  clear_value uT ZI
  subst eb3
  have Rk:Lo blt (a.toList++b.toList) uT.toList (a.toList.drop i2) (b.toList.drop (jb+1)):=Yd▸tK lo2 ex ue (O.zK _ _ (SB ex) (SA ue) (xy _ ue))
  refine w_ite (λd3=>?_) (λd3=>?_)
  ·exact wpS_pure ⟨_,rfl,.inl ⟨_,rfl,fin _ _ _ Rk (.inl (beq_iff_eq.mp d3))⟩⟩
  have Ym:¬jb+1=b.size:=λz=>d3 (beq_iff_eq.mpr z)
  refine wpS_bind (cU (p:=ak) ue (wpS_bind (iU (left:=true) (X:=λi=>(b[jb+1+i]?).getD b0) O C hk (λi hi=>?_) (λi hi=>?_) (SA ue) (λi l hil hl'=>?_) LI λk2 hk2 p1 p2=>?_)))
  ·rw[aB (show jb+1+i<b.size by lia)];rfl
  ·rw[aB (show jb+1+i<b.size by lia)];exact SB (aB (show jb+1+i<b.size by lia))
  ·rw[aB (show jb+1+i<b.size by lia),aB (show jb+1+l<b.size by lia)]
   exact kR O sb Sb (aG (aB (show jb+1+i<b.size by lia))) (aG (aB (show jb+1+l<b.size by lia))) LI
  have MW:∀y,b[jb+1+k2]? = some y->blt y ak=false:=λy e=>by
   have hq:jb+1+k2<b.size:=(Array.getElem?_eq_some_iff.mp e).1
   have:=p2 k2 (Nat.le_refl _) LI
   rw[e]at this
   simpa using this
  dsimp(zeta:=false) only
  extract_lets -merge -underBinder Yq IZ kY UJ
  obtain⟨eo,en⟩:kY=uT++b.extract (jb+1) (jb+1+k2)/\UJ=jb+1+k2:=⟨rfl,rfl⟩
  clear_value Yq kY UJ
  refine qx IZ (λ_ kY i4 st'=>(∃g,st'=setG st g)/\jb+1<=i4/\i4<b.size/\Lo blt (a.toList++b.toList) kY.toList (a.toList.drop i2) (b.toList.drop i4)/\∀y,b[i4]? = some y->blt y ak=false) ?_ λJ=>?_
  rotate_left
  ·clear_value IZ
   refine w_ite (λWV=>?_) (λWV=>?_)
   ·have UD:Lo blt (a.toList++b.toList) kY.toList (a.toList.drop i2) (b.toList.drop UJ):=by
     rw[eo,en,Array.toList_append,ext_toList]
     rw[rE b.toList (jb+1) k2]at Rk
     rw[show jb+1+k2-(jb+1)=k2 by lia]
     refine Rk.pJ λx hx y hy=>?_
     obtain⟨q,hq,rfl⟩:=List.mem_iff_getElem.mp hx
     have hq2:q<k2:=by simp only[List.length_take]at hq;lia
     have e1:=p1 q hq2
     rw[aB (show jb+1+q<b.size by lia)]at e1
     simp only[if_true,Option.getD_some]at e1
     have e2:((b.toList.drop (jb+1)).take k2)[q]=b[jb+1+q]' LI:=by simp
     rw[e2]
     have sx:=SB (aB (show jb+1+q<b.size by lia))
     exact O.tr _ _ _ sx (SA ue) (LM hy) (O.zK _ _ sx (SA ue) e1) (jE O sa Sa (aG ue) hy)
    refine w_ite (λd4=>?_) (λd4=>?_)
    ·exact wpS_pure ⟨_,rfl,.inl ⟨_,rfl,fin _ _ _ UD (.inl (beq_iff_eq.mp d4))⟩⟩
    have Yl:¬UJ=b.size:=λz=>d4 (beq_iff_eq.mpr z)
    exact J _ _ _ _ ⟨⟨_,rfl⟩,by lia,by lia,UD,λy e=>MW y (by rw[←en];exact e)⟩
   ·exact J _ _ _ _ ⟨⟨_,rfl⟩,Nat.le_refl _,by lia,Rk,λy e=>MW y (by rw[show jb+1+k2=jb+1 by lia];exact e)⟩
  clear eo en p1 p2 MW Rk lo2
  rintro _ kY i4 st' ⟨⟨g5,rfl⟩,i4j,WY,UD,MW⟩
  unfold IZ
  clear IZ
  refine wpS_bind (cU (p:=ak) ue ?_)
  extract_lets -merge -underBinder uS ZJ
  obtain⟨Yc,Yh⟩:kY.push ak=uS/\ZJ=i2+1:=⟨rfl,rfl⟩
  clear_value uS ZJ
  subst Yh
  have Zz:Lo blt (a.toList++b.toList) uS.toList (a.toList.drop (i2+1)) (b.toList.drop i4):=Yc▸wm UD ue (aB WY) (MW _ (aB WY))
  refine w_ite (λd5=>?_) (λd5=>?_)
  ·exact wpS_pure ⟨_,rfl,.inl ⟨_,rfl,last _ _ _ Zz (beq_iff_eq.mp d5)⟩⟩
  have d5':¬i2+1+1=a.size:=λz=>d5 (beq_iff_eq.mpr z)
  have TV:At blt a b (rem-1) uS (i2+1) i4:=⟨Zz,by lia,WY,by lia⟩
  refine w_ite (λ_=>?_) (λ_=>?_)
  ·exact wpS_pure ⟨_,rfl,.inr ⟨rfl,TV⟩⟩
  ·exact wpS_pure ⟨_,rfl,rfl,by rw[if_neg LI];exact TV⟩
 clear h
 rintro⟨r,o,ja,jb,mg',ca,cb⟩ st' ⟨g',rfl,h⟩
 rcases h with⟨r',e,gd⟩|⟨e,h⟩
 ·simp only at e
  subst e
  refine wpS_pure ?_
  exact wpS_pure (hQ _ g' gd)
 simp only at e h
 subst e
 dsimp only
 refine wpS_bind (wpS_modify ?_)
 refine wpS_pure ?_
 refine⟨_,rfl,rfl,rem-1,?_,h⟩
 have:=h.hr
 have:=h.ha
 lia
end
structure Hg(blt:Keyed->Keyed->Bool)(T ra rb o:List Keyed):Prop where
 perm:((ra++rb)++o).Perm T
 so:rR blt o
 sa:rR blt ra
 sb:rR blt rb
 hgh:∀x∈ra++rb,∀y∈o,blt y x=false
theorem Hg.pJ{blt:Keyed->Keyed->Bool}{T o p ra rb:List Keyed}(h:Hg blt T ra (rb++p) o)(hx:∀x∈p,∀y∈ra,blt x y=false):Hg blt T ra rb (p++o):=by
 obtain⟨h1,h2,h3,h4,h5⟩:=h
 have NP:=List.pairwise_append.mp h4
 refine⟨?_,?_,h3,NP.1,λx hx' y hy=>?_⟩
 ·have e:ra++rb++(p++o)=ra++(rb++p)++o:=by simp
  rw[e]
  exact h1
 ·exact List.pairwise_append.mpr ⟨NP.2.1,h2,λx hx' y hy=>h5 x (by simp[hx']) y hy⟩
 ·rcases List.mem_append.mp hy with z|z
  ·rcases List.mem_append.mp hx' with q|q
   ·exact hx y z x q
   ·exact NP.2.2 x q y z
  ·exact h5 x (by rcases List.mem_append.mp hx' with q|q<;>simp[q]) y z
theorem Hg.mC{blt:Keyed->Keyed->Bool}{T o p ra rb:List Keyed}(h:Hg blt T (ra++p) rb o)(hx:∀x∈p,∀y∈rb,blt x y=false):Hg blt T ra rb (p++o):=by
 obtain⟨h1,h2,h3,h4,h5⟩:=h
 have h3':=List.pairwise_append.mp h3
 refine⟨?_,?_,h3'.1,h4,λx hx' y hy=>?_⟩
 ·refine List.Perm.trans ?_ h1
  rw[←List.append_assoc]
  refine List.Perm.append_right o ?_
  rw[List.append_assoc,List.append_assoc]
  exact List.Perm.append_left ra List.perm_append_comm
 ·exact List.pairwise_append.mpr ⟨h3'.2.1,h2,λx hx' y hy=>h5 x (by simp[hx']) y hy⟩
 ·rcases List.mem_append.mp hy with z|z
  ·rcases List.mem_append.mp hx' with q|q
   ·exact h3'.2.2 x q y z
   ·exact hx y z x q
  ·exact h5 x (by rcases List.mem_append.mp hx' with q|q<;>simp[q]) y z
theorem Hg.end{blt:Keyed->Keyed->Bool}{T o:List Keyed}(h:Hg blt T [] [] o):o.Perm T/\rR blt o:=⟨by simpa using h.perm,h.so⟩
theorem Hg.JA{blt:Keyed->Keyed->Bool}{T o ra:List Keyed}(h:Hg blt T ra [] o):(ra++o).Perm T/\rR blt (ra++o):=by
 have h':Hg blt T ([]++ra) [] o:=h
 exact(h'.mC λ_ _ _ z=>by cases z).end
theorem Hg.Jz{blt:Keyed->Keyed->Bool}{T o rb:List Keyed}(h:Hg blt T [] rb o):(rb++o).Perm T/\rR blt (rb++o):=by
 have h':Hg blt T [] ([]++rb) o:=h
 exact(h'.pJ λ_ _ _ z=>by cases z).end
theorem take_snoc{l:List Keyed}{i:Nat}{x:Keyed}(h:l[i]? = some x):l.take (i+1)=l.take i++[x]:=by
 obtain⟨hi,e⟩:=List.getElem?_eq_some_iff.mp h
 rw[List.take_succ,h]
 rfl
theorem jh(l:List Keyed){i n:Nat}(h:i<=n):l.take n=l.take i++(l.drop i).take (n-i):=by
 rw[←List.take_append_drop i (l.take n),List.take_take,Nat.min_eq_left h,List.drop_take]
theorem j_(a:Array Keyed)(n:Nat):(a.extract 0 n).toList=a.toList.take n:=by simp
theorem mD{blt:Keyed->Keyed->Bool}{S:Keyed->Prop}(O:Ord S blt){l:List Keyed}(hs:rR blt l)(hS:∀x∈l,S x){i:Nat}{x y:Keyed}(hx:l[i]? = some x)(hy:y∈l.take (i+1)):blt x y=false:=by
 obtain⟨k,hk,rfl⟩:=List.mem_iff_getElem.mp hy
 have hk':k<i+1/\k<l.length:=by simpa [List.length_take,Nat.lt_min]using hk
 have e:l[k]? = some (l.take (i+1))[k]:=by
  rw[List.getElem_take]
  exact List.getElem?_eq_getElem hk'.2
 exact kR O hs hS e hx LI
def FW:Array Keyed->Array Keyed->SM (Array Keyed):=sortPriv% PySem.Builtin.mergeHi
section
variable {prog:Program} {w:World} {A:Around} {E:Value->Shared->Prop} {s:Shared} {κ:SortKind} {S:Keyed->Prop} {blt:Keyed->Keyed->Bool}
structure Ah(blt:Keyed->Keyed->Bool)(a b:Array Keyed)(rem na nb:Nat)(out:Array Keyed):Prop where
 hg:Hg blt (a.toList++b.toList) (a.toList.take na) (b.toList.take nb) out.toList.reverse
 a1:1<=na
 a2:na<=a.size
 b1:2<=nb
 b2:nb<=b.size
 hr:na+nb<=rem
theorem BD(O:Ord S blt)(C:By prog w A E s κ S blt){a b:Array Keyed}{st:SortSt}{Q:Array Keyed->SortSt->Prop}(hk:kindOf st=κ)(Sa:∀x∈a.toList,S x)(Sb:∀x∈b.toList,S x)(sa:rR blt a.toList)(sb:rR blt b.toList)
  {a0 b0 al:Keyed}(ea:a[0]? = some a0)(eb:b[0]? = some b0)(el:a[a.size-1]? = some al)(h0:blt b0 a0=true)(hl:∀y∈b.toList,blt al y=false)
  (hQ:∀m g,Good blt (a.toList++b.toList) m->Q m (setG st g)):wpS (model prog w) A E s (FW a b) Q st:=by
 have na:0<a.size:=by
  rcases Nat.eq_zero_or_pos a.size with z|z
  ·rw[Array.getElem?_eq_none LI]at ea
   cases ea
  ·exact z
 have nb:0<b.size:=by
  rcases Nat.eq_zero_or_pos b.size with z|z
  ·rw[Array.getElem?_eq_none LI]at eb
   cases eb
  ·exact z
 have SA:∀{i x},a[i]? = some x->S x:=λh=>Sa _ (List.mem_of_getElem? (aG h))
 have SB:∀{i x},b[i]? = some x->S x:=λh=>Sb _ (List.mem_of_getElem? (aG h))
 have Vr:∀{i y},y∈a.toList.take i->S y:=λh=>Sa _ (List.mem_of_mem_take h)
 have tkB:∀{i y},y∈b.toList.take i->S y:=λh=>Sb _ (List.mem_of_mem_take h)
 have fin:∀(out:Array Keyed)(i j:Nat),Hg blt (a.toList++b.toList) (a.toList.take i) (b.toList.take j) out.toList.reverse->(j=0\/i=0)->Good blt (a.toList++b.toList) (a.extract 0 i++b.extract 0 j++out.reverse):=by
  intro out i j h hz
  have e:(a.extract 0 i++b.extract 0 j++out.reverse).toList=a.toList.take i++b.toList.take j++out.toList.reverse:=by
   rw[Array.toList_append,Array.toList_append,j_,j_,Array.toList_reverse]
  rcases hz with z|z
  ·subst z
   rw[List.take_zero]at h e
   have:=h.JA
   exact⟨by rw[e,List.append_nil];exact this.1,by rw[e,List.append_nil];exact this.2⟩
  ·subst z
   rw[List.take_zero]at h e
   have:=h.Jz
   exact⟨by rw[e,List.nil_append];exact this.1,by rw[e,List.nil_append];exact this.2⟩
 have Jp:∀(out:Array Keyed)(i:Nat),Hg blt (a.toList++b.toList) (a.toList.take i) (b.toList.take 1) out.toList.reverse->Good blt (a.toList++b.toList) (b.extract 0 1++a.extract 0 i++out.reverse):=by
  intro out i h
  have e:(b.extract 0 1++a.extract 0 i++out.reverse).toList=b.toList.take 1++(a.toList.take i++out.toList.reverse):=by
   rw[Array.toList_append,Array.toList_append,j_,j_,Array.toList_reverse,List.append_assoc]
  have eb1:b.toList.take 1=[b0]:=by
   have:=take_snoc (aG eb)
   simpa using this
  have h':Hg blt (a.toList++b.toList) ([]++a.toList.take i) (b.toList.take 1) out.toList.reverse:=h
  have h2:=(h'.mC λx hx y hy=>by
   rw[eb1]at hy
   rw[List.mem_singleton.mp hy]
   have sx:=Vr hx
   have lx:blt x a0=false:=jE O sa Sa (aG ea) (by rw[List.drop_zero];exact List.mem_of_mem_take hx)
   exact O.tr _ _ _ (SB eb) (SA ea) sx (O.zK _ _ (SB eb) (SA ea) h0) lx).Jz
  exact⟨by rw[e];exact h2.1,by rw[e];exact h2.2⟩
 have wm:∀{out i j x y},Hg blt (a.toList++b.toList) (a.toList.take (i+1)) (b.toList.take (j+1)) (out:Array Keyed).toList.reverse->a[i]? = some x->b[j]? = some y->blt x y=false->Hg blt (a.toList++b.toList) (a.toList.take i) (b.toList.take (j+1)) (out.push x).toList.reverse:=by
  intro out i j x y h hx hy hlt
  rw[take_snoc (aG hx)]at h
  rw[Array.toList_push,List.reverse_append]
  refine h.mC (p:=[x]) λz hz y' hy'=>?_
  rw[List.mem_singleton.mp hz]
  exact O.tr y' y x (tkB hy') (SB hy) (SA hx) (mD O sb Sb (aG hy) hy') hlt
 have tK:∀{out i j x y},Hg blt (a.toList++b.toList) (a.toList.take (i+1)) (b.toList.take (j+1)) (out:Array Keyed).toList.reverse->b[j]? = some x->a[i]? = some y->blt x y=false->Hg blt (a.toList++b.toList) (a.toList.take (i+1)) (b.toList.take j) (out.push x).toList.reverse:=by
  intro out i j x y h hx hy hlt
  rw[take_snoc (aG hx)]at h
  rw[Array.toList_push,List.reverse_append]
  refine h.pJ (p:=[x]) λz hz y' hy'=>?_
  rw[List.mem_singleton.mp hz]
  exact O.tr y' y x (Vr hy') (SA hy) (SB hx) (mD O sa Sa (aG hy) hy') hlt
 have start:Hg blt (a.toList++b.toList) (a.toList.take (a.size-1)) (b.toList.take b.size) (#[al]:Array Keyed).toList.reverse:=by
  have h:Hg blt (a.toList++b.toList) (a.toList.take (a.size-1+1)) (b.toList.take b.size) (#[]:Array Keyed).toList.reverse:=by
   rw[List.take_of_length_le (by simp;lia),List.take_of_length_le (by simp)]
   exact⟨by simp,by simp,sa,sb,by simp⟩
  rw[take_snoc (aG el)]at h
  refine h.mC (p:=[al]) λz hz y' hy'=>?_
  rw[List.mem_singleton.mp hz]
  exact hl y' (List.mem_of_mem_take hy')
 refine wpS_bind (nK ?_)
 refine wpS_bind (cU el ?_)
 extract_lets -merge -underBinder o1
 refine w_ite (λc1=>?_) (λc1=>?_)
 ·exact wpS_pure (jV st▸hQ _ (gallopOf st) (fin _ _ _ start (.inr (beq_iff_eq.mp c1))))
 refine w_ite (λc2=>?_) (λc2=>?_)
 ·have Yp:b.size=1:=beq_iff_eq.mp c2
  refine wpS_pure (jV st▸hQ _ (gallopOf st) ?_)
  rw[Yp]
  exact Jp _ _ (by rw[Yp]at start;exact start)
 have n1:¬a.size-1=0:=λz=>c1 (beq_iff_eq.mpr z)
 have n2:¬b.size=1:=λz=>c2 (beq_iff_eq.mpr z)
 refine wpS_bind (wpS_get ?_)
 refine wpS_bind (wpS_forRange (λi c st'=>∃g,st'=setG st g/\c.1=none/\∃rem,rem+i<a.size+b.size/\Ah blt a b rem c.2.1 c.2.2.1 c.2.2.2.1) ?_ ?_ ⟨gallopOf st,rfl,rfl,a.size+b.size-1,by lia,start,by simp only;lia,by simp only;lia,by simp only;lia,by simp only;lia,by simp only;lia⟩)
 rotate_left
 ·rintro⟨r,ja,jb,o,mg⟩ st' ⟨g,rfl,rfl,rem,h1,h2⟩
  have h3:=h2.hr
  have h4:=h2.a1
  simp only at h3 h4
  exact absurd h1 LI
 clear_value o1
 intro i c st' _ hi hI
 refine UY hI λg rem h=>?_
 clear hI
 extract_lets -merge -underBinder s0 ja s1 jb s2 o mg ac bc
 have h1:=h.1
 have h2:Ah blt a b rem ja jb o:=h.2
 clear h
 clear_value o ja jb mg ac bc
 clear s2 s1 s0
 refine wpS_bind (wpS_mono (Q:=λ(c:Option (Array Keyed)×Nat×Nat×Array Keyed×Nat×Nat) st'=>st'=setG st g/\((∃r,c.1=some r/\Good blt (a.toList++b.toList) r)\/(c.1=none/\Ah blt a b rem c.2.1 c.2.2.1 c.2.2.2.1)))
  (wpS_forRange (λ_ (c:Option (Array Keyed)×Nat×Nat×Array Keyed×Nat×Nat) st'=>st'=setG st g/\c.1=none/\Ah blt a b rem c.2.1 c.2.2.1 c.2.2.2.1) ?_ (λc st' h=>⟨h.1,.inr ⟨h.2.1,h.2.2⟩⟩) ⟨rfl,rfl,h2⟩) ?_)
 ·clear h2
  intro j c st' _ hj hI
  refine UX hI λh=>?_
  clear hI
  extract_lets -merge -underBinder s0 ka s1 kb s2 o s3 ca cb
  have h2:Ah blt a b rem ka kb o:=h.2
  clear h
  clear_value o ka kb ca cb
  clear s3 s2 s1 s0
  obtain⟨hg,a1,a2,b1,b2,hr⟩:=h2
  obtain⟨ka,rfl⟩:∃k,ka=k+1:=⟨ka-1,by lia⟩
  obtain⟨kb,rfl⟩:∃k,kb=k+1:=⟨kb-1,by lia⟩
  obtain⟨bk,ex⟩:∃x,b[kb]? = some x:=⟨_,aB (show kb<b.size by lia)⟩
  obtain⟨ak,ey⟩:∃x,a[ka]? = some x:=⟨_,aB (show ka<a.size by lia)⟩
  refine wpS_bind (cU (p:=bk) ex (wpS_bind (cU (p:=ak) ey (wpS_bind (C _ _ _ _ (SB ex) (SA ey) hk ?_)))))
  dsimp only
  rw[Nat.add_sub_cancel,Nat.add_sub_cancel]
  cases z:blt bk ak with
  |true=>
   refine w_ite (λ_=>wpS_bind (cU ey ?_)) λz=>absurd rfl z
   have hg':=wm hg ey ex (O.zK _ _ (SB ex) (SA ey) z)
   refine w_ite (λd1=>?_) (λd1=>?_)
   ·exact wpS_pure ⟨rfl,.inl ⟨_,rfl,fin _ _ _ hg' (.inr (beq_iff_eq.mp d1))⟩⟩
   have Ov:¬ka=0:=λz=>d1 (beq_iff_eq.mpr z)
   have at':Ah blt a b rem ka (kb+1) (o.push ak):=⟨hg',by lia,by lia,b1,b2,by lia⟩
   exact w_ite (λ_=>wpS_pure ⟨rfl,.inr ⟨rfl,at'⟩⟩) λ_=>wpS_pure ⟨rfl,rfl,at'⟩
  |false=>
   refine w_ite (λz=>absurd z Bool.false_ne_true) λ_=>wpS_bind (cU ex ?_)
   have hg':=tK hg ex ey z
   refine w_ite (λd1=>?_) (λd1=>?_)
   ·have Ov:kb=1:=beq_iff_eq.mp d1
    subst Ov
    exact wpS_pure ⟨rfl,.inl ⟨_,rfl,Jp _ _ hg'⟩⟩
   have Ov:¬kb=1:=λz=>d1 (beq_iff_eq.mpr z)
   have at':Ah blt a b rem (ka+1) kb (o.push bk):=⟨hg',by lia,by lia,by lia,by lia,by lia⟩
   exact w_ite (λ_=>wpS_pure ⟨rfl,.inr ⟨rfl,at'⟩⟩) λ_=>wpS_pure ⟨rfl,rfl,at'⟩
 clear h2
 intro c st' hI
 refine UX hI λh=>?_
 clear hI
 dsimp(zeta:=false) only
 extract_lets -merge -underBinder r' s1 ka s2 kb s3 o s4 ca cb
 have h':(∃r,r'=some r/\Good blt (a.toList++b.toList) r)\/(r'=none/\Ah blt a b rem ka kb o):=h
 clear h
 clear_value r' o ka kb ca cb
 clear s4 s3 s2 s1
 cases r' with
 |some r=>
  refine wpS_pure (wpS_pure (hQ _ g ?_))
  rcases h' with⟨r1,e,gd⟩|⟨e,_⟩
  ·rw[Option.some.inj e];exact gd
  ·cases e
 |none=>
 have h:Ah blt a b rem ka kb o:=by
  rcases h' with⟨r1,e,_⟩|h
  ·cases e
  ·exact h.2
 clear h'
 refine wpS_bind (nK ?_)
 extract_lets -merge -underBinder WB
 clear_value WB
 refine wpS_bind (wpS_mono (Q:=λ(c:Option (Array Keyed)×Nat×Nat×Array Keyed×Nat×Nat×Nat) st'=>∃g',st'=setG st g'/\((∃r,c.1=some r/\Good blt (a.toList++b.toList) r)\/(c.1=none/\Ah blt a b (rem-1) c.2.1 c.2.2.1 c.2.2.2.1)))
  (wpS_forRange (λj (c:Option (Array Keyed)×Nat×Nat×Array Keyed×Nat×Nat×Nat) st'=>∃g',st'=setG st g'/\c.1=none/\Ah blt a b (if j=0 then rem else rem-1) c.2.1 c.2.2.1 c.2.2.2.1) ?_ (λc st' ⟨g',h1,h2,h3⟩=>⟨g',h1,.inr ⟨h2,by rw[if_neg LI]at h3;exact h3⟩⟩) ⟨g,rfl,rfl,by simpa using h⟩) ?_)
 ·clear h
  intro j c st' _ hj hI
  refine el0 hI λg' h=>?_
  clear hI
  extract_lets -merge -underBinder s0 ka s1 kb s2 o s3 WC s4 Yu Yr Ja WA
  have h2:Ah blt a b (if j=0 then rem else rem-1) ka kb o:=h
  clear h
  clear_value o ka kb WC Yu Yr WA
  clear s4 s3 s2 s1 s0
  have hg:=h2.hg
  have a1:=h2.a1
  have a2:=h2.a2
  have b1:=h2.b1
  have b2:=h2.b2
  have hr':ka+kb<=rem:=by
   have hr:=h2.hr
   split at hr<;>lia
  clear h2
  obtain⟨kb,rfl⟩:∃k,kb=k+1:=⟨kb-1,by lia⟩
  have ex:=aB (show kb<b.size by lia)
  generalize b[kb]=bk at ex
  refine zV Ja (λ_ _ st'=>∃g,st'=setG st g) ?_ λJ=>?_
  rotate_left
  ·clear_value Ja
   exact w_ite (λ_=>J _ _ _ ⟨_,rfl⟩) λ_=>J _ _ _ ⟨_,rfl⟩
  rintro _ mg3 st' ⟨g3,rfl⟩
  unfold Ja
  clear Ja
  refine wpS_bind (wpS_modify ?_)
  refine wpS_bind (cU (p:=bk) ex (wpS_bind (iU (left:=false) (X:=λi=>(a[0+i]?).getD b0) O C hk (λi hi=>?_) (λi hi=>?_) (SB ex) (λi l hil hl'=>?_) LI λk hk1 p1 p2=>?_)))
  ·rw[aB (show 0+i<a.size by lia)];rfl
  ·rw[aB (show 0+i<a.size by lia)];exact SA (aB (show 0+i<a.size by lia))
  ·rw[aB (show 0+i<a.size by lia),aB (show 0+l<a.size by lia)]
   exact kR O sa Sa (aG (aB (show 0+i<a.size by lia))) (aG (aB (show 0+l<a.size by lia))) LI
  have la:∀q y,a[q]? = some y->q<k->blt bk y=false:=λq y e hq=>by
   have:=p1 q hq
   rw[Nat.zero_add,e]at this
   simpa using this
  dsimp(zeta:=false) only
  extract_lets -merge -underBinder kk Yt I_ kZ FQ
  obtain⟨ekk,eo,en⟩:kk=ka-k/\kZ=o++(a.extract k ka).reverse/\FQ=k:=⟨rfl,rfl,rfl⟩
  clear_value kk Yt kZ FQ
  refine qx I_ (λ_ n2 kZ st'=>(∃g,st'=setG st g)/\1<=n2/\n2<=ka/\Hg blt (a.toList++b.toList) (a.toList.take n2) (b.toList.take (kb+1)) kZ.toList.reverse/\∀q y,a[q]? = some y->q<n2->blt bk y=false) ?_ λJ=>?_
  rotate_left
  ·clear_value I_
   subst en
   refine w_ite (λk0=>?_) (λk0=>?_)
   ·have NJ:Hg blt (a.toList++b.toList) (a.toList.take FQ) (b.toList.take (kb+1)) kZ.toList.reverse:=by
     rw[eo,Array.toList_append,Array.toList_reverse,List.reverse_append,List.reverse_reverse,ext_toList]
     rw[jh a.toList hk1]at hg
     refine hg.mC λx hx y hy=>?_
     obtain⟨q,hq,rfl⟩:=List.mem_iff_getElem.mp hx
     have hq2:q<ka-FQ:=by simp only[List.length_take]at hq;lia
     have e1:=p2 (FQ+q) LI LI
     rw[Nat.zero_add,aB (show FQ+q<a.size by lia)]at e1
     simp only[Bool.false_eq_true,if_false,Option.getD_some,Bool.not_eq_false']at e1
     have e2:((a.toList.drop FQ).take (ka-FQ))[q]=a[FQ+q]' LI:=by simp
     rw[e2]
     have sx:=SA (aB (show FQ+q<a.size by lia))
     exact O.tr _ _ _ (tkB hy) (SB ex) sx (mD O sb Sb (aG ex) hy) (O.zK _ _ (SB ex) sx e1)
    refine w_ite (λd1=>?_) (λd1=>?_)
    ·exact wpS_pure ⟨_,rfl,.inl ⟨_,rfl,fin _ _ _ NJ (.inr (beq_iff_eq.mp d1))⟩⟩
    have Ov:¬FQ=0:=λz=>d1 (beq_iff_eq.mpr z)
    exact J _ _ _ _ ⟨⟨_,rfl⟩,by lia,hk1,NJ,la⟩
   ·exact J _ _ _ _ ⟨⟨_,rfl⟩,a1,Nat.le_refl _,hg,λq y e hq=>la q y e LI⟩
  clear eo en p1 p2 la hg
  rintro _ n2 kZ st' ⟨⟨g4,rfl⟩,n21,n2k,NJ,xy⟩
  unfold I_
  clear I_
  obtain⟨ym,rfl⟩:∃q,n2=q+1:=⟨n2-1,by lia⟩
  obtain⟨ak,ue⟩:∃x,a[ym]? = some x:=⟨_,aB (show ym<a.size by lia)⟩
  extract_lets -merge -underBinder Zr
  have eb2:kb=Zr:=rfl
  clear_value Zr
  subst eb2
  refine wpS_bind (cU (p:=bk) ex ?_)
  extract_lets -merge -underBinder uT
  have Yd:kZ.push bk=uT:=rfl
  clear_value uT
  have Sv:Hg blt (a.toList++b.toList) (a.toList.take (ym+1)) (b.toList.take kb) uT.toList.reverse:=Yd▸tK NJ ex ue (xy ym ak ue LI)
  refine w_ite (λd3=>?_) (λd3=>?_)
  ·have Ym:kb=1:=beq_iff_eq.mp d3
   subst Ym
   exact wpS_pure ⟨_,rfl,.inl ⟨_,rfl,Jp _ _ Sv⟩⟩
  have Ym:¬kb=1:=λz=>d3 (beq_iff_eq.mpr z)
  refine wpS_bind (cU (p:=ak) ue (wpS_bind (iU (left:=true) (X:=λi=>(b[0+i]?).getD b0) O C hk (λi hi=>?_) (λi hi=>?_) (SA ue) (λi l hil hl'=>?_) LI λk2 hk2 p1 p2=>?_)))
  ·rw[aB (show 0+i<b.size by lia)];rfl
  ·rw[aB (show 0+i<b.size by lia)];exact SB (aB (show 0+i<b.size by lia))
  ·rw[aB (show 0+i<b.size by lia),aB (show 0+l<b.size by lia)]
   exact kR O sb Sb (aG (aB (show 0+i<b.size by lia))) (aG (aB (show 0+l<b.size by lia))) LI
  have lb:∀q y,b[q]? = some y->q<k2->blt ak y=false:=λq y e hq=>by
   have:=p1 q hq
   rw[Nat.zero_add,e]at this
   exact O.zK _ _ (SB e) (SA ue) (by simpa using this)
  dsimp(zeta:=false) only
  extract_lets -merge -underBinder ZF Yq IZ kY Ci
  obtain⟨acX,eo,en⟩:ZF=kb-k2/\kY=uT++(b.extract k2 kb).reverse/\Ci=k2:=⟨rfl,rfl,rfl⟩
  clear_value ZF Yq kY Ci
  refine qx IZ (λ_ n4 kY st'=>(∃g,st'=setG st g)/\2<=n4/\n4<=kb/\Hg blt (a.toList++b.toList) (a.toList.take (ym+1)) (b.toList.take n4) kY.toList.reverse/\∀q y,b[q]? = some y->q<n4->blt ak y=false) ?_ λJ=>?_
  rotate_left
  ·clear_value IZ
   subst en
   refine w_ite (λWV=>?_) (λWV=>?_)
   ·have Su:Hg blt (a.toList++b.toList) (a.toList.take (ym+1)) (b.toList.take Ci) kY.toList.reverse:=by
     rw[eo,Array.toList_append,Array.toList_reverse,List.reverse_append,List.reverse_reverse,ext_toList]
     rw[jh b.toList hk2]at Sv
     refine Sv.pJ λx hx y hy=>?_
     obtain⟨q,hq,rfl⟩:=List.mem_iff_getElem.mp hx
     have hq2:q<kb-Ci:=by simp only[List.length_take]at hq;lia
     have e1:=p2 (Ci+q) LI LI
     rw[Nat.zero_add,aB (show Ci+q<b.size by lia)]at e1
     simp only[if_true,Option.getD_some]at e1
     have e2:((b.toList.drop Ci).take (kb-Ci))[q]=b[Ci+q]' LI:=by simp
     rw[e2]
     have sx:=SB (aB (show Ci+q<b.size by lia))
     exact O.tr _ _ _ (Vr hy) (SA ue) sx (mD O sa Sa (aG ue) hy) e1
    refine w_ite (λd4=>?_) (λd4=>?_)
    ·have Yl:Ci=1:=beq_iff_eq.mp d4
     subst Yl
     exact wpS_pure ⟨_,rfl,.inl ⟨_,rfl,Jp _ _ Su⟩⟩
    have Yl:¬Ci=1:=λz=>d4 (beq_iff_eq.mpr z)
    refine w_ite (λd6=>?_) (λd6=>?_)
    ·exact wpS_pure ⟨_,rfl,.inl ⟨_,rfl,fin _ _ _ Su (.inl (beq_iff_eq.mp d6))⟩⟩
    have d6':¬Ci=0:=λz=>d6 (beq_iff_eq.mpr z)
    exact J _ _ _ _ ⟨⟨_,rfl⟩,by lia,hk2,Su,lb⟩
   ·exact J _ _ _ _ ⟨⟨_,rfl⟩,by lia,Nat.le_refl _,Sv,λq y e hq=>lb q y e LI⟩
  clear eo en p1 p2 lb Sv NJ
  rintro _ n4 kY st' ⟨⟨g5,rfl⟩,n42,n4k,Su,MW⟩
  unfold IZ
  clear IZ
  obtain⟨RA,rfl⟩:∃q,n4=q+1:=⟨n4-1,by lia⟩
  extract_lets -merge -underBinder Zs
  have Yh:ym=Zs:=rfl
  clear_value Zs
  subst Yh
  refine wpS_bind (cU (p:=ak) ue ?_)
  extract_lets -merge -underBinder uS
  have Yc:kY.push ak=uS:=rfl
  clear_value uS
  have ZX:Hg blt (a.toList++b.toList) (a.toList.take ym) (b.toList.take (RA+1)) uS.toList.reverse:=Yc▸wm Su ue (aB (show RA<b.size by lia)) (MW RA _ (aB (show RA<b.size by lia)) LI)
  refine w_ite (λd5=>?_) (λd5=>?_)
  ·exact wpS_pure ⟨_,rfl,.inl ⟨_,rfl,fin _ _ _ ZX (.inr (beq_iff_eq.mp d5))⟩⟩
  have d5':¬ym=0:=λz=>d5 (beq_iff_eq.mpr z)
  have TV:Ah blt a b (rem-1) ym (RA+1) uS:=⟨ZX,by lia,by lia,by lia,by lia,by lia⟩
  refine w_ite (λ_=>?_) (λ_=>?_)
  ·exact wpS_pure ⟨_,rfl,.inr ⟨rfl,TV⟩⟩
  ·exact wpS_pure ⟨_,rfl,rfl,by rw[if_neg LI];exact TV⟩
 clear h
 rintro⟨r,ka,kb,o,mg',ca,cb⟩ st' ⟨g',rfl,h⟩
 rcases h with⟨r',e,gd⟩|⟨e,h⟩
 ·simp only at e
  subst e
  refine wpS_pure ?_
  exact wpS_pure (hQ _ g' gd)
 simp only at e h
 subst e
 dsimp only
 refine wpS_bind (wpS_modify ?_)
 refine wpS_pure ?_
 refine⟨_,rfl,rfl,rem-1,?_,h⟩
 have:=h.hr
 have:=h.a1
 lia
end
structure ck(xs ys:Array Keyed)(lo hi:Nat):Prop where
 perm:ys.Perm xs
 out:∀k,(k<lo\/hi<=k)->ys[k]? = xs[k]?
theorem ck.size{xs ys:Array Keyed}{lo hi:Nat}(h:ck xs ys lo hi):ys.size=xs.size:=h.perm.size_eq
theorem ck.refl(xs:Array Keyed)(lo hi:Nat):ck xs xs lo hi:=⟨Array.Perm.refl _,λ_ _=>rfl⟩
theorem ck.trans{xs ys zs:Array Keyed}{lo hi:Nat}(h:ck xs ys lo hi)(h':ck ys zs lo hi):ck xs zs lo hi:=⟨h'.perm.trans h.perm,λk hk=>(h'.out k hk).trans (h.out k hk)⟩
theorem ck.mono{xs ys:Array Keyed}{lo hi lo' hi':Nat}(h:ck xs ys lo hi)(h1:lo'<=lo)(h2:hi<=hi'):ck xs ys lo' hi':=⟨h.perm,λk hk=>h.out k LI⟩
theorem iK{xs:Array Keyed}{i j:Nat}(hj:j<=xs.size):ck xs (mirror xs i j ((j-i)/2)) i j:=⟨mirror_perm _ _ _ _,λk hk=>by rw[getElem?_mirror_all hj,if_neg LI]⟩
theorem xF{xs:Array Keyed}{src d:Nat}(hs:src<xs.size)(hd:d<=src):ck xs (bubble xs src d) (src-d) (src+1):=⟨bubble_perm _ _ _,λk hk=>by rw[getElem?_bubble hs d hd,if_neg LI,if_neg LI]⟩
def iT(blt:Keyed->Keyed->Bool)(xs:Array Keyed)(lo n:Nat):Prop:=∀i j,i<=j->j<n->∀x y,xs[lo+i]? = some x->xs[lo+j]? = some y->blt y x=false
def qp(blt:Keyed->Keyed->Bool)(xs:Array Keyed)(lo n:Nat):Prop:=∀i j,i<=j->j<n->∀x y,xs[lo+i]? = some x->xs[lo+j]? = some y->blt x y=false
abbrev jC(S:Keyed->Prop)(xs:Array Keyed):Prop:=∀x∈xs.toList,S x
theorem jC.at{S:Keyed->Prop}{xs:Array Keyed}(h:jC S xs){i:Nat}{x:Keyed}(e:xs[i]? = some x):S x:=h x (List.mem_of_getElem? (aG e))
theorem jC.keep{S:Keyed->Prop}{xs ys:Array Keyed}{lo hi:Nat}(h:jC S xs)(k:ck xs ys lo hi):jC S ys:=λx hx=>h x ((Array.perm_iff_toList_perm.mp k.perm).mem_iff.mp hx)
section
variable {S:Keyed->Prop} {blt:Keyed->Keyed->Bool} (O:Ord S blt)
include O
theorem iT.one{xs:Array Keyed}{lo:Nat}(hS:jC S xs):iT blt xs lo 1:=λi j hij hj x y hx hy=>by
 have:i=j:=by lia
 subst this
 rw[hx]at hy;cases hy
 exact O.Gv _ (hS.at hx)
theorem qp.one{xs:Array Keyed}{lo:Nat}(hS:jC S xs):qp blt xs lo 1:=λi j hij hj x y hx hy=>by
 have:i=j:=by lia
 subst this
 rw[hx]at hy;cases hy
 exact O.Gv _ (hS.at hx)
theorem iT.snoc{xs:Array Keyed}{lo n:Nat}(hS:jC S xs)(h:iT blt xs lo n)(hn:1<=n){x y:Keyed}(hx:xs[lo+n]? = some x)(hy:xs[lo+n-1]? = some y)(hlt:blt x y=false):iT blt xs lo (n+1):=λi j hij hj u v hu hv=>by
 by_cases hjn:j<n
 ·exact h i j hij hjn u v hu hv
 ·have e:j=n:=by lia
  subst e
  rw[hx]at hv;cases hv
  by_cases hin:i<j
  ·have e2:lo+j-1=lo+(j-1):=by lia
   rw[e2]at hy
   exact O.tr u y x (hS.at hu) (hS.at hy) (hS.at hx) (h i (j-1) LI LI u y hu hy) hlt
  ·have:i=j:=by lia
   subst this
   rw[hx]at hu;cases hu
   exact O.Gv _ (hS.at hx)
theorem qp.snoc{xs:Array Keyed}{lo n:Nat}(hS:jC S xs)(h:qp blt xs lo n)(hn:1<=n){x y:Keyed}(hx:xs[lo+n]? = some x)(hy:xs[lo+n-1]? = some y)(hlt:blt y x=false):qp blt xs lo (n+1):=λi j hij hj u v hu hv=>by
 by_cases hjn:j<n
 ·exact h i j hij hjn u v hu hv
 ·have e:j=n:=by lia
  subst e
  rw[hx]at hv;cases hv
  by_cases hin:i<j
  ·have e2:lo+j-1=lo+(j-1):=by lia
   rw[e2]at hy
   exact O.tr x y u (hS.at hx) (hS.at hy) (hS.at hu) hlt (h i (j-1) LI LI u y hu hy)
  ·have:i=j:=by lia
   subst this
   rw[hx]at hu;cases hu
   exact O.Gv _ (hS.at hx)
omit O in
theorem qp.rev{xs:Array Keyed}{lo n:Nat}(h:qp blt xs lo n)(hz:lo+n<=xs.size):iT blt (mirror xs lo (lo+n) ((lo+n-lo)/2)) lo n:=λi j hij hj x y hx hy=>by
 rw[getElem?_mirror_all hz,if_pos LI]at hx hy
 have e1:lo+(lo+n)-1-(lo+i)=lo+(n-1-i):=by lia
 have e2:lo+(lo+n)-1-(lo+j)=lo+(n-1-j):=by lia
 rw[e1]at hx
 rw[e2]at hy
 exact h (n-1-j) (n-1-i) LI LI y x hy hx
def Uj(blt:Keyed->Keyed->Bool)(xs:Array Keyed)(lo n q:Nat):Prop:=q<n/\∀i j,n-(q+1)<=i->i<n->n-(q+1)<=j->j<n->∀x y,xs[lo+i]? = some x->xs[lo+j]? = some y->blt x y=false
omit O in
theorem qp.flip{xs:Array Keyed}{lo n q:Nat}(h:qp blt xs lo n)(e:Uj blt xs lo n q)(hz:lo+n<=xs.size):qp blt (mirror xs (lo+n-(q+1)) (lo+n) ((lo+n-(lo+n-(q+1)))/2)) lo n:=λi j hij hj x y hx hy=>by
 have hq:=e.1
 rw[getElem?_mirror_all hz]at hx hy
 by_cases c1:lo+n-(q+1)<=lo+i/\lo+i<lo+n
 ·rw[if_pos c1]at hx
  rw[if_pos LI]at hy
  have e1:lo+n-(q+1)+(lo+n)-1-(lo+i)=lo+(n-(q+1)+n-1-i):=by lia
  have e2:lo+n-(q+1)+(lo+n)-1-(lo+j)=lo+(n-(q+1)+n-1-j):=by lia
  rw[e1]at hx
  rw[e2]at hy
  exact e.2 _ _ LI LI LI LI x y hx hy
 ·rw[if_neg c1]at hx
  by_cases c2:lo+n-(q+1)<=lo+j/\lo+j<lo+n
  ·rw[if_pos c2]at hy
   have e2:lo+n-(q+1)+(lo+n)-1-(lo+j)=lo+(n-(q+1)+n-1-j):=by lia
   rw[e2]at hy
   exact h i _ LI LI x y hx hy
  ·rw[if_neg c2]at hy
   exact h i j hij hj x y hx hy
end
section
variable {prog:Program} {w:World} {A:Around} {E:Value->Shared->Prop} {s:Shared} {κ:SortKind} {S:Keyed->Prop} {blt:Keyed->Keyed->Bool}
theorem qI(C:By prog w A E s κ S blt){st:SortSt}{i j:Nat}{x y:Keyed}{Q:Option Bool->SortSt->Prop}(hk:kindOf st=κ)(hS:jC S (arrOf st))(hx:(arrOf st)[i]? = some x)(hy:(arrOf st)[j]? = some y)(h:Q (some (blt x y)) st):
  wpS (model prog w) A E s (ltAt' i j) Q st:=by
 rw[ltAt'_eq]
 refine wpS_bind (wpS_get ?_)
 exact wpS_bind (cU hx (wpS_bind (cU hy (C x y st Q (hS.at hx) (hS.at hy) hk h))))
theorem w_rev{st:SortSt}{i j:Nat}{Q:Unit->SortSt->Prop}(h:Q () (setArr st (mirror (arrOf st) i j ((j-i)/2)))):wpS (model prog w) A E s (reverseSlice' i j) Q st:=by
 rw[reverseSlice'_eq]
 exact wpS_modify h
theorem Kc(O:Ord S blt)(C:By prog w A E s κ S blt){st:SortSt}{lo n₀ nrem:Nat}{f:Nat->Option (Option Nat)×Nat->SM (ForInStep (Option (Option Nat)×Nat))}{Q:Option (Option Nat)×Nat->SortSt->Prop}(hk:kindOf st=κ)(hS:jC S (arrOf st))(hz:lo+nrem<=(arrOf st).size)(h1:1<=n₀)(hn:n₀<=nrem)(ha:iT blt (arrOf st) lo n₀)
  (hf:∀i n,f i (none,n)=ltAt' (lo+n) (lo+n-1) >>= λx=>match x with
   |some z=>if z=true then pure (.done (none,n))else pure (.yield (none,n+1))
   |_=>pure (.done (some none,n)))
  (hq:∀n,n₀<=n->n<=nrem->iT blt (arrOf st) lo n->(n<nrem->∀x y,(arrOf st)[lo+n]? = some x->(arrOf st)[lo+n-1]? = some y->blt x y=true)->Q (none,n) st):wpS (model prog w) A E s (forIn [n₀:nrem] (none,n₀) f) Q st:=by
 refine wpS_forRange (λi c st'=>st'=st/\c=(none,i)/\n₀<=i/\iT blt (arrOf st) lo i) ?_ ?_ ⟨rfl,rfl,Nat.le_refl _,ha⟩
 ·rintro i c st' LD h2' ⟨rfl,rfl,h3,h4⟩
  rw[hf]
  have ex:=aB (show lo+i<(arrOf st').size by lia)
  have ey:=aB (show lo+i-1<(arrOf st').size by lia)
  refine wpS_bind (qI C hk hS ex ey ?_)
  cases z:blt (arrOf st')[lo+i] (arrOf st')[lo+i-1]with
  |true=>
   refine wpS_pure (hq i h3 LI h4 λ_ x y hx hy=>?_)
   rw[ex]at hx;cases hx
   rw[ey]at hy;cases hy
   exact z
  |false=>exact wpS_pure ⟨rfl,rfl,by lia,iT.snoc O hS h4 LI ex ey z⟩
 ·rintro c st' ⟨rfl,rfl,h3,h4⟩
  have e:max n₀ nrem=nrem:=by lia
  rw[e]at h4 ⊢
  exact hq nrem hn (Nat.le_refl _) h4 λz=>absurd z (Nat.lt_irrefl _)
theorem pM(st:SortSt):setArr st (arrOf st)=st:=rfl
theorem OQ{G:Prop}{α:Sort _}{P:α->Prop}(R:α)(h1:P R->G)(h2:P R):G:=h1 h2
theorem yy(O:Ord S blt)(C:By prog w A E s κ S blt){st:SortSt}{lo nrem:Nat}{Q:Option Nat->SortSt->Prop}(hk:kindOf st=κ)(hS:jC S (arrOf st))(hz:lo+nrem<=(arrOf st).size)(h1:1<=nrem)
  (hq:∀n ys,1<=n->n<=nrem->ck (arrOf st) ys lo (lo+nrem)->iT blt ys lo n->Q (some n) (setArr st ys)):wpS (model prog w) A E s (countRun' lo nrem) Q st:=by
 refine wpS_bind (Kc O C hk hS hz (Nat.le_refl 1) h1 (iT.one O hS) (λi n=>bnd _ λx=>by cases x<;>rfl) λn n1 n2 asc nxt=>?_)
 dsimp only
 refine w_ite (λc1=>?_) (λc1=>?_)
 ·exact wpS_pure (pM st▸hq n _ n1 n2 (ck.refl _ _ _) asc)
 have hn:n<nrem:=by
  have:¬n=nrem:=λz=>c1 (beq_iff_eq.mpr z)
  lia
 have ex:=aB (show lo+n<(arrOf st).size by lia)
 have ey:=aB (show lo+n-1<(arrOf st).size by lia)
 have drop:=nxt hn _ _ ex ey
 have e0:=aB (show lo<(arrOf st).size by lia)
 refine' OQ (P:=λR:SM (Option Nat)=>∀xs,ck (arrOf st) xs lo (lo+nrem)->qp blt xs lo (n+1)->wpS (model prog w) A E s R Q (setArr st xs)) _ (λfin=>?main) ?fin
 case main=>
  refine w_ite (λhn1=>?_) (λhn1=>?_)
  ·refine wpS_bind (qI C hk hS e0 ey ?_)
   cases z:blt (arrOf st)[lo] (arrOf st)[lo+n-1]with
   |true=>exact wpS_pure (pM st▸hq n _ n1 n2 (ck.refl _ _ _) asc)
   |false=>
    refine wpS_bind (w_rev ?_)
    have kx:=(iK (xs:=arrOf st) (i:=lo) (j:=lo+n) LI).mono (Nat.le_refl _) (show lo+n<=lo+nrem by lia)
    have eqv:∀i j,i<n->j<n->∀x y,(arrOf st)[lo+i]? = some x->(arrOf st)[lo+j]? = some y->blt x y=false:=λi j hi hj x y hx hy=>by
     have l1:=asc 0 j LI hj _ y (by rw[Nat.add_zero];exact e0) hy
     have l2:=asc i (n-1) LI LI x _ hx (by rw[show lo+(n-1)=lo+n-1 by lia];exact ey)
     exact O.tr y _ x (hS.at hy) (hS.at ey) (hS.at hx) (O.tr y _ _ (hS.at hy) (hS.at ey) (hS.at ey) (asc j (n-1) LI LI y _ hy (by rw[show lo+(n-1)=lo+n-1 by lia];exact ey)) (O.Gv _ (hS.at ey))) (O.tr _ _ x (hS.at ey) (hS.at e0) (hS.at hx) z (asc 0 i LI hi _ x (by rw[Nat.add_zero];exact e0) hx))
    have Tw:qp blt (mirror (arrOf st) lo (lo+n) ((lo+n-lo)/2)) lo (n+1):=by
     have XN:=hS.keep kx
     have d1:qp blt (mirror (arrOf st) lo (lo+n) ((lo+n-lo)/2)) lo n:=λi j hij hj x y hx hy=>by
      rw[getElem?_mirror_all (show lo+n<=(arrOf st).size by lia),if_pos LI]at hx hy
      rw[show lo+(lo+n)-1-(lo+i)=lo+(n-1-i) by lia]at hx
      rw[show lo+(lo+n)-1-(lo+j)=lo+(n-1-j) by lia]at hy
      exact eqv _ _ LI LI x y hx hy
     have e1:(mirror (arrOf st) lo (lo+n) ((lo+n-lo)/2))[lo+n]? = some (arrOf st)[lo+n]:=by
      rw[getElem?_mirror_all (show lo+n<=(arrOf st).size by lia),if_neg LI]
      exact ex
     have e2:(mirror (arrOf st) lo (lo+n) ((lo+n-lo)/2))[lo+n-1]? = some (arrOf st)[lo]:=by
      rw[getElem?_mirror_all (show lo+n<=(arrOf st).size by lia),if_pos LI,show lo+(lo+n)-1-(lo+n-1)=lo by lia]
      exact e0
     exact qp.snoc O XN d1 LI e1 e2 (O.tr _ _ _ (hS.at ex) (hS.at ey) (hS.at e0) (O.zK _ _ (hS.at ex) (hS.at ey) drop) (eqv 0 (n-1) LI LI _ _ (by rw[Nat.add_zero];exact e0) (by rw[show lo+(n-1)=lo+n-1 by lia];exact ey)))
    exact fin _ kx Tw
  ·have e:n=1:=by lia
   have kx:=ck.refl (arrOf st) lo (lo+nrem)
   have Tw:qp blt (arrOf st) lo (n+1):=by
    subst e
    exact qp.snoc O hS (qp.one O hS) (Nat.le_refl _) ex ey (O.zK _ _ (hS.at ex) (hS.at ey) drop)
   exact fin _ kx Tw
 case fin=>
  intro xs kx Tw
  have XN:=hS.keep kx
  refine wpS_bind (nK ?_)
  refine wpS_bind (wpS_mono (Q:=λ(c:Option (Option Nat)×Nat×Nat) st'=>∃ys,st'=setArr st ys/\c.1=none/\n+1<=c.2.1/\c.2.1<=nrem/\ck (arrOf st) ys lo (lo+nrem)/\qp blt ys lo c.2.1/\Uj blt ys lo c.2.1 c.2.2)
   (wpS_forRange (λi (c:Option (Option Nat)×Nat×Nat) st'=>∃ys,st'=setArr st ys/\c.1=none/\c.2.1=i/\n+1<=i/\ck (arrOf st) ys lo (lo+nrem)/\qp blt ys lo c.2.1/\Uj blt ys lo c.2.1 c.2.2) ?_ ?_ ⟨xs,rfl,rfl,rfl,Nat.le_refl _,kx,Tw,by simp only;lia,?_⟩) ?_)
  ·rintro i ⟨r,m,q⟩ st' i1 i2 ⟨ys,rfl,rfl,hi,hm,ky,dy,eq⟩
   simp only at hi
   subst hi
   simp only at ky dy eq
   dsimp only
   have pS:=hS.keep ky
   have zy:lo+nrem<=ys.size:=by rw[ky.size];exact hz
   have ex:=aB (show lo+m<ys.size by lia)
   have ey:=aB (show lo+m-1<ys.size by lia)
   refine wpS_bind (qI C (st:=setArr st ys) hk pS ex ey ?_)
   have hq1:=eq.1
   cases z:blt ys[lo+m] ys[lo+m-1]with
   |true=>
    dsimp only
    refine w_ite (λ_=>?_) (λz=>absurd rfl z)
    have key:∀zs,ck ys zs lo (lo+m)->qp blt zs lo m->(∀x,zs[lo+m-1]? = some x->blt x ys[lo+m]=false)->wpS (model prog w) A E s (pure (ForInStep.yield ((none,m+1,0):Option (Option Nat)×Nat×Nat)):SM _) (λr st'=>match r with
      |.done c=>∃ys,st'=setArr st ys/\c.1=none/\n+1<=c.2.1/\c.2.1<=nrem/\ck (arrOf st) ys lo (lo+nrem)/\qp blt ys lo c.2.1/\Uj blt ys lo c.2.1 c.2.2
      |.yield c=>∃ys,st'=setArr st ys/\c.1=none/\c.2.1=m+1/\n+1<=m+1/\ck (arrOf st) ys lo (lo+nrem)/\qp blt ys lo c.2.1/\Uj blt ys lo c.2.1 c.2.2) (setArr st zs):=by
     intro zs kz dz hlt
     have Rr:=ky.trans (kz.mono (Nat.le_refl _) (show lo+m<=lo+nrem by lia))
     have hSz:=hS.keep Rr
     have e1:zs[lo+m]? = some ys[lo+m]:=by rw[kz.out (lo+m) (.inr LI)];exact ex
     have zz:lo+m-1<zs.size:=by rw[kz.size];lia
     refine wpS_pure ⟨zs,rfl,rfl,rfl,by lia,Rr,qp.snoc O hSz dz LI e1 (aB zz) (hlt _ (aB zz)),by simp only;lia,λa b a1 a2 b1 b2 x y hx hy=>?_⟩
     simp only at a1 a2 b1 b2
     have e3:a=m:=by lia
     have e4:b=m:=by lia
     subst e3 e4
     rw[hx]at hy;cases hy
     exact O.Gv _ (hSz.at hx)
    refine w_ite (λq0=>?_) (λq0=>?_)
    ·refine wpS_bind (w_rev ?_)
     have km:=iK (xs:=ys) (i:=lo+m-(q+1)) (j:=lo+m) LI
     refine key _ (km.mono (show lo<=lo+m-(q+1) by have:=eq.1;lia) (Nat.le_refl _)) (dy.flip eq LI) λx hx=>?_
     rw[getElem?_mirror_all (show lo+m<=ys.size by lia),if_pos LI]at hx
     have e1:lo+m-(q+1)+(lo+m)-1-(lo+m-1)=lo+(m-(q+1)):=by lia
     rw[e1]at hx
     have e2:ys[lo+(m-1)]? = some ys[lo+m-1]:=by rw[show lo+(m-1)=lo+m-1 by lia];exact ey
     have le1:=dy (m-(q+1)) (m-1) LI LI x _ hx e2
     exact O.tr _ _ _ (pS.at ex) (pS.at ey) (pS.at hx) (O.zK _ _ (pS.at ex) (pS.at ey) z) le1
    ·refine key ys (ck.refl _ _ _) dy λx hx=>?_
     rw[ey]at hx;cases hx
     exact O.zK _ _ (pS.at ex) (pS.at ey) z
   |false=>
    dsimp only
    refine w_ite (λz=>absurd z Bool.false_ne_true) (λ_=>?_)
    refine wpS_bind (qI C (st:=setArr st ys) hk pS ey ex ?_)
    cases z2:blt ys[lo+m-1] ys[lo+m]with
    |true=>
     dsimp only
     refine w_ite (λ_=>?_) (λz=>absurd rfl z)
     exact wpS_pure ⟨ys,rfl,rfl,hm,by simp only;lia,ky,dy,eq⟩
    |false=>
     dsimp only
     refine w_ite (λz=>absurd z Bool.false_ne_true) (λ_=>?_)
     refine wpS_pure ⟨ys,rfl,rfl,rfl,by lia,ky,qp.snoc O pS dy LI ex ey z2,by simp only;lia,λa b a1 a2 b1 b2 x y hx hy=>?_⟩
     simp only at a1 a2 b1 b2
     have e2:ys[lo+(m-1)]? = some ys[lo+m-1]:=by rw[show lo+(m-1)=lo+m-1 by lia];exact ey
     by_cases ha:a=m
     ·subst ha
      rw[ex]at hx;cases hx
      by_cases hb:b=a
      ·subst hb
       rw[ex]at hy;cases hy
       exact O.Gv _ (pS.at ex)
      ·exact O.tr y ys[lo+a-1] _ (pS.at hy) (pS.at ey) (pS.at ex) (eq.2 (a-1) b LI LI LI LI _ y e2 hy) z
     ·by_cases hb:b=m
      ·subst hb
       rw[ex]at hy;cases hy
       exact O.tr _ ys[lo+b-1] x (pS.at ex) (pS.at ey) (pS.at hx) z2 (eq.2 a (b-1) LI LI LI LI x _ hx e2)
      ·exact eq.2 a b LI LI LI LI x y hx hy
  ·rintro⟨r,m,q⟩ st' ⟨ys,rfl,rfl,hi,hm,ky,dy,eq⟩
   simp only at hi
   subst hi
   simp only at ky dy eq
   exact⟨ys,rfl,rfl,by simp only;lia,by simp only;lia,ky,dy,eq⟩
  ·intro a b a1 a2 b1 b2 x y hx hy
   simp only at a1 a2 b1 b2
   have e3:a=n:=by lia
   have e4:b=n:=by lia
   subst e3 e4
   rw[hx]at hy;cases hy
   exact O.Gv _ (XN.at hx)
  ·rintro⟨r,m,q⟩ st' ⟨ys,rfl,rfl,m1,m2,ky,dy,eq⟩
   simp only at ky dy eq m1 m2
   dsimp only
   have zy:lo+nrem<=ys.size:=by rw[ky.size];exact hz
   refine' OQ (P:=λR:SM (Option Nat)=>∀zs,ck ys zs lo (lo+m)->qp blt zs lo m->wpS (model prog w) A E s R Q (setArr st zs)) _ (λS_=>w_ite (λq0=>?m1) (λq0=>?m2)) ?f2
   case m2=>exact S_ _ (ck.refl ys lo (lo+m)) dy
   case m1=>exact wpS_bind (w_rev (S_ _ ((iK (xs:=ys) (i:=lo+m-(q+1)) (j:=lo+m) LI).mono (show lo<=lo+m-(q+1) by have:=eq.1;lia) (Nat.le_refl _)) (dy.flip eq LI)))
   intro zs kz dz
   have Rr:=ky.trans (kz.mono (Nat.le_refl _) (show lo+m<=lo+nrem by lia))
   have zz:lo+nrem<=zs.size:=by rw[Rr.size];exact hz
   refine wpS_bind (w_rev ?_)
   have km:=iK (xs:=zs) (i:=lo) (j:=lo+m) LI
   have k3:=Rr.trans (km.mono (Nat.le_refl _) (show lo+m<=lo+nrem by lia))
   refine wpS_bind (Kc O C (st:=setArr st (mirror zs lo (lo+m) ((lo+m-lo)/2))) hk (hS.keep k3) (by rw[show arrOf (setArr st (mirror zs lo (lo+m) ((lo+m-lo)/2)))=mirror zs lo (lo+m) ((lo+m-lo)/2)from rfl,mirror_size];exact zz) LI m2 (dz.rev LI) (λi n=>bnd _ λx=>by cases x<;>rfl) λn' n1' n2' Ys _=>?_)
   exact wpS_pure (hq n' _ LI n2' k3 Ys)
end
section
variable {prog:Program} {w:World} {A:Around} {E:Value->Shared->Prop} {s:Shared} {κ:SortKind} {S:Keyed->Prop} {blt:Keyed->Keyed->Bool}
theorem LQ{st:SortSt}{i j:Nat}{Q:Unit->SortSt->Prop}(h:Q () (setArr st (bubble (arrOf st) i (i-j)))):wpS (model prog w) A E s (moveDown' i j) Q st:=by
 rw[moveDown'_eq]
 exact wpS_modify h
theorem iT.put(O:Ord S blt){xs:Array Keyed}{lo k l:Nat}(hS:jC S xs)(h:iT blt xs lo k)(hl:l<=k)(hz:lo+k<xs.size){x:Keyed}(hx:xs[lo+k]? = some x)(h1:∀i,i<l->∀y,xs[lo+i]? = some y->blt x y=false)(h2:∀i,l<=i->i<k->∀y,xs[lo+i]? = some y->blt x y=true):
  iT blt (bubble xs (lo+k) (lo+k-(lo+l))) lo (k+1):=λi j hij hj u v hu hv=>by
 have e:∀m,m<=k->(bubble xs (lo+k) (lo+k-(lo+l)))[lo+m]? = if m=l then xs[lo+k]? else if l<m then xs[lo+(m-1)]? else xs[lo+m]? :=λm hm=>by
  rw[getElem?_bubble hz _ LI]
  by_cases c1:m=l
  ·rw[if_pos LI,if_pos c1]
  ·rw[if_neg LI,if_neg c1]
   by_cases c2:l<m
   ·rw[if_pos LI,if_pos c2,show lo+m-1=lo+(m-1) by lia]
   ·rw[if_neg LI,if_neg c2]
 rw[e i LI]at hu
 rw[e j LI]at hv
 by_cases c1:i=l
 ·rw[if_pos c1,hx]at hu
  cases hu
  by_cases c2:j=l
  ·rw[if_pos c2,hx]at hv
   cases hv
   exact O.Gv _ (hS.at hx)
  ·rw[if_neg c2,if_pos LI]at hv
   exact O.zK _ _ (hS.at hx) (hS.at hv) (h2 (j-1) LI LI v hv)
 ·rw[if_neg c1]at hu
  by_cases c3:l<i
  ·rw[if_pos c3]at hu
   rw[if_neg LI,if_pos LI]at hv
   exact h (i-1) (j-1) LI LI u v hu hv
  ·rw[if_neg c3]at hu
   by_cases c2:j=l
   ·rw[if_pos c2,hx]at hv
    cases hv
    exact h1 i LI u hu
   ·rw[if_neg c2]at hv
    by_cases c4:l<j
    ·rw[if_pos c4]at hv
     exact h i (j-1) LI LI u v hu hv
    ·rw[if_neg c4]at hv
     exact h i j hij LI u v hu hv
theorem DM(O:Ord S blt)(C:By prog w A E s κ S blt){st:SortSt}{lo n ok:Nat}{Q:Bool->SortSt->Prop}(hk:kindOf st=κ)(hS:jC S (arrOf st))(hz:lo+n<=(arrOf st).size)(h1:1<=ok)(hn:ok<=n)(ha:iT blt (arrOf st) lo ok)
  (hq:∀ys,ck (arrOf st) ys lo (lo+n)->iT blt ys lo n->Q true (setArr st ys)):wpS (model prog w) A E s (binarySort' lo n ok) Q st:=by
 have em:max ok 1=ok:=by lia
 refine wpS_bind (wpS_mono (Q:=λ(c:Option Bool×Unit) st'=>∃ys,st'=setArr st ys/\c.1=none/\ck (arrOf st) ys lo (lo+n)/\iT blt ys lo n)
  (wpS_forRange (λk (c:Option Bool×Unit) st'=>∃ys,st'=setArr st ys/\c.1=none/\ck (arrOf st) ys lo (lo+n)/\iT blt ys lo k) ?_ ?_ ⟨arrOf st,rfl,rfl,ck.refl _ _ _,by rw[em];exact ha⟩) ?_)
 ·rintro k ⟨r,u⟩ st' k1 k2 ⟨ys,rfl,rfl,ky,ay⟩
  rw[em]at k1
  have pS:=hS.keep ky
  have zy:lo+n<=ys.size:=by rw[ky.size];exact hz
  have ex:=aB (show lo+k<ys.size by lia)
  refine wpS_bind (wpS_mono (Q:=λ(c:Option Bool×Nat×Nat) st'=>st'=setArr st ys/\c.1=none/\c.2.1<=k/\(∀i,i<c.2.1->∀y,ys[lo+i]? = some y->blt ys[lo+k] y=false)/\∀i,c.2.1<=i->i<k->∀y,ys[lo+i]? = some y->blt ys[lo+k] y=true)
   (wpS_forRange (λi (c:Option Bool×Nat×Nat) st'=>st'=setArr st ys/\c.1=none/\c.2.1<=c.2.2/\c.2.2<=k/\c.2.2-c.2.1+i<=k/\(∀i,i<c.2.1->∀y,ys[lo+i]? = some y->blt ys[lo+k] y=false)/\∀i,c.2.2<=i->i<k->∀y,ys[lo+i]? = some y->blt ys[lo+k] y=true) ?_ ?_
    ⟨rfl,rfl,by simp only;lia,by simp only;lia,by simp only;lia,λi hi=>absurd hi (Nat.not_lt_zero _),λi hi hi'=>by simp only at hi;lia⟩) ?_)
  ·rintro i ⟨r,l,h⟩ st' _ hi ⟨rfl,rfl,a1,a2,a3,a4,a5⟩
   simp only at a1 a2 a3 a4 a5
   dsimp only
   refine w_ite (λc1=>?_) (λc1=>?_)
   ·have e:l=h:=by lia
    subst e
    exact wpS_pure ⟨rfl,rfl,a2,a4,a5⟩
   have Of:=aB (show lo+(l+h)/2<ys.size by lia)
   refine wpS_bind (qI C (st:=setArr st ys) hk pS ex Of ?_)
   cases z:blt ys[lo+k] ys[lo+(l+h)/2]with
   |true=>
    refine wpS_pure ⟨rfl,rfl,by simp only;lia,by simp only;lia,by simp only;lia,a4,λq hq1 hq2 y hy=>?_⟩
    simp only at hq1
    have le:=ay ((l+h)/2) q hq1 hq2 _ y Of hy
    cases z2:blt ys[lo+k] y with
    |true=>rfl
    |false=>
     have:=O.tr _ _ _ (pS.at Of) (pS.at hy) (pS.at ex) le z2
     rw[z]at this
     cases this
   |false=>
    refine wpS_pure ⟨rfl,rfl,by simp only;lia,by simp only;lia,by simp only;lia,λq hq1 y hy=>?_,a5⟩
    simp only at hq1
    have le:=ay q ((l+h)/2) LI LI y _ hy Of
    exact O.tr _ _ _ (pS.at hy) (pS.at Of) (pS.at ex) le z
  ·rintro⟨r,l,h⟩ st' ⟨rfl,rfl,a1,a2,a3,a4,a5⟩
   simp only at a1 a2 a3 a4 a5
   have e:l=h:=by lia
   subst e
   exact⟨rfl,rfl,a2,a4,a5⟩
  ·rintro⟨r,l,h⟩ st' ⟨rfl,e,a2,a4,a5⟩
   simp only at e a2 a4 a5
   subst e
   refine wpS_bind (LQ ?_)
   refine wpS_pure ⟨_,rfl,rfl,ky.trans ((xF (xs:=ys) (src:=lo+k) (d:=lo+k-(lo+l)) LI LI).mono (show lo<=lo+k-(lo+k-(lo+l)) by lia) (show lo+k+1<=lo+n by lia)),iT.put O pS ay a2 (show lo+k<ys.size by lia) ex a4 a5⟩
 ·rintro⟨r,u⟩ st' ⟨ys,rfl,rfl,ky,ay⟩
  rw[show max (max ok 1) n=n by lia]at ay
  exact⟨ys,rfl,rfl,ky,ay⟩
 ·rintro⟨r,u⟩ st' ⟨ys,rfl,e,ky,ay⟩
  simp only at e
  subst e
  exact wpS_pure (hq ys ky ay)
theorem DH(o:Nat):∀(l:List Keyed)(t:Nat)(xs:Array Keyed),o+t+l.length<=xs.size->∀k,
  ((l.zipIdx t).foldl (λ(a:Array Keyed) (x:Keyed×Nat)=>match x with|(p,j)=>a.setIfInBounds (o+j) p) xs)[k]? = if o+t<=k/\k<o+t+l.length then l[k-(o+t)]? else xs[k]?
 |[],t,xs,_,k=>by
  rw[if_neg (by simp)]
  rfl
 |x::r,t,xs,h,k=>by
  rw[List.length_cons]at h
  have ih:=DH o r (t+1) (xs.setIfInBounds (o+t) x) (by rw[Array.size_setIfInBounds];lia) k
  rw[List.zipIdx_cons,List.foldl_cons]
  show(List.foldl _ (xs.setIfInBounds (o+t) x) (r.zipIdx (t+1)))[k]? = _
  rw[ih,List.length_cons]
  by_cases c1:o+(t+1)<=k/\k<o+(t+1)+r.length
  ·rw[if_pos c1,if_pos LI,show k-(o+t)=k-(o+(t+1))+1 by lia,List.getElem?_cons_succ]
  ·rw[if_neg c1]
   by_cases c2:k=o+t
   ·subst c2
    rw[if_pos LI,Nat.sub_self]
    simp[show o+t<xs.size by lia]
   ·rw[if_neg LI]
    rw[Array.getElem?_setIfInBounds_ne LI]
def wb(xs m:Array Keyed)(o:Nat):Array Keyed:=(m.toList.zipIdx).foldl (λ(a:Array Keyed) (x:Keyed×Nat)=>match x with|(p,j)=>a.setIfInBounds (o+j) p) xs
theorem DI{xs m:Array Keyed}{o:Nat}(h:o+m.size<=xs.size)(k:Nat):(wb xs m o)[k]? = if o<=k/\k<o+m.size then m[k-o]? else xs[k]? :=by
 have:=DH o m.toList 0 xs (by simpa using h) k
 unfold wb
 rw[this]
 simp
theorem HS{xs m:Array Keyed}{o:Nat}(h:o+m.size<=xs.size)(hp:m.toList.Perm (xs.extract o (o+m.size)).toList):ck xs (wb xs m o) o (o+m.size):=by
 refine⟨?_,λk hk=>by rw[DI h,if_neg LI]⟩
 rw[Array.perm_iff_toList_perm]
 have e1:(wb xs m o).toList=xs.toList.take o++m.toList++xs.toList.drop (o+m.size):=by
  apply List.ext_getElem?
  intro k
  have e:(wb xs m o).toList[k]? = (wb xs m o)[k]? :=by simp
  rw[e,DI h]
  have lt:(xs.toList.take o).length=o:=by simp;lia
  by_cases c1:k<o
  ·rw[if_neg LI,List.append_assoc,List.getElem?_append_left LI,List.getElem?_take_of_lt c1]
   simp
  ·by_cases c2:k<o+m.size
   ·rw[if_pos LI,List.append_assoc,List.getElem?_append_right LI,lt,List.getElem?_append_left (by simp;lia)]
    simp
   ·rw[if_neg LI,List.getElem?_append_right (by rw[List.length_append,lt];simp;lia),List.getElem?_drop,List.length_append,lt]
    rw[show o+m.size+(k-(o+m.toList.length))=k by simp;lia]
    simp
 have e2:xs.toList=xs.toList.take o++(xs.extract o (o+m.size)).toList++xs.toList.drop (o+m.size):=by
  rw[ext_toList,Nat.add_sub_cancel_left]
  have:=jh xs.toList (i:=o) (n:=o+m.size) LI
  rw[Nat.add_sub_cancel_left]at this
  rw[←this,List.take_append_drop]
 rw[e1]
 refine List.Perm.trans ?_ (List.Perm.of_eq e2.symm)
 exact List.Perm.append_right _ (List.Perm.append_left _ hp)
theorem ext_get{xs:Array Keyed}{i j k:Nat}(hj:j<=xs.size)(h:k<j-i):(xs.extract i j)[k]? = xs[i+k]? :=by
 rw[Array.getElem?_extract]
 rw[if_pos LI]
theorem gD{xs:Array Keyed}{i j:Nat}(hj:j<=xs.size):(xs.extract i j).size=j-i:=by
 rw[Array.size_extract]
 lia
theorem iT.Kn{xs:Array Keyed}{lo n i j:Nat}(h:iT blt xs lo n)(h1:lo<=i)(h2:j<=lo+n)(hz:j<=xs.size):rR blt (xs.extract i j).toList:=by
 refine List.pairwise_iff_getElem.mpr λp q hp hq hpq=>?_
 have sE:p<j-i:=by
  have z:=hp
  rw[Array.length_toList,gD hz]at z
  exact z
 have hq':q<j-i:=by
  have z:=hq
  rw[Array.length_toList,gD hz]at z
  exact z
 have e1:xs[lo+(i-lo+p)]? = some (xs.extract i j).toList[p]:=by
  rw[show lo+(i-lo+p)=i+p by lia,←ext_get hz sE]
  simp[gD hz,sE]
 have e2:xs[lo+(i-lo+q)]? = some (xs.extract i j).toList[q]:=by
  rw[show lo+(i-lo+q)=i+q by lia,←ext_get hz hq']
  simp[gD hz,hq']
 exact h _ _ LI LI _ _ e1 e2
theorem mT{xs:Array Keyed}{i j:Nat}{y:Keyed}(hz:j<=xs.size)(h:y∈(xs.extract i j).toList):∃q,q<j-i/\xs[i+q]? = some y:=by
 obtain⟨q,hq,rfl⟩:=List.mem_iff_getElem.mp h
 have hq':q<j-i:=by
  have z:=hq
  rw[Array.length_toList,gD hz]at z
  exact z
 refine⟨q,hq',?_⟩
 rw[←ext_get hz hq']
 simp[gD hz,hq']
abbrev gO(st:SortSt)(xs:Array Keyed)(p:Array (Nat×Nat×Nat))(g:Nat):SortSt:=SortSt.mk' (kindOf st) xs p g (failedOf st)
theorem BE(O:Ord S blt)(C:By prog w A E s κ S blt){st:SortSt}{i sa na pw nb YV:Nat}{Q:Bool->SortSt->Prop}(hk:kindOf st=κ)(hf:failedOf st=none)(hS:jC S (arrOf st))(e1:(pendingOf st)[i]? = some (sa,na,pw))(e2:(pendingOf st)[i+1]? = some (sa+na,nb,YV))
  (na1:1<=na)(nb1:1<=nb)(hz:sa+na+nb<=(arrOf st).size)(aa:iT blt (arrOf st) sa na)(ab:iT blt (arrOf st) (sa+na) nb)
  (hq:∀ys g,ck (arrOf st) ys sa (sa+na+nb)->iT blt ys sa (na+nb)->Q true (gO st ys (((pendingOf st).setIfInBounds i (sa,na+nb,pw)).eraseIdxIfInBounds (i+1)) g)):wpS (model prog w) A E s (mergeAt' i) Q st:=by
 refine wpS_bind (wpS_get ?_)
 rw[e1,e2]
 dsimp only
 refine wpS_bind (wpS_modify (f:=λ_=>gO st (arrOf st) (((pendingOf st).setIfInBounds i (sa,na+nb,pw)).eraseIdxIfInBounds (i+1)) (gallopOf st)) ?_)
 generalize ((pendingOf st).setIfInBounds i (sa,na+nb,pw)).eraseIdxIfInBounds (i+1)=P at *
 have eb:=aB (show sa+na<(arrOf st).size by lia)
 refine wpS_bind (cU eb (wpS_bind (iU (left:=false) (X:=λq=>((arrOf st)[sa+q]?).getD (arrOf st)[sa+na]) O C hk (λq hq=>?_) (λq hq=>?_) (hS.at eb) (λp q hpq hq=>?_) LI λk k1 p1 p2=>?_)))
 ·rw[aB (show sa+q<(arrOf st).size by lia)];rfl
 ·rw[aB (show sa+q<(arrOf st).size by lia)];exact hS.at (aB (show sa+q<(arrOf st).size by lia))
 ·rw[aB (show sa+p<(arrOf st).size by lia),aB (show sa+q<(arrOf st).size by lia)]
  exact aa p q hpq hq _ _ (aB (show sa+p<(arrOf st).size by lia)) (aB (show sa+q<(arrOf st).size by lia))
 have below:∀q,q<k->∀y,(arrOf st)[sa+q]? = some y->blt (arrOf st)[sa+na] y=false:=λq hq y hy=>by
  have:=p1 q hq
  rw[hy]at this
  simpa using this
 have above:∀q,k<=q->q<na->∀y,(arrOf st)[sa+q]? = some y->blt (arrOf st)[sa+na] y=true:=λq hq hq2 y hy=>by
  have:=p2 q hq hq2
  rw[hy]at this
  simpa using this
 have joined:(∀q,q<na->∀y,(arrOf st)[sa+q]? = some y->∀r,r<nb->∀z,(arrOf st)[sa+na+r]? = some z->blt z y=false)->iT blt (arrOf st) sa (na+nb):=λh p q hpq hq x y hx hy=>by
  by_cases c1:q<na
  ·exact aa p q hpq c1 x y hx hy
  ·by_cases c2:p<na
   ·exact h p c2 x hx (q-na) LI y (by rw[show sa+na+(q-na)=sa+q by lia];exact hy)
   ·exact ab (p-na) (q-na) LI LI x y (by rw[show sa+na+(p-na)=sa+p by lia];exact hx) (by rw[show sa+na+(q-na)=sa+q by lia];exact hy)
 have rB:∀r,r<nb->∀z,(arrOf st)[sa+na+r]? = some z->blt z (arrOf st)[sa+na]=false:=λr hr z hz'=>ab 0 r (Nat.zero_le _) hr _ z (by rw[Nat.add_zero];exact eb) hz'
 dsimp only
 refine w_ite (λc1=>?_) (λc1=>?_)
 ·have c1':k=na:=by
   have:=beq_iff_eq.mp c1
   lia
  refine wpS_pure (hq _ _ (ck.refl _ _ _) (joined λq hq y hy r hr z hz'=>?_))
  exact O.tr _ _ _ (hS.at hy) (hS.at eb) (hS.at hz') (below q LI y hy) (rB r hr z hz')
 have kn:k<na:=by
  have:¬na-k=0:=λz=>c1 (beq_iff_eq.mpr z)
  lia
 have el:=aB (show sa+k+(na-k)-1<(arrOf st).size by lia)
 have Bf:∀q,q<na->∀y,(arrOf st)[sa+q]? = some y->blt (arrOf st)[sa+k+(na-k)-1] y=false:=λq hq y hy=>aa q (na-1) LI LI y _ hy (by rw[show sa+(na-1)=sa+k+(na-k)-1 by lia];exact el)
 refine wpS_bind (cU el (wpS_bind (iU (left:=true) (X:=λq=>((arrOf st)[sa+na+q]?).getD (arrOf st)[sa+na]) O C hk (λq hq=>?_) (λq hq=>?_) (hS.at el) (λp q hpq hq=>?_) LI λk2 k21 q1 q2=>?_)))
 ·rw[aB (show sa+na+q<(arrOf st).size by lia)];rfl
 ·rw[aB (show sa+na+q<(arrOf st).size by lia)];exact hS.at (aB (show sa+na+q<(arrOf st).size by lia))
 ·rw[aB (show sa+na+p<(arrOf st).size by lia),aB (show sa+na+q<(arrOf st).size by lia)]
  exact ab p q hpq hq _ _ (aB (show sa+na+p<(arrOf st).size by lia)) (aB (show sa+na+q<(arrOf st).size by lia))
 have under:∀r,r<k2->∀z,(arrOf st)[sa+na+r]? = some z->blt z (arrOf st)[sa+k+(na-k)-1]=true:=λr hr z hz'=>by
  have:=q1 r hr
  rw[hz']at this
  simpa using this
 have over:∀r,k2<=r->r<nb->∀z,(arrOf st)[sa+na+r]? = some z->blt z (arrOf st)[sa+k+(na-k)-1]=false:=λr hr hr2 z hz'=>by
  have:=q2 r hr hr2
  rw[hz']at this
  simpa using this
 dsimp only
 refine w_ite (λc2=>?_) (λc2=>?_)
 ·have Yp:k2=0:=beq_iff_eq.mp c2
  refine wpS_pure (hq _ _ (ck.refl _ _ _) (joined λq hq y hy r hr z hz'=>?_))
  exact O.tr _ _ _ (hS.at hy) (hS.at el) (hS.at hz') (Bf q hq y hy) (over r LI hr z hz')
 have k2n:1<=k2:=by
  have:¬k2=0:=λz=>c2 (beq_iff_eq.mpr z)
  lia
 have zx:sa+na<=(arrOf st).size:=by lia
 have zy:sa+na+k2<=(arrOf st).size:=by lia
 have sx:(((arrOf st).extract (sa+k) (sa+na))).size=na-k:=by rw[gD zx];lia
 have sy:(((arrOf st).extract (sa+na) (sa+na+k2))).size=k2:=by rw[gD zy];lia
 have Sx:∀x∈((arrOf st).extract (sa+k) (sa+na)).toList,S x:=λx hx=>let⟨q,_,e⟩:=mT zx hx;hS.at e
 have Sy:∀x∈((arrOf st).extract (sa+na) (sa+na+k2)).toList,S x:=λx hx=>let⟨q,_,e⟩:=mT zy hx;hS.at e
 have YL:rR blt ((arrOf st).extract (sa+k) (sa+na)).toList:=aa.Kn LI LI zx
 have YK:rR blt ((arrOf st).extract (sa+na) (sa+na+k2)).toList:=ab.Kn LI LI zy
 have ea0:((arrOf st).extract (sa+k) (sa+na))[0]? = some (arrOf st)[sa+k]:=by rw[ext_get zx LI,Nat.add_zero];exact aB _
 have eb0:((arrOf st).extract (sa+na) (sa+na+k2))[0]? = some (arrOf st)[sa+na]:=by rw[ext_get zy LI,Nat.add_zero];exact eb
 have eal:((arrOf st).extract (sa+k) (sa+na))[((arrOf st).extract (sa+k) (sa+na)).size-1]? = some (arrOf st)[sa+k+(na-k)-1]:=by rw[sx,ext_get zx LI,show sa+k+(na-k-1)=sa+k+(na-k)-1 by lia];exact el
 have h0:blt (arrOf st)[sa+na] (arrOf st)[sa+k]=true:=above k (Nat.le_refl _) kn _ (aB _)
 have hl:∀y∈((arrOf st).extract (sa+na) (sa+na+k2)).toList,blt (arrOf st)[sa+k+(na-k)-1] y=false:=λy hy=>by
  obtain⟨q,hq1,e⟩:=mT zy hy
  exact O.zK _ _ (hS.at e) (hS.at el) (under q LI y e)
 have done:∀m g,Good blt (((arrOf st).extract (sa+k) (sa+na)).toList++((arrOf st).extract (sa+na) (sa+na+k2)).toList) m->Q true (gO st (wb (arrOf st) m (sa+k)) P g):=by
  intro m g gd
  have ms:m.size=na-k+k2:=by
   have:=gd.perm.length_eq
   rw[List.length_append,Array.length_toList,Array.length_toList,Array.length_toList,sx,sy]at this
   exact this
  have ZK:sa+k+m.size<=(arrOf st).size:=by lia
  have ej:((arrOf st).extract (sa+k) (sa+k+m.size)).toList=((arrOf st).extract (sa+k) (sa+na)).toList++((arrOf st).extract (sa+na) (sa+na+k2)).toList:=by
   rw[ext_toList,ext_toList,ext_toList,ms]
   rw[show sa+k+(na-k+k2)-(sa+k)=na-k+k2 by lia,show sa+na-(sa+k)=na-k by lia,Nat.add_sub_cancel_left]
   have:=jh ((arrOf st).toList.drop (sa+k)) (i:=na-k) (n:=na-k+k2) LI
   rw[this,List.drop_drop,Nat.add_sub_cancel_left,show sa+k+(na-k)=sa+na by lia]
  have kp:=HS (xs:=arrOf st) (m:=m) (o:=sa+k) ZK (by rw[ej];exact gd.perm)
  refine hq _ g (kp.mono (show sa<=sa+k by lia) (show sa+k+m.size<=sa+na+nb by lia)) λp q hpq hq' x y hx hy=>?_
  have mm:∀t u,m[t]? = some u->(∃r,k<=r/\r<na/\(arrOf st)[sa+r]? = some u)\/∃r,r<k2/\(arrOf st)[sa+na+r]? = some u:=λt u hu=>by
   have h1:=gd.perm.mem_iff.mp (List.mem_of_getElem? (aG hu))
   rcases List.mem_append.mp h1 with h1|h1
   ·obtain⟨r,hr,e⟩:=mT zx h1
    exact .inl ⟨k+r,by lia,by lia,by rw[show sa+(k+r)=sa+k+r by lia];exact e⟩
   ·obtain⟨r,hr,e⟩:=mT zy h1
    exact .inr ⟨r,by lia,e⟩
  rw[DI ZK]at hx hy
  by_cases c3:sa+k<=sa+p/\sa+p<sa+k+m.size
  ·rw[if_pos c3]at hx
   by_cases c4:sa+k<=sa+q/\sa+q<sa+k+m.size
   ·rw[if_pos c4]at hy
    have sm:∀z∈m.toList,S z:=λz hz'=>by
     have:=gd.perm.mem_iff.mp hz'
     rcases List.mem_append.mp this with h1|h1
     ·exact Sx z h1
     ·exact Sy z h1
    exact kR O gd.Kn sm (aG hx) (aG hy) LI
   ·rw[if_neg c4]at hy
    have RH:(arrOf st)[sa+na+(q-na)]? = some y:=by rw[show sa+na+(q-na)=sa+q by lia];exact hy
    rcases mm _ x hx with⟨r,r1,r2,er⟩|⟨r,r1,er⟩
    ·exact O.tr _ _ _ (hS.at er) (hS.at el) (hS.at hy) (Bf r r2 x er) (over (q-na) LI LI y RH)
    ·exact ab r (q-na) LI LI x y er RH
  ·rw[if_neg c3]at hx
   by_cases c4:sa+k<=sa+q/\sa+q<sa+k+m.size
   ·rw[if_pos c4]at hy
    rcases mm _ y hy with⟨r,r1,r2,er⟩|⟨r,r1,er⟩
    ·exact aa p r LI r2 x y hx er
    ·exact O.tr _ _ _ (hS.at hx) (hS.at eb) (hS.at er) (below p LI x hx) (rB r LI y er)
   ·rw[if_neg c4]at hy
    by_cases c5:q<k
    ·exact aa p q hpq LI x y hx hy
    ·have RH:(arrOf st)[sa+na+(q-na)]? = some y:=by rw[show sa+na+(q-na)=sa+q by lia];exact hy
     by_cases c6:p<k
     ·exact O.tr _ _ _ (hS.at hx) (hS.at eb) (hS.at hy) (below p c6 x hx) (rB (q-na) LI y RH)
     ·exact ab (p-na) (q-na) LI LI x y (by rw[show sa+na+(p-na)=sa+p by lia];exact hx) RH
 have ZG:(failedOf st).isNone=true:=by rw[hf];rfl
 refine w_ite (λ_=>?_) (λ_=>?_)
 ·refine wpS_bind (BC O C (st:=gO st (arrOf st) P (gallopOf st)) hk Sx Sy YL YK ea0 eb0 eal h0 hl λm g gd=>?_)
  refine wpS_bind (wpS_modify (wpS_bind (wpS_get (wpS_pure ?_))))
  show Q (failedOf st).isNone _
  rw[ZG]
  exact done m g gd
 ·refine wpS_bind (BD O C (st:=gO st (arrOf st) P (gallopOf st)) hk Sx Sy YL YK ea0 eb0 eal h0 hl λm g gd=>?_)
  refine wpS_bind (wpS_modify (wpS_bind (wpS_get (wpS_pure ?_))))
  show Q (failedOf st).isNone _
  rw[ZG]
  exact done m g gd
end
def jx(blt:Keyed->Keyed->Bool)(xs:Array Keyed):Nat->List (Nat×Nat)->Nat->Prop
 |k,[],lo=>k=lo
 |k,e::r,lo=>e.1=k/\1<=e.2/\iT blt xs k e.2/\jx blt xs (k+e.2) r lo
def qO(e:Nat×Nat×Nat):Nat×Nat:=(e.1,e.2.1)
theorem iT.mW{blt:Keyed->Keyed->Bool}{xs ys:Array Keyed}{lo hi k n:Nat}(h:iT blt xs k n)(kp:ck xs ys lo hi)(ho:k+n<=lo\/hi<=k):iT blt ys k n:=λi j hij hj x y hx hy=>by
 rw[kp.out (k+i) LI]at hx
 rw[kp.out (k+j) LI]at hy
 exact h i j hij hj x y hx hy
theorem jx.len{blt:Keyed->Keyed->Bool}{xs:Array Keyed}:∀{l:List (Nat×Nat)}{k lo:Nat},jx blt xs k l lo->k+l.length<=lo
 |[],k,lo,h=>by
  have:k=lo:=h
  simp[this]
 |e::r,k,lo,⟨_,h2,_,h4⟩=>by
  have:=jx.len h4
  rw[List.length_cons]
  lia
theorem jx.snoc{blt:Keyed->Keyed->Bool}{xs:Array Keyed}{n:Nat}(hn:1<=n):∀{l:List (Nat×Nat)}{k lo:Nat},jx blt xs k l lo->iT blt xs lo n->jx blt xs k (l++[(lo,n)]) (lo+n)
 |[],k,lo,h,a=>by
  have e:k=lo:=h
  subst e
  exact⟨rfl,hn,a,rfl⟩
 |e::r,k,lo,⟨h1,h2,h3,h4⟩,a=>⟨h1,h2,h3,jx.snoc hn h4 a⟩
theorem jx.beyond{blt:Keyed->Keyed->Bool}{xs ys:Array Keyed}{a b:Nat}(kp:ck xs ys a b):∀{l:List (Nat×Nat)}{k lo:Nat},jx blt xs k l lo->lo<=a->jx blt ys k l lo
 |[],k,lo,h,_=>h
 |e::r,k,lo,⟨h1,h2,h3,h4⟩,ha=>by
  have:=jx.len h4
  exact⟨h1,h2,h3.mW kp (.inl LI),jx.beyond kp h4 ha⟩
theorem jx.behind{blt:Keyed->Keyed->Bool}{xs ys:Array Keyed}{a b:Nat}(kp:ck xs ys a b):∀{l:List (Nat×Nat)}{k lo:Nat},jx blt xs k l lo->b<=k->jx blt ys k l lo
 |[],k,lo,h,_=>h
 |e::r,k,lo,⟨h1,h2,h3,h4⟩,ha=>⟨h1,h2,h3.mW kp (.inr ha),jx.behind kp h4 LI⟩
theorem jx.two{blt:Keyed->Keyed->Bool}{xs:Array Keyed}{a b:Nat×Nat}{l2:List (Nat×Nat)}:∀{l1:List (Nat×Nat)}{k lo:Nat},jx blt xs k (l1++a::b::l2) lo->
  b.1=a.1+a.2/\1<=a.2/\1<=b.2/\iT blt xs a.1 a.2/\iT blt xs b.1 b.2/\a.1+a.2+b.2<=lo/\
  ∀ys,ck xs ys a.1 (a.1+a.2+b.2)->iT blt ys a.1 (a.2+b.2)->jx blt ys k (l1++(a.1,a.2+b.2)::l2) lo
 |[],k,lo,⟨h1,h2,h3,h4,h5,h6,h7⟩=>by
  have hl:=jx.len h7
  subst h1
  refine⟨h4,h2,h5,h3,by rw[h4];exact h6,by lia,λys kp as=>⟨rfl,by simp only;lia,as,?_⟩⟩
  have e:a.1+(a.2+b.2)=a.1+a.2+b.2:=by lia
  show jx blt ys (a.1+(a.2+b.2)) l2 lo
  rw[e]
  exact h7.behind kp (Nat.le_refl _)
 |e::r,k,lo,⟨h1,h2,h3,h4⟩=>by
  obtain⟨g1,g2,g3,g4,g5,g6,g7⟩:=jx.two (l1:=r) h4
  refine⟨g1,g2,g3,g4,g5,g6,λys kp as=>⟨h1,h2,h3.mW kp (.inl ?_),g7 ys kp as⟩⟩
  have:∀{r:List (Nat×Nat)}{k lo:Nat},jx blt xs k (r++a::b::l2) lo->k<=a.1:=by
   intro r
   induction r with
   |nil=>intro k lo h;exact Nat.le_of_eq h.1.symm
   |cons x r ih=>intro k lo h;have:=ih h.2.2.2;lia
  exact this h4
theorem JP{p:Array (Nat×Nat×Nat)}{i:Nat}(h:i+1<p.size):∃l1 a b l2,p.toList=l1++a::b::l2/\l1.length=i/\p[i]? = some a/\p[i+1]? = some b:=by
 refine⟨p.toList.take i,p[i],p[i+1],p.toList.drop (i+2),?_,by rw[List.length_take,Array.length_toList];lia,by rw[Array.getElem?_eq_getElem],by rw[Array.getElem?_eq_getElem]⟩
 have e1:p.toList.drop i=p[i]::p.toList.drop (i+1):=by
  rw[List.drop_eq_getElem_cons (by simp;lia)]
  simp
 have e2:p.toList.drop (i+1)=p[i+1]::p.toList.drop (i+2):=by
  rw[List.drop_eq_getElem_cons (by simp;lia)]
  simp
 rw[←e2,←e1,List.take_append_drop]
theorem rN{p:Array (Nat×Nat×Nat)}{i:Nat}{l1 l2:List (Nat×Nat×Nat)}{a b e:Nat×Nat×Nat}(h:p.toList=l1++a::b::l2)(hl:l1.length=i):((p.setIfInBounds i e).eraseIdxIfInBounds (i+1)).toList=l1++e::l2:=by
 obtain⟨p⟩:=p
 have h':p=l1++a::b::l2:=h
 subst h' hl
 simp[List.eraseIdx_append_of_length_le]
theorem rM{p:Array (Nat×Nat×Nat)}{i:Nat}{f:Nat×Nat×Nat->Nat×Nat×Nat}(hf:∀x,qO (f x)=qO x):(p.modify i f).toList.map qO=p.toList.map qO:=by
 apply List.ext_getElem?
 intro k
 rw[List.getElem?_map,List.getElem?_map]
 have e:(p.modify i f).toList[k]? = (p.modify i f)[k]? :=Array.getElem?_toList
 have e2:p.toList[k]? = p[k]? :=Array.getElem?_toList
 rw[e,e2,Array.getElem?_modify]
 split
 ·cases p[k]? with
  |none=>rfl
  |some x=>simp[hf]
 ·rfl
section
variable {prog:Program} {w:World} {A:Around} {E:Value->Shared->Prop} {s:Shared} {κ:SortKind} {S:Keyed->Prop} {blt:Keyed->Keyed->Bool}
theorem yx(O:Ord S blt)(C:By prog w A E s κ S blt){st:SortSt}{i lo:Nat}{Q:Bool->SortSt->Prop}(hk:kindOf st=κ)(hf:failedOf st=none)(hS:jC S (arrOf st))(hi:i+1<(pendingOf st).size)(hz:lo<=(arrOf st).size)(cv:jx blt (arrOf st) 0 ((pendingOf st).toList.map qO) lo)
  (hq:∀ys P g,ck (arrOf st) ys 0 lo->jx blt ys 0 (P.toList.map qO) lo->P.size+1=(pendingOf st).size->Q true (gO st ys P g)):wpS (model prog w) A E s (mergeAt' i) Q st:=by
 obtain⟨l1,a,b,l2,e,hl,ea,eb⟩:=JP hi
 rw[e,List.map_append,List.map_cons,List.map_cons]at cv
 obtain⟨g1,g2,g3,g4,g5,g6,g7⟩:=cv.two
 obtain⟨sa,na,pw⟩:=a
 obtain⟨sb,nb,YV⟩:=b
 simp only[qO]at g1 g2 g3 g4 g5 g6 g7
 subst g1
 refine BE O C hk hf hS ea eb g2 g3 LI g4 g5 λys g kp as=>?_
 refine hq ys _ g (kp.mono (Nat.zero_le _) LI) ?_ ?_
 ·rw[rN e hl,List.map_append,List.map_cons]
  exact g7 ys kp as
 ·have h1:=congrArg List.length (rN (e:=(sa,na+nb,pw)) e hl)
  have h2:=congrArg List.length e
  simp only[List.length_append,List.length_cons,Array.length_toList]at h1 h2
  lia
theorem yw(O:Ord S blt)(C:By prog w A E s κ S blt){st:SortSt}{Q:Unit->SortSt->Prop}(hk:kindOf st=κ)(hf:failedOf st=none)(hp:pendingOf st= #[])(hS:jC S (arrOf st))
  (hq:∀ys P g,ck (arrOf st) ys 0 (arrOf st).size->iT blt ys 0 (arrOf st).size->Q () (gO st ys P g)):wpS (model prog w) A E s sortRuns' Q st:=by
 refine wpS_bind (wpS_get ?_)
 refine wpS_bind (wpS_mono (Q:=λ(c:Option Unit×Nat) st'=>∃ys P g,st'=gO st ys P g/\c.1=none/\ck (arrOf st) ys 0 (arrOf st).size/\jx blt ys 0 (P.toList.map qO) (arrOf st).size)
  (wpS_forRange (λi (c:Option Unit×Nat) st'=>∃ys P g,st'=gO st ys P g/\c.1=none/\i<=c.2/\c.2<=(arrOf st).size/\ck (arrOf st) ys 0 (arrOf st).size/\jx blt ys 0 (P.toList.map qO) c.2) ?_ ?_ ⟨arrOf st,pendingOf st,gallopOf st,rfl,rfl,Nat.le_refl _,Nat.zero_le _,ck.refl _ _ _,by rw[hp];rfl⟩) ?_)
 ·rintro i ⟨r,lo⟩ st' _ hi ⟨ys,P,g,rfl,rfl,h1,h2,ky,cv⟩
  simp only at h1 h2 cv
  have hi:i<(arrOf st).size:=hi
  refine w_ite (λc1=>?_) (λc1=>?_)
  ·have e:lo=(arrOf st).size:=by
    have:lo≥(arrOf st).size:=c1
    lia
   subst e
   exact wpS_pure ⟨ys,P,g,rfl,rfl,ky,cv⟩
  have hlo:lo<(arrOf st).size:=Nat.lt_of_not_le c1
  have sy:=ky.size
  refine wpS_bind (yy O C (st:=gO st ys P g) hk (hS.keep ky) (show lo+((arrOf st).size-lo)<=ys.size by lia) LI λn HN n1 n2 UG as=>?_)
  have n2:n<=(arrOf st).size-lo:=n2
  have el:lo+((arrOf st).size-lo)=(arrOf st).size:=by lia
  change ck ys HN lo (lo+((arrOf st).size-lo))at UG
  rw[el]at UG
  have cv2:=cv.beyond UG (Nat.le_refl _)
  have UE:=ky.trans (UG.mono (Nat.zero_le _) (Nat.le_refl _))
  have sy2:=UE.size
  refine w_ite (λc2=>?_) (λc2=>?_)
  ·refine wpS_bind (nK ?_)
   have hmin:n<=min ((arrOf st).size-lo) (minRun' (arrOf st).size (arrOf st).size 0):=by
    have:n<minRun' (arrOf st).size (arrOf st).size 0:=c2
    lia
   refine wpS_bind (DM O C (st:=gO st HN P g) (n:=min ((arrOf st).size-lo) (minRun' (arrOf st).size (arrOf st).size 0)) hk (hS.keep UE) (show lo+min ((arrOf st).size-lo) (minRun' (arrOf st).size (arrOf st).size 0)<=HN.size by lia) n1 hmin as λDt WO TY=>?_)
   change ck HN Dt lo _ at WO
   have Rt:=UE.trans (WO.mono (Nat.zero_le _) (show lo+min ((arrOf st).size-lo) (minRun' (arrOf st).size (arrOf st).size 0)<=(arrOf st).size by lia))
   have TH:=cv2.beyond WO (Nat.le_refl _)
   refine w_ite (λz=>by cases z) (λ_=>?_)
   have QZ:1<=min ((arrOf st).size-lo) (minRun' (arrOf st).size (arrOf st).size 0):=by lia
   show wpS _ _ _ _ _ _ (gO st Dt P g)
   refine wpS_bind (wpS_get ?_)
   split
   ·rename_i s1 n1 pw1 _
    dsimp only
    refine wpS_bind (wpS_mono (Q:=λ(c:Option Unit×Unit) st'=>∃zs P2 g2,st'=gO st zs P2 g2/\c.1=none/\ck (arrOf st) zs 0 (arrOf st).size/\jx blt zs 0 (P2.toList.map qO) lo/\iT blt zs lo (min ((arrOf st).size-lo) (minRun' (arrOf st).size (arrOf st).size 0)))
     (wpS_forRange (λ_ (c:Option Unit×Unit) st'=>∃zs P2 g2,st'=gO st zs P2 g2/\c.1=none/\ck (arrOf st) zs 0 (arrOf st).size/\jx blt zs 0 (P2.toList.map qO) lo/\iT blt zs lo (min ((arrOf st).size-lo) (minRun' (arrOf st).size (arrOf st).size 0))) ?_ (λc st' h=>h) ⟨Dt,P,g,rfl,rfl,Rt,TH,TY⟩) ?_)
    ·rintro j ⟨r,u⟩ st' _ hj ⟨zs,P2,g2,rfl,rfl,kz,cz,az⟩
     refine wpS_bind (wpS_get ?_)
     dsimp only
     by_cases c2:P2.size>1
     ·rw[if_pos c2]
      obtain⟨⟨y1,y2,older⟩,ey⟩:∃y,P2[P2.size-2]? = some y:=⟨P2[P2.size-2],by rw[Array.getElem?_eq_getElem]⟩
      rw[ey]
      dsimp only
      refine w_ite (λ_=>?_) (λ_=>?_)
      ·exact wpS_pure ⟨zs,P2,g2,rfl,rfl,kz,cz,az⟩
      refine wpS_bind (yx O C (st:=gO st zs P2 g2) (lo:=lo) hk hf (hS.keep kz) (show P2.size-2+1<P2.size by lia) (show lo<=zs.size by rw[kz.size];lia) cz λus P3 g3 ku cu su=>?_)
      refine w_ite (λz=>by cases z) (λ_=>?_)
      exact wpS_pure ⟨us,P3,g3,rfl,rfl,kz.trans (ku.mono (Nat.le_refl _) (show lo<=(arrOf st).size by lia)),cu,az.mW ku (.inr (Nat.le_refl _))⟩
     ·rw[if_neg c2]
      exact wpS_pure ⟨zs,P2,g2,rfl,rfl,kz,cz,az⟩
    rintro⟨r,u⟩ st' ⟨zs,P2,g2,rfl,e,kz,cz,az⟩
    simp only at e
    subst e
    dsimp only
    refine wpS_bind (wpS_modify ?_)
    have Yn:∀f:Nat×Nat×Nat->Nat×Nat×Nat,(∀x,qO (f x)=qO x)->jx blt zs 0 ((P2.modify (P2.size-1) f).toList.map qO) lo:=λf hf=>by
     rw[rM hf]
     exact cz
    refine wpS_bind (wpS_modify ?_)
    refine wpS_pure ⟨zs,_,g2,rfl,rfl,(show i+1<=lo+(min ((arrOf st).size-lo) (minRun' (arrOf st).size (arrOf st).size 0)) by lia),(show lo+(min ((arrOf st).size-lo) (minRun' (arrOf st).size (arrOf st).size 0))<=(arrOf st).size by lia),kz,?_⟩
    rw[Array.toList_push,List.map_append]
    refine jx.snoc QZ (Yn _ ?_) az
    exact λ_=>rfl
   ·refine wpS_bind (wpS_modify ?_)
    refine wpS_pure ⟨Dt,_,g,rfl,rfl,(show i+1<=lo+(min ((arrOf st).size-lo) (minRun' (arrOf st).size (arrOf st).size 0)) by lia),(show lo+(min ((arrOf st).size-lo) (minRun' (arrOf st).size (arrOf st).size 0))<=(arrOf st).size by lia),Rt,?_⟩
    rw[Array.toList_push,List.map_append]
    exact TH.snoc QZ TY
  ·skip
   obtain⟨Dt,hxs⟩:∃Dt,Dt=HN:=⟨_,rfl⟩
   obtain⟨n3,ZS⟩:∃n3,n3=n:=⟨_,rfl⟩
   have Rt:ck (arrOf st) Dt 0 (arrOf st).size:=by rw[hxs];exact UE
   have TH:jx blt Dt 0 (P.toList.map qO) lo:=by rw[hxs];exact cv2
   have TY:iT blt Dt lo n3:=by rw[hxs,ZS];exact as
   have QZ:1<=n3:=by lia
   have n32:lo+n3<=(arrOf st).size:=by lia
   show wpS _ _ _ _ _ _ (gO st HN P g)
   rw[←hxs,←ZS]
   refine wpS_bind (wpS_get ?_)
   split
   ·rename_i s1 n1 pw1 _
    dsimp only
    refine wpS_bind (wpS_mono (Q:=λ(c:Option Unit×Unit) st'=>∃zs P2 g2,st'=gO st zs P2 g2/\c.1=none/\ck (arrOf st) zs 0 (arrOf st).size/\jx blt zs 0 (P2.toList.map qO) lo/\iT blt zs lo n3)
     (wpS_forRange (λ_ (c:Option Unit×Unit) st'=>∃zs P2 g2,st'=gO st zs P2 g2/\c.1=none/\ck (arrOf st) zs 0 (arrOf st).size/\jx blt zs 0 (P2.toList.map qO) lo/\iT blt zs lo n3) ?_ (λc st' h=>h) ⟨Dt,P,g,rfl,rfl,Rt,TH,TY⟩) ?_)
    ·rintro j ⟨r,u⟩ st' _ hj ⟨zs,P2,g2,rfl,rfl,kz,cz,az⟩
     refine wpS_bind (wpS_get ?_)
     dsimp only
     by_cases c2:P2.size>1
     ·rw[if_pos c2]
      obtain⟨⟨y1,y2,older⟩,ey⟩:∃y,P2[P2.size-2]? = some y:=⟨P2[P2.size-2],by rw[Array.getElem?_eq_getElem]⟩
      rw[ey]
      dsimp only
      refine w_ite (λ_=>?_) (λ_=>?_)
      ·exact wpS_pure ⟨zs,P2,g2,rfl,rfl,kz,cz,az⟩
      refine wpS_bind (yx O C (st:=gO st zs P2 g2) (lo:=lo) hk hf (hS.keep kz) (show P2.size-2+1<P2.size by lia) (show lo<=zs.size by rw[kz.size];lia) cz λus P3 g3 ku cu su=>?_)
      refine w_ite (λz=>by cases z) (λ_=>?_)
      exact wpS_pure ⟨us,P3,g3,rfl,rfl,kz.trans (ku.mono (Nat.le_refl _) (show lo<=(arrOf st).size by lia)),cu,az.mW ku (.inr (Nat.le_refl _))⟩
     ·rw[if_neg c2]
      exact wpS_pure ⟨zs,P2,g2,rfl,rfl,kz,cz,az⟩
    rintro⟨r,u⟩ st' ⟨zs,P2,g2,rfl,e,kz,cz,az⟩
    simp only at e
    subst e
    dsimp only
    refine wpS_bind (wpS_modify ?_)
    have Yn:∀f:Nat×Nat×Nat->Nat×Nat×Nat,(∀x,qO (f x)=qO x)->jx blt zs 0 ((P2.modify (P2.size-1) f).toList.map qO) lo:=λf hf=>by
     rw[rM hf]
     exact cz
    refine wpS_bind (wpS_modify ?_)
    refine wpS_pure ⟨zs,_,g2,rfl,rfl,(show i+1<=lo+n3 by lia),(show lo+n3<=(arrOf st).size by lia),kz,?_⟩
    rw[Array.toList_push,List.map_append]
    refine jx.snoc QZ (Yn _ ?_) az
    exact λ_=>rfl
   ·refine wpS_bind (wpS_modify ?_)
    refine wpS_pure ⟨Dt,_,g,rfl,rfl,(show i+1<=lo+n3 by lia),(show lo+n3<=(arrOf st).size by lia),Rt,?_⟩
    rw[Array.toList_push,List.map_append]
    exact TH.snoc QZ TY
 ·rintro⟨r,lo⟩ st' ⟨ys,P,g,rfl,rfl,h1,h2,ky,cv⟩
  simp only at h2 cv
  have h1:max 0 (arrOf st).size<=lo:=h1
  have e:lo=(arrOf st).size:=by lia
  subst e
  exact⟨ys,P,g,rfl,rfl,ky,cv⟩
 ·rintro⟨r,lo⟩ st' ⟨ys,P,g,rfl,e,ky,cv⟩
  simp only at e
  subst e
  have hlen:=cv.len
  rw[List.length_map,Array.length_toList]at hlen
  refine wpS_bind (wpS_mono (Q:=λ(c:Option Unit×Unit) st'=>∃ys P g,st'=gO st ys P g/\c.1=none/\ck (arrOf st) ys 0 (arrOf st).size/\jx blt ys 0 (P.toList.map qO) (arrOf st).size/\P.size<=1)
   (wpS_forRange (λi (c:Option Unit×Unit) st'=>∃ys P g,st'=gO st ys P g/\c.1=none/\ck (arrOf st) ys 0 (arrOf st).size/\jx blt ys 0 (P.toList.map qO) (arrOf st).size/\P.size+i<=(arrOf st).size) ?_ ?_ ⟨ys,P,g,rfl,rfl,ky,cv,by lia⟩) ?_)
  ·rintro i ⟨r,u⟩ st' _ hi ⟨ys,P,g,rfl,rfl,ky,cv,hs⟩
   have hi:i<(arrOf st).size:=hi
   refine wpS_bind (wpS_get ?_)
   refine w_ite (λc1=>?_) (λc1=>?_)
   ·exact wpS_pure ⟨ys,P,g,rfl,rfl,ky,cv,c1⟩
   have c1':2<=P.size:=by
    have:¬P.size<=1:=c1
    lia
   refine wpS_bind (yx O C (st:=gO st ys P g) (lo:=(arrOf st).size) hk hf (hS.keep ky) ?_ (Nat.le_of_eq ky.size.symm) cv λzs P2 g2 kz cz sz=>?_)
   ·have key:∀(o:Option Bool),(if o=some true then P.size-2-1 else P.size-2)+1<P.size:=λo=>by split<;>lia
    have WU:∀(c:Bool),(if c=true then P.size-2-1 else P.size-2)+1<P.size:=λc=>by split<;>lia
    exact WU _
   ·change P2.size+1=P.size at sz
    refine w_ite (λz=>by cases z) (λ_=>?_)
    exact wpS_pure ⟨zs,P2,g2,rfl,rfl,ky.trans kz,cz,by lia⟩
  ·rintro⟨r,u⟩ st' ⟨ys,P,g,rfl,rfl,ky,cv,hs⟩
   have hs:P.size+max 0 (arrOf st).size<=(arrOf st).size:=hs
   exact⟨ys,P,g,rfl,rfl,ky,cv,by lia⟩
  ·rintro⟨r,u⟩ st' ⟨ys,P,g,rfl,e,ky,cv,hs⟩
   simp only at e
   subst e
   refine wpS_pure (hq ys P g ky ?_)
   cases hP:P.toList with
   |nil=>
    rw[hP]at cv
    have e:0=(arrOf st).size:=cv
    rw[←e]
    exact λi j _ hj=>absurd hj (Nat.not_lt_zero _)
   |cons a r=>
    have hr:r=[]:=by
     have:=congrArg List.length hP
     rw[Array.length_toList,List.length_cons]at this
     exact List.length_eq_zero_iff.mp LI
    subst hr
    rw[hP]at cv
    obtain⟨_,_,h3,h4⟩:=cv
    have e:0+(qO a).2=(arrOf st).size:=h4
    rw[←e,Nat.zero_add]
    exact h3
end
def MX:Nat:=10000001
section
variable {prog:Program} {w:World} {A:Around} {E:Value->Shared->Prop} {s:Shared} {κ:SortKind} {S:Keyed->Prop} {blt:Keyed->Keyed->Bool}
theorem vP(O:Ord S blt)(C:By prog w A E s κ S blt){st:SortSt}{Q:Unit->SortSt->Prop}(hk:kindOf st=κ)(hf:failedOf st=none)(hp:pendingOf st= #[])(hS:jC S (arrOf st))(_:1<=(arrOf st).size/\(arrOf st).size<MX)
  (hq:∀ys P g,ck (arrOf st) ys 0 (arrOf st).size->iT blt ys 0 (arrOf st).size->Q () (gO st ys P g)):wpS (model prog w) A E s sortRuns' Q st:=yw O C hk hf hp hS hq
end
def Fits(n:Nat):Prop:=n<=10000000/\n<MX
def Kept(h h':Heap)(a:Addr):Prop:=∀b o,b≠a->h.get? b=some o->h'.get? b=some o
section
variable {prog:Program} {w:World} {A:Around} {E:Value->Shared->Prop} {s:Shared} {κ:SortKind} {S:Keyed->Prop} {blt:Keyed->Keyed->Bool}
theorem Hi(h:∀(x y:Keyed)(Q:Bool->Shared->Prop),S x->S y->Q (blt x y) s->wpAny (model prog w) A (keyLt' κ x.1 y.1) Q (λ_ _=>False) s):By prog w A E s κ S blt:=λx y st Q sx sy hk hq=>by
 rw[lt'_eq];refine wpS_bind (wpS_get ?_);rw[hk]
 exact wpS_bind (wpS_lift (wpAny_attempt (wpAny_mono (h x y (λb s'=>b=blt x y/\s'=s) sx sy ⟨rfl,rfl⟩) (λb s' e=>by obtain⟨rfl,rfl⟩:=e;exact⟨rfl,wpS_pure hq⟩) λ_ _ f=>f.elim)))
theorem QC{ys:Array Keyed}{n:Nat}(hn:ys.size=n)(h:iT blt ys 0 n):ys.toList.Pairwise λx y=>blt y x=false:=by
 rw[List.pairwise_iff_getElem];intro i j hi hj hij
 have hi':i<ys.size:=by simpa using hi
 have hj':j<ys.size:=by simpa using hj
 refine h i j (Nat.le_of_lt hij) LI _ _ ?_ ?_<;>simp[hi',hj']
theorem Ka(O:Ord S blt){ps:List Keyed}{Q:SortSt->Shared->Prop}(C:By prog w A E s κ S blt)(hS:∀p∈ps,S p)(hx:1<=ps.length/\ps.length<MX)
  (hq:∀(out:List Keyed)(st:SortSt),arrOf st=out.toArray->failedOf st=none->out.Perm ps->out.Pairwise (λx y=>blt y x=false)->Q st s):
  wpAny (model prog w) A ((sortRuns').run (SortSt.mk' κ ps.toArray #[] 7 none)) (λr s'=>Q r.2 s') E s:=by
 have key:wpS (model prog w) A E s sortRuns' (λ_ st=>Q st s) (SortSt.mk' κ ps.toArray #[] 7 none):=by
  refine vP O C rfl rfl rfl (λp hp=>hS p (by simpa using hp)) (by show 1<=ps.toArray.size/\ps.toArray.size<MX;rw[List.size_toArray];exact hx) λys P g kp as=>?_
  refine hq ys.toList _ (by simp[gO]) rfl ?_ (QC kp.size as)
  have:=kp.perm.toList
  simpa using this
 exact wpAny_mono key (λr s' e=>by obtain⟨rfl,e⟩:=e;exact e) λ_ _ e=>e
theorem II{vs:List Value}{out:List Keyed}(hp:out.Perm (vs.zip vs))(hw:out.Pairwise λx y=>blt y x=false):(out.map (·.2)).Perm vs/\(out.map (·.2)).Pairwise λx y=>blt (y,y) (x,x)=false:=by
 have e2:(vs.zip vs).map (·.2)=vs:=List.map_snd_zip (Nat.le_refl _)
 refine⟨by have:=hp.map (·.2);rwa [e2]at this,?_⟩
 rw[List.pairwise_map]
 refine hw.imp_of_mem λ{x y} hx hy h=>?_
 have dx:=mem_zip_self (hp.mem_iff.mp hx)
 have dy:=mem_zip_self (hp.mem_iff.mp hy)
 have ex:x=(x.2,x.2):=Prod.ext dx.1 rfl
 have ey:y=(y.2,y.2):=Prod.ext dy.1 rfl
 rw[ex,ey]at h;exact h
theorem qJ(O:Ord S blt){a:Addr}{vs:List Value}{n:Nat}{P:PySem.Fin->Shared->Prop}(ho:s.heap.get? a=some (seqObj "list" vs.toArray n))(Dy:Fits vs.length)(hS:∀v∈vs,S (v,v))
  (hk:2<=vs.length->∀h',Kept s.heap h' a->∀Q:SortKind->Shared->Prop,Q κ {s with heap:=h'}->wpAny (model prog w) A (keyKind' vs.toArray) Q (λ_ _=>False) {s with heap:=h'})
  (hc:2<=vs.length->∀h',Kept s.heap h' a->∀(x y:Keyed)(Q:Bool->Shared->Prop),S x->S y->Q (blt x y) {s with heap:=h'}->wpAny (model prog w) A (keyLt' κ x.1 y.1) Q (λ_ _=>False) {s with heap:=h'})
  (h:∀out:List Value,out.Perm vs->out.Pairwise (λx y=>blt (y,y) (x,x)=false)->P (.done (.ret .none)) {s with heap:=sortedHeap s.heap a vs out.toArray}):
  wpAny (model prog w) A (Builtin.«list.sort» ⟨[.ref a],[]⟩) P E s:=by
 obtain⟨hz,hx⟩:=Dy
 have hl:vs.toArray.size<=sizeLine:=by rw[sizeLine_eq,List.size_toArray];lia
 have ha:=Heap.lt_size ho
 obtain⟨e1,RY⟩:∃e1,(s.heap.update a (Obj.mapSeq λ_=>(#[]:Array Value))).get? a=some (seqObj "list" #[] e1):=⟨_,get?_update_seq ho λ_=> #[]⟩
 rw[list_sort_plain];refine wpAny_bind (listItems_at ho rfl (wpAny_bind (listUpdate_at ho rfl ?_ hl (Nat.zero_le _))))
 refine wpAny_bind (seqEpoch_at RY rfl (wpAny_bind (wpAny_newTuple ?_ (by show vs.length<=_;simpa using hl))))
 refine wpAny_bind (wpAny_newList (wpAny_holding ?_) (Nat.zero_le _))
 show wpAny (model prog w) A _ P E {s with heap:=((s.heap.update a (Obj.mapSeq λ_=>(#[]:Array Value))).push (seqObj "tuple" vs.toArray 0)).push (seqObj "list" #[] 0)}
 have ho6:(((s.heap.update a (Obj.mapSeq λ_=>(#[]:Array Value))).push (seqObj "tuple" vs.toArray 0)).push (seqObj "list" #[] 0)).get? a=some (seqObj "list" #[] e1):=Heap.get?_push_of_some _ (Heap.get?_push_of_some _ RY)
 have kp:Kept s.heap (((s.heap.update a (Obj.mapSeq λ_=>(#[]:Array Value))).push (seqObj "tuple" vs.toArray 0)).push (seqObj "list" #[] 0)) a:=λb o hb e=>Heap.get?_push_of_some _ (Heap.get?_push_of_some _ (by rw[Heap.get?_update_ne _ _ _ _ hb];exact e))
 dsimp only
 have ez:vs.toArray.zip vs.toArray=(vs.zip vs).toArray:=by simp
 by_cases h2:vs.toArray.size<2
 ·rw[if_pos h2,if_pos h2];refine wpAny_bind (wpAny_pure ?_)
  rw[StateT.run_pure];refine wpAny_bind (wpAny_pure ?_);dsimp only
  refine wpAny_bind (seqEpoch_at ho6 rfl (wpAny_bind (listUpdate_at ho6 rfl ?_ (Nat.zero_le _) (hsz2:=by show((vs.toArray.zip vs.toArray).map (·.2)).size<=_;rw[sizeLine_eq];simp;simp at h2;lia))))
  simp only[bne_self_eq_false,Bool.false_eq_true,if_false]
  have hw:vs.Pairwise λx y=>blt (y,y) (x,x)=false:=by
   match vs,h2 with
   |[],_=>exact .nil
   |[_],_=>exact List.pairwise_singleton _ _
   |_::_::_,h2=>simp at h2;lia
  have fin:=h vs (List.Perm.refl _) hw
  have eo:(vs.toArray.zip vs.toArray).map (·.2)=vs.toArray:=by rw[ez,List.map_toArray,List.map_snd_zip (Nat.le_refl _)]
  refine wpAny_pure ?_
  rw[←eo]at fin;exact fin
 ·have h2':2<=vs.length:=by simpa using h2
  rw[if_neg h2,if_neg h2];refine wpAny_bind (wpAny_mono (hk h2' _ kp (λk s'=>k=κ/\s'=_) ⟨rfl,rfl⟩) ?_ λ_ _ f=>f.elim)
  rintro k s' ⟨rfl,rfl⟩
  rw[ez];refine wpAny_bind (wpAny_mono (Ka (E:=E) (Q:=λst s'=>s'=_/\failedOf st=none/\∃out:List Keyed,arrOf st=out.toArray/\out.Perm (vs.zip vs)/\out.Pairwise (λx y=>blt y x=false)) O (Hi (hc h2' _ kp)) (λp hp=>?_) (by rw[List.length_zip,Nat.min_self];exact⟨by lia,hx⟩) λout st a1 a2 a3 a4=>⟨rfl,a2,out,a1,a3,a4⟩) ?_ λ_ _ e=>e)
  ·have:=mem_zip_self hp
   have e:p=(p.1,p.1):=Prod.ext rfl this.1.symm
   rw[e];exact hS _ this.2
  rintro⟨⟨⟩,st⟩ s' ⟨rfl,hf,out,ea,hp,hw⟩
  have⟨p1,p2⟩:=II hp hw
  have eo:(arrOf st).map (·.2)=(out.map (·.2)).toArray:=by rw[ea,List.map_toArray]
  have lo:(out.map (·.2)).length=vs.length:=p1.length_eq
  dsimp only;refine wpAny_bind (seqEpoch_at ho6 rfl (wpAny_bind (listUpdate_at ho6 rfl ?_ (Nat.zero_le _) (hsz2:=by rw[eo,sizeLine_eq,List.size_toArray,lo];lia))))
  rw[hf];simp only[bne_self_eq_false,Bool.false_eq_true,if_false]
  refine wpAny_pure ?_
  have fin:=h _ p1 p2
  rw[←eo]at fin;exact fin
theorem DL(O:Ord S blt){l:Addr}{vs:List Value}{Q:Value->Shared->Prop}(hl:s.heap.IsList l vs.toArray)(Dy:Fits vs.length)(hS:∀v∈vs,S (v,v))
  (hk:2<=vs.length->∀h':Heap,(∀b o,s.heap.get? b=some o->h'.get? b=some o)->∀Q:SortKind->Shared->Prop,Q κ {s with heap:=h'}->wpAny (model prog w) A.in1.in1 (keyKind' vs.toArray) Q (λ_ _=>False) {s with heap:=h'})
  (hc:2<=vs.length->∀h':Heap,(∀b o,s.heap.get? b=some o->h'.get? b=some o)->∀(x y:Keyed)(Q:Bool->Shared->Prop),S x->S y->Q (blt x y) {s with heap:=h'}->wpAny (model prog w) A.in1.in1 (keyLt' κ x.1 y.1) Q (λ_ _=>False) {s with heap:=h'})
  (h:∀out:List Value,out.Perm vs->out.Pairwise (λx y=>blt (y,y) (x,x)=false)->Q (.ref (s.heap.objs.size+1)) {s with heap:=sortedAll s.heap vs out.toArray}):
  wpAny (model prog w) A (call (.builtin "sorted") [.ref l]) Q E s:=by
 have lO:vs.length<=sizeLine:=by have:=Dy.1;rw[sizeLine_eq];lia
 refine Calls.call_function_entry kind_sorted plain_sorted entry_sorted (args_sorted1 _) ?_
 unfold Builtin.«sorted»;refine wpAny_bind (m:=checkCount "sorted" 1 1 _) (wpAny_pure (wpAny_bind (collect_list hl (wpAny_bind (wpAny_newList ?_ lO)) lO)))
 have sz:((s.heap.push (seqObj "list" #[] 0)).update s.heap.objs.size (Obj.mapSeq (· ++ vs.toArray))).objs.size=s.heap.objs.size+1:=by rw[Heap.size_update,size_push']
 have GA:(((s.heap.push (seqObj "list" #[] 0)).update s.heap.objs.size (Obj.mapSeq (· ++ vs.toArray))).push (seqObj "list" vs.toArray 0)).get? (s.heap.objs.size+1)=some (seqObj "list" vs.toArray 0):=by rw[←sz];exact Heap.get?_push_size _ rfl
 have keep:∀b o,s.heap.get? b=some o->b≠s.heap.objs.size+1/\(((s.heap.push (seqObj "list" #[] 0)).update s.heap.objs.size (Obj.mapSeq (· ++ vs.toArray))).push (seqObj "list" vs.toArray 0)).get? b=some o:=λb o q=>by
  have lt:b<s.heap.objs.size:=Heap.lt_size q
  refine⟨Nat.ne_of_lt (Nat.lt_succ_of_lt lt),Heap.get?_push_of_some _ ?_⟩
  rw[Heap.get?_update_ne _ _ _ _ (Nat.ne_of_lt lt)];exact Heap.get?_push_of_some _ q
 show wpAny _ _ _ _ _ {s with heap:=((s.heap.push (seqObj "list" #[] 0)).update s.heap.objs.size (Obj.mapSeq (· ++ vs.toArray))).push (seqObj "list" vs.toArray 0)}
 rw[sz];refine wpAny_bind (wpAny_holding (wpAny_call_entry slot_list_sort ⟨_,GA,rfl⟩ entry_list_sort ?body (args_list_sort _)))
 case body=>
  refine qJ O GA Dy hS (λh2 h' kp=>hk h2 h' λb o e=>kp b o (keep b o e).1 (keep b o e).2) (λh2 h' kp=>hc h2 h' λb o e=>kp b o (keep b o e).1 (keep b o e).2) λout p1 p2=>⟨_,rfl,wpAny_pure ⟨_,rfl,?_⟩⟩
  exact h out p1 p2
end
end TS
namespace L2
open PySem PySem.Spec PyProof.Rows
inductive Sh where
 |int|str|tup(l:List Sh)
mutual
def Dv.isA:Sh->Dv->Bool
 |.int,.int _=>true
 |.str,.str _=>true
 |.tup l,.tup r=>Dv.gR l r
 |_,_=>false
def Dv.gR:List Sh->List Dv->Bool
 |[],[]=>true
 |s::l,d::r=>Dv.isA s d&&Dv.gR l r
 |_,_=>false
end
mutual
def aY:Dv->Dv->Ordering
 |.int i,.int j=>if i=j then .eq else if i<j then .lt else .gt
 |.str x,.str y=>if x=y then .eq else if x.cps.toList<y.cps.toList then .lt else .gt
 |.tup l,.tup r=>dM l r
 |_,_=>.eq
def dM:List Dv->List Dv->Ordering
 |[],[]=>.eq
 |[],_::_=>.lt
 |_::_,[]=>.gt
 |d::l,e::r=>(aY d e).then (dM l r)
end
theorem cI{d:Dv}(h:Dv.isA .int d=true):∃i,d=.int i:=by
 cases d with
 |int i=>exact⟨i,rfl⟩
 |_=>simp[Dv.isA]at h
theorem cH{d:Dv}(h:Dv.isA .str d=true):∃i,d=.str i:=by
 cases d with
 |str i=>exact⟨i,rfl⟩
 |_=>simp[Dv.isA]at h
theorem dG{l:List Sh}{d:Dv}(h:Dv.isA (.tup l) d=true):∃r,d=.tup r/\Dv.gR l r=true:=by
 cases d with
 |tup r=>exact⟨r,rfl,by simpa [Dv.isA]using h⟩
 |_=>simp[Dv.isA]at h
theorem dB{r:List Dv}(h:Dv.gR [] r=true):r=[]:=by
 cases r with
 |nil=>rfl
 |cons _ _=>simp[Dv.gR]at h
theorem bH{s:Sh}{l:List Sh}{r:List Dv}(h:Dv.gR (s::l) r=true):∃d r',r=d::r'/\Dv.isA s d=true/\Dv.gR l r'=true:=by
 cases r with
 |nil=>simp[Dv.gR]at h
 |cons d r'=>
  simp only[Dv.gR,Bool.and_eq_true]at h
  exact⟨d,r',rfl,h⟩
theorem Ia{x y:Str}(h:x.cps.toList=y.cps.toList):x=y:=by
 cases x;cases y
 simp only[Str.mk.injEq]
 exact Array.toList_inj.mp h
theorem Ae{x y:Str}(h:x≠y)(h1:¬x.cps.toList<y.cps.toList):y.cps.toList<x.cps.toList:=by
 by_cases h2:y.cps.toList<x.cps.toList
 ·exact h2
 ·exact absurd (Ia (List.le_antisymm (List.not_lt.mp h2) (List.not_lt.mp h1))) h
theorem Ib{x y:Str}(h:x.cps.toList<y.cps.toList):¬y.cps.toList<x.cps.toList:=λh'=>List.lt_irrefl _ (List.lt_trans h h')
mutual
theorem jR:∀{sh:Sh}{d e:Dv},Dv.isA sh d=true->Dv.isA sh e=true->(aY d e=.eq↔d=e)
 |.int,d,e,hd,he=>by
  obtain⟨i,rfl⟩:=cI hd
  obtain⟨j,rfl⟩:=cI he
  simp only[aY,Dv.int.injEq]
  split
  ·simp[*]
  ·split<;>simp[*]
 |.str,d,e,hd,he=>by
  obtain⟨i,rfl⟩:=cH hd
  obtain⟨j,rfl⟩:=cH he
  simp only[aY,Dv.str.injEq]
  split
  ·simp[*]
  ·split<;>simp[*]
 |.tup l,d,e,hd,he=>by
  obtain⟨r,rfl,hr⟩:=dG hd
  obtain⟨q,rfl,hq⟩:=dG he
  simp only[aY,Dv.tup.injEq]
  exact Bv hr hq
theorem Bv:∀{l:List Sh}{r q:List Dv},Dv.gR l r=true->Dv.gR l q=true->(dM r q=.eq↔r=q)
 |[],r,q,hr,hq=>by
  rw[dB hr,dB hq]
  simp[dM]
 |s::l,r,q,hr,hq=>by
  obtain⟨d,r',rfl,h1,h2⟩:=bH hr
  obtain⟨e,q',rfl,h3,h4⟩:=bH hq
  have a:=jR h1 h3
  have b:=Bv h2 h4
  simp only[dM,List.cons.injEq]
  cases hc:aY d e with
  |eq=>
   rw[hc]at a
   simp only[Ordering.then,true_iff]at a ⊢
   rw[b]
   simp[a]
  |lt=>
   rw[hc]at a
   simp only[Ordering.then,reduceCtorEq,false_iff]at a ⊢
   simp[a]
  |gt=>
   rw[hc]at a
   simp only[Ordering.then,reduceCtorEq,false_iff]at a ⊢
   simp[a]
end
mutual
theorem cmp_swap:∀{sh:Sh}{d e:Dv},Dv.isA sh d=true->Dv.isA sh e=true->aY e d=(aY d e).swap
 |.int,d,e,hd,he=>by
  obtain⟨i,rfl⟩:=cI hd
  obtain⟨j,rfl⟩:=cI he
  simp only[aY]
  by_cases h:i=j
  ·subst h;simp
  ·rw[if_neg h,if_neg (λz=>h z.symm)]
   by_cases h1:i<j
   ·rw[if_pos h1,if_neg LI];rfl
   ·rw[if_neg h1,if_pos LI];rfl
 |.str,d,e,hd,he=>by
  obtain⟨i,rfl⟩:=cH hd
  obtain⟨j,rfl⟩:=cH he
  simp only[aY]
  by_cases h:i=j
  ·subst h;simp
  ·rw[if_neg h,if_neg (λz=>h z.symm)]
   by_cases h1:i.cps.toList<j.cps.toList
   ·rw[if_pos h1,if_neg (Ib h1)];rfl
   ·rw[if_neg h1,if_pos (Ae h h1)];rfl
 |.tup l,d,e,hd,he=>by
  obtain⟨r,rfl,hr⟩:=dG hd
  obtain⟨q,rfl,hq⟩:=dG he
  simp only[aY]
  exact uo hr hq
theorem uo:∀{l:List Sh}{r q:List Dv},Dv.gR l r=true->Dv.gR l q=true->dM q r=(dM r q).swap
 |[],r,q,hr,hq=>by
  rw[dB hr,dB hq]
  rfl
 |s::l,r,q,hr,hq=>by
  obtain⟨d,r',rfl,h1,h2⟩:=bH hr
  obtain⟨e,q',rfl,h3,h4⟩:=bH hq
  simp only[dM]
  rw[cmp_swap h1 h3,uo h2 h4]
  cases aY d e<;>rfl
end
mutual
theorem Hh:∀{sh:Sh}{d e f:Dv},Dv.isA sh d=true->Dv.isA sh e=true->Dv.isA sh f=true->aY d e≠.gt->aY e f≠.gt->aY d f≠.gt
 |.int,d,e,f,hd,he,hf,h1,h2=>by
  obtain⟨i,rfl⟩:=cI hd
  obtain⟨j,rfl⟩:=cI he
  obtain⟨k,rfl⟩:=cI hf
  simp only[aY]at h1 h2 ⊢
  by_cases a:i=k
  ·simp[a]
  ·rw[if_neg a]
   by_cases b:i<k
   ·simp[b]
   ·exfalso
    have LD:i<=j:=by
     by_cases c:i<=j
     ·exact c
     ·rw[if_neg LI,if_neg LI]at h1;exact absurd rfl h1
    have h2':j<=k:=by
     by_cases c:j<=k
     ·exact c
     ·rw[if_neg LI,if_neg LI]at h2;exact absurd rfl h2
    lia
 |.str,d,e,f,hd,he,hf,h1,h2=>by
  obtain⟨i,rfl⟩:=cH hd
  obtain⟨j,rfl⟩:=cH he
  obtain⟨k,rfl⟩:=cH hf
  simp only[aY]at h1 h2 ⊢
  by_cases a:i=k
  ·simp[a]
  ·rw[if_neg a]
   by_cases b:i.cps.toList<k.cps.toList
   ·simp[b]
   ·exfalso
    have ki:=Ae a b
    by_cases p:i=j
    ·subst p
     rw[if_neg a,if_neg b]at h2
     exact absurd rfl h2
    ·by_cases q:j=k
     ·subst q
      rw[if_neg p,if_neg b]at h1
      exact absurd rfl h1
     ·rw[if_neg p]at h1
      rw[if_neg q]at h2
      by_cases p1:i.cps.toList<j.cps.toList
      ·by_cases q1:j.cps.toList<k.cps.toList
       ·exact b (List.lt_trans p1 q1)
       ·rw[if_neg q1]at h2;exact absurd rfl h2
      ·rw[if_neg p1]at h1;exact absurd rfl h1
 |.tup l,d,e,f,hd,he,hf,h1,h2=>by
  obtain⟨r,rfl,hr⟩:=dG hd
  obtain⟨q,rfl,hq⟩:=dG he
  obtain⟨p,rfl,hp⟩:=dG hf
  simp only[aY]at h1 h2 ⊢
  exact Bu hr hq hp h1 h2
theorem Bu:∀{l:List Sh}{r q p:List Dv},Dv.gR l r=true->Dv.gR l q=true->Dv.gR l p=true->dM r q≠.gt->dM q p≠.gt->dM r p≠.gt
 |[],r,q,p,hr,hq,hp,_,_=>by
  rw[dB hr,dB hp]
  simp[dM]
 |s::l,r,q,p,hr,hq,hp,h1,h2=>by
  obtain⟨d,r',rfl,a1,a2⟩:=bH hr
  obtain⟨e,q',rfl,b1,b2⟩:=bH hq
  obtain⟨f,p',rfl,c1,c2⟩:=bH hp
  simp only[dM]at h1 h2 ⊢
  have n1:aY d e≠.gt:=λz=>by rw[z]at h1;exact h1 rfl
  have n2:aY e f≠.gt:=λz=>by rw[z]at h2;exact h2 rfl
  have n3:=Hh a1 b1 c1 n1 n2
  cases hc:aY d f with
  |lt=>simp[Ordering.then]
  |gt=>exact absurd hc n3
  |eq=>
   have e3:=(jR a1 c1).mp hc
   subst e3
   have e1:aY d e=.eq:=by
    have sw:=cmp_swap a1 b1
    cases hx:aY d e with
    |eq=>rfl
    |gt=>exact absurd hx n1
    |lt=>rw[hx]at sw;exact absurd sw n2
   have e2:=(jR a1 b1).mp e1
   subst e2
   rw[hc]at h1 h2
   simp only[Ordering.then]at h1 h2 ⊢
   exact Bu a2 b2 c2 h1 h2
end
def JR(A:Around)(s:Shared)(y x:Value)(b:Bool):Prop:=
 ∀(prog:Program)(w:World)(E:Value->Shared->Prop)(Q:Value->Shared->Prop),Q (.bool b) s->wpAny (model prog w) A (richCompare .Lt y x) Q E s
inductive HL(A:Around)(s:Shared):List Value->List Value->Bool->Prop
 |nn:HL A s [] [] false
 |nc{y:Value}{ys:List Value}:HL A s [] (y::ys) true
 |cn{x:Value}{xs:List Value}:HL A s (x::xs) [] false
 |eq{x y:Value}{xs ys:List Value}{b:Bool}:SeqAt.EqAt A s x y true->HL A s xs ys b->HL A s (x::xs) (y::ys) b
 |ne{x y:Value}{xs ys:List Value}{b:Bool}:SeqAt.EqAt A s x y false->JR A s x y b->HL A s (x::xs) (y::ys) b
end L2
namespace HT
open PySem PyProof.Rows
section
open PySem.SeqAt
open PySem.AutoSeq1 (wpAny_loadPart')
open PySem.MeetsSeq PySem.MeetsSeq2 PySem.MeetsSeq3
theorem uB(l b:Addr)(items items2:Array Value)(n n2:Nat)(dd dd2:Option Addr)(sl sl2:Array (Option Value))(k:Bool):
  Meets (Builtin.«tuple.__lt__» ⟨[.ref l,.ref b],[]⟩)
   (λA R s=>L2.HL A.in1 s items.toList items2.toList k/\s.heap.get? l=some {cls:=.type "tuple",dict:=dd,data:=.seq items n,slots:=sl}/\s.heap.get? b=some {cls:=.type "tuple",dict:=dd2,data:=.seq items2 n2,slots:=sl2}/\
    R (.ok (.ret (.bool k))) s):=.of_wp λprog w A R s h=>by
 obtain⟨hp,g,d,tk,os⟩:=s;obtain⟨hL,hl,hb,h⟩:=h
 have f2:=AutoSeq1.sub_tuple_tuple
 wp_walk using wpAny_loadPart' hl,wpAny_loadPart' hb,wpAny_forIn_list _ (λrest b s'=>b.1=none/\s'=⟨hp,g,d,tk,os⟩/\∃(vs ws:List Value),rest=vs.zip ws/\L2.HL A.in1 ⟨hp,g,d,tk,os⟩ vs ws k/\vs.length+items2.size=ws.length+items.size) _
 case turn=>
  rintro⟨y,x⟩ rest b s' ⟨hb',rfl,vs,ws,hz,hv,hlen⟩
  cases hv with
  |nn=>rw[List.zip_nil_left]at hz;cases hz
  |nc=>rw[List.zip_nil_left]at hz;cases hz
  |cn=>rw[List.zip_nil_right]at hz;cases hz
  |eq he hr=>
   rw[List.zip_cons_cons]at hz;injection hz with hyx hrest;injection hyx with hy hx;subst hy hx
   simp only[List.length_cons]at hlen
   refine wpAny_bind (he prog w _ _ ?_);wp_walk;exact⟨rfl,rfl,_,_,hrest,hr,by lia⟩
  |ne he hr=>
   rw[List.zip_cons_cons]at hz;injection hz with hyx hrest;injection hyx with hy hx;subst hy hx
   refine wpAny_bind (he prog w _ _ ?_);have hri:=hr prog w;wp_walk using hri;exact⟨_,rfl,by simpa using h⟩
 case fin=>
  rintro⟨b1,b2⟩ s' ⟨hb',rfl,vs,ws,hz,hv,hlen⟩
  simp only at hb';subst hb'
  have hk:k=decide (items.size<items2.size):=by
   cases hv with
   |nn=>simp only[List.length_nil]at hlen;exact(decide_eq_false LI).symm
   |nc=>simp only[List.length_nil,List.length_cons]at hlen;exact(decide_eq_true LI).symm
   |cn=>simp only[List.length_nil,List.length_cons]at hlen;exact(decide_eq_false LI).symm
   |eq _ _=>rw[List.zip_cons_cons]at hz;cases hz
   |ne _ _=>rw[List.zip_cons_cons]at hz;cases hz
  rw[hk]at h;wp_walk;exact⟨_,rfl,by simpa [Builtin.Tuple.tupleCompareSizes]using h⟩
 case h=>exact⟨rfl,rfl,items.toList,items2.toList,rfl,hL,by simp only[Array.length_toList];lia⟩
end
theorem Ct{A:Around}{s:Shared}{l b:Addr}{items items2:Array Value}{k:Bool}(hl:IsTup s.heap l items)(hb:IsTup s.heap b items2)(hL:L2.HL A.in1 s items.toList items2.toList k)(hu:A.units<cLine):L2.JR A s (.ref l) (.ref b) k:=λprog w E Q h=>by
 obtain⟨⟨cls,dd,data,sl⟩,ho,hc,n,hd⟩:=id hl
 obtain⟨⟨Yo,dd2,data2,sl2⟩,ho2,hc2,n2,hd2⟩:=id hb
 simp only at hc hd hc2 hd2;subst hc hd hc2 hd2
 exact richCompare_meets_room (op:=.Lt) ⟨_,ho,rfl⟩ ⟨_,ho2,rfl⟩ PySem.F.slot_tuple_lt PySem.F.entry_tuple_lt (PySem.F.args_tuple_lt_2 _ _) (uB l b items items2 n n2 dd dd2 sl sl2 k) ⟨hL,ho,ho2,show Value.bool k≠Value.notImplemented/\Q (.bool k) s from⟨(λx=>nomatch x),h⟩⟩ hu
end HT
namespace L2
open PySem PySem.Spec PyProof.Rows
section
variable {X:Cx} {pins:List (Addr×Obj)} {σ:St} {H:Hp} {s:Shared}
mutual
theorem jX:∀{sh:Sh}{d e:Dv},Dv.isA sh d=true->Dv.isA sh e=true->eO d e=true
 |.int,d,e,hd,he=>by
  obtain⟨i,rfl⟩:=cI hd
  obtain⟨j,rfl⟩:=cI he
  rfl
 |.str,d,e,hd,he=>by
  obtain⟨i,rfl⟩:=cH hd
  obtain⟨j,rfl⟩:=cH he
  rfl
 |.tup l,d,e,hd,he=>by
  obtain⟨r,rfl,hr⟩:=dG hd
  obtain⟨q,rfl,hq⟩:=dG he
  simp only[eO]
  exact rO hr hq
theorem rO:∀{l:List Sh}{r q:List Dv},Dv.gR l r=true->Dv.gR l q=true->gh r q=true
 |[],r,q,hr,hq=>by rw[dB hr,dB hq];rfl
 |s::l,r,q,hr,hq=>by
  obtain⟨d,r',rfl,h1,h2⟩:=bH hr
  obtain⟨e,q',rfl,h3,h4⟩:=bH hq
  simp only[gh,Bool.and_eq_true]
  exact⟨jX h1 h3,rO h2 h4⟩
end
def isLt:Ordering->Bool
 |.lt=>true
 |_=>false
theorem Ga(I:Inv X pins σ H s){n:Nat}{A:Around}(hu:A.units+n<cLine)
  (hl:∀{sh:Sh}{d e:Dv}{x y:V}{u w:Value},d.dep<=n->Dv.isA sh d=true->Dv.isA sh e=true->Dn X.K H x d->Dn X.K H y e->RelV x u->RelV y w->JR A s u w (isLt (aY d e))):
  ∀{l:List Sh}{ds es:List Dv}{xs ys:List V}{us ws:List Value},Dv.deps ds<=n->Dv.gR l ds=true->Dv.gR l es=true->gz X.K H xs ds->gz X.K H ys es->Vals xs us->Vals ys ws->HL A s us ws (isLt (dM ds es))
 |[],ds,es,xs,ys,us,ws,hd,a1,a2,d1,d2,r1,r2=>by
  rw[dB a1]at d1 ⊢
  rw[dB a2]at d2 ⊢
  cases d1;cases d2;cases r1;cases r2
  exact .nn
 |sh::l,ds,es,xs,ys,us,ws,hd,a1,a2,d1,d2,r1,r2=>by
  obtain⟨d,ds',rfl,h1,h2⟩:=bH a1
  obtain⟨e,es',rfl,h3,h4⟩:=bH a2
  cases d1 with
  |cons dx CS=>cases d2 with
   |cons dy HJ=>cases r1 with
    |cons rx BW=>cases r2 with
     |cons ry KG=>
      simp only[Dv.deps]at hd
      obtain⟨b,he,hb⟩:=jo I n (A:=A) (Nat.le_trans (Nat.le_max_left _ _) hd) hu (jX h1 h3) dx dy rx ry
      have hc:=jR h1 h3
      cases b with
      |true=>
       have z:aY d e=.eq:=hc.mpr (hb.mp rfl)
       have rest:=Ga I hu hl (Nat.le_trans (Nat.le_max_right _ _) hd) h2 h4 CS HJ BW KG
       have:dM (d::ds') (e::es')=dM ds' es':=by simp only[dM,z,Ordering.then]
       rw[this]
       exact .eq he rest
      |false=>
       have z:aY d e≠.eq:=λq=>by have:=hb.mpr (hc.mp q);cases this
       have:dM (d::ds') (e::es')=aY d e:=by
        simp only[dM]
        cases q:aY d e with
        |eq=>exact absurd q z
        |lt=>rfl
        |gt=>rfl
       rw[this]
       exact .ne he (hl (Nat.le_trans (Nat.le_max_left _ _) hd) h1 h3 dx dy rx ry)
theorem JF(I:Inv X pins σ H s):∀(n:Nat){A:Around}{sh:Sh}{d e:Dv}{x y:V}{u w:Value},d.dep<=n->A.units+n<cLine->Dv.isA sh d=true->Dv.isA sh e=true->Dn X.K H x d->Dn X.K H y e->RelV x u->RelV y w->
  JR A s u w (isLt (aY d e)):=by
 intro n
 induction n with
 |zero=>
  intro A sh d e x y u w hd hu a1 a2 dx dy rx ry
  cases sh with
  |int=>
   obtain⟨i,rfl⟩:=cI a1
   obtain⟨j,rfl⟩:=cI a2
   cases dx;cases dy
   obtain⟨t,rfl⟩:=rx
   obtain⟨t',rfl⟩:=ry
   intro prog w' E Q hq
   refine HT.E_ A s i t j t' prog w' E Q ?_
   have:isLt (aY (.int i) (.int j))=decide (i<j):=by
    simp only[aY]
    by_cases h:i=j
    ·subst h;simp[isLt]
    ·rw[if_neg h];by_cases h1:i<j<;>simp[h1,isLt]
   rw[this]at hq;exact hq
  |str=>
   obtain⟨i,rfl⟩:=cH a1
   obtain⟨j,rfl⟩:=cH a2
   cases dx;cases dy
   obtain⟨t,rfl⟩:=rx
   obtain⟨t',rfl⟩:=ry
   intro prog w' E Q hq
   refine(lt_str ?_:wpAny (model prog w') A (compareOp .Lt (.str i t) (.str j t')) Q E s)
   have:isLt (aY (.str i) (.str j))=decide (i.cps.toList<j.cps.toList):=by
    simp only[aY]
    by_cases h:i=j
    ·subst h;simp[isLt,List.lt_irrefl]
    ·rw[if_neg h];by_cases h1:i.cps.toList<j.cps.toList<;>simp[h1,isLt]
   rw[this]at hq;exact hq
  |tup l=>
   obtain⟨r,rfl,hr⟩:=dG a1
   simp[Dv.dep]at hd
 |succ n ih=>
  intro A sh d e x y u w hd hu a1 a2 dx dy rx ry
  cases sh with
  |int=>
   obtain⟨i,rfl⟩:=cI a1
   obtain⟨j,rfl⟩:=cI a2
   exact(ih (A:=A) (sh:=.int) (Nat.zero_le _) LI a1 a2 dx dy rx ry)
  |str=>
   obtain⟨i,rfl⟩:=cH a1
   obtain⟨j,rfl⟩:=cH a2
   exact(ih (A:=A) (sh:=.str) (Nat.zero_le _) LI a1 a2 dx dy rx ry)
  |tup l=>
   obtain⟨r,rfl,hr⟩:=dG a1
   obtain⟨q,rfl,hq⟩:=dG a2
   cases dx with
   |tup ha da=>cases dy with
    |tup hb db=>
     cases rx;cases ry
     obtain⟨its,r1,p1,_⟩:=I.tuple ha
     obtain⟨its2,r2,p2,_⟩:=I.tuple hb
     simp only[Dv.dep]at hd
     simp only[aY]
     refine HT.Ct p1 p2 ?_ LI
     exact Ga I (n:=n) (A:=A.in1) (by rw[in1_units];lia) (λh1 h2 h3 h4 h5 h6 h7=>ih h1 (by rw[in1_units];lia) h2 h3 h4 h5 h6 h7) LI hr hq da db r1 r2
end
def Den(K:Fg7)(H:Hp)(u:Value)(d:Dv):Prop:=∃v,RelV v u/\Dn K H v d
open Classical in
noncomputable def sG(K:Fg7)(H:Hp)(x y:Keyed):Bool:=decide (∃d e,Den K H x.1 d/\Den K H y.1 e/\aY d e=.lt)
def Hu(K:Fg7)(H:Hp)(sh:Sh)(x:Keyed):Prop:=∃d,Den K H x.1 d/\Dv.isA sh d=true
def Sh.key:Sh->Bool
 |.int=>true
 |.str=>true
 |.tup (.int::_)=>true
 |.tup (.str::_)=>true
 |_=>false
def Sh.kind:Sh->SortKind
 |.tup _=>tuples' true
 |_=>oneType'
mutual
def Sh.dep:Sh->Nat
 |.tup l=>Sh.deps l+1
 |_=>0
def Sh.deps:List Sh->Nat
 |[]=>0
 |d::r=>max (Sh.dep d) (Sh.deps r)
end
mutual
theorem qA:∀{sh:Sh}{d:Dv},Dv.isA sh d=true->d.dep=sh.dep
 |.int,d,h=>by obtain⟨i,rfl⟩:=cI h;rfl
 |.str,d,h=>by obtain⟨i,rfl⟩:=cH h;rfl
 |.tup l,d,h=>by
  obtain⟨r,rfl,hr⟩:=dG h
  simp only[Dv.dep,Sh.dep]
  rw[uw hr]
theorem uw:∀{l:List Sh}{r:List Dv},Dv.gR l r=true->Dv.deps r=Sh.deps l
 |[],r,h=>by rw[dB h];rfl
 |s::l,r,h=>by
  obtain⟨d,r',rfl,h1,h2⟩:=bH h
  simp only[Dv.deps,Sh.deps]
  rw[qA h1,uw h2]
end
section
variable {X:Cx} {pins:List (Addr×Obj)} {σ:St} {H:Hp} {s:Shared}
theorem EZ{K:Fg7}{x y:V}{u:Value}{d e:Dv}(dx:Dn K H x d)(dy:Dn K H y e)(rx:RelV x u)(ry:RelV y u):x=y:=by
 cases dx<;>cases dy<;>first
  |rfl
  |(obtain⟨t,rfl⟩:=rx;obtain⟨t',h⟩:=ry;cases h;done)
  |(obtain⟨t,rfl⟩:=rx;obtain⟨t',h⟩:=ry;cases h;rfl)
  |(obtain⟨t,rfl⟩:=rx;cases ry;done)
  |(obtain⟨t,rfl⟩:=ry;cases rx;done)
  |(cases rx;cases ry;done)
  |(cases rx;cases ry;rfl)
theorem vm(I:Inv X pins σ H s){u:Value}{d e:Dv}(h:Den X.K H u d)(h':Den X.K H u e):d=e:=by
 obtain⟨v,r,n⟩:=h
 obtain⟨v',r',n'⟩:=h'
 have:=EZ n n' r r'
 subst this
 exact Dn.inj I n n'
open Classical in
theorem jq(I:Inv X pins σ H s){x y:Keyed}{d e:Dv}(hx:Den X.K H x.1 d)(hy:Den X.K H y.1 e):sG X.K H x y=isLt (aY d e):=by
 unfold sG
 by_cases h:aY d e=.lt
 ·rw[h]
  exact decide_eq_true ⟨d,e,hx,hy,h⟩
 ·have:isLt (aY d e)=false:=by
   cases q:aY d e with
   |lt=>exact absurd q h
   |eq=>rfl
   |gt=>rfl
  rw[this]
  refine decide_eq_false λ⟨d',e',hx',hy',h'⟩=>?_
  rw[vm I hx hx',vm I hy hy']at h
  exact h h'
theorem Je{o:Ordering}(h:isLt o=false):o≠.lt:=λz=>by rw[z]at h;cases h
theorem qQ(I:Inv X pins σ H s)(sh:Sh):TS.Ord (Hu X.K H sh) (sG X.K H)where
 Gv:=λx ⟨d,hd,a⟩=>by
  rw[jq I hd hd,(jR a a).mpr rfl];rfl
 zK:=λx y ⟨d,hd,a⟩ ⟨e,he,b⟩ h=>by
  rw[jq I hd he]at h
  rw[jq I he hd,cmp_swap a b]
  cases q:aY d e with
  |lt=>rfl
  |eq=>rfl
  |gt=>rw[q]at h;cases h
 tr:=λx y z ⟨d,hd,a⟩ ⟨e,he,b⟩ ⟨f,hf,c⟩ h1 h2=>by
  rw[jq I he hd]at h1
  rw[jq I hf he]at h2
  rw[jq I hf hd]
  have n1:aY d e≠.gt:=λq=>by rw[cmp_swap a b,q]at h1;cases h1
  have n2:aY e f≠.gt:=λq=>by rw[cmp_swap b c,q]at h2;cases h2
  have n3:=Hh a b c n1 n2
  rw[cmp_swap a c]
  cases q:aY d f with
  |lt=>rfl
  |eq=>rfl
  |gt=>exact absurd q n3
theorem rF{prog:Program}{w:World}{A:Around}(I:Inv X pins σ H s){sh:Sh}(hk:sh.key=true)(hu:A.units+sh.dep<cLine){x y:Keyed}{Q:Bool->Shared->Prop}(hx:Hu X.K H sh x)(hy:Hu X.K H sh y)(hq:Q (sG X.K H x y) s):
  wpAny (model prog w) A (keyLt' sh.kind x.1 y.1) Q (λ_ _=>False) s:=by
 obtain⟨d,hd,a⟩:=hx
 obtain⟨e,he,b⟩:=hy
 rw[jq I hd he]at hq
 obtain⟨v,rv,nv⟩:=hd
 obtain⟨v',Qv,Wi⟩:=he
 cases sh with
 |int=>
  obtain⟨i,rfl⟩:=cI a
  obtain⟨j,rfl⟩:=cI b
  cases nv;cases Wi
  obtain⟨t,et⟩:=rv
  obtain⟨t',et'⟩:=Qv
  show wpAny (model prog w) A (keyLt' oneType' x.1 y.1) Q _ s
  rw[et,et']
  refine PySem.W.kat_lt_int ?_
  have:isLt (aY (.int i) (.int j))=decide (i<j):=by
   simp only[aY]
   by_cases h:i=j
   ·subst h;simp[isLt]
   ·rw[if_neg h];by_cases h1:i<j<;>simp[h1,isLt]
  rw[this]at hq;exact hq
 |str=>
  obtain⟨i,rfl⟩:=cH a
  obtain⟨j,rfl⟩:=cH b
  cases nv;cases Wi
  obtain⟨t,et⟩:=rv
  obtain⟨t',et'⟩:=Qv
  show wpAny (model prog w) A (keyLt' oneType' x.1 y.1) Q _ s
  rw[et,et']
  refine PySem.W.kas_lt_str ?_
  have:isLt (aY (.str i) (.str j))=decide (i.cps.toList<j.cps.toList):=by
   simp only[aY]
   by_cases h:i=j
   ·subst h;simp[isLt,List.lt_irrefl]
   ·rw[if_neg h];by_cases h1:i.cps.toList<j.cps.toList<;>simp[h1,isLt]
  rw[this]at hq;exact hq
 |tup l=>
  obtain⟨r,rfl,hr⟩:=dG a
  obtain⟨q,rfl,hq'⟩:=dG b
  cases nv with
  |tup ha da=>cases Wi with
   |tup hb db=>
    have rv:x.1=Value.ref _:=rv
    have Qv:y.1=Value.ref _:=Qv
    show wpAny (model prog w) A (keyLt' (tuples' true) x.1 y.1) Q _ s
    rw[rv,Qv]
    obtain⟨its,r1,p1,_⟩:=I.tuple ha
    obtain⟨its2,r2,p2,_⟩:=I.tuple hb
    obtain⟨o1,g1,c1,n1,e1⟩:=p1
    obtain⟨o2,g2,c2,n2,e2⟩:=p2
    refine PySem.W.kat_lt g1 e1 g2 e2 ?_
    have hlen:its.length=its2.length:=by
     have z1:=r1.length;have z2:=r2.length;have z3:=da.length;have z4:=db.length
     have z5:∀{l:List Sh}{r:List Dv},Dv.gR l r=true->r.length=l.length:=by
      intro l
      induction l with
      |nil=>intro r h;rw[dB h];rfl
      |cons s l ih=>intro r h;obtain⟨d,r',rfl,_,h2⟩:=bH h;simp[ih h2]
     have:=z5 hr;have:=z5 hq';lia
    simp only[aY]at hq
    simp only[Sh.dep]at hu
    have fin:(decide (its.toArray.size<its2.toArray.size))=false:=decide_eq_false (by simp only[List.size_toArray];lia)
    rw[fin]
    show PySem.W.KatLex prog w A true false Q (its.zip its2) 0 s
    have rest:∀{l:List Sh}{ds es:List Dv}{xs ys:List V}{us ws:List Value}{i:Nat},(0<i)->Sh.deps l+A.units<cLine->Dv.gR l ds=true->Dv.gR l es=true->gz X.K H xs ds->gz X.K H ys es->Vals xs us->Vals ys ws->Q (isLt (dM ds es)) s->
      PySem.W.KatLex prog w A true false Q (us.zip ws) i s:=by
     intro l
     induction l with
     |nil=>
      intro ds es xs ys us ws i _ _ a1 a2 d1 d2 r1 r2 q
      rw[dB a1]at d1 q
      rw[dB a2]at d2 q
      cases d1;cases d2;cases r1;cases r2
      exact PySem.W.kat_nil q
     |cons sh l ih=>
      intro ds es xs ys us ws i hi hu a1 a2 d1 d2 r1 r2 q
      obtain⟨d,ds',rfl,h1,h2⟩:=bH a1
      obtain⟨e,es',rfl,h3,h4⟩:=bH a2
      simp only[Sh.deps]at hu
      have hu1:A.units+Sh.dep sh<cLine:=by have:=Nat.le_max_left (Sh.dep sh) (Sh.deps l);lia
      have Xd:Sh.deps l+A.units<cLine:=by have:=Nat.le_max_right (Sh.dep sh) (Sh.deps l);lia
      cases d1 with
      |cons dx CS=>cases d2 with
       |cons dy HJ=>cases r1 with
        |cons rx BW=>cases r2 with
         |cons ry KG=>
          obtain⟨b,he,hb⟩:=jo I (Sh.dep sh) (A:=A) (Nat.le_of_eq (qA h1)) hu1 (jX h1 h3) dx dy rx ry
          have hc:=jR h1 h3
          rw[List.zip_cons_cons]
          refine PySem.W.kat_cons (he prog w _ _ ?_)
          cases b with
          |true=>
           have z:aY d e=.eq:=hc.mpr (hb.mp rfl)
           refine PySem.W.kat_yes (ih (Nat.succ_pos _) Xd h2 h4 CS HJ BW KG ?_)
           simp only[dM,z,Ordering.then]at q;exact q
          |false=>
           have z:aY d e≠.eq:=λq=>by have:=hb.mpr (hc.mp q);cases this
           have zz:dM (d::ds') (e::es')=aY d e:=by
            simp only[dM]
            cases q:aY d e with
            |eq=>exact absurd q z
            |lt=>rfl
            |gt=>rfl
           rw[zz]at q
           refine PySem.W.kat_no ?_
           have e0:(true&&i==0)=false:=by simp;lia
           rw[e0]
           refine PySem.W.kat_one _ _ ?_
           exact JF I (Sh.dep sh) (A:=A) (Nat.le_of_eq (qA h1)) hu1 h1 h3 dx dy rx ry prog w _ _ q
    cases l with
    |nil=>simp[Sh.key]at hk
    |cons sh l=>
     obtain⟨d,ds',rfl,h1,h2⟩:=bH hr
     obtain⟨e,es',rfl,h3,h4⟩:=bH hq'
     simp only[Sh.deps]at hu
     have hu1:A.units+Sh.dep sh<cLine:=by have:=Nat.le_max_left (Sh.dep sh) (Sh.deps l);lia
     have Xd:Sh.deps l+A.units<cLine:=by have:=Nat.le_max_right (Sh.dep sh) (Sh.deps l);lia
     cases da with
     |cons dx CS=>cases db with
      |cons dy HJ=>cases r1 with
       |cons rx BW=>cases r2 with
        |cons ry KG=>
         obtain⟨b,he,hb⟩:=jo I (Sh.dep sh) (A:=A) (Nat.le_of_eq (qA h1)) hu1 (jX h1 h3) dx dy rx ry
         have hc:=jR h1 h3
         rw[List.zip_cons_cons]
         refine PySem.W.kat_cons (he prog w _ _ ?_)
         cases b with
         |true=>
          have z:aY d e=.eq:=hc.mpr (hb.mp rfl)
          refine PySem.W.kat_yes (rest (Nat.succ_pos _) Xd h2 h4 CS HJ BW KG ?_)
          simp only[dM,z,Ordering.then]at hq;exact hq
         |false=>
          have z:aY d e≠.eq:=λq=>by have:=hb.mpr (hc.mp q);cases this
          have zz:dM (d::ds') (e::es')=aY d e:=by
           simp only[dM]
           cases q:aY d e with
           |eq=>exact absurd q z
           |lt=>rfl
           |gt=>rfl
          rw[zz]at hq
          refine PySem.W.kat_no ?_
          show wpAny (model prog w) A (oneLt' true _ _) Q _ s
          cases sh with
          |tup _=>simp[Sh.key]at hk
          |int=>
           obtain⟨i,rfl⟩:=cI h1
           obtain⟨j,rfl⟩:=cI h3
           cases dx;cases dy
           obtain⟨t,rfl⟩:=rx
           obtain⟨t',rfl⟩:=ry
           refine oneLt_int ?_
           have:isLt (aY (.int i) (.int j))=decide (i<j):=by
            simp only[aY]
            by_cases h:i=j
            ·subst h;simp[isLt]
            ·rw[if_neg h];by_cases h1:i<j<;>simp[h1,isLt]
           rw[this]at hq;exact hq
          |str=>
           obtain⟨i,rfl⟩:=cH h1
           obtain⟨j,rfl⟩:=cH h3
           cases dx;cases dy
           obtain⟨t,rfl⟩:=rx
           obtain⟨t',rfl⟩:=ry
           have:isLt (aY (.str i) (.str j))=decide (i.cps.toList<j.cps.toList):=by
            simp only[aY]
            by_cases h:i=j
            ·subst h;simp[isLt,List.lt_irrefl]
            ·rw[if_neg h];by_cases h1:i.cps.toList<j.cps.toList<;>simp[h1,isLt]
           rw[this]at hq
           have:=PySem.W.kas_lt_str (prog:=prog) (w:=w) (A:=A) (E:=λ_ _=>False) (t:=t) (u:=t') (s:=s) (Q:=Q) hq
           rw[keyLt'_oneType]at this;exact this
theorem oJ{prog:Program}{w:World}{A:Around}(I:Inv X pins σ H s){sh:Sh}(hk:sh.key=true){vs:List Value}(h2:2<=vs.length)(hv:∀v∈vs,∃d,Den X.K H v d/\Dv.isA sh d=true){Q:SortKind->Shared->Prop}(hq:Q sh.kind s):
  wpAny (model prog w) A (keyKind' vs.toArray) Q (λ_ _=>False) s:=by
 cases sh with
 |int=>
  refine PySem.W.kas_kind (T:=.type "int") h2 (λv m=>?_) (by decide) (by decide) hq
  obtain⟨d,⟨x,r,n⟩,a⟩:=hv v m
  obtain⟨i,rfl⟩:=cI a
  cases n
  obtain⟨t,rfl⟩:=r
  exact .now
 |str=>
  refine PySem.W.kas_kind (T:=.type "str") h2 (λv m=>?_) (by decide) (by decide) hq
  obtain⟨d,⟨x,r,n⟩,a⟩:=hv v m
  obtain⟨i,rfl⟩:=cH a
  cases n
  obtain⟨t,rfl⟩:=r
  exact .now
 |tup l=>
  cases l with
  |nil=>simp[Sh.key]at hk
  |cons sh l=>
   have T:∃T,(sh=.int/\T=Value.type "int")\/(sh=.str/\T=Value.type "str"):=by
    cases sh with
    |int=>exact⟨_,.inl ⟨rfl,rfl⟩⟩
    |str=>exact⟨_,.inr ⟨rfl,rfl⟩⟩
    |tup _=>simp[Sh.key]at hk
   obtain⟨T,hT⟩:=T
   have key:∀vs:List Value,(∀v∈vs,∃d,Den X.K H v d/\Dv.isA (.tup (sh::l)) d=true)->∃fs,fs.length=vs.length/\PySem.W.KatTups s.heap vs fs/\∀f∈fs,PySem.W.Looks (model prog w) s.heap (typeOf f) T:=by
    intro vs
    induction vs with
    |nil=>exact λ_=>⟨[],rfl,trivial,λf m=>nomatch m⟩
    |cons v vs ih=>
     intro hv
     obtain⟨fs,h1,h2,h3⟩:=ih λu m=>hv u (.tail _ m)
     obtain⟨d,⟨x,r,n⟩,a⟩:=hv v (.head _)
     obtain⟨ds,rfl,hr⟩:=dG a
     obtain⟨d0,ds',rfl,a1,_⟩:=bH hr
     cases n with
     |tup ha da=>
      obtain⟨its,r1,p1,_⟩:=I.tuple ha
      obtain⟨o,g,c,k,e⟩:=p1
      have rv:v=Value.ref _:=r
      subst rv
      cases da with
      |cons dx CS=>cases r1 with
       | @cons _ u _ us rx BW=>
        refine⟨u::fs,by simp[h1],PySem.W.KatTups.cons g c e (by simp) h2,λf m=>?_⟩
        rcases List.mem_cons.mp m with rfl|m
        ·rcases hT with⟨rfl,rfl⟩|⟨rfl,rfl⟩
         ·obtain⟨i,rfl⟩:=cI a1
          cases dx
          obtain⟨t,rfl⟩:=rx
          exact .now
         ·obtain⟨i,rfl⟩:=cH a1
          cases dx
          obtain⟨t,rfl⟩:=rx
          exact .now
        ·exact h3 f m
   obtain⟨fs,h1,h3,h4⟩:=key vs hv
   refine PySem.W.kat_kind h3 LI h4 ?_ ?_
   ·rcases hT with⟨_,rfl⟩|⟨_,rfl⟩<;>decide
   ·have:(T != Value.type "tuple")=true:=by rcases hT with⟨_,rfl⟩|⟨_,rfl⟩<;>decide
    rw[this];exact hq
theorem uQ(I:Inv X pins σ H s){sh:Sh}:∀{out:List Value}{zs:List V}{es:List Dv},Vals zs out->gz X.K H zs es->(∀d∈es,Dv.isA sh d=true)->out.Pairwise (λx y=>sG X.K H (y,y) (x,x)=false)->es.Pairwise λd e=>aY d e≠.gt
 |[],_,_,r,d,_,_=>by cases r;cases d;exact .nil
 |u::out,_,_,r,d,a,h=>by
  cases r with
  |cons rx BW=>cases d with
   | @cons x xs d0 ds dx CS=>
    obtain⟨h1,h2⟩:=List.pairwise_cons.mp h
    refine List.pairwise_cons.mpr ⟨λe m=>?_,uQ I BW CS (λd m=>a d (.tail _ m)) h2⟩
    obtain⟨i,hi⟩:=List.mem_iff_getElem?.mp m
    obtain⟨y,ey,dy⟩:=CS.get hi
    obtain⟨w,ew,ry⟩:=Vals.get BW ey
    have q:=h1 w (List.mem_of_getElem? ew)
    rw[jq I (x:=(w,w)) (y:=(u,u)) ⟨y,ry,dy⟩ ⟨_,rx,dx⟩]at q
    have a1:=a d0 (.head _)
    have a2:=a e (.tail _ m)
    rw[cmp_swap a1 a2]at q
    intro z
    rw[z]at q
    cases q
end
end L2
namespace RD
open PySem PyProof.Rows
def Raw(h:Heap)(d:Addr)(es:Array DictEntry)(ep:Nat):Prop:=∃o,h.get? d=some o/\o.ExactDict/\o.data=.dict es ep
section
variable {prog:Program} {w:World} {A:Around} {E:Value->Shared->Prop} {s:Shared} {d it:Addr} {es:Array DictEntry} {ep i:Nat}
theorem Raw.lt{h:Heap}(x:Raw h d es ep):d<h.objs.size:=let⟨_,ho,_⟩:=x;Heap.lt_size ho
theorem Raw.at{h h':Heap}(x:Raw h d es ep)(k:∀o,h.get? d=some o->h'.get? d=some o):Raw h' d es ep:=let⟨o,ho,r⟩:=x;⟨o,k o ho,r⟩
theorem Raw.type(x:Raw s.heap d es ep):s.TypeIs (.ref d) "dict":=let⟨o,ho,hc,_⟩:=x;⟨o,ho,hc.1⟩
theorem iter{Q:Value->Shared->Prop}(hd:(d==sysModules)=false)(x:Raw s.heap d es ep)
  (hQ:Q (.ref s.heap.objs.size) {s with heap:=s.heap.push {cls:=.type "dict_keyiterator",data:=.fields #[.ref d,.int 0 0,.int es.size 0,.int ep 0]} }):wpAny (model prog w) A (pyIter (.ref d)) Q E s:=by
 have hT:=x.type;obtain⟨o,ho,hc,hdat⟩:=x
 refine wpAny_pyIter_slot hT F.slot_dict_iter (wpAny_call_entry F.slot_dict_iter hT F.entry_dict_iter ?_ (F.args_dict_iter_1 _))
 unfold Builtin.«dict.__iter__»;refine wpAny_bind ?_
 unfold Builtin.Dict.dictSlotNone;refine wpAny_bind (wpAny_notOrdered_dict hT ?_)
 show wpAny _ _ (pure (Value.ref d)) _ _ s
 refine wpAny_pure ?_;show wpAny _ _ (Builtin.Dict.showsAll d >>= _) _ _ s
 unfold Builtin.Dict.showsAll;rw[if_neg (by rw[hd];exact Bool.false_ne_true)]
 refine wpAny_bind (wpAny_pure (wpAny_bind (wpAny_dictEntries ho hdat (wpAny_bind (wpAny_dictEpoch ho hdat ?_)))))
 refine wpAny_bind (wpAny_newObj_type (wpAny_pure ⟨_,rfl,"dict_keyiterator",_,⟨_,Heap.get?_push_size _ rfl,rfl⟩,F.slot_dict_keyiterator_next.lookup,?_⟩));simpa [rawInt]using hQ
theorem next{Q:Option Value->Shared->Prop}(hit:s.heap.IsKeyIter it d i es.size ep)(x:Raw s.heap d es ep)(hi:i<es.size)
  (hQ:∀h',h'.IsKeyIter it d (i+1) es.size ep->Heap.SameBut it s.heap h'->Q (some es[i].key) {s with heap:=h'}):wpAny (model prog w) A (pyNext (.ref it)) Q E s:=by
 obtain⟨o,ho,hc,hd⟩:=id hit;obtain⟨od,hod,hcd,Bo⟩:=x
 unfold pyNext;refine wpAny_bind (wpAny_attempt (wpAny_callSpecial?_slot (name:=Str.ofString "__next__") hit.typeIs F.slot_dict_keyiterator_next (wpAny_call_entry F.slot_dict_keyiterator_next hit.typeIs F.entry_dict_keyiterator_next ?_ (F.args_dict_keyiterator_next_1 _))))
 refine wpAny_bind (wpAny_pure (wpAny_bind (wpAny_bind ?_)))
 first|exact wpAny_bind (wpAny_typeNameOfWhole_keyiter hit.typeIs (wpAny_pure ?_))|refine wpAny_bind (wpAny_typeNameOfWhole_keyiter hit.typeIs (wpAny_pure ?_));skip
 refine wpAny_bind (wpAny_fieldsOf ho hd ?_);have hown:Builtin.Dict_items.ownsTuple "dict_keyiterator"=false:=by decide
 simp only[hown,Bool.false_eq_true,if_false];show wpAny _ _ (if(Value.ref d==Value.none)=true then _ else _) _ _ s
 rw[if_neg (show¬((Value.ref d==Value.none)=true)from Bool.false_ne_true)];refine wpAny_bind (wpAny_pure (wpAny_bind (wpAny_dictEntries hod Bo ?_)))
 rw[if_neg (by simp)];refine wpAny_bind (wpAny_pure (wpAny_bind (wpAny_dictEpoch hod Bo ?_)))
 rw[if_neg (by simp)];refine wpAny_pure ?_
 simp only[show¬((i:Int)<0)from by lia,if_false,Int.toNat_natCast,Array.getElem?_eq_getElem hi];refine wpAny_bind ?_
 refine wpAny_bind (wpAny_typeNameOfWhole_keyiter hit.typeIs (wpAny_pure ?_));refine wpAny_bind (wpAny_isOneOf_keyiter hit.typeIs ?_)
 show wpAny _ _ (setField (.ref it) 1 (rawInt ((i:Int)+1)) >>= _) _ _ s;refine wpAny_bind (wpAny_setField ho hd (by simp) ?_)
 have Ji:(s.heap.update it (Obj.mapFields (·.setIfInBounds 1 (rawInt ((i:Int)+1))))).IsKeyIter it d (i+1) es.size ep:=⟨_,Heap.get?_update_self _ ho (Obj.isFreed_of_fields (Obj.data_mapFields hd _)),(Obj.cls_mapFields ..).trans hc,by rw[Obj.data_mapFields hd];simp[rawInt]⟩
 refine wpAny_bind (wpAny_holding ?_);refine wpAny_bind (wpAny_isOneOf_keyiter (s:={s with heap:=s.heap.update it (Obj.mapFields (·.setIfInBounds 1 (rawInt ((i:Int)+1))))}) Ji.typeIs ?_)
 show wpAny _ _ (pure es[i].key) _ _ _;exact wpAny_pure (wpAny_pure ⟨_,rfl,wpAny_pure (hQ _ Ji (Heap.SameBut.update ..))⟩)
theorem fin{Q:Option Value->Shared->Prop}(hh:A.handled=none)(hit:s.heap.IsKeyIter it d es.size es.size ep)(x:Raw s.heap d es ep)(hQ:∀h',Heap.ExtBut it s.heap h'->Q none {s with heap:=h'}):wpAny (model prog w) A (pyNext (.ref it)) Q E s:=by
 obtain⟨o,ho,hc,hd⟩:=id hit;obtain⟨od,hod,hcd,Bo⟩:=x
 unfold pyNext;refine wpAny_bind (wpAny_attempt (wpAny_callSpecial?_slot (name:=Str.ofString "__next__") hit.typeIs F.slot_dict_keyiterator_next (wpAny_call_entry F.slot_dict_keyiterator_next hit.typeIs F.entry_dict_keyiterator_next ?_ (F.args_dict_keyiterator_next_1 _))))
 refine wpAny_bind (wpAny_pure (wpAny_bind (wpAny_bind ?_)))
 refine wpAny_bind (wpAny_typeNameOfWhole_keyiter hit.typeIs (wpAny_pure ?_));skip
 refine wpAny_bind (wpAny_fieldsOf ho hd ?_);have hown:Builtin.Dict_items.ownsTuple "dict_keyiterator"=false:=by decide
 simp only[hown,Bool.false_eq_true,if_false];show wpAny _ _ (if(Value.ref d==Value.none)=true then _ else _) _ _ s
 rw[if_neg (show¬((Value.ref d==Value.none)=true)from Bool.false_ne_true)];refine wpAny_bind (wpAny_pure (wpAny_bind (wpAny_dictEntries hod Bo ?_)))
 rw[if_neg (by simp)];refine wpAny_bind (wpAny_pure (wpAny_bind (wpAny_dictEpoch hod Bo ?_)))
 rw[if_neg (by simp)];refine wpAny_pure ?_
 simp only[show¬((es.size:Int)<0)from by lia,if_false,Int.toNat_natCast,Array.getElem?_eq_none (Nat.le_refl _)];refine wpAny_bind ?_
 refine wpAny_bind (wpAny_typeNameOfWhole_keyiter hit.typeIs (wpAny_pure ?_));show wpAny _ _ (setField (.ref it) 0 .none >>= _) _ _ s
 refine wpAny_bind (wpAny_setField ho hd (by simp) ?_);show wpAny _ _ (newExc (.type "StopIteration") [] >>= _) _ _ _
 refine wpAny_bind ?_;simp only[newExc,newTuple]
 refine wpAny_bind (wpAny_newObj_type ?_ (by size_fits));refine wpAny_bind (m:=firstArgMember _ _) (wpAny_of_eq (a:=Value.none) (by first|rfl|(simp only[firstArgMember];rfl)) ?_)
 refine wpAny_newObj_type ?_ (by size_fits);simp only[raiseNew]
 refine wpAny_bind (wpAny_handled ?_);rw[show A.in1.handled=none from hh]
 refine wpAny_bind (wpAny_pure (wpAny_throw ?_));refine wpAny_bind (wpAny_isInstance (T:="StopIteration") (b:=true) ⟨_,Heap.get?_push_size _ rfl,rfl⟩ isSubtype_stop ?_)
 exact wpAny_pure (hQ _ (((Heap.SameBut.update ..).extBut.push _).push _))
theorem walks(hh:A.handled=none)(I d:Addr)(hne:d≠I)(es:Array DictEntry)(ep:Nat):Walks prog w A I [I,d] [I] es.size (λi v=>∃e,es[i]? = some e/\v=e.key) (λi h=>h.IsKeyIter I d i es.size ep/\Raw h d es ep)where
 sub:=λb hb=>by simp at hb;simp[hb]
 frame:=λ_ _ _ st hk=>⟨st.1.at λo e=>hk I (by simp) o e,st.2.at λo e=>hk d (by simp) o e⟩
 item:=λi s Q E hi st hQ=>next st.1 st.2 hi λh' Ji hs'=>hQ _ h' s.toks ⟨es[i],by simp[hi],rfl⟩ ⟨Ji,st.2.at λo e=>hs'.extBut d o hne e⟩ λb o hb e=>hs'.extBut b o (λh=>hb (by simp[h])) e
 done:=λs Q E st hQ=>fin hh st.1 st.2 λh' he'=>hQ h' s.toks λb o hb e=>he' b o (λh=>hb (by simp[h])) e
 self:=λ_ _ _ _ st hQ=>wpAny_pyIter_keyiter st.1 hQ
theorem src(lo:(d==sysModules)=false):PySem.W.KdlSrc prog w "dict" d d es.size (λi v=>∃e,es[i]? = some e/\v=e.key) (λh=>Raw h d es ep)where
 type:=λ_ hm=>hm.type
 there:=λ_ hm=>⟨hm.lt,hm.lt⟩
 keep:=λ_ _ hm hk=>hm.at λo e=>hk d (.inl rfl) o e
 notList:=by decide
 notTuple:=by decide
 hint:=λ_ _ _ _ hm hq=>PySem.W.kdl_hint_dict hm.type hq
 iter:=λ_ _ hh hm=>⟨_,_,(λ_ _ hq=>iter lo hm hq),walks hh _ d (Nat.ne_of_lt hm.lt) es ep,⟨⟨_,Heap.get?_push_size _ rfl,rfl,rfl⟩,hm.at λo e=>Heap.get?_push_of_some _ e⟩⟩
theorem rD{K:Type}[DecidableEq K]{k:K}:∀{xs:List (K×Addr×Value)}{j:Nat}{p:Addr×Value},(xs.map (·.1)).Nodup->xs[j]? = some (k,p)->xs.eraseIdx j=xs.filter λx=>decide (x.1≠k)
 |[],j,p,_,h=>by simp at h
 |x::r,0,p,hn,h=>by
  simp at h
  subst h
  rw[List.map_cons,List.nodup_cons]at hn
  have:r.filter (λx=>decide (x.1≠k))=r:=List.filter_eq_self.mpr λy hy=>decide_eq_true λe=>hn.1 (e▸List.mem_map.mpr ⟨y,hy,rfl⟩)
  rw[List.eraseIdx_zero,List.tail_cons,List.filter_cons,if_neg (by simp),this]
 |x::r,j+1,p,hn,h=>by
  rw[List.map_cons,List.nodup_cons]at hn
  have h':r[j]? = some (k,p):=by simpa using h
  have ne:x.1≠k:=λe=>hn.1 (e▸List.mem_map.mpr ⟨_,List.mem_of_getElem? h',rfl⟩)
  rw[List.eraseIdx_cons_succ,List.filter_cons,if_pos (by simp[ne]),rD hn.2 h']
theorem tX{α β:Type}(f:α->β):∀(l:List α)(j:Nat),(l.map f).eraseIdx j=(l.eraseIdx j).map f
 |[],_=>rfl
 |_::_,0=>rfl
 |x::l,j+1=>by simp only[List.map_cons,List.eraseIdx_cons_succ,tX f l j]
theorem takeOut{K:Type}[DecidableEq K]{knd:HeapKind prog w K}{a:Addr}{xs:List (K×Addr×Value)}{k:K}{p:Addr×Value}{Q:Option DictEntry->Shared->Prop}(hu:knd.room A)(hkey:knd.is s.heap k a)(hm:s.heap.DictOfH knd d xs)
  (hz:xs.length<=sizeLine)(hp:atKey xs k=some p)(hQ:∀h',h'.DictOfH knd d (xs.filter λx=>decide (x.1≠k))->Heap.SameBut d s.heap h'->Q (some ⟨knd.hash k,.ref p.1,p.2⟩) {s with heap:=h',toks:=s.toks+knd.draws k}):
  wpAny (model prog w) A (Builtin.Dict.takeOut d (.ref a)) Q E s:=by
 obtain⟨o,es,ep,ho,hc,hd,he,his,hn⟩:=hm
 unfold Builtin.Dict.takeOut;try with_reducible refine wpAny_holding ?_
 refine wpAny_bind (knd.pyHash hu hkey (wpAny_bind (wpAny_dictFind_heap (s:={s with toks:=s.toks+knd.draws k}) hu hkey ho hd he his hn ?_ ?_)))
 ·intro hno;rw[atKey_none_of_get hno]at hp;cases hp
 ·intro j q hj
  have eq:=atKey_of_get hn hj;rw[hp]at eq;cases eq
  have hs:es.size=xs.length:=size_of_entries he
  refine wpAny_bind (wpAny_dictEntries (s:={s with toks:=s.toks+knd.draws k}) ho hd ?_)
  rw[entry_at he j,hj]
  refine wpAny_bind (wpAny_updateDictKeys (hz:=by lia) (hf:=Nat.le_succ_of_le (size_eraseIdxIfInBounds_le _ _)) (s:={s with toks:=s.toks+knd.draws k}) ho hd (wpAny_pure (hQ _ ⟨_,_,ep+1,Heap.get?_update_self _ ho (Obj.isFreed_of_dict (Obj.data_mapDictKeys hd _)),hc.mapDictKeys _,Obj.data_mapDictKeys hd _,?_,?_,?_⟩ (Heap.SameBut.update ..))))
  ·rw[←rD hn hj]
   obtain⟨l⟩:=es
   simp only at he
   simp only[List.eraseIdxIfInBounds_toArray,he]
   exact tX _ _ _
  ·intro x hx
   exact knd.keeps (his x (List.mem_filter.mp hx).1) ho hd (Heap.SameBut.update ..)
  ·exact hn.sublist (List.filter_sublist.map _)
end
end RD
namespace L2
open PySem PySem.Spec PyProof.Rows
theorem KT.drop{H:Hp}{kvs:List (List Key×V)}{xs:List (List Key×Addr×Value)}(r:KT H kvs xs)(k:List Key):KT H (jP kvs k) (xs.filter λx=>decide (x.1≠k)):=by
 unfold jP
 induction r with
 |nil=>exact .nil
 | @cons p q ps qs h t ih=>
  rw[List.filter_cons,List.filter_cons]
  by_cases e:p.1=k
  ·rw[if_neg (by simp[e]),if_neg (by simp[h.1.symm.trans e])];exact ih
  ·rw[if_pos (by simp[e]),if_pos (by simp[show¬q.1=k from λz=>e (h.1.trans z)])];exact .cons h ih
section
variable {X:Cx} {pins:List (Addr×Obj)} {σ:St} {H:Hp} {s:Shared} {a b:Addr} {kvs:List (List Key×V)} {k:List Key} {A:Around} {E:Value->Shared->Prop}
theorem GY{h':Heap}{t':Nat}{xs:List (List Key×Addr×Value)}{kvs':List (List Key×V)}(I:Inv X pins σ H s)(e:H a=some (.dT kvs))(hz:kvs'.length<=sizeLine)(hd:(a==sysModules)=false)(rel:KT H kvs' xs)
  (dd:h'.DictOfH (tupleKind (bO X.prog X.w)) a xs)(hs:Heap.SameBut a s.heap h'):Inv X pins σ (upd H a (.dT kvs')) {s with heap:=h',toks:=t'}:=by
 obtain⟨q,es,ep,hq,h2,h3,h4,_,h5⟩:=dd
 refine vn I (by rw[e];exact True.intro) hs ⟨q,hq⟩ ⟨hz,hd,_,rel.keeps λc ys ec=>?_,q,es,ep,hq,h2,h3,h4,h5⟩
 rw[ai (aT ec e (λz=>nomatch z))];exact ec
theorem Ot{v:V}{Q:Value->Shared->Prop}(hu:A.units+1<cLine)(I:Inv X pins σ H s)(e:H a=some (.dT kvs))(eb:H b=some (.tup (k.map kV)))(l:kh kvs k=some v)
  (h:∀w' s',Inv X pins σ (upd H a (.dT (jP kvs k))) s'->RelV v w'->Q w' s'):wpAny (model X.prog X.w) A (call (.builtin "dict.pop") [.ref a,.ref b]) Q E s:=by
 obtain⟨z,hd,xs,rel,dd⟩:=LK I.hok e
 obtain⟨w',hw,rw'⟩:=ju.some_of (v:=v) (o:=(atKey xs k).map (·.2)) (by rw[←l];exact rel.val k)
 obtain⟨p,hp,hp2⟩:=Option.map_eq_some_iff.mp hw
 have hz':xs.length<=sizeLine:=by rw[←Paired.length rel];exact z
 have ne:xs≠[]:=λq=>by subst q;simp[atKey]at hp
 refine call_meetsIn (S:=λA R s=>(tupleKind (bO X.prog X.w)).room A.in1/\(tupleKind (bO X.prog X.w)).is s.heap k b/\s.heap.DictOfH (tupleKind (bO X.prog X.w)) a xs/\∀h' tk,h'.DictOfH (tupleKind (bO X.prog X.w)) a (xs.filter λx=>decide (x.1≠k))->Heap.SameBut a s.heap h'->R (.ok (.ret p.2)) {s with heap:=h',toks:=tk})
  PySem.F.slot_dict_pop dd.typeIs PySem.F.entry_dict_pop (PySem.F.args_dict_pop_2 _ _) ?_ ⟨tupleKind_room_in1 hu,q_ I.hok eb,dd,λh' tk LO hs=>?_⟩
 ·refine .of_wp λA R s ⟨hu,hk,hm,h⟩=>?_
  have hm0:=hm
  obtain⟨o,es,ep,ho,hc,hdat,he,_⟩:=hm
  unfold Builtin.«dict.pop»;refine wpAny_bind ?_
  unfold Builtin.Dict.keyAndDefault;refine wpAny_bind (wpAny_notOrdered_dict hm0.typeIs ?_)
  show wpAny _ _ (pure (a,Value.ref b,none)) _ _ s
  refine wpAny_pure ?_
  have kp:(keyPart (Value.ref b)).isSome=false:=rfl
  simp only[kp,Bool.false_eq_true,if_false]
  refine wpAny_bind (wpAny_dictEntries ho hdat (wpAny_bind (wpAny_pure ?_)))
  have hne:es.isEmpty=false:=by
   have:=size_of_entries he
   cases xs with
   |nil=>exact absurd rfl ne
   |cons _ _=>rw[List.length_cons]at this;rw[Array.isEmpty_eq_false_iff];intro z;rw[z]at this;simp at this
  simp only[hne,Bool.false_eq_true,if_false]
  refine wpAny_bind (RD.takeOut hu hk hm0 hz' hp λh' hm' hs'=>?_)
  simp only[Option.isNone_some,Bool.false_eq_true,if_false]
  exact wpAny_bind (wpAny_letGo (wpAny_pure ⟨p.2,rfl,h h' _ hm' hs'⟩))
 ·rw[hp2]
  exact h w' _ (GY I e (Nat.le_trans (GS kvs k) z) hd (rel.drop k) LO hs) rw'
end
inductive Ab(ty:TE)(σ:St)(Q:VK)(x:V)(H1:Hp):Prop
 |mk(a:_):(x=.ref a)->(Vc H1 a)->(ty σ H1 λy H2=>∃kvs k b v,H2 a=some (.dT kvs)/\y=.ref b/\H2 b=some (.tup (k.map kV))/\kh kvs k=some v/\Q v (upd H2 a (.dT (jP kvs k))))->Ab ty σ Q x H1
def LW(td ty:TE):TE:=λσ H Q=>td σ H λx H1=>Ab ty σ Q x H1
section
variable {X:Cx} {o e i:Expr} {apos cpos tpos pos:Pos} {td ty:TE}
theorem FA(hu:X.A.units+1<cLine)(ho:PE X o td)(he:PE X e ty)(m:M1 X o "pop" apos e cpos):PE X (.Call (.Attribute o "pop" apos) [e] [] cpos) (LW td ty):=by
 intro pins s σ H Q I h
 refine wpAny_Call_method m.base m.few m.line PySem.F.plainAttrs_dict PySem.F.slot_dict_pop PySem.F.type_dict_pop (dI (ho pins s σ H _ I h) λu s1 ⟨x,H1,I1,rx,a,ex,d,q1⟩=>?_)
 subst ex;obtain rfl:u=Value.ref a:=rx
 obtain⟨t1,t2,_⟩:=Gu I1 d
 refine⟨t1,t2,?_⟩
 rw[m.trees];refine Calls.callWith_builtin rfl (Calls.evalArgs_plain (Calls.spliced_cons (dI (he pins s1 σ H1 _ I1 q1) λiv s2 ⟨y,H2,I2,ry,kvs,k,b,v,ea,ey,eb,l,q2⟩=>Calls.spliced_nil ?_)))
 subst ey;obtain rfl:iv=Value.ref b:=ry
 exact Ot hu I2 ea eb l λw' s3 I3 rw'=>⟨v,_,I3,rw',q2⟩
end
theorem Rx{P:Program}{w:World}{k:Key}{u:Value}(h:(bO P w).is k u=true):RelV (kV k) u:=by
 rw[zc]at h
 rcases cN h with⟨i,t,rfl,rfl⟩|⟨x,t,rfl,rfl⟩
 ·exact⟨t,rfl⟩
 ·exact⟨t,rfl⟩
def Ub(H:Hp)(a:Addr)(ys:List V):Prop:=(∃kvs,Rd H a (.dK kvs)/\ys=kvs.map λp=>kV p.1)\/∃kvs,Rd H a (.dT kvs)/\Paired (λ(y:V) (p:List Key×V)=>∃b,y=.ref b/\H b=some (.tup (p.1.map kV))) ys kvs
theorem rG{X:Cx}(hc:X.calm=true):iM X (.type "list") (λxs H Q=>∃a,xs=[.ref a]/\Vc H a/\∀l ys,H l=none->Ub H a ys->Q (.ref l) (upd H l (.lst ys))):=by
 intro pins s σ H xs us Q I r h
 obtain⟨a,rfl,hd,q⟩:=h
 obtain⟨u,rfl,rx⟩:=vals1 r
 cases rx
 rcases hd with⟨kvs,e⟩|⟨kvs,e⟩
 ·obtain⟨z,hd,vs,rel,dd⟩:=uh I.hok e
  obtain⟨ep,da⟩:=dd.dictAt
  refine PySem.W.kdl_call (PySem.W.kdl_dict hd) (I.ok.hd hc) da (by rw[←rel.length];exact z) λh' tk acc c kp hl it=>?_
  have rv:Vals (kvs.map λp=>kV p.1) acc.toList:=by
   have key:∀{kvs:List (Key×V)}{vs:List (Key×Value)}{acc:List Value},KV kvs vs->acc.length=vs.length->(∀(j:Nat) v,acc[j]? = some v->∃k x,vs[j]? = some (k,x)/\(bO X.prog X.w).is k v=true)->Vals (kvs.map λp=>kV p.1) acc:=by
    intro kvs vs acc r
    unfold KV at r
    induction r generalizing acc with
    |nil=>intro hl _;cases acc with
     |nil=>exact .nil
     |cons _ _=>simp at hl
    | @cons p q ps qs h t ih=>
     intro hl hv
     cases acc with
     |nil=>simp at hl
     |cons u acc=>
      refine .cons ?_ (ih (by simpa using hl) λj v e=>by have:=hv (j+1) v (by simpa using e);simpa using this)
      obtain⟨k,x,e1,e2⟩:=hv 0 u rfl
      simp at e1
      subst e1
      show RelV (kV p.1) u
      rw[h.1]
      exact Rx e2
   exact key rel (by have:=it.1;simp only[Array.length_toList];lia) λj v e=>it.2 j v (by rw[←Array.getElem?_toList];exact e)
  refine⟨.ref s.heap.objs.size,_,I.laid (t':=tk) kp (Nat.le_refl _) (show cC X.prog X.w _ h' _ (.lst (kvs.map λp=>kV p.1))from⟨by rw[List.length_map];exact z,acc.toList,c,rv,by rw[Array.toArray_toList];exact hl⟩),rfl,q _ _ (I.hok.fresh (Nat.le_refl _)) (.inl ⟨kvs,e,rfl⟩)⟩
 ·obtain⟨z,hd,xs,rel,dd⟩:=uf I.hok e
  obtain⟨o,es,ep,ho,hcd,hdat,he,_,_⟩:=id dd
  have hs:=size_of_entries he
  have lr:=Paired.length rel
  refine PySem.W.kdl_call (RD.src (es:=es) (ep:=ep) hd) (I.ok.hd hc) ⟨o,ho,hcd,hdat⟩ LI λh' tk acc c kp hl it=>?_
  have rv:∃ys,Vals ys acc.toList/\Paired (λ(y:V) (p:List Key×V)=>∃b,y=.ref b/\H b=some (.tup (p.1.map kV))) ys kvs:=by
   have key:∀{kvs:List (List Key×V)}{xs:List (List Key×Addr×Value)}{acc:List Value},KT H kvs xs->acc.length=xs.length->(∀(j:Nat) v,acc[j]? = some v->∃x,xs[j]? = some x/\v=.ref x.2.1)->∃ys,Vals ys acc/\Paired (λ(y:V) (p:List Key×V)=>∃b,y=.ref b/\H b=some (.tup (p.1.map kV))) ys kvs:=by
    intro kvs xs acc r
    induction r generalizing acc with
    |nil=>intro hl _;cases acc with
     |nil=>exact⟨[],.nil,.nil⟩
     |cons _ _=>simp at hl
    | @cons p q ps qs h t ih=>
     intro hl hv
     cases acc with
     |nil=>simp at hl
     |cons u acc=>
      obtain⟨ys,r1,r2⟩:=ih (acc:=acc) (by simpa using hl) λj v e=>by have:=hv (j+1) v (by simpa using e);simpa using this
      obtain⟨x,e1,e2⟩:=hv 0 u rfl
      simp at e1
      subst e1
      exact⟨.ref q.2.1::ys,.cons e2 r1,.cons ⟨_,rfl,h.2.1⟩ r2⟩
   refine key rel (by have:=it.1;simp only[Array.length_toList];lia) λj v e'=>?_
   obtain⟨en,h1,h2⟩:=it.2 j v (by rw[←Array.getElem?_toList];exact e')
   rw[entry_at he j]at h1
   obtain⟨x,hx,xJ⟩:=Option.map_eq_some_iff.mp h1
   exact⟨x,hx,by rw[h2,←xJ];rfl⟩
  obtain⟨ys,r1,r2⟩:=rv
  have ly:=Paired.length r2
  refine⟨.ref s.heap.objs.size,_,I.laid (t':=tk) kp (Nat.le_refl _) (show cC X.prog X.w _ h' _ (.lst ys)from⟨by lia,acc.toList,c,r1,by rw[Array.toArray_toList];exact hl⟩),rfl,q _ _ (I.hok.fresh (Nat.le_refl _)) (.inr ⟨kvs,e,r2⟩)⟩
section
variable {P:Program} {w:World} {H H':Hp} {h:Heap} {a:Addr} {o:HO}
end
section
variable {X:Cx} {pins:List (Addr×Obj)} {σ:St} {H H':Hp} {s s':Shared} {a:Addr} {C:Value} {B h2:Heap}
end
section
variable {P:Program} {w:World} {K:Fg7} {mg:Str->Option Value} {base:Heap} {N:List Str} {qual:Str} {scope:Scope} {f:Addr} {cd:Value} {A:Around} {outer:List Env} {s:Shared} {H:Hp} {E:XK}
end
section
variable {X:Cx} {E:XK} {x:Str} {C:Addr} {bmB:List Value} {newId B initId:String} {e₀:Expr} {es:List Expr} {t:TA} {np cpos pos:Pos}
end
section
variable {X:Cx} {pins ir:List (Addr×Obj)} {σ:St} {H:Hp} {s:Shared} {E:XK} {a:Addr}
end
section
variable {X:Cx} {body suite:List Stmt} {b₀:Stmt} {h₀:ExceptHandler} {hs:List ExceptHandler} {tb th:TS} {tE:XK->TS} {x n:Str} {C':Addr} {np pos hpos:Pos} {i:Nat}
end
section
variable {X:Cx} {pins:List (Addr×Obj)} {σ:St} {H:Hp} {s:Shared}
end
section
variable {X:Cx} {body suite:List Stmt} {b₀:Stmt} {th:TS} {tE:XK->TS} {x n:Str} {C':Addr} {np pos hpos:Pos} {i:Nat}
end
end L2
namespace RD
open PySem PyProof.Rows
section
variable {prog:Program} {w:World} {A:Around} {E:Value->Shared->Prop} {s:Shared} {d it v:Addr} {es:Array DictEntry} {ep i:Nat} {ok ov:Value}
theorem Rw{Q:Value->Shared->Prop}(hd:(d==sysModules)=false)(x:Raw s.heap d es ep)(hQ:Q (.ref s.heap.objs.size) {s with heap:=s.heap.push {cls:=.type "dict_items",data:=.fields #[.ref d]} }):
  wpAny (model prog w) A (call (.builtin "dict.items") [.ref d]) Q E s:=by
 have hT:=x.type
 refine call_meetsIn (S:=λ_ R s=>(∃es ep,Raw s.heap d es ep)/\R (.ok (.ret (.ref s.heap.objs.size))) {s with heap:=s.heap.push {cls:=.type "dict_items",data:=.fields #[.ref d]} }) PySem.F.slot_dict_items hT PySem.F.entry_dict_items (PySem.F.args_dict_items_1 _) ?_ ⟨⟨_,_,x⟩,hQ⟩
 refine .of_wp λA R s ⟨⟨es,ep,hm⟩,h⟩=>?_
 unfold Builtin.«dict.items»;refine wpAny_bind ?_
 unfold Builtin.Dict.noArgs;refine wpAny_bind (wpAny_notOrdered_dict hm.type ?_)
 show wpAny _ _ (pure d) _ _ s;refine wpAny_pure ?_
 show wpAny _ _ (Builtin.Dict.showsAll d >>= _) _ _ s;unfold Builtin.Dict.showsAll
 rw[if_neg (by rw[hd];exact Bool.false_ne_true)];refine wpAny_bind (wpAny_pure (wpAny_bind (wpAny_newObj_type (wpAny_pure ⟨_,rfl,h⟩))))
theorem Rz{Q:Value->Shared->Prop}(hv:s.heap.IsItemsView v d)(x:Raw s.heap d es ep)
  (hQ:Q (.ref s.heap.objs.size) {s with heap:=s.heap.push {cls:=.type "dict_itemiterator",data:=.fields #[.none,.bool false,.ref d,.int 0 0,.int es.size 0,.int ep 0,.none,.none]} }):
  wpAny (model prog w) A (pyIter (.ref v)) Q E s:=by
 obtain⟨o',hov,hcv,hdv⟩:=id hv;obtain⟨o,ho,hc,hdat⟩:=x
 refine wpAny_pyIter_slot hv.typeIs F.slot_dict_items_iter (wpAny_call_entry F.slot_dict_items_iter hv.typeIs F.entry_dict_items_iter ?_ (F.args_dict_items_iter_1 _))
 unfold Builtin.«dict_items.__iter__»;refine wpAny_bind (wpAny_pure (wpAny_bind ?_))
 unfold Builtin.Dict_items.dictOf;refine wpAny_bind (wpAny_field hov hdv (x:=.ref d) rfl (wpAny_pure (wpAny_bind ?_)))
 unfold Builtin.Dict_items.newIterator;refine wpAny_bind (wpAny_dictEntries ho hdat (wpAny_bind (wpAny_dictEpoch ho hdat ?_)))
 have hown:Builtin.Dict_items.ownsTuple "dict_itemiterator"=true:=by decide
 simp only[hown,if_true];refine wpAny_newObj_type (wpAny_pure ⟨_,rfl,"dict_itemiterator",_,⟨_,Heap.get?_push_size _ rfl,rfl⟩,F.slot_dict_itemiterator_next.lookup,?_⟩) (by simp only[sizeOk,Builtin.Dict_items.ownedTupleFields,List.size_toArray,List.length_append,List.length_cons,List.length_nil,sizeLine_eq];lia)
 simpa [rawInt,Builtin.Dict_items.ownedTupleFields]using hQ
theorem Ry{Q:Option Value->Shared->Prop}(hit:IsItemIter s.heap it d i es.size ep ok ov)(x:Raw s.heap d es ep)(hi:i<es.size)
    (hQ:∀h',IsItemIterOut h' it d (i+1) es.size ep es[i].key es[i].val s.heap.objs.size->h'.get? s.heap.objs.size=some {cls:=.type "tuple",data:=.seq #[es[i].key,es[i].val]}->h'.objs.size=s.heap.objs.size+1->
      (∀b o,b≠it->s.heap.get? b=some o->h'.get? b=some o)->Q (some (.ref s.heap.objs.size)) {s with heap:=h'}):wpAny (model prog w) A (pyNext (.ref it)) Q E s:=by
  obtain⟨hp,g,dr,tk,os⟩:=s;obtain⟨od,hod,hcd,Bo⟩:=x
  have hT:Shared.TypeIs ⟨hp,g,dr,tk,os⟩ (.ref it) "dict_itemiterator":=⟨_,hit,rfl⟩
  unfold pyNext;refine wpAny_bind (wpAny_attempt (wpAny_callSpecial?_slot (name:=Str.ofString "__next__") hT F.slot_dict_itemiterator_next (wpAny_call_entry F.slot_dict_itemiterator_next hT F.entry_dict_itemiterator_next ?_ (F.args_dict_itemiterator_next_1 _))))
  refine wpAny_bind (wpAny_pure (wpAny_bind (wpAny_bind ?_)))
  refine wpAny_bind (wpAny_typeNameOfWhole_itemiter hT (wpAny_pure ?_));refine wpAny_bind (wpAny_fieldsOf hit rfl ?_)
  have hown:Builtin.Dict_items.ownsTuple "dict_itemiterator"=true:=by decide
  simp only[hown,if_true];show wpAny _ _ (if(Value.ref d==Value.none)=true then _ else _) _ _ _
  rw[if_neg (show¬((Value.ref d==Value.none)=true)from Bool.false_ne_true)];refine wpAny_bind (wpAny_pure (wpAny_bind (wpAny_dictEntries hod Bo ?_)))
  rw[if_neg (by simp)];refine wpAny_bind (wpAny_pure (wpAny_bind (wpAny_dictEpoch hod Bo ?_)))
  rw[if_neg (by simp)];refine wpAny_pure ?_
  simp only[show¬((i:Int)<0)from by lia,if_false,Int.toNat_natCast,Array.getElem?_eq_getElem hi];refine wpAny_bind ?_
  refine wpAny_bind (wpAny_typeNameOfWhole_itemiter hT (wpAny_pure ?_));refine wpAny_bind (wpAny_isOneOf_itemiter hT ?_)
  show wpAny _ _ (setField (.ref it) 3 (rawInt ((i:Int)+1)) >>= _) _ _ ⟨hp,g,dr,tk,os⟩;refine wpAny_bind (wpAny_setField_rec hit (by simp) λh₁ Sz hs₁=>?_)
  replace hs₁:Heap.SameBut it hp h₁:=hs₁
  replace Sz:IsItemIter h₁ it d (i+1) es.size ep ok ov:=by have e:((i+1:Nat):Int)=(i:Int)+1:=by lia
                                                           unfold IsItemIter;rw[e];simpa [rawInt]using Sz
  have hT₁:Shared.TypeIs ⟨h₁,g,dr,tk,os⟩ (.ref it) "dict_itemiterator":=⟨_,Sz,rfl⟩
  refine wpAny_bind (wpAny_holding ?_);refine wpAny_bind (wpAny_isOneOf_itemiter hT₁ ?_);refine wpAny_bind (wpAny_isOneOf_itemiter hT₁ ?_)
  show wpAny _ _ (Builtin.Dict_items.pairFromOwner (.ref it) 6 es[i].key es[i].val) _ _ ⟨h₁,g,dr,tk,os⟩;unfold Builtin.Dict_items.pairFromOwner
  refine wpAny_bind (wpAny_newTuple ?_)
  have Sw:IsItemIter (h₁.push {cls:=.type "tuple",data:=.seq #[es[i].key,es[i].val]}) it d (i+1) es.size ep ok ov:=Heap.get?_push_of_some _ Sz
  generalize UQ:h₁.push {cls:=.type "tuple",data:=.seq #[es[i].key,es[i].val]}=h₂ at Sw
  have UK:h₁.objs.size=hp.objs.size:=hs₁.1;have hil:it<hp.objs.size:=Heap.lt_size hit
  have ht₂:h₂.get? hp.objs.size=some {cls:=.type "tuple",data:=.seq #[es[i].key,es[i].val]}:=by rw[←UQ,←UK];exact Heap.get?_push_size _ rfl
  have hz₂:h₂.objs.size=hp.objs.size+1:=by rw[←UQ,Heap.size_push,UK]
  have hk₂:∀b o,b≠it->hp.get? b=some o->h₂.get? b=some o:=λb o hb e=>by rw[←UQ];exact Heap.get?_push_of_some _ (hs₁.extBut b o hb e)
  show wpAny _ _ (Builtin.Dict_items.ownedTupleIsFree (.ref it) >>= _) _ _ ⟨h₂,g,dr,tk,os⟩;rw[UK]
  clear UQ Sz hs₁ hT₁ UK h₁;refine wpAny_bind ?_
  unfold Builtin.Dict_items.ownedTupleIsFree;refine wpAny_bind (wpAny_field Sw rfl (x:=.none) rfl (wpAny_pure ?_))
  simp only[if_true];refine wpAny_bind (wpAny_field Sw rfl (x:=ok) rfl (wpAny_bind (wpAny_field Sw rfl (x:=ov) rfl ?_)))
  refine wpAny_bind (wpAny_setField_rec Sw (by simp) λh₃ XE RS=>?_);replace RS:Heap.SameBut it h₂ h₃:=RS
  replace XE:IsItemIter h₃ it d (i+1) es.size ep es[i].key ov:=XE;refine wpAny_bind (wpAny_setField_rec XE (by simp) λh₄ XD RQ=>?_)
  replace RQ:Heap.SameBut it h₃ h₄:=RQ;replace XD:IsItemIter h₄ it d (i+1) es.size ep es[i].key es[i].val:=XD
  refine wpAny_bind (wpAny_setField_rec XD (by simp) λh₅ XC RP=>?_);replace RP:Heap.SameBut it h₄ h₅:=RP
  replace XC:IsItemIterOut h₅ it d (i+1) es.size ep es[i].key es[i].val hp.objs.size:=XC;refine wpAny_bind (wpAny_setField_rec XC (by simp) λh₆ XA RO=>?_)
  replace RO:Heap.SameBut it h₅ h₆:=RO;replace XA:IsItemIterOut h₆ it d (i+1) es.size ep es[i].key es[i].val hp.objs.size:=XA
  refine wpAny_bind (wpAny_letGo (wpAny_pure (wpAny_pure ⟨_,rfl,wpAny_pure (hQ h₆ XA ?_ ?_ ?_)⟩)))
  · exact RO.extBut _ _ (Nat.ne_of_gt hil) (RP.extBut _ _ (Nat.ne_of_gt hil) (RQ.extBut _ _ (Nat.ne_of_gt hil) (RS.extBut _ _ (Nat.ne_of_gt hil) ht₂)))
  · show h₆.objs.size=hp.objs.size+1;rw[RO.1,RP.1,RQ.1,RS.1,hz₂]
  · exact λb o hb e=>RO.extBut b o hb (RP.extBut b o hb (RQ.extBut b o hb (RS.extBut b o hb (hk₂ b o hb e))))
theorem WW{Q:Option Value->Shared->Prop}(hh:A.handled=none)(hit:IsItemIter s.heap it d i es.size ep ok ov)(x:Raw s.heap d es ep)(hi:es.size<=i)(hQ:∀h',Heap.ExtBut it s.heap h'->Q none {s with heap:=h'}):wpAny (model prog w) A (pyNext (.ref it)) Q E s:=by
 obtain⟨od,hod,hcd,Bo⟩:=x;have hT:s.TypeIs (.ref it) "dict_itemiterator":=⟨_,hit,rfl⟩
 unfold pyNext;refine wpAny_bind (wpAny_attempt (wpAny_callSpecial?_slot (name:=Str.ofString "__next__") hT F.slot_dict_itemiterator_next (wpAny_call_entry F.slot_dict_itemiterator_next hT F.entry_dict_itemiterator_next ?_ (F.args_dict_itemiterator_next_1 _))))
 refine wpAny_bind (wpAny_pure (wpAny_bind (wpAny_bind ?_)))
 refine wpAny_bind (wpAny_typeNameOfWhole_itemiter hT (wpAny_pure ?_));refine wpAny_bind (wpAny_fieldsOf hit rfl ?_)
 have hown:Builtin.Dict_items.ownsTuple "dict_itemiterator"=true:=by decide
 simp only[hown,if_true];show wpAny _ _ (if(Value.ref d==Value.none)=true then _ else _) _ _ s
 rw[if_neg (show¬((Value.ref d==Value.none)=true)from Bool.false_ne_true)];refine wpAny_bind (wpAny_pure (wpAny_bind (wpAny_dictEntries hod Bo ?_)))
 rw[if_neg (by simp)];refine wpAny_bind (wpAny_pure (wpAny_bind (wpAny_dictEpoch hod Bo ?_)))
 rw[if_neg (by simp)];refine wpAny_pure ?_
 simp only[show¬((i:Int)<0)from by lia,if_false,Int.toNat_natCast,Array.getElem?_eq_none hi];refine wpAny_bind ?_
 refine wpAny_bind (wpAny_typeNameOfWhole_itemiter hT (wpAny_pure ?_));show wpAny _ _ (setField (.ref it) 2 .none >>= _) _ _ s
 refine wpAny_bind (wpAny_setField hit rfl (by simp) ?_);show wpAny _ _ (newExc (.type "StopIteration") [] >>= _) _ _ _
 refine wpAny_bind ?_;simp only[newExc,newTuple]
 refine wpAny_bind (wpAny_newObj_type ?_ (by size_fits));refine wpAny_bind (m:=firstArgMember _ _) (wpAny_of_eq (a:=Value.none) (by first|rfl|(simp only[firstArgMember];rfl)) ?_)
 refine wpAny_newObj_type ?_ (by size_fits);simp only[raiseNew]
 refine wpAny_bind (wpAny_handled ?_);rw[show A.in1.handled=none from hh]
 refine wpAny_bind (wpAny_pure (wpAny_throw ?_));refine wpAny_bind (wpAny_isInstance (T:="StopIteration") (b:=true) ⟨_,Heap.get?_push_size _ rfl,rfl⟩ isSubtype_stop ?_)
 exact wpAny_pure (hQ _ (((Heap.SameBut.update ..).extBut.push _).push _))
end
end RD
namespace L2
open PySem PySem.Spec PyProof.Rows
section
variable {X:Cx} {pins:List (Addr×Obj)} {σ:St} {H:Hp} {s:Shared} {d:Addr} {o:Obj} {u:HO} {kvs:List (List Key×V)}
theorem Inv.PJ(I:Inv X pins σ H s)(e:H d=some (.e_ o u))(h0:∀o' u',X.H₀ d≠some (.e_ o' u')):Inv X pins σ (upd H d u) s:=by
 have ne:∀{b:Addr},H b=none->b≠d:=λz q=>by rw[q,e]at z;cases z
 refine⟨I.ok,I.os,I.bare,⟨I.base.keep,I.base.slot,λb ob q n hx=>?_,I.base.there,λb xs q=>?_,λb ob v q=>?_,λb ps q=>?_⟩,I.loc,I.cell,by rw[ai (ne I.free)];exact I.free,λx c q=>by rw[ai (ne (I.gK x c q))];exact I.gK x c q,λp hp=>?_,λb ob q=>?_,I.len⟩
 ·have z:=I.base.free b ob q n hx
  rw[ai (ne z)];exact z
 ·have z:=I.base.tups b xs q
  rw[ai (aT z e (by intro y;cases y))];exact z
 ·have z:=I.base.mZ b ob v q
  rw[ai (λy=>h0 ob v (by rw[←y];exact q))];exact z
 ·obtain⟨m,z⟩:=I.base.qK b ps q
  exact⟨m,by rw[ai (aT z e (by intro y;cases y))];exact z⟩
 ·obtain⟨q,n,r⟩:=I.pin p hp
  exact⟨q,by rw[ai (ne n)];exact n,r⟩
 ·have ow:∀{c a:Addr},H c=some (.own a)->upd H d u c=some (.own a):=λz=>by rw[ai (aT z e (by intro y;cases y))];exact z
  have tp:∀{c:Addr}{xs:List V},H c=some (.tup xs)->upd H d u c=some (.tup xs):=λz=>by rw[ai (aT z e (by intro y;cases y))];exact z
  by_cases hb:b=d
  ·subst hb
   rw[af]at q;cases q
   obtain⟨_,z⟩:=(show cC X.prog X.w H s.heap b (.e_ o u)from I.hok b _ e)
   exact z.stay (λ_ _ _ y=>y) (λ_ y=>ow y) λ_ _ y=>tp y
  ·rw[ai hb]at q
   exact(I.hok b ob q).stay (λ_ _ _ y=>y) (λ_ y=>ow y) λ_ _ y=>tp y
def FO:HO->Prop
 |.e_ _ _=>False
 |_=>True
inductive DS(t:TE)(σ:St)(H:Hp)(Q:VK):Prop
 |mk(d:_)(u:_):(H d=some u)->(FO u)->(t σ H λv H'=>∃o,H' d=some (.e_ o u)/\Q v (upd H' d u))->DS t σ H Q
def PM(t:TE):TE:=λσ H Q=>DS t σ H Q
theorem AW{e:Expr}{t:TE}(h:PE X e t):PE X e (PM t):=by
 intro pins s σ H Q I hq
 obtain⟨d,u,hd,hn,q⟩:=hq
 refine dI (h pins s σ H _ I q) λv s1 ⟨x,H1,I1,r,o,e1,q1⟩=>⟨x,_,I1.PJ e1 λo' u' z=>?_,r,q1⟩
 have:=I.base.mZ d o' u' z
 rw[hd]at this;cases this
 exact hn
theorem qC{P:Program}{w:World}{H:Hp}{h:Heap}{es:Array DictEntry}{ep:Nat}(ok:lU P w H h)(e:H d=some (.e_ o (.dT kvs)))(ho:o.data=.dict es ep):
  ∃xs,KT H kvs xs/\RD.Raw h d es ep/\es.toList=xs.map (entryOfKey (tupleKind (bO P w)))/\es.size=kvs.length/\(d==sysModules)=false:=by
 obtain⟨h1,_,hd,xs,rel,o',es',Pk,h2,h3,h4,h5,_⟩:=(show cC P w H h d (.e_ o (.dT kvs))from ok d _ e)
 rw[h1]at h2;cases h2
 rw[ho]at h4;cases h4
 exact⟨xs,rel,⟨o,h1,h3,ho⟩,h5,by have:=congrArg List.length h5;rw[List.length_map,←Paired.length rel]at this;simpa using this,hd⟩
theorem KT.at{xs:List (List Key×Addr×Value)}(r:KT H kvs xs){i:Nat}(hi:i<kvs.length):∃k v x,kvs[i]? = some (k,v)/\xs[i]? = some x/\H x.2.1=some (.tup (k.map kV))/\RelV v x.2.2:=by
 induction r generalizing i with
 |nil=>exact absurd hi (by simp)
 | @cons p q ps qs h t ih=>
  cases i with
  |zero=>exact⟨p.1,p.2,q,rfl,rfl,h.2.1,h.2.2⟩
  |succ i=>
   obtain⟨k,v,x,h1,h2,h3⟩:=ih (i:=i) (by simpa using hi)
   exact⟨k,v,x,by simpa using h1,by simpa using h2,h3⟩
def Ud(d:Addr)(o:Obj):It:=⟨λi H=>∃kvs,H d=some (.e_ o (.dT kvs))/\i<kvs.length,λi H x H'=>H'=H/\∀kvs,H d=some (.e_ o (.dT kvs))->∃k v b,kvs[i]? = some (k,v)/\x=.ref b/\H b=some (.tup (k.map kV)),λi H=>∃kvs,H d=some (.e_ o (.dT kvs))/\kvs.length=i⟩
def Ue(d:Addr)(o:Obj):It:=⟨λi H=>∃kvs,H d=some (.e_ o (.dT kvs))/\i<kvs.length,λi H x H'=>∀kvs,H d=some (.e_ o (.dT kvs))->∃k v b t,kvs[i]? = some (k,v)/\x=.ref t/\H t=none/\H b=some (.tup (k.map kV))/\H'=upd H t (.tup [.ref b,v]),λi H=>∃kvs,H d=some (.e_ o (.dT kvs))/\kvs.length<=i⟩
theorem yD{P:Program}{w:World}{K:Fg7}{tg:Expr}{es:Array DictEntry}{ep:Nat}(it:Addr)(ho:o.data=.dict es ep):Turn P w K tg (Ud d o) [it] it (λi h=>h.IsKeyIter it d i es.size ep)where
 mem:=by simp
 obj:=λi h st b hb=>by
  have e:b=it:=by simpa using hb
  subst e
  obtain⟨o',e,c,dd⟩:=st
  exact⟨o',e,λv z=>by rw[dd]at z;cases z⟩
 keep:=λi h h' st k=>st.at λo e=>k it (by simp) o e
 item:=by
  intro X hP hw hK hc i pins s σ H E I hf st hg
  subst hP hw hK
  obtain⟨kvs,hk,hi⟩:=hg
  obtain⟨xs,rel,raw,he,hz,hd⟩:=qC I.hok hk ho
  obtain⟨k,v,x,h1,h2,h3,h4⟩:=rel.at hi
  obtain⟨f0,f1,f2,f3,f4,f5⟩:=hf it (by simp)
  have Sl:i<es.size:=by lia
  refine RD.next st raw Sl λh' st' sb=>?_
  have I1:Inv X pins σ H {s with heap:=h'}:=I.turned (t':=s.toks) (λb ob hb e=>(sb.2 b hb).trans e) f0 f1 f3 f4 f5
  obtain⟨o',e',c',LO⟩:=id st'
  have ek:es[i].key=.ref x.2.1:=by
   have z:=entry_at he i
   rw[h2,Array.getElem?_eq_getElem Sl]at z
   have z':=Option.some.inj z
   rw[z'];rfl
  refine⟨_,rfl,ud (s:={s with heap:=h'}) e' c' LO (by decide) ⟨.ref x.2.1,H,I1,by rw[ek];rfl,⟨rfl,λkvs' hk'=>?_⟩,st',λb hb=>(hf b hb).1⟩⟩
  rw[hk]at hk';cases hk'
  exact⟨k,v,x.2.1,h1,rfl,h3⟩
 done:=by
  intro X hP hw hK hc i pins s σ H E I hf st hg
  subst hP hw hK
  obtain⟨kvs,hk,hi⟩:=hg
  obtain⟨xs,rel,raw,he,hz,hd⟩:=qC I.hok hk ho
  obtain⟨f0,f1,f2,f3,f4,f5⟩:=hf it (by simp)
  obtain rfl:i=es.size:=by lia
  exact RD.fin (I.ok.hd hc) st raw λh' eb=>⟨rfl,I.turned (t':=s.toks) (λb ob hb e=>eb b ob hb e) f0 f1 f3 f4 f5⟩
 self:=λ_ _ _ _ _ st h=>wpAny_pyIter_keyiter st h
theorem vS{P:Program}{w:World}{K:Fg7}{elts:List Expr}{x1}{tpos:Pos}{es:Array DictEntry}{ep:Nat}(it:Addr)(ho:o.data=.dict es ep):Turn P w K (.Tuple elts x1 tpos) (Ue d o) [it] it (λi h=>∃ok ov,IsItemIter h it d i es.size ep ok ov)where
 mem:=by simp
 obj:=λi h ⟨ok,ov,st⟩ b hb=>by
  have e:b=it:=by simpa using hb
  subst e
  exact⟨_,st,λv z=>by
   have z':Data.fields _=Data.cell v:=z
   cases z'⟩
 keep:=λi h h' ⟨ok,ov,st⟩ k=>⟨ok,ov,k it (by simp) _ st⟩
 item:=by
  intro X hP hw hK hc i pins s σ H E I hf st hg
  subst hP hw hK
  obtain⟨ok,ov,st⟩:=st
  obtain⟨kvs,hk,hi⟩:=hg
  obtain⟨xs,rel,raw,he,hz,hd⟩:=qC I.hok hk ho
  obtain⟨k,v,x,h1,h2,h3,h4⟩:=rel.at hi
  obtain⟨f0,f1,f2,f3,f4,f5⟩:=hf it (by simp)
  have Sl:i<es.size:=by lia
  have ee:es[i].key=.ref x.2.1/\es[i].val=x.2.2:=by
   have z:=entry_at he i
   rw[h2,Array.getElem?_eq_getElem Sl]at z
   have z':=Option.some.inj z
   rw[z'];exact⟨rfl,rfl⟩
  refine RD.Ry st raw Sl λh' st' ht' hsz' kp'=>⟨_,rfl,?_⟩
  rw[ee.1,ee.2]at st' ht'
  refine wpAny_letOwnedTupleGo_items (s:={s with heap:=h'}) st' λh2' st2 sb=>?_
  have ZH:it<s.heap.objs.size:=Heap.lt_size st
  have kp:∀b ob,b≠it->s.heap.get? b=some ob->h2'.get? b=some ob:=λb ob hb e=>sb.extBut b ob hb (kp' b ob hb e)
  have htn:h2'.get? s.heap.objs.size=some {cls:=.type "tuple",data:=.seq #[.ref x.2.1,x.2.2]}:=sb.extBut _ _ (Nat.ne_of_gt ZH) ht'
  have I1:Inv X pins σ H {s with heap:=s.heap}:=I
  have fr:H s.heap.objs.size=none:=I.hok.fresh (Nat.le_refl _)
  have I2:Inv X pins σ (upd H s.heap.objs.size (.tup [.ref x.2.1,v])) {s with heap:=h2'}:=by
   have QS:∀{b:Addr}{ob:HO},H b=some ob->b≠it:=λe z=>by rw[z,f0]at e;cases e
   refine I.step (g':=s.gens) (d':=s.drawn) (t':=s.toks) (ch:=[it]) (λb hb=>?_) (λb ob _ _ hc' e _=>kp b ob (λz=>hc' (by simp[z])) e) (λb ob _ _ hc' e _=>⟨ob.slots,kp b ob (λz=>hc' (by simp[z])) e⟩)
    (λb ob _ e n=>by rw[ai (Nat.ne_of_lt (Heap.lt_size e))];exact n) (λb ob hc' e=>⟨ob,kp b ob (λz=>hc' (by simp[z])) e⟩)
    (λb ys e=>by rw[ai (av e fr)];exact e) (λb ob w' e=>by rw[ai (av e fr)];exact e) (λb ps e=>⟨#[],by rw[ai (av e fr),e];simp⟩) (λm hm=>?_) (λb ob e=>?_) I.bare
   ·have e:b=it:=by simpa using hb
    subst e
    exact⟨f3,f1,f4,f5⟩
   ·obtain⟨ob,es',Pk,hob,r⟩:=hm
    exact⟨ob,es',Pk,kp _ _ (Ne.symm f1) hob,r⟩
   ·by_cases hb:b=s.heap.objs.size
    ·subst hb
     rw[af]at e;cases e
     exact⟨by show 2<=sizeLine;decide,[.ref x.2.1,x.2.2],.cons rfl (.cons h4 .nil),⟨_,htn,rfl,_,rfl⟩⟩
    ·rw[ai hb]at e
     refine(I.hok b ob e).stay (λc u hc' q=>kp c u ?_ q) (λc q=>by rw[ai (av q fr)];exact q) λc ys q=>by rw[ai (av q fr)];exact q
     rcases hc' with z|z
     ·rw[z];exact QS e
     ·exact QS z
  refine⟨.ref s.heap.objs.size,_,I2,rfl,λkvs' hk'=>?_,⟨_,_,st2⟩,λb hb=>?_⟩
  ·rw[hk]at hk';cases hk'
   exact⟨k,v,x.2.1,_,h1,rfl,fr,h3,rfl⟩
  ·have e:b=it:=by simpa using hb
   subst e
   rw[ai (Nat.ne_of_lt ZH)];exact f0
 done:=by
  intro X hP hw hK hc i pins s σ H E I hf st hg
  subst hP hw hK
  obtain⟨ok,ov,st⟩:=st
  obtain⟨kvs,hk,hi⟩:=hg
  obtain⟨xs,rel,raw,he,hz,hd⟩:=qC I.hok hk ho
  obtain⟨f0,f1,f2,f3,f4,f5⟩:=hf it (by simp)
  exact RD.WW (I.ok.hd hc) st raw LI λh' eb=>⟨rfl,I.turned (t':=s.toks) (λb ob hb e=>eb b ob hb e) f0 f1 f3 f4 f5⟩
 self:=λ_ _ _ _ _ ⟨_,_,st⟩ h=>PySem.W.kcp_self st h
end
def vc(v d:Addr):Heap->Prop:=λh=>h.IsItemsView v d
inductive AN(x:V)(xs:List V)(H:Hp)(Q:VK):Prop
 |mk(d:_)(kvs:_):(x=.ref d)->(xs=[])->(H d=some (.dT kvs))->(∀v,H v=none->Q (.ref v) (upd H v (.ext (vc v d))))->AN x xs H Q
def Mq:V->List V->Hp->VK->Prop:=λx xs H Q=>AN x xs H Q
inductive RE(R:It->Hp->Prop)(x:V)(H1:Hp):Prop
 |mk(d:_)(kvs:_):(x=.ref d)->(H1 d=some (.dT kvs))->(∀o,R (Ud d o) (upd H1 d (.e_ o (.dT kvs))))->RE R x H1
def iDK(te:TE):TI:=λσ H R=>te σ H λx H1=>RE R x H1
inductive RG(R:It->Hp->Prop)(x:V)(H1:Hp):Prop
 |mk(v:_)(d:_)(kvs:_):(x=.ref v)->(H1 v=some (.ext (vc v d)))->(H1 d=some (.dT kvs))->(∀o,R (Ue d o) (upd H1 d (.e_ o (.dT kvs))))->RG R x H1
def iDI(te:TE):TI:=λσ H R=>te σ H λx H1=>RG R x H1
section
variable {X:Cx} {pins:List (Addr×Obj)} {σ:St} {H:Hp} {s:Shared} {d:Addr} {kvs:List (List Key×V)}
theorem Inv.freeze(I:Inv X pins σ H s)(e:H d=some (.dT kvs)):∃o es ep,o.data=.dict es ep/\RD.Raw s.heap d es ep/\es.size=kvs.length/\(d==sysModules)=false/\Inv X pins σ (upd H d (.e_ o (.dT kvs))) s:=by
 obtain⟨z,hd,xs,rel,o,es,ep,h1,h2,h3,h4,h5⟩:=(show cC X.prog X.w H s.heap d (.dT kvs)from I.hok d _ e)
 have hsz:es.size=kvs.length:=by have:=congrArg List.length h4;rw[List.length_map,←Paired.length rel]at this;simpa using this
 refine⟨o,es,ep,h3,⟨o,h1,h2,h3⟩,hsz,hd,I.write (t':=s.toks) (x:=d) (e:=d) (h':=s.heap) (by rw[e];exact True.intro) (.inl rfl) (λ_ _ _ q=>q) ⟨o,h1⟩ ⟨h1,z,hd,xs,?_,o,es,ep,h1,h2,h3,h4,h5⟩⟩
 exact Paired.FZ rel λp q r=>⟨r.1,by rw[ai (aT r.2.1 e (by intro y;cases y))];exact r.2.1,r.2.2⟩
theorem xg:MtM X "dict.items" Mq:=by
 intro pins s σ H x xs v us Q I r rv h
 obtain⟨d,kvs,rfl,rfl,hk,q⟩:=h
 cases r
 cases rv
 obtain⟨o,es,ep,_,raw,_,hd,_⟩:=I.freeze hk
 refine RD.Rw hd raw ⟨.ref s.heap.objs.size,_,I.laid (t':=s.toks) (λb u e=>Heap.get?_push_of_some _ e) (Nat.le_refl _) (o:=.ext (vc s.heap.objs.size d)) ?_,rfl,q _ (I.hok.fresh (Nat.le_refl _))⟩
 exact⟨⟨_,Heap.get?_push_size _ rfl,rfl,rfl⟩,⟨_,Heap.get?_push_size _ rfl⟩,λh1 h2 ⟨o',e',c⟩ k=>⟨o',k o' e',c⟩⟩
theorem Fx{tg e:Expr}{te:TE}(he:PE X e te):PI X tg e (iDK te):=by
 intro pins s σ H R I h
 refine dI (he pins s σ H _ I h) λv s1 ⟨x,H1,I1,r1,d,kvs,ex,hk,q⟩=>?_
 subst ex
 cases r1
 obtain⟨o,es,ep,ho,raw,hz,hd,I2⟩:=I1.freeze hk
 refine RD.iter hd raw ?_
 refine⟨s1.heap.objs.size,[s1.heap.objs.size],_,_,_,rfl,I2.kept (t':=s1.toks) λb ob e=>Heap.get?_push_of_some _ e,yD _ ho,⟨_,Heap.get?_push_size _ rfl,rfl,rfl⟩,λb hb=>?_,q o⟩
 have e:b=s1.heap.objs.size:=by simpa using hb
 subst e
 exact I2.rq (Nat.le_refl _) (I2.hok.fresh (Nat.le_refl _))
theorem tU{elts:List Expr}{x1}{tpos:Pos}{e:Expr}{te:TE}(he:PE X e te):PI X (.Tuple elts x1 tpos) e (iDI te):=by
 intro pins s σ H R I h
 refine dI (he pins s σ H _ I h) λv s1 ⟨x,H1,I1,r1,vw,d,kvs,ex,hv,hk,q⟩=>?_
 subst ex
 cases r1
 obtain⟨o,es,ep,ho,raw,hz,hd,I2⟩:=I1.freeze hk
 obtain⟨view,_⟩:=(show cC X.prog X.w H1 s1.heap vw (.ext (vc vw d))from I1.hok vw _ hv)
 refine RD.Rz view raw ?_
 refine⟨s1.heap.objs.size,[s1.heap.objs.size],_,_,_,rfl,I2.kept (t':=s1.toks) λb ob e=>Heap.get?_push_of_some _ e,vS _ ho,⟨_,_,Heap.get?_push_size _ rfl⟩,λb hb=>?_,q o⟩
 have e:b=s1.heap.objs.size:=by simpa using hb
 subst e
 exact I2.rq (Nat.le_refl _) (I2.hok.fresh (Nat.le_refl _))
end
theorem qF{J:It}{n:Nat}{g:TG}{tc:TT}{te:TE}{js:List (Option Nat)}{σ:St}{H1:Hp}{D:Addr}{R:Hp->Prop}(Pv:Nat->List V->Hp->Prop)(h0:Pv 0 [] (upd H1 D (.lst [])))(hD:∀i ys H,Pv i ys H->H D=some (.lst ys))
  (hg:∀i ys H,i<n->Pv i ys H->J.go i H)(he:∀ys H,Pv n ys H->J.stop n H)
  (hs:∀i x ys H H',i<n->Pv i ys H->J.DG i H x H'->g x (dJ js σ) H' λσ2 H2=>yb (dJ js σ) σ2/\tc σ2 H2 λb H3=>
   if b=true then te σ2 H3 λv H4=>∃zs,H4 D=some (.lst zs)/\zs.length<sizeLine/\Pv (i+1) (zs++[v]) (upd H4 D (.lst (zs++[v])))else∃zs,Pv (i+1) zs H3)
  (hd:∀ys H,Pv n ys H->R H):
  ∃W:Nat->Nat->List V->Hp->Prop,(∃m,W 0 m [] (upd H1 D (.lst [])))/\
   ∀i m xs H,W i m xs H->H D=some (.lst xs)/\((J.stop i H/\R H)\/(J.go i H/\∃N:List V->Hp->Prop,(∀ys H',N ys H'->∃m',m'<m/\W (i+1) m' ys H')/\∀x H',J.DG i H x H'->g x (dJ js σ) H' λσ2 H2=>yb (dJ js σ) σ2/\tc σ2 H2 λb H3=>
    if b=true then te σ2 H3 λv H4=>∃ys,H4 D=some (.lst ys)/\ys.length<sizeLine/\N (ys++[v]) (upd H4 D (.lst (ys++[v])))
    else∃ys,N ys H3)):=by
 refine⟨λi m ys H=>m=n-i/\i<=n/\Pv i ys H,⟨n,by simp,Nat.zero_le _,h0⟩,?_⟩
 rintro i m ys H ⟨rfl,hi,p⟩
 refine⟨hD i ys H p,?_⟩
 by_cases hlt:i<n
 ·exact .inr ⟨hg i ys H hlt p,Pv (i+1),λzs H' p'=>⟨n-(i+1),by lia,rfl,hlt,p'⟩,λx H' y=>hs i x ys H H' hlt p y⟩
 ·have e:i=n:=by lia
  subst e
  exact .inl ⟨he ys H p,hd ys H p⟩
theorem dQ{K:Fg7}{a:Addr}{xs:List V}{g:TG}{tc:TT}{te:TE}{js:List (Option Nat)}{σ:St}{H1:Hp}{D:Addr}{R:Hp->Prop}(Pv:Nat->List V->Hp->Prop)(h0:Pv 0 [] (upd H1 D (.lst [])))(hD:∀i ys H,Pv i ys H->H D=some (.lst ys))
  (hl:∀i ys H,i<=xs.length->Pv i ys H->br K H a xs)
  (hs:∀i x ys H,xs[i]? = some x->Pv i ys H->g x (dJ js σ) H λσ2 H2=>yb (dJ js σ) σ2/\tc σ2 H2 λb H3=>
   if b=true then te σ2 H3 λv H4=>∃zs,H4 D=some (.lst zs)/\zs.length<sizeLine/\Pv (i+1) (zs++[v]) (upd H4 D (.lst (zs++[v])))else∃zs,Pv (i+1) zs H3)
  (hd:∀ys H,Pv xs.length ys H->R H):
  ∃W:Nat->Nat->List V->Hp->Prop,(∃m,W 0 m [] (upd H1 D (.lst [])))/\
   ∀i m xs H,W i m xs H->H D=some (.lst xs)/\(((JS K a).stop i H/\R H)\/((JS K a).go i H/\∃N:List V->Hp->Prop,(∀ys H',N ys H'->∃m',m'<m/\W (i+1) m' ys H')/\∀x H',(JS K a).DG i H x H'->g x (dJ js σ) H' λσ2 H2=>yb (dJ js σ) σ2/\tc σ2 H2 λb H3=>
    if b=true then te σ2 H3 λv H4=>∃ys,H4 D=some (.lst ys)/\ys.length<sizeLine/\N (ys++[v]) (upd H4 D (.lst (ys++[v])))
    else∃ys,N ys H3)):=
 qF (J:=JS K a) (n:=xs.length) Pv h0 hD (λi ys H hi p=>⟨xs,xs[i],hl i ys H (Nat.le_of_lt hi) p,by simp[hi]⟩) (λys H p=>⟨xs,hl _ ys H (Nat.le_refl _) p,Nat.le_refl _⟩)
  (λi x ys H H' hi p y=>by
   obtain⟨e,y⟩:=y
   subst e
   exact hs i x ys _ (y xs (hl i ys _ (Nat.le_of_lt hi) p)) p) hd
structure bA(K:Fg7)(C:Addr)(m qual:Str)(st:Stmt):Prop where
 ex:∃(f:Addr) (oc:Value) (od:Option Addr) (kV doc pm:Value) (an:Option Addr) (cdv ct:Value) (osl:Array (Option Value)),
  PySem.W.findIn K (.ref C) m=some (some (.ref f))/\PySem.W.isFn K (.ref f)=true/\K.lookup f=some ⟨oc,od,.func (PySem.W.fnOf m qual (aI st) (aE st) (ao st) .none kV doc pm an cdv ct),osl⟩/\PySem.W.codeIn K cdv qual=true/\PySem.W.keepIn K (.ref f)=true
theorem bA.mk'{K:Fg7}{C:Addr}{m qual:Str}{st:Stmt}{f:Addr}{oc:Value}{od:Option Addr}{kV doc pm:Value}{an:Option Addr}{cdv ct:Value}{osl:Array (Option Value)}(a:PySem.W.findIn K (.ref C) m=some (some (.ref f)))(i:PySem.W.isFn K (.ref f)=true)
  (l:K.lookup f=some ⟨oc,od,.func (PySem.W.fnOf m qual (aI st) (aE st) (ao st) .none kV doc pm an cdv ct),osl⟩)(c:PySem.W.codeIn K cdv qual=true)(k:PySem.W.keepIn K (.ref f)=true):bA K C m qual st:=⟨⟨f,oc,od,kV,doc,pm,an,cdv,ct,osl,a,i,l,c,k⟩⟩
structure vL(K:Fg7)(x:Str)(C:Addr):Prop where
 at_:PySem.W.nsIn K mainGlobals x=some (some (.ref C))
 cl:Dr K C
 makes:PySem.W.makesIn K C=true
 kp:PySem.W.keepIn K (.ref C)=true
def cJ(P:Program)(w:World)(K:Fg7)(mg:Str->Option Value)(CX:Ds)(C:Addr)(m:Str)(ps:List Str)(k:Nat)(sp:Sp):Prop:=
 ∃(f:Addr) (fd:FuncData),Meth K C m f/\(∀us:List Value,us.length=ps.length->bindArgs fd ⟨us,[]⟩=pure (ps.zip us))/\∀base,nB P w K mg base CX k f fd ps sp
section
variable {P:Program} {w:World} {K:Fg7} {mg:Str->Option Value} {CX:Ds} {C:Addr} {m:Str} {ps:List Str} {j k:Nat} {sp vM:Sp}
theorem bA.fn{qual:Str}{st:Stmt}{N:List Str}(D:bA K C m qual st)(S:aP N ps (ao st))
  (hb:∀(kV doc pm:Value)(an:Option Addr)(cdv ct:Value)(us:List Value),us.length=ps.length->bindArgs (PySem.W.fnOf m qual (aI st) (aE st) (ao st) .none kV doc pm an cdv ct) ⟨us,[]⟩=pure (ps.zip us))
  (len:∀vs H Q E,sp vs H Q E->vs.length=ps.length)
  (hbody:∀(f:Addr)(base:Heap)(cdv:Value)(A:Around)(outer:List Env)(s:Shared)(H:Hp)(vs:List V)(Q:VK)(E:XK),dS k (A.deeper (envOfC qual (ao st) s.heap.objs.size f cdv))->sp vs H Q E->
   ∃t,vN (qf iS P w K mg base N qual (ao st) f cdv A outer s H E).HE (aE st) t/\t {nx:=λ_ H'=>Q .eN H',rt:=Q} (start N vs) H):cJ P w K mg iS C m ps (k+1) sp:=by
 obtain⟨f,oc,od,kV,doc,pm,an,cdv,ct,osl,a,i,l,c,kp⟩:=D.ex
 have F:Ui K m qual st f (PySem.W.fnOf m qual (aI st) (aE st) (ao st) .none kV doc pm an cdv ct):=GH l c kp
 exact⟨f,_,⟨a,i,kp⟩,hb kV doc pm an cdv ct,λbase=>F.ok S len (hbody f base)⟩
end
section
variable {X:Cx} {CX:Ds} {k:Nat} {C:Addr} {ps:List Str} {sp:Sp} {E:XK} {x m:Str} {p pos apos:Pos} {e o:Expr} {es:List Expr} {ta:TE} {t:TA}
theorem cX{pl:Sem Bool}(he:PE X o ta)(c:Dr X.K C)(F:cJ X.prog X.w X.K X.mg CX C m ps k sp)(hx:Passes CX X E)(hr:dS k X.A)(ha:PA X (e::es) t)
  (hst:starEach (e::es) X.env=(false,eval e X.env)::starEach es X.env:=by rfl)(hpl:(backTo pos (starEach es X.env)).any (·.1)=false:=by rfl)
  (ht:eval (.Call (.Attribute o m apos) (e::es) [] pos) X.env=(do let ov ←eval o X.env;standAt apos.atName;let(f,first) ←holding [ov] (getMethod ov m pl);callWith pos f first (backTo pos (starEach (e::es) X.env)) (backToKw pos (keywordEach [] X.env))):=by rfl):
  PE X (.Call (.Attribute o m apos) (e::es) [] pos) (Aa C m sp [] E ta t):=by
 obtain⟨f,fd,h1,h2,h3⟩:=F
 exact IA he c h1 (h3 X.base) hr (.all h2) .nil hx ha hst hpl ht
theorem tV{pl:Sem Bool}(he:PE X o ta)(c:Dr X.K C)(F:cJ X.prog X.w X.K X.mg CX C m ps k sp)(hx:Passes CX X E)(hr:dS k X.A)
  (ht:eval (.Call (.Attribute o m apos) [] [] pos) X.env=(do let ov ←eval o X.env;standAt apos.atName;let(f,first) ←holding [ov] (getMethod ov m pl);callWith pos f first (backTo pos (starEach [] X.env)) (backToKw pos (keywordEach [] X.env))):=by rfl):
  PE X (.Call (.Attribute o m apos) [] [] pos) (Aa C m sp [] E ta LU):=by
 obtain⟨f,fd,h1,h2,h3⟩:=F
 exact Fz he c h1 (h3 X.base) hr (.all h2) .nil hx ht
theorem wU(c:vL X.K x C)(M:MG X.K X.mg)(F:cJ X.prog X.w X.K X.mg CX C "__init__" ps k sp)(hx:Passes CX X E)(hr:dS (k+1) X.A)(hg:Gl X x)(ha:PA X (e::es) t)
  (hdb:(x==("__debug__":Str))=false:=by decide)(he:starEach (e::es) X.env=(false,eval e X.env)::starEach es X.env:=by rfl)(hpl:(backTo pos (starEach es X.env)).any (·.1)=false:=by rfl):
  PE X (.Call (.Name x p) (e::es) [] pos) (Kg C sp [] E t):=by
 obtain⟨f,fd,h1,h2,h3⟩:=F
 exact IB ⟨c.makes,h1.at_,h1.fn,c.kp⟩ (h3 X.base) hr hg (M.is _ _ c.at_) (.all h2) .nil hx ha hdb he hpl
end
section
variable {prog:Program} {w:World} {A:Around} {E:Value->Shared->Prop} {h:Heap} {g:Array GenState} {d:Drawn} {t:Nat} {os:OsState} {a C:Addr} {o:Obj} {K:Fg7} {x:Str}
end
section
variable {X:Cx}
end
section
variable {X:Cx} {K:Fg7}
theorem bx(e:X.K=K):Hv X (Mp K):=by subst e;exact a_
theorem gC(e:X.K=K):iR X (binaryOp .Add) (KY K):=by subst e;exact IK
theorem AU{es:List Expr}{k:Nat}{t:HK}{n:Nat}{pos:Pos}(e:X.K=K)(hc:X.calm=true)(h:Po X es t)(hn:(assignEach es X.env).length=n:=by rfl)(hst:(assignEach es X.env).findIdx? (·.1)=none:=by rfl):PG X (.Tuple es k pos) (SV K n t):=by
 subst e;exact My hc h hn hst
theorem ID{o:Expr}{ta:TE}{f:Str}{pos:Pos}(e:X.K=K)(he:PE X o ta)(hb:attributeBase o f X.env (eval o X.env)=eval o X.env:=by rfl):PE X (.Attribute o f pos) (HY K ta f):=by
 subst e;exact dD he hb
variable {o e:Expr} {es:List Expr} {to:TE} {t:TA} {name:Str} {apos cpos:Pos} {T id:String} {r:V->List V->Hp->VK->Prop}
end
section
variable {X:Cx} {K:Fg7}
theorem lN{its:List Value}{ns:List Int}(hi:IntsAre its ns):∃xs:Array (Int×Tok),its.toArray=intItems xs/\ns=xs.toList.map (·.1):=by
 obtain⟨xs,e⟩:=hi.allInts.items
 exact⟨xs,e,by rw[←hi.numsOf,←nums_intItems,←e]⟩
inductive KO(K:Fg7)(xs:List V)(H:Hp)(Q:VK):Prop
 |mk(p:Addr)(ns:List Int):(xs=[.ref p])->(br K H p (ns.map V.int))->(0<ns.length)->(∀M,M∈ns->(∀a∈ns,M<=a)->Q (.int M) H)->KO K xs H Q
def Wc(K:Fg7):List V->Hp->VK->Prop:=λxs H Q=>KO K xs H Q
inductive KP(K:Fg7)(xs:List V)(H:Hp)(Q:VK):Prop
 |mk(p:Addr)(ns:List Int):(xs=[.ref p])->(br K H p (ns.map V.int))->(0<ns.length)->(∀M,M∈ns->(∀a∈ns,a<=M)->Q (.int M) H)->KP K xs H Q
def Wd(K:Fg7):List V->Hp->VK->Prop:=λxs H Q=>KP K xs H Q
inductive KI(K:Fg7)(xs:List V)(H:Hp)(Q:VK):Prop
 |mk(p:Addr)(ns:List Int):(xs=[.ref p])->(br K H p (ns.map V.int))->(Q (.int ns.sum) H)->KI K xs H Q
def VZ(K:Fg7):List V->Hp->VK->Prop:=λxs H Q=>KI K xs H Q
theorem CY(hc:X.calm=true):iM X (.builtin "min") (Wc X.K):=by
 intro pins s σ H xs us Q I r h
 obtain⟨p,ns,rfl,hp,hz,q⟩:=h
 obtain⟨u,rfl,rx⟩:=vals1 r
 cases rx
 obtain⟨its,r',pl,hz'⟩:=I.list hp
 obtain⟨ys,e,hns⟩:=lN (intsAre_of r')
 have hl:=pl.isList
 rw[e]at hl
 have hsz:0<ys.size:=by rw[hns,List.length_map,Array.length_toList]at hz;exact hz
 refine min_intList (I.ok.hd hc) hl hsz λv h' tk hv hk=>?_
 obtain⟨t,rfl⟩:=intItems_at hv
 obtain⟨h1,h2⟩:=argBest_lt (numAt ys) (ys.size-1)
 refine⟨.int _,H,I.kept (t':=tk) hk,⟨t,rfl⟩,q _ ?_ λa ha=>?_⟩
 ·rw[hns,numAt_eq];exact getD_mem (by rw[List.length_map,Array.length_toList];lia)
 ·rw[hns]at ha
  obtain⟨j,hj,rfl⟩:=mem_getD ha;rw[List.length_map,Array.length_toList]at hj;rw[←numAt_eq];exact h2 j LI
theorem CZ(hc:X.calm=true):iM X (.builtin "max") (Wd X.K):=by
 intro pins s σ H xs us Q I r h
 obtain⟨p,ns,rfl,hp,hz,q⟩:=h
 obtain⟨u,rfl,rx⟩:=vals1 r
 cases rx
 obtain⟨its,r',pl,hz'⟩:=I.list hp
 obtain⟨ys,e,hns⟩:=lN (intsAre_of r')
 have hl:=pl.isList
 rw[e]at hl
 have hsz:0<ys.size:=by rw[hns,List.length_map,Array.length_toList]at hz;exact hz
 refine max_intList (I.ok.hd hc) hl hsz λv h' tk hv hk=>?_
 obtain⟨t,rfl⟩:=intItems_at hv
 obtain⟨h1,h2⟩:=argBest_gt (numAt ys) (ys.size-1)
 refine⟨.int _,H,I.kept (t':=tk) hk,⟨t,rfl⟩,q _ ?_ λa ha=>?_⟩
 ·rw[hns,numAt_eq];exact getD_mem (by rw[List.length_map,Array.length_toList];lia)
 ·rw[hns]at ha
  obtain⟨j,hj,rfl⟩:=mem_getD ha;rw[List.length_map,Array.length_toList]at hj;rw[←numAt_eq];exact h2 j LI
theorem CW(hc:X.calm=true):iM X (.builtin "sum") (VZ X.K):=by
 intro pins s σ H xs us Q I r h
 obtain⟨p,ns,rfl,hp,q⟩:=h
 obtain⟨u,rfl,rx⟩:=vals1 r
 cases rx
 obtain⟨its,r',pl,hz'⟩:=I.list hp
 obtain⟨ys,e,hns⟩:=lN (intsAre_of r')
 have hl:=pl.isList
 rw[e]at hl
 refine sum_intListG (I.ok.hd hc) hl λh' tk t' hk=>?_
 have e2:preSum (numAt ys) ys.size=ns.sum:=by rw[preSum_eq,List.take_of_length_le (by simp),hns]
 rw[e2]
 exact⟨.int _,H,I.kept (t':=tk) hk,⟨t',rfl⟩,q⟩
open Classical in
noncomputable def Pj(K:Fg7)(H:Hp)(d:Dv)(u:Value):Bool:=decide (Den K H u d)
inductive KU(K:Fg7)(neg:Bool)(x:V)(y:V)(H:Hp)(Q:VK):Prop
 |mk(p:_)(ys:_)(d:_)(ds:_):(y=.ref p)->(br K H p ys)->(Dn K H x d)->(gz K H ys ds)->((∀e∈ds,eO e d=true/\e.dep<=30))->(∀b:Bool,(b=true↔d∈ds)->Q (.bl (if neg then !b else b)) H)->KU K neg x y H Q
def QA(K:Fg7)(neg:Bool):R2:=λx y H Q=>KU K neg x y H Q
theorem ua{pins:List (Addr×Obj)}{σ:St}{H:Hp}{s:Shared}{A:Around}(I:Inv X pins σ H s)(hu:A.units+60<cLine){x:V}{v:Value}{d:Dv}(rx:RelV x v)(dx:Dn X.K H x d):∀{its:List Value}{ys:List V}{ds:List Dv},Vals ys its->gz X.K H ys ds->
  (∀e∈ds,eO e d=true/\e.dep<=30)->(∀u∈its,SeqAt.EqAt A s u v (Pj X.K H d u))/\(its.any (Pj X.K H d)=true↔d∈ds)
 |[],_,_,r,dn,hm=>by
  cases r
  cases dn
  exact⟨λu hu=>(nomatch hu),by simp⟩
 |u::us,_,_,r,dn,hm=>by
  cases r with
  | @cons y _ ys _ ru rus=>
   cases dn with
   | @cons _ _ e es dy HJ=>
    obtain⟨h1,h2⟩:=ua I hu rx dx rus HJ λe' m=>hm e' (.tail _ m)
    obtain⟨m1,m2⟩:=hm e (.head _)
    obtain⟨b,q,hb⟩:=jo I 30 (A:=A) m2 LI m1 dy dx ru rx
    have eb:Pj X.K H d u=b:=by
     rw[Bool.eq_iff_iff,hb]
     unfold Pj
     rw[@decide_eq_true_iff]
     constructor
     ·intro z;exact vm I ⟨y,ru,dy⟩ z
     ·intro z;exact z▸⟨y,ru,dy⟩
    refine⟨λu' m=>?_,?_⟩
    ·rcases List.mem_cons.mp m with rfl|m
     ·rw[eb];exact q
     ·exact h1 u' m
    ·rw[List.any_cons,Bool.or_eq_true,h2,eb,hb,List.mem_cons]
     constructor
     ·rintro(z|z)
      ·exact .inl z.symm
      ·exact .inr z
     ·rintro(z|z)
      ·exact .inl z.symm
      ·exact .inr z
theorem Cd(hu:X.A.units+64<cLine):iR X (compareOp .NotIn) (QA X.K true):=by
 intro pins s σ H x y v u Q I rx ry h
 obtain⟨p,ys,d,ds,rfl,hp,dx,dn,hm,q⟩:=h
 cases ry
 obtain⟨its,r,pl,hz⟩:=I.list hp
 obtain⟨h1,h2⟩:=ua I (A:=X.A.in1) (by rw[in1_units];lia) rx dx r dn hm
 refine SeqAt.notIn_listAt (Pj X.K H d) pl.isList (λw hw=>h1 w (by simpa using hw)) ⟨.bl (!its.toArray.any (Pj X.K H d)),H,I,rfl,q _ ?_⟩
 rw[←h2];simp
theorem yY(e:X.K=K)(hu:X.A.units+64<cLine):iR X (compareOp .NotIn) (QA K true):=by subst e;exact Cd hu
end
section
variable {X:Cx} {H:Hp}
theorem yV{K:Fg7}{its out:List Value}(p:its.Perm out):∀{ys:List V}{ds:List Dv},Vals ys its->gz K H ys ds->∃ps:List (V×Dv),ps.Perm (ys.zip ds)/\Vals (ps.map (·.1)) out/\gz K H (ps.map (·.1)) (ps.map (·.2)):=by
 have base:∀{its:List Value}{ys:List V}{ds:List Dv},Vals ys its->gz K H ys ds->(ys.zip ds).map (·.1)=ys/\(ys.zip ds).map (·.2)=ds:=λ{its ys ds} _ d=>by
  have hl:=d.length
  exact⟨List.map_fst_zip LI,List.map_snd_zip LI⟩
 induction p with
 |nil=>intro ys ds r d;exact⟨ys.zip ds,.refl _,by rw[(base r d).1];exact r,by rw[(base r d).1,(base r d).2];exact d⟩
 |cons x p ih=>
  intro ys ds r d
  cases r with
  |cons rx BW=>cases d with
   |cons dx CS=>
    obtain⟨ps,h1,h2,h3⟩:=ih BW CS
    exact⟨(_,_)::ps,h1.cons _,.cons rx h2,.cons dx h3⟩
 |swap x y l=>
  intro ys ds r d
  cases r with
  |cons rx BW=>cases BW with
   |cons ry KG=>cases d with
    |cons dx CS=>cases CS with
     |cons dy HJ=>
      have e:=base KG HJ
      refine⟨(_,_)::(_,_)::List.zip _ _,List.Perm.swap _ _ _,.cons ry (.cons rx ?_),.cons dy (.cons dx ?_)⟩
      ·show Vals (List.map _ _) _;rw[e.1];exact KG
      ·show gz K H (List.map _ _) (List.map _ _);rw[e.1,e.2];exact HJ
 |trans p1 p2 ih1 ih2=>
  intro ys ds r d
  obtain⟨ps,h1,h2,h3⟩:=ih1 r d
  obtain⟨ps',LD,h2',h3'⟩:=ih2 h2 h3
  refine⟨ps',LD.trans ?_,h2',h3'⟩
  have e:(ps.map (·.1)).zip (ps.map (·.2))=ps:=by
   clear h1 h2 h3 LD h2' h3'
   induction ps with
   |nil=>rfl
   |cons a l ih=>rw[List.map_cons,List.map_cons,List.zip_cons_cons,ih]
  rw[e]
  exact h1
inductive tT(K:Fg7)(xs:List V)(H:Hp)(Q:VK):Prop
 |mk(p:_)(ys:_)(ds:_)(sh:_):(xs=[.ref p])->(br K H p ys)->(gz K H ys ds)->((∀d∈ds,Dv.isA sh d=true))->(sh.key=true)->(sh.dep<=30)->(TS.Fits ys.length)->(∀(l:Addr)(ps:List (V×Dv)),H l=none->ps.Perm (ys.zip ds)->(ps.map (·.2)).Pairwise (λd e=>aY d e≠.gt)->Q (.ref l) (upd H l (.lst (ps.map (·.1)))))->tT K xs H Q
def Fd(K:Fg7):List V->Hp->VK->Prop:=λxs H Q=>tT K xs H Q
theorem gQ(hu:X.A.units+64<cLine):iM X (.builtin "sorted") (Fd X.K):=by
 intro pins s σ H xs us Q I r h
 obtain⟨p,ys,ds,sh,rfl,hp,dn,ha,hk,hd,hz,q⟩:=h
 obtain⟨u,rfl,rx⟩:=vals1 r
 cases rx
 obtain⟨its,r',pl,hz'⟩:=I.list hp
 have hlen:=r'.length
 have den:∀v∈its,∃d,Den X.K H v d/\Dv.isA sh d=true:=λv m=>by
  obtain⟨i,hi⟩:=List.mem_iff_getElem?.mp m
  have hy:i<ys.length:=by have:=(List.getElem?_eq_some_iff.mp hi).1;lia
  obtain⟨u,eu,ru⟩:=r'.get (List.getElem?_eq_getElem hy)
  rw[hi]at eu;cases eu
  obtain⟨d,ed,dd⟩:=dn.get' (List.getElem?_eq_getElem hy)
  exact⟨d,⟨_,ru,dd⟩,ha d (List.mem_of_getElem? ed)⟩
 refine TS.DL (κ:=sh.kind) (S:=Hu X.K H sh) (blt:=sG X.K H) (qQ I sh) pl.isList (by rw[show its.length=ys.length by lia];exact hz) (λv m=>den v m) (λh2 h' kp Q' q'=>?_) (λh2 h' kp x y Q' hx hy q'=>?_) λout p1 p2=>?_
 ·exact oJ (I.kept (t':=s.toks) kp:Inv X pins σ H {s with heap:=h'}) hk h2 den q'
 ·exact rF (I.kept (t':=s.toks) kp:Inv X pins σ H {s with heap:=h'}) hk (by rw[in1_units,in1_units];lia) hx hy q'
 ·obtain⟨ps,h3,h1,h2⟩:=yV (K:=X.K) (H:=H) p1.symm r' dn
  have hl':=dn.length
  have pw:=uQ I h1 h2 (λd m=>by
   obtain⟨x,hx,rfl⟩:=List.mem_map.mp m
   exact ha _ (List.of_mem_zip (h3.mem_iff.mp hx)).2) p2
  have hl:(ps.map (·.1)).length=ys.length:=by rw[h1.length,p1.length_eq,hlen]
  obtain⟨e,he⟩:=sortedAll_at s.heap its out.toArray
  refine⟨.ref (s.heap.objs.size+1),_,I.laid (t':=s.toks) (a:=s.heap.objs.size+1) (o:=.lst (ps.map (·.1))) (λb o q=>sortedAll_old q) (Nat.le_succ _) ?_,rfl,q _ ps (I.hok.fresh (Nat.le_succ _)) h3 pw⟩
  exact⟨by lia,out,e,h1,he⟩
end
section
variable {X:Cx}
theorem mH{k:Nat}{x:Str}{px spos:Pos}{elt tgt iter:Expr}{ifs:List Expr}{scope:Scope}{cl:List (Str×Addr)}{pos:Pos}{wi:TI}{g:TG}{tc:TT}{te:TE}{NY:List Str}{js:List (Option Nat)}(hc:X.calm=true)(hN:X.N.Nodup)(hk:X.N[k]? = some x)(hx:X.env.scope.names.lookup x=some .local)
  (hkind:scope.kind=.function)(hclos:closureFor scope X.env=pure cl)(hcl:cD X.env.cells cl)(Lz:iG X scope js NY)
  (hi:PI X tgt iter wi)
  (hb:∀pins fp C s H,PG (dP X pins NY scope cl fp C s H) tgt g/\Dg (dP X pins NY scope cl fp C s H) ifs tc/\PE (dP X pins NY scope cl fp C s H) elt te)
  (hcell:∀y∈scope.names,y.2≠.cell:=by decide)(hnames:∀y∈scope.names,y.2=.local->scope.names.lookup y.1=some .local:=by decide)
  (GC:(scope.names.all λy=> !(y.2 == .free)||(cl.lookup y.1).isSome)=true:=by first|rfl|with_unfolding_all rfl)(hs:∀x,foldedSetIterable iter X.env x=pure x:=by intro _;rfl)
  (hsw:swapsWith (.ListComp elt [⟨tgt,iter,ifs,0⟩] scope pos) (some (.Name x px)) spos.line X.env=pure true:=by with_unfolding_all rfl):
  PS X (.Assign [.Name x px] (.ListComp elt [⟨tgt,iter,ifs,0⟩] scope pos) spos) (Eb (D_ wi g tc te js) (ff k)):=by
 intro pins s σ H DD I h
 rw[exec_Assign_Name_used _ _ _ _ hsw]
 refine wpAny_bind (wpAny_standAt (wpAny_bind ?_))
 show wpAny _ X.A (do let _ ←comprehension (.ListComp elt [⟨tgt,iter,ifs,0⟩] scope pos) scope X.env _ (newList []) false (eval iter X.env) (some (assign (.Name x px) X.env))) _ _ s
 refine wpAny_bind (wpAny_mono (xU (R:=λ_ s'=>∃σ' H',Inv X pins σ' H' s'/\DD.nx σ' H') hc hkind hclos hcl Lz hi hb hcell hnames GC hs (λD C s6 H5 I7 fC hn qn=>?_) I h) (λ_ s' hq=>wpAny_pure (wpAny_pure hq)) λ_ _ e=>e)
 obtain⟨m6,oC,es6,ep6,ZR,rC⟩:=hn
 have dC:∀v,oC.data≠.cell v:=λv e=>by
  rw[rC.1]at e
  cases e
 have I8:=I7.pinned (fp:=[C]) (λb hb=>by rw[List.mem_singleton.mp hb];exact fC) (λb hb=>by rw[List.mem_singleton.mp hb];exact⟨oC,ZR,dC⟩)
 show wpAny _ X.A (assign (.Name x px) X.env (.ref D)) _ _ _
 refine wpAny_mono (aV hN hk (.inl hx) (.inr hx) (pins++kX [C] s6.heap) s6 σ H5 (.ref D) (.ref D) _ I8 rfl qn) (λ_ s9 h9=>?_) λ_ _ z=>z
 obtain⟨σ9,H9,I9,q9⟩:=h9
 obtain⟨p1,p2,p3,p4,p5⟩:=I9.pin (C,oC) (List.mem_append_right _ (List.mem_append_right _ (gi (by simp) ZR)))
 refine⟨m6,⟨oC,es6,ep6,p1,rC⟩,λh7 VJ=>?_⟩
 obtain⟨c0,c1,c2,c3,c4,c5⟩:=fC
 exact⟨σ9,H9,I9.iV.turned (t':=s9.toks) (λb o hb e=>VJ.extBut b o hb e) p2 c1 c3 c4 c5,q9⟩
end
section
variable {X:Cx} {pins:List (Addr×Obj)} {σ:St} {H:Hp} {s:Shared}
theorem IT{A:Around}{k:Nat}{F c':Addr}{nm qual x:Str}{params:Arguments}{body:Expr}{scope:Scope}{pm ctv u:Value}{v:V}{Q:VK}{te:TE}{E:Value->Shared->Prop}(I:Inv X pins σ H s)(hA:A.frames=X.A.frames)(hr:dS (k+1) A)
  (ho:s.heap.get? F=some (PySem.W.kla_obj nm qual params body scope [] pm c' ctv))(hc:s.heap.CodeRec (.ref c') qual)(hb:bindArgs (PySem.W.kla_fn nm qual params body scope [] pm (.ref c') ctv) ⟨[u],[]⟩=pure [(x,u)])
  (S:aP [x] [x] scope)(r:RelV v u)
  (hbody:∀(A:Around)(outer:List Env)(s:Shared)(H:Hp),dS k (A.deeper (envOfC qual scope s.heap.objs.size F (.ref c')))->PE (qf iS X.prog X.w X.K X.mg X.base [x] qual scope F (.ref c') A outer s H E0).HE body te)
  (h:te (start [x] [v]) H Q):wpAny (model X.prog X.w) A (call (.ref F) [u]) (EP X pins σ Q) E s:=by
 have e0:ye X.prog X.w X.K X.mg X.base A X.stack s H:=⟨hA.trans I.ok.frames,I.ok.mod,I.bs,Nat.le_trans I.ok.Hj I.sz,I.stack,I.uE,I.hok,I.bare⟩
 have run:codeAny (model X.prog X.w) A (.call (.ref F) ⟨[u],[]⟩) (CR iS X.stack X.prog X.w H s Q E0) s:=by
  have hkind:∀y∈[x].zip [u],scope.names.lookup y.1=some .local\/(scope.names.lookup y.1=some .cell/\((cellsFrom (s.heap.objs.size+1) scope.names []).lookup y.1).isSome=true):=λ⟨n,v⟩ hy=>by
   rcases S.par n (List.of_mem_zip hy).1 with q|q
   ·exact .inl q
   ·exact .inr ⟨q,PySem.W.cellsFrom_some _ _ _ (.inl q)⟩
  refine PySem.W.kla_callFunE hr.depth ho rfl S.co S.gen rfl hc ?_
  rw[hb]
  refine wpAny_pure (wpAny_newFunctionEnv_cells S.kind hkind λenv he s1 x=>?_)
  subst he
  refine⟨I.nolimit.keeps x.toInCall.keep,PySem.W.kla_codeExpr ?_⟩
  have J:Inv (qf iS X.prog X.w X.K X.mg X.base [_] qual scope F (.ref c') A X.stack s H E0) [] (start [_] [v]) H s1:=t_ S hr.hd e0 rfl (.cons r .nil) x
  refine wpAny_mono (hbody A X.stack s H (hr.deeper _) [] s1 _ H Q (J.qH _) h) (λu' s' hs=>?_) λe s' hs=>False.elim hs
  obtain⟨v',H',J',r',q'⟩:=hs
  exact⟨v',H',J'.os,J'.bare,J'.base,J'.hok,r',q'⟩
 refine wpAny_call (codeAny_mono run λr s' hq=>?_)
 cases r with
 |error e=>exact False.elim hq
 |ok fl=>
  cases fl with
  |ret u=>exact I.after hq
  |next=>exact False.elim hq
  |brk=>exact False.elim hq
  |cont=>exact False.elim hq
end
section
variable {α β:Type} {R:α->β->Prop}
theorem pO{l out:List α}(p:l.Perm out):∀{m:List β},Paired R l m->∃m':List β,m'.Perm m/\Paired R out m':=by
 induction p with
 |nil=>intro m h;cases h;exact⟨[],.refl _,.nil⟩
 |cons x p ih=>
  intro m h
  cases h with
  |cons r t=>
   obtain⟨m',p',t'⟩:=ih t
   exact⟨_::m',p'.cons _,.cons r t'⟩
 |swap x y l=>
  intro m h
  cases h with
  |cons r t=>cases t with
   |cons r' t'=>exact⟨_,List.Perm.swap _ _ _,.cons r' (.cons r t')⟩
 |trans p1 p2 ih1 ih2=>
  intro m h
  obtain⟨m1,q1,h1⟩:=ih1 h
  obtain⟨m2,q2,h2⟩:=ih2 h1
  exact⟨m2,q2.trans q1,h2⟩
theorem yX{l:List α}{m:List β}(h:Paired R l m){b:β}(hb:b∈m):∃a∈l,R a b:=by
 induction h with
 |nil=>cases hb
 |cons r t ih=>
  rcases List.mem_cons.mp hb with rfl|hb
  ·exact⟨_,.head _,r⟩
  ·obtain⟨a,h1,h2⟩:=ih hb
   exact⟨a,.tail _ h1,h2⟩
theorem Cb{S:α->α->Prop}{T:β->β->Prop}(f:∀a b a' b',R a b->R a' b'->S a a'->T b b'){l:List α}{m:List β}(h:Paired R l m)(p:l.Pairwise S):m.Pairwise T:=by
 induction h with
 |nil=>exact .nil
 |cons r t ih=>
  obtain⟨p1,p2⟩:=List.pairwise_cons.mp p
  refine List.pairwise_cons.mpr ⟨λb hb=>?_,ih p2⟩
  obtain⟨a,h1,h2⟩:=yX t hb
  exact f _ _ _ _ r h2 (p1 a h1)
end
section
variable {X:Cx} {pins:List (Addr×Obj)} {σ:St} {H:Hp} {s:Shared}
theorem Inv.scratch{b:Addr}{h':Heap}(I:Inv X pins σ H s)(f:gm X pins H b)(hs:Heap.SameBut b s.heap h'):Inv X pins σ H {s with heap:=h'}:=by
 obtain⟨c0,c1,c2,c3,c4,c5⟩:=f
 exact I.turned (t':=s.toks) (λb o hb e=>hs.extBut b o hb e) c0 c1 c3 c4 c5
theorem Ip{A:Around}{m:Sem Value}{Q:VK}{fp:List Addr}(I:Inv X pins σ H s)(hf:∀b∈fp,gm X pins H b)(ho:∀b∈fp,∃o,s.heap.get? b=some o/\∀v,o.data≠.cell v)
  (run:∀ir,Inv X ir σ H s->wpAny (model X.prog X.w) A m (EP X ir σ Q) (λ_ _=>False) s):
  wpAny (model X.prog X.w) A m (λu s'=>∃v H',Inv X pins σ H' s'/\RelV v u/\Q v H'/\∀b∈fp,s'.heap.get? b=s.heap.get? b/\gm X pins H' b) (λ_ _=>False) s:=by
 refine wpAny_mono (run _ (I.pinned hf ho)) (λu s' h=>?_) λ_ _ z=>z
 obtain⟨v,H',I',r,q⟩:=h
 refine⟨v,H',I'.iV,r,q,λb hb=>?_⟩
 obtain⟨o,e,_⟩:=ho b hb
 obtain⟨p1,p2,_⟩:=I'.pin (b,o) (List.mem_append_right _ (List.mem_append_right _ (gi hb e)))
 exact⟨p1.trans e.symm,p2,(hf b hb).2⟩
end
section
variable {X:Cx} {pins:List (Addr×Obj)} {σ:St} {H:Hp} {s:Shared} {A:Around} {a F:Addr} {fo:Obj} {vs:List Value} {ys:List V} {ds:List Dv} {sh:Sh} {n:Nat} {P:PySem.Fin->Shared->Prop} {E:Value->Shared->Prop}
def KdR(K:Fg7)(H:Hp)(p:Keyed)(q:V×Dv):Prop:=Den K H p.1 q.2/\RelV q.1 p.2
theorem Nv{K:Fg7}{kv:List V}{kl:List Value}(r:Vals kv kl):∀{ds:List Dv}{ys:List V}{vs:List Value},gz K H kv ds->Vals ys vs->kl.length=vs.length->Paired (KdR K H) (kl.zip vs) (ys.zip ds):=by
 induction r with
 |nil=>intro ds ys vs d r' h;cases r' with|nil=>exact .nil|cons _ _=>simp at h
 |cons r t ih=>
  intro ds ys vs d r' h
  cases d with
  |cons d t'=>cases r' with
   |nil=>simp at h
   |cons r' t''=>exact .cons ⟨⟨_,r,d⟩,r'⟩ (ih t' t'' (by simpa using h))
theorem IX{K:Fg7}{out:List Keyed}{ps:List (V×Dv)}(h:Paired (KdR K H) out ps):Vals (ps.map (·.1)) (out.map (·.2)):=by
 induction h with
 |nil=>exact .nil
 |cons r _ ih=>exact .cons r.2 ih
theorem Gk{kS:Addr}{e1 c:Nat}{kl:List Value}{kv:List V}{st:SortSt}{out:List Keyed}(I:Inv X pins σ H s)(fa:gm X pins H a)(fk:gm X pins H kS)(hne:kS≠a)(ha:s.heap.get? a=some (seqObj "list" #[] e1))(hk:s.heap.get? kS=some (seqObj "list" kl.toArray c))
  (rk:Vals kv kl)(dk:gz X.K H kv ds)(rv:Vals ys vs)(hlen:kl.length=vs.length)(hz:vs.length<=10000000)(hsh:∀d∈ds,Dv.isA sh d=true)
  (ea:arrOf st=out.toArray)(hf:failedOf st=none)(hp:out.Perm (kl.zip vs))(hw:out.Pairwise λx y=>sG X.K H y x=false)
  (fin:∀(ps:List (V×Dv))(out:List Value)(s':Shared)(c:Nat),Inv X pins σ H s'->s'.heap.get? a=some (seqObj "list" out.toArray c)->ps.Perm (ys.zip ds)->Vals (ps.map (·.1)) out->(ps.map (·.2)).Pairwise (λd e=>aY d e≠.gt)->P (.done (.ret .none)) s'):
  wpAny (model X.prog X.w) A (ksk_tail a false e1 (.ref kS) st) P E s:=by
 obtain⟨ps,pp,pr⟩:=pO hp.symm (Nv rk dk rv hlen)
 have lo:(out.map (·.2)).length=vs.length:=by rw[List.length_map,hp.length_eq,List.length_zip,hlen,Nat.min_self]
 have s1:=Heap.SameBut.update s.heap kS (Obj.mapSeq λ_=>(#[]:Array Value))
 have ha1:(s.heap.update kS (Obj.mapSeq λ_=>(#[]:Array Value))).get? a=some (seqObj "list" #[] e1):=(s1.2 a hne.symm).trans ha
 have s2:=Heap.SameBut.update (s.heap.update kS (Obj.mapSeq λ_=>(#[]:Array Value))) a (Obj.mapSeq λ_=>(out.map (·.2)).toArray)
 have eo:(arrOf st).map (·.2)=(out.map (·.2)).toArray:=by rw[ea,List.map_toArray]
 unfold ksk_tail
 dsimp only
 refine wpAny_bind (listUpdate_at hk rfl ?_ (by rw[List.size_toArray,sizeLine_eq];lia) (Nat.zero_le _))
 refine wpAny_bind (wpAny_letGo ?_)
 refine wpAny_bind (seqEpoch_at ha1 rfl ?_)
 simp only[Bool.false_eq_true,if_false]
 rw[eo]
 refine wpAny_bind (listUpdate_at ha1 rfl ?_ (Nat.zero_le _) (by rw[List.size_toArray,lo,sizeLine_eq];lia))
 rw[hf]
 simp only[bne_self_eq_false,Bool.false_eq_true,if_false]
 refine wpAny_pure (fin ps (out.map (·.2)) _ _ ((I.scratch fk s1).scratch fa s2) (get?_update_seq ha1 λ_=>(out.map (·.2)).toArray) pp (IX pr) ?_)
 rw[List.pairwise_map]
 have hin:∀q∈ps,Dv.isA sh q.2=true:=λq hq=>hsh _ (List.of_mem_zip (pp.mem_iff.mp hq)).2
 refine(Cb (T:=λ(p q:V×Dv)=>aY q.2 p.2≠.lt) (λx p y q hx hy h=>?_) pr hw).imp_of_mem λ{p q} hp hq h=>?_
 ·rw[jq I hy.1 hx.1]at h
  exact Je h
 ·rw[cmp_swap (hin p hp) (hin q hq)]at h
  intro z
  rw[z]at h
  exact h rfl
theorem Gn(I:Inv X pins σ H s)(ho:s.heap.get? a=some (seqObj "list" vs.toArray n))(fa:gm X pins H a)(hF:s.heap.get? F=some fo)(fF:gm X pins H F)(XQ:∀v,fo.data≠.cell v)(haF:a≠F)
  (rv:Vals ys vs)(Dy:TS.Fits vs.length)(hd:ds.length=vs.length)(hsh:∀d∈ds,Dv.isA sh d=true)(hk:sh.key=true)(Jm:sh.dep<=30)(hu:A.units+64<cLine)
  (turn:∀(i:Nat)(y:V)(u:Value)(d:Dv),ys[i]? = some y->RelV y u->ds[i]? = some d->∀(ir:List (Addr×Obj))(H':Hp)(s':Shared),Inv X ir σ H' s'->aA H H'->s'.heap.get? F=some fo->
   wpAny (model X.prog X.w) A (call (.ref F) [u]) (EP X ir σ λk HM=>aA H' HM/\Dn X.K HM k d) (λ_ _=>False) s')
  (fin:∀(ps:List (V×Dv))(out:List Value)(H':Hp)(s':Shared)(c:Nat),Inv X pins σ H' s'->aA H H'->gm X pins H' a->s'.heap.get? a=some (seqObj "list" out.toArray c)->ps.Perm (ys.zip ds)->Vals (ps.map (·.1)) out->(ps.map (·.2)).Pairwise (λd e=>aY d e≠.gt)->P (.done (.ret .none)) s'):
  wpAny (model X.prog X.w) A (ksk_tree a (.ref F) false) P E s:=by
 obtain⟨hz,hx⟩:=Dy
 have hl:vs.toArray.size<=sizeLine:=by rw[sizeLine_eq,List.size_toArray];lia
 have la:a<s.heap.objs.size:=Heap.lt_size ho
 have lF:F<s.heap.objs.size:=Heap.lt_size hF
 have Zu:=rv.length
 have s1:=Heap.SameBut.update s.heap a (Obj.mapSeq λ_=>(#[]:Array Value))
 obtain⟨e1,RY⟩:∃e1,(s.heap.update a (Obj.mapSeq λ_=>(#[]:Array Value))).get? a=some (seqObj "list" #[] e1):=⟨_,get?_update_seq ho λ_=> #[]⟩
 have hF1:(s.heap.update a (Obj.mapSeq λ_=>(#[]:Array Value))).get? F=some fo:=(s1.2 F haF.symm).trans hF
 have I1:=I.scratch fa s1
 have P_:(s.heap.update a (Obj.mapSeq λ_=>(#[]:Array Value))).objs.size=s.heap.objs.size:=Heap.size_update ..
 unfold ksk_tree
 refine wpAny_bind (listItems_at ho rfl (wpAny_bind (listUpdate_at ho rfl ?_ hl (Nat.zero_le _))))
 refine wpAny_bind (seqEpoch_at RY rfl (wpAny_bind (wpAny_newTuple ?_ (by show vs.length<=_;simpa using hl))))
 refine wpAny_bind (wpAny_newList (wpAny_holding ?_) (Nat.zero_le _))
 have I2:Inv X pins σ H {s with heap:=(s.heap.update a (Obj.mapSeq λ_=>(#[]:Array Value))).push (seqObj "tuple" vs.toArray 0)}:=I1.kept (t':=s.toks) λb u e=>Heap.get?_push_of_some _ e
 have fk:gm X pins H ((s.heap.update a (Obj.mapSeq λ_=>(#[]:Array Value))).push (seqObj "tuple" vs.toArray 0)).objs.size:=I2.rq (Nat.le_refl _) (I2.hok.fresh (Nat.le_refl _))
 have I3:Inv X pins σ H {s with heap:=((s.heap.update a (Obj.mapSeq λ_=>(#[]:Array Value))).push (seqObj "tuple" vs.toArray 0)).push (seqObj "list" #[] 0)}:=I2.kept (t':=s.toks) λb u e=>Heap.get?_push_of_some _ e
 have Si:(((s.heap.update a (Obj.mapSeq λ_=>(#[]:Array Value))).push (seqObj "tuple" vs.toArray 0)).push (seqObj "list" #[] 0)).get? ((s.heap.update a (Obj.mapSeq λ_=>(#[]:Array Value))).push (seqObj "tuple" vs.toArray 0)).objs.size=some (seqObj "list" #[] 0):=Heap.get?_push_size _ rfl
 have SO:=Heap.get?_push_of_some (seqObj "list" #[] 0) (Heap.get?_push_of_some (seqObj "tuple" vs.toArray 0) RY)
 have hF3:=Heap.get?_push_of_some (seqObj "list" #[] 0) (Heap.get?_push_of_some (seqObj "tuple" vs.toArray 0) hF1)
 have YM:((s.heap.update a (Obj.mapSeq λ_=>(#[]:Array Value))).push (seqObj "tuple" vs.toArray 0)).objs.size=s.heap.objs.size+1:=by rw[size_push',P_]
 show wpAny (model X.prog X.w) A (ksk_rest a (.ref F) false vs.toArray e1 (.ref ((s.heap.update a (Obj.mapSeq λ_=>(#[]:Array Value))).push (seqObj "tuple" vs.toArray 0)).objs.size)) P E {s with heap:=((s.heap.update a (Obj.mapSeq λ_=>(#[]:Array Value))).push (seqObj "tuple" vs.toArray 0)).push (seqObj "list" #[] 0)}
 generalize ((s.heap.update a (Obj.mapSeq λ_=>(#[]:Array Value))).push (seqObj "tuple" vs.toArray 0)).push (seqObj "list" #[] 0)=h3 at *
 generalize ((s.heap.update a (Obj.mapSeq λ_=>(#[]:Array Value))).push (seqObj "tuple" vs.toArray 0)).objs.size=kS at *
 have Zo:kS≠a:=by rw[YM];exact Nat.ne_of_gt (Nat.lt_succ_of_lt la)
 have nkF:kS≠F:=by rw[YM];exact Nat.ne_of_gt (Nat.lt_succ_of_lt lF)
 unfold ksk_rest
 refine wpAny_bind (wpAny_rule ?_)
 rw[List.forIn_toArray]
 refine wpAny_bind (ksk_fold (λi s'=>∃(H':Hp) (kl:List Value) (e:Nat) (kv:List V),Inv X pins σ H' s'/\aA H H'/\(∀b∈[a,kS,F],gm X pins H' b)/\s'.heap.get? a=some (seqObj "list" #[] e1)/\s'.heap.get? kS=some (seqObj "list" kl.toArray e)/\s'.heap.get? F=some fo/\Vals kv kl/\gz X.K H' kv (ds.take i)) vs 0 _
  ⟨H,[],0,[],I3,aA.refl _,λb hb=>?_,SO,Si,hF3,.nil,.nil⟩ ?step ?done)
 ·rcases List.mem_cons.mp hb with rfl|hb
  ·exact fa
  ·rcases List.mem_cons.mp hb with rfl|hb
   ·exact fk
   ·rw[List.mem_singleton.mp hb];exact fF
 case step=>
  rintro j u s' ZM ⟨H',kl,e,kv,I',sm,fp,ha',hk',Ph,rk,dk⟩
  simp only[Nat.zero_add]at dk ⊢
  have hj:j<vs.length:=(List.getElem?_eq_some_iff.mp ZM).1
  have hy:ys[j]? = some (ys[j]' LI):=List.getElem?_eq_getElem LI
  obtain⟨u',eu,ru⟩:=Vals.get rv hy
  rw[ZM]at eu
  cases eu
  have ZY:ds[j]? = some (ds[j]' LI):=List.getElem?_eq_getElem LI
  refine wpAny_bind (wpAny_attempt (wpAny_mono (Ip (fp:=[a,kS,F]) I' fp (λb hb=>?_) λir J=>turn j _ u _ hy ru ZY ir H' s' J sm Ph) (λk s'' h=>?_) λ_ _ z=>z.elim))
  ·rcases List.mem_cons.mp hb with rfl|hb
   ·exact⟨_,ha',λv z=>nomatch z⟩
   ·rcases List.mem_cons.mp hb with rfl|hb
    ·exact⟨_,hk',λv z=>nomatch z⟩
    ·rw[List.mem_singleton.mp hb];exact⟨_,Ph,XQ⟩
  obtain⟨kx,HM,I'',rx,⟨Qd,Yj⟩,own⟩:=h
  have Sj:=(own kS (by simp)).1.trans hk'
  have Xw:kl.length=j:=by
   have:=rk.length
   have:=dk.length
   rw[List.length_take]at this
   lia
  have s4:=Heap.SameBut.update s''.heap kS (Obj.mapSeq (·.push k))
  dsimp only
  refine wpAny_bind (listUpdate_at Sj rfl ?_ (by rw[List.size_toArray,sizeLine_eq];lia) (Nat.le_trans (Nat.le_of_eq (Array.size_push ..)) (by rw[List.size_toArray,sizeLine_eq];lia)))
  refine wpAny_pure ⟨rfl,HM,kl++[k],_,kv++[kx],I''.scratch (own kS (by simp)).2 s4,sm.trans Qd,λb hb=>(own b hb).2,(s4.2 a Zo.symm).trans ((own a (by simp)).1.trans ha'),(get?_update_seq Sj (·.push k)).trans (by rw[List.push_toArray]),(s4.2 F nkF.symm).trans ((own F (by simp)).1.trans Ph),rk.append (.cons rx .nil),?_⟩
  rw[List.take_add_one,ZY]
  exact(dk.stay Qd.stays).snoc Yj
 case done=>
  rintro s' ⟨H',kl,e,kv,I',sm,fp,ha',hk',Ph,rk,dk⟩
  have e3:ds.take (0+vs.length)=ds:=List.take_of_length_le LI
  rw[e3]at dk
  have WK:kl.length=vs.length:=by
   have:=rk.length
   have:=dk.length
   lia
  have fa':=fp a (by simp)
  have fk':=fp kS (by simp)
  have den:∀v∈kl,∃d,Den X.K H' v d/\Dv.isA sh d=true:=λv m=>by
   obtain⟨i,hi⟩:=List.mem_iff_getElem?.mp m
   have hy:i<kv.length:=by
    have:=(List.getElem?_eq_some_iff.mp hi).1
    have:=rk.length
    lia
   obtain⟨u,eu,ru⟩:=rk.get (List.getElem?_eq_getElem hy)
   rw[hi]at eu;cases eu
   obtain⟨d,ed,dd⟩:=dk.get' (List.getElem?_eq_getElem hy)
   exact⟨d,⟨_,ru,dd⟩,hsh d (List.mem_of_getElem? ed)⟩
  have ez:kl.toArray.zip vs.toArray=(kl.zip vs).toArray:=by simp
  refine wpAny_bind (listItems_at hk' rfl ?_)
  unfold ksk_end
  dsimp only
  simp only[Bool.false_eq_true,if_false]
  rw[ez]
  have tail:∀(st:SortSt)(out:List Keyed),arrOf st=out.toArray->failedOf st=none->out.Perm (kl.zip vs)->out.Pairwise (λx y=>sG X.K H' y x=false)->wpAny (model X.prog X.w) A (ksk_tail a false e1 (.ref kS) st) P E s':=λst out a1 a2 a3 a4=>
   Gk I' fa' fk' Zo ha' hk' rk dk rv WK hz hsh a1 a2 a3 a4 λps out s'' c J g p1 p2 p3=>fin ps out H' s'' c J sm fa' g p1 p2 p3
  by_cases h2:vs.toArray.size<2
  ·rw[if_pos h2,if_pos h2]
   refine wpAny_bind (wpAny_pure ?_)
   rw[StateT.run_pure]
   refine wpAny_bind (wpAny_pure ?_)
   dsimp only
   refine tail (SortSt.mk' general' (kl.zip vs).toArray #[] 7 none) (kl.zip vs) rfl rfl (.refl _) ?_
   have:(kl.zip vs).length<2:=by rw[List.length_zip,WK,Nat.min_self];simpa using h2
   match kl.zip vs,this with
   |[],_=>exact .nil
   |[_],_=>exact List.pairwise_singleton _ _
   |_::_::_,h=>simp at h;lia
  ·rw[if_neg h2,if_neg h2]
   have h2':2<=vs.length:=by simpa using h2
   refine wpAny_bind (wpAny_mono (oJ (Q:=λk s''=>k=sh.kind/\s''=s') I' hk LI den ⟨rfl,rfl⟩) ?_ λ_ _ f=>f.elim)
   rintro k s'' ⟨rfl,rfl⟩
   refine wpAny_bind (wpAny_mono (TS.Ka (E:=E) (Q:=λst s3=>s3=s''/\failedOf st=none/\∃out:List Keyed,arrOf st=out.toArray/\out.Perm (kl.zip vs)/\out.Pairwise (λx y=>sG X.K H' y x=false)) (qQ I' sh)
    (TS.Hi λx y Q hx hy q=>rF I' hk LI hx hy q) (λp hp=>den _ (List.of_mem_zip hp).1) (by rw[List.length_zip,WK,Nat.min_self];exact⟨by lia,hx⟩) λout st a1 a2 a3 a4=>⟨rfl,a2,out,a1,a3,a4⟩) ?_ λ_ _ e=>e)
   rintro⟨⟨⟩,st⟩ s3 ⟨rfl,hf,out,ea,hp,hw⟩
   dsimp only
   exact tail st out ea hf hp hw
end
section
variable {X:Cx} {pins:List (Addr×Obj)} {σ:St} {H:Hp} {s:Shared}
theorem Inv.adopt{a:Addr}{o:HO}(I:Inv X pins σ H s)(h0:X.s₀.heap.objs.size<=a)(f:gm X pins H a)(new:cC X.prog X.w (upd H a o) s.heap a o):Inv X pins σ (upd H a o) s:=by
 obtain⟨hn,hL,_,_,hc,hp⟩:=f
 have ne:∀{b:Addr}{u:HO},H b=some u->b≠a:=λe=>av e hn
 have old:∀{b:Addr}{u:Obj},X.s₀.heap.get? b=some u->b≠a:=λe=>Nat.ne_of_lt (Nat.lt_of_lt_of_le (Heap.lt_size e) h0)
 refine⟨I.ok,I.os,I.bare,⟨I.base.keep,I.base.slot,λb u e n hx=>?_,I.base.there,λb xs q=>?_,λb u v q=>?_,λb ps q=>?_⟩,I.loc,I.cell,by rw[ai hL.symm];exact I.free,λx c e=>by rw[ai (hc x c e)];exact I.gK x c e,λq hq=>?_,λb u e=>?_,I.len⟩
 ·rw[ai (old e)];exact I.base.free b u e n hx
 ·have:=I.base.tups b xs q
  rw[ai (ne this)];exact this
 ·have:=I.base.mZ b u v q
  rw[ai (ne this)];exact this
 ·obtain⟨m,e⟩:=I.base.qK b ps q
  exact⟨m,by rw[ai (ne e)];exact e⟩
 ·obtain⟨e,n,r⟩:=I.pin q hq
  exact⟨e,by rw[ai (hp q hq)];exact n,r⟩
 ·by_cases hb:b=a
  ·subst hb
   rw[af]at e;cases e
   exact new
  ·rw[ai hb]at e
   exact(I.hok b u e).stay (λc v _ q=>q) (λc q=>by rw[ai (ne q)];exact q) λc xs q=>by rw[ai (ne q)];exact q
theorem zl{l F:Addr}{fo:Obj}{ys:List V}{ds:List Dv}{sh:Sh}{Q:VK}{E:Value->Shared->Prop}(I:Inv X pins σ H s)(hl:br X.K H l ys)(hF:s.heap.get? F=some fo)(fF:gm X pins H F)(XQ:∀v,fo.data≠.cell v)
  (Dy:TS.Fits ys.length)(hd:ds.length=ys.length)(hsh:∀d∈ds,Dv.isA sh d=true)(hk:sh.key=true)(Jm:sh.dep<=30)(hu:X.A.units+70<cLine)
  (turn:∀(i:Nat)(y:V)(u:Value)(d:Dv),ys[i]? = some y->RelV y u->ds[i]? = some d->∀(ir:List (Addr×Obj))(H':Hp)(s':Shared),Inv X ir σ H' s'->aA H H'->s'.heap.get? F=some fo->
   wpAny (model X.prog X.w) X.A.in1.in1 (call (.ref F) [u]) (EP X ir σ λk HM=>aA H' HM/\Dn X.K HM k d) (λ_ _=>False) s')
  (q:∀(L:Addr)(ps:List (V×Dv))(H':Hp),aA H H'->H L=none->H' L=some (.lst (ps.map (·.1)))->ps.Perm (ys.zip ds)->(ps.map (·.2)).Pairwise (λd e=>aY d e≠.gt)->Q (.ref L) H'):
  wpAny (model X.prog X.w) X.A (call (.builtin "sorted") [.ref l] [(Str.ofString "key",.ref F)]) (EP X pins σ Q) E s:=by
 obtain⟨vs,rv,pl,hz'⟩:=I.list hl
 have Zu:=rv.length
 have hz:=Dy.1
 have lO:vs.length<=sizeLine:=by rw[sizeLine_eq];lia
 refine call_function_entry_kw kind_sorted plain_sorted entry_sorted (ksk_s1 _ _) ?_
 unfold Builtin.«sorted»
 refine wpAny_bind (m:=checkCount "sorted" 1 1 _) (wpAny_pure (wpAny_bind (collect_list pl.isList (wpAny_bind (wpAny_newList ?_ lO)) lO)))
 have sz:((s.heap.push (seqObj "list" #[] 0)).update s.heap.objs.size (Obj.mapSeq (· ++ vs.toArray))).objs.size=s.heap.objs.size+1:=by rw[Heap.size_update,size_push']
 have GA:(((s.heap.push (seqObj "list" #[] 0)).update s.heap.objs.size (Obj.mapSeq (· ++ vs.toArray))).push (seqObj "list" vs.toArray 0)).get? (s.heap.objs.size+1)=some (seqObj "list" vs.toArray 0):=by rw[←sz];exact Heap.get?_push_size _ rfl
 have keep:∀b o,s.heap.get? b=some o->(((s.heap.push (seqObj "list" #[] 0)).update s.heap.objs.size (Obj.mapSeq (· ++ vs.toArray))).push (seqObj "list" vs.toArray 0)).get? b=some o:=λb o q=>by
  have lt:b<s.heap.objs.size:=Heap.lt_size q
  refine Heap.get?_push_of_some _ ?_
  rw[Heap.get?_update_ne _ _ _ _ (Nat.ne_of_lt lt)];exact Heap.get?_push_of_some _ q
 show wpAny _ _ _ _ _ {s with heap:=((s.heap.push (seqObj "list" #[] 0)).update s.heap.objs.size (Obj.mapSeq (· ++ vs.toArray))).push (seqObj "list" vs.toArray 0)}
 rw[sz]
 have I1:Inv X pins σ H {s with heap:=((s.heap.push (seqObj "list" #[] 0)).update s.heap.objs.size (Obj.mapSeq (· ++ vs.toArray))).push (seqObj "list" vs.toArray 0)}:=I.kept (t':=s.toks) keep
 have fL:gm X pins H (s.heap.objs.size+1):=I.rq (Nat.le_succ _) (I.hok.fresh (Nat.le_succ _))
 have lF:F<s.heap.objs.size:=Heap.lt_size hF
 refine wpAny_bind (wpAny_holding (wpAny_call_entry_kw slot_list_sort ⟨_,GA,rfl⟩ entry_list_sort ?body (ksk_l1 _ _)))
 case body=>
  show wpAny (model X.prog X.w) X.A.in1.in1 (Builtin.«list.sort» ⟨[.ref (s.heap.objs.size+1)],[(Str.ofString "key",.ref F)]⟩) _ _ _
  rw[ksk_t1]
  refine Gn I1 GA fL (keep _ _ hF) fF XQ (Nat.ne_of_gt (Nat.lt_succ_of_lt lF)) rv (by rw[←Zu];exact Dy) LI hsh hk Jm (by rw[in1_units,in1_units];lia) turn λps out H' s' c J sm f g p1 p2 p3=>⟨_,rfl,wpAny_pure ⟨_,rfl,?_⟩⟩
  refine⟨.ref (s.heap.objs.size+1),upd H' (s.heap.objs.size+1) (.lst (ps.map (·.1))),J.adopt (Nat.le_trans I.sz (Nat.le_succ _)) f ?_,rfl,q _ ps _ (sm.trans (aA.new f.1)) fL.1 af p1 p3⟩
  refine⟨?_,out,c,p2,g⟩
  rw[List.length_map,p1.length_eq,List.length_zip,sizeLine_eq]
  lia
def bV(H:Hp)(P:Addr)(pos:Pos)(qual:Str):Prop:=H P=some (.pY #[])\/∃(c':Addr) (oc:Obj) (vs:Array Value) (t:Tok),H P=some (.pY #[rawInt pos.line,rawInt pos.col,.ref c'])/\H c'=some (.e_ oc (.ext λ_=>True))/\oc.data=.fields vs/\vs[1]? = some (.str qual t)
def eK(K:Fg7)(mg:Str->Option Value)(H:Hp):Prop:=∃(bm:Addr) (ob:Obj),mg "__builtins__"=some (.ref bm)/\bm≠builtinsNs/\(K.lookup bm=some ob\/H bm=some (.e_ ob (.ext λ_=>True)))/\ob.cls=.type "module"/\ob.dict=some builtinsNs/\ob.data=.plain
def gM(H H':Hp)(P:Addr):Prop:=∀b o,H b=some o->b≠P->H' b=some o
theorem Gf{params:Arguments}{body:Expr}{scope:Scope}{pos:Pos}{qual:Str}{fl:Nat}{c P:Addr}{Q:Value->Shared->Prop}{E:Value->Shared->Prop}(I:Inv X pins σ H s)(hcl:closureFor scope X.env=pure [])(hge:X.env.globals=mainGlobals)(hcode:X.env.code=.ref c)(hd:PySem.W.codeHdIn X.K c P=true)
  (hb:eK X.K X.mg H)(T:bV H P pos qual)
  (h:∀(F c':Addr)(oc:Obj)(vs:Array Value)(t:Tok)(pm ctv:Value)(H':Hp)(s':Shared),Inv X pins σ H' s'->gM H H' P->H' P=some (.pY #[rawInt pos.line,rawInt pos.col,.ref c'])->H' c'=some (.e_ oc (.ext λ_=>True))->oc.data=.fields vs->vs[1]? = some (.str qual t)->
   s'.heap.get? F=some (PySem.W.kla_obj "<lambda>" qual params body scope [] pm c' ctv)->gm X pins H' F->Q (.ref F) s'):
  wpAny (model X.prog X.w) X.A (makeFunction "<lambda>" qual params (.expr body) scope X.env [] [] [] pos fl) Q E s:=by
 have hg:s.heap.Ns mainGlobals X.mg:=I.mod.glob.keeps I.bk
 have hC:PySem.W.CodeHd s.heap c P:=PySem.W.codeHd_of_K I.mX hd
 obtain⟨bm,ob,b1,b2,b3,b4,b5,b6⟩:=hb
 have TU:s.heap.get? bm=some ob:=by
  rcases b3 with z|z
  ·exact I.mX _ _ z
  ·exact(I.hok _ _ z).1
 have Kd:∀{ps:Array Value},s.heap.get? P=some (PySem.W.tabObj ps)->mainGlobals≠P/\s.heap.BuiltinsAt X.mg P:=λ{ps} hP=>by
  refine⟨λq=>?_,bm,ob,b1,b2,λq=>?_,λq=>?_,TU,b4,b5,b6⟩
  ·obtain⟨o,es,ep,e,hd,_⟩:=hg
   rw[q,hP]at e;cases e;cases hd
  ·obtain⟨o,es,ep,e,hd,_⟩:=hg
   rw[q,e]at TU;cases TU;rw[hd]at b6;cases b6
  ·rw[q,hP]at TU;cases TU;cases b4
 rcases T with hP|⟨c',oc,vs,t,hP,hc',hv,hv1⟩
 ·have SQ:s.heap.get? P=some (PySem.W.tabObj #[]):=I.hok _ _ hP
  obtain⟨n1,n2⟩:=Kd SQ
  refine PySem.W.kla_makeFunction (mg:=X.mg) hcl hge hg hcode hC SQ trivial rfl n1 n2 λc' ctv h' tk hx Jj hlt hrec htb=>?_
  obtain⟨c₂,oc,vs,t,e2,hoc,hv,hv1⟩:=hrec
  cases e2
  have hf':H c'=none:=I.hok.fresh Jj
  have ZZ:c'≠P:=λz=>by rw[z,hP]at hf';cases hf'
  have nP:∀{b:Addr},H b=none->b≠P:=λe z=>by rw[z,hP]at e;cases e
  have nC:∀{b:Addr}{u:HO},H b=some u->b≠c':=λe z=>by rw[z,hf']at e;cases e
  have lC:∀{b:Addr}{o:Obj},s.heap.get? b=some o->b≠c':=λe=>Nat.ne_of_lt (Nat.lt_of_lt_of_le (Heap.lt_size e) Jj)
  have fF:gm X pins H h'.objs.size:=I.rq (Nat.le_of_lt (Nat.lt_of_le_of_lt Jj hlt)) (I.hok.fresh (Nat.le_of_lt (Nat.lt_of_le_of_lt Jj hlt)))
  have nFP:h'.objs.size≠P:=nP fF.1
  have J:Inv X pins σ (upd (upd H P (.pY #[rawInt pos.line,rawInt pos.col,.ref c'])) c' (.e_ oc (.ext λ_=>True))) {s with heap:=h'.push (PySem.W.kla_obj "<lambda>" qual params body scope [] ((X.mg "__name__").getD .none) c' ctv),toks:=tk}:=by
   refine I.step (g':=s.gens) (d':=s.drawn) (ch:=[]) (λb hb=>by cases hb) (λb o _ _ _ e n=>Heap.get?_push_of_some _ (hx b o (nP n) e)) (λb o _ _ _ e n=>⟨o.slots,Heap.get?_push_of_some _ (hx b o (nP n) e)⟩) (λb o _ e n=>by rw[ai (lC e),ai (nP n)];exact n)
    (λb o _ e=>?_) (λb xs e=>?_) (λb o u e=>?_) (λb ps e=>?_) (λm hm=>?_) (λb u e=>?_) I.bare
   ·by_cases hb:b=P
    ·subst hb;exact⟨_,Heap.get?_push_of_some _ htb⟩
    ·exact⟨o,Heap.get?_push_of_some _ (hx b o hb e)⟩
   ·rw[ai (nC e),ai (λz=>by rw[z,hP]at e;cases e)];exact e
   ·rw[ai (nC e),ai (λz=>by rw[z,hP]at e;cases e)];exact e
   ·by_cases hb:b=P
    ·subst hb
     rw[hP]at e;cases e
     exact⟨#[rawInt pos.line,rawInt pos.col,.ref c'],by rw[ai ZZ.symm,af];simp⟩
    ·exact⟨#[],by rw[ai (nC e),ai hb,e];simp⟩
   ·exact(hm.extBut hx (nP I.free)).push _
   ·by_cases hb:b=c'
    ·subst hb
     rw[af]at e;cases e
     exact⟨Heap.get?_push_of_some _ hoc,trivial,⟨_,Heap.get?_push_of_some _ hoc⟩,λ_ _ _ _=>trivial⟩
    ·rw[ai hb]at e
     by_cases hb':b=P
     ·subst hb'
      rw[af]at e;cases e
      exact Heap.get?_push_of_some _ htb
     ·rw[ai hb']at e
      refine(I.hok b u e).stay (λd v hw q=>Heap.get?_push_of_some _ (hx d v (λzP=>by subst zP;rcases hw with z|z;exact hb' z.symm;rw[hP]at z;cases z) q)) (λd q=>?_) λd xs q=>?_
      ·rw[ai (nC q),ai (λz=>by rw[z,hP]at q;cases q)];exact q
      ·rw[ai (nC q),ai (λz=>by rw[z,hP]at q;cases q)];exact q
  refine h h'.objs.size c' oc vs t _ ctv _ _ J (λb o e n=>?_) ?_ af hv hv1 (Heap.get?_push_size _ rfl) ⟨?_,fF.2⟩
  ·rw[ai (nC e),ai n];exact e
  ·rw[ai ZZ.symm,af]
  ·rw[ai (Nat.ne_of_gt hlt),ai nFP];exact fF.1
 ·have SQ:s.heap.get? P=some (PySem.W.tabObj #[rawInt pos.line,rawInt pos.col,.ref c']):=I.hok _ _ hP
  obtain⟨n1,n2⟩:=Kd SQ
  refine PySem.W.kla_makeFunctionHit (mg:=X.mg) (cv:=.ref c') hcl hge hg hcode hC SQ ?_ ?_ n2 λctv h' tk hk hsz=>?_
  ·exact trivial
  ·show codeAmong pos [.int pos.line 0,.int pos.col 0,.ref c']=_
   simp[codeAmong]
  ·have J:Inv X pins σ H {s with heap:=h'.push (PySem.W.kla_obj "<lambda>" qual params body scope [] ((X.mg "__name__").getD .none) c' ctv),toks:=tk}:=I.kept (t':=tk) λb u e=>Heap.get?_push_of_some _ (hk b u e)
   exact h h'.objs.size c' oc vs t _ ctv H _ J (λ_ _ e _=>e) hP hc' hv hv1 (Heap.get?_push_size _ rfl) (I.rq hsz (I.hok.fresh hsz))
end
section
variable {X:Cx}
theorem gM.seq{K:Fg7}{H H':Hp}{P p:Addr}{ps:Array Value}{xs:List V}(k:gM H H' P)(hP:H P=some (.pY ps))(h:br K H p xs):br K H' p xs:=by
 have ne:∀{u:HO},H p=some u->(∀ps,u≠.pY ps)->p≠P:=λe n z=>by rw[z,hP]at e;exact n _ (Option.some.inj e).symm
 rcases h with(h|⟨o,h⟩)|h
 ·exact .inl (.inl (k _ _ h (ne h λ_ z=>nomatch z)))
 ·exact .inl (.inr ⟨o,k _ _ h (ne h λ_ z=>nomatch z)⟩)
 ·exact .inr h
theorem gM.trans{H H1 H2:Hp}{P:Addr}(a:gM H H1 P)(b:gM H1 H2 P):gM H H2 P:=λc o e n=>b c o (a c o e n) n
theorem aA.Li{H H':Hp}{P:Addr}(s:aA H H'):gM H H' P:=λb o e _=>s b o e
inductive pK(K:Fg7)(mg:Str->Option Value)(P:Addr)(xB:Pos)(qual:Str)(x:Str)(te:TE)(Q:VK)(v:V)(H1:Hp):Prop
 |mk(p:Addr)(ys:List V)(ds:List Dv)(sh:Sh):(v=.ref p)->(br K H1 p ys)->(bV H1 P xB qual)->(eK K mg H1)->(TS.Fits ys.length)->(ds.length=ys.length)->((∀d∈ds,Dv.isA sh d=true))->(sh.key=true)->(sh.dep<=30)->((∀(i:Nat)(y:V)(d:Dv)(H':Hp),ys[i]? = some y->ds[i]? = some d->gM H1 H' P->te (start [x] [y]) H' λk HM=>aA H' HM/\Dn K HM k d))->(∀(L:Addr)(ps:List (V×Dv))(H':Hp),gM H1 H' P->bV H' P xB qual->H1 L=none->H' L=some (.lst (ps.map (·.1)))->ps.Perm (ys.zip ds)->(ps.map (·.2)).Pairwise (λd e=>aY d e≠.gt)->Q (.ref L) H')->pK K mg P xB qual x te Q v H1
def yE(K:Fg7)(mg:Str->Option Value)(P:Addr)(xB:Pos)(qual x:Str)(te tl:TE):TE:=λσ H Q=>tl σ H λv H1=>pK K mg P xB qual x te Q v H1
theorem uR{c P:Addr}{x:Str}{e:Expr}{params:Arguments}{body:Expr}{scope:Scope}{xB p pos kpos:Pos}{te tl:TE}(hu:X.A.units+70<cLine)(hr:dS 3 X.A)(hg:Gl X "sorted")(hm:X.mg "sorted"=none)(he:PE X e tl)
  (hcl:closureFor scope X.env=pure [])(hge:X.env.globals=mainGlobals)(hcode:X.env.code=.ref c)(hd:PySem.W.codeHdIn X.K c P=true)(hdef:defaultsOf params X.env=([],[]))
  (hbind:∀(pm ctv u:Value)(c':Addr),bindArgs (PySem.W.kla_fn "<lambda>" (X.env.qual++"<lambda>") params body scope [] pm (.ref c') ctv) ⟨[u],[]⟩=pure [(x,u)])(S:aP [x] [x] scope)
  (hbody:∀(F c':Addr)(A:Around)(outer:List Env)(s:Shared)(H:Hp),PE (qf iS X.prog X.w X.K X.mg X.base [x] (X.env.qual++"<lambda>") scope F (.ref c') A outer s H E0).HE body te)
  (hs:starEach [e] X.env=[(false,eval e X.env)]:=by rfl):
  PE X (.Call (.Name "sorted" p) [e] [⟨some (Str.ofString "key"),.Lambda params body scope xB,kpos⟩] pos) (yE X.K X.mg P xB (X.env.qual++"<lambda>") x te tl):=by
 intro pins s σ H Q I h
 refine wpAny_Call_Name_kw (jn I hg hm gY ?_ (by decide) (by decide))
 refine callWith_kw ?_ (by rw[hs];rfl) (by rw[hs];rfl) rfl rfl
 rw[hs]
 show wpAny _ _ (spliced ((false,eval e X.env)::backTo pos [])) _ _ s
 refine Calls.spliced_cons (dI (he pins s σ H _ I h) λu s1 ⟨v,H1,I1,r1,q1⟩=>Calls.spliced_nil ?_)
 obtain⟨l,ys,ds,sh,rfl,hl,hT,hB,hz,hdl,hsh,hkey,Jm,turn,q⟩:=q1
 cases r1
 refine evalAll_cons (wpAny_bind (PySem.W.kla_eval hdef (Gf I1 hcl hge hcode hd hB hT λF c' oc vs tq pm ctv H2 s2 I2 k2 LC hc2 hv hv1 hF fF=>wpAny_bind (wpAny_standAt (wpAny_pure (wpAny_pure ?_))))))
 show wpAny _ _ (call (.builtin "sorted") [.ref l] [(Str.ofString "key",.ref F)]) _ _ s2
 obtain⟨YW,hP1⟩:∃YW,H1 P=some (.pY YW):=by
  rcases hT with z|⟨_,_,_,_,z,_⟩
  ·exact⟨_,z⟩
  ·exact⟨_,z⟩
 refine zl I2 (k2.seq hP1 hl) hF fF (λ_ z=>nomatch z) hz hdl hsh hkey Jm hu (λi y u d hy ry hdi ir H' s' J sm Ph=>?_) λL ps H' sm hL hL' p1 p2=>?_
 ·have hcr:s'.heap.CodeRec (.ref c') (X.env.qual++"<lambda>"):=⟨c',oc,vs,tq,rfl,(J.hok _ _ (sm _ _ hc2)).1,hv,hv1⟩
  exact IT (k:=0) J rfl hr.in1.in1 Ph hcr (hbind _ _ _ _) S ry (λA outer s H _=>hbody F c' A outer s H) (turn i y d H' hy hdi (k2.trans sm.Li))
 ·refine q L ps H' (k2.trans sm.Li) (.inr ⟨c',oc,vs,tq,sm _ _ LC,sm _ _ hc2,hv,hv1⟩) ?_ hL' p1 p2
  cases e1:H1 L with
  |none=>rfl
  |some o=>
   by_cases hLP:L=P
   ·rw[hLP,LC]at hL;cases hL
   ·rw[k2 L o e1 hLP]at hL;cases hL
end
section
variable {X:Cx}
inductive EK(t:TS)(D:Ends)(σ:St)(H:Hp):Prop
 |mk(d:_)(u:_):(H d=some u)->(FO u)->(t {D with nx:=λσ' H'=>∃o,H' d=some (.e_ o u)/\D.nx σ' (upd H' d u)} σ H)->EK t D σ H
def Qq(t:TS):TS:=λD σ H=>EK t D σ H
theorem Iv{st:Stmt}{t:TS}(h:PS X st t):PS X st (Qq t):=by
 intro pins s σ H D I hq
 obtain⟨d,u,hd,hn,q⟩:=hq
 refine wpAny_mono (h pins s σ H _ I q) (λf s1 hs=>?_) λ_ _ z=>z
 cases f with
 |next=>
  obtain⟨σ',H',I',o,e1,q1⟩:=hs
  refine⟨σ',_,I'.PJ e1 λo' u' z=>?_,q1⟩
  have:=I.base.mZ d o' u' z
  rw[hd]at this;cases this
  exact hn
 |brk=>exact hs
 |cont=>exact hs
 |ret v=>exact hs
end
structure gS(K:Fg7)(C:Addr)(m qual:Str)(st:Stmt)(Pt:Addr):Prop where
 ex:∃(f:Addr) (oc:Value) (od:Option Addr) (kV doc pm:Value) (an:Option Addr) (c:Addr) (ct:Value) (osl:Array (Option Value)),
  PySem.W.findIn K (.ref C) m=some (some (.ref f))/\PySem.W.isFn K (.ref f)=true/\K.lookup f=some ⟨oc,od,.func (PySem.W.fnOf m qual (aI st) (aE st) (ao st) .none kV doc pm an (.ref c) ct),osl⟩/\PySem.W.codeIn K (.ref c) qual=true/\PySem.W.keepIn K (.ref f)=true/\PySem.W.codeHdIn K c Pt=true
theorem gS.mk'{K:Fg7}{C Pt:Addr}{m qual:Str}{st:Stmt}{f:Addr}{oc:Value}{od:Option Addr}{kV doc pm:Value}{an:Option Addr}{c:Addr}{ct:Value}{osl:Array (Option Value)}(a:PySem.W.findIn K (.ref C) m=some (some (.ref f)))(i:PySem.W.isFn K (.ref f)=true)
  (l:K.lookup f=some ⟨oc,od,.func (PySem.W.fnOf m qual (aI st) (aE st) (ao st) .none kV doc pm an (.ref c) ct),osl⟩)(c':PySem.W.codeIn K (.ref c) qual=true)(k:PySem.W.keepIn K (.ref f)=true)(t:PySem.W.codeHdIn K c Pt=true):gS K C m qual st Pt:=⟨⟨f,oc,od,kV,doc,pm,an,c,ct,osl,a,i,l,c',k,t⟩⟩
theorem gS.code{K:Fg7}{C Pt:Addr}{m qual:Str}{st:Stmt}(D:gS K C m qual st Pt):∃c,PySem.W.codeHdIn K c Pt=true:=by
 obtain⟨f,oc,od,kV,doc,pm,an,c,ct,osl,a,i,l,c',kp,t⟩:=D.ex
 exact⟨c,t⟩
section
variable {P:Program} {w:World} {K:Fg7} {mg:Str->Option Value} {C Pt:Addr} {m:Str} {ps:List Str} {k:Nat} {sp:Sp}
theorem gS.fn{qual:Str}{st:Stmt}{N:List Str}(D:gS K C m qual st Pt)(S:aP N ps (ao st))
  (hb:∀(kV doc pm:Value)(an:Option Addr)(cdv ct:Value)(us:List Value),us.length=ps.length->bindArgs (PySem.W.fnOf m qual (aI st) (aE st) (ao st) .none kV doc pm an cdv ct) ⟨us,[]⟩=pure (ps.zip us))
  (len:∀vs H Q E,sp vs H Q E->vs.length=ps.length)
  (hbody:∀(f c:Addr)(base:Heap)(A:Around)(outer:List Env)(s:Shared)(H:Hp)(vs:List V)(Q:VK)(E:XK),PySem.W.codeHdIn K c Pt=true->dS k (A.deeper (envOfC qual (ao st) s.heap.objs.size f (.ref c)))->sp vs H Q E->
   ∃t,vN (qf iS P w K mg base N qual (ao st) f (.ref c) A outer s H E).HE (aE st) t/\t {nx:=λ_ H'=>Q .eN H',rt:=Q} (start N vs) H):cJ P w K mg iS C m ps (k+1) sp:=by
 obtain⟨f,oc,od,kV,doc,pm,an,c,ct,osl,a,i,l,c',kp,t⟩:=D.ex
 refine⟨f,_,⟨a,i,kp⟩,hb kV doc pm an (.ref c) ct,λbase=>LH l c' S len λA outer s H vs Q E hr yp=>?_⟩
 obtain⟨t',h,q⟩:=hbody f c base A outer s H vs Q E t hr yp
 exact⟨t',h.HE,q⟩
end
theorem Cw{P:Program}{w:World}{K:Fg7}{mg mb:Str->Option Value}{k:Nat}{fa a Pt c:Addr}{fd:FuncData}{x:Str}{sp:Sp}{s₁:Shared}{vs:List Value}{ns:List Int}
  (KX:K.In s₁.heap)(hns:s₁.heap.Ns mainGlobals mg)(hb:s₁.heap.Ns builtinsNs mb)(XM:∀x:Str,x≠"__name__"->mb x=bootBuiltins x)(hlim:s₁.heap.NoLimit)(hg:s₁.gens= #[])
  (hbm:∃bm ob,mg "__builtins__"=some (.ref bm)/\bm≠builtinsNs/\s₁.heap.get? bm=some ob/\ob.cls=.type "module"/\ob.dict=some builtinsNs/\ob.data=.plain)
  (hT:s₁.heap.get? Pt=some (PySem.W.tabObj #[]))(KT:K.lookup Pt=none)(hcd:PySem.W.codeHdIn K c Pt=true)
  (ha:s₁.heap.get? a=some {cls:=.type "list",data:=.seq vs.toArray})(hi:IntsAre vs ns)(hl:ns.length<=sizeLine)(hr:dS k callerA)
  (F:∀base:Heap,nB P w K mg base iS k fa fd [x] sp)(hbind:∀(s:Shared)(u:Value),BindsTo s fd ⟨[u],[]⟩ [(x,u)])
  (yp:∀H:Hp,br K H a (ns.map V.int)->H Pt=some (.pY #[])->eK K mg H->sp [.ref a] H (λv _=>v=.bl true) λ_ _ _=>False):
  codeAny (model P w) callerA (.call (.ref fa) ⟨[.ref a],[]⟩) (λr s'=>r=.ok (.ret (.bool true))/\OldK s₁.heap s'.heap/\s'.os=s₁.os/\AllBare s'.gens) s₁:=by
 have rv:=sW hi
 have WM:=hi.length
 obtain⟨bm,ob,b1,b2,b3,b4,b5,b6⟩:=hbm
 have naP:a≠Pt:=λz=>by rw[z,hT]at ha;cases ha
 have nab:a≠bm:=λz=>by rw[z,b3]at ha;cases ha;cases b6
 have nbP:bm≠Pt:=λz=>by rw[z,hT]at b3;cases b3;cases b6
 obtain⟨H,hH,hS,hP,hB⟩:∃H:Hp,(∀b u,H b=some u->K.lookup b=none/\((b=a/\u=.e_ {cls:=.type "list",data:=.seq vs.toArray} (.lst (ns.map V.int)))\/(b=Pt/\u=.pY #[])\/(b=bm/\u=.e_ ob (.ext λ_=>True))))/\br K H a (ns.map V.int)/\H Pt=some (.pY #[])/\eK K mg H:=by
  refine⟨λb=>if b=Pt then some (.pY #[])else if b=a then(match K.lookup a with|none=>some (.e_ {cls:=.type "list",data:=.seq vs.toArray} (.lst (ns.map V.int)))|some _=>none)else if b=bm then(match K.lookup bm with|none=>some (.e_ ob (.ext λ_=>True))|some _=>none)else none,λb u e=>?_,?_,if_pos rfl,bm,ob,b1,b2,?_,b4,b5,b6⟩
  ·dsimp only at e
   split at e
   ·rename_i hb;subst hb;cases e;exact⟨KT,.inr (.inl ⟨rfl,rfl⟩)⟩
   ·split at e
    ·rename_i hb;subst hb
     split at e
     ·rename_i hk;cases e;exact⟨hk,.inl ⟨rfl,rfl⟩⟩
     ·cases e
    ·split at e
     ·rename_i hb;subst hb
      split at e
      ·rename_i hk;cases e;exact⟨hk,.inr (.inr ⟨rfl,rfl⟩)⟩
      ·cases e
     ·cases e
  ·cases hk:K.lookup a with
   |some o=>
    have e:=KX a o hk
    rw[ha]at e
    cases e
    exact .inr ⟨_,vs.toArray,_,hk,rfl,rfl,rfl,by rw[List.size_toArray,WM];exact hl,by simpa using rv⟩
   |none=>
    refine .inl (.inr ⟨{cls:=.type "list",data:=.seq vs.toArray},?_⟩)
    dsimp only
    rw[if_neg naP,if_pos rfl]
  ·cases hk:K.lookup bm with
   |some o=>
    have e:=KX bm o hk
    rw[b3]at e
    cases e
    exact .inl rfl
   |none=>
    refine .inr ?_
    dsimp only
    rw[if_neg nbP,if_neg nab.symm,if_pos rfl]
 have hok:lU P w H s₁.heap:=λb u e=>by
  obtain⟨_,h⟩:=hH b u e
  rcases h with⟨rfl,rfl⟩|⟨rfl,rfl⟩|⟨rfl,rfl⟩
  ·exact⟨ha,by rw[List.length_map];exact hl,vs,_,rv,ha⟩
  ·exact hT
  ·exact⟨b3,trivial,⟨_,b3⟩,λ_ _ _ _=>trivial⟩
 have Bx:∀{b:Addr}{o:Obj},s₁.heap.get? b=some o->H b=none->(ve s₁.heap H).get? b=some o:=λe n=>GB e n
 have QN:∀{b:Addr}{o:Obj}{es:Array DictEntry}{ep:Nat},s₁.heap.get? b=some o->o.data=.dict es ep->H b=none:=λ{b o es ep} e d=>by
  cases q:H b with
  |none=>rfl
  |some u=>
   obtain⟨_,h⟩:=hH b u q
   rcases h with⟨rfl,rfl⟩|⟨rfl,rfl⟩|⟨rfl,rfl⟩
   ·rw[ha]at e;cases e;cases d
   ·rw[hT]at e;cases e;cases d
   ·rw[b3]at e;cases e;rw[b6]at d;cases d
 have Wk:∀{b:Addr}{m:Str->Option Value},s₁.heap.Ns b m->(ve s₁.heap H).Ns b m:=λ{b m} ⟨o,es,ep,e,d,r⟩=>⟨o,es,ep,Bx e (QN e d),d,r⟩
 have hKb:K.In (ve s₁.heap H):=λb o e=>Bx (KX b o e) (by
  cases q:H b with
  |none=>rfl
  |some u=>
   have z:=(hH b u q).1
   have e':K.lookup b=some o:=e
   rw[z]at e';cases e')
 have hM:Mod K mg (ve s₁.heap H):=⟨hKb,Wk hns,⟨mb,Wk hb,XM⟩,let⟨mc,h1,h2⟩:=hlim;⟨mc,Wk h1,h2⟩⟩
 have e0:ye P w K mg (ve s₁.heap H) callerA [] s₁ H:=⟨rfl,hM,λb o e=>IL e,Nat.le_of_eq (CJ _ _),trivial,λb hb=>absurd (show b∈([]:List Addr)from hb) (by simp),hok,.of_eq hg⟩
 refine codeAny_mono ((F _).run callerA [] s₁ H ⟨[.ref a],[]⟩ [.ref a] [.ref a] _ _ hr e0 (hbind s₁ (.ref a)) (.cons rfl .nil) (yp H hS hP hB)) λr s' h=>?_
 cases r with
 |error e=>exact False.elim h
 |ok fl=>
  cases fl with
  |next=>exact False.elim h
  |brk=>exact False.elim h
  |cont=>exact False.elim h
  |ret u=>
   obtain⟨v,H',os,bare,un,ND,r',q⟩:=h
   have q':v=.bl true:=q
   subst q'
   obtain rfl:u=Value.bool true:=r'
   have isT:isCodeTable s₁.heap Pt:=by
    obtain⟨o,vs,_,_,_,_,_,_,_,h1,h2,h3,h4,_⟩:=PySem.W.codeHd_of_K KX hcd
    exact⟨c,o,vs,h1,h2,h3,h4⟩
   refine⟨rfl,⟨λb o e=>?_,λb o e=>un.there b o e (by simp)⟩,os,bare⟩
   cases q:H b with
   |none=>exact .inl (un.keep b o e q (by intro z;exact absurd (show b∈([]:List Addr)from z) (by simp)) (by simp))
   |some u=>
    obtain⟨_,z⟩:=hH b u q
    rcases z with⟨rfl,rfl⟩|⟨rfl,rfl⟩|⟨rfl,rfl⟩
    ·have e2:=(ND _ _ (un.mZ _ _ _ q)).1
     rw[ha]at e;cases e
     exact .inl e2
    ·obtain⟨more,e2⟩:=un.qK _ _ q
     have e3:s'.heap.get? b=some {cls:=.none,data:=.fields (#[]++more)}:=ND _ _ e2
     rw[hT]at e;cases e
     exact .inr (.inl ⟨isT,rfl,#[],more,rfl,e3⟩)
    ·have e2:=(ND _ _ (un.mZ _ _ _ q)).1
     rw[b3]at e;cases e
     exact .inl e2
theorem Pz{l:PySem.W.OpenLaw}{q:Program}{loose:List Str}{XP:(Str->Option Value)->Heap->Prop}{YP:World->Heap->Prop}{d:DefRec}{K:Params->Fg7}{x:Str}(k:Nat)(Pt:Addr)(hk:dS k callerA)
  (hn:l.most=some 63)(hdf:d.params.defaults=[])
  (hY:∀(w:World)(h:Heap),YP w h->(K w.params).In h/\h.get? Pt=some (PySem.W.tabObj #[]))
  (sp:Fg7->(Str->Option Value)->Sp)(yp:∀(K:Fg7)(mg:Str->Option Value)(H:Hp)(a:Addr)(ns:List Int),ns.length<=63->br K H a (ns.map V.int)->H Pt=some (.pY #[])->eK K mg H->sp K mg [.ref a] H (λv _=>v=.bl true) λ_ _ _=>False)
  (F:∀(w:World)(mg:Str->Option Value),MG (K w.params) mg->(K w.params).lookup Pt=none/\(∃c,PySem.W.codeHdIn (K w.params) c Pt=true)/\ef l.prog w (K w.params) mg d.name [x] k (sp (K w.params) mg)):
  PySem.W.WalkO q loose XP YP l.row.toRowW d [] (λf vs=>PySem.call f vs):=by
 refine Att.x_ hn hdf λw s₀ s₁ mg mb fa o pm cd doc a vs ns G Y ho hd hcd hmg hobj hints hlen hg=>?_
 obtain⟨KX,hT⟩:=hY w _ Y
 have M:MG (K w.params) mg:=⟨λy v e=>PySem.W.mg_of KX G.T.g e,λy e=>PySem.W.mg_none_of KX G.T.g e⟩
 obtain⟨KT,⟨c,hc⟩,f,fd,h1,h2,h3,h4⟩:=F w mg M
 have e:=hmg.symm.trans h1
 cases e
 exact Cw KX G.T.g G.T.b G.T.builtins G.T.nolimit hg G.T.bmain hT KT hc hobj hints (Nat.le_trans hlen (by decide)) hk h4 (λs u=>.of_eq (h3 [u] rfl)) λH hS hP hB=>yp (K w.params) mg H a ns hlen hS hP hB
theorem oG{us:List Value}(h:us.length=1):∃a,us=[a]:=by
 cases us with
 |nil=>cases h
 |cons a r=>cases r with
  |nil=>exact⟨a,rfl⟩
  |cons b r=>cases h
theorem MU{us:List Value}{n:Nat}(h:us.length=n+1):∃a r,us=a::r/\r.length=n:=by
 cases us with
 |nil=>cases h
 |cons a r=>exact⟨a,r,rfl,Nat.succ.inj h⟩
theorem iz{us:List Value}(h:us.length=2):∃a b,us=[a,b]:=by
 obtain⟨a,r,rfl,g⟩:=MU h
 obtain⟨b,rfl⟩:=oG g
 exact⟨a,b,rfl⟩
theorem IQ{us:List Value}(h:us.length=3):∃a b c,us=[a,b,c]:=by
 obtain⟨a,r,rfl,g⟩:=MU h
 obtain⟨b,c,rfl⟩:=iz g
 exact⟨a,b,c,rfl⟩
theorem Rn{us:List Value}(h:us.length=4):∃a b c d,us=[a,b,c,d]:=by
 obtain⟨a,r,rfl,g⟩:=MU h
 obtain⟨b,c,d,rfl⟩:=IQ g
 exact⟨a,b,c,d,rfl⟩
theorem bY{a b:TS}{D:Ends}{σ:St}{H:Hp}(h:∀B:TS,B=b->a {D with nx:=λσ' H'=>B D σ' H'} σ H):PR a b D σ H:=h b rfl
section
variable {X:Cx}
end
end L2
namespace HT
open PySem PyProof.Rows
section
open PySem.SeqAt
open PySem.AutoSeq1 (wpAny_loadPart')
open PySem.MeetsSeq PySem.MeetsSeq2 PySem.MeetsSeq3
end
end HT
namespace L2
open PySem PySem.Spec PyProof.Rows
section
variable {X:Cx} {pins:List (Addr×Obj)} {σ:St} {H:Hp} {s:Shared}
theorem EY{α:Type}(a:Array α):∀(n:Nat)(b:Array α),((List.replicate n a).foldl (· ++ ·) b).size=b.size+n*a.size:=by
 intro n
 induction n with
 |zero=>intro b;simp
 |succ n ih=>
  intro b
  rw[List.replicate_succ,List.foldl_cons,ih,Array.size_append,Nat.succ_mul]
  lia
inductive Ff(x:V)(y:V)(H:Hp)(Q:VK):Prop
 |mk(z:_)(n:_):(x=.str z)->(y=.int n)->(0<=n)->(n<=1000)->(0<z.length)->(z.length<=1000)->(∀z':Str,z'.length<=1000000->Q (.str z') H)->Ff x y H Q
def Qx:R2:=λx y H Q=>Ff x y H Q
theorem AX:iR X (binaryOp .Mult) Qx:=by
 intro pins s σ H x y v u Q I rx ry h
 obtain⟨z,n,rfl,rfl,h1,h2,h3,h4,q⟩:=h
 obtain⟨t,rfl⟩:=rx
 obtain⟨t',rfl⟩:=ry
 have sl:=sizeLine_eq
 refine PySem.P.mul_str ?_ (λg1 _=>?_) (λ_ _=>?_) ?_
 ·simp;lia
 ·have hm:(z.length:Int)*n<=1000*1000:=Int.mul_le_mul LI h2 LI (by decide)
  exact Int.not_lt.mpr (Int.le_ediv_of_mul_le LI LI)
 ·have hm:z.length*n.toNat<=1000*1000:=Nat.mul_le_mul h4 LI
  show decide (z.length*n.toNat>sizeLine)=false
  exact decide_eq_false LI
 ·by_cases g1:n<1
  ·rw[if_pos g1]
   exact⟨by decide,.str _,H,I.tok _,⟨_,rfl⟩,q _ (by decide)⟩
  ·rw[if_neg g1]
   by_cases g2:(n==1||z.length==0)=true
   ·rw[if_pos g2]
    exact⟨.str _,H,I,⟨_,rfl⟩,q _ LI⟩
   ·rw[if_neg g2]
    have hs:(⟨(List.replicate n.toNat z.cps).foldl (· ++ ·) #[]⟩:Str).length<=1000000:=by
     show((List.replicate n.toNat z.cps).foldl (· ++ ·) #[]).size<=_
     rw[EY]
     have:n.toNat*z.cps.size<=1000*1000:=Nat.mul_le_mul LI h4
     simpa using this
    exact⟨by lia,.str _,H,I.tok _,⟨_,rfl⟩,q _ hs⟩
end
open PySem PySem.Spec PyProof.Rows PySem.Builtin PySem.Builtin.Str
section
variable {X:Cx}
theorem BF:∀l:List (Str×Tok),Vals ((l.map (·.1)).map V.str) (strValues l):=by
 intro l
 induction l with
 |nil=>exact .nil
 |cons p l ih=>exact .cons ⟨p.2,rfl⟩ ih
end
section
variable {X:Cx} {tg:Expr}
end
section
variable {X:Cx} {body s1 s2:List Stmt} {b1 b2:Stmt} {th1 th2:TS} {tE:XK->TS} {x1 x2:Str} {C1 C2:Addr} {np1 np2 pos hp1 hp2:Pos}
end
section
variable {X:Cx} {pins:List (Addr×Obj)} {σ:St} {H H':Hp} {s:Shared} {a:Addr} {C:Value} {B h6:Heap}
end
section
variable {P:Program} {w:World} {K:Fg7} {mg:Str->Option Value} {base:Heap} {N:List Str} {qual:Str} {scope:Scope} {f:Addr} {cd:Value} {A:Around} {outer:List Env} {s:Shared} {H:Hp} {E:XK}
end
section
variable {M:Model} {A:Around} {E:Value->Shared->Prop} {s:Shared} {env:Env}
end
section
variable {X:Cx} {pins YZ:List (Addr×Obj)} {σ σ1:St} {H3 H1 H':Hp} {s3 t1 yP:Shared} {a:Addr} {Cc:Value} {fp:List Addr} {NY:List Str} {scope:Scope} {cl:List (Str×Addr)} {E:XK} {Q:Value->Shared->Prop} {acc:Value}
end
section
variable {X:Cx}
end
section
variable {X:Cx} {o e:Expr} {apos cpos:Pos} {td ty:TE} {a:Addr}
end
end L2
namespace TX
open PySem PyProof.Rows
section
variable {prog:Program} {w:World} {A:Around} {E:Value->Shared->Prop} {s:Shared}
def ent(w:World)(p:Str×Tok):Int×Value:=(hashStr w p.1,.str p.1 p.2)
def kJ(ts:List Str)(z:Str):List Str:=if z∈ts then ts else ts++[z]
def jd(w:World)(h:Heap)(a:Addr)(ts:List Str)(b:Bool):Prop:=
 ∃(o:Obj) (es:Array (Int×Value)) (ep:Nat) (t:SetTable) (l:List (Str×Tok)),h.get? a=some o/\o.ExactSet/\o.data=.set es ep t/\es.toList.Perm (l.map (ent w))/\l.map (·.1)=ts/\
  ts.length<scanBound/\t.fits es.size=true/\t.led=b/\(0<ts.length->t.plain=false)
theorem jd.move{h h':Heap}{a:Addr}{ts:List Str}{b:Bool}(x:jd w h a ts b)(k:∀o,h.get? a=some o->h'.get? a=some o):jd w h' a ts b:=
 let⟨o,es,ep,t,l,ho,r⟩:=x;⟨o,es,ep,t,l,k o ho,r⟩
theorem GP{es:Array (Int×Value)}{l:List (Str×Tok)}(p:es.toList.Perm (l.map (ent w))):ElemsOf (strKind prog w) es.toList:=λe he=>by
 obtain⟨q,_,rfl⟩:=List.mem_map.mp (p.mem_iff.mp he)
 exact⟨⟨q.1,strKind_is prog w q.1 q.2,rfl⟩,rfl⟩
theorem mem_of{es:Array (Int×Value)}{l:List (Str×Tok)}(p:es.toList.Perm (l.map (ent w)))(z:Str):(∃e∈es.toList,(strKind prog w).is z e.2=true)↔z∈l.map (·.1):=by
 constructor
 ·rintro⟨e,he,hz⟩
  obtain⟨q,hq,rfl⟩:=List.mem_map.mp (p.mem_iff.mp he)
  obtain rfl:z=q.1:=(strKind prog w).inj _ z q.1 hz (strKind_is prog w q.1 q.2)
  exact List.mem_map.mpr ⟨q,hq,rfl⟩
 ·intro hz
  obtain⟨q,hq,rfl⟩:=List.mem_map.mp hz
  exact⟨_,p.mem_iff.mpr (List.mem_map.mpr ⟨q,hq,rfl⟩),strKind_is prog w q.1 q.2⟩
theorem size_of{es:Array (Int×Value)}{l:List (Str×Tok)}(p:es.toList.Perm (l.map (ent w))):es.size=l.length:=by
 rw[←Array.length_toList,p.length_eq,List.length_map]
theorem MD(t:SetTable)(n:Nat):(t.orStandIn n).led=t.led/\(t.plain=false->(t.orStandIn n).plain=false):=by
 unfold SetTable.orStandIn
 split
 ·exact⟨rfl,id⟩
 ·exact⟨rfl,λ_=>rfl⟩
theorem IS(t:SetTable)(es:Array (Int×Value))(h:Int)(x:Value):(layNew t es h x).2.1.led=t.led:=by
 unfold layNew
 split
 ·exact(MD _ _).1
 ·rfl
theorem BY(t:SetTable)(es:Array (Int×Value))(n:Nat):(relayAll t es n).2.1.led=t.led/\(t.plain=false->(relayAll t es n).2.1.plain=false):=by
 unfold relayAll
 split
 ·rename_i t' order q
  have e:t'.led=t.led/\t'.plain=t.plain:=by
   unfold SetTable.relaid SetTable.laid at q
   cases hL:SetTable.layClean (SetTable.sizeAbove n-1) (es.map (·.1))with
   |none=>rw[hL]at q;cases q
   |some ow=>
    rw[hL]at q
    have q':=(Prod.mk.inj (Option.some.inj q)).1
    rw[←q']
    exact⟨rfl,rfl⟩
  dsimp only
  split
  ·exact⟨e.1,λz=>e.2.trans z⟩
  ·exact⟨rfl,λ_=>rfl⟩
 ·exact⟨rfl,λ_=>rfl⟩
theorem Fp{h:Heap}{a:Addr}{o:Obj}{es fs:Array (Int×Value)}{ep:Nat}{t u:SetTable}(ho:h.get? a=some o)(hd:o.data=.set es ep t):
  (h.update a (Obj.putSet fs u)).get? a=some {o with data:=.set fs (ep+1) u}:=by
 have e:=putSet_of fs u hd
 rw[Heap.get?_update_self (Obj.putSet fs u) ho (by rw[e];rfl),e]
theorem DP{g:Bool->Sem Unit}(hg:∀(b:Bool)(s':Shared)(R:Unit->Shared->Prop),R () s'->wpAny (model prog w) A (g b) R E s'){a:Addr}{o:Obj}{es fs:Array (Int×Value)}{ep:Nat}{t u:SetTable}{l:List (Str×Tok)}{ts:List Str}{b wd:Bool}
  (ho:s.heap.get? a=some o)(hex:o.ExactSet)(hd:o.data=.set es ep t)(hp:fs.toList.Perm (l.map (ent w)))(hts:l.map (·.1)=ts)(hb:ts.length<scanBound)(hf:u.fits fs.size=true)(hl:u.led=b)(hpl:u.plain=false)
  {R:Option Bool->Shared->Prop}(h:∀h',Heap.SameBut a s.heap h'->jd w h' a ts b->R (some true) {s with heap:=h'}):
  wpAny (model prog w) A (do
    storeSet a fs u
    if(!wd&&u.tooFull)=true then do
      g (relayAll u fs (SetTable.grown fs.size)).2.2
      storeSet a (relayAll u fs (SetTable.grown fs.size)).1 (relayAll u fs (SetTable.grown fs.size)).2.1
      pure (some true)
     else pure (some true)) R E s:=by
 have hz:=size_of hp
 have hz':fs.size<scanBound:=by rw[hz,←List.length_map (as:=l) (·.1),hts];exact hb
 refine wpAny_bind (wpAny_storeSet_of ho hd ?_ (fits_of_scanBound hz'))
 have h1:=Fp (fs:=fs) (u:=u) ho hd
 have s1:=Heap.SameBut.update s.heap a (Obj.putSet fs u)
 split
 ·have q1:=relayAll_perm u fs (SetTable.grown fs.size)
  have q2:=relayAll_fits u fs (SetTable.grown fs.size)
  obtain⟨q3,q4⟩:=BY u fs (SetTable.grown fs.size)
  generalize relayAll u fs (SetTable.grown fs.size)=rl at q1 q2 q3 q4 ⊢
  obtain⟨gs,v,gv⟩:=rl
  dsimp only at q1 q2 q3 q4 ⊢
  have hz2:gs.size=fs.size:=by rw[←Array.length_toList,q1.length_eq,Array.length_toList]
  refine wpAny_bind (hg _ _ _ (wpAny_bind (wpAny_storeSet_of h1 rfl ?_ (fits_of_scanBound (by rw[hz2];exact hz')))))
  exact wpAny_pure (h _ (s1.trans (Heap.SameBut.update _ a _)) ⟨_,gs,_,v,l,Fp h1 rfl,hex,rfl,q1.trans hp,hts,hb,q2,q3.trans hl,λ_=>q4 hpl⟩)
 ·exact wpAny_pure (h _ s1 ⟨_,fs,_,u,l,h1,hex,rfl,hp,hts,hb,hf,hl,λ_=>hpl⟩)
theorem OH{a:Addr}{ts:List Str}{b:Bool}{z:Str}{tk:Tok}{Q:Bool->Shared->Prop}(hS:jd w s.heap a ts b)(hr:ts.length+1<scanBound)
  (h:∀h' r,Heap.SameBut a s.heap h'->jd w h' a (kJ ts z) b->Q r {s with heap:=h'}):wpAny (model prog w) A (setAddHashed a (.str z tk) (hashStr w z)) Q E s:=by
 obtain⟨o,es,ep,t,l,ho,hex,hd,hp,hts,hb,hf,hl,hpl⟩:=hS
 have hz:=size_of hp
 have hlt:l.length=ts.length:=by rw[←hts,List.length_map]
 have hel:ElemsOf (strKind prog w) es.toList:=GP hp
 have hk:=strKind_is prog w z tk
 unfold setAddHashed setAddHashedIn
 refine wpAny_holding (wpAny_bind (wpAny_setState_of ho hd hf ?_))
 dsimp only
 rw[byScan_of (knd:=strKind prog w) rfl LI hel]
 simp only[↓reduceIte]
 unfold setAddByScan
 refine wpAny_bind (wpAny_bind (wpAny_rule (wpAny_bind (wpAny_setScan_of (knd:=strKind prog w) (k:=z) hk ho hd hf hel ?_))))
 cases hq:List.findIdx? (λe=>(strKind prog w).is z e.2) es.toList with
 |some j=>
  dsimp only
  obtain⟨hj,hpj,_⟩:=List.findIdx?_eq_some_iff_getElem.mp hq
  have hm:z∈ts:=by rw[←hts];exact(mem_of (prog:=prog) hp z).mp ⟨es.toList[j],List.getElem_mem hj,hpj⟩
  refine wpAny_pure (wpAny_pure ?_)
  have:=h s.heap false (Heap.SameBut.refl a s.heap)
  rw[show kJ ts z=ts from if_pos hm]at this
  exact this ⟨o,es,ep,t,l,ho,hex,hd,hp,hts,hb,hf,hl,hpl⟩
 |none=>
  dsimp only
  have hm:z∉ts:=λhm=>by
   rw[←hts]at hm
   obtain⟨e,he,sE⟩:=(mem_of (prog:=prog) hp z).mpr hm
   have:=List.findIdx?_eq_none_iff.mp hq e he
   rw[sE]at this;cases this
  have q1:=layNew_perm t es (hashStr w z) (.str z tk)
  have q2:=layNew_fits t es (hashStr w z) (.str z tk)
  have q3:=IS t es (hashStr w z) (.str z tk)
  generalize layNew t es (hashStr w z) (.str z tk)=lw at q1 q2 q3 ⊢
  obtain⟨fs,u,wd,gv⟩:=lw
  dsimp only at q1 q2 q3 ⊢
  rw[Array.toList_push]at q1
  have hp2:fs.toList.Perm ((l++[(z,tk)]).map (ent w)):=by
   rw[List.map_append]
   exact q1.trans (hp.append_right _)
  have UM:(l++[(z,tk)]).map (·.1)=kJ ts z:=by
   rw[List.map_append,hts]
   exact(if_neg hm).symm
  have hb2:(kJ ts z).length<scanBound:=by
   rw[show kJ ts z=ts++[z]from if_neg hm,List.length_append]
   simpa using hr
  have hgw:∀(b:Bool)(s':Shared)(R:Unit->Shared->Prop),R () s'->wpAny (model prog w) A (match b with|true=>rule "set.scan.the-table-gave-way"|false=>pure ()) R E s':=
   λb s' R q=>by cases b<;>first|exact wpAny_pure q|exact wpAny_rule q
  refine wpAny_bind (hgw _ _ _ ?_)
  split
  ·refine wpAny_bind ?_
   rw[hashByValue_scannable 8 rfl]
   refine wpAny_pure ?_
   simp only[plainKind,Bool.false_eq_true,if_false]
   refine DP ?_ ho hex hd hp2 UM hb2 (SetTable.fits_plain_off q2) (q3.trans hl) rfl ?_
   ·intro b s' R q;cases b<;>first|exact wpAny_pure q|exact wpAny_rule q
   ·intro h' sb hS';exact wpAny_pure (h h' true sb hS')
  ·rename_i hpu
   refine wpAny_bind (wpAny_pure ?_)
   simp only[↓reduceIte]
   refine DP ?_ ho hex hd hp2 UM hb2 q2 (q3.trans hl) (by simpa using hpu) ?_
   ·intro b s' R q;cases b<;>first|exact wpAny_pure q|exact wpAny_rule q
   ·intro h' sb hS';exact wpAny_pure (h h' true sb hS')
end
section
variable {prog:Program} {w:World} {A:Around} {E:Value->Shared->Prop} {s:Shared}
def kj(w:World):Bool:= !(w.params.followText "set-order")
abbrev uI(b:Bool):Obj:={cls:=.type "set",dict:=none,data:=.set #[] 0 (.fresh 0 0 b)}
theorem QT(v:Value){R:Value->Shared->Prop}(h:R (.ref s.heap.objs.size) {s with heap:=s.heap.push (uI (kj w))}):
  codeAny (model prog w) A (.call (.builtin "set.__new__") ⟨[.type "set",v],[]⟩) (wants R E) s:=by
 refine codeAny_of_tree (show wpAny _ A.in1 (do checkBuiltinCall "set.__new__" ⟨[.type "set",v],[]⟩;again (.builtin "set.__new__" ⟨[.type "set",v],[]⟩)) _ _ s from ?_)
 refine wpAny_bind (wpAny_of_eq (F.newCall_set_1 v) (wpAny_pure ⟨plainId_quiet F.plain_set_new _,codeAny_builtin F.entry_set_new ?_⟩));rw[Around.under_plainId F.plain_set_new _]
 unfold Builtin.«set.__new__» Builtin.Frozenset.newClass;have hsub:=sub_set_self
 obtain⟨hp,g,d,tk,os⟩:=s
 dsimp only;wp_walk;refine wpAny_askSetting (wpAny_pure ?_);dsimp only;simp only[newObj]
 exact wpAny_bind (wpAny_alloc (wpAny_pure (wpAny_pure h)))
def fc(zs:List Str):List Str:=zs.foldl kJ []
theorem Hq(ts:List Str)(z:Str):(kJ ts z).length<=ts.length+1:=by unfold kJ;split<;>simp
theorem xP(zs:List Str)(z:Str):fc (zs++[z])=kJ (fc zs) z:=by unfold fc;rw[List.foldl_append];rfl
theorem lP(zs:List Str):(fc zs).length<=zs.length:=by
 have:∀(zs ts:List Str),(zs.foldl kJ ts).length<=ts.length+zs.length:=λzs=>by
  induction zs with
  |nil=>intro ts;simp
  |cons z zs ih=>
   intro ts
   have h1:=ih (kJ ts z)
   have h2:=Hq ts z
   rw[List.foldl_cons,List.length_cons]
   lia
 simpa [fc]using this zs []
theorem zu{zs:List Str}{z:Str}:z∈fc zs↔z∈zs:=by
 have key:∀(zs ts:List Str),z∈zs.foldl kJ ts↔z∈ts\/z∈zs:=λzs=>by
  induction zs with
  |nil=>intro ts;simp
  |cons y zs ih=>
   intro ts
   rw[List.foldl_cons,ih]
   have:z∈kJ ts y↔z∈ts\/z=y:=by
    unfold kJ
    split
    ·rename_i hy
     exact⟨.inl,λq=>q.elim id λe=>e▸hy⟩
    ·simp
   rw[this,List.mem_cons,or_assoc]
 simpa [fc]using key zs []
theorem vj(zs:List Str):(fc zs).Nodup:=by
 have key:∀(zs ts:List Str),ts.Nodup->(zs.foldl kJ ts).Nodup:=λzs=>by
  induction zs with
  |nil=>intro ts h;exact h
  |cons y zs ih=>
   intro ts h
   refine ih _ ?_
   unfold kJ
   split
   ·exact h
   ·rename_i hy
    refine List.nodup_append.mpr ⟨h,List.nodup_cons.mpr ⟨by simp,.nil⟩,λa ha b hb e=>hy ?_⟩
    rw[List.mem_singleton]at hb
    rw[←hb,←e];exact ha
 exact key zs [] .nil
section
variable {R:Result->Shared->Prop} {I:Addr} {fp wr:List Addr} {G:Array GenState->Array GenState->Prop} {n:Nat} {P:Nat->Value->Prop} {St:Nat->Shared->Prop}
theorem MS(W:WalksS prog w A.in1 I fp wr G n P St)(S:Addr)(hSf:S∉fp)(zs:List Str)(b:Bool)(hval:∀i v,P i v->∃z t,zs[i]? = some z/\v=.str z t)(WZ:zs.length=n)(hb:n+1<scanBound):
  ∀(k i:Nat)(s:Shared),n-i=k->i<=n->St i s->jd w s.heap S (fc (zs.take i)) b->(∀s',Moved (S::wr) G s s'->jd w s'.heap S (fc zs) b->R (.ok (.ret .none)) s')->
   codeAny (model prog w) A (.builtin "set.update.loop" ⟨[.ref S,.ref I],[]⟩) R s:=by
 have hSw:S∉wr:=λq=>hSf (W.sub _ q)
 have hsub:∀c∈wr,c∈S::wr:=λc q=>List.mem_cons_of_mem _ q
 intro k
 induction k with
 |zero=>
  intro i s hk hi hst hS hR
  obtain rfl:i=n:=by lia
  refine codeAny_builtin F.entry_set_update_loop ?_;rw[Around.under_plainId F.plain_set_update_loop _]
  refine(show wpAny _ A.in1 (pyNext (.ref I) >>= _) _ _ s from wpAny_bind (W.done s _ _ hst λs' hm=>?_))
  rw[←WZ,List.take_length]at hS
  exact(show wpAny _ A.in1 (ret Value.none) _ _ s' from wpAny_pure (hR s' (hm.mono hsub) (hS.move λo e=>hm.heap S _ hSw e)))
 |succ k ih=>
  intro i s hk hi hst hS hR
  have hlt:i<n:=by lia
  refine codeAny_builtin F.entry_set_update_loop ?_;rw[Around.under_plainId F.plain_set_update_loop _]
  refine(show wpAny _ A.in1 (pyNext (.ref I) >>= _) _ _ s from wpAny_bind (W.item i s _ _ hlt hst λv s' hP Xe hm=>?_))
  obtain⟨z,t,hz,rfl⟩:=hval i v hP
  have hS':jd w s'.heap S (fc (zs.take i)) b:=hS.move λo e=>hm.heap S _ hSw e
  refine(show wpAny _ A.in1 (holding [Value.str z t] (setAdd S (.str z t)) >>= _) _ _ s' from wpAny_bind (wpAny_holding ?_))
  unfold setAdd
  refine wpAny_holding (wpAny_bind ((strKind prog w).pyHash (k:=z) (strKind_is prog w z t) ?_))
  have hroom:(fc (zs.take i)).length+1<scanBound:=by
   have h1:=lP (zs.take i)
   have h2:(zs.take i).length<=i:=by rw[List.length_take];lia
   lia
  refine OH (s:={s' with toks:=s'.toks+1}) hS' hroom λh' r UN US=>?_
  have hSi:jd w h' S (fc (zs.take (i+1))) b:=by
   rw[List.take_add_one,hz]
   show jd w h' S (fc (zs.take i++[z])) b
   rw[xP];exact US
  refine wpAny_pure ⟨plainId_quiet F.plain_set_update_loop _,ih (i+1) _ LI hlt (W.frame _ s' _ _ Xe (Nat.le_succ _) λc hc o e=>?_) hSi λs'' Xq XO=>hR s'' (Moved.trans W.gtrans ((hm.mono hsub).then_heap (Nat.le_succ _) λc o hc e=>?_) Xq) XO⟩
  ·rw[UN.2 c (λq:c=S=>hSf (by rw[←q];exact hc))];exact e
  ·rw[UN.2 c (λq:c=S=>hc (by rw[q];exact List.mem_cons_self))];exact e
end
set_option maxHeartbeats 3200000 in
theorem zB{l:Addr}{us:List Value}{zs:List Str}{Q:Value->Shared->Prop}(hh:A.handled=none)(hl:s.heap.IsList l us.toArray)(hi:∀(i:Nat)(v:Value),us[i]? = some v->∃z t,zs[i]? = some z/\v=.str z t)(WZ:zs.length=us.length)(hb:us.length+1<scanBound)
  (h:∀(h':Heap)(tk:Nat),jd w h' s.heap.objs.size (fc zs) (kj w)->(∀c o,c<s.heap.objs.size->s.heap.get? c=some o->h'.get? c=some o)->Q (.ref s.heap.objs.size) {s with heap:=h',toks:=tk}):
  wpAny (model prog w) A (call (.type "set") [.ref l]) Q E s:=by
 obtain⟨c,tl,ace⟩:=F.called_set.mro
 have hmade:=F.called_set.made
 have hsub:=F.called_set.sub
 refine wpAny_call (codeAny_of_tree (show wpAny _ _ (callAny (.type "set") _) _ _ _ from ?_))
 refine wpAny_pure ⟨Code.quiet_builtin _ DK,codeAny_builtin F.entry_type_call ?_⟩;rw[Around.under_plain (weight_type_call_type "set" [.ref l] []) rfl]
 have h1:=F.called_set.notType
 have h2:=F.called_set.canCreate
 have hct:=F.typeCall_set_1 (.ref l)
 repeat (any_goals (first|assumption|wp_step))
 refine codeAny_mono (QT (.ref l) (E:=E) (R:=λob s₁=>ob=.ref s.heap.objs.size/\s₁={s with heap:=s.heap.push (uI (kj w))}) ⟨rfl,rfl⟩) λr s₁ hr=>?_
 cases r with
 |error e=>exact hr
 |ok fl=>
  cases fl with
  |ret ob=>
   obtain⟨rfl,rfl⟩:=hr
   have hS:(s.heap.push (uI (kj w))).get? s.heap.objs.size=some (uI (kj w)):=Heap.get?_push_size _ rfl
   have hT:Shared.TypeIs {s with heap:=s.heap.push (uI (kj w))} (.ref s.heap.objs.size) "set":=⟨_,hS,rfl⟩
   have hli:=F.called_set.init.lookup
   have hbi:=F.called_set.init.bind (.ref s.heap.objs.size)
   repeat (any_goals (first|assumption|wp_step))
   refine codeAny_mono (codeAny_call_builtin (R:=wants (λr s₂=>r=.none/\∃h' tk,s₂={s with heap:=h',toks:=tk}/\jd w h' s.heap.objs.size (fc zs) (kj w)/\(∀c o,c<s.heap.objs.size->s.heap.get? c=some o->h'.get? c=some o)) E) F.called_set.init.plain F.entry_set_init (check_set_init_1 hT ?_)) λr₂ s₂ Xg=>?_
   ·obtain⟨ol,RX,hcl,nl,hdl⟩:=hl
    obtain⟨abf,QI,Zf,MC⟩:=ol
    simp only at hcl hdl;subst hcl;subst hdl
    have Xk:(s.heap.push (uI (kj w))).get? l=some {cls:=.type "list",dict:=QI,data:=.seq us.toArray nl,slots:=MC}:=Heap.get?_push_of_some _ RX
    have ab4:=F.sub_list_set
    have ab5:=F.sub_list_frozenset
    have hne:(Value.type "list"==Value.type "dict")=false:=by decide
    have hl1:(s.heap.push (uI (kj w))).IsList l us.toArray:=⟨_,Xk,rfl,nl,rfl⟩
    unfold Builtin.«set.__init__» noKeywords Builtin.Frozenset.updateFrom
    generalize hPI:pyIter=PI
    wp_walk
    subst hPI
    refine wpAny_pyIter_list hl1 (wpAny_bind (wpAny_runValue ?_))
    have hlS:l<s.heap.objs.size:=Heap.lt_size RX
    have Xx:A.in1.in1.in1.handled=none:=by simp[hh]
    have Xn:l≠(s.heap.push (uI (kj w))).objs.size:=by rw[Heap.size_push];exact Nat.ne_of_lt (Nat.lt_succ_of_lt hlS)
    have hSf:s.heap.objs.size∉[(s.heap.push (uI (kj w))).objs.size,l]:=by
     rw[Heap.size_push]
     intro q
     simp only[List.mem_cons,List.not_mem_nil,or_false]at q
     have Xu:l<s.heap.objs.size:=hlS
     rcases q with q|q
     ·exact absurd q (Nat.ne_of_lt (Nat.lt_succ_self _))
     ·exact absurd q (Nat.ne_of_gt Xu)
    have hus:us.toArray.size=us.length:=rfl
    refine MS ((Walks.list Xx _ l Xn us.toArray).toS) s.heap.objs.size hSf zs (kj w) (λi v q=>hi i v (by simpa using q)) WZ LI us.toArray.size 0 _ LI (Nat.zero_le _) ⟨⟨_,Heap.get?_push_size _ rfl,rfl,rfl⟩,(hl1.push _)⟩ ?_ ?_
    ·exact⟨_,#[],0,_,[],Heap.get?_push_of_some _ hS,⟨rfl,rfl,rfl⟩,rfl,.nil,rfl,by show 0<scanBound;decide,by rfl,rfl,λq=>absurd q (Nat.lt_irrefl 0)⟩
    ·intro s' hm hS'
     obtain⟨h',g',d',tk',os'⟩:=s'
     obtain rfl:g'=s.gens:=hm.gens
     obtain rfl:d'=s.drawn:=hm.drawn
     obtain rfl:os'=s.os:=hm.os
     show wpAny _ _ _ _ _ _
     refine wpAny_pure (show wpAny _ _ (ret Value.none) _ _ _ from wpAny_pure ⟨rfl,h',tk',rfl,hS',λc o hc e=>?_⟩)
     refine hm.heap c o (λq=>?_) (Heap.get?_push_of_some _ (Heap.get?_push_of_some _ e))
     simp only[List.mem_cons,List.not_mem_nil,or_false]at q
     rw[Heap.size_push]at q
     rcases q with q|q
     ·exact absurd q (Nat.ne_of_lt hc)
     ·exact absurd q (Nat.ne_of_lt (Nat.lt_succ_of_lt hc))
   ·cases r₂ with
    |error e=>exact Xg
    |ok fl₂=>
     cases fl₂ with
     |ret r=>
      obtain⟨rfl,h',tk,rfl,hS',hk'⟩:=Xg
      repeat (any_goals (first|assumption|wp_step))
      exact h _ _ hS' hk'
     |_=>exact Xg.elim
  |_=>exact hr.elim
end
namespace SF
theorem jK:Slot "set_iterator" "__next__" "set_iterator.__next__":=.of (owner:="set_iterator") (n:="__next__") (by rw[typeLookup_type,builtinLookup_eq_fast];kernel_rfl) DK DK DK (.inl DK) (by rw[isSubtype_type];kernel_rfl)
theorem Bb:entryFor table "set_iterator.__next__"=some Builtin.«set_iterator.__next__» :=entryFor_of_tree (by kernel_rfl)
theorem Jf:entryFor table "set.__iter__"=some Builtin.«frozenset.__iter__» :=entryFor_alias (id':="frozenset.__iter__") (by kernel_rfl) rfl DK (by kernel_rfl)
theorem FT(a:Value):argsOk "set_iterator.__next__" ⟨[a],[]⟩:=by unfold argsOk;kernel_rfl
theorem Rq:typeLookup (.type "set") "__len__"=pure (some (.builtin "set.__len__")):=by rw[typeLookup_type,builtinLookup_eq_fast];kernel_rfl
end SF
section
variable {prog:Program} {w:World} {A:Around} {E:Value->Shared->Prop} {s:Shared}
def Df(h:Heap)(I:Addr)(first:Value)(i:Nat)(a:Addr)(n ep:Nat):Prop:=∃o:Obj,h.get? I=some o/\o.cls=.type "set_iterator"/\o.data=.fields #[first,rawInt i,.ref a,rawInt n,rawInt ep]
def DC(h:Heap)(a:Addr)(es:Array (Int×Value))(ep:Nat)(t:SetTable):Prop:=∃o:Obj,h.get? a=some o/\o.data=.set es ep t/\t.fits es.size=true
theorem Df.typ{I a:Addr}{f:Value}{i n ep:Nat}(h:Df s.heap I f i a n ep):s.TypeIs (.ref I) "set_iterator":=let⟨o,e,c,_⟩:=h;⟨o,e,c⟩
theorem uW{I a:Addr}{slot i ep:Nat}{es:Array (Int×Value)}{t:SetTable}{r:Option (Value×Nat)}{Q:Option Value->Shared->Prop}(hh:A.handled=none)(hI:Df s.heap I (rawInt slot) i a es.size ep)(hS:DC s.heap a es ep t)
  (hn:∀(B:Around)(F:Value->Shared->Prop)(R:Option (Value×Nat)->Shared->Prop),R r s->wpAny (model prog w) B (setNext a slot i ep) R F s)
  (h1:∀x nx h',r=some (x,nx)->Df h' I (rawInt nx) (i+1) a es.size ep->Heap.SameBut I s.heap h'->Q (some x) {s with heap:=h'})
  (h2:∀h',r=none->Heap.ExtBut I s.heap h'->Q none {s with heap:=h'}):wpAny (model prog w) A (pyNext (.ref I)) Q E s:=by
 obtain⟨o,ho,hc,hd⟩:=id hI
 obtain⟨oS,hoS,hdS,hf⟩:=id hS
 unfold pyNext
 refine wpAny_bind (wpAny_attempt (wpAny_callSpecial?_slot (name:=Str.ofString "__next__") hI.typ SF.jK (wpAny_call_entry SF.jK hI.typ SF.Bb ?_ (SF.FT _))))
 unfold Builtin.«set_iterator.__next__»
 refine wpAny_bind (wpAny_pure ?_)
 refine wpAny_bind (wpAny_fieldsOf ho hd ?_)
 refine wpAny_bind (wpAny_setEntries_of hoS hdS hf ?_)
 rw[if_neg (by simp)]
 refine wpAny_bind (hn _ _ _ ?_)
 have e1:(s.heap.update I (Obj.mapFields (·.setIfInBounds 2 Value.none))).get? I=some _:=Heap.get?_update_self _ ho (Obj.isFreed_of_fields (Obj.data_mapFields hd _))
 cases r with
 |some p=>
  obtain⟨x,nx⟩:=p
  refine(show wpAny _ _ (setField (.ref I) 0 (rawInt nx) >>= _) _ _ s from wpAny_bind (wpAny_setField ho hd (by simp) ?_))
  have g1:(s.heap.update I (Obj.mapFields (·.setIfInBounds 0 (rawInt nx)))).get? I=some _:=Heap.get?_update_self _ ho (Obj.isFreed_of_fields (Obj.data_mapFields hd _))
  have d1:=Obj.data_mapFields hd (·.setIfInBounds 0 (rawInt nx))
  refine(show wpAny _ _ (setField (.ref I) 1 (rawInt ((i:Int)+1)) >>= _) _ _ _ from wpAny_bind (wpAny_setField g1 d1 (by simp) ?_))
  have g2:((s.heap.update I (Obj.mapFields (·.setIfInBounds 0 (rawInt nx)))).update I (Obj.mapFields (·.setIfInBounds 1 (rawInt ((i:Int)+1))))).get? I=some _:=Heap.get?_update_self _ g1 (Obj.isFreed_of_fields (Obj.data_mapFields d1 _))
  have d2:=Obj.data_mapFields d1 (·.setIfInBounds 1 (rawInt ((i:Int)+1)))
  exact wpAny_pure ⟨_,rfl,wpAny_pure (h1 x nx _ rfl ⟨_,g2,(Obj.cls_mapFields ..).trans ((Obj.cls_mapFields ..).trans hc),by rw[d2];simp[rawInt]⟩ ((Heap.SameBut.update ..).trans (Heap.SameBut.update ..)))⟩
 |none=>
  refine(show wpAny _ _ (setField (.ref I) 2 .none >>= _) _ _ s from wpAny_bind (wpAny_setField ho hd (by simp) ?_))
  refine(show wpAny _ _ (newExc (.type "StopIteration") [] >>= _) _ _ _ from wpAny_bind ?_)
  simp only[newExc,newTuple]
  refine wpAny_bind (wpAny_newObj_type (wpAny_bind (m:=firstArgMember _ _) (wpAny_of_eq (a:=Value.none) (by first|rfl|(simp only[firstArgMember];rfl)) (wpAny_newObj_type ?_ (by size_fits)))) (by size_fits))
  simp only[raiseNew]
  refine wpAny_bind (wpAny_handled ?_)
  rw[show A.in1.handled=none from hh]
  refine wpAny_bind (wpAny_pure (wpAny_throw ?_));refine wpAny_bind (wpAny_isInstance (T:="StopIteration") (b:=true) ⟨_,Heap.get?_push_size _ rfl,rfl⟩ isSubtype_stop ?_);refine wpAny_pure (h2 _ rfl ?_)
  exact((Heap.SameBut.update ..).extBut.push _).push _
theorem wY{I a b:Addr}{i ep:Nat}{es:Array (Int×Value)}{t:SetTable}{ps:List Nat}{Q:Option Value->Shared->Prop}(hh:A.handled=none)(hI:Df s.heap I (.ref b) i a es.size ep)(hS:DC s.heap a es ep t)
  (hb:∃o n,s.heap.get? b=some o/\o.data=.seq (ps.map λp=>rawInt (p:Nat)).toArray n)(hp:∀p∈ps,p<es.size)
  (h1:∀p e h',ps[i]? = some p->es[p]? = some e->Df h' I (.ref b) (i+1) a es.size ep->Heap.SameBut I s.heap h'->Q (some e.2) {s with heap:=h'})
  (h2:∀h',ps[i]? = none->Heap.ExtBut I s.heap h'->Q none {s with heap:=h'}):wpAny (model prog w) A (pyNext (.ref I)) Q E s:=by
 obtain⟨o,ho,hc,hd⟩:=id hI
 obtain⟨oS,hoS,hdS,hf⟩:=id hS
 obtain⟨ob,nb,hob,hdb⟩:=hb
 unfold pyNext
 refine wpAny_bind (wpAny_attempt (wpAny_callSpecial?_slot (name:=Str.ofString "__next__") hI.typ SF.jK (wpAny_call_entry SF.jK hI.typ SF.Bb ?_ (SF.FT _))))
 unfold Builtin.«set_iterator.__next__»
 refine wpAny_bind (wpAny_pure ?_)
 refine wpAny_bind (wpAny_fieldsOf ho hd ?_)
 refine wpAny_bind (wpAny_setEntries_of hoS hdS hf ?_)
 rw[if_neg (by simp)]
 have sq:∀(B:Around)(F:Value->Shared->Prop)(R:Option (Array Value)->Shared->Prop),R (some (ps.map λp=>rawInt (p:Nat)).toArray) s->wpAny (model prog w) B (seqItems? (.ref b)) R F s:=λB F R q=>by
  unfold seqItems?
  refine wpAny_bind (wpAny_load hob ?_)
  rw[hdb]
  exact wpAny_pure q
 refine(show wpAny _ _ (seqItems? (.ref b) >>= _) _ _ s from wpAny_bind (sq _ _ _ ?_))
 dsimp only
 rw[Int.toNat_natCast,List.getElem?_toArray,List.getElem?_map]
 cases hq:ps[i]? with
 |some p=>
  have hlt:=hp p (List.mem_of_getElem? hq)
  have he:es[p]? = some es[p]:=Array.getElem?_eq_getElem hlt
  refine(show wpAny _ _ (setNextDrawn a (p:Int).toNat (ep:Int).toNat >>= _) _ _ s from wpAny_bind ?_)
  unfold setNextDrawn
  refine wpAny_bind (wpAny_setState_of hoS hdS hf ?_)
  dsimp only
  rw[if_neg (by simp),Int.toNat_natCast,he]
  refine wpAny_pure (show wpAny _ _ (setField (.ref I) 1 (rawInt ((i:Int)+1)) >>= _) _ _ s from wpAny_bind (wpAny_setField ho hd (by simp) ?_))
  have g1:(s.heap.update I (Obj.mapFields (·.setIfInBounds 1 (rawInt ((i:Int)+1))))).get? I=some _:=Heap.get?_update_self _ ho (Obj.isFreed_of_fields (Obj.data_mapFields hd _))
  have d1:=Obj.data_mapFields hd (·.setIfInBounds 1 (rawInt ((i:Int)+1)))
  exact wpAny_pure ⟨_,rfl,wpAny_pure (h1 p _ _ hq he ⟨_,g1,(Obj.cls_mapFields ..).trans hc,by rw[d1];simp[rawInt]⟩ (Heap.SameBut.update ..))⟩
 |none=>
  refine(show wpAny _ _ (setField (.ref I) 0 (rawInt 0) >>= _) _ _ s from wpAny_bind (wpAny_setField ho hd (by simp) ?_))
  have g1:(s.heap.update I (Obj.mapFields (·.setIfInBounds 0 (rawInt 0)))).get? I=some _:=Heap.get?_update_self _ ho (Obj.isFreed_of_fields (Obj.data_mapFields hd _))
  have d1:=Obj.data_mapFields hd (·.setIfInBounds 0 (rawInt 0))
  refine(show wpAny _ _ (setField (.ref I) 2 .none >>= _) _ _ _ from wpAny_bind (wpAny_setField g1 d1 (by simp) ?_))
  refine(show wpAny _ _ (newExc (.type "StopIteration") [] >>= _) _ _ _ from wpAny_bind ?_)
  simp only[newExc,newTuple]
  refine wpAny_bind (wpAny_newObj_type (wpAny_bind (m:=firstArgMember _ _) (wpAny_of_eq (a:=Value.none) (by first|rfl|(simp only[firstArgMember];rfl)) (wpAny_newObj_type ?_ (by size_fits)))) (by size_fits))
  simp only[raiseNew]
  refine wpAny_bind (wpAny_handled ?_)
  rw[show A.in1.handled=none from hh]
  refine wpAny_bind (wpAny_pure (wpAny_throw ?_));refine wpAny_bind (wpAny_isInstance (T:="StopIteration") (b:=true) ⟨_,Heap.get?_push_size _ rfl,rfl⟩ isSubtype_stop ?_);refine wpAny_pure (h2 _ hq ?_)
  exact(((Heap.SameBut.update ..).trans (Heap.SameBut.update ..)).extBut.push _).push _
end
open PySem PyProof.Rows
section
variable {prog:Program} {w:World} {A:Around} {E:Value->Shared->Prop} {s:Shared}
theorem wch{n:Nat}{Q:Nat->Shared->Prop}(hn:n≠0)(h:∀i d,i<n->Q i {s with drawn:=d}):wpAny (model prog w) A (choose .order n) Q E s:=λΓ p hΓ=>by
 have:=Sem.wp_choose (M:=model prog w) (Γ:=Γ) (Q:=λa _ s'=>Q a s') (E:=λe _ s'=>E e s') (p:=p) (s:=s) .order n pure
 exact this▸⟨hn,h _ _ (Nat.mod_lt _ (Nat.pos_of_ne_zero hn))⟩
theorem GO{α:Type}:∀{l:List α}{i:Nat}(h:i<l.length),(l[i]::l.eraseIdx i).Perm l
 |x::l,0,_=>.refl _
 |x::l,i+1,h=>(List.Perm.swap x _ _).trans ((GO (l:=l) (i:=i) (by simpa using h)).cons x)
theorem Oh{α:Type}:∀(n:Nat)(xs:List α)(s:Shared){Q:List α->Shared->Prop},xs.length<=n->(∀ys d,ys.Perm xs->Q ys {s with drawn:=d})->wpAny (model prog w) A (drawOrder n xs) Q E s:=by
 intro n
 induction n with
 |zero=>
  intro xs s Q hl h
  obtain rfl:xs=[]:=List.eq_nil_of_length_eq_zero LI
  unfold drawOrder;exact wpAny_pure (h [] s.drawn .nil)
 |succ n ih=>
  intro xs s Q hl h
  cases xs with
  |nil=>unfold drawOrder;exact wpAny_pure (h [] s.drawn .nil)
  |cons x xs=>
   unfold drawOrder
   refine wpAny_bind (wch (by simp) λi d hi=>?_)
   rw[List.getElem?_eq_getElem hi]
   refine wpAny_bind (ih _ _ ?_ λys d' p=>wpAny_pure (h _ d' ?_))
   ·rw[List.length_eraseIdx_of_lt hi];simp at hl ⊢;lia
   ·exact(p.cons _).trans (GO hi)
theorem Mw{α:Type}(f:Nat->Nat)(xs:Array α):(pickOrder f xs).toList.Perm xs.toList:=by
 have key:∀(n k:Nat)(l:List α)(out:Array α),l.length<=n->(pickOrder.go f n k l out).toList.Perm (out.toList++l):=by
  intro n
  induction n with
  |zero=>
   intro k l out hl
   obtain rfl:l=[]:=List.eq_nil_of_length_eq_zero LI
   unfold pickOrder.go
   simp
  |succ n ih=>
   intro k l out hl
   unfold pickOrder.go
   cases l with
   |nil=>simp
   |cons x l=>
    have hi:f k%(x::l).length<(x::l).length:=Nat.mod_lt _ (by simp)
    rw[List.getElem?_eq_getElem hi]
    dsimp only
    refine(ih _ _ _ (by rw[List.length_eraseIdx_of_lt hi];simp at hl ⊢;lia)).trans ?_
    rw[Array.toList_push,List.append_assoc]
    exact List.Perm.append_left _ (GO hi)
 unfold pickOrder
 exact(key _ _ _ _ (by simp)).trans (by simp)
theorem Ba(a:Addr)(slot given ep:Nat):setNext a slot given ep=(do
  let(es,e,t) ←setState a
  if←setsByText then
   if e != ep then unsupported "set_iterator.__next__:elements-changed"
   return ((←setWalk a)[given]?).map λx=>(x.2,slot)
  if(!t.plain&&decide (es.size>1))=true then unsupported "set_iterator.__next__:the-table-is-plain-no-more"
  let _ ←(if(!t.led && !es.isEmpty)=true then unsupported "set:maker-not-led" else pure ():Sem Unit)
  return match es[SetTable.below t.place slot]?,t.place[SetTable.below t.place slot]? with
   |some (_,x),some j=>some (x,j+1)
   |_,_=>none):=rfl
theorem GU(a:Addr):setDrawn a=(do
  let(es,_,t) ←setState a
  let b ←setsByText
  return !b&&(!t.plain&&decide (es.size>1))):=rfl
theorem HU(a:Addr):setWalk a=(do
  let(es,e,t) ←setState a
  if←setsByText then return pickOrder ((←ask).params.setOrder a e) es
  if(!t.plain&&decide (es.size>1))=true then return (←drawOrder es.size es.toList).toArray
  let _ ←(if(!t.led&&decide (es.size>1))=true then unsupported "set:maker-not-led" else pure ():Sem Unit)
  return es):=rfl
theorem JJ{Q:Bool->Shared->Prop}(h:Q (w.params.followText "set-order") s):wpAny (model prog w) A setsByText Q E s:=by
 unfold setsByText
 exact wpAny_bind (wpAny_askSetting (wpAny_pure h))
theorem Ig{a:Addr}{es:Array (Int×Value)}{ep:Nat}{t:SetTable}{Q:(Array (Int×Value)×Nat×SetTable)->Shared->Prop}(hS:DC s.heap a es ep t)(h:Q (es,ep,t) s):wpAny (model prog w) A (setState a) Q E s:=
 let⟨_,ho,hd,hf⟩:=hS;wpAny_setState_of ho hd hf h
theorem A_{a:Addr}{es:Array (Int×Value)}{ep slot i:Nat}{t:SetTable}{Q:Option (Value×Nat)->Shared->Prop}(hS:DC s.heap a es ep t)(hb:w.params.followText "set-order"=true)
  (h:Q (((pickOrder (w.params.setOrder a ep) es)[i]?).map λx=>(x.2,slot)) s):wpAny (model prog w) A (setNext a slot i ep) Q E s:=by
 rw[Ba]
 refine wpAny_bind (Ig hS (wpAny_bind (JJ ?_)))
 rw[hb,if_pos rfl,if_neg (by simp),HU]
 refine wpAny_bind (wpAny_bind (Ig hS (wpAny_bind (JJ ?_))))
 rw[hb,if_pos rfl]
 exact wpAny_bind (wpAny_askSetting (wpAny_pure (wpAny_pure h)))
theorem FN{a:Addr}{es:Array (Int×Value)}{ep slot i:Nat}{t:SetTable}{Q:Option (Value×Nat)->Shared->Prop}(hS:DC s.heap a es ep t)(hb:w.params.followText "set-order"=false)(hz:es.size<=1)(hl:t.led=true)
  (h:Q (match es[SetTable.below t.place slot]?,t.place[SetTable.below t.place slot]? with
   |some (_,x),some j=>some (x,j+1)
   |_,_=>none) s):wpAny (model prog w) A (setNext a slot i ep) Q E s:=by
 rw[Ba]
 refine wpAny_bind (Ig hS (wpAny_bind (JJ ?_)))
 have e1:decide (es.size>1)=false:=by simp;lia
 dsimp only
 rw[hb,e1,hl]
 simp only[Bool.and_false,Bool.not_true,Bool.false_and,Bool.false_eq_true,if_false]
 exact wpAny_pure h
theorem Hl(j k:Nat):SetTable.below #[j] k=if j<k then 1 else 0:=by
 unfold SetTable.below
 show SetTable.below.go #[j] k 1 0 1=_
 unfold SetTable.below.go
 simp only[Nat.zero_lt_one,if_true]
 show(if(#[j].getD ((0+1)/2) k<k)then SetTable.below.go #[j] k 0 ((0+1)/2+1) 1 else SetTable.below.go #[j] k 0 0 ((0+1)/2))=_
 have: #[j].getD ((0+1)/2) k=j:=rfl
 rw[this]
 split<;>rfl
end
namespace SF
theorem EJ:Slot "set_iterator" "__iter__" "set_iterator.__iter__":=.of (owner:="set_iterator") (n:="__iter__") (by rw[typeLookup_type,builtinLookup_eq_fast];kernel_rfl) DK DK DK (.inl DK) (by rw[isSubtype_type];kernel_rfl)
theorem Ik:entryFor table "set_iterator.__iter__"=some Builtin.«dict_keyiterator.__iter__» :=entryFor_alias (id':="dict_keyiterator.__iter__") (by kernel_rfl) rfl DK (by kernel_rfl)
theorem Mj(a:Value):argsOk "set_iterator.__iter__" ⟨[a],[]⟩:=by unfold argsOk;kernel_rfl
end SF
section
variable {prog:Program} {w:World} {A:Around} {E:Value->Shared->Prop} {s:Shared}
theorem yK{I a:Addr}{f:Value}{i n ep:Nat}{Q:Value->Shared->Prop}(h:Df s.heap I f i a n ep)(q:Q (.ref I) s):wpAny (model prog w) A (pyIter (.ref I)) Q E s:=by
 refine wpAny_pyIter_slot h.typ SF.EJ (wpAny_call_entry SF.EJ h.typ SF.Ik (show wpAny _ _ (ret (.ref I)) _ _ s from ?_) (SF.Mj _))
 exact wpAny_pure ⟨_,rfl,"set_iterator",_,h.typ,SF.jK.lookup,q⟩
def tv(p:Str×Tok):Value:=.str p.1 p.2
abbrev PL(l:List (Str×Tok)):Nat->Value->Prop:=λi v=>∃p,l[i]? = some p/\v=tv p
theorem Df.at{h h':Heap}{I a:Addr}{f:Value}{i n ep:Nat}(x:Df h I f i a n ep)(k:∀o,h.get? I=some o->h'.get? I=some o):Df h' I f i a n ep:=let⟨o,e,r⟩:=x;⟨o,k o e,r⟩
theorem DC.at{h h':Heap}{a:Addr}{es:Array (Int×Value)}{ep:Nat}{t:SetTable}(x:DC h a es ep t)(k:∀o,h.get? a=some o->h'.get? a=some o):DC h' a es ep t:=let⟨o,e,r⟩:=x;⟨o,k o e,r⟩
theorem zv{es:List (Int×Value)}{l:List (Str×Tok)}(h:es=l.map (ent w)){i:Nat}{e:Int×Value}(he:es[i]? = some e):∃p,l[i]? = some p/\e.2=tv p:=by
 subst h
 rw[List.getElem?_map]at he
 cases hp:l[i]? with
 |none=>rw[hp]at he;cases he
 |some p=>rw[hp]at he;cases he;exact⟨p,rfl,rfl⟩
theorem La{xs:Array Nat}(h:xs.size=1):∃j,xs= #[j]:=by
 obtain⟨l⟩:=xs
 match l,h with
 |[j],_=>exact⟨j,rfl⟩
theorem BB{B:Around}(hh:B.handled=none){I a:Addr}(hne:a≠I){es:Array (Int×Value)}{ep:Nat}{t:SetTable}{l:List (Str×Tok)}(hb:w.params.followText "set-order"=true)(hp:(pickOrder (w.params.setOrder a ep) es).toList=l.map (ent w)):
  Walks prog w B I [I,a] [I] l.length (PL l) (λi h=>Df h I (rawInt 0) i a es.size ep/\DC h a es ep t)where
 sub:=λb hb=>by simp at hb;simp[hb]
 frame:=λ_ _ _ st hk=>⟨st.1.at λo e=>hk I (by simp) o e,st.2.at λo e=>hk a (by simp) o e⟩
 item:=λi s Q E hi st hQ=>by
  refine uW (slot:=0) hh st.1 st.2 (λB' F' R q=>A_ st.2 hb q) (λx nx h' hr hit sb=>?_) (λh' hr _=>?_)
  ·rw[←Array.getElem?_toList,Option.map_eq_some_iff]at hr
   obtain⟨e,he,q⟩:=hr
   obtain⟨p,h1,h2⟩:=zv hp he
   cases q
   exact hQ _ h' s.toks ⟨p,h1,h2⟩ ⟨hit,st.2.at λo e=>(sb.2 a hne).trans e⟩ λb o hb e=>(sb.2 b (λz=>hb (by simp[z]))).trans e
  ·rw[←Array.getElem?_toList,hp,List.getElem?_map,List.getElem?_eq_getElem hi]at hr
   cases hr
 done:=λs Q E st hQ=>by
  refine uW (slot:=0) hh st.1 st.2 (λB' F' R q=>A_ st.2 hb q) (λx nx h' hr _ _=>?_) (λh' hr eb=>hQ h' s.toks λb o hb e=>eb b o (λz=>hb (by simp[z])) e)
  rw[←Array.getElem?_toList,hp,List.getElem?_map,List.getElem?_eq_none (Nat.le_refl _)]at hr
  cases hr
 self:=λ_ _ _ _ st hQ=>yK st.1 hQ
theorem DJ{B:Around}(hh:B.handled=none){I a:Addr}(hne:a≠I){es:Array (Int×Value)}{ep:Nat}{t:SetTable}{l:List (Str×Tok)}(hb:w.params.followText "set-order"=false)(hz:es.size<=1)(hl:t.led=true)(hp:es.toList=l.map (ent w)):
  Walks prog w B I [I,a] [I] l.length (PL l) (λi h=>(∃sl:Nat,Df h I (rawInt sl) i a es.size ep/\(i=0->sl=0)/\(0<i->sl=t.place.getD 0 0+1))/\DC h a es ep t)where
 sub:=λb hb=>by simp at hb;simp[hb]
 frame:=λ_ _ _ ⟨⟨sl,st,r⟩,st2⟩ hk=>⟨⟨sl,st.at λo e=>hk I (by simp) o e,r⟩,st2.at λo e=>hk a (by simp) o e⟩
 item:=λi s Q E hi st hQ=>by
  obtain⟨⟨sl,st1,r0,r1⟩,st2⟩:=st
  have hlz:l.length=es.size:=by rw[←Array.length_toList,hp,List.length_map]
  obtain rfl:i=0:=by lia
  obtain rfl:=r0 rfl
  obtain⟨oS,hoS,hdS,hf⟩:=id st2
  have hpl:t.place.size=es.size:=by
   simp only[SetTable.fits,Bool.and_eq_true,beq_iff_eq]at hf
   exact hf.1
  obtain⟨j,hj⟩:∃j,t.place= #[j]:=by
   exact La LI
  have e0:SetTable.below t.place 0=0:=by rw[hj,Hl,if_neg LI]
  have e1:t.place[0]? = some j:=by rw[hj];rfl
  have h0:es[0]? = some es[0]:=Array.getElem?_eq_getElem LI
  obtain⟨p,h1,h2⟩:=zv hp (i:=0) (e:=es[0]) (by rw[Array.getElem?_toList];exact h0)
  refine uW (slot:=0) hh st1 st2 (λB' F' R q=>FN st2 hb hz hl q) (λx nx h' hr hit sb=>?_) (λh' hr _=>?_)
  ·rw[e0,h0,e1]at hr
   cases hr
   refine hQ _ h' s.toks ⟨p,h1,h2⟩ ⟨⟨j+1,hit,λz=>absurd z LI,λ_=>by rw[hj];rfl⟩,st2.at λo e=>(sb.2 a hne).trans e⟩ λb o hb e=>(sb.2 b (λz=>hb (by simp[z]))).trans e
  ·rw[e0,h0,e1]at hr
   cases hr
 done:=λs Q E st hQ=>by
  obtain⟨⟨sl,st1,r0,r1⟩,st2⟩:=st
  have hlz:l.length=es.size:=by rw[←Array.length_toList,hp,List.length_map]
  obtain⟨oS,hoS,hdS,hf⟩:=id st2
  have hpl:t.place.size=es.size:=by
   simp only[SetTable.fits,Bool.and_eq_true,beq_iff_eq]at hf
   exact hf.1
  have hnone:es[SetTable.below t.place sl]? = none:=by
   by_cases z:l.length=0
   ·exact Array.getElem?_eq_none LI
   ·obtain⟨j,hj⟩:∃j,t.place= #[j]:=by
     exact La LI
    have hs:sl=j+1:=by rw[r1 LI,hj];rfl
    rw[hj,Hl,if_pos LI]
    exact Array.getElem?_eq_none LI
  refine uW (slot:=sl) hh st1 st2 (λB' F' R q=>FN st2 hb hz hl q) (λx nx h' hr _ _=>?_) (λh' hr eb=>hQ h' s.toks λb o hb e=>eb b o (λz=>hb (by simp[z])) e)
  rw[hnone]at hr
  cases hr
 self:=λ_ _ _ _ ⟨⟨_,st,_⟩,_⟩ hQ=>yK st hQ
theorem yv{B:Around}(hh:B.handled=none){I a b:Addr}(hne:a≠I)(hnb:b≠I){es:Array (Int×Value)}{ep:Nat}{t:SetTable}{ps:List Nat}{l:List (Str×Tok)}(hps:∀p∈ps,p<es.size)(hlen:ps.length=l.length)
  (hp:∀(i p:Nat)(e:Int×Value),ps[i]? = some p->es[p]? = some e->∃q,l[i]? = some q/\e.2=tv q):
  Walks prog w B I [I,a,b] [I] l.length (PL l) (λi h=>Df h I (.ref b) i a es.size ep/\DC h a es ep t/\∃o n,h.get? b=some o/\o.data=.seq (ps.map λp=>rawInt (p:Nat)).toArray n)where
 sub:=λb hb=>by simp at hb;simp[hb]
 frame:=λ_ _ _ ⟨s1,s2,o,n,s3,s4⟩ hk=>⟨s1.at λo e=>hk I (by simp) o e,s2.at λo e=>hk a (by simp) o e,o,n,hk b (by simp) o s3,s4⟩
 item:=λi s Q E hi st hQ=>by
  obtain⟨s1,s2,s3⟩:=st
  refine wY hh s1 s2 s3 hps (λp e h' h1 h2 hit sb=>?_) (λh' hr _=>?_)
  ·obtain⟨q,h3,h4⟩:=hp i p e h1 h2
   obtain⟨o,n,e1,e2⟩:=s3
   exact hQ _ h' s.toks ⟨q,h3,h4⟩ ⟨hit,s2.at λo e=>(sb.2 a hne).trans e,o,n,(sb.2 b hnb).trans e1,e2⟩ λc o hc e=>(sb.2 c (λz=>hc (by simp[z]))).trans e
  ·rw[List.getElem?_eq_getElem LI]at hr
   cases hr
 done:=λs Q E st hQ=>by
  obtain⟨s1,s2,s3⟩:=st
  refine wY hh s1 s2 s3 hps (λp e h' h1 h2 hit sb=>?_) (λh' hr eb=>hQ h' s.toks λb o hb e=>eb b o (λz=>hb (by simp[z])) e)
  rw[List.getElem?_eq_none LI]at h1
  cases h1
 self:=λ_ _ _ _ st hQ=>yK st.1 hQ
end
open PySem PyProof.Rows
section
variable {prog:Program} {w:World} {A:Around} {E:Value->Shared->Prop} {s:Shared}
theorem mK{α β:Type}{f:α->β}{xs ys:List β}(p:xs.Perm ys):∀{l:List α},ys=l.map f->∃l':List α,l'.Perm l/\xs=l'.map f:=by
 induction p with
 |nil=>intro l h;exact⟨[],by rw[List.map_eq_nil_iff.mp h.symm],rfl⟩
 |cons x _ ih=>
  intro l h
  cases l with
  |nil=>cases h
  |cons y l=>
   cases h
   obtain⟨l',h1,h2⟩:=ih rfl
   exact⟨y::l',h1.cons y,by rw[h2];rfl⟩
 |swap x y zs=>
  intro l h
  cases l with
  |nil=>cases h
  |cons a l=>
   cases l with
   |nil=>cases h
   |cons b l=>cases h;exact⟨b::a::l,List.Perm.swap _ _ _,rfl⟩
 |trans _ _ ih1 ih2=>
  intro l h
  obtain⟨l2,h1,h2⟩:=ih2 h
  obtain⟨l3,h3,h4⟩:=ih1 h2
  exact⟨l3,h3.trans h1,h4⟩
theorem BZ(l:List (Str×Tok))(d:Str×Tok):(List.range l.length).map (λp=>(l[p]?).getD d)=l:=by
 refine List.ext_getElem (by simp) λi h1 h2=>?_
 simp[h2]
theorem Ny{a:Addr}{ts:List Str}{Q:Value->Shared->Prop}(hS:jd w s.heap a ts (kj w))
  (h:∀(h':Heap)(d:Drawn)(I:Addr)(fp:List Addr)(l:List (Str×Tok))(St:Nat->Heap->Prop),(∀b o,s.heap.get? b=some o->h'.get? b=some o)->s.heap.objs.size<=I->I∈fp->(∀b∈fp,b=a\/s.heap.objs.size<=b)->
   (l.map (·.1)).Perm ts->St 0 h'->(∀B:Around,B.handled=none->Walks prog w B I fp [I] l.length (PL l) St)->Q (.ref I) {s with heap:=h',drawn:=d}):
  wpAny (model prog w) A (pyIter (.ref a)) Q E s:=by
 obtain⟨o,es,ep,t,l,ho,hex,hd,hp,hts,hb,hf,hl,hpl⟩:=hS
 have hT:s.TypeIs (.ref a) "set":=⟨o,ho,hex.1⟩
 have hz:=size_of hp
 have hlt:a<s.heap.objs.size:=Heap.lt_size ho
 have acg:l.length=ts.length:=by rw[←hts,List.length_map]
 refine wpAny_pyIter_slot hT F.slot_set_iter (wpAny_call_entry F.slot_set_iter hT SF.Jf ?_ (F.args_set_iter_1 _))
 unfold Builtin.«frozenset.__iter__» Builtin.Frozenset.slot0 slotArgs
 simp only[List.isEmpty_nil,Bool.not_true,Bool.false_eq_true,↓reduceIte,bind_assoc,List.length_nil,bne_self_eq_false]
 unfold Builtin.Frozenset.addrOf Builtin.Frozenset.sizeOf
 refine wpAny_bind (wpAny_pure ?_);try dsimp only
 refine wpAny_bind (wpAny_pure (wpAny_bind (wpAny_bind (wpAny_setEntries_of ho hd hf (wpAny_pure ?_)))))
 have sat:∀{h':Heap},(∀b o,s.heap.get? b=some o->h'.get? b=some o)->DC h' a es ep t:=λk=>⟨o,k a o ho,hd,hf⟩
 rw[GU]
 refine wpAny_bind (wpAny_bind (Ig ⟨o,ho,hd,hf⟩ (wpAny_bind (JJ (wpAny_pure ?_)))))
 by_cases hb':w.params.followText "set-order"=true
 ·rw[hb',if_neg (by simp)]
  refine wpAny_bind (wpAny_pure (wpAny_bind (wpAny_setEpoch_of ho hd hf (wpAny_bind (wpAny_newObj_type (wpAny_pure ⟨_,rfl,"set_iterator",_,⟨_,Heap.get?_push_size _ rfl,rfl⟩,SF.jK.lookup,?_⟩))))))
  obtain⟨l',q1,q2⟩:=mK ((Mw (w.params.setOrder a ep) es).trans hp) rfl
  refine h _ s.drawn _ [s.heap.objs.size,a] l' _ (λb o e=>Heap.get?_push_of_some _ e) (Nat.le_refl _) (by simp) (λb q=>?_) (by rw[←hts];exact q1.map _) ⟨⟨_,Heap.get?_push_size _ rfl,rfl,rfl⟩,sat λb o e=>Heap.get?_push_of_some _ e⟩ λB hB=>BB hB (Nat.ne_of_lt hlt) hb' q2
  simp only[List.mem_cons,List.not_mem_nil,or_false]at q
  exact q.elim (λz=>.inr (Nat.le_of_eq z.symm)) .inl
 ·have hb2:w.params.followText "set-order"=false:=by simpa using hb'
  have Xs:t.led=true:=by rw[hl];unfold kj;rw[hb2];rfl
  by_cases hz1:es.size<=1
  ·have e1:decide (es.size>1)=false:=by simp;lia
   rw[hb2,e1,if_neg (by simp)]
   refine wpAny_bind (wpAny_pure (wpAny_bind (wpAny_setEpoch_of ho hd hf (wpAny_bind (wpAny_newObj_type (wpAny_pure ⟨_,rfl,"set_iterator",_,⟨_,Heap.get?_push_size _ rfl,rfl⟩,SF.jK.lookup,?_⟩))))))
   obtain⟨l',q1,q2⟩:=mK hp rfl
   refine h _ s.drawn _ [s.heap.objs.size,a] l' _ (λb o e=>Heap.get?_push_of_some _ e) (Nat.le_refl _) (by simp) (λb q=>?_) (by rw[←hts];exact q1.map _) ⟨⟨0,⟨_,Heap.get?_push_size _ rfl,rfl,rfl⟩,λ_=>rfl,λz=>absurd z (Nat.lt_irrefl 0)⟩,sat λb o e=>Heap.get?_push_of_some _ e⟩ λB hB=>DJ hB (Nat.ne_of_lt hlt) hb2 hz1 Xs q2
   simp only[List.mem_cons,List.not_mem_nil,or_false]at q
   exact q.elim (λz=>.inr (Nat.le_of_eq z.symm)) .inl
  ·have e1:decide (es.size>1)=true:=by simp;lia
   rw[hb2,e1,hpl LI,if_pos (by simp)]
   refine wpAny_bind (Oh es.size (List.range es.size) s (by simp) λps d pp=>?_)
   have hps:∀p∈ps,p<es.size:=λp m=>by simpa using pp.mem_iff.mp m
   have hlen:ps.length=es.size:=by rw[pp.length_eq,List.length_range]
   refine wpAny_bind (wpAny_newTuple ?_ (by rw[List.length_map,hlen];exact fits_of_scanBound LI))
   refine wpAny_bind (wpAny_setEpoch_of (s:={s with heap:=_,drawn:=d}) (Heap.get?_push_of_some _ ho) hd hf (wpAny_bind (wpAny_newObj_type (wpAny_pure ⟨_,rfl,"set_iterator",_,⟨_,Heap.get?_push_size _ rfl,rfl⟩,SF.jK.lookup,?_⟩))))
   obtain⟨l0,q1,q2⟩:=mK hp rfl
   have lO:l0.length=es.size:=by rw[hz,q1.length_eq]
   have k2:∀b o,s.heap.get? b=some o->((s.heap.push (seqObj "tuple" (ps.map λp=>rawInt (p:Nat)).toArray 0)).push {cls:=.type "set_iterator",data:=.fields #[.ref s.heap.objs.size,rawInt 0,.ref a,rawInt es.size,rawInt ep]}).get? b=some o:=λb o e=>Heap.get?_push_of_some _ (Heap.get?_push_of_some _ e)
   refine h _ d _ [(s.heap.push (seqObj "tuple" (ps.map λp=>rawInt (p:Nat)).toArray 0)).objs.size,a,s.heap.objs.size] (ps.map λp=>(l0[p]?).getD ("",0)) _ k2 (by rw[Heap.size_push];exact Nat.le_succ _) (by simp) (λb q=>?_) ?_ ⟨⟨_,Heap.get?_push_size _ rfl,rfl,rfl⟩,sat k2,_,0,Heap.get?_push_of_some _ (Heap.get?_push_size _ rfl),rfl⟩ λB hB=>yv hB (by rw[Heap.size_push];exact Nat.ne_of_lt (Nat.lt_succ_of_lt hlt)) (by rw[Heap.size_push];exact Nat.ne_of_lt (Nat.lt_succ_self _)) hps (by simp) λi p e h1 h2=>?_
   ·simp only[List.mem_cons,List.not_mem_nil,or_false]at q
    rw[Heap.size_push]at q
    rcases q with q|q|q
    ·exact .inr (by rw[q];exact Nat.le_succ _)
    ·exact .inl q
    ·exact .inr (Nat.le_of_eq q.symm)
   ·have:=pp.map λp=>(l0[p]?).getD (("":Str),(0:Tok))
    rw[←lO,BZ]at this
    rw[←hts]
    exact(this.trans q1).map _
   ·obtain⟨q,h3,h4⟩:=zv q2 (i:=p) (e:=e) (by rw[Array.getElem?_toList];exact h2)
    exact⟨q,by rw[List.getElem?_map,h1];simp[h3],h4⟩
end
section
variable {prog:Program} {w:World} {A:Around} {E:Value->Shared->Prop} {s:Shared}
theorem Jc{l:List (Str×Tok)}{acc:Array Value}(h:ItemsOf (PL l) acc l.length):acc.toList=l.map tv:=by
 refine List.ext_getElem (by rw[Array.length_toList,h.1,List.length_map]) λi h1 h2=>?_
 obtain⟨p,e1,e2⟩:=h.2 i acc.toList[i] (by rw[←Array.getElem?_toList];exact List.getElem?_eq_getElem h1)
 rw[e2,List.getElem_map]
 have h3:i<l.length:=by simpa using h2
 rw[List.getElem?_eq_getElem h3]at e1
 cases e1
 rfl
theorem CV{a:Addr}{ts:List Str}{Q:List Value->Shared->Prop}(hh:A.handled=none)(hS:jd w s.heap a ts (kj w))
  (h:∀(s':Shared)(l:List (Str×Tok)),s'.os=s.os->s'.gens=s.gens->(∀b o,s.heap.get? b=some o->s'.heap.get? b=some o)->(l.map (·.1)).Perm ts->Q (l.map tv) s'):wpAny (model prog w) A (collect (.ref a)) Q E s:=by
 have⟨o,es,ep,t,l0,ho,hex,_,_,_,hb,_⟩:=hS
 have hlt:a<s.heap.objs.size:=Heap.lt_size ho
 unfold collect
 refine wpAny_bind (wpAny_runValue (codeAny_builtin F.entry_proto_collect ?_));rw[Around.under_plainId F.plain_proto_collect _]
 refine(show wpAny _ A.in1 (newList [] >>= λl=>again (.builtin "list.__iadd__" ⟨[l,.ref a],[]⟩)) _ _ s from wpAny_bind (wpAny_newObj_type ?_))
 refine wpAny_pure ⟨plainId_quiet F.plain_list_iadd _,codeAny_builtin F.entry_list_iadd ?_⟩;rw[Around.under_plainId F.plain_list_iadd _]
 have k0:∀b u,s.heap.get? b=some u->(s.heap.push {cls:=.type "list",data:=.seq ([]:List Value).toArray}).get? b=some u:=λb u e=>Heap.get?_push_of_some _ e
 have hS0:(s.heap.push {cls:=.type "list",data:=.seq ([]:List Value).toArray}).get? s.heap.objs.size=some {cls:=.type "list",data:=.seq ([]:List Value).toArray}:=Heap.get?_push_size _ rfl
 have hT0:Shared.TypeIs {s with heap:=s.heap.push {cls:=.type "list",data:=.seq ([]:List Value).toArray} } (.ref a) "set":=⟨o,k0 a o ho,hex.1⟩
 refine(show wpAny _ A.in1 (Builtin.List.listExtendWith (.ref s.heap.objs.size) (.ref a) (.ref s.heap.objs.size)) _ _ _ from ?_)
 unfold Builtin.List.listExtendWith
 refine wpAny_bind (wpAny_typeOf hT0 ?_)
 have q1:Builtin.List.listSameRef (.ref s.heap.objs.size) (.ref a)=false:=by simp[Builtin.List.listSameRef];exact Nat.ne_of_gt hlt
 have q2:(Value.type "set"==Value.type "list")=false:=by decide
 have q3:(Value.type "set"==Value.type "tuple")=false:=by decide
 simp only[q1,q2,q3,Bool.or_false,Bool.false_eq_true,if_false]
 refine wpAny_bind (Ny (hS.move λu e=>k0 a u e) λh' d I fp l St k1 hI hIf hfp Lu st W=>?_)
 have hTI:Shared.TypeIs {s with heap:=h',drawn:=d} (.ref a) "set":=⟨o,k1 a o (k0 a o ho),hex.1⟩
 refine wpAny_bind (wpAny_holding ?_)
 unfold Builtin.List.listLengthHint
 refine wpAny_bind (wpAny_specialOf hTI SF.Rq ?_)
 generalize hid:("set.__len__":String)=id0;wp_delta;rw[show splitId id0=some ("set","__len__")from by subst hid;decide +kernel];subst hid
 refine wpAny_bind (wpAny_isInstance (b:=true) hTI (by rw[isSubtype_type];kernel_rfl) ?_)
 refine(show wpAny _ A.in1 (typeOf (.ref a) >>= _) _ _ _ from wpAny_bind (wpAny_typeOf hTI (wpAny_pure ?_)))
 refine(show wpAny _ A.in1 (rule "list.extend.makes-room" >>= λ_=>Builtin.List.listTouch (.ref s.heap.objs.size) >>= λ_=>again (.builtin "list.extend.loop" ⟨[.ref s.heap.objs.size,.ref I,.ref s.heap.objs.size],[]⟩)) _ _ _ from wpAny_bind (wpAny_rule ?_))
 have hS1:=k1 _ _ hS0
 refine wpAny_bind (show wpAny _ A.in1 (updateSeq s.heap.objs.size (·.push .none) >>= λ_=>updateSeq s.heap.objs.size (·.pop)) _ _ _ from wpAny_bind (wpAny_updateSeq hS1 rfl ?_))
 have US:=Heap.get?_update_self (Obj.mapSeq (·.push Value.none)) hS1 rfl
 refine wpAny_updateSeq US rfl ?_
 have hS3:=Heap.get?_update_self (Obj.mapSeq (·.pop)) US rfl
 have Zc:∀b u,b≠s.heap.objs.size->h'.get? b=some u->((h'.update s.heap.objs.size (Obj.mapSeq (·.push Value.none))).update s.heap.objs.size (Obj.mapSeq (·.pop))).get? b=some u:=
  λb u hb e=>(Heap.get?_update_other _ _ (Ne.symm hb)).trans ((Heap.get?_update_other _ _ (Ne.symm hb)).trans e)
 have hSf:s.heap.objs.size∉fp:=λm=>by
  rcases hfp _ m with z|z
  ·exact Nat.ne_of_gt hlt z
  ·rw[Heap.size_push]at z;exact Nat.not_succ_le_self _ z
 have hn:l.length<=sizeLine:=by
  rw[←List.length_map (as:=l) (·.1),Lu.length_eq]
  exact fits_of_scanBound hb
 have hIs:s.heap.objs.size<=I:=by rw[Heap.size_push]at hI;lia
 refine wpAny_pure ⟨plainId_quiet F.plain_extend_loop _,codeAny_extend_loopS (W _ (by simpa using hh)).toS hn _ hSf _ l.length 0 _ _ _ rfl (Nat.zero_le _) ((W _ (by simpa using hh)).frame 0 h' _ st λb hm u e=>Zc b u (λz=>hSf (z▸hm)) e) hS3 (ItemsOf.nil _) λs' acc c hm hS' hacc=>?_⟩
 refine(show wpAny _ A (load s.heap.objs.size >>= _) _ _ s' from wpAny_bind (wpAny_load hS' (wpAny_pure ?_)))
 rw[Jc hacc]
 refine h s' l hm.os hm.gens (λb u e=>?_) Lu
 have XJ:=Heap.lt_size e
 refine hm.heap b u (λz=>?_) (Zc b u (Nat.ne_of_lt XJ) (k1 b u (k0 b u e)))
 simp only[List.mem_cons,List.not_mem_nil,or_false]at z
 rcases z with z|z
 ·exact Nat.ne_of_lt XJ z
 ·exact Nat.ne_of_lt (Nat.lt_of_lt_of_le XJ hIs) z
end
end TX
namespace L2
open PySem PySem.Spec PyProof.Rows
section
variable {X:Cx} {pins:List (Addr×Obj)} {σ:St} {H:Hp} {s:Shared}
theorem Inv.drw{s':Shared}(I:Inv X pins σ H s)(ho:s'.os=s.os)(hg:s'.gens=s.gens)(k:∀b u,s.heap.get? b=some u->s'.heap.get? b=some u):Inv X pins σ H s':=by
 have J:=I.kept (h':=s'.heap) (t':=s'.toks) k
 exact⟨J.ok,ho.trans J.os,by rw[hg];exact J.bare,J.base,J.loc,J.cell,J.free,J.gK,J.pin,J.hok,J.len⟩
theorem H_{K:Fg7}(z:Str)(t:Tok):Den K H (.str z t) (.str z):=⟨.str z,⟨t,rfl⟩,.str z⟩
inductive tD(K:Fg7)(Q:VK)(x:V)(H1:Hp):Prop
 |mk(p:Addr)(zs:List Str):(x=.ref p)->(br K H1 p (zs.map V.str))->(zs.length+1<scanBound)->(TS.Fits zs.length)->(∀(l:Addr)(ts:List Str),H1 l=none->ts.Nodup->(∀z,z∈ts↔z∈zs)->(ts.map Dv.str).Pairwise (λd e=>aY d e≠.gt)->Q (.ref l) (upd H1 l (.lst (ts.map V.str))))->tD K Q x H1
def DU(K:Fg7)(te:TE):TE:=λσ H Q=>te σ H λx H1=>tD K Q x H1
theorem Mc(hc:X.calm=true)(hu:X.A.units+64<cLine){a:Addr}{ts:List Str}{Q:VK}(I:Inv X pins σ H s)(hS:TX.jd X.w s.heap a ts (TX.kj X.w))(hz:TS.Fits ts.length)
  (q:∀(l:Addr)(rs:List Str),H l=none->rs.Perm ts->(rs.map Dv.str).Pairwise (λd e=>aY d e≠.gt)->Q (.ref l) (upd H l (.lst (rs.map V.str)))):
  wpAny (model X.prog X.w) X.A (call (.builtin "sorted") [.ref a]) (EP X pins σ Q) X.xe s:=by
 refine Calls.call_function_entry kind_sorted plain_sorted entry_sorted (args_sorted1 _) ?_
 unfold Builtin.«sorted»;refine wpAny_bind (m:=checkCount "sorted" 1 1 _) (wpAny_pure (wpAny_bind (TX.CV (by first|exact I.ok.hd hc|simpa using I.ok.hd hc) hS λs1 l ho hg k1 hp=>?_)))
 have I1:Inv X pins σ H s1:=I.drw ho hg k1
 have hlen:(l.map TX.tv).length=ts.length:=by rw[List.length_map,←List.length_map (as:=l) (·.1),hp.length_eq]
 have lO:(l.map TX.tv).length<=sizeLine:=by rw[hlen];have:=hz.1;rw[sizeLine_eq];lia
 refine wpAny_bind (wpAny_newList ?_ lO)
 have GA:(s1.heap.push (seqObj "list" (l.map TX.tv).toArray 0)).get? s1.heap.objs.size=some (seqObj "list" (l.map TX.tv).toArray 0):=Heap.get?_push_size _ rfl
 have keep:∀b o,s1.heap.get? b=some o->b≠s1.heap.objs.size/\(s1.heap.push (seqObj "list" (l.map TX.tv).toArray 0)).get? b=some o:=λb o e=>⟨Nat.ne_of_lt (Heap.lt_size e),Heap.get?_push_of_some _ e⟩
 have den:∀v∈l.map TX.tv,∃d,Den X.K H v d/\Dv.isA .str d=true:=λv m=>by
  obtain⟨p,_,rfl⟩:=List.mem_map.mp m
  exact⟨_,H_ _ _,rfl⟩
 refine wpAny_bind (wpAny_holding (wpAny_call_entry slot_list_sort ⟨_,GA,rfl⟩ entry_list_sort ?_ (args_list_sort _)))
 refine TS.qJ (κ:=Sh.kind .str) (S:=Hu X.K H .str) (blt:=sG X.K H) (qQ I1 .str) GA (by rw[hlen];exact hz) (λv m=>den v m) (λh2 h' kp Q' q'=>?_) (λh2 h' kp x y Q' hx hy q'=>?_) λout p1 p2=>⟨_,rfl,wpAny_pure ⟨_,rfl,?_⟩⟩
 ·exact oJ (s:={s1 with heap:=h'}) (I1.kept (t':=s1.toks) λb o e=>kp b o (keep b o e).1 (keep b o e).2) rfl h2 den q'
 ·exact rF (s:={s1 with heap:=h'}) (I1.kept (t':=s1.toks) λb o e=>kp b o (keep b o e).1 (keep b o e).2) rfl (by simp only[in1_units];show _+1<_;lia) hx hy q'
 ·obtain⟨l',r1,rfl⟩:=TX.mK p1 rfl
  have hv:Vals ((l'.map (·.1)).map V.str) (l'.map TX.tv):=BF l'
  have hd:gz X.K H ((l'.map (·.1)).map V.str) ((l'.map (·.1)).map Dv.str):=by
   clear hv r1 p1 p2
   induction l' with
   |nil=>exact .nil
   |cons p l' ih=>exact .cons (.str _) ih
  have pw:=uQ I1 hv hd (sh:=.str) (λd m=>by obtain⟨z,_,rfl⟩:=List.mem_map.mp m;rfl) p2
  have Xz:∃n,(sortedHeap (s1.heap.push (seqObj "list" (l.map TX.tv).toArray 0)) s1.heap.objs.size (l.map TX.tv) (l'.map TX.tv).toArray).get? s1.heap.objs.size=some (seqObj "list" (l'.map TX.tv).toArray n):=by
   unfold sortedHeap
   exact⟨_,get?_update_seq (Heap.get?_push_of_some _ (Heap.get?_push_of_some _ (get?_update_seq GA λ_=> #[]))) λ_=>(l'.map TX.tv).toArray⟩
  have hold:∀b o,s1.heap.get? b=some o->(sortedHeap (s1.heap.push (seqObj "list" (l.map TX.tv).toArray 0)) s1.heap.objs.size (l.map TX.tv) (l'.map TX.tv).toArray).get? b=some o:=λb o e=>by
   have ne:=(keep b o e).1
   unfold sortedHeap
   rw[Heap.get?_update_ne _ _ _ _ ne]
   refine Heap.get?_push_of_some _ (Heap.get?_push_of_some _ ?_)
   rw[Heap.get?_update_ne _ _ _ _ ne]
   exact(keep b o e).2
  refine⟨.ref s1.heap.objs.size,_,I1.laid (t':=s1.toks) (a:=s1.heap.objs.size) (o:=.lst ((l'.map (·.1)).map V.str)) hold (Nat.le_refl _) ?_,rfl,q _ (l'.map (·.1)) (I1.hok.fresh (Nat.le_refl _)) ((r1.map _).trans hp) pw⟩
  obtain⟨n,hn⟩:=Xz
  refine⟨by rw[hv.length,List.length_map,←List.length_map (f:=TX.tv),p1.length_eq];exact lO,l'.map TX.tv,n,hv,hn⟩
theorem yW{e:Expr}{te:TE}{p1 p2 c1 c2:Pos}(hc:X.calm=true)(hu:X.A.units+64<cLine)(hg1:Gl X "sorted")(hm1:X.mg "sorted"=none)(NJ:Gl X "set")(hm2:X.mg "set"=none)(he:PE X e te)
  (hs1:starEach [.Call (.Name "set" p2) [e] [] c2] X.env=[(false,eval (.Call (.Name "set" p2) [e] [] c2) X.env)]:=by rfl)(hs2:starEach [e] X.env=[(false,eval e X.env)]:=by rfl):
  PE X (.Call (.Name "sorted" p1) [.Call (.Name "set" p2) [e] [] c2] [] c1) (DU X.K te):=by
 intro pins s σ H Q I h
 refine wpAny_Call_Name_kw (jn I hg1 hm1 gY ?_ (by decide) (by decide))
 refine PyProof.Rows.callWith_builtin1 ?_ hs1 rfl
 rw[hs1]
 show wpAny _ _ (spliced ((false,eval (.Call (.Name "set" p2) [e] [] c2) X.env)::backTo c1 [])) _ _ s
 refine Calls.spliced_cons ?_
 refine wpAny_Call_Name_kw (jn I NJ hm2 OA ?_ (by decide) (by decide))
 refine PyProof.Rows.callWith_type1 ?_ hs2 rfl
 rw[hs2]
 show wpAny _ _ (spliced ((false,eval e X.env)::backTo c2 [])) _ _ s
 refine Calls.spliced_cons (dI (he pins s σ H _ I h) λu s1 ⟨v,H1,I1,r1,p,zs,ev,hp,hz,hf,q⟩=>Calls.spliced_nil ?_)
 subst ev
 cases r1
 obtain⟨its,r',pl,_⟩:=I1.list hp
 have hlen:its.length=zs.length:=by rw[←r'.length,List.length_map]
 refine TX.zB (zs:=zs) (I1.ok.hd hc) pl.isList (λi v e=>?_) hlen.symm (by rw[hlen];exact hz) λh' tk hS k=>Calls.spliced_nil ?_
 ·have hi:=(List.getElem?_eq_some_iff.mp e).1
  have hi':i<zs.length:=by lia
  obtain⟨u,eu,t,ru⟩:=r'.get (x:=.str zs[i]) (i:=i) (by simp[hi'])
  rw[e]at eu;cases eu
  exact⟨zs[i],t,List.getElem?_eq_getElem hi',ru⟩
 ·refine Mc (s:={s1 with heap:=h',toks:=tk}) hc hu (I1.kept (t':=tk) λb u e=>k b u (Heap.lt_size e) e) hS ⟨Nat.le_trans (TX.lP zs) hf.1,Nat.lt_of_le_of_lt (TX.lP zs) hf.2⟩ λl rs hl hp pw=>q l rs hl ?_ (λz=>?_) pw
  ·exact hp.nodup_iff.mpr (TX.vj zs)
  ·rw[hp.mem_iff,TX.zu]
end
theorem zW:∀{Ts:List String}{us:List Value},Vals (Ts.map V.ty) us->us=Ts.map Value.type
 |[],_,.nil=>rfl
 |T::Ts,_,.cons h t=>by
  cases(show _=Value.type T from h)
  rw[zW t];rfl
theorem vp{X:Cx}:iM X (.builtin "isinstance") (λxs H Q=>∃(a tp:Addr) (ys:List V) (Ts:List String) (t:Value) (b:Bool),xs=[.ref a,.ref tp]/\((H a=some (.lst ys)/\t=.type "list")\/(H a=some (.tup ys)/\t=.type "tuple"))/\H tp=some (.tup (Ts.map V.ty))/\PySem.W.kitAny X.K t (Ts.map Value.type)=some b/\Q (.bl b) H):=by
 intro pins s σ H xs us Q I r h
 obtain⟨a,tp,ys,Ts,t,b,rfl,ha,hp,e,q⟩:=h
 obtain⟨u,w',rfl,rx,ry⟩:=vals2 r
 cases ry
 cases rx
 obtain⟨its,rv,⟨⟨c0,d0,da,sl⟩,e0,hc,n,hs⟩,_⟩:=I.tuple (bu.of (K:=X.K) hp)
 have ev:=zW rv
 subst ev
 cases hc
 cases hs
 rcases ha with⟨ha,rfl⟩|⟨ha,rfl⟩
 ·obtain⟨_,_,n,_,h1⟩:=(show cC X.prog X.w H s.heap a (.lst ys)from I.hok a _ ha)
  exact PySem.W.kia_tup PySem.W.kitx_list I.mX ⟨_,h1,rfl⟩ e0 e (λz=>nomatch z) λtk=>⟨.bl b,H,I.tok _,rfl,q⟩
 ·obtain⟨_,_,_,p⟩:=(show cC X.prog X.w H s.heap a (.tup ys)from I.hok a _ ha)
  obtain⟨o,h1,h2,_⟩:=p
  exact PySem.W.kia_tup PySem.W.kitx_tuple I.mX ⟨o,h1,h2⟩ e0 e (λz=>nomatch z) λtk=>⟨.bl b,H,I.tok _,rfl,q⟩
end L2
seal L2.PE L2.PT L2.PW L2.PA L2.PS L2.vN L2.PG L2.Po L2.PI L2.OI L2.Dg L2.iR L2.LP L2.iM L2.Hv L2.Va L2.PO
namespace K1
theorem Oo{a s:Int}(hs:1<=s)(ha:a<0):a<=a/s:=by
 have h1:a<(a/s+1)*s:=Int.lt_ediv_add_one_mul_self a LI
 refine Int.not_lt.mp λh=>?_
 have h2:(a/s+1)*s<=(a/s+1)*1:=Int.mul_le_mul_of_nonpos_left LI hs
 rw[Int.mul_one]at h2
 lia
theorem Om{a s:Int}(hs:1<=s)(ha:0<=a):0<=a/s/\a/s<=a:=⟨Int.ediv_nonneg ha LI,Int.ediv_le_self _ ha⟩
theorem JE{a s:Int}(hs:1<=s)(ha:a<0):a/s<0:=Int.ediv_neg_of_neg_of_pos ha LI
theorem zA{a s b:Int}(hs:1<=s)(h1: -b<a)(h2:a<b): -b<a/s/\a/s<b:=by
 by_cases h:a<0
 ·have:=Oo hs h
  have:=JE hs h
  lia
 ·have:=Om hs (Int.not_lt.mp h)
  lia
def Mn(a b c:Int):Int:=if c>0 then(if a<b then(b-a-1)/c+1 else 0)else(if a>b then(a-b-1)/(-c)+1 else 0)
theorem GI{t l s:Int}(hs:1<=s):t-l<((t-l)/s+1)*s:=Int.lt_ediv_add_one_mul_self _ LI
theorem Mm{t l s:Int}(hs:1<=s)(hl:l<=100*s):Mn (((t-l)/s+1)*s) (t+1) s<=100:=by
 unfold Mn
 rw[if_pos LI]
 split
 ·have h:=GI (t:=t) (l:=l) hs
  have h2:(t+1-((t-l)/s+1)*s-1)/s<100:=Int.ediv_lt_of_lt_mul LI LI
  lia
 ·lia
theorem MV{a s q:Int}(hs:1<=s):q*s<=a↔q<=a/s:=(Int.le_ediv_iff_mul_le LI).symm
open PySem PySem.Spec PyProof.Rows L2
def top(i:Nat):Stmt:=PySem.Challenge.pw_weirgauge_k09_too_late.main.body.getD i (.Pass ⟨0,0,0,0⟩)
abbrev fY:Stmt:=top 7
theorem yM:aP ["plan"] ["plan"] (ao fY):=⟨rfl,rfl,rfl,DK,rfl,DK,DK⟩
theorem zE(kV doc pm:Value)(an:Option Addr)(cdv ct:Value)(us:List Value)(hl:us.length=[("plan":Str)].length):bindArgs (PySem.W.fnOf "kind_of" "kind_of" (aI fY) (aE fY) (ao fY) .none kV doc pm an cdv ct) ⟨us,[]⟩=pure ((["plan"]:List Str).zip us):=by
 obtain⟨_,rfl⟩:=oG hl
 rfl
abbrev eV:Stmt:=top 8
theorem uL:aP ["plan"] ["plan"] (ao eV):=⟨rfl,rfl,rfl,DK,rfl,DK,DK⟩
theorem vq(kV doc pm:Value)(an:Option Addr)(cdv ct:Value)(us:List Value)(hl:us.length=[("plan":Str)].length):bindArgs (PySem.W.fnOf "length_of" "length_of" (aI eV) (aE eV) (ao eV) .none kV doc pm an cdv ct) ⟨us,[]⟩=pure ((["plan"]:List Str).zip us):=by
 obtain⟨_,rfl⟩:=oG hl
 rfl
abbrev fX:Stmt:=top 9
theorem yL:aP ["plan"] ["plan"] (ao fX):=⟨rfl,rfl,rfl,DK,rfl,DK,DK⟩
theorem zD(kV doc pm:Value)(an:Option Addr)(cdv ct:Value)(us:List Value)(hl:us.length=[("plan":Str)].length):bindArgs (PySem.W.fnOf "step_of" "step_of" (aI fX) (aE fX) (ao fX) .none kV doc pm an cdv ct) ⟨us,[]⟩=pure ((["plan"]:List Str).zip us):=by
 obtain⟨_,rfl⟩:=oG hl
 rfl
abbrev fH:Stmt:=top 10
theorem wM:aP ["plan"] ["plan"] (ao fH):=⟨rfl,rfl,rfl,DK,rfl,DK,DK⟩
theorem xY(kV doc pm:Value)(an:Option Addr)(cdv ct:Value)(us:List Value)(hl:us.length=[("plan":Str)].length):bindArgs (PySem.W.fnOf "grace_of" "grace_of" (aI fH) (aE fH) (ao fH) .none kV doc pm an cdv ct) ⟨us,[]⟩=pure ((["plan"]:List Str).zip us):=by
 obtain⟨_,rfl⟩:=oG hl
 rfl
abbrev dW:Stmt:=top 13
theorem iN:aP ["plan","length","step"] ["plan"] (ao dW):=⟨rfl,rfl,rfl,DK,rfl,DK,DK⟩
theorem sJ(kV doc pm:Value)(an:Option Addr)(cdv ct:Value)(us:List Value)(hl:us.length=[("plan":Str)].length):bindArgs (PySem.W.fnOf "check_plan" "check_plan" (aI dW) (aE dW) (ao dW) .none kV doc pm an cdv ct) ⟨us,[]⟩=pure ((["plan"]:List Str).zip us):=by
 obtain⟨_,rfl⟩:=oG hl
 rfl
abbrev fG:Stmt:=top 14
theorem iH:aP ["plan","time","length","step","first"] ["plan","time"] (ao fG):=⟨rfl,rfl,rfl,DK,rfl,DK,DK⟩
theorem xX(kV doc pm:Value)(an:Option Addr)(cdv ct:Value)(us:List Value)(hl:us.length=[("plan":Str),("time":Str)].length):bindArgs (PySem.W.fnOf "spans_at" "spans_at" (aI fG) (aE fG) (ao fG) .none kV doc pm an cdv ct) ⟨us,[]⟩=pure ((["plan","time"]:List Str).zip us):=by
 obtain⟨_,_,rfl⟩:=iz hl
 rfl
abbrev gW:Stmt:=top 17
theorem BU:aP ["keys"] ["keys"] (ao gW):=⟨rfl,rfl,rfl,DK,rfl,DK,DK⟩
theorem Dc(kV doc pm:Value)(an:Option Addr)(cdv ct:Value)(us:List Value)(hl:us.length=[("keys":Str)].length):bindArgs (PySem.W.fnOf "joined" "joined" (aI gW) (aE gW) (ao gW) .none kV doc pm an cdv ct) ⟨us,[]⟩=pure ((["keys"]:List Str).zip us):=by
 obtain⟨_,rfl⟩:=oG hl
 rfl
abbrev fZ:Stmt:=top 19
theorem qM:aP ["plan","deeds","desk"] ["plan","deeds"] (ao fZ):=⟨rfl,rfl,rfl,DK,rfl,DK,DK⟩
theorem zF(kV doc pm:Value)(an:Option Addr)(cdv ct:Value)(us:List Value)(hl:us.length=[("plan":Str),("deeds":Str)].length):bindArgs (PySem.W.fnOf "answers" "answers" (aI fZ) (aE fZ) (ao fZ) .none kV doc pm an cdv ct) ⟨us,[]⟩=pure ((["plan","deeds"]:List Str).zip us):=by
 obtain⟨_,_,rfl⟩:=iz hl
 rfl
abbrev fE:Stmt:=top 20
theorem pN:aP ["plan","deeds","desk"] ["plan","deeds"] (ao fE):=⟨rfl,rfl,rfl,DK,rfl,DK,DK⟩
theorem xW(kV doc pm:Value)(an:Option Addr)(cdv ct:Value)(us:List Value)(hl:us.length=[("plan":Str),("deeds":Str)].length):bindArgs (PySem.W.fnOf "standing" "standing" (aI fE) (aE fE) (ao fE) .none kV doc pm an cdv ct) ⟨us,[]⟩=pure ((["plan","deeds"]:List Str).zip us):=by
 obtain⟨_,_,rfl⟩:=iz hl
 rfl
abbrev dU:Stmt:=top 21
theorem kO:aP ["plan","deeds","desk"] ["plan","deeds"] (ao dU):=⟨rfl,rfl,rfl,DK,rfl,DK,DK⟩
theorem sI(kV doc pm:Value)(an:Option Addr)(cdv ct:Value)(us:List Value)(hl:us.length=[("plan":Str),("deeds":Str)].length):bindArgs (PySem.W.fnOf "kept_after" "kept_after" (aI dU) (aE dU) (ao dU) .none kV doc pm an cdv ct) ⟨us,[]⟩=pure ((["plan","deeds"]:List Str).zip us):=by
 obtain⟨_,_,rfl⟩:=iz hl
 rfl
abbrev gU:Stmt:=top 22
theorem BS:aP ["plan","deeds"] ["plan","deeds"] (ao gU):=⟨rfl,rfl,rfl,DK,rfl,DK,DK⟩
theorem C_(kV doc pm:Value)(an:Option Addr)(cdv ct:Value)(us:List Value)(hl:us.length=[("plan":Str),("deeds":Str)].length):bindArgs (PySem.W.fnOf "missed" "missed" (aI gU) (aE gU) (ao gU) .none kV doc pm an cdv ct) ⟨us,[]⟩=pure ((["plan","deeds"]:List Str).zip us):=by
 obtain⟨_,_,rfl⟩:=iz hl
 rfl
abbrev dH:Stmt:=top 23
theorem ie:aP ["plan","deeds","desk","deed"] ["plan","deeds"] (ao dH):=⟨rfl,rfl,rfl,DK,rfl,DK,DK⟩
theorem rJ(kV doc pm:Value)(an:Option Addr)(cdv ct:Value)(us:List Value)(hl:us.length=[("plan":Str),("deeds":Str)].length):bindArgs (PySem.W.fnOf "desk_behind" "desk_behind" (aI dH) (aE dH) (ao dH) .none kV doc pm an cdv ct) ⟨us,[]⟩=pure ((["plan","deeds"]:List Str).zip us):=by
 obtain⟨_,_,rfl⟩:=iz hl
 rfl
abbrev fq:Stmt:=top 25
theorem kU:aP ["_law_found","_law_meant","_law_k"] ["_law_found","_law_meant"] (ao fq):=⟨rfl,rfl,rfl,DK,rfl,DK,DK⟩
theorem rK(kV doc pm:Value)(an:Option Addr)(cdv ct:Value)(us:List Value)(hl:us.length=[("_law_found":Str),("_law_meant":Str)].length):bindArgs (PySem.W.fnOf "_law_so" "_law_so" (aI fq) (aE fq) (ao fq) .none kV doc pm an cdv ct) ⟨us,[]⟩=pure ((["_law_found","_law_meant"]:List Str).zip us):=by
 obtain⟨_,_,rfl⟩:=iz hl
 rfl
abbrev dX:Stmt:=top 26
theorem sD:aP ["_law_found"] ["_law_found"] (ao dX):=⟨rfl,rfl,rfl,DK,rfl,DK,DK⟩
theorem sL(kV doc pm:Value)(an:Option Addr)(cdv ct:Value)(us:List Value)(hl:us.length=[("_law_found":Str)].length):bindArgs (PySem.W.fnOf "_law_whole" "_law_whole" (aI dX) (aE dX) (ao dX) .none kV doc pm an cdv ct) ⟨us,[]⟩=pure ((["_law_found"]:List Str).zip us):=by
 obtain⟨_,rfl⟩:=oG hl
 rfl
abbrev f_:Stmt:=top 27
theorem yN:aP ["_law_script","_law_k"] ["_law_script","_law_k"] (ao f_):=⟨rfl,rfl,rfl,DK,rfl,DK,DK⟩
theorem zG(kV doc pm:Value)(an:Option Addr)(cdv ct:Value)(us:List Value)(hl:us.length=[("_law_script":Str),("_law_k":Str)].length):bindArgs (PySem.W.fnOf "_law_at" "_law_at" (aI f_) (aE f_) (ao f_) .none kV doc pm an cdv ct) ⟨us,[]⟩=pure ((["_law_script","_law_k"]:List Str).zip us):=by
 obtain⟨_,_,rfl⟩:=iz hl
 rfl
abbrev dh:Stmt:=top 28
theorem bR:aP ["_law_one","_law_two","_law_spot","_law_large","_law_wide","_law_length","_law_grace","_law_steps"] ["_law_one","_law_two"] (ao dh):=⟨rfl,rfl,rfl,DK,rfl,DK,DK⟩
theorem qg(kV doc pm:Value)(an:Option Addr)(cdv ct:Value)(us:List Value)(hl:us.length=[("_law_one":Str),("_law_two":Str)].length):bindArgs (PySem.W.fnOf "_law_plan_of" "_law_plan_of" (aI dh) (aE dh) (ao dh) .none kV doc pm an cdv ct) ⟨us,[]⟩=pure ((["_law_one","_law_two"]:List Str).zip us):=by
 obtain⟨_,_,rfl⟩:=iz hl
 rfl
abbrev eW:Stmt:=top 29
theorem uM:aP ["_law_sign","_law_base"] ["_law_sign","_law_base"] (ao eW):=⟨rfl,rfl,rfl,DK,rfl,DK,DK⟩
theorem vt(kV doc pm:Value)(an:Option Addr)(cdv ct:Value)(us:List Value)(hl:us.length=[("_law_sign":Str),("_law_base":Str)].length):bindArgs (PySem.W.fnOf "_law_long" "_law_long" (aI eW) (aE eW) (ao eW) .none kV doc pm an cdv ct) ⟨us,[]⟩=pure ((["_law_sign","_law_base"]:List Str).zip us):=by
 obtain⟨_,_,rfl⟩:=iz hl
 rfl
abbrev cP:Stmt:=top 30
theorem b_:aP ["_law_cell","_law_k","_law_base","_law_name","_law_time","_law_amount"] ["_law_cell","_law_k","_law_base"] (ao cP):=⟨rfl,rfl,rfl,DK,rfl,DK,DK⟩
theorem oV(kV doc pm:Value)(an:Option Addr)(cdv ct:Value)(us:List Value)(hl:us.length=[("_law_cell":Str),("_law_k":Str),("_law_base":Str)].length):bindArgs (PySem.W.fnOf "_law_event_of" "_law_event_of" (aI cP) (aE cP) (ao cP) .none kV doc pm an cdv ct) ⟨us,[]⟩=pure ((["_law_cell","_law_k","_law_base"]:List Str).zip us):=by
 obtain⟨_,_,_,rfl⟩:=IQ hl
 rfl
abbrev dY:Stmt:=top 31
theorem gw:aP ["_law_cells","_law_base","_law_deeds","_law_k","_law_cell"] ["_law_cells","_law_base"] (ao dY):=⟨rfl,rfl,rfl,DK,rfl,DK,DK⟩
theorem sN(kV doc pm:Value)(an:Option Addr)(cdv ct:Value)(us:List Value)(hl:us.length=[("_law_cells":Str),("_law_base":Str)].length):bindArgs (PySem.W.fnOf "_law_drawn" "_law_drawn" (aI dY) (aE dY) (ao dY) .none kV doc pm an cdv ct) ⟨us,[]⟩=pure ((["_law_cells","_law_base"]:List Str).zip us):=by
 obtain⟨_,_,rfl⟩:=iz hl
 rfl
abbrev dj:Stmt:=top 32
theorem jz:aP ["_law_cell","_law_far"] ["_law_cell"] (ao dj):=⟨rfl,rfl,rfl,DK,rfl,DK,DK⟩
theorem qi(kV doc pm:Value)(an:Option Addr)(cdv ct:Value)(us:List Value)(hl:us.length=[("_law_cell":Str)].length):bindArgs (PySem.W.fnOf "_law_base_of" "_law_base_of" (aI dj) (aE dj) (ao dj) .none kV doc pm an cdv ct) ⟨us,[]⟩=pure ((["_law_cell"]:List Str).zip us):=by
 obtain⟨_,rfl⟩:=oG hl
 rfl
abbrev di:Stmt:=top 33
theorem jy:aP ["_law_found","_law_number"] ["_law_found"] (ao di):=⟨rfl,rfl,rfl,DK,rfl,DK,DK⟩
theorem qh(kV doc pm:Value)(an:Option Addr)(cdv ct:Value)(us:List Value)(hl:us.length=[("_law_found":Str)].length):bindArgs (PySem.W.fnOf "_law_is_said" "_law_is_said" (aI di) (aE di) (ao di) .none kV doc pm an cdv ct) ⟨us,[]⟩=pure ((["_law_found"]:List Str).zip us):=by
 obtain⟨_,rfl⟩:=oG hl
 rfl
abbrev cQ:Stmt:=top 34
theorem iX:aP ["_law_found","_law_one"] ["_law_found"] (ao cQ):=⟨rfl,rfl,rfl,DK,rfl,DK,DK⟩
theorem oW(kV doc pm:Value)(an:Option Addr)(cdv ct:Value)(us:List Value)(hl:us.length=[("_law_found":Str)].length):bindArgs (PySem.W.fnOf "_law_are_said" "_law_are_said" (aI cQ) (aE cQ) (ao cQ) .none kV doc pm an cdv ct) ⟨us,[]⟩=pure ((["_law_found"]:List Str).zip us):=by
 obtain⟨_,rfl⟩:=oG hl
 rfl
abbrev cV:Stmt:=top 35
theorem ig:aP ["_law_times","_law_gap","_law_spans","_law_time"] ["_law_times","_law_gap"] (ao cV):=⟨rfl,rfl,rfl,DK,rfl,DK,DK⟩
theorem rL(kV doc pm:Value)(an:Option Addr)(cdv ct:Value)(us:List Value)(hl:us.length=[("_law_times":Str),("_law_gap":Str)].length):bindArgs (PySem.W.fnOf "_law_pauses" "_law_pauses" (aI cV) (aE cV) (ao cV) .none kV doc pm an cdv ct) ⟨us,[]⟩=pure ((["_law_times","_law_gap"]:List Str).zip us):=by
 obtain⟨_,_,rfl⟩:=iz hl
 rfl
abbrev cO:Stmt:=top 36
theorem cT:aP ["_law_plan","_law_times","_law_step","_law_spans","_law_time","_law_k"] ["_law_plan","_law_times"] (ao cO):=⟨rfl,rfl,rfl,DK,rfl,DK,DK⟩
theorem oU(kV doc pm:Value)(an:Option Addr)(cdv ct:Value)(us:List Value)(hl:us.length=[("_law_plan":Str),("_law_times":Str)].length):bindArgs (PySem.W.fnOf "_law_spans_of" "_law_spans_of" (aI cO) (aE cO) (ao cO) .none kV doc pm an cdv ct) ⟨us,[]⟩=pure ((["_law_plan","_law_times"]:List Str).zip us):=by
 obtain⟨_,_,rfl⟩:=iz hl
 rfl
abbrev bZ:Stmt:=top 37
theorem cS:aP ["_law_plan","_law_events","_law_rows","_law_name","_law_mine","_law_span","_law_inside"] ["_law_plan","_law_events"] (ao bZ):=⟨rfl,rfl,rfl,DK,rfl,DK,DK⟩
theorem oR(kV doc pm:Value)(an:Option Addr)(cdv ct:Value)(us:List Value)(hl:us.length=[("_law_plan":Str),("_law_events":Str)].length):bindArgs (PySem.W.fnOf "_law_table_of" "_law_table_of" (aI bZ) (aE bZ) (ao bZ) .none kV doc pm an cdv ct) ⟨us,[]⟩=pure ((["_law_plan","_law_events"]:List Str).zip us):=by
 obtain⟨_,_,rfl⟩:=iz hl
 rfl
abbrev bK:Stmt:=top 38
theorem fu:aP ["_law_found","_law_due","_law_k","_law_one"] ["_law_found","_law_due"] (ao bK):=⟨rfl,rfl,rfl,DK,rfl,DK,DK⟩
theorem lQ(kV doc pm:Value)(an:Option Addr)(cdv ct:Value)(us:List Value)(hl:us.length=[("_law_found":Str),("_law_due":Str)].length):bindArgs (PySem.W.fnOf "_law_are_missed" "_law_are_missed" (aI bK) (aE bK) (ao bK) .none kV doc pm an cdv ct) ⟨us,[]⟩=pure ((["_law_found","_law_due"]:List Str).zip us):=by
 obtain⟨_,_,rfl⟩:=iz hl
 rfl
abbrev cE:Stmt:=top 39
theorem fQ:aP ["_law_found","_law_plan","_law_taken","_law_mark","_law_due","_law_row"] ["_law_found","_law_plan","_law_taken","_law_mark"] (ao cE):=⟨rfl,rfl,rfl,DK,rfl,DK,DK⟩
theorem ng(kV doc pm:Value)(an:Option Addr)(cdv ct:Value)(us:List Value)(hl:us.length=[("_law_found":Str),("_law_plan":Str),("_law_taken":Str),("_law_mark":Str)].length):bindArgs (PySem.W.fnOf "_law_stands_so" "_law_stands_so" (aI cE) (aE cE) (ao cE) .none kV doc pm an cdv ct) ⟨us,[]⟩=pure ((["_law_found","_law_plan","_law_taken","_law_mark"]:List Str).zip us):=by
 obtain⟨_,_,_,_,rfl⟩:=Rn hl
 rfl
abbrev kQ:Stmt:=top 40
theorem fO:aP ["_law_script","_law_plan","_law_deeds","_law_mark","_law_taken","_law_due","_law_deed","_law_handed","_law_told","_law_less","_law_left","_law_said","_law_kept"] ["_law_script"] (ao kQ):=⟨rfl,rfl,rfl,DK,rfl,DK,DK⟩
theorem OE(kV doc pm:Value)(an:Option Addr)(cdv ct:Value)(us:List Value)(hl:us.length=[("_law_script":Str)].length):bindArgs (PySem.W.fnOf "law" "law" (aI kQ) (aE kQ) (ao kQ) .none kV doc pm an cdv ct) ⟨us,[]⟩=pure ((["_law_script"]:List Str).zip us):=by
 obtain⟨_,rfl⟩:=oG hl
 rfl
abbrev cR:Stmt:=inClass (top 16) 0
theorem nO:aP ["self","plan"] ["self","plan"] (ao cR):=⟨rfl,rfl,rfl,DK,rfl,DK,DK⟩
theorem oX(kV doc pm:Value)(an:Option Addr)(cdv ct:Value)(us:List Value)(hl:us.length=[("self":Str),("plan":Str)].length):bindArgs (PySem.W.fnOf "__init__" "Desk.__init__" (aI cR) (aE cR) (ao cR) .none kV doc pm an cdv ct) ⟨us,[]⟩=pure ((["self","plan"]:List Str).zip us):=by
 obtain⟨_,_,rfl⟩:=iz hl
 rfl
abbrev dN:Stmt:=inClass (top 16) 1
theorem uN:aP ["self"] ["self"] (ao dN):=⟨rfl,rfl,rfl,DK,rfl,DK,DK⟩
theorem vz(kV doc pm:Value)(an:Option Addr)(cdv ct:Value)(us:List Value)(hl:us.length=[("self":Str)].length):bindArgs (PySem.W.fnOf "rows" "Desk.rows" (aI dN) (aE dN) (ao dN) .none kV doc pm an cdv ct) ⟨us,[]⟩=pure ((["self"]:List Str).zip us):=by
 obtain⟨_,rfl⟩:=oG hl
 rfl
abbrev cF:Stmt:=inClass (top 16) 2
theorem mF:aP ["self","end"] ["self","end"] (ao cF):=⟨rfl,rfl,rfl,DK,rfl,DK,DK⟩
theorem ni(kV doc pm:Value)(an:Option Addr)(cdv ct:Value)(us:List Value)(hl:us.length=[("self":Str),("end":Str)].length):bindArgs (PySem.W.fnOf "is_closed" "Desk.is_closed" (aI cF) (aE cF) (ao cF) .none kV doc pm an cdv ct) ⟨us,[]⟩=pure ((["self","end"]:List Str).zip us):=by
 obtain⟨_,_,rfl⟩:=iz hl
 rfl
abbrev dm:Stmt:=inClass (top 16) 3
theorem pZ:aP ["self","end"] ["self","end"] (ao dm):=⟨rfl,rfl,rfl,DK,rfl,DK,DK⟩
theorem qj(kV doc pm:Value)(an:Option Addr)(cdv ct:Value)(us:List Value)(hl:us.length=[("self":Str),("end":Str)].length):bindArgs (PySem.W.fnOf "is_kept" "Desk.is_kept" (aI dm) (aE dm) (ao dm) .none kV doc pm an cdv ct) ⟨us,[]⟩=pure ((["self","end"]:List Str).zip us):=by
 obtain⟨_,_,rfl⟩:=iz hl
 rfl
abbrev bQ:Stmt:=inClass (top 16) 4
theorem kB:aP ["self","time"] ["self","time"] (ao bQ):=⟨rfl,rfl,rfl,DK,rfl,DK,DK⟩
theorem kI(kV doc pm:Value)(an:Option Addr)(cdv ct:Value)(us:List Value)(hl:us.length=[("self":Str),("time":Str)].length):bindArgs (PySem.W.fnOf "is_too_late" "Desk.is_too_late" (aI bQ) (aE bQ) (ao bQ) .none kV doc pm an cdv ct) ⟨us,[]⟩=pure ((["self","time"]:List Str).zip us):=by
 obtain⟨_,_,rfl⟩:=iz hl
 rfl
abbrev gf:Stmt:=inClass (top 16) 5
theorem yO:aP ["self","deed"] ["self","deed"] (ao gf):=⟨rfl,rfl,rfl,DK,rfl,DK,DK⟩
theorem zH(kV doc pm:Value)(an:Option Addr)(cdv ct:Value)(us:List Value)(hl:us.length=[("self":Str),("deed":Str)].length):bindArgs (PySem.W.fnOf "do" "Desk.do" (aI gf) (aE gf) (ao gf) .none kV doc pm an cdv ct) ⟨us,[]⟩=pure ((["self","deed"]:List Str).zip us):=by
 obtain⟨_,_,rfl⟩:=iz hl
 rfl
abbrev bg:Stmt:=inClass (top 16) 6
theorem iI:aP ["self","time","told"] ["self","time"] (ao bg):=⟨rfl,rfl,rfl,DK,rfl,DK,DK⟩
theorem nh(kV doc pm:Value)(an:Option Addr)(cdv ct:Value)(us:List Value)(hl:us.length=[("self":Str),("time":Str)].length):bindArgs (PySem.W.fnOf "take_mark" "Desk.take_mark" (aI bg) (aE bg) (ao bg) .none kV doc pm an cdv ct) ⟨us,[]⟩=pure ((["self","time"]:List Str).zip us):=by
 obtain⟨_,_,rfl⟩:=iz hl
 rfl
abbrev bL:Stmt:=inClass (top 16) 7
theorem bz:aP ["self","name","time","amount","keys","met","key","gone","told"] ["self","name","time","amount"] (ao bL):=⟨rfl,rfl,rfl,DK,rfl,DK,DK⟩
theorem lR(kV doc pm:Value)(an:Option Addr)(cdv ct:Value)(us:List Value)(hl:us.length=[("self":Str),("name":Str),("time":Str),("amount":Str)].length):bindArgs (PySem.W.fnOf "take_event" "Desk.take_event" (aI bL) (aE bL) (ao bL) .none kV doc pm an cdv ct) ⟨us,[]⟩=pure ((["self","name","time","amount"]:List Str).zip us):=by
 obtain⟨_,_,_,_,rfl⟩:=Rn hl
 rfl
abbrev bC:Stmt:=inClass (top 16) 8
theorem ko:aP ["self","alone"] ["self","alone"] (ao bC):=⟨rfl,rfl,rfl,DK,rfl,DK,DK⟩
theorem kH(kV doc pm:Value)(an:Option Addr)(cdv ct:Value)(us:List Value)(hl:us.length=[("self":Str),("alone":Str)].length):bindArgs (PySem.W.fnOf "keys_met_by" "Desk.keys_met_by" (aI bC) (aE bC) (ao bC) .none kV doc pm an cdv ct) ⟨us,[]⟩=pure ((["self","alone"]:List Str).zip us):=by
 obtain⟨_,_,rfl⟩:=iz hl
 rfl
abbrev bM:Stmt:=inClass (top 16) 9
theorem gB:aP ["self","keys","target","key"] ["self","keys","target"] (ao bM):=⟨rfl,rfl,rfl,DK,rfl,DK,DK⟩
theorem jT(kV doc pm:Value)(an:Option Addr)(cdv ct:Value)(us:List Value)(hl:us.length=[("self":Str),("keys":Str),("target":Str)].length):bindArgs (PySem.W.fnOf "move_tallies" "Desk.move_tallies" (aI bM) (aE bM) (ao bM) .none kV doc pm an cdv ct) ⟨us,[]⟩=pure ((["self","keys","target"]:List Str).zip us):=by
 obtain⟨_,_,_,rfl⟩:=IQ hl
 rfl
abbrev cG:Stmt:=inClass (top 16) 10
theorem iJ:aP ["self","key","tally","ahead"] ["self","key","tally"] (ao cG):=⟨rfl,rfl,rfl,DK,rfl,DK,DK⟩
theorem nj(kV doc pm:Value)(an:Option Addr)(cdv ct:Value)(us:List Value)(hl:us.length=[("self":Str),("key":Str),("tally":Str)].length):bindArgs (PySem.W.fnOf "add_tally" "Desk.add_tally" (aI cG) (aE cG) (ao cG) .none kV doc pm an cdv ct) ⟨us,[]⟩=pure ((["self","key","tally"]:List Str).zip us):=by
 obtain⟨_,_,_,rfl⟩:=IQ hl
 rfl
inductive Pl where
 |fixed(l g:Int)|sliding(l s g:Int)|pauses(l g:Int)
def Pl.row:Pl->List V
 |.fixed l g=>[.str "fixed",.int l,.int g]
 |.sliding l s g=>[.str "sliding",.int l,.int s,.int g]
 |.pauses l g=>[.str "pauses",.int l,.int g]
def Pl.kind:Pl->Str
 |.fixed _ _=>"fixed"
 |.sliding _ _ _=>"sliding"
 |.pauses _ _=>"pauses"
def Pl.len:Pl->Int
 |.fixed l _=>l
 |.sliding l _ _=>l
 |.pauses l _=>l
def Pl.stp:Pl->Int
 |.fixed l _=>l
 |.sliding _ s _=>s
 |.pauses l _=>l
structure Pl.ok(p:Pl):Prop where
 l1:1<=p.len
 l2:p.len<10^45
 s1:1<=p.stp
 s2:p.stp<10^45
 ls:p.len<=100*p.stp
theorem QX:¬(("fixed":Str)="sliding"):=DK
theorem Ww:¬(("pauses":Str)="sliding"):=DK
theorem QY:¬(("fixed":Str)="pauses"):=DK
theorem QW:¬(("sliding":Str)="pauses"):=DK
theorem GR{a b:Str}(h:decide (V.str a=V.str b)=true):a=b:=by
 have h':=of_decide_eq_true h
 injection h'
theorem EV(p:Pl):yr p.row 0=some (.str p.kind):=by cases p<;>rfl
theorem wO(p:Pl):yr p.row 1=some (.int p.len):=by cases p<;>rfl
def gj(p:Pl)(t:Int):Int:=((t-p.len)/p.stp+1)*p.stp
def cnt(p:Pl)(t:Int):Nat:=mG (gj p t) (t+1) p.stp
def win(p:Pl)(t:Int)(i:Nat):List V:=[.int (gj p t+i*p.stp),.int (gj p t+i*p.stp+p.len)]
def HP(p:Pl)(t:Int):List (List V):=match p with
 |.pauses l _=>[[.int t,.int (t+l)]]
 |p=>(List.range (cnt p t)).map (win p t)
def rQ(H:Hp):List V->List (List V)->Prop:=Paired λx row=>∃a,x=.ref a/\H a=some (.tup row)
theorem rQ.keep{H H':Hp}{xs:List V}{rows:List (List V)}(h:rQ H xs rows)(k:∀a row,H a=some (.tup row)->H' a=some (.tup row)):rQ H' xs rows:=
 Paired.imp' (λ_ _ ⟨a,e,h⟩=>⟨a,e,k a _ h⟩) h
theorem rQ.snoc{H:Hp}{xs:List V}{rows:List (List V)}{a:Addr}{row:List V}(h:rQ H xs rows)(e:H a=some (.tup row)):rQ H (xs++[.ref a]) (rows++[row]):=Paired.snoc h ⟨_,rfl,e⟩
theorem rQ.len{H:Hp}{xs:List V}{rows:List (List V)}(h:rQ H xs rows):xs.length=rows.length:=Paired.length h
theorem Hf{p:Pl}{t:Int}(h:p.ok):cnt p t<=100:=by
 have:=Mm (t:=t) h.s1 h.ls
 unfold cnt mG gj
 show(Mn _ _ _).toNat<=100
 lia
inductive Av(K:Fg7)(vs:List V)(H:Hp)(Q:VK):Prop
 |mk(p:Addr)(pl:Pl):(vs=[.ref p])->(bu K H p pl.row)->(Q (.str pl.kind) H)->Av K vs H Q
def uG(K:Fg7):Sp:=λvs H Q d_=>Av K vs H Q
inductive Eo(K:Fg7)(vs:List V)(H:Hp)(Q:VK):Prop
 |mk(p:Addr)(pl:Pl):(vs=[.ref p])->(bu K H p pl.row)->(Q (.int pl.len) H)->Eo K vs H Q
def As(K:Fg7):Sp:=λvs H Q d_=>Eo K vs H Q
inductive Ef(K:Fg7)(vs:List V)(H:Hp)(Q:VK):Prop
 |mk(p:Addr)(pl:Pl):(vs=[.ref p])->(bu K H p pl.row)->(Q (.int pl.stp) H)->Ef K vs H Q
def Eg(K:Fg7):Sp:=λvs H Q d_=>Ef K vs H Q
inductive wB(K:Fg7)(vs:List V)(H:Hp)(Q:VK):Prop
 |mk(p:Addr)(pl:Pl)(t:Int):(vs=[.ref p,.int t])->(bu K H p pl.row)->(pl.ok)->((-(10^45)<t/\t<10^45))->(∀(l:Addr)(xs:List V)(H':Hp),aA H H'->H l=none->H' l=some (.lst xs)->rQ H' xs (HP pl t)->Q (.ref l) H')->wB K vs H Q
def Aj(K:Fg7):Sp:=λvs H Q d_=>wB K vs H Q
structure Bi(K:Fg7):Prop where
 vA:PySem.W.nsIn K mainGlobals "bool"=some none
 OG:PySem.W.nsIn K mainGlobals "dict"=some none
 Ho:PySem.W.nsIn K mainGlobals "int"=some none
 aN:PySem.W.nsIn K mainGlobals "isinstance"=some none
 gE:PySem.W.nsIn K mainGlobals "len"=some none
 fB:PySem.W.nsIn K mainGlobals "list"=some none
 TR:PySem.W.nsIn K mainGlobals "max"=some none
 TN:PySem.W.nsIn K mainGlobals "min"=some none
 nq:PySem.W.nsIn K mainGlobals "range"=some none
 TM:PySem.W.nsIn K mainGlobals "set"=some none
 jc:PySem.W.nsIn K mainGlobals "sorted"=some none
 xZ:PySem.W.nsIn K mainGlobals "str"=some none
 TL:PySem.W.nsIn K mainGlobals "sum"=some none
 nk:PySem.W.nsIn K mainGlobals "tuple"=some none
section
variable {P:Program} {w:World} {K:Fg7} {mg:Str->Option Value}
theorem N_(D:aJ K "kind_of" fY)(M:MG K mg):ef P w K mg "kind_of" ["plan"] 1 (uG K):=by
 refine D.fn M yM zE (λvs H Q E h=>?_) (λf base cdv A outer s H vs Q E hr h=>?_)
 ·obtain⟨p,pl,rfl,_⟩:=h
  rfl
 ·obtain⟨p,pl,rfl,hp,k⟩:=h
  refine⟨_,(au (aL (aH a_ (pv 0) ah (λ_ _=>rfl)))),?_⟩
  exact⟨_,rfl,p,_,0,_,rfl,rfl,hp,EV pl,k⟩
theorem Tg(D:aJ K "length_of" eV)(M:MG K mg):ef P w K mg "length_of" ["plan"] 1 (As K):=by
 refine D.fn M uL vq (λvs H Q E h=>?_) (λf base cdv A outer s H vs Q E hr h=>?_)
 ·obtain⟨p,pl,rfl,_⟩:=h
  rfl
 ·obtain⟨p,pl,rfl,hp,k⟩:=h
  refine⟨_,(au (aL (aH a_ (pv 0) ah (λ_ _=>rfl)))),?_⟩
  exact⟨_,rfl,p,_,1,_,rfl,rfl,hp,wO pl,k⟩
theorem Tc(D:aJ K "step_of" fX)(M:MG K mg)(pe:dZ K "SLIDING" (.str "sliding"))(jf:ef P w K mg "kind_of" ["plan"] 1 (uG K))(gF:ef P w K mg "length_of" ["plan"] 1 (As K)):
  ef P w K mg "step_of" ["plan"] 2 (Eg K):=by
 refine D.fn M yL zD (λvs H Q E h=>?_) (λf base cdv A outer s H vs Q E hr h=>?_)
 ·obtain⟨p,pl,rfl,_⟩:=h
  rfl
 ·obtain⟨p,pl,rfl,hp,k⟩:=h
  refine⟨_,(aq (bw (aK dF (aW jf (hr.mono (by decide)) rfl (pc (pv 0) aj)) (jI pe M rfl) (aM _)) (au (aL (aH a_ (pv 0) ah (λ_ _=>rfl)))) aR)
   (au (aL (aW gF (hr.mono (by decide)) rfl (pc (pv 0) aj))))),?_⟩
  refine⟨_,rfl,p,pl,rfl,hp,rfl,_,rfl,?_⟩
  refine aO (λh=>?_) (λh=>?_)
  ·have e:=GR h
   cases pl with
   |fixed l g=>exact absurd e QX
   |pauses l g=>exact absurd e Ww
   |sliding l s g=>exact⟨_,rfl,p,_,2,_,rfl,rfl,hp,rfl,k⟩
  ·refine⟨_,rfl,p,pl,rfl,hp,?_⟩
   cases pl with
   |fixed l g=>exact k
   |pauses l g=>exact k
   |sliding l s g=>exact absurd (decide_eq_true rfl) h
end
theorem oY(ls:List Int){i:Int}(h0:0<=i)(h1:i<ls.length):yr (ls.map V.int) i=some (.int (ls.getD i.toNat 0)):=by
 obtain⟨n,rfl⟩:∃n:Nat,i=n:=⟨i.toNat,by lia⟩
 have hn:n<ls.length:=by lia
 refine fR ?_
 simp[List.getD,hn]
theorem jM(a b:Int)(h:0<b):0<=a%b/\a%b<b:=⟨Int.emod_nonneg _ LI,Int.emod_lt_of_pos _ h⟩
inductive Ey(K:Fg7)(vs:List V)(H:Hp)(Q:VK):Prop
 |mk(a:Addr)(ns:List Int)(k:Int):(vs=[.ref a,.int k])->(br K H a (ns.map V.int))->(0<=k)->(∀v:Int,Q (.int v) H)->Ey K vs H Q
def Kv(K:Fg7):Sp:=λvs H Q d_=>Ey K vs H Q
section
variable {P:Program} {w:World} {K:Fg7} {mg:Str->Option Value}
theorem Tj(D:aJ K "_law_at" f_)(M:MG K mg)(B:Bi K):ef P w K mg "_law_at" ["_law_script","_law_k"] 1 (Kv K):=by
 refine D.fn M yN zG (λvs H Q E h=>?_) (λf base cdv A outer s H vs Q E hr h=>?_)
 ·obtain⟨a,ns,i,rfl,_⟩:=h
  rfl
 ·obtain⟨a,ns,i,rfl,ha,h0,k⟩:=h
  refine⟨_,(aq (bw (aK oLt (pv 1) (aU aX rfl (M.no _ B.gE) eT (pc (pv 0) aj)) (aM _)) (au (aL (aH cj (pv 0) (pv 1) (λ_ _=>rfl)))) aR)
   (au (aL ah))),?_⟩
  refine⟨_,rfl,_,rfl,a,_,rfl,.inl ha,_,_,rfl,rfl,_,rfl,?_⟩
  refine aO (λh=>?_) (λh=>?_)
  ·have h':=of_decide_eq_true h
   rw[List.length_map]at h'
   exact⟨_,rfl,_,rfl,a,_,_,_,rfl,rfl,ha,oY ns h0 h',k _⟩
  ·exact k 0
end
end K1
namespace K2
open PySem PySem.Spec PyProof.Rows L2 K1
def cB:Pl->Int
 |.fixed _ g=>g
 |.sliding _ _ g=>g
 |.pauses _ g=>g
def bad(p:Pl):Bool:=decide (p.len<1)||decide (p.stp<1)||decide (cB p<0)||decide (100*p.stp<p.len)
theorem ET(p:Pl):yr p.row (-1)=some (.int (cB p)):=by cases p<;>rfl
theorem OF{p:Pl}(h:bad p=false):¬p.len<1/\¬p.stp<1/\¬cB p<0/\¬100*p.stp<p.len:=by
 unfold bad at h
 simp only[Bool.or_eq_false_iff,decide_eq_false_iff_not]at h
 exact⟨h.1.1.1,h.1.1.2,h.1.2,h.2⟩
def fh(p:Addr)(mk:V)(d m:Addr):List (Str×V):=[("plan",.ref p),("mark",mk),("windows",.ref d),("missed",.ref m)]
structure eB(K:Fg7)(C:Addr):Prop where
 cl:vL K "Desk" C
 nP:fD K C "plan"
 nM:fD K C "mark"
 nW:fD K C "windows"
 nS:fD K C "missed"
theorem FP:¬(("plan":Str)="mark"):=DK
theorem Lc:¬(("plan":Str)="windows"):=DK
theorem Ld:¬(("plan":Str)="missed"):=DK
theorem Le:¬(("mark":Str)="windows"):=DK
theorem Lf:¬(("mark":Str)="missed"):=DK
theorem Lb:¬(("windows":Str)="missed"):=DK
theorem Mt(p:Addr):gG "plan" (.ref p) []=([("plan",V.ref p)]:List (Str×V)):=rfl
theorem Ms(p:Addr)(v:V):gG "mark" v [("plan",V.ref p)]=([("plan",V.ref p),("mark",v)]:List (Str×V)):=by
 simp only[gG,if_neg FP]
theorem put2(p d:Addr)(v:V):gG "windows" (.ref d) [("plan",V.ref p),("mark",v)]=([("plan",V.ref p),("mark",v),("windows",V.ref d)]:List (Str×V)):=by
 simp only[gG,if_neg Lc,if_neg Le]
theorem put3(p d m:Addr)(v:V):gG "missed" (.ref m) [("plan",V.ref p),("mark",v),("windows",V.ref d)]=fh p v d m:=by
 simp only[gG,if_neg Ld,if_neg Lf,if_neg Lb,fh]
theorem Wg(p d m:Addr)(v u:V):gG "mark" u (fh p v d m)=fh p u d m:=by
 simp only[gG,if_neg FP,fh,if_true]
theorem jO(p d m:Addr)(v:V)(k:Str):(fh p v d m).lookup k=if k="plan" then some (.ref p)else if k="mark" then some v else if k="windows" then some (.ref d)else if k="missed" then some (.ref m)else none:=by
 unfold fh
 simp only[List.lookup]
 repeat' split
 all_goals simp_all
theorem fP(p d m:Addr)(v:V):(fh p v d m).lookup ("plan":Str)=some (.ref p):=by rw[jO,if_pos rfl]
theorem fM(p d m:Addr)(v:V):(fh p v d m).lookup ("mark":Str)=some v:=by rw[jO,if_neg (Ne.symm FP),if_pos rfl]
theorem fW(p d m:Addr)(v:V):(fh p v d m).lookup ("windows":Str)=some (.ref d):=by rw[jO,if_neg (Ne.symm Lc),if_neg (Ne.symm Le),if_pos rfl]
theorem fS(p d m:Addr)(v:V):(fh p v d m).lookup ("missed":Str)=some (.ref m):=by rw[jO,if_neg (Ne.symm Ld),if_neg (Ne.symm Lf),if_neg (Ne.symm Lb),if_pos rfl]
theorem yq(p d m:Addr)(v:V){k:Str}(h1:¬k="plan")(h2:¬k="mark")(h3:¬k="windows")(h4:¬k="missed"):(fh p v d m).lookup k=none:=by rw[jO,if_neg h1,if_neg h2,if_neg h3,if_neg h4]
inductive wJ(K:Fg7)(vs:List V)(H:Hp)(Q:VK):Prop
 |mk(p:Addr)(pl:Pl):(vs=[.ref p])->(bu K H p pl.row)->(Q (.int (cB pl)) H)->wJ K vs H Q
def qy(K:Fg7):Sp:=λvs H Q d_=>wJ K vs H Q
inductive Ew(K:Fg7)(vs:List V)(H:Hp)(Q:VK):Prop
 |mk(p:Addr)(pl:Pl):(vs=[.ref p])->(bu K H p pl.row)->(bad pl=false)->(Q .eN H)->Ew K vs H Q
def Ku(K:Fg7):Sp:=λvs H Q d_=>Ew K vs H Q
inductive Az(K:Fg7)(C:Addr)(vs:List V)(H:Hp)(Q:VK):Prop
 |mk(x dx p:Addr)(pl:Pl):(vs=[.ref x,.ref p])->(H x=some (.ins C dx []))->(bu K H p pl.row)->(bad pl=false)->(∀(d m:Addr)(H':Hp),H d=none->H m=none->H' x=some (.ins C dx (fh p .eN d m))->H' d=some (.dT [])->H' m=some (.lst [])->(∀b o,H b=some o->b≠x->H' b=some o)->Q .eN H')->Az K C vs H Q
def yH(K:Fg7)(C:Addr):Sp:=λvs H Q d_=>Az K C vs H Q
section
variable {P:Program} {w:World} {K:Fg7} {mg:Str->Option Value} {C B:Addr}
theorem Jw(D:aJ K "grace_of" fH)(M:MG K mg):ef P w K mg "grace_of" ["plan"] 1 (qy K):=by
 refine D.fn M wM xY (λvs H Q E h=>?_) (λf base cdv A outer s H vs Q E hr h=>?_)
 ·obtain⟨p,pl,rfl,_⟩:=h
  rfl
 ·obtain⟨p,pl,rfl,hp,k⟩:=h
  refine⟨_,(au (aL (aH a_ (pv 0) (mL uA ah) (λ_ _=>rfl)))),?_⟩
  exact⟨_,rfl,_,rfl,p,_,-1,_,rfl,rfl,hp,ET pl,k⟩
theorem Ti(D:aJ K "check_plan" dW)(M:MG K mg)(jw:dZ K "MOST_STEPS" (.int 100))(gF:ef P w K mg "length_of" ["plan"] 1 (As K))(pq:ef P w K mg "step_of" ["plan"] 2 (Eg K))
  (iE:ef P w K mg "grace_of" ["plan"] 1 (qy K)):ef P w K mg "check_plan" ["plan"] 3 (Ku K):=by
 refine D.fn M iN sJ (λvs H Q E h=>?_) (λf base cdv A outer s H vs Q E hr h=>?_)
 ·obtain⟨p,pl,rfl,_⟩:=h
  rfl
 ·obtain⟨p,pl,rfl,hp,hb,k⟩:=h
  obtain⟨b1,b2,b3,b4⟩:=OF hb
  refine⟨_,(aq (cW (i:=1) iN.nd rfl (Or.inl rfl) (aW gF (hr.mono (by decide)) rfl (pc (pv 0) aj)))
   (aq (cW (i:=2) iN.nd rfl (Or.inl rfl) (aW pq (hr.mono (by decide)) rfl (pc (pv 0) aj)))
   (aq (bw (aK oLt (pv 1) ah (aM _)) (au jH) aR)
   (aq (bw (aK oLt (pv 2) ah (aM _)) (au jH) aR)
   (aq (bw (aK oLt (aW iE (hr.mono (by decide)) rfl (pc (pv 0) aj)) ah (aM _)) (au jH) aR)
   (au (bw (aK QJ (pv 1) (aD gg (jI jw M rfl) (pv 2)) (aM _)) (au jH) aR))))))),?_⟩
  refine⟨_,rfl,p,pl,rfl,hp,_,rfl,p,pl,rfl,hp,?_⟩
  refine⟨_,rfl,_,_,rfl,rfl,_,rfl,?_⟩
  refine aO (λh=>absurd (of_decide_eq_true h) b1) (λ_=>?_)
  refine⟨_,rfl,_,_,rfl,rfl,_,rfl,?_⟩
  refine aO (λh=>absurd (of_decide_eq_true h) b2) (λ_=>?_)
  refine⟨_,rfl,p,pl,rfl,hp,_,_,rfl,rfl,_,rfl,?_⟩
  refine aO (λh=>absurd (of_decide_eq_true h) b3) (λ_=>?_)
  refine⟨_,rfl,_,rfl,_,_,rfl,rfl,.inl ⟨by decide,by decide⟩,_,_,rfl,rfl,_,rfl,?_⟩
  exact aO (λh=>absurd (of_decide_eq_true h) b4) (λ_=>k)
theorem Oc(D:bA K C "__init__" "Desk.__init__" cR)(T:eB K C)(vE:ef P w K mg "check_plan" ["plan"] 3 (Ku K)):cJ P w K mg iS C "__init__" ["self","plan"] 4 (yH K C):=by
 refine D.fn nO oX (λvs H Q E h=>?_) (λf base cdv A outer s H vs Q E hr h=>?_)
 ·obtain⟨x,dx,p,pl,rfl,_⟩:=h
  rfl
 ·obtain⟨x,dx,p,pl,rfl,hx,hp,hb,k⟩:=h
  refine⟨_,(aq (gI (aW vE (hr.mono (by decide)) rfl (pc (pv 1) aj)))
   (aq (qN (pv 0) (pv 1) rfl)
   (aq (qN (pv 0) iw rfl)
   (aq (qN (pv 0) wV rfl)
   (au (qN (pv 0) (cL aj) rfl)))))),?_⟩
  refine⟨_,rfl,p,pl,rfl,hp,hb,?_⟩
  refine⟨_,rfl,_,rfl,x,C,dx,[],rfl,hx,T.cl.cl,T.nP,(by show 0<1000;decide),?_⟩
  refine⟨_,rfl,x,C,dx,_,rfl,af,T.cl.cl,T.nM,(by show 1<1000;decide),?_⟩
  intro d hd
  have nd:x≠d:=av af hd
  have hd0:H d=none:=by rw[ai nd.symm,ai nd.symm]at hd;exact hd
  refine⟨_,rfl,x,C,dx,_,rfl,(by rw[ai nd];exact af),T.cl.cl,T.nW,(by rw[Mt,Ms];show 2<1000;decide),?_⟩
  refine⟨(by show 0<=sizeLine;decide),λm hm=>?_⟩
  have nm:x≠m:=av af hm
  have Wt:d≠m:=by
   intro z;subst z
   rw[ai nd.symm,af]at hm;cases hm
  have hm0:H m=none:=by rw[ai nm.symm,ai Wt.symm,ai nm.symm,ai nm.symm]at hm;exact hm
  refine⟨_,rfl,x,C,dx,_,rfl,(by rw[ai nm];exact af),T.cl.cl,T.nS,(by rw[Mt,Ms,put2];show 3<1000;decide),?_⟩
  refine k d m _ hd0 hm0 (by rw[Mt,Ms,put2,put3];exact af) (by rw[ai nd.symm,ai Wt,ai nd.symm,af]) (by rw[ai nm.symm,af]) λb o e hb=>?_
  rw[ai hb,ai (av e hm0),ai hb,ai (av e hd0),ai hb,ai hb]
  exact e
end
structure Wn where
 n:Str
 s:Int
 e:Int
 c:Int
 t:Int
def oH(n:Str)(s e:Int):List Key:=[.inr n,.inl s,.inl e]
def Wn.ky(w:Wn):List Key:=oH w.n w.s w.e
def WN(n:Str)(s e:Int):List V:=[.str n,.int s,.int e]
def Hr(H:Hp)(v:V)(w:Wn):Prop:=∃a,v=.ref a/\H a=some (.tup [.int w.c,.int w.t])
def bT(H:Hp):List (List Key×V)->List Wn->Prop:=Paired λp w=>p.1=w.ky/\Hr H p.2 w
theorem bT.keep{H H':Hp}{kvs:List (List Key×V)}{ws:List Wn}(h:bT H kvs ws)(k:∀a row,H a=some (.tup row)->H' a=some (.tup row)):bT H' kvs ws:=
 Paired.imp' (λ_ _ ⟨e,a,e2,z⟩=>⟨e,a,e2,k a _ z⟩) h
theorem bT.len{H:Hp}{kvs:List (List Key×V)}{ws:List Wn}(h:bT H kvs ws):kvs.length=ws.length:=Paired.length h
theorem bT.at{H:Hp}{kvs:List (List Key×V)}{ws:List Wn}(h:bT H kvs ws){i:Nat}{k:List Key}{v:V}(e:kvs[i]? = some (k,v)):∃w,ws[i]? = some w/\k=w.ky/\Hr H v w:=by
 induction h generalizing i with
 |nil=>simp at e
 | @cons p w ps ws r _ ih=>
  cases i with
  |zero=>simp at e;subst e;exact⟨w,rfl,r.1,r.2⟩
  |succ i=>obtain⟨w',h1,h2⟩:=ih (i:=i) (by simpa using e);exact⟨w',by simpa using h1,h2⟩
def yk:Option Int->V
 |none=>.eN
 |some m=>.int m
def closed(mk:Option Int)(e:Int):Bool:=match mk with
 |none=>false
 |some m=>decide (e<=m)
def kept(mk:Option Int)(g e:Int):Bool:=match mk with
 |none=>true
 |some m=>decide (m-g<e)
def late(mk:Option Int)(g t:Int):Bool:=match mk with
 |none=>false
 |some m=>decide (t<m-g)
inductive tO(C:Addr)(vs:List V)(H:Hp)(Q:VK):Prop
 |mk(x dx p d m:Addr)(mk:Option Int)(e:Int):(vs=[.ref x,.int e])->(H x=some (.ins C dx (fh p (yk mk) d m)))->(Q (.bl (closed mk e)) H)->tO C vs H Q
def jG(C:Addr):Sp:=λvs H Q d_=>tO C vs H Q
inductive Au(K:Fg7)(C:Addr)(vs:List V)(H:Hp)(Q:VK):Prop
 |mk(x dx p d m:Addr)(mk:Option Int)(pl:Pl)(t:Int):(vs=[.ref x,.int t])->(H x=some (.ins C dx (fh p (yk mk) d m)))->(bu K H p pl.row)->(Q (.bl (late mk (cB pl) t)) H)->Au K C vs H Q
def Er(K:Fg7)(C:Addr):Sp:=λvs H Q d_=>Au K C vs H Q
section
variable {P:Program} {w:World} {K:Fg7} {mg:Str->Option Value} {C:Addr}
theorem GL(D:bA K C "is_closed" "Desk.is_closed" cF)(T:eB K C):cJ P w K mg iS C "is_closed" ["self","end"] 1 (jG C):=by
 refine D.fn mF ni (λvs H Q E h=>?_) (λf base cdv A outer s H vs Q E hr h=>?_)
 ·obtain⟨x,dx,p,d,m,mk,e,rfl,_⟩:=h
  rfl
 ·obtain⟨x,dx,p,d,m,mk,e,rfl,hx,k⟩:=h
  refine⟨_,(au (aL (iP (eG mO (dD (pv 0) rfl) iw (aM _)) (iu (eG oLe (pv 1) (dD (pv 0) rfl) (aM _)))))),?_⟩
  refine⟨_,rfl,x,C,dx,_,_,rfl,hx,T.cl.cl,T.nM,fM p d m _,rfl,_,rfl,?_⟩
  cases mk with
  |none=>exact CD k
  |some mm=>exact Jd ⟨_,rfl,_,rfl,x,C,dx,_,_,rfl,hx,T.cl.cl,T.nM,fM p d m _,_,_,rfl,rfl,k⟩
theorem NZ(D:bA K C "is_too_late" "Desk.is_too_late" bQ)(M:MG K mg)(T:eB K C)(iE:ef P w K mg "grace_of" ["plan"] 1 (qy K)):cJ P w K mg iS C "is_too_late" ["self","time"] 2 (Er K C):=by
 refine D.fn kB kI (λvs H Q E h=>?_) (λf base cdv A outer s H vs Q E hr h=>?_)
 ·obtain⟨x,dx,p,d,m,mk,pl,t,rfl,_⟩:=h
  rfl
 ·obtain⟨x,dx,p,d,m,mk,pl,t,rfl,hx,hp,k⟩:=h
  refine⟨_,(au (aL (iP (eG mO (dD (pv 0) rfl) iw (aM _)) (iu (eG oLt (pv 1) (aD qS (dD (pv 0) rfl) (aW iE (hr.mono (by decide)) rfl (pc (dD (pv 0) rfl) aj))) (aM _)))))),?_⟩
  refine⟨_,rfl,x,C,dx,_,_,rfl,hx,T.cl.cl,T.nM,fM p d m _,rfl,_,rfl,?_⟩
  cases mk with
  |none=>exact CD k
  |some mm=>exact Jd ⟨_,rfl,_,rfl,x,C,dx,_,_,rfl,hx,T.cl.cl,T.nM,fM p d m _,_,rfl,x,C,dx,_,_,rfl,hx,T.cl.cl,T.nP,fP p d m _,p,pl,rfl,hp,_,_,rfl,rfl,_,_,rfl,rfl,k⟩
end
def dc(ws:List Wn)(k:List Key):Option Wn:=ws.find? λw=>decide (w.ky=k)
def kT(ws:List Wn)(n:Str)(s e c t:Int):List Wn:=if(ws.any λw=>decide (w.ky=oH n s e))=true then ws.map (λw=>if w.ky=oH n s e then {w with c:=c,t:=t}else w)else ws++[⟨n,s,e,c,t⟩]
def addW(ws:List Wn)(n:Str)(s e c t:Int):List Wn:=match dc ws (oH n s e)with
 |some w=>kT ws n s e (w.c+c) (w.t+t)
 |none=>kT ws n s e (0+c) (0+t)
def cZ(ws:List Wn)(k:List Key):List Wn:=ws.filter λw=>decide (w.ky≠k)
section
variable {H:Hp} {kvs:List (List Key×V)} {ws:List Wn}
theorem bT.get(h:bT H kvs ws)(k:List Key):(kh kvs k=none/\dc ws k=none)\/∃v w,kh kvs k=some v/\dc ws k=some w/\w.ky=k/\Hr H v w:=by
 induction h with
 |nil=>exact .inl ⟨rfl,rfl⟩
 | @cons p w ps ws r _ ih=>
  by_cases e:p.1=k
  ·exact .inr ⟨p.2,w,mh e,by simp[dc,List.find?_cons,←r.1,e],r.1.symm.trans e,r.2⟩
  ·rw[mj e]
   have:dc (w::ws) k=dc ws k:=by simp[dc,List.find?_cons,←r.1,e]
   rw[this]
   exact ih
theorem bT.any(h:bT H kvs ws)(k:List Key):(kvs.any λkv=>decide (kv.1=k))=ws.any λw=>decide (w.ky=k):=by
 induction h with
 |nil=>rfl
 |cons r _ ih=>rw[List.any_cons,List.any_cons,r.1,ih]
theorem bT.append{kvs':List (List Key×V)}{fN:List Wn}(h:bT H kvs ws)(h':bT H kvs' fN):bT H (kvs++kvs') (ws++fN):=by
 induction h with
 |nil=>exact h'
 |cons r _ ih=>exact .cons r ih
theorem bT.put(h:bT H kvs ws){a:Addr}{n:Str}{s e c t:Int}(ha:H a=some (.tup [.int c,.int t])):bT H (putK kvs (oH n s e) (.ref a)) (kT ws n s e c t):=by
 have key:bT H (kvs.map λkv=>if kv.1=oH n s e then(kv.1,.ref a)else kv) (ws.map λw=>if w.ky=oH n s e then {w with c:=c,t:=t}else w):=by
  induction h with
  |nil=>exact .nil
  | @cons p w ps ws r _ ih=>
   refine .cons ?_ ih
   dsimp only
   by_cases q:p.1=oH n s e
   ·rw[if_pos q,if_pos (r.1▸q)]
    exact⟨r.1,a,rfl,ha⟩
   ·rw[if_neg q,if_neg (r.1▸q)]
    exact r
 unfold putK kT
 rw[h.any]
 split
 ·exact key
 ·exact h.append (.cons ⟨rfl,a,rfl,ha⟩ .nil)
theorem bT.drop(h:bT H kvs ws)(k:List Key):bT H (jP kvs k) (cZ ws k):=by
 unfold jP cZ
 induction h with
 |nil=>exact .nil
 | @cons p w ps ws r _ ih=>
  rw[List.filter_cons,List.filter_cons]
  by_cases e:p.1=k
  ·rw[if_neg (by simp[e]),if_neg (by simp[←r.1,e])];exact ih
  ·rw[if_pos (by simp[e]),if_pos (by simp[←r.1,e])];exact .cons r ih
end
def Kept(H H':Hp)(d:Addr):Prop:=∀b o,H b=some o->b≠d->H' b=some o
theorem Kept.tups{H H':Hp}{d:Addr}(k:Kept H H' d){kvs:List (List Key×V)}(hd:H d=some (.dT kvs)):∀a row,H a=some (.tup row)->H' a=some (.tup row):=λa row e=>k a _ e (aT e hd (by intro z;cases z))
theorem Kept.trans{H H1 H2:Hp}{d:Addr}(a:Kept H H1 d)(b:Kept H1 H2 d):Kept H H2 d:=λc o e n=>b c o (a c o e n) n
theorem aA.kept{H H':Hp}{d:Addr}(s:aA H H'):Kept H H' d:=λb o e _=>s b o e
inductive EB(C:Addr)(vs:List V)(H:Hp)(Q:VK):Prop
 |mk(x dx p d m kb tb:Addr)(mk:V)(n:Str)(s e c t:Int)(kvs:List (List Key×V))(ws:List Wn):(vs=[.ref x,.ref kb,.ref tb])->(H x=some (.ins C dx (fh p mk d m)))->(H kb=some (.tup (WN n s e)))->(H tb=some (.tup [.int c,.int t]))->(H d=some (.dT kvs))->(bT H kvs ws)->(kvs.length<sizeLine)->(∀(H':Hp)(kvs':List (List Key×V)),Kept H H' d->H' d=some (.dT kvs')->bT H' kvs' (addW ws n s e c t)->Q .eN H')->EB C vs H Q
def EC(C:Addr):Sp:=λvs H Q d_=>EB C vs H Q
section
variable {P:Program} {w:World} {K:Fg7} {mg:Str->Option Value} {C:Addr}
theorem Tr(D:bA K C "add_tally" "Desk.add_tally" cG)(T:eB K C):cJ P w K mg iS C "add_tally" ["self","key","tally"] 1 (EC C):=by
 refine D.fn iJ nj (λvs H Q E h=>?_) (λf base cdv A outer s H vs Q E hr h=>?_)
 ·obtain⟨x,dx,p,d,m,kb,tb,mk,n,s,e,c,t,kvs,ws,rfl,_⟩:=h
  rfl
 ·obtain⟨x,dx,p,d,m,kb,tb,mk,n,s,e,c,t,kvs,ws,rfl,hx,hk,ht,hd,hw,hl,k⟩:=h
  have hu1:=uc hr
  refine⟨_,(aq (cW (i:=3) iJ.nd rfl (Or.inl rfl) (FD hu1 (dD (pv 0) rfl) (pv 1) (cK (pc ah (pc ah aj))) ⟨rfl,rfl,rfl,rfl⟩))
   (au (AO hu1 (dD (pv 0) rfl) (pv 1) (cK (pc (aD jA (aH a_ (pv 3) ah (λ_ _=>rfl)) (aH a_ (pv 2) ah (λ_ _=>rfl))) (pc (aD jA (aH a_ (pv 3) ah (λ_ _=>rfl)) (aH a_ (pv 2) ah (λ_ _=>rfl))) aj))) rfl))),?_⟩
  refine⟨_,rfl,x,C,dx,_,_,rfl,hx,T.cl.cl,T.nW,fW p d m mk,d,rfl,.inr ⟨kvs,.inl hd⟩,_,rfl,(by show 2<=sizeLine;decide),λz hz=>?_⟩
  have s1:=aA.new (o:=.tup [.int 0,.int 0]) hz
  refine⟨_,vK.t (k:=oH n s e) (s1 _ _ hd) (s1 _ _ hk),?_⟩
  obtain⟨a0,c0,t0,e0,h0,ea⟩:∃(a0:Addr) (c0 t0:Int),(kh kvs (oH n s e)).getD (.ref z)=.ref a0/\upd H z (.tup [.int 0,.int 0]) a0=some (.tup [.int c0,.int t0])/\addW ws n s e c t=kT ws n s e (c0+c) (t0+t):=by
   rcases hw.get (oH n s e)with⟨h1,h2⟩|⟨v,w,h1,h2,_,a,rfl,ha⟩
   ·exact⟨z,0,0,by rw[h1];rfl,af,by unfold addW;rw[h2]⟩
   ·exact⟨a,w.c,w.t,by rw[h1];rfl,s1 _ _ ha,by unfold addW;rw[h2]⟩
  rw[e0]
  refine⟨_,rfl,a0,_,0,_,rfl,rfl,bu.of h0,rfl,_,rfl,tb,_,0,_,rfl,rfl,bu.of (s1 _ _ ht),rfl,_,_,rfl,rfl,?_⟩
  refine⟨_,rfl,a0,_,1,_,rfl,rfl,bu.of h0,rfl,_,rfl,tb,_,1,_,rfl,rfl,bu.of (s1 _ _ ht),rfl,_,_,rfl,rfl,(by show 2<=sizeLine;decide),λr hr'=>?_⟩
  have s2:=s1.trans (aA.new (o:=.tup [.int (c0+c),.int (t0+t)]) hr')
  refine⟨_,rfl,x,C,dx,_,_,rfl,s2 _ _ hx,T.cl.cl,T.nW,fW p d m mk,_,rfl,d,_,rfl,Dq.t (k:=oH n s e) (s2 _ _ hd) (s2 _ _ hk) hl,?_⟩
  refine k _ _ (λb o eb nb=>by rw[ai nb];exact s2 _ _ eb) af ?_
  rw[ea]
  have nr:r≠d:=λq=>by
   rw[q]at hr'
   rw[s1 _ _ hd]at hr'
   cases hr'
  refine bT.keep (H:=upd (upd H z (.tup [.int 0,.int 0])) r (.tup [.int (c0+c),.int (t0+t)])) (bT.put (hw.keep λa row q=>s2 _ _ q) af) λa row q=>?_
  rw[ai (aT q (s2 _ _ hd) (by intro y;cases y))]
  exact q
end
def kyD(n:Str)(s e:Int):Dv:=.tup [.str n,.int s,.int e]
structure Ky where
 n:Str
 s:Int
 e:Int
def Ky.l(k:Ky):List Key:=oH k.n k.s k.e
def Ky.v(k:Ky):List V:=WN k.n k.s k.e
def Ky.d(k:Ky):Dv:=kyD k.n k.s k.e
def Wn.k(w:Wn):Ky:=⟨w.n,w.s,w.e⟩
theorem iA{a b:Ky}(h:a.l=b.l):a=b:=by
 obtain⟨n,s,e⟩:=a
 obtain⟨n',s',e'⟩:=b
 injection h with h1 h2
 injection h1 with h1
 injection h2 with h2 h3
 injection h2 with h2
 injection h3 with h3 _
 injection h3 with h3
 subst h1 h2 h3
 rfl
theorem u_{a b:Ky}(h:a.d=b.d):a=b:=by
 obtain⟨n,s,e⟩:=a
 obtain⟨n',s',e'⟩:=b
 injection h with h
 injection h with h1 h2
 injection h1 with h1
 injection h2 with h2 h3
 injection h2 with h2
 injection h3 with h3 _
 injection h3 with h3
 subst h1 h2 h3
 rfl
theorem Wn.Cy(w:Wn):w.ky=w.k.l:=rfl
def bP(H:Hp):List V->List Ky->Prop:=Paired λx k=>∃a,x=.ref a/\H a=some (.tup k.v)
theorem bP.keep{H H':Hp}{xs:List V}{ks:List Ky}(h:bP H xs ks)(k:∀a row,H a=some (.tup row)->H' a=some (.tup row)):bP H' xs ks:=Paired.imp' (λ_ _ ⟨a,e,h⟩=>⟨a,e,k a _ h⟩) h
theorem bP.len{H:Hp}{xs:List V}{ks:List Ky}(h:bP H xs ks):xs.length=ks.length:=Paired.length h
theorem bP.snoc{H:Hp}{xs:List V}{ks:List Ky}{a:Addr}{k:Ky}(h:bP H xs ks)(e:H a=some (.tup k.v)):bP H (xs++[.ref a]) (ks++[k]):=Paired.snoc h ⟨_,rfl,e⟩
theorem bP.get{H:Hp}{xs:List V}{ks:List Ky}{i:Nat}{x:V}(h:bP H xs ks)(e:xs[i]? = some x):∃k a,ks[i]? = some k/\x=.ref a/\H a=some (.tup k.v):=by
 obtain⟨k,ek,a,r⟩:=Paired.getL h e
 exact⟨k,a,ek,r⟩
theorem Gp{K:Fg7}{H:Hp}{a:Addr}{k:Ky}(h:H a=some (.tup k.v)):Dn K H (.ref a) k.d:=.tup (bu.of h) (.cons (.str _) (.cons (.int _) (.cons (.int _) .nil)))
theorem bP.Oj{K:Fg7}{H:Hp}{xs:List V}{ks:List Ky}(h:bP H xs ks):gz K H xs (ks.map Ky.d):=by
 induction h with
 |nil=>exact .nil
 |cons r _ ih=>
  obtain⟨a,rfl,h⟩:=r
  exact .cons (Gp h) ih
def meet(a:Ky)(w:Wn):Bool:=decide (w.n=a.n)&&(decide (w.s<a.e)&&decide (a.s<w.e))
def VI:Sh:=.tup [.str,.int,.int]
theorem EE(k:Ky):Dv.isA VI k.d=true:=rfl
theorem keys_perm{H:Hp}{ys:List V}{ks:List Ky}{ps:List (V×Dv)}(h:bP H ys ks)(p:ps.Perm (ys.zip (ks.map Ky.d))):∃ks',ks'.Perm ks/\bP H (ps.map (·.1)) ks'/\ps.map (·.2)=ks'.map Ky.d:=by
 have h0:∀{ys:List V}{ks:List Ky},bP H ys ks->∀q∈ys.zip (ks.map Ky.d),∃k:Ky,q.2=k.d/\∃a,q.1=.ref a/\H a=some (.tup k.v):=by
  intro ys ks h
  induction h with
  |nil=>intro q hq;simp at hq
  | @cons x k xs ks r _ ih=>
   intro q hq
   rw[List.map_cons,List.zip_cons_cons]at hq
   rcases List.mem_cons.mp hq with rfl|hq
   ·exact⟨k,rfl,r⟩
   ·exact ih q hq
 have h1:∀ps:List (V×Dv),(∀q∈ps,∃k:Ky,q.2=k.d/\∃a,q.1=.ref a/\H a=some (.tup k.v))->∃ks',bP H (ps.map (·.1)) ks'/\ps.map (·.2)=ks'.map Ky.d:=by
  intro ps
  induction ps with
  |nil=>intro _;exact⟨[],.nil,rfl⟩
  |cons q ps ih=>
   intro hp
   obtain⟨k,e,r⟩:=hp q (.head _)
   obtain⟨ks',a1,a2⟩:=ih λq' m=>hp q' (.tail _ m)
   exact⟨k::ks',.cons r a1,by rw[List.map_cons,List.map_cons,e,a2]⟩
 obtain⟨ks',a1,a2⟩:=h1 ps λq m=>h0 h q (p.mem_iff.mp m)
 refine⟨ks',?_,a1,a2⟩
 have e:(ks'.map Ky.d).Perm (ks.map Ky.d):=by
  rw[←a2]
  have:=p.map (·.2)
  rw[List.map_snd_zip (by rw[List.length_map,h.len];exact Nat.le_refl _)]at this
  exact this
 have inj:∀(l r:List Ky),(l.map Ky.d).Perm (r.map Ky.d)->l.Perm r:=by
  intro l
  induction l with
  |nil=>intro r hp;have:=List.Perm.eq_nil hp.symm;rw[List.map_eq_nil_iff]at this;rw[this]
  |cons a l ih=>
   intro r hp
   have hm:a.d∈r.map Ky.d:=hp.mem_iff.mp (by simp)
   obtain⟨b,hb,eb⟩:=List.mem_map.mp hm
   have:=u_ eb
   subst this
   obtain⟨r1,r2,rfl⟩:=List.append_of_mem hb
   have hp2:((b::l).map Ky.d).Perm ((b::(r1++r2)).map Ky.d):=hp.trans ((List.perm_middle).map _)
   rw[List.map_cons,List.map_cons]at hp2
   exact((ih _ hp2.cons_inv).cons b).trans List.perm_middle.symm
 exact inj _ _ e
inductive El(C:Addr)(vs:List V)(H:Hp)(Q:VK):Prop
 |mk(x dx p d m ab:Addr)(mk:V)(a:Ky)(kvs:List (List Key×V))(ws:List Wn):(vs=[.ref x,.ref ab])->(H x=some (.ins C dx (fh p mk d m)))->(H ab=some (.tup a.v))->(H d=some (.dT kvs))->(bT H kvs ws)->(TS.Fits ws.length)->(∀(l:Addr)(zs:List V)(ks:List Ky)(H':Hp),aA H H'->H l=none->H' l=some (.lst zs)->bP H' zs ks->ks.Perm ((ws.filter (meet a)).map Wn.k)->(ks.map Ky.d).Pairwise (λd e=>aY d e≠.gt)->Q (.ref l) H')->El C vs H Q
def Kp(C:Addr):Sp:=λvs H Q d_=>El C vs H Q
section
variable {P:Program} {w:World} {K:Fg7} {mg:Str->Option Value} {C:Addr}
theorem Tf(D:bA K C "keys_met_by" "Desk.keys_met_by" bC)(M:MG K mg)(B:Bi K)(T:eB K C):cJ P w K mg iS C "keys_met_by" ["self","alone"] 1 (Kp C):=by
 refine D.fn ko kH (λvs H Q E h=>?_) (λf base cdv A outer s H vs Q E hr h=>?_)
 ·obtain⟨x,dx,p,d,m,ab,mk,a,kvs,ws,rfl,_⟩:=h
  rfl
 ·obtain⟨x,dx,p,d,m,ab,mk,a,kvs,ws,rfl,hx,hab,hd,hw,Dy,k⟩:=h
  have hz:=Dy.1
  have hu:(A.deeper (envOfC "Desk.keys_met_by" (ao bC) s.heap.objs.size f cdv)).units+64<cLine:=hr.units
  refine⟨_,(au (aL (aU (gQ hu) rfl (M.no _ B.jc) gY (pc (AW (eF (NY:=["key","alone"]) (js:=[none,some 1]) rfl rfl (by with_unfolding_all rfl) (by repeat first|exact cD.nil|refine cD.cons rfl ?_) (.own (.out rfl rfl (.inl rfl) .nil)) (Fx (dD (pv 0) rfl)) (λ_ _ _ _ _=>⟨(aV (i:=0) (show(["key","alone"]:List Str).Nodup from by decide +kernel) rfl (Or.inl rfl)),(gx (PW.pt (jk (aK dF (aH (bx (K:=K) rfl) (pv 0) ah (λ_ _=>rfl)) (aH (bx (K:=K) rfl) (pv 1) ah (λ_ _=>rfl)) (aM _)) (jk (aK oLt (aH (bx (K:=K) rfl) (pv 0) ah (λ_ _=>rfl)) (aH (bx (K:=K) rfl) (pv 1) ah (λ_ _=>rfl)) (aM _)) (jj (aK oLt (aH (bx (K:=K) rfl) (pv 1) ah (λ_ _=>rfl)) (aH (bx (K:=K) rfl) (pv 0) ah (λ_ _=>rfl)) (aM _))))))),(pv 0)⟩))) aj)))),?_⟩
  refine⟨d,.dT kvs,hd,True.intro,_,rfl,x,C,dx,_,_,rfl,hx,T.cl.cl,T.nW,fW p d m mk,d,kvs,rfl,hd,λo=>?_⟩
  intro l hl
  have yj:d≠l:=av af hl
  have lO:H l=none:=by rw[ai yj.symm]at hl;exact hl
  have hlen:=hw.len
  have Vq:∀{ys:List V}{b:Addr}{row:List V},upd (upd H d (.e_ o (.dT kvs))) l (.lst ys) b=some (.tup row)->H b=some (.tup row):=λ{ys b row} e=>by
   have n1:b≠l:=by rintro rfl;rw[af]at e;cases e
   rw[ai n1]at e
   have n2:b≠d:=by rintro rfl;rw[af]at e;cases e
   rw[ai n2]at e
   exact e
  have BI:∀{ys:List V}{b:Addr}{row:List V},H b=some (.tup row)->upd (upd H d (.e_ o (.dT kvs))) l (.lst ys) b=some (.tup row):=λ{ys b row} e=>by
   rw[ai (av e lO),ai (aT e hd (by intro z;cases z))]
   exact e
  refine qF (n:=kvs.length) (λi ys H'=>H'=upd (upd H d (.e_ o (.dT kvs))) l (.lst ys)/\bP H ys (((ws.take i).filter (meet a)).map Wn.k)) ⟨rfl,.nil⟩ ?_ ?_ ?_ ?_ ?_
  ·rintro i ys H' ⟨rfl,_⟩
   exact af
  ·rintro i ys H' hi ⟨rfl,_⟩
   exact⟨kvs,by rw[ai yj,af],hi⟩
  ·rintro ys H' ⟨rfl,_⟩
   exact⟨kvs,by rw[ai yj,af],rfl⟩
  ·rintro i y ys H1 H2 hi ⟨rfl,hk⟩ ⟨e2,yl⟩
   subst e2
   obtain⟨kk,v,b,ek,rfl,hb⟩:=yl kvs (by rw[ai yj,af])
   obtain⟨w,ew,rfl,_⟩:=hw.at ek
   have hb0:H b=some (.tup w.k.v):=Vq hb
   have htk:ws.take (i+1)=ws.take i++[w]:=by rw[List.take_add_one,ew];rfl
   have hyl:=hk.len
   have W_:ys.length<sizeLine:=by
    rw[hyl,List.length_map,sizeLine_eq]
    have:=List.length_filter_le (meet a) (ws.take i)
    have:=List.length_take_le i ws
    lia
   refine⟨cy rfl,?_⟩
   refine⟨_,rfl,b,_,0,_,rfl,rfl,bu.of (BI hb0),rfl,_,rfl,ab,_,0,_,rfl,rfl,bu.of (BI hab),rfl,rfl,_,rfl,?_⟩
   have out:meet a w=false->∃zs,upd (upd H d (.e_ o (.dT kvs))) l (.lst ys)=upd (upd H d (.e_ o (.dT kvs))) l (.lst zs)/\bP H zs (((ws.take (i+1)).filter (meet a)).map Wn.k):=λz=>by
    refine⟨ys,rfl,?_⟩
    rw[htk,List.filter_append,List.filter_cons,if_neg (by rw[z];exact Bool.false_ne_true),List.filter_nil,List.append_nil]
    exact hk
   refine aO (λc1=>?_) (λc1=>CD (out ?_))
   ·have e1:w.n=a.n:=by
     have:=of_decide_eq_true c1
     injection this
    refine⟨_,rfl,b,_,1,_,rfl,rfl,bu.of (BI hb0),rfl,_,rfl,ab,_,2,_,rfl,rfl,bu.of (BI hab),rfl,_,_,rfl,rfl,_,rfl,?_⟩
    refine aO (λc2=>?_) (λc2=>CD (out ?_))
    ·refine⟨_,rfl,ab,_,1,_,rfl,rfl,bu.of (BI hab),rfl,_,rfl,b,_,2,_,rfl,rfl,bu.of (BI hb0),rfl,_,_,rfl,rfl,_,rfl,?_⟩
     refine aO (λc3=>?_) (λc3=>out ?_)
     ·refine⟨_,rfl,ys,af,W_,by rw[gu],?_⟩
      have mt:meet a w=true:=by
       unfold meet
       rw[e1,decide_eq_true rfl]
       show(decide (w.s<a.e)&&decide (a.s<w.e))=true
       rw[show decide (w.s<a.e)=true from c2,show decide (a.s<w.e)=true from c3]
       rfl
      rw[htk,List.filter_append,List.filter_cons,if_pos mt,List.filter_nil,List.map_append]
      exact hk.snoc hb0
     ·unfold meet
      rw[show decide (a.s<w.e)=false from Bool.eq_false_iff.mpr c3]
      simp
    ·unfold meet
     rw[show decide (w.s<a.e)=false from Bool.eq_false_iff.mpr c2]
     simp
   ·unfold meet
    have:¬w.n=a.n:=λq=>c1 (by
     show decide (V.str w.n=V.str a.n)=true
     rw[q];simp)
    simp[this]
  ·rintro ys H' ⟨rfl,hk⟩
   rw[hlen,List.take_length]at hk
   have hth:upd (upd (upd H d (.e_ o (.dT kvs))) l (.lst ys)) d (.dT kvs)=upd H l (.lst ys):=by
    funext b
    by_cases e1:b=d
    ·subst e1
     rw[af,ai yj];exact hd.symm
    ·rw[ai e1]
     by_cases e2:b=l
     ·subst e2
      rw[af,af]
     ·rw[ai e2,ai e1,ai e2]
   refine⟨o,by rw[ai yj,af],?_⟩
   rw[hth]
   have sl:=aA.new (o:=.lst ys) lO
   have hk1:bP (upd H l (.lst ys)) ys ((ws.filter (meet a)).map Wn.k):=hk.keep λa row e=>sl _ _ e
   refine⟨l,ys,_,VI,rfl,br.of af,hk1.Oj,(λd hd=>?_),rfl,(by decide),?_,λl2 ps hl2 pm pw=>?_⟩
   ·obtain⟨q,_,rfl⟩:=List.mem_map.mp hd
    exact EE q
   ·rw[hk1.len,List.length_map]
    have:=List.length_filter_le (meet a) ws
    exact⟨by lia,Nat.lt_of_le_of_lt this Dy.2⟩
   ·obtain⟨ks,a1,a2,a3⟩:=keys_perm hk1 pm
    have s2:=sl.trans (aA.new (o:=.lst (ps.map (·.1))) hl2)
    refine k l2 _ ks _ s2 (sl.free hl2) af (a2.keep λa row e=>(aA.new hl2) _ _ e) a1 (by rw[←a3];exact pw)
end
inductive Ay(K:Fg7)(vs:List V)(H:Hp)(Q:VK):Prop
 |mk(l:Addr)(xs:List V)(ks:List Ky)(k0:Ky):(vs=[.ref l])->(br K H l xs)->(bP H xs ks)->(ks[0]? = some k0)->(ks.length<=1000001)->(∀(r:Addr)(s e:Int)(H':Hp),aA H H'->H r=none->(∃k∈ks,k.s=s)->(∀k∈ks,s<=k.s)->(∃k∈ks,k.e=e)->(∀k∈ks,k.e<=e)->H' r=some (.tup (WN k0.n s e))->Q (.ref r) H')->Ay K vs H Q
def Et(K:Fg7):Sp:=λvs H Q d_=>Ay K vs H Q
def cY(ws:List Wn)(ks:List Ky)(g:Ky):List Wn:=ks.foldl (λws k=>match dc ws k.l with
 |some w=>addW (cZ ws k.l) g.n g.s g.e w.c w.t
 |none=>ws) ws
inductive An(C:Addr)(vs:List V)(H:Hp)(Q:VK):Prop
 |mk(x dx p d m l gb:Addr)(mk:V)(g:Ky)(xs:List V)(ks:List Ky)(kvs:List (List Key×V))(ws:List Wn):(vs=[.ref x,.ref l,.ref gb])->(H x=some (.ins C dx (fh p mk d m)))->(H gb=some (.tup g.v))->(H l=some (.lst xs))->(bP H xs ks)->(H d=some (.dT kvs))->(bT H kvs ws)->(ws.length<1000000)->(ks.Nodup)->((∀k∈ks,k∈ws.map Wn.k))->(∀(H':Hp)(kvs':List (List Key×V)),Kept H H' d->H' d=some (.dT kvs')->bT H' kvs' (cY ws ks g)->Q .eN H')->An C vs H Q
def Ej(K:Fg7)(C:Addr):Sp:=λvs H Q d_=>An C vs H Q
theorem y_(ws:List Wn)(ks:List Ky)(k g:Ky):cY ws (ks++[k]) g=match dc (cY ws ks g) k.l with
  |some w=>addW (cZ (cY ws ks g) k.l) g.n g.s g.e w.c w.t
  |none=>cY ws ks g:=by
 unfold cY
 rw[List.foldl_append]
 rfl
theorem oN{ws:List Wn}{k:Ky}(h:k∈ws.map Wn.k):∃w,dc ws k.l=some w/\w.k=k:=by
 cases e:dc ws k.l with
 |none=>
  obtain⟨w,hw,rfl⟩:=List.mem_map.mp h
  have:=List.find?_eq_none.mp e w hw
  simp[Wn.Cy]at this
 |some w=>
  have:=List.find?_some e
  exact⟨w,rfl,iA (of_decide_eq_true this)⟩
theorem BQ(ws:List Wn)(n:Str)(s e c t:Int)(k:Ky):k∈(kT ws n s e c t).map Wn.k↔k∈ws.map Wn.k\/k=⟨n,s,e⟩:=by
 unfold kT
 split
 ·rename_i h
  have e:(ws.map λw=>if w.ky=oH n s e then {w with c:=c,t:=t}else w).map Wn.k=ws.map Wn.k:=by
   rw[List.map_map]
   refine List.map_congr_left λw _=>?_
   show(if w.ky=oH n s e then {w with c:=c,t:=t}else w).k=w.k
   split<;>rfl
  rw[e]
  refine⟨.inl,λq=>q.elim id λq=>?_⟩
  obtain⟨w,hw,ew⟩:=List.any_eq_true.mp h
  have:w.k=⟨n,s,_⟩:=iA (a:=w.k) (b:=⟨n,s,_⟩) (of_decide_eq_true ew)
  rw[q,←this]
  exact List.mem_map.mpr ⟨w,hw,rfl⟩
 ·rw[List.map_append,List.mem_append]
  simp[Wn.k]
theorem ux(ws:List Wn)(n:Str)(s e c t:Int)(k:Ky):k∈(addW ws n s e c t).map Wn.k↔k∈ws.map Wn.k\/k=⟨n,s,e⟩:=by
 unfold addW
 split<;>exact BQ ..
theorem zw(ws:List Wn)(g k:Ky):k∈(cZ ws g.l).map Wn.k↔k∈ws.map Wn.k/\k≠g:=by
 unfold cZ
 simp only[List.mem_map,List.mem_filter,decide_eq_true_eq]
 constructor
 ·rintro⟨w,⟨h1,h2⟩,rfl⟩
  exact⟨⟨w,h1,rfl⟩,λq=>h2 (by rw[Wn.Cy,q])⟩
 ·rintro⟨⟨w,h1,rfl⟩,h2⟩
  exact⟨w,⟨h1,λq=>h2 (iA (by rw[←Wn.Cy];exact q))⟩,rfl⟩
theorem EG(ws:List Wn)(n:Str)(s e c t:Int):(kT ws n s e c t).length<=ws.length+1:=by
 unfold kT
 split
 ·rw[List.length_map];lia
 ·rw[List.length_append];simp
theorem ny(ws:List Wn)(n:Str)(s e c t:Int):(addW ws n s e c t).length<=ws.length+1:=by
 unfold addW
 split<;>exact EG ..
theorem ug{ws:List Wn}{k:Ky}(h:k∈ws.map Wn.k):(cZ ws k.l).length<ws.length:=by
 obtain⟨w,hw,rfl⟩:=List.mem_map.mp h
 exact List.length_filter_lt_length_iff_exists.mpr ⟨w,hw,by simp[Wn.Cy]⟩
section
variable {P:Program} {w:World} {K:Fg7} {mg:Str->Option Value} {C:Addr}
theorem Ob(D:aJ K "joined" gW)(M:MG K mg)(B:Bi K):ef P w K mg "joined" ["keys"] 1 (Et K):=by
 refine D.fn M BU Dc (λvs H Q E h=>?_) (λf base cdv A outer s H vs Q E hr h=>?_)
 ·obtain⟨l,xs,ks,k0,rfl,_⟩:=h
  rfl
 ·obtain⟨l,xs,ks,k0,rfl,hl,hk,h0,hz1,k⟩:=h
  have hz:0<ks.length:=(List.getElem?_eq_some_iff.mp h0).1
  have HH:=hk.len
  obtain⟨x0,ex0⟩:∃x0,xs[0]? = some x0:=⟨xs[0],by simp⟩
  obtain⟨k0',b0,e1,rfl,hb0⟩:=hk.get ex0
  rw[h0]at e1
  cases e1
  refine⟨_,(au (aL (cK (pc (aH a_ (aH cj (pv 0) ah (λ_ _=>rfl)) ah (λ_ _=>rfl)) (pc (aU (CY rfl) rfl (M.no _ B.TN) OB (pc (eF (NY:=["key"]) (js:=[none]) rfl rfl (by with_unfolding_all rfl) (by repeat first|exact cD.nil|refine cD.cons rfl ?_) (.own .nil) (bD (pv 0)) (λ_ _ _ _ _=>⟨(aV (i:=0) (show(["key"]:List Str).Nodup from by decide +kernel) rfl (Or.inl rfl)),gP,(aH (bx (K:=K) rfl) (pv 0) ah (λ_ _=>rfl))⟩)) aj)) (pc (aU (CZ rfl) rfl (M.no _ B.TR) OC (pc (eF (NY:=["key"]) (js:=[none]) rfl rfl (by with_unfolding_all rfl) (by repeat first|exact cD.nil|refine cD.cons rfl ?_) (.own .nil) (bD (pv 0)) (λ_ _ _ _ _=>⟨(aV (i:=0) (show(["key"]:List Str).Nodup from by decide +kernel) rfl (Or.inl rfl)),gP,(aH (bx (K:=K) rfl) (pv 0) ah (λ_ _=>rfl))⟩)) aj)) aj)))))),?_⟩
  refine⟨_,rfl,l,xs,0,_,rfl,rfl,hl,fR ex0,b0,_,0,_,rfl,rfl,bu.of hb0,rfl,?_⟩
  refine⟨_,rfl,l,rfl,⟨_,hl⟩,λl1 h1=>?_⟩
  refine dQ (K:=K) (a:=l) (xs:=xs) (λi ys H'=>ys=((ks.take i).map λk=>V.int k.s)/\H'=upd H l1 (.lst ys)) ⟨rfl,rfl⟩ (by rintro i ys H' ⟨_,rfl⟩;exact af) (λi ys H' _ ⟨_,e⟩=>by rw[e];exact(aA.new h1).seq hl) ?_ ?_
  ·rintro i y ys H' hi ⟨hys,rfl⟩
   obtain⟨kk,b,ek,rfl,hb⟩:=hk.get hi
   have hil:=(List.getElem?_eq_some_iff.mp ek).1
   refine⟨cy rfl,?_⟩
   refine⟨_,rfl,b,_,1,_,rfl,rfl,bu.of ((aA.new h1) _ _ hb),rfl,ys,af,?_,?_,by rw[gu]⟩
   ·rw[hys,List.length_map,List.length_take]
    have:=sizeLine_eq
    lia
   ·rw[hys,List.take_add_one,ek]
    simp
  ·rintro ys H' ⟨hys,rfl⟩
   rw[HH,List.take_length]at hys
   have em:ys=(ks.map Ky.s).map V.int:=by rw[hys,List.map_map];rfl
   refine⟨l1,ks.map Ky.s,rfl,br.of (by rw[af,em]),by rw[List.length_map];exact hz,λs hs1 hs2=>?_⟩
   have sA:=aA.new (o:=.lst ys) h1
   generalize upd H l1 (.lst ys)=H1 at *
   refine⟨_,rfl,l,rfl,⟨_,sA.seq hl⟩,λl2 h2=>?_⟩
   refine dQ (K:=K) (a:=l) (xs:=xs) (λi ys H'=>ys=((ks.take i).map λk=>V.int k.e)/\H'=upd H1 l2 (.lst ys)) ⟨rfl,rfl⟩ (by rintro i ys H' ⟨_,rfl⟩;exact af) (λi ys H' _ ⟨_,e⟩=>by rw[e];exact(aA.new h2).seq (sA.seq hl)) ?_ ?_
   ·rintro i y ys H' hi ⟨hys,rfl⟩
    obtain⟨kk,b,ek,rfl,hb⟩:=hk.get hi
    have hil:=(List.getElem?_eq_some_iff.mp ek).1
    refine⟨cy rfl,?_⟩
    refine⟨_,rfl,b,_,2,_,rfl,rfl,bu.of ((aA.new h2) _ _ (sA _ _ hb)),rfl,ys,af,?_,?_,by rw[gu]⟩
    ·rw[hys,List.length_map,List.length_take]
     have:=sizeLine_eq
     lia
    ·rw[hys,List.take_add_one,ek]
     simp
   ·rintro HN H' ⟨RI,rfl⟩
    rw[HH,List.take_length]at RI
    have Of:HN=(ks.map Ky.e).map V.int:=by rw[RI,List.map_map];rfl
    refine⟨l2,ks.map Ky.e,rfl,br.of (by rw[af,Of]),by rw[List.length_map];exact hz,λe XF UR=>?_⟩
    have sB:=sA.trans (aA.new (o:=.lst HN) h2)
    refine⟨(by show 3<=sizeLine;decide),λr hr'=>?_⟩
    obtain⟨ka,ma,ea⟩:=List.mem_map.mp hs1
    obtain⟨kb,mb,eb⟩:=List.mem_map.mp XF
    exact k r s e _ (sB.trans (aA.new hr')) (sB.free hr') ⟨ka,ma,ea⟩ (λq m=>hs2 _ (List.mem_map.mpr ⟨q,m,rfl⟩)) ⟨kb,mb,eb⟩ (λq m=>UR _ (List.mem_map.mpr ⟨q,m,rfl⟩)) af
theorem NU(D:bA K C "move_tallies" "Desk.move_tallies" bM)(T:eB K C)(gn:cJ P w K mg iS C "add_tally" ["self","key","tally"] 1 (EC C)):cJ P w K mg iS C "move_tallies" ["self","keys","target"] 2 (Ej K C):=by
 have bB:=T.cl
 refine D.fn gB jT (λvs H Q E h=>?_) (λf base cdv A outer s H vs Q E hr h=>?_)
 ·obtain⟨x,dx,p,d,m,l,gb,mk,g,xs,ks,kvs,ws,rfl,_⟩:=h
  rfl
 ·obtain⟨x,dx,p,d,m,l,gb,mk,g,xs,ks,kvs,ws,rfl,hx,hg,hl,hk,hd,hw,hz,nd,hin,k⟩:=h
  have hu1:=uc hr
  have HH:=hk.len
  have AZ:x≠d:=aT hx hd (by intro z;cases z)
  have Ws:l≠d:=aT hl hd (by intro z;cases z)
  refine⟨_,(au (eZ PassesOwn.never rfl (bD (pv 1)) (aV (i:=3) gB.nd rfl (Or.inl rfl))
   (au (gI (cX (pv 0) bB.cl gn fK (hr.mono (by decide)) (pc (pv 2) (pc (FA hu1 (dD (pv 0) rfl) (pv 3) ⟨rfl,rfl,rfl,rfl⟩) aj))))))),?_⟩
  refine⟨_,rfl,l,rfl,⟨_,br.of hl⟩,eS (K:=K) (a:=l) (xs:=xs) (λi σ H'=>∃(v:Option V) (kvs':List (List Key×V)) (fN:List Wn),σ=[some (.ref x),some (.ref l),some (.ref gb),v]/\Kept H H' d/\H' d=some (.dT kvs')/\bT H' kvs' fN/\fN=cY ws (ks.take i) g/\fN.length<1000000/\∀k∈ks.drop i,k∈fN.map Wn.k)
   ⟨_,kvs,ws,rfl,λb o e _=>e,hd,hw,rfl,hz,by simpa using hin⟩ (λi σ H' _ ⟨v,kvs',fN,_,kp,_⟩=>br.of (kp _ _ hl Ws)) ?_ ?_⟩
  ·rintro i y σ H1 hi ⟨v,xE,BA,rfl,Gh,hd1,hw1,UW,hz1,Sk⟩
   obtain⟨kk,b,ek,rfl,hb⟩:=hk.get hi
   have hil:=(List.getElem?_eq_some_iff.mp ek).1
   have hb1:H1 b=some (.tup kk.v):=Gh.tups hd _ _ hb
   have hdr:ks.drop i=kk::ks.drop (i+1):=by rw[List.drop_eq_getElem_cons hil];congr 1;exact(List.getElem?_eq_some_iff.mp ek).2
   have Sg:kk∈BA.map Wn.k:=Sk kk (by rw[hdr];exact .head _)
   obtain⟨w0,eg,ew0⟩:=oN Sg
   rcases hw1.get kk.l with⟨_,z⟩|⟨v0,w0',h1,h2,_,a0,rfl,ha0⟩
   ·rw[eg]at z;cases z
   rw[eg]at h2
   cases h2
   refine⟨_,rfl,x,dx,_,rfl,Gh _ _ hx AZ,yq p d m mk DK DK DK DK,_,rfl,_,rfl,x,C,dx,_,_,rfl,Gh _ _ hx AZ,T.cl.cl,T.nW,fW p d m mk,d,rfl,.inr ⟨xE,.inl hd1⟩,_,rfl,xE,kk.l,b,_,hd1,rfl,hb1,h1,?_⟩
   have IV:Kept H1 (upd H1 d (.dT (jP xE kk.l))) d:=λb o e n=>by rw[ai n];exact e
   have LS:=IV.tups hd1
   have UL:bT (upd H1 d (.dT (jP xE kk.l))) (jP xE kk.l) (cZ BA kk.l):=(hw1.drop kk.l).keep LS
   have hl2:=UL.len
   have hl3:=ug Sg
   refine⟨x,dx,p,d,m,gb,a0,mk,g.n,g.s,g.e,w0.c,w0.t,jP xE kk.l,cZ BA kk.l,rfl,IV _ _ (Gh _ _ hx AZ) AZ,LS _ _ (Gh.tups hd _ _ hg),LS _ _ ha0,af,UL,by have:=sizeLine_eq;lia,λH3 WR UI LB RM=>?_⟩
   have hl4:=ny (cZ BA kk.l) g.n g.s g.e w0.c w0.t
   refine⟨_,WR,_,rfl,Gh.trans (IV.trans UI),LB,RM,?_,by lia,λq mq=>?_⟩
   ·rw[List.take_add_one,ek]
    show _=cY ws (ks.take i++[kk]) g
    rw[y_,←UW,eg]
   ·rw[ux,zw]
    refine .inl ⟨Sk q (by rw[hdr];exact .tail _ mq),λz=>?_⟩
    have:=(List.drop_sublist i ks).nodup nd
    rw[hdr,List.nodup_cons]at this
    exact this.1 (z▸mq)
  ·rintro σ H1 ⟨v,xE,BA,rfl,Gh,hd1,hw1,UW,_,_⟩
   rw[HH,List.take_length]at UW
   subst UW
   exact k H1 xE Gh hd1 hw1
end
def Wn.v(w:Wn):List V:=[.str w.n,.int w.s,.int w.e,.int w.c,.int w.t]
def Wn.d(w:Wn):Dv:=.tup [.str w.n,.int w.s,.int w.e,.int w.c,.int w.t]
def Qe:Sh:=.tup [.str,.int,.int,.int,.int]
theorem uK(w:Wn):Dv.isA Qe w.d=true:=rfl
theorem Wn.Bt{a b:Wn}(h:a.d=b.d):a=b:=by
 obtain⟨n,s,e,c,t⟩:=a
 obtain⟨n',s',e',c',t'⟩:=b
 injection h with h
 injection h with h1 h
 injection h1 with h1
 injection h with h2 h
 injection h2 with h2
 injection h with h3 h
 injection h3 with h3
 injection h with h4 h
 injection h4 with h4
 injection h with h5 h
 injection h5 with h5
 subst h1 h2 h3 h4 h5
 rfl
def aC{α:Type}(f:α->List V)(H:Hp):List V->List α->Prop:=Paired λx w=>∃a,x=.ref a/\H a=some (.tup (f w))
section
variable {α:Type} {f:α->List V} {H H':Hp}
theorem aC.keep{xs:List V}{ws:List α}(h:aC f H xs ws)(k:∀a row,H a=some (.tup row)->H' a=some (.tup row)):aC f H' xs ws:=Paired.imp' (λ_ _ ⟨a,e,h⟩=>⟨a,e,k a _ h⟩) h
theorem aC.len{xs:List V}{ws:List α}(h:aC f H xs ws):xs.length=ws.length:=Paired.length h
theorem aC.snoc{xs:List V}{ws:List α}{a:Addr}{w:α}(h:aC f H xs ws)(e:H a=some (.tup (f w))):aC f H (xs++[.ref a]) (ws++[w]):=Paired.snoc h ⟨_,rfl,e⟩
theorem aC.app{xs ys:List V}{ws us:List α}(h:aC f H xs ws)(h':aC f H ys us):aC f H (xs++ys) (ws++us):=Paired.app h h'
theorem aC.get{xs:List V}{ws:List α}{i:Nat}{x:V}(h:aC f H xs ws)(e:xs[i]? = some x):∃w a,ws[i]? = some w/\x=.ref a/\H a=some (.tup (f w)):=by
 obtain⟨k,ek,a,r⟩:=Paired.getL h e
 exact⟨k,a,ek,r⟩
theorem aC.Oj{K:Fg7}{g:α->Dv}(hd:∀a w,H a=some (.tup (f w))->Dn K H (.ref a) (g w)){xs:List V}{ws:List α}(h:aC f H xs ws):gz K H xs (ws.map g):=by
 induction h with
 |nil=>exact .nil
 |cons r _ ih=>
  obtain⟨a,rfl,h⟩:=r
  exact .cons (hd _ _ h) ih
theorem tY{g:α->Dv}(inj:∀a b,g a=g b->a=b){ys:List V}{ws:List α}{ps:List (V×Dv)}(h:aC f H ys ws)(p:ps.Perm (ys.zip (ws.map g))):∃rs,rs.Perm ws/\aC f H (ps.map (·.1)) rs/\ps.map (·.2)=rs.map g:=by
 have h0:∀{ys:List V}{ws:List α},aC f H ys ws->∀q∈ys.zip (ws.map g),∃w:α,q.2=g w/\∃a,q.1=.ref a/\H a=some (.tup (f w)):=by
  intro ys ws h
  induction h with
  |nil=>intro q hq;simp at hq
  | @cons x k xs ks r _ ih=>
   intro q hq
   rw[List.map_cons,List.zip_cons_cons]at hq
   rcases List.mem_cons.mp hq with rfl|hq
   ·exact⟨k,rfl,r⟩
   ·exact ih q hq
 have h1:∀ps:List (V×Dv),(∀q∈ps,∃w:α,q.2=g w/\∃a,q.1=.ref a/\H a=some (.tup (f w)))->∃rs,aC f H (ps.map (·.1)) rs/\ps.map (·.2)=rs.map g:=by
  intro ps
  induction ps with
  |nil=>intro _;exact⟨[],.nil,rfl⟩
  |cons q ps ih=>
   intro hp
   obtain⟨k,e,r⟩:=hp q (.head _)
   obtain⟨ks',a1,a2⟩:=ih λq' m=>hp q' (.tail _ m)
   exact⟨k::ks',.cons r a1,by rw[List.map_cons,List.map_cons,e,a2]⟩
 obtain⟨rs,a1,a2⟩:=h1 ps λq m=>h0 h q (p.mem_iff.mp m)
 refine⟨rs,?_,a1,a2⟩
 have e:(rs.map g).Perm (ws.map g):=by
  rw[←a2]
  have:=p.map (·.2)
  rw[List.map_snd_zip (by rw[List.length_map,h.len];exact Nat.le_refl _)]at this
  exact this
 have key:∀(l r:List α),(l.map g).Perm (r.map g)->l.Perm r:=by
  intro l
  induction l with
  |nil=>intro r hp;have:=List.Perm.eq_nil hp.symm;rw[List.map_eq_nil_iff]at this;rw[this]
  |cons a l ih=>
   intro r hp
   have hm:g a∈r.map g:=hp.mem_iff.mp (by simp)
   obtain⟨b,hb,eb⟩:=List.mem_map.mp hm
   have:=inj _ _ eb
   subst this
   obtain⟨r1,r2,rfl⟩:=List.append_of_mem hb
   have hp2:((b::l).map g).Perm ((b::(r1++r2)).map g):=hp.trans ((List.perm_middle).map _)
   rw[List.map_cons,List.map_cons]at hp2
   exact((ih _ hp2.cons_inv).cons b).trans List.perm_middle.symm
 exact key _ _ e
end
theorem EU{K:Fg7}{H:Hp}{a:Addr}{w:Wn}(h:H a=some (.tup w.v)):Dn K H (.ref a) w.d:=.tup (bu.of h) (.cons (.str _) (.cons (.int _) (.cons (.int _) (.cons (.int _) (.cons (.int _) .nil)))))
inductive Al(C:Addr)(vs:List V)(H:Hp)(Q:VK):Prop
 |mk(x dx p d m:Addr)(mk:V)(kvs:List (List Key×V))(ws:List Wn):(vs=[.ref x])->(H x=some (.ins C dx (fh p mk d m)))->(H d=some (.dT kvs))->(bT H kvs ws)->(TS.Fits ws.length)->(∀(l:Addr)(zs:List V)(rs:List Wn)(H':Hp),aA H H'->H l=none->H' l=some (.lst zs)->aC Wn.v H' zs rs->rs.Perm ws->(rs.map Wn.d).Pairwise (λd e=>aY d e≠.gt)->Q (.ref l) H')->Al C vs H Q
def yG(C:Addr):Sp:=λvs H Q d_=>Al C vs H Q
section
variable {P:Program} {w:World} {K:Fg7} {mg:Str->Option Value} {C:Addr}
theorem NT(D:bA K C "rows" "Desk.rows" dN)(M:MG K mg)(B:Bi K)(T:eB K C):cJ P w K mg iS C "rows" ["self"] 1 (yG C):=by
 refine D.fn uN vz (λvs H Q E h=>?_) (λf base cdv A outer s H vs Q E hr h=>?_)
 ·obtain⟨x,dx,p,d,m,mk,kvs,ws,rfl,_⟩:=h
  rfl
 ·obtain⟨x,dx,p,d,m,mk,kvs,ws,rfl,hx,hd,hw,hz,k⟩:=h
  have hu:(A.deeper (envOfC "Desk.rows" (ao dN) s.heap.objs.size f cdv)).units+64<cLine:=hr.units
  refine⟨_,(au (aL (aU (gQ hu) rfl (M.no _ B.jc) gY (pc (AW (eF (NY:=["key","tally"]) (js:=[none,none]) rfl rfl (by with_unfolding_all rfl) (by repeat first|exact cD.nil|refine cD.cons rfl ?_) (.own (.own .nil)) (tU (FG PySem.F.plainAttrs_dict PySem.F.slot_dict_items PySem.F.type_dict_items xg (dD (pv 0) rfl))) (λ_ _ _ _ _=>⟨(AU (n:=2) (K:=K) rfl rfl (mJ (aV (i:=0) (show(["key","tally"]:List Str).Nodup from by decide +kernel) rfl (Or.inl rfl)) (mJ (aV (i:=1) (show(["key","tally"]:List Str).Nodup from by decide +kernel) rfl (Or.inl rfl)) AS))),gP,(aD (gC (K:=K) rfl) (pv 0) (pv 1))⟩))) aj)))),?_⟩
  refine⟨d,.dT kvs,hd,True.intro,_,rfl,x,C,dx,_,_,rfl,hx,T.cl.cl,T.nW,fW p d m mk,.inr (.inr (.inl ⟨rfl,.inr ⟨kvs,hd⟩⟩)),d,kvs,rfl,rfl,hd,λv hv=>⟨v,d,kvs,rfl,af,(by rw[ai (av hd hv)];exact hd),λo=>?_⟩⟩
  intro l hl
  have ndv:d≠v:=av hd hv
  have yj:d≠l:=av af hl
  have lO:H l=none:=by
   rw[ai yj.symm]at hl
   exact(aA.new hv).free hl
  have hlen:=hw.len
  refine qF (n:=kvs.length) (λi ys H'=>(∀c z,H c=some z->c≠d->H' c=some z)/\H' d=some (.e_ o (.dT kvs))/\H' l=some (.lst ys)/\aC Wn.v H' ys (ws.take i)) ⟨λc z e n=>?_,?_,af,.nil⟩ ?_ ?_ ?_ ?_ ?_
  ·rw[ai (av e lO),ai n,ai (av e hv)]
   exact e
  ·rw[ai yj,af]
  ·rintro i ys H' ⟨_,_,h,_⟩
   exact h
  ·rintro i ys H' hi ⟨_,h,_⟩
   exact⟨kvs,h,hi⟩
  ·rintro ys H' ⟨_,h,_⟩
   exact⟨kvs,h,Nat.le_refl _⟩
  ·rintro i y ys H1 H2 hi ⟨kp,hfd,vd,hk⟩ yl
   obtain⟨kk,v2,b,t,ek,rfl,ht,hb,rfl⟩:=yl kvs hfd
   obtain⟨w,ew,rfl,a0,rfl,ha0⟩:=hw.at ek
   have st:=aA.new (o:=.tup [.ref b,.ref a0]) ht
   have htk:ws.take (i+1)=ws.take i++[w]:=by rw[List.take_add_one,ew];rfl
   have ha1:H1 a0=some (.tup [.int w.c,.int w.t]):=kp _ _ ha0 (aT ha0 hd (by intro z;cases z))
   refine⟨t,[.ref b,.ref a0],rfl,bu.of af,rfl,_,_,rfl,_,_,rfl,rfl,⟨rfl,λi v e=>?_⟩,?_⟩
   ·rcases i with _|_|i<;>simp[dJ]at e
   ·refine⟨_,rfl,_,rfl,b,a0,_,_,rfl,rfl,bu.of (st _ _ hb),bu.of (st _ _ ha1),(by intro z;cases z),(by show 5<=sizeLine;decide),(λz=>nomatch z),λ_ r hr'=>?_⟩
    have sr:=st.trans (aA.new (o:=.tup (w.ky.map kV++[.int w.c,.int w.t])) hr')
    refine⟨ys,sr _ _ vd,?_,?_⟩
    ·rw[hk.len,List.length_take]
     have:=hz.1
     have:=sizeLine_eq
     lia
    ·have Uz:∀{c:Addr}{z:HO},H1 c=some z->(∀q,z≠.lst q)->c≠l:=λ{c z} e n q=>by
      rw[q,vd]at e
      exact n _ (Option.some.inj e).symm
     refine⟨λc z e n=>?_,?_,af,?_⟩
     ·rw[ai (av e lO)]
      exact sr _ _ (kp c z e n)
     ·rw[ai yj];exact sr _ _ hfd
     ·rw[htk]
      have tp:∀a row,H1 a=some (.tup row)->upd (upd (upd H1 t (.tup [.ref b,.ref a0])) r (.tup (w.ky.map kV++[.int w.c,.int w.t]))) l (.lst (ys++[.ref r])) a=some (.tup row):=λa row e=>by
       rw[ai (Uz e (by intro q z;cases z))]
       exact sr _ _ e
      have Wl:r≠l:=λq=>by
       rw[q,st _ _ vd]at hr'
       cases hr'
      exact(hk.keep tp).snoc (by rw[ai Wl,af];rfl)
  ·rintro ys H' ⟨kp,hfd,vd,hk⟩
   rw[hlen,List.take_length]at hk
   refine⟨o,hfd,?_⟩
   have s1:aA H (upd H' d (.dT kvs)):=λb z e=>by
    by_cases q:b=d
    ·subst q
     rw[af]
     rw[hd]at e
     exact e
    ·rw[ai q];exact kp _ _ e q
   have hk1:aC Wn.v (upd H' d (.dT kvs)) ys ws:=hk.keep λa row e=>by rw[ai (aT e hfd (by intro z;cases z))];exact e
   have hl1:upd H' d (.dT kvs) l=some (.lst ys):=by rw[ai yj.symm];exact vd
   refine⟨l,ys,_,Qe,rfl,br.of hl1,hk1.Oj (λa w h=>EU h),(λd hd=>?_),rfl,(by decide),?_,λl2 ps hl2 pm pw=>?_⟩
   ·obtain⟨q,_,rfl⟩:=List.mem_map.mp hd
    exact uK q
   ·rw[hk1.len];lia
   ·obtain⟨rs,a1,a2,a3⟩:=tY (λ_ _=>Wn.Bt) hk1 pm
    exact k l2 _ rs _ (s1.trans (aA.new hl2)) (s1.free hl2) af (a2.keep λa row e=>(aA.new hl2) _ _ e) a1 (by rw[←a3];exact pw)
end
def Kr(pl:Pl)(t:Int):List (Int×Int):=match pl with
 |.pauses l _=>[(t,t+l)]
 |pl=>(List.range (cnt pl t)).map λ(i:Nat)=>(gj pl t+(i:Int)*pl.stp,gj pl t+(i:Int)*pl.stp+pl.len)
theorem vO(pl:Pl)(t:Int):HP pl t=(Kr pl t).map λq=>[.int q.1,.int q.2]:=by
 cases pl with
 |fixed l g=>show(List.range _).map _=((List.range _).map _).map _;rw[List.map_map];rfl
 |sliding l s g=>show(List.range _).map _=((List.range _).map _).map _;rw[List.map_map];rfl
 |pauses l g=>rfl
theorem uH{pl:Pl}(ok:pl.ok)(t:Int):(Kr pl t).length<=100:=by
 have:=Hf (t:=t) ok
 cases pl with
 |fixed l g=>show((List.range _).map _).length<=100;rw[List.length_map,List.length_range];exact this
 |sliding l s g=>show((List.range _).map _).length<=100;rw[List.length_map,List.length_range];exact this
 |pauses l g=>show 1<=100;decide
def cg(pl:Pl)(n:Str)(t:Int):List Ky:=(Kr pl t).map λq=>⟨n,q.1,q.2⟩
def sj:Pl->Bool
 |.pauses _ _=>true
 |_=>false
inductive eU where
 |told(w:Wn)|gone(k:Ky)|missed(n:Str)(t a:Int)
def eU.v:eU->List V
 |.told w=>[.str "told",.str w.n,.int w.s,.int w.e,.int w.c,.int w.t]
 |.gone k=>[.str "gone",.str k.n,.int k.s,.int k.e]
 |.missed n t a=>[.str "missed",.str n,.int t,.int a]
def kP(pl:Pl)(n:Str)(t a:Int)(ws:List Wn)(ms ks:List Ky)(fN:List Wn):Prop:=
 (sj pl=false/\ms=[]/\ks=cg pl n t/\fN=ks.foldl (λu k=>addW u k.n k.s k.e 1 a) ws)\/
 (sj pl=true/\ms.Perm ((ws.filter (meet ⟨n,t,t+pl.len⟩)).map Wn.k)/\(ms.map Ky.d).Pairwise (λd e=>aY d e≠.gt)/\∃s e:Int,(s=t\/∃k∈ms,k.s=s)/\s<=t/\(∀k∈ms,s<=k.s)/\(e=t+pl.len\/∃k∈ms,k.e=e)/\t+pl.len<=e/\(∀k∈ms,k.e<=e)/\
  ks=[⟨n,s,e⟩]/\fN=addW (cY ws ms ⟨n,s,e⟩) n s e 1 a)
def fU(mk:Option Int)(ws:List Wn)(ks:List Ky):List eU:=(ks.filter λk=>closed mk k.e).filterMap λk=>(dc ws k.l).map eU.told
open Classical in
noncomputable def fV(mk:Option Int)(ms ks:List Ky):List eU:=(ms.filter λk=>decide (k∉ks)&&closed mk k.e).map eU.gone
structure gp(K:Fg7)(C:Addr)(H:Hp)(x p d m:Addr)(pl:Pl)(mk:Option Int)(ws:List Wn)(ms:List (Str×Int×Int)):Prop where
 ob:∃dx,H x=some (.ins C dx (fh p (yk mk) d m))
 pl:bu K H p pl.row
 wd:∃kvs,H d=some (.dT kvs)/\bT H kvs ws
 ml:∃xs,H m=some (.lst xs)/\aC (λq:Str×Int×Int=>[.str q.1,.int q.2.1,.int q.2.2]) H xs ms
 nd:(ws.map Wn.k).Nodup
inductive wK(K:Fg7)(C:Addr)(vs:List V)(H:Hp)(Q:VK):Prop
 |mk(x p d m:Addr)(pl:Pl)(mk:Option Int)(ws:List Wn)(ms:List (Str×Int×Int))(n:Str)(t a:Int):(vs=[.ref x,.str n,.int t,.int a])->(gp K C H x p d m pl mk ws ms)->(pl.ok)->((-(10^45)<t/\t<10^45))->((ws.length+200<1000000/\ws.length<TS.MX))->(ms.length<1000000)->((late mk (cB pl) t=true->∀(l:Addr)(zs:List V)(H':Hp),(∀b o,H b=some o->b≠m->H' b=some o)->H l=none->H' l=some (.lst zs)->aC eU.v H' zs [.missed n t a]->gp K C H' x p d m pl mk ws (ms++[(n,t,a)])->Q (.ref l) H'))->((late mk (cB pl) t=false->∀(l:Addr)(zs:List V)(H':Hp)(mt ks:List Ky)(fN:List Wn),kP pl n t a ws mt ks fN->(∀b o,H b=some o->b≠d->H' b=some o)->H l=none->H' l=some (.lst zs)->aC eU.v H' zs (fV mk mt ks++fU mk fN ks)->gp K C H' x p d m pl mk fN ms->Q (.ref l) H'))->wK K C vs H Q
def AA(K:Fg7)(C:Addr):Sp:=λvs H Q d_=>wK K C vs H Q
theorem CM{ws:List Wn}{k:Ky}(h:k∉ws.map Wn.k):dc ws k.l=none:=by
 cases e:dc ws k.l with
 |none=>rfl
 |some w=>
  have h1:=List.find?_some e
  have h2:=List.mem_of_find?_eq_some e
  exact absurd (List.mem_map.mpr ⟨w,h2,iA (a:=w.k) (b:=k) (of_decide_eq_true h1)⟩) h
theorem yJ{ws:List Wn}{n:Str}{s e c t:Int}(h:(ws.map Wn.k).Nodup):((kT ws n s e c t).map Wn.k).Nodup:=by
 unfold kT
 split
 ·have:(ws.map λw=>if w.ky=oH n s e then {w with c:=c,t:=t}else w).map Wn.k=ws.map Wn.k:=by
   rw[List.map_map]
   refine List.map_congr_left λw _=>?_
   show(if w.ky=oH n s e then {w with c:=c,t:=t}else w).k=w.k
   split<;>rfl
  rw[this]
  exact h
 ·rename_i hn
  rw[List.map_append]
  refine List.nodup_append.mpr ⟨h,by simp,λa ha b hb=>?_⟩
  simp at hb
  rintro rfl
  obtain⟨w,hw,ew⟩:=List.mem_map.mp ha
  refine hn (List.any_eq_true.mpr ⟨w,hw,decide_eq_true ?_⟩)
  rw[Wn.Cy,ew,hb]
  rfl
theorem lS{ws:List Wn}{n:Str}{s e c t:Int}(h:(ws.map Wn.k).Nodup):((addW ws n s e c t).map Wn.k).Nodup:=by
 unfold addW
 split<;>exact yJ h
theorem xS{ws:List Wn}{k:List Key}(h:(ws.map Wn.k).Nodup):((cZ ws k).map Wn.k).Nodup:=h.sublist ((List.filter_sublist).map _)
theorem jL{g:Ky}:∀{ks:List Ky}{ws:List Wn},(ws.map Wn.k).Nodup->((cY ws ks g).map Wn.k).Nodup
 |[],_,h=>h
 |k::ks,ws,h=>by
  show((cY _ ks g).map Wn.k).Nodup
  refine jL ?_
  dsimp only
  split
  ·exact lS (xS h)
  ·exact h
theorem nV{g:Ky}:∀{ks:List Ky}{ws:List Wn},(cY ws ks g).length<=ws.length
 |[],_=>Nat.le_refl _
 |k::ks,ws=>by
  show(cY _ ks g).length<=ws.length
  refine Nat.le_trans nV ?_
  dsimp only
  split
  ·rename_i w e
   have h1:=List.find?_some e
   have h2:=List.mem_of_find?_eq_some e
   have h3:=ug (k:=k) (ws:=ws) (List.mem_map.mpr ⟨w,h2,iA (a:=w.k) (b:=k) (of_decide_eq_true h1)⟩)
   have h4:=ny (cZ ws k.l) g.n g.s g.e w.c w.t
   lia
  ·exact Nat.le_refl _
def bX(a:Int)(ws:List Wn)(ks:List Ky):List Wn:=ks.foldl (λu k=>addW u k.n k.s k.e 1 a) ws
theorem ya(a:Int)(ws:List Wn)(ks:List Ky)(k:Ky):bX a ws (ks++[k])=addW (bX a ws ks) k.n k.s k.e 1 a:=by
 unfold bX
 rw[List.foldl_append]
 rfl
theorem jt{a:Int}:∀{ks:List Ky}{ws:List Wn},(ws.map Wn.k).Nodup->((bX a ws ks).map Wn.k).Nodup
 |[],_,h=>h
 |_::ks,_,h=>jt (ks:=ks) (lS h)
theorem lT{a:Int}:∀{ks:List Ky}{ws:List Wn},(bX a ws ks).length<=ws.length+ks.length
 |[],_=>Nat.le_refl _
 |k::ks,ws=>by
  have h1:=lT (a:=a) (ks:=ks) (ws:=addW ws k.n k.s k.e 1 a)
  have h2:=ny ws k.n k.s k.e 1 a
  have h3:bX a ws (k::ks)=bX a (addW ws k.n k.s k.e 1 a) ks:=rfl
  rw[h3,List.length_cons]
  lia
theorem rP{a:Int}{q:Ky}:∀{ks:List Ky}{ws:List Wn},q∈ks\/q∈ws.map Wn.k->q∈(bX a ws ks).map Wn.k
 |[],_,h=>h.elim (λz=>nomatch z) id
 |k::ks,ws,h=>by
  have h3:bX a ws (k::ks)=bX a (addW ws k.n k.s k.e 1 a) ks:=rfl
  rw[h3]
  refine rP ?_
  rw[ux]
  rcases h with h|h
  ·rcases List.mem_cons.mp h with rfl|h
   ·exact .inr (.inr rfl)
   ·exact .inl h
  ·exact .inr (.inl h)
theorem Kept.tup{H H':Hp}{m:Addr}{z:HO}(k:Kept H H' m)(hm:H m=some z)(n1:∀r,z≠.tup r):∀a row,H a=some (.tup row)->H' a=some (.tup row):=λa row e=>k a _ e λq=>by
 rw[q,hm]at e
 exact n1 row (Option.some.inj e)
theorem Kept.ji{K:Fg7}{H H':Hp}{m p:Addr}{z:HO}{row:List V}(k:Kept H H' m)(hm:H m=some z)(n1:∀r,z≠.tup r)(n2:∀o u,z≠.e_ o u)(h:bu K H p row):bu K H' p row:=by
 rcases h with(h|⟨o,h⟩)|h
 ·exact .inl (.inl (k.tup hm n1 _ _ h))
 ·refine .inl (.inr ⟨o,k _ _ h λq=>?_⟩)
  rw[q,hm]at h
  exact n2 _ _ (Option.some.inj h)
 ·exact .inr h
theorem Kept.refl(H:Hp)(d:Addr):Kept H H d:=λ_ _ e _=>e
theorem Kept.free{H H':Hp}{d l:Addr}(k:Kept H H' d)(hn:l≠d)(h:H' l=none):H l=none:=by
 cases e:H l with
 |none=>rfl
 |some o=>rw[k l o e hn]at h;cases h
def Mid(pl:Pl)(n:Str)(t:Int)(ws:List Wn)(ms ks:List Ky)(fN:List Wn):Prop:=
 (sj pl=false/\ms=[]/\ks=cg pl n t/\fN=ws)\/
 (sj pl=true/\ms.Perm ((ws.filter (meet ⟨n,t,t+pl.len⟩)).map Wn.k)/\(ms.map Ky.d).Pairwise (λd e=>aY d e≠.gt)/\∃s e:Int,(s=t\/∃k∈ms,k.s=s)/\s<=t/\(∀k∈ms,s<=k.s)/\(e=t+pl.len\/∃k∈ms,k.e=e)/\t+pl.len<=e/\(∀k∈ms,k.e<=e)/\ks=[⟨n,s,e⟩]/\fN=cY ws ms ⟨n,s,e⟩)
theorem Mid.rel{pl:Pl}{n:Str}{t a:Int}{ws:List Wn}{ms ks:List Ky}{fN:List Wn}(h:Mid pl n t ws ms ks fN):kP pl n t a ws ms ks (bX a fN ks):=by
 rcases h with⟨h1,h2,h3,rfl⟩|⟨h1,h2,h3,s,e,h4,h5,h6,h7,h8,h9,rfl,rfl⟩
 ·exact .inl ⟨h1,h2,h3,rfl⟩
 ·exact .inr ⟨h1,h2,h3,s,e,h4,h5,h6,h7,h8,h9,rfl,rfl⟩
theorem sF(l g:Int)(n:Str)(t:Int):cg (.pauses l g) n t=[⟨n,t,t+l⟩]:=rfl
theorem CL(mk:Option Int)(a b ks:List Ky):fV mk (a++b) ks=fV mk a ks++fV mk b ks:=by
 unfold fV
 rw[List.filter_append,List.map_append]
theorem oM(mk:Option Int)(ms ks:List Ky):(fV mk ms ks).length<=ms.length:=by
 unfold fV
 rw[List.length_map]
 exact List.length_filter_le _ _
theorem xM{mk:Option Int}{k:Ky}{ks:List Ky}(h1:k∉ks)(h2:closed mk k.e=true):fV mk [k] ks=[.gone k]:=by
 unfold fV
 simp[h1,h2]
open Classical in
theorem pT{mk:Option Int}{k:Ky}{ks:List Ky}(h:¬(k∉ks/\closed mk k.e=true)):fV mk [k] ks=[]:=by
 unfold fV
 simp only[List.filter_cons,List.filter_nil]
 rw[if_neg]
 ·rfl
 ·intro z
  have z:=(Bool.and_eq_true _ _).mp z
  exact h ⟨of_decide_eq_true z.1,z.2⟩
theorem BJ(mk:Option Int)(ws:List Wn)(a b:List Ky):fU mk ws (a++b)=fU mk ws a++fU mk ws b:=by
 unfold fU
 rw[List.filter_append,List.filterMap_append]
theorem nL(mk:Option Int)(ws:List Wn)(ks:List Ky):(fU mk ws ks).length<=ks.length:=by
 unfold fU
 exact Nat.le_trans (List.length_filterMap_le _ _) (List.length_filter_le _ _)
theorem vV{mk:Option Int}{ws:List Wn}{k:Ky}{w:Wn}(h:closed mk k.e=true)(hg:dc ws k.l=some w):fU mk ws [k]=[.told w]:=by
 unfold fU
 simp[h,hg]
theorem vW{mk:Option Int}{ws:List Wn}{k:Ky}(h:¬closed mk k.e=true):fU mk ws [k]=[]:=by
 unfold fU
 simp[h]
section
variable {P:Program} {w:World} {K:Fg7} {mg:Str->Option Value} {C:Addr}
theorem Jx(D:bA K C "take_event" "Desk.take_event" bL)(M:MG K mg)(T:eB K C)(je:dZ K "PAUSES" (.str "pauses"))(jf:ef P w K mg "kind_of" ["plan"] 1 (uG K))(zR:ef P w K mg "spans_at" ["plan","time"] 3 (Aj K))
  (lX:cJ P w K mg iS C "is_too_late" ["self","time"] 2 (Er K C))(bN:cJ P w K mg iS C "is_closed" ["self","end"] 1 (jG C))(lW:cJ P w K mg iS C "keys_met_by" ["self","alone"] 1 (Kp C))
  (HB:ef P w K mg "joined" ["keys"] 1 (Et K))(kK:cJ P w K mg iS C "move_tallies" ["self","keys","target"] 2 (Ej K C))(gn:cJ P w K mg iS C "add_tally" ["self","key","tally"] 1 (EC C)):
  cJ P w K mg iS C "take_event" ["self","name","time","amount"] 4 (AA K C):=by
 have bB:=T.cl
 refine D.fn bz lR (λvs H Q E h=>?_) (λf base cdv A outer s H vs Q E hr h=>?_)
 ·obtain⟨x,p,d,m,pl,mk,ws,ms,n,t,a,rfl,_⟩:=h
  rfl
 ·obtain⟨x,p,d,m,pl,mk,ws,ms,n,t,a,rfl,DA,ok,ht,⟨hwl,hfx⟩,hml,kL,kN⟩:=h
  have hu1:=uc hr
  have hu:(A.deeper (envOfC "Desk.take_event" (ao bL) s.heap.objs.size f cdv)).units+64<cLine:=hr.units
  obtain⟨dx,hx⟩:=DA.ob
  obtain⟨kvs,hd,hw⟩:=DA.wd
  obtain⟨mx,hm,Jg⟩:=DA.ml
  have hp:=DA.pl
  have AZ:x≠d:=aT hx hd (by intro z;cases z)
  have nxm:x≠m:=aT hx hm (by intro z;cases z)
  have Zm:m≠d:=aT hm hd (by intro z;cases z)
  refine⟨_,(aq (bw (bU (cX (pv 0) bB.cl lX fK (hr.mono (by decide)) (pc (pv 2) aj))) (aq (gI (jJ PySem.F.plainAttrs_list PySem.F.slot_list_append PySem.F.type_list_append dw (dD (pv 0) rfl) (pc (cK (pc (pv 1) (pc (pv 2) (pc (pv 3) aj)))) aj)))
   (au (aL (cL (pc (cK (pc cA (pc (pv 1) (pc (pv 2) (pc (pv 3) aj))))) aj))))) aR)
   (aq (Ft (i:=4) bz.nd rfl (Or.inr rfl) (eF (NY:=["span","name"]) (js:=[none,some 1]) rfl rfl (by with_unfolding_all rfl) (by repeat first|exact cD.nil|refine cD.cons rfl ?_) (.own (.out rfl rfl (.inl rfl) .nil)) (bD (aW zR (hr.mono (by decide)) rfl (pc (dD (pv 0) rfl) (pc (pv 2) aj)))) (λ_ _ _ _ _=>⟨(aV (i:=0) (show(["span","name"]:List Str).Nodup from by decide +kernel) rfl (Or.inl rfl)),gP,(aD (gC (K:=K) rfl) (cK (pc (pv 1) aj)) (pv 0))⟩)) (by with_unfolding_all rfl))
   (aq (cW (i:=5) bz.nd rfl (Or.inl rfl) (cL aj))
   (gX (bw (aK dF (aW jf (hr.mono (by decide)) rfl (pc (dD (pv 0) rfl) aj)) (jI je M rfl) (aM _)) (aq (cW (i:=5) bz.nd rfl (Or.inl rfl) (cX (pv 0) bB.cl lW fK (hr.mono (by decide)) (pc (aH cj (pv 4) ah (λ_ _=>rfl)) aj)))
   (aq (cW (i:=4) bz.nd rfl (Or.inr rfl) (cL (pc (aW HB (hr.mono (by decide)) rfl (pc (aD uV (pv 5) (pv 4)) aj)) aj)))
   (au (gI (cX (pv 0) bB.cl kK fK (hr.mono (by decide)) (pc (pv 5) (pc (aH cj (pv 4) ah (λ_ _=>rfl)) aj))))))) aR)
   (aq (eZ PassesOwn.never rfl (bD (pv 4)) (aV (i:=6) bz.nd rfl (Or.inl rfl))
   (au (gI (cX (pv 0) bB.cl gn fK (hr.mono (by decide)) (pc (pv 6) (pc (cK (pc ah (pc (pv 3) aj))) aj))))))
   (aq (mH (k:=7) (NY:=["key","keys","self"]) (js:=[none,some 4,some 0]) rfl bz.nd rfl rfl rfl (by with_unfolding_all rfl) (by repeat first|exact cD.nil|refine cD.cons rfl ?_) (.own (.out rfl rfl (.inl rfl) (.out rfl rfl (.inl rfl) .nil))) (bD (pv 5)) (λ_ _ _ _ _=>⟨(aV (i:=0) (show(["key","keys","self"]:List Str).Nodup from by decide +kernel) rfl (Or.inl rfl)),(gx (PW.pt (jk (aK (yY (K:=K) rfl hu) (pv 0) (pv 1) (by with_unfolding_all rfl)) (jj (bU (cX (pv 2) bB.cl bN fK (hr.mono (by decide)) (pc (aH (bx (K:=K) rfl) (pv 0) ah (λ_ _=>rfl)) aj))))))),(aD (gC (K:=K) rfl) (cK (pc cA aj)) (pv 0))⟩))
   (aq (mH (k:=8) (NY:=["key","self"]) (js:=[none,some 0]) rfl bz.nd rfl rfl rfl (by with_unfolding_all rfl) (by repeat first|exact cD.nil|refine cD.cons rfl ?_) (.own (.out rfl rfl (.inl rfl) .nil)) (bD (pv 4)) (λ_ _ _ _ _=>⟨(aV (i:=0) (show(["key","self"]:List Str).Nodup from by decide +kernel) rfl (Or.inl rfl)),(gx (bU (cX (pv 1) bB.cl bN fK (hr.mono (by decide)) (pc (aH (bx (K:=K) rfl) (pv 0) ah (λ_ _=>rfl)) aj)))),(aD (gC (K:=K) rfl) (aD (gC (K:=K) rfl) (cK (pc cA aj)) (pv 0)) (IE hu1 (ID (K:=K) rfl (pv 1)) (pv 0) (λ_ _=>rfl)))⟩))
   (au (aL (aD uV (pv 7) (pv 8))))))))))),?_⟩
  refine bY λBq iQ=>?_
  refine⟨_,rfl,x,dx,_,rfl,hx,yq p d m _ DK DK DK DK,_,rfl,x,dx,p,d,m,mk,pl,t,rfl,hx,hp,_,rfl,?_⟩
  refine aO (λhlt=>?_) (λhlt=>?_)
  ·-- too late
   refine⟨_,rfl,x,C,dx,_,_,rfl,hx,T.cl.cl,T.nS,fS p d m _,.inl ⟨rfl,_,br.of hm⟩,_,rfl,_,rfl,_,rfl,(by show 3<=sizeLine;decide),λq hq=>?_⟩
   have s1:=aA.new (o:=.tup [.str n,.int t,.int a]) hq
   refine⟨m,mx,.ref q,rfl,rfl,s1 _ _ hm,(by have:=sizeLine_eq;have:=Jg.len;lia),?_⟩
   have Gh:Kept H (upd (upd H q (.tup [.str n,.int t,.int a])) m (.lst (mx++[.ref q]))) m:=λb o e nb=>by rw[ai nb];exact s1 _ _ e
   have nqm:q≠m:=λz=>by rw[z,hm]at hq;cases hq
   have hq1:upd (upd H q (.tup [.str n,.int t,.int a])) m (.lst (mx++[.ref q])) q=some (.tup [.str n,.int t,.int a]):=by rw[ai nqm,af]
   have hm1:upd (upd H q (.tup [.str n,.int t,.int a])) m (.lst (mx++[.ref q])) m=some (.lst (mx++[.ref q])):=af
   generalize upd (upd H q (.tup [.str n,.int t,.int a])) m (.lst (mx++[.ref q]))=H1 at *
   refine⟨_,rfl,_,rfl,_,rfl,(by show 4<=sizeLine;decide),λr hr'=>⟨(by show 1<=sizeLine;decide),λl hl=>?_⟩⟩
   have s2:=(aA.new (o:=.tup [.str "missed",.str n,.int t,.int a]) hr').trans (aA.new (o:=.lst [.ref r]) hl)
   have Wr:l≠m:=λz=>by rw[z,(aA.new hr') _ _ hm1]at hl;cases hl
   have IV:Kept H (upd (upd H1 r (.tup [.str "missed",.str n,.int t,.int a])) l (.lst [.ref r])) m:=λb o e nb=>s2 _ _ (Gh b o e nb)
   have tp:=IV.tup hm (λr z=>nomatch z)
   have Wl:r≠l:=λz=>by rw[z,←z,af]at hl;cases hl
   refine kL hlt l [.ref r] _ IV (Gh.free Wr ((aA.new hr').free hl)) af (.cons ⟨r,rfl,by rw[ai Wl,af];rfl⟩ .nil) ⟨⟨dx,IV _ _ hx nxm⟩,IV.ji hm (λr z=>nomatch z) (λo u z=>nomatch z) hp,⟨kvs,IV _ _ hd Zm.symm,hw.keep tp⟩,⟨_,s2 _ _ hm1,(Jg.keep tp).snoc (s2 _ _ hq1)⟩,DA.nd⟩
  ·have hlt':late mk (cB pl) t=false:=Bool.eq_false_iff.mpr hlt
   subst iQ
   dsimp only[tF]
   refine bY λBq iQ=>?_
   refine⟨_,rfl,x,C,dx,_,_,rfl,hx,T.cl.cl,T.nP,fP p d m _,_,rfl,p,pl,t,rfl,hp,ok,ht,λRi Vm H1 s1 ab3 yp T1=>⟨Ri,rfl,⟨_,br.of yp⟩,λkl Xw=>?_⟩⟩
   have T1':aC id H1 Vm (HP pl t):=T1
   have Zx:=T1'.len
   have Rh:=uH ok t
   rw[vO,List.length_map]at Zx
   refine dQ (K:=K) (a:=Ri) (xs:=Vm) (λi ys H'=>aA H1 H'/\H' kl=some (.lst ys)/\bP H' ys ((cg pl n t).take i)) ⟨aA.new Xw,af,.nil⟩ (λi ys H' h=>h.2.1) (λi ys H' _ h=>h.1.seq (br.of yp)) ?_ ?_
   ·rintro i y ys H2 hi ⟨s2,hk2,K2⟩
    obtain⟨row,b,er,rfl,hb⟩:=T1'.get hi
    rw[vO,List.getElem?_map]at er
    obtain⟨q,eq,rfl⟩:=Option.map_eq_some_iff.mp er
    have LJ:(cg pl n t).take (i+1)=(cg pl n t).take i++[⟨n,q.1,q.2⟩]:=by
     rw[List.take_add_one]
     have:(cg pl n t)[i]? = some ⟨n,q.1,q.2⟩:=by unfold cg;rw[List.getElem?_map,eq];rfl
     rw[this];rfl
    refine⟨cy rfl,?_⟩
    refine⟨_,rfl,(by show 1<=sizeLine;decide),λc hc=>?_⟩
    have s3:=aA.new (o:=.tup [.str n]) hc
    refine⟨_,rfl,c,b,_,_,rfl,rfl,bu.of af,bu.of (s3 _ _ (s2 _ _ hb)),(by intro z;cases z),(by show 3<=sizeLine;decide),(λz=>nomatch z),λ_ r hr'=>?_⟩
    have s4:=s3.trans (aA.new (o:=.tup ([.str n]++[.int q.1,.int q.2])) hr')
    have nrk:r≠kl:=λz=>by rw[z,s3 _ _ hk2]at hr';cases hr'
    refine⟨ys,s4 _ _ hk2,?_,?_⟩
    ·rw[K2.len,List.length_take]
     have:(cg pl n t).length<=100:=by unfold cg;rw[List.length_map];exact Rh
     have:=sizeLine_eq
     lia
    ·refine⟨λb o e=>?_,af,?_⟩
     ·rw[ai (av e Xw)]
      exact s4 _ _ (s2 _ _ e)
     ·rw[LJ]
      refine bP.snoc (K2.keep λa row e=>?_) ?_
      ·rw[ai (aT e hk2 (by intro z;cases z))]
       exact s4 _ _ e
      ·rw[ai nrk,af];rfl
   ·rintro xk H2 ⟨s2,hk2,K2⟩
    have Ye:(cg pl n t).length=Vm.length:=by unfold cg;rw[List.length_map];exact Zx.symm
    rw[←Ye,List.take_length]at K2
    have s12:=s1.trans s2
    subst iQ
    dsimp only[ff]
    refine bY λBq iQ=>?_
    refine⟨(by show 0<=sizeLine;decide),λml NG=>?_⟩
    have s3:=s12.trans (aA.new (o:=.lst []) NG)
    have Si:upd H2 ml (.lst []) kl=some (.lst xk):=(aA.new NG) _ _ hk2
    have K3:bP (upd H2 ml (.lst [])) xk (cg pl n t):=K2.keep λa row e=>(aA.new NG) _ _ e
    have NF:upd H2 ml (.lst []) ml=some (.lst []):=af
    generalize upd H2 ml (.lst [])=H3 at *
    subst iQ
    dsimp only[ff]
    refine⟨λσ' H'=>∃(HG MO:Addr) (xk xm:List V) (ks mt:List Ky) (Cz:List (List Key×V)) (sU:List Wn),σ'=[some (.ref x),some (.str n),some (.int t),some (.int a),some (.ref HG),some (.ref MO),none,none,none]/\Kept H H' d/\H' HG=some (.lst xk)/\bP H' xk ks/\H' MO=some (.lst xm)/\bP H' xm mt/\
     H' d=some (.dT Cz)/\bT H' Cz sU/\sU.length+200<1000000/\(sU.map Wn.k).Nodup/\Mid pl n t ws mt ks sU/\ks.length<=100/\mt.length<=ws.length,?_,?_⟩
    ·have CH:=s3 _ _ hx
     have LB:=s3 _ _ hd
     have RM:bT H3 kvs ws:=hw.keep λa row e=>s3 _ _ e
     refine⟨_,rfl,x,C,dx,_,_,rfl,CH,T.cl.cl,T.nP,fP p d m _,p,pl,rfl,s3.ji hp,rfl,_,rfl,?_⟩
     refine aO (λhk=>?_) (λhk=>?_)
     ·have hk':pl.kind=("pauses":Str):=V.str.inj (of_decide_eq_true hk)
      obtain⟨L,g,rfl⟩:∃L g,pl=.pauses L g:=by
       cases pl with
       |fixed l g=>exact absurd hk' (show¬("fixed":Str)="pauses" by decide +kernel)
       |sliding l s g=>exact absurd hk' (show¬("sliding":Str)="pauses" by decide +kernel)
       |pauses l g=>exact⟨l,g,rfl⟩
      rw[sF]at K3
      obtain⟨ka,rfl,hka⟩:∃ka,xk=[.ref ka]/\H3 ka=some (.tup (Ky.v ⟨n,t,t+L⟩)):=by
       cases K3 with
       |cons r t=>
        obtain⟨ka,rfl,hka⟩:=r
        cases t
        exact⟨ka,rfl,hka⟩
      refine⟨_,rfl,x,dx,_,rfl,CH,yq p d m _ DK DK DK DK,_,rfl,kl,_,0,_,rfl,rfl,br.of Si,rfl,x,dx,p,d,m,ka,yk mk,⟨n,t,t+L⟩,kvs,ws,rfl,CH,hka,LB,RM,⟨by lia,hfx⟩,λl1 zs zh H4 s4 lO hl1 K4 pm pw=>?_⟩
      have YX:∀k∈zh,k.n=n/\k∈ws.map Wn.k:=λk hk=>by
       obtain⟨w,hw,rfl⟩:=List.mem_map.mp (pm.mem_iff.mp hk)
       obtain⟨h1,h2⟩:=List.mem_filter.mp hw
       unfold meet at h2
       simp only[Bool.and_eq_true,decide_eq_true_eq]at h2
       exact⟨h2.1,List.mem_map.mpr ⟨w,h1,rfl⟩⟩
      have pml:zh.length<=ws.length:=by
       rw[pm.length_eq,List.length_map]
       exact List.length_filter_le _ _
      have pnd:zh.Nodup:=pm.nodup_iff.mpr (DA.nd.sublist ((List.filter_sublist).map _))
      have hk4:=s4 _ _ Si
      refine⟨_,rfl,_,rfl,l1,kl,zs,[.ref ka],rfl,rfl,hl1,hk4,?_,λc hc=>?_⟩
      ·have:=K4.len
       have:=sizeLine_eq
       simp only[List.length_singleton]
       lia
      have s5:=aA.new (o:=.lst (zs++[.ref ka])) hc
      have hc5:upd H4 c (.lst (zs++[.ref ka])) c=some (.lst (zs++[.ref ka])):=af
      have K5:bP (upd H4 c (.lst (zs++[.ref ka]))) (zs++[.ref ka]) (zh++[⟨n,t,t+L⟩]):=(K4.keep λa row e=>s5 _ _ e).snoc (s5 _ _ (s4 _ _ hka))
      generalize upd H4 c (.lst (zs++[.ref ka]))=H5 at *
      have hall:∀k∈zh++[(⟨n,t,t+L⟩:Ky)],k.n=n:=λk hk=>by
       rcases List.mem_append.mp hk with h|h
       ·exact(YX k h).1
       ·rw[List.mem_singleton.mp h]
      obtain⟨k0,ek0⟩:∃k0,(zh++[(⟨n,t,t+L⟩:Ky)])[0]? = some k0:=⟨(zh++[(⟨n,t,t+L⟩:Ky)])[0]'(by simp),by simp⟩
      have Yg:k0.n=n:=hall k0 (List.mem_of_getElem? ek0)
      refine⟨c,_,_,k0,rfl,br.of hc5,K5,ek0,(by simp;lia),λr sM eM H6 s6 hr0 hs1 hs2 XF UR RW=>⟨(by show 1<=sizeLine;decide),λq hq=>?_⟩⟩
      rw[Yg]at RW
      have YO:=(s4.trans s5).trans s6
      have s7:=aA.new (o:=.lst [.ref r]) hq
      have OW:=YO.trans s7
      have ZQ:upd H6 q (.lst [.ref r]) q=some (.lst [.ref r]):=af
      have ZO:upd H6 q (.lst [.ref r]) r=some (.tup (Ky.v ⟨n,sM,eM⟩)):=s7 _ _ RW
      have ZU:upd H6 q (.lst [.ref r]) l1=some (.lst zs):=s7 _ _ (s6 _ _ (s5 _ _ hl1))
      have K7:bP (upd H6 q (.lst [.ref r])) zs zh:=K4.keep λa row e=>s7 _ _ (s6 _ _ (s5 _ _ e))
      have Xh:q≠d:=λz=>by rw[z,YO _ _ LB]at hq;cases hq
      have vd:l1≠d:=λz=>by rw[z,LB]at lO;cases lO
      generalize upd H6 q (.lst [.ref r])=H7 at *
      refine⟨_,rfl,x,dx,_,rfl,OW _ _ CH,yq p d m _ DK DK DK DK,_,rfl,_,rfl,q,[.ref r],0,_,rfl,rfl,br.of ZQ,rfl,x,dx,p,d,m,l1,r,yk mk,⟨n,sM,eM⟩,zs,zh,kvs,ws,rfl,OW _ _ CH,ZO,ZU,K7,OW _ _ LB,RM.keep (λa row e=>OW _ _ e),by lia,pnd,λk hk=>(YX k hk).2,λH8 WQ UH hd8 hw8=>?_⟩
      have YF:=UH.tups (OW _ _ LB)
      have lM:=nV (g:=⟨n,sM,eM⟩) (ks:=zh) (ws:=ws)
      refine⟨q,l1,[.ref r],zs,[⟨n,sM,eM⟩],zh,WQ,cY ws zh ⟨n,sM,eM⟩,rfl,(aA.kept (s3.trans OW)).trans UH,UH _ _ ZQ Xh,.cons ⟨r,rfl,YF _ _ ZO⟩ .nil,UH _ _ ZU vd,K7.keep YF,hd8,hw8,by lia,jL DA.nd,.inr ⟨rfl,pm,pw,sM,eM,?_,hs2 ⟨n,t,t+L⟩ (by simp),λk hk=>hs2 k (by simp[hk]),?_,UR ⟨n,t,t+L⟩ (by simp),λk hk=>UR k (by simp[hk]),rfl,rfl⟩,(by simp),pml⟩
      ·obtain⟨k,hk,e⟩:=hs1
       rcases List.mem_append.mp hk with h|h
       ·exact .inr ⟨k,h,e⟩
       ·rw[List.mem_singleton.mp h]at e
        exact .inl e.symm
      ·obtain⟨k,hk,e⟩:=XF
       rcases List.mem_append.mp hk with h|h
       ·exact .inr ⟨k,h,e⟩
       ·rw[List.mem_singleton.mp h]at e
        exact .inl e.symm
     ·have hk':sj pl=false:=by
       cases pl with
       |fixed l g=>rfl
       |sliding l s g=>rfl
       |pauses l g=>exact absurd (decide_eq_true rfl) hk
      refine⟨kl,ml,xk,[],cg pl n t,[],kvs,ws,rfl,aA.kept s3,Si,K3,NF,.nil,LB,RM,by lia,DA.nd,.inl ⟨hk',rfl,rfl,rfl⟩,?_,Nat.zero_le _⟩
      unfold cg
      rw[List.length_map]
      exact Rh
    ·rintro σ' H4 ⟨HG,MO,Vn,xm,ks,mt,Cz,sU,rfl,Pa,Jh,K4,R_,M4,SK,hw4,abV,nd4,mid,lks,lmt⟩
     have ZL:=Pa _ _ hx AZ
     have Zn:HG≠d:=aT Jh SK (by intro z;cases z)
     have Wq:MO≠d:=aT R_ SK (by intro z;cases z)
     refine bY λBq iQ=>?_
     refine⟨_,rfl,HG,rfl,⟨_,br.of Jh⟩,?_⟩
     refine eS (K:=K) (a:=HG) (xs:=Vn) (λi σ H'=>∃(v:Option V) (zg:List (List Key×V)),σ=[some (.ref x),some (.str n),some (.int t),some (.int a),some (.ref HG),some (.ref MO),v,none,none]/\Kept H4 H' d/\H' d=some (.dT zg)/\bT H' zg (bX a sU (ks.take i)))
      ⟨none,Cz,rfl,Kept.refl _ _,SK,hw4⟩ (λi σ H' _ ⟨_,_,_,kp,_⟩=>br.of (kp _ _ Jh Zn)) ?_ ?_
     ·rintro i y σ H5 hi ⟨v,zg,rfl,HF,SJ,Pd⟩
      obtain⟨kk,b,ek,rfl,hb⟩:=K4.get hi
      have Pc:=HF _ _ ZL AZ
      refine⟨_,rfl,x,dx,_,rfl,Pc,yq p d m _ DK DK DK DK,_,rfl,_,rfl,(by show 2<=sizeLine;decide),λq hq=>?_⟩
      have s6:=aA.new (o:=.tup [.int 1,.int a]) hq
      have hl5:=lT (a:=a) (ks:=ks.take i) (ws:=sU)
      refine⟨x,dx,p,d,m,b,q,yk mk,kk.n,kk.s,kk.e,1,a,zg,_,rfl,s6 _ _ Pc,s6 _ _ (HF.tups SK _ _ hb),af,s6 _ _ SJ,Pd.keep (λa row e=>s6 _ _ e),?_,λH6 Ru kp6 XG Xb=>?_⟩
      ·rw[Pd.len]
       have:=List.length_take_le' i ks
       have:=sizeLine_eq
       lia
      ·refine⟨_,Ru,rfl,(HF.trans (aA.kept s6)).trans kp6,XG,?_⟩
       rw[List.take_add_one,ek]
       show bT H6 Ru (bX a sU (ks.take i++[kk]))
       rw[ya]
       exact Xb
     ·rintro σ H5 ⟨v,zg,rfl,HF,SJ,Pd⟩
      rw[K4.len,List.take_length]at Pd
      have Pc:=HF _ _ ZL AZ
      have YG:=HF.tups SK
      have Sf:=HF _ _ Jh Zn
      have RZ:=HF _ _ R_ Wq
      have K5:=K4.keep YG
      have M5:=M4.keep YG
      subst iQ
      try dsimp only[ff]
      refine bY λBq iQ=>?_
      refine⟨_,rfl,MO,rfl,⟨_,br.of RZ⟩,λgl ZW=>?_⟩
      refine dQ (K:=K) (a:=MO) (xs:=xm) (λi ys H'=>aA H5 H'/\H' gl=some (.lst ys)/\aC eU.v H' ys (fV mk (mt.take i) ks)) ⟨aA.new ZW,af,.nil⟩ (λi ys H' h=>h.2.1) (λi ys H' _ h=>h.1.seq (br.of RZ)) ?_ ?_
      ·rintro i y ys H6 hi ⟨s6,NI,G6⟩
       obtain⟨kk,b,ek,rfl,hb⟩:=M5.get hi
       refine⟨cy rfl,?_⟩
       refine⟨_,rfl,_,rfl,HG,Vn,kk.d,ks.map Ky.d,rfl,s6.seq (br.of Sf),Gp (s6 _ _ hb),(K5.keep λa row e=>s6 _ _ e).Oj,?_,λbq NL=>⟨_,rfl,?_⟩⟩
       ·intro e he
        obtain⟨k',_,rfl⟩:=List.mem_map.mp he
        exact⟨rfl,Nat.le_of_ble_eq_true rfl⟩
       have LJ:∀zs,fV mk (mt.take i) ks=zs->fV mk (mt.take (i+1)) ks=zs++fV mk [kk] ks:=λzs hz=>by
        rw[←hz,List.take_add_one,ek]
        exact CL ..
       have hin:bq=true↔kk∈ks:=by
        rw[NL]
        constructor
        ·intro h
         obtain⟨k',h1,h2⟩:=List.mem_map.mp h
         rw[←u_ h2]
         exact h1
        ·exact λh=>List.mem_map.mpr ⟨kk,h,rfl⟩
       refine aO (λh1=>?_) (λh1=>?_)
       ·have Xm:kk∉ks:=λz=>by
         rw[hin.mpr z]at h1
         cases h1
        refine⟨_,rfl,x,dx,_,rfl,s6 _ _ Pc,yq p d m _ DK DK DK DK,_,rfl,b,_,2,_,rfl,rfl,bu.of (s6 _ _ hb),rfl,x,dx,p,d,m,mk,kk.e,rfl,s6 _ _ Pc,_,rfl,?_⟩
        refine aO (λh2=>?_) (λh2=>?_)
        ·refine⟨(by show 1<=sizeLine;decide),λc hc=>?_⟩
         have s7:=aA.new (o:=.tup [.str "gone"]) hc
         refine⟨_,rfl,c,b,_,_,rfl,rfl,bu.of af,bu.of (s7 _ _ (s6 _ _ hb)),(by intro z;cases z),(by show 4<=sizeLine;decide),(λz=>nomatch z),λ_ r hr'=>?_⟩
         have s8:=s7.trans (aA.new (o:=.tup ([.str "gone"]++kk.v)) hr')
         have QK:r≠gl:=λz=>by rw[z,s7 _ _ NI]at hr';cases hr'
         refine⟨ys,s8 _ _ NI,?_,λb o e=>?_,af,?_⟩
         ·rw[G6.len]
          have:=oM mk (mt.take i) ks
          have:=List.length_take_le' i mt
          have:=sizeLine_eq
          lia
         ·rw[ai (av e ZW)]
          exact s8 _ _ (s6 _ _ e)
         ·rw[LJ _ rfl,xM Xm h2]
          refine aC.snoc (G6.keep λa row e=>?_) ?_
          ·rw[ai (aT e NI (by intro z;cases z))]
           exact s8 _ _ e
          ·rw[ai QK,af];rfl
        ·refine⟨ys,s6,NI,?_⟩
         rw[LJ _ rfl,pT (λz=>h2 z.2),List.append_nil]
         exact G6
       ·have hiq:kk∈ks:=by
         refine hin.mp ?_
         cases bq with
         |true=>rfl
         |false=>exact absurd rfl h1
        refine⟨ys,s6,NI,?_⟩
        rw[LJ _ rfl,pT (λz=>z.1 hiq),List.append_nil]
        exact G6
      ·rintro yg H6 ⟨s6,NI,G6⟩
       rw[M5.len,List.take_length]at G6
       have Xa:=s6 _ _ Pc
       have K6:=K5.keep λa row e=>s6 _ _ e
       have Se:=s6 _ _ Sf
       have XG:=s6 _ _ SJ
       have Xb:bT H6 zg (bX a sU ks):=Pd.keep λa row e=>s6 _ _ e
       subst iQ
       try dsimp only[ff]
       refine bY λBq iQ=>?_
       refine⟨_,rfl,HG,rfl,⟨_,br.of Se⟩,λtl Dz=>?_⟩
       refine dQ (K:=K) (a:=HG) (xs:=Vn) (λi ys H'=>aA H6 H'/\H' tl=some (.lst ys)/\aC eU.v H' ys (fU mk (bX a sU ks) (ks.take i))) ⟨aA.new Dz,af,.nil⟩ (λi ys H' h=>h.2.1) (λi ys H' _ h=>h.1.seq (br.of Se)) ?_ ?_
       ·rintro i y ys H7 hi ⟨s7,Pf,G7⟩
        obtain⟨kk,b,ek,rfl,hb⟩:=K6.get hi
        have LJ:fU mk (bX a sU ks) (ks.take (i+1))=fU mk (bX a sU ks) (ks.take i)++fU mk (bX a sU ks) [kk]:=by
         rw[List.take_add_one,ek]
         exact BJ ..
        refine⟨cy rfl,?_⟩
        refine⟨_,rfl,x,dx,_,rfl,s7 _ _ Xa,yq p d m _ DK DK DK DK,_,rfl,b,_,2,_,rfl,rfl,bu.of (s7 _ _ hb),rfl,x,dx,p,d,m,mk,kk.e,rfl,s7 _ _ Xa,_,rfl,?_⟩
        refine aO (λh2=>?_) (λh2=>?_)
        ·refine⟨(by show 1<=sizeLine;decide),λc hc=>?_⟩
         have s8:=aA.new (o:=.tup [.str "told"]) hc
         refine⟨_,rfl,c,b,_,_,rfl,rfl,bu.of af,bu.of (s8 _ _ (s7 _ _ hb)),(by intro z;cases z),(by show 4<=sizeLine;decide),(λz=>nomatch z),λ_ r hr'=>?_⟩
         have s9:=(aA.new (o:=.tup [.str "told"]) hc).trans (aA.new (o:=.tup ([.str "told"]++kk.v)) hr')
         have Pe:upd (upd H7 c (.tup [.str "told"])) r (.tup ([.str "told"]++kk.v)) r=some (.tup ([.str "told"]++kk.v)):=af
         generalize upd (upd H7 c (.tup [.str "told"])) r (.tup ([.str "told"]++kk.v))=H9 at *
         have Us:=s7.trans s9
         have hmem:kk∈(bX a sU ks).map Wn.k:=rP (.inl (List.mem_of_getElem? ek))
         rcases Xb.get kk.l with⟨_,h4⟩|⟨vv,ww,h3,h4,h5,va,rfl,h6⟩
         ·obtain⟨w,hw,ew⟩:=List.mem_map.mp hmem
          have:=List.find?_eq_none.mp h4 w hw
          exact absurd (decide_eq_true (show w.ky=kk.l by rw[Wn.Cy,ew])) this
         refine⟨_,rfl,x,C,dx,_,_,rfl,Us _ _ Xa,T.cl.cl,T.nW,fW p d m _,_,rfl,d,.ref va,rfl,?_,?_⟩
         ·rw[←h3]
          exact vK.t (k:=kk.l) (Us _ _ XG) (Us _ _ hb)
         refine⟨r,va,_,_,rfl,rfl,bu.of Pe,bu.of (Us _ _ h6),(by intro z;cases z),(by show 6<=sizeLine;decide),(λz=>nomatch z),λ_ r2 hr2=>?_⟩
         have yP:=s9.trans (aA.new (o:=.tup (([.str "told"]++kk.v)++[.int ww.c,.int ww.t])) hr2)
         have QK:r2≠tl:=λz=>by rw[z,s9 _ _ Pf]at hr2;cases hr2
         refine⟨ys,yP _ _ Pf,?_,λb o e=>?_,af,?_⟩
         ·rw[G7.len]
          have:=nL mk (bX a sU ks) (ks.take i)
          have:=List.length_take_le' i ks
          have:=sizeLine_eq
          lia
         ·rw[ai (av e Dz)]
          exact yP _ _ (s7 _ _ e)
         ·rw[LJ,vV h2 h4]
          refine aC.snoc (G7.keep λa row e=>?_) ?_
          ·rw[ai (aT e Pf (by intro z;cases z))]
           exact yP _ _ e
          ·rw[ai QK,af]
           have:kk=ww.k:=(iA (a:=ww.k) (b:=kk) h5).symm
           rw[this]
           rfl
        ·refine⟨ys,s7,Pf,?_⟩
         rw[LJ,vW h2,List.append_nil]
         exact G7
       ·rintro yt H7 ⟨s7,ht7,G7⟩
        subst iQ
        try dsimp only[ff]
        rw[K6.len,List.take_length]at G7
        have Pf:=s7 _ _ NI
        have lg:=oM mk mt ks
        have lt:=nL mk (bX a sU ks) ks
        have VS:=s6.trans s7
        refine⟨_,rfl,_,rfl,gl,tl,yg,yt,rfl,rfl,Pf,ht7,?_,λl hl=>?_⟩
        ·rw[G6.len,G7.len]
         have:=sizeLine_eq
         lia
        have s8:=aA.new (o:=.lst (yg++yt)) hl
        have VR:=VS.trans s8
        have kp:Kept H (upd H7 l (.lst (yg++yt))) d:=(Pa.trans HF).trans (aA.kept VR)
        have tpA:=kp.tups hd
        have Ws:l≠d:=λz=>by rw[z,VS _ _ SJ]at hl;cases hl
        refine kN hlt' l _ _ mt ks _ mid.rel kp ((Pa.trans HF).free Ws (VS.free hl)) af (((G6.keep λa row e=>s8 _ _ (s7 _ _ e))).app (G7.keep λa row e=>s8 _ _ e)) ⟨⟨dx,kp _ _ hx AZ⟩,kp.ji hd (λr z=>nomatch z) (λo u z=>nomatch z) hp,⟨zg,VR _ _ SJ,Pd.keep λa row e=>VR _ _ e⟩,⟨mx,kp _ _ hm Zm,Jg.keep tpA⟩,jt nd4⟩
end
def stale(mk:Option Int)(t:Int):Bool:=match mk with
 |none=>false
 |some m=>decide (t<=m)
def fresh(mk:Option Int)(t:Int)(w:Wn):Bool:=decide (w.e<=t) && !closed mk w.e
def Wn.ed(w:Wn):Dv:=.tup [.int w.e,.int w.s,.str w.n]
def YN:Sh:=.tup [.int,.int,.str]
def pI(w:Wn):List V:=[.str "told",.str w.n,.int w.s,.int w.e,.int w.c,.int w.t]
def MY(s:Stmt):Pos:=match(aE s).getLast? with
 |some (.Return (some (.Call _ _ [⟨_,.Lambda _ _ _ p,_⟩] _)) _)=>p
 |_=>⟨0,0,0,0⟩
abbrev lp:Pos:=MY bg
abbrev lq:Str:=(envOfC "Desk.take_mark" (ao bg) 0 0 .none).qual++"<lambda>"
inductive Aq(K:Fg7)(mg:Str->Option Value)(C:Addr)(Pt:Addr)(vs:List V)(H:Hp)(Q:VK):Prop
 |mk(x p d m:Addr)(pl:Pl)(mk:Option Int)(ws:List Wn)(ms:List (Str×Int×Int))(t:Int):(vs=[.ref x,.int t])->(gp K C H x p d m pl mk ws ms)->((ws.length+200<1000000/\ws.length<TS.MX))->(bV H Pt lp lq)->(eK K mg H)->((stale mk t=true->∀(l:Addr)(H':Hp),aA H H'->H l=none->H' l=some (.lst [])->Q (.ref l) H'))->((stale mk t=false->∀(l:Addr)(zs:List V)(rs:List Wn)(H':Hp),rs.Perm (ws.filter (fresh mk t))->(rs.map Wn.ed).Pairwise (λd e=>aY d e≠.gt)->(∀b o,H b=some o->b≠x->b≠Pt->H' b=some o)->H l=none->H' l=some (.lst zs)->aC pI H' zs rs->gp K C H' x p d m pl (some t) ws ms->bV H' Pt lp lq->Q (.ref l) H'))->Aq K mg C Pt vs H Q
def Em(K:Fg7)(mg:Str->Option Value)(C Pt:Addr):Sp:=λvs H Q d_=>Aq K mg C Pt vs H Q
theorem Ed{K:Fg7}{C x dx p d m:Addr}{mk:Option Int}{t:Int}{H:Hp}{σ:L2.St}(T:eB K C)(hx:H x=some (.ins C dx (fh p (yk mk) d m)))(e0:σ[0]? = some (some (.ref x)))(e1:σ[1]? = some (some (.int t))){G:Bool->Hp->Prop}(h:G (stale mk t) H):
  PZ (z_ (OS (λx y H Q=>y=V.eN/\Q (V.bl !decide (x=V.eN)) H) (HY K (DR 0) "mark") (tC V.eN))) (z_ (OS YD (DR 1) (HY K (DR 0) "mark"))) σ H G:=by
 refine⟨_,e0,x,C,dx,_,_,rfl,hx,T.cl.cl,T.nM,fM p d m _,rfl,_,rfl,?_⟩
 cases mk with
 |none=>exact CD h
 |some mm=>exact Jd ⟨_,e1,_,e0,x,C,dx,_,_,rfl,hx,T.cl.cl,T.nM,fM p d m _,_,_,rfl,rfl,_,rfl,h⟩
theorem jF{K:Fg7}{H H':Hp}{p:Addr}{row:List V}(k1:∀a row,H a=some (.tup row)->H' a=some (.tup row))(k2:∀a o u,H a=some (.e_ o u)->H' a=some (.e_ o u))(h:bu K H p row):bu K H' p row:=by
 rcases h with(h|⟨o,h⟩)|h
 ·exact .inl (.inl (k1 _ _ h))
 ·exact .inl (.inr ⟨o,k2 _ _ _ h⟩)
 ·exact .inr h
theorem bS{H H':Hp}{Pt:Addr}{q:Pos}{z:Str}(h:bV H Pt q z)(k1:∀ps,H Pt=some (.pY ps)->H' Pt=some (.pY ps))(k2:∀a o u,H a=some (.e_ o u)->H' a=some (.e_ o u)):bV H' Pt q z:=by
 rcases h with h|⟨c',oc,vs,t,h1,h2,h3⟩
 ·exact .inl (k1 _ h)
 ·exact .inr ⟨c',oc,vs,t,k1 _ h1,k2 _ _ _ h2,h3⟩
theorem c_{K:Fg7}{mg:Str->Option Value}{H H':Hp}(h:eK K mg H)(k2:∀a o u,H a=some (.e_ o u)->H' a=some (.e_ o u)):eK K mg H':=by
 obtain⟨bm,ob,b1,b2,b3,b4⟩:=h
 exact⟨bm,ob,b1,b2,b3.elim .inl λz=>.inr (k2 _ _ _ z),b4⟩
theorem fy{H:Hp}{Pt:Addr}{q:Pos}{z:Str}(h:bV H Pt q z):∃ps,H Pt=some (.pY ps):=by
 rcases h with h|⟨c',oc,vs,t,h1,h2,h3⟩
 ·exact⟨_,h⟩
 ·exact⟨_,h1⟩
theorem BK{H:Hp}{ys:List V}{ws:List Wn}{ps:List (V×Dv)}(h:aC pI H ys ws)(p:ps.Perm (ys.zip (ws.map Wn.ed))):∃rs,rs.Perm ws/\aC pI H (ps.map (·.1)) rs/\ps.map (·.2)=rs.map Wn.ed:=by
 have h1:Paired (λ(q:V×Dv) w=>q.2=w.ed/\∃a,q.1=.ref a/\H a=some (.tup (pI w))) (ys.zip (ws.map Wn.ed)) ws:=by
  clear p
  induction h with
  |nil=>exact .nil
  |cons r t ih=>exact .cons ⟨rfl,r⟩ ih
 obtain⟨rs,p1,p2⟩:=pO p.symm h1
 refine⟨rs,p1,?_,?_⟩
 ·clear p h1 p1
  induction p2 with
  |nil=>exact .nil
  |cons r t ih=>exact .cons r.2 ih
 ·clear p h1 p1
  induction p2 with
  |nil=>rfl
  |cons r t ih=>rw[List.map_cons,List.map_cons,ih,r.1]
section
variable {P:Program} {w:World} {K:Fg7} {mg:Str->Option Value} {C Pt:Addr}
theorem NW(D:gS K C "take_mark" "Desk.take_mark" bg Pt)(M:MG K mg)(B:Bi K)(T:eB K C)(bN:cJ P w K mg iS C "is_closed" ["self","end"] 1 (jG C)):cJ P w K mg iS C "take_mark" ["self","time"] 4 (Em K mg C Pt):=by
 refine D.fn iI nh (λvs H Q E h=>?_) (λf c base A outer s H vs Q E hcd hr h=>?_)
 ·obtain⟨x,p,d,m,pl,mk,ws,ms,t,rfl,_⟩:=h
  rfl
 ·obtain⟨x,p,d,m,pl,mk,ws,ms,t,rfl,DA,⟨hwl,hfx⟩,hT,hB,kS,kN⟩:=h
  have bB:=T.cl
  have hu1:=uc hr
  have hu:(A.deeper (envOfC "Desk.take_mark" (ao bg) s.heap.objs.size f (.ref c))).units+64<cLine:=hr.units
  have Xc:(A.deeper (envOfC "Desk.take_mark" (ao bg) s.heap.objs.size f (.ref c))).units+70<cLine:=by have:=hr.un;lia
  refine⟨_,(aq (bw (PW.pt (jk (aK mO (dD (pv 0) rfl) iw (aM _)) (jj (aK oLe (pv 1) (dD (pv 0) rfl) (aM _))))) (au (aL (cL aj))) aR)
   (aq (Iv (mH (k:=2) (NY:=["key","tally","time","self"]) (js:=[none,none,some 1,some 0]) rfl iI.nd rfl rfl rfl (by with_unfolding_all rfl) (by repeat first|exact cD.nil|refine cD.cons rfl ?_) (.own (.own (.out rfl rfl (.inl rfl) (.out rfl rfl (.inl rfl) .nil)))) (tU (FG PySem.F.plainAttrs_dict PySem.F.slot_dict_items PySem.F.type_dict_items xg (dD (pv 0) rfl))) (λ_ _ _ _ _=>⟨(AU (n:=2) (K:=K) rfl rfl (mJ (aV (i:=0) (show(["key","tally","time","self"]:List Str).Nodup from by decide +kernel) rfl (Or.inl rfl)) (mJ (aV (i:=1) (show(["key","tally","time","self"]:List Str).Nodup from by decide +kernel) rfl (Or.inl rfl)) AS))),(gx (PW.pt (jk (aK oLe (aH (bx (K:=K) rfl) (pv 0) ah (λ_ _=>rfl)) (pv 2) (aM _)) (jj (dO (bU (cX (pv 3) bB.cl bN fK (hr.mono (by decide)) (pc (aH (bx (K:=K) rfl) (pv 0) ah (λ_ _=>rfl)) aj)))))))),(aD (gC (K:=K) rfl) (aD (gC (K:=K) rfl) (cK (pc cA aj)) (pv 0)) (pv 1))⟩)))
   (aq (qN (pv 0) (pv 1) rfl)
   (au (aL (uR Xc (hr.mono (by decide)) rfl (M.no _ B.jc) (pv 2) (by with_unfolding_all rfl) (by rfl) (by rfl) hcd (by rfl) (by intros;rfl) (by exact⟨rfl,rfl,rfl,DK,rfl,DK,DK⟩) (λ_ _ _ _ _ _=>(cK (pc (aH (bx (K:=K) rfl) (pv 0) ah (λ_ _=>rfl)) (pc (aH (bx (K:=K) rfl) (pv 0) ah (λ_ _=>rfl)) (pc (aH (bx (K:=K) rfl) (pv 0) ah (λ_ _=>rfl)) aj))))))))))),?_⟩
  obtain⟨dx,hx⟩:=DA.ob
  obtain⟨kvs,hd,hw⟩:=DA.wd
  obtain⟨mx,hm,Jg⟩:=DA.ml
  have hp:=DA.pl
  refine Ed T hx rfl rfl ?_
  refine aO (λhs=>?_) (λhs=>?_)
  ·exact⟨(by show 0<=sizeLine;decide),λl hl=>kS hs l _ (aA.new hl) hl af⟩
  ·have hs':stale mk t=false:=Bool.eq_false_iff.mpr hs
   refine⟨d,.dT kvs,hd,True.intro,_,rfl,x,C,dx,_,_,rfl,hx,T.cl.cl,T.nW,fW p d m _,.inr (.inr (.inl ⟨rfl,.inr ⟨kvs,hd⟩⟩)),d,kvs,rfl,rfl,hd,λv hv=>⟨v,d,kvs,rfl,af,(by rw[ai (av hd hv)];exact hd),λo=>?_⟩⟩
   intro l hl
   have ndv:d≠v:=av hd hv
   have yj:d≠l:=av af hl
   have lO:H l=none:=by
    rw[ai yj.symm]at hl
    exact(aA.new hv).free hl
   have hlen:=hw.len
   have AZ:x≠d:=aT hx hd (by intro z;cases z)
   refine qF (n:=kvs.length) (λi ys H'=>(∀c z,H c=some z->c≠d->H' c=some z)/\H' d=some (.e_ o (.dT kvs))/\H' l=some (.lst ys)/\aC pI H' ys ((ws.take i).filter (fresh mk t))) ⟨λc z e n=>?_,?_,af,.nil⟩ ?_ ?_ ?_ ?_ ?_
   ·rw[ai (av e lO),ai n,ai (av e hv)]
    exact e
   ·rw[ai yj,af]
   ·rintro i ys H' ⟨_,_,h,_⟩
    exact h
   ·rintro i ys H' hi ⟨_,h,_⟩
    exact⟨kvs,h,hi⟩
   ·rintro ys H' ⟨_,h,_⟩
    exact⟨kvs,h,Nat.le_refl _⟩
   ·rintro i y ys H1 H2 hi ⟨kp,hfd,vd,hk⟩ yl
    obtain⟨kk,v2,b,tq,ek,rfl,ht,hb,rfl⟩:=yl kvs hfd
    obtain⟨w,ew,rfl,a0,rfl,ha0⟩:=hw.at ek
    have st:=aA.new (o:=.tup [.ref b,.ref a0]) ht
    have htk:(ws.take (i+1)).filter (fresh mk t)=(ws.take i).filter (fresh mk t)++[w].filter (fresh mk t):=by rw[List.take_add_one,ew,←List.filter_append];rfl
    have ha1:H1 a0=some (.tup [.int w.c,.int w.t]):=kp _ _ ha0 (aT ha0 hd (by intro z;cases z))
    have RL:=kp _ _ hx AZ
    refine⟨tq,[.ref b,.ref a0],rfl,bu.of af,rfl,_,_,rfl,_,_,rfl,rfl,⟨rfl,λi v e=>?_⟩,?_⟩
    ·rcases i with _|_|_|_|i<;>simp[dJ]at e ⊢ <;>first|exact e|skip
    refine⟨_,rfl,b,_,2,_,rfl,rfl,bu.of (st _ _ hb),rfl,_,rfl,_,_,rfl,rfl,_,rfl,?_⟩
    refine aO (λh1=>?_) (λh1=>?_)
    ·have LD:w.e<=t:=of_decide_eq_true h1
     refine⟨_,rfl,x,dx,_,rfl,st _ _ RL,yq p d m _ DK DK DK DK,_,rfl,b,_,2,_,rfl,rfl,bu.of (st _ _ hb),rfl,x,dx,p,d,m,mk,w.e,rfl,st _ _ RL,_,rfl,?_⟩
     refine aO (λh2=>?_) (λh2=>?_)
     ·have hf:[w].filter (fresh mk t)=[w]:=by
       have:fresh mk t w=true:=by unfold fresh;rw[h2,decide_eq_true LD];rfl
       simp[this]
      refine⟨(by show 1<=sizeLine;decide),λc hc=>?_⟩
      have s8:=st.trans (aA.new (o:=.tup [.str "told"]) hc)
      refine⟨_,rfl,c,b,_,_,rfl,rfl,bu.of af,bu.of (s8 _ _ hb),(by intro z;cases z),(by show 4<=sizeLine;decide),(λz=>nomatch z),λ_ r hr'=>?_⟩
      have s9:=s8.trans (aA.new (o:=.tup ([.str "told"]++w.ky.map kV)) hr')
      have Pe:upd (upd (upd H1 tq (.tup [.ref b,.ref a0])) c (.tup [.str "told"])) r (.tup ([.str "told"]++w.ky.map kV)) r=some (.tup ([.str "told"]++w.ky.map kV)):=af
      generalize upd (upd (upd H1 tq (.tup [.ref b,.ref a0])) c (.tup [.str "told"])) r (.tup ([.str "told"]++w.ky.map kV))=H9 at *
      refine⟨_,rfl,r,a0,_,_,rfl,rfl,bu.of Pe,bu.of (s9 _ _ ha1),(by intro z;cases z),(by show 6<=sizeLine;decide),(λz=>nomatch z),λ_ r2 hr2=>?_⟩
      have yP:=s9.trans (aA.new (o:=.tup (([.str "told"]++w.ky.map kV)++[.int w.c,.int w.t])) hr2)
      have QK:r2≠l:=λz=>by rw[z,s9 _ _ vd]at hr2;cases hr2
      refine⟨ys,yP _ _ vd,?_,λc z e n=>?_,?_,af,?_⟩
      ·rw[hk.len]
       have:=List.length_filter_le (fresh mk t) (ws.take i)
       have:=List.length_take_le' i ws
       have:=sizeLine_eq
       lia
      ·rw[ai (av e lO)]
       exact yP _ _ (kp c z e n)
      ·rw[ai yj];exact yP _ _ hfd
      ·rw[htk,hf]
       refine aC.snoc (hk.keep λa row e=>?_) ?_
       ·rw[ai (aT e vd (by intro z;cases z))]
        exact yP _ _ e
       ·rw[ai QK,af];rfl
     ·have hf:[w].filter (fresh mk t)=[]:=by
       have:¬fresh mk t w=true:=λz=>by unfold fresh at z;exact h2 ((Bool.and_eq_true _ _).mp z).2
       simp[this]
      refine⟨ys,λc z e n=>st _ _ (kp c z e n),st _ _ hfd,st _ _ vd,?_⟩
      rw[htk,hf,List.append_nil]
      exact hk.keep λa row e=>st _ _ e
    ·have hf:[w].filter (fresh mk t)=[]:=by
      have:¬fresh mk t w=true:=λz=>by unfold fresh at z;exact h1 ((Bool.and_eq_true _ _).mp z).1
      simp[this]
     refine⟨ys,λc z e n=>st _ _ (kp c z e n),st _ _ hfd,st _ _ vd,?_⟩
     rw[htk,hf,List.append_nil]
     exact hk.keep λa row e=>st _ _ e
   ·rintro ys H1 ⟨kp,hfd,vd,hk⟩
    rw[hlen,List.take_length]at hk
    have RL:=kp _ _ hx AZ
    have nxl:x≠l:=av hx lO
    obtain⟨Wh,GD⟩:=fy hT
    have Wx:Pt≠x:=aT GD hx (by intro z;cases z)
    have nPd:Pt≠d:=aT GD hd (by intro z;cases z)
    refine⟨o,hfd,?_⟩
    refine⟨_,rfl,_,rfl,x,C,dx,_,rfl,(by rw[ai AZ];exact RL),T.cl.cl,T.nM,(by show 4<1000;decide),?_⟩
    rw[Wg]
    have k2:∀b z,H b=some z->b≠x->upd (upd H1 d (.dT kvs)) x (.ins C dx (fh p (.int t) d m)) b=some z:=λb z e n=>by
     rw[ai n]
     by_cases hbd:b=d
     ·subst hbd;rw[af];rw[hd]at e;exact e
     ·rw[ai hbd];exact kp b z e hbd
    have xJ:upd (upd H1 d (.dT kvs)) x (.ins C dx (fh p (.int t) d m)) x=some (.ins C dx (fh p (.int t) d m)):=af
    have hl2:upd (upd H1 d (.dT kvs)) x (.ins C dx (fh p (.int t) d m)) l=some (.lst ys):=by rw[ai nxl.symm,ai yj.symm];exact vd
    have hk2:aC pI (upd (upd H1 d (.dT kvs)) x (.ins C dx (fh p (.int t) d m))) ys (ws.filter (fresh mk t)):=hk.keep λa row e=>by
     rw[ai (aT e RL (by intro z;cases z)),ai (aT e hfd (by intro z;cases z))];exact e
    have SY:∀{b},upd (upd H1 d (.dT kvs)) x (.ins C dx (fh p (.int t) d m)) b=none->H b=none:=λ{b} e=>by
     cases q:H b with
     |none=>rfl
     |some z=>
      by_cases Z_:b=x
      ·rw[Z_,af]at e;cases e
      ·rw[k2 b z q Z_]at e;cases e
    generalize upd (upd H1 d (.dT kvs)) x (.ins C dx (fh p (.int t) d m))=H2 at *
    have LS:∀a row,H a=some (.tup row)->H2 a=some (.tup row):=λa row e=>k2 a _ e (aT e hx (by intro z;cases z))
    have XX:∀a o u,H a=some (.e_ o u)->H2 a=some (.e_ o u):=λa o u e=>k2 a _ e (aT e hx (by intro z;cases z))
    have NO:=k2 _ _ GD Wx
    have hlk:=hk2.len
    refine⟨_,rfl,l,ys,(ws.filter (fresh mk t)).map Wn.ed,YN,rfl,br.of hl2,bS hT (λps e=>k2 _ _ e Wx) XX,c_ hB XX,?_,(by rw[List.length_map,hlk]),?_,rfl,(by decide),?_,?_⟩
    ·rw[hlk]
     have:=List.length_filter_le (fresh mk t) ws
     exact⟨by lia,by lia⟩
    ·intro e he
     obtain⟨q,_,rfl⟩:=List.mem_map.mp he
     rfl
    ·intro i y dd H3 hy Bo k3
     obtain⟨w,a,ew,rfl,ha⟩:=hk2.get hy
     rw[List.getElem?_map,ew]at Bo
     cases Bo
     have SO:H3 a=some (.tup (pI w)):=k3 _ _ ha (aT ha NO (by intro z;cases z))
     exact⟨_,rfl,a,_,3,_,rfl,rfl,bu.of SO,rfl,_,rfl,a,_,2,_,rfl,rfl,bu.of SO,rfl,_,rfl,a,_,1,_,rfl,rfl,bu.of SO,rfl,(by show 3<=sizeLine;decide),λq hq=>⟨aA.new hq,.tup (bu.of af) (.cons (.int _) (.cons (.int _) (.cons (.str _) .nil)))⟩⟩
    ·intro L ps H3 k3 Rc hL hL3 pm pw
     obtain⟨rs,a1,a2,a3⟩:=BK hk2 pm
     have OR:∀a row,H2 a=some (.tup row)->H3 a=some (.tup row):=λa row e=>k3 a _ e (aT e NO (by intro z;cases z))
     have SX:∀a o u,H2 a=some (.e_ o u)->H3 a=some (.e_ o u):=λa o u e=>k3 a _ e (aT e NO (by intro z;cases z))
     have hd2:=k2 _ _ hd AZ.symm
     have nmx:m≠x:=aT hm hx (by intro z;cases z)
     refine kN hs' L _ rs H3 a1 (by rw[←a3];exact pw) (λb z e n1 n2=>k3 b z (k2 b z e n1) n2) (SY hL) hL3 (a2.keep OR) ⟨⟨dx,k3 _ _ xJ Wx.symm⟩,jF OR SX (jF LS XX hp),⟨kvs,k3 _ _ hd2 nPd.symm,hw.keep λa row e=>OR _ _ (LS _ _ e)⟩,⟨mx,k3 _ _ (k2 _ _ hm nmx) (aT hm GD (by intro z;cases z)),Jg.keep λa row e=>OR _ _ (LS _ _ e)⟩,DA.nd⟩ Rc
end
structure l_ where
 make ::
 mk:Option Int
 ws:List Wn
 ms:List (Str×Int×Int)
inductive bf where
 |ev(n:Str)(t a:Int)|mk(t:Int)
def bf.v:bf->List V
 |.ev n t a=>[.str "event",.str n,.int t,.int a]
 |.mk t=>[.str "mark",.int t]
def bf.ok:bf->Prop
 |.ev _ t _=> -(10^45)<t/\t<10^45
 |.mk _=>True
def iF(pl:Pl)(st:l_):bf->List eU->l_->Prop
 |.ev n t a,out,st'=>(late st.mk (cB pl) t=true/\out=[.missed n t a]/\st'=⟨st.mk,st.ws,st.ms++[(n,t,a)]⟩)\/
   (late st.mk (cB pl) t=false/\∃mt ks fN,kP pl n t a st.ws mt ks fN/\out=fV st.mk mt ks++fU st.mk fN ks/\st'=⟨st.mk,fN,st.ms⟩)
 |.mk t,out,st'=>(stale st.mk t=true/\out=[]/\st'=st)\/
   (stale st.mk t=false/\∃rs:List Wn,rs.Perm (st.ws.filter (fresh st.mk t))/\(rs.map Wn.ed).Pairwise (λd e=>aY d e≠.gt)/\out=rs.map eU.told/\st'=⟨some t,st.ws,st.ms⟩)
inductive Runs(pl:Pl):l_->List bf->List (List eU)->l_->Prop
 |nil(st:l_):Runs pl st [] [] st
 |snoc{st st1 st2:l_}{aQ:List bf}{outs:List (List eU)}{dd:bf}{out:List eU}:Runs pl st aQ outs st1->iF pl st1 dd out st2->Runs pl st (aQ++[dd]) (outs++[out]) st2
theorem kP.len{pl:Pl}{n:Str}{t a:Int}{ws fN:List Wn}{mt ks:List Ky}(ok:pl.ok)(h:kP pl n t a ws mt ks fN):fN.length<=ws.length+100:=by
 rcases h with⟨_,_,rfl,rfl⟩|⟨_,_,_,s,e,_,_,_,_,_,_,_,rfl⟩
 ·have h1:=lT (a:=a) (ks:=cg pl n t) (ws:=ws)
  have h2:(cg pl n t).length<=100:=by unfold cg;rw[List.length_map];exact uH ok t
  show(bX a ws (cg pl n t)).length<=_
  lia
 ·have h1:=ny (cY ws mt ⟨n,s,e⟩) n s e 1 a
  have h2:=nV (g:=⟨n,s,e⟩) (ks:=mt) (ws:=ws)
  lia
theorem iF.len{pl:Pl}{st st':l_}{dd:bf}{out:List eU}(ok:pl.ok)(h:iF pl st dd out st'):st'.ws.length<=st.ws.length+100/\st'.ms.length<=st.ms.length+1:=by
 cases dd with
 |ev n t a=>
  rcases h with⟨_,_,rfl⟩|⟨_,mt,ks,fN,h,_,rfl⟩
  ·exact⟨by show st.ws.length<=_;lia,by show(st.ms++[_]).length<=_;simp⟩
  ·exact⟨h.len ok,by show st.ms.length<=_;lia⟩
 |mk t=>
  rcases h with⟨_,_,rfl⟩|⟨_,rs,_,_,_,rfl⟩
  ·exact⟨by lia,by lia⟩
  ·exact⟨by show st.ws.length<=_;lia,by show st.ms.length<=_;lia⟩
theorem Runs.len{pl:Pl}{st st':l_}{aQ:List bf}{outs:List (List eU)}(ok:pl.ok)(h:Runs pl st aQ outs st'):st'.ws.length<=st.ws.length+100*aQ.length/\st'.ms.length<=st.ms.length+aQ.length/\outs.length=aQ.length:=by
 induction h with
 |nil=>exact⟨by simp,by simp,rfl⟩
 |snoc r d ih=>
  obtain⟨h1,h2,h3⟩:=ih
  obtain⟨h4,h5⟩:=d.len ok
  simp only[List.length_append,List.length_singleton]
  lia
def rT(H H':Hp)(x d m Pt:Addr):Prop:=∀b o,H b=some o->b≠x->b≠d->b≠m->b≠Pt->H' b=some o
inductive Ks(K:Fg7)(mg:Str->Option Value)(C:Addr)(Pt:Addr)(vs:List V)(H:Hp)(Q:VK):Prop
 |mk(x p d m b:Addr)(pl:Pl)(st:l_)(dd:bf):(vs=[.ref x,.ref b])->(gp K C H x p d m pl st.mk st.ws st.ms)->(bu K H b dd.v)->(pl.ok)->(dd.ok)->((st.ws.length+200<1000000/\st.ws.length<TS.MX))->(st.ms.length<1000000)->(bV H Pt lp lq)->(eK K mg H)->(∀(l:Addr)(zs:List V)(out:List eU)(st':l_)(H':Hp),iF pl st dd out st'->rT H H' x d m Pt->H l=none->H' l=some (.lst zs)->aC eU.v H' zs out->gp K C H' x p d m pl st'.mk st'.ws st'.ms->bV H' Pt lp lq->Q (.ref l) H')->Ks K mg C Pt vs H Q
def Mb(K:Fg7)(mg:Str->Option Value)(C Pt:Addr):Sp:=λvs H Q d_=>Ks K mg C Pt vs H Q
theorem HV{H:Hp}{zs:List V}{rs:List Wn}(h:aC pI H zs rs):aC eU.v H zs (rs.map eU.told):=by
 induction h with
 |nil=>exact .nil
 |cons r _ ih=>exact .cons r ih
section
variable {P:Program} {w:World} {K:Fg7} {mg:Str->Option Value} {C Pt:Addr}
theorem XZ(D:bA K C "do" "Desk.do" gf)(M:MG K mg)(T:eB K C)(zN:dZ K "MARK" (.str "mark"))(pC:cJ P w K mg iS C "take_mark" ["self","time"] 4 (Em K mg C Pt))(nG:cJ P w K mg iS C "take_event" ["self","name","time","amount"] 4 (AA K C)):
  cJ P w K mg iS C "do" ["self","deed"] 5 (Mb K mg C Pt):=by
 have bB:=T.cl
 refine D.fn yO zH (λvs H Q E h=>?_) (λf base cdv A outer s H vs Q E hr h=>?_)
 ·obtain⟨x,p,d,m,b,pl,st,dd,rfl,_⟩:=h
  rfl
 ·obtain⟨x,p,d,m,b,pl,st,dd,rfl,DA,hb,ok,dok,hwl,hml,hT,hB,k⟩:=h
  obtain⟨dx,hx⟩:=DA.ob
  obtain⟨kvs,hd,hw⟩:=DA.wd
  obtain⟨mx,hm,Jg⟩:=DA.ml
  obtain⟨Wh,GD⟩:=fy hT
  have no:∀{k:Str},¬k="plan"->¬k="mark"->¬k="windows"->¬k="missed"->(fh p (yk st.mk) d m).lookup k=none:=λh1 h2 h3 h4=>yq p d m _ h1 h2 h3 h4
  refine⟨_,(aq (bw (aK dF (aH a_ (pv 1) ah (λ_ _=>rfl)) (jI zN M rfl) (aM _)) (au (aL (cX (pv 0) bB.cl pC fK (hr.mono (by decide)) (pc (aH a_ (pv 1) ah (λ_ _=>rfl)) aj)))) aR)
   (au (aL (cX (pv 0) bB.cl nG fK (hr.mono (by decide)) (pc (aH a_ (pv 1) ah (λ_ _=>rfl)) (pc (aH a_ (pv 1) ah (λ_ _=>rfl)) (pc (aH a_ (pv 1) ah (λ_ _=>rfl)) aj))))))),?_⟩
  cases dd with
  |mk t=>
   refine⟨_,rfl,b,_,0,_,rfl,rfl,hb,rfl,rfl,_,rfl,?_⟩
   refine aO (λ_=>?_) (λz=>absurd (decide_eq_true rfl) z)
   refine⟨_,rfl,x,dx,_,rfl,hx,no DK DK DK DK,_,rfl,b,_,1,_,rfl,rfl,hb,rfl,x,p,d,m,pl,st.mk,st.ws,st.ms,t,rfl,DA,hwl,hT,hB,λhs l H' sm hl hl'=>?_,λhs l zs rs H' r1 r2 kp hl hl' la da lt=>?_⟩
   ·have tp:∀a row,H a=some (.tup row)->H' a=some (.tup row):=λa row e=>sm _ _ e
    exact k l _ [] st H' (.inl ⟨hs,rfl,rfl⟩) (λb o e _ _ _ _=>sm b o e) hl hl' .nil ⟨⟨dx,sm _ _ hx⟩,sm.ji DA.pl,⟨kvs,sm _ _ hd,hw.keep tp⟩,⟨mx,sm _ _ hm,Jg.keep tp⟩,DA.nd⟩ (bS hT (λps e=>sm _ _ e) λa o u e=>sm _ _ e)
   ·exact k l zs _ ⟨some t,st.ws,st.ms⟩ H' (.inr ⟨hs,rs,r1,r2,rfl,rfl⟩) (λb o e n1 _ _ n4=>kp b o e n1 n4) hl hl' (HV la) da lt
  |ev n t a=>
   refine⟨_,rfl,b,_,0,_,rfl,rfl,hb,rfl,rfl,_,rfl,?_⟩
   refine aO (λz=>?_) (λ_=>?_)
   ·have:=V.str.inj (of_decide_eq_true z)
    exact absurd this DK
   refine⟨_,rfl,x,dx,_,rfl,hx,no DK DK DK DK,_,rfl,b,_,1,_,rfl,rfl,hb,rfl,_,rfl,b,_,2,_,rfl,rfl,hb,rfl,_,rfl,b,_,3,_,rfl,rfl,hb,rfl,x,p,d,m,pl,st.mk,st.ws,st.ms,n,t,a,rfl,DA,ok,dok,hwl,hml,λhs l zs H' kp hl hl' la da=>?_,λhs l zs H' mt ks fN er kp hl hl' la da=>?_⟩
   ·refine k l zs _ ⟨st.mk,st.ws,st.ms++[(n,t,a)]⟩ H' (.inl ⟨hs,rfl,rfl⟩) (λb o e _ _ n3 _=>kp b o e n3) hl hl' la da (bS hT (λps e=>kp _ _ e (aT e hm (by intro z;cases z))) λa o u e=>kp _ _ e (aT e hm (by intro z;cases z)))
   ·refine k l zs _ ⟨st.mk,fN,st.ms⟩ H' (.inr ⟨hs,mt,ks,fN,er,rfl,rfl⟩) (λb o e _ n2 _ _=>kp b o e n2) hl hl' la da (bS hT (λps e=>kp _ _ e (aT e hd (by intro z;cases z))) λa o u e=>kp _ _ e (aT e hd (by intro z;cases z)))
end
end K2
namespace K3
open PySem PySem.Spec PyProof.Rows L2 K1 K2
def Gm(ws:List Wn)(k:Ky):Option (Int×Int):=(dc ws k.l).map λw=>(w.c,w.t)
def Iz(o:Option (Int×Int))(c t:Int):Int×Int:=match o with
 |some p=>(p.1+c,p.2+t)
 |none=>(0+c,0+t)
theorem jN{ws:List Wn}{k:Ky}{w:Wn}(h:dc ws k.l=some w):w∈ws/\w.k=k:=by
 have h1:=List.find?_some h
 exact⟨List.mem_of_find?_eq_some h,iA (of_decide_eq_true h1)⟩
theorem jv{ws:List Wn}{k:Ky}:k∈ws.map Wn.k↔∃p,Gm ws k=some p:=by
 constructor
 ·intro h
  obtain⟨w,hw,_⟩:=oN h
  exact⟨(w.c,w.t),by unfold Gm;rw[hw];rfl⟩
 ·rintro⟨p,h⟩
  unfold Gm at h
  obtain⟨w,hw,_⟩:=Option.map_eq_some_iff.mp h
  obtain⟨h1,h2⟩:=jN hw
  exact h2▸List.mem_map_of_mem h1
theorem Uh{ws:List Wn}{k:Ky}{w:Wn}(h:dc ws k.l=some w):Gm ws k=some (w.c,w.t):=by unfold Gm;rw[h];rfl
theorem vD{ws:List Wn}{k:Ky}{p:Int×Int}(h:Gm ws k=some p):∃w,dc ws k.l=some w/\w.k=k/\p=(w.c,w.t):=by
 unfold Gm at h
 obtain⟨w,hw,e⟩:=Option.map_eq_some_iff.mp h
 exact⟨w,hw,(jN hw).2,e.symm⟩
theorem vC{ws:List Wn}{k:Ky}:k∉ws.map Wn.k↔Gm ws k=none:=by
 rw[jv]
 cases Gm ws k<;>simp
theorem vf{w:Wn}:∀{ws:List Wn},(ws.map Wn.k).Nodup->w∈ws->dc ws w.k.l=some w:=by
 intro ws
 induction ws with
 |nil=>intro _ h;cases h
 |cons x xs ih=>
  intro nd h
  obtain⟨h1,h2⟩:=List.nodup_cons.mp nd
  by_cases e:x.ky=w.k.l
  ·have e':x.k=w.k:=iA e
   rcases List.mem_cons.mp h with rfl|h
   ·exact List.find?_cons_of_pos (decide_eq_true e)
   ·exact absurd (e'▸List.mem_map_of_mem h) h1
  ·rcases List.mem_cons.mp h with rfl|h
   ·exact absurd rfl e
   ·have:dc (x::xs) w.k.l=dc xs w.k.l:=List.find?_cons_of_neg (λz=>e (of_decide_eq_true z))
    rw[this]
    exact ih h2 h
theorem OJ{ws:List Wn}{w:Wn}(nd:(ws.map Wn.k).Nodup)(h:w∈ws):Gm ws w.k=some (w.c,w.t):=Uh (vf nd h)
theorem Lh{k:Ky}{n:Str}{s e:Int}(h:k≠⟨n,s,e⟩):k.l≠oH n s e:=λz=>h (iA (a:=k) (b:=⟨n,s,e⟩) z)
theorem xO(a b:List Wn)(k:Ky):dc (a++b) k.l=(dc a k.l).or (dc b k.l):=List.find?_append
theorem xN(ws:List Wn)(f:Wn->Wn)(hf:∀w,(f w).ky=w.ky)(k:Ky):dc (ws.map f) k.l=(dc ws k.l).map f:=by
 unfold dc
 rw[List.find?_map]
 have:((λw:Wn=>decide (w.ky=k.l))∘f)=λw=>decide (w.ky=k.l):=by
  funext w
  show decide ((f w).ky=k.l)=_
  rw[hf]
 rw[this]
theorem pW(ws:List Wn)(n:Str)(s e c t:Int):Gm (kT ws n s e c t) ⟨n,s,e⟩=some (c,t):=by
 unfold Gm kT
 by_cases h:(ws.any λw=>decide (w.ky=oH n s e))=true
 ·rw[if_pos h,xN _ _ λw=>by split<;>rfl]
  obtain⟨w,hw,hk⟩:=List.any_eq_true.mp h
  have hm:(⟨n,s,e⟩:Ky)∈ws.map Wn.k:=by
   have:w.k=⟨n,s,e⟩:=iA (of_decide_eq_true hk)
   exact this▸List.mem_map_of_mem hw
  obtain⟨v,hv,hk2⟩:=oN hm
  rw[hv]
  have:v.ky=oH n s e:=by
   have:v.k.l=(⟨n,s,e⟩:Ky).l:=by rw[hk2]
   exact this
  simp only[Option.map_some,if_pos this]
 ·rw[if_neg h,xO,CM]
  ·show Option.map _ (dc [⟨n,s,e,c,t⟩] _)=_
   have:dc [⟨n,s,e,c,t⟩] (⟨n,s,e⟩:Ky).l=some ⟨n,s,e,c,t⟩:=List.find?_cons_of_pos (decide_eq_true rfl)
   rw[this]
   rfl
  ·intro hm
   obtain⟨w,hw,hk⟩:=List.mem_map.mp hm
   exact h (List.any_eq_true.mpr ⟨w,hw,decide_eq_true (show w.k.l=_ by rw[hk];rfl)⟩)
theorem uy{ws:List Wn}{n:Str}{s e c t:Int}{k:Ky}(hk:k≠⟨n,s,e⟩):Gm (kT ws n s e c t) k=Gm ws k:=by
 unfold Gm kT
 by_cases h:(ws.any λw=>decide (w.ky=oH n s e))=true
 ·rw[if_pos h,xN _ _ λw=>by split<;>rfl]
  cases hg:dc ws k.l with
  |none=>rfl
  |some v=>
   have hv:=(jN hg).2
   have:¬v.ky=oH n s e:=λz=>Lh hk (by rw[←hv];exact z)
   show some ((if v.ky=oH n s e then _ else v:Wn).c,(if v.ky=oH n s e then _ else v:Wn).t)=_
   rw[if_neg this]
   rfl
 ·rw[if_neg h,xO]
  have:dc [⟨n,s,e,c,t⟩] k.l=none:=List.find?_cons_of_neg (λz=>Lh hk (of_decide_eq_true z).symm)
  rw[this,Option.or_none]
theorem iL(ws:List Wn)(n:Str)(s e c t:Int):Gm (addW ws n s e c t) ⟨n,s,e⟩=some (Iz (Gm ws ⟨n,s,e⟩) c t):=by
 unfold addW
 have e1:Gm ws ⟨n,s,e⟩=(dc ws (oH n s e)).map λw=>(w.c,w.t):=rfl
 cases hg:dc ws (oH n s e)with
 |none=>rw[e1,hg];exact pW ..
 |some w=>rw[e1,hg];exact pW ..
theorem gZ{ws:List Wn}{n:Str}{s e c t:Int}{k:Ky}(hk:k≠⟨n,s,e⟩):Gm (addW ws n s e c t) k=Gm ws k:=by
 unfold addW
 cases hg:dc ws (oH n s e)with
 |none=>exact uy hk
 |some w=>exact uy hk
theorem nA(ws:List Wn)(g:Ky):Gm (cZ ws g.l) g=none:=by
 rw[←vC]
 intro h
 obtain⟨w,hw,hk⟩:=List.mem_map.mp h
 have:=of_decide_eq_true (List.mem_filter.mp hw).2
 exact this (show w.k.l=_ by rw[hk])
theorem CN{g k:Ky}(hk:k≠g):∀ws:List Wn,dc (cZ ws g.l) k.l=dc ws k.l:=by
 intro ws
 induction ws with
 |nil=>rfl
 |cons w ws ih=>
  by_cases hw:w.ky=g.l
  ·have e1:cZ (w::ws) g.l=cZ ws g.l:=List.filter_cons_of_neg (λz=>(of_decide_eq_true z) hw)
   have e2:dc (w::ws) k.l=dc ws k.l:=List.find?_cons_of_neg (λz=>hk (iA ((of_decide_eq_true z).symm.trans hw)))
   rw[e1,e2,ih]
  ·have e1:cZ (w::ws) g.l=w::cZ ws g.l:=List.filter_cons_of_pos (decide_eq_true hw)
   rw[e1]
   unfold dc at ih ⊢
   rw[List.find?_cons,List.find?_cons,ih]
theorem lV{ws:List Wn}{g k:Ky}(hk:k≠g):Gm (cZ ws g.l) k=Gm ws k:=by unfold Gm;rw[CN hk]
theorem Hz{a:Int}{k:Ky}:∀{ks:List Ky}{ws:List Wn},ks.Nodup->(k∈ks->Gm (bX a ws ks) k=some (Iz (Gm ws k) 1 a))/\(k∉ks->Gm (bX a ws ks) k=Gm ws k):=by
 intro ks
 induction ks with
 |nil=>exact λ_=>⟨λh=>(nomatch h),λ_=>rfl⟩
 |cons q ks ih=>
  intro ws nd
  obtain⟨h1,h2⟩:=List.nodup_cons.mp nd
  obtain⟨i1,i2⟩:=ih (ws:=addW ws q.n q.s q.e 1 a) h2
  have e:bX a ws (q::ks)=bX a (addW ws q.n q.s q.e 1 a) ks:=rfl
  rw[e]
  refine⟨λh=>?_,λh=>?_⟩
  ·by_cases hq:k=q
   ·subst hq
    rw[i2 h1]
    exact iL ..
   ·rw[i1 ((List.mem_cons.mp h).resolve_left hq),gZ hq]
  ·rw[i2 λz=>h (.tail _ z)]
   exact gZ λz=>h (z▸.head _)
theorem JT{g k:Ky}(hk:k≠g):∀{mt:List Ky}{ws:List Wn},(k∈mt->Gm (cY ws mt g) k=none)/\(k∉mt->Gm (cY ws mt g) k=Gm ws k):=by
 intro mt
 induction mt with
 |nil=>exact⟨λh=>(nomatch h),λ_=>rfl⟩
 |cons q mt ih=>
  intro ws
  cases hg:dc ws q.l with
  |none=>
   have e:cY ws (q::mt) g=cY ws mt g:=by
    show cY (match dc ws q.l with|some w=>_|none=>ws) mt g=_
    rw[hg]
   rw[e]
   obtain⟨i1,i2⟩:=ih (ws:=ws)
   refine⟨λh=>?_,λh=>i2 λz=>h (.tail _ z)⟩
   by_cases hm:k∈mt
   ·exact i1 hm
   ·rw[i2 hm]
    have:k=q:=(List.mem_cons.mp h).resolve_right hm
    unfold Gm
    rw[this,hg]
    rfl
  |some w=>
   have e:cY ws (q::mt) g=cY (addW (cZ ws q.l) g.n g.s g.e w.c w.t) mt g:=by
    show cY (match dc ws q.l with|some w=>addW (cZ ws q.l) g.n g.s g.e w.c w.t|none=>ws) mt g=_
    rw[hg]
   rw[e]
   obtain⟨i1,i2⟩:=ih (ws:=addW (cZ ws q.l) g.n g.s g.e w.c w.t)
   refine⟨λh=>?_,λh=>?_⟩
   ·by_cases hm:k∈mt
    ·exact i1 hm
    ·have:k=q:=(List.mem_cons.mp h).resolve_right hm
     subst this
     rw[i2 hm,gZ hk,nA]
   ·rw[i2 λz=>h (.tail _ z),gZ hk,lV (λz=>h (by rw[z];exact .head _))]
theorem Hy{g:Ky}{ws:List Wn}{p:Int×Int}(h:Gm ws g=some p):Gm (cY ws [g] g) g=some p:=by
 obtain⟨w,hw,_,rfl⟩:=vD h
 have e:cY ws [g] g=addW (cZ ws g.l) g.n g.s g.e w.c w.t:=by
  show(match dc ws g.l with|some w=>addW (cZ ws g.l) g.n g.s g.e w.c w.t|none=>ws)=_
  rw[hw]
 rw[e,show Gm (addW (cZ ws g.l) g.n g.s g.e w.c w.t) g=some (Iz (Gm (cZ ws g.l) g) w.c w.t)from iL ..,nA]
 simp[Iz]
theorem Ma{pl:Pl}(ok:pl.ok)(np:sj pl=false){t:Int}{q:Int×Int}(h:q∈Kr pl t):q.1<=t/\t<q.2:=by
 obtain⟨l1,_,s1,_,_⟩:=ok
 have key:∀i:Nat,i<cnt pl t->gj pl t+(i:Int)*pl.stp<=t/\t<gj pl t+(i:Int)*pl.stp+pl.len:=by
  intro i hi
  unfold K1.cnt mG at hi
  have hi:i<(Mn (gj pl t) (t+1) pl.stp).toNat:=hi
  unfold Mn at hi
  rw[if_pos LI]at hi
  by_cases hl:gj pl t<t+1
  ·rw[if_pos hl]at hi
   have h1:(i:Int)<=(t+1-gj pl t-1)/pl.stp:=by
    have:0<=(t+1-gj pl t-1)/pl.stp:=Int.ediv_nonneg LI LI
    lia
   have h2:(i:Int)*pl.stp<=t+1-gj pl t-1:=by
    have:=Int.mul_le_of_le_ediv (by lia:(0:Int)<pl.stp) h1
    exact this
   have h3:t-pl.len<gj pl t:=by
    unfold gj
    have:=Int.lt_ediv_add_one_mul_self (t-pl.len) (show 0<pl.stp by lia)
    exact this
   have h4:0<=(i:Int)*pl.stp:=Int.mul_nonneg LI LI
   lia
  ·rw[if_neg hl]at hi
   exact absurd hi (by simp)
 have go:q∈(List.range (cnt pl t)).map (λ(i:Nat)=>(gj pl t+(i:Int)*pl.stp,gj pl t+(i:Int)*pl.stp+pl.len))->q.1<=t/\t<q.2:=by
  intro h
  obtain⟨i,hi,rfl⟩:=List.mem_map.mp h
  exact key i (List.mem_range.mp hi)
 cases pl with
 |fixed l g=>exact go h
 |sliding l s g=>exact go h
 |pauses l g=>cases np
theorem CQ{pl:Pl}(ok:pl.ok)(n:Str)(t:Int):(cg pl n t).Nodup:=by
 have go:((List.range (cnt pl t)).map (λ(i:Nat)=>(⟨n,gj pl t+(i:Int)*pl.stp,gj pl t+(i:Int)*pl.stp+pl.len⟩:Ky))).Nodup:=by
  refine List.Pairwise.map _ (λi j (h:i≠j) e=>?_) List.nodup_range
  injection e with _ e _
  have e:(i:Int)*pl.stp=(j:Int)*pl.stp:=by lia
  have:=Int.eq_of_mul_eq_mul_right (by have:=ok.s1;lia) e
  exact h LI
 cases pl with
 |fixed l g=>unfold cg Kr;rw[List.map_map];exact go
 |sliding l s g=>unfold cg Kr;rw[List.map_map];exact go
 |pauses l g=>exact List.nodup_cons.mpr ⟨λh=>(nomatch h),List.Pairwise.nil⟩
structure Ev where
 n:Str
 t:Int
 a:Int
def jY(k:Ky)(e:Ev):Bool:=decide (e.n=k.n)&&(decide (k.s<=e.t)&&decide (e.t<k.e))
theorem gy{k:Ky}{e:Ev}:jY k e=true↔e.n=k.n/\k.s<=e.t/\e.t<k.e:=by
 unfold jY
 simp only[Bool.and_eq_true,decide_eq_true_eq]
def cM(p q:Int×Int):Int×Int:=(p.1+q.1,p.2+q.2)
def wX(k:Ky)(e:Ev):Int×Int:=if jY k e=true then(1,e.a)else(0,0)
def nJ:List Ev->Ky->Int×Int
 |[],_=>(0,0)
 |e::bh,k=>cM (wX k e) (nJ bh k)
theorem kc(p:Int×Int):cM p (0,0)=p:=by unfold cM;simp
theorem sS(p:Int×Int):cM (0,0) p=p:=by unfold cM;simp
theorem iC(p q r:Int×Int):cM (cM p q) r=cM p (cM q r):=by unfold cM;simp[Int.add_assoc]
theorem De(p q:Int×Int):cM p q=cM q p:=by unfold cM;rw[Int.add_comm p.1,Int.add_comm p.2]
theorem Dd(p q r:Int×Int):cM p (cM q r)=cM q (cM p r):=by rw[←iC,De p q,iC]
theorem zZ(k:Ky):∀(a b:List Ev),nJ (a++b) k=cM (nJ a k) (nJ b k)
 |[],b=>(sS _).symm
 |e::a,b=>by
  show cM _ (nJ (a++b) k)=cM (cM _ (nJ a k)) _
  rw[zZ k a b,iC]
theorem vZ(bh:List Ev)(e:Ev)(k:Ky):nJ (bh++[e]) k=cM (nJ bh k) (wX k e):=by
 rw[zZ]
 show cM _ (cM _ (0,0))=_
 rw[kc]
theorem vY{k:Ky}:∀{bh:List Ev},(∀e∈bh,jY k e=false)->nJ bh k=(0,0)
 |[],_=>rfl
 |e::bh,h=>by
  show cM (if jY k e=true then _ else _) (nJ bh k)=_
  rw[h e (.head _),if_neg Bool.false_ne_true,vY λx m=>h x (.tail _ m)]
  rfl
def sumK(f:Ky->Int×Int):List Ky->Int×Int
 |[]=>(0,0)
 |k::ks=>cM (f k) (sumK f ks)
theorem wc(f g:Ky->Int×Int):∀ks:List Ky,sumK (λk=>cM (f k) (g k)) ks=cM (sumK f ks) (sumK g ks)
 |[]=>rfl
 |k::ks=>by
  show cM (cM _ _) (sumK _ ks)=cM (cM _ _) (cM _ _)
  rw[wc f g ks,iC,iC,Dd (g k)]
theorem tG:∀ks:List Ky,sumK (λ_=>(0,0)) ks=(0,0)
 |[]=>rfl
 |_::ks=>by
  show cM (0,0) (sumK _ ks)=_
  rw[tG ks]
  rfl
theorem v_{e:Ev}:∀{ks:List Ky},ks.Nodup->(∀k∈ks,∀q∈ks,jY k e=true->jY q e=true->k=q)->((∃k∈ks,jY k e=true)->sumK (λk=>wX k e) ks=(1,e.a))/\((∀k∈ks,jY k e=false)->sumK (λk=>wX k e) ks=(0,0))
 |[],_,_=>⟨λ⟨_,m,_⟩=>(nomatch m),λ_=>rfl⟩
 |k::ks,nd,u=>by
  obtain⟨n1,n2⟩:=List.nodup_cons.mp nd
  have ih:=v_ (e:=e) n2 λk' h' q hq=>u k' (.tail _ h') q (.tail _ hq)
  refine⟨λhx=>?_,λh=>?_⟩
  ·show cM (if jY k e=true then _ else _) (sumK _ ks)=_
   by_cases hk:jY k e=true
   ·rw[if_pos hk,ih.2 λq hq=>?_]
    ·exact kc _
    ·cases z:jY q e with
     |false=>rfl
     |true=>exact absurd (u k (.head _) q (.tail _ hq) hk z▸hq) n1
   ·rw[if_neg hk,ih.1 ?_]
    ·exact sS _
    ·obtain⟨q,hq,h⟩:=hx
     rcases List.mem_cons.mp hq with rfl|hq
     ·exact absurd h hk
     ·exact⟨q,hq,h⟩
  ·show cM (if jY k e=true then _ else _) (sumK _ ks)=_
   rw[h k (.head _),if_neg Bool.false_ne_true,ih.2 λq hq=>h q (.tail _ hq)]
   rfl
theorem s_{g:Ky}{ks:List Ky}(nd:ks.Nodup):∀{bh:List Ev},(∀e∈bh,(jY g e=true↔∃k∈ks,jY k e=true)/\∀k∈ks,∀q∈ks,jY k e=true->jY q e=true->k=q)->nJ bh g=sumK (nJ bh) ks
 |[],_=>by
  show(0,0)=sumK (λ_=>(0,0)) ks
  exact(tG ks).symm
 |e::bh,h=>by
  show cM (wX g e) (nJ bh g)=sumK (λk=>cM (wX k e) (nJ bh k)) ks
  rw[wc,s_ nd λx m=>h x (.tail _ m)]
  obtain⟨h1,h2⟩:=h e (.head _)
  obtain⟨s1,s2⟩:=v_ (e:=e) nd h2
  by_cases hg:jY g e=true
  ·rw[s1 (h1.mp hg)]
   show cM (if jY g e=true then _ else _) _=_
   rw[if_pos hg]
  ·rw[s2 λk hk=>by
    cases z:jY k e with
    |false=>rfl
    |true=>exact absurd (h1.mpr ⟨k,hk,z⟩) hg]
   show cM (if jY g e=true then _ else _) _=_
   rw[if_neg hg]
structure eY(L:Int)(T:Int->Prop)(s e:Int):Prop where
 a:T s
 b:T (e-L)
 le:s<=e-L
 lo:∀u,T u->u<s->u<=s-L
 hi:∀u,T u->e-L<u->e<=u
 nx:∀u,T u->s<=u->u<e-L->∃v,T v/\u<v/\v<u+L/\v<=e-L
section
variable {L:Int} {T:Int->Prop} {s e s' e' u:Int}
theorem eY.lo_le(h:eY L T s e)(h':eY L T s' e')(u1:s<=u)(u3:s'<=u)(u2:u<=e-L):s'<=s:=by
 refine Int.not_lt.mp λz=>?_
 have key:∀(n:Nat)(w:Int),(s'-w).toNat<=n->T w->s<=w->w<s'->False:=by
  intro n
  induction n with
  |zero=>intro w hn _ _ hw;lia
  |succ n ih=>
   intro w hn tw sw hw
   obtain⟨v,tv,v1,v2,_⟩:=h.nx w tw sw LI
   have:=h'.lo w tw hw
   exact ih v LI tv LI LI
 exact key _ s (Nat.le_refl _) h.a (Int.le_refl _) z
theorem eY.LA(h:eY L T s e)(h':eY L T s' e')(u3:s'<=u)(u2:u<=e-L):e'<=e:=by
 refine Int.not_lt.mp λz=>?_
 obtain⟨v,tv,v1,v2,_⟩:=h'.nx (e-L) h.b LI LI
 have:=h.hi v tv v1
 lia
theorem eY.uniq(h:eY L T s e)(h':eY L T s' e')(u1:s<=u)(u2:u<=e-L)(u3:s'<=u)(u4:u<=e'-L):s=s'/\e=e':=
 ⟨Int.le_antisymm (h'.lo_le h u3 u1 u4) (h.lo_le h' u1 u3 u2),Int.le_antisymm (h'.LA h u1 u4) (h.LA h' u3 u2)⟩
theorem eY.before(h:eY L T s e){t:Int}(h1:s<=t)(h2:t<e-L):∃v,T v/\t<v/\v<t+L/\v<=e-L:=by
 have key:∀(n:Nat)(w:Int),(t-w).toNat<=n->T w->s<=w->w<=t->∃v,T v/\t<v/\v<t+L/\v<=e-L:=by
  intro n
  induction n with
  |zero=>
   intro w hn tw sw wt
   obtain⟨v,tv,v1,v2,v3⟩:=h.nx w tw sw LI
   exact⟨v,tv,by lia,by lia,v3⟩
  |succ n ih=>
   intro w hn tw sw wt
   obtain⟨v,tv,v1,v2,v3⟩:=h.nx w tw sw LI
   by_cases z:v<=t
   ·exact ih v LI tv LI z
   ·exact⟨v,tv,by lia,by lia,v3⟩
 exact key _ s (Nat.le_refl _) h.a (Int.le_refl _) h1
end
def Dh(pl:Pl)(s e:Int):Prop:=(∃q,s=q*pl.stp)/\e=s+pl.len
theorem Bc{pl:Pl}(ok:pl.ok)(np:sj pl=false){t:Int}{q:Int×Int}:q∈Kr pl t↔Dh pl q.1 q.2/\q.1<=t/\t<q.2:=by
 have hs:Kr pl t=(List.range (cnt pl t)).map λ(i:Nat)=>(gj pl t+(i:Int)*pl.stp,gj pl t+(i:Int)*pl.stp+pl.len):=by
  cases pl with
  |fixed l g=>rfl
  |sliding l s g=>rfl
  |pauses l g=>cases np
 have s1:=ok.s1
 constructor
 ·intro h
  refine⟨?_,Ma ok np h⟩
  rw[hs]at h
  obtain⟨i,_,rfl⟩:=List.mem_map.mp h
  exact⟨⟨(t-pl.len)/pl.stp+1+i,by show gj pl t+(i:Int)*pl.stp=_;unfold gj;rw[Int.add_mul (_+1)]⟩,rfl⟩
 ·rintro⟨⟨⟨m,e1⟩,e2⟩,h1,h2⟩
  rw[hs]
  have hm:(t-pl.len)/pl.stp<m:=Int.ediv_lt_of_lt_mul LI LI
  have e3:gj pl t+((m-((t-pl.len)/pl.stp+1)).toNat:Int)*pl.stp=q.1:=by
   have:((m-((t-pl.len)/pl.stp+1)).toNat:Int)=m-((t-pl.len)/pl.stp+1):=by lia
   rw[this]
   unfold gj
   rw[e1,←Int.add_mul]
   congr 1
   lia
  refine List.mem_map.mpr ⟨(m-((t-pl.len)/pl.stp+1)).toNat,List.mem_range.mpr ?_,?_⟩
  ·generalize (m-((t-pl.len)/pl.stp+1)).toNat=i at e3
   have hnn:0<=(i:Int)*pl.stp:=Int.mul_nonneg LI LI
   have hi:(i:Int)<=(t+1-gj pl t-1)/pl.stp:=(MV s1).mp LI
   show i<(Mn (gj pl t) (t+1) pl.stp).toNat
   unfold Mn
   rw[if_pos LI,if_pos LI]
   lia
  ·obtain⟨q1,q2⟩:=q
   simp only at e3 e2
   rw[e3,e2]
def iD(bh:List Ev)(n:Str)(u:Int):Prop:=∃e∈bh,e.n=n/\e.t=u
structure Tab(pl:Pl)(bh:List Ev)(ws:List Wn):Prop where
 nd:(ws.map Wn.k).Nodup
 val:∀k p,Gm ws k=some p->p=nJ bh k
 gr:sj pl=false->∀k∈ws.map Wn.k,Dh pl k.s k.e/\∃e∈bh,jY k e=true
 gc:sj pl=false->∀e∈bh,∀k:Ky,Dh pl k.s k.e->jY k e=true->k∈ws.map Wn.k
 pr:sj pl=true->∀k∈ws.map Wn.k,eY pl.len (iD bh k.n) k.s k.e
 pc:sj pl=true->∀e∈bh,∃k∈ws.map Wn.k,k.n=e.n/\k.s<=e.t/\e.t<=k.e-pl.len
theorem Tab.nil(pl:Pl):Tab pl [] []:=⟨.nil,λ_ _ h=>(nomatch h),λ_ _ h=>(nomatch h),λ_ _ h=>(nomatch h),λ_ _ h=>(nomatch h),λ_ _ h=>(nomatch h)⟩
theorem AV{α:Type}:∀{l m:List α},l.Nodup->m.Nodup->(∀a,a∈l↔a∈m)->l.Perm m
 |[],m,_,_,h=>by
  cases m with
  |nil=>exact .nil
  |cons b m=>exact(nomatch (h b).mpr (.head _))
 |a::l,m,hl,hm,h=>by
  obtain⟨h1,h2⟩:=List.nodup_cons.mp hl
  obtain⟨m1,m2,rfl⟩:=List.append_of_mem ((h a).mp (.head _))
  have pm:(m1++a::m2).Perm (a::(m1++m2)):=List.perm_middle
  obtain⟨n1,n2⟩:=List.nodup_cons.mp (pm.nodup_iff.mp hm)
  refine .trans (.cons a (AV h2 n2 λb=>⟨λhb=>?_,λhb=>?_⟩)) pm.symm
  ·rcases List.mem_cons.mp (pm.mem_iff.mp ((h b).mp (.tail _ hb)))with z|z
   ·exact absurd (z▸hb) h1
   ·exact z
  ·rcases List.mem_cons.mp ((h b).mpr (pm.mem_iff.mpr (.tail _ hb)))with z|z
   ·exact absurd (z▸hb) n1
   ·exact z
theorem qT{ws:List Wn}(h:(ws.map Wn.k).Nodup):ws.Nodup:=by
 refine List.Pairwise.of_map Wn.k (λa b z e=>z (by rw[e])) h
theorem Tab.keys{pl:Pl}{bh:List Ev}{ws fN:List Wn}(h:Tab pl bh ws)(h':Tab pl bh fN){k:Ky}(m:k∈ws.map Wn.k):k∈fN.map Wn.k:=by
 cases ip:sj pl with
 |false=>
  obtain⟨g,e,me,hi⟩:=h.gr ip k m
  exact h'.gc ip e me k g hi
 |true=>
  have p:=h.pr ip k m
  obtain⟨e,me,en,et⟩:=p.a
  obtain⟨k',m',kn,k1,k2⟩:=h'.pc ip e me
  have p':=h'.pr ip k' m'
  rw[kn,en]at p'
  rw[et]at k1 k2
  obtain⟨q1,q2⟩:=p.uniq p' (Int.le_refl _) p.le k1 k2
  have:k=k':=by
   obtain⟨a,b,c⟩:=k
   obtain⟨a',b',c'⟩:=k'
   simp only at q1 q2 kn en
   rw[q1,q2,kn,en]
  rw[this];exact m'
theorem Tab.uniq{pl:Pl}{bh:List Ev}{ws fN:List Wn}(h:Tab pl bh ws)(h':Tab pl bh fN):ws.Perm fN:=by
 have half:∀{ws fN:List Wn},Tab pl bh ws->Tab pl bh fN->∀w,w∈ws->w∈fN:=λ{ws fN} h h' w m=>by
  have mk:=h.keys h' (List.mem_map_of_mem (f:=Wn.k) m)
  obtain⟨p,hp⟩:=jv.mp mk
  obtain⟨w',hw',ek,ep⟩:=vD hp
  have e1:=h.val _ _ (OJ h.nd m)
  have e2:=h'.val _ _ hp
  rw[ep]at e2
  have:w=w':=by
   have e3:=e1.trans e2.symm
   obtain⟨a,b,c,d,f⟩:=w
   obtain⟨a',b',c',d',f'⟩:=w'
   injection ek with k1 k2 k3
   injection e3 with v1 v2
   simp only at v1 v2
   subst k1 k2 k3 v1 v2
   rfl
  rw[this]
  exact(jN hw').1
 exact AV (qT h.nd) (qT h'.nd) λw=>⟨half h h' w,half h' h w⟩
theorem pV{a:Int}{ks:List Ky}{ws:List Wn}(nd:ks.Nodup)(k:Ky):k∈(bX a ws ks).map Wn.k↔k∈ks\/k∈ws.map Wn.k:=by
 obtain⟨g1,g2⟩:=Hz (a:=a) (k:=k) (ws:=ws) nd
 rw[jv,jv]
 by_cases h:k∈ks
 ·exact⟨λ_=>.inl h,λ_=>⟨_,g1 h⟩⟩
 ·rw[g2 h]
  exact⟨.inr,λz=>z.resolve_left h⟩
theorem DQ{pl:Pl}(ok:pl.ok)(np:sj pl=false){bh:List Ev}{ws:List Wn}{n:Str}{t a:Int}(h:Tab pl bh ws):Tab pl (bh++[⟨n,t,a⟩]) (bX a ws (cg pl n t)):=by
 have nd:=CQ ok n t
 have mem:∀k:Ky,k∈cg pl n t↔Dh pl k.s k.e/\jY k ⟨n,t,a⟩=true:=λk=>by
  rw[gy]
  unfold cg
  constructor
  ·intro m
   obtain⟨q,hq,rfl⟩:=List.mem_map.mp m
   obtain⟨h1,h2,h3⟩:=(Bc ok np).mp hq
   exact⟨h1,rfl,h2,h3⟩
  ·rintro⟨h1,h2,h3,h4⟩
   refine List.mem_map.mpr ⟨(k.s,k.e),(Bc ok np).mpr ⟨h1,h3,h4⟩,?_⟩
   have:n=k.n:=h2
   rw[this]
 have no:sj pl=true->False:=λz=>by rw[np]at z;cases z
 refine⟨jt h.nd,λk p g=>?_,λ_ k m=>?_,λ_ e m k gd hi=>?_,λz=>(no z).elim,λz=>(no z).elim⟩
 ·obtain⟨g1,g2⟩:=Hz (a:=a) (k:=k) (ws:=ws) nd
  rw[vZ]
  by_cases hk:k∈cg pl n t
  ·rw[g1 hk]at g
   obtain⟨gd,hi⟩:=(mem k).mp hk
   show p=cM _ (if jY k _=true then _ else _)
   rw[if_pos hi,←Option.some.inj g]
   cases hg:Gm ws k with
   |some q=>rw[h.val k q hg];rfl
   |none=>
    rw[vY λe me=>by
     cases z:jY k e with
     |false=>rfl
     |true=>exact absurd (h.gc np e me k gd z) (vC.mpr hg)]
    rfl
  ·rw[g2 hk]at g
   show p=cM _ (if jY k _=true then _ else _)
   rw[if_neg λz=>hk ((mem k).mpr ⟨(h.gr np k (jv.mpr ⟨_,g⟩)).1,z⟩),kc]
   exact h.val k p g
 ·rcases(pV nd k).mp m with z|z
  ·obtain⟨gd,hi⟩:=(mem k).mp z
   exact⟨gd,_,List.mem_append_right _ (.head _),hi⟩
  ·obtain⟨gd,e,me,hi⟩:=h.gr np k z
   exact⟨gd,e,List.mem_append_left _ me,hi⟩
 ·rw[pV nd]
  rcases List.mem_append.mp m with z|z
  ·exact .inr (h.gc np e z k gd hi)
  ·rw[List.mem_singleton]at z
   subst z
   exact .inl ((mem k).mpr ⟨gd,hi⟩)
section
variable {L t s0 e0:Int} {T:Int->Prop} {P:Int->Int->Prop}
theorem CC(hL:1<=L)(hP:∀s e,P s e->eY L T s e)(hc:∀u,T u->∃s e,P s e/\s<=u/\u<=e-L)(s1:s0=t\/∃e,P s0 e/\s0<t+L/\t<e)(s2:s0<=t)(s3:∀s e,P s e->s<t+L->t<e->s0<=s)
  (e1:e0=t+L\/∃s,P s e0/\s<t+L/\t<e0)(e2:t+L<=e0)(e3:∀s e,P s e->s<t+L->t<e->e<=e0):eY L (λu=>T u\/u=t) s0 e0 where
 a:=by
  rcases s1 with z|⟨e,p,_⟩
  ·exact .inr z
  ·exact .inl (hP _ _ p).a
 b:=by
  rcases e1 with z|⟨s,p,_⟩
  ·exact .inr LI
  ·exact .inl (hP _ _ p).b
 le:=by lia
 lo:=by
  rintro u (tu|rfl) hu
  ·obtain⟨s,e,p,h1,h2⟩:=hc u tu
   have hp:=hP _ _ p
   by_cases hm:s<t+L/\t<e
   ·have:=s3 s e p hm.1 hm.2
    lia
   ·rcases s1 with z|⟨e',p',_⟩
    ·lia
    ·exact(hP _ _ p').lo u tu hu
  ·lia
 hi:=by
  rintro u (tu|rfl) hu
  ·obtain⟨s,e,p,h1,h2⟩:=hc u tu
   have hp:=hP _ _ p
   by_cases hm:s<t+L/\t<e
   ·have:=e3 s e p hm.1 hm.2
    lia
   ·rcases e1 with z|⟨s',p',_⟩
    ·lia
    ·exact(hP _ _ p').hi u tu hu
  ·lia
 nx:=by
  have new:∀s e,P s e->s<t+L->t<e->t<e-L->∃v,(T v\/v=t)/\t<v/\v<t+L/\v<=e-L:=λs e p h1 h2 h3=>by
   have hp:=hP _ _ p
   by_cases hs:t<s
   ·exact⟨s,.inl hp.a,hs,h1,hp.le⟩
   ·obtain⟨v,tv,v1,v2,v3⟩:=hp.before LI h3
    exact⟨v,.inl tv,v1,v2,v3⟩
  rintro u (tu|rfl) h1 h2
  ·obtain⟨s,e,p,h3,h4⟩:=hc u tu
   have hp:=hP _ _ p
   by_cases hm:s<t+L/\t<e
   ·by_cases hl:u<e-L
    ·obtain⟨v,tv,v1,v2,v3⟩:=hp.nx u tu h3 hl
     have:=e3 s e p hm.1 hm.2
     exact⟨v,.inl tv,v1,v2,by lia⟩
    ·by_cases ht:u<t
     ·exact⟨t,.inr rfl,ht,by lia,by lia⟩
     ·rcases e1 with z|⟨s',p',h5,h6⟩
      ·lia
      ·have sE:=hP _ _ p'
       by_cases hs':s'<=u
       ·have:=(hp.uniq sE h3 h4 hs' LI).2
        lia
       ·have:=hp.hi s' sE.a LI
        lia
   ·by_cases hq:e<=t
    ·rcases s1 with z|⟨e',p',h5,h6⟩
     ·lia
     ·have sE:=hP _ _ p'
      have:=hp.uniq sE h3 h4 h1 LI
      lia
    ·rcases e1 with z|⟨s',p',h5,h6⟩
     ·lia
     ·have sE:=hP _ _ p'
      have:=hp.uniq sE h3 h4 LI LI
      lia
  ·rcases e1 with z|⟨s',p',h5,h6⟩
   ·lia
   ·exact new s' e0 p' h5 h6 h2
theorem BO(hL:1<=L){s e:Int}(h:eY L T s e)(hm:¬(s<t+L/\t<e)):eY L (λu=>T u\/u=t) s e where
 a:=.inl h.a
 b:=.inl h.b
 le:=h.le
 lo:=by
  have:=h.le
  rintro u (tu|rfl) hu
  ·exact h.lo u tu hu
  ·lia
 hi:=by
  have:=h.le
  rintro u (tu|rfl) hu
  ·exact h.hi u tu hu
  ·lia
 nx:=by
  rintro u (tu|rfl) h1 h2
  ·obtain⟨v,tv,r⟩:=h.nx u tu h1 h2
   exact⟨v,.inl tv,r⟩
  ·lia
theorem Jb(hL:1<=L)(hP:∀s e,P s e->eY L T s e)(hc:∀u,T u->∃s e,P s e/\s<=u/\u<=e-L)(s1:s0=t\/∃e,P s0 e/\s0<t+L/\t<e)(s2:s0<=t)
  (e1:e0=t+L\/∃s,P s e0/\s<t+L/\t<e0)(e2:t+L<=e0){u:Int}(tu:T u)(h1:s0<=u)(h2:u<e0):∃s e,P s e/\s<t+L/\t<e/\s<=u/\u<e:=by
 obtain⟨s,e,p,h3,h4⟩:=hc u tu
 have hp:=hP _ _ p
 by_cases hm:s<t+L/\t<e
 ·exact⟨s,e,p,hm.1,hm.2,h3,by lia⟩
 ·exfalso
  by_cases hq:e<=t
  ·rcases s1 with z|⟨e',p',h5,h6⟩
   ·lia
   ·have:=hp.uniq (hP _ _ p') h3 h4 h1 LI
    lia
  ·rcases e1 with z|⟨s',p',h5,h6⟩
   ·lia
   ·have sE:=hP _ _ p'
    have hle:u<=e0-L:=Int.not_lt.mp λz=>by have:=sE.hi u tu z;lia
    have:=hp.uniq sE h3 h4 LI hle
    lia
end
theorem Hx{g:Ky}{f:Ky->Int×Int}:∀{mt:List Ky}{ws:List Wn},mt.Nodup->g∉mt->(∀k∈mt,Gm ws k=some (f k))->Gm (cY ws mt g) g=if mt=[]then Gm ws g else some (Iz (Gm ws g) (sumK f mt).1 (sumK f mt).2):=by
 intro mt
 induction mt with
 |nil=>intro ws _ _ _;rfl
 |cons q mt ih=>
  intro ws nd hg hv
  obtain⟨n1,n2⟩:=List.nodup_cons.mp nd
  obtain⟨w,hw,_,ew⟩:=vD (hv q (.head _))
  have e:cY ws (q::mt) g=cY (addW (cZ ws q.l) g.n g.s g.e w.c w.t) mt g:=by
   show cY (match dc ws q.l with|some w=>addW (cZ ws q.l) g.n g.s g.e w.c w.t|none=>ws) mt g=_
   rw[hw]
  have gq:g≠q:=λz=>hg (z▸.head _)
  have g1:Gm (addW (cZ ws q.l) g.n g.s g.e w.c w.t) g=some (Iz (Gm ws g) w.c w.t):=by
   rw[show Gm (addW (cZ ws q.l) g.n g.s g.e w.c w.t) g=some (Iz (Gm (cZ ws q.l) g) w.c w.t)from iL ..,lV gq]
  rw[e,ih n2 (λz=>hg (.tail _ z)) λk hk=>by
   have kq:k≠q:=λz=>n1 (z▸hk)
   have kg:k≠g:=λz=>hg (z▸.tail _ hk)
   rw[gZ (n:=g.n) (s:=g.s) (e:=g.e) kg,lV kq]
   exact hv k (.tail _ hk),g1,if_neg (show¬q::mt=[]from λz=>nomatch z)]
  have ec:sumK f (q::mt)=cM (w.c,w.t) (sumK f mt):=by show cM (f q) _=_;rw[ew]
  rw[ec]
  by_cases hn:mt=[]
  ·rw[if_pos hn,hn]
   show some (Iz (Gm ws g) w.c w.t)=some (Iz (Gm ws g) (w.c+0) (w.t+0))
   rw[Int.add_zero,Int.add_zero]
  ·rw[if_neg hn]
   cases Gm ws g with
   |none=>
    show some ((0+w.c+(sumK f mt).1,0+w.t+(sumK f mt).2):Int×Int)=some (0+(w.c+(sumK f mt).1),0+(w.t+(sumK f mt).2))
    simp only[Int.add_assoc]
   |some p=>
    show some ((p.1+w.c+(sumK f mt).1,p.2+w.t+(sumK f mt).2):Int×Int)=some (p.1+(w.c+(sumK f mt).1),p.2+(w.t+(sumK f mt).2))
    simp only[Int.add_assoc]
theorem BL{pl:Pl}(ok:pl.ok)(ip:sj pl=true){bh:List Ev}{ws fN:List Wn}{n:Str}{t a s e:Int}{mt:List Ky}(h:Tab pl bh ws)(pm:mt.Perm ((ws.filter (meet ⟨n,t,t+pl.len⟩)).map Wn.k))
  (s1:s=t\/∃k∈mt,k.s=s)(s2:s<=t)(s3:∀k∈mt,s<=k.s)(e1:e=t+pl.len\/∃k∈mt,k.e=e)(e2:t+pl.len<=e)(e3:∀k∈mt,k.e<=e)(hw:fN=addW (cY ws mt ⟨n,s,e⟩) n s e 1 a):
  Tab pl (bh++[⟨n,t,a⟩]) fN:=by
 have hL:=ok.l1
 have nd:mt.Nodup:=pm.nodup_iff.mpr (h.nd.sublist ((List.filter_sublist).map _))
 have mem:∀k:Ky,k∈mt↔k∈ws.map Wn.k/\k.n=n/\k.s<t+pl.len/\t<k.e:=λk=>by
  rw[pm.mem_iff]
  constructor
  ·intro m
   obtain⟨w,hw,rfl⟩:=List.mem_map.mp m
   obtain⟨h1,h2⟩:=List.mem_filter.mp hw
   unfold meet at h2
   simp only[Bool.and_eq_true,decide_eq_true_eq]at h2
   exact⟨List.mem_map_of_mem h1,h2⟩
  ·rintro⟨h1,h2⟩
   obtain⟨w,hw,rfl⟩:=List.mem_map.mp h1
   refine List.mem_map_of_mem (List.mem_filter.mpr ⟨hw,?_⟩)
   unfold meet
   simp only[Bool.and_eq_true,decide_eq_true_eq]
   exact h2
 have ky:∀k:Ky,k.n=n->k=⟨n,k.s,k.e⟩:=λk z=>by rw[←z]
 have hP:∀s e,(⟨n,s,e⟩:Ky)∈ws.map Wn.k->eY pl.len (iD bh n) s e:=λs e m=>h.pr ip _ m
 have hc:∀u,iD bh n u->∃s e,(⟨n,s,e⟩:Ky)∈ws.map Wn.k/\s<=u/\u<=e-pl.len:=by
  rintro u ⟨x,mx,xn,rfl⟩
  obtain⟨k,mk,kn,k1,k2⟩:=h.pc ip x mx
  exact⟨k.s,k.e,ky k (kn.trans xn)▸mk,k1,k2⟩
 have s1':s=t\/∃e,(⟨n,s,e⟩:Ky)∈ws.map Wn.k/\s<t+pl.len/\t<e:=by
  rcases s1 with z|⟨k,mk,rfl⟩
  ·exact .inl z
  ·obtain⟨h1,h2,h3,h4⟩:=(mem k).mp mk
   exact .inr ⟨k.e,ky k h2▸h1,h3,h4⟩
 have e1':e=t+pl.len\/∃s,(⟨n,s,e⟩:Ky)∈ws.map Wn.k/\s<t+pl.len/\t<e:=by
  rcases e1 with z|⟨k,mk,rfl⟩
  ·exact .inl z
  ·obtain⟨h1,h2,h3,h4⟩:=(mem k).mp mk
   exact .inr ⟨k.s,ky k h2▸h1,h3,h4⟩
 have s3':∀q r,(⟨n,q,r⟩:Ky)∈ws.map Wn.k->q<t+pl.len->t<r->s<=q:=λq r m h1 h2=>s3 _ ((mem ⟨n,q,r⟩).mpr ⟨m,rfl,h1,h2⟩)
 have e3':∀q r,(⟨n,q,r⟩:Ky)∈ws.map Wn.k->q<t+pl.len->t<r->r<=e:=λq r m h1 h2=>e3 _ ((mem ⟨n,q,r⟩).mpr ⟨m,rfl,h1,h2⟩)
 have J:=CC hL hP hc s1' s2 s3' e1' e2 e3'
 have Tn:iD (bh++[⟨n,t,a⟩]) n=λu=>iD bh n u\/u=t:=funext λu=>propext ⟨λ⟨x,mx,xn,xt⟩=>by
   rcases List.mem_append.mp mx with z|z
   ·exact .inl ⟨x,z,xn,xt⟩
   ·rw[List.mem_singleton]at z
    subst z
    exact .inr xt.symm,λz=>by
   rcases z with⟨x,mx,r⟩|rfl
   ·exact⟨x,List.mem_append_left _ mx,r⟩
   ·exact⟨_,List.mem_append_right _ (.head _),rfl,rfl⟩⟩
 have To:∀m,m≠n->iD (bh++[⟨n,t,a⟩]) m=iD bh m:=λm hm=>funext λu=>propext ⟨λ⟨x,mx,xn,xt⟩=>by
   rcases List.mem_append.mp mx with z|z
   ·exact⟨x,z,xn,xt⟩
   ·rw[List.mem_singleton]at z
    subst z
    exact absurd xn.symm hm,λ⟨x,mx,r⟩=>⟨x,List.mem_append_left _ mx,r⟩⟩
 have gt:jY ⟨n,s,e⟩ ⟨n,t,a⟩=true:=gy.mpr ⟨rfl,s2,by show t<e;lia⟩
 have parts:nJ bh ⟨n,s,e⟩=sumK (nJ bh) mt:=s_ nd λx mx=>by
  have back:∀k∈mt,jY k x=true->k.n=x.n/\k.s<=x.t/\x.t<=k.e-pl.len/\eY pl.len (iD bh n) k.s k.e:=λk mk hk=>by
   obtain⟨h1,h2,h3,h4⟩:=(mem k).mp mk
   obtain⟨i1,i2,i3⟩:=gy.mp hk
   have sp:=hP k.s k.e (ky k h2▸h1)
   refine⟨i1.symm,i2,Int.not_lt.mp λz=>?_,sp⟩
   have:=sp.hi x.t ⟨x,mx,i1.trans h2,rfl⟩ z
   lia
  refine⟨⟨λhx=>?_,λ⟨k,mk,hk⟩=>?_⟩,λk mk q mq hk hq=>?_⟩
  ·obtain⟨i1,i2,i3⟩:=gy.mp hx
   obtain⟨s',e',p,h1,h2,h3,h4⟩:=Jb hL hP hc s1' s2 e1' e2 (u:=x.t) ⟨x,mx,i1,rfl⟩ i2 i3
   exact⟨⟨n,s',e'⟩,(mem _).mpr ⟨p,rfl,h1,h2⟩,gy.mpr ⟨i1,h3,h4⟩⟩
  ·obtain⟨h1,h2,h3,h4⟩:=(mem k).mp mk
   obtain⟨i1,i2,i3⟩:=gy.mp hk
   have a1:=s3 k mk
   have a2:=e3 k mk
   exact gy.mpr ⟨i1.trans h2,by show s<=x.t;lia,by show x.t<e;lia⟩
  ·obtain⟨a1,a2,a3,a4⟩:=back k mk hk
   obtain⟨b1,b2,b3,b4⟩:=back q mq hq
   obtain⟨q1,q2⟩:=a4.uniq b4 a2 a3 b2 b3
   rw[ky k ((mem k).mp mk).2.1,ky q ((mem q).mp mq).2.1,q1,q2]
 have vals:∀k∈mt,Gm ws k=some (nJ bh k):=λk mk=>by
  obtain⟨p,hp⟩:=jv.mp ((mem k).mp mk).1
  rw[hp,h.val k p hp]
 have vg:Gm fN ⟨n,s,e⟩=some (cM (nJ bh ⟨n,s,e⟩) (1,a)):=by
  rw[hw,iL]
  congr 1
  by_cases hg:(⟨n,s,e⟩:Ky)∈mt
  ·have all:∀k∈mt,k=⟨n,s,e⟩:=λk mk=>by
    obtain⟨h1,h2,h3,h4⟩:=(mem k).mp mk
    have p1:=hP k.s k.e (ky k h2▸h1)
    have p2:=hP s e ((mem _).mp hg).1
    have a1:=s3 k mk
    have a2:=e3 k mk
    have a3:=p1.le
    obtain⟨q1,q2⟩:=p1.uniq p2 (Int.le_refl _) p1.le a1 LI
    rw[ky k h2,q1,q2]
   have em:mt=[⟨n,s,e⟩]:=by
    cases mt with
    |nil=>exact(nomatch hg)
    |cons q r=>
     have z1:=all q (.head _)
     cases r with
     |nil=>rw[z1]
     |cons q2 r=>
      have z2:=all q2 (.tail _ (.head _))
      exact absurd (show q∈q2::r by rw[z1,z2];exact .head _) (List.nodup_cons.mp nd).1
   have g1:=vals _ hg
   rw[em,Hy g1]
   rfl
  ·have gk:Gm ws ⟨n,s,e⟩=none:=vC.mp λz=>hg ((mem _).mpr ⟨z,rfl,by show s<_;lia,by show t<e;lia⟩)
   rw[Hx (f:=nJ bh) nd hg vals,gk,parts]
   by_cases hn:mt=[]
   ·rw[if_pos hn,hn]
    rfl
   ·rw[if_neg hn]
    show((0+(sumK (nJ bh) mt).1+1,0+(sumK (nJ bh) mt).2+a):Int×Int)=_
    rw[Int.zero_add,Int.zero_add]
    rfl
 have vo:∀k:Ky,k≠⟨n,s,e⟩->(k∈mt->Gm fN k=none)/\(k∉mt->Gm fN k=Gm ws k):=λk hk=>by
  rw[hw,gZ hk]
  exact JT hk
 have keys:∀k:Ky,k∈fN.map Wn.k↔k=⟨n,s,e⟩\/(k∈ws.map Wn.k/\k∉mt):=λk=>by
  rw[jv]
  by_cases hk:k=⟨n,s,e⟩
  ·exact⟨λ_=>.inl hk,λ_=>⟨_,hk▸vg⟩⟩
  ·by_cases hm:k∈mt
   ·rw[(vo k hk).1 hm]
    exact⟨λ⟨_,z⟩=>(nomatch z),λz=>z.elim (λz=>absurd z hk) λz=>absurd hm z.2⟩
   ·rw[(vo k hk).2 hm,←jv]
    exact⟨λz=>.inr ⟨z,hm⟩,λz=>z.elim (λz=>absurd z hk) λz=>z.1⟩
 have no:sj pl=false->False:=λz=>by rw[ip]at z;cases z
 refine⟨by rw[hw];exact lS (jL h.nd),λk p g=>?_,λz=>(no z).elim,λz=>(no z).elim,λ_ k m=>?_,λ_ x mx=>?_⟩
 ·rw[vZ]
  by_cases hk:k=⟨n,s,e⟩
  ·subst hk
   rw[vg]at g
   rw[←Option.some.inj g]
   show _=cM _ (if jY _ _=true then _ else _)
   rw[if_pos gt]
  ·by_cases hm:k∈mt
   ·rw[(vo k hk).1 hm]at g
    cases g
   ·rw[(vo k hk).2 hm]at g
    show p=cM _ (if jY k _=true then _ else _)
    rw[if_neg λz=>hm ?_,kc]
    ·exact h.val k p g
    ·obtain⟨i1,i2,i3⟩:=gy.mp z
     have i2':k.s<=t:=i2
     exact(mem k).mpr ⟨jv.mpr ⟨_,g⟩,i1.symm,by lia,i3⟩
 ·rcases(keys k).mp m with rfl|⟨m1,m2⟩
  ·show eY pl.len (iD _ n) s e
   rw[Tn]
   exact J
  ·by_cases kn:k.n=n
   ·have sp:=hP k.s k.e (ky k kn▸m1)
    have:=BO (t:=t) hL sp λz=>m2 ((mem k).mpr ⟨m1,kn,z⟩)
    rw[kn,Tn]
    exact this
   ·rw[To _ kn]
    exact h.pr ip k m1
 ·rcases List.mem_append.mp mx with z|z
  ·obtain⟨k,mk,kn,k1,k2⟩:=h.pc ip x z
   by_cases hm:k∈mt
   ·have a1:=s3 k hm
    have a2:=e3 k hm
    exact⟨_,(keys _).mpr (.inl rfl),((mem k).mp hm).2.1.symm.trans kn,by show s<=_;lia,by show _<=e-_;lia⟩
   ·exact⟨k,(keys k).mpr (.inr ⟨mk,hm⟩),kn,k1,k2⟩
  ·rw[List.mem_singleton]at z
   subst z
   exact⟨_,(keys _).mpr (.inl rfl),rfl,s2,by show t<=e-_;lia⟩
theorem Tab.step{pl:Pl}(ok:pl.ok){bh:List Ev}{ws fN:List Wn}{n:Str}{t a:Int}{mt ks:List Ky}(h:Tab pl bh ws)(r:kP pl n t a ws mt ks fN):Tab pl (bh++[⟨n,t,a⟩]) fN:=by
 rcases r with⟨np,_,rfl,rfl⟩|⟨ip,pm,_,s,e,h1,h2,h3,h4,h5,h6,_,hw⟩
 ·exact DQ ok np h
 ·exact BL ok ip h pm h1 h2 h3 h4 h5 h6 hw
def fj(L:Int)(sp:List (Int×Int))(t:Int):List (Int×Int):=match sp.getLast? with
 |some p=>if t-p.2<L then sp.dropLast++[(p.1,t)]else sp++[(t,t)]
 |none=>[(t,t)]
structure Cl(L:Int)(ds:List Int)(sp:List (Int×Int)):Prop where
 ap:sp.Pairwise λp q=>p.2+L<=q.1
 el:∀p∈sp,p.1<=p.2/\p.1∈ds/\p.2∈ds/\∀u∈ds,p.1<=u->u<p.2->∃v∈ds,u<v/\v<u+L/\v<=p.2
 cv:∀u∈ds,∃p∈sp,p.1<=u/\u<=p.2
theorem JH{L:Int}(hL:1<=L){ds:List Int}{sp:List (Int×Int)}{t:Int}(h:Cl L ds sp)(ht:∀u∈ds,u<=t):Cl L (ds++[t]) (fj L sp t):=by
 unfold fj
 have up:∀{u:Int},u∈ds->u∈ds++[t]:=λm=>List.mem_append_left _ m
 have tm:t∈ds++[t]:=List.mem_append_right _ (.head _)
 have old:∀p∈sp,p.1<=p.2/\p.1∈ds++[t]/\p.2∈ds++[t]/\∀u∈ds++[t],p.1<=u->u<p.2->∃v∈ds++[t],u<v/\v<u+L/\v<=p.2:=λp mp=>by
  obtain⟨h1,h2,h3,h4⟩:=h.el p mp
  refine⟨h1,up h2,up h3,λu mu u1 u2=>?_⟩
  rcases List.mem_append.mp mu with z|z
  ·obtain⟨v,mv,r⟩:=h4 u z u1 u2
   exact⟨v,up mv,r⟩
  ·rw[List.mem_singleton]at z
   have:=ht _ h3
   lia
 cases hg:sp.getLast? with
 |none=>
  have:sp=[]:=List.getLast?_eq_none_iff.mp hg
  subst this
  refine⟨List.pairwise_singleton _ _,λp mp=>?_,λu mu=>?_⟩
  ·rw[List.mem_singleton]at mp
   subst mp
   exact⟨Int.le_refl _,tm,tm,λu _ h1 h2=>absurd h1 (by simp only at h2 ⊢;lia)⟩
  ·rcases List.mem_append.mp mu with z|z
   ·obtain⟨p,mp,_⟩:=h.cv u z
    exact(nomatch mp)
   ·rw[List.mem_singleton]at z
    exact⟨(t,t),.head _,by simp only;lia,by simp only;lia⟩
 |some p=>
  obtain⟨l,rfl⟩:∃l,sp=l++[p]:=by
   obtain⟨ys,e⟩:=List.getLast?_eq_some_iff.mp hg
   exact⟨ys,e⟩
  obtain⟨a1,a2,a3⟩:=List.pairwise_append.mp h.ap
  have mp:p∈l++[p]:=List.mem_append_right _ (.head _)
  obtain⟨p1,p2,p3,p4⟩:=h.el p mp
  have pt:=ht _ p3
  have top:∀u∈ds,u<=p.2:=λu mu=>by
   obtain⟨q,mq,q1,q2⟩:=h.cv u mu
   rcases List.mem_append.mp mq with z|z
   ·have:=a3 q z p (.head _)
    lia
   ·rw[List.mem_singleton]at z
    subst z
    exact q2
  dsimp only
  by_cases hj:t-p.2<L
  ·rw[if_pos hj,List.dropLast_concat]
   refine⟨List.pairwise_append.mpr ⟨a1,List.pairwise_singleton _ _,λq mq r mr=>?_⟩,λq mq=>?_,λu mu=>?_⟩
   ·rw[List.mem_singleton]at mr
    subst mr
    exact a3 q mq p (.head _)
   ·rcases List.mem_append.mp mq with z|z
    ·exact old q (List.mem_append_left _ z)
    ·rw[List.mem_singleton]at z
     subst z
     refine⟨by show p.1<=t;lia,up p2,tm,λu mu u1 u2=>?_⟩
     simp only at u1 u2
     rcases List.mem_append.mp mu with z|z
     ·by_cases hu:u<p.2
      ·obtain⟨v,mv,v1,v2,v3⟩:=p4 u z u1 hu
       exact⟨v,up mv,v1,v2,by show v<=t;lia⟩
      ·have:=top u z
       exact⟨t,tm,by lia,by lia,Int.le_refl _⟩
     ·rw[List.mem_singleton]at z
      lia
   ·rcases List.mem_append.mp mu with z|z
    ·obtain⟨q,mq,q1,q2⟩:=h.cv u z
     rcases List.mem_append.mp mq with y|y
     ·exact⟨q,List.mem_append_left _ y,q1,q2⟩
     ·rw[List.mem_singleton]at y
      subst y
      exact⟨(q.1,t),List.mem_append_right _ (.head _),q1,by show u<=t;lia⟩
    ·rw[List.mem_singleton]at z
     exact⟨(p.1,t),List.mem_append_right _ (.head _),by show p.1<=u;lia,by show u<=t;lia⟩
  ·rw[if_neg hj]
   refine⟨List.pairwise_append.mpr ⟨h.ap,List.pairwise_singleton _ _,λq mq r mr=>?_⟩,λq mq=>?_,λu mu=>?_⟩
   ·rw[List.mem_singleton]at mr
    subst mr
    show q.2+L<=t
    rcases List.mem_append.mp mq with z|z
    ·have:=a3 q z p (.head _)
     lia
    ·rw[List.mem_singleton]at z
     subst z
     lia
   ·rcases List.mem_append.mp mq with z|z
    ·exact old q z
    ·rw[List.mem_singleton]at z
     subst z
     exact⟨Int.le_refl _,tm,tm,λu _ h1 h2=>absurd h1 (by simp only at h2 ⊢;lia)⟩
   ·rcases List.mem_append.mp mu with z|z
    ·obtain⟨q,mq,r⟩:=h.cv u z
     exact⟨q,List.mem_append_left _ mq,r⟩
    ·rw[List.mem_singleton]at z
     exact⟨(t,t),List.mem_append_right _ (.head _),by simp only;lia,by simp only;lia⟩
theorem Ox{L:Int}(hL:1<=L):∀(ts:List Int),ts.Pairwise (· <=·)->Cl L ts (ts.foldl (fj L) []):=by
 have key:∀(ts ds:List Int)(sp:List (Int×Int)),Cl L ds sp->(ds++ts).Pairwise (· <=·)->Cl L (ds++ts) (ts.foldl (fj L) sp):=by
  intro ts
  induction ts with
  |nil=>intro ds sp h _;rw[List.append_nil];exact h
  |cons t ts ih=>
   intro ds sp h hs
   have e:ds++t::ts=(ds++[t])++ts:=by simp
   rw[e]at hs ⊢
   refine ih _ _ (JH hL h λu mu=>?_) hs
   exact(List.pairwise_append.mp (List.pairwise_append.mp hs).1).2.2 u mu t (.head _)
 intro ts hs
 exact key ts [] [] ⟨.nil,λp h=>(nomatch h),λu h=>(nomatch h)⟩ hs
theorem Cl.span{L:Int}(hL:1<=L){ds:List Int}{sp:List (Int×Int)}(h:Cl L ds sp){T:Int->Prop}(hT:∀u,T u↔u∈ds){p:Int×Int}(mp:p∈sp):eY L T p.1 (p.2+L):=by
 obtain⟨p1,p2,p3,p4⟩:=h.el p mp
 have ord:∀q∈sp,q=p\/q.2+L<=p.1\/p.2+L<=q.1:=λq mq=>by
  obtain⟨i,hi,rfl⟩:=List.mem_iff_getElem.mp mq
  obtain⟨j,hj,rfl⟩:=List.mem_iff_getElem.mp mp
  rcases Nat.lt_trichotomy i j with z|z|z
  ·exact .inr (.inl (List.pairwise_iff_getElem.mp h.ap i j hi hj z))
  ·subst z;exact .inl rfl
  ·exact .inr (.inr (List.pairwise_iff_getElem.mp h.ap j i hj hi z))
 have e:p.2+L-L=p.2:=by lia
 refine⟨(hT _).mpr p2,e.symm▸(hT _).mpr p3,by lia,λu tu hu=>?_,λu tu hu=>?_,λu tu h1 h2=>?_⟩
 ·obtain⟨q,mq,q1,q2⟩:=h.cv u ((hT u).mp tu)
  rcases ord q mq with rfl|z|z
  ·lia
  ·lia
  ·have:=(h.el q mq).1
   lia
 ·obtain⟨q,mq,q1,q2⟩:=h.cv u ((hT u).mp tu)
  rcases ord q mq with rfl|z|z
  ·lia
  ·have:=(h.el q mq).1
   lia
  ·lia
 ·obtain⟨v,mv,v1,v2,v3⟩:=p4 u ((hT u).mp tu) h1 LI
  exact⟨v,(hT v).mpr mv,v1,v2,by lia⟩
inductive wu(vs:List V)(H:Hp)(Q:VK):Prop
 |mk(i:Int):(vs=[.int i])->(Q (.bl true) H)->wu vs H Q
def uF:Sp:=λvs H Q d_=>wu vs H Q
inductive Ak(vs:List V)(H:Hp)(Q:VK):Prop
 |mk(a:Addr)(z:eU):(vs=[.ref a])->(H a=some (.tup z.v))->(∀H',aA H H'->Q (.bl true) H')->Ak vs H Q
def Ei(K:Fg7):Sp:=λvs H Q d_=>Ak vs H Q
inductive Ez(vs:List V)(H:Hp)(Q:VK):Prop
 |mk(l:Addr)(zs:List V)(out:List eU):(vs=[.ref l])->(H l=some (.lst zs))->(aC eU.v H zs out)->(∀H',aA H H'->Q (.bl true) H')->Ez vs H Q
def Kw(K:Fg7):Sp:=λvs H Q d_=>Ez vs H Q
theorem zJ{x:V}{l:List V}:yr (x::l) 0=some x:=fR (show(x::l)[0]? = some x from rfl)
theorem JO{x y:V}{l:List V}:yr (x::y::l) 1=some y:=fR (show(x::y::l)[1]? = some y from rfl)
theorem Yk{a b:V}(h:a=b):V.bl (decide (a=b))=.bl true:=by rw[decide_eq_true h]
theorem Ql(z:eU):∃(tg nm:Str) (ns:List Int),z.v=.str tg :: .str nm::ns.map V.int/\2<=ns.length/\((tg="told"/\ns.length=4)\/(tg≠"told"/\(tg="gone"\/tg="missed")/\ns.length=2)):=by
 cases z with
 |told w=>exact⟨"told",w.n,[w.s,w.e,w.c,w.t],rfl,by simp,.inl ⟨rfl,rfl⟩⟩
 |gone k=>exact⟨"gone",k.n,[k.s,k.e],rfl,by simp,.inr ⟨by decide +kernel,.inl rfl,rfl⟩⟩
 |missed n t a=>exact⟨"missed",n,[t,a],rfl,by simp,.inr ⟨by decide +kernel,.inr rfl,rfl⟩⟩
section
variable {P:Program} {w:World} {K:Fg7} {mg:Str->Option Value}
theorem zj:PySem.W.kitOne K (.type "int") (.type "bool")=some false:=by with_unfolding_all rfl
theorem Jr(D:aJ K "_law_whole" dX)(M:MG K mg)(B:Bi K):ef P w K mg "_law_whole" ["_law_found"] 1 uF:=by
 refine D.fn M sD sL (λvs H Q E h=>?_) (λf base cdv A outer s H vs Q E hr h=>?_)
 ·obtain⟨i,rfl,_⟩:=h
  rfl
 ·obtain⟨i,rfl,k⟩:=h
  refine⟨_,(au (aL (iP (aU aS rfl (M.no _ B.aN) aF (pc (pv 0) (pc (bF (v:=.ty "int") rfl (M.no _ B.Ho) zC rfl) aj))) (iu (Fy (aU aS rfl (M.no _ B.aN) aF (pc (pv 0) (pc (bF (v:=.ty "bool") rfl (M.no _ B.vA) qG rfl) aj)))))))),?_⟩
  exact⟨_,rfl,_,_,_,true,rfl,.int i,rfl,true,rfl,aO (λ_=>⟨_,rfl,_,_,_,false,rfl,.int i,zj,false,rfl,k⟩) (λh=>absurd rfl h)⟩
theorem NS(D:aJ K "_law_is_said" di)(M:MG K mg)(B:Bi K)(gT:ef P w K mg "_law_whole" ["_law_found"] 1 uF):ef P w K mg "_law_is_said" ["_law_found"] 2 (Ei K):=by
 refine D.fn M jy qh (λvs H Q E h=>?_) (λf base cdv A outer s H vs Q E hr h=>?_)
 ·obtain⟨a,z,rfl,_⟩:=h
  rfl
 ·obtain⟨a,z,rfl,ha,k⟩:=h
  refine⟨_,(aq (bw (PW.pt (iY (dO (bU (aU aS rfl (M.no _ B.aN) aF (pc (pv 0) (pc (bF (v:=.ty "tuple") rfl (M.no _ B.nk) jS rfl) aj))))) (iO (aK oLt (aU aX rfl (M.no _ B.gE) eT (pc (pv 0) aj)) ah (aM _))))) (au (aL fJ)) aR)
   (aq (bw (PW.pt (iY (dO (bU (aU aS rfl (M.no _ B.aN) aF (pc (aH a_ (pv 0) ah (λ_ _=>rfl)) (pc (bF (v:=.ty "str") rfl (M.no _ B.xZ) rH rfl) aj))))) (iO (dO (bU (aU aS rfl (M.no _ B.aN) aF (pc (aH a_ (pv 0) ah (λ_ _=>rfl)) (pc (bF (v:=.ty "str") rfl (M.no _ B.xZ) rH rfl) aj)))))))) (au (aL fJ)) aR)
   (aq (eZ PassesOwn.never rfl (Mx (qP ED (pv 0) (qz ah) AQ)) (aV (i:=1) jy.nd rfl (Or.inl rfl))
   (au (bw (dO (bU (aW gT (hr.mono (by decide)) rfl (pc (pv 1) aj)))) (au (aL fJ)) aR)))
   (aq (bw (aK dF (aH a_ (pv 0) ah (λ_ _=>rfl)) cA (aM _)) (au (aL (eG dF (aU aX rfl (M.no _ B.gE) eT (pc (pv 0) aj)) ah (aM _)))) aR)
   (au (aL (iP (K_ (eG dF (aH a_ (pv 0) ah (λ_ _=>rfl)) cA (aM _)) (iu (eG dF (aH a_ (pv 0) ah (λ_ _=>rfl)) cA (aM _)))) (iu (eG dF (aU aX rfl (M.no _ B.gE) eT (pc (pv 0) aj)) ah (aM _)))))))))),?_⟩
  obtain⟨tg,nm,ns,hv,hlen,hlen'⟩:=Ql z
  rw[hv]at ha
  have no:∀{A:Prop},(!true)=true->A:=λh=>nomatch h
  refine⟨_,rfl,_,_,_,true,rfl,.tup ha,rfl,true,rfl,aO no λ_=>?_⟩
  refine⟨_,rfl,a,_,rfl,.inr (bu.of ha),_,_,rfl,rfl,_,rfl,aO (λh=>?_) λ_=>?_⟩
  ·have h':((V.str tg::V.str nm::ns.map V.int).length:Int)<4:=of_decide_eq_true h
   simp at h'
   lia
  refine⟨_,rfl,a,_,0,_,rfl,rfl,bu.of ha,zJ,_,_,_,true,rfl,.str _,rfl,true,rfl,aO no λ_=>?_⟩
  refine⟨_,rfl,a,_,1,_,rfl,rfl,bu.of ha,JO,_,_,_,true,rfl,.str _,rfl,true,rfl,aO no λ_=>?_⟩
  have hc:oQ (V.str tg::V.str nm::ns.map V.int) (some 2) none=ns.map V.int:=by
   unfold oQ
   rw[show HT.fT (V.str tg::V.str nm::ns.map V.int).length 0 (some 2)=2 from(HT.AI _ 0 2).trans (by simp),HT.EL]
   show(ns.map V.int).take ((V.str tg::V.str nm::ns.map V.int).length-2)=_
   exact List.take_of_length_le (by simp)
  refine⟨_,rfl,_,rfl,a,_,rfl,bu.of ha,?_,λp hp=>?_⟩
  ·rw[show HT.fT (V.str tg::V.str nm::ns.map V.int).length 0 (some 2)=2 from(HT.AI _ 0 2).trans (by simp)]
   intro h
   cases h.1
  have s1:=aA.new (o:=.tup (oQ (V.str tg::V.str nm::ns.map V.int) (some 2) none)) hp
  have hp1:upd H p (.tup (oQ (V.str tg::V.str nm::ns.map V.int) (some 2) none)) p=some (.tup (ns.map V.int)):=by rw[hc];exact af
  have ha1:=s1 _ _ ha
  generalize upd H p (.tup (oQ (V.str tg::V.str nm::ns.map V.int) (some 2) none))=H1 at *
  refine⟨p,rfl,⟨_,bu.of hp1⟩,?_⟩
  refine Jq (K:=K) (a:=p) (xs:=ns.map V.int) (λi σ H'=>(∃v,σ=[some (.ref a),v])/\H'=H1) ⟨⟨none,rfl⟩,rfl⟩ (λi σ H' _ ⟨_,e⟩=>by rw[e];exact bu.of hp1) ?_ ?_
  ·rintro i y σ H' hi ⟨⟨v,rfl⟩,rfl⟩
   rw[List.getElem?_map]at hi
   obtain⟨n,_,rfl⟩:=Option.map_eq_some_iff.mp hi
   exact⟨_,rfl,n,rfl,_,rfl,aO no λ_=>⟨⟨_,rfl⟩,rfl⟩⟩
  ·rintro σ H' ⟨⟨v,rfl⟩,rfl⟩
   refine⟨_,rfl,a,_,0,_,rfl,rfl,bu.of ha1,zJ,rfl,_,rfl,aO (λh=>?_) λh=>?_⟩
   ·have h':tg=("told":Str):=V.str.inj (of_decide_eq_true h)
    rcases hlen' with⟨_,hl⟩|⟨hn,_⟩
    ·refine⟨_,rfl,a,_,rfl,.inr (bu.of ha1),rfl,?_⟩
     have e:decide (V.int ((V.str tg::V.str nm::ns.map V.int).length:Int)=V.int 6)=true:=decide_eq_true (by simp[hl])
     rw[e]
     exact k _ s1
    ·exact absurd h' hn
   ·rcases hlen' with⟨ht,_⟩|⟨_,ho,hl⟩
    ·exact absurd (decide_eq_true (by rw[ht])) h
    ·have e:decide (V.int ((V.str tg::V.str nm::ns.map V.int).length:Int)=V.int 4)=true:=decide_eq_true (by simp[hl])
     have last:∀{G:V->Hp->Prop},G (.bl true) H'->G (.bl (decide (V.int ((V.str tg::V.str nm::ns.map V.int).length:Int)=V.int 4))) H':=λh=>by rw[e];exact h
     refine⟨_,rfl,a,_,0,_,rfl,rfl,bu.of ha1,zJ,rfl,_,rfl,aO (λ_=>?_) λhg=>?_⟩
     ·exact⟨true,rfl,aO (λ_=>⟨_,rfl,a,_,rfl,.inr (bu.of ha1),rfl,last (k _ s1)⟩) λz=>absurd rfl z⟩
     ·rcases ho with rfl|rfl
      ·exact absurd (decide_eq_true rfl) hg
      ·exact⟨_,rfl,a,_,0,_,rfl,rfl,bu.of ha1,zJ,rfl,true,Yk rfl,aO (λ_=>⟨_,rfl,a,_,rfl,.inr (bu.of ha1),rfl,last (k _ s1)⟩) λz=>absurd rfl z⟩
theorem Tp(D:aJ K "_law_are_said" cQ)(M:MG K mg)(B:Bi K)(rW:ef P w K mg "_law_is_said" ["_law_found"] 2 (Ei K)):ef P w K mg "_law_are_said" ["_law_found"] 3 (Kw K):=by
 refine D.fn M iX oW (λvs H Q E h=>?_) (λf base cdv A outer s H vs Q E hr h=>?_)
 ·obtain⟨l,zs,out,rfl,_⟩:=h
  rfl
 ·obtain⟨l,zs,out,rfl,hl,la,k⟩:=h
  refine⟨_,(aq (bw (dO (bU (aU aS rfl (M.no _ B.aN) aF (pc (pv 0) (pc (bF (v:=.ty "list") rfl (M.no _ B.fB) dR rfl) aj))))) (au (aL fJ)) aR)
   (aq (eZ PassesOwn.never rfl (bD (pv 0)) (aV (i:=1) iX.nd rfl (Or.inl rfl))
   (au (bw (dO (bU (aW rW (hr.mono (by decide)) rfl (pc (pv 1) aj)))) (au (aL fJ)) aR)))
   (au (aL fJ)))),?_⟩
  have no:∀{A:Prop},(!true)=true->A:=λh=>nomatch h
  refine⟨_,rfl,_,_,_,true,rfl,.lst hl,rfl,true,rfl,aO no λ_=>?_⟩
  refine⟨_,rfl,l,rfl,⟨_,br.of hl⟩,?_⟩
  refine eS (K:=K) (a:=l) (xs:=zs) (λi σ H'=>(∃v,σ=[some (.ref l),v])/\aA H H') ⟨⟨none,rfl⟩,aA.refl _⟩ (λi σ H' _ ⟨_,sm⟩=>br.of (sm _ _ hl)) ?_ ?_
  ·rintro i y σ H' hi ⟨⟨v,rfl⟩,sm⟩
   obtain⟨z,b,_,rfl,hb⟩:=la.get hi
   exact⟨_,rfl,b,z,rfl,sm _ _ hb,λH2 s2=>⟨_,rfl,aO no λ_=>⟨⟨_,rfl⟩,sm.trans s2⟩⟩⟩
  ·rintro σ H' ⟨⟨v,rfl⟩,sm⟩
   exact k _ sm
end
theorem OQ{G:Prop}{α:Sort _}{P:α->Prop}(R:α)(h1:P R->G)(h2:P R):G:=h1 h2
theorem zI{xs:List V}{i:Int}(h0:0<=i)(h1:i<xs.length):∃x,yr xs i=some x/\x∈xs:=by
 have hl:i.toNat<xs.length:=by lia
 refine⟨xs[i.toNat],?_,List.getElem_mem hl⟩
 have:=fR (xs:=xs) (j:=i.toNat) (v:=xs[i.toNat]) (List.getElem?_eq_getElem hl)
 rwa [Int.toNat_of_nonneg h0]at this
theorem mod2(a b c:Int)(h:0<c):0<=a%b%c/\a%b%c<c:=⟨Int.emod_nonneg _ LI,Int.emod_lt_of_pos _ h⟩
def lens(w:Int):List Int:=[1,2,5,10,12,7,1000000,4*1000000000000000000000000,w]
def wg(w:Int):List Int:=[1,5,2,5,4,3,300000,1000000000000000000000000]++[1+w/3]
def we(w:Int):List Int:=[1,1,5,3,6,8,1000000,5*1000000000000000000000000]++[2*w]
theorem nine(j:Nat)(h:j<9):j=0\/j=1\/j=2\/j=3\/j=4\/j=5\/j=6\/j=7\/j=8:=by lia
theorem MT{w:Int}(h1:1<=w)(h2:w<=10^30){j:Nat}(h:j<9):1<=(lens w).getD j 0/\(lens w).getD j 0<=10^30:=by
 rcases nine j h with rfl|rfl|rfl|rfl|rfl|rfl|rfl|rfl|rfl<;>simp[lens]<;>lia
theorem Ie{w:Int}(h1:1<=w)(h2:w<=10^30){j:Nat}(h:j<9):1<=(wg w).getD j 0/\(wg w).getD j 0<=10^31/\(lens w).getD j 0<=100*(wg w).getD j 0:=by
 rcases nine j h with rfl|rfl|rfl|rfl|rfl|rfl|rfl|rfl|rfl<;>simp[lens,wg]<;>lia
theorem Ic{w:Int}(h1:1<=w)(h2:w<=10^30){j:Nat}(h:j<9):1<=(we w).getD j 0/\(we w).getD j 0<=10^31/\(lens w).getD j 0<=100*(we w).getD j 0:=by
 rcases nine j h with rfl|rfl|rfl|rfl|rfl|rfl|rfl|rfl|rfl<;>simp[lens,we]<;>lia
theorem SS{w:Int}(h1:0<=w){j:Nat}(h:j<7):0<=([0,1,3,10,1000,6,w]:List Int).getD j 0:=by
 rcases nine j LI with rfl|rfl|rfl|rfl|rfl|rfl|rfl|rfl|rfl<;>simp<;>lia
theorem JM{pl:Pl}(ok:pl.ok)(h:0<=cB pl):bad pl=false:=by
 obtain⟨l1,_,s1,_,ls⟩:=ok
 unfold bad
 rw[decide_eq_false LI,decide_eq_false LI,decide_eq_false LI,decide_eq_false LI]
 rfl
inductive wC(vs:List V)(H:Hp)(Q:VK):Prop
 |mk(a b:Int):(vs=[.int a,.int b])->(∀(p:Addr)(pl:Pl)(H':Hp),aA H H'->H p=none->H' p=some (.tup pl.row)->pl.ok->bad pl=false->Q (.ref p) H')->wC vs H Q
def Am:Sp:=λvs H Q d_=>wC vs H Q
inductive Ar(vs:List V)(H:Hp)(Q:VK):Prop
 |mk(z:Str)(b:Int):(vs=[.str z,.int b])->(z.length<=1000)->(∀z':Str,Q (.str z') H)->Ar vs H Q
def En:Sp:=λvs H Q d_=>Ar vs H Q
inductive AE(vs:List V)(H:Hp)(Q:VK):Prop
 |mk(c:Int):(vs=[.int c])->(∀(b:Int)(H':Hp),aA H H'->-(10^40)<=b->b<=10^40->Q (.int b) H')->AE vs H Q
def Ex:Sp:=λvs H Q d_=>AE vs H Q
inductive AB(vs:List V)(H:Hp)(Q:VK):Prop
 |mk(c:Int)(i:Nat)(b:Int):(vs=[.int c,.int i,.int b])->(i<=1000)->(-(10^40)<=b)->(b<=10^40)->(∀(p:Addr)(n:Str)(t a:Int)(H':Hp),aA H H'->H' p=some (.tup (bf.ev n t a).v)->(bf.ev n t a).ok->Q (.ref p) H')->AB vs H Q
def Eu:Sp:=λvs H Q d_=>AB vs H Q
inductive wL(K:Fg7)(vs:List V)(H:Hp)(Q:VK):Prop
 |mk(l:Addr)(ns:List Int)(b:Int):(vs=[.ref l,.int b])->(br K H l (ns.map V.int))->(ns.length<=1000)->(-(10^40)<=b)->(b<=10^40)->(∀(r:Addr)(ys:List V)(aQ:List bf)(H':Hp),aA H H'->H r=none->H' r=some (.lst ys)->aC bf.v H' ys aQ->aQ.length=ns.length->(∀dd∈aQ,dd.ok)->Q (.ref r) H')->wL K vs H Q
def AD(K:Fg7):Sp:=λvs H Q d_=>wL K vs H Q
theorem Tz(dd:bf):∃(tg:Str) (l:List V),dd.v=.str tg::l:=by cases dd<;>exact⟨_,_,rfl⟩
theorem e40:(10:Int)^40=10000000000000000000000000000000000000000:=by decide
theorem UZ:(10:Int)^45=1000000000000000000000000000000000000000000000:=by decide
section
variable {P:Program} {w:World} {K:Fg7} {mg:Str->Option Value}
theorem Jv(D:aJ K "_law_plan_of" dh)(M:MG K mg):ef P w K mg "_law_plan_of" ["_law_one","_law_two"] 1 Am:=by
 refine D.fn M bR qg (λvs H Q E h=>?_) (λf base cdv A outer s H vs Q E hr h=>?_)
 ·obtain⟨a,b,rfl,_⟩:=h
  rfl
 ·obtain⟨a,b,rfl,k⟩:=h
  refine⟨_,(aq (cW (i:=2) bR.nd rfl (Or.inl rfl) (aD oMod (aD oMod (aD gg (pv 0) ah) ah) ah))
   (aq (cW (i:=3) bR.nd rfl (Or.inl rfl) ah)
   (aq (cW (i:=4) bR.nd rfl (Or.inl rfl) (aD jA ah (aD oMod (pv 0) (aD gg ah (pv 3)))))
   (aq (cW (i:=5) bR.nd rfl (Or.inl rfl) (aH cj (cL (pc ah (pc ah (pc ah (pc ah (pc ah (pc ah (pc ah (pc (aD gg ah (pv 3)) (pc (pv 4) aj)))))))))) (pv 2) (λ_ _=>rfl)))
   (aq (cW (i:=6) bR.nd rfl (Or.inl rfl) (aH cj (cL (pc ah (pc ah (pc ah (pc ah (pc ah (pc ah (pc (aD oMod (pv 1) (aD gg ah (pv 3))) aj)))))))) (aD oMod (aD oMod (aD gg (pv 1) ah) ah) ah) (λ_ _=>rfl)))
   (aq (bw (aK dF (aD oMod (aD oMod (aD gg (pv 0) ah) ah) ah) ah (aM _)) (au (aL (cK (pc cA (pc (pv 5) (pc (pv 6) aj)))))) aR)
   (aq (bw (aK dF (aD oMod (aD oMod (aD gg (pv 0) ah) ah) ah) ah (aM _)) (aq (cW (i:=7) bR.nd rfl (Or.inl rfl) (cL (pc (cL (pc ah (pc ah (pc ah (pc ah (pc ah (pc ah (pc ah (pc (pv 3) aj))))))))) (pc (cL (pc ah (pc ah (pc ah (pc ah (pc ah (pc ah (pc ah (pc (aD gg ah (pv 3)) aj))))))))) aj))))
   (aq (cW (i:=7) bR.nd rfl (Or.inl rfl) (cL (pc (aD uV (aH cj (pv 7) ah (λ_ _=>rfl)) (cL (pc (aD jA ah (aD AY (pv 4) ah)) aj))) (pc (aD uV (aH cj (pv 7) ah (λ_ _=>rfl)) (cL (pc (aD gg ah (pv 4)) aj))) aj))))
   (au (aL (cK (pc cA (pc (pv 5) (pc (aH cj (aH cj (pv 7) (aD oMod (aD oMod (aD gg (pv 1) ah) ah) ah) (λ_ _=>rfl)) (pv 2) (λ_ _=>rfl)) (pc (pv 6) aj))))))))) aR)
   (au (aL (cK (pc cA (pc (pv 5) (pc (pv 6) aj))))))))))))),?_⟩
  refine⟨_,rfl,_,_,rfl,rfl,.inr ⟨by decide,by decide⟩,_,_,rfl,rfl,(by show(0:Int)<_;decide),_,_,rfl,rfl,(by show(0:Int)<_;decide),?_⟩
  refine⟨_,rfl,_,rfl,_,_,rfl,rfl,.inl ⟨by decide,by decide⟩,_,_,rfl,rfl,(by show(0:Int)<_;decide),_,_,rfl,rfl,?_⟩
  generalize yp:a*48271%1009%9=sp
  have KA:=jM (a*48271%1009) 9 (by decide)
  rw[yp]at KA
  have hsl:sp.toNat<9:=by lia
  have w0:=jM a (1000000*1000000000000000000000000) (by decide)
  generalize hw:1+a%(1000000*1000000000000000000000000)=wd
  have w1:1<=wd:=by lia
  have w2:wd<=10^30:=by lia
  clear hw w0 yp
  refine⟨_,rfl,_,_,rfl,rfl,.inl ⟨by decide,by decide⟩,_,rfl,(by show 9<=sizeLine;decide),λl1 e1=>?_⟩
  refine⟨_,rfl,l1,(lens wd).map V.int,sp,_,rfl,rfl,br.of af,oY (lens wd) KA.1 (by show sp<9;lia),?_⟩
  have hL:=MT w1 w2 hsl
  generalize hlen:(lens wd).getD sp.toNat 0=L at *
  have s1:=aA.new (o:=.lst ((lens wd).map V.int)) e1
  refine⟨_,rfl,_,rfl,_,_,rfl,rfl,.inl ⟨by decide,by decide⟩,_,_,rfl,rfl,(by show(0:Int)<_;decide),(by show 7<=sizeLine;decide),λl2 e2=>?_⟩
  refine⟨_,rfl,_,_,rfl,rfl,.inr ⟨by decide,by decide⟩,_,_,rfl,rfl,(by show(0:Int)<_;decide),_,_,rfl,rfl,(by show(0:Int)<_;decide),?_⟩
  have g1:=jM (b*48271%1013) 7 (by decide)
  refine⟨l2,[0,1,3,10,1000,6,b%(1000000*1000000000000000000000000)].map V.int,_,_,rfl,rfl,br.of af,oY _ g1.1 (by show _<7;lia),?_⟩
  have hg:0<=([0,1,3,10,1000,6,b%(1000000*1000000000000000000000000)]:List Int).getD (b*48271%1013%7).toNat 0:=SS (jM b _ (by decide)).1 LI
  generalize ([0,1,3,10,1000,6,b%(1000000*1000000000000000000000000)]:List Int).getD (b*48271%1013%7).toNat 0=g at *
  have s2:=aA.new (o:=.lst (([0,1,3,10,1000,6,b%(1000000*1000000000000000000000000)]:List Int).map V.int)) e2
  have Qu:=s1.trans s2
  have fin:∀(p:Addr)(pl:Pl)(H':Hp),aA H H'->H p=none->H' p=some (.tup pl.row)->pl.len=L->cB pl=g->1<=pl.stp->pl.stp<=10^31->L<=100*pl.stp->Q (.ref p) H':=λp pl H' q1 q2 q3 q4 q5 q6 q7 q8=>by
   have ok:pl.ok:=⟨by lia,by lia,q6,by lia,by lia⟩
   exact k p pl H' q1 q2 q3 ok (JM ok LI)
  refine⟨_,rfl,_,_,rfl,rfl,.inr ⟨by decide,by decide⟩,_,_,rfl,rfl,(by show(0:Int)<_;decide),_,_,rfl,rfl,(by show(0:Int)<_;decide),rfl,_,rfl,?_⟩
  refine aO (λ_=>?_) (λ_=>?_)
  ·refine⟨_,rfl,_,rfl,(by show 3<=sizeLine;decide),λp hp=>?_⟩
   exact fin p (.fixed L g) _ (Qu.trans (aA.new hp)) (Qu.free hp) af rfl rfl hL.1 (by show L<=_;lia) (by show L<=100*L;lia)
  refine⟨_,rfl,_,_,rfl,rfl,.inr ⟨by decide,by decide⟩,_,_,rfl,rfl,(by show(0:Int)<_;decide),_,_,rfl,rfl,(by show(0:Int)<_;decide),rfl,_,rfl,?_⟩
  refine aO (λ_=>?_) (λ_=>?_)
  ·refine⟨_,rfl,(by show 8<=sizeLine;decide),λl3 e3=>?_⟩
   have s3:=aA.new (o:=.lst (([1,5,2,5,4,3,300000,1000000000000000000000000]:List Int).map V.int)) e3
   refine⟨_,rfl,_,_,rfl,rfl,.inl ⟨by decide,by decide⟩,(by show 8<=sizeLine;decide),λl4 e4=>?_⟩
   have s4:=aA.new (o:=.lst (([1,1,5,3,6,8,1000000,5*1000000000000000000000000]:List Int).map V.int)) e4
   refine⟨(by show 2<=sizeLine;decide),λl5 e5=>?_⟩
   have s5:=aA.new (o:=.lst [.ref l3,.ref l4]) e5
   have a3:=s5 _ _ (s4 _ _ (af (o:=.lst (([1,5,2,5,4,3,300000,1000000000000000000000000]:List Int).map V.int))))
   have a4:=s5 _ _ (af (o:=.lst (([1,1,5,3,6,8,1000000,5*1000000000000000000000000]:List Int).map V.int)))
   have Uu:=Qu.trans (s3.trans (s4.trans s5))
   refine⟨_,rfl,l5,_,0,_,rfl,rfl,br.of af,rfl,_,rfl,_,_,rfl,rfl,⟨by decide,by decide,by decide⟩,_,_,rfl,rfl,(by show 1<=sizeLine;decide),λl6 e6=>?_⟩
   have s6:=aA.new (o:=.lst (([1+wd/3]:List Int).map V.int)) e6
   refine⟨l3,l6,_,([1+wd/3]:List Int).map V.int,rfl,rfl,s6 _ _ a3,af,(by show 9<=sizeLine;decide),λl7 e7=>?_⟩
   have s7:=aA.new (o:=.lst ((wg wd).map V.int)) e7
   refine⟨_,rfl,l5,_,1,_,rfl,rfl,br.of (s7 _ _ (s6 _ _ af)),rfl,_,rfl,_,_,rfl,rfl,.inl ⟨by decide,by decide⟩,(by show 1<=sizeLine;decide),λl8 e8=>?_⟩
   have s8:=aA.new (o:=.lst (([2*wd]:List Int).map V.int)) e8
   refine⟨l4,l8,_,([2*wd]:List Int).map V.int,rfl,rfl,s8 _ _ (s7 _ _ (s6 _ _ a4)),af,(by show 9<=sizeLine;decide),λl9 e9=>?_⟩
   have s9:=aA.new (o:=.lst ((we wd).map V.int)) e9
   refine⟨(by show 2<=sizeLine;decide),λZE e10=>?_⟩
   have yP:=aA.new (o:=.lst [.ref l7,.ref l9]) e10
   have a7:=yP _ _ (s9 _ _ (s8 _ _ (af (a:=l7) (o:=.lst ((wg wd).map V.int)))))
   have a9:=yP _ _ (af (a:=l9) (o:=.lst ((we wd).map V.int)))
   have Il:=Uu.trans (s6.trans (s7.trans (s8.trans (s9.trans yP))))
   have c1:=jM (b*48271%1021) 2 (by decide)
   refine⟨_,rfl,_,rfl,_,rfl,_,_,rfl,rfl,.inr ⟨by decide,by decide⟩,_,_,rfl,rfl,(by show(0:Int)<_;decide),_,_,rfl,rfl,(by show(0:Int)<_;decide),?_⟩
   have two:b*48271%1021%2=0\/b*48271%1021%2=1:=by lia
   rcases two with e|e
   ·refine⟨ZE,[.ref l7,.ref l9],_,.ref l7,rfl,rfl,br.of af,by rw[e];rfl,_,rfl,l7,_,sp,_,rfl,rfl,br.of a7,oY (wg wd) KA.1 (by show sp<9;lia),_,rfl,(by show 4<=sizeLine;decide),λp hp=>?_⟩
    have hs:=Ie w1 w2 hsl
    rw[hlen]at hs
    exact fin p (.sliding L ((wg wd).getD sp.toNat 0) g) _ (Il.trans (aA.new hp)) (Il.free hp) af rfl rfl hs.1 hs.2.1 hs.2.2
   ·refine⟨ZE,[.ref l7,.ref l9],_,.ref l9,rfl,rfl,br.of af,by rw[e];rfl,_,rfl,l9,_,sp,_,rfl,rfl,br.of a9,oY (we wd) KA.1 (by show sp<9;lia),_,rfl,(by show 4<=sizeLine;decide),λp hp=>?_⟩
    have hs:=Ic w1 w2 hsl
    rw[hlen]at hs
    exact fin p (.sliding L ((we wd).getD sp.toNat 0) g) _ (Il.trans (aA.new hp)) (Il.free hp) af rfl rfl hs.1 hs.2.1 hs.2.2
  ·refine⟨_,rfl,_,rfl,(by show 3<=sizeLine;decide),λp hp=>?_⟩
   exact fin p (.pauses L g) _ (Qu.trans (aA.new hp)) (Qu.free hp) af rfl rfl hL.1 (by show L<=_;lia) (by show L<=100*L;lia)
theorem NX(D:aJ K "_law_long" eW)(M:MG K mg):ef P w K mg "_law_long" ["_law_sign","_law_base"] 1 En:=by
 refine D.fn M uM vt (λvs H Q E h=>?_) (λf base cdv A outer s H vs Q E hr h=>?_)
 ·obtain⟨z,b,rfl,_⟩:=h
  rfl
 ·obtain⟨z,b,rfl,hz,k⟩:=h
  refine⟨_,(au (aL (aD qR (aD qR (aD AX cA (aD oMod (pv 1) ah)) (pv 0)) (aD AX cA (aD qS ah (aD oMod (pv 1) ah)))))),?_⟩
  have m1:=jM b 41 (by decide)
  have sl:=sizeLine_eq
  refine⟨_,rfl,_,_,rfl,rfl,(by show(0:Int)<_;decide),"b",_,rfl,rfl,m1.1,by lia,DK,DK,λz1 h1=>?_⟩
  refine⟨_,rfl,z1,z,rfl,rfl,by lia,_,rfl,_,_,rfl,rfl,(by show(0:Int)<_;decide),_,_,rfl,rfl,"b",_,rfl,rfl,by lia,by lia,DK,DK,λz2 h2=>?_⟩
  have e:(z1++z).length=z1.length+z.length:=Array.size_append ..
  exact⟨z1++z,z2,rfl,rfl,by lia,k _⟩
theorem Oe(D:aJ K "_law_base_of" dj)(M:MG K mg):ef P w K mg "_law_base_of" ["_law_cell"] 1 Ex:=by
 refine D.fn M jz qi (λvs H Q E h=>?_) (λf base cdv A outer s H vs Q E hr h=>?_)
 ·obtain⟨c,rfl,_⟩:=h
  rfl
 ·obtain⟨c,rfl,k⟩:=h
  refine⟨_,(aq (cW (i:=1) jz.nd rfl (Or.inl rfl) ah)
   (au (aL (aH cj (cL (pc ah (pc (mL uA ah) (pc ah (pc (mL uA ah) (pc (pv 1) (pc (aD qS ah (pv 1)) aj))))))) (aD oMod (aD oMod (aD gg (pv 0) ah) ah) ah) (λ_ _=>rfl))))),?_⟩
  refine⟨7,rfl,1000000,rfl,_,rfl,_,rfl,_,_,rfl,rfl,(by show 6<=sizeLine;decide),λp hp=>⟨_,rfl,_,_,rfl,rfl,.inr ⟨by decide,by decide⟩,_,_,rfl,rfl,(by show(0:Int)<_;decide),_,_,rfl,rfl,(by show(0:Int)<_;decide),?_⟩⟩
  have m1:=mod2 (c*48271) 1087 6 (by decide)
  obtain⟨bv,ab,mb⟩:=zI (xs:=[V.int 0,V.int (-7),V.int 1000000000000,V.int (-1000000),V.int 10000000000000000000000000000000000000000,V.int (0-10000000000000000000000000000000000000000)]) (i:=c*48271%1087%6) m1.1 m1.2
  obtain⟨b,rfl,hb1,hb2⟩:∃b:Int,bv=.int b/\-(10^40)<=b/\b<=10^40:=by
   simp only[List.mem_cons,List.not_mem_nil,or_false]at mb
   rcases mb with rfl|rfl|rfl|rfl|rfl|rfl<;>exact⟨_,rfl,by decide,by decide⟩
  exact⟨p,_,_,_,rfl,rfl,br.of af,ab,k b _ (aA.new hp) hb1 hb2⟩
theorem Od(D:aJ K "_law_event_of" cP)(M:MG K mg)(pX:ef P w K mg "_law_long" ["_law_sign","_law_base"] 1 En):ef P w K mg "_law_event_of" ["_law_cell","_law_k","_law_base"] 2 Eu:=by
 refine D.fn M b_ oV (λvs H Q E h=>?_) (λf base cdv A outer s H vs Q E hr h=>?_)
 ·obtain⟨c,i,b,rfl,_⟩:=h
  rfl
 ·obtain⟨c,i,b,rfl,hi,hb1,hb2,k⟩:=h
  refine⟨_,(aq (cW (i:=3) b_.nd rfl (Or.inl rfl) (aH cj (cL (pc cA (pc cA aj))) (aD oMod (aD oMod (aD gg (pv 0) ah) ah) ah) (λ_ _=>rfl)))
   (gX (bw (aK dF (aD oMod (aD oMod (aD gg (pv 0) ah) ah) ah) ah (aM _)) (au (cW (i:=3) b_.nd rfl (Or.inl rfl) (aH cj (cL (pc (aW pX (hr.mono (by decide)) rfl (pc cA (pc (pv 2) aj))) (pc cA (pc cA (pc (aW pX (hr.mono (by decide)) rfl (pc cA (pc (pv 2) aj))) aj))))) (aD oMod (aD oMod (aD gg (pv 0) ah) ah) ah) (λ_ _=>rfl)))) aR)
   (aq (cW (i:=4) b_.nd rfl (Or.inl rfl) (aD qS (aD jA (aD jA (pv 2) (aD gg ah (pv 1))) (aD oMod (aD oMod (aD gg (pv 0) ah) ah) ah)) ah))
   (gX (bw (aK dF (aD oMod (aD oMod (aD gg (pv 0) ah) ah) ah) ah (aM _)) (au (cW (i:=4) b_.nd rfl (Or.inl rfl) (aD jA (pv 4) (aD oMod (pv 0) ah)))) aR)
   (aq (cW (i:=5) b_.nd rfl (Or.inl rfl) (aD qS (aD oMod (aD oMod (aD gg (pv 0) ah) ah) ah) ah))
   (gX (bw (aK dF (aD oMod (aD oMod (aD gg (pv 0) ah) ah) ah) ah (aM _)) (au (cW (i:=5) b_.nd rfl (Or.inl rfl) (aD gg (pv 5) ah))) aR)
   (au (aL (cK (pc cA (pc (pv 3) (pc (pv 4) (pc (pv 5) aj))))))))))))),?_⟩
  rw[e40]at hb1 hb2
  refine⟨(by show 2<=sizeLine;decide),λp1 hp1=>⟨_,rfl,_,_,rfl,rfl,.inr ⟨by decide,by decide⟩,_,_,rfl,rfl,(by show(0:Int)<_;decide),_,_,rfl,rfl,(by show(0:Int)<_;decide),?_⟩⟩
  have m1:=mod2 (c*48271) 1031 2 (by decide)
  obtain⟨nv,an,mn⟩:=zI (xs:=[V.str "a",V.str "ab"]) (i:=c*48271%1031%2) m1.1 m1.2
  obtain⟨n0,rfl⟩:∃n:Str,nv=.str n:=by
   simp only[List.mem_cons,List.not_mem_nil,or_false]at mn
   rcases mn with rfl|rfl<;>exact⟨_,rfl⟩
  refine⟨p1,_,_,_,rfl,rfl,br.of af,an,?_⟩
  have s1:=aA.new (o:=.lst [V.str "a",V.str "ab"]) hp1
  generalize upd H p1 (.lst [V.str "a",V.str "ab"])=H1 at *
  refine⟨λσ' H'=>∃n:Str,σ'=[some (.int c),some (.int i),some (.int b),some (.str n),none,none]/\aA H H',⟨_,rfl,_,_,rfl,rfl,.inr ⟨by decide,by decide⟩,_,_,rfl,rfl,(by show(0:Int)<_;decide),_,_,rfl,rfl,(by show(0:Int)<_;decide),rfl,_,rfl,aO (λ_=>?_) (λ_=>⟨n0,rfl,s1⟩)⟩,?_⟩
  ·refine⟨_,rfl,"a",b,rfl,DK,λz1=>⟨_,rfl,"c",b,rfl,DK,λz2=>⟨(by show 4<=sizeLine;decide),λp2 hp2=>⟨_,rfl,_,_,rfl,rfl,.inr ⟨by decide,by decide⟩,_,_,rfl,rfl,(by show(0:Int)<_;decide),_,_,rfl,rfl,(by show(0:Int)<_;decide),?_⟩⟩⟩⟩
   have m2:=mod2 (c*48271) 1097 4 (by decide)
   obtain⟨nv,an,mn⟩:=zI (xs:=[V.str z1,V.str "",V.str "A b",V.str z2]) (i:=c*48271%1097%4) m2.1 m2.2
   obtain⟨n1,rfl⟩:∃n:Str,nv=.str n:=by
    simp only[List.mem_cons,List.not_mem_nil,or_false]at mn
    rcases mn with rfl|rfl|rfl|rfl<;>exact⟨_,rfl⟩
   exact⟨p2,_,_,_,rfl,rfl,br.of af,an,n1,rfl,s1.trans (aA.new hp2)⟩
  rintro σ' H2 ⟨n,rfl,s2⟩
  refine⟨_,rfl,_,rfl,_,_,rfl,rfl,.inl ⟨by decide,by decide⟩,_,_,rfl,rfl,_,rfl,_,_,rfl,rfl,.inr ⟨by decide,by decide⟩,_,_,rfl,rfl,(by show(0:Int)<_;decide),_,_,rfl,rfl,(by show(0:Int)<_;decide),_,_,rfl,rfl,_,_,rfl,rfl,?_⟩
  have m3:=mod2 (c*48271) 1051 25 (by decide)
  obtain⟨t0,et,b1,b2⟩:∃t0,b+2*(i:Int)+c*48271%1051%25-12=t0/\-100000000000000000000000000000000000000000<=t0/\t0<=100000000000000000000000000000000000000000:=⟨_,rfl,by lia,by lia⟩
  rw[et]
  clear et m3 hb1 hb2
  refine⟨λσ' H'=>∃t:Int,σ'=[some (.int c),some (.int i),some (.int b),some (.str n),some (.int t),none]/\aA H H'/\-(10^45)<t/\t<10^45,⟨_,rfl,_,_,rfl,rfl,.inr ⟨by decide,by decide⟩,_,_,rfl,rfl,(by show(0:Int)<_;decide),_,_,rfl,rfl,(by show(0:Int)<_;decide),rfl,_,rfl,aO (λ_=>?_) (λ_=>⟨t0,rfl,s2,by rw[UZ];lia,by rw[UZ];lia⟩)⟩,?_⟩
  ·refine⟨_,rfl,_,rfl,_,_,rfl,rfl,(by show(0:Int)<_;decide),_,_,rfl,rfl,t0+c%1000000000000000000000000000000,rfl,s2,?_,?_⟩
   ·have:=jM c 1000000000000000000000000000000 (by decide)
    rw[UZ];lia
   ·have:=jM c 1000000000000000000000000000000 (by decide)
    rw[UZ];lia
  rintro σ' H3 ⟨t,rfl,s3,ht1,UM⟩
  refine⟨_,rfl,_,_,rfl,rfl,.inr ⟨by decide,by decide⟩,_,_,rfl,rfl,(by show(0:Int)<_;decide),_,_,rfl,rfl,(by show(0:Int)<_;decide),_,_,rfl,rfl,?_⟩
  have m4:=mod2 (c*48271) 1039 41 (by decide)
  obtain⟨a0,ea,b3,b4⟩:∃a0,c*48271%1039%41-20=a0/\-20<=a0/\a0<=20:=⟨_,rfl,by lia,by lia⟩
  rw[ea]
  clear ea m4
  refine⟨λσ' H'=>∃a:Int,σ'=[some (.int c),some (.int i),some (.int b),some (.str n),some (.int t),some (.int a)]/\aA H H',⟨_,rfl,_,_,rfl,rfl,.inr ⟨by decide,by decide⟩,_,_,rfl,rfl,(by show(0:Int)<_;decide),_,_,rfl,rfl,(by show(0:Int)<_;decide),rfl,_,rfl,aO (λ_=>?_) (λ_=>⟨a0,rfl,s3⟩)⟩,?_⟩
  ·exact⟨_,rfl,_,_,rfl,rfl,.inl ⟨by lia,by lia⟩,_,rfl,s3⟩
  rintro σ' H4 ⟨a,rfl,s4⟩
  refine⟨_,rfl,_,rfl,_,rfl,(by show 4<=sizeLine;decide),λp hp=>?_⟩
  exact k p n t a _ (s4.trans (aA.new hp)) af ⟨ht1,UM⟩
theorem Jy(D:aJ K "_law_drawn" dY)(M:MG K mg)(B:Bi K)(qm:ef P w K mg "_law_event_of" ["_law_cell","_law_k","_law_base"] 2 Eu):ef P w K mg "_law_drawn" ["_law_cells","_law_base"] 3 (AD K):=by
 refine D.fn M gw sN (λvs H Q E h=>?_) (λf base cdv A outer s H vs Q E hr h=>?_)
 ·obtain⟨l,ns,b,rfl,_⟩:=h
  rfl
 ·obtain⟨l,ns,b,rfl,hl,hn,hb1,hb2,k⟩:=h
  refine⟨_,(aq (cW (i:=2) gw.nd rfl (Or.inl rfl) (cL aj))
   (aq (eZ PassesOwn.never rfl (nT rfl (M.no _ B.nq) (pc (aU aX rfl (M.no _ B.gE) eT (pc (pv 0) aj)) aj)) (aV (i:=3) gw.nd rfl (Or.inl rfl))
   (aq (cW (i:=4) gw.nd rfl (Or.inl rfl) (aD jA (aH cj (pv 0) (pv 3) (λ_ _=>rfl)) (aD gg ah (pv 3))))
   (au (bw (PW.pt (iY (aK dF (aD oMod (aD oMod (aD gg (pv 4) ah) ah) ah) ah (aM _)) (iO (aK dF (aD oMod (aD oMod (aD gg (pv 4) ah) ah) ah) ah (aM _))))) (au (gI (jJ PySem.F.plainAttrs_list PySem.F.slot_list_append PySem.F.type_list_append dw (pv 2) (pc (cK (pc cA (pc (aD qS (aD jA (aD jA (pv 1) (aD gg ah (pv 3))) (aD oMod (aD oMod (aD gg (pv 4) ah) ah) ah)) ah) aj))) aj)))) (au (bw (PW.pt (jk (aK dF (aD oMod (aD oMod (aD gg (pv 4) ah) ah) ah) ah (aM _)) (jk (aK QJ (aU aX rfl (M.no _ B.gE) eT (pc (pv 2) aj)) ah (aM _)) (jj (aK dF (aH a_ (aH cj (pv 2) (mL uA ah) (λ_ _=>rfl)) ah (λ_ _=>rfl)) cA (aM _)))))) (au (gI (jJ PySem.F.plainAttrs_list PySem.F.slot_list_append PySem.F.type_list_append dw (pv 2) (pc (aH cj (pv 2) (mL uA ah) (λ_ _=>rfl)) aj)))) (au (gI (jJ PySem.F.plainAttrs_list PySem.F.slot_list_append PySem.F.type_list_append dw (pv 2) (pc (aW qm (hr.mono (by decide)) rfl (pc (pv 4) (pc (pv 3) (pc (pv 1) aj)))) aj))))))))))
   (au (aL (pv 2))))),?_⟩
  have sl:=sizeLine_eq
  refine⟨(by show 0<=sizeLine;decide),λr hr0=>?_⟩
  have s1:=aA.new (o:=.lst []) hr0
  have hr1:upd H r (.lst []) r=some (.lst []):=af
  generalize upd H r (.lst [])=H1 at *
  refine⟨_,rfl,l,_,rfl,.inl (s1.seq hl),_,rfl,(by rw[List.length_map];lia),(by rw[List.length_map];lia),?_⟩
  rw[Int.toNat_natCast,List.length_map]
  refine jZ (lo:=0) (n:=ns.length) (λi σ H'=>∃(v u:Option V) (ys:List V) (aQ:List bf),σ=[some (.ref l),some (.int b),some (.ref r),v,u]/\aA H H'/\H' r=some (.lst ys)/\aC bf.v H' ys aQ/\aQ.length=i/\∀dd∈aQ,dd.ok) ⟨none,none,[],[],rfl,s1,hr1,.nil,rfl,λ_ h=>nomatch h⟩ ?_ ?_
  ·rintro i σ H' hi ⟨v,u,ys,aQ,rfl,sm,hr',la,ld,od⟩
   rw[Int.zero_add]
   have ly:=la.len
   refine⟨_,rfl,_,rfl,l,_,_,_,rfl,rfl,sm.seq hl,oY ns LI LI,_,rfl,_,_,rfl,rfl,.inl ⟨by decide,by decide⟩,_,_,rfl,rfl,?_⟩
   generalize ns.getD ((i:Int)).toNat 0+11*(i:Int)=c
   have put:∀(H2:Hp)(q:Addr)(dd:bf),aA H' H2->H2 q=some (.tup dd.v)->dd.ok->∃(v u:Option V) (ys':List V) (aQ:List bf),([some (.ref l),some (.int b),some (.ref r),some (.int (i:Int)),some (.int c)]:L2.St)=[some (.ref l),some (.int b),some (.ref r),v,u]/\aA H (upd H2 r (.lst (ys++[.ref q])))/\upd H2 r (.lst (ys++[.ref q])) r=some (.lst ys')/\aC bf.v (upd H2 r (.lst (ys++[.ref q]))) ys' aQ/\aQ.length=i+1/\∀dd∈aQ,dd.ok:=λH2 q dd Dw hq ok=>by
    have up:∀a row,H2 a=some (.tup row)->upd H2 r (.lst (ys++[.ref q])) a=some (.tup row):=λa row e=>by rw[ai (aT e (Dw _ _ hr') (by intro z;cases z))];exact e
    refine⟨_,_,ys++[.ref q],aQ++[dd],rfl,λa o e=>?_,af,((la.keep λa row e=>Dw _ _ e).keep up).snoc (up _ _ hq),?_,?_⟩
    ·rw[ai (av e hr0)]
     exact Dw _ _ (sm _ _ e)
    ·rw[List.length_append,ld];rfl
    ·intro x hx
     rcases List.mem_append.mp hx with hx|hx
     ·exact od x hx
     ·rw[List.mem_singleton.mp hx];exact ok
   refine' OQ (P:=λR:Prop=>R) _ (λmark=>?main) ?mark
   case main=>
    refine⟨_,rfl,_,_,rfl,rfl,.inr ⟨by decide,by decide⟩,_,_,rfl,rfl,(by show(0:Int)<_;decide),_,_,rfl,rfl,(by show(0:Int)<_;decide),rfl,_,rfl,aO (λ_=>?_) (λ_=>⟨_,rfl,_,_,rfl,rfl,.inr ⟨by decide,by decide⟩,_,_,rfl,rfl,(by show(0:Int)<_;decide),_,_,rfl,rfl,(by show(0:Int)<_;decide),rfl,_,rfl,aO (λ_=>?_) (λ_=>?_)⟩)⟩
    exact mark
    exact mark
    refine' OQ (P:=λR:Prop=>R) _ (λTt=>?main) ?Tt
    case main=>
     refine⟨_,rfl,_,_,rfl,rfl,.inr ⟨by decide,by decide⟩,_,_,rfl,rfl,(by show(0:Int)<_;decide),_,_,rfl,rfl,(by show(0:Int)<_;decide),rfl,_,rfl,aO (λ_=>?_) (λ_=>?_)⟩
     rotate_left
     ·exact Tt
     refine⟨_,rfl,r,_,rfl,.inl (br.of hr'),_,_,rfl,rfl,_,rfl,aO (λhg=>?_) (λ_=>Tt)⟩
     have hg':(0:Int)<(ys.length:Int):=of_decide_eq_true hg
     obtain⟨Vl,y,rfl⟩:∃Vl y,ys=Vl++[y]:=by
      rcases List.eq_nil_or_concat ys with rfl|⟨a,b,e⟩
      ·exact absurd hg' (by decide)
      ·exact⟨a,b,by rw[e,List.concat_eq_append]⟩
     obtain⟨dd,q,ed,rfl,hq⟩:=la.get (i:=Vl.length) (x:=y) (by simp)
     obtain⟨tg,tl,ev⟩:=Tz dd
     refine⟨_,rfl,1,rfl,r,_,-1,.ref q,rfl,rfl,br.of hr',nu _ _,q,_,0,.str tg,rfl,rfl,bu.of hq,by rw[ev];exact zJ,rfl,_,rfl,aO (λ_=>?_) (λ_=>Tt)⟩
     exact⟨_,rfl,.inl ⟨rfl,_,br.of hr'⟩,_,rfl,1,rfl,r,_,-1,.ref q,rfl,rfl,br.of hr',nu _ _,r,_,.ref q,rfl,rfl,hr',by lia,put H' q dd (aA.refl _) hq (od dd (List.mem_of_getElem? ed))⟩
    case Tt=>
     exact⟨_,rfl,.inl ⟨rfl,_,br.of hr'⟩,_,rfl,_,rfl,_,rfl,c,i,b,rfl,by lia,hb1,hb2,λp n t a H2 Dw hp ok=>⟨r,_,.ref p,rfl,rfl,Dw _ _ hr',by lia,put H2 p (.ev n t a) Dw hp ok⟩⟩
   case mark=>
    refine⟨_,rfl,.inl ⟨rfl,_,br.of hr'⟩,_,rfl,_,rfl,_,_,rfl,rfl,.inl ⟨by decide,by decide⟩,_,_,rfl,rfl,_,rfl,_,_,rfl,rfl,.inr ⟨by decide,by decide⟩,_,_,rfl,rfl,(by show(0:Int)<_;decide),_,_,rfl,rfl,(by show(0:Int)<_;decide),_,_,rfl,rfl,_,_,rfl,rfl,(by show 2<=sizeLine;decide),λq hq=>?_⟩
    exact⟨r,_,.ref q,rfl,rfl,(aA.new hq) _ _ hr',by lia,put _ q (.mk _) (aA.new hq) af trivial⟩
  ·rintro σ H' ⟨v,u,ys,aQ,rfl,sm,hr',la,ld,od⟩
   exact⟨_,rfl,k r ys aQ H' sm hr0 hr' la ld od⟩
end
def OY(p:Int×Int):List V:=[.int p.1,.int p.2]
inductive tL(vs:List V)(H:Hp)(Q:VK):Prop
 |mk(a:Addr)(ts:List Int)(L:Int):(vs=[.ref a,.int L])->(H a=some (.lst (ts.map V.int)))->(ts.length<=1000)->(∀(r:Addr)(ys:List V)(ps:List Int)(H':Hp),aA H H'->H r=none->H' r=some (.lst ys)->ps.Perm ts->ps.Pairwise (· <=·)->aC OY H' ys ((ps.foldl (fj L) []).map λp=>(p.1,p.2+L))->Q (.ref r) H')->tL vs H Q
def wD(K:Fg7):Sp:=λvs H Q d_=>tL vs H Q
theorem xH{K:Fg7}{H:Hp}:∀(ts:List Int),gz K H (ts.map V.int) (ts.map Dv.int)
 |[]=>.nil
 |t::ts=>.cons (.int t) (xH ts)
theorem JD{a b:Int}(h:aY (.int a) (.int b)≠.gt):a<=b:=by
 have e:aY (.int a) (.int b)=if a=b then .eq else if a<b then .lt else .gt:=by rw[aY]
 rw[e]at h
 by_cases h1:a=b
 ·lia
 ·rw[if_neg h1]at h
  by_cases h2:a<b
  ·lia
  ·rw[if_neg h2]at h
   exact absurd rfl h
theorem sorted_ints{ts:List Int}{ps:List (V×Dv)}(hp:ps.Perm ((ts.map V.int).zip (ts.map Dv.int)))(hs:(ps.map (·.2)).Pairwise (λd e=>aY d e≠.gt)):
  ∃qs:List Int,qs.Perm ts/\qs.Pairwise (· <=·)/\ps.map (·.1)=qs.map V.int:=by
 have e:(ts.map V.int).zip (ts.map Dv.int)=ts.map λt=>(V.int t,Dv.int t):=List.zip_map'
 rw[e]at hp
 have hm:∀p∈ps,∃t:Int,p=(V.int t,Dv.int t):=λp mp=>by
  obtain⟨t,_,rfl⟩:=List.mem_map.mp (hp.mem_iff.mp mp)
  exact⟨t,rfl⟩
 let f:V×Dv->Int:=λp=>match p.2 with
  |.int t=>t
  |_=>0
 have e2:(ts.map λt=>(V.int t,Dv.int t)).map f=ts:=by
  rw[List.map_map]
  exact(List.map_congr_left λt _=>rfl).trans (List.map_id _)
 refine⟨ps.map f,e2▸hp.map f,?_,?_⟩
 ·rw[List.pairwise_map]at hs ⊢
  refine hs.imp_of_mem λ{p q} mp mq h=>?_
  obtain⟨t,rfl⟩:=hm p mp
  obtain⟨u,rfl⟩:=hm q mq
  exact JD h
 ·rw[List.map_map]
  refine List.map_congr_left λp mp=>?_
  obtain⟨t,rfl⟩:=hm p mp
  rfl
theorem nQ{H H':Hp}{r:Addr}(s:aA H H')(h:H' r=none):H r=none:=by
 cases e:H r with
 |none=>rfl
 |some u=>rw[s _ _ e]at h;cases h
theorem rA(L:Int):∀(ts:List Int)(sp:List (Int×Int)),(ts.foldl (fj L) sp).length<=sp.length+ts.length:=by
 intro ts
 induction ts with
 |nil=>intro sp;exact Nat.le_refl _
 |cons t ts ih=>
  intro sp
  have h:=ih (fj L sp t)
  have h2:(fj L sp t).length<=sp.length+1:=by
   unfold fj
   split
   ·split
    ·rw[List.length_append,List.length_dropLast,List.length_singleton];lia
    ·rw[List.length_append,List.length_singleton];lia
   ·rw[List.length_singleton];lia
  rw[List.foldl_cons,List.length_cons]
  lia
theorem MZ{α:Type}{f:α->List V}{H:Hp}{xs:List V}{y:V}{ws:List α}(h:aC f H (xs++[y]) ws):∃BA w a,y=.ref a/\ws=BA++[w]/\aC f H xs BA/\H a=some (.tup (f w)):=by
 induction xs generalizing ws with
 |nil=>
  cases h with
  |cons h1 h2=>
   cases h2
   obtain⟨a,rfl,ha⟩:=h1
   exact⟨[],_,a,rfl,rfl,.nil,ha⟩
 |cons x xs ih=>
  cases h with
  |cons h1 h2=>
   obtain⟨BA,w,a,e1,e2,l,ha⟩:=ih h2
   exact⟨_::BA,w,a,e1,by rw[e2];rfl,.cons h1 l,ha⟩
theorem Gr{xs:List V}{y:V}:Gs (xs++[y]).length (-1)=some xs.length:=by
 unfold Gs
 rw[List.length_append,List.length_singleton,if_neg (by decide),if_pos LI]
 congr 1
 lia
theorem EF{xs:List V}{y z:V}:(xs++[y]).set xs.length z=xs++[z]:=by simp
section
variable {P:Program} {w:World} {K:Fg7} {mg:Str->Option Value}
theorem GJ(D:aJ K "_law_pauses" cV)(M:MG K mg)(B:Bi K):ef P w K mg "_law_pauses" ["_law_times","_law_gap"] 1 (wD K):=by
 refine D.fn M ig rL (λvs H Q E h=>?_) (λf base cdv A outer s H vs Q E hr h=>?_)
 ·obtain⟨a,ts,L,rfl,_⟩:=h
  rfl
 ·obtain⟨a,ts,L,rfl,ha,hl,k⟩:=h
  have hu:(A.deeper (envOfC "_law_pauses" (ao cV) s.heap.objs.size f cdv)).units+64<cLine:=hr.units
  refine⟨_,(aq (cW (i:=2) ig.nd rfl (Or.inl rfl) (cL aj))
   (aq (eZ PassesOwn.never rfl (bD (aU (gQ hu) rfl (M.no _ B.jc) gY (pc (pv 0) aj))) (aV (i:=3) ig.nd rfl (Or.inl rfl))
   (au (bw (PW.pt (jk (aK QJ (aU aX rfl (M.no _ B.gE) eT (pc (pv 2) aj)) ah (aM _)) (jj (aK oLt (aD qS (pv 3) (aH a_ (aH cj (pv 2) (mL uA ah) (λ_ _=>rfl)) ah (λ_ _=>rfl))) (pv 1) (aM _))))) (au (Mu (cK (pc (aH a_ (aH cj (pv 2) (mL uA ah) (λ_ _=>rfl)) ah (λ_ _=>rfl)) (pc (pv 3) aj))) (Mz (pv 2) (mL uA ah) set_list))) (au (gI (jJ PySem.F.plainAttrs_list PySem.F.slot_list_append PySem.F.type_list_append dw (pv 2) (pc (cK (pc (pv 3) (pc (pv 3) aj))) aj)))))))
   (au (aL (eF (NY:=["_law_span","_law_gap"]) (js:=[none,some 1]) rfl rfl (by with_unfolding_all rfl) (by repeat first|exact cD.nil|refine cD.cons rfl ?_) (.own (.out rfl rfl (.inl rfl) .nil)) (bD (pv 2)) (λ_ _ _ _ _=>⟨(aV (i:=0) (show(["_law_span","_law_gap"]:List Str).Nodup from by decide +kernel) rfl (Or.inl rfl)),gP,(cK (pc (aH (bx (K:=K) rfl) (pv 0) ah (λ_ _=>rfl)) (pc (aD jA (aH (bx (K:=K) rfl) (pv 0) ah (λ_ _=>rfl)) (pv 1)) aj)))⟩)))))),?_⟩
  refine⟨(by show 0<=sizeLine;decide),λsl hsl=>?_⟩
  have hsa:upd H sl (.lst []) a=some (.lst (ts.map V.int)):=(aA.new hsl) _ _ ha
  refine⟨_,rfl,a,_,ts.map Dv.int,.int,rfl,br.of hsa,xH ts,λd md=>?_,rfl,by decide,?_,λl ps hl hp hs=>?_⟩
  ·obtain⟨t,_,rfl⟩:=List.mem_map.mp md
   rfl
  ·rw[List.length_map]
   exact⟨by lia,by show _<10000001;lia⟩
  obtain⟨qs,q1,q2,q3⟩:=sorted_ints hp hs
  rw[q3]
  have Uy:l≠sl:=λz=>by rw[z,af]at hl;cases hl
  refine⟨l,rfl,⟨_,br.of af⟩,?_⟩
  refine eS (K:=K) (a:=l) (xs:=qs.map V.int) (λi σ H'=>∃(v:Option V) (xs:List V),σ=[some (.ref a),some (.int L),some (.ref sl),v]/\(∀b u,b≠sl->upd (upd H sl (.lst [])) l (.lst (qs.map V.int)) b=some u->H' b=some u)/\H' sl=some (.lst xs)/\aC OY H' xs ((qs.take i).foldl (fj L) []))
   ⟨none,[],rfl,λ_ _ _ e=>e,by rw[ai Uy.symm];exact af,.nil⟩ (λi σ H' _ ⟨_,_,_,sm,_⟩=>br.of (sm _ _ Uy af)) ?_ ?_
  ·rintro i x σ H' ex ⟨v,xs,rfl,sm,hx,la⟩
   rw[List.getElem?_map]at ex
   obtain⟨t,et,rfl⟩:=Option.map_eq_some_iff.mp ex
   have htk:(qs.take (i+1)).foldl (fj L) []=fj L ((qs.take i).foldl (fj L) []) t:=by rw[List.take_add_one,et];simp
   have hlen:=la.len
   have hfl:=rA L (qs.take i) []
   have hi:i<qs.length:=(List.getElem?_eq_some_iff.mp et).1
   have Xh:=q1.length_eq
   have Dz:=List.length_take_le i qs
   rw[List.length_nil]at hfl
   rw[htk]
   generalize (qs.take i).foldl (fj L) []=sp at *
   have hsz:xs.length<sizeLine:=by rw[hlen,sizeLine_eq];lia
   refine' OQ (P:=λR:Prop=>fj L sp t=sp++[(t,t)]->R) _ (λnew=>?main) ?new
   case main=>
    refine⟨_,rfl,sl,_,rfl,.inl (br.of hx),_,_,rfl,rfl,_,rfl,aO (λhg=>?_) (λhg=>?_)⟩
    rotate_left
    ·refine' new ?_
     have:xs=[]:=by
      cases xs with
      |nil=>rfl
      |cons x xs=>exact absurd (decide_eq_true (show(0:Int)<((x::xs).length:Int) by rw[List.length_cons];lia)) hg
     subst this
     have:sp=[]:=List.eq_nil_of_length_eq_zero hlen.symm
     subst this
     rfl
    have hg':(0:Int)<(xs.length:Int):=of_decide_eq_true hg
    obtain⟨Py,y,rfl⟩:∃Py y,xs=Py++[y]:=by
     rcases List.eq_nil_or_concat xs with rfl|⟨a,b,e⟩
     ·exact absurd hg' (by decide)
     ·exact⟨a,b,by rw[e,List.concat_eq_append]⟩
    obtain⟨KA,p,q,rfl,rfl,la1,hq⟩:=MZ la
    have hst:fj L (KA++[p]) t=if t-p.2<L then KA++[(p.1,t)]else KA++[p]++[(t,t)]:=by
     unfold fj
     rw[List.getLast?_concat]
     dsimp only
     rw[List.dropLast_concat]
    refine⟨_,rfl,_,rfl,1,rfl,sl,_,-1,.ref q,rfl,rfl,br.of hx,nu _ _,q,_,1,.int p.2,rfl,rfl,bu.of hq,JO,_,_,rfl,rfl,_,rfl,_,_,rfl,rfl,_,rfl,aO (λhj=>?_) (λhj=>?_)⟩
    rotate_left
    ·refine' new ?_
     rw[hst,if_neg λz=>hj (decide_eq_true z)]
    rw[hst,if_pos (of_decide_eq_true hj)]
    refine⟨_,rfl,1,rfl,sl,_,-1,.ref q,rfl,rfl,br.of hx,nu _ _,q,_,0,.int p.1,rfl,rfl,bu.of hq,zJ,_,rfl,(by show 2<=sizeLine;decide),λc hc=>⟨_,rfl,1,rfl,?_⟩⟩
    have up:∀b row,H' b=some (.tup row)->upd (upd H' c (.tup [.int p.1,.int t])) sl (.lst (Py++[.ref c])) b=some (.tup row):=λb row e=>by
     rw[ai (aT e hx (by intro z;cases z))]
     exact(aA.new hc) _ _ e
    have Wv:c≠sl:=λz=>by rw[z,hx]at hc;cases hc
    refine⟨sl,_,-1,Py.length,rfl,rfl,(aA.new hc) _ _ hx,Gr,?_⟩
    rw[EF]
    refine⟨_,Py++[.ref c],rfl,λb u nb e=>?_,af,(la1.keep up).snoc (w:=(p.1,t)) (by rw[ai Wv];exact af)⟩
    rw[ai nb]
    exact(aA.new hc) _ _ (sm b u nb e)
   case new=>
    intro hst
    rw[hst]
    refine⟨_,rfl,.inl ⟨rfl,_,br.of hx⟩,_,rfl,_,rfl,(by show 2<=sizeLine;decide),λc hc=>⟨sl,_,.ref c,rfl,rfl,(aA.new hc) _ _ hx,hsz,?_⟩⟩
    have up:∀b row,H' b=some (.tup row)->upd (upd H' c (.tup [.int t,.int t])) sl (.lst (xs++[.ref c])) b=some (.tup row):=λb row e=>by
     rw[ai (aT e hx (by intro z;cases z))]
     exact(aA.new hc) _ _ e
    have Wv:c≠sl:=λz=>by rw[z,hx]at hc;cases hc
    refine⟨_,xs++[.ref c],rfl,λb u nb e=>?_,af,(la.keep up).snoc (w:=(t,t)) (by rw[ai Wv];exact af)⟩
    rw[ai nb]
    exact(aA.new hc) _ _ (sm b u nb e)
  ·rintro σ H' ⟨v,xs,rfl,sm,hx,la⟩
   rw[List.length_map,List.take_length]at la
   have hlen:=la.len
   have hfl:=rA L qs []
   have Xh:=q1.length_eq
   rw[List.length_nil]at hfl
   have sH:aA H H':=λb u e=>sm b u (av e hsl) ((aA.new hl) _ _ ((aA.new hsl) _ _ e))
   have key:∀(r:Addr)(ys:List V)(H2:Hp),aA H H2->H r=none->H2 r=some (.lst ys)->aC OY H2 ys ((qs.foldl (fj L) []).map λp=>(p.1,p.2+L))->Q (.ref r) H2:=λr ys H2 s1 h0 h1 h2=>k r ys qs H2 s1 h0 h1 q1 q2 h2
   clear k sm
   generalize qs.foldl (fj L) []=sp at *
   refine⟨_,rfl,sl,rfl,⟨_,br.of hx⟩,λr hr=>?_⟩
   refine dQ (K:=K) (a:=sl) (xs:=xs) (λi ys H2=>aA H' H2/\H2 r=some (.lst ys)/\aC OY H2 ys ((sp.take i).map λp=>(p.1,p.2+L))) ⟨aA.new hr,af,.nil⟩ (λi ys H2 h=>h.2.1) (λi ys H2 _ h=>h.1.seq (br.of hx)) ?_ ?_
   ·rintro i x ys H2 ex ⟨s2,h2,xD⟩
    obtain⟨p,q,ep,rfl,hq⟩:=la.get ex
    have hq2:=s2 _ _ hq
    refine⟨cy rfl,?_⟩
    refine⟨_,rfl,q,_,0,_,rfl,rfl,bu.of hq2,zJ,_,rfl,q,_,1,_,rfl,rfl,bu.of hq2,JO,_,rfl,_,_,rfl,rfl,(by show 2<=sizeLine;decide),λc hc=>⟨ys,(aA.new hc) _ _ h2,?_,?_⟩⟩
    ·have:=xD.len
     rw[List.length_map,List.length_take]at this
     rw[sizeLine_eq]
     lia
    have hi:=(List.getElem?_eq_some_iff.mp ep).1
    have htk:sp.take (i+1)=sp.take i++[p]:=by rw[List.take_add_one,ep];rfl
    have ncr:c≠r:=λz=>by rw[z,h2]at hc;cases hc
    rw[htk,List.map_append]
    refine⟨λb u e=>?_,af,(xD.keep λb row e=>?_).snoc (w:=(p.1,p.2+L)) (by rw[ai ncr];exact af)⟩
    ·rw[ai (av e hr)]
     exact(aA.new hc) _ _ (s2 _ _ e)
    ·rw[ai (aT e h2 (by intro z;cases z))]
     exact(aA.new hc) _ _ e
   ·rintro ys H2 ⟨s2,h2,xD⟩
    rw[hlen,List.take_length]at xD
    exact key r ys H2 (sH.trans s2) (nQ sH hr) h2 xD
end
structure Ht(pl:Pl)(ts:List Int)(sp:List (Int×Int)):Prop where
 nd:sp.Nodup
 gr:sj pl=false->∀q,q∈sp↔Dh pl q.1 q.2/\∃t∈ts,q.1<=t/\t<q.2
 pr:sj pl=true->∀q∈sp,eY pl.len (λu=>u∈ts) q.1 q.2
 pc:sj pl=true->∀t∈ts,∃q∈sp,q.1<=t/\t<=q.2-pl.len
 len:sp.length<=100*ts.length
inductive tN(K:Fg7)(vs:List V)(H:Hp)(Q:VK):Prop
 |mk(p a:Addr)(pl:Pl)(ts:List Int):(vs=[.ref p,.ref a])->(bu K H p pl.row)->(pl.ok)->(H a=some (.lst (ts.map V.int)))->(ts.length<=1000)->((∀t∈ts,-(10^45)<t/\t<10^45))->(∀(r:Addr)(ys:List V)(sp:List (Int×Int))(H':Hp),aA H H'->H r=none->H' r=some (.lst ys)->Ht pl ts sp->aC OY H' ys sp->Q (.ref r) H')->tN K vs H Q
def wH(K:Fg7):Sp:=λvs H Q d_=>tN K vs H Q
def addQ(sp:List (Int×Int))(q:Int×Int):List (Int×Int):=if q∈sp then sp else sp++[q]
theorem FY{sp:List (Int×Int)}{q x:Int×Int}:x∈addQ sp q↔x∈sp\/x=q:=by
 unfold addQ
 by_cases h:q∈sp
 ·rw[if_pos h]
  exact⟨.inl,λz=>z.elim id λe=>e▸h⟩
 ·rw[if_neg h,List.mem_append,List.mem_singleton]
theorem IP{sp:List (Int×Int)}{q:Int×Int}(n:sp.Nodup):(addQ sp q).Nodup:=by
 unfold addQ
 by_cases h:q∈sp
 ·rw[if_pos h];exact n
 ·rw[if_neg h]
  exact List.nodup_append.mpr ⟨n,(List.pairwise_singleton _ _),λa ma b mb e=>h (by rw[List.mem_singleton]at mb;rw[←mb,←e];exact ma)⟩
theorem Ge(sp:List (Int×Int))(q:Int×Int):(addQ sp q).length<=sp.length+1:=by
 unfold addQ
 split
 ·lia
 ·rw[List.length_append,List.length_singleton];lia
def IU(sp:List (Int×Int)):List (List Key×V):=sp.map λq=>(([.inl q.1,.inl q.2]:List Key),V.bl true)
theorem Iu(sp:List (Int×Int))(a b:Int):putK (IU sp) [.inl a,.inl b] (.bl true)=IU (addQ sp (a,b)):=by
 have inj:∀q:Int×Int,(([.inl q.1,.inl q.2]:List Key)=[.inl a,.inl b])↔q=(a,b):=λq=>
  ⟨λe=>by
   obtain⟨e1,e2⟩:=List.cons.inj e
   have e3:=(List.cons.inj e2).1
   exact Prod.ext (Sum.inl.inj e1) (Sum.inl.inj e3),λe=>by rw[e]⟩
 unfold putK addQ
 by_cases h:(a,b)∈sp
 ·have hy:((IU sp).any λkv=>decide (kv.1=[.inl a,.inl b]))=true:=List.any_eq_true.mpr ⟨(([.inl a,.inl b]:List Key),V.bl true),List.mem_map.mpr ⟨(a,b),h,rfl⟩,decide_eq_true rfl⟩
  rw[if_pos h,if_pos hy]
  refine(List.map_congr_left λkv m=>?_).trans (List.map_id _)
  obtain⟨q,_,rfl⟩:=List.mem_map.mp m
  dsimp only
  split<;>rfl
 ·rw[if_neg h,if_neg λz=>?_]
  ·unfold IU
   rw[List.map_append]
   rfl
  ·obtain⟨kv,m,e⟩:=List.any_eq_true.mp z
   obtain⟨q,mq,rfl⟩:=List.mem_map.mp m
   have:=(inj q).mp (of_decide_eq_true e)
   exact h (this▸mq)
theorem IW{H:Hp}:∀{sp:List (Int×Int)}{ys:List V},Paired (λ(y:V) (p:List Key×V)=>∃b,y=.ref b/\H b=some (.tup (p.1.map kV))) ys (IU sp)->aC OY H ys sp:=by
 intro sp
 induction sp with
 |nil=>intro ys h;cases h;exact .nil
 |cons q sp ih=>
  intro ys h
  cases h with
  |cons h1 h2=>exact .cons h1 (ih h2)
theorem HQ{stp len t k:Int}(s1:1<=stp):((t-len)/stp+1<=k/\k<t/stp+1)↔(k*stp<=t/\t<k*stp+len):=by
 have e1:k<=t/stp↔k*stp<=t:=Int.le_ediv_iff_mul_le LI
 have e2:(t-len)/stp<k↔t-len<k*stp:=Int.ediv_lt_iff_lt_mul LI
 constructor
 ·rintro⟨h1,h2⟩
  have:=e1.mp LI
  have:=e2.mp LI
  lia
 ·rintro⟨h1,h2⟩
  have:=e1.mpr h1
  have:=e2.mpr LI
  lia
theorem HR{stp len t:Int}(s1:1<=stp)(ls:len<=100*stp):t/stp-(t-len)/stp<=100:=by
 have e2:(t-len)/stp<t/stp-100↔t-len<(t/stp-100)*stp:=Int.ediv_lt_iff_lt_mul LI
 have e3:t/stp*stp<=t:=Int.ediv_mul_le _ LI
 have:¬(t-len)/stp<t/stp-100:=λh=>by
  have:=e2.mp h
  rw[Int.sub_mul]at this
  lia
 lia
theorem wF{pl:Pl}(ip:sj pl=true)(ok:pl.ok){ts ps:List Int}(hp:ps.Perm ts)(hs:ps.Pairwise (· <=·)):Ht pl ts ((ps.foldl (fj pl.len) []).map λp=>(p.1,p.2+pl.len)):=by
 have l1:=ok.l1
 have C:=Ox l1 ps hs
 have hf:=rA pl.len ps []
 generalize ps.foldl (fj pl.len) []=sp at *
 refine⟨?_,λnp=>(by rw[ip]at np;cases np),λ_ q mq=>?_,λ_ t mt=>?_,?_⟩
 ·refine List.pairwise_map.mpr (C.ap.imp_of_mem λ{p q} mp mq h e=>?_)
  have:=(C.el p mp).1
  have:=congrArg Prod.fst e
  simp only at this
  lia
 ·obtain⟨p,mp,rfl⟩:=List.mem_map.mp mq
  exact C.span l1 (λu=>hp.mem_iff.symm) mp
 ·obtain⟨p,mp,h1,h2⟩:=C.cv t (hp.mem_iff.mpr mt)
  exact⟨(p.1,p.2+pl.len),List.mem_map.mpr ⟨p,mp,rfl⟩,h1,by simp only;lia⟩
 ·rw[List.length_map]
  have:=hp.length_eq
  rw[List.length_nil]at hf
  lia
section
variable {P:Program} {w:World} {K:Fg7} {mg:Str->Option Value}
theorem CO(D:aJ K "_law_spans_of" cO)(M:MG K mg)(B:Bi K)(sP:ef P w K mg "_law_pauses" ["_law_times","_law_gap"] 1 (wD K)):ef P w K mg "_law_spans_of" ["_law_plan","_law_times"] 2 (wH K):=by
 refine D.fn M cT oU (λvs H Q E h=>?_) (λf base cdv A outer s H vs Q E hr h=>?_)
 ·obtain⟨p,a,pl,ts,rfl,_⟩:=h
  rfl
 ·obtain⟨p,a,pl,ts,rfl,hp,ok,ha,hl,hb,k⟩:=h
  have hu1:=uc hr
  refine⟨_,(aq (bw (aK dF (aH a_ (pv 0) ah (λ_ _=>rfl)) cA (aM _)) (au (aL (aW sP (hr.mono (by decide)) rfl (pc (pv 1) (pc (aH a_ (pv 0) ah (λ_ _=>rfl)) aj))))) aR)
   (aq (cW (i:=2) cT.nd rfl (Or.inl rfl) (aH a_ (pv 0) ah (λ_ _=>rfl)))
   (gX (bw (aK dF (aH a_ (pv 0) ah (λ_ _=>rfl)) cA (aM _)) (au (cW (i:=2) cT.nd rfl (Or.inl rfl) (aH a_ (pv 0) ah (λ_ _=>rfl)))) aR)
   (aq (cW (i:=3) cT.nd rfl (Or.inl rfl) wV)
   (aq (eZ PassesOwn.never rfl (bD (pv 1)) (aV (i:=4) cT.nd rfl (Or.inl rfl))
   (au (eZ PassesOwn.never rfl (yU rfl (M.no _ B.nq) (pc (aD jA (aD AY (aD qS (pv 4) (aH a_ (pv 0) ah (λ_ _=>rfl))) (pv 2)) ah) (pc (aD jA (aD AY (pv 4) (pv 2)) ah) aj))) (aV (i:=5) cT.nd rfl (Or.inl rfl))
   (au (AO hu1 (pv 3) (cK (pc (aD FL (pv 5) (pv 2)) (pc (aD jA (aD FL (pv 5) (pv 2)) (aH a_ (pv 0) ah (λ_ _=>rfl))) aj))) fJ rfl)))))
   (au (aL (jl (rG rfl) rfl (M.no _ B.fB) dR (pc (pv 3) aj))))))))),?_⟩
  refine⟨_,rfl,p,_,0,_,rfl,rfl,hp,EV pl,rfl,_,rfl,aO (λh=>?_) (λh=>?_)⟩
  ·have e:=GR h
   have ip:sj pl=true:=by
    cases pl with
    |fixed l g=>exact absurd e QY
    |sliding l s g=>exact absurd e QW
    |pauses l g=>rfl
   exact⟨_,rfl,_,rfl,p,_,1,_,rfl,rfl,hp,wO pl,a,ts,pl.len,rfl,ha,hl,λr ys ps H' s1 h0 h1 q1 q2 la=>k r ys _ H' s1 h0 h1 (wF ip ok q1 q2) la⟩
  have np:sj pl=false:=by
   cases pl with
   |fixed l g=>rfl
   |sliding l s g=>rfl
   |pauses l g=>exact absurd (decide_eq_true rfl) h
  have l1:=ok.l1
  have l2:=ok.l2
  have s1:=ok.s1
  have s2:=ok.s2
  refine⟨_,rfl,p,_,1,_,rfl,rfl,hp,wO pl,?_⟩
  refine⟨λσ H'=>σ=[some (.ref p),some (.ref a),some (.int pl.stp),none,none,none]/\H'=H,?_,?_⟩
  ·refine⟨_,rfl,p,_,0,_,rfl,rfl,hp,EV pl,rfl,_,rfl,aO (λh=>?_) (λh=>?_)⟩
   ·have e:=GR h
    refine⟨_,rfl,p,_,2,.int pl.stp,rfl,rfl,hp,?_,rfl,rfl⟩
    cases pl with
    |fixed l g=>exact absurd e QX
    |sliding l s g=>rfl
    |pauses l g=>cases np
   ·refine⟨?_,rfl⟩
    cases pl with
    |fixed l g=>rfl
    |sliding l s g=>exact absurd (decide_eq_true rfl) h
    |pauses l g=>cases np
  rintro σ H' ⟨rfl,rfl⟩
  intro d hd
  have sd:=aA.new (o:=.dT []) hd
  refine⟨_,rfl,a,rfl,⟨_,br.of (sd _ _ ha)⟩,?_⟩
  refine eS (K:=K) (a:=a) (xs:=ts.map V.int) (λi σ H2=>∃(v4 v5:Option V) (sp:List (Int×Int)),σ=[some (.ref p),some (.ref a),some (.int pl.stp),some (.ref d),v4,v5]/\aA H' H2/\H2 d=some (.dT (IU sp))/\sp.Nodup/\sp.length<=100*i/\∀q,q∈sp↔Dh pl q.1 q.2/\∃t∈ts.take i,q.1<=t/\t<q.2)
   ⟨none,none,[],rfl,sd,af,.nil,Nat.le_refl _,λq=>⟨λh=>(nomatch h),λ⟨_,t,mt,_⟩=>(nomatch mt)⟩⟩ (λi σ H2 _ ⟨_,_,_,_,sm,_⟩=>br.of (sm _ _ ha)) ?_ ?_
  ·rintro i x σ H2 ex ⟨v4,v5,sp,rfl,sm,h2,nd,UP,hm⟩
   rw[List.getElem?_map]at ex
   obtain⟨t,et,rfl⟩:=Option.map_eq_some_iff.mp ex
   have hi:i<ts.length:=(List.getElem?_eq_some_iff.mp et).1
   obtain⟨t1,t2⟩:=hb t (List.mem_of_getElem? et)
   have dq:=zA (a:=t-pl.len) (b:=10^46) s1 LI LI
   have dt:=zA (a:=t) (b:=10^46) s1 LI LI
   have few:=HR (t:=t) s1 ok.ls
   have wi:∀k,_↔_:=λk=>HQ (len:=pl.len) (t:=t) (k:=k) s1
   have mono:(t-pl.len)/pl.stp<=t/pl.stp:=Int.ediv_le_ediv LI LI
   refine⟨_,rfl,_,rfl,p,_,1,_,rfl,rfl,sm.ji hp,wO pl,_,_,rfl,rfl,_,rfl,_,_,rfl,rfl,⟨by lia,⟨by lia,by lia⟩⟩,_,_,rfl,rfl,_,rfl,_,rfl,_,_,rfl,rfl,⟨by lia,⟨by lia,by lia⟩⟩,_,_,rfl,rfl,_,_,rfl,?_⟩
   rw[EX]
   generalize (t-pl.len)/pl.stp=lo at *
   generalize t/pl.stp=hi' at *
   refine zq (lo:=lo+1) (st:=1) (n:=(hi'+1-(lo+1)).toNat) (λj σ H3=>∃(v5:Option V) (vM:List (Int×Int)),σ=[some (.ref p),some (.ref a),some (.int pl.stp),some (.ref d),some (.int t),v5]/\aA H' H3/\H3 d=some (.dT (IU vM))/\vM.Nodup/\vM.length<=100*i+j/\∀q,q∈vM↔q∈sp\/∃m:Nat,m<j/\q=((lo+1+m)*pl.stp,(lo+1+m)*pl.stp+pl.len))
    ⟨v5,sp,rfl,sm,h2,nd,UP,λq=>⟨.inl,λz=>z.elim id λ⟨m,z,_⟩=>absurd z (Nat.not_lt_zero _)⟩⟩ ?_ ?_
   ·rintro j σ H3 hj ⟨v5,vM,rfl,Me,h3,Wu,hl3,UO⟩
    have fk:zO (lo+1+(j:Int)*1):=⟨by lia,by lia⟩
    have fs:zO pl.stp:=⟨by lia,by lia⟩
    refine⟨_,rfl,_,rfl,_,rfl,_,_,rfl,rfl,⟨fk,fs⟩,_,rfl,_,rfl,_,_,rfl,rfl,⟨fk,fs⟩,_,rfl,p,_,1,_,rfl,rfl,Me.ji hp,wO pl,_,_,rfl,rfl,(by show 2<=sizeLine;decide),λc hc=>?_⟩
    rw[Int.mul_one]at *
    refine⟨d,_,rfl,Dq.t (k:=[.inl ((lo+1+(j:Int))*pl.stp),.inl ((lo+1+(j:Int))*pl.stp+pl.len)]) ((aA.new hc) _ _ h3) af ?_,?_⟩
    ·unfold IU
     rw[List.length_map,sizeLine_eq]
     lia
    rw[Iu]
    refine⟨_,addQ vM ((lo+1+(j:Int))*pl.stp,(lo+1+(j:Int))*pl.stp+pl.len),rfl,λb u e=>?_,af,IP Wu,?_,λq=>?_⟩
    ·rw[ai (av e hd)]
     exact(aA.new hc) _ _ (Me _ _ e)
    ·exact Nat.le_trans (Ge vM _) (by clear UO hm wi;lia)
    ·rw[FY,UO]
     constructor
     ·rintro((z|⟨m,z,e⟩)|z)
      ·exact .inl z
      ·exact .inr ⟨m,by lia,e⟩
      ·exact .inr ⟨j,by lia,z⟩
     ·rintro(z|⟨m,z,e⟩)
      ·exact .inl (.inl z)
      ·by_cases hj':m<j
       ·exact .inl (.inr ⟨m,hj',e⟩)
       ·have:m=j:=by lia
        subst this
        exact .inr e
   ·rintro σ H3 ⟨v5,vM,rfl,Me,h3,Wu,hl3,UO⟩
    have htk:ts.take (i+1)=ts.take i++[t]:=by rw[List.take_add_one,et];rfl
    refine⟨_,v5,vM,rfl,Me,h3,Wu,by lia,λq=>?_⟩
    rw[UO,hm,htk]
    constructor
    ·rintro(⟨g,u,mu,z⟩|⟨m,z,rfl⟩)
     ·exact⟨g,u,List.mem_append_left _ mu,z⟩
     ·exact⟨⟨⟨_,rfl⟩,rfl⟩,t,List.mem_append_right _ (.head _),(wi _).mp ⟨by lia,by lia⟩⟩
    ·rintro⟨g,u,mu,z⟩
     rcases List.mem_append.mp mu with mu|mu
     ·exact .inl ⟨g,u,mu,z⟩
     ·rw[List.mem_singleton]at mu
      subst mu
      obtain⟨⟨m,e1⟩,e2⟩:=g
      rw[e2,e1]at z
      obtain⟨z1,z2⟩:=(wi m).mpr z
      refine .inr ⟨(m-(lo+1)).toNat,by lia,?_⟩
      have:lo+1+((m-(lo+1)).toNat:Int)=m:=by lia
      rw[this,←e1,←e2]
  ·rintro σ H2 ⟨v4,v5,sp,rfl,sm,h2,nd,UP,hm⟩
   rw[List.length_map]at UP hm
   rw[List.take_length]at hm
   refine⟨_,rfl,d,rfl,.inr ⟨_,.inl h2⟩,λl ys hl' kv=>?_⟩
   refine k l ys sp _ (sm.trans (aA.new hl')) (nQ sm hl') af ⟨nd,λ_=>hm,λip=>(by rw[np]at ip;cases ip),λip=>(by rw[np]at ip;cases ip),UP⟩ (aC.keep ?_ λb row e=>(aA.new hl') _ _ e)
   rcases kv with⟨kvs,rd,_⟩|⟨kvs,rd,pr⟩
   ·rcases rd with e|⟨o,e⟩ <;> · rw[h2]at e;cases e
   ·have e:kvs=IU sp:=by
     rcases rd with e|⟨o,e⟩
     ·rw[h2]at e;cases e;rfl
     ·rw[h2]at e;cases e
    subst e
    exact IW pr
end
def Ev.d(e:Ev):bf:=.ev e.n e.t e.a
inductive wz(K:Fg7)(vs:List V)(H:Hp)(Q:VK):Prop
 |mk(p a:Addr)(pl:Pl)(xs:List V)(bh:List Ev):(vs=[.ref p,.ref a])->(bu K H p pl.row)->(pl.ok)->(H a=some (.lst xs))->(aC (λe:Ev=>e.d.v) H xs bh)->(bh.length<=200)->((∀e∈bh,-(10^45)<e.t/\e.t<10^45))->(∀(r:Addr)(ys:List V)(ws:List Wn)(H':Hp),aA H H'->H r=none->H' r=some (.lst ys)->Tab pl bh ws->ws.length<=4000000->(ws.map Wn.d).Pairwise (λd e=>aY d e≠.gt)->aC Wn.v H' ys ws->Q (.ref r) H')->wz K vs H Q
def Af(K:Fg7):Sp:=λvs H Q d_=>wz K vs H Q
def mine(bh:List Ev)(n:Str):List Ev:=bh.filter λe=>decide (e.n=n)
def zY(bh:List Ev)(n:Str):List Int:=(mine bh n).map Ev.t
def ins(bh:List Ev)(n:Str)(s e:Int):List Ev:=(mine bh n).filter λx=>decide (s<=x.t)&&decide (x.t<e)
theorem mS{bh:List Ev}{n:Str}{u:Int}:u∈zY bh n↔iD bh n u:=by
 unfold zY mine
 constructor
 ·intro h
  obtain⟨e,m,rfl⟩:=List.mem_map.mp h
  obtain⟨m1,m2⟩:=List.mem_filter.mp m
  exact⟨e,m1,of_decide_eq_true m2,rfl⟩
 ·rintro⟨e,m,h1,h2⟩
  exact List.mem_map.mpr ⟨e,List.mem_filter.mpr ⟨m,decide_eq_true h1⟩,h2⟩
theorem HW(n:Str)(s e:Int):∀bh:List Ev,nJ bh ⟨n,s,e⟩=(((ins bh n s e).length:Int),((ins bh n s e).map Ev.a).sum):=by
 intro bh
 induction bh with
 |nil=>rfl
 |cons x bh ih=>
  have e1:nJ (x::bh) ⟨n,s,e⟩=cM (wX ⟨n,s,e⟩ x) (nJ bh ⟨n,s,e⟩):=rfl
  rw[e1,ih]
  have e2:ins (x::bh) n s e=if jY ⟨n,s,e⟩ x=true then x::ins bh n s e else ins bh n s e:=by
   unfold ins mine jY
   by_cases h:x.n=n
   ·rw[List.filter_cons,if_pos (decide_eq_true h),List.filter_cons,decide_eq_true h,Bool.true_and]
   ·rw[List.filter_cons,if_neg (λz=>h (of_decide_eq_true z)),decide_eq_false h,Bool.false_and,if_neg Bool.false_ne_true]
  rw[e2]
  unfold wX cM
  by_cases h:jY ⟨n,s,e⟩ x=true
  ·rw[if_pos h,if_pos h,List.length_cons,List.map_cons,List.sum_cons]
   simp only[Prod.mk.injEq,and_true]
   lia
  ·rw[if_neg h,if_neg h]
   simp only[Int.zero_add]
def yR(bh:List Ev)(n:Str)(q:Int×Int):Wn:=⟨n,q.1,q.2,(nJ bh ⟨n,q.1,q.2⟩).1,(nJ bh ⟨n,q.1,q.2⟩).2⟩
structure Pt(pl:Pl)(bh:List Ev)(N:Str->Prop)(ws:List Wn):Prop where
 nd:(ws.map Wn.k).Nodup
 el:∀w∈ws,N w.n/\∃sp,Ht pl (zY bh w.n) sp/\(w.s,w.e)∈sp/\(w.c,w.t)=nJ bh w.k
 al:∀n,N n->∃sp,Ht pl (zY bh n) sp/\∀q∈sp,(⟨n,q.1,q.2⟩:Ky)∈ws.map Wn.k
theorem Pt.add{pl:Pl}{bh:List Ev}{N N':Str->Prop}{ws:List Wn}{n:Str}{sp:List (Int×Int)}(h:Pt pl bh N ws)(hn:¬N n)(hN:∀m,N' m↔N m\/m=n)(hs:Ht pl (zY bh n) sp):Pt pl bh N' (ws++sp.map (yR bh n)):=by
 refine⟨?_,λw mw=>?_,λm hm=>?_⟩
 ·rw[List.map_append,List.map_map]
  refine List.nodup_append.mpr ⟨h.nd,List.pairwise_map.mpr (hs.nd.imp λ{p q} ne e=>ne (Prod.ext (congrArg Ky.s e) (congrArg Ky.e e))),λk1 m1 k2 m2 e=>?_⟩
  ·obtain⟨w,mw,rfl⟩:=List.mem_map.mp m1
   obtain⟨q,mq,rfl⟩:=List.mem_map.mp m2
   have e':w.n=n:=congrArg Ky.n e
   exact hn (e'▸(h.el w mw).1)
 ·rcases List.mem_append.mp mw with mw|mw
  ·obtain⟨h1,h2⟩:=h.el w mw
   exact⟨(hN _).mpr (.inl h1),h2⟩
  ·obtain⟨q,mq,rfl⟩:=List.mem_map.mp mw
   exact⟨(hN _).mpr (.inr rfl),sp,hs,mq,rfl⟩
 ·rcases(hN m).mp hm with hm|rfl
  ·obtain⟨vM,h1,h2⟩:=h.al m hm
   exact⟨vM,h1,λq mq=>by rw[List.map_append];exact List.mem_append_left _ (h2 q mq)⟩
  ·exact⟨sp,hs,λq mq=>by rw[List.map_append];exact List.mem_append_right _ (List.mem_map.mpr ⟨yR bh m q,List.mem_map.mpr ⟨q,mq,rfl⟩,rfl⟩)⟩
theorem Pt.QD{pl:Pl}{bh:List Ev}{N:Str->Prop}{ws fN:List Wn}(h:Pt pl bh N ws)(p:ws.Perm fN):Pt pl bh N fN:=
 ⟨(p.map Wn.k).nodup_iff.mp h.nd,λw mw=>h.el w (p.mem_iff.mpr mw),λn hn=>by
  obtain⟨sp,h1,h2⟩:=h.al n hn
  exact⟨sp,h1,λq mq=>(p.map Wn.k).mem_iff.mp (h2 q mq)⟩⟩
theorem Pt.tab{pl:Pl}{bh:List Ev}{N:Str->Prop}{ws:List Wn}(h:Pt pl bh N ws)(hN:∀e∈bh,N e.n):Tab pl bh ws:=by
 refine⟨h.nd,λk p g=>?_,λnp k mk=>?_,λnp e me k g i=>?_,λip k mk=>?_,λip e me=>?_⟩
 ·obtain⟨w,g1,rfl,rfl⟩:=vD g
  obtain⟨_,sp,_,_,e⟩:=h.el w (jN g1).1
  exact e
 ·obtain⟨w,mw,rfl⟩:=List.mem_map.mp mk
  obtain⟨_,sp,h1,h2,_⟩:=h.el w mw
  obtain⟨g,t,mt,z1,z2⟩:=(h1.gr np _).mp h2
  obtain⟨e,me,e1,e2⟩:=mS.mp mt
  subst e2
  exact⟨g,e,me,gy.mpr ⟨e1,z1,z2⟩⟩
 ·obtain⟨i1,i2,i3⟩:=gy.mp i
  obtain⟨sp,h1,h2⟩:=h.al k.n (i1▸hN e me)
  exact h2 (k.s,k.e) ((h1.gr np _).mpr ⟨g,e.t,mS.mpr ⟨e,me,i1,rfl⟩,i2,i3⟩)
 ·obtain⟨w,mw,rfl⟩:=List.mem_map.mp mk
  obtain⟨_,sp,h1,h2,_⟩:=h.el w mw
  have z:=h1.pr ip _ h2
  have e:(λu=>u∈zY bh w.n)=iD bh w.n:=funext λu=>propext mS
  rw[e]at z
  exact z
 ·obtain⟨sp,h1,h2⟩:=h.al e.n (hN e me)
  obtain⟨q,mq,z⟩:=h1.pc ip e.t (mS.mpr ⟨e,me,rfl,rfl⟩)
  exact⟨⟨e.n,q.1,q.2⟩,h2 q mq,rfl,z⟩
theorem MM:∀{l r:List Str},l.Nodup->(∀z∈l,z∈r)->l.length<=r.length:=by
 intro l
 induction l with
 |nil=>intro r _ _;exact Nat.zero_le _
 |cons a l ih=>
  intro r nd h
  obtain⟨n1,n2⟩:=List.nodup_cons.mp nd
  have ma:=h a (.head _)
  have:=ih (r:=r.erase a) n2 λz mz=>(List.mem_erase_of_ne (λe:z=a=>n1 (e▸mz))).mpr (h z (.tail _ mz))
  rw[List.length_erase_of_mem ma]at this
  have:=List.length_pos_of_mem ma
  rw[List.length_cons]
  lia
theorem IM:∀{l:List Str}{i:Nat}{n:Str},l.Nodup->l[i]? = some n->n∉l.take i:=by
 intro l
 induction l with
 |nil=>intro i n _ h;cases h
 |cons a l ih=>
  intro i n nd h
  obtain⟨n1,n2⟩:=List.nodup_cons.mp nd
  cases i with
  |zero=>exact λz=>(nomatch z)
  |succ i=>
   rw[List.getElem?_cons_succ]at h
   rw[List.take_succ_cons]
   intro z
   rcases List.mem_cons.mp z with rfl|z
   ·exact n1 (List.mem_of_getElem? h)
   ·exact ih n2 h z
section
variable {P:Program} {w:World} {K:Fg7} {mg:Str->Option Value}
theorem Js(D:aJ K "_law_table_of" bZ)(M:MG K mg)(B:Bi K)(ql:ef P w K mg "_law_spans_of" ["_law_plan","_law_times"] 2 (wH K)):ef P w K mg "_law_table_of" ["_law_plan","_law_events"] 3 (Af K):=by
 refine D.fn M cS oR (λvs H Q E h=>?_) (λf base cdv A outer s H vs Q E hr h=>?_)
 ·obtain⟨p,a,pl,xs,bh,rfl,_⟩:=h
  rfl
 ·obtain⟨p,a,pl,xs,bh,rfl,hp,ok,ha,la,hl,hb,k⟩:=h
  have hu:(A.deeper (envOfC "_law_table_of" (ao bZ) s.heap.objs.size f cdv)).units+64<cLine:=hr.units
  refine⟨_,(aq (cW (i:=2) cS.nd rfl (Or.inl rfl) (cL aj))
   (aq (eZ PassesOwn.never rfl (bD (yW rfl hu rfl (M.no _ B.jc) rfl (M.no _ B.TM) (eF (NY:=["_law_event"]) (js:=[none]) rfl rfl (by with_unfolding_all rfl) (by repeat first|exact cD.nil|refine cD.cons rfl ?_) (.own .nil) (bD (pv 1)) (λ_ _ _ _ _=>⟨(aV (i:=0) (show(["_law_event"]:List Str).Nodup from by decide +kernel) rfl (Or.inl rfl)),gP,(aH (bx (K:=K) rfl) (pv 0) ah (λ_ _=>rfl))⟩)))) (aV (i:=3) cS.nd rfl (Or.inr rfl))
   (aq (mH (k:=4) (NY:=["_law_event","_law_name"]) (js:=[none,some 3]) rfl cS.nd rfl rfl rfl (by with_unfolding_all rfl) (by repeat first|exact cD.nil|refine cD.cons rfl ?_) (.own (.out rfl rfl (.inl rfl) .nil)) (bD (pv 1)) (λ_ _ _ _ _=>⟨(aV (i:=0) (show(["_law_event","_law_name"]:List Str).Nodup from by decide +kernel) rfl (Or.inl rfl)),(gx (aK dF (aH (bx (K:=K) rfl) (pv 0) ah (λ_ _=>rfl)) (pv 1) (aM _))),(pv 0)⟩))
   (au (eZ PassesOwn.never rfl (bD (aW ql (hr.mono (by decide)) rfl (pc (pv 0) (pc (eF (NY:=["_law_event"]) (js:=[none]) rfl rfl (by with_unfolding_all rfl) (by repeat first|exact cD.nil|refine cD.cons rfl ?_) (.own .nil) (bD (pv 4)) (λ_ _ _ _ _=>⟨(aV (i:=0) (show(["_law_event"]:List Str).Nodup from by decide +kernel) rfl (Or.inl rfl)),gP,(aH (bx (K:=K) rfl) (pv 0) ah (λ_ _=>rfl))⟩)) aj)))) (aV (i:=5) cS.nd rfl (Or.inr rfl))
   (aq (mH (k:=6) (NY:=["_law_event","_law_span"]) (js:=[none,some 5]) rfl cS.nd rfl rfl rfl (by with_unfolding_all rfl) (by repeat first|exact cD.nil|refine cD.cons rfl ?_) (.own (.out rfl rfl (.inl rfl) .nil)) (bD (pv 4)) (λ_ _ _ _ _=>⟨(aV (i:=0) (show(["_law_event","_law_span"]:List Str).Nodup from by decide +kernel) rfl (Or.inl rfl)),(gx (Fq oLe oLt (aH (bx (K:=K) rfl) (pv 1) ah (λ_ _=>rfl)) (aH (bx (K:=K) rfl) (pv 0) ah (λ_ _=>rfl)) (aH (bx (K:=K) rfl) (pv 1) ah (λ_ _=>rfl)))),(aH (bx (K:=K) rfl) (pv 0) ah (λ_ _=>rfl))⟩))
   (au (gI (jJ PySem.F.plainAttrs_list PySem.F.slot_list_append PySem.F.type_list_append dw (pv 2) (pc (cK (pc (pv 3) (pc (aH a_ (pv 5) ah (λ_ _=>rfl)) (pc (aH a_ (pv 5) ah (λ_ _=>rfl)) (pc (aU aX rfl (M.no _ B.gE) eT (pc (pv 6) aj)) (pc (aU (CW rfl) rfl (M.no _ B.TL) Oz (pc (pv 6) aj)) aj)))))) aj)))))))))
   (au (aL (aU (gQ hu) rfl (M.no _ B.jc) gY (pc (pv 2) aj)))))),?_⟩
  refine⟨(by show 0<=sizeLine;decide),λsl hsl=>?_⟩
  have s1:=aA.new (o:=.lst []) hsl
  have hs0:upd H sl (.lst []) sl=some (.lst []):=af
  obtain⟨H1,eH1⟩:∃H1,H1=upd H sl (.lst []):=⟨_,rfl⟩
  rw[←eH1]at s1 hs0 ⊢
  refine⟨_,rfl,a,rfl,⟨_,br.of (s1 _ _ ha)⟩,λnl hnl=>?_⟩
  refine dQ (K:=K) (a:=a) (xs:=xs) (λi ys H2=>H2=upd H1 nl (.lst ys)/\ys=(bh.take i).map λe=>V.str e.n) ⟨rfl,rfl⟩ (λi ys H2 h=>by rw[h.1];exact af) (λi ys H2 _ h=>by rw[h.1];exact br.of ((aA.new hnl) _ _ (s1 _ _ ha))) ?_ ?_
  ·rintro i x ys H2 ex ⟨rfl,rfl⟩
   obtain⟨e,b,ee,rfl,hb'⟩:=la.get ex
   refine⟨cy rfl,?_⟩
   have htk:bh.take (i+1)=bh.take i++[e]:=by rw[List.take_add_one,ee];rfl
   refine⟨_,rfl,b,_,1,.str e.n,rfl,rfl,bu.of ((aA.new hnl) _ _ (s1 _ _ hb')),JO,_,af,?_,?_,?_⟩
   ·rw[List.length_map,List.length_take,sizeLine_eq]
    lia
   ·rw[gu]
   ·rw[htk,List.map_append]
    rfl
  rintro ys H2 ⟨rfl,rfl⟩
  have lax:=la.len
  have en:(bh.take xs.length).map (λe=>V.str e.n)=(bh.map Ev.n).map V.str:=by
   rw[lax,List.take_length,List.map_map]
   rfl
  rw[en]
  refine⟨nl,bh.map Ev.n,rfl,br.of af,(by rw[List.length_map];exact Nat.lt_of_le_of_lt (Nat.add_le_add_right hl 1) (by decide)),⟨by rw[List.length_map];lia,by rw[List.length_map];show _<10000001;lia⟩,λll ns vd Zl QO _=>?_⟩
  have abp:ns.length<=200:=by
   have:=MM Zl λz mz=>(QO z).mp mz
   rw[List.length_map]at this
   lia
  have Uy:nl≠sl:=λz=>by rw[z,hs0]at hnl;cases hnl
  have lls:ll≠sl:=λz=>by rw[z,ai Uy.symm,hs0]at vd;cases vd
  have s3:∀b u,H1 b=some u->upd (upd H1 nl (.lst ((bh.map Ev.n).map V.str))) ll (.lst (ns.map V.str)) b=some u:=λb u e=>(aA.new vd) _ _ ((aA.new hnl) _ _ e)
  have h3l:upd (upd H1 nl (.lst ((bh.map Ev.n).map V.str))) ll (.lst (ns.map V.str)) ll=some (.lst (ns.map V.str)):=af
  generalize upd (upd H1 nl (.lst ((bh.map Ev.n).map V.str))) ll (.lst (ns.map V.str))=H3 at *
  have las:a≠sl:=av ha hsl
  refine⟨ll,rfl,⟨_,br.of h3l⟩,?_⟩
  refine eS (K:=K) (a:=ll) (xs:=ns.map V.str) (λi σ H'=>∃(v3 v4 v5 v6:Option V) (zs:List V) (ws:List Wn),σ=[some (.ref p),some (.ref a),some (.ref sl),v3,v4,v5,v6]/\(∀b u,b≠sl->H3 b=some u->H' b=some u)/\H' sl=some (.lst zs)/\aC Wn.v H' zs ws/\Pt pl bh (λm=>m∈ns.take i) ws/\ws.length<=20000*i)
   ⟨none,none,none,none,[],[],rfl,λ_ _ _ e=>e,s3 _ _ hs0,.nil,⟨.nil,λ_ h=>(nomatch h),λ_ h=>(nomatch h)⟩,Nat.le_refl _⟩ (λi σ H' _ ⟨_,_,_,_,_,_,_,sm,_⟩=>br.of (sm _ _ lls h3l)) ?_ ?_
  ·rintro i x σ H' ex ⟨v3,v4,v5,v6,zs,ws,rfl,sm,hz,lw,pt,wl⟩
   rw[List.getElem?_map]at ex
   obtain⟨n,et,rfl⟩:=Option.map_eq_some_iff.mp ex
   have hi:i<ns.length:=(List.getElem?_eq_some_iff.mp et).1
   have htk:ns.take (i+1)=ns.take i++[n]:=by rw[List.take_add_one,et];rfl
   have sa:∀b u,H b=some u->H' b=some u:=λb u e=>sm b u (av e hsl) (s3 _ _ (s1 _ _ e))
   refine⟨_,rfl,a,rfl,⟨_,br.of (sa _ _ ha)⟩,λml hml=>?_⟩
   refine dQ (K:=K) (a:=a) (xs:=xs) (λi ys H2=>H2=upd H' ml (.lst ys)/\aC (λe:Ev=>e.d.v) H' ys (mine (bh.take i) n)) ⟨rfl,.nil⟩ (λi ys H2 h=>by rw[h.1];exact af) (λi ys H2 _ h=>by rw[h.1];exact br.of ((aA.new hml) _ _ (sa _ _ ha))) ?_ ?_
   ·rintro i x ys H2 ex ⟨rfl,xD⟩
    obtain⟨e,b,ee,rfl,hb'⟩:=la.get ex
    have htk:bh.take (i+1)=bh.take i++[e]:=by rw[List.take_add_one,ee];rfl
    have hb2:=(aA.new (o:=.lst ys) hml) _ _ (sa _ _ hb')
    refine⟨cy rfl,?_⟩
    refine⟨_,rfl,b,_,1,.str e.n,rfl,rfl,bu.of hb2,JO,_,rfl,rfl,_,rfl,aO (λh=>?_) (λh=>?_)⟩
    ·have hn:e.n=n:=GR h
     refine⟨_,rfl,ys,af,?_,by rw[gu],?_⟩
     ·have:=xD.len
      have:=List.length_filter_le (λx:Ev=>decide (x.n=n)) (bh.take i)
      have:=List.length_take_le i bh
      have:(mine (bh.take i) n).length<=bh.length:=by
       refine Nat.le_trans (List.length_filter_le _ _) ?_
       rw[List.length_take]
       lia
      rw[sizeLine_eq]
      lia
     ·unfold mine
      rw[htk,List.filter_append,List.filter_cons,if_pos (decide_eq_true hn),List.filter_nil]
      exact xD.snoc (sa _ _ hb')
    ·have hn:¬e.n=n:=λz=>h (decide_eq_true (by rw[z]))
     refine⟨ys,rfl,?_⟩
     unfold mine
     rw[htk,List.filter_append,List.filter_cons,if_neg (λz=>hn (of_decide_eq_true z)),List.filter_nil,List.append_nil]
     exact xD
   rintro ms H2 ⟨rfl,lm⟩
   rw[lax,List.take_length]at lm
   have s4:∀b u,H' b=some u->upd H' ml (.lst ms) b=some u:=λb u e=>(aA.new hml) _ _ e
   have XR:upd H' ml (.lst ms) ml=some (.lst ms):=af
   generalize upd H' ml (.lst ms)=H4 at *
   have ZC:=lm.keep λb row e=>s4 _ _ e
   have ZA:=lm.len
   have lmn:(mine bh n).length<=200:=Nat.le_trans (List.length_filter_le _ _) hl
   have nms:ml≠sl:=λz=>by rw[z,hz]at hml;cases hml
   refine⟨_,rfl,_,rfl,ml,rfl,⟨_,br.of XR⟩,λtl Dz=>?_⟩
   refine dQ (K:=K) (a:=ml) (xs:=ms) (λi ys H2=>H2=upd H4 tl (.lst ys)/\ys=((mine bh n).take i).map λe=>V.int e.t) ⟨rfl,rfl⟩ (λi ys H2 h=>by rw[h.1];exact af) (λi ys H2 _ h=>by rw[h.1];exact br.of ((aA.new Dz) _ _ XR)) ?_ ?_
   ·rintro i x ys H2 ex ⟨rfl,rfl⟩
    obtain⟨e,b,ee,rfl,hb'⟩:=ZC.get ex
    refine⟨cy rfl,?_⟩
    have htk:(mine bh n).take (i+1)=(mine bh n).take i++[e]:=by rw[List.take_add_one,ee];rfl
    refine⟨_,rfl,b,_,2,.int e.t,rfl,rfl,bu.of ((aA.new Dz) _ _ hb'),rfl,_,af,?_,?_,?_⟩
    ·rw[List.length_map,List.length_take,sizeLine_eq]
     lia
    ·rw[gu]
    ·rw[htk,List.map_append]
     rfl
   rintro ys5 H5 ⟨rfl,rfl⟩
   have et5:((mine bh n).take ms.length).map (λe=>V.int e.t)=(zY bh n).map V.int:=by
    unfold zY
    rw[ZA,List.take_length,List.map_map]
    rfl
   rw[et5]
   have s5:∀b u,H4 b=some u->upd H4 tl (.lst ((zY bh n).map V.int)) b=some u:=λb u e=>(aA.new Dz) _ _ e
   have tl1:(zY bh n).length<=200:=by unfold zY;rw[List.length_map];exact lmn
   refine⟨p,tl,pl,zY bh n,rfl,?_,ok,af,by lia,λt mt=>?_,λr ys sp H6 s6 ZP RW so Ri=>?_⟩
   ·exact(show aA H (upd H4 tl (.lst ((zY bh n).map V.int)))from λb u e=>s5 _ _ (s4 _ _ (sa _ _ e))).ji hp
   ·obtain⟨e,me,_,rfl⟩:=mS.mp mt
    exact hb e me
   generalize upd H4 tl (.lst ((zY bh n).map V.int))=H5 at *
   have OV:∀b u,H4 b=some u->H6 b=some u:=λb u e=>s6 _ _ (s5 _ _ e)
   have spl:=so.len
   have WH:=Ri.len
   refine⟨r,rfl,⟨_,br.of RW⟩,?_⟩
   have VW:r≠sl:=λz=>by
    rw[z,s5 _ _ (s4 _ _ hz)]at ZP
    cases ZP
   refine eS (K:=K) (a:=r) (xs:=ys) (λj σ H7=>∃(v5 v6:Option V) (zs':List V),σ=[some (.ref p),some (.ref a),some (.ref sl),some (.str n),some (.ref ml),v5,v6]/\(∀b u,b≠sl->H6 b=some u->H7 b=some u)/\H7 sl=some (.lst zs')/\aC Wn.v H7 zs' (ws++(sp.take j).map (yR bh n)))
    ⟨v5,v6,zs,rfl,λ_ _ _ e=>e,OV _ _ (s4 _ _ hz),?_⟩ (λj σ H7 _ ⟨_,_,_,_,KC,_⟩=>br.of (KC _ _ VW RW)) ?_ ?_
   ·rw[List.take_zero,List.map_nil,List.append_nil]
    exact lw.keep λb row e=>OV _ _ (s4 _ _ e)
   ·rintro j x σ H7 ex ⟨v5,v6,zs',rfl,KC,Pb,Rb⟩
    obtain⟨q,c,eq,rfl,hc⟩:=Ri.get ex
    have hj:j<sp.length:=(List.getElem?_eq_some_iff.mp eq).1
    have csl:c≠sl:=aT hc (OV _ _ (s4 _ _ hz)) (by intro z;cases z)
    have XI:=KC _ _ csl hc
    have ZT:=KC _ _ nms (OV _ _ XR)
    have lm7:aC (λe:Ev=>e.d.v) H7 ms (mine bh n):=ZC.keep λb row e=>KC _ _ (aT e (s4 _ _ hz) (by intro z;cases z)) (OV _ _ e)
    refine⟨_,rfl,ml,rfl,⟨_,br.of ZT⟩,λil hil=>?_⟩
    refine dQ (K:=K) (a:=ml) (xs:=ms) (λi ys H2=>H2=upd H7 il (.lst ys)/\ys=((((mine bh n).take i).filter λx=>decide (q.1<=x.t)&&decide (x.t<q.2)).map Ev.a).map V.int) ⟨rfl,rfl⟩ (λi ys H2 h=>by rw[h.1];exact af) (λi ys H2 _ h=>by rw[h.1];exact br.of ((aA.new hil) _ _ ZT)) ?_ ?_
    ·rintro i x ys H2 ex ⟨rfl,rfl⟩
     obtain⟨e,b,ee,rfl,hb'⟩:=lm7.get ex
     have htk:(mine bh n).take (i+1)=(mine bh n).take i++[e]:=by rw[List.take_add_one,ee];rfl
     have hb2:=λo=>(aA.new (o:=o) hil) _ _ hb'
     have hc2:=λo=>(aA.new (o:=o) hil) _ _ XI
     refine⟨cy rfl,?_⟩
     have out:(decide (q.1<=e.t)&&decide (e.t<q.2))≠true->∀zs,zs=((((mine bh n).take i).filter λx=>decide (q.1<=x.t)&&decide (x.t<q.2)).map Ev.a).map V.int->∃zs',upd H7 il (.lst zs)=upd H7 il (.lst zs')/\zs'=((((mine bh n).take (i+1)).filter λx=>decide (q.1<=x.t)&&decide (x.t<q.2)).map Ev.a).map V.int:=λh zs ez=>⟨zs,rfl,by
      rw[htk,List.filter_append,List.filter_cons,if_neg h,List.filter_nil,List.append_nil];exact ez⟩
     refine⟨_,rfl,c,_,0,.int q.1,rfl,rfl,bu.of (hc2 _),rfl,_,rfl,b,_,2,.int e.t,rfl,rfl,bu.of (hb2 _),rfl,_,_,rfl,rfl,_,rfl,aO (λh1=>⟨_,rfl,c,_,1,.int q.2,rfl,rfl,bu.of (hc2 _),rfl,_,_,rfl,rfl,_,rfl,aO (λh2=>?_) (λh2=>?_)⟩) (λh1=>⟨_,rfl,aO (λz=>absurd z Bool.false_ne_true) (λ_=>?_)⟩)⟩
     ·refine⟨_,rfl,b,_,3,.int e.a,rfl,rfl,bu.of (hb2 _),rfl,_,af,?_,by rw[gu],?_⟩
      ·rw[List.length_map,List.length_map,sizeLine_eq]
       have:=List.length_filter_le (λx:Ev=>decide (q.1<=x.t)&&decide (x.t<q.2)) ((mine bh n).take i)
       rw[List.length_take]at this
       lia
      ·rw[htk,List.filter_append,List.filter_cons,if_pos (by rw[h1,h2];rfl),List.filter_nil,List.map_append,List.map_append]
       rfl
     ·exact out (λz=>h2 ((Bool.and_eq_true _ _).mp z).2) _ rfl
     ·exact out (λz=>h1 ((Bool.and_eq_true _ _).mp z).1) _ rfl
    rintro ys8 H8 ⟨rfl,rfl⟩
    rw[ZA,List.take_length]
    have e8:((mine bh n).filter λx=>decide (q.1<=x.t)&&decide (x.t<q.2))=ins bh n q.1 q.2:=rfl
    rw[e8]
    have s8:∀b u,H7 b=some u->upd H7 il (.lst (((ins bh n q.1 q.2).map Ev.a).map V.int)) b=some u:=λb u e=>(aA.new hil) _ _ e
    have h8:upd H7 il (.lst (((ins bh n q.1 q.2).map Ev.a).map V.int)) il=some (.lst (((ins bh n q.1 q.2).map Ev.a).map V.int)):=af
    generalize upd H7 il (.lst (((ins bh n q.1 q.2).map Ev.a).map V.int))=H8 at *
    have htk:sp.take (j+1)=sp.take j++[q]:=by rw[List.take_add_one,eq];rfl
    have Yb:(yR bh n q).v=[.str n,.int q.1,.int q.2,.int ((((ins bh n q.1 q.2).map Ev.a).map V.int).length:Int),.int ((ins bh n q.1 q.2).map Ev.a).sum]:=by
     unfold yR
     rw[HW,List.length_map,List.length_map]
     rfl
    refine⟨_,rfl,.inl ⟨rfl,_,br.of (s8 _ _ Pb)⟩,_,rfl,_,rfl,c,_,0,.int q.1,rfl,rfl,bu.of (s8 _ _ XI),rfl,_,rfl,c,_,1,.int q.2,rfl,rfl,bu.of (s8 _ _ XI),rfl,_,rfl,il,_,rfl,.inl (br.of h8),_,rfl,il,(ins bh n q.1 q.2).map Ev.a,rfl,br.of h8,(by show 5<=sizeLine;decide),λrw' hrw=>⟨sl,_,.ref rw',rfl,rfl,(aA.new hrw) _ _ (s8 _ _ Pb),?_,?_⟩⟩
    ·rw[Rb.len,List.length_append,List.length_map,List.length_take,sizeLine_eq]
     lia
    ·rw[←Yb]
     have VV:rw'≠sl:=λz=>by rw[z,s8 _ _ Pb]at hrw;cases hrw
     have up:∀b row,H7 b=some (.tup row)->upd (upd H8 rw' (.tup (yR bh n q).v)) sl (.lst (zs'++[.ref rw'])) b=some (.tup row):=λb row e=>by
      rw[ai (aT e Pb (by intro z;cases z))]
      exact(aA.new hrw) _ _ (s8 _ _ e)
     refine⟨_,_,zs'++[.ref rw'],rfl,λb u nb e=>?_,af,?_⟩
     ·rw[ai nb]
      exact(aA.new hrw) _ _ (s8 _ _ (KC b u nb e))
     ·rw[htk,List.map_append,←List.append_assoc]
      exact(Rb.keep up).snoc (by rw[ai VV];exact af)
   ·rintro σ H7 ⟨v5,v6,zs',rfl,KC,Pb,Rb⟩
    rw[WH,List.take_length]at Rb
    have smx:∀b u,b≠sl->H3 b=some u->H7 b=some u:=λb u nb e=>KC b u nb (OV _ _ (s4 _ _ (sm b u nb e)))
    refine⟨_,_,v5,v6,zs',ws++sp.map (yR bh n),rfl,smx,Pb,Rb,pt.add (n:=n) (λz=>?_) (λm=>?_) so,?_⟩
    ·exact IM Zl et z
    ·rw[htk,List.mem_append,List.mem_singleton]
    ·rw[List.length_append,List.length_map]
     lia
  ·rintro σ H' ⟨v3,v4,v5,v6,zs,ws,rfl,sm,hz,lw,pt,wl⟩
   rw[List.length_map]at wl pt
   rw[List.take_length]at pt
   have sH:aA H H':=λb u e=>sm b u (av e hsl) (s3 _ _ (s1 _ _ e))
   refine⟨_,rfl,sl,zs,_,Qe,rfl,br.of hz,lw.Oj (λa w h=>EU h),(λd hd=>?_),rfl,(by decide),?_,λl2 ps hl2 pm pw=>?_⟩
   ·obtain⟨q,_,rfl⟩:=List.mem_map.mp hd
    exact uK q
   ·rw[lw.len]
    exact⟨by lia,by show _<10000001;lia⟩
   ·obtain⟨rs,a1,a2,a3⟩:=tY (λ_ _=>Wn.Bt) lw pm
    exact k l2 _ rs _ (sH.trans (aA.new hl2)) (sH.free hl2) af ((pt.QD a1.symm).tab λe me=>(QO e.n).mpr (List.mem_map.mpr ⟨e,me,rfl⟩)) (by rw[a1.length_eq];lia) (by rw[←a3];exact pw) (a2.keep λa row e=>(aA.new hl2) _ _ e)
end
end K3
namespace K2
open PySem PySem.Spec PyProof.Rows L2 K1
def gA(K:Fg7)(H:Hp):List V->List bf->Prop:=Paired λx dd=>∃b,x=.ref b/\bu K H b dd.v
def dg(H:Hp):List V->List (List eU)->Prop:=Paired λx out=>∃l zs,x=.ref l/\H l=some (.lst zs)/\aC eU.v H zs out
def o_(H:Hp)(m r:Addr):List V->List (List eU)->Prop:=Paired λx out=>∃l zs,x=.ref l/\l≠m/\l≠r/\H l=some (.lst zs)/\aC eU.v H zs out
theorem gA.get{K:Fg7}{H:Hp}{xs:List V}{ds:List bf}{i:Nat}{x:V}(h:gA K H xs ds)(e:xs[i]? = some x):∃d b,ds[i]? = some d/\x=.ref b/\bu K H b d.v:=by
 obtain⟨k,ek,a,r⟩:=Paired.getL h e
 exact⟨k,a,ek,r⟩
theorem gA.len{K:Fg7}{H:Hp}{xs:List V}{ds:List bf}(h:gA K H xs ds):xs.length=ds.length:=Paired.length h
inductive EA(K:Fg7)(mg:Str->Option Value)(Pt:Addr)(vs:List V)(H:Hp)(Q:VK):Prop
 |mk(p dl:Addr)(pl:Pl)(xs:List V)(aQ:List bf):(vs=[.ref p,.ref dl])->(bu K H p pl.row)->(bad pl=false)->(pl.ok)->(br K H dl xs)->(gA K H xs aQ)->((∀dd∈aQ,dd.ok))->(aQ.length<=1000)->((∀i outs st,Runs pl ⟨none,[],[]⟩ (aQ.take i) outs st->st.ws.length<TS.MX))->(bV H Pt lp lq)->(eK K mg H)->(∀(l:Addr)(ys:List V)(outs:List (List eU))(st:l_)(H':Hp),Runs pl ⟨none,[],[]⟩ aQ outs st->gM H H' Pt->H l=none->H' l=some (.lst ys)->dg H' ys outs->bV H' Pt lp lq->Q (.ref l) H')->EA K mg Pt vs H Q
def Kz(K:Fg7)(mg:Str->Option Value)(Pt:Addr):Sp:=λvs H Q d_=>EA K mg Pt vs H Q
theorem rT.tup{H H':Hp}{C x dx p d m Pt:Addr}{mk:V}{kvs:List (List Key×V)}{mx:List V}{ps:Array Value}(k:rT H H' x d m Pt)(hx:H x=some (.ins C dx (fh p mk d m)))(hd:H d=some (.dT kvs))(hm:H m=some (.lst mx))(hP:H Pt=some (.pY ps)):∀a row,H a=some (.tup row)->H' a=some (.tup row):=
 λa row e=>k a _ e (aT e hx (by intro z;cases z)) (aT e hd (by intro z;cases z)) (aT e hm (by intro z;cases z)) (aT e hP (by intro z;cases z))
theorem rT.e_{H H':Hp}{C x dx p d m Pt:Addr}{mk:V}{kvs:List (List Key×V)}{mx:List V}{ps:Array Value}(k:rT H H' x d m Pt)(hx:H x=some (.ins C dx (fh p mk d m)))(hd:H d=some (.dT kvs))(hm:H m=some (.lst mx))(hP:H Pt=some (.pY ps)):∀a o u,H a=some (.e_ o u)->H' a=some (.e_ o u):=
 λa o u e=>k a _ e (aT e hx (by intro z;cases z)) (aT e hd (by intro z;cases z)) (aT e hm (by intro z;cases z)) (aT e hP (by intro z;cases z))
theorem gp.keep{K:Fg7}{C:Addr}{H H':Hp}{x p d m:Addr}{pl:Pl}{mk:Option Int}{ws:List Wn}{ms:List (Str×Int×Int)}(DA:gp K C H x p d m pl mk ws ms)(kx:∀o,H x=some o->H' x=some o)(kd:∀o,H d=some o->H' d=some o)(km:∀o,H m=some o->H' m=some o)
  (tp:∀a row,H a=some (.tup row)->H' a=some (.tup row))(fz:∀a o u,H a=some (.e_ o u)->H' a=some (.e_ o u)):gp K C H' x p d m pl mk ws ms:=by
 obtain⟨⟨dx,hx⟩,hp,⟨kvs,hd,hw⟩,⟨mx,hm,Jg⟩,nd⟩:=DA
 exact⟨⟨dx,kx _ hx⟩,jF tp fz hp,⟨kvs,kd _ hd,hw.keep tp⟩,⟨mx,km _ hm,Jg.keep tp⟩,nd⟩
theorem o_.keep{H H':Hp}{m r:Addr}{ys:List V}{outs:List (List eU)}(h:o_ H m r ys outs)(kl:∀l zs,l≠m->l≠r->H l=some (.lst zs)->H' l=some (.lst zs))(tp:∀a row,H a=some (.tup row)->H' a=some (.tup row)):o_ H' m r ys outs:=
 Paired.imp' (λ_ _ ⟨l,zs,e,n1,n2,h1,h2⟩=>⟨l,zs,e,n1,n2,kl l zs n1 n2 h1,h2.keep tp⟩) h
theorem o_.out{H:Hp}{m r:Addr}{ys:List V}{outs:List (List eU)}(h:o_ H m r ys outs):dg H ys outs:=Paired.imp' (λ_ _ ⟨l,zs,e,_,_,h1,h2⟩=>⟨l,zs,e,h1,h2⟩) h
theorem tQ{H:Hp}{x dx:Addr}{o u:HO}(nx:H x=none)(QU:H dx=none):aA H (upd (upd H dx u) x o):=λb z e=>by rw[ai (av e nx),ai (av e QU)];exact e
section
variable {P:Program} {w:World} {K:Fg7} {mg:Str->Option Value} {C Pt:Addr}
theorem Tq(D:aJ K "answers" fZ)(M:MG K mg)(T:eB K C)(gH:cJ P w K mg iS C "__init__" ["self","plan"] 4 (yH K C))(pD:cJ P w K mg iS C "do" ["self","deed"] 5 (Mb K mg C Pt)):ef P w K mg "answers" ["plan","deeds"] 6 (Kz K mg Pt):=by
 have bB:=T.cl
 refine D.fn M qM zF (λvs H Q E h=>?_) (λf base cdv A outer s H vs Q E hr h=>?_)
 ·obtain⟨p,dl,pl,xs,aQ,rfl,_⟩:=h
  rfl
 ·obtain⟨p,dl,pl,xs,aQ,rfl,hp,hb,ok,hl,hds,hok,hlen,hfx,hT,hB,k⟩:=h
  refine⟨_,(aq (cW (i:=2) qM.nd rfl (Or.inr rfl) (wU bB M gH fK (hr.mono (by decide)) rfl (pc (pv 0) aj)))
   (au (aL (eF (NY:=["deed","desk"]) (js:=[none,some 2]) rfl rfl (by with_unfolding_all rfl) (by repeat first|exact cD.nil|refine cD.cons rfl ?_) (.own (.out rfl rfl (.inl rfl) .nil)) (bD (pv 1)) (λ_ _ _ _ _=>⟨(aV (i:=0) (show(["deed","desk"]:List Str).Nodup from by decide +kernel) rfl (Or.inl rfl)),gP,(cX (pv 1) bB.cl pD fK (hr.mono (by decide)) (pc (pv 0) aj))⟩))))),?_⟩
  refine⟨_,rfl,λx dx nx QU nex=>?_⟩
  have s0:=tQ (o:=.ins C dx []) (u:=.own x) nx QU
  refine⟨x,dx,p,pl,rfl,af,s0.ji hp,hb,λd m H1 hd hm h1 h2 h3 kp=>⟨rfl,?_⟩⟩
  have s1:aA H H1:=λb o e=>kp b o (s0 b o e) (av e nx)
  refine⟨_,rfl,dl,rfl,⟨_,s1.seq hl⟩,λr hr'=>?_⟩
  obtain⟨Wh,GD⟩:=fy hT
  have xK:=s1 _ _ GD
  have hT1:bV H1 Pt lp lq:=bS hT (λps e=>s1 _ _ e) λa o u e=>s1 _ _ e
  have Jo:eK K mg H1:=c_ hB λa o u e=>s1 _ _ e
  have Ra:=hds.len
  have Ux:r≠x:=λz=>by rw[z,h1]at hr';cases hr'
  have Zj:r≠d:=λz=>by rw[z,h2]at hr';cases hr'
  have Zi:r≠m:=λz=>by rw[z,h3]at hr';cases hr'
  have Zk:r≠Pt:=λz=>by rw[z,xK]at hr';cases hr'
  have Wt:d≠m:=aT h2 h3 (by intro z;cases z)
  refine dQ (K:=K) (a:=dl) (xs:=xs) (λi ys H'=>∃(st:l_) (outs:List (List eU)),Runs pl ⟨none,[],[]⟩ (aQ.take i) outs st/\rT H1 H' x d m Pt/\H' r=some (.lst ys)/\o_ H' m r ys outs/\gp K C H' x p d m pl st.mk st.ws st.ms/\bV H' Pt lp lq/\eK K mg H')
   ⟨⟨none,[],[]⟩,[],.nil _,λb o e _ _ _ _=>(aA.new hr') b o e,af,.nil,?_,?_,?_⟩ (λi ys H' ⟨_,_,_,_,h,_⟩=>h) (λi ys H' _ ⟨_,_,_,kd,_⟩=>?_) ?_ ?_
  ·have s2:=aA.new (o:=.lst []) hr'
   exact⟨⟨dx,s2 _ _ h1⟩,s2.ji (s1.ji hp),⟨[],s2 _ _ h2,.nil⟩,⟨[],s2 _ _ h3,.nil⟩,.nil⟩
  ·exact bS hT1 (λps e=>(aA.new hr') _ _ e) λa o u e=>(aA.new hr') _ _ e
  ·exact c_ Jo λa o u e=>(aA.new hr') _ _ e
  ·have fz:=kd.e_ h1 h2 h3 xK
   rcases hl with(h|⟨o,h⟩)|h
   ·refine .inl (.inl (kd _ _ (s1 _ _ h) (av h nx) (av h (s0.free hd)) (av h (s0.free hm)) (aT h GD (by intro z;cases z))))
   ·exact .inl (.inr ⟨o,fz _ _ _ (s1 _ _ h)⟩)
   ·exact .inr h
  ·rintro i y ys H2 hi ⟨st,outs,rn,kd,hr2,si,DA,xy,hB2⟩
   obtain⟨dd,b,ed,rfl,hb1⟩:=hds.get hi
   have tp:=kd.tup h1 h2 h3 xK
   have fz:=kd.e_ h1 h2 h3 xK
   have hb2:bu K H2 b dd.v:=jF tp fz (s1.ji hb1)
   obtain⟨Yi,xJ⟩:=DA.ob
   obtain⟨Cz,hd2,UL⟩:=DA.wd
   obtain⟨mx2,hm2,Xp⟩:=DA.ml
   obtain⟨ps2,LC⟩:=fy xy
   have rl:=rn.len ok
   have hil:=(List.getElem?_eq_some_iff.mp ed).1
   have l1:(aQ.take i).length=i:=by rw[List.length_take];lia
   rw[l1]at rl
   simp only[List.length_nil,Nat.zero_add]at rl
   refine⟨cy rfl,?_⟩
   refine⟨_,rfl,x,Yi,_,rfl,xJ,yq p d m _ DK DK DK DK,_,rfl,x,p,d,m,b,pl,st,dd,rfl,DA,hb2,ok,hok dd (List.mem_of_getElem? ed),⟨by lia,hfx i outs st rn⟩,by lia,xy,hB2,λl zs out st' H3 dr k3 lO hl3 ZD YA Rc=>?_⟩
   have OR:=k3.tup xJ hd2 hm2 LC
   have SX:=k3.e_ xJ hd2 hm2 LC
   have Wr:l≠m:=λz=>by rw[z,hm2]at lO;cases lO
   have Uz:l≠r:=λz=>by rw[z,hr2]at lO;cases lO
   have CI:=k3 _ _ hr2 Ux Zj Zi Zk
   refine⟨ys,CI,?_,st',outs++[out],?_,λb o e n1 n2 n3 n4=>?_,af,?_,YA.keep ?_ ?_ ?_ ?_ ?_,?_,?_⟩
   ·have:=Paired.length si
    have:=sizeLine_eq
    lia
   ·rw[List.take_add_one,ed]
    exact .snoc rn dr
   ·rw[ai (av e hr')]
    exact k3 b o (kd b o e n1 n2 n3 n4) n1 n2 n3 n4
   ·have up:∀{a:Addr}{z:HO},H3 a=some z->a≠r->upd H3 r (.lst (ys++[.ref l])) a=some z:=λe n=>by rw[ai n];exact e
    have YE:∀a row,H3 a=some (.tup row)->upd H3 r (.lst (ys++[.ref l])) a=some (.tup row):=λa row e=>up e (aT e CI (by intro z;cases z))
    refine Paired.snoc ((si.keep (λl' zs' n1 n2 e=>k3 _ _ e (aT e xJ (by intro z;cases z)) (aT e hd2 (by intro z;cases z)) n1 (aT e LC (by intro z;cases z))) OR).keep (λl' zs' n1 n2 e=>up e n2) YE) ⟨l,zs,rfl,Wr,Uz,up hl3 Uz,ZD.keep YE⟩
   ·exact λo e=>by rw[ai Ux.symm];exact e
   ·exact λo e=>by rw[ai Zj.symm];exact e
   ·exact λo e=>by rw[ai Zi.symm];exact e
   ·exact λa row e=>by rw[ai (aT e CI (by intro z;cases z))];exact e
   ·exact λa o u e=>by rw[ai (aT e CI (by intro z;cases z))];exact e
   ·exact bS Rc (λps e=>by rw[ai Zk.symm];exact e) λa o u e=>by rw[ai (aT e CI (by intro z;cases z))];exact e
   ·exact c_ (c_ hB2 SX) λa o u e=>by rw[ai (aT e CI (by intro z;cases z))];exact e
  ·rintro ys H2 ⟨st,outs,rn,kd,hr2,si,DA,xy,hB2⟩
   rw[Ra,List.take_length]at rn
   refine k r ys outs st H2 rn (λb o e n=>?_) (s1.free hr') hr2 si.out xy
   have hxn:H x=none:=nx
   have hdn:b≠d:=λz=>by
    have:=s0.free (l:=d) hd
    rw[z,this]at e;cases e
   have hmn:b≠m:=λz=>by
    have:=s0.free (l:=m) hm
    rw[z,this]at e;cases e
   exact kd b o (s1 b o e) (av e nx) hdn hmn n
end
inductive tP(K:Fg7)(mg:Str->Option Value)(C:Addr)(Pt:Addr)(vs:List V)(H:Hp)(Q:VK):Prop
 |mk(p dl:Addr)(pl:Pl)(xs:List V)(aQ:List bf):(vs=[.ref p,.ref dl])->(bu K H p pl.row)->(bad pl=false)->(pl.ok)->(br K H dl xs)->(gA K H xs aQ)->((∀dd∈aQ,dd.ok))->(aQ.length<=1000)->((∀i outs st,Runs pl ⟨none,[],[]⟩ (aQ.take i) outs st->st.ws.length<TS.MX))->(bV H Pt lp lq)->(eK K mg H)->(∀(x d m:Addr)(outs:List (List eU))(st:l_)(H':Hp),Runs pl ⟨none,[],[]⟩ aQ outs st->gM H H' Pt->gp K C H' x p d m pl st.mk st.ws st.ms->bV H' Pt lp lq->eK K mg H'->Q (.ref x) H')->tP K mg C Pt vs H Q
def mE(K:Fg7)(mg:Str->Option Value)(C Pt:Addr):Sp:=λvs H Q d_=>tP K mg C Pt vs H Q
section
variable {P:Program} {w:World} {K:Fg7} {mg:Str->Option Value} {C Pt:Addr}
theorem GN(D:aJ K "desk_behind" dH)(M:MG K mg)(T:eB K C)(gH:cJ P w K mg iS C "__init__" ["self","plan"] 4 (yH K C))(pD:cJ P w K mg iS C "do" ["self","deed"] 5 (Mb K mg C Pt)):ef P w K mg "desk_behind" ["plan","deeds"] 6 (mE K mg C Pt):=by
 have bB:=T.cl
 refine D.fn M ie rJ (λvs H Q E h=>?_) (λf base cdv A outer s H vs Q E hr h=>?_)
 ·obtain⟨p,dl,pl,xs,aQ,rfl,_⟩:=h
  rfl
 ·obtain⟨p,dl,pl,xs,aQ,rfl,hp,hb,ok,hl,hds,hok,hlen,hfx,hT,hB,k⟩:=h
  refine⟨_,(aq (cW (i:=2) ie.nd rfl (Or.inl rfl) (wU bB M gH fK (hr.mono (by decide)) rfl (pc (pv 0) aj)))
   (aq (eZ PassesOwn.never rfl (bD (pv 1)) (aV (i:=3) ie.nd rfl (Or.inl rfl))
   (au (gI (cX (pv 2) bB.cl pD fK (hr.mono (by decide)) (pc (pv 3) aj)))))
   (au (aL (pv 2))))),?_⟩
  refine⟨_,rfl,λx dx nx QU nex=>?_⟩
  have s0:=tQ (o:=.ins C dx []) (u:=.own x) nx QU
  refine⟨x,dx,p,pl,rfl,af,s0.ji hp,hb,λd m H1 hd hm h1 h2 h3 kp=>⟨rfl,?_⟩⟩
  have s1:aA H H1:=λb o e=>kp b o (s0 b o e) (av e nx)
  obtain⟨Wh,GD⟩:=fy hT
  have xK:=s1 _ _ GD
  have hT1:bV H1 Pt lp lq:=bS hT (λps e=>s1 _ _ e) λa o u e=>s1 _ _ e
  have Jo:eK K mg H1:=c_ hB λa o u e=>s1 _ _ e
  have Ra:=hds.len
  refine⟨_,rfl,dl,rfl,⟨_,s1.seq hl⟩,?_⟩
  refine eS (K:=K) (a:=dl) (xs:=xs) (λi σ H'=>∃(v:Option V) (st:l_) (outs:List (List eU)),σ=[some (.ref p),some (.ref dl),some (.ref x),v]/\Runs pl ⟨none,[],[]⟩ (aQ.take i) outs st/\rT H1 H' x d m Pt/\gp K C H' x p d m pl st.mk st.ws st.ms/\bV H' Pt lp lq/\eK K mg H')
   ⟨none,⟨none,[],[]⟩,[],rfl,.nil _,λb o e _ _ _ _=>e,⟨⟨dx,h1⟩,s1.ji hp,⟨[],h2,.nil⟩,⟨[],h3,.nil⟩,.nil⟩,hT1,Jo⟩ (λi σ H' _ ⟨_,_,_,_,_,kd,_⟩=>?_) ?_ ?_
  ·have fz:=kd.e_ h1 h2 h3 xK
   rcases hl with(h|⟨o,h⟩)|h
   ·refine .inl (.inl (kd _ _ (s1 _ _ h) (av h nx) (av h (s0.free hd)) (av h (s0.free hm)) (aT h GD (by intro z;cases z))))
   ·exact .inl (.inr ⟨o,fz _ _ _ (s1 _ _ h)⟩)
   ·exact .inr h
  ·rintro i y σ H2 hi ⟨v,st,outs,rfl,rn,kd,DA,xy,hB2⟩
   obtain⟨dd,b,ed,rfl,hb1⟩:=hds.get hi
   have tp:=kd.tup h1 h2 h3 xK
   have fz:=kd.e_ h1 h2 h3 xK
   have hb2:bu K H2 b dd.v:=jF tp fz (s1.ji hb1)
   obtain⟨Yi,xJ⟩:=DA.ob
   obtain⟨Cz,hd2,UL⟩:=DA.wd
   obtain⟨mx2,hm2,Xp⟩:=DA.ml
   obtain⟨ps2,LC⟩:=fy xy
   have rl:=rn.len ok
   have hil:=(List.getElem?_eq_some_iff.mp ed).1
   have l1:(aQ.take i).length=i:=by rw[List.length_take];lia
   rw[l1]at rl
   simp only[List.length_nil,Nat.zero_add]at rl
   refine⟨_,rfl,x,Yi,_,rfl,xJ,yq p d m _ DK DK DK DK,_,rfl,x,p,d,m,b,pl,st,dd,rfl,DA,hb2,ok,hok dd (List.mem_of_getElem? ed),⟨by lia,hfx i outs st rn⟩,by lia,xy,hB2,λl zs out st' H3 dr k3 lO hl3 ZD YA Rc=>?_⟩
   have SX:=k3.e_ xJ hd2 hm2 LC
   refine⟨_,st',outs++[out],rfl,?_,λb o e n1 n2 n3 n4=>k3 b o (kd b o e n1 n2 n3 n4) n1 n2 n3 n4,YA,Rc,c_ hB2 SX⟩
   rw[List.take_add_one,ed]
   exact .snoc rn dr
  ·rintro σ H2 ⟨v,st,outs,rfl,rn,kd,DA,xy,hB2⟩
   rw[Ra,List.take_length]at rn
   refine⟨_,rfl,k x d m outs st H2 rn (λb o e n=>?_) DA xy hB2⟩
   have hdn:b≠d:=λz=>by
    have:=s0.free (l:=d) hd
    rw[z,this]at e;cases e
   have hmn:b≠m:=λz=>by
    have:=s0.free (l:=m) hm
    rw[z,this]at e;cases e
   exact kd b o (s1 b o e) (av e nx) hdn hmn n
end
inductive Aw(K:Fg7)(C:Addr)(vs:List V)(H:Hp)(Q:VK):Prop
 |mk(x dx p d m:Addr)(mk:Option Int)(pl:Pl)(e:Int):(vs=[.ref x,.int e])->(H x=some (.ins C dx (fh p (yk mk) d m)))->(bu K H p pl.row)->(Q (.bl (kept mk (cB pl) e)) H)->Aw K C vs H Q
def Es(K:Fg7)(C:Addr):Sp:=λvs H Q d_=>Aw K C vs H Q
inductive wA(K:Fg7)(mg:Str->Option Value)(Pt:Addr)(vs:List V)(H:Hp)(Q:VK):Prop
 |mk(p dl:Addr)(pl:Pl)(xs:List V)(aQ:List bf):(vs=[.ref p,.ref dl])->(bu K H p pl.row)->(bad pl=false)->(pl.ok)->(br K H dl xs)->(gA K H xs aQ)->((∀dd∈aQ,dd.ok))->(aQ.length<=1000)->((∀i outs st,Runs pl ⟨none,[],[]⟩ (aQ.take i) outs st->TS.Fits st.ws.length))->(bV H Pt lp lq)->(eK K mg H)->(∀(r:Addr)(zs:List V)(outs:List (List eU))(st:l_)(rs:List Wn)(H':Hp),Runs pl ⟨none,[],[]⟩ aQ outs st->gM H H' Pt->H' r=some (.lst zs)->rs.Perm st.ws->(rs.map Wn.d).Pairwise (λd e=>aY d e≠.gt)->aC Wn.v H' zs (rs.filter λw=>closed st.mk w.e)->bV H' Pt lp lq->eK K mg H'->Q (.ref r) H')->wA K mg Pt vs H Q
def Ag(K:Fg7)(mg:Str->Option Value)(Pt:Addr):Sp:=λvs H Q d_=>wA K mg Pt vs H Q
def Iq(mk:Option Int)(w:Wn):List V:=w.v++[.bl (closed mk w.e)]
inductive wI(K:Fg7)(mg:Str->Option Value)(Pt:Addr)(vs:List V)(H:Hp)(Q:VK):Prop
 |mk(p dl:Addr)(pl:Pl)(xs:List V)(aQ:List bf):(vs=[.ref p,.ref dl])->(bu K H p pl.row)->(bad pl=false)->(pl.ok)->(br K H dl xs)->(gA K H xs aQ)->((∀dd∈aQ,dd.ok))->(aQ.length<=1000)->((∀i outs st,Runs pl ⟨none,[],[]⟩ (aQ.take i) outs st->TS.Fits st.ws.length))->(bV H Pt lp lq)->(eK K mg H)->(∀(r:Addr)(zs:List V)(outs:List (List eU))(st:l_)(rs:List Wn)(H':Hp),Runs pl ⟨none,[],[]⟩ aQ outs st->gM H H' Pt->H' r=some (.lst zs)->rs.Perm st.ws->(rs.map Wn.d).Pairwise (λd e=>aY d e≠.gt)->aC (Iq st.mk) H' zs (rs.filter λw=>kept st.mk (cB pl) w.e)->bV H' Pt lp lq->eK K mg H'->Q (.ref r) H')->wI K mg Pt vs H Q
def Ax(K:Fg7)(mg:Str->Option Value)(Pt:Addr):Sp:=λvs H Q d_=>wI K mg Pt vs H Q
section
variable {P:Program} {w:World} {K:Fg7} {mg:Str->Option Value} {C Pt:Addr}
theorem Oa(D:bA K C "is_kept" "Desk.is_kept" dm)(M:MG K mg)(T:eB K C)(iE:ef P w K mg "grace_of" ["plan"] 1 (qy K)):cJ P w K mg iS C "is_kept" ["self","end"] 2 (Es K C):=by
 refine D.fn pZ qj (λvs H Q E h=>?_) (λf base cdv A outer s H vs Q E hr h=>?_)
 ·obtain⟨x,dx,p,d,m,mk,pl,t,rfl,_⟩:=h
  rfl
 ·obtain⟨x,dx,p,d,m,mk,pl,t,rfl,hx,hp,k⟩:=h
  refine⟨_,(au (aL (K_ (eG uU (dD (pv 0) rfl) iw (aM _)) (iu (eG QJ (pv 1) (aD qS (dD (pv 0) rfl) (aW iE (hr.mono (by decide)) rfl (pc (dD (pv 0) rfl) aj))) (aM _)))))),?_⟩
  refine⟨_,rfl,x,C,dx,_,_,rfl,hx,T.cl.cl,T.nM,fM p d m _,rfl,_,rfl,?_⟩
  cases mk with
  |none=>exact Jd k
  |some mm=>exact CD ⟨_,rfl,_,rfl,x,C,dx,_,_,rfl,hx,T.cl.cl,T.nM,fM p d m _,_,rfl,x,C,dx,_,_,rfl,hx,T.cl.cl,T.nP,fP p d m _,p,pl,rfl,hp,_,_,rfl,rfl,_,_,rfl,rfl,k⟩
theorem Jt(D:aJ K "standing" fE)(M:MG K mg)(T:eB K C)(fm:ef P w K mg "desk_behind" ["plan","deeds"] 6 (mE K mg C Pt))(jU:cJ P w K mg iS C "rows" ["self"] 1 (yG C))(bN:cJ P w K mg iS C "is_closed" ["self","end"] 1 (jG C)):ef P w K mg "standing" ["plan","deeds"] 7 (Ag K mg Pt):=by
 have bB:=T.cl
 refine D.fn M pN xW (λvs H Q E h=>?_) (λf base cdv A outer s H vs Q E hr h=>?_)
 ·obtain⟨p,dl,pl,xs,aQ,rfl,_⟩:=h
  rfl
 ·obtain⟨p,dl,pl,xs,aQ,rfl,hp,hb,ok,hl,hds,hok,hlen,hfx,hT,hB,k⟩:=h
  refine⟨_,(aq (cW (i:=2) pN.nd rfl (Or.inr rfl) (aW fm (hr.mono (by decide)) rfl (pc (pv 0) (pc (pv 1) aj))))
   (au (aL (eF (NY:=["row","desk"]) (js:=[none,some 2]) rfl rfl (by with_unfolding_all rfl) (by repeat first|exact cD.nil|refine cD.cons rfl ?_) (.own (.out rfl rfl (.inl rfl) .nil)) (bD (tV (pv 2) bB.cl jU fK (hr.mono (by decide)))) (λ_ _ _ _ _=>⟨(aV (i:=0) (show(["row","desk"]:List Str).Nodup from by decide +kernel) rfl (Or.inl rfl)),(gx (bU (cX (pv 1) bB.cl bN fK (hr.mono (by decide)) (pc (aH (bx (K:=K) rfl) (pv 0) ah (λ_ _=>rfl)) aj)))),(pv 0)⟩))))),?_⟩
  refine⟨_,rfl,_,rfl,p,dl,pl,xs,aQ,rfl,hp,hb,ok,hl,hds,hok,hlen,λi outs st r=>(hfx i outs st r).2,hT,hB,λx d m outs st H1 rn kp DA Rg Jo=>?_⟩
  obtain⟨dx,hx⟩:=DA.ob
  obtain⟨kvs,hd,hw⟩:=DA.wd
  have fit:TS.Fits st.ws.length:=hfx aQ.length outs st (by rw[List.take_length];exact rn)
  refine⟨_,rfl,x,dx,_,rfl,hx,yq p d m _ DK DK DK DK,x,dx,p,d,m,_,kvs,st.ws,rfl,hx,hd,hw,fit,λl zs rs H2 s2 lO hl2 lr pm pw=>?_⟩
  have xJ:=s2 _ _ hx
  have lrl:=lr.len
  have VW:=pm.length_eq
  have XY:=fit.1
  refine⟨l,rfl,⟨_,br.of hl2⟩,λr hr=>?_⟩
  have Ux:∀o,upd H2 r o x=H2 x:=λo=>ai (av xJ hr)
  refine dQ (K:=K) (a:=l) (xs:=zs) (λi ys H3=>H3=upd H2 r (.lst ys)/\aC Wn.v H2 ys ((rs.take i).filter λw=>closed st.mk w.e)) ⟨rfl,.nil⟩ (λi ys H3 h=>by rw[h.1];exact af) (λi ys H3 _ h=>by rw[h.1];exact br.of ((aA.new hr) _ _ hl2)) ?_ ?_
  ·rintro i y ys H3 ex ⟨rfl,la⟩
   obtain⟨w,b,ew,rfl,hb'⟩:=lr.get ex
   have htk:rs.take (i+1)=rs.take i++[w]:=by rw[List.take_add_one,ew];rfl
   have hb2:=(aA.new (o:=.lst ys) hr) _ _ hb'
   have CH:=(aA.new (o:=.lst ys) hr) _ _ xJ
   refine⟨cy rfl,?_⟩
   refine⟨_,rfl,x,dx,_,rfl,CH,yq p d m _ DK DK DK DK,_,rfl,b,_,2,.int w.e,rfl,rfl,bu.of hb2,rfl,x,dx,p,d,m,st.mk,w.e,rfl,CH,_,rfl,aO (λh=>?_) (λh=>?_)⟩
   ·refine⟨_,rfl,ys,af,?_,by rw[gu],?_⟩
    ·have:=la.len
     have:=List.length_filter_le (λw:Wn=>closed st.mk w.e) (rs.take i)
     rw[List.length_take]at this
     rw[sizeLine_eq]
     lia
    ·rw[htk,List.filter_append,List.filter_cons,if_pos h,List.filter_nil]
     exact la.snoc hb'
   ·refine⟨ys,rfl,?_⟩
    rw[htk,List.filter_append,List.filter_cons,if_neg h,List.filter_nil,List.append_nil]
    exact la
  ·rintro ys H3 ⟨rfl,la⟩
   rw[lrl,List.take_length]at la
   have sr:=aA.new (o:=.lst ys) hr
   exact k r ys outs st rs _ rn (λb o e n=>sr _ _ (s2 _ _ (kp b o e n))) af pm pw (la.keep λa row e=>sr _ _ e) (bS Rg (λps e=>sr _ _ (s2 _ _ e)) λa o u e=>sr _ _ (s2 _ _ e)) (c_ Jo λa o u e=>sr _ _ (s2 _ _ e))
theorem xQ(D:aJ K "kept_after" dU)(M:MG K mg)(T:eB K C)(fm:ef P w K mg "desk_behind" ["plan","deeds"] 6 (mE K mg C Pt))(jU:cJ P w K mg iS C "rows" ["self"] 1 (yG C))(bN:cJ P w K mg iS C "is_closed" ["self","end"] 1 (jG C))(rY:cJ P w K mg iS C "is_kept" ["self","end"] 2 (Es K C)):ef P w K mg "kept_after" ["plan","deeds"] 7 (Ax K mg Pt):=by
 have bB:=T.cl
 refine D.fn M kO sI (λvs H Q E h=>?_) (λf base cdv A outer s H vs Q E hr h=>?_)
 ·obtain⟨p,dl,pl,xs,aQ,rfl,_⟩:=h
  rfl
 ·obtain⟨p,dl,pl,xs,aQ,rfl,hp,hb,ok,hl,hds,hok,hlen,hfx,hT,hB,k⟩:=h
  refine⟨_,(aq (cW (i:=2) kO.nd rfl (Or.inr rfl) (aW fm (hr.mono (by decide)) rfl (pc (pv 0) (pc (pv 1) aj))))
   (au (aL (eF (NY:=["row","desk"]) (js:=[none,some 2]) rfl rfl (by with_unfolding_all rfl) (by repeat first|exact cD.nil|refine cD.cons rfl ?_) (.own (.out rfl rfl (.inl rfl) .nil)) (bD (tV (pv 2) bB.cl jU fK (hr.mono (by decide)))) (λ_ _ _ _ _=>⟨(aV (i:=0) (show(["row","desk"]:List Str).Nodup from by decide +kernel) rfl (Or.inl rfl)),(gx (bU (cX (pv 1) bB.cl rY fK (hr.mono (by decide)) (pc (aH (bx (K:=K) rfl) (pv 0) ah (λ_ _=>rfl)) aj)))),(aD (gC (K:=K) rfl) (pv 0) (cK (pc (cX (pv 1) bB.cl bN fK (hr.mono (by decide)) (pc (aH (bx (K:=K) rfl) (pv 0) ah (λ_ _=>rfl)) aj)) aj)))⟩))))),?_⟩
  refine⟨_,rfl,_,rfl,p,dl,pl,xs,aQ,rfl,hp,hb,ok,hl,hds,hok,hlen,λi outs st r=>(hfx i outs st r).2,hT,hB,λx d m outs st H1 rn kp DA Rg Jo=>?_⟩
  obtain⟨dx,hx⟩:=DA.ob
  obtain⟨kvs,hd,hw⟩:=DA.wd
  have fit:TS.Fits st.ws.length:=hfx aQ.length outs st (by rw[List.take_length];exact rn)
  refine⟨_,rfl,x,dx,_,rfl,hx,yq p d m _ DK DK DK DK,x,dx,p,d,m,_,kvs,st.ws,rfl,hx,hd,hw,fit,λl zs rs H2 s2 lO hl2 lr pm pw=>?_⟩
  have xJ:=s2 _ _ hx
  have lrl:=lr.len
  have VW:=pm.length_eq
  have XY:=fit.1
  refine⟨l,rfl,⟨_,br.of hl2⟩,λr hr=>?_⟩
  have Ux:∀o,upd H2 r o x=H2 x:=λo=>ai (av xJ hr)
  have hpx:bu K H2 p pl.row:=s2.ji DA.pl
  refine dQ (K:=K) (a:=l) (xs:=zs) (λi ys H3=>aA H2 H3/\H3 r=some (.lst ys)/\aC (Iq st.mk) H3 ys ((rs.take i).filter λw=>kept st.mk (cB pl) w.e)) ⟨aA.new hr,af,.nil⟩ (λi ys H3 h=>h.2.1) (λi ys H3 _ h=>br.of (h.1 _ _ hl2)) ?_ ?_
  ·rintro i y ys H3 ex ⟨s3,CI,la⟩
   obtain⟨w,b,ew,rfl,hb'⟩:=lr.get ex
   have htk:rs.take (i+1)=rs.take i++[w]:=by rw[List.take_add_one,ew];rfl
   have hb2:=s3 _ _ hb'
   have CH:=s3 _ _ xJ
   refine⟨cy rfl,?_⟩
   refine⟨_,rfl,x,dx,_,rfl,CH,yq p d m _ DK DK DK DK,_,rfl,b,_,2,.int w.e,rfl,rfl,bu.of hb2,rfl,x,dx,p,d,m,st.mk,pl,w.e,rfl,CH,s3.ji hpx,_,rfl,aO (λh=>?_) (λh=>?_)⟩
   ·refine⟨_,rfl,_,rfl,x,dx,_,rfl,CH,yq p d m _ DK DK DK DK,_,rfl,b,_,2,.int w.e,rfl,rfl,bu.of hb2,rfl,x,dx,p,d,m,st.mk,w.e,rfl,CH,(by show 1<=sizeLine;decide),λc hc=>?_⟩
    have sc:=aA.new (o:=.tup [.bl (closed st.mk w.e)]) hc
    refine⟨b,c,_,_,rfl,rfl,bu.of (sc _ _ hb2),bu.of af,(by intro z;cases z),(by show 6<=sizeLine;decide),(λz=>nomatch z),λ_ c2 hc2=>?_⟩
    have s4:=sc.trans (aA.new (o:=.tup (Iq st.mk w)) hc2)
    have nr2:c2≠r:=λz=>by rw[z,sc _ _ CI]at hc2;cases hc2
    refine⟨ys,s4 _ _ CI,?_,λb o e=>?_,af,?_⟩
    ·have:=la.len
     have:=List.length_filter_le (λw:Wn=>kept st.mk (cB pl) w.e) (rs.take i)
     rw[List.length_take]at this
     rw[sizeLine_eq]
     lia
    ·rw[ai (av e hr)]
     exact s4 _ _ (s3 _ _ e)
    ·rw[htk,List.filter_append,List.filter_cons,if_pos h,List.filter_nil]
     refine(la.keep λa row e=>?_).snoc ?_
     ·rw[ai (aT e CI (by intro z;cases z))]
      exact s4 _ _ e
     ·rw[ai nr2]
      exact af
   ·refine⟨ys,s3,CI,?_⟩
    rw[htk,List.filter_append,List.filter_cons,if_neg h,List.filter_nil,List.append_nil]
    exact la
  ·rintro ys H3 ⟨s3,CI,la⟩
   rw[lrl,List.take_length]at la
   exact k r ys outs st rs _ rn (λb o e n=>s3 _ _ (s2 _ _ (kp b o e n))) CI pm pw la (bS Rg (λps e=>s3 _ _ (s2 _ _ e)) λa o u e=>s3 _ _ (s2 _ _ e)) (c_ Jo λa o u e=>s3 _ _ (s2 _ _ e))
end
def MN(q:Str×Int×Int):List V:=[.str q.1,.int q.2.1,.int q.2.2]
inductive tM(K:Fg7)(mg:Str->Option Value)(Pt:Addr)(vs:List V)(H:Hp)(Q:VK):Prop
 |mk(p dl:Addr)(pl:Pl)(xs:List V)(aQ:List bf):(vs=[.ref p,.ref dl])->(bu K H p pl.row)->(bad pl=false)->(pl.ok)->(br K H dl xs)->(gA K H xs aQ)->((∀dd∈aQ,dd.ok))->(aQ.length<=1000)->((∀i outs st,Runs pl ⟨none,[],[]⟩ (aQ.take i) outs st->st.ws.length<TS.MX))->(bV H Pt lp lq)->(eK K mg H)->(∀(r:Addr)(zs:List V)(outs:List (List eU))(st:l_)(H':Hp),Runs pl ⟨none,[],[]⟩ aQ outs st->gM H H' Pt->H' r=some (.lst zs)->aC MN H' zs st.ms->bV H' Pt lp lq->eK K mg H'->Q (.ref r) H')->tM K mg Pt vs H Q
def wG(K:Fg7)(mg:Str->Option Value)(Pt:Addr):Sp:=λvs H Q d_=>tM K mg Pt vs H Q
section
variable {P:Program} {w:World} {K:Fg7} {mg:Str->Option Value} {C Pt:Addr}
theorem GK(D:aJ K "missed" gU)(M:MG K mg)(T:eB K C)(fm:ef P w K mg "desk_behind" ["plan","deeds"] 6 (mE K mg C Pt)):ef P w K mg "missed" ["plan","deeds"] 7 (wG K mg Pt):=by
 have bB:=T.cl
 refine D.fn M BS C_ (λvs H Q E h=>?_) (λf base cdv A outer s H vs Q E hr h=>?_)
 ·obtain⟨p,dl,pl,xs,aQ,rfl,_⟩:=h
  rfl
 ·obtain⟨p,dl,pl,xs,aQ,rfl,hp,hb,ok,hl,hds,hok,hlen,hfx,hT,hB,k⟩:=h
  refine⟨_,(au (aL (dD (aW fm (hr.mono (by decide)) rfl (pc (pv 0) (pc (pv 1) aj))) rfl))),?_⟩
  refine⟨_,rfl,_,rfl,p,dl,pl,xs,aQ,rfl,hp,hb,ok,hl,hds,hok,hlen,hfx,hT,hB,λx d m outs st H1 rn kp DA Rg Jo=>?_⟩
  obtain⟨dx,hx⟩:=DA.ob
  obtain⟨zs,hm,lm⟩:=DA.ml
  exact⟨x,C,dx,_,_,rfl,hx,T.cl.cl,T.nS,fS p d m _,k m zs outs st H1 rn kp hm lm Rg Jo⟩
end
end K2
namespace K3
open PySem PySem.Spec PyProof.Rows L2 K1 K2
theorem Cp{mk:Option Int}{ws:List Wn}{ks:List Ky}{z:eU}:z∈fU mk ws ks↔∃k w,k∈ks/\closed mk k.e=true/\dc ws k.l=some w/\z=.told w:=by
 unfold fU
 constructor
 ·intro h
  obtain⟨k,hk,e⟩:=List.mem_filterMap.mp h
  obtain⟨w,hw,rfl⟩:=Option.map_eq_some_iff.mp e
  exact⟨k,w,(List.mem_filter.mp hk).1,(List.mem_filter.mp hk).2,hw,rfl⟩
 ·rintro⟨k,w,hk,hc,hw,rfl⟩
  exact List.mem_filterMap.mpr ⟨k,List.mem_filter.mpr ⟨hk,hc⟩,by rw[hw];rfl⟩
open Classical in
theorem Cq{mk:Option Int}{ms ks:List Ky}{z:eU}:z∈fV mk ms ks↔∃k,k∈ms/\k∉ks/\closed mk k.e=true/\z=.gone k:=by
 unfold fV
 constructor
 ·intro h
  obtain⟨k,hk,rfl⟩:=List.mem_map.mp h
  obtain⟨h1,h2⟩:=List.mem_filter.mp hk
  have h2:=(Bool.and_eq_true _ _).mp h2
  exact⟨k,h1,of_decide_eq_true h2.1,h2.2,rfl⟩
 ·rintro⟨k,h1,h2,h3,rfl⟩
  exact List.mem_map_of_mem (List.mem_filter.mpr ⟨h1,(Bool.and_eq_true _ _).mpr ⟨decide_eq_true h2,h3⟩⟩)
def uO:eU->Dv
 |.told w=>.tup [.str "told",.str w.n,.int w.s,.int w.e,.int w.c,.int w.t]
 |.gone k=>.tup [.str "gone",.str k.n,.int k.s,.int k.e]
 |.missed n t a=>.tup [.str "missed",.str n,.int t,.int a]
theorem Mg{K:Fg7}{H:Hp}{a:Addr}{z:eU}(h:H a=some (.tup z.v)):Dn K H (.ref a) (uO z):=by
 cases z with
 |told w=>exact .tup (bu.of h) (.cons (.str _) (.cons (.str _) (.cons (.int _) (.cons (.int _) (.cons (.int _) (.cons (.int _) .nil))))))
 |gone k=>exact .tup (bu.of h) (.cons (.str _) (.cons (.str _) (.cons (.int _) (.cons (.int _) .nil))))
 |missed n t a=>exact .tup (bu.of h) (.cons (.str _) (.cons (.str _) (.cons (.int _) (.cons (.int _) .nil))))
theorem Ij{K:Fg7}{H:Hp}{l:Addr}{zs:List V}{o:List eU}(h:H l=some (.lst zs))(la:aC eU.v H zs o):Dn K H (.ref l) (.lst (o.map uO)):=.lst (br.of h) (la.Oj λ_ _ h=>Mg h)
theorem AH(z:eU):(uO z).dep<=1:=by cases z<;>exact Nat.le_of_ble_eq_true rfl
theorem EI(o:List eU):(Dv.lst (o.map uO)).dep<=30:=by
 have h:Dv.deps (o.map uO)<=1:=by
  induction o with
  |nil=>exact Nat.zero_le _
  |cons z o ih=>exact Nat.max_le.mpr ⟨AH z,ih⟩
 show Dv.deps (o.map uO)+1<=30
 lia
theorem uC{a b:Str}(h:a≠b):¬decide (V.str a=V.str b)=true:=λz=>h (V.str.inj (of_decide_eq_true z))
theorem zm{i j:Int}(h:i=j){A:Prop}:(!decide (V.int i=V.int j))=true->A:=λz=>by rw[decide_eq_true (by rw[h])]at z;cases z
theorem BX{pl:Pl}{wo st:l_}{aQ:List bf}{outs:List (List eU)}(h:Runs pl wo aQ outs st):∃S:Nat->l_,S 0=wo/\S aQ.length=st/\outs.length=aQ.length/\∀i dd out,aQ[i]? = some dd->outs[i]? = some out->iF pl (S i) dd out (S (i+1)):=by
 induction h with
 |nil=>exact⟨λ_=>wo,rfl,rfl,rfl,λi dd out h=>by simp at h⟩
 | @snoc st1 st2 aQ outs dd out r d ih=>
  obtain⟨S,h0,h1,h2,h3⟩:=ih
  refine⟨λi=>if i<=aQ.length then S i else st2,?_,?_,?_,?_⟩
  ·simp only[Nat.zero_le,if_true,h0]
  ·rw[List.length_append,List.length_singleton]
   exact if_neg LI
  ·rw[List.length_append,List.length_append,h2];rfl
  ·intro i d' o' e1 e2
   have hi:=(List.getElem?_eq_some_iff.mp e1).1
   rw[List.length_append,List.length_singleton]at hi
   by_cases hlt:i<aQ.length
   ·rw[List.getElem?_append_left hlt]at e1
    rw[List.getElem?_append_left LI]at e2
    show iF pl (if i<=aQ.length then S i else st2) d' o' (if i+1<=aQ.length then S (i+1)else st2)
    rw[if_pos LI,if_pos LI]
    exact h3 i d' o' e1 e2
   ·have e:i=aQ.length:=by lia
    subst e
    rw[List.getElem?_append_right (Nat.le_refl _),Nat.sub_self]at e1
    rw[List.getElem?_append_right LI,h2,Nat.sub_self]at e2
    cases e1;cases e2
    show iF pl (if aQ.length<=aQ.length then S aQ.length else st2) dd out (if aQ.length+1<=aQ.length then S (aQ.length+1)else st2)
    rw[if_pos (Nat.le_refl _),if_neg LI,h1]
    exact d
theorem Oi{pl:Pl}{st st':l_}{dd:bf}{out:List eU}(ok:pl.ok)(h:iF pl st dd out st'):out.length<=st.ws.length+100:=by
 cases dd with
 |ev n t a=>
  rcases h with⟨_,rfl,_⟩|⟨_,mt,ks,fN,er,rfl,_⟩
  ·exact Nat.le_trans (by decide:1<=100) (Nat.le_add_left _ _)
  ·have h1:=oM st.mk mt ks
   have h2:=nL st.mk fN ks
   have h3:mt.length<=st.ws.length/\ks.length<=100:=by
    rcases er with⟨_,rfl,rfl,_⟩|⟨_,pm,_,s,e,_,_,_,_,_,_,rfl,_⟩
    ·refine⟨Nat.zero_le _,?_⟩
     unfold cg
     rw[List.length_map]
     exact uH ok t
    ·refine⟨?_,show 1<=100 by decide⟩
     rw[pm.length_eq,List.length_map]
     exact List.length_filter_le _ _
   rw[List.length_append]
   lia
 |mk t=>
  rcases h with⟨_,rfl,_⟩|⟨_,rs,p,_,rfl,_⟩
  ·exact Nat.zero_le _
  ·rw[List.length_map,p.length_eq]
   exact Nat.le_trans (List.length_filter_le _ _) (Nat.le_add_right _ _)
theorem FH{pl:Pl}{S:Nat->l_}{aQ:List bf}{outs:List (List eU)}(ok:pl.ok)(h0:(S 0).ws=[])(hl:outs.length=aQ.length)(h:∀i dd out,aQ[i]? = some dd->outs[i]? = some out->iF pl (S i) dd out (S (i+1))):∀i,i<=aQ.length->(S i).ws.length<=100*i:=by
 intro i
 induction i with
 |zero=>intro _;rw[h0];exact Nat.le_refl _
 |succ i ih=>
  intro hi
  have h1:=ih LI
  have h2:=(h i aQ[i] (outs[i]' LI) (List.getElem?_eq_getElem LI) (List.getElem?_eq_getElem LI)).len ok
  lia
theorem EH{H:Hp}{xs:List V}{os:List (List eU)}{i:Nat}{x:V}(h:dg H xs os)(e:xs[i]? = some x):∃l zs o,x=.ref l/\H l=some (.lst zs)/\os[i]? = some o/\aC eU.v H zs o:=by
 obtain⟨o,eo,l,zs,e1,h1,h2⟩:=Paired.getL h e
 exact⟨l,zs,o,e1,h1,eo,h2⟩
def iZ(pl:Pl)(q:List Ev×Option Int):bf->List Ev×Option Int
 |.ev n t a=>if late q.2 (cB pl) t=true then q else(q.1++[⟨n,t,a⟩],q.2)
 |.mk t=>(q.1,match q.2 with
  |none=>some t
  |some m=>if m<t then some t else some m)
def jB(pl:Pl)(aQ:List bf):List Ev×Option Int:=aQ.foldl (iZ pl) ([],none)
theorem Cu(pl:Pl)(aQ:List bf)(dd:bf):jB pl (aQ++[dd])=iZ pl (jB pl aQ) dd:=by
 unfold jB
 rw[List.foldl_append]
 rfl
theorem wN{pl:Pl}(ok:pl.ok){aQ:List bf}{outs:List (List eU)}{wo st:l_}(h:Runs pl wo aQ outs st):wo=⟨none,[],[]⟩->st.mk=(jB pl aQ).2/\Tab pl (jB pl aQ).1 st.ws:=by
 induction h with
 |nil=>intro e;subst e;exact⟨rfl,Tab.nil pl⟩
 | @snoc st1 st2 aQ outs dd out r d ih=>
  intro e
  obtain⟨h1,h2⟩:=ih e
  rw[Cu]
  cases dd with
  |ev n t a=>
   have el:iZ pl (jB pl aQ) (.ev n t a)=if late (jB pl aQ).2 (cB pl) t=true then jB pl aQ else((jB pl aQ).1++[⟨n,t,a⟩],(jB pl aQ).2):=rfl
   rw[el]
   rcases d with⟨d1,_,rfl⟩|⟨d1,mt,ks,fN,d2,_,rfl⟩
   ·rw[h1]at d1
    rw[if_pos d1]
    exact⟨h1,h2⟩
   ·rw[h1]at d1
    rw[if_neg (λz=>by rw[d1]at z;cases z)]
    exact⟨h1,h2.step ok d2⟩
  |mk t=>
   rcases d with⟨d1,_,rfl⟩|⟨d1,rs,_,_,_,rfl⟩
   ·rw[h1]at d1
    refine⟨?_,h2⟩
    rw[h1]
    unfold iZ
    cases e2:(jB pl aQ).2 with
    |none=>rw[e2]at d1;cases d1
    |some m=>
     rw[e2]at d1
     have:t<=m:=of_decide_eq_true d1
     show some m=if m<t then some t else some m
     rw[if_neg LI]
   ·rw[h1]at d1
    refine⟨?_,h2⟩
    unfold iZ
    cases e2:(jB pl aQ).2 with
    |none=>rfl
    |some m=>
     rw[e2]at d1
     have:¬t<=m:=of_decide_eq_false d1
     show some t=if m<t then some t else some m
     rw[if_pos LI]
theorem ic{α:Type}(f:α->Dv)(sh:Sh):∀{l m:List α},(∀a∈l,Dv.isA sh (f a)=true)->(∀a∈l,∀b∈l,f a=f b->a=b)->l.Perm m->l.Pairwise (λa b=>aY (f a) (f b)≠.gt)->m.Pairwise (λa b=>aY (f a) (f b)≠.gt)->l=m
 |[],m,_,_,p,_,_=>(List.nil_perm.mp p).symm▸rfl
 |a::l,[],_,_,p,_,_=>by have:=p.length_eq;simp at this
 |a::l,b::m,hs,inj,p,h1,h2=>by
  obtain⟨p1,p2⟩:=List.pairwise_cons.mp h1
  obtain⟨q1,q2⟩:=List.pairwise_cons.mp h2
  have hbm:=p.mem_iff.mpr (List.mem_cons_self (a:=b) (l:=m))
  have e:a=b:=by
   have ha:=p.mem_iff.mp (List.mem_cons_self (a:=a) (l:=l))
   rcases List.mem_cons.mp ha with e|ha
   ·exact e
   ·rcases List.mem_cons.mp hbm with e|hb
    ·exact e.symm
    ·have n1:=q1 a ha
     have n2:=p1 b hb
     have sa:=hs a (.head _)
     have sb:=hs b hbm
     refine inj _ (.head _) _ hbm ((jR sa sb).mp ?_)
     have sw:=cmp_swap sa sb
     cases q:aY (f a) (f b)with
     |eq=>rfl
     |gt=>exact absurd q n2
     |lt=>rw[q]at sw;exact absurd sw n1
  subst e
  rw[ic f sh (λa ha=>hs a (.tail _ ha)) (λa ha b hb=>inj a (.tail _ ha) b (.tail _ hb)) (List.Perm.cons_inv p) p2 q2]
theorem Gd(pl:Pl)(aQ:List bf):(jB pl aQ).1.length<=aQ.length:=by
 have key:∀(aQ:List bf)(q:List Ev×Option Int),(aQ.foldl (iZ pl) q).1.length<=q.1.length+aQ.length:=by
  intro aQ
  induction aQ with
  |nil=>intro q;exact Nat.le_refl _
  |cons d aQ ih=>
   intro q
   have h:=ih (iZ pl q d)
   have h2:(iZ pl q d).1.length<=q.1.length+1:=by
    cases d with
    |ev n t a=>
     show(if late q.2 (cB pl) t=true then q else(q.1++[⟨n,t,a⟩],q.2)).1.length<=_
     split
     ·lia
     ·rw[List.length_append,List.length_singleton];lia
    |mk t=>exact Nat.le_succ _
   rw[List.foldl_cons,List.length_cons]
   lia
 have:=key aQ ([],none)
 rw[List.length_nil]at this
 unfold jB
 lia
theorem Gb(pl:Pl)(aQ:List bf):∀e∈(jB pl aQ).1,bf.ev e.n e.t e.a∈aQ:=by
 have key:∀(aQ:List bf)(q:List Ev×Option Int)(e:Ev),e∈(aQ.foldl (iZ pl) q).1->e∈q.1\/bf.ev e.n e.t e.a∈aQ:=by
  intro aQ
  induction aQ with
  |nil=>intro q e h;exact .inl h
  |cons d aQ ih=>
   intro q e h
   rw[List.foldl_cons]at h
   rcases ih _ _ h with h|h
   ·cases d with
    |ev n t a=>
     have el:iZ pl q (.ev n t a)=if late q.2 (cB pl) t=true then q else(q.1++[⟨n,t,a⟩],q.2):=rfl
     rw[el]at h
     split at h
     ·exact .inl h
     ·rcases List.mem_append.mp h with h|h
      ·exact .inl h
      ·rw[List.mem_singleton]at h
       subst h
       exact .inr (.head _)
    |mk t=>exact .inl h
   ·exact .inr (.tail _ h)
 intro e h
 rcases key aQ ([],none) e h with h|h
 ·exact(nomatch h)
 ·exact h
theorem VN:("mark":Str)≠"event":=DK
theorem kP.det{pl:Pl}{n:Str}{t a:Int}{ws BA sU:List Wn}{Wy UC zh WS:List Ky}(h1:kP pl n t a ws Wy zh BA)(h2:kP pl n t a ws UC WS sU):Wy=UC/\zh=WS/\BA=sU:=by
 rcases h1 with⟨p1,rfl,rfl,rfl⟩|⟨p1,a1,b1,s,e,c1,d1,e1,f1,g1,i1,rfl,rfl⟩
 ·rcases h2 with⟨p2,rfl,rfl,rfl⟩|⟨p2,_⟩
  ·exact⟨rfl,rfl,rfl⟩
  ·rw[p1]at p2;cases p2
 ·rcases h2 with⟨p2,_⟩|⟨p2,a2,b2,s',e',c2,d2,e2,f2,g2,i2,rfl,rfl⟩
  ·rw[p1]at p2;cases p2
  ·have em:Wy=UC:=ic Ky.d VI (λk _=>EE k) (λ_ _ _ _ h=>u_ h) (a1.trans a2.symm) (List.pairwise_map.mp b1) (List.pairwise_map.mp b2)
   subst em
   have es:s=s':=by
    rcases c1 with rfl|⟨k,hk,rfl⟩
    ·rcases c2 with rfl|⟨q,hq,rfl⟩
     ·rfl
     ·have:=e1 q hq;lia
    ·have:=e2 k hk
     rcases c2 with rfl|⟨q,hq,rfl⟩
     ·lia
     ·have:=e1 q hq;lia
   have ee:e=e':=by
    rcases f1 with rfl|⟨k,hk,rfl⟩
    ·rcases f2 with rfl|⟨q,hq,rfl⟩
     ·rfl
     ·have:=i1 q hq;lia
    ·have:=i2 k hk
     rcases f2 with rfl|⟨q,hq,rfl⟩
     ·lia
     ·have:=i1 q hq;lia
   subst es;subst ee
   exact⟨rfl,rfl,rfl⟩
theorem Og{a b:Wn}(h:a.ed=b.ed):a.k=b.k:=by
 unfold Wn.ed at h
 injection h with e
 injection e with e1 e
 injection e with e2 e
 injection e with e3 _
 injection e1 with e1
 injection e2 with e2
 injection e3 with e3
 unfold Wn.k
 rw[e1,e2,e3]
theorem Nu{ws:List Wn}(nd:(ws.map Wn.k).Nodup){a b:Wn}(ha:a∈ws)(hb:b∈ws)(h:a.k=b.k):a=b:=by
 have h1:=vf nd ha
 have h2:=vf nd hb
 rw[h,h2]at h1
 exact(Option.some.inj h1).symm
theorem iF.det{pl:Pl}{st st' st1 st2:l_}{dd:bf}{o1 o2:List eU}(nd:(st.ws.map Wn.k).Nodup)(em:st.mk=st'.mk)(ew:st.ws=st'.ws)(h1:iF pl st dd o1 st1)(h2:iF pl st' dd o2 st2):o1=o2/\st1.mk=st2.mk/\st1.ws=st2.ws:=by
 cases dd with
 |ev n t a=>
  rcases h1 with⟨l1,rfl,rfl⟩|⟨l1,mt,ks,fN,r1,rfl,rfl⟩
  ·rcases h2 with⟨l2,rfl,rfl⟩|⟨l2,_⟩
   ·exact⟨rfl,em,ew⟩
   ·rw[em,l2]at l1;cases l1
  ·rcases h2 with⟨l2,_⟩|⟨l2,UC,WS,sU,r2,rfl,rfl⟩
   ·rw[em,l2]at l1;cases l1
   ·rw[ew]at r1
    obtain⟨rfl,rfl,rfl⟩:=kP.det r1 r2
    rw[em]
    exact⟨rfl,rfl,rfl⟩
 |mk t=>
  rcases h1 with⟨l1,rfl,rfl⟩|⟨l1,rs,p1,q1,rfl,rfl⟩
  ·rcases h2 with⟨l2,rfl,rfl⟩|⟨l2,_⟩
   ·exact⟨rfl,em,ew⟩
   ·rw[em,l2]at l1;cases l1
  ·rcases h2 with⟨l2,_⟩|⟨l2,rs2,p2,q2,rfl,rfl⟩
   ·rw[em,l2]at l1;cases l1
   ·rw[←em,←ew]at p2
    have mw:∀w∈rs,w∈st.ws:=λw h=>(List.mem_filter.mp (p1.mem_iff.mp h)).1
    have e:rs=rs2:=ic Wn.ed YN (λ_ _=>rfl) (λa ha b hb h=>Nu nd (mw a ha) (mw b hb) (Og h)) (p1.trans p2.symm) (List.pairwise_map.mp q1) (List.pairwise_map.mp q2)
    subst e
    exact⟨rfl,rfl,ew⟩
structure TQ where
 of ::
 tk:List bf
 du:List (Str×Int×Int)
 mk:Option Int
def PD(m:Option Int)(t:Int):Option Int:=match m with
 |none=>some t
 |some m=>if m<t then some t else some m
def iW(pl:Pl)(q:TQ):bf->TQ
 |.ev n t a=>if late q.mk (cB pl) t=true then⟨q.tk,q.du++[(n,t,a)],q.mk⟩else⟨q.tk++[.ev n t a],q.du,q.mk⟩
 |.mk t=>⟨q.tk++[.mk t],q.du,PD q.mk t⟩
def eL(pl:Pl)(aQ:List bf):TQ:=aQ.foldl (iW pl) ⟨[],[],none⟩
theorem sZ(pl:Pl)(aQ:List bf)(dd:bf):eL pl (aQ++[dd])=iW pl (eL pl aQ) dd:=by
 unfold eL
 rw[List.foldl_append]
 rfl
def jm(z:eU):Bool:=match z with
 |.missed _ _ _=>false
 |_=>true
theorem EO{pl:Pl}{wo st:l_}{l:List bf}{d:bf}{outs:List (List eU)}(h:Runs pl wo (l++[d]) outs st):∃o0 out st1,outs=o0++[out]/\Runs pl wo l o0 st1/\iF pl st1 d out st:=by
 generalize e:l++[d]=x at h
 cases h with
 |nil=>simp at e
 |snoc r q=>
  obtain⟨rfl,e2⟩:=List.append_inj' e rfl
  cases e2
  exact⟨_,_,_,rfl,r,q⟩
theorem EN{pl:Pl}{wo st:l_}{outs:List (List eU)}(h:Runs pl wo [] outs st):outs=[]/\st=wo:=by
 generalize e:([]:List bf)=x at h
 cases h with
 |nil=>exact⟨rfl,rfl⟩
 |snoc r q=>simp at e
theorem LN{pl:Pl}{st st':l_}{dd:bf}{out:List eU}(h:iF pl st dd out st')(hn:∀n t a,dd=.ev n t a->late st.mk (cB pl) t=false):out.all jm=true:=by
 rw[List.all_eq_true]
 intro z hz
 cases dd with
 |ev n t a=>
  rcases h with⟨l,_⟩|⟨_,mt,ks,fN,_,rfl,_⟩
  ·rw[hn n t a rfl]at l;cases l
  ·rcases List.mem_append.mp hz with hz|hz
   ·obtain⟨k,_,_,_,rfl⟩:=Cq.mp hz
    rfl
   ·obtain⟨k,w,_,_,_,rfl⟩:=Cp.mp hz
    rfl
 |mk t=>
  rcases h with⟨_,rfl,_⟩|⟨_,rs,_,_,rfl,_⟩
  ·cases hz
  ·obtain⟨w,_,rfl⟩:=List.mem_map.mp hz
   rfl
theorem sX{mk:Option Int}{t:Int}:(stale mk t=true->PD mk t=mk)/\(stale mk t=false->PD mk t=some t):=by
 cases mk with
 |none=>exact⟨λh=>(nomatch h),λ_=>rfl⟩
 |some m=>
  refine⟨λh=>?_,λh=>?_⟩
  ·have:t<=m:=of_decide_eq_true h
   show(if m<t then some t else some m)=some m
   rw[if_neg LI]
  ·have:¬t<=m:=of_decide_eq_false h
   show(if m<t then some t else some m)=some t
   rw[if_pos LI]
theorem kW{pl:Pl}(ok:pl.ok){aQ:List bf}{outs:List (List eU)}{wo st:l_}(h:Runs pl wo aQ outs st):wo=⟨none,[],[]⟩->
  st.mk=(eL pl aQ).mk/\st.ms=(eL pl aQ).du/\∀{o2:List (List eU)}{st2:l_},Runs pl wo (eL pl aQ).tk o2 st2->o2=outs.filter (λo=>o.all jm)/\st2.mk=st.mk/\st2.ws=st.ws:=by
 induction h with
 |nil=>
  intro e
  subst e
  refine⟨rfl,rfl,λ{o2 st2} r=>?_⟩
  obtain⟨rfl,rfl⟩:=EN r
  exact⟨rfl,rfl,rfl⟩
 | @snoc st1 st' aQ outs dd out r d ih=>
  intro e
  obtain⟨h1,h2,h3⟩:=ih e
  have tb:=(wN ok r e).2
  rw[sZ]
  have Ze:∀b,(out.all jm)=b->(outs++[out]).filter (λo=>o.all jm)=outs.filter (λo=>o.all jm)++if b=true then [out]else []:=λb hb=>by
   rw[List.filter_append,List.filter_cons,hb]
   rfl
  have go:∀{o2:List (List eU)}{st2:l_},out.all jm=true->Runs pl wo ((eL pl aQ).tk++[dd]) o2 st2->o2=(outs++[out]).filter (λo=>o.all jm)/\st2.mk=st'.mk/\st2.ws=st'.ws:=λ{o2 st2} ha rr=>by
   obtain⟨o0,out',sx,rfl,r1,d1⟩:=EO rr
   obtain⟨g1,g2,g3⟩:=h3 r1
   obtain⟨e1,e2,e3⟩:=iF.det tb.nd g2.symm g3.symm d d1
   rw[Ze _ ha,g1,←e1]
   exact⟨rfl,e2.symm,e3.symm⟩
  cases dd with
  |ev n t a=>
   have el:iW pl (eL pl aQ) (.ev n t a)=if late (eL pl aQ).mk (cB pl) t=true then⟨(eL pl aQ).tk,(eL pl aQ).du++[(n,t,a)],(eL pl aQ).mk⟩else⟨(eL pl aQ).tk++[.ev n t a],(eL pl aQ).du,(eL pl aQ).mk⟩:=rfl
   rw[el,←h1]
   cases hl:late _ (cB pl) t with
   |true=>
    rw[if_pos rfl]
    rcases d with⟨_,rfl,rfl⟩|⟨z,_⟩
    ·refine⟨rfl,by rw[←h2],λ{o2 st2} rr=>?_⟩
     rw[Ze _ rfl]
     obtain⟨g1,g2,g3⟩:=h3 rr
     exact⟨by rw[g1];simp[jm],g2,g3⟩
    ·rw[hl]at z;cases z
   |false=>
    rw[if_neg Bool.false_ne_true]
    have ha:=LN d λn' t' a' e=>by cases e;exact hl
    rcases d with⟨z,_⟩|⟨_,mt,ks,fN,_,_,rfl⟩
    ·rw[hl]at z;cases z
    ·exact⟨rfl,h2,λ{o2 st2} rr=>go ha rr⟩
  |mk t=>
   have ha:=LN d λn' t' a' e=>nomatch e
   refine⟨?_,?_,λ{o2 st2} rr=>go ha rr⟩
   ·show _=PD (eL pl aQ).mk t
    rw[←h1]
    rcases d with⟨z,_,rfl⟩|⟨z,_,_,_,_,rfl⟩
    ·exact(sX.1 z).symm
    ·exact(sX.2 z).symm
   ·show _=(eL pl aQ).du
    rw[←h2]
    rcases d with⟨z,_,rfl⟩|⟨z,_,_,_,_,rfl⟩<;>rfl
def xG:bf->Bool
 |.ev _ _ _=>true
 |.mk _=>false
theorem DO(pl:Pl)(aQ:List bf):(eL pl aQ).tk.filter xG=(jB pl aQ).1.map Ev.d/\(eL pl aQ).mk=(jB pl aQ).2:=by
 have key:∀(aQ:List bf)(q:TQ)(p:List Ev×Option Int),q.tk.filter xG=p.1.map Ev.d->q.mk=p.2->(aQ.foldl (iW pl) q).tk.filter xG=(aQ.foldl (iZ pl) p).1.map Ev.d/\(aQ.foldl (iW pl) q).mk=(aQ.foldl (iZ pl) p).2:=by
  intro aQ
  induction aQ with
  |nil=>exact λq p h1 h2=>⟨h1,h2⟩
  |cons d aQ ih=>
   intro q p h1 h2
   refine ih _ _ ?_ ?_
   ·cases d with
    |ev n t a=>
     show(if late q.mk (cB pl) t=true then(⟨q.tk,q.du++[(n,t,a)],q.mk⟩:TQ)else⟨q.tk++[.ev n t a],q.du,q.mk⟩).tk.filter xG=(if late p.2 (cB pl) t=true then p else(p.1++[⟨n,t,a⟩],p.2)).1.map Ev.d
     rw[h2]
     split
     ·exact h1
     ·rw[List.map_append,←h1]
      exact List.filter_append ..
    |mk t=>
     show(q.tk++[bf.mk t]).filter xG=_
     rw[List.filter_append]
     exact(List.append_nil _).trans h1
   ·cases d with
    |ev n t a=>
     show(if late q.mk (cB pl) t=true then(⟨q.tk,q.du++[(n,t,a)],q.mk⟩:TQ)else⟨q.tk++[.ev n t a],q.du,q.mk⟩).mk=(if late p.2 (cB pl) t=true then p else(p.1++[⟨n,t,a⟩],p.2)).2
     rw[h2]
     split<;>rfl
    |mk t=>
     show PD q.mk t=(iZ pl p (.mk t)).2
     rw[h2]
     rfl
 exact key aQ _ _ rfl rfl
def Oq:bf->Dv
 |.ev n t a=>.tup [.str "event",.str n,.int t,.int a]
 |.mk t=>.tup [.str "mark",.int t]
theorem TF{K:Fg7}{H:Hp}{a:Addr}{d:bf}(h:H a=some (.tup d.v)):Dn K H (.ref a) (Oq d):=by
 cases d with
 |ev n t a=>exact .tup (bu.of h) (.cons (.str _) (.cons (.str _) (.cons (.int _) (.cons (.int _) .nil))))
 |mk t=>exact .tup (bu.of h) (.cons (.str _) (.cons (.int _) .nil))
theorem GW{K:Fg7}{H:Hp}{l:Addr}{zs:List V}{o:List bf}(h:H l=some (.lst zs))(la:aC bf.v H zs o):Dn K H (.ref l) (.lst (o.map Oq)):=.lst (br.of h) (la.Oj λ_ _ h=>TF h)
theorem GX(d:bf):(Oq d).dep<=1/\eO (Oq d) (Oq d)=true:=by cases d<;>exact⟨Nat.le_of_ble_eq_true rfl,rfl⟩
theorem Bd{α:Type}{g:α->Dv}(h:∀a,(g a).dep<=1/\eO (g a) (g a)=true)(o:List α):(Dv.lst (o.map g)).dep<=30/\eO (.lst (o.map g)) (.lst (o.map g))=true:=by
 have h:Dv.deps (o.map g)<=1/\gh (o.map g) (o.map g)=true:=by
  induction o with
  |nil=>exact⟨Nat.zero_le _,rfl⟩
  |cons z o ih=>exact⟨Nat.max_le.mpr ⟨(h z).1,ih.1⟩,(Bool.and_eq_true _ _).mpr ⟨(h z).2,ih.2⟩⟩
 refine⟨?_,h.2⟩
 show Dv.deps (o.map g)+1<=30
 lia
def tR(mk:Option Int)(w:Wn):Dv:=.tup [.str w.n,.int w.s,.int w.e,.int w.c,.int w.t,.bl (closed mk w.e)]
theorem EW(mk:Option Int)(w:Wn):(tR mk w).dep<=1/\eO (tR mk w) (tR mk w)=true:=⟨Nat.le_of_ble_eq_true rfl,rfl⟩
mutual
inductive Tk(H:Hp):V->Dv->Prop
 |eN:Tk H .eN .eN
 |bl(b:Bool):Tk H (.bl b) (.bl b)
 |int(i:Int):Tk H (.int i) (.int i)
 |str(x:Str):Tk H (.str x) (.str x)
 |tup{a:Addr}{xs:List V}{ds:List Dv}:H a=some (.tup xs)->xs.length<=10000000->Tks H xs ds->Tk H (.ref a) (.tup ds)
 |lst{a:Addr}{xs:List V}{ds:List Dv}:H a=some (.lst xs)->xs.length<=10000000->Tks H xs ds->Tk H (.ref a) (.lst ds)
inductive Tks(H:Hp):List V->List Dv->Prop
 |nil:Tks H [] []
 |cons{x:V}{xs:List V}{d:Dv}{ds:List Dv}:Tk H x d->Tks H xs ds->Tks H (x::xs) (d::ds)
end
mutual
theorem Tk.keep{H H':Hp}(s:aA H H'):∀{x:V}{d:Dv},Tk H x d->Tk H' x d
 |_,_,.eN=>.eN
 |_,_,.bl b=>.bl b
 |_,_,.int i=>.int i
 |_,_,.str x=>.str x
 |_,_,.tup e l t=>.tup (s _ _ e) l (Tks.keep s t)
 |_,_,.lst e l t=>.lst (s _ _ e) l (Tks.keep s t)
theorem Tks.keep{H H':Hp}(s:aA H H'):∀{xs:List V}{ds:List Dv},Tks H xs ds->Tks H' xs ds
 |_,_,.nil=>.nil
 |_,_,.cons h t=>.cons (Tk.keep s h) (Tks.keep s t)
end
theorem Tks.get{H:Hp}:∀{xs:List V}{ds:List Dv},Tks H xs ds->∀{i:Nat}{x:V},xs[i]? = some x->∃d,ds[i]? = some d/\Tk H x d
 |_,_,.cons h _,0,_,e=>⟨_,rfl,by cases e;exact h⟩
 |_,_,.cons _ t,_+1,_,e=>Tks.get t e
theorem Tks.len{H:Hp}:∀{xs:List V}{ds:List Dv},Tks H xs ds->xs.length=ds.length
 |_,_,.nil=>rfl
 |_,_,.cons _ t=>by rw[List.length_cons,List.length_cons,Tks.len t]
def soN:Nat->Sp
 |0=>λ_ _ _ _=>False
 |n+1=>λvs H Q _=>∃(x y:V) (d:Dv),vs=[x,y]/\Tk H x d/\Tk H y d/\d.dep<=n/\∀H',aA H H'->Q (.bl true) H'
section
variable {P:Program} {w:World} {K:Fg7} {mg:Str->Option Value}
theorem Ng:PySem.W.kitOne K (.type "str") (.type "bool")=some false:=by with_unfolding_all rfl
theorem Nf:PySem.W.kitOne K (.type "str") (.type "int")=some false:=by with_unfolding_all rfl
theorem Nk:PySem.W.kitOne K (.type "list") (.type "bool")=some false:=by with_unfolding_all rfl
theorem Ni:PySem.W.kitOne K (.type "list") (.type "int")=some false:=by with_unfolding_all rfl
theorem Nh:PySem.W.kitOne K (.type "list") (.type "str")=some false:=by with_unfolding_all rfl
theorem Nj:PySem.W.kitOne K (.type "list") (.type "dict")=some false:=by with_unfolding_all rfl
theorem Gj:PySem.W.kitOne K (.type "list") (.type "tuple")=some false:=by with_unfolding_all rfl
theorem Nd:PySem.W.kitOne K (.type "tuple") (.type "bool")=some false:=by with_unfolding_all rfl
theorem Nb:PySem.W.kitOne K (.type "tuple") (.type "int")=some false:=by with_unfolding_all rfl
theorem Na:PySem.W.kitOne K (.type "tuple") (.type "str")=some false:=by with_unfolding_all rfl
theorem Nc:PySem.W.kitOne K (.type "tuple") (.type "dict")=some false:=by with_unfolding_all rfl
theorem Gi:PySem.W.kitOne K (.type "tuple") (.type "list")=some false:=by with_unfolding_all rfl
theorem Nm:PySem.W.kitAny K (.type "list") (["list","tuple"].map Value.type)=some true:=by with_unfolding_all rfl
theorem Nl:PySem.W.kitAny K (.type "tuple") (["list","tuple"].map Value.type)=some true:=by with_unfolding_all rfl
theorem Te(D:aJ K "_law_so" fq)(M:MG K mg)(B:Bi K):∀n:Nat,ef P w K mg "_law_so" ["_law_found","_law_meant"] (n+1) (soN n)
 |0=>D.fn M kU rK (λvs H Q E h=>h.elim) (λf base cdv A outer s H vs Q E hr h=>h.elim)
 |n+1=>by
  have g_:=Te D M B n
  refine D.fn M kU rK (λvs H Q E h=>?_) (λf base cdv A outer s H vs Q E hr h=>?_)
  ·obtain⟨x,y,d,rfl,_⟩:=h
   rfl
  ·obtain⟨x,y,d,rfl,hx,hy,hd,k⟩:=h
   refine⟨_,(aq (bw (aK uU (pv 1) iw (aM _)) (au (aL (eG uU (pv 0) iw (aM _)))) aR)
   (aq (bw (bU (aU aS rfl (M.no _ B.aN) aF (pc (pv 1) (pc (bF (v:=.ty "bool") rfl (M.no _ B.vA) qG rfl) aj)))) (au (aL (iP (aU aS rfl (M.no _ B.aN) aF (pc (pv 0) (pc (bF (v:=.ty "bool") rfl (M.no _ B.vA) qG rfl) aj))) (iu (eG dF (pv 0) (pv 1) (aM _)))))) aR)
   (aq (bw (bU (aU aS rfl (M.no _ B.aN) aF (pc (pv 1) (pc (bF (v:=.ty "int") rfl (M.no _ B.Ho) zC rfl) aj)))) (au (aL (iP (aU aS rfl (M.no _ B.aN) aF (pc (pv 0) (pc (bF (v:=.ty "int") rfl (M.no _ B.Ho) zC rfl) aj))) (iP (Fy (aU aS rfl (M.no _ B.aN) aF (pc (pv 0) (pc (bF (v:=.ty "bool") rfl (M.no _ B.vA) qG rfl) aj)))) (iu (eG dF (pv 0) (pv 1) (aM _))))))) aR)
   (aq (bw (bU (aU aS rfl (M.no _ B.aN) aF (pc (pv 1) (pc (bF (v:=.ty "str") rfl (M.no _ B.xZ) rH rfl) aj)))) (au (aL (iP (aU aS rfl (M.no _ B.aN) aF (pc (pv 0) (pc (bF (v:=.ty "str") rfl (M.no _ B.xZ) rH rfl) aj))) (iu (eG dF (pv 0) (pv 1) (aM _)))))) aR)
   (aq (bw (bU (aU aS rfl (M.no _ B.aN) aF (pc (pv 1) (pc (bF (v:=.ty "dict") rfl (M.no _ B.OG) JK rfl) aj)))) (au jH) aR)
   (aq (bw (aK tW (aU aS rfl (M.no _ B.aN) aF (pc (pv 1) (pc (bF (v:=.ty "tuple") rfl (M.no _ B.nk) jS rfl) aj))) (aU aS rfl (M.no _ B.aN) aF (pc (pv 0) (pc (bF (v:=.ty "tuple") rfl (M.no _ B.nk) jS rfl) aj))) (aM _)) (au (aL fJ)) aR)
   (aq (bw (PW.pt (iY (aK tW (aU aS rfl (M.no _ B.aN) aF (pc (pv 1) (pc (bF (v:=.ty "list") rfl (M.no _ B.fB) dR rfl) aj))) (aU aS rfl (M.no _ B.aN) aF (pc (pv 0) (pc (bF (v:=.ty "list") rfl (M.no _ B.fB) dR rfl) aj))) (aM _)) (iO (dO (bU (aU vp rfl (M.no _ B.aN) aF (pc (pv 1) (pc (cK (pc (bF (v:=.ty "list") rfl (M.no _ B.fB) dR rfl) (pc (bF (v:=.ty "tuple") rfl (M.no _ B.nk) jS rfl) aj))) aj)))))))) (au (aL fJ)) aR)
   (aq (bw (aK tW (aU aX rfl (M.no _ B.gE) eT (pc (pv 0) aj)) (aU aX rfl (M.no _ B.gE) eT (pc (pv 1) aj)) (aM _)) (au (aL fJ)) aR)
   (aq (eZ PassesOwn.never rfl (nT rfl (M.no _ B.nq) (pc (aU aX rfl (M.no _ B.gE) eT (pc (pv 1) aj)) aj)) (aV (i:=2) kU.nd rfl (Or.inl rfl))
   (au (bw (dO (bU (aW g_ (hr.mono (Nat.le_refl _)) rfl (pc (aH Gq (pv 0) (pv 2) (λ_ _=>rfl)) (pc (aH Gq (pv 1) (pv 2) (λ_ _=>rfl)) aj))))) (au (aL fJ)) aR)))
   (au (aL fJ))))))))))),?_⟩
   have nf:∀{A:Prop},false=true->A:=λz=>nomatch z
   have k0:=k _ (aA.refl _)
   cases hx with
   |eN=>
    cases hy
    refine⟨_,rfl,rfl,_,rfl,aO (λ_=>⟨_,rfl,rfl,?_⟩) (λh=>absurd (decide_eq_true rfl) h)⟩
    rw[decide_eq_true rfl]
    exact k0
   |bl b=>
    cases hy
    refine⟨_,rfl,rfl,_,rfl,aO (λh=>nomatch of_decide_eq_true h) (λ_=>?_)⟩
    refine⟨_,rfl,_,_,_,true,rfl,.bl b,rfl,true,rfl,aO (λ_=>?_) (λh=>absurd rfl h)⟩
    refine⟨_,rfl,_,_,_,true,rfl,.bl b,rfl,true,rfl,aO (λ_=>⟨_,rfl,_,rfl,rfl,?_⟩) (λh=>absurd rfl h)⟩
    rw[decide_eq_true rfl]
    exact k0
   |int i=>
    cases hy
    refine⟨_,rfl,rfl,_,rfl,aO (λh=>nomatch of_decide_eq_true h) (λ_=>?_)⟩
    refine⟨_,rfl,_,_,_,false,rfl,.int i,zj,false,rfl,aO nf (λ_=>?_)⟩
    refine⟨_,rfl,_,_,_,true,rfl,.int i,rfl,true,rfl,aO (λ_=>?_) (λh=>absurd rfl h)⟩
    refine⟨_,rfl,_,_,_,true,rfl,.int i,rfl,true,rfl,aO (λ_=>?_) (λh=>absurd rfl h)⟩
    refine⟨_,rfl,_,_,_,false,rfl,.int i,zj,false,rfl,true,rfl,aO (λ_=>⟨_,rfl,_,rfl,rfl,?_⟩) (λh=>absurd rfl h)⟩
    rw[decide_eq_true rfl]
    exact k0
   |str z=>
    cases hy
    refine⟨_,rfl,rfl,_,rfl,aO (λh=>nomatch of_decide_eq_true h) (λ_=>?_)⟩
    refine⟨_,rfl,_,_,_,false,rfl,.str z,Ng,false,rfl,aO nf (λ_=>?_)⟩
    refine⟨_,rfl,_,_,_,false,rfl,.str z,Nf,false,rfl,aO nf (λ_=>?_)⟩
    refine⟨_,rfl,_,_,_,true,rfl,.str z,rfl,true,rfl,aO (λ_=>?_) (λh=>absurd rfl h)⟩
    refine⟨_,rfl,_,_,_,true,rfl,.str z,rfl,true,rfl,aO (λ_=>⟨_,rfl,_,rfl,rfl,?_⟩) (λh=>absurd rfl h)⟩
    rw[decide_eq_true rfl]
    exact k0
   | @tup a xs ds ha Ra ta=>
    cases hy with
    | @tup b ys _ hb Zv tb=>
     refine⟨_,rfl,rfl,_,rfl,aO (λh=>nomatch of_decide_eq_true h) (λ_=>?_)⟩
     refine⟨_,rfl,_,_,_,false,rfl,.tup hb,Nd,false,rfl,aO nf (λ_=>?_)⟩
     refine⟨_,rfl,_,_,_,false,rfl,.tup hb,Nb,false,rfl,aO nf (λ_=>?_)⟩
     refine⟨_,rfl,_,_,_,false,rfl,.tup hb,Na,false,rfl,aO nf (λ_=>?_)⟩
     refine⟨_,rfl,_,_,_,false,rfl,.tup hb,Nc,false,rfl,aO nf (λ_=>?_)⟩
     refine⟨_,rfl,_,_,_,true,rfl,.tup hb,rfl,_,rfl,_,_,_,true,rfl,.tup ha,rfl,rfl,_,rfl,aO (λh=>by rw[decide_eq_true rfl]at h;cases h) (λ_=>?_)⟩
     refine⟨_,rfl,_,_,_,false,rfl,.tup hb,Gi,_,rfl,_,_,_,false,rfl,.tup ha,Gi,rfl,_,rfl,aO (λh=>by rw[decide_eq_true rfl]at h;cases h) (λ_=>?_)⟩
     refine⟨_,rfl,(by show 2<=sizeLine;decide),λtp htp=>⟨b,tp,ys,["list","tuple"],_,true,rfl,.inr ⟨(aA.new htp) _ _ hb,rfl⟩,af,Nl,true,rfl,aO (λh=>nomatch h) (λ_=>?_)⟩⟩
     have s1:=aA.new (o:=.tup [.ty "list",.ty "tuple"]) htp
     have ha1:=s1 _ _ ha
     have hb1:=s1 _ _ hb
     have Vt:=ta.keep s1
     have Vs:=tb.keep s1
     have la:=ta.len
     have lb:=tb.len
     generalize upd H tp (.tup [.ty "list",.ty "tuple"])=H1 at *
     refine⟨_,rfl,a,_,rfl,.inr (bu.of ha1),_,rfl,b,_,rfl,.inr (bu.of hb1),rfl,_,rfl,aO (λh=>by rw[decide_eq_true (by rw[la,lb])]at h;cases h) (λ_=>?_)⟩
     have hd:Dv.deps ds+1<=n:=hd
     cases n with
     |zero=>exact absurd hd LI
     |succ n=>
      refine⟨_,rfl,b,_,rfl,.inr (bu.of hb1),_,rfl,LI,LI,?_⟩
      rw[Int.toNat_natCast]
      refine jZ (lo:=0) (n:=ys.length) (λi σ H'=>∃v:Option V,σ=[some (.ref a),some (.ref b),v]/\aA H1 H') ⟨none,rfl,aA.refl _⟩ ?_ ?_
      ·rintro i σ H' hi ⟨v,rfl,sm⟩
       rw[Int.zero_add]
       have e1:xs[i]? = some (xs[i]' LI):=List.getElem?_eq_getElem LI
       have e2:ys[i]? = some (ys[i]'hi):=List.getElem?_eq_getElem hi
       obtain⟨d1,g1,t1⟩:=Vt.get e1
       obtain⟨d2,g2,t2⟩:=Vs.get e2
       rw[g1]at g2
       cases g2
       have:=iB g1
       refine⟨_,rfl,_,rfl,.inr (.inl ⟨a,_,_,_,rfl,rfl,bu.of (sm _ _ ha1),fR e1,_,rfl,_,rfl,.inr (.inl ⟨b,_,_,_,rfl,rfl,bu.of (sm _ _ hb1),fR e2,_,_,d1,rfl,t1.keep sm,t2.keep sm,by lia,λH2 s2=>⟨true,rfl,aO (λh=>nomatch h) (λ_=>⟨_,rfl,sm.trans s2⟩)⟩⟩)⟩)⟩
      ·rintro σ H' ⟨v,rfl,sm⟩
       exact k _ (s1.trans sm)
   | @lst a xs ds ha Ra ta=>
    cases hy with
    | @lst b ys _ hb Zv tb=>
     refine⟨_,rfl,rfl,_,rfl,aO (λh=>nomatch of_decide_eq_true h) (λ_=>?_)⟩
     refine⟨_,rfl,_,_,_,false,rfl,.lst hb,Nk,false,rfl,aO nf (λ_=>?_)⟩
     refine⟨_,rfl,_,_,_,false,rfl,.lst hb,Ni,false,rfl,aO nf (λ_=>?_)⟩
     refine⟨_,rfl,_,_,_,false,rfl,.lst hb,Nh,false,rfl,aO nf (λ_=>?_)⟩
     refine⟨_,rfl,_,_,_,false,rfl,.lst hb,Nj,false,rfl,aO nf (λ_=>?_)⟩
     refine⟨_,rfl,_,_,_,false,rfl,.lst hb,Gj,_,rfl,_,_,_,false,rfl,.lst ha,Gj,rfl,_,rfl,aO (λh=>by rw[decide_eq_true rfl]at h;cases h) (λ_=>?_)⟩
     refine⟨_,rfl,_,_,_,true,rfl,.lst hb,rfl,_,rfl,_,_,_,true,rfl,.lst ha,rfl,rfl,_,rfl,aO (λh=>by rw[decide_eq_true rfl]at h;cases h) (λ_=>?_)⟩
     refine⟨_,rfl,(by show 2<=sizeLine;decide),λtp htp=>⟨b,tp,ys,["list","tuple"],_,true,rfl,.inl ⟨(aA.new htp) _ _ hb,rfl⟩,af,Nm,true,rfl,aO (λh=>nomatch h) (λ_=>?_)⟩⟩
     have s1:=aA.new (o:=.tup [.ty "list",.ty "tuple"]) htp
     have ha1:=s1 _ _ ha
     have hb1:=s1 _ _ hb
     have Vt:=ta.keep s1
     have Vs:=tb.keep s1
     have la:=ta.len
     have lb:=tb.len
     generalize upd H tp (.tup [.ty "list",.ty "tuple"])=H1 at *
     refine⟨_,rfl,a,_,rfl,.inl (br.of ha1),_,rfl,b,_,rfl,.inl (br.of hb1),rfl,_,rfl,aO (λh=>by rw[decide_eq_true (by rw[la,lb])]at h;cases h) (λ_=>?_)⟩
     have hd:Dv.deps ds+1<=n:=hd
     cases n with
     |zero=>exact absurd hd LI
     |succ n=>
      refine⟨_,rfl,b,_,rfl,.inl (br.of hb1),_,rfl,LI,LI,?_⟩
      rw[Int.toNat_natCast]
      refine jZ (lo:=0) (n:=ys.length) (λi σ H'=>∃v:Option V,σ=[some (.ref a),some (.ref b),v]/\aA H1 H') ⟨none,rfl,aA.refl _⟩ ?_ ?_
      ·rintro i σ H' hi ⟨v,rfl,sm⟩
       rw[Int.zero_add]
       have e1:xs[i]? = some (xs[i]' LI):=List.getElem?_eq_getElem LI
       have e2:ys[i]? = some (ys[i]'hi):=List.getElem?_eq_getElem hi
       obtain⟨d1,g1,t1⟩:=Vt.get e1
       obtain⟨d2,g2,t2⟩:=Vs.get e2
       rw[g1]at g2
       cases g2
       have:=iB g1
       refine⟨_,rfl,_,rfl,.inl ⟨a,_,_,_,rfl,rfl,br.of (sm _ _ ha1),fR e1,_,rfl,_,rfl,.inl ⟨b,_,_,_,rfl,rfl,br.of (sm _ _ hb1),fR e2,_,_,d1,rfl,t1.keep sm,t2.keep sm,by lia,λH2 s2=>⟨true,rfl,aO (λh=>nomatch h) (λ_=>⟨_,rfl,sm.trans s2⟩)⟩⟩⟩⟩
      ·rintro σ H' ⟨v,rfl,sm⟩
       exact k _ (s1.trans sm)
end
inductive Ko(vs:List V)(H:Hp)(Q:VK):Prop
 |mk(x y:V)(d:Dv):(vs=[x,y])->(Tk H x d)->(Tk H y d)->(d.dep<=3)->(∀H',aA H H'->Q (.bl true) H')->Ko vs H Q
def L_:Sp:=λvs H Q d_=>Ko vs H Q
theorem Td{P:Program}{w:World}{K:Fg7}{mg:Str->Option Value}(D:aJ K "_law_so" fq)(M:MG K mg)(B:Bi K):ef P w K mg "_law_so" ["_law_found","_law_meant"] 5 L_:=ef.imp (Te D M B 4) λ_ _ _ _ h=>by
 obtain⟨x,y,d,e,h1,h2,h3,k⟩:=h
 exact⟨x,y,d,e,h1,h2,h3,k⟩
theorem Rp{α:Type}{f:α->List V}{g:α->Dv}{H:Hp}(h:∀a w,H a=some (.tup (f w))->Tk H (.ref a) (g w)):∀{xs:List V}{ws:List α},aC f H xs ws->Tks H xs (ws.map g):=by
 intro xs ws l
 induction l with
 |nil=>exact .nil
 |cons e _ ih=>
  obtain⟨a,rfl,e⟩:=e
  exact .cons (h _ _ e) ih
theorem xA{α:Type}{f:α->List V}{g:α->Dv}{H:Hp}{l:Addr}(h:∀a w,H a=some (.tup (f w))->Tk H (.ref a) (g w)){xs:List V}{ws:List α}(hl:H l=some (.lst xs))(n:xs.length<=10000000)(la:aC f H xs ws):Tk H (.ref l) (.lst (ws.map g)):=.lst hl n (Rp h la)
theorem m_{n:Nat}:∀{ds:List Dv},(∀d∈ds,d.dep<=n)->Dv.deps ds<=n
 |[],_=>Nat.zero_le _
 |d::ds,h=>Nat.max_le.mpr ⟨h d (.head _),m_ λe he=>h e (.tail _ he)⟩
theorem ES{H:Hp}{a:Addr}{w:Wn}(h:H a=some (.tup w.v)):Tk H (.ref a) w.d:=.tup h (by show 5<=10000000;decide) (.cons (.str _) (.cons (.int _) (.cons (.int _) (.cons (.int _) (.cons (.int _) .nil)))))
theorem Gg{α β:Type}{f:α->β}{g:β->List V}{H:Hp}:∀{ws:List α}{xs:List V},aC g H xs (ws.map f)->aC (λa=>g (f a)) H xs ws:=by
 intro ws
 induction ws with
 |nil=>intro xs h;cases h;exact .nil
 |cons w ws ih=>
  intro xs h
  cases h with
  |cons e t=>exact .cons e (ih t)
inductive Ao(vs:List V)(H:Hp)(Q:VK):Prop
 |mk(l r:Addr)(zs ys:List V)(ms:List (Str×Int×Int)):(vs=[.ref l,.ref r])->(H l=some (.lst zs))->(aC MN H zs ms)->(H r=some (.lst ys))->(aC MN H ys ms)->(ms.length<=1000000)->(Q (.bl true) H)->Ao vs H Q
def Ek:Sp:=λvs H Q d_=>Ao vs H Q
def Wz(q:Str×Int×Int):Dv:=.tup [.str q.1,.int q.2.1,.int q.2.2]
theorem Lg{K:Fg7}{H:Hp}{a:Addr}{q:Str×Int×Int}(h:H a=some (.tup (MN q))):Dn K H (.ref a) (Wz q):=.tup (bu.of h) (.cons (.str _) (.cons (.int _) (.cons (.int _) .nil)))
inductive Ai(K:Fg7)(vs:List V)(H:Hp)(Q:VK):Prop
 |mk(l p tl:Addr)(mk:Option Int)(pl:Pl)(zs xt:List V)(vX:List bf)(bh:List Ev)(ws rs:List Wn):(vs=[.ref l,.ref p,.ref tl,yk mk])->(H l=some (.lst zs))->(aC Wn.v H zs (rs.filter λw=>closed mk w.e))->(rs.Perm ws)->((rs.map Wn.d).Pairwise (λd e=>aY d e≠.gt))->(rs.length<=4000000)->(Tab pl bh ws)->(bu K H p pl.row)->(pl.ok)->(H tl=some (.lst xt))->(aC bf.v H xt vX)->(vX.length<=1000000)->(vX.filter xG=bh.map Ev.d)->(bh.length<=200)->((∀e∈bh,-(10^45)<e.t/\e.t<10^45))->(∀H',aA H H'->Q (.bl true) H')->Ai K vs H Q
def Eh(K:Fg7):Sp:=λvs H Q d_=>Ai K vs H Q
section
variable {P:Program} {w:World} {K:Fg7} {mg:Str->Option Value}
theorem NV(D:aJ K "_law_are_missed" bK)(M:MG K mg)(B:Bi K)(gT:ef P w K mg "_law_whole" ["_law_found"] 1 uF):ef P w K mg "_law_are_missed" ["_law_found","_law_due"] 2 Ek:=by
 refine D.fn M fu lQ (λvs H Q E h=>?_) (λf base cdv A outer s H vs Q E hr h=>?_)
 ·obtain⟨l,r,zs,ys,ms,rfl,_⟩:=h
  rfl
 ·obtain⟨l,r,zs,ys,ms,rfl,hl,lz,hr',ly,hn,k⟩:=h
  have hu:(A.deeper (envOfC "_law_are_missed" (ao bK) s.heap.objs.size f cdv)).units+64<cLine:=hr.units
  refine⟨_,(aq (bw (PW.pt (iY (dO (bU (aU aS rfl (M.no _ B.aN) aF (pc (pv 0) (pc (bF (v:=.ty "list") rfl (M.no _ B.fB) dR rfl) aj))))) (iO (aK tW (aU aX rfl (M.no _ B.gE) eT (pc (pv 0) aj)) (aU aX rfl (M.no _ B.gE) eT (pc (pv 1) aj)) (aM _))))) (au (aL fJ)) aR)
   (aq (eZ PassesOwn.never rfl (nT rfl (M.no _ B.nq) (pc (aU aX rfl (M.no _ B.gE) eT (pc (pv 1) aj)) aj)) (aV (i:=2) fu.nd rfl (Or.inl rfl))
   (aq (cW (i:=3) fu.nd rfl (Or.inl rfl) (aH cj (pv 0) (pv 2) (λ_ _=>rfl)))
   (aq (bw (PW.pt (iY (dO (bU (aU aS rfl (M.no _ B.aN) aF (pc (pv 3) (pc (bF (v:=.ty "tuple") rfl (M.no _ B.nk) jS rfl) aj))))) (iY (aK tW (aU aX rfl (M.no _ B.gE) eT (pc (pv 3) aj)) ah (aM _)) (iO (dO (bU (aU aS rfl (M.no _ B.aN) aF (pc (aH a_ (pv 3) ah (λ_ _=>rfl)) (pc (bF (v:=.ty "str") rfl (M.no _ B.xZ) rH rfl) aj))))))))) (au (aL fJ)) aR)
   (au (bw (PW.pt (iY (dO (bU (aW gT (hr.mono (by decide)) rfl (pc (aH a_ (pv 3) ah (λ_ _=>rfl)) aj)))) (iY (dO (bU (aW gT (hr.mono (by decide)) rfl (pc (aH a_ (pv 3) ah (λ_ _=>rfl)) aj)))) (iO (aK (FI hu) (pv 3) (aH cj (pv 1) (pv 2) (λ_ _=>rfl)) (aM _)))))) (au (aL fJ)) aR)))))
   (au (aL fJ)))),?_⟩
  clear hu
  have no:∀{A:Prop},(!true)=true->A:=λh=>nomatch h
  have lzl:=lz.len
  have lyl:=ly.len
  refine⟨_,rfl,_,_,_,true,rfl,.lst hl,rfl,true,rfl,aO no λ_=>?_⟩
  refine⟨_,rfl,l,_,rfl,.inl (br.of hl),_,rfl,r,_,rfl,.inl (br.of hr'),rfl,_,rfl,aO (zm LI) λ_=>?_⟩
  refine⟨_,rfl,r,_,rfl,.inl (br.of hr'),_,rfl,LI,LI,?_⟩
  rw[Int.toNat_natCast]
  refine jZ (lo:=0) (n:=ys.length) (λi σ H'=>∃v2 v3,σ=[some (.ref l),some (.ref r),v2,v3]/\H'=H) ⟨none,none,rfl,rfl⟩ ?_ ?_
  ·rintro i σ H' hi ⟨v2,v3,rfl,rfl⟩
   rw[Int.zero_add]
   have e1:zs[i]? = some (zs[i]' LI):=List.getElem?_eq_getElem LI
   have e2:ys[i]? = some (ys[i]'hi):=List.getElem?_eq_getElem hi
   obtain⟨q,b,eq,eb,hb⟩:=lz.get e1
   obtain⟨q2,c,eq2,ec,hc⟩:=ly.get e2
   rw[eq]at eq2
   cases eq2
   have a1:=fR e1
   have a2:=fR e2
   rw[eb]at a1
   rw[ec]at a2
   have hb':bu K H' b [.str q.1,.int q.2.1,.int q.2.2]:=bu.of hb
   refine⟨_,rfl,_,rfl,l,_,_,_,rfl,rfl,br.of hl,a1,?_⟩
   refine⟨_,rfl,_,_,_,true,rfl,.tup hb,rfl,true,rfl,aO no λ_=>?_⟩
   refine⟨_,rfl,b,_,rfl,.inr hb',rfl,_,rfl,aO (zm rfl) λ_=>?_⟩
   refine⟨_,rfl,b,_,0,_,rfl,rfl,hb',zJ,_,_,_,true,rfl,.str _,rfl,true,rfl,aO no λ_=>?_⟩
   refine⟨_,rfl,b,_,1,_,rfl,rfl,hb',JO,_,rfl,true,rfl,aO no λ_=>?_⟩
   refine⟨_,rfl,b,_,2,.int q.2.2,rfl,rfl,hb',rfl,_,rfl,true,rfl,aO no λ_=>?_⟩
   refine⟨_,rfl,_,rfl,_,rfl,r,_,_,_,rfl,rfl,br.of hr',a2,Wz q,Wz q,Lg hb,Lg hc,.inl ⟨_,_,rfl,rfl⟩,rfl,Nat.le_of_ble_eq_true rfl,λbb XM=>?_⟩
   have:bb=true:=XM.mpr rfl
   subst this
   exact⟨_,rfl,aO no λ_=>⟨_,_,rfl,rfl⟩⟩
  ·rintro σ H' ⟨v2,v3,rfl,rfl⟩
   exact k
theorem NR(D:aJ K "_law_stands_so" cE)(M:MG K mg)(B:Bi K)(qk:ef P w K mg "_law_table_of" ["_law_plan","_law_events"] 3 (Af K))(g_:ef P w K mg "_law_so" ["_law_found","_law_meant"] 5 L_):ef P w K mg "_law_stands_so" ["_law_found","_law_plan","_law_taken","_law_mark"] 6 (Eh K):=by
 refine D.fn M fQ ng (λvs H Q E h=>?_) (λf base cdv A outer s H vs Q E hr h=>?_)
 ·obtain⟨l,p,tl,mk,pl,zs,xt,vX,bh,ws,rs,rfl,_⟩:=h
  rfl
 ·obtain⟨l,p,tl,mk,pl,zs,xt,vX,bh,ws,rs,rfl,hl,lz,pm,Kn,rl,tb,hp,ok,ht,lt,tn,te,en,eo,k⟩:=h
  refine⟨_,(aq (cW (i:=4) fQ.nd rfl (Or.inl rfl) (cL aj))
   (gX (bw (aK mO (pv 3) iw (aM _)) (au (eZ PassesOwn.never rfl (bD (aW qk (hr.mono (by decide)) rfl (pc (pv 1) (pc (eF (NY:=["_law_deed"]) (js:=[none]) rfl rfl (by with_unfolding_all rfl) (by repeat first|exact cD.nil|refine cD.cons rfl ?_) (.own .nil) (bD (pv 2)) (λ_ _ _ _ _=>⟨(aV (i:=0) (show(["_law_deed"]:List Str).Nodup from by decide +kernel) rfl (Or.inl rfl)),(gx (aK dF (aH (bx (K:=K) rfl) (pv 0) ah (λ_ _=>rfl)) cA (aM _))),(pv 0)⟩)) aj)))) (aV (i:=5) fQ.nd rfl (Or.inl rfl))
   (au (bw (aK oLe (aH a_ (pv 5) ah (λ_ _=>rfl)) (pv 3) (aM _)) (au (gI (jJ PySem.F.plainAttrs_list PySem.F.slot_list_append PySem.F.type_list_append dw (pv 4) (pc (pv 5) aj)))) aR)))) aR)
   (au (aL (iP (aU aS rfl (M.no _ B.aN) aF (pc (pv 0) (pc (bF (v:=.ty "list") rfl (M.no _ B.fB) dR rfl) aj))) (iu (aW g_ (hr.mono (by decide)) rfl (pc (pv 0) (pc (pv 4) aj))))))))),?_⟩
  refine⟨(by show 0<=sizeLine;decide),λdu Jk=>?_⟩
  have s1:=aA.new (o:=.lst []) Jk
  have SI:upd H du (.lst []) du=some (.lst []):=af
  generalize upd H du (.lst [])=H1 at *
  refine⟨λσ H2=>∃(v5:Option V) (yu:List V),σ=[some (.ref l),some (.ref p),some (.ref tl),some (yk mk),some (.ref du),v5]/\aA H H2/\H2 du=some (.lst yu)/\aC Wn.v H2 yu (rs.filter λw=>closed mk w.e),?_,?_⟩
  ·refine⟨_,rfl,rfl,_,rfl,?_⟩
   cases mk with
   |none=>
    refine aO (λh=>absurd h (by decide)) (λ_=>⟨none,[],rfl,s1,SI,?_⟩)
    rw[show(rs.filter λw=>closed none w.e)=[]from List.filter_eq_nil_iff.mpr λ_ _ z=>nomatch z]
    exact .nil
   |some m=>
    refine aO (λ_=>?_) (λh=>absurd (by rw[decide_eq_false (λz:yk (some m)=V.eN=>by cases z)];rfl) h)
    refine⟨_,rfl,_,rfl,tl,rfl,⟨_,br.of (s1 _ _ ht)⟩,λcl hcl=>?_⟩
    refine dQ (K:=K) (a:=tl) (xs:=xt) (λi ys H2=>H2=upd H1 cl (.lst ys)/\aC bf.v H1 ys ((vX.take i).filter xG)) ⟨rfl,.nil⟩ (λi ys H2 h=>by rw[h.1];exact af) (λi ys H2 _ h=>by rw[h.1];exact br.of ((aA.new hcl) _ _ (s1 _ _ ht))) ?_ ?_
    ·rintro i x ys H2 ex ⟨rfl,xD⟩
     obtain⟨dd,b,ee,rfl,hb'⟩:=lt.get ex
     have hb1:=s1 _ _ hb'
     have htk:vX.take (i+1)=vX.take i++[dd]:=by rw[List.take_add_one,ee];rfl
     have hb2:=(aA.new (o:=.lst ys) hcl) _ _ hb1
     refine⟨cy rfl,?_⟩
     cases dd with
     |ev n t a=>
      refine⟨_,rfl,b,_,0,.str "event",rfl,rfl,bu.of hb2,zJ,rfl,_,rfl,aO (λ_=>?_) (λh=>absurd (decide_eq_true rfl) h)⟩
      refine⟨_,rfl,ys,af,?_,by rw[gu],?_⟩
      ·rw[xD.len,sizeLine_eq]
       have:=List.length_filter_le xG (vX.take i)
       rw[List.length_take]at this
       lia
      ·rw[htk,List.filter_append]
       exact xD.snoc hb1
     |mk t=>
      refine⟨_,rfl,b,_,0,.str "mark",rfl,rfl,bu.of hb2,zJ,rfl,_,rfl,aO (λz=>absurd z (uC VN)) (λ_=>⟨ys,rfl,?_⟩)⟩
      rw[htk,List.filter_append]
      exact(List.append_nil _).symm▸xD
    rintro ys H2 ⟨rfl,l2⟩
    rw[lt.len,List.take_length,te]at l2
    have s2:=aA.new (o:=.lst ys) hcl
    have XH:upd H1 cl (.lst ys) cl=some (.lst ys):=af
    have SH:=s2 _ _ SI
    have le:=Gg (l2.keep λb row e=>s2 _ _ e)
    generalize upd H1 cl (.lst ys)=H2 at *
    refine⟨p,cl,pl,ys,bh,rfl,(s1.trans s2).ji hp,ok,XH,le,en,eo,λrt yt wt H3 s3 RV ZN tab wl VH Zy=>?_⟩
    have X_:rs=wt:=ic Wn.d Qe (λa _=>uK a) (λa _ b _ h=>Wn.Bt h) (pm.trans (tb.uniq tab)) (List.pairwise_map.mp Kn) (List.pairwise_map.mp VH)
    subst X_
    have SG:=s3 _ _ SH
    have s03:=s1.trans (s2.trans s3)
    have nrt:rt≠du:=λz=>by rw[z,SH]at RV;cases RV
    refine⟨rt,rfl,⟨_,br.of ZN⟩,?_⟩
    refine eS (K:=K) (a:=rt) (xs:=yt) (λi σ H'=>∃(v5:Option V) (yu:List V),σ=[some (.ref l),some (.ref p),some (.ref tl),some (yk (some m)),some (.ref du),v5]/\(∀c u,c≠du->H3 c=some u->H' c=some u)/\H' du=some (.lst yu)/\aC Wn.v H' yu ((rs.take i).filter λw=>closed (some m) w.e))
     ⟨none,[],rfl,λ_ _ _ e=>e,SG,.nil⟩ (λi σ H' _ ⟨_,_,_,sm,_⟩=>br.of (sm _ _ nrt ZN)) ?_ ?_
    ·rintro i x σ H' ex ⟨v5,yu,rfl,sm,Lk,lu⟩
     obtain⟨w,b,ew,rfl,hb0⟩:=Zy.get ex
     have hb:=sm _ _ (aT hb0 SG (by intro z;cases z)) hb0
     have htk:rs.take (i+1)=rs.take i++[w]:=by rw[List.take_add_one,ew];rfl
     refine⟨_,rfl,b,_,2,.int w.e,rfl,rfl,bu.of hb,rfl,_,rfl,_,_,rfl,rfl,_,rfl,aO (λh=>?_) (λh=>?_)⟩
     ·have up:∀d row,H' d=some (.tup row)->upd H' du (.lst (yu++[.ref b])) d=some (.tup row):=λd row e=>by
       rw[ai (aT e Lk (by intro z;cases z))]
       exact e
      refine⟨_,rfl,.inl ⟨rfl,_,br.of Lk⟩,_,rfl,du,_,.ref b,rfl,rfl,Lk,?_,_,yu++[.ref b],rfl,λc u n e=>?_,af,?_⟩
      ·rw[lu.len,sizeLine_eq]
       have:=List.length_filter_le (λw:Wn=>closed (some m) w.e) (rs.take i)
       rw[List.length_take]at this
       lia
      ·rw[ai n]
       exact sm _ _ n e
      ·rw[htk,List.filter_append,List.filter_cons,if_pos (show closed (some m) w.e=true from h),List.filter_nil]
       exact(lu.keep up).snoc (up _ _ hb)
     ·refine⟨_,yu,rfl,sm,Lk,?_⟩
      rw[htk,List.filter_append,List.filter_cons,if_neg (show¬closed (some m) w.e=true from h),List.filter_nil,List.append_nil]
      exact lu
    ·rintro σ H' ⟨v5,yu,rfl,sm,Lk,lu⟩
     rw[Zy.len,List.take_length]at lu
     exact⟨v5,yu,rfl,λc u e=>sm _ _ (av e Jk) (s03 _ _ e),Lk,lu⟩
  ·rintro σ H2 ⟨v5,yu,rfl,s2,Lk,lu⟩
   have lf:(rs.filter λw=>closed mk w.e).length<=4000000:=Nat.le_trans (List.length_filter_le _ _) rl
   have ll:=lz.len
   have lul:=lu.len
   refine⟨_,rfl,_,_,_,true,rfl,.lst (s2 _ _ hl),rfl,true,rfl,aO (λ_=>?_) (λh=>absurd rfl h)⟩
   exact⟨_,rfl,_,rfl,_,_,_,rfl,xA (g:=Wn.d) (λ_ _ h=>ES h) (s2 _ _ hl) LI (lz.keep λc row e=>s2 _ _ e),xA (g:=Wn.d) (λ_ _ h=>ES h) Lk LI lu,Nat.succ_le_succ (m_ λd hd=>by obtain⟨w,_,rfl⟩:=List.mem_map.mp hd;exact Nat.le_of_ble_eq_true rfl),λH' s'=>k _ (s2.trans s')⟩
end
inductive Ep(Pt:Addr)(K:Fg7)(mg:Str->Option Value)(vs:List V)(H:Hp)(Q:VK):Prop
 |mk(a:Addr)(ns:List Int):(vs=[.ref a])->(br K H a (ns.map V.int))->(ns.length<=63)->(bV H Pt lp lq)->(eK K mg H)->(∀H',Q (.bl true) H')->Ep Pt K mg vs H Q
def Kq(Pt:Addr)(K:Fg7)(mg:Str->Option Value):Sp:=λvs H Q d_=>Ep Pt K mg vs H Q
def Nt(H H':Hp):Prop:=∀c o,H c=some o->(∀ps,o≠.pY ps)->H' c=some o
theorem Nt.of{H H':Hp}(s:aA H H'):Nt H H':=λc o e _=>s c o e
theorem Nt.kp{H H':Hp}{Pt:Addr}(lt:bV H Pt lp lq)(k:gM H H' Pt):Nt H H':=λc o e n=>by
 obtain⟨ps,hp⟩:=fy lt
 exact k c o e (aT e hp (n ps))
theorem Nt.lst{H H':Hp}(s:Nt H H'){c:Addr}{xs:List V}(e:H c=some (.lst xs)):H' c=some (.lst xs):=s _ _ e λ_ z=>nomatch z
theorem Nt.tup{H H':Hp}(s:Nt H H')(c:Addr)(xs:List V)(e:H c=some (.tup xs)):H' c=some (.tup xs):=s _ _ e λ_ z=>nomatch z
structure OL(K:Fg7)(mg:Str->Option Value)(Pt p dl tl du:Addr)(pl:Pl)(xd xt xu:List V)(aQ vX:List bf)(ms:List (Str×Int×Int))(H:Hp):Prop where
 p:H p=some (.tup pl.row)
 d:H dl=some (.lst xd)
 ld:aC bf.v H xd aQ
 t:H tl=some (.lst xt)
 lt:aC bf.v H xt vX
 u:H du=some (.lst xu)
 lu:aC MN H xu ms
 tb:bV H Pt lp lq
 bl:eK K mg H
theorem OL.keep{K:Fg7}{mg:Str->Option Value}{Pt p dl tl du:Addr}{pl:Pl}{xd xt xu:List V}{aQ vX:List bf}{ms:List (Str×Int×Int)}{H H':Hp}(c:OL K mg Pt p dl tl du pl xd xt xu aQ vX ms H)(n:Nt H H')(l:bV H' Pt lp lq):OL K mg Pt p dl tl du pl xd xt xu aQ vX ms H':=
 ⟨n.tup _ _ c.p,n.lst c.d,c.ld.keep n.tup,n.lst c.t,c.lt.keep n.tup,n.lst c.u,c.lu.keep n.tup,l,c_ c.bl λa o u e=>n _ _ e λ_ z=>nomatch z⟩
theorem OL.same{K:Fg7}{mg:Str->Option Value}{Pt p dl tl du:Addr}{pl:Pl}{xd xt xu:List V}{aQ vX:List bf}{ms:List (Str×Int×Int)}{H H':Hp}(c:OL K mg Pt p dl tl du pl xd xt xu aQ vX ms H)(s:aA H H'):OL K mg Pt p dl tl du pl xd xt xu aQ vX ms H':=
 c.keep (Nt.of s) (bS c.tb (λ_ e=>s _ _ e) λ_ _ _ e=>s _ _ e)
theorem i_{K:Fg7}{H:Hp}{xs:List V}{ds:List bf}(l:aC bf.v H xs ds):gA K H xs ds:=Paired.imp' (λ_ _ ⟨b,e,h⟩=>⟨b,e,bu.of h⟩) l
theorem vU(pl:Pl)(aQ:List bf):(eL pl aQ).tk.Sublist aQ:=by
 have key:∀(aQ pre:List bf)(q:TQ),q.tk.Sublist pre->(aQ.foldl (iW pl) q).tk.Sublist (pre++aQ):=by
  intro aQ
  induction aQ with
  |nil=>intro pre q h;rw[List.append_nil];exact h
  |cons d aQ ih=>
   intro pre q h
   have:=ih (pre++[d]) (iW pl q d) (by
    cases d with
    |ev n t a=>
     show(if late q.mk (cB pl) t=true then(⟨q.tk,q.du++[(n,t,a)],q.mk⟩:TQ)else⟨q.tk++[.ev n t a],q.du,q.mk⟩).tk.Sublist _
     split
     ·exact h.trans (List.sublist_append_left ..)
     ·exact h.append (List.Sublist.refl _)
    |mk t=>exact h.append (List.Sublist.refl _))
   rw[List.append_assoc]at this
   exact this
 exact key aQ [] _ (List.Sublist.refl _)
theorem zX(pl:Pl)(aQ:List bf):(eL pl aQ).du.length<=aQ.length:=by
 have key:∀(aQ:List bf)(q:TQ),(aQ.foldl (iW pl) q).du.length<=q.du.length+aQ.length:=by
  intro aQ
  induction aQ with
  |nil=>intro q;exact Nat.le_refl _
  |cons d aQ ih=>
   intro q
   have h1:=ih (iW pl q d)
   have h2:(iW pl q d).du.length<=q.du.length+1:=by
    cases d with
    |ev n t a=>
     show(if late q.mk (cB pl) t=true then(⟨q.tk,q.du++[(n,t,a)],q.mk⟩:TQ)else⟨q.tk++[.ev n t a],q.du,q.mk⟩).du.length<=_
     split
     ·rw[List.length_append];exact Nat.le_refl _
     ·exact Nat.le_succ _
    |mk t=>exact Nat.le_succ _
   rw[List.foldl_cons,List.length_cons]
   lia
 have:=key aQ ⟨[],[],none⟩
 rw[List.length_nil]at this
 unfold eL
 lia
theorem Mf{H:Hp}{a:Addr}{z:eU}(h:H a=some (.tup z.v)):Tk H (.ref a) (uO z):=by
 cases z with
 |told w=>exact .tup h (by show 6<=10000000;decide) (.cons (.str _) (.cons (.str _) (.cons (.int _) (.cons (.int _) (.cons (.int _) (.cons (.int _) .nil))))))
 |gone k=>exact .tup h (by show 4<=10000000;decide) (.cons (.str _) (.cons (.str _) (.cons (.int _) (.cons (.int _) .nil))))
 |missed n t a=>exact .tup h (by show 4<=10000000;decide) (.cons (.str _) (.cons (.str _) (.cons (.int _) (.cons (.int _) .nil))))
def AG(o:List eU):Dv:=.lst (o.map uO)
theorem BV(o:List eU):(AG o).dep<=2:=Nat.succ_le_succ (m_ λd hd=>by obtain⟨z,_,rfl⟩:=List.mem_map.mp hd;exact AH z)
theorem AF{H:Hp}:∀{xs:List V}{os:List (List eU)},dg H xs os->(∀o∈os,o.length<=10000000)->Tks H xs (os.map AG):=by
 intro xs os h
 induction h with
 |nil=>intro _;exact .nil
 |cons e _ ih=>
  intro hl
  obtain⟨l,zs,rfl,e,la⟩:=e
  exact .cons (xA (λ_ _ h=>Mf h) e (by rw[la.len];exact hl _ (.head _)) la) (ih λo ho=>hl o (.tail _ ho))
theorem AJ{H:Hp}{a:Addr}{mk:Option Int}{w:Wn}(h:H a=some (.tup (Iq mk w))):Tk H (.ref a) (tR mk w):=.tup h (by show 6<=10000000;decide) (.cons (.str _) (.cons (.int _) (.cons (.int _) (.cons (.int _) (.cons (.int _) (.cons (.bl _) .nil))))))
theorem dg.nt{H H':Hp}(n:Nt H H'){xs:List V}{os:List (List eU)}(h:dg H xs os):dg H' xs os:=Paired.imp' (λ_ _ ⟨l,zs,e,h1,h2⟩=>⟨l,zs,e,n.lst h1,h2.keep n.tup⟩) h
theorem wW{pl:Pl}(ok:pl.ok){aQ:List bf}{outs:List (List eU)}{st:l_}(rn:Runs pl ⟨none,[],[]⟩ aQ outs st)(hn:aQ.length<=1000):outs.length=aQ.length/\∀o∈outs,o.length<=10000000:=by
 obtain⟨S,S0,_,lo,hS⟩:=BX rn
 refine⟨lo,λo ho=>?_⟩
 obtain⟨i,hi,rfl⟩:=List.mem_iff_getElem.mp ho
 have h1:=FH ok (by rw[S0]) lo hS i LI
 have h2:=Oi ok (hS i (aQ[i]' LI) outs[i] (List.getElem?_eq_getElem LI) (List.getElem?_eq_getElem hi))
 lia
theorem VM:("told":Str)≠"missed":=DK
theorem VO:("gone":Str)≠"missed":=DK
theorem VP:("event":Str)≠"mark":=DK
theorem Cf(l:List Dv):eO (.lst l) (.lst [])=true:=by cases l<;>rfl
section
variable {P:Program} {w:World} {K:Fg7} {mg:Str->Option Value} {Pt:Addr}
theorem Th(D:aJ K "law" kQ)(M:MG K mg)(B:Bi K)(pB:ef P w K mg "_law_at" ["_law_script","_law_k"] 1 (Kv K))(rV:ef P w K mg "_law_plan_of" ["_law_one","_law_two"] 1 Am)
  (vF:ef P w K mg "_law_drawn" ["_law_cells","_law_base"] 3 (AD K))(rX:ef P w K mg "_law_base_of" ["_law_cell"] 1 Ex)
  (HA:ef P w K mg "missed" ["plan","deeds"] 7 (wG K mg Pt))(nF:ef P w K mg "_law_are_missed" ["_law_found","_law_due"] 2 Ek)
  (uz:ef P w K mg "answers" ["plan","deeds"] 6 (Kz K mg Pt))(qo:ef P w K mg "_law_are_said" ["_law_found"] 3 (Kw K))(nE:ef P w K mg "kept_after" ["plan","deeds"] 7 (Ax K mg Pt))(zQ:ef P w K mg "standing" ["plan","deeds"] 7 (Ag K mg Pt))(pA:ef P w K mg "_law_stands_so" ["_law_found","_law_plan","_law_taken","_law_mark"] 6 (Eh K))(g_:ef P w K mg "_law_so" ["_law_found","_law_meant"] 5 L_):
  ef P w K mg "law" ["_law_script"] 8 (Kq Pt K mg):=by
 refine D.fn M fO OE (λvs H Q E h=>?_) (λf base cdv A outer s H vs Q E hr h=>?_)
 ·obtain⟨a,ns,rfl,_⟩:=h
  rfl
 ·obtain⟨a,ns,rfl,ha,hlen,hT,hB,k⟩:=h
  have hu1:=uc hr
  have hu:(A.deeper (envOfC "law" (ao kQ) s.heap.objs.size f cdv)).units+64<cLine:=hr.units
  refine⟨_,(aq (cW (i:=1) fO.nd rfl (Or.inl rfl) (aW rV (hr.mono (by decide)) rfl (pc (aW pB (hr.mono (by decide)) rfl (pc (pv 0) (pc ah aj))) (pc (aW pB (hr.mono (by decide)) rfl (pc (pv 0) (pc ah aj))) aj))))
   (aq (cW (i:=2) fO.nd rfl (Or.inl rfl) (aW vF (hr.mono (by decide)) rfl (pc (qP Ih (pv 0) (qz ah) (qz ah)) (pc (aW rX (hr.mono (by decide)) rfl (pc (aW pB (hr.mono (by decide)) rfl (pc (pv 0) (pc ah aj))) aj)) aj))))
   (aq (cW (i:=3) fO.nd rfl (Or.inl rfl) iw)
   (aq (cW (i:=4) fO.nd rfl (Or.inl rfl) (cL aj))
   (aq (cW (i:=5) fO.nd rfl (Or.inl rfl) (cL aj))
   (aq (eZ PassesOwn.never rfl (bD (pv 2)) (aV (i:=6) fO.nd rfl (Or.inl rfl))
   (au (bw (aK dF (aH a_ (pv 6) ah (λ_ _=>rfl)) cA (aM _)) (aq (gI (jJ PySem.F.plainAttrs_list PySem.F.slot_list_append PySem.F.type_list_append dw (pv 4) (pc (pv 6) aj)))
   (au (bw (PW.pt (iY (aK uU (pv 3) iw (aM _)) (iO (aK QJ (aH a_ (pv 6) ah (λ_ _=>rfl)) (pv 3) (aM _))))) (au (cW (i:=3) fO.nd rfl (Or.inl rfl) (aH a_ (pv 6) ah (λ_ _=>rfl)))) aR))) (au (bw (PW.pt (jk (aK mO (pv 3) iw (aM _)) (jj (aK oLt (aH a_ (pv 6) ah (λ_ _=>rfl)) (aD qS (pv 3) (aH a_ (pv 1) (mL uA ah) (λ_ _=>rfl))) (aM _))))) (au (gI (jJ PySem.F.plainAttrs_list PySem.F.slot_list_append PySem.F.type_list_append dw (pv 5) (pc (qP ED (pv 6) (qz ah) AQ) aj)))) (au (gI (jJ PySem.F.plainAttrs_list PySem.F.slot_list_append PySem.F.type_list_append dw (pv 4) (pc (pv 6) aj)))))))))
   (aq (cW (i:=7) fO.nd rfl (Or.inl rfl) (jl eX rfl (M.no _ B.fB) dR (pc (pv 2) aj)))
   (aq (bw (PW.pt (iY (dO (bU (aW nF (hr.mono (by decide)) rfl (pc (aW HA (hr.mono (by decide)) rfl (pc (pv 1) (pc (pv 7) aj))) (pc (pv 5) aj))))) (iO (aK (FI hu) (pv 7) (pv 2) (aM _))))) (au (aL fJ)) aR)
   (aq (cW (i:=8) fO.nd rfl (Or.inl rfl) (aW uz (hr.mono (by decide)) rfl (pc (pv 1) (pc (jl eX rfl (M.no _ B.fB) dR (pc (pv 2) aj)) aj))))
   (aq (cW (i:=9) fO.nd rfl (Or.inl rfl) (aW uz (hr.mono (by decide)) rfl (pc (pv 1) (pc (jl eX rfl (M.no _ B.fB) dR (pc (pv 4) aj)) aj))))
   (aq (bw (PW.pt (iY (dO (bU (aU aS rfl (M.no _ B.aN) aF (pc (pv 8) (pc (bF (v:=.ty "list") rfl (M.no _ B.fB) dR rfl) aj))))) (iY (dO (bU (aU aS rfl (M.no _ B.aN) aF (pc (pv 9) (pc (bF (v:=.ty "list") rfl (M.no _ B.fB) dR rfl) aj))))) (iO (aK tW (aU aX rfl (M.no _ B.gE) eT (pc (pv 9) aj)) (aU aX rfl (M.no _ B.gE) eT (pc (pv 4) aj)) (aM _)))))) (au (aL fJ)) aR)
   (aq (bw (dO (bU (aW pA (hr.mono (by decide)) rfl (pc (aW zQ (hr.mono (by decide)) rfl (pc (pv 1) (pc (jl eX rfl (M.no _ B.fB) dR (pc (pv 2) aj)) aj))) (pc (pv 1) (pc (pv 4) (pc (pv 3) aj))))))) (au (aL fJ)) aR)
   (aq (cW (i:=10) fO.nd rfl (Or.inl rfl) (cL aj))
   (aq (eZ PassesOwn.never rfl (bD (pv 8)) (aV (i:=11) fO.nd rfl (Or.inl rfl))
   (aq (bw (dO (bU (aW qo (hr.mono (by decide)) rfl (pc (pv 11) aj)))) (au (aL fJ)) aR)
   (au (bw (aK (MI hu) (eF (NY:=["_law_one"]) (js:=[none]) rfl rfl (by with_unfolding_all rfl) (by repeat first|exact cD.nil|refine cD.cons rfl ?_) (.own .nil) (bD (pv 11)) (λ_ _ _ _ _=>⟨(aV (i:=0) (show(["_law_one"]:List Str).Nodup from by decide +kernel) rfl (Or.inl rfl)),(gx (aK dF (aH (bx (K:=K) rfl) (pv 0) ah (λ_ _=>rfl)) cA (aM _))),(pv 0)⟩)) (cL aj) (aM _)) (au (gI (jJ PySem.F.plainAttrs_list PySem.F.slot_list_append PySem.F.type_list_append dw (pv 10) (pc (pv 11) aj)))) aR))))
   (aq (cW (i:=12) fO.nd rfl (Or.inl rfl) (aW nE (hr.mono (by decide)) rfl (pc (pv 1) (pc (jl eX rfl (M.no _ B.fB) dR (pc (pv 2) aj)) aj))))
   (au (aL (iP (aW g_ (hr.mono (by decide)) rfl (pc (pv 10) (pc (pv 9) aj))) (iu (aW g_ (hr.mono (by decide)) rfl (pc (pv 12) (pc (aW nE (hr.mono (by decide)) rfl (pc (pv 1) (pc (jl eX rfl (M.no _ B.fB) dR (pc (pv 4) aj)) aj))) aj)))))))))))))))))))))),?_⟩
  clear hu1 hu
  have no:∀{A:Prop},(!true)=true->A:=λh=>nomatch h
  refine bY λBq iQ=>?_
  refine⟨_,rfl,a,ns,0,rfl,ha,(by decide),λv0=>⟨_,rfl,a,ns,1,rfl,ha,(by decide),λv1=>⟨v0,v1,rfl,λp pl H1 s1 hp0 hp ok bd=>?_⟩⟩⟩
  subst iQ
  try dsimp only[ff]
  refine bY λBq iQ=>?_
  refine⟨_,rfl,_,rfl,_,rfl,a,_,rfl,s1.seq ha,λcl hcl=>?_⟩
  obtain⟨cs,ecs,lcs⟩:∃cs:List Int,oQ (ns.map V.int) (some 3) (some 43)=cs.map V.int/\cs.length<=63:=by
   refine⟨(ns.drop (HT.fT (ns.map V.int).length 0 (some 3))).take (HT.fT (ns.map V.int).length (ns.map V.int).length (some 43)-HT.fT (ns.map V.int).length 0 (some 3)),?_,?_⟩
   ·unfold oQ
    rw[List.map_take,List.map_drop]
   ·rw[List.length_take,List.length_drop]
    lia
  rw[ecs]
  have t3:=aA.new (o:=.lst (cs.map V.int)) hcl
  have SN:upd H1 cl (.lst (cs.map V.int)) cl=some (.lst (cs.map V.int)):=af
  have s3:=s1.trans t3
  have hp3:=t3 _ _ hp
  clear ecs hp
  generalize upd H1 cl (.lst (cs.map V.int))=H3 at *
  refine⟨_,rfl,a,ns,2,rfl,s3.seq ha,(by decide),λv3=>⟨v3,rfl,λb H4 s4 b1 b2=>⟨cl,cs,b,rfl,br.of (s4 _ _ SN),by lia,b1,b2,λdl xd aQ H5 s5 hr0 Jl Ro ldd okd=>?_⟩⟩⟩
  have VT:=s4.trans s5
  have Xi:=VT _ _ hp3
  have Uu:aA H H5:=s3.trans VT
  have hn:aQ.length<=63:=by lia
  clear hp3 SN t3 s4 s5 VT b1 b2 hr0 hcl s3
  subst iQ
  try dsimp only[ff]
  refine bY λBq iQ=>?_
  subst iQ
  dsimp only[Eb,tC,ff]
  refine bY λBq iQ=>?_
  refine⟨(by show 0<=sizeLine;decide),λtl Dz=>?_⟩
  subst iQ
  try dsimp only[ff]
  refine bY λBq iQ=>?_
  refine⟨(by show 0<=sizeLine;decide),λdu Jk=>?_⟩
  have RN:upd (upd H5 tl (.lst [])) du (.lst []) tl=some (.lst []):=(aA.new Jk) _ _ af
  have SD:upd (upd H5 tl (.lst [])) du (.lst []) du=some (.lst []):=af
  have Zh:tl≠du:=λz=>by rw[←z,af]at Jk;cases Jk
  have t6:aA H5 (upd (upd H5 tl (.lst [])) du (.lst [])):=(aA.new Dz).trans (aA.new Jk)
  have SE:H5 du=none:=nQ (aA.new Dz) Jk
  generalize upd (upd H5 tl (.lst [])) du (.lst [])=H6 at *
  subst iQ
  try dsimp only[ff]
  refine bY λBq iQ=>?_
  refine⟨_,rfl,dl,rfl,⟨_,br.of (t6 _ _ Jl)⟩,?_⟩
  refine eS (K:=K) (a:=dl) (xs:=xd) (λi σ H'=>∃(v6:Option V) (xt xu:List V),σ=[some (.ref a),some (.ref p),some (.ref dl),some (yk (eL pl (aQ.take i)).mk),some (.ref tl),some (.ref du),v6,none,none,none,none,none,none]/\aA H5 H'/\H' tl=some (.lst xt)/\aC bf.v H' xt (eL pl (aQ.take i)).tk/\H' du=some (.lst xu)/\aC MN H' xu (eL pl (aQ.take i)).du)
   ⟨none,[],[],rfl,t6,RN,.nil,SD,.nil⟩ (λi σ H' _ ⟨_,_,_,_,sm,_⟩=>br.of (sm _ _ Jl)) ?_ ?_
  ·rintro i x σ H' ex ⟨v6,xt,xu,rfl,sm,Bl,lt,Ll,lu⟩
   obtain⟨dd,b,ed,rfl,hb0⟩:=Ro.get ex
   have hb:=sm _ _ hb0
   have sE:=sm _ _ Xi
   have hi:i<aQ.length:=(List.getElem?_eq_some_iff.mp ed).1
   have key:eL pl (aQ.take (i+1))=iW pl (eL pl (aQ.take i)) dd:=by
    rw[List.take_add_one,ed]
    exact sZ _ _ _
   have l1:=(vU pl (aQ.take i)).length_le
   have l2:=zX pl (aQ.take i)
   rw[List.length_take]at l1 l2
   rw[key]
   generalize eL pl (aQ.take i)=q at *
   obtain⟨tk,dq,mk⟩:=q
   dsimp only at lt lu l1 l2 ⊢
   clear key
   have P_:xt.length<sizeLine:=by rw[lt.len,sizeLine_eq];lia
   have sz2:xu.length<sizeLine:=by rw[lu.len,sizeLine_eq];lia
   have up:∀{c:Addr}{xs:List V}(ys:List V),H' c=some (.lst xs)->∀e row,H' e=some (.tup row)->upd H' c (.lst ys) e=some (.tup row):=λys hc e row h=>by
    rw[ai (aT h hc (by intro z;cases z))]
    exact h
   have put:aA H5 (upd H' tl (.lst (xt++[.ref b])))/\aC bf.v (upd H' tl (.lst (xt++[.ref b]))) (xt++[.ref b]) (tk++[dd])/\upd H' tl (.lst (xt++[.ref b])) du=some (.lst xu)/\aC MN (upd H' tl (.lst (xt++[.ref b]))) xu dq:=
    ⟨λc u e=>by rw[ai (av e Dz)];exact sm _ _ e,(lt.keep (up _ Bl)).snoc (up _ Bl _ _ hb),by rw[ai Zh.symm];exact Ll,lu.keep (up _ Bl)⟩
   obtain⟨p1,p2,p3,p4⟩:=put
   cases dd with
   |mk t=>
    have hb':bu K (upd H' tl (.lst (xt++[.ref b]))) b (bf.mk t).v:=bu.of (up _ Bl _ _ hb)
    refine⟨_,rfl,b,_,0,.str "mark",rfl,rfl,bu.of hb,zJ,rfl,_,rfl,aO (λ_=>?_) (λh=>absurd (decide_eq_true rfl) h)⟩
    refine⟨_,rfl,.inl ⟨rfl,_,br.of Bl⟩,_,rfl,tl,_,.ref b,rfl,rfl,Bl,P_,?_⟩
    refine⟨_,rfl,rfl,_,rfl,?_⟩
    cases mk with
    |none=>
     refine aO (λ_=>?_) (λh=>absurd (decide_eq_true rfl) h)
     exact⟨_,rfl,b,_,1,.int t,rfl,rfl,hb',JO,_,_,xu,rfl,p1,af,p2,p3,p4⟩
    |some m=>
     refine aO (λh=>absurd (of_decide_eq_true h) (by intro z;cases z)) (λ_=>?_)
     have el2:iW pl ⟨tk,dq,some m⟩ (.mk t)=⟨tk++[.mk t],dq,if m<t then some t else some m⟩:=rfl
     rw[el2]
     refine⟨_,rfl,b,_,1,.int t,rfl,rfl,hb',JO,_,rfl,_,_,rfl,rfl,_,rfl,aO (λh=>?_) (λh=>?_)⟩
     ·rw[if_pos (of_decide_eq_true h)]
      exact⟨_,rfl,b,_,1,.int t,rfl,rfl,hb',JO,_,_,xu,rfl,p1,af,p2,p3,p4⟩
     ·rw[if_neg λz=>h (decide_eq_true z)]
      exact⟨_,_,xu,rfl,p1,af,p2,p3,p4⟩
   |ev n t a0=>
    have UY:iW pl ⟨tk,dq,mk⟩ (.ev n t a0)=if late mk (cB pl) t=true then⟨tk,dq++[(n,t,a0)],mk⟩else⟨tk++[.ev n t a0],dq,mk⟩:=rfl
    rw[UY]
    refine⟨_,rfl,b,_,0,.str "event",rfl,rfl,bu.of hb,zJ,rfl,_,rfl,aO (λh=>absurd h (uC VP)) (λ_=>?_)⟩
    refine⟨_,rfl,rfl,_,rfl,?_⟩
    cases mk with
    |none=>
     rw[if_neg (show¬late none (cB pl) t=true from Bool.false_ne_true)]
     refine aO (λh=>absurd h (by decide)) (λ_=>?_)
     exact⟨_,rfl,.inl ⟨rfl,_,br.of Bl⟩,_,rfl,tl,_,.ref b,rfl,rfl,Bl,P_,_,_,xu,rfl,p1,af,p2,p3,p4⟩
    |some m=>
     refine aO (λ_=>?_) (λh=>absurd (by rw[decide_eq_false (λz:yk (some m)=V.eN=>by cases z)];rfl) h)
     refine⟨_,rfl,b,_,2,.int t,rfl,rfl,bu.of hb,rfl,_,rfl,_,rfl,1,rfl,p,_,-1,_,rfl,rfl,bu.of sE,ET pl,_,_,rfl,rfl,_,_,rfl,rfl,_,rfl,aO (λh=>?_) (λh=>?_)⟩
     ·rw[if_pos (show late (some m) (cB pl) t=true from h)]
      have hb2:bu K H' b [.str "event",.str n,.int t,.int a0]:=bu.of hb
      refine⟨_,rfl,.inl ⟨rfl,_,br.of Ll⟩,_,rfl,_,rfl,b,_,rfl,hb2,(λh=>absurd h.1 (show¬(1:Nat)=0 by decide)),λc hc=>?_⟩
      have sc:=aA.new (o:=.tup [.str n,.int t,.int a0]) hc
      have ncd:c≠du:=λz=>by rw[z,Ll]at hc;cases hc
      have Vo:∀e row,upd H' c (.tup [.str n,.int t,.int a0]) e=some (.tup row)->upd (upd H' c (.tup [.str n,.int t,.int a0])) du (.lst (xu++[.ref c])) e=some (.tup row):=λe row h=>by
       rw[ai (aT h (sc _ _ Ll) (by intro z;cases z))]
       exact h
      refine⟨du,_,.ref c,rfl,rfl,sc _ _ Ll,sz2,_,xt,xu++[.ref c],rfl,λe u h=>?_,?_,?_,af,?_⟩
      ·rw[ai (av h SE)]
       exact sc _ _ (sm _ _ h)
      ·rw[ai Zh]
       exact sc _ _ Bl
      ·exact lt.keep λe row h=>Vo _ _ (sc _ _ h)
      ·exact(lu.keep λe row h=>Vo _ _ (sc _ _ h)).snoc (w:=(n,t,a0)) (Vo _ _ af)
     ·rw[if_neg (show¬late (some m) (cB pl) t=true from h)]
      exact⟨_,rfl,.inl ⟨rfl,_,br.of Bl⟩,_,rfl,tl,_,.ref b,rfl,rfl,Bl,P_,_,_,xu,rfl,p1,af,p2,p3,p4⟩
  ·rintro σ H7 ⟨v6,xt,xu,rfl,sm,Bl,lt,Ll,lu⟩
   rw[Ro.len,List.take_length]at *
   have Ut:=Uu.trans sm
   have C7:OL K mg Pt p dl tl du pl xd xt xu aQ (eL pl aQ).tk (eL pl aQ).du H7:=⟨sm _ _ Xi,sm _ _ Jl,Ro.keep λa row e=>sm _ _ e,Bl,lt,Ll,lu,bS hT (λps e=>Ut _ _ e) λa o u e=>Ut _ _ e,c_ hB λa o u e=>Ut _ _ e⟩
   have PF:=vU pl aQ
   have aaP:=PF.length_le
   have tdu:=zX pl aQ
   have Zd:∀dd∈(eL pl aQ).tk,dd.ok:=λdd h=>okd dd (PF.mem h)
   have lxd:=Ro.len
   have lxt:=lt.len
   obtain⟨te,tm⟩:=DO pl aQ
   have few:∀(l:List bf),l.length<=63->∀i outs st,Runs pl ⟨none,[],[]⟩ (l.take i) outs st->TS.Fits st.ws.length:=λl hl i outs st rn=>by
    have h1:=(rn.len ok).1
    have h2:(l.take i).length<=63:=by rw[List.length_take];lia
    simp only[List.length_nil]at h1
    exact⟨by lia,by show _<10000001;lia⟩
   clear Bl lt Ll lu Ut sm Xi Jl Ro t6 RN SD hT hB Uu SE Dz Jk
   subst iQ
   try dsimp only[ff]
   refine bY λBq iQ=>?_
   refine⟨_,rfl,dl,_,rfl,.inl (br.of C7.d),λhl hhl=>?_⟩
   have t8:=aA.new (o:=.lst xd) hhl
   have NH:upd H7 hl (.lst xd) hl=some (.lst xd):=af
   have C8:=C7.same t8
   generalize upd H7 hl (.lst xd)=H8 at *
   clear C7
   subst iQ
   try dsimp only[ff]
   refine bY λBq iQ=>?_
   refine⟨_,rfl,_,rfl,p,hl,pl,xd,aQ,rfl,bu.of C8.p,bd,ok,br.of NH,i_ C8.ld,okd,by lia,(λi outs st r=>(few aQ hn i outs st r).2),C8.tb,C8.bl,λr zs outs st H9 rn kp Pe WJ Zw _=>?_⟩
   have n9:=Nt.kp C8.tb kp
   have C9:=C8.keep n9 Zw
   have Sm:=n9.lst NH
   rw[(kW ok rn rfl).2.1]at WJ
   refine⟨_,rfl,r,du,zs,xu,_,rfl,Pe,WJ,C9.u,C9.lu,by lia,true,rfl,aO no λ_=>?_⟩
   refine⟨_,rfl,_,rfl,.lst (aQ.map Oq),.lst (aQ.map Oq),GW Sm C9.ld,GW C9.d C9.ld,.inr ⟨_,_,rfl,rfl⟩,(Bd GX _).2,(Bd GX _).1,λbq NL=>?_⟩
   have:bq=true:=NL.mpr rfl
   subst this
   refine⟨_,rfl,aO no λ_=>?_⟩
   clear NL rn kp Pe WJ Zw n9 Sm C8 NH t8
   subst iQ
   try dsimp only[tF]
   refine bY λBq iQ=>?_
   refine⟨_,rfl,_,rfl,dl,_,rfl,.inl (br.of C9.d),λh2 hh2=>?_⟩
   have OP:=C9.same (aA.new (o:=.lst xd) hh2)
   have Ss:upd H9 h2 (.lst xd) h2=some (.lst xd):=af
   generalize upd H9 h2 (.lst xd)=Yy at *
   clear C9
   refine⟨p,h2,pl,xd,aQ,rfl,bu.of OP.p,bd,ok,br.of Ss,i_ OP.ld,okd,by lia,(λi outs st r=>(few aQ hn i outs st r).2),OP.tb,OP.bl,λol yo outs st Ug rn kp Xj RX sa WG=>?_⟩
   have YC:=OP.keep (Nt.kp OP.tb kp) WG
   obtain⟨lo,lol⟩:=wW ok rn LI
   clear OP kp Ss Xj
   subst iQ
   try dsimp only[ff]
   refine bY λBq iQ=>?_
   refine⟨_,rfl,_,rfl,tl,_,rfl,.inl (br.of YC.t),λh3 Xx=>?_⟩
   have Ur:=aA.new (o:=.lst xt) Xx
   have OO:=YC.same Ur
   have Lx:=Ur _ _ RX
   have Qp:=dg.nt (Nt.of Ur) sa
   have Sq:upd Ug h3 (.lst xt) h3=some (.lst xt):=af
   generalize upd Ug h3 (.lst xt)=H12 at *
   clear YC RX sa Ur
   refine⟨p,h3,pl,xt,(eL pl aQ).tk,rfl,bu.of OO.p,bd,ok,br.of Sq,i_ OO.lt,Zd,by lia,(λi outs st r=>(few _ LI i outs st r).2),OO.tb,OO.bl,λsl ys Uv st2 H13 YS kp Xf hsl sb Rf=>?_⟩
   have UB:=Nt.kp OO.tb kp
   have Vf:=OO.keep UB Rf
   have Gz:=UB.lst Lx
   have Mi:=dg.nt UB Qp
   obtain⟨eos,_,_⟩:=(kW ok rn rfl).2.2 YS
   obtain⟨lo2,Rj⟩:=wW ok YS LI
   have Zv:ys.length=Uv.length:=Paired.length sb
   have lyo:yo.length=outs.length:=Paired.length Mi
   clear OO kp Sq Xf UB Lx Qp Rf
   subst iQ
   try dsimp only[ff]
   refine bY λBq iQ=>?_
   refine⟨_,rfl,_,_,_,true,rfl,.lst Gz,rfl,true,rfl,aO no λ_=>?_⟩
   refine⟨_,rfl,_,_,_,true,rfl,.lst hsl,rfl,true,rfl,aO no λ_=>?_⟩
   refine⟨_,rfl,sl,_,rfl,.inl (br.of hsl),_,rfl,tl,_,rfl,.inl (br.of Vf.t),rfl,_,rfl,aO (zm LI) λ_=>?_⟩
   subst iQ
   try dsimp only[tF]
   refine bY λBq iQ=>?_
   refine⟨_,rfl,_,rfl,dl,_,rfl,.inl (br.of Vf.d),λh4 hh4=>?_⟩
   have OU:=aA.new (o:=.lst xd) hh4
   have ON:=Vf.same OU
   have Lw:=OU _ _ Gz
   have Qo:=dg.nt (Nt.of OU) Mi
   have Ls:=OU _ _ hsl
   have Qk:=dg.nt (Nt.of OU) sb
   have So:upd H13 h4 (.lst xd) h4=some (.lst xd):=af
   generalize upd H13 h4 (.lst xd)=H14 at *
   clear Vf Gz Mi hsl sb OU
   refine⟨p,h4,pl,xd,aQ,rfl,bu.of ON.p,bd,ok,br.of So,i_ ON.ld,okd,by lia,few aQ hn,ON.tb,ON.bl,λr zs Zb st3 rs H15 VY kp hr pm pw lf WE _=>?_⟩
   have O_:=Nt.kp ON.tb kp
   have Um:=ON.keep O_ WE
   have Lv:=O_.lst Lw
   have Qn:=dg.nt O_ Qo
   have Lr:=O_.lst Ls
   have Qj:=dg.nt O_ Qk
   obtain⟨em3,YH⟩:=wN ok VY rfl
   have f3:st3.ws.length<=6300:=by
    have:=(VY.len ok).1
    simp only[List.length_nil]at this
    lia
   rw[em3,←tm]at lf
   have evn:=Gd pl aQ
   clear ON Lw Qo Ls Qk O_ kp So
   refine⟨_,rfl,_,rfl,_,rfl,r,p,tl,(eL pl aQ).mk,pl,zs,xt,(eL pl aQ).tk,(jB pl aQ).1,st3.ws,rs,rfl,hr,lf,pm,pw,(by rw[pm.length_eq];lia),YH,bu.of Um.p,ok,Um.t,Um.lt,by lia,te,by lia,λe me=>okd _ (Gb pl aQ e me),λVd OX=>⟨true,rfl,aO no λ_=>?_⟩⟩
   have C16:=Um.same OX
   have Gy:=OX _ _ Lv
   have Qm:=dg.nt (Nt.of OX) Qn
   have Lq:=OX _ _ Lr
   have Qi:=dg.nt (Nt.of OX) Qj
   clear Um Lv Qn Lr Qj OX lf pm pw hr YH em3 VY
   subst iQ
   try dsimp only[tF]
   refine bY λBq iQ=>?_
   refine⟨(by show 0<=sizeLine;decide),λlf Xr=>?_⟩
   have VE:=aA.new (o:=.lst []) Xr
   have Ly:upd Vd lf (.lst []) lf=some (.lst []):=af
   generalize upd Vd lf (.lst [])=H17 at *
   subst iQ
   try dsimp only[ff]
   refine bY λBq iQ=>?_
   refine⟨_,rfl,ol,rfl,⟨_,br.of (VE _ _ Gy)⟩,?_⟩
   refine eS (K:=K) (a:=ol) (xs:=yo) (λi σ H'=>∃(v11:Option V) (xl:List V),σ=[some (.ref a),some (.ref p),some (.ref dl),some (yk (eL pl aQ).mk),some (.ref tl),some (.ref du),v6,some (.ref hl),some (.ref ol),some (.ref sl),some (.ref lf),v11,none]/\aA Vd H'/\H' lf=some (.lst xl)/\dg Vd xl ((outs.take i).filter λo=>o.all jm))
    ⟨none,[],rfl,VE,Ly,.nil⟩ (λi σ H' _ ⟨_,_,_,sm,_⟩=>br.of (sm _ _ Gy)) ?_ ?_
   ·rintro i x σ H' ex ⟨v11,xl,rfl,sm,HH,sx⟩
    obtain⟨l1,z1,out,rfl,hl1,eo,la⟩:=EH Qm ex
    have htk:outs.take (i+1)=outs.take i++[out]:=by rw[List.take_add_one,eo];rfl
    have ho:=lol out (List.mem_of_getElem? eo)
    have lxl:xl.length=_:=Paired.length sx
    have lfl:=List.length_filter_le (λo:List eU=>o.all jm) (outs.take i)
    rw[List.length_take]at lfl
    refine bY λBq iQ=>?_
    refine⟨_,rfl,l1,z1,out,rfl,sm _ _ hl1,la.keep λa row e=>sm _ _ e,λH2 s2=>⟨_,rfl,aO no λ_=>?_⟩⟩
    have Dw:=sm.trans s2
    have RK:=s2 _ _ HH
    clear HH s2 sm
    subst iQ
    try dsimp only[tF]
    refine⟨_,rfl,l1,rfl,⟨_,br.of (Dw _ _ hl1)⟩,λml hml=>?_⟩
    refine dQ (K:=K) (a:=l1) (xs:=z1) (λi ys H3=>H3=upd H2 ml (.lst ys)/\aC eU.v H2 ys ((out.take i).filter λz=> !jm z)) ⟨rfl,.nil⟩ (λi ys H3 h=>by rw[h.1];exact af) (λi ys H3 _ h=>by rw[h.1];exact br.of ((aA.new hml) _ _ (Dw _ _ hl1))) ?_ ?_
    ·rintro j x ys H3 ex ⟨rfl,xD⟩
     obtain⟨z,b,ez,rfl,hb'⟩:=la.get ex
     have hb1:=Dw _ _ hb'
     have htk:out.take (j+1)=out.take j++[z]:=by rw[List.take_add_one,ez];rfl
     have hb2:=(aA.new (o:=.lst ys) hml) _ _ hb1
     have skip:jm z=true->aC eU.v H2 ys ((out.take (j+1)).filter λz=> !jm z):=λh=>by
      rw[htk,List.filter_append,List.filter_cons,h]
      exact(List.append_nil _).symm▸xD
     refine⟨cy rfl,?_⟩
     cases z with
     |told w=>exact⟨_,rfl,b,_,0,.str "told",rfl,rfl,bu.of hb2,zJ,rfl,_,rfl,aO (λz=>absurd z (uC VM)) (λ_=>⟨ys,rfl,skip rfl⟩)⟩
     |gone g=>exact⟨_,rfl,b,_,0,.str "gone",rfl,rfl,bu.of hb2,zJ,rfl,_,rfl,aO (λz=>absurd z (uC VO)) (λ_=>⟨ys,rfl,skip rfl⟩)⟩
     |missed n t am=>
      refine⟨_,rfl,b,_,0,.str "missed",rfl,rfl,bu.of hb2,zJ,rfl,_,rfl,aO (λ_=>?_) (λh=>absurd (decide_eq_true rfl) h)⟩
      refine⟨_,rfl,ys,af,?_,by rw[gu],?_⟩
      ·rw[xD.len,sizeLine_eq]
       have:=List.length_filter_le (λz:eU=> !jm z) (out.take j)
       rw[List.length_take]at this
       have:=(List.getElem?_eq_some_iff.mp ez).1
       lia
      ·rw[htk,List.filter_append]
       exact xD.snoc hb1
    rintro ys H3 ⟨rfl,l2⟩
    rw[la.len,List.take_length]at l2
    have t3:=aA.new (o:=.lst ys) hml
    have NF:upd H2 ml (.lst ys) ml=some (.lst ys):=af
    have Me:=Dw.trans t3
    have NC:=t3 _ _ RK
    have l3:=l2.keep λa row e=>t3 _ _ e
    generalize upd H2 ml (.lst ys)=H3 at *
    clear Dw RK l2 t3
    refine⟨(by show 0<=sizeLine;decide),λc hc=>?_⟩
    have t4:=aA.new (o:=.lst []) hc
    refine⟨.lst ((out.filter λz=> !jm z).map uO),.lst [],Ij (t4 _ _ NF) (l3.keep λa row e=>t4 _ _ e),.lst (br.of af) .nil,.inr ⟨_,_,rfl,rfl⟩,Cf _,EI _,λbq NL=>⟨_,rfl,aO (λh=>?_) (λh=>?_)⟩⟩
    ·have e0:out.all jm=true:=by
      have:=NL.mp h
      injection this with this
      have:=List.map_eq_nil_iff.mp this
      rw[List.all_eq_true]
      intro z hz
      have:=(List.filter_eq_nil_iff.mp this) z hz
      cases hq:jm z with
      |true=>rfl
      |false=>rw[hq]at this;exact absurd rfl this
     refine⟨_,rfl,.inl ⟨rfl,_,br.of (t4 _ _ NC)⟩,_,rfl,lf,_,.ref l1,rfl,rfl,t4 _ _ NC,?_,_,xl++[.ref l1],rfl,λc u e=>?_,af,?_⟩
     ·rw[sizeLine_eq];lia
     ·rw[ai (av e Xr)]
      exact t4 _ _ (Me _ _ e)
     ·rw[htk,List.filter_append,List.filter_cons,if_pos e0,List.filter_nil]
      exact Paired.snoc sx ⟨l1,z1,rfl,hl1,la⟩
    ·have e0:¬out.all jm=true:=λz=>h (NL.mpr (by
      rw[show(out.filter λz=> !jm z)=[]from List.filter_eq_nil_iff.mpr λy hy=>by rw[(List.all_eq_true.mp z) y hy];exact Bool.false_ne_true]
      rfl))
     refine⟨_,xl,rfl,Me.trans t4,t4 _ _ NC,?_⟩
     rw[htk,List.filter_append,List.filter_cons,if_neg e0,List.filter_nil,List.append_nil]
     exact sx
   ·rintro σ H18 ⟨v11,xl,rfl,Qt,HH,sx⟩
    rw[show yo.length=outs.length from lyo,List.take_length,←eos]at sx
    have YB:=C16.same Qt
    have Lp:=Qt _ _ Lq
    have Qh:=dg.nt (Nt.of Qt) Qi
    have Qc:=dg.nt (Nt.of Qt) sx
    have lxl:xl.length=Uv.length:=Paired.length sx
    clear C16 Gy Qm Lq Qi Qt Ly VE Xr sx
    subst iQ
    try dsimp only[ff]
    refine bY λBq iQ=>?_
    refine⟨_,rfl,_,rfl,dl,_,rfl,.inl (br.of YB.d),λh5 hh5=>?_⟩
    have OT:=aA.new (o:=.lst xd) hh5
    have OM:=YB.same OT
    have Lm:=OT _ _ HH
    have Qa:=dg.nt (Nt.of OT) Qc
    have Ln:=OT _ _ Lp
    have Qg:=dg.nt (Nt.of OT) Qh
    have Sn:upd H18 h5 (.lst xd) h5=some (.lst xd):=af
    generalize upd H18 h5 (.lst xd)=H19 at *
    clear YB HH Qc Lp Qh OT
    refine⟨p,h5,pl,xd,aQ,rfl,bu.of OM.p,bd,ok,br.of Sn,i_ OM.ld,okd,by lia,few aQ hn,OM.tb,OM.bl,λkr zk Za Du rs5 H20 YR kp hkr YY pw5 lk WD _=>?_⟩
    have OZ:=Nt.kp OM.tb kp
    have C20:=OM.keep OZ WD
    have RJ:=OZ.lst Lm
    have VF:=dg.nt OZ Qa
    have RT:=OZ.lst Ln
    have VL:=dg.nt OZ Qg
    have f5:Du.ws.length<=6300:=by
     have:=(YR.len ok).1
     simp only[List.length_nil]at this
     lia
    clear OM Lm Qa Ln Qg OZ kp Sn
    subst iQ
    try dsimp only[ff]
    have dp:(Dv.lst (Uv.map AG)).dep<=3:=Nat.succ_le_succ (m_ λd hd=>by obtain⟨z,_,rfl⟩:=List.mem_map.mp hd;exact BV z)
    refine⟨_,rfl,_,rfl,_,_,.lst (Uv.map AG),rfl,.lst RJ LI (AF VF Rj),.lst RT LI (AF VL Rj),dp,λH21 VU=>⟨true,rfl,aO (λ_=>?_) (λh=>absurd rfl h)⟩⟩
    have C21:=C20.same VU
    refine⟨_,rfl,_,rfl,_,rfl,tl,_,rfl,.inl (br.of C21.t),λh6 hh6=>?_⟩
    have VD:=aA.new (o:=.lst xt) hh6
    have Ul:=C21.same VD
    have Xy:upd H21 h6 (.lst xt) h6=some (.lst xt):=af
    have Sd:=VD _ _ (VU _ _ hkr)
    have Rm:=lk.keep λa row e=>VD _ _ (VU _ _ e)
    generalize upd H21 h6 (.lst xt)=H22 at *
    refine⟨p,h6,pl,xt,(eL pl aQ).tk,rfl,bu.of Ul.p,bd,ok,br.of Xy,i_ Ul.lt,Zd,by lia,few _ LI,Ul.tb,Ul.bl,λkr2 zk2 Y_ st6 YQ H23 rn6 kp Xv pm6 pw6 WL abG _=>?_⟩
    have Zt:=Nt.kp Ul.tb kp
    obtain⟨_,e1,e2⟩:=(kW ok YR rfl).2.2 rn6
    have X_:YQ=rs5:=ic Wn.d Qe (λa _=>uK a) (λa _ b _ h=>Wn.Bt h) (pm6.trans (by rw[e2];exact YY.symm)) (List.pairwise_map.mp pw6) (List.pairwise_map.mp pw5)
    subst X_
    rw[e1]at WL
    have lz1:=Rm.len
    have lz2:=WL.len
    have lz3:=List.length_filter_le (λw:Wn=>kept Du.mk (cB pl) w.e) YQ
    have lz4:=YY.length_eq
    exact⟨_,_,_,rfl,xA (g:=tR Du.mk) (λ_ _ h=>AJ h) (Zt.lst Sd) LI (Rm.keep Zt.tup),xA (g:=tR Du.mk) (λ_ _ h=>AJ h) Xv LI WL,Nat.le_succ_of_le (Nat.succ_le_succ (m_ λd hd=>by obtain⟨w,_,rfl⟩:=List.mem_map.mp hd;exact(EW Du.mk w).1)),λH' _=>k _⟩
end
end K3
namespace K1
open PySem PySem.Spec PyProof.Rows L2
section
variable {P:Program} {w:World} {K:Fg7} {mg:Str->Option Value}
theorem Ju(D:aJ K "spans_at" fG)(M:MG K mg)(B:Bi K)(je:dZ K "PAUSES" (.str "pauses"))(jf:ef P w K mg "kind_of" ["plan"] 1 (uG K))(gF:ef P w K mg "length_of" ["plan"] 1 (As K))
  (pq:ef P w K mg "step_of" ["plan"] 2 (Eg K)):ef P w K mg "spans_at" ["plan","time"] 3 (Aj K):=by
 refine D.fn M iH xX (λvs H Q E h=>?_) (λf base cdv A outer s H vs Q E hr h=>?_)
 ·obtain⟨p,pl,t,rfl,_⟩:=h
  rfl
 ·obtain⟨p,pl,t,rfl,hp,ok,⟨t1,t2⟩,k⟩:=h
  refine⟨_,(aq (cW (i:=2) iH.nd rfl (Or.inr rfl) (aW gF (hr.mono (by decide)) rfl (pc (pv 0) aj)))
   (aq (bw (aK dF (aW jf (hr.mono (by decide)) rfl (pc (pv 0) aj)) (jI je M rfl) (aM _)) (au (aL (cL (pc (cK (pc (pv 1) (pc (aD jA (pv 1) (pv 2)) aj))) aj)))) aR)
   (aq (cW (i:=3) iH.nd rfl (Or.inl rfl) (aW pq (hr.mono (by decide)) rfl (pc (pv 0) aj)))
   (aq (cW (i:=4) iH.nd rfl (Or.inl rfl) (aD FL (aD jA (aD AY (aD qS (pv 1) (pv 2)) (pv 3)) ah) (pv 3)))
   (au (aL (eF (NY:=["start","length"]) (js:=[none,some 2]) rfl rfl (by with_unfolding_all rfl) (by repeat first|exact cD.nil|refine cD.cons rfl ?_) (.own (.out rfl rfl (.inl rfl) .nil)) (yT rfl (M.no _ B.nq) (pc (pv 4) (pc (aD jA (pv 1) ah) (pc (pv 3) aj)))) (λ_ _ _ _ _=>⟨(aV (i:=0) (show(["start","length"]:List Str).Nodup from by decide +kernel) rfl (Or.inl rfl)),gP,(cK (pc (pv 0) (pc (aD jA (pv 0) (pv 1)) aj)))⟩)))))))),?_⟩
  refine⟨_,rfl,p,pl,rfl,hp,?_⟩
  refine⟨_,rfl,p,pl,rfl,hp,rfl,_,rfl,?_⟩
  refine aO (λh=>?_) (λh=>?_)
  ·-- pauses:[(time,time+length)]
   have e:=GR h
   cases pl with
   |fixed l g=>exact absurd e QY
   |sliding l s g=>exact absurd e QW
   |pauses l g=>
    refine⟨_,rfl,_,rfl,_,rfl,_,_,rfl,rfl,(by show 2<=sizeLine;decide),λa ha=>⟨(by show 1<=sizeLine;decide),λb hb=>?_⟩⟩
    have nb:a≠b:=av af hb
    have hb0:H b=none:=by
     rw[ai nb.symm]at hb
     exact hb
    refine k b [.ref a] _ ((aA.new ha).trans (aA.new hb)) hb0 af (.cons ⟨a,rfl,?_⟩ .nil)
    rw[ai nb,af]
    rfl
  ·have np:∀l g,pl≠.pauses l g:=λl g e=>by
    subst e
    exact h (decide_eq_true rfl)
   have ew:HP pl t=(List.range (cnt pl t)).map (win pl t):=by
    cases pl with
    |fixed l g=>rfl
    |sliding l s g=>rfl
    |pauses l g=>exact absurd rfl (np l g)
   have l1:=ok.l1
   have l2:=ok.l2
   have s1:=ok.s1
   have s2:=ok.s2
   have dq:=zA (a:=t-pl.len) (b:=10^46) s1 LI LI
   refine⟨_,rfl,p,pl,rfl,hp,?_⟩
   refine⟨_,rfl,_,rfl,_,_,rfl,rfl,_,rfl,_,_,rfl,rfl,⟨by lia,⟨by lia,by lia⟩⟩,_,_,rfl,rfl,_,rfl,_,_,rfl,rfl,⟨⟨by lia,by lia⟩,⟨by lia,by lia⟩⟩,?_⟩
   refine⟨_,rfl,_,rfl,_,_,rfl,rfl,_,rfl,_,_,_,rfl,⟨by lia,⟨by lia,by lia⟩⟩,?_⟩
   intro D hD
   have hc:=Hf (t:=t) ok
   refine GZ (λi ys Hc=>aA H Hc/\Hc D=some (.lst ys)/\rQ Hc ys ((List.range i).map (win pl t))) ⟨aA.new hD,af,.nil⟩ (λi ys Hc h=>h.2.1) ?_ ?_
   ·rintro i ys Hc hi ⟨s1',SR,hT⟩
    refine⟨cy rfl,?_⟩
    refine⟨_,rfl,_,rfl,_,rfl,_,_,rfl,rfl,(by show 2<=sizeLine;decide),λa ha=>?_⟩
    have nD:D≠a:=av SR ha
    have hl:=hT.len
    rw[List.length_map,List.length_range]at hl
    refine⟨ys,(by rw[ai nD];exact SR),BP (by have:i<cnt pl t:=hi;lia),?_⟩
    refine⟨λb o e=>?_,af,?_⟩
    ·have e1:=s1' b o e
     rw[ai (av e hD),ai (av e1 ha)]
     exact e1
    ·rw[List.range_succ,List.map_append]
     refine rQ.snoc (hT.keep λb row e=>?_) ?_
     ·rw[ai (aT e SR (by intro z;cases z)),ai (av e ha)]
      exact e
     ·rw[ai nD.symm,af]
      rfl
   ·rintro ys Hc ⟨s1',SR,hT⟩
    exact k D ys Hc s1' hD SR (by rw[ew];exact hT)
end
end K1
open PySem PySem.W PyProof.Rows
noncomputable def PySem.W.Fast.tw1173571406004633983 : Unit := ()
noncomputable def PySem.W.Fast.tw14104231601898306713 : Unit := ()
noncomputable def PySem.W.Fast.tw1591029678046615761 : Unit := ()
noncomputable def PySem.W.Fast.tw3799365580421113686 : Unit := ()
noncomputable def PySem.W.Fast.tw10780768766514440212 : Unit := ()
noncomputable def PySem.W.Fast.tw7652472593977293112 : Unit := ()
noncomputable def PySem.W.Fast.tw12172853267587441077 : Unit := ()
noncomputable def PySem.W.Fast.tw14208446885029971940 : Unit := ()
noncomputable def PySem.W.Fast.tw16020086320805514122 : Unit := ()
set_option maxRecDepth 100000 in
set_option maxHeartbeats 0 in
theorem PySem.Challenge.cw_weirgauge_k09_too_late_holds : PySem.Challenge.rw_weirgauge_k09_too_late.Holds := by
 w_on;o_law;k_head;(case hw=>w_witness2)
 k_fill
 refine L2.Pz (l:=PySem.Challenge.rw_weirgauge_k09_too_late) (x:="_law_script") 8 _ ⟨rfl,by decide,by decide⟩ rfl rfl (λw h Y=>⟨PySem.W.km_in_of Y,PySem.W.km_tabs_of Y _ (List.mem_cons_self ..)⟩) (K3.Kq _) (λK mg H a ns hl hS hP hB=>⟨a,ns,rfl,hS,hl,.inl hP,hB,λ_=>rfl⟩) ?F
 case F=>
  intro w mg M
  have Dj:L2.aJ (L2.aZ M) "kind_of" K1.fY:=by
   dsimp only[L2.aZ]
   refine' L2.aJ.mk' ?a ?l ?c ?k
   (case a=>k_is);(case l=>k_is);(case c=>k_is);(case k=>k_is)
  have yf:L2.aJ (L2.aZ M) "length_of" K1.eV:=by
   dsimp only[L2.aZ]
   refine' L2.aJ.mk' ?a ?l ?c ?k
   (case a=>k_is);(case l=>k_is);(case c=>k_is);(case k=>k_is)
  have Di:L2.aJ (L2.aZ M) "step_of" K1.fX:=by
   dsimp only[L2.aZ]
   refine' L2.aJ.mk' ?a ?l ?c ?k
   (case a=>k_is);(case l=>k_is);(case c=>k_is);(case k=>k_is)
  have zU:L2.aJ (L2.aZ M) "grace_of" K1.fH:=by
   dsimp only[L2.aZ]
   refine' L2.aJ.mk' ?a ?l ?c ?k
   (case a=>k_is);(case l=>k_is);(case c=>k_is);(case k=>k_is)
  have vH:L2.aJ (L2.aZ M) "check_plan" K1.dW:=by
   dsimp only[L2.aZ]
   refine' L2.aJ.mk' ?a ?l ?c ?k
   (case a=>k_is);(case l=>k_is);(case c=>k_is);(case k=>k_is)
  have zT:L2.aJ (L2.aZ M) "spans_at" K1.fG:=by
   dsimp only[L2.aZ]
   refine' L2.aJ.mk' ?a ?l ?c ?k
   (case a=>k_is);(case l=>k_is);(case c=>k_is);(case k=>k_is)
  have HD:L2.aJ (L2.aZ M) "joined" K1.gW:=by
   dsimp only[L2.aZ]
   refine' L2.aJ.mk' ?a ?l ?c ?k
   (case a=>k_is);(case l=>k_is);(case c=>k_is);(case k=>k_is)
  have Dk:L2.aJ (L2.aZ M) "answers" K1.fZ:=by
   dsimp only[L2.aZ]
   refine' L2.aJ.mk' ?a ?l ?c ?k
   (case a=>k_is);(case l=>k_is);(case c=>k_is);(case k=>k_is)
  have zS:L2.aJ (L2.aZ M) "standing" K1.fE:=by
   dsimp only[L2.aZ]
   refine' L2.aJ.mk' ?a ?l ?c ?k
   (case a=>k_is);(case l=>k_is);(case c=>k_is);(case k=>k_is)
  have vG:L2.aJ (L2.aZ M) "kept_after" K1.dU:=by
   dsimp only[L2.aZ]
   refine' L2.aJ.mk' ?a ?l ?c ?k
   (case a=>k_is);(case l=>k_is);(case c=>k_is);(case k=>k_is)
  have HC:L2.aJ (L2.aZ M) "missed" K1.gU:=by
   dsimp only[L2.aZ]
   refine' L2.aJ.mk' ?a ?l ?c ?k
   (case a=>k_is);(case l=>k_is);(case c=>k_is);(case k=>k_is)
  have sQ:L2.aJ (L2.aZ M) "desk_behind" K1.dH:=by
   dsimp only[L2.aZ]
   refine' L2.aJ.mk' ?a ?l ?c ?k
   (case a=>k_is);(case l=>k_is);(case c=>k_is);(case k=>k_is)
  have Dl:L2.aJ (L2.aZ M) "_law_so" K1.fq:=by
   dsimp only[L2.aZ]
   refine' L2.aJ.mk' ?a ?l ?c ?k
   (case a=>k_is);(case l=>k_is);(case c=>k_is);(case k=>k_is)
  have vI:L2.aJ (L2.aZ M) "_law_whole" K1.dX:=by
   dsimp only[L2.aZ]
   refine' L2.aJ.mk' ?a ?l ?c ?k
   (case a=>k_is);(case l=>k_is);(case c=>k_is);(case k=>k_is)
  have Dm:L2.aJ (L2.aZ M) "_law_at" K1.f_:=by
   dsimp only[L2.aZ]
   refine' L2.aJ.mk' ?a ?l ?c ?k
   (case a=>k_is);(case l=>k_is);(case c=>k_is);(case k=>k_is)
  have rZ:L2.aJ (L2.aZ M) "_law_plan_of" K1.dh:=by
   dsimp only[L2.aZ]
   refine' L2.aJ.mk' ?a ?l ?c ?k
   (case a=>k_is);(case l=>k_is);(case c=>k_is);(case k=>k_is)
  have yh:L2.aJ (L2.aZ M) "_law_long" K1.eW:=by
   dsimp only[L2.aZ]
   refine' L2.aJ.mk' ?a ?l ?c ?k
   (case a=>k_is);(case l=>k_is);(case c=>k_is);(case k=>k_is)
  have qu:L2.aJ (L2.aZ M) "_law_event_of" K1.cP:=by
   dsimp only[L2.aZ]
   refine' L2.aJ.mk' ?a ?l ?c ?k
   (case a=>k_is);(case l=>k_is);(case c=>k_is);(case k=>k_is)
  have vJ:L2.aJ (L2.aZ M) "_law_drawn" K1.dY:=by
   dsimp only[L2.aZ]
   refine' L2.aJ.mk' ?a ?l ?c ?k
   (case a=>k_is);(case l=>k_is);(case c=>k_is);(case k=>k_is)
  have se:L2.aJ (L2.aZ M) "_law_base_of" K1.dj:=by
   dsimp only[L2.aZ]
   refine' L2.aJ.mk' ?a ?l ?c ?k
   (case a=>k_is);(case l=>k_is);(case c=>k_is);(case k=>k_is)
  have r_:L2.aJ (L2.aZ M) "_law_is_said" K1.di:=by
   dsimp only[L2.aZ]
   refine' L2.aJ.mk' ?a ?l ?c ?k
   (case a=>k_is);(case l=>k_is);(case c=>k_is);(case k=>k_is)
  have qv:L2.aJ (L2.aZ M) "_law_are_said" K1.cQ:=by
   dsimp only[L2.aZ]
   refine' L2.aJ.mk' ?a ?l ?c ?k
   (case a=>k_is);(case l=>k_is);(case c=>k_is);(case k=>k_is)
  have sR:L2.aJ (L2.aZ M) "_law_pauses" K1.cV:=by
   dsimp only[L2.aZ]
   refine' L2.aJ.mk' ?a ?l ?c ?k
   (case a=>k_is);(case l=>k_is);(case c=>k_is);(case k=>k_is)
  have qt:L2.aJ (L2.aZ M) "_law_spans_of" K1.cO:=by
   dsimp only[L2.aZ]
   refine' L2.aJ.mk' ?a ?l ?c ?k
   (case a=>k_is);(case l=>k_is);(case c=>k_is);(case k=>k_is)
  have qq:L2.aJ (L2.aZ M) "_law_table_of" K1.bZ:=by
   dsimp only[L2.aZ]
   refine' L2.aJ.mk' ?a ?l ?c ?k
   (case a=>k_is);(case l=>k_is);(case c=>k_is);(case k=>k_is)
  have nH:L2.aJ (L2.aZ M) "_law_are_missed" K1.bK:=by
   dsimp only[L2.aZ]
   refine' L2.aJ.mk' ?a ?l ?c ?k
   (case a=>k_is);(case l=>k_is);(case c=>k_is);(case k=>k_is)
  have pF:L2.aJ (L2.aZ M) "_law_stands_so" K1.cE:=by
   dsimp only[L2.aZ]
   refine' L2.aJ.mk' ?a ?l ?c ?k
   (case a=>k_is);(case l=>k_is);(case c=>k_is);(case k=>k_is)
  have Uk:L2.aJ (L2.aZ M) "law" K1.kQ:=by
   dsimp only[L2.aZ]
   refine' L2.aJ.mk' ?a ?l ?c ?k
   (case a=>k_is);(case l=>k_is);(case c=>k_is);(case k=>k_is)
  have zN:L2.dZ (L2.aZ M) "MARK" (.str "mark"):=by
   dsimp only[L2.aZ]
   refine' L2.dZ.ofStr ?a
   (case a=>k_is)
  have jw:L2.dZ (L2.aZ M) "MOST_STEPS" (.int 100):=by
   dsimp only[L2.aZ]
   refine' L2.dZ.ofInt ?a
   (case a=>k_is)
  have je:L2.dZ (L2.aZ M) "PAUSES" (.str "pauses"):=by
   dsimp only[L2.aZ]
   refine' L2.dZ.ofStr ?a
   (case a=>k_is)
  have pe:L2.dZ (L2.aZ M) "SLIDING" (.str "sliding"):=by
   dsimp only[L2.aZ]
   refine' L2.dZ.ofStr ?a
   (case a=>k_is)
  obtain⟨eE,JV,yc,yd,rS,sO,qw,yi,pG,sf,lZ,Dp,jg,nI,lY,kM,pH⟩:∃eE:PySem.Addr,L2.vL (L2.aZ M) "Desk" eE/\L2.fD (L2.aZ M) eE "plan"/\L2.fD (L2.aZ M) eE "mark"/\L2.fD (L2.aZ M) eE "windows"/\L2.fD (L2.aZ M) eE "missed"/\L2.bA (L2.aZ M) eE "__init__" "Desk.__init__" K1.cR/\L2.bA (L2.aZ M) eE "rows" "Desk.rows" K1.dN/\L2.bA (L2.aZ M) eE "is_closed" "Desk.is_closed" K1.cF/\L2.bA (L2.aZ M) eE "is_kept" "Desk.is_kept" K1.dm/\L2.bA (L2.aZ M) eE "is_too_late" "Desk.is_too_late" K1.bQ/\L2.bA (L2.aZ M) eE "do" "Desk.do" K1.gf/\L2.gS (L2.aZ M) eE "take_mark" "Desk.take_mark" K1.bg 128/\L2.bA (L2.aZ M) eE "take_event" "Desk.take_event" K1.bL/\L2.bA (L2.aZ M) eE "keys_met_by" "Desk.keys_met_by" K1.bC/\L2.bA (L2.aZ M) eE "move_tallies" "Desk.move_tallies" K1.bM/\L2.bA (L2.aZ M) eE "add_tally" "Desk.add_tally" K1.cG:=by
   dsimp only[L2.aZ,L2.fD]
   refine'⟨_,⟨?TZ,⟨?MA,?NK,?Mv,?Mh⟩,?MP,?M_⟩,?Cj,?Ck,?uY,?w_,L2.bA.mk' ?qd ?qb ?p_ ?qc ?qa,L2.bA.mk' ?xx ?xr ?xh ?xw ?xj,L2.bA.mk' ?oE ?om ?nY ?oz ?oh,L2.bA.mk' ?qY ?qW ?qU ?qX ?qV,L2.bA.mk' ?lK ?lG ?lA ?lI ?lD,L2.bA.mk' ?Cs ?Co ?Cm ?Cr ?Cn,L2.gS.mk' ?oB ?oj ?nX ?ou ?n_ ?nU,L2.bA.mk' ?mV ?mR ?mP ?mU ?mQ,L2.bA.mk' ?lJ ?lE ?k_ ?lH ?lB,L2.bA.mk' ?kG ?kE ?kC ?kF ?kD,L2.bA.mk' ?oF ?oq ?nZ ?oA ?oi⟩
   (case TZ=>k_is)
   (case MA=>k_is)
   (case NK=>k_is)
   (case Mv=>k_is)
   (case Mh=>k_is)
   (case MP=>k_is)
   (case M_=>k_is)
   (case Cj=>k_is)
   (case Ck=>k_is)
   (case uY=>k_is)
   (case w_=>k_is)
   (case qd=>k_is)
   (case qb=>k_is)
   (case p_=>k_is)
   (case qc=>k_is)
   (case qa=>k_is)
   (case xx=>k_is)
   (case xr=>k_is)
   (case xh=>k_is)
   (case xw=>k_is)
   (case xj=>k_is)
   (case oE=>k_is)
   (case om=>k_is)
   (case nY=>k_is)
   (case oz=>k_is)
   (case oh=>k_is)
   (case qY=>k_is)
   (case qW=>k_is)
   (case qU=>k_is)
   (case qX=>k_is)
   (case qV=>k_is)
   (case lK=>k_is)
   (case lG=>k_is)
   (case lA=>k_is)
   (case lI=>k_is)
   (case lD=>k_is)
   (case Cs=>k_is)
   (case Co=>k_is)
   (case Cm=>k_is)
   (case Cr=>k_is)
   (case Cn=>k_is)
   (case oB=>k_is)
   (case oj=>k_is)
   (case nX=>k_is)
   (case ou=>k_is)
   (case n_=>k_is)
   (case nU=>kernel_rfl)
   (case mV=>k_is)
   (case mR=>k_is)
   (case mP=>k_is)
   (case mU=>k_is)
   (case mQ=>k_is)
   (case lJ=>k_is)
   (case lE=>k_is)
   (case k_=>k_is)
   (case lH=>k_is)
   (case lB=>k_is)
   (case kG=>k_is)
   (case kE=>k_is)
   (case kC=>k_is)
   (case kF=>k_is)
   (case kD=>k_is)
   (case oF=>k_is)
   (case oq=>k_is)
   (case nZ=>k_is)
   (case oA=>k_is)
   (case oi=>k_is)
  have B:K1.Bi (L2.aZ M):=by
   dsimp only[L2.aZ]
   refine'⟨?b0,?b1,?b2,?b3,?b4,?b5,?b6,?b7,?b8,?b9,?b10,?b11,?b12,?b13⟩
   (case b0=>k_is);(case b1=>k_is);(case b2=>k_is);(case b3=>k_is);(case b4=>k_is);(case b5=>k_is);(case b6=>k_is);(case b7=>k_is);(case b8=>k_is);(case b9=>k_is);(case b10=>k_is);(case b11=>k_is);(case b12=>k_is);(case b13=>k_is)
  have KT:(L2.aZ M).lookup 128=none:=by dsimp only[L2.aZ];first|k_is|kernel_rfl
  have T:K2.eB (L2.aZ M) eE:=⟨JV,yc,yd,rS,sO⟩
  have Fk:=K1.N_ (P:=PySem.Challenge.rw_weirgauge_k09_too_late.prog) (w:=w) Dj M
  have Fl:=K1.Tg (P:=PySem.Challenge.rw_weirgauge_k09_too_late.prog) (w:=w) yf M
  have Fs:=K1.Tc Di M pe Fk Fl
  have Fg:=K2.Jw (P:=PySem.Challenge.rw_weirgauge_k09_too_late.prog) (w:=w) zU M
  have Fc:=K2.Ti vH M jw Fl Fs Fg
  have Fi:=K2.Oc qw T Fc
  have Fsp:=K1.Ju zT M B je Fk Fl Fs
  have Ve:=K2.GL (P:=PySem.Challenge.rw_weirgauge_k09_too_late.prog) (w:=w) (mg:=mg) pG T
  have Flt:=K2.NZ lZ M T Fg
  have Fme:=K2.Tf (P:=PySem.Challenge.rw_weirgauge_k09_too_late.prog) (w:=w) lY M B T
  have Fj:=K2.Ob (P:=PySem.Challenge.rw_weirgauge_k09_too_late.prog) (w:=w) HD M B
  have Fad:=K2.Tr (P:=PySem.Challenge.rw_weirgauge_k09_too_late.prog) (w:=w) (mg:=mg) pH T
  have Fmv:=K2.NU kM T Fad
  have Fev:=K2.Jx nI M T je Fk Fsp Flt Ve Fme Fj Fmv Fad
  have Fmk:=K2.NW jg M B T Ve
  have Fdo:=K2.XZ Dp M T zN Fmk Fev
  have Yz:=K2.GN sQ M T Fi Fdo
  have Fro:=K2.NT (P:=PySem.Challenge.rw_weirgauge_k09_too_late.prog) (w:=w) yi M B T
  have Fke:=K2.Oa sf M T Fg
  have Fst:=K2.Jt zS M T Yz Fro Ve
  have Fka:=K2.xQ vG M T Yz Fro Ve Fke
  have Fms:=K2.GK HC M T Yz
  have Fan:=K2.Tq Dk M T Fi Fdo
  have Fso:=K3.Td (P:=PySem.Challenge.rw_weirgauge_k09_too_late.prog) (w:=w) Dl M B
  have Fw:=K3.Jr (P:=PySem.Challenge.rw_weirgauge_k09_too_late.prog) (w:=w) vI M B
  have Fbs:=K3.Oe (P:=PySem.Challenge.rw_weirgauge_k09_too_late.prog) (w:=w) se M
  have Ftb:=K3.Js qq M B (K3.CO qt M B (K3.GJ (P:=PySem.Challenge.rw_weirgauge_k09_too_late.prog) (w:=w) sR M B))
  exact⟨KT,jg.code,K3.Th Uk M B (K1.Tj Dm M B) (K3.Jv rZ M) (K3.Jy vJ M B (K3.Od qu M (K3.NX yh M))) Fbs Fms (K3.NV nH M B Fw) Fan (K3.Tp qv M B (K3.NS r_ M B Fw)) Fka Fst (K3.NR pF M B Ftb Fso) Fso⟩
