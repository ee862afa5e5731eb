import PyProof.Rows.All
import Wide.All
import OpenK.AllK
import Wide.FinOn
import Lean
import PyProof.EqAt
import PyProof.EqKinds
import PyProof.TupleCall
import PyProof.NeKinds
import PyProof.Rows.SortRuns
import PyProof.Rows.SortWalk
import KE.KSortTup
import KE.RegKTryMore
import KE.RegKIsAll
import KE.KPairComp
import PyProof.ExcAttrAll.ValueError
import PyProof.Rows.SumAny
import KE.KSortKey
import KE.KLam
import KE.KNestM
import KE.KListMore
import KE.KIntText
import PyProof.StrOps2
import PySem.Challenge.RW_weirgauge_k07_whole_however_they_come
set_option Elab.async false
set_option linter.all false
set_option maxRecDepth 100000
set_option maxHeartbeats 4000000
abbrev Fg7:=PySem.W.Frag
macro:max "DK":term=>`(by decide +kernel)
macro:max "LI":term=>`(by lia)
namespace L2
open PySem PySem.Spec PyProof.Rows
abbrev Key:=Sum Int Str
def qE:Key->Value->Bool
 |.inl k,v=>Value.isInt k v
 |.inr x,v=>Value.isStrOf x v
def Vy(w:World):Key->Int
 |.inl k=>hashInt k
 |.inr x=>hashStr w x
theorem cJ:∀{k:Key}{v:Value},qE k v=true->(∃i t,k=Sum.inl i/\v=Value.int i t)\/(∃x t,k=Sum.inr x/\v=Value.str x t)
 |.inl i,v,h=>by
  obtain⟨t,e⟩:=Value.isInt_shape (k:=i) (v:=v) h
  exact .inl ⟨i,t,rfl,e⟩
 |.inr x,v,h=>by
  obtain⟨t,e⟩:=Value.isStrOf_shape (x:=x) (v:=v) h
  exact .inr ⟨x,t,rfl,e⟩
theorem BI(i:Int)(t:Tok):qE (.inl i) (.int i t)=true:=by simp[qE,Value.isInt]
theorem BH(x:Str)(t:Tok):qE (.inr x) (.str x t)=true:=by simp[qE,Value.isStrOf]
theorem MK(a b:Int):decide ((Sum.inl a:Key)=Sum.inl b)=(a==b):=by
 by_cases e:a=b
 ·subst e;simp
 ·have h:¬(Sum.inl a:Key)=Sum.inl b:=λq=>e (Sum.inl.inj q)
  rw[decide_eq_false h]
  exact(beq_eq_false_iff_ne.mpr e).symm
theorem MH(a b:Str):decide ((Sum.inr a:Key)=Sum.inr b)=decide (a=b):=by
 by_cases e:a=b
 ·subst e;simp
 ·have h:¬(Sum.inr a:Key)=Sum.inr b:=λq=>e (Sum.inr.inj q)
  rw[decide_eq_false h,decide_eq_false e]
theorem MJ(a:Int)(b:Str):decide ((Sum.inl a:Key)=Sum.inr b)=false:=decide_eq_false (λq=>nomatch q)
theorem MI(a:Str)(b:Int):decide ((Sum.inr a:Key)=Sum.inl b)=false:=decide_eq_false (λq=>nomatch q)
def bF(prog:Program)(w:World):PySem.KeyKind prog w Key where
 is:=qE
 hash:=Vy w
 inj:=λv a b ha hb=>by
  rcases cJ ha with⟨i,t,rfl,rfl⟩|⟨x,t,rfl,rfl⟩
  ·rcases cJ hb with⟨j,u,rfl,e⟩|⟨y,u,rfl,e⟩
   ·injection e with e1 _;rw[e1]
   ·exact nomatch e
  ·rcases cJ hb with⟨j,u,rfl,e⟩|⟨y,u,rfl,e⟩
   ·exact nomatch e
   ·injection e with e1 _;rw[e1]
 byValue:=λk v h=>by
  rcases cJ h with⟨i,t,rfl,rfl⟩|⟨x,t,rfl,rfl⟩<;>rfl
 pyHash:=λhv h=>by
  rcases cJ hv with⟨i,t,rfl,rfl⟩|⟨x,t,rfl,rfl⟩
  ·exact wpAny_pyHash_int h
  ·exact wpAny_pyHash_str h
 eqBool:=λhu hv h=>by
  rcases cJ hu with⟨i,t,rfl,rfl⟩|⟨x,t,rfl,rfl⟩
  ·rcases cJ hv with⟨j,u,rfl,rfl⟩|⟨y,u,rfl,rfl⟩
   ·rw[MK]at h;exact wpAny_eqBool_int h
   ·rw[MJ]at h;exact SeqAt.EqAt.int_str i t y u _ _ _ _ h
  ·rcases cJ hv with⟨j,u,rfl,rfl⟩|⟨y,u,rfl,rfl⟩
   ·rw[MI]at h;exact SeqAt.EqAt.str_int x t j u _ _ _ _ h
   ·rw[MH]at h;exact wpAny_eqBool_str h
 «strs» :=λk x t v h=>by
  rcases cJ h with⟨i,u,rfl,e⟩|⟨y,u,rfl,e⟩
  ·exact nomatch e
  ·injection e with e1 _
   subst e1
   cases v<;>rfl
theorem yk(prog:Program)(w:World)(k:Key)(v:Value):(bF prog w).is k v=qE k v:=rfl
theorem vZ(prog:Program)(w:World)(i:Int)(t:Tok):(bF prog w).is (.inl i) (.int i t)=true:=BI i t
theorem vY(prog:Program)(w:World)(x:Str)(t:Tok):(bF prog w).is (.inr x) (.str x t)=true:=BH x t
inductive V where
 |dR|bl(b:Bool)|int(i:Int)|str(x:Str)|Cz(b:Array UInt8)|Nm(b:UInt64)|ref(a:Addr)|ty(n:String)
 deriving DecidableEq
def RelV:V->Value->Prop
 |.dR,u=>u=Value.none
 |.bl b,u=>u=Value.bool b
 |.int i,u=>∃t,u=Value.int i t
 |.str x,u=>∃t,u=Value.str x t
 |.Cz b,u=>∃t,u=Value.bytes b t
 |.Nm b,u=>∃t,u=Value.float b t
 |.ref a,u=>u=Value.ref a
 |.ty n,u=>u=Value.type n
abbrev Vals:List V->List Value->Prop:=Paired RelV
theorem Vals.length{xs:List V}{us:List Value}(r:Vals xs us):xs.length=us.length:=Paired.length r
theorem Vals.get:∀{xs:List V}{us:List Value}{i:Nat}{x:V},Vals xs us->xs[i]? = some x->∃u,us[i]? = some u/\RelV x u
 |_,_,_,_,.nil,e=>by simp at e
 |_,_,0,_,.cons r _,e=>by simp at e;subst e;exact⟨_,rfl,r⟩
 |_,_,i+1,x,.cons _ t,e=>by
  obtain⟨u,h1,h2⟩:=Vals.get (i:=i) (x:=x) t (by simpa using e)
  exact⟨u,by simpa using h1,h2⟩
theorem Vals.set{x:V}{u:Value}(r:RelV x u):∀{xs:List V}{us:List Value}(i:Nat),Vals xs us->Vals (xs.set i x) (us.set i u)
 |_,_,_,.nil=>.nil
 |_,_,0,.cons _ t=>.cons r t
 |_,_,i+1,.cons q t=>.cons q (Vals.set r i t)
theorem Vals.append:∀{xs ys:List V}{us ws:List Value},Vals xs us->Vals ys ws->Vals (xs++ys) (us++ws)
 |_,_,_,_,.nil,s=>s
 |_,_,_,_,.cons r t,s=>.cons r (Vals.append t s)
theorem Vals.take:∀{xs:List V}{us:List Value}(n:Nat),Vals xs us->Vals (xs.take n) (us.take n)
 |_,_,0,_=>.nil
 |_,_,_+1,.nil=>.nil
 |_,_,n+1,.cons r t=>.cons r (Vals.take n t)
theorem Vals.drop:∀{xs:List V}{us:List Value}(n:Nat),Vals xs us->Vals (xs.drop n) (us.drop n)
 |_,_,0,r=>r
 |_,_,_+1,.nil=>.nil
 |_,_,n+1,.cons _ t=>Vals.drop n t
def jc:Option V->Option Value->Prop
 |some v,some u=>RelV v u
 |none,none=>True
 |_,_=>False
def KV{κ:Type}:List (κ×V)->List (κ×Value)->Prop:=Paired λ(p:κ×V) (q:κ×Value)=>p.1=q.1/\RelV p.2 q.2
def kV:Key->V
 |.inl i=>.int i
 |.inr x=>.str x
inductive HO where
  |lst(xs:List V)
  |tup(xs:List V)
  |dK(kvs:List (Key×V))|dT(kvs:List (List Key×V))
  |set(S:Int->Bool)(n:Nat)
  |ins(C dx:Addr)(fs:List (Str×V))
  |own(x:Addr)
  |xd(fs:List (Str×V))
  |met(f x:Addr)
  |UH(lo hi:Int)
  |eF(o:Obj)(u:HO)
  |pA(ps:Array Value)
  |ext(φ:Heap->Prop)
abbrev Hp:=Addr->Option HO
def upd(H:Hp)(a:Addr)(o:HO):Hp:=λb=>if b=a then some o else H b
theorem af{H:Hp}{a:Addr}{o:HO}:upd H a o a=some o:=by unfold upd;rw[if_pos rfl]
theorem ai{H:Hp}{a b:Addr}{o:HO}(h:b≠a):upd H a o b=H b:=by unfold upd;rw[if_neg h]
theorem fZ{H:Hp}{a:Addr}{o u:HO}:upd (upd H a o) a u=upd H a u:=by
 funext b;unfold upd;split<;>rfl
theorem aN{H:Hp}{a b:Addr}{o u:HO}(h:H a=some o)(h':H b=some u)(d:o≠u):a≠b:=by
 intro e;subst e;rw[h]at h';exact d (Option.some.inj h')
theorem au{H:Hp}{a b:Addr}{o:HO}(h:H a=some o)(h':H b=none):a≠b:=by
 intro e;subst e;rw[h]at h';cases h'
section
variable (P:Program) (w:World)
def cA(H:Hp)(h:Heap)(a:Addr):HO->Prop
 |.lst xs=>xs.length<=sizeLine/\∃(its:List Value) (n:Nat),Vals xs its/\h.get? a=some {cls:=.type "list",data:=.seq its.toArray n}
 |.tup xs=>xs.length<=sizeLine/\∃its:List Value,Vals xs its/\IsTup h a its.toArray
 |.dK kvs=>kvs.length<=sizeLine/\(a==sysModules)=false/\∃vs,KV kvs vs/\h.DictOf (bF P w) a vs
 |.dT kvs=>kvs.length<=sizeLine/\(a==sysModules)=false/\∃xs:List (List Key×Addr×Value),
   Paired (λ(p:List Key×V) (q:List Key×Addr×Value)=>p.1=q.1/\H q.2.1=some (.tup (p.1.map kV))/\RelV p.2 q.2.2) kvs xs/\
   ∃o es ep,h.get? a=some o/\o.ExactDict/\o.data=.dict es ep/\es.toList=xs.map (entryOfKey (tupleKind (bF P w)))/\(xs.map (·.1)).Nodup
 |.set S n=>h.SetOf (intKind P w) a S n
 |.ins C dx fs=>H dx=some (.own a)/\fs.length<=1000/\dx≠a/\h.get? a=some (PySem.W.instObj C dx)/\
   ∃mA,h.Ns1 dx mA/\(∀f,jc (fs.lookup f) (mA f))/\PySem.Within mA (fs.map (·.1))
 |.own _=>∃o,h.get? a=some o
 |.xd fs=>∃mA,h.Ns1 a mA/\∀f,jc (fs.lookup f) (mA f)
 |.UH lo hi=>∃t u v,h.get? a=some {cls:=.type "range",data:=.fields #[.int lo t,.int hi u,.int 1 v]}
 |.eF o u=>h.get? a=some o/\cA H h a u
 |.pA ps=>h.get? a=some {cls:=.none,data:=.fields ps}
 |.met f x=>h.get? a=some (PySem.W.methodObj (.ref f) (.ref x))
 |.ext φ=>φ h/\(∃o,h.get? a=some o)/\∀h1 h2:Heap,φ h1->(∀o,h1.get? a=some o->h2.get? a=some o)->φ h2
def kZ(H:Hp)(h:Heap):Prop:=∀a o,H a=some o->cA P w H h a o
end
section
variable {P:Program} {w:World} {H H':Hp} {h h':Heap} {a:Addr} {o:HO}
theorem cA.lt(x:cA P w H h a o):a<h.objs.size:=by
 cases o with
 |lst xs=>obtain⟨_,_,_,_,e⟩:=x;exact Heap.lt_size e
 |tup xs=>obtain⟨_,_,_,p⟩:=x;exact p.lt
 |dK kvs=>obtain⟨_,_,_,_,o,_,_,e,_⟩:=x;exact Heap.lt_size e
 |dT kvs=>obtain⟨_,_,_,_,o,_,_,e,_⟩:=x;exact Heap.lt_size e
 |set S n=>obtain⟨o,_,_,_,e,_⟩:=x;exact Heap.lt_size e
 |ins C dx fs=>obtain⟨_,_,_,e,_⟩:=x;exact Heap.lt_size e
 |own y=>obtain⟨_,e⟩:=x;exact Heap.lt_size e
 |xd fs=>obtain⟨_,⟨_,_,_,e,_⟩,_⟩:=x;exact Heap.lt_size e
 |UH lo hi=>obtain⟨_,_,_,e⟩:=x;exact Heap.lt_size e
 |eF ob u=>obtain⟨e,_⟩:=x;exact Heap.lt_size e
 |pA ps=>exact Heap.lt_size (show h.get? a=some _ from x)
 |met f y=>exact Heap.lt_size (show h.get? a=some _ from x)
 |ext φ=>obtain⟨_,⟨_,e⟩,_⟩:=x;exact Heap.lt_size e
theorem Paired.EF{α β:Type}{F G:α->β->Prop}:∀{l₁:List α}{l₂:List β},Paired F l₁ l₂->(∀a b,F a b->G a b)->Paired G l₁ l₂
 |_,_,.nil,_=>.nil
 |_,_,.cons r t,f=>.cons (f _ _ r) (Paired.EF t f)
theorem Paired.imp'{α β:Type}{F G:α->β->Prop}(f:∀a b,F a b->G a b){l₁:List α}{l₂:List β}(r:Paired F l₁ l₂):Paired G l₁ l₂:=Paired.EF r f
theorem cA.stay(x:cA P w H h a o)(k:∀b u,(b=a\/H b=some (.own a))->h.get? b=some u->h'.get? b=some u)
  (ho:∀b,H b=some (.own a)->H' b=some (.own a))(ht:∀b xs,H b=some (.tup xs)->H' b=some (.tup xs)):cA P w H' h' a o:=by
 induction o with
 |lst xs=>obtain⟨z,its,n,r,e⟩:=x;exact⟨z,its,n,r,k _ _ (.inl rfl) e⟩
 |tup xs=>obtain⟨z,its,r,ob,e,c⟩:=x;exact⟨z,its,r,ob,k _ _ (.inl rfl) e,c⟩
 |dK kvs=>obtain⟨z,y,vs,r,ob,es,ep,e,c⟩:=x;exact⟨z,y,vs,r,ob,es,ep,k _ _ (.inl rfl) e,c⟩
 |dT kvs=>
  obtain⟨z,y,xs,r,ob,es,ep,e,c⟩:=x
  exact⟨z,y,xs,Paired.EF r λp q z=>⟨z.1,ht _ _ z.2.1,z.2.2⟩,ob,es,ep,k _ _ (.inl rfl) e,c⟩
 |set S n=>obtain⟨ob,es,ep,t,e,c⟩:=x;exact⟨ob,es,ep,t,k _ _ (.inl rfl) e,c⟩
 |ins C dx fs=>
  obtain⟨d,z,ne,e,mA,⟨od,es,ep,e2,c⟩,r⟩:=x
  exact⟨ho _ d,z,ne,k _ _ (.inl rfl) e,mA,⟨od,es,ep,k _ _ (.inr d) e2,c⟩,r⟩
 |own y=>obtain⟨ob,e⟩:=x;exact⟨ob,k _ _ (.inl rfl) e⟩
 |xd fs=>obtain⟨mA,⟨od,es,ep,e,c⟩,r⟩:=x;exact⟨mA,⟨od,es,ep,k _ _ (.inl rfl) e,c⟩,r⟩
 |UH lo hi=>obtain⟨t,u,v,e⟩:=x;exact⟨t,u,v,k _ _ (.inl rfl) e⟩
 |eF ob u ih=>obtain⟨e,q⟩:=x;exact⟨k _ _ (.inl rfl) e,ih q⟩
 |pA ps=>
  have e:h.get? a=some {cls:=.none,data:=.fields ps}:=x
  show h'.get? a=some {cls:=.none,data:=.fields ps}
  exact k a _ (.inl rfl) e
 |met f y=>
  have e:h.get? a=some (PySem.W.methodObj (.ref f) (.ref y)):=x
  show h'.get? a=some (PySem.W.methodObj (.ref f) (.ref y))
  exact k a _ (.inl rfl) e
 |ext φ=>obtain⟨p,⟨o,e⟩,st⟩:=x;exact⟨st _ _ p λo q=>k _ _ (.inl rfl) q,⟨o,k _ _ (.inl rfl) e⟩,st⟩
theorem kZ.lt(x:kZ P w H h)(e:H a=some o):a<h.objs.size:=(x a o e).lt
theorem kZ.fresh(x:kZ P w H h)(e:h.objs.size<=a):H a=none:=by
 cases q:H a with
 |none=>rfl
 |some u=>exact absurd (Nat.lt_of_lt_of_le (x.lt q) e) (Nat.lt_irrefl _)
theorem kZ.kept(x:kZ P w H h)(k:∀b u,h.get? b=some u->h'.get? b=some u):kZ P w H h':=λa o e=>
 (x a o e).stay (λb u _ q=>k b u q) (λ_ q=>q) λ_ _ q=>q
theorem kZ.laid(x:kZ P w H h)(k:∀b u,h.get? b=some u->h'.get? b=some u)(hp:h.objs.size<=a)(new:cA P w (upd H a o) h' a o):kZ P w (upd H a o) h':=λb u e=>by
 have hn:=x.fresh hp
 by_cases hb:b=a
 ·subst hb;rw[af]at e;cases e;exact new
 ·rw[ai hb]at e
  exact(x b u e).stay (λc v _ q=>k c v q) (λc q=>by rw[ai (au q hn)];exact q) λc xs q=>by rw[ai (au q hn)];exact q
end
def Rd(H:Hp)(a:Addr)(u:HO):Prop:=H a=some u\/∃o,H a=some (.eF o u)
theorem Rd.ok{P:Program}{w:World}{H:Hp}{h:Heap}{a:Addr}{u:HO}(r:Rd H a u)(x:kZ P w H h):cA P w H h a u:=by
 rcases r with r|⟨o,r⟩
 ·exact x a u r
 ·obtain⟨_,q⟩:=x a _ r
  exact q
def Si:Option HO->Prop
 |some (.lst _)=>True
 |some (.dK _)=>True
 |some (.dT _)=>True
 |some (.set _ _)=>True
 |some (.ins _ _ _)=>True
 |some (.ext _)=>True
 |_=>False
section
variable {P:Program} {w:World} {H:Hp} {h h':Heap} {x e:Addr} {o':HO}
theorem kZ.write(ok:kZ P w H h)(mu:Si (H x))(he:e=x\/H e=some (.own x))(k:∀b u,b≠e->h.get? b=some u->h'.get? b=some u)(Oq:∃u,h'.get? e=some u)
  (new:cA P w (upd H x o') h' x o'):kZ P w (upd H x o') h':=λb u q=>by
 have Pz:∀c y,H c=some (.own y)->c≠x:=λc y r z=>by subst z;rw[r]at mu;exact mu
 have UT:∀c xs,H c=some (.tup xs)->c≠x:=λc xs r z=>by subst z;rw[r]at mu;exact mu
 by_cases hb:b=x
 ·subst hb;rw[af]at q;cases q;exact new
 ·rw[ai hb]at q
  by_cases Ni:b=e
  ·have q':H b=some (.own x):=by
    rcases he with z|z
    ·exact absurd (Ni.trans z) hb
    ·rw[Ni];exact z
   rw[q]at q';cases q'
   obtain⟨v,hv⟩:=Oq
   exact⟨v,by rw[Ni];exact hv⟩
  ·refine(ok b u q).stay (λc v hc r=>k c v ?_ r) (λc r=>by rw[ai (Pz c b r)];exact r) λc xs r=>by rw[ai (UT c xs r)];exact r
   rcases hc with rfl|hc
   ·exact Ni
   ·rintro rfl
    rcases he with z|z
    ·exact Pz c b hc z
    ·rw[hc]at z;cases z;exact hb rfl
end
structure Un(fs ex:List Addr)(H H':Hp)(h h':Heap):Prop where
 keep:∀b o,h.get? b=some o->H b=none->b∉fs->b∉ex->h'.get? b=some o
 slot:∀b o,h.get? b=some o->H b=none->b∈fs->b∉ex->∃sl,h'.get? b=some {o with slots:=sl}
 free:∀b o,h.get? b=some o->H b=none->b∉ex->H' b=none
 there:∀b o,h.get? b=some o->b∉ex->∃o',h'.get? b=some o'
 tups:∀b xs,H b=some (.tup xs)->H' b=some (.tup xs)
 mG:∀b o u,H b=some (.eF o u)->H' b=some (.eF o u)
 qh:∀b ps,H b=some (.pA ps)->∃more,H' b=some (.pA (ps++more))
section
variable {fs fs' ex ex':List Addr} {H H1 H2:Hp} {h h1 h2 h':Heap} {a x e:Addr} {o:HO}
theorem Un.any(u:Un fs ex H H1 h h1){b:Addr}{ob:Obj}(q:h.get? b=some ob)(n:H b=none)(hx:b∉ex):∃sl,h1.get? b=some {ob with slots:=sl}:=by
 by_cases hb:b∈fs
 ·exact u.slot b ob q n hb hx
 ·exact⟨ob.slots,u.keep b ob q n hb hx⟩
theorem Un.kept(k:∀b u,h.get? b=some u->h'.get? b=some u):Un fs ex H H h h':=
 ⟨λb ob q _ _ _=>k b ob q,λb ob q _ _ _=>⟨ob.slots,k b ob q⟩,λ_ _ _ n _=>n,λb ob q _=>⟨ob,k b ob q⟩,λ_ _ q=>q,λ_ _ _ q=>q,λ_ ps q=>⟨#[],by rw[q];simp⟩⟩
theorem Un.refl:Un fs ex H H h h:=Un.kept λ_ _ q=>q
theorem Un.laid(k:∀b u,h.get? b=some u->h'.get? b=some u)(hp:h.objs.size<=a)(hn:H a=none):Un fs ex H (upd H a o) h h' where
 keep:=λb u q _ _ _=>k b u q
 slot:=λb u q _ _ _=>⟨u.slots,k b u q⟩
 free:=λb u q n _=>by rw[ai (Nat.ne_of_lt (Nat.lt_of_lt_of_le (Heap.lt_size q) hp))];exact n
 there:=λb u q _=>⟨u,k b u q⟩
 tups:=λb xs q=>by rw[ai (au q hn)];exact q
 mG:=λb u xs q=>by rw[ai (au q hn)];exact q
 qh:=λb ps q=>⟨#[],by rw[ai (au q hn),q];simp⟩
theorem Un.write(mu:Si (H x))(he:e=x\/H e=some (.own x))(k:∀b u,b≠e->h.get? b=some u->h'.get? b=some u)(Oq:∃u,h'.get? e=some u):Un fs ex H (upd H x o) h h':=by
 have hx:∀b,H b=none->b≠x:=λb n z=>by subst z;rw[n]at mu;exact mu
 have hb:∀b,H b=none->b≠e:=λb n z=>by
  subst z
  rcases he with r|r
  ·exact hx b n r
  ·rw[n]at r;cases r
 have hm:∀b u,H b=some u->¬Si (some u)->b≠x:=λb u q nm z=>by subst z;rw[q]at mu;exact nm mu
 refine⟨λb u q n _ _=>k b u (hb b n) q,λb u q n _ _=>⟨u.slots,k b u (hb b n) q⟩,λb u q n _=>by rw[ai (hx b n)];exact n,λb u q _=>?_,
  λb xs q=>by rw[ai (hm b _ q λz=>z)];exact q,λb u xs q=>by rw[ai (hm b _ q λz=>z)];exact q,λb ps q=>⟨#[],by rw[ai (hm b _ q λz=>z),q];simp⟩⟩
 by_cases Ni:b=e
 ·subst Ni;exact Oq
 ·exact⟨u,k b u Ni q⟩
end
def Sw(h:Heap)(H:Hp):List Addr:=(List.range h.objs.size).filter λa=>(H a).isSome
def uz(h:Heap)(H:Hp):Heap:=PySem.W.hideAll h (Sw h H)
theorem BO(h:Heap)(H:Hp):(uz h H).objs.size=h.objs.size:=PySem.W.hideAll_size _ _
theorem Fv{h:Heap}{H:Hp}{b:Addr}{o:Obj}(e:h.get? b=some o)(n:H b=none):(uz h H).get? b=some o:=
 PySem.W.hideAll_get _ e λhm=>by
  have q:(H b).isSome=true:=(List.mem_filter.mp hm).2
  rw[n]at q;simp at q
theorem HX{h:Heap}{H:Hp}{b:Addr}{o:Obj}(e:(uz h H).get? b=some o):h.get? b=some o/\H b=none:=by
 have e':h.get? b=some o:=PySem.W.of_hideAll (Sw h H) e
 refine⟨e',?_⟩
 cases q:H b with
 |none=>rfl
 |some x=>
  have hm:b∈Sw h H:=List.mem_filter.mpr ⟨List.mem_range.mpr (Heap.lt_size e'),by simp[q]⟩
  have z:(uz h H).get? b=none:=PySem.W.hideAll_none (Sw h H) hm
  rw[z]at e;cases e
structure Mod(K:Fg7)(mg:Str->Option Value)(base:Heap):Prop where
 Qp:K.In base
 glob:base.Ns mainGlobals mg
 blt:∃mb,base.Ns builtinsNs mb/\∀x:Str,x≠"__name__"->mb x=bootBuiltins x
 nolimit:base.NoLimit
structure Cx where
 prog:Program
 w:World
 K:Fg7
 mg:Str->Option Value
 base:Heap
 A:Around
 N:List Str
 s₀:Shared
 H₀:Hp
 env:Env
 outer:List Env
 stack:List Env
 ex:List Addr
 fn:Str->Bool
 calm:Bool
 pn:List (Addr×Obj)
 xe:Value->Shared->Prop
def frs(l:List Env):List Addr:=l.filterMap (·.frame)
abbrev Cx.fs(X:Cx):List Addr:=frs X.outer
def TN(sc:Scope)(x:Str):Prop:=sc.names.lookup x=some .local\/sc.names.lookup x=some .cell\/sc.names.lookup x=some .free
def Loc(sc:Scope)(x:Str):Prop:=sc.names.lookup x=some .local\/sc.names.lookup x=some .cell
def Look(env:Env)(h:Heap)(m:Str->Option Value)(x:Str)(u:Value):Prop:=
 (env.kindOf x=some .local/\m x=some u)\/((env.kindOf x=some .cell\/env.kindOf x=some .free)/\∃c,env.cells.lookup x=some c/\h.IsCell c (some u))
structure Cx.Ok(X:Cx):Prop where
 mod:Mod X.K X.mg X.base
 kind:X.env.scope.kind=.function
 glob:X.env.globals=mainGlobals
 blt:X.env.builtins=builtinsNs
 above:X.s₀.heap.objs.size<=X.env.locals
 inj:∀x y c,X.env.cells.lookup x=some c->X.env.cells.lookup y=some c->x=y
 has:∀x,(X.env.kindOf x=some .cell\/X.env.kindOf x=some .free)->∃c,X.env.cells.lookup x=some c
 Ow:∀x c,X.fn x=true->X.env.cells.lookup x=some c->X.s₀.heap.objs.size<=c
 hd:X.calm=true->X.A.handled=none
 frames:X.A.frames=some X.stack
 stk:X.stack=X.outer\/(X.stack=X.env::X.outer/\X.env.frame=some X.env.locals)
 Tw:∀b∈X.ex,b≠X.env.locals/\∀x c,X.env.cells.lookup x=some c->c≠b
 bs:∀b o,X.base.get? b=some o->X.s₀.heap.get? b=some o/\X.H₀ b=none
 Gf:X.base.objs.size<=X.s₀.heap.objs.size
 Br:∀b o,X.base.get? b=some o->b∉X.ex
 BW:∀b∈X.ex,b∉X.fs
 nU:X.s₀.heap.FunFrames X.base X.outer
 KU:∀b∈X.fs,X.H₀ b=none
structure Inv(X:Cx)(pins:List (Addr×Obj))(σ:List (Option V))(H:Hp)(s:Shared):Prop where
 ok:X.Ok
 os:s.os=X.s₀.os
 bare:AllBare s.gens
 base:Un X.fs X.ex X.H₀ H X.s₀.heap s.heap
 loc:∃m,s.heap.Ns X.env.locals m/\∀(i:Nat)(x:Str)(v:V),X.N[i]? = some x->σ[i]? = some (some v)->TN X.env.scope x->∃u,RelV v u/\Look X.env s.heap m x u
 cell:∀x c,X.env.cells.lookup x=some c->∃v,s.heap.IsCell c v
 free:H X.env.locals=none
 gx:∀x c,X.env.cells.lookup x=some c->H c=none
 pin:∀p∈X.pn++pins,s.heap.get? p.1=some p.2/\H p.1=none/\p.1≠X.env.locals/\p.1∉X.fs/\∀v,p.2.data≠.cell v
 hok:kZ X.prog X.w H s.heap
 len:σ.length=X.N.length
section
variable {X:Cx} {pins:List (Addr×Obj)} {σ:List (Option V)} {H H':Hp} {s:Shared} {h':Heap}
theorem Cx.Ok.UZ(ok:X.Ok){b:Addr}{o:Obj}(e:X.base.get? b=some o):b∉X.fs:=λhb=>by
 have:=(ok.nU.mem hb).1
 rw[e]at this;cases this
theorem Inv.bs(I:Inv X pins σ H s):∀b o,X.base.get? b=some o->s.heap.get? b=some o/\H b=none:=λb o e=>
 ⟨I.base.keep b o (I.ok.bs b o e).1 (I.ok.bs b o e).2 (I.ok.UZ e) (I.ok.Br b o e),I.base.free b o (I.ok.bs b o e).1 (I.ok.bs b o e).2 (I.ok.Br b o e)⟩
theorem Inv.bk(I:Inv X pins σ H s):∀b o,X.base.get? b=some o->s.heap.get? b=some o:=λb o e=>(I.bs b o e).1
theorem Inv.mod(I:Inv X pins σ H s):Mod X.K X.mg X.base:=I.ok.mod
theorem Inv.mE(I:Inv X pins σ H s):X.K.In s.heap:=I.ok.mod.Qp.keeps I.bk
theorem Inv.nolimit(I:Inv X pins σ H s):s.heap.NoLimit:=I.ok.mod.nolimit.keeps I.bk
theorem Inv.lt(I:Inv X pins σ H s):X.env.locals<s.heap.objs.size:=let⟨_,hn,_⟩:=I.loc;hn.lt
theorem Inv.sz(I:Inv X pins σ H s):X.s₀.heap.objs.size<=s.heap.objs.size:=Nat.le_trans I.ok.above (Nat.le_of_lt I.lt)
theorem Inv.UY(I:Inv X pins σ H s){a:Addr}(h:s.heap.objs.size<=a):a∉X.fs:=λhb=>by
 obtain⟨_,o,ho,_⟩:=I.ok.nU.mem hb
 exact absurd (Nat.lt_of_lt_of_le (Heap.lt_size ho) (Nat.le_trans I.sz h)) (Nat.lt_irrefl _)
theorem Inv.NP(I:Inv X pins σ H s):∀x c,X.env.cells.lookup x=some c->c≠X.env.locals:=λx c e z=>by
 obtain⟨v,o,ho,hd⟩:=I.cell x c e
 obtain⟨m,⟨o',es,ep,ho',hd',_⟩,_⟩:=I.loc
 rw[z,ho']at ho;cases ho;rw[hd']at hd;cases hd
theorem Inv.nU(I:Inv X pins σ H s):s.heap.FunFrames X.base X.outer:=by
 have all:∀(l:List Env),(∀b∈frs l,b∈X.fs)->X.s₀.heap.FunFrames X.base l->s.heap.FunFrames X.base l:=by
  intro l
  induction l with
  |nil=>intro _ _;trivial
  |cons env r ih=>
   intro hs hl
   obtain⟨hk,⟨L,o,hf,hn,ho,hd⟩,hr⟩:=hl
   have hL:L∈X.fs:=hs L (by unfold frs;rw[List.filterMap_cons,hf];exact List.mem_cons_self)
   obtain⟨sl,e⟩:=I.base.slot L o ho (I.ok.KU L hL) hL λz=>I.ok.BW L z hL
   exact⟨hk,⟨L,_,hf,hn,e,hd⟩,ih (λb hb=>hs b (by unfold frs;rw[List.filterMap_cons,hf];exact List.mem_cons_of_mem _ hb)) hr⟩
 exact all X.outer (λ_ hb=>hb) I.ok.nU
theorem Inv.stack(I:Inv X pins σ H s):s.heap.FunFrames X.base X.stack:=by
 rcases I.ok.stk with e|⟨e,hf⟩
 ·rw[e];exact I.nU
 ·rw[e]
  obtain⟨m,hn,_⟩:=I.loc
  refine .cons (by rw[I.ok.kind];decide) hf hn ?_ I.nU
  exact Heap.get?_none_of_le (Nat.le_trans I.ok.Gf I.ok.above)
theorem Inv.tU(I:Inv X pins σ H s):∀b∈frs X.stack,b∈X.env.locals::X.fs:=λb hb=>by
 rcases I.ok.stk with e|⟨e,hf⟩
 ·rw[e]at hb;exact List.mem_cons_of_mem _ hb
 ·rw[e]at hb
  unfold frs at hb
  rw[List.filterMap_cons,hf]at hb
  exact hb
theorem Inv.tV(I:Inv X pins σ H s):∀b∈frs X.stack,H b=none:=λb hb=>by
 rcases List.mem_cons.mp (I.tU b hb)with e|hb
 ·rw[e];exact I.free
 ·obtain⟨_,o,ho,_⟩:=I.ok.nU.mem hb
  exact I.base.free b o ho (I.ok.KU b hb) λz=>I.ok.BW b z hb
theorem Inv.step{g':Array GenState}{t':Nat}{d':Drawn}{ch:List Addr}(I:Inv X pins σ H s)
  (hch:∀b∈ch,(b∈X.ex\/X.s₀.heap.objs.size<=b)/\b≠X.env.locals/\(∀x c,X.env.cells.lookup x=some c->c≠b)/\∀p∈X.pn++pins,p.1≠b)
  (keep:∀b o,b≠X.env.locals->b∉X.fs->b∉ch->s.heap.get? b=some o->H b=none->h'.get? b=some o)
  (slot:∀b o,b≠X.env.locals->b∈X.fs->b∉ch->s.heap.get? b=some o->H b=none->∃sl,h'.get? b=some {o with slots:=sl})(free:∀b o,b∉ch->s.heap.get? b=some o->H b=none->H' b=none)
  (there:∀b o,b∉ch->s.heap.get? b=some o->∃o',h'.get? b=some o')
  (tups:∀b xs,H b=some (.tup xs)->H' b=some (.tup xs))(mG:∀b o u,H b=some (.eF o u)->H' b=some (.eF o u))(qh:∀b ps,H b=some (.pA ps)->∃more,H' b=some (.pA (ps++more)))
  (ns:∀m,s.heap.Ns X.env.locals m->h'.Ns X.env.locals m)(hok:kZ X.prog X.w H' h')(hg:AllBare g'):
  Inv X pins σ H' {s with heap:=h',gens:=g',drawn:=d',toks:=t'}:=by
 have XT:∀b o,X.s₀.heap.get? b=some o->b≠X.env.locals:=λb o e=>Nat.ne_of_lt (Nat.lt_of_lt_of_le (Heap.lt_size e) I.ok.above)
 have SN:∀b o,X.s₀.heap.get? b=some o->b∉X.ex->b∉ch:=λb o e hx hb=>by
  rcases(hch b hb).1 with z|z
  ·exact hx z
  ·exact absurd (Nat.lt_of_lt_of_le (Heap.lt_size e) z) (Nat.lt_irrefl _)
 have cellK:∀x c,X.env.cells.lookup x=some c->∀v,s.heap.IsCell c v->h'.IsCell c v:=λx c e v ⟨o,ho,hd⟩=>by
  have PM:c∉ch:=λz=>(hch c z).2.2.1 x c e rfl
  by_cases hc:c∈X.fs
  ·obtain⟨sl,q⟩:=slot c o (I.NP x c e) hc PM ho (I.gx x c e)
   exact⟨_,q,hd⟩
  ·exact⟨o,keep c o (I.NP x c e) hc PM ho (I.gx x c e),hd⟩
 refine⟨I.ok,I.os,hg,⟨λb o e n hb hx=>?_,λb o e n hb hx=>?_,λb o e n hx=>?_,λb o e hx=>?_,λb xs e=>tups b xs (I.base.tups b xs e),λb o xs e=>mG b o xs (I.base.mG b o xs e),λb ps e=>?_⟩,?_,λx c e=>?_,?_,λx c e=>?_,λp hp=>?_,hok,I.len⟩
 ·exact keep b o (XT b o e) hb (SN b o e hx) (I.base.keep b o e n hb hx) (I.base.free b o e n hx)
 ·obtain⟨sl,e1⟩:=I.base.slot b o e n hb hx
  obtain⟨ZR,e2⟩:=slot b _ (XT b o e) hb (SN b o e hx) e1 (I.base.free b o e n hx)
  exact⟨ZR,e2⟩
 ·obtain⟨o',e1⟩:=I.base.there b o e hx
  exact free b o' (SN b o e hx) e1 (I.base.free b o e n hx)
 ·obtain⟨o',e1⟩:=I.base.there b o e hx
  exact there b o' (SN b o e hx) e1
 ·obtain⟨m1,e1⟩:=I.base.qh b ps e
  obtain⟨m2,e2⟩:=qh b _ e1
  exact⟨m1++m2,by rw[e2,Array.append_assoc]⟩
 ·obtain⟨m,hn,hl⟩:=I.loc
  refine⟨m,ns m hn,λi x v e1 e2 e3=>?_⟩
  obtain⟨u,r,l⟩:=hl i x v e1 e2 e3
  refine⟨u,r,?_⟩
  rcases l with l|⟨k,c,e,z⟩
  ·exact .inl l
  ·exact .inr ⟨k,c,e,cellK x c e _ z⟩
 ·obtain⟨v,z⟩:=I.cell x c e
  exact⟨v,cellK x c e v z⟩
 ·obtain⟨m,⟨o,_,_,ho,_⟩,_⟩:=I.loc
  exact free _ o (λz=>(hch _ z).2.1 rfl) ho I.free
 ·obtain⟨v,o,ho,hd⟩:=I.cell x c e
  exact free c o (λz=>(hch c z).2.2.1 x c e rfl) ho (I.gx x c e)
 ·obtain⟨e,n,ne,nf,d⟩:=I.pin p hp
  have PM:p.1∉ch:=λz=>(hch p.1 z).2.2.2 p hp rfl
  exact⟨keep p.1 p.2 ne nf PM e n,free p.1 p.2 PM e n,ne,nf,d⟩
theorem Inv.un{t':Nat}(I:Inv X pins σ H s)(u:Un X.fs [] H H' s.heap h')(hok:kZ X.prog X.w H' h'):Inv X pins σ H' {s with heap:=h',toks:=t'}:=by
 obtain⟨m,⟨o,es,ep,ho,r⟩,_⟩:=id I.loc
 obtain⟨sl,hL⟩:=u.any ho I.free (by simp)
 exact I.step (g':=s.gens) (d':=s.drawn) (ch:=[]) (λ_ z=>nomatch z) (λb o _ hb _ e n=>u.keep b o e n hb (by simp)) (λb o _ hb _ e n=>u.slot b o e n hb (by simp)) (λb o _ e n=>u.free b o e n (by simp)) (λb o _ e=>u.there b o e (by simp)) u.tups u.mG u.qh (λm' hm=>by
  obtain⟨o',es',Ov,ho',r'⟩:=hm
  rw[ho]at ho';cases ho'
  exact⟨_,es',Ov,hL,r'⟩) hok I.bare
theorem Inv.call{g':Array GenState}{t':Nat}{d':Drawn}{ch:List Addr}(I:Inv X pins σ H s)(u:Un (frs X.stack) ch H H' s.heap h')(hok:kZ X.prog X.w H' h')(hg:AllBare g')
  (hch:∀b∈ch,(b∈X.ex\/X.s₀.heap.objs.size<=b)/\b≠X.env.locals/\(∀x c,X.env.cells.lookup x=some c->c≠b)/\∀p∈X.pn++pins,p.1≠b):
  Inv X pins σ H' {s with heap:=h',gens:=g',drawn:=d',toks:=t'}:=by
 obtain⟨m,⟨o,es,ep,ho,r⟩,_⟩:=id I.loc
 obtain⟨sl,hL⟩:=u.any ho I.free λz=>(hch _ z).2.1 rfl
 exact I.step (ch:=ch) hch (λb o hL hb hc e n=>u.keep b o e n (λz=>(List.mem_cons.mp (I.tU b z)).elim hL hb) hc) (λb o _ _ hc e n=>u.any e n hc) (λb o hc e n=>u.free b o e n hc) (λb o hc e=>u.there b o e hc) u.tups u.mG u.qh (λm' hm=>by
  obtain⟨o',es',Ov,ho',r'⟩:=hm
  rw[ho]at ho';cases ho'
  exact⟨_,es',Ov,hL,r'⟩) hok hg
theorem Inv.turned{t':Nat}{it:Addr}(I:Inv X pins σ H s)(k:∀b o,b≠it->s.heap.get? b=some o->h'.get? b=some o)(hn:H it=none)(hL:it≠X.env.locals)
  (h1:it∈X.ex\/X.s₀.heap.objs.size<=it)(h2:∀x c,X.env.cells.lookup x=some c->c≠it)(h3:∀p∈X.pn++pins,p.1≠it):Inv X pins σ H {s with heap:=h',toks:=t'}:=by
 have PF:∀b u,H b=some u->b≠it:=λb u e z=>by rw[z,hn]at e;cases e
 refine I.step (g':=s.gens) (d':=s.drawn) (ch:=[it]) (λb hb=>?_) (λb o _ _ hc e _=>k b o (λz=>hc (by simp[z])) e) (λb o _ _ hc e _=>⟨o.slots,k b o (λz=>hc (by simp[z])) e⟩) (λ_ _ _ _ n=>n)
  (λb o hc e=>⟨o,k b o (λz=>hc (by simp[z])) e⟩) (λ_ _ e=>e) (λ_ _ _ e=>e) (λb ps e=>⟨#[],by rw[e];simp⟩) (λm hm=>?_) (λb u e=>?_) I.bare
 ·have e:b=it:=by simpa using hb
  subst e
  exact⟨h1,hL,h2,h3⟩
 ·obtain⟨o,es,ep,ho,r⟩:=hm
  exact⟨o,es,ep,k _ o (Ne.symm hL) ho,r⟩
 ·refine(I.hok b u e).stay (λc v hc q=>k c v ?_ q) (λ_ q=>q) λ_ _ q=>q
  rcases hc with z|z
  ·rw[z];exact PF b u e
  ·exact PF c _ z
theorem Inv.tok(I:Inv X pins σ H s)(t:Nat):Inv X pins σ H {s with toks:=t}:=I.un (h':=s.heap) (t':=t) Un.refl I.hok
theorem Inv.kept{t':Nat}(I:Inv X pins σ H s)(k:∀b u,s.heap.get? b=some u->h'.get? b=some u):Inv X pins σ H {s with heap:=h',toks:=t'}:=I.un (Un.kept k) (I.hok.kept k)
theorem Inv.laid{a:Addr}{o:HO}{t':Nat}(I:Inv X pins σ H s)(k:∀b u,s.heap.get? b=some u->h'.get? b=some u)(hp:s.heap.objs.size<=a)(new:cA X.prog X.w (upd H a o) h' a o):
  Inv X pins σ (upd H a o) {s with heap:=h',toks:=t'}:=I.un (Un.laid k hp (I.hok.fresh hp)) (I.hok.laid k hp new)
theorem Inv.write{x e:Addr}{o:HO}{t':Nat}(I:Inv X pins σ H s)(mu:Si (H x))(he:e=x\/H e=some (.own x))(k:∀b u,b≠e->s.heap.get? b=some u->h'.get? b=some u)(Oq:∃u,h'.get? e=some u)
  (new:cA X.prog X.w (upd H x o) h' x o):Inv X pins σ (upd H x o) {s with heap:=h',toks:=t'}:=I.un (Un.write mu he k Oq) (I.hok.write mu he k Oq new)
theorem Inv.weak{σ':List (Option V)}(I:Inv X pins σ H s)(hl:σ'.length=σ.length)(w:∀(i:Nat) v,σ'[i]? = some (some v)->σ[i]? = some (some v)):Inv X pins σ' H s:=
 ⟨I.ok,I.os,I.bare,I.base,let⟨m,hn,hl'⟩:=I.loc;⟨m,hn,λi x v e1 e2 e3=>hl' i x v e1 (w i v e2) e3⟩,I.cell,I.free,I.gx,I.pin,I.hok,hl.trans I.len⟩
theorem Inv.zY{gO:List (Addr×Obj)}(I:Inv X pins σ H s)(h:∀p∈gO,s.heap.get? p.1=some p.2/\H p.1=none/\p.1≠X.env.locals/\p.1∉X.fs/\∀v,p.2.data≠.cell v):Inv X gO σ H s:=
 ⟨I.ok,I.os,I.bare,I.base,I.loc,I.cell,I.free,I.gx,λp hp=>(List.mem_append.mp hp).elim (λz=>I.pin p (List.mem_append_left _ z)) (h p),I.hok,I.len⟩
theorem vS{N:List Str}(hN:N.Nodup){i j:Nat}{x:Str}(a:N[i]? = some x)(b:N[j]? = some x):i=j:=by
 obtain⟨h1,e1⟩:=List.getElem?_eq_some_iff.mp a
 obtain⟨h2,e2⟩:=List.getElem?_eq_some_iff.mp b
 exact(List.getElem_inj hN).mp (e1.trans e2.symm)
theorem AV{M:Model}{A:Around}{E:Value->Shared->Prop}{i:Nat}{x:Str}{v:V}{u:Value}{Q:Unit->Shared->Prop}(I:Inv X pins σ H s)(hN:X.N.Nodup)(hi:X.N[i]? = some x)(hx:Loc X.env.scope x)(r:RelV v u)
  (h:∀s',Inv X pins (σ.set i (some v)) H s'->(∃a,Heap.SameBut a s.heap s'.heap/\(a=X.env.locals\/X.env.cells.lookup x=some a))->Q () s')(hf:X.fn x=true\/X.env.scope.names.lookup x=some .local:=by first|exact .inl rfl|exact .inr rfl|assumption):wpAny M A (storeName X.env x u) Q E s:=by
 obtain⟨m,hn,hl⟩:=id I.loc
 have hcls:(X.env.scope.kind == .class||(X.env.scope.kind == .module&&X.env.locals != X.env.globals))=false:=by rw[I.ok.kind];rfl
 have YH:i<σ.length:=by rw[I.len];exact(List.getElem?_eq_some_iff.mp hi).1
 have NP:=I.NP
 have tracked:∀{a:Addr}{h':Heap},(∃o,s.heap.get? a=some o/\H a=none)->Heap.SameBut a s.heap h'->kZ X.prog X.w H h':=λ{a h'} ha hs b ob e=>by
  obtain⟨_,_,hfree⟩:=ha
  refine(I.hok b ob e).stay (λc w' hc q=>(hs.2 c ?_).trans q) (λ_ q=>q) λ_ _ q=>q
  rintro rfl
  rcases hc with rfl|hc
  ·rw[hfree]at e;cases e
  ·rw[hfree]at hc;cases hc
 rcases hx with hk|hk
 ·refine wpAny_storeName_local hk hn (λh' hn' hs=>?_) hcls
  obtain⟨oL,_,_,Ft,_⟩:=id hn
  refine h _ ⟨I.ok,I.os,I.bare,⟨λb o e n hb hx=>?_,λb o e n hb hx=>?_,I.base.free,λb o e hx=>?_,I.base.tups,I.base.mG,I.base.qh⟩,⟨_,hn',λj y v' e1 e2 e3=>?_⟩,λy c e=>?_,I.free,I.gx,λp hp=>?_,tracked ⟨oL,Ft,I.free⟩ hs,by simpa using I.len⟩ ⟨_,hs,.inl rfl⟩
  ·exact(hs.2 b (Nat.ne_of_lt (Nat.lt_of_lt_of_le (Heap.lt_size e) I.ok.above))).trans (I.base.keep b o e n hb hx)
  ·obtain⟨sl,e1⟩:=I.base.slot b o e n hb hx
   exact⟨sl,(hs.2 b (Nat.ne_of_lt (Nat.lt_of_lt_of_le (Heap.lt_size e) I.ok.above))).trans e1⟩
  ·obtain⟨o',e1⟩:=I.base.there b o e hx
   exact⟨o',(hs.2 b (Nat.ne_of_lt (Nat.lt_of_lt_of_le (Heap.lt_size e) I.ok.above))).trans e1⟩
  ·by_cases hj:j=i
   ·subst hj
    rw[hi]at e1;cases e1
    rw[List.getElem?_set_self YH]at e2
    cases e2
    exact⟨u,r,.inl ⟨hk,by simp⟩⟩
   ·rw[List.getElem?_set_ne (Ne.symm hj)]at e2
    obtain⟨u',r',q⟩:=hl j y v' e1 e2 e3
    refine⟨u',r',?_⟩
    rcases q with⟨k,e⟩|⟨k,c,e,z⟩
    ·refine .inl ⟨k,?_⟩
     have:y≠x:=λe=>hj (vS hN e1 (e▸hi))
     simp[this,e]
    ·exact .inr ⟨k,c,e,z.sameBut hs (NP y c e)⟩
  ·obtain⟨w',z⟩:=I.cell y c e
   exact⟨w',z.sameBut hs (NP y c e)⟩
  ·obtain⟨e,n,ne,nf,d⟩:=I.pin p hp
   exact⟨(hs.2 p.1 ne).trans e,n,ne,nf,d⟩
 ·have hfn:X.fn x=true:=by
   rcases hf with z|z
   ·exact z
   ·rw[z]at hk;cases hk
  obtain⟨c,hc⟩:=I.ok.has x (.inl hk)
  obtain⟨w',z⟩:=I.cell x c hc
  refine wpAny_storeName_cell I.ok.kind hk hc z (λh' hc' hs=>?_)
  obtain⟨oc,hoc,VU⟩:=id z
  refine h {s with heap:=h'} ⟨I.ok,I.os,I.bare,⟨λb o e n hb hx=>?_,λb o e n hb hx=>?_,I.base.free,λb o e hx=>?_,I.base.tups,I.base.mG,I.base.qh⟩,⟨m,hn.sameBut hs (Ne.symm (NP x c hc)),λj y v' e1 e2 e3=>?_⟩,λy c' e=>?_,I.free,I.gx,λp hp=>?_,tracked ⟨oc,hoc,I.gx x c hc⟩ hs,by simpa using I.len⟩ ⟨c,hs,.inr hc⟩
  ·exact(hs.2 b (Nat.ne_of_lt (Nat.lt_of_lt_of_le (Heap.lt_size e) (I.ok.Ow x c hfn hc)))).trans (I.base.keep b o e n hb hx)
  ·obtain⟨sl,e1⟩:=I.base.slot b o e n hb hx
   exact⟨sl,(hs.2 b (Nat.ne_of_lt (Nat.lt_of_lt_of_le (Heap.lt_size e) (I.ok.Ow x c hfn hc)))).trans e1⟩
  ·obtain⟨o',e1⟩:=I.base.there b o e hx
   exact⟨o',(hs.2 b (Nat.ne_of_lt (Nat.lt_of_lt_of_le (Heap.lt_size e) (I.ok.Ow x c hfn hc)))).trans e1⟩
  ·by_cases hj:j=i
   ·subst hj
    rw[hi]at e1;cases e1
    rw[List.getElem?_set_self YH]at e2
    cases e2
    exact⟨u,r,.inr ⟨.inl hk,c,hc,hc'⟩⟩
   ·rw[List.getElem?_set_ne (Ne.symm hj)]at e2
    obtain⟨u',r',q⟩:=hl j y v' e1 e2 e3
    refine⟨u',r',?_⟩
    rcases q with q|⟨k,c',e,z'⟩
    ·exact .inl q
    ·refine .inr ⟨k,c',e,z'.sameBut hs ?_⟩
     rintro rfl
     exact hj (vS hN e1 (I.ok.inj _ _ _ e hc▸hi))
  ·by_cases hcc:c'=c
   ·subst hcc;exact⟨_,hc'⟩
   ·obtain⟨w2,z2⟩:=I.cell y c' e
    exact⟨w2,z2.sameBut hs hcc⟩
  ·obtain⟨e,n,ne,nf,d⟩:=I.pin p hp
   refine⟨(hs.2 p.1 ?_).trans e,n,ne,nf,d⟩
   intro q
   rw[q,hoc]at e
   have q':oc=p.2:=Option.some.inj e
   exact d w' (by rw[←q'];exact VU)
theorem vm{M:Model}{A:Around}{E:Value->Shared->Prop}{i:Nat}{x:Str}{v:V}{u:Value}{Q:Unit->Shared->Prop}(I:Inv X pins σ H s)(hN:X.N.Nodup)(hi:X.N[i]? = some x)(hx:Loc X.env.scope x)(r:RelV v u)
  (h:∀s',Inv X pins (σ.set i (some v)) H s'->Q () s')(hf:X.fn x=true\/X.env.scope.names.lookup x=some .local:=by first|exact .inl rfl|exact .inr rfl|assumption):wpAny M A (storeName X.env x u) Q E s:=
 AV I hN hi hx r (λs' I' _=>h s' I') hf
theorem Inv.RX{s':Shared}{ch:List Addr}(I:Inv X pins σ H s)(ho:s'.os=s.os)(u:Un (frs X.stack) ch H H' s.heap s'.heap)(hok:kZ X.prog X.w H' s'.heap)(hg:AllBare s'.gens)
  (hch:∀b∈ch,(b∈X.ex\/X.s₀.heap.objs.size<=b)/\b≠X.env.locals/\(∀x c,X.env.cells.lookup x=some c->c≠b)/\∀p∈X.pn++pins,p.1≠b):Inv X pins σ H' s':=by
 obtain⟨h',g',d',t',o'⟩:=s'
 have e:o'=s.os:=ho
 subst e
 exact I.call (g':=g') (t':=t') (d':=d') u hok hg hch
end
abbrev XK:=Value->Option Addr->Hp->Prop
abbrev St:=List (Option V)
abbrev VK:=V->Hp->Prop
abbrev TE:=St->Hp->VK->Prop
abbrev TT:=St->Hp->(Bool->Hp->Prop)->Prop
abbrev TA:=St->Hp->(List V->Hp->Prop)->Prop
structure Ends where
 nx:St->Hp->Prop
 rt:VK
 bk:St->Hp->Prop:=λ_ _=>False
 ct:St->Hp->Prop:=λ_ _=>False
abbrev TS:=Ends->St->Hp->Prop
inductive EP(X:Cx)(pins:List (Addr×Obj))(σ:St)(Q:VK)(u:Value)(s':Shared):Prop
 |mk(v:_)(H':_):(Inv X pins σ H' s')->(RelV v u)->(Q v H')->EP X pins σ Q u s'
def TP(X:Cx)(pins:List (Addr×Obj))(σ:St)(Q:Bool->Hp->Prop)(b:Bool)(s':Shared):Prop:=∃H',Inv X pins σ H' s'/\Q b H'
inductive AP(X:Cx)(pins:List (Addr×Obj))(σ:St)(Q:List V->Hp->Prop)(us:List Value)(s':Shared):Prop
 |mk(vs:_)(H':_):(Inv X pins σ H' s')->(Vals vs us)->(Q vs H')->AP X pins σ Q us s'
def SP(X:Cx)(pins:List (Addr×Obj))(D:Ends)(f:Flow)(s':Shared):Prop:=
 match f with
 |.next=>∃σ' H',Inv X pins σ' H' s'/\D.nx σ' H'
 |.brk=>∃σ' H',Inv X pins σ' H' s'/\D.bk σ' H'
 |.cont=>∃σ' H',Inv X pins σ' H' s'/\D.ct σ' H'
 |.ret u=>∃v σ' H',Inv X pins σ' H' s'/\RelV v u/\D.rt v H'
def PE(X:Cx)(e:Expr)(t:TE):Prop:=
 ∀(pins:List (Addr×Obj))(s:Shared)(σ:St)(H:Hp)(Q:VK),Inv X pins σ H s->t σ H Q->wpAny (model X.prog X.w) X.A (eval e X.env) (EP X pins σ Q) X.xe s
def PT(X:Cx)(e:Expr)(t:TT):Prop:=
 ∀(pins:List (Addr×Obj))(s:Shared)(σ:St)(H:Hp)(Q:Bool->Hp->Prop),Inv X pins σ H s->t σ H Q->wpAny (model X.prog X.w) X.A (isTrue e X.env (eval e X.env)) (TP X pins σ Q) X.xe s
def PW(X:Cx)(e:Expr)(t:TT):Prop:=
 ∀(whole:Sem Value)(pins:List (Addr×Obj))(s:Shared)(σ:St)(H:Hp)(Q:Bool->Hp->Prop),Inv X pins σ H s->t σ H Q->wpAny (model X.prog X.w) X.A (isTrue e X.env whole) (TP X pins σ Q) X.xe s
theorem PW.pt{X:Cx}{e:Expr}{t:TT}(h:PW X e t):PT X e t:=h _
def PA(X:Cx)(es:List Expr)(t:TA):Prop:=
 ∀(pos:Pos)(pins:List (Addr×Obj))(s:Shared)(σ:St)(H:Hp)(Q:List V->Hp->Prop),Inv X pins σ H s->t σ H Q->wpAny (model X.prog X.w) X.A (spliced (backTo pos (starEach es X.env))) (AP X pins σ Q) X.xe s
def PS(X:Cx)(st:Stmt)(t:TS):Prop:=
 ∀(pins:List (Addr×Obj))(s:Shared)(σ:St)(H:Hp)(D:Ends),Inv X pins σ H s->t D σ H->wpAny (model X.prog X.w) X.A (exec st X.env) (SP X pins D) X.xe s
def uS(X:Cx)(st:List Stmt)(t:TS):Prop:=
 ∀(pins:List (Addr×Obj))(s:Shared)(σ:St)(H:Hp)(D:Ends),Inv X pins σ H s->t D σ H->wpAny (model X.prog X.w) X.A (execs st X.env) (SP X pins D) X.xe s
theorem dm{α:Type}{t:Sem α}{Q Q':α->Shared->Prop}{M:Model}{A:Around}{E:Value->Shared->Prop}{s:Shared}(h:wpAny M A t Q E s)(hQ:∀a s,Q a s->Q' a s):wpAny M A t Q' E s:=wpAny_mono h hQ λ_ _ x=>x
section
variable {X:Cx}
inductive JB(i:Nat)(σ:St)(H:Hp)(Q:VK):Prop
 |mk(v:_):(σ[i]? = some (some v))->(Q v H)->JB i σ H Q
def CP(i:Nat):TE:=λσ H Q=>JB i σ H Q
def tC(v:V):TE:=λ_ H Q=>Q v H
theorem LS{i:Nat}{x:Str}{pos:Pos}(hN:X.N[i]? = some x)(hv:TN X.env.scope x)(hd:(x==("__debug__":Str))=false:=by decide)(hcd:(x==("__classdict__":Str))=false:=by decide):PE X (.Name x pos) (CP i):=by
 intro pins s σ H Q I h
 obtain⟨v,e,h⟩:=h
 obtain⟨m,hn,hl⟩:=I.loc
 obtain⟨u,r,l⟩:=hl i x v hN e hv
 have fin:EP X pins σ Q u s:=⟨v,H,I,r,h⟩
 rcases l with⟨hk,hm⟩|⟨hk,c,hc,hcell⟩
 ·exact wpAny_Name (wpAny_loadName_local I.ok.kind hk hn hm fin) hd
 ·rcases hk with hk|hk
  ·exact wpAny_Name (wpAny_loadName_cell I.ok.kind hk hc hcell fin) hd
  ·exact wpAny_Name (wpAny_loadName_free I.ok.kind hk hc hcell fin hcd) hd
theorem ah{i j pos}:PE X (.Constant (.int i) j pos) (tC (.int i)):=λ_ _ _ H _ I h=>wpAny_Constant_int ⟨.int i,H,I.tok _,⟨_,rfl⟩,h⟩
theorem iJ{b j pos}:PE X (.Constant (.bool b) j pos) (tC (.bl b)):=λ_ _ _ H _ I h=>Constant_bool ⟨.bl b,H,I,rfl,h⟩
theorem nh{j pos}:PE X (.Constant .none j pos) (tC .dR):=λ_ _ _ H _ I h=>Constant_none ⟨.dR,H,I,rfl,h⟩
theorem dh{x j pos}:PE X (.Constant (.str x) j pos) (tC (.str x)):=λ_ _ _ H _ I h=>Calls.Constant_str ⟨.str x,H,I.tok _,⟨_,rfl⟩,h⟩
def Gl(X:Cx)(x:Str):Prop:=X.env.kindOf x=some .globalImplicit
theorem uw{E:Value->Shared->Prop}{pins:List (Addr×Obj)}{s:Shared}{σ:St}{H:Hp}{x:Str}{u:Value}{pos:Pos}{Q:Value->Shared->Prop}(I:Inv X pins σ H s)(hg:Gl X x)(hm:X.mg x=some u)(h:Q u s)
  (hd:(x==("__debug__":Str))=false:=by decide):wpAny (model X.prog X.w) X.A (eval (.Name x pos) X.env) Q E s:=
 Calls.Name_function_global I.ok.kind hg (Calls.loadGlobal_global (by rw[I.ok.glob];exact I.mod.glob.keeps I.bk) hm h) hd
theorem gR{E:Value->Shared->Prop}{pins:List (Addr×Obj)}{s:Shared}{σ:St}{H:Hp}{x:Str}{u:Value}{pos:Pos}{Q:Value->Shared->Prop}(I:Inv X pins σ H s)(hg:Gl X x)(hm:X.mg x=none)(hv:bootBuiltins x=some u)(h:Q u s)
  (hn:x≠"__name__":=by decide)(hd:(x==("__debug__":Str))=false:=by decide):wpAny (model X.prog X.w) X.A (eval (.Name x pos) X.env) Q E s:=by
 obtain⟨mb,h1,h2⟩:=I.mod.blt
 exact Calls.Name_function_global I.ok.kind hg (Calls.loadGlobal_builtin (by rw[I.ok.glob];exact I.mod.glob.keeps I.bk) hm (by rw[I.ok.blt];exact h1.keeps I.bk) ((h2 x hn).trans hv) h) hd
theorem HN{x:Str}{v:V}{u:Value}{pos:Pos}(hg:Gl X x)(hm:X.mg x=some u)(r:RelV v u)(hd:(x==("__debug__":Str))=false:=by decide):PE X (.Name x pos) (tC v):=
 λ_ _ _ H _ I h=>uw I hg hm ⟨v,H,I,r,h⟩ hd
theorem cj{x:Str}{v:V}{u:Value}{pos:Pos}(hg:Gl X x)(hm:X.mg x=none)(hv:bootBuiltins x=some u)(r:RelV v u)(hn:x≠"__name__":=by decide)(hd:(x==("__debug__":Str))=false:=by decide):PE X (.Name x pos) (tC v):=
 λ_ _ _ H _ I h=>gR I hg hm hv ⟨v,H,I,r,h⟩ hn hd
variable {a b:Expr} {ta tb:TE} {pos:Pos}
inductive Xn(Q:Bool->Hp->Prop)(x:V)(H1:Hp):Prop
 |mk(c:_):(x=.bl c)->(Q c H1)->Xn Q x H1
def tB(t:TE):TT:=λσ H Q=>t σ H λx H1=>Xn Q x H1
theorem dM{e:Expr}{t:TE}(h:PE X e t)(he:∀whole,isTrue e X.env whole=(do let v ←whole;standAt e.pos;holding [v] (truthy v)):=by intro _;rfl):PT X e (tB t):=by
 intro pins s σ H Q I hw
 refine isTrue_plain (dm (h pins s σ H _ I hw) λv s1 ⟨x,H1,I1,r1,q1⟩=>?_) (he _)
 obtain⟨d,rfl,q⟩:=q1
 cases r1
 exact wpAny_truthy_bool ⟨H1,I1,q⟩
variable {tA SD:TT} {rest:List Expr}
def OU(t u:TT):TT:=λσ H Q=>t σ H λc H1=>if c=true then u σ H1 Q else Q false H1
def ZM(t u:TT):TT:=λσ H Q=>t σ H λc H1=>if c=true then Q true H1 else u σ H1 Q
def Us(t:TT):TT:=λσ H Q=>t σ H λc H1=>Q (!c) H1
theorem iU(ha:PT X a tA):PW X (.BoolOp .And [a] pos) tA:=by
 intro wh pins s σ H Q I h
 refine isTrue_and (dm (ha pins s σ H Q I h) λc s1 e=>?_)
 cases c with
 |true=>exact isTrue_and_nil e
 |false=>exact e
theorem xY(ha:PT X a tA):PW X (.BoolOp .Or [a] pos) tA:=by
 intro wh pins s σ H Q I h
 refine isTrue_or (dm (ha pins s σ H Q I h) λc s1 e=>?_)
 cases c with
 |false=>exact isTrue_or_nil e
 |true=>exact e
theorem jq(ha:PT X a tA)(hb:PW X (.BoolOp .And (b::rest) pos) SD):PW X (.BoolOp .And (a::b::rest) pos) (OU tA SD):=by
 intro wh pins s σ H Q I h
 refine isTrue_and (dm (ha pins s σ H _ I h) λc s1 ⟨H1,I1,q1⟩=>?_)
 cases c with
 |true=>exact hb wh pins s1 σ H1 Q I1 q1
 |false=>exact⟨H1,I1,q1⟩
theorem zW(ha:PT X a tA)(hb:PW X (.BoolOp .Or (b::rest) pos) SD):PW X (.BoolOp .Or (a::b::rest) pos) (ZM tA SD):=by
 intro wh pins s σ H Q I h
 refine isTrue_or (dm (ha pins s σ H _ I h) λc s1 ⟨H1,I1,q1⟩=>?_)
 cases c with
 |true=>exact⟨H1,I1,q1⟩
 |false=>exact hb wh pins s1 σ H1 Q I1 q1
theorem iw(ha:PT X a tA):PT X (.UnaryOp .Not a pos) (Us tA):=by
 intro pins s σ H Q I h
 exact isTrue_not (ha pins s σ H (λc H1=>Q (!c) H1) I h)
inductive Df(tb:TE)(σ:St)(Q:VK)(x:V)(H1:Hp):Prop
 |mk(c:_):(x=.bl c)->(if c=true then tb σ H1 Q else Q (.bl false) H1)->Df tb σ Q x H1
def OT(ta tb:TE):TE:=λσ H Q=>ta σ H λx H1=>Df tb σ Q x H1
inductive CW(Q:VK)(x:V)(H1:Hp):Prop
 |mk(c:_):(x=.bl c)->(Q (.bl (!c)) H1)->CW Q x H1
def OR(ta:TE):TE:=λσ H Q=>ta σ H λx H1=>CW Q x H1
theorem kB{op}{t:TE}(h:PE X a t):PE X (.BoolOp op [a] pos) t:=λpins s σ H Q I hw=>BoolOp_one (h pins s σ H Q I hw)
theorem ju(ha:PE X a ta)(hb:PE X (.BoolOp .And (b::rest) pos) tb):PE X (.BoolOp .And (a::b::rest) pos) (OT ta tb):=by
 intro pins s σ H Q I h
 refine BoolOp_and (dm (ha pins s σ H _ I h) λv s1 ⟨x,H1,I1,r1,q1⟩=>?_)
 obtain⟨c,rfl,q1⟩:=q1
 cases r1
 refine wpAny_truthy_bool ?_
 cases c with
 |true=>exact hb pins s1 σ H1 Q I1 q1
 |false=>exact⟨.bl false,H1,I1,rfl,q1⟩
theorem Ej(ha:PE X a ta):PE X (.UnaryOp .Not a pos) (OR ta):=by
 intro pins s σ H Q I h
 refine UnaryOp_ (dm (ha pins s σ H _ I h) λv s1 ⟨x,H1,I1,r1,q1⟩=>?_)
 obtain⟨c,rfl,q1⟩:=q1
 cases r1
 exact not_of (wpAny_truthy_bool ⟨.bl (!c),H1,I1,rfl,q1⟩)
end
def aZ(K:Fg7)(H:Hp)(a:Addr)(xs:List V):Prop:=
 Rd H a (.lst xs)\/
  ∃(o:Obj) (its:Array Value) (n:Nat),K.lookup a=some o/\o.cls=.type "list"/\o.dict=none/\o.data=.seq its n/\its.size<=sizeLine/\Vals xs its.toList
def bJ(K:Fg7)(H:Hp)(a:Addr)(xs:List V):Prop:=
 Rd H a (.tup xs)\/
  ∃(o:Obj) (its:Array Value) (n:Nat),K.lookup a=some o/\o.cls=.type "tuple"/\o.data=.seq its n/\its.size<=sizeLine/\Vals xs its.toList
def WZ:Value->Option V
 |.none=>some .dR
 |.bool b=>some (.bl b)
 |.int i _=>some (.int i)
 |.str x _=>some (.str x)
 |.bytes b _=>some (.Cz b)
 |.float b _=>some (.Nm b)
 |.ref a=>some (.ref a)
 |.type n=>some (.ty n)
 |_=>none
theorem RelV.abs{x:V}{u:Value}(r:RelV x u):WZ u=some x:=by
 cases x with
 |dR=>cases r;rfl
 |bl _=>cases r;rfl
 |int _=>obtain⟨t,rfl⟩:=r;rfl
 |str _=>obtain⟨t,rfl⟩:=r;rfl
 |Cz _=>obtain⟨t,rfl⟩:=r;rfl
 |Nm _=>obtain⟨t,rfl⟩:=r;rfl
 |ref _=>cases r;rfl
 |ty _=>cases r;rfl
theorem RelV.inj{x y:V}{u:Value}(r:RelV x u)(q:RelV y u):x=y:=Option.some.inj (r.abs.symm.trans q.abs)
theorem Vals.inj:∀{xs ys:List V}{us:List Value},Vals xs us->Vals ys us->xs=ys
 |_,_,_,.nil,.nil=>rfl
 |_,_,_,.cons r t,.cons r' t'=>by rw[r.inj r',Vals.inj t t']
section
variable {X:Cx} {pins:List (Addr×Obj)} {σ:St} {H:Hp} {s:Shared} {a:Addr} {xs ys:List V}
theorem aZ.of{K:Fg7}(h:H a=some (.lst xs)):aZ K H a xs:=.inl (.inl h)
theorem bJ.of{K:Fg7}(h:H a=some (.tup xs)):bJ K H a xs:=.inl (.inl h)
theorem Inv.list(I:Inv X pins σ H s)(h:aZ X.K H a xs):∃its:List Value,Vals xs its/\PlainL s.heap a its.toArray/\xs.length<=sizeLine:=by
 rcases h with h|⟨o,its,n,hk,hc,hd,hs,hz,r⟩
 ·obtain⟨z,its,n,r,e⟩:=h.ok I.hok
  exact⟨its,r,⟨_,n,e,rfl,rfl,rfl⟩,z⟩
 ·refine⟨its.toList,r,⟨o,n,I.mE a o hk,hc,hd,by simpa using hs⟩,?_⟩
  have e:=r.length
  simp only[Array.length_toList]at e
  lia
theorem Inv.tuple(I:Inv X pins σ H s)(h:bJ X.K H a xs):∃its:List Value,Vals xs its/\IsTup s.heap a its.toArray/\xs.length<=sizeLine:=by
 rcases h with h|⟨o,its,n,hk,hc,hs,hz,r⟩
 ·obtain⟨z,its,r,p⟩:=h.ok I.hok
  exact⟨its,r,p,z⟩
 ·refine⟨its.toList,r,⟨o,I.mE a o hk,hc,n,by simpa using hs⟩,?_⟩
  have e:=r.length
  simp only[Array.length_toList]at e
  lia
theorem Inv.wu(I:Inv X pins σ H s)(h:aZ X.K H a xs)(h':aZ X.K H a ys):xs=ys:=by
 obtain⟨its,r,⟨o,n,e,_,_,d⟩,_⟩:=I.list h
 obtain⟨its',r',⟨o',n',e',_,_,d'⟩,_⟩:=I.list h'
 rw[e]at e';cases e'
 rw[d]at d'
 injection d' with d1 _
 have:its=its':=by simpa using congrArg Array.toList d1
 subst this
 exact r.inj r'
theorem Inv.rT(I:Inv X pins σ H s)(h:bJ X.K H a xs)(h':bJ X.K H a ys):xs=ys:=by
 obtain⟨its,r,⟨o,e,_,n,d⟩,_⟩:=I.tuple h
 obtain⟨its',r',⟨o',e',_,n',d'⟩,_⟩:=I.tuple h'
 rw[e]at e';cases e'
 rw[d]at d'
 injection d' with d1 _
 have:its=its':=by simpa using congrArg Array.toList d1
 subst this
 exact r.inj r'
end
abbrev Cx.qe(X:Cx)(E:Value->Shared->Prop):Cx:={X with xe:=E}
abbrev Cx.GF(X:Cx):Cx:=X.qe λ_ _=>False
theorem Cx.Ok.qe{X:Cx}(ok:X.Ok)(E:Value->Shared->Prop):(X.qe E).Ok:=
 ⟨ok.mod,ok.kind,ok.glob,ok.blt,ok.above,ok.inj,ok.has,ok.Ow,ok.hd,ok.frames,ok.stk,ok.Tw,ok.bs,ok.Gf,ok.Br,ok.BW,ok.nU,ok.KU⟩
theorem Cx.Ok.jk{X:Cx}{E:Value->Shared->Prop}(ok:(X.qe E).Ok):X.Ok:=
 ⟨ok.mod,ok.kind,ok.glob,ok.blt,ok.above,ok.inj,ok.has,ok.Ow,ok.hd,ok.frames,ok.stk,ok.Tw,ok.bs,ok.Gf,ok.Br,ok.BW,ok.nU,ok.KU⟩
section
variable {X:Cx} {pins:List (Addr×Obj)} {σ:St} {H:Hp} {s:Shared} {E:Value->Shared->Prop}
theorem Inv.qe(I:Inv X pins σ H s)(E:Value->Shared->Prop):Inv (X.qe E) pins σ H s:=⟨I.ok.qe E,I.os,I.bare,I.base,I.loc,I.cell,I.free,I.gx,I.pin,I.hok,I.len⟩
theorem Inv.jk(I:Inv (X.qe E) pins σ H s):Inv X pins σ H s:=⟨I.ok.jk,I.os,I.bare,I.base,I.loc,I.cell,I.free,I.gx,I.pin,I.hok,I.len⟩
theorem SP.jk{D:Ends}{f:Flow}{s':Shared}(h:SP (X.qe E) pins D f s'):SP X pins D f s':=by
 cases f with
 |next=>obtain⟨σ',H',I,q⟩:=h;exact⟨σ',H',I.jk,q⟩
 |brk=>obtain⟨σ',H',I,q⟩:=h;exact⟨σ',H',I.jk,q⟩
 |cont=>obtain⟨σ',H',I,q⟩:=h;exact⟨σ',H',I.jk,q⟩
 |ret u=>obtain⟨v,σ',H',I,r,q⟩:=h;exact⟨v,σ',H',I.jk,r,q⟩
theorem uS.GF{st:List Stmt}{t:TS}(h:uS X.GF st t):uS X st t:=λpins s σ H D I hw=>
 wpAny_mono (h pins s σ H D (I.qe _) hw) (λ_ _ q=>q.jk) λ_ _ z=>False.elim z
end
section
variable {X:Cx} {st:Stmt} {rest:List Stmt} {t u:TS} {e:Expr} {te:TE} {pos:Pos}
def CY:TS:=λD σ H=>D.nx σ H
def OP(t u:TS):TS:=λD σ H=>t {D with nx:=u D} σ H
theorem aT:uS X [] CY:=λ_ _ σ H _ I h=>wpAny_execs_nil ⟨σ,H,I,h⟩
theorem aq(h1:PS X st t)(h2:uS X rest u):uS X (st::rest) (OP t u):=by
 intro pins s σ H D I h
 refine wpAny_execs_cons (dm (h1 pins s σ H {D with nx:=u D} I h) λf s1 q=>?_)
 cases f with
 |next=>
  obtain⟨σ',H',I',q⟩:=q
  exact h2 pins s1 σ' H' D I' q
 |ret v=>exact q
 |brk=>exact q
 |cont=>exact q
theorem aA(h1:PS X st t):uS X [st] t:=by
 intro pins s σ H D I h
 refine wpAny_execs_cons (dm (h1 pins s σ H D I h) λf s1 q=>?_)
 cases f with
 |next=>exact wpAny_execs_nil q
 |ret v=>exact q
 |brk=>exact q
 |cont=>exact q
theorem Inv.quiet{pins:List (Addr×Obj)}{σ:St}{H:Hp}{s:Shared}(I:Inv X pins σ H s):interactive X.env=false:=by simp[interactive,I.ok.kind]
def JE(te:TE):TS:=λD σ H=>te σ H λ_ H1=>D.nx σ H1
theorem HH(he:PE X e te)(hs:swapsWith e none pos.line X.env=pure false:=by rfl):PS X (.Expr e pos) (JE te):=by
 intro pins s σ H D I h
 exact wpAny_Expr_any (dm (he pins s σ H _ I h) λv s1 ⟨x,H1,I1,r1,q1⟩=>⟨σ,H1,I1,q1⟩) I.quiet hs
def Ur(te:TE):TS:=λD σ H=>te σ H D.rt
theorem aL(he:PE X e te):PS X (.Return (some e) pos) (Ur te):=by
 intro pins s σ H D I h
 exact wpAny_Return_some (dm (he pins s σ H _ I h) λv s1 ⟨x,H1,I1,r1,q1⟩=>⟨x,σ,H1,I1,r1,q1⟩)
def Uu(c:TT)(t u:TS):TS:=λD σ H=>c σ H λb H1=>if b=true then t D σ H1 else u D σ H1
theorem b_{c:Expr}{a b:List Stmt}{tc:TT}(hc:PT X c tc)(ha:uS X a t)(hb:uS X b u):PS X (.If c a b pos) (Uu tc t u):=by
 intro pins s σ H D I h
 refine wpAny_If (dm (hc pins s σ H _ I h) λd s1 ⟨H1,I1,q1⟩=>?_)
 cases d with
 |true=>exact ha pins s1 σ H1 D I1 q1
 |false=>exact hb pins s1 σ H1 D I1 q1
def Ll:TS:=λ_ _ _=>False
theorem jr:PS X st Ll:=λ_ _ _ _ _ _ h=>h.elim
end
abbrev TG:=V->St->Hp->(St->Hp->Prop)->Prop
abbrev GJ:=List V->St->Hp->(St->Hp->Prop)->Prop
def PG(X:Cx)(target:Expr)(t:TG):Prop:=
 ∀(pins:List (Addr×Obj))(s:Shared)(σ:St)(H:Hp)(v:V)(u:Value)(Q:St->Hp->Prop),Inv X pins σ H s->RelV v u->t v σ H Q->
  wpAny (model X.prog X.w) X.A (assign target X.env u) (λ_ s'=>∃σ' H',Inv X pins σ' H' s'/\Q σ' H') X.xe s
def Ox(X:Cx)(ts:List Expr)(t:GJ):Prop:=
 ∀(pins:List (Addr×Obj))(s:Shared)(σ:St)(H:Hp)(vs:List V)(us:List Value)(Q:St->Hp->Prop),Inv X pins σ H s->Vals vs us->t vs σ H Q->
  wpAny (model X.prog X.w) X.A (assignInOrder ((assignEach ts X.env).map (·.2)) us) (λ_ s'=>∃σ' H',Inv X pins σ' H' s'/\Q σ' H') X.xe s
abbrev iO:=V->V->V->Hp->(Hp->Prop)->Prop
def NZ(X:Cx)(t:iO):Prop:=
 ∀(pins:List (Addr×Obj))(s:Shared)(σ:St)(H:Hp)(o i v:V)(ov iv u:Value)(Q:Hp->Prop),Inv X pins σ H s->RelV o ov->RelV i iv->RelV v u->t o i v H Q->
  wpAny (model X.prog X.w) X.A (setItem ov iv u) (λ_ s'=>∃H',Inv X pins σ H' s'/\Q H') X.xe s
section
variable {X:Cx} {pos:Pos}
def dU(i:Nat):TG:=λv σ H Q=>Q (σ.set i (some v)) H
theorem aQ{i:Nat}{x:Str}(hN:X.N.Nodup)(hi:X.N[i]? = some x)(hx:Loc X.env.scope x)(hf:X.fn x=true\/X.env.scope.names.lookup x=some .local:=by first|exact .inl rfl|exact .inr rfl|assumption):PG X (.Name x pos) (dU i):=by
 intro pins s σ H v u Q I r h
 exact wpAny_assign_Name (vm I hN hi hx r (λs' I'=>⟨_,H,I',h⟩) hf)
def Wz:GJ:=λvs σ H Q=>vs=[]/\Q σ H
inductive FA(t:TG)(u:GJ)(vs:List V)(σ:St)(H:Hp)(Q:St->Hp->Prop):Prop
 |mk(v:_)(r:_):(vs=v::r)->(t v σ H λσ' H'=>u r σ' H' Q)->FA t u vs σ H Q
def RA(t:TG)(u:GJ):GJ:=λvs σ H Q=>FA t u vs σ H Q
theorem zZ:Ox X [] Wz:=by
 intro pins s σ H vs us Q I r h
 obtain⟨e,h⟩:=h
 subst e
 cases r
 exact assignInOrder_nil ⟨σ,H,I,h⟩
theorem lV{e:Expr}{es:List Expr}{t:TG}{u:GJ}(h1:PG X e t)(h2:Ox X es u)
  (hs:(assignEach (e::es) X.env).map (·.2)=assign e X.env::(assignEach es X.env).map (·.2):=by rfl):Ox X (e::es) (RA t u):=by
 intro pins s σ H vs us Q I r h
 obtain⟨v,vr,e1,h⟩:=h
 subst e1
 cases r with
 |cons r rr=>
  rw[hs]
  refine assignInOrder_cons (dm (h1 pins s σ H _ _ _ I r h) λ_ s1 ⟨σ1,H1,I1,q1⟩=>?_)
  exact h2 pins s1 σ1 H1 _ _ Q I1 rr q1
inductive KS(K:Fg7)(n:Nat)(t:GJ)(v:V)(σ:St)(H:Hp)(Q:St->Hp->Prop):Prop
 |mk(a:_)(xs:_):(v=.ref a)->(bJ K H a xs)->(xs.length=n)->(t xs σ H Q)->KS K n t v σ H Q
def Rz(K:Fg7)(n:Nat)(t:GJ):TG:=λv σ H Q=>KS K n t v σ H Q
theorem LP{es:List Expr}{k:Nat}{t:GJ}{n:Nat}(hc:X.calm=true)(h:Ox X es t)
  (hn:(assignEach es X.env).length=n:=by rfl)(hst:(assignEach es X.env).findIdx? (·.1)=none:=by rfl):PG X (.Tuple es k pos) (Rz X.K n t):=by
 intro pins s σ H v u Q I r hw
 obtain⟨a,xs,e1,hq,hl,hw⟩:=hw
 subst e1
 cases r
 obtain⟨its,rv,ht,hz⟩:=I.tuple hq
 refine assign_Tuple_tuple (I.ok.hd hc) ht (by simp[hn,←hl,rv.length]) hst λh' hx=>?_
 have I1:Inv X pins σ H {s with heap:=h'}:=I.kept (t':=s.toks) λb o e=>hx b o (Nat.ne_of_lt (Heap.lt_size e)) e
 exact h pins _ σ H xs _ Q I1 (by simpa using rv) hw
def Wy(to ti:TE)(t:iO):TG:=λv σ H Q=>to σ H λo H1=>ti σ H1 λi H2=>t o i v H2 λH3=>Q σ H3
theorem LQ{o i:Expr}{to ti:TE}{t:iO}(ho:PE X o to)(hi:PE X i ti)(hs:NZ X t)
  (ha:∀v,assign (.Subscript o i pos) X.env v=(do
   let ov ←holding [v] (eval o X.env)
   let iv ←holding [v,ov] (eval i X.env)
   standAt pos
   holding [v,ov,iv] (setItem ov iv v)
   release [v,ov,iv] []):=by intro _;rfl):PG X (.Subscript o i pos) (Wy to ti t):=by
 intro pins s σ H v u Q I r h
 rw[ha]
 refine wpAny_bind (wpAny_holding (dm (ho pins s σ H _ I h) λov s1 ⟨x,H1,I1,r1,q1⟩=>?_))
 refine wpAny_bind (wpAny_holding (dm (hi pins s1 σ H1 _ I1 q1) λiv s2 ⟨y,H2,I2,r2,q2⟩=>?_))
 refine wpAny_bind (wpAny_standAt (wpAny_bind (wpAny_holding (dm (hs pins s2 σ H2 x y v ov iv u _ I2 r1 r2 r q2) λ_ s3 ⟨H3,I3,q3⟩=>?_))))
 exact wpAny_release ⟨σ,H3,I3,q3⟩
def G_(te:TE)(g:TG):TS:=λD σ H=>te σ H λx H1=>g x σ H1 D.nx
theorem LL{tg e:Expr}{te:TE}{g:TG}(he:PE X e te)(hg:PG X tg g)(hs:swapsWithSole [tg] e pos.line X.env=pure false:=by rfl)(hw:swappedStores [tg] e X.env=pure none:=by rfl)
  (h1:(assignEach [tg] X.env).map (·.2)=[assign tg X.env]:=by rfl):PS X (.Assign [tg] e pos) (G_ te g):=by
 intro pins s σ H D I h
 refine wpAny_Assign_stores (dm (he pins s σ H _ I h) λv s1 ⟨x,H1,I1,r1,q1⟩=>?_) hs hw
 rw[h1]
 exact dm (hg pins s1 σ H1 x v _ I1 r1 q1) λ_ s2 q=>q
theorem Eg{i:Nat}{x:Str}{e:Expr}{te:TE}{pos':Pos}(hN:X.N.Nodup)(hi:X.N[i]? = some x)(hx:Loc X.env.scope x)(he:PE X e te)(hs:swapsWith e (some (.Name x pos')) pos.line X.env=pure false:=by rfl)(hf:X.fn x=true\/X.env.scope.names.lookup x=some .local:=by first|exact .inl rfl|exact .inr rfl|assumption):
  PS X (.Assign [.Name x pos'] e pos) (G_ te (dU i)):=by
 intro pins s σ H D I h
 refine wpAny_Assign_Name (dm (he pins s σ H _ I h) λv s1 ⟨y,H1,I1,r1,q1⟩=>?_) hs
 exact vm I1 hN hi hx r1 (λs2 I2=>⟨_,H1,I2,q1⟩) hf
end
section
variable {X:Cx} {pos:Pos}
end
structure It where
 go:Nat->Hp->Prop
 CD:Nat->Hp->V->Hp->Prop
 stop:Nat->Hp->Prop
def fV(X:Cx)(pins:List (Addr×Obj))(H:Hp)(b:Addr):Prop:=
 H b=none/\b≠X.env.locals/\b∉X.fs/\(b∈X.ex\/X.s₀.heap.objs.size<=b)/\(∀x c,X.env.cells.lookup x=some c->c≠b)/\∀p∈X.pn++pins,p.1≠b
theorem Inv.qH{X:Cx}{pins:List (Addr×Obj)}{σ:St}{H H':Hp}{s:Shared}{b:Addr}(I:Inv X pins σ H s)(hb:s.heap.objs.size<=b)(hn:H' b=none):fV X pins H' b:=by
 refine⟨hn,Nat.ne_of_gt (Nat.lt_of_lt_of_le I.lt hb),I.UY hb,.inr (Nat.le_trans I.sz hb),λx c e z=>?_,λp hp z=>?_⟩
 ·obtain⟨v,q⟩:=I.cell x c e
  exact absurd (Nat.lt_of_lt_of_le q.lt (by rw[z];exact hb)) (Nat.lt_irrefl _)
 ·exact absurd (Nat.lt_of_lt_of_le (Heap.lt_size (I.pin p hp).1) (by rw[z];exact hb)) (Nat.lt_irrefl _)
structure Turn(P:Program)(w:World)(K:Fg7)(tg:Expr)(J:It)(fp:List Addr)(it:Addr)(tn:Nat->Heap->Prop):Prop where
 mem:it∈fp
 obj:∀i h,tn i h->∀b∈fp,∃o,h.get? b=some o/\∀v,o.data≠.cell v
 keep:∀i h h',tn i h->(∀b∈fp,∀o,h.get? b=some o->h'.get? b=some o)->tn i h'
 item:∀(X:Cx),X.prog=P->X.w=w->X.K=K->X.calm=true->∀(i:Nat)(pins:List (Addr×Obj))(s:Shared)(σ:St)(H:Hp)(E:Value->Shared->Prop),Inv X pins σ H s->(∀b∈fp,fV X pins H b)->tn i s.heap->J.go i H->
  wpAny (model P w) X.A (pyNext (.ref it)) (λr s1=>∃u,r=some u/\
   wpAny (model P w) X.A (letOwnedTupleGo tg (.ref it) u) (λ_ s2=>∃x H',Inv X pins σ H' s2/\RelV x u/\J.CD i H x H'/\tn (i+1) s2.heap/\∀b∈fp,H' b=none) E s1) E s
 done:∀(X:Cx),X.prog=P->X.w=w->X.K=K->X.calm=true->∀(i:Nat)(pins:List (Addr×Obj))(s:Shared)(σ:St)(H:Hp)(E:Value->Shared->Prop),Inv X pins σ H s->(∀b∈fp,fV X pins H b)->tn i s.heap->J.stop i H->
  wpAny (model P w) X.A (pyNext (.ref it)) (λr s1=>r=none/\Inv X pins σ H s1) E s
 self:∀(A:Around)(i:Nat)(s:Shared)(Q:Value->Shared->Prop)(E:Value->Shared->Prop),tn i s.heap->Q (.ref it) s->wpAny (model P w) A (pyIter (.ref it)) Q E s
abbrev TI:=St->Hp->(It->Hp->Prop)->Prop
inductive TR(X:Cx)(pins:List (Addr×Obj))(σ:St)(tg:Expr)(R:It->Hp->Prop)(itv:Value)(s2:Shared):Prop
 |mk(it:Addr)(fp:List Addr)(tn:Nat->Heap->Prop)(J:It)(H':Hp):(itv=.ref it)->(Inv X pins σ H' s2)->(Turn X.prog X.w X.K tg J fp it tn)->(tn 0 s2.heap)->((∀b∈fp,fV X pins H' b))->(R J H')->TR X pins σ tg R itv s2
def PI(X:Cx)(tg iter:Expr)(wi:TI):Prop:=
 ∀(pins:List (Addr×Obj))(s:Shared)(σ:St)(H:Hp)(R:It->Hp->Prop),Inv X pins σ H s->wi σ H R->
  wpAny (model X.prog X.w) X.A (eval iter X.env) (λv s1=>wpAny (model X.prog X.w) X.A (pyIter v) (TR X pins σ tg R) X.xe s1) X.xe s
theorem sV{M:Model}{A:Around}{E:Value->Shared->Prop}{s:Shared}{tg:Expr}{it:Addr}{u:Value}{o:Obj}{n:String}{vs:Array Value}{Q:Unit->Shared->Prop}(ho:s.heap.get? it=some o)(hc:o.cls=.type n)(hd:o.data=.fields vs)
    (hn:["enumerate","zip","dict_itemiterator","dict_reverseitemiterator","odict_iterator","itertools.zip_longest","itertools.pairwise"].contains n=false)(hQ:Q () s):wpAny M A (letOwnedTupleGo tg (.ref it) u) Q E s:=by
  unfold letOwnedTupleGo
  cases tg<;>first
    |exact wpAny_pure hQ
    |(cases u<;>first
        |exact wpAny_pure hQ
        |(refine wpAny_bind (wpAny_load ho ?_)
          rw[hc,hd]
          show wpAny M A (if(["enumerate","zip","dict_itemiterator","dict_reverseitemiterator","odict_iterator","itertools.zip_longest","itertools.pairwise"].contains n&&vs[0]? == some (rawInt _))=true then _ else _) Q E s
          rw[if_neg (by intro h;rw[hn,Bool.false_and]at h;cases h)]
          exact wpAny_pure hQ))
def Jp(K:Fg7)(a:Addr):It:=
 ⟨λi H=>∃xs x,aZ K H a xs/\xs[i]? = some x,λi H x H'=>H'=H/\∀xs,aZ K H a xs->xs[i]? = some x,λi H=>∃xs,aZ K H a xs/\xs.length<=i⟩
def Sk(K:Fg7)(a:Addr):It:=
 ⟨λi H=>∃xs x,bJ K H a xs/\xs[i]? = some x,λi H x H'=>H'=H/\∀xs,bJ K H a xs->xs[i]? = some x,λi H=>∃xs,bJ K H a xs/\xs.length<=i⟩
def Oz(lo:Int)(n:Nat):It:=⟨λi _=>i<n,λi H x H'=>H'=H/\x=.int (lo+i),λi _=>n<=i⟩
theorem AO{P:Program}{w:World}{K:Fg7}{tg:Expr}(a it:Addr):Turn P w K tg (Jp K a) [it] it (λi h=>h.IsListIter it a i)where
 mem:=by simp
 obj:=λi h st b hb=>by
  have e:b=it:=by simpa using hb
  subst e
  obtain⟨o,e,c,d⟩:=st
  exact⟨o,e,λv z=>by rw[d]at z;cases z⟩
 keep:=λi h h' st k=>st.at λo e=>k it (by simp) o e
 item:=by
  intro X hP hw hK hc i pins s σ H E I hf st hg
  subst hP hw hK
  obtain⟨xs,x,hq,hx⟩:=hg
  obtain⟨its,rv,p,hz⟩:=I.list hq
  obtain⟨u,hu,ru⟩:=rv.get hx
  obtain⟨f0,f1,f2,f3,f4,f5⟩:=hf it (by simp)
  refine wpAny_pyNext_list_item st p.isList (x:=u) (by simpa using hu) λh' st' sb=>?_
  have I1:Inv X pins σ H {s with heap:=h'}:=I.turned (t':=s.toks) (λb o hb e=>(sb.2 b hb).trans e) f0 f1 f3 f4 f5
  obtain⟨o,e,c,d⟩:=id st'
  exact⟨u,rfl,sV (s:={s with heap:=h'}) e c d (by decide) ⟨x,H,I1,ru,⟨rfl,λys hy=>by rw[I.wu hy hq];exact hx⟩,st',λb hb=>(hf b hb).1⟩⟩
 done:=by
  intro X hP hw hK hc i pins s σ H E I hf st hg
  subst hP hw hK
  obtain⟨xs,hq,hx⟩:=hg
  obtain⟨its,rv,p,hz⟩:=I.list hq
  obtain⟨f0,f1,f2,f3,f4,f5⟩:=hf it (by simp)
  have hl:=rv.length
  exact wpAny_pyNext_list_end (I.ok.hd hc) st p.isList (by simp;lia) λh' eb=>⟨rfl,I.turned (t':=s.toks) (λb o hb e=>eb b o hb e) f0 f1 f3 f4 f5⟩
 self:=λ_ _ _ _ _ st h=>wpAny_pyIter_listiter st h
theorem xE{P:Program}{w:World}{K:Fg7}{tg:Expr}(a it:Addr):Turn P w K tg (Sk K a) [it] it (λi h=>h.IsTupleIter it a i)where
 mem:=by simp
 obj:=λi h st b hb=>by
  have e:b=it:=by simpa using hb
  subst e
  obtain⟨o,e,c,d⟩:=st
  exact⟨o,e,λv z=>by rw[d]at z;cases z⟩
 keep:=λi h h' st k=>st.at λo e=>k it (by simp) o e
 item:=by
  intro X hP hw hK hc i pins s σ H E I hf st hg
  subst hP hw hK
  obtain⟨xs,x,hq,hx⟩:=hg
  obtain⟨its,rv,p,hz⟩:=I.tuple hq
  obtain⟨u,hu,ru⟩:=rv.get hx
  obtain⟨f0,f1,f2,f3,f4,f5⟩:=hf it (by simp)
  refine wpAny_pyNext_tuple_item st (show s.heap.IsTuple a its.toArray from p) (x:=u) (by simpa using hu) λh' st' sb=>?_
  have I1:Inv X pins σ H {s with heap:=h'}:=I.turned (t':=s.toks) (λb o hb e=>(sb.2 b hb).trans e) f0 f1 f3 f4 f5
  obtain⟨o,e,c,d⟩:=id st'
  exact⟨u,rfl,sV (s:={s with heap:=h'}) e c d (by decide) ⟨x,H,I1,ru,⟨rfl,λys hy=>by rw[I.rT hy hq];exact hx⟩,st',λb hb=>(hf b hb).1⟩⟩
 done:=by
  intro X hP hw hK hc i pins s σ H E I hf st hg
  subst hP hw hK
  obtain⟨xs,hq,hx⟩:=hg
  obtain⟨its,rv,p,hz⟩:=I.tuple hq
  obtain⟨f0,f1,f2,f3,f4,f5⟩:=hf it (by simp)
  have hl:=rv.length
  exact wpAny_pyNext_tuple_end (I.ok.hd hc) st (show s.heap.IsTuple a its.toArray from p) (by simp;lia) λh' eb=>⟨rfl,I.turned (t':=s.toks) (λb o hb e=>eb b o hb e) f0 f1 f3 f4 f5⟩
 self:=λ_ _ _ _ _ st h=>wpAny_pyIter_tupleiter st h
theorem xF{P:Program}{w:World}{K:Fg7}{tg:Expr}(it:Addr)(lo:Int)(n:Nat):Turn P w K tg (Oz lo n) [it] it (λi h=>IsRangeIter h it (lo+(i:Nat)*1) ((n:Int)-(i:Nat)) 1)where
 mem:=by simp
 obj:=λi h st b hb=>by
  have e:b=it:=by simpa using hb
  subst e
  exact⟨_,st,λv z=>by
   have z':Data.fields _=Data.cell v:=z
   cases z'⟩
 keep:=λi h h' st k=>k it (by simp) _ st
 item:=by
  intro X hP hw hK hc i pins s σ H E I hf st hg
  subst hP hw hK
  obtain⟨f0,f1,f2,f3,f4,f5⟩:=hf it (by simp)
  have W:=Walks.range (prog:=X.prog) (w:=X.w) (I.ok.hd hc) it lo 1 n
  refine W.item i s _ _ hg st λv h' tk hv st' kk=>?_
  obtain⟨t,rfl⟩:=hv
  have I1:Inv X pins σ H {s with heap:=h',toks:=tk}:=I.turned (λb o hb e=>kk b o (by simpa using hb) e) f0 f1 f3 f4 f5
  refine⟨_,rfl,sV (s:={s with heap:=h',toks:=tk}) (n:="range_iterator") st' rfl rfl (by decide) ⟨.int (lo+i),H,I1,⟨t,?_⟩,⟨rfl,rfl⟩,st',λb hb=>(hf b hb).1⟩⟩
  rw[Int.mul_one]
 done:=by
  intro X hP hw hK hc i pins s σ H E I hf st hg
  subst hP hw hK
  obtain⟨f0,f1,f2,f3,f4,f5⟩:=hf it (by simp)
  exact wpAny_pyNext_range_end (I.ok.hd hc) st (by have:n<=i:=hg;lia) λh' eb=>⟨rfl,I.turned (t':=s.toks) (λb o hb e=>eb b o hb e) f0 f1 f3 f4 f5⟩
 self:=λ_ _ _ _ _ st h=>wpAny_pyIter_rangeiter st h
section
variable {X:Cx} {tg:Expr}
inductive Ff(K:Fg7)(R:It->Hp->Prop)(x:V)(H1:Hp):Prop
 |mk(a:_):(x=.ref a)->((∃xs,aZ K H1 a xs))->(R (Jp K a) H1)->Ff K R x H1
def Qx(K:Fg7)(tl:TE):TI:=λσ H R=>tl σ H λx H1=>Ff K R x H1
inductive Kv(K:Fg7)(R:It->Hp->Prop)(x:V)(H1:Hp):Prop
 |mk(a:_):(x=.ref a)->((∃xs,bJ K H1 a xs))->(R (Sk K a) H1)->Kv K R x H1
def VD(K:Fg7)(tl:TE):TI:=λσ H R=>tl σ H λx H1=>Kv K R x H1
theorem bL{l:Expr}{tl:TE}(hl:PE X l tl):PI X tg l (Qx X.K tl):=by
 intro pins s σ H R I h
 refine dm (hl pins s σ H _ I h) λv s1 ⟨x,H1,I1,r1,q1⟩=>?_
 obtain⟨a,e,⟨xs,hq⟩,q⟩:=q1
 subst e
 cases r1
 obtain⟨its,rv,p,hz⟩:=I1.list hq
 refine wpAny_pyIter_list p.isList ?_
 refine⟨s1.heap.objs.size,[s1.heap.objs.size],_,_,H1,rfl,I1.kept (t':=s1.toks) λb o e=>Heap.get?_push_of_some _ e,AO a _,⟨_,Heap.get?_push_size _ rfl,rfl,rfl⟩,λb hb=>?_,q⟩
 have e:b=s1.heap.objs.size:=by simpa using hb
 subst e
 exact I1.qH (Nat.le_refl _) (I1.hok.fresh (Nat.le_refl _))
theorem LO{l:Expr}{tl:TE}(hl:PE X l tl):PI X tg l (VD X.K tl):=by
 intro pins s σ H R I h
 refine dm (hl pins s σ H _ I h) λv s1 ⟨x,H1,I1,r1,q1⟩=>?_
 obtain⟨a,e,⟨xs,hq⟩,q⟩:=q1
 subst e
 cases r1
 obtain⟨its,rv,p,hz⟩:=I1.tuple hq
 refine wpAny_pyIter_tuple (show s1.heap.IsTuple a its.toArray from p) ?_
 refine⟨s1.heap.objs.size,[s1.heap.objs.size],_,_,H1,rfl,I1.kept (t':=s1.toks) λb o e=>Heap.get?_push_of_some _ e,xE a _,⟨_,Heap.get?_push_size _ rfl,rfl,rfl⟩,λb hb=>?_,q⟩
 have e:b=s1.heap.objs.size:=by simpa using hb
 subst e
 exact I1.qH (Nat.le_refl _) (I1.hok.fresh (Nat.le_refl _))
theorem DZ{pins:List (Addr×Obj)}{σ:St}{H:Hp}{s:Shared}{R:It->Hp->Prop}{E:Value->Shared->Prop}{lo hi:Int}{t u v:Tok}{tk:Nat}(I:Inv X pins σ H s)(h1: -(2^62)<=lo)(h2:lo<2^62)(h3: -(2^62)<=hi)(h4:hi<2^62)
  (q:R (Oz lo (hi-lo).toNat) H):wpAny (model X.prog X.w) X.A (pyIter (.ref s.heap.objs.size)) (TR X pins σ tg R) E {s with heap:=s.heap.push {cls:=.type "range",data:=.fields #[.int lo t,.int hi u,.int 1 v]},toks:=tk}:=by
 refine wpAny_pyIter_range (IsRange.new ..) (small_one h1 h2 h3 h4) ?_
 have I1:Inv X pins σ H {s with heap:=s.heap.push {cls:=.type "range",data:=.fields #[.int lo t,.int hi u,.int 1 v]},toks:=tk}:=I.kept λb o e=>Heap.get?_push_of_some _ e
 refine⟨(s.heap.push {cls:=.type "range",data:=.fields #[.int lo t,.int hi u,.int 1 v]}).objs.size,[(s.heap.push {cls:=.type "range",data:=.fields #[.int lo t,.int hi u,.int 1 v]}).objs.size],_,_,H,rfl,
  I1.kept (t':=tk) λb o e=>Heap.get?_push_of_some _ e,xF _ lo (hi-lo).toNat,?_,λb hb=>?_,q⟩
 ·have e1:lo+((0:Nat):Int)*1=lo:=by simp
  have e2:(((hi-lo).toNat:Nat):Int)-((0:Nat):Int)=Builtin.Range.rangeSize lo hi 1:=by rw[rangeSize_one];split<;>lia
  show IsRangeIter _ _ (lo+((0:Nat):Int)*1) ((((hi-lo).toNat:Nat):Int)-((0:Nat):Int)) 1
  rw[e1,e2]
  exact Heap.get?_push_size _ rfl
 ·have e:b=(s.heap.push {cls:=.type "range",data:=.fields #[.int lo t,.int hi u,.int 1 v]}).objs.size:=by simpa using hb
  subst e
  exact I1.qH (Nat.le_refl _) (I1.hok.fresh (Nat.le_refl _))
inductive Fe(R:It->Hp->Prop)(vs:List V)(H1:Hp):Prop
 |mk(j:Int):(vs=[.int j])->(-(2^62)<=j)->(j<2^62)->(R (Oz 0 j.toNat) H1)->Fe R vs H1
def Qw(ta:TA):TI:=λσ H R=>ta σ H λvs H1=>Fe R vs H1
theorem jG{a:Expr}{ta:TA}{p pos:Pos}(hg:Gl X "range")(hm:X.mg "range"=none)(ha:PA X [a] ta)(hs:starEach [a] X.env=[(false,eval a X.env)]:=by rfl):PI X tg (.Call (.Name "range" p) [a] [] pos) (Qw ta):=by
 intro pins s σ H R I h
 refine Call_ (gR I hg hm boot_range (PyProof.Rows.callWith_type1 (dm (ha pos pins s σ H _ I h) λus s1 ⟨vs,H1,I1,r1,q1⟩=>?_) hs rfl))
 obtain⟨j,e,q1,q2,q⟩:=q1
 subst e
 cases r1 with
 |cons r rr=>
  cases rr
  obtain⟨t,rfl⟩:=r
  exact call_range_1 (DZ I1 LI LI q1 q2 (by simpa using q))
def Uv(wi:TI)(g:TG)(tb:TS):TS:=λD σ H=>wi σ H λJ H1=>∃W:Nat->Nat->St->Hp->Prop,(∃m,W 0 m σ H1)/\∀i m σ H,W i m σ H->
 (J.stop i H/\D.nx σ H)\/(J.go i H/\∃N:St->Hp->Prop,(∀σ' H',N σ' H'->∃m',m'<m/\W (i+1) m' σ' H')/\∀x H',J.CD i H x H'->g x σ H' λσ2 H2=>tb {D with nx:=N,ct:=N,bk:=D.nx} σ2 H2)
def kr(fp:List Addr)(h:Heap):List (Addr×Obj):=fp.filterMap λb=>(h.get? b).map λo=>(b,o)
theorem fO{fp:List Addr}{h:Heap}{b:Addr}{o:Obj}(hb:b∈fp)(e:h.get? b=some o):(b,o)∈kr fp h:=List.mem_filterMap.mpr ⟨b,hb,by rw[e];rfl⟩
theorem Bp{fp:List Addr}{h:Heap}{p:Addr×Obj}(hp:p∈kr fp h):p.1∈fp/\h.get? p.1=some p.2:=by
 obtain⟨b,hb,e⟩:=List.mem_filterMap.mp hp
 cases q:h.get? b with
 |none=>rw[q]at e;cases e
 |some o=>
  rw[q]at e
  have e':(b,o)=p:=Option.some.inj e
  subst e'
  exact⟨hb,q⟩
theorem Inv.pinned{pins:List (Addr×Obj)}{σ:St}{H:Hp}{s:Shared}{fp:List Addr}(I:Inv X pins σ H s)(hf:∀b∈fp,fV X pins H b)(ho:∀b∈fp,∃o,s.heap.get? b=some o/\∀v,o.data≠.cell v):Inv X (pins++kr fp s.heap) σ H s:=
 I.zY λp hp=>(List.mem_append.mp hp).elim (λz=>I.pin p (List.mem_append_right _ z)) λz=>by
  obtain⟨hb,e⟩:=Bp z
  obtain⟨f0,f1,f2,_⟩:=hf p.1 hb
  obtain⟨o,e',d⟩:=ho p.1 hb
  rw[e]at e';cases e'
  exact⟨e,f0,f1,f2,d⟩
theorem Inv.iG{pins pl:List (Addr×Obj)}{σ:St}{H:Hp}{s:Shared}(I:Inv X (pins++pl) σ H s):Inv X pins σ H s:=I.zY λp hp=>I.pin p (List.mem_append_right _ (List.mem_append_left _ hp))
theorem eT{iter:Expr}{body:List Stmt}{wi:TI}{g:TG}{tb:TS}{pos:Pos}(hp:PassesOwn (model X.prog X.w) X.A X.env X.xe)(hc:X.calm=true)(hi:PI X tg iter wi)(hg:PG X tg g)(hb:uS X body tb)
  (hs:∀x,foldedSetIterable iter X.env x=pure x:=by intro _;rfl):PS X (.For tg iter body [] pos) (Uv wi g tb):=by
 intro pins s σ H D I h
 refine wpAny_For (dm (hi pins s σ H _ I h) λv s1 h1=>dm h1 λitv s2 h2=>?_) hs
 obtain⟨it,fp,tn,J,H2,e,I2,T,st2,f2,W,⟨m0,w0⟩,turn⟩:=h2
 subst e
 have xJ:∀{H':Hp},(∀b∈fp,H' b=none)->∀b∈fp,fV X pins H' b:=λhn b hb=>⟨hn b hb,(f2 b hb).2⟩
 refine codeAny_forLoop_any (λn s'=>∃i σ' H',Inv X pins σ' H' s'/\tn i s'.heap/\(∀b∈fp,H' b=none)/\W i n σ' H') ?_ m0 ⟨0,σ,H2,I2,st2,λb hb=>(f2 b hb).1,w0⟩
 rintro n s3 ⟨i,σ3,H3,I3,st3,YU,w3⟩
 rcases turn i n σ3 H3 w3 with⟨stop,qn⟩|⟨go,N,hN,step⟩
 ·refine wpAny_passesOwn hp (dm (T.done X rfl rfl rfl hc i pins s3 σ3 H3 X.xe I3 (xJ YU) st3 stop) λr s4 ⟨hr,I4⟩=>?_)
  subst hr
  exact wpAny_execs_nil ⟨σ3,H3,I4,qn⟩
 ·refine wpAny_passesOwn hp (dm (T.item X rfl rfl rfl hc i pins s3 σ3 H3 X.xe I3 (xJ YU) st3 go) λr s4 ⟨u,hr,h4⟩=>?_)
  subst hr
  refine wpAny_passesOwn hp (dm h4 λ_ s5 ⟨x,H5,I5,r5,y5,Oc,Tv⟩=>?_)
  have I5':=I5.pinned (xJ Tv) (T.obj _ _ Oc)
  refine wpAny_passesOwn hp (dm (hg _ s5 σ3 H5 x u _ I5' r5 (step x H5 y5)) λ_ s6 ⟨σ6,H6,I6,q6⟩=>?_)
  refine wpAny_passesOwn hp (dm (hb _ s6 σ6 H6 _ I6 q6) λf s7 q7=>?_)
  have again:∀{σ7:St}{H7:Hp},Inv X (pins++kr fp s5.heap) σ7 H7 s7->N σ7 H7->∃m,m<n/\∃i σ' H',Inv X pins σ' H' s7/\tn i s7.heap/\(∀b∈fp,H' b=none)/\W i m σ' H':=λ{σ7 H7} I7 n7=>by
   obtain⟨m',hm,w7⟩:=hN σ7 H7 n7
   refine⟨m',hm,i+1,σ7,H7,I7.iG,T.keep _ _ _ Oc λb hb o e=>(I7.pin (b,o) (List.mem_append_right _ (List.mem_append_right _ (fO hb e)))).1,λb hb=>?_,w7⟩
   obtain⟨o,e,d⟩:=T.obj _ _ Oc b hb
   exact(I7.pin (b,o) (List.mem_append_right _ (List.mem_append_right _ (fO hb e)))).2.1
  cases f with
  |next=>obtain⟨σ7,H7,I7,n7⟩:=q7;exact again I7 n7
  |cont=>obtain⟨σ7,H7,I7,n7⟩:=q7;exact again I7 n7
  |brk=>obtain⟨σ7,H7,I7,q7⟩:=q7;exact⟨σ7,H7,I7.iG,q7⟩
  |ret v=>obtain⟨x7,σ7,H7,I7,r7,q7⟩:=q7;exact⟨x7,σ7,H7,I7.iG,r7,q7⟩
end
theorem fm{K:Fg7}{a:Addr}{xs:List V}{g:TG}{tb:TS}{D:Ends}{σ:St}{H:Hp}(Pv:Nat->St->Hp->Prop)(h0:Pv 0 σ H)(hl:∀i σ H,i<=xs.length->Pv i σ H->aZ K H a xs)
  (hs:∀i x σ H,xs[i]? = some x->Pv i σ H->g x σ H λσ2 H2=>tb {D with nx:=Pv (i+1),ct:=Pv (i+1),bk:=D.nx} σ2 H2)(hd:∀σ H,Pv xs.length σ H->D.nx σ H):
  ∃W:Nat->Nat->St->Hp->Prop,(∃m,W 0 m σ H)/\∀i m σ H,W i m σ H->
   ((Jp K a).stop i H/\D.nx σ H)\/((Jp K a).go i H/\∃N:St->Hp->Prop,(∀σ' H',N σ' H'->∃m',m'<m/\W (i+1) m' σ' H')/\∀x H',(Jp K a).CD i H x H'->g x σ H' λσ2 H2=>tb {D with nx:=N,ct:=N,bk:=D.nx} σ2 H2):=by
 refine⟨λi m σ H=>m=xs.length-i/\i<=xs.length/\Pv i σ H,⟨xs.length,by simp,Nat.zero_le _,h0⟩,?_⟩
 rintro i m σ H ⟨rfl,hi,p⟩
 have q:=hl i σ H hi p
 by_cases hlt:i<xs.length
 ·refine .inr ⟨⟨xs,xs[i],q,by simp[hlt]⟩,Pv (i+1),λσ' H' p'=>⟨xs.length-(i+1),by lia,rfl,hlt,p'⟩,λx H' y=>?_⟩
  obtain⟨e,y⟩:=y
  subst e
  exact hs i x σ _ (y xs q) p
 ·have e:i=xs.length:=by lia
  subst e
  exact .inl ⟨⟨xs,q,Nat.le_refl _⟩,hd σ H p⟩
theorem IK{K:Fg7}{a:Addr}{xs:List V}{g:TG}{tb:TS}{D:Ends}{σ:St}{H:Hp}(Pv:Nat->St->Hp->Prop)(h0:Pv 0 σ H)(hl:∀i σ H,i<=xs.length->Pv i σ H->bJ K H a xs)
  (hs:∀i x σ H,xs[i]? = some x->Pv i σ H->g x σ H λσ2 H2=>tb {D with nx:=Pv (i+1),ct:=Pv (i+1),bk:=D.nx} σ2 H2)(hd:∀σ H,Pv xs.length σ H->D.nx σ H):
  ∃W:Nat->Nat->St->Hp->Prop,(∃m,W 0 m σ H)/\∀i m σ H,W i m σ H->
   ((Sk K a).stop i H/\D.nx σ H)\/((Sk K a).go i H/\∃N:St->Hp->Prop,(∀σ' H',N σ' H'->∃m',m'<m/\W (i+1) m' σ' H')/\∀x H',(Sk K a).CD i H x H'->g x σ H' λσ2 H2=>tb {D with nx:=N,ct:=N,bk:=D.nx} σ2 H2):=by
 refine⟨λi m σ H=>m=xs.length-i/\i<=xs.length/\Pv i σ H,⟨xs.length,by simp,Nat.zero_le _,h0⟩,?_⟩
 rintro i m σ H ⟨rfl,hi,p⟩
 have q:=hl i σ H hi p
 by_cases hlt:i<xs.length
 ·refine .inr ⟨⟨xs,xs[i],q,by simp[hlt]⟩,Pv (i+1),λσ' H' p'=>⟨xs.length-(i+1),by lia,rfl,hlt,p'⟩,λx H' y=>?_⟩
  obtain⟨e,y⟩:=y
  subst e
  exact hs i x σ _ (y xs q) p
 ·have e:i=xs.length:=by lia
  subst e
  exact .inl ⟨⟨xs,q,Nat.le_refl _⟩,hd σ H p⟩
theorem iL{lo:Int}{n:Nat}{g:TG}{tb:TS}{D:Ends}{σ:St}{H:Hp}(Pv:Nat->St->Hp->Prop)(h0:Pv 0 σ H)
  (hs:∀i σ H,i<n->Pv i σ H->g (.int (lo+i)) σ H λσ2 H2=>tb {D with nx:=Pv (i+1),ct:=Pv (i+1),bk:=D.nx} σ2 H2)(hd:∀σ H,Pv n σ H->D.nx σ H):
  ∃W:Nat->Nat->St->Hp->Prop,(∃m,W 0 m σ H)/\∀i m σ H,W i m σ H->
   ((Oz lo n).stop i H/\D.nx σ H)\/((Oz lo n).go i H/\∃N:St->Hp->Prop,(∀σ' H',N σ' H'->∃m',m'<m/\W (i+1) m' σ' H')/\∀x H',(Oz lo n).CD i H x H'->g x σ H' λσ2 H2=>tb {D with nx:=N,ct:=N,bk:=D.nx} σ2 H2):=by
 refine⟨λi m σ H=>m=n-i/\i<=n/\Pv i σ H,⟨n,by simp,Nat.zero_le _,h0⟩,?_⟩
 rintro i m σ H ⟨rfl,hi,p⟩
 by_cases hlt:i<n
 ·refine .inr ⟨hlt,Pv (i+1),λσ' H' p'=>⟨n-(i+1),by lia,rfl,hlt,p'⟩,λx H' y=>?_⟩
  obtain⟨e,y⟩:=y
  subst e y
  exact hs i σ _ hlt p
 ·have e:i=n:=by lia
  subst e
  exact .inl ⟨Nat.le_refl _,hd σ H p⟩
abbrev R2:=V->V->Hp->VK->Prop
def iD(X:Cx)(f:Value->Value->Sem Value)(r:R2):Prop:=
 ∀(pins:List (Addr×Obj))(s:Shared)(σ:St)(H:Hp)(x y:V)(v u:Value)(Q:VK),Inv X pins σ H s->RelV x v->RelV y u->r x y H Q->
  wpAny (model X.prog X.w) X.A (f v u) (EP X pins σ Q) X.xe s
def Lf(X:Cx)(f:Value->Sem Value)(r:V->Hp->VK->Prop):Prop:=
 ∀(pins:List (Addr×Obj))(s:Shared)(σ:St)(H:Hp)(x:V)(v:Value)(Q:VK),Inv X pins σ H s->RelV x v->r x H Q->
  wpAny (model X.prog X.w) X.A (f v) (EP X pins σ Q) X.xe s
def ir(X:Cx)(f:Value)(r:List V->Hp->VK->Prop):Prop:=
 ∀(pins:List (Addr×Obj))(s:Shared)(σ:St)(H:Hp)(xs:List V)(us:List Value)(Q:VK),Inv X pins σ H s->Vals xs us->r xs H Q->
  wpAny (model X.prog X.w) X.A (call f us) (EP X pins σ Q) X.xe s
def Ob(r:R2)(ta tb:TE):TE:=λσ H Q=>ta σ H λx H1=>tb σ H1 λy H2=>r x y H2 Q
def ZK(r:V->Hp->VK->Prop)(ta:TE):TE:=λσ H Q=>ta σ H λx H1=>r x H1 Q
inductive Xy(C:Int->Int->Prop)(g:Int->Int->V)(x:V)(y:V)(H:Hp)(Q:VK):Prop
 |mk(i:_)(j:_):(x=.int i)->(y=.int j)->(C i j)->(Q (g i j) H)->Xy C g x y H Q
def rI(C:Int->Int->Prop)(g:Int->Int->V):R2:=λx y H Q=>Xy C g x y H Q
inductive Pk(g:Int->Int->V)(x:V)(y:V)(H:Hp)(Q:VK):Prop
 |mk(i:_)(j:_):(x=.int i)->(y=.int j)->(Q (g i j) H)->Pk g x y H Q
def LH(g:Int->Int->V):R2:=λx y H Q=>Pk g x y H Q
inductive Xx(g:Int->V)(x:V)(H:Hp)(Q:VK):Prop
 |mk(i:_):(x=.int i)->(Q (g i) H)->Xx g x H Q
def rU(g:Int->V):V->Hp->VK->Prop:=λx H Q=>Xx g x H Q
section
variable {X:Cx} {a b c:Expr} {ta tb tc:TE} {pos:Pos}
theorem NT(ha:PE X a ta)(hb:PE X b tb){pins:List (Addr×Obj)}{s:Shared}{σ:St}{H:Hp}{R:V->V->Hp->Prop}(I:Inv X pins σ H s)
  (h:ta σ H λx H1=>tb σ H1 λy H2=>R x y H2){Q:Value->Shared->Prop}{f:Value->Value->Sem Value}
  (hf:∀v u s2 x y H2,Inv X pins σ H2 s2->RelV x v->RelV y u->R x y H2->wpAny (model X.prog X.w) X.A (f v u) Q X.xe s2):
  wpAny (model X.prog X.w) X.A (eval a X.env) (λv s₁=>wpAny (model X.prog X.w) X.A (eval b X.env) (λu s₂=>wpAny (model X.prog X.w) X.A (f v u) Q X.xe s₂) X.xe s₁) X.xe s:=by
 refine dm (ha pins s σ H _ I h) λv s1 ⟨x,H1,I1,r1,q1⟩=>?_
 refine dm (hb pins s1 σ H1 _ I1 q1) λu s2 ⟨y,H2,I2,r2,q2⟩=>?_
 exact hf v u s2 x y H2 I2 r1 r2 q2
theorem aC{op:Operator}{r:R2}(ho:iD X (binaryOp op) r)(ha:PE X a ta)(hb:PE X b tb):PE X (.BinOp a op b pos) (Ob r ta tb):=by
 intro pins s σ H Q I h
 exact wpAny_BinOp (NT ha hb I h λv u s2 x y H2 I2 rx ry q=>ho pins s2 σ H2 x y v u Q I2 rx ry q)
theorem oO{op:UnaryOp}{r:V->Hp->VK->Prop}(ho:Lf X (unaryOp op) r)(ha:PE X a ta):PE X (.UnaryOp op a pos) (ZK r ta):=by
 intro pins s σ H Q I h
 exact UnaryOp_ (dm (ha pins s σ H _ I h) λv s1 ⟨x,H1,I1,r1,q1⟩=>ho pins s1 σ H1 x v Q I1 r1 q1)
theorem SI{f:Value->Value->Sem Value}{C:Int->Int->Prop}{g:Int->Int->Int}
  (rule:∀(i j:Int)(t u:Tok)(s:Shared)(Q:Value->Shared->Prop)(E:Value->Shared->Prop),C i j->Q (.int (g i j) s.toks) {s with toks:=s.toks+1}->wpAny (model X.prog X.w) X.A (f (.int i t) (.int j u)) Q E s):
  iD X f (rI C λi j=>.int (g i j)):=by
 intro pins s σ H x y v u Q I rx ry h
 obtain⟨i,j,rfl,rfl,hc,q⟩:=h
 obtain⟨t,rfl⟩:=rx
 obtain⟨t',rfl⟩:=ry
 exact rule i j t t' s _ _ hc ⟨.int (g i j),H,I.tok _,⟨_,rfl⟩,q⟩
theorem Pu{f:Value->Value->Sem Value}{g:Int->Int->Int}
  (rule:∀(i j:Int)(t u:Tok)(s:Shared)(Q:Value->Shared->Prop)(E:Value->Shared->Prop),Q (.int (g i j) s.toks) {s with toks:=s.toks+1}->wpAny (model X.prog X.w) X.A (f (.int i t) (.int j u)) Q E s):
  iD X f (LH λi j=>.int (g i j)):=by
 intro pins s σ H x y v u Q I rx ry h
 obtain⟨i,j,rfl,rfl,q⟩:=h
 obtain⟨t,rfl⟩:=rx
 obtain⟨t',rfl⟩:=ry
 exact rule i j t t' s _ _ ⟨.int (g i j),H,I.tok _,⟨_,rfl⟩,q⟩
theorem Mb{f:Value->Value->Sem Value}{g:Int->Int->Bool}
  (rule:∀(i j:Int)(t u:Tok)(s:Shared)(Q:Value->Shared->Prop)(E:Value->Shared->Prop),Q (.bool (g i j)) s->wpAny (model X.prog X.w) X.A (f (.int i t) (.int j u)) Q E s):
  iD X f (LH λi j=>.bl (g i j)):=by
 intro pins s σ H x y v u Q I rx ry h
 obtain⟨i,j,rfl,rfl,q⟩:=h
 obtain⟨t,rfl⟩:=rx
 obtain⟨t',rfl⟩:=ry
 exact rule i j t t' s _ _ ⟨.bl (g i j),H,I,rfl,q⟩
def Jr(i j:Int):Prop:=(-(2^64)<i/\i<2^64)\/(-(2^64)<j/\j<2^64)
theorem Jr.ok{i j:Int}(h:Jr i j):IntMulOk i j:=by
 rcases h with⟨h1,h2⟩|⟨h1,h2⟩
 ·exact .of_left (intBits_le_64 h1 h2)
 ·exact .of_right (intBits_le_64 h1 h2)
theorem Ma:iD X (binaryOp .Add) (LH λi j=>.int (i+j)):=Pu λ_ _ _ _ _ _ _ q=>add_int q
theorem LX:iD X (binaryOp .Sub) (LH λi j=>.int (i-j)):=Pu λ_ _ _ _ _ _ _ q=>sub_int q
theorem LZ:iD X (binaryOp .Mult) (rI Jr λi j=>.int (i*j)):=SI λ_ _ _ _ _ _ _ hc q=>mul_int q hc.ok
theorem L_:iD X (binaryOp .Mod) (rI (λ_ j=>0<j) λi j=>.int (i%j)):=SI λi j _ _ _ _ _ hc q=>by
 have h1:(0:Int)<j:=hc
 exact mod_int' LI (by rw[Int.fmod_eq_emod_of_nonneg i LI];exact q)
theorem ZI{f:Value->Sem Value}{g:Int->Int}
  (rule:∀(i:Int)(t:Tok)(s:Shared)(Q:Value->Shared->Prop)(E:Value->Shared->Prop),Q (.int (g i) s.toks) {s with toks:=s.toks+1}->wpAny (model X.prog X.w) X.A (f (.int i t)) Q E s):
  Lf X f (rU λi=>.int (g i)):=by
 intro pins s σ H x v Q I rx h
 obtain⟨i,rfl,q⟩:=h
 obtain⟨t,rfl⟩:=rx
 exact rule i t s _ _ ⟨.int (g i),H,I.tok _,⟨_,rfl⟩,q⟩
theorem Li:Lf X (unaryOp .USub) (rU λi=>.int (-i)):=ZI λ_ _ _ _ _ q=>neg_int q
end
def OZ:V->V->Bool
 |.dR,.dR=>true|.dR,.int _=>true|.int _,.dR=>true|.dR,.bl _=>true|.bl _,.dR=>true|.dR,.str _=>true|.str _,.dR=>true
 |.int _,.int _=>true|.bl _,.bl _=>true|.str _,.str _=>true|.Cz _,.Cz _=>true
 |.int _,.str _=>true|.str _,.int _=>true|.bl _,.str _=>true|.str _,.bl _=>true
 |_,_=>false
def rEq:R2:=λx y H Q=>OZ x y=true/\Q (.bl (decide (x=y))) H
def rNe:R2:=λx y H Q=>OZ x y=true/\Q (.bl (!decide (x=y))) H
theorem Az{i j:Int}:decide (V.int i=V.int j)=(i==j):=by
 rw[Bool.eq_iff_iff]
 simp
theorem FT{i j:Bool}:decide (V.bl i=V.bl j)=(i==j):=by
 rw[Bool.eq_iff_iff]
 simp
theorem Ay{i j:Str}:decide (V.str i=V.str j)=(i==j):=by
 rw[Bool.eq_iff_iff]
 simp
theorem AA{i j:Array UInt8}:decide (V.Cz i=V.Cz j)=(i.toList==j.toList):=by
 rw[Bool.eq_iff_iff]
 cases i
 cases j
 simp
section
variable {X:Cx} {a b c:Expr} {ta tb tc:TE} {pos:Pos}
theorem bz{pins:List (Addr×Obj)}{σ:St}{H:Hp}{s:Shared}{Q:VK}{k k':Bool}(I:Inv X pins σ H s)(q:Q (.bl k) H)(e:k=k'):EP X pins σ Q (.bool k') s:=by
 subst e
 exact⟨.bl k,H,I,rfl,q⟩
theorem e_:iD X (compareOp .Eq) rEq:=by
 intro pins s σ H x y v u Q I rx ry h
 obtain⟨hs,q⟩:=h
 cases x with
 |dR=>
  cases rx
  cases y with
  |dR=>cases ry;exact PySem.EqNone.eq_none_none (bz I q (by simp))
  |bl j=>cases ry;exact PySem.EqNone.eq_none_bool (bz I q (by simp))
  |int j=>obtain⟨t',rfl⟩:=ry;exact PySem.EqNone.eq_none_int (bz I q (by simp))
  |str j=>obtain⟨t',rfl⟩:=ry;exact PySem.EqNone.eq_none_str (bz I q (by simp))
  |_=>exact absurd (show false=true from hs) Bool.false_ne_true
 |bl i=>
  cases rx
  cases y with
  |dR=>cases ry;exact PySem.EqNone.eq_bool_none (bz I q (by simp))
  |bl j=>cases ry;exact eq_bool (bz I q FT)
  |str j=>obtain⟨t',rfl⟩:=ry;exact PySem.EqMixed.eq_bool_str (bz I q (by simp))
  |_=>exact absurd (show false=true from hs) Bool.false_ne_true
 |int i=>
  obtain⟨t,rfl⟩:=rx
  cases y with
  |dR=>cases ry;exact PySem.EqNone.eq_int_none (bz I q (by simp))
  |int j=>obtain⟨t',rfl⟩:=ry;exact eq_int (bz I q Az)
  |str j=>obtain⟨t',rfl⟩:=ry;exact PySem.EqMixed.eq_int_str (bz I q (by simp))
  |_=>exact absurd (show false=true from hs) Bool.false_ne_true
 |str i=>
  obtain⟨t,rfl⟩:=rx
  cases y with
  |dR=>cases ry;exact PySem.EqNone.eq_str_none (bz I q (by simp))
  |bl j=>cases ry;exact PySem.EqMixed.eq_str_bool (bz I q (by simp))
  |int j=>obtain⟨t',rfl⟩:=ry;exact PySem.EqMixed.eq_str_int (bz I q (by simp))
  |str j=>obtain⟨t',rfl⟩:=ry;exact eq_str (bz I q Ay)
  |_=>exact absurd (show false=true from hs) Bool.false_ne_true
 |Cz i=>
  obtain⟨t,rfl⟩:=rx
  cases y with
  |Cz j=>obtain⟨t',rfl⟩:=ry;exact PySem.W.eq_bytes (bz I q AA)
  |_=>exact absurd (show false=true from hs) Bool.false_ne_true
 |_=>cases y<;>exact absurd (show false=true from hs) Bool.false_ne_true
theorem Ad:iD X (compareOp .NotEq) rNe:=by
 intro pins s σ H x y v u Q I rx ry h
 obtain⟨hs,q⟩:=h
 cases x with
 |dR=>
  cases rx
  cases y with
  |dR=>cases ry;exact PySem.EqNone.ne_none_none (bz I q (by simp))
  |bl j=>cases ry;exact PySem.EqNone.ne_none_bool (bz I q (by simp))
  |int j=>obtain⟨t',rfl⟩:=ry;exact PySem.EqNone.ne_none_int (bz I q (by simp))
  |str j=>obtain⟨t',rfl⟩:=ry;exact PySem.EqNone.ne_none_str (bz I q (by simp))
  |_=>exact absurd (show false=true from hs) Bool.false_ne_true
 |bl i=>
  cases rx
  cases y with
  |dR=>cases ry;exact PySem.EqNone.ne_bool_none (bz I q (by simp))
  |bl j=>cases ry;exact ne_bool (bz I q (congrArg not FT))
  |str j=>obtain⟨t',rfl⟩:=ry;exact PySem.EqMixed.ne_bool_str (bz I q (by simp))
  |_=>exact absurd (show false=true from hs) Bool.false_ne_true
 |int i=>
  obtain⟨t,rfl⟩:=rx
  cases y with
  |dR=>cases ry;exact PySem.EqNone.ne_int_none (bz I q (by simp))
  |int j=>obtain⟨t',rfl⟩:=ry;exact ne_int (bz I q (congrArg not Az))
  |str j=>obtain⟨t',rfl⟩:=ry;exact PySem.EqMixed.ne_int_str (bz I q (by simp))
  |_=>exact absurd (show false=true from hs) Bool.false_ne_true
 |str i=>
  obtain⟨t,rfl⟩:=rx
  cases y with
  |dR=>cases ry;exact PySem.EqNone.ne_str_none (bz I q (by simp))
  |bl j=>cases ry;exact PySem.EqMixed.ne_str_bool (bz I q (by simp))
  |int j=>obtain⟨t',rfl⟩:=ry;exact PySem.EqMixed.ne_str_int (bz I q (by simp))
  |str j=>obtain⟨t',rfl⟩:=ry;exact ne_str (bz I q (congrArg not Ay))
  |_=>exact absurd (show false=true from hs) Bool.false_ne_true
 |Cz i=>
  obtain⟨t,rfl⟩:=rx
  cases y with
  |Cz j=>obtain⟨t',rfl⟩:=ry;exact PySem.W.ne_bytes (bz I q (congrArg not AA))
  |_=>exact absurd (show false=true from hs) Bool.false_ne_true
 |_=>cases y<;>exact absurd (show false=true from hs) Bool.false_ne_true
theorem Pp:iD X (compareOp .Lt) (LH λi j=>.bl (decide (i<j))):=Mb λ_ _ _ _ _ _ _ q=>lt_int q
theorem Pq:iD X (compareOp .LtE) (LH λi j=>.bl (decide (i<=j))):=Mb λ_ _ _ _ _ _ _ q=>le_int q
theorem Pr:iD X (compareOp .Gt) (LH λi j=>.bl (decide (j<i))):=Mb λ_ _ _ _ _ _ _ q=>gt_int q
theorem Es:iD X (compareOp .Is) (λx y H Q=>y=.dR/\Q (.bl (decide (x=.dR))) H):=by
 intro pins s σ H x y v u Q I rx ry h
 obtain⟨rfl,q⟩:=h
 cases ry
 refine is_none_gen (bz I q ?_)
 cases x<;>first
  |(cases rx;rfl)
  |(obtain⟨t,rfl⟩:=rx;rfl)
theorem uo:iD X (compareOp .IsNot) (λx y H Q=>y=.dR/\Q (.bl (!decide (x=.dR))) H):=by
 intro pins s σ H x y v u Q I rx ry h
 obtain⟨rfl,q⟩:=h
 cases ry
 refine isnot_none_gen (bz I q ?_)
 cases x<;>first
  |(cases rx;rfl)
  |(obtain⟨t,rfl⟩:=rx;rfl)
theorem aR(b:Expr){op:CmpOp}(h:op≠.In:=by decide)(h2:op≠.NotIn:=by decide):behindInMarks op b=false:=by
 have e1:(op==CmpOp.In)=false:=by cases op<;>first|rfl|exact absurd rfl h
 have e2:(op==CmpOp.NotIn)=false:=by cases op<;>first|rfl|exact absurd rfl h2
 cases b<;>simp[behindInMarks,e1,e2]
theorem gz{op:CmpOp}{r:R2}(ho:iD X (compareOp op) r)(ha:PE X a ta)(hb:PE X b tb)(hm:behindInMarks op b=false):PE X (.Compare a [op] [b] pos) (Ob r ta tb):=by
 intro pins s σ H Q I h
 exact wpAny_Compare1 (NT ha hb I h λv u s2 x y H2 I2 rx ry q=>ho pins s2 σ H2 x y v u Q I2 rx ry q) hm
inductive CS(Q:Bool->Hp->Prop)(x:V)(H':Hp):Prop
 |mk(k:_):(x=.bl k)->(Q k H')->CS Q x H'
def zj(t:TE):TT:=λσ H Q=>t σ H λx H'=>CS Q x H'
theorem aP{op:CmpOp}{r:R2}(ho:iD X (compareOp op) r)(ha:PE X a ta)(hb:PE X b tb)(hm:behindInMarks op b=false):PT X (.Compare a [op] [b] pos) (zj (Ob r ta tb)):=by
 intro pins s σ H Q I h
 refine wpAny_isTrue_Compare1 (dm (ha pins s σ H _ I h) λv s1 ⟨x,H1,I1,r1,q1⟩=>dm (hb pins s1 σ H1 _ I1 q1) λu s2 ⟨y,H2,I2,r2,q2⟩=>
  dm (ho pins s2 σ H2 x y v u _ I2 r1 r2 q2) λc s3 ⟨z,H3,I3,r3,k,e,q3⟩=>?_) hm
 subst e
 cases r3
 exact wpAny_truthy_bool ⟨H3,I3,q3⟩
inductive zp(r':R2)(tc:TE)(σ:St)(Q:VK)(y:V)(z:V)(H3:Hp):Prop
 |mk(k:_):(z=.bl k)->((if k=true then tc σ H3 λw' H4=>r' y w' H4 Q else Q (.bl false) H3))->zp r' tc σ Q y z H3
def Lq(r r':R2)(ta tb tc:TE):TE:=λσ H Q=>ta σ H λx H1=>tb σ H1 λy H2=>r x y H2 λz H3=>zp r' tc σ Q y z H3
theorem Ef{op op':CmpOp}{r r':R2}(ho:iD X (compareOp op) r)(ho':iD X (compareOp op') r')(ha:PE X a ta)(hb:PE X b tb)(hc:PE X c tc)
  (hm:lastMarks [op,op'] [b,c]=false:=by with_unfolding_all rfl):PT X (.Compare a [op,op'] [b,c] pos) (zj (Lq r r' ta tb tc)):=by
 intro pins s σ H Q I h
 refine isTrue_chain (dm (ha pins s σ H _ I h) λv s1 ⟨x,H1,I1,r1,q1⟩=>test_link (dm (hb pins s1 σ H1 _ I1 q1) λu s2 ⟨y,H2,I2,r2,q2⟩=>
  dm (ho pins s2 σ H2 x y v u _ I2 r1 r2 q2) λd s3 ⟨z,H3,I3,r3,k,e,q3⟩=>?_)) hm
 subst e
 cases r3
 refine wpAny_truthy_bool ?_
 cases k with
 |false=>
  obtain⟨k',e',q'⟩:=q3
  cases e'
  exact ite_ff ⟨H3,I3,q'⟩
 |true=>
  refine ite_tt (test_last (dm (hc pins s3 σ H3 _ I3 q3) λw' s4 ⟨z',H4,I4,r4,q4⟩=>dm (ho' pins s4 σ H4 y z' u w' _ I4 r2 r4 q4) λd' s5 ⟨z2,H5,I5,r5,k2,e2,q5⟩=>?_))
  subst e2
  cases r5
  exact wpAny_truthy_bool ⟨H5,I5,q5⟩
theorem qB:(sizeLine:Nat)<2^63:=by rw[sizeLine_eq];decide
theorem qu:iD X (binaryOp .Add) (λx y H Q=>∃i j,x=.str i/\y=.str j/\i.length+j.length<=sizeLine/\Q (.str (i++j)) H):=by
 intro pins s σ H x y v u Q I rx ry h
 obtain⟨i,j,rfl,rfl,hz,q⟩:=h
 obtain⟨t,rfl⟩:=rx
 obtain⟨t',rfl⟩:=ry
 exact add_str (λt' tk=>⟨.str (i++j),H,I.tok _,⟨_,rfl⟩,q⟩) hz
theorem vals1{x:V}{us:List Value}(r:Vals [x] us):∃u,us=[u]/\RelV x u:=by
 cases r with
 |cons r1 r2=>cases r2;exact⟨_,rfl,r1⟩
theorem vals2{x y:V}{us:List Value}(r:Vals [x,y] us):∃u w',us=[u,w']/\RelV x u/\RelV y w':=by
 cases r with
 |cons r1 r2=>
  cases r2 with
  |cons r3 r4=>cases r4;exact⟨_,_,rfl,r1,r3⟩
end
structure yU(h:Heap)(x dx C:Addr)(mA:Str->Option Value):Prop where
 obj:h.get? x=some (PySem.W.instObj C dx)
 ns:h.Ns1 dx mA
 ne:dx≠x
theorem BD{h:Heap}{dx:Addr}{mA:Str->Option Value}(n:h.Ns1 dx mA):∃od,h.get? dx=some od/\∀name,PySem.W.lookIn name od=some (mA name):=by
 obtain⟨o,es,ep,ho,hd,hk,_,hm⟩:=n
 refine⟨o,ho,λname=>?_⟩
 have e:=hm name
 unfold nsFind findBy at e
 rw[←Array.find?_toList]at e
 unfold PySem.W.lookIn
 rw[hd]
 dsimp only
 split
 ·rename_i y q
  rw[q]at e
  exact congrArg some e
 ·rename_i q
  rw[q]at e
  have a:es.toList.any (·.refKey)=false:=by
   rw[List.any_eq_false]
   intro y hy
   obtain⟨z,t,hkey⟩:=hk y (Array.mem_toList_iff.mp hy)
   simp[DictEntry.refKey,hkey]
  have a':¬es.toList.any (·.refKey)=true:=by rw[a];exact Bool.false_ne_true
  rw[if_neg a']
  exact congrArg some e
theorem yU.look{h:Heap}{x dx C:Addr}{mA:Str->Option Value}(I:yU h x dx C mA):∃od,PySem.W.InstAt h x (PySem.W.instObj C dx) C (some od)/\∀name,PySem.W.lookIn name od=some (mA name):=
 let⟨od,ho,hl⟩:=BD I.ns
 ⟨od,⟨I.obj,rfl,rfl,ho⟩,hl⟩
section
variable {prog:Program} {w:World} {A:Around} {E:Value->Shared->Prop} {s:Shared} {K:Fg7} {x dx C f:Addr} {mA:Str->Option Value} {name:Str} {v:Value}
theorem get_map{expr:Bool}{Q:Value->Shared->Prop}(X:K.In s.heap)(I:yU s.heap x dx C mA)(hg:PySem.W.plainGet K C name=true)(hh:PySem.W.hasDictIn K C=true)
  (ha:PySem.W.findIn K (.ref C) name=some none)(hv:mA name=some v)(hv':PySem.W.handedIn v=true)(h:Q v {s with toks:=s.toks+1}):
  wpAny (model prog w) A (getAttr (.ref x) name expr) Q E s:=by
 obtain⟨od,J,hl⟩:=I.look
 exact PySem.W.get_value X J (PySem.W.plainGet_of hg).1 (PySem.W.findObj_own hh ha rfl (by rw[hl,hv])) hv' h
theorem Fz{pl:Sem Bool}{Q:Value×List Value->Shared->Prop}(X:K.In s.heap)(I:yU s.heap x dx C mA)(hg:PySem.W.plainGet K C name=true)
  (hf:PySem.W.findIn K (.ref C) name=some (some (.ref f)))(ht:PySem.W.isFn K (.ref f)=true)(hv:mA name=none)(h:Q (.ref f,[.ref x]) s):
  wpAny (model prog w) A (getMethod (.ref x) name pl) Q E s:=by
 obtain⟨od,J,hl⟩:=I.look
 exact PySem.W.method_fn X J (PySem.W.plainGet_of hg).1 (PySem.W.plainGet_of hg).2 hf (beq_iff_eq.mp ht) (by show(PySem.W.lookIn name od).map (·.isSome)=some false;rw[hl,hv];rfl) h
theorem Ht{ns:List Str}{Q:Unit->Shared->Prop}(X:K.In s.heap)(I:yU s.heap x dx C mA)
  (hs:PySem.W.findIn K (.ref C) "__setattr__"=some (some (.builtin "object.__setattr__")))(hp:PySem.W.plainOver K C=true)(ht:PySem.W.takerIn K C name=some none)(hh:PySem.W.hasDictIn K C=true)
  (hw:PySem.Within mA ns)(hsz:ns.length<=sizeLine)
  (h:∀h',yU h' x dx C (λy=>if y=name then some v else mA y)->Heap.SameBut dx s.heap h'->Q () {s with heap:=h',toks:=s.toks+2}):
  wpAny (model prog w) A (setAttr (.ref x) name v) Q E s:=by
 obtain⟨od,J,hl⟩:=I.look
 refine PySem.W.set_plain X J hs (PySem.W.osa_open (s:={s with toks:=s.toks+1}) (r:=none) X J hp ht λb=>?_)
 obtain⟨cd,hc,hd'⟩:=PySem.W.any_some hh
 have hx:s.heap.get? x=some ⟨.ref C,some dx,.plain,#[]⟩:=I.obj
 refine wpAny_bind (wpAny_pure (wpAny_bind (wpAny_bind (wpAny_loadPart hx (wpAny_bind (PySem.W.Looks.here (s:={s with toks:=s.toks+1}) (PySem.W.looks_clsIn X hc) ?_))))))
 rw[hd']
 refine wpAny_pure (a:=some dx) (wpAny_bind (wpAny_pure (wpAny_bind ?_)))
 refine wpAny_nsSet1 (s:={s with toks:=s.toks+1}) I.ns λh' hn2 hs2=>?_
 obtain⟨oD,esD,epD,hoD,hdD,hcD⟩:=hn2.count (PySem.Within.cons name v hw)
 refine wpAny_bind (wpAny_lookBehind hoD (by rw[hdD];exact pastItsLine_dict (Nat.le_trans hcD (by rw[List.length_cons];lia))) ?_)
 exact wpAny_pure (h _ ⟨(hs2.2 _ (Ne.symm I.ne)).trans I.obj,hn2,I.ne⟩ hs2)
theorem EG{R:Result->Shared->Prop}{vs:List Value}{kw:List (Str×Value)}(X:K.In s.heap)(hm:PySem.W.makesIn K C=true)
  (hi:PySem.W.findIn K (.ref C) "__init__"=some (some (.ref f)))(hf:PySem.W.typeIn K (.ref f)=some (.type "function"))
  (h:codeAny (model prog w) (A.under (.builtin "type.__call__" ⟨.ref C::vs,kw⟩)) (.call (.ref f) ⟨.ref (s.heap.objs.size+1)::vs,kw⟩) (PySem.W.InitBack (s.heap.objs.size+1) R)
   {s with heap:=(s.heap.push PySem.W.emptyDict).push (PySem.W.instObj C s.heap.objs.size)}):
  codeAny (model prog w) A (.call (.ref C) ⟨vs,kw⟩) R s:=by
 obtain⟨hh,g,d,t,os⟩:=s
 exact PySem.W.make_core (PySem.W.makes_of X hm) (PySem.W.looks_findIn X hi) (λself=>PySem.W.bind_fn X self hf) (.inl rfl) h
end
def gm(f:Str)(v:V):List (Str×V)->List (Str×V)
 |[]=>[(f,v)]
 |(g,x)::r=>if g=f then(g,v)::r else(g,x)::gm f v r
theorem oU(f g:Str)(v:V):∀fs:List (Str×V),(gm f v fs).lookup g=if g=f then some v else fs.lookup g
 |[]=>by
  show List.lookup g [(f,v)]=_
  by_cases h:g=f
  ·have hb:(g==f)=true:=beq_iff_eq.mpr h
   simp only[List.lookup,hb,if_pos h]
  ·have hb:(g==f)=false:=beq_eq_false_iff_ne.mpr h
   simp only[List.lookup,hb,if_neg h]
 |(k,x)::r=>by
  have ih:=oU f g v r
  rw[show gm f v ((k,x)::r)=(if k=f then(k,v)::r else(k,x)::gm f v r)from rfl]
  by_cases hk:k=f
  ·rw[if_pos hk]
   by_cases h:g=k
   ·have hb:(g==k)=true:=beq_iff_eq.mpr h
    simp only[List.lookup,hb,if_pos (h.trans hk)]
   ·have hb:(g==k)=false:=beq_eq_false_iff_ne.mpr h
    simp only[List.lookup,hb,if_neg (λe:g=f=>h (e.trans hk.symm))]
  ·rw[if_neg hk]
   by_cases h:g=k
   ·have hb:(g==k)=true:=beq_iff_eq.mpr h
    simp only[List.lookup,hb,if_neg (λe:g=f=>hk (h.symm.trans e))]
   ·have hb:(g==k)=false:=beq_eq_false_iff_ne.mpr h
    simp only[List.lookup,hb]
    exact ih
theorem nR(f:Str)(v:V):∀fs:List (Str×V),f∈(gm f v fs).map (·.1)/\∀g,g∈fs.map (·.1)->g∈(gm f v fs).map (·.1)
 |[]=>⟨by simp[gm],λg h=>by simp at h⟩
 |(k,x)::r=>by
  obtain⟨i1,i2⟩:=nR f v r
  rw[show gm f v ((k,x)::r)=(if k=f then(k,v)::r else(k,x)::gm f v r)from rfl]
  by_cases hk:k=f
  ·rw[if_pos hk]
   subst hk
   exact⟨by simp,λg h=>by simpa using h⟩
  ·rw[if_neg hk]
   refine⟨?_,λg h=>?_⟩
   ·rw[List.map_cons]
    exact List.mem_cons_of_mem _ i1
   ·rw[List.map_cons]at h ⊢
    rcases List.mem_cons.mp h with e|e
    ·exact List.mem_cons.mpr (.inl e)
    ·exact List.mem_cons_of_mem _ (i2 g e)
theorem oW(f:Str)(v:V):∀fs:List (Str×V),(gm f v fs).length<=fs.length+1
 |[]=>by simp[gm]
 |(k,x)::r=>by
  have ih:=oW f v r
  rw[show gm f v ((k,x)::r)=(if k=f then(k,v)::r else(k,x)::gm f v r)from rfl]
  by_cases hk:k=f
  ·rw[if_pos hk,List.length_cons,List.length_cons];lia
  ·rw[if_neg hk,List.length_cons,List.length_cons];lia
theorem jc.some_of{v:V}{o:Option Value}(r:jc (some v) o):∃u,o=some u/\RelV v u:=by
 cases o with
 |none=>exact(show False from r).elim
 |some u=>exact⟨u,rfl,r⟩
theorem jc.none_of{o:Option Value}(r:jc none o):o=none:=by
 cases o with
 |none=>rfl
 |some u=>exact(show False from r).elim
theorem BP{v:V}{u:Value}(r:RelV v u):PySem.W.handedIn u=true:=by
 cases v with
 |dR=>cases(show u=Value.none from r);rfl
 |bl b=>cases(show u=Value.bool b from r);rfl
 |int i=>obtain⟨t,e⟩:=(show∃t,u=Value.int i t from r);cases e;rfl
 |str x=>obtain⟨t,e⟩:=(show∃t,u=Value.str x t from r);cases e;rfl
 |Cz b=>obtain⟨t,e⟩:=(show∃t,u=Value.bytes b t from r);cases e;rfl
 |Nm b=>obtain⟨t,e⟩:=(show∃t,u=Value.float b t from r);cases e;rfl
 |ref a=>cases(show u=Value.ref a from r);rfl
 |ty n=>cases(show u=Value.type n from r);rfl
section
variable {P:Program} {w:World} {H H':Hp} {h h':Heap} {a C dx:Addr} {fs fs':List (Str×V)}
theorem pZ(hok:kZ P w H h)(e:H a=some (.ins C dx fs)):∃mA,yU h a dx C mA/\(∀f,jc (fs.lookup f) (mA f))/\PySem.Within mA (fs.map (·.1))/\fs.length<=1000/\H dx=some (.own a):=by
 obtain⟨d,z,ne,ob,mA,n,r,q⟩:=(show cA P w H h a (.ins C dx fs)from hok a _ e)
 exact⟨mA,⟨ob,n,ne⟩,r,q,z,d⟩
end
structure Ct(K:Fg7)(C:Addr):Prop where
 pg:PySem.W.plainGet K C Str.empty=true
 hd:PySem.W.hasDictIn K C=true
 po:PySem.W.plainOver K C=true
 sa:PySem.W.findIn K (.ref C) "__setattr__"=some (some (.builtin "object.__setattr__"))
theorem Ct.get{K:Fg7}{C:Addr}(c:Ct K C)(f:Str):PySem.W.plainGet K C f=true:=c.pg
def eW(K:Fg7)(C:Addr)(f:Str):Prop:=PySem.W.findIn K (.ref C) f=some none
theorem eW.OM{K:Fg7}{C:Addr}{f:Str}(n:eW K C f):PySem.W.takerIn K C f=some none:=by
 unfold PySem.W.takerIn
 rw[show PySem.W.findIn K (.ref C) f=some none from n]
 rfl
structure Meth(K:Fg7)(C:Addr)(m:Str)(f:Addr):Prop where
 at_:PySem.W.findIn K (.ref C) m=some (some (.ref f))
 fn:PySem.W.isFn K (.ref f)=true
 kp:PySem.W.keepIn K (.ref f)=true
section
variable {X:Cx} {pins:List (Addr×Obj)} {σ:St} {H:Hp} {s:Shared} {a C dx:Addr} {fs:List (Str×V)} {f:Str} {v:V} {A:Around} {E:Value->Shared->Prop}
theorem yz{b:Bool}{Q:Value->Shared->Prop}(I:Inv X pins σ H s)(e:H a=some (.ins C dx fs))(c:Ct X.K C)(n:eW X.K C f)(l:fs.lookup f=some v)
  (h:∀u s',Inv X pins σ H s'->RelV v u->Q u s'):wpAny (model X.prog X.w) A (getAttr (.ref a) f b) Q E s:=by
 obtain⟨mA,O,r,_,_,_⟩:=pZ I.hok e
 obtain⟨u,hu,ru⟩:=jc.some_of (v:=v) (o:=mA f) (by rw[←l];exact r f)
 exact get_map I.mE O (c.get f) c.hd n hu (BP ru) (h u _ (I.tok _) ru)
theorem qG{m:Str}{g:Addr}{pl:Sem Bool}{Q:Value×List Value->Shared->Prop}(I:Inv X pins σ H s)(e:H a=some (.ins C dx fs))(c:Ct X.K C)(k:Meth X.K C m g)(l:fs.lookup m=none)
  (h:Q (.ref g,[.ref a]) s):wpAny (model X.prog X.w) A (getMethod (.ref a) m pl) Q E s:=by
 obtain⟨mA,O,r,_,_,_⟩:=pZ I.hok e
 have hn:mA m=none:=jc.none_of (by rw[←l];exact r m)
 exact Fz I.mE O (c.get m) k.at_ k.fn hn h
theorem xN{y:V}{u:Value}{Q:Unit->Shared->Prop}(I:Inv X pins σ H s)(e:H a=some (.ins C dx fs))(c:Ct X.K C)(n:eW X.K C f)(hl:fs.length<1000)(ry:RelV y u)
  (h:∀s',Inv X pins σ (upd H a (.ins C dx (gm f y fs))) s'->Q () s'):wpAny (model X.prog X.w) A (setAttr (.ref a) f u) Q E s:=by
 obtain⟨mA,O,r,wi,_,ho⟩:=pZ I.hok e
 have hz:(fs.map (·.1)).length<=sizeLine:=by rw[List.length_map,sizeLine_eq];lia
 refine Ht I.mE O c.sa c.po n.OM c.hd wi hz λh' O' sb=>h _ ?_
 have hd:∃o,h'.get? dx=some o:=let⟨o,_,_,e',_⟩:=O'.ns;⟨o,e'⟩
 refine I.write (x:=a) (e:=dx) (by rw[e];exact True.intro) (.inr ho) (λb q hb z=>(sb.2 b hb).trans z) hd ?_
 refine⟨by rw[ai O.ne];exact ho,?_,O.ne,O'.obj,_,O'.ns,λg=>?_,λg hg=>?_⟩
 ·have:=oW f y fs;lia
 ·show jc ((gm f y fs).lookup g) (if g=f then some u else mA g)
  rw[oU]
  by_cases q:g=f
  ·rw[if_pos q,if_pos q];exact ry
  ·rw[if_neg q,if_neg q];exact r g
 ·by_cases q:g=f
  ·rw[q];exact(nR f y fs).1
  ·refine(nR f y fs).2 g (wi g λz=>hg ?_)
   show(if g=f then some u else mA g)=none
   rw[if_neg q];exact z
theorem Inv.made(I:Inv X pins σ H s):Inv X pins σ (upd (upd H s.heap.objs.size (.own (s.heap.objs.size+1))) (s.heap.objs.size+1) (.ins C s.heap.objs.size []))
  {s with heap:=(s.heap.push PySem.W.emptyDict).push (PySem.W.instObj C s.heap.objs.size)}:=by
 have e1:(s.heap.push PySem.W.emptyDict).get? s.heap.objs.size=some PySem.W.emptyDict:=Heap.get?_push_size s.heap rfl
 have e2:((s.heap.push PySem.W.emptyDict).push (PySem.W.instObj C s.heap.objs.size)).get? (s.heap.objs.size+1)=some (PySem.W.instObj C s.heap.objs.size):=by
  have:=Heap.get?_push_size (s.heap.push PySem.W.emptyDict) (o:=PySem.W.instObj C s.heap.objs.size) rfl
  rwa [Heap.size_push]at this
 have e3:(s.heap.push PySem.W.emptyDict).Ns s.heap.objs.size (λ_=>none):=⟨PySem.W.emptyDict,#[],_,e1,rfl,(λe he=>absurd he (by simp)),λ_=>rfl⟩
 have I1:=I.laid (a:=s.heap.objs.size) (o:=.own (s.heap.objs.size+1)) (h':=s.heap.push PySem.W.emptyDict) (t':=s.toks) (λb u q=>Heap.get?_push_of_some _ q) (Nat.le_refl _) ⟨_,e1⟩
 refine I1.laid (a:=s.heap.objs.size+1) (o:=.ins C s.heap.objs.size []) (t':=s.toks) (λb u q=>Heap.get?_push_of_some _ q) (Nat.le_of_eq (Heap.size_push _ _)) ?_
 have ne:s.heap.objs.size≠s.heap.objs.size+1:=Nat.ne_of_lt (Nat.lt_succ_self _)
 refine⟨by rw[ai ne,af],Nat.zero_le _,ne,e2,λ_=>none,(Heap.Ns1.of_empty e3).at λo q=>Heap.get?_push_of_some _ q,λ_=>True.intro,λy hy=>absurd rfl hy⟩
theorem Jk{prog:Program}{w:World}{env:Env}{e:Expr}{f:Str}{pos:Pos}{s:Shared}{Q:Value->Shared->Prop}(hb:attributeBase e f env (eval e env)=eval e env)
  (h:wpAny (model prog w) A (eval e env) (λo s₁=>wpAny (model prog w) A (getAttr o f true) Q E s₁) E s):wpAny (model prog w) A (eval (.Attribute e f pos) env) Q E s:=
 Attribute_any_ h (by rw[arm_eval_Attribute,hb])
end
inductive JD(K:Fg7)(f:Str)(Q:VK)(x:V)(H1:Hp):Prop
 |mk(a:_)(C:_)(dx:_)(fs:_)(v:_):(x=.ref a)->(H1 a=some (.ins C dx fs))->(Ct K C)->(eW K C f)->(fs.lookup f=some v)->(Q v H1)->JD K f Q x H1
def GZ(K:Fg7)(ta:TE)(f:Str):TE:=λσ H Q=>ta σ H λx H1=>JD K f Q x H1
inductive JT(K:Fg7)(f:Str)(D:Ends)(σ:St)(y:V)(x:V)(H2:Hp):Prop
 |mk(a:_)(C:_)(dx:_)(fs:_):(x=.ref a)->(H2 a=some (.ins C dx fs))->(Ct K C)->(eW K C f)->(fs.length<1000)->(D.nx σ (upd H2 a (.ins C dx (gm f y fs))))->JT K f D σ y x H2
def UB(K:Fg7)(ta tv:TE)(f:Str):TS:=λD σ H=>tv σ H λy H1=>ta σ H1 λx H2=>JT K f D σ y x H2
section
variable {X:Cx} {o e value:Expr} {f:Str} {pos pos' tpos:Pos} {ta tv:TE}
theorem dN(he:PE X e ta)(hb:attributeBase e f X.env (eval e X.env)=eval e X.env):PE X (.Attribute e f pos) (GZ X.K ta f):=by
 intro pins s σ H Q I h
 refine Jk hb (dm (he pins s σ H _ I h) λu s1 ⟨x,H1,I1,rx,a,C,dx,fs,v,ex,ea,c,n,l,q⟩=>?_)
 subst ex
 obtain rfl:u=Value.ref a:=rx
 exact yz I1 ea c n l λu' s2 I2 ru=>⟨v,H1,I2,ru,q⟩
theorem qo(ha:PE X o ta)(hv:PE X value tv)(hs:swapsWith value (some (.Attribute o f pos')) pos.line X.env=pure false):PS X (.Assign [.Attribute o f pos'] value pos) (UB X.K ta tv f):=by
 intro pins s σ H D I h
 refine plainObj_wpAny_Assign_Attribute (dm (hv pins s σ H _ I h) λu s1 ⟨y,H1,I1,ry,q⟩=>dm (ha pins s1 σ H1 _ I1 q) λov s2 ⟨x,H2,I2,rx,a,C,dx,fs,ex,ea,c,n,l,q2⟩=>?_) hs
 subst ex
 obtain rfl:ov=Value.ref a:=rx
 exact xN I2 ea c n l ry λs3 I3=>⟨σ,_,I3,q2⟩
end
section
variable {X:Cx} {pins:List (Addr×Obj)} {σ:St} {H:Hp} {s:Shared} {A:Around} {E:Value->Shared->Prop} {Q:Value->Shared->Prop} {c:Value} {b:Bool}
inductive oh(K:Fg7)(H:Hp):V->Value->Prop where
 |dR:oh K H .dR (.type "NoneType")
 |bl(x:Bool):oh K H (.bl x) (.type "bool")
 |int(i:Int):oh K H (.int i) (.type "int")
 |str(x:Str):oh K H (.str x) (.type "str")
 |Nm(x:UInt64):oh K H (.Nm x) (.type "float")
 |lst{a:Addr}{xs:List V}(e:H a=some (.lst xs)):oh K H (.ref a) (.type "list")
 |eF{a:Addr}{o:Obj}{xs:List V}(e:H a=some (.eF o (.lst xs))):oh K H (.ref a) (.type "list")
 |tup{a:Addr}{xs:List V}(e:H a=some (.tup xs)):oh K H (.ref a) (.type "tuple")
 |dK{a:Addr}{kvs:List (Key×V)}(e:H a=some (.dK kvs)):oh K H (.ref a) (.type "dict")
 |dT{a:Addr}{kvs:List (List Key×V)}(e:H a=some (.dT kvs)):oh K H (.ref a) (.type "dict")
 |ins{a C dx:Addr}{fs:List (Str×V)}(e:H a=some (.ins C dx fs))(cl:Ct K C)(ha:PySem.W.findIn K (.ref C) "__class__"=some (some (.builtin "object.__class__")))
   (hn:PySem.W.specialIn K (.builtin "object.__class__") "__get__"=some (some (.builtin "getset_descriptor.__get__")))(htk:PySem.W.takesIn K (.builtin "object.__class__")=some true)
   (hm:PySem.W.mroIn K C (.type "object")=some true):oh K H (.ref a) (.ref C)
theorem BK{x:V}{u t:Value}(I:Inv X pins σ H s)(rx:RelV x u)(ty:oh X.K H x t)(e:PySem.W.kitOne X.K t c=some b)(h:∀tk,Q (.bool b) {s with toks:=tk}):
  wpAny (model X.prog X.w) A (call (.builtin "isinstance") [u,c]) Q E s:=by
 cases ty with
 |dR=>cases(show u=Value.none from rx);exact PySem.W.kia_one PySem.W.kitx_none I.mE True.intro e (λz=>nomatch z) h
 |bl y=>cases(show u=Value.bool y from rx);exact PySem.W.kia_one PySem.W.kitx_bool I.mE True.intro e (λz=>nomatch z) h
 |int i=>obtain⟨t,q⟩:=(show∃t,u=Value.int i t from rx);cases q;exact PySem.W.kia_one PySem.W.kitx_int I.mE True.intro e (λz=>nomatch z) h
 |str y=>obtain⟨t,q⟩:=(show∃t,u=Value.str y t from rx);cases q;exact PySem.W.kia_one PySem.W.kitx_str I.mE True.intro e (λz=>nomatch z) h
 |Nm y=>obtain⟨t,q⟩:=(show∃t,u=Value.float y t from rx);cases q;exact PySem.W.kia_one PySem.W.kitx_float I.mE True.intro e (λz=>nomatch z) h
 | @lst a xs ea=>
  cases(show u=Value.ref a from rx)
  obtain⟨_,_,n,_,h1⟩:=(show cA X.prog X.w H s.heap a (.lst xs)from I.hok a _ ea)
  exact PySem.W.kia_one PySem.W.kitx_list I.mE ⟨_,h1,rfl⟩ e (λz=>nomatch z) h
 | @eF a ob xs ea=>
  cases(show u=Value.ref a from rx)
  obtain⟨_,_,_,n,_,h1⟩:=(show cA X.prog X.w H s.heap a (.eF ob (.lst xs))from I.hok a _ ea)
  exact PySem.W.kia_one PySem.W.kitx_list I.mE ⟨_,h1,rfl⟩ e (λz=>nomatch z) h
 | @tup a xs ea=>
  cases(show u=Value.ref a from rx)
  obtain⟨_,_,_,p⟩:=(show cA X.prog X.w H s.heap a (.tup xs)from I.hok a _ ea)
  obtain⟨o,h1,h2,_⟩:=p
  exact PySem.W.kia_one PySem.W.kitx_tuple I.mE ⟨o,h1,h2⟩ e (λz=>nomatch z) h
 | @dK a kvs ea=>
  cases(show u=Value.ref a from rx)
  obtain⟨_,_,vs,_,p⟩:=(show cA X.prog X.w H s.heap a (.dK kvs)from I.hok a _ ea)
  obtain⟨o,es,ep,h1,h2,_⟩:=p
  exact PySem.W.kia_one PySem.W.kitx_dict I.mE ⟨o,h1,h2.1⟩ e (λz=>nomatch z) h
 | @dT a kvs ea=>
  cases(show u=Value.ref a from rx)
  obtain⟨_,_,xs,_,o,es,ep,h1,h2,_⟩:=(show cA X.prog X.w H s.heap a (.dT kvs)from I.hok a _ ea)
  exact PySem.W.kia_one PySem.W.kitx_dict I.mE ⟨o,h1,h2.1⟩ e (λz=>nomatch z) h
 | @ins a C dx fs ea cl ha hn htk hm=>
  cases(show u=Value.ref a from rx)
  obtain⟨mA,O,_⟩:=pZ I.hok ea
  obtain⟨od,J,_⟩:=O.look
  exact PySem.W.kia_one (PySem.W.kitx_own (cl.get _) cl.hd ha hn htk hm) I.mE J e (λz=>nomatch z) h
end
structure dH(k:Nat)(A:Around):Prop where
 hd:A.handled=none
 dp:A.depth+3*k+5<recursionLimit
 un:A.units+16*k+200<cLine
theorem dH.mono{j k:Nat}{A:Around}(r:dH k A)(h:j<=k):dH j A:=⟨r.hd,by have:=r.dp;lia,by have:=r.un;lia⟩
theorem dH.deeper{k:Nat}{A:Around}(r:dH (k+1) A)(env:Env):dH k (A.deeper env):=
 ⟨r.hd,by have:=r.dp;show A.depth+1+3*k+5<_;lia,by have:=r.un;show A.units+3+16*k+200<_;lia⟩
theorem dH.in1{k:Nat}{A:Around}(r:dH (k+1) A):dH k A.in1:=
 ⟨r.hd,by have:=r.dp;show A.depth+3*k+5<_;lia,by have:=r.un;show A.units+1+16*k+200<_;lia⟩
theorem yq{A:Around}{C:Addr}{us:List Value}{kw:List (Str×Value)}:(A.under (.builtin "type.__call__" ⟨.ref C::us,kw⟩)).depth=A.depth+1:=by
 first|rfl|simp[Around.under,Code.weight,Code.isCreation,Code.isGuard,Code.isCaller,Code.frames,Code.isFrame,guardIds]
theorem yp{A:Around}{C:Addr}{us:List Value}{kw:List (Str×Value)}:(A.under (.builtin "type.__call__" ⟨.ref C::us,kw⟩)).units=A.units+1:=by
 first|rfl|simp[Around.under,Code.cUnits,Code.frames,Code.isFrame]
theorem dH.make{k:Nat}{A:Around}(r:dH (k+1) A)(C:Addr)(us:List Value)(kw:List (Str×Value)):dH k (A.under (.builtin "type.__call__" ⟨.ref C::us,kw⟩)):=
 ⟨r.hd,by have:=r.dp;rw[yq];lia,by have:=r.un;rw[yp];lia⟩
theorem dH.depth{k:Nat}{A:Around}(r:dH k A):A.depth<recursionLimit:=by have:=r.dp;lia
theorem dH.units{k:Nat}{A:Around}(r:dH k A):A.units+64<cLine:=by have:=r.un;lia
def Lk:TA:=λ_ H Q=>Q [] H
def JF(ta:TE)(tr:TA):TA:=λσ H Q=>ta σ H λx H1=>tr σ H1 λxs H2=>Q (x::xs) H2
section
variable {X:Cx} {e:Expr} {es:List Expr} {te:TE} {t:TA} {pos:Pos}
theorem aj:PA X [] Lk:=λ_ _ _ _ H Q I h=>Calls.spliced_nil ⟨[],H,I,.nil,h⟩
theorem HS(ha:PE X e te)(hr:PA X es t)(hs:starEach (e::es) X.env=(false,eval e X.env)::starEach es X.env:=by rfl):PA X (e::es) (JF te t):=by
 intro pos pins s σ H Q I h
 rw[hs]
 show wpAny _ _ (spliced ((false,eval e X.env)::backTo pos (starEach es X.env))) _ _ s
 refine Calls.spliced_cons (dm (ha pins s σ H _ I h) λu s1 ⟨x,H1,I1,r1,q1⟩=>?_)
 exact dm (hr pos pins s1 σ H1 _ I1 q1) λus s2 ⟨xs,H2,I2,r2,q2⟩=>⟨x::xs,H2,I2,.cons r1 r2,q2⟩
def Uq(t:TA):TE:=λσ H Q=>t σ H λxs H1=>xs.length<=sizeLine/\∀p,H1 p=none->Q (.ref p) (upd H1 p (.tup xs))
def Ut(t:TA):TE:=λσ H Q=>t σ H λxs H1=>xs.length<=sizeLine/\∀p,H1 p=none->Q (.ref p) (upd H1 p (.lst xs))
theorem cF{x1}(h:PA X es t):PE X (.Tuple es x1 pos) (Uq t):=by
 intro pins s σ H Q I hq
 refine wpAny_Tuple_spliced (dm (h pos pins s σ H _ I hq) λus s1 ⟨xs,H1,I1,r,z,q⟩=>⟨by rw[←r.length];exact z,?_⟩)
 have hf:H1 s1.heap.objs.size=none:=I1.hok.fresh (Nat.le_refl _)
 refine⟨.ref s1.heap.objs.size,upd H1 s1.heap.objs.size (.tup xs),I1.laid (t':=s1.toks) (λb u e=>Heap.get?_push_of_some _ e) (Nat.le_refl _) ?_,rfl,q _ hf⟩
 exact⟨z,us,r,⟨_,Heap.get?_push_size _ rfl,rfl,_,rfl⟩⟩
theorem bZ(h:PA X es t):PE X (.List es pos) (Ut t):=by
 intro pins s σ H Q I hq
 refine wpAny_List_spliced (dm (h pos pins s σ H _ I hq) λus s1 ⟨xs,H1,I1,r,z,q⟩=>⟨by rw[←r.length];exact z,?_⟩)
 have hf:H1 s1.heap.objs.size=none:=I1.hok.fresh (Nat.le_refl _)
 refine⟨.ref s1.heap.objs.size,upd H1 s1.heap.objs.size (.lst xs),I1.laid (t':=s1.toks) (λb u e=>Heap.get?_push_of_some _ e) (Nat.le_refl _) ?_,rfl,q _ hf⟩
 exact⟨z,us,0,r,Heap.get?_push_size _ rfl⟩
end
abbrev Sp:=List V->Hp->VK->XK->Prop
abbrev Cu:=List Env->Hp->Shared->XK->Value->Shared->Prop
structure xh(P:Program)(w:World)(K:Fg7)(mg:Str->Option Value)(base:Heap)(A:Around)(outer:List Env)(s:Shared)(H:Hp):Prop where
 frames:A.frames=some outer
 mod:Mod K mg base
 bs:∀b o,base.get? b=some o->s.heap.get? b=some o/\H b=none
 Gf:base.objs.size<=s.heap.objs.size
 nU:s.heap.FunFrames base outer
 KU:∀b∈frs outer,H b=none
 hok:kZ P w H s.heap
 bare:AllBare s.gens
inductive CE(outer:List Env)(P:Program)(w:World)(H:Hp)(s:Shared)(Q:VK)(u:Value)(s':Shared):Prop
 |mk(v:_)(H':_):(s'.os=s.os)->(AllBare s'.gens)->(Un (frs outer) [] H H' s.heap s'.heap)->(kZ P w H' s'.heap)->(RelV v u)->(Q v H')->CE outer P w H s Q u s'
def CR(CX:Cu)(outer:List Env)(P:Program)(w:World)(H:Hp)(s:Shared)(Q:VK)(E:XK)(r:Result)(s':Shared):Prop:=
 match r with
 |.ok (.ret u)=>CE outer P w H s Q u s'
 |.ok _=>False
 |.error e=>CX outer H s E e s'
structure mU(P:Program)(w:World)(K:Fg7)(mg:Str->Option Value)(base:Heap)(CX:Cu)(k:Nat)(f:Addr)(fd:FuncData)(ps:List Str)(sp:Sp):Prop where
 len:∀vs H Q E,sp vs H Q E->vs.length=ps.length
 run:∀(A:Around)(outer:List Env)(s:Shared)(H:Hp)(args:Args)(us:List Value)(vs:List V)(Q:VK)(E:XK),dH k A->xh P w K mg base A outer s H->BindsTo s fd args (ps.zip us)->Vals vs us->sp vs H Q E->
  codeAny (model P w) A (.call (.ref f) args) (CR CX outer P w H s Q E) s
theorem mU.imp{P:Program}{w:World}{K:Fg7}{mg:Str->Option Value}{base:Heap}{CX:Cu}{k:Nat}{f:Addr}{fd:FuncData}{ps:List Str}{sp uR:Sp}(F:mU P w K mg base CX k f fd ps sp)
  (h:∀vs H Q E,uR vs H Q E->sp vs H Q E):mU P w K mg base CX k f fd ps uR:=
 ⟨λvs H Q E q=>F.len vs H Q E (h _ _ _ _ q),λA outer s H args us vs Q E hr he hb hv hs=>F.run A outer s H args us vs Q E hr he hb hv (h _ _ _ _ hs)⟩
theorem xh.make{P:Program}{w:World}{K:Fg7}{mg:Str->Option Value}{base:Heap}{A:Around}{outer:List Env}{s:Shared}{H:Hp}(e:xh P w K mg base A outer s H)(C:Addr)(us:List Value)(kw:List (Str×Value)):
  xh P w K mg base (A.under (.builtin "type.__call__" ⟨.ref C::us,kw⟩)) outer s H:=⟨by first|exact e.frames|(simpa [Around.under,Code.envs,Code.isFrame,pushEnvs]using e.frames),e.mod,e.bs,e.Gf,e.nU,e.KU,e.hok,e.bare⟩
section
variable {X:Cx} {pins:List (Addr×Obj)} {σ:St} {H:Hp} {s s':Shared}
theorem Inv.RS(I:Inv X pins σ H s):xh X.prog X.w X.K X.mg X.base X.A X.stack s H:=
 ⟨I.ok.frames,I.ok.mod,I.bs,Nat.le_trans I.ok.Gf I.sz,I.stack,I.tV,I.hok,I.bare⟩
theorem Inv.after{Q:VK}{u:Value}(I:Inv X pins σ H s)(h:CE X.stack X.prog X.w H s Q u s'):EP X pins σ Q u s':=by
 obtain⟨v,H',os,bare,un,hok,r,q⟩:=h
 obtain⟨hh,g,d,t,os'⟩:=s'
 obtain rfl:os'=s.os:=os
 exact⟨v,H',I.call (h':=hh) (g':=g) (d':=d) (t':=t) (ch:=[]) un hok bare (λb z=>absurd z (by simp)),r,q⟩
end
def De(sp:Sp)(qb:List V)(E:XK)(t:TA):TE:=λσ H Q=>t σ H λvs H1=>sp (vs++qb) H1 Q E
inductive CZ(C:Addr)(m:Str)(sp:Sp)(qb:List V)(E:XK)(t:TA)(σ:St)(Q:VK)(x:V)(H1:Hp):Prop
 |mk(a:_)(dx:_)(fs:_):(x=.ref a)->(H1 a=some (.ins C dx fs))->(fs.lookup m=none)->(t σ H1 λvs H2=>sp (x::(vs++qb)) H2 Q E)->CZ C m sp qb E t σ Q x H1
def zk(C:Addr)(m:Str)(sp:Sp)(qb:List V)(E:XK)(ta:TE)(t:TA):TE:=λσ H Q=>ta σ H λx H1=>CZ C m sp qb E t σ Q x H1
def JC(C:Addr)(sp:Sp)(qb:List V)(E:XK)(t:TA):TE:=λσ H Q=>t σ H λvs H1=>∀x dx,H1 x=none->H1 dx=none->dx≠x->
 sp (.ref x::(vs++qb)) (upd (upd H1 dx (.own x)) x (.ins C dx [])) (λv H2=>v=.dR/\Q (.ref x) H2) E
def Binds(K:Fg7)(fd:FuncData)(ps:List Str)(ds:List Value):Prop:=
 ∀(s:Shared)(us:List Value),K.In s.heap->(us++ds).length=ps.length->BindsTo s fd ⟨us,[]⟩ (ps.zip (us++ds))
theorem Binds.all{K:Fg7}{fd:FuncData}{ps:List Str}(h:∀us:List Value,us.length=ps.length->bindArgs fd ⟨us,[]⟩=pure (ps.zip us)):Binds K fd ps []:=λs us _ hl=>by
 rw[List.append_nil]at hl ⊢
 exact .of_eq (h us hl)
def Passes(CX:Cu)(X:Cx)(E:XK):Prop:=∀(pins:List (Addr×Obj))(σ:St)(H:Hp)(s:Shared)(e:Value)(s':Shared),Inv X pins σ H s->CX X.stack H s E e s'->X.xe e s'
section
variable {X:Cx} {CX:Cu} {k:Nat} {f C:Addr} {fd:FuncData} {ps:List Str} {sp:Sp} {qb:List V} {ds:List Value} {E:XK} {x m:Str} {p pos apos:Pos} {e o:Expr} {es:List Expr} {ta:TE} {t:TA}
theorem xV{pins:List (Addr×Obj)}{σ:St}{H:Hp}{s:Shared}{Q:VK}{us:List Value}{vs:List V}(F:mU X.prog X.w X.K X.mg X.base CX k f fd ps sp)(hr:dH k X.A)(hb:Binds X.K fd ps ds)(hd:Vals qb ds)(hx:Passes CX X E)
  (I:Inv X pins σ H s)(r:Vals vs us)(h:sp (vs++qb) H Q E):wpAny (model X.prog X.w) X.A (call (.ref f) us) (EP X pins σ Q) X.xe s:=by
 have r2:Vals (vs++qb) (us++ds):=r.append hd
 have hl:(us++ds).length=ps.length:=by rw[←r2.length];exact F.len _ _ _ _ h
 refine wpAny_call (codeAny_mono (F.run X.A X.stack s H ⟨us,[]⟩ (us++ds) (vs++qb) Q E hr I.RS (hb s us I.mE hl) r2 h) λr s' hq=>?_)
 cases r with
 |error e=>exact hx pins σ H s e s' I hq
 |ok fl=>
  cases fl with
  |ret u=>exact I.after hq
  |next=>exact False.elim hq
  |brk=>exact False.elim hq
  |cont=>exact False.elim hq
theorem HR(F:mU X.prog X.w X.K X.mg X.base CX k f fd ps sp)(hr:dH k X.A)(hg:Gl X x)(hm:X.mg x=some (.ref f))(hk:PySem.W.keepIn X.K (.ref f)=true)(hb:Binds X.K fd ps ds)(hd:Vals qb ds)(hx:Passes CX X E)
  (ha:PA X (e::es) t)(hdb:(x==("__debug__":Str))=false:=by decide)(he:starEach (e::es) X.env=(false,eval e X.env)::starEach es X.env:=by rfl)(hpl:(backTo pos (starEach es X.env)).any (·.1)=false:=by rfl):
  PE X (.Call (.Name x p) (e::es) [] pos) (De sp qb E t):=by
 intro pins s σ H Q I h
 refine wpAny_Call_Name_kw (uw I hg hm ?_ hdb)
 refine PySem.W.callWith_K (h₀:=X.base) I.ok.mod.Qp hk (dm (ha pos pins s σ H _ I h) λus s1 ⟨vs,H1,I1,r,q⟩=>⟨I1.mE,?_⟩) he hpl
 exact xV F hr hb hd hx I1 r q
theorem HL{pl:Sem Bool}(he:PE X o ta)(c:Ct X.K C)(hm:Meth X.K C m f)(F:mU X.prog X.w X.K X.mg X.base CX k f fd ps sp)(hr:dH k X.A)(hb:Binds X.K fd ps ds)(hd:Vals qb ds)(hx:Passes CX X E)(ha:PA X (e::es) t)
  (hst:starEach (e::es) X.env=(false,eval e X.env)::starEach es X.env:=by rfl)(hpl:(backTo pos (starEach es X.env)).any (·.1)=false:=by rfl)
  (ht:eval (.Call (.Attribute o m apos) (e::es) [] pos) X.env=(do
   let ov ←eval o X.env
   standAt apos.atName
   let(f,first) ←holding [ov] (getMethod ov m pl)
   callWith pos f first (backTo pos (starEach (e::es) X.env)) (backToKw pos (keywordEach [] X.env))):=by rfl):
  PE X (.Call (.Attribute o m apos) (e::es) [] pos) (zk C m sp qb E ta t):=by
 intro pins s σ H Q I h
 refine PySem.W.methodCall_KW (pl:=pl) (dm (he pins s σ H _ I h) λu s1 ⟨x,H1,I1,rx,a,dx,fs,ex,ea,l,q⟩=>?_) ht
 subst ex
 obtain rfl:u=Value.ref a:=rx
 refine qG I1 ea c hm l ?_
 refine PySem.W.callWith_K (first:=[.ref a]) (h₀:=X.base) I.ok.mod.Qp hm.kp (dm (ha pos pins s1 σ H1 _ I1 q) λus s2 ⟨vs,H2,I2,r,q2⟩=>⟨I2.mE,?_⟩) hst hpl
 exact xV (us:=.ref a::us) (vs:=.ref a::vs) F hr hb hd hx I2 (.cons rfl r) q2
theorem Ek{pl:Sem Bool}(he:PE X o ta)(c:Ct X.K C)(hm:Meth X.K C m f)(F:mU X.prog X.w X.K X.mg X.base CX k f fd ps sp)(hr:dH k X.A)(hb:Binds X.K fd ps ds)(hd:Vals qb ds)(hx:Passes CX X E)
  (ht:eval (.Call (.Attribute o m apos) [] [] pos) X.env=(do
   let ov ←eval o X.env
   standAt apos.atName
   let(f,first) ←holding [ov] (getMethod ov m pl)
   callWith pos f first (backTo pos (starEach [] X.env)) (backToKw pos (keywordEach [] X.env))):=by rfl):
  PE X (.Call (.Attribute o m apos) [] [] pos) (zk C m sp qb E ta Lk):=by
 intro pins s σ H Q I h
 refine PySem.W.methodCall_KW (pl:=pl) (dm (he pins s σ H _ I h) λu s1 ⟨x,H1,I1,rx,a,dx,fs,ex,ea,l,q⟩=>?_) ht
 subst ex
 obtain rfl:u=Value.ref a:=rx
 refine qG I1 ea c hm l ?_
 exact PySem.W.callWith_K0 (first:=[.ref a]) I1.mE hm.kp (xV (us:=[.ref a]) (vs:=[.ref a]) F hr hb hd hx I1 (.cons rfl .nil) q)
structure Mk(K:Fg7)(C f:Addr):Prop where
 makes:PySem.W.makesIn K C=true
 init:PySem.W.findIn K (.ref C) "__init__"=some (some (.ref f))
 fn:PySem.W.isFn K (.ref f)=true
 kp:PySem.W.keepIn K (.ref C)=true
theorem DP{pins:List (Addr×Obj)}{σ:St}{H:Hp}{s:Shared}{Q:VK}{us:List Value}{vs:List V}(M:Mk X.K C f)(F:mU X.prog X.w X.K X.mg X.base CX k f fd ps sp)(hr:dH (k+1) X.A)(hb:Binds X.K fd ps ds)(hd:Vals qb ds)
  (hx:Passes CX X E)(I:Inv X pins σ H s)(r:Vals vs us)
  (h:∀x dx,H x=none->H dx=none->dx≠x->sp (.ref x::(vs++qb)) (upd (upd H dx (.own x)) x (.ins C dx [])) (λv H2=>v=.dR/\Q (.ref x) H2) E):
  wpAny (model X.prog X.w) X.A (call (.ref C) us) (EP X pins σ Q) X.xe s:=by
 have hq:=h (s.heap.objs.size+1) s.heap.objs.size (I.hok.fresh (Nat.le_succ _)) (I.hok.fresh (Nat.le_refl _)) (Nat.ne_of_lt (Nat.lt_succ_self _))
 have I2:=Inv.made (C:=C) I
 have r2:Vals (V.ref (s.heap.objs.size+1)::(vs++qb)) (Value.ref (s.heap.objs.size+1)::(us++ds)):=.cons rfl (r.append hd)
 have hl:(Value.ref (s.heap.objs.size+1)::us++ds).length=ps.length:=by
  have e:=r2.length
  rw[F.len _ _ _ _ hq]at e
  exact e.symm
 refine wpAny_call (EG (f:=f) I.mE M.makes M.init (beq_iff_eq.mp M.fn) (codeAny_mono (F.run _ X.stack _ _ ⟨Value.ref (s.heap.objs.size+1)::us,[]⟩ (Value.ref (s.heap.objs.size+1)::(us++ds)) _ _ E (hr.make C us [])
  (I2.RS.make C us []) (hb _ (Value.ref (s.heap.objs.size+1)::us) I2.mE hl) r2 hq) λr s' hq'=>?_))
 cases r with
 |error e=>exact hx pins σ _ _ e s' I2 hq'
 |ok fl=>
  cases fl with
  |ret u=>
   obtain⟨v,H',I3,rv,ev,q3⟩:=I2.after hq'
   subst ev
   exact⟨rv,⟨V.ref (s.heap.objs.size+1),H',I3,rfl,q3⟩⟩
  |next=>exact False.elim hq'
  |brk=>exact False.elim hq'
  |cont=>exact False.elim hq'
theorem HM(M:Mk X.K C f)(F:mU X.prog X.w X.K X.mg X.base CX k f fd ps sp)(hr:dH (k+1) X.A)(hg:Gl X x)(hm:X.mg x=some (.ref C))(hb:Binds X.K fd ps ds)(hd:Vals qb ds)(hx:Passes CX X E)
  (ha:PA X (e::es) t)(hdb:(x==("__debug__":Str))=false:=by decide)(he:starEach (e::es) X.env=(false,eval e X.env)::starEach es X.env:=by rfl)(hpl:(backTo pos (starEach es X.env)).any (·.1)=false:=by rfl):
  PE X (.Call (.Name x p) (e::es) [] pos) (JC C sp qb E t):=by
 intro pins s σ H Q I h
 refine wpAny_Call_Name_kw (uw I hg hm ?_ hdb)
 refine PySem.W.callWith_K (h₀:=X.base) I.ok.mod.Qp M.kp (dm (ha pos pins s σ H _ I h) λus s1 ⟨vs,H1,I1,r,q⟩=>⟨I1.mE,?_⟩) he hpl
 exact DP M F hr hb hd hx I1 r q
end
section
variable {X:Cx} {CX:Cu} {k:Nat} {f C:Addr} {fd:FuncData} {ps ks:List Str} {sp:Sp} {E:XK} {x m:Str} {p pos apos kpos:Pos} {e o:Expr} {es:List Expr} {kws:List Keyword} {te ta:TE} {t tk:TA} {nm:Option Str}
variable {g:List Value->List Value->List Value} {gV:List V->List V->List V}
end
structure aM(N P:List Str)(sc:Scope):Prop where
 kind:sc.kind=.function
 co:sc.isCoroutine=false
 gen:sc.isGenerator=false
 nd:N.Nodup
 pre:N.take P.length=P
 par:∀x∈P,sc.names.lookup x=some .local\/sc.names.lookup x=some .cell
 Mc:∀y∈sc.names,y.2≠.free
theorem tH{kindOf:Str->Option NameKind}{x:Str}:∀{binds:List (Str×Value)}{m:Str->Option Value},(∀v,(x,v)∉binds)->bindL kindOf binds m x=m x
 |[],_,_=>rfl
 |(n,v)::r,m,h=>by
  unfold bindL
  rw[tH λw hw=>h w (List.mem_cons_of_mem _ hw)]
  split
  ·have:x≠n:=by rintro rfl;exact h v List.mem_cons_self
   simp[this]
  ·rfl
theorem tL{kindOf:Str->Option NameKind}{x:Str}:∀{binds:List (Str×Value)}{m:Str->Option Value},(∀v,(x,v)∉binds)->bindC kindOf binds m x=m x
 |[],_,_=>rfl
 |(n,v)::r,m,h=>by
  unfold bindC
  rw[tL λw hw=>h w (List.mem_cons_of_mem _ hw)]
  split
  ·rfl
  ·have:x≠n:=by rintro rfl;exact h v List.mem_cons_self
   simp[this]
theorem tK{kindOf:Str->Option NameKind}{x:Str}{v:Value}:∀{P:List Str}{vs:List Value}{i:Nat}{m:Str->Option Value},P.Nodup->P[i]? = some x->vs[i]? = some v->kindOf x=some .local->
  bindL kindOf (P.zip vs) m x=some v
 |[],_,_,_,_,h,_,_=>by simp at h
 |_::_,[],_,_,_,_,h,_=>by simp at h
 |p::P,w::vs,0,m,nd,h1,h2,hk=>by
  simp at h1 h2;subst h1;subst h2
  show bindL kindOf ((p,w)::P.zip vs) m p=_
  unfold bindL
  rw[tH λv hv=>(List.nodup_cons.mp nd).1 (List.of_mem_zip hv).1,if_pos hk]
  simp
 |p::P,w::vs,i+1,m,nd,h1,h2,hk=>by
  show bindL kindOf ((p,w)::P.zip vs) m x=_
  unfold bindL
  exact tK (i:=i) (List.nodup_cons.mp nd).2 (by simpa using h1) (by simpa using h2) hk
theorem tM{kindOf:Str->Option NameKind}{x:Str}{v:Value}:∀{P:List Str}{vs:List Value}{i:Nat}{m:Str->Option Value},P.Nodup->P[i]? = some x->vs[i]? = some v->kindOf x≠some .local->
  bindC kindOf (P.zip vs) m x=some v
 |[],_,_,_,_,h,_,_=>by simp at h
 |_::_,[],_,_,_,_,h,_=>by simp at h
 |p::P,w::vs,0,m,nd,h1,h2,hk=>by
  simp at h1 h2;subst h1;subst h2
  show bindC kindOf ((p,w)::P.zip vs) m p=_
  unfold bindC
  rw[tL λv hv=>(List.nodup_cons.mp nd).1 (List.of_mem_zip hv).1,if_neg hk]
  simp
 |p::P,w::vs,i+1,m,nd,h1,h2,hk=>by
  show bindC kindOf ((p,w)::P.zip vs) m x=_
  unfold bindC
  exact tM (i:=i) (List.nodup_cons.mp nd).2 (by simpa using h1) (by simpa using h2) hk
def start(N:List Str)(vs:List V):St:=vs.map some++List.replicate (N.length-vs.length) none
def pJ(CX:Cu)(P:Program)(w:World)(K:Fg7)(mg:Str->Option Value)(base:Heap)(N:List Str)(qual:Str)(scope:Scope)(f:Addr)(cd:Value)(A:Around)(outer:List Env)(s:Shared)(H:Hp)(E:XK):Cx where
 prog:=P
 w:=w
 K:=K
 mg:=mg
 base:=base
 A:=A.deeper (envOfC qual scope s.heap.objs.size f cd)
 N:=N
 s₀:=s
 H₀:=H
 env:=envOfC qual scope s.heap.objs.size f cd
 outer:=outer
 stack:=envOfC qual scope s.heap.objs.size f cd::outer
 ex:=[]
 calm:=true
 fn:=λ_=>true
 pn:=[]
 xe:=λe s'=>wpAny (model P w) (A.deeper (envOfC qual scope s.heap.objs.size f cd)) (leaving (envOfC qual scope s.heap.objs.size f cd) e) (λ_ s''=>CX outer H s E e s'') (λe' s''=>CX outer H s E e' s'') s'
theorem wN{sc:Scope}{n:Nat}{x:Str}(h:sc.names.lookup x=some .cell):∃c,(cellsFrom n sc.names []).lookup x=some c:=by
 have q:=PySem.W.cellsFrom_some sc.names n [] (.inl h)
 exact Option.isSome_iff_exists.mp q
theorem sR{CX:Cu}{P:Program}{w:World}{K:Fg7}{mg:Str->Option Value}{base:Heap}{N ps:List Str}{qual:Str}{scope:Scope}{f:Addr}{cd:Value}{A:Around}{outer:List Env}{s s1:Shared}{H:Hp}{E:XK}{us:List Value}{vs:List V}
  (S:aM N ps scope)(hd:A.handled=none)(e0:xh P w K mg base A outer s H)(hl:vs.length=ps.length)(r:Vals vs us)
  (x:InCallC s s.heap.objs.size (bindL (envOfC qual scope s.heap.objs.size f cd).kindOf (ps.zip us) λ_=>none) (cellsFrom (s.heap.objs.size+1) scope.names []) (bindC (envOfC qual scope s.heap.objs.size f cd).kindOf (ps.zip us) λ_=>none) s1):
  Inv (pJ CX P w K mg base N qual scope f cd A outer s H E) [] (start N vs) H s1:=by
 have hpl:ps.length<=N.length:=by have:=congrArg List.length S.pre;rw[List.length_take]at this;lia
 obtain⟨h1,tk,rfl,hk⟩:=x.done
 have PC:∀b:Addr,b∉(pJ CX P w K mg base N qual scope f cd A outer s H E).ex:=λb z=>absurd (show b∈([]:List Addr)from z) (by simp)
 refine⟨⟨e0.mod,S.kind,rfl,rfl,Nat.le_refl _,λy z c h1 h2=>?_,λy hy=>?_,λy c _ h=>?_,λ_=>hd,Around.frames_deeper e0.frames,.inr ⟨rfl,rfl⟩,λb z=>absurd z (PC b),e0.bs,e0.Gf,λb _ _=>PC b,λb z=>absurd z (PC b),e0.nU,e0.KU⟩,
  rfl,e0.bare,Un.kept hk,⟨_,x.toInCall.ns,λi y v h1 h2 h3=>?_⟩,λy c h=>⟨_,x.cell y c h⟩,e0.hok.fresh (Nat.le_refl _),λy c h=>?_,λp hp=>absurd (show p∈([]:List (Addr×Obj))from hp) (by simp),e0.hok.kept hk,?_⟩
 ·exact name_of_addr x.apart (PySem.mem_of_lookup h1) (PySem.mem_of_lookup h2)
 ·have hy:scope.names.lookup y=some .cell\/scope.names.lookup y=some .free:=hy
  rcases hy with hy|hy
  ·exact wN hy
  ·exact absurd rfl (S.Mc _ (PySem.mem_of_lookup hy))
 ·exact Nat.le_of_lt (x.above y c (PySem.mem_of_lookup h))
 ·have hi:i<vs.length:=by
   unfold start at h2
   by_cases hi:i<vs.length
   ·exact hi
   ·rw[List.getElem?_append_right (by simpa using hi)]at h2
    rw[List.getElem?_replicate]at h2
    split at h2<;>cases h2
  have ha:vs[i]? = some v:=by
   unfold start at h2
   rw[List.getElem?_append_left (by simpa using hi),List.getElem?_map]at h2
   cases e:vs[i]? with
   |none=>rw[e]at h2;cases h2
   |some a=>rw[e]at h2;cases h2;rfl
  obtain⟨u,hu,rv⟩:=r.get ha
  have hp:ps[i]? = some y:=by
   rw[←S.pre,List.getElem?_take_of_lt LI];exact h1
  have XU:ps.Nodup:=by rw[←S.pre];exact S.nd.sublist (List.take_sublist _ _)
  refine⟨u,rv,?_⟩
  rcases S.par y (List.mem_of_getElem? hp)with k|k
  ·exact .inl ⟨k,tK XU hp hu k⟩
  ·obtain⟨c,e⟩:=wN (n:=s.heap.objs.size+1) k
   refine .inr ⟨.inl k,c,e,?_⟩
   have q:=x.cell y c e
   rw[tM XU hp hu (by show scope.names.lookup y≠_;rw[k];decide)]at q
   exact q
 ·exact e0.hok.fresh (Nat.le_of_lt (x.above y c (PySem.mem_of_lookup h)))
 ·unfold start
  show _=N.length
  rw[List.length_append,List.length_map,List.length_replicate]
  lia
theorem KW{CX:Cu}{P:Program}{w:World}{K:Fg7}{mg:Str->Option Value}{base:Heap}{k:Nat}{f:Addr}{name qual:Str}{params:Arguments}{body:List Stmt}{scope:Scope}{dV kV doc pm cdv ct oc:Value}{an od:Option Addr}
  {osl:Array (Option Value)}{N ps:List Str}{sp:Sp}(lk:K.lookup f=some ⟨oc,od,.func (PySem.W.fnOf name qual params body scope dV kV doc pm an cdv ct),osl⟩)(hcd:PySem.W.codeIn K cdv qual=true)(S:aM N ps scope)
  (len:∀vs H Q E,sp vs H Q E->vs.length=ps.length)
  (hbody:∀(A:Around)(outer:List Env)(s:Shared)(H:Hp)(vs:List V)(Q:VK)(E:XK),dH k (A.deeper (envOfC qual scope s.heap.objs.size f cdv))->sp vs H Q E->
   ∃t,uS (pJ CX P w K mg base N qual scope f cdv A outer s H E) body t/\t {nx:=λ_ H'=>Q .dR H',rt:=Q} (start N vs) H):
  mU P w K mg base CX (k+1) f (PySem.W.fnOf name qual params body scope dV kV doc pm an cdv ct) ps sp:=by
 refine⟨len,λA outer s H args us vs Q E hr e0 hb r xy=>?_⟩
 have hl:=len _ _ _ _ xy
 have KX:K.In s.heap:=e0.mod.Qp.keeps λb o e=>(e0.bs b o e).1
 have lim:s.heap.NoLimit:=e0.mod.nolimit.keeps λb o e=>(e0.bs b o e).1
 have hkind:∀y∈ps.zip us,scope.names.lookup y.1=some .local\/(scope.names.lookup y.1=some .cell/\((cellsFrom (s.heap.objs.size+1) scope.names []).lookup y.1).isSome=true):=λ⟨n,v⟩ hy=>by
  rcases S.par n (List.of_mem_zip hy).1 with q|q
  ·exact .inl q
  ·exact .inr ⟨q,PySem.W.cellsFrom_some _ _ _ (.inl q)⟩
 refine codeAny_call_function hr.depth (KX _ _ lk) rfl S.co S.gen rfl (PySem.W.codeRec_of KX hcd) (hb _ _ _ _ ?_)
 refine wpAny_newFunctionEnv_cells S.kind hkind λenv he s1 x=>?_
 subst he
 refine⟨lim.keeps x.toInCall.keep,codeAny_func ?_⟩
 obtain⟨t,ht,hq⟩:=hbody A outer s H vs Q E (hr.deeper _) xy
 have I:Inv (pJ CX P w K mg base N qual scope f cdv A outer s H E) [] (start N vs) H s1:=sR S hr.hd e0 hl r x
 refine wpAny_mono (ht [] s1 (start N vs) H _ I hq) (λfl s' hs=>?_) λe s' hs=>hs
 have fin:∀{σ':St}{H':Hp}{v:V}{u:Value},Inv (pJ CX P w K mg base N qual scope f cdv A outer s H E) [] σ' H' s'->RelV v u->Q v H'->CE outer P w H s Q u s':=
  λ{σ' H' v u} J rv q=>⟨v,H',J.os,J.bare,J.base,J.hok,rv,q⟩
 cases fl with
 |ret u=>
  obtain⟨v,σ',H',J,rv,q⟩:=hs
  exact fin J rv q
 |next=>
  obtain⟨σ',H',J,q⟩:=hs
  exact fin (v:=V.dR) (u:=Value.none) J rfl q
 |brk=>
  obtain⟨_,_,_,q⟩:=hs
  exact False.elim q
 |cont=>
  obtain⟨_,_,_,q⟩:=hs
  exact False.elim q
section
variable {X:Cx} {x:Str} {p pos:Pos} {e:Expr} {es:List Expr} {t:TA} {id T:String} {r:List V->Hp->VK->Prop}
def Sz(r:List V->Hp->VK->Prop)(t:TA):TE:=λσ H Q=>t σ H λvs H1=>r vs H1 Q
theorem Eo(hc:ir X (.builtin id) r)(hg:Gl X x)(hm:X.mg x=none)(hv:bootBuiltins x=some (.builtin id))(ha:PA X (e::es) t)(hn:x≠"__name__":=by decide)(hdb:(x==("__debug__":Str))=false:=by decide)
  (he:starEach (e::es) X.env=(false,eval e X.env)::starEach es X.env:=by rfl)(hpl:(backTo pos (starEach es X.env)).any (·.1)=false:=by rfl):PE X (.Call (.Name x p) (e::es) [] pos) (Sz r t):=by
 intro pins s σ H Q I h
 refine wpAny_Call_Name_kw (gR I hg hm hv ?_ hn hdb)
 exact PyProof.Rows.callWith_builtin1 (dm (ha pos pins s σ H _ I h) λus s1 ⟨vs,H1,I1,r1,q1⟩=>hc pins s1 σ H1 vs us Q I1 r1 q1) he hpl
theorem Bk(hc:ir X (.type T) r)(hg:Gl X x)(hm:X.mg x=none)(hv:bootBuiltins x=some (.type T))(ha:PA X (e::es) t)(hn:x≠"__name__":=by decide)(hdb:(x==("__debug__":Str))=false:=by decide)
  (he:starEach (e::es) X.env=(false,eval e X.env)::starEach es X.env:=by rfl)(hpl:(backTo pos (starEach es X.env)).any (·.1)=false:=by rfl):PE X (.Call (.Name x p) (e::es) [] pos) (Sz r t):=by
 intro pins s σ H Q I h
 refine wpAny_Call_Name_kw (gR I hg hm hv ?_ hn hdb)
 exact PyProof.Rows.callWith_type1 (dm (ha pos pins s σ H _ I h) λus s1 ⟨vs,H1,I1,r1,q1⟩=>hc pins s1 σ H1 vs us Q I1 r1 q1) he hpl
end
end L2
namespace HT
open PySem PyProof.Rows
theorem DY(A:Around)(s:Shared)(a:Int)(t:Tok)(c:Int)(u:Tok)(prog:Program)(w:World)(E:Value->Shared->Prop)(Q:Value->Shared->Prop)(h:Q (.bool (decide (a<c))) s):
  wpAny (model prog w) A (richCompare .Lt (.int a t) (.int c u)) Q E s:=
 (PyProof.Rows.lt_int h:wpAny (model prog w) A (compareOp .Lt (.int a t) (.int c u)) Q E s)
section
open PySem.SeqAt
open PySem.AutoSeq1 (wpAny_loadPart')
open PySem.MeetsSeq PySem.MeetsSeq2 PySem.MeetsSeq3
end
section
variable {prog:Program} {w:World} {A:Around} {E:Value->Shared->Prop} {s:Shared}
theorem Jf{t b:Addr}{vs ws:List Value}{Q:Value->Shared->Prop}(ht:IsTup s.heap t vs.toArray)(hb:IsTup s.heap b ws.toArray)(hv:vs≠[])
  (h1:ws=[]->Q (.ref t) s)(h2:ws≠[]->Q (.ref s.heap.objs.size) {s with heap:=s.heap.push {cls:=.type "tuple",data:=.seq (vs++ws).toArray} })
  (hsz:vs.length+ws.length<=sizeLine):wpAny (model prog w) A (binaryOp .Add (.ref t) (.ref b)) Q E s:=by
 obtain⟨⟨cls,dd,data,sl⟩,ho,hc,n,hd⟩:=id ht
 obtain⟨⟨WR,dd2,data2,sl2⟩,ho2,hc2,n2,hd2⟩:=id hb
 simp only at hc hd hc2 hd2
 subst hc hd hc2 hd2
 have e:vs.toArray++ws.toArray=(vs++ws).toArray:=by simp
 by_cases hw:ws=[]
 ·exact concat_meets ⟨_,ho,rfl⟩ ⟨_,ho2,rfl⟩ noFill_tuple_add seq_tuple_add PySem.F.slot_tuple_add PySem.F.entry_tuple_add (PySem.F.args_tuple_add_2 _ _)
   (tuple_addW1 t b vs.toArray ws.toArray n n2 dd dd2 sl sl2 (by simpa using hv) (by simp[hw])) ⟨ho,ho2,h1 hw⟩
 ·refine concat_meets ⟨_,ho,rfl⟩ ⟨_,ho2,rfl⟩ noFill_tuple_add seq_tuple_add PySem.F.slot_tuple_add PySem.F.entry_tuple_add (PySem.F.args_tuple_add_2 _ _)
   (tuple_addW2 t b vs.toArray ws.toArray n n2 dd dd2 sl sl2 (by simpa using hv) (by simpa using hw) (by rw[List.size_toArray,List.size_toArray];exact hsz)) ⟨ho,ho2,?_⟩
  rw[e]
  exact h2 hw
def fu(n d:Nat):Option Int->Nat
 |none=>d
 |some v=>if v<0 then(v+(n:Int)).toNat else min v.toNat n
theorem DN(n d:Nat):fu n d none=d:=rfl
theorem Hv(n d k:Nat):fu n d (some (k:Int))=min k n:=by
 show(if(k:Int)<0 then((k:Int)+(n:Int)).toNat else min (k:Int).toNat n)=min k n
 rw[if_neg LI,Int.toNat_natCast]
theorem LA(n d:Nat)(hd:d<=n)(o:Option Int):fu n d o<=n:=by
 cases o with
 |none=>exact hd
 |some v=>
  show(if v<0 then(v+(n:Int)).toNat else min v.toNat n)<=n
  by_cases hv:v<0
  ·rw[if_pos hv];lia
  ·rw[if_neg hv];exact Nat.min_le_right _ _
theorem AE(v:Int)(n d:Nat):(if v<0 then max (v+(n:Int)) 0 else min v (n:Int))=((fu n d (some v):Nat):Int):=by
 show(if v<0 then max (v+(n:Int)) 0 else min v (n:Int))=(((if v<0 then(v+(n:Int)).toNat else min v.toNat n):Nat):Int)
 by_cases hv:v<0
 ·simp only[if_pos hv];lia
 ·simp only[if_neg hv];lia
theorem yT(lo hi:Option Int)(n:Nat):Builtin.Slice.sliceAdjust lo hi 1 (n:Int)=(((fu n 0 lo:Nat):Int),((fu n n hi:Nat):Int)):=by
 have h1:¬((1:Int)<0):=by lia
 unfold Builtin.Slice.sliceAdjust
 simp only[h1,if_false]
 refine Prod.ext ?_ ?_
 ·cases lo with
  |none=>rfl
  |some v=>exact AE v n 0
 ·cases hi with
  |none=>rfl
  |some v=>exact AE v n n
theorem xZ(i j:Nat):Builtin.Slice.slicePlaces (i:Int) (j:Int) 1=j-i:=by
 unfold Builtin.Slice.slicePlaces
 have h1:(1:Int)>0:=by lia
 simp only[h1,if_true,Int.ediv_one]
 split<;>lia
theorem qk{v:Value}{o:Option Int}{Q:Option Int->Shared->Prop}(p:IsPart v o)(h:Q o s):wpAny (model prog w) A (Builtin.Slice.slicePartIndex v) Q E s:=by
 cases p with
 |none=>exact slicePart_none h
 |int i t=>exact slicePart_int h
theorem mZ{sl:Addr}{vl vu:Value}{lo hi:Option Int}{n:Nat}{Q:Int×Int×Nat->Shared->Prop}(hs:s.heap.IsSliceOf sl vl vu .none)(pl:IsPart vl lo)(pu:IsPart vu hi)
  (h:Q (((fu n 0 lo:Nat):Int),1,fu n n hi-fu n 0 lo) s):wpAny (model prog w) A (Builtin.Slice.sliceApplied (.ref sl) (pure (n:Int))) Q E s:=by
 obtain⟨os,hos,hcs,hds⟩:=id hs
 unfold Builtin.Slice.sliceApplied Builtin.Slice.sliceFields
 refine wpAny_bind (wpAny_bind (wpAny_field hos hds (x:=vl) rfl (wpAny_bind (wpAny_field hos hds (x:=vu) rfl (wpAny_bind (wpAny_field hos hds (x:=.none) rfl (wpAny_pure ?_)))))))
 refine wpAny_bind (slicePart_none ?_)
 show wpAny _ _ (if((1:Int)==0)=true then _ else _) _ _ s
 rw[if_neg (by decide)]
 refine wpAny_bind (qk pl (wpAny_bind (qk pu (wpAny_bind (wpAny_pure ?_)))))
 show wpAny _ _ (match Builtin.Slice.sliceAdjust lo hi 1 (n:Int)with|(lo,hi)=>pure (lo,(1:Int),Builtin.Slice.slicePlaces lo hi 1)) _ _ s
 rw[yT lo hi n]
 show wpAny _ _ (pure (((fu n 0 lo:Nat):Int),(1:Int),Builtin.Slice.slicePlaces ((fu n 0 lo:Nat):Int) ((fu n n hi:Nat):Int) 1)) _ _ s
 rw[xZ]
 exact wpAny_pure h
theorem Eh(xs:Array Value)(i k:Nat):((List.range k).filterMap λ(m:Nat)=>xs[((i:Int)+(m:Int)*1).toNat]?).toArray=((xs.toList.drop i).take k).toArray:=by
 have e:(λ(m:Nat)=>xs[((i:Int)+(m:Int)*1).toNat]?)=λm=>xs[i+m]? :=by
  funext m
  have:((i:Int)+(m:Int)*1).toNat=i+m:=by lia
  rw[this]
 rw[e]
 have:=pick_run xs i k
 rw[List.filterMap_map]at this
 have e2:((λx=>xs[x]?)∘λx=>i+x)=λm=>xs[i+m]? :=rfl
 rw[e2]at this
 rw[this]
theorem mF{t sl:Addr}{items:Array Value}{vl vu:Value}{lo hi:Option Int}{Q:Value->Shared->Prop}(ht:IsTup s.heap t items)(hs:s.heap.IsSliceOf sl vl vu .none)(pl:IsPart vl lo)(pu:IsPart vu hi)
  (hw:¬(fu items.size 0 lo=0/\fu items.size items.size hi=items.size))
  (h:Q (.ref s.heap.objs.size) {s with heap:=s.heap.push {cls:=.type "tuple",data:=.seq ((items.toList.drop (fu items.size 0 lo)).take (fu items.size items.size hi-fu items.size 0 lo)).toArray} })
  (hsz:items.size<=sizeLine):wpAny (model prog w) A (getItem (.ref t) (.ref sl)) Q E s:=by
 have Aw:sizeOk (.seq ((items.toList.drop (fu items.size 0 lo)).take (fu items.size items.size hi-fu items.size 0 lo)).toArray):=by
  show((items.toList.drop (fu items.size 0 lo)).take (fu items.size items.size hi-fu items.size 0 lo)).toArray.size<=sizeLine
  rw[List.size_toArray,List.length_take,List.length_drop,Array.length_toList]
  lia
 have hj:fu items.size items.size hi<=items.size:=LA _ _ (Nat.le_refl _) hi
 obtain⟨os,hos,hcs,hds⟩:=id hs
 have hTs:s.TypeIs (.ref sl) "slice":=⟨os,hos,hcs⟩
 unfold getItem
 try with_reducible refine wpAny_holding ?_
 first|refine wpAny_bind (wpAny_pure ?_)|skip
 refine wpAny_bind (wpAny_sequenceKey ht.typeIs (by decide) ?_)
 refine wpAny_bind (wpAny_callSpecial?_slot (name:=Str.ofString "__getitem__") ht.typeIs PyProof.Rows.slot_tuple_getitem
  (wpAny_call_entry PyProof.Rows.slot_tuple_getitem ht.typeIs entry_tuple_getitem ?_ (args_tuple_getitem _ _)))
 show wpAny _ _ (Builtin.Tuple.tupleItemsOf (.ref t) >>= _) _ _ s
 refine wpAny_bind (tupleItemsOf_ ht ?_)
 refine wpAny_bind (wpAny_typeOf hTs ?_)
 rw[if_pos (by decide)]
 refine wpAny_bind (mZ hs pl pu ?_)
 have hno:¬((((fu items.size 0 lo:Nat):Int)==0&&(1:Int)==1&&(fu items.size items.size hi-fu items.size 0 lo)==items.size)=true):=by
  intro q
  rw[Bool.and_eq_true,Bool.and_eq_true]at q
  have q1:((fu items.size 0 lo:Nat):Int)=0:=eq_of_beq q.1.1
  have q2:fu items.size items.size hi-fu items.size 0 lo=items.size:=eq_of_beq q.2
  exact hw ⟨by lia,by lia⟩
 show wpAny _ _ (if(((fu items.size 0 lo:Nat):Int)==0&&(1:Int)==1&&(fu items.size items.size hi-fu items.size 0 lo)==items.size)=true then _ else _) _ _ s
 rw[if_neg hno,Eh]
 first
  |exact wpAny_bind (m:=Builtin.Tuple.tupleExact _) (wpAny_newObj_type (wpAny_pure ⟨_,rfl,wpAny_pure h⟩) Aw)
  |exact wpAny_bind (m:=Builtin.Tuple.tupleExact _) (wpAny_newObj_type (wpAny_bind (wpAny_pure (wpAny_pure ⟨_,rfl,wpAny_pure h⟩))) Aw)
  |exact wpAny_bind (wpAny_bind (m:=Builtin.Tuple.tupleExact _) (wpAny_newObj_type (wpAny_pure (wpAny_pure ⟨_,rfl,wpAny_pure h⟩)) Aw))
  |exact wpAny_bind (wpAny_bind (m:=Builtin.Tuple.tupleExact _) (wpAny_newObj_type (wpAny_pure ⟨_,rfl,wpAny_pure h⟩) Aw))
end
end HT
namespace L2
open PySem PySem.Spec PyProof.Rows
abbrev TO:=St->Hp->(Option Int->Hp->Prop)->Prop
def PO(X:Cx)(e:Option Expr)(t:TO):Prop:=
 ∀(pins:List (Addr×Obj))(s:Shared)(σ:St)(H:Hp)(Q:Option Int->Hp->Prop),Inv X pins σ H s->t σ H Q->
  wpAny (model X.prog X.w) X.A (evalPart e X.env) (λu s'=>∃o H',Inv X pins σ H' s'/\IsPart u o/\Q o H') X.xe s
def GY:TO:=λ_ H Q=>Q none H
inductive CV(Q:Option Int->Hp->Prop)(x:V)(H1:Hp):Prop
 |mk(i:_):(x=.int i)->(Q (some i) H1)->CV Q x H1
def OQ(t:TE):TO:=λσ H Q=>t σ H λx H1=>CV Q x H1
theorem intsAre_of{ns:List Int}:∀{us:List Value},Vals (ns.map V.int) us->IntsAre us ns:=by
 induction ns with
 |nil=>intro us r;rw[List.map_nil]at r;cases r;exact .nil
 |cons n ns ih=>
  intro us r
  rw[List.map_cons]at r
  cases r with
  |cons r1 r2=>
   obtain⟨t,e⟩:=r1
   subst e
   exact .cons n t (ih r2)
section
variable {X:Cx} {e:Expr} {te:TE} {lo hi:Option Expr} {tl th:TO} {pos p2:Pos}
theorem HJ:PO X none GY:=by
 intro pins s σ H Q I h
 rw[evalPart_none]
 exact wpAny_pure ⟨none,H,I,.none,h⟩
theorem lU(h:PE X e te):PO X (some e) (OQ te):=by
 intro pins s σ H Q I hw
 rw[evalPart_some]
 refine dm (h pins s σ H _ I hw) λu s1 ⟨x,H1,I1,r1,q1⟩=>?_
 obtain⟨i,rfl,q⟩:=q1
 obtain⟨t,rfl⟩:=r1
 exact⟨some i,H1,I1,.int i t,q⟩
def TQ(X:Cx)(r:V->Option Int->Option Int->Hp->VK->Prop):Prop:=
 ∀(pins:List (Addr×Obj))(s:Shared)(σ:St)(H:Hp)(x:V)(v vl vu:Value)(lo hi:Option Int)(sl:Addr)(Q:VK),Inv X pins σ H s->RelV x v->s.heap.IsSliceOf sl vl vu .none->IsPart vl lo->IsPart vu hi->r x lo hi H Q->
  ∃T id,typeLookup (.type T) "__getitem__"=pure (some (.builtin id))/\s.TypeIs v T/\wpAny (model X.prog X.w) X.A (getItem v (.ref sl)) (EP X pins σ Q) X.xe s
def ZL(r:V->Option Int->Option Int->Hp->VK->Prop)(te:TE)(tl th:TO):TE:=λσ H Q=>te σ H λx H1=>tl σ H1 λl H2=>th σ H2 λu H3=>r x l u H3 Q
theorem qq{r:V->Option Int->Option Int->Hp->VK->Prop}(hr:TQ X r)(he:PE X e te)(hl:PO X lo tl)(hu:PO X hi th):PE X (.Subscript e (.Slice lo hi none p2) pos) (ZL r te tl th):=by
 intro pins s σ H Q I h
 refine Subscript_ (dm (he pins s σ H _ I h) λv s1 ⟨x,H1,I1,r1,q1⟩=>?_)
 refine wpAny_Slice (dm (hl pins s1 σ H1 _ I1 q1) λvl s2 ⟨l,H2,I2,pl,q2⟩=>dm (hu pins s2 σ H2 _ I2 q2) λvu s3 ⟨u,H3,I3,pu,q3⟩=>?_)
 rw[evalPart_none]
 refine wpAny_pure ?_
 have I4:Inv X pins σ H3 {s3 with heap:=s3.heap.push {cls:=.type "slice",data:=.fields #[vl,vu,.none]} }:=I3.kept (t':=s3.toks) λb ob q=>Heap.get?_push_of_some _ q
 obtain⟨T,id,hT,ht,hg⟩:=hr pins {s3 with heap:=s3.heap.push {cls:=.type "slice",data:=.fields #[vl,vu,.none]} } σ H3 x v vl vu l u s3.heap.objs.size Q I4 r1 (Heap.IsSliceOf.new ..) pl pu q3
 show wpAny (model X.prog X.w) X.A (subscriptTail e (.Slice lo hi none p2) v (.ref s3.heap.objs.size)) (EP X pins σ Q) X.xe {s3 with heap:=s3.heap.push {cls:=.type "slice",data:=.fields #[vl,vu,.none]} }
 exact tail_any (ops:=[.ref s3.heap.objs.size,v]) ht hT hg (by with_unfolding_all rfl)
def mJ(xs:List V)(lo hi:Option Int):List V:=(xs.drop (HT.fu xs.length 0 lo)).take (HT.fu xs.length xs.length hi-HT.fu xs.length 0 lo)
theorem oZ(xs:List V)(lo hi:Option Int):(mJ xs lo hi).length<=xs.length:=by
 unfold mJ
 rw[List.length_take,List.length_drop]
 lia
inductive JX(K:Fg7)(x:V)(lo:Option Int)(hi:Option Int)(H:Hp)(Q:VK):Prop
 |mk(a:_)(xs:_):(x=.ref a)->(bJ K H a xs)->(¬(HT.fu xs.length 0 lo=0/\HT.fu xs.length xs.length hi=xs.length))->(∀p,H p=none->Q (.ref p) (upd H p (.tup (mJ xs lo hi))))->JX K x lo hi H Q
def UJ(K:Fg7):V->Option Int->Option Int->Hp->VK->Prop:=λx lo hi H Q=>JX K x lo hi H Q
theorem Lw:TQ X (UJ X.K):=by
 intro pins s σ H x v vl vu lo hi sl Q I rx hs pl pu h
 obtain⟨a,xs,rfl,hx,hw,q⟩:=h
 cases rx
 obtain⟨its,r,ht,hz⟩:=I.tuple hx
 have hlen:its.toArray.size=xs.length:=by rw[List.size_toArray];exact r.length.symm
 refine⟨"tuple",_,PyProof.Rows.slot_tuple_getitem.lookup,ht.typeIs,?_⟩
 refine HT.mF ht hs pl pu (by rw[hlen];exact hw) ?_ (by rw[hlen];exact hz)
 rw[hlen]
 refine⟨.ref s.heap.objs.size,_,I.laid (t':=s.toks) (o:=.tup (mJ xs lo hi)) (λb ob q=>Heap.get?_push_of_some _ q) (Nat.le_refl _) ?_,rfl,q _ (I.hok.fresh (Nat.le_refl _))⟩
 exact⟨Nat.le_trans (oZ xs lo hi) hz,_,(r.drop (HT.fu xs.length 0 lo)).take (HT.fu xs.length xs.length hi-HT.fu xs.length 0 lo),IsTup.new _ _⟩
inductive Ec(K:Fg7)(x:V)(y:V)(H:Hp)(Q:VK):Prop
 |mk(a:_)(b:_)(xs:_)(ys:_):(x=.ref a)->(y=.ref b)->(bJ K H a xs)->(bJ K H b ys)->(xs≠[])->(xs.length+ys.length<=sizeLine)->((ys=[]->Q (.ref a) H))->((ys≠[]->∀p,H p=none->Q (.ref p) (upd H p (.tup (xs++ys)))))->Ec K x y H Q
def Kg(K:Fg7):R2:=λx y H Q=>Ec K x y H Q
theorem Vals.uu{xs:List V}{us:List Value}(r:Vals xs us):us=[]↔xs=[]:=by
 cases r with
 |nil=>simp
 |cons _ _=>simp
theorem HW:iD X (binaryOp .Add) (Kg X.K):=by
 intro pins s σ H x y v u Q I rx ry h
 obtain⟨a,b,xs,ys,rfl,rfl,ha,hb,hx,hz,q1,q2⟩:=h
 cases rx
 cases ry
 obtain⟨its,r1,p1,_⟩:=I.tuple ha
 obtain⟨its2,r2,p2,_⟩:=I.tuple hb
 refine HT.Jf p1 p2 (λz=>hx (r1.uu.mp z)) (λz=>⟨.ref a,H,I,rfl,q1 (r2.uu.mp z)⟩) (λz=>?_) (by rw[←r1.length,←r2.length];exact hz)
 refine⟨.ref s.heap.objs.size,_,I.laid (t':=s.toks) (o:=.tup (xs++ys)) (λb ob q=>Heap.get?_push_of_some _ q) (Nat.le_refl _) ?_,rfl,q2 (λw=>z (r2.uu.mpr w)) _ (I.hok.fresh (Nat.le_refl _))⟩
 exact⟨by rw[List.length_append];exact hz,_,r1.append r2,IsTup.new _ _⟩
end
def EZ(n:Nat)(i:Int):Option Nat:=if 0<=i then(if i<n then some i.toNat else none)else if -(n:Int)<=i then some (i+n).toNat else none
def wW{α:Type}(xs:List α)(i:Int):Option α:=(EZ xs.length i).bind λj=>xs[j]?
theorem Ar{n:Nat}{i:Int}{j:Nat}(h:EZ n i=some j):seqIndex? i n=some j/\j<n/\-(n:Int)<=i/\i<n:=by
 unfold EZ at h
 by_cases h0:0<=i
 ·rw[if_pos h0]at h
  by_cases h1:i<n
  ·rw[if_pos h1]at h
   have e:i.toNat=j:=Option.some.inj h
   exact⟨by rw[seqIndex_of h0 h1,e],by lia,by lia,h1⟩
  ·rw[if_neg h1]at h;cases h
 ·rw[if_neg h0]at h
  by_cases h1: -(n:Int)<=i
  ·rw[if_pos h1]at h
   have e:(i+n).toNat=j:=Option.some.inj h
   exact⟨by rw[seqIndex_neg LI h1,e],by lia,h1,by lia⟩
  ·rw[if_neg h1]at h;cases h
theorem uI{α:Type}{xs:List α}{i:Int}{v:α}(h:wW xs i=some v):∃j,seqIndex? i xs.length=some j/\xs[j]? = some v/\j<xs.length/\-(xs.length:Int)<=i/\i<xs.length:=by
 unfold wW at h
 cases e:EZ xs.length i with
 |none=>rw[e]at h;cases h
 |some j=>
  rw[e]at h
  obtain⟨h1,h2,h3,h4⟩:=Ar e
  exact⟨j,h1,h,h2,h3,h4⟩
theorem fq{α:Type}{xs:List α}{j:Nat}{v:α}(h:xs[j]? = some v):wW xs (j:Int)=some v:=by
 have hj:j<xs.length:=(List.getElem?_eq_some_iff.mp h).1
 have e:EZ xs.length (j:Int)=some j:=by
  unfold EZ
  rw[if_pos LI,if_pos LI];simp
 unfold wW;rw[e];exact h
theorem qT{α:Type}(xs:List α)(v:α):wW (xs++[v]) (-1)=some v:=by
 have hl:(xs++[v]).length=xs.length+1:=by simp
 have e:EZ (xs++[v]).length (-1)=some xs.length:=by
  unfold EZ
  rw[hl,if_neg (by decide),if_pos LI]
  congr 1
  lia
 unfold wW
 rw[e]
 show(xs++[v])[xs.length]? = some v
 simp
def Jm(b:Expr):Prop:=∀o i,subscripted b false o i=operate [o,i] (getItem o i)
def Gs(X:Cx)(r:R2):Prop:=
 ∀(value slice:Expr)(pins:List (Addr×Obj))(s:Shared)(σ:St)(H:Hp)(x y:V)(v u:Value)(Q:VK),Inv X pins σ H s->RelV x v->RelV y u->r x y H Q->
  subscripted slice false v u=operate [v,u] (getItem v u)->wpAny (model X.prog X.w) X.A (subscriptTail value slice v u) (EP X pins σ Q) X.xe s
def W_(X:Cx)(id:String)(r:V->List V->Hp->VK->Prop):Prop:=
 ∀(pins:List (Addr×Obj))(s:Shared)(σ:St)(H:Hp)(x:V)(xs:List V)(v:Value)(us:List Value)(Q:VK),Inv X pins σ H s->RelV x v->Vals xs us->r x xs H Q->
  wpAny (model X.prog X.w) X.A (call (.builtin id) (v::us)) (EP X pins σ Q) X.xe s
section
variable {X:Cx} {a b:Expr} {ta tb:TE} {pos:Pos}
theorem Gs.or{r r':R2}(h:Gs X r)(h':Gs X r'):Gs X (λx y H Q=>r x y H Q\/r' x y H Q):=by
 intro value slice pins s σ H x y v u Q I rx ry q hs
 rcases q with q|q
 ·exact h value slice pins s σ H x y v u Q I rx ry q hs
 ·exact h' value slice pins s σ H x y v u Q I rx ry q hs
theorem aI{r:R2}(hr:Gs X r)(ha:PE X a ta)(hb:PE X b tb)(hs:Jm b):PE X (.Subscript a b pos) (Ob r ta tb):=by
 intro pins s σ H Q I h
 exact Subscript_ (NT ha hb I h λv u s2 x y H2 I2 rx ry q=>hr a b pins s2 σ H2 x y v u Q I2 rx ry q (hs _ _))
inductive Ke(K:Fg7)(x:V)(y:V)(H:Hp)(Q:VK):Prop
 |mk(p:_)(xs:_)(i:_)(v:_):(x=.ref p)->(y=.int i)->(aZ K H p xs)->(wW xs i=some v)->(Q v H)->Ke K x y H Q
def Ph(K:Fg7):R2:=λx y H Q=>Ke K x y H Q
inductive Kc(K:Fg7)(x:V)(y:V)(H:Hp)(Q:VK):Prop
 |mk(p:_)(xs:_)(i:_)(v:_):(x=.ref p)->(y=.int i)->(bJ K H p xs)->(wW xs i=some v)->(Q v H)->Kc K x y H Q
def LF(K:Fg7):R2:=λx y H Q=>Kc K x y H Q
inductive Kd(x:V)(y:V)(H:Hp)(Q:VK):Prop
 |mk(z:_)(i:_)(c:_):(x=.str z)->(y=.int i)->(z.length<=sizeLine)->(wW z.cps.toList i=some c)->(Q (.str ⟨#[c]⟩) H)->Kd x y H Q
def Pg:R2:=λx y H Q=>Kd x y H Q
theorem bH:Gs X (Ph X.K):=by
 intro value slice pins s σ H x y v u Q I rx ry h hs
 obtain⟨p,xs,i,z,rfl,rfl,hq,he,q⟩:=h
 cases rx
 obtain⟨t,rfl⟩:=ry
 obtain⟨its,r,pl,hz⟩:=I.list hq
 obtain⟨j,h1,h2,h3,h4,h5⟩:=uI he
 obtain⟨w,ew,rw'⟩:=r.get h2
 have hl:=r.length
 have hn:=qB
 have fin:EP X pins σ Q w s:=⟨z,H,I,rw',q⟩
 by_cases h0:0<=i
 ·have hj:i.toNat=j:=by
   rw[seqIndex_of h0 h5]at h1
   exact Option.some.inj h1
  exact item_listR pl.isList h0 LI (by rw[hj];simpa using ew) fin hs
 ·have hj:(i+(its.toArray.size:Int)).toNat=j:=by
   rw[seqIndex_neg LI h4]at h1
   rw[List.size_toArray,←hl]
   exact Option.some.inj h1
  exact subscriptTail_builtinR (x:=w) pl.isList.typeIs slot_list_getitem.lookup
   (wpAny_getItem_list_neg (Q:=λr s'=>r=w/\EP X pins σ Q r s') pl.isList LI (by rw[List.size_toArray]<;>lia) LI (by rw[hj];simpa using ew) ⟨rfl,fin⟩) hs
theorem bC:Gs X (LF X.K):=by
 intro value slice pins s σ H x y v u Q I rx ry h hs
 obtain⟨p,xs,i,z,rfl,rfl,hq,he,q⟩:=h
 cases rx
 obtain⟨t,rfl⟩:=ry
 obtain⟨its,r,pl,hz⟩:=I.tuple hq
 obtain⟨j,h1,h2,h3,h4,h5⟩:=uI he
 obtain⟨w,ew,rw'⟩:=r.get h2
 have hl:=r.length
 have hn:=qB
 have fin:EP X pins σ Q w s:=⟨z,H,I,rw',q⟩
 exact subscriptTail_builtinR (x:=w) pl.typeIs slot_tuple_getitem.lookup
  (getItem_tuple (j:=j) (Q:=λr s'=>r=w/\EP X pins σ Q r s') pl LI LI (by rw[List.size_toArray,←hl];exact h1) (by simpa using ew) ⟨rfl,fin⟩) hs
theorem MM:Gs X Pg:=by
 intro value slice pins s σ H x y v u Q I rx ry h hs
 obtain⟨z,i,c,rfl,rfl,hz,he,q⟩:=h
 obtain⟨t,rfl⟩:=rx
 obtain⟨t',rfl⟩:=ry
 obtain⟨j,h1,h2,h3,h4,h5⟩:=uI he
 have hl:z.cps.toList.length=z.length:=by simp[Str.length]
 rw[hl]at h1 h4 h5
 have hn:=qB
 exact tail_any (typeIs_str s z t) slot_str_getitem.lookup (getItem_str (c:=c) (by
  have e1:decide (i < -(2^63:Int))=false:=decide_eq_false LI
  have e2:decide (i≥2^63)=false:=decide_eq_false LI
  rw[e1,e2,Bool.or_false]) (by rw[h1];simpa using h2) ⟨.str ⟨#[c]⟩,H,I.tok _,⟨_,rfl⟩,q⟩) hs
def rIx(K:Fg7):R2:=λx y H Q=>Ph K x y H Q\/LF K x y H Q\/Pg x y H Q
theorem EX:Gs X (rIx X.K):=bH.or (bC.or MM)
theorem ym(its:List Value)(n j:Nat)(u:Value):Obj.mapSeq (·.setIfInBounds j u) {cls:=.type "list",data:=.seq its.toArray n}={cls:=.type "list",data:=.seq (its.set j u).toArray n}:=by
 simp[Obj.mapSeq]
theorem Inv.lst{pins:List (Addr×Obj)}{σ:St}{H:Hp}{s:Shared}{p:Addr}{xs:List V}(I:Inv X pins σ H s)(h:H p=some (.lst xs)):
  ∃(its:List Value) (n:Nat),Vals xs its/\s.heap.get? p=some {cls:=.type "list",data:=.seq its.toArray n}/\xs.length<=sizeLine:=by
 obtain⟨z,its,n,r,e⟩:=I.hok p _ h
 exact⟨its,n,r,e,z⟩
theorem Inv.Mh{pins:List (Addr×Obj)}{σ:St}{H:Hp}{s:Shared}{p:Addr}{xs ys:List V}{its its':List Value}{n n':Nat}{f:Obj->Obj}(I:Inv X pins σ H s)(h:H p=some (.lst xs))
  (ho:s.heap.get? p=some {cls:=.type "list",data:=.seq its.toArray n})(hf:f {cls:=.type "list",data:=.seq its.toArray n}={cls:=.type "list",data:=.seq its'.toArray n'})(r:Vals ys its')(hz:ys.length<=sizeLine)(t:Nat):
  Inv X pins σ (upd H p (.lst ys)) {s with heap:=s.heap.update p f,toks:=t}:=by
 have e:(s.heap.update p f).get? p=some {cls:=.type "list",data:=.seq its'.toArray n'}:=by
  rw[Heap.get?_update_self f ho (by rw[hf]<;>rfl),hf]
 refine I.write (x:=p) (e:=p) (by rw[h];trivial) (.inl rfl) (λb u hb q=>(Heap.get?_update_other _ _ (Ne.symm hb)).trans q) ⟨_,e⟩ ?_
 exact⟨hz,its',n',r,e⟩
inductive Ea(o:V)(i:V)(v:V)(H:Hp)(Q:(Hp->Prop)):Prop
 |mk(p:_)(xs:_)(k:_)(j:_):(o=.ref p)->(i=.int k)->(H p=some (.lst xs))->(EZ xs.length k=some j)->(Q (upd H p (.lst (xs.set j v))))->Ea o i v H Q
def Pe:V->V->V->Hp->(Hp->Prop)->Prop:=λo i v H Q=>Ea o i v H Q
theorem set_list:NZ X Pe:=by
 intro pins s σ H o i v ov iv u Q I ro ri rv h
 obtain⟨p,xs,k,j,rfl,rfl,hp,hj,q⟩:=h
 cases ro
 obtain⟨t,rfl⟩:=ri
 obtain⟨its,n,r,ho,hz⟩:=I.lst hp
 obtain⟨h1,h2,h3,h4⟩:=Ar hj
 have hl:=r.length
 have hn:=qB
 have I':Inv X pins σ (upd H p (.lst (xs.set j v))) {s with heap:=s.heap.update p (Obj.mapSeq (·.setIfInBounds j u))}:=
  I.Mh hp ho (ym its n j u) (r.set rv j) (by rw[List.length_set];exact hz) s.toks
 by_cases h0:0<=k
 ·have hk:k.toNat=j:=by
   rw[seqIndex_of h0 h4]at h1
   exact Option.some.inj h1
  exact PySem.W.ki_setAt ho h0 LI (by rw[List.size_toArray,←hl];exact h4) (by rw[hk];exact⟨_,I',q⟩)
 ·have hk:(k+(its.toArray.size:Int)).toNat=j:=by
   rw[seqIndex_neg LI h3]at h1
   rw[List.size_toArray,←hl]
   exact Option.some.inj h1
  exact PySem.W.ki_setBack ho LI (by rw[List.size_toArray,←hl];exact h3) LI (by rw[hk];exact⟨_,I',q⟩)
theorem tZ(lo hi:Option Int)(n:Nat):(sliceBounds lo hi none n).1=((HT.fu n 0 lo:Nat):Int)/\(sliceBounds lo hi none n).2.1=((HT.fu n n hi:Nat):Int)/\(sliceBounds lo hi none n).2.2=1:=by
 refine⟨?_,?_,rfl⟩
 ·cases lo with
  |none=>simp[sliceBounds,HT.fu]
  |some i=>
   simp only[sliceBounds,HT.fu,Option.getD_none,show(1:Int)>0 by decide,if_true]
   by_cases h:i<0
   ·simp only[h,if_true]<;>lia
   ·simp only[h,if_false]<;>lia
 ·cases hi with
  |none=>simp[sliceBounds,HT.fu]
  |some i=>
   simp only[sliceBounds,HT.fu,Option.getD_none,show(1:Int)>0 by decide,if_true]
   by_cases h:i<0
   ·simp only[h,if_true]<;>lia
   ·simp only[h,if_false]<;>lia
theorem rE(its:List Value)(lo hi:Option Int):slicePick its.toArray lo hi none=((its.drop (HT.fu its.length 0 lo)).take (HT.fu its.length its.length hi-HT.fu its.length 0 lo)).toArray:=by
 obtain⟨h1,h2,h3⟩:=tZ lo hi its.toArray.size
 unfold slicePick
 rw[h1,h2,h3]
 simp only[sliceRange_one,pick_run,List.size_toArray]<;>rfl
inductive JY(K:Fg7)(x:V)(lo:Option Int)(hi:Option Int)(H:Hp)(Q:VK):Prop
 |mk(a:_)(xs:_):(x=.ref a)->(aZ K H a xs)->(∀p,H p=none->Q (.ref p) (upd H p (.lst (mJ xs lo hi))))->JY K x lo hi H Q
def UK(K:Fg7):V->Option Int->Option Int->Hp->VK->Prop:=λx lo hi H Q=>JY K x lo hi H Q
theorem zS:TQ X (UK X.K):=by
 intro pins s σ H x v vl vu lo hi sl Q I rx hs pl pu h
 obtain⟨a,xs,rfl,hx,q⟩:=h
 cases rx
 obtain⟨its,r,ht,hz⟩:=I.list hx
 have hlen:=r.length
 refine⟨"list",_,slot_list_getitem.lookup,ht.isList.typeIs,?_⟩
 refine wpAny_getItem_list_slice ht.isList hs pl pu .none (by simp) ?_ (by rw[List.size_toArray]<;>lia)
 rw[rE,←hlen]
 refine⟨.ref s.heap.objs.size,_,I.laid (t':=s.toks) (o:=.lst (mJ xs lo hi)) (λb ob q=>Heap.get?_push_of_some _ q) (Nat.le_refl _) ?_,rfl,q _ (I.hok.fresh (Nat.le_refl _))⟩
 exact⟨Nat.le_trans (oZ xs lo hi) hz,_,0,(r.drop (HT.fu xs.length 0 lo)).take (HT.fu xs.length xs.length hi-HT.fu xs.length 0 lo),Heap.get?_push_size _ rfl⟩
theorem br:ir X (.builtin "len") (λxs H Q=>∃p ys,xs=[.ref p]/\(aZ X.K H p ys\/bJ X.K H p ys)/\Q (.int ys.length) H):=by
 intro pins s σ H xs us Q I r h
 obtain⟨p,ys,rfl,hq,q⟩:=h
 obtain⟨u,rfl,rx⟩:=vals1 r
 cases rx
 have hn:=qB
 rcases hq with hq|hq
 ·obtain⟨its,r',pl,hz⟩:=I.list hq
  have hlen:=r'.length
  exact Calls.call_len_list pl.isList (by simp only[List.size_toArray]<;>lia) ⟨.int ys.length,H,I.tok _,⟨s.toks+1,by rw[List.size_toArray,hlen]⟩,q⟩
 ·obtain⟨its,r',pl,hz⟩:=I.tuple hq
  have hlen:=r'.length
  exact len_tuple pl (by simp only[List.size_toArray]<;>lia) ⟨.int ys.length,H,I.tok _,⟨s.toks+1,by rw[List.size_toArray,hlen]⟩,q⟩
theorem iX:ir X (.type "list") (λxs H Q=>∃p ys,xs=[.ref p]/\(aZ X.K H p ys\/bJ X.K H p ys)/\∀l,H l=none->Q (.ref l) (upd H l (.lst ys))):=by
 intro pins s σ H xs us Q I r h
 obtain⟨p,ys,rfl,hq,q⟩:=h
 obtain⟨u,rfl,rx⟩:=vals1 r
 cases rx
 have fin:∀(its:List Value),Vals ys its->ys.length<=sizeLine->∀(h':Heap)(c':Nat),(∀b o',s.heap.get? b=some o'->h'.get? b=some o')->
   h'.get? s.heap.objs.size=some {cls:=.type "list",dict:=none,data:=.seq its.toArray c',slots:= #[]}->EP X pins σ Q (.ref s.heap.objs.size) {s with heap:=h'}:=λits r' hz h' c' kp e=>
  ⟨.ref s.heap.objs.size,_,I.laid (t':=s.toks) kp (Nat.le_refl _) (show cA X.prog X.w _ h' _ (.lst ys)from⟨hz,its,c',r',e⟩),rfl,q _ (I.hok.fresh (Nat.le_refl _))⟩
 rcases hq with hq|hq
 ·obtain⟨its,r',pl,hz⟩:=I.list hq
  have hlen:=r'.length
  obtain⟨o,ho,hc,n,hd⟩:=pl.isList
  exact call_list_seq p (.inl rfl) ho hc hd (λh' c' kp e=>fin its r' hz h' c' kp e) (by simp only[List.size_toArray]<;>lia)
 ·obtain⟨its,r',pl,hz⟩:=I.tuple hq
  have hlen:=r'.length
  obtain⟨o,ho,hc,n,hd⟩:=pl
  exact call_list_seq p (.inr rfl) ho hc hd (λh' c' kp e=>fin its r' hz h' c' kp e) (by simp only[List.size_toArray]<;>lia)
def Uj(K:Fg7)(T:String)(x:V)(H:Hp):Prop:=match x with
 |.str _=>T="str"
 |.int _=>T="int"
 |.ref p=>(T="list"/\∃xs,aZ K H p xs)\/(T="tuple"/\∃o,K.lookup p=some o/\o.cls=.type "tuple"/\o.dict=none)\/
   (T="dict"/\((∃kvs,H p=some (.dK kvs))\/∃kvs,H p=some (.dT kvs)))\/(T="set"/\∃S n,H p=some (.set S n))
 |_=>False
theorem CL{pins:List (Addr×Obj)}{σ:St}{H:Hp}{s:Shared}{T:String}{x:V}{v:Value}(I:Inv X pins σ H s)(r:RelV x v)(ty:Uj X.K T x H):
  s.TypeIs v T/\∀a,v=.ref a->∃ob,s.heap.get? a=some ob/\ob.dict=none:=by
 cases x with
 |str z=>
  obtain⟨t,rfl⟩:=r
  cases(show T="str" from ty)
  exact⟨typeIs_str s z t,λ_ e=>nomatch e⟩
 |int i=>
  obtain⟨t,rfl⟩:=r
  cases(show T="int" from ty)
  exact⟨typeIs_int s i t,λ_ e=>nomatch e⟩
 |ref p=>
  cases r
  rcases ty with⟨rfl,xs,hq⟩|⟨rfl,o,hk,hc,hd⟩|⟨rfl,hk⟩|⟨rfl,S,n,hk⟩
  ·obtain⟨its,_,pl,_⟩:=I.list hq
   refine⟨pl.isList.typeIs,λa e=>?_⟩
   cases e
   obtain⟨o,n,e,c,hd,_⟩:=pl
   exact⟨o,e,hd⟩
  ·refine⟨⟨o,I.mE p o hk,hc⟩,λa e=>?_⟩
   cases e
   exact⟨o,I.mE _ o hk,hd⟩
  ·have z:∃o,s.heap.get? p=some o/\o.ExactDict:=by
    rcases hk with⟨kvs,hk⟩|⟨kvs,hk⟩
    ·obtain⟨_,_,_,_,o,_,_,e,ex,_⟩:=I.hok p _ hk
     exact⟨o,e,ex⟩
    ·obtain⟨_,_,_,_,o,_,_,e,ex,_⟩:=I.hok p _ hk
     exact⟨o,e,ex⟩
   obtain⟨o,e,ex⟩:=z
   refine⟨⟨o,e,ex.1⟩,λa e2=>?_⟩
   cases e2
   exact⟨o,e,ex.2.1⟩
  ·obtain⟨o,_,_,_,e,ex,_⟩:=I.hok p _ hk
   refine⟨⟨o,e,ex.1⟩,λa e2=>?_⟩
   cases e2
   exact⟨o,e,ex.2.1⟩
 |_=>exact False.elim ty
def Uw(K:Fg7)(T:String)(r:V->List V->Hp->VK->Prop)(to:TE):TE:=λσ H Q=>to σ H λx H1=>Uj K T x H1/\r x [] H1 Q
def ZN(K:Fg7)(T:String)(r:V->List V->Hp->VK->Prop)(to:TE)(t:TA):TE:=λσ H Q=>to σ H λx H1=>Uj K T x H1/\t σ H1 λxs H2=>r x xs H2 Q
variable {o e:Expr} {es:List Expr} {to:TE} {t:TA} {name:Str} {apos cpos:Pos} {T id:String} {r:V->List V->Hp->VK->Prop}
theorem Ep(pa:PlainAttrs T)(slot:Slot T name id)(hty:typeOf (.builtin id)=pure (.type "method_descriptor"))(hm:W_ X id r)(ho:PE X o to)
  (hbase:attributeBase o name X.env (eval o X.env)=eval o X.env:=by rfl)(hline:(apos.endLine==cpos.line)=true:=by rfl):PE X (.Call (.Attribute o name apos) [] [] cpos) (Uw X.K T r to):=by
 intro pins s σ H Q I h
 refine wpAny_Call_method0_late hbase hline (dm (ho pins s σ H _ I h) λv s1 ⟨x,H1,I1,r1,ty,q1⟩=>?_)
 obtain⟨h1,h2⟩:=CL I1 r1 ty
 exact⟨T,id,pa,slot,hty,h1,h2,Calls.callWith_builtin rfl (PySem.evalArgs_none (hm pins s1 σ H1 x [] v [] Q I1 r1 .nil q1))⟩
theorem oQ(pa:PlainAttrs T)(slot:Slot T name id)(hty:typeOf (.builtin id)=pure (.type "method_descriptor"))(hm:W_ X id r)(ho:PE X o to)(ha:PA X (e::es) t)
  (hbase:attributeBase o name X.env (eval o X.env)=eval o X.env:=by rfl)
  (hfew:((backTo cpos (starEach (e::es) X.env)).all (λx=> !x.1)&&(backToKw cpos (keywordEach [] X.env)).all (λx=>x.1.isSome)
   && decide ((e::es).length+([]:List Keyword).length+(if([]:List Keyword).isEmpty then 0 else 1)<30))=true:=by rfl)
  (hline:(apos.endLine==cpos.line)=true:=by rfl)(hs:starEach (e::es) X.env=(false,eval e X.env)::starEach es X.env:=by rfl)(hplain:(backTo cpos (starEach es X.env)).any (·.1)=false:=by rfl):
  PE X (.Call (.Attribute o name apos) (e::es) [] cpos) (ZN X.K T r to t):=by
 intro pins s σ H Q I h
 refine wpAny_Call_method_late hbase hfew hline rfl (dm (ho pins s σ H _ I h) λv s1 ⟨x,H1,I1,r1,ty,q1⟩=>?_)
 obtain⟨h1,h2⟩:=CL I1 r1 ty
 refine⟨T,id,pa,slot,hty,h1,h2,?_⟩
 have hA:=ha cpos pins s1 σ H1 _ I1 q1
 rw[hs]at hA ⊢
 refine Calls.callWith_builtin (by show(false||(backTo cpos (starEach es X.env)).any (·.1))=false;rw[hplain]<;>rfl) (Calls.evalArgs_plain ?_)
 exact dm hA λus s2 ⟨vs,H2,I2,r2,q2⟩=>hm pins s2 σ H2 x vs v us Q I2 r1 r2 q2
/- xs.append(e),list.index on a PX tuple .. are W_ facts of 06m -/
end
def Xa(X:Cx)(id:String)(r:V->List V->Hp->VK->Prop):Prop:=
 ∀(pins:List (Addr×Obj))(s:Shared)(σ:St)(H:Hp)(x:V)(xs:List V)(v:Value)(us:List Value)(Q:VK),Inv X pins σ H s->RelV x v->Vals xs us->r x xs H Q->
  wpAny (model X.prog X.w) X.A (call (.builtin id) (v::us)) (EP X pins σ Q) X.xe s
theorem Vals.one:∀{x:V}{us:List Value},Vals [x] us->∃u,us=[u]/\RelV x u
 |_,_,.cons r .nil=>⟨_,rfl,r⟩
theorem Vals.reverse{xs:List V}{us:List Value}(h:Vals xs us):Vals xs.reverse us.reverse:=by
 induction h with
 |nil=>exact .nil
 |cons r t ih=>rw[List.reverse_cons,List.reverse_cons];exact Vals.append ih (.cons r .nil)
section
variable {X:Cx} {pins:List (Addr×Obj)} {σ:St} {H:Hp} {s:Shared} {l b:Addr} {xs ys zs:List V}
theorem Inv.Qf{its its':List Value}{n:Nat}{f:Array Value->Array Value}{t':Nat}(I:Inv X pins σ H s)(hH:H l=some (.lst xs))
  (e:s.heap.get? l=some {cls:=.type "list",data:=.seq its.toArray n})(hf:f its.toArray=its'.toArray)(hv:Vals ys its')(hz:ys.length<=sizeLine):
  Inv X pins σ (upd H l (.lst ys)) {s with heap:=s.heap.update l (Obj.mapSeq f),toks:=t'}:=by
 have q:=PySem.IsL.update e f
 rw[hf]at q
 refine I.write (x:=l) (e:=l) (by rw[hH];exact trivial) (.inl rfl) (λb' u hb hu=>(Heap.get?_update_other s.heap (Obj.mapSeq f) (Ne.symm hb)).trans hu) ⟨_,q⟩ ?_
 exact⟨hz,its',_,hv,q⟩
theorem Inv.Qi{its:List Value}{t':Nat}(I:Inv X pins σ H s)(hv:Vals ys its)(hz:ys.length<=sizeLine):
  Inv X pins σ (upd H s.heap.objs.size (.lst ys)) {s with heap:=s.heap.push {cls:=.type "list",data:=.seq its.toArray},toks:=t'}:=
 I.laid (λ_ _ q=>Heap.get?_push_of_some _ q) (Nat.le_refl _) ⟨hz,its,0,hv,Heap.get?_push_size _ rfl⟩
theorem Inv.fresh(I:Inv X pins σ H s):H s.heap.objs.size=none:=I.hok.fresh (Nat.le_refl _)
theorem Inv.H_(I:Inv X pins σ H s)(hH:H l=some (.lst xs)):xs.length<=sizeLine/\∃(its:List Value) (n:Nat),Vals xs its/\xs.length=its.length/\s.heap.get? l=some {cls:=.type "list",data:=.seq its.toArray n}:=by
 obtain⟨z,its,n,r,e⟩:=I.hok l _ hH
 exact⟨z,its,n,r,r.length,e⟩
end
section
variable {X:Cx}
inductive vN(x:V)(vs:List V)(H:Hp)(Q:VK):Prop
 |mk(l:_)(xs:_)(y:_):(x=.ref l)->(vs=[y])->(H l=some (.lst xs))->(xs.length<sizeLine)->(Q .dR (upd H l (.lst (xs++[y]))))->vN x vs H Q
def HE:V->List V->Hp->VK->Prop:=λx vs H Q=>vN x vs H Q
theorem ff:Xa X "list.append" HE:=by
 intro pins s σ H x vs v us Q I rx rv h
 obtain⟨l,xs,y,rfl,rfl,hH,hz,q⟩:=h
 cases rx
 obtain⟨u,rfl,ru⟩:=rv.one
 obtain⟨z,its,n,r,hl,e⟩:=I.H_ hH
 refine call_meets F.slot_list_append ⟨_,e,rfl⟩ F.entry_list_append (F.args_list_append_2 _ _) (PySem.list_append l its.toArray n u (by rw[List.size_toArray];lia)) ⟨e,?_⟩
 refine⟨.dR,_,I.Qf (its':=its++[u]) hH e (by simp) (r.append (.cons ru .nil)) ?_,rfl,q⟩
 rw[List.length_append,List.length_singleton]
 lia
inductive Kh(x:V)(y:V)(H:Hp)(Q:VK):Prop
 |mk(l:_)(b:_)(xs:_)(zs:_):(x=.ref l)->(y=.ref b)->(H l=some (.lst xs))->(H b=some (.lst zs))->(xs.length+zs.length<=sizeLine)->(∀p,H p=none->Q (.ref p) (upd H p (.lst (xs++zs))))->Kh x y H Q
def UO:R2:=λx y H Q=>Kh x y H Q
theorem kE:iD X (binaryOp .Add) UO:=by
 intro pins s σ H x y v u Q I rx ry h
 obtain⟨l,b,xs,zs,rfl,rfl,hH,hB,hz,q⟩:=h
 cases rx
 cases ry
 obtain⟨z,its,n,r,hl,e⟩:=I.H_ hH
 obtain⟨z2,its2,n2,r2,hl2,e2⟩:=I.H_ hB
 refine PySem.P.add_list e e2 ?_ (by rw[List.size_toArray,List.size_toArray];lia)
 have ea:its.toArray++its2.toArray=(its++its2).toArray:=by simp
 rw[ea]
 exact⟨.ref _,_,I.Qi (t':=s.toks) (r.append r2) (by rw[List.length_append];lia),rfl,q _ I.fresh⟩
end
section
variable {prog:Program} {w:World} {A:Around} {E:Value->Shared->Prop} {s:Shared}
end
section
variable {X:Cx}
end
end L2
namespace ZA
open PySem PySem.W PySem.Calls PyProof.Rows
theorem pI{P:Params}{h:Heap}:∀(ns:List Int)(vs:List Value),WellAll P h vs (ns.map WData.int)->IntsAre vs ns:=by
 intro ns
 induction ns with
 |nil=>
  intro vs w
  rw[List.map_nil]at w
  cases w
  exact .nil
 |cons n ns ih=>
  intro vs w
  rw[List.map_cons]at w
  cases w with
  |cons a b=>
   cases a
   exact .cons _ _ (ih _ b)
theorem AZ{l:OpenLaw}{n:Nat}(hn:l.most=some n){P:Params}{h:Heap}{args:List WData}{vals:List Value}
  (hpre:l.row.toRowW.claim.pre args=true)(hwl:WellAll P h vals args):
  ∃a vs ns,vals=[Value.ref a]/\args=[WData.list (ns.map WData.int)]/\h.get? a=some {cls:=.type "list",data:=.seq vs.toArray}/\IntsAre vs ns/\ns.length<=n:=by
 have hsh:WShape.hasAll [] args [.list .int]=true:=(pre_splitW hpre).1
 have hc:l.pre.holds [] {args:=args}=true:=(pre_splitW hpre).2
 obtain⟨d,r,rfl,h1,h2⟩:=hasAllW_cons hsh
 obtain rfl:=hasAllW_nil h2
 obtain⟨xs,rfl,h3⟩:=hasW_list h1
 obtain⟨ns,rfl⟩:=items_int h3
 have hlen:ns.length<=n:=by
  unfold OpenLaw.pre at hc
  have h4:(WTm.not (.lt (.lit (.int (n:Int))) (.len (.arg 0)))).holds [] {args:=[.list (ns.map .int)]}=true:=by
   have h4:=(holds_andW hc).1
   rw[hn]at h4
   exact h4
  have h5:=condW_of h4 (w_not (w_lt w_lit (w_len_list (w_arg rfl))))
  rw[List.length_map]at h5
  refine Nat.le_of_not_lt λq=>?_
  have q':(n:Int)<((ns.length:Nat):Int):=by lia
  first
   |(rw[decide_eq_true q']at h5;exact absurd h5 (by decide))
   |(simp at h5;lia)
 cases hwl with
 |cons w1 w2=>
  cases w2
  cases w1 with
  |list ho hall=>exact⟨_,_,ns,rfl,rfl,ho,pI ns _ hall,hlen⟩
theorem Bh(l:OpenLaw)(args:List WData):l.row.toRowW.claim.post args (.bool true) args=true:=
 postW_of (r:=l.row.toRowW) (X:=(true==true))
  (show WShape.has [] (.bool true) .bool=true by first|rfl|decide|simp[WShape.has,WShape.arms,WShape.armsAll])
  (show(WTm.eq .res (.lit (.bool true))).value [] {args:=args,res:=some (.bool true),after:=args}=some (.bool (true==true))from w_eq_bool (w_res rfl) w_lit) rfl
theorem wV{l:OpenLaw}{n:Nat}{q:Program}{loose:List Str}{XP:(Str->Option Value)->Heap->Prop}{YP:World->Heap->Prop}{d:DefRec}
  (hn:l.most=some n)(hdf:d.params.defaults=[])
  (call:∀(w:World)(s₀ s₁:Shared)(mg mb:Str->Option Value)(fa:Addr)(o:Obj)(pm cd doc:Value)(a:Addr)(vs:List Value)(ns:List Int),
   Ground q loose [] XP w s₀ mg mb s₁.heap->YP w s₁.heap->
   s₁.heap.get? fa=some o->o.data=.func (docDef d.name d.params d.body d.scope pm cd doc)->s₁.heap.CodeRec cd d.name->mg d.name=some (.ref fa)->
   s₁.heap.get? a=some {cls:=.type "list",data:=.seq vs.toArray}->IntsAre vs ns->ns.length<=n->s₁.gens= #[]->
   codeAny (model l.prog w) callerA (.call (.ref fa) ⟨[.ref a],[]⟩) (λr s'=>r=.ok (.ret (.bool true))/\OldK s₁.heap s'.heap/\s'.os=s₁.os/\AllBare s'.gens) s₁):
  WalkO q loose XP YP l.row.toRowW d [] (λf vs=>PySem.call f vs):=by
 intro w s₀ s₁ mg mb G Y fa o pm cd doc dV kV ho hd hcd hD hmg hg args vals as hpre hlay hrd hwl hlo
 obtain rfl:dV=.none:=Dflts.none hD hdf
 obtain rfl:kV=.none:=Dflts.noKw hD
 obtain⟨a,vs,ns,rfl,rfl,hobj,hints,hlen⟩:=AZ hn hpre hwl
 refine enter_call (codeAny_mono (call w s₀ s₁ mg mb fa o pm cd doc a vs ns G Y ho (fd_plain hd) hcd hmg hobj hints hlen hg) λr s' hq=>?_)
 obtain⟨rfl,h2,h3,h4⟩:=hq
 exact⟨.inl ⟨.bool true,.bool true,[],rfl,λ_=>rfl,.bool true,Bh l _,λ_=>⟨List.Pairwise.nil,λ_ hm=>(nomatch hm)⟩⟩,h2,h3,h4⟩
section
variable {prog:Program} {w:World} {A:Around} {E:Value->Shared->Prop} {s:Shared} {K:Frag}
end
end ZA
namespace L2
open PySem PySem.Spec PyProof.Rows
theorem rS:∀{vs:List Value}{ns:List Int},IntsAre vs ns->Vals (ns.map V.int) vs
 |_,_,.nil=>.nil
 |_,_,.cons n t h=>.cons ⟨t,rfl⟩ (rS h)
def inClass(s:Stmt)(j:Nat):Stmt:=match s with
 |.ClassDef _ _ _ body _ _ _ _ _ _ _=>body.getD j (.Pass ⟨0,0,0,0⟩)
 |_=>.Pass ⟨0,0,0,0⟩
def aG(s:Stmt):Arguments:=match s with
 |.FunctionDef _ a _ _ _ _ _ _ _ _=>a
 |_=>{posonlyargs:=[],args:=[],vararg:=none,kwonlyargs:=[],kw_defaults:=[],kwarg:=none,defaults:=[]}
def aF(s:Stmt):List Stmt:=match s with
 |.FunctionDef _ _ b _ _ _ _ _ _ _=>b
 |_=>[]
def ao(s:Stmt):Scope:=match s with
 |.FunctionDef _ _ _ _ _ _ sc _ _ _=>sc
 |_=>{kind:=.function,names:=[],isGenerator:=false,isCoroutine:=false}
abbrev jg:Cu:=λ_ _ _ _ _ _=>False
abbrev E0:XK:=λ_ _ _=>False
theorem gh{X:Cx}:Passes jg X E0:=λ_ _ _ _ _ _ _ h=>h.elim
structure Sq(K:Fg7)(x qual:Str)(st:Stmt)(f:Addr)(fd:FuncData):Prop where
 ex:∃(oc:Value) (od:Option Addr) (kV doc pm:Value) (an:Option Addr) (cdv ct:Value) (osl:Array (Option Value)),
  fd=PySem.W.fnOf x qual (aG st) (aF st) (ao st) .none kV doc pm an cdv ct/\K.lookup f=some ⟨oc,od,.func fd,osl⟩/\PySem.W.codeIn K cdv qual=true
 kp:PySem.W.keepIn K (.ref f)=true
section
variable {P:Program} {w:World} {K:Fg7} {mg:Str->Option Value} {base:Heap}
theorem Sq.ok{x qual:Str}{st:Stmt}{f:Addr}{fd:FuncData}{N ps:List Str}{k:Nat}{sp:Sp}(F:Sq K x qual st f fd)(S:aM N ps (ao st))(len:∀vs H Q E,sp vs H Q E->vs.length=ps.length)
  (hbody:∀(cdv:Value)(A:Around)(outer:List Env)(s:Shared)(H:Hp)(vs:List V)(Q:VK)(E:XK),dH k (A.deeper (envOfC qual (ao st) s.heap.objs.size f cdv))->sp vs H Q E->
   ∃t,uS (pJ jg P w K mg base N qual (ao st) f cdv A outer s H E).GF (aF st) t/\t {nx:=λ_ H'=>Q .dR H',rt:=Q} (start N vs) H):mU P w K mg base jg (k+1) f fd ps sp:=by
 obtain⟨oc,od,kV,doc,pm,an,cdv,ct,osl,rfl,lk,hcd⟩:=F.ex
 refine KW lk hcd S len λA outer s H vs Q E hr xy=>?_
 obtain⟨t,h,q⟩:=hbody cdv A outer s H vs Q E hr xy
 exact⟨t,h.GF,q⟩
theorem FD{x qual:Str}{st:Stmt}{f:Addr}{oc:Value}{od an:Option Addr}{osl:Array (Option Value)}{kV doc pm cdv ct:Value}(l:K.lookup f=some ⟨oc,od,.func (PySem.W.fnOf x qual (aG st) (aF st) (ao st) .none kV doc pm an cdv ct),osl⟩)
  (c:PySem.W.codeIn K cdv qual=true)(k:PySem.W.keepIn K (.ref f)=true):Sq K x qual st f (PySem.W.fnOf x qual (aG st) (aF st) (ao st) .none kV doc pm an cdv ct):=⟨⟨oc,od,kV,doc,pm,an,cdv,ct,osl,rfl,l,c⟩,k⟩
end
theorem wC{A:Around}{k:Nat}(hr:dH k A):A.units+1<cLine:=Nat.lt_of_le_of_lt (Nat.add_le_add_left (by decide:1<=64) _) hr.units
theorem AX{n:Nat}(h:n<=1000):n<sizeLine:=Nat.lt_of_le_of_lt h (by decide)
section
variable {X:Cx}
theorem pv(i:Nat){x:Str}{pos:Pos}(hN:X.N[i]? = some x:=by rfl)(hv:TN X.env.scope x:=by first|exact Or.inl rfl|exact Or.inr (Or.inl rfl)|exact Or.inr (Or.inr rfl))(hd:(x==("__debug__":Str))=false:=by decide)
  (hcd:(x==("__classdict__":Str))=false:=by decide):PE X (.Name x pos) (CP i):=LS hN hv hd hcd
end
theorem E_{A B:Prop}(h:B):if false=true then A else B:=by
 rw[if_neg Bool.false_ne_true]
 exact h
theorem MO{A B:Prop}(h:A):if true=true then A else B:=by
 rw[if_pos rfl]
 exact h
theorem aW{c A B:Prop}[Decidable c](h1:c->A)(h2:¬c->B):if c then A else B:=by
 by_cases h:c
 ·rw[if_pos h]
  exact h1 h
 ·rw[if_neg h]
  exact h2 h
def av(H H':Hp):Prop:=∀b o,H b=some o->H' b=some o
theorem av.refl(H:Hp):av H H:=λ_ _ h=>h
theorem av.trans{H H1 H2:Hp}(a:av H H1)(b:av H1 H2):av H H2:=λc o h=>b c o (a c o h)
theorem av.free{H H':Hp}(e:av H H'){l:Addr}(h:H' l=Option.none):H l=Option.none:=by
 cases q:H l with
 |none=>rfl
 |some o=>
  rw[e l o q]at h
  cases h
theorem av.seq{K:Fg7}{H H':Hp}{a:Addr}{xs:List V}(e:av H H')(h:aZ K H a xs):aZ K H' a xs:=by
 rcases h with(h|⟨o,h⟩)|h
 ·exact .inl (.inl (e _ _ h))
 ·exact .inl (.inr ⟨o,e _ _ h⟩)
 ·exact .inr h
theorem aK:bootBuiltins "isinstance"=some (.builtin "isinstance"):=DK
theorem fT:bootBuiltins "len"=some (.builtin "len"):=DK
theorem Ge:bootBuiltins "max"=some (.builtin "max"):=DK
theorem Gd:bootBuiltins "min"=some (.builtin "min"):=DK
theorem gH:bootBuiltins "sorted"=some (.builtin "sorted"):=DK
theorem NR:bootBuiltins "sum"=some (.builtin "sum"):=DK
theorem mO:bootBuiltins "bool"=some (.type "bool"):=DK
theorem Jh:bootBuiltins "dict"=some (.type "dict"):=DK
theorem yK:bootBuiltins "int"=some (.type "int"):=DK
theorem f_:bootBuiltins "list"=some (.type "list"):=DK
theorem wO:bootBuiltins "reversed"=some (.type "reversed"):=DK
theorem NS:bootBuiltins "set"=some (.type "set"):=DK
theorem yJ:bootBuiltins "str"=some (.type "str"):=DK
theorem mK:bootBuiltins "tuple"=some (.type "tuple"):=DK
theorem Am{n k:Nat}(hk:0<k)(h:n<2^k):n.log2<k:=by
 rcases Nat.eq_zero_or_pos n with e|e
 ·subst e
  have:Nat.log2 0=0:=by decide
  lia
 ·exact(Nat.log2_lt (Nat.ne_of_gt e)).mpr h
def yW(i:Int):Prop:= -(10^100)<i/\i<10^100
set_option exponentiation.threshold 500 in
theorem yW.nat{i:Int}(h:yW i):i.natAbs<2^400:=by
 have h1: -(10^100:Int)<i:=h.1
 have h2:i<(10^100:Int):=h.2
 have e:(10:Int)^100<2^400:=by decide
 lia
theorem yW.bits{i:Int}(h:yW i):Builtin.Int.intBits i<=2^20:=by
 unfold Builtin.Int.intBits
 split
 ·exact Nat.zero_le _
 ·have:=Am (by decide) h.nat
  lia
theorem yW.PB{i j:Int}(h:yW j):Builtin.divisionGoesByPylong i j=false:=
 PyProof.noPylong_of_log2 (Nat.lt_trans (Am (by decide) h.nat) (by decide))
section
variable {X:Cx}
theorem HV:iD X (binaryOp .Mult) (rI (λi j=>yW i/\yW j) λi j=>.int (i*j)):=SI λ_ _ _ _ _ _ _ hc q=>mul_int q (.of_bits hc.1.bits hc.2.bits)
theorem Et:iD X (binaryOp .FloorDiv) (rI (λ_ j=>0<j/\yW j) λi j=>.int (i/j)):=SI λi j _ _ _ _ _ hc q=>by
 have h1:(0:Int)<j:=hc.1
 exact floordiv_int LI (by rw[Int.fdiv_eq_ediv_of_nonneg i LI];exact q) (.inl hc.2.PB)
end
def Gu(lo st:Int)(n:Nat):It:=⟨λi _=>i<n,λi H x H'=>H'=H/\x=.int (lo+i*st),λi _=>n<=i⟩
theorem uX{P:Program}{w:World}{K:Fg7}{tg:Expr}(it:Addr)(lo st:Int)(n:Nat):Turn P w K tg (Gu lo st n) [it] it (λi h=>IsRangeIter h it (lo+(i:Nat)*st) ((n:Int)-(i:Nat)) st)where
 mem:=by simp
 obj:=λi h st b hb=>by
  have e:b=it:=by simpa using hb
  subst e
  exact⟨_,st,λv z=>by
   have z':Data.fields _=Data.cell v:=z
   cases z'⟩
 keep:=λi h h' st k=>k it (by simp) _ st
 item:=by
  intro X hP hw hK hc i pins s σ H E I hf st' hg
  subst hP hw hK
  obtain⟨f0,f1,f2,f3,f4,f5⟩:=hf it (by simp)
  have W:=Walks.range (prog:=X.prog) (w:=X.w) (I.ok.hd hc) it lo st n
  refine W.item i s _ _ hg st' λv h' tk hv st'' kk=>?_
  obtain⟨t,rfl⟩:=hv
  have I1:Inv X pins σ H {s with heap:=h',toks:=tk}:=I.turned (λb o hb e=>kk b o (by simpa using hb) e) f0 f1 f3 f4 f5
  exact⟨_,rfl,sV (s:={s with heap:=h',toks:=tk}) (n:="range_iterator") st'' rfl rfl (by decide) ⟨.int (lo+i*st),H,I1,⟨t,rfl⟩,⟨rfl,rfl⟩,st'',λb hb=>(hf b hb).1⟩⟩
 done:=by
  intro X hP hw hK hc i pins s σ H E I hf st' hg
  subst hP hw hK
  obtain⟨f0,f1,f2,f3,f4,f5⟩:=hf it (by simp)
  exact wpAny_pyNext_range_end (I.ok.hd hc) st' (by have:n<=i:=hg;lia) λh' eb=>⟨rfl,I.turned (t':=s.toks) (λb o hb e=>eb b o hb e) f0 f1 f3 f4 f5⟩
 self:=λ_ _ _ _ _ st' h=>wpAny_pyIter_rangeiter st' h
theorem AN{P:Program}{w:World}{K:Fg7}{tg:Expr}(it:Addr)(lo st:Int)(n:Nat):Turn P w K tg (Gu lo st n) [it] it (λi h=>IsLongIter h it (lo+(i:Nat)*st) ((n:Int)-(i:Nat)) st)where
 mem:=by simp
 obj:=λi h st b hb=>by
  have e:b=it:=by simpa using hb
  subst e
  exact⟨_,st,λv z=>by
   have z':Data.fields _=Data.cell v:=z
   cases z'⟩
 keep:=λi h h' st k=>k it (by simp) _ st
 item:=by
  intro X hP hw hK hc i pins s σ H E I hf st' hg
  subst hP hw hK
  obtain⟨f0,f1,f2,f3,f4,f5⟩:=hf it (by simp)
  have W:=Walks.longrange (prog:=X.prog) (w:=X.w) (I.ok.hd hc) it lo st n
  refine W.item i s _ _ hg st' λv h' tk hv st'' kk=>?_
  obtain⟨t,rfl⟩:=hv
  have I1:Inv X pins σ H {s with heap:=h',toks:=tk}:=I.turned (λb o hb e=>kk b o (by simpa using hb) e) f0 f1 f3 f4 f5
  exact⟨_,rfl,sV (s:={s with heap:=h',toks:=tk}) (n:="longrange_iterator") st'' rfl rfl (by decide) ⟨.int (lo+i*st),H,I1,⟨t,rfl⟩,⟨rfl,rfl⟩,st'',λb hb=>(hf b hb).1⟩⟩
 done:=by
  intro X hP hw hK hc i pins s σ H E I hf st' hg
  subst hP hw hK
  obtain⟨f0,f1,f2,f3,f4,f5⟩:=hf it (by simp)
  exact wpAny_pyNext_long_end (I.ok.hd hc) st' (by have:n<=i:=hg;lia) λh' eb=>⟨rfl,I.turned (t':=s.toks) (λb o hb e=>eb b o hb e) f0 f1 f3 f4 f5⟩
 self:=λ_ _ _ _ _ st' h=>wpAny_pyIter_longiter st' h
theorem ue(a b c:Int):0<=Builtin.Range.rangeSize a b c:=by
 unfold Builtin.Range.rangeSize
 split<;>split<;>first|lia|(have:=Int.ediv_nonneg (a:=b-a-1) (b:=c) LI LI;lia)|(have:=Int.ediv_nonneg (a:=a-b-1) (b:= -c) LI LI;lia)
def lR(lo hi st:Int):Nat:=(Builtin.Range.rangeSize lo hi st).toNat
theorem DS(lo hi:Int):lR lo hi 1=(hi-lo).toNat:=by
 unfold lR
 rw[rangeSize_one]
 split<;>lia
section
variable {X:Cx} {tg:Expr}
theorem sJ{pins:List (Addr×Obj)}{σ:St}{H:Hp}{s:Shared}{R:It->Hp->Prop}{E:Value->Shared->Prop}{lo hi st:Int}{t u v:Tok}{tk:Nat}(I:Inv X pins σ H s)
  (q:R (Gu lo st (lR lo hi st)) H):wpAny (model X.prog X.w) X.A (pyIter (.ref s.heap.objs.size)) (TR X pins σ tg R) E {s with heap:=s.heap.push {cls:=.type "range",data:=.fields #[.int lo t,.int hi u,.int st v]},toks:=tk}:=by
 have I1:Inv X pins σ H {s with heap:=s.heap.push {cls:=.type "range",data:=.fields #[.int lo t,.int hi u,.int st v]},toks:=tk}:=I.kept λb o e=>Heap.get?_push_of_some _ e
 have e1:lo+((0:Nat):Int)*st=lo:=by simp
 have e2:((lR lo hi st:Nat):Int)-((0:Nat):Int)=Builtin.Range.rangeSize lo hi st:=by
  have:=ue lo hi st
  unfold lR
  lia
 have YV:∀b∈[(s.heap.push {cls:=.type "range",data:=.fields #[.int lo t,.int hi u,.int st v]}).objs.size],fV X pins H b:=λb hb=>by
  have e:b=(s.heap.push {cls:=.type "range",data:=.fields #[.int lo t,.int hi u,.int st v]}).objs.size:=by simpa using hb
  subst e
  exact I1.qH (Nat.le_refl _) (I1.hok.fresh (Nat.le_refl _))
 cases hsm:Builtin.Range.small lo hi st with
 |true=>
  refine wpAny_pyIter_range (IsRange.new ..) hsm ?_
  refine⟨(s.heap.push {cls:=.type "range",data:=.fields #[.int lo t,.int hi u,.int st v]}).objs.size,[(s.heap.push {cls:=.type "range",data:=.fields #[.int lo t,.int hi u,.int st v]}).objs.size],_,_,H,rfl,
   I1.kept (t':=tk) λb o e=>Heap.get?_push_of_some _ e,uX _ lo st (lR lo hi st),?_,YV,q⟩
  show IsRangeIter _ _ (lo+((0:Nat):Int)*st) (((lR lo hi st:Nat):Int)-((0:Nat):Int)) st
  rw[e1,e2]
  exact Heap.get?_push_size _ rfl
 |false=>
  refine wpAny_pyIter_longrange (IsRange.new ..) hsm ?_
  refine⟨(s.heap.push {cls:=.type "range",data:=.fields #[.int lo t,.int hi u,.int st v]}).objs.size,[(s.heap.push {cls:=.type "range",data:=.fields #[.int lo t,.int hi u,.int st v]}).objs.size],_,_,H,rfl,
   I1.kept (t':=tk) λb o e=>Heap.get?_push_of_some _ e,AN _ lo st (lR lo hi st),?_,YV,q⟩
  show IsLongIter _ _ (lo+((0:Nat):Int)*st) (((lR lo hi st:Nat):Int)-((0:Nat):Int)) st
  rw[e1,e2]
  exact Heap.get?_push_size _ rfl
inductive Au(R:It->Hp->Prop)(vs:List V)(H1:Hp):Prop
 |mk(i j:Int):(vs=[.int i,.int j])->(R (Gu i 1 (lR i j 1)) H1)->Au R vs H1
def MQ(ta:TA):TI:=λσ H R=>ta σ H λvs H1=>Au R vs H1
inductive As(R:It->Hp->Prop)(vs:List V)(H1:Hp):Prop
 |mk(i j k:Int):(vs=[.int i,.int j,.int k])->((0<k/\yW k))->(R (Gu i k (lR i j k)) H1)->As R vs H1
def MP(ta:TA):TI:=λσ H R=>ta σ H λvs H1=>As R vs H1
theorem ya{a b:Expr}{ta:TA}{p pos:Pos}(hg:Gl X "range")(hm:X.mg "range"=none)(ha:PA X [a,b] ta)(hs:starEach [a,b] X.env=[(false,eval a X.env),(false,eval b X.env)]:=by rfl)(hs2:starEach [b] X.env=[(false,eval b X.env)]:=by rfl):
  PI X tg (.Call (.Name "range" p) [a,b] [] pos) (MQ ta):=by
 intro pins s σ H R I h
 refine Call_ (gR I hg hm boot_range (PyProof.Rows.callWith_type1 (dm (ha pos pins s σ H _ I h) λus s1 ⟨vs,H1,I1,r1,q1⟩=>?_) (by rw[hs,hs2]) (by rw[hs2];rfl)))
 obtain⟨i,j,e,q⟩:=q1
 subst e
 cases r1 with
 |cons r rr=>
  cases rr with
  |cons r' rr=>
   cases rr
   obtain⟨t,rfl⟩:=r
   obtain⟨t',rfl⟩:=r'
   exact call_range_2 (sJ I1 q)
theorem x_{a b c:Expr}{ta:TA}{p pos:Pos}(hg:Gl X "range")(hm:X.mg "range"=none)(ha:PA X [a,b,c] ta)(hs:starEach [a,b,c] X.env=(false,eval a X.env)::starEach [b,c] X.env:=by rfl)
  (hs2:starEach [b,c] X.env=[(false,eval b X.env),(false,eval c X.env)]:=by rfl):
  PI X tg (.Call (.Name "range" p) [a,b,c] [] pos) (MP ta):=by
 intro pins s σ H R I h
 refine Call_ (gR I hg hm boot_range (PyProof.Rows.callWith_type1 (dm (ha pos pins s σ H _ I h) λus s1 ⟨vs,H1,I1,r1,q1⟩=>?_) hs (by rw[hs2];rfl)))
 obtain⟨i,j,k,e,⟨hk,hf⟩,q⟩:=q1
 subst e
 cases r1 with
 |cons r rr=>
  cases rr with
  |cons r' rr=>
   cases rr with
   |cons r'' rr=>
    cases rr
    obtain⟨t,rfl⟩:=r
    obtain⟨t',rfl⟩:=r'
    obtain⟨t'',rfl⟩:=r''
    exact call_range_3 LI (sJ (tk:=s1.toks) I1 q) (.inl hf.PB)
end
theorem yD{lo st:Int}{n:Nat}{g:TG}{tb:TS}{D:Ends}{σ:St}{H:Hp}(Pv:Nat->St->Hp->Prop)(h0:Pv 0 σ H)
  (hs:∀i σ H,i<n->Pv i σ H->g (.int (lo+i*st)) σ H λσ2 H2=>tb {D with nx:=Pv (i+1),ct:=Pv (i+1),bk:=D.nx} σ2 H2)(hd:∀σ H,Pv n σ H->D.nx σ H):
  ∃W:Nat->Nat->St->Hp->Prop,(∃m,W 0 m σ H)/\∀i m σ H,W i m σ H->
   ((Gu lo st n).stop i H/\D.nx σ H)\/((Gu lo st n).go i H/\∃N:St->Hp->Prop,(∀σ' H',N σ' H'->∃m',m'<m/\W (i+1) m' σ' H')/\∀x H',(Gu lo st n).CD i H x H'->g x σ H' λσ2 H2=>tb {D with nx:=N,ct:=N,bk:=D.nx} σ2 H2):=by
 refine⟨λi m σ H=>m=n-i/\i<=n/\Pv i σ H,⟨n,by simp,Nat.zero_le _,h0⟩,?_⟩
 rintro i m σ H ⟨rfl,hi,p⟩
 by_cases hlt:i<n
 ·refine .inr ⟨hlt,Pv (i+1),λσ' H' p'=>⟨n-(i+1),by lia,rfl,hlt,p'⟩,λx H' y=>?_⟩
  obtain⟨e,y⟩:=y
  subst e y
  exact hs i σ _ hlt p
 ·have e:i=n:=by lia
  subst e
  exact .inl ⟨Nat.le_refl _,hd σ H p⟩
theorem jB{prog:Program}{w:World}{A:Around}{R:Result->Shared->Prop}{s:Shared}{elt target iter:Expr}{ifs:List Expr}{scope:Scope}{pos:Pos}{it acc:Value}{env:Env}(I:Nat->Shared->Prop)
  (turn:∀n s,I n s->wpAny (model prog w) A (pyNext it) (λr s₁=>match r with
   |none=>R (.ok .next) s₁
   |some v=>wpAny (model prog w) A (letOwnedTupleGo target it v) (λ_ s₁'=>wpAny (model prog w) A (assign target env v) (λ_ s₂=>
     wpAny (model prog w) A (forIn ifs true λc r=>if r=true then do let ok ←isTrue c env (eval c env);pure (ForInStep.yield ok)else pure (ForInStep.yield r)) (λok s₃=>
      if ok=true then wpAny (model prog w) A (eval elt env) (λx s₄=>
       wpAny (model prog w) A (call (.builtin "list.append") [acc,x]) (λ_ s₅=>∃m,m<n/\I m s₅) (notedBy (model prog w) A env λe s'=>R (.error e) s') s₄) (notedBy (model prog w) A env λe s'=>R (.error e) s') s₃
      else∃m,m<n/\I m s₃) (notedBy (model prog w) A env λe s'=>R (.error e) s') s₂) (notedBy (model prog w) A env λe s'=>R (.error e) s') s₁') (notedBy (model prog w) A env λe s'=>R (.error e) s') s₁)
   (notedBy (model prog w) A env λe s'=>R (.error e) s') s)
  (n:Nat)(h:I n s):
  codeAny (model prog w) A (.compLoop (.ListComp elt [⟨target,iter,ifs,0⟩] scope pos) 0 it acc env) R s:=by
 refine codeAny_loop rfl I (λn s hI=>?_) n h
 show wpAny _ A ((compTurn (.ListComp elt [⟨target,iter,ifs,0⟩] scope pos) 0 it acc env).onRaise (λx=>do noteFrame x env;theTreesLotGoes x)) _ _ s
 refine wpAny_noted ?_
 rw[compTurn_list]
 refine wpAny_bind (wpAny_standAt (wpAny_bind (wpAny_mono (turn n s hI) (λr s₁ h₁=>?_) λ_ _ h'=>h')))
 cases r with
 |none=>exact wpAny_pure h₁
 |some v=>
  refine wpAny_bind (wpAny_mono h₁ (λ_ s₁' h₁'=>?_) λ_ _ h'=>h')
  refine wpAny_bind (wpAny_mono h₁' (λ_ s₂ h₂=>wpAny_bind (wpAny_mono h₂ (λok s₃ h₃=>?_) λ_ _ h'=>h')) λ_ _ h'=>h')
  cases ok with
  |false=>exact wpAny_pure ⟨rfl,h₃⟩
  |true=>
   exact wpAny_bind (wpAny_bind (wpAny_mono h₃ (λx s₄ h₄=>wpAny_bind (wpAny_mono h₄ (λ_ s₅ h₅=>wpAny_pure (wpAny_pure ⟨rfl,h₅⟩)) λ_ _ h'=>h')) λ_ _ h'=>h'))
def Ci(X:Cx)(ifs:List Expr)(t:TT):Prop:=
 ∀(pins:List (Addr×Obj))(s:Shared)(σ:St)(H:Hp)(Q:Bool->Hp->Prop),Inv X pins σ H s->t σ H Q->
  wpAny (model X.prog X.w) X.A (forIn ifs true λc r=>if r=true then do let ok ←isTrue c X.env (eval c X.env);pure (ForInStep.yield ok)else pure (ForInStep.yield r)) (TP X pins σ Q) X.xe s
def Up:TT:=λ_ H Q=>Q true H
theorem fh{X:Cx}:Ci X [] Up:=λ_ _ _ H _ I h=>by
 rw[List.forIn_nil]
 exact wpAny_pure ⟨H,I,h⟩
theorem iV{X:Cx}{c:Expr}{t:TT}(h:PT X c t):Ci X [c] t:=λpins s σ H Q I hw=>wpAny_tests_one (h pins s σ H Q I hw)
def dw(js:List (Option Nat))(σ:St):St:=js.map λo=>o.bind λj=>(σ[j]?).join
def wY(σ' σ:St):Prop:=σ'.length=σ.length/\∀(i:Nat) v,σ'[i]? = some (some v)->σ[i]? = some (some v)
def Dd(wi:TI)(g:TG)(tc:TT)(te:TE)(js:List (Option Nat)):TE:=λσ H Q=>wi σ H λJ H1=>∀D,H1 D=none->∃W:Nat->Nat->List V->Hp->Prop,(∃m,W 0 m [] (upd H1 D (.lst [])))/\
 ∀i m xs H,W i m xs H->H D=some (.lst xs)/\((J.stop i H/\Q (.ref D) H)\/(J.go i H/\∃N:List V->Hp->Prop,(∀ys H',N ys H'->∃m',m'<m/\W (i+1) m' ys H')/\∀x H',J.CD i H x H'->g x (dw js σ) H' λσ2 H2=>wY (dw js σ) σ2/\tc σ2 H2 λb H3=>
  if b=true then te σ2 H3 λv H4=>∃ys,H4 D=some (.lst ys)/\ys.length<sizeLine/\N (ys++[v]) (upd H4 D (.lst (ys++[v])))
  else∃ys,N ys H3))
def dG(X:Cx)(pins:List (Addr×Obj))(NY:List Str)(scope:Scope)(cl:List (Str×Addr))(fp:List Addr)(C:Addr)(s:Shared)(H:Hp):Cx:=
 {X with N:=NY,s₀:=s,H₀:=H,env:=compEnvC scope cl C X.env,outer:=X.stack,stack:=X.stack,ex:=fp,fn:=λ_=>false,pn:=X.pn++pins,xe:=λ_ _=>False}
def cI(cells:List (Str×Addr)):List (Str×Addr)->Prop
 |[]=>True
 |p::r=>cells.lookup p.1=some p.2/\cI cells r
theorem cI.get{cells:List (Str×Addr)}:∀{cl:List (Str×Addr)}{y:Str}{c:Addr},cI cells cl->cl.lookup y=some c->cells.lookup y=some c
 |[],_,_,_,h=>by simp at h
 |(n,a)::r,y,c,⟨h1,h2⟩,h=>by
  rw[List.lookup_cons]at h
  cases e:y==n with
  |true=>
   rw[e]at h
   cases h
   rw[beq_iff_eq]at e
   rw[e]
   exact h1
  |false=>
   rw[e]at h
   exact cI.get h2 h
def gY(X:Cx)(scope:Scope):List (Option Nat)->List Str->Prop
 |[],[]=>True
 |none::js,_::N=>gY X scope js N
 |some j::js,x::N=>(X.N[j]? = some x/\scope.names.lookup x=some .free/\X.env.kindOf x≠some .local/\(X.env.kindOf x=some .cell\/X.env.kindOf x=some .free))/\gY X scope js N
 |_,_=>False
theorem gY.len{X:Cx}{scope:Scope}:∀{js:List (Option Nat)}{N:List Str},gY X scope js N->js.length=N.length
 |[],[],_=>rfl
 |none::js,_::N,h=>by
  have h':gY X scope js N:=h
  rw[List.length_cons,List.length_cons,h'.len]
 |some j::js,x::N,h=>by
  have h':gY X scope js N:=h.2
  rw[List.length_cons,List.length_cons,h'.len]
 |[],_::_,h=>h.elim
 |none::_,[],h=>h.elim
 |some _::_,[],h=>h.elim
theorem gY.get{X:Cx}{scope:Scope}:∀{js:List (Option Nat)}{N:List Str}{i j:Nat}{x:Str},gY X scope js N->js[i]? = some (some j)->N[i]? = some x->
  X.N[j]? = some x/\scope.names.lookup x=some .free/\X.env.kindOf x≠some .local/\(X.env.kindOf x=some .cell\/X.env.kindOf x=some .free)
 |[],[],_,_,_,_,e,_=>by simp at e
 |none::js,y::N,0,_,_,_,e,_=>by simp at e
 |none::js,y::N,i+1,_,_,h,e,e'=>gY.get (js:=js) (N:=N) (i:=i) h (by simpa using e) (by simpa using e')
 |some j'::js,y::N,0,_,_,h,e,e'=>by
  simp at e e'
  subst e e'
  exact h.1
 |some j'::js,y::N,i+1,_,_,h,e,e'=>gY.get (js:=js) (N:=N) (i:=i) h.2 (by simpa using e) (by simpa using e')
 |[],_::_,_,_,_,h,_,_=>h.elim
 |none::_,[],_,_,_,h,_,_=>h.elim
 |some _::_,[],_,_,_,h,_,_=>h.elim
theorem gu{env:Env}:∀{names:List (Str×NameKind)}{x:Str},names.lookup x=some .free->
    ((names.map λ(n,k)=>if(k==NameKind.free&&env.scope.kind == .function&&env.kindOf n==some .cell)then(n,NameKind.cell)else(n,k)).lookup x=some .cell\/
     (names.map λ(n,k)=>if(k==NameKind.free&&env.scope.kind == .function&&env.kindOf n==some .cell)then(n,NameKind.cell)else(n,k)).lookup x=some .free)
  |[],_,h=>by simp at h
  |(n,k)::r,x,h=>by
    have ih:= @gu env r x
    simp only[List.map_cons]
    cases hx:x==n with
    |true=>
      simp only[List.lookup_cons,hx]at h
      cases h
      by_cases hc:(NameKind.free==NameKind.free&&env.scope.kind == .function&&env.kindOf n==some .cell)=true
      · rw[if_pos hc];simp only[List.lookup_cons,hx];simp
      · rw[if_neg hc];simp only[List.lookup_cons,hx];simp
    |false=>
      simp only[List.lookup_cons,hx]at h
      by_cases hc:(k==NameKind.free&&env.scope.kind == .function&&env.kindOf n==some .cell)=true
      · rw[if_pos hc];simp only[List.lookup_cons,hx];exact ih h
      · rw[if_neg hc];simp only[List.lookup_cons,hx];exact ih h
theorem vL{env:Env}{scope:Scope}{x:Str}{k:NameKind}(hcell:∀y∈scope.names,y.2≠.cell)(h:(relabel scope env).names.lookup x=some k)(hk:k=.cell\/k=.free):∃y∈scope.names,y.1=x/\y.2=.free:=by
 have hm:=PySem.mem_of_lookup h
 have hm':(x,k)∈scope.names.map λ(n,k)=>if(k==NameKind.free&&env.scope.kind == .function&&env.kindOf n==some .cell)then(n,NameKind.cell)else(n,k):=hm
 obtain⟨⟨n,k'⟩,hy,e⟩:=List.mem_map.mp hm'
 by_cases hc:(k'==NameKind.free&&env.scope.kind == .function&&env.kindOf n==some .cell)=true
 ·have e':(n,NameKind.cell)=(x,k):=by rw[←e];exact(if_pos hc).symm
  injection e' with e1 e2
  have hc2:k'=NameKind.free:=by
   rw[Bool.and_eq_true,Bool.and_eq_true]at hc
   simpa using hc.1.1
  exact⟨(n,k'),hy,e1,hc2⟩
 ·have e':(n,k')=(x,k):=by rw[←e];exact(if_neg hc).symm
  injection e' with e1 e2
  rcases hk with hk|hk
  ·exact absurd (e2.trans hk) (hcell _ hy)
  ·exact⟨(n,k'),hy,e1,e2.trans hk⟩
section
variable {X:Cx}
theorem Jd{pins:List (Addr×Obj)}{σ:St}{H:Hp}{s:Shared}{NY:List Str}{scope:Scope}{cl:List (Str×Addr)}{fp:List Addr}(I:Inv X pins σ H s)(hkind:scope.kind=.function)
  (hcell:∀y∈scope.names,y.2≠.cell)(hcl:cI X.env.cells cl)(hfr:∀y∈scope.names,y.2=.free->(cl.lookup y.1).isSome=true)(hf:∀b∈fp,fV X pins H b)(ho:∀b∈fp,∃o,s.heap.get? b=some o):
  (dG X pins NY scope cl fp s.heap.objs.size s H).Ok where
 mod:=I.ok.mod
 kind:=hkind
 glob:=I.ok.glob
 blt:=I.ok.blt
 above:=Nat.le_refl _
 inj:=λx y c h1 h2=>I.ok.inj x y c (hcl.get h1) (hcl.get h2)
 has:=λx hx=>by
  have h:∃k,(relabel scope X.env).names.lookup x=some k/\(k=.cell\/k=.free):=by
   rcases hx with hx|hx
   ·exact⟨_,hx,.inl rfl⟩
   ·exact⟨_,hx,.inr rfl⟩
  obtain⟨k,h1,h2⟩:=h
  obtain⟨y,hy,e1,e2⟩:=vL hcell h1 h2
  have:=hfr y hy e2
  rw[e1]at this
  exact Option.isSome_iff_exists.mp this
 Ow:=λx c h=>absurd h Bool.false_ne_true
 hd:=I.ok.hd
 frames:=I.ok.frames
 stk:=.inl rfl
 Tw:=λb hb=>by
  obtain⟨f0,f1,f2,f3,f4,f5⟩:=hf b hb
  obtain⟨o,e⟩:=ho b hb
  exact⟨Nat.ne_of_lt (Heap.lt_size e),λx c h=>f4 x c (hcl.get h)⟩
 bs:=I.bs
 Gf:=Nat.le_trans I.ok.Gf I.sz
 Br:=λb o e hb=>by
  obtain⟨f0,f1,f2,f3,f4,f5⟩:=hf b hb
  rcases f3 with z|z
  ·exact I.ok.Br b o e z
  ·exact absurd (Nat.lt_of_lt_of_le (Heap.lt_size e) (Nat.le_trans I.ok.Gf z)) (Nat.lt_irrefl _)
 BW:=λb hb hfs=>by
  obtain⟨f0,f1,f2,f3,f4,f5⟩:=hf b hb
  rcases List.mem_cons.mp (I.tU b hfs)with z|z
  ·exact f1 z
  ·exact f2 z
 nU:=I.stack
 KU:=I.tV
theorem r_{js:List (Option Nat)}{σ:St}{i:Nat}{v:V}(h:(dw js σ)[i]? = some (some v)):∃j,js[i]? = some (some j)/\σ[j]? = some (some v):=by
 unfold dw at h
 rw[List.getElem?_map]at h
 cases e:js[i]? with
 |none=>rw[e]at h;cases h
 |some o=>
  rw[e]at h
  have h':(o.bind λj=>(σ[j]?).join)=some v:=Option.some.inj h
  cases o with
  |none=>cases h'
  |some j=>
   have h'':(σ[j]?).join=some v:=h'
   refine⟨j,rfl,?_⟩
   cases e2:σ[j]? with
   |none=>rw[e2]at h'';cases h''
   |some w=>
    rw[e2]at h''
    cases w with
    |none=>cases h''
    |some u=>
     have:u=v:=Option.some.inj h''
     rw[this]
theorem FZ{pins:List (Addr×Obj)}{σ:St}{H:Hp}{s:Shared}{h':Heap}{NY:List Str}{js:List (Option Nat)}{scope:Scope}{cl:List (Str×Addr)}{fp:List Addr}{t':Nat}{m':Str->Option Value}(I:Inv X pins σ H s)(hkind:scope.kind=.function)
  (hcell:∀y∈scope.names,y.2≠.cell)(hcl:cI X.env.cells cl)(hfr:∀y∈scope.names,y.2=.free->(cl.lookup y.1).isSome=true)(KG:gY X scope js NY)(hf:∀b∈fp,fV X pins H b)(ho:∀b∈fp,∃o,s.heap.get? b=some o)
  (hk:∀b o,s.heap.get? b=some o->h'.get? b=some o)(hn:h'.Ns s.heap.objs.size m'):
  Inv (dG X pins NY scope cl fp s.heap.objs.size s H) [] (dw js σ) H {s with heap:=h',toks:=t'}where
 ok:=Jd I hkind hcell hcl hfr hf ho
 os:=rfl
 bare:=I.bare
 base:=Un.kept hk
 loc:=by
  obtain⟨m,hnX,hl⟩:=I.loc
  refine⟨m',hn,λi x v e1 e2 e3=>?_⟩
  obtain⟨j,ej,ev⟩:=r_ e2
  obtain⟨a1,a2,a3,a4⟩:=KG.get ej e1
  have vis:TN X.env.scope x:=by
   rcases a4 with a4|a4
   ·exact .inr (.inl a4)
   ·exact .inr (.inr a4)
  obtain⟨u,ru,lk⟩:=hl j x v a1 ev vis
  refine⟨u,ru,?_⟩
  rcases lk with⟨k,_⟩|⟨_,c,ec,hc⟩
  ·exact absurd k a3
  ·have h1:∃c',cl.lookup x=some c':=by
    have:=hfr (x,.free) (PySem.mem_of_lookup a2) rfl
    exact Option.isSome_iff_exists.mp this
   obtain⟨c',Zd⟩:=h1
   have e4:=hcl.get Zd
   rw[ec]at e4
   cases e4
   refine .inr ⟨?_,c,Zd,?_⟩
   ·exact gu a2
   ·obtain⟨o,h1,h2⟩:=hc
    exact⟨o,hk _ _ h1,h2⟩
 cell:=λx c e=>by
  obtain⟨v,o,h1,h2⟩:=I.cell x c (hcl.get e)
  exact⟨v,o,hk _ _ h1,h2⟩
 free:=I.hok.fresh (Nat.le_refl _)
 gx:=λx c e=>I.gx x c (hcl.get e)
 pin:=λp hp=>by
  have uy:p∈(X.pn++pins)++[]:=hp
  rw[List.append_nil]at uy
  obtain⟨a1,a2,a3,a4,a5⟩:=I.pin p uy
  refine⟨hk _ _ a1,a2,Nat.ne_of_lt (Heap.lt_size a1),λz=>?_,a5⟩
  rcases List.mem_cons.mp (I.tU p.1 z)with z|z
  ·exact a3 z
  ·exact a4 z
 hok:=I.hok.kept hk
 len:=by
  show(js.map _).length=NY.length
  rw[List.length_map]
  exact KG.len
theorem wM{use:Option (Value->Sem Unit)}{R:Value->Shared->Prop}{Q:VK}{pins:List (Addr×Obj)}{s:Shared}{σ:St}{H:Hp}{elt tgt iter:Expr}{ifs:List Expr}{scope:Scope}{cl:List (Str×Addr)}{pos cpos:Pos}{wi:TI}{g:TG}{tc:TT}{te:TE}{NY:List Str}{js:List (Option Nat)}(hc:X.calm=true)(hkind:scope.kind=.function)(hclos:closureFor scope X.env=pure cl)(hcl:cI X.env.cells cl)(KG:gY X scope js NY)(hi:PI X tgt iter wi)
  (hb:∀pins fp C s H,PG (dG X pins NY scope cl fp C s H) tgt g/\Ci (dG X pins NY scope cl fp C s H) ifs tc/\PE (dG X pins NY scope cl fp C s H) elt te)
  (hcell:∀y∈scope.names,y.2≠.cell)(hnames:∀y∈scope.names,y.2=.local->scope.names.lookup y.1=some .local)(Fx:(scope.names.all λy=> !(y.2 == .free)||(cl.lookup y.1).isSome)=true)(hs:∀x,foldedSetIterable iter X.env x=pure x)
  (fin:∀(D C:Addr)(s6:Shared)(H5:Hp),Inv X pins σ H5 s6->fV X pins H5 C->(∃m,s6.heap.Ns C m)->Q (.ref D) H5->compPost (model X.prog X.w) X.A X.xe use R (.ref D) C (.ok .next) s6)
  (I:Inv X pins σ H s)(h:Dd wi g tc te js σ H Q):wpAny (model X.prog X.w) X.A (comprehension (.ListComp elt [⟨tgt,iter,ifs,0⟩] scope pos) scope X.env cpos (newList []) false (eval iter X.env) use) R X.xe s:=by
 have hfr:∀y∈scope.names,y.2=.free->(cl.lookup y.1).isSome=true:=λy hy e=>by
  have z:=List.all_eq_true.mp Fx y hy
  rw[e]at z
  simpa using z
 refine wpAny_comprehension_free (use:=use) (g:=⟨tgt,iter,ifs,0⟩) (gs:=[]) rfl hs hclos hkind hnames (dm (hi pins s σ H _ I h) λv s1 h1=>dm h1 λitv s2 h2=>?_)
 obtain⟨it,fp,tn,J,H2,e,I2,T,st2,f2,q2⟩:=h2
 subst e
 refine wpAny_newObj_type ?_ (by show 0<=sizeLine;exact Nat.zero_le _)
 have nD:H2 s2.heap.objs.size=none:=I2.hok.fresh (Nat.le_refl _)
 obtain⟨W,⟨m0,w0⟩,turn⟩:=q2 s2.heap.objs.size nD
 have I3:Inv X pins σ (upd H2 s2.heap.objs.size (.lst [])) {s2 with heap:=s2.heap.push {cls:=.type "list",data:=.seq ([]:List Value).toArray} }:=I2.Qi (t':=s2.toks) .nil (Nat.zero_le _)
 have SY:∀b o,s2.heap.get? b=some o->(s2.heap.push {cls:=.type "list",data:=.seq ([]:List Value).toArray}).get? b=some o:=λb o e=>Heap.get?_push_of_some _ e
 have XI:∀b∈fp,∃o,s2.heap.get? b=some o:=λb hb=>let⟨o,e,_⟩:=T.obj _ _ st2 b hb;⟨o,e⟩
 have f3:∀b∈fp,fV X pins (upd H2 s2.heap.objs.size (.lst [])) b:=λb hb=>by
  obtain⟨f0,fr⟩:=f2 b hb
  obtain⟨o,e⟩:=XI b hb
  exact⟨by rw[ai (Nat.ne_of_lt (Heap.lt_size e))];exact f0,fr⟩
 generalize hs3:({s2 with heap:=s2.heap.push {cls:=.type "list",data:=.seq ([]:List Value).toArray} }:Shared)=s3 at I3
 have QL:s3.heap=s2.heap.push {cls:=.type "list",data:=.seq ([]:List Value).toArray}:=by rw[←hs3]
 have st3:tn 0 s3.heap:=T.keep _ _ _ st2 λb hb o e=>by rw[QL];exact SY b o e
 have ob3:∀b∈fp,∃o,s3.heap.get? b=some o:=λb hb=>by
  obtain⟨o,e⟩:=XI b hb
  exact⟨o,by rw[QL];exact SY b o e⟩
 refine wpAny_newFunctionEnv hcell (by intro y hy;simp at hy) (λh1 hns Tg=>?_) hkind
 have Oi:∀b o,s3.heap.get? b=some o->h1.get? b=some o:=λb o e=>Tg.extBut b o (Nat.ne_of_lt (Heap.lt_size e)) (Heap.get?_push_of_some _ e)
 have IY:=FZ (X:=X) (NY:=NY) (js:=js) (scope:=scope) (cl:=cl) (fp:=fp) (t':=s3.toks+([]:List (Str×Value)).length) I3 hkind hcell hcl hfr KG f3 ob3 Oi hns
 have Xo:tn 0 h1:=T.keep _ _ _ st3 λb _ o e=>Oi b o e
 have xJ:∀{pl:List (Addr×Obj)}{H':Hp},(∀b∈fp,H' b=none)->(∀p∈pl,p.1∉fp)->∀b∈fp,fV (dG X pins NY scope cl fp s3.heap.objs.size s3 (upd H2 s2.heap.objs.size (.lst []))) pl H' b:=λ{pl H'} hn hp b hb=>by
  obtain⟨g1,g2⟩:=IY.ok.Tw b hb
  refine⟨hn b hb,g1,IY.ok.BW b hb,.inl hb,g2,λp uy=>?_⟩
  rcases List.mem_append.mp uy with z|z
  ·exact(f3 b hb).2.2.2.2.2 p z
  ·intro e
   exact hp p z (e▸hb)
 have loop:∀s4:Shared,s4={s3 with heap:=h1,toks:=s3.toks+([]:List (Str×Value)).length}->
   codeAny (model X.prog X.w) X.A (.compLoop (.ListComp elt [⟨tgt,iter,ifs,0⟩] scope pos) 0 (.ref it) (.ref s2.heap.objs.size) (compEnvC scope cl s3.heap.objs.size X.env))
    (compPost (model X.prog X.w) X.A X.xe use R (.ref s2.heap.objs.size) s3.heap.objs.size) s4:=by
  rintro s4 rfl
  refine jB (λn s'=>∃i xs H',Inv (dG X pins NY scope cl fp s3.heap.objs.size s3 (upd H2 s2.heap.objs.size (.lst []))) [] (dw js σ) H' s'/\tn i s'.heap/\(∀b∈fp,H' b=none)/\W i n xs H') ?_ m0
   ⟨0,[],_,IY,Xo,λb hb=>(f3 b hb).1,w0⟩
  rintro n s5 ⟨i,xs,H5,I5,Oc,Tv,w5⟩
  obtain⟨hD5,alt⟩:=turn i n xs H5 w5
  obtain⟨bG,bI,bE⟩:=hb pins fp s3.heap.objs.size s3 (upd H2 s2.heap.objs.size (.lst []))
  rcases alt with⟨stop,qn⟩|⟨go,N,hN,step⟩
  ·refine wpAny_mono (T.done (dG X pins NY scope cl fp s3.heap.objs.size s3 (upd H2 s2.heap.objs.size (.lst []))) rfl rfl rfl hc i [] s5 (dw js σ) H5 (λ_ _=>False) I5 (xJ Tv (by simp)) Oc stop) (λr s6 hr=>?_) λ_ _ z=>z.elim
   obtain⟨hr,I6⟩:=hr
   subst hr
   have I7:Inv X pins σ H5 s6:=I3.RX I6.os I6.base I6.hok I6.bare λb hb=>let⟨_,g1,_,g3,g4,g5⟩:=f3 b hb;⟨g3,g1,g4,g5⟩
   obtain⟨m6,VX,_⟩:=I6.loc
   exact fin _ _ s6 H5 I7 (I3.qH (b:=s3.heap.objs.size) (Nat.le_refl _) (show H5 s3.heap.objs.size=none from I6.free)) ⟨m6,VX⟩ qn
  ·refine wpAny_mono (T.item (dG X pins NY scope cl fp s3.heap.objs.size s3 (upd H2 s2.heap.objs.size (.lst []))) rfl rfl rfl hc i [] s5 (dw js σ) H5 (λ_ _=>False) I5 (xJ Tv (by simp)) Oc go) (λr s6 hr=>?_) λ_ _ z=>z.elim
   obtain⟨u,hr,h6⟩:=hr
   subst hr
   refine wpAny_mono h6 (λ_ s7 h7=>?_) λ_ _ z=>z.elim
   obtain⟨x,H7,I7,r7,y7,Uz,fr7⟩:=h7
   have I7':=I7.pinned (xJ fr7 (by simp)) (T.obj _ _ Uz)
   have back:∀{σ8:St}{H8:Hp}{s8:Shared},Inv (dG X pins NY scope cl fp s3.heap.objs.size s3 (upd H2 s2.heap.objs.size (.lst []))) ([]++kr fp s7.heap) σ8 H8 s8->tn (i+1) s8.heap/\(∀b∈fp,H8 b=none):=λ{σ8 H8 s8} I8=>by
    refine⟨T.keep _ _ _ Uz λb hb o e=>(I8.pin (b,o) (List.mem_append_right _ (List.mem_append_right _ (fO hb e)))).1,λb hb=>?_⟩
    obtain⟨o,e,_⟩:=T.obj _ _ Uz b hb
    exact(I8.pin (b,o) (List.mem_append_right _ (List.mem_append_right _ (fO hb e)))).2.1
   refine wpAny_mono (bG _ s7 (dw js σ) H7 x u _ I7' r7 (step x H7 y7)) (λ_ s8 h8=>?_) λ_ _ z=>z.elim
   obtain⟨σ8,H8,I8,wk,q8⟩:=h8
   have forget:∀{H8:Hp}{s8:Shared},Inv (dG X pins NY scope cl fp s3.heap.objs.size s3 (upd H2 s2.heap.objs.size (.lst []))) ([]++kr fp s7.heap) σ8 H8 s8->Inv (dG X pins NY scope cl fp s3.heap.objs.size s3 (upd H2 s2.heap.objs.size (.lst []))) [] (dw js σ) H8 s8:=λI8=>I8.iG.weak wk.1 wk.2
   refine wpAny_mono (bI _ s8 σ8 H8 _ I8 q8) (λok s9 h9=>?_) λ_ _ z=>z.elim
   obtain⟨H9,I9,q9⟩:=h9
   cases ok with
   |false=>
    rw[if_neg Bool.false_ne_true]at q9 ⊢
    obtain⟨ys,n9⟩:=q9
    obtain⟨m',hm,w9⟩:=hN _ _ n9
    exact⟨m',hm,i+1,ys,H9,forget I9,(back I9).1,(back I9).2,w9⟩
   |true=>
    rw[if_pos rfl]at q9 ⊢
    refine wpAny_mono (bE _ s9 σ8 H9 _ I9 q9) (λxv xU h10=>?_) λ_ _ z=>z.elim
    obtain⟨v,TV,I10,r10,ys,hD,hz,n10⟩:=h10
    obtain⟨m',hm,ZG⟩:=hN _ _ n10
    refine wpAny_mono (ff (X:=dG X pins NY scope cl fp s3.heap.objs.size s3 (upd H2 s2.heap.objs.size (.lst []))) _ xU σ8 TV (.ref s2.heap.objs.size) [v] _ [xv] (λ_ Zw=>Zw=upd TV s2.heap.objs.size (.lst (ys++[v]))) I10 rfl (.cons r10 .nil) ⟨_,ys,v,rfl,rfl,hD,hz,rfl⟩) (λ_ s11 h11=>?_) λ_ _ z=>z.elim
    obtain⟨_,Zw,Xb,_,e11⟩:=h11
    subst e11
    exact⟨m',hm,i+1,_,_,forget Xb,(back Xb).1,(back Xb).2,ZG⟩
 exact codeAny_compStart_list (loop _ rfl) (T.self _ 0 _ _ _ Xo (loop _ rfl))
theorem dY{elt tgt iter:Expr}{ifs:List Expr}{scope:Scope}{cl:List (Str×Addr)}{pos:Pos}{wi:TI}{g:TG}{tc:TT}{te:TE}{NY:List Str}{js:List (Option Nat)}(hc:X.calm=true)
  (hkind:scope.kind=.function)(hclos:closureFor scope X.env=pure cl)(hcl:cI X.env.cells cl)(KG:gY X scope js NY)
  (hi:PI X tgt iter wi)
  (hb:∀pins fp C s H,PG (dG X pins NY scope cl fp C s H) tgt g/\Ci (dG X pins NY scope cl fp C s H) ifs tc/\PE (dG X pins NY scope cl fp C s H) elt te)
  (hcell:∀y∈scope.names,y.2≠.cell:=by decide)(hnames:∀y∈scope.names,y.2=.local->scope.names.lookup y.1=some .local:=by decide)
  (Fx:(scope.names.all λy=> !(y.2 == .free)||(cl.lookup y.1).isSome)=true:=by first|rfl|with_unfolding_all rfl)(hs:∀x,foldedSetIterable iter X.env x=pure x:=by intro _;rfl):
  PE X (.ListComp elt [⟨tgt,iter,ifs,0⟩] scope pos) (Dd wi g tc te js):=by
 intro pins s σ H Q I h
 rw[eval_ListComp]
 refine wM hc hkind hclos hcl KG hi hb hcell hnames Fx hs (λD C s6 H5 I7 fC hn q=>?_) I h
 obtain⟨m6,VX⟩:=hn
 obtain⟨c0,c1,c2,c3,c4,c5⟩:=fC
 exact⟨m6,VX,λh7 UA=>⟨.ref D,H5,I7.turned (t':=s6.toks) (λb o hb e=>UA.extBut b o hb e) c0 c1 c3 c4 c5,rfl,q⟩⟩
end
theorem cH{js:List (Option Nat)}{σ:St}{i:Nat}{v:V}(h:js[i]? = some none):wY (dw js σ) ((dw js σ).set i (some v)):=by
 refine⟨by rw[List.length_set],λk u e=>?_⟩
 by_cases hk:k=i
 ·subst hk
  obtain⟨j,ej,_⟩:=r_ e
  rw[h]at ej
  cases ej
 ·rw[List.getElem?_set_ne (Ne.symm hk)]
  exact e
theorem FY{lo st:Int}{n:Nat}{g:TG}{tc:TT}{te:TE}{js:List (Option Nat)}{σ:St}{H1:Hp}{D:Addr}{Q:VK}(Pv:Nat->List V->Hp->Prop)(h0:Pv 0 [] (upd H1 D (.lst [])))(hD:∀i ys H,Pv i ys H->H D=some (.lst ys))
  (hs:∀i ys H,i<n->Pv i ys H->g (.int (lo+i*st)) (dw js σ) H λσ2 H2=>wY (dw js σ) σ2/\tc σ2 H2 λb H3=>
   if b=true then te σ2 H3 λv H4=>∃zs,H4 D=some (.lst zs)/\zs.length<sizeLine/\Pv (i+1) (zs++[v]) (upd H4 D (.lst (zs++[v])))else∃zs,Pv (i+1) zs H3)
  (hd:∀ys H,Pv n ys H->Q (.ref D) H):
  ∃W:Nat->Nat->List V->Hp->Prop,(∃m,W 0 m [] (upd H1 D (.lst [])))/\
   ∀i m xs H,W i m xs H->H D=some (.lst xs)/\(((Gu lo st n).stop i H/\Q (.ref D) H)\/((Gu lo st n).go i H/\∃N:List V->Hp->Prop,(∀ys H',N ys H'->∃m',m'<m/\W (i+1) m' ys H')/\∀x H',(Gu lo st n).CD i H x H'->g x (dw js σ) H' λσ2 H2=>wY (dw js σ) σ2/\tc σ2 H2 λb H3=>
    if b=true then te σ2 H3 λv H4=>∃ys,H4 D=some (.lst ys)/\ys.length<sizeLine/\N (ys++[v]) (upd H4 D (.lst (ys++[v])))
    else∃ys,N ys H3)):=by
 refine⟨λi m ys H=>m=n-i/\i<=n/\Pv i ys H,⟨n,by simp,Nat.zero_le _,h0⟩,?_⟩
 rintro i m ys H ⟨rfl,hi,p⟩
 refine⟨hD i ys H p,?_⟩
 by_cases hlt:i<n
 ·refine .inr ⟨hlt,Pv (i+1),λzs H' p'=>⟨n-(i+1),by lia,rfl,hlt,p'⟩,λx H' y=>?_⟩
  obtain⟨e,y⟩:=y
  subst e y
  exact hs i ys _ hlt p
 ·have e:i=n:=by lia
  subst e
  exact .inl ⟨Nat.le_refl _,hd ys H p⟩
inductive Dv where
 |dR|bl(b:Bool)|int(i:Int)|str(x:Str)|tup(l:List Dv)|lst(l:List Dv)
mutual
inductive Dn(K:Fg7)(H:Hp):V->Dv->Prop
 |dR:Dn K H .dR .dR
 |bl(b:Bool):Dn K H (.bl b) (.bl b)
 |int(i:Int):Dn K H (.int i) (.int i)
 |str(x:Str):Dn K H (.str x) (.str x)
 |tup{a:Addr}{xs:List V}{ds:List Dv}:bJ K H a xs->gf K H xs ds->Dn K H (.ref a) (.tup ds)
 |lst{a:Addr}{xs:List V}{ds:List Dv}:aZ K H a xs->gf K H xs ds->Dn K H (.ref a) (.lst ds)
inductive gf(K:Fg7)(H:Hp):List V->List Dv->Prop
 |nil:gf K H [] []
 |cons{x:V}{xs:List V}{d:Dv}{ds:List Dv}:Dn K H x d->gf K H xs ds->gf K H (x::xs) (d::ds)
end
mutual
def Dv.dep:Dv->Nat
 |.tup l=>Dv.deps l+1
 |.lst l=>Dv.deps l+1
 |_=>0
def Dv.deps:List Dv->Nat
 |[]=>0
 |d::r=>max (Dv.dep d) (Dv.deps r)
end
/- no bool meets an int -/
mutual
def fc:Dv->Dv->Bool
 |.bl _,.int _=>false
 |.int _,.bl _=>false
 |.tup l,.tup r=>fN l r
 |.lst l,.lst r=>fN l r
 |_,_=>true
def fN:List Dv->List Dv->Bool
 |d::l,e::r=>fc d e&&fN l r
 |_,_=>true
end
theorem Paired.app{α β:Type}{F:α->β->Prop}{xs ys:List α}{ks ls:List β}(h:Paired F xs ks)(h':Paired F ys ls):Paired F (xs++ys) (ks++ls):=by
 induction h with
 |nil=>exact h'
 |cons r _ ih=>exact .cons r ih
theorem Paired.getL{α β:Type}{F:α->β->Prop}{xs:List α}{ks:List β}(h:Paired F xs ks):∀{i:Nat}{x:α},xs[i]? = some x->∃k,ks[i]? = some k/\F x k:=by
 induction h with
 |nil=>intro i x e;simp at e
 |cons r _ ih=>
  intro i x e
  cases i with
  |zero=>simp at e;subst e;exact⟨_,rfl,r⟩
  |succ i=>exact ih e
theorem Paired.Ww{α β:Type}{F:α->β->Prop}{xs:List α}{ks:List β}(h:Paired F xs ks):∀{i:Nat}{k:β},ks[i]? = some k->∃x,xs[i]? = some x/\F x k:=by
 induction h with
 |nil=>intro i x e;simp at e
 |cons r _ ih=>
  intro i x e
  cases i with
  |zero=>simp at e;subst e;exact⟨_,rfl,r⟩
  |succ i=>exact ih e
theorem gf.pair{K:Fg7}{H:Hp}{ds:List Dv}:∀{xs:List V},gf K H xs ds->Paired (Dn K H) xs ds:=by
 induction ds with
 |nil=>intro xs h;cases h;exact .nil
 |cons d ds ih=>intro xs h;cases h with|cons r t=>exact .cons r (ih t)
theorem gf.of{K:Fg7}{H:Hp}{xs:List V}{ds:List Dv}(h:Paired (Dn K H) xs ds):gf K H xs ds:=by
 induction h with
 |nil=>exact .nil
 |cons r _ ih=>exact .cons r ih
theorem gf.length{K:Fg7}{H:Hp}{xs:List V}{ds:List Dv}(h:gf K H xs ds):xs.length=ds.length:=Paired.length h.pair
theorem gf.get{K:Fg7}{H:Hp}{xs:List V}{ds:List Dv}{i:Nat}{d:Dv}(h:gf K H xs ds)(e:ds[i]? = some d):∃x,xs[i]? = some x/\Dn K H x d:=Paired.Ww h.pair e
theorem gf.get'{K:Fg7}{H:Hp}{xs:List V}{ds:List Dv}{i:Nat}{x:V}(h:gf K H xs ds)(e:xs[i]? = some x):∃d,ds[i]? = some d/\Dn K H x d:=Paired.getL h.pair e
theorem gf.snoc{K:Fg7}{H:Hp}{xs:List V}{ds:List Dv}{x:V}{d:Dv}(h:gf K H xs ds)(r:Dn K H x d):gf K H (xs++[x]) (ds++[d]):=gf.of (Paired.snoc h.pair r)
structure Gn(K:Fg7)(H H':Hp):Prop where
 t:∀a xs,bJ K H a xs->bJ K H' a xs
 l:∀a xs,aZ K H a xs->aZ K H' a xs
mutual
theorem Dn.stay{K:Fg7}{H H':Hp}(e:Gn K H H'):∀{v:V}{d:Dv},Dn K H v d->Dn K H' v d
 |_,_,.dR=>.dR
 |_,_,.bl b=>.bl b
 |_,_,.int i=>.int i
 |_,_,.str x=>.str x
 |_,_,.tup h t=>.tup (e.t _ _ h) (gf.stay e t)
 |_,_,.lst h t=>.lst (e.l _ _ h) (gf.stay e t)
theorem gf.stay{K:Fg7}{H H':Hp}(e:Gn K H H'):∀{vs:List V}{ds:List Dv},gf K H vs ds->gf K H' vs ds
 |_,_,.nil=>.nil
 |_,_,.cons r t=>.cons (Dn.stay e r) (gf.stay e t)
end
theorem av.jo{K:Fg7}{H H':Hp}{a:Addr}{xs:List V}(e:av H H')(h:bJ K H a xs):bJ K H' a xs:=by
 rcases h with(h|⟨o,h⟩)|h
 ·exact .inl (.inl (e _ _ h))
 ·exact .inl (.inr ⟨o,e _ _ h⟩)
 ·exact .inr h
theorem av.stays{K:Fg7}{H H':Hp}(e:av H H'):Gn K H H':=⟨λ_ _ h=>e.jo h,λ_ _ h=>e.seq h⟩
theorem av.new{H:Hp}{a:Addr}{o:HO}(h:H a=none):av H (upd H a o):=λb u e=>by
 rw[ai (au e h)]
 exact e
theorem in1_units(A:Around):A.in1.units=A.units+1:=by
 first|rfl|simp[Around.in1]
section
variable {X:Cx} {pins:List (Addr×Obj)} {σ:St} {H:Hp} {s:Shared}
theorem wJ{A:Around}{its its2:List Value}{ds es:List Dv}(he:∀(j:Nat) u w d e,its[j]? = some u->its2[j]? = some w->ds[j]? = some d->es[j]? = some e->∃b,SeqAt.EqAt A s u w b/\(b=true↔d=e))
  (l1:its.length=ds.length)(l2:its2.length=es.length):
  ∃f:Nat->Bool,(∀j(h1:j<its.toArray.size)(h2:j<its2.toArray.size),SeqAt.EqAt A s its.toArray[j] its2.toArray[j] (f j))/\
   (((List.range (min its.length its2.length)).all f&&its.length==its2.length)=true↔ds=es):=by
 have key:∀j:Nat,∃b:Bool,(∀(h1:j<its.length)(h2:j<its2.length),SeqAt.EqAt A s its[j] its2[j] b/\(b=true↔ds[j]? = es[j]?)):=λj=>by
  by_cases h1:j<its.length
  ·by_cases h2:j<its2.length
   ·obtain⟨b,hb,hi⟩:=he j its[j] its2[j] (ds[j]' LI) (es[j]' LI) (by simp[h1]) (by simp[h2]) (by simp) (by simp)
    refine⟨b,λ_ _=>⟨hb,?_⟩⟩
    rw[hi]
    simp[show j<ds.length by lia,show j<es.length by lia]
   ·exact⟨true,λ_ z=>absurd z h2⟩
  ·exact⟨true,λz=>absurd z h1⟩
 refine⟨λj=>Classical.choose (key j),λj h1 h2=>?_,?_⟩
 ·have KR:j<its.length:=by simpa using h1
  have h2':j<its2.length:=by simpa using h2
  have:=(Classical.choose_spec (key j) KR h2').1
  simpa using this
 ·rw[Bool.and_eq_true,List.all_eq_true,beq_iff_eq]
  constructor
  ·rintro⟨ha,hl⟩
   apply List.ext_getElem?
   intro j
   by_cases hj:j<its.length
   ·have hj2:j<its2.length:=by lia
    exact((Classical.choose_spec (key j) hj hj2).2).mp (ha j (List.mem_range.mpr LI))
   ·rw[List.getElem?_eq_none LI,List.getElem?_eq_none LI]
  ·rintro rfl
   refine⟨λj hj=>?_,by lia⟩
   have hj':=List.mem_range.mp hj
   exact((Classical.choose_spec (key j) LI LI).2).mpr rfl
theorem gQ:∀{ds es:List Dv}{j:Nat}{d e:Dv},fN ds es=true->ds[j]? = some d->es[j]? = some e->fc d e=true
 |[],_,_,_,_,_,h,_=>by simp at h
 |_::_,[],_,_,_,_,_,h=>by simp at h
 |a::l,b::r,0,d,e,h,h1,h2=>by
  simp at h1 h2
  subst h1 h2
  simp only[fN,Bool.and_eq_true]at h
  exact h.1
 |a::l,b::r,j+1,d,e,h,h1,h2=>by
  simp only[fN,Bool.and_eq_true]at h
  exact gQ (j:=j) h.2 (by simpa using h1) (by simpa using h2)
theorem gT:∀{ds:List Dv}{j:Nat}{d:Dv},ds[j]? = some d->d.dep<=Dv.deps ds
 |[],_,_,h=>by simp at h
 |a::l,0,d,h=>by
  simp at h
  subst h
  simp only[Dv.deps]
  exact Nat.le_max_left _ _
 |a::l,j+1,d,h=>by
  have:=gT (ds:=l) (j:=j) (d:=d) (by simpa using h)
  simp only[Dv.deps]
  exact Nat.le_trans this (Nat.le_max_right _ _)
theorem zT{A:Around}{a b:Addr}{xs ys:List V}{ds es:List Dv}(I:Inv X pins σ H s)(ha:bJ X.K H a xs)(hb:bJ X.K H b ys)(da:gf X.K H xs ds)(db:gf X.K H ys es)(hu:A.units<cLine)
  (he:∀(j:Nat) x y u w d e,xs[j]? = some x->ys[j]? = some y->ds[j]? = some d->es[j]? = some e->Dn X.K H x d->Dn X.K H y e->RelV x u->RelV y w->∃b,SeqAt.EqAt A.in1 s u w b/\(b=true↔d=e)):
  ∃k,SeqAt.RcAt A s (.ref a) (.ref b) k/\SeqAt.RcNeAt A s (.ref a) (.ref b) (!k)/\(k=true↔ds=es):=by
 obtain⟨its,r1,p1,_⟩:=I.tuple ha
 obtain⟨its2,r2,p2,_⟩:=I.tuple hb
 obtain⟨f,h1,h2⟩:=wJ (A:=A.in1) (s:=s) (its:=its) (its2:=its2) (ds:=ds) (es:=es) (λj u w d e e1 e2 e3 e4=>by
  obtain⟨x,ex,dx⟩:=da.get e3
  obtain⟨y,ey,dy⟩:=db.get e4
  obtain⟨u',eu,ru⟩:=r1.get ex
  obtain⟨w',ew,rw'⟩:=r2.get ey
  rw[e1]at eu;cases eu
  rw[e2]at ew;cases ew
  exact he j x y u w d e ex ey e3 e4 dx dy ru rw') (by rw[←r1.length];exact da.length) (by rw[←r2.length];exact db.length)
 have q1:=SeqAt.RcAt.tuples (A:=A) (s:=s) (l:=a) (b:=b) (items:=its.toArray) (items2:=its2.toArray) (e:=f) p1 p2 hu h1
 have q2:=SeqAt.RcNeAt.tuples (A:=A) (s:=s) (l:=a) (b:=b) (items:=its.toArray) (items2:=its2.toArray) (e:=f) p1 p2 hu h1
 rw[List.size_toArray,List.size_toArray]at q1 q2
 exact⟨_,q1,q2,h2⟩
theorem zU{A:Around}{a b:Addr}{xs ys:List V}{ds es:List Dv}(I:Inv X pins σ H s)(ha:aZ X.K H a xs)(hb:aZ X.K H b ys)(da:gf X.K H xs ds)(db:gf X.K H ys es)(hu:A.units<cLine)
  (he:∀(j:Nat) x y u w d e,xs[j]? = some x->ys[j]? = some y->ds[j]? = some d->es[j]? = some e->Dn X.K H x d->Dn X.K H y e->RelV x u->RelV y w->∃b,SeqAt.EqAt A.in1 s u w b/\(b=true↔d=e)):
  ∃k,SeqAt.RcAt A s (.ref a) (.ref b) k/\SeqAt.RcNeAt A s (.ref a) (.ref b) (!k)/\(k=true↔ds=es):=by
 obtain⟨its,r1,p1,_⟩:=I.list ha
 obtain⟨its2,r2,p2,_⟩:=I.list hb
 obtain⟨f,h1,h2⟩:=wJ (A:=A.in1) (s:=s) (its:=its) (its2:=its2) (ds:=ds) (es:=es) (λj u w d e e1 e2 e3 e4=>by
  obtain⟨x,ex,dx⟩:=da.get e3
  obtain⟨y,ey,dy⟩:=db.get e4
  obtain⟨u',eu,ru⟩:=r1.get ex
  obtain⟨w',ew,rw'⟩:=r2.get ey
  rw[e1]at eu;cases eu
  rw[e2]at ew;cases ew
  exact he j x y u w d e ex ey e3 e4 dx dy ru rw') (by rw[←r1.length];exact da.length) (by rw[←r2.length];exact db.length)
 have l1:its.length=ds.length:=by rw[←r1.length];exact da.length
 have l2:its2.length=es.length:=by rw[←r2.length];exact db.length
 by_cases hl:its.length=its2.length
 ·have hsz:its.toArray.size=its2.toArray.size:=by rw[List.size_toArray,List.size_toArray];exact hl
  have q1:=SeqAt.RcAt.lists (A:=A) (s:=s) (l:=a) (b:=b) (items:=its.toArray) (items2:=its2.toArray) (e:=f) p1.isList p2.isList hsz hu h1
  have q2:=SeqAt.RcNeAt.lists (A:=A) (s:=s) (l:=a) (b:=b) (items:=its.toArray) (items2:=its2.toArray) (e:=f) p1.isList p2.isList hsz hu h1
  rw[List.size_toArray]at q1 q2
  refine⟨_,q1,q2,?_⟩
  rw[←h2,hl,Nat.min_self]
  simp
 ·have hsz:(its.toArray.size != its2.toArray.size)=true:=by
   rw[List.size_toArray,List.size_toArray]
   simpa using hl
  refine⟨false,SeqAt.RcAt.lists_lengths p1.isList p2.isList hsz hu,SeqAt.RcNeAt.lists_lengths p1.isList p2.isList hsz hu,?_⟩
  constructor
  ·intro z;cases z
  ·rintro rfl
   exact absurd (l1.trans l2.symm) hl
mutual
theorem Dn.inj(I:Inv X pins σ H s):∀{x:V}{d e:Dv},Dn X.K H x d->Dn X.K H x e->d=e
 |_,_,_,.dR,.dR=>rfl
 |_,_,_,.bl _,.bl _=>rfl
 |_,_,_,.int _,.int _=>rfl
 |_,_,_,.str _,.str _=>rfl
 |_,_,_,.tup (a:=a) h t,.tup h' t'=>by
  have e:=I.rT h h'
  subst e
  rw[gf.inj I t t']
 |_,_,_,.lst (a:=a) h t,.lst h' t'=>by
  have e:=I.wu h h'
  subst e
  rw[gf.inj I t t']
 |_,_,_,.tup (a:=a) h t,.lst h' t'=>by
  obtain⟨its,_,p1,_⟩:=I.tuple h
  obtain⟨its2,_,p2,_⟩:=I.list h'
  exact absurd rfl (SeqAt.ne_of_list_tuple p2.isList p1)
 |_,_,_,.lst (a:=a) h t,.tup h' t'=>by
  obtain⟨its,_,p1,_⟩:=I.tuple h'
  obtain⟨its2,_,p2,_⟩:=I.list h
  exact absurd rfl (SeqAt.ne_of_list_tuple p2.isList p1)
theorem gf.inj(I:Inv X pins σ H s):∀{xs:List V}{ds es:List Dv},gf X.K H xs ds->gf X.K H xs es->ds=es
 |_,_,_,.nil,.nil=>rfl
 |_,_,_,.cons r t,.cons r' t'=>by rw[Dn.inj I r r',gf.inj I t t']
end
theorem bT{d e:Dv}(h:d≠e):(false=true↔d=e):=⟨λz=>(nomatch z),λz=>absurd z h⟩
theorem s_(I:Inv X pins σ H s){n:Nat}{A:Around}{d e:Dv}{x y:V}{u w:Value}(hd:d.dep<=n)(hu:A.units<cLine)(hm:fc d e=true)(dx:Dn X.K H x d)(dy:Dn X.K H y e)(rx:RelV x u)(ry:RelV y w)
  (ih:∀{d' e':Dv}{x' y':V}{u' w':Value},d'.dep+1<=n->fc d' e'=true->Dn X.K H x' d'->Dn X.K H y' e'->RelV x' u'->RelV y' w'->∃b,SeqAt.EqAt A.in1 s u' w' b/\(b=true↔d'=e')):
  ∃b,SeqAt.EqAt A s u w b/\(b=true↔d=e):=by
 cases dx with
 |dR=>
  cases rx
  cases dy with
  |dR=>cases ry;exact⟨true,SeqAt.EqAt.same _,by simp⟩
  |bl b=>cases ry;exact⟨false,SeqAt.EqAt.none_bool b,bT (by simp)⟩
  |int i=>obtain⟨t,rfl⟩:=ry;exact⟨false,SeqAt.EqAt.none_int i t,bT (by simp)⟩
  |str z=>obtain⟨t,rfl⟩:=ry;exact⟨false,SeqAt.EqAt.none_str z t,bT (by simp)⟩
  |tup h _=>cases ry;obtain⟨its,_,p,_⟩:=I.tuple h;exact⟨false,SeqAt.EqAt.none_tuple p hu,bT (by simp)⟩
  |lst h _=>cases ry;obtain⟨its,_,p,_⟩:=I.list h;exact⟨false,SeqAt.EqAt.none_list p.isList hu,bT (by simp)⟩
 |bl a=>
  cases rx
  cases dy with
  |dR=>cases ry;exact⟨false,SeqAt.EqAt.bool_none a,bT (by simp)⟩
  |bl b=>cases ry;exact⟨_,SeqAt.EqAt.bool_bool a b,by simp⟩
  |int i=>exact absurd hm (by simp[fc])
  |str z=>obtain⟨t,rfl⟩:=ry;exact⟨false,SeqAt.EqAt.bool_str a z t,bT (by simp)⟩
  |tup h _=>cases ry;obtain⟨its,_,p,_⟩:=I.tuple h;exact⟨false,SeqAt.EqAt.bool_tuple a p hu,bT (by simp)⟩
  |lst h _=>cases ry;obtain⟨its,_,p,_⟩:=I.list h;exact⟨false,SeqAt.EqAt.bool_list a p.isList hu,bT (by simp)⟩
 |int a=>
  obtain⟨ta,rfl⟩:=rx
  cases dy with
  |dR=>cases ry;exact⟨false,SeqAt.EqAt.int_none a ta,bT (by simp)⟩
  |bl b=>exact absurd hm (by simp[fc])
  |int i=>obtain⟨t,rfl⟩:=ry;exact⟨_,SeqAt.EqAt.int_int a ta i t,by simp⟩
  |str z=>obtain⟨t,rfl⟩:=ry;exact⟨false,SeqAt.EqAt.int_str a ta z t,bT (by simp)⟩
  |tup h _=>cases ry;obtain⟨its,_,p,_⟩:=I.tuple h;exact⟨false,SeqAt.EqAt.int_tuple a ta p hu,bT (by simp)⟩
  |lst h _=>cases ry;obtain⟨its,_,p,_⟩:=I.list h;exact⟨false,SeqAt.EqAt.int_list a ta p.isList hu,bT (by simp)⟩
 |str a=>
  obtain⟨ta,rfl⟩:=rx
  cases dy with
  |dR=>cases ry;exact⟨false,SeqAt.EqAt.str_none a ta,bT (by simp)⟩
  |bl b=>cases ry;exact⟨false,SeqAt.EqAt.str_bool a ta b,bT (by simp)⟩
  |int i=>obtain⟨t,rfl⟩:=ry;exact⟨false,SeqAt.EqAt.str_int a ta i t,bT (by simp)⟩
  |str z=>obtain⟨t,rfl⟩:=ry;exact⟨_,SeqAt.EqAt.str_str a ta z t,by simp⟩
  |tup h _=>cases ry;obtain⟨its,_,p,_⟩:=I.tuple h;exact⟨false,SeqAt.EqAt.str_tuple a ta p hu,bT (by simp)⟩
  |lst h _=>cases ry;obtain⟨its,_,p,_⟩:=I.list h;exact⟨false,SeqAt.EqAt.str_list a ta p.isList hu,bT (by simp)⟩
 | @tup a xs ds ha da=>
  cases rx
  obtain⟨its,_,p,_⟩:=I.tuple ha
  cases dy with
  |dR=>cases ry;exact⟨false,SeqAt.EqAt.tuple_none p hu,bT (by simp)⟩
  |bl b=>cases ry;exact⟨false,SeqAt.EqAt.tuple_bool b p hu,bT (by simp)⟩
  |int i=>obtain⟨t,rfl⟩:=ry;exact⟨false,SeqAt.EqAt.tuple_int i t p hu,bT (by simp)⟩
  |str z=>obtain⟨t,rfl⟩:=ry;exact⟨false,SeqAt.EqAt.tuple_str z t p hu,bT (by simp)⟩
  |lst h _=>cases ry;obtain⟨its2,_,p2,_⟩:=I.list h;exact⟨false,SeqAt.EqAt.tuple_list p p2.isList hu,bT (by simp)⟩
  | @tup b ys es hb db=>
   cases ry
   by_cases hab:a=b
   ·subst hab
    exact⟨true,SeqAt.EqAt.same _,by rw[Dn.inj I (.tup ha da) (.tup hb db)];simp⟩
   ·have hm':fN ds es=true:=by simpa only[fc]using hm
    have hd':Dv.deps ds+1<=n:=by simpa only[Dv.dep]using hd
    obtain⟨k,q1,_,q3⟩:=zT I ha hb da db hu (λj x' y' u' w' d' e' _ _ e3 e4 I_ IZ Hz Hy=>ih (by have:=gT e3;lia) (gQ hm' e3 e4) I_ IZ Hz Hy)
    refine⟨k,SeqAt.EqAt.of_refs hab q1,?_⟩
    rw[q3]
    simp
 | @lst a xs ds ha da=>
  cases rx
  obtain⟨its,_,p,_⟩:=I.list ha
  cases dy with
  |dR=>cases ry;exact⟨false,SeqAt.EqAt.list_none p.isList hu,bT (by simp)⟩
  |bl b=>cases ry;exact⟨false,SeqAt.EqAt.list_bool b p.isList hu,bT (by simp)⟩
  |int i=>obtain⟨t,rfl⟩:=ry;exact⟨false,SeqAt.EqAt.list_int i t p.isList hu,bT (by simp)⟩
  |str z=>obtain⟨t,rfl⟩:=ry;exact⟨false,SeqAt.EqAt.list_str z t p.isList hu,bT (by simp)⟩
  |tup h _=>cases ry;obtain⟨its2,_,p2,_⟩:=I.tuple h;exact⟨false,SeqAt.EqAt.list_tuple p.isList p2 hu,bT (by simp)⟩
  | @lst b ys es hb db=>
   cases ry
   by_cases hab:a=b
   ·subst hab
    exact⟨true,SeqAt.EqAt.same _,by rw[Dn.inj I (.lst ha da) (.lst hb db)];simp⟩
   ·have hm':fN ds es=true:=by simpa only[fc]using hm
    have hd':Dv.deps ds+1<=n:=by simpa only[Dv.dep]using hd
    obtain⟨k,q1,_,q3⟩:=zU I ha hb da db hu (λj x' y' u' w' d' e' _ _ e3 e4 I_ IZ Hz Hy=>ih (by have:=gT e3;lia) (gQ hm' e3 e4) I_ IZ Hz Hy)
    refine⟨k,SeqAt.EqAt.of_refs hab q1,?_⟩
    rw[q3]
    simp
theorem iW(I:Inv X pins σ H s):∀(n:Nat){A:Around}{d e:Dv}{x y:V}{u w:Value},d.dep<=n->A.units+n<cLine->fc d e=true->Dn X.K H x d->Dn X.K H y e->RelV x u->RelV y w->∃b,SeqAt.EqAt A s u w b/\(b=true↔d=e)
 |0,A,d,e,x,y,u,w,hd,hu,hm,dx,dy,rx,ry=>s_ I hd LI hm dx dy rx ry λh=>absurd h LI
 |n+1,A,d,e,x,y,u,w,hd,hu,hm,dx,dy,rx,ry=>s_ I hd LI hm dx dy rx ry λh hm' I_ IZ Hz Hy=>iW I n LI (by rw[in1_units];lia) hm' I_ IZ Hz Hy
inductive JZ(K:Fg7)(x:V)(y:V)(H:Hp)(Q:VK):Prop
 |mk(d:_)(e:_):(Dn K H x d)->(Dn K H y e)->(((∃l r,d=.tup l/\e=.tup r)\/∃l r,d=.lst l/\e=.lst r))->(fc d e=true)->(d.dep<=30)->(∀b:Bool,(b=true↔d=e)->Q (.bl (!b)) H)->JZ K x y H Q
def UL(K:Fg7):R2:=λx y H Q=>JZ K x y H Q
theorem HC{A:Around}{d e:Dv}{x y:V}{u w:Value}(I:Inv X pins σ H s)(hu:A.units+64<cLine)(dx:Dn X.K H x d)(dy:Dn X.K H y e)(hk:(∃l r,d=.tup l/\e=.tup r)\/∃l r,d=.lst l/\e=.lst r)(hm:fc d e=true)
  (hd:d.dep<=30)(rx:RelV x u)(ry:RelV y w):∃k,SeqAt.RcAt A s u w k/\SeqAt.RcNeAt A s u w (!k)/\(k=true↔d=e):=by
 rcases hk with⟨l,r,rfl,rfl⟩|⟨l,r,rfl,rfl⟩
 ·cases dx with
  |tup ha da=>
   cases dy with
   |tup hb db=>
    cases rx
    cases ry
    have hm':fN l r=true:=by simpa only[fc]using hm
    have hd':Dv.deps l+1<=30:=by simpa only[Dv.dep]using hd
    obtain⟨k,q1,q2,q3⟩:=zT I ha hb da db (A:=A) LI (λj x' y' u' w' d' e' _ _ e3 e4 I_ IZ Hz Hy=>iW I 30 (by have:=gT e3;lia) (by rw[in1_units];lia) (gQ hm' e3 e4) I_ IZ Hz Hy)
    exact⟨k,q1,q2,by rw[q3];simp⟩
 ·cases dx with
  |lst ha da=>
   cases dy with
   |lst hb db=>
    cases rx
    cases ry
    have hm':fN l r=true:=by simpa only[fc]using hm
    have hd':Dv.deps l+1<=30:=by simpa only[Dv.dep]using hd
    obtain⟨k,q1,q2,q3⟩:=zU I ha hb da db (A:=A) LI (λj x' y' u' w' d' e' _ _ e3 e4 I_ IZ Hz Hy=>iW I 30 (by have:=gT e3;lia) (by rw[in1_units];lia) (gQ hm' e3 e4) I_ IZ Hz Hy)
    exact⟨k,q1,q2,by rw[q3];simp⟩
end
theorem LY{X:Cx}(hu:X.A.units+64<cLine):iD X (compareOp .NotEq) (UL X.K):=by
 intro pins s σ H x y v u Q I rx ry h
 obtain⟨d,e,dx,dy,hk,hm,hd,q⟩:=h
 obtain⟨k,_,q2,q3⟩:=HC I hu dx dy hk hm hd rx ry
 exact q2 _ _ _ _ ⟨.bl (!k),H,I,rfl,q k q3⟩
theorem aS{X:Cx}:ir X (.builtin "isinstance") (λxs H Q=>∃x T t b,xs=[x,.ty T]/\oh X.K H x t/\PySem.W.kitOne X.K t (.type T)=some b/\Q (.bl b) H):=by
 intro pins s σ H xs us Q I r h
 obtain⟨x,T,t,b,rfl,ty,e,q⟩:=h
 obtain⟨u,w',rfl,rx,ry⟩:=vals2 r
 cases ry
 exact BK I rx ty e λtk=>⟨.bl b,H,I.tok _,rfl,q⟩
structure aH(K:Fg7)(x:Str)(st:Stmt):Prop where
 ex:∃(f:Addr) (oc:Value) (od:Option Addr) (kV doc pm:Value) (an:Option Addr) (cdv ct:Value) (osl:Array (Option Value)),
  PySem.W.nsIn K mainGlobals x=some (some (.ref f))/\K.lookup f=some ⟨oc,od,.func (PySem.W.fnOf x x (aG st) (aF st) (ao st) .none kV doc pm an cdv ct),osl⟩/\PySem.W.codeIn K cdv x=true/\PySem.W.keepIn K (.ref f)=true
theorem aH.mk'{K:Fg7}{x:Str}{st:Stmt}{f:Addr}{oc:Value}{od:Option Addr}{kV doc pm:Value}{an:Option Addr}{cdv ct:Value}{osl:Array (Option Value)}
  (a:PySem.W.nsIn K mainGlobals x=some (some (.ref f)))(l:K.lookup f=some ⟨oc,od,.func (PySem.W.fnOf x x (aG st) (aF st) (ao st) .none kV doc pm an cdv ct),osl⟩)
  (c:PySem.W.codeIn K cdv x=true)(k:PySem.W.keepIn K (.ref f)=true):aH K x st:=⟨⟨f,oc,od,kV,doc,pm,an,cdv,ct,osl,a,l,c,k⟩⟩
structure MG(K:Fg7)(mg:Str->Option Value):Prop where
 is:∀x v,PySem.W.nsIn K mainGlobals x=some (some v)->mg x=some v
 no:∀x,PySem.W.nsIn K mainGlobals x=some none->mg x=none
def eN(P:Program)(w:World)(K:Fg7)(mg:Str->Option Value)(x:Str)(ps:List Str)(k:Nat)(sp:Sp):Prop:=
 ∃(f:Addr) (fd:FuncData),mg x=some (.ref f)/\PySem.W.keepIn K (.ref f)=true/\(∀us:List Value,us.length=ps.length->bindArgs fd ⟨us,[]⟩=pure (ps.zip us))/\∀base,mU P w K mg base jg k f fd ps sp
theorem eN.imp{P:Program}{w:World}{K:Fg7}{mg:Str->Option Value}{x:Str}{ps:List Str}{k:Nat}{sp uR:Sp}(F:eN P w K mg x ps k sp)(h:∀vs H Q E,uR vs H Q E->sp vs H Q E):eN P w K mg x ps k uR:=by
 obtain⟨f,fd,h1,h2,h3,h4⟩:=F
 exact⟨f,fd,h1,h2,h3,λbase=>(h4 base).imp h⟩
theorem aH.fn{P:Program}{w:World}{K:Fg7}{mg:Str->Option Value}{x:Str}{st:Stmt}{N ps:List Str}{k:Nat}{sp:Sp}(D:aH K x st)(M:MG K mg)(S:aM N ps (ao st))
  (hb:∀(kV doc pm:Value)(an:Option Addr)(cdv ct:Value)(us:List Value),us.length=ps.length->bindArgs (PySem.W.fnOf x x (aG st) (aF st) (ao st) .none kV doc pm an cdv ct) ⟨us,[]⟩=pure (ps.zip us))
  (len:∀vs H Q E,sp vs H Q E->vs.length=ps.length)
  (hbody:∀(f:Addr)(base:Heap)(cdv:Value)(A:Around)(outer:List Env)(s:Shared)(H:Hp)(vs:List V)(Q:VK)(E:XK),dH k (A.deeper (envOfC x (ao st) s.heap.objs.size f cdv))->sp vs H Q E->
   ∃t,uS (pJ jg P w K mg base N x (ao st) f cdv A outer s H E).GF (aF st) t/\t {nx:=λ_ H'=>Q .dR H',rt:=Q} (start N vs) H):eN P w K mg x ps (k+1) sp:=by
 obtain⟨f,oc,od,kV,doc,pm,an,cdv,ct,osl,a,l,c,kp⟩:=D.ex
 have F:Sq K x x st f (PySem.W.fnOf x x (aG st) (aF st) (ao st) .none kV doc pm an cdv ct):=FD l c kp
 exact⟨f,_,M.is _ _ a,kp,hb kV doc pm an cdv ct,λbase=>F.ok S len (hbody f base)⟩
section
variable {X:Cx} {k:Nat} {ps:List Str} {sp:Sp} {x:Str} {p pos:Pos} {e:Expr} {es:List Expr} {t:TA}
theorem En(F:eN X.prog X.w X.K X.mg x ps k sp)(hr:dH k X.A)(hg:Gl X x)(ha:PA X (e::es) t)
  (hdb:(x==("__debug__":Str))=false:=by decide)(he:starEach (e::es) X.env=(false,eval e X.env)::starEach es X.env:=by rfl)(hpl:(backTo pos (starEach es X.env)).any (·.1)=false:=by rfl):
  PE X (.Call (.Name x p) (e::es) [] pos) (De sp [] E0 t):=by
 obtain⟨f,fd,h1,h2,h3,h4⟩:=F
 exact HR (h4 X.base) hr hg h1 h2 (.all h3) .nil gh ha hdb he hpl
def dO(K:Fg7)(x:Str)(v:V):Prop:=∃u,PySem.W.nsIn K mainGlobals x=some (some u)/\RelV v u
theorem jt{v:V}(G:dO X.K x v)(M:MG X.K X.mg)(hg:Gl X x)(hd:(x==("__debug__":Str))=false:=by decide):PE X (.Name x p) (tC v):=by
 obtain⟨u,h1,h2⟩:=G
 exact HN hg (M.is _ _ h1) h2 hd
end
inductive CU(t:TS)(u:TS)(D:Ends)(σ:St)(H:Hp):Prop
 |mk(G:St->Hp->Prop):(t {D with nx:=G} σ H)->(∀σ' H',G σ' H'->u D σ' H')->CU t u D σ H
def OO(t u:TS):TS:=λD σ H=>CU t u D σ H
theorem iH{X:Cx}{st:Stmt}{rest:List Stmt}{t u:TS}(h1:PS X st t)(h2:uS X rest u):uS X (st::rest) (OO t u):=by
 intro pins s σ H D I h
 obtain⟨G,q1,q2⟩:=h
 refine wpAny_execs_cons (dm (h1 pins s σ H {D with nx:=G} I q1) λf s1 q=>?_)
 cases f with
 |next=>
  obtain⟨σ',H',I',q⟩:=q
  exact h2 pins s1 σ' H' D I' (q2 σ' H' q)
 |ret v=>exact q
 |brk=>exact q
 |cont=>exact q
theorem gY.nil{X:Cx}{scope:Scope}:gY X scope [] []:=trivial
theorem gY.own{X:Cx}{scope:Scope}{js:List (Option Nat)}{x:Str}{N:List Str}(h:gY X scope js N):gY X scope (none::js) (x::N):=h
theorem gY.out{X:Cx}{scope:Scope}{j:Nat}{js:List (Option Nat)}{x:Str}{N:List Str}(h1:X.N[j]? = some x)(h2:scope.names.lookup x=some .free)(h3:X.env.kindOf x=some .cell\/X.env.kindOf x=some .free)(h:gY X scope js N):gY X scope (some j::js) (x::N):=by
 refine⟨⟨h1,h2,?_,h3⟩,h⟩
 rcases h3 with e|e<;>rw[e]<;>intro z<;>cases z
theorem cI.nil{cells:List (Str×Addr)}:cI cells []:=trivial
theorem cI.cons{cells:List (Str×Addr)}{p:Str×Addr}{r:List (Str×Addr)}(h1:cells.lookup p.1=some p.2)(h2:cI cells r):cI cells (p::r):=⟨h1,h2⟩
abbrev aX{K:Fg7}{mg:PySem.Str->Option PySem.Value}(_:MG K mg):Fg7:=K
def ng:Expr->Bool
 |.Starred .. =>false
 |_=>true
theorem gJ{e:Expr}{es:List Expr}{env:Env}(h:ng e=true):starEach (e::es) env=(false,eval e env)::starEach es env:=by
 cases e<;>first|rfl|exact absurd h Bool.false_ne_true
def jF:List Expr->Bool
 |[]=>true
 |e::r=>ng e&&jF r
theorem iZ{pos:Pos}{env:Env}:∀{es:List Expr},jF es=true->(backTo pos (starEach es env)).any (·.1)=false
 |[],_=>rfl
 |e::r,h=>by
  simp only[jF,Bool.and_eq_true]at h
  rw[gJ h.1]
  show(false||(backTo pos (starEach r env)).any (·.1))=false
  rw[iZ h.2]
  rfl
def yi:Expr->Bool
 |.ListComp .. =>false
 |.SetComp .. =>false
 |.DictComp .. =>false
 |_=>true
theorem oJ{e:Expr}{t:Option Expr}{l:Nat}{env:Env}(h:yi e=true):swapsWith e t l env=pure false:=by
 cases e<;>first|rfl|exact absurd h Bool.false_ne_true
section
variable {X:Cx} {e:Expr} {es:List Expr} {te ta tb:TE} {t:TA} {pos p:Pos} {x:Str} {k:Nat} {ps:List Str} {sp:Sp}
theorem pc(ha:PE X e te)(hr:PA X es t)(h:ng e=true:=by rfl):PA X (e::es) (JF te t):=HS ha hr (gJ h)
theorem cV{i:Nat}{pos':Pos}(hN:X.N.Nodup)(hi:X.N[i]? = some x)(hx:Loc X.env.scope x)(he:PE X e te)(h:yi e=true:=by rfl)(hf:X.fn x=true\/X.env.scope.names.lookup x=some .local:=by first|exact .inl rfl|exact .inr rfl|assumption):
  PS X (.Assign [.Name x pos'] e pos) (G_ te (dU i)):=Eg hN hi hx he (oJ h) hf
theorem iI(he:PE X e te)(h:yi e=true:=by rfl):PS X (.Expr e pos) (JE te):=HH he (oJ h)
theorem a_(F:eN X.prog X.w X.K X.mg x ps k sp)(hr:dH k X.A)(hg:Gl X x)(ha:PA X (e::es) t)(hdb:(x==("__debug__":Str))=false:=by decide)(h1:ng e=true:=by rfl)(h2:jF es=true:=by rfl):
  PE X (.Call (.Name x p) (e::es) [] pos) (De sp [] E0 t):=En F hr hg ha hdb (gJ h1) (iZ h2)
variable {id T:String} {r:List V->Hp->VK->Prop}
theorem aU(hc:ir X (.builtin id) r)(hg:Gl X x)(hm:X.mg x=none)(hv:bootBuiltins x=some (.builtin id))(ha:PA X (e::es) t)(hn:x≠"__name__":=by decide)(hdb:(x==("__debug__":Str))=false:=by decide)
  (h1:ng e=true:=by rfl)(h2:jF es=true:=by rfl):PE X (.Call (.Name x p) (e::es) [] pos) (Sz r t):=Eo hc hg hm hv ha hn hdb (gJ h1) (iZ h2)
theorem pX(hc:ir X (.type T) r)(hg:Gl X x)(hm:X.mg x=none)(hv:bootBuiltins x=some (.type T))(ha:PA X (e::es) t)(hn:x≠"__name__":=by decide)(hdb:(x==("__debug__":Str))=false:=by decide)
  (h1:ng e=true:=by rfl)(h2:jF es=true:=by rfl):PE X (.Call (.Name x p) (e::es) [] pos) (Sz r t):=Bk hc hg hm hv ha hn hdb (gJ h1) (iZ h2)
end
inductive Jx(x:V)(y:V)(H:Hp)(Q:VK):Prop
 |mk(i:_)(j:_):(x=.int i)->(y=.int j)->(Q (.int (i+j)) H)->Jx x y H Q
def Uc:R2:=λx y H Q=>Jx x y H Q
inductive Jt(x:V)(y:V)(H:Hp)(Q:VK):Prop
 |mk(i:_)(j:_):(x=.int i)->(y=.int j)->(Q (.int (i-j)) H)->Jt x y H Q
def TZ:R2:=λx y H Q=>Jt x y H Q
inductive Jv(x:V)(y:V)(H:Hp)(Q:VK):Prop
 |mk(i:_)(j:_):(x=.int i)->(y=.int j)->(Jr i j)->(Q (.int (i*j)) H)->Jv x y H Q
def Ua:R2:=λx y H Q=>Jv x y H Q
inductive CB(x:V)(y:V)(H:Hp)(Q:VK):Prop
 |mk(i:_)(j:_):(x=.int i)->(y=.int j)->((yW i/\yW j))->(Q (.int (i*j)) H)->CB x y H Q
def OA:R2:=λx y H Q=>CB x y H Q
inductive CC(x:V)(y:V)(H:Hp)(Q:VK):Prop
 |mk(i:_)(j:_):(x=.int i)->(y=.int j)->((0<j/\yW j))->(Q (.int (i/j)) H)->CC x y H Q
def OE:R2:=λx y H Q=>CC x y H Q
inductive Jw(x:V)(y:V)(H:Hp)(Q:VK):Prop
 |mk(i:_)(j:_):(x=.int i)->(y=.int j)->(0<j)->(Q (.int (i%j)) H)->Jw x y H Q
def Ub:R2:=λx y H Q=>Jw x y H Q
inductive OB(x:V)(y:V)(H:Hp)(Q:VK):Prop
 |mk(i:_)(j:_):(x=.int i)->(y=.int j)->(Q (.bl (decide (i<j))) H)->OB x y H Q
def ZC:R2:=λx y H Q=>OB x y H Q
inductive OC(x:V)(y:V)(H:Hp)(Q:VK):Prop
 |mk(i:_)(j:_):(x=.int i)->(y=.int j)->(Q (.bl (decide (i<=j))) H)->OC x y H Q
def Xf:R2:=λx y H Q=>OC x y H Q
inductive OD(x:V)(y:V)(H:Hp)(Q:VK):Prop
 |mk(i:_)(j:_):(x=.int i)->(y=.int j)->(Q (.bl (decide (j<i))) H)->OD x y H Q
def ZD:R2:=λx y H Q=>OD x y H Q
inductive Ju(x:V)(H:Hp)(Q:VK):Prop
 |mk(i:_):(x=.int i)->(Q (.int (-i)) H)->Ju x H Q
def T_:V->Hp->VK->Prop:=λx H Q=>Ju x H Q
section
variable {X:Cx}
theorem iD.of{f:Value->Value->Sem Value}{r r':R2}(h:iD X f r)(k:∀x y H Q,r' x y H Q->r x y H Q):iD X f r':=λpins s σ H x y v u Q I a b z=>h pins s σ H x y v u Q I a b (k x y H Q z)
theorem Lf.of{f:Value->Sem Value}{r r':V->Hp->VK->Prop}(h:Lf X f r)(k:∀x H Q,r' x H Q->r x H Q):Lf X f r':=λpins s σ H x v Q I a z=>h pins s σ H x v Q I a (k x H Q z)
theorem iy:iD X (binaryOp .Add) Uc:=Ma.of λ_ _ _ _ ⟨i,j,a,b,q⟩=>⟨i,j,a,b,q⟩
theorem uq:iD X (binaryOp .Sub) TZ:=LX.of λ_ _ _ _ ⟨i,j,a,b,q⟩=>⟨i,j,a,b,q⟩
theorem fy:iD X (binaryOp .Mult) Ua:=LZ.of λ_ _ _ _ ⟨i,j,a,b,c,q⟩=>⟨i,j,a,b,c,q⟩
theorem Ew:iD X (binaryOp .Mult) OA:=HV.of λ_ _ _ _ ⟨i,j,a,b,c,q⟩=>⟨i,j,a,b,c,q⟩
theorem Ae:iD X (binaryOp .FloorDiv) OE:=Et.of λ_ _ _ _ ⟨i,j,a,b,c,q⟩=>⟨i,j,a,b,c,q⟩
theorem oMod:iD X (binaryOp .Mod) Ub:=L_.of λ_ _ _ _ ⟨i,j,a,b,c,q⟩=>⟨i,j,a,b,c,q⟩
theorem oLt:iD X (compareOp .Lt) ZC:=Pp.of λ_ _ _ _ ⟨i,j,a,b,q⟩=>⟨i,j,a,b,q⟩
theorem oLe:iD X (compareOp .LtE) Xf:=Pq.of λ_ _ _ _ ⟨i,j,a,b,q⟩=>⟨i,j,a,b,q⟩
theorem UR:iD X (compareOp .Gt) ZD:=Pr.of λ_ _ _ _ ⟨i,j,a,b,q⟩=>⟨i,j,a,b,q⟩
theorem uW:Lf X (unaryOp .USub) T_:=Li.of λ_ _ _ ⟨i,a,q⟩=>⟨i,a,q⟩
end
theorem dO.ofStr{K:Fg7}{x z:Str}{t:Tok}(a:PySem.W.nsIn K mainGlobals x=some (some (.str z t))):dO K x (.str z):=⟨_,a,⟨t,rfl⟩⟩
theorem dO.ofInt{K:Fg7}{x:Str}{i:Int}{t:Tok}(a:PySem.W.nsIn K mainGlobals x=some (some (.int i t))):dO K x (.int i):=⟨_,a,⟨t,rfl⟩⟩
section
variable {κ:Type} [DecidableEq κ]
def jM(kvs:List (κ×V))(k:κ):Option V:=(kvs.find? λkv=>decide (kv.1=k)).map (·.2)
def putK(kvs:List (κ×V))(k:κ)(v:V):List (κ×V):=
 if(kvs.any λkv=>decide (kv.1=k))=true then kvs.map (λkv=>if kv.1=k then(kv.1,v)else kv)else kvs++[(k,v)]
def jA(kvs:List (κ×V))(k:κ):List (κ×V):=kvs.filter λkv=>decide (kv.1≠k)
theorem lJ{p:κ×V}{r:List (κ×V)}{k:κ}(e:p.1=k):jM (p::r) k=some p.2:=by simp[jM,List.find?_cons,e]
theorem lK{p:κ×V}{r:List (κ×V)}{k:κ}(e:¬p.1=k):jM (p::r) k=jM r k:=by simp[jM,List.find?_cons,e]
theorem uV(k:κ):∀kvs:List (κ×V),(kvs.any λkv=>decide (kv.1=k))=(jM kvs k).isSome
 |[]=>rfl
 |p::r=>by
  rw[List.any_cons]
  by_cases e:p.1=k
  ·simp only[lJ e,decide_eq_true e,Bool.true_or,Option.isSome_some]
  ·rw[lK e,decide_eq_false e,Bool.false_or];exact uV k r
theorem oV(kvs:List (κ×V))(k:κ)(v:V):(putK kvs k v).length<=kvs.length+1:=by
 unfold putK
 split
 ·rw[List.length_map];lia
 ·rw[List.length_append,List.length_cons,List.length_nil];lia
theorem jc.BL{o:Option V}{u:Option Value}(r:jc o u):o.isSome=u.isSome:=by
 cases o with
 |none=>cases u with
  |none=>rfl
  |some _=>exact(show False from r).elim
 |some _=>cases u with
  |none=>exact(show False from r).elim
  |some _=>rfl
theorem jc.getD{o:Option V}{u:Option Value}{d:V}{d':Value}(r:jc o u)(rd:RelV d d'):RelV (o.getD d) (u.getD d'):=by
 cases o with
 |none=>cases u with
  |none=>exact rd
  |some _=>exact(show False from r).elim
 |some _=>cases u with
  |none=>exact(show False from r).elim
  |some _=>exact r
theorem KV.val{kvs:List (κ×V)}{vs:List (κ×Value)}(r:KV kvs vs)(k:κ):jc (jM kvs k) (valueAt vs k):=by
 unfold KV at r
 induction r with
 |nil=>exact True.intro
 | @cons p q ps qs h t ih=>
  obtain⟨h1,h2⟩:=h
  by_cases e:p.1=k
  ·have e':q.1=k:=h1.symm.trans e
   have b:valueAt (q::qs) k=some q.2:=by simp[valueAt,List.find?_cons,e']
   rw[lJ e,b];exact h2
  ·have e':¬q.1=k:=λz=>e (h1.trans z)
   have b:valueAt (q::qs) k=valueAt qs k:=by simp[valueAt,List.find?_cons,e']
   rw[lK e,b];exact ih
theorem KV.any{kvs:List (κ×V)}{vs:List (κ×Value)}(r:KV kvs vs)(k:κ):(kvs.any λkv=>decide (kv.1=k))=vs.any λkv=>decide (kv.1=k):=by
 unfold KV at r
 induction r with
 |nil=>rfl
 |cons h t ih=>rw[List.any_cons,List.any_cons,ih,h.1]
theorem KV.repl{kvs:List (κ×V)}{vs:List (κ×Value)}(r:KV kvs vs)(k:κ){y:V}{u:Value}(ry:RelV y u):
  KV (kvs.map λkv=>if kv.1=k then(kv.1,y)else kv) (vs.map λkv=>if kv.1=k then(kv.1,u)else kv):=by
 unfold KV at r ⊢
 induction r with
 |nil=>exact .nil
 | @cons p q ps qs h t ih=>
  rw[List.map_cons,List.map_cons]
  refine .cons ?_ ih
  obtain⟨h1,h2⟩:=h
  by_cases e:p.1=k
  ·rw[if_pos e,if_pos (h1.symm.trans e)];exact⟨h1,ry⟩
  ·rw[if_neg e,if_neg (λz=>e (h1.trans z))];exact⟨h1,h2⟩
theorem KV.put{kvs:List (κ×V)}{vs:List (κ×Value)}(r:KV kvs vs)(k:κ){y:V}{u:Value}(ry:RelV y u):KV (putK kvs k y) (stored vs k u):=by
 unfold putK stored
 rw[r.any k]
 by_cases e:(vs.any λkv=>decide (kv.1=k))=true
 ·rw[if_pos e,if_pos e];exact r.repl k ry
 ·rw[if_neg e,if_neg e];exact Paired.snoc r ⟨rfl,ry⟩
theorem KV.length{kvs:List (κ×V)}{vs:List (κ×Value)}(r:KV kvs vs):kvs.length=vs.length:=Paired.length r
theorem FP(kvs:List (κ×V))(k:κ):(jA kvs k).length<=kvs.length:=List.length_filter_le _ _
end
theorem Aq{P:Program}{w:World}{k:Key}{u:Value}(r:RelV (kV k) u):(bF P w).is k u=true:=by
 cases k with
 |inl i=>obtain⟨t,e⟩:=(show∃t,u=Value.int i t from r);subst e;exact vZ P w i t
 |inr x=>obtain⟨t,e⟩:=(show∃t,u=Value.str x t from r);subst e;exact vY P w x t
theorem sQ{P:Program}{w:World}:∀{ks:List Key}{us:List Value},Vals (ks.map kV) us->ItemsAre (bF P w) ks us
 |[],_,r=>by rw[List.map_nil]at r;cases r;exact .nil
 |k::ks,_,r=>by
  rw[List.map_cons]at r
  cases r with
  |cons h t=>exact .cons (Aq h) (sQ t)
abbrev KT(H:Hp):List (List Key×V)->List (List Key×Addr×Value)->Prop:=Paired λp q=>p.1=q.1/\H q.2.1=some (.tup (p.1.map kV))/\RelV p.2 q.2.2
theorem KT.val{H:Hp}{kvs:List (List Key×V)}{xs:List (List Key×Addr×Value)}(r:KT H kvs xs)(k:List Key):jc (jM kvs k) ((atKey xs k).map (·.2)):=by
 induction r with
 |nil=>exact True.intro
 | @cons p q ps qs h t ih=>
  obtain⟨h1,_,h2⟩:=h
  by_cases e:p.1=k
  ·have e':q.1=k:=h1.symm.trans e
   have b:atKey (q::qs) k=some q.2:=by simp[atKey,List.find?_cons,e']
   rw[lJ e,b];exact h2
  ·have e':¬q.1=k:=λz=>e (h1.trans z)
   have b:atKey (q::qs) k=atKey qs k:=by simp[atKey,List.find?_cons,e']
   rw[lK e,b];exact ih
theorem KT.repl{H:Hp}{kvs:List (List Key×V)}{xs:List (List Key×Addr×Value)}(r:KT H kvs xs)(k:List Key){y:V}{u:Value}(ry:RelV y u):
  KT H (kvs.map λkv=>if kv.1=k then(kv.1,y)else kv) (xs.map (putAt k u)):=by
 induction r with
 |nil=>exact .nil
 | @cons p q ps qs h t ih=>
  rw[List.map_cons,List.map_cons]
  refine .cons ?_ ih
  obtain⟨h1,h2,h3⟩:=h
  unfold putAt
  by_cases e:p.1=k
  ·rw[if_pos e,if_pos (h1.symm.trans e)];exact⟨h1,h2,ry⟩
  ·rw[if_neg e,if_neg (λz=>e (h1.trans z))];exact⟨h1,h2,h3⟩
theorem KT.put{H:Hp}{kvs:List (List Key×V)}{xs:List (List Key×Addr×Value)}(r:KT H kvs xs)(k:List Key){b:Addr}{y:V}{u:Value}(hb:H b=some (.tup (k.map kV)))(ry:RelV y u):
  KT H (putK kvs k y) (storedH xs k b u):=by
 have e:(kvs.any λkv=>decide (kv.1=k))=(atKey xs k).isSome:=by
  rw[uV,(r.val k).BL,Option.isSome_map]
 unfold putK storedH
 rw[e]
 by_cases q:(atKey xs k).isSome=true
 ·rw[if_pos q,if_pos q];exact r.repl k ry
 ·rw[if_neg q,if_neg q];exact Paired.snoc r ⟨rfl,hb,ry⟩
theorem KT.keeps{H H':Hp}{kvs:List (List Key×V)}{xs:List (List Key×Addr×Value)}(r:KT H kvs xs)(ht:∀b ys,H b=some (.tup ys)->H' b=some (.tup ys)):KT H' kvs xs:=
 Paired.EF r λ_ _ z=>⟨z.1,ht _ _ z.2.1,z.2.2⟩
section
variable {P:Program} {w:World} {H:Hp} {h:Heap} {a:Addr}
theorem JV{u:HO}(ok:kZ P w H h)(e:Rd H a u):cA P w H h a u:=e.ok ok
theorem sZ{kvs:List (Key×V)}(ok:kZ P w H h)(e:Rd H a (.dK kvs)):kvs.length<=sizeLine/\(a==sysModules)=false/\∃vs,KV kvs vs/\h.DictOf (bF P w) a vs:=
 show cA P w H h a (.dK kvs)from JV ok e
theorem RU{kvs:List (Key×V)}(ok:kZ P w H h)(e:H a=some (.dK kvs)):kvs.length<=sizeLine/\(a==sysModules)=false/\∃vs,KV kvs vs/\h.DictOf (bF P w) a vs:=sZ ok (.inl e)
theorem qD{ks:List Key}(ok:kZ P w H h)(e:H a=some (.tup (ks.map kV))):(tupleKind (bF P w)).is h ks a:=by
 obtain⟨_,its,r,o,h1,h2,n,h3⟩:=(show cA P w H h a (.tup (ks.map kV))from ok a _ e)
 exact⟨o,its.toArray,n,h1,h2,h3,by simpa using sQ r⟩
theorem sX{kvs:List (List Key×V)}(ok:kZ P w H h)(e:Rd H a (.dT kvs)):kvs.length<=sizeLine/\(a==sysModules)=false/\
  ∃xs,KT H kvs xs/\h.DictOfH (tupleKind (bF P w)) a xs:=by
 obtain⟨z,y,xs,r,o,es,ep,h1,h2,h3,h4,h5⟩:=(show cA P w H h a (.dT kvs)from JV ok e)
 refine⟨z,y,xs,r,o,es,ep,h1,h2,h3,h4,λx hx=>?_,h5⟩
 have all:∀{l:List (List Key×V)}{m:List (List Key×Addr×Value)},KT H l m->∀x∈m,(tupleKind (bF P w)).is h x.1 x.2.1:=by
  intro l m q
  induction q with
  |nil=>intro x hx;exact nomatch hx
  | @cons p q ps qs hq t ih=>
   intro x hx
   rcases List.mem_cons.mp hx with e|hx
   ·subst e
    exact qD ok (by rw[←hq.1];exact hq.2.1)
   ·exact ih x hx
 exact all r x hx
theorem K_{kvs:List (List Key×V)}(ok:kZ P w H h)(e:H a=some (.dT kvs)):kvs.length<=sizeLine/\(a==sysModules)=false/\
  ∃xs,KT H kvs xs/\h.DictOfH (tupleKind (bF P w)) a xs:=sX ok (.inl e)
end
def uP(H:Hp)(a:Addr)(y:V)(r:Option V):Prop:=
 (∃kvs k,Rd H a (.dK kvs)/\y=kV k/\r=jM kvs k)\/∃kvs k b,Rd H a (.dT kvs)/\y=.ref b/\H b=some (.tup (k.map kV))/\r=jM kvs k
def Cs(H:Hp)(a:Addr)(y v:V)(H':Hp):Prop:=
 (∃kvs k,H a=some (.dK kvs)/\y=kV k/\kvs.length<sizeLine/\H'=upd H a (.dK (putK kvs k v)))\/
 ∃kvs k b,H a=some (.dT kvs)/\y=.ref b/\H b=some (.tup (k.map kV))/\kvs.length<sizeLine/\H'=upd H a (.dT (putK kvs k v))
theorem uP.t{H:Hp}{a b:Addr}{kvs:List (List Key×V)}{k:List Key}(e:H a=some (.dT kvs))(eb:H b=some (.tup (k.map kV))):uP H a (.ref b) (jM kvs k):=.inr ⟨kvs,k,b,.inl e,rfl,eb,rfl⟩
theorem Cs.t{H:Hp}{a b:Addr}{kvs:List (List Key×V)}{k:List Key}{v:V}(e:H a=some (.dT kvs))(eb:H b=some (.tup (k.map kV)))(hl:kvs.length<sizeLine):
  Cs H a (.ref b) v (upd H a (.dT (putK kvs k v))):=.inr ⟨kvs,k,b,e,rfl,eb,hl,rfl⟩
section
variable {X:Cx} {pins:List (Addr×Obj)} {σ:St} {H:Hp} {s:Shared} {a:Addr} {y v:V} {u r:Value} {o:Option V} {A:Around} {E:Value->Shared->Prop}
theorem Inv.big(I:Inv X pins σ H s):sysModules<s.heap.objs.size:=by
 have h:mainGlobals<s.heap.objs.size:=(I.mod.glob.keeps I.bk).lt
 exact Nat.lt_trans (by decide) h
theorem B_{Q:Value->Shared->Prop}(hu:A.units+1<cLine)(I:Inv X pins σ H s)(g:uP H a y (some v))(ry:RelV y u)(h:∀w' s',Inv X pins σ H s'->RelV v w'->Q w' s'):
  wpAny (model X.prog X.w) A (getItem (.ref a) u) Q E s:=by
 rcases g with⟨kvs,k,e,ey,l⟩|⟨kvs,k,b,e,ey,eb,l⟩
 ·subst ey
  obtain⟨z,hd,vs,rel,dd⟩:=sZ I.hok e
  obtain⟨w',hw,rw'⟩:=jc.some_of (v:=v) (o:=valueAt vs k) (by rw[l];exact rel.val k)
  exact wpAny_getItem_of (Aq ry) dd.mapOf hw (h w' _ (I.tok _) rw')
 ·subst ey
  cases(show u=Value.ref b from ry)
  obtain⟨z,hd,xs,rel,dd⟩:=sX I.hok e
  obtain⟨w',hw,rw'⟩:=jc.some_of (v:=v) (o:=(atKey xs k).map (·.2)) (by rw[l];exact rel.val k)
  obtain⟨p,hp,hp2⟩:=Option.map_eq_some_iff.mp hw
  refine wpAny_getItem_heap (tupleKind_room_in1 hu) (qD I.hok eb) dd hp ?_
  rw[hp2]
  exact h w' _ (I.tok _) rw'
theorem uD{h':Heap}{t':Nat}{ob:HO}(I:Inv X pins σ H s)(mu:Si (H a))(hs:Heap.SameBut a s.heap h')(he:∃q,h'.get? a=some q)(new:cA X.prog X.w (upd H a ob) h' a ob):
  Inv X pins σ (upd H a ob) {s with heap:=h',toks:=t'}:=
 I.write (x:=a) (e:=a) mu (.inl rfl) (λb q hb z=>(hs.2 b hb).trans z) he new
theorem NI{P:Program}{w:World}{H':Hp}{h':Heap}{kvs:List (Key×V)}{vs:List (Key×Value)}(z:kvs.length<=sizeLine)(hd:(a==sysModules)=false)(rel:KV kvs vs)(dd:h'.DictOf (bF P w) a vs):
  cA P w H' h' a (.dK kvs):=⟨z,hd,vs,rel,dd⟩
theorem BZ{H':Hp}{Q:Unit->Shared->Prop}(hu:A.units+1<cLine)(I:Inv X pins σ H s)(g:Cs H a y v H')(ry:RelV y u)(rv:RelV v r)(h:∀s',Inv X pins σ H' s'->Q () s'):
  wpAny (model X.prog X.w) A (setItem (.ref a) u r) Q E s:=by
 rcases g with⟨kvs,k,e,ey,l,eH⟩|⟨kvs,k,b,e,ey,eb,l,eH⟩
 ·subst ey eH
  obtain⟨z,hd,vs,rel,dd⟩:=RU I.hok e
  have hz:vs.length<=sizeLine:=by rw[←rel.length];exact z
  have hl:(putK kvs k v).length<=sizeLine:=by have:=oV kvs k v;lia
  refine wpAny_setItem_pairs (hsz:=hz) (Aq ry) dd λh' Lc hs=>h _ ?_
  have he:∃q,h'.get? a=some q:=let⟨q,_,_,hq,_⟩:=Lc;⟨q,hq⟩
  exact uD I (by rw[e];exact True.intro) hs he (NI hl hd (rel.put k rv) Lc)
 ·subst ey eH
  cases(show u=Value.ref b from ry)
  obtain⟨z,hd,xs,rel,dd⟩:=K_ I.hok e
  have hz:xs.length<=sizeLine:=by rw[←Paired.length rel];exact z
  have hl:(putK kvs k v).length<=sizeLine:=by have:=oV kvs k v;lia
  refine wpAny_setItem_heap (hsz:=hz) (tupleKind_room_in1 hu) (qD I.hok eb) dd λh' Lc hs=>h _ ?_
  obtain⟨q,es,ep,hq,h2,h3,h4,_,h5⟩:=Lc
  refine uD I (by rw[e];exact True.intro) hs ⟨q,hq⟩ ⟨hl,hd,_,(rel.put k eb rv).keeps λc ys ec=>?_,q,es,ep,hq,h2,h3,h4,h5⟩
  rw[ai (aN ec e (λz=>nomatch z))]
  exact ec
end
section
variable {X:Cx} {pins:List (Addr×Obj)} {σ:St} {H:Hp} {s:Shared} {a:Addr} {kvs:List (Key×V)} {k:Key} {u:Value} {A:Around} {E:Value->Shared->Prop}
end
def Sg(i:Expr):Prop:=∀ov iv,subscripted i false ov iv=operate [ov,iv] (getItem ov iv)
theorem Hh{prog:Program}{w:World}{A:Around}{E:Value->Shared->Prop}{s:Shared}{env:Env}{value slice:Expr}{pos:Pos}{T id:String}{Q:Value->Shared->Prop}
  (hl:typeLookup (.type T) "__getitem__"=pure (some (.builtin id)))(hs:Sg slice)
  (h:wpAny (model prog w) A (eval value env) (λo s₁=>wpAny (model prog w) A (eval slice env) (λi s₂=>s₂.TypeIs o T/\wpAny (model prog w) A (getItem o i) Q E s₂) E s₁) E s):
  wpAny (model prog w) A (eval (.Subscript value slice pos) env) Q E s:=by
 refine Subscript_ (wpAny_mono h (λo s₁ h₁=>wpAny_mono h₁ (λi s₂ h₂=>?_) λ_ _ x=>x) λ_ _ x=>x)
 obtain⟨hT,h₂⟩:=h₂
 unfold subscriptTail
 refine wpAny_bind ?_
 rw[getitemInPython_of_ne hT.not_modules]
 refine wpAny_bind (wpAny_specialOf hT hl ?_)
 have fin:wpAny (model prog w) A (subscripted slice false o i) (λr s₃=>wpAny (model prog w) A (letTemporaryGo value o r >>= λ_=>pure r) Q E s₃) E s₂:=by
  rw[hs o i]
  exact wpAny_operating (wpAny_mono h₂ (λr s₃ h₃=>wpAny_bind (wpAny_letTemporaryGo (wpAny_pure h₃))) λ_ _ x=>x)
 first
  |exact wpAny_pure (wpAny_bind fin)
  |exact wpAny_bind (wpAny_pure (wpAny_bind fin))
  |exact wpAny_bind fin
theorem wL{X:Cx}{pins:List (Addr×Obj)}{σ:St}{H:Hp}{s:Shared}{a:Addr}{y:V}{o:Option V}(I:Inv X pins σ H s)(g:uP H a y o):s.TypeIs (.ref a) "dict":=by
 rcases g with⟨kvs,k,e,_,_⟩|⟨kvs,k,b,e,_,_,_⟩
 ·obtain⟨_,_,vs,_,dd⟩:=sZ I.hok e
  exact dd.typeIs
 ·obtain⟨_,_,xs,_,dd⟩:=sX I.hok e
  exact dd.typeIs
inductive Dc(Q:VK)(x:V)(y:V)(H2:Hp):Prop
 |mk(a:_)(v:_):(x=.ref a)->(uP H2 a y (some v))->(Q v H2)->Dc Q x y H2
def OS(td ty:TE):TE:=λσ H Q=>td σ H λx H1=>ty σ H1 λy H2=>Dc Q x y H2
inductive DO(D:Ends)(σ:St)(v:V)(x:V)(y:V)(H3:Hp):Prop
 |mk(a:_)(H4:_):(x=.ref a)->(Cs H3 a y v H4)->(D.nx σ H4)->DO D σ v x y H3
def Pa(td ty tv:TE):TS:=λD σ H=>tv σ H λv H1=>td σ H1 λx H2=>ty σ H2 λy H3=>DO D σ v x y H3
section
variable {X:Cx} {o i e value:Expr} {pos pos' tpos:Pos} {td ty tv:TE}
theorem HQ(hu:X.A.units+1<cLine)(ho:PE X o td)(hi:PE X i ty)(hs:Sg i):PE X (.Subscript o i pos) (OS td ty):=by
 intro pins s σ H Q I h
 refine Hh PySem.F.slot_dict_getitem.lookup hs (dm (ho pins s σ H _ I h) λu s1 ⟨x,H1,I1,rx,q1⟩=>dm (hi pins s1 σ H1 _ I1 q1) λiv s2 ⟨y,H2,I2,ry,a,v,ex,g,q2⟩=>?_)
 subst ex
 obtain rfl:u=Value.ref a:=rx
 exact⟨wL I2 g,B_ hu I2 g ry λw' s3 I3 rw'=>⟨v,H2,I3,rw',q2⟩⟩
theorem zX(hu:X.A.units+1<cLine)(ho:PE X o td)(hi:PE X i ty)(hv:PE X value tv)(hs:swapsWith value (some (.Subscript o i pos')) pos.line X.env=pure false):
  PS X (.Assign [.Subscript o i pos'] value pos) (Pa td ty tv):=by
 intro pins s σ H D I h
 refine wpAny_Assign_Subscript (dm (hv pins s σ H _ I h) λr s1 ⟨v,H1,I1,rv,q1⟩=>dm (ho pins s1 σ H1 _ I1 q1) λu s2 ⟨x,H2,I2,rx,q2⟩=>dm (hi pins s2 σ H2 _ I2 q2) λiv s3 ⟨y,H3,I3,ry,a,H4,ex,g,q3⟩=>?_) hs
 subst ex
 obtain rfl:u=Value.ref a:=rx
 exact BZ hu I3 g ry rv λs4 I4=>⟨σ,H4,I4,q3⟩
end
theorem FN{P:Program}{w:World}{H:Hp}(h:Heap)(hb:sysModules<h.objs.size):cA P w H (h.push {cls:=.type "dict",data:=.dict #[]}) h.objs.size (.dT []):=
 ⟨Nat.zero_le _,beq_eq_false_iff_ne.mpr (Ne.symm (Nat.ne_of_lt hb)),[],.nil,_,#[],0,Heap.get?_push_size _ rfl,⟨rfl,rfl,rfl⟩,rfl,rfl,List.nodup_nil⟩
def Ln:TE:=λ_ H Q=>∀p,H p=none->Q (.ref p) (upd H p (.dT []))
section
variable {X:Cx} {pos:Pos}
theorem vP:PE X (.Dict [] [] pos) Ln:=λpins s σ H Q I h=>
 wpAny_Dict_empty ⟨.ref s.heap.objs.size,_,I.laid (a:=s.heap.objs.size) (o:=.dT []) (t':=s.toks) (λ_ _ q=>Heap.get?_push_of_some _ q) (Nat.le_refl _) (FN s.heap I.big),rfl,h _ (I.hok.fresh (Nat.le_refl _))⟩
end
structure M1(X:Cx)(o:Expr)(m:Str)(apos:Pos)(e:Expr)(cpos:Pos):Prop where
 base:attributeBase o m X.env (eval o X.env)=eval o X.env
 few:((backTo cpos (starEach [e] X.env)).all (λx=> !x.1)&&(backToKw cpos (keywordEach [] X.env)).all (λx=>x.1.isSome)
  && decide (([e]:List Expr).length+([]:List Keyword).length+(if([]:List Keyword).isEmpty then 0 else 1)<30))=true
 line:(apos.endLine==cpos.line)=true
 trees:backTo cpos (starEach [e] X.env)=[(false,eval e X.env)]
structure M2(X:Cx)(o:Expr)(m:Str)(apos:Pos)(e f:Expr)(cpos:Pos):Prop where
 base:attributeBase o m X.env (eval o X.env)=eval o X.env
 few:((backTo cpos (starEach [e,f] X.env)).all (λx=> !x.1)&&(backToKw cpos (keywordEach [] X.env)).all (λx=>x.1.isSome)
  && decide (([e,f]:List Expr).length+([]:List Keyword).length+(if([]:List Keyword).isEmpty then 0 else 1)<30))=true
 line:(apos.endLine==cpos.line)=true
 trees:backTo cpos (starEach [e,f] X.env)=[(false,eval e X.env),(false,eval f X.env)]
def TU(H:Hp)(a:Addr):Prop:=(∃kvs,Rd H a (.dK kvs))\/∃kvs,Rd H a (.dT kvs)
theorem Fb{X:Cx}{pins:List (Addr×Obj)}{σ:St}{H:Hp}{s:Shared}{a:Addr}(I:Inv X pins σ H s)(d:TU H a):
  s.TypeIs (.ref a) "dict"/\(∀b,Value.ref a=.ref b->∃ob,s.heap.get? b=some ob/\ob.dict=none)/\(a==sysModules)=false:=by
 rcases d with⟨kvs,e⟩|⟨kvs,e⟩
 ·obtain⟨_,hd,vs,_,dd⟩:=sZ I.hok e
  refine⟨dd.typeIs,λb q=>?_,hd⟩
  cases q
  obtain⟨ob,_,_,h1,h2,_⟩:=dd
  exact⟨ob,h1,h2.2.1⟩
 ·obtain⟨_,hd,xs,_,dd⟩:=sX I.hok e
  refine⟨dd.typeIs,λb q=>?_,hd⟩
  cases q
  obtain⟨ob,_,_,h1,h2,_⟩:=dd
  exact⟨ob,h1,h2.2.1⟩
section
variable {X:Cx} {pins:List (Addr×Obj)} {σ:St} {H:Hp} {s:Shared} {a:Addr} {y d:V} {u r:Value} {o:Option V} {A:Around} {E:Value->Shared->Prop}
theorem NN{Q:Value->Shared->Prop}(hu:A.units+1<cLine)(I:Inv X pins σ H s)(g:uP H a y o)(ry:RelV y u)(rd:RelV d r)(h:∀w' s',Inv X pins σ H s'->RelV (o.getD d) w'->Q w' s'):
  wpAny (model X.prog X.w) A (call (.builtin "dict.get") [.ref a,u,r]) Q E s:=by
 rcases g with⟨kvs,k,e,ey,l⟩|⟨kvs,k,b,e,ey,eb,l⟩
 ·subst ey
  obtain⟨z,hd,vs,rel,dd⟩:=sZ I.hok e
  refine call_meetsIn PySem.F.slot_dict_get dd.typeIs PySem.F.entry_dict_get (PySem.F.args_dict_get_3 _ _ _) (meets_dict_get_default (bF X.prog X.w) a (Aq ry) hd r) ⟨_,dd.mapOf,h _ _ (I.tok _) ?_⟩
  rw[l]
  exact(rel.val k).getD rd
 ·subst ey
  cases(show u=Value.ref b from ry)
  obtain⟨z,hd,xs,rel,dd⟩:=sX I.hok e
  refine call_meetsIn PySem.F.slot_dict_get dd.typeIs PySem.F.entry_dict_get (PySem.F.args_dict_get_3 _ _ _) (meetsH_dict_get_default (tupleKind (bF X.prog X.w)) a b hd r) ⟨tupleKind_room_in1 hu,k,xs,qD I.hok eb,dd,h _ _ (I.tok _) ?_⟩
  rw[l]
  exact(rel.val k).getD rd
end
inductive zo(ty:TE)(tx:TE)(σ:St)(Q:VK)(x:V)(H1:Hp):Prop
 |mk(a:_):(x=.ref a)->(TU H1 a)->(ty σ H1 λy H2=>tx σ H2 λz H3=>∃o,uP H3 a y o/\Q (o.getD z) H3)->zo ty tx σ Q x H1
def Lp(td ty tx:TE):TE:=λσ H Q=>td σ H λx H1=>zo ty tx σ Q x H1
section
variable {X:Cx} {o e f:Expr} {apos cpos:Pos} {td ty tx:TE}
theorem Em(hu:X.A.units+1<cLine)(ho:PE X o td)(he:PE X e ty)(hf:PE X f tx)(m:M2 X o "get" apos e f cpos):PE X (.Call (.Attribute o "get" apos) [e,f] [] cpos) (Lp td ty tx):=by
 intro pins s σ H Q I h
 refine wpAny_Call_method m.base m.few m.line PySem.F.plainAttrs_dict PySem.F.slot_dict_get PySem.F.type_dict_get (dm (ho pins s σ H _ I h) λu s1 ⟨x,H1,I1,rx,a,ex,d,q1⟩=>?_)
 subst ex
 obtain rfl:u=Value.ref a:=rx
 obtain⟨t1,t2,_⟩:=Fb I1 d
 refine⟨t1,t2,?_⟩
 rw[m.trees]
 refine Calls.callWith_builtin rfl (Calls.evalArgs_plain (Calls.spliced_cons (dm (he pins s1 σ H1 _ I1 q1) λiv s2 ⟨y,H2,I2,ry,q2⟩=>
  Calls.spliced_cons (dm (hf pins s2 σ H2 _ I2 q2) λfv s3 ⟨z,H3,I3,rz,ov,g,q3⟩=>Calls.spliced_nil ?_))))
 exact NN hu I3 g ry rz λw' s4 I4 rw'=>⟨_,H3,I4,rw',q3⟩
end
section
variable {X:Cx} {pins:List (Addr×Obj)} {σ:St} {H:Hp} {s:Shared} {a:Addr} {kvs:List (Key×V)} {A:Around} {E:Value->Shared->Prop}
end
section
variable {X:Cx} {pins:List (Addr×Obj)} {σ:St} {H:Hp} {s:Shared} {a:Addr} {y:V} {u:Value} {A:Around} {E:Value->Shared->Prop}
end
section
variable {X:Cx}
end
section
variable {κ:Type} [DecidableEq κ]
end
end L2
namespace TS
open PySem PyProof.Rows
abbrev SM:=StateT SortSt Sem
def uA:Bool->Keyed->Array Keyed->Nat->Nat->Nat->SM (Option Nat):=sortPriv% PySem.Builtin.gallop
def Zn(left:Bool)(key:Keyed)(arr:Array Keyed)(base i:Nat):SM (Option Bool):=elem' arr (base+i) >>= λx=>if left=true then lt' x key else lt' key x >>= λr=>pure (r.map λb=> !b)
def bin(p:Nat->SM (Option Bool))(n lo hi:Nat):SM (Option Nat):=
 (forIn [:n] ((none,lo,hi):Option (Option Nat)×Nat×Nat) λ_ c=>
  if c.2.1≥c.2.2 then pure (.done (none,c.2.1,c.2.2))else p (c.2.1+(c.2.2-c.2.1)/2) >>= λx=>match x with
   |some z=>if z=true then pure (.yield (none,c.2.1+(c.2.2-c.2.1)/2+1,c.2.2))else pure (.yield (none,c.2.1,c.2.1+(c.2.2-c.2.1)/2))
   |_=>pure (.done (some none,c.2.1,c.2.2))) >>= λc=>match c.1 with
  |some r=>pure r
  |none=>pure (some c.2.2)
def ZH(p:Nat->SM (Option Bool))(n hint m:Nat):SM (Option (Option Nat)×Nat×Nat):=
 forIn [:n] ((none,0,1):Option (Option Nat)×Nat×Nat) λ_ c=>
  if c.2.2≥m then pure (.done (none,c.2.1,c.2.2))else p (hint+c.2.2) >>= λx=>match x with
   |some z=>if(!z)=true then pure (.done (none,c.2.1,c.2.2))else pure (.yield (none,c.2.2,2*c.2.2+1))
   |_=>pure (.done (some none,c.2.1,c.2.2))
def dnw(p:Nat->SM (Option Bool))(n hint m:Nat):SM (Option (Option Nat)×Nat×Nat):=
 forIn [:n] ((none,0,1):Option (Option Nat)×Nat×Nat) λ_ c=>
  if c.2.2≥m then pure (.done (none,c.2.1,c.2.2))else p (hint-c.2.2) >>= λx=>match x with
   |some z=>if z=true then pure (.done (none,c.2.1,c.2.2))else pure (.yield (none,c.2.2,2*c.2.2+1))
   |_=>pure (.done (some none,c.2.1,c.2.2))
def Wx(p:Nat->SM (Option Bool))(n hint:Nat):SM (Option Nat):=p hint >>= λx=>match x with
  |some z=>if z=true then ZH p n hint (n-hint) >>= λc=>(match c.1 with
       |some r=>pure r
       |none=>bin p n (hint+c.2.1+1) (hint+min c.2.2 (n-hint)))
      else dnw p n hint (hint+1) >>= λc=>(match c.1 with
        |some r=>pure r
        |none=>bin p n (hint+1-min c.2.2 (hint+1)) (hint-c.2.1))
  |_=>pure none
theorem bnd{α β:Type}(m:SM α){f g:α->SM β}(h:∀x,f x=g x):(m >>= f)=(m >>= g):=by rw[funext h]
theorem lop{β:Type}(n:Nat)(c:β){f g:Nat->β->SM (ForInStep β)}(h:∀i x,f i x=g i x):(forIn [:n] c f)=(forIn [:n] c g):=by rw[funext λi=>funext (h i)]
theorem Ji{α β:Type}{m m':SM α}{f g:α->SM β}(h0:m=m')(h:∀x,f x=g x):(m >>= f)=(m' >>= g):=by rw[h0,funext h]
theorem yC(left:Bool)(key:Keyed)(arr:Array Keyed)(base n hint:Nat):uA left key arr base n hint=Wx (Zn left key arr base) n hint:=by
 unfold uA Wx
 refine bnd _ λx=>?_
 cases x with
 |none=>rfl
 |some z=>
  cases z with
  |true=>
   refine Ji (lop _ _ λi c=>?_) λc=>?_
   ·obtain⟨r,l,o⟩:=c
    refine ite_congr rfl (λ_=>rfl) (λ_=>bnd _ λx=>?_)
    cases x<;>rfl
   ·obtain⟨r,l,o⟩:=c
    cases r with
    |some r=>rfl
    |none=>
     refine Ji (lop _ _ λi c=>?_) λc=>?_
     ·obtain⟨r,l,o⟩:=c
      refine ite_congr rfl (λ_=>rfl) (λ_=>bnd _ λx=>?_)
      cases x<;>rfl
     ·obtain⟨r,l,o⟩:=c
      cases r<;>rfl
  |false=>
   refine Ji (lop _ _ λi c=>?_) λc=>?_
   ·obtain⟨r,l,o⟩:=c
    refine ite_congr rfl (λ_=>rfl) (λ_=>bnd _ λx=>?_)
    cases x<;>rfl
   ·obtain⟨r,l,o⟩:=c
    cases r with
    |some r=>rfl
    |none=>
     refine Ji (lop _ _ λi c=>?_) λc=>?_
     ·obtain⟨r,l,o⟩:=c
      refine ite_congr rfl (λ_=>rfl) (λ_=>bnd _ λx=>?_)
      cases x<;>rfl
     ·obtain⟨r,l,o⟩:=c
      cases r<;>rfl
structure Ord(S:Keyed->Prop)(blt:Keyed->Keyed->Bool):Prop where
 Fd:∀x,S x->blt x x=false
 yS:∀x y,S x->S y->blt x y=true->blt y x=false
 tr:∀x y z,S x->S y->S z->blt y x=false->blt z y=false->blt z x=false
def AH(prog:Program)(w:World)(A:Around)(E:Value->Shared->Prop)(s:Shared)(κ:SortKind)(S:Keyed->Prop)(blt:Keyed->Keyed->Bool):Prop:=
 ∀(x y:Keyed)(st:SortSt)(Q:Option Bool->SortSt->Prop),S x->S y->kindOf st=κ->Q (some (blt x y)) st->wpS (model prog w) A E s (lt' x y) Q st
section
variable {prog:Program} {w:World} {A:Around} {E:Value->Shared->Prop} {s:Shared} {κ:SortKind} {S:Keyed->Prop} {blt:Keyed->Keyed->Bool}
theorem cR{arr:Array Keyed}{i:Nat}{p:Keyed}{Q:Keyed->SortSt->Prop}{st:SortSt}(h:arr[i]? = some p)(hq:Q p st):wpS (model prog w) A E s (elem' arr i) Q st:=by
 rw[elem'_eq,h]
 exact wpS_pure hq
theorem OI(C:AH prog w A E s κ S blt){left:Bool}{key x:Keyed}{arr:Array Keyed}{base i:Nat}{st:SortSt}{Q:Option Bool->SortSt->Prop}(hk:kindOf st=κ)(hx:arr[base+i]? = some x)(sx:S x)(sk:S key)
  (hq:Q (some (if left=true then blt x key else !blt key x)) st):wpS (model prog w) A E s (Zn left key arr base i) Q st:=by
 refine wpS_bind (cR hx ?_)
 cases left with
 |true=>exact C x key st _ sx sk hk hq
 |false=>exact wpS_bind (C key x st _ sk sx hk (wpS_pure hq))
def Zs(prog:Program)(w:World)(A:Around)(E:Value->Shared->Prop)(s:Shared)(p:Nat->SM (Option Bool))(P:Nat->Bool)(n:Nat)(st:SortSt):Prop:=
 ∀(i:Nat)(Q:Option Bool->SortSt->Prop),i<n->Q (some (P i)) st->wpS (model prog w) A E s (p i) Q st
theorem rR{p:Nat->SM (Option Bool)}{P:Nat->Bool}{n lo hi:Nat}{st:SortSt}{Q:Option Nat->SortSt->Prop}(T:Zs prog w A E s p P n st)(mono:∀i j,i<=j->j<n->P j=true->P i=true)(hlh:lo<=hi)(hhn:hi<=n)
  (h1:∀i,i<lo->P i=true)(h2:∀i,hi<=i->i<n->P i=false)(hq:∀k,k<=n->(∀i,i<k->P i=true)->(∀i,k<=i->i<n->P i=false)->Q (some k) st):wpS (model prog w) A E s (bin p n lo hi) Q st:=by
 refine wpS_bind (wpS_forRange (λi c st'=>st'=st/\c.1=none/\c.2.1<=c.2.2/\c.2.2<=n/\c.2.2-c.2.1+i<=n/\(∀i,i<c.2.1->P i=true)/\∀i,c.2.2<=i->i<n->P i=false) ?_ ?_ ⟨rfl,rfl,hlh,hhn,by simp only;lia,h1,h2⟩)
 ·rintro i ⟨r,l,h⟩ st' _ hi ⟨rfl,rfl,a1,a2,a3,a4,a5⟩
  simp only at a1 a2 a3 a4 a5 ⊢
  by_cases hc:l≥h
  ·rw[if_pos hc]
   refine wpS_pure ?_
   have e:l=h:=by lia
   subst e
   exact wpS_pure (hq l a2 a4 a5)
  ·rw[if_neg hc]
   have hm:l+(h-l)/2<n:=by lia
   refine wpS_bind (T _ _ hm ?_)
   cases z:P (l+(h-l)/2)with
   |true=>
    refine wpS_pure ⟨rfl,rfl,?_,a2,?_,λj hj=>?_,a5⟩
    ·simp only;lia
    ·simp only;lia
    ·simp only at hj
     exact mono j _ LI hm z
   |false=>
    refine wpS_pure ⟨rfl,rfl,?_,?_,?_,a4,λj hj hjn=>?_⟩
    ·simp only;lia
    ·simp only;lia
    ·simp only;lia
    ·simp only at hj
     cases y:P j with
     |false=>rfl
     |true=>
      have:=mono _ j hj hjn y
      rw[z]at this
      cases this
 ·rintro⟨r,l,h⟩ st' ⟨rfl,rfl,a1,a2,a3,a4,a5⟩
  simp only at a1 a2 a3 a4 a5 ⊢
  have e:l=h:=by lia
  subst e
  exact wpS_pure (hq l a2 a4 a5)
theorem OH{p:Nat->SM (Option Bool)}{P:Nat->Bool}{n hint:Nat}{st:SortSt}{Q:Option Nat->SortSt->Prop}(T:Zs prog w A E s p P n st)(mono:∀i j,i<=j->j<n->P j=true->P i=true)(hh:hint<n)
  (hq:∀k,k<=n->(∀i,i<k->P i=true)->(∀i,k<=i->i<n->P i=false)->Q (some k) st):wpS (model prog w) A E s (Wx p n hint) Q st:=by
 have dn:∀i j,i<=j->j<n->P i=false->P j=false:=λi j hij hj z=>by
  cases y:P j with
  |false=>rfl
  |true=>
   have:=mono i j hij hj y
   rw[z]at this
   cases this
 refine wpS_bind (T _ _ hh ?_)
 cases z:P hint with
 |true=>
  refine wpS_bind (wpS_forRange (λi c st'=>st'=st/\c.1=none/\i<c.2.2/\c.2.1<c.2.2/\hint+c.2.1<n/\P (hint+c.2.1)=true) ?_ ?_ ⟨rfl,rfl,by simp,by simp,by simpa using hh,by simpa using z⟩)
  ·rintro i ⟨r,l,o⟩ st' _ hi ⟨rfl,rfl,a1,a2,a3,a4⟩
   simp only at a1 a2 a3 a4 ⊢
   by_cases hc:o≥n-hint
   ·rw[if_pos hc]
    refine wpS_pure ?_
    refine rR T mono (by simp only;lia) (by simp only;lia) (λj hj=>mono j _ (by simp only at hj;lia) a3 a4) (λj hj hjn=>?_) hq
    simp only at hj
    lia
   ·rw[if_neg hc]
    refine wpS_bind (T _ _ LI ?_)
    cases y:P (hint+o)with
    |true=>exact wpS_pure ⟨rfl,rfl,by simp only;lia,by simp only;lia,by simp only;lia,y⟩
    |false=>
     refine wpS_pure ?_
     refine rR T mono (by simp only;lia) (by simp only;lia) (λj hj=>mono j _ (by simp only at hj;lia) a3 a4) (λj hj hjn=>dn _ j ?_ hjn y) hq
     simp only at hj
     lia
  ·rintro⟨r,l,o⟩ st' ⟨rfl,rfl,a1,a2,a3,a4⟩
   simp only at a1 a2 a3 a4 ⊢
   refine rR T mono LI LI (λj hj=>mono j _ LI a3 a4) (λj hj hjn=>?_) hq
   lia
 |false=>
  refine wpS_bind (wpS_forRange (λi c st'=>st'=st/\c.1=none/\i<c.2.2/\c.2.1<c.2.2/\c.2.1<=hint/\P (hint-c.2.1)=false) ?_ ?_ ⟨rfl,rfl,by simp,by simp,by simp,by simpa using z⟩)
  ·rintro i ⟨r,l,o⟩ st' _ hi ⟨rfl,rfl,a1,a2,a3,a4⟩
   simp only at a1 a2 a3 a4 ⊢
   by_cases hc:o≥hint+1
   ·rw[if_pos hc]
    refine wpS_pure ?_
    refine rR T mono (by simp only;lia) (by simp only;lia) (λj hj=>?_) (λj hj hjn=>dn _ j (by simp only at hj;lia) hjn a4) hq
    simp only at hj
    lia
   ·rw[if_neg hc]
    refine wpS_bind (T _ _ LI ?_)
    cases y:P (hint-o)with
    |false=>exact wpS_pure ⟨rfl,rfl,by simp only;lia,by simp only;lia,by simp only;lia,y⟩
    |true=>
     refine wpS_pure ?_
     refine rR T mono (by simp only;lia) (by simp only;lia) (λj hj=>mono j _ ?_ LI y) (λj hj hjn=>dn _ j (by simp only at hj;lia) hjn a4) hq
     simp only at hj
     lia
  ·rintro⟨r,l,o⟩ st' ⟨rfl,rfl,a1,a2,a3,a4⟩
   simp only at a1 a2 a3 a4 ⊢
   refine rR T mono LI LI (λj hj=>?_) (λj hj hjn=>dn _ j LI hjn a4) hq
   lia
theorem iF(O:Ord S blt)(C:AH prog w A E s κ S blt){left:Bool}{key:Keyed}{arr:Array Keyed}{base n hint:Nat}{X:Nat->Keyed}{st:SortSt}{Q:Option Nat->SortSt->Prop}(hk:kindOf st=κ)
  (hX:∀i,i<n->arr[base+i]? = some (X i))(hS:∀i,i<n->S (X i))(sk:S key)(JG:∀i j,i<=j->j<n->blt (X j) (X i)=false)(hh:hint<n)
  (hq:∀k,k<=n->(∀i,i<k->(if left=true then blt (X i) key else !blt key (X i))=true)->(∀i,k<=i->i<n->(if left=true then blt (X i) key else !blt key (X i))=false)->Q (some k) st):
  wpS (model prog w) A E s (uA left key arr base n hint) Q st:=by
 rw[yC]
 refine OH (P:=λi=>if left=true then blt (X i) key else !blt key (X i)) (λi Q' hi hQ'=>OI C hk (hX i hi) (hS i hi) sk hQ') (λi j hij hj z=>?_) hh hq
 have l1:=JG i j hij hj
 cases left with
 |true=>
  simp only[if_true]at z ⊢
  cases y:blt (X i) key with
  |true=>rfl
  |false=>
   have:=O.tr key (X i) (X j) sk (hS i LI) (hS j hj) y l1
   rw[z]at this
   cases this
 |false=>
  simp only[Bool.false_eq_true,if_false,Bool.not_eq_true']at z ⊢
  exact O.tr (X i) (X j) key (hS i LI) (hS j hj) sk l1 z
end
abbrev qZ(blt:Keyed->Keyed->Bool)(l:List Keyed):Prop:=l.Pairwise λx y=>blt y x=false
structure Lo(blt:Keyed->Keyed->Bool)(T o ra rb:List Keyed):Prop where
 perm:(o++(ra++rb)).Perm T
 so:qZ blt o
 sa:qZ blt ra
 sb:qZ blt rb
 low:∀x∈o,∀y∈ra++rb,blt y x=false
structure Good(blt:Keyed->Keyed->Bool)(T:List Keyed)(r:Array Keyed):Prop where
 perm:r.toList.Perm T
 JG:qZ blt r.toList
theorem Lo.lN{blt:Keyed->Keyed->Bool}{T o p ra rb:List Keyed}(h:Lo blt T o (p++ra) rb)(hx:∀x∈p,∀y∈rb,blt y x=false):Lo blt T (o++p) ra rb:=by
 obtain⟨h1,h2,h3,h4,h5⟩:=h
 have h3':=List.pairwise_append.mp h3
 refine⟨?_,?_,h3'.2.1,h4,λx hx' y hy=>?_⟩
 ·have e:o++p++(ra++rb)=o++(p++ra++rb):=by simp
  rw[e]
  exact h1
 ·exact List.pairwise_append.mpr ⟨h2,h3'.1,λx hx' y hy=>h5 x hx' y (by simp[hy])⟩
 ·rcases List.mem_append.mp hx' with z|z
  ·exact h5 x z y (by rcases List.mem_append.mp hy with q|q<;>simp[q])
  ·rcases List.mem_append.mp hy with q|q
   ·exact h3'.2.2 x z y q
   ·exact hx x z y q
theorem Lo.oG{blt:Keyed->Keyed->Bool}{T o p ra rb:List Keyed}(h:Lo blt T o ra (p++rb))(hx:∀x∈p,∀y∈ra,blt y x=false):Lo blt T (o++p) ra rb:=by
 obtain⟨h1,h2,h3,h4,h5⟩:=h
 have Nl:=List.pairwise_append.mp h4
 refine⟨?_,?_,h3,Nl.2.1,λx hx' y hy=>?_⟩
 ·refine List.Perm.trans ?_ h1
  rw[List.append_assoc]
  refine List.Perm.append_left o ?_
  rw[←List.append_assoc,←List.append_assoc]
  exact List.Perm.append_right rb List.perm_append_comm
 ·exact List.pairwise_append.mpr ⟨h2,Nl.1,λx hx' y hy=>h5 x hx' y (by simp[hy])⟩
 ·rcases List.mem_append.mp hx' with z|z
  ·exact h5 x z y (by rcases List.mem_append.mp hy with q|q<;>simp[q])
  ·rcases List.mem_append.mp hy with q|q
   ·exact hx x z y q
   ·exact Nl.2.2 x z y q
theorem Lo.end{blt:Keyed->Keyed->Bool}{T o:List Keyed}(h:Lo blt T o [] []):o.Perm T/\qZ blt o:=⟨by simpa using h.perm,h.so⟩
theorem Lo.IX{blt:Keyed->Keyed->Bool}{T o ra:List Keyed}(h:Lo blt T o ra []):(o++ra).Perm T/\qZ blt (o++ra):=by
 have h':Lo blt T o (ra++[]) []:=by rw[List.append_nil];exact h
 exact(h'.lN λ_ _ _ z=>by cases z).end
theorem Lo.IW{blt:Keyed->Keyed->Bool}{T o rb:List Keyed}(h:Lo blt T o [] rb):(o++rb).Perm T/\qZ blt (o++rb):=by
 have h':Lo blt T o [] (rb++[]):=by rw[List.append_nil];exact h
 exact(h'.oG λ_ _ _ z=>by cases z).end
theorem drop_cons{l:List Keyed}{i:Nat}{x:Keyed}(h:l[i]? = some x):l.drop i=x::l.drop (i+1):=by
 obtain⟨hi,e⟩:=List.getElem?_eq_some_iff.mp h
 rw[List.drop_eq_getElem_cons hi,e]
theorem qL(l:List Keyed)(i k:Nat):l.drop i=(l.drop i).take k++l.drop (i+k):=by
 rw[←List.drop_drop,List.take_append_drop]
theorem aE{a:Array Keyed}{i:Nat}{x:Keyed}(h:a[i]? = some x):a.toList[i]? = some x:=by simpa using h
theorem aB{a:Array Keyed}{i:Nat}(h:i<a.size):a[i]? = some a[i]:=by simp[h]
theorem ext_toList(a:Array Keyed)(i j:Nat):(a.extract i j).toList=(a.toList.drop i).take (j-i):=by simp
theorem qa(a:Array Keyed)(i:Nat):(a.extract i a.size).toList=a.toList.drop i:=by
 rw[ext_toList]
 exact List.take_of_length_le (by simp)
theorem kh{blt:Keyed->Keyed->Bool}{S:Keyed->Prop}(O:Ord S blt){l:List Keyed}(hs:qZ blt l)(hS:∀x∈l,S x){i j:Nat}{x y:Keyed}(hx:l[i]? = some x)(hy:l[j]? = some y)(hij:i<=j):blt y x=false:=by
 obtain⟨hi,rfl⟩:=List.getElem?_eq_some_iff.mp hx
 obtain⟨hj,rfl⟩:=List.getElem?_eq_some_iff.mp hy
 by_cases e:i=j
 ·subst e
  exact O.Fd _ (hS _ (List.getElem_mem hi))
 ·exact List.pairwise_iff_getElem.mp hs i j hi hj LI
theorem jl{blt:Keyed->Keyed->Bool}{S:Keyed->Prop}(O:Ord S blt){l:List Keyed}(hs:qZ blt l)(hS:∀x∈l,S x){i:Nat}{x y:Keyed}(hx:l[i]? = some x)(hy:y∈l.drop i):blt y x=false:=by
 obtain⟨k,hk,rfl⟩:=List.mem_iff_getElem.mp hy
 have hk':k<l.length-i:=by simpa using hk
 have e:l[i+k]? = some (l.drop i)[k]:=by
  rw[List.getElem_drop]
  exact List.getElem?_eq_getElem LI
 exact kh O hs hS hx e LI
abbrev setG(st:SortSt)(g:Nat):SortSt:=SortSt.mk' (kindOf st) (arrOf st) (pendingOf st) g (failedOf st)
theorem jE(st:SortSt):setG st (gallopOf st)=st:=rfl
def EC:Array Keyed->Array Keyed->SM (Array Keyed):=sortPriv% PySem.Builtin.mergeLo
section
variable {prog:Program} {w:World} {A:Around} {E:Value->Shared->Prop} {s:Shared} {κ:SortKind} {S:Keyed->Prop} {blt:Keyed->Keyed->Bool}
theorem mY{x:String}{Q:Unit->SortSt->Prop}{st:SortSt}(h:Q () st):wpS (model prog w) A E s (liftM (rule x):SM Unit) Q st:=wpS_lift (wpAny_rule ⟨rfl,h⟩)
theorem YZ{st st':SortSt}{c1:Prop}{R:Nat->Prop}{G:SortSt->Prop}(h:∃g,st'=setG st g/\c1/\∃rem,R rem)(k:∀g rem,R rem->G (setG st g)):G st':=let⟨g,e,_,rem,r⟩:=h;e▸k g rem r
theorem Y_{st st':SortSt}{c1 P:Prop}{G:SortSt->Prop}(h:∃g,st'=setG st g/\c1/\P)(k:∀g,P->G (setG st g)):G st':=let⟨g,e,_,r⟩:=h;e▸k g r
theorem TH{st st':SortSt}{P:Prop}{G:SortSt->Prop}(h:st'=st/\P)(k:P->G st):G st':=let⟨e,r⟩:=h;e▸k r
theorem zd{α β γ:Type}{m:SM γ}{R:γ->SortSt->Prop}{st:SortSt}(jp:α->β->SM γ)(P:α->β->SortSt->Prop)(h1:∀x y st,P x y st->wpS (model prog w) A E s (jp x y) R st)
  (h2:(∀x y st,P x y st->wpS (model prog w) A E s (jp x y) R st)->wpS (model prog w) A E s m R st):wpS (model prog w) A E s m R st:=h2 h1
theorem pW{α β δ γ:Type}{m:SM γ}{R:γ->SortSt->Prop}{st:SortSt}(jp:α->β->δ->SM γ)(P:α->β->δ->SortSt->Prop)(h1:∀x y z st,P x y z st->wpS (model prog w) A E s (jp x y z) R st)
  (h2:(∀x y z st,P x y z st->wpS (model prog w) A E s (jp x y z) R st)->wpS (model prog w) A E s m R st):wpS (model prog w) A E s m R st:=h2 h1
theorem w_ite{α:Type}{c:Prop}[Decidable c]{m n:SM α}{Q:α->SortSt->Prop}{st:SortSt}(h1:c->wpS (model prog w) A E s m Q st)(h2:¬c->wpS (model prog w) A E s n Q st):wpS (model prog w) A E s (if c then m else n) Q st:=by
 by_cases h:c
 ·rw[if_pos h]
  exact h1 h
 ·rw[if_neg h]
  exact h2 h
structure At(blt:Keyed->Keyed->Bool)(a b:Array Keyed)(rem:Nat)(out:Array Keyed)(ia ib:Nat):Prop where
 lo:Lo blt (a.toList++b.toList) out.toList (a.toList.drop ia) (b.toList.drop ib)
 ha:ia+1<a.size
 hb:ib<b.size
 hr:(a.size-ia)+(b.size-ib)<=rem
theorem AJ(O:Ord S blt)(C:AH prog w A E s κ S blt){a b:Array Keyed}{st:SortSt}{Q:Array Keyed->SortSt->Prop}(hk:kindOf st=κ)(Sa:∀x∈a.toList,S x)(Sb:∀x∈b.toList,S x)(sa:qZ blt a.toList)(sb:qZ blt b.toList)
  {a0 b0 al:Keyed}(ea:a[0]? = some a0)(eb:b[0]? = some b0)(el:a[a.size-1]? = some al)(h0:blt b0 a0=true)(hl:∀y∈b.toList,blt al y=false)
  (hQ:∀m g,Good blt (a.toList++b.toList) m->Q m (setG st g)):wpS (model prog w) A E s (EC a b) Q st:=by
 have na:0<a.size:=by
  rcases Nat.eq_zero_or_pos a.size with z|z
  ·rw[Array.getElem?_eq_none LI]at ea
   cases ea
  ·exact z
 have nb:0<b.size:=by
  rcases Nat.eq_zero_or_pos b.size with z|z
  ·rw[Array.getElem?_eq_none LI]at eb
   cases eb
  ·exact z
 have ZU:=Sa a0 (List.mem_of_getElem? (aE ea))
 have ZT:=Sb b0 (List.mem_of_getElem? (aE eb))
 have SA:∀{i x},a[i]? = some x->S x:=λh=>Sa _ (List.mem_of_getElem? (aE h))
 have SB:∀{i x},b[i]? = some x->S x:=λh=>Sb _ (List.mem_of_getElem? (aE h))
 have Lb:∀{i y},y∈a.toList.drop i->S y:=λh=>Sa _ (List.mem_of_mem_drop h)
 have La:∀{i y},y∈b.toList.drop i->S y:=λh=>Sb _ (List.mem_of_mem_drop h)
 have fin:∀(out:Array Keyed)(ia ib:Nat),Lo blt (a.toList++b.toList) out.toList (a.toList.drop ia) (b.toList.drop ib)->(ib=b.size\/ia=a.size)->Good blt (a.toList++b.toList) (out++a.extract ia a.size++b.extract ib b.size):=by
  intro out ia ib h hz
  have e:(out++a.extract ia a.size++b.extract ib b.size).toList=out.toList++a.toList.drop ia++b.toList.drop ib:=by
   rw[Array.toList_append,Array.toList_append,qa,qa]
  rcases hz with z|z
  ·have zb:b.toList.drop ib=[]:=List.drop_of_length_le (by simp[z])
   rw[zb]at h
   have:=h.IX
   exact⟨by rw[e,zb,List.append_nil];exact this.1,by rw[e,zb,List.append_nil];exact this.2⟩
  ·have za:a.toList.drop ia=[]:=List.drop_of_length_le (by simp[z])
   rw[za]at h
   have:=h.IW
   exact⟨by rw[e,za,List.append_nil];exact this.1,by rw[e,za,List.append_nil];exact this.2⟩
 have last:∀(out:Array Keyed)(ia ib:Nat),Lo blt (a.toList++b.toList) out.toList (a.toList.drop ia) (b.toList.drop ib)->ia+1=a.size->Good blt (a.toList++b.toList) (out++b.extract ib b.size++a.extract ia a.size):=by
  intro out ia ib h hz
  have e:(out++b.extract ib b.size++a.extract ia a.size).toList=out.toList++b.toList.drop ib++a.toList.drop ia:=by
   rw[Array.toList_append,Array.toList_append,qa,qa]
  have ed:a.toList.drop ia=[al]:=by
   have e1:a.toList[ia]? = some al:=aE (by rw[show ia=a.size-1 by lia];exact el)
   rw[drop_cons e1,List.drop_of_length_le (by simp;lia)]
  have h':Lo blt (a.toList++b.toList) out.toList (a.toList.drop ia) (b.toList.drop ib++[]):=by rw[List.append_nil];exact h
  have h2:=(h'.oG λx hx y hy=>by
   rw[ed]at hy
   rw[List.mem_singleton.mp hy]
   exact hl x (List.mem_of_mem_drop hx)).IX
  exact⟨by rw[e];exact h2.1,by rw[e];exact h2.2⟩
 have se:∀{out ia ib x y},Lo blt (a.toList++b.toList) (out:Array Keyed).toList (a.toList.drop ia) (b.toList.drop ib)->b[ib]? = some x->a[ia]? = some y->blt y x=false->Lo blt (a.toList++b.toList) (out.push x).toList (a.toList.drop ia) (b.toList.drop (ib+1)):=by
  intro out ia ib x y h hx hy hlt
  rw[drop_cons (aE hx)]at h
  rw[Array.toList_push]
  refine h.oG (p:=[x]) λz hz y' hy'=>?_
  rw[List.mem_singleton.mp hz]
  exact O.tr x y y' (SB hx) (SA hy) (Lb hy') hlt (jl O sa Sa (aE hy) hy')
 have vn:∀{out ia ib x y},Lo blt (a.toList++b.toList) (out:Array Keyed).toList (a.toList.drop ia) (b.toList.drop ib)->a[ia]? = some x->b[ib]? = some y->blt y x=false->Lo blt (a.toList++b.toList) (out.push x).toList (a.toList.drop (ia+1)) (b.toList.drop ib):=by
  intro out ia ib x y h hx hy hlt
  rw[drop_cons (aE hx)]at h
  rw[Array.toList_push]
  refine h.lN (p:=[x]) λz hz y' hy'=>?_
  rw[List.mem_singleton.mp hz]
  exact O.tr x y y' (SA hx) (SB hy) (La hy') hlt (jl O sb Sb (aE hy) hy')
 have start:Lo blt (a.toList++b.toList) (#[b0]:Array Keyed).toList (a.toList.drop 0) (b.toList.drop 1):=by
  have h:Lo blt (a.toList++b.toList) (#[]:Array Keyed).toList (a.toList.drop 0) (b.toList.drop 0):=⟨by simp,by simp,by simpa using sa,by simpa using sb,by simp⟩
  exact se h eb ea (O.yS b0 a0 ZT ZU h0)
 refine wpS_bind (mY ?_)
 refine wpS_bind (cR eb ?_)
 extract_lets -merge -underBinder o1
 refine w_ite (λc1=>?_) (λc1=>?_)
 ·exact wpS_pure (jE st▸hQ _ (gallopOf st) (fin _ 0 1 start (.inl (beq_iff_eq.mp c1))))
 refine w_ite (λc2=>?_) (λc2=>?_)
 ·exact wpS_pure (jE st▸hQ _ (gallopOf st) (last _ 0 1 start (beq_iff_eq.mp c2)))
 have n1:1<b.size:=by
  have:¬1=b.size:=λz=>c1 (beq_iff_eq.mpr z)
  lia
 have n2:0+1<a.size:=by
  have:¬0+1=a.size:=λz=>c2 (beq_iff_eq.mpr z)
  lia
 refine wpS_bind (wpS_get ?_)
 refine wpS_bind (wpS_forRange (λi c st'=>∃g,st'=setG st g/\c.1=none/\∃rem,rem+i<a.size+b.size/\At blt a b rem c.2.1 c.2.2.1 c.2.2.2.1) ?_ ?_ ⟨gallopOf st,rfl,rfl,a.size+b.size-1,by lia,start,n2,n1,by simp only;lia⟩)
 rotate_left
 ·rintro⟨r,out,ia,ib,mg⟩ st' ⟨g,rfl,rfl,rem,h1,h2⟩
  have h3:=h2.hr
  have h4:=h2.ha
  simp only at h3 h4
  exact absurd h1 LI
 clear_value o1
 intro i c st' _ hi hI
 refine YZ hI λg rem h=>?_
 clear hI
 extract_lets -merge -underBinder s0 o s1 ja s2 jb mg ac bc
 have h1:=h.1
 have h2:At blt a b rem o ja jb:=h.2
 clear h
 clear_value o ja jb mg ac bc
 clear s2 s1 s0
 refine wpS_bind (wpS_mono (Q:=λ(c:Option (Array Keyed)×Array Keyed×Nat×Nat×Nat×Nat) st'=>st'=setG st g/\((∃r,c.1=some r/\Good blt (a.toList++b.toList) r)\/(c.1=none/\At blt a b rem c.2.1 c.2.2.1 c.2.2.2.1)))
  (wpS_forRange (λ_ (c:Option (Array Keyed)×Array Keyed×Nat×Nat×Nat×Nat) st'=>st'=setG st g/\c.1=none/\At blt a b rem c.2.1 c.2.2.1 c.2.2.2.1) ?_ (λc st' h=>⟨h.1,.inr ⟨h.2.1,h.2.2⟩⟩) ⟨rfl,rfl,h2⟩) ?_)
 ·clear h2
  intro j c st' _ hj hI
  refine TH hI λh=>?_
  clear hI
  extract_lets -merge -underBinder s0 o s1 ja s2 jb s3 ca cb
  have h2:At blt a b rem o ja jb:=h.2
  clear h
  clear_value o ja jb ca cb
  clear s3 s2 s1 s0
  obtain⟨lo,ha,hb,hr⟩:=h2
  obtain⟨bk,ex⟩:∃x,b[jb]? = some x:=⟨_,aB hb⟩
  obtain⟨ak,ey⟩:∃x,a[ja]? = some x:=⟨_,aB (show ja<a.size by lia)⟩
  refine wpS_bind (cR ex (wpS_bind (cR ey (wpS_bind (C _ _ _ _ (SB ex) (SA ey) hk ?_)))))
  cases z:blt bk ak with
  |true=>
   dsimp only
   refine w_ite (λ_=>wpS_bind (cR ex ?_)) λz=>absurd rfl z
   have lo':=se lo ex ey (O.yS _ _ (SB ex) (SA ey) z)
   refine w_ite (λd1=>?_) (λd1=>?_)
   ·exact wpS_pure ⟨rfl,.inl ⟨_,rfl,fin _ _ _ lo' (.inl (beq_iff_eq.mp d1))⟩⟩
   have NO:¬jb+1=b.size:=λz=>d1 (beq_iff_eq.mpr z)
   have at':At blt a b rem (o.push bk) ja (jb+1):=⟨lo',ha,by lia,by lia⟩
   exact w_ite (λ_=>wpS_pure ⟨rfl,.inr ⟨rfl,at'⟩⟩) λ_=>wpS_pure ⟨rfl,rfl,at'⟩
  |false=>
   dsimp only
   refine w_ite (λz=>absurd z Bool.false_ne_true) λ_=>wpS_bind (cR ey ?_)
   have lo':=vn lo ey ex z
   refine w_ite (λd1=>?_) (λd1=>?_)
   ·exact wpS_pure ⟨rfl,.inl ⟨_,rfl,last _ _ _ lo' (beq_iff_eq.mp d1)⟩⟩
   have NO:¬ja+1+1=a.size:=λz=>d1 (beq_iff_eq.mpr z)
   have at':At blt a b rem (o.push ak) (ja+1) jb:=⟨lo',by lia,hb,by lia⟩
   exact w_ite (λ_=>wpS_pure ⟨rfl,.inr ⟨rfl,at'⟩⟩) λ_=>wpS_pure ⟨rfl,rfl,at'⟩
 clear h2
 intro c st' hI
 refine TH hI λh=>?_
 clear hI
 dsimp(zeta:=false) only
 extract_lets -merge -underBinder r' s1 o s2 ja s3 jb s4 ca cb
 have h':(∃r,r'=some r/\Good blt (a.toList++b.toList) r)\/(r'=none/\At blt a b rem o ja jb):=h
 clear h
 clear_value r' o ja jb ca cb
 clear s4 s3 s2 s1
 cases r' with
 |some r=>
  refine wpS_pure (wpS_pure (hQ _ g ?_))
  rcases h' with⟨r1,e,gd⟩|⟨e,_⟩
  ·rw[Option.some.inj e];exact gd
  ·cases e
 |none=>
 have h:At blt a b rem o ja jb:=by
  rcases h' with⟨r1,e,_⟩|h
  ·cases e
  ·exact h.2
 clear h'
 refine wpS_bind (mY ?_)
 extract_lets -merge -underBinder Vi
 clear_value Vi
 refine wpS_bind (wpS_mono (Q:=λ(c:Option (Array Keyed)×Array Keyed×Nat×Nat×Nat×Nat×Nat) st'=>∃g',st'=setG st g'/\((∃r,c.1=some r/\Good blt (a.toList++b.toList) r)\/(c.1=none/\At blt a b (rem-1) c.2.1 c.2.2.1 c.2.2.2.1)))
  (wpS_forRange (λj (c:Option (Array Keyed)×Array Keyed×Nat×Nat×Nat×Nat×Nat) st'=>∃g',st'=setG st g'/\c.1=none/\At blt a b (if j=0 then rem else rem-1) c.2.1 c.2.2.1 c.2.2.2.1) ?_ (λc st' ⟨g',h1,h2,h3⟩=>⟨g',h1,.inr ⟨h2,by rw[if_neg LI]at h3;exact h3⟩⟩) ⟨g,rfl,rfl,by simpa using h⟩) ?_)
 ·clear h
  intro j c st' _ hj hI
  refine Y_ hI λg' h=>?_
  clear hI
  extract_lets -merge -underBinder s0 o s1 ja s2 jb s3 Vj s4 WY WU Io Vh
  have h2:At blt a b (if j=0 then rem else rem-1) o ja jb:=h
  clear h
  clear_value o ja jb Vj WY WU Vh
  clear s4 s3 s2 s1 s0
  have lo:=h2.lo
  have ha:=h2.ha
  have hb:=h2.hb
  have hr':(a.size-ja)+(b.size-jb)<=rem:=by
   have hr:=h2.hr
   split at hr<;>lia
  clear h2
  have ex:=aB hb
  generalize b[jb]=bk at ex
  have ja0:ja<a.size:=by lia
  refine zd Io (λ_ _ st'=>∃g,st'=setG st g) ?_ λJ=>?_
  rotate_left
  ·clear_value Io
   exact w_ite (λ_=>J _ _ _ ⟨_,rfl⟩) λ_=>J _ _ _ ⟨_,rfl⟩
  rintro _ mg3 st' ⟨g3,rfl⟩
  unfold Io
  clear Io
  refine wpS_bind (wpS_modify ?_)
  refine wpS_bind (cR (p:=bk) ex (wpS_bind (iF (left:=false) (X:=λi=>(a[ja+i]?).getD b0) O C hk (λi hi=>?_) (λi hi=>?_) (SB ex) (λi l hil hl'=>?_) LI λk hk1 p1 p2=>?_)))
  ·rw[aB (show ja+i<a.size by lia)];rfl
  ·rw[aB (show ja+i<a.size by lia)];exact SA (aB (show ja+i<a.size by lia))
  ·rw[aB (show ja+i<a.size by lia),aB (show ja+l<a.size by lia)]
   exact kh O sa Sa (aE (aB (show ja+i<a.size by lia))) (aE (aB (show ja+l<a.size by lia))) LI
  have wg:∀y,a[ja+k]? = some y->blt bk y=true:=λy e=>by
   have hq:ja+k<a.size:=(Array.getElem?_eq_some_iff.mp e).1
   have:=p2 k (Nat.le_refl _) LI
   rw[e]at this
   simpa using this
  dsimp(zeta:=false) only
  extract_lets -merge -underBinder WX Im kD xx
  obtain⟨eo,en⟩:kD=o++a.extract ja (ja+k)/\xx=ja+k:=⟨rfl,rfl⟩
  clear_value WX kD xx
  refine pW Im (λ_ kD i2 st'=>(∃g,st'=setG st g)/\ja<=i2/\i2+1<a.size/\Lo blt (a.toList++b.toList) kD.toList (a.toList.drop i2) (b.toList.drop jb)/\∀y,a[i2]? = some y->blt bk y=true) ?_ λJ=>?_
  rotate_left
  ·clear_value Im
   refine w_ite (λk0=>?_) (λk0=>?_)
   ·have lo2:Lo blt (a.toList++b.toList) kD.toList (a.toList.drop xx) (b.toList.drop jb):=by
     rw[eo,en,Array.toList_append,ext_toList]
     rw[qL a.toList ja k]at lo
     rw[show ja+k-ja=k by lia]
     refine lo.lN λx hx y hy=>?_
     obtain⟨q,hq,rfl⟩:=List.mem_iff_getElem.mp hx
     have hq2:q<k:=by simp only[List.length_take]at hq;lia
     have e1:=p1 q hq2
     rw[aB (show ja+q<a.size by lia)]at e1
     simp only[Bool.false_eq_true,if_false,Option.getD_some,Bool.not_eq_true']at e1
     have e2:((a.toList.drop ja).take k)[q]=a[ja+q]' LI:=by simp
     rw[e2]
     have sx:=SA (aB (show ja+q<a.size by lia))
     exact O.tr _ _ _ sx (SB ex) (La hy) e1 (jl O sb Sb (aE ex) hy)
    refine w_ite (λd1=>?_) (λd1=>?_)
    ·exact wpS_pure ⟨_,rfl,.inl ⟨_,rfl,last _ _ _ lo2 (beq_iff_eq.mp d1)⟩⟩
    have NO:¬xx+1=a.size:=λz=>d1 (beq_iff_eq.mpr z)
    refine w_ite (λd2=>?_) (λd2=>?_)
    ·exact wpS_pure ⟨_,rfl,.inl ⟨_,rfl,fin _ _ _ lo2 (.inr (beq_iff_eq.mp d2))⟩⟩
    have d2':¬xx=a.size:=λz=>d2 (beq_iff_eq.mpr z)
    exact J _ _ _ _ ⟨⟨_,rfl⟩,by lia,by lia,lo2,λy e=>wg y (by rw[←en];exact e)⟩
   ·exact J _ _ _ _ ⟨⟨_,rfl⟩,Nat.le_refl _,ha,lo,λy e=>wg y (by rw[show ja+k=ja by lia];exact e)⟩
  clear eo en p1 p2 wg lo
  rintro _ kD i2 st' ⟨⟨g4,rfl⟩,i2j,i2a,lo2,wg⟩
  unfold Im
  clear Im
  obtain⟨ak,sW⟩:∃x,a[i2]? = some x:=⟨_,aB (show i2<a.size by lia)⟩
  refine wpS_bind (cR (p:=bk) ex ?_)
  extract_lets -merge -underBinder um Yt
  obtain⟨WE,eb3⟩:kD.push bk=um/\Yt=jb+1:=⟨rfl,rfl⟩
  clear_value um Yt
  subst eb3
  have Qg:Lo blt (a.toList++b.toList) um.toList (a.toList.drop i2) (b.toList.drop (jb+1)):=WE▸se lo2 ex sW (O.yS _ _ (SB ex) (SA sW) (wg _ sW))
  refine w_ite (λd3=>?_) (λd3=>?_)
  ·exact wpS_pure ⟨_,rfl,.inl ⟨_,rfl,fin _ _ _ Qg (.inl (beq_iff_eq.mp d3))⟩⟩
  have WO:¬jb+1=b.size:=λz=>d3 (beq_iff_eq.mpr z)
  refine wpS_bind (cR (p:=ak) sW (wpS_bind (iF (left:=true) (X:=λi=>(b[jb+1+i]?).getD b0) O C hk (λi hi=>?_) (λi hi=>?_) (SA sW) (λi l hil hl'=>?_) LI λk2 hk2 p1 p2=>?_)))
  ·rw[aB (show jb+1+i<b.size by lia)];rfl
  ·rw[aB (show jb+1+i<b.size by lia)];exact SB (aB (show jb+1+i<b.size by lia))
  ·rw[aB (show jb+1+i<b.size by lia),aB (show jb+1+l<b.size by lia)]
   exact kh O sb Sb (aE (aB (show jb+1+i<b.size by lia))) (aE (aB (show jb+1+l<b.size by lia))) LI
  have Mp:∀y,b[jb+1+k2]? = some y->blt y ak=false:=λy e=>by
   have hq:jb+1+k2<b.size:=(Array.getElem?_eq_some_iff.mp e).1
   have:=p2 k2 (Nat.le_refl _) LI
   rw[e]at this
   simpa using this
  dsimp(zeta:=false) only
  extract_lets -merge -underBinder WT Il kC S_
  obtain⟨eo,en⟩:kC=um++b.extract (jb+1) (jb+1+k2)/\S_=jb+1+k2:=⟨rfl,rfl⟩
  clear_value WT kC S_
  refine pW Il (λ_ kC i4 st'=>(∃g,st'=setG st g)/\jb+1<=i4/\i4<b.size/\Lo blt (a.toList++b.toList) kC.toList (a.toList.drop i2) (b.toList.drop i4)/\∀y,b[i4]? = some y->blt y ak=false) ?_ λJ=>?_
  rotate_left
  ·clear_value Il
   refine w_ite (λVA=>?_) (λVA=>?_)
   ·have SR:Lo blt (a.toList++b.toList) kC.toList (a.toList.drop i2) (b.toList.drop S_):=by
     rw[eo,en,Array.toList_append,ext_toList]
     rw[qL b.toList (jb+1) k2]at Qg
     rw[show jb+1+k2-(jb+1)=k2 by lia]
     refine Qg.oG λx hx y hy=>?_
     obtain⟨q,hq,rfl⟩:=List.mem_iff_getElem.mp hx
     have hq2:q<k2:=by simp only[List.length_take]at hq;lia
     have e1:=p1 q hq2
     rw[aB (show jb+1+q<b.size by lia)]at e1
     simp only[if_true,Option.getD_some]at e1
     have e2:((b.toList.drop (jb+1)).take k2)[q]=b[jb+1+q]' LI:=by simp
     rw[e2]
     have sx:=SB (aB (show jb+1+q<b.size by lia))
     exact O.tr _ _ _ sx (SA sW) (Lb hy) (O.yS _ _ sx (SA sW) e1) (jl O sa Sa (aE sW) hy)
    refine w_ite (λd4=>?_) (λd4=>?_)
    ·exact wpS_pure ⟨_,rfl,.inl ⟨_,rfl,fin _ _ _ SR (.inl (beq_iff_eq.mp d4))⟩⟩
    have WN:¬S_=b.size:=λz=>d4 (beq_iff_eq.mpr z)
    exact J _ _ _ _ ⟨⟨_,rfl⟩,by lia,by lia,SR,λy e=>Mp y (by rw[←en];exact e)⟩
   ·exact J _ _ _ _ ⟨⟨_,rfl⟩,Nat.le_refl _,by lia,Qg,λy e=>Mp y (by rw[show jb+1+k2=jb+1 by lia];exact e)⟩
  clear eo en p1 p2 Mp Qg lo2
  rintro _ kC i4 st' ⟨⟨g5,rfl⟩,i4j,VE,SR,Mp⟩
  unfold Il
  clear Il
  refine wpS_bind (cR (p:=ak) sW ?_)
  extract_lets -merge -underBinder uh Yu
  obtain⟨WD,WJ⟩:kC.push ak=uh/\Yu=i2+1:=⟨rfl,rfl⟩
  clear_value uh Yu
  subst WJ
  have Yd:Lo blt (a.toList++b.toList) uh.toList (a.toList.drop (i2+1)) (b.toList.drop i4):=WD▸vn SR sW (aB VE) (Mp _ (aB VE))
  refine w_ite (λd5=>?_) (λd5=>?_)
  ·exact wpS_pure ⟨_,rfl,.inl ⟨_,rfl,last _ _ _ Yd (beq_iff_eq.mp d5)⟩⟩
  have d5':¬i2+1+1=a.size:=λz=>d5 (beq_iff_eq.mpr z)
  have Sd:At blt a b (rem-1) uh (i2+1) i4:=⟨Yd,by lia,VE,by lia⟩
  refine w_ite (λ_=>?_) (λ_=>?_)
  ·exact wpS_pure ⟨_,rfl,.inr ⟨rfl,Sd⟩⟩
  ·exact wpS_pure ⟨_,rfl,rfl,by rw[if_neg LI];exact Sd⟩
 clear h
 rintro⟨r,o,ja,jb,mg',ca,cb⟩ st' ⟨g',rfl,h⟩
 rcases h with⟨r',e,gd⟩|⟨e,h⟩
 ·simp only at e
  subst e
  refine wpS_pure ?_
  exact wpS_pure (hQ _ g' gd)
 simp only at e h
 subst e
 dsimp only
 refine wpS_bind (wpS_modify ?_)
 refine wpS_pure ?_
 refine⟨_,rfl,rfl,rem-1,?_,h⟩
 have:=h.hr
 have:=h.ha
 lia
end
structure Hg(blt:Keyed->Keyed->Bool)(T ra rb o:List Keyed):Prop where
 perm:((ra++rb)++o).Perm T
 so:qZ blt o
 sa:qZ blt ra
 sb:qZ blt rb
 hgh:∀x∈ra++rb,∀y∈o,blt y x=false
theorem Hg.oG{blt:Keyed->Keyed->Bool}{T o p ra rb:List Keyed}(h:Hg blt T ra (rb++p) o)(hx:∀x∈p,∀y∈ra,blt x y=false):Hg blt T ra rb (p++o):=by
 obtain⟨h1,h2,h3,h4,h5⟩:=h
 have Nl:=List.pairwise_append.mp h4
 refine⟨?_,?_,h3,Nl.1,λx hx' y hy=>?_⟩
 ·have e:ra++rb++(p++o)=ra++(rb++p)++o:=by simp
  rw[e]
  exact h1
 ·exact List.pairwise_append.mpr ⟨Nl.2.1,h2,λx hx' y hy=>h5 x (by simp[hx']) y hy⟩
 ·rcases List.mem_append.mp hy with z|z
  ·rcases List.mem_append.mp hx' with q|q
   ·exact hx y z x q
   ·exact Nl.2.2 x q y z
  ·exact h5 x (by rcases List.mem_append.mp hx' with q|q<;>simp[q]) y z
theorem Hg.lN{blt:Keyed->Keyed->Bool}{T o p ra rb:List Keyed}(h:Hg blt T (ra++p) rb o)(hx:∀x∈p,∀y∈rb,blt x y=false):Hg blt T ra rb (p++o):=by
 obtain⟨h1,h2,h3,h4,h5⟩:=h
 have h3':=List.pairwise_append.mp h3
 refine⟨?_,?_,h3'.1,h4,λx hx' y hy=>?_⟩
 ·refine List.Perm.trans ?_ h1
  rw[←List.append_assoc]
  refine List.Perm.append_right o ?_
  rw[List.append_assoc,List.append_assoc]
  exact List.Perm.append_left ra List.perm_append_comm
 ·exact List.pairwise_append.mpr ⟨h3'.2.1,h2,λx hx' y hy=>h5 x (by simp[hx']) y hy⟩
 ·rcases List.mem_append.mp hy with z|z
  ·rcases List.mem_append.mp hx' with q|q
   ·exact h3'.2.2 x q y z
   ·exact hx y z x q
  ·exact h5 x (by rcases List.mem_append.mp hx' with q|q<;>simp[q]) y z
theorem Hg.end{blt:Keyed->Keyed->Bool}{T o:List Keyed}(h:Hg blt T [] [] o):o.Perm T/\qZ blt o:=⟨by simpa using h.perm,h.so⟩
theorem Hg.IX{blt:Keyed->Keyed->Bool}{T o ra:List Keyed}(h:Hg blt T ra [] o):(ra++o).Perm T/\qZ blt (ra++o):=by
 have h':Hg blt T ([]++ra) [] o:=h
 exact(h'.lN λ_ _ _ z=>by cases z).end
theorem Hg.IW{blt:Keyed->Keyed->Bool}{T o rb:List Keyed}(h:Hg blt T [] rb o):(rb++o).Perm T/\qZ blt (rb++o):=by
 have h':Hg blt T [] ([]++rb) o:=h
 exact(h'.oG λ_ _ _ z=>by cases z).end
theorem take_snoc{l:List Keyed}{i:Nat}{x:Keyed}(h:l[i]? = some x):l.take (i+1)=l.take i++[x]:=by
 obtain⟨hi,e⟩:=List.getElem?_eq_some_iff.mp h
 rw[List.take_succ,h]
 rfl
theorem iT(l:List Keyed){i n:Nat}(h:i<=n):l.take n=l.take i++(l.drop i).take (n-i):=by
 rw[←List.take_append_drop i (l.take n),List.take_take,Nat.min_eq_left h,List.drop_take]
theorem jJ(a:Array Keyed)(n:Nat):(a.extract 0 n).toList=a.toList.take n:=by simp
theorem lO{blt:Keyed->Keyed->Bool}{S:Keyed->Prop}(O:Ord S blt){l:List Keyed}(hs:qZ blt l)(hS:∀x∈l,S x){i:Nat}{x y:Keyed}(hx:l[i]? = some x)(hy:y∈l.take (i+1)):blt x y=false:=by
 obtain⟨k,hk,rfl⟩:=List.mem_iff_getElem.mp hy
 have hk':k<i+1/\k<l.length:=by simpa [List.length_take,Nat.lt_min]using hk
 have e:l[k]? = some (l.take (i+1))[k]:=by
  rw[List.getElem_take]
  exact List.getElem?_eq_getElem hk'.2
 exact kh O hs hS e hx LI
def ED:Array Keyed->Array Keyed->SM (Array Keyed):=sortPriv% PySem.Builtin.mergeHi
section
variable {prog:Program} {w:World} {A:Around} {E:Value->Shared->Prop} {s:Shared} {κ:SortKind} {S:Keyed->Prop} {blt:Keyed->Keyed->Bool}
structure Ah(blt:Keyed->Keyed->Bool)(a b:Array Keyed)(rem na nb:Nat)(out:Array Keyed):Prop where
 hg:Hg blt (a.toList++b.toList) (a.toList.take na) (b.toList.take nb) out.toList.reverse
 a1:1<=na
 a2:na<=a.size
 b1:2<=nb
 b2:nb<=b.size
 hr:na+nb<=rem
theorem AK(O:Ord S blt)(C:AH prog w A E s κ S blt){a b:Array Keyed}{st:SortSt}{Q:Array Keyed->SortSt->Prop}(hk:kindOf st=κ)(Sa:∀x∈a.toList,S x)(Sb:∀x∈b.toList,S x)(sa:qZ blt a.toList)(sb:qZ blt b.toList)
  {a0 b0 al:Keyed}(ea:a[0]? = some a0)(eb:b[0]? = some b0)(el:a[a.size-1]? = some al)(h0:blt b0 a0=true)(hl:∀y∈b.toList,blt al y=false)
  (hQ:∀m g,Good blt (a.toList++b.toList) m->Q m (setG st g)):wpS (model prog w) A E s (ED a b) Q st:=by
 have na:0<a.size:=by
  rcases Nat.eq_zero_or_pos a.size with z|z
  ·rw[Array.getElem?_eq_none LI]at ea
   cases ea
  ·exact z
 have nb:0<b.size:=by
  rcases Nat.eq_zero_or_pos b.size with z|z
  ·rw[Array.getElem?_eq_none LI]at eb
   cases eb
  ·exact z
 have SA:∀{i x},a[i]? = some x->S x:=λh=>Sa _ (List.mem_of_getElem? (aE h))
 have SB:∀{i x},b[i]? = some x->S x:=λh=>Sb _ (List.mem_of_getElem? (aE h))
 have Ul:∀{i y},y∈a.toList.take i->S y:=λh=>Sa _ (List.mem_of_mem_take h)
 have tkB:∀{i y},y∈b.toList.take i->S y:=λh=>Sb _ (List.mem_of_mem_take h)
 have fin:∀(out:Array Keyed)(i j:Nat),Hg blt (a.toList++b.toList) (a.toList.take i) (b.toList.take j) out.toList.reverse->(j=0\/i=0)->Good blt (a.toList++b.toList) (a.extract 0 i++b.extract 0 j++out.reverse):=by
  intro out i j h hz
  have e:(a.extract 0 i++b.extract 0 j++out.reverse).toList=a.toList.take i++b.toList.take j++out.toList.reverse:=by
   rw[Array.toList_append,Array.toList_append,jJ,jJ,Array.toList_reverse]
  rcases hz with z|z
  ·subst z
   rw[List.take_zero]at h e
   have:=h.IX
   exact⟨by rw[e,List.append_nil];exact this.1,by rw[e,List.append_nil];exact this.2⟩
  ·subst z
   rw[List.take_zero]at h e
   have:=h.IW
   exact⟨by rw[e,List.nil_append];exact this.1,by rw[e,List.nil_append];exact this.2⟩
 have IJ:∀(out:Array Keyed)(i:Nat),Hg blt (a.toList++b.toList) (a.toList.take i) (b.toList.take 1) out.toList.reverse->Good blt (a.toList++b.toList) (b.extract 0 1++a.extract 0 i++out.reverse):=by
  intro out i h
  have e:(b.extract 0 1++a.extract 0 i++out.reverse).toList=b.toList.take 1++(a.toList.take i++out.toList.reverse):=by
   rw[Array.toList_append,Array.toList_append,jJ,jJ,Array.toList_reverse,List.append_assoc]
  have eb1:b.toList.take 1=[b0]:=by
   have:=take_snoc (aE eb)
   simpa using this
  have h':Hg blt (a.toList++b.toList) ([]++a.toList.take i) (b.toList.take 1) out.toList.reverse:=h
  have h2:=(h'.lN λx hx y hy=>by
   rw[eb1]at hy
   rw[List.mem_singleton.mp hy]
   have sx:=Ul hx
   have lx:blt x a0=false:=jl O sa Sa (aE ea) (by rw[List.drop_zero];exact List.mem_of_mem_take hx)
   exact O.tr _ _ _ (SB eb) (SA ea) sx (O.yS _ _ (SB eb) (SA ea) h0) lx).IW
  exact⟨by rw[e];exact h2.1,by rw[e];exact h2.2⟩
 have vn:∀{out i j x y},Hg blt (a.toList++b.toList) (a.toList.take (i+1)) (b.toList.take (j+1)) (out:Array Keyed).toList.reverse->a[i]? = some x->b[j]? = some y->blt x y=false->Hg blt (a.toList++b.toList) (a.toList.take i) (b.toList.take (j+1)) (out.push x).toList.reverse:=by
  intro out i j x y h hx hy hlt
  rw[take_snoc (aE hx)]at h
  rw[Array.toList_push,List.reverse_append]
  refine h.lN (p:=[x]) λz hz y' hy'=>?_
  rw[List.mem_singleton.mp hz]
  exact O.tr y' y x (tkB hy') (SB hy) (SA hx) (lO O sb Sb (aE hy) hy') hlt
 have se:∀{out i j x y},Hg blt (a.toList++b.toList) (a.toList.take (i+1)) (b.toList.take (j+1)) (out:Array Keyed).toList.reverse->b[j]? = some x->a[i]? = some y->blt x y=false->Hg blt (a.toList++b.toList) (a.toList.take (i+1)) (b.toList.take j) (out.push x).toList.reverse:=by
  intro out i j x y h hx hy hlt
  rw[take_snoc (aE hx)]at h
  rw[Array.toList_push,List.reverse_append]
  refine h.oG (p:=[x]) λz hz y' hy'=>?_
  rw[List.mem_singleton.mp hz]
  exact O.tr y' y x (Ul hy') (SA hy) (SB hx) (lO O sa Sa (aE hy) hy') hlt
 have start:Hg blt (a.toList++b.toList) (a.toList.take (a.size-1)) (b.toList.take b.size) (#[al]:Array Keyed).toList.reverse:=by
  have h:Hg blt (a.toList++b.toList) (a.toList.take (a.size-1+1)) (b.toList.take b.size) (#[]:Array Keyed).toList.reverse:=by
   rw[List.take_of_length_le (by simp;lia),List.take_of_length_le (by simp)]
   exact⟨by simp,by simp,sa,sb,by simp⟩
  rw[take_snoc (aE el)]at h
  refine h.lN (p:=[al]) λz hz y' hy'=>?_
  rw[List.mem_singleton.mp hz]
  exact hl y' (List.mem_of_mem_take hy')
 refine wpS_bind (mY ?_)
 refine wpS_bind (cR el ?_)
 extract_lets -merge -underBinder o1
 refine w_ite (λc1=>?_) (λc1=>?_)
 ·exact wpS_pure (jE st▸hQ _ (gallopOf st) (fin _ _ _ start (.inr (beq_iff_eq.mp c1))))
 refine w_ite (λc2=>?_) (λc2=>?_)
 ·have WS:b.size=1:=beq_iff_eq.mp c2
  refine wpS_pure (jE st▸hQ _ (gallopOf st) ?_)
  rw[WS]
  exact IJ _ _ (by rw[WS]at start;exact start)
 have n1:¬a.size-1=0:=λz=>c1 (beq_iff_eq.mpr z)
 have n2:¬b.size=1:=λz=>c2 (beq_iff_eq.mpr z)
 refine wpS_bind (wpS_get ?_)
 refine wpS_bind (wpS_forRange (λi c st'=>∃g,st'=setG st g/\c.1=none/\∃rem,rem+i<a.size+b.size/\Ah blt a b rem c.2.1 c.2.2.1 c.2.2.2.1) ?_ ?_ ⟨gallopOf st,rfl,rfl,a.size+b.size-1,by lia,start,by simp only;lia,by simp only;lia,by simp only;lia,by simp only;lia,by simp only;lia⟩)
 rotate_left
 ·rintro⟨r,ja,jb,o,mg⟩ st' ⟨g,rfl,rfl,rem,h1,h2⟩
  have h3:=h2.hr
  have h4:=h2.a1
  simp only at h3 h4
  exact absurd h1 LI
 clear_value o1
 intro i c st' _ hi hI
 refine YZ hI λg rem h=>?_
 clear hI
 extract_lets -merge -underBinder s0 ja s1 jb s2 o mg ac bc
 have h1:=h.1
 have h2:Ah blt a b rem ja jb o:=h.2
 clear h
 clear_value o ja jb mg ac bc
 clear s2 s1 s0
 refine wpS_bind (wpS_mono (Q:=λ(c:Option (Array Keyed)×Nat×Nat×Array Keyed×Nat×Nat) st'=>st'=setG st g/\((∃r,c.1=some r/\Good blt (a.toList++b.toList) r)\/(c.1=none/\Ah blt a b rem c.2.1 c.2.2.1 c.2.2.2.1)))
  (wpS_forRange (λ_ (c:Option (Array Keyed)×Nat×Nat×Array Keyed×Nat×Nat) st'=>st'=setG st g/\c.1=none/\Ah blt a b rem c.2.1 c.2.2.1 c.2.2.2.1) ?_ (λc st' h=>⟨h.1,.inr ⟨h.2.1,h.2.2⟩⟩) ⟨rfl,rfl,h2⟩) ?_)
 ·clear h2
  intro j c st' _ hj hI
  refine TH hI λh=>?_
  clear hI
  extract_lets -merge -underBinder s0 ka s1 kb s2 o s3 ca cb
  have h2:Ah blt a b rem ka kb o:=h.2
  clear h
  clear_value o ka kb ca cb
  clear s3 s2 s1 s0
  obtain⟨hg,a1,a2,b1,b2,hr⟩:=h2
  obtain⟨ka,rfl⟩:∃k,ka=k+1:=⟨ka-1,by lia⟩
  obtain⟨kb,rfl⟩:∃k,kb=k+1:=⟨kb-1,by lia⟩
  obtain⟨bk,ex⟩:∃x,b[kb]? = some x:=⟨_,aB (show kb<b.size by lia)⟩
  obtain⟨ak,ey⟩:∃x,a[ka]? = some x:=⟨_,aB (show ka<a.size by lia)⟩
  refine wpS_bind (cR (p:=bk) ex (wpS_bind (cR (p:=ak) ey (wpS_bind (C _ _ _ _ (SB ex) (SA ey) hk ?_)))))
  dsimp only
  rw[Nat.add_sub_cancel,Nat.add_sub_cancel]
  cases z:blt bk ak with
  |true=>
   refine w_ite (λ_=>wpS_bind (cR ey ?_)) λz=>absurd rfl z
   have hg':=vn hg ey ex (O.yS _ _ (SB ex) (SA ey) z)
   refine w_ite (λd1=>?_) (λd1=>?_)
   ·exact wpS_pure ⟨rfl,.inl ⟨_,rfl,fin _ _ _ hg' (.inr (beq_iff_eq.mp d1))⟩⟩
   have NO:¬ka=0:=λz=>d1 (beq_iff_eq.mpr z)
   have at':Ah blt a b rem ka (kb+1) (o.push ak):=⟨hg',by lia,by lia,b1,b2,by lia⟩
   exact w_ite (λ_=>wpS_pure ⟨rfl,.inr ⟨rfl,at'⟩⟩) λ_=>wpS_pure ⟨rfl,rfl,at'⟩
  |false=>
   refine w_ite (λz=>absurd z Bool.false_ne_true) λ_=>wpS_bind (cR ex ?_)
   have hg':=se hg ex ey z
   refine w_ite (λd1=>?_) (λd1=>?_)
   ·have NO:kb=1:=beq_iff_eq.mp d1
    subst NO
    exact wpS_pure ⟨rfl,.inl ⟨_,rfl,IJ _ _ hg'⟩⟩
   have NO:¬kb=1:=λz=>d1 (beq_iff_eq.mpr z)
   have at':Ah blt a b rem (ka+1) kb (o.push bk):=⟨hg',by lia,by lia,by lia,by lia,by lia⟩
   exact w_ite (λ_=>wpS_pure ⟨rfl,.inr ⟨rfl,at'⟩⟩) λ_=>wpS_pure ⟨rfl,rfl,at'⟩
 clear h2
 intro c st' hI
 refine TH hI λh=>?_
 clear hI
 dsimp(zeta:=false) only
 extract_lets -merge -underBinder r' s1 ka s2 kb s3 o s4 ca cb
 have h':(∃r,r'=some r/\Good blt (a.toList++b.toList) r)\/(r'=none/\Ah blt a b rem ka kb o):=h
 clear h
 clear_value r' o ka kb ca cb
 clear s4 s3 s2 s1
 cases r' with
 |some r=>
  refine wpS_pure (wpS_pure (hQ _ g ?_))
  rcases h' with⟨r1,e,gd⟩|⟨e,_⟩
  ·rw[Option.some.inj e];exact gd
  ·cases e
 |none=>
 have h:Ah blt a b rem ka kb o:=by
  rcases h' with⟨r1,e,_⟩|h
  ·cases e
  ·exact h.2
 clear h'
 refine wpS_bind (mY ?_)
 extract_lets -merge -underBinder Vi
 clear_value Vi
 refine wpS_bind (wpS_mono (Q:=λ(c:Option (Array Keyed)×Nat×Nat×Array Keyed×Nat×Nat×Nat) st'=>∃g',st'=setG st g'/\((∃r,c.1=some r/\Good blt (a.toList++b.toList) r)\/(c.1=none/\Ah blt a b (rem-1) c.2.1 c.2.2.1 c.2.2.2.1)))
  (wpS_forRange (λj (c:Option (Array Keyed)×Nat×Nat×Array Keyed×Nat×Nat×Nat) st'=>∃g',st'=setG st g'/\c.1=none/\Ah blt a b (if j=0 then rem else rem-1) c.2.1 c.2.2.1 c.2.2.2.1) ?_ (λc st' ⟨g',h1,h2,h3⟩=>⟨g',h1,.inr ⟨h2,by rw[if_neg LI]at h3;exact h3⟩⟩) ⟨g,rfl,rfl,by simpa using h⟩) ?_)
 ·clear h
  intro j c st' _ hj hI
  refine Y_ hI λg' h=>?_
  clear hI
  extract_lets -merge -underBinder s0 ka s1 kb s2 o s3 Vj s4 WY WU Io Vh
  have h2:Ah blt a b (if j=0 then rem else rem-1) ka kb o:=h
  clear h
  clear_value o ka kb Vj WY WU Vh
  clear s4 s3 s2 s1 s0
  have hg:=h2.hg
  have a1:=h2.a1
  have a2:=h2.a2
  have b1:=h2.b1
  have b2:=h2.b2
  have hr':ka+kb<=rem:=by
   have hr:=h2.hr
   split at hr<;>lia
  clear h2
  obtain⟨kb,rfl⟩:∃k,kb=k+1:=⟨kb-1,by lia⟩
  have ex:=aB (show kb<b.size by lia)
  generalize b[kb]=bk at ex
  refine zd Io (λ_ _ st'=>∃g,st'=setG st g) ?_ λJ=>?_
  rotate_left
  ·clear_value Io
   exact w_ite (λ_=>J _ _ _ ⟨_,rfl⟩) λ_=>J _ _ _ ⟨_,rfl⟩
  rintro _ mg3 st' ⟨g3,rfl⟩
  unfold Io
  clear Io
  refine wpS_bind (wpS_modify ?_)
  refine wpS_bind (cR (p:=bk) ex (wpS_bind (iF (left:=false) (X:=λi=>(a[0+i]?).getD b0) O C hk (λi hi=>?_) (λi hi=>?_) (SB ex) (λi l hil hl'=>?_) LI λk hk1 p1 p2=>?_)))
  ·rw[aB (show 0+i<a.size by lia)];rfl
  ·rw[aB (show 0+i<a.size by lia)];exact SA (aB (show 0+i<a.size by lia))
  ·rw[aB (show 0+i<a.size by lia),aB (show 0+l<a.size by lia)]
   exact kh O sa Sa (aE (aB (show 0+i<a.size by lia))) (aE (aB (show 0+l<a.size by lia))) LI
  have la:∀q y,a[q]? = some y->q<k->blt bk y=false:=λq y e hq=>by
   have:=p1 q hq
   rw[Nat.zero_add,e]at this
   simpa using this
  dsimp(zeta:=false) only
  extract_lets -merge -underBinder kk WX Im kD EA
  obtain⟨ekk,eo,en⟩:kk=ka-k/\kD=o++(a.extract k ka).reverse/\EA=k:=⟨rfl,rfl,rfl⟩
  clear_value kk WX kD EA
  refine pW Im (λ_ n2 kD st'=>(∃g,st'=setG st g)/\1<=n2/\n2<=ka/\Hg blt (a.toList++b.toList) (a.toList.take n2) (b.toList.take (kb+1)) kD.toList.reverse/\∀q y,a[q]? = some y->q<n2->blt bk y=false) ?_ λJ=>?_
  rotate_left
  ·clear_value Im
   subst en
   refine w_ite (λk0=>?_) (λk0=>?_)
   ·have ID:Hg blt (a.toList++b.toList) (a.toList.take EA) (b.toList.take (kb+1)) kD.toList.reverse:=by
     rw[eo,Array.toList_append,Array.toList_reverse,List.reverse_append,List.reverse_reverse,ext_toList]
     rw[iT a.toList hk1]at hg
     refine hg.lN λx hx y hy=>?_
     obtain⟨q,hq,rfl⟩:=List.mem_iff_getElem.mp hx
     have hq2:q<ka-EA:=by simp only[List.length_take]at hq;lia
     have e1:=p2 (EA+q) LI LI
     rw[Nat.zero_add,aB (show EA+q<a.size by lia)]at e1
     simp only[Bool.false_eq_true,if_false,Option.getD_some,Bool.not_eq_false']at e1
     have e2:((a.toList.drop EA).take (ka-EA))[q]=a[EA+q]' LI:=by simp
     rw[e2]
     have sx:=SA (aB (show EA+q<a.size by lia))
     exact O.tr _ _ _ (tkB hy) (SB ex) sx (lO O sb Sb (aE ex) hy) (O.yS _ _ (SB ex) sx e1)
    refine w_ite (λd1=>?_) (λd1=>?_)
    ·exact wpS_pure ⟨_,rfl,.inl ⟨_,rfl,fin _ _ _ ID (.inr (beq_iff_eq.mp d1))⟩⟩
    have NO:¬EA=0:=λz=>d1 (beq_iff_eq.mpr z)
    exact J _ _ _ _ ⟨⟨_,rfl⟩,by lia,hk1,ID,la⟩
   ·exact J _ _ _ _ ⟨⟨_,rfl⟩,a1,Nat.le_refl _,hg,λq y e hq=>la q y e LI⟩
  clear eo en p1 p2 la hg
  rintro _ n2 kD st' ⟨⟨g4,rfl⟩,n21,n2k,ID,wg⟩
  unfold Im
  clear Im
  obtain⟨xx,rfl⟩:∃q,n2=q+1:=⟨n2-1,by lia⟩
  obtain⟨ak,sW⟩:∃x,a[xx]? = some x:=⟨_,aB (show xx<a.size by lia)⟩
  extract_lets -merge -underBinder XW
  have eb2:kb=XW:=rfl
  clear_value XW
  subst eb2
  refine wpS_bind (cR (p:=bk) ex ?_)
  extract_lets -merge -underBinder um
  have WE:kD.push bk=um:=rfl
  clear_value um
  have Rh:Hg blt (a.toList++b.toList) (a.toList.take (xx+1)) (b.toList.take kb) um.toList.reverse:=WE▸se ID ex sW (wg xx ak sW LI)
  refine w_ite (λd3=>?_) (λd3=>?_)
  ·have WO:kb=1:=beq_iff_eq.mp d3
   subst WO
   exact wpS_pure ⟨_,rfl,.inl ⟨_,rfl,IJ _ _ Rh⟩⟩
  have WO:¬kb=1:=λz=>d3 (beq_iff_eq.mpr z)
  refine wpS_bind (cR (p:=ak) sW (wpS_bind (iF (left:=true) (X:=λi=>(b[0+i]?).getD b0) O C hk (λi hi=>?_) (λi hi=>?_) (SA sW) (λi l hil hl'=>?_) LI λk2 hk2 p1 p2=>?_)))
  ·rw[aB (show 0+i<b.size by lia)];rfl
  ·rw[aB (show 0+i<b.size by lia)];exact SB (aB (show 0+i<b.size by lia))
  ·rw[aB (show 0+i<b.size by lia),aB (show 0+l<b.size by lia)]
   exact kh O sb Sb (aE (aB (show 0+i<b.size by lia))) (aE (aB (show 0+l<b.size by lia))) LI
  have lb:∀q y,b[q]? = some y->q<k2->blt ak y=false:=λq y e hq=>by
   have:=p1 q hq
   rw[Nat.zero_add,e]at this
   exact O.yS _ _ (SB e) (SA sW) (by simpa using this)
  dsimp(zeta:=false) only
  extract_lets -merge -underBinder Yq WT Il kC Bs
  obtain⟨abU,eo,en⟩:Yq=kb-k2/\kC=um++(b.extract k2 kb).reverse/\Bs=k2:=⟨rfl,rfl,rfl⟩
  clear_value Yq WT kC Bs
  refine pW Il (λ_ n4 kC st'=>(∃g,st'=setG st g)/\2<=n4/\n4<=kb/\Hg blt (a.toList++b.toList) (a.toList.take (xx+1)) (b.toList.take n4) kC.toList.reverse/\∀q y,b[q]? = some y->q<n4->blt ak y=false) ?_ λJ=>?_
  rotate_left
  ·clear_value Il
   subst en
   refine w_ite (λVA=>?_) (λVA=>?_)
   ·have Rg:Hg blt (a.toList++b.toList) (a.toList.take (xx+1)) (b.toList.take Bs) kC.toList.reverse:=by
     rw[eo,Array.toList_append,Array.toList_reverse,List.reverse_append,List.reverse_reverse,ext_toList]
     rw[iT b.toList hk2]at Rh
     refine Rh.oG λx hx y hy=>?_
     obtain⟨q,hq,rfl⟩:=List.mem_iff_getElem.mp hx
     have hq2:q<kb-Bs:=by simp only[List.length_take]at hq;lia
     have e1:=p2 (Bs+q) LI LI
     rw[Nat.zero_add,aB (show Bs+q<b.size by lia)]at e1
     simp only[if_true,Option.getD_some]at e1
     have e2:((b.toList.drop Bs).take (kb-Bs))[q]=b[Bs+q]' LI:=by simp
     rw[e2]
     have sx:=SB (aB (show Bs+q<b.size by lia))
     exact O.tr _ _ _ (Ul hy) (SA sW) sx (lO O sa Sa (aE sW) hy) e1
    refine w_ite (λd4=>?_) (λd4=>?_)
    ·have WN:Bs=1:=beq_iff_eq.mp d4
     subst WN
     exact wpS_pure ⟨_,rfl,.inl ⟨_,rfl,IJ _ _ Rg⟩⟩
    have WN:¬Bs=1:=λz=>d4 (beq_iff_eq.mpr z)
    refine w_ite (λd6=>?_) (λd6=>?_)
    ·exact wpS_pure ⟨_,rfl,.inl ⟨_,rfl,fin _ _ _ Rg (.inl (beq_iff_eq.mp d6))⟩⟩
    have d6':¬Bs=0:=λz=>d6 (beq_iff_eq.mpr z)
    exact J _ _ _ _ ⟨⟨_,rfl⟩,by lia,hk2,Rg,lb⟩
   ·exact J _ _ _ _ ⟨⟨_,rfl⟩,by lia,Nat.le_refl _,Rh,λq y e hq=>lb q y e LI⟩
  clear eo en p1 p2 lb Rh ID
  rintro _ n4 kC st' ⟨⟨g5,rfl⟩,n42,n4k,Rg,Mp⟩
  unfold Il
  clear Il
  obtain⟨Qv,rfl⟩:∃q,n4=q+1:=⟨n4-1,by lia⟩
  extract_lets -merge -underBinder XX
  have WJ:xx=XX:=rfl
  clear_value XX
  subst WJ
  refine wpS_bind (cR (p:=ak) sW ?_)
  extract_lets -merge -underBinder uh
  have WD:kC.push ak=uh:=rfl
  clear_value uh
  have YK:Hg blt (a.toList++b.toList) (a.toList.take xx) (b.toList.take (Qv+1)) uh.toList.reverse:=WD▸vn Rg sW (aB (show Qv<b.size by lia)) (Mp Qv _ (aB (show Qv<b.size by lia)) LI)
  refine w_ite (λd5=>?_) (λd5=>?_)
  ·exact wpS_pure ⟨_,rfl,.inl ⟨_,rfl,fin _ _ _ YK (.inr (beq_iff_eq.mp d5))⟩⟩
  have d5':¬xx=0:=λz=>d5 (beq_iff_eq.mpr z)
  have Sd:Ah blt a b (rem-1) xx (Qv+1) uh:=⟨YK,by lia,by lia,by lia,by lia,by lia⟩
  refine w_ite (λ_=>?_) (λ_=>?_)
  ·exact wpS_pure ⟨_,rfl,.inr ⟨rfl,Sd⟩⟩
  ·exact wpS_pure ⟨_,rfl,rfl,by rw[if_neg LI];exact Sd⟩
 clear h
 rintro⟨r,ka,kb,o,mg',ca,cb⟩ st' ⟨g',rfl,h⟩
 rcases h with⟨r',e,gd⟩|⟨e,h⟩
 ·simp only at e
  subst e
  refine wpS_pure ?_
  exact wpS_pure (hQ _ g' gd)
 simp only at e h
 subst e
 dsimp only
 refine wpS_bind (wpS_modify ?_)
 refine wpS_pure ?_
 refine⟨_,rfl,rfl,rem-1,?_,h⟩
 have:=h.hr
 have:=h.a1
 lia
end
structure ck(xs ys:Array Keyed)(lo hi:Nat):Prop where
 perm:ys.Perm xs
 out:∀k,(k<lo\/hi<=k)->ys[k]? = xs[k]?
theorem ck.size{xs ys:Array Keyed}{lo hi:Nat}(h:ck xs ys lo hi):ys.size=xs.size:=h.perm.size_eq
theorem ck.refl(xs:Array Keyed)(lo hi:Nat):ck xs xs lo hi:=⟨Array.Perm.refl _,λ_ _=>rfl⟩
theorem ck.trans{xs ys zs:Array Keyed}{lo hi:Nat}(h:ck xs ys lo hi)(h':ck ys zs lo hi):ck xs zs lo hi:=⟨h'.perm.trans h.perm,λk hk=>(h'.out k hk).trans (h.out k hk)⟩
theorem ck.mono{xs ys:Array Keyed}{lo hi lo' hi':Nat}(h:ck xs ys lo hi)(h1:lo'<=lo)(h2:hi<=hi'):ck xs ys lo' hi':=⟨h.perm,λk hk=>h.out k LI⟩
theorem ic{xs:Array Keyed}{i j:Nat}(hj:j<=xs.size):ck xs (mirror xs i j ((j-i)/2)) i j:=⟨mirror_perm _ _ _ _,λk hk=>by rw[getElem?_mirror_all hj,if_neg LI]⟩
theorem wA{xs:Array Keyed}{src d:Nat}(hs:src<xs.size)(hd:d<=src):ck xs (bubble xs src d) (src-d) (src+1):=⟨bubble_perm _ _ _,λk hk=>by rw[getElem?_bubble hs d hd,if_neg LI,if_neg LI]⟩
def iE(blt:Keyed->Keyed->Bool)(xs:Array Keyed)(lo n:Nat):Prop:=∀i j,i<=j->j<n->∀x y,xs[lo+i]? = some x->xs[lo+j]? = some y->blt y x=false
def pQ(blt:Keyed->Keyed->Bool)(xs:Array Keyed)(lo n:Nat):Prop:=∀i j,i<=j->j<n->∀x y,xs[lo+i]? = some x->xs[lo+j]? = some y->blt x y=false
abbrev jj(S:Keyed->Prop)(xs:Array Keyed):Prop:=∀x∈xs.toList,S x
theorem jj.at{S:Keyed->Prop}{xs:Array Keyed}(h:jj S xs){i:Nat}{x:Keyed}(e:xs[i]? = some x):S x:=h x (List.mem_of_getElem? (aE e))
theorem jj.keep{S:Keyed->Prop}{xs ys:Array Keyed}{lo hi:Nat}(h:jj S xs)(k:ck xs ys lo hi):jj S ys:=λx hx=>h x ((Array.perm_iff_toList_perm.mp k.perm).mem_iff.mp hx)
section
variable {S:Keyed->Prop} {blt:Keyed->Keyed->Bool} (O:Ord S blt)
include O
theorem iE.one{xs:Array Keyed}{lo:Nat}(hS:jj S xs):iE blt xs lo 1:=λi j hij hj x y hx hy=>by
 have:i=j:=by lia
 subst this
 rw[hx]at hy;cases hy
 exact O.Fd _ (hS.at hx)
theorem pQ.one{xs:Array Keyed}{lo:Nat}(hS:jj S xs):pQ blt xs lo 1:=λi j hij hj x y hx hy=>by
 have:i=j:=by lia
 subst this
 rw[hx]at hy;cases hy
 exact O.Fd _ (hS.at hx)
theorem iE.snoc{xs:Array Keyed}{lo n:Nat}(hS:jj S xs)(h:iE blt xs lo n)(hn:1<=n){x y:Keyed}(hx:xs[lo+n]? = some x)(hy:xs[lo+n-1]? = some y)(hlt:blt x y=false):iE blt xs lo (n+1):=λi j hij hj u v hu hv=>by
 by_cases hjn:j<n
 ·exact h i j hij hjn u v hu hv
 ·have e:j=n:=by lia
  subst e
  rw[hx]at hv;cases hv
  by_cases hin:i<j
  ·have e2:lo+j-1=lo+(j-1):=by lia
   rw[e2]at hy
   exact O.tr u y x (hS.at hu) (hS.at hy) (hS.at hx) (h i (j-1) LI LI u y hu hy) hlt
  ·have:i=j:=by lia
   subst this
   rw[hx]at hu;cases hu
   exact O.Fd _ (hS.at hx)
theorem pQ.snoc{xs:Array Keyed}{lo n:Nat}(hS:jj S xs)(h:pQ blt xs lo n)(hn:1<=n){x y:Keyed}(hx:xs[lo+n]? = some x)(hy:xs[lo+n-1]? = some y)(hlt:blt y x=false):pQ blt xs lo (n+1):=λi j hij hj u v hu hv=>by
 by_cases hjn:j<n
 ·exact h i j hij hjn u v hu hv
 ·have e:j=n:=by lia
  subst e
  rw[hx]at hv;cases hv
  by_cases hin:i<j
  ·have e2:lo+j-1=lo+(j-1):=by lia
   rw[e2]at hy
   exact O.tr x y u (hS.at hx) (hS.at hy) (hS.at hu) hlt (h i (j-1) LI LI u y hu hy)
  ·have:i=j:=by lia
   subst this
   rw[hx]at hu;cases hu
   exact O.Fd _ (hS.at hx)
omit O in
theorem pQ.rev{xs:Array Keyed}{lo n:Nat}(h:pQ blt xs lo n)(hz:lo+n<=xs.size):iE blt (mirror xs lo (lo+n) ((lo+n-lo)/2)) lo n:=λi j hij hj x y hx hy=>by
 rw[getElem?_mirror_all hz,if_pos LI]at hx hy
 have e1:lo+(lo+n)-1-(lo+i)=lo+(n-1-i):=by lia
 have e2:lo+(lo+n)-1-(lo+j)=lo+(n-1-j):=by lia
 rw[e1]at hx
 rw[e2]at hy
 exact h (n-1-j) (n-1-i) LI LI y x hy hx
def Ss(blt:Keyed->Keyed->Bool)(xs:Array Keyed)(lo n q:Nat):Prop:=q<n/\∀i j,n-(q+1)<=i->i<n->n-(q+1)<=j->j<n->∀x y,xs[lo+i]? = some x->xs[lo+j]? = some y->blt x y=false
omit O in
theorem pQ.flip{xs:Array Keyed}{lo n q:Nat}(h:pQ blt xs lo n)(e:Ss blt xs lo n q)(hz:lo+n<=xs.size):pQ blt (mirror xs (lo+n-(q+1)) (lo+n) ((lo+n-(lo+n-(q+1)))/2)) lo n:=λi j hij hj x y hx hy=>by
 have hq:=e.1
 rw[getElem?_mirror_all hz]at hx hy
 by_cases c1:lo+n-(q+1)<=lo+i/\lo+i<lo+n
 ·rw[if_pos c1]at hx
  rw[if_pos LI]at hy
  have e1:lo+n-(q+1)+(lo+n)-1-(lo+i)=lo+(n-(q+1)+n-1-i):=by lia
  have e2:lo+n-(q+1)+(lo+n)-1-(lo+j)=lo+(n-(q+1)+n-1-j):=by lia
  rw[e1]at hx
  rw[e2]at hy
  exact e.2 _ _ LI LI LI LI x y hx hy
 ·rw[if_neg c1]at hx
  by_cases c2:lo+n-(q+1)<=lo+j/\lo+j<lo+n
  ·rw[if_pos c2]at hy
   have e2:lo+n-(q+1)+(lo+n)-1-(lo+j)=lo+(n-(q+1)+n-1-j):=by lia
   rw[e2]at hy
   exact h i _ LI LI x y hx hy
  ·rw[if_neg c2]at hy
   exact h i j hij hj x y hx hy
end
section
variable {prog:Program} {w:World} {A:Around} {E:Value->Shared->Prop} {s:Shared} {κ:SortKind} {S:Keyed->Prop} {blt:Keyed->Keyed->Bool}
theorem qf(C:AH prog w A E s κ S blt){st:SortSt}{i j:Nat}{x y:Keyed}{Q:Option Bool->SortSt->Prop}(hk:kindOf st=κ)(hS:jj S (arrOf st))(hx:(arrOf st)[i]? = some x)(hy:(arrOf st)[j]? = some y)(h:Q (some (blt x y)) st):
  wpS (model prog w) A E s (ltAt' i j) Q st:=by
 rw[ltAt'_eq]
 refine wpS_bind (wpS_get ?_)
 exact wpS_bind (cR hx (wpS_bind (cR hy (C x y st Q (hS.at hx) (hS.at hy) hk h))))
theorem w_rev{st:SortSt}{i j:Nat}{Q:Unit->SortSt->Prop}(h:Q () (setArr st (mirror (arrOf st) i j ((j-i)/2)))):wpS (model prog w) A E s (reverseSlice' i j) Q st:=by
 rw[reverseSlice'_eq]
 exact wpS_modify h
theorem Jz(O:Ord S blt)(C:AH prog w A E s κ S blt){st:SortSt}{lo n₀ nrem:Nat}{f:Nat->Option (Option Nat)×Nat->SM (ForInStep (Option (Option Nat)×Nat))}{Q:Option (Option Nat)×Nat->SortSt->Prop}(hk:kindOf st=κ)(hS:jj S (arrOf st))(hz:lo+nrem<=(arrOf st).size)(h1:1<=n₀)(hn:n₀<=nrem)(ha:iE blt (arrOf st) lo n₀)
  (hf:∀i n,f i (none,n)=ltAt' (lo+n) (lo+n-1) >>= λx=>match x with
   |some z=>if z=true then pure (.done (none,n))else pure (.yield (none,n+1))
   |_=>pure (.done (some none,n)))
  (hq:∀n,n₀<=n->n<=nrem->iE blt (arrOf st) lo n->(n<nrem->∀x y,(arrOf st)[lo+n]? = some x->(arrOf st)[lo+n-1]? = some y->blt x y=true)->Q (none,n) st):wpS (model prog w) A E s (forIn [n₀:nrem] (none,n₀) f) Q st:=by
 refine wpS_forRange (λi c st'=>st'=st/\c=(none,i)/\n₀<=i/\iE blt (arrOf st) lo i) ?_ ?_ ⟨rfl,rfl,Nat.le_refl _,ha⟩
 ·rintro i c st' KR h2' ⟨rfl,rfl,h3,h4⟩
  rw[hf]
  have ex:=aB (show lo+i<(arrOf st').size by lia)
  have ey:=aB (show lo+i-1<(arrOf st').size by lia)
  refine wpS_bind (qf C hk hS ex ey ?_)
  cases z:blt (arrOf st')[lo+i] (arrOf st')[lo+i-1]with
  |true=>
   refine wpS_pure (hq i h3 LI h4 λ_ x y hx hy=>?_)
   rw[ex]at hx;cases hx
   rw[ey]at hy;cases hy
   exact z
  |false=>exact wpS_pure ⟨rfl,rfl,by lia,iE.snoc O hS h4 LI ex ey z⟩
 ·rintro c st' ⟨rfl,rfl,h3,h4⟩
  have e:max n₀ nrem=nrem:=by lia
  rw[e]at h4 ⊢
  exact hq nrem hn (Nat.le_refl _) h4 λz=>absurd z (Nat.lt_irrefl _)
theorem oK(st:SortSt):setArr st (arrOf st)=st:=rfl
theorem OJ{G:Prop}{α:Sort _}{P:α->Prop}(R:α)(h1:P R->G)(h2:P R):G:=h1 h2
theorem xD(O:Ord S blt)(C:AH prog w A E s κ S blt){st:SortSt}{lo nrem:Nat}{Q:Option Nat->SortSt->Prop}(hk:kindOf st=κ)(hS:jj S (arrOf st))(hz:lo+nrem<=(arrOf st).size)(h1:1<=nrem)
  (hq:∀n ys,1<=n->n<=nrem->ck (arrOf st) ys lo (lo+nrem)->iE blt ys lo n->Q (some n) (setArr st ys)):wpS (model prog w) A E s (countRun' lo nrem) Q st:=by
 refine wpS_bind (Jz O C hk hS hz (Nat.le_refl 1) h1 (iE.one O hS) (λi n=>bnd _ λx=>by cases x<;>rfl) λn n1 n2 asc nxt=>?_)
 dsimp only
 refine w_ite (λc1=>?_) (λc1=>?_)
 ·exact wpS_pure (oK st▸hq n _ n1 n2 (ck.refl _ _ _) asc)
 have hn:n<nrem:=by
  have:¬n=nrem:=λz=>c1 (beq_iff_eq.mpr z)
  lia
 have ex:=aB (show lo+n<(arrOf st).size by lia)
 have ey:=aB (show lo+n-1<(arrOf st).size by lia)
 have drop:=nxt hn _ _ ex ey
 have e0:=aB (show lo<(arrOf st).size by lia)
 refine' OJ (P:=λR:SM (Option Nat)=>∀xs,ck (arrOf st) xs lo (lo+nrem)->pQ blt xs lo (n+1)->wpS (model prog w) A E s R Q (setArr st xs)) _ (λfin=>?main) ?fin
 case main=>
  refine w_ite (λhn1=>?_) (λhn1=>?_)
  ·refine wpS_bind (qf C hk hS e0 ey ?_)
   cases z:blt (arrOf st)[lo] (arrOf st)[lo+n-1]with
   |true=>exact wpS_pure (oK st▸hq n _ n1 n2 (ck.refl _ _ _) asc)
   |false=>
    refine wpS_bind (w_rev ?_)
    have kx:=(ic (xs:=arrOf st) (i:=lo) (j:=lo+n) LI).mono (Nat.le_refl _) (show lo+n<=lo+nrem by lia)
    have eqv:∀i j,i<n->j<n->∀x y,(arrOf st)[lo+i]? = some x->(arrOf st)[lo+j]? = some y->blt x y=false:=λi j hi hj x y hx hy=>by
     have l1:=asc 0 j LI hj _ y (by rw[Nat.add_zero];exact e0) hy
     have l2:=asc i (n-1) LI LI x _ hx (by rw[show lo+(n-1)=lo+n-1 by lia];exact ey)
     exact O.tr y _ x (hS.at hy) (hS.at ey) (hS.at hx) (O.tr y _ _ (hS.at hy) (hS.at ey) (hS.at ey) (asc j (n-1) LI LI y _ hy (by rw[show lo+(n-1)=lo+n-1 by lia];exact ey)) (O.Fd _ (hS.at ey))) (O.tr _ _ x (hS.at ey) (hS.at e0) (hS.at hx) z (asc 0 i LI hi _ x (by rw[Nat.add_zero];exact e0) hx))
    have RV:pQ blt (mirror (arrOf st) lo (lo+n) ((lo+n-lo)/2)) lo (n+1):=by
     have Wr:=hS.keep kx
     have d1:pQ blt (mirror (arrOf st) lo (lo+n) ((lo+n-lo)/2)) lo n:=λi j hij hj x y hx hy=>by
      rw[getElem?_mirror_all (show lo+n<=(arrOf st).size by lia),if_pos LI]at hx hy
      rw[show lo+(lo+n)-1-(lo+i)=lo+(n-1-i) by lia]at hx
      rw[show lo+(lo+n)-1-(lo+j)=lo+(n-1-j) by lia]at hy
      exact eqv _ _ LI LI x y hx hy
     have e1:(mirror (arrOf st) lo (lo+n) ((lo+n-lo)/2))[lo+n]? = some (arrOf st)[lo+n]:=by
      rw[getElem?_mirror_all (show lo+n<=(arrOf st).size by lia),if_neg LI]
      exact ex
     have e2:(mirror (arrOf st) lo (lo+n) ((lo+n-lo)/2))[lo+n-1]? = some (arrOf st)[lo]:=by
      rw[getElem?_mirror_all (show lo+n<=(arrOf st).size by lia),if_pos LI,show lo+(lo+n)-1-(lo+n-1)=lo by lia]
      exact e0
     exact pQ.snoc O Wr d1 LI e1 e2 (O.tr _ _ _ (hS.at ex) (hS.at ey) (hS.at e0) (O.yS _ _ (hS.at ex) (hS.at ey) drop) (eqv 0 (n-1) LI LI _ _ (by rw[Nat.add_zero];exact e0) (by rw[show lo+(n-1)=lo+n-1 by lia];exact ey)))
    exact fin _ kx RV
  ·have e:n=1:=by lia
   have kx:=ck.refl (arrOf st) lo (lo+nrem)
   have RV:pQ blt (arrOf st) lo (n+1):=by
    subst e
    exact pQ.snoc O hS (pQ.one O hS) (Nat.le_refl _) ex ey (O.yS _ _ (hS.at ex) (hS.at ey) drop)
   exact fin _ kx RV
 case fin=>
  intro xs kx RV
  have Wr:=hS.keep kx
  refine wpS_bind (mY ?_)
  refine wpS_bind (wpS_mono (Q:=λ(c:Option (Option Nat)×Nat×Nat) st'=>∃ys,st'=setArr st ys/\c.1=none/\n+1<=c.2.1/\c.2.1<=nrem/\ck (arrOf st) ys lo (lo+nrem)/\pQ blt ys lo c.2.1/\Ss blt ys lo c.2.1 c.2.2)
   (wpS_forRange (λi (c:Option (Option Nat)×Nat×Nat) st'=>∃ys,st'=setArr st ys/\c.1=none/\c.2.1=i/\n+1<=i/\ck (arrOf st) ys lo (lo+nrem)/\pQ blt ys lo c.2.1/\Ss blt ys lo c.2.1 c.2.2) ?_ ?_ ⟨xs,rfl,rfl,rfl,Nat.le_refl _,kx,RV,by simp only;lia,?_⟩) ?_)
  ·rintro i ⟨r,m,q⟩ st' i1 i2 ⟨ys,rfl,rfl,hi,hm,ky,dy,eq⟩
   simp only at hi
   subst hi
   simp only at ky dy eq
   dsimp only
   have oX:=hS.keep ky
   have zy:lo+nrem<=ys.size:=by rw[ky.size];exact hz
   have ex:=aB (show lo+m<ys.size by lia)
   have ey:=aB (show lo+m-1<ys.size by lia)
   refine wpS_bind (qf C (st:=setArr st ys) hk oX ex ey ?_)
   have hq1:=eq.1
   cases z:blt ys[lo+m] ys[lo+m-1]with
   |true=>
    dsimp only
    refine w_ite (λ_=>?_) (λz=>absurd rfl z)
    have key:∀zs,ck ys zs lo (lo+m)->pQ blt zs lo m->(∀x,zs[lo+m-1]? = some x->blt x ys[lo+m]=false)->wpS (model prog w) A E s (pure (ForInStep.yield ((none,m+1,0):Option (Option Nat)×Nat×Nat)):SM _) (λr st'=>match r with
      |.done c=>∃ys,st'=setArr st ys/\c.1=none/\n+1<=c.2.1/\c.2.1<=nrem/\ck (arrOf st) ys lo (lo+nrem)/\pQ blt ys lo c.2.1/\Ss blt ys lo c.2.1 c.2.2
      |.yield c=>∃ys,st'=setArr st ys/\c.1=none/\c.2.1=m+1/\n+1<=m+1/\ck (arrOf st) ys lo (lo+nrem)/\pQ blt ys lo c.2.1/\Ss blt ys lo c.2.1 c.2.2) (setArr st zs):=by
     intro zs kz dz hlt
     have Qm:=ky.trans (kz.mono (Nat.le_refl _) (show lo+m<=lo+nrem by lia))
     have YO:=hS.keep Qm
     have e1:zs[lo+m]? = some ys[lo+m]:=by rw[kz.out (lo+m) (.inr LI)];exact ex
     have zz:lo+m-1<zs.size:=by rw[kz.size];lia
     refine wpS_pure ⟨zs,rfl,rfl,rfl,by lia,Qm,pQ.snoc O YO dz LI e1 (aB zz) (hlt _ (aB zz)),by simp only;lia,λa b a1 a2 b1 b2 x y hx hy=>?_⟩
     simp only at a1 a2 b1 b2
     have e3:a=m:=by lia
     have e4:b=m:=by lia
     subst e3 e4
     rw[hx]at hy;cases hy
     exact O.Fd _ (YO.at hx)
    refine w_ite (λq0=>?_) (λq0=>?_)
    ·refine wpS_bind (w_rev ?_)
     have km:=ic (xs:=ys) (i:=lo+m-(q+1)) (j:=lo+m) LI
     refine key _ (km.mono (show lo<=lo+m-(q+1) by have:=eq.1;lia) (Nat.le_refl _)) (dy.flip eq LI) λx hx=>?_
     rw[getElem?_mirror_all (show lo+m<=ys.size by lia),if_pos LI]at hx
     have e1:lo+m-(q+1)+(lo+m)-1-(lo+m-1)=lo+(m-(q+1)):=by lia
     rw[e1]at hx
     have e2:ys[lo+(m-1)]? = some ys[lo+m-1]:=by rw[show lo+(m-1)=lo+m-1 by lia];exact ey
     have le1:=dy (m-(q+1)) (m-1) LI LI x _ hx e2
     exact O.tr _ _ _ (oX.at ex) (oX.at ey) (oX.at hx) (O.yS _ _ (oX.at ex) (oX.at ey) z) le1
    ·refine key ys (ck.refl _ _ _) dy λx hx=>?_
     rw[ey]at hx;cases hx
     exact O.yS _ _ (oX.at ex) (oX.at ey) z
   |false=>
    dsimp only
    refine w_ite (λz=>absurd z Bool.false_ne_true) (λ_=>?_)
    refine wpS_bind (qf C (st:=setArr st ys) hk oX ey ex ?_)
    cases z2:blt ys[lo+m-1] ys[lo+m]with
    |true=>
     dsimp only
     refine w_ite (λ_=>?_) (λz=>absurd rfl z)
     exact wpS_pure ⟨ys,rfl,rfl,hm,by simp only;lia,ky,dy,eq⟩
    |false=>
     dsimp only
     refine w_ite (λz=>absurd z Bool.false_ne_true) (λ_=>?_)
     refine wpS_pure ⟨ys,rfl,rfl,rfl,by lia,ky,pQ.snoc O oX dy LI ex ey z2,by simp only;lia,λa b a1 a2 b1 b2 x y hx hy=>?_⟩
     simp only at a1 a2 b1 b2
     have e2:ys[lo+(m-1)]? = some ys[lo+m-1]:=by rw[show lo+(m-1)=lo+m-1 by lia];exact ey
     by_cases ha:a=m
     ·subst ha
      rw[ex]at hx;cases hx
      by_cases hb:b=a
      ·subst hb
       rw[ex]at hy;cases hy
       exact O.Fd _ (oX.at ex)
      ·exact O.tr y ys[lo+a-1] _ (oX.at hy) (oX.at ey) (oX.at ex) (eq.2 (a-1) b LI LI LI LI _ y e2 hy) z
     ·by_cases hb:b=m
      ·subst hb
       rw[ex]at hy;cases hy
       exact O.tr _ ys[lo+b-1] x (oX.at ex) (oX.at ey) (oX.at hx) z2 (eq.2 a (b-1) LI LI LI LI x _ hx e2)
      ·exact eq.2 a b LI LI LI LI x y hx hy
  ·rintro⟨r,m,q⟩ st' ⟨ys,rfl,rfl,hi,hm,ky,dy,eq⟩
   simp only at hi
   subst hi
   simp only at ky dy eq
   exact⟨ys,rfl,rfl,by simp only;lia,by simp only;lia,ky,dy,eq⟩
  ·intro a b a1 a2 b1 b2 x y hx hy
   simp only at a1 a2 b1 b2
   have e3:a=n:=by lia
   have e4:b=n:=by lia
   subst e3 e4
   rw[hx]at hy;cases hy
   exact O.Fd _ (Wr.at hx)
  ·rintro⟨r,m,q⟩ st' ⟨ys,rfl,rfl,m1,m2,ky,dy,eq⟩
   simp only at ky dy eq m1 m2
   dsimp only
   have zy:lo+nrem<=ys.size:=by rw[ky.size];exact hz
   refine' OJ (P:=λR:SM (Option Nat)=>∀zs,ck ys zs lo (lo+m)->pQ blt zs lo m->wpS (model prog w) A E s R Q (setArr st zs)) _ (λRE=>w_ite (λq0=>?m1) (λq0=>?m2)) ?f2
   case m2=>exact RE _ (ck.refl ys lo (lo+m)) dy
   case m1=>exact wpS_bind (w_rev (RE _ ((ic (xs:=ys) (i:=lo+m-(q+1)) (j:=lo+m) LI).mono (show lo<=lo+m-(q+1) by have:=eq.1;lia) (Nat.le_refl _)) (dy.flip eq LI)))
   intro zs kz dz
   have Qm:=ky.trans (kz.mono (Nat.le_refl _) (show lo+m<=lo+nrem by lia))
   have zz:lo+nrem<=zs.size:=by rw[Qm.size];exact hz
   refine wpS_bind (w_rev ?_)
   have km:=ic (xs:=zs) (i:=lo) (j:=lo+m) LI
   have k3:=Qm.trans (km.mono (Nat.le_refl _) (show lo+m<=lo+nrem by lia))
   refine wpS_bind (Jz O C (st:=setArr st (mirror zs lo (lo+m) ((lo+m-lo)/2))) hk (hS.keep k3) (by rw[show arrOf (setArr st (mirror zs lo (lo+m) ((lo+m-lo)/2)))=mirror zs lo (lo+m) ((lo+m-lo)/2)from rfl,mirror_size];exact zz) LI m2 (dz.rev LI) (λi n=>bnd _ λx=>by cases x<;>rfl) λn' n1' n2' WW _=>?_)
   exact wpS_pure (hq n' _ LI n2' k3 WW)
end
section
variable {prog:Program} {w:World} {A:Around} {E:Value->Shared->Prop} {s:Shared} {κ:SortKind} {S:Keyed->Prop} {blt:Keyed->Keyed->Bool}
theorem Lh{st:SortSt}{i j:Nat}{Q:Unit->SortSt->Prop}(h:Q () (setArr st (bubble (arrOf st) i (i-j)))):wpS (model prog w) A E s (moveDown' i j) Q st:=by
 rw[moveDown'_eq]
 exact wpS_modify h
theorem iE.put(O:Ord S blt){xs:Array Keyed}{lo k l:Nat}(hS:jj S xs)(h:iE blt xs lo k)(hl:l<=k)(hz:lo+k<xs.size){x:Keyed}(hx:xs[lo+k]? = some x)(h1:∀i,i<l->∀y,xs[lo+i]? = some y->blt x y=false)(h2:∀i,l<=i->i<k->∀y,xs[lo+i]? = some y->blt x y=true):
  iE blt (bubble xs (lo+k) (lo+k-(lo+l))) lo (k+1):=λi j hij hj u v hu hv=>by
 have e:∀m,m<=k->(bubble xs (lo+k) (lo+k-(lo+l)))[lo+m]? = if m=l then xs[lo+k]? else if l<m then xs[lo+(m-1)]? else xs[lo+m]? :=λm hm=>by
  rw[getElem?_bubble hz _ LI]
  by_cases c1:m=l
  ·rw[if_pos LI,if_pos c1]
  ·rw[if_neg LI,if_neg c1]
   by_cases c2:l<m
   ·rw[if_pos LI,if_pos c2,show lo+m-1=lo+(m-1) by lia]
   ·rw[if_neg LI,if_neg c2]
 rw[e i LI]at hu
 rw[e j LI]at hv
 by_cases c1:i=l
 ·rw[if_pos c1,hx]at hu
  cases hu
  by_cases c2:j=l
  ·rw[if_pos c2,hx]at hv
   cases hv
   exact O.Fd _ (hS.at hx)
  ·rw[if_neg c2,if_pos LI]at hv
   exact O.yS _ _ (hS.at hx) (hS.at hv) (h2 (j-1) LI LI v hv)
 ·rw[if_neg c1]at hu
  by_cases c3:l<i
  ·rw[if_pos c3]at hu
   rw[if_neg LI,if_pos LI]at hv
   exact h (i-1) (j-1) LI LI u v hu hv
  ·rw[if_neg c3]at hu
   by_cases c2:j=l
   ·rw[if_pos c2,hx]at hv
    cases hv
    exact h1 i LI u hu
   ·rw[if_neg c2]at hv
    by_cases c4:l<j
    ·rw[if_pos c4]at hv
     exact h i (j-1) LI LI u v hu hv
    ·rw[if_neg c4]at hv
     exact h i j hij LI u v hu hv
theorem CK(O:Ord S blt)(C:AH prog w A E s κ S blt){st:SortSt}{lo n ok:Nat}{Q:Bool->SortSt->Prop}(hk:kindOf st=κ)(hS:jj S (arrOf st))(hz:lo+n<=(arrOf st).size)(h1:1<=ok)(hn:ok<=n)(ha:iE blt (arrOf st) lo ok)
  (hq:∀ys,ck (arrOf st) ys lo (lo+n)->iE blt ys lo n->Q true (setArr st ys)):wpS (model prog w) A E s (binarySort' lo n ok) Q st:=by
 have em:max ok 1=ok:=by lia
 refine wpS_bind (wpS_mono (Q:=λ(c:Option Bool×Unit) st'=>∃ys,st'=setArr st ys/\c.1=none/\ck (arrOf st) ys lo (lo+n)/\iE blt ys lo n)
  (wpS_forRange (λk (c:Option Bool×Unit) st'=>∃ys,st'=setArr st ys/\c.1=none/\ck (arrOf st) ys lo (lo+n)/\iE blt ys lo k) ?_ ?_ ⟨arrOf st,rfl,rfl,ck.refl _ _ _,by rw[em];exact ha⟩) ?_)
 ·rintro k ⟨r,u⟩ st' k1 k2 ⟨ys,rfl,rfl,ky,ay⟩
  rw[em]at k1
  have oX:=hS.keep ky
  have zy:lo+n<=ys.size:=by rw[ky.size];exact hz
  have ex:=aB (show lo+k<ys.size by lia)
  refine wpS_bind (wpS_mono (Q:=λ(c:Option Bool×Nat×Nat) st'=>st'=setArr st ys/\c.1=none/\c.2.1<=k/\(∀i,i<c.2.1->∀y,ys[lo+i]? = some y->blt ys[lo+k] y=false)/\∀i,c.2.1<=i->i<k->∀y,ys[lo+i]? = some y->blt ys[lo+k] y=true)
   (wpS_forRange (λi (c:Option Bool×Nat×Nat) st'=>st'=setArr st ys/\c.1=none/\c.2.1<=c.2.2/\c.2.2<=k/\c.2.2-c.2.1+i<=k/\(∀i,i<c.2.1->∀y,ys[lo+i]? = some y->blt ys[lo+k] y=false)/\∀i,c.2.2<=i->i<k->∀y,ys[lo+i]? = some y->blt ys[lo+k] y=true) ?_ ?_
    ⟨rfl,rfl,by simp only;lia,by simp only;lia,by simp only;lia,λi hi=>absurd hi (Nat.not_lt_zero _),λi hi hi'=>by simp only at hi;lia⟩) ?_)
  ·rintro i ⟨r,l,h⟩ st' _ hi ⟨rfl,rfl,a1,a2,a3,a4,a5⟩
   simp only at a1 a2 a3 a4 a5
   dsimp only
   refine w_ite (λc1=>?_) (λc1=>?_)
   ·have e:l=h:=by lia
    subst e
    exact wpS_pure ⟨rfl,rfl,a2,a4,a5⟩
   have NF:=aB (show lo+(l+h)/2<ys.size by lia)
   refine wpS_bind (qf C (st:=setArr st ys) hk oX ex NF ?_)
   cases z:blt ys[lo+k] ys[lo+(l+h)/2]with
   |true=>
    refine wpS_pure ⟨rfl,rfl,by simp only;lia,by simp only;lia,by simp only;lia,a4,λq hq1 hq2 y hy=>?_⟩
    simp only at hq1
    have le:=ay ((l+h)/2) q hq1 hq2 _ y NF hy
    cases z2:blt ys[lo+k] y with
    |true=>rfl
    |false=>
     have:=O.tr _ _ _ (oX.at NF) (oX.at hy) (oX.at ex) le z2
     rw[z]at this
     cases this
   |false=>
    refine wpS_pure ⟨rfl,rfl,by simp only;lia,by simp only;lia,by simp only;lia,λq hq1 y hy=>?_,a5⟩
    simp only at hq1
    have le:=ay q ((l+h)/2) LI LI y _ hy NF
    exact O.tr _ _ _ (oX.at hy) (oX.at NF) (oX.at ex) le z
  ·rintro⟨r,l,h⟩ st' ⟨rfl,rfl,a1,a2,a3,a4,a5⟩
   simp only at a1 a2 a3 a4 a5
   have e:l=h:=by lia
   subst e
   exact⟨rfl,rfl,a2,a4,a5⟩
  ·rintro⟨r,l,h⟩ st' ⟨rfl,e,a2,a4,a5⟩
   simp only at e a2 a4 a5
   subst e
   refine wpS_bind (Lh ?_)
   refine wpS_pure ⟨_,rfl,rfl,ky.trans ((wA (xs:=ys) (src:=lo+k) (d:=lo+k-(lo+l)) LI LI).mono (show lo<=lo+k-(lo+k-(lo+l)) by lia) (show lo+k+1<=lo+n by lia)),iE.put O oX ay a2 (show lo+k<ys.size by lia) ex a4 a5⟩
 ·rintro⟨r,u⟩ st' ⟨ys,rfl,rfl,ky,ay⟩
  rw[show max (max ok 1) n=n by lia]at ay
  exact⟨ys,rfl,rfl,ky,ay⟩
 ·rintro⟨r,u⟩ st' ⟨ys,rfl,e,ky,ay⟩
  simp only at e
  subst e
  exact wpS_pure (hq ys ky ay)
theorem CG(o:Nat):∀(l:List Keyed)(t:Nat)(xs:Array Keyed),o+t+l.length<=xs.size->∀k,
  ((l.zipIdx t).foldl (λ(a:Array Keyed) (x:Keyed×Nat)=>match x with|(p,j)=>a.setIfInBounds (o+j) p) xs)[k]? = if o+t<=k/\k<o+t+l.length then l[k-(o+t)]? else xs[k]?
 |[],t,xs,_,k=>by
  rw[if_neg (by simp)]
  rfl
 |x::r,t,xs,h,k=>by
  rw[List.length_cons]at h
  have ih:=CG o r (t+1) (xs.setIfInBounds (o+t) x) (by rw[Array.size_setIfInBounds];lia) k
  rw[List.zipIdx_cons,List.foldl_cons]
  show(List.foldl _ (xs.setIfInBounds (o+t) x) (r.zipIdx (t+1)))[k]? = _
  rw[ih,List.length_cons]
  by_cases c1:o+(t+1)<=k/\k<o+(t+1)+r.length
  ·rw[if_pos c1,if_pos LI,show k-(o+t)=k-(o+(t+1))+1 by lia,List.getElem?_cons_succ]
  ·rw[if_neg c1]
   by_cases c2:k=o+t
   ·subst c2
    rw[if_pos LI,Nat.sub_self]
    simp[show o+t<xs.size by lia]
   ·rw[if_neg LI]
    rw[Array.getElem?_setIfInBounds_ne LI]
def wb(xs m:Array Keyed)(o:Nat):Array Keyed:=(m.toList.zipIdx).foldl (λ(a:Array Keyed) (x:Keyed×Nat)=>match x with|(p,j)=>a.setIfInBounds (o+j) p) xs
theorem CH{xs m:Array Keyed}{o:Nat}(h:o+m.size<=xs.size)(k:Nat):(wb xs m o)[k]? = if o<=k/\k<o+m.size then m[k-o]? else xs[k]? :=by
 have:=CG o m.toList 0 xs (by simpa using h) k
 unfold wb
 rw[this]
 simp
theorem GS{xs m:Array Keyed}{o:Nat}(h:o+m.size<=xs.size)(hp:m.toList.Perm (xs.extract o (o+m.size)).toList):ck xs (wb xs m o) o (o+m.size):=by
 refine⟨?_,λk hk=>by rw[CH h,if_neg LI]⟩
 rw[Array.perm_iff_toList_perm]
 have e1:(wb xs m o).toList=xs.toList.take o++m.toList++xs.toList.drop (o+m.size):=by
  apply List.ext_getElem?
  intro k
  have e:(wb xs m o).toList[k]? = (wb xs m o)[k]? :=by simp
  rw[e,CH h]
  have lt:(xs.toList.take o).length=o:=by simp;lia
  by_cases c1:k<o
  ·rw[if_neg LI,List.append_assoc,List.getElem?_append_left LI,List.getElem?_take_of_lt c1]
   simp
  ·by_cases c2:k<o+m.size
   ·rw[if_pos LI,List.append_assoc,List.getElem?_append_right LI,lt,List.getElem?_append_left (by simp;lia)]
    simp
   ·rw[if_neg LI,List.getElem?_append_right (by rw[List.length_append,lt];simp;lia),List.getElem?_drop,List.length_append,lt]
    rw[show o+m.size+(k-(o+m.toList.length))=k by simp;lia]
    simp
 have e2:xs.toList=xs.toList.take o++(xs.extract o (o+m.size)).toList++xs.toList.drop (o+m.size):=by
  rw[ext_toList,Nat.add_sub_cancel_left]
  have:=iT xs.toList (i:=o) (n:=o+m.size) LI
  rw[Nat.add_sub_cancel_left]at this
  rw[←this,List.take_append_drop]
 rw[e1]
 refine List.Perm.trans ?_ (List.Perm.of_eq e2.symm)
 exact List.Perm.append_right _ (List.Perm.append_left _ hp)
theorem ext_get{xs:Array Keyed}{i j k:Nat}(hj:j<=xs.size)(h:k<j-i):(xs.extract i j)[k]? = xs[i+k]? :=by
 rw[Array.getElem?_extract]
 rw[if_pos LI]
theorem gi{xs:Array Keyed}{i j:Nat}(hj:j<=xs.size):(xs.extract i j).size=j-i:=by
 rw[Array.size_extract]
 lia
theorem iE.JG{xs:Array Keyed}{lo n i j:Nat}(h:iE blt xs lo n)(h1:lo<=i)(h2:j<=lo+n)(hz:j<=xs.size):qZ blt (xs.extract i j).toList:=by
 refine List.pairwise_iff_getElem.mpr λp q hp hq hpq=>?_
 have uy:p<j-i:=by
  have z:=hp
  rw[Array.length_toList,gi hz]at z
  exact z
 have hq':q<j-i:=by
  have z:=hq
  rw[Array.length_toList,gi hz]at z
  exact z
 have e1:xs[lo+(i-lo+p)]? = some (xs.extract i j).toList[p]:=by
  rw[show lo+(i-lo+p)=i+p by lia,←ext_get hz uy]
  simp[gi hz,uy]
 have e2:xs[lo+(i-lo+q)]? = some (xs.extract i j).toList[q]:=by
  rw[show lo+(i-lo+q)=i+q by lia,←ext_get hz hq']
  simp[gi hz,hq']
 exact h _ _ LI LI _ _ e1 e2
theorem mh{xs:Array Keyed}{i j:Nat}{y:Keyed}(hz:j<=xs.size)(h:y∈(xs.extract i j).toList):∃q,q<j-i/\xs[i+q]? = some y:=by
 obtain⟨q,hq,rfl⟩:=List.mem_iff_getElem.mp h
 have hq':q<j-i:=by
  have z:=hq
  rw[Array.length_toList,gi hz]at z
  exact z
 refine⟨q,hq',?_⟩
 rw[←ext_get hz hq']
 simp[gi hz,hq']
abbrev gy(st:SortSt)(xs:Array Keyed)(p:Array (Nat×Nat×Nat))(g:Nat):SortSt:=SortSt.mk' (kindOf st) xs p g (failedOf st)
theorem AL(O:Ord S blt)(C:AH prog w A E s κ S blt){st:SortSt}{i sa na pw nb Xz:Nat}{Q:Bool->SortSt->Prop}(hk:kindOf st=κ)(hf:failedOf st=none)(hS:jj S (arrOf st))(e1:(pendingOf st)[i]? = some (sa,na,pw))(e2:(pendingOf st)[i+1]? = some (sa+na,nb,Xz))
  (na1:1<=na)(nb1:1<=nb)(hz:sa+na+nb<=(arrOf st).size)(aa:iE blt (arrOf st) sa na)(ab:iE blt (arrOf st) (sa+na) nb)
  (hq:∀ys g,ck (arrOf st) ys sa (sa+na+nb)->iE blt ys sa (na+nb)->Q true (gy st ys (((pendingOf st).setIfInBounds i (sa,na+nb,pw)).eraseIdxIfInBounds (i+1)) g)):wpS (model prog w) A E s (mergeAt' i) Q st:=by
 refine wpS_bind (wpS_get ?_)
 rw[e1,e2]
 dsimp only
 refine wpS_bind (wpS_modify (f:=λ_=>gy st (arrOf st) (((pendingOf st).setIfInBounds i (sa,na+nb,pw)).eraseIdxIfInBounds (i+1)) (gallopOf st)) ?_)
 generalize ((pendingOf st).setIfInBounds i (sa,na+nb,pw)).eraseIdxIfInBounds (i+1)=P at *
 have eb:=aB (show sa+na<(arrOf st).size by lia)
 refine wpS_bind (cR eb (wpS_bind (iF (left:=false) (X:=λq=>((arrOf st)[sa+q]?).getD (arrOf st)[sa+na]) O C hk (λq hq=>?_) (λq hq=>?_) (hS.at eb) (λp q hpq hq=>?_) LI λk k1 p1 p2=>?_)))
 ·rw[aB (show sa+q<(arrOf st).size by lia)];rfl
 ·rw[aB (show sa+q<(arrOf st).size by lia)];exact hS.at (aB (show sa+q<(arrOf st).size by lia))
 ·rw[aB (show sa+p<(arrOf st).size by lia),aB (show sa+q<(arrOf st).size by lia)]
  exact aa p q hpq hq _ _ (aB (show sa+p<(arrOf st).size by lia)) (aB (show sa+q<(arrOf st).size by lia))
 have below:∀q,q<k->∀y,(arrOf st)[sa+q]? = some y->blt (arrOf st)[sa+na] y=false:=λq hq y hy=>by
  have:=p1 q hq
  rw[hy]at this
  simpa using this
 have above:∀q,k<=q->q<na->∀y,(arrOf st)[sa+q]? = some y->blt (arrOf st)[sa+na] y=true:=λq hq hq2 y hy=>by
  have:=p2 q hq hq2
  rw[hy]at this
  simpa using this
 have joined:(∀q,q<na->∀y,(arrOf st)[sa+q]? = some y->∀r,r<nb->∀z,(arrOf st)[sa+na+r]? = some z->blt z y=false)->iE blt (arrOf st) sa (na+nb):=λh p q hpq hq x y hx hy=>by
  by_cases c1:q<na
  ·exact aa p q hpq c1 x y hx hy
  ·by_cases c2:p<na
   ·exact h p c2 x hx (q-na) LI y (by rw[show sa+na+(q-na)=sa+q by lia];exact hy)
   ·exact ab (p-na) (q-na) LI LI x y (by rw[show sa+na+(p-na)=sa+p by lia];exact hx) (by rw[show sa+na+(q-na)=sa+q by lia];exact hy)
 have qJ:∀r,r<nb->∀z,(arrOf st)[sa+na+r]? = some z->blt z (arrOf st)[sa+na]=false:=λr hr z hz'=>ab 0 r (Nat.zero_le _) hr _ z (by rw[Nat.add_zero];exact eb) hz'
 dsimp only
 refine w_ite (λc1=>?_) (λc1=>?_)
 ·have c1':k=na:=by
   have:=beq_iff_eq.mp c1
   lia
  refine wpS_pure (hq _ _ (ck.refl _ _ _) (joined λq hq y hy r hr z hz'=>?_))
  exact O.tr _ _ _ (hS.at hy) (hS.at eb) (hS.at hz') (below q LI y hy) (qJ r hr z hz')
 have kn:k<na:=by
  have:¬na-k=0:=λz=>c1 (beq_iff_eq.mpr z)
  lia
 have el:=aB (show sa+k+(na-k)-1<(arrOf st).size by lia)
 have An:∀q,q<na->∀y,(arrOf st)[sa+q]? = some y->blt (arrOf st)[sa+k+(na-k)-1] y=false:=λq hq y hy=>aa q (na-1) LI LI y _ hy (by rw[show sa+(na-1)=sa+k+(na-k)-1 by lia];exact el)
 refine wpS_bind (cR el (wpS_bind (iF (left:=true) (X:=λq=>((arrOf st)[sa+na+q]?).getD (arrOf st)[sa+na]) O C hk (λq hq=>?_) (λq hq=>?_) (hS.at el) (λp q hpq hq=>?_) LI λk2 k21 q1 q2=>?_)))
 ·rw[aB (show sa+na+q<(arrOf st).size by lia)];rfl
 ·rw[aB (show sa+na+q<(arrOf st).size by lia)];exact hS.at (aB (show sa+na+q<(arrOf st).size by lia))
 ·rw[aB (show sa+na+p<(arrOf st).size by lia),aB (show sa+na+q<(arrOf st).size by lia)]
  exact ab p q hpq hq _ _ (aB (show sa+na+p<(arrOf st).size by lia)) (aB (show sa+na+q<(arrOf st).size by lia))
 have under:∀r,r<k2->∀z,(arrOf st)[sa+na+r]? = some z->blt z (arrOf st)[sa+k+(na-k)-1]=true:=λr hr z hz'=>by
  have:=q1 r hr
  rw[hz']at this
  simpa using this
 have over:∀r,k2<=r->r<nb->∀z,(arrOf st)[sa+na+r]? = some z->blt z (arrOf st)[sa+k+(na-k)-1]=false:=λr hr hr2 z hz'=>by
  have:=q2 r hr hr2
  rw[hz']at this
  simpa using this
 dsimp only
 refine w_ite (λc2=>?_) (λc2=>?_)
 ·have WS:k2=0:=beq_iff_eq.mp c2
  refine wpS_pure (hq _ _ (ck.refl _ _ _) (joined λq hq y hy r hr z hz'=>?_))
  exact O.tr _ _ _ (hS.at hy) (hS.at el) (hS.at hz') (An q hq y hy) (over r LI hr z hz')
 have k2n:1<=k2:=by
  have:¬k2=0:=λz=>c2 (beq_iff_eq.mpr z)
  lia
 have zx:sa+na<=(arrOf st).size:=by lia
 have zy:sa+na+k2<=(arrOf st).size:=by lia
 have sx:(((arrOf st).extract (sa+k) (sa+na))).size=na-k:=by rw[gi zx];lia
 have sy:(((arrOf st).extract (sa+na) (sa+na+k2))).size=k2:=by rw[gi zy];lia
 have Sx:∀x∈((arrOf st).extract (sa+k) (sa+na)).toList,S x:=λx hx=>let⟨q,_,e⟩:=mh zx hx;hS.at e
 have Sy:∀x∈((arrOf st).extract (sa+na) (sa+na+k2)).toList,S x:=λx hx=>let⟨q,_,e⟩:=mh zy hx;hS.at e
 have Xq:qZ blt ((arrOf st).extract (sa+k) (sa+na)).toList:=aa.JG LI LI zx
 have Xp:qZ blt ((arrOf st).extract (sa+na) (sa+na+k2)).toList:=ab.JG LI LI zy
 have Zg:((arrOf st).extract (sa+k) (sa+na))[0]? = some (arrOf st)[sa+k]:=by rw[ext_get zx LI,Nat.add_zero];exact aB _
 have Ze:((arrOf st).extract (sa+na) (sa+na+k2))[0]? = some (arrOf st)[sa+na]:=by rw[ext_get zy LI,Nat.add_zero];exact eb
 have Zf:((arrOf st).extract (sa+k) (sa+na))[((arrOf st).extract (sa+k) (sa+na)).size-1]? = some (arrOf st)[sa+k+(na-k)-1]:=by rw[sx,ext_get zx LI,show sa+k+(na-k-1)=sa+k+(na-k)-1 by lia];exact el
 have h0:blt (arrOf st)[sa+na] (arrOf st)[sa+k]=true:=above k (Nat.le_refl _) kn _ (aB _)
 have hl:∀y∈((arrOf st).extract (sa+na) (sa+na+k2)).toList,blt (arrOf st)[sa+k+(na-k)-1] y=false:=λy hy=>by
  obtain⟨q,hq1,e⟩:=mh zy hy
  exact O.yS _ _ (hS.at e) (hS.at el) (under q LI y e)
 have done:∀m g,Good blt (((arrOf st).extract (sa+k) (sa+na)).toList++((arrOf st).extract (sa+na) (sa+na+k2)).toList) m->Q true (gy st (wb (arrOf st) m (sa+k)) P g):=by
  intro m g gd
  have ms:m.size=na-k+k2:=by
   have:=gd.perm.length_eq
   rw[List.length_append,Array.length_toList,Array.length_toList,Array.length_toList,sx,sy]at this
   exact this
  have Yv:sa+k+m.size<=(arrOf st).size:=by lia
  have ej:((arrOf st).extract (sa+k) (sa+k+m.size)).toList=((arrOf st).extract (sa+k) (sa+na)).toList++((arrOf st).extract (sa+na) (sa+na+k2)).toList:=by
   rw[ext_toList,ext_toList,ext_toList,ms]
   rw[show sa+k+(na-k+k2)-(sa+k)=na-k+k2 by lia,show sa+na-(sa+k)=na-k by lia,Nat.add_sub_cancel_left]
   have:=iT ((arrOf st).toList.drop (sa+k)) (i:=na-k) (n:=na-k+k2) LI
   rw[this,List.drop_drop,Nat.add_sub_cancel_left,show sa+k+(na-k)=sa+na by lia]
  have kp:=GS (xs:=arrOf st) (m:=m) (o:=sa+k) Yv (by rw[ej];exact gd.perm)
  refine hq _ g (kp.mono (show sa<=sa+k by lia) (show sa+k+m.size<=sa+na+nb by lia)) λp q hpq hq' x y hx hy=>?_
  have mm:∀t u,m[t]? = some u->(∃r,k<=r/\r<na/\(arrOf st)[sa+r]? = some u)\/∃r,r<k2/\(arrOf st)[sa+na+r]? = some u:=λt u hu=>by
   have h1:=gd.perm.mem_iff.mp (List.mem_of_getElem? (aE hu))
   rcases List.mem_append.mp h1 with h1|h1
   ·obtain⟨r,hr,e⟩:=mh zx h1
    exact .inl ⟨k+r,by lia,by lia,by rw[show sa+(k+r)=sa+k+r by lia];exact e⟩
   ·obtain⟨r,hr,e⟩:=mh zy h1
    exact .inr ⟨r,by lia,e⟩
  rw[CH Yv]at hx hy
  by_cases c3:sa+k<=sa+p/\sa+p<sa+k+m.size
  ·rw[if_pos c3]at hx
   by_cases c4:sa+k<=sa+q/\sa+q<sa+k+m.size
   ·rw[if_pos c4]at hy
    have sm:∀z∈m.toList,S z:=λz hz'=>by
     have:=gd.perm.mem_iff.mp hz'
     rcases List.mem_append.mp this with h1|h1
     ·exact Sx z h1
     ·exact Sy z h1
    exact kh O gd.JG sm (aE hx) (aE hy) LI
   ·rw[if_neg c4]at hy
    have QA:(arrOf st)[sa+na+(q-na)]? = some y:=by rw[show sa+na+(q-na)=sa+q by lia];exact hy
    rcases mm _ x hx with⟨r,r1,r2,er⟩|⟨r,r1,er⟩
    ·exact O.tr _ _ _ (hS.at er) (hS.at el) (hS.at hy) (An r r2 x er) (over (q-na) LI LI y QA)
    ·exact ab r (q-na) LI LI x y er QA
  ·rw[if_neg c3]at hx
   by_cases c4:sa+k<=sa+q/\sa+q<sa+k+m.size
   ·rw[if_pos c4]at hy
    rcases mm _ y hy with⟨r,r1,r2,er⟩|⟨r,r1,er⟩
    ·exact aa p r LI r2 x y hx er
    ·exact O.tr _ _ _ (hS.at hx) (hS.at eb) (hS.at er) (below p LI x hx) (qJ r LI y er)
   ·rw[if_neg c4]at hy
    by_cases c5:q<k
    ·exact aa p q hpq LI x y hx hy
    ·have QA:(arrOf st)[sa+na+(q-na)]? = some y:=by rw[show sa+na+(q-na)=sa+q by lia];exact hy
     by_cases c6:p<k
     ·exact O.tr _ _ _ (hS.at hx) (hS.at eb) (hS.at hy) (below p c6 x hx) (qJ (q-na) LI y QA)
     ·exact ab (p-na) (q-na) LI LI x y (by rw[show sa+na+(p-na)=sa+p by lia];exact hx) QA
 have Yr:(failedOf st).isNone=true:=by rw[hf];rfl
 refine w_ite (λ_=>?_) (λ_=>?_)
 ·refine wpS_bind (AJ O C (st:=gy st (arrOf st) P (gallopOf st)) hk Sx Sy Xq Xp Zg Ze Zf h0 hl λm g gd=>?_)
  refine wpS_bind (wpS_modify (wpS_bind (wpS_get (wpS_pure ?_))))
  show Q (failedOf st).isNone _
  rw[Yr]
  exact done m g gd
 ·refine wpS_bind (AK O C (st:=gy st (arrOf st) P (gallopOf st)) hk Sx Sy Xq Xp Zg Ze Zf h0 hl λm g gd=>?_)
  refine wpS_bind (wpS_modify (wpS_bind (wpS_get (wpS_pure ?_))))
  show Q (failedOf st).isNone _
  rw[Yr]
  exact done m g gd
end
def jf(blt:Keyed->Keyed->Bool)(xs:Array Keyed):Nat->List (Nat×Nat)->Nat->Prop
 |k,[],lo=>k=lo
 |k,e::r,lo=>e.1=k/\1<=e.2/\iE blt xs k e.2/\jf blt xs (k+e.2) r lo
def qp(e:Nat×Nat×Nat):Nat×Nat:=(e.1,e.2.1)
theorem iE.mD{blt:Keyed->Keyed->Bool}{xs ys:Array Keyed}{lo hi k n:Nat}(h:iE blt xs k n)(kp:ck xs ys lo hi)(ho:k+n<=lo\/hi<=k):iE blt ys k n:=λi j hij hj x y hx hy=>by
 rw[kp.out (k+i) LI]at hx
 rw[kp.out (k+j) LI]at hy
 exact h i j hij hj x y hx hy
theorem jf.len{blt:Keyed->Keyed->Bool}{xs:Array Keyed}:∀{l:List (Nat×Nat)}{k lo:Nat},jf blt xs k l lo->k+l.length<=lo
 |[],k,lo,h=>by
  have:k=lo:=h
  simp[this]
 |e::r,k,lo,⟨_,h2,_,h4⟩=>by
  have:=jf.len h4
  rw[List.length_cons]
  lia
theorem jf.snoc{blt:Keyed->Keyed->Bool}{xs:Array Keyed}{n:Nat}(hn:1<=n):∀{l:List (Nat×Nat)}{k lo:Nat},jf blt xs k l lo->iE blt xs lo n->jf blt xs k (l++[(lo,n)]) (lo+n)
 |[],k,lo,h,a=>by
  have e:k=lo:=h
  subst e
  exact⟨rfl,hn,a,rfl⟩
 |e::r,k,lo,⟨h1,h2,h3,h4⟩,a=>⟨h1,h2,h3,jf.snoc hn h4 a⟩
theorem jf.beyond{blt:Keyed->Keyed->Bool}{xs ys:Array Keyed}{a b:Nat}(kp:ck xs ys a b):∀{l:List (Nat×Nat)}{k lo:Nat},jf blt xs k l lo->lo<=a->jf blt ys k l lo
 |[],k,lo,h,_=>h
 |e::r,k,lo,⟨h1,h2,h3,h4⟩,ha=>by
  have:=jf.len h4
  exact⟨h1,h2,h3.mD kp (.inl LI),jf.beyond kp h4 ha⟩
theorem jf.behind{blt:Keyed->Keyed->Bool}{xs ys:Array Keyed}{a b:Nat}(kp:ck xs ys a b):∀{l:List (Nat×Nat)}{k lo:Nat},jf blt xs k l lo->b<=k->jf blt ys k l lo
 |[],k,lo,h,_=>h
 |e::r,k,lo,⟨h1,h2,h3,h4⟩,ha=>⟨h1,h2,h3.mD kp (.inr ha),jf.behind kp h4 LI⟩
theorem jf.two{blt:Keyed->Keyed->Bool}{xs:Array Keyed}{a b:Nat×Nat}{l2:List (Nat×Nat)}:∀{l1:List (Nat×Nat)}{k lo:Nat},jf blt xs k (l1++a::b::l2) lo->
  b.1=a.1+a.2/\1<=a.2/\1<=b.2/\iE blt xs a.1 a.2/\iE blt xs b.1 b.2/\a.1+a.2+b.2<=lo/\
  ∀ys,ck xs ys a.1 (a.1+a.2+b.2)->iE blt ys a.1 (a.2+b.2)->jf blt ys k (l1++(a.1,a.2+b.2)::l2) lo
 |[],k,lo,⟨h1,h2,h3,h4,h5,h6,h7⟩=>by
  have hl:=jf.len h7
  subst h1
  refine⟨h4,h2,h5,h3,by rw[h4];exact h6,by lia,λys kp as=>⟨rfl,by simp only;lia,as,?_⟩⟩
  have e:a.1+(a.2+b.2)=a.1+a.2+b.2:=by lia
  show jf blt ys (a.1+(a.2+b.2)) l2 lo
  rw[e]
  exact h7.behind kp (Nat.le_refl _)
 |e::r,k,lo,⟨h1,h2,h3,h4⟩=>by
  obtain⟨g1,g2,g3,g4,g5,g6,g7⟩:=jf.two (l1:=r) h4
  refine⟨g1,g2,g3,g4,g5,g6,λys kp as=>⟨h1,h2,h3.mD kp (.inl ?_),g7 ys kp as⟩⟩
  have:∀{r:List (Nat×Nat)}{k lo:Nat},jf blt xs k (r++a::b::l2) lo->k<=a.1:=by
   intro r
   induction r with
   |nil=>intro k lo h;exact Nat.le_of_eq h.1.symm
   |cons x r ih=>intro k lo h;have:=ih h.2.2.2;lia
  exact this h4
theorem Jl{p:Array (Nat×Nat×Nat)}{i:Nat}(h:i+1<p.size):∃l1 a b l2,p.toList=l1++a::b::l2/\l1.length=i/\p[i]? = some a/\p[i+1]? = some b:=by
 refine⟨p.toList.take i,p[i],p[i+1],p.toList.drop (i+2),?_,by rw[List.length_take,Array.length_toList];lia,by rw[Array.getElem?_eq_getElem],by rw[Array.getElem?_eq_getElem]⟩
 have e1:p.toList.drop i=p[i]::p.toList.drop (i+1):=by
  rw[List.drop_eq_getElem_cons (by simp;lia)]
  simp
 have e2:p.toList.drop (i+1)=p[i+1]::p.toList.drop (i+2):=by
  rw[List.drop_eq_getElem_cons (by simp;lia)]
  simp
 rw[←e2,←e1,List.take_append_drop]
theorem qV{p:Array (Nat×Nat×Nat)}{i:Nat}{l1 l2:List (Nat×Nat×Nat)}{a b e:Nat×Nat×Nat}(h:p.toList=l1++a::b::l2)(hl:l1.length=i):((p.setIfInBounds i e).eraseIdxIfInBounds (i+1)).toList=l1++e::l2:=by
 obtain⟨p⟩:=p
 have h':p=l1++a::b::l2:=h
 subst h' hl
 simp[List.eraseIdx_append_of_length_le]
theorem qU{p:Array (Nat×Nat×Nat)}{i:Nat}{f:Nat×Nat×Nat->Nat×Nat×Nat}(hf:∀x,qp (f x)=qp x):(p.modify i f).toList.map qp=p.toList.map qp:=by
 apply List.ext_getElem?
 intro k
 rw[List.getElem?_map,List.getElem?_map]
 have e:(p.modify i f).toList[k]? = (p.modify i f)[k]? :=Array.getElem?_toList
 have e2:p.toList[k]? = p[k]? :=Array.getElem?_toList
 rw[e,e2,Array.getElem?_modify]
 split
 ·cases p[k]? with
  |none=>rfl
  |some x=>simp[hf]
 ·rfl
section
variable {prog:Program} {w:World} {A:Around} {E:Value->Shared->Prop} {s:Shared} {κ:SortKind} {S:Keyed->Prop} {blt:Keyed->Keyed->Bool}
theorem xC(O:Ord S blt)(C:AH prog w A E s κ S blt){st:SortSt}{i lo:Nat}{Q:Bool->SortSt->Prop}(hk:kindOf st=κ)(hf:failedOf st=none)(hS:jj S (arrOf st))(hi:i+1<(pendingOf st).size)(hz:lo<=(arrOf st).size)(cv:jf blt (arrOf st) 0 ((pendingOf st).toList.map qp) lo)
  (hq:∀ys P g,ck (arrOf st) ys 0 lo->jf blt ys 0 (P.toList.map qp) lo->P.size+1=(pendingOf st).size->Q true (gy st ys P g)):wpS (model prog w) A E s (mergeAt' i) Q st:=by
 obtain⟨l1,a,b,l2,e,hl,ea,eb⟩:=Jl hi
 rw[e,List.map_append,List.map_cons,List.map_cons]at cv
 obtain⟨g1,g2,g3,g4,g5,g6,g7⟩:=cv.two
 obtain⟨sa,na,pw⟩:=a
 obtain⟨sb,nb,Xz⟩:=b
 simp only[qp]at g1 g2 g3 g4 g5 g6 g7
 subst g1
 refine AL O C hk hf hS ea eb g2 g3 LI g4 g5 λys g kp as=>?_
 refine hq ys _ g (kp.mono (Nat.zero_le _) LI) ?_ ?_
 ·rw[qV e hl,List.map_append,List.map_cons]
  exact g7 ys kp as
 ·have h1:=congrArg List.length (qV (e:=(sa,na+nb,pw)) e hl)
  have h2:=congrArg List.length e
  simp only[List.length_append,List.length_cons,Array.length_toList]at h1 h2
  lia
theorem xB(O:Ord S blt)(C:AH prog w A E s κ S blt){st:SortSt}{Q:Unit->SortSt->Prop}(hk:kindOf st=κ)(hf:failedOf st=none)(hp:pendingOf st= #[])(hS:jj S (arrOf st))
  (hq:∀ys P g,ck (arrOf st) ys 0 (arrOf st).size->iE blt ys 0 (arrOf st).size->Q () (gy st ys P g)):wpS (model prog w) A E s sortRuns' Q st:=by
 refine wpS_bind (wpS_get ?_)
 refine wpS_bind (wpS_mono (Q:=λ(c:Option Unit×Nat) st'=>∃ys P g,st'=gy st ys P g/\c.1=none/\ck (arrOf st) ys 0 (arrOf st).size/\jf blt ys 0 (P.toList.map qp) (arrOf st).size)
  (wpS_forRange (λi (c:Option Unit×Nat) st'=>∃ys P g,st'=gy st ys P g/\c.1=none/\i<=c.2/\c.2<=(arrOf st).size/\ck (arrOf st) ys 0 (arrOf st).size/\jf blt ys 0 (P.toList.map qp) c.2) ?_ ?_ ⟨arrOf st,pendingOf st,gallopOf st,rfl,rfl,Nat.le_refl _,Nat.zero_le _,ck.refl _ _ _,by rw[hp];rfl⟩) ?_)
 ·rintro i ⟨r,lo⟩ st' _ hi ⟨ys,P,g,rfl,rfl,h1,h2,ky,cv⟩
  simp only at h1 h2 cv
  have hi:i<(arrOf st).size:=hi
  refine w_ite (λc1=>?_) (λc1=>?_)
  ·have e:lo=(arrOf st).size:=by
    have:lo≥(arrOf st).size:=c1
    lia
   subst e
   exact wpS_pure ⟨ys,P,g,rfl,rfl,ky,cv⟩
  have hlo:lo<(arrOf st).size:=Nat.lt_of_not_le c1
  have sy:=ky.size
  refine wpS_bind (xD O C (st:=gy st ys P g) hk (hS.keep ky) (show lo+((arrOf st).size-lo)<=ys.size by lia) LI λn GN n1 n2 SW as=>?_)
  have n2:n<=(arrOf st).size-lo:=n2
  have el:lo+((arrOf st).size-lo)=(arrOf st).size:=by lia
  change ck ys GN lo (lo+((arrOf st).size-lo))at SW
  rw[el]at SW
  have Zm:=cv.beyond SW (Nat.le_refl _)
  have SV:=ky.trans (SW.mono (Nat.zero_le _) (Nat.le_refl _))
  have sy2:=SV.size
  refine w_ite (λc2=>?_) (λc2=>?_)
  ·refine wpS_bind (mY ?_)
   have hmin:n<=min ((arrOf st).size-lo) (minRun' (arrOf st).size (arrOf st).size 0):=by
    have:n<minRun' (arrOf st).size (arrOf st).size 0:=c2
    lia
   refine wpS_bind (CK O C (st:=gy st GN P g) (n:=min ((arrOf st).size-lo) (minRun' (arrOf st).size (arrOf st).size 0)) hk (hS.keep SV) (show lo+min ((arrOf st).size-lo) (minRun' (arrOf st).size (arrOf st).size 0)<=GN.size by lia) n1 hmin as λCv Vv Se=>?_)
   change ck GN Cv lo _ at Vv
   have Qn:=SV.trans (Vv.mono (Nat.zero_le _) (show lo+min ((arrOf st).size-lo) (minRun' (arrOf st).size (arrOf st).size 0)<=(arrOf st).size by lia))
   have RW:=Zm.beyond Vv (Nat.le_refl _)
   refine w_ite (λz=>by cases z) (λ_=>?_)
   have PV:1<=min ((arrOf st).size-lo) (minRun' (arrOf st).size (arrOf st).size 0):=by lia
   show wpS _ _ _ _ _ _ (gy st Cv P g)
   refine wpS_bind (wpS_get ?_)
   split
   ·rename_i s1 n1 pw1 _
    dsimp only
    refine wpS_bind (wpS_mono (Q:=λ(c:Option Unit×Unit) st'=>∃zs P2 g2,st'=gy st zs P2 g2/\c.1=none/\ck (arrOf st) zs 0 (arrOf st).size/\jf blt zs 0 (P2.toList.map qp) lo/\iE blt zs lo (min ((arrOf st).size-lo) (minRun' (arrOf st).size (arrOf st).size 0)))
     (wpS_forRange (λ_ (c:Option Unit×Unit) st'=>∃zs P2 g2,st'=gy st zs P2 g2/\c.1=none/\ck (arrOf st) zs 0 (arrOf st).size/\jf blt zs 0 (P2.toList.map qp) lo/\iE blt zs lo (min ((arrOf st).size-lo) (minRun' (arrOf st).size (arrOf st).size 0))) ?_ (λc st' h=>h) ⟨Cv,P,g,rfl,rfl,Qn,RW,Se⟩) ?_)
    ·rintro j ⟨r,u⟩ st' _ hj ⟨zs,P2,g2,rfl,rfl,kz,cz,az⟩
     refine wpS_bind (wpS_get ?_)
     dsimp only
     by_cases c2:P2.size>1
     ·rw[if_pos c2]
      obtain⟨⟨y1,y2,older⟩,ey⟩:∃y,P2[P2.size-2]? = some y:=⟨P2[P2.size-2],by rw[Array.getElem?_eq_getElem]⟩
      rw[ey]
      dsimp only
      refine w_ite (λ_=>?_) (λ_=>?_)
      ·exact wpS_pure ⟨zs,P2,g2,rfl,rfl,kz,cz,az⟩
      refine wpS_bind (xC O C (st:=gy st zs P2 g2) (lo:=lo) hk hf (hS.keep kz) (show P2.size-2+1<P2.size by lia) (show lo<=zs.size by rw[kz.size];lia) cz λus P3 g3 ku cu su=>?_)
      refine w_ite (λz=>by cases z) (λ_=>?_)
      exact wpS_pure ⟨us,P3,g3,rfl,rfl,kz.trans (ku.mono (Nat.le_refl _) (show lo<=(arrOf st).size by lia)),cu,az.mD ku (.inr (Nat.le_refl _))⟩
     ·rw[if_neg c2]
      exact wpS_pure ⟨zs,P2,g2,rfl,rfl,kz,cz,az⟩
    rintro⟨r,u⟩ st' ⟨zs,P2,g2,rfl,e,kz,cz,az⟩
    simp only at e
    subst e
    dsimp only
    refine wpS_bind (wpS_modify ?_)
    have WQ:∀f:Nat×Nat×Nat->Nat×Nat×Nat,(∀x,qp (f x)=qp x)->jf blt zs 0 ((P2.modify (P2.size-1) f).toList.map qp) lo:=λf hf=>by
     rw[qU hf]
     exact cz
    refine wpS_bind (wpS_modify ?_)
    refine wpS_pure ⟨zs,_,g2,rfl,rfl,(show i+1<=lo+(min ((arrOf st).size-lo) (minRun' (arrOf st).size (arrOf st).size 0)) by lia),(show lo+(min ((arrOf st).size-lo) (minRun' (arrOf st).size (arrOf st).size 0))<=(arrOf st).size by lia),kz,?_⟩
    rw[Array.toList_push,List.map_append]
    refine jf.snoc PV (WQ _ ?_) az
    exact λ_=>rfl
   ·refine wpS_bind (wpS_modify ?_)
    refine wpS_pure ⟨Cv,_,g,rfl,rfl,(show i+1<=lo+(min ((arrOf st).size-lo) (minRun' (arrOf st).size (arrOf st).size 0)) by lia),(show lo+(min ((arrOf st).size-lo) (minRun' (arrOf st).size (arrOf st).size 0))<=(arrOf st).size by lia),Qn,?_⟩
    rw[Array.toList_push,List.map_append]
    exact RW.snoc PV Se
  ·skip
   obtain⟨Cv,hxs⟩:∃Cv,Cv=GN:=⟨_,rfl⟩
   obtain⟨n3,YE⟩:∃n3,n3=n:=⟨_,rfl⟩
   have Qn:ck (arrOf st) Cv 0 (arrOf st).size:=by rw[hxs];exact SV
   have RW:jf blt Cv 0 (P.toList.map qp) lo:=by rw[hxs];exact Zm
   have Se:iE blt Cv lo n3:=by rw[hxs,YE];exact as
   have PV:1<=n3:=by lia
   have n32:lo+n3<=(arrOf st).size:=by lia
   show wpS _ _ _ _ _ _ (gy st GN P g)
   rw[←hxs,←YE]
   refine wpS_bind (wpS_get ?_)
   split
   ·rename_i s1 n1 pw1 _
    dsimp only
    refine wpS_bind (wpS_mono (Q:=λ(c:Option Unit×Unit) st'=>∃zs P2 g2,st'=gy st zs P2 g2/\c.1=none/\ck (arrOf st) zs 0 (arrOf st).size/\jf blt zs 0 (P2.toList.map qp) lo/\iE blt zs lo n3)
     (wpS_forRange (λ_ (c:Option Unit×Unit) st'=>∃zs P2 g2,st'=gy st zs P2 g2/\c.1=none/\ck (arrOf st) zs 0 (arrOf st).size/\jf blt zs 0 (P2.toList.map qp) lo/\iE blt zs lo n3) ?_ (λc st' h=>h) ⟨Cv,P,g,rfl,rfl,Qn,RW,Se⟩) ?_)
    ·rintro j ⟨r,u⟩ st' _ hj ⟨zs,P2,g2,rfl,rfl,kz,cz,az⟩
     refine wpS_bind (wpS_get ?_)
     dsimp only
     by_cases c2:P2.size>1
     ·rw[if_pos c2]
      obtain⟨⟨y1,y2,older⟩,ey⟩:∃y,P2[P2.size-2]? = some y:=⟨P2[P2.size-2],by rw[Array.getElem?_eq_getElem]⟩
      rw[ey]
      dsimp only
      refine w_ite (λ_=>?_) (λ_=>?_)
      ·exact wpS_pure ⟨zs,P2,g2,rfl,rfl,kz,cz,az⟩
      refine wpS_bind (xC O C (st:=gy st zs P2 g2) (lo:=lo) hk hf (hS.keep kz) (show P2.size-2+1<P2.size by lia) (show lo<=zs.size by rw[kz.size];lia) cz λus P3 g3 ku cu su=>?_)
      refine w_ite (λz=>by cases z) (λ_=>?_)
      exact wpS_pure ⟨us,P3,g3,rfl,rfl,kz.trans (ku.mono (Nat.le_refl _) (show lo<=(arrOf st).size by lia)),cu,az.mD ku (.inr (Nat.le_refl _))⟩
     ·rw[if_neg c2]
      exact wpS_pure ⟨zs,P2,g2,rfl,rfl,kz,cz,az⟩
    rintro⟨r,u⟩ st' ⟨zs,P2,g2,rfl,e,kz,cz,az⟩
    simp only at e
    subst e
    dsimp only
    refine wpS_bind (wpS_modify ?_)
    have WQ:∀f:Nat×Nat×Nat->Nat×Nat×Nat,(∀x,qp (f x)=qp x)->jf blt zs 0 ((P2.modify (P2.size-1) f).toList.map qp) lo:=λf hf=>by
     rw[qU hf]
     exact cz
    refine wpS_bind (wpS_modify ?_)
    refine wpS_pure ⟨zs,_,g2,rfl,rfl,(show i+1<=lo+n3 by lia),(show lo+n3<=(arrOf st).size by lia),kz,?_⟩
    rw[Array.toList_push,List.map_append]
    refine jf.snoc PV (WQ _ ?_) az
    exact λ_=>rfl
   ·refine wpS_bind (wpS_modify ?_)
    refine wpS_pure ⟨Cv,_,g,rfl,rfl,(show i+1<=lo+n3 by lia),(show lo+n3<=(arrOf st).size by lia),Qn,?_⟩
    rw[Array.toList_push,List.map_append]
    exact RW.snoc PV Se
 ·rintro⟨r,lo⟩ st' ⟨ys,P,g,rfl,rfl,h1,h2,ky,cv⟩
  simp only at h2 cv
  have h1:max 0 (arrOf st).size<=lo:=h1
  have e:lo=(arrOf st).size:=by lia
  subst e
  exact⟨ys,P,g,rfl,rfl,ky,cv⟩
 ·rintro⟨r,lo⟩ st' ⟨ys,P,g,rfl,e,ky,cv⟩
  simp only at e
  subst e
  have hlen:=cv.len
  rw[List.length_map,Array.length_toList]at hlen
  refine wpS_bind (wpS_mono (Q:=λ(c:Option Unit×Unit) st'=>∃ys P g,st'=gy st ys P g/\c.1=none/\ck (arrOf st) ys 0 (arrOf st).size/\jf blt ys 0 (P.toList.map qp) (arrOf st).size/\P.size<=1)
   (wpS_forRange (λi (c:Option Unit×Unit) st'=>∃ys P g,st'=gy st ys P g/\c.1=none/\ck (arrOf st) ys 0 (arrOf st).size/\jf blt ys 0 (P.toList.map qp) (arrOf st).size/\P.size+i<=(arrOf st).size) ?_ ?_ ⟨ys,P,g,rfl,rfl,ky,cv,by lia⟩) ?_)
  ·rintro i ⟨r,u⟩ st' _ hi ⟨ys,P,g,rfl,rfl,ky,cv,hs⟩
   have hi:i<(arrOf st).size:=hi
   refine wpS_bind (wpS_get ?_)
   refine w_ite (λc1=>?_) (λc1=>?_)
   ·exact wpS_pure ⟨ys,P,g,rfl,rfl,ky,cv,c1⟩
   have c1':2<=P.size:=by
    have:¬P.size<=1:=c1
    lia
   refine wpS_bind (xC O C (st:=gy st ys P g) (lo:=(arrOf st).size) hk hf (hS.keep ky) ?_ (Nat.le_of_eq ky.size.symm) cv λzs P2 g2 kz cz sz=>?_)
   ·have key:∀(o:Option Bool),(if o=some true then P.size-2-1 else P.size-2)+1<P.size:=λo=>by split<;>lia
    have Vz:∀(c:Bool),(if c=true then P.size-2-1 else P.size-2)+1<P.size:=λc=>by split<;>lia
    exact Vz _
   ·change P2.size+1=P.size at sz
    refine w_ite (λz=>by cases z) (λ_=>?_)
    exact wpS_pure ⟨zs,P2,g2,rfl,rfl,ky.trans kz,cz,by lia⟩
  ·rintro⟨r,u⟩ st' ⟨ys,P,g,rfl,rfl,ky,cv,hs⟩
   have hs:P.size+max 0 (arrOf st).size<=(arrOf st).size:=hs
   exact⟨ys,P,g,rfl,rfl,ky,cv,by lia⟩
  ·rintro⟨r,u⟩ st' ⟨ys,P,g,rfl,e,ky,cv,hs⟩
   simp only at e
   subst e
   refine wpS_pure (hq ys P g ky ?_)
   cases hP:P.toList with
   |nil=>
    rw[hP]at cv
    have e:0=(arrOf st).size:=cv
    rw[←e]
    exact λi j _ hj=>absurd hj (Nat.not_lt_zero _)
   |cons a r=>
    have hr:r=[]:=by
     have:=congrArg List.length hP
     rw[Array.length_toList,List.length_cons]at this
     exact List.length_eq_zero_iff.mp LI
    subst hr
    rw[hP]at cv
    obtain⟨_,_,h3,h4⟩:=cv
    have e:0+(qp a).2=(arrOf st).size:=h4
    rw[←e,Nat.zero_add]
    exact h3
end
def MX:Nat:=10000001
section
variable {prog:Program} {w:World} {A:Around} {E:Value->Shared->Prop} {s:Shared} {κ:SortKind} {S:Keyed->Prop} {blt:Keyed->Keyed->Bool}
theorem uU(O:Ord S blt)(C:AH prog w A E s κ S blt){st:SortSt}{Q:Unit->SortSt->Prop}(hk:kindOf st=κ)(hf:failedOf st=none)(hp:pendingOf st= #[])(hS:jj S (arrOf st))(_:1<=(arrOf st).size/\(arrOf st).size<MX)
  (hq:∀ys P g,ck (arrOf st) ys 0 (arrOf st).size->iE blt ys 0 (arrOf st).size->Q () (gy st ys P g)):wpS (model prog w) A E s sortRuns' Q st:=xB O C hk hf hp hS hq
end
def Fits(n:Nat):Prop:=n<=10000000/\n<MX
def Kept(h h':Heap)(a:Addr):Prop:=∀b o,b≠a->h.get? b=some o->h'.get? b=some o
section
variable {prog:Program} {w:World} {A:Around} {E:Value->Shared->Prop} {s:Shared} {κ:SortKind} {S:Keyed->Prop} {blt:Keyed->Keyed->Bool}
theorem Gb(h:∀(x y:Keyed)(Q:Bool->Shared->Prop),S x->S y->Q (blt x y) s->wpAny (model prog w) A (keyLt' κ x.1 y.1) Q (λ_ _=>False) s):AH prog w A E s κ S blt:=λx y st Q sx sy hk hq=>by
 rw[lt'_eq];refine wpS_bind (wpS_get ?_);rw[hk]
 exact wpS_bind (wpS_lift (wpAny_attempt (wpAny_mono (h x y (λb s'=>b=blt x y/\s'=s) sx sy ⟨rfl,rfl⟩) (λb s' e=>by obtain⟨rfl,rfl⟩:=e;exact⟨rfl,wpS_pure hq⟩) λ_ _ f=>f.elim)))
theorem Pn{ys:Array Keyed}{n:Nat}(hn:ys.size=n)(h:iE blt ys 0 n):ys.toList.Pairwise λx y=>blt y x=false:=by
 rw[List.pairwise_iff_getElem];intro i j hi hj hij
 have hi':i<ys.size:=by simpa using hi
 have hj':j<ys.size:=by simpa using hj
 refine h i j (Nat.le_of_lt hij) LI _ _ ?_ ?_<;>simp[hi',hj']
theorem Jy(O:Ord S blt){ps:List Keyed}{Q:SortSt->Shared->Prop}(C:AH prog w A E s κ S blt)(hS:∀p∈ps,S p)(hx:1<=ps.length/\ps.length<MX)
  (hq:∀(out:List Keyed)(st:SortSt),arrOf st=out.toArray->failedOf st=none->out.Perm ps->out.Pairwise (λx y=>blt y x=false)->Q st s):
  wpAny (model prog w) A ((sortRuns').run (SortSt.mk' κ ps.toArray #[] 7 none)) (λr s'=>Q r.2 s') E s:=by
 have key:wpS (model prog w) A E s sortRuns' (λ_ st=>Q st s) (SortSt.mk' κ ps.toArray #[] 7 none):=by
  refine uU O C rfl rfl rfl (λp hp=>hS p (by simpa using hp)) (by show 1<=ps.toArray.size/\ps.toArray.size<MX;rw[List.size_toArray];exact hx) λys P g kp as=>?_
  refine hq ys.toList _ (by simp[gy]) rfl ?_ (Pn kp.size as)
  have:=kp.perm.toList
  simpa using this
 exact wpAny_mono key (λr s' e=>by obtain⟨rfl,e⟩:=e;exact e) λ_ _ e=>e
theorem HU{vs:List Value}{out:List Keyed}(hp:out.Perm (vs.zip vs))(hw:out.Pairwise λx y=>blt y x=false):(out.map (·.2)).Perm vs/\(out.map (·.2)).Pairwise λx y=>blt (y,y) (x,x)=false:=by
 have e2:(vs.zip vs).map (·.2)=vs:=List.map_snd_zip (Nat.le_refl _)
 refine⟨by have:=hp.map (·.2);rwa [e2]at this,?_⟩
 rw[List.pairwise_map]
 refine hw.imp_of_mem λ{x y} hx hy h=>?_
 have dx:=mem_zip_self (hp.mem_iff.mp hx)
 have dy:=mem_zip_self (hp.mem_iff.mp hy)
 have ex:x=(x.2,x.2):=Prod.ext dx.1 rfl
 have ey:y=(y.2,y.2):=Prod.ext dy.1 rfl
 rw[ex,ey]at h;exact h
theorem qg(O:Ord S blt){a:Addr}{vs:List Value}{n:Nat}{P:PySem.Fin->Shared->Prop}(ho:s.heap.get? a=some (seqObj "list" vs.toArray n))(Cy:Fits vs.length)(hS:∀v∈vs,S (v,v))
  (hk:2<=vs.length->∀h',Kept s.heap h' a->∀Q:SortKind->Shared->Prop,Q κ {s with heap:=h'}->wpAny (model prog w) A (keyKind' vs.toArray) Q (λ_ _=>False) {s with heap:=h'})
  (hc:2<=vs.length->∀h',Kept s.heap h' a->∀(x y:Keyed)(Q:Bool->Shared->Prop),S x->S y->Q (blt x y) {s with heap:=h'}->wpAny (model prog w) A (keyLt' κ x.1 y.1) Q (λ_ _=>False) {s with heap:=h'})
  (h:∀out:List Value,out.Perm vs->out.Pairwise (λx y=>blt (y,y) (x,x)=false)->P (.done (.ret .none)) {s with heap:=sortedHeap s.heap a vs out.toArray}):
  wpAny (model prog w) A (Builtin.«list.sort» ⟨[.ref a],[]⟩) P E s:=by
 obtain⟨hz,hx⟩:=Cy
 have hl:vs.toArray.size<=sizeLine:=by rw[sizeLine_eq,List.size_toArray];lia
 have ha:=Heap.lt_size ho
 obtain⟨e1,QV⟩:∃e1,(s.heap.update a (Obj.mapSeq λ_=>(#[]:Array Value))).get? a=some (seqObj "list" #[] e1):=⟨_,get?_update_seq ho λ_=> #[]⟩
 rw[list_sort_plain];refine wpAny_bind (listItems_at ho rfl (wpAny_bind (listUpdate_at ho rfl ?_ hl (Nat.zero_le _))))
 refine wpAny_bind (seqEpoch_at QV rfl (wpAny_bind (wpAny_newTuple ?_ (by show vs.length<=_;simpa using hl))))
 refine wpAny_bind (wpAny_newList (wpAny_holding ?_) (Nat.zero_le _))
 show wpAny (model prog w) A _ P E {s with heap:=((s.heap.update a (Obj.mapSeq λ_=>(#[]:Array Value))).push (seqObj "tuple" vs.toArray 0)).push (seqObj "list" #[] 0)}
 have ho6:(((s.heap.update a (Obj.mapSeq λ_=>(#[]:Array Value))).push (seqObj "tuple" vs.toArray 0)).push (seqObj "list" #[] 0)).get? a=some (seqObj "list" #[] e1):=Heap.get?_push_of_some _ (Heap.get?_push_of_some _ QV)
 have kp:Kept s.heap (((s.heap.update a (Obj.mapSeq λ_=>(#[]:Array Value))).push (seqObj "tuple" vs.toArray 0)).push (seqObj "list" #[] 0)) a:=λb o hb e=>Heap.get?_push_of_some _ (Heap.get?_push_of_some _ (by rw[Heap.get?_update_ne _ _ _ _ hb];exact e))
 dsimp only
 have ez:vs.toArray.zip vs.toArray=(vs.zip vs).toArray:=by simp
 by_cases h2:vs.toArray.size<2
 ·rw[if_pos h2,if_pos h2];refine wpAny_bind (wpAny_pure ?_)
  rw[StateT.run_pure];refine wpAny_bind (wpAny_pure ?_);dsimp only
  refine wpAny_bind (seqEpoch_at ho6 rfl (wpAny_bind (listUpdate_at ho6 rfl ?_ (Nat.zero_le _) (hsz2:=by show((vs.toArray.zip vs.toArray).map (·.2)).size<=_;rw[sizeLine_eq];simp;simp at h2;lia))))
  simp only[bne_self_eq_false,Bool.false_eq_true,if_false]
  have hw:vs.Pairwise λx y=>blt (y,y) (x,x)=false:=by
   match vs,h2 with
   |[],_=>exact .nil
   |[_],_=>exact List.pairwise_singleton _ _
   |_::_::_,h2=>simp at h2;lia
  have fin:=h vs (List.Perm.refl _) hw
  have eo:(vs.toArray.zip vs.toArray).map (·.2)=vs.toArray:=by rw[ez,List.map_toArray,List.map_snd_zip (Nat.le_refl _)]
  refine wpAny_pure ?_
  rw[←eo]at fin;exact fin
 ·have h2':2<=vs.length:=by simpa using h2
  rw[if_neg h2,if_neg h2];refine wpAny_bind (wpAny_mono (hk h2' _ kp (λk s'=>k=κ/\s'=_) ⟨rfl,rfl⟩) ?_ λ_ _ f=>f.elim)
  rintro k s' ⟨rfl,rfl⟩
  rw[ez];refine wpAny_bind (wpAny_mono (Jy (E:=E) (Q:=λst s'=>s'=_/\failedOf st=none/\∃out:List Keyed,arrOf st=out.toArray/\out.Perm (vs.zip vs)/\out.Pairwise (λx y=>blt y x=false)) O (Gb (hc h2' _ kp)) (λp hp=>?_) (by rw[List.length_zip,Nat.min_self];exact⟨by lia,hx⟩) λout st a1 a2 a3 a4=>⟨rfl,a2,out,a1,a3,a4⟩) ?_ λ_ _ e=>e)
  ·have:=mem_zip_self hp
   have e:p=(p.1,p.1):=Prod.ext rfl this.1.symm
   rw[e];exact hS _ this.2
  rintro⟨⟨⟩,st⟩ s' ⟨rfl,hf,out,ea,hp,hw⟩
  have⟨p1,p2⟩:=HU hp hw
  have eo:(arrOf st).map (·.2)=(out.map (·.2)).toArray:=by rw[ea,List.map_toArray]
  have lo:(out.map (·.2)).length=vs.length:=p1.length_eq
  dsimp only;refine wpAny_bind (seqEpoch_at ho6 rfl (wpAny_bind (listUpdate_at ho6 rfl ?_ (Nat.zero_le _) (hsz2:=by rw[eo,sizeLine_eq,List.size_toArray,lo];lia))))
  rw[hf];simp only[bne_self_eq_false,Bool.false_eq_true,if_false]
  refine wpAny_pure ?_
  have fin:=h _ p1 p2
  rw[←eo]at fin;exact fin
theorem CJ(O:Ord S blt){l:Addr}{vs:List Value}{Q:Value->Shared->Prop}(hl:s.heap.IsList l vs.toArray)(Cy:Fits vs.length)(hS:∀v∈vs,S (v,v))
  (hk:2<=vs.length->∀h':Heap,(∀b o,s.heap.get? b=some o->h'.get? b=some o)->∀Q:SortKind->Shared->Prop,Q κ {s with heap:=h'}->wpAny (model prog w) A.in1.in1 (keyKind' vs.toArray) Q (λ_ _=>False) {s with heap:=h'})
  (hc:2<=vs.length->∀h':Heap,(∀b o,s.heap.get? b=some o->h'.get? b=some o)->∀(x y:Keyed)(Q:Bool->Shared->Prop),S x->S y->Q (blt x y) {s with heap:=h'}->wpAny (model prog w) A.in1.in1 (keyLt' κ x.1 y.1) Q (λ_ _=>False) {s with heap:=h'})
  (h:∀out:List Value,out.Perm vs->out.Pairwise (λx y=>blt (y,y) (x,x)=false)->Q (.ref (s.heap.objs.size+1)) {s with heap:=sortedAll s.heap vs out.toArray}):
  wpAny (model prog w) A (call (.builtin "sorted") [.ref l]) Q E s:=by
 have lI:vs.length<=sizeLine:=by have:=Cy.1;rw[sizeLine_eq];lia
 refine Calls.call_function_entry kind_sorted plain_sorted entry_sorted (args_sorted1 _) ?_
 unfold Builtin.«sorted»;refine wpAny_bind (m:=checkCount "sorted" 1 1 _) (wpAny_pure (wpAny_bind (collect_list hl (wpAny_bind (wpAny_newList ?_ lI)) lI)))
 have sz:((s.heap.push (seqObj "list" #[] 0)).update s.heap.objs.size (Obj.mapSeq (· ++ vs.toArray))).objs.size=s.heap.objs.size+1:=by rw[Heap.size_update,size_push']
 have Ft:(((s.heap.push (seqObj "list" #[] 0)).update s.heap.objs.size (Obj.mapSeq (· ++ vs.toArray))).push (seqObj "list" vs.toArray 0)).get? (s.heap.objs.size+1)=some (seqObj "list" vs.toArray 0):=by rw[←sz];exact Heap.get?_push_size _ rfl
 have keep:∀b o,s.heap.get? b=some o->b≠s.heap.objs.size+1/\(((s.heap.push (seqObj "list" #[] 0)).update s.heap.objs.size (Obj.mapSeq (· ++ vs.toArray))).push (seqObj "list" vs.toArray 0)).get? b=some o:=λb o q=>by
  have lt:b<s.heap.objs.size:=Heap.lt_size q
  refine⟨Nat.ne_of_lt (Nat.lt_succ_of_lt lt),Heap.get?_push_of_some _ ?_⟩
  rw[Heap.get?_update_ne _ _ _ _ (Nat.ne_of_lt lt)];exact Heap.get?_push_of_some _ q
 show wpAny _ _ _ _ _ {s with heap:=((s.heap.push (seqObj "list" #[] 0)).update s.heap.objs.size (Obj.mapSeq (· ++ vs.toArray))).push (seqObj "list" vs.toArray 0)}
 rw[sz];refine wpAny_bind (wpAny_holding (wpAny_call_entry slot_list_sort ⟨_,Ft,rfl⟩ entry_list_sort ?body (args_list_sort _)))
 case body=>
  refine qg O Ft Cy hS (λh2 h' kp=>hk h2 h' λb o e=>kp b o (keep b o e).1 (keep b o e).2) (λh2 h' kp=>hc h2 h' λb o e=>kp b o (keep b o e).1 (keep b o e).2) λout p1 p2=>⟨_,rfl,wpAny_pure ⟨_,rfl,?_⟩⟩
  exact h out p1 p2
end
end TS
namespace L2
open PySem PySem.Spec PyProof.Rows
inductive Sh where
 |int|str|tup(l:List Sh)
mutual
def Dv.isA:Sh->Dv->Bool
 |.int,.int _=>true
 |.str,.str _=>true
 |.tup l,.tup r=>Dv.gB l r
 |_,_=>false
def Dv.gB:List Sh->List Dv->Bool
 |[],[]=>true
 |s::l,d::r=>Dv.isA s d&&Dv.gB l r
 |_,_=>false
end
mutual
def aV:Dv->Dv->Ordering
 |.int i,.int j=>if i=j then .eq else if i<j then .lt else .gt
 |.str x,.str y=>if x=y then .eq else if x.cps.toList<y.cps.toList then .lt else .gt
 |.tup l,.tup r=>dB l r
 |_,_=>.eq
def dB:List Dv->List Dv->Ordering
 |[],[]=>.eq
 |[],_::_=>.lt
 |_::_,[]=>.gt
 |d::l,e::r=>(aV d e).then (dB l r)
end
theorem cE{d:Dv}(h:Dv.isA .int d=true):∃i,d=.int i:=by
 cases d with
 |int i=>exact⟨i,rfl⟩
 |_=>simp[Dv.isA]at h
theorem cD{d:Dv}(h:Dv.isA .str d=true):∃i,d=.str i:=by
 cases d with
 |str i=>exact⟨i,rfl⟩
 |_=>simp[Dv.isA]at h
theorem dc{l:List Sh}{d:Dv}(h:Dv.isA (.tup l) d=true):∃r,d=.tup r/\Dv.gB l r=true:=by
 cases d with
 |tup r=>exact⟨r,rfl,by simpa [Dv.isA]using h⟩
 |_=>simp[Dv.isA]at h
theorem c_{r:List Dv}(h:Dv.gB [] r=true):r=[]:=by
 cases r with
 |nil=>rfl
 |cons _ _=>simp[Dv.gB]at h
theorem bx{s:Sh}{l:List Sh}{r:List Dv}(h:Dv.gB (s::l) r=true):∃d r',r=d::r'/\Dv.isA s d=true/\Dv.gB l r'=true:=by
 cases r with
 |nil=>simp[Dv.gB]at h
 |cons d r'=>
  simp only[Dv.gB,Bool.and_eq_true]at h
  exact⟨d,r',rfl,h⟩
theorem Hj{x y:Str}(h:x.cps.toList=y.cps.toList):x=y:=by
 cases x;cases y
 simp only[Str.mk.injEq]
 exact Array.toList_inj.mp h
theorem zq{x y:Str}(h:x≠y)(h1:¬x.cps.toList<y.cps.toList):y.cps.toList<x.cps.toList:=by
 by_cases h2:y.cps.toList<x.cps.toList
 ·exact h2
 ·exact absurd (Hj (List.le_antisymm (List.not_lt.mp h2) (List.not_lt.mp h1))) h
theorem Hl{x y:Str}(h:x.cps.toList<y.cps.toList):¬y.cps.toList<x.cps.toList:=λh'=>List.lt_irrefl _ (List.lt_trans h h')
mutual
theorem jC:∀{sh:Sh}{d e:Dv},Dv.isA sh d=true->Dv.isA sh e=true->(aV d e=.eq↔d=e)
 |.int,d,e,hd,he=>by
  obtain⟨i,rfl⟩:=cE hd
  obtain⟨j,rfl⟩:=cE he
  simp only[aV,Dv.int.injEq]
  split
  ·simp[*]
  ·split<;>simp[*]
 |.str,d,e,hd,he=>by
  obtain⟨i,rfl⟩:=cD hd
  obtain⟨j,rfl⟩:=cD he
  simp only[aV,Dv.str.injEq]
  split
  ·simp[*]
  ·split<;>simp[*]
 |.tup l,d,e,hd,he=>by
  obtain⟨r,rfl,hr⟩:=dc hd
  obtain⟨q,rfl,hq⟩:=dc he
  simp only[aV,Dv.tup.injEq]
  exact AD hr hq
theorem AD:∀{l:List Sh}{r q:List Dv},Dv.gB l r=true->Dv.gB l q=true->(dB r q=.eq↔r=q)
 |[],r,q,hr,hq=>by
  rw[c_ hr,c_ hq]
  simp[dB]
 |s::l,r,q,hr,hq=>by
  obtain⟨d,r',rfl,h1,h2⟩:=bx hr
  obtain⟨e,q',rfl,h3,h4⟩:=bx hq
  have a:=jC h1 h3
  have b:=AD h2 h4
  simp only[dB,List.cons.injEq]
  cases hc:aV d e with
  |eq=>
   rw[hc]at a
   simp only[Ordering.then,true_iff]at a ⊢
   rw[b]
   simp[a]
  |lt=>
   rw[hc]at a
   simp only[Ordering.then,reduceCtorEq,false_iff]at a ⊢
   simp[a]
  |gt=>
   rw[hc]at a
   simp only[Ordering.then,reduceCtorEq,false_iff]at a ⊢
   simp[a]
end
mutual
theorem cmp_swap:∀{sh:Sh}{d e:Dv},Dv.isA sh d=true->Dv.isA sh e=true->aV e d=(aV d e).swap
 |.int,d,e,hd,he=>by
  obtain⟨i,rfl⟩:=cE hd
  obtain⟨j,rfl⟩:=cE he
  simp only[aV]
  by_cases h:i=j
  ·subst h;simp
  ·rw[if_neg h,if_neg (λz=>h z.symm)]
   by_cases h1:i<j
   ·rw[if_pos h1,if_neg LI];rfl
   ·rw[if_neg h1,if_pos LI];rfl
 |.str,d,e,hd,he=>by
  obtain⟨i,rfl⟩:=cD hd
  obtain⟨j,rfl⟩:=cD he
  simp only[aV]
  by_cases h:i=j
  ·subst h;simp
  ·rw[if_neg h,if_neg (λz=>h z.symm)]
   by_cases h1:i.cps.toList<j.cps.toList
   ·rw[if_pos h1,if_neg (Hl h1)];rfl
   ·rw[if_neg h1,if_pos (zq h h1)];rfl
 |.tup l,d,e,hd,he=>by
  obtain⟨r,rfl,hr⟩:=dc hd
  obtain⟨q,rfl,hq⟩:=dc he
  simp only[aV]
  exact tD hr hq
theorem tD:∀{l:List Sh}{r q:List Dv},Dv.gB l r=true->Dv.gB l q=true->dB q r=(dB r q).swap
 |[],r,q,hr,hq=>by
  rw[c_ hr,c_ hq]
  rfl
 |s::l,r,q,hr,hq=>by
  obtain⟨d,r',rfl,h1,h2⟩:=bx hr
  obtain⟨e,q',rfl,h3,h4⟩:=bx hq
  simp only[dB]
  rw[cmp_swap h1 h3,tD h2 h4]
  cases aV d e<;>rfl
end
mutual
theorem Ga:∀{sh:Sh}{d e f:Dv},Dv.isA sh d=true->Dv.isA sh e=true->Dv.isA sh f=true->aV d e≠.gt->aV e f≠.gt->aV d f≠.gt
 |.int,d,e,f,hd,he,hf,h1,h2=>by
  obtain⟨i,rfl⟩:=cE hd
  obtain⟨j,rfl⟩:=cE he
  obtain⟨k,rfl⟩:=cE hf
  simp only[aV]at h1 h2 ⊢
  by_cases a:i=k
  ·simp[a]
  ·rw[if_neg a]
   by_cases b:i<k
   ·simp[b]
   ·exfalso
    have KR:i<=j:=by
     by_cases c:i<=j
     ·exact c
     ·rw[if_neg LI,if_neg LI]at h1;exact absurd rfl h1
    have h2':j<=k:=by
     by_cases c:j<=k
     ·exact c
     ·rw[if_neg LI,if_neg LI]at h2;exact absurd rfl h2
    lia
 |.str,d,e,f,hd,he,hf,h1,h2=>by
  obtain⟨i,rfl⟩:=cD hd
  obtain⟨j,rfl⟩:=cD he
  obtain⟨k,rfl⟩:=cD hf
  simp only[aV]at h1 h2 ⊢
  by_cases a:i=k
  ·simp[a]
  ·rw[if_neg a]
   by_cases b:i.cps.toList<k.cps.toList
   ·simp[b]
   ·exfalso
    have ki:=zq a b
    by_cases p:i=j
    ·subst p
     rw[if_neg a,if_neg b]at h2
     exact absurd rfl h2
    ·by_cases q:j=k
     ·subst q
      rw[if_neg p,if_neg b]at h1
      exact absurd rfl h1
     ·rw[if_neg p]at h1
      rw[if_neg q]at h2
      by_cases p1:i.cps.toList<j.cps.toList
      ·by_cases q1:j.cps.toList<k.cps.toList
       ·exact b (List.lt_trans p1 q1)
       ·rw[if_neg q1]at h2;exact absurd rfl h2
      ·rw[if_neg p1]at h1;exact absurd rfl h1
 |.tup l,d,e,f,hd,he,hf,h1,h2=>by
  obtain⟨r,rfl,hr⟩:=dc hd
  obtain⟨q,rfl,hq⟩:=dc he
  obtain⟨p,rfl,hp⟩:=dc hf
  simp only[aV]at h1 h2 ⊢
  exact AB hr hq hp h1 h2
theorem AB:∀{l:List Sh}{r q p:List Dv},Dv.gB l r=true->Dv.gB l q=true->Dv.gB l p=true->dB r q≠.gt->dB q p≠.gt->dB r p≠.gt
 |[],r,q,p,hr,hq,hp,_,_=>by
  rw[c_ hr,c_ hp]
  simp[dB]
 |s::l,r,q,p,hr,hq,hp,h1,h2=>by
  obtain⟨d,r',rfl,a1,a2⟩:=bx hr
  obtain⟨e,q',rfl,b1,b2⟩:=bx hq
  obtain⟨f,p',rfl,c1,c2⟩:=bx hp
  simp only[dB]at h1 h2 ⊢
  have n1:aV d e≠.gt:=λz=>by rw[z]at h1;exact h1 rfl
  have n2:aV e f≠.gt:=λz=>by rw[z]at h2;exact h2 rfl
  have n3:=Ga a1 b1 c1 n1 n2
  cases hc:aV d f with
  |lt=>simp[Ordering.then]
  |gt=>exact absurd hc n3
  |eq=>
   have e3:=(jC a1 c1).mp hc
   subst e3
   have e1:aV d e=.eq:=by
    have sw:=cmp_swap a1 b1
    cases hx:aV d e with
    |eq=>rfl
    |gt=>exact absurd hx n1
    |lt=>rw[hx]at sw;exact absurd sw n2
   have e2:=(jC a1 b1).mp e1
   subst e2
   rw[hc]at h1 h2
   simp only[Ordering.then]at h1 h2 ⊢
   exact AB a2 b2 c2 h1 h2
end
def Jo(A:Around)(s:Shared)(y x:Value)(b:Bool):Prop:=
 ∀(prog:Program)(w:World)(E:Value->Shared->Prop)(Q:Value->Shared->Prop),Q (.bool b) s->wpAny (model prog w) A (richCompare .Lt y x) Q E s
inductive GK(A:Around)(s:Shared):List Value->List Value->Bool->Prop
 |nn:GK A s [] [] false
 |nc{y:Value}{ys:List Value}:GK A s [] (y::ys) true
 |cn{x:Value}{xs:List Value}:GK A s (x::xs) [] false
 |eq{x y:Value}{xs ys:List Value}{b:Bool}:SeqAt.EqAt A s x y true->GK A s xs ys b->GK A s (x::xs) (y::ys) b
 |ne{x y:Value}{xs ys:List Value}{b:Bool}:SeqAt.EqAt A s x y false->Jo A s x y b->GK A s (x::xs) (y::ys) b
end L2
namespace HT
open PySem PyProof.Rows
section
open PySem.SeqAt
open PySem.AutoSeq1 (wpAny_loadPart')
open PySem.MeetsSeq PySem.MeetsSeq2 PySem.MeetsSeq3
theorem tT(l b:Addr)(items items2:Array Value)(n n2:Nat)(dd dd2:Option Addr)(sl sl2:Array (Option Value))(k:Bool):
  Meets (Builtin.«tuple.__lt__» ⟨[.ref l,.ref b],[]⟩)
   (λA R s=>L2.GK A.in1 s items.toList items2.toList k/\s.heap.get? l=some {cls:=.type "tuple",dict:=dd,data:=.seq items n,slots:=sl}/\s.heap.get? b=some {cls:=.type "tuple",dict:=dd2,data:=.seq items2 n2,slots:=sl2}/\
    R (.ok (.ret (.bool k))) s):=.of_wp λprog w A R s h=>by
 obtain⟨hp,g,d,tk,os⟩:=s;obtain⟨hL,hl,hb,h⟩:=h
 have f2:=AutoSeq1.sub_tuple_tuple
 wp_walk using wpAny_loadPart' hl,wpAny_loadPart' hb,wpAny_forIn_list _ (λrest b s'=>b.1=none/\s'=⟨hp,g,d,tk,os⟩/\∃(vs ws:List Value),rest=vs.zip ws/\L2.GK A.in1 ⟨hp,g,d,tk,os⟩ vs ws k/\vs.length+items2.size=ws.length+items.size) _
 case turn=>
  rintro⟨y,x⟩ rest b s' ⟨hb',rfl,vs,ws,hz,hv,hlen⟩
  cases hv with
  |nn=>rw[List.zip_nil_left]at hz;cases hz
  |nc=>rw[List.zip_nil_left]at hz;cases hz
  |cn=>rw[List.zip_nil_right]at hz;cases hz
  |eq he hr=>
   rw[List.zip_cons_cons]at hz;injection hz with hyx hrest;injection hyx with hy hx;subst hy hx
   simp only[List.length_cons]at hlen
   refine wpAny_bind (he prog w _ _ ?_);wp_walk;exact⟨rfl,rfl,_,_,hrest,hr,by lia⟩
  |ne he hr=>
   rw[List.zip_cons_cons]at hz;injection hz with hyx hrest;injection hyx with hy hx;subst hy hx
   refine wpAny_bind (he prog w _ _ ?_);have hri:=hr prog w;wp_walk using hri;exact⟨_,rfl,by simpa using h⟩
 case fin=>
  rintro⟨b1,b2⟩ s' ⟨hb',rfl,vs,ws,hz,hv,hlen⟩
  simp only at hb';subst hb'
  have hk:k=decide (items.size<items2.size):=by
   cases hv with
   |nn=>simp only[List.length_nil]at hlen;exact(decide_eq_false LI).symm
   |nc=>simp only[List.length_nil,List.length_cons]at hlen;exact(decide_eq_true LI).symm
   |cn=>simp only[List.length_nil,List.length_cons]at hlen;exact(decide_eq_false LI).symm
   |eq _ _=>rw[List.zip_cons_cons]at hz;cases hz
   |ne _ _=>rw[List.zip_cons_cons]at hz;cases hz
  rw[hk]at h;wp_walk;exact⟨_,rfl,by simpa [Builtin.Tuple.tupleCompareSizes]using h⟩
 case h=>exact⟨rfl,rfl,items.toList,items2.toList,rfl,hL,by simp only[Array.length_toList];lia⟩
end
theorem BC{A:Around}{s:Shared}{l b:Addr}{items items2:Array Value}{k:Bool}(hl:IsTup s.heap l items)(hb:IsTup s.heap b items2)(hL:L2.GK A.in1 s items.toList items2.toList k)(hu:A.units<cLine):L2.Jo A s (.ref l) (.ref b) k:=λprog w E Q h=>by
 obtain⟨⟨cls,dd,data,sl⟩,ho,hc,n,hd⟩:=id hl
 obtain⟨⟨WR,dd2,data2,sl2⟩,ho2,hc2,n2,hd2⟩:=id hb
 simp only at hc hd hc2 hd2;subst hc hd hc2 hd2
 exact richCompare_meets_room (op:=.Lt) ⟨_,ho,rfl⟩ ⟨_,ho2,rfl⟩ PySem.F.slot_tuple_lt PySem.F.entry_tuple_lt (PySem.F.args_tuple_lt_2 _ _) (tT l b items items2 n n2 dd dd2 sl sl2 k) ⟨hL,ho,ho2,show Value.bool k≠Value.notImplemented/\Q (.bool k) s from⟨(λx=>nomatch x),h⟩⟩ hu
end HT
namespace L2
open PySem PySem.Spec PyProof.Rows
section
variable {X:Cx} {pins:List (Addr×Obj)} {σ:St} {H:Hp} {s:Shared}
mutual
theorem jH:∀{sh:Sh}{d e:Dv},Dv.isA sh d=true->Dv.isA sh e=true->fc d e=true
 |.int,d,e,hd,he=>by
  obtain⟨i,rfl⟩:=cE hd
  obtain⟨j,rfl⟩:=cE he
  rfl
 |.str,d,e,hd,he=>by
  obtain⟨i,rfl⟩:=cD hd
  obtain⟨j,rfl⟩:=cD he
  rfl
 |.tup l,d,e,hd,he=>by
  obtain⟨r,rfl,hr⟩:=dc hd
  obtain⟨q,rfl,hq⟩:=dc he
  simp only[fc]
  exact qW hr hq
theorem qW:∀{l:List Sh}{r q:List Dv},Dv.gB l r=true->Dv.gB l q=true->fN r q=true
 |[],r,q,hr,hq=>by rw[c_ hr,c_ hq];rfl
 |s::l,r,q,hr,hq=>by
  obtain⟨d,r',rfl,h1,h2⟩:=bx hr
  obtain⟨e,q',rfl,h3,h4⟩:=bx hq
  simp only[fN,Bool.and_eq_true]
  exact⟨jH h1 h3,qW h2 h4⟩
end
def isLt:Ordering->Bool
 |.lt=>true
 |_=>false
theorem EI(I:Inv X pins σ H s){n:Nat}{A:Around}(hu:A.units+n<cLine)
  (hl:∀{sh:Sh}{d e:Dv}{x y:V}{u w:Value},d.dep<=n->Dv.isA sh d=true->Dv.isA sh e=true->Dn X.K H x d->Dn X.K H y e->RelV x u->RelV y w->Jo A s u w (isLt (aV d e))):
  ∀{l:List Sh}{ds es:List Dv}{xs ys:List V}{us ws:List Value},Dv.deps ds<=n->Dv.gB l ds=true->Dv.gB l es=true->gf X.K H xs ds->gf X.K H ys es->Vals xs us->Vals ys ws->GK A s us ws (isLt (dB ds es))
 |[],ds,es,xs,ys,us,ws,hd,a1,a2,d1,d2,r1,r2=>by
  rw[c_ a1]at d1 ⊢
  rw[c_ a2]at d2 ⊢
  cases d1;cases d2;cases r1;cases r2
  exact .nn
 |sh::l,ds,es,xs,ys,us,ws,hd,a1,a2,d1,d2,r1,r2=>by
  obtain⟨d,ds',rfl,h1,h2⟩:=bx a1
  obtain⟨e,es',rfl,h3,h4⟩:=bx a2
  cases d1 with
  |cons dx BY=>cases d2 with
   |cons dy GI=>cases r1 with
    |cons rx Bc=>cases r2 with
     |cons ry JU=>
      simp only[Dv.deps]at hd
      obtain⟨b,he,hb⟩:=iW I n (A:=A) (Nat.le_trans (Nat.le_max_left _ _) hd) hu (jH h1 h3) dx dy rx ry
      have hc:=jC h1 h3
      cases b with
      |true=>
       have z:aV d e=.eq:=hc.mpr (hb.mp rfl)
       have rest:=EI I hu hl (Nat.le_trans (Nat.le_max_right _ _) hd) h2 h4 BY GI Bc JU
       have:dB (d::ds') (e::es')=dB ds' es':=by simp only[dB,z,Ordering.then]
       rw[this]
       exact .eq he rest
      |false=>
       have z:aV d e≠.eq:=λq=>by have:=hb.mpr (hc.mp q);cases this
       have:dB (d::ds') (e::es')=aV d e:=by
        simp only[dB]
        cases q:aV d e with
        |eq=>exact absurd q z
        |lt=>rfl
        |gt=>rfl
       rw[this]
       exact .ne he (hl (Nat.le_trans (Nat.le_max_left _ _) hd) h1 h3 dx dy rx ry)
theorem Jc(I:Inv X pins σ H s):∀(n:Nat){A:Around}{sh:Sh}{d e:Dv}{x y:V}{u w:Value},d.dep<=n->A.units+n<cLine->Dv.isA sh d=true->Dv.isA sh e=true->Dn X.K H x d->Dn X.K H y e->RelV x u->RelV y w->
  Jo A s u w (isLt (aV d e)):=by
 intro n
 induction n with
 |zero=>
  intro A sh d e x y u w hd hu a1 a2 dx dy rx ry
  cases sh with
  |int=>
   obtain⟨i,rfl⟩:=cE a1
   obtain⟨j,rfl⟩:=cE a2
   cases dx;cases dy
   obtain⟨t,rfl⟩:=rx
   obtain⟨t',rfl⟩:=ry
   intro prog w' E Q hq
   refine HT.DY A s i t j t' prog w' E Q ?_
   have:isLt (aV (.int i) (.int j))=decide (i<j):=by
    simp only[aV]
    by_cases h:i=j
    ·subst h;simp[isLt]
    ·rw[if_neg h];by_cases h1:i<j<;>simp[h1,isLt]
   rw[this]at hq;exact hq
  |str=>
   obtain⟨i,rfl⟩:=cD a1
   obtain⟨j,rfl⟩:=cD a2
   cases dx;cases dy
   obtain⟨t,rfl⟩:=rx
   obtain⟨t',rfl⟩:=ry
   intro prog w' E Q hq
   refine(lt_str ?_:wpAny (model prog w') A (compareOp .Lt (.str i t) (.str j t')) Q E s)
   have:isLt (aV (.str i) (.str j))=decide (i.cps.toList<j.cps.toList):=by
    simp only[aV]
    by_cases h:i=j
    ·subst h;simp[isLt,List.lt_irrefl]
    ·rw[if_neg h];by_cases h1:i.cps.toList<j.cps.toList<;>simp[h1,isLt]
   rw[this]at hq;exact hq
  |tup l=>
   obtain⟨r,rfl,hr⟩:=dc a1
   simp[Dv.dep]at hd
 |succ n ih=>
  intro A sh d e x y u w hd hu a1 a2 dx dy rx ry
  cases sh with
  |int=>
   obtain⟨i,rfl⟩:=cE a1
   obtain⟨j,rfl⟩:=cE a2
   exact(ih (A:=A) (sh:=.int) (Nat.zero_le _) LI a1 a2 dx dy rx ry)
  |str=>
   obtain⟨i,rfl⟩:=cD a1
   obtain⟨j,rfl⟩:=cD a2
   exact(ih (A:=A) (sh:=.str) (Nat.zero_le _) LI a1 a2 dx dy rx ry)
  |tup l=>
   obtain⟨r,rfl,hr⟩:=dc a1
   obtain⟨q,rfl,hq⟩:=dc a2
   cases dx with
   |tup ha da=>cases dy with
    |tup hb db=>
     cases rx;cases ry
     obtain⟨its,r1,p1,_⟩:=I.tuple ha
     obtain⟨its2,r2,p2,_⟩:=I.tuple hb
     simp only[Dv.dep]at hd
     simp only[aV]
     refine HT.BC p1 p2 ?_ LI
     exact EI I (n:=n) (A:=A.in1) (by rw[in1_units];lia) (λh1 h2 h3 h4 h5 h6 h7=>ih h1 (by rw[in1_units];lia) h2 h3 h4 h5 h6 h7) LI hr hq da db r1 r2
end
def Den(K:Fg7)(H:Hp)(u:Value)(d:Dv):Prop:=∃v,RelV v u/\Dn K H v d
open Classical in
noncomputable def rJ(K:Fg7)(H:Hp)(x y:Keyed):Bool:=decide (∃d e,Den K H x.1 d/\Den K H y.1 e/\aV d e=.lt)
def Gr(K:Fg7)(H:Hp)(sh:Sh)(x:Keyed):Prop:=∃d,Den K H x.1 d/\Dv.isA sh d=true
def Sh.key:Sh->Bool
 |.int=>true
 |.str=>true
 |.tup (.int::_)=>true
 |.tup (.str::_)=>true
 |_=>false
def Sh.kind:Sh->SortKind
 |.tup _=>tuples' true
 |_=>oneType'
mutual
def Sh.dep:Sh->Nat
 |.tup l=>Sh.deps l+1
 |_=>0
def Sh.deps:List Sh->Nat
 |[]=>0
 |d::r=>max (Sh.dep d) (Sh.deps r)
end
mutual
theorem pY:∀{sh:Sh}{d:Dv},Dv.isA sh d=true->d.dep=sh.dep
 |.int,d,h=>by obtain⟨i,rfl⟩:=cE h;rfl
 |.str,d,h=>by obtain⟨i,rfl⟩:=cD h;rfl
 |.tup l,d,h=>by
  obtain⟨r,rfl,hr⟩:=dc h
  simp only[Dv.dep,Sh.dep]
  rw[tN hr]
theorem tN:∀{l:List Sh}{r:List Dv},Dv.gB l r=true->Dv.deps r=Sh.deps l
 |[],r,h=>by rw[c_ h];rfl
 |s::l,r,h=>by
  obtain⟨d,r',rfl,h1,h2⟩:=bx h
  simp only[Dv.deps,Sh.deps]
  rw[pY h1,tN h2]
end
section
variable {X:Cx} {pins:List (Addr×Obj)} {σ:St} {H:Hp} {s:Shared}
theorem DX{K:Fg7}{x y:V}{u:Value}{d e:Dv}(dx:Dn K H x d)(dy:Dn K H y e)(rx:RelV x u)(ry:RelV y u):x=y:=by
 cases dx<;>cases dy<;>first
  |rfl
  |(obtain⟨t,rfl⟩:=rx;obtain⟨t',h⟩:=ry;cases h;done)
  |(obtain⟨t,rfl⟩:=rx;obtain⟨t',h⟩:=ry;cases h;rfl)
  |(obtain⟨t,rfl⟩:=rx;cases ry;done)
  |(obtain⟨t,rfl⟩:=ry;cases rx;done)
  |(cases rx;cases ry;done)
  |(cases rx;cases ry;rfl)
theorem uC(I:Inv X pins σ H s){u:Value}{d e:Dv}(h:Den X.K H u d)(h':Den X.K H u e):d=e:=by
 obtain⟨v,r,n⟩:=h
 obtain⟨v',r',n'⟩:=h'
 have:=DX n n' r r'
 subst this
 exact Dn.inj I n n'
open Classical in
theorem iY(I:Inv X pins σ H s){x y:Keyed}{d e:Dv}(hx:Den X.K H x.1 d)(hy:Den X.K H y.1 e):rJ X.K H x y=isLt (aV d e):=by
 unfold rJ
 by_cases h:aV d e=.lt
 ·rw[h]
  exact decide_eq_true ⟨d,e,hx,hy,h⟩
 ·have:isLt (aV d e)=false:=by
   cases q:aV d e with
   |lt=>exact absurd q h
   |eq=>rfl
   |gt=>rfl
  rw[this]
  refine decide_eq_false λ⟨d',e',hx',hy',h'⟩=>?_
  rw[uC I hx hx',uC I hy hy']at h
  exact h h'
theorem Ir{o:Ordering}(h:isLt o=false):o≠.lt:=λz=>by rw[z]at h;cases h
theorem qt(I:Inv X pins σ H s)(sh:Sh):TS.Ord (Gr X.K H sh) (rJ X.K H)where
 Fd:=λx ⟨d,hd,a⟩=>by
  rw[iY I hd hd,(jC a a).mpr rfl];rfl
 yS:=λx y ⟨d,hd,a⟩ ⟨e,he,b⟩ h=>by
  rw[iY I hd he]at h
  rw[iY I he hd,cmp_swap a b]
  cases q:aV d e with
  |lt=>rfl
  |eq=>rfl
  |gt=>rw[q]at h;cases h
 tr:=λx y z ⟨d,hd,a⟩ ⟨e,he,b⟩ ⟨f,hf,c⟩ h1 h2=>by
  rw[iY I he hd]at h1
  rw[iY I hf he]at h2
  rw[iY I hf hd]
  have n1:aV d e≠.gt:=λq=>by rw[cmp_swap a b,q]at h1;cases h1
  have n2:aV e f≠.gt:=λq=>by rw[cmp_swap b c,q]at h2;cases h2
  have n3:=Ga a b c n1 n2
  rw[cmp_swap a c]
  cases q:aV d f with
  |lt=>rfl
  |eq=>rfl
  |gt=>exact absurd q n3
theorem qN{prog:Program}{w:World}{A:Around}(I:Inv X pins σ H s){sh:Sh}(hk:sh.key=true)(hu:A.units+sh.dep<cLine){x y:Keyed}{Q:Bool->Shared->Prop}(hx:Gr X.K H sh x)(hy:Gr X.K H sh y)(hq:Q (rJ X.K H x y) s):
  wpAny (model prog w) A (keyLt' sh.kind x.1 y.1) Q (λ_ _=>False) s:=by
 obtain⟨d,hd,a⟩:=hx
 obtain⟨e,he,b⟩:=hy
 rw[iY I hd he]at hq
 obtain⟨v,rv,nv⟩:=hd
 obtain⟨v',Pd,US⟩:=he
 cases sh with
 |int=>
  obtain⟨i,rfl⟩:=cE a
  obtain⟨j,rfl⟩:=cE b
  cases nv;cases US
  obtain⟨t,et⟩:=rv
  obtain⟨t',et'⟩:=Pd
  show wpAny (model prog w) A (keyLt' oneType' x.1 y.1) Q _ s
  rw[et,et']
  refine PySem.W.kat_lt_int ?_
  have:isLt (aV (.int i) (.int j))=decide (i<j):=by
   simp only[aV]
   by_cases h:i=j
   ·subst h;simp[isLt]
   ·rw[if_neg h];by_cases h1:i<j<;>simp[h1,isLt]
  rw[this]at hq;exact hq
 |str=>
  obtain⟨i,rfl⟩:=cD a
  obtain⟨j,rfl⟩:=cD b
  cases nv;cases US
  obtain⟨t,et⟩:=rv
  obtain⟨t',et'⟩:=Pd
  show wpAny (model prog w) A (keyLt' oneType' x.1 y.1) Q _ s
  rw[et,et']
  refine PySem.W.kas_lt_str ?_
  have:isLt (aV (.str i) (.str j))=decide (i.cps.toList<j.cps.toList):=by
   simp only[aV]
   by_cases h:i=j
   ·subst h;simp[isLt,List.lt_irrefl]
   ·rw[if_neg h];by_cases h1:i.cps.toList<j.cps.toList<;>simp[h1,isLt]
  rw[this]at hq;exact hq
 |tup l=>
  obtain⟨r,rfl,hr⟩:=dc a
  obtain⟨q,rfl,hq'⟩:=dc b
  cases nv with
  |tup ha da=>cases US with
   |tup hb db=>
    have rv:x.1=Value.ref _:=rv
    have Pd:y.1=Value.ref _:=Pd
    show wpAny (model prog w) A (keyLt' (tuples' true) x.1 y.1) Q _ s
    rw[rv,Pd]
    obtain⟨its,r1,p1,_⟩:=I.tuple ha
    obtain⟨its2,r2,p2,_⟩:=I.tuple hb
    obtain⟨o1,g1,c1,n1,e1⟩:=p1
    obtain⟨o2,g2,c2,n2,e2⟩:=p2
    refine PySem.W.kat_lt g1 e1 g2 e2 ?_
    have hlen:its.length=its2.length:=by
     have z1:=r1.length;have z2:=r2.length;have z3:=da.length;have z4:=db.length
     have z5:∀{l:List Sh}{r:List Dv},Dv.gB l r=true->r.length=l.length:=by
      intro l
      induction l with
      |nil=>intro r h;rw[c_ h];rfl
      |cons s l ih=>intro r h;obtain⟨d,r',rfl,_,h2⟩:=bx h;simp[ih h2]
     have:=z5 hr;have:=z5 hq';lia
    simp only[aV]at hq
    simp only[Sh.dep]at hu
    have fin:(decide (its.toArray.size<its2.toArray.size))=false:=decide_eq_false (by simp only[List.size_toArray];lia)
    rw[fin]
    show PySem.W.KatLex prog w A true false Q (its.zip its2) 0 s
    have rest:∀{l:List Sh}{ds es:List Dv}{xs ys:List V}{us ws:List Value}{i:Nat},(0<i)->Sh.deps l+A.units<cLine->Dv.gB l ds=true->Dv.gB l es=true->gf X.K H xs ds->gf X.K H ys es->Vals xs us->Vals ys ws->Q (isLt (dB ds es)) s->
      PySem.W.KatLex prog w A true false Q (us.zip ws) i s:=by
     intro l
     induction l with
     |nil=>
      intro ds es xs ys us ws i _ _ a1 a2 d1 d2 r1 r2 q
      rw[c_ a1]at d1 q
      rw[c_ a2]at d2 q
      cases d1;cases d2;cases r1;cases r2
      exact PySem.W.kat_nil q
     |cons sh l ih=>
      intro ds es xs ys us ws i hi hu a1 a2 d1 d2 r1 r2 q
      obtain⟨d,ds',rfl,h1,h2⟩:=bx a1
      obtain⟨e,es',rfl,h3,h4⟩:=bx a2
      simp only[Sh.deps]at hu
      have hu1:A.units+Sh.dep sh<cLine:=by have:=Nat.le_max_left (Sh.dep sh) (Sh.deps l);lia
      have VL:Sh.deps l+A.units<cLine:=by have:=Nat.le_max_right (Sh.dep sh) (Sh.deps l);lia
      cases d1 with
      |cons dx BY=>cases d2 with
       |cons dy GI=>cases r1 with
        |cons rx Bc=>cases r2 with
         |cons ry JU=>
          obtain⟨b,he,hb⟩:=iW I (Sh.dep sh) (A:=A) (Nat.le_of_eq (pY h1)) hu1 (jH h1 h3) dx dy rx ry
          have hc:=jC h1 h3
          rw[List.zip_cons_cons]
          refine PySem.W.kat_cons (he prog w _ _ ?_)
          cases b with
          |true=>
           have z:aV d e=.eq:=hc.mpr (hb.mp rfl)
           refine PySem.W.kat_yes (ih (Nat.succ_pos _) VL h2 h4 BY GI Bc JU ?_)
           simp only[dB,z,Ordering.then]at q;exact q
          |false=>
           have z:aV d e≠.eq:=λq=>by have:=hb.mpr (hc.mp q);cases this
           have zz:dB (d::ds') (e::es')=aV d e:=by
            simp only[dB]
            cases q:aV d e with
            |eq=>exact absurd q z
            |lt=>rfl
            |gt=>rfl
           rw[zz]at q
           refine PySem.W.kat_no ?_
           have e0:(true&&i==0)=false:=by simp;lia
           rw[e0]
           refine PySem.W.kat_one _ _ ?_
           exact Jc I (Sh.dep sh) (A:=A) (Nat.le_of_eq (pY h1)) hu1 h1 h3 dx dy rx ry prog w _ _ q
    cases l with
    |nil=>simp[Sh.key]at hk
    |cons sh l=>
     obtain⟨d,ds',rfl,h1,h2⟩:=bx hr
     obtain⟨e,es',rfl,h3,h4⟩:=bx hq'
     simp only[Sh.deps]at hu
     have hu1:A.units+Sh.dep sh<cLine:=by have:=Nat.le_max_left (Sh.dep sh) (Sh.deps l);lia
     have VL:Sh.deps l+A.units<cLine:=by have:=Nat.le_max_right (Sh.dep sh) (Sh.deps l);lia
     cases da with
     |cons dx BY=>cases db with
      |cons dy GI=>cases r1 with
       |cons rx Bc=>cases r2 with
        |cons ry JU=>
         obtain⟨b,he,hb⟩:=iW I (Sh.dep sh) (A:=A) (Nat.le_of_eq (pY h1)) hu1 (jH h1 h3) dx dy rx ry
         have hc:=jC h1 h3
         rw[List.zip_cons_cons]
         refine PySem.W.kat_cons (he prog w _ _ ?_)
         cases b with
         |true=>
          have z:aV d e=.eq:=hc.mpr (hb.mp rfl)
          refine PySem.W.kat_yes (rest (Nat.succ_pos _) VL h2 h4 BY GI Bc JU ?_)
          simp only[dB,z,Ordering.then]at hq;exact hq
         |false=>
          have z:aV d e≠.eq:=λq=>by have:=hb.mpr (hc.mp q);cases this
          have zz:dB (d::ds') (e::es')=aV d e:=by
           simp only[dB]
           cases q:aV d e with
           |eq=>exact absurd q z
           |lt=>rfl
           |gt=>rfl
          rw[zz]at hq
          refine PySem.W.kat_no ?_
          show wpAny (model prog w) A (oneLt' true _ _) Q _ s
          cases sh with
          |tup _=>simp[Sh.key]at hk
          |int=>
           obtain⟨i,rfl⟩:=cE h1
           obtain⟨j,rfl⟩:=cE h3
           cases dx;cases dy
           obtain⟨t,rfl⟩:=rx
           obtain⟨t',rfl⟩:=ry
           refine oneLt_int ?_
           have:isLt (aV (.int i) (.int j))=decide (i<j):=by
            simp only[aV]
            by_cases h:i=j
            ·subst h;simp[isLt]
            ·rw[if_neg h];by_cases h1:i<j<;>simp[h1,isLt]
           rw[this]at hq;exact hq
          |str=>
           obtain⟨i,rfl⟩:=cD h1
           obtain⟨j,rfl⟩:=cD h3
           cases dx;cases dy
           obtain⟨t,rfl⟩:=rx
           obtain⟨t',rfl⟩:=ry
           have:isLt (aV (.str i) (.str j))=decide (i.cps.toList<j.cps.toList):=by
            simp only[aV]
            by_cases h:i=j
            ·subst h;simp[isLt,List.lt_irrefl]
            ·rw[if_neg h];by_cases h1:i.cps.toList<j.cps.toList<;>simp[h1,isLt]
           rw[this]at hq
           have:=PySem.W.kas_lt_str (prog:=prog) (w:=w) (A:=A) (E:=λ_ _=>False) (t:=t) (u:=t') (s:=s) (Q:=Q) hq
           rw[keyLt'_oneType]at this;exact this
theorem nQ{prog:Program}{w:World}{A:Around}(I:Inv X pins σ H s){sh:Sh}(hk:sh.key=true){vs:List Value}(h2:2<=vs.length)(hv:∀v∈vs,∃d,Den X.K H v d/\Dv.isA sh d=true){Q:SortKind->Shared->Prop}(hq:Q sh.kind s):
  wpAny (model prog w) A (keyKind' vs.toArray) Q (λ_ _=>False) s:=by
 cases sh with
 |int=>
  refine PySem.W.kas_kind (T:=.type "int") h2 (λv m=>?_) (by decide) (by decide) hq
  obtain⟨d,⟨x,r,n⟩,a⟩:=hv v m
  obtain⟨i,rfl⟩:=cE a
  cases n
  obtain⟨t,rfl⟩:=r
  exact .now
 |str=>
  refine PySem.W.kas_kind (T:=.type "str") h2 (λv m=>?_) (by decide) (by decide) hq
  obtain⟨d,⟨x,r,n⟩,a⟩:=hv v m
  obtain⟨i,rfl⟩:=cD a
  cases n
  obtain⟨t,rfl⟩:=r
  exact .now
 |tup l=>
  cases l with
  |nil=>simp[Sh.key]at hk
  |cons sh l=>
   have T:∃T,(sh=.int/\T=Value.type "int")\/(sh=.str/\T=Value.type "str"):=by
    cases sh with
    |int=>exact⟨_,.inl ⟨rfl,rfl⟩⟩
    |str=>exact⟨_,.inr ⟨rfl,rfl⟩⟩
    |tup _=>simp[Sh.key]at hk
   obtain⟨T,hT⟩:=T
   have key:∀vs:List Value,(∀v∈vs,∃d,Den X.K H v d/\Dv.isA (.tup (sh::l)) d=true)->∃fs,fs.length=vs.length/\PySem.W.KatTups s.heap vs fs/\∀f∈fs,PySem.W.Looks (model prog w) s.heap (typeOf f) T:=by
    intro vs
    induction vs with
    |nil=>exact λ_=>⟨[],rfl,trivial,λf m=>nomatch m⟩
    |cons v vs ih=>
     intro hv
     obtain⟨fs,h1,h2,h3⟩:=ih λu m=>hv u (.tail _ m)
     obtain⟨d,⟨x,r,n⟩,a⟩:=hv v (.head _)
     obtain⟨ds,rfl,hr⟩:=dc a
     obtain⟨d0,ds',rfl,a1,_⟩:=bx hr
     cases n with
     |tup ha da=>
      obtain⟨its,r1,p1,_⟩:=I.tuple ha
      obtain⟨o,g,c,k,e⟩:=p1
      have rv:v=Value.ref _:=r
      subst rv
      cases da with
      |cons dx BY=>cases r1 with
       | @cons _ u _ us rx Bc=>
        refine⟨u::fs,by simp[h1],PySem.W.KatTups.cons g c e (by simp) h2,λf m=>?_⟩
        rcases List.mem_cons.mp m with rfl|m
        ·rcases hT with⟨rfl,rfl⟩|⟨rfl,rfl⟩
         ·obtain⟨i,rfl⟩:=cE a1
          cases dx
          obtain⟨t,rfl⟩:=rx
          exact .now
         ·obtain⟨i,rfl⟩:=cD a1
          cases dx
          obtain⟨t,rfl⟩:=rx
          exact .now
        ·exact h3 f m
   obtain⟨fs,h1,h3,h4⟩:=key vs hv
   refine PySem.W.kat_kind h3 LI h4 ?_ ?_
   ·rcases hT with⟨_,rfl⟩|⟨_,rfl⟩<;>decide
   ·have:(T != Value.type "tuple")=true:=by rcases hT with⟨_,rfl⟩|⟨_,rfl⟩<;>decide
    rw[this];exact hq
theorem uf(I:Inv X pins σ H s){sh:Sh}:∀{out:List Value}{zs:List V}{es:List Dv},Vals zs out->gf X.K H zs es->(∀d∈es,Dv.isA sh d=true)->out.Pairwise (λx y=>rJ X.K H (y,y) (x,x)=false)->es.Pairwise λd e=>aV d e≠.gt
 |[],_,_,r,d,_,_=>by cases r;cases d;exact .nil
 |u::out,_,_,r,d,a,h=>by
  cases r with
  |cons rx Bc=>cases d with
   | @cons x xs d0 ds dx BY=>
    obtain⟨h1,h2⟩:=List.pairwise_cons.mp h
    refine List.pairwise_cons.mpr ⟨λe m=>?_,uf I Bc BY (λd m=>a d (.tail _ m)) h2⟩
    obtain⟨i,hi⟩:=List.mem_iff_getElem?.mp m
    obtain⟨y,ey,dy⟩:=BY.get hi
    obtain⟨w,ew,ry⟩:=Vals.get Bc ey
    have q:=h1 w (List.mem_of_getElem? ew)
    rw[iY I (x:=(w,w)) (y:=(u,u)) ⟨y,ry,dy⟩ ⟨_,rx,dx⟩]at q
    have a1:=a d0 (.head _)
    have a2:=a e (.tail _ m)
    rw[cmp_swap a1 a2]at q
    intro z
    rw[z]at q
    cases q
end
end L2
namespace RD
open PySem PyProof.Rows
def Raw(h:Heap)(d:Addr)(es:Array DictEntry)(ep:Nat):Prop:=∃o,h.get? d=some o/\o.ExactDict/\o.data=.dict es ep
section
variable {prog:Program} {w:World} {A:Around} {E:Value->Shared->Prop} {s:Shared} {d it:Addr} {es:Array DictEntry} {ep i:Nat}
theorem Raw.lt{h:Heap}(x:Raw h d es ep):d<h.objs.size:=let⟨_,ho,_⟩:=x;Heap.lt_size ho
theorem Raw.at{h h':Heap}(x:Raw h d es ep)(k:∀o,h.get? d=some o->h'.get? d=some o):Raw h' d es ep:=let⟨o,ho,r⟩:=x;⟨o,k o ho,r⟩
theorem Raw.type(x:Raw s.heap d es ep):s.TypeIs (.ref d) "dict":=let⟨o,ho,hc,_⟩:=x;⟨o,ho,hc.1⟩
theorem iter{Q:Value->Shared->Prop}(hd:(d==sysModules)=false)(x:Raw s.heap d es ep)
  (hQ:Q (.ref s.heap.objs.size) {s with heap:=s.heap.push {cls:=.type "dict_keyiterator",data:=.fields #[.ref d,.int 0 0,.int es.size 0,.int ep 0]} }):wpAny (model prog w) A (pyIter (.ref d)) Q E s:=by
 have hT:=x.type;obtain⟨o,ho,hc,hdat⟩:=x
 refine wpAny_pyIter_slot hT F.slot_dict_iter (wpAny_call_entry F.slot_dict_iter hT F.entry_dict_iter ?_ (F.args_dict_iter_1 _))
 unfold Builtin.«dict.__iter__»;refine wpAny_bind ?_
 unfold Builtin.Dict.dictSlotNone;refine wpAny_bind (wpAny_notOrdered_dict hT ?_)
 show wpAny _ _ (pure (Value.ref d)) _ _ s
 refine wpAny_pure ?_;show wpAny _ _ (Builtin.Dict.showsAll d >>= _) _ _ s
 unfold Builtin.Dict.showsAll;rw[if_neg (by rw[hd];exact Bool.false_ne_true)]
 refine wpAny_bind (wpAny_pure (wpAny_bind (wpAny_dictEntries ho hdat (wpAny_bind (wpAny_dictEpoch ho hdat ?_)))))
 refine wpAny_bind (wpAny_newObj_type (wpAny_pure ⟨_,rfl,"dict_keyiterator",_,⟨_,Heap.get?_push_size _ rfl,rfl⟩,F.slot_dict_keyiterator_next.lookup,?_⟩));simpa [rawInt]using hQ
theorem next{Q:Option Value->Shared->Prop}(hit:s.heap.IsKeyIter it d i es.size ep)(x:Raw s.heap d es ep)(hi:i<es.size)
  (hQ:∀h',h'.IsKeyIter it d (i+1) es.size ep->Heap.SameBut it s.heap h'->Q (some es[i].key) {s with heap:=h'}):wpAny (model prog w) A (pyNext (.ref it)) Q E s:=by
 obtain⟨o,ho,hc,hd⟩:=id hit;obtain⟨od,hod,hcd,Ax⟩:=x
 unfold pyNext;refine wpAny_bind (wpAny_attempt (wpAny_callSpecial?_slot (name:=Str.ofString "__next__") hit.typeIs F.slot_dict_keyiterator_next (wpAny_call_entry F.slot_dict_keyiterator_next hit.typeIs F.entry_dict_keyiterator_next ?_ (F.args_dict_keyiterator_next_1 _))))
 refine wpAny_bind (wpAny_pure (wpAny_bind (wpAny_bind ?_)))
 first|exact wpAny_bind (wpAny_typeNameOfWhole_keyiter hit.typeIs (wpAny_pure ?_))|refine wpAny_bind (wpAny_typeNameOfWhole_keyiter hit.typeIs (wpAny_pure ?_));skip
 refine wpAny_bind (wpAny_fieldsOf ho hd ?_);have hown:Builtin.Dict_items.ownsTuple "dict_keyiterator"=false:=by decide
 simp only[hown,Bool.false_eq_true,if_false];show wpAny _ _ (if(Value.ref d==Value.none)=true then _ else _) _ _ s
 rw[if_neg (show¬((Value.ref d==Value.none)=true)from Bool.false_ne_true)];refine wpAny_bind (wpAny_pure (wpAny_bind (wpAny_dictEntries hod Ax ?_)))
 rw[if_neg (by simp)];refine wpAny_bind (wpAny_pure (wpAny_bind (wpAny_dictEpoch hod Ax ?_)))
 rw[if_neg (by simp)];refine wpAny_pure ?_
 simp only[show¬((i:Int)<0)from by lia,if_false,Int.toNat_natCast,Array.getElem?_eq_getElem hi];refine wpAny_bind ?_
 refine wpAny_bind (wpAny_typeNameOfWhole_keyiter hit.typeIs (wpAny_pure ?_));refine wpAny_bind (wpAny_isOneOf_keyiter hit.typeIs ?_)
 show wpAny _ _ (setField (.ref it) 1 (rawInt ((i:Int)+1)) >>= _) _ _ s;refine wpAny_bind (wpAny_setField ho hd (by simp) ?_)
 have IA:(s.heap.update it (Obj.mapFields (·.setIfInBounds 1 (rawInt ((i:Int)+1))))).IsKeyIter it d (i+1) es.size ep:=⟨_,Heap.get?_update_self _ ho (Obj.isFreed_of_fields (Obj.data_mapFields hd _)),(Obj.cls_mapFields ..).trans hc,by rw[Obj.data_mapFields hd];simp[rawInt]⟩
 refine wpAny_bind (wpAny_holding ?_);refine wpAny_bind (wpAny_isOneOf_keyiter (s:={s with heap:=s.heap.update it (Obj.mapFields (·.setIfInBounds 1 (rawInt ((i:Int)+1))))}) IA.typeIs ?_)
 show wpAny _ _ (pure es[i].key) _ _ _;exact wpAny_pure (wpAny_pure ⟨_,rfl,wpAny_pure (hQ _ IA (Heap.SameBut.update ..))⟩)
theorem fin{Q:Option Value->Shared->Prop}(hh:A.handled=none)(hit:s.heap.IsKeyIter it d es.size es.size ep)(x:Raw s.heap d es ep)(hQ:∀h',Heap.ExtBut it s.heap h'->Q none {s with heap:=h'}):wpAny (model prog w) A (pyNext (.ref it)) Q E s:=by
 obtain⟨o,ho,hc,hd⟩:=id hit;obtain⟨od,hod,hcd,Ax⟩:=x
 unfold pyNext;refine wpAny_bind (wpAny_attempt (wpAny_callSpecial?_slot (name:=Str.ofString "__next__") hit.typeIs F.slot_dict_keyiterator_next (wpAny_call_entry F.slot_dict_keyiterator_next hit.typeIs F.entry_dict_keyiterator_next ?_ (F.args_dict_keyiterator_next_1 _))))
 refine wpAny_bind (wpAny_pure (wpAny_bind (wpAny_bind ?_)))
 refine wpAny_bind (wpAny_typeNameOfWhole_keyiter hit.typeIs (wpAny_pure ?_));skip
 refine wpAny_bind (wpAny_fieldsOf ho hd ?_);have hown:Builtin.Dict_items.ownsTuple "dict_keyiterator"=false:=by decide
 simp only[hown,Bool.false_eq_true,if_false];show wpAny _ _ (if(Value.ref d==Value.none)=true then _ else _) _ _ s
 rw[if_neg (show¬((Value.ref d==Value.none)=true)from Bool.false_ne_true)];refine wpAny_bind (wpAny_pure (wpAny_bind (wpAny_dictEntries hod Ax ?_)))
 rw[if_neg (by simp)];refine wpAny_bind (wpAny_pure (wpAny_bind (wpAny_dictEpoch hod Ax ?_)))
 rw[if_neg (by simp)];refine wpAny_pure ?_
 simp only[show¬((es.size:Int)<0)from by lia,if_false,Int.toNat_natCast,Array.getElem?_eq_none (Nat.le_refl _)];refine wpAny_bind ?_
 refine wpAny_bind (wpAny_typeNameOfWhole_keyiter hit.typeIs (wpAny_pure ?_));show wpAny _ _ (setField (.ref it) 0 .none >>= _) _ _ s
 refine wpAny_bind (wpAny_setField ho hd (by simp) ?_);show wpAny _ _ (newExc (.type "StopIteration") [] >>= _) _ _ _
 refine wpAny_bind ?_;simp only[newExc,newTuple]
 refine wpAny_bind (wpAny_newObj_type ?_ (by size_fits));refine wpAny_bind (m:=firstArgMember _ _) (wpAny_of_eq (a:=Value.none) (by first|rfl|(simp only[firstArgMember];rfl)) ?_)
 refine wpAny_newObj_type ?_ (by size_fits);simp only[raiseNew]
 refine wpAny_bind (wpAny_handled ?_);rw[show A.in1.handled=none from hh]
 refine wpAny_bind (wpAny_pure (wpAny_throw ?_));refine wpAny_bind (wpAny_isInstance (T:="StopIteration") (b:=true) ⟨_,Heap.get?_push_size _ rfl,rfl⟩ isSubtype_stop ?_)
 exact wpAny_pure (hQ _ (((Heap.SameBut.update ..).extBut.push _).push _))
theorem walks(hh:A.handled=none)(I d:Addr)(hne:d≠I)(es:Array DictEntry)(ep:Nat):Walks prog w A I [I,d] [I] es.size (λi v=>∃e,es[i]? = some e/\v=e.key) (λi h=>h.IsKeyIter I d i es.size ep/\Raw h d es ep)where
 sub:=λb hb=>by simp at hb;simp[hb]
 frame:=λ_ _ _ st hk=>⟨st.1.at λo e=>hk I (by simp) o e,st.2.at λo e=>hk d (by simp) o e⟩
 item:=λi s Q E hi st hQ=>next st.1 st.2 hi λh' IA hs'=>hQ _ h' s.toks ⟨es[i],by simp[hi],rfl⟩ ⟨IA,st.2.at λo e=>hs'.extBut d o hne e⟩ λb o hb e=>hs'.extBut b o (λh=>hb (by simp[h])) e
 done:=λs Q E st hQ=>fin hh st.1 st.2 λh' he'=>hQ h' s.toks λb o hb e=>he' b o (λh=>hb (by simp[h])) e
 self:=λ_ _ _ _ st hQ=>wpAny_pyIter_keyiter st.1 hQ
theorem src(lo:(d==sysModules)=false):PySem.W.KdlSrc prog w "dict" d d es.size (λi v=>∃e,es[i]? = some e/\v=e.key) (λh=>Raw h d es ep)where
 type:=λ_ hm=>hm.type
 there:=λ_ hm=>⟨hm.lt,hm.lt⟩
 keep:=λ_ _ hm hk=>hm.at λo e=>hk d (.inl rfl) o e
 notList:=by decide
 notTuple:=by decide
 hint:=λ_ _ _ _ hm hq=>PySem.W.kdl_hint_dict hm.type hq
 iter:=λ_ _ hh hm=>⟨_,_,(λ_ _ hq=>iter lo hm hq),walks hh _ d (Nat.ne_of_lt hm.lt) es ep,⟨⟨_,Heap.get?_push_size _ rfl,rfl,rfl⟩,hm.at λo e=>Heap.get?_push_of_some _ e⟩⟩
theorem qK{K:Type}[DecidableEq K]{k:K}:∀{xs:List (K×Addr×Value)}{j:Nat}{p:Addr×Value},(xs.map (·.1)).Nodup->xs[j]? = some (k,p)->xs.eraseIdx j=xs.filter λx=>decide (x.1≠k)
 |[],j,p,_,h=>by simp at h
 |x::r,0,p,hn,h=>by
  simp at h
  subst h
  rw[List.map_cons,List.nodup_cons]at hn
  have:r.filter (λx=>decide (x.1≠k))=r:=List.filter_eq_self.mpr λy hy=>decide_eq_true λe=>hn.1 (e▸List.mem_map.mpr ⟨y,hy,rfl⟩)
  rw[List.eraseIdx_zero,List.tail_cons,List.filter_cons,if_neg (by simp),this]
 |x::r,j+1,p,hn,h=>by
  rw[List.map_cons,List.nodup_cons]at hn
  have h':r[j]? = some (k,p):=by simpa using h
  have ne:x.1≠k:=λe=>hn.1 (e▸List.mem_map.mpr ⟨_,List.mem_of_getElem? h',rfl⟩)
  rw[List.eraseIdx_cons_succ,List.filter_cons,if_pos (by simp[ne]),qK hn.2 h']
theorem sO{α β:Type}(f:α->β):∀(l:List α)(j:Nat),(l.map f).eraseIdx j=(l.eraseIdx j).map f
 |[],_=>rfl
 |_::_,0=>rfl
 |x::l,j+1=>by simp only[List.map_cons,List.eraseIdx_cons_succ,sO f l j]
theorem takeOut{K:Type}[DecidableEq K]{knd:HeapKind prog w K}{a:Addr}{xs:List (K×Addr×Value)}{k:K}{p:Addr×Value}{Q:Option DictEntry->Shared->Prop}(hu:knd.room A)(hkey:knd.is s.heap k a)(hm:s.heap.DictOfH knd d xs)
  (hz:xs.length<=sizeLine)(hp:atKey xs k=some p)(hQ:∀h',h'.DictOfH knd d (xs.filter λx=>decide (x.1≠k))->Heap.SameBut d s.heap h'->Q (some ⟨knd.hash k,.ref p.1,p.2⟩) {s with heap:=h',toks:=s.toks+knd.draws k}):
  wpAny (model prog w) A (Builtin.Dict.takeOut d (.ref a)) Q E s:=by
 obtain⟨o,es,ep,ho,hc,hd,he,his,hn⟩:=hm
 unfold Builtin.Dict.takeOut;try with_reducible refine wpAny_holding ?_
 refine wpAny_bind (knd.pyHash hu hkey (wpAny_bind (wpAny_dictFind_heap (s:={s with toks:=s.toks+knd.draws k}) hu hkey ho hd he his hn ?_ ?_)))
 ·intro hno;rw[atKey_none_of_get hno]at hp;cases hp
 ·intro j q hj
  have eq:=atKey_of_get hn hj;rw[hp]at eq;cases eq
  have hs:es.size=xs.length:=size_of_entries he
  refine wpAny_bind (wpAny_dictEntries (s:={s with toks:=s.toks+knd.draws k}) ho hd ?_)
  rw[entry_at he j,hj]
  refine wpAny_bind (wpAny_updateDictKeys (hz:=by lia) (hf:=Nat.le_succ_of_le (size_eraseIdxIfInBounds_le _ _)) (s:={s with toks:=s.toks+knd.draws k}) ho hd (wpAny_pure (hQ _ ⟨_,_,ep+1,Heap.get?_update_self _ ho (Obj.isFreed_of_dict (Obj.data_mapDictKeys hd _)),hc.mapDictKeys _,Obj.data_mapDictKeys hd _,?_,?_,?_⟩ (Heap.SameBut.update ..))))
  ·rw[←qK hn hj]
   obtain⟨l⟩:=es
   simp only at he
   simp only[List.eraseIdxIfInBounds_toArray,he]
   exact sO _ _ _
  ·intro x hx
   exact knd.keeps (his x (List.mem_filter.mp hx).1) ho hd (Heap.SameBut.update ..)
  ·exact hn.sublist (List.filter_sublist.map _)
end
end RD
namespace L2
open PySem PySem.Spec PyProof.Rows
theorem KT.drop{H:Hp}{kvs:List (List Key×V)}{xs:List (List Key×Addr×Value)}(r:KT H kvs xs)(k:List Key):KT H (jA kvs k) (xs.filter λx=>decide (x.1≠k)):=by
 unfold jA
 induction r with
 |nil=>exact .nil
 | @cons p q ps qs h t ih=>
  rw[List.filter_cons,List.filter_cons]
  by_cases e:p.1=k
  ·rw[if_neg (by simp[e]),if_neg (by simp[h.1.symm.trans e])];exact ih
  ·rw[if_pos (by simp[e]),if_pos (by simp[show¬q.1=k from λz=>e (h.1.trans z)])];exact .cons h ih
section
variable {X:Cx} {pins:List (Addr×Obj)} {σ:St} {H:Hp} {s:Shared} {a b:Addr} {kvs:List (List Key×V)} {k:List Key} {A:Around} {E:Value->Shared->Prop}
theorem FW{h':Heap}{t':Nat}{xs:List (List Key×Addr×Value)}{kvs':List (List Key×V)}(I:Inv X pins σ H s)(e:H a=some (.dT kvs))(hz:kvs'.length<=sizeLine)(hd:(a==sysModules)=false)(rel:KT H kvs' xs)
  (dd:h'.DictOfH (tupleKind (bF X.prog X.w)) a xs)(hs:Heap.SameBut a s.heap h'):Inv X pins σ (upd H a (.dT kvs')) {s with heap:=h',toks:=t'}:=by
 obtain⟨q,es,ep,hq,h2,h3,h4,_,h5⟩:=dd
 refine uD I (by rw[e];exact True.intro) hs ⟨q,hq⟩ ⟨hz,hd,_,rel.keeps λc ys ec=>?_,q,es,ep,hq,h2,h3,h4,h5⟩
 rw[ai (aN ec e (λz=>nomatch z))];exact ec
theorem NL{v:V}{Q:Value->Shared->Prop}(hu:A.units+1<cLine)(I:Inv X pins σ H s)(e:H a=some (.dT kvs))(eb:H b=some (.tup (k.map kV)))(l:jM kvs k=some v)
  (h:∀w' s',Inv X pins σ (upd H a (.dT (jA kvs k))) s'->RelV v w'->Q w' s'):wpAny (model X.prog X.w) A (call (.builtin "dict.pop") [.ref a,.ref b]) Q E s:=by
 obtain⟨z,hd,xs,rel,dd⟩:=K_ I.hok e
 obtain⟨w',hw,rw'⟩:=jc.some_of (v:=v) (o:=(atKey xs k).map (·.2)) (by rw[←l];exact rel.val k)
 obtain⟨p,hp,hp2⟩:=Option.map_eq_some_iff.mp hw
 have hz':xs.length<=sizeLine:=by rw[←Paired.length rel];exact z
 have ne:xs≠[]:=λq=>by subst q;simp[atKey]at hp
 refine call_meetsIn (S:=λA R s=>(tupleKind (bF X.prog X.w)).room A.in1/\(tupleKind (bF X.prog X.w)).is s.heap k b/\s.heap.DictOfH (tupleKind (bF X.prog X.w)) a xs/\∀h' tk,h'.DictOfH (tupleKind (bF X.prog X.w)) a (xs.filter λx=>decide (x.1≠k))->Heap.SameBut a s.heap h'->R (.ok (.ret p.2)) {s with heap:=h',toks:=tk})
  PySem.F.slot_dict_pop dd.typeIs PySem.F.entry_dict_pop (PySem.F.args_dict_pop_2 _ _) ?_ ⟨tupleKind_room_in1 hu,qD I.hok eb,dd,λh' tk Lc hs=>?_⟩
 ·refine .of_wp λA R s ⟨hu,hk,hm,h⟩=>?_
  have hm0:=hm
  obtain⟨o,es,ep,ho,hc,hdat,he,_⟩:=hm
  unfold Builtin.«dict.pop»;refine wpAny_bind ?_
  unfold Builtin.Dict.keyAndDefault;refine wpAny_bind (wpAny_notOrdered_dict hm0.typeIs ?_)
  show wpAny _ _ (pure (a,Value.ref b,none)) _ _ s
  refine wpAny_pure ?_
  have kp:(keyPart (Value.ref b)).isSome=false:=rfl
  simp only[kp,Bool.false_eq_true,if_false]
  refine wpAny_bind (wpAny_dictEntries ho hdat (wpAny_bind (wpAny_pure ?_)))
  have hne:es.isEmpty=false:=by
   have:=size_of_entries he
   cases xs with
   |nil=>exact absurd rfl ne
   |cons _ _=>rw[List.length_cons]at this;rw[Array.isEmpty_eq_false_iff];intro z;rw[z]at this;simp at this
  simp only[hne,Bool.false_eq_true,if_false]
  refine wpAny_bind (RD.takeOut hu hk hm0 hz' hp λh' hm' hs'=>?_)
  simp only[Option.isNone_some,Bool.false_eq_true,if_false]
  exact wpAny_bind (wpAny_letGo (wpAny_pure ⟨p.2,rfl,h h' _ hm' hs'⟩))
 ·rw[hp2]
  exact h w' _ (FW I e (Nat.le_trans (FP kvs k) z) hd (rel.drop k) Lc hs) rw'
end
inductive zl(ty:TE)(σ:St)(Q:VK)(x:V)(H1:Hp):Prop
 |mk(a:_):(x=.ref a)->(TU H1 a)->(ty σ H1 λy H2=>∃kvs k b v,H2 a=some (.dT kvs)/\y=.ref b/\H2 b=some (.tup (k.map kV))/\jM kvs k=some v/\Q v (upd H2 a (.dT (jA kvs k))))->zl ty σ Q x H1
def Lm(td ty:TE):TE:=λσ H Q=>td σ H λx H1=>zl ty σ Q x H1
section
variable {X:Cx} {o e i:Expr} {apos cpos tpos pos:Pos} {td ty:TE}
theorem El(hu:X.A.units+1<cLine)(ho:PE X o td)(he:PE X e ty)(m:M1 X o "pop" apos e cpos):PE X (.Call (.Attribute o "pop" apos) [e] [] cpos) (Lm td ty):=by
 intro pins s σ H Q I h
 refine wpAny_Call_method m.base m.few m.line PySem.F.plainAttrs_dict PySem.F.slot_dict_pop PySem.F.type_dict_pop (dm (ho pins s σ H _ I h) λu s1 ⟨x,H1,I1,rx,a,ex,d,q1⟩=>?_)
 subst ex;obtain rfl:u=Value.ref a:=rx
 obtain⟨t1,t2,_⟩:=Fb I1 d
 refine⟨t1,t2,?_⟩
 rw[m.trees];refine Calls.callWith_builtin rfl (Calls.evalArgs_plain (Calls.spliced_cons (dm (he pins s1 σ H1 _ I1 q1) λiv s2 ⟨y,H2,I2,ry,kvs,k,b,v,ea,ey,eb,l,q2⟩=>Calls.spliced_nil ?_)))
 subst ey;obtain rfl:iv=Value.ref b:=ry
 exact NL hu I2 ea eb l λw' s3 I3 rw'=>⟨v,_,I3,rw',q2⟩
end
theorem Qs{P:Program}{w:World}{k:Key}{u:Value}(h:(bF P w).is k u=true):RelV (kV k) u:=by
 rw[yk]at h
 rcases cJ h with⟨i,t,rfl,rfl⟩|⟨x,t,rfl,rfl⟩
 ·exact⟨t,rfl⟩
 ·exact⟨t,rfl⟩
def Sj(H:Hp)(a:Addr)(ys:List V):Prop:=(∃kvs,Rd H a (.dK kvs)/\ys=kvs.map λp=>kV p.1)\/∃kvs,Rd H a (.dT kvs)/\Paired (λ(y:V) (p:List Key×V)=>∃b,y=.ref b/\H b=some (.tup (p.1.map kV))) ys kvs
theorem qO{X:Cx}(hc:X.calm=true):ir X (.type "list") (λxs H Q=>∃a,xs=[.ref a]/\TU H a/\∀l ys,H l=none->Sj H a ys->Q (.ref l) (upd H l (.lst ys))):=by
 intro pins s σ H xs us Q I r h
 obtain⟨a,rfl,hd,q⟩:=h
 obtain⟨u,rfl,rx⟩:=vals1 r
 cases rx
 rcases hd with⟨kvs,e⟩|⟨kvs,e⟩
 ·obtain⟨z,hd,vs,rel,dd⟩:=sZ I.hok e
  obtain⟨ep,da⟩:=dd.dictAt
  refine PySem.W.kdl_call (PySem.W.kdl_dict hd) (I.ok.hd hc) da (by rw[←rel.length];exact z) λh' tk acc c kp hl it=>?_
  have rv:Vals (kvs.map λp=>kV p.1) acc.toList:=by
   have key:∀{kvs:List (Key×V)}{vs:List (Key×Value)}{acc:List Value},KV kvs vs->acc.length=vs.length->(∀(j:Nat) v,acc[j]? = some v->∃k x,vs[j]? = some (k,x)/\(bF X.prog X.w).is k v=true)->Vals (kvs.map λp=>kV p.1) acc:=by
    intro kvs vs acc r
    unfold KV at r
    induction r generalizing acc with
    |nil=>intro hl _;cases acc with
     |nil=>exact .nil
     |cons _ _=>simp at hl
    | @cons p q ps qs h t ih=>
     intro hl hv
     cases acc with
     |nil=>simp at hl
     |cons u acc=>
      refine .cons ?_ (ih (by simpa using hl) λj v e=>by have:=hv (j+1) v (by simpa using e);simpa using this)
      obtain⟨k,x,e1,e2⟩:=hv 0 u rfl
      simp at e1
      subst e1
      show RelV (kV p.1) u
      rw[h.1]
      exact Qs e2
   exact key rel (by have:=it.1;simp only[Array.length_toList];lia) λj v e=>it.2 j v (by rw[←Array.getElem?_toList];exact e)
  refine⟨.ref s.heap.objs.size,_,I.laid (t':=tk) kp (Nat.le_refl _) (show cA X.prog X.w _ h' _ (.lst (kvs.map λp=>kV p.1))from⟨by rw[List.length_map];exact z,acc.toList,c,rv,by rw[Array.toArray_toList];exact hl⟩),rfl,q _ _ (I.hok.fresh (Nat.le_refl _)) (.inl ⟨kvs,e,rfl⟩)⟩
 ·obtain⟨z,hd,xs,rel,dd⟩:=sX I.hok e
  obtain⟨o,es,ep,ho,hcd,hdat,he,_,_⟩:=id dd
  have hs:=size_of_entries he
  have lr:=Paired.length rel
  refine PySem.W.kdl_call (RD.src (es:=es) (ep:=ep) hd) (I.ok.hd hc) ⟨o,ho,hcd,hdat⟩ LI λh' tk acc c kp hl it=>?_
  have rv:∃ys,Vals ys acc.toList/\Paired (λ(y:V) (p:List Key×V)=>∃b,y=.ref b/\H b=some (.tup (p.1.map kV))) ys kvs:=by
   have key:∀{kvs:List (List Key×V)}{xs:List (List Key×Addr×Value)}{acc:List Value},KT H kvs xs->acc.length=xs.length->(∀(j:Nat) v,acc[j]? = some v->∃x,xs[j]? = some x/\v=.ref x.2.1)->∃ys,Vals ys acc/\Paired (λ(y:V) (p:List Key×V)=>∃b,y=.ref b/\H b=some (.tup (p.1.map kV))) ys kvs:=by
    intro kvs xs acc r
    induction r generalizing acc with
    |nil=>intro hl _;cases acc with
     |nil=>exact⟨[],.nil,.nil⟩
     |cons _ _=>simp at hl
    | @cons p q ps qs h t ih=>
     intro hl hv
     cases acc with
     |nil=>simp at hl
     |cons u acc=>
      obtain⟨ys,r1,r2⟩:=ih (acc:=acc) (by simpa using hl) λj v e=>by have:=hv (j+1) v (by simpa using e);simpa using this
      obtain⟨x,e1,e2⟩:=hv 0 u rfl
      simp at e1
      subst e1
      exact⟨.ref q.2.1::ys,.cons e2 r1,.cons ⟨_,rfl,h.2.1⟩ r2⟩
   refine key rel (by have:=it.1;simp only[Array.length_toList];lia) λj v e'=>?_
   obtain⟨en,h1,h2⟩:=it.2 j v (by rw[←Array.getElem?_toList];exact e')
   rw[entry_at he j]at h1
   obtain⟨x,hx,Av⟩:=Option.map_eq_some_iff.mp h1
   exact⟨x,hx,by rw[h2,←Av];rfl⟩
  obtain⟨ys,r1,r2⟩:=rv
  have ly:=Paired.length r2
  refine⟨.ref s.heap.objs.size,_,I.laid (t':=tk) kp (Nat.le_refl _) (show cA X.prog X.w _ h' _ (.lst ys)from⟨by lia,acc.toList,c,r1,by rw[Array.toArray_toList];exact hl⟩),rfl,q _ _ (I.hok.fresh (Nat.le_refl _)) (.inr ⟨kvs,e,r2⟩)⟩
section
variable {P:Program} {w:World} {H H':Hp} {h:Heap} {a:Addr} {o:HO}
end
section
variable {X:Cx} {pins:List (Addr×Obj)} {σ:St} {H H':Hp} {s s':Shared} {a:Addr} {C:Value} {B h2:Heap}
end
section
variable {P:Program} {w:World} {K:Fg7} {mg:Str->Option Value} {base:Heap} {N:List Str} {qual:Str} {scope:Scope} {f:Addr} {cd:Value} {A:Around} {outer:List Env} {s:Shared} {H:Hp} {E:XK}
end
section
variable {X:Cx} {E:XK} {x:Str} {C:Addr} {bmB:List Value} {newId B initId:String} {e₀:Expr} {es:List Expr} {t:TA} {np cpos pos:Pos}
end
section
variable {X:Cx} {pins gO:List (Addr×Obj)} {σ:St} {H:Hp} {s:Shared} {E:XK} {a:Addr}
end
section
variable {X:Cx} {body suite:List Stmt} {b₀:Stmt} {h₀:ExceptHandler} {hs:List ExceptHandler} {tb th:TS} {tE:XK->TS} {x n:Str} {C':Addr} {np pos hpos:Pos} {i:Nat}
end
section
variable {X:Cx} {pins:List (Addr×Obj)} {σ:St} {H:Hp} {s:Shared}
end
section
variable {X:Cx} {body suite:List Stmt} {b₀:Stmt} {th:TS} {tE:XK->TS} {x n:Str} {C':Addr} {np pos hpos:Pos} {i:Nat}
end
end L2
namespace RD
open PySem PyProof.Rows
section
variable {prog:Program} {w:World} {A:Around} {E:Value->Shared->Prop} {s:Shared} {d it v:Addr} {es:Array DictEntry} {ep i:Nat} {ok ov:Value}
theorem Qq{Q:Value->Shared->Prop}(hd:(d==sysModules)=false)(x:Raw s.heap d es ep)(hQ:Q (.ref s.heap.objs.size) {s with heap:=s.heap.push {cls:=.type "dict_items",data:=.fields #[.ref d]} }):
  wpAny (model prog w) A (call (.builtin "dict.items") [.ref d]) Q E s:=by
 have hT:=x.type
 refine call_meetsIn (S:=λ_ R s=>(∃es ep,Raw s.heap d es ep)/\R (.ok (.ret (.ref s.heap.objs.size))) {s with heap:=s.heap.push {cls:=.type "dict_items",data:=.fields #[.ref d]} }) PySem.F.slot_dict_items hT PySem.F.entry_dict_items (PySem.F.args_dict_items_1 _) ?_ ⟨⟨_,_,x⟩,hQ⟩
 refine .of_wp λA R s ⟨⟨es,ep,hm⟩,h⟩=>?_
 unfold Builtin.«dict.items»;refine wpAny_bind ?_
 unfold Builtin.Dict.noArgs;refine wpAny_bind (wpAny_notOrdered_dict hm.type ?_)
 show wpAny _ _ (pure d) _ _ s;refine wpAny_pure ?_
 show wpAny _ _ (Builtin.Dict.showsAll d >>= _) _ _ s;unfold Builtin.Dict.showsAll
 rw[if_neg (by rw[hd];exact Bool.false_ne_true)];refine wpAny_bind (wpAny_pure (wpAny_bind (wpAny_newObj_type (wpAny_pure ⟨_,rfl,h⟩))))
theorem Qu{Q:Value->Shared->Prop}(hv:s.heap.IsItemsView v d)(x:Raw s.heap d es ep)
  (hQ:Q (.ref s.heap.objs.size) {s with heap:=s.heap.push {cls:=.type "dict_itemiterator",data:=.fields #[.none,.bool false,.ref d,.int 0 0,.int es.size 0,.int ep 0,.none,.none]} }):
  wpAny (model prog w) A (pyIter (.ref v)) Q E s:=by
 obtain⟨o',hov,hcv,hdv⟩:=id hv;obtain⟨o,ho,hc,hdat⟩:=x
 refine wpAny_pyIter_slot hv.typeIs F.slot_dict_items_iter (wpAny_call_entry F.slot_dict_items_iter hv.typeIs F.entry_dict_items_iter ?_ (F.args_dict_items_iter_1 _))
 unfold Builtin.«dict_items.__iter__»;refine wpAny_bind (wpAny_pure (wpAny_bind ?_))
 unfold Builtin.Dict_items.dictOf;refine wpAny_bind (wpAny_field hov hdv (x:=.ref d) rfl (wpAny_pure (wpAny_bind ?_)))
 unfold Builtin.Dict_items.newIterator;refine wpAny_bind (wpAny_dictEntries ho hdat (wpAny_bind (wpAny_dictEpoch ho hdat ?_)))
 have hown:Builtin.Dict_items.ownsTuple "dict_itemiterator"=true:=by decide
 simp only[hown,if_true];refine wpAny_newObj_type (wpAny_pure ⟨_,rfl,"dict_itemiterator",_,⟨_,Heap.get?_push_size _ rfl,rfl⟩,F.slot_dict_itemiterator_next.lookup,?_⟩) (by simp only[sizeOk,Builtin.Dict_items.ownedTupleFields,List.size_toArray,List.length_append,List.length_cons,List.length_nil,sizeLine_eq];lia)
 simpa [rawInt,Builtin.Dict_items.ownedTupleFields]using hQ
theorem Qt{Q:Option Value->Shared->Prop}(hit:IsItemIter s.heap it d i es.size ep ok ov)(x:Raw s.heap d es ep)(hi:i<es.size)
    (hQ:∀h',IsItemIterOut h' it d (i+1) es.size ep es[i].key es[i].val s.heap.objs.size->h'.get? s.heap.objs.size=some {cls:=.type "tuple",data:=.seq #[es[i].key,es[i].val]}->h'.objs.size=s.heap.objs.size+1->
      (∀b o,b≠it->s.heap.get? b=some o->h'.get? b=some o)->Q (some (.ref s.heap.objs.size)) {s with heap:=h'}):wpAny (model prog w) A (pyNext (.ref it)) Q E s:=by
  obtain⟨hp,g,dr,tk,os⟩:=s;obtain⟨od,hod,hcd,Ax⟩:=x
  have hT:Shared.TypeIs ⟨hp,g,dr,tk,os⟩ (.ref it) "dict_itemiterator":=⟨_,hit,rfl⟩
  unfold pyNext;refine wpAny_bind (wpAny_attempt (wpAny_callSpecial?_slot (name:=Str.ofString "__next__") hT F.slot_dict_itemiterator_next (wpAny_call_entry F.slot_dict_itemiterator_next hT F.entry_dict_itemiterator_next ?_ (F.args_dict_itemiterator_next_1 _))))
  refine wpAny_bind (wpAny_pure (wpAny_bind (wpAny_bind ?_)))
  refine wpAny_bind (wpAny_typeNameOfWhole_itemiter hT (wpAny_pure ?_));refine wpAny_bind (wpAny_fieldsOf hit rfl ?_)
  have hown:Builtin.Dict_items.ownsTuple "dict_itemiterator"=true:=by decide
  simp only[hown,if_true];show wpAny _ _ (if(Value.ref d==Value.none)=true then _ else _) _ _ _
  rw[if_neg (show¬((Value.ref d==Value.none)=true)from Bool.false_ne_true)];refine wpAny_bind (wpAny_pure (wpAny_bind (wpAny_dictEntries hod Ax ?_)))
  rw[if_neg (by simp)];refine wpAny_bind (wpAny_pure (wpAny_bind (wpAny_dictEpoch hod Ax ?_)))
  rw[if_neg (by simp)];refine wpAny_pure ?_
  simp only[show¬((i:Int)<0)from by lia,if_false,Int.toNat_natCast,Array.getElem?_eq_getElem hi];refine wpAny_bind ?_
  refine wpAny_bind (wpAny_typeNameOfWhole_itemiter hT (wpAny_pure ?_));refine wpAny_bind (wpAny_isOneOf_itemiter hT ?_)
  show wpAny _ _ (setField (.ref it) 3 (rawInt ((i:Int)+1)) >>= _) _ _ ⟨hp,g,dr,tk,os⟩;refine wpAny_bind (wpAny_setField_rec hit (by simp) λh₁ Rm hs₁=>?_)
  replace hs₁:Heap.SameBut it hp h₁:=hs₁
  replace Rm:IsItemIter h₁ it d (i+1) es.size ep ok ov:=by have e:((i+1:Nat):Int)=(i:Int)+1:=by lia
                                                           unfold IsItemIter;rw[e];simpa [rawInt]using Rm
  have hT₁:Shared.TypeIs ⟨h₁,g,dr,tk,os⟩ (.ref it) "dict_itemiterator":=⟨_,Rm,rfl⟩
  refine wpAny_bind (wpAny_holding ?_);refine wpAny_bind (wpAny_isOneOf_itemiter hT₁ ?_);refine wpAny_bind (wpAny_isOneOf_itemiter hT₁ ?_)
  show wpAny _ _ (Builtin.Dict_items.pairFromOwner (.ref it) 6 es[i].key es[i].val) _ _ ⟨h₁,g,dr,tk,os⟩;unfold Builtin.Dict_items.pairFromOwner
  refine wpAny_bind (wpAny_newTuple ?_)
  have Rl:IsItemIter (h₁.push {cls:=.type "tuple",data:=.seq #[es[i].key,es[i].val]}) it d (i+1) es.size ep ok ov:=Heap.get?_push_of_some _ Rm
  generalize Tp:h₁.push {cls:=.type "tuple",data:=.seq #[es[i].key,es[i].val]}=h₂ at Rl
  have Tc:h₁.objs.size=hp.objs.size:=hs₁.1;have hil:it<hp.objs.size:=Heap.lt_size hit
  have ht₂:h₂.get? hp.objs.size=some {cls:=.type "tuple",data:=.seq #[es[i].key,es[i].val]}:=by rw[←Tp,←Tc];exact Heap.get?_push_size _ rfl
  have hz₂:h₂.objs.size=hp.objs.size+1:=by rw[←Tp,Heap.size_push,Tc]
  have hk₂:∀b o,b≠it->hp.get? b=some o->h₂.get? b=some o:=λb o hb e=>by rw[←Tp];exact Heap.get?_push_of_some _ (hs₁.extBut b o hb e)
  show wpAny _ _ (Builtin.Dict_items.ownedTupleIsFree (.ref it) >>= _) _ _ ⟨h₂,g,dr,tk,os⟩;rw[Tc]
  clear Tp Rm hs₁ hT₁ Tc h₁;refine wpAny_bind ?_
  unfold Builtin.Dict_items.ownedTupleIsFree;refine wpAny_bind (wpAny_field Rl rfl (x:=.none) rfl (wpAny_pure ?_))
  simp only[if_true];refine wpAny_bind (wpAny_field Rl rfl (x:=ok) rfl (wpAny_bind (wpAny_field Rl rfl (x:=ov) rfl ?_)))
  refine wpAny_bind (wpAny_setField_rec Rl (by simp) λh₃ Wi QK=>?_);replace QK:Heap.SameBut it h₂ h₃:=QK
  replace Wi:IsItemIter h₃ it d (i+1) es.size ep es[i].key ov:=Wi;refine wpAny_bind (wpAny_setField_rec Wi (by simp) λh₄ Wh QJ=>?_)
  replace QJ:Heap.SameBut it h₃ h₄:=QJ;replace Wh:IsItemIter h₄ it d (i+1) es.size ep es[i].key es[i].val:=Wh
  refine wpAny_bind (wpAny_setField_rec Wh (by simp) λh₅ Wg QI=>?_);replace QI:Heap.SameBut it h₄ h₅:=QI
  replace Wg:IsItemIterOut h₅ it d (i+1) es.size ep es[i].key es[i].val hp.objs.size:=Wg;refine wpAny_bind (wpAny_setField_rec Wg (by simp) λh₆ Wf QH=>?_)
  replace QH:Heap.SameBut it h₅ h₆:=QH;replace Wf:IsItemIterOut h₆ it d (i+1) es.size ep es[i].key es[i].val hp.objs.size:=Wf
  refine wpAny_bind (wpAny_letGo (wpAny_pure (wpAny_pure ⟨_,rfl,wpAny_pure (hQ h₆ Wf ?_ ?_ ?_)⟩)))
  · exact QH.extBut _ _ (Nat.ne_of_gt hil) (QI.extBut _ _ (Nat.ne_of_gt hil) (QJ.extBut _ _ (Nat.ne_of_gt hil) (QK.extBut _ _ (Nat.ne_of_gt hil) ht₂)))
  · show h₆.objs.size=hp.objs.size+1;rw[QH.1,QI.1,QJ.1,QK.1,hz₂]
  · exact λb o hb e=>QH.extBut b o hb (QI.extBut b o hb (QJ.extBut b o hb (QK.extBut b o hb (hk₂ b o hb e))))
theorem VB{Q:Option Value->Shared->Prop}(hh:A.handled=none)(hit:IsItemIter s.heap it d i es.size ep ok ov)(x:Raw s.heap d es ep)(hi:es.size<=i)(hQ:∀h',Heap.ExtBut it s.heap h'->Q none {s with heap:=h'}):wpAny (model prog w) A (pyNext (.ref it)) Q E s:=by
 obtain⟨od,hod,hcd,Ax⟩:=x;have hT:s.TypeIs (.ref it) "dict_itemiterator":=⟨_,hit,rfl⟩
 unfold pyNext;refine wpAny_bind (wpAny_attempt (wpAny_callSpecial?_slot (name:=Str.ofString "__next__") hT F.slot_dict_itemiterator_next (wpAny_call_entry F.slot_dict_itemiterator_next hT F.entry_dict_itemiterator_next ?_ (F.args_dict_itemiterator_next_1 _))))
 refine wpAny_bind (wpAny_pure (wpAny_bind (wpAny_bind ?_)))
 refine wpAny_bind (wpAny_typeNameOfWhole_itemiter hT (wpAny_pure ?_));refine wpAny_bind (wpAny_fieldsOf hit rfl ?_)
 have hown:Builtin.Dict_items.ownsTuple "dict_itemiterator"=true:=by decide
 simp only[hown,if_true];show wpAny _ _ (if(Value.ref d==Value.none)=true then _ else _) _ _ s
 rw[if_neg (show¬((Value.ref d==Value.none)=true)from Bool.false_ne_true)];refine wpAny_bind (wpAny_pure (wpAny_bind (wpAny_dictEntries hod Ax ?_)))
 rw[if_neg (by simp)];refine wpAny_bind (wpAny_pure (wpAny_bind (wpAny_dictEpoch hod Ax ?_)))
 rw[if_neg (by simp)];refine wpAny_pure ?_
 simp only[show¬((i:Int)<0)from by lia,if_false,Int.toNat_natCast,Array.getElem?_eq_none hi];refine wpAny_bind ?_
 refine wpAny_bind (wpAny_typeNameOfWhole_itemiter hT (wpAny_pure ?_));show wpAny _ _ (setField (.ref it) 2 .none >>= _) _ _ s
 refine wpAny_bind (wpAny_setField hit rfl (by simp) ?_);show wpAny _ _ (newExc (.type "StopIteration") [] >>= _) _ _ _
 refine wpAny_bind ?_;simp only[newExc,newTuple]
 refine wpAny_bind (wpAny_newObj_type ?_ (by size_fits));refine wpAny_bind (m:=firstArgMember _ _) (wpAny_of_eq (a:=Value.none) (by first|rfl|(simp only[firstArgMember];rfl)) ?_)
 refine wpAny_newObj_type ?_ (by size_fits);simp only[raiseNew]
 refine wpAny_bind (wpAny_handled ?_);rw[show A.in1.handled=none from hh]
 refine wpAny_bind (wpAny_pure (wpAny_throw ?_));refine wpAny_bind (wpAny_isInstance (T:="StopIteration") (b:=true) ⟨_,Heap.get?_push_size _ rfl,rfl⟩ isSubtype_stop ?_)
 exact wpAny_pure (hQ _ (((Heap.SameBut.update ..).extBut.push _).push _))
end
end RD
namespace L2
open PySem PySem.Spec PyProof.Rows
section
variable {X:Cx} {pins:List (Addr×Obj)} {σ:St} {H:Hp} {s:Shared} {d:Addr} {o:Obj} {u:HO} {kvs:List (List Key×V)}
theorem Inv.OL(I:Inv X pins σ H s)(e:H d=some (.eF o u))(h0:∀o' u',X.H₀ d≠some (.eF o' u')):Inv X pins σ (upd H d u) s:=by
 have ne:∀{b:Addr},H b=none->b≠d:=λz q=>by rw[q,e]at z;cases z
 refine⟨I.ok,I.os,I.bare,⟨I.base.keep,I.base.slot,λb ob q n hx=>?_,I.base.there,λb xs q=>?_,λb ob v q=>?_,λb ps q=>?_⟩,I.loc,I.cell,by rw[ai (ne I.free)];exact I.free,λx c q=>by rw[ai (ne (I.gx x c q))];exact I.gx x c q,λp hp=>?_,λb ob q=>?_,I.len⟩
 ·have z:=I.base.free b ob q n hx
  rw[ai (ne z)];exact z
 ·have z:=I.base.tups b xs q
  rw[ai (aN z e (by intro y;cases y))];exact z
 ·have z:=I.base.mG b ob v q
  rw[ai (λy=>h0 ob v (by rw[←y];exact q))];exact z
 ·obtain⟨m,z⟩:=I.base.qh b ps q
  exact⟨m,by rw[ai (aN z e (by intro y;cases y))];exact z⟩
 ·obtain⟨q,n,r⟩:=I.pin p hp
  exact⟨q,by rw[ai (ne n)];exact n,r⟩
 ·have ow:∀{c a:Addr},H c=some (.own a)->upd H d u c=some (.own a):=λz=>by rw[ai (aN z e (by intro y;cases y))];exact z
  have tp:∀{c:Addr}{xs:List V},H c=some (.tup xs)->upd H d u c=some (.tup xs):=λz=>by rw[ai (aN z e (by intro y;cases y))];exact z
  by_cases hb:b=d
  ·subst hb
   rw[af]at q;cases q
   obtain⟨_,z⟩:=(show cA X.prog X.w H s.heap b (.eF o u)from I.hok b _ e)
   exact z.stay (λ_ _ _ y=>y) (λ_ y=>ow y) λ_ _ y=>tp y
  ·rw[ai hb]at q
   exact(I.hok b ob q).stay (λ_ _ _ y=>y) (λ_ y=>ow y) λ_ _ y=>tp y
def Ey:HO->Prop
 |.eF _ _=>False
 |_=>True
inductive CQ(t:TE)(σ:St)(H:Hp)(Q:VK):Prop
 |mk(d:_)(u:_):(H d=some u)->(Ey u)->(t σ H λv H'=>∃o,H' d=some (.eF o u)/\Q v (upd H' d u))->CQ t σ H Q
def ON(t:TE):TE:=λσ H Q=>CQ t σ H Q
theorem Ab{e:Expr}{t:TE}(h:PE X e t):PE X e (ON t):=by
 intro pins s σ H Q I hq
 obtain⟨d,u,hd,hn,q⟩:=hq
 refine dm (h pins s σ H _ I q) λv s1 ⟨x,H1,I1,r,o,e1,q1⟩=>⟨x,_,I1.OL e1 λo' u' z=>?_,r,q1⟩
 have:=I.base.mG d o' u' z
 rw[hd]at this;cases this
 exact hn
theorem p_{P:Program}{w:World}{H:Hp}{h:Heap}{es:Array DictEntry}{ep:Nat}(ok:kZ P w H h)(e:H d=some (.eF o (.dT kvs)))(ho:o.data=.dict es ep):
  ∃xs,KT H kvs xs/\RD.Raw h d es ep/\es.toList=xs.map (entryOfKey (tupleKind (bF P w)))/\es.size=kvs.length/\(d==sysModules)=false:=by
 obtain⟨h1,_,hd,xs,rel,o',es',Ov,h2,h3,h4,h5,_⟩:=(show cA P w H h d (.eF o (.dT kvs))from ok d _ e)
 rw[h1]at h2;cases h2
 rw[ho]at h4;cases h4
 exact⟨xs,rel,⟨o,h1,h3,ho⟩,h5,by have:=congrArg List.length h5;rw[List.length_map,←Paired.length rel]at this;simpa using this,hd⟩
theorem KT.at{xs:List (List Key×Addr×Value)}(r:KT H kvs xs){i:Nat}(hi:i<kvs.length):∃k v x,kvs[i]? = some (k,v)/\xs[i]? = some x/\H x.2.1=some (.tup (k.map kV))/\RelV v x.2.2:=by
 induction r generalizing i with
 |nil=>exact absurd hi (by simp)
 | @cons p q ps qs h t ih=>
  cases i with
  |zero=>exact⟨p.1,p.2,q,rfl,rfl,h.2.1,h.2.2⟩
  |succ i=>
   obtain⟨k,v,x,h1,h2,h3⟩:=ih (i:=i) (by simpa using hi)
   exact⟨k,v,x,by simpa using h1,by simpa using h2,h3⟩
def Sl(d:Addr)(o:Obj):It:=⟨λi H=>∃kvs,H d=some (.eF o (.dT kvs))/\i<kvs.length,λi H x H'=>H'=H/\∀kvs,H d=some (.eF o (.dT kvs))->∃k v b,kvs[i]? = some (k,v)/\x=.ref b/\H b=some (.tup (k.map kV)),λi H=>∃kvs,H d=some (.eF o (.dT kvs))/\kvs.length=i⟩
def Sm(d:Addr)(o:Obj):It:=⟨λi H=>∃kvs,H d=some (.eF o (.dT kvs))/\i<kvs.length,λi H x H'=>∀kvs,H d=some (.eF o (.dT kvs))->∃k v b t,kvs[i]? = some (k,v)/\x=.ref t/\H t=none/\H b=some (.tup (k.map kV))/\H'=upd H t (.tup [.ref b,v]),λi H=>∃kvs,H d=some (.eF o (.dT kvs))/\kvs.length<=i⟩
theorem xG{P:Program}{w:World}{K:Fg7}{tg:Expr}{es:Array DictEntry}{ep:Nat}(it:Addr)(ho:o.data=.dict es ep):Turn P w K tg (Sl d o) [it] it (λi h=>h.IsKeyIter it d i es.size ep)where
 mem:=by simp
 obj:=λi h st b hb=>by
  have e:b=it:=by simpa using hb
  subst e
  obtain⟨o',e,c,dd⟩:=st
  exact⟨o',e,λv z=>by rw[dd]at z;cases z⟩
 keep:=λi h h' st k=>st.at λo e=>k it (by simp) o e
 item:=by
  intro X hP hw hK hc i pins s σ H E I hf st hg
  subst hP hw hK
  obtain⟨kvs,hk,hi⟩:=hg
  obtain⟨xs,rel,raw,he,hz,hd⟩:=p_ I.hok hk ho
  obtain⟨k,v,x,h1,h2,h3,h4⟩:=rel.at hi
  obtain⟨f0,f1,f2,f3,f4,f5⟩:=hf it (by simp)
  have Rf:i<es.size:=by lia
  refine RD.next st raw Rf λh' st' sb=>?_
  have I1:Inv X pins σ H {s with heap:=h'}:=I.turned (t':=s.toks) (λb ob hb e=>(sb.2 b hb).trans e) f0 f1 f3 f4 f5
  obtain⟨o',e',c',Lc⟩:=id st'
  have ek:es[i].key=.ref x.2.1:=by
   have z:=entry_at he i
   rw[h2,Array.getElem?_eq_getElem Rf]at z
   have z':=Option.some.inj z
   rw[z'];rfl
  refine⟨_,rfl,sV (s:={s with heap:=h'}) e' c' Lc (by decide) ⟨.ref x.2.1,H,I1,by rw[ek];rfl,⟨rfl,λkvs' hk'=>?_⟩,st',λb hb=>(hf b hb).1⟩⟩
  rw[hk]at hk';cases hk'
  exact⟨k,v,x.2.1,h1,rfl,h3⟩
 done:=by
  intro X hP hw hK hc i pins s σ H E I hf st hg
  subst hP hw hK
  obtain⟨kvs,hk,hi⟩:=hg
  obtain⟨xs,rel,raw,he,hz,hd⟩:=p_ I.hok hk ho
  obtain⟨f0,f1,f2,f3,f4,f5⟩:=hf it (by simp)
  obtain rfl:i=es.size:=by lia
  exact RD.fin (I.ok.hd hc) st raw λh' eb=>⟨rfl,I.turned (t':=s.toks) (λb ob hb e=>eb b ob hb e) f0 f1 f3 f4 f5⟩
 self:=λ_ _ _ _ _ st h=>wpAny_pyIter_keyiter st h
theorem uY{P:Program}{w:World}{K:Fg7}{elts:List Expr}{x1}{tpos:Pos}{es:Array DictEntry}{ep:Nat}(it:Addr)(ho:o.data=.dict es ep):Turn P w K (.Tuple elts x1 tpos) (Sm d o) [it] it (λi h=>∃ok ov,IsItemIter h it d i es.size ep ok ov)where
 mem:=by simp
 obj:=λi h ⟨ok,ov,st⟩ b hb=>by
  have e:b=it:=by simpa using hb
  subst e
  exact⟨_,st,λv z=>by
   have z':Data.fields _=Data.cell v:=z
   cases z'⟩
 keep:=λi h h' ⟨ok,ov,st⟩ k=>⟨ok,ov,k it (by simp) _ st⟩
 item:=by
  intro X hP hw hK hc i pins s σ H E I hf st hg
  subst hP hw hK
  obtain⟨ok,ov,st⟩:=st
  obtain⟨kvs,hk,hi⟩:=hg
  obtain⟨xs,rel,raw,he,hz,hd⟩:=p_ I.hok hk ho
  obtain⟨k,v,x,h1,h2,h3,h4⟩:=rel.at hi
  obtain⟨f0,f1,f2,f3,f4,f5⟩:=hf it (by simp)
  have Rf:i<es.size:=by lia
  have ee:es[i].key=.ref x.2.1/\es[i].val=x.2.2:=by
   have z:=entry_at he i
   rw[h2,Array.getElem?_eq_getElem Rf]at z
   have z':=Option.some.inj z
   rw[z'];exact⟨rfl,rfl⟩
  refine RD.Qt st raw Rf λh' st' ht' hsz' kp'=>⟨_,rfl,?_⟩
  rw[ee.1,ee.2]at st' ht'
  refine wpAny_letOwnedTupleGo_items (s:={s with heap:=h'}) st' λh2' st2 sb=>?_
  have Ys:it<s.heap.objs.size:=Heap.lt_size st
  have kp:∀b ob,b≠it->s.heap.get? b=some ob->h2'.get? b=some ob:=λb ob hb e=>sb.extBut b ob hb (kp' b ob hb e)
  have htn:h2'.get? s.heap.objs.size=some {cls:=.type "tuple",data:=.seq #[.ref x.2.1,x.2.2]}:=sb.extBut _ _ (Nat.ne_of_gt Ys) ht'
  have I1:Inv X pins σ H {s with heap:=s.heap}:=I
  have fr:H s.heap.objs.size=none:=I.hok.fresh (Nat.le_refl _)
  have I2:Inv X pins σ (upd H s.heap.objs.size (.tup [.ref x.2.1,v])) {s with heap:=h2'}:=by
   have PF:∀{b:Addr}{ob:HO},H b=some ob->b≠it:=λe z=>by rw[z,f0]at e;cases e
   refine I.step (g':=s.gens) (d':=s.drawn) (t':=s.toks) (ch:=[it]) (λb hb=>?_) (λb ob _ _ hc' e _=>kp b ob (λz=>hc' (by simp[z])) e) (λb ob _ _ hc' e _=>⟨ob.slots,kp b ob (λz=>hc' (by simp[z])) e⟩)
    (λb ob _ e n=>by rw[ai (Nat.ne_of_lt (Heap.lt_size e))];exact n) (λb ob hc' e=>⟨ob,kp b ob (λz=>hc' (by simp[z])) e⟩)
    (λb ys e=>by rw[ai (au e fr)];exact e) (λb ob w' e=>by rw[ai (au e fr)];exact e) (λb ps e=>⟨#[],by rw[ai (au e fr),e];simp⟩) (λm hm=>?_) (λb ob e=>?_) I.bare
   ·have e:b=it:=by simpa using hb
    subst e
    exact⟨f3,f1,f4,f5⟩
   ·obtain⟨ob,es',Ov,hob,r⟩:=hm
    exact⟨ob,es',Ov,kp _ _ (Ne.symm f1) hob,r⟩
   ·by_cases hb:b=s.heap.objs.size
    ·subst hb
     rw[af]at e;cases e
     exact⟨by show 2<=sizeLine;decide,[.ref x.2.1,x.2.2],.cons rfl (.cons h4 .nil),⟨_,htn,rfl,_,rfl⟩⟩
    ·rw[ai hb]at e
     refine(I.hok b ob e).stay (λc u hc' q=>kp c u ?_ q) (λc q=>by rw[ai (au q fr)];exact q) λc ys q=>by rw[ai (au q fr)];exact q
     rcases hc' with z|z
     ·rw[z];exact PF e
     ·exact PF z
  refine⟨.ref s.heap.objs.size,_,I2,rfl,λkvs' hk'=>?_,⟨_,_,st2⟩,λb hb=>?_⟩
  ·rw[hk]at hk';cases hk'
   exact⟨k,v,x.2.1,_,h1,rfl,fr,h3,rfl⟩
  ·have e:b=it:=by simpa using hb
   subst e
   rw[ai (Nat.ne_of_lt Ys)];exact f0
 done:=by
  intro X hP hw hK hc i pins s σ H E I hf st hg
  subst hP hw hK
  obtain⟨ok,ov,st⟩:=st
  obtain⟨kvs,hk,hi⟩:=hg
  obtain⟨xs,rel,raw,he,hz,hd⟩:=p_ I.hok hk ho
  obtain⟨f0,f1,f2,f3,f4,f5⟩:=hf it (by simp)
  exact RD.VB (I.ok.hd hc) st raw LI λh' eb=>⟨rfl,I.turned (t':=s.toks) (λb ob hb e=>eb b ob hb e) f0 f1 f3 f4 f5⟩
 self:=λ_ _ _ _ _ ⟨_,_,st⟩ h=>PySem.W.kcp_self st h
end
def ux(v d:Addr):Heap->Prop:=λh=>h.IsItemsView v d
inductive zV(x:V)(xs:List V)(H:Hp)(Q:VK):Prop
 |mk(d:_)(kvs:_):(x=.ref d)->(xs=[])->(H d=some (.dT kvs))->(∀v,H v=none->Q (.ref v) (upd H v (.ext (ux v d))))->zV x xs H Q
def LG:V->List V->Hp->VK->Prop:=λx xs H Q=>zV x xs H Q
inductive Qy(R:It->Hp->Prop)(x:V)(H1:Hp):Prop
 |mk(d:_)(kvs:_):(x=.ref d)->(H1 d=some (.dT kvs))->(∀o,R (Sl d o) (upd H1 d (.eF o (.dT kvs))))->Qy R x H1
def iDK(te:TE):TI:=λσ H R=>te σ H λx H1=>Qy R x H1
inductive Qz(R:It->Hp->Prop)(x:V)(H1:Hp):Prop
 |mk(v:_)(d:_)(kvs:_):(x=.ref v)->(H1 v=some (.ext (ux v d)))->(H1 d=some (.dT kvs))->(∀o,R (Sm d o) (upd H1 d (.eF o (.dT kvs))))->Qz R x H1
def iDI(te:TE):TI:=λσ H R=>te σ H λx H1=>Qz R x H1
section
variable {X:Cx} {pins:List (Addr×Obj)} {σ:St} {H:Hp} {s:Shared} {d:Addr} {kvs:List (List Key×V)}
theorem Inv.freeze(I:Inv X pins σ H s)(e:H d=some (.dT kvs)):∃o es ep,o.data=.dict es ep/\RD.Raw s.heap d es ep/\es.size=kvs.length/\(d==sysModules)=false/\Inv X pins σ (upd H d (.eF o (.dT kvs))) s:=by
 obtain⟨z,hd,xs,rel,o,es,ep,h1,h2,h3,h4,h5⟩:=(show cA X.prog X.w H s.heap d (.dT kvs)from I.hok d _ e)
 have hsz:es.size=kvs.length:=by have:=congrArg List.length h4;rw[List.length_map,←Paired.length rel]at this;simpa using this
 refine⟨o,es,ep,h3,⟨o,h1,h2,h3⟩,hsz,hd,I.write (t':=s.toks) (x:=d) (e:=d) (h':=s.heap) (by rw[e];exact True.intro) (.inl rfl) (λ_ _ _ q=>q) ⟨o,h1⟩ ⟨h1,z,hd,xs,?_,o,es,ep,h1,h2,h3,h4,h5⟩⟩
 exact Paired.EF rel λp q r=>⟨r.1,by rw[ai (aN r.2.1 e (by intro y;cases y))];exact r.2.1,r.2.2⟩
theorem vV:Xa X "dict.items" LG:=by
 intro pins s σ H x xs v us Q I r rv h
 obtain⟨d,kvs,rfl,rfl,hk,q⟩:=h
 cases r
 cases rv
 obtain⟨o,es,ep,_,raw,_,hd,_⟩:=I.freeze hk
 refine RD.Qq hd raw ⟨.ref s.heap.objs.size,_,I.laid (t':=s.toks) (λb u e=>Heap.get?_push_of_some _ e) (Nat.le_refl _) (o:=.ext (ux s.heap.objs.size d)) ?_,rfl,q _ (I.hok.fresh (Nat.le_refl _))⟩
 exact⟨⟨_,Heap.get?_push_size _ rfl,rfl,rfl⟩,⟨_,Heap.get?_push_size _ rfl⟩,λh1 h2 ⟨o',e',c⟩ k=>⟨o',k o' e',c⟩⟩
theorem Ei{tg e:Expr}{te:TE}(he:PE X e te):PI X tg e (iDK te):=by
 intro pins s σ H R I h
 refine dm (he pins s σ H _ I h) λv s1 ⟨x,H1,I1,r1,d,kvs,ex,hk,q⟩=>?_
 subst ex
 cases r1
 obtain⟨o,es,ep,ho,raw,hz,hd,I2⟩:=I1.freeze hk
 refine RD.iter hd raw ?_
 refine⟨s1.heap.objs.size,[s1.heap.objs.size],_,_,_,rfl,I2.kept (t':=s1.toks) λb ob e=>Heap.get?_push_of_some _ e,xG _ ho,⟨_,Heap.get?_push_size _ rfl,rfl,rfl⟩,λb hb=>?_,q o⟩
 have e:b=s1.heap.objs.size:=by simpa using hb
 subst e
 exact I2.qH (Nat.le_refl _) (I2.hok.fresh (Nat.le_refl _))
theorem sN{elts:List Expr}{x1}{tpos:Pos}{e:Expr}{te:TE}(he:PE X e te):PI X (.Tuple elts x1 tpos) e (iDI te):=by
 intro pins s σ H R I h
 refine dm (he pins s σ H _ I h) λv s1 ⟨x,H1,I1,r1,vw,d,kvs,ex,hv,hk,q⟩=>?_
 subst ex
 cases r1
 obtain⟨o,es,ep,ho,raw,hz,hd,I2⟩:=I1.freeze hk
 obtain⟨view,_⟩:=(show cA X.prog X.w H1 s1.heap vw (.ext (ux vw d))from I1.hok vw _ hv)
 refine RD.Qu view raw ?_
 refine⟨s1.heap.objs.size,[s1.heap.objs.size],_,_,_,rfl,I2.kept (t':=s1.toks) λb ob e=>Heap.get?_push_of_some _ e,uY _ ho,⟨_,_,Heap.get?_push_size _ rfl⟩,λb hb=>?_,q o⟩
 have e:b=s1.heap.objs.size:=by simpa using hb
 subst e
 exact I2.qH (Nat.le_refl _) (I2.hok.fresh (Nat.le_refl _))
end
theorem qc{J:It}{n:Nat}{g:TG}{tc:TT}{te:TE}{js:List (Option Nat)}{σ:St}{H1:Hp}{D:Addr}{R:Hp->Prop}(Pv:Nat->List V->Hp->Prop)(h0:Pv 0 [] (upd H1 D (.lst [])))(hD:∀i ys H,Pv i ys H->H D=some (.lst ys))
  (hg:∀i ys H,i<n->Pv i ys H->J.go i H)(he:∀ys H,Pv n ys H->J.stop n H)
  (hs:∀i x ys H H',i<n->Pv i ys H->J.CD i H x H'->g x (dw js σ) H' λσ2 H2=>wY (dw js σ) σ2/\tc σ2 H2 λb H3=>
   if b=true then te σ2 H3 λv H4=>∃zs,H4 D=some (.lst zs)/\zs.length<sizeLine/\Pv (i+1) (zs++[v]) (upd H4 D (.lst (zs++[v])))else∃zs,Pv (i+1) zs H3)
  (hd:∀ys H,Pv n ys H->R H):
  ∃W:Nat->Nat->List V->Hp->Prop,(∃m,W 0 m [] (upd H1 D (.lst [])))/\
   ∀i m xs H,W i m xs H->H D=some (.lst xs)/\((J.stop i H/\R H)\/(J.go i H/\∃N:List V->Hp->Prop,(∀ys H',N ys H'->∃m',m'<m/\W (i+1) m' ys H')/\∀x H',J.CD i H x H'->g x (dw js σ) H' λσ2 H2=>wY (dw js σ) σ2/\tc σ2 H2 λb H3=>
    if b=true then te σ2 H3 λv H4=>∃ys,H4 D=some (.lst ys)/\ys.length<sizeLine/\N (ys++[v]) (upd H4 D (.lst (ys++[v])))
    else∃ys,N ys H3)):=by
 refine⟨λi m ys H=>m=n-i/\i<=n/\Pv i ys H,⟨n,by simp,Nat.zero_le _,h0⟩,?_⟩
 rintro i m ys H ⟨rfl,hi,p⟩
 refine⟨hD i ys H p,?_⟩
 by_cases hlt:i<n
 ·exact .inr ⟨hg i ys H hlt p,Pv (i+1),λzs H' p'=>⟨n-(i+1),by lia,rfl,hlt,p'⟩,λx H' y=>hs i x ys H H' hlt p y⟩
 ·have e:i=n:=by lia
  subst e
  exact .inl ⟨he ys H p,hd ys H p⟩
theorem dQ{K:Fg7}{a:Addr}{xs:List V}{g:TG}{tc:TT}{te:TE}{js:List (Option Nat)}{σ:St}{H1:Hp}{D:Addr}{R:Hp->Prop}(Pv:Nat->List V->Hp->Prop)(h0:Pv 0 [] (upd H1 D (.lst [])))(hD:∀i ys H,Pv i ys H->H D=some (.lst ys))
  (hl:∀i ys H,i<=xs.length->Pv i ys H->aZ K H a xs)
  (hs:∀i x ys H,xs[i]? = some x->Pv i ys H->g x (dw js σ) H λσ2 H2=>wY (dw js σ) σ2/\tc σ2 H2 λb H3=>
   if b=true then te σ2 H3 λv H4=>∃zs,H4 D=some (.lst zs)/\zs.length<sizeLine/\Pv (i+1) (zs++[v]) (upd H4 D (.lst (zs++[v])))else∃zs,Pv (i+1) zs H3)
  (hd:∀ys H,Pv xs.length ys H->R H):
  ∃W:Nat->Nat->List V->Hp->Prop,(∃m,W 0 m [] (upd H1 D (.lst [])))/\
   ∀i m xs H,W i m xs H->H D=some (.lst xs)/\(((Jp K a).stop i H/\R H)\/((Jp K a).go i H/\∃N:List V->Hp->Prop,(∀ys H',N ys H'->∃m',m'<m/\W (i+1) m' ys H')/\∀x H',(Jp K a).CD i H x H'->g x (dw js σ) H' λσ2 H2=>wY (dw js σ) σ2/\tc σ2 H2 λb H3=>
    if b=true then te σ2 H3 λv H4=>∃ys,H4 D=some (.lst ys)/\ys.length<sizeLine/\N (ys++[v]) (upd H4 D (.lst (ys++[v])))
    else∃ys,N ys H3)):=
 qc (J:=Jp K a) (n:=xs.length) Pv h0 hD (λi ys H hi p=>⟨xs,xs[i],hl i ys H (Nat.le_of_lt hi) p,by simp[hi]⟩) (λys H p=>⟨xs,hl _ ys H (Nat.le_refl _) p,Nat.le_refl _⟩)
  (λi x ys H H' hi p y=>by
   obtain⟨e,y⟩:=y
   subst e
   exact hs i x ys _ (y xs (hl i ys _ (Nat.le_of_lt hi) p)) p) hd
structure bw(K:Fg7)(C:Addr)(m qual:Str)(st:Stmt):Prop where
 ex:∃(f:Addr) (oc:Value) (od:Option Addr) (kV doc pm:Value) (an:Option Addr) (cdv ct:Value) (osl:Array (Option Value)),
  PySem.W.findIn K (.ref C) m=some (some (.ref f))/\PySem.W.isFn K (.ref f)=true/\K.lookup f=some ⟨oc,od,.func (PySem.W.fnOf m qual (aG st) (aF st) (ao st) .none kV doc pm an cdv ct),osl⟩/\PySem.W.codeIn K cdv qual=true/\PySem.W.keepIn K (.ref f)=true
theorem bw.mk'{K:Fg7}{C:Addr}{m qual:Str}{st:Stmt}{f:Addr}{oc:Value}{od:Option Addr}{kV doc pm:Value}{an:Option Addr}{cdv ct:Value}{osl:Array (Option Value)}(a:PySem.W.findIn K (.ref C) m=some (some (.ref f)))(i:PySem.W.isFn K (.ref f)=true)
  (l:K.lookup f=some ⟨oc,od,.func (PySem.W.fnOf m qual (aG st) (aF st) (ao st) .none kV doc pm an cdv ct),osl⟩)(c:PySem.W.codeIn K cdv qual=true)(k:PySem.W.keepIn K (.ref f)=true):bw K C m qual st:=⟨⟨f,oc,od,kV,doc,pm,an,cdv,ct,osl,a,i,l,c,k⟩⟩
structure uQ(K:Fg7)(x:Str)(C:Addr):Prop where
 at_:PySem.W.nsIn K mainGlobals x=some (some (.ref C))
 cl:Ct K C
 makes:PySem.W.makesIn K C=true
 kp:PySem.W.keepIn K (.ref C)=true
def cW(P:Program)(w:World)(K:Fg7)(mg:Str->Option Value)(CX:Cu)(C:Addr)(m:Str)(ps:List Str)(k:Nat)(sp:Sp):Prop:=
 ∃(f:Addr) (fd:FuncData),Meth K C m f/\(∀us:List Value,us.length=ps.length->bindArgs fd ⟨us,[]⟩=pure (ps.zip us))/\∀base,mU P w K mg base CX k f fd ps sp
section
variable {P:Program} {w:World} {K:Fg7} {mg:Str->Option Value} {CX:Cu} {C:Addr} {m:Str} {ps:List Str} {j k:Nat} {sp uR:Sp}
theorem bw.fn{qual:Str}{st:Stmt}{N:List Str}(D:bw K C m qual st)(S:aM N ps (ao st))
  (hb:∀(kV doc pm:Value)(an:Option Addr)(cdv ct:Value)(us:List Value),us.length=ps.length->bindArgs (PySem.W.fnOf m qual (aG st) (aF st) (ao st) .none kV doc pm an cdv ct) ⟨us,[]⟩=pure (ps.zip us))
  (len:∀vs H Q E,sp vs H Q E->vs.length=ps.length)
  (hbody:∀(f:Addr)(base:Heap)(cdv:Value)(A:Around)(outer:List Env)(s:Shared)(H:Hp)(vs:List V)(Q:VK)(E:XK),dH k (A.deeper (envOfC qual (ao st) s.heap.objs.size f cdv))->sp vs H Q E->
   ∃t,uS (pJ jg P w K mg base N qual (ao st) f cdv A outer s H E).GF (aF st) t/\t {nx:=λ_ H'=>Q .dR H',rt:=Q} (start N vs) H):cW P w K mg jg C m ps (k+1) sp:=by
 obtain⟨f,oc,od,kV,doc,pm,an,cdv,ct,osl,a,i,l,c,kp⟩:=D.ex
 have F:Sq K m qual st f (PySem.W.fnOf m qual (aG st) (aF st) (ao st) .none kV doc pm an cdv ct):=FD l c kp
 exact⟨f,_,⟨a,i,kp⟩,hb kV doc pm an cdv ct,λbase=>F.ok S len (hbody f base)⟩
end
section
variable {X:Cx} {CX:Cu} {k:Nat} {C:Addr} {ps:List Str} {sp:Sp} {E:XK} {x m:Str} {p pos apos:Pos} {e o:Expr} {es:List Expr} {ta:TE} {t:TA}
theorem di{pl:Sem Bool}(he:PE X o ta)(c:Ct X.K C)(F:cW X.prog X.w X.K X.mg CX C m ps k sp)(hx:Passes CX X E)(hr:dH k X.A)(ha:PA X (e::es) t)
  (hst:starEach (e::es) X.env=(false,eval e X.env)::starEach es X.env:=by rfl)(hpl:(backTo pos (starEach es X.env)).any (·.1)=false:=by rfl)
  (ht:eval (.Call (.Attribute o m apos) (e::es) [] pos) X.env=(do let ov ←eval o X.env;standAt apos.atName;let(f,first) ←holding [ov] (getMethod ov m pl);callWith pos f first (backTo pos (starEach (e::es) X.env)) (backToKw pos (keywordEach [] X.env))):=by rfl):
  PE X (.Call (.Attribute o m apos) (e::es) [] pos) (zk C m sp [] E ta t):=by
 obtain⟨f,fd,h1,h2,h3⟩:=F
 exact HL he c h1 (h3 X.base) hr (.all h2) .nil hx ha hst hpl ht
theorem Bj{pl:Sem Bool}(he:PE X o ta)(c:Ct X.K C)(F:cW X.prog X.w X.K X.mg CX C m ps k sp)(hx:Passes CX X E)(hr:dH k X.A)
  (ht:eval (.Call (.Attribute o m apos) [] [] pos) X.env=(do let ov ←eval o X.env;standAt apos.atName;let(f,first) ←holding [ov] (getMethod ov m pl);callWith pos f first (backTo pos (starEach [] X.env)) (backToKw pos (keywordEach [] X.env))):=by rfl):
  PE X (.Call (.Attribute o m apos) [] [] pos) (zk C m sp [] E ta Lk):=by
 obtain⟨f,fd,h1,h2,h3⟩:=F
 exact Ek he c h1 (h3 X.base) hr (.all h2) .nil hx ht
theorem vO(c:uQ X.K x C)(M:MG X.K X.mg)(F:cW X.prog X.w X.K X.mg CX C "__init__" ps k sp)(hx:Passes CX X E)(hr:dH (k+1) X.A)(hg:Gl X x)(ha:PA X (e::es) t)
  (hdb:(x==("__debug__":Str))=false:=by decide)(he:starEach (e::es) X.env=(false,eval e X.env)::starEach es X.env:=by rfl)(hpl:(backTo pos (starEach es X.env)).any (·.1)=false:=by rfl):
  PE X (.Call (.Name x p) (e::es) [] pos) (JC C sp [] E t):=by
 obtain⟨f,fd,h1,h2,h3⟩:=F
 exact HM ⟨c.makes,h1.at_,h1.fn,c.kp⟩ (h3 X.base) hr hg (M.is _ _ c.at_) (.all h2) .nil hx ha hdb he hpl
end
section
variable {prog:Program} {w:World} {A:Around} {E:Value->Shared->Prop} {h:Heap} {g:Array GenState} {d:Drawn} {t:Nat} {os:OsState} {a C:Addr} {o:Obj} {K:Fg7} {x:Str}
end
section
variable {X:Cx}
end
section
variable {X:Cx} {K:Fg7}
theorem bh(e:X.K=K):Gs X (LF K):=by subst e;exact bC
theorem gP(e:X.K=K):iD X (binaryOp .Add) (Kg K):=by subst e;exact HW
theorem z_{es:List Expr}{k:Nat}{t:GJ}{n:Nat}{pos:Pos}(e:X.K=K)(hc:X.calm=true)(h:Ox X es t)(hn:(assignEach es X.env).length=n:=by rfl)(hst:(assignEach es X.env).findIdx? (·.1)=none:=by rfl):PG X (.Tuple es k pos) (Rz K n t):=by
 subst e;exact LP hc h hn hst
theorem HP{o:Expr}{ta:TE}{f:Str}{pos:Pos}(e:X.K=K)(he:PE X o ta)(hb:attributeBase o f X.env (eval o X.env)=eval o X.env:=by rfl):PE X (.Attribute o f pos) (GZ K ta f):=by
 subst e;exact dN he hb
variable {o e:Expr} {es:List Expr} {to:TE} {t:TA} {name:Str} {apos cpos:Pos} {T id:String} {r:V->List V->Hp->VK->Prop}
end
section
variable {X:Cx} {K:Fg7}
theorem kR{its:List Value}{ns:List Int}(hi:IntsAre its ns):∃xs:Array (Int×Tok),its.toArray=intItems xs/\ns=xs.toList.map (·.1):=by
 obtain⟨xs,e⟩:=hi.allInts.items
 exact⟨xs,e,by rw[←hi.numsOf,←nums_intItems,←e]⟩
inductive J_(K:Fg7)(xs:List V)(H:Hp)(Q:VK):Prop
 |mk(p:Addr)(ns:List Int):(xs=[.ref p])->(aZ K H p (ns.map V.int))->(0<ns.length)->(∀M,M∈ns->(∀a∈ns,M<=a)->Q (.int M) H)->J_ K xs H Q
def UM(K:Fg7):List V->Hp->VK->Prop:=λxs H Q=>J_ K xs H Q
inductive Ka(K:Fg7)(xs:List V)(H:Hp)(Q:VK):Prop
 |mk(p:Addr)(ns:List Int):(xs=[.ref p])->(aZ K H p (ns.map V.int))->(0<ns.length)->(∀M,M∈ns->(∀a∈ns,a<=M)->Q (.int M) H)->Ka K xs H Q
def UN(K:Fg7):List V->Hp->VK->Prop:=λxs H Q=>Ka K xs H Q
inductive JW(K:Fg7)(xs:List V)(H:Hp)(Q:VK):Prop
 |mk(p:Addr)(ns:List Int):(xs=[.ref p])->(aZ K H p (ns.map V.int))->(Q (.int ns.sum) H)->JW K xs H Q
def UI(K:Fg7):List V->Hp->VK->Prop:=λxs H Q=>JW K xs H Q
theorem tF(hc:X.calm=true):ir X (.builtin "min") (UM X.K):=by
 intro pins s σ H xs us Q I r h
 obtain⟨p,ns,rfl,hp,hz,q⟩:=h
 obtain⟨u,rfl,rx⟩:=vals1 r
 cases rx
 obtain⟨its,r',pl,hz'⟩:=I.list hp
 obtain⟨ys,e,hns⟩:=kR (intsAre_of r')
 have hl:=pl.isList
 rw[e]at hl
 have hsz:0<ys.size:=by rw[hns,List.length_map,Array.length_toList]at hz;exact hz
 refine min_intList (I.ok.hd hc) hl hsz λv h' tk hv hk=>?_
 obtain⟨t,rfl⟩:=intItems_at hv
 obtain⟨h1,h2⟩:=argBest_lt (numAt ys) (ys.size-1)
 refine⟨.int _,H,I.kept (t':=tk) hk,⟨t,rfl⟩,q _ ?_ λa ha=>?_⟩
 ·rw[hns,numAt_eq];exact getD_mem (by rw[List.length_map,Array.length_toList];lia)
 ·rw[hns]at ha
  obtain⟨j,hj,rfl⟩:=mem_getD ha;rw[List.length_map,Array.length_toList]at hj;rw[←numAt_eq];exact h2 j LI
theorem tG(hc:X.calm=true):ir X (.builtin "max") (UN X.K):=by
 intro pins s σ H xs us Q I r h
 obtain⟨p,ns,rfl,hp,hz,q⟩:=h
 obtain⟨u,rfl,rx⟩:=vals1 r
 cases rx
 obtain⟨its,r',pl,hz'⟩:=I.list hp
 obtain⟨ys,e,hns⟩:=kR (intsAre_of r')
 have hl:=pl.isList
 rw[e]at hl
 have hsz:0<ys.size:=by rw[hns,List.length_map,Array.length_toList]at hz;exact hz
 refine max_intList (I.ok.hd hc) hl hsz λv h' tk hv hk=>?_
 obtain⟨t,rfl⟩:=intItems_at hv
 obtain⟨h1,h2⟩:=argBest_gt (numAt ys) (ys.size-1)
 refine⟨.int _,H,I.kept (t':=tk) hk,⟨t,rfl⟩,q _ ?_ λa ha=>?_⟩
 ·rw[hns,numAt_eq];exact getD_mem (by rw[List.length_map,Array.length_toList];lia)
 ·rw[hns]at ha
  obtain⟨j,hj,rfl⟩:=mem_getD ha;rw[List.length_map,Array.length_toList]at hj;rw[←numAt_eq];exact h2 j LI
theorem Cb(hc:X.calm=true):ir X (.builtin "sum") (UI X.K):=by
 intro pins s σ H xs us Q I r h
 obtain⟨p,ns,rfl,hp,q⟩:=h
 obtain⟨u,rfl,rx⟩:=vals1 r
 cases rx
 obtain⟨its,r',pl,hz'⟩:=I.list hp
 obtain⟨ys,e,hns⟩:=kR (intsAre_of r')
 have hl:=pl.isList
 rw[e]at hl
 refine sum_intListG (I.ok.hd hc) hl λh' tk t' hk=>?_
 have e2:preSum (numAt ys) ys.size=ns.sum:=by rw[preSum_eq,List.take_of_length_le (by simp),hns]
 rw[e2]
 exact⟨.int _,H,I.kept (t':=tk) hk,⟨t',rfl⟩,q⟩
open Classical in
noncomputable def Ou(K:Fg7)(H:Hp)(d:Dv)(u:Value):Bool:=decide (Den K H u d)
inductive Kf(K:Fg7)(neg:Bool)(x:V)(y:V)(H:Hp)(Q:VK):Prop
 |mk(p:_)(ys:_)(d:_)(ds:_):(y=.ref p)->(aZ K H p ys)->(Dn K H x d)->(gf K H ys ds)->((∀e∈ds,fc e d=true/\e.dep<=30))->(∀b:Bool,(b=true↔d∈ds)->Q (.bl (if neg then !b else b)) H)->Kf K neg x y H Q
def Pj(K:Fg7)(neg:Bool):R2:=λx y H Q=>Kf K neg x y H Q
theorem sS{pins:List (Addr×Obj)}{σ:St}{H:Hp}{s:Shared}{A:Around}(I:Inv X pins σ H s)(hu:A.units+60<cLine){x:V}{v:Value}{d:Dv}(rx:RelV x v)(dx:Dn X.K H x d):∀{its:List Value}{ys:List V}{ds:List Dv},Vals ys its->gf X.K H ys ds->
  (∀e∈ds,fc e d=true/\e.dep<=30)->(∀u∈its,SeqAt.EqAt A s u v (Ou X.K H d u))/\(its.any (Ou X.K H d)=true↔d∈ds)
 |[],_,_,r,dn,hm=>by
  cases r
  cases dn
  exact⟨λu hu=>(nomatch hu),by simp⟩
 |u::us,_,_,r,dn,hm=>by
  cases r with
  | @cons y _ ys _ ru ZZ=>
   cases dn with
   | @cons _ _ e es dy GI=>
    obtain⟨h1,h2⟩:=sS I hu rx dx ZZ GI λe' m=>hm e' (.tail _ m)
    obtain⟨m1,m2⟩:=hm e (.head _)
    obtain⟨b,q,hb⟩:=iW I 30 (A:=A) m2 LI m1 dy dx ru rx
    have eb:Ou X.K H d u=b:=by
     rw[Bool.eq_iff_iff,hb]
     unfold Ou
     rw[@decide_eq_true_iff]
     constructor
     ·intro z;exact uC I ⟨y,ru,dy⟩ z
     ·intro z;exact z▸⟨y,ru,dy⟩
    refine⟨λu' m=>?_,?_⟩
    ·rcases List.mem_cons.mp m with rfl|m
     ·rw[eb];exact q
     ·exact h1 u' m
    ·rw[List.any_cons,Bool.or_eq_true,h2,eb,hb,List.mem_cons]
     constructor
     ·rintro(z|z)
      ·exact .inl z.symm
      ·exact .inr z
     ·rintro(z|z)
      ·exact .inl z.symm
      ·exact .inr z
theorem Bm(hu:X.A.units+64<cLine):iD X (compareOp .NotIn) (Pj X.K true):=by
 intro pins s σ H x y v u Q I rx ry h
 obtain⟨p,ys,d,ds,rfl,hp,dx,dn,hm,q⟩:=h
 cases ry
 obtain⟨its,r,pl,hz⟩:=I.list hp
 obtain⟨h1,h2⟩:=sS I (A:=X.A.in1) (by rw[in1_units];lia) rx dx r dn hm
 refine SeqAt.notIn_listAt (Ou X.K H d) pl.isList (λw hw=>h1 w (by simpa using hw)) ⟨.bl (!its.toArray.any (Ou X.K H d)),H,I,rfl,q _ ?_⟩
 rw[←h2];simp
theorem yh(e:X.K=K)(hu:X.A.units+64<cLine):iD X (compareOp .NotIn) (Pj K true):=by subst e;exact Bm hu
end
section
variable {X:Cx} {H:Hp}
theorem yb{K:Fg7}{its out:List Value}(p:its.Perm out):∀{ys:List V}{ds:List Dv},Vals ys its->gf K H ys ds->∃ps:List (V×Dv),ps.Perm (ys.zip ds)/\Vals (ps.map (·.1)) out/\gf K H (ps.map (·.1)) (ps.map (·.2)):=by
 have base:∀{its:List Value}{ys:List V}{ds:List Dv},Vals ys its->gf K H ys ds->(ys.zip ds).map (·.1)=ys/\(ys.zip ds).map (·.2)=ds:=λ{its ys ds} _ d=>by
  have hl:=d.length
  exact⟨List.map_fst_zip LI,List.map_snd_zip LI⟩
 induction p with
 |nil=>intro ys ds r d;exact⟨ys.zip ds,.refl _,by rw[(base r d).1];exact r,by rw[(base r d).1,(base r d).2];exact d⟩
 |cons x p ih=>
  intro ys ds r d
  cases r with
  |cons rx Bc=>cases d with
   |cons dx BY=>
    obtain⟨ps,h1,h2,h3⟩:=ih Bc BY
    exact⟨(_,_)::ps,h1.cons _,.cons rx h2,.cons dx h3⟩
 |swap x y l=>
  intro ys ds r d
  cases r with
  |cons rx Bc=>cases Bc with
   |cons ry JU=>cases d with
    |cons dx BY=>cases BY with
     |cons dy GI=>
      have e:=base JU GI
      refine⟨(_,_)::(_,_)::List.zip _ _,List.Perm.swap _ _ _,.cons ry (.cons rx ?_),.cons dy (.cons dx ?_)⟩
      ·show Vals (List.map _ _) _;rw[e.1];exact JU
      ·show gf K H (List.map _ _) (List.map _ _);rw[e.1,e.2];exact GI
 |trans p1 p2 ih1 ih2=>
  intro ys ds r d
  obtain⟨ps,h1,h2,h3⟩:=ih1 r d
  obtain⟨ps',KR,h2',h3'⟩:=ih2 h2 h3
  refine⟨ps',KR.trans ?_,h2',h3'⟩
  have e:(ps.map (·.1)).zip (ps.map (·.2))=ps:=by
   clear h1 h2 h3 KR h2' h3'
   induction ps with
   |nil=>rfl
   |cons a l ih=>rw[List.map_cons,List.map_cons,List.zip_cons_cons,ih]
  rw[e]
  exact h1
inductive sL(K:Fg7)(xs:List V)(H:Hp)(Q:VK):Prop
 |mk(p:_)(ys:_)(ds:_)(sh:_):(xs=[.ref p])->(aZ K H p ys)->(gf K H ys ds)->((∀d∈ds,Dv.isA sh d=true))->(sh.key=true)->(sh.dep<=30)->(TS.Fits ys.length)->(∀(l:Addr)(ps:List (V×Dv)),H l=none->ps.Perm (ys.zip ds)->(ps.map (·.2)).Pairwise (λd e=>aV d e≠.gt)->Q (.ref l) (upd H l (.lst (ps.map (·.1)))))->sL K xs H Q
def D_(K:Fg7):List V->Hp->VK->Prop:=λxs H Q=>sL K xs H Q
theorem gA(hu:X.A.units+64<cLine):ir X (.builtin "sorted") (D_ X.K):=by
 intro pins s σ H xs us Q I r h
 obtain⟨p,ys,ds,sh,rfl,hp,dn,ha,hk,hd,hz,q⟩:=h
 obtain⟨u,rfl,rx⟩:=vals1 r
 cases rx
 obtain⟨its,r',pl,hz'⟩:=I.list hp
 have hlen:=r'.length
 have den:∀v∈its,∃d,Den X.K H v d/\Dv.isA sh d=true:=λv m=>by
  obtain⟨i,hi⟩:=List.mem_iff_getElem?.mp m
  have hy:i<ys.length:=by have:=(List.getElem?_eq_some_iff.mp hi).1;lia
  obtain⟨u,eu,ru⟩:=r'.get (List.getElem?_eq_getElem hy)
  rw[hi]at eu;cases eu
  obtain⟨d,ed,dd⟩:=dn.get' (List.getElem?_eq_getElem hy)
  exact⟨d,⟨_,ru,dd⟩,ha d (List.mem_of_getElem? ed)⟩
 refine TS.CJ (κ:=sh.kind) (S:=Gr X.K H sh) (blt:=rJ X.K H) (qt I sh) pl.isList (by rw[show its.length=ys.length by lia];exact hz) (λv m=>den v m) (λh2 h' kp Q' q'=>?_) (λh2 h' kp x y Q' hx hy q'=>?_) λout p1 p2=>?_
 ·exact nQ (I.kept (t':=s.toks) kp:Inv X pins σ H {s with heap:=h'}) hk h2 den q'
 ·exact qN (I.kept (t':=s.toks) kp:Inv X pins σ H {s with heap:=h'}) hk (by rw[in1_units,in1_units];lia) hx hy q'
 ·obtain⟨ps,h3,h1,h2⟩:=yb (K:=X.K) (H:=H) p1.symm r' dn
  have hl':=dn.length
  have pw:=uf I h1 h2 (λd m=>by
   obtain⟨x,hx,rfl⟩:=List.mem_map.mp m
   exact ha _ (List.of_mem_zip (h3.mem_iff.mp hx)).2) p2
  have hl:(ps.map (·.1)).length=ys.length:=by rw[h1.length,p1.length_eq,hlen]
  obtain⟨e,he⟩:=sortedAll_at s.heap its out.toArray
  refine⟨.ref (s.heap.objs.size+1),_,I.laid (t':=s.toks) (a:=s.heap.objs.size+1) (o:=.lst (ps.map (·.1))) (λb o q=>sortedAll_old q) (Nat.le_succ _) ?_,rfl,q _ ps (I.hok.fresh (Nat.le_succ _)) h3 pw⟩
  exact⟨by lia,out,e,h1,he⟩
end
section
variable {X:Cx}
theorem lS{k:Nat}{x:Str}{px spos:Pos}{elt tgt iter:Expr}{ifs:List Expr}{scope:Scope}{cl:List (Str×Addr)}{pos:Pos}{wi:TI}{g:TG}{tc:TT}{te:TE}{NY:List Str}{js:List (Option Nat)}(hc:X.calm=true)(hN:X.N.Nodup)(hk:X.N[k]? = some x)(hx:X.env.scope.names.lookup x=some .local)
  (hkind:scope.kind=.function)(hclos:closureFor scope X.env=pure cl)(hcl:cI X.env.cells cl)(KG:gY X scope js NY)
  (hi:PI X tgt iter wi)
  (hb:∀pins fp C s H,PG (dG X pins NY scope cl fp C s H) tgt g/\Ci (dG X pins NY scope cl fp C s H) ifs tc/\PE (dG X pins NY scope cl fp C s H) elt te)
  (hcell:∀y∈scope.names,y.2≠.cell:=by decide)(hnames:∀y∈scope.names,y.2=.local->scope.names.lookup y.1=some .local:=by decide)
  (Fx:(scope.names.all λy=> !(y.2 == .free)||(cl.lookup y.1).isSome)=true:=by first|rfl|with_unfolding_all rfl)(hs:∀x,foldedSetIterable iter X.env x=pure x:=by intro _;rfl)
  (hsw:swapsWith (.ListComp elt [⟨tgt,iter,ifs,0⟩] scope pos) (some (.Name x px)) spos.line X.env=pure true:=by with_unfolding_all rfl):
  PS X (.Assign [.Name x px] (.ListComp elt [⟨tgt,iter,ifs,0⟩] scope pos) spos) (G_ (Dd wi g tc te js) (dU k)):=by
 intro pins s σ H DD I h
 rw[exec_Assign_Name_used _ _ _ _ hsw]
 refine wpAny_bind (wpAny_standAt (wpAny_bind ?_))
 show wpAny _ X.A (do let _ ←comprehension (.ListComp elt [⟨tgt,iter,ifs,0⟩] scope pos) scope X.env _ (newList []) false (eval iter X.env) (some (assign (.Name x px) X.env))) _ _ s
 refine wpAny_bind (wpAny_mono (wM (R:=λ_ s'=>∃σ' H',Inv X pins σ' H' s'/\DD.nx σ' H') hc hkind hclos hcl KG hi hb hcell hnames Fx hs (λD C s6 H5 I7 fC hn qn=>?_) I h) (λ_ s' hq=>wpAny_pure (wpAny_pure hq)) λ_ _ e=>e)
 obtain⟨m6,oC,es6,ep6,YD,rC⟩:=hn
 have dC:∀v,oC.data≠.cell v:=λv e=>by
  rw[rC.1]at e
  cases e
 have I8:=I7.pinned (fp:=[C]) (λb hb=>by rw[List.mem_singleton.mp hb];exact fC) (λb hb=>by rw[List.mem_singleton.mp hb];exact⟨oC,YD,dC⟩)
 show wpAny _ X.A (assign (.Name x px) X.env (.ref D)) _ _ _
 refine wpAny_mono (aQ hN hk (.inl hx) (.inr hx) (pins++kr [C] s6.heap) s6 σ H5 (.ref D) (.ref D) _ I8 rfl qn) (λ_ s9 h9=>?_) λ_ _ z=>z
 obtain⟨σ9,H9,I9,q9⟩:=h9
 obtain⟨p1,p2,p3,p4,p5⟩:=I9.pin (C,oC) (List.mem_append_right _ (List.mem_append_right _ (fO (by simp) YD)))
 refine⟨m6,⟨oC,es6,ep6,p1,rC⟩,λh7 UA=>?_⟩
 obtain⟨c0,c1,c2,c3,c4,c5⟩:=fC
 exact⟨σ9,H9,I9.iG.turned (t':=s9.toks) (λb o hb e=>UA.extBut b o hb e) p2 c1 c3 c4 c5,q9⟩
end
section
variable {X:Cx} {pins:List (Addr×Obj)} {σ:St} {H:Hp} {s:Shared}
theorem Ie{A:Around}{k:Nat}{F c':Addr}{nm qual x:Str}{params:Arguments}{body:Expr}{scope:Scope}{pm ctv u:Value}{v:V}{Q:VK}{te:TE}{E:Value->Shared->Prop}(I:Inv X pins σ H s)(hA:A.frames=X.A.frames)(hr:dH (k+1) A)
  (ho:s.heap.get? F=some (PySem.W.kla_obj nm qual params body scope [] pm c' ctv))(hc:s.heap.CodeRec (.ref c') qual)(hb:bindArgs (PySem.W.kla_fn nm qual params body scope [] pm (.ref c') ctv) ⟨[u],[]⟩=pure [(x,u)])
  (S:aM [x] [x] scope)(r:RelV v u)
  (hbody:∀(A:Around)(outer:List Env)(s:Shared)(H:Hp),dH k (A.deeper (envOfC qual scope s.heap.objs.size F (.ref c')))->PE (pJ jg X.prog X.w X.K X.mg X.base [x] qual scope F (.ref c') A outer s H E0).GF body te)
  (h:te (start [x] [v]) H Q):wpAny (model X.prog X.w) A (call (.ref F) [u]) (EP X pins σ Q) E s:=by
 have e0:xh X.prog X.w X.K X.mg X.base A X.stack s H:=⟨hA.trans I.ok.frames,I.ok.mod,I.bs,Nat.le_trans I.ok.Gf I.sz,I.stack,I.tV,I.hok,I.bare⟩
 have run:codeAny (model X.prog X.w) A (.call (.ref F) ⟨[u],[]⟩) (CR jg X.stack X.prog X.w H s Q E0) s:=by
  have hkind:∀y∈[x].zip [u],scope.names.lookup y.1=some .local\/(scope.names.lookup y.1=some .cell/\((cellsFrom (s.heap.objs.size+1) scope.names []).lookup y.1).isSome=true):=λ⟨n,v⟩ hy=>by
   rcases S.par n (List.of_mem_zip hy).1 with q|q
   ·exact .inl q
   ·exact .inr ⟨q,PySem.W.cellsFrom_some _ _ _ (.inl q)⟩
  refine PySem.W.kla_callFunE hr.depth ho rfl S.co S.gen rfl hc ?_
  rw[hb]
  refine wpAny_pure (wpAny_newFunctionEnv_cells S.kind hkind λenv he s1 x=>?_)
  subst he
  refine⟨I.nolimit.keeps x.toInCall.keep,PySem.W.kla_codeExpr ?_⟩
  have J:Inv (pJ jg X.prog X.w X.K X.mg X.base [_] qual scope F (.ref c') A X.stack s H E0) [] (start [_] [v]) H s1:=sR S hr.hd e0 rfl (.cons r .nil) x
  refine wpAny_mono (hbody A X.stack s H (hr.deeper _) [] s1 _ H Q (J.qe _) h) (λu' s' hs=>?_) λe s' hs=>False.elim hs
  obtain⟨v',H',J',r',q'⟩:=hs
  exact⟨v',H',J'.os,J'.bare,J'.base,J'.hok,r',q'⟩
 refine wpAny_call (codeAny_mono run λr s' hq=>?_)
 cases r with
 |error e=>exact False.elim hq
 |ok fl=>
  cases fl with
  |ret u=>exact I.after hq
  |next=>exact False.elim hq
  |brk=>exact False.elim hq
  |cont=>exact False.elim hq
end
section
variable {α β:Type} {R:α->β->Prop}
theorem oR{l out:List α}(p:l.Perm out):∀{m:List β},Paired R l m->∃m':List β,m'.Perm m/\Paired R out m':=by
 induction p with
 |nil=>intro m h;cases h;exact⟨[],.refl _,.nil⟩
 |cons x p ih=>
  intro m h
  cases h with
  |cons r t=>
   obtain⟨m',p',t'⟩:=ih t
   exact⟨_::m',p'.cons _,.cons r t'⟩
 |swap x y l=>
  intro m h
  cases h with
  |cons r t=>cases t with
   |cons r' t'=>exact⟨_,List.Perm.swap _ _ _,.cons r' (.cons r t')⟩
 |trans p1 p2 ih1 ih2=>
  intro m h
  obtain⟨m1,q1,h1⟩:=ih1 h
  obtain⟨m2,q2,h2⟩:=ih2 h1
  exact⟨m2,q2.trans q1,h2⟩
theorem yf{l:List α}{m:List β}(h:Paired R l m){b:β}(hb:b∈m):∃a∈l,R a b:=by
 induction h with
 |nil=>cases hb
 |cons r t ih=>
  rcases List.mem_cons.mp hb with rfl|hb
  ·exact⟨_,.head _,r⟩
  ·obtain⟨a,h1,h2⟩:=ih hb
   exact⟨a,.tail _ h1,h2⟩
theorem Bl{S:α->α->Prop}{T:β->β->Prop}(f:∀a b a' b',R a b->R a' b'->S a a'->T b b'){l:List α}{m:List β}(h:Paired R l m)(p:l.Pairwise S):m.Pairwise T:=by
 induction h with
 |nil=>exact .nil
 |cons r t ih=>
  obtain⟨p1,p2⟩:=List.pairwise_cons.mp p
  refine List.pairwise_cons.mpr ⟨λb hb=>?_,ih p2⟩
  obtain⟨a,h1,h2⟩:=yf t hb
  exact f _ _ _ _ r h2 (p1 a h1)
end
section
variable {X:Cx} {pins:List (Addr×Obj)} {σ:St} {H:Hp} {s:Shared}
theorem Inv.scratch{b:Addr}{h':Heap}(I:Inv X pins σ H s)(f:fV X pins H b)(hs:Heap.SameBut b s.heap h'):Inv X pins σ H {s with heap:=h'}:=by
 obtain⟨c0,c1,c2,c3,c4,c5⟩:=f
 exact I.turned (t':=s.toks) (λb o hb e=>hs.extBut b o hb e) c0 c1 c3 c4 c5
theorem HB{A:Around}{m:Sem Value}{Q:VK}{fp:List Addr}(I:Inv X pins σ H s)(hf:∀b∈fp,fV X pins H b)(ho:∀b∈fp,∃o,s.heap.get? b=some o/\∀v,o.data≠.cell v)
  (run:∀gO,Inv X gO σ H s->wpAny (model X.prog X.w) A m (EP X gO σ Q) (λ_ _=>False) s):
  wpAny (model X.prog X.w) A m (λu s'=>∃v H',Inv X pins σ H' s'/\RelV v u/\Q v H'/\∀b∈fp,s'.heap.get? b=s.heap.get? b/\fV X pins H' b) (λ_ _=>False) s:=by
 refine wpAny_mono (run _ (I.pinned hf ho)) (λu s' h=>?_) λ_ _ z=>z
 obtain⟨v,H',I',r,q⟩:=h
 refine⟨v,H',I'.iG,r,q,λb hb=>?_⟩
 obtain⟨o,e,_⟩:=ho b hb
 obtain⟨p1,p2,_⟩:=I'.pin (b,o) (List.mem_append_right _ (List.mem_append_right _ (fO hb e)))
 exact⟨p1.trans e.symm,p2,(hf b hb).2⟩
end
section
variable {X:Cx} {pins:List (Addr×Obj)} {σ:St} {H:Hp} {s:Shared} {A:Around} {a F:Addr} {fo:Obj} {vs:List Value} {ys:List V} {ds:List Dv} {sh:Sh} {n:Nat} {P:PySem.Fin->Shared->Prop} {E:Value->Shared->Prop}
def Zu(K:Fg7)(H:Hp)(p:Keyed)(q:V×Dv):Prop:=Den K H p.1 q.2/\RelV q.1 p.2
theorem ML{K:Fg7}{kv:List V}{kl:List Value}(r:Vals kv kl):∀{ds:List Dv}{ys:List V}{vs:List Value},gf K H kv ds->Vals ys vs->kl.length=vs.length->Paired (Zu K H) (kl.zip vs) (ys.zip ds):=by
 induction r with
 |nil=>intro ds ys vs d r' h;cases r' with|nil=>exact .nil|cons _ _=>simp at h
 |cons r t ih=>
  intro ds ys vs d r' h
  cases d with
  |cons d t'=>cases r' with
   |nil=>simp at h
   |cons r' t''=>exact .cons ⟨⟨_,r,d⟩,r'⟩ (ih t' t'' (by simpa using h))
theorem Ik{K:Fg7}{out:List Keyed}{ps:List (V×Dv)}(h:Paired (Zu K H) out ps):Vals (ps.map (·.1)) (out.map (·.2)):=by
 induction h with
 |nil=>exact .nil
 |cons r _ ih=>exact .cons r.2 ih
theorem EU{kS:Addr}{e1 c:Nat}{kl:List Value}{kv:List V}{st:SortSt}{out:List Keyed}(I:Inv X pins σ H s)(fa:fV X pins H a)(fk:fV X pins H kS)(hne:kS≠a)(ha:s.heap.get? a=some (seqObj "list" #[] e1))(hk:s.heap.get? kS=some (seqObj "list" kl.toArray c))
  (rk:Vals kv kl)(dk:gf X.K H kv ds)(rv:Vals ys vs)(hlen:kl.length=vs.length)(hz:vs.length<=10000000)(hsh:∀d∈ds,Dv.isA sh d=true)
  (ea:arrOf st=out.toArray)(hf:failedOf st=none)(hp:out.Perm (kl.zip vs))(hw:out.Pairwise λx y=>rJ X.K H y x=false)
  (fin:∀(ps:List (V×Dv))(out:List Value)(s':Shared)(c:Nat),Inv X pins σ H s'->s'.heap.get? a=some (seqObj "list" out.toArray c)->ps.Perm (ys.zip ds)->Vals (ps.map (·.1)) out->(ps.map (·.2)).Pairwise (λd e=>aV d e≠.gt)->P (.done (.ret .none)) s'):
  wpAny (model X.prog X.w) A (ksk_tail a false e1 (.ref kS) st) P E s:=by
 obtain⟨ps,pp,pr⟩:=oR hp.symm (ML rk dk rv hlen)
 have lo:(out.map (·.2)).length=vs.length:=by rw[List.length_map,hp.length_eq,List.length_zip,hlen,Nat.min_self]
 have s1:=Heap.SameBut.update s.heap kS (Obj.mapSeq λ_=>(#[]:Array Value))
 have ha1:(s.heap.update kS (Obj.mapSeq λ_=>(#[]:Array Value))).get? a=some (seqObj "list" #[] e1):=(s1.2 a hne.symm).trans ha
 have s2:=Heap.SameBut.update (s.heap.update kS (Obj.mapSeq λ_=>(#[]:Array Value))) a (Obj.mapSeq λ_=>(out.map (·.2)).toArray)
 have eo:(arrOf st).map (·.2)=(out.map (·.2)).toArray:=by rw[ea,List.map_toArray]
 unfold ksk_tail
 dsimp only
 refine wpAny_bind (listUpdate_at hk rfl ?_ (by rw[List.size_toArray,sizeLine_eq];lia) (Nat.zero_le _))
 refine wpAny_bind (wpAny_letGo ?_)
 refine wpAny_bind (seqEpoch_at ha1 rfl ?_)
 simp only[Bool.false_eq_true,if_false]
 rw[eo]
 refine wpAny_bind (listUpdate_at ha1 rfl ?_ (Nat.zero_le _) (by rw[List.size_toArray,lo,sizeLine_eq];lia))
 rw[hf]
 simp only[bne_self_eq_false,Bool.false_eq_true,if_false]
 refine wpAny_pure (fin ps (out.map (·.2)) _ _ ((I.scratch fk s1).scratch fa s2) (get?_update_seq ha1 λ_=>(out.map (·.2)).toArray) pp (Ik pr) ?_)
 rw[List.pairwise_map]
 have hin:∀q∈ps,Dv.isA sh q.2=true:=λq hq=>hsh _ (List.of_mem_zip (pp.mem_iff.mp hq)).2
 refine(Bl (T:=λ(p q:V×Dv)=>aV q.2 p.2≠.lt) (λx p y q hx hy h=>?_) pr hw).imp_of_mem λ{p q} hp hq h=>?_
 ·rw[iY I hy.1 hx.1]at h
  exact Ir h
 ·rw[cmp_swap (hin p hp) (hin q hq)]at h
  intro z
  rw[z]at h
  exact h rfl
theorem EV(I:Inv X pins σ H s)(ho:s.heap.get? a=some (seqObj "list" vs.toArray n))(fa:fV X pins H a)(hF:s.heap.get? F=some fo)(fF:fV X pins H F)(Wt:∀v,fo.data≠.cell v)(haF:a≠F)
  (rv:Vals ys vs)(Cy:TS.Fits vs.length)(hd:ds.length=vs.length)(hsh:∀d∈ds,Dv.isA sh d=true)(hk:sh.key=true)(IF:sh.dep<=30)(hu:A.units+64<cLine)
  (turn:∀(i:Nat)(y:V)(u:Value)(d:Dv),ys[i]? = some y->RelV y u->ds[i]? = some d->∀(gO:List (Addr×Obj))(H':Hp)(s':Shared),Inv X gO σ H' s'->av H H'->s'.heap.get? F=some fo->
   wpAny (model X.prog X.w) A (call (.ref F) [u]) (EP X gO σ λk GL=>av H' GL/\Dn X.K GL k d) (λ_ _=>False) s')
  (fin:∀(ps:List (V×Dv))(out:List Value)(H':Hp)(s':Shared)(c:Nat),Inv X pins σ H' s'->av H H'->fV X pins H' a->s'.heap.get? a=some (seqObj "list" out.toArray c)->ps.Perm (ys.zip ds)->Vals (ps.map (·.1)) out->(ps.map (·.2)).Pairwise (λd e=>aV d e≠.gt)->P (.done (.ret .none)) s'):
  wpAny (model X.prog X.w) A (ksk_tree a (.ref F) false) P E s:=by
 obtain⟨hz,hx⟩:=Cy
 have hl:vs.toArray.size<=sizeLine:=by rw[sizeLine_eq,List.size_toArray];lia
 have la:a<s.heap.objs.size:=Heap.lt_size ho
 have lF:F<s.heap.objs.size:=Heap.lt_size hF
 have XY:=rv.length
 have s1:=Heap.SameBut.update s.heap a (Obj.mapSeq λ_=>(#[]:Array Value))
 obtain⟨e1,QV⟩:∃e1,(s.heap.update a (Obj.mapSeq λ_=>(#[]:Array Value))).get? a=some (seqObj "list" #[] e1):=⟨_,get?_update_seq ho λ_=> #[]⟩
 have hF1:(s.heap.update a (Obj.mapSeq λ_=>(#[]:Array Value))).get? F=some fo:=(s1.2 F haF.symm).trans hF
 have I1:=I.scratch fa s1
 have ZO:(s.heap.update a (Obj.mapSeq λ_=>(#[]:Array Value))).objs.size=s.heap.objs.size:=Heap.size_update ..
 unfold ksk_tree
 refine wpAny_bind (listItems_at ho rfl (wpAny_bind (listUpdate_at ho rfl ?_ hl (Nat.zero_le _))))
 refine wpAny_bind (seqEpoch_at QV rfl (wpAny_bind (wpAny_newTuple ?_ (by show vs.length<=_;simpa using hl))))
 refine wpAny_bind (wpAny_newList (wpAny_holding ?_) (Nat.zero_le _))
 have I2:Inv X pins σ H {s with heap:=(s.heap.update a (Obj.mapSeq λ_=>(#[]:Array Value))).push (seqObj "tuple" vs.toArray 0)}:=I1.kept (t':=s.toks) λb u e=>Heap.get?_push_of_some _ e
 have fk:fV X pins H ((s.heap.update a (Obj.mapSeq λ_=>(#[]:Array Value))).push (seqObj "tuple" vs.toArray 0)).objs.size:=I2.qH (Nat.le_refl _) (I2.hok.fresh (Nat.le_refl _))
 have I3:Inv X pins σ H {s with heap:=((s.heap.update a (Obj.mapSeq λ_=>(#[]:Array Value))).push (seqObj "tuple" vs.toArray 0)).push (seqObj "list" #[] 0)}:=I2.kept (t':=s.toks) λb u e=>Heap.get?_push_of_some _ e
 have Ra:(((s.heap.update a (Obj.mapSeq λ_=>(#[]:Array Value))).push (seqObj "tuple" vs.toArray 0)).push (seqObj "list" #[] 0)).get? ((s.heap.update a (Obj.mapSeq λ_=>(#[]:Array Value))).push (seqObj "tuple" vs.toArray 0)).objs.size=some (seqObj "list" #[] 0):=Heap.get?_push_size _ rfl
 have Rv:=Heap.get?_push_of_some (seqObj "list" #[] 0) (Heap.get?_push_of_some (seqObj "tuple" vs.toArray 0) QV)
 have hF3:=Heap.get?_push_of_some (seqObj "list" #[] 0) (Heap.get?_push_of_some (seqObj "tuple" vs.toArray 0) hF1)
 have Xr:((s.heap.update a (Obj.mapSeq λ_=>(#[]:Array Value))).push (seqObj "tuple" vs.toArray 0)).objs.size=s.heap.objs.size+1:=by rw[size_push',ZO]
 show wpAny (model X.prog X.w) A (ksk_rest a (.ref F) false vs.toArray e1 (.ref ((s.heap.update a (Obj.mapSeq λ_=>(#[]:Array Value))).push (seqObj "tuple" vs.toArray 0)).objs.size)) P E {s with heap:=((s.heap.update a (Obj.mapSeq λ_=>(#[]:Array Value))).push (seqObj "tuple" vs.toArray 0)).push (seqObj "list" #[] 0)}
 generalize ((s.heap.update a (Obj.mapSeq λ_=>(#[]:Array Value))).push (seqObj "tuple" vs.toArray 0)).push (seqObj "list" #[] 0)=h3 at *
 generalize ((s.heap.update a (Obj.mapSeq λ_=>(#[]:Array Value))).push (seqObj "tuple" vs.toArray 0)).objs.size=kS at *
 have XS:kS≠a:=by rw[Xr];exact Nat.ne_of_gt (Nat.lt_succ_of_lt la)
 have nkF:kS≠F:=by rw[Xr];exact Nat.ne_of_gt (Nat.lt_succ_of_lt lF)
 unfold ksk_rest
 refine wpAny_bind (wpAny_rule ?_)
 rw[List.forIn_toArray]
 refine wpAny_bind (ksk_fold (λi s'=>∃(H':Hp) (kl:List Value) (e:Nat) (kv:List V),Inv X pins σ H' s'/\av H H'/\(∀b∈[a,kS,F],fV X pins H' b)/\s'.heap.get? a=some (seqObj "list" #[] e1)/\s'.heap.get? kS=some (seqObj "list" kl.toArray e)/\s'.heap.get? F=some fo/\Vals kv kl/\gf X.K H' kv (ds.take i)) vs 0 _
  ⟨H,[],0,[],I3,av.refl _,λb hb=>?_,Rv,Ra,hF3,.nil,.nil⟩ ?step ?done)
 ·rcases List.mem_cons.mp hb with rfl|hb
  ·exact fa
  ·rcases List.mem_cons.mp hb with rfl|hb
   ·exact fk
   ·rw[List.mem_singleton.mp hb];exact fF
 case step=>
  rintro j u s' Yx ⟨H',kl,e,kv,I',sm,fp,ha',hk',Ot,rk,dk⟩
  simp only[Nat.zero_add]at dk ⊢
  have hj:j<vs.length:=(List.getElem?_eq_some_iff.mp Yx).1
  have hy:ys[j]? = some (ys[j]' LI):=List.getElem?_eq_getElem LI
  obtain⟨u',eu,ru⟩:=Vals.get rv hy
  rw[Yx]at eu
  cases eu
  have YL:ds[j]? = some (ds[j]' LI):=List.getElem?_eq_getElem LI
  refine wpAny_bind (wpAny_attempt (wpAny_mono (HB (fp:=[a,kS,F]) I' fp (λb hb=>?_) λgO J=>turn j _ u _ hy ru YL gO H' s' J sm Ot) (λk s'' h=>?_) λ_ _ z=>z.elim))
  ·rcases List.mem_cons.mp hb with rfl|hb
   ·exact⟨_,ha',λv z=>nomatch z⟩
   ·rcases List.mem_cons.mp hb with rfl|hb
    ·exact⟨_,hk',λv z=>nomatch z⟩
    ·rw[List.mem_singleton.mp hb];exact⟨_,Ot,Wt⟩
  obtain⟨kx,GL,I'',rx,⟨OY,WL⟩,own⟩:=h
  have Rb:=(own kS (by simp)).1.trans hk'
  have Wc:kl.length=j:=by
   have:=rk.length
   have:=dk.length
   rw[List.length_take]at this
   lia
  have s4:=Heap.SameBut.update s''.heap kS (Obj.mapSeq (·.push k))
  dsimp only
  refine wpAny_bind (listUpdate_at Rb rfl ?_ (by rw[List.size_toArray,sizeLine_eq];lia) (Nat.le_trans (Nat.le_of_eq (Array.size_push ..)) (by rw[List.size_toArray,sizeLine_eq];lia)))
  refine wpAny_pure ⟨rfl,GL,kl++[k],_,kv++[kx],I''.scratch (own kS (by simp)).2 s4,sm.trans OY,λb hb=>(own b hb).2,(s4.2 a XS.symm).trans ((own a (by simp)).1.trans ha'),(get?_update_seq Rb (·.push k)).trans (by rw[List.push_toArray]),(s4.2 F nkF.symm).trans ((own F (by simp)).1.trans Ot),rk.append (.cons rx .nil),?_⟩
  rw[List.take_add_one,YL]
  exact(dk.stay OY.stays).snoc WL
 case done=>
  rintro s' ⟨H',kl,e,kv,I',sm,fp,ha',hk',Ot,rk,dk⟩
  have e3:ds.take (0+vs.length)=ds:=List.take_of_length_le LI
  rw[e3]at dk
  have Vo:kl.length=vs.length:=by
   have:=rk.length
   have:=dk.length
   lia
  have YW:=fp a (by simp)
  have fk':=fp kS (by simp)
  have den:∀v∈kl,∃d,Den X.K H' v d/\Dv.isA sh d=true:=λv m=>by
   obtain⟨i,hi⟩:=List.mem_iff_getElem?.mp m
   have hy:i<kv.length:=by
    have:=(List.getElem?_eq_some_iff.mp hi).1
    have:=rk.length
    lia
   obtain⟨u,eu,ru⟩:=rk.get (List.getElem?_eq_getElem hy)
   rw[hi]at eu;cases eu
   obtain⟨d,ed,dd⟩:=dk.get' (List.getElem?_eq_getElem hy)
   exact⟨d,⟨_,ru,dd⟩,hsh d (List.mem_of_getElem? ed)⟩
  have ez:kl.toArray.zip vs.toArray=(kl.zip vs).toArray:=by simp
  refine wpAny_bind (listItems_at hk' rfl ?_)
  unfold ksk_end
  dsimp only
  simp only[Bool.false_eq_true,if_false]
  rw[ez]
  have tail:∀(st:SortSt)(out:List Keyed),arrOf st=out.toArray->failedOf st=none->out.Perm (kl.zip vs)->out.Pairwise (λx y=>rJ X.K H' y x=false)->wpAny (model X.prog X.w) A (ksk_tail a false e1 (.ref kS) st) P E s':=λst out a1 a2 a3 a4=>
   EU I' YW fk' XS ha' hk' rk dk rv Vo hz hsh a1 a2 a3 a4 λps out s'' c J g p1 p2 p3=>fin ps out H' s'' c J sm YW g p1 p2 p3
  by_cases h2:vs.toArray.size<2
  ·rw[if_pos h2,if_pos h2]
   refine wpAny_bind (wpAny_pure ?_)
   rw[StateT.run_pure]
   refine wpAny_bind (wpAny_pure ?_)
   dsimp only
   refine tail (SortSt.mk' general' (kl.zip vs).toArray #[] 7 none) (kl.zip vs) rfl rfl (.refl _) ?_
   have:(kl.zip vs).length<2:=by rw[List.length_zip,Vo,Nat.min_self];simpa using h2
   match kl.zip vs,this with
   |[],_=>exact .nil
   |[_],_=>exact List.pairwise_singleton _ _
   |_::_::_,h=>simp at h;lia
  ·rw[if_neg h2,if_neg h2]
   have h2':2<=vs.length:=by simpa using h2
   refine wpAny_bind (wpAny_mono (nQ (Q:=λk s''=>k=sh.kind/\s''=s') I' hk LI den ⟨rfl,rfl⟩) ?_ λ_ _ f=>f.elim)
   rintro k s'' ⟨rfl,rfl⟩
   refine wpAny_bind (wpAny_mono (TS.Jy (E:=E) (Q:=λst s3=>s3=s''/\failedOf st=none/\∃out:List Keyed,arrOf st=out.toArray/\out.Perm (kl.zip vs)/\out.Pairwise (λx y=>rJ X.K H' y x=false)) (qt I' sh)
    (TS.Gb λx y Q hx hy q=>qN I' hk LI hx hy q) (λp hp=>den _ (List.of_mem_zip hp).1) (by rw[List.length_zip,Vo,Nat.min_self];exact⟨by lia,hx⟩) λout st a1 a2 a3 a4=>⟨rfl,a2,out,a1,a3,a4⟩) ?_ λ_ _ e=>e)
   rintro⟨⟨⟩,st⟩ s3 ⟨rfl,hf,out,ea,hp,hw⟩
   dsimp only
   exact tail st out ea hf hp hw
end
section
variable {X:Cx} {pins:List (Addr×Obj)} {σ:St} {H:Hp} {s:Shared}
theorem Inv.adopt{a:Addr}{o:HO}(I:Inv X pins σ H s)(h0:X.s₀.heap.objs.size<=a)(f:fV X pins H a)(new:cA X.prog X.w (upd H a o) s.heap a o):Inv X pins σ (upd H a o) s:=by
 obtain⟨hn,hL,_,_,hc,hp⟩:=f
 have ne:∀{b:Addr}{u:HO},H b=some u->b≠a:=λe=>au e hn
 have old:∀{b:Addr}{u:Obj},X.s₀.heap.get? b=some u->b≠a:=λe=>Nat.ne_of_lt (Nat.lt_of_lt_of_le (Heap.lt_size e) h0)
 refine⟨I.ok,I.os,I.bare,⟨I.base.keep,I.base.slot,λb u e n hx=>?_,I.base.there,λb xs q=>?_,λb u v q=>?_,λb ps q=>?_⟩,I.loc,I.cell,by rw[ai hL.symm];exact I.free,λx c e=>by rw[ai (hc x c e)];exact I.gx x c e,λq hq=>?_,λb u e=>?_,I.len⟩
 ·rw[ai (old e)];exact I.base.free b u e n hx
 ·have:=I.base.tups b xs q
  rw[ai (ne this)];exact this
 ·have:=I.base.mG b u v q
  rw[ai (ne this)];exact this
 ·obtain⟨m,e⟩:=I.base.qh b ps q
  exact⟨m,by rw[ai (ne e)];exact e⟩
 ·obtain⟨e,n,r⟩:=I.pin q hq
  exact⟨e,by rw[ai (hp q hq)];exact n,r⟩
 ·by_cases hb:b=a
  ·subst hb
   rw[af]at e;cases e
   exact new
  ·rw[ai hb]at e
   exact(I.hok b u e).stay (λc v _ q=>q) (λc q=>by rw[ai (ne q)];exact q) λc xs q=>by rw[ai (ne q)];exact q
theorem yx{l F:Addr}{fo:Obj}{ys:List V}{ds:List Dv}{sh:Sh}{Q:VK}{E:Value->Shared->Prop}(I:Inv X pins σ H s)(hl:aZ X.K H l ys)(hF:s.heap.get? F=some fo)(fF:fV X pins H F)(Wt:∀v,fo.data≠.cell v)
  (Cy:TS.Fits ys.length)(hd:ds.length=ys.length)(hsh:∀d∈ds,Dv.isA sh d=true)(hk:sh.key=true)(IF:sh.dep<=30)(hu:X.A.units+70<cLine)
  (turn:∀(i:Nat)(y:V)(u:Value)(d:Dv),ys[i]? = some y->RelV y u->ds[i]? = some d->∀(gO:List (Addr×Obj))(H':Hp)(s':Shared),Inv X gO σ H' s'->av H H'->s'.heap.get? F=some fo->
   wpAny (model X.prog X.w) X.A.in1.in1 (call (.ref F) [u]) (EP X gO σ λk GL=>av H' GL/\Dn X.K GL k d) (λ_ _=>False) s')
  (q:∀(L:Addr)(ps:List (V×Dv))(H':Hp),av H H'->H L=none->H' L=some (.lst (ps.map (·.1)))->ps.Perm (ys.zip ds)->(ps.map (·.2)).Pairwise (λd e=>aV d e≠.gt)->Q (.ref L) H'):
  wpAny (model X.prog X.w) X.A (call (.builtin "sorted") [.ref l] [(Str.ofString "key",.ref F)]) (EP X pins σ Q) E s:=by
 obtain⟨vs,rv,pl,hz'⟩:=I.list hl
 have XY:=rv.length
 have hz:=Cy.1
 have lI:vs.length<=sizeLine:=by rw[sizeLine_eq];lia
 refine call_function_entry_kw kind_sorted plain_sorted entry_sorted (ksk_s1 _ _) ?_
 unfold Builtin.«sorted»
 refine wpAny_bind (m:=checkCount "sorted" 1 1 _) (wpAny_pure (wpAny_bind (collect_list pl.isList (wpAny_bind (wpAny_newList ?_ lI)) lI)))
 have sz:((s.heap.push (seqObj "list" #[] 0)).update s.heap.objs.size (Obj.mapSeq (· ++ vs.toArray))).objs.size=s.heap.objs.size+1:=by rw[Heap.size_update,size_push']
 have Ft:(((s.heap.push (seqObj "list" #[] 0)).update s.heap.objs.size (Obj.mapSeq (· ++ vs.toArray))).push (seqObj "list" vs.toArray 0)).get? (s.heap.objs.size+1)=some (seqObj "list" vs.toArray 0):=by rw[←sz];exact Heap.get?_push_size _ rfl
 have keep:∀b o,s.heap.get? b=some o->(((s.heap.push (seqObj "list" #[] 0)).update s.heap.objs.size (Obj.mapSeq (· ++ vs.toArray))).push (seqObj "list" vs.toArray 0)).get? b=some o:=λb o q=>by
  have lt:b<s.heap.objs.size:=Heap.lt_size q
  refine Heap.get?_push_of_some _ ?_
  rw[Heap.get?_update_ne _ _ _ _ (Nat.ne_of_lt lt)];exact Heap.get?_push_of_some _ q
 show wpAny _ _ _ _ _ {s with heap:=((s.heap.push (seqObj "list" #[] 0)).update s.heap.objs.size (Obj.mapSeq (· ++ vs.toArray))).push (seqObj "list" vs.toArray 0)}
 rw[sz]
 have I1:Inv X pins σ H {s with heap:=((s.heap.push (seqObj "list" #[] 0)).update s.heap.objs.size (Obj.mapSeq (· ++ vs.toArray))).push (seqObj "list" vs.toArray 0)}:=I.kept (t':=s.toks) keep
 have fL:fV X pins H (s.heap.objs.size+1):=I.qH (Nat.le_succ _) (I.hok.fresh (Nat.le_succ _))
 have lF:F<s.heap.objs.size:=Heap.lt_size hF
 refine wpAny_bind (wpAny_holding (wpAny_call_entry_kw slot_list_sort ⟨_,Ft,rfl⟩ entry_list_sort ?body (ksk_l1 _ _)))
 case body=>
  show wpAny (model X.prog X.w) X.A.in1.in1 (Builtin.«list.sort» ⟨[.ref (s.heap.objs.size+1)],[(Str.ofString "key",.ref F)]⟩) _ _ _
  rw[ksk_t1]
  refine EV I1 Ft fL (keep _ _ hF) fF Wt (Nat.ne_of_gt (Nat.lt_succ_of_lt lF)) rv (by rw[←XY];exact Cy) LI hsh hk IF (by rw[in1_units,in1_units];lia) turn λps out H' s' c J sm f g p1 p2 p3=>⟨_,rfl,wpAny_pure ⟨_,rfl,?_⟩⟩
  refine⟨.ref (s.heap.objs.size+1),upd H' (s.heap.objs.size+1) (.lst (ps.map (·.1))),J.adopt (Nat.le_trans I.sz (Nat.le_succ _)) f ?_,rfl,q _ ps _ (sm.trans (av.new f.1)) fL.1 af p1 p3⟩
  refine⟨?_,out,c,p2,g⟩
  rw[List.length_map,p1.length_eq,List.length_zip,sizeLine_eq]
  lia
def bK(H:Hp)(P:Addr)(pos:Pos)(qual:Str):Prop:=H P=some (.pA #[])\/∃(c':Addr) (oc:Obj) (vs:Array Value) (t:Tok),H P=some (.pA #[rawInt pos.line,rawInt pos.col,.ref c'])/\H c'=some (.eF oc (.ext λ_=>True))/\oc.data=.fields vs/\vs[1]? = some (.str qual t)
def dj(K:Fg7)(mg:Str->Option Value)(H:Hp):Prop:=∃(bm:Addr) (ob:Obj),mg "__builtins__"=some (.ref bm)/\bm≠builtinsNs/\(K.lookup bm=some ob\/H bm=some (.eF ob (.ext λ_=>True)))/\ob.cls=.type "module"/\ob.dict=some builtinsNs/\ob.data=.plain
def gX(H H':Hp)(P:Addr):Prop:=∀b o,H b=some o->b≠P->H' b=some o
theorem EO{params:Arguments}{body:Expr}{scope:Scope}{pos:Pos}{qual:Str}{fl:Nat}{c P:Addr}{Q:Value->Shared->Prop}{E:Value->Shared->Prop}(I:Inv X pins σ H s)(hcl:closureFor scope X.env=pure [])(hge:X.env.globals=mainGlobals)(hcode:X.env.code=.ref c)(hd:PySem.W.codeHdIn X.K c P=true)
  (hb:dj X.K X.mg H)(T:bK H P pos qual)
  (h:∀(F c':Addr)(oc:Obj)(vs:Array Value)(t:Tok)(pm ctv:Value)(H':Hp)(s':Shared),Inv X pins σ H' s'->gX H H' P->H' P=some (.pA #[rawInt pos.line,rawInt pos.col,.ref c'])->H' c'=some (.eF oc (.ext λ_=>True))->oc.data=.fields vs->vs[1]? = some (.str qual t)->
   s'.heap.get? F=some (PySem.W.kla_obj "<lambda>" qual params body scope [] pm c' ctv)->fV X pins H' F->Q (.ref F) s'):
  wpAny (model X.prog X.w) X.A (makeFunction "<lambda>" qual params (.expr body) scope X.env [] [] [] pos fl) Q E s:=by
 have hg:s.heap.Ns mainGlobals X.mg:=I.mod.glob.keeps I.bk
 have hC:PySem.W.CodeHd s.heap c P:=PySem.W.codeHd_of_K I.mE hd
 obtain⟨bm,ob,b1,b2,b3,b4,b5,b6⟩:=hb
 have R_:s.heap.get? bm=some ob:=by
  rcases b3 with z|z
  ·exact I.mE _ _ z
  ·exact(I.hok _ _ z).1
 have JA:∀{ps:Array Value},s.heap.get? P=some (PySem.W.tabObj ps)->mainGlobals≠P/\s.heap.BuiltinsAt X.mg P:=λ{ps} hP=>by
  refine⟨λq=>?_,bm,ob,b1,b2,λq=>?_,λq=>?_,R_,b4,b5,b6⟩
  ·obtain⟨o,es,ep,e,hd,_⟩:=hg
   rw[q,hP]at e;cases e;cases hd
  ·obtain⟨o,es,ep,e,hd,_⟩:=hg
   rw[q,e]at R_;cases R_;rw[hd]at b6;cases b6
  ·rw[q,hP]at R_;cases R_;cases b4
 rcases T with hP|⟨c',oc,vs,t,hP,hc',hv,hv1⟩
 ·have Rw:s.heap.get? P=some (PySem.W.tabObj #[]):=I.hok _ _ hP
  obtain⟨n1,n2⟩:=JA Rw
  refine PySem.W.kla_makeFunction (mg:=X.mg) hcl hge hg hcode hC Rw trivial rfl n1 n2 λc' ctv h' tk hx IC hlt hrec htb=>?_
  obtain⟨c₂,oc,vs,t,e2,hoc,hv,hv1⟩:=hrec
  cases e2
  have hf':H c'=none:=I.hok.fresh IC
  have YM:c'≠P:=λz=>by rw[z,hP]at hf';cases hf'
  have nP:∀{b:Addr},H b=none->b≠P:=λe z=>by rw[z,hP]at e;cases e
  have nC:∀{b:Addr}{u:HO},H b=some u->b≠c':=λe z=>by rw[z,hf']at e;cases e
  have lC:∀{b:Addr}{o:Obj},s.heap.get? b=some o->b≠c':=λe=>Nat.ne_of_lt (Nat.lt_of_lt_of_le (Heap.lt_size e) IC)
  have fF:fV X pins H h'.objs.size:=I.qH (Nat.le_of_lt (Nat.lt_of_le_of_lt IC hlt)) (I.hok.fresh (Nat.le_of_lt (Nat.lt_of_le_of_lt IC hlt)))
  have nFP:h'.objs.size≠P:=nP fF.1
  have J:Inv X pins σ (upd (upd H P (.pA #[rawInt pos.line,rawInt pos.col,.ref c'])) c' (.eF oc (.ext λ_=>True))) {s with heap:=h'.push (PySem.W.kla_obj "<lambda>" qual params body scope [] ((X.mg "__name__").getD .none) c' ctv),toks:=tk}:=by
   refine I.step (g':=s.gens) (d':=s.drawn) (ch:=[]) (λb hb=>by cases hb) (λb o _ _ _ e n=>Heap.get?_push_of_some _ (hx b o (nP n) e)) (λb o _ _ _ e n=>⟨o.slots,Heap.get?_push_of_some _ (hx b o (nP n) e)⟩) (λb o _ e n=>by rw[ai (lC e),ai (nP n)];exact n)
    (λb o _ e=>?_) (λb xs e=>?_) (λb o u e=>?_) (λb ps e=>?_) (λm hm=>?_) (λb u e=>?_) I.bare
   ·by_cases hb:b=P
    ·subst hb;exact⟨_,Heap.get?_push_of_some _ htb⟩
    ·exact⟨o,Heap.get?_push_of_some _ (hx b o hb e)⟩
   ·rw[ai (nC e),ai (λz=>by rw[z,hP]at e;cases e)];exact e
   ·rw[ai (nC e),ai (λz=>by rw[z,hP]at e;cases e)];exact e
   ·by_cases hb:b=P
    ·subst hb
     rw[hP]at e;cases e
     exact⟨#[rawInt pos.line,rawInt pos.col,.ref c'],by rw[ai YM.symm,af];simp⟩
    ·exact⟨#[],by rw[ai (nC e),ai hb,e];simp⟩
   ·exact(hm.extBut hx (nP I.free)).push _
   ·by_cases hb:b=c'
    ·subst hb
     rw[af]at e;cases e
     exact⟨Heap.get?_push_of_some _ hoc,trivial,⟨_,Heap.get?_push_of_some _ hoc⟩,λ_ _ _ _=>trivial⟩
    ·rw[ai hb]at e
     by_cases hb':b=P
     ·subst hb'
      rw[af]at e;cases e
      exact Heap.get?_push_of_some _ htb
     ·rw[ai hb']at e
      refine(I.hok b u e).stay (λd v hw q=>Heap.get?_push_of_some _ (hx d v (λzP=>by subst zP;rcases hw with z|z;exact hb' z.symm;rw[hP]at z;cases z) q)) (λd q=>?_) λd xs q=>?_
      ·rw[ai (nC q),ai (λz=>by rw[z,hP]at q;cases q)];exact q
      ·rw[ai (nC q),ai (λz=>by rw[z,hP]at q;cases q)];exact q
  refine h h'.objs.size c' oc vs t _ ctv _ _ J (λb o e n=>?_) ?_ af hv hv1 (Heap.get?_push_size _ rfl) ⟨?_,fF.2⟩
  ·rw[ai (nC e),ai n];exact e
  ·rw[ai YM.symm,af]
  ·rw[ai (Nat.ne_of_gt hlt),ai nFP];exact fF.1
 ·have Rw:s.heap.get? P=some (PySem.W.tabObj #[rawInt pos.line,rawInt pos.col,.ref c']):=I.hok _ _ hP
  obtain⟨n1,n2⟩:=JA Rw
  refine PySem.W.kla_makeFunctionHit (mg:=X.mg) (cv:=.ref c') hcl hge hg hcode hC Rw ?_ ?_ n2 λctv h' tk hk hsz=>?_
  ·exact trivial
  ·show codeAmong pos [.int pos.line 0,.int pos.col 0,.ref c']=_
   simp[codeAmong]
  ·have J:Inv X pins σ H {s with heap:=h'.push (PySem.W.kla_obj "<lambda>" qual params body scope [] ((X.mg "__name__").getD .none) c' ctv),toks:=tk}:=I.kept (t':=tk) λb u e=>Heap.get?_push_of_some _ (hk b u e)
   exact h h'.objs.size c' oc vs t _ ctv H _ J (λ_ _ e _=>e) hP hc' hv hv1 (Heap.get?_push_size _ rfl) (I.qH hsz (I.hok.fresh hsz))
end
section
variable {X:Cx}
theorem gX.seq{K:Fg7}{H H':Hp}{P p:Addr}{ps:Array Value}{xs:List V}(k:gX H H' P)(hP:H P=some (.pA ps))(h:aZ K H p xs):aZ K H' p xs:=by
 have ne:∀{u:HO},H p=some u->(∀ps,u≠.pA ps)->p≠P:=λe n z=>by rw[z,hP]at e;exact n _ (Option.some.inj e).symm
 rcases h with(h|⟨o,h⟩)|h
 ·exact .inl (.inl (k _ _ h (ne h λ_ z=>nomatch z)))
 ·exact .inl (.inr ⟨o,k _ _ h (ne h λ_ z=>nomatch z)⟩)
 ·exact .inr h
theorem gX.trans{H H1 H2:Hp}{P:Addr}(a:gX H H1 P)(b:gX H1 H2 P):gX H H2 P:=λc o e n=>b c o (a c o e n) n
theorem av.Ku{H H':Hp}{P:Addr}(s:av H H'):gX H H' P:=λb o e _=>s b o e
inductive oH(K:Fg7)(mg:Str->Option Value)(P:Addr)(wo:Pos)(qual:Str)(x:Str)(te:TE)(Q:VK)(v:V)(H1:Hp):Prop
 |mk(p:Addr)(ys:List V)(ds:List Dv)(sh:Sh):(v=.ref p)->(aZ K H1 p ys)->(bK H1 P wo qual)->(dj K mg H1)->(TS.Fits ys.length)->(ds.length=ys.length)->((∀d∈ds,Dv.isA sh d=true))->(sh.key=true)->(sh.dep<=30)->((∀(i:Nat)(y:V)(d:Dv)(H':Hp),ys[i]? = some y->ds[i]? = some d->gX H1 H' P->te (start [x] [y]) H' λk GL=>av H' GL/\Dn K GL k d))->(∀(L:Addr)(ps:List (V×Dv))(H':Hp),gX H1 H' P->bK H' P wo qual->H1 L=none->H' L=some (.lst (ps.map (·.1)))->ps.Perm (ys.zip ds)->(ps.map (·.2)).Pairwise (λd e=>aV d e≠.gt)->Q (.ref L) H')->oH K mg P wo qual x te Q v H1
def xH(K:Fg7)(mg:Str->Option Value)(P:Addr)(wo:Pos)(qual x:Str)(te tl:TE):TE:=λσ H Q=>tl σ H λv H1=>oH K mg P wo qual x te Q v H1
theorem ug{c P:Addr}{x:Str}{e:Expr}{params:Arguments}{body:Expr}{scope:Scope}{wo p pos kpos:Pos}{te tl:TE}(hu:X.A.units+70<cLine)(hr:dH 3 X.A)(hg:Gl X "sorted")(hm:X.mg "sorted"=none)(he:PE X e tl)
  (hcl:closureFor scope X.env=pure [])(hge:X.env.globals=mainGlobals)(hcode:X.env.code=.ref c)(hd:PySem.W.codeHdIn X.K c P=true)(hdef:defaultsOf params X.env=([],[]))
  (hbind:∀(pm ctv u:Value)(c':Addr),bindArgs (PySem.W.kla_fn "<lambda>" (X.env.qual++"<lambda>") params body scope [] pm (.ref c') ctv) ⟨[u],[]⟩=pure [(x,u)])(S:aM [x] [x] scope)
  (hbody:∀(F c':Addr)(A:Around)(outer:List Env)(s:Shared)(H:Hp),PE (pJ jg X.prog X.w X.K X.mg X.base [x] (X.env.qual++"<lambda>") scope F (.ref c') A outer s H E0).GF body te)
  (hs:starEach [e] X.env=[(false,eval e X.env)]:=by rfl):
  PE X (.Call (.Name "sorted" p) [e] [⟨some (Str.ofString "key"),.Lambda params body scope wo,kpos⟩] pos) (xH X.K X.mg P wo (X.env.qual++"<lambda>") x te tl):=by
 intro pins s σ H Q I h
 refine wpAny_Call_Name_kw (gR I hg hm gH ?_ (by decide) (by decide))
 refine callWith_kw ?_ (by rw[hs];rfl) (by rw[hs];rfl) rfl rfl
 rw[hs]
 show wpAny _ _ (spliced ((false,eval e X.env)::backTo pos [])) _ _ s
 refine Calls.spliced_cons (dm (he pins s σ H _ I h) λu s1 ⟨v,H1,I1,r1,q1⟩=>Calls.spliced_nil ?_)
 obtain⟨l,ys,ds,sh,rfl,hl,hT,hB,hz,hdl,hsh,hkey,IF,turn,q⟩:=q1
 cases r1
 refine evalAll_cons (wpAny_bind (PySem.W.kla_eval hdef (EO I1 hcl hge hcode hd hB hT λF c' oc vs tq pm ctv H2 s2 I2 k2 KQ hc2 hv hv1 hF fF=>wpAny_bind (wpAny_standAt (wpAny_pure (wpAny_pure ?_))))))
 show wpAny _ _ (call (.builtin "sorted") [.ref l] [(Str.ofString "key",.ref F)]) _ _ s2
 obtain⟨XA,hP1⟩:∃XA,H1 P=some (.pA XA):=by
  rcases hT with z|⟨_,_,_,_,z,_⟩
  ·exact⟨_,z⟩
  ·exact⟨_,z⟩
 refine yx I2 (k2.seq hP1 hl) hF fF (λ_ z=>nomatch z) hz hdl hsh hkey IF hu (λi y u d hy ry hdi gO H' s' J sm Ot=>?_) λL ps H' sm hL hL' p1 p2=>?_
 ·have hcr:s'.heap.CodeRec (.ref c') (X.env.qual++"<lambda>"):=⟨c',oc,vs,tq,rfl,(J.hok _ _ (sm _ _ hc2)).1,hv,hv1⟩
  exact Ie (k:=0) J rfl hr.in1.in1 Ot hcr (hbind _ _ _ _) S ry (λA outer s H _=>hbody F c' A outer s H) (turn i y d H' hy hdi (k2.trans sm.Ku))
 ·refine q L ps H' (k2.trans sm.Ku) (.inr ⟨c',oc,vs,tq,sm _ _ KQ,sm _ _ hc2,hv,hv1⟩) ?_ hL' p1 p2
  cases e1:H1 L with
  |none=>rfl
  |some o=>
   by_cases YS:L=P
   ·rw[YS,KQ]at hL;cases hL
   ·rw[k2 L o e1 YS]at hL;cases hL
end
section
variable {X:Cx}
inductive DM(t:TS)(D:Ends)(σ:St)(H:Hp):Prop
 |mk(d:_)(u:_):(H d=some u)->(Ey u)->(t {D with nx:=λσ' H'=>∃o,H' d=some (.eF o u)/\D.nx σ' (upd H' d u)} σ H)->DM t D σ H
def O_(t:TS):TS:=λD σ H=>DM t D σ H
theorem HG{st:Stmt}{t:TS}(h:PS X st t):PS X st (O_ t):=by
 intro pins s σ H D I hq
 obtain⟨d,u,hd,hn,q⟩:=hq
 refine wpAny_mono (h pins s σ H _ I q) (λf s1 hs=>?_) λ_ _ z=>z
 cases f with
 |next=>
  obtain⟨σ',H',I',o,e1,q1⟩:=hs
  refine⟨σ',_,I'.OL e1 λo' u' z=>?_,q1⟩
  have:=I.base.mG d o' u' z
  rw[hd]at this;cases this
  exact hn
 |brk=>exact hs
 |cont=>exact hs
 |ret v=>exact hs
end
structure gC(K:Fg7)(C:Addr)(m qual:Str)(st:Stmt)(Pt:Addr):Prop where
 ex:∃(f:Addr) (oc:Value) (od:Option Addr) (kV doc pm:Value) (an:Option Addr) (c:Addr) (ct:Value) (osl:Array (Option Value)),
  PySem.W.findIn K (.ref C) m=some (some (.ref f))/\PySem.W.isFn K (.ref f)=true/\K.lookup f=some ⟨oc,od,.func (PySem.W.fnOf m qual (aG st) (aF st) (ao st) .none kV doc pm an (.ref c) ct),osl⟩/\PySem.W.codeIn K (.ref c) qual=true/\PySem.W.keepIn K (.ref f)=true/\PySem.W.codeHdIn K c Pt=true
theorem gC.mk'{K:Fg7}{C Pt:Addr}{m qual:Str}{st:Stmt}{f:Addr}{oc:Value}{od:Option Addr}{kV doc pm:Value}{an:Option Addr}{c:Addr}{ct:Value}{osl:Array (Option Value)}(a:PySem.W.findIn K (.ref C) m=some (some (.ref f)))(i:PySem.W.isFn K (.ref f)=true)
  (l:K.lookup f=some ⟨oc,od,.func (PySem.W.fnOf m qual (aG st) (aF st) (ao st) .none kV doc pm an (.ref c) ct),osl⟩)(c':PySem.W.codeIn K (.ref c) qual=true)(k:PySem.W.keepIn K (.ref f)=true)(t:PySem.W.codeHdIn K c Pt=true):gC K C m qual st Pt:=⟨⟨f,oc,od,kV,doc,pm,an,c,ct,osl,a,i,l,c',k,t⟩⟩
theorem gC.code{K:Fg7}{C Pt:Addr}{m qual:Str}{st:Stmt}(D:gC K C m qual st Pt):∃c,PySem.W.codeHdIn K c Pt=true:=by
 obtain⟨f,oc,od,kV,doc,pm,an,c,ct,osl,a,i,l,c',kp,t⟩:=D.ex
 exact⟨c,t⟩
section
variable {P:Program} {w:World} {K:Fg7} {mg:Str->Option Value} {C Pt:Addr} {m:Str} {ps:List Str} {k:Nat} {sp:Sp}
theorem gC.fn{qual:Str}{st:Stmt}{N:List Str}(D:gC K C m qual st Pt)(S:aM N ps (ao st))
  (hb:∀(kV doc pm:Value)(an:Option Addr)(cdv ct:Value)(us:List Value),us.length=ps.length->bindArgs (PySem.W.fnOf m qual (aG st) (aF st) (ao st) .none kV doc pm an cdv ct) ⟨us,[]⟩=pure (ps.zip us))
  (len:∀vs H Q E,sp vs H Q E->vs.length=ps.length)
  (hbody:∀(f c:Addr)(base:Heap)(A:Around)(outer:List Env)(s:Shared)(H:Hp)(vs:List V)(Q:VK)(E:XK),PySem.W.codeHdIn K c Pt=true->dH k (A.deeper (envOfC qual (ao st) s.heap.objs.size f (.ref c)))->sp vs H Q E->
   ∃t,uS (pJ jg P w K mg base N qual (ao st) f (.ref c) A outer s H E).GF (aF st) t/\t {nx:=λ_ H'=>Q .dR H',rt:=Q} (start N vs) H):cW P w K mg jg C m ps (k+1) sp:=by
 obtain⟨f,oc,od,kV,doc,pm,an,c,ct,osl,a,i,l,c',kp,t⟩:=D.ex
 refine⟨f,_,⟨a,i,kp⟩,hb kV doc pm an (.ref c) ct,λbase=>KW l c' S len λA outer s H vs Q E hr xy=>?_⟩
 obtain⟨t',h,q⟩:=hbody f c base A outer s H vs Q E t hr xy
 exact⟨t',h.GF,q⟩
end
theorem BE{P:Program}{w:World}{K:Fg7}{mg mb:Str->Option Value}{k:Nat}{fa a Pt c:Addr}{fd:FuncData}{x:Str}{sp:Sp}{s₁:Shared}{vs:List Value}{ns:List Int}
  (KX:K.In s₁.heap)(hns:s₁.heap.Ns mainGlobals mg)(hb:s₁.heap.Ns builtinsNs mb)(hbb:∀x:Str,x≠"__name__"->mb x=bootBuiltins x)(hlim:s₁.heap.NoLimit)(hg:s₁.gens= #[])
  (hbm:∃bm ob,mg "__builtins__"=some (.ref bm)/\bm≠builtinsNs/\s₁.heap.get? bm=some ob/\ob.cls=.type "module"/\ob.dict=some builtinsNs/\ob.data=.plain)
  (hT:s₁.heap.get? Pt=some (PySem.W.tabObj #[]))(KT:K.lookup Pt=none)(hcd:PySem.W.codeHdIn K c Pt=true)
  (ha:s₁.heap.get? a=some {cls:=.type "list",data:=.seq vs.toArray})(hi:IntsAre vs ns)(hl:ns.length<=sizeLine)(hr:dH k callerA)
  (F:∀base:Heap,mU P w K mg base jg k fa fd [x] sp)(hbind:∀(s:Shared)(u:Value),BindsTo s fd ⟨[u],[]⟩ [(x,u)])
  (xy:∀H:Hp,aZ K H a (ns.map V.int)->H Pt=some (.pA #[])->dj K mg H->sp [.ref a] H (λv _=>v=.bl true) λ_ _ _=>False):
  codeAny (model P w) callerA (.call (.ref fa) ⟨[.ref a],[]⟩) (λr s'=>r=.ok (.ret (.bool true))/\OldK s₁.heap s'.heap/\s'.os=s₁.os/\AllBare s'.gens) s₁:=by
 have rv:=rS hi
 have Vp:=hi.length
 obtain⟨bm,ob,b1,b2,b3,b4,b5,b6⟩:=hbm
 have naP:a≠Pt:=λz=>by rw[z,hT]at ha;cases ha
 have nab:a≠bm:=λz=>by rw[z,b3]at ha;cases ha;cases b6
 have nbP:bm≠Pt:=λz=>by rw[z,hT]at b3;cases b3;cases b6
 obtain⟨H,hH,hS,hP,hB⟩:∃H:Hp,(∀b u,H b=some u->K.lookup b=none/\((b=a/\u=.eF {cls:=.type "list",data:=.seq vs.toArray} (.lst (ns.map V.int)))\/(b=Pt/\u=.pA #[])\/(b=bm/\u=.eF ob (.ext λ_=>True))))/\aZ K H a (ns.map V.int)/\H Pt=some (.pA #[])/\dj K mg H:=by
  refine⟨λb=>if b=Pt then some (.pA #[])else if b=a then(match K.lookup a with|none=>some (.eF {cls:=.type "list",data:=.seq vs.toArray} (.lst (ns.map V.int)))|some _=>none)else if b=bm then(match K.lookup bm with|none=>some (.eF ob (.ext λ_=>True))|some _=>none)else none,λb u e=>?_,?_,if_pos rfl,bm,ob,b1,b2,?_,b4,b5,b6⟩
  ·dsimp only at e
   split at e
   ·rename_i hb;subst hb;cases e;exact⟨KT,.inr (.inl ⟨rfl,rfl⟩)⟩
   ·split at e
    ·rename_i hb;subst hb
     split at e
     ·rename_i hk;cases e;exact⟨hk,.inl ⟨rfl,rfl⟩⟩
     ·cases e
    ·split at e
     ·rename_i hb;subst hb
      split at e
      ·rename_i hk;cases e;exact⟨hk,.inr (.inr ⟨rfl,rfl⟩)⟩
      ·cases e
     ·cases e
  ·cases hk:K.lookup a with
   |some o=>
    have e:=KX a o hk
    rw[ha]at e
    cases e
    exact .inr ⟨_,vs.toArray,_,hk,rfl,rfl,rfl,by rw[List.size_toArray,Vp];exact hl,by simpa using rv⟩
   |none=>
    refine .inl (.inr ⟨{cls:=.type "list",data:=.seq vs.toArray},?_⟩)
    dsimp only
    rw[if_neg naP,if_pos rfl]
  ·cases hk:K.lookup bm with
   |some o=>
    have e:=KX bm o hk
    rw[b3]at e
    cases e
    exact .inl rfl
   |none=>
    refine .inr ?_
    dsimp only
    rw[if_neg nbP,if_neg nab.symm,if_pos rfl]
 have hok:kZ P w H s₁.heap:=λb u e=>by
  obtain⟨_,h⟩:=hH b u e
  rcases h with⟨rfl,rfl⟩|⟨rfl,rfl⟩|⟨rfl,rfl⟩
  ·exact⟨ha,by rw[List.length_map];exact hl,vs,_,rv,ha⟩
  ·exact hT
  ·exact⟨b3,trivial,⟨_,b3⟩,λ_ _ _ _=>trivial⟩
 have AF:∀{b:Addr}{o:Obj},s₁.heap.get? b=some o->H b=none->(uz s₁.heap H).get? b=some o:=λe n=>Fv e n
 have PC:∀{b:Addr}{o:Obj}{es:Array DictEntry}{ep:Nat},s₁.heap.get? b=some o->o.data=.dict es ep->H b=none:=λ{b o es ep} e d=>by
  cases q:H b with
  |none=>rfl
  |some u=>
   obtain⟨_,h⟩:=hH b u q
   rcases h with⟨rfl,rfl⟩|⟨rfl,rfl⟩|⟨rfl,rfl⟩
   ·rw[ha]at e;cases e;cases d
   ·rw[hT]at e;cases e;cases d
   ·rw[b3]at e;cases e;rw[b6]at d;cases d
 have UU:∀{b:Addr}{m:Str->Option Value},s₁.heap.Ns b m->(uz s₁.heap H).Ns b m:=λ{b m} ⟨o,es,ep,e,d,r⟩=>⟨o,es,ep,AF e (PC e d),d,r⟩
 have hKb:K.In (uz s₁.heap H):=λb o e=>AF (KX b o e) (by
  cases q:H b with
  |none=>rfl
  |some u=>
   have z:=(hH b u q).1
   have e':K.lookup b=some o:=e
   rw[z]at e';cases e')
 have hM:Mod K mg (uz s₁.heap H):=⟨hKb,UU hns,⟨mb,UU hb,hbb⟩,let⟨mc,h1,h2⟩:=hlim;⟨mc,UU h1,h2⟩⟩
 have e0:xh P w K mg (uz s₁.heap H) callerA [] s₁ H:=⟨rfl,hM,λb o e=>HX e,Nat.le_of_eq (BO _ _),trivial,λb hb=>absurd (show b∈([]:List Addr)from hb) (by simp),hok,.of_eq hg⟩
 refine codeAny_mono ((F _).run callerA [] s₁ H ⟨[.ref a],[]⟩ [.ref a] [.ref a] _ _ hr e0 (hbind s₁ (.ref a)) (.cons rfl .nil) (xy H hS hP hB)) λr s' h=>?_
 cases r with
 |error e=>exact False.elim h
 |ok fl=>
  cases fl with
  |next=>exact False.elim h
  |brk=>exact False.elim h
  |cont=>exact False.elim h
  |ret u=>
   obtain⟨v,H',os,bare,un,MY,r',q⟩:=h
   have q':v=.bl true:=q
   subst q'
   obtain rfl:u=Value.bool true:=r'
   have isT:isCodeTable s₁.heap Pt:=by
    obtain⟨o,vs,_,_,_,_,_,_,_,h1,h2,h3,h4,_⟩:=PySem.W.codeHd_of_K KX hcd
    exact⟨c,o,vs,h1,h2,h3,h4⟩
   refine⟨rfl,⟨λb o e=>?_,λb o e=>un.there b o e (by simp)⟩,os,bare⟩
   cases q:H b with
   |none=>exact .inl (un.keep b o e q (by intro z;exact absurd (show b∈([]:List Addr)from z) (by simp)) (by simp))
   |some u=>
    obtain⟨_,z⟩:=hH b u q
    rcases z with⟨rfl,rfl⟩|⟨rfl,rfl⟩|⟨rfl,rfl⟩
    ·have e2:=(MY _ _ (un.mG _ _ _ q)).1
     rw[ha]at e;cases e
     exact .inl e2
    ·obtain⟨more,e2⟩:=un.qh _ _ q
     have e3:s'.heap.get? b=some {cls:=.none,data:=.fields (#[]++more)}:=MY _ _ e2
     rw[hT]at e;cases e
     exact .inr (.inl ⟨isT,rfl,#[],more,rfl,e3⟩)
    ·have e2:=(MY _ _ (un.mG _ _ _ q)).1
     rw[b3]at e;cases e
     exact .inl e2
theorem OG{l:PySem.W.OpenLaw}{q:Program}{loose:List Str}{XP:(Str->Option Value)->Heap->Prop}{YP:World->Heap->Prop}{d:DefRec}{K:Params->Fg7}{x:Str}(k:Nat)(Pt:Addr)(hk:dH k callerA)
  (hn:l.most=some 63)(hdf:d.params.defaults=[])
  (hY:∀(w:World)(h:Heap),YP w h->(K w.params).In h/\h.get? Pt=some (PySem.W.tabObj #[]))
  (sp:Fg7->(Str->Option Value)->Sp)(xy:∀(K:Fg7)(mg:Str->Option Value)(H:Hp)(a:Addr)(ns:List Int),ns.length<=63->aZ K H a (ns.map V.int)->H Pt=some (.pA #[])->dj K mg H->sp K mg [.ref a] H (λv _=>v=.bl true) λ_ _ _=>False)
  (F:∀(w:World)(mg:Str->Option Value),MG (K w.params) mg->(K w.params).lookup Pt=none/\(∃c,PySem.W.codeHdIn (K w.params) c Pt=true)/\eN l.prog w (K w.params) mg d.name [x] k (sp (K w.params) mg)):
  PySem.W.WalkO q loose XP YP l.row.toRowW d [] (λf vs=>PySem.call f vs):=by
 refine ZA.wV hn hdf λw s₀ s₁ mg mb fa o pm cd doc a vs ns G Y ho hd hcd hmg hobj hints hlen hg=>?_
 obtain⟨KX,hT⟩:=hY w _ Y
 have M:MG (K w.params) mg:=⟨λy v e=>PySem.W.mg_of KX G.T.g e,λy e=>PySem.W.mg_none_of KX G.T.g e⟩
 obtain⟨KT,⟨c,hc⟩,f,fd,h1,h2,h3,h4⟩:=F w mg M
 have e:=hmg.symm.trans h1
 cases e
 exact BE KX G.T.g G.T.b G.T.builtins G.T.nolimit hg G.T.bmain hT KT hc hobj hints (Nat.le_trans hlen (by decide)) hk h4 (λs u=>.of_eq (h3 [u] rfl)) λH hS hP hB=>xy (K w.params) mg H a ns hlen hS hP hB
theorem qC{us:List Value}(h:us.length=1):∃a,us=[a]:=by
 cases us with
 |nil=>cases h
 |cons a r=>cases r with
  |nil=>exact⟨a,rfl⟩
  |cons b r=>cases h
theorem Mm{us:List Value}{n:Nat}(h:us.length=n+1):∃a r,us=a::r/\r.length=n:=by
 cases us with
 |nil=>cases h
 |cons a r=>exact⟨a,r,rfl,Nat.succ.inj h⟩
theorem iz{us:List Value}(h:us.length=2):∃a b,us=[a,b]:=by
 obtain⟨a,r,rfl,g⟩:=Mm h
 obtain⟨b,rfl⟩:=qC g
 exact⟨a,b,rfl⟩
theorem EN{us:List Value}(h:us.length=3):∃a b c,us=[a,b,c]:=by
 obtain⟨a,r,rfl,g⟩:=Mm h
 obtain⟨b,c,rfl⟩:=iz g
 exact⟨a,b,c,rfl⟩
theorem Vq{us:List Value}(h:us.length=4):∃a b c d,us=[a,b,c,d]:=by
 obtain⟨a,r,rfl,g⟩:=Mm h
 obtain⟨b,c,d,rfl⟩:=EN g
 exact⟨a,b,c,d,rfl⟩
theorem cg{a b:TS}{D:Ends}{σ:St}{H:Hp}(h:∀B:TS,B=b->a {D with nx:=λσ' H'=>B D σ' H'} σ H):OP a b D σ H:=h b rfl
section
variable {X:Cx}
theorem iS:∀{xs:List V}{us:List Value}(k:Nat),Vals xs us->Vals (xs.take k) (us.take k)/\Vals (xs.drop k) (us.drop k)
 |_,_,0,h=>⟨.nil,h⟩
 |_,_,k+1,.nil=>⟨by simpa using Paired.nil,by simpa using Paired.nil⟩
 |_,_,k+1,.cons r t=>⟨.cons r (iS k t).1,(iS k t).2⟩
inductive vM(x:V)(vs:List V)(H:Hp)(Q:VK):Prop
 |mk(l:_)(xs:_)(i:_)(y:_):(x=.ref l)->(vs=[.int i,y])->(H l=some (.lst xs))->(0<=i)->(i<=xs.length)->(xs.length<sizeLine)->(Q .dR (upd H l (.lst (xs.take i.toNat++y::xs.drop i.toNat))))->vM x vs H Q
def HD:V->List V->Hp->VK->Prop:=λx vs H Q=>vM x vs H Q
theorem Bv:Xa X "list.insert" HD:=by
 intro pins s σ H x vs v us Q I rx rv h
 obtain⟨l,xs,i,y,rfl,rfl,hH,h1,h2,hz,q⟩:=h
 cases rx
 obtain⟨u1,u2,rfl,ru1,Z_⟩:∃u1 u2,us=[u1,u2]/\RelV (.int i) u1/\RelV y u2:=by
  cases rv with
  |cons r t=>cases t with
   |cons r' t'=>cases t';exact⟨_,_,rfl,r,r'⟩
 obtain⟨t,rfl⟩:=ru1
 obtain⟨z,its,n,r,hl,e⟩:=I.H_ hH
 have hf:Builtin.List.listFitsIndex i=true:=fitsIndex_both LI (by have:=sizeLine_eq;lia)
 refine call_meets F.slot_list_insert ⟨_,e,rfl⟩ F.entry_list_insert (F.args_list_insert_3 _ _ _) (PySem.AutoSeq1.list_insert_list_int_val_1 l _ n i t u2 (by simp[hf]) (by rw[List.size_toArray];lia)) ⟨e,?_⟩
 refine⟨.dR,_,I.Qf (its':=its.take i.toNat++u2::its.drop i.toNat) hH e ?_ ((iS i.toNat r).1.append (.cons Z_ (iS i.toNat r).2)) ?_,rfl,q⟩
 ·have hi:(if i<0 then(i+(its.toArray.size:Int)).toNat else min i.toNat its.toArray.size)=i.toNat:=by
   rw[if_neg LI,List.size_toArray]
   lia
  show(its.toArray.extract 0 (if i<0 then(i+(its.toArray.size:Int)).toNat else min i.toNat its.toArray.size)).push u2++its.toArray.extract (if i<0 then(i+(its.toArray.size:Int)).toNat else min i.toNat its.toArray.size)=_
  rw[hi,PySem.W.kl_ins_eq]
 ·rw[List.length_append,List.length_cons,List.length_take,List.length_drop]
  lia
end
end L2
namespace HT
open PySem PyProof.Rows
section
open PySem.SeqAt
open PySem.AutoSeq1 (wpAny_loadPart')
open PySem.MeetsSeq PySem.MeetsSeq2 PySem.MeetsSeq3
end
end HT
namespace L2
open PySem PySem.Spec PyProof.Rows
section
variable {X:Cx} {pins:List (Addr×Obj)} {σ:St} {H:Hp} {s:Shared}
theorem DW{α:Type}(a:Array α):∀(n:Nat)(b:Array α),((List.replicate n a).foldl (· ++ ·) b).size=b.size+n*a.size:=by
 intro n
 induction n with
 |zero=>intro b;simp
 |succ n ih=>
  intro b
  rw[List.replicate_succ,List.foldl_cons,ih,Array.size_append,Nat.succ_mul]
  lia
inductive Eb(x:V)(y:V)(H:Hp)(Q:VK):Prop
 |mk(z:_)(n:_):(x=.str z)->(y=.int n)->(0<=n)->(n<=1000)->(0<z.length)->(z.length<=1000)->(∀z':Str,z'.length<=1000000->Q (.str z') H)->Eb x y H Q
def Pf:R2:=λx y H Q=>Eb x y H Q
theorem Ac:iD X (binaryOp .Mult) Pf:=by
 intro pins s σ H x y v u Q I rx ry h
 obtain⟨z,n,rfl,rfl,h1,h2,h3,h4,q⟩:=h
 obtain⟨t,rfl⟩:=rx
 obtain⟨t',rfl⟩:=ry
 have sl:=sizeLine_eq
 refine PySem.P.mul_str ?_ (λg1 _=>?_) (λ_ _=>?_) ?_
 ·simp;lia
 ·have hm:(z.length:Int)*n<=1000*1000:=Int.mul_le_mul LI h2 LI (by decide)
  exact Int.not_lt.mpr (Int.le_ediv_of_mul_le LI LI)
 ·have hm:z.length*n.toNat<=1000*1000:=Nat.mul_le_mul h4 LI
  show decide (z.length*n.toNat>sizeLine)=false
  exact decide_eq_false LI
 ·by_cases g1:n<1
  ·rw[if_pos g1]
   exact⟨by decide,.str _,H,I.tok _,⟨_,rfl⟩,q _ (by decide)⟩
  ·rw[if_neg g1]
   by_cases g2:(n==1||z.length==0)=true
   ·rw[if_pos g2]
    exact⟨.str _,H,I,⟨_,rfl⟩,q _ LI⟩
   ·rw[if_neg g2]
    have hs:(⟨(List.replicate n.toNat z.cps).foldl (· ++ ·) #[]⟩:Str).length<=1000000:=by
     show((List.replicate n.toNat z.cps).foldl (· ++ ·) #[]).size<=_
     rw[DW]
     have:n.toNat*z.cps.size<=1000*1000:=Nat.mul_le_mul LI h4
     simpa using this
    exact⟨by lia,.str _,H,I.tok _,⟨_,rfl⟩,q _ hs⟩
end
open PySem PySem.Spec PyProof.Rows PySem.Builtin PySem.Builtin.Str
section
variable {X:Cx}
theorem AM:∀l:List (Str×Tok),Vals ((l.map (·.1)).map V.str) (strValues l):=by
 intro l
 induction l with
 |nil=>exact .nil
 |cons p l ih=>exact .cons ⟨p.2,rfl⟩ ih
end
section
variable {X:Cx} {tg:Expr}
end
section
variable {X:Cx} {body s1 s2:List Stmt} {b1 b2:Stmt} {th1 th2:TS} {tE:XK->TS} {x1 x2:Str} {C1 C2:Addr} {np1 np2 pos hp1 hp2:Pos}
end
section
variable {X:Cx} {pins:List (Addr×Obj)} {σ:St} {H H':Hp} {s:Shared} {a:Addr} {C:Value} {B h6:Heap}
end
section
variable {P:Program} {w:World} {K:Fg7} {mg:Str->Option Value} {base:Heap} {N:List Str} {qual:Str} {scope:Scope} {f:Addr} {cd:Value} {A:Around} {outer:List Env} {s:Shared} {H:Hp} {E:XK}
end
section
variable {M:Model} {A:Around} {E:Value->Shared->Prop} {s:Shared} {env:Env}
end
section
variable {X:Cx} {pins XE:List (Addr×Obj)} {σ σ1:St} {H3 H1 H':Hp} {s3 t1 xU:Shared} {a:Addr} {Cc:Value} {fp:List Addr} {NY:List Str} {scope:Scope} {cl:List (Str×Addr)} {E:XK} {Q:Value->Shared->Prop} {acc:Value}
end
section
variable {X:Cx}
end
section
variable {X:Cx} {o e:Expr} {apos cpos:Pos} {td ty:TE} {a:Addr}
end
end L2
namespace TX
open PySem PyProof.Rows
section
variable {prog:Program} {w:World} {A:Around} {E:Value->Shared->Prop} {s:Shared}
def ent(w:World)(p:Str×Tok):Int×Value:=(hashStr w p.1,.str p.1 p.2)
def jY(ts:List Str)(z:Str):List Str:=if z∈ts then ts else ts++[z]
def iO(w:World)(h:Heap)(a:Addr)(ts:List Str)(b:Bool):Prop:=
 ∃(o:Obj) (es:Array (Int×Value)) (ep:Nat) (t:SetTable) (l:List (Str×Tok)),h.get? a=some o/\o.ExactSet/\o.data=.set es ep t/\es.toList.Perm (l.map (ent w))/\l.map (·.1)=ts/\
  ts.length<scanBound/\t.fits es.size=true/\t.led=b/\(0<ts.length->t.plain=false)
theorem iO.move{h h':Heap}{a:Addr}{ts:List Str}{b:Bool}(x:iO w h a ts b)(k:∀o,h.get? a=some o->h'.get? a=some o):iO w h' a ts b:=
 let⟨o,es,ep,t,l,ho,r⟩:=x;⟨o,es,ep,t,l,k o ho,r⟩
theorem FL{es:Array (Int×Value)}{l:List (Str×Tok)}(p:es.toList.Perm (l.map (ent w))):ElemsOf (strKind prog w) es.toList:=λe he=>by
 obtain⟨q,_,rfl⟩:=List.mem_map.mp (p.mem_iff.mp he)
 exact⟨⟨q.1,strKind_is prog w q.1 q.2,rfl⟩,rfl⟩
theorem mem_of{es:Array (Int×Value)}{l:List (Str×Tok)}(p:es.toList.Perm (l.map (ent w)))(z:Str):(∃e∈es.toList,(strKind prog w).is z e.2=true)↔z∈l.map (·.1):=by
 constructor
 ·rintro⟨e,he,hz⟩
  obtain⟨q,hq,rfl⟩:=List.mem_map.mp (p.mem_iff.mp he)
  obtain rfl:z=q.1:=(strKind prog w).inj _ z q.1 hz (strKind_is prog w q.1 q.2)
  exact List.mem_map.mpr ⟨q,hq,rfl⟩
 ·intro hz
  obtain⟨q,hq,rfl⟩:=List.mem_map.mp hz
  exact⟨_,p.mem_iff.mpr (List.mem_map.mpr ⟨q,hq,rfl⟩),strKind_is prog w q.1 q.2⟩
theorem size_of{es:Array (Int×Value)}{l:List (Str×Tok)}(p:es.toList.Perm (l.map (ent w))):es.size=l.length:=by
 rw[←Array.length_toList,p.length_eq,List.length_map]
theorem LW(t:SetTable)(n:Nat):(t.orStandIn n).led=t.led/\(t.plain=false->(t.orStandIn n).plain=false):=by
 unfold SetTable.orStandIn
 split
 ·exact⟨rfl,id⟩
 ·exact⟨rfl,λ_=>rfl⟩
theorem Ic(t:SetTable)(es:Array (Int×Value))(h:Int)(x:Value):(layNew t es h x).2.1.led=t.led:=by
 unfold layNew
 split
 ·exact(LW _ _).1
 ·rfl
theorem Bf(t:SetTable)(es:Array (Int×Value))(n:Nat):(relayAll t es n).2.1.led=t.led/\(t.plain=false->(relayAll t es n).2.1.plain=false):=by
 unfold relayAll
 split
 ·rename_i t' order q
  have e:t'.led=t.led/\t'.plain=t.plain:=by
   unfold SetTable.relaid SetTable.laid at q
   cases hL:SetTable.layClean (SetTable.sizeAbove n-1) (es.map (·.1))with
   |none=>rw[hL]at q;cases q
   |some ow=>
    rw[hL]at q
    have q':=(Prod.mk.inj (Option.some.inj q)).1
    rw[←q']
    exact⟨rfl,rfl⟩
  dsimp only
  split
  ·exact⟨e.1,λz=>e.2.trans z⟩
  ·exact⟨rfl,λ_=>rfl⟩
 ·exact⟨rfl,λ_=>rfl⟩
theorem Ed{h:Heap}{a:Addr}{o:Obj}{es fs:Array (Int×Value)}{ep:Nat}{t u:SetTable}(ho:h.get? a=some o)(hd:o.data=.set es ep t):
  (h.update a (Obj.putSet fs u)).get? a=some {o with data:=.set fs (ep+1) u}:=by
 have e:=putSet_of fs u hd
 rw[Heap.get?_update_self (Obj.putSet fs u) ho (by rw[e];rfl),e]
theorem CN{g:Bool->Sem Unit}(hg:∀(b:Bool)(s':Shared)(R:Unit->Shared->Prop),R () s'->wpAny (model prog w) A (g b) R E s'){a:Addr}{o:Obj}{es fs:Array (Int×Value)}{ep:Nat}{t u:SetTable}{l:List (Str×Tok)}{ts:List Str}{b wd:Bool}
  (ho:s.heap.get? a=some o)(hex:o.ExactSet)(hd:o.data=.set es ep t)(hp:fs.toList.Perm (l.map (ent w)))(hts:l.map (·.1)=ts)(hb:ts.length<scanBound)(hf:u.fits fs.size=true)(hl:u.led=b)(hpl:u.plain=false)
  {R:Option Bool->Shared->Prop}(h:∀h',Heap.SameBut a s.heap h'->iO w h' a ts b->R (some true) {s with heap:=h'}):
  wpAny (model prog w) A (do
    storeSet a fs u
    if(!wd&&u.tooFull)=true then do
      g (relayAll u fs (SetTable.grown fs.size)).2.2
      storeSet a (relayAll u fs (SetTable.grown fs.size)).1 (relayAll u fs (SetTable.grown fs.size)).2.1
      pure (some true)
     else pure (some true)) R E s:=by
 have hz:=size_of hp
 have hz':fs.size<scanBound:=by rw[hz,←List.length_map (as:=l) (·.1),hts];exact hb
 refine wpAny_bind (wpAny_storeSet_of ho hd ?_ (fits_of_scanBound hz'))
 have h1:=Ed (fs:=fs) (u:=u) ho hd
 have s1:=Heap.SameBut.update s.heap a (Obj.putSet fs u)
 split
 ·have q1:=relayAll_perm u fs (SetTable.grown fs.size)
  have q2:=relayAll_fits u fs (SetTable.grown fs.size)
  obtain⟨q3,q4⟩:=Bf u fs (SetTable.grown fs.size)
  generalize relayAll u fs (SetTable.grown fs.size)=rl at q1 q2 q3 q4 ⊢
  obtain⟨gs,v,gv⟩:=rl
  dsimp only at q1 q2 q3 q4 ⊢
  have hz2:gs.size=fs.size:=by rw[←Array.length_toList,q1.length_eq,Array.length_toList]
  refine wpAny_bind (hg _ _ _ (wpAny_bind (wpAny_storeSet_of h1 rfl ?_ (fits_of_scanBound (by rw[hz2];exact hz')))))
  exact wpAny_pure (h _ (s1.trans (Heap.SameBut.update _ a _)) ⟨_,gs,_,v,l,Ed h1 rfl,hex,rfl,q1.trans hp,hts,hb,q2,q3.trans hl,λ_=>q4 hpl⟩)
 ·exact wpAny_pure (h _ s1 ⟨_,fs,_,u,l,h1,hex,rfl,hp,hts,hb,hf,hl,λ_=>hpl⟩)
theorem NX{a:Addr}{ts:List Str}{b:Bool}{z:Str}{tk:Tok}{Q:Bool->Shared->Prop}(hS:iO w s.heap a ts b)(hr:ts.length+1<scanBound)
  (h:∀h' r,Heap.SameBut a s.heap h'->iO w h' a (jY ts z) b->Q r {s with heap:=h'}):wpAny (model prog w) A (setAddHashed a (.str z tk) (hashStr w z)) Q E s:=by
 obtain⟨o,es,ep,t,l,ho,hex,hd,hp,hts,hb,hf,hl,hpl⟩:=hS
 have hz:=size_of hp
 have hlt:l.length=ts.length:=by rw[←hts,List.length_map]
 have hel:ElemsOf (strKind prog w) es.toList:=FL hp
 have hk:=strKind_is prog w z tk
 unfold setAddHashed setAddHashedIn
 refine wpAny_holding (wpAny_bind (wpAny_setState_of ho hd hf ?_))
 dsimp only
 rw[byScan_of (knd:=strKind prog w) rfl LI hel]
 simp only[↓reduceIte]
 unfold setAddByScan
 refine wpAny_bind (wpAny_bind (wpAny_rule (wpAny_bind (wpAny_setScan_of (knd:=strKind prog w) (k:=z) hk ho hd hf hel ?_))))
 cases hq:List.findIdx? (λe=>(strKind prog w).is z e.2) es.toList with
 |some j=>
  dsimp only
  obtain⟨hj,hpj,_⟩:=List.findIdx?_eq_some_iff_getElem.mp hq
  have hm:z∈ts:=by rw[←hts];exact(mem_of (prog:=prog) hp z).mp ⟨es.toList[j],List.getElem_mem hj,hpj⟩
  refine wpAny_pure (wpAny_pure ?_)
  have:=h s.heap false (Heap.SameBut.refl a s.heap)
  rw[show jY ts z=ts from if_pos hm]at this
  exact this ⟨o,es,ep,t,l,ho,hex,hd,hp,hts,hb,hf,hl,hpl⟩
 |none=>
  dsimp only
  have hm:z∉ts:=λhm=>by
   rw[←hts]at hm
   obtain⟨e,he,uy⟩:=(mem_of (prog:=prog) hp z).mpr hm
   have:=List.findIdx?_eq_none_iff.mp hq e he
   rw[uy]at this;cases this
  have q1:=layNew_perm t es (hashStr w z) (.str z tk)
  have q2:=layNew_fits t es (hashStr w z) (.str z tk)
  have q3:=Ic t es (hashStr w z) (.str z tk)
  generalize layNew t es (hashStr w z) (.str z tk)=lw at q1 q2 q3 ⊢
  obtain⟨fs,u,wd,gv⟩:=lw
  dsimp only at q1 q2 q3 ⊢
  rw[Array.toList_push]at q1
  have hp2:fs.toList.Perm ((l++[(z,tk)]).map (ent w)):=by
   rw[List.map_append]
   exact q1.trans (hp.append_right _)
  have Tf:(l++[(z,tk)]).map (·.1)=jY ts z:=by
   rw[List.map_append,hts]
   exact(if_neg hm).symm
  have hb2:(jY ts z).length<scanBound:=by
   rw[show jY ts z=ts++[z]from if_neg hm,List.length_append]
   simpa using hr
  have hgw:∀(b:Bool)(s':Shared)(R:Unit->Shared->Prop),R () s'->wpAny (model prog w) A (match b with|true=>rule "set.scan.the-table-gave-way"|false=>pure ()) R E s':=
   λb s' R q=>by cases b<;>first|exact wpAny_pure q|exact wpAny_rule q
  refine wpAny_bind (hgw _ _ _ ?_)
  split
  ·refine wpAny_bind ?_
   rw[hashByValue_scannable 8 rfl]
   refine wpAny_pure ?_
   simp only[plainKind,Bool.false_eq_true,if_false]
   refine CN ?_ ho hex hd hp2 Tf hb2 (SetTable.fits_plain_off q2) (q3.trans hl) rfl ?_
   ·intro b s' R q;cases b<;>first|exact wpAny_pure q|exact wpAny_rule q
   ·intro h' sb hS';exact wpAny_pure (h h' true sb hS')
  ·rename_i hpu
   refine wpAny_bind (wpAny_pure ?_)
   simp only[↓reduceIte]
   refine CN ?_ ho hex hd hp2 Tf hb2 q2 (q3.trans hl) (by simpa using hpu) ?_
   ·intro b s' R q;cases b<;>first|exact wpAny_pure q|exact wpAny_rule q
   ·intro h' sb hS';exact wpAny_pure (h h' true sb hS')
end
section
variable {prog:Program} {w:World} {A:Around} {E:Value->Shared->Prop} {s:Shared}
def jN(w:World):Bool:= !(w.params.followText "set-order")
abbrev tY(b:Bool):Obj:={cls:=.type "set",dict:=none,data:=.set #[] 0 (.fresh 0 0 b)}
theorem PJ(v:Value){R:Value->Shared->Prop}(h:R (.ref s.heap.objs.size) {s with heap:=s.heap.push (tY (jN w))}):
  codeAny (model prog w) A (.call (.builtin "set.__new__") ⟨[.type "set",v],[]⟩) (wants R E) s:=by
 refine codeAny_of_tree (show wpAny _ A.in1 (do checkBuiltinCall "set.__new__" ⟨[.type "set",v],[]⟩;again (.builtin "set.__new__" ⟨[.type "set",v],[]⟩)) _ _ s from ?_)
 refine wpAny_bind (wpAny_of_eq (F.newCall_set_1 v) (wpAny_pure ⟨plainId_quiet F.plain_set_new _,codeAny_builtin F.entry_set_new ?_⟩));rw[Around.under_plainId F.plain_set_new _]
 unfold Builtin.«set.__new__» Builtin.Frozenset.newClass;have hsub:=sub_set_self
 obtain⟨hp,g,d,tk,os⟩:=s
 dsimp only;wp_walk;refine wpAny_askSetting (wpAny_pure ?_);dsimp only;simp only[newObj]
 exact wpAny_bind (wpAny_alloc (wpAny_pure (wpAny_pure h)))
def eG(zs:List Str):List Str:=zs.foldl jY []
theorem Gj(ts:List Str)(z:Str):(jY ts z).length<=ts.length+1:=by unfold jY;split<;>simp
theorem wI(zs:List Str)(z:Str):eG (zs++[z])=jY (eG zs) z:=by unfold eG;rw[List.foldl_append];rfl
theorem kT(zs:List Str):(eG zs).length<=zs.length:=by
 have:∀(zs ts:List Str),(zs.foldl jY ts).length<=ts.length+zs.length:=λzs=>by
  induction zs with
  |nil=>intro ts;simp
  |cons z zs ih=>
   intro ts
   have h1:=ih (jY ts z)
   have h2:=Gj ts z
   rw[List.foldl_cons,List.length_cons]
   lia
 simpa [eG]using this zs []
theorem yE{zs:List Str}{z:Str}:z∈eG zs↔z∈zs:=by
 have key:∀(zs ts:List Str),z∈zs.foldl jY ts↔z∈ts\/z∈zs:=λzs=>by
  induction zs with
  |nil=>intro ts;simp
  |cons y zs ih=>
   intro ts
   rw[List.foldl_cons,ih]
   have:z∈jY ts y↔z∈ts\/z=y:=by
    unfold jY
    split
    ·rename_i hy
     exact⟨.inl,λq=>q.elim id λe=>e▸hy⟩
    ·simp
   rw[this,List.mem_cons,or_assoc]
 simpa [eG]using key zs []
theorem uB(zs:List Str):(eG zs).Nodup:=by
 have key:∀(zs ts:List Str),ts.Nodup->(zs.foldl jY ts).Nodup:=λzs=>by
  induction zs with
  |nil=>intro ts h;exact h
  |cons y zs ih=>
   intro ts h
   refine ih _ ?_
   unfold jY
   split
   ·exact h
   ·rename_i hy
    refine List.nodup_append.mpr ⟨h,List.nodup_cons.mpr ⟨by simp,.nil⟩,λa ha b hb e=>hy ?_⟩
    rw[List.mem_singleton]at hb
    rw[←hb,←e];exact ha
 exact key zs [] .nil
section
variable {R:Result->Shared->Prop} {I:Addr} {fp wr:List Addr} {G:Array GenState->Array GenState->Prop} {n:Nat} {P:Nat->Value->Prop} {St:Nat->Shared->Prop}
theorem Mi(W:WalksS prog w A.in1 I fp wr G n P St)(S:Addr)(hSf:S∉fp)(zs:List Str)(b:Bool)(hval:∀i v,P i v->∃z t,zs[i]? = some z/\v=.str z t)(VF:zs.length=n)(hb:n+1<scanBound):
  ∀(k i:Nat)(s:Shared),n-i=k->i<=n->St i s->iO w s.heap S (eG (zs.take i)) b->(∀s',Moved (S::wr) G s s'->iO w s'.heap S (eG zs) b->R (.ok (.ret .none)) s')->
   codeAny (model prog w) A (.builtin "set.update.loop" ⟨[.ref S,.ref I],[]⟩) R s:=by
 have YQ:S∉wr:=λq=>hSf (W.sub _ q)
 have hsub:∀c∈wr,c∈S::wr:=λc q=>List.mem_cons_of_mem _ q
 intro k
 induction k with
 |zero=>
  intro i s hk hi hst hS hR
  obtain rfl:i=n:=by lia
  refine codeAny_builtin F.entry_set_update_loop ?_;rw[Around.under_plainId F.plain_set_update_loop _]
  refine(show wpAny _ A.in1 (pyNext (.ref I) >>= _) _ _ s from wpAny_bind (W.done s _ _ hst λs' hm=>?_))
  rw[←VF,List.take_length]at hS
  exact(show wpAny _ A.in1 (ret Value.none) _ _ s' from wpAny_pure (hR s' (hm.mono hsub) (hS.move λo e=>hm.heap S _ YQ e)))
 |succ k ih=>
  intro i s hk hi hst hS hR
  have hlt:i<n:=by lia
  refine codeAny_builtin F.entry_set_update_loop ?_;rw[Around.under_plainId F.plain_set_update_loop _]
  refine(show wpAny _ A.in1 (pyNext (.ref I) >>= _) _ _ s from wpAny_bind (W.item i s _ _ hlt hst λv s' hP VM hm=>?_))
  obtain⟨z,t,hz,rfl⟩:=hval i v hP
  have hS':iO w s'.heap S (eG (zs.take i)) b:=hS.move λo e=>hm.heap S _ YQ e
  refine(show wpAny _ A.in1 (holding [Value.str z t] (setAdd S (.str z t)) >>= _) _ _ s' from wpAny_bind (wpAny_holding ?_))
  unfold setAdd
  refine wpAny_holding (wpAny_bind ((strKind prog w).pyHash (k:=z) (strKind_is prog w z t) ?_))
  have hroom:(eG (zs.take i)).length+1<scanBound:=by
   have h1:=kT (zs.take i)
   have h2:(zs.take i).length<=i:=by rw[List.length_take];lia
   lia
  refine NX (s:={s' with toks:=s'.toks+1}) hS' hroom λh' r Tg Tu=>?_
  have hSi:iO w h' S (eG (zs.take (i+1))) b:=by
   rw[List.take_add_one,hz]
   show iO w h' S (eG (zs.take i++[z])) b
   rw[wI];exact Tu
  refine wpAny_pure ⟨plainId_quiet F.plain_set_update_loop _,ih (i+1) _ LI hlt (W.frame _ s' _ _ VM (Nat.le_succ _) λc hc o e=>?_) hSi λs'' V_ Ws=>hR s'' (Moved.trans W.gtrans ((hm.mono hsub).then_heap (Nat.le_succ _) λc o hc e=>?_) V_) Ws⟩
  ·rw[Tg.2 c (λq:c=S=>hSf (by rw[←q];exact hc))];exact e
  ·rw[Tg.2 c (λq:c=S=>hc (by rw[q];exact List.mem_cons_self))];exact e
end
set_option maxHeartbeats 3200000 in
theorem yI{l:Addr}{us:List Value}{zs:List Str}{Q:Value->Shared->Prop}(hh:A.handled=none)(hl:s.heap.IsList l us.toArray)(hi:∀(i:Nat)(v:Value),us[i]? = some v->∃z t,zs[i]? = some z/\v=.str z t)(VF:zs.length=us.length)(hb:us.length+1<scanBound)
  (h:∀(h':Heap)(tk:Nat),iO w h' s.heap.objs.size (eG zs) (jN w)->(∀c o,c<s.heap.objs.size->s.heap.get? c=some o->h'.get? c=some o)->Q (.ref s.heap.objs.size) {s with heap:=h',toks:=tk}):
  wpAny (model prog w) A (call (.type "set") [.ref l]) Q E s:=by
 obtain⟨c,tl,abd⟩:=F.called_set.mro
 have hmade:=F.called_set.made
 have hsub:=F.called_set.sub
 refine wpAny_call (codeAny_of_tree (show wpAny _ _ (callAny (.type "set") _) _ _ _ from ?_))
 refine wpAny_pure ⟨Code.quiet_builtin _ DK,codeAny_builtin F.entry_type_call ?_⟩;rw[Around.under_plain (weight_type_call_type "set" [.ref l] []) rfl]
 have h1:=F.called_set.notType
 have h2:=F.called_set.canCreate
 have hct:=F.typeCall_set_1 (.ref l)
 repeat (any_goals (first|assumption|wp_step))
 refine codeAny_mono (PJ (.ref l) (E:=E) (R:=λob s₁=>ob=.ref s.heap.objs.size/\s₁={s with heap:=s.heap.push (tY (jN w))}) ⟨rfl,rfl⟩) λr s₁ hr=>?_
 cases r with
 |error e=>exact hr
 |ok fl=>
  cases fl with
  |ret ob=>
   obtain⟨rfl,rfl⟩:=hr
   have hS:(s.heap.push (tY (jN w))).get? s.heap.objs.size=some (tY (jN w)):=Heap.get?_push_size _ rfl
   have hT:Shared.TypeIs {s with heap:=s.heap.push (tY (jN w))} (.ref s.heap.objs.size) "set":=⟨_,hS,rfl⟩
   have hli:=F.called_set.init.lookup
   have hbi:=F.called_set.init.bind (.ref s.heap.objs.size)
   repeat (any_goals (first|assumption|wp_step))
   refine codeAny_mono (codeAny_call_builtin (R:=wants (λr s₂=>r=.none/\∃h' tk,s₂={s with heap:=h',toks:=tk}/\iO w h' s.heap.objs.size (eG zs) (jN w)/\(∀c o,c<s.heap.objs.size->s.heap.get? c=some o->h'.get? c=some o)) E) F.called_set.init.plain F.entry_set_init (check_set_init_1 hT ?_)) λr₂ s₂ VN=>?_
   ·obtain⟨ol,KD,hcl,nl,hdl⟩:=hl
    obtain⟨aai,Px,XH,LV⟩:=ol
    simp only at hcl hdl;subst hcl;subst hdl
    have VT:(s.heap.push (tY (jN w))).get? l=some {cls:=.type "list",dict:=Px,data:=.seq us.toArray nl,slots:=LV}:=Heap.get?_push_of_some _ KD
    have aa5:=F.sub_list_set
    have aa6:=F.sub_list_frozenset
    have hne:(Value.type "list"==Value.type "dict")=false:=by decide
    have hl1:(s.heap.push (tY (jN w))).IsList l us.toArray:=⟨_,VT,rfl,nl,rfl⟩
    unfold Builtin.«set.__init__» noKeywords Builtin.Frozenset.updateFrom
    generalize hPI:pyIter=PI
    wp_walk
    subst hPI
    refine wpAny_pyIter_list hl1 (wpAny_bind (wpAny_runValue ?_))
    have hlS:l<s.heap.objs.size:=Heap.lt_size KD
    have Tq:A.in1.in1.in1.handled=none:=by simp[hh]
    have VW:l≠(s.heap.push (tY (jN w))).objs.size:=by rw[Heap.size_push];exact Nat.ne_of_lt (Nat.lt_succ_of_lt hlS)
    have hSf:s.heap.objs.size∉[(s.heap.push (tY (jN w))).objs.size,l]:=by
     rw[Heap.size_push]
     intro q
     simp only[List.mem_cons,List.not_mem_nil,or_false]at q
     have Wb:l<s.heap.objs.size:=hlS
     rcases q with q|q
     ·exact absurd q (Nat.ne_of_lt (Nat.lt_succ_self _))
     ·exact absurd q (Nat.ne_of_gt Wb)
    have hus:us.toArray.size=us.length:=rfl
    refine Mi ((Walks.list Tq _ l VW us.toArray).toS) s.heap.objs.size hSf zs (jN w) (λi v q=>hi i v (by simpa using q)) VF LI us.toArray.size 0 _ LI (Nat.zero_le _) ⟨⟨_,Heap.get?_push_size _ rfl,rfl,rfl⟩,(hl1.push _)⟩ ?_ ?_
    ·exact⟨_,#[],0,_,[],Heap.get?_push_of_some _ hS,⟨rfl,rfl,rfl⟩,rfl,.nil,rfl,by show 0<scanBound;decide,by rfl,rfl,λq=>absurd q (Nat.lt_irrefl 0)⟩
    ·intro s' hm hS'
     obtain⟨h',g',d',tk',os'⟩:=s'
     obtain rfl:g'=s.gens:=hm.gens
     obtain rfl:d'=s.drawn:=hm.drawn
     obtain rfl:os'=s.os:=hm.os
     show wpAny _ _ _ _ _ _
     refine wpAny_pure (show wpAny _ _ (ret Value.none) _ _ _ from wpAny_pure ⟨rfl,h',tk',rfl,hS',λc o hc e=>?_⟩)
     refine hm.heap c o (λq=>?_) (Heap.get?_push_of_some _ (Heap.get?_push_of_some _ e))
     simp only[List.mem_cons,List.not_mem_nil,or_false]at q
     rw[Heap.size_push]at q
     rcases q with q|q
     ·exact absurd q (Nat.ne_of_lt hc)
     ·exact absurd q (Nat.ne_of_lt (Nat.lt_succ_of_lt hc))
   ·cases r₂ with
    |error e=>exact VN
    |ok fl₂=>
     cases fl₂ with
     |ret r=>
      obtain⟨rfl,h',tk,rfl,hS',hk'⟩:=VN
      repeat (any_goals (first|assumption|wp_step))
      exact h _ _ hS' hk'
     |_=>exact VN.elim
  |_=>exact hr.elim
end
namespace SF
theorem jv:Slot "set_iterator" "__next__" "set_iterator.__next__":=.of (owner:="set_iterator") (n:="__next__") (by rw[typeLookup_type,builtinLookup_eq_fast];kernel_rfl) DK DK DK (.inl DK) (by rw[isSubtype_type];kernel_rfl)
theorem Aj:entryFor table "set_iterator.__next__"=some Builtin.«set_iterator.__next__» :=entryFor_of_tree (by kernel_rfl)
theorem Iu:entryFor table "set.__iter__"=some Builtin.«frozenset.__iter__» :=entryFor_alias (id':="frozenset.__iter__") (by kernel_rfl) rfl DK (by kernel_rfl)
theorem EB(a:Value):argsOk "set_iterator.__next__" ⟨[a],[]⟩:=by unfold argsOk;kernel_rfl
theorem Ql:typeLookup (.type "set") "__len__"=pure (some (.builtin "set.__len__")):=by rw[typeLookup_type,builtinLookup_eq_fast];kernel_rfl
end SF
section
variable {prog:Program} {w:World} {A:Around} {E:Value->Shared->Prop} {s:Shared}
def Cg(h:Heap)(I:Addr)(first:Value)(i:Nat)(a:Addr)(n ep:Nat):Prop:=∃o:Obj,h.get? I=some o/\o.cls=.type "set_iterator"/\o.data=.fields #[first,rawInt i,.ref a,rawInt n,rawInt ep]
def CA(h:Heap)(a:Addr)(es:Array (Int×Value))(ep:Nat)(t:SetTable):Prop:=∃o:Obj,h.get? a=some o/\o.data=.set es ep t/\t.fits es.size=true
theorem Cg.typ{I a:Addr}{f:Value}{i n ep:Nat}(h:Cg s.heap I f i a n ep):s.TypeIs (.ref I) "set_iterator":=let⟨o,e,c,_⟩:=h;⟨o,e,c⟩
theorem ur{I a:Addr}{slot i ep:Nat}{es:Array (Int×Value)}{t:SetTable}{r:Option (Value×Nat)}{Q:Option Value->Shared->Prop}(hh:A.handled=none)(hI:Cg s.heap I (rawInt slot) i a es.size ep)(hS:CA s.heap a es ep t)
  (hn:∀(B:Around)(F:Value->Shared->Prop)(R:Option (Value×Nat)->Shared->Prop),R r s->wpAny (model prog w) B (setNext a slot i ep) R F s)
  (h1:∀x nx h',r=some (x,nx)->Cg h' I (rawInt nx) (i+1) a es.size ep->Heap.SameBut I s.heap h'->Q (some x) {s with heap:=h'})
  (h2:∀h',r=none->Heap.ExtBut I s.heap h'->Q none {s with heap:=h'}):wpAny (model prog w) A (pyNext (.ref I)) Q E s:=by
 obtain⟨o,ho,hc,hd⟩:=id hI
 obtain⟨oS,hoS,hdS,hf⟩:=id hS
 unfold pyNext
 refine wpAny_bind (wpAny_attempt (wpAny_callSpecial?_slot (name:=Str.ofString "__next__") hI.typ SF.jv (wpAny_call_entry SF.jv hI.typ SF.Aj ?_ (SF.EB _))))
 unfold Builtin.«set_iterator.__next__»
 refine wpAny_bind (wpAny_pure ?_)
 refine wpAny_bind (wpAny_fieldsOf ho hd ?_)
 refine wpAny_bind (wpAny_setEntries_of hoS hdS hf ?_)
 rw[if_neg (by simp)]
 refine wpAny_bind (hn _ _ _ ?_)
 have e1:(s.heap.update I (Obj.mapFields (·.setIfInBounds 2 Value.none))).get? I=some _:=Heap.get?_update_self _ ho (Obj.isFreed_of_fields (Obj.data_mapFields hd _))
 cases r with
 |some p=>
  obtain⟨x,nx⟩:=p
  refine(show wpAny _ _ (setField (.ref I) 0 (rawInt nx) >>= _) _ _ s from wpAny_bind (wpAny_setField ho hd (by simp) ?_))
  have g1:(s.heap.update I (Obj.mapFields (·.setIfInBounds 0 (rawInt nx)))).get? I=some _:=Heap.get?_update_self _ ho (Obj.isFreed_of_fields (Obj.data_mapFields hd _))
  have d1:=Obj.data_mapFields hd (·.setIfInBounds 0 (rawInt nx))
  refine(show wpAny _ _ (setField (.ref I) 1 (rawInt ((i:Int)+1)) >>= _) _ _ _ from wpAny_bind (wpAny_setField g1 d1 (by simp) ?_))
  have g2:((s.heap.update I (Obj.mapFields (·.setIfInBounds 0 (rawInt nx)))).update I (Obj.mapFields (·.setIfInBounds 1 (rawInt ((i:Int)+1))))).get? I=some _:=Heap.get?_update_self _ g1 (Obj.isFreed_of_fields (Obj.data_mapFields d1 _))
  have d2:=Obj.data_mapFields d1 (·.setIfInBounds 1 (rawInt ((i:Int)+1)))
  exact wpAny_pure ⟨_,rfl,wpAny_pure (h1 x nx _ rfl ⟨_,g2,(Obj.cls_mapFields ..).trans ((Obj.cls_mapFields ..).trans hc),by rw[d2];simp[rawInt]⟩ ((Heap.SameBut.update ..).trans (Heap.SameBut.update ..)))⟩
 |none=>
  refine(show wpAny _ _ (setField (.ref I) 2 .none >>= _) _ _ s from wpAny_bind (wpAny_setField ho hd (by simp) ?_))
  refine(show wpAny _ _ (newExc (.type "StopIteration") [] >>= _) _ _ _ from wpAny_bind ?_)
  simp only[newExc,newTuple]
  refine wpAny_bind (wpAny_newObj_type (wpAny_bind (m:=firstArgMember _ _) (wpAny_of_eq (a:=Value.none) (by first|rfl|(simp only[firstArgMember];rfl)) (wpAny_newObj_type ?_ (by size_fits)))) (by size_fits))
  simp only[raiseNew]
  refine wpAny_bind (wpAny_handled ?_)
  rw[show A.in1.handled=none from hh]
  refine wpAny_bind (wpAny_pure (wpAny_throw ?_));refine wpAny_bind (wpAny_isInstance (T:="StopIteration") (b:=true) ⟨_,Heap.get?_push_size _ rfl,rfl⟩ isSubtype_stop ?_);refine wpAny_pure (h2 _ rfl ?_)
  exact((Heap.SameBut.update ..).extBut.push _).push _
theorem vR{I a b:Addr}{i ep:Nat}{es:Array (Int×Value)}{t:SetTable}{ps:List Nat}{Q:Option Value->Shared->Prop}(hh:A.handled=none)(hI:Cg s.heap I (.ref b) i a es.size ep)(hS:CA s.heap a es ep t)
  (hb:∃o n,s.heap.get? b=some o/\o.data=.seq (ps.map λp=>rawInt (p:Nat)).toArray n)(hp:∀p∈ps,p<es.size)
  (h1:∀p e h',ps[i]? = some p->es[p]? = some e->Cg h' I (.ref b) (i+1) a es.size ep->Heap.SameBut I s.heap h'->Q (some e.2) {s with heap:=h'})
  (h2:∀h',ps[i]? = none->Heap.ExtBut I s.heap h'->Q none {s with heap:=h'}):wpAny (model prog w) A (pyNext (.ref I)) Q E s:=by
 obtain⟨o,ho,hc,hd⟩:=id hI
 obtain⟨oS,hoS,hdS,hf⟩:=id hS
 obtain⟨ob,nb,hob,hdb⟩:=hb
 unfold pyNext
 refine wpAny_bind (wpAny_attempt (wpAny_callSpecial?_slot (name:=Str.ofString "__next__") hI.typ SF.jv (wpAny_call_entry SF.jv hI.typ SF.Aj ?_ (SF.EB _))))
 unfold Builtin.«set_iterator.__next__»
 refine wpAny_bind (wpAny_pure ?_)
 refine wpAny_bind (wpAny_fieldsOf ho hd ?_)
 refine wpAny_bind (wpAny_setEntries_of hoS hdS hf ?_)
 rw[if_neg (by simp)]
 have sq:∀(B:Around)(F:Value->Shared->Prop)(R:Option (Array Value)->Shared->Prop),R (some (ps.map λp=>rawInt (p:Nat)).toArray) s->wpAny (model prog w) B (seqItems? (.ref b)) R F s:=λB F R q=>by
  unfold seqItems?
  refine wpAny_bind (wpAny_load hob ?_)
  rw[hdb]
  exact wpAny_pure q
 refine(show wpAny _ _ (seqItems? (.ref b) >>= _) _ _ s from wpAny_bind (sq _ _ _ ?_))
 dsimp only
 rw[Int.toNat_natCast,List.getElem?_toArray,List.getElem?_map]
 cases hq:ps[i]? with
 |some p=>
  have hlt:=hp p (List.mem_of_getElem? hq)
  have he:es[p]? = some es[p]:=Array.getElem?_eq_getElem hlt
  refine(show wpAny _ _ (setNextDrawn a (p:Int).toNat (ep:Int).toNat >>= _) _ _ s from wpAny_bind ?_)
  unfold setNextDrawn
  refine wpAny_bind (wpAny_setState_of hoS hdS hf ?_)
  dsimp only
  rw[if_neg (by simp),Int.toNat_natCast,he]
  refine wpAny_pure (show wpAny _ _ (setField (.ref I) 1 (rawInt ((i:Int)+1)) >>= _) _ _ s from wpAny_bind (wpAny_setField ho hd (by simp) ?_))
  have g1:(s.heap.update I (Obj.mapFields (·.setIfInBounds 1 (rawInt ((i:Int)+1))))).get? I=some _:=Heap.get?_update_self _ ho (Obj.isFreed_of_fields (Obj.data_mapFields hd _))
  have d1:=Obj.data_mapFields hd (·.setIfInBounds 1 (rawInt ((i:Int)+1)))
  exact wpAny_pure ⟨_,rfl,wpAny_pure (h1 p _ _ hq he ⟨_,g1,(Obj.cls_mapFields ..).trans hc,by rw[d1];simp[rawInt]⟩ (Heap.SameBut.update ..))⟩
 |none=>
  refine(show wpAny _ _ (setField (.ref I) 0 (rawInt 0) >>= _) _ _ s from wpAny_bind (wpAny_setField ho hd (by simp) ?_))
  have g1:(s.heap.update I (Obj.mapFields (·.setIfInBounds 0 (rawInt 0)))).get? I=some _:=Heap.get?_update_self _ ho (Obj.isFreed_of_fields (Obj.data_mapFields hd _))
  have d1:=Obj.data_mapFields hd (·.setIfInBounds 0 (rawInt 0))
  refine(show wpAny _ _ (setField (.ref I) 2 .none >>= _) _ _ _ from wpAny_bind (wpAny_setField g1 d1 (by simp) ?_))
  refine(show wpAny _ _ (newExc (.type "StopIteration") [] >>= _) _ _ _ from wpAny_bind ?_)
  simp only[newExc,newTuple]
  refine wpAny_bind (wpAny_newObj_type (wpAny_bind (m:=firstArgMember _ _) (wpAny_of_eq (a:=Value.none) (by first|rfl|(simp only[firstArgMember];rfl)) (wpAny_newObj_type ?_ (by size_fits)))) (by size_fits))
  simp only[raiseNew]
  refine wpAny_bind (wpAny_handled ?_)
  rw[show A.in1.handled=none from hh]
  refine wpAny_bind (wpAny_pure (wpAny_throw ?_));refine wpAny_bind (wpAny_isInstance (T:="StopIteration") (b:=true) ⟨_,Heap.get?_push_size _ rfl,rfl⟩ isSubtype_stop ?_);refine wpAny_pure (h2 _ hq ?_)
  exact(((Heap.SameBut.update ..).trans (Heap.SameBut.update ..)).extBut.push _).push _
end
open PySem PyProof.Rows
section
variable {prog:Program} {w:World} {A:Around} {E:Value->Shared->Prop} {s:Shared}
theorem ZF{n:Nat}{Q:Nat->Shared->Prop}(hn:n≠0)(h:∀i d,i<n->Q i {s with drawn:=d}):wpAny (model prog w) A (choose .order n) Q E s:=λΓ p hΓ=>by
 have:=Sem.wp_choose (M:=model prog w) (Γ:=Γ) (Q:=λa _ s'=>Q a s') (E:=λe _ s'=>E e s') (p:=p) (s:=s) .order n pure
 exact this▸⟨hn,h _ _ (Nat.mod_lt _ (Nat.pos_of_ne_zero hn))⟩
theorem FJ{α:Type}:∀{l:List α}{i:Nat}(h:i<l.length),(l[i]::l.eraseIdx i).Perm l
 |x::l,0,_=>.refl _
 |x::l,i+1,h=>(List.Perm.swap x _ _).trans ((FJ (l:=l) (i:=i) (by simpa using h)).cons x)
theorem NG{α:Type}:∀(n:Nat)(xs:List α)(s:Shared){Q:List α->Shared->Prop},xs.length<=n->(∀ys d,ys.Perm xs->Q ys {s with drawn:=d})->wpAny (model prog w) A (drawOrder n xs) Q E s:=by
 intro n
 induction n with
 |zero=>
  intro xs s Q hl h
  obtain rfl:xs=[]:=List.eq_nil_of_length_eq_zero LI
  unfold drawOrder;exact wpAny_pure (h [] s.drawn .nil)
 |succ n ih=>
  intro xs s Q hl h
  cases xs with
  |nil=>unfold drawOrder;exact wpAny_pure (h [] s.drawn .nil)
  |cons x xs=>
   unfold drawOrder
   refine wpAny_bind (ZF (by simp) λi d hi=>?_)
   rw[List.getElem?_eq_getElem hi]
   refine wpAny_bind (ih _ _ ?_ λys d' p=>wpAny_pure (h _ d' ?_))
   ·rw[List.length_eraseIdx_of_lt hi];simp at hl ⊢;lia
   ·exact(p.cons _).trans (FJ hi)
theorem LN{α:Type}(f:Nat->Nat)(xs:Array α):(pickOrder f xs).toList.Perm xs.toList:=by
 have key:∀(n k:Nat)(l:List α)(out:Array α),l.length<=n->(pickOrder.go f n k l out).toList.Perm (out.toList++l):=by
  intro n
  induction n with
  |zero=>
   intro k l out hl
   obtain rfl:l=[]:=List.eq_nil_of_length_eq_zero LI
   unfold pickOrder.go
   simp
  |succ n ih=>
   intro k l out hl
   unfold pickOrder.go
   cases l with
   |nil=>simp
   |cons x l=>
    have hi:f k%(x::l).length<(x::l).length:=Nat.mod_lt _ (by simp)
    rw[List.getElem?_eq_getElem hi]
    dsimp only
    refine(ih _ _ _ (by rw[List.length_eraseIdx_of_lt hi];simp at hl ⊢;lia)).trans ?_
    rw[Array.toList_push,List.append_assoc]
    exact List.Perm.append_left _ (FJ hi)
 unfold pickOrder
 exact(key _ _ _ _ (by simp)).trans (by simp)
theorem Ai(a:Addr)(slot given ep:Nat):setNext a slot given ep=(do
  let(es,e,t) ←setState a
  if←setsByText then
   if e != ep then unsupported "set_iterator.__next__:elements-changed"
   return ((←setWalk a)[given]?).map λx=>(x.2,slot)
  if(!t.plain&&decide (es.size>1))=true then unsupported "set_iterator.__next__:the-table-is-plain-no-more"
  let _ ←(if(!t.led && !es.isEmpty)=true then unsupported "set:maker-not-led" else pure ():Sem Unit)
  return match es[SetTable.below t.place slot]?,t.place[SetTable.below t.place slot]? with
   |some (_,x),some j=>some (x,j+1)
   |_,_=>none):=rfl
theorem FQ(a:Addr):setDrawn a=(do
  let(es,_,t) ←setState a
  let b ←setsByText
  return !b&&(!t.plain&&decide (es.size>1))):=rfl
theorem GU(a:Addr):setWalk a=(do
  let(es,e,t) ←setState a
  if←setsByText then return pickOrder ((←ask).params.setOrder a e) es
  if(!t.plain&&decide (es.size>1))=true then return (←drawOrder es.size es.toList).toArray
  let _ ←(if(!t.led&&decide (es.size>1))=true then unsupported "set:maker-not-led" else pure ():Sem Unit)
  return es):=rfl
theorem Jg{Q:Bool->Shared->Prop}(h:Q (w.params.followText "set-order") s):wpAny (model prog w) A setsByText Q E s:=by
 unfold setsByText
 exact wpAny_bind (wpAny_askSetting (wpAny_pure h))
theorem Hr{a:Addr}{es:Array (Int×Value)}{ep:Nat}{t:SetTable}{Q:(Array (Int×Value)×Nat×SetTable)->Shared->Prop}(hS:CA s.heap a es ep t)(h:Q (es,ep,t) s):wpAny (model prog w) A (setState a) Q E s:=
 let⟨_,ho,hd,hf⟩:=hS;wpAny_setState_of ho hd hf h
theorem Ag{a:Addr}{es:Array (Int×Value)}{ep slot i:Nat}{t:SetTable}{Q:Option (Value×Nat)->Shared->Prop}(hS:CA s.heap a es ep t)(hb:w.params.followText "set-order"=true)
  (h:Q (((pickOrder (w.params.setOrder a ep) es)[i]?).map λx=>(x.2,slot)) s):wpAny (model prog w) A (setNext a slot i ep) Q E s:=by
 rw[Ai]
 refine wpAny_bind (Hr hS (wpAny_bind (Jg ?_)))
 rw[hb,if_pos rfl,if_neg (by simp),GU]
 refine wpAny_bind (wpAny_bind (Hr hS (wpAny_bind (Jg ?_))))
 rw[hb,if_pos rfl]
 exact wpAny_bind (wpAny_askSetting (wpAny_pure (wpAny_pure h)))
theorem Ex{a:Addr}{es:Array (Int×Value)}{ep slot i:Nat}{t:SetTable}{Q:Option (Value×Nat)->Shared->Prop}(hS:CA s.heap a es ep t)(hb:w.params.followText "set-order"=false)(hz:es.size<=1)(hl:t.led=true)
  (h:Q (match es[SetTable.below t.place slot]?,t.place[SetTable.below t.place slot]? with
   |some (_,x),some j=>some (x,j+1)
   |_,_=>none) s):wpAny (model prog w) A (setNext a slot i ep) Q E s:=by
 rw[Ai]
 refine wpAny_bind (Hr hS (wpAny_bind (Jg ?_)))
 have e1:decide (es.size>1)=false:=by simp;lia
 dsimp only
 rw[hb,e1,hl]
 simp only[Bool.and_false,Bool.not_true,Bool.false_and,Bool.false_eq_true,if_false]
 exact wpAny_pure h
theorem Gg(j k:Nat):SetTable.below #[j] k=if j<k then 1 else 0:=by
 unfold SetTable.below
 show SetTable.below.go #[j] k 1 0 1=_
 unfold SetTable.below.go
 simp only[Nat.zero_lt_one,if_true]
 show(if(#[j].getD ((0+1)/2) k<k)then SetTable.below.go #[j] k 0 ((0+1)/2+1) 1 else SetTable.below.go #[j] k 0 0 ((0+1)/2))=_
 have: #[j].getD ((0+1)/2) k=j:=rfl
 rw[this]
 split<;>rfl
end
namespace SF
theorem DL:Slot "set_iterator" "__iter__" "set_iterator.__iter__":=.of (owner:="set_iterator") (n:="__iter__") (by rw[typeLookup_type,builtinLookup_eq_fast];kernel_rfl) DK DK DK (.inl DK) (by rw[isSubtype_type];kernel_rfl)
theorem Hu:entryFor table "set_iterator.__iter__"=some Builtin.«dict_keyiterator.__iter__» :=entryFor_alias (id':="dict_keyiterator.__iter__") (by kernel_rfl) rfl DK (by kernel_rfl)
theorem Lz(a:Value):argsOk "set_iterator.__iter__" ⟨[a],[]⟩:=by unfold argsOk;kernel_rfl
end SF
section
variable {prog:Program} {w:World} {A:Around} {E:Value->Shared->Prop} {s:Shared}
theorem xP{I a:Addr}{f:Value}{i n ep:Nat}{Q:Value->Shared->Prop}(h:Cg s.heap I f i a n ep)(q:Q (.ref I) s):wpAny (model prog w) A (pyIter (.ref I)) Q E s:=by
 refine wpAny_pyIter_slot h.typ SF.DL (wpAny_call_entry SF.DL h.typ SF.Hu (show wpAny _ _ (ret (.ref I)) _ _ s from ?_) (SF.Lz _))
 exact wpAny_pure ⟨_,rfl,"set_iterator",_,h.typ,SF.jv.lookup,q⟩
def tv(p:Str×Tok):Value:=.str p.1 p.2
abbrev PL(l:List (Str×Tok)):Nat->Value->Prop:=λi v=>∃p,l[i]? = some p/\v=tv p
theorem Cg.at{h h':Heap}{I a:Addr}{f:Value}{i n ep:Nat}(x:Cg h I f i a n ep)(k:∀o,h.get? I=some o->h'.get? I=some o):Cg h' I f i a n ep:=let⟨o,e,r⟩:=x;⟨o,k o e,r⟩
theorem CA.at{h h':Heap}{a:Addr}{es:Array (Int×Value)}{ep:Nat}{t:SetTable}(x:CA h a es ep t)(k:∀o,h.get? a=some o->h'.get? a=some o):CA h' a es ep t:=let⟨o,e,r⟩:=x;⟨o,k o e,r⟩
theorem yF{es:List (Int×Value)}{l:List (Str×Tok)}(h:es=l.map (ent w)){i:Nat}{e:Int×Value}(he:es[i]? = some e):∃p,l[i]? = some p/\e.2=tv p:=by
 subst h
 rw[List.getElem?_map]at he
 cases hp:l[i]? with
 |none=>rw[hp]at he;cases he
 |some p=>rw[hp]at he;cases he;exact⟨p,rfl,rfl⟩
theorem Kl{xs:Array Nat}(h:xs.size=1):∃j,xs= #[j]:=by
 obtain⟨l⟩:=xs
 match l,h with
 |[j],_=>exact⟨j,rfl⟩
theorem AI{B:Around}(hh:B.handled=none){I a:Addr}(hne:a≠I){es:Array (Int×Value)}{ep:Nat}{t:SetTable}{l:List (Str×Tok)}(hb:w.params.followText "set-order"=true)(hp:(pickOrder (w.params.setOrder a ep) es).toList=l.map (ent w)):
  Walks prog w B I [I,a] [I] l.length (PL l) (λi h=>Cg h I (rawInt 0) i a es.size ep/\CA h a es ep t)where
 sub:=λb hb=>by simp at hb;simp[hb]
 frame:=λ_ _ _ st hk=>⟨st.1.at λo e=>hk I (by simp) o e,st.2.at λo e=>hk a (by simp) o e⟩
 item:=λi s Q E hi st hQ=>by
  refine ur (slot:=0) hh st.1 st.2 (λB' F' R q=>Ag st.2 hb q) (λx nx h' hr hit sb=>?_) (λh' hr _=>?_)
  ·rw[←Array.getElem?_toList,Option.map_eq_some_iff]at hr
   obtain⟨e,he,q⟩:=hr
   obtain⟨p,h1,h2⟩:=yF hp he
   cases q
   exact hQ _ h' s.toks ⟨p,h1,h2⟩ ⟨hit,st.2.at λo e=>(sb.2 a hne).trans e⟩ λb o hb e=>(sb.2 b (λz=>hb (by simp[z]))).trans e
  ·rw[←Array.getElem?_toList,hp,List.getElem?_map,List.getElem?_eq_getElem hi]at hr
   cases hr
 done:=λs Q E st hQ=>by
  refine ur (slot:=0) hh st.1 st.2 (λB' F' R q=>Ag st.2 hb q) (λx nx h' hr _ _=>?_) (λh' hr eb=>hQ h' s.toks λb o hb e=>eb b o (λz=>hb (by simp[z])) e)
  rw[←Array.getElem?_toList,hp,List.getElem?_map,List.getElem?_eq_none (Nat.le_refl _)]at hr
  cases hr
 self:=λ_ _ _ _ st hQ=>xP st.1 hQ
theorem CI{B:Around}(hh:B.handled=none){I a:Addr}(hne:a≠I){es:Array (Int×Value)}{ep:Nat}{t:SetTable}{l:List (Str×Tok)}(hb:w.params.followText "set-order"=false)(hz:es.size<=1)(hl:t.led=true)(hp:es.toList=l.map (ent w)):
  Walks prog w B I [I,a] [I] l.length (PL l) (λi h=>(∃sl:Nat,Cg h I (rawInt sl) i a es.size ep/\(i=0->sl=0)/\(0<i->sl=t.place.getD 0 0+1))/\CA h a es ep t)where
 sub:=λb hb=>by simp at hb;simp[hb]
 frame:=λ_ _ _ ⟨⟨sl,st,r⟩,st2⟩ hk=>⟨⟨sl,st.at λo e=>hk I (by simp) o e,r⟩,st2.at λo e=>hk a (by simp) o e⟩
 item:=λi s Q E hi st hQ=>by
  obtain⟨⟨sl,st1,r0,r1⟩,st2⟩:=st
  have hlz:l.length=es.size:=by rw[←Array.length_toList,hp,List.length_map]
  obtain rfl:i=0:=by lia
  obtain rfl:=r0 rfl
  obtain⟨oS,hoS,hdS,hf⟩:=id st2
  have hpl:t.place.size=es.size:=by
   simp only[SetTable.fits,Bool.and_eq_true,beq_iff_eq]at hf
   exact hf.1
  obtain⟨j,hj⟩:∃j,t.place= #[j]:=by
   exact Kl LI
  have e0:SetTable.below t.place 0=0:=by rw[hj,Gg,if_neg LI]
  have e1:t.place[0]? = some j:=by rw[hj];rfl
  have h0:es[0]? = some es[0]:=Array.getElem?_eq_getElem LI
  obtain⟨p,h1,h2⟩:=yF hp (i:=0) (e:=es[0]) (by rw[Array.getElem?_toList];exact h0)
  refine ur (slot:=0) hh st1 st2 (λB' F' R q=>Ex st2 hb hz hl q) (λx nx h' hr hit sb=>?_) (λh' hr _=>?_)
  ·rw[e0,h0,e1]at hr
   cases hr
   refine hQ _ h' s.toks ⟨p,h1,h2⟩ ⟨⟨j+1,hit,λz=>absurd z LI,λ_=>by rw[hj];rfl⟩,st2.at λo e=>(sb.2 a hne).trans e⟩ λb o hb e=>(sb.2 b (λz=>hb (by simp[z]))).trans e
  ·rw[e0,h0,e1]at hr
   cases hr
 done:=λs Q E st hQ=>by
  obtain⟨⟨sl,st1,r0,r1⟩,st2⟩:=st
  have hlz:l.length=es.size:=by rw[←Array.length_toList,hp,List.length_map]
  obtain⟨oS,hoS,hdS,hf⟩:=id st2
  have hpl:t.place.size=es.size:=by
   simp only[SetTable.fits,Bool.and_eq_true,beq_iff_eq]at hf
   exact hf.1
  have hnone:es[SetTable.below t.place sl]? = none:=by
   by_cases z:l.length=0
   ·exact Array.getElem?_eq_none LI
   ·obtain⟨j,hj⟩:∃j,t.place= #[j]:=by
     exact Kl LI
    have hs:sl=j+1:=by rw[r1 LI,hj];rfl
    rw[hj,Gg,if_pos LI]
    exact Array.getElem?_eq_none LI
  refine ur (slot:=sl) hh st1 st2 (λB' F' R q=>Ex st2 hb hz hl q) (λx nx h' hr _ _=>?_) (λh' hr eb=>hQ h' s.toks λb o hb e=>eb b o (λz=>hb (by simp[z])) e)
  rw[hnone]at hr
  cases hr
 self:=λ_ _ _ _ ⟨⟨_,st,_⟩,_⟩ hQ=>xP st hQ
theorem xA{B:Around}(hh:B.handled=none){I a b:Addr}(hne:a≠I)(hnb:b≠I){es:Array (Int×Value)}{ep:Nat}{t:SetTable}{ps:List Nat}{l:List (Str×Tok)}(hps:∀p∈ps,p<es.size)(hlen:ps.length=l.length)
  (hp:∀(i p:Nat)(e:Int×Value),ps[i]? = some p->es[p]? = some e->∃q,l[i]? = some q/\e.2=tv q):
  Walks prog w B I [I,a,b] [I] l.length (PL l) (λi h=>Cg h I (.ref b) i a es.size ep/\CA h a es ep t/\∃o n,h.get? b=some o/\o.data=.seq (ps.map λp=>rawInt (p:Nat)).toArray n)where
 sub:=λb hb=>by simp at hb;simp[hb]
 frame:=λ_ _ _ ⟨s1,s2,o,n,s3,s4⟩ hk=>⟨s1.at λo e=>hk I (by simp) o e,s2.at λo e=>hk a (by simp) o e,o,n,hk b (by simp) o s3,s4⟩
 item:=λi s Q E hi st hQ=>by
  obtain⟨s1,s2,s3⟩:=st
  refine vR hh s1 s2 s3 hps (λp e h' h1 h2 hit sb=>?_) (λh' hr _=>?_)
  ·obtain⟨q,h3,h4⟩:=hp i p e h1 h2
   obtain⟨o,n,e1,e2⟩:=s3
   exact hQ _ h' s.toks ⟨q,h3,h4⟩ ⟨hit,s2.at λo e=>(sb.2 a hne).trans e,o,n,(sb.2 b hnb).trans e1,e2⟩ λc o hc e=>(sb.2 c (λz=>hc (by simp[z]))).trans e
  ·rw[List.getElem?_eq_getElem LI]at hr
   cases hr
 done:=λs Q E st hQ=>by
  obtain⟨s1,s2,s3⟩:=st
  refine vR hh s1 s2 s3 hps (λp e h' h1 h2 hit sb=>?_) (λh' hr eb=>hQ h' s.toks λb o hb e=>eb b o (λz=>hb (by simp[z])) e)
  rw[List.getElem?_eq_none LI]at h1
  cases h1
 self:=λ_ _ _ _ st hQ=>xP st.1 hQ
end
open PySem PyProof.Rows
section
variable {prog:Program} {w:World} {A:Around} {E:Value->Shared->Prop} {s:Shared}
theorem lW{α β:Type}{f:α->β}{xs ys:List β}(p:xs.Perm ys):∀{l:List α},ys=l.map f->∃l':List α,l'.Perm l/\xs=l'.map f:=by
 induction p with
 |nil=>intro l h;exact⟨[],by rw[List.map_eq_nil_iff.mp h.symm],rfl⟩
 |cons x _ ih=>
  intro l h
  cases l with
  |nil=>cases h
  |cons y l=>
   cases h
   obtain⟨l',h1,h2⟩:=ih rfl
   exact⟨y::l',h1.cons y,by rw[h2];rfl⟩
 |swap x y zs=>
  intro l h
  cases l with
  |nil=>cases h
  |cons a l=>
   cases l with
   |nil=>cases h
   |cons b l=>cases h;exact⟨b::a::l,List.Perm.swap _ _ _,rfl⟩
 |trans _ _ ih1 ih2=>
  intro l h
  obtain⟨l2,h1,h2⟩:=ih2 h
  obtain⟨l3,h3,h4⟩:=ih1 h2
  exact⟨l3,h3.trans h1,h4⟩
theorem Bg(l:List (Str×Tok))(d:Str×Tok):(List.range l.length).map (λp=>(l[p]?).getD d)=l:=by
 refine List.ext_getElem (by simp) λi h1 h2=>?_
 simp[h2]
theorem MN{a:Addr}{ts:List Str}{Q:Value->Shared->Prop}(hS:iO w s.heap a ts (jN w))
  (h:∀(h':Heap)(d:Drawn)(I:Addr)(fp:List Addr)(l:List (Str×Tok))(St:Nat->Heap->Prop),(∀b o,s.heap.get? b=some o->h'.get? b=some o)->s.heap.objs.size<=I->I∈fp->(∀b∈fp,b=a\/s.heap.objs.size<=b)->
   (l.map (·.1)).Perm ts->St 0 h'->(∀B:Around,B.handled=none->Walks prog w B I fp [I] l.length (PL l) St)->Q (.ref I) {s with heap:=h',drawn:=d}):
  wpAny (model prog w) A (pyIter (.ref a)) Q E s:=by
 obtain⟨o,es,ep,t,l,ho,hex,hd,hp,hts,hb,hf,hl,hpl⟩:=hS
 have hT:s.TypeIs (.ref a) "set":=⟨o,ho,hex.1⟩
 have hz:=size_of hp
 have hlt:a<s.heap.objs.size:=Heap.lt_size ho
 have abf:l.length=ts.length:=by rw[←hts,List.length_map]
 refine wpAny_pyIter_slot hT F.slot_set_iter (wpAny_call_entry F.slot_set_iter hT SF.Iu ?_ (F.args_set_iter_1 _))
 unfold Builtin.«frozenset.__iter__» Builtin.Frozenset.slot0 slotArgs
 simp only[List.isEmpty_nil,Bool.not_true,Bool.false_eq_true,↓reduceIte,bind_assoc,List.length_nil,bne_self_eq_false]
 unfold Builtin.Frozenset.addrOf Builtin.Frozenset.sizeOf
 refine wpAny_bind (wpAny_pure ?_);try dsimp only
 refine wpAny_bind (wpAny_pure (wpAny_bind (wpAny_bind (wpAny_setEntries_of ho hd hf (wpAny_pure ?_)))))
 have sat:∀{h':Heap},(∀b o,s.heap.get? b=some o->h'.get? b=some o)->CA h' a es ep t:=λk=>⟨o,k a o ho,hd,hf⟩
 rw[FQ]
 refine wpAny_bind (wpAny_bind (Hr ⟨o,ho,hd,hf⟩ (wpAny_bind (Jg (wpAny_pure ?_)))))
 by_cases hb':w.params.followText "set-order"=true
 ·rw[hb',if_neg (by simp)]
  refine wpAny_bind (wpAny_pure (wpAny_bind (wpAny_setEpoch_of ho hd hf (wpAny_bind (wpAny_newObj_type (wpAny_pure ⟨_,rfl,"set_iterator",_,⟨_,Heap.get?_push_size _ rfl,rfl⟩,SF.jv.lookup,?_⟩))))))
  obtain⟨l',q1,q2⟩:=lW ((LN (w.params.setOrder a ep) es).trans hp) rfl
  refine h _ s.drawn _ [s.heap.objs.size,a] l' _ (λb o e=>Heap.get?_push_of_some _ e) (Nat.le_refl _) (by simp) (λb q=>?_) (by rw[←hts];exact q1.map _) ⟨⟨_,Heap.get?_push_size _ rfl,rfl,rfl⟩,sat λb o e=>Heap.get?_push_of_some _ e⟩ λB hB=>AI hB (Nat.ne_of_lt hlt) hb' q2
  simp only[List.mem_cons,List.not_mem_nil,or_false]at q
  exact q.elim (λz=>.inr (Nat.le_of_eq z.symm)) .inl
 ·have hb2:w.params.followText "set-order"=false:=by simpa using hb'
  have Wa:t.led=true:=by rw[hl];unfold jN;rw[hb2];rfl
  by_cases hz1:es.size<=1
  ·have e1:decide (es.size>1)=false:=by simp;lia
   rw[hb2,e1,if_neg (by simp)]
   refine wpAny_bind (wpAny_pure (wpAny_bind (wpAny_setEpoch_of ho hd hf (wpAny_bind (wpAny_newObj_type (wpAny_pure ⟨_,rfl,"set_iterator",_,⟨_,Heap.get?_push_size _ rfl,rfl⟩,SF.jv.lookup,?_⟩))))))
   obtain⟨l',q1,q2⟩:=lW hp rfl
   refine h _ s.drawn _ [s.heap.objs.size,a] l' _ (λb o e=>Heap.get?_push_of_some _ e) (Nat.le_refl _) (by simp) (λb q=>?_) (by rw[←hts];exact q1.map _) ⟨⟨0,⟨_,Heap.get?_push_size _ rfl,rfl,rfl⟩,λ_=>rfl,λz=>absurd z (Nat.lt_irrefl 0)⟩,sat λb o e=>Heap.get?_push_of_some _ e⟩ λB hB=>CI hB (Nat.ne_of_lt hlt) hb2 hz1 Wa q2
   simp only[List.mem_cons,List.not_mem_nil,or_false]at q
   exact q.elim (λz=>.inr (Nat.le_of_eq z.symm)) .inl
  ·have e1:decide (es.size>1)=true:=by simp;lia
   rw[hb2,e1,hpl LI,if_pos (by simp)]
   refine wpAny_bind (NG es.size (List.range es.size) s (by simp) λps d pp=>?_)
   have hps:∀p∈ps,p<es.size:=λp m=>by simpa using pp.mem_iff.mp m
   have hlen:ps.length=es.size:=by rw[pp.length_eq,List.length_range]
   refine wpAny_bind (wpAny_newTuple ?_ (by rw[List.length_map,hlen];exact fits_of_scanBound LI))
   refine wpAny_bind (wpAny_setEpoch_of (s:={s with heap:=_,drawn:=d}) (Heap.get?_push_of_some _ ho) hd hf (wpAny_bind (wpAny_newObj_type (wpAny_pure ⟨_,rfl,"set_iterator",_,⟨_,Heap.get?_push_size _ rfl,rfl⟩,SF.jv.lookup,?_⟩))))
   obtain⟨l0,q1,q2⟩:=lW hp rfl
   have lI:l0.length=es.size:=by rw[hz,q1.length_eq]
   have k2:∀b o,s.heap.get? b=some o->((s.heap.push (seqObj "tuple" (ps.map λp=>rawInt (p:Nat)).toArray 0)).push {cls:=.type "set_iterator",data:=.fields #[.ref s.heap.objs.size,rawInt 0,.ref a,rawInt es.size,rawInt ep]}).get? b=some o:=λb o e=>Heap.get?_push_of_some _ (Heap.get?_push_of_some _ e)
   refine h _ d _ [(s.heap.push (seqObj "tuple" (ps.map λp=>rawInt (p:Nat)).toArray 0)).objs.size,a,s.heap.objs.size] (ps.map λp=>(l0[p]?).getD ("",0)) _ k2 (by rw[Heap.size_push];exact Nat.le_succ _) (by simp) (λb q=>?_) ?_ ⟨⟨_,Heap.get?_push_size _ rfl,rfl,rfl⟩,sat k2,_,0,Heap.get?_push_of_some _ (Heap.get?_push_size _ rfl),rfl⟩ λB hB=>xA hB (by rw[Heap.size_push];exact Nat.ne_of_lt (Nat.lt_succ_of_lt hlt)) (by rw[Heap.size_push];exact Nat.ne_of_lt (Nat.lt_succ_self _)) hps (by simp) λi p e h1 h2=>?_
   ·simp only[List.mem_cons,List.not_mem_nil,or_false]at q
    rw[Heap.size_push]at q
    rcases q with q|q|q
    ·exact .inr (by rw[q];exact Nat.le_succ _)
    ·exact .inl q
    ·exact .inr (Nat.le_of_eq q.symm)
   ·have:=pp.map λp=>(l0[p]?).getD (("":Str),(0:Tok))
    rw[←lI,Bg]at this
    rw[←hts]
    exact(this.trans q1).map _
   ·obtain⟨q,h3,h4⟩:=yF q2 (i:=p) (e:=e) (by rw[Array.getElem?_toList];exact h2)
    exact⟨q,by rw[List.getElem?_map,h1];simp[h3],h4⟩
end
section
variable {prog:Program} {w:World} {A:Around} {E:Value->Shared->Prop} {s:Shared}
theorem Iq{l:List (Str×Tok)}{acc:Array Value}(h:ItemsOf (PL l) acc l.length):acc.toList=l.map tv:=by
 refine List.ext_getElem (by rw[Array.length_toList,h.1,List.length_map]) λi h1 h2=>?_
 obtain⟨p,e1,e2⟩:=h.2 i acc.toList[i] (by rw[←Array.getElem?_toList];exact List.getElem?_eq_getElem h1)
 rw[e2,List.getElem_map]
 have h3:i<l.length:=by simpa using h2
 rw[List.getElem?_eq_getElem h3]at e1
 cases e1
 rfl
theorem Ca{a:Addr}{ts:List Str}{Q:List Value->Shared->Prop}(hh:A.handled=none)(hS:iO w s.heap a ts (jN w))
  (h:∀(s':Shared)(l:List (Str×Tok)),s'.os=s.os->s'.gens=s.gens->(∀b o,s.heap.get? b=some o->s'.heap.get? b=some o)->(l.map (·.1)).Perm ts->Q (l.map tv) s'):wpAny (model prog w) A (collect (.ref a)) Q E s:=by
 have⟨o,es,ep,t,l0,ho,hex,_,_,_,hb,_⟩:=hS
 have hlt:a<s.heap.objs.size:=Heap.lt_size ho
 unfold collect
 refine wpAny_bind (wpAny_runValue (codeAny_builtin F.entry_proto_collect ?_));rw[Around.under_plainId F.plain_proto_collect _]
 refine(show wpAny _ A.in1 (newList [] >>= λl=>again (.builtin "list.__iadd__" ⟨[l,.ref a],[]⟩)) _ _ s from wpAny_bind (wpAny_newObj_type ?_))
 refine wpAny_pure ⟨plainId_quiet F.plain_list_iadd _,codeAny_builtin F.entry_list_iadd ?_⟩;rw[Around.under_plainId F.plain_list_iadd _]
 have k0:∀b u,s.heap.get? b=some u->(s.heap.push {cls:=.type "list",data:=.seq ([]:List Value).toArray}).get? b=some u:=λb u e=>Heap.get?_push_of_some _ e
 have hS0:(s.heap.push {cls:=.type "list",data:=.seq ([]:List Value).toArray}).get? s.heap.objs.size=some {cls:=.type "list",data:=.seq ([]:List Value).toArray}:=Heap.get?_push_size _ rfl
 have hT0:Shared.TypeIs {s with heap:=s.heap.push {cls:=.type "list",data:=.seq ([]:List Value).toArray} } (.ref a) "set":=⟨o,k0 a o ho,hex.1⟩
 refine(show wpAny _ A.in1 (Builtin.List.listExtendWith (.ref s.heap.objs.size) (.ref a) (.ref s.heap.objs.size)) _ _ _ from ?_)
 unfold Builtin.List.listExtendWith
 refine wpAny_bind (wpAny_typeOf hT0 ?_)
 have q1:Builtin.List.listSameRef (.ref s.heap.objs.size) (.ref a)=false:=by simp[Builtin.List.listSameRef];exact Nat.ne_of_gt hlt
 have q2:(Value.type "set"==Value.type "list")=false:=by decide
 have q3:(Value.type "set"==Value.type "tuple")=false:=by decide
 simp only[q1,q2,q3,Bool.or_false,Bool.false_eq_true,if_false]
 refine wpAny_bind (MN (hS.move λu e=>k0 a u e) λh' d I fp l St k1 hI hIf hfp KA st W=>?_)
 have hTI:Shared.TypeIs {s with heap:=h',drawn:=d} (.ref a) "set":=⟨o,k1 a o (k0 a o ho),hex.1⟩
 refine wpAny_bind (wpAny_holding ?_)
 unfold Builtin.List.listLengthHint
 refine wpAny_bind (wpAny_specialOf hTI SF.Ql ?_)
 generalize hid:("set.__len__":String)=VC;wp_delta;rw[show splitId VC=some ("set","__len__")from by subst hid;decide +kernel];subst hid
 refine wpAny_bind (wpAny_isInstance (b:=true) hTI (by rw[isSubtype_type];kernel_rfl) ?_)
 refine(show wpAny _ A.in1 (typeOf (.ref a) >>= _) _ _ _ from wpAny_bind (wpAny_typeOf hTI (wpAny_pure ?_)))
 refine(show wpAny _ A.in1 (rule "list.extend.makes-room" >>= λ_=>Builtin.List.listTouch (.ref s.heap.objs.size) >>= λ_=>again (.builtin "list.extend.loop" ⟨[.ref s.heap.objs.size,.ref I,.ref s.heap.objs.size],[]⟩)) _ _ _ from wpAny_bind (wpAny_rule ?_))
 have YR:=k1 _ _ hS0
 refine wpAny_bind (show wpAny _ A.in1 (updateSeq s.heap.objs.size (·.push .none) >>= λ_=>updateSeq s.heap.objs.size (·.pop)) _ _ _ from wpAny_bind (wpAny_updateSeq YR rfl ?_))
 have Tu:=Heap.get?_update_self (Obj.mapSeq (·.push Value.none)) YR rfl
 refine wpAny_updateSeq Tu rfl ?_
 have hS3:=Heap.get?_update_self (Obj.mapSeq (·.pop)) Tu rfl
 have Og:∀b u,b≠s.heap.objs.size->h'.get? b=some u->((h'.update s.heap.objs.size (Obj.mapSeq (·.push Value.none))).update s.heap.objs.size (Obj.mapSeq (·.pop))).get? b=some u:=
  λb u hb e=>(Heap.get?_update_other _ _ (Ne.symm hb)).trans ((Heap.get?_update_other _ _ (Ne.symm hb)).trans e)
 have hSf:s.heap.objs.size∉fp:=λm=>by
  rcases hfp _ m with z|z
  ·exact Nat.ne_of_gt hlt z
  ·rw[Heap.size_push]at z;exact Nat.not_succ_le_self _ z
 have hn:l.length<=sizeLine:=by
  rw[←List.length_map (as:=l) (·.1),KA.length_eq]
  exact fits_of_scanBound hb
 have hIs:s.heap.objs.size<=I:=by rw[Heap.size_push]at hI;lia
 refine wpAny_pure ⟨plainId_quiet F.plain_extend_loop _,codeAny_extend_loopS (W _ (by simpa using hh)).toS hn _ hSf _ l.length 0 _ _ _ rfl (Nat.zero_le _) ((W _ (by simpa using hh)).frame 0 h' _ st λb hm u e=>Og b u (λz=>hSf (z▸hm)) e) hS3 (ItemsOf.nil _) λs' acc c hm hS' hacc=>?_⟩
 refine(show wpAny _ A (load s.heap.objs.size >>= _) _ _ s' from wpAny_bind (wpAny_load hS' (wpAny_pure ?_)))
 rw[Iq hacc]
 refine h s' l hm.os hm.gens (λb u e=>?_) KA
 have Nh:=Heap.lt_size e
 refine hm.heap b u (λz=>?_) (Og b u (Nat.ne_of_lt Nh) (k1 b u (k0 b u e)))
 simp only[List.mem_cons,List.not_mem_nil,or_false]at z
 rcases z with z|z
 ·exact Nat.ne_of_lt Nh z
 ·exact Nat.ne_of_lt (Nat.lt_of_lt_of_le Nh hIs) z
end
end TX
namespace L2
open PySem PySem.Spec PyProof.Rows
section
variable {X:Cx} {pins:List (Addr×Obj)} {σ:St} {H:Hp} {s:Shared}
theorem Inv.drw{s':Shared}(I:Inv X pins σ H s)(ho:s'.os=s.os)(hg:s'.gens=s.gens)(k:∀b u,s.heap.get? b=some u->s'.heap.get? b=some u):Inv X pins σ H s':=by
 have J:=I.kept (h':=s'.heap) (t':=s'.toks) k
 exact⟨J.ok,ho.trans J.os,by rw[hg];exact J.bare,J.base,J.loc,J.cell,J.free,J.gx,J.pin,J.hok,J.len⟩
theorem Hi{K:Fg7}(z:Str)(t:Tok):Den K H (.str z t) (.str z):=⟨.str z,⟨t,rfl⟩,.str z⟩
inductive rX(K:Fg7)(Q:VK)(x:V)(H1:Hp):Prop
 |mk(p:Addr)(zs:List Str):(x=.ref p)->(aZ K H1 p (zs.map V.str))->(zs.length+1<scanBound)->(TS.Fits zs.length)->(∀(l:Addr)(ts:List Str),H1 l=none->ts.Nodup->(∀z,z∈ts↔z∈zs)->(ts.map Dv.str).Pairwise (λd e=>aV d e≠.gt)->Q (.ref l) (upd H1 l (.lst (ts.map V.str))))->rX K Q x H1
def CT(K:Fg7)(te:TE):TE:=λσ H Q=>te σ H λx H1=>rX K Q x H1
theorem Lv(hc:X.calm=true)(hu:X.A.units+64<cLine){a:Addr}{ts:List Str}{Q:VK}(I:Inv X pins σ H s)(hS:TX.iO X.w s.heap a ts (TX.jN X.w))(hz:TS.Fits ts.length)
  (q:∀(l:Addr)(rs:List Str),H l=none->rs.Perm ts->(rs.map Dv.str).Pairwise (λd e=>aV d e≠.gt)->Q (.ref l) (upd H l (.lst (rs.map V.str)))):
  wpAny (model X.prog X.w) X.A (call (.builtin "sorted") [.ref a]) (EP X pins σ Q) X.xe s:=by
 refine Calls.call_function_entry kind_sorted plain_sorted entry_sorted (args_sorted1 _) ?_
 unfold Builtin.«sorted»;refine wpAny_bind (m:=checkCount "sorted" 1 1 _) (wpAny_pure (wpAny_bind (TX.Ca (by first|exact I.ok.hd hc|simpa using I.ok.hd hc) hS λs1 l ho hg k1 hp=>?_)))
 have I1:Inv X pins σ H s1:=I.drw ho hg k1
 have hlen:(l.map TX.tv).length=ts.length:=by rw[List.length_map,←List.length_map (as:=l) (·.1),hp.length_eq]
 have lI:(l.map TX.tv).length<=sizeLine:=by rw[hlen];have:=hz.1;rw[sizeLine_eq];lia
 refine wpAny_bind (wpAny_newList ?_ lI)
 have Ft:(s1.heap.push (seqObj "list" (l.map TX.tv).toArray 0)).get? s1.heap.objs.size=some (seqObj "list" (l.map TX.tv).toArray 0):=Heap.get?_push_size _ rfl
 have keep:∀b o,s1.heap.get? b=some o->b≠s1.heap.objs.size/\(s1.heap.push (seqObj "list" (l.map TX.tv).toArray 0)).get? b=some o:=λb o e=>⟨Nat.ne_of_lt (Heap.lt_size e),Heap.get?_push_of_some _ e⟩
 have den:∀v∈l.map TX.tv,∃d,Den X.K H v d/\Dv.isA .str d=true:=λv m=>by
  obtain⟨p,_,rfl⟩:=List.mem_map.mp m
  exact⟨_,Hi _ _,rfl⟩
 refine wpAny_bind (wpAny_holding (wpAny_call_entry slot_list_sort ⟨_,Ft,rfl⟩ entry_list_sort ?_ (args_list_sort _)))
 refine TS.qg (κ:=Sh.kind .str) (S:=Gr X.K H .str) (blt:=rJ X.K H) (qt I1 .str) Ft (by rw[hlen];exact hz) (λv m=>den v m) (λh2 h' kp Q' q'=>?_) (λh2 h' kp x y Q' hx hy q'=>?_) λout p1 p2=>⟨_,rfl,wpAny_pure ⟨_,rfl,?_⟩⟩
 ·exact nQ (s:={s1 with heap:=h'}) (I1.kept (t':=s1.toks) λb o e=>kp b o (keep b o e).1 (keep b o e).2) rfl h2 den q'
 ·exact qN (s:={s1 with heap:=h'}) (I1.kept (t':=s1.toks) λb o e=>kp b o (keep b o e).1 (keep b o e).2) rfl (by simp only[in1_units];show _+1<_;lia) hx hy q'
 ·obtain⟨l',r1,rfl⟩:=TX.lW p1 rfl
  have hv:Vals ((l'.map (·.1)).map V.str) (l'.map TX.tv):=AM l'
  have hd:gf X.K H ((l'.map (·.1)).map V.str) ((l'.map (·.1)).map Dv.str):=by
   clear hv r1 p1 p2
   induction l' with
   |nil=>exact .nil
   |cons p l' ih=>exact .cons (.str _) ih
  have pw:=uf I1 hv hd (sh:=.str) (λd m=>by obtain⟨z,_,rfl⟩:=List.mem_map.mp m;rfl) p2
  have We:∃n,(sortedHeap (s1.heap.push (seqObj "list" (l.map TX.tv).toArray 0)) s1.heap.objs.size (l.map TX.tv) (l'.map TX.tv).toArray).get? s1.heap.objs.size=some (seqObj "list" (l'.map TX.tv).toArray n):=by
   unfold sortedHeap
   exact⟨_,get?_update_seq (Heap.get?_push_of_some _ (Heap.get?_push_of_some _ (get?_update_seq Ft λ_=> #[]))) λ_=>(l'.map TX.tv).toArray⟩
  have hold:∀b o,s1.heap.get? b=some o->(sortedHeap (s1.heap.push (seqObj "list" (l.map TX.tv).toArray 0)) s1.heap.objs.size (l.map TX.tv) (l'.map TX.tv).toArray).get? b=some o:=λb o e=>by
   have ne:=(keep b o e).1
   unfold sortedHeap
   rw[Heap.get?_update_ne _ _ _ _ ne]
   refine Heap.get?_push_of_some _ (Heap.get?_push_of_some _ ?_)
   rw[Heap.get?_update_ne _ _ _ _ ne]
   exact(keep b o e).2
  refine⟨.ref s1.heap.objs.size,_,I1.laid (t':=s1.toks) (a:=s1.heap.objs.size) (o:=.lst ((l'.map (·.1)).map V.str)) hold (Nat.le_refl _) ?_,rfl,q _ (l'.map (·.1)) (I1.hok.fresh (Nat.le_refl _)) ((r1.map _).trans hp) pw⟩
  obtain⟨n,hn⟩:=We
  refine⟨by rw[hv.length,List.length_map,←List.length_map (f:=TX.tv),p1.length_eq];exact lI,l'.map TX.tv,n,hv,hn⟩
theorem yc{e:Expr}{te:TE}{p1 p2 c1 c2:Pos}(hc:X.calm=true)(hu:X.A.units+64<cLine)(Wd:Gl X "sorted")(hm1:X.mg "sorted"=none)(ID:Gl X "set")(hm2:X.mg "set"=none)(he:PE X e te)
  (hs1:starEach [.Call (.Name "set" p2) [e] [] c2] X.env=[(false,eval (.Call (.Name "set" p2) [e] [] c2) X.env)]:=by rfl)(hs2:starEach [e] X.env=[(false,eval e X.env)]:=by rfl):
  PE X (.Call (.Name "sorted" p1) [.Call (.Name "set" p2) [e] [] c2] [] c1) (CT X.K te):=by
 intro pins s σ H Q I h
 refine wpAny_Call_Name_kw (gR I Wd hm1 gH ?_ (by decide) (by decide))
 refine PyProof.Rows.callWith_builtin1 ?_ hs1 rfl
 rw[hs1]
 show wpAny _ _ (spliced ((false,eval (.Call (.Name "set" p2) [e] [] c2) X.env)::backTo c1 [])) _ _ s
 refine Calls.spliced_cons ?_
 refine wpAny_Call_Name_kw (gR I ID hm2 NS ?_ (by decide) (by decide))
 refine PyProof.Rows.callWith_type1 ?_ hs2 rfl
 rw[hs2]
 show wpAny _ _ (spliced ((false,eval e X.env)::backTo c2 [])) _ _ s
 refine Calls.spliced_cons (dm (he pins s σ H _ I h) λu s1 ⟨v,H1,I1,r1,p,zs,ev,hp,hz,hf,q⟩=>Calls.spliced_nil ?_)
 subst ev
 cases r1
 obtain⟨its,r',pl,_⟩:=I1.list hp
 have hlen:its.length=zs.length:=by rw[←r'.length,List.length_map]
 refine TX.yI (zs:=zs) (I1.ok.hd hc) pl.isList (λi v e=>?_) hlen.symm (by rw[hlen];exact hz) λh' tk hS k=>Calls.spliced_nil ?_
 ·have hi:=(List.getElem?_eq_some_iff.mp e).1
  have hi':i<zs.length:=by lia
  obtain⟨u,eu,t,ru⟩:=r'.get (x:=.str zs[i]) (i:=i) (by simp[hi'])
  rw[e]at eu;cases eu
  exact⟨zs[i],t,List.getElem?_eq_getElem hi',ru⟩
 ·refine Lv (s:={s1 with heap:=h',toks:=tk}) hc hu (I1.kept (t':=tk) λb u e=>k b u (Heap.lt_size e) e) hS ⟨Nat.le_trans (TX.kT zs) hf.1,Nat.lt_of_le_of_lt (TX.kT zs) hf.2⟩ λl rs hl hp pw=>q l rs hl ?_ (λz=>?_) pw
  ·exact hp.nodup_iff.mpr (TX.uB zs)
  ·rw[hp.mem_iff,TX.yE]
end
theorem ze:∀{Ts:List String}{us:List Value},Vals (Ts.map V.ty) us->us=Ts.map Value.type
 |[],_,.nil=>rfl
 |T::Ts,_,.cons h t=>by
  cases(show _=Value.type T from h)
  rw[ze t];rfl
theorem uE{X:Cx}:ir X (.builtin "isinstance") (λxs H Q=>∃(a tp:Addr) (ys:List V) (Ts:List String) (t:Value) (b:Bool),xs=[.ref a,.ref tp]/\((H a=some (.lst ys)/\t=.type "list")\/(H a=some (.tup ys)/\t=.type "tuple"))/\H tp=some (.tup (Ts.map V.ty))/\PySem.W.kitAny X.K t (Ts.map Value.type)=some b/\Q (.bl b) H):=by
 intro pins s σ H xs us Q I r h
 obtain⟨a,tp,ys,Ts,t,b,rfl,ha,hp,e,q⟩:=h
 obtain⟨u,w',rfl,rx,ry⟩:=vals2 r
 cases ry
 cases rx
 obtain⟨its,rv,⟨⟨c0,d0,da,sl⟩,e0,hc,n,hs⟩,_⟩:=I.tuple (bJ.of (K:=X.K) hp)
 have ev:=ze rv
 subst ev
 cases hc
 cases hs
 rcases ha with⟨ha,rfl⟩|⟨ha,rfl⟩
 ·obtain⟨_,_,n,_,h1⟩:=(show cA X.prog X.w H s.heap a (.lst ys)from I.hok a _ ha)
  exact PySem.W.kia_tup PySem.W.kitx_list I.mE ⟨_,h1,rfl⟩ e0 e (λz=>nomatch z) λtk=>⟨.bl b,H,I.tok _,rfl,q⟩
 ·obtain⟨_,_,_,p⟩:=(show cA X.prog X.w H s.heap a (.tup ys)from I.hok a _ ha)
  obtain⟨o,h1,h2,_⟩:=p
  exact PySem.W.kia_tup PySem.W.kitx_tuple I.mE ⟨o,h1,h2⟩ e0 e (λz=>nomatch z) λtk=>⟨.bl b,H,I.tok _,rfl,q⟩
section
variable {prog:Program} {w:World} {A:Around} {E:Value->Shared->Prop} {s:Shared} {r l:Addr}
theorem DT:typeLookup (.type "list_reverseiterator") "__len__"=pure none:=by rw[typeLookup_type,builtinLookup_eq_fast];kernel_rfl
theorem Be:typeLookup (.type "list_reverseiterator") "__length_hint__"=pure (some (.builtin "list_reverseiterator.__length_hint__")):=by rw[typeLookup_type,builtinLookup_eq_fast];kernel_rfl
theorem DU{Q:Bool->Shared->Prop}(hT:s.TypeIs (.ref r) "list_reverseiterator")(h:Q false s):wpAny (model prog w) A (Builtin.List.listLengthHint (.ref r)) Q E s:=by
 unfold Builtin.List.listLengthHint
 refine wpAny_bind (wpAny_specialOf hT DT ?_)
 wp_delta
 refine wpAny_ite_split (λhab=>absurd hab (by decide)) (λ_=>?_)
 refine wpAny_ite_split (λhab=>absurd hab (by decide)) (λ_=>?_)
 refine wpAny_bind (wpAny_specialOf hT Be ?_)
 generalize hid:("list_reverseiterator.__length_hint__":String)=VC
 wp_delta
 rw[show splitId VC=some ("list_reverseiterator","__length_hint__")from by subst hid;decide +kernel]
 subst hid
 refine wpAny_bind (wpAny_isInstance (T:="list_reverseiterator") (b:=true) hT (by rw[isSubtype_type];kernel_rfl) ?_)
 refine wpAny_ite_split (λhab=>absurd hab (by decide)) (λ_=>?_)
 refine wpAny_ite_split (λ_=>?_) (λhab=>absurd DK hab)
 refine wpAny_ite_split (λhab=>absurd hab DK) (λ_=>?_)
 exact wpAny_pure h
theorem xX{R:Result->Shared->Prop}{items:Array Value}(hh:A.handled=none)(hr:s.heap.IsRevIter r l ((items.size:Int)-1))(hl:s.heap.IsList l items)(S:Addr)(hSr:S≠r)(hSl:S≠l)(hlr:l≠r)(res:Value)(c₀:Nat)(hS:s.heap.get? S=some {cls:=.type "list",data:=.seq #[] c₀})
  (hR:∀h' tk acc' c',(∀b o,b≠S->b≠r->s.heap.get? b=some o->h'.get? b=some o)->h'.get? S=some {cls:=.type "list",dict:=none,data:=.seq acc' c',slots:= #[]}->ItemsOf (λi v=>items[items.size-1-i]? = some v) acc' items.size->R (.ok (.ret res)) {s with heap:=h',toks:=tk})(hn:items.size<=sizeLine):
  wpAny (model prog w) A.in1 (Builtin.List.listExtendWith (.ref S) (.ref r) res)
   (λfin s'=>match fin with|.done f=>R (.ok f) s'|.again c'=>c'.quiet=true/\codeAny (model prog w) A c' R s') (λe s'=>R (.error e) s') s:=by
 have W:=Walks.listRev (prog:=prog) (w:=w) (A:=A.in1) hh r l hlr items
 have hSf:S∉[r,l]:=by simp only[List.mem_cons,List.not_mem_nil,or_false,not_or];exact⟨hSr,hSl⟩
 have st:0<=items.size/\s.heap.IsRevIter r l ((items.size:Int)-1-((0:Nat):Int))/\s.heap.IsList l items:=⟨Nat.zero_le _,by rw[Int.natCast_zero,Int.sub_zero];exact hr,hl⟩
 have key:∀(h:Heap)(c₁ tk:Nat),(0<=items.size/\h.IsRevIter r l ((items.size:Int)-1-((0:Nat):Int))/\h.IsList l items)->(∀b o,b≠S->s.heap.get? b=some o->h.get? b=some o)->
   h.get? S=some {cls:=.type "list",data:=.seq #[] c₁}->codeAny (model prog w) A (.builtin "list.extend.loop" ⟨[.ref S,.ref r,res],[]⟩) R {s with heap:=h,toks:=tk}:=by
  intro h c₁ tk hst hk hS₁
  refine codeAny_extend_loopS W.toS hn S hSf res items.size 0 _ #[] c₁ rfl (Nat.zero_le _) hst hS₁ (ItemsOf.nil _) λs' acc' c' hm hS' hacc=>?_
  rw[Moved.eq_with hm]
  refine hR s'.heap s'.toks acc' c' (λb o hb hb2 e=>hm.heap b o (λhmem=>?_) (hk b o hb e)) hS' hacc
  rcases List.mem_cons.mp hmem with e'|hmem
  ·exact hb e'
  ·exact hb2 (List.mem_singleton.mp hmem)
 unfold Builtin.List.listExtendWith
 refine wpAny_bind (wpAny_typeOf (T:="list_reverseiterator") hr.typeIs ?_)
 have h1:Builtin.List.listSameRef (.ref S) (.ref r)=false:=by simp[Builtin.List.listSameRef,hSr]
 have n1:(Value.type "list_reverseiterator"==Value.type "list")=false:=DK
 have n2:(Value.type "list_reverseiterator"==Value.type "tuple")=false:=DK
 simp only[h1,n1,n2,Bool.or_false,Bool.false_eq_true,if_false]
 refine wpAny_bind (wpAny_pyIter_revIter hr ?_)
 refine wpAny_bind (wpAny_holding (DU hr.typeIs ?_))
 refine wpAny_ite_split (λhab=>absurd hab (by decide)) (λ_=>wpAny_pure ⟨plainId_quiet PySem.F.plain_extend_loop _,key _ c₀ _ st (λb o _ e=>e) hS⟩)
theorem DV{Q:Value->Shared->Prop}{items:Array Value}(hh:A.handled=none)(hr:s.heap.IsRevIter r l ((items.size:Int)-1))(hl:s.heap.IsList l items)(hlr:l≠r)(hn:items.size<=sizeLine)
  (hQ:∀h' tk acc' c',(∀b o,b≠r->s.heap.get? b=some o->h'.get? b=some o)->h'.get? s.heap.objs.size=some {cls:=.type "list",dict:=none,data:=.seq acc' c',slots:= #[]}->ItemsOf (λi v=>items[items.size-1-i]? = some v) acc' items.size->Q (.ref s.heap.objs.size) {s with heap:=h',toks:=tk}):
  wpAny (model prog w) A (call (.type "list") [.ref r]) Q E s:=by
 refine callType_codes (Q₁:=λobj s₁=>obj=.ref s.heap.objs.size/\s₁={s with heap:=s.heap.push {cls:=.type "list",data:=.seq #[]} }) PySem.F.called_list (PySem.F.typeCall_list_1 _) PySem.F.entry_list_init
  (code_list_new _ ⟨rfl,rfl⟩) λobj s₁ h₁=>?_
 obtain⟨rfl,rfl⟩:=h₁
 have hS:(s.heap.push {cls:=.type "list",data:=.seq #[]}).get? s.heap.objs.size=some {cls:=.type "list",data:=.seq #[]}:=Heap.get?_push_size _ rfl
 have hrl:r<s.heap.objs.size:=by obtain⟨o,ho,_⟩:=id hr;exact Heap.lt_size ho
 have rD:l<s.heap.objs.size:=by obtain⟨o,ho,_⟩:=id hl;exact Heap.lt_size ho
 refine⟨⟨_,hS,rfl⟩,PySem.F.args_list_init_2 _ _,?_⟩
 show wpAny _ _ (do let old ←Builtin.List.listItems (.ref s.heap.objs.size);Builtin.List.listUpdate (.ref s.heap.objs.size) (λ_=> #[]);letGo old.toList.reverse;Builtin.List.listExtendWith (.ref s.heap.objs.size) (.ref r) .none) _ _ _
 refine wpAny_bind ?_
 unfold Builtin.List.listItems
 refine wpAny_bind (wpAny_seqItems hS rfl (wpAny_pure ?_))
 show wpAny _ _ (updateSeq s.heap.objs.size (λ_=> #[]) >>= λ_=>letGo (#[]:Array Value).toList.reverse >>= λ_=>Builtin.List.listExtendWith (.ref s.heap.objs.size) (.ref r) .none) _ _ _
 refine wpAny_bind (wpAny_updateSeq hS rfl ?_)
 have hS₂:=Heap.get?_update_self (Obj.mapSeq (λ_=>(#[]:Array Value))) hS rfl
 have Og:∀b o,b≠s.heap.objs.size->s.heap.get? b=some o->((s.heap.push {cls:=.type "list",data:=.seq #[]}).update s.heap.objs.size (Obj.mapSeq (λ_=>(#[]:Array Value)))).get? b=some o:=
  λb o hb e=>(Heap.get?_update_other _ _ (Ne.symm hb)).trans (Heap.get?_push_of_some _ e)
 refine wpAny_bind (wpAny_letGo ?_)
 refine xX (A:=A.in1) hh (hr.at λo e=>Og _ _ (Nat.ne_of_lt hrl) e) (hl.at λo e=>Og _ _ (Nat.ne_of_lt rD) e) s.heap.objs.size (Nat.ne_of_gt hrl) (Nat.ne_of_gt rD) hlr .none _ hS₂ (λh' tk acc' c' hk hS' hacc=>?_) hn
 exact⟨rfl,hQ h' tk acc' c' (λb o hb e=>hk b o (Nat.ne_of_lt (Heap.lt_size e)) hb (Og b o (Nat.ne_of_lt (Heap.lt_size e)) e)) hS' hacc⟩
end
section
variable {X:Cx}
inductive rY(K:Fg7)(Q:VK)(x:V)(H1:Hp):Prop
 |mk(p:Addr)(ys:List V):(x=.ref p)->(aZ K H1 p ys)->(∀l,H1 l=none->Q (.ref l) (upd H1 l (.lst ys.reverse)))->rY K Q x H1
def C_(K:Fg7)(te:TE):TE:=λσ H Q=>te σ H λx H1=>rY K Q x H1
theorem ye{e:Expr}{te:TE}{p1 p2 c1 c2:Pos}(hc:X.calm=true)(Wd:Gl X "list")(hm1:X.mg "list"=none)(ID:Gl X "reversed")(hm2:X.mg "reversed"=none)(he:PE X e te)
  (hs1:starEach [.Call (.Name "reversed" p2) [e] [] c2] X.env=[(false,eval (.Call (.Name "reversed" p2) [e] [] c2) X.env)]:=by rfl)(hs2:starEach [e] X.env=[(false,eval e X.env)]:=by rfl):
  PE X (.Call (.Name "list" p1) [.Call (.Name "reversed" p2) [e] [] c2] [] c1) (C_ X.K te):=by
 intro pins s σ H Q I h
 refine wpAny_Call_Name_kw (gR I Wd hm1 f_ ?_ (by decide) (by decide))
 refine PyProof.Rows.callWith_type1 ?_ hs1 rfl
 rw[hs1]
 show wpAny _ _ (spliced ((false,eval (.Call (.Name "reversed" p2) [e] [] c2) X.env)::backTo c1 [])) _ _ s
 refine Calls.spliced_cons ?_
 refine wpAny_Call_Name_kw (gR I ID hm2 wO ?_ (by decide) (by decide))
 refine PyProof.Rows.callWith_type1 ?_ hs2 rfl
 rw[hs2]
 show wpAny _ _ (spliced ((false,eval e X.env)::backTo c2 [])) _ _ s
 refine Calls.spliced_cons (dm (he pins s σ H _ I h) λu s1 ⟨v,H1,I1,r1,p,ys,ev,hp,q⟩=>Calls.spliced_nil ?_)
 subst ev
 cases r1
 obtain⟨its,r',pl,hz⟩:=I1.list hp
 have hlen:its.length=ys.length:=r'.length.symm
 have hpl:p<s1.heap.objs.size:=by obtain⟨o,ho,_⟩:=pl.isList;exact Heap.lt_size ho
 refine call_reversed_list pl.isList (Calls.spliced_nil ?_)
 refine DV (s:={s1 with heap:=s1.heap.push (revObj p ((its.toArray.size:Int)-1))}) (r:=s1.heap.objs.size) (l:=p) (items:=its.toArray) (I1.ok.hd hc) ⟨_,Heap.get?_push_size _ rfl,rfl,rfl⟩ (pl.isList.at λo e=>Heap.get?_push_of_some _ e) (Nat.ne_of_lt hpl) (by rw[List.size_toArray];lia) λh' tk acc c kp hl it=>?_
 have ea:acc.toList=its.reverse:=by
  refine List.ext_getElem? λi=>?_
  have h1:acc.size=its.length:=by have:=it.1;rw[List.size_toArray]at this;exact this
  by_cases hi:i<its.length
  ·have e:acc[i]? = some (acc[i]' LI):=Array.getElem?_eq_getElem LI
   have:its.toArray[its.toArray.size-1-i]? = some acc[i]:=it.2 i _ e
   rw[List.getElem?_toArray,List.size_toArray]at this
   rw[Array.getElem?_toList,e,List.getElem?_reverse hi,this]
  ·rw[List.getElem?_eq_none (by rw[Array.length_toList];lia),List.getElem?_eq_none (by rw[List.length_reverse];lia)]
 have hk:∀b o,s1.heap.get? b=some o->h'.get? b=some o:=λb o e=>kp b o (Nat.ne_of_lt (Heap.lt_size e)) (Heap.get?_push_of_some _ e)
 refine⟨.ref (s1.heap.push (revObj p ((its.toArray.size:Int)-1))).objs.size,_,I1.laid (t':=tk) (a:=(s1.heap.push (revObj p ((its.toArray.size:Int)-1))).objs.size) (o:=.lst ys.reverse) hk ?_ ?_,rfl,q _ (I1.hok.fresh ?_)⟩
 ·rw[Heap.size_push];lia
 ·exact⟨by rw[List.length_reverse];exact hz,acc.toList,c,by rw[ea];exact r'.reverse,by rw[Array.toArray_toList];exact hl⟩
 ·rw[Heap.size_push];lia
end
end L2
seal L2.PE L2.PT L2.PW L2.PA L2.PS L2.uS L2.PG L2.Ox L2.PI L2.NZ L2.Ci L2.iD L2.Lf L2.ir L2.Gs L2.TQ L2.PO
namespace K1
theorem NK{a s:Int}(hs:1<=s)(ha:a<0):a<=a/s:=by
 have h1:a<(a/s+1)*s:=Int.lt_ediv_add_one_mul_self a LI
 refine Int.not_lt.mp λh=>?_
 have h2:(a/s+1)*s<=(a/s+1)*1:=Int.mul_le_mul_of_nonpos_left LI hs
 rw[Int.mul_one]at h2
 lia
theorem NJ{a s:Int}(hs:1<=s)(ha:0<=a):0<=a/s/\a/s<=a:=⟨Int.ediv_nonneg ha LI,Int.ediv_le_self _ ha⟩
theorem Jb{a s:Int}(hs:1<=s)(ha:a<0):a/s<0:=Int.ediv_neg_of_neg_of_pos ha LI
theorem yH{a s b:Int}(hs:1<=s)(h1: -b<a)(h2:a<b): -b<a/s/\a/s<b:=by
 by_cases h:a<0
 ·have:=NK hs h
  have:=Jb hs h
  lia
 ·have:=NJ hs (Int.not_lt.mp h)
  lia
def LD(a b c:Int):Int:=if c>0 then(if a<b then(b-a-1)/c+1 else 0)else(if a>b then(a-b-1)/(-c)+1 else 0)
theorem FE{t l s:Int}(hs:1<=s):t-l<((t-l)/s+1)*s:=Int.lt_ediv_add_one_mul_self _ LI
theorem LC{t l s:Int}(hs:1<=s)(hl:l<=100*s):LD (((t-l)/s+1)*s) (t+1) s<=100:=by
 unfold LD
 rw[if_pos LI]
 split
 ·have h:=FE (t:=t) (l:=l) hs
  have h2:(t+1-((t-l)/s+1)*s-1)/s<100:=Int.ediv_lt_of_lt_mul LI LI
  lia
 ·lia
theorem Mn{a s q:Int}(hs:1<=s):q*s<=a↔q<=a/s:=(Int.le_ediv_iff_mul_le LI).symm
open PySem PySem.Spec PyProof.Rows L2
def top(i:Nat):Stmt:=PySem.Challenge.pw_weirgauge_k07_whole_however_they_come.main.body.getD i (.Pass ⟨0,0,0,0⟩)
abbrev Dh:Stmt:=top 0
abbrev fE:Stmt:=top 8
theorem xR:aM ["plan"] ["plan"] (ao fE):=⟨rfl,rfl,rfl,DK,rfl,DK,DK⟩
theorem yM(kV doc pm:Value)(an:Option Addr)(cdv ct:Value)(us:List Value)(hl:us.length=[("plan":Str)].length):bindArgs (PySem.W.fnOf "kind_of" "kind_of" (aG fE) (aF fE) (ao fE) .none kV doc pm an cdv ct) ⟨us,[]⟩=pure ((["plan"]:List Str).zip us):=by
 obtain⟨_,rfl⟩:=qC hl
 rfl
abbrev dW:Stmt:=top 9
theorem t_:aM ["plan"] ["plan"] (ao dW):=⟨rfl,rfl,rfl,DK,rfl,DK,DK⟩
theorem uF(kV doc pm:Value)(an:Option Addr)(cdv ct:Value)(us:List Value)(hl:us.length=[("plan":Str)].length):bindArgs (PySem.W.fnOf "length_of" "length_of" (aG dW) (aF dW) (ao dW) .none kV doc pm an cdv ct) ⟨us,[]⟩=pure ((["plan"]:List Str).zip us):=by
 obtain⟨_,rfl⟩:=qC hl
 rfl
abbrev fD:Stmt:=top 10
theorem xQ:aM ["plan"] ["plan"] (ao fD):=⟨rfl,rfl,rfl,DK,rfl,DK,DK⟩
theorem yL(kV doc pm:Value)(an:Option Addr)(cdv ct:Value)(us:List Value)(hl:us.length=[("plan":Str)].length):bindArgs (PySem.W.fnOf "step_of" "step_of" (aG fD) (aF fD) (ao fD) .none kV doc pm an cdv ct) ⟨us,[]⟩=pure ((["plan"]:List Str).zip us):=by
 obtain⟨_,rfl⟩:=qC hl
 rfl
abbrev eZ:Stmt:=top 11
theorem vI:aM ["plan"] ["plan"] (ao eZ):=⟨rfl,rfl,rfl,DK,rfl,DK,DK⟩
theorem wU(kV doc pm:Value)(an:Option Addr)(cdv ct:Value)(us:List Value)(hl:us.length=[("plan":Str)].length):bindArgs (PySem.W.fnOf "grace_of" "grace_of" (aG eZ) (aF eZ) (ao eZ) .none kV doc pm an cdv ct) ⟨us,[]⟩=pure ((["plan"]:List Str).zip us):=by
 obtain⟨_,rfl⟩:=qC hl
 rfl
abbrev dI:Stmt:=top 14
theorem iu:aM ["plan","length","step"] ["plan"] (ao dI):=⟨rfl,rfl,rfl,DK,rfl,DK,DK⟩
theorem rK(kV doc pm:Value)(an:Option Addr)(cdv ct:Value)(us:List Value)(hl:us.length=[("plan":Str)].length):bindArgs (PySem.W.fnOf "check_plan" "check_plan" (aG dI) (aF dI) (ao dI) .none kV doc pm an cdv ct) ⟨us,[]⟩=pure ((["plan"]:List Str).zip us):=by
 obtain⟨_,rfl⟩:=qC hl
 rfl
abbrev eY:Stmt:=top 15
theorem gZ:aM ["plan","time","length","step","first"] ["plan","time"] (ao eY):=⟨rfl,rfl,rfl,DK,rfl,DK,DK⟩
theorem wR(kV doc pm:Value)(an:Option Addr)(cdv ct:Value)(us:List Value)(hl:us.length=[("plan":Str),("time":Str)].length):bindArgs (PySem.W.fnOf "spans_at" "spans_at" (aG eY) (aF eY) (ao eY) .none kV doc pm an cdv ct) ⟨us,[]⟩=pure ((["plan","time"]:List Str).zip us):=by
 obtain⟨_,_,rfl⟩:=iz hl
 rfl
abbrev gF:Stmt:=top 18
theorem Ba:aM ["keys"] ["keys"] (ao gF):=⟨rfl,rfl,rfl,DK,rfl,DK,DK⟩
theorem Ce(kV doc pm:Value)(an:Option Addr)(cdv ct:Value)(us:List Value)(hl:us.length=[("keys":Str)].length):bindArgs (PySem.W.fnOf "joined" "joined" (aG gF) (aF gF) (ao gF) .none kV doc pm an cdv ct) ⟨us,[]⟩=pure ((["keys"]:List Str).zip us):=by
 obtain⟨_,rfl⟩:=qC hl
 rfl
abbrev fG:Stmt:=top 20
theorem ql:aM ["plan","deeds","desk"] ["plan","deeds"] (ao fG):=⟨rfl,rfl,rfl,DK,rfl,DK,DK⟩
theorem yN(kV doc pm:Value)(an:Option Addr)(cdv ct:Value)(us:List Value)(hl:us.length=[("plan":Str),("deeds":Str)].length):bindArgs (PySem.W.fnOf "answers" "answers" (aG fG) (aF fG) (ao fG) .none kV doc pm an cdv ct) ⟨us,[]⟩=pure ((["plan","deeds"]:List Str).zip us):=by
 obtain⟨_,_,rfl⟩:=iz hl
 rfl
abbrev eX:Stmt:=top 21
theorem oM:aM ["plan","deeds","desk"] ["plan","deeds"] (ao eX):=⟨rfl,rfl,rfl,DK,rfl,DK,DK⟩
theorem wQ(kV doc pm:Value)(an:Option Addr)(cdv ct:Value)(us:List Value)(hl:us.length=[("plan":Str),("deeds":Str)].length):bindArgs (PySem.W.fnOf "standing" "standing" (aG eX) (aF eX) (ao eX) .none kV doc pm an cdv ct) ⟨us,[]⟩=pure ((["plan","deeds"]:List Str).zip us):=by
 obtain⟨_,_,rfl⟩:=iz hl
 rfl
abbrev gE:Stmt:=top 22
theorem A_:aM ["plan","deeds"] ["plan","deeds"] (ao gE):=⟨rfl,rfl,rfl,DK,rfl,DK,DK⟩
theorem Cd(kV doc pm:Value)(an:Option Addr)(cdv ct:Value)(us:List Value)(hl:us.length=[("plan":Str),("deeds":Str)].length):bindArgs (PySem.W.fnOf "missed" "missed" (aG gE) (aF gE) (ao gE) .none kV doc pm an cdv ct) ⟨us,[]⟩=pure ((["plan","deeds"]:List Str).zip us):=by
 obtain⟨_,_,rfl⟩:=iz hl
 rfl
abbrev dg:Stmt:=top 23
theorem gK:aM ["plan","deeds","desk","deed"] ["plan","deeds"] (ao dg):=⟨rfl,rfl,rfl,DK,rfl,DK,DK⟩
theorem qP(kV doc pm:Value)(an:Option Addr)(cdv ct:Value)(us:List Value)(hl:us.length=[("plan":Str),("deeds":Str)].length):bindArgs (PySem.W.fnOf "desk_behind" "desk_behind" (aG dg) (aF dg) (ao dg) .none kV doc pm an cdv ct) ⟨us,[]⟩=pure ((["plan","deeds"]:List Str).zip us):=by
 obtain⟨_,_,rfl⟩:=iz hl
 rfl
abbrev eO:Stmt:=top 25
theorem ko:aM ["_law_found","_law_meant","_law_k"] ["_law_found","_law_meant"] (ao eO):=⟨rfl,rfl,rfl,DK,rfl,DK,DK⟩
theorem qQ(kV doc pm:Value)(an:Option Addr)(cdv ct:Value)(us:List Value)(hl:us.length=[("_law_found":Str),("_law_meant":Str)].length):bindArgs (PySem.W.fnOf "_law_so" "_law_so" (aG eO) (aF eO) (ao eO) .none kV doc pm an cdv ct) ⟨us,[]⟩=pure ((["_law_found","_law_meant"]:List Str).zip us):=by
 obtain⟨_,_,rfl⟩:=iz hl
 rfl
abbrev dJ:Stmt:=top 26
theorem rF:aM ["_law_found"] ["_law_found"] (ao dJ):=⟨rfl,rfl,rfl,DK,rfl,DK,DK⟩
theorem rL(kV doc pm:Value)(an:Option Addr)(cdv ct:Value)(us:List Value)(hl:us.length=[("_law_found":Str)].length):bindArgs (PySem.W.fnOf "_law_whole" "_law_whole" (aG dJ) (aF dJ) (ao dJ) .none kV doc pm an cdv ct) ⟨us,[]⟩=pure ((["_law_found"]:List Str).zip us):=by
 obtain⟨_,rfl⟩:=qC hl
 rfl
abbrev fH:Stmt:=top 27
theorem xS:aM ["_law_script","_law_k"] ["_law_script","_law_k"] (ao fH):=⟨rfl,rfl,rfl,DK,rfl,DK,DK⟩
theorem yO(kV doc pm:Value)(an:Option Addr)(cdv ct:Value)(us:List Value)(hl:us.length=[("_law_script":Str),("_law_k":Str)].length):bindArgs (PySem.W.fnOf "_law_at" "_law_at" (aG fH) (aF fH) (ao fH) .none kV doc pm an cdv ct) ⟨us,[]⟩=pure ((["_law_script","_law_k"]:List Str).zip us):=by
 obtain⟨_,_,rfl⟩:=iz hl
 rfl
abbrev cY:Stmt:=top 28
theorem bR:aM ["_law_one","_law_two","_law_spot","_law_large","_law_wide","_law_length","_law_grace","_law_steps"] ["_law_one","_law_two"] (ao cY):=⟨rfl,rfl,rfl,DK,rfl,DK,DK⟩
theorem pK(kV doc pm:Value)(an:Option Addr)(cdv ct:Value)(us:List Value)(hl:us.length=[("_law_one":Str),("_law_two":Str)].length):bindArgs (PySem.W.fnOf "_law_plan_of" "_law_plan_of" (aG cY) (aF cY) (ao cY) .none kV doc pm an cdv ct) ⟨us,[]⟩=pure ((["_law_one","_law_two"]:List Str).zip us):=by
 obtain⟨_,_,rfl⟩:=iz hl
 rfl
abbrev dX:Stmt:=top 29
theorem ua:aM ["_law_sign","_law_base"] ["_law_sign","_law_base"] (ao dX):=⟨rfl,rfl,rfl,DK,rfl,DK,DK⟩
theorem uG(kV doc pm:Value)(an:Option Addr)(cdv ct:Value)(us:List Value)(hl:us.length=[("_law_sign":Str),("_law_base":Str)].length):bindArgs (PySem.W.fnOf "_law_long" "_law_long" (aG dX) (aF dX) (ao dX) .none kV doc pm an cdv ct) ⟨us,[]⟩=pure ((["_law_sign","_law_base"]:List Str).zip us):=by
 obtain⟨_,_,rfl⟩:=iz hl
 rfl
abbrev cL:Stmt:=top 30
theorem bY:aM ["_law_cell","_law_k","_law_base","_law_name","_law_time","_law_amount"] ["_law_cell","_law_k","_law_base"] (ao cL):=⟨rfl,rfl,rfl,DK,rfl,DK,DK⟩
theorem nY(kV doc pm:Value)(an:Option Addr)(cdv ct:Value)(us:List Value)(hl:us.length=[("_law_cell":Str),("_law_k":Str),("_law_base":Str)].length):bindArgs (PySem.W.fnOf "_law_event_of" "_law_event_of" (aG cL) (aF cL) (ao cL) .none kV doc pm an cdv ct) ⟨us,[]⟩=pure ((["_law_cell","_law_k","_law_base"]:List Str).zip us):=by
 obtain⟨_,_,_,rfl⟩:=EN hl
 rfl
abbrev cZ:Stmt:=top 31
theorem jh:aM ["_law_cell","_law_far"] ["_law_cell"] (ao cZ):=⟨rfl,rfl,rfl,DK,rfl,DK,DK⟩
theorem pL(kV doc pm:Value)(an:Option Addr)(cdv ct:Value)(us:List Value)(hl:us.length=[("_law_cell":Str)].length):bindArgs (PySem.W.fnOf "_law_base_of" "_law_base_of" (aG cZ) (aF cZ) (ao cZ) .none kV doc pm an cdv ct) ⟨us,[]⟩=pure ((["_law_cell"]:List Str).zip us):=by
 obtain⟨_,rfl⟩:=qC hl
 rfl
abbrev cS:Stmt:=top 32
theorem gM:aM ["_law_times","_law_gap","_law_spans","_law_time"] ["_law_times","_law_gap"] (ao cS):=⟨rfl,rfl,rfl,DK,rfl,DK,DK⟩
theorem qR(kV doc pm:Value)(an:Option Addr)(cdv ct:Value)(us:List Value)(hl:us.length=[("_law_times":Str),("_law_gap":Str)].length):bindArgs (PySem.W.fnOf "_law_pauses" "_law_pauses" (aG cS) (aF cS) (ao cS) .none kV doc pm an cdv ct) ⟨us,[]⟩=pure ((["_law_times","_law_gap"]:List Str).zip us):=by
 obtain⟨_,_,rfl⟩:=iz hl
 rfl
abbrev cK:Stmt:=top 33
theorem cP:aM ["_law_plan","_law_times","_law_step","_law_spans","_law_time","_law_k"] ["_law_plan","_law_times"] (ao cK):=⟨rfl,rfl,rfl,DK,rfl,DK,DK⟩
theorem nX(kV doc pm:Value)(an:Option Addr)(cdv ct:Value)(us:List Value)(hl:us.length=[("_law_plan":Str),("_law_times":Str)].length):bindArgs (PySem.W.fnOf "_law_spans_of" "_law_spans_of" (aG cK) (aF cK) (ao cK) .none kV doc pm an cdv ct) ⟨us,[]⟩=pure ((["_law_plan","_law_times"]:List Str).zip us):=by
 obtain⟨_,_,rfl⟩:=iz hl
 rfl
abbrev bX:Stmt:=top 34
theorem cO:aM ["_law_plan","_law_events","_law_rows","_law_name","_law_mine","_law_span","_law_inside"] ["_law_plan","_law_events"] (ao bX):=⟨rfl,rfl,rfl,DK,rfl,DK,DK⟩
theorem nV(kV doc pm:Value)(an:Option Addr)(cdv ct:Value)(us:List Value)(hl:us.length=[("_law_plan":Str),("_law_events":Str)].length):bindArgs (PySem.W.fnOf "_law_table_of" "_law_table_of" (aG bX) (aF bX) (ao bX) .none kV doc pm an cdv ct) ⟨us,[]⟩=pure ((["_law_plan","_law_events"]:List Str).zip us):=by
 obtain⟨_,_,rfl⟩:=iz hl
 rfl
abbrev cM:Stmt:=top 35
theorem fK:aM ["_law_found","_law_size","_law_row","_law_number"] ["_law_found","_law_size"] (ao cM):=⟨rfl,rfl,rfl,DK,rfl,DK,DK⟩
theorem nZ(kV doc pm:Value)(an:Option Addr)(cdv ct:Value)(us:List Value)(hl:us.length=[("_law_found":Str),("_law_size":Str)].length):bindArgs (PySem.W.fnOf "_law_are_rows" "_law_are_rows" (aG cM) (aF cM) (ao cM) .none kV doc pm an cdv ct) ⟨us,[]⟩=pure ((["_law_found","_law_size"]:List Str).zip us):=by
 obtain⟨_,_,rfl⟩:=iz hl
 rfl
abbrev bP:Stmt:=top 36
theorem eB:aM ["_law_events","_law_cells","_law_row","_law_k"] ["_law_events","_law_cells"] (ao bP):=⟨rfl,rfl,rfl,DK,rfl,DK,DK⟩
theorem jV(kV doc pm:Value)(an:Option Addr)(cdv ct:Value)(us:List Value)(hl:us.length=[("_law_events":Str),("_law_cells":Str)].length):bindArgs (PySem.W.fnOf "_law_other_order" "_law_other_order" (aG bP) (aF bP) (ao bP) .none kV doc pm an cdv ct) ⟨us,[]⟩=pure ((["_law_events","_law_cells"]:List Str).zip us):=by
 obtain⟨_,_,rfl⟩:=iz hl
 rfl
abbrev bW:Stmt:=top 37
theorem dF:aM ["_law_events","_law_plan","_law_cells","_law_deeds","_law_k","_law_least"] ["_law_events","_law_plan","_law_cells"] (ao bW):=⟨rfl,rfl,rfl,DK,rfl,DK,DK⟩
theorem kU(kV doc pm:Value)(an:Option Addr)(cdv ct:Value)(us:List Value)(hl:us.length=[("_law_events":Str),("_law_plan":Str),("_law_cells":Str)].length):bindArgs (PySem.W.fnOf "_law_with_marks" "_law_with_marks" (aG bW) (aF bW) (ao bW) .none kV doc pm an cdv ct) ⟨us,[]⟩=pure ((["_law_events","_law_plan","_law_cells"]:List Str).zip us):=by
 obtain⟨_,_,_,rfl⟩:=EN hl
 rfl
abbrev kc:Stmt:=top 38
theorem eS:aM ["_law_script","_law_plan","_law_base","_law_cells","_law_events","_law_k","_law_other","_law_last","_law_end","_law_one","_law_two","_law_due","_law_deeds","_law_found","_law_told"] ["_law_script"] (ao kc):=⟨rfl,rfl,rfl,DK,rfl,DK,DK⟩
theorem NU(kV doc pm:Value)(an:Option Addr)(cdv ct:Value)(us:List Value)(hl:us.length=[("_law_script":Str)].length):bindArgs (PySem.W.fnOf "law" "law" (aG kc) (aF kc) (ao kc) .none kV doc pm an cdv ct) ⟨us,[]⟩=pure ((["_law_script"]:List Str).zip us):=by
 obtain⟨_,rfl⟩:=qC hl
 rfl
abbrev cN:Stmt:=inClass (top 17) 0
theorem m_:aM ["self","plan"] ["self","plan"] (ao cN):=⟨rfl,rfl,rfl,DK,rfl,DK,DK⟩
theorem n_(kV doc pm:Value)(an:Option Addr)(cdv ct:Value)(us:List Value)(hl:us.length=[("self":Str),("plan":Str)].length):bindArgs (PySem.W.fnOf "__init__" "Desk.__init__" (aG cN) (aF cN) (ao cN) .none kV doc pm an cdv ct) ⟨us,[]⟩=pure ((["self","plan"]:List Str).zip us):=by
 obtain⟨_,_,rfl⟩:=iz hl
 rfl
abbrev dD:Stmt:=inClass (top 17) 1
theorem uc:aM ["self"] ["self"] (ao dD):=⟨rfl,rfl,rfl,DK,rfl,DK,DK⟩
theorem uH(kV doc pm:Value)(an:Option Addr)(cdv ct:Value)(us:List Value)(hl:us.length=[("self":Str)].length):bindArgs (PySem.W.fnOf "rows" "Desk.rows" (aG dD) (aF dD) (ao dD) .none kV doc pm an cdv ct) ⟨us,[]⟩=pure ((["self"]:List Str).zip us):=by
 obtain⟨_,rfl⟩:=qC hl
 rfl
abbrev cB:Stmt:=inClass (top 17) 2
theorem lQ:aM ["self","end"] ["self","end"] (ao cB):=⟨rfl,rfl,rfl,DK,rfl,DK,DK⟩
theorem mQ(kV doc pm:Value)(an:Option Addr)(cdv ct:Value)(us:List Value)(hl:us.length=[("self":Str),("end":Str)].length):bindArgs (PySem.W.fnOf "is_closed" "Desk.is_closed" (aG cB) (aF cB) (ao cB) .none kV doc pm an cdv ct) ⟨us,[]⟩=pure ((["self","end"]:List Str).zip us):=by
 obtain⟨_,_,rfl⟩:=iz hl
 rfl
abbrev pB:Stmt:=inClass (top 17) 3
abbrev bQ:Stmt:=inClass (top 17) 4
theorem jP:aM ["self","time"] ["self","time"] (ao bQ):=⟨rfl,rfl,rfl,DK,rfl,DK,DK⟩
theorem jX(kV doc pm:Value)(an:Option Addr)(cdv ct:Value)(us:List Value)(hl:us.length=[("self":Str),("time":Str)].length):bindArgs (PySem.W.fnOf "is_too_late" "Desk.is_too_late" (aG bQ) (aF bQ) (ao bQ) .none kV doc pm an cdv ct) ⟨us,[]⟩=pure ((["self","time"]:List Str).zip us):=by
 obtain⟨_,_,rfl⟩:=iz hl
 rfl
abbrev fJ:Stmt:=inClass (top 17) 5
theorem xT:aM ["self","deed"] ["self","deed"] (ao fJ):=⟨rfl,rfl,rfl,DK,rfl,DK,DK⟩
theorem yP(kV doc pm:Value)(an:Option Addr)(cdv ct:Value)(us:List Value)(hl:us.length=[("self":Str),("deed":Str)].length):bindArgs (PySem.W.fnOf "do" "Desk.do" (aG fJ) (aF fJ) (ao fJ) .none kV doc pm an cdv ct) ⟨us,[]⟩=pure ((["self","deed"]:List Str).zip us):=by
 obtain⟨_,_,rfl⟩:=iz hl
 rfl
abbrev aY:Stmt:=inClass (top 17) 6
theorem g_:aM ["self","time","told"] ["self","time"] (ao aY):=⟨rfl,rfl,rfl,DK,rfl,DK,DK⟩
theorem mP(kV doc pm:Value)(an:Option Addr)(cdv ct:Value)(us:List Value)(hl:us.length=[("self":Str),("time":Str)].length):bindArgs (PySem.W.fnOf "take_mark" "Desk.take_mark" (aG aY) (aF aY) (ao aY) .none kV doc pm an cdv ct) ⟨us,[]⟩=pure ((["self","time"]:List Str).zip us):=by
 obtain⟨_,_,rfl⟩:=iz hl
 rfl
abbrev bA:Stmt:=inClass (top 17) 7
theorem bf:aM ["self","name","time","amount","keys","met","key","gone","told"] ["self","name","time","amount"] (ao bA):=⟨rfl,rfl,rfl,DK,rfl,DK,DK⟩
theorem kW(kV doc pm:Value)(an:Option Addr)(cdv ct:Value)(us:List Value)(hl:us.length=[("self":Str),("name":Str),("time":Str),("amount":Str)].length):bindArgs (PySem.W.fnOf "take_event" "Desk.take_event" (aG bA) (aF bA) (ao bA) .none kV doc pm an cdv ct) ⟨us,[]⟩=pure ((["self","name","time","amount"]:List Str).zip us):=by
 obtain⟨_,_,_,_,rfl⟩:=Vq hl
 rfl
abbrev bu:Stmt:=inClass (top 17) 8
theorem jO:aM ["self","alone"] ["self","alone"] (ao bu):=⟨rfl,rfl,rfl,DK,rfl,DK,DK⟩
theorem jW(kV doc pm:Value)(an:Option Addr)(cdv ct:Value)(us:List Value)(hl:us.length=[("self":Str),("alone":Str)].length):bindArgs (PySem.W.fnOf "keys_met_by" "Desk.keys_met_by" (aG bu) (aF bu) (ao bu) .none kV doc pm an cdv ct) ⟨us,[]⟩=pure ((["self","alone"]:List Str).zip us):=by
 obtain⟨_,_,rfl⟩:=iz hl
 rfl
abbrev bD:Stmt:=inClass (top 17) 9
theorem gg:aM ["self","keys","target","key"] ["self","keys","target"] (ao bD):=⟨rfl,rfl,rfl,DK,rfl,DK,DK⟩
theorem jD(kV doc pm:Value)(an:Option Addr)(cdv ct:Value)(us:List Value)(hl:us.length=[("self":Str),("keys":Str),("target":Str)].length):bindArgs (PySem.W.fnOf "move_tallies" "Desk.move_tallies" (aG bD) (aF bD) (ao bD) .none kV doc pm an cdv ct) ⟨us,[]⟩=pure ((["self","keys","target"]:List Str).zip us):=by
 obtain⟨_,_,_,rfl⟩:=EN hl
 rfl
abbrev cC:Stmt:=inClass (top 17) 10
theorem h_:aM ["self","key","tally","ahead"] ["self","key","tally"] (ao cC):=⟨rfl,rfl,rfl,DK,rfl,DK,DK⟩
theorem mR(kV doc pm:Value)(an:Option Addr)(cdv ct:Value)(us:List Value)(hl:us.length=[("self":Str),("key":Str),("tally":Str)].length):bindArgs (PySem.W.fnOf "add_tally" "Desk.add_tally" (aG cC) (aF cC) (ao cC) .none kV doc pm an cdv ct) ⟨us,[]⟩=pure ((["self","key","tally"]:List Str).zip us):=by
 obtain⟨_,_,_,rfl⟩:=EN hl
 rfl
inductive Pl where
 |fixed(l g:Int)|sliding(l s g:Int)|pauses(l g:Int)
def Pl.row:Pl->List V
 |.fixed l g=>[.str "fixed",.int l,.int g]
 |.sliding l s g=>[.str "sliding",.int l,.int s,.int g]
 |.pauses l g=>[.str "pauses",.int l,.int g]
def Pl.kind:Pl->Str
 |.fixed _ _=>"fixed"
 |.sliding _ _ _=>"sliding"
 |.pauses _ _=>"pauses"
def Pl.len:Pl->Int
 |.fixed l _=>l
 |.sliding l _ _=>l
 |.pauses l _=>l
def Pl.stp:Pl->Int
 |.fixed l _=>l
 |.sliding _ s _=>s
 |.pauses l _=>l
structure Pl.ok(p:Pl):Prop where
 l1:1<=p.len
 l2:p.len<10^45
 s1:1<=p.stp
 s2:p.stp<10^45
 ls:p.len<=100*p.stp
theorem PR:¬(("fixed":Str)="sliding"):=DK
theorem Vf:¬(("pauses":Str)="sliding"):=DK
theorem PU:¬(("fixed":Str)="pauses"):=DK
theorem PN:¬(("sliding":Str)="pauses"):=DK
theorem FO{a b:Str}(h:decide (V.str a=V.str b)=true):a=b:=by
 have h':=of_decide_eq_true h
 injection h'
theorem DR(p:Pl):wW p.row 0=some (.str p.kind):=by cases p<;>rfl
theorem sI(p:Pl):wW p.row 1=some (.int p.len):=by cases p<;>rfl
def fQ(p:Pl)(t:Int):Int:=((t-p.len)/p.stp+1)*p.stp
def cnt(p:Pl)(t:Int):Nat:=lR (fQ p t) (t+1) p.stp
def win(p:Pl)(t:Int)(i:Nat):List V:=[.int (fQ p t+i*p.stp),.int (fQ p t+i*p.stp+p.len)]
def GP(p:Pl)(t:Int):List (List V):=match p with
 |.pauses l _=>[[.int t,.int (t+l)]]
 |p=>(List.range (cnt p t)).map (win p t)
def qY(H:Hp):List V->List (List V)->Prop:=Paired λx row=>∃a,x=.ref a/\H a=some (.tup row)
theorem qY.keep{H H':Hp}{xs:List V}{rows:List (List V)}(h:qY H xs rows)(k:∀a row,H a=some (.tup row)->H' a=some (.tup row)):qY H' xs rows:=
 Paired.imp' (λ_ _ ⟨a,e,h⟩=>⟨a,e,k a _ h⟩) h
theorem qY.snoc{H:Hp}{xs:List V}{rows:List (List V)}{a:Addr}{row:List V}(h:qY H xs rows)(e:H a=some (.tup row)):qY H (xs++[.ref a]) (rows++[row]):=Paired.snoc h ⟨_,rfl,e⟩
theorem qY.len{H:Hp}{xs:List V}{rows:List (List V)}(h:qY H xs rows):xs.length=rows.length:=Paired.length h
theorem F_{p:Pl}{t:Int}(h:p.ok):cnt p t<=100:=by
 have:=LC (t:=t) h.s1 h.ls
 unfold cnt lR fQ
 show(LD _ _ _).toNat<=100
 lia
inductive zK(K:Fg7)(vs:List V)(H:Hp)(Q:VK):Prop
 |mk(p:Addr)(pl:Pl):(vs=[.ref p])->(bJ K H p pl.row)->(Q (.str pl.kind) H)->zK K vs H Q
def tW(K:Fg7):Sp:=λvs H Q d_=>zK K vs H Q
inductive Ds(K:Fg7)(vs:List V)(H:Hp)(Q:VK):Prop
 |mk(p:Addr)(pl:Pl):(vs=[.ref p])->(bJ K H p pl.row)->(Q (.int pl.len) H)->Ds K vs H Q
def zI(K:Fg7):Sp:=λvs H Q d_=>Ds K vs H Q
inductive Dj(K:Fg7)(vs:List V)(H:Hp)(Q:VK):Prop
 |mk(p:Addr)(pl:Pl):(vs=[.ref p])->(bJ K H p pl.row)->(Q (.int pl.stp) H)->Dj K vs H Q
def Dk(K:Fg7):Sp:=λvs H Q d_=>Dj K vs H Q
inductive vz(K:Fg7)(vs:List V)(H:Hp)(Q:VK):Prop
 |mk(p:Addr)(pl:Pl)(t:Int):(vs=[.ref p,.int t])->(bJ K H p pl.row)->(pl.ok)->((-(10^45)<t/\t<10^45))->(∀(l:Addr)(xs:List V)(H':Hp),av H H'->H l=none->H' l=some (.lst xs)->qY H' xs (GP pl t)->Q (.ref l) H')->vz K vs H Q
def zB(K:Fg7):Sp:=λvs H Q d_=>vz K vs H Q
structure Bi(K:Fg7):Prop where
 qS:PySem.W.nsIn K mainGlobals "bool"=some none
 NW:PySem.W.nsIn K mainGlobals "dict"=some none
 Gi:PySem.W.nsIn K mainGlobals "int"=some none
 aO:PySem.W.nsIn K mainGlobals "isinstance"=some none
 iN:PySem.W.nsIn K mainGlobals "len"=some none
 iA:PySem.W.nsIn K mainGlobals "list"=some none
 Le:PySem.W.nsIn K mainGlobals "max"=some none
 Ld:PySem.W.nsIn K mainGlobals "min"=some none
 jK:PySem.W.nsIn K mainGlobals "range"=some none
 yQ:PySem.W.nsIn K mainGlobals "reversed"=some none
 RZ:PySem.W.nsIn K mainGlobals "set"=some none
 iM:PySem.W.nsIn K mainGlobals "sorted"=some none
 Gh:PySem.W.nsIn K mainGlobals "str"=some none
 RY:PySem.W.nsIn K mainGlobals "sum"=some none
 qd:PySem.W.nsIn K mainGlobals "tuple"=some none
section
variable {P:Program} {w:World} {K:Fg7} {mg:Str->Option Value}
theorem Nx(D:aH K "kind_of" fE)(M:MG K mg):eN P w K mg "kind_of" ["plan"] 1 (tW K):=by
 refine D.fn M xR yM (λvs H Q E h=>?_) (λf base cdv A outer s H vs Q E hr h=>?_)
 ·obtain⟨p,pl,rfl,_⟩:=h
  rfl
 ·obtain⟨p,pl,rfl,hp,k⟩:=h
  refine⟨_,(aA (aL (aI bC (pv 0) ah (λ_ _=>rfl)))),?_⟩
  exact⟨_,rfl,p,_,0,_,rfl,rfl,hp,DR pl,k⟩
theorem RK(D:aH K "length_of" dW)(M:MG K mg):eN P w K mg "length_of" ["plan"] 1 (zI K):=by
 refine D.fn M t_ uF (λvs H Q E h=>?_) (λf base cdv A outer s H vs Q E hr h=>?_)
 ·obtain⟨p,pl,rfl,_⟩:=h
  rfl
 ·obtain⟨p,pl,rfl,hp,k⟩:=h
  refine⟨_,(aA (aL (aI bC (pv 0) ah (λ_ _=>rfl)))),?_⟩
  exact⟨_,rfl,p,_,1,_,rfl,rfl,hp,sI pl,k⟩
theorem RG(D:aH K "step_of" fD)(M:MG K mg)(oj:dO K "SLIDING" (.str "sliding"))(iQ:eN P w K mg "kind_of" ["plan"] 1 (tW K))(gj:eN P w K mg "length_of" ["plan"] 1 (zI K)):
  eN P w K mg "step_of" ["plan"] 2 (Dk K):=by
 refine D.fn M xQ yL (λvs H Q E h=>?_) (λf base cdv A outer s H vs Q E hr h=>?_)
 ·obtain⟨p,pl,rfl,_⟩:=h
  rfl
 ·obtain⟨p,pl,rfl,hp,k⟩:=h
  refine⟨_,(aq (b_ (aP e_ (a_ iQ (hr.mono (by decide)) rfl (pc (pv 0) aj)) (jt oj M rfl) (aR _)) (aA (aL (aI bC (pv 0) ah (λ_ _=>rfl)))) aT)
   (aA (aL (a_ gj (hr.mono (by decide)) rfl (pc (pv 0) aj))))),?_⟩
  refine⟨_,rfl,p,pl,rfl,hp,rfl,_,rfl,?_⟩
  refine aW (λh=>?_) (λh=>?_)
  ·have e:=FO h
   cases pl with
   |fixed l g=>exact absurd e PR
   |pauses l g=>exact absurd e Vf
   |sliding l s g=>exact⟨_,rfl,p,_,2,_,rfl,rfl,hp,rfl,k⟩
  ·refine⟨_,rfl,p,pl,rfl,hp,?_⟩
   cases pl with
   |fixed l g=>exact k
   |pauses l g=>exact k
   |sliding l s g=>exact absurd (decide_eq_true rfl) h
end
theorem iB(ls:List Int){i:Int}(h0:0<=i)(h1:i<ls.length):wW (ls.map V.int) i=some (.int (ls.getD i.toNat 0)):=by
 obtain⟨n,rfl⟩:∃n:Nat,i=n:=⟨i.toNat,by lia⟩
 have hn:n<ls.length:=by lia
 refine fq ?_
 simp[List.getD,hn]
theorem jx(a b:Int)(h:0<b):0<=a%b/\a%b<b:=⟨Int.emod_nonneg _ LI,Int.emod_lt_of_pos _ h⟩
inductive DC(K:Fg7)(vs:List V)(H:Hp)(Q:VK):Prop
 |mk(a:Addr)(ns:List Int)(k:Int):(vs=[.ref a,.int k])->(aZ K H a (ns.map V.int))->(0<=k)->(∀v:Int,Q (.int v) H)->DC K vs H Q
def JN(K:Fg7):Sp:=λvs H Q d_=>DC K vs H Q
section
variable {P:Program} {w:World} {K:Fg7} {mg:Str->Option Value}
theorem RN(D:aH K "_law_at" fH)(M:MG K mg)(B:Bi K):eN P w K mg "_law_at" ["_law_script","_law_k"] 1 (JN K):=by
 refine D.fn M xS yO (λvs H Q E h=>?_) (λf base cdv A outer s H vs Q E hr h=>?_)
 ·obtain⟨a,ns,i,rfl,_⟩:=h
  rfl
 ·obtain⟨a,ns,i,rfl,ha,h0,k⟩:=h
  refine⟨_,(aq (b_ (aP oLt (pv 1) (aU br rfl (M.no _ B.iN) fT (pc (pv 0) aj)) (aR _)) (aA (aL (aI bH (pv 0) (pv 1) (λ_ _=>rfl)))) aT)
   (aA (aL ah))),?_⟩
  refine⟨_,rfl,_,rfl,a,_,rfl,.inl ha,_,_,rfl,rfl,_,rfl,?_⟩
  refine aW (λh=>?_) (λh=>?_)
  ·have h':=of_decide_eq_true h
   rw[List.length_map]at h'
   exact⟨_,rfl,_,rfl,a,_,_,_,rfl,rfl,ha,iB ns h0 h',k _⟩
  ·exact k 0
end
end K1
namespace K2
open PySem PySem.Spec PyProof.Rows L2 K1
def dS:Pl->Int
 |.fixed _ g=>g
 |.sliding _ _ g=>g
 |.pauses _ g=>g
def bad(p:Pl):Bool:=decide (p.len<1)||decide (p.stp<1)||decide (dS p<0)||decide (100*p.stp<p.len)
theorem DQ(p:Pl):wW p.row (-1)=some (.int (dS p)):=by cases p<;>rfl
theorem NV{p:Pl}(h:bad p=false):¬p.len<1/\¬p.stp<1/\¬dS p<0/\¬100*p.stp<p.len:=by
 unfold bad at h
 simp only[Bool.or_eq_false_iff,decide_eq_false_iff_not]at h
 exact⟨h.1.1.1,h.1.1.2,h.1.2,h.2⟩
def eV(p:Addr)(mk:V)(d m:Addr):List (Str×V):=[("plan",.ref p),("mark",mk),("windows",.ref d),("missed",.ref m)]
structure eK(K:Fg7)(C:Addr):Prop where
 cl:uQ K "Desk" C
 nP:eW K C "plan"
 nM:eW K C "mark"
 nW:eW K C "windows"
 nS:eW K C "missed"
theorem Ez:¬(("plan":Str)="mark"):=DK
theorem Kn:¬(("plan":Str)="windows"):=DK
theorem Ko:¬(("plan":Str)="missed"):=DK
theorem Kp:¬(("mark":Str)="windows"):=DK
theorem Kq:¬(("mark":Str)="missed"):=DK
theorem Km:¬(("windows":Str)="missed"):=DK
theorem LK(p:Addr):gm "plan" (.ref p) []=([("plan",V.ref p)]:List (Str×V)):=rfl
theorem LJ(p:Addr)(v:V):gm "mark" v [("plan",V.ref p)]=([("plan",V.ref p),("mark",v)]:List (Str×V)):=by
 simp only[gm,if_neg Ez]
theorem put2(p d:Addr)(v:V):gm "windows" (.ref d) [("plan",V.ref p),("mark",v)]=([("plan",V.ref p),("mark",v),("windows",V.ref d)]:List (Str×V)):=by
 simp only[gm,if_neg Kn,if_neg Kp]
theorem put3(p d m:Addr)(v:V):gm "missed" (.ref m) [("plan",V.ref p),("mark",v),("windows",V.ref d)]=eV p v d m:=by
 simp only[gm,if_neg Ko,if_neg Kq,if_neg Km,eV]
theorem UP(p d m:Addr)(v u:V):gm "mark" u (eV p v d m)=eV p u d m:=by
 simp only[gm,if_neg Ez,eV,if_true]
theorem jz(p d m:Addr)(v:V)(k:Str):(eV p v d m).lookup k=if k="plan" then some (.ref p)else if k="mark" then some v else if k="windows" then some (.ref d)else if k="missed" then some (.ref m)else none:=by
 unfold eV
 simp only[List.lookup]
 repeat' split
 all_goals simp_all
theorem fP(p d m:Addr)(v:V):(eV p v d m).lookup ("plan":Str)=some (.ref p):=by rw[jz,if_pos rfl]
theorem fM(p d m:Addr)(v:V):(eV p v d m).lookup ("mark":Str)=some v:=by rw[jz,if_neg (Ne.symm Ez),if_pos rfl]
theorem fW(p d m:Addr)(v:V):(eV p v d m).lookup ("windows":Str)=some (.ref d):=by rw[jz,if_neg (Ne.symm Kn),if_neg (Ne.symm Kp),if_pos rfl]
theorem fS(p d m:Addr)(v:V):(eV p v d m).lookup ("missed":Str)=some (.ref m):=by rw[jz,if_neg (Ne.symm Ko),if_neg (Ne.symm Kq),if_neg (Ne.symm Km),if_pos rfl]
theorem BV(p d m:Addr)(v:V){k:Str}(h1:¬k="plan")(h2:¬k="mark")(h3:¬k="windows")(h4:¬k="missed"):(eV p v d m).lookup k=none:=by rw[jz,if_neg h1,if_neg h2,if_neg h3,if_neg h4]
inductive vG(K:Fg7)(vs:List V)(H:Hp)(Q:VK):Prop
 |mk(p:Addr)(pl:Pl):(vs=[.ref p])->(bJ K H p pl.row)->(Q (.int (dS pl)) H)->vG K vs H Q
def tX(K:Fg7):Sp:=λvs H Q d_=>vG K vs H Q
inductive Dz(K:Fg7)(vs:List V)(H:Hp)(Q:VK):Prop
 |mk(p:Addr)(pl:Pl):(vs=[.ref p])->(bJ K H p pl.row)->(bad pl=false)->(Q .dR H)->Dz K vs H Q
def JM(K:Fg7):Sp:=λvs H Q d_=>Dz K vs H Q
inductive zM(K:Fg7)(C:Addr)(vs:List V)(H:Hp)(Q:VK):Prop
 |mk(x dx p:Addr)(pl:Pl):(vs=[.ref x,.ref p])->(H x=some (.ins C dx []))->(bJ K H p pl.row)->(bad pl=false)->(∀(d m:Addr)(H':Hp),H d=none->H m=none->H' x=some (.ins C dx (eV p .dR d m))->H' d=some (.dT [])->H' m=some (.lst [])->(∀b o,H b=some o->b≠x->H' b=some o)->Q .dR H')->zM K C vs H Q
def xK(K:Fg7)(C:Addr):Sp:=λvs H Q d_=>zM K C vs H Q
section
variable {P:Program} {w:World} {K:Fg7} {mg:Str->Option Value} {C B:Addr}
theorem IU(D:aH K "grace_of" eZ)(M:MG K mg):eN P w K mg "grace_of" ["plan"] 1 (tX K):=by
 refine D.fn M vI wU (λvs H Q E h=>?_) (λf base cdv A outer s H vs Q E hr h=>?_)
 ·obtain⟨p,pl,rfl,_⟩:=h
  rfl
 ·obtain⟨p,pl,rfl,hp,k⟩:=h
  refine⟨_,(aA (aL (aI bC (pv 0) (oO uW ah) (λ_ _=>rfl)))),?_⟩
  exact⟨_,rfl,_,rfl,p,_,-1,_,rfl,rfl,hp,DQ pl,k⟩
theorem RM(D:aH K "check_plan" dI)(M:MG K mg)(je:dO K "MOST_STEPS" (.int 100))(gj:eN P w K mg "length_of" ["plan"] 1 (zI K))(om:eN P w K mg "step_of" ["plan"] 2 (Dk K))
  (lu:eN P w K mg "grace_of" ["plan"] 1 (tX K)):eN P w K mg "check_plan" ["plan"] 3 (JM K):=by
 refine D.fn M iu rK (λvs H Q E h=>?_) (λf base cdv A outer s H vs Q E hr h=>?_)
 ·obtain⟨p,pl,rfl,_⟩:=h
  rfl
 ·obtain⟨p,pl,rfl,hp,hb,k⟩:=h
  obtain⟨b1,b2,b3,b4⟩:=NV hb
  refine⟨_,(aq (cV (i:=1) iu.nd rfl (Or.inl rfl) (a_ gj (hr.mono (by decide)) rfl (pc (pv 0) aj)))
   (aq (cV (i:=2) iu.nd rfl (Or.inl rfl) (a_ om (hr.mono (by decide)) rfl (pc (pv 0) aj)))
   (aq (b_ (aP oLt (pv 1) ah (aR _)) (aA jr) aT)
   (aq (b_ (aP oLt (pv 2) ah (aR _)) (aA jr) aT)
   (aq (b_ (aP oLt (a_ lu (hr.mono (by decide)) rfl (pc (pv 0) aj)) ah (aR _)) (aA jr) aT)
   (aA (b_ (aP UR (pv 1) (aC fy (jt je M rfl) (pv 2)) (aR _)) (aA jr) aT))))))),?_⟩
  refine⟨_,rfl,p,pl,rfl,hp,_,rfl,p,pl,rfl,hp,?_⟩
  refine⟨_,rfl,_,_,rfl,rfl,_,rfl,?_⟩
  refine aW (λh=>absurd (of_decide_eq_true h) b1) (λ_=>?_)
  refine⟨_,rfl,_,_,rfl,rfl,_,rfl,?_⟩
  refine aW (λh=>absurd (of_decide_eq_true h) b2) (λ_=>?_)
  refine⟨_,rfl,p,pl,rfl,hp,_,_,rfl,rfl,_,rfl,?_⟩
  refine aW (λh=>absurd (of_decide_eq_true h) b3) (λ_=>?_)
  refine⟨_,rfl,_,rfl,_,_,rfl,rfl,.inl ⟨by decide,by decide⟩,_,_,rfl,rfl,_,rfl,?_⟩
  exact aW (λh=>absurd (of_decide_eq_true h) b4) (λ_=>k)
theorem Nz(D:bw K C "__init__" "Desk.__init__" cN)(T:eK K C)(uL:eN P w K mg "check_plan" ["plan"] 3 (JM K)):cW P w K mg jg C "__init__" ["self","plan"] 4 (xK K C):=by
 refine D.fn m_ n_ (λvs H Q E h=>?_) (λf base cdv A outer s H vs Q E hr h=>?_)
 ·obtain⟨x,dx,p,pl,rfl,_⟩:=h
  rfl
 ·obtain⟨x,dx,p,pl,rfl,hx,hp,hb,k⟩:=h
  refine⟨_,(aq (iI (a_ uL (hr.mono (by decide)) rfl (pc (pv 1) aj)))
   (aq (qo (pv 0) (pv 1) rfl)
   (aq (qo (pv 0) nh rfl)
   (aq (qo (pv 0) vP rfl)
   (aA (qo (pv 0) (bZ aj) rfl)))))),?_⟩
  refine⟨_,rfl,p,pl,rfl,hp,hb,?_⟩
  refine⟨_,rfl,_,rfl,x,C,dx,[],rfl,hx,T.cl.cl,T.nP,(by show 0<1000;decide),?_⟩
  refine⟨_,rfl,x,C,dx,_,rfl,af,T.cl.cl,T.nM,(by show 1<1000;decide),?_⟩
  intro d hd
  have nd:x≠d:=au af hd
  have hd0:H d=none:=by rw[ai nd.symm,ai nd.symm]at hd;exact hd
  refine⟨_,rfl,x,C,dx,_,rfl,(by rw[ai nd];exact af),T.cl.cl,T.nW,(by rw[LK,LJ];show 2<1000;decide),?_⟩
  refine⟨(by show 0<=sizeLine;decide),λm hm=>?_⟩
  have nm:x≠m:=au af hm
  have Vc:d≠m:=by
   intro z;subst z
   rw[ai nd.symm,af]at hm;cases hm
  have hm0:H m=none:=by rw[ai nm.symm,ai Vc.symm,ai nm.symm,ai nm.symm]at hm;exact hm
  refine⟨_,rfl,x,C,dx,_,rfl,(by rw[ai nm];exact af),T.cl.cl,T.nS,(by rw[LK,LJ,put2];show 3<1000;decide),?_⟩
  refine k d m _ hd0 hm0 (by rw[LK,LJ,put2,put3];exact af) (by rw[ai nd.symm,ai Vc,ai nd.symm,af]) (by rw[ai nm.symm,af]) λb o e hb=>?_
  rw[ai hb,ai (au e hm0),ai hb,ai (au e hd0),ai hb,ai hb]
  exact e
end
structure Wn where
 n:Str
 s:Int
 e:Int
 c:Int
 t:Int
def nO(n:Str)(s e:Int):List Key:=[.inr n,.inl s,.inl e]
def Wn.ky(w:Wn):List Key:=nO w.n w.s w.e
def Vu(n:Str)(s e:Int):List V:=[.str n,.int s,.int e]
def Gk(H:Hp)(v:V)(w:Wn):Prop:=∃a,v=.ref a/\H a=some (.tup [.int w.c,.int w.t])
def bS(H:Hp):List (List Key×V)->List Wn->Prop:=Paired λp w=>p.1=w.ky/\Gk H p.2 w
theorem bS.keep{H H':Hp}{kvs:List (List Key×V)}{ws:List Wn}(h:bS H kvs ws)(k:∀a row,H a=some (.tup row)->H' a=some (.tup row)):bS H' kvs ws:=
 Paired.imp' (λ_ _ ⟨e,a,e2,z⟩=>⟨e,a,e2,k a _ z⟩) h
theorem bS.len{H:Hp}{kvs:List (List Key×V)}{ws:List Wn}(h:bS H kvs ws):kvs.length=ws.length:=Paired.length h
theorem bS.at{H:Hp}{kvs:List (List Key×V)}{ws:List Wn}(h:bS H kvs ws){i:Nat}{k:List Key}{v:V}(e:kvs[i]? = some (k,v)):∃w,ws[i]? = some w/\k=w.ky/\Gk H v w:=by
 induction h generalizing i with
 |nil=>simp at e
 | @cons p w ps ws r _ ih=>
  cases i with
  |zero=>simp at e;subst e;exact⟨w,rfl,r.1,r.2⟩
  |succ i=>obtain⟨w',h1,h2⟩:=ih (i:=i) (by simpa using e);exact⟨w',by simpa using h1,h2⟩
def Kr:Option Int->V
 |none=>.dR
 |some m=>.int m
def closed(mk:Option Int)(e:Int):Bool:=match mk with
 |none=>false
 |some m=>decide (e<=m)
def late(mk:Option Int)(g t:Int):Bool:=match mk with
 |none=>false
 |some m=>decide (t<m-g)
inductive sD(C:Addr)(vs:List V)(H:Hp)(Q:VK):Prop
 |mk(x dx p d m:Addr)(mk:Option Int)(e:Int):(vs=[.ref x,.int e])->(H x=some (.ins C dx (eV p (Kr mk) d m)))->(Q (.bl (closed mk e)) H)->sD C vs H Q
def lP(C:Addr):Sp:=λvs H Q d_=>sD C vs H Q
inductive zJ(K:Fg7)(C:Addr)(vs:List V)(H:Hp)(Q:VK):Prop
 |mk(x dx p d m:Addr)(mk:Option Int)(pl:Pl)(t:Int):(vs=[.ref x,.int t])->(H x=some (.ins C dx (eV p (Kr mk) d m)))->(bJ K H p pl.row)->(Q (.bl (late mk (dS pl) t)) H)->zJ K C vs H Q
def Du(K:Fg7)(C:Addr):Sp:=λvs H Q d_=>zJ K C vs H Q
section
variable {P:Program} {w:World} {K:Fg7} {mg:Str->Option Value} {C:Addr}
theorem FH(D:bw K C "is_closed" "Desk.is_closed" cB)(T:eK K C):cW P w K mg jg C "is_closed" ["self","end"] 1 (lP C):=by
 refine D.fn lQ mQ (λvs H Q E h=>?_) (λf base cdv A outer s H vs Q E hr h=>?_)
 ·obtain⟨x,dx,p,d,m,mk,e,rfl,_⟩:=h
  rfl
 ·obtain⟨x,dx,p,d,m,mk,e,rfl,hx,k⟩:=h
  refine⟨_,(aA (aL (ju (gz uo (dN (pv 0) rfl) nh (aR _)) (kB (gz oLe (pv 1) (dN (pv 0) rfl) (aR _)))))),?_⟩
  refine⟨_,rfl,x,C,dx,_,_,rfl,hx,T.cl.cl,T.nM,fM p d m _,rfl,_,rfl,?_⟩
  cases mk with
  |none=>exact E_ k
  |some mm=>exact MO ⟨_,rfl,_,rfl,x,C,dx,_,_,rfl,hx,T.cl.cl,T.nM,fM p d m _,_,_,rfl,rfl,k⟩
theorem Nv(D:bw K C "is_too_late" "Desk.is_too_late" bQ)(M:MG K mg)(T:eK K C)(lu:eN P w K mg "grace_of" ["plan"] 1 (tX K)):cW P w K mg jg C "is_too_late" ["self","time"] 2 (Du K C):=by
 refine D.fn jP jX (λvs H Q E h=>?_) (λf base cdv A outer s H vs Q E hr h=>?_)
 ·obtain⟨x,dx,p,d,m,mk,pl,t,rfl,_⟩:=h
  rfl
 ·obtain⟨x,dx,p,d,m,mk,pl,t,rfl,hx,hp,k⟩:=h
  refine⟨_,(aA (aL (ju (gz uo (dN (pv 0) rfl) nh (aR _)) (kB (gz oLt (pv 1) (aC uq (dN (pv 0) rfl) (a_ lu (hr.mono (by decide)) rfl (pc (dN (pv 0) rfl) aj))) (aR _)))))),?_⟩
  refine⟨_,rfl,x,C,dx,_,_,rfl,hx,T.cl.cl,T.nM,fM p d m _,rfl,_,rfl,?_⟩
  cases mk with
  |none=>exact E_ k
  |some mm=>exact MO ⟨_,rfl,_,rfl,x,C,dx,_,_,rfl,hx,T.cl.cl,T.nM,fM p d m _,_,rfl,x,C,dx,_,_,rfl,hx,T.cl.cl,T.nP,fP p d m _,p,pl,rfl,hp,_,_,rfl,rfl,_,_,rfl,rfl,k⟩
end
def cX(ws:List Wn)(k:List Key):Option Wn:=ws.find? λw=>decide (w.ky=k)
def kj(ws:List Wn)(n:Str)(s e c t:Int):List Wn:=if(ws.any λw=>decide (w.ky=nO n s e))=true then ws.map (λw=>if w.ky=nO n s e then {w with c:=c,t:=t}else w)else ws++[⟨n,s,e,c,t⟩]
def addW(ws:List Wn)(n:Str)(s e c t:Int):List Wn:=match cX ws (nO n s e)with
 |some w=>kj ws n s e (w.c+c) (w.t+t)
 |none=>kj ws n s e (0+c) (0+t)
def cU(ws:List Wn)(k:List Key):List Wn:=ws.filter λw=>decide (w.ky≠k)
section
variable {H:Hp} {kvs:List (List Key×V)} {ws:List Wn}
theorem bS.get(h:bS H kvs ws)(k:List Key):(jM kvs k=none/\cX ws k=none)\/∃v w,jM kvs k=some v/\cX ws k=some w/\w.ky=k/\Gk H v w:=by
 induction h with
 |nil=>exact .inl ⟨rfl,rfl⟩
 | @cons p w ps ws r _ ih=>
  by_cases e:p.1=k
  ·exact .inr ⟨p.2,w,lJ e,by simp[cX,List.find?_cons,←r.1,e],r.1.symm.trans e,r.2⟩
  ·rw[lK e]
   have:cX (w::ws) k=cX ws k:=by simp[cX,List.find?_cons,←r.1,e]
   rw[this]
   exact ih
theorem bS.any(h:bS H kvs ws)(k:List Key):(kvs.any λkv=>decide (kv.1=k))=ws.any λw=>decide (w.ky=k):=by
 induction h with
 |nil=>rfl
 |cons r _ ih=>rw[List.any_cons,List.any_cons,r.1,ih]
theorem bS.append{kvs':List (List Key×V)}{fB:List Wn}(h:bS H kvs ws)(h':bS H kvs' fB):bS H (kvs++kvs') (ws++fB):=by
 induction h with
 |nil=>exact h'
 |cons r _ ih=>exact .cons r ih
theorem bS.put(h:bS H kvs ws){a:Addr}{n:Str}{s e c t:Int}(ha:H a=some (.tup [.int c,.int t])):bS H (putK kvs (nO n s e) (.ref a)) (kj ws n s e c t):=by
 have key:bS H (kvs.map λkv=>if kv.1=nO n s e then(kv.1,.ref a)else kv) (ws.map λw=>if w.ky=nO n s e then {w with c:=c,t:=t}else w):=by
  induction h with
  |nil=>exact .nil
  | @cons p w ps ws r _ ih=>
   refine .cons ?_ ih
   dsimp only
   by_cases q:p.1=nO n s e
   ·rw[if_pos q,if_pos (r.1▸q)]
    exact⟨r.1,a,rfl,ha⟩
   ·rw[if_neg q,if_neg (r.1▸q)]
    exact r
 unfold putK kj
 rw[h.any]
 split
 ·exact key
 ·exact h.append (.cons ⟨rfl,a,rfl,ha⟩ .nil)
theorem bS.drop(h:bS H kvs ws)(k:List Key):bS H (jA kvs k) (cU ws k):=by
 unfold jA cU
 induction h with
 |nil=>exact .nil
 | @cons p w ps ws r _ ih=>
  rw[List.filter_cons,List.filter_cons]
  by_cases e:p.1=k
  ·rw[if_neg (by simp[e]),if_neg (by simp[←r.1,e])];exact ih
  ·rw[if_pos (by simp[e]),if_pos (by simp[←r.1,e])];exact .cons r ih
end
def Kept(H H':Hp)(d:Addr):Prop:=∀b o,H b=some o->b≠d->H' b=some o
theorem Kept.tups{H H':Hp}{d:Addr}(k:Kept H H' d){kvs:List (List Key×V)}(hd:H d=some (.dT kvs)):∀a row,H a=some (.tup row)->H' a=some (.tup row):=λa row e=>k a _ e (aN e hd (by intro z;cases z))
theorem Kept.trans{H H1 H2:Hp}{d:Addr}(a:Kept H H1 d)(b:Kept H1 H2 d):Kept H H2 d:=λc o e n=>b c o (a c o e n) n
theorem av.kept{H H':Hp}{d:Addr}(s:av H H'):Kept H H' d:=λb o e _=>s b o e
inductive DG(C:Addr)(vs:List V)(H:Hp)(Q:VK):Prop
 |mk(x dx p d m kb tb:Addr)(mk:V)(n:Str)(s e c t:Int)(kvs:List (List Key×V))(ws:List Wn):(vs=[.ref x,.ref kb,.ref tb])->(H x=some (.ins C dx (eV p mk d m)))->(H kb=some (.tup (Vu n s e)))->(H tb=some (.tup [.int c,.int t]))->(H d=some (.dT kvs))->(bS H kvs ws)->(kvs.length<sizeLine)->(∀(H':Hp)(kvs':List (List Key×V)),Kept H H' d->H' d=some (.dT kvs')->bS H' kvs' (addW ws n s e c t)->Q .dR H')->DG C vs H Q
def DH(C:Addr):Sp:=λvs H Q d_=>DG C vs H Q
section
variable {P:Program} {w:World} {K:Fg7} {mg:Str->Option Value} {C:Addr}
theorem RQ(D:bw K C "add_tally" "Desk.add_tally" cC)(T:eK K C):cW P w K mg jg C "add_tally" ["self","key","tally"] 1 (DH C):=by
 refine D.fn h_ mR (λvs H Q E h=>?_) (λf base cdv A outer s H vs Q E hr h=>?_)
 ·obtain⟨x,dx,p,d,m,kb,tb,mk,n,s,e,c,t,kvs,ws,rfl,_⟩:=h
  rfl
 ·obtain⟨x,dx,p,d,m,kb,tb,mk,n,s,e,c,t,kvs,ws,rfl,hx,hk,ht,hd,hw,hl,k⟩:=h
  have hu1:=wC hr
  refine⟨_,(aq (cV (i:=3) h_.nd rfl (Or.inl rfl) (Em hu1 (dN (pv 0) rfl) (pv 1) (cF (pc ah (pc ah aj))) ⟨rfl,rfl,rfl,rfl⟩))
   (aA (zX hu1 (dN (pv 0) rfl) (pv 1) (cF (pc (aC iy (aI bC (pv 3) ah (λ_ _=>rfl)) (aI bC (pv 2) ah (λ_ _=>rfl))) (pc (aC iy (aI bC (pv 3) ah (λ_ _=>rfl)) (aI bC (pv 2) ah (λ_ _=>rfl))) aj))) rfl))),?_⟩
  refine⟨_,rfl,x,C,dx,_,_,rfl,hx,T.cl.cl,T.nW,fW p d m mk,d,rfl,.inr ⟨kvs,.inl hd⟩,_,rfl,(by show 2<=sizeLine;decide),λz hz=>?_⟩
  have s1:=av.new (o:=.tup [.int 0,.int 0]) hz
  refine⟨_,uP.t (k:=nO n s e) (s1 _ _ hd) (s1 _ _ hk),?_⟩
  obtain⟨a0,c0,t0,e0,h0,ea⟩:∃(a0:Addr) (c0 t0:Int),(jM kvs (nO n s e)).getD (.ref z)=.ref a0/\upd H z (.tup [.int 0,.int 0]) a0=some (.tup [.int c0,.int t0])/\addW ws n s e c t=kj ws n s e (c0+c) (t0+t):=by
   rcases hw.get (nO n s e)with⟨h1,h2⟩|⟨v,w,h1,h2,_,a,rfl,ha⟩
   ·exact⟨z,0,0,by rw[h1];rfl,af,by unfold addW;rw[h2]⟩
   ·exact⟨a,w.c,w.t,by rw[h1];rfl,s1 _ _ ha,by unfold addW;rw[h2]⟩
  rw[e0]
  refine⟨_,rfl,a0,_,0,_,rfl,rfl,bJ.of h0,rfl,_,rfl,tb,_,0,_,rfl,rfl,bJ.of (s1 _ _ ht),rfl,_,_,rfl,rfl,?_⟩
  refine⟨_,rfl,a0,_,1,_,rfl,rfl,bJ.of h0,rfl,_,rfl,tb,_,1,_,rfl,rfl,bJ.of (s1 _ _ ht),rfl,_,_,rfl,rfl,(by show 2<=sizeLine;decide),λr hr'=>?_⟩
  have s2:=s1.trans (av.new (o:=.tup [.int (c0+c),.int (t0+t)]) hr')
  refine⟨_,rfl,x,C,dx,_,_,rfl,s2 _ _ hx,T.cl.cl,T.nW,fW p d m mk,_,rfl,d,_,rfl,Cs.t (k:=nO n s e) (s2 _ _ hd) (s2 _ _ hk) hl,?_⟩
  refine k _ _ (λb o eb nb=>by rw[ai nb];exact s2 _ _ eb) af ?_
  rw[ea]
  have nr:r≠d:=λq=>by
   rw[q]at hr'
   rw[s1 _ _ hd]at hr'
   cases hr'
  refine bS.keep (H:=upd (upd H z (.tup [.int 0,.int 0])) r (.tup [.int (c0+c),.int (t0+t)])) (bS.put (hw.keep λa row q=>s2 _ _ q) af) λa row q=>?_
  rw[ai (aN q (s2 _ _ hd) (by intro y;cases y))]
  exact q
end
def kyD(n:Str)(s e:Int):Dv:=.tup [.str n,.int s,.int e]
structure Ky where
 n:Str
 s:Int
 e:Int
def Ky.l(k:Ky):List Key:=nO k.n k.s k.e
def Ky.v(k:Ky):List V:=Vu k.n k.s k.e
def Ky.d(k:Ky):Dv:=kyD k.n k.s k.e
def Wn.k(w:Wn):Ky:=⟨w.n,w.s,w.e⟩
theorem gS{a b:Ky}(h:a.l=b.l):a=b:=by
 obtain⟨n,s,e⟩:=a
 obtain⟨n',s',e'⟩:=b
 injection h with h1 h2
 injection h1 with h1
 injection h2 with h2 h3
 injection h2 with h2
 injection h3 with h3 _
 injection h3 with h3
 subst h1 h2 h3
 rfl
theorem Ao{a b:Ky}(h:a.d=b.d):a=b:=by
 obtain⟨n,s,e⟩:=a
 obtain⟨n',s',e'⟩:=b
 injection h with h
 injection h with h1 h2
 injection h1 with h1
 injection h2 with h2 h3
 injection h2 with h2
 injection h3 with h3 _
 injection h3 with h3
 subst h1 h2 h3
 rfl
theorem Wn.BF(w:Wn):w.ky=w.k.l:=rfl
def bN(H:Hp):List V->List Ky->Prop:=Paired λx k=>∃a,x=.ref a/\H a=some (.tup k.v)
theorem bN.keep{H H':Hp}{xs:List V}{ks:List Ky}(h:bN H xs ks)(k:∀a row,H a=some (.tup row)->H' a=some (.tup row)):bN H' xs ks:=Paired.imp' (λ_ _ ⟨a,e,h⟩=>⟨a,e,k a _ h⟩) h
theorem bN.len{H:Hp}{xs:List V}{ks:List Ky}(h:bN H xs ks):xs.length=ks.length:=Paired.length h
theorem bN.snoc{H:Hp}{xs:List V}{ks:List Ky}{a:Addr}{k:Ky}(h:bN H xs ks)(e:H a=some (.tup k.v)):bN H (xs++[.ref a]) (ks++[k]):=Paired.snoc h ⟨_,rfl,e⟩
theorem bN.get{H:Hp}{xs:List V}{ks:List Ky}{i:Nat}{x:V}(h:bN H xs ks)(e:xs[i]? = some x):∃k a,ks[i]? = some k/\x=.ref a/\H a=some (.tup k.v):=by
 obtain⟨k,ek,a,r⟩:=Paired.getL h e
 exact⟨k,a,ek,r⟩
theorem EW{K:Fg7}{H:Hp}{a:Addr}{k:Ky}(h:H a=some (.tup k.v)):Dn K H (.ref a) k.d:=.tup (bJ.of h) (.cons (.str _) (.cons (.int _) (.cons (.int _) .nil)))
theorem bN.NH{K:Fg7}{H:Hp}{xs:List V}{ks:List Ky}(h:bN H xs ks):gf K H xs (ks.map Ky.d):=by
 induction h with
 |nil=>exact .nil
 |cons r _ ih=>
  obtain⟨a,rfl,h⟩:=r
  exact .cons (EW h) ih
def meet(a:Ky)(w:Wn):Bool:=decide (w.n=a.n)&&(decide (w.s<a.e)&&decide (a.s<w.e))
def Xs:Sh:=.tup [.str,.int,.int]
theorem Lx(k:Ky):Dv.isA Xs k.d=true:=rfl
theorem keys_perm{H:Hp}{ys:List V}{ks:List Ky}{ps:List (V×Dv)}(h:bN H ys ks)(p:ps.Perm (ys.zip (ks.map Ky.d))):∃ks',ks'.Perm ks/\bN H (ps.map (·.1)) ks'/\ps.map (·.2)=ks'.map Ky.d:=by
 have h0:∀{ys:List V}{ks:List Ky},bN H ys ks->∀q∈ys.zip (ks.map Ky.d),∃k:Ky,q.2=k.d/\∃a,q.1=.ref a/\H a=some (.tup k.v):=by
  intro ys ks h
  induction h with
  |nil=>intro q hq;simp at hq
  | @cons x k xs ks r _ ih=>
   intro q hq
   rw[List.map_cons,List.zip_cons_cons]at hq
   rcases List.mem_cons.mp hq with rfl|hq
   ·exact⟨k,rfl,r⟩
   ·exact ih q hq
 have h1:∀ps:List (V×Dv),(∀q∈ps,∃k:Ky,q.2=k.d/\∃a,q.1=.ref a/\H a=some (.tup k.v))->∃ks',bN H (ps.map (·.1)) ks'/\ps.map (·.2)=ks'.map Ky.d:=by
  intro ps
  induction ps with
  |nil=>intro _;exact⟨[],.nil,rfl⟩
  |cons q ps ih=>
   intro hp
   obtain⟨k,e,r⟩:=hp q (.head _)
   obtain⟨ks',a1,a2⟩:=ih λq' m=>hp q' (.tail _ m)
   exact⟨k::ks',.cons r a1,by rw[List.map_cons,List.map_cons,e,a2]⟩
 obtain⟨ks',a1,a2⟩:=h1 ps λq m=>h0 h q (p.mem_iff.mp m)
 refine⟨ks',?_,a1,a2⟩
 have e:(ks'.map Ky.d).Perm (ks.map Ky.d):=by
  rw[←a2]
  have:=p.map (·.2)
  rw[List.map_snd_zip (by rw[List.length_map,h.len];exact Nat.le_refl _)]at this
  exact this
 have inj:∀(l r:List Ky),(l.map Ky.d).Perm (r.map Ky.d)->l.Perm r:=by
  intro l
  induction l with
  |nil=>intro r hp;have:=List.Perm.eq_nil hp.symm;rw[List.map_eq_nil_iff]at this;rw[this]
  |cons a l ih=>
   intro r hp
   have hm:a.d∈r.map Ky.d:=hp.mem_iff.mp (by simp)
   obtain⟨b,hb,eb⟩:=List.mem_map.mp hm
   have:=Ao eb
   subst this
   obtain⟨r1,r2,rfl⟩:=List.append_of_mem hb
   have hp2:((b::l).map Ky.d).Perm ((b::(r1++r2)).map Ky.d):=hp.trans ((List.perm_middle).map _)
   rw[List.map_cons,List.map_cons]at hp2
   exact((ih _ hp2.cons_inv).cons b).trans List.perm_middle.symm
 exact inj _ _ e
inductive Dp(C:Addr)(vs:List V)(H:Hp)(Q:VK):Prop
 |mk(x dx p d m ab:Addr)(mk:V)(a:Ky)(kvs:List (List Key×V))(ws:List Wn):(vs=[.ref x,.ref ab])->(H x=some (.ins C dx (eV p mk d m)))->(H ab=some (.tup a.v))->(H d=some (.dT kvs))->(bS H kvs ws)->(TS.Fits ws.length)->(∀(l:Addr)(zs:List V)(ks:List Ky)(H':Hp),av H H'->H l=none->H' l=some (.lst zs)->bN H' zs ks->ks.Perm ((ws.filter (meet a)).map Wn.k)->(ks.map Ky.d).Pairwise (λd e=>aV d e≠.gt)->Q (.ref l) H')->Dp C vs H Q
def JI(C:Addr):Sp:=λvs H Q d_=>Dp C vs H Q
section
variable {P:Program} {w:World} {K:Fg7} {mg:Str->Option Value} {C:Addr}
theorem RJ(D:bw K C "keys_met_by" "Desk.keys_met_by" bu)(M:MG K mg)(B:Bi K)(T:eK K C):cW P w K mg jg C "keys_met_by" ["self","alone"] 1 (JI C):=by
 refine D.fn jO jW (λvs H Q E h=>?_) (λf base cdv A outer s H vs Q E hr h=>?_)
 ·obtain⟨x,dx,p,d,m,ab,mk,a,kvs,ws,rfl,_⟩:=h
  rfl
 ·obtain⟨x,dx,p,d,m,ab,mk,a,kvs,ws,rfl,hx,hab,hd,hw,Cy,k⟩:=h
  have hz:=Cy.1
  have hu:(A.deeper (envOfC "Desk.keys_met_by" (ao bu) s.heap.objs.size f cdv)).units+64<cLine:=hr.units
  refine⟨_,(aA (aL (aU (gA hu) rfl (M.no _ B.iM) gH (pc (Ab (dY (NY:=["key","alone"]) (js:=[none,some 1]) rfl rfl (by with_unfolding_all rfl) (by repeat first|exact cI.nil|refine cI.cons rfl ?_) (.own (.out rfl rfl (.inl rfl) .nil)) (Ei (dN (pv 0) rfl)) (λ_ _ _ _ _=>⟨(aQ (i:=0) (show(["key","alone"]:List Str).Nodup from by decide +kernel) rfl (Or.inl rfl)),(iV (PW.pt (jq (aP e_ (aI (bh (K:=K) rfl) (pv 0) ah (λ_ _=>rfl)) (aI (bh (K:=K) rfl) (pv 1) ah (λ_ _=>rfl)) (aR _)) (jq (aP oLt (aI (bh (K:=K) rfl) (pv 0) ah (λ_ _=>rfl)) (aI (bh (K:=K) rfl) (pv 1) ah (λ_ _=>rfl)) (aR _)) (iU (aP oLt (aI (bh (K:=K) rfl) (pv 1) ah (λ_ _=>rfl)) (aI (bh (K:=K) rfl) (pv 0) ah (λ_ _=>rfl)) (aR _))))))),(pv 0)⟩))) aj)))),?_⟩
  refine⟨d,.dT kvs,hd,True.intro,_,rfl,x,C,dx,_,_,rfl,hx,T.cl.cl,T.nW,fW p d m mk,d,kvs,rfl,hd,λo=>?_⟩
  intro l hl
  have xw:d≠l:=au af hl
  have lI:H l=none:=by rw[ai xw.symm]at hl;exact hl
  have hlen:=hw.len
  have Uk:∀{ys:List V}{b:Addr}{row:List V},upd (upd H d (.eF o (.dT kvs))) l (.lst ys) b=some (.tup row)->H b=some (.tup row):=λ{ys b row} e=>by
   have n1:b≠l:=by rintro rfl;rw[af]at e;cases e
   rw[ai n1]at e
   have n2:b≠d:=by rintro rfl;rw[af]at e;cases e
   rw[ai n2]at e
   exact e
  have AQ:∀{ys:List V}{b:Addr}{row:List V},H b=some (.tup row)->upd (upd H d (.eF o (.dT kvs))) l (.lst ys) b=some (.tup row):=λ{ys b row} e=>by
   rw[ai (au e lI),ai (aN e hd (by intro z;cases z))]
   exact e
  refine qc (n:=kvs.length) (λi ys H'=>H'=upd (upd H d (.eF o (.dT kvs))) l (.lst ys)/\bN H ys (((ws.take i).filter (meet a)).map Wn.k)) ⟨rfl,.nil⟩ ?_ ?_ ?_ ?_ ?_
  ·rintro i ys H' ⟨rfl,_⟩
   exact af
  ·rintro i ys H' hi ⟨rfl,_⟩
   exact⟨kvs,by rw[ai xw,af],hi⟩
  ·rintro ys H' ⟨rfl,_⟩
   exact⟨kvs,by rw[ai xw,af],rfl⟩
  ·rintro i y ys H1 H2 hi ⟨rfl,hk⟩ ⟨e2,yl⟩
   subst e2
   obtain⟨kk,v,b,ek,rfl,hb⟩:=yl kvs (by rw[ai xw,af])
   obtain⟨w,ew,rfl,_⟩:=hw.at ek
   have hb0:H b=some (.tup w.k.v):=Uk hb
   have htk:ws.take (i+1)=ws.take i++[w]:=by rw[List.take_add_one,ew];rfl
   have hyl:=hk.len
   have VG:ys.length<sizeLine:=by
    rw[hyl,List.length_map,sizeLine_eq]
    have:=List.length_filter_le (meet a) (ws.take i)
    have:=List.length_take_le i ws
    lia
   refine⟨cH rfl,?_⟩
   refine⟨_,rfl,b,_,0,_,rfl,rfl,bJ.of (AQ hb0),rfl,_,rfl,ab,_,0,_,rfl,rfl,bJ.of (AQ hab),rfl,rfl,_,rfl,?_⟩
   have out:meet a w=false->∃zs,upd (upd H d (.eF o (.dT kvs))) l (.lst ys)=upd (upd H d (.eF o (.dT kvs))) l (.lst zs)/\bN H zs (((ws.take (i+1)).filter (meet a)).map Wn.k):=λz=>by
    refine⟨ys,rfl,?_⟩
    rw[htk,List.filter_append,List.filter_cons,if_neg (by rw[z];exact Bool.false_ne_true),List.filter_nil,List.append_nil]
    exact hk
   refine aW (λc1=>?_) (λc1=>E_ (out ?_))
   ·have e1:w.n=a.n:=by
     have:=of_decide_eq_true c1
     injection this
    refine⟨_,rfl,b,_,1,_,rfl,rfl,bJ.of (AQ hb0),rfl,_,rfl,ab,_,2,_,rfl,rfl,bJ.of (AQ hab),rfl,_,_,rfl,rfl,_,rfl,?_⟩
    refine aW (λc2=>?_) (λc2=>E_ (out ?_))
    ·refine⟨_,rfl,ab,_,1,_,rfl,rfl,bJ.of (AQ hab),rfl,_,rfl,b,_,2,_,rfl,rfl,bJ.of (AQ hb0),rfl,_,_,rfl,rfl,_,rfl,?_⟩
     refine aW (λc3=>?_) (λc3=>out ?_)
     ·refine⟨_,rfl,ys,af,VG,by rw[fZ],?_⟩
      have mt:meet a w=true:=by
       unfold meet
       rw[e1,decide_eq_true rfl]
       show(decide (w.s<a.e)&&decide (a.s<w.e))=true
       rw[show decide (w.s<a.e)=true from c2,show decide (a.s<w.e)=true from c3]
       rfl
      rw[htk,List.filter_append,List.filter_cons,if_pos mt,List.filter_nil,List.map_append]
      exact hk.snoc hb0
     ·unfold meet
      rw[show decide (a.s<w.e)=false from Bool.eq_false_iff.mpr c3]
      simp
    ·unfold meet
     rw[show decide (w.s<a.e)=false from Bool.eq_false_iff.mpr c2]
     simp
   ·unfold meet
    have:¬w.n=a.n:=λq=>c1 (by
     show decide (V.str w.n=V.str a.n)=true
     rw[q];simp)
    simp[this]
  ·rintro ys H' ⟨rfl,hk⟩
   rw[hlen,List.take_length]at hk
   have hth:upd (upd (upd H d (.eF o (.dT kvs))) l (.lst ys)) d (.dT kvs)=upd H l (.lst ys):=by
    funext b
    by_cases e1:b=d
    ·subst e1
     rw[af,ai xw];exact hd.symm
    ·rw[ai e1]
     by_cases e2:b=l
     ·subst e2
      rw[af,af]
     ·rw[ai e2,ai e1,ai e2]
   refine⟨o,by rw[ai xw,af],?_⟩
   rw[hth]
   have sl:=av.new (o:=.lst ys) lI
   have hk1:bN (upd H l (.lst ys)) ys ((ws.filter (meet a)).map Wn.k):=hk.keep λa row e=>sl _ _ e
   refine⟨l,ys,_,Xs,rfl,aZ.of af,hk1.NH,(λd hd=>?_),rfl,(by decide),?_,λl2 ps hl2 pm pw=>?_⟩
   ·obtain⟨q,_,rfl⟩:=List.mem_map.mp hd
    exact Lx q
   ·rw[hk1.len,List.length_map]
    have:=List.length_filter_le (meet a) ws
    exact⟨by lia,Nat.lt_of_le_of_lt this Cy.2⟩
   ·obtain⟨ks,a1,a2,a3⟩:=keys_perm hk1 pm
    have s2:=sl.trans (av.new (o:=.lst (ps.map (·.1))) hl2)
    refine k l2 _ ks _ s2 (sl.free hl2) af (a2.keep λa row e=>(av.new hl2) _ _ e) a1 (by rw[←a3];exact pw)
end
inductive zL(K:Fg7)(vs:List V)(H:Hp)(Q:VK):Prop
 |mk(l:Addr)(xs:List V)(ks:List Ky)(k0:Ky):(vs=[.ref l])->(aZ K H l xs)->(bN H xs ks)->(ks[0]? = some k0)->(ks.length<=1000001)->(∀(r:Addr)(s e:Int)(H':Hp),av H H'->H r=none->(∃k∈ks,k.s=s)->(∀k∈ks,s<=k.s)->(∃k∈ks,k.e=e)->(∀k∈ks,k.e<=e)->H' r=some (.tup (Vu k0.n s e))->Q (.ref r) H')->zL K vs H Q
def Dw(K:Fg7):Sp:=λvs H Q d_=>zL K vs H Q
def cT(ws:List Wn)(ks:List Ky)(g:Ky):List Wn:=ks.foldl (λws k=>match cX ws k.l with
 |some w=>addW (cU ws k.l) g.n g.s g.e w.c w.t
 |none=>ws) ws
inductive zF(C:Addr)(vs:List V)(H:Hp)(Q:VK):Prop
 |mk(x dx p d m l gb:Addr)(mk:V)(g:Ky)(xs:List V)(ks:List Ky)(kvs:List (List Key×V))(ws:List Wn):(vs=[.ref x,.ref l,.ref gb])->(H x=some (.ins C dx (eV p mk d m)))->(H gb=some (.tup g.v))->(H l=some (.lst xs))->(bN H xs ks)->(H d=some (.dT kvs))->(bS H kvs ws)->(ws.length<1000000)->(ks.Nodup)->((∀k∈ks,k∈ws.map Wn.k))->(∀(H':Hp)(kvs':List (List Key×V)),Kept H H' d->H' d=some (.dT kvs')->bS H' kvs' (cT ws ks g)->Q .dR H')->zF C vs H Q
def Dm(K:Fg7)(C:Addr):Sp:=λvs H Q d_=>zF C vs H Q
theorem yj(ws:List Wn)(ks:List Ky)(k g:Ky):cT ws (ks++[k]) g=match cX (cT ws ks g) k.l with
  |some w=>addW (cU (cT ws ks g) k.l) g.n g.s g.e w.c w.t
  |none=>cT ws ks g:=by
 unfold cT
 rw[List.foldl_append]
 rfl
theorem nT{ws:List Wn}{k:Ky}(h:k∈ws.map Wn.k):∃w,cX ws k.l=some w/\w.k=k:=by
 cases e:cX ws k.l with
 |none=>
  obtain⟨w,hw,rfl⟩:=List.mem_map.mp h
  have:=List.find?_eq_none.mp e w hw
  simp[Wn.BF]at this
 |some w=>
  have:=List.find?_some e
  exact⟨w,rfl,gS (of_decide_eq_true this)⟩
theorem AY(ws:List Wn)(n:Str)(s e c t:Int)(k:Ky):k∈(kj ws n s e c t).map Wn.k↔k∈ws.map Wn.k\/k=⟨n,s,e⟩:=by
 unfold kj
 split
 ·rename_i h
  have e:(ws.map λw=>if w.ky=nO n s e then {w with c:=c,t:=t}else w).map Wn.k=ws.map Wn.k:=by
   rw[List.map_map]
   refine List.map_congr_left λw _=>?_
   show(if w.ky=nO n s e then {w with c:=c,t:=t}else w).k=w.k
   split<;>rfl
  rw[e]
  refine⟨.inl,λq=>q.elim id λq=>?_⟩
  obtain⟨w,hw,ew⟩:=List.any_eq_true.mp h
  have:w.k=⟨n,s,_⟩:=gS (a:=w.k) (b:=⟨n,s,_⟩) (of_decide_eq_true ew)
  rw[q,←this]
  exact List.mem_map.mpr ⟨w,hw,rfl⟩
 ·rw[List.map_append,List.mem_append]
  simp[Wn.k]
theorem tO(ws:List Wn)(n:Str)(s e c t:Int)(k:Ky):k∈(addW ws n s e c t).map Wn.k↔k∈ws.map Wn.k\/k=⟨n,s,e⟩:=by
 unfold addW
 split<;>exact AY ..
theorem yG(ws:List Wn)(g k:Ky):k∈(cU ws g.l).map Wn.k↔k∈ws.map Wn.k/\k≠g:=by
 unfold cU
 simp only[List.mem_map,List.mem_filter,decide_eq_true_eq]
 constructor
 ·rintro⟨w,⟨h1,h2⟩,rfl⟩
  exact⟨⟨w,h1,rfl⟩,λq=>h2 (by rw[Wn.BF,q])⟩
 ·rintro⟨⟨w,h1,rfl⟩,h2⟩
  exact⟨w,⟨h1,λq=>h2 (gS (by rw[←Wn.BF];exact q))⟩,rfl⟩
theorem DJ(ws:List Wn)(n:Str)(s e c t:Int):(kj ws n s e c t).length<=ws.length+1:=by
 unfold kj
 split
 ·rw[List.length_map];lia
 ·rw[List.length_append];simp
theorem mS(ws:List Wn)(n:Str)(s e c t:Int):(addW ws n s e c t).length<=ws.length+1:=by
 unfold addW
 split<;>exact DJ ..
theorem sY{ws:List Wn}{k:Ky}(h:k∈ws.map Wn.k):(cU ws k.l).length<ws.length:=by
 obtain⟨w,hw,rfl⟩:=List.mem_map.mp h
 exact List.length_filter_lt_length_iff_exists.mpr ⟨w,hw,by simp[Wn.BF]⟩
section
variable {P:Program} {w:World} {K:Fg7} {mg:Str->Option Value} {C:Addr}
theorem Ny(D:aH K "joined" gF)(M:MG K mg)(B:Bi K):eN P w K mg "joined" ["keys"] 1 (Dw K):=by
 refine D.fn M Ba Ce (λvs H Q E h=>?_) (λf base cdv A outer s H vs Q E hr h=>?_)
 ·obtain⟨l,xs,ks,k0,rfl,_⟩:=h
  rfl
 ·obtain⟨l,xs,ks,k0,rfl,hl,hk,h0,hz1,k⟩:=h
  have hz:0<ks.length:=(List.getElem?_eq_some_iff.mp h0).1
  have Td:=hk.len
  obtain⟨x0,YX⟩:∃x0,xs[0]? = some x0:=⟨xs[0],by simp⟩
  obtain⟨k0',b0,e1,rfl,hb0⟩:=hk.get YX
  rw[h0]at e1
  cases e1
  refine⟨_,(aA (aL (cF (pc (aI bC (aI bH (pv 0) ah (λ_ _=>rfl)) ah (λ_ _=>rfl)) (pc (aU (tF rfl) rfl (M.no _ B.Ld) Gd (pc (dY (NY:=["key"]) (js:=[none]) rfl rfl (by with_unfolding_all rfl) (by repeat first|exact cI.nil|refine cI.cons rfl ?_) (.own .nil) (bL (pv 0)) (λ_ _ _ _ _=>⟨(aQ (i:=0) (show(["key"]:List Str).Nodup from by decide +kernel) rfl (Or.inl rfl)),fh,(aI (bh (K:=K) rfl) (pv 0) ah (λ_ _=>rfl))⟩)) aj)) (pc (aU (tG rfl) rfl (M.no _ B.Le) Ge (pc (dY (NY:=["key"]) (js:=[none]) rfl rfl (by with_unfolding_all rfl) (by repeat first|exact cI.nil|refine cI.cons rfl ?_) (.own .nil) (bL (pv 0)) (λ_ _ _ _ _=>⟨(aQ (i:=0) (show(["key"]:List Str).Nodup from by decide +kernel) rfl (Or.inl rfl)),fh,(aI (bh (K:=K) rfl) (pv 0) ah (λ_ _=>rfl))⟩)) aj)) aj)))))),?_⟩
  refine⟨_,rfl,l,xs,0,_,rfl,rfl,hl,fq YX,b0,_,0,_,rfl,rfl,bJ.of hb0,rfl,?_⟩
  refine⟨_,rfl,l,rfl,⟨_,hl⟩,λl1 h1=>?_⟩
  refine dQ (K:=K) (a:=l) (xs:=xs) (λi ys H'=>ys=((ks.take i).map λk=>V.int k.s)/\H'=upd H l1 (.lst ys)) ⟨rfl,rfl⟩ (by rintro i ys H' ⟨_,rfl⟩;exact af) (λi ys H' _ ⟨_,e⟩=>by rw[e];exact(av.new h1).seq hl) ?_ ?_
  ·rintro i y ys H' hi ⟨hys,rfl⟩
   obtain⟨kk,b,ek,rfl,hb⟩:=hk.get hi
   have hil:=(List.getElem?_eq_some_iff.mp ek).1
   refine⟨cH rfl,?_⟩
   refine⟨_,rfl,b,_,1,_,rfl,rfl,bJ.of ((av.new h1) _ _ hb),rfl,ys,af,?_,?_,by rw[fZ]⟩
   ·rw[hys,List.length_map,List.length_take]
    have:=sizeLine_eq
    lia
   ·rw[hys,List.take_add_one,ek]
    simp
  ·rintro ys H' ⟨hys,rfl⟩
   rw[Td,List.take_length]at hys
   have em:ys=(ks.map Ky.s).map V.int:=by rw[hys,List.map_map];rfl
   refine⟨l1,ks.map Ky.s,rfl,aZ.of (by rw[af,em]),by rw[List.length_map];exact hz,λs hs1 hs2=>?_⟩
   have sA:=av.new (o:=.lst ys) h1
   generalize upd H l1 (.lst ys)=H1 at *
   refine⟨_,rfl,l,rfl,⟨_,sA.seq hl⟩,λl2 h2=>?_⟩
   refine dQ (K:=K) (a:=l) (xs:=xs) (λi ys H'=>ys=((ks.take i).map λk=>V.int k.e)/\H'=upd H1 l2 (.lst ys)) ⟨rfl,rfl⟩ (by rintro i ys H' ⟨_,rfl⟩;exact af) (λi ys H' _ ⟨_,e⟩=>by rw[e];exact(av.new h2).seq (sA.seq hl)) ?_ ?_
   ·rintro i y ys H' hi ⟨hys,rfl⟩
    obtain⟨kk,b,ek,rfl,hb⟩:=hk.get hi
    have hil:=(List.getElem?_eq_some_iff.mp ek).1
    refine⟨cH rfl,?_⟩
    refine⟨_,rfl,b,_,2,_,rfl,rfl,bJ.of ((av.new h2) _ _ (sA _ _ hb)),rfl,ys,af,?_,?_,by rw[fZ]⟩
    ·rw[hys,List.length_map,List.length_take]
     have:=sizeLine_eq
     lia
    ·rw[hys,List.take_add_one,ek]
     simp
   ·rintro GN H' ⟨QB,rfl⟩
    rw[Td,List.take_length]at QB
    have NF:GN=(ks.map Ky.e).map V.int:=by rw[QB,List.map_map];rfl
    refine⟨l2,ks.map Ky.e,rfl,aZ.of (by rw[af,NF]),by rw[List.length_map];exact hz,λe Wj Tt=>?_⟩
    have sB:=sA.trans (av.new (o:=.lst GN) h2)
    refine⟨(by show 3<=sizeLine;decide),λr hr'=>?_⟩
    obtain⟨ka,ma,ea⟩:=List.mem_map.mp hs1
    obtain⟨kb,mb,eb⟩:=List.mem_map.mp Wj
    exact k r s e _ (sB.trans (av.new hr')) (sB.free hr') ⟨ka,ma,ea⟩ (λq m=>hs2 _ (List.mem_map.mpr ⟨q,m,rfl⟩)) ⟨kb,mb,eb⟩ (λq m=>Tt _ (List.mem_map.mpr ⟨q,m,rfl⟩)) af
theorem Nq(D:bw K C "move_tallies" "Desk.move_tallies" bD)(T:eK K C)(fX:cW P w K mg jg C "add_tally" ["self","key","tally"] 1 (DH C)):cW P w K mg jg C "move_tallies" ["self","keys","target"] 2 (Dm K C):=by
 have bO:=T.cl
 refine D.fn gg jD (λvs H Q E h=>?_) (λf base cdv A outer s H vs Q E hr h=>?_)
 ·obtain⟨x,dx,p,d,m,l,gb,mk,g,xs,ks,kvs,ws,rfl,_⟩:=h
  rfl
 ·obtain⟨x,dx,p,d,m,l,gb,mk,g,xs,ks,kvs,ws,rfl,hx,hg,hl,hk,hd,hw,hz,nd,hin,k⟩:=h
  have hu1:=wC hr
  have Td:=hk.len
  have Af:x≠d:=aN hx hd (by intro z;cases z)
  have Vb:l≠d:=aN hl hd (by intro z;cases z)
  refine⟨_,(aA (eT PassesOwn.never rfl (bL (pv 1)) (aQ (i:=3) gg.nd rfl (Or.inl rfl))
   (aA (iI (di (pv 0) bO.cl fX gh (hr.mono (by decide)) (pc (pv 2) (pc (El hu1 (dN (pv 0) rfl) (pv 3) ⟨rfl,rfl,rfl,rfl⟩) aj))))))),?_⟩
  refine⟨_,rfl,l,rfl,⟨_,aZ.of hl⟩,fm (K:=K) (a:=l) (xs:=xs) (λi σ H'=>∃(v:Option V) (kvs':List (List Key×V)) (fB:List Wn),σ=[some (.ref x),some (.ref l),some (.ref gb),v]/\Kept H H' d/\H' d=some (.dT kvs')/\bS H' kvs' fB/\fB=cT ws (ks.take i) g/\fB.length<1000000/\∀k∈ks.drop i,k∈fB.map Wn.k)
   ⟨_,kvs,ws,rfl,λb o e _=>e,hd,hw,rfl,hz,by simpa using hin⟩ (λi σ H' _ ⟨v,kvs',fB,_,kp,_⟩=>aZ.of (kp _ _ hl Vb)) ?_ ?_⟩
  ·rintro i y σ H1 hi ⟨v,wz,GD,rfl,ER,hd1,hw1,Tz,hz1,Rc⟩
   obtain⟨kk,b,ek,rfl,hb⟩:=hk.get hi
   have hil:=(List.getElem?_eq_some_iff.mp ek).1
   have hb1:H1 b=some (.tup kk.v):=ER.tups hd _ _ hb
   have hdr:ks.drop i=kk::ks.drop (i+1):=by rw[List.drop_eq_getElem_cons hil];congr 1;exact(List.getElem?_eq_some_iff.mp ek).2
   have Q_:kk∈GD.map Wn.k:=Rc kk (by rw[hdr];exact .head _)
   obtain⟨w0,eg,ew0⟩:=nT Q_
   rcases hw1.get kk.l with⟨_,z⟩|⟨v0,w0',h1,h2,_,a0,rfl,ha0⟩
   ·rw[eg]at z;cases z
   rw[eg]at h2
   cases h2
   refine⟨_,rfl,x,dx,_,rfl,ER _ _ hx Af,BV p d m mk DK DK DK DK,_,rfl,_,rfl,x,C,dx,_,_,rfl,ER _ _ hx Af,T.cl.cl,T.nW,fW p d m mk,d,rfl,.inr ⟨wz,.inl hd1⟩,_,rfl,wz,kk.l,b,_,hd1,rfl,hb1,h1,?_⟩
   have Ii:Kept H1 (upd H1 d (.dT (jA wz kk.l))) d:=λb o e n=>by rw[ai n];exact e
   have Lj:=Ii.tups hd1
   have Te:bS (upd H1 d (.dT (jA wz kk.l))) (jA wz kk.l) (cU GD kk.l):=(hw1.drop kk.l).keep Lj
   have hl2:=Te.len
   have hl3:=sY Q_
   refine⟨x,dx,p,d,m,gb,a0,mk,g.n,g.s,g.e,w0.c,w0.t,jA wz kk.l,cU GD kk.l,rfl,Ii _ _ (ER _ _ hx Af) Af,Lj _ _ (ER.tups hd _ _ hg),Lj _ _ ha0,af,Te,by have:=sizeLine_eq;lia,λH3 Vx SY KO QE=>?_⟩
   have hl4:=mS (cU GD kk.l) g.n g.s g.e w0.c w0.t
   refine⟨_,Vx,_,rfl,ER.trans (Ii.trans SY),KO,QE,?_,by lia,λq mq=>?_⟩
   ·rw[List.take_add_one,ek]
    show _=cT ws (ks.take i++[kk]) g
    rw[yj,←Tz,eg]
   ·rw[tO,yG]
    refine .inl ⟨Rc q (by rw[hdr];exact .tail _ mq),λz=>?_⟩
    have:=(List.drop_sublist i ks).nodup nd
    rw[hdr,List.nodup_cons]at this
    exact this.1 (z▸mq)
  ·rintro σ H1 ⟨v,wz,GD,rfl,ER,hd1,hw1,Tz,_,_⟩
   rw[Td,List.take_length]at Tz
   subst Tz
   exact k H1 wz ER hd1 hw1
end
def Wn.v(w:Wn):List V:=[.str w.n,.int w.s,.int w.e,.int w.c,.int w.t]
def Wn.d(w:Wn):Dv:=.tup [.str w.n,.int w.s,.int w.e,.int w.c,.int w.t]
def SE:Sh:=.tup [.str,.int,.int,.int,.int]
theorem xM(w:Wn):Dv.isA SE w.d=true:=rfl
theorem Wn.FU{a b:Wn}(h:a.d=b.d):a=b:=by
 obtain⟨n,s,e,c,t⟩:=a
 obtain⟨n',s',e',c',t'⟩:=b
 injection h with h
 injection h with h1 h
 injection h1 with h1
 injection h with h2 h
 injection h2 with h2
 injection h with h3 h
 injection h3 with h3
 injection h with h4 h
 injection h4 with h4
 injection h with h5 h
 injection h5 with h5
 subst h1 h2 h3 h4 h5
 rfl
def aD{α:Type}(f:α->List V)(H:Hp):List V->List α->Prop:=Paired λx w=>∃a,x=.ref a/\H a=some (.tup (f w))
section
variable {α:Type} {f:α->List V} {H H':Hp}
theorem aD.keep{xs:List V}{ws:List α}(h:aD f H xs ws)(k:∀a row,H a=some (.tup row)->H' a=some (.tup row)):aD f H' xs ws:=Paired.imp' (λ_ _ ⟨a,e,h⟩=>⟨a,e,k a _ h⟩) h
theorem aD.len{xs:List V}{ws:List α}(h:aD f H xs ws):xs.length=ws.length:=Paired.length h
theorem aD.snoc{xs:List V}{ws:List α}{a:Addr}{w:α}(h:aD f H xs ws)(e:H a=some (.tup (f w))):aD f H (xs++[.ref a]) (ws++[w]):=Paired.snoc h ⟨_,rfl,e⟩
theorem aD.app{xs ys:List V}{ws us:List α}(h:aD f H xs ws)(h':aD f H ys us):aD f H (xs++ys) (ws++us):=Paired.app h h'
theorem aD.get{xs:List V}{ws:List α}{i:Nat}{x:V}(h:aD f H xs ws)(e:xs[i]? = some x):∃w a,ws[i]? = some w/\x=.ref a/\H a=some (.tup (f w)):=by
 obtain⟨k,ek,a,r⟩:=Paired.getL h e
 exact⟨k,a,ek,r⟩
theorem aD.NH{K:Fg7}{g:α->Dv}(hd:∀a w,H a=some (.tup (f w))->Dn K H (.ref a) (g w)){xs:List V}{ws:List α}(h:aD f H xs ws):gf K H xs (ws.map g):=by
 induction h with
 |nil=>exact .nil
 |cons r _ ih=>
  obtain⟨a,rfl,h⟩:=r
  exact .cons (hd _ _ h) ih
theorem sP{g:α->Dv}(inj:∀a b,g a=g b->a=b){ys:List V}{ws:List α}{ps:List (V×Dv)}(h:aD f H ys ws)(p:ps.Perm (ys.zip (ws.map g))):∃rs,rs.Perm ws/\aD f H (ps.map (·.1)) rs/\ps.map (·.2)=rs.map g:=by
 have h0:∀{ys:List V}{ws:List α},aD f H ys ws->∀q∈ys.zip (ws.map g),∃w:α,q.2=g w/\∃a,q.1=.ref a/\H a=some (.tup (f w)):=by
  intro ys ws h
  induction h with
  |nil=>intro q hq;simp at hq
  | @cons x k xs ks r _ ih=>
   intro q hq
   rw[List.map_cons,List.zip_cons_cons]at hq
   rcases List.mem_cons.mp hq with rfl|hq
   ·exact⟨k,rfl,r⟩
   ·exact ih q hq
 have h1:∀ps:List (V×Dv),(∀q∈ps,∃w:α,q.2=g w/\∃a,q.1=.ref a/\H a=some (.tup (f w)))->∃rs,aD f H (ps.map (·.1)) rs/\ps.map (·.2)=rs.map g:=by
  intro ps
  induction ps with
  |nil=>intro _;exact⟨[],.nil,rfl⟩
  |cons q ps ih=>
   intro hp
   obtain⟨k,e,r⟩:=hp q (.head _)
   obtain⟨ks',a1,a2⟩:=ih λq' m=>hp q' (.tail _ m)
   exact⟨k::ks',.cons r a1,by rw[List.map_cons,List.map_cons,e,a2]⟩
 obtain⟨rs,a1,a2⟩:=h1 ps λq m=>h0 h q (p.mem_iff.mp m)
 refine⟨rs,?_,a1,a2⟩
 have e:(rs.map g).Perm (ws.map g):=by
  rw[←a2]
  have:=p.map (·.2)
  rw[List.map_snd_zip (by rw[List.length_map,h.len];exact Nat.le_refl _)]at this
  exact this
 have key:∀(l r:List α),(l.map g).Perm (r.map g)->l.Perm r:=by
  intro l
  induction l with
  |nil=>intro r hp;have:=List.Perm.eq_nil hp.symm;rw[List.map_eq_nil_iff]at this;rw[this]
  |cons a l ih=>
   intro r hp
   have hm:g a∈r.map g:=hp.mem_iff.mp (by simp)
   obtain⟨b,hb,eb⟩:=List.mem_map.mp hm
   have:=inj _ _ eb
   subst this
   obtain⟨r1,r2,rfl⟩:=List.append_of_mem hb
   have hp2:((b::l).map g).Perm ((b::(r1++r2)).map g):=hp.trans ((List.perm_middle).map _)
   rw[List.map_cons,List.map_cons]at hp2
   exact((ih _ hp2.cons_inv).cons b).trans List.perm_middle.symm
 exact key _ _ e
end
theorem ud{K:Fg7}{H:Hp}{a:Addr}{w:Wn}(h:H a=some (.tup w.v)):Dn K H (.ref a) w.d:=.tup (bJ.of h) (.cons (.str _) (.cons (.int _) (.cons (.int _) (.cons (.int _) (.cons (.int _) .nil)))))
inductive zC(C:Addr)(vs:List V)(H:Hp)(Q:VK):Prop
 |mk(x dx p d m:Addr)(mk:V)(kvs:List (List Key×V))(ws:List Wn):(vs=[.ref x])->(H x=some (.ins C dx (eV p mk d m)))->(H d=some (.dT kvs))->(bS H kvs ws)->(TS.Fits ws.length)->(∀(l:Addr)(zs:List V)(rs:List Wn)(H':Hp),av H H'->H l=none->H' l=some (.lst zs)->aD Wn.v H' zs rs->rs.Perm ws->(rs.map Wn.d).Pairwise (λd e=>aV d e≠.gt)->Q (.ref l) H')->zC C vs H Q
def Dl(C:Addr):Sp:=λvs H Q d_=>zC C vs H Q
section
variable {P:Program} {w:World} {K:Fg7} {mg:Str->Option Value} {C:Addr}
theorem Np(D:bw K C "rows" "Desk.rows" dD)(M:MG K mg)(B:Bi K)(T:eK K C):cW P w K mg jg C "rows" ["self"] 1 (Dl C):=by
 refine D.fn uc uH (λvs H Q E h=>?_) (λf base cdv A outer s H vs Q E hr h=>?_)
 ·obtain⟨x,dx,p,d,m,mk,kvs,ws,rfl,_⟩:=h
  rfl
 ·obtain⟨x,dx,p,d,m,mk,kvs,ws,rfl,hx,hd,hw,hz,k⟩:=h
  have hu:(A.deeper (envOfC "Desk.rows" (ao dD) s.heap.objs.size f cdv)).units+64<cLine:=hr.units
  refine⟨_,(aA (aL (aU (gA hu) rfl (M.no _ B.iM) gH (pc (Ab (dY (NY:=["key","tally"]) (js:=[none,none]) rfl rfl (by with_unfolding_all rfl) (by repeat first|exact cI.nil|refine cI.cons rfl ?_) (.own (.own .nil)) (sN (Ep PySem.F.plainAttrs_dict PySem.F.slot_dict_items PySem.F.type_dict_items vV (dN (pv 0) rfl))) (λ_ _ _ _ _=>⟨(z_ (n:=2) (K:=K) rfl rfl (lV (aQ (i:=0) (show(["key","tally"]:List Str).Nodup from by decide +kernel) rfl (Or.inl rfl)) (lV (aQ (i:=1) (show(["key","tally"]:List Str).Nodup from by decide +kernel) rfl (Or.inl rfl)) zZ))),fh,(aC (gP (K:=K) rfl) (pv 0) (pv 1))⟩))) aj)))),?_⟩
  refine⟨d,.dT kvs,hd,True.intro,_,rfl,x,C,dx,_,_,rfl,hx,T.cl.cl,T.nW,fW p d m mk,.inr (.inr (.inl ⟨rfl,.inr ⟨kvs,hd⟩⟩)),d,kvs,rfl,rfl,hd,λv hv=>⟨v,d,kvs,rfl,af,(by rw[ai (au hd hv)];exact hd),λo=>?_⟩⟩
  intro l hl
  have ndv:d≠v:=au hd hv
  have xw:d≠l:=au af hl
  have lI:H l=none:=by
   rw[ai xw.symm]at hl
   exact(av.new hv).free hl
  have hlen:=hw.len
  refine qc (n:=kvs.length) (λi ys H'=>(∀c z,H c=some z->c≠d->H' c=some z)/\H' d=some (.eF o (.dT kvs))/\H' l=some (.lst ys)/\aD Wn.v H' ys (ws.take i)) ⟨λc z e n=>?_,?_,af,.nil⟩ ?_ ?_ ?_ ?_ ?_
  ·rw[ai (au e lI),ai n,ai (au e hv)]
   exact e
  ·rw[ai xw,af]
  ·rintro i ys H' ⟨_,_,h,_⟩
   exact h
  ·rintro i ys H' hi ⟨_,h,_⟩
   exact⟨kvs,h,hi⟩
  ·rintro ys H' ⟨_,h,_⟩
   exact⟨kvs,h,Nat.le_refl _⟩
  ·rintro i y ys H1 H2 hi ⟨kp,hfd,rD,hk⟩ yl
   obtain⟨kk,v2,b,t,ek,rfl,ht,hb,rfl⟩:=yl kvs hfd
   obtain⟨w,ew,rfl,a0,rfl,ha0⟩:=hw.at ek
   have st:=av.new (o:=.tup [.ref b,.ref a0]) ht
   have htk:ws.take (i+1)=ws.take i++[w]:=by rw[List.take_add_one,ew];rfl
   have ha1:H1 a0=some (.tup [.int w.c,.int w.t]):=kp _ _ ha0 (aN ha0 hd (by intro z;cases z))
   refine⟨t,[.ref b,.ref a0],rfl,bJ.of af,rfl,_,_,rfl,_,_,rfl,rfl,⟨rfl,λi v e=>?_⟩,?_⟩
   ·rcases i with _|_|i<;>simp[dw]at e
   ·refine⟨_,rfl,_,rfl,b,a0,_,_,rfl,rfl,bJ.of (st _ _ hb),bJ.of (st _ _ ha1),(by intro z;cases z),(by show 5<=sizeLine;decide),(λz=>nomatch z),λ_ r hr'=>?_⟩
    have sr:=st.trans (av.new (o:=.tup (w.ky.map kV++[.int w.c,.int w.t])) hr')
    refine⟨ys,sr _ _ rD,?_,?_⟩
    ·rw[hk.len,List.length_take]
     have:=hz.1
     have:=sizeLine_eq
     lia
    ·have SK:∀{c:Addr}{z:HO},H1 c=some z->(∀q,z≠.lst q)->c≠l:=λ{c z} e n q=>by
      rw[q,rD]at e
      exact n _ (Option.some.inj e).symm
     refine⟨λc z e n=>?_,?_,af,?_⟩
     ·rw[ai (au e lI)]
      exact sr _ _ (kp c z e n)
     ·rw[ai xw];exact sr _ _ hfd
     ·rw[htk]
      have tp:∀a row,H1 a=some (.tup row)->upd (upd (upd H1 t (.tup [.ref b,.ref a0])) r (.tup (w.ky.map kV++[.int w.c,.int w.t]))) l (.lst (ys++[.ref r])) a=some (.tup row):=λa row e=>by
       rw[ai (SK e (by intro q z;cases z))]
       exact sr _ _ e
      have UX:r≠l:=λq=>by
       rw[q,st _ _ rD]at hr'
       cases hr'
      exact(hk.keep tp).snoc (by rw[ai UX,af];rfl)
  ·rintro ys H' ⟨kp,hfd,rD,hk⟩
   rw[hlen,List.take_length]at hk
   refine⟨o,hfd,?_⟩
   have s1:av H (upd H' d (.dT kvs)):=λb z e=>by
    by_cases q:b=d
    ·subst q
     rw[af]
     rw[hd]at e
     exact e
    ·rw[ai q];exact kp _ _ e q
   have hk1:aD Wn.v (upd H' d (.dT kvs)) ys ws:=hk.keep λa row e=>by rw[ai (aN e hfd (by intro z;cases z))];exact e
   have hl1:upd H' d (.dT kvs) l=some (.lst ys):=by rw[ai xw.symm];exact rD
   refine⟨l,ys,_,SE,rfl,aZ.of hl1,hk1.NH (λa w h=>ud h),(λd hd=>?_),rfl,(by decide),?_,λl2 ps hl2 pm pw=>?_⟩
   ·obtain⟨q,_,rfl⟩:=List.mem_map.mp hd
    exact xM q
   ·rw[hk1.len];lia
   ·obtain⟨rs,a1,a2,a3⟩:=sP (λ_ _=>Wn.FU) hk1 pm
    exact k l2 _ rs _ (s1.trans (av.new hl2)) (s1.free hl2) af (a2.keep λa row e=>(av.new hl2) _ _ e) a1 (by rw[←a3];exact pw)
end
def JK(pl:Pl)(t:Int):List (Int×Int):=match pl with
 |.pauses l _=>[(t,t+l)]
 |pl=>(List.range (cnt pl t)).map λ(i:Nat)=>(fQ pl t+(i:Int)*pl.stp,fQ pl t+(i:Int)*pl.stp+pl.len)
theorem uT(pl:Pl)(t:Int):GP pl t=(JK pl t).map λq=>[.int q.1,.int q.2]:=by
 cases pl with
 |fixed l g=>show(List.range _).map _=((List.range _).map _).map _;rw[List.map_map];rfl
 |sliding l s g=>show(List.range _).map _=((List.range _).map _).map _;rw[List.map_map];rfl
 |pauses l g=>rfl
theorem zN{pl:Pl}(ok:pl.ok)(t:Int):(JK pl t).length<=100:=by
 have:=F_ (t:=t) ok
 cases pl with
 |fixed l g=>show((List.range _).map _).length<=100;rw[List.length_map,List.length_range];exact this
 |sliding l s g=>show((List.range _).map _).length<=100;rw[List.length_map,List.length_range];exact this
 |pauses l g=>show 1<=100;decide
def cy(pl:Pl)(n:Str)(t:Int):List Ky:=(JK pl t).map λq=>⟨n,q.1,q.2⟩
def qF:Pl->Bool
 |.pauses _ _=>true
 |_=>false
inductive ji where
 |told(w:Wn)|gone(k:Ky)|missed(n:Str)(t a:Int)
def ji.v:ji->List V
 |.told w=>[.str "told",.str w.n,.int w.s,.int w.e,.int w.c,.int w.t]
 |.gone k=>[.str "gone",.str k.n,.int k.s,.int k.e]
 |.missed n t a=>[.str "missed",.str n,.int t,.int a]
def tS(pl:Pl)(n:Str)(t a:Int)(ws:List Wn)(ms ks:List Ky)(fB:List Wn):Prop:=
 (qF pl=false/\ms=[]/\ks=cy pl n t/\fB=ks.foldl (λu k=>addW u k.n k.s k.e 1 a) ws)\/
 (qF pl=true/\ms.Perm ((ws.filter (meet ⟨n,t,t+pl.len⟩)).map Wn.k)/\(ms.map Ky.d).Pairwise (λd e=>aV d e≠.gt)/\∃s e:Int,(s=t\/∃k∈ms,k.s=s)/\s<=t/\(∀k∈ms,s<=k.s)/\(e=t+pl.len\/∃k∈ms,k.e=e)/\t+pl.len<=e/\(∀k∈ms,k.e<=e)/\
  ks=[⟨n,s,e⟩]/\fB=addW (cT ws ms ⟨n,s,e⟩) n s e 1 a)
def gp(mk:Option Int)(ws:List Wn)(ks:List Ky):List ji:=(ks.filter λk=>closed mk k.e).filterMap λk=>(cX ws k.l).map ji.told
open Classical in
noncomputable def gw(mk:Option Int)(ms ks:List Ky):List ji:=(ms.filter λk=>decide (k∉ks)&&closed mk k.e).map ji.gone
structure fY(K:Fg7)(C:Addr)(H:Hp)(x p d m:Addr)(pl:Pl)(mk:Option Int)(ws:List Wn)(ms:List (Str×Int×Int)):Prop where
 ob:∃dx,H x=some (.ins C dx (eV p (Kr mk) d m))
 pl:bJ K H p pl.row
 wd:∃kvs,H d=some (.dT kvs)/\bS H kvs ws
 ml:∃xs,H m=some (.lst xs)/\aD (λq:Str×Int×Int=>[.str q.1,.int q.2.1,.int q.2.2]) H xs ms
 nd:(ws.map Wn.k).Nodup
inductive vH(K:Fg7)(C:Addr)(vs:List V)(H:Hp)(Q:VK):Prop
 |mk(x p d m:Addr)(pl:Pl)(mk:Option Int)(ws:List Wn)(ms:List (Str×Int×Int))(n:Str)(t a:Int):(vs=[.ref x,.str n,.int t,.int a])->(fY K C H x p d m pl mk ws ms)->(pl.ok)->((-(10^45)<t/\t<10^45))->((ws.length+200<1000000/\ws.length<TS.MX))->(ms.length<1000000)->((late mk (dS pl) t=true->∀(l:Addr)(zs:List V)(H':Hp),(∀b o,H b=some o->b≠m->H' b=some o)->H l=none->H' l=some (.lst zs)->aD ji.v H' zs [.missed n t a]->fY K C H' x p d m pl mk ws (ms++[(n,t,a)])->Q (.ref l) H'))->((late mk (dS pl) t=false->∀(l:Addr)(zs:List V)(H':Hp)(mt ks:List Ky)(fB:List Wn),tS pl n t a ws mt ks fB->(∀b o,H b=some o->b≠d->H' b=some o)->H l=none->H' l=some (.lst zs)->aD ji.v H' zs (gw mk mt ks++gp mk fB ks)->fY K C H' x p d m pl mk fB ms->Q (.ref l) H'))->vH K C vs H Q
def zO(K:Fg7)(C:Addr):Sp:=λvs H Q d_=>vH K C vs H Q
theorem BR{ws:List Wn}{k:Ky}(h:k∉ws.map Wn.k):cX ws k.l=none:=by
 cases e:cX ws k.l with
 |none=>rfl
 |some w=>
  have h1:=List.find?_some e
  have h2:=List.mem_of_find?_eq_some e
  exact absurd (List.mem_map.mpr ⟨w,h2,gS (a:=w.k) (b:=k) (of_decide_eq_true h1)⟩) h
theorem xO{ws:List Wn}{n:Str}{s e c t:Int}(h:(ws.map Wn.k).Nodup):((kj ws n s e c t).map Wn.k).Nodup:=by
 unfold kj
 split
 ·have:(ws.map λw=>if w.ky=nO n s e then {w with c:=c,t:=t}else w).map Wn.k=ws.map Wn.k:=by
   rw[List.map_map]
   refine List.map_congr_left λw _=>?_
   show(if w.ky=nO n s e then {w with c:=c,t:=t}else w).k=w.k
   split<;>rfl
  rw[this]
  exact h
 ·rename_i hn
  rw[List.map_append]
  refine List.nodup_append.mpr ⟨h,by simp,λa ha b hb=>?_⟩
  simp at hb
  rintro rfl
  obtain⟨w,hw,ew⟩:=List.mem_map.mp ha
  refine hn (List.any_eq_true.mpr ⟨w,hw,decide_eq_true ?_⟩)
  rw[Wn.BF,ew,hb]
  rfl
theorem kX{ws:List Wn}{n:Str}{s e c t:Int}(h:(ws.map Wn.k).Nodup):((addW ws n s e c t).map Wn.k).Nodup:=by
 unfold addW
 split<;>exact xO h
theorem wK{ws:List Wn}{k:List Key}(h:(ws.map Wn.k).Nodup):((cU ws k).map Wn.k).Nodup:=h.sublist ((List.filter_sublist).map _)
theorem jw{g:Ky}:∀{ks:List Ky}{ws:List Wn},(ws.map Wn.k).Nodup->((cT ws ks g).map Wn.k).Nodup
 |[],_,h=>h
 |k::ks,ws,h=>by
  show((cT _ ks g).map Wn.k).Nodup
  refine jw ?_
  dsimp only
  split
  ·exact kX (wK h)
  ·exact h
theorem nj{g:Ky}:∀{ks:List Ky}{ws:List Wn},(cT ws ks g).length<=ws.length
 |[],_=>Nat.le_refl _
 |k::ks,ws=>by
  show(cT _ ks g).length<=ws.length
  refine Nat.le_trans nj ?_
  dsimp only
  split
  ·rename_i w e
   have h1:=List.find?_some e
   have h2:=List.mem_of_find?_eq_some e
   have h3:=sY (k:=k) (ws:=ws) (List.mem_map.mpr ⟨w,h2,gS (a:=w.k) (b:=k) (of_decide_eq_true h1)⟩)
   have h4:=mS (cU ws k.l) g.n g.s g.e w.c w.t
   lia
  ·exact Nat.le_refl _
def bU(a:Int)(ws:List Wn)(ks:List Ky):List Wn:=ks.foldl (λu k=>addW u k.n k.s k.e 1 a) ws
theorem wX(a:Int)(ws:List Wn)(ks:List Ky)(k:Ky):bU a ws (ks++[k])=addW (bU a ws ks) k.n k.s k.e 1 a:=by
 unfold bU
 rw[List.foldl_append]
 rfl
theorem i_{a:Int}:∀{ks:List Ky}{ws:List Wn},(ws.map Wn.k).Nodup->((bU a ws ks).map Wn.k).Nodup
 |[],_,h=>h
 |_::ks,_,h=>i_ (ks:=ks) (kX h)
theorem kY{a:Int}:∀{ks:List Ky}{ws:List Wn},(bU a ws ks).length<=ws.length+ks.length
 |[],_=>Nat.le_refl _
 |k::ks,ws=>by
  have h1:=kY (a:=a) (ks:=ks) (ws:=addW ws k.n k.s k.e 1 a)
  have h2:=mS ws k.n k.s k.e 1 a
  have h3:bU a ws (k::ks)=bU a (addW ws k.n k.s k.e 1 a) ks:=rfl
  rw[h3,List.length_cons]
  lia
theorem qX{a:Int}{q:Ky}:∀{ks:List Ky}{ws:List Wn},q∈ks\/q∈ws.map Wn.k->q∈(bU a ws ks).map Wn.k
 |[],_,h=>h.elim (λz=>nomatch z) id
 |k::ks,ws,h=>by
  have h3:bU a ws (k::ks)=bU a (addW ws k.n k.s k.e 1 a) ks:=rfl
  rw[h3]
  refine qX ?_
  rw[tO]
  rcases h with h|h
  ·rcases List.mem_cons.mp h with rfl|h
   ·exact .inr (.inr rfl)
   ·exact .inl h
  ·exact .inr (.inl h)
theorem Kept.tup{H H':Hp}{m:Addr}{z:HO}(k:Kept H H' m)(hm:H m=some z)(n1:∀r,z≠.tup r):∀a row,H a=some (.tup row)->H' a=some (.tup row):=λa row e=>k a _ e λq=>by
 rw[q,hm]at e
 exact n1 row (Option.some.inj e)
theorem Kept.jo{K:Fg7}{H H':Hp}{m p:Addr}{z:HO}{row:List V}(k:Kept H H' m)(hm:H m=some z)(n1:∀r,z≠.tup r)(n2:∀o u,z≠.eF o u)(h:bJ K H p row):bJ K H' p row:=by
 rcases h with(h|⟨o,h⟩)|h
 ·exact .inl (.inl (k.tup hm n1 _ _ h))
 ·refine .inl (.inr ⟨o,k _ _ h λq=>?_⟩)
  rw[q,hm]at h
  exact n2 _ _ (Option.some.inj h)
 ·exact .inr h
theorem Kept.refl(H:Hp)(d:Addr):Kept H H d:=λ_ _ e _=>e
theorem Kept.free{H H':Hp}{d l:Addr}(k:Kept H H' d)(hn:l≠d)(h:H' l=none):H l=none:=by
 cases e:H l with
 |none=>rfl
 |some o=>rw[k l o e hn]at h;cases h
def Mid(pl:Pl)(n:Str)(t:Int)(ws:List Wn)(ms ks:List Ky)(fB:List Wn):Prop:=
 (qF pl=false/\ms=[]/\ks=cy pl n t/\fB=ws)\/
 (qF pl=true/\ms.Perm ((ws.filter (meet ⟨n,t,t+pl.len⟩)).map Wn.k)/\(ms.map Ky.d).Pairwise (λd e=>aV d e≠.gt)/\∃s e:Int,(s=t\/∃k∈ms,k.s=s)/\s<=t/\(∀k∈ms,s<=k.s)/\(e=t+pl.len\/∃k∈ms,k.e=e)/\t+pl.len<=e/\(∀k∈ms,k.e<=e)/\ks=[⟨n,s,e⟩]/\fB=cT ws ms ⟨n,s,e⟩)
theorem Mid.rel{pl:Pl}{n:Str}{t a:Int}{ws:List Wn}{ms ks:List Ky}{fB:List Wn}(h:Mid pl n t ws ms ks fB):tS pl n t a ws ms ks (bU a fB ks):=by
 rcases h with⟨h1,h2,h3,rfl⟩|⟨h1,h2,h3,s,e,h4,h5,h6,h7,h8,h9,rfl,rfl⟩
 ·exact .inl ⟨h1,h2,h3,rfl⟩
 ·exact .inr ⟨h1,h2,h3,s,e,h4,h5,h6,h7,h8,h9,rfl,rfl⟩
theorem rH(l g:Int)(n:Str)(t:Int):cy (.pauses l g) n t=[⟨n,t,t+l⟩]:=rfl
theorem BQ(mk:Option Int)(a b ks:List Ky):gw mk (a++b) ks=gw mk a ks++gw mk b ks:=by
 unfold gw
 rw[List.filter_append,List.map_append]
theorem sU(mk:Option Int)(ms ks:List Ky):(gw mk ms ks).length<=ms.length:=by
 unfold gw
 rw[List.length_map]
 exact List.length_filter_le _ _
theorem wF{mk:Option Int}{k:Ky}{ks:List Ky}(h1:k∉ks)(h2:closed mk k.e=true):gw mk [k] ks=[.gone k]:=by
 unfold gw
 simp[h1,h2]
open Classical in
theorem oY{mk:Option Int}{k:Ky}{ks:List Ky}(h:¬(k∉ks/\closed mk k.e=true)):gw mk [k] ks=[]:=by
 unfold gw
 simp only[List.filter_cons,List.filter_nil]
 rw[if_neg]
 ·rfl
 ·intro z
  have z:=(Bool.and_eq_true _ _).mp z
  exact h ⟨of_decide_eq_true z.1,z.2⟩
theorem AR(mk:Option Int)(ws:List Wn)(a b:List Ky):gp mk ws (a++b)=gp mk ws a++gp mk ws b:=by
 unfold gp
 rw[List.filter_append,List.filterMap_append]
theorem rV(mk:Option Int)(ws:List Wn)(ks:List Ky):(gp mk ws ks).length<=ks.length:=by
 unfold gp
 exact Nat.le_trans (List.length_filterMap_le _ _) (List.length_filter_le _ _)
theorem uZ{mk:Option Int}{ws:List Wn}{k:Ky}{w:Wn}(h:closed mk k.e=true)(hg:cX ws k.l=some w):gp mk ws [k]=[.told w]:=by
 unfold gp
 simp[h,hg]
theorem u_{mk:Option Int}{ws:List Wn}{k:Ky}(h:¬closed mk k.e=true):gp mk ws [k]=[]:=by
 unfold gp
 simp[h]
section
variable {P:Program} {w:World} {K:Fg7} {mg:Str->Option Value} {C:Addr}
theorem IV(D:bw K C "take_event" "Desk.take_event" bA)(M:MG K mg)(T:eK K C)(iP:dO K "PAUSES" (.str "pauses"))(iQ:eN P w K mg "kind_of" ["plan"] 1 (tW K))(yY:eN P w K mg "spans_at" ["plan","time"] 3 (zB K))
  (lB:cW P w K mg jg C "is_too_late" ["self","time"] 2 (Du K C))(cQ:cW P w K mg jg C "is_closed" ["self","end"] 1 (lP C))(lA:cW P w K mg jg C "keys_met_by" ["self","alone"] 1 (JI C))
  (Gz:eN P w K mg "joined" ["keys"] 1 (Dw K))(jZ:cW P w K mg jg C "move_tallies" ["self","keys","target"] 2 (Dm K C))(fX:cW P w K mg jg C "add_tally" ["self","key","tally"] 1 (DH C)):
  cW P w K mg jg C "take_event" ["self","name","time","amount"] 4 (zO K C):=by
 have bO:=T.cl
 refine D.fn bf kW (λvs H Q E h=>?_) (λf base cdv A outer s H vs Q E hr h=>?_)
 ·obtain⟨x,p,d,m,pl,mk,ws,ms,n,t,a,rfl,_⟩:=h
  rfl
 ·obtain⟨x,p,d,m,pl,mk,ws,ms,n,t,a,rfl,DA,ok,ht,⟨hwl,hfx⟩,hml,kL,kN⟩:=h
  have hu1:=wC hr
  have hu:(A.deeper (envOfC "Desk.take_event" (ao bA) s.heap.objs.size f cdv)).units+64<cLine:=hr.units
  obtain⟨dx,hx⟩:=DA.ob
  obtain⟨kvs,hd,hw⟩:=DA.wd
  obtain⟨mx,hm,Iw⟩:=DA.ml
  have hp:=DA.pl
  have Af:x≠d:=aN hx hd (by intro z;cases z)
  have nxm:x≠m:=aN hx hm (by intro z;cases z)
  have XQ:m≠d:=aN hm hd (by intro z;cases z)
  refine⟨_,(aq (b_ (dM (di (pv 0) bO.cl lB gh (hr.mono (by decide)) (pc (pv 2) aj))) (aq (iI (oQ PySem.F.plainAttrs_list PySem.F.slot_list_append PySem.F.type_list_append ff (dN (pv 0) rfl) (pc (cF (pc (pv 1) (pc (pv 2) (pc (pv 3) aj)))) aj)))
   (aA (aL (bZ (pc (cF (pc dh (pc (pv 1) (pc (pv 2) (pc (pv 3) aj))))) aj))))) aT)
   (aq (Eg (i:=4) bf.nd rfl (Or.inr rfl) (dY (NY:=["span","name"]) (js:=[none,some 1]) rfl rfl (by with_unfolding_all rfl) (by repeat first|exact cI.nil|refine cI.cons rfl ?_) (.own (.out rfl rfl (.inl rfl) .nil)) (bL (a_ yY (hr.mono (by decide)) rfl (pc (dN (pv 0) rfl) (pc (pv 2) aj)))) (λ_ _ _ _ _=>⟨(aQ (i:=0) (show(["span","name"]:List Str).Nodup from by decide +kernel) rfl (Or.inl rfl)),fh,(aC (gP (K:=K) rfl) (cF (pc (pv 1) aj)) (pv 0))⟩)) (by with_unfolding_all rfl))
   (aq (cV (i:=5) bf.nd rfl (Or.inl rfl) (bZ aj))
   (iH (b_ (aP e_ (a_ iQ (hr.mono (by decide)) rfl (pc (dN (pv 0) rfl) aj)) (jt iP M rfl) (aR _)) (aq (cV (i:=5) bf.nd rfl (Or.inl rfl) (di (pv 0) bO.cl lA gh (hr.mono (by decide)) (pc (aI bH (pv 4) ah (λ_ _=>rfl)) aj)))
   (aq (cV (i:=4) bf.nd rfl (Or.inr rfl) (bZ (pc (a_ Gz (hr.mono (by decide)) rfl (pc (aC kE (pv 5) (pv 4)) aj)) aj)))
   (aA (iI (di (pv 0) bO.cl jZ gh (hr.mono (by decide)) (pc (pv 5) (pc (aI bH (pv 4) ah (λ_ _=>rfl)) aj))))))) aT)
   (aq (eT PassesOwn.never rfl (bL (pv 4)) (aQ (i:=6) bf.nd rfl (Or.inl rfl))
   (aA (iI (di (pv 0) bO.cl fX gh (hr.mono (by decide)) (pc (pv 6) (pc (cF (pc ah (pc (pv 3) aj))) aj))))))
   (aq (lS (k:=7) (NY:=["key","keys","self"]) (js:=[none,some 4,some 0]) rfl bf.nd rfl rfl rfl (by with_unfolding_all rfl) (by repeat first|exact cI.nil|refine cI.cons rfl ?_) (.own (.out rfl rfl (.inl rfl) (.out rfl rfl (.inl rfl) .nil))) (bL (pv 5)) (λ_ _ _ _ _=>⟨(aQ (i:=0) (show(["key","keys","self"]:List Str).Nodup from by decide +kernel) rfl (Or.inl rfl)),(iV (PW.pt (jq (aP (yh (K:=K) rfl hu) (pv 0) (pv 1) (by with_unfolding_all rfl)) (iU (dM (di (pv 2) bO.cl cQ gh (hr.mono (by decide)) (pc (aI (bh (K:=K) rfl) (pv 0) ah (λ_ _=>rfl)) aj))))))),(aC (gP (K:=K) rfl) (cF (pc dh aj)) (pv 0))⟩))
   (aq (lS (k:=8) (NY:=["key","self"]) (js:=[none,some 0]) rfl bf.nd rfl rfl rfl (by with_unfolding_all rfl) (by repeat first|exact cI.nil|refine cI.cons rfl ?_) (.own (.out rfl rfl (.inl rfl) .nil)) (bL (pv 4)) (λ_ _ _ _ _=>⟨(aQ (i:=0) (show(["key","self"]:List Str).Nodup from by decide +kernel) rfl (Or.inl rfl)),(iV (dM (di (pv 1) bO.cl cQ gh (hr.mono (by decide)) (pc (aI (bh (K:=K) rfl) (pv 0) ah (λ_ _=>rfl)) aj)))),(aC (gP (K:=K) rfl) (aC (gP (K:=K) rfl) (cF (pc dh aj)) (pv 0)) (HQ hu1 (HP (K:=K) rfl (pv 1)) (pv 0) (λ_ _=>rfl)))⟩))
   (aA (aL (aC kE (pv 7) (pv 8))))))))))),?_⟩
  refine cg λBq iK=>?_
  refine⟨_,rfl,x,dx,_,rfl,hx,BV p d m _ DK DK DK DK,_,rfl,x,dx,p,d,m,mk,pl,t,rfl,hx,hp,_,rfl,?_⟩
  refine aW (λhlt=>?_) (λhlt=>?_)
  ·-- too late
   refine⟨_,rfl,x,C,dx,_,_,rfl,hx,T.cl.cl,T.nS,fS p d m _,.inl ⟨rfl,_,aZ.of hm⟩,_,rfl,_,rfl,_,rfl,(by show 3<=sizeLine;decide),λq hq=>?_⟩
   have s1:=av.new (o:=.tup [.str n,.int t,.int a]) hq
   refine⟨m,mx,.ref q,rfl,rfl,s1 _ _ hm,(by have:=sizeLine_eq;have:=Iw.len;lia),?_⟩
   have ER:Kept H (upd (upd H q (.tup [.str n,.int t,.int a])) m (.lst (mx++[.ref q]))) m:=λb o e nb=>by rw[ai nb];exact s1 _ _ e
   have nqm:q≠m:=λz=>by rw[z,hm]at hq;cases hq
   have hq1:upd (upd H q (.tup [.str n,.int t,.int a])) m (.lst (mx++[.ref q])) q=some (.tup [.str n,.int t,.int a]):=by rw[ai nqm,af]
   have hm1:upd (upd H q (.tup [.str n,.int t,.int a])) m (.lst (mx++[.ref q])) m=some (.lst (mx++[.ref q])):=af
   generalize upd (upd H q (.tup [.str n,.int t,.int a])) m (.lst (mx++[.ref q]))=H1 at *
   refine⟨_,rfl,_,rfl,_,rfl,(by show 4<=sizeLine;decide),λr hr'=>⟨(by show 1<=sizeLine;decide),λl hl=>?_⟩⟩
   have s2:=(av.new (o:=.tup [.str "missed",.str n,.int t,.int a]) hr').trans (av.new (o:=.lst [.ref r]) hl)
   have Va:l≠m:=λz=>by rw[z,(av.new hr') _ _ hm1]at hl;cases hl
   have Ii:Kept H (upd (upd H1 r (.tup [.str "missed",.str n,.int t,.int a])) l (.lst [.ref r])) m:=λb o e nb=>s2 _ _ (ER b o e nb)
   have tp:=Ii.tup hm (λr z=>nomatch z)
   have UX:r≠l:=λz=>by rw[z,←z,af]at hl;cases hl
   refine kL hlt l [.ref r] _ Ii (ER.free Va ((av.new hr').free hl)) af (.cons ⟨r,rfl,by rw[ai UX,af];rfl⟩ .nil) ⟨⟨dx,Ii _ _ hx nxm⟩,Ii.jo hm (λr z=>nomatch z) (λo u z=>nomatch z) hp,⟨kvs,Ii _ _ hd XQ.symm,hw.keep tp⟩,⟨_,s2 _ _ hm1,(Iw.keep tp).snoc (s2 _ _ hq1)⟩,DA.nd⟩
  ·have hlt':late mk (dS pl) t=false:=Bool.eq_false_iff.mpr hlt
   subst iK
   dsimp only[CY]
   refine cg λBq iK=>?_
   refine⟨_,rfl,x,C,dx,_,_,rfl,hx,T.cl.cl,T.nP,fP p d m _,_,rfl,p,pl,t,rfl,hp,ok,ht,λQe Ue H1 s1 aa4 xy T1=>⟨Qe,rfl,⟨_,aZ.of xy⟩,λkl Wc=>?_⟩⟩
   have Zt:aD id H1 Ue (GP pl t):=T1
   have X_:=Zt.len
   have Qd:=zN ok t
   rw[uT,List.length_map]at X_
   refine dQ (K:=K) (a:=Qe) (xs:=Ue) (λi ys H'=>av H1 H'/\H' kl=some (.lst ys)/\bN H' ys ((cy pl n t).take i)) ⟨av.new Wc,af,.nil⟩ (λi ys H' h=>h.2.1) (λi ys H' _ h=>h.1.seq (aZ.of xy)) ?_ ?_
   ·rintro i y ys H2 hi ⟨s2,hk2,K2⟩
    obtain⟨row,b,er,rfl,hb⟩:=Zt.get hi
    rw[uT,List.getElem?_map]at er
    obtain⟨q,eq,rfl⟩:=Option.map_eq_some_iff.mp er
    have KY:(cy pl n t).take (i+1)=(cy pl n t).take i++[⟨n,q.1,q.2⟩]:=by
     rw[List.take_add_one]
     have:(cy pl n t)[i]? = some ⟨n,q.1,q.2⟩:=by unfold cy;rw[List.getElem?_map,eq];rfl
     rw[this];rfl
    refine⟨cH rfl,?_⟩
    refine⟨_,rfl,(by show 1<=sizeLine;decide),λc hc=>?_⟩
    have s3:=av.new (o:=.tup [.str n]) hc
    refine⟨_,rfl,c,b,_,_,rfl,rfl,bJ.of af,bJ.of (s3 _ _ (s2 _ _ hb)),(by intro z;cases z),(by show 3<=sizeLine;decide),(λz=>nomatch z),λ_ r hr'=>?_⟩
    have s4:=s3.trans (av.new (o:=.tup ([.str n]++[.int q.1,.int q.2])) hr')
    have nrk:r≠kl:=λz=>by rw[z,s3 _ _ hk2]at hr';cases hr'
    refine⟨ys,s4 _ _ hk2,?_,?_⟩
    ·rw[K2.len,List.length_take]
     have:(cy pl n t).length<=100:=by unfold cy;rw[List.length_map];exact Qd
     have:=sizeLine_eq
     lia
    ·refine⟨λb o e=>?_,af,?_⟩
     ·rw[ai (au e Wc)]
      exact s4 _ _ (s2 _ _ e)
     ·rw[KY]
      refine bN.snoc (K2.keep λa row e=>?_) ?_
      ·rw[ai (aN e hk2 (by intro z;cases z))]
       exact s4 _ _ e
      ·rw[ai nrk,af];rfl
   ·rintro xk H2 ⟨s2,hk2,K2⟩
    have WG:(cy pl n t).length=Ue.length:=by unfold cy;rw[List.length_map];exact X_.symm
    rw[←WG,List.take_length]at K2
    have s12:=s1.trans s2
    subst iK
    dsimp only[dU]
    refine cg λBq iK=>?_
    refine⟨(by show 0<=sizeLine;decide),λml MZ=>?_⟩
    have s3:=s12.trans (av.new (o:=.lst []) MZ)
    have Ra:upd H2 ml (.lst []) kl=some (.lst xk):=(av.new MZ) _ _ hk2
    have K3:bN (upd H2 ml (.lst [])) xk (cy pl n t):=K2.keep λa row e=>(av.new MZ) _ _ e
    have VZ:upd H2 ml (.lst []) ml=some (.lst []):=af
    generalize upd H2 ml (.lst [])=H3 at *
    subst iK
    dsimp only[dU]
    refine⟨λσ' H'=>∃(GH Mf:Addr) (xk xm:List V) (ks mt:List Ky) (BG:List (List Key×V)) (xu:List Wn),σ'=[some (.ref x),some (.str n),some (.int t),some (.int a),some (.ref GH),some (.ref Mf),none,none,none]/\Kept H H' d/\H' GH=some (.lst xk)/\bN H' xk ks/\H' Mf=some (.lst xm)/\bN H' xm mt/\
     H' d=some (.dT BG)/\bS H' BG xu/\xu.length+200<1000000/\(xu.map Wn.k).Nodup/\Mid pl n t ws mt ks xu/\ks.length<=100/\mt.length<=ws.length,?_,?_⟩
    ·have Kw:=s3 _ _ hx
     have KO:=s3 _ _ hd
     have QE:bS H3 kvs ws:=hw.keep λa row e=>s3 _ _ e
     refine⟨_,rfl,x,C,dx,_,_,rfl,Kw,T.cl.cl,T.nP,fP p d m _,p,pl,rfl,s3.jo hp,rfl,_,rfl,?_⟩
     refine aW (λhk=>?_) (λhk=>?_)
     ·have hk':pl.kind=("pauses":Str):=V.str.inj (of_decide_eq_true hk)
      obtain⟨L,g,rfl⟩:∃L g,pl=.pauses L g:=by
       cases pl with
       |fixed l g=>exact absurd hk' (show¬("fixed":Str)="pauses" by decide +kernel)
       |sliding l s g=>exact absurd hk' (show¬("sliding":Str)="pauses" by decide +kernel)
       |pauses l g=>exact⟨l,g,rfl⟩
      rw[rH]at K3
      obtain⟨ka,rfl,hka⟩:∃ka,xk=[.ref ka]/\H3 ka=some (.tup (Ky.v ⟨n,t,t+L⟩)):=by
       cases K3 with
       |cons r t=>
        obtain⟨ka,rfl,hka⟩:=r
        cases t
        exact⟨ka,rfl,hka⟩
      refine⟨_,rfl,x,dx,_,rfl,Kw,BV p d m _ DK DK DK DK,_,rfl,kl,_,0,_,rfl,rfl,aZ.of Ra,rfl,x,dx,p,d,m,ka,Kr mk,⟨n,t,t+L⟩,kvs,ws,rfl,Kw,hka,KO,QE,⟨by lia,hfx⟩,λl1 zs Cw H4 s4 lI hl1 K4 pm pw=>?_⟩
      have XD:∀k∈Cw,k.n=n/\k∈ws.map Wn.k:=λk hk=>by
       obtain⟨w,hw,rfl⟩:=List.mem_map.mp (pm.mem_iff.mp hk)
       obtain⟨h1,h2⟩:=List.mem_filter.mp hw
       unfold meet at h2
       simp only[Bool.and_eq_true,decide_eq_true_eq]at h2
       exact⟨h2.1,List.mem_map.mpr ⟨w,h1,rfl⟩⟩
      have pml:Cw.length<=ws.length:=by
       rw[pm.length_eq,List.length_map]
       exact List.length_filter_le _ _
      have pnd:Cw.Nodup:=pm.nodup_iff.mpr (DA.nd.sublist ((List.filter_sublist).map _))
      have hk4:=s4 _ _ Ra
      refine⟨_,rfl,_,rfl,l1,kl,zs,[.ref ka],rfl,rfl,hl1,hk4,?_,λc hc=>?_⟩
      ·have:=K4.len
       have:=sizeLine_eq
       simp only[List.length_singleton]
       lia
      have s5:=av.new (o:=.lst (zs++[.ref ka])) hc
      have hc5:upd H4 c (.lst (zs++[.ref ka])) c=some (.lst (zs++[.ref ka])):=af
      have K5:bN (upd H4 c (.lst (zs++[.ref ka]))) (zs++[.ref ka]) (Cw++[⟨n,t,t+L⟩]):=(K4.keep λa row e=>s5 _ _ e).snoc (s5 _ _ (s4 _ _ hka))
      generalize upd H4 c (.lst (zs++[.ref ka]))=H5 at *
      have hall:∀k∈Cw++[(⟨n,t,t+L⟩:Ky)],k.n=n:=λk hk=>by
       rcases List.mem_append.mp hk with h|h
       ·exact(XD k h).1
       ·rw[List.mem_singleton.mp h]
      obtain⟨k0,Za⟩:∃k0,(Cw++[(⟨n,t,t+L⟩:Ky)])[0]? = some k0:=⟨(Cw++[(⟨n,t,t+L⟩:Ky)])[0]'(by simp),by simp⟩
      have WH:k0.n=n:=hall k0 (List.mem_of_getElem? Za)
      refine⟨c,_,_,k0,rfl,aZ.of hc5,K5,Za,(by simp;lia),λr sM eM H6 s6 hr0 hs1 hs2 Wj Tt QM=>⟨(by show 1<=sizeLine;decide),λq hq=>?_⟩⟩
      rw[WH]at QM
      have Xu:=(s4.trans s5).trans s6
      have s7:=av.new (o:=.lst [.ref r]) hq
      have Oe:=Xu.trans s7
      have YA:upd H6 q (.lst [.ref r]) q=some (.lst [.ref r]):=af
      have Yy:upd H6 q (.lst [.ref r]) r=some (.tup (Ky.v ⟨n,sM,eM⟩)):=s7 _ _ QM
      have YG:upd H6 q (.lst [.ref r]) l1=some (.lst zs):=s7 _ _ (s6 _ _ (s5 _ _ hl1))
      have K7:bN (upd H6 q (.lst [.ref r])) zs Cw:=K4.keep λa row e=>s7 _ _ (s6 _ _ (s5 _ _ e))
      have VP:q≠d:=λz=>by rw[z,Xu _ _ KO]at hq;cases hq
      have rD:l1≠d:=λz=>by rw[z,KO]at lI;cases lI
      generalize upd H6 q (.lst [.ref r])=H7 at *
      refine⟨_,rfl,x,dx,_,rfl,Oe _ _ Kw,BV p d m _ DK DK DK DK,_,rfl,_,rfl,q,[.ref r],0,_,rfl,rfl,aZ.of YA,rfl,x,dx,p,d,m,l1,r,Kr mk,⟨n,sM,eM⟩,zs,Cw,kvs,ws,rfl,Oe _ _ Kw,Yy,YG,K7,Oe _ _ KO,QE.keep (λa row e=>Oe _ _ e),by lia,pnd,λk hk=>(XD k hk).2,λH8 Vw SX hd8 hw8=>?_⟩
      have Xk:=SX.tups (Oe _ _ KO)
      have lM:=nj (g:=⟨n,sM,eM⟩) (ks:=Cw) (ws:=ws)
      refine⟨q,l1,[.ref r],zs,[⟨n,sM,eM⟩],Cw,Vw,cT ws Cw ⟨n,sM,eM⟩,rfl,(av.kept (s3.trans Oe)).trans SX,SX _ _ YA VP,.cons ⟨r,rfl,Xk _ _ Yy⟩ .nil,SX _ _ YG rD,K7.keep Xk,hd8,hw8,by lia,jw DA.nd,.inr ⟨rfl,pm,pw,sM,eM,?_,hs2 ⟨n,t,t+L⟩ (by simp),λk hk=>hs2 k (by simp[hk]),?_,Tt ⟨n,t,t+L⟩ (by simp),λk hk=>Tt k (by simp[hk]),rfl,rfl⟩,(by simp),pml⟩
      ·obtain⟨k,hk,e⟩:=hs1
       rcases List.mem_append.mp hk with h|h
       ·exact .inr ⟨k,h,e⟩
       ·rw[List.mem_singleton.mp h]at e
        exact .inl e.symm
      ·obtain⟨k,hk,e⟩:=Wj
       rcases List.mem_append.mp hk with h|h
       ·exact .inr ⟨k,h,e⟩
       ·rw[List.mem_singleton.mp h]at e
        exact .inl e.symm
     ·have hk':qF pl=false:=by
       cases pl with
       |fixed l g=>rfl
       |sliding l s g=>rfl
       |pauses l g=>exact absurd (decide_eq_true rfl) hk
      refine⟨kl,ml,xk,[],cy pl n t,[],kvs,ws,rfl,av.kept s3,Ra,K3,VZ,.nil,KO,QE,by lia,DA.nd,.inl ⟨hk',rfl,rfl,rfl⟩,?_,Nat.zero_le _⟩
      unfold cy
      rw[List.length_map]
      exact Qd
    ·rintro σ' H4 ⟨GH,Mf,Ug,xm,ks,mt,BG,xu,rfl,Oi,Iz,K4,QX,M4,Rq,hw4,aaV,nd4,mid,lks,lmt⟩
     have Yw:=Oi _ _ hx Af
     have XR:GH≠d:=aN Iz Rq (by intro z;cases z)
     have U_:Mf≠d:=aN QX Rq (by intro z;cases z)
     refine cg λBq iK=>?_
     refine⟨_,rfl,GH,rfl,⟨_,aZ.of Iz⟩,?_⟩
     refine fm (K:=K) (a:=GH) (xs:=Ug) (λi σ H'=>∃(v:Option V) (yu:List (List Key×V)),σ=[some (.ref x),some (.str n),some (.int t),some (.int a),some (.ref GH),some (.ref Mf),v,none,none]/\Kept H4 H' d/\H' d=some (.dT yu)/\bS H' yu (bU a xu (ks.take i)))
      ⟨none,BG,rfl,Kept.refl _ _,Rq,hw4⟩ (λi σ H' _ ⟨_,_,_,kp,_⟩=>aZ.of (kp _ _ Iz XR)) ?_ ?_
     ·rintro i y σ H5 hi ⟨v,yu,rfl,GG,Rp,Om⟩
      obtain⟨kk,b,ek,rfl,hb⟩:=K4.get hi
      have Ol:=GG _ _ Yw Af
      refine⟨_,rfl,x,dx,_,rfl,Ol,BV p d m _ DK DK DK DK,_,rfl,_,rfl,(by show 2<=sizeLine;decide),λq hq=>?_⟩
      have s6:=av.new (o:=.tup [.int 1,.int a]) hq
      have hl5:=kY (a:=a) (ks:=ks.take i) (ws:=xu)
      refine⟨x,dx,p,d,m,b,q,Kr mk,kk.n,kk.s,kk.e,1,a,yu,_,rfl,s6 _ _ Ol,s6 _ _ (GG.tups Rq _ _ hb),af,s6 _ _ Rp,Om.keep (λa row e=>s6 _ _ e),?_,λH6 Qo kp6 Wk VI=>?_⟩
      ·rw[Om.len]
       have:=List.length_take_le' i ks
       have:=sizeLine_eq
       lia
      ·refine⟨_,Qo,rfl,(GG.trans (av.kept s6)).trans kp6,Wk,?_⟩
       rw[List.take_add_one,ek]
       show bS H6 Qo (bU a xu (ks.take i++[kk]))
       rw[wX]
       exact VI
     ·rintro σ H5 ⟨v,yu,rfl,GG,Rp,Om⟩
      rw[K4.len,List.take_length]at Om
      have Ol:=GG _ _ Yw Af
      have Xl:=GG.tups Rq
      have QZ:=GG _ _ Iz XR
      have QW:=GG _ _ QX U_
      have K5:=K4.keep Xl
      have M5:=M4.keep Xl
      subst iK
      try dsimp only[dU]
      refine cg λBq iK=>?_
      refine⟨_,rfl,Mf,rfl,⟨_,aZ.of QW⟩,λgl YJ=>?_⟩
      refine dQ (K:=K) (a:=Mf) (xs:=xm) (λi ys H'=>av H5 H'/\H' gl=some (.lst ys)/\aD ji.v H' ys (gw mk (mt.take i) ks)) ⟨av.new YJ,af,.nil⟩ (λi ys H' h=>h.2.1) (λi ys H' _ h=>h.1.seq (aZ.of QW)) ?_ ?_
      ·rintro i y ys H6 hi ⟨s6,M_,G6⟩
       obtain⟨kk,b,ek,rfl,hb⟩:=M5.get hi
       refine⟨cH rfl,?_⟩
       refine⟨_,rfl,_,rfl,GH,Ug,kk.d,ks.map Ky.d,rfl,s6.seq (aZ.of QZ),EW (s6 _ _ hb),(K5.keep λa row e=>s6 _ _ e).NH,?_,λbq Wo=>⟨_,rfl,?_⟩⟩
       ·intro e he
        obtain⟨k',_,rfl⟩:=List.mem_map.mp he
        exact⟨rfl,Nat.le_of_ble_eq_true rfl⟩
       have KY:∀zs,gw mk (mt.take i) ks=zs->gw mk (mt.take (i+1)) ks=zs++gw mk [kk] ks:=λzs hz=>by
        rw[←hz,List.take_add_one,ek]
        exact BQ ..
       have hin:bq=true↔kk∈ks:=by
        rw[Wo]
        constructor
        ·intro h
         obtain⟨k',h1,h2⟩:=List.mem_map.mp h
         rw[←Ao h2]
         exact h1
        ·exact λh=>List.mem_map.mpr ⟨kk,h,rfl⟩
       refine aW (λh1=>?_) (λh1=>?_)
       ·have VV:kk∉ks:=λz=>by
         rw[hin.mpr z]at h1
         cases h1
        refine⟨_,rfl,x,dx,_,rfl,s6 _ _ Ol,BV p d m _ DK DK DK DK,_,rfl,b,_,2,_,rfl,rfl,bJ.of (s6 _ _ hb),rfl,x,dx,p,d,m,mk,kk.e,rfl,s6 _ _ Ol,_,rfl,?_⟩
        refine aW (λh2=>?_) (λh2=>?_)
        ·refine⟨(by show 1<=sizeLine;decide),λc hc=>?_⟩
         have s7:=av.new (o:=.tup [.str "gone"]) hc
         refine⟨_,rfl,c,b,_,_,rfl,rfl,bJ.of af,bJ.of (s7 _ _ (s6 _ _ hb)),(by intro z;cases z),(by show 4<=sizeLine;decide),(λz=>nomatch z),λ_ r hr'=>?_⟩
         have s8:=s7.trans (av.new (o:=.tup ([.str "gone"]++kk.v)) hr')
         have Py:r≠gl:=λz=>by rw[z,s7 _ _ M_]at hr';cases hr'
         refine⟨ys,s8 _ _ M_,?_,λb o e=>?_,af,?_⟩
         ·rw[G6.len]
          have:=sU mk (mt.take i) ks
          have:=List.length_take_le' i mt
          have:=sizeLine_eq
          lia
         ·rw[ai (au e YJ)]
          exact s8 _ _ (s6 _ _ e)
         ·rw[KY _ rfl,wF VV h2]
          refine aD.snoc (G6.keep λa row e=>?_) ?_
          ·rw[ai (aN e M_ (by intro z;cases z))]
           exact s8 _ _ e
          ·rw[ai Py,af];rfl
        ·refine⟨ys,s6,M_,?_⟩
         rw[KY _ rfl,oY (λz=>h2 z.2),List.append_nil]
         exact G6
       ·have hiq:kk∈ks:=by
         refine hin.mp ?_
         cases bq with
         |true=>rfl
         |false=>exact absurd rfl h1
        refine⟨ys,s6,M_,?_⟩
        rw[KY _ rfl,oY (λz=>z.1 hiq),List.append_nil]
        exact G6
      ·rintro yg H6 ⟨s6,M_,G6⟩
       rw[M5.len,List.take_length]at G6
       have VH:=s6 _ _ Ol
       have K6:=K5.keep λa row e=>s6 _ _ e
       have QY:=s6 _ _ QZ
       have Wk:=s6 _ _ Rp
       have VI:bS H6 yu (bU a xu ks):=Om.keep λa row e=>s6 _ _ e
       subst iK
       try dsimp only[dU]
       refine cg λBq iK=>?_
       refine⟨_,rfl,GH,rfl,⟨_,aZ.of QY⟩,λtl BN=>?_⟩
       refine dQ (K:=K) (a:=GH) (xs:=Ug) (λi ys H'=>av H6 H'/\H' tl=some (.lst ys)/\aD ji.v H' ys (gp mk (bU a xu ks) (ks.take i))) ⟨av.new BN,af,.nil⟩ (λi ys H' h=>h.2.1) (λi ys H' _ h=>h.1.seq (aZ.of QY)) ?_ ?_
       ·rintro i y ys H7 hi ⟨s7,Oo,G7⟩
        obtain⟨kk,b,ek,rfl,hb⟩:=K6.get hi
        have KY:gp mk (bU a xu ks) (ks.take (i+1))=gp mk (bU a xu ks) (ks.take i)++gp mk (bU a xu ks) [kk]:=by
         rw[List.take_add_one,ek]
         exact AR ..
        refine⟨cH rfl,?_⟩
        refine⟨_,rfl,x,dx,_,rfl,s7 _ _ VH,BV p d m _ DK DK DK DK,_,rfl,b,_,2,_,rfl,rfl,bJ.of (s7 _ _ hb),rfl,x,dx,p,d,m,mk,kk.e,rfl,s7 _ _ VH,_,rfl,?_⟩
        refine aW (λh2=>?_) (λh2=>?_)
        ·refine⟨(by show 1<=sizeLine;decide),λc hc=>?_⟩
         have s8:=av.new (o:=.tup [.str "told"]) hc
         refine⟨_,rfl,c,b,_,_,rfl,rfl,bJ.of af,bJ.of (s8 _ _ (s7 _ _ hb)),(by intro z;cases z),(by show 4<=sizeLine;decide),(λz=>nomatch z),λ_ r hr'=>?_⟩
         have s9:=(av.new (o:=.tup [.str "told"]) hc).trans (av.new (o:=.tup ([.str "told"]++kk.v)) hr')
         have VO:upd (upd H7 c (.tup [.str "told"])) r (.tup ([.str "told"]++kk.v)) r=some (.tup ([.str "told"]++kk.v)):=af
         generalize upd (upd H7 c (.tup [.str "told"])) r (.tup ([.str "told"]++kk.v))=H9 at *
         have SG:=s7.trans s9
         have hmem:kk∈(bU a xu ks).map Wn.k:=qX (.inl (List.mem_of_getElem? ek))
         rcases VI.get kk.l with⟨_,h4⟩|⟨vv,ww,h3,h4,h5,va,rfl,h6⟩
         ·obtain⟨w,hw,ew⟩:=List.mem_map.mp hmem
          have:=List.find?_eq_none.mp h4 w hw
          exact absurd (decide_eq_true (show w.ky=kk.l by rw[Wn.BF,ew])) this
         refine⟨_,rfl,x,C,dx,_,_,rfl,SG _ _ VH,T.cl.cl,T.nW,fW p d m _,_,rfl,d,.ref va,rfl,?_,?_⟩
         ·rw[←h3]
          exact uP.t (k:=kk.l) (SG _ _ Wk) (SG _ _ hb)
         refine⟨r,va,_,_,rfl,rfl,bJ.of VO,bJ.of (SG _ _ h6),(by intro z;cases z),(by show 6<=sizeLine;decide),(λz=>nomatch z),λ_ r2 hr2=>?_⟩
         have xU:=s9.trans (av.new (o:=.tup (([.str "told"]++kk.v)++[.int ww.c,.int ww.t])) hr2)
         have Py:r2≠tl:=λz=>by rw[z,s9 _ _ Oo]at hr2;cases hr2
         refine⟨ys,xU _ _ Oo,?_,λb o e=>?_,af,?_⟩
         ·rw[G7.len]
          have:=rV mk (bU a xu ks) (ks.take i)
          have:=List.length_take_le' i ks
          have:=sizeLine_eq
          lia
         ·rw[ai (au e BN)]
          exact xU _ _ (s7 _ _ e)
         ·rw[KY,uZ h2 h4]
          refine aD.snoc (G7.keep λa row e=>?_) ?_
          ·rw[ai (aN e Oo (by intro z;cases z))]
           exact xU _ _ e
          ·rw[ai Py,af]
           have:kk=ww.k:=(gS (a:=ww.k) (b:=kk) h5).symm
           rw[this]
           rfl
        ·refine⟨ys,s7,Oo,?_⟩
         rw[KY,u_ h2,List.append_nil]
         exact G7
       ·rintro yt H7 ⟨s7,ht7,G7⟩
        subst iK
        try dsimp only[dU]
        rw[K6.len,List.take_length]at G7
        have Oo:=s7 _ _ M_
        have lg:=sU mk mt ks
        have lt:=rV mk (bU a xu ks) ks
        have UD:=s6.trans s7
        refine⟨_,rfl,_,rfl,gl,tl,yg,yt,rfl,rfl,Oo,ht7,?_,λl hl=>?_⟩
        ·rw[G6.len,G7.len]
         have:=sizeLine_eq
         lia
        have s8:=av.new (o:=.lst (yg++yt)) hl
        have UC:=UD.trans s8
        have kp:Kept H (upd H7 l (.lst (yg++yt))) d:=(Oi.trans GG).trans (av.kept UC)
        have ZJ:=kp.tups hd
        have Vb:l≠d:=λz=>by rw[z,UD _ _ Rp]at hl;cases hl
        refine kN hlt' l _ _ mt ks _ mid.rel kp ((Oi.trans GG).free Vb (UD.free hl)) af (((G6.keep λa row e=>s8 _ _ (s7 _ _ e))).app (G7.keep λa row e=>s8 _ _ e)) ⟨⟨dx,kp _ _ hx Af⟩,kp.jo hd (λr z=>nomatch z) (λo u z=>nomatch z) hp,⟨yu,UC _ _ Rp,Om.keep λa row e=>UC _ _ e⟩,⟨mx,kp _ _ hm XQ,Iw.keep ZJ⟩,i_ nd4⟩
end
def stale(mk:Option Int)(t:Int):Bool:=match mk with
 |none=>false
 |some m=>decide (t<=m)
def fresh(mk:Option Int)(t:Int)(w:Wn):Bool:=decide (w.e<=t) && !closed mk w.e
def Wn.ed(w:Wn):Dv:=.tup [.int w.e,.int w.s,.str w.n]
def ZS:Sh:=.tup [.int,.int,.str]
def oF(w:Wn):List V:=[.str "told",.str w.n,.int w.s,.int w.e,.int w.c,.int w.t]
def Mq(s:Stmt):Pos:=match(aF s).getLast? with
 |some (.Return (some (.Call _ _ [⟨_,.Lambda _ _ _ p,_⟩] _)) _)=>p
 |_=>⟨0,0,0,0⟩
abbrev lp:Pos:=Mq aY
abbrev lq:Str:=(envOfC "Desk.take_mark" (ao aY) 0 0 .none).qual++"<lambda>"
inductive zG(K:Fg7)(mg:Str->Option Value)(C:Addr)(Pt:Addr)(vs:List V)(H:Hp)(Q:VK):Prop
 |mk(x p d m:Addr)(pl:Pl)(mk:Option Int)(ws:List Wn)(ms:List (Str×Int×Int))(t:Int):(vs=[.ref x,.int t])->(fY K C H x p d m pl mk ws ms)->((ws.length+200<1000000/\ws.length<TS.MX))->(bK H Pt lp lq)->(dj K mg H)->((stale mk t=true->∀(l:Addr)(H':Hp),av H H'->H l=none->H' l=some (.lst [])->Q (.ref l) H'))->((stale mk t=false->∀(l:Addr)(zs:List V)(rs:List Wn)(H':Hp),rs.Perm (ws.filter (fresh mk t))->(rs.map Wn.ed).Pairwise (λd e=>aV d e≠.gt)->(∀b o,H b=some o->b≠x->b≠Pt->H' b=some o)->H l=none->H' l=some (.lst zs)->aD oF H' zs rs->fY K C H' x p d m pl (some t) ws ms->bK H' Pt lp lq->Q (.ref l) H'))->zG K mg C Pt vs H Q
def Dq(K:Fg7)(mg:Str->Option Value)(C Pt:Addr):Sp:=λvs H Q d_=>zG K mg C Pt vs H Q
theorem Dg{K:Fg7}{C x dx p d m:Addr}{mk:Option Int}{t:Int}{H:Hp}{σ:L2.St}(T:eK K C)(hx:H x=some (.ins C dx (eV p (Kr mk) d m)))(e0:σ[0]? = some (some (.ref x)))(e1:σ[1]? = some (some (.int t))){G:Bool->Hp->Prop}(h:G (stale mk t) H):
  OU (zj (Ob (λx y H Q=>y=V.dR/\Q (V.bl !decide (x=V.dR)) H) (GZ K (CP 0) "mark") (tC V.dR))) (zj (Ob Xf (CP 1) (GZ K (CP 0) "mark"))) σ H G:=by
 refine⟨_,e0,x,C,dx,_,_,rfl,hx,T.cl.cl,T.nM,fM p d m _,rfl,_,rfl,?_⟩
 cases mk with
 |none=>exact E_ h
 |some mm=>exact MO ⟨_,e1,_,e0,x,C,dx,_,_,rfl,hx,T.cl.cl,T.nM,fM p d m _,_,_,rfl,rfl,_,rfl,h⟩
theorem jm{K:Fg7}{H H':Hp}{p:Addr}{row:List V}(k1:∀a row,H a=some (.tup row)->H' a=some (.tup row))(k2:∀a o u,H a=some (.eF o u)->H' a=some (.eF o u))(h:bJ K H p row):bJ K H' p row:=by
 rcases h with(h|⟨o,h⟩)|h
 ·exact .inl (.inl (k1 _ _ h))
 ·exact .inl (.inr ⟨o,k2 _ _ _ h⟩)
 ·exact .inr h
theorem bg{H H':Hp}{Pt:Addr}{q:Pos}{z:Str}(h:bK H Pt q z)(k1:∀ps,H Pt=some (.pA ps)->H' Pt=some (.pA ps))(k2:∀a o u,H a=some (.eF o u)->H' a=some (.eF o u)):bK H' Pt q z:=by
 rcases h with h|⟨c',oc,vs,t,h1,h2,h3⟩
 ·exact .inl (k1 _ h)
 ·exact .inr ⟨c',oc,vs,t,k1 _ h1,k2 _ _ _ h2,h3⟩
theorem bM{K:Fg7}{mg:Str->Option Value}{H H':Hp}(h:dj K mg H)(k2:∀a o u,H a=some (.eF o u)->H' a=some (.eF o u)):dj K mg H':=by
 obtain⟨bm,ob,b1,b2,b3,b4⟩:=h
 exact⟨bm,ob,b1,b2,b3.elim .inl λz=>.inr (k2 _ _ _ z),b4⟩
theorem eU{H:Hp}{Pt:Addr}{q:Pos}{z:Str}(h:bK H Pt q z):∃ps,H Pt=some (.pA ps):=by
 rcases h with h|⟨c',oc,vs,t,h1,h2,h3⟩
 ·exact⟨_,h⟩
 ·exact⟨_,h1⟩
theorem AS{H:Hp}{ys:List V}{ws:List Wn}{ps:List (V×Dv)}(h:aD oF H ys ws)(p:ps.Perm (ys.zip (ws.map Wn.ed))):∃rs,rs.Perm ws/\aD oF H (ps.map (·.1)) rs/\ps.map (·.2)=rs.map Wn.ed:=by
 have h1:Paired (λ(q:V×Dv) w=>q.2=w.ed/\∃a,q.1=.ref a/\H a=some (.tup (oF w))) (ys.zip (ws.map Wn.ed)) ws:=by
  clear p
  induction h with
  |nil=>exact .nil
  |cons r t ih=>exact .cons ⟨rfl,r⟩ ih
 obtain⟨rs,p1,p2⟩:=oR p.symm h1
 refine⟨rs,p1,?_,?_⟩
 ·clear p h1 p1
  induction p2 with
  |nil=>exact .nil
  |cons r t ih=>exact .cons r.2 ih
 ·clear p h1 p1
  induction p2 with
  |nil=>rfl
  |cons r t ih=>rw[List.map_cons,List.map_cons,ih,r.1]
section
variable {P:Program} {w:World} {K:Fg7} {mg:Str->Option Value} {C Pt:Addr}
theorem Nr(D:gC K C "take_mark" "Desk.take_mark" aY Pt)(M:MG K mg)(B:Bi K)(T:eK K C)(cQ:cW P w K mg jg C "is_closed" ["self","end"] 1 (lP C)):cW P w K mg jg C "take_mark" ["self","time"] 4 (Dq K mg C Pt):=by
 refine D.fn g_ mP (λvs H Q E h=>?_) (λf c base A outer s H vs Q E hcd hr h=>?_)
 ·obtain⟨x,p,d,m,pl,mk,ws,ms,t,rfl,_⟩:=h
  rfl
 ·obtain⟨x,p,d,m,pl,mk,ws,ms,t,rfl,DA,⟨hwl,hfx⟩,hT,hB,kS,kN⟩:=h
  have bO:=T.cl
  have hu1:=wC hr
  have hu:(A.deeper (envOfC "Desk.take_mark" (ao aY) s.heap.objs.size f (.ref c))).units+64<cLine:=hr.units
  have VJ:(A.deeper (envOfC "Desk.take_mark" (ao aY) s.heap.objs.size f (.ref c))).units+70<cLine:=by have:=hr.un;lia
  refine⟨_,(aq (b_ (PW.pt (jq (aP uo (dN (pv 0) rfl) nh (aR _)) (iU (aP oLe (pv 1) (dN (pv 0) rfl) (aR _))))) (aA (aL (bZ aj))) aT)
   (aq (HG (lS (k:=2) (NY:=["key","tally","time","self"]) (js:=[none,none,some 1,some 0]) rfl g_.nd rfl rfl rfl (by with_unfolding_all rfl) (by repeat first|exact cI.nil|refine cI.cons rfl ?_) (.own (.own (.out rfl rfl (.inl rfl) (.out rfl rfl (.inl rfl) .nil)))) (sN (Ep PySem.F.plainAttrs_dict PySem.F.slot_dict_items PySem.F.type_dict_items vV (dN (pv 0) rfl))) (λ_ _ _ _ _=>⟨(z_ (n:=2) (K:=K) rfl rfl (lV (aQ (i:=0) (show(["key","tally","time","self"]:List Str).Nodup from by decide +kernel) rfl (Or.inl rfl)) (lV (aQ (i:=1) (show(["key","tally","time","self"]:List Str).Nodup from by decide +kernel) rfl (Or.inl rfl)) zZ))),(iV (PW.pt (jq (aP oLe (aI (bh (K:=K) rfl) (pv 0) ah (λ_ _=>rfl)) (pv 2) (aR _)) (iU (iw (dM (di (pv 3) bO.cl cQ gh (hr.mono (by decide)) (pc (aI (bh (K:=K) rfl) (pv 0) ah (λ_ _=>rfl)) aj)))))))),(aC (gP (K:=K) rfl) (aC (gP (K:=K) rfl) (cF (pc dh aj)) (pv 0)) (pv 1))⟩)))
   (aq (qo (pv 0) (pv 1) rfl)
   (aA (aL (ug VJ (hr.mono (by decide)) rfl (M.no _ B.iM) (pv 2) (by with_unfolding_all rfl) (by rfl) (by rfl) hcd (by rfl) (by intros;rfl) (by exact⟨rfl,rfl,rfl,DK,rfl,DK,DK⟩) (λ_ _ _ _ _ _=>(cF (pc (aI (bh (K:=K) rfl) (pv 0) ah (λ_ _=>rfl)) (pc (aI (bh (K:=K) rfl) (pv 0) ah (λ_ _=>rfl)) (pc (aI (bh (K:=K) rfl) (pv 0) ah (λ_ _=>rfl)) aj))))))))))),?_⟩
  obtain⟨dx,hx⟩:=DA.ob
  obtain⟨kvs,hd,hw⟩:=DA.wd
  obtain⟨mx,hm,Iw⟩:=DA.ml
  have hp:=DA.pl
  refine Dg T hx rfl rfl ?_
  refine aW (λhs=>?_) (λhs=>?_)
  ·exact⟨(by show 0<=sizeLine;decide),λl hl=>kS hs l _ (av.new hl) hl af⟩
  ·have hs':stale mk t=false:=Bool.eq_false_iff.mpr hs
   refine⟨d,.dT kvs,hd,True.intro,_,rfl,x,C,dx,_,_,rfl,hx,T.cl.cl,T.nW,fW p d m _,.inr (.inr (.inl ⟨rfl,.inr ⟨kvs,hd⟩⟩)),d,kvs,rfl,rfl,hd,λv hv=>⟨v,d,kvs,rfl,af,(by rw[ai (au hd hv)];exact hd),λo=>?_⟩⟩
   intro l hl
   have ndv:d≠v:=au hd hv
   have xw:d≠l:=au af hl
   have lI:H l=none:=by
    rw[ai xw.symm]at hl
    exact(av.new hv).free hl
   have hlen:=hw.len
   have Af:x≠d:=aN hx hd (by intro z;cases z)
   refine qc (n:=kvs.length) (λi ys H'=>(∀c z,H c=some z->c≠d->H' c=some z)/\H' d=some (.eF o (.dT kvs))/\H' l=some (.lst ys)/\aD oF H' ys ((ws.take i).filter (fresh mk t))) ⟨λc z e n=>?_,?_,af,.nil⟩ ?_ ?_ ?_ ?_ ?_
   ·rw[ai (au e lI),ai n,ai (au e hv)]
    exact e
   ·rw[ai xw,af]
   ·rintro i ys H' ⟨_,_,h,_⟩
    exact h
   ·rintro i ys H' hi ⟨_,h,_⟩
    exact⟨kvs,h,hi⟩
   ·rintro ys H' ⟨_,h,_⟩
    exact⟨kvs,h,Nat.le_refl _⟩
   ·rintro i y ys H1 H2 hi ⟨kp,hfd,rD,hk⟩ yl
    obtain⟨kk,v2,b,tq,ek,rfl,ht,hb,rfl⟩:=yl kvs hfd
    obtain⟨w,ew,rfl,a0,rfl,ha0⟩:=hw.at ek
    have st:=av.new (o:=.tup [.ref b,.ref a0]) ht
    have htk:(ws.take (i+1)).filter (fresh mk t)=(ws.take i).filter (fresh mk t)++[w].filter (fresh mk t):=by rw[List.take_add_one,ew,←List.filter_append];rfl
    have ha1:H1 a0=some (.tup [.int w.c,.int w.t]):=kp _ _ ha0 (aN ha0 hd (by intro z;cases z))
    have QC:=kp _ _ hx Af
    refine⟨tq,[.ref b,.ref a0],rfl,bJ.of af,rfl,_,_,rfl,_,_,rfl,rfl,⟨rfl,λi v e=>?_⟩,?_⟩
    ·rcases i with _|_|_|_|i<;>simp[dw]at e ⊢ <;>first|exact e|skip
    refine⟨_,rfl,b,_,2,_,rfl,rfl,bJ.of (st _ _ hb),rfl,_,rfl,_,_,rfl,rfl,_,rfl,?_⟩
    refine aW (λh1=>?_) (λh1=>?_)
    ·have KR:w.e<=t:=of_decide_eq_true h1
     refine⟨_,rfl,x,dx,_,rfl,st _ _ QC,BV p d m _ DK DK DK DK,_,rfl,b,_,2,_,rfl,rfl,bJ.of (st _ _ hb),rfl,x,dx,p,d,m,mk,w.e,rfl,st _ _ QC,_,rfl,?_⟩
     refine aW (λh2=>?_) (λh2=>?_)
     ·have hf:[w].filter (fresh mk t)=[w]:=by
       have:fresh mk t w=true:=by unfold fresh;rw[h2,decide_eq_true KR];rfl
       simp[this]
      refine⟨(by show 1<=sizeLine;decide),λc hc=>?_⟩
      have s8:=st.trans (av.new (o:=.tup [.str "told"]) hc)
      refine⟨_,rfl,c,b,_,_,rfl,rfl,bJ.of af,bJ.of (s8 _ _ hb),(by intro z;cases z),(by show 4<=sizeLine;decide),(λz=>nomatch z),λ_ r hr'=>?_⟩
      have s9:=s8.trans (av.new (o:=.tup ([.str "told"]++w.ky.map kV)) hr')
      have VO:upd (upd (upd H1 tq (.tup [.ref b,.ref a0])) c (.tup [.str "told"])) r (.tup ([.str "told"]++w.ky.map kV)) r=some (.tup ([.str "told"]++w.ky.map kV)):=af
      generalize upd (upd (upd H1 tq (.tup [.ref b,.ref a0])) c (.tup [.str "told"])) r (.tup ([.str "told"]++w.ky.map kV))=H9 at *
      refine⟨_,rfl,r,a0,_,_,rfl,rfl,bJ.of VO,bJ.of (s9 _ _ ha1),(by intro z;cases z),(by show 6<=sizeLine;decide),(λz=>nomatch z),λ_ r2 hr2=>?_⟩
      have xU:=s9.trans (av.new (o:=.tup (([.str "told"]++w.ky.map kV)++[.int w.c,.int w.t])) hr2)
      have Py:r2≠l:=λz=>by rw[z,s9 _ _ rD]at hr2;cases hr2
      refine⟨ys,xU _ _ rD,?_,λc z e n=>?_,?_,af,?_⟩
      ·rw[hk.len]
       have:=List.length_filter_le (fresh mk t) (ws.take i)
       have:=List.length_take_le' i ws
       have:=sizeLine_eq
       lia
      ·rw[ai (au e lI)]
       exact xU _ _ (kp c z e n)
      ·rw[ai xw];exact xU _ _ hfd
      ·rw[htk,hf]
       refine aD.snoc (hk.keep λa row e=>?_) ?_
       ·rw[ai (aN e rD (by intro z;cases z))]
        exact xU _ _ e
       ·rw[ai Py,af];rfl
     ·have hf:[w].filter (fresh mk t)=[]:=by
       have:¬fresh mk t w=true:=λz=>by unfold fresh at z;exact h2 ((Bool.and_eq_true _ _).mp z).2
       simp[this]
      refine⟨ys,λc z e n=>st _ _ (kp c z e n),st _ _ hfd,st _ _ rD,?_⟩
      rw[htk,hf,List.append_nil]
      exact hk.keep λa row e=>st _ _ e
    ·have hf:[w].filter (fresh mk t)=[]:=by
      have:¬fresh mk t w=true:=λz=>by unfold fresh at z;exact h1 ((Bool.and_eq_true _ _).mp z).1
      simp[this]
     refine⟨ys,λc z e n=>st _ _ (kp c z e n),st _ _ hfd,st _ _ rD,?_⟩
     rw[htk,hf,List.append_nil]
     exact hk.keep λa row e=>st _ _ e
   ·rintro ys H1 ⟨kp,hfd,rD,hk⟩
    rw[hlen,List.take_length]at hk
    have QC:=kp _ _ hx Af
    have nxl:x≠l:=au hx lI
    obtain⟨UQ,Fy⟩:=eU hT
    have Vg:Pt≠x:=aN Fy hx (by intro z;cases z)
    have nPd:Pt≠d:=aN Fy hd (by intro z;cases z)
    refine⟨o,hfd,?_⟩
    refine⟨_,rfl,_,rfl,x,C,dx,_,rfl,(by rw[ai Af];exact QC),T.cl.cl,T.nM,(by show 4<1000;decide),?_⟩
    rw[UP]
    have k2:∀b z,H b=some z->b≠x->upd (upd H1 d (.dT kvs)) x (.ins C dx (eV p (.int t) d m)) b=some z:=λb z e n=>by
     rw[ai n]
     by_cases hbd:b=d
     ·subst hbd;rw[af];rw[hd]at e;exact e
     ·rw[ai hbd];exact kp b z e hbd
    have Av:upd (upd H1 d (.dT kvs)) x (.ins C dx (eV p (.int t) d m)) x=some (.ins C dx (eV p (.int t) d m)):=af
    have hl2:upd (upd H1 d (.dT kvs)) x (.ins C dx (eV p (.int t) d m)) l=some (.lst ys):=by rw[ai nxl.symm,ai xw.symm];exact rD
    have hk2:aD oF (upd (upd H1 d (.dT kvs)) x (.ins C dx (eV p (.int t) d m))) ys (ws.filter (fresh mk t)):=hk.keep λa row e=>by
     rw[ai (aN e QC (by intro z;cases z)),ai (aN e hfd (by intro z;cases z))];exact e
    have RC:∀{b},upd (upd H1 d (.dT kvs)) x (.ins C dx (eV p (.int t) d m)) b=none->H b=none:=λ{b} e=>by
     cases q:H b with
     |none=>rfl
     |some z=>
      by_cases YN:b=x
      ·rw[YN,af]at e;cases e
      ·rw[k2 b z q YN]at e;cases e
    generalize upd (upd H1 d (.dT kvs)) x (.ins C dx (eV p (.int t) d m))=H2 at *
    have Lj:∀a row,H a=some (.tup row)->H2 a=some (.tup row):=λa row e=>k2 a _ e (aN e hx (by intro z;cases z))
    have WA:∀a o u,H a=some (.eF o u)->H2 a=some (.eF o u):=λa o u e=>k2 a _ e (aN e hx (by intro z;cases z))
    have Nj:=k2 _ _ Fy Vg
    have hlk:=hk2.len
    refine⟨_,rfl,l,ys,(ws.filter (fresh mk t)).map Wn.ed,ZS,rfl,aZ.of hl2,bg hT (λps e=>k2 _ _ e Vg) WA,bM hB WA,?_,(by rw[List.length_map,hlk]),?_,rfl,(by decide),?_,?_⟩
    ·rw[hlk]
     have:=List.length_filter_le (fresh mk t) ws
     exact⟨by lia,by lia⟩
    ·intro e he
     obtain⟨q,_,rfl⟩:=List.mem_map.mp he
     rfl
    ·intro i y dd H3 hy Ax k3
     obtain⟨w,a,ew,rfl,ha⟩:=hk2.get hy
     rw[List.getElem?_map,ew]at Ax
     cases Ax
     have Rv:H3 a=some (.tup (oF w)):=k3 _ _ ha (aN ha Nj (by intro z;cases z))
     exact⟨_,rfl,a,_,3,_,rfl,rfl,bJ.of Rv,rfl,_,rfl,a,_,2,_,rfl,rfl,bJ.of Rv,rfl,_,rfl,a,_,1,_,rfl,rfl,bJ.of Rv,rfl,(by show 3<=sizeLine;decide),λq hq=>⟨av.new hq,.tup (bJ.of af) (.cons (.int _) (.cons (.int _) (.cons (.str _) .nil)))⟩⟩
    ·intro L ps H3 k3 Qa hL hL3 pm pw
     obtain⟨rs,a1,a2,a3⟩:=AS hk2 pm
     have Oa:∀a row,H2 a=some (.tup row)->H3 a=some (.tup row):=λa row e=>k3 a _ e (aN e Nj (by intro z;cases z))
     have RB:∀a o u,H2 a=some (.eF o u)->H3 a=some (.eF o u):=λa o u e=>k3 a _ e (aN e Nj (by intro z;cases z))
     have hd2:=k2 _ _ hd Af.symm
     have nmx:m≠x:=aN hm hx (by intro z;cases z)
     refine kN hs' L _ rs H3 a1 (by rw[←a3];exact pw) (λb z e n1 n2=>k3 b z (k2 b z e n1) n2) (RC hL) hL3 (a2.keep Oa) ⟨⟨dx,k3 _ _ Av Vg.symm⟩,jm Oa RB (jm Lj WA hp),⟨kvs,k3 _ _ hd2 nPd.symm,hw.keep λa row e=>Oa _ _ (Lj _ _ e)⟩,⟨mx,k3 _ _ (k2 _ _ hm nmx) (aN hm Fy (by intro z;cases z)),Iw.keep λa row e=>Oa _ _ (Lj _ _ e)⟩,DA.nd⟩ Qa
end
structure tQ where
 make ::
 mk:Option Int
 ws:List Wn
 ms:List (Str×Int×Int)
inductive bV where
 |ev(n:Str)(t a:Int)|mk(t:Int)
def bV.v:bV->List V
 |.ev n t a=>[.str "event",.str n,.int t,.int a]
 |.mk t=>[.str "mark",.int t]
def bV.ok:bV->Prop
 |.ev _ t _=> -(10^45)<t/\t<10^45
 |.mk _=>True
def AG(pl:Pl)(st:tQ):bV->List ji->tQ->Prop
 |.ev n t a,out,st'=>(late st.mk (dS pl) t=true/\out=[.missed n t a]/\st'=⟨st.mk,st.ws,st.ms++[(n,t,a)]⟩)\/
   (late st.mk (dS pl) t=false/\∃mt ks fB,tS pl n t a st.ws mt ks fB/\out=gw st.mk mt ks++gp st.mk fB ks/\st'=⟨st.mk,fB,st.ms⟩)
 |.mk t,out,st'=>(stale st.mk t=true/\out=[]/\st'=st)\/
   (stale st.mk t=false/\∃rs:List Wn,rs.Perm (st.ws.filter (fresh st.mk t))/\(rs.map Wn.ed).Pairwise (λd e=>aV d e≠.gt)/\out=rs.map ji.told/\st'=⟨some t,st.ws,st.ms⟩)
inductive Runs(pl:Pl):tQ->List bV->List (List ji)->tQ->Prop
 |nil(st:tQ):Runs pl st [] [] st
 |snoc{st st1 st2:tQ}{dZ:List bV}{outs:List (List ji)}{dd:bV}{out:List ji}:Runs pl st dZ outs st1->AG pl st1 dd out st2->Runs pl st (dZ++[dd]) (outs++[out]) st2
theorem tS.len{pl:Pl}{n:Str}{t a:Int}{ws fB:List Wn}{mt ks:List Ky}(ok:pl.ok)(h:tS pl n t a ws mt ks fB):fB.length<=ws.length+100:=by
 rcases h with⟨_,_,rfl,rfl⟩|⟨_,_,_,s,e,_,_,_,_,_,_,_,rfl⟩
 ·have h1:=kY (a:=a) (ks:=cy pl n t) (ws:=ws)
  have h2:(cy pl n t).length<=100:=by unfold cy;rw[List.length_map];exact zN ok t
  show(bU a ws (cy pl n t)).length<=_
  lia
 ·have h1:=mS (cT ws mt ⟨n,s,e⟩) n s e 1 a
  have h2:=nj (g:=⟨n,s,e⟩) (ks:=mt) (ws:=ws)
  lia
theorem AG.len{pl:Pl}{st st':tQ}{dd:bV}{out:List ji}(ok:pl.ok)(h:AG pl st dd out st'):st'.ws.length<=st.ws.length+100/\st'.ms.length<=st.ms.length+1:=by
 cases dd with
 |ev n t a=>
  rcases h with⟨_,_,rfl⟩|⟨_,mt,ks,fB,h,_,rfl⟩
  ·exact⟨by show st.ws.length<=_;lia,by show(st.ms++[_]).length<=_;simp⟩
  ·exact⟨h.len ok,by show st.ms.length<=_;lia⟩
 |mk t=>
  rcases h with⟨_,_,rfl⟩|⟨_,rs,_,_,_,rfl⟩
  ·exact⟨by lia,by lia⟩
  ·exact⟨by show st.ws.length<=_;lia,by show st.ms.length<=_;lia⟩
theorem Runs.len{pl:Pl}{st st':tQ}{dZ:List bV}{outs:List (List ji)}(ok:pl.ok)(h:Runs pl st dZ outs st'):st'.ws.length<=st.ws.length+100*dZ.length/\st'.ms.length<=st.ms.length+dZ.length/\outs.length=dZ.length:=by
 induction h with
 |nil=>exact⟨by simp,by simp,rfl⟩
 |snoc r d ih=>
  obtain⟨h1,h2,h3⟩:=ih
  obtain⟨h4,h5⟩:=d.len ok
  simp only[List.length_append,List.length_singleton]
  lia
def rj(H H':Hp)(x d m Pt:Addr):Prop:=∀b o,H b=some o->b≠x->b≠d->b≠m->b≠Pt->H' b=some o
inductive JL(K:Fg7)(mg:Str->Option Value)(C:Addr)(Pt:Addr)(vs:List V)(H:Hp)(Q:VK):Prop
 |mk(x p d m b:Addr)(pl:Pl)(st:tQ)(dd:bV):(vs=[.ref x,.ref b])->(fY K C H x p d m pl st.mk st.ws st.ms)->(bJ K H b dd.v)->(pl.ok)->(dd.ok)->((st.ws.length+200<1000000/\st.ws.length<TS.MX))->(st.ms.length<1000000)->(bK H Pt lp lq)->(dj K mg H)->(∀(l:Addr)(zs:List V)(out:List ji)(st':tQ)(H':Hp),AG pl st dd out st'->rj H H' x d m Pt->H l=none->H' l=some (.lst zs)->aD ji.v H' zs out->fY K C H' x p d m pl st'.mk st'.ws st'.ms->bK H' Pt lp lq->Q (.ref l) H')->JL K mg C Pt vs H Q
def Lu(K:Fg7)(mg:Str->Option Value)(C Pt:Addr):Sp:=λvs H Q d_=>JL K mg C Pt vs H Q
theorem GV{H:Hp}{zs:List V}{rs:List Wn}(h:aD oF H zs rs):aD ji.v H zs (rs.map ji.told):=by
 induction h with
 |nil=>exact .nil
 |cons r _ ih=>exact .cons r ih
section
variable {P:Program} {w:World} {K:Fg7} {mg:Str->Option Value} {C Pt:Addr}
theorem WB(D:bw K C "do" "Desk.do" fJ)(M:MG K mg)(T:eK K C)(yV:dO K "MARK" (.str "mark"))(oz:cW P w K mg jg C "take_mark" ["self","time"] 4 (Dq K mg C Pt))(mV:cW P w K mg jg C "take_event" ["self","name","time","amount"] 4 (zO K C)):
  cW P w K mg jg C "do" ["self","deed"] 5 (Lu K mg C Pt):=by
 have bO:=T.cl
 refine D.fn xT yP (λvs H Q E h=>?_) (λf base cdv A outer s H vs Q E hr h=>?_)
 ·obtain⟨x,p,d,m,b,pl,st,dd,rfl,_⟩:=h
  rfl
 ·obtain⟨x,p,d,m,b,pl,st,dd,rfl,DA,hb,ok,dok,hwl,hml,hT,hB,k⟩:=h
  obtain⟨dx,hx⟩:=DA.ob
  obtain⟨kvs,hd,hw⟩:=DA.wd
  obtain⟨mx,hm,Iw⟩:=DA.ml
  obtain⟨UQ,Fy⟩:=eU hT
  have no:∀{k:Str},¬k="plan"->¬k="mark"->¬k="windows"->¬k="missed"->(eV p (Kr st.mk) d m).lookup k=none:=λh1 h2 h3 h4=>BV p d m _ h1 h2 h3 h4
  refine⟨_,(aq (b_ (aP e_ (aI bC (pv 1) ah (λ_ _=>rfl)) (jt yV M rfl) (aR _)) (aA (aL (di (pv 0) bO.cl oz gh (hr.mono (by decide)) (pc (aI bC (pv 1) ah (λ_ _=>rfl)) aj)))) aT)
   (aA (aL (di (pv 0) bO.cl mV gh (hr.mono (by decide)) (pc (aI bC (pv 1) ah (λ_ _=>rfl)) (pc (aI bC (pv 1) ah (λ_ _=>rfl)) (pc (aI bC (pv 1) ah (λ_ _=>rfl)) aj))))))),?_⟩
  cases dd with
  |mk t=>
   refine⟨_,rfl,b,_,0,_,rfl,rfl,hb,rfl,rfl,_,rfl,?_⟩
   refine aW (λ_=>?_) (λz=>absurd (decide_eq_true rfl) z)
   refine⟨_,rfl,x,dx,_,rfl,hx,no DK DK DK DK,_,rfl,b,_,1,_,rfl,rfl,hb,rfl,x,p,d,m,pl,st.mk,st.ws,st.ms,t,rfl,DA,hwl,hT,hB,λhs l H' sm hl hl'=>?_,λhs l zs rs H' r1 r2 kp hl hl' la da lt=>?_⟩
   ·have tp:∀a row,H a=some (.tup row)->H' a=some (.tup row):=λa row e=>sm _ _ e
    exact k l _ [] st H' (.inl ⟨hs,rfl,rfl⟩) (λb o e _ _ _ _=>sm b o e) hl hl' .nil ⟨⟨dx,sm _ _ hx⟩,sm.jo DA.pl,⟨kvs,sm _ _ hd,hw.keep tp⟩,⟨mx,sm _ _ hm,Iw.keep tp⟩,DA.nd⟩ (bg hT (λps e=>sm _ _ e) λa o u e=>sm _ _ e)
   ·exact k l zs _ ⟨some t,st.ws,st.ms⟩ H' (.inr ⟨hs,rs,r1,r2,rfl,rfl⟩) (λb o e n1 _ _ n4=>kp b o e n1 n4) hl hl' (GV la) da lt
  |ev n t a=>
   refine⟨_,rfl,b,_,0,_,rfl,rfl,hb,rfl,rfl,_,rfl,?_⟩
   refine aW (λz=>?_) (λ_=>?_)
   ·have:=V.str.inj (of_decide_eq_true z)
    exact absurd this DK
   refine⟨_,rfl,x,dx,_,rfl,hx,no DK DK DK DK,_,rfl,b,_,1,_,rfl,rfl,hb,rfl,_,rfl,b,_,2,_,rfl,rfl,hb,rfl,_,rfl,b,_,3,_,rfl,rfl,hb,rfl,x,p,d,m,pl,st.mk,st.ws,st.ms,n,t,a,rfl,DA,ok,dok,hwl,hml,λhs l zs H' kp hl hl' la da=>?_,λhs l zs H' mt ks fB er kp hl hl' la da=>?_⟩
   ·refine k l zs _ ⟨st.mk,st.ws,st.ms++[(n,t,a)]⟩ H' (.inl ⟨hs,rfl,rfl⟩) (λb o e _ _ n3 _=>kp b o e n3) hl hl' la da (bg hT (λps e=>kp _ _ e (aN e hm (by intro z;cases z))) λa o u e=>kp _ _ e (aN e hm (by intro z;cases z)))
   ·refine k l zs _ ⟨st.mk,fB,st.ms⟩ H' (.inr ⟨hs,mt,ks,fB,er,rfl,rfl⟩) (λb o e _ n2 _ _=>kp b o e n2) hl hl' la da (bg hT (λps e=>kp _ _ e (aN e hd (by intro z;cases z))) λa o u e=>kp _ _ e (aN e hd (by intro z;cases z)))
end
end K2
namespace K3
open PySem PySem.Spec PyProof.Rows L2 K1 K2
def Gm(ws:List Wn)(k:Ky):Option (Int×Int):=(cX ws k.l).map λw=>(w.c,w.t)
def HK(o:Option (Int×Int))(c t:Int):Int×Int:=match o with
 |some p=>(p.1+c,p.2+t)
 |none=>(0+c,0+t)
theorem jy{ws:List Wn}{k:Ky}{w:Wn}(h:cX ws k.l=some w):w∈ws/\w.k=k:=by
 have h1:=List.find?_some h
 exact⟨List.mem_of_find?_eq_some h,gS (of_decide_eq_true h1)⟩
theorem jd{ws:List Wn}{k:Ky}:k∈ws.map Wn.k↔∃p,Gm ws k=some p:=by
 constructor
 ·intro h
  obtain⟨w,hw,_⟩:=nT h
  exact⟨(w.c,w.t),by unfold Gm;rw[hw];rfl⟩
 ·rintro⟨p,h⟩
  unfold Gm at h
  obtain⟨w,hw,_⟩:=Option.map_eq_some_iff.mp h
  obtain⟨h1,h2⟩:=jy hw
  exact h2▸List.mem_map_of_mem h1
theorem So{ws:List Wn}{k:Ky}{w:Wn}(h:cX ws k.l=some w):Gm ws k=some (w.c,w.t):=by unfold Gm;rw[h];rfl
theorem uK{ws:List Wn}{k:Ky}{p:Int×Int}(h:Gm ws k=some p):∃w,cX ws k.l=some w/\w.k=k/\p=(w.c,w.t):=by
 unfold Gm at h
 obtain⟨w,hw,e⟩:=Option.map_eq_some_iff.mp h
 exact⟨w,hw,(jy hw).2,e.symm⟩
theorem uJ{ws:List Wn}{k:Ky}:k∉ws.map Wn.k↔Gm ws k=none:=by
 rw[jd]
 cases Gm ws k<;>simp
theorem II{w:Wn}:∀{ws:List Wn},(ws.map Wn.k).Nodup->w∈ws->cX ws w.k.l=some w:=by
 intro ws
 induction ws with
 |nil=>intro _ h;cases h
 |cons x xs ih=>
  intro nd h
  obtain⟨h1,h2⟩:=List.nodup_cons.mp nd
  by_cases e:x.ky=w.k.l
  ·have e':x.k=w.k:=gS e
   rcases List.mem_cons.mp h with rfl|h
   ·exact List.find?_cons_of_pos (decide_eq_true e)
   ·exact absurd (e'▸List.mem_map_of_mem h) h1
  ·rcases List.mem_cons.mp h with rfl|h
   ·exact absurd rfl e
   ·have:cX (x::xs) w.k.l=cX xs w.k.l:=List.find?_cons_of_neg (λz=>e (of_decide_eq_true z))
    rw[this]
    exact ih h2 h
theorem N_{ws:List Wn}{w:Wn}(nd:(ws.map Wn.k).Nodup)(h:w∈ws):Gm ws w.k=some (w.c,w.t):=So (II nd h)
theorem Ks{k:Ky}{n:Str}{s e:Int}(h:k≠⟨n,s,e⟩):k.l≠nO n s e:=λz=>h (gS (a:=k) (b:=⟨n,s,e⟩) z)
theorem wH(a b:List Wn)(k:Ky):cX (a++b) k.l=(cX a k.l).or (cX b k.l):=List.find?_append
theorem wG(ws:List Wn)(f:Wn->Wn)(hf:∀w,(f w).ky=w.ky)(k:Ky):cX (ws.map f) k.l=(cX ws k.l).map f:=by
 unfold cX
 rw[List.find?_map]
 have:((λw:Wn=>decide (w.ky=k.l))∘f)=λw=>decide (w.ky=k.l):=by
  funext w
  show decide ((f w).ky=k.l)=_
  rw[hf]
 rw[this]
theorem pe(ws:List Wn)(n:Str)(s e c t:Int):Gm (kj ws n s e c t) ⟨n,s,e⟩=some (c,t):=by
 unfold Gm kj
 by_cases h:(ws.any λw=>decide (w.ky=nO n s e))=true
 ·rw[if_pos h,wG _ _ λw=>by split<;>rfl]
  obtain⟨w,hw,hk⟩:=List.any_eq_true.mp h
  have hm:(⟨n,s,e⟩:Ky)∈ws.map Wn.k:=by
   have:w.k=⟨n,s,e⟩:=gS (of_decide_eq_true hk)
   exact this▸List.mem_map_of_mem hw
  obtain⟨v,hv,hk2⟩:=nT hm
  rw[hv]
  have:v.ky=nO n s e:=by
   have:v.k.l=(⟨n,s,e⟩:Ky).l:=by rw[hk2]
   exact this
  simp only[Option.map_some,if_pos this]
 ·rw[if_neg h,wH,BR]
  ·show Option.map _ (cX [⟨n,s,e,c,t⟩] _)=_
   have:cX [⟨n,s,e,c,t⟩] (⟨n,s,e⟩:Ky).l=some ⟨n,s,e,c,t⟩:=List.find?_cons_of_pos (decide_eq_true rfl)
   rw[this]
   rfl
  ·intro hm
   obtain⟨w,hw,hk⟩:=List.mem_map.mp hm
   exact h (List.any_eq_true.mpr ⟨w,hw,decide_eq_true (show w.k.l=_ by rw[hk];rfl)⟩)
theorem tR{ws:List Wn}{n:Str}{s e c t:Int}{k:Ky}(hk:k≠⟨n,s,e⟩):Gm (kj ws n s e c t) k=Gm ws k:=by
 unfold Gm kj
 by_cases h:(ws.any λw=>decide (w.ky=nO n s e))=true
 ·rw[if_pos h,wG _ _ λw=>by split<;>rfl]
  cases hg:cX ws k.l with
  |none=>rfl
  |some v=>
   have hv:=(jy hg).2
   have:¬v.ky=nO n s e:=λz=>Ks hk (by rw[←hv];exact z)
   show some ((if v.ky=nO n s e then _ else v:Wn).c,(if v.ky=nO n s e then _ else v:Wn).t)=_
   rw[if_neg this]
   rfl
 ·rw[if_neg h,wH]
  have:cX [⟨n,s,e,c,t⟩] k.l=none:=List.find?_cons_of_neg (λz=>Ks hk (of_decide_eq_true z).symm)
  rw[this,Option.or_none]
theorem ie(ws:List Wn)(n:Str)(s e c t:Int):Gm (addW ws n s e c t) ⟨n,s,e⟩=some (HK (Gm ws ⟨n,s,e⟩) c t):=by
 unfold addW
 have e1:Gm ws ⟨n,s,e⟩=(cX ws (nO n s e)).map λw=>(w.c,w.t):=rfl
 cases hg:cX ws (nO n s e)with
 |none=>rw[e1,hg];exact pe ..
 |some w=>rw[e1,hg];exact pe ..
theorem gI{ws:List Wn}{n:Str}{s e c t:Int}{k:Ky}(hk:k≠⟨n,s,e⟩):Gm (addW ws n s e c t) k=Gm ws k:=by
 unfold addW
 cases hg:cX ws (nO n s e)with
 |none=>exact tR hk
 |some w=>exact tR hk
theorem mT(ws:List Wn)(g:Ky):Gm (cU ws g.l) g=none:=by
 rw[←uJ]
 intro h
 obtain⟨w,hw,hk⟩:=List.mem_map.mp h
 have:=of_decide_eq_true (List.mem_filter.mp hw).2
 exact this (show w.k.l=_ by rw[hk])
theorem BS{g k:Ky}(hk:k≠g):∀ws:List Wn,cX (cU ws g.l) k.l=cX ws k.l:=by
 intro ws
 induction ws with
 |nil=>rfl
 |cons w ws ih=>
  by_cases hw:w.ky=g.l
  ·have e1:cU (w::ws) g.l=cU ws g.l:=List.filter_cons_of_neg (λz=>(of_decide_eq_true z) hw)
   have e2:cX (w::ws) k.l=cX ws k.l:=List.find?_cons_of_neg (λz=>hk (gS ((of_decide_eq_true z).symm.trans hw)))
   rw[e1,e2,ih]
  ·have e1:cU (w::ws) g.l=w::cU ws g.l:=List.filter_cons_of_pos (decide_eq_true hw)
   rw[e1]
   unfold cX at ih ⊢
   rw[List.find?_cons,List.find?_cons,ih]
theorem k_{ws:List Wn}{g k:Ky}(hk:k≠g):Gm (cU ws g.l) k=Gm ws k:=by unfold Gm;rw[BS hk]
theorem Gx{a:Int}{k:Ky}:∀{ks:List Ky}{ws:List Wn},ks.Nodup->(k∈ks->Gm (bU a ws ks) k=some (HK (Gm ws k) 1 a))/\(k∉ks->Gm (bU a ws ks) k=Gm ws k):=by
 intro ks
 induction ks with
 |nil=>exact λ_=>⟨λh=>(nomatch h),λ_=>rfl⟩
 |cons q ks ih=>
  intro ws nd
  obtain⟨h1,h2⟩:=List.nodup_cons.mp nd
  obtain⟨i1,i2⟩:=ih (ws:=addW ws q.n q.s q.e 1 a) h2
  have e:bU a ws (q::ks)=bU a (addW ws q.n q.s q.e 1 a) ks:=rfl
  rw[e]
  refine⟨λh=>?_,λh=>?_⟩
  ·by_cases hq:k=q
   ·subst hq
    rw[i2 h1]
    exact ie ..
   ·rw[i1 ((List.mem_cons.mp h).resolve_left hq),gI hq]
  ·rw[i2 λz=>h (.tail _ z)]
   exact gI λz=>h (z▸.head _)
theorem Jq{g k:Ky}(hk:k≠g):∀{mt:List Ky}{ws:List Wn},(k∈mt->Gm (cT ws mt g) k=none)/\(k∉mt->Gm (cT ws mt g) k=Gm ws k):=by
 intro mt
 induction mt with
 |nil=>exact⟨λh=>(nomatch h),λ_=>rfl⟩
 |cons q mt ih=>
  intro ws
  cases hg:cX ws q.l with
  |none=>
   have e:cT ws (q::mt) g=cT ws mt g:=by
    show cT (match cX ws q.l with|some w=>_|none=>ws) mt g=_
    rw[hg]
   rw[e]
   obtain⟨i1,i2⟩:=ih (ws:=ws)
   refine⟨λh=>?_,λh=>i2 λz=>h (.tail _ z)⟩
   by_cases hm:k∈mt
   ·exact i1 hm
   ·rw[i2 hm]
    have:k=q:=(List.mem_cons.mp h).resolve_right hm
    unfold Gm
    rw[this,hg]
    rfl
  |some w=>
   have e:cT ws (q::mt) g=cT (addW (cU ws q.l) g.n g.s g.e w.c w.t) mt g:=by
    show cT (match cX ws q.l with|some w=>addW (cU ws q.l) g.n g.s g.e w.c w.t|none=>ws) mt g=_
    rw[hg]
   rw[e]
   obtain⟨i1,i2⟩:=ih (ws:=addW (cU ws q.l) g.n g.s g.e w.c w.t)
   refine⟨λh=>?_,λh=>?_⟩
   ·by_cases hm:k∈mt
    ·exact i1 hm
    ·have:k=q:=(List.mem_cons.mp h).resolve_right hm
     subst this
     rw[i2 hm,gI hk,mT]
   ·rw[i2 λz=>h (.tail _ z),gI hk,k_ (λz=>h (by rw[z];exact .head _))]
theorem Gw{g:Ky}{ws:List Wn}{p:Int×Int}(h:Gm ws g=some p):Gm (cT ws [g] g) g=some p:=by
 obtain⟨w,hw,_,rfl⟩:=uK h
 have e:cT ws [g] g=addW (cU ws g.l) g.n g.s g.e w.c w.t:=by
  show(match cX ws g.l with|some w=>addW (cU ws g.l) g.n g.s g.e w.c w.t|none=>ws)=_
  rw[hw]
 rw[e,show Gm (addW (cU ws g.l) g.n g.s g.e w.c w.t) g=some (HK (Gm (cU ws g.l) g) w.c w.t)from ie ..,mT]
 simp[HK]
theorem Ls{pl:Pl}(ok:pl.ok)(np:qF pl=false){t:Int}{q:Int×Int}(h:q∈JK pl t):q.1<=t/\t<q.2:=by
 obtain⟨l1,_,s1,_,_⟩:=ok
 have key:∀i:Nat,i<cnt pl t->fQ pl t+(i:Int)*pl.stp<=t/\t<fQ pl t+(i:Int)*pl.stp+pl.len:=by
  intro i hi
  unfold K1.cnt lR at hi
  have hi:i<(LD (fQ pl t) (t+1) pl.stp).toNat:=hi
  unfold LD at hi
  rw[if_pos LI]at hi
  by_cases hl:fQ pl t<t+1
  ·rw[if_pos hl]at hi
   have h1:(i:Int)<=(t+1-fQ pl t-1)/pl.stp:=by
    have:0<=(t+1-fQ pl t-1)/pl.stp:=Int.ediv_nonneg LI LI
    lia
   have h2:(i:Int)*pl.stp<=t+1-fQ pl t-1:=by
    have:=Int.mul_le_of_le_ediv (by lia:(0:Int)<pl.stp) h1
    exact this
   have h3:t-pl.len<fQ pl t:=by
    unfold fQ
    have:=Int.lt_ediv_add_one_mul_self (t-pl.len) (show 0<pl.stp by lia)
    exact this
   have h4:0<=(i:Int)*pl.stp:=Int.mul_nonneg LI LI
   lia
  ·rw[if_neg hl]at hi
   exact absurd hi (by simp)
 have go:q∈(List.range (cnt pl t)).map (λ(i:Nat)=>(fQ pl t+(i:Int)*pl.stp,fQ pl t+(i:Int)*pl.stp+pl.len))->q.1<=t/\t<q.2:=by
  intro h
  obtain⟨i,hi,rfl⟩:=List.mem_map.mp h
  exact key i (List.mem_range.mp hi)
 cases pl with
 |fixed l g=>exact go h
 |sliding l s g=>exact go h
 |pauses l g=>cases np
theorem BX{pl:Pl}(ok:pl.ok)(n:Str)(t:Int):(cy pl n t).Nodup:=by
 have go:((List.range (cnt pl t)).map (λ(i:Nat)=>(⟨n,fQ pl t+(i:Int)*pl.stp,fQ pl t+(i:Int)*pl.stp+pl.len⟩:Ky))).Nodup:=by
  refine List.Pairwise.map _ (λi j (h:i≠j) e=>?_) List.nodup_range
  injection e with _ e _
  have e:(i:Int)*pl.stp=(j:Int)*pl.stp:=by lia
  have:=Int.eq_of_mul_eq_mul_right (by have:=ok.s1;lia) e
  exact h LI
 cases pl with
 |fixed l g=>unfold cy JK;rw[List.map_map];exact go
 |sliding l s g=>unfold cy JK;rw[List.map_map];exact go
 |pauses l g=>exact List.nodup_cons.mpr ⟨λh=>(nomatch h),List.Pairwise.nil⟩
structure Ev where
 n:Str
 t:Int
 a:Int
def jI(k:Ky)(e:Ev):Bool:=decide (e.n=k.n)&&(decide (k.s<=e.t)&&decide (e.t<k.e))
theorem fj{k:Ky}{e:Ev}:jI k e=true↔e.n=k.n/\k.s<=e.t/\e.t<k.e:=by
 unfold jI
 simp only[Bool.and_eq_true,decide_eq_true_eq]
def cG(p q:Int×Int):Int×Int:=(p.1+q.1,p.2+q.2)
def vQ(k:Ky)(e:Ev):Int×Int:=if jI k e=true then(1,e.a)else(0,0)
def lH:List Ev->Ky->Int×Int
 |[],_=>(0,0)
 |e::aJ,k=>cG (vQ k e) (lH aJ k)
theorem jL(p:Int×Int):cG p (0,0)=p:=by unfold cG;simp
theorem rQ(p:Int×Int):cG (0,0) p=p:=by unfold cG;simp
theorem gU(p q r:Int×Int):cG (cG p q) r=cG p (cG q r):=by unfold cG;simp[Int.add_assoc]
theorem Cf(p q:Int×Int):cG p q=cG q p:=by unfold cG;rw[Int.add_comm p.1,Int.add_comm p.2]
theorem tP(p q r:Int×Int):cG p (cG q r)=cG q (cG p r):=by rw[←gU,Cf p q,gU]
theorem zh(k:Ky):∀(a b:List Ev),lH (a++b) k=cG (lH a k) (lH b k)
 |[],b=>(rQ _).symm
 |e::a,b=>by
  show cG _ (lH (a++b) k)=cG (cG _ (lH a k)) _
  rw[zh k a b,gU]
theorem vd(aJ:List Ev)(e:Ev)(k:Ky):lH (aJ++[e]) k=cG (lH aJ k) (vQ k e):=by
 rw[zh]
 show cG _ (cG _ (0,0))=_
 rw[jL]
theorem CM{a b:List Ev}(p:a.Perm b)(k:Ky):lH a k=lH b k:=by
 induction p with
 |nil=>rfl
 |cons e _ ih=>show cG _ _=cG _ _;rw[ih]
 |swap x y l=>exact tP _ _ _
 |trans _ _ h1 h2=>exact h1.trans h2
theorem vc{k:Ky}:∀{aJ:List Ev},(∀e∈aJ,jI k e=false)->lH aJ k=(0,0)
 |[],_=>rfl
 |e::aJ,h=>by
  show cG (if jI k e=true then _ else _) (lH aJ k)=_
  rw[h e (.head _),if_neg Bool.false_ne_true,vc λx m=>h x (.tail _ m)]
  rfl
def sumK(f:Ky->Int×Int):List Ky->Int×Int
 |[]=>(0,0)
 |k::ks=>cG (f k) (sumK f ks)
theorem vf(f g:Ky->Int×Int):∀ks:List Ky,sumK (λk=>cG (f k) (g k)) ks=cG (sumK f ks) (sumK g ks)
 |[]=>rfl
 |k::ks=>by
  show cG (cG _ _) (sumK _ ks)=cG (cG _ _) (cG _ _)
  rw[vf f g ks,gU,gU,tP (g k)]
theorem rZ:∀ks:List Ky,sumK (λ_=>(0,0)) ks=(0,0)
 |[]=>rfl
 |_::ks=>by
  show cG (0,0) (sumK _ ks)=_
  rw[rZ ks]
  rfl
theorem ve{e:Ev}:∀{ks:List Ky},ks.Nodup->(∀k∈ks,∀q∈ks,jI k e=true->jI q e=true->k=q)->((∃k∈ks,jI k e=true)->sumK (λk=>vQ k e) ks=(1,e.a))/\((∀k∈ks,jI k e=false)->sumK (λk=>vQ k e) ks=(0,0))
 |[],_,_=>⟨λ⟨_,m,_⟩=>(nomatch m),λ_=>rfl⟩
 |k::ks,nd,u=>by
  obtain⟨n1,n2⟩:=List.nodup_cons.mp nd
  have ih:=ve (e:=e) n2 λk' h' q hq=>u k' (.tail _ h') q (.tail _ hq)
  refine⟨λhx=>?_,λh=>?_⟩
  ·show cG (if jI k e=true then _ else _) (sumK _ ks)=_
   by_cases hk:jI k e=true
   ·rw[if_pos hk,ih.2 λq hq=>?_]
    ·exact jL _
    ·cases z:jI q e with
     |false=>rfl
     |true=>exact absurd (u k (.head _) q (.tail _ hq) hk z▸hq) n1
   ·rw[if_neg hk,ih.1 ?_]
    ·exact rQ _
    ·obtain⟨q,hq,h⟩:=hx
     rcases List.mem_cons.mp hq with rfl|hq
     ·exact absurd h hk
     ·exact⟨q,hq,h⟩
  ·show cG (if jI k e=true then _ else _) (sumK _ ks)=_
   rw[h k (.head _),if_neg Bool.false_ne_true,ih.2 λq hq=>h q (.tail _ hq)]
   rfl
theorem rW{g:Ky}{ks:List Ky}(nd:ks.Nodup):∀{aJ:List Ev},(∀e∈aJ,(jI g e=true↔∃k∈ks,jI k e=true)/\∀k∈ks,∀q∈ks,jI k e=true->jI q e=true->k=q)->lH aJ g=sumK (lH aJ) ks
 |[],_=>by
  show(0,0)=sumK (λ_=>(0,0)) ks
  exact(rZ ks).symm
 |e::aJ,h=>by
  show cG (vQ g e) (lH aJ g)=sumK (λk=>cG (vQ k e) (lH aJ k)) ks
  rw[vf,rW nd λx m=>h x (.tail _ m)]
  obtain⟨h1,h2⟩:=h e (.head _)
  obtain⟨s1,s2⟩:=ve (e:=e) nd h2
  by_cases hg:jI g e=true
  ·rw[s1 (h1.mp hg)]
   show cG (if jI g e=true then _ else _) _=_
   rw[if_pos hg]
  ·rw[s2 λk hk=>by
    cases z:jI k e with
    |false=>rfl
    |true=>exact absurd (h1.mpr ⟨k,hk,z⟩) hg]
   show cG (if jI g e=true then _ else _) _=_
   rw[if_neg hg]
structure ef(L:Int)(T:Int->Prop)(s e:Int):Prop where
 a:T s
 b:T (e-L)
 le:s<=e-L
 lo:∀u,T u->u<s->u<=s-L
 hi:∀u,T u->e-L<u->e<=u
 nx:∀u,T u->s<=u->u<e-L->∃v,T v/\u<v/\v<u+L/\v<=e-L
section
variable {L:Int} {T:Int->Prop} {s e s' e' u:Int}
theorem ef.lo_le(h:ef L T s e)(h':ef L T s' e')(u1:s<=u)(u3:s'<=u)(u2:u<=e-L):s'<=s:=by
 refine Int.not_lt.mp λz=>?_
 have key:∀(n:Nat)(w:Int),(s'-w).toNat<=n->T w->s<=w->w<s'->False:=by
  intro n
  induction n with
  |zero=>intro w hn _ _ hw;lia
  |succ n ih=>
   intro w hn tw sw hw
   obtain⟨v,tv,v1,v2,_⟩:=h.nx w tw sw LI
   have:=h'.lo w tw hw
   exact ih v LI tv LI LI
 exact key _ s (Nat.le_refl _) h.a (Int.le_refl _) z
theorem ef.KH(h:ef L T s e)(h':ef L T s' e')(u3:s'<=u)(u2:u<=e-L):e'<=e:=by
 refine Int.not_lt.mp λz=>?_
 obtain⟨v,tv,v1,v2,_⟩:=h'.nx (e-L) h.b LI LI
 have:=h.hi v tv v1
 lia
theorem ef.uniq(h:ef L T s e)(h':ef L T s' e')(u1:s<=u)(u2:u<=e-L)(u3:s'<=u)(u4:u<=e'-L):s=s'/\e=e':=
 ⟨Int.le_antisymm (h'.lo_le h u3 u1 u4) (h.lo_le h' u1 u3 u2),Int.le_antisymm (h'.KH h u1 u4) (h.KH h' u3 u2)⟩
theorem ef.before(h:ef L T s e){t:Int}(h1:s<=t)(h2:t<e-L):∃v,T v/\t<v/\v<t+L/\v<=e-L:=by
 have key:∀(n:Nat)(w:Int),(t-w).toNat<=n->T w->s<=w->w<=t->∃v,T v/\t<v/\v<t+L/\v<=e-L:=by
  intro n
  induction n with
  |zero=>
   intro w hn tw sw wt
   obtain⟨v,tv,v1,v2,v3⟩:=h.nx w tw sw LI
   exact⟨v,tv,by lia,by lia,v3⟩
  |succ n ih=>
   intro w hn tw sw wt
   obtain⟨v,tv,v1,v2,v3⟩:=h.nx w tw sw LI
   by_cases z:v<=t
   ·exact ih v LI tv LI z
   ·exact⟨v,tv,by lia,by lia,v3⟩
 exact key _ s (Nat.le_refl _) h.a (Int.le_refl _) h1
end
def Cj(pl:Pl)(s e:Int):Prop:=(∃q,s=q*pl.stp)/\e=s+pl.len
theorem Ak{pl:Pl}(ok:pl.ok)(np:qF pl=false){t:Int}{q:Int×Int}:q∈JK pl t↔Cj pl q.1 q.2/\q.1<=t/\t<q.2:=by
 have hs:JK pl t=(List.range (cnt pl t)).map λ(i:Nat)=>(fQ pl t+(i:Int)*pl.stp,fQ pl t+(i:Int)*pl.stp+pl.len):=by
  cases pl with
  |fixed l g=>rfl
  |sliding l s g=>rfl
  |pauses l g=>cases np
 have s1:=ok.s1
 constructor
 ·intro h
  refine⟨?_,Ls ok np h⟩
  rw[hs]at h
  obtain⟨i,_,rfl⟩:=List.mem_map.mp h
  exact⟨⟨(t-pl.len)/pl.stp+1+i,by show fQ pl t+(i:Int)*pl.stp=_;unfold fQ;rw[Int.add_mul (_+1)]⟩,rfl⟩
 ·rintro⟨⟨⟨m,e1⟩,e2⟩,h1,h2⟩
  rw[hs]
  have hm:(t-pl.len)/pl.stp<m:=Int.ediv_lt_of_lt_mul LI LI
  have e3:fQ pl t+((m-((t-pl.len)/pl.stp+1)).toNat:Int)*pl.stp=q.1:=by
   have:((m-((t-pl.len)/pl.stp+1)).toNat:Int)=m-((t-pl.len)/pl.stp+1):=by lia
   rw[this]
   unfold fQ
   rw[e1,←Int.add_mul]
   congr 1
   lia
  refine List.mem_map.mpr ⟨(m-((t-pl.len)/pl.stp+1)).toNat,List.mem_range.mpr ?_,?_⟩
  ·generalize (m-((t-pl.len)/pl.stp+1)).toNat=i at e3
   have hnn:0<=(i:Int)*pl.stp:=Int.mul_nonneg LI LI
   have hi:(i:Int)<=(t+1-fQ pl t-1)/pl.stp:=(Mn s1).mp LI
   show i<(LD (fQ pl t) (t+1) pl.stp).toNat
   unfold LD
   rw[if_pos LI,if_pos LI]
   lia
  ·obtain⟨q1,q2⟩:=q
   simp only at e3 e2
   rw[e3,e2]
def fU(aJ:List Ev)(n:Str)(u:Int):Prop:=∃e∈aJ,e.n=n/\e.t=u
structure Tab(pl:Pl)(aJ:List Ev)(ws:List Wn):Prop where
 nd:(ws.map Wn.k).Nodup
 val:∀k p,Gm ws k=some p->p=lH aJ k
 gr:qF pl=false->∀k∈ws.map Wn.k,Cj pl k.s k.e/\∃e∈aJ,jI k e=true
 gc:qF pl=false->∀e∈aJ,∀k:Ky,Cj pl k.s k.e->jI k e=true->k∈ws.map Wn.k
 pr:qF pl=true->∀k∈ws.map Wn.k,ef pl.len (fU aJ k.n) k.s k.e
 pc:qF pl=true->∀e∈aJ,∃k∈ws.map Wn.k,k.n=e.n/\k.s<=e.t/\e.t<=k.e-pl.len
theorem Tab.nil(pl:Pl):Tab pl [] []:=⟨.nil,λ_ _ h=>(nomatch h),λ_ _ h=>(nomatch h),λ_ _ h=>(nomatch h),λ_ _ h=>(nomatch h),λ_ _ h=>(nomatch h)⟩
theorem Tab.perm{pl:Pl}{aJ ND:List Ev}{ws:List Wn}(h:Tab pl aJ ws)(p:aJ.Perm ND):Tab pl ND ws:=by
 have e:∀n,fU aJ n=fU ND n:=λn=>funext λu=>propext ⟨λ⟨x,m,z⟩=>⟨x,p.mem_iff.mp m,z⟩,λ⟨x,m,z⟩=>⟨x,p.mem_iff.mpr m,z⟩⟩
 refine⟨h.nd,λk q g=>(h.val k q g).trans (CM p k),λnp k m=>?_,λnp e m=>h.gc np e (p.mem_iff.mpr m),λip k m=>e k.n▸h.pr ip k m,λip e m=>h.pc ip e (p.mem_iff.mpr m)⟩
 obtain⟨h1,x,m,z⟩:=h.gr np k m
 exact⟨h1,x,p.mem_iff.mp m,z⟩
theorem Aa{α:Type}:∀{l m:List α},l.Nodup->m.Nodup->(∀a,a∈l↔a∈m)->l.Perm m
 |[],m,_,_,h=>by
  cases m with
  |nil=>exact .nil
  |cons b m=>exact(nomatch (h b).mpr (.head _))
 |a::l,m,hl,hm,h=>by
  obtain⟨h1,h2⟩:=List.nodup_cons.mp hl
  obtain⟨m1,m2,rfl⟩:=List.append_of_mem ((h a).mp (.head _))
  have pm:(m1++a::m2).Perm (a::(m1++m2)):=List.perm_middle
  obtain⟨n1,n2⟩:=List.nodup_cons.mp (pm.nodup_iff.mp hm)
  refine .trans (.cons a (Aa h2 n2 λb=>⟨λhb=>?_,λhb=>?_⟩)) pm.symm
  ·rcases List.mem_cons.mp (pm.mem_iff.mp ((h b).mp (.tail _ hb)))with z|z
   ·exact absurd (z▸hb) h1
   ·exact z
  ·rcases List.mem_cons.mp ((h b).mpr (pm.mem_iff.mpr (.tail _ hb)))with z|z
   ·exact absurd (z▸hb) n1
   ·exact z
theorem qv{ws:List Wn}(h:(ws.map Wn.k).Nodup):ws.Nodup:=by
 refine List.Pairwise.of_map Wn.k (λa b z e=>z (by rw[e])) h
theorem Tab.keys{pl:Pl}{aJ:List Ev}{ws fB:List Wn}(h:Tab pl aJ ws)(h':Tab pl aJ fB){k:Ky}(m:k∈ws.map Wn.k):k∈fB.map Wn.k:=by
 cases ip:qF pl with
 |false=>
  obtain⟨g,e,me,hi⟩:=h.gr ip k m
  exact h'.gc ip e me k g hi
 |true=>
  have p:=h.pr ip k m
  obtain⟨e,me,en,et⟩:=p.a
  obtain⟨k',m',kn,k1,k2⟩:=h'.pc ip e me
  have p':=h'.pr ip k' m'
  rw[kn,en]at p'
  rw[et]at k1 k2
  obtain⟨q1,q2⟩:=p.uniq p' (Int.le_refl _) p.le k1 k2
  have:k=k':=by
   obtain⟨a,b,c⟩:=k
   obtain⟨a',b',c'⟩:=k'
   simp only at q1 q2 kn en
   rw[q1,q2,kn,en]
  rw[this];exact m'
theorem Tab.uniq{pl:Pl}{aJ:List Ev}{ws fB:List Wn}(h:Tab pl aJ ws)(h':Tab pl aJ fB):ws.Perm fB:=by
 have half:∀{ws fB:List Wn},Tab pl aJ ws->Tab pl aJ fB->∀w,w∈ws->w∈fB:=λ{ws fB} h h' w m=>by
  have mk:=h.keys h' (List.mem_map_of_mem (f:=Wn.k) m)
  obtain⟨p,hp⟩:=jd.mp mk
  obtain⟨w',hw',ek,ep⟩:=uK hp
  have e1:=h.val _ _ (N_ h.nd m)
  have e2:=h'.val _ _ hp
  rw[ep]at e2
  have:w=w':=by
   have e3:=e1.trans e2.symm
   obtain⟨a,b,c,d,f⟩:=w
   obtain⟨a',b',c',d',f'⟩:=w'
   injection ek with k1 k2 k3
   injection e3 with v1 v2
   simp only at v1 v2
   subst k1 k2 k3 v1 v2
   rfl
  rw[this]
  exact(jy hw').1
 exact Aa (qv h.nd) (qv h'.nd) λw=>⟨half h h' w,half h' h w⟩
theorem o_{a:Int}{ks:List Ky}{ws:List Wn}(nd:ks.Nodup)(k:Ky):k∈(bU a ws ks).map Wn.k↔k∈ks\/k∈ws.map Wn.k:=by
 obtain⟨g1,g2⟩:=Gx (a:=a) (k:=k) (ws:=ws) nd
 rw[jd,jd]
 by_cases h:k∈ks
 ·exact⟨λ_=>.inl h,λ_=>⟨_,g1 h⟩⟩
 ·rw[g2 h]
  exact⟨.inr,λz=>z.resolve_left h⟩
theorem CO{pl:Pl}(ok:pl.ok)(np:qF pl=false){aJ:List Ev}{ws:List Wn}{n:Str}{t a:Int}(h:Tab pl aJ ws):Tab pl (aJ++[⟨n,t,a⟩]) (bU a ws (cy pl n t)):=by
 have nd:=BX ok n t
 have mem:∀k:Ky,k∈cy pl n t↔Cj pl k.s k.e/\jI k ⟨n,t,a⟩=true:=λk=>by
  rw[fj]
  unfold cy
  constructor
  ·intro m
   obtain⟨q,hq,rfl⟩:=List.mem_map.mp m
   obtain⟨h1,h2,h3⟩:=(Ak ok np).mp hq
   exact⟨h1,rfl,h2,h3⟩
  ·rintro⟨h1,h2,h3,h4⟩
   refine List.mem_map.mpr ⟨(k.s,k.e),(Ak ok np).mpr ⟨h1,h3,h4⟩,?_⟩
   have:n=k.n:=h2
   rw[this]
 have no:qF pl=true->False:=λz=>by rw[np]at z;cases z
 refine⟨i_ h.nd,λk p g=>?_,λ_ k m=>?_,λ_ e m k gd hi=>?_,λz=>(no z).elim,λz=>(no z).elim⟩
 ·obtain⟨g1,g2⟩:=Gx (a:=a) (k:=k) (ws:=ws) nd
  rw[vd]
  by_cases hk:k∈cy pl n t
  ·rw[g1 hk]at g
   obtain⟨gd,hi⟩:=(mem k).mp hk
   show p=cG _ (if jI k _=true then _ else _)
   rw[if_pos hi,←Option.some.inj g]
   cases hg:Gm ws k with
   |some q=>rw[h.val k q hg];rfl
   |none=>
    rw[vc λe me=>by
     cases z:jI k e with
     |false=>rfl
     |true=>exact absurd (h.gc np e me k gd z) (uJ.mpr hg)]
    rfl
  ·rw[g2 hk]at g
   show p=cG _ (if jI k _=true then _ else _)
   rw[if_neg λz=>hk ((mem k).mpr ⟨(h.gr np k (jd.mpr ⟨_,g⟩)).1,z⟩),jL]
   exact h.val k p g
 ·rcases(o_ nd k).mp m with z|z
  ·obtain⟨gd,hi⟩:=(mem k).mp z
   exact⟨gd,_,List.mem_append_right _ (.head _),hi⟩
  ·obtain⟨gd,e,me,hi⟩:=h.gr np k z
   exact⟨gd,e,List.mem_append_left _ me,hi⟩
 ·rw[o_ nd]
  rcases List.mem_append.mp m with z|z
  ·exact .inr (h.gc np e z k gd hi)
  ·rw[List.mem_singleton]at z
   subst z
   exact .inl ((mem k).mpr ⟨gd,hi⟩)
section
variable {L t s0 e0:Int} {T:Int->Prop} {P:Int->Int->Prop}
theorem BJ(hL:1<=L)(hP:∀s e,P s e->ef L T s e)(hc:∀u,T u->∃s e,P s e/\s<=u/\u<=e-L)(s1:s0=t\/∃e,P s0 e/\s0<t+L/\t<e)(s2:s0<=t)(s3:∀s e,P s e->s<t+L->t<e->s0<=s)
  (e1:e0=t+L\/∃s,P s e0/\s<t+L/\t<e0)(e2:t+L<=e0)(e3:∀s e,P s e->s<t+L->t<e->e<=e0):ef L (λu=>T u\/u=t) s0 e0 where
 a:=by
  rcases s1 with z|⟨e,p,_⟩
  ·exact .inr z
  ·exact .inl (hP _ _ p).a
 b:=by
  rcases e1 with z|⟨s,p,_⟩
  ·exact .inr LI
  ·exact .inl (hP _ _ p).b
 le:=by lia
 lo:=by
  rintro u (tu|rfl) hu
  ·obtain⟨s,e,p,h1,h2⟩:=hc u tu
   have hp:=hP _ _ p
   by_cases hm:s<t+L/\t<e
   ·have:=s3 s e p hm.1 hm.2
    lia
   ·rcases s1 with z|⟨e',p',_⟩
    ·lia
    ·exact(hP _ _ p').lo u tu hu
  ·lia
 hi:=by
  rintro u (tu|rfl) hu
  ·obtain⟨s,e,p,h1,h2⟩:=hc u tu
   have hp:=hP _ _ p
   by_cases hm:s<t+L/\t<e
   ·have:=e3 s e p hm.1 hm.2
    lia
   ·rcases e1 with z|⟨s',p',_⟩
    ·lia
    ·exact(hP _ _ p').hi u tu hu
  ·lia
 nx:=by
  have new:∀s e,P s e->s<t+L->t<e->t<e-L->∃v,(T v\/v=t)/\t<v/\v<t+L/\v<=e-L:=λs e p h1 h2 h3=>by
   have hp:=hP _ _ p
   by_cases hs:t<s
   ·exact⟨s,.inl hp.a,hs,h1,hp.le⟩
   ·obtain⟨v,tv,v1,v2,v3⟩:=hp.before LI h3
    exact⟨v,.inl tv,v1,v2,v3⟩
  rintro u (tu|rfl) h1 h2
  ·obtain⟨s,e,p,h3,h4⟩:=hc u tu
   have hp:=hP _ _ p
   by_cases hm:s<t+L/\t<e
   ·by_cases hl:u<e-L
    ·obtain⟨v,tv,v1,v2,v3⟩:=hp.nx u tu h3 hl
     have:=e3 s e p hm.1 hm.2
     exact⟨v,.inl tv,v1,v2,by lia⟩
    ·by_cases ht:u<t
     ·exact⟨t,.inr rfl,ht,by lia,by lia⟩
     ·rcases e1 with z|⟨s',p',h5,h6⟩
      ·lia
      ·have uy:=hP _ _ p'
       by_cases hs':s'<=u
       ·have:=(hp.uniq uy h3 h4 hs' LI).2
        lia
       ·have:=hp.hi s' uy.a LI
        lia
   ·by_cases hq:e<=t
    ·rcases s1 with z|⟨e',p',h5,h6⟩
     ·lia
     ·have uy:=hP _ _ p'
      have:=hp.uniq uy h3 h4 h1 LI
      lia
    ·rcases e1 with z|⟨s',p',h5,h6⟩
     ·lia
     ·have uy:=hP _ _ p'
      have:=hp.uniq uy h3 h4 LI LI
      lia
  ·rcases e1 with z|⟨s',p',h5,h6⟩
   ·lia
   ·exact new s' e0 p' h5 h6 h2
theorem AW(hL:1<=L){s e:Int}(h:ef L T s e)(hm:¬(s<t+L/\t<e)):ef L (λu=>T u\/u=t) s e where
 a:=.inl h.a
 b:=.inl h.b
 le:=h.le
 lo:=by
  have:=h.le
  rintro u (tu|rfl) hu
  ·exact h.lo u tu hu
  ·lia
 hi:=by
  have:=h.le
  rintro u (tu|rfl) hu
  ·exact h.hi u tu hu
  ·lia
 nx:=by
  rintro u (tu|rfl) h1 h2
  ·obtain⟨v,tv,r⟩:=h.nx u tu h1 h2
   exact⟨v,.inl tv,r⟩
  ·lia
theorem Ip(hL:1<=L)(hP:∀s e,P s e->ef L T s e)(hc:∀u,T u->∃s e,P s e/\s<=u/\u<=e-L)(s1:s0=t\/∃e,P s0 e/\s0<t+L/\t<e)(s2:s0<=t)
  (e1:e0=t+L\/∃s,P s e0/\s<t+L/\t<e0)(e2:t+L<=e0){u:Int}(tu:T u)(h1:s0<=u)(h2:u<e0):∃s e,P s e/\s<t+L/\t<e/\s<=u/\u<e:=by
 obtain⟨s,e,p,h3,h4⟩:=hc u tu
 have hp:=hP _ _ p
 by_cases hm:s<t+L/\t<e
 ·exact⟨s,e,p,hm.1,hm.2,h3,by lia⟩
 ·exfalso
  by_cases hq:e<=t
  ·rcases s1 with z|⟨e',p',h5,h6⟩
   ·lia
   ·have:=hp.uniq (hP _ _ p') h3 h4 h1 LI
    lia
  ·rcases e1 with z|⟨s',p',h5,h6⟩
   ·lia
   ·have uy:=hP _ _ p'
    have hle:u<=e0-L:=Int.not_lt.mp λz=>by have:=uy.hi u tu z;lia
    have:=hp.uniq uy h3 h4 LI hle
    lia
end
theorem Gv{g:Ky}{f:Ky->Int×Int}:∀{mt:List Ky}{ws:List Wn},mt.Nodup->g∉mt->(∀k∈mt,Gm ws k=some (f k))->Gm (cT ws mt g) g=if mt=[]then Gm ws g else some (HK (Gm ws g) (sumK f mt).1 (sumK f mt).2):=by
 intro mt
 induction mt with
 |nil=>intro ws _ _ _;rfl
 |cons q mt ih=>
  intro ws nd hg hv
  obtain⟨n1,n2⟩:=List.nodup_cons.mp nd
  obtain⟨w,hw,_,ew⟩:=uK (hv q (.head _))
  have e:cT ws (q::mt) g=cT (addW (cU ws q.l) g.n g.s g.e w.c w.t) mt g:=by
   show cT (match cX ws q.l with|some w=>addW (cU ws q.l) g.n g.s g.e w.c w.t|none=>ws) mt g=_
   rw[hw]
  have gq:g≠q:=λz=>hg (z▸.head _)
  have g1:Gm (addW (cU ws q.l) g.n g.s g.e w.c w.t) g=some (HK (Gm ws g) w.c w.t):=by
   rw[show Gm (addW (cU ws q.l) g.n g.s g.e w.c w.t) g=some (HK (Gm (cU ws q.l) g) w.c w.t)from ie ..,k_ gq]
  rw[e,ih n2 (λz=>hg (.tail _ z)) λk hk=>by
   have kq:k≠q:=λz=>n1 (z▸hk)
   have kg:k≠g:=λz=>hg (z▸.tail _ hk)
   rw[gI (n:=g.n) (s:=g.s) (e:=g.e) kg,k_ kq]
   exact hv k (.tail _ hk),g1,if_neg (show¬q::mt=[]from λz=>nomatch z)]
  have ec:sumK f (q::mt)=cG (w.c,w.t) (sumK f mt):=by show cG (f q) _=_;rw[ew]
  rw[ec]
  by_cases hn:mt=[]
  ·rw[if_pos hn,hn]
   show some (HK (Gm ws g) w.c w.t)=some (HK (Gm ws g) (w.c+0) (w.t+0))
   rw[Int.add_zero,Int.add_zero]
  ·rw[if_neg hn]
   cases Gm ws g with
   |none=>
    show some ((0+w.c+(sumK f mt).1,0+w.t+(sumK f mt).2):Int×Int)=some (0+(w.c+(sumK f mt).1),0+(w.t+(sumK f mt).2))
    simp only[Int.add_assoc]
   |some p=>
    show some ((p.1+w.c+(sumK f mt).1,p.2+w.t+(sumK f mt).2):Int×Int)=some (p.1+(w.c+(sumK f mt).1),p.2+(w.t+(sumK f mt).2))
    simp only[Int.add_assoc]
theorem AU{pl:Pl}(ok:pl.ok)(ip:qF pl=true){aJ:List Ev}{ws fB:List Wn}{n:Str}{t a s e:Int}{mt:List Ky}(h:Tab pl aJ ws)(pm:mt.Perm ((ws.filter (meet ⟨n,t,t+pl.len⟩)).map Wn.k))
  (s1:s=t\/∃k∈mt,k.s=s)(s2:s<=t)(s3:∀k∈mt,s<=k.s)(e1:e=t+pl.len\/∃k∈mt,k.e=e)(e2:t+pl.len<=e)(e3:∀k∈mt,k.e<=e)(hw:fB=addW (cT ws mt ⟨n,s,e⟩) n s e 1 a):
  Tab pl (aJ++[⟨n,t,a⟩]) fB:=by
 have hL:=ok.l1
 have nd:mt.Nodup:=pm.nodup_iff.mpr (h.nd.sublist ((List.filter_sublist).map _))
 have mem:∀k:Ky,k∈mt↔k∈ws.map Wn.k/\k.n=n/\k.s<t+pl.len/\t<k.e:=λk=>by
  rw[pm.mem_iff]
  constructor
  ·intro m
   obtain⟨w,hw,rfl⟩:=List.mem_map.mp m
   obtain⟨h1,h2⟩:=List.mem_filter.mp hw
   unfold meet at h2
   simp only[Bool.and_eq_true,decide_eq_true_eq]at h2
   exact⟨List.mem_map_of_mem h1,h2⟩
  ·rintro⟨h1,h2⟩
   obtain⟨w,hw,rfl⟩:=List.mem_map.mp h1
   refine List.mem_map_of_mem (List.mem_filter.mpr ⟨hw,?_⟩)
   unfold meet
   simp only[Bool.and_eq_true,decide_eq_true_eq]
   exact h2
 have ky:∀k:Ky,k.n=n->k=⟨n,k.s,k.e⟩:=λk z=>by rw[←z]
 have hP:∀s e,(⟨n,s,e⟩:Ky)∈ws.map Wn.k->ef pl.len (fU aJ n) s e:=λs e m=>h.pr ip _ m
 have hc:∀u,fU aJ n u->∃s e,(⟨n,s,e⟩:Ky)∈ws.map Wn.k/\s<=u/\u<=e-pl.len:=by
  rintro u ⟨x,mx,xn,rfl⟩
  obtain⟨k,mk,kn,k1,k2⟩:=h.pc ip x mx
  exact⟨k.s,k.e,ky k (kn.trans xn)▸mk,k1,k2⟩
 have s1':s=t\/∃e,(⟨n,s,e⟩:Ky)∈ws.map Wn.k/\s<t+pl.len/\t<e:=by
  rcases s1 with z|⟨k,mk,rfl⟩
  ·exact .inl z
  ·obtain⟨h1,h2,h3,h4⟩:=(mem k).mp mk
   exact .inr ⟨k.e,ky k h2▸h1,h3,h4⟩
 have Zh:e=t+pl.len\/∃s,(⟨n,s,e⟩:Ky)∈ws.map Wn.k/\s<t+pl.len/\t<e:=by
  rcases e1 with z|⟨k,mk,rfl⟩
  ·exact .inl z
  ·obtain⟨h1,h2,h3,h4⟩:=(mem k).mp mk
   exact .inr ⟨k.s,ky k h2▸h1,h3,h4⟩
 have ZV:∀q r,(⟨n,q,r⟩:Ky)∈ws.map Wn.k->q<t+pl.len->t<r->s<=q:=λq r m h1 h2=>s3 _ ((mem ⟨n,q,r⟩).mpr ⟨m,rfl,h1,h2⟩)
 have e3':∀q r,(⟨n,q,r⟩:Ky)∈ws.map Wn.k->q<t+pl.len->t<r->r<=e:=λq r m h1 h2=>e3 _ ((mem ⟨n,q,r⟩).mpr ⟨m,rfl,h1,h2⟩)
 have J:=BJ hL hP hc s1' s2 ZV Zh e2 e3'
 have Tn:fU (aJ++[⟨n,t,a⟩]) n=λu=>fU aJ n u\/u=t:=funext λu=>propext ⟨λ⟨x,mx,xn,xt⟩=>by
   rcases List.mem_append.mp mx with z|z
   ·exact .inl ⟨x,z,xn,xt⟩
   ·rw[List.mem_singleton]at z
    subst z
    exact .inr xt.symm,λz=>by
   rcases z with⟨x,mx,r⟩|rfl
   ·exact⟨x,List.mem_append_left _ mx,r⟩
   ·exact⟨_,List.mem_append_right _ (.head _),rfl,rfl⟩⟩
 have To:∀m,m≠n->fU (aJ++[⟨n,t,a⟩]) m=fU aJ m:=λm hm=>funext λu=>propext ⟨λ⟨x,mx,xn,xt⟩=>by
   rcases List.mem_append.mp mx with z|z
   ·exact⟨x,z,xn,xt⟩
   ·rw[List.mem_singleton]at z
    subst z
    exact absurd xn.symm hm,λ⟨x,mx,r⟩=>⟨x,List.mem_append_left _ mx,r⟩⟩
 have gt:jI ⟨n,s,e⟩ ⟨n,t,a⟩=true:=fj.mpr ⟨rfl,s2,by show t<e;lia⟩
 have parts:lH aJ ⟨n,s,e⟩=sumK (lH aJ) mt:=rW nd λx mx=>by
  have back:∀k∈mt,jI k x=true->k.n=x.n/\k.s<=x.t/\x.t<=k.e-pl.len/\ef pl.len (fU aJ n) k.s k.e:=λk mk hk=>by
   obtain⟨h1,h2,h3,h4⟩:=(mem k).mp mk
   obtain⟨i1,i2,i3⟩:=fj.mp hk
   have sp:=hP k.s k.e (ky k h2▸h1)
   refine⟨i1.symm,i2,Int.not_lt.mp λz=>?_,sp⟩
   have:=sp.hi x.t ⟨x,mx,i1.trans h2,rfl⟩ z
   lia
  refine⟨⟨λhx=>?_,λ⟨k,mk,hk⟩=>?_⟩,λk mk q mq hk hq=>?_⟩
  ·obtain⟨i1,i2,i3⟩:=fj.mp hx
   obtain⟨s',e',p,h1,h2,h3,h4⟩:=Ip hL hP hc s1' s2 Zh e2 (u:=x.t) ⟨x,mx,i1,rfl⟩ i2 i3
   exact⟨⟨n,s',e'⟩,(mem _).mpr ⟨p,rfl,h1,h2⟩,fj.mpr ⟨i1,h3,h4⟩⟩
  ·obtain⟨h1,h2,h3,h4⟩:=(mem k).mp mk
   obtain⟨i1,i2,i3⟩:=fj.mp hk
   have a1:=s3 k mk
   have a2:=e3 k mk
   exact fj.mpr ⟨i1.trans h2,by show s<=x.t;lia,by show x.t<e;lia⟩
  ·obtain⟨a1,a2,a3,a4⟩:=back k mk hk
   obtain⟨b1,b2,b3,b4⟩:=back q mq hq
   obtain⟨q1,q2⟩:=a4.uniq b4 a2 a3 b2 b3
   rw[ky k ((mem k).mp mk).2.1,ky q ((mem q).mp mq).2.1,q1,q2]
 have vals:∀k∈mt,Gm ws k=some (lH aJ k):=λk mk=>by
  obtain⟨p,hp⟩:=jd.mp ((mem k).mp mk).1
  rw[hp,h.val k p hp]
 have vg:Gm fB ⟨n,s,e⟩=some (cG (lH aJ ⟨n,s,e⟩) (1,a)):=by
  rw[hw,ie]
  congr 1
  by_cases hg:(⟨n,s,e⟩:Ky)∈mt
  ·have all:∀k∈mt,k=⟨n,s,e⟩:=λk mk=>by
    obtain⟨h1,h2,h3,h4⟩:=(mem k).mp mk
    have p1:=hP k.s k.e (ky k h2▸h1)
    have p2:=hP s e ((mem _).mp hg).1
    have a1:=s3 k mk
    have a2:=e3 k mk
    have a3:=p1.le
    obtain⟨q1,q2⟩:=p1.uniq p2 (Int.le_refl _) p1.le a1 LI
    rw[ky k h2,q1,q2]
   have em:mt=[⟨n,s,e⟩]:=by
    cases mt with
    |nil=>exact(nomatch hg)
    |cons q r=>
     have z1:=all q (.head _)
     cases r with
     |nil=>rw[z1]
     |cons q2 r=>
      have z2:=all q2 (.tail _ (.head _))
      exact absurd (show q∈q2::r by rw[z1,z2];exact .head _) (List.nodup_cons.mp nd).1
   have g1:=vals _ hg
   rw[em,Gw g1]
   rfl
  ·have gk:Gm ws ⟨n,s,e⟩=none:=uJ.mp λz=>hg ((mem _).mpr ⟨z,rfl,by show s<_;lia,by show t<e;lia⟩)
   rw[Gv (f:=lH aJ) nd hg vals,gk,parts]
   by_cases hn:mt=[]
   ·rw[if_pos hn,hn]
    rfl
   ·rw[if_neg hn]
    show((0+(sumK (lH aJ) mt).1+1,0+(sumK (lH aJ) mt).2+a):Int×Int)=_
    rw[Int.zero_add,Int.zero_add]
    rfl
 have vo:∀k:Ky,k≠⟨n,s,e⟩->(k∈mt->Gm fB k=none)/\(k∉mt->Gm fB k=Gm ws k):=λk hk=>by
  rw[hw,gI hk]
  exact Jq hk
 have keys:∀k:Ky,k∈fB.map Wn.k↔k=⟨n,s,e⟩\/(k∈ws.map Wn.k/\k∉mt):=λk=>by
  rw[jd]
  by_cases hk:k=⟨n,s,e⟩
  ·exact⟨λ_=>.inl hk,λ_=>⟨_,hk▸vg⟩⟩
  ·by_cases hm:k∈mt
   ·rw[(vo k hk).1 hm]
    exact⟨λ⟨_,z⟩=>(nomatch z),λz=>z.elim (λz=>absurd z hk) λz=>absurd hm z.2⟩
   ·rw[(vo k hk).2 hm,←jd]
    exact⟨λz=>.inr ⟨z,hm⟩,λz=>z.elim (λz=>absurd z hk) λz=>z.1⟩
 have no:qF pl=false->False:=λz=>by rw[ip]at z;cases z
 refine⟨by rw[hw];exact kX (jw h.nd),λk p g=>?_,λz=>(no z).elim,λz=>(no z).elim,λ_ k m=>?_,λ_ x mx=>?_⟩
 ·rw[vd]
  by_cases hk:k=⟨n,s,e⟩
  ·subst hk
   rw[vg]at g
   rw[←Option.some.inj g]
   show _=cG _ (if jI _ _=true then _ else _)
   rw[if_pos gt]
  ·by_cases hm:k∈mt
   ·rw[(vo k hk).1 hm]at g
    cases g
   ·rw[(vo k hk).2 hm]at g
    show p=cG _ (if jI k _=true then _ else _)
    rw[if_neg λz=>hm ?_,jL]
    ·exact h.val k p g
    ·obtain⟨i1,i2,i3⟩:=fj.mp z
     have i2':k.s<=t:=i2
     exact(mem k).mpr ⟨jd.mpr ⟨_,g⟩,i1.symm,by lia,i3⟩
 ·rcases(keys k).mp m with rfl|⟨m1,m2⟩
  ·show ef pl.len (fU _ n) s e
   rw[Tn]
   exact J
  ·by_cases kn:k.n=n
   ·have sp:=hP k.s k.e (ky k kn▸m1)
    have:=AW (t:=t) hL sp λz=>m2 ((mem k).mpr ⟨m1,kn,z⟩)
    rw[kn,Tn]
    exact this
   ·rw[To _ kn]
    exact h.pr ip k m1
 ·rcases List.mem_append.mp mx with z|z
  ·obtain⟨k,mk,kn,k1,k2⟩:=h.pc ip x z
   by_cases hm:k∈mt
   ·have a1:=s3 k hm
    have a2:=e3 k hm
    exact⟨_,(keys _).mpr (.inl rfl),((mem k).mp hm).2.1.symm.trans kn,by show s<=_;lia,by show _<=e-_;lia⟩
   ·exact⟨k,(keys k).mpr (.inr ⟨mk,hm⟩),kn,k1,k2⟩
  ·rw[List.mem_singleton]at z
   subst z
   exact⟨_,(keys _).mpr (.inl rfl),rfl,s2,by show t<=e-_;lia⟩
theorem Tab.step{pl:Pl}(ok:pl.ok){aJ:List Ev}{ws fB:List Wn}{n:Str}{t a:Int}{mt ks:List Ky}(h:Tab pl aJ ws)(r:tS pl n t a ws mt ks fB):Tab pl (aJ++[⟨n,t,a⟩]) fB:=by
 rcases r with⟨np,_,rfl,rfl⟩|⟨ip,pm,_,s,e,h1,h2,h3,h4,h5,h6,_,hw⟩
 ·exact CO ok np h
 ·exact AU ok ip h pm h1 h2 h3 h4 h5 h6 hw
def eL(L:Int)(sp:List (Int×Int))(t:Int):List (Int×Int):=match sp.getLast? with
 |some p=>if t-p.2<L then sp.dropLast++[(p.1,t)]else sp++[(t,t)]
 |none=>[(t,t)]
structure Cl(L:Int)(ds:List Int)(sp:List (Int×Int)):Prop where
 ap:sp.Pairwise λp q=>p.2+L<=q.1
 el:∀p∈sp,p.1<=p.2/\p.1∈ds/\p.2∈ds/\∀u∈ds,p.1<=u->u<p.2->∃v∈ds,u<v/\v<u+L/\v<=p.2
 cv:∀u∈ds,∃p∈sp,p.1<=u/\u<=p.2
theorem Je{L:Int}(hL:1<=L){ds:List Int}{sp:List (Int×Int)}{t:Int}(h:Cl L ds sp)(ht:∀u∈ds,u<=t):Cl L (ds++[t]) (eL L sp t):=by
 unfold eL
 have up:∀{u:Int},u∈ds->u∈ds++[t]:=λm=>List.mem_append_left _ m
 have tm:t∈ds++[t]:=List.mem_append_right _ (.head _)
 have old:∀p∈sp,p.1<=p.2/\p.1∈ds++[t]/\p.2∈ds++[t]/\∀u∈ds++[t],p.1<=u->u<p.2->∃v∈ds++[t],u<v/\v<u+L/\v<=p.2:=λp mp=>by
  obtain⟨h1,h2,h3,h4⟩:=h.el p mp
  refine⟨h1,up h2,up h3,λu mu u1 u2=>?_⟩
  rcases List.mem_append.mp mu with z|z
  ·obtain⟨v,mv,r⟩:=h4 u z u1 u2
   exact⟨v,up mv,r⟩
  ·rw[List.mem_singleton]at z
   have:=ht _ h3
   lia
 cases hg:sp.getLast? with
 |none=>
  have:sp=[]:=List.getLast?_eq_none_iff.mp hg
  subst this
  refine⟨List.pairwise_singleton _ _,λp mp=>?_,λu mu=>?_⟩
  ·rw[List.mem_singleton]at mp
   subst mp
   exact⟨Int.le_refl _,tm,tm,λu _ h1 h2=>absurd h1 (by simp only at h2 ⊢;lia)⟩
  ·rcases List.mem_append.mp mu with z|z
   ·obtain⟨p,mp,_⟩:=h.cv u z
    exact(nomatch mp)
   ·rw[List.mem_singleton]at z
    exact⟨(t,t),.head _,by simp only;lia,by simp only;lia⟩
 |some p=>
  obtain⟨l,rfl⟩:∃l,sp=l++[p]:=by
   obtain⟨ys,e⟩:=List.getLast?_eq_some_iff.mp hg
   exact⟨ys,e⟩
  obtain⟨a1,a2,a3⟩:=List.pairwise_append.mp h.ap
  have mp:p∈l++[p]:=List.mem_append_right _ (.head _)
  obtain⟨p1,p2,p3,p4⟩:=h.el p mp
  have pt:=ht _ p3
  have top:∀u∈ds,u<=p.2:=λu mu=>by
   obtain⟨q,mq,q1,q2⟩:=h.cv u mu
   rcases List.mem_append.mp mq with z|z
   ·have:=a3 q z p (.head _)
    lia
   ·rw[List.mem_singleton]at z
    subst z
    exact q2
  dsimp only
  by_cases hj:t-p.2<L
  ·rw[if_pos hj,List.dropLast_concat]
   refine⟨List.pairwise_append.mpr ⟨a1,List.pairwise_singleton _ _,λq mq r mr=>?_⟩,λq mq=>?_,λu mu=>?_⟩
   ·rw[List.mem_singleton]at mr
    subst mr
    exact a3 q mq p (.head _)
   ·rcases List.mem_append.mp mq with z|z
    ·exact old q (List.mem_append_left _ z)
    ·rw[List.mem_singleton]at z
     subst z
     refine⟨by show p.1<=t;lia,up p2,tm,λu mu u1 u2=>?_⟩
     simp only at u1 u2
     rcases List.mem_append.mp mu with z|z
     ·by_cases hu:u<p.2
      ·obtain⟨v,mv,v1,v2,v3⟩:=p4 u z u1 hu
       exact⟨v,up mv,v1,v2,by show v<=t;lia⟩
      ·have:=top u z
       exact⟨t,tm,by lia,by lia,Int.le_refl _⟩
     ·rw[List.mem_singleton]at z
      lia
   ·rcases List.mem_append.mp mu with z|z
    ·obtain⟨q,mq,q1,q2⟩:=h.cv u z
     rcases List.mem_append.mp mq with y|y
     ·exact⟨q,List.mem_append_left _ y,q1,q2⟩
     ·rw[List.mem_singleton]at y
      subst y
      exact⟨(q.1,t),List.mem_append_right _ (.head _),q1,by show u<=t;lia⟩
    ·rw[List.mem_singleton]at z
     exact⟨(p.1,t),List.mem_append_right _ (.head _),by show p.1<=u;lia,by show u<=t;lia⟩
  ·rw[if_neg hj]
   refine⟨List.pairwise_append.mpr ⟨h.ap,List.pairwise_singleton _ _,λq mq r mr=>?_⟩,λq mq=>?_,λu mu=>?_⟩
   ·rw[List.mem_singleton]at mr
    subst mr
    show q.2+L<=t
    rcases List.mem_append.mp mq with z|z
    ·have:=a3 q z p (.head _)
     lia
    ·rw[List.mem_singleton]at z
     subst z
     lia
   ·rcases List.mem_append.mp mq with z|z
    ·exact old q z
    ·rw[List.mem_singleton]at z
     subst z
     exact⟨Int.le_refl _,tm,tm,λu _ h1 h2=>absurd h1 (by simp only at h2 ⊢;lia)⟩
   ·rcases List.mem_append.mp mu with z|z
    ·obtain⟨q,mq,r⟩:=h.cv u z
     exact⟨q,List.mem_append_left _ mq,r⟩
    ·rw[List.mem_singleton]at z
     exact⟨(t,t),List.mem_append_right _ (.head _),by simp only;lia,by simp only;lia⟩
theorem NQ{L:Int}(hL:1<=L):∀(ts:List Int),ts.Pairwise (· <=·)->Cl L ts (ts.foldl (eL L) []):=by
 have key:∀(ts ds:List Int)(sp:List (Int×Int)),Cl L ds sp->(ds++ts).Pairwise (· <=·)->Cl L (ds++ts) (ts.foldl (eL L) sp):=by
  intro ts
  induction ts with
  |nil=>intro ds sp h _;rw[List.append_nil];exact h
  |cons t ts ih=>
   intro ds sp h hs
   have e:ds++t::ts=(ds++[t])++ts:=by simp
   rw[e]at hs ⊢
   refine ih _ _ (Je hL h λu mu=>?_) hs
   exact(List.pairwise_append.mp (List.pairwise_append.mp hs).1).2.2 u mu t (.head _)
 intro ts hs
 exact key ts [] [] ⟨.nil,λp h=>(nomatch h),λu h=>(nomatch h)⟩ hs
theorem Cl.span{L:Int}(hL:1<=L){ds:List Int}{sp:List (Int×Int)}(h:Cl L ds sp){T:Int->Prop}(hT:∀u,T u↔u∈ds){p:Int×Int}(mp:p∈sp):ef L T p.1 (p.2+L):=by
 obtain⟨p1,p2,p3,p4⟩:=h.el p mp
 have ord:∀q∈sp,q=p\/q.2+L<=p.1\/p.2+L<=q.1:=λq mq=>by
  obtain⟨i,hi,rfl⟩:=List.mem_iff_getElem.mp mq
  obtain⟨j,hj,rfl⟩:=List.mem_iff_getElem.mp mp
  rcases Nat.lt_trichotomy i j with z|z|z
  ·exact .inr (.inl (List.pairwise_iff_getElem.mp h.ap i j hi hj z))
  ·subst z;exact .inl rfl
  ·exact .inr (.inr (List.pairwise_iff_getElem.mp h.ap j i hj hi z))
 have e:p.2+L-L=p.2:=by lia
 refine⟨(hT _).mpr p2,e.symm▸(hT _).mpr p3,by lia,λu tu hu=>?_,λu tu hu=>?_,λu tu h1 h2=>?_⟩
 ·obtain⟨q,mq,q1,q2⟩:=h.cv u ((hT u).mp tu)
  rcases ord q mq with rfl|z|z
  ·lia
  ·lia
  ·have:=(h.el q mq).1
   lia
 ·obtain⟨q,mq,q1,q2⟩:=h.cv u ((hT u).mp tu)
  rcases ord q mq with rfl|z|z
  ·lia
  ·have:=(h.el q mq).1
   lia
  ·lia
 ·obtain⟨v,mv,v1,v2,v3⟩:=p4 u ((hT u).mp tu) h1 LI
  exact⟨v,(hT v).mpr mv,v1,v2,by lia⟩
inductive vp(vs:List V)(H:Hp)(Q:VK):Prop
 |mk(i:Int):(vs=[.int i])->(Q (.bl true) H)->vp vs H Q
def zv:Sp:=λvs H Q d_=>vp vs H Q
theorem WV{x:V}{l:List V}:wW (x::l) 0=some x:=fq (show(x::l)[0]? = some x from rfl)
theorem TM{x y:V}{l:List V}:wW (x::y::l) 1=some y:=fq (show(x::y::l)[1]? = some y from rfl)
section
variable {P:Program} {w:World} {K:Fg7} {mg:Str->Option Value}
theorem yv:PySem.W.kitOne K (.type "int") (.type "bool")=some false:=by with_unfolding_all rfl
theorem IL(D:aH K "_law_whole" dJ)(M:MG K mg)(B:Bi K):eN P w K mg "_law_whole" ["_law_found"] 1 zv:=by
 refine D.fn M rF rL (λvs H Q E h=>?_) (λf base cdv A outer s H vs Q E hr h=>?_)
 ·obtain⟨i,rfl,_⟩:=h
  rfl
 ·obtain⟨i,rfl,k⟩:=h
  refine⟨_,(aA (aL (ju (aU aS rfl (M.no _ B.aO) aK (pc (pv 0) (pc (cj (v:=.ty "int") rfl (M.no _ B.Gi) yK rfl) aj))) (kB (Ej (aU aS rfl (M.no _ B.aO) aK (pc (pv 0) (pc (cj (v:=.ty "bool") rfl (M.no _ B.qS) mO rfl) aj)))))))),?_⟩
  exact⟨_,rfl,_,_,_,true,rfl,.int i,rfl,true,rfl,aW (λ_=>⟨_,rfl,_,_,_,false,rfl,.int i,yv,false,rfl,k⟩) (λh=>absurd rfl h)⟩
end
theorem OJ{G:Prop}{α:Sort _}{P:α->Prop}(R:α)(h1:P R->G)(h2:P R):G:=h1 h2
theorem yR{xs:List V}{i:Int}(h0:0<=i)(h1:i<xs.length):∃x,wW xs i=some x/\x∈xs:=by
 have hl:i.toNat<xs.length:=by lia
 refine⟨xs[i.toNat],?_,List.getElem_mem hl⟩
 have:=fq (xs:=xs) (j:=i.toNat) (v:=xs[i.toNat]) (List.getElem?_eq_getElem hl)
 rwa [Int.toNat_of_nonneg h0]at this
theorem mod2(a b c:Int)(h:0<c):0<=a%b%c/\a%b%c<c:=⟨Int.emod_nonneg _ LI,Int.emod_lt_of_pos _ h⟩
def lens(w:Int):List Int:=[1,2,5,10,12,7,1000000,4*1000000000000000000000000,w]
def vj(w:Int):List Int:=[1,5,2,5,4,3,300000,1000000000000000000000000]++[1+w/3]
def vh(w:Int):List Int:=[1,1,5,3,6,8,1000000,5*1000000000000000000000000]++[2*w]
theorem nine(j:Nat)(h:j<9):j=0\/j=1\/j=2\/j=3\/j=4\/j=5\/j=6\/j=7\/j=8:=by lia
theorem Ml{w:Int}(h1:1<=w)(h2:w<=10^30){j:Nat}(h:j<9):1<=(lens w).getD j 0/\(lens w).getD j 0<=10^30:=by
 rcases nine j h with rfl|rfl|rfl|rfl|rfl|rfl|rfl|rfl|rfl<;>simp[lens]<;>lia
theorem Hq{w:Int}(h1:1<=w)(h2:w<=10^30){j:Nat}(h:j<9):1<=(vj w).getD j 0/\(vj w).getD j 0<=10^31/\(lens w).getD j 0<=100*(vj w).getD j 0:=by
 rcases nine j h with rfl|rfl|rfl|rfl|rfl|rfl|rfl|rfl|rfl<;>simp[lens,vj]<;>lia
theorem Ho{w:Int}(h1:1<=w)(h2:w<=10^30){j:Nat}(h:j<9):1<=(vh w).getD j 0/\(vh w).getD j 0<=10^31/\(lens w).getD j 0<=100*(vh w).getD j 0:=by
 rcases nine j h with rfl|rfl|rfl|rfl|rfl|rfl|rfl|rfl|rfl<;>simp[lens,vh]<;>lia
theorem Ry{w:Int}(h1:0<=w){j:Nat}(h:j<7):0<=([0,1,3,10,1000,6,w]:List Int).getD j 0:=by
 rcases nine j LI with rfl|rfl|rfl|rfl|rfl|rfl|rfl|rfl|rfl<;>simp<;>lia
theorem Jj{pl:Pl}(ok:pl.ok)(h:0<=dS pl):bad pl=false:=by
 obtain⟨l1,_,s1,_,ls⟩:=ok
 unfold bad
 rw[decide_eq_false LI,decide_eq_false LI,decide_eq_false LI,decide_eq_false LI]
 rfl
inductive vA(vs:List V)(H:Hp)(Q:VK):Prop
 |mk(a b:Int):(vs=[.int a,.int b])->(∀(p:Addr)(pl:Pl)(H':Hp),av H H'->H p=none->H' p=some (.tup pl.row)->pl.ok->bad pl=false->Q (.ref p) H')->vA vs H Q
def zD:Sp:=λvs H Q d_=>vA vs H Q
inductive zH(vs:List V)(H:Hp)(Q:VK):Prop
 |mk(z:Str)(b:Int):(vs=[.str z,.int b])->(z.length<=1000)->(∀z':Str,Q (.str z') H)->zH vs H Q
def Dr:Sp:=λvs H Q d_=>zH vs H Q
inductive zR(vs:List V)(H:Hp)(Q:VK):Prop
 |mk(c:Int):(vs=[.int c])->(∀(b:Int)(H':Hp),av H H'->-(10^40)<=b->b<=10^40->Q (.int b) H')->zR vs H Q
def DB:Sp:=λvs H Q d_=>zR vs H Q
inductive zQ(vs:List V)(H:Hp)(Q:VK):Prop
 |mk(c:Int)(i:Nat)(b:Int):(vs=[.int c,.int i,.int b])->(i<=1000)->(-(10^40)<=b)->(b<=10^40)->(∀(p:Addr)(n:Str)(t a:Int)(H':Hp),av H H'->H' p=some (.tup (bV.ev n t a).v)->(bV.ev n t a).ok->Q (.ref p) H')->zQ vs H Q
def Dy:Sp:=λvs H Q d_=>zQ vs H Q
theorem e40:(10:Int)^40=10000000000000000000000000000000000000000:=by decide
theorem TJ:(10:Int)^45=1000000000000000000000000000000000000000000000:=by decide
section
variable {P:Program} {w:World} {K:Fg7} {mg:Str->Option Value}
theorem IS(D:aH K "_law_plan_of" cY)(M:MG K mg):eN P w K mg "_law_plan_of" ["_law_one","_law_two"] 1 zD:=by
 refine D.fn M bR pK (λvs H Q E h=>?_) (λf base cdv A outer s H vs Q E hr h=>?_)
 ·obtain⟨a,b,rfl,_⟩:=h
  rfl
 ·obtain⟨a,b,rfl,k⟩:=h
  refine⟨_,(aq (cV (i:=2) bR.nd rfl (Or.inl rfl) (aC oMod (aC oMod (aC fy (pv 0) ah) ah) ah))
   (aq (cV (i:=3) bR.nd rfl (Or.inl rfl) ah)
   (aq (cV (i:=4) bR.nd rfl (Or.inl rfl) (aC iy ah (aC oMod (pv 0) (aC fy ah (pv 3)))))
   (aq (cV (i:=5) bR.nd rfl (Or.inl rfl) (aI bH (bZ (pc ah (pc ah (pc ah (pc ah (pc ah (pc ah (pc ah (pc (aC fy ah (pv 3)) (pc (pv 4) aj)))))))))) (pv 2) (λ_ _=>rfl)))
   (aq (cV (i:=6) bR.nd rfl (Or.inl rfl) (aI bH (bZ (pc ah (pc ah (pc ah (pc ah (pc ah (pc ah (pc (aC oMod (pv 1) (aC fy ah (pv 3))) aj)))))))) (aC oMod (aC oMod (aC fy (pv 1) ah) ah) ah) (λ_ _=>rfl)))
   (aq (b_ (aP e_ (aC oMod (aC oMod (aC fy (pv 0) ah) ah) ah) ah (aR _)) (aA (aL (cF (pc dh (pc (pv 5) (pc (pv 6) aj)))))) aT)
   (aq (b_ (aP e_ (aC oMod (aC oMod (aC fy (pv 0) ah) ah) ah) ah (aR _)) (aq (cV (i:=7) bR.nd rfl (Or.inl rfl) (bZ (pc (bZ (pc ah (pc ah (pc ah (pc ah (pc ah (pc ah (pc ah (pc (pv 3) aj))))))))) (pc (bZ (pc ah (pc ah (pc ah (pc ah (pc ah (pc ah (pc ah (pc (aC fy ah (pv 3)) aj))))))))) aj))))
   (aq (cV (i:=7) bR.nd rfl (Or.inl rfl) (bZ (pc (aC kE (aI bH (pv 7) ah (λ_ _=>rfl)) (bZ (pc (aC iy ah (aC Ae (pv 4) ah)) aj))) (pc (aC kE (aI bH (pv 7) ah (λ_ _=>rfl)) (bZ (pc (aC fy ah (pv 4)) aj))) aj))))
   (aA (aL (cF (pc dh (pc (pv 5) (pc (aI bH (aI bH (pv 7) (aC oMod (aC oMod (aC fy (pv 1) ah) ah) ah) (λ_ _=>rfl)) (pv 2) (λ_ _=>rfl)) (pc (pv 6) aj))))))))) aT)
   (aA (aL (cF (pc dh (pc (pv 5) (pc (pv 6) aj))))))))))))),?_⟩
  refine⟨_,rfl,_,_,rfl,rfl,.inr ⟨by decide,by decide⟩,_,_,rfl,rfl,(by show(0:Int)<_;decide),_,_,rfl,rfl,(by show(0:Int)<_;decide),?_⟩
  refine⟨_,rfl,_,rfl,_,_,rfl,rfl,.inl ⟨by decide,by decide⟩,_,_,rfl,rfl,(by show(0:Int)<_;decide),_,_,rfl,rfl,?_⟩
  generalize xy:a*48271%1009%9=sp
  have JQ:=jx (a*48271%1009) 9 (by decide)
  rw[xy]at JQ
  have hsl:sp.toNat<9:=by lia
  have w0:=jx a (1000000*1000000000000000000000000) (by decide)
  generalize hw:1+a%(1000000*1000000000000000000000000)=wd
  have w1:1<=wd:=by lia
  have w2:wd<=10^30:=by lia
  clear hw w0 xy
  refine⟨_,rfl,_,_,rfl,rfl,.inl ⟨by decide,by decide⟩,_,rfl,(by show 9<=sizeLine;decide),λl1 e1=>?_⟩
  refine⟨_,rfl,l1,(lens wd).map V.int,sp,_,rfl,rfl,aZ.of af,iB (lens wd) JQ.1 (by show sp<9;lia),?_⟩
  have hL:=Ml w1 w2 hsl
  generalize hlen:(lens wd).getD sp.toNat 0=L at *
  have s1:=av.new (o:=.lst ((lens wd).map V.int)) e1
  refine⟨_,rfl,_,rfl,_,_,rfl,rfl,.inl ⟨by decide,by decide⟩,_,_,rfl,rfl,(by show(0:Int)<_;decide),(by show 7<=sizeLine;decide),λl2 e2=>?_⟩
  refine⟨_,rfl,_,_,rfl,rfl,.inr ⟨by decide,by decide⟩,_,_,rfl,rfl,(by show(0:Int)<_;decide),_,_,rfl,rfl,(by show(0:Int)<_;decide),?_⟩
  have g1:=jx (b*48271%1013) 7 (by decide)
  refine⟨l2,[0,1,3,10,1000,6,b%(1000000*1000000000000000000000000)].map V.int,_,_,rfl,rfl,aZ.of af,iB _ g1.1 (by show _<7;lia),?_⟩
  have hg:0<=([0,1,3,10,1000,6,b%(1000000*1000000000000000000000000)]:List Int).getD (b*48271%1013%7).toNat 0:=Ry (jx b _ (by decide)).1 LI
  generalize ([0,1,3,10,1000,6,b%(1000000*1000000000000000000000000)]:List Int).getD (b*48271%1013%7).toNat 0=g at *
  have s2:=av.new (o:=.lst (([0,1,3,10,1000,6,b%(1000000*1000000000000000000000000)]:List Int).map V.int)) e2
  have Hw:=s1.trans s2
  have fin:∀(p:Addr)(pl:Pl)(H':Hp),av H H'->H p=none->H' p=some (.tup pl.row)->pl.len=L->dS pl=g->1<=pl.stp->pl.stp<=10^31->L<=100*pl.stp->Q (.ref p) H':=λp pl H' q1 q2 q3 q4 q5 q6 q7 q8=>by
   have ok:pl.ok:=⟨by lia,by lia,q6,by lia,by lia⟩
   exact k p pl H' q1 q2 q3 ok (Jj ok LI)
  refine⟨_,rfl,_,_,rfl,rfl,.inr ⟨by decide,by decide⟩,_,_,rfl,rfl,(by show(0:Int)<_;decide),_,_,rfl,rfl,(by show(0:Int)<_;decide),rfl,_,rfl,?_⟩
  refine aW (λ_=>?_) (λ_=>?_)
  ·refine⟨_,rfl,_,rfl,(by show 3<=sizeLine;decide),λp hp=>?_⟩
   exact fin p (.fixed L g) _ (Hw.trans (av.new hp)) (Hw.free hp) af rfl rfl hL.1 (by show L<=_;lia) (by show L<=100*L;lia)
  refine⟨_,rfl,_,_,rfl,rfl,.inr ⟨by decide,by decide⟩,_,_,rfl,rfl,(by show(0:Int)<_;decide),_,_,rfl,rfl,(by show(0:Int)<_;decide),rfl,_,rfl,?_⟩
  refine aW (λ_=>?_) (λ_=>?_)
  ·refine⟨_,rfl,(by show 8<=sizeLine;decide),λl3 e3=>?_⟩
   have s3:=av.new (o:=.lst (([1,5,2,5,4,3,300000,1000000000000000000000000]:List Int).map V.int)) e3
   refine⟨_,rfl,_,_,rfl,rfl,.inl ⟨by decide,by decide⟩,(by show 8<=sizeLine;decide),λl4 e4=>?_⟩
   have s4:=av.new (o:=.lst (([1,1,5,3,6,8,1000000,5*1000000000000000000000000]:List Int).map V.int)) e4
   refine⟨(by show 2<=sizeLine;decide),λl5 e5=>?_⟩
   have s5:=av.new (o:=.lst [.ref l3,.ref l4]) e5
   have a3:=s5 _ _ (s4 _ _ (af (o:=.lst (([1,5,2,5,4,3,300000,1000000000000000000000000]:List Int).map V.int))))
   have a4:=s5 _ _ (af (o:=.lst (([1,1,5,3,6,8,1000000,5*1000000000000000000000000]:List Int).map V.int)))
   have UE:=Hw.trans (s3.trans (s4.trans s5))
   refine⟨_,rfl,l5,_,0,_,rfl,rfl,aZ.of af,rfl,_,rfl,_,_,rfl,rfl,⟨by decide,by decide,by decide⟩,_,_,rfl,rfl,(by show 1<=sizeLine;decide),λl6 e6=>?_⟩
   have s6:=av.new (o:=.lst (([1+wd/3]:List Int).map V.int)) e6
   refine⟨l3,l6,_,([1+wd/3]:List Int).map V.int,rfl,rfl,s6 _ _ a3,af,(by show 9<=sizeLine;decide),λl7 e7=>?_⟩
   have s7:=av.new (o:=.lst ((vj wd).map V.int)) e7
   refine⟨_,rfl,l5,_,1,_,rfl,rfl,aZ.of (s7 _ _ (s6 _ _ af)),rfl,_,rfl,_,_,rfl,rfl,.inl ⟨by decide,by decide⟩,(by show 1<=sizeLine;decide),λl8 e8=>?_⟩
   have s8:=av.new (o:=.lst (([2*wd]:List Int).map V.int)) e8
   refine⟨l4,l8,_,([2*wd]:List Int).map V.int,rfl,rfl,s8 _ _ (s7 _ _ (s6 _ _ a4)),af,(by show 9<=sizeLine;decide),λl9 e9=>?_⟩
   have s9:=av.new (o:=.lst ((vh wd).map V.int)) e9
   refine⟨(by show 2<=sizeLine;decide),λYp e10=>?_⟩
   have xU:=av.new (o:=.lst [.ref l7,.ref l9]) e10
   have a7:=xU _ _ (s9 _ _ (s8 _ _ (af (a:=l7) (o:=.lst ((vj wd).map V.int)))))
   have a9:=xU _ _ (af (a:=l9) (o:=.lst ((vh wd).map V.int)))
   have Bb:=UE.trans (s6.trans (s7.trans (s8.trans (s9.trans xU))))
   have c1:=jx (b*48271%1021) 2 (by decide)
   refine⟨_,rfl,_,rfl,_,rfl,_,_,rfl,rfl,.inr ⟨by decide,by decide⟩,_,_,rfl,rfl,(by show(0:Int)<_;decide),_,_,rfl,rfl,(by show(0:Int)<_;decide),?_⟩
   have two:b*48271%1021%2=0\/b*48271%1021%2=1:=by lia
   rcases two with e|e
   ·refine⟨Yp,[.ref l7,.ref l9],_,.ref l7,rfl,rfl,aZ.of af,by rw[e];rfl,_,rfl,l7,_,sp,_,rfl,rfl,aZ.of a7,iB (vj wd) JQ.1 (by show sp<9;lia),_,rfl,(by show 4<=sizeLine;decide),λp hp=>?_⟩
    have hs:=Hq w1 w2 hsl
    rw[hlen]at hs
    exact fin p (.sliding L ((vj wd).getD sp.toNat 0) g) _ (Bb.trans (av.new hp)) (Bb.free hp) af rfl rfl hs.1 hs.2.1 hs.2.2
   ·refine⟨Yp,[.ref l7,.ref l9],_,.ref l9,rfl,rfl,aZ.of af,by rw[e];rfl,_,rfl,l9,_,sp,_,rfl,rfl,aZ.of a9,iB (vh wd) JQ.1 (by show sp<9;lia),_,rfl,(by show 4<=sizeLine;decide),λp hp=>?_⟩
    have hs:=Ho w1 w2 hsl
    rw[hlen]at hs
    exact fin p (.sliding L ((vh wd).getD sp.toNat 0) g) _ (Bb.trans (av.new hp)) (Bb.free hp) af rfl rfl hs.1 hs.2.1 hs.2.2
  ·refine⟨_,rfl,_,rfl,(by show 3<=sizeLine;decide),λp hp=>?_⟩
   exact fin p (.pauses L g) _ (Hw.trans (av.new hp)) (Hw.free hp) af rfl rfl hL.1 (by show L<=_;lia) (by show L<=100*L;lia)
theorem Nu(D:aH K "_law_long" dX)(M:MG K mg):eN P w K mg "_law_long" ["_law_sign","_law_base"] 1 Dr:=by
 refine D.fn M ua uG (λvs H Q E h=>?_) (λf base cdv A outer s H vs Q E hr h=>?_)
 ·obtain⟨z,b,rfl,_⟩:=h
  rfl
 ·obtain⟨z,b,rfl,hz,k⟩:=h
  refine⟨_,(aA (aL (aC qu (aC qu (aC Ac dh (aC oMod (pv 1) ah)) (pv 0)) (aC Ac dh (aC uq ah (aC oMod (pv 1) ah)))))),?_⟩
  have m1:=jx b 41 (by decide)
  have sl:=sizeLine_eq
  refine⟨_,rfl,_,_,rfl,rfl,(by show(0:Int)<_;decide),"b",_,rfl,rfl,m1.1,by lia,DK,DK,λz1 h1=>?_⟩
  refine⟨_,rfl,z1,z,rfl,rfl,by lia,_,rfl,_,_,rfl,rfl,(by show(0:Int)<_;decide),_,_,rfl,rfl,"b",_,rfl,rfl,by lia,by lia,DK,DK,λz2 h2=>?_⟩
  have e:(z1++z).length=z1.length+z.length:=Array.size_append ..
  exact⟨z1++z,z2,rfl,rfl,by lia,k _⟩
theorem NC(D:aH K "_law_base_of" cZ)(M:MG K mg):eN P w K mg "_law_base_of" ["_law_cell"] 1 DB:=by
 refine D.fn M jh pL (λvs H Q E h=>?_) (λf base cdv A outer s H vs Q E hr h=>?_)
 ·obtain⟨c,rfl,_⟩:=h
  rfl
 ·obtain⟨c,rfl,k⟩:=h
  refine⟨_,(aq (cV (i:=1) jh.nd rfl (Or.inl rfl) ah)
   (aA (aL (aI bH (bZ (pc ah (pc (oO uW ah) (pc ah (pc (oO uW ah) (pc (pv 1) (pc (aC uq ah (pv 1)) aj))))))) (aC oMod (aC oMod (aC fy (pv 0) ah) ah) ah) (λ_ _=>rfl))))),?_⟩
  refine⟨7,rfl,1000000,rfl,_,rfl,_,rfl,_,_,rfl,rfl,(by show 6<=sizeLine;decide),λp hp=>⟨_,rfl,_,_,rfl,rfl,.inr ⟨by decide,by decide⟩,_,_,rfl,rfl,(by show(0:Int)<_;decide),_,_,rfl,rfl,(by show(0:Int)<_;decide),?_⟩⟩
  have m1:=mod2 (c*48271) 1061 6 (by decide)
  obtain⟨bv,ab,mb⟩:=yR (xs:=[V.int 0,V.int (-7),V.int 1000000000000,V.int (-1000000),V.int 10000000000000000000000000000000000000000,V.int (0-10000000000000000000000000000000000000000)]) (i:=c*48271%1061%6) m1.1 m1.2
  obtain⟨b,rfl,hb1,hb2⟩:∃b:Int,bv=.int b/\-(10^40)<=b/\b<=10^40:=by
   simp only[List.mem_cons,List.not_mem_nil,or_false]at mb
   rcases mb with rfl|rfl|rfl|rfl|rfl|rfl<;>exact⟨_,rfl,by decide,by decide⟩
  exact⟨p,_,_,_,rfl,rfl,aZ.of af,ab,k b _ (av.new hp) hb1 hb2⟩
theorem NB(D:aH K "_law_event_of" cL)(M:MG K mg)(pq:eN P w K mg "_law_long" ["_law_sign","_law_base"] 1 Dr):eN P w K mg "_law_event_of" ["_law_cell","_law_k","_law_base"] 2 Dy:=by
 refine D.fn M bY nY (λvs H Q E h=>?_) (λf base cdv A outer s H vs Q E hr h=>?_)
 ·obtain⟨c,i,b,rfl,_⟩:=h
  rfl
 ·obtain⟨c,i,b,rfl,hi,hb1,hb2,k⟩:=h
  refine⟨_,(aq (cV (i:=3) bY.nd rfl (Or.inl rfl) (aI bH (bZ (pc dh (pc dh aj))) (aC oMod (aC oMod (aC fy (pv 0) ah) ah) ah) (λ_ _=>rfl)))
   (iH (b_ (aP e_ (aC oMod (aC oMod (aC fy (pv 0) ah) ah) ah) ah (aR _)) (aA (cV (i:=3) bY.nd rfl (Or.inl rfl) (aI bH (bZ (pc (a_ pq (hr.mono (by decide)) rfl (pc dh (pc (pv 2) aj))) (pc dh (pc dh (pc (a_ pq (hr.mono (by decide)) rfl (pc dh (pc (pv 2) aj))) aj))))) (aC oMod (aC oMod (aC fy (pv 0) ah) ah) ah) (λ_ _=>rfl)))) aT)
   (aq (cV (i:=4) bY.nd rfl (Or.inl rfl) (aC uq (aC iy (aC iy (pv 2) (aC fy ah (pv 1))) (aC oMod (aC oMod (aC fy (pv 0) ah) ah) ah)) ah))
   (iH (b_ (aP e_ (aC oMod (aC oMod (aC fy (pv 0) ah) ah) ah) ah (aR _)) (aA (cV (i:=4) bY.nd rfl (Or.inl rfl) (aC iy (pv 4) (aC oMod (pv 0) ah)))) aT)
   (aq (cV (i:=5) bY.nd rfl (Or.inl rfl) (aC uq (aC oMod (aC oMod (aC fy (pv 0) ah) ah) ah) ah))
   (iH (b_ (aP e_ (aC oMod (aC oMod (aC fy (pv 0) ah) ah) ah) ah (aR _)) (aA (cV (i:=5) bY.nd rfl (Or.inl rfl) (aC fy (pv 5) ah))) aT)
   (aA (aL (cF (pc dh (pc (pv 3) (pc (pv 4) (pc (pv 5) aj))))))))))))),?_⟩
  rw[e40]at hb1 hb2
  refine⟨(by show 2<=sizeLine;decide),λp1 hp1=>⟨_,rfl,_,_,rfl,rfl,.inr ⟨by decide,by decide⟩,_,_,rfl,rfl,(by show(0:Int)<_;decide),_,_,rfl,rfl,(by show(0:Int)<_;decide),?_⟩⟩
  have m1:=mod2 (c*48271) 1031 2 (by decide)
  obtain⟨nv,an,mn⟩:=yR (xs:=[V.str "a",V.str "ab"]) (i:=c*48271%1031%2) m1.1 m1.2
  obtain⟨n0,rfl⟩:∃n:Str,nv=.str n:=by
   simp only[List.mem_cons,List.not_mem_nil,or_false]at mn
   rcases mn with rfl|rfl<;>exact⟨_,rfl⟩
  refine⟨p1,_,_,_,rfl,rfl,aZ.of af,an,?_⟩
  have s1:=av.new (o:=.lst [V.str "a",V.str "ab"]) hp1
  generalize upd H p1 (.lst [V.str "a",V.str "ab"])=H1 at *
  refine⟨λσ' H'=>∃n:Str,σ'=[some (.int c),some (.int i),some (.int b),some (.str n),none,none]/\av H H',⟨_,rfl,_,_,rfl,rfl,.inr ⟨by decide,by decide⟩,_,_,rfl,rfl,(by show(0:Int)<_;decide),_,_,rfl,rfl,(by show(0:Int)<_;decide),rfl,_,rfl,aW (λ_=>?_) (λ_=>⟨n0,rfl,s1⟩)⟩,?_⟩
  ·refine⟨_,rfl,"a",b,rfl,DK,λz1=>⟨_,rfl,"c",b,rfl,DK,λz2=>⟨(by show 4<=sizeLine;decide),λp2 hp2=>⟨_,rfl,_,_,rfl,rfl,.inr ⟨by decide,by decide⟩,_,_,rfl,rfl,(by show(0:Int)<_;decide),_,_,rfl,rfl,(by show(0:Int)<_;decide),?_⟩⟩⟩⟩
   have m2:=mod2 (c*48271) 1097 4 (by decide)
   obtain⟨nv,an,mn⟩:=yR (xs:=[V.str z1,V.str "",V.str "A b",V.str z2]) (i:=c*48271%1097%4) m2.1 m2.2
   obtain⟨n1,rfl⟩:∃n:Str,nv=.str n:=by
    simp only[List.mem_cons,List.not_mem_nil,or_false]at mn
    rcases mn with rfl|rfl|rfl|rfl<;>exact⟨_,rfl⟩
   exact⟨p2,_,_,_,rfl,rfl,aZ.of af,an,n1,rfl,s1.trans (av.new hp2)⟩
  rintro σ' H2 ⟨n,rfl,s2⟩
  refine⟨_,rfl,_,rfl,_,_,rfl,rfl,.inl ⟨by decide,by decide⟩,_,_,rfl,rfl,_,rfl,_,_,rfl,rfl,.inr ⟨by decide,by decide⟩,_,_,rfl,rfl,(by show(0:Int)<_;decide),_,_,rfl,rfl,(by show(0:Int)<_;decide),_,_,rfl,rfl,_,_,rfl,rfl,?_⟩
  have m3:=mod2 (c*48271) 1051 25 (by decide)
  obtain⟨t0,et,b1,b2⟩:∃t0,b+2*(i:Int)+c*48271%1051%25-12=t0/\-100000000000000000000000000000000000000000<=t0/\t0<=100000000000000000000000000000000000000000:=⟨_,rfl,by lia,by lia⟩
  rw[et]
  clear et m3 hb1 hb2
  refine⟨λσ' H'=>∃t:Int,σ'=[some (.int c),some (.int i),some (.int b),some (.str n),some (.int t),none]/\av H H'/\-(10^45)<t/\t<10^45,⟨_,rfl,_,_,rfl,rfl,.inr ⟨by decide,by decide⟩,_,_,rfl,rfl,(by show(0:Int)<_;decide),_,_,rfl,rfl,(by show(0:Int)<_;decide),rfl,_,rfl,aW (λ_=>?_) (λ_=>⟨t0,rfl,s2,by rw[TJ];lia,by rw[TJ];lia⟩)⟩,?_⟩
  ·refine⟨_,rfl,_,rfl,_,_,rfl,rfl,(by show(0:Int)<_;decide),_,_,rfl,rfl,t0+c%1000000000000000000000000000000,rfl,s2,?_,?_⟩
   ·have:=jx c 1000000000000000000000000000000 (by decide)
    rw[TJ];lia
   ·have:=jx c 1000000000000000000000000000000 (by decide)
    rw[TJ];lia
  rintro σ' H3 ⟨t,rfl,s3,ht1,Tf⟩
  refine⟨_,rfl,_,_,rfl,rfl,.inr ⟨by decide,by decide⟩,_,_,rfl,rfl,(by show(0:Int)<_;decide),_,_,rfl,rfl,(by show(0:Int)<_;decide),_,_,rfl,rfl,?_⟩
  have m4:=mod2 (c*48271) 1039 41 (by decide)
  obtain⟨a0,ea,b3,b4⟩:∃a0,c*48271%1039%41-20=a0/\-20<=a0/\a0<=20:=⟨_,rfl,by lia,by lia⟩
  rw[ea]
  clear ea m4
  refine⟨λσ' H'=>∃a:Int,σ'=[some (.int c),some (.int i),some (.int b),some (.str n),some (.int t),some (.int a)]/\av H H',⟨_,rfl,_,_,rfl,rfl,.inr ⟨by decide,by decide⟩,_,_,rfl,rfl,(by show(0:Int)<_;decide),_,_,rfl,rfl,(by show(0:Int)<_;decide),rfl,_,rfl,aW (λ_=>?_) (λ_=>⟨a0,rfl,s3⟩)⟩,?_⟩
  ·exact⟨_,rfl,_,_,rfl,rfl,.inl ⟨by lia,by lia⟩,_,rfl,s3⟩
  rintro σ' H4 ⟨a,rfl,s4⟩
  refine⟨_,rfl,_,rfl,_,rfl,(by show 4<=sizeLine;decide),λp hp=>?_⟩
  exact k p n t a _ (s4.trans (av.new hp)) af ⟨ht1,Tf⟩
end
def Of(p:Int×Int):List V:=[.int p.1,.int p.2]
inductive sf(vs:List V)(H:Hp)(Q:VK):Prop
 |mk(a:Addr)(ts:List Int)(L:Int):(vs=[.ref a,.int L])->(H a=some (.lst (ts.map V.int)))->(ts.length<=1000)->(∀(r:Addr)(ys:List V)(ps:List Int)(H':Hp),av H H'->H r=none->H' r=some (.lst ys)->ps.Perm ts->ps.Pairwise (· <=·)->aD Of H' ys ((ps.foldl (eL L) []).map λp=>(p.1,p.2+L))->Q (.ref r) H')->sf vs H Q
def vB(K:Fg7):Sp:=λvs H Q d_=>sf vs H Q
theorem wB{K:Fg7}{H:Hp}:∀(ts:List Int),gf K H (ts.map V.int) (ts.map Dv.int)
 |[]=>.nil
 |t::ts=>.cons (.int t) (wB ts)
theorem Ja{a b:Int}(h:aV (.int a) (.int b)≠.gt):a<=b:=by
 have e:aV (.int a) (.int b)=if a=b then .eq else if a<b then .lt else .gt:=by rw[aV]
 rw[e]at h
 by_cases h1:a=b
 ·lia
 ·rw[if_neg h1]at h
  by_cases h2:a<b
  ·lia
  ·rw[if_neg h2]at h
   exact absurd rfl h
theorem sorted_ints{ts:List Int}{ps:List (V×Dv)}(hp:ps.Perm ((ts.map V.int).zip (ts.map Dv.int)))(hs:(ps.map (·.2)).Pairwise (λd e=>aV d e≠.gt)):
  ∃qs:List Int,qs.Perm ts/\qs.Pairwise (· <=·)/\ps.map (·.1)=qs.map V.int:=by
 have e:(ts.map V.int).zip (ts.map Dv.int)=ts.map λt=>(V.int t,Dv.int t):=List.zip_map'
 rw[e]at hp
 have hm:∀p∈ps,∃t:Int,p=(V.int t,Dv.int t):=λp mp=>by
  obtain⟨t,_,rfl⟩:=List.mem_map.mp (hp.mem_iff.mp mp)
  exact⟨t,rfl⟩
 let f:V×Dv->Int:=λp=>match p.2 with
  |.int t=>t
  |_=>0
 have e2:(ts.map λt=>(V.int t,Dv.int t)).map f=ts:=by
  rw[List.map_map]
  exact(List.map_congr_left λt _=>rfl).trans (List.map_id _)
 refine⟨ps.map f,e2▸hp.map f,?_,?_⟩
 ·rw[List.pairwise_map]at hs ⊢
  refine hs.imp_of_mem λ{p q} mp mq h=>?_
  obtain⟨t,rfl⟩:=hm p mp
  obtain⟨u,rfl⟩:=hm q mq
  exact Ja h
 ·rw[List.map_map]
  refine List.map_congr_left λp mp=>?_
  obtain⟨t,rfl⟩:=hm p mp
  rfl
theorem sG{H H':Hp}{r:Addr}(s:av H H')(h:H' r=none):H r=none:=by
 cases e:H r with
 |none=>rfl
 |some u=>rw[s _ _ e]at h;cases h
theorem qI(L:Int):∀(ts:List Int)(sp:List (Int×Int)),(ts.foldl (eL L) sp).length<=sp.length+ts.length:=by
 intro ts
 induction ts with
 |nil=>intro sp;exact Nat.le_refl _
 |cons t ts ih=>
  intro sp
  have h:=ih (eL L sp t)
  have h2:(eL L sp t).length<=sp.length+1:=by
   unfold eL
   split
   ·split
    ·rw[List.length_append,List.length_dropLast,List.length_singleton];lia
    ·rw[List.length_append,List.length_singleton];lia
   ·rw[List.length_singleton];lia
  rw[List.foldl_cons,List.length_cons]
  lia
theorem Ms{α:Type}{f:α->List V}{H:Hp}{xs:List V}{y:V}{ws:List α}(h:aD f H (xs++[y]) ws):∃GD w a,y=.ref a/\ws=GD++[w]/\aD f H xs GD/\H a=some (.tup (f w)):=by
 induction xs generalizing ws with
 |nil=>
  cases h with
  |cons h1 h2=>
   cases h2
   obtain⟨a,rfl,ha⟩:=h1
   exact⟨[],_,a,rfl,rfl,.nil,ha⟩
 |cons x xs ih=>
  cases h with
  |cons h1 h2=>
   obtain⟨GD,w,a,e1,e2,l,ha⟩:=ih h2
   exact⟨_::GD,w,a,e1,by rw[e2];rfl,.cons h1 l,ha⟩
theorem EY{xs:List V}{y:V}:EZ (xs++[y]).length (-1)=some xs.length:=by
 unfold EZ
 rw[List.length_append,List.length_singleton,if_neg (by decide),if_pos LI]
 congr 1
 lia
theorem DI{xs:List V}{y z:V}:(xs++[y]).set xs.length z=xs++[z]:=by simp
section
variable {P:Program} {w:World} {K:Fg7} {mg:Str->Option Value}
theorem FF(D:aH K "_law_pauses" cS)(M:MG K mg)(B:Bi K):eN P w K mg "_law_pauses" ["_law_times","_law_gap"] 1 (vB K):=by
 refine D.fn M gM qR (λvs H Q E h=>?_) (λf base cdv A outer s H vs Q E hr h=>?_)
 ·obtain⟨a,ts,L,rfl,_⟩:=h
  rfl
 ·obtain⟨a,ts,L,rfl,ha,hl,k⟩:=h
  have hu:(A.deeper (envOfC "_law_pauses" (ao cS) s.heap.objs.size f cdv)).units+64<cLine:=hr.units
  refine⟨_,(aq (cV (i:=2) gM.nd rfl (Or.inl rfl) (bZ aj))
   (aq (eT PassesOwn.never rfl (bL (aU (gA hu) rfl (M.no _ B.iM) gH (pc (pv 0) aj))) (aQ (i:=3) gM.nd rfl (Or.inl rfl))
   (aA (b_ (PW.pt (jq (aP UR (aU br rfl (M.no _ B.iN) fT (pc (pv 2) aj)) ah (aR _)) (iU (aP oLt (aC uq (pv 3) (aI bC (aI bH (pv 2) (oO uW ah) (λ_ _=>rfl)) ah (λ_ _=>rfl))) (pv 1) (aR _))))) (aA (LL (cF (pc (aI bC (aI bH (pv 2) (oO uW ah) (λ_ _=>rfl)) ah (λ_ _=>rfl)) (pc (pv 3) aj))) (LQ (pv 2) (oO uW ah) set_list))) (aA (iI (oQ PySem.F.plainAttrs_list PySem.F.slot_list_append PySem.F.type_list_append ff (pv 2) (pc (cF (pc (pv 3) (pc (pv 3) aj))) aj)))))))
   (aA (aL (dY (NY:=["_law_span","_law_gap"]) (js:=[none,some 1]) rfl rfl (by with_unfolding_all rfl) (by repeat first|exact cI.nil|refine cI.cons rfl ?_) (.own (.out rfl rfl (.inl rfl) .nil)) (bL (pv 2)) (λ_ _ _ _ _=>⟨(aQ (i:=0) (show(["_law_span","_law_gap"]:List Str).Nodup from by decide +kernel) rfl (Or.inl rfl)),fh,(cF (pc (aI (bh (K:=K) rfl) (pv 0) ah (λ_ _=>rfl)) (pc (aC iy (aI (bh (K:=K) rfl) (pv 0) ah (λ_ _=>rfl)) (pv 1)) aj)))⟩)))))),?_⟩
  refine⟨(by show 0<=sizeLine;decide),λsl hsl=>?_⟩
  have hsa:upd H sl (.lst []) a=some (.lst (ts.map V.int)):=(av.new hsl) _ _ ha
  refine⟨_,rfl,a,_,ts.map Dv.int,.int,rfl,aZ.of hsa,wB ts,λd md=>?_,rfl,by decide,?_,λl ps hl hp hs=>?_⟩
  ·obtain⟨t,_,rfl⟩:=List.mem_map.mp md
   rfl
  ·rw[List.length_map]
   exact⟨by lia,by show _<10000001;lia⟩
  obtain⟨qs,q1,q2,q3⟩:=sorted_ints hp hs
  rw[q3]
  have SJ:l≠sl:=λz=>by rw[z,af]at hl;cases hl
  refine⟨l,rfl,⟨_,aZ.of af⟩,?_⟩
  refine fm (K:=K) (a:=l) (xs:=qs.map V.int) (λi σ H'=>∃(v:Option V) (xs:List V),σ=[some (.ref a),some (.int L),some (.ref sl),v]/\(∀b u,b≠sl->upd (upd H sl (.lst [])) l (.lst (qs.map V.int)) b=some u->H' b=some u)/\H' sl=some (.lst xs)/\aD Of H' xs ((qs.take i).foldl (eL L) []))
   ⟨none,[],rfl,λ_ _ _ e=>e,by rw[ai SJ.symm];exact af,.nil⟩ (λi σ H' _ ⟨_,_,_,sm,_⟩=>aZ.of (sm _ _ SJ af)) ?_ ?_
  ·rintro i x σ H' ex ⟨v,xs,rfl,sm,hx,la⟩
   rw[List.getElem?_map]at ex
   obtain⟨t,et,rfl⟩:=Option.map_eq_some_iff.mp ex
   have htk:(qs.take (i+1)).foldl (eL L) []=eL L ((qs.take i).foldl (eL L) []) t:=by rw[List.take_add_one,et];simp
   have hlen:=la.len
   have hfl:=qI L (qs.take i) []
   have hi:i<qs.length:=(List.getElem?_eq_some_iff.mp et).1
   have VP:=q1.length_eq
   have BN:=List.length_take_le i qs
   rw[List.length_nil]at hfl
   rw[htk]
   generalize (qs.take i).foldl (eL L) []=sp at *
   have hsz:xs.length<sizeLine:=by rw[hlen,sizeLine_eq];lia
   refine' OJ (P:=λR:Prop=>eL L sp t=sp++[(t,t)]->R) _ (λnew=>?main) ?new
   case main=>
    refine⟨_,rfl,sl,_,rfl,.inl (aZ.of hx),_,_,rfl,rfl,_,rfl,aW (λhg=>?_) (λhg=>?_)⟩
    rotate_left
    ·refine' new ?_
     have:xs=[]:=by
      cases xs with
      |nil=>rfl
      |cons x xs=>exact absurd (decide_eq_true (show(0:Int)<((x::xs).length:Int) by rw[List.length_cons];lia)) hg
     subst this
     have:sp=[]:=List.eq_nil_of_length_eq_zero hlen.symm
     subst this
     rfl
    have hg':(0:Int)<(xs.length:Int):=of_decide_eq_true hg
    obtain⟨OF,y,rfl⟩:∃OF y,xs=OF++[y]:=by
     rcases List.eq_nil_or_concat xs with rfl|⟨a,b,e⟩
     ·exact absurd hg' (by decide)
     ·exact⟨a,b,by rw[e,List.concat_eq_append]⟩
    obtain⟨JQ,p,q,rfl,rfl,la1,hq⟩:=Ms la
    have hst:eL L (JQ++[p]) t=if t-p.2<L then JQ++[(p.1,t)]else JQ++[p]++[(t,t)]:=by
     unfold eL
     rw[List.getLast?_concat]
     dsimp only
     rw[List.dropLast_concat]
    refine⟨_,rfl,_,rfl,1,rfl,sl,_,-1,.ref q,rfl,rfl,aZ.of hx,qT _ _,q,_,1,.int p.2,rfl,rfl,bJ.of hq,TM,_,_,rfl,rfl,_,rfl,_,_,rfl,rfl,_,rfl,aW (λhj=>?_) (λhj=>?_)⟩
    rotate_left
    ·refine' new ?_
     rw[hst,if_neg λz=>hj (decide_eq_true z)]
    rw[hst,if_pos (of_decide_eq_true hj)]
    refine⟨_,rfl,1,rfl,sl,_,-1,.ref q,rfl,rfl,aZ.of hx,qT _ _,q,_,0,.int p.1,rfl,rfl,bJ.of hq,WV,_,rfl,(by show 2<=sizeLine;decide),λc hc=>⟨_,rfl,1,rfl,?_⟩⟩
    have up:∀b row,H' b=some (.tup row)->upd (upd H' c (.tup [.int p.1,.int t])) sl (.lst (OF++[.ref c])) b=some (.tup row):=λb row e=>by
     rw[ai (aN e hx (by intro z;cases z))]
     exact(av.new hc) _ _ e
    have Ve:c≠sl:=λz=>by rw[z,hx]at hc;cases hc
    refine⟨sl,_,-1,OF.length,rfl,rfl,(av.new hc) _ _ hx,EY,?_⟩
    rw[DI]
    refine⟨_,OF++[.ref c],rfl,λb u nb e=>?_,af,(la1.keep up).snoc (w:=(p.1,t)) (by rw[ai Ve];exact af)⟩
    rw[ai nb]
    exact(av.new hc) _ _ (sm b u nb e)
   case new=>
    intro hst
    rw[hst]
    refine⟨_,rfl,.inl ⟨rfl,_,aZ.of hx⟩,_,rfl,_,rfl,(by show 2<=sizeLine;decide),λc hc=>⟨sl,_,.ref c,rfl,rfl,(av.new hc) _ _ hx,hsz,?_⟩⟩
    have up:∀b row,H' b=some (.tup row)->upd (upd H' c (.tup [.int t,.int t])) sl (.lst (xs++[.ref c])) b=some (.tup row):=λb row e=>by
     rw[ai (aN e hx (by intro z;cases z))]
     exact(av.new hc) _ _ e
    have Ve:c≠sl:=λz=>by rw[z,hx]at hc;cases hc
    refine⟨_,xs++[.ref c],rfl,λb u nb e=>?_,af,(la.keep up).snoc (w:=(t,t)) (by rw[ai Ve];exact af)⟩
    rw[ai nb]
    exact(av.new hc) _ _ (sm b u nb e)
  ·rintro σ H' ⟨v,xs,rfl,sm,hx,la⟩
   rw[List.length_map,List.take_length]at la
   have hlen:=la.len
   have hfl:=qI L qs []
   have VP:=q1.length_eq
   rw[List.length_nil]at hfl
   have sH:av H H':=λb u e=>sm b u (au e hsl) ((av.new hl) _ _ ((av.new hsl) _ _ e))
   have key:∀(r:Addr)(ys:List V)(H2:Hp),av H H2->H r=none->H2 r=some (.lst ys)->aD Of H2 ys ((qs.foldl (eL L) []).map λp=>(p.1,p.2+L))->Q (.ref r) H2:=λr ys H2 s1 h0 h1 h2=>k r ys qs H2 s1 h0 h1 q1 q2 h2
   clear k sm
   generalize qs.foldl (eL L) []=sp at *
   refine⟨_,rfl,sl,rfl,⟨_,aZ.of hx⟩,λr hr=>?_⟩
   refine dQ (K:=K) (a:=sl) (xs:=xs) (λi ys H2=>av H' H2/\H2 r=some (.lst ys)/\aD Of H2 ys ((sp.take i).map λp=>(p.1,p.2+L))) ⟨av.new hr,af,.nil⟩ (λi ys H2 h=>h.2.1) (λi ys H2 _ h=>h.1.seq (aZ.of hx)) ?_ ?_
   ·rintro i x ys H2 ex ⟨s2,h2,Ig⟩
    obtain⟨p,q,ep,rfl,hq⟩:=la.get ex
    have hq2:=s2 _ _ hq
    refine⟨cH rfl,?_⟩
    refine⟨_,rfl,q,_,0,_,rfl,rfl,bJ.of hq2,WV,_,rfl,q,_,1,_,rfl,rfl,bJ.of hq2,TM,_,rfl,_,_,rfl,rfl,(by show 2<=sizeLine;decide),λc hc=>⟨ys,(av.new hc) _ _ h2,?_,?_⟩⟩
    ·have:=Ig.len
     rw[List.length_map,List.length_take]at this
     rw[sizeLine_eq]
     lia
    have hi:=(List.getElem?_eq_some_iff.mp ep).1
    have htk:sp.take (i+1)=sp.take i++[p]:=by rw[List.take_add_one,ep];rfl
    have ncr:c≠r:=λz=>by rw[z,h2]at hc;cases hc
    rw[htk,List.map_append]
    refine⟨λb u e=>?_,af,(Ig.keep λb row e=>?_).snoc (w:=(p.1,p.2+L)) (by rw[ai ncr];exact af)⟩
    ·rw[ai (au e hr)]
     exact(av.new hc) _ _ (s2 _ _ e)
    ·rw[ai (aN e h2 (by intro z;cases z))]
     exact(av.new hc) _ _ e
   ·rintro ys H2 ⟨s2,h2,Ig⟩
    rw[hlen,List.take_length]at Ig
    exact key r ys H2 (sH.trans s2) (sG sH hr) h2 Ig
end
structure Gp(pl:Pl)(ts:List Int)(sp:List (Int×Int)):Prop where
 nd:sp.Nodup
 gr:qF pl=false->∀q,q∈sp↔Cj pl q.1 q.2/\∃t∈ts,q.1<=t/\t<q.2
 pr:qF pl=true->∀q∈sp,ef pl.len (λu=>u∈ts) q.1 q.2
 pc:qF pl=true->∀t∈ts,∃q∈sp,q.1<=t/\t<=q.2-pl.len
 len:sp.length<=100*ts.length
inductive sC(K:Fg7)(vs:List V)(H:Hp)(Q:VK):Prop
 |mk(p a:Addr)(pl:Pl)(ts:List Int):(vs=[.ref p,.ref a])->(bJ K H p pl.row)->(pl.ok)->(H a=some (.lst (ts.map V.int)))->(ts.length<=1000)->((∀t∈ts,-(10^45)<t/\t<10^45))->(∀(r:Addr)(ys:List V)(sp:List (Int×Int))(H':Hp),av H H'->H r=none->H' r=some (.lst ys)->Gp pl ts sp->aD Of H' ys sp->Q (.ref r) H')->sC K vs H Q
def vF(K:Fg7):Sp:=λvs H Q d_=>sC K vs H Q
def addQ(sp:List (Int×Int))(q:Int×Int):List (Int×Int):=if q∈sp then sp else sp++[q]
theorem EE{sp:List (Int×Int)}{q x:Int×Int}:x∈addQ sp q↔x∈sp\/x=q:=by
 unfold addQ
 by_cases h:q∈sp
 ·rw[if_pos h]
  exact⟨.inl,λz=>z.elim id λe=>e▸h⟩
 ·rw[if_neg h,List.mem_append,List.mem_singleton]
theorem HZ{sp:List (Int×Int)}{q:Int×Int}(n:sp.Nodup):(addQ sp q).Nodup:=by
 unfold addQ
 by_cases h:q∈sp
 ·rw[if_pos h];exact n
 ·rw[if_neg h]
  exact List.nodup_append.mpr ⟨n,(List.pairwise_singleton _ _),λa ma b mb e=>h (by rw[List.mem_singleton]at mb;rw[←mb,←e];exact ma)⟩
theorem EM(sp:List (Int×Int))(q:Int×Int):(addQ sp q).length<=sp.length+1:=by
 unfold addQ
 split
 ·lia
 ·rw[List.length_append,List.length_singleton];lia
def Ih(sp:List (Int×Int)):List (List Key×V):=sp.map λq=>(([.inl q.1,.inl q.2]:List Key),V.bl true)
theorem HF(sp:List (Int×Int))(a b:Int):putK (Ih sp) [.inl a,.inl b] (.bl true)=Ih (addQ sp (a,b)):=by
 have inj:∀q:Int×Int,(([.inl q.1,.inl q.2]:List Key)=[.inl a,.inl b])↔q=(a,b):=λq=>
  ⟨λe=>by
   obtain⟨e1,e2⟩:=List.cons.inj e
   have e3:=(List.cons.inj e2).1
   exact Prod.ext (Sum.inl.inj e1) (Sum.inl.inj e3),λe=>by rw[e]⟩
 unfold putK addQ
 by_cases h:(a,b)∈sp
 ·have hy:((Ih sp).any λkv=>decide (kv.1=[.inl a,.inl b]))=true:=List.any_eq_true.mpr ⟨(([.inl a,.inl b]:List Key),V.bl true),List.mem_map.mpr ⟨(a,b),h,rfl⟩,decide_eq_true rfl⟩
  rw[if_pos h,if_pos hy]
  refine(List.map_congr_left λkv m=>?_).trans (List.map_id _)
  obtain⟨q,_,rfl⟩:=List.mem_map.mp m
  dsimp only
  split<;>rfl
 ·rw[if_neg h,if_neg λz=>?_]
  ·unfold Ih
   rw[List.map_append]
   rfl
  ·obtain⟨kv,m,e⟩:=List.any_eq_true.mp z
   obtain⟨q,mq,rfl⟩:=List.mem_map.mp m
   have:=(inj q).mp (of_decide_eq_true e)
   exact h (this▸mq)
theorem Ij{H:Hp}:∀{sp:List (Int×Int)}{ys:List V},Paired (λ(y:V) (p:List Key×V)=>∃b,y=.ref b/\H b=some (.tup (p.1.map kV))) ys (Ih sp)->aD Of H ys sp:=by
 intro sp
 induction sp with
 |nil=>intro ys h;cases h;exact .nil
 |cons q sp ih=>
  intro ys h
  cases h with
  |cons h1 h2=>exact .cons h1 (ih h2)
theorem GQ{stp len t k:Int}(s1:1<=stp):((t-len)/stp+1<=k/\k<t/stp+1)↔(k*stp<=t/\t<k*stp+len):=by
 have e1:k<=t/stp↔k*stp<=t:=Int.le_ediv_iff_mul_le LI
 have e2:(t-len)/stp<k↔t-len<k*stp:=Int.ediv_lt_iff_lt_mul LI
 constructor
 ·rintro⟨h1,h2⟩
  have:=e1.mp LI
  have:=e2.mp LI
  lia
 ·rintro⟨h1,h2⟩
  have:=e1.mpr h1
  have:=e2.mpr LI
  lia
theorem GR{stp len t:Int}(s1:1<=stp)(ls:len<=100*stp):t/stp-(t-len)/stp<=100:=by
 have e2:(t-len)/stp<t/stp-100↔t-len<(t/stp-100)*stp:=Int.ediv_lt_iff_lt_mul LI
 have e3:t/stp*stp<=t:=Int.ediv_mul_le _ LI
 have:¬(t-len)/stp<t/stp-100:=λh=>by
  have:=e2.mp h
  rw[Int.sub_mul]at this
  lia
 lia
theorem vD{pl:Pl}(ip:qF pl=true)(ok:pl.ok){ts ps:List Int}(hp:ps.Perm ts)(hs:ps.Pairwise (· <=·)):Gp pl ts ((ps.foldl (eL pl.len) []).map λp=>(p.1,p.2+pl.len)):=by
 have l1:=ok.l1
 have C:=NQ l1 ps hs
 have hf:=qI pl.len ps []
 generalize ps.foldl (eL pl.len) []=sp at *
 refine⟨?_,λnp=>(by rw[ip]at np;cases np),λ_ q mq=>?_,λ_ t mt=>?_,?_⟩
 ·refine List.pairwise_map.mpr (C.ap.imp_of_mem λ{p q} mp mq h e=>?_)
  have:=(C.el p mp).1
  have:=congrArg Prod.fst e
  simp only at this
  lia
 ·obtain⟨p,mp,rfl⟩:=List.mem_map.mp mq
  exact C.span l1 (λu=>hp.mem_iff.symm) mp
 ·obtain⟨p,mp,h1,h2⟩:=C.cv t (hp.mem_iff.mpr mt)
  exact⟨(p.1,p.2+pl.len),List.mem_map.mpr ⟨p,mp,rfl⟩,h1,by simp only;lia⟩
 ·rw[List.length_map]
  have:=hp.length_eq
  rw[List.length_nil]at hf
  lia
section
variable {P:Program} {w:World} {K:Fg7} {mg:Str->Option Value}
theorem BU(D:aH K "_law_spans_of" cK)(M:MG K mg)(B:Bi K)(rN:eN P w K mg "_law_pauses" ["_law_times","_law_gap"] 1 (vB K)):eN P w K mg "_law_spans_of" ["_law_plan","_law_times"] 2 (vF K):=by
 refine D.fn M cP nX (λvs H Q E h=>?_) (λf base cdv A outer s H vs Q E hr h=>?_)
 ·obtain⟨p,a,pl,ts,rfl,_⟩:=h
  rfl
 ·obtain⟨p,a,pl,ts,rfl,hp,ok,ha,hl,hb,k⟩:=h
  have hu1:=wC hr
  refine⟨_,(aq (b_ (aP e_ (aI bC (pv 0) ah (λ_ _=>rfl)) dh (aR _)) (aA (aL (a_ rN (hr.mono (by decide)) rfl (pc (pv 1) (pc (aI bC (pv 0) ah (λ_ _=>rfl)) aj))))) aT)
   (aq (cV (i:=2) cP.nd rfl (Or.inl rfl) (aI bC (pv 0) ah (λ_ _=>rfl)))
   (iH (b_ (aP e_ (aI bC (pv 0) ah (λ_ _=>rfl)) dh (aR _)) (aA (cV (i:=2) cP.nd rfl (Or.inl rfl) (aI bC (pv 0) ah (λ_ _=>rfl)))) aT)
   (aq (cV (i:=3) cP.nd rfl (Or.inl rfl) vP)
   (aq (eT PassesOwn.never rfl (bL (pv 1)) (aQ (i:=4) cP.nd rfl (Or.inl rfl))
   (aA (eT PassesOwn.never rfl (ya rfl (M.no _ B.jK) (pc (aC iy (aC Ae (aC uq (pv 4) (aI bC (pv 0) ah (λ_ _=>rfl))) (pv 2)) ah) (pc (aC iy (aC Ae (pv 4) (pv 2)) ah) aj))) (aQ (i:=5) cP.nd rfl (Or.inl rfl))
   (aA (zX hu1 (pv 3) (cF (pc (aC Ew (pv 5) (pv 2)) (pc (aC iy (aC Ew (pv 5) (pv 2)) (aI bC (pv 0) ah (λ_ _=>rfl))) aj))) iJ rfl)))))
   (aA (aL (pX (qO rfl) rfl (M.no _ B.iA) f_ (pc (pv 3) aj))))))))),?_⟩
  refine⟨_,rfl,p,_,0,_,rfl,rfl,hp,DR pl,rfl,_,rfl,aW (λh=>?_) (λh=>?_)⟩
  ·have e:=FO h
   have ip:qF pl=true:=by
    cases pl with
    |fixed l g=>exact absurd e PU
    |sliding l s g=>exact absurd e PN
    |pauses l g=>rfl
   exact⟨_,rfl,_,rfl,p,_,1,_,rfl,rfl,hp,sI pl,a,ts,pl.len,rfl,ha,hl,λr ys ps H' s1 h0 h1 q1 q2 la=>k r ys _ H' s1 h0 h1 (vD ip ok q1 q2) la⟩
  have np:qF pl=false:=by
   cases pl with
   |fixed l g=>rfl
   |sliding l s g=>rfl
   |pauses l g=>exact absurd (decide_eq_true rfl) h
  have l1:=ok.l1
  have l2:=ok.l2
  have s1:=ok.s1
  have s2:=ok.s2
  refine⟨_,rfl,p,_,1,_,rfl,rfl,hp,sI pl,?_⟩
  refine⟨λσ H'=>σ=[some (.ref p),some (.ref a),some (.int pl.stp),none,none,none]/\H'=H,?_,?_⟩
  ·refine⟨_,rfl,p,_,0,_,rfl,rfl,hp,DR pl,rfl,_,rfl,aW (λh=>?_) (λh=>?_)⟩
   ·have e:=FO h
    refine⟨_,rfl,p,_,2,.int pl.stp,rfl,rfl,hp,?_,rfl,rfl⟩
    cases pl with
    |fixed l g=>exact absurd e PR
    |sliding l s g=>rfl
    |pauses l g=>cases np
   ·refine⟨?_,rfl⟩
    cases pl with
    |fixed l g=>rfl
    |sliding l s g=>exact absurd (decide_eq_true rfl) h
    |pauses l g=>cases np
  rintro σ H' ⟨rfl,rfl⟩
  intro d hd
  have sd:=av.new (o:=.dT []) hd
  refine⟨_,rfl,a,rfl,⟨_,aZ.of (sd _ _ ha)⟩,?_⟩
  refine fm (K:=K) (a:=a) (xs:=ts.map V.int) (λi σ H2=>∃(v4 v5:Option V) (sp:List (Int×Int)),σ=[some (.ref p),some (.ref a),some (.int pl.stp),some (.ref d),v4,v5]/\av H' H2/\H2 d=some (.dT (Ih sp))/\sp.Nodup/\sp.length<=100*i/\∀q,q∈sp↔Cj pl q.1 q.2/\∃t∈ts.take i,q.1<=t/\t<q.2)
   ⟨none,none,[],rfl,sd,af,.nil,Nat.le_refl _,λq=>⟨λh=>(nomatch h),λ⟨_,t,mt,_⟩=>(nomatch mt)⟩⟩ (λi σ H2 _ ⟨_,_,_,_,sm,_⟩=>aZ.of (sm _ _ ha)) ?_ ?_
  ·rintro i x σ H2 ex ⟨v4,v5,sp,rfl,sm,h2,nd,Tj,hm⟩
   rw[List.getElem?_map]at ex
   obtain⟨t,et,rfl⟩:=Option.map_eq_some_iff.mp ex
   have hi:i<ts.length:=(List.getElem?_eq_some_iff.mp et).1
   obtain⟨t1,t2⟩:=hb t (List.mem_of_getElem? et)
   have dq:=yH (a:=t-pl.len) (b:=10^46) s1 LI LI
   have dt:=yH (a:=t) (b:=10^46) s1 LI LI
   have few:=GR (t:=t) s1 ok.ls
   have wi:∀k,_↔_:=λk=>GQ (len:=pl.len) (t:=t) (k:=k) s1
   have mono:(t-pl.len)/pl.stp<=t/pl.stp:=Int.ediv_le_ediv LI LI
   refine⟨_,rfl,_,rfl,p,_,1,_,rfl,rfl,sm.jo hp,sI pl,_,_,rfl,rfl,_,rfl,_,_,rfl,rfl,⟨by lia,⟨by lia,by lia⟩⟩,_,_,rfl,rfl,_,rfl,_,rfl,_,_,rfl,rfl,⟨by lia,⟨by lia,by lia⟩⟩,_,_,rfl,rfl,_,_,rfl,?_⟩
   rw[DS]
   generalize (t-pl.len)/pl.stp=lo at *
   generalize t/pl.stp=hi' at *
   refine yD (lo:=lo+1) (st:=1) (n:=(hi'+1-(lo+1)).toNat) (λj σ H3=>∃(v5:Option V) (uR:List (Int×Int)),σ=[some (.ref p),some (.ref a),some (.int pl.stp),some (.ref d),some (.int t),v5]/\av H' H3/\H3 d=some (.dT (Ih uR))/\uR.Nodup/\uR.length<=100*i+j/\∀q,q∈uR↔q∈sp\/∃m:Nat,m<j/\q=((lo+1+m)*pl.stp,(lo+1+m)*pl.stp+pl.len))
    ⟨v5,sp,rfl,sm,h2,nd,Tj,λq=>⟨.inl,λz=>z.elim id λ⟨m,z,_⟩=>absurd z (Nat.not_lt_zero _)⟩⟩ ?_ ?_
   ·rintro j σ H3 hj ⟨v5,uR,rfl,JS,h3,Vd,hl3,Ti⟩
    have fk:yW (lo+1+(j:Int)*1):=⟨by lia,by lia⟩
    have fs:yW pl.stp:=⟨by lia,by lia⟩
    refine⟨_,rfl,_,rfl,_,rfl,_,_,rfl,rfl,⟨fk,fs⟩,_,rfl,_,rfl,_,_,rfl,rfl,⟨fk,fs⟩,_,rfl,p,_,1,_,rfl,rfl,JS.jo hp,sI pl,_,_,rfl,rfl,(by show 2<=sizeLine;decide),λc hc=>?_⟩
    rw[Int.mul_one]at *
    refine⟨d,_,rfl,Cs.t (k:=[.inl ((lo+1+(j:Int))*pl.stp),.inl ((lo+1+(j:Int))*pl.stp+pl.len)]) ((av.new hc) _ _ h3) af ?_,?_⟩
    ·unfold Ih
     rw[List.length_map,sizeLine_eq]
     lia
    rw[HF]
    refine⟨_,addQ uR ((lo+1+(j:Int))*pl.stp,(lo+1+(j:Int))*pl.stp+pl.len),rfl,λb u e=>?_,af,HZ Vd,?_,λq=>?_⟩
    ·rw[ai (au e hd)]
     exact(av.new hc) _ _ (JS _ _ e)
    ·exact Nat.le_trans (EM uR _) (by clear Ti hm wi;lia)
    ·rw[EE,Ti]
     constructor
     ·rintro((z|⟨m,z,e⟩)|z)
      ·exact .inl z
      ·exact .inr ⟨m,by lia,e⟩
      ·exact .inr ⟨j,by lia,z⟩
     ·rintro(z|⟨m,z,e⟩)
      ·exact .inl (.inl z)
      ·by_cases hj':m<j
       ·exact .inl (.inr ⟨m,hj',e⟩)
       ·have:m=j:=by lia
        subst this
        exact .inr e
   ·rintro σ H3 ⟨v5,uR,rfl,JS,h3,Vd,hl3,Ti⟩
    have htk:ts.take (i+1)=ts.take i++[t]:=by rw[List.take_add_one,et];rfl
    refine⟨_,v5,uR,rfl,JS,h3,Vd,by lia,λq=>?_⟩
    rw[Ti,hm,htk]
    constructor
    ·rintro(⟨g,u,mu,z⟩|⟨m,z,rfl⟩)
     ·exact⟨g,u,List.mem_append_left _ mu,z⟩
     ·exact⟨⟨⟨_,rfl⟩,rfl⟩,t,List.mem_append_right _ (.head _),(wi _).mp ⟨by lia,by lia⟩⟩
    ·rintro⟨g,u,mu,z⟩
     rcases List.mem_append.mp mu with mu|mu
     ·exact .inl ⟨g,u,mu,z⟩
     ·rw[List.mem_singleton]at mu
      subst mu
      obtain⟨⟨m,e1⟩,e2⟩:=g
      rw[e2,e1]at z
      obtain⟨z1,z2⟩:=(wi m).mpr z
      refine .inr ⟨(m-(lo+1)).toNat,by lia,?_⟩
      have:lo+1+((m-(lo+1)).toNat:Int)=m:=by lia
      rw[this,←e1,←e2]
  ·rintro σ H2 ⟨v4,v5,sp,rfl,sm,h2,nd,Tj,hm⟩
   rw[List.length_map]at Tj hm
   rw[List.take_length]at hm
   refine⟨_,rfl,d,rfl,.inr ⟨_,.inl h2⟩,λl ys hl' kv=>?_⟩
   refine k l ys sp _ (sm.trans (av.new hl')) (sG sm hl') af ⟨nd,λ_=>hm,λip=>(by rw[np]at ip;cases ip),λip=>(by rw[np]at ip;cases ip),Tj⟩ (aD.keep ?_ λb row e=>(av.new hl') _ _ e)
   rcases kv with⟨kvs,rd,_⟩|⟨kvs,rd,pr⟩
   ·rcases rd with e|⟨o,e⟩ <;> · rw[h2]at e;cases e
   ·have e:kvs=Ih sp:=by
     rcases rd with e|⟨o,e⟩
     ·rw[h2]at e;cases e;rfl
     ·rw[h2]at e;cases e
    subst e
    exact Ij pr
end
def Ev.d(e:Ev):bV:=.ev e.n e.t e.a
inductive vq(K:Fg7)(vs:List V)(H:Hp)(Q:VK):Prop
 |mk(p a:Addr)(pl:Pl)(xs:List V)(aJ:List Ev):(vs=[.ref p,.ref a])->(bJ K H p pl.row)->(pl.ok)->(H a=some (.lst xs))->(aD (λe:Ev=>e.d.v) H xs aJ)->(aJ.length<=200)->((∀e∈aJ,-(10^45)<e.t/\e.t<10^45))->(∀(r:Addr)(ys:List V)(ws:List Wn)(H':Hp),av H H'->H r=none->H' r=some (.lst ys)->Tab pl aJ ws->ws.length<=4000000->(ws.map Wn.d).Pairwise (λd e=>aV d e≠.gt)->aD Wn.v H' ys ws->Q (.ref r) H')->vq K vs H Q
def zw(K:Fg7):Sp:=λvs H Q d_=>vq K vs H Q
def mine(aJ:List Ev)(n:Str):List Ev:=aJ.filter λe=>decide (e.n=n)
def zg(aJ:List Ev)(n:Str):List Int:=(mine aJ n).map Ev.t
def ins(aJ:List Ev)(n:Str)(s e:Int):List Ev:=(mine aJ n).filter λx=>decide (s<=x.t)&&decide (x.t<e)
theorem l_{aJ:List Ev}{n:Str}{u:Int}:u∈zg aJ n↔fU aJ n u:=by
 unfold zg mine
 constructor
 ·intro h
  obtain⟨e,m,rfl⟩:=List.mem_map.mp h
  obtain⟨m1,m2⟩:=List.mem_filter.mp m
  exact⟨e,m1,of_decide_eq_true m2,rfl⟩
 ·rintro⟨e,m,h1,h2⟩
  exact List.mem_map.mpr ⟨e,List.mem_filter.mpr ⟨m,decide_eq_true h1⟩,h2⟩
theorem GW(n:Str)(s e:Int):∀aJ:List Ev,lH aJ ⟨n,s,e⟩=(((ins aJ n s e).length:Int),((ins aJ n s e).map Ev.a).sum):=by
 intro aJ
 induction aJ with
 |nil=>rfl
 |cons x aJ ih=>
  have e1:lH (x::aJ) ⟨n,s,e⟩=cG (vQ ⟨n,s,e⟩ x) (lH aJ ⟨n,s,e⟩):=rfl
  rw[e1,ih]
  have e2:ins (x::aJ) n s e=if jI ⟨n,s,e⟩ x=true then x::ins aJ n s e else ins aJ n s e:=by
   unfold ins mine jI
   by_cases h:x.n=n
   ·rw[List.filter_cons,if_pos (decide_eq_true h),List.filter_cons,decide_eq_true h,Bool.true_and]
   ·rw[List.filter_cons,if_neg (λz=>h (of_decide_eq_true z)),decide_eq_false h,Bool.false_and,if_neg Bool.false_ne_true]
  rw[e2]
  unfold vQ cG
  by_cases h:jI ⟨n,s,e⟩ x=true
  ·rw[if_pos h,if_pos h,List.length_cons,List.map_cons,List.sum_cons]
   simp only[Prod.mk.injEq,and_true]
   lia
  ·rw[if_neg h,if_neg h]
   simp only[Int.zero_add]
def xW(aJ:List Ev)(n:Str)(q:Int×Int):Wn:=⟨n,q.1,q.2,(lH aJ ⟨n,q.1,q.2⟩).1,(lH aJ ⟨n,q.1,q.2⟩).2⟩
structure Pt(pl:Pl)(aJ:List Ev)(N:Str->Prop)(ws:List Wn):Prop where
 nd:(ws.map Wn.k).Nodup
 el:∀w∈ws,N w.n/\∃sp,Gp pl (zg aJ w.n) sp/\(w.s,w.e)∈sp/\(w.c,w.t)=lH aJ w.k
 al:∀n,N n->∃sp,Gp pl (zg aJ n) sp/\∀q∈sp,(⟨n,q.1,q.2⟩:Ky)∈ws.map Wn.k
theorem Pt.add{pl:Pl}{aJ:List Ev}{N N':Str->Prop}{ws:List Wn}{n:Str}{sp:List (Int×Int)}(h:Pt pl aJ N ws)(hn:¬N n)(hN:∀m,N' m↔N m\/m=n)(hs:Gp pl (zg aJ n) sp):Pt pl aJ N' (ws++sp.map (xW aJ n)):=by
 refine⟨?_,λw mw=>?_,λm hm=>?_⟩
 ·rw[List.map_append,List.map_map]
  refine List.nodup_append.mpr ⟨h.nd,List.pairwise_map.mpr (hs.nd.imp λ{p q} ne e=>ne (Prod.ext (congrArg Ky.s e) (congrArg Ky.e e))),λk1 m1 k2 m2 e=>?_⟩
  ·obtain⟨w,mw,rfl⟩:=List.mem_map.mp m1
   obtain⟨q,mq,rfl⟩:=List.mem_map.mp m2
   have e':w.n=n:=congrArg Ky.n e
   exact hn (e'▸(h.el w mw).1)
 ·rcases List.mem_append.mp mw with mw|mw
  ·obtain⟨h1,h2⟩:=h.el w mw
   exact⟨(hN _).mpr (.inl h1),h2⟩
  ·obtain⟨q,mq,rfl⟩:=List.mem_map.mp mw
   exact⟨(hN _).mpr (.inr rfl),sp,hs,mq,rfl⟩
 ·rcases(hN m).mp hm with hm|rfl
  ·obtain⟨uR,h1,h2⟩:=h.al m hm
   exact⟨uR,h1,λq mq=>by rw[List.map_append];exact List.mem_append_left _ (h2 q mq)⟩
  ·exact⟨sp,hs,λq mq=>by rw[List.map_append];exact List.mem_append_right _ (List.mem_map.mpr ⟨xW aJ m q,List.mem_map.mpr ⟨q,mq,rfl⟩,rfl⟩)⟩
theorem Pt.Po{pl:Pl}{aJ:List Ev}{N:Str->Prop}{ws fB:List Wn}(h:Pt pl aJ N ws)(p:ws.Perm fB):Pt pl aJ N fB:=
 ⟨(p.map Wn.k).nodup_iff.mp h.nd,λw mw=>h.el w (p.mem_iff.mpr mw),λn hn=>by
  obtain⟨sp,h1,h2⟩:=h.al n hn
  exact⟨sp,h1,λq mq=>(p.map Wn.k).mem_iff.mp (h2 q mq)⟩⟩
theorem Pt.tab{pl:Pl}{aJ:List Ev}{N:Str->Prop}{ws:List Wn}(h:Pt pl aJ N ws)(hN:∀e∈aJ,N e.n):Tab pl aJ ws:=by
 refine⟨h.nd,λk p g=>?_,λnp k mk=>?_,λnp e me k g i=>?_,λip k mk=>?_,λip e me=>?_⟩
 ·obtain⟨w,g1,rfl,rfl⟩:=uK g
  obtain⟨_,sp,_,_,e⟩:=h.el w (jy g1).1
  exact e
 ·obtain⟨w,mw,rfl⟩:=List.mem_map.mp mk
  obtain⟨_,sp,h1,h2,_⟩:=h.el w mw
  obtain⟨g,t,mt,z1,z2⟩:=(h1.gr np _).mp h2
  obtain⟨e,me,e1,e2⟩:=l_.mp mt
  subst e2
  exact⟨g,e,me,fj.mpr ⟨e1,z1,z2⟩⟩
 ·obtain⟨i1,i2,i3⟩:=fj.mp i
  obtain⟨sp,h1,h2⟩:=h.al k.n (i1▸hN e me)
  exact h2 (k.s,k.e) ((h1.gr np _).mpr ⟨g,e.t,l_.mpr ⟨e,me,i1,rfl⟩,i2,i3⟩)
 ·obtain⟨w,mw,rfl⟩:=List.mem_map.mp mk
  obtain⟨_,sp,h1,h2,_⟩:=h.el w mw
  have z:=h1.pr ip _ h2
  have e:(λu=>u∈zg aJ w.n)=fU aJ w.n:=funext λu=>propext l_
  rw[e]at z
  exact z
 ·obtain⟨sp,h1,h2⟩:=h.al e.n (hN e me)
  obtain⟨q,mq,z⟩:=h1.pc ip e.t (l_.mpr ⟨e,me,rfl,rfl⟩)
  exact⟨⟨e.n,q.1,q.2⟩,h2 q mq,rfl,z⟩
theorem Me:∀{l r:List Str},l.Nodup->(∀z∈l,z∈r)->l.length<=r.length:=by
 intro l
 induction l with
 |nil=>intro r _ _;exact Nat.zero_le _
 |cons a l ih=>
  intro r nd h
  obtain⟨n1,n2⟩:=List.nodup_cons.mp nd
  have ma:=h a (.head _)
  have:=ih (r:=r.erase a) n2 λz mz=>(List.mem_erase_of_ne (λe:z=a=>n1 (e▸mz))).mpr (h z (.tail _ mz))
  rw[List.length_erase_of_mem ma]at this
  have:=List.length_pos_of_mem ma
  rw[List.length_cons]
  lia
theorem HY:∀{l:List Str}{i:Nat}{n:Str},l.Nodup->l[i]? = some n->n∉l.take i:=by
 intro l
 induction l with
 |nil=>intro i n _ h;cases h
 |cons a l ih=>
  intro i n nd h
  obtain⟨n1,n2⟩:=List.nodup_cons.mp nd
  cases i with
  |zero=>exact λz=>(nomatch z)
  |succ i=>
   rw[List.getElem?_cons_succ]at h
   rw[List.take_succ_cons]
   intro z
   rcases List.mem_cons.mp z with rfl|z
   ·exact n1 (List.mem_of_getElem? h)
   ·exact ih n2 h z
section
variable {P:Program} {w:World} {K:Fg7} {mg:Str->Option Value}
theorem IM(D:aH K "_law_table_of" bX)(M:MG K mg)(B:Bi K)(pN:eN P w K mg "_law_spans_of" ["_law_plan","_law_times"] 2 (vF K)):eN P w K mg "_law_table_of" ["_law_plan","_law_events"] 3 (zw K):=by
 refine D.fn M cO nV (λvs H Q E h=>?_) (λf base cdv A outer s H vs Q E hr h=>?_)
 ·obtain⟨p,a,pl,xs,aJ,rfl,_⟩:=h
  rfl
 ·obtain⟨p,a,pl,xs,aJ,rfl,hp,ok,ha,la,hl,hb,k⟩:=h
  have hu:(A.deeper (envOfC "_law_table_of" (ao bX) s.heap.objs.size f cdv)).units+64<cLine:=hr.units
  refine⟨_,(aq (cV (i:=2) cO.nd rfl (Or.inl rfl) (bZ aj))
   (aq (eT PassesOwn.never rfl (bL (yc rfl hu rfl (M.no _ B.iM) rfl (M.no _ B.RZ) (dY (NY:=["_law_event"]) (js:=[none]) rfl rfl (by with_unfolding_all rfl) (by repeat first|exact cI.nil|refine cI.cons rfl ?_) (.own .nil) (bL (pv 1)) (λ_ _ _ _ _=>⟨(aQ (i:=0) (show(["_law_event"]:List Str).Nodup from by decide +kernel) rfl (Or.inl rfl)),fh,(aI (bh (K:=K) rfl) (pv 0) ah (λ_ _=>rfl))⟩)))) (aQ (i:=3) cO.nd rfl (Or.inr rfl))
   (aq (lS (k:=4) (NY:=["_law_event","_law_name"]) (js:=[none,some 3]) rfl cO.nd rfl rfl rfl (by with_unfolding_all rfl) (by repeat first|exact cI.nil|refine cI.cons rfl ?_) (.own (.out rfl rfl (.inl rfl) .nil)) (bL (pv 1)) (λ_ _ _ _ _=>⟨(aQ (i:=0) (show(["_law_event","_law_name"]:List Str).Nodup from by decide +kernel) rfl (Or.inl rfl)),(iV (aP e_ (aI (bh (K:=K) rfl) (pv 0) ah (λ_ _=>rfl)) (pv 1) (aR _))),(pv 0)⟩))
   (aA (eT PassesOwn.never rfl (bL (a_ pN (hr.mono (by decide)) rfl (pc (pv 0) (pc (dY (NY:=["_law_event"]) (js:=[none]) rfl rfl (by with_unfolding_all rfl) (by repeat first|exact cI.nil|refine cI.cons rfl ?_) (.own .nil) (bL (pv 4)) (λ_ _ _ _ _=>⟨(aQ (i:=0) (show(["_law_event"]:List Str).Nodup from by decide +kernel) rfl (Or.inl rfl)),fh,(aI (bh (K:=K) rfl) (pv 0) ah (λ_ _=>rfl))⟩)) aj)))) (aQ (i:=5) cO.nd rfl (Or.inr rfl))
   (aq (lS (k:=6) (NY:=["_law_event","_law_span"]) (js:=[none,some 5]) rfl cO.nd rfl rfl rfl (by with_unfolding_all rfl) (by repeat first|exact cI.nil|refine cI.cons rfl ?_) (.own (.out rfl rfl (.inl rfl) .nil)) (bL (pv 4)) (λ_ _ _ _ _=>⟨(aQ (i:=0) (show(["_law_event","_law_span"]:List Str).Nodup from by decide +kernel) rfl (Or.inl rfl)),(iV (Ef oLe oLt (aI (bh (K:=K) rfl) (pv 1) ah (λ_ _=>rfl)) (aI (bh (K:=K) rfl) (pv 0) ah (λ_ _=>rfl)) (aI (bh (K:=K) rfl) (pv 1) ah (λ_ _=>rfl)))),(aI (bh (K:=K) rfl) (pv 0) ah (λ_ _=>rfl))⟩))
   (aA (iI (oQ PySem.F.plainAttrs_list PySem.F.slot_list_append PySem.F.type_list_append ff (pv 2) (pc (cF (pc (pv 3) (pc (aI bC (pv 5) ah (λ_ _=>rfl)) (pc (aI bC (pv 5) ah (λ_ _=>rfl)) (pc (aU br rfl (M.no _ B.iN) fT (pc (pv 6) aj)) (pc (aU (Cb rfl) rfl (M.no _ B.RY) NR (pc (pv 6) aj)) aj)))))) aj)))))))))
   (aA (aL (aU (gA hu) rfl (M.no _ B.iM) gH (pc (pv 2) aj)))))),?_⟩
  refine⟨(by show 0<=sizeLine;decide),λsl hsl=>?_⟩
  have s1:=av.new (o:=.lst []) hsl
  have hs0:upd H sl (.lst []) sl=some (.lst []):=af
  obtain⟨H1,eH1⟩:∃H1,H1=upd H sl (.lst []):=⟨_,rfl⟩
  rw[←eH1]at s1 hs0 ⊢
  refine⟨_,rfl,a,rfl,⟨_,aZ.of (s1 _ _ ha)⟩,λnl hnl=>?_⟩
  refine dQ (K:=K) (a:=a) (xs:=xs) (λi ys H2=>H2=upd H1 nl (.lst ys)/\ys=(aJ.take i).map λe=>V.str e.n) ⟨rfl,rfl⟩ (λi ys H2 h=>by rw[h.1];exact af) (λi ys H2 _ h=>by rw[h.1];exact aZ.of ((av.new hnl) _ _ (s1 _ _ ha))) ?_ ?_
  ·rintro i x ys H2 ex ⟨rfl,rfl⟩
   obtain⟨e,b,ee,rfl,hb'⟩:=la.get ex
   refine⟨cH rfl,?_⟩
   have htk:aJ.take (i+1)=aJ.take i++[e]:=by rw[List.take_add_one,ee];rfl
   refine⟨_,rfl,b,_,1,.str e.n,rfl,rfl,bJ.of ((av.new hnl) _ _ (s1 _ _ hb')),TM,_,af,?_,?_,?_⟩
   ·rw[List.length_map,List.length_take,sizeLine_eq]
    lia
   ·rw[fZ]
   ·rw[htk,List.map_append]
    rfl
  rintro ys H2 ⟨rfl,rfl⟩
  have lax:=la.len
  have en:(aJ.take xs.length).map (λe=>V.str e.n)=(aJ.map Ev.n).map V.str:=by
   rw[lax,List.take_length,List.map_map]
   rfl
  rw[en]
  refine⟨nl,aJ.map Ev.n,rfl,aZ.of af,(by rw[List.length_map];exact Nat.lt_of_le_of_lt (Nat.add_le_add_right hl 1) (by decide)),⟨by rw[List.length_map];lia,by rw[List.length_map];show _<10000001;lia⟩,λll ns rD XO PD _=>?_⟩
  have aaq:ns.length<=200:=by
   have:=Me XO λz mz=>(PD z).mp mz
   rw[List.length_map]at this
   lia
  have SJ:nl≠sl:=λz=>by rw[z,hs0]at hnl;cases hnl
  have lls:ll≠sl:=λz=>by rw[z,ai SJ.symm,hs0]at rD;cases rD
  have s3:∀b u,H1 b=some u->upd (upd H1 nl (.lst ((aJ.map Ev.n).map V.str))) ll (.lst (ns.map V.str)) b=some u:=λb u e=>(av.new rD) _ _ ((av.new hnl) _ _ e)
  have YT:upd (upd H1 nl (.lst ((aJ.map Ev.n).map V.str))) ll (.lst (ns.map V.str)) ll=some (.lst (ns.map V.str)):=af
  generalize upd (upd H1 nl (.lst ((aJ.map Ev.n).map V.str))) ll (.lst (ns.map V.str))=H3 at *
  have las:a≠sl:=au ha hsl
  refine⟨ll,rfl,⟨_,aZ.of YT⟩,?_⟩
  refine fm (K:=K) (a:=ll) (xs:=ns.map V.str) (λi σ H'=>∃(v3 v4 v5 v6:Option V) (zs:List V) (ws:List Wn),σ=[some (.ref p),some (.ref a),some (.ref sl),v3,v4,v5,v6]/\(∀b u,b≠sl->H3 b=some u->H' b=some u)/\H' sl=some (.lst zs)/\aD Wn.v H' zs ws/\Pt pl aJ (λm=>m∈ns.take i) ws/\ws.length<=20000*i)
   ⟨none,none,none,none,[],[],rfl,λ_ _ _ e=>e,s3 _ _ hs0,.nil,⟨.nil,λ_ h=>(nomatch h),λ_ h=>(nomatch h)⟩,Nat.le_refl _⟩ (λi σ H' _ ⟨_,_,_,_,_,_,_,sm,_⟩=>aZ.of (sm _ _ lls YT)) ?_ ?_
  ·rintro i x σ H' ex ⟨v3,v4,v5,v6,zs,ws,rfl,sm,hz,lw,pt,wl⟩
   rw[List.getElem?_map]at ex
   obtain⟨n,et,rfl⟩:=Option.map_eq_some_iff.mp ex
   have hi:i<ns.length:=(List.getElem?_eq_some_iff.mp et).1
   have htk:ns.take (i+1)=ns.take i++[n]:=by rw[List.take_add_one,et];rfl
   have sa:∀b u,H b=some u->H' b=some u:=λb u e=>sm b u (au e hsl) (s3 _ _ (s1 _ _ e))
   refine⟨_,rfl,a,rfl,⟨_,aZ.of (sa _ _ ha)⟩,λml hml=>?_⟩
   refine dQ (K:=K) (a:=a) (xs:=xs) (λi ys H2=>H2=upd H' ml (.lst ys)/\aD (λe:Ev=>e.d.v) H' ys (mine (aJ.take i) n)) ⟨rfl,.nil⟩ (λi ys H2 h=>by rw[h.1];exact af) (λi ys H2 _ h=>by rw[h.1];exact aZ.of ((av.new hml) _ _ (sa _ _ ha))) ?_ ?_
   ·rintro i x ys H2 ex ⟨rfl,Ig⟩
    obtain⟨e,b,ee,rfl,hb'⟩:=la.get ex
    have htk:aJ.take (i+1)=aJ.take i++[e]:=by rw[List.take_add_one,ee];rfl
    have hb2:=(av.new (o:=.lst ys) hml) _ _ (sa _ _ hb')
    refine⟨cH rfl,?_⟩
    refine⟨_,rfl,b,_,1,.str e.n,rfl,rfl,bJ.of hb2,TM,_,rfl,rfl,_,rfl,aW (λh=>?_) (λh=>?_)⟩
    ·have hn:e.n=n:=FO h
     refine⟨_,rfl,ys,af,?_,by rw[fZ],?_⟩
     ·have:=Ig.len
      have:=List.length_filter_le (λx:Ev=>decide (x.n=n)) (aJ.take i)
      have:=List.length_take_le i aJ
      have:(mine (aJ.take i) n).length<=aJ.length:=by
       refine Nat.le_trans (List.length_filter_le _ _) ?_
       rw[List.length_take]
       lia
      rw[sizeLine_eq]
      lia
     ·unfold mine
      rw[htk,List.filter_append,List.filter_cons,if_pos (decide_eq_true hn),List.filter_nil]
      exact Ig.snoc (sa _ _ hb')
    ·have hn:¬e.n=n:=λz=>h (decide_eq_true (by rw[z]))
     refine⟨ys,rfl,?_⟩
     unfold mine
     rw[htk,List.filter_append,List.filter_cons,if_neg (λz=>hn (of_decide_eq_true z)),List.filter_nil,List.append_nil]
     exact Ig
   rintro ms H2 ⟨rfl,lm⟩
   rw[lax,List.take_length]at lm
   have s4:∀b u,H' b=some u->upd H' ml (.lst ms) b=some u:=λb u e=>(av.new hml) _ _ e
   have Wv:upd H' ml (.lst ms) ml=some (.lst ms):=af
   generalize upd H' ml (.lst ms)=H4 at *
   have Yg:=lm.keep λb row e=>s4 _ _ e
   have Ye:=lm.len
   have lmn:(mine aJ n).length<=200:=Nat.le_trans (List.length_filter_le _ _) hl
   have nms:ml≠sl:=λz=>by rw[z,hz]at hml;cases hml
   refine⟨_,rfl,_,rfl,ml,rfl,⟨_,aZ.of Wv⟩,λtl BN=>?_⟩
   refine dQ (K:=K) (a:=ml) (xs:=ms) (λi ys H2=>H2=upd H4 tl (.lst ys)/\ys=((mine aJ n).take i).map λe=>V.int e.t) ⟨rfl,rfl⟩ (λi ys H2 h=>by rw[h.1];exact af) (λi ys H2 _ h=>by rw[h.1];exact aZ.of ((av.new BN) _ _ Wv)) ?_ ?_
   ·rintro i x ys H2 ex ⟨rfl,rfl⟩
    obtain⟨e,b,ee,rfl,hb'⟩:=Yg.get ex
    refine⟨cH rfl,?_⟩
    have htk:(mine aJ n).take (i+1)=(mine aJ n).take i++[e]:=by rw[List.take_add_one,ee];rfl
    refine⟨_,rfl,b,_,2,.int e.t,rfl,rfl,bJ.of ((av.new BN) _ _ hb'),rfl,_,af,?_,?_,?_⟩
    ·rw[List.length_map,List.length_take,sizeLine_eq]
     lia
    ·rw[fZ]
    ·rw[htk,List.map_append]
     rfl
   rintro ys5 H5 ⟨rfl,rfl⟩
   have et5:((mine aJ n).take ms.length).map (λe=>V.int e.t)=(zg aJ n).map V.int:=by
    unfold zg
    rw[Ye,List.take_length,List.map_map]
    rfl
   rw[et5]
   have s5:∀b u,H4 b=some u->upd H4 tl (.lst ((zg aJ n).map V.int)) b=some u:=λb u e=>(av.new BN) _ _ e
   have tl1:(zg aJ n).length<=200:=by unfold zg;rw[List.length_map];exact lmn
   refine⟨p,tl,pl,zg aJ n,rfl,?_,ok,af,by lia,λt mt=>?_,λr ys sp H6 s6 Yz QM so Qe=>?_⟩
   ·exact(show av H (upd H4 tl (.lst ((zg aJ n).map V.int)))from λb u e=>s5 _ _ (s4 _ _ (sa _ _ e))).jo hp
   ·obtain⟨e,me,_,rfl⟩:=l_.mp mt
    exact hb e me
   generalize upd H4 tl (.lst ((zg aJ n).map V.int))=H5 at *
   have Od:∀b u,H4 b=some u->H6 b=some u:=λb u e=>s6 _ _ (s5 _ _ e)
   have spl:=so.len
   have Vn:=Qe.len
   refine⟨r,rfl,⟨_,aZ.of QM⟩,?_⟩
   have Xw:r≠sl:=λz=>by
    rw[z,s5 _ _ (s4 _ _ hz)]at Yz
    cases Yz
   refine fm (K:=K) (a:=r) (xs:=ys) (λj σ H7=>∃(v5 v6:Option V) (zs':List V),σ=[some (.ref p),some (.ref a),some (.ref sl),some (.str n),some (.ref ml),v5,v6]/\(∀b u,b≠sl->H6 b=some u->H7 b=some u)/\H7 sl=some (.lst zs')/\aD Wn.v H7 zs' (ws++(sp.take j).map (xW aJ n)))
    ⟨v5,v6,zs,rfl,λ_ _ _ e=>e,Od _ _ (s4 _ _ hz),?_⟩ (λj σ H7 _ ⟨_,_,_,_,JR,_⟩=>aZ.of (JR _ _ Xw QM)) ?_ ?_
   ·rw[List.take_zero,List.map_nil,List.append_nil]
    exact lw.keep λb row e=>Od _ _ (s4 _ _ e)
   ·rintro j x σ H7 ex ⟨v5,v6,zs',rfl,JR,Oj,PZ⟩
    obtain⟨q,c,eq,rfl,hc⟩:=Qe.get ex
    have hj:j<sp.length:=(List.getElem?_eq_some_iff.mp eq).1
    have csl:c≠sl:=aN hc (Od _ _ (s4 _ _ hz)) (by intro z;cases z)
    have Wm:=JR _ _ csl hc
    have YF:=JR _ _ nms (Od _ _ Wv)
    have lm7:aD (λe:Ev=>e.d.v) H7 ms (mine aJ n):=Yg.keep λb row e=>JR _ _ (aN e (s4 _ _ hz) (by intro z;cases z)) (Od _ _ e)
    refine⟨_,rfl,ml,rfl,⟨_,aZ.of YF⟩,λil hil=>?_⟩
    refine dQ (K:=K) (a:=ml) (xs:=ms) (λi ys H2=>H2=upd H7 il (.lst ys)/\ys=((((mine aJ n).take i).filter λx=>decide (q.1<=x.t)&&decide (x.t<q.2)).map Ev.a).map V.int) ⟨rfl,rfl⟩ (λi ys H2 h=>by rw[h.1];exact af) (λi ys H2 _ h=>by rw[h.1];exact aZ.of ((av.new hil) _ _ YF)) ?_ ?_
    ·rintro i x ys H2 ex ⟨rfl,rfl⟩
     obtain⟨e,b,ee,rfl,hb'⟩:=lm7.get ex
     have htk:(mine aJ n).take (i+1)=(mine aJ n).take i++[e]:=by rw[List.take_add_one,ee];rfl
     have hb2:=λo=>(av.new (o:=o) hil) _ _ hb'
     have hc2:=λo=>(av.new (o:=o) hil) _ _ Wm
     refine⟨cH rfl,?_⟩
     have out:(decide (q.1<=e.t)&&decide (e.t<q.2))≠true->∀zs,zs=((((mine aJ n).take i).filter λx=>decide (q.1<=x.t)&&decide (x.t<q.2)).map Ev.a).map V.int->∃zs',upd H7 il (.lst zs)=upd H7 il (.lst zs')/\zs'=((((mine aJ n).take (i+1)).filter λx=>decide (q.1<=x.t)&&decide (x.t<q.2)).map Ev.a).map V.int:=λh zs ez=>⟨zs,rfl,by
      rw[htk,List.filter_append,List.filter_cons,if_neg h,List.filter_nil,List.append_nil];exact ez⟩
     refine⟨_,rfl,c,_,0,.int q.1,rfl,rfl,bJ.of (hc2 _),rfl,_,rfl,b,_,2,.int e.t,rfl,rfl,bJ.of (hb2 _),rfl,_,_,rfl,rfl,_,rfl,aW (λh1=>⟨_,rfl,c,_,1,.int q.2,rfl,rfl,bJ.of (hc2 _),rfl,_,_,rfl,rfl,_,rfl,aW (λh2=>?_) (λh2=>?_)⟩) (λh1=>⟨_,rfl,aW (λz=>absurd z Bool.false_ne_true) (λ_=>?_)⟩)⟩
     ·refine⟨_,rfl,b,_,3,.int e.a,rfl,rfl,bJ.of (hb2 _),rfl,_,af,?_,by rw[fZ],?_⟩
      ·rw[List.length_map,List.length_map,sizeLine_eq]
       have:=List.length_filter_le (λx:Ev=>decide (q.1<=x.t)&&decide (x.t<q.2)) ((mine aJ n).take i)
       rw[List.length_take]at this
       lia
      ·rw[htk,List.filter_append,List.filter_cons,if_pos (by rw[h1,h2];rfl),List.filter_nil,List.map_append,List.map_append]
       rfl
     ·exact out (λz=>h2 ((Bool.and_eq_true _ _).mp z).2) _ rfl
     ·exact out (λz=>h1 ((Bool.and_eq_true _ _).mp z).1) _ rfl
    rintro ys8 H8 ⟨rfl,rfl⟩
    rw[Ye,List.take_length]
    have e8:((mine aJ n).filter λx=>decide (q.1<=x.t)&&decide (x.t<q.2))=ins aJ n q.1 q.2:=rfl
    rw[e8]
    have s8:∀b u,H7 b=some u->upd H7 il (.lst (((ins aJ n q.1 q.2).map Ev.a).map V.int)) b=some u:=λb u e=>(av.new hil) _ _ e
    have h8:upd H7 il (.lst (((ins aJ n q.1 q.2).map Ev.a).map V.int)) il=some (.lst (((ins aJ n q.1 q.2).map Ev.a).map V.int)):=af
    generalize upd H7 il (.lst (((ins aJ n q.1 q.2).map Ev.a).map V.int))=H8 at *
    have htk:sp.take (j+1)=sp.take j++[q]:=by rw[List.take_add_one,eq];rfl
    have WC:(xW aJ n q).v=[.str n,.int q.1,.int q.2,.int ((((ins aJ n q.1 q.2).map Ev.a).map V.int).length:Int),.int ((ins aJ n q.1 q.2).map Ev.a).sum]:=by
     unfold xW
     rw[GW,List.length_map,List.length_map]
     rfl
    refine⟨_,rfl,.inl ⟨rfl,_,aZ.of (s8 _ _ Oj)⟩,_,rfl,_,rfl,c,_,0,.int q.1,rfl,rfl,bJ.of (s8 _ _ Wm),rfl,_,rfl,c,_,1,.int q.2,rfl,rfl,bJ.of (s8 _ _ Wm),rfl,_,rfl,il,_,rfl,.inl (aZ.of h8),_,rfl,il,(ins aJ n q.1 q.2).map Ev.a,rfl,aZ.of h8,(by show 5<=sizeLine;decide),λrw' hrw=>⟨sl,_,.ref rw',rfl,rfl,(av.new hrw) _ _ (s8 _ _ Oj),?_,?_⟩⟩
    ·rw[PZ.len,List.length_append,List.length_map,List.length_take,sizeLine_eq]
     lia
    ·rw[←WC]
     have UG:rw'≠sl:=λz=>by rw[z,s8 _ _ Oj]at hrw;cases hrw
     have up:∀b row,H7 b=some (.tup row)->upd (upd H8 rw' (.tup (xW aJ n q).v)) sl (.lst (zs'++[.ref rw'])) b=some (.tup row):=λb row e=>by
      rw[ai (aN e Oj (by intro z;cases z))]
      exact(av.new hrw) _ _ (s8 _ _ e)
     refine⟨_,_,zs'++[.ref rw'],rfl,λb u nb e=>?_,af,?_⟩
     ·rw[ai nb]
      exact(av.new hrw) _ _ (s8 _ _ (JR b u nb e))
     ·rw[htk,List.map_append,←List.append_assoc]
      exact(PZ.keep up).snoc (by rw[ai UG];exact af)
   ·rintro σ H7 ⟨v5,v6,zs',rfl,JR,Oj,PZ⟩
    rw[Vn,List.take_length]at PZ
    have ZQ:∀b u,b≠sl->H3 b=some u->H7 b=some u:=λb u nb e=>JR b u nb (Od _ _ (s4 _ _ (sm b u nb e)))
    refine⟨_,_,v5,v6,zs',ws++sp.map (xW aJ n),rfl,ZQ,Oj,PZ,pt.add (n:=n) (λz=>?_) (λm=>?_) so,?_⟩
    ·exact HY XO et z
    ·rw[htk,List.mem_append,List.mem_singleton]
    ·rw[List.length_append,List.length_map]
     lia
  ·rintro σ H' ⟨v3,v4,v5,v6,zs,ws,rfl,sm,hz,lw,pt,wl⟩
   rw[List.length_map]at wl pt
   rw[List.take_length]at pt
   have sH:av H H':=λb u e=>sm b u (au e hsl) (s3 _ _ (s1 _ _ e))
   refine⟨_,rfl,sl,zs,_,SE,rfl,aZ.of hz,lw.NH (λa w h=>ud h),(λd hd=>?_),rfl,(by decide),?_,λl2 ps hl2 pm pw=>?_⟩
   ·obtain⟨q,_,rfl⟩:=List.mem_map.mp hd
    exact xM q
   ·rw[lw.len]
    exact⟨by lia,by show _<10000001;lia⟩
   ·obtain⟨rs,a1,a2,a3⟩:=sP (λ_ _=>Wn.FU) lw pm
    exact k l2 _ rs _ (sH.trans (av.new hl2)) (sH.free hl2) af ((pt.Po a1.symm).tab λe me=>(PD e.n).mpr (List.mem_map.mpr ⟨e,me,rfl⟩)) (by rw[a1.length_eq];lia) (by rw[←a3];exact pw) (a2.keep λa row e=>(av.new hl2) _ _ e)
end
end K3
namespace K2
open PySem PySem.Spec PyProof.Rows L2 K1
def gD(K:Fg7)(H:Hp):List V->List bV->Prop:=Paired λx dd=>∃b,x=.ref b/\bJ K H b dd.v
def Gq(H:Hp):List V->List (List ji)->Prop:=Paired λx out=>∃l zs,x=.ref l/\H l=some (.lst zs)/\aD ji.v H zs out
def oi(H:Hp)(m r:Addr):List V->List (List ji)->Prop:=Paired λx out=>∃l zs,x=.ref l/\l≠m/\l≠r/\H l=some (.lst zs)/\aD ji.v H zs out
theorem gD.get{K:Fg7}{H:Hp}{xs:List V}{ds:List bV}{i:Nat}{x:V}(h:gD K H xs ds)(e:xs[i]? = some x):∃d b,ds[i]? = some d/\x=.ref b/\bJ K H b d.v:=by
 obtain⟨k,ek,a,r⟩:=Paired.getL h e
 exact⟨k,a,ek,r⟩
theorem gD.len{K:Fg7}{H:Hp}{xs:List V}{ds:List bV}(h:gD K H xs ds):xs.length=ds.length:=Paired.length h
inductive DF(K:Fg7)(mg:Str->Option Value)(Pt:Addr)(vs:List V)(H:Hp)(Q:VK):Prop
 |mk(p dl:Addr)(pl:Pl)(xs:List V)(dZ:List bV):(vs=[.ref p,.ref dl])->(bJ K H p pl.row)->(bad pl=false)->(pl.ok)->(aZ K H dl xs)->(gD K H xs dZ)->((∀dd∈dZ,dd.ok))->(dZ.length<=1000)->((∀i outs st,Runs pl ⟨none,[],[]⟩ (dZ.take i) outs st->st.ws.length<TS.MX))->(bK H Pt lp lq)->(dj K mg H)->(∀(l:Addr)(ys:List V)(outs:List (List ji))(st:tQ)(H':Hp),Runs pl ⟨none,[],[]⟩ dZ outs st->gX H H' Pt->H l=none->H' l=some (.lst ys)->Gq H' ys outs->bK H' Pt lp lq->Q (.ref l) H')->DF K mg Pt vs H Q
def JP(K:Fg7)(mg:Str->Option Value)(Pt:Addr):Sp:=λvs H Q d_=>DF K mg Pt vs H Q
theorem rj.tup{H H':Hp}{C x dx p d m Pt:Addr}{mk:V}{kvs:List (List Key×V)}{mx:List V}{ps:Array Value}(k:rj H H' x d m Pt)(hx:H x=some (.ins C dx (eV p mk d m)))(hd:H d=some (.dT kvs))(hm:H m=some (.lst mx))(hP:H Pt=some (.pA ps)):∀a row,H a=some (.tup row)->H' a=some (.tup row):=
 λa row e=>k a _ e (aN e hx (by intro z;cases z)) (aN e hd (by intro z;cases z)) (aN e hm (by intro z;cases z)) (aN e hP (by intro z;cases z))
theorem rj.eF{H H':Hp}{C x dx p d m Pt:Addr}{mk:V}{kvs:List (List Key×V)}{mx:List V}{ps:Array Value}(k:rj H H' x d m Pt)(hx:H x=some (.ins C dx (eV p mk d m)))(hd:H d=some (.dT kvs))(hm:H m=some (.lst mx))(hP:H Pt=some (.pA ps)):∀a o u,H a=some (.eF o u)->H' a=some (.eF o u):=
 λa o u e=>k a _ e (aN e hx (by intro z;cases z)) (aN e hd (by intro z;cases z)) (aN e hm (by intro z;cases z)) (aN e hP (by intro z;cases z))
theorem fY.keep{K:Fg7}{C:Addr}{H H':Hp}{x p d m:Addr}{pl:Pl}{mk:Option Int}{ws:List Wn}{ms:List (Str×Int×Int)}(DA:fY K C H x p d m pl mk ws ms)(kx:∀o,H x=some o->H' x=some o)(kd:∀o,H d=some o->H' d=some o)(km:∀o,H m=some o->H' m=some o)
  (tp:∀a row,H a=some (.tup row)->H' a=some (.tup row))(fz:∀a o u,H a=some (.eF o u)->H' a=some (.eF o u)):fY K C H' x p d m pl mk ws ms:=by
 obtain⟨⟨dx,hx⟩,hp,⟨kvs,hd,hw⟩,⟨mx,hm,Iw⟩,nd⟩:=DA
 exact⟨⟨dx,kx _ hx⟩,jm tp fz hp,⟨kvs,kd _ hd,hw.keep tp⟩,⟨mx,km _ hm,Iw.keep tp⟩,nd⟩
theorem oi.keep{H H':Hp}{m r:Addr}{ys:List V}{outs:List (List ji)}(h:oi H m r ys outs)(kl:∀l zs,l≠m->l≠r->H l=some (.lst zs)->H' l=some (.lst zs))(tp:∀a row,H a=some (.tup row)->H' a=some (.tup row)):oi H' m r ys outs:=
 Paired.imp' (λ_ _ ⟨l,zs,e,n1,n2,h1,h2⟩=>⟨l,zs,e,n1,n2,kl l zs n1 n2 h1,h2.keep tp⟩) h
theorem oi.out{H:Hp}{m r:Addr}{ys:List V}{outs:List (List ji)}(h:oi H m r ys outs):Gq H ys outs:=Paired.imp' (λ_ _ ⟨l,zs,e,_,_,h1,h2⟩=>⟨l,zs,e,h1,h2⟩) h
theorem sF{H:Hp}{x dx:Addr}{o u:HO}(nx:H x=none)(PK:H dx=none):av H (upd (upd H dx u) x o):=λb z e=>by rw[ai (au e nx),ai (au e PK)];exact e
section
variable {P:Program} {w:World} {K:Fg7} {mg:Str->Option Value} {C Pt:Addr}
theorem RP(D:aH K "answers" fG)(M:MG K mg)(T:eK K C)(gn:cW P w K mg jg C "__init__" ["self","plan"] 4 (xK K C))(oA:cW P w K mg jg C "do" ["self","deed"] 5 (Lu K mg C Pt)):eN P w K mg "answers" ["plan","deeds"] 6 (JP K mg Pt):=by
 have bO:=T.cl
 refine D.fn M ql yN (λvs H Q E h=>?_) (λf base cdv A outer s H vs Q E hr h=>?_)
 ·obtain⟨p,dl,pl,xs,dZ,rfl,_⟩:=h
  rfl
 ·obtain⟨p,dl,pl,xs,dZ,rfl,hp,hb,ok,hl,hds,hok,hlen,hfx,hT,hB,k⟩:=h
  refine⟨_,(aq (cV (i:=2) ql.nd rfl (Or.inr rfl) (vO bO M gn gh (hr.mono (by decide)) rfl (pc (pv 0) aj)))
   (aA (aL (dY (NY:=["deed","desk"]) (js:=[none,some 2]) rfl rfl (by with_unfolding_all rfl) (by repeat first|exact cI.nil|refine cI.cons rfl ?_) (.own (.out rfl rfl (.inl rfl) .nil)) (bL (pv 1)) (λ_ _ _ _ _=>⟨(aQ (i:=0) (show(["deed","desk"]:List Str).Nodup from by decide +kernel) rfl (Or.inl rfl)),fh,(di (pv 1) bO.cl oA gh (hr.mono (by decide)) (pc (pv 0) aj))⟩))))),?_⟩
  refine⟨_,rfl,λx dx nx PK nex=>?_⟩
  have s0:=sF (o:=.ins C dx []) (u:=.own x) nx PK
  refine⟨x,dx,p,pl,rfl,af,s0.jo hp,hb,λd m H1 hd hm h1 h2 h3 kp=>⟨rfl,?_⟩⟩
  have s1:av H H1:=λb o e=>kp b o (s0 b o e) (au e nx)
  refine⟨_,rfl,dl,rfl,⟨_,s1.seq hl⟩,λr hr'=>?_⟩
  obtain⟨UQ,Fy⟩:=eU hT
  have wD:=s1 _ _ Fy
  have hT1:bK H1 Pt lp lq:=bg hT (λps e=>s1 _ _ e) λa o u e=>s1 _ _ e
  have Nk:dj K mg H1:=bM hB λa o u e=>s1 _ _ e
  have PY:=hds.len
  have UW:r≠x:=λz=>by rw[z,h1]at hr';cases hr'
  have XM:r≠d:=λz=>by rw[z,h2]at hr';cases hr'
  have XJ:r≠m:=λz=>by rw[z,h3]at hr';cases hr'
  have XN:r≠Pt:=λz=>by rw[z,wD]at hr';cases hr'
  have Vc:d≠m:=aN h2 h3 (by intro z;cases z)
  refine dQ (K:=K) (a:=dl) (xs:=xs) (λi ys H'=>∃(st:tQ) (outs:List (List ji)),Runs pl ⟨none,[],[]⟩ (dZ.take i) outs st/\rj H1 H' x d m Pt/\H' r=some (.lst ys)/\oi H' m r ys outs/\fY K C H' x p d m pl st.mk st.ws st.ms/\bK H' Pt lp lq/\dj K mg H')
   ⟨⟨none,[],[]⟩,[],.nil _,λb o e _ _ _ _=>(av.new hr') b o e,af,.nil,?_,?_,?_⟩ (λi ys H' ⟨_,_,_,_,h,_⟩=>h) (λi ys H' _ ⟨_,_,_,kd,_⟩=>?_) ?_ ?_
  ·have s2:=av.new (o:=.lst []) hr'
   exact⟨⟨dx,s2 _ _ h1⟩,s2.jo (s1.jo hp),⟨[],s2 _ _ h2,.nil⟩,⟨[],s2 _ _ h3,.nil⟩,.nil⟩
  ·exact bg hT1 (λps e=>(av.new hr') _ _ e) λa o u e=>(av.new hr') _ _ e
  ·exact bM Nk λa o u e=>(av.new hr') _ _ e
  ·have fz:=kd.eF h1 h2 h3 wD
   rcases hl with(h|⟨o,h⟩)|h
   ·refine .inl (.inl (kd _ _ (s1 _ _ h) (au h nx) (au h (s0.free hd)) (au h (s0.free hm)) (aN h Fy (by intro z;cases z))))
   ·exact .inl (.inr ⟨o,fz _ _ _ (s1 _ _ h)⟩)
   ·exact .inr h
  ·rintro i y ys H2 hi ⟨st,outs,rn,kd,hr2,si,DA,wg,hB2⟩
   obtain⟨dd,b,ed,rfl,hb1⟩:=hds.get hi
   have tp:=kd.tup h1 h2 h3 wD
   have fz:=kd.eF h1 h2 h3 wD
   have hb2:bJ K H2 b dd.v:=jm tp fz (s1.jo hb1)
   obtain⟨WK,Av⟩:=DA.ob
   obtain⟨BG,hd2,Te⟩:=DA.wd
   obtain⟨mx2,hm2,VY⟩:=DA.ml
   obtain⟨ps2,KQ⟩:=eU wg
   have rl:=rn.len ok
   have hil:=(List.getElem?_eq_some_iff.mp ed).1
   have l1:(dZ.take i).length=i:=by rw[List.length_take];lia
   rw[l1]at rl
   simp only[List.length_nil,Nat.zero_add]at rl
   refine⟨cH rfl,?_⟩
   refine⟨_,rfl,x,WK,_,rfl,Av,BV p d m _ DK DK DK DK,_,rfl,x,p,d,m,b,pl,st,dd,rfl,DA,hb2,ok,hok dd (List.mem_of_getElem? ed),⟨by lia,hfx i outs st rn⟩,by lia,wg,hB2,λl zs out st' H3 dr k3 lI hl3 Ym Xe Qa=>?_⟩
   have Oa:=k3.tup Av hd2 hm2 KQ
   have RB:=k3.eF Av hd2 hm2 KQ
   have Va:l≠m:=λz=>by rw[z,hm2]at lI;cases lI
   have SK:l≠r:=λz=>by rw[z,hr2]at lI;cases lI
   have Iv:=k3 _ _ hr2 UW XM XJ XN
   refine⟨ys,Iv,?_,st',outs++[out],?_,λb o e n1 n2 n3 n4=>?_,af,?_,Xe.keep ?_ ?_ ?_ ?_ ?_,?_,?_⟩
   ·have:=Paired.length si
    have:=sizeLine_eq
    lia
   ·rw[List.take_add_one,ed]
    exact .snoc rn dr
   ·rw[ai (au e hr')]
    exact k3 b o (kd b o e n1 n2 n3 n4) n1 n2 n3 n4
   ·have up:∀{a:Addr}{z:HO},H3 a=some z->a≠r->upd H3 r (.lst (ys++[.ref l])) a=some z:=λe n=>by rw[ai n];exact e
    have Xj:∀a row,H3 a=some (.tup row)->upd H3 r (.lst (ys++[.ref l])) a=some (.tup row):=λa row e=>up e (aN e Iv (by intro z;cases z))
    refine Paired.snoc ((si.keep (λl' zs' n1 n2 e=>k3 _ _ e (aN e Av (by intro z;cases z)) (aN e hd2 (by intro z;cases z)) n1 (aN e KQ (by intro z;cases z))) Oa).keep (λl' zs' n1 n2 e=>up e n2) Xj) ⟨l,zs,rfl,Va,SK,up hl3 SK,Ym.keep Xj⟩
   ·exact λo e=>by rw[ai UW.symm];exact e
   ·exact λo e=>by rw[ai XM.symm];exact e
   ·exact λo e=>by rw[ai XJ.symm];exact e
   ·exact λa row e=>by rw[ai (aN e Iv (by intro z;cases z))];exact e
   ·exact λa o u e=>by rw[ai (aN e Iv (by intro z;cases z))];exact e
   ·exact bg Qa (λps e=>by rw[ai XN.symm];exact e) λa o u e=>by rw[ai (aN e Iv (by intro z;cases z))];exact e
   ·exact bM (bM hB2 RB) λa o u e=>by rw[ai (aN e Iv (by intro z;cases z))];exact e
  ·rintro ys H2 ⟨st,outs,rn,kd,hr2,si,DA,wg,hB2⟩
   rw[PY,List.take_length]at rn
   refine k r ys outs st H2 rn (λb o e n=>?_) (s1.free hr') hr2 si.out wg
   have hxn:H x=none:=nx
   have hdn:b≠d:=λz=>by
    have:=s0.free (l:=d) hd
    rw[z,this]at e;cases e
   have hmn:b≠m:=λz=>by
    have:=s0.free (l:=m) hm
    rw[z,this]at e;cases e
   exact kd b o (s1 b o e) (au e nx) hdn hmn n
end
inductive sE(K:Fg7)(mg:Str->Option Value)(C:Addr)(Pt:Addr)(vs:List V)(H:Hp)(Q:VK):Prop
 |mk(p dl:Addr)(pl:Pl)(xs:List V)(dZ:List bV):(vs=[.ref p,.ref dl])->(bJ K H p pl.row)->(bad pl=false)->(pl.ok)->(aZ K H dl xs)->(gD K H xs dZ)->((∀dd∈dZ,dd.ok))->(dZ.length<=1000)->((∀i outs st,Runs pl ⟨none,[],[]⟩ (dZ.take i) outs st->st.ws.length<TS.MX))->(bK H Pt lp lq)->(dj K mg H)->(∀(x d m:Addr)(outs:List (List ji))(st:tQ)(H':Hp),Runs pl ⟨none,[],[]⟩ dZ outs st->gX H H' Pt->fY K C H' x p d m pl st.mk st.ws st.ms->bK H' Pt lp lq->dj K mg H'->Q (.ref x) H')->sE K mg C Pt vs H Q
def qi(K:Fg7)(mg:Str->Option Value)(C Pt:Addr):Sp:=λvs H Q d_=>sE K mg C Pt vs H Q
section
variable {P:Program} {w:World} {K:Fg7} {mg:Str->Option Value} {C Pt:Addr}
theorem FI(D:aH K "desk_behind" dg)(M:MG K mg)(T:eK K C)(gn:cW P w K mg jg C "__init__" ["self","plan"] 4 (xK K C))(oA:cW P w K mg jg C "do" ["self","deed"] 5 (Lu K mg C Pt)):eN P w K mg "desk_behind" ["plan","deeds"] 6 (qi K mg C Pt):=by
 have bO:=T.cl
 refine D.fn M gK qP (λvs H Q E h=>?_) (λf base cdv A outer s H vs Q E hr h=>?_)
 ·obtain⟨p,dl,pl,xs,dZ,rfl,_⟩:=h
  rfl
 ·obtain⟨p,dl,pl,xs,dZ,rfl,hp,hb,ok,hl,hds,hok,hlen,hfx,hT,hB,k⟩:=h
  refine⟨_,(aq (cV (i:=2) gK.nd rfl (Or.inl rfl) (vO bO M gn gh (hr.mono (by decide)) rfl (pc (pv 0) aj)))
   (aq (eT PassesOwn.never rfl (bL (pv 1)) (aQ (i:=3) gK.nd rfl (Or.inl rfl))
   (aA (iI (di (pv 2) bO.cl oA gh (hr.mono (by decide)) (pc (pv 3) aj)))))
   (aA (aL (pv 2))))),?_⟩
  refine⟨_,rfl,λx dx nx PK nex=>?_⟩
  have s0:=sF (o:=.ins C dx []) (u:=.own x) nx PK
  refine⟨x,dx,p,pl,rfl,af,s0.jo hp,hb,λd m H1 hd hm h1 h2 h3 kp=>⟨rfl,?_⟩⟩
  have s1:av H H1:=λb o e=>kp b o (s0 b o e) (au e nx)
  obtain⟨UQ,Fy⟩:=eU hT
  have wD:=s1 _ _ Fy
  have hT1:bK H1 Pt lp lq:=bg hT (λps e=>s1 _ _ e) λa o u e=>s1 _ _ e
  have Nk:dj K mg H1:=bM hB λa o u e=>s1 _ _ e
  have PY:=hds.len
  refine⟨_,rfl,dl,rfl,⟨_,s1.seq hl⟩,?_⟩
  refine fm (K:=K) (a:=dl) (xs:=xs) (λi σ H'=>∃(v:Option V) (st:tQ) (outs:List (List ji)),σ=[some (.ref p),some (.ref dl),some (.ref x),v]/\Runs pl ⟨none,[],[]⟩ (dZ.take i) outs st/\rj H1 H' x d m Pt/\fY K C H' x p d m pl st.mk st.ws st.ms/\bK H' Pt lp lq/\dj K mg H')
   ⟨none,⟨none,[],[]⟩,[],rfl,.nil _,λb o e _ _ _ _=>e,⟨⟨dx,h1⟩,s1.jo hp,⟨[],h2,.nil⟩,⟨[],h3,.nil⟩,.nil⟩,hT1,Nk⟩ (λi σ H' _ ⟨_,_,_,_,_,kd,_⟩=>?_) ?_ ?_
  ·have fz:=kd.eF h1 h2 h3 wD
   rcases hl with(h|⟨o,h⟩)|h
   ·refine .inl (.inl (kd _ _ (s1 _ _ h) (au h nx) (au h (s0.free hd)) (au h (s0.free hm)) (aN h Fy (by intro z;cases z))))
   ·exact .inl (.inr ⟨o,fz _ _ _ (s1 _ _ h)⟩)
   ·exact .inr h
  ·rintro i y σ H2 hi ⟨v,st,outs,rfl,rn,kd,DA,wg,hB2⟩
   obtain⟨dd,b,ed,rfl,hb1⟩:=hds.get hi
   have tp:=kd.tup h1 h2 h3 wD
   have fz:=kd.eF h1 h2 h3 wD
   have hb2:bJ K H2 b dd.v:=jm tp fz (s1.jo hb1)
   obtain⟨WK,Av⟩:=DA.ob
   obtain⟨BG,hd2,Te⟩:=DA.wd
   obtain⟨mx2,hm2,VY⟩:=DA.ml
   obtain⟨ps2,KQ⟩:=eU wg
   have rl:=rn.len ok
   have hil:=(List.getElem?_eq_some_iff.mp ed).1
   have l1:(dZ.take i).length=i:=by rw[List.length_take];lia
   rw[l1]at rl
   simp only[List.length_nil,Nat.zero_add]at rl
   refine⟨_,rfl,x,WK,_,rfl,Av,BV p d m _ DK DK DK DK,_,rfl,x,p,d,m,b,pl,st,dd,rfl,DA,hb2,ok,hok dd (List.mem_of_getElem? ed),⟨by lia,hfx i outs st rn⟩,by lia,wg,hB2,λl zs out st' H3 dr k3 lI hl3 Ym Xe Qa=>?_⟩
   have RB:=k3.eF Av hd2 hm2 KQ
   refine⟨_,st',outs++[out],rfl,?_,λb o e n1 n2 n3 n4=>k3 b o (kd b o e n1 n2 n3 n4) n1 n2 n3 n4,Xe,Qa,bM hB2 RB⟩
   rw[List.take_add_one,ed]
   exact .snoc rn dr
  ·rintro σ H2 ⟨v,st,outs,rfl,rn,kd,DA,wg,hB2⟩
   rw[PY,List.take_length]at rn
   refine⟨_,rfl,k x d m outs st H2 rn (λb o e n=>?_) DA wg hB2⟩
   have hdn:b≠d:=λz=>by
    have:=s0.free (l:=d) hd
    rw[z,this]at e;cases e
   have hmn:b≠m:=λz=>by
    have:=s0.free (l:=m) hm
    rw[z,this]at e;cases e
   exact kd b o (s1 b o e) (au e nx) hdn hmn n
end
inductive vt(K:Fg7)(mg:Str->Option Value)(Pt:Addr)(vs:List V)(H:Hp)(Q:VK):Prop
 |mk(p dl:Addr)(pl:Pl)(xs:List V)(dZ:List bV):(vs=[.ref p,.ref dl])->(bJ K H p pl.row)->(bad pl=false)->(pl.ok)->(aZ K H dl xs)->(gD K H xs dZ)->((∀dd∈dZ,dd.ok))->(dZ.length<=1000)->((∀i outs st,Runs pl ⟨none,[],[]⟩ (dZ.take i) outs st->TS.Fits st.ws.length))->(bK H Pt lp lq)->(dj K mg H)->(∀(r:Addr)(zs:List V)(outs:List (List ji))(st:tQ)(rs:List Wn)(H':Hp),Runs pl ⟨none,[],[]⟩ dZ outs st->gX H H' Pt->H' r=some (.lst zs)->rs.Perm st.ws->(rs.map Wn.d).Pairwise (λd e=>aV d e≠.gt)->aD Wn.v H' zs (rs.filter λw=>closed st.mk w.e)->bK H' Pt lp lq->dj K mg H'->Q (.ref r) H')->vt K mg Pt vs H Q
def zA(K:Fg7)(mg:Str->Option Value)(Pt:Addr):Sp:=λvs H Q d_=>vt K mg Pt vs H Q
section
variable {P:Program} {w:World} {K:Fg7} {mg:Str->Option Value} {C Pt:Addr}
theorem IP(D:aH K "standing" eX)(M:MG K mg)(T:eK K C)(iC:eN P w K mg "desk_behind" ["plan","deeds"] 6 (qi K mg C Pt))(xg:cW P w K mg jg C "rows" ["self"] 1 (Dl C))(cQ:cW P w K mg jg C "is_closed" ["self","end"] 1 (lP C)):eN P w K mg "standing" ["plan","deeds"] 7 (zA K mg Pt):=by
 have bO:=T.cl
 refine D.fn M oM wQ (λvs H Q E h=>?_) (λf base cdv A outer s H vs Q E hr h=>?_)
 ·obtain⟨p,dl,pl,xs,dZ,rfl,_⟩:=h
  rfl
 ·obtain⟨p,dl,pl,xs,dZ,rfl,hp,hb,ok,hl,hds,hok,hlen,hfx,hT,hB,k⟩:=h
  refine⟨_,(aq (cV (i:=2) oM.nd rfl (Or.inr rfl) (a_ iC (hr.mono (by decide)) rfl (pc (pv 0) (pc (pv 1) aj))))
   (aA (aL (dY (NY:=["row","desk"]) (js:=[none,some 2]) rfl rfl (by with_unfolding_all rfl) (by repeat first|exact cI.nil|refine cI.cons rfl ?_) (.own (.out rfl rfl (.inl rfl) .nil)) (bL (Bj (pv 2) bO.cl xg gh (hr.mono (by decide)))) (λ_ _ _ _ _=>⟨(aQ (i:=0) (show(["row","desk"]:List Str).Nodup from by decide +kernel) rfl (Or.inl rfl)),(iV (dM (di (pv 1) bO.cl cQ gh (hr.mono (by decide)) (pc (aI (bh (K:=K) rfl) (pv 0) ah (λ_ _=>rfl)) aj)))),(pv 0)⟩))))),?_⟩
  refine⟨_,rfl,_,rfl,p,dl,pl,xs,dZ,rfl,hp,hb,ok,hl,hds,hok,hlen,λi outs st r=>(hfx i outs st r).2,hT,hB,λx d m outs st H1 rn kp DA Vm Nk=>?_⟩
  obtain⟨dx,hx⟩:=DA.ob
  obtain⟨kvs,hd,hw⟩:=DA.wd
  have fit:TS.Fits st.ws.length:=hfx dZ.length outs st (by rw[List.take_length];exact rn)
  refine⟨_,rfl,x,dx,_,rfl,hx,BV p d m _ DK DK DK DK,x,dx,p,d,m,_,kvs,st.ws,rfl,hx,hd,hw,fit,λl zs rs H2 s2 lI hl2 lr pm pw=>?_⟩
  have Av:=s2 _ _ hx
  have lrl:=lr.len
  have Xw:=pm.length_eq
  have abM:=fit.1
  refine⟨l,rfl,⟨_,aZ.of hl2⟩,λr hr=>?_⟩
  have UW:∀o,upd H2 r o x=H2 x:=λo=>ai (au Av hr)
  refine dQ (K:=K) (a:=l) (xs:=zs) (λi ys H3=>H3=upd H2 r (.lst ys)/\aD Wn.v H2 ys ((rs.take i).filter λw=>closed st.mk w.e)) ⟨rfl,.nil⟩ (λi ys H3 h=>by rw[h.1];exact af) (λi ys H3 _ h=>by rw[h.1];exact aZ.of ((av.new hr) _ _ hl2)) ?_ ?_
  ·rintro i y ys H3 ex ⟨rfl,la⟩
   obtain⟨w,b,ew,rfl,hb'⟩:=lr.get ex
   have htk:rs.take (i+1)=rs.take i++[w]:=by rw[List.take_add_one,ew];rfl
   have hb2:=(av.new (o:=.lst ys) hr) _ _ hb'
   have Kw:=(av.new (o:=.lst ys) hr) _ _ Av
   refine⟨cH rfl,?_⟩
   refine⟨_,rfl,x,dx,_,rfl,Kw,BV p d m _ DK DK DK DK,_,rfl,b,_,2,.int w.e,rfl,rfl,bJ.of hb2,rfl,x,dx,p,d,m,st.mk,w.e,rfl,Kw,_,rfl,aW (λh=>?_) (λh=>?_)⟩
   ·refine⟨_,rfl,ys,af,?_,by rw[fZ],?_⟩
    ·have:=la.len
     have:=List.length_filter_le (λw:Wn=>closed st.mk w.e) (rs.take i)
     rw[List.length_take]at this
     rw[sizeLine_eq]
     lia
    ·rw[htk,List.filter_append,List.filter_cons,if_pos h,List.filter_nil]
     exact la.snoc hb'
   ·refine⟨ys,rfl,?_⟩
    rw[htk,List.filter_append,List.filter_cons,if_neg h,List.filter_nil,List.append_nil]
    exact la
  ·rintro ys H3 ⟨rfl,la⟩
   rw[lrl,List.take_length]at la
   have sr:=av.new (o:=.lst ys) hr
   exact k r ys outs st rs _ rn (λb o e n=>sr _ _ (s2 _ _ (kp b o e n))) af pm pw (la.keep λa row e=>sr _ _ e) (bg Vm (λps e=>sr _ _ (s2 _ _ e)) λa o u e=>sr _ _ (s2 _ _ e)) (bM Nk λa o u e=>sr _ _ (s2 _ _ e))
end
def msV(q:Str×Int×Int):List V:=[.str q.1,.int q.2.1,.int q.2.2]
inductive sj(K:Fg7)(mg:Str->Option Value)(Pt:Addr)(vs:List V)(H:Hp)(Q:VK):Prop
 |mk(p dl:Addr)(pl:Pl)(xs:List V)(dZ:List bV):(vs=[.ref p,.ref dl])->(bJ K H p pl.row)->(bad pl=false)->(pl.ok)->(aZ K H dl xs)->(gD K H xs dZ)->((∀dd∈dZ,dd.ok))->(dZ.length<=1000)->((∀i outs st,Runs pl ⟨none,[],[]⟩ (dZ.take i) outs st->st.ws.length<TS.MX))->(bK H Pt lp lq)->(dj K mg H)->(∀(r:Addr)(zs:List V)(outs:List (List ji))(st:tQ)(H':Hp),Runs pl ⟨none,[],[]⟩ dZ outs st->gX H H' Pt->H' r=some (.lst zs)->aD msV H' zs st.ms->bK H' Pt lp lq->dj K mg H'->Q (.ref r) H')->sj K mg Pt vs H Q
def vE(K:Fg7)(mg:Str->Option Value)(Pt:Addr):Sp:=λvs H Q d_=>sj K mg Pt vs H Q
section
variable {P:Program} {w:World} {K:Fg7} {mg:Str->Option Value} {C Pt:Addr}
theorem FG(D:aH K "missed" gE)(M:MG K mg)(T:eK K C)(iC:eN P w K mg "desk_behind" ["plan","deeds"] 6 (qi K mg C Pt)):eN P w K mg "missed" ["plan","deeds"] 7 (vE K mg Pt):=by
 have bO:=T.cl
 refine D.fn M A_ Cd (λvs H Q E h=>?_) (λf base cdv A outer s H vs Q E hr h=>?_)
 ·obtain⟨p,dl,pl,xs,dZ,rfl,_⟩:=h
  rfl
 ·obtain⟨p,dl,pl,xs,dZ,rfl,hp,hb,ok,hl,hds,hok,hlen,hfx,hT,hB,k⟩:=h
  refine⟨_,(aA (aL (dN (a_ iC (hr.mono (by decide)) rfl (pc (pv 0) (pc (pv 1) aj))) rfl))),?_⟩
  refine⟨_,rfl,_,rfl,p,dl,pl,xs,dZ,rfl,hp,hb,ok,hl,hds,hok,hlen,hfx,hT,hB,λx d m outs st H1 rn kp DA Vm Nk=>?_⟩
  obtain⟨dx,hx⟩:=DA.ob
  obtain⟨zs,hm,lm⟩:=DA.ml
  exact⟨x,C,dx,_,_,rfl,hx,T.cl.cl,T.nS,fS p d m _,k m zs outs st H1 rn kp hm lm Vm Nk⟩
end
end K2
namespace K3
open PySem PySem.Spec PyProof.Rows L2 K1 K2
def qm(r:Wn×Option Bool):List V:=r.1.v++(match r.2 with
 |none=>[]
 |some b=>[.bl b])
inductive DE(vs:List V)(H:Hp)(Q:VK):Prop
 |mk(l:Addr)(zs:List V)(rs:List (Wn×Option Bool))(six:Bool):(vs=[.ref l,.int (if six=true then 6 else 5)])->(H l=some (.lst zs))->(aD qm H zs rs)->((∀r∈rs,r.2.isSome=six))->(∀H',av H H'->Q (.bl true) H')->DE vs H Q
def JO(K:Fg7):Sp:=λvs H Q d_=>DE vs H Q
section
variable {P:Program} {w:World} {K:Fg7} {mg:Str->Option Value}
theorem RO(D:aH K "_law_are_rows" cM)(M:MG K mg)(B:Bi K)(uM:eN P w K mg "_law_whole" ["_law_found"] 1 zv):eN P w K mg "_law_are_rows" ["_law_found","_law_size"] 2 (JO K):=by
 refine D.fn M fK nZ (λvs H Q E h=>?_) (λf base cdv A outer s H vs Q E hr h=>?_)
 ·obtain⟨l,zs,rs,six,rfl,_⟩:=h
  rfl
 ·obtain⟨l,zs,rs,six,rfl,hl,la,hs,k⟩:=h
  refine⟨_,(aq (b_ (iw (dM (aU aS rfl (M.no _ B.aO) aK (pc (pv 0) (pc (cj (v:=.ty "list") rfl (M.no _ B.iA) f_ rfl) aj))))) (aA (aL iJ)) aT)
   (aq (eT PassesOwn.never rfl (bL (pv 0)) (aQ (i:=2) fK.nd rfl (Or.inl rfl))
   (aq (b_ (PW.pt (zW (iw (dM (aU aS rfl (M.no _ B.aO) aK (pc (pv 2) (pc (cj (v:=.ty "tuple") rfl (M.no _ B.qd) mK rfl) aj))))) (zW (aP Ad (aU br rfl (M.no _ B.iN) fT (pc (pv 2) aj)) (pv 1) (aR _)) (xY (iw (dM (aU aS rfl (M.no _ B.aO) aK (pc (aI bC (pv 2) ah (λ_ _=>rfl)) (pc (cj (v:=.ty "str") rfl (M.no _ B.Gh) yJ rfl) aj))))))))) (aA (aL iJ)) aT)
   (aq (eT PassesOwn.never rfl (LO (qq Lw (pv 2) (lU ah) (lU ah))) (aQ (i:=3) fK.nd rfl (Or.inl rfl))
   (aA (b_ (iw (dM (a_ uM (hr.mono (by decide)) rfl (pc (pv 3) aj)))) (aA (aL iJ)) aT)))
   (aA (b_ (PW.pt (jq (aP e_ (pv 1) ah (aR _)) (iU (iw (dM (aU aS rfl (M.no _ B.aO) aK (pc (aI bC (pv 2) ah (λ_ _=>rfl)) (pc (cj (v:=.ty "bool") rfl (M.no _ B.qS) mO rfl) aj)))))))) (aA (aL iJ)) aT)))))
   (aA (aL iJ)))),?_⟩
  have no:∀{A:Prop},(!true)=true->A:=λh=>nomatch h
  refine⟨_,rfl,_,_,_,true,rfl,.lst hl,rfl,true,rfl,aW no λ_=>?_⟩
  refine⟨_,rfl,l,rfl,⟨_,aZ.of hl⟩,?_⟩
  refine fm (K:=K) (a:=l) (xs:=zs) (λi σ H'=>(∃v2 v3,σ=[some (.ref l),some (.int (if six=true then 6 else 5)),v2,v3])/\av H H') ⟨⟨none,none,rfl⟩,av.refl _⟩ (λi σ H' _ ⟨_,sm⟩=>aZ.of (sm _ _ hl)) ?_ ?_
  ·rintro i x σ H' ex ⟨⟨v2,v3,rfl⟩,sm⟩
   obtain⟨r,b,er,rfl,hb0⟩:=la.get ex
   have hb:=sm _ _ hb0
   have h6:=hs r (List.mem_of_getElem? er)
   obtain⟨tl,etl,hlen,Wl,hne,h5⟩:∃tl:List V,qm r=V.str r.1.n::(([r.1.s,r.1.e,r.1.c,r.1.t]:List Int).map V.int++tl)/\(qm r).length=(if six=true then 6 else 5)/\mJ (qm r) (some 1) (some 5)=([r.1.s,r.1.e,r.1.c,r.1.t]:List Int).map V.int/\¬(HT.fu (qm r).length 0 (some 1)=0/\HT.fu (qm r).length (qm r).length (some 5)=(qm r).length)/\(six=true->∃o,wW (qm r) 5=some (.bl o)):=by
    obtain⟨w,o⟩:=r
    cases o with
    |none=>cases six with
     |true=>cases h6
     |false=>exact⟨[],rfl,rfl,rfl,λh=>absurd h.1 (show¬(1:Nat)=0 by decide),λz=>(nomatch z)⟩
    |some o=>cases six with
     |false=>cases h6
     |true=>exact⟨[.bl o],rfl,rfl,rfl,λh=>absurd h.1 (show¬(1:Nat)=0 by decide),λ_=>⟨o,rfl⟩⟩
   refine⟨_,rfl,_,_,_,true,rfl,.tup hb,rfl,true,rfl,aW no λ_=>?_⟩
   refine⟨_,rfl,b,_,rfl,.inr (bJ.of hb),_,rfl,rfl,_,rfl,aW (λh=>?_) λ_=>?_⟩
   ·have e:V.int ((qm r).length:Int)=V.int (if six=true then 6 else 5):=by
     rw[hlen]
     cases six<;>rfl
    simp[e]at h
   refine⟨_,rfl,b,_,0,.str r.1.n,rfl,rfl,bJ.of hb,by rw[etl];exact WV,_,_,_,true,rfl,.str _,rfl,true,rfl,aW no λ_=>?_⟩
   refine⟨_,rfl,_,rfl,_,rfl,b,_,rfl,bJ.of hb,hne,λp hp=>?_⟩
   rw[Wl]
   have s1:=av.new (o:=.tup (([r.1.s,r.1.e,r.1.c,r.1.t]:List Int).map V.int)) hp
   refine⟨p,rfl,⟨_,bJ.of af⟩,?_⟩
   have hp1:upd H' p (.tup (([r.1.s,r.1.e,r.1.c,r.1.t]:List Int).map V.int)) p=some (.tup (([r.1.s,r.1.e,r.1.c,r.1.t]:List Int).map V.int)):=af
   have hb1:=s1 _ _ hb
   generalize upd H' p (.tup (([r.1.s,r.1.e,r.1.c,r.1.t]:List Int).map V.int))=H1 at *
   refine IK (K:=K) (a:=p) (xs:=([r.1.s,r.1.e,r.1.c,r.1.t]:List Int).map V.int) (λj σ H2=>(∃v,σ=[some (.ref l),some (.int (if six=true then 6 else 5)),some (.ref b),v])/\H2=H1) ⟨⟨v3,rfl⟩,rfl⟩ (λi σ H' _ ⟨_,e⟩=>by rw[e];exact bJ.of hp1) ?_ ?_
   ·rintro j y σ H2 hj ⟨⟨v,rfl⟩,rfl⟩
    rw[List.getElem?_map]at hj
    obtain⟨n,_,rfl⟩:=Option.map_eq_some_iff.mp hj
    exact⟨_,rfl,n,rfl,_,rfl,aW no λ_=>⟨⟨_,rfl⟩,rfl⟩⟩
   ·rintro σ H2 ⟨⟨v,rfl⟩,rfl⟩
    refine⟨_,rfl,rfl,_,rfl,aW (λh=>?_) λh=>⟨⟨_,_,rfl⟩,sm.trans s1⟩⟩
    have hx:six=true:=by
     cases six with
     |true=>rfl
     |false=>exact absurd h (by decide)
    obtain⟨o,ho⟩:=h5 hx
    exact⟨_,rfl,b,_,5,.bl o,rfl,rfl,bJ.of hb1,ho,_,_,_,true,rfl,.bl _,rfl,true,rfl,aW no λ_=>⟨⟨_,_,rfl⟩,sm.trans s1⟩⟩
  ·rintro σ H' ⟨⟨v2,v3,rfl⟩,sm⟩
   exact k H' sm
end
def wj(pl:Pl)(q:List Ev×Option Int):bV->List Ev×Option Int
 |.ev n t a=>if late q.2 (dS pl) t=true then q else(q.1++[⟨n,t,a⟩],q.2)
 |.mk t=>(q.1,match q.2 with
  |none=>some t
  |some m=>if m<t then some t else some m)
def eE(pl:Pl)(dZ:List bV):List Ev×Option Int:=dZ.foldl (wj pl) ([],none)
theorem gG(pl:Pl)(dZ:List bV)(dd:bV):eE pl (dZ++[dd])=wj pl (eE pl dZ) dd:=by
 unfold eE
 rw[List.foldl_append]
 rfl
theorem vJ{pl:Pl}(ok:pl.ok){dZ:List bV}{outs:List (List ji)}{Lr st:tQ}(h:Runs pl Lr dZ outs st):Lr=⟨none,[],[]⟩->st.mk=(eE pl dZ).2/\Tab pl (eE pl dZ).1 st.ws:=by
 induction h with
 |nil=>intro e;subst e;exact⟨rfl,Tab.nil pl⟩
 | @snoc st1 st2 dZ outs dd out r d ih=>
  intro e
  obtain⟨h1,h2⟩:=ih e
  rw[gG]
  cases dd with
  |ev n t a=>
   have el:wj pl (eE pl dZ) (.ev n t a)=if late (eE pl dZ).2 (dS pl) t=true then eE pl dZ else((eE pl dZ).1++[⟨n,t,a⟩],(eE pl dZ).2):=rfl
   rw[el]
   rcases d with⟨d1,_,rfl⟩|⟨d1,mt,ks,fB,d2,_,rfl⟩
   ·rw[h1]at d1
    rw[if_pos d1]
    exact⟨h1,h2⟩
   ·rw[h1]at d1
    rw[if_neg (λz=>by rw[d1]at z;cases z)]
    exact⟨h1,h2.step ok d2⟩
  |mk t=>
   rcases d with⟨d1,_,rfl⟩|⟨d1,rs,_,_,_,rfl⟩
   ·rw[h1]at d1
    refine⟨?_,h2⟩
    rw[h1]
    unfold wj
    cases e2:(eE pl dZ).2 with
    |none=>rw[e2]at d1;cases d1
    |some m=>
     rw[e2]at d1
     have:t<=m:=of_decide_eq_true d1
     show some m=if m<t then some t else some m
     rw[if_neg LI]
   ·rw[h1]at d1
    refine⟨?_,h2⟩
    unfold wj
    cases e2:(eE pl dZ).2 with
    |none=>rfl
    |some m=>
     rw[e2]at d1
     have:¬t<=m:=of_decide_eq_false d1
     show some t=if m<t then some t else some m
     rw[if_pos LI]
theorem qj{α:Type}(f:α->Dv)(sh:Sh):∀{l m:List α},(∀a∈l,Dv.isA sh (f a)=true)->(∀a∈l,∀b∈l,f a=f b->a=b)->l.Perm m->l.Pairwise (λa b=>aV (f a) (f b)≠.gt)->m.Pairwise (λa b=>aV (f a) (f b)≠.gt)->l=m
 |[],m,_,_,p,_,_=>(List.nil_perm.mp p).symm▸rfl
 |a::l,[],_,_,p,_,_=>by have:=p.length_eq;simp at this
 |a::l,b::m,hs,inj,p,h1,h2=>by
  obtain⟨p1,p2⟩:=List.pairwise_cons.mp h1
  obtain⟨q1,q2⟩:=List.pairwise_cons.mp h2
  have hbm:=p.mem_iff.mpr (List.mem_cons_self (a:=b) (l:=m))
  have e:a=b:=by
   have ha:=p.mem_iff.mp (List.mem_cons_self (a:=a) (l:=l))
   rcases List.mem_cons.mp ha with e|ha
   ·exact e
   ·rcases List.mem_cons.mp hbm with e|hb
    ·exact e.symm
    ·have n1:=q1 a ha
     have n2:=p1 b hb
     have sa:=hs a (.head _)
     have sb:=hs b hbm
     refine inj _ (.head _) _ hbm ((jC sa sb).mp ?_)
     have sw:=cmp_swap sa sb
     cases q:aV (f a) (f b)with
     |eq=>rfl
     |gt=>exact absurd q n2
     |lt=>rw[q]at sw;exact absurd sw n1
  subst e
  rw[qj f sh (λa ha=>hs a (.tail _ ha)) (λa ha b hb=>inj a (.tail _ ha) b (.tail _ hb)) (List.Perm.cons_inv p) p2 q2]
theorem Al{α:Type}{g:α->Dv}(h:∀a,(g a).dep<=1/\fc (g a) (g a)=true)(o:List α):(Dv.lst (o.map g)).dep<=30/\fc (.lst (o.map g)) (.lst (o.map g))=true:=by
 have h:Dv.deps (o.map g)<=1/\fN (o.map g) (o.map g)=true:=by
  induction o with
  |nil=>exact⟨Nat.zero_le _,rfl⟩
  |cons z o ih=>exact⟨Nat.max_le.mpr ⟨(h z).1,ih.1⟩,(Bool.and_eq_true _ _).mpr ⟨(h z).2,ih.2⟩⟩
 refine⟨?_,h.2⟩
 show Dv.deps (o.map g)+1<=30
 lia
theorem vK(w:Wn):w.d.dep<=1/\fc w.d w.d=true:=⟨Nat.le_of_ble_eq_true rfl,rfl⟩
theorem Mr{α β:Type}{f:α->List V}{g:β->List V}{H:Hp}{h:α->β}(e:∀a,g (h a)=f a){xs:List V}{ws:List α}(l:aD f H xs ws):aD g H xs (ws.map h):=by
 induction l with
 |nil=>exact .nil
 |cons r _ ih=>
  obtain⟨a,rfl,ha⟩:=r
  exact .cons ⟨a,rfl,by rw[e];exact ha⟩ ih
mutual
inductive Tk(H:Hp):V->Dv->Prop
 |dR:Tk H .dR .dR
 |bl(b:Bool):Tk H (.bl b) (.bl b)
 |int(i:Int):Tk H (.int i) (.int i)
 |str(x:Str):Tk H (.str x) (.str x)
 |tup{a:Addr}{xs:List V}{ds:List Dv}:H a=some (.tup xs)->xs.length<=10000000->Tks H xs ds->Tk H (.ref a) (.tup ds)
 |lst{a:Addr}{xs:List V}{ds:List Dv}:H a=some (.lst xs)->xs.length<=10000000->Tks H xs ds->Tk H (.ref a) (.lst ds)
inductive Tks(H:Hp):List V->List Dv->Prop
 |nil:Tks H [] []
 |cons{x:V}{xs:List V}{d:Dv}{ds:List Dv}:Tk H x d->Tks H xs ds->Tks H (x::xs) (d::ds)
end
mutual
theorem Tk.keep{H H':Hp}(s:av H H'):∀{x:V}{d:Dv},Tk H x d->Tk H' x d
 |_,_,.dR=>.dR
 |_,_,.bl b=>.bl b
 |_,_,.int i=>.int i
 |_,_,.str x=>.str x
 |_,_,.tup e l t=>.tup (s _ _ e) l (Tks.keep s t)
 |_,_,.lst e l t=>.lst (s _ _ e) l (Tks.keep s t)
theorem Tks.keep{H H':Hp}(s:av H H'):∀{xs:List V}{ds:List Dv},Tks H xs ds->Tks H' xs ds
 |_,_,.nil=>.nil
 |_,_,.cons h t=>.cons (Tk.keep s h) (Tks.keep s t)
end
theorem Tks.get{H:Hp}:∀{xs:List V}{ds:List Dv},Tks H xs ds->∀{i:Nat}{x:V},xs[i]? = some x->∃d,ds[i]? = some d/\Tk H x d
 |_,_,.cons h _,0,_,e=>⟨_,rfl,by cases e;exact h⟩
 |_,_,.cons _ t,_+1,_,e=>Tks.get t e
theorem Tks.len{H:Hp}:∀{xs:List V}{ds:List Dv},Tks H xs ds->xs.length=ds.length
 |_,_,.nil=>rfl
 |_,_,.cons _ t=>by rw[List.length_cons,List.length_cons,Tks.len t]
def ZP:Nat->Sp
 |0=>λ_ _ _ _=>False
 |n+1=>λvs H Q _=>∃(x y:V) (d:Dv),vs=[x,y]/\Tk H x d/\Tk H y d/\d.dep<=n/\∀H',av H H'->Q (.bl true) H'
section
variable {P:Program} {w:World} {K:Fg7} {mg:Str->Option Value}
theorem Mz:PySem.W.kitOne K (.type "str") (.type "bool")=some false:=by with_unfolding_all rfl
theorem My:PySem.W.kitOne K (.type "str") (.type "int")=some false:=by with_unfolding_all rfl
theorem MD:PySem.W.kitOne K (.type "list") (.type "bool")=some false:=by with_unfolding_all rfl
theorem MB:PySem.W.kitOne K (.type "list") (.type "int")=some false:=by with_unfolding_all rfl
theorem MA:PySem.W.kitOne K (.type "list") (.type "str")=some false:=by with_unfolding_all rfl
theorem MC:PySem.W.kitOne K (.type "list") (.type "dict")=some false:=by with_unfolding_all rfl
theorem ET:PySem.W.kitOne K (.type "list") (.type "tuple")=some false:=by with_unfolding_all rfl
theorem Mx:PySem.W.kitOne K (.type "tuple") (.type "bool")=some false:=by with_unfolding_all rfl
theorem Mv:PySem.W.kitOne K (.type "tuple") (.type "int")=some false:=by with_unfolding_all rfl
theorem Mu:PySem.W.kitOne K (.type "tuple") (.type "str")=some false:=by with_unfolding_all rfl
theorem Mw:PySem.W.kitOne K (.type "tuple") (.type "dict")=some false:=by with_unfolding_all rfl
theorem ES:PySem.W.kitOne K (.type "tuple") (.type "list")=some false:=by with_unfolding_all rfl
theorem MF:PySem.W.kitAny K (.type "list") (["list","tuple"].map Value.type)=some true:=by with_unfolding_all rfl
theorem ME:PySem.W.kitAny K (.type "tuple") (["list","tuple"].map Value.type)=some true:=by with_unfolding_all rfl
theorem RI(D:aH K "_law_so" eO)(M:MG K mg)(B:Bi K):∀n:Nat,eN P w K mg "_law_so" ["_law_found","_law_meant"] (n+1) (ZP n)
 |0=>D.fn M ko qQ (λvs H Q E h=>h.elim) (λf base cdv A outer s H vs Q E hr h=>h.elim)
 |n+1=>by
  have oq:=RI D M B n
  refine D.fn M ko qQ (λvs H Q E h=>?_) (λf base cdv A outer s H vs Q E hr h=>?_)
  ·obtain⟨x,y,d,rfl,_⟩:=h
   rfl
  ·obtain⟨x,y,d,rfl,hx,hy,hd,k⟩:=h
   refine⟨_,(aq (b_ (aP Es (pv 1) nh (aR _)) (aA (aL (gz Es (pv 0) nh (aR _)))) aT)
   (aq (b_ (dM (aU aS rfl (M.no _ B.aO) aK (pc (pv 1) (pc (cj (v:=.ty "bool") rfl (M.no _ B.qS) mO rfl) aj)))) (aA (aL (ju (aU aS rfl (M.no _ B.aO) aK (pc (pv 0) (pc (cj (v:=.ty "bool") rfl (M.no _ B.qS) mO rfl) aj))) (kB (gz e_ (pv 0) (pv 1) (aR _)))))) aT)
   (aq (b_ (dM (aU aS rfl (M.no _ B.aO) aK (pc (pv 1) (pc (cj (v:=.ty "int") rfl (M.no _ B.Gi) yK rfl) aj)))) (aA (aL (ju (aU aS rfl (M.no _ B.aO) aK (pc (pv 0) (pc (cj (v:=.ty "int") rfl (M.no _ B.Gi) yK rfl) aj))) (ju (Ej (aU aS rfl (M.no _ B.aO) aK (pc (pv 0) (pc (cj (v:=.ty "bool") rfl (M.no _ B.qS) mO rfl) aj)))) (kB (gz e_ (pv 0) (pv 1) (aR _))))))) aT)
   (aq (b_ (dM (aU aS rfl (M.no _ B.aO) aK (pc (pv 1) (pc (cj (v:=.ty "str") rfl (M.no _ B.Gh) yJ rfl) aj)))) (aA (aL (ju (aU aS rfl (M.no _ B.aO) aK (pc (pv 0) (pc (cj (v:=.ty "str") rfl (M.no _ B.Gh) yJ rfl) aj))) (kB (gz e_ (pv 0) (pv 1) (aR _)))))) aT)
   (aq (b_ (dM (aU aS rfl (M.no _ B.aO) aK (pc (pv 1) (pc (cj (v:=.ty "dict") rfl (M.no _ B.NW) Jh rfl) aj)))) (aA jr) aT)
   (aq (b_ (aP Ad (aU aS rfl (M.no _ B.aO) aK (pc (pv 1) (pc (cj (v:=.ty "tuple") rfl (M.no _ B.qd) mK rfl) aj))) (aU aS rfl (M.no _ B.aO) aK (pc (pv 0) (pc (cj (v:=.ty "tuple") rfl (M.no _ B.qd) mK rfl) aj))) (aR _)) (aA (aL iJ)) aT)
   (aq (b_ (PW.pt (zW (aP Ad (aU aS rfl (M.no _ B.aO) aK (pc (pv 1) (pc (cj (v:=.ty "list") rfl (M.no _ B.iA) f_ rfl) aj))) (aU aS rfl (M.no _ B.aO) aK (pc (pv 0) (pc (cj (v:=.ty "list") rfl (M.no _ B.iA) f_ rfl) aj))) (aR _)) (xY (iw (dM (aU uE rfl (M.no _ B.aO) aK (pc (pv 1) (pc (cF (pc (cj (v:=.ty "list") rfl (M.no _ B.iA) f_ rfl) (pc (cj (v:=.ty "tuple") rfl (M.no _ B.qd) mK rfl) aj))) aj)))))))) (aA (aL iJ)) aT)
   (aq (b_ (aP Ad (aU br rfl (M.no _ B.iN) fT (pc (pv 0) aj)) (aU br rfl (M.no _ B.iN) fT (pc (pv 1) aj)) (aR _)) (aA (aL iJ)) aT)
   (aq (eT PassesOwn.never rfl (jG rfl (M.no _ B.jK) (pc (aU br rfl (M.no _ B.iN) fT (pc (pv 1) aj)) aj)) (aQ (i:=2) ko.nd rfl (Or.inl rfl))
   (aA (b_ (iw (dM (a_ oq (hr.mono (Nat.le_refl _)) rfl (pc (aI EX (pv 0) (pv 2) (λ_ _=>rfl)) (pc (aI EX (pv 1) (pv 2) (λ_ _=>rfl)) aj))))) (aA (aL iJ)) aT)))
   (aA (aL iJ))))))))))),?_⟩
   have nf:∀{A:Prop},false=true->A:=λz=>nomatch z
   have k0:=k _ (av.refl _)
   cases hx with
   |dR=>
    cases hy
    refine⟨_,rfl,rfl,_,rfl,aW (λ_=>⟨_,rfl,rfl,?_⟩) (λh=>absurd (decide_eq_true rfl) h)⟩
    rw[decide_eq_true rfl]
    exact k0
   |bl b=>
    cases hy
    refine⟨_,rfl,rfl,_,rfl,aW (λh=>nomatch of_decide_eq_true h) (λ_=>?_)⟩
    refine⟨_,rfl,_,_,_,true,rfl,.bl b,rfl,true,rfl,aW (λ_=>?_) (λh=>absurd rfl h)⟩
    refine⟨_,rfl,_,_,_,true,rfl,.bl b,rfl,true,rfl,aW (λ_=>⟨_,rfl,_,rfl,rfl,?_⟩) (λh=>absurd rfl h)⟩
    rw[decide_eq_true rfl]
    exact k0
   |int i=>
    cases hy
    refine⟨_,rfl,rfl,_,rfl,aW (λh=>nomatch of_decide_eq_true h) (λ_=>?_)⟩
    refine⟨_,rfl,_,_,_,false,rfl,.int i,yv,false,rfl,aW nf (λ_=>?_)⟩
    refine⟨_,rfl,_,_,_,true,rfl,.int i,rfl,true,rfl,aW (λ_=>?_) (λh=>absurd rfl h)⟩
    refine⟨_,rfl,_,_,_,true,rfl,.int i,rfl,true,rfl,aW (λ_=>?_) (λh=>absurd rfl h)⟩
    refine⟨_,rfl,_,_,_,false,rfl,.int i,yv,false,rfl,true,rfl,aW (λ_=>⟨_,rfl,_,rfl,rfl,?_⟩) (λh=>absurd rfl h)⟩
    rw[decide_eq_true rfl]
    exact k0
   |str z=>
    cases hy
    refine⟨_,rfl,rfl,_,rfl,aW (λh=>nomatch of_decide_eq_true h) (λ_=>?_)⟩
    refine⟨_,rfl,_,_,_,false,rfl,.str z,Mz,false,rfl,aW nf (λ_=>?_)⟩
    refine⟨_,rfl,_,_,_,false,rfl,.str z,My,false,rfl,aW nf (λ_=>?_)⟩
    refine⟨_,rfl,_,_,_,true,rfl,.str z,rfl,true,rfl,aW (λ_=>?_) (λh=>absurd rfl h)⟩
    refine⟨_,rfl,_,_,_,true,rfl,.str z,rfl,true,rfl,aW (λ_=>⟨_,rfl,_,rfl,rfl,?_⟩) (λh=>absurd rfl h)⟩
    rw[decide_eq_true rfl]
    exact k0
   | @tup a xs ds ha PY ta=>
    cases hy with
    | @tup b ys _ hb lys tb=>
     refine⟨_,rfl,rfl,_,rfl,aW (λh=>nomatch of_decide_eq_true h) (λ_=>?_)⟩
     refine⟨_,rfl,_,_,_,false,rfl,.tup hb,Mx,false,rfl,aW nf (λ_=>?_)⟩
     refine⟨_,rfl,_,_,_,false,rfl,.tup hb,Mv,false,rfl,aW nf (λ_=>?_)⟩
     refine⟨_,rfl,_,_,_,false,rfl,.tup hb,Mu,false,rfl,aW nf (λ_=>?_)⟩
     refine⟨_,rfl,_,_,_,false,rfl,.tup hb,Mw,false,rfl,aW nf (λ_=>?_)⟩
     refine⟨_,rfl,_,_,_,true,rfl,.tup hb,rfl,_,rfl,_,_,_,true,rfl,.tup ha,rfl,rfl,_,rfl,aW (λh=>by rw[decide_eq_true rfl]at h;cases h) (λ_=>?_)⟩
     refine⟨_,rfl,_,_,_,false,rfl,.tup hb,ES,_,rfl,_,_,_,false,rfl,.tup ha,ES,rfl,_,rfl,aW (λh=>by rw[decide_eq_true rfl]at h;cases h) (λ_=>?_)⟩
     refine⟨_,rfl,(by show 2<=sizeLine;decide),λtp htp=>⟨b,tp,ys,["list","tuple"],_,true,rfl,.inr ⟨(av.new htp) _ _ hb,rfl⟩,af,ME,true,rfl,aW (λh=>nomatch h) (λ_=>?_)⟩⟩
     have s1:=av.new (o:=.tup [.ty "list",.ty "tuple"]) htp
     have ha1:=s1 _ _ ha
     have hb1:=s1 _ _ hb
     have Uo:=ta.keep s1
     have Um:=tb.keep s1
     have la:=ta.len
     have lb:=tb.len
     generalize upd H tp (.tup [.ty "list",.ty "tuple"])=H1 at *
     refine⟨_,rfl,a,_,rfl,.inr (bJ.of ha1),_,rfl,b,_,rfl,.inr (bJ.of hb1),rfl,_,rfl,aW (λh=>by rw[decide_eq_true (by rw[la,lb])]at h;cases h) (λ_=>?_)⟩
     have hd:Dv.deps ds+1<=n:=hd
     cases n with
     |zero=>exact absurd hd LI
     |succ n=>
      refine⟨_,rfl,b,_,rfl,.inr (bJ.of hb1),_,rfl,LI,LI,?_⟩
      rw[Int.toNat_natCast]
      refine iL (lo:=0) (n:=ys.length) (λi σ H'=>∃v:Option V,σ=[some (.ref a),some (.ref b),v]/\av H1 H') ⟨none,rfl,av.refl _⟩ ?_ ?_
      ·rintro i σ H' hi ⟨v,rfl,sm⟩
       rw[Int.zero_add]
       have e1:xs[i]? = some (xs[i]' LI):=List.getElem?_eq_getElem LI
       have e2:ys[i]? = some (ys[i]'hi):=List.getElem?_eq_getElem hi
       obtain⟨d1,g1,t1⟩:=Uo.get e1
       obtain⟨d2,g2,t2⟩:=Um.get e2
       rw[g1]at g2
       cases g2
       have:=gT g1
       refine⟨_,rfl,_,rfl,.inr (.inl ⟨a,_,_,_,rfl,rfl,bJ.of (sm _ _ ha1),fq e1,_,rfl,_,rfl,.inr (.inl ⟨b,_,_,_,rfl,rfl,bJ.of (sm _ _ hb1),fq e2,_,_,d1,rfl,t1.keep sm,t2.keep sm,by lia,λH2 s2=>⟨true,rfl,aW (λh=>nomatch h) (λ_=>⟨_,rfl,sm.trans s2⟩)⟩⟩)⟩)⟩
      ·rintro σ H' ⟨v,rfl,sm⟩
       exact k _ (s1.trans sm)
   | @lst a xs ds ha PY ta=>
    cases hy with
    | @lst b ys _ hb lys tb=>
     refine⟨_,rfl,rfl,_,rfl,aW (λh=>nomatch of_decide_eq_true h) (λ_=>?_)⟩
     refine⟨_,rfl,_,_,_,false,rfl,.lst hb,MD,false,rfl,aW nf (λ_=>?_)⟩
     refine⟨_,rfl,_,_,_,false,rfl,.lst hb,MB,false,rfl,aW nf (λ_=>?_)⟩
     refine⟨_,rfl,_,_,_,false,rfl,.lst hb,MA,false,rfl,aW nf (λ_=>?_)⟩
     refine⟨_,rfl,_,_,_,false,rfl,.lst hb,MC,false,rfl,aW nf (λ_=>?_)⟩
     refine⟨_,rfl,_,_,_,false,rfl,.lst hb,ET,_,rfl,_,_,_,false,rfl,.lst ha,ET,rfl,_,rfl,aW (λh=>by rw[decide_eq_true rfl]at h;cases h) (λ_=>?_)⟩
     refine⟨_,rfl,_,_,_,true,rfl,.lst hb,rfl,_,rfl,_,_,_,true,rfl,.lst ha,rfl,rfl,_,rfl,aW (λh=>by rw[decide_eq_true rfl]at h;cases h) (λ_=>?_)⟩
     refine⟨_,rfl,(by show 2<=sizeLine;decide),λtp htp=>⟨b,tp,ys,["list","tuple"],_,true,rfl,.inl ⟨(av.new htp) _ _ hb,rfl⟩,af,MF,true,rfl,aW (λh=>nomatch h) (λ_=>?_)⟩⟩
     have s1:=av.new (o:=.tup [.ty "list",.ty "tuple"]) htp
     have ha1:=s1 _ _ ha
     have hb1:=s1 _ _ hb
     have Uo:=ta.keep s1
     have Um:=tb.keep s1
     have la:=ta.len
     have lb:=tb.len
     generalize upd H tp (.tup [.ty "list",.ty "tuple"])=H1 at *
     refine⟨_,rfl,a,_,rfl,.inl (aZ.of ha1),_,rfl,b,_,rfl,.inl (aZ.of hb1),rfl,_,rfl,aW (λh=>by rw[decide_eq_true (by rw[la,lb])]at h;cases h) (λ_=>?_)⟩
     have hd:Dv.deps ds+1<=n:=hd
     cases n with
     |zero=>exact absurd hd LI
     |succ n=>
      refine⟨_,rfl,b,_,rfl,.inl (aZ.of hb1),_,rfl,LI,LI,?_⟩
      rw[Int.toNat_natCast]
      refine iL (lo:=0) (n:=ys.length) (λi σ H'=>∃v:Option V,σ=[some (.ref a),some (.ref b),v]/\av H1 H') ⟨none,rfl,av.refl _⟩ ?_ ?_
      ·rintro i σ H' hi ⟨v,rfl,sm⟩
       rw[Int.zero_add]
       have e1:xs[i]? = some (xs[i]' LI):=List.getElem?_eq_getElem LI
       have e2:ys[i]? = some (ys[i]'hi):=List.getElem?_eq_getElem hi
       obtain⟨d1,g1,t1⟩:=Uo.get e1
       obtain⟨d2,g2,t2⟩:=Um.get e2
       rw[g1]at g2
       cases g2
       have:=gT g1
       refine⟨_,rfl,_,rfl,.inl ⟨a,_,_,_,rfl,rfl,aZ.of (sm _ _ ha1),fq e1,_,rfl,_,rfl,.inl ⟨b,_,_,_,rfl,rfl,aZ.of (sm _ _ hb1),fq e2,_,_,d1,rfl,t1.keep sm,t2.keep sm,by lia,λH2 s2=>⟨true,rfl,aW (λh=>nomatch h) (λ_=>⟨_,rfl,sm.trans s2⟩)⟩⟩⟩⟩
      ·rintro σ H' ⟨v,rfl,sm⟩
       exact k _ (s1.trans sm)
end
inductive JH(vs:List V)(H:Hp)(Q:VK):Prop
 |mk(x y:V)(d:Dv):(vs=[x,y])->(Tk H x d)->(Tk H y d)->(d.dep<=3)->(∀H',av H H'->Q (.bl true) H')->JH vs H Q
def OW:Sp:=λvs H Q d_=>JH vs H Q
theorem RH{P:Program}{w:World}{K:Fg7}{mg:Str->Option Value}(D:aH K "_law_so" eO)(M:MG K mg)(B:Bi K):eN P w K mg "_law_so" ["_law_found","_law_meant"] 5 OW:=eN.imp (RI D M B 4) λ_ _ _ _ h=>by
 obtain⟨x,y,d,e,h1,h2,h3,k⟩:=h
 exact⟨x,y,d,e,h1,h2,h3,k⟩
def mH:List bV->List Ev
 |[]=>[]
 |.ev n t a::l=>⟨n,t,a⟩::mH l
 |.mk _::l=>mH l
theorem fR:∀(a b:List bV),mH (a++b)=mH a++mH b
 |[],_=>rfl
 |.ev n t a::l,b=>congrArg (_ :: ·) (fR l b)
 |.mk _::l,b=>fR l b
inductive gW(pl:Pl):List bV->Prop
 |nil:gW pl []
 |ev{l:List bV}{n:Str}{t a:Int}:gW pl l->late (eE pl l).2 (dS pl) t=false->gW pl (l++[.ev n t a])
 |mk{l:List bV}{t:Int}:gW pl l->gW pl (l++[.mk t])
theorem Ia{pl:Pl}{l:List bV}(h:gW pl l):(eE pl l).1=mH l:=by
 induction h with
 |nil=>rfl
 | @ev l n t a _ hl ih=>
  rw[gG,fR]
  show(if late (eE pl l).2 (dS pl) t=true then eE pl l else((eE pl l).1++[⟨n,t,a⟩],(eE pl l).2)).1=_
  rw[if_neg (by rw[hl];exact Bool.false_ne_true),ih]
  rfl
 |mk _ ih=>
  rw[gG,fR]
  exact ih.trans (List.append_nil _).symm
theorem Ib{pl:Pl}:∀{l:List bV}{m:Int},gW pl l->(eE pl l).2=some m->bV.mk m∈l:=by
 intro l m h
 induction h with
 |nil=>intro e;cases e
 | @ev l n t a _ hl ih=>
  intro e
  rw[gG]at e
  have e:(if late (eE pl l).2 (dS pl) t=true then eE pl l else((eE pl l).1++[⟨n,t,a⟩],(eE pl l).2)).2=some m:=e
  rw[if_neg (by rw[hl];exact Bool.false_ne_true)]at e
  exact List.mem_append_left _ (ih e)
 | @mk l t _ ih=>
  intro e
  rw[gG]at e
  cases hq:(eE pl l).2 with
  |none=>
   have e:(match(eE pl l).2 with|none=>some t|some m=>if m<t then some t else some m)=some m:=e
   rw[hq]at e
   cases e
   exact List.mem_append_right _ (.head _)
  |some q=>
   have e:(match(eE pl l).2 with|none=>some t|some m=>if m<t then some t else some m)=some m:=e
   rw[hq]at e
   dsimp only at e
   split at e
   ·cases e
    exact List.mem_append_right _ (.head _)
   ·rw[←hq]at e
    exact List.mem_append_left _ (ih e)
theorem EJ(pl:Pl)(l:List bV)(t:Int):∃m,(eE pl (l++[.mk t])).2=some m/\t<=m:=by
 rw[gG]
 cases hq:(eE pl l).2 with
 |none=>exact⟨t,by show(match(eE pl l).2 with|none=>some t|some m=>if m<t then some t else some m)=some t;rw[hq],Int.le_refl _⟩
 |some q=>
  by_cases h:q<t
  ·exact⟨t,by show(match(eE pl l).2 with|none=>some t|some m=>if m<t then some t else some m)=some t;rw[hq];exact if_pos h,Int.le_refl _⟩
  ·exact⟨q,by show(match(eE pl l).2 with|none=>some t|some m=>if m<t then some t else some m)=some q;rw[hq];exact if_neg h,by lia⟩
theorem HA{pl:Pl}(ok:pl.ok){l:List bV}{outs:List (List ji)}{Lr st:tQ}(h:Runs pl Lr l outs st):Lr=⟨none,[],[]⟩->gW pl l->st.ms=[]:=by
 induction h with
 |nil=>intro e _;subst e;rfl
 | @snoc st1 st2 dZ outs dd out r d ih=>
  intro e hn
  have em:=(vJ ok r e).1
  generalize ex:dZ++[dd]=x at hn
  cases hn with
  |nil=>simp at ex
  |ev n1 hl=>
   obtain⟨rfl,e2⟩:=List.append_inj' ex rfl
   cases e2
   rw[←em]at hl
   rcases d with⟨z,_⟩|⟨_,_,_,_,_,_,rfl⟩
   ·rw[hl]at z;cases z
   ·exact ih e n1
  |mk n1=>
   obtain⟨rfl,e2⟩:=List.append_inj' ex rfl
   cases e2
   rcases d with⟨_,_,rfl⟩|⟨_,_,_,_,_,rfl⟩
   ·exact ih e n1
   ·exact ih e n1
theorem GX{pl:Pl}{aJ:List Ev}{ws:List Wn}(t:Tab pl aJ ws){L:Int}(h:∀e∈aJ,e.t<=L){w:Wn}(m:w∈ws):w.e<=L+pl.len:=by
 have mk:w.k∈ws.map Wn.k:=List.mem_map_of_mem m
 cases ip:qF pl with
 |false=>
  obtain⟨g,e,me,hi⟩:=t.gr ip _ mk
  have e1:w.e=w.s+pl.len:=g.2
  have h1:=h e me
  have h2:w.s<=e.t:=(fj.mp hi).2.1
  lia
 |true=>
  obtain⟨e,me,_,et⟩:=(t.pr ip _ mk).b
  have h1:=h e me
  have et:e.t=w.e-pl.len:=et
  lia
theorem LU{α β:Type}{F:α->β->Prop}{xs:List α}{ys:List β}(h:Paired F xs ys):∀n:Nat,Paired F (xs.take n) (ys.take n):=by
 induction h with
 |nil=>intro n;cases n<;>exact .nil
 |cons e _ ih=>
  intro n
  cases n with
  |zero=>exact .nil
  |succ n=>exact .cons e (ih n)
theorem Er{α β:Type}{F:α->β->Prop}{xs:List α}{ys:List β}(h:Paired F xs ys):∀n:Nat,Paired F (xs.drop n) (ys.drop n):=by
 induction h with
 |nil=>intro n;cases n<;>exact .nil
 |cons e t ih=>
  intro n
  cases n with
  |zero=>exact .cons e t
  |succ n=>exact ih n
abbrev KZ(e:Ev):List V:=e.d.v
inductive vC(K:Fg7)(vs:List V)(H:Hp)(Q:VK):Prop
 |mk(l c:Addr)(xs:List V)(aJ:List Ev)(ns:List Int):(vs=[.ref l,.ref c])->(H l=some (.lst xs))->(aD KZ H xs aJ)->(aZ K H c (ns.map V.int))->(ns.length=aJ.length)->(aJ.length<=1000)->(∀(r:Addr)(ys:List V)(es:List Ev)(H':Hp),av H H'->H r=none->H' r=some (.lst ys)->aD KZ H' ys es->es.Perm aJ->Q (.ref r) H')->vC K vs H Q
def zE(K:Fg7):Sp:=λvs H Q d_=>vC K vs H Q
def WM(pl:Pl)(aJ:List Ev)(k:Nat)(ds:List bV):Prop:=mH ds=aJ.take k/\gW pl ds/\(∀m,bV.mk m∈ds->∀e∈aJ.drop k,m-dS pl<=e.t)/\ds.length<=2*k
inductive zu(K:Fg7)(vs:List V)(H:Hp)(Q:VK):Prop
 |mk(l p c:Addr)(xs:List V)(aJ:List Ev)(pl:Pl)(ns:List Int):(vs=[.ref l,.ref p,.ref c])->(H l=some (.lst xs))->(aD KZ H xs aJ)->(bJ K H p pl.row)->(aZ K H c (ns.map V.int))->(ns.length=aJ.length)->(aJ.length<=1000)->((∀e∈aJ,-(10^45)<e.t/\e.t<10^45))->(∀(r:Addr)(ys:List V)(ds:List bV)(H':Hp),av H H'->H r=none->H' r=some (.lst ys)->aD bV.v H' ys ds->WM pl aJ aJ.length ds->(∀dd∈ds,dd.ok)->Q (.ref r) H')->zu K vs H Q
def Di(K:Fg7):Sp:=λvs H Q d_=>zu K vs H Q
theorem GO{pl:Pl}{aJ:List Ev}{k:Nat}{ds:List bV}{e:Ev}(h:WM pl aJ k ds)(he:aJ[k]? = some e):mH (ds++[e.d])=aJ.take (k+1)/\gW pl (ds++[e.d])/\(∀m,bV.mk m∈ds++[e.d]->∀e'∈aJ.drop (k+1),m-dS pl<=e'.t):=by
 obtain⟨h1,h2,h3,_⟩:=h
 obtain⟨hk,ek⟩:=List.getElem?_eq_some_iff.mp he
 have ed:aJ.drop k=e::aJ.drop (k+1):=by rw[←ek];exact List.drop_eq_getElem_cons hk
 refine⟨?_,?_,λm hm e' me=>?_⟩
 ·rw[fR,h1,List.take_add_one,he]
  rfl
 ·refine .ev h2 ?_
  cases hq:(eE pl ds).2 with
  |none=>rfl
  |some m=>
   have:=h3 m (Ib h2 hq) e (by rw[ed];exact .head _)
   exact decide_eq_false LI
 ·rcases List.mem_append.mp hm with hm|hm
  ·exact h3 m hm e' (by rw[ed];exact .tail _ me)
  ·rw[List.mem_singleton]at hm
   cases hm
section
variable {P:Program} {w:World} {K:Fg7} {mg:Str->Option Value}
theorem IT(D:aH K "_law_other_order" bP)(M:MG K mg)(B:Bi K):eN P w K mg "_law_other_order" ["_law_events","_law_cells"] 1 (zE K):=by
 refine D.fn M eB jV (λvs H Q E h=>?_) (λf base cdv A outer s H vs Q E hr h=>?_)
 ·obtain⟨l,c,xs,aJ,ns,rfl,_⟩:=h
  rfl
 ·obtain⟨l,c,xs,aJ,ns,rfl,hl,la,hc,hn,en,k⟩:=h
  refine⟨_,(aq (cV (i:=2) eB.nd rfl (Or.inl rfl) (bZ aj))
   (aq (eT PassesOwn.never rfl (jG rfl (M.no _ B.jK) (pc (aU br rfl (M.no _ B.iN) fT (pc (pv 0) aj)) aj)) (aQ (i:=3) eB.nd rfl (Or.inl rfl))
   (aA (iI (oQ PySem.F.plainAttrs_list PySem.F.slot_list_insert PySem.F.type_list_insert Bv (pv 2) (pc (aC oMod (aC oMod (aC fy (aC iy (aI bH (pv 1) (pv 3) (λ_ _=>rfl)) (aC fy ah (pv 3))) ah) ah) (aC iy (aU br rfl (M.no _ B.iN) fT (pc (pv 2) aj)) ah)) (pc (aI bH (pv 0) (pv 3) (λ_ _=>rfl)) aj))))))
   (aA (aL (pv 2))))),?_⟩
  have sl:=sizeLine_eq
  have lx:=la.len
  refine⟨(by show 0<=sizeLine;decide),λr hr0=>?_⟩
  have s1:=av.new (o:=.lst []) hr0
  have hr1:upd H r (.lst []) r=some (.lst []):=af
  generalize upd H r (.lst [])=H1 at *
  refine⟨_,rfl,l,_,rfl,.inl (aZ.of (s1 _ _ hl)),_,rfl,LI,LI,?_⟩
  rw[Int.toNat_natCast]
  refine iL (lo:=0) (n:=xs.length) (λi σ H'=>∃(v:Option V) (ys:List V) (es:List Ev),σ=[some (.ref l),some (.ref c),some (.ref r),v]/\av H H'/\H' r=some (.lst ys)/\aD KZ H' ys es/\es.Perm (aJ.take i)) ⟨none,[],[],rfl,s1,hr1,.nil,.nil⟩ ?_ ?_
  ·rintro i σ H' hi ⟨v,ys,es,rfl,sm,hr',ly,pm⟩
   rw[Int.zero_add]
   have e1:xs[i]? = some (xs[i]'hi):=List.getElem?_eq_getElem hi
   obtain⟨e,q,ee,eq,hq⟩:=la.get e1
   have a1:=fq e1
   rw[eq]at a1
   have lyl:=ly.len
   have pl:=pm.length_eq
   rw[List.length_take]at pl
   refine⟨_,rfl,.inl ⟨rfl,_,aZ.of hr'⟩,_,rfl,_,rfl,c,_,_,_,rfl,rfl,sm.seq hc,iB ns LI LI,_,rfl,_,_,rfl,rfl,.inl ⟨by decide,by decide⟩,_,_,rfl,rfl,_,_,rfl,rfl,.inr ⟨by decide,by decide⟩,_,_,rfl,rfl,(by show(0:Int)<_;decide),_,rfl,r,_,rfl,.inl (aZ.of hr'),_,_,rfl,rfl,_,_,rfl,rfl,(by show(0:Int)<(ys.length:Int)+1;lia),_,rfl,_,rfl,l,_,_,_,rfl,rfl,aZ.of (sm _ _ hl),a1,?_⟩
   generalize (ns.getD ((i:Int)).toNat 0+3*(i:Int))*48271%1063=z
   have m0:0<=z%((ys.length:Int)+1):=Int.emod_nonneg _ LI
   have m1:z%((ys.length:Int)+1)<(ys.length:Int)+1:=Int.emod_lt_of_pos _ LI
   generalize z%((ys.length:Int)+1)=j at *
   obtain⟨jn,rfl⟩:∃jn:Nat,j=jn:=⟨j.toNat,by lia⟩
   have up:∀zs a row,H' a=some (.tup row)->upd H' r (.lst zs) a=some (.tup row):=λzs a row e=>by rw[ai (aN e hr' (by intro z;cases z))];exact e
   refine⟨r,ys,jn,.ref q,rfl,rfl,hr',by lia,by lia,by lia,_,_,es.take jn++e::es.drop jn,rfl,λa o h=>?_,af,?_,?_⟩
   ·rw[ai (au h hr0)]
    exact sm _ _ h
   ·rw[Int.toNat_natCast]
    have SQ:=ly.keep (up (ys.take jn ++ .ref q::ys.drop jn))
    exact Paired.app (LU SQ jn) (.cons ⟨q,rfl,up _ _ _ (sm _ _ hq)⟩ (Er SQ jn))
   ·rw[List.take_add_one,ee]
    refine List.perm_middle.trans ?_
    rw[List.take_append_drop]
    exact(List.Perm.cons _ pm).trans (List.perm_append_singleton _ _).symm
  ·rintro σ H' ⟨v,ys,es,rfl,sm,hr',ly,pm⟩
   rw[lx,List.take_length]at pm
   exact⟨_,rfl,k r ys es H' sm hr0 hr' ly pm⟩
theorem Nn(D:aH K "_law_with_marks" bW)(M:MG K mg)(B:Bi K):eN P w K mg "_law_with_marks" ["_law_events","_law_plan","_law_cells"] 1 (Di K):=by
 refine D.fn M dF kU (λvs H Q E h=>?_) (λf base cdv A outer s H vs Q E hr h=>?_)
 ·obtain⟨l,p,c,xs,aJ,pl,ns,rfl,_⟩:=h
  rfl
 ·obtain⟨l,p,c,xs,aJ,pl,ns,rfl,hl,la,hp,hc,hn,en,eo,k⟩:=h
  refine⟨_,(aq (cV (i:=3) dF.nd rfl (Or.inl rfl) (bZ aj))
   (aq (eT PassesOwn.never rfl (jG rfl (M.no _ B.jK) (pc (aU br rfl (M.no _ B.iN) fT (pc (pv 0) aj)) aj)) (aQ (i:=4) dF.nd rfl (Or.inl rfl))
   (aq (iI (oQ PySem.F.plainAttrs_list PySem.F.slot_list_append PySem.F.type_list_append ff (pv 3) (pc (aI bH (pv 0) (pv 4) (λ_ _=>rfl)) aj)))
   (aq (cV (i:=5) dF.nd rfl (Or.inl rfl) (aU (tF rfl) rfl (M.no _ B.Ld) Gd (pc (dY (NY:=["_law_event"]) (js:=[none]) rfl rfl (by with_unfolding_all rfl) (by repeat first|exact cI.nil|refine cI.cons rfl ?_) (.own .nil) (bL (qq zS (pv 0) (lU (pv 4)) HJ)) (λ_ _ _ _ _=>⟨(aQ (i:=0) (show(["_law_event"]:List Str).Nodup from by decide +kernel) rfl (Or.inl rfl)),fh,(aI (bh (K:=K) rfl) (pv 0) ah (λ_ _=>rfl))⟩)) aj)))
   (aA (b_ (aP e_ (aC oMod (aC oMod (aC fy (aI bH (pv 2) (pv 4) (λ_ _=>rfl)) ah) ah) ah) ah (aR _)) (aA (iI (oQ PySem.F.plainAttrs_list PySem.F.slot_list_append PySem.F.type_list_append ff (pv 3) (pc (cF (pc dh (pc (aC uq (aC iy (pv 5) (aI bC (pv 1) (oO uW ah) (λ_ _=>rfl))) (aC oMod (aC oMod (aC fy (aI bH (pv 2) (pv 4) (λ_ _=>rfl)) ah) ah) ah)) aj))) aj)))) aT)))))
   (aA (aL (pv 3))))),?_⟩
  have sl:=sizeLine_eq
  have lx:=la.len
  refine⟨(by show 0<=sizeLine;decide),λr hr0=>?_⟩
  have s1:=av.new (o:=.lst []) hr0
  have hr1:upd H r (.lst []) r=some (.lst []):=af
  generalize upd H r (.lst [])=H1 at *
  refine⟨_,rfl,l,_,rfl,.inl (aZ.of (s1 _ _ hl)),_,rfl,LI,LI,?_⟩
  rw[Int.toNat_natCast]
  refine iL (lo:=0) (n:=xs.length) (λi σ H'=>∃(v u:Option V) (ys:List V) (ds:List bV),σ=[some (.ref l),some (.ref p),some (.ref c),some (.ref r),v,u]/\av H H'/\H' r=some (.lst ys)/\aD bV.v H' ys ds/\WM pl aJ i ds/\∀dd∈ds,dd.ok) ⟨none,none,[],[],rfl,s1,hr1,.nil,⟨rfl,.nil,λ_ h=>(nomatch h),Nat.le_refl _⟩,λ_ h=>nomatch h⟩ ?_ ?_
  ·rintro i σ H' hi ⟨v,u,ys,ds,rfl,sm,hr',ly,wm,od⟩
   rw[Int.zero_add]
   have e1:xs[i]? = some (xs[i]'hi):=List.getElem?_eq_getElem hi
   obtain⟨e,q,ee,eq,hq⟩:=la.get e1
   have a1:=fq e1
   rw[eq]at a1
   have lyl:=ly.len
   have wl:=wm.2.2.2
   obtain⟨w1,w2,w3⟩:=GO wm ee
   have Pw:∀dd∈ds++[e.d],dd.ok:=λdd h=>by
    rcases List.mem_append.mp h with h|h
    ·exact od dd h
    ·rw[List.mem_singleton.mp h]
     exact eo e (List.mem_of_getElem? ee)
   refine⟨_,rfl,.inl ⟨rfl,_,aZ.of hr'⟩,_,rfl,_,rfl,l,_,_,_,rfl,rfl,aZ.of (sm _ _ hl),a1,r,_,.ref q,rfl,rfl,hr',by lia,?_⟩
   have up:∀a row,H' a=some (.tup row)->upd H' r (.lst (ys++[.ref q])) a=some (.tup row):=λa row e=>by rw[ai (aN e hr' (by intro z;cases z))];exact e
   have Hs:av H (upd H' r (.lst (ys++[.ref q]))):=λa o h=>by
    rw[ai (au h hr0)]
    exact sm _ _ h
   have SQ:aD bV.v (upd H' r (.lst (ys++[.ref q]))) (ys++[.ref q]) (ds++[e.d]):=(ly.keep up).snoc (up _ _ (sm _ _ hq))
   have hr2:upd H' r (.lst (ys++[.ref q])) r=some (.lst (ys++[.ref q])):=af
   generalize upd H' r (.lst (ys++[.ref q]))=H2 at *
   refine⟨_,rfl,_,rfl,_,rfl,l,_,rfl,aZ.of (Hs _ _ hl),λtl BN=>⟨tl,rfl,⟨_,aZ.of af⟩,λml hml=>?_⟩⟩
   have t3:=av.new (o:=.lst (mJ xs (some (i:Int)) none)) BN
   have MR:upd H2 tl (.lst (mJ xs (some (i:Int)) none)) tl=some (.lst (mJ xs (some (i:Int)) none)):=af
   have RT:mJ xs (some (i:Int)) none=xs.drop i:=by
    unfold mJ
    rw[HT.Hv,HT.DN,Nat.min_eq_left LI]
    exact List.take_of_length_le (by rw[List.length_drop];lia)
   rw[RT]at t3 MR hml ⊢
   have JS:=Hs.trans t3
   have Iv:=t3 _ _ hr2
   have XZ:=SQ.keep λa row e=>t3 _ _ e
   generalize upd H2 tl (.lst (xs.drop i))=H3 at *
   have ld:aD KZ H (xs.drop i) (aJ.drop i):=Er la i
   refine dQ (K:=K) (a:=tl) (xs:=xs.drop i) (λj zs H4=>H4=upd H3 ml (.lst zs)/\zs=((aJ.drop i).take j).map λe=>V.int e.t) ⟨rfl,rfl⟩ (λj zs H4 h=>by rw[h.1];exact af) (λj zs H4 _ h=>by rw[h.1];exact aZ.of ((av.new hml) _ _ MR)) ?_ ?_
   ·rintro j x zs H4 ex ⟨rfl,rfl⟩
    obtain⟨e',b,WI,rfl,hb'⟩:=ld.get ex
    refine⟨cH rfl,?_⟩
    have htk:(aJ.drop i).take (j+1)=(aJ.drop i).take j++[e']:=by rw[List.take_add_one,WI];rfl
    refine⟨_,rfl,b,_,2,.int e'.t,rfl,rfl,bJ.of ((av.new hml) _ _ (JS _ _ hb')),rfl,_,af,?_,?_,?_⟩
    ·rw[List.length_map,List.length_take,List.length_drop,sizeLine_eq]
     lia
    ·rw[fZ]
    ·rw[htk,List.map_append]
     rfl
   rintro zs H4 ⟨rfl,rfl⟩
   have ez:((aJ.drop i).take (xs.drop i).length).map (λe=>V.int e.t)=((aJ.drop i).map Ev.t).map V.int:=by
    rw[ld.len,List.take_length,List.map_map]
    rfl
   rw[ez]
   have hpos:0<((aJ.drop i).map Ev.t).length:=by rw[List.length_map,List.length_drop];lia
   refine⟨ml,(aJ.drop i).map Ev.t,rfl,aZ.of af,hpos,λL mL hL=>?_⟩
   have t4:=av.new (o:=.lst (((aJ.drop i).map Ev.t).map V.int)) hml
   have OX:=JS.trans t4
   have Th:=t4 _ _ Iv
   have Vk:=XZ.keep λa row e=>t4 _ _ e
   clear MR hml t4 t3 JS Iv XZ hpos ez RT BN
   generalize upd H3 ml (.lst (((aJ.drop i).map Ev.t).map V.int))=H4 at *
   have hL':∀e'∈aJ.drop (i+1),L<=e'.t:=λe' me=>hL _ (List.mem_map_of_mem (by
    have:=List.drop_add_one_eq_tail_drop (l:=aJ) (i:=i)
    rw[this]at me
    exact List.mem_of_mem_tail me))
   refine⟨_,rfl,_,rfl,c,_,_,_,rfl,rfl,OX.seq hc,iB ns LI LI,_,_,rfl,rfl,.inr ⟨by decide,by decide⟩,_,_,rfl,rfl,(by show(0:Int)<_;decide),_,_,rfl,rfl,(by show(0:Int)<_;decide),rfl,_,rfl,aW (λ_=>?_) (λ_=>?_)⟩
   ·refine⟨_,rfl,.inl ⟨rfl,_,aZ.of Th⟩,_,rfl,_,rfl,1,rfl,p,_,-1,_,rfl,rfl,OX.jo hp,DQ pl,_,_,rfl,rfl,_,rfl,_,rfl,c,_,_,_,rfl,rfl,OX.seq hc,iB ns LI LI,_,_,rfl,rfl,.inr ⟨by decide,by decide⟩,_,_,rfl,rfl,(by show(0:Int)<_;decide),_,_,rfl,rfl,(by show(0:Int)<_;decide),_,_,rfl,rfl,(by show 2<=sizeLine;decide),λq5 hq5=>?_⟩
    have mz:=mod2 (ns.getD ((i:Int)).toNat 0*48271) 1087 4 (by decide)
    generalize ns.getD ((i:Int)).toNat 0*48271%1087%4=z at *
    have t5:=av.new (o:=.tup [.str "mark",.int (L+dS pl-z)]) hq5
    have l4:=Vk.len
    rw[List.length_append,List.length_append]at l4
    refine⟨r,_,.ref q5,rfl,rfl,t5 _ _ Th,by rw[List.length_append];simp only[List.length_cons,List.length_nil];lia,?_⟩
    have Xi:∀a row,upd H4 q5 (.tup [.str "mark",.int (L+dS pl-z)]) a=some (.tup row)->upd (upd H4 q5 (.tup [.str "mark",.int (L+dS pl-z)])) r (.lst (ys++[.ref q]++[.ref q5])) a=some (.tup row):=λa row e=>by rw[ai (aN e (t5 _ _ Th) (by intro z;cases z))];exact e
    refine⟨_,_,ys++[.ref q]++[.ref q5],ds++[e.d]++[.mk (L+dS pl-z)],rfl,λa o h=>?_,af,(Vk.keep λa row e=>Xi _ _ (t5 _ _ e)).snoc (Xi _ _ af),⟨?_,.mk w2,λm hm e' me=>?_,?_⟩,λdd h=>?_⟩
    ·rw[ai (au h hr0)]
     exact t5 _ _ (OX _ _ h)
    ·rw[fR,w1]
     exact List.append_nil _
    ·rcases List.mem_append.mp hm with hm|hm
     ·exact w3 m hm e' me
     ·rw[List.mem_singleton]at hm
      cases hm
      have:=hL' e' me
      lia
    ·rw[List.length_append,List.length_append]
     simp only[List.length_cons,List.length_nil]
     lia
    ·rcases List.mem_append.mp h with h|h
     ·exact Pw dd h
     ·rw[List.mem_singleton.mp h]
      trivial
   ·refine⟨_,_,_,_,rfl,OX,Th,Vk,⟨w1,w2,w3,?_⟩,Pw⟩
    rw[List.length_append]
    simp only[List.length_cons,List.length_nil]
    lia
  ·rintro σ H' ⟨v,u,ys,ds,rfl,sm,hr',ly,wm,od⟩
   rw[lx]at wm
   exact⟨_,rfl,k r ys ds H' sm hr0 hr' ly wm od⟩
end
inductive Dt(Pt:Addr)(K:Fg7)(mg:Str->Option Value)(vs:List V)(H:Hp)(Q:VK):Prop
 |mk(a:Addr)(ns:List Int):(vs=[.ref a])->(aZ K H a (ns.map V.int))->(ns.length<=63)->(bK H Pt lp lq)->(dj K mg H)->(∀H',Q (.bl true) H')->Dt Pt K mg vs H Q
def JJ(Pt:Addr)(K:Fg7)(mg:Str->Option Value):Sp:=λvs H Q d_=>Dt Pt K mg vs H Q
def Nt(H H':Hp):Prop:=∀c o,H c=some o->(∀ps,o≠.pA ps)->H' c=some o
theorem Nt.of{H H':Hp}(s:av H H'):Nt H H':=λc o e _=>s c o e
theorem Nt.trans{H H1 H2:Hp}(s:Nt H H1)(t:Nt H1 H2):Nt H H2:=λc o e n=>t c o (s c o e n) n
theorem Nt.kp{H H':Hp}{Pt:Addr}(lt:bK H Pt lp lq)(k:gX H H' Pt):Nt H H':=λc o e n=>by
 obtain⟨ps,hp⟩:=eU lt
 exact k c o e (aN e hp (n ps))
theorem Nt.lst{H H':Hp}(s:Nt H H'){c:Addr}{xs:List V}(e:H c=some (.lst xs)):H' c=some (.lst xs):=s _ _ e λ_ z=>nomatch z
theorem Nt.tup{H H':Hp}(s:Nt H H')(c:Addr)(xs:List V)(e:H c=some (.tup xs)):H' c=some (.tup xs):=s _ _ e λ_ z=>nomatch z
theorem qM{K:Fg7}{H:Hp}{xs:List V}{ds:List bV}(l:aD bV.v H xs ds):gD K H xs ds:=Paired.imp' (λ_ _ ⟨b,e,h⟩=>⟨b,e,bJ.of h⟩) l
structure Zr(pl:Pl)(aJ:List Ev)(ds:List bV):Prop where
 no:gW pl ds
 ev:(mH ds).Perm aJ
 en:∃m,(eE pl ds).2=some m/\∀e∈aJ,e.t+pl.len<=m
 ok:∀dd∈ds,dd.ok
 ln:ds.length<=130
theorem CF{pl:Pl}{aJ es:List Ev}{ds:List bV}{E:Int}(h:WM pl es es.length ds)(pm:es.Perm aJ)(hE:∀e∈aJ,e.t+pl.len<=E)(ok:∀dd∈ds,dd.ok)(hl:es.length<=63):Zr pl aJ (ds++[.mk E]):=by
 obtain⟨h1,h2,_,h4⟩:=h
 refine⟨.mk h2,?_,?_,λdd hd=>?_,by rw[List.length_append];simp only[List.length_cons,List.length_nil];lia⟩
 ·rw[fR,h1,List.take_length]
  exact(List.append_nil es).symm▸pm
 ·obtain⟨m,e,hm⟩:=EJ pl ds E
  exact⟨m,e,λx hx=>Int.le_trans (hE x hx) hm⟩
 ·rcases List.mem_append.mp hd with hd|hd
  ·exact ok dd hd
  ·rw[List.mem_singleton.mp hd]
   trivial
theorem Bd{pl:Pl}{Lr st:tQ}{dZ:List bV}{outs:List (List ji)}(h:Runs pl Lr dZ outs st):outs.length=dZ.length:=by
 induction h with
 |nil=>rfl
 |snoc _ _ ih=>rw[List.length_append,List.length_append,ih];rfl
section
variable {P:Program} {w:World} {K:Fg7} {mg:Str->Option Value} {Pt:Addr}
theorem RL(D:aH K "law" kc)(M:MG K mg)(B:Bi K)(ou:eN P w K mg "_law_at" ["_law_script","_law_k"] 1 (JN K))(rm:eN P w K mg "_law_plan_of" ["_law_one","_law_two"] 1 zD)
  (rq:eN P w K mg "_law_base_of" ["_law_cell"] 1 DB)(pO:eN P w K mg "_law_event_of" ["_law_cell","_law_k","_law_base"] 2 Dy)(lz:eN P w K mg "_law_other_order" ["_law_events","_law_cells"] 1 (zE K))(ig:eN P w K mg "_law_with_marks" ["_law_events","_law_plan","_law_cells"] 1 (Di K))
  (pM:eN P w K mg "_law_table_of" ["_law_plan","_law_events"] 3 (zw K))(Gy:eN P w K mg "missed" ["plan","deeds"] 7 (vE K mg Pt))(yX:eN P w K mg "standing" ["plan","deeds"] 7 (zA K mg Pt))(oq:eN P w K mg "_law_so" ["_law_found","_law_meant"] 5 OW)(pP:eN P w K mg "_law_are_rows" ["_law_found","_law_size"] 2 (JO K))(Ck:eN P w K mg "answers" ["plan","deeds"] 6 (JP K mg Pt)):
  eN P w K mg "law" ["_law_script"] 8 (JJ Pt K mg):=by
 refine D.fn M eS NU (λvs H Q E h=>?_) (λf base cdv A outer s H vs Q E hr h=>?_)
 ·obtain⟨a,ns,rfl,_⟩:=h
  rfl
 ·obtain⟨a,ns,rfl,ha,hlen,hT,hB,k⟩:=h
  have hu:(A.deeper (envOfC "law" (ao kc) s.heap.objs.size f cdv)).units+64<cLine:=hr.units
  refine⟨_,(aq (cV (i:=1) eS.nd rfl (Or.inl rfl) (a_ rm (hr.mono (by decide)) rfl (pc (a_ ou (hr.mono (by decide)) rfl (pc (pv 0) (pc ah aj))) (pc (a_ ou (hr.mono (by decide)) rfl (pc (pv 0) (pc ah aj))) aj))))
   (aq (cV (i:=2) eS.nd rfl (Or.inl rfl) (a_ rq (hr.mono (by decide)) rfl (pc (a_ ou (hr.mono (by decide)) rfl (pc (pv 0) (pc ah aj))) aj)))
   (aq (cV (i:=3) eS.nd rfl (Or.inl rfl) (qq zS (pv 0) (lU ah) (lU ah)))
   (aq (cV (i:=4) eS.nd rfl (Or.inl rfl) (bZ aj))
   (aq (eT PassesOwn.never rfl (jG rfl (M.no _ B.jK) (pc (aU br rfl (M.no _ B.iN) fT (pc (pv 3) aj)) aj)) (aQ (i:=5) eS.nd rfl (Or.inl rfl))
   (aA (b_ (PW.pt (jq (aP e_ (aC oMod (aC oMod (aC fy (aI bH (pv 3) (pv 5) (λ_ _=>rfl)) ah) ah) ah) ah (aR _)) (iU (aP UR (pv 5) ah (aR _))))) (aA (iI (oQ PySem.F.plainAttrs_list PySem.F.slot_list_append PySem.F.type_list_append ff (pv 4) (pc (aI bH (pv 4) (oO uW ah) (λ_ _=>rfl)) aj)))) (aA (iI (oQ PySem.F.plainAttrs_list PySem.F.slot_list_append PySem.F.type_list_append ff (pv 4) (pc (a_ pO (hr.mono (by decide)) rfl (pc (aC iy (aI bH (pv 3) (pv 5) (λ_ _=>rfl)) (aC fy ah (pv 5))) (pc (pv 5) (pc (pv 2) aj)))) aj)))))))
   (aq (cV (i:=6) eS.nd rfl (Or.inl rfl) (a_ lz (hr.mono (by decide)) rfl (pc (pv 4) (pc (pv 3) aj))))
   (aq (cV (i:=7) eS.nd rfl (Or.inl rfl) (aU (tG rfl) rfl (M.no _ B.Le) Ge (pc (aC kE (dY (NY:=["_law_event"]) (js:=[none]) rfl rfl (by with_unfolding_all rfl) (by repeat first|exact cI.nil|refine cI.cons rfl ?_) (.own .nil) (bL (pv 4)) (λ_ _ _ _ _=>⟨(aQ (i:=0) (show(["_law_event"]:List Str).Nodup from by decide +kernel) rfl (Or.inl rfl)),fh,(aI (bh (K:=K) rfl) (pv 0) ah (λ_ _=>rfl))⟩)) (bZ (pc (pv 2) aj))) aj)))
   (aq (cV (i:=8) eS.nd rfl (Or.inl rfl) (cF (pc dh (pc (aC iy (aC iy (pv 7) ah) (aC fy ah (aI bC (pv 1) ah (λ_ _=>rfl)))) aj))))
   (aq (cV (i:=9) eS.nd rfl (Or.inl rfl) (aC kE (a_ ig (hr.mono (by decide)) rfl (pc (pv 4) (pc (pv 1) (pc (pv 3) aj)))) (bZ (pc (pv 8) aj))))
   (aq (cV (i:=10) eS.nd rfl (Or.inl rfl) (aC kE (a_ ig (hr.mono (by decide)) rfl (pc (pv 6) (pc (pv 1) (pc (ye rfl rfl (M.no _ B.iA) rfl (M.no _ B.yQ) (pv 3)) aj)))) (bZ (pc (pv 8) aj))))
   (aq (cV (i:=11) eS.nd rfl (Or.inl rfl) (a_ pM (hr.mono (by decide)) rfl (pc (pv 1) (pc (pv 4) aj))))
   (aq (eT PassesOwn.never rfl (bL (bZ (pc (pv 9) (pc (pv 10) aj)))) (aQ (i:=12) eS.nd rfl (Or.inl rfl))
   (aq (cV (i:=13) eS.nd rfl (Or.inl rfl) (a_ yX (hr.mono (by decide)) rfl (pc (pv 1) (pc (pX iX rfl (M.no _ B.iA) f_ (pc (pv 12) aj)) aj))))
   (aq (b_ (iw (dM (a_ oq (hr.mono (by decide)) rfl (pc (a_ Gy (hr.mono (by decide)) rfl (pc (pv 1) (pc (pX iX rfl (M.no _ B.iA) f_ (pc (pv 12) aj)) aj))) (pc (bZ aj) aj))))) (aA (aL iJ)) aT)
   (aA (b_ (PW.pt (zW (iw (dM (a_ pP (hr.mono (by decide)) rfl (pc (pv 13) (pc ah aj))))) (xY (aP (LY hu) (pv 13) (pv 11) (aR _))))) (aA (aL iJ)) aT)))))
   (aq (cV (i:=14) eS.nd rfl (Or.inl rfl) (a_ Ck (hr.mono (by decide)) rfl (pc (pv 1) (pc (pX iX rfl (M.no _ B.iA) f_ (pc (pv 10) aj)) aj))))
   (aA (aL (ju (aU aS rfl (M.no _ B.aO) aK (pc (pv 14) (pc (cj (v:=.ty "list") rfl (M.no _ B.iA) f_ rfl) aj))) (kB (gz e_ (aU br rfl (M.no _ B.iN) fT (pc (pv 14) aj)) (aU br rfl (M.no _ B.iN) fT (pc (pv 10) aj)) (aR _))))))))))))))))))),?_⟩
  clear hu
  have no:∀{A:Prop},(!true)=true->A:=λh=>nomatch h
  have sz:=sizeLine_eq
  refine cg λBq iK=>?_
  refine⟨_,rfl,a,ns,0,rfl,ha,(by decide),λv0=>⟨_,rfl,a,ns,1,rfl,ha,(by decide),λv1=>⟨v0,v1,rfl,λp pl H1 s1 hp0 hp ok bd=>?_⟩⟩⟩
  subst iK
  try dsimp only[dU]
  refine cg λBq iK=>?_
  refine⟨_,rfl,a,ns,2,rfl,s1.seq ha,(by decide),λv2=>⟨v2,rfl,λb H2 s2 b1 b2=>?_⟩⟩
  have Hw:=s1.trans s2
  have hp2:=s2 _ _ hp
  subst iK
  try dsimp only[dU]
  refine cg λBq iK=>?_
  refine⟨_,rfl,_,rfl,_,rfl,a,_,rfl,Hw.seq ha,λcl hcl=>?_⟩
  obtain⟨cs,Zc,lcs⟩:∃cs:List Int,mJ (ns.map V.int) (some 3) (some 33)=cs.map V.int/\cs.length<=63:=by
   refine⟨(ns.drop (HT.fu (ns.map V.int).length 0 (some 3))).take (HT.fu (ns.map V.int).length (ns.map V.int).length (some 33)-HT.fu (ns.map V.int).length 0 (some 3)),?_,?_⟩
   ·unfold mJ
    rw[List.map_take,List.map_drop]
   ·rw[List.length_take,List.length_drop]
    lia
  rw[Zc]
  have t3:=av.new (o:=.lst (cs.map V.int)) hcl
  have IG:upd H2 cl (.lst (cs.map V.int)) cl=some (.lst (cs.map V.int)):=af
  have Xv:=Hw.trans t3
  have hp3:=t3 _ _ hp2
  clear Zc hp hp2 Hw t3 hcl
  generalize upd H2 cl (.lst (cs.map V.int))=H3 at *
  subst iK
  try dsimp only[dU]
  refine cg λBq iK=>?_
  refine⟨(by show 0<=sizeLine;decide),λel hel=>?_⟩
  have t4:=av.new (o:=.lst []) hel
  have Ro:upd H3 el (.lst []) el=some (.lst []):=af
  generalize upd H3 el (.lst [])=H4 at *
  subst iK
  try dsimp only[dU]
  refine cg λBq iK=>?_
  refine⟨_,rfl,cl,_,rfl,.inl (aZ.of (t4 _ _ IG)),_,rfl,(by rw[List.length_map];lia),(by rw[List.length_map];lia),?_⟩
  rw[Int.toNat_natCast,List.length_map]
  refine iL (lo:=0) (n:=cs.length) (λi σ H'=>∃(v:Option V) (ys:List V) (aJ:List Ev),σ=[some (.ref a),some (.ref p),some (.int b),some (.ref cl),some (.ref el),v,none,none,none,none,none,none,none,none,none]/\av H3 H'/\H' el=some (.lst ys)/\aD KZ H' ys aJ/\aJ.length=i/\∀e∈aJ,-(10^45)<e.t/\e.t<10^45) ⟨none,[],[],rfl,t4,Ro,.nil,rfl,λ_ h=>nomatch h⟩ ?_ ?_
  ·rintro i σ H' hi ⟨v,ys,aJ,rfl,sm,hr',la,ld,od⟩
   rw[Int.zero_add]
   have ly:=la.len
   have Ru:=sm _ _ IG
   have put:∀(H2:Hp)(q:Addr)(e:Ev),av H' H2->H2 q=some (.tup (KZ e))->(-(10^45)<e.t/\e.t<10^45)->∃(v:Option V) (ys':List V) (aJ:List Ev),([some (.ref a),some (.ref p),some (.int b),some (.ref cl),some (.ref el),some (.int (i:Int)),none,none,none,none,none,none,none,none,none]:L2.St)=[some (.ref a),some (.ref p),some (.int b),some (.ref cl),some (.ref el),v,none,none,none,none,none,none,none,none,none]/\av H3 (upd H2 el (.lst (ys++[.ref q])))/\upd H2 el (.lst (ys++[.ref q])) el=some (.lst ys')/\aD KZ (upd H2 el (.lst (ys++[.ref q]))) ys' aJ/\aJ.length=i+1/\∀e∈aJ,-(10^45)<e.t/\e.t<10^45:=λH2 q e Hs hq ok=>by
    have up:∀a row,H2 a=some (.tup row)->upd H2 el (.lst (ys++[.ref q])) a=some (.tup row):=λa row e=>by rw[ai (aN e (Hs _ _ hr') (by intro z;cases z))];exact e
    refine⟨_,ys++[.ref q],aJ++[e],rfl,λa o e=>?_,af,((la.keep λa row e=>Hs _ _ e).keep up).snoc (up _ _ hq),?_,?_⟩
    ·rw[ai (au e hel)]
     exact Hs _ _ (sm _ _ e)
    ·rw[List.length_append,ld];rfl
    ·intro x hx
     rcases List.mem_append.mp hx with hx|hx
     ·exact od x hx
     ·rw[List.mem_singleton.mp hx];exact ok
   refine' OJ (P:=λR:Prop=>R) _ (λTF=>?main) ?TF
   case main=>
    refine⟨_,rfl,_,rfl,cl,_,_,_,rfl,rfl,aZ.of Ru,iB cs LI LI,_,_,rfl,rfl,.inr ⟨by decide,by decide⟩,_,_,rfl,rfl,(by show(0:Int)<_;decide),_,_,rfl,rfl,(by show(0:Int)<_;decide),rfl,_,rfl,aW (λ_=>?_) (λ_=>?_)⟩
    rotate_left
    ·exact TF
    refine⟨_,rfl,_,_,rfl,rfl,_,rfl,aW (λhg=>?_) (λ_=>?_)⟩
    rotate_left
    ·exact TF
    have hg':(0:Int)<(i:Int):=of_decide_eq_true hg
    obtain⟨Ud,y,rfl⟩:∃Ud y,ys=Ud++[y]:=by
     rcases List.eq_nil_or_concat ys with rfl|⟨a,b,e⟩
     ·rw[List.length_nil]at ly;lia
     ·exact⟨a,b,by rw[e,List.concat_eq_append]⟩
    obtain⟨e,q,ed,rfl,hq⟩:=la.get (i:=Ud.length) (x:=y) (by simp)
    exact⟨_,rfl,.inl ⟨rfl,_,aZ.of hr'⟩,_,rfl,1,rfl,el,_,-1,.ref q,rfl,rfl,aZ.of hr',qT _ _,el,_,.ref q,rfl,rfl,hr',by lia,put H' q e (av.refl _) hq (od e (List.mem_of_getElem? ed))⟩
   case TF=>
    exact⟨_,rfl,.inl ⟨rfl,_,aZ.of hr'⟩,_,rfl,_,rfl,cl,_,_,_,rfl,rfl,aZ.of Ru,iB cs LI LI,_,rfl,_,_,rfl,rfl,.inl ⟨by decide,by decide⟩,_,_,rfl,rfl,_,rfl,_,rfl,_,i,b,rfl,by lia,b1,b2,λp n t a H2 Hs hp ok=>⟨el,_,.ref p,rfl,rfl,Hs _ _ hr',by lia,put _ p ⟨n,t,a⟩ Hs hp ok⟩⟩
  ·rintro σ H5 ⟨v,xe,aJ,rfl,SH,Nc,SS,Yl,eo⟩
   have YC:=SH _ _ hp3
   have Ng:=SH _ _ IG
   have UE:=Xv.trans SH
   have lxe:=SS.len
   clear hp3 IG Xv SH Ro t4 hel
   subst iK
   try dsimp only[dU]
   refine cg λBq iK=>?_
   refine⟨_,rfl,_,rfl,el,cl,xe,aJ,cs,rfl,Nc,SS,aZ.of Ng,Yl.symm,by lia,λol xo es H6 s6 VS KD lo pm=>?_⟩
   have IE:=s6 _ _ Nc
   have Vs:=SS.keep λa row e=>s6 _ _ e
   have YB:=s6 _ _ YC
   have Rt:=s6 _ _ Ng
   have eo2:∀e∈es,-(10^45)<e.t/\e.t<10^45:=λe me=>eo e (pm.mem_iff.mp me)
   have les:=pm.length_eq
   have ZY:=UE.trans s6
   clear Nc SS YC Ng
   subst iK
   try dsimp only[dU]
   refine cg λBq iK=>?_
   refine⟨_,rfl,el,rfl,⟨_,aZ.of IE⟩,λml hml=>?_⟩
   refine dQ (K:=K) (a:=el) (xs:=xe) (λj zs H7=>H7=upd H6 ml (.lst zs)/\zs=(aJ.take j).map λe=>V.int e.t) ⟨rfl,rfl⟩ (λj zs H7 h=>by rw[h.1];exact af) (λj zs H7 _ h=>by rw[h.1];exact aZ.of ((av.new hml) _ _ IE)) ?_ ?_
   ·rintro j x zs H7 ex ⟨rfl,rfl⟩
    obtain⟨e',b',WI,rfl,hb'⟩:=Vs.get ex
    refine⟨cH rfl,?_⟩
    have htk:aJ.take (j+1)=aJ.take j++[e']:=by rw[List.take_add_one,WI];rfl
    refine⟨_,rfl,b',_,2,.int e'.t,rfl,rfl,bJ.of ((av.new hml) _ _ hb'),rfl,_,af,?_,?_,?_⟩
    ·rw[List.length_map,List.length_take,sizeLine_eq]
     lia
    ·rw[fZ]
    ·rw[htk,List.map_append]
     rfl
   rintro zs H7 ⟨rfl,rfl⟩
   have ez:(aJ.take xe.length).map (λe=>V.int e.t)=(aJ.map Ev.t).map V.int:=by
    rw[lxe,List.take_length,List.map_map]
    rfl
   rw[ez]
   refine⟨_,rfl,(by show 1<=sizeLine;decide),λbl Nh=>?_⟩
   refine⟨ml,bl,_,_,rfl,rfl,(av.new Nh) _ _ af,af,(by rw[List.length_map,List.length_map];simp only[List.length_cons,List.length_nil];lia),λtl BN=>?_⟩
   refine⟨tl,aJ.map Ev.t++[b],rfl,aZ.of (by rw[List.map_append];exact af),by rw[List.length_append];simp only[List.length_cons,List.length_nil];lia,λL mL hL=>?_⟩
   have s7:=(av.new (o:=.lst ((aJ.map Ev.t).map V.int)) hml).trans ((av.new (o:=.lst [.int b]) Nh).trans (av.new (o:=.lst ((aJ.map Ev.t).map V.int++[.int b])) BN))
   have Rn:=s7 _ _ IE
   have Yk:=Vs.keep λa row e=>s7 _ _ e
   have VR:=s7 _ _ YB
   have Rr:=s7 _ _ Rt
   have QS:=s7 _ _ KD
   have Yc:=lo.keep λa row e=>s7 _ _ e
   have ZX:=ZY.trans s7
   have hL':∀e∈aJ,e.t<=L:=λe me=>hL _ (List.mem_append_left _ (List.mem_map_of_mem me))
   clear IE Vs YB Rt KD lo hml Nh BN s7 ez
   generalize upd (upd (upd H6 ml (.lst ((aJ.map Ev.t).map V.int))) bl (.lst [.int b])) tl (.lst ((aJ.map Ev.t).map V.int++[.int b]))=H7 at *
   subst iK
   try dsimp only[dU]
   refine cg λBq iK=>?_
   refine⟨_,rfl,_,_,rfl,rfl,_,rfl,p,_,1,_,rfl,rfl,bJ.of VR,sI pl,_,_,rfl,rfl,.inl ⟨by decide,by decide⟩,_,_,rfl,rfl,(by show 2<=sizeLine;decide),λem hem=>?_⟩
   have t8:=av.new (o:=.tup [.str "mark",.int (L+100+2*pl.len)]) hem
   have Na:upd H7 em (.tup [.str "mark",.int (L+100+2*pl.len)]) em=some (.tup (bV.mk (L+100+2*pl.len)).v):=af
   have Nb:=t8 _ _ Rn
   have Vr:=Yk.keep λa row e=>t8 _ _ e
   have VQ:=t8 _ _ VR
   have Nf:=t8 _ _ Rr
   have QO:=t8 _ _ QS
   have Yb:=Yc.keep λa row e=>t8 _ _ e
   have ZW:=ZX.trans t8
   have l1:=ok.l1
   have hE:∀e∈aJ,e.t+pl.len<=L+100+2*pl.len:=λe me=>by
    have:=hL' e me
    lia
   clear Rn Yk VR Rr QS Yc hem t8
   generalize upd H7 em (.tup [.str "mark",.int (L+100+2*pl.len)])=H8 at *
   generalize L+100+2*pl.len=E at *
   subst iK
   try dsimp only[dU]
   refine cg λBq iK=>?_
   refine⟨_,rfl,_,rfl,_,rfl,el,p,cl,xe,aJ,pl,cs,rfl,Nb,Vr,bJ.of VQ,aZ.of Nf,Yl.symm,by lia,eo,λwl yw Zj H9 s9 hw0 hwl lw Xh Pw=>?_⟩
   have W1:=CF Xh (.refl _) hE Pw LI
   have lyw:=lw.len
   have Zl:=W1.ln
   rw[List.length_append]at Zl
   simp only[List.length_cons,List.length_nil]at Zl
   refine⟨_,rfl,(by show 1<=sizeLine;decide),λsl hsl=>⟨wl,sl,_,_,rfl,rfl,(av.new hsl) _ _ hwl,af,(by simp only[List.length_cons,List.length_nil];lia),λEu QU=>?_⟩⟩
   have Uy:=(av.new (o:=.lst [.ref em]) hsl).trans (av.new (o:=.lst (yw++[.ref em])) QU)
   have hone:upd (upd H9 sl (.lst [.ref em])) Eu (.lst (yw++[.ref em])) Eu=some (.lst (yw++[.ref em])):=af
   have rG:=s9.trans Uy
   have lone:aD bV.v (upd (upd H9 sl (.lst [.ref em])) Eu (.lst (yw++[.ref em]))) (yw++[.ref em]) (Zj++[.mk E]):=(lw.keep λa row e=>Uy _ _ e).snoc (rG _ _ Na)
   have KL:=rG _ _ Nb
   have Qk:=Vr.keep λa row e=>rG _ _ e
   have MV:=rG _ _ VQ
   have KP:=rG _ _ Nf
   have KC:=rG _ _ QO
   have Qh:=Yb.keep λa row e=>rG _ _ e
   have KI:=rG _ _ Na
   have Bb:=ZW.trans rG
   clear Nb Vr VQ Nf QO Yb Na lw hwl Xh Pw Uy rG s9 hsl QU
   generalize upd (upd H9 sl (.lst [.ref em])) Eu (.lst (yw++[.ref em]))=TV at *
   generalize yw++[.ref em]=y1 at *
   generalize Zj++[.mk E]=d1 at *
   subst iK
   try dsimp only[dU]
   refine cg λBq iK=>?_
   refine⟨_,rfl,_,rfl,_,rfl,cl,_,rfl,aZ.of KP,λrl hrl=>?_⟩
   have OV:=av.new (o:=.lst (cs.map V.int).reverse) hrl
   have Kz:upd TV rl (.lst (cs.map V.int).reverse) rl=some (.lst (cs.reverse.map V.int)):=by rw[List.map_reverse];exact af
   refine⟨ol,p,rl,xo,es,pl,cs.reverse,rfl,OV _ _ KC,Qh.keep λa row e=>OV _ _ e,bJ.of (OV _ _ MV),aZ.of Kz,by rw[List.length_reverse];lia,by lia,eo2,λZE Lg Zi Xc s12 aaY QD Vl Xg XG=>?_⟩
   have W2:=CF Xg pm hE XG LI
   have aaF:=Vl.len
   have Zk:=W2.ln
   rw[List.length_append]at Zk
   simp only[List.length_cons,List.length_nil]at Zk
   refine⟨_,rfl,(by show 1<=sizeLine;decide),λsl2 MS=>⟨ZE,sl2,_,_,rfl,rfl,(av.new MS) _ _ QD,af,(by simp only[List.length_cons,List.length_nil];lia),λBo QT=>?_⟩⟩
   have Ux:=(av.new (o:=.lst [.ref em]) MS).trans (av.new (o:=.lst (Lg++[.ref em])) QT)
   have QF:upd (upd Xc sl2 (.lst [.ref em])) Bo (.lst (Lg++[.ref em])) Bo=some (.lst (Lg++[.ref em])):=af
   have oN:=OV.trans (s12.trans Ux)
   have P_:aD bV.v (upd (upd Xc sl2 (.lst [.ref em])) Bo (.lst (Lg++[.ref em]))) (Lg++[.ref em]) (Zi++[.mk E]):=(Vl.keep λa row e=>Ux _ _ e).snoc (oN _ _ KI)
   have KJ:=oN _ _ KL
   have Qj:=Qk.keep λa row e=>oN _ _ e
   have MU:=oN _ _ MV
   have Fq:=oN _ _ hone
   have EL:=lone.keep λa row e=>oN _ _ e
   have Pc:=Bb.trans oN
   clear KL Qk MV KP KC Qh KI Vl QD Xg XG Ux oN s12 OV MS QT hone lone hrl Kz
   generalize upd (upd Xc sl2 (.lst [.ref em])) Bo (.lst (Lg++[.ref em]))=H13 at *
   generalize Lg++[.ref em]=y2 at *
   generalize Zi++[.mk E]=d2 at *
   subst iK
   try dsimp only[dU]
   refine cg λBq iK=>?_
   refine⟨_,rfl,_,rfl,p,el,pl,xe,aJ,rfl,bJ.of MU,ok,KJ,Qj,by lia,eo,λtb yt wt Zv LB _ htb tab wtl JG lt=>?_⟩
   have QN:=LB _ _ MU
   have Fp:=LB _ _ Fq
   have EK:=EL.keep λa row e=>LB _ _ e
   have Fo:=LB _ _ QF
   have EH:=P_.keep λa row e=>LB _ _ e
   have Pb:=Pc.trans LB
   clear MU Fq EL QF P_ Pc LB KJ Qj
   subst iK
   try dsimp only[dU]
   refine cg λBq iK=>?_
   refine⟨_,rfl,_,rfl,(by show 2<=sizeLine;decide),λdl hdl=>?_⟩
   have Hf:=av.new (o:=.lst [.ref Eu,.ref Bo]) hdl
   have KN:upd Zv dl (.lst [.ref Eu,.ref Bo]) dl=some (.lst [.ref Eu,.ref Bo]):=af
   have MT:=Hf _ _ QN
   have MW:=Hf _ _ Fp
   have Mj:=EK.keep λa row e=>Hf _ _ e
   have yy:=Hf _ _ Fo
   have yr:=EH.keep λa row e=>Hf _ _ e
   have QG:=Hf _ _ htb
   have Qc:=lt.keep λa row e=>Hf _ _ e
   have Hx:=Pb.trans Hf
   generalize upd Zv dl (.lst [.ref Eu,.ref Bo])=Sn at *
   have Wq:bK Sn Pt lp lq:=bg hT (λps e=>Hx _ _ e) λa o u e=>Hx _ _ e
   have Wu:dj K mg Sn:=bM hB λa o u e=>Hx _ _ e
   clear QN Fp EK Fo EH htb lt Pb Hx Hf hdl hT hB
   have few:∀(l:List bV),l.length<=130->∀i outs st,Runs pl ⟨none,[],[]⟩ (l.take i) outs st->TS.Fits st.ws.length:=λl hl i outs st rn=>by
    have h1:=(rn.len ok).1
    have h2:(l.take i).length<=130:=by rw[List.length_take];lia
    simp only[List.length_nil]at h1
    exact⟨by lia,by show _<10000001;lia⟩
   have wl1:=Qc.len
   refine⟨dl,rfl,⟨_,aZ.of KN⟩,?_⟩
   refine fm (K:=K) (a:=dl) (xs:=[.ref Eu,.ref Bo]) (λi σ H'=>∃(Ui Uh:Option V),σ=[some (.ref a),some (.ref p),some (.int b),some (.ref cl),some (.ref el),v,some (.ref ol),some (.int L),some (.ref em),some (.ref Eu),some (.ref Bo),some (.ref tb),Ui,Uh,none]/\Nt Sn H'/\bK H' Pt lp lq/\dj K mg H') ⟨none,none,rfl,Nt.of (av.refl _),Wq,Wu⟩ (λi σ H' _ ⟨_,_,_,n,_⟩=>aZ.of (n.lst KN)) ?_ ?_
   ·rintro i y σ H' ey ⟨Ui,Uh,rfl,nt,lT,bB⟩
    obtain⟨x,yd,dd,rfl,hx,lx,W⟩:∃(x:Addr) (yd:List V) (dd:List bV),y=.ref x/\Sn x=some (.lst yd)/\aD bV.v Sn yd dd/\Zr pl aJ dd:=by
     rcases i with _|_|i
     ·cases ey
      exact⟨Eu,y1,d1,rfl,MW,Mj,W1⟩
     ·cases ey
      exact⟨Bo,y2,d2,rfl,yy,yr,W2⟩
     ·cases ey
    have Sv:=W.ln
    have lyd:=lx.len
    obtain⟨m,em1,hm⟩:=W.en
    have tabOf:∀{outs:List (List ji)}{st:tQ},Runs pl ⟨none,[],[]⟩ dd outs st->st.mk=some m/\Tab pl aJ st.ws:=λrn=>by
     obtain⟨h1,h2⟩:=vJ ok rn rfl
     rw[Ia W.no]at h2
     exact⟨h1.trans em1,h2.perm W.ev⟩
    refine cg λBq iK=>?_
    refine⟨_,rfl,_,rfl,x,_,rfl,.inl (aZ.of (nt.lst hx)),λh1 Tr=>?_⟩
    have t1:=av.new (o:=.lst yd) Tr
    have n1:=nt.trans (Nt.of t1)
    have IB:upd H' h1 (.lst yd) h1=some (.lst yd):=af
    have Oh:bK (upd H' h1 (.lst yd)) Pt lp lq:=bg lT (λps e=>t1 _ _ e) λa o u e=>t1 _ _ e
    have TL:dj K mg (upd H' h1 (.lst yd)):=bM bB λa o u e=>t1 _ _ e
    generalize upd H' h1 (.lst yd)=G1 at *
    refine⟨p,h1,pl,yd,dd,rfl,bJ.of (n1.tup _ _ MT),bd,ok,aZ.of IB,qM (lx.keep n1.tup),W.ok,by lia,few dd Sv,Oh,TL,λfr zf outs st rs G2 rn kp hfr XC pw lf Yo Zq=>?_⟩
    obtain⟨YY,Xm⟩:=tabOf rn
    have ers:rs=wt:=qj Wn.d SE (λa _=>xM a) (λa _ b _ h=>Wn.FU h) (XC.trans (Xm.uniq tab)) (List.pairwise_map.mp pw) (List.pairwise_map.mp JG)
    subst ers
    have Zb:(rs.filter λw=>closed st.mk w.e)=rs:=List.filter_eq_self.mpr λw mw=>by
     rw[YY]
     have:=GX tab (L:=m-pl.len) (λe me=>by have:=hm e me;lia) mw
     exact decide_eq_true LI
    rw[Zb]at lf
    have n2:=n1.trans (Nt.kp Oh kp)
    clear rn kp XC pw YY Xm Zb n1 Oh TL IB t1 nt lT bB Tr
    subst iK
    try dsimp only[dU]
    refine cg λBq iK=>?_
    refine⟨_,rfl,_,rfl,x,_,rfl,.inl (aZ.of (n2.lst hx)),λh2 YI=>?_⟩
    have t3:=av.new (o:=.lst yd) YI
    have n3:=n2.trans (Nt.of t3)
    have Tq:upd G2 h2 (.lst yd) h2=some (.lst yd):=af
    have Rk:=t3 _ _ hfr
    have Yj:=lf.keep λa row e=>t3 _ _ e
    have Vt:bK (upd G2 h2 (.lst yd)) Pt lp lq:=bg Yo (λps e=>t3 _ _ e) λa o u e=>t3 _ _ e
    have Zp:dj K mg (upd G2 h2 (.lst yd)):=bM Zq λa o u e=>t3 _ _ e
    generalize upd G2 h2 (.lst yd)=G3 at *
    refine⟨p,h2,pl,yd,dd,rfl,bJ.of (n3.tup _ _ MT),bd,ok,aZ.of Tq,qM (lx.keep n3.tup),W.ok,by lia,(λi outs st r=>(few dd Sv i outs st r).2),Vt,Zp,λmr zm XF st2 G4 rn kp hmr lm Yn Zo=>?_⟩
    have SO:=Nt.kp Vt kp
    have n4:=n3.trans SO
    have Rj:=SO.lst Rk
    have Yi:=Yj.keep SO.tup
    rw[HA ok rn rfl W.no]at lm
    cases lm
    clear rn kp SO Rk Yj Vt Zp Tq t3 n3 n2 Yo Zq hfr lf YI
    refine⟨(by show 0<=sizeLine;decide),λc hc=>?_⟩
    have t5:=av.new (o:=.lst []) hc
    refine⟨_,_,.lst [],rfl,.lst (t5 _ _ hmr) (by decide) .nil,.lst af (by decide) .nil,(by show 1<=3;decide),λG5 s5=>⟨_,rfl,aW no λ_=>?_⟩⟩
    have t6:=t5.trans s5
    have n6:=n4.trans (Nt.of t6)
    have Ri:=t6 _ _ Rj
    have Yh:=Yi.keep λa row e=>t6 _ _ e
    have lT6:bK G5 Pt lp lq:=bg Yn (λps e=>t6 _ _ e) λa o u e=>t6 _ _ e
    have bB6:dj K mg G5:=bM Zo λa o u e=>t6 _ _ e
    clear t5 s5 t6 n4 Rj Yi Yn Zo hc hmr
    subst iK
    try dsimp only[CY]
    refine⟨_,rfl,fr,zf,_,false,rfl,Ri,Mr (g:=qm) (h:=λw=>(w,none)) (λ_=>List.append_nil _) Yh,λr mr=>?_,λG7 s7=>⟨_,rfl,aW no λ_=>?_⟩⟩
    ·obtain⟨w,_,rfl⟩:=List.mem_map.mp mr
     rfl
    have n7:=n6.trans (Nt.of s7)
    refine⟨_,rfl,_,rfl,.lst (_:List Dv),.lst (_:List Dv),.lst (aZ.of (s7 _ _ Ri)) ((Yh.keep λc row e=>s7 _ _ e).NH λa w h=>ud h),.lst (aZ.of (n7.lst QG)) ((Qc.keep n7.tup).NH λa w h=>ud h),.inr ⟨_,_,rfl,rfl⟩,(Al vK _).2,(Al vK _).1,λbq Wo=>?_⟩
    have:bq=true:=Wo.mpr rfl
    subst this
    exact⟨_,rfl,aW no λ_=>⟨_,_,rfl,n7,bg lT6 (λps e=>s7 _ _ e) λa o u e=>s7 _ _ e,bM bB6 λa o u e=>s7 _ _ e⟩⟩
   ·rintro σ H' ⟨Ui,Uh,rfl,nt,lT,bB⟩
    subst iK
    try dsimp only[dU]
    refine cg λBq iK=>?_
    refine⟨_,rfl,_,rfl,Bo,_,rfl,.inl (aZ.of (nt.lst yy)),λh1 Tr=>?_⟩
    have t1:=av.new (o:=.lst y2) Tr
    have n1:=nt.trans (Nt.of t1)
    have IB:upd H' h1 (.lst y2) h1=some (.lst y2):=af
    have Oh:bK (upd H' h1 (.lst y2)) Pt lp lq:=bg lT (λps e=>t1 _ _ e) λa o u e=>t1 _ _ e
    have TL:dj K mg (upd H' h1 (.lst y2)):=bM bB λa o u e=>t1 _ _ e
    generalize upd H' h1 (.lst y2)=G1 at *
    have Sv:=W2.ln
    refine⟨p,h1,pl,y2,d2,rfl,bJ.of (n1.tup _ _ MT),bd,ok,aZ.of IB,qM (yr.keep n1.tup),W2.ok,by lia,(λi outs st r=>(few d2 Sv i outs st r).2),Oh,TL,λtl yo outs st G2 rn kp VS KD sa lt8=>?_⟩
    have n2:=n1.trans (Nt.kp Oh kp)
    have l1:yo.length=outs.length:=Paired.length sa
    have l2:=Bd rn
    have l3:=yr.len
    subst iK
    try dsimp only[dU]
    refine⟨_,rfl,_,_,_,true,rfl,.lst KD,rfl,true,rfl,aW (λ_=>?_) (λh=>absurd rfl h)⟩
    refine⟨_,rfl,tl,_,rfl,.inl (aZ.of KD),_,rfl,Bo,_,rfl,.inl (aZ.of (n2.lst yy)),rfl,?_⟩
    rw[decide_eq_true (by rw[l1,l2,l3])]
    exact k _
end
end K3
namespace K1
open PySem PySem.Spec PyProof.Rows L2
section
variable {P:Program} {w:World} {K:Fg7} {mg:Str->Option Value}
theorem IQ(D:aH K "spans_at" eY)(M:MG K mg)(B:Bi K)(iP:dO K "PAUSES" (.str "pauses"))(iQ:eN P w K mg "kind_of" ["plan"] 1 (tW K))(gj:eN P w K mg "length_of" ["plan"] 1 (zI K))
  (om:eN P w K mg "step_of" ["plan"] 2 (Dk K)):eN P w K mg "spans_at" ["plan","time"] 3 (zB K):=by
 refine D.fn M gZ wR (λvs H Q E h=>?_) (λf base cdv A outer s H vs Q E hr h=>?_)
 ·obtain⟨p,pl,t,rfl,_⟩:=h
  rfl
 ·obtain⟨p,pl,t,rfl,hp,ok,⟨t1,t2⟩,k⟩:=h
  refine⟨_,(aq (cV (i:=2) gZ.nd rfl (Or.inr rfl) (a_ gj (hr.mono (by decide)) rfl (pc (pv 0) aj)))
   (aq (b_ (aP e_ (a_ iQ (hr.mono (by decide)) rfl (pc (pv 0) aj)) (jt iP M rfl) (aR _)) (aA (aL (bZ (pc (cF (pc (pv 1) (pc (aC iy (pv 1) (pv 2)) aj))) aj)))) aT)
   (aq (cV (i:=3) gZ.nd rfl (Or.inl rfl) (a_ om (hr.mono (by decide)) rfl (pc (pv 0) aj)))
   (aq (cV (i:=4) gZ.nd rfl (Or.inl rfl) (aC Ew (aC iy (aC Ae (aC uq (pv 1) (pv 2)) (pv 3)) ah) (pv 3)))
   (aA (aL (dY (NY:=["start","length"]) (js:=[none,some 2]) rfl rfl (by with_unfolding_all rfl) (by repeat first|exact cI.nil|refine cI.cons rfl ?_) (.own (.out rfl rfl (.inl rfl) .nil)) (x_ rfl (M.no _ B.jK) (pc (pv 4) (pc (aC iy (pv 1) ah) (pc (pv 3) aj)))) (λ_ _ _ _ _=>⟨(aQ (i:=0) (show(["start","length"]:List Str).Nodup from by decide +kernel) rfl (Or.inl rfl)),fh,(cF (pc (pv 0) (pc (aC iy (pv 0) (pv 1)) aj)))⟩)))))))),?_⟩
  refine⟨_,rfl,p,pl,rfl,hp,?_⟩
  refine⟨_,rfl,p,pl,rfl,hp,rfl,_,rfl,?_⟩
  refine aW (λh=>?_) (λh=>?_)
  ·-- pauses:[(time,time+length)]
   have e:=FO h
   cases pl with
   |fixed l g=>exact absurd e PU
   |sliding l s g=>exact absurd e PN
   |pauses l g=>
    refine⟨_,rfl,_,rfl,_,rfl,_,_,rfl,rfl,(by show 2<=sizeLine;decide),λa ha=>⟨(by show 1<=sizeLine;decide),λb hb=>?_⟩⟩
    have nb:a≠b:=au af hb
    have hb0:H b=none:=by
     rw[ai nb.symm]at hb
     exact hb
    refine k b [.ref a] _ ((av.new ha).trans (av.new hb)) hb0 af (.cons ⟨a,rfl,?_⟩ .nil)
    rw[ai nb,af]
    rfl
  ·have np:∀l g,pl≠.pauses l g:=λl g e=>by
    subst e
    exact h (decide_eq_true rfl)
   have ew:GP pl t=(List.range (cnt pl t)).map (win pl t):=by
    cases pl with
    |fixed l g=>rfl
    |sliding l s g=>rfl
    |pauses l g=>exact absurd rfl (np l g)
   have l1:=ok.l1
   have l2:=ok.l2
   have s1:=ok.s1
   have s2:=ok.s2
   have dq:=yH (a:=t-pl.len) (b:=10^46) s1 LI LI
   refine⟨_,rfl,p,pl,rfl,hp,?_⟩
   refine⟨_,rfl,_,rfl,_,_,rfl,rfl,_,rfl,_,_,rfl,rfl,⟨by lia,⟨by lia,by lia⟩⟩,_,_,rfl,rfl,_,rfl,_,_,rfl,rfl,⟨⟨by lia,by lia⟩,⟨by lia,by lia⟩⟩,?_⟩
   refine⟨_,rfl,_,rfl,_,_,rfl,rfl,_,rfl,_,_,_,rfl,⟨by lia,⟨by lia,by lia⟩⟩,?_⟩
   intro D hD
   have hc:=F_ (t:=t) ok
   refine FY (λi ys Hc=>av H Hc/\Hc D=some (.lst ys)/\qY Hc ys ((List.range i).map (win pl t))) ⟨av.new hD,af,.nil⟩ (λi ys Hc h=>h.2.1) ?_ ?_
   ·rintro i ys Hc hi ⟨s1',Rx,hT⟩
    refine⟨cH rfl,?_⟩
    refine⟨_,rfl,_,rfl,_,rfl,_,_,rfl,rfl,(by show 2<=sizeLine;decide),λa ha=>?_⟩
    have nD:D≠a:=au Rx ha
    have hl:=hT.len
    rw[List.length_map,List.length_range]at hl
    refine⟨ys,(by rw[ai nD];exact Rx),AX (by have:i<cnt pl t:=hi;lia),?_⟩
    refine⟨λb o e=>?_,af,?_⟩
    ·have e1:=s1' b o e
     rw[ai (au e hD),ai (au e1 ha)]
     exact e1
    ·rw[List.range_succ,List.map_append]
     refine qY.snoc (hT.keep λb row e=>?_) ?_
     ·rw[ai (aN e Rx (by intro z;cases z)),ai (au e ha)]
      exact e
     ·rw[ai nD.symm,af]
      rfl
   ·rintro ys Hc ⟨s1',Rx,hT⟩
    exact k D ys Hc s1' hD Rx (by rw[ew];exact hT)
end
end K1
open PySem PySem.W PyProof.Rows
noncomputable def PySem.W.Fast.tw10078984001233598896 : Unit := ()
noncomputable def PySem.W.Fast.tw15041636911633524201 : Unit := ()
noncomputable def PySem.W.Fast.tw2072760077087828006 : Unit := ()
noncomputable def PySem.W.Fast.tw6456390787776974421 : Unit := ()
noncomputable def PySem.W.Fast.tw16284160074695621592 : Unit := ()
noncomputable def PySem.W.Fast.tw13683970872462192746 : Unit := ()
noncomputable def PySem.W.Fast.tw3836744656172954446 : Unit := ()
noncomputable def PySem.W.Fast.tw2678427566476201024 : Unit := ()
noncomputable def PySem.W.Fast.tw6583181993584497189 : Unit := ()
set_option maxRecDepth 100000 in
set_option maxHeartbeats 0 in
theorem PySem.Challenge.cw_weirgauge_k07_whole_however_they_come_holds : PySem.Challenge.rw_weirgauge_k07_whole_however_they_come.Holds := by
 w_on;o_law;k_head;(case hw=>w_witness2)
 k_fill
 refine L2.OG (l:=PySem.Challenge.rw_weirgauge_k07_whole_however_they_come) (x:="_law_script") 8 _ ⟨rfl,by decide,by decide⟩ rfl rfl (λw h Y=>⟨PySem.W.km_in_of Y,PySem.W.km_tabs_of Y _ (List.mem_cons_self ..)⟩) (K3.JJ _) (λK mg H a ns hl hS hP hB=>⟨a,ns,rfl,hS,hl,.inl hP,hB,λ_=>rfl⟩) ?F
 case F=>
  intro w mg M
  have TY:L2.aH (L2.aX M) "_wall" K1.Dh:=by
   dsimp only[L2.aX]
   refine' L2.aH.mk' ?a ?l ?c ?k
   (case a=>k_is);(case l=>k_is);(case c=>k_is);(case k=>k_is)
  have Cn:L2.aH (L2.aX M) "kind_of" K1.fE:=by
   dsimp only[L2.aX]
   refine' L2.aH.mk' ?a ?l ?c ?k
   (case a=>k_is);(case l=>k_is);(case c=>k_is);(case k=>k_is)
  have xj:L2.aH (L2.aX M) "length_of" K1.dW:=by
   dsimp only[L2.aX]
   refine' L2.aH.mk' ?a ?l ?c ?k
   (case a=>k_is);(case l=>k_is);(case c=>k_is);(case k=>k_is)
  have Cm:L2.aH (L2.aX M) "step_of" K1.fD:=by
   dsimp only[L2.aX]
   refine' L2.aH.mk' ?a ?l ?c ?k
   (case a=>k_is);(case l=>k_is);(case c=>k_is);(case k=>k_is)
  have zc:L2.aH (L2.aX M) "grace_of" K1.eZ:=by
   dsimp only[L2.aX]
   refine' L2.aH.mk' ?a ?l ?c ?k
   (case a=>k_is);(case l=>k_is);(case c=>k_is);(case k=>k_is)
  have uN:L2.aH (L2.aX M) "check_plan" K1.dI:=by
   dsimp only[L2.aX]
   refine' L2.aH.mk' ?a ?l ?c ?k
   (case a=>k_is);(case l=>k_is);(case c=>k_is);(case k=>k_is)
  have y_:L2.aH (L2.aX M) "spans_at" K1.eY:=by
   dsimp only[L2.aX]
   refine' L2.aH.mk' ?a ?l ?c ?k
   (case a=>k_is);(case l=>k_is);(case c=>k_is);(case k=>k_is)
  have GB:L2.aH (L2.aX M) "joined" K1.gF:=by
   dsimp only[L2.aX]
   refine' L2.aH.mk' ?a ?l ?c ?k
   (case a=>k_is);(case l=>k_is);(case c=>k_is);(case k=>k_is)
  have Co:L2.aH (L2.aX M) "answers" K1.fG:=by
   dsimp only[L2.aX]
   refine' L2.aH.mk' ?a ?l ?c ?k
   (case a=>k_is);(case l=>k_is);(case c=>k_is);(case k=>k_is)
  have yZ:L2.aH (L2.aX M) "standing" K1.eX:=by
   dsimp only[L2.aX]
   refine' L2.aH.mk' ?a ?l ?c ?k
   (case a=>k_is);(case l=>k_is);(case c=>k_is);(case k=>k_is)
  have GA:L2.aH (L2.aX M) "missed" K1.gE:=by
   dsimp only[L2.aX]
   refine' L2.aH.mk' ?a ?l ?c ?k
   (case a=>k_is);(case l=>k_is);(case c=>k_is);(case k=>k_is)
  have rO:L2.aH (L2.aX M) "desk_behind" K1.dg:=by
   dsimp only[L2.aX]
   refine' L2.aH.mk' ?a ?l ?c ?k
   (case a=>k_is);(case l=>k_is);(case c=>k_is);(case k=>k_is)
  have Cp:L2.aH (L2.aX M) "_law_so" K1.eO:=by
   dsimp only[L2.aX]
   refine' L2.aH.mk' ?a ?l ?c ?k
   (case a=>k_is);(case l=>k_is);(case c=>k_is);(case k=>k_is)
  have uO:L2.aH (L2.aX M) "_law_whole" K1.dJ:=by
   dsimp only[L2.aX]
   refine' L2.aH.mk' ?a ?l ?c ?k
   (case a=>k_is);(case l=>k_is);(case c=>k_is);(case k=>k_is)
  have Cq:L2.aH (L2.aX M) "_law_at" K1.fH:=by
   dsimp only[L2.aX]
   refine' L2.aH.mk' ?a ?l ?c ?k
   (case a=>k_is);(case l=>k_is);(case c=>k_is);(case k=>k_is)
  have rA:L2.aH (L2.aX M) "_law_plan_of" K1.cY:=by
   dsimp only[L2.aX]
   refine' L2.aH.mk' ?a ?l ?c ?k
   (case a=>k_is);(case l=>k_is);(case c=>k_is);(case k=>k_is)
  have xq:L2.aH (L2.aX M) "_law_long" K1.dX:=by
   dsimp only[L2.aX]
   refine' L2.aH.mk' ?a ?l ?c ?k
   (case a=>k_is);(case l=>k_is);(case c=>k_is);(case k=>k_is)
  have pT:L2.aH (L2.aX M) "_law_event_of" K1.cL:=by
   dsimp only[L2.aX]
   refine' L2.aH.mk' ?a ?l ?c ?k
   (case a=>k_is);(case l=>k_is);(case c=>k_is);(case k=>k_is)
  have rB:L2.aH (L2.aX M) "_law_base_of" K1.cZ:=by
   dsimp only[L2.aX]
   refine' L2.aH.mk' ?a ?l ?c ?k
   (case a=>k_is);(case l=>k_is);(case c=>k_is);(case k=>k_is)
  have rP:L2.aH (L2.aX M) "_law_pauses" K1.cS:=by
   dsimp only[L2.aX]
   refine' L2.aH.mk' ?a ?l ?c ?k
   (case a=>k_is);(case l=>k_is);(case c=>k_is);(case k=>k_is)
  have pS:L2.aH (L2.aX M) "_law_spans_of" K1.cK:=by
   dsimp only[L2.aX]
   refine' L2.aH.mk' ?a ?l ?c ?k
   (case a=>k_is);(case l=>k_is);(case c=>k_is);(case k=>k_is)
  have pR:L2.aH (L2.aX M) "_law_table_of" K1.bX:=by
   dsimp only[L2.aX]
   refine' L2.aH.mk' ?a ?l ?c ?k
   (case a=>k_is);(case l=>k_is);(case c=>k_is);(case k=>k_is)
  have pU:L2.aH (L2.aX M) "_law_are_rows" K1.cM:=by
   dsimp only[L2.aX]
   refine' L2.aH.mk' ?a ?l ?c ?k
   (case a=>k_is);(case l=>k_is);(case c=>k_is);(case k=>k_is)
  have lD:L2.aH (L2.aX M) "_law_other_order" K1.bP:=by
   dsimp only[L2.aX]
   refine' L2.aH.mk' ?a ?l ?c ?k
   (case a=>k_is);(case l=>k_is);(case c=>k_is);(case k=>k_is)
  have mW:L2.aH (L2.aX M) "_law_with_marks" K1.bW:=by
   dsimp only[L2.aX]
   refine' L2.aH.mk' ?a ?l ?c ?k
   (case a=>k_is);(case l=>k_is);(case c=>k_is);(case k=>k_is)
  have Su:L2.aH (L2.aX M) "law" K1.kc:=by
   dsimp only[L2.aX]
   refine' L2.aH.mk' ?a ?l ?c ?k
   (case a=>k_is);(case l=>k_is);(case c=>k_is);(case k=>k_is)
  have yV:L2.dO (L2.aX M) "MARK" (.str "mark"):=by
   dsimp only[L2.aX]
   refine' L2.dO.ofStr ?a
   (case a=>k_is)
  have je:L2.dO (L2.aX M) "MOST_STEPS" (.int 100):=by
   dsimp only[L2.aX]
   refine' L2.dO.ofInt ?a
   (case a=>k_is)
  have iP:L2.dO (L2.aX M) "PAUSES" (.str "pauses"):=by
   dsimp only[L2.aX]
   refine' L2.dO.ofStr ?a
   (case a=>k_is)
  have oj:L2.dO (L2.aX M) "SLIDING" (.str "sliding"):=by
   dsimp only[L2.aX]
   refine' L2.dO.ofStr ?a
   (case a=>k_is)
  obtain⟨dP,Js,wZ,w_,q_,rM,pV,xr,oB,GC,lG,Cr,iR,mX,lE,j_,oE⟩:∃dP:PySem.Addr,L2.uQ (L2.aX M) "Desk" dP/\L2.eW (L2.aX M) dP "plan"/\L2.eW (L2.aX M) dP "mark"/\L2.eW (L2.aX M) dP "windows"/\L2.eW (L2.aX M) dP "missed"/\L2.bw (L2.aX M) dP "__init__" "Desk.__init__" K1.cN/\L2.bw (L2.aX M) dP "rows" "Desk.rows" K1.dD/\L2.bw (L2.aX M) dP "is_closed" "Desk.is_closed" K1.cB/\L2.bw (L2.aX M) dP "is_kept" "Desk.is_kept" K1.pB/\L2.bw (L2.aX M) dP "is_too_late" "Desk.is_too_late" K1.bQ/\L2.bw (L2.aX M) dP "do" "Desk.do" K1.fJ/\L2.gC (L2.aX M) dP "take_mark" "Desk.take_mark" K1.aY 135/\L2.bw (L2.aX M) dP "take_event" "Desk.take_event" K1.bA/\L2.bw (L2.aX M) dP "keys_met_by" "Desk.keys_met_by" K1.bu/\L2.bw (L2.aX M) dP "move_tallies" "Desk.move_tallies" K1.bD/\L2.bw (L2.aX M) dP "add_tally" "Desk.add_tally" K1.cC:=by
   dsimp only[L2.aX,L2.eW]
   refine'⟨_,⟨?Sf,⟨?LR,?Nd,?LM,?Ly⟩,?Mg,?Mt⟩,?Bt,?Bu,?uv,?vU,L2.bw.mk' ?pH ?pF ?pC ?pG ?pD,L2.bw.mk' ?we ?v_ ?vW ?wc ?vX,L2.bw.mk' ?nL ?nF ?nq ?nI ?nA,L2.bw.mk' ?qA ?qy ?qw ?qz ?qx,L2.bw.mk' ?kQ ?kK ?kG ?kO ?kI,L2.bw.mk' ?BB ?By ?Bw ?BA ?Bx,L2.gC.mk' ?nK ?nE ?nk ?nH ?ny ?ni,L2.bw.mk' ?mC ?lZ ?lX ?mj ?lY,L2.bw.mk' ?kP ?kJ ?kF ?kM ?kH,L2.bw.mk' ?jU ?jS ?jQ ?jT ?jR,L2.bw.mk' ?nN ?nG ?nu ?nJ ?nB⟩
   (case Sf=>k_is)
   (case LR=>k_is)
   (case Nd=>k_is)
   (case LM=>k_is)
   (case Ly=>k_is)
   (case Mg=>k_is)
   (case Mt=>k_is)
   (case Bt=>k_is)
   (case Bu=>k_is)
   (case uv=>k_is)
   (case vU=>k_is)
   (case pH=>k_is)
   (case pF=>k_is)
   (case pC=>k_is)
   (case pG=>k_is)
   (case pD=>k_is)
   (case we=>k_is)
   (case v_=>k_is)
   (case vW=>k_is)
   (case wc=>k_is)
   (case vX=>k_is)
   (case nL=>k_is)
   (case nF=>k_is)
   (case nq=>k_is)
   (case nI=>k_is)
   (case nA=>k_is)
   (case qA=>k_is)
   (case qy=>k_is)
   (case qw=>k_is)
   (case qz=>k_is)
   (case qx=>k_is)
   (case kQ=>k_is)
   (case kK=>k_is)
   (case kG=>k_is)
   (case kO=>k_is)
   (case kI=>k_is)
   (case BB=>k_is)
   (case By=>k_is)
   (case Bw=>k_is)
   (case BA=>k_is)
   (case Bx=>k_is)
   (case nK=>k_is)
   (case nE=>k_is)
   (case nk=>k_is)
   (case nH=>k_is)
   (case ny=>k_is)
   (case ni=>kernel_rfl)
   (case mC=>k_is)
   (case lZ=>k_is)
   (case lX=>k_is)
   (case mj=>k_is)
   (case lY=>k_is)
   (case kP=>k_is)
   (case kJ=>k_is)
   (case kF=>k_is)
   (case kM=>k_is)
   (case kH=>k_is)
   (case jU=>k_is)
   (case jS=>k_is)
   (case jQ=>k_is)
   (case jT=>k_is)
   (case jR=>k_is)
   (case nN=>k_is)
   (case nG=>k_is)
   (case nu=>k_is)
   (case nJ=>k_is)
   (case nB=>k_is)
  have B:K1.Bi (L2.aX M):=by
   dsimp only[L2.aX]
   refine'⟨?b0,?b1,?b2,?b3,?b4,?b5,?b6,?b7,?b8,?b9,?b10,?b11,?b12,?b13,?b14⟩
   (case b0=>k_is);(case b1=>k_is);(case b2=>k_is);(case b3=>k_is);(case b4=>k_is);(case b5=>k_is);(case b6=>k_is);(case b7=>k_is);(case b8=>k_is);(case b9=>k_is);(case b10=>k_is);(case b11=>k_is);(case b12=>k_is);(case b13=>k_is);(case b14=>k_is)
  have KT:(L2.aX M).lookup 135=none:=by dsimp only[L2.aX];first|k_is|kernel_rfl
  have T:K2.eK (L2.aX M) dP:=⟨Js,wZ,w_,q_,rM⟩
  have Fk:=K1.Nx (P:=PySem.Challenge.rw_weirgauge_k07_whole_however_they_come.prog) (w:=w) Cn M
  have Fl:=K1.RK (P:=PySem.Challenge.rw_weirgauge_k07_whole_however_they_come.prog) (w:=w) xj M
  have Fs:=K1.RG Cm M oj Fk Fl
  have Fg:=K2.IU (P:=PySem.Challenge.rw_weirgauge_k07_whole_however_they_come.prog) (w:=w) zc M
  have Fc:=K2.RM uN M je Fl Fs Fg
  have Fi:=K2.Nz pV T Fc
  have Fsp:=K1.IQ y_ M B iP Fk Fl Fs
  have Xd:=K2.FH (P:=PySem.Challenge.rw_weirgauge_k07_whole_however_they_come.prog) (w:=w) (mg:=mg) oB T
  have Flt:=K2.Nv lG M T Fg
  have Fme:=K2.RJ (P:=PySem.Challenge.rw_weirgauge_k07_whole_however_they_come.prog) (w:=w) lE M B T
  have Fj:=K2.Ny (P:=PySem.Challenge.rw_weirgauge_k07_whole_however_they_come.prog) (w:=w) GB M B
  have Zz:=K2.RQ (P:=PySem.Challenge.rw_weirgauge_k07_whole_however_they_come.prog) (w:=w) (mg:=mg) oE T
  have Fmv:=K2.Nq j_ T Zz
  have Fev:=K2.IV mX M T iP Fk Fsp Flt Xd Fme Fj Fmv Zz
  have Fmk:=K2.Nr iR M B T Xd
  have Zx:=K2.WB Cr M T yV Fmk Fev
  have Zy:=K2.FI rO M T Fi Zx
  have Fro:=K2.Np (P:=PySem.Challenge.rw_weirgauge_k07_whole_however_they_come.prog) (w:=w) xr M B T
  have Fst:=K2.IP yZ M T Zy Fro Xd
  have Fms:=K2.FG GA M T Zy
  have Fan:=K2.RP Co M T Fi Zx
  have Fso:=K3.RH (P:=PySem.Challenge.rw_weirgauge_k07_whole_however_they_come.prog) (w:=w) Cp M B
  have Fw:=K3.IL (P:=PySem.Challenge.rw_weirgauge_k07_whole_however_they_come.prog) (w:=w) uO M B
  have Fbs:=K3.NC (P:=PySem.Challenge.rw_weirgauge_k07_whole_however_they_come.prog) (w:=w) rB M
  have Ftb:=K3.IM pR M B (K3.BU pS M B (K3.FF (P:=PySem.Challenge.rw_weirgauge_k07_whole_however_they_come.prog) (w:=w) rP M B))
  exact⟨KT,iR.code,K3.RL Su M B (K1.RN Cq M B) (K3.IS rA M) Fbs (K3.NB pT M (K3.Nu xq M)) (K3.IT lD M B) (K3.Nn mW M B) Ftb Fms Fst Fso (K3.RO pU M B Fw) Fan⟩
