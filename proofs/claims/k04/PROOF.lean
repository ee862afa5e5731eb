import PyProof.Rows.All
import Wide.All
import OpenK.AllK
import Wide.FinOn
import Lean
import PyProof.EqAt
import PyProof.EqKinds
import PyProof.TupleCall
import PyProof.NeKinds
import PyProof.Rows.SortRuns
import PyProof.Rows.SortWalk
import KE.KSortTup
import KE.RegKTryMore
import KE.RegKIsAll
import KE.KPairComp
import PyProof.ExcAttrAll.ValueError
import PyProof.Rows.SumAny
import KE.KSortKey
import KE.KLam
import KE.KNestM
import KE.KListMore
import KE.KIntText
import PyProof.StrOps2
import PySem.Challenge.RW_weirgauge_k04_one_late_event
set_option Elab.async false
set_option linter.all false
set_option maxRecDepth 100000
set_option maxHeartbeats 4000000
abbrev Fg7:=PySem.W.Frag
macro:max "DK":term=>`(by decide +kernel)
macro:max "LI":term=>`(by lia)
namespace L2
open PySem PySem.Spec PyProof.Rows
abbrev Key:=Sum Int Str
def qe:Key->Value->Bool
 |.inl k,v=>Value.isInt k v
 |.inr x,v=>Value.isStrOf x v
def Vk(w:World):Key->Int
 |.inl k=>hashInt k
 |.inr x=>hashStr w x
theorem cC:∀{k:Key}{v:Value},qe k v=true->(∃i t,k=Sum.inl i/\v=Value.int i t)\/(∃x t,k=Sum.inr x/\v=Value.str x t)
 |.inl i,v,h=>by
  obtain⟨t,e⟩:=Value.isInt_shape (k:=i) (v:=v) h
  exact .inl ⟨i,t,rfl,e⟩
 |.inr x,v,h=>by
  obtain⟨t,e⟩:=Value.isStrOf_shape (x:=x) (v:=v) h
  exact .inr ⟨x,t,rfl,e⟩
theorem As(i:Int)(t:Tok):qe (.inl i) (.int i t)=true:=by simp[qe,Value.isInt]
theorem Ar(x:Str)(t:Tok):qe (.inr x) (.str x t)=true:=by simp[qe,Value.isStrOf]
theorem Lz(a b:Int):decide ((Sum.inl a:Key)=Sum.inl b)=(a==b):=by
 by_cases e:a=b
 ·subst e;simp
 ·have h:¬(Sum.inl a:Key)=Sum.inl b:=λq=>e (Sum.inl.inj q)
  rw[decide_eq_false h]
  exact(beq_eq_false_iff_ne.mpr e).symm
theorem Lw(a b:Str):decide ((Sum.inr a:Key)=Sum.inr b)=decide (a=b):=by
 by_cases e:a=b
 ·subst e;simp
 ·have h:¬(Sum.inr a:Key)=Sum.inr b:=λq=>e (Sum.inr.inj q)
  rw[decide_eq_false h,decide_eq_false e]
theorem Ly(a:Int)(b:Str):decide ((Sum.inl a:Key)=Sum.inr b)=false:=decide_eq_false (λq=>nomatch q)
theorem Lx(a:Str)(b:Int):decide ((Sum.inr a:Key)=Sum.inl b)=false:=decide_eq_false (λq=>nomatch q)
def bH(prog:Program)(w:World):PySem.KeyKind prog w Key where
 is:=qe
 hash:=Vk w
 inj:=λv a b ha hb=>by
  rcases cC ha with⟨i,t,rfl,rfl⟩|⟨x,t,rfl,rfl⟩
  ·rcases cC hb with⟨j,u,rfl,e⟩|⟨y,u,rfl,e⟩
   ·injection e with e1 _;rw[e1]
   ·exact nomatch e
  ·rcases cC hb with⟨j,u,rfl,e⟩|⟨y,u,rfl,e⟩
   ·exact nomatch e
   ·injection e with e1 _;rw[e1]
 byValue:=λk v h=>by
  rcases cC h with⟨i,t,rfl,rfl⟩|⟨x,t,rfl,rfl⟩<;>rfl
 pyHash:=λhv h=>by
  rcases cC hv with⟨i,t,rfl,rfl⟩|⟨x,t,rfl,rfl⟩
  ·exact wpAny_pyHash_int h
  ·exact wpAny_pyHash_str h
 eqBool:=λhu hv h=>by
  rcases cC hu with⟨i,t,rfl,rfl⟩|⟨x,t,rfl,rfl⟩
  ·rcases cC hv with⟨j,u,rfl,rfl⟩|⟨y,u,rfl,rfl⟩
   ·rw[Lz]at h;exact wpAny_eqBool_int h
   ·rw[Ly]at h;exact SeqAt.EqAt.int_str i t y u _ _ _ _ h
  ·rcases cC hv with⟨j,u,rfl,rfl⟩|⟨y,u,rfl,rfl⟩
   ·rw[Lx]at h;exact SeqAt.EqAt.str_int x t j u _ _ _ _ h
   ·rw[Lw]at h;exact wpAny_eqBool_str h
 «strs» :=λk x t v h=>by
  rcases cC h with⟨i,u,rfl,e⟩|⟨y,u,rfl,e⟩
  ·exact nomatch e
  ·injection e with e1 _
   subst e1
   cases v<;>rfl
theorem wX(prog:Program)(w:World)(k:Key)(v:Value):(bH prog w).is k v=qe k v:=rfl
theorem vh(prog:Program)(w:World)(i:Int)(t:Tok):(bH prog w).is (.inl i) (.int i t)=true:=As i t
theorem vf(prog:Program)(w:World)(x:Str)(t:Tok):(bH prog w).is (.inr x) (.str x t)=true:=Ar x t
inductive V where
 |dI|bl(b:Bool)|int(i:Int)|str(x:Str)|Bk(b:Array UInt8)|Me(b:UInt64)|ref(a:Addr)|ty(n:String)
 deriving DecidableEq
def RelV:V->Value->Prop
 |.dI,u=>u=Value.none
 |.bl b,u=>u=Value.bool b
 |.int i,u=>∃t,u=Value.int i t
 |.str x,u=>∃t,u=Value.str x t
 |.Bk b,u=>∃t,u=Value.bytes b t
 |.Me b,u=>∃t,u=Value.float b t
 |.ref a,u=>u=Value.ref a
 |.ty n,u=>u=Value.type n
abbrev Vals:List V->List Value->Prop:=Paired RelV
theorem Vals.length{xs:List V}{us:List Value}(r:Vals xs us):xs.length=us.length:=Paired.length r
theorem Vals.get:∀{xs:List V}{us:List Value}{i:Nat}{x:V},Vals xs us->xs[i]? = some x->∃u,us[i]? = some u/\RelV x u
 |_,_,_,_,.nil,e=>by simp at e
 |_,_,0,_,.cons r _,e=>by simp at e;subst e;exact⟨_,rfl,r⟩
 |_,_,i+1,x,.cons _ t,e=>by
  obtain⟨u,h1,h2⟩:=Vals.get (i:=i) (x:=x) t (by simpa using e)
  exact⟨u,by simpa using h1,h2⟩
theorem Vals.set{x:V}{u:Value}(r:RelV x u):∀{xs:List V}{us:List Value}(i:Nat),Vals xs us->Vals (xs.set i x) (us.set i u)
 |_,_,_,.nil=>.nil
 |_,_,0,.cons _ t=>.cons r t
 |_,_,i+1,.cons q t=>.cons q (Vals.set r i t)
theorem Vals.append:∀{xs ys:List V}{us ws:List Value},Vals xs us->Vals ys ws->Vals (xs++ys) (us++ws)
 |_,_,_,_,.nil,s=>s
 |_,_,_,_,.cons r t,s=>.cons r (Vals.append t s)
theorem Vals.take:∀{xs:List V}{us:List Value}(n:Nat),Vals xs us->Vals (xs.take n) (us.take n)
 |_,_,0,_=>.nil
 |_,_,_+1,.nil=>.nil
 |_,_,n+1,.cons r t=>.cons r (Vals.take n t)
theorem Vals.drop:∀{xs:List V}{us:List Value}(n:Nat),Vals xs us->Vals (xs.drop n) (us.drop n)
 |_,_,0,r=>r
 |_,_,_+1,.nil=>.nil
 |_,_,n+1,.cons _ t=>Vals.drop n t
def iw:Option V->Option Value->Prop
 |some v,some u=>RelV v u
 |none,none=>True
 |_,_=>False
def KV{κ:Type}:List (κ×V)->List (κ×Value)->Prop:=Paired λ(p:κ×V) (q:κ×Value)=>p.1=q.1/\RelV p.2 q.2
def kV:Key->V
 |.inl i=>.int i
 |.inr x=>.str x
inductive HO where
  |lst(xs:List V)
  |tup(xs:List V)
  |dK(kvs:List (Key×V))|dT(kvs:List (List Key×V))
  |set(S:Int->Bool)(n:Nat)
  |ins(C dx:Addr)(fs:List (Str×V))
  |own(x:Addr)
  |xd(fs:List (Str×V))
  |met(f x:Addr)
  |Ux(lo hi:Int)
  |ef(o:Obj)(u:HO)
  |oj(ps:Array Value)
  |ext(φ:Heap->Prop)
abbrev Hp:=Addr->Option HO
def upd(H:Hp)(a:Addr)(o:HO):Hp:=λb=>if b=a then some o else H b
theorem af{H:Hp}{a:Addr}{o:HO}:upd H a o a=some o:=by unfold upd;rw[if_pos rfl]
theorem ai{H:Hp}{a b:Addr}{o:HO}(h:b≠a):upd H a o b=H b:=by unfold upd;rw[if_neg h]
theorem fR{H:Hp}{a:Addr}{o u:HO}:upd (upd H a o) a u=upd H a u:=by
 funext b;unfold upd;split<;>rfl
theorem aI{H:Hp}{a b:Addr}{o u:HO}(h:H a=some o)(h':H b=some u)(d:o≠u):a≠b:=by
 intro e;subst e;rw[h]at h';exact d (Option.some.inj h')
theorem au{H:Hp}{a b:Addr}{o:HO}(h:H a=some o)(h':H b=none):a≠b:=by
 intro e;subst e;rw[h]at h';cases h'
section
variable (P:Program) (w:World)
def ck(H:Hp)(h:Heap)(a:Addr):HO->Prop
 |.lst xs=>xs.length<=sizeLine/\∃(its:List Value) (n:Nat),Vals xs its/\h.get? a=some {cls:=.type "list",data:=.seq its.toArray n}
 |.tup xs=>xs.length<=sizeLine/\∃its:List Value,Vals xs its/\IsTup h a its.toArray
 |.dK kvs=>kvs.length<=sizeLine/\(a==sysModules)=false/\∃vs,KV kvs vs/\h.DictOf (bH P w) a vs
 |.dT kvs=>kvs.length<=sizeLine/\(a==sysModules)=false/\∃xs:List (List Key×Addr×Value),
   Paired (λ(p:List Key×V) (q:List Key×Addr×Value)=>p.1=q.1/\H q.2.1=some (.tup (p.1.map kV))/\RelV p.2 q.2.2) kvs xs/\
   ∃o es ep,h.get? a=some o/\o.ExactDict/\o.data=.dict es ep/\es.toList=xs.map (entryOfKey (tupleKind (bH P w)))/\(xs.map (·.1)).Nodup
 |.set S n=>h.SetOf (intKind P w) a S n
 |.ins C dx fs=>H dx=some (.own a)/\fs.length<=1000/\dx≠a/\h.get? a=some (PySem.W.instObj C dx)/\
   ∃mA,h.Ns1 dx mA/\(∀f,iw (fs.lookup f) (mA f))/\PySem.Within mA (fs.map (·.1))
 |.own _=>∃o,h.get? a=some o
 |.xd fs=>∃mA,h.Ns1 a mA/\∀f,iw (fs.lookup f) (mA f)
 |.Ux lo hi=>∃t u v,h.get? a=some {cls:=.type "range",data:=.fields #[.int lo t,.int hi u,.int 1 v]}
 |.ef o u=>h.get? a=some o/\ck H h a u
 |.oj ps=>h.get? a=some {cls:=.none,data:=.fields ps}
 |.met f x=>h.get? a=some (PySem.W.methodObj (.ref f) (.ref x))
 |.ext φ=>φ h/\(∃o,h.get? a=some o)/\∀h1 h2:Heap,φ h1->(∀o,h1.get? a=some o->h2.get? a=some o)->φ h2
def kB(H:Hp)(h:Heap):Prop:=∀a o,H a=some o->ck P w H h a o
end
section
variable {P:Program} {w:World} {H H':Hp} {h h':Heap} {a:Addr} {o:HO}
theorem ck.lt(x:ck P w H h a o):a<h.objs.size:=by
 cases o with
 |lst xs=>obtain⟨_,_,_,_,e⟩:=x;exact Heap.lt_size e
 |tup xs=>obtain⟨_,_,_,p⟩:=x;exact p.lt
 |dK kvs=>obtain⟨_,_,_,_,o,_,_,e,_⟩:=x;exact Heap.lt_size e
 |dT kvs=>obtain⟨_,_,_,_,o,_,_,e,_⟩:=x;exact Heap.lt_size e
 |set S n=>obtain⟨o,_,_,_,e,_⟩:=x;exact Heap.lt_size e
 |ins C dx fs=>obtain⟨_,_,_,e,_⟩:=x;exact Heap.lt_size e
 |own y=>obtain⟨_,e⟩:=x;exact Heap.lt_size e
 |xd fs=>obtain⟨_,⟨_,_,_,e,_⟩,_⟩:=x;exact Heap.lt_size e
 |Ux lo hi=>obtain⟨_,_,_,e⟩:=x;exact Heap.lt_size e
 |ef ob u=>obtain⟨e,_⟩:=x;exact Heap.lt_size e
 |oj ps=>exact Heap.lt_size (show h.get? a=some _ from x)
 |met f y=>exact Heap.lt_size (show h.get? a=some _ from x)
 |ext φ=>obtain⟨_,⟨_,e⟩,_⟩:=x;exact Heap.lt_size e
theorem Paired.Di{α β:Type}{F G:α->β->Prop}:∀{l₁:List α}{l₂:List β},Paired F l₁ l₂->(∀a b,F a b->G a b)->Paired G l₁ l₂
 |_,_,.nil,_=>.nil
 |_,_,.cons r t,f=>.cons (f _ _ r) (Paired.Di t f)
theorem Paired.imp'{α β:Type}{F G:α->β->Prop}(f:∀a b,F a b->G a b){l₁:List α}{l₂:List β}(r:Paired F l₁ l₂):Paired G l₁ l₂:=Paired.Di r f
theorem ck.stay(x:ck P w H h a o)(k:∀b u,(b=a\/H b=some (.own a))->h.get? b=some u->h'.get? b=some u)
  (ho:∀b,H b=some (.own a)->H' b=some (.own a))(ht:∀b xs,H b=some (.tup xs)->H' b=some (.tup xs)):ck P w H' h' a o:=by
 induction o with
 |lst xs=>obtain⟨z,its,n,r,e⟩:=x;exact⟨z,its,n,r,k _ _ (.inl rfl) e⟩
 |tup xs=>obtain⟨z,its,r,ob,e,c⟩:=x;exact⟨z,its,r,ob,k _ _ (.inl rfl) e,c⟩
 |dK kvs=>obtain⟨z,y,vs,r,ob,es,ep,e,c⟩:=x;exact⟨z,y,vs,r,ob,es,ep,k _ _ (.inl rfl) e,c⟩
 |dT kvs=>
  obtain⟨z,y,xs,r,ob,es,ep,e,c⟩:=x
  exact⟨z,y,xs,Paired.Di r λp q z=>⟨z.1,ht _ _ z.2.1,z.2.2⟩,ob,es,ep,k _ _ (.inl rfl) e,c⟩
 |set S n=>obtain⟨ob,es,ep,t,e,c⟩:=x;exact⟨ob,es,ep,t,k _ _ (.inl rfl) e,c⟩
 |ins C dx fs=>
  obtain⟨d,z,ne,e,mA,⟨od,es,ep,e2,c⟩,r⟩:=x
  exact⟨ho _ d,z,ne,k _ _ (.inl rfl) e,mA,⟨od,es,ep,k _ _ (.inr d) e2,c⟩,r⟩
 |own y=>obtain⟨ob,e⟩:=x;exact⟨ob,k _ _ (.inl rfl) e⟩
 |xd fs=>obtain⟨mA,⟨od,es,ep,e,c⟩,r⟩:=x;exact⟨mA,⟨od,es,ep,k _ _ (.inl rfl) e,c⟩,r⟩
 |Ux lo hi=>obtain⟨t,u,v,e⟩:=x;exact⟨t,u,v,k _ _ (.inl rfl) e⟩
 |ef ob u ih=>obtain⟨e,q⟩:=x;exact⟨k _ _ (.inl rfl) e,ih q⟩
 |oj ps=>
  have e:h.get? a=some {cls:=.none,data:=.fields ps}:=x
  show h'.get? a=some {cls:=.none,data:=.fields ps}
  exact k a _ (.inl rfl) e
 |met f y=>
  have e:h.get? a=some (PySem.W.methodObj (.ref f) (.ref y)):=x
  show h'.get? a=some (PySem.W.methodObj (.ref f) (.ref y))
  exact k a _ (.inl rfl) e
 |ext φ=>obtain⟨p,⟨o,e⟩,st⟩:=x;exact⟨st _ _ p λo q=>k _ _ (.inl rfl) q,⟨o,k _ _ (.inl rfl) e⟩,st⟩
theorem kB.lt(x:kB P w H h)(e:H a=some o):a<h.objs.size:=(x a o e).lt
theorem kB.fresh(x:kB P w H h)(e:h.objs.size<=a):H a=none:=by
 cases q:H a with
 |none=>rfl
 |some u=>exact absurd (Nat.lt_of_lt_of_le (x.lt q) e) (Nat.lt_irrefl _)
theorem kB.kept(x:kB P w H h)(k:∀b u,h.get? b=some u->h'.get? b=some u):kB P w H h':=λa o e=>
 (x a o e).stay (λb u _ q=>k b u q) (λ_ q=>q) λ_ _ q=>q
theorem kB.laid(x:kB P w H h)(k:∀b u,h.get? b=some u->h'.get? b=some u)(hp:h.objs.size<=a)(new:ck P w (upd H a o) h' a o):kB P w (upd H a o) h':=λb u e=>by
 have hn:=x.fresh hp
 by_cases hb:b=a
 ·subst hb;rw[af]at e;cases e;exact new
 ·rw[ai hb]at e
  exact(x b u e).stay (λc v _ q=>k c v q) (λc q=>by rw[ai (au q hn)];exact q) λc xs q=>by rw[ai (au q hn)];exact q
end
def Rd(H:Hp)(a:Addr)(u:HO):Prop:=H a=some u\/∃o,H a=some (.ef o u)
theorem Rd.ok{P:Program}{w:World}{H:Hp}{h:Heap}{a:Addr}{u:HO}(r:Rd H a u)(x:kB P w H h):ck P w H h a u:=by
 rcases r with r|⟨o,r⟩
 ·exact x a u r
 ·obtain⟨_,q⟩:=x a _ r
  exact q
def RV:Option HO->Prop
 |some (.lst _)=>True
 |some (.dK _)=>True
 |some (.dT _)=>True
 |some (.set _ _)=>True
 |some (.ins _ _ _)=>True
 |some (.ext _)=>True
 |_=>False
section
variable {P:Program} {w:World} {H:Hp} {h h':Heap} {x e:Addr} {o':HO}
theorem kB.write(ok:kB P w H h)(mu:RV (H x))(he:e=x\/H e=some (.own x))(k:∀b u,b≠e->h.get? b=some u->h'.get? b=some u)(Ni:∃u,h'.get? e=some u)
  (new:ck P w (upd H x o') h' x o'):kB P w (upd H x o') h':=λb u q=>by
 have OF:∀c y,H c=some (.own y)->c≠x:=λc y r z=>by subst z;rw[r]at mu;exact mu
 have UH:∀c xs,H c=some (.tup xs)->c≠x:=λc xs r z=>by subst z;rw[r]at mu;exact mu
 by_cases hb:b=x
 ·subst hb;rw[af]at q;cases q;exact new
 ·rw[ai hb]at q
  by_cases Ma:b=e
  ·have q':H b=some (.own x):=by
    rcases he with z|z
    ·exact absurd (Ma.trans z) hb
    ·rw[Ma];exact z
   rw[q]at q';cases q'
   obtain⟨v,hv⟩:=Ni
   exact⟨v,by rw[Ma];exact hv⟩
  ·refine(ok b u q).stay (λc v hc r=>k c v ?_ r) (λc r=>by rw[ai (OF c b r)];exact r) λc xs r=>by rw[ai (UH c xs r)];exact r
   rcases hc with rfl|hc
   ·exact Ma
   ·rintro rfl
    rcases he with z|z
    ·exact OF c b hc z
    ·rw[hc]at z;cases z;exact hb rfl
end
structure Un(fs ex:List Addr)(H H':Hp)(h h':Heap):Prop where
 keep:∀b o,h.get? b=some o->H b=none->b∉fs->b∉ex->h'.get? b=some o
 slot:∀b o,h.get? b=some o->H b=none->b∈fs->b∉ex->∃sl,h'.get? b=some {o with slots:=sl}
 free:∀b o,h.get? b=some o->H b=none->b∉ex->H' b=none
 there:∀b o,h.get? b=some o->b∉ex->∃o',h'.get? b=some o'
 tups:∀b xs,H b=some (.tup xs)->H' b=some (.tup xs)
 lG:∀b o u,H b=some (.ef o u)->H' b=some (.ef o u)
 pK:∀b ps,H b=some (.oj ps)->∃more,H' b=some (.oj (ps++more))
section
variable {fs fs' ex ex':List Addr} {H H1 H2:Hp} {h h1 h2 h':Heap} {a x e:Addr} {o:HO}
theorem Un.any(u:Un fs ex H H1 h h1){b:Addr}{ob:Obj}(q:h.get? b=some ob)(n:H b=none)(hx:b∉ex):∃sl,h1.get? b=some {ob with slots:=sl}:=by
 by_cases hb:b∈fs
 ·exact u.slot b ob q n hb hx
 ·exact⟨ob.slots,u.keep b ob q n hb hx⟩
theorem Un.kept(k:∀b u,h.get? b=some u->h'.get? b=some u):Un fs ex H H h h':=
 ⟨λb ob q _ _ _=>k b ob q,λb ob q _ _ _=>⟨ob.slots,k b ob q⟩,λ_ _ _ n _=>n,λb ob q _=>⟨ob,k b ob q⟩,λ_ _ q=>q,λ_ _ _ q=>q,λ_ ps q=>⟨#[],by rw[q];simp⟩⟩
theorem Un.refl:Un fs ex H H h h:=Un.kept λ_ _ q=>q
theorem Un.laid(k:∀b u,h.get? b=some u->h'.get? b=some u)(hp:h.objs.size<=a)(hn:H a=none):Un fs ex H (upd H a o) h h' where
 keep:=λb u q _ _ _=>k b u q
 slot:=λb u q _ _ _=>⟨u.slots,k b u q⟩
 free:=λb u q n _=>by rw[ai (Nat.ne_of_lt (Nat.lt_of_lt_of_le (Heap.lt_size q) hp))];exact n
 there:=λb u q _=>⟨u,k b u q⟩
 tups:=λb xs q=>by rw[ai (au q hn)];exact q
 lG:=λb u xs q=>by rw[ai (au q hn)];exact q
 pK:=λb ps q=>⟨#[],by rw[ai (au q hn),q];simp⟩
theorem Un.write(mu:RV (H x))(he:e=x\/H e=some (.own x))(k:∀b u,b≠e->h.get? b=some u->h'.get? b=some u)(Ni:∃u,h'.get? e=some u):Un fs ex H (upd H x o) h h':=by
 have hx:∀b,H b=none->b≠x:=λb n z=>by subst z;rw[n]at mu;exact mu
 have hb:∀b,H b=none->b≠e:=λb n z=>by
  subst z
  rcases he with r|r
  ·exact hx b n r
  ·rw[n]at r;cases r
 have hm:∀b u,H b=some u->¬RV (some u)->b≠x:=λb u q nm z=>by subst z;rw[q]at mu;exact nm mu
 refine⟨λb u q n _ _=>k b u (hb b n) q,λb u q n _ _=>⟨u.slots,k b u (hb b n) q⟩,λb u q n _=>by rw[ai (hx b n)];exact n,λb u q _=>?_,
  λb xs q=>by rw[ai (hm b _ q λz=>z)];exact q,λb u xs q=>by rw[ai (hm b _ q λz=>z)];exact q,λb ps q=>⟨#[],by rw[ai (hm b _ q λz=>z),q];simp⟩⟩
 by_cases Ma:b=e
 ·subst Ma;exact Ni
 ·exact⟨u,k b u Ma q⟩
end
def Sj(h:Heap)(H:Hp):List Addr:=(List.range h.objs.size).filter λa=>(H a).isSome
def tD(h:Heap)(H:Hp):Heap:=PySem.W.hideAll h (Sj h H)
theorem Ay(h:Heap)(H:Hp):(tD h H).objs.size=h.objs.size:=PySem.W.hideAll_size _ _
theorem DP{h:Heap}{H:Hp}{b:Addr}{o:Obj}(e:h.get? b=some o)(n:H b=none):(tD h H).get? b=some o:=
 PySem.W.hideAll_get _ e λhm=>by
  have q:(H b).isSome=true:=(List.mem_filter.mp hm).2
  rw[n]at q;simp at q
theorem Gu{h:Heap}{H:Hp}{b:Addr}{o:Obj}(e:(tD h H).get? b=some o):h.get? b=some o/\H b=none:=by
 have e':h.get? b=some o:=PySem.W.of_hideAll (Sj h H) e
 refine⟨e',?_⟩
 cases q:H b with
 |none=>rfl
 |some x=>
  have hm:b∈Sj h H:=List.mem_filter.mpr ⟨List.mem_range.mpr (Heap.lt_size e'),by simp[q]⟩
  have z:(tD h H).get? b=none:=PySem.W.hideAll_none (Sj h H) hm
  rw[z]at e;cases e
structure Mod(K:Fg7)(mg:Str->Option Value)(base:Heap):Prop where
 Py:K.In base
 glob:base.Ns mainGlobals mg
 blt:∃mb,base.Ns builtinsNs mb/\∀x:Str,x≠"__name__"->mb x=bootBuiltins x
 nolimit:base.NoLimit
structure Cx where
 prog:Program
 w:World
 K:Fg7
 mg:Str->Option Value
 base:Heap
 A:Around
 N:List Str
 s₀:Shared
 H₀:Hp
 env:Env
 outer:List Env
 stack:List Env
 ex:List Addr
 fn:Str->Bool
 calm:Bool
 pn:List (Addr×Obj)
 xe:Value->Shared->Prop
def frs(l:List Env):List Addr:=l.filterMap (·.frame)
abbrev Cx.fs(X:Cx):List Addr:=frs X.outer
def Ti(sc:Scope)(x:Str):Prop:=sc.names.lookup x=some .local\/sc.names.lookup x=some .cell\/sc.names.lookup x=some .free
def Loc(sc:Scope)(x:Str):Prop:=sc.names.lookup x=some .local\/sc.names.lookup x=some .cell
def Look(env:Env)(h:Heap)(m:Str->Option Value)(x:Str)(u:Value):Prop:=
 (env.kindOf x=some .local/\m x=some u)\/((env.kindOf x=some .cell\/env.kindOf x=some .free)/\∃c,env.cells.lookup x=some c/\h.IsCell c (some u))
structure Cx.Ok(X:Cx):Prop where
 mod:Mod X.K X.mg X.base
 kind:X.env.scope.kind=.function
 glob:X.env.globals=mainGlobals
 blt:X.env.builtins=builtinsNs
 above:X.s₀.heap.objs.size<=X.env.locals
 inj:∀x y c,X.env.cells.lookup x=some c->X.env.cells.lookup y=some c->x=y
 has:∀x,(X.env.kindOf x=some .cell\/X.env.kindOf x=some .free)->∃c,X.env.cells.lookup x=some c
 Nq:∀x c,X.fn x=true->X.env.cells.lookup x=some c->X.s₀.heap.objs.size<=c
 hd:X.calm=true->X.A.handled=none
 frames:X.A.frames=some X.stack
 stk:X.stack=X.outer\/(X.stack=X.env::X.outer/\X.env.frame=some X.env.locals)
 Te:∀b∈X.ex,b≠X.env.locals/\∀x c,X.env.cells.lookup x=some c->c≠b
 bs:∀b o,X.base.get? b=some o->X.s₀.heap.get? b=some o/\X.H₀ b=none
 Es:X.base.objs.size<=X.s₀.heap.objs.size
 z_:∀b o,X.base.get? b=some o->b∉X.ex
 AF:∀b∈X.ex,b∉X.fs
 ni:X.s₀.heap.FunFrames X.base X.outer
 JJ:∀b∈X.fs,X.H₀ b=none
structure Inv(X:Cx)(pins:List (Addr×Obj))(σ:List (Option V))(H:Hp)(s:Shared):Prop where
 ok:X.Ok
 os:s.os=X.s₀.os
 bare:AllBare s.gens
 base:Un X.fs X.ex X.H₀ H X.s₀.heap s.heap
 loc:∃m,s.heap.Ns X.env.locals m/\∀(i:Nat)(x:Str)(v:V),X.N[i]? = some x->σ[i]? = some (some v)->Ti X.env.scope x->∃u,RelV v u/\Look X.env s.heap m x u
 cell:∀x c,X.env.cells.lookup x=some c->∃v,s.heap.IsCell c v
 free:H X.env.locals=none
 fO:∀x c,X.env.cells.lookup x=some c->H c=none
 pin:∀p∈X.pn++pins,s.heap.get? p.1=some p.2/\H p.1=none/\p.1≠X.env.locals/\p.1∉X.fs/\∀v,p.2.data≠.cell v
 hok:kB X.prog X.w H s.heap
 len:σ.length=X.N.length
section
variable {X:Cx} {pins:List (Addr×Obj)} {σ:List (Option V)} {H H':Hp} {s:Shared} {h':Heap}
theorem Cx.Ok.UK(ok:X.Ok){b:Addr}{o:Obj}(e:X.base.get? b=some o):b∉X.fs:=λhb=>by
 have:=(ok.ni.mem hb).1
 rw[e]at this;cases this
theorem Inv.bs(I:Inv X pins σ H s):∀b o,X.base.get? b=some o->s.heap.get? b=some o/\H b=none:=λb o e=>
 ⟨I.base.keep b o (I.ok.bs b o e).1 (I.ok.bs b o e).2 (I.ok.UK e) (I.ok.z_ b o e),I.base.free b o (I.ok.bs b o e).1 (I.ok.bs b o e).2 (I.ok.z_ b o e)⟩
theorem Inv.bk(I:Inv X pins σ H s):∀b o,X.base.get? b=some o->s.heap.get? b=some o:=λb o e=>(I.bs b o e).1
theorem Inv.mod(I:Inv X pins σ H s):Mod X.K X.mg X.base:=I.ok.mod
theorem Inv.lU(I:Inv X pins σ H s):X.K.In s.heap:=I.ok.mod.Py.keeps I.bk
theorem Inv.nolimit(I:Inv X pins σ H s):s.heap.NoLimit:=I.ok.mod.nolimit.keeps I.bk
theorem Inv.lt(I:Inv X pins σ H s):X.env.locals<s.heap.objs.size:=let⟨_,hn,_⟩:=I.loc;hn.lt
theorem Inv.sz(I:Inv X pins σ H s):X.s₀.heap.objs.size<=s.heap.objs.size:=Nat.le_trans I.ok.above (Nat.le_of_lt I.lt)
theorem Inv.UJ(I:Inv X pins σ H s){a:Addr}(h:s.heap.objs.size<=a):a∉X.fs:=λhb=>by
 obtain⟨_,o,ho,_⟩:=I.ok.ni.mem hb
 exact absurd (Nat.lt_of_lt_of_le (Heap.lt_size ho) (Nat.le_trans I.sz h)) (Nat.lt_irrefl _)
theorem Inv.Mz(I:Inv X pins σ H s):∀x c,X.env.cells.lookup x=some c->c≠X.env.locals:=λx c e z=>by
 obtain⟨v,o,ho,hd⟩:=I.cell x c e
 obtain⟨m,⟨o',es,ep,ho',hd',_⟩,_⟩:=I.loc
 rw[z,ho']at ho;cases ho;rw[hd']at hd;cases hd
theorem Inv.ni(I:Inv X pins σ H s):s.heap.FunFrames X.base X.outer:=by
 have all:∀(l:List Env),(∀b∈frs l,b∈X.fs)->X.s₀.heap.FunFrames X.base l->s.heap.FunFrames X.base l:=by
  intro l
  induction l with
  |nil=>intro _ _;trivial
  |cons env r ih=>
   intro hs hl
   obtain⟨hk,⟨L,o,hf,hn,ho,hd⟩,hr⟩:=hl
   have hL:L∈X.fs:=hs L (by unfold frs;rw[List.filterMap_cons,hf];exact List.mem_cons_self)
   obtain⟨sl,e⟩:=I.base.slot L o ho (I.ok.JJ L hL) hL λz=>I.ok.AF L z hL
   exact⟨hk,⟨L,_,hf,hn,e,hd⟩,ih (λb hb=>hs b (by unfold frs;rw[List.filterMap_cons,hf];exact List.mem_cons_of_mem _ hb)) hr⟩
 exact all X.outer (λ_ hb=>hb) I.ok.ni
theorem Inv.stack(I:Inv X pins σ H s):s.heap.FunFrames X.base X.stack:=by
 rcases I.ok.stk with e|⟨e,hf⟩
 ·rw[e];exact I.ni
 ·rw[e]
  obtain⟨m,hn,_⟩:=I.loc
  refine .cons (by rw[I.ok.kind];decide) hf hn ?_ I.ni
  exact Heap.get?_none_of_le (Nat.le_trans I.ok.Es I.ok.above)
theorem Inv.r_(I:Inv X pins σ H s):∀b∈frs X.stack,b∈X.env.locals::X.fs:=λb hb=>by
 rcases I.ok.stk with e|⟨e,hf⟩
 ·rw[e]at hb;exact List.mem_cons_of_mem _ hb
 ·rw[e]at hb
  unfold frs at hb
  rw[List.filterMap_cons,hf]at hb
  exact hb
theorem Inv.se(I:Inv X pins σ H s):∀b∈frs X.stack,H b=none:=λb hb=>by
 rcases List.mem_cons.mp (I.r_ b hb)with e|hb
 ·rw[e];exact I.free
 ·obtain⟨_,o,ho,_⟩:=I.ok.ni.mem hb
  exact I.base.free b o ho (I.ok.JJ b hb) λz=>I.ok.AF b z hb
theorem Inv.step{g':Array GenState}{t':Nat}{d':Drawn}{ch:List Addr}(I:Inv X pins σ H s)
  (hch:∀b∈ch,(b∈X.ex\/X.s₀.heap.objs.size<=b)/\b≠X.env.locals/\(∀x c,X.env.cells.lookup x=some c->c≠b)/\∀p∈X.pn++pins,p.1≠b)
  (keep:∀b o,b≠X.env.locals->b∉X.fs->b∉ch->s.heap.get? b=some o->H b=none->h'.get? b=some o)
  (slot:∀b o,b≠X.env.locals->b∈X.fs->b∉ch->s.heap.get? b=some o->H b=none->∃sl,h'.get? b=some {o with slots:=sl})(free:∀b o,b∉ch->s.heap.get? b=some o->H b=none->H' b=none)
  (there:∀b o,b∉ch->s.heap.get? b=some o->∃o',h'.get? b=some o')
  (tups:∀b xs,H b=some (.tup xs)->H' b=some (.tup xs))(lG:∀b o u,H b=some (.ef o u)->H' b=some (.ef o u))(pK:∀b ps,H b=some (.oj ps)->∃more,H' b=some (.oj (ps++more)))
  (ns:∀m,s.heap.Ns X.env.locals m->h'.Ns X.env.locals m)(hok:kB X.prog X.w H' h')(hg:AllBare g'):
  Inv X pins σ H' {s with heap:=h',gens:=g',drawn:=d',toks:=t'}:=by
 have Xz:∀b o,X.s₀.heap.get? b=some o->b≠X.env.locals:=λb o e=>Nat.ne_of_lt (Nat.lt_of_lt_of_le (Heap.lt_size e) I.ok.above)
 have SD:∀b o,X.s₀.heap.get? b=some o->b∉X.ex->b∉ch:=λb o e hx hb=>by
  rcases(hch b hb).1 with z|z
  ·exact hx z
  ·exact absurd (Nat.lt_of_lt_of_le (Heap.lt_size e) z) (Nat.lt_irrefl _)
 have cellK:∀x c,X.env.cells.lookup x=some c->∀v,s.heap.IsCell c v->h'.IsCell c v:=λx c e v ⟨o,ho,hd⟩=>by
  have OM:c∉ch:=λz=>(hch c z).2.2.1 x c e rfl
  by_cases hc:c∈X.fs
  ·obtain⟨sl,q⟩:=slot c o (I.Mz x c e) hc OM ho (I.fO x c e)
   exact⟨_,q,hd⟩
  ·exact⟨o,keep c o (I.Mz x c e) hc OM ho (I.fO x c e),hd⟩
 refine⟨I.ok,I.os,hg,⟨λb o e n hb hx=>?_,λb o e n hb hx=>?_,λb o e n hx=>?_,λb o e hx=>?_,λb xs e=>tups b xs (I.base.tups b xs e),λb o xs e=>lG b o xs (I.base.lG b o xs e),λb ps e=>?_⟩,?_,λx c e=>?_,?_,λx c e=>?_,λp hp=>?_,hok,I.len⟩
 ·exact keep b o (Xz b o e) hb (SD b o e hx) (I.base.keep b o e n hb hx) (I.base.free b o e n hx)
 ·obtain⟨sl,e1⟩:=I.base.slot b o e n hb hx
  obtain⟨Zx,e2⟩:=slot b _ (Xz b o e) hb (SD b o e hx) e1 (I.base.free b o e n hx)
  exact⟨Zx,e2⟩
 ·obtain⟨o',e1⟩:=I.base.there b o e hx
  exact free b o' (SD b o e hx) e1 (I.base.free b o e n hx)
 ·obtain⟨o',e1⟩:=I.base.there b o e hx
  exact there b o' (SD b o e hx) e1
 ·obtain⟨m1,e1⟩:=I.base.pK b ps e
  obtain⟨m2,e2⟩:=pK b _ e1
  exact⟨m1++m2,by rw[e2,Array.append_assoc]⟩
 ·obtain⟨m,hn,hl⟩:=I.loc
  refine⟨m,ns m hn,λi x v e1 e2 e3=>?_⟩
  obtain⟨u,r,l⟩:=hl i x v e1 e2 e3
  refine⟨u,r,?_⟩
  rcases l with l|⟨k,c,e,z⟩
  ·exact .inl l
  ·exact .inr ⟨k,c,e,cellK x c e _ z⟩
 ·obtain⟨v,z⟩:=I.cell x c e
  exact⟨v,cellK x c e v z⟩
 ·obtain⟨m,⟨o,_,_,ho,_⟩,_⟩:=I.loc
  exact free _ o (λz=>(hch _ z).2.1 rfl) ho I.free
 ·obtain⟨v,o,ho,hd⟩:=I.cell x c e
  exact free c o (λz=>(hch c z).2.2.1 x c e rfl) ho (I.fO x c e)
 ·obtain⟨e,n,ne,nf,d⟩:=I.pin p hp
  have OM:p.1∉ch:=λz=>(hch p.1 z).2.2.2 p hp rfl
  exact⟨keep p.1 p.2 ne nf OM e n,free p.1 p.2 OM e n,ne,nf,d⟩
theorem Inv.un{t':Nat}(I:Inv X pins σ H s)(u:Un X.fs [] H H' s.heap h')(hok:kB X.prog X.w H' h'):Inv X pins σ H' {s with heap:=h',toks:=t'}:=by
 obtain⟨m,⟨o,es,ep,ho,r⟩,_⟩:=id I.loc
 obtain⟨sl,hL⟩:=u.any ho I.free (by simp)
 exact I.step (g':=s.gens) (d':=s.drawn) (ch:=[]) (λ_ z=>nomatch z) (λb o _ hb _ e n=>u.keep b o e n hb (by simp)) (λb o _ hb _ e n=>u.slot b o e n hb (by simp)) (λb o _ e n=>u.free b o e n (by simp)) (λb o _ e=>u.there b o e (by simp)) u.tups u.lG u.pK (λm' hm=>by
  obtain⟨o',es',Np,ho',r'⟩:=hm
  rw[ho]at ho';cases ho'
  exact⟨_,es',Np,hL,r'⟩) hok I.bare
theorem Inv.call{g':Array GenState}{t':Nat}{d':Drawn}{ch:List Addr}(I:Inv X pins σ H s)(u:Un (frs X.stack) ch H H' s.heap h')(hok:kB X.prog X.w H' h')(hg:AllBare g')
  (hch:∀b∈ch,(b∈X.ex\/X.s₀.heap.objs.size<=b)/\b≠X.env.locals/\(∀x c,X.env.cells.lookup x=some c->c≠b)/\∀p∈X.pn++pins,p.1≠b):
  Inv X pins σ H' {s with heap:=h',gens:=g',drawn:=d',toks:=t'}:=by
 obtain⟨m,⟨o,es,ep,ho,r⟩,_⟩:=id I.loc
 obtain⟨sl,hL⟩:=u.any ho I.free λz=>(hch _ z).2.1 rfl
 exact I.step (ch:=ch) hch (λb o hL hb hc e n=>u.keep b o e n (λz=>(List.mem_cons.mp (I.r_ b z)).elim hL hb) hc) (λb o _ _ hc e n=>u.any e n hc) (λb o hc e n=>u.free b o e n hc) (λb o hc e=>u.there b o e hc) u.tups u.lG u.pK (λm' hm=>by
  obtain⟨o',es',Np,ho',r'⟩:=hm
  rw[ho]at ho';cases ho'
  exact⟨_,es',Np,hL,r'⟩) hok hg
theorem Inv.turned{t':Nat}{it:Addr}(I:Inv X pins σ H s)(k:∀b o,b≠it->s.heap.get? b=some o->h'.get? b=some o)(hn:H it=none)(hL:it≠X.env.locals)
  (h1:it∈X.ex\/X.s₀.heap.objs.size<=it)(h2:∀x c,X.env.cells.lookup x=some c->c≠it)(h3:∀p∈X.pn++pins,p.1≠it):Inv X pins σ H {s with heap:=h',toks:=t'}:=by
 have OJ:∀b u,H b=some u->b≠it:=λb u e z=>by rw[z,hn]at e;cases e
 refine I.step (g':=s.gens) (d':=s.drawn) (ch:=[it]) (λb hb=>?_) (λb o _ _ hc e _=>k b o (λz=>hc (by simp[z])) e) (λb o _ _ hc e _=>⟨o.slots,k b o (λz=>hc (by simp[z])) e⟩) (λ_ _ _ _ n=>n)
  (λb o hc e=>⟨o,k b o (λz=>hc (by simp[z])) e⟩) (λ_ _ e=>e) (λ_ _ _ e=>e) (λb ps e=>⟨#[],by rw[e];simp⟩) (λm hm=>?_) (λb u e=>?_) I.bare
 ·have e:b=it:=by simpa using hb
  subst e
  exact⟨h1,hL,h2,h3⟩
 ·obtain⟨o,es,ep,ho,r⟩:=hm
  exact⟨o,es,ep,k _ o (Ne.symm hL) ho,r⟩
 ·refine(I.hok b u e).stay (λc v hc q=>k c v ?_ q) (λ_ q=>q) λ_ _ q=>q
  rcases hc with z|z
  ·rw[z];exact OJ b u e
  ·exact OJ c _ z
theorem Inv.tok(I:Inv X pins σ H s)(t:Nat):Inv X pins σ H {s with toks:=t}:=I.un (h':=s.heap) (t':=t) Un.refl I.hok
theorem Inv.kept{t':Nat}(I:Inv X pins σ H s)(k:∀b u,s.heap.get? b=some u->h'.get? b=some u):Inv X pins σ H {s with heap:=h',toks:=t'}:=I.un (Un.kept k) (I.hok.kept k)
theorem Inv.laid{a:Addr}{o:HO}{t':Nat}(I:Inv X pins σ H s)(k:∀b u,s.heap.get? b=some u->h'.get? b=some u)(hp:s.heap.objs.size<=a)(new:ck X.prog X.w (upd H a o) h' a o):
  Inv X pins σ (upd H a o) {s with heap:=h',toks:=t'}:=I.un (Un.laid k hp (I.hok.fresh hp)) (I.hok.laid k hp new)
theorem Inv.write{x e:Addr}{o:HO}{t':Nat}(I:Inv X pins σ H s)(mu:RV (H x))(he:e=x\/H e=some (.own x))(k:∀b u,b≠e->s.heap.get? b=some u->h'.get? b=some u)(Ni:∃u,h'.get? e=some u)
  (new:ck X.prog X.w (upd H x o) h' x o):Inv X pins σ (upd H x o) {s with heap:=h',toks:=t'}:=I.un (Un.write mu he k Ni) (I.hok.write mu he k Ni new)
theorem Inv.weak{σ':List (Option V)}(I:Inv X pins σ H s)(hl:σ'.length=σ.length)(w:∀(i:Nat) v,σ'[i]? = some (some v)->σ[i]? = some (some v)):Inv X pins σ' H s:=
 ⟨I.ok,I.os,I.bare,I.base,let⟨m,hn,hl'⟩:=I.loc;⟨m,hn,λi x v e1 e2 e3=>hl' i x v e1 (w i v e2) e3⟩,I.cell,I.free,I.fO,I.pin,I.hok,hl.trans I.len⟩
theorem Inv.yL{gh:List (Addr×Obj)}(I:Inv X pins σ H s)(h:∀p∈gh,s.heap.get? p.1=some p.2/\H p.1=none/\p.1≠X.env.locals/\p.1∉X.fs/\∀v,p.2.data≠.cell v):Inv X gh σ H s:=
 ⟨I.ok,I.os,I.bare,I.base,I.loc,I.cell,I.free,I.fO,λp hp=>(List.mem_append.mp hp).elim (λz=>I.pin p (List.mem_append_left _ z)) (h p),I.hok,I.len⟩
theorem u_{N:List Str}(hN:N.Nodup){i j:Nat}{x:Str}(a:N[i]? = some x)(b:N[j]? = some x):i=j:=by
 obtain⟨h1,e1⟩:=List.getElem?_eq_some_iff.mp a
 obtain⟨h2,e2⟩:=List.getElem?_eq_some_iff.mp b
 exact(List.getElem_inj hN).mp (e1.trans e2.symm)
theorem zH{M:Model}{A:Around}{E:Value->Shared->Prop}{i:Nat}{x:Str}{v:V}{u:Value}{Q:Unit->Shared->Prop}(I:Inv X pins σ H s)(hN:X.N.Nodup)(hi:X.N[i]? = some x)(hx:Loc X.env.scope x)(r:RelV v u)
  (h:∀s',Inv X pins (σ.set i (some v)) H s'->(∃a,Heap.SameBut a s.heap s'.heap/\(a=X.env.locals\/X.env.cells.lookup x=some a))->Q () s')(hf:X.fn x=true\/X.env.scope.names.lookup x=some .local:=by first|exact .inl rfl|exact .inr rfl|assumption):wpAny M A (storeName X.env x u) Q E s:=by
 obtain⟨m,hn,hl⟩:=id I.loc
 have hcls:(X.env.scope.kind == .class||(X.env.scope.kind == .module&&X.env.locals != X.env.globals))=false:=by rw[I.ok.kind];rfl
 have Yp:i<σ.length:=by rw[I.len];exact(List.getElem?_eq_some_iff.mp hi).1
 have Mz:=I.Mz
 have tracked:∀{a:Addr}{h':Heap},(∃o,s.heap.get? a=some o/\H a=none)->Heap.SameBut a s.heap h'->kB X.prog X.w H h':=λ{a h'} ha hs b ob e=>by
  obtain⟨_,_,hfree⟩:=ha
  refine(I.hok b ob e).stay (λc w' hc q=>(hs.2 c ?_).trans q) (λ_ q=>q) λ_ _ q=>q
  rintro rfl
  rcases hc with rfl|hc
  ·rw[hfree]at e;cases e
  ·rw[hfree]at hc;cases hc
 rcases hx with hk|hk
 ·refine wpAny_storeName_local hk hn (λh' hn' hs=>?_) hcls
  obtain⟨oL,_,_,DN,_⟩:=id hn
  refine h _ ⟨I.ok,I.os,I.bare,⟨λb o e n hb hx=>?_,λb o e n hb hx=>?_,I.base.free,λb o e hx=>?_,I.base.tups,I.base.lG,I.base.pK⟩,⟨_,hn',λj y v' e1 e2 e3=>?_⟩,λy c e=>?_,I.free,I.fO,λp hp=>?_,tracked ⟨oL,DN,I.free⟩ hs,by simpa using I.len⟩ ⟨_,hs,.inl rfl⟩
  ·exact(hs.2 b (Nat.ne_of_lt (Nat.lt_of_lt_of_le (Heap.lt_size e) I.ok.above))).trans (I.base.keep b o e n hb hx)
  ·obtain⟨sl,e1⟩:=I.base.slot b o e n hb hx
   exact⟨sl,(hs.2 b (Nat.ne_of_lt (Nat.lt_of_lt_of_le (Heap.lt_size e) I.ok.above))).trans e1⟩
  ·obtain⟨o',e1⟩:=I.base.there b o e hx
   exact⟨o',(hs.2 b (Nat.ne_of_lt (Nat.lt_of_lt_of_le (Heap.lt_size e) I.ok.above))).trans e1⟩
  ·by_cases hj:j=i
   ·subst hj
    rw[hi]at e1;cases e1
    rw[List.getElem?_set_self Yp]at e2
    cases e2
    exact⟨u,r,.inl ⟨hk,by simp⟩⟩
   ·rw[List.getElem?_set_ne (Ne.symm hj)]at e2
    obtain⟨u',r',q⟩:=hl j y v' e1 e2 e3
    refine⟨u',r',?_⟩
    rcases q with⟨k,e⟩|⟨k,c,e,z⟩
    ·refine .inl ⟨k,?_⟩
     have:y≠x:=λe=>hj (u_ hN e1 (e▸hi))
     simp[this,e]
    ·exact .inr ⟨k,c,e,z.sameBut hs (Mz y c e)⟩
  ·obtain⟨w',z⟩:=I.cell y c e
   exact⟨w',z.sameBut hs (Mz y c e)⟩
  ·obtain⟨e,n,ne,nf,d⟩:=I.pin p hp
   exact⟨(hs.2 p.1 ne).trans e,n,ne,nf,d⟩
 ·have hfn:X.fn x=true:=by
   rcases hf with z|z
   ·exact z
   ·rw[z]at hk;cases hk
  obtain⟨c,hc⟩:=I.ok.has x (.inl hk)
  obtain⟨w',z⟩:=I.cell x c hc
  refine wpAny_storeName_cell I.ok.kind hk hc z (λh' hc' hs=>?_)
  obtain⟨oc,hoc,VD⟩:=id z
  refine h {s with heap:=h'} ⟨I.ok,I.os,I.bare,⟨λb o e n hb hx=>?_,λb o e n hb hx=>?_,I.base.free,λb o e hx=>?_,I.base.tups,I.base.lG,I.base.pK⟩,⟨m,hn.sameBut hs (Ne.symm (Mz x c hc)),λj y v' e1 e2 e3=>?_⟩,λy c' e=>?_,I.free,I.fO,λp hp=>?_,tracked ⟨oc,hoc,I.fO x c hc⟩ hs,by simpa using I.len⟩ ⟨c,hs,.inr hc⟩
  ·exact(hs.2 b (Nat.ne_of_lt (Nat.lt_of_lt_of_le (Heap.lt_size e) (I.ok.Nq x c hfn hc)))).trans (I.base.keep b o e n hb hx)
  ·obtain⟨sl,e1⟩:=I.base.slot b o e n hb hx
   exact⟨sl,(hs.2 b (Nat.ne_of_lt (Nat.lt_of_lt_of_le (Heap.lt_size e) (I.ok.Nq x c hfn hc)))).trans e1⟩
  ·obtain⟨o',e1⟩:=I.base.there b o e hx
   exact⟨o',(hs.2 b (Nat.ne_of_lt (Nat.lt_of_lt_of_le (Heap.lt_size e) (I.ok.Nq x c hfn hc)))).trans e1⟩
  ·by_cases hj:j=i
   ·subst hj
    rw[hi]at e1;cases e1
    rw[List.getElem?_set_self Yp]at e2
    cases e2
    exact⟨u,r,.inr ⟨.inl hk,c,hc,hc'⟩⟩
   ·rw[List.getElem?_set_ne (Ne.symm hj)]at e2
    obtain⟨u',r',q⟩:=hl j y v' e1 e2 e3
    refine⟨u',r',?_⟩
    rcases q with q|⟨k,c',e,z'⟩
    ·exact .inl q
    ·refine .inr ⟨k,c',e,z'.sameBut hs ?_⟩
     rintro rfl
     exact hj (u_ hN e1 (I.ok.inj _ _ _ e hc▸hi))
  ·by_cases hcc:c'=c
   ·subst hcc;exact⟨_,hc'⟩
   ·obtain⟨w2,z2⟩:=I.cell y c' e
    exact⟨w2,z2.sameBut hs hcc⟩
  ·obtain⟨e,n,ne,nf,d⟩:=I.pin p hp
   refine⟨(hs.2 p.1 ?_).trans e,n,ne,nf,d⟩
   intro q
   rw[q,hoc]at e
   have q':oc=p.2:=Option.some.inj e
   exact d w' (by rw[←q'];exact VD)
theorem uF{M:Model}{A:Around}{E:Value->Shared->Prop}{i:Nat}{x:Str}{v:V}{u:Value}{Q:Unit->Shared->Prop}(I:Inv X pins σ H s)(hN:X.N.Nodup)(hi:X.N[i]? = some x)(hx:Loc X.env.scope x)(r:RelV v u)
  (h:∀s',Inv X pins (σ.set i (some v)) H s'->Q () s')(hf:X.fn x=true\/X.env.scope.names.lookup x=some .local:=by first|exact .inl rfl|exact .inr rfl|assumption):wpAny M A (storeName X.env x u) Q E s:=
 zH I hN hi hx r (λs' I' _=>h s' I') hf
theorem Inv.RI{s':Shared}{ch:List Addr}(I:Inv X pins σ H s)(ho:s'.os=s.os)(u:Un (frs X.stack) ch H H' s.heap s'.heap)(hok:kB X.prog X.w H' s'.heap)(hg:AllBare s'.gens)
  (hch:∀b∈ch,(b∈X.ex\/X.s₀.heap.objs.size<=b)/\b≠X.env.locals/\(∀x c,X.env.cells.lookup x=some c->c≠b)/\∀p∈X.pn++pins,p.1≠b):Inv X pins σ H' s':=by
 obtain⟨h',g',d',t',o'⟩:=s'
 have e:o'=s.os:=ho
 subst e
 exact I.call (g':=g') (t':=t') (d':=d') u hok hg hch
end
abbrev XK:=Value->Option Addr->Hp->Prop
abbrev St:=List (Option V)
abbrev VK:=V->Hp->Prop
abbrev TE:=St->Hp->VK->Prop
abbrev TT:=St->Hp->(Bool->Hp->Prop)->Prop
abbrev TA:=St->Hp->(List V->Hp->Prop)->Prop
structure Ends where
 nx:St->Hp->Prop
 rt:VK
 bk:St->Hp->Prop:=λ_ _=>False
 ct:St->Hp->Prop:=λ_ _=>False
abbrev TS:=Ends->St->Hp->Prop
inductive EP(X:Cx)(pins:List (Addr×Obj))(σ:St)(Q:VK)(u:Value)(s':Shared):Prop
 |mk(v:_)(H':_):(Inv X pins σ H' s')->(RelV v u)->(Q v H')->EP X pins σ Q u s'
def TP(X:Cx)(pins:List (Addr×Obj))(σ:St)(Q:Bool->Hp->Prop)(b:Bool)(s':Shared):Prop:=∃H',Inv X pins σ H' s'/\Q b H'
inductive AP(X:Cx)(pins:List (Addr×Obj))(σ:St)(Q:List V->Hp->Prop)(us:List Value)(s':Shared):Prop
 |mk(vs:_)(H':_):(Inv X pins σ H' s')->(Vals vs us)->(Q vs H')->AP X pins σ Q us s'
def SP(X:Cx)(pins:List (Addr×Obj))(D:Ends)(f:Flow)(s':Shared):Prop:=
 match f with
 |.next=>∃σ' H',Inv X pins σ' H' s'/\D.nx σ' H'
 |.brk=>∃σ' H',Inv X pins σ' H' s'/\D.bk σ' H'
 |.cont=>∃σ' H',Inv X pins σ' H' s'/\D.ct σ' H'
 |.ret u=>∃v σ' H',Inv X pins σ' H' s'/\RelV v u/\D.rt v H'
def PE(X:Cx)(e:Expr)(t:TE):Prop:=
 ∀(pins:List (Addr×Obj))(s:Shared)(σ:St)(H:Hp)(Q:VK),Inv X pins σ H s->t σ H Q->wpAny (model X.prog X.w) X.A (eval e X.env) (EP X pins σ Q) X.xe s
def PT(X:Cx)(e:Expr)(t:TT):Prop:=
 ∀(pins:List (Addr×Obj))(s:Shared)(σ:St)(H:Hp)(Q:Bool->Hp->Prop),Inv X pins σ H s->t σ H Q->wpAny (model X.prog X.w) X.A (isTrue e X.env (eval e X.env)) (TP X pins σ Q) X.xe s
def PW(X:Cx)(e:Expr)(t:TT):Prop:=
 ∀(whole:Sem Value)(pins:List (Addr×Obj))(s:Shared)(σ:St)(H:Hp)(Q:Bool->Hp->Prop),Inv X pins σ H s->t σ H Q->wpAny (model X.prog X.w) X.A (isTrue e X.env whole) (TP X pins σ Q) X.xe s
theorem PW.pt{X:Cx}{e:Expr}{t:TT}(h:PW X e t):PT X e t:=h _
def PA(X:Cx)(es:List Expr)(t:TA):Prop:=
 ∀(pos:Pos)(pins:List (Addr×Obj))(s:Shared)(σ:St)(H:Hp)(Q:List V->Hp->Prop),Inv X pins σ H s->t σ H Q->wpAny (model X.prog X.w) X.A (spliced (backTo pos (starEach es X.env))) (AP X pins σ Q) X.xe s
def PS(X:Cx)(st:Stmt)(t:TS):Prop:=
 ∀(pins:List (Addr×Obj))(s:Shared)(σ:St)(H:Hp)(D:Ends),Inv X pins σ H s->t D σ H->wpAny (model X.prog X.w) X.A (exec st X.env) (SP X pins D) X.xe s
def ug(X:Cx)(st:List Stmt)(t:TS):Prop:=
 ∀(pins:List (Addr×Obj))(s:Shared)(σ:St)(H:Hp)(D:Ends),Inv X pins σ H s->t D σ H->wpAny (model X.prog X.w) X.A (execs st X.env) (SP X pins D) X.xe s
theorem cW{α:Type}{t:Sem α}{Q Q':α->Shared->Prop}{M:Model}{A:Around}{E:Value->Shared->Prop}{s:Shared}(h:wpAny M A t Q E s)(hQ:∀a s,Q a s->Q' a s):wpAny M A t Q' E s:=wpAny_mono h hQ λ_ _ x=>x
section
variable {X:Cx}
inductive HS(i:Nat)(σ:St)(H:Hp)(Q:VK):Prop
 |mk(v:_):(σ[i]? = some (some v))->(Q v H)->HS i σ H Q
def BB(i:Nat):TE:=λσ H Q=>HS i σ H Q
def tC(v:V):TE:=λ_ H Q=>Q v H
theorem KG{i:Nat}{x:Str}{pos:Pos}(hN:X.N[i]? = some x)(hv:Ti X.env.scope x)(hd:(x==("__debug__":Str))=false:=by decide)(hcd:(x==("__classdict__":Str))=false:=by decide):PE X (.Name x pos) (BB i):=by
 intro pins s σ H Q I h
 obtain⟨v,e,h⟩:=h
 obtain⟨m,hn,hl⟩:=I.loc
 obtain⟨u,r,l⟩:=hl i x v hN e hv
 have fin:EP X pins σ Q u s:=⟨v,H,I,r,h⟩
 rcases l with⟨hk,hm⟩|⟨hk,c,hc,hcell⟩
 ·exact wpAny_Name (wpAny_loadName_local I.ok.kind hk hn hm fin) hd
 ·rcases hk with hk|hk
  ·exact wpAny_Name (wpAny_loadName_cell I.ok.kind hk hc hcell fin) hd
  ·exact wpAny_Name (wpAny_loadName_free I.ok.kind hk hc hcell fin hcd) hd
theorem ah{i j pos}:PE X (.Constant (.int i) j pos) (tC (.int i)):=λ_ _ _ H _ I h=>wpAny_Constant_int ⟨.int i,H,I.tok _,⟨_,rfl⟩,h⟩
theorem gi{b j pos}:PE X (.Constant (.bool b) j pos) (tC (.bl b)):=λ_ _ _ H _ I h=>Constant_bool ⟨.bl b,H,I,rfl,h⟩
theorem mC{j pos}:PE X (.Constant .none j pos) (tC .dI):=λ_ _ _ H _ I h=>Constant_none ⟨.dI,H,I,rfl,h⟩
theorem cL{x j pos}:PE X (.Constant (.str x) j pos) (tC (.str x)):=λ_ _ _ H _ I h=>Calls.Constant_str ⟨.str x,H,I.tok _,⟨_,rfl⟩,h⟩
def Gl(X:Cx)(x:Str):Prop:=X.env.kindOf x=some .globalImplicit
theorem sY{E:Value->Shared->Prop}{pins:List (Addr×Obj)}{s:Shared}{σ:St}{H:Hp}{x:Str}{u:Value}{pos:Pos}{Q:Value->Shared->Prop}(I:Inv X pins σ H s)(hg:Gl X x)(hm:X.mg x=some u)(h:Q u s)
  (hd:(x==("__debug__":Str))=false:=by decide):wpAny (model X.prog X.w) X.A (eval (.Name x pos) X.env) Q E s:=
 Calls.Name_function_global I.ok.kind hg (Calls.loadGlobal_global (by rw[I.ok.glob];exact I.mod.glob.keeps I.bk) hm h) hd
theorem ie{E:Value->Shared->Prop}{pins:List (Addr×Obj)}{s:Shared}{σ:St}{H:Hp}{x:Str}{u:Value}{pos:Pos}{Q:Value->Shared->Prop}(I:Inv X pins σ H s)(hg:Gl X x)(hm:X.mg x=none)(hv:bootBuiltins x=some u)(h:Q u s)
  (hn:x≠"__name__":=by decide)(hd:(x==("__debug__":Str))=false:=by decide):wpAny (model X.prog X.w) X.A (eval (.Name x pos) X.env) Q E s:=by
 obtain⟨mb,h1,h2⟩:=I.mod.blt
 exact Calls.Name_function_global I.ok.kind hg (Calls.loadGlobal_builtin (by rw[I.ok.glob];exact I.mod.glob.keeps I.bk) hm (by rw[I.ok.blt];exact h1.keeps I.bk) ((h2 x hn).trans hv) h) hd
theorem Gi{x:Str}{v:V}{u:Value}{pos:Pos}(hg:Gl X x)(hm:X.mg x=some u)(r:RelV v u)(hd:(x==("__debug__":Str))=false:=by decide):PE X (.Name x pos) (tC v):=
 λ_ _ _ H _ I h=>sY I hg hm ⟨v,H,I,r,h⟩ hd
theorem bU{x:Str}{v:V}{u:Value}{pos:Pos}(hg:Gl X x)(hm:X.mg x=none)(hv:bootBuiltins x=some u)(r:RelV v u)(hn:x≠"__name__":=by decide)(hd:(x==("__debug__":Str))=false:=by decide):PE X (.Name x pos) (tC v):=
 λ_ _ _ H _ I h=>ie I hg hm hv ⟨v,H,I,r,h⟩ hn hd
variable {a b:Expr} {ta tb:TE} {pos:Pos}
inductive WR(Q:Bool->Hp->Prop)(x:V)(H1:Hp):Prop
 |mk(c:_):(x=.bl c)->(Q c H1)->WR Q x H1
def tB(t:TE):TT:=λσ H Q=>t σ H λx H1=>WR Q x H1
theorem cY{e:Expr}{t:TE}(h:PE X e t)(he:∀whole,isTrue e X.env whole=(do let v ←whole;standAt e.pos;holding [v] (truthy v)):=by intro _;rfl):PT X e (tB t):=by
 intro pins s σ H Q I hw
 refine isTrue_plain (cW (h pins s σ H _ I hw) λv s1 ⟨x,H1,I1,r1,q1⟩=>?_) (he _)
 obtain⟨d,rfl,q⟩:=q1
 cases r1
 exact wpAny_truthy_bool ⟨H1,I1,q⟩
variable {tA Sl:TT} {rest:List Expr}
def NT(t u:TT):TT:=λσ H Q=>t σ H λc H1=>if c=true then u σ H1 Q else Q false H1
def Zp(t u:TT):TT:=λσ H Q=>t σ H λc H1=>if c=true then Q true H1 else u σ H1 Q
def Ud(t:TT):TT:=λσ H Q=>t σ H λc H1=>Q (!c) H1
theorem i_(ha:PT X a tA):PW X (.BoolOp .And [a] pos) tA:=by
 intro wh pins s σ H Q I h
 refine isTrue_and (cW (ha pins s σ H Q I h) λc s1 e=>?_)
 cases c with
 |true=>exact isTrue_and_nil e
 |false=>exact e
theorem sJ(ha:PT X a tA):PW X (.BoolOp .Or [a] pos) tA:=by
 intro wh pins s σ H Q I h
 refine isTrue_or (cW (ha pins s σ H Q I h) λc s1 e=>?_)
 cases c with
 |false=>exact isTrue_or_nil e
 |true=>exact e
theorem jI(ha:PT X a tA)(hb:PW X (.BoolOp .And (b::rest) pos) Sl):PW X (.BoolOp .And (a::b::rest) pos) (NT tA Sl):=by
 intro wh pins s σ H Q I h
 refine isTrue_and (cW (ha pins s σ H _ I h) λc s1 ⟨H1,I1,q1⟩=>?_)
 cases c with
 |true=>exact hb wh pins s1 σ H1 Q I1 q1
 |false=>exact⟨H1,I1,q1⟩
theorem yJ(ha:PT X a tA)(hb:PW X (.BoolOp .Or (b::rest) pos) Sl):PW X (.BoolOp .Or (a::b::rest) pos) (Zp tA Sl):=by
 intro wh pins s σ H Q I h
 refine isTrue_or (cW (ha pins s σ H _ I h) λc s1 ⟨H1,I1,q1⟩=>?_)
 cases c with
 |true=>exact⟨H1,I1,q1⟩
 |false=>exact hb wh pins s1 σ H1 Q I1 q1
theorem fJ(ha:PT X a tA):PT X (.UnaryOp .Not a pos) (Ud tA):=by
 intro pins s σ H Q I h
 exact isTrue_not (ha pins s σ H (λc H1=>Q (!c) H1) I h)
inductive BO(tb:TE)(σ:St)(Q:VK)(x:V)(H1:Hp):Prop
 |mk(c:_):(x=.bl c)->(if c=true then tb σ H1 Q else Q (.bl false) H1)->BO tb σ Q x H1
def NS(ta tb:TE):TE:=λσ H Q=>ta σ H λx H1=>BO tb σ Q x H1
inductive HU(tb:TE)(σ:St)(Q:VK)(x:V)(H1:Hp):Prop
 |mk(c:_):(x=.bl c)->(if c=true then Q (.bl true) H1 else tb σ H1 Q)->HU tb σ Q x H1
def Uc(ta tb:TE):TE:=λσ H Q=>ta σ H λx H1=>HU tb σ Q x H1
inductive BH(Q:VK)(x:V)(H1:Hp):Prop
 |mk(c:_):(x=.bl c)->(Q (.bl (!c)) H1)->BH Q x H1
def NQ(ta:TE):TE:=λσ H Q=>ta σ H λx H1=>BH Q x H1
theorem iM{op}{t:TE}(h:PE X a t):PE X (.BoolOp op [a] pos) t:=λpins s σ H Q I hw=>BoolOp_one (h pins s σ H Q I hw)
theorem iO(ha:PE X a ta)(hb:PE X (.BoolOp .And (b::rest) pos) tb):PE X (.BoolOp .And (a::b::rest) pos) (NS ta tb):=by
 intro pins s σ H Q I h
 refine BoolOp_and (cW (ha pins s σ H _ I h) λv s1 ⟨x,H1,I1,r1,q1⟩=>?_)
 obtain⟨c,rfl,q1⟩:=q1
 cases r1
 refine wpAny_truthy_bool ?_
 cases c with
 |true=>exact hb pins s1 σ H1 Q I1 q1
 |false=>exact⟨.bl false,H1,I1,rfl,q1⟩
theorem Ou(ha:PE X a ta)(hb:PE X (.BoolOp .Or (b::rest) pos) tb):PE X (.BoolOp .Or (a::b::rest) pos) (Uc ta tb):=by
 intro pins s σ H Q I h
 refine BoolOp_or (cW (ha pins s σ H _ I h) λv s1 ⟨x,H1,I1,r1,q1⟩=>?_)
 obtain⟨c,rfl,q1⟩:=q1
 cases r1
 refine wpAny_truthy_bool ?_
 cases c with
 |false=>exact hb pins s1 σ H1 Q I1 q1
 |true=>exact⟨.bl true,H1,I1,rfl,q1⟩
theorem CM(ha:PE X a ta):PE X (.UnaryOp .Not a pos) (NQ ta):=by
 intro pins s σ H Q I h
 refine UnaryOp_ (cW (ha pins s σ H _ I h) λv s1 ⟨x,H1,I1,r1,q1⟩=>?_)
 obtain⟨c,rfl,q1⟩:=q1
 cases r1
 exact not_of (wpAny_truthy_bool ⟨.bl (!c),H1,I1,rfl,q1⟩)
end
def bB(K:Fg7)(H:Hp)(a:Addr)(xs:List V):Prop:=
 Rd H a (.lst xs)\/
  ∃(o:Obj) (its:Array Value) (n:Nat),K.lookup a=some o/\o.cls=.type "list"/\o.dict=none/\o.data=.seq its n/\its.size<=sizeLine/\Vals xs its.toList
def bg(K:Fg7)(H:Hp)(a:Addr)(xs:List V):Prop:=
 Rd H a (.tup xs)\/
  ∃(o:Obj) (its:Array Value) (n:Nat),K.lookup a=some o/\o.cls=.type "tuple"/\o.data=.seq its n/\its.size<=sizeLine/\Vals xs its.toList
def WE:Value->Option V
 |.none=>some .dI
 |.bool b=>some (.bl b)
 |.int i _=>some (.int i)
 |.str x _=>some (.str x)
 |.bytes b _=>some (.Bk b)
 |.float b _=>some (.Me b)
 |.ref a=>some (.ref a)
 |.type n=>some (.ty n)
 |_=>none
theorem RelV.abs{x:V}{u:Value}(r:RelV x u):WE u=some x:=by
 cases x with
 |dI=>cases r;rfl
 |bl _=>cases r;rfl
 |int _=>obtain⟨t,rfl⟩:=r;rfl
 |str _=>obtain⟨t,rfl⟩:=r;rfl
 |Bk _=>obtain⟨t,rfl⟩:=r;rfl
 |Me _=>obtain⟨t,rfl⟩:=r;rfl
 |ref _=>cases r;rfl
 |ty _=>cases r;rfl
theorem RelV.inj{x y:V}{u:Value}(r:RelV x u)(q:RelV y u):x=y:=Option.some.inj (r.abs.symm.trans q.abs)
theorem Vals.inj:∀{xs ys:List V}{us:List Value},Vals xs us->Vals ys us->xs=ys
 |_,_,_,.nil,.nil=>rfl
 |_,_,_,.cons r t,.cons r' t'=>by rw[r.inj r',Vals.inj t t']
section
variable {X:Cx} {pins:List (Addr×Obj)} {σ:St} {H:Hp} {s:Shared} {a:Addr} {xs ys:List V}
theorem bB.of{K:Fg7}(h:H a=some (.lst xs)):bB K H a xs:=.inl (.inl h)
theorem bg.of{K:Fg7}(h:H a=some (.tup xs)):bg K H a xs:=.inl (.inl h)
theorem Inv.list(I:Inv X pins σ H s)(h:bB X.K H a xs):∃its:List Value,Vals xs its/\PlainL s.heap a its.toArray/\xs.length<=sizeLine:=by
 rcases h with h|⟨o,its,n,hk,hc,hd,hs,hz,r⟩
 ·obtain⟨z,its,n,r,e⟩:=h.ok I.hok
  exact⟨its,r,⟨_,n,e,rfl,rfl,rfl⟩,z⟩
 ·refine⟨its.toList,r,⟨o,n,I.lU a o hk,hc,hd,by simpa using hs⟩,?_⟩
  have e:=r.length
  simp only[Array.length_toList]at e
  lia
theorem Inv.tuple(I:Inv X pins σ H s)(h:bg X.K H a xs):∃its:List Value,Vals xs its/\IsTup s.heap a its.toArray/\xs.length<=sizeLine:=by
 rcases h with h|⟨o,its,n,hk,hc,hs,hz,r⟩
 ·obtain⟨z,its,r,p⟩:=h.ok I.hok
  exact⟨its,r,p,z⟩
 ·refine⟨its.toList,r,⟨o,I.lU a o hk,hc,n,by simpa using hs⟩,?_⟩
  have e:=r.length
  simp only[Array.length_toList]at e
  lia
theorem Inv.vq(I:Inv X pins σ H s)(h:bB X.K H a xs)(h':bB X.K H a ys):xs=ys:=by
 obtain⟨its,r,⟨o,n,e,_,_,d⟩,_⟩:=I.list h
 obtain⟨its',r',⟨o',n',e',_,_,d'⟩,_⟩:=I.list h'
 rw[e]at e';cases e'
 rw[d]at d'
 injection d' with d1 _
 have:its=its':=by simpa using congrArg Array.toList d1
 subst this
 exact r.inj r'
theorem Inv.qR(I:Inv X pins σ H s)(h:bg X.K H a xs)(h':bg X.K H a ys):xs=ys:=by
 obtain⟨its,r,⟨o,e,_,n,d⟩,_⟩:=I.tuple h
 obtain⟨its',r',⟨o',e',_,n',d'⟩,_⟩:=I.tuple h'
 rw[e]at e';cases e'
 rw[d]at d'
 injection d' with d1 _
 have:its=its':=by simpa using congrArg Array.toList d1
 subst this
 exact r.inj r'
end
abbrev Cx.pH(X:Cx)(E:Value->Shared->Prop):Cx:={X with xe:=E}
abbrev Cx.ER(X:Cx):Cx:=X.pH λ_ _=>False
theorem Cx.Ok.pH{X:Cx}(ok:X.Ok)(E:Value->Shared->Prop):(X.pH E).Ok:=
 ⟨ok.mod,ok.kind,ok.glob,ok.blt,ok.above,ok.inj,ok.has,ok.Nq,ok.hd,ok.frames,ok.stk,ok.Te,ok.bs,ok.Es,ok.z_,ok.AF,ok.ni,ok.JJ⟩
theorem Cx.Ok.iG{X:Cx}{E:Value->Shared->Prop}(ok:(X.pH E).Ok):X.Ok:=
 ⟨ok.mod,ok.kind,ok.glob,ok.blt,ok.above,ok.inj,ok.has,ok.Nq,ok.hd,ok.frames,ok.stk,ok.Te,ok.bs,ok.Es,ok.z_,ok.AF,ok.ni,ok.JJ⟩
section
variable {X:Cx} {pins:List (Addr×Obj)} {σ:St} {H:Hp} {s:Shared} {E:Value->Shared->Prop}
theorem Inv.pH(I:Inv X pins σ H s)(E:Value->Shared->Prop):Inv (X.pH E) pins σ H s:=⟨I.ok.pH E,I.os,I.bare,I.base,I.loc,I.cell,I.free,I.fO,I.pin,I.hok,I.len⟩
theorem Inv.iG(I:Inv (X.pH E) pins σ H s):Inv X pins σ H s:=⟨I.ok.iG,I.os,I.bare,I.base,I.loc,I.cell,I.free,I.fO,I.pin,I.hok,I.len⟩
theorem SP.iG{D:Ends}{f:Flow}{s':Shared}(h:SP (X.pH E) pins D f s'):SP X pins D f s':=by
 cases f with
 |next=>obtain⟨σ',H',I,q⟩:=h;exact⟨σ',H',I.iG,q⟩
 |brk=>obtain⟨σ',H',I,q⟩:=h;exact⟨σ',H',I.iG,q⟩
 |cont=>obtain⟨σ',H',I,q⟩:=h;exact⟨σ',H',I.iG,q⟩
 |ret u=>obtain⟨v,σ',H',I,r,q⟩:=h;exact⟨v,σ',H',I.iG,r,q⟩
theorem ug.ER{st:List Stmt}{t:TS}(h:ug X.ER st t):ug X st t:=λpins s σ H D I hw=>
 wpAny_mono (h pins s σ H D (I.pH _) hw) (λ_ _ q=>q.iG) λ_ _ z=>False.elim z
end
section
variable {X:Cx} {st:Stmt} {rest:List Stmt} {t u:TS} {e:Expr} {te:TE} {pos:Pos}
def pL:TS:=λD σ H=>D.nx σ H
def NO(t u:TS):TS:=λD σ H=>t {D with nx:=u D} σ H
theorem aN:ug X [] pL:=λ_ _ σ H _ I h=>wpAny_execs_nil ⟨σ,H,I,h⟩
theorem ao(h1:PS X st t)(h2:ug X rest u):ug X (st::rest) (NO t u):=by
 intro pins s σ H D I h
 refine wpAny_execs_cons (cW (h1 pins s σ H {D with nx:=u D} I h) λf s1 q=>?_)
 cases f with
 |next=>
  obtain⟨σ',H',I',q⟩:=q
  exact h2 pins s1 σ' H' D I' q
 |ret v=>exact q
 |brk=>exact q
 |cont=>exact q
theorem aA(h1:PS X st t):ug X [st] t:=by
 intro pins s σ H D I h
 refine wpAny_execs_cons (cW (h1 pins s σ H D I h) λf s1 q=>?_)
 cases f with
 |next=>exact wpAny_execs_nil q
 |ret v=>exact q
 |brk=>exact q
 |cont=>exact q
theorem Inv.quiet{pins:List (Addr×Obj)}{σ:St}{H:Hp}{s:Shared}(I:Inv X pins σ H s):interactive X.env=false:=by simp[interactive,I.ok.kind]
def HY(te:TE):TS:=λD σ H=>te σ H λ_ H1=>D.nx σ H1
theorem Ga(he:PE X e te)(hs:swapsWith e none pos.line X.env=pure false:=by rfl):PS X (.Expr e pos) (HY te):=by
 intro pins s σ H D I h
 exact wpAny_Expr_any (cW (he pins s σ H _ I h) λv s1 ⟨x,H1,I1,r1,q1⟩=>⟨σ,H1,I1,q1⟩) I.quiet hs
def Ub(te:TE):TS:=λD σ H=>te σ H D.rt
theorem aM(he:PE X e te):PS X (.Return (some e) pos) (Ub te):=by
 intro pins s σ H D I h
 exact wpAny_Return_some (cW (he pins s σ H _ I h) λv s1 ⟨x,H1,I1,r1,q1⟩=>⟨x,σ,H1,I1,r1,q1⟩)
def Uh(c:TT)(t u:TS):TS:=λD σ H=>c σ H λb H1=>if b=true then t D σ H1 else u D σ H1
theorem bN{c:Expr}{a b:List Stmt}{tc:TT}(hc:PT X c tc)(ha:ug X a t)(hb:ug X b u):PS X (.If c a b pos) (Uh tc t u):=by
 intro pins s σ H D I h
 refine wpAny_If (cW (hc pins s σ H _ I h) λd s1 ⟨H1,I1,q1⟩=>?_)
 cases d with
 |true=>exact ha pins s1 σ H1 D I1 q1
 |false=>exact hb pins s1 σ H1 D I1 q1
def JY:TS:=λ_ _ _=>False
theorem iI:PS X st JY:=λ_ _ _ _ _ _ h=>h.elim
end
abbrev TG:=V->St->Hp->(St->Hp->Prop)->Prop
abbrev EY:=List V->St->Hp->(St->Hp->Prop)->Prop
def PG(X:Cx)(target:Expr)(t:TG):Prop:=
 ∀(pins:List (Addr×Obj))(s:Shared)(σ:St)(H:Hp)(v:V)(u:Value)(Q:St->Hp->Prop),Inv X pins σ H s->RelV v u->t v σ H Q->
  wpAny (model X.prog X.w) X.A (assign target X.env u) (λ_ s'=>∃σ' H',Inv X pins σ' H' s'/\Q σ' H') X.xe s
def Nu(X:Cx)(ts:List Expr)(t:EY):Prop:=
 ∀(pins:List (Addr×Obj))(s:Shared)(σ:St)(H:Hp)(vs:List V)(us:List Value)(Q:St->Hp->Prop),Inv X pins σ H s->Vals vs us->t vs σ H Q->
  wpAny (model X.prog X.w) X.A (assignInOrder ((assignEach ts X.env).map (·.2)) us) (λ_ s'=>∃σ' H',Inv X pins σ' H' s'/\Q σ' H') X.xe s
abbrev gT:=V->V->V->Hp->(Hp->Prop)->Prop
def MM(X:Cx)(t:gT):Prop:=
 ∀(pins:List (Addr×Obj))(s:Shared)(σ:St)(H:Hp)(o i v:V)(ov iv u:Value)(Q:Hp->Prop),Inv X pins σ H s->RelV o ov->RelV i iv->RelV v u->t o i v H Q->
  wpAny (model X.prog X.w) X.A (setItem ov iv u) (λ_ s'=>∃H',Inv X pins σ H' s'/\Q H') X.xe s
section
variable {X:Cx} {pos:Pos}
def cO(i:Nat):TG:=λv σ H Q=>Q (σ.set i (some v)) H
theorem aU{i:Nat}{x:Str}(hN:X.N.Nodup)(hi:X.N[i]? = some x)(hx:Loc X.env.scope x)(hf:X.fn x=true\/X.env.scope.names.lookup x=some .local:=by first|exact .inl rfl|exact .inr rfl|assumption):PG X (.Name x pos) (cO i):=by
 intro pins s σ H v u Q I r h
 exact wpAny_assign_Name (uF I hN hi hx r (λs' I'=>⟨_,H,I',h⟩) hf)
def Wg:EY:=λvs σ H Q=>vs=[]/\Q σ H
inductive DX(t:TG)(u:EY)(vs:List V)(σ:St)(H:Hp)(Q:St->Hp->Prop):Prop
 |mk(v:_)(r:_):(vs=v::r)->(t v σ H λσ' H'=>u r σ' H' Q)->DX t u vs σ H Q
def Rk(t:TG)(u:EY):EY:=λvs σ H Q=>DX t u vs σ H Q
theorem Gd:Nu X [] Wg:=by
 intro pins s σ H vs us Q I r h
 obtain⟨e,h⟩:=h
 subst e
 cases r
 exact assignInOrder_nil ⟨σ,H,I,h⟩
theorem uV{e:Expr}{es:List Expr}{t:TG}{u:EY}(h1:PG X e t)(h2:Nu X es u)
  (hs:(assignEach (e::es) X.env).map (·.2)=assign e X.env::(assignEach es X.env).map (·.2):=by rfl):Nu X (e::es) (Rk t u):=by
 intro pins s σ H vs us Q I r h
 obtain⟨v,vr,e1,h⟩:=h
 subst e1
 cases r with
 |cons r rr=>
  rw[hs]
  refine assignInOrder_cons (cW (h1 pins s σ H _ _ _ I r h) λ_ s1 ⟨σ1,H1,I1,q1⟩=>?_)
  exact h2 pins s1 σ1 H1 _ _ Q I1 rr q1
inductive JI(K:Fg7)(n:Nat)(t:EY)(v:V)(σ:St)(H:Hp)(Q:St->Hp->Prop):Prop
 |mk(a:_)(xs:_):(v=.ref a)->(bg K H a xs)->(xs.length=n)->(t xs σ H Q)->JI K n t v σ H Q
def Rj(K:Fg7)(n:Nat)(t:EY):TG:=λv σ H Q=>JI K n t v σ H Q
theorem KA{es:List Expr}{k:Nat}{t:EY}{n:Nat}(hc:X.calm=true)(h:Nu X es t)
  (hn:(assignEach es X.env).length=n:=by rfl)(hst:(assignEach es X.env).findIdx? (·.1)=none:=by rfl):PG X (.Tuple es k pos) (Rj X.K n t):=by
 intro pins s σ H v u Q I r hw
 obtain⟨a,xs,e1,hq,hl,hw⟩:=hw
 subst e1
 cases r
 obtain⟨its,rv,ht,hz⟩:=I.tuple hq
 refine assign_Tuple_tuple (I.ok.hd hc) ht (by simp[hn,←hl,rv.length]) hst λh' hx=>?_
 have I1:Inv X pins σ H {s with heap:=h'}:=I.kept (t':=s.toks) λb o e=>hx b o (Nat.ne_of_lt (Heap.lt_size e)) e
 exact h pins _ σ H xs _ Q I1 (by simpa using rv) hw
def Wf(to ti:TE)(t:gT):TG:=λv σ H Q=>to σ H λo H1=>ti σ H1 λi H2=>t o i v H2 λH3=>Q σ H3
theorem KC{o i:Expr}{to ti:TE}{t:gT}(ho:PE X o to)(hi:PE X i ti)(hs:MM X t)
  (ha:∀v,assign (.Subscript o i pos) X.env v=(do
   let ov ←holding [v] (eval o X.env)
   let iv ←holding [v,ov] (eval i X.env)
   standAt pos
   holding [v,ov,iv] (setItem ov iv v)
   release [v,ov,iv] []):=by intro _;rfl):PG X (.Subscript o i pos) (Wf to ti t):=by
 intro pins s σ H v u Q I r h
 rw[ha]
 refine wpAny_bind (wpAny_holding (cW (ho pins s σ H _ I h) λov s1 ⟨x,H1,I1,r1,q1⟩=>?_))
 refine wpAny_bind (wpAny_holding (cW (hi pins s1 σ H1 _ I1 q1) λiv s2 ⟨y,H2,I2,r2,q2⟩=>?_))
 refine wpAny_bind (wpAny_standAt (wpAny_bind (wpAny_holding (cW (hs pins s2 σ H2 x y v ov iv u _ I2 r1 r2 r q2) λ_ s3 ⟨H3,I3,q3⟩=>?_))))
 exact wpAny_release ⟨σ,H3,I3,q3⟩
def BN(te:TE)(g:TG):TS:=λD σ H=>te σ H λx H1=>g x σ H1 D.nx
theorem Ku{tg e:Expr}{te:TE}{g:TG}(he:PE X e te)(hg:PG X tg g)(hs:swapsWithSole [tg] e pos.line X.env=pure false:=by rfl)(hw:swappedStores [tg] e X.env=pure none:=by rfl)
  (h1:(assignEach [tg] X.env).map (·.2)=[assign tg X.env]:=by rfl):PS X (.Assign [tg] e pos) (BN te g):=by
 intro pins s σ H D I h
 refine wpAny_Assign_stores (cW (he pins s σ H _ I h) λv s1 ⟨x,H1,I1,r1,q1⟩=>?_) hs hw
 rw[h1]
 exact cW (hg pins s1 σ H1 x v _ I1 r1 q1) λ_ s2 q=>q
theorem CJ{i:Nat}{x:Str}{e:Expr}{te:TE}{pos':Pos}(hN:X.N.Nodup)(hi:X.N[i]? = some x)(hx:Loc X.env.scope x)(he:PE X e te)(hs:swapsWith e (some (.Name x pos')) pos.line X.env=pure false:=by rfl)(hf:X.fn x=true\/X.env.scope.names.lookup x=some .local:=by first|exact .inl rfl|exact .inr rfl|assumption):
  PS X (.Assign [.Name x pos'] e pos) (BN te (cO i)):=by
 intro pins s σ H D I h
 refine wpAny_Assign_Name (cW (he pins s σ H _ I h) λv s1 ⟨y,H1,I1,r1,q1⟩=>?_) hs
 exact uF I1 hN hi hx r1 (λs2 I2=>⟨_,H1,I2,q1⟩) hf
end
section
variable {X:Cx} {pos:Pos}
end
structure It where
 go:Nat->Hp->Prop
 Bp:Nat->Hp->V->Hp->Prop
 stop:Nat->Hp->Prop
def fq(X:Cx)(pins:List (Addr×Obj))(H:Hp)(b:Addr):Prop:=
 H b=none/\b≠X.env.locals/\b∉X.fs/\(b∈X.ex\/X.s₀.heap.objs.size<=b)/\(∀x c,X.env.cells.lookup x=some c->c≠b)/\∀p∈X.pn++pins,p.1≠b
theorem Inv.qf{X:Cx}{pins:List (Addr×Obj)}{σ:St}{H H':Hp}{s:Shared}{b:Addr}(I:Inv X pins σ H s)(hb:s.heap.objs.size<=b)(hn:H' b=none):fq X pins H' b:=by
 refine⟨hn,Nat.ne_of_gt (Nat.lt_of_lt_of_le I.lt hb),I.UJ hb,.inr (Nat.le_trans I.sz hb),λx c e z=>?_,λp hp z=>?_⟩
 ·obtain⟨v,q⟩:=I.cell x c e
  exact absurd (Nat.lt_of_lt_of_le q.lt (by rw[z];exact hb)) (Nat.lt_irrefl _)
 ·exact absurd (Nat.lt_of_lt_of_le (Heap.lt_size (I.pin p hp).1) (by rw[z];exact hb)) (Nat.lt_irrefl _)
structure Turn(P:Program)(w:World)(K:Fg7)(tg:Expr)(J:It)(fp:List Addr)(it:Addr)(tn:Nat->Heap->Prop):Prop where
 mem:it∈fp
 obj:∀i h,tn i h->∀b∈fp,∃o,h.get? b=some o/\∀v,o.data≠.cell v
 keep:∀i h h',tn i h->(∀b∈fp,∀o,h.get? b=some o->h'.get? b=some o)->tn i h'
 item:∀(X:Cx),X.prog=P->X.w=w->X.K=K->X.calm=true->∀(i:Nat)(pins:List (Addr×Obj))(s:Shared)(σ:St)(H:Hp)(E:Value->Shared->Prop),Inv X pins σ H s->(∀b∈fp,fq X pins H b)->tn i s.heap->J.go i H->
  wpAny (model P w) X.A (pyNext (.ref it)) (λr s1=>∃u,r=some u/\
   wpAny (model P w) X.A (letOwnedTupleGo tg (.ref it) u) (λ_ s2=>∃x H',Inv X pins σ H' s2/\RelV x u/\J.Bp i H x H'/\tn (i+1) s2.heap/\∀b∈fp,H' b=none) E s1) E s
 done:∀(X:Cx),X.prog=P->X.w=w->X.K=K->X.calm=true->∀(i:Nat)(pins:List (Addr×Obj))(s:Shared)(σ:St)(H:Hp)(E:Value->Shared->Prop),Inv X pins σ H s->(∀b∈fp,fq X pins H b)->tn i s.heap->J.stop i H->
  wpAny (model P w) X.A (pyNext (.ref it)) (λr s1=>r=none/\Inv X pins σ H s1) E s
 self:∀(A:Around)(i:Nat)(s:Shared)(Q:Value->Shared->Prop)(E:Value->Shared->Prop),tn i s.heap->Q (.ref it) s->wpAny (model P w) A (pyIter (.ref it)) Q E s
abbrev TI:=St->Hp->(It->Hp->Prop)->Prop
inductive Tj(X:Cx)(pins:List (Addr×Obj))(σ:St)(tg:Expr)(R:It->Hp->Prop)(itv:Value)(s2:Shared):Prop
 |mk(it:Addr)(fp:List Addr)(tn:Nat->Heap->Prop)(J:It)(H':Hp):(itv=.ref it)->(Inv X pins σ H' s2)->(Turn X.prog X.w X.K tg J fp it tn)->(tn 0 s2.heap)->((∀b∈fp,fq X pins H' b))->(R J H')->Tj X pins σ tg R itv s2
def PI(X:Cx)(tg iter:Expr)(wi:TI):Prop:=
 ∀(pins:List (Addr×Obj))(s:Shared)(σ:St)(H:Hp)(R:It->Hp->Prop),Inv X pins σ H s->wi σ H R->
  wpAny (model X.prog X.w) X.A (eval iter X.env) (λv s1=>wpAny (model X.prog X.w) X.A (pyIter v) (Tj X pins σ tg R) X.xe s1) X.xe s
theorem rG{M:Model}{A:Around}{E:Value->Shared->Prop}{s:Shared}{tg:Expr}{it:Addr}{u:Value}{o:Obj}{n:String}{vs:Array Value}{Q:Unit->Shared->Prop}(ho:s.heap.get? it=some o)(hc:o.cls=.type n)(hd:o.data=.fields vs)
    (hn:["enumerate","zip","dict_itemiterator","dict_reverseitemiterator","odict_iterator","itertools.zip_longest","itertools.pairwise"].contains n=false)(hQ:Q () s):wpAny M A (letOwnedTupleGo tg (.ref it) u) Q E s:=by
  unfold letOwnedTupleGo
  cases tg<;>first
    |exact wpAny_pure hQ
    |(cases u<;>first
        |exact wpAny_pure hQ
        |(refine wpAny_bind (wpAny_load ho ?_)
          rw[hc,hd]
          show wpAny M A (if(["enumerate","zip","dict_itemiterator","dict_reverseitemiterator","odict_iterator","itertools.zip_longest","itertools.pairwise"].contains n&&vs[0]? == some (rawInt _))=true then _ else _) Q E s
          rw[if_neg (by intro h;rw[hn,Bool.false_and]at h;cases h)]
          exact wpAny_pure hQ))
def HF(K:Fg7)(a:Addr):It:=
 ⟨λi H=>∃xs x,bB K H a xs/\xs[i]? = some x,λi H x H'=>H'=H/\∀xs,bB K H a xs->xs[i]? = some x,λi H=>∃xs,bB K H a xs/\xs.length<=i⟩
def RX(K:Fg7)(a:Addr):It:=
 ⟨λi H=>∃xs x,bg K H a xs/\xs[i]? = some x,λi H x H'=>H'=H/\∀xs,bg K H a xs->xs[i]? = some x,λi H=>∃xs,bg K H a xs/\xs.length<=i⟩
def Nv(lo:Int)(n:Nat):It:=⟨λi _=>i<n,λi H x H'=>H'=H/\x=.int (lo+i),λi _=>n<=i⟩
theorem zC{P:Program}{w:World}{K:Fg7}{tg:Expr}(a it:Addr):Turn P w K tg (HF K a) [it] it (λi h=>h.IsListIter it a i)where
 mem:=by simp
 obj:=λi h st b hb=>by
  have e:b=it:=by simpa using hb
  subst e
  obtain⟨o,e,c,d⟩:=st
  exact⟨o,e,λv z=>by rw[d]at z;cases z⟩
 keep:=λi h h' st k=>st.at λo e=>k it (by simp) o e
 item:=by
  intro X hP hw hK hc i pins s σ H E I hf st hg
  subst hP hw hK
  obtain⟨xs,x,hq,hx⟩:=hg
  obtain⟨its,rv,p,hz⟩:=I.list hq
  obtain⟨u,hu,ru⟩:=rv.get hx
  obtain⟨f0,f1,f2,f3,f4,f5⟩:=hf it (by simp)
  refine wpAny_pyNext_list_item st p.isList (x:=u) (by simpa using hu) λh' st' sb=>?_
  have I1:Inv X pins σ H {s with heap:=h'}:=I.turned (t':=s.toks) (λb o hb e=>(sb.2 b hb).trans e) f0 f1 f3 f4 f5
  obtain⟨o,e,c,d⟩:=id st'
  exact⟨u,rfl,rG (s:={s with heap:=h'}) e c d (by decide) ⟨x,H,I1,ru,⟨rfl,λys hy=>by rw[I.vq hy hq];exact hx⟩,st',λb hb=>(hf b hb).1⟩⟩
 done:=by
  intro X hP hw hK hc i pins s σ H E I hf st hg
  subst hP hw hK
  obtain⟨xs,hq,hx⟩:=hg
  obtain⟨its,rv,p,hz⟩:=I.list hq
  obtain⟨f0,f1,f2,f3,f4,f5⟩:=hf it (by simp)
  have hl:=rv.length
  exact wpAny_pyNext_list_end (I.ok.hd hc) st p.isList (by simp;lia) λh' eb=>⟨rfl,I.turned (t':=s.toks) (λb o hb e=>eb b o hb e) f0 f1 f3 f4 f5⟩
 self:=λ_ _ _ _ _ st h=>wpAny_pyIter_listiter st h
theorem wg{P:Program}{w:World}{K:Fg7}{tg:Expr}(a it:Addr):Turn P w K tg (RX K a) [it] it (λi h=>h.IsTupleIter it a i)where
 mem:=by simp
 obj:=λi h st b hb=>by
  have e:b=it:=by simpa using hb
  subst e
  obtain⟨o,e,c,d⟩:=st
  exact⟨o,e,λv z=>by rw[d]at z;cases z⟩
 keep:=λi h h' st k=>st.at λo e=>k it (by simp) o e
 item:=by
  intro X hP hw hK hc i pins s σ H E I hf st hg
  subst hP hw hK
  obtain⟨xs,x,hq,hx⟩:=hg
  obtain⟨its,rv,p,hz⟩:=I.tuple hq
  obtain⟨u,hu,ru⟩:=rv.get hx
  obtain⟨f0,f1,f2,f3,f4,f5⟩:=hf it (by simp)
  refine wpAny_pyNext_tuple_item st (show s.heap.IsTuple a its.toArray from p) (x:=u) (by simpa using hu) λh' st' sb=>?_
  have I1:Inv X pins σ H {s with heap:=h'}:=I.turned (t':=s.toks) (λb o hb e=>(sb.2 b hb).trans e) f0 f1 f3 f4 f5
  obtain⟨o,e,c,d⟩:=id st'
  exact⟨u,rfl,rG (s:={s with heap:=h'}) e c d (by decide) ⟨x,H,I1,ru,⟨rfl,λys hy=>by rw[I.qR hy hq];exact hx⟩,st',λb hb=>(hf b hb).1⟩⟩
 done:=by
  intro X hP hw hK hc i pins s σ H E I hf st hg
  subst hP hw hK
  obtain⟨xs,hq,hx⟩:=hg
  obtain⟨its,rv,p,hz⟩:=I.tuple hq
  obtain⟨f0,f1,f2,f3,f4,f5⟩:=hf it (by simp)
  have hl:=rv.length
  exact wpAny_pyNext_tuple_end (I.ok.hd hc) st (show s.heap.IsTuple a its.toArray from p) (by simp;lia) λh' eb=>⟨rfl,I.turned (t':=s.toks) (λb o hb e=>eb b o hb e) f0 f1 f3 f4 f5⟩
 self:=λ_ _ _ _ _ st h=>wpAny_pyIter_tupleiter st h
theorem wj{P:Program}{w:World}{K:Fg7}{tg:Expr}(it:Addr)(lo:Int)(n:Nat):Turn P w K tg (Nv lo n) [it] it (λi h=>IsRangeIter h it (lo+(i:Nat)*1) ((n:Int)-(i:Nat)) 1)where
 mem:=by simp
 obj:=λi h st b hb=>by
  have e:b=it:=by simpa using hb
  subst e
  exact⟨_,st,λv z=>by
   have z':Data.fields _=Data.cell v:=z
   cases z'⟩
 keep:=λi h h' st k=>k it (by simp) _ st
 item:=by
  intro X hP hw hK hc i pins s σ H E I hf st hg
  subst hP hw hK
  obtain⟨f0,f1,f2,f3,f4,f5⟩:=hf it (by simp)
  have W:=Walks.range (prog:=X.prog) (w:=X.w) (I.ok.hd hc) it lo 1 n
  refine W.item i s _ _ hg st λv h' tk hv st' kk=>?_
  obtain⟨t,rfl⟩:=hv
  have I1:Inv X pins σ H {s with heap:=h',toks:=tk}:=I.turned (λb o hb e=>kk b o (by simpa using hb) e) f0 f1 f3 f4 f5
  refine⟨_,rfl,rG (s:={s with heap:=h',toks:=tk}) (n:="range_iterator") st' rfl rfl (by decide) ⟨.int (lo+i),H,I1,⟨t,?_⟩,⟨rfl,rfl⟩,st',λb hb=>(hf b hb).1⟩⟩
  rw[Int.mul_one]
 done:=by
  intro X hP hw hK hc i pins s σ H E I hf st hg
  subst hP hw hK
  obtain⟨f0,f1,f2,f3,f4,f5⟩:=hf it (by simp)
  exact wpAny_pyNext_range_end (I.ok.hd hc) st (by have:n<=i:=hg;lia) λh' eb=>⟨rfl,I.turned (t':=s.toks) (λb o hb e=>eb b o hb e) f0 f1 f3 f4 f5⟩
 self:=λ_ _ _ _ _ st h=>wpAny_pyIter_rangeiter st h
section
variable {X:Cx} {tg:Expr}
inductive DH(K:Fg7)(R:It->Hp->Prop)(x:V)(H1:Hp):Prop
 |mk(a:_):(x=.ref a)->((∃xs,bB K H1 a xs))->(R (HF K a) H1)->DH K R x H1
def PK(K:Fg7)(tl:TE):TI:=λσ H R=>tl σ H λx H1=>DH K R x H1
inductive Ja(K:Fg7)(R:It->Hp->Prop)(x:V)(H1:Hp):Prop
 |mk(a:_):(x=.ref a)->((∃xs,bg K H1 a xs))->(R (RX K a) H1)->Ja K R x H1
def Vo(K:Fg7)(tl:TE):TI:=λσ H R=>tl σ H λx H1=>Ja K R x H1
theorem bw{l:Expr}{tl:TE}(hl:PE X l tl):PI X tg l (PK X.K tl):=by
 intro pins s σ H R I h
 refine cW (hl pins s σ H _ I h) λv s1 ⟨x,H1,I1,r1,q1⟩=>?_
 obtain⟨a,e,⟨xs,hq⟩,q⟩:=q1
 subst e
 cases r1
 obtain⟨its,rv,p,hz⟩:=I1.list hq
 refine wpAny_pyIter_list p.isList ?_
 refine⟨s1.heap.objs.size,[s1.heap.objs.size],_,_,H1,rfl,I1.kept (t':=s1.toks) λb o e=>Heap.get?_push_of_some _ e,zC a _,⟨_,Heap.get?_push_size _ rfl,rfl,rfl⟩,λb hb=>?_,q⟩
 have e:b=s1.heap.objs.size:=by simpa using hb
 subst e
 exact I1.qf (Nat.le_refl _) (I1.hok.fresh (Nat.le_refl _))
theorem Kz{l:Expr}{tl:TE}(hl:PE X l tl):PI X tg l (Vo X.K tl):=by
 intro pins s σ H R I h
 refine cW (hl pins s σ H _ I h) λv s1 ⟨x,H1,I1,r1,q1⟩=>?_
 obtain⟨a,e,⟨xs,hq⟩,q⟩:=q1
 subst e
 cases r1
 obtain⟨its,rv,p,hz⟩:=I1.tuple hq
 refine wpAny_pyIter_tuple (show s1.heap.IsTuple a its.toArray from p) ?_
 refine⟨s1.heap.objs.size,[s1.heap.objs.size],_,_,H1,rfl,I1.kept (t':=s1.toks) λb o e=>Heap.get?_push_of_some _ e,wg a _,⟨_,Heap.get?_push_size _ rfl,rfl,rfl⟩,λb hb=>?_,q⟩
 have e:b=s1.heap.objs.size:=by simpa using hb
 subst e
 exact I1.qf (Nat.le_refl _) (I1.hok.fresh (Nat.le_refl _))
theorem CD{pins:List (Addr×Obj)}{σ:St}{H:Hp}{s:Shared}{R:It->Hp->Prop}{E:Value->Shared->Prop}{lo hi:Int}{t u v:Tok}{tk:Nat}(I:Inv X pins σ H s)(h1: -(2^62)<=lo)(h2:lo<2^62)(h3: -(2^62)<=hi)(h4:hi<2^62)
  (q:R (Nv lo (hi-lo).toNat) H):wpAny (model X.prog X.w) X.A (pyIter (.ref s.heap.objs.size)) (Tj X pins σ tg R) E {s with heap:=s.heap.push {cls:=.type "range",data:=.fields #[.int lo t,.int hi u,.int 1 v]},toks:=tk}:=by
 refine wpAny_pyIter_range (IsRange.new ..) (small_one h1 h2 h3 h4) ?_
 have I1:Inv X pins σ H {s with heap:=s.heap.push {cls:=.type "range",data:=.fields #[.int lo t,.int hi u,.int 1 v]},toks:=tk}:=I.kept λb o e=>Heap.get?_push_of_some _ e
 refine⟨(s.heap.push {cls:=.type "range",data:=.fields #[.int lo t,.int hi u,.int 1 v]}).objs.size,[(s.heap.push {cls:=.type "range",data:=.fields #[.int lo t,.int hi u,.int 1 v]}).objs.size],_,_,H,rfl,
  I1.kept (t':=tk) λb o e=>Heap.get?_push_of_some _ e,wj _ lo (hi-lo).toNat,?_,λb hb=>?_,q⟩
 ·have e1:lo+((0:Nat):Int)*1=lo:=by simp
  have e2:(((hi-lo).toNat:Nat):Int)-((0:Nat):Int)=Builtin.Range.rangeSize lo hi 1:=by rw[rangeSize_one];split<;>lia
  show IsRangeIter _ _ (lo+((0:Nat):Int)*1) ((((hi-lo).toNat:Nat):Int)-((0:Nat):Int)) 1
  rw[e1,e2]
  exact Heap.get?_push_size _ rfl
 ·have e:b=(s.heap.push {cls:=.type "range",data:=.fields #[.int lo t,.int hi u,.int 1 v]}).objs.size:=by simpa using hb
  subst e
  exact I1.qf (Nat.le_refl _) (I1.hok.fresh (Nat.le_refl _))
inductive DG(R:It->Hp->Prop)(vs:List V)(H1:Hp):Prop
 |mk(j:Int):(vs=[.int j])->(-(2^62)<=j)->(j<2^62)->(R (Nv 0 j.toNat) H1)->DG R vs H1
def PJ(ta:TA):TI:=λσ H R=>ta σ H λvs H1=>DG R vs H1
theorem zU{a:Expr}{ta:TA}{p pos:Pos}(hg:Gl X "range")(hm:X.mg "range"=none)(ha:PA X [a] ta)(hs:starEach [a] X.env=[(false,eval a X.env)]:=by rfl):PI X tg (.Call (.Name "range" p) [a] [] pos) (PJ ta):=by
 intro pins s σ H R I h
 refine Call_ (ie I hg hm boot_range (PyProof.Rows.callWith_type1 (cW (ha pos pins s σ H _ I h) λus s1 ⟨vs,H1,I1,r1,q1⟩=>?_) hs rfl))
 obtain⟨j,e,q1,q2,q⟩:=q1
 subst e
 cases r1 with
 |cons r rr=>
  cases rr
  obtain⟨t,rfl⟩:=r
  exact call_range_1 (CD I1 LI LI q1 q2 (by simpa using q))
def Ui(wi:TI)(g:TG)(tb:TS):TS:=λD σ H=>wi σ H λJ H1=>∃W:Nat->Nat->St->Hp->Prop,(∃m,W 0 m σ H1)/\∀i m σ H,W i m σ H->
 (J.stop i H/\D.nx σ H)\/(J.go i H/\∃N:St->Hp->Prop,(∀σ' H',N σ' H'->∃m',m'<m/\W (i+1) m' σ' H')/\∀x H',J.Bp i H x H'->g x σ H' λσ2 H2=>tb {D with nx:=N,ct:=N,bk:=D.nx} σ2 H2)
def jJ(fp:List Addr)(h:Heap):List (Addr×Obj):=fp.filterMap λb=>(h.get? b).map λo=>(b,o)
theorem fj{fp:List Addr}{h:Heap}{b:Addr}{o:Obj}(hb:b∈fp)(e:h.get? b=some o):(b,o)∈jJ fp h:=List.mem_filterMap.mpr ⟨b,hb,by rw[e];rfl⟩
theorem zZ{fp:List Addr}{h:Heap}{p:Addr×Obj}(hp:p∈jJ fp h):p.1∈fp/\h.get? p.1=some p.2:=by
 obtain⟨b,hb,e⟩:=List.mem_filterMap.mp hp
 cases q:h.get? b with
 |none=>rw[q]at e;cases e
 |some o=>
  rw[q]at e
  have e':(b,o)=p:=Option.some.inj e
  subst e'
  exact⟨hb,q⟩
theorem Inv.pinned{pins:List (Addr×Obj)}{σ:St}{H:Hp}{s:Shared}{fp:List Addr}(I:Inv X pins σ H s)(hf:∀b∈fp,fq X pins H b)(ho:∀b∈fp,∃o,s.heap.get? b=some o/\∀v,o.data≠.cell v):Inv X (pins++jJ fp s.heap) σ H s:=
 I.yL λp hp=>(List.mem_append.mp hp).elim (λz=>I.pin p (List.mem_append_right _ z)) λz=>by
  obtain⟨hb,e⟩:=zZ z
  obtain⟨f0,f1,f2,_⟩:=hf p.1 hb
  obtain⟨o,e',d⟩:=ho p.1 hb
  rw[e]at e';cases e'
  exact⟨e,f0,f1,f2,d⟩
theorem Inv.gJ{pins pl:List (Addr×Obj)}{σ:St}{H:Hp}{s:Shared}(I:Inv X (pins++pl) σ H s):Inv X pins σ H s:=I.yL λp hp=>I.pin p (List.mem_append_right _ (List.mem_append_left _ hp))
theorem fh{iter:Expr}{body:List Stmt}{wi:TI}{g:TG}{tb:TS}{pos:Pos}(hp:PassesOwn (model X.prog X.w) X.A X.env X.xe)(hc:X.calm=true)(hi:PI X tg iter wi)(hg:PG X tg g)(hb:ug X body tb)
  (hs:∀x,foldedSetIterable iter X.env x=pure x:=by intro _;rfl):PS X (.For tg iter body [] pos) (Ui wi g tb):=by
 intro pins s σ H D I h
 refine wpAny_For (cW (hi pins s σ H _ I h) λv s1 h1=>cW h1 λitv s2 h2=>?_) hs
 obtain⟨it,fp,tn,J,H2,e,I2,T,st2,f2,W,⟨m0,w0⟩,turn⟩:=h2
 subst e
 have wu:∀{H':Hp},(∀b∈fp,H' b=none)->∀b∈fp,fq X pins H' b:=λhn b hb=>⟨hn b hb,(f2 b hb).2⟩
 refine codeAny_forLoop_any (λn s'=>∃i σ' H',Inv X pins σ' H' s'/\tn i s'.heap/\(∀b∈fp,H' b=none)/\W i n σ' H') ?_ m0 ⟨0,σ,H2,I2,st2,λb hb=>(f2 b hb).1,w0⟩
 rintro n s3 ⟨i,σ3,H3,I3,st3,YA,w3⟩
 rcases turn i n σ3 H3 w3 with⟨stop,qn⟩|⟨go,N,hN,step⟩
 ·refine wpAny_passesOwn hp (cW (T.done X rfl rfl rfl hc i pins s3 σ3 H3 X.xe I3 (wu YA) st3 stop) λr s4 ⟨hr,I4⟩=>?_)
  subst hr
  exact wpAny_execs_nil ⟨σ3,H3,I4,qn⟩
 ·refine wpAny_passesOwn hp (cW (T.item X rfl rfl rfl hc i pins s3 σ3 H3 X.xe I3 (wu YA) st3 go) λr s4 ⟨u,hr,h4⟩=>?_)
  subst hr
  refine wpAny_passesOwn hp (cW h4 λ_ s5 ⟨x,H5,I5,r5,y5,MR,Td⟩=>?_)
  have I5':=I5.pinned (wu Td) (T.obj _ _ MR)
  refine wpAny_passesOwn hp (cW (hg _ s5 σ3 H5 x u _ I5' r5 (step x H5 y5)) λ_ s6 ⟨σ6,H6,I6,q6⟩=>?_)
  refine wpAny_passesOwn hp (cW (hb _ s6 σ6 H6 _ I6 q6) λf s7 q7=>?_)
  have again:∀{σ7:St}{H7:Hp},Inv X (pins++jJ fp s5.heap) σ7 H7 s7->N σ7 H7->∃m,m<n/\∃i σ' H',Inv X pins σ' H' s7/\tn i s7.heap/\(∀b∈fp,H' b=none)/\W i m σ' H':=λ{σ7 H7} I7 n7=>by
   obtain⟨m',hm,w7⟩:=hN σ7 H7 n7
   refine⟨m',hm,i+1,σ7,H7,I7.gJ,T.keep _ _ _ MR λb hb o e=>(I7.pin (b,o) (List.mem_append_right _ (List.mem_append_right _ (fj hb e)))).1,λb hb=>?_,w7⟩
   obtain⟨o,e,d⟩:=T.obj _ _ MR b hb
   exact(I7.pin (b,o) (List.mem_append_right _ (List.mem_append_right _ (fj hb e)))).2.1
  cases f with
  |next=>obtain⟨σ7,H7,I7,n7⟩:=q7;exact again I7 n7
  |cont=>obtain⟨σ7,H7,I7,n7⟩:=q7;exact again I7 n7
  |brk=>obtain⟨σ7,H7,I7,q7⟩:=q7;exact⟨σ7,H7,I7.gJ,q7⟩
  |ret v=>obtain⟨x7,σ7,H7,I7,r7,q7⟩:=q7;exact⟨x7,σ7,H7,I7.gJ,r7,q7⟩
end
theorem dQ{K:Fg7}{a:Addr}{xs:List V}{g:TG}{tb:TS}{D:Ends}{σ:St}{H:Hp}(Pv:Nat->St->Hp->Prop)(h0:Pv 0 σ H)(hl:∀i σ H,i<=xs.length->Pv i σ H->bB K H a xs)
  (hs:∀i x σ H,xs[i]? = some x->Pv i σ H->g x σ H λσ2 H2=>tb {D with nx:=Pv (i+1),ct:=Pv (i+1),bk:=D.nx} σ2 H2)(hd:∀σ H,Pv xs.length σ H->D.nx σ H):
  ∃W:Nat->Nat->St->Hp->Prop,(∃m,W 0 m σ H)/\∀i m σ H,W i m σ H->
   ((HF K a).stop i H/\D.nx σ H)\/((HF K a).go i H/\∃N:St->Hp->Prop,(∀σ' H',N σ' H'->∃m',m'<m/\W (i+1) m' σ' H')/\∀x H',(HF K a).Bp i H x H'->g x σ H' λσ2 H2=>tb {D with nx:=N,ct:=N,bk:=D.nx} σ2 H2):=by
 refine⟨λi m σ H=>m=xs.length-i/\i<=xs.length/\Pv i σ H,⟨xs.length,by simp,Nat.zero_le _,h0⟩,?_⟩
 rintro i m σ H ⟨rfl,hi,p⟩
 have q:=hl i σ H hi p
 by_cases hlt:i<xs.length
 ·refine .inr ⟨⟨xs,xs[i],q,by simp[hlt]⟩,Pv (i+1),λσ' H' p'=>⟨xs.length-(i+1),by lia,rfl,hlt,p'⟩,λx H' y=>?_⟩
  obtain⟨e,y⟩:=y
  subst e
  exact hs i x σ _ (y xs q) p
 ·have e:i=xs.length:=by lia
  subst e
  exact .inl ⟨⟨xs,q,Nat.le_refl _⟩,hd σ H p⟩
theorem GY{K:Fg7}{a:Addr}{xs:List V}{g:TG}{tb:TS}{D:Ends}{σ:St}{H:Hp}(Pv:Nat->St->Hp->Prop)(h0:Pv 0 σ H)(hl:∀i σ H,i<=xs.length->Pv i σ H->bg K H a xs)
  (hs:∀i x σ H,xs[i]? = some x->Pv i σ H->g x σ H λσ2 H2=>tb {D with nx:=Pv (i+1),ct:=Pv (i+1),bk:=D.nx} σ2 H2)(hd:∀σ H,Pv xs.length σ H->D.nx σ H):
  ∃W:Nat->Nat->St->Hp->Prop,(∃m,W 0 m σ H)/\∀i m σ H,W i m σ H->
   ((RX K a).stop i H/\D.nx σ H)\/((RX K a).go i H/\∃N:St->Hp->Prop,(∀σ' H',N σ' H'->∃m',m'<m/\W (i+1) m' σ' H')/\∀x H',(RX K a).Bp i H x H'->g x σ H' λσ2 H2=>tb {D with nx:=N,ct:=N,bk:=D.nx} σ2 H2):=by
 refine⟨λi m σ H=>m=xs.length-i/\i<=xs.length/\Pv i σ H,⟨xs.length,by simp,Nat.zero_le _,h0⟩,?_⟩
 rintro i m σ H ⟨rfl,hi,p⟩
 have q:=hl i σ H hi p
 by_cases hlt:i<xs.length
 ·refine .inr ⟨⟨xs,xs[i],q,by simp[hlt]⟩,Pv (i+1),λσ' H' p'=>⟨xs.length-(i+1),by lia,rfl,hlt,p'⟩,λx H' y=>?_⟩
  obtain⟨e,y⟩:=y
  subst e
  exact hs i x σ _ (y xs q) p
 ·have e:i=xs.length:=by lia
  subst e
  exact .inl ⟨⟨xs,q,Nat.le_refl _⟩,hd σ H p⟩
theorem rH{lo:Int}{n:Nat}{g:TG}{tb:TS}{D:Ends}{σ:St}{H:Hp}(Pv:Nat->St->Hp->Prop)(h0:Pv 0 σ H)
  (hs:∀i σ H,i<n->Pv i σ H->g (.int (lo+i)) σ H λσ2 H2=>tb {D with nx:=Pv (i+1),ct:=Pv (i+1),bk:=D.nx} σ2 H2)(hd:∀σ H,Pv n σ H->D.nx σ H):
  ∃W:Nat->Nat->St->Hp->Prop,(∃m,W 0 m σ H)/\∀i m σ H,W i m σ H->
   ((Nv lo n).stop i H/\D.nx σ H)\/((Nv lo n).go i H/\∃N:St->Hp->Prop,(∀σ' H',N σ' H'->∃m',m'<m/\W (i+1) m' σ' H')/\∀x H',(Nv lo n).Bp i H x H'->g x σ H' λσ2 H2=>tb {D with nx:=N,ct:=N,bk:=D.nx} σ2 H2):=by
 refine⟨λi m σ H=>m=n-i/\i<=n/\Pv i σ H,⟨n,by simp,Nat.zero_le _,h0⟩,?_⟩
 rintro i m σ H ⟨rfl,hi,p⟩
 by_cases hlt:i<n
 ·refine .inr ⟨hlt,Pv (i+1),λσ' H' p'=>⟨n-(i+1),by lia,rfl,hlt,p'⟩,λx H' y=>?_⟩
  obtain⟨e,y⟩:=y
  subst e y
  exact hs i σ _ hlt p
 ·have e:i=n:=by lia
  subst e
  exact .inl ⟨Nat.le_refl _,hd σ H p⟩
abbrev R2:=V->V->Hp->VK->Prop
def iy(X:Cx)(f:Value->Value->Sem Value)(r:R2):Prop:=
 ∀(pins:List (Addr×Obj))(s:Shared)(σ:St)(H:Hp)(x y:V)(v u:Value)(Q:VK),Inv X pins σ H s->RelV x v->RelV y u->r x y H Q->
  wpAny (model X.prog X.w) X.A (f v u) (EP X pins σ Q) X.xe s
def JS(X:Cx)(f:Value->Sem Value)(r:V->Hp->VK->Prop):Prop:=
 ∀(pins:List (Addr×Obj))(s:Shared)(σ:St)(H:Hp)(x:V)(v:Value)(Q:VK),Inv X pins σ H s->RelV x v->r x H Q->
  wpAny (model X.prog X.w) X.A (f v) (EP X pins σ Q) X.xe s
def gZ(X:Cx)(f:Value)(r:List V->Hp->VK->Prop):Prop:=
 ∀(pins:List (Addr×Obj))(s:Shared)(σ:St)(H:Hp)(xs:List V)(us:List Value)(Q:VK),Inv X pins σ H s->Vals xs us->r xs H Q->
  wpAny (model X.prog X.w) X.A (call f us) (EP X pins σ Q) X.xe s
def MP(r:R2)(ta tb:TE):TE:=λσ H Q=>ta σ H λx H1=>tb σ H1 λy H2=>r x y H2 Q
def Zn(r:V->Hp->VK->Prop)(ta:TE):TE:=λσ H Q=>ta σ H λx H1=>r x H1 Q
inductive Xc(C:Int->Int->Prop)(g:Int->Int->V)(x:V)(y:V)(H:Hp)(Q:VK):Prop
 |mk(i:_)(j:_):(x=.int i)->(y=.int j)->(C i j)->(Q (g i j) H)->Xc C g x y H Q
def rI(C:Int->Int->Prop)(g:Int->Int->V):R2:=λx y H Q=>Xc C g x y H Q
inductive Oo(g:Int->Int->V)(x:V)(y:V)(H:Hp)(Q:VK):Prop
 |mk(i:_)(j:_):(x=.int i)->(y=.int j)->(Q (g i j) H)->Oo g x y H Q
def Kq(g:Int->Int->V):R2:=λx y H Q=>Oo g x y H Q
inductive Xb(g:Int->V)(x:V)(H:Hp)(Q:VK):Prop
 |mk(i:_):(x=.int i)->(Q (g i) H)->Xb g x H Q
def rU(g:Int->V):V->Hp->VK->Prop:=λx H Q=>Xb g x H Q
section
variable {X:Cx} {a b c:Expr} {ta tb tc:TE} {pos:Pos}
theorem MF(ha:PE X a ta)(hb:PE X b tb){pins:List (Addr×Obj)}{s:Shared}{σ:St}{H:Hp}{R:V->V->Hp->Prop}(I:Inv X pins σ H s)
  (h:ta σ H λx H1=>tb σ H1 λy H2=>R x y H2){Q:Value->Shared->Prop}{f:Value->Value->Sem Value}
  (hf:∀v u s2 x y H2,Inv X pins σ H2 s2->RelV x v->RelV y u->R x y H2->wpAny (model X.prog X.w) X.A (f v u) Q X.xe s2):
  wpAny (model X.prog X.w) X.A (eval a X.env) (λv s₁=>wpAny (model X.prog X.w) X.A (eval b X.env) (λu s₂=>wpAny (model X.prog X.w) X.A (f v u) Q X.xe s₂) X.xe s₁) X.xe s:=by
 refine cW (ha pins s σ H _ I h) λv s1 ⟨x,H1,I1,r1,q1⟩=>?_
 refine cW (hb pins s1 σ H1 _ I1 q1) λu s2 ⟨y,H2,I2,r2,q2⟩=>?_
 exact hf v u s2 x y H2 I2 r1 r2 q2
theorem aC{op:Operator}{r:R2}(ho:iy X (binaryOp op) r)(ha:PE X a ta)(hb:PE X b tb):PE X (.BinOp a op b pos) (MP r ta tb):=by
 intro pins s σ H Q I h
 exact wpAny_BinOp (MF ha hb I h λv u s2 x y H2 I2 rx ry q=>ho pins s2 σ H2 x y v u Q I2 rx ry q)
theorem nR{op:UnaryOp}{r:V->Hp->VK->Prop}(ho:JS X (unaryOp op) r)(ha:PE X a ta):PE X (.UnaryOp op a pos) (Zn r ta):=by
 intro pins s σ H Q I h
 exact UnaryOp_ (cW (ha pins s σ H _ I h) λv s1 ⟨x,H1,I1,r1,q1⟩=>ho pins s1 σ H1 x v Q I1 r1 q1)
theorem Sw{f:Value->Value->Sem Value}{C:Int->Int->Prop}{g:Int->Int->Int}
  (rule:∀(i j:Int)(t u:Tok)(s:Shared)(Q:Value->Shared->Prop)(E:Value->Shared->Prop),C i j->Q (.int (g i j) s.toks) {s with toks:=s.toks+1}->wpAny (model X.prog X.w) X.A (f (.int i t) (.int j u)) Q E s):
  iy X f (rI C λi j=>.int (g i j)):=by
 intro pins s σ H x y v u Q I rx ry h
 obtain⟨i,j,rfl,rfl,hc,q⟩:=h
 obtain⟨t,rfl⟩:=rx
 obtain⟨t',rfl⟩:=ry
 exact rule i j t t' s _ _ hc ⟨.int (g i j),H,I.tok _,⟨_,rfl⟩,q⟩
theorem OB{f:Value->Value->Sem Value}{g:Int->Int->Int}
  (rule:∀(i j:Int)(t u:Tok)(s:Shared)(Q:Value->Shared->Prop)(E:Value->Shared->Prop),Q (.int (g i j) s.toks) {s with toks:=s.toks+1}->wpAny (model X.prog X.w) X.A (f (.int i t) (.int j u)) Q E s):
  iy X f (Kq λi j=>.int (g i j)):=by
 intro pins s σ H x y v u Q I rx ry h
 obtain⟨i,j,rfl,rfl,q⟩:=h
 obtain⟨t,rfl⟩:=rx
 obtain⟨t',rfl⟩:=ry
 exact rule i j t t' s _ _ ⟨.int (g i j),H,I.tok _,⟨_,rfl⟩,q⟩
theorem KQ{f:Value->Value->Sem Value}{g:Int->Int->Bool}
  (rule:∀(i j:Int)(t u:Tok)(s:Shared)(Q:Value->Shared->Prop)(E:Value->Shared->Prop),Q (.bool (g i j)) s->wpAny (model X.prog X.w) X.A (f (.int i t) (.int j u)) Q E s):
  iy X f (Kq λi j=>.bl (g i j)):=by
 intro pins s σ H x y v u Q I rx ry h
 obtain⟨i,j,rfl,rfl,q⟩:=h
 obtain⟨t,rfl⟩:=rx
 obtain⟨t',rfl⟩:=ry
 exact rule i j t t' s _ _ ⟨.bl (g i j),H,I,rfl,q⟩
def HG(i j:Int):Prop:=(-(2^64)<i/\i<2^64)\/(-(2^64)<j/\j<2^64)
theorem HG.ok{i j:Int}(h:HG i j):IntMulOk i j:=by
 rcases h with⟨h1,h2⟩|⟨h1,h2⟩
 ·exact .of_left (intBits_le_64 h1 h2)
 ·exact .of_right (intBits_le_64 h1 h2)
theorem KP:iy X (binaryOp .Add) (Kq λi j=>.int (i+j)):=OB λ_ _ _ _ _ _ _ q=>add_int q
theorem KL:iy X (binaryOp .Sub) (Kq λi j=>.int (i-j)):=OB λ_ _ _ _ _ _ _ q=>sub_int q
theorem KN:iy X (binaryOp .Mult) (rI HG λi j=>.int (i*j)):=Sw λ_ _ _ _ _ _ _ hc q=>mul_int q hc.ok
theorem KO:iy X (binaryOp .Mod) (rI (λ_ j=>0<j) λi j=>.int (i%j)):=Sw λi j _ _ _ _ _ hc q=>by
 have h1:(0:Int)<j:=hc
 exact mod_int' LI (by rw[Int.fmod_eq_emod_of_nonneg i LI];exact q)
theorem Zl{f:Value->Sem Value}{g:Int->Int}
  (rule:∀(i:Int)(t:Tok)(s:Shared)(Q:Value->Shared->Prop)(E:Value->Shared->Prop),Q (.int (g i) s.toks) {s with toks:=s.toks+1}->wpAny (model X.prog X.w) X.A (f (.int i t)) Q E s):
  JS X f (rU λi=>.int (g i)):=by
 intro pins s σ H x v Q I rx h
 obtain⟨i,rfl,q⟩:=h
 obtain⟨t,rfl⟩:=rx
 exact rule i t s _ _ ⟨.int (g i),H,I.tok _,⟨_,rfl⟩,q⟩
theorem JW:JS X (unaryOp .USub) (rU λi=>.int (-i)):=Zl λ_ _ _ _ _ q=>neg_int q
end
def N_:V->V->Bool
 |.dI,.dI=>true|.dI,.int _=>true|.int _,.dI=>true|.dI,.bl _=>true|.bl _,.dI=>true|.dI,.str _=>true|.str _,.dI=>true
 |.int _,.int _=>true|.bl _,.bl _=>true|.str _,.str _=>true|.Bk _,.Bk _=>true
 |.int _,.str _=>true|.str _,.int _=>true|.bl _,.str _=>true|.str _,.bl _=>true
 |_,_=>false
def ZI:R2:=λx y H Q=>N_ x y=true/\Q (.bl (decide (x=y))) H
def ZG:R2:=λx y H Q=>N_ x y=true/\Q (.bl (!decide (x=y))) H
theorem zg{i j:Int}:decide (V.int i=V.int j)=(i==j):=by
 rw[Bool.eq_iff_iff]
 simp
theorem Ek{i j:Bool}:decide (V.bl i=V.bl j)=(i==j):=by
 rw[Bool.eq_iff_iff]
 simp
theorem zf{i j:Str}:decide (V.str i=V.str j)=(i==j):=by
 rw[Bool.eq_iff_iff]
 simp
theorem zh{i j:Array UInt8}:decide (V.Bk i=V.Bk j)=(i.toList==j.toList):=by
 rw[Bool.eq_iff_iff]
 cases i
 cases j
 simp
section
variable {X:Cx} {a b c:Expr} {ta tb tc:TE} {pos:Pos}
theorem bz{pins:List (Addr×Obj)}{σ:St}{H:Hp}{s:Shared}{Q:VK}{k k':Bool}(I:Inv X pins σ H s)(q:Q (.bl k) H)(e:k=k'):EP X pins σ Q (.bool k') s:=by
 subst e
 exact⟨.bl k,H,I,rfl,q⟩
theorem eU:iy X (compareOp .Eq) ZI:=by
 intro pins s σ H x y v u Q I rx ry h
 obtain⟨hs,q⟩:=h
 cases x with
 |dI=>
  cases rx
  cases y with
  |dI=>cases ry;exact PySem.EqNone.eq_none_none (bz I q (by simp))
  |bl j=>cases ry;exact PySem.EqNone.eq_none_bool (bz I q (by simp))
  |int j=>obtain⟨t',rfl⟩:=ry;exact PySem.EqNone.eq_none_int (bz I q (by simp))
  |str j=>obtain⟨t',rfl⟩:=ry;exact PySem.EqNone.eq_none_str (bz I q (by simp))
  |_=>exact absurd (show false=true from hs) Bool.false_ne_true
 |bl i=>
  cases rx
  cases y with
  |dI=>cases ry;exact PySem.EqNone.eq_bool_none (bz I q (by simp))
  |bl j=>cases ry;exact eq_bool (bz I q Ek)
  |str j=>obtain⟨t',rfl⟩:=ry;exact PySem.EqMixed.eq_bool_str (bz I q (by simp))
  |_=>exact absurd (show false=true from hs) Bool.false_ne_true
 |int i=>
  obtain⟨t,rfl⟩:=rx
  cases y with
  |dI=>cases ry;exact PySem.EqNone.eq_int_none (bz I q (by simp))
  |int j=>obtain⟨t',rfl⟩:=ry;exact eq_int (bz I q zg)
  |str j=>obtain⟨t',rfl⟩:=ry;exact PySem.EqMixed.eq_int_str (bz I q (by simp))
  |_=>exact absurd (show false=true from hs) Bool.false_ne_true
 |str i=>
  obtain⟨t,rfl⟩:=rx
  cases y with
  |dI=>cases ry;exact PySem.EqNone.eq_str_none (bz I q (by simp))
  |bl j=>cases ry;exact PySem.EqMixed.eq_str_bool (bz I q (by simp))
  |int j=>obtain⟨t',rfl⟩:=ry;exact PySem.EqMixed.eq_str_int (bz I q (by simp))
  |str j=>obtain⟨t',rfl⟩:=ry;exact eq_str (bz I q zf)
  |_=>exact absurd (show false=true from hs) Bool.false_ne_true
 |Bk i=>
  obtain⟨t,rfl⟩:=rx
  cases y with
  |Bk j=>obtain⟨t',rfl⟩:=ry;exact PySem.W.eq_bytes (bz I q zh)
  |_=>exact absurd (show false=true from hs) Bool.false_ne_true
 |_=>cases y<;>exact absurd (show false=true from hs) Bool.false_ne_true
theorem yM:iy X (compareOp .NotEq) ZG:=by
 intro pins s σ H x y v u Q I rx ry h
 obtain⟨hs,q⟩:=h
 cases x with
 |dI=>
  cases rx
  cases y with
  |dI=>cases ry;exact PySem.EqNone.ne_none_none (bz I q (by simp))
  |bl j=>cases ry;exact PySem.EqNone.ne_none_bool (bz I q (by simp))
  |int j=>obtain⟨t',rfl⟩:=ry;exact PySem.EqNone.ne_none_int (bz I q (by simp))
  |str j=>obtain⟨t',rfl⟩:=ry;exact PySem.EqNone.ne_none_str (bz I q (by simp))
  |_=>exact absurd (show false=true from hs) Bool.false_ne_true
 |bl i=>
  cases rx
  cases y with
  |dI=>cases ry;exact PySem.EqNone.ne_bool_none (bz I q (by simp))
  |bl j=>cases ry;exact ne_bool (bz I q (congrArg not Ek))
  |str j=>obtain⟨t',rfl⟩:=ry;exact PySem.EqMixed.ne_bool_str (bz I q (by simp))
  |_=>exact absurd (show false=true from hs) Bool.false_ne_true
 |int i=>
  obtain⟨t,rfl⟩:=rx
  cases y with
  |dI=>cases ry;exact PySem.EqNone.ne_int_none (bz I q (by simp))
  |int j=>obtain⟨t',rfl⟩:=ry;exact ne_int (bz I q (congrArg not zg))
  |str j=>obtain⟨t',rfl⟩:=ry;exact PySem.EqMixed.ne_int_str (bz I q (by simp))
  |_=>exact absurd (show false=true from hs) Bool.false_ne_true
 |str i=>
  obtain⟨t,rfl⟩:=rx
  cases y with
  |dI=>cases ry;exact PySem.EqNone.ne_str_none (bz I q (by simp))
  |bl j=>cases ry;exact PySem.EqMixed.ne_str_bool (bz I q (by simp))
  |int j=>obtain⟨t',rfl⟩:=ry;exact PySem.EqMixed.ne_str_int (bz I q (by simp))
  |str j=>obtain⟨t',rfl⟩:=ry;exact ne_str (bz I q (congrArg not zf))
  |_=>exact absurd (show false=true from hs) Bool.false_ne_true
 |Bk i=>
  obtain⟨t,rfl⟩:=rx
  cases y with
  |Bk j=>obtain⟨t',rfl⟩:=ry;exact PySem.W.ne_bytes (bz I q (congrArg not zh))
  |_=>exact absurd (show false=true from hs) Bool.false_ne_true
 |_=>cases y<;>exact absurd (show false=true from hs) Bool.false_ne_true
theorem Ox:iy X (compareOp .Lt) (Kq λi j=>.bl (decide (i<j))):=KQ λ_ _ _ _ _ _ _ q=>lt_int q
theorem Oz:iy X (compareOp .LtE) (Kq λi j=>.bl (decide (i<=j))):=KQ λ_ _ _ _ _ _ _ q=>le_int q
theorem OA:iy X (compareOp .Gt) (Kq λi j=>.bl (decide (j<i))):=KQ λ_ _ _ _ _ _ _ q=>gt_int q
theorem CT:iy X (compareOp .Is) (λx y H Q=>y=.dI/\Q (.bl (decide (x=.dI))) H):=by
 intro pins s σ H x y v u Q I rx ry h
 obtain⟨rfl,q⟩:=h
 cases ry
 refine is_none_gen (bz I q ?_)
 cases x<;>first
  |(cases rx;rfl)
  |(obtain⟨t,rfl⟩:=rx;rfl)
theorem sQ:iy X (compareOp .IsNot) (λx y H Q=>y=.dI/\Q (.bl (!decide (x=.dI))) H):=by
 intro pins s σ H x y v u Q I rx ry h
 obtain⟨rfl,q⟩:=h
 cases ry
 refine isnot_none_gen (bz I q ?_)
 cases x<;>first
  |(cases rx;rfl)
  |(obtain⟨t,rfl⟩:=rx;rfl)
theorem aP(b:Expr){op:CmpOp}(h:op≠.In:=by decide)(h2:op≠.NotIn:=by decide):behindInMarks op b=false:=by
 have e1:(op==CmpOp.In)=false:=by cases op<;>first|rfl|exact absurd rfl h
 have e2:(op==CmpOp.NotIn)=false:=by cases op<;>first|rfl|exact absurd rfl h2
 cases b<;>simp[behindInMarks,e1,e2]
theorem dW{op:CmpOp}{r:R2}(ho:iy X (compareOp op) r)(ha:PE X a ta)(hb:PE X b tb)(hm:behindInMarks op b=false):PE X (.Compare a [op] [b] pos) (MP r ta tb):=by
 intro pins s σ H Q I h
 exact wpAny_Compare1 (MF ha hb I h λv u s2 x y H2 I2 rx ry q=>ho pins s2 σ H2 x y v u Q I2 rx ry q) hm
inductive BD(Q:Bool->Hp->Prop)(x:V)(H':Hp):Prop
 |mk(k:_):(x=.bl k)->(Q k H')->BD Q x H'
def yh(t:TE):TT:=λσ H Q=>t σ H λx H'=>BD Q x H'
theorem aQ{op:CmpOp}{r:R2}(ho:iy X (compareOp op) r)(ha:PE X a ta)(hb:PE X b tb)(hm:behindInMarks op b=false):PT X (.Compare a [op] [b] pos) (yh (MP r ta tb)):=by
 intro pins s σ H Q I h
 refine wpAny_isTrue_Compare1 (cW (ha pins s σ H _ I h) λv s1 ⟨x,H1,I1,r1,q1⟩=>cW (hb pins s1 σ H1 _ I1 q1) λu s2 ⟨y,H2,I2,r2,q2⟩=>
  cW (ho pins s2 σ H2 x y v u _ I2 r1 r2 q2) λc s3 ⟨z,H3,I3,r3,k,e,q3⟩=>?_) hm
 subst e
 cases r3
 exact wpAny_truthy_bool ⟨H3,I3,q3⟩
inductive yk(r':R2)(tc:TE)(σ:St)(Q:VK)(y:V)(z:V)(H3:Hp):Prop
 |mk(k:_):(z=.bl k)->((if k=true then tc σ H3 λw' H4=>r' y w' H4 Q else Q (.bl false) H3))->yk r' tc σ Q y z H3
def Kc(r r':R2)(ta tb tc:TE):TE:=λσ H Q=>ta σ H λx H1=>tb σ H1 λy H2=>r x y H2 λz H3=>yk r' tc σ Q y z H3
theorem uU{op op':CmpOp}{r r':R2}(ho:iy X (compareOp op) r)(ho':iy X (compareOp op') r')(ha:PE X a ta)(hb:PE X b tb)(hc:PE X c tc)
  (hm:lastMarks [op,op'] [b,c]=false:=by with_unfolding_all rfl):PT X (.Compare a [op,op'] [b,c] pos) (yh (Kc r r' ta tb tc)):=by
 intro pins s σ H Q I h
 refine isTrue_chain (cW (ha pins s σ H _ I h) λv s1 ⟨x,H1,I1,r1,q1⟩=>test_link (cW (hb pins s1 σ H1 _ I1 q1) λu s2 ⟨y,H2,I2,r2,q2⟩=>
  cW (ho pins s2 σ H2 x y v u _ I2 r1 r2 q2) λd s3 ⟨z,H3,I3,r3,k,e,q3⟩=>?_)) hm
 subst e
 cases r3
 refine wpAny_truthy_bool ?_
 cases k with
 |false=>
  obtain⟨k',e',q'⟩:=q3
  cases e'
  exact ite_ff ⟨H3,I3,q'⟩
 |true=>
  refine ite_tt (test_last (cW (hc pins s3 σ H3 _ I3 q3) λw' s4 ⟨z',H4,I4,r4,q4⟩=>cW (ho' pins s4 σ H4 y z' u w' _ I4 r2 r4 q4) λd' s5 ⟨z2,H5,I5,r5,k2,e2,q5⟩=>?_))
  subst e2
  cases r5
  exact wpAny_truthy_bool ⟨H5,I5,q5⟩
theorem qc:(sizeLine:Nat)<2^63:=by rw[sizeLine_eq];decide
theorem vals1{x:V}{us:List Value}(r:Vals [x] us):∃u,us=[u]/\RelV x u:=by
 cases r with
 |cons r1 r2=>cases r2;exact⟨_,rfl,r1⟩
theorem vals2{x y:V}{us:List Value}(r:Vals [x,y] us):∃u w',us=[u,w']/\RelV x u/\RelV y w':=by
 cases r with
 |cons r1 r2=>
  cases r2 with
  |cons r3 r4=>cases r4;exact⟨_,_,rfl,r1,r3⟩
end
structure xS(h:Heap)(x dx C:Addr)(mA:Str->Option Value):Prop where
 obj:h.get? x=some (PySem.W.instObj C dx)
 ns:h.Ns1 dx mA
 ne:dx≠x
theorem Al{h:Heap}{dx:Addr}{mA:Str->Option Value}(n:h.Ns1 dx mA):∃od,h.get? dx=some od/\∀name,PySem.W.lookIn name od=some (mA name):=by
 obtain⟨o,es,ep,ho,hd,hk,_,hm⟩:=n
 refine⟨o,ho,λname=>?_⟩
 have e:=hm name
 unfold nsFind findBy at e
 rw[←Array.find?_toList]at e
 unfold PySem.W.lookIn
 rw[hd]
 dsimp only
 split
 ·rename_i y q
  rw[q]at e
  exact congrArg some e
 ·rename_i q
  rw[q]at e
  have a:es.toList.any (·.refKey)=false:=by
   rw[List.any_eq_false]
   intro y hy
   obtain⟨z,t,hkey⟩:=hk y (Array.mem_toList_iff.mp hy)
   simp[DictEntry.refKey,hkey]
  have a':¬es.toList.any (·.refKey)=true:=by rw[a];exact Bool.false_ne_true
  rw[if_neg a']
  exact congrArg some e
theorem xS.look{h:Heap}{x dx C:Addr}{mA:Str->Option Value}(I:xS h x dx C mA):∃od,PySem.W.InstAt h x (PySem.W.instObj C dx) C (some od)/\∀name,PySem.W.lookIn name od=some (mA name):=
 let⟨od,ho,hl⟩:=Al I.ns
 ⟨od,⟨I.obj,rfl,rfl,ho⟩,hl⟩
section
variable {prog:Program} {w:World} {A:Around} {E:Value->Shared->Prop} {s:Shared} {K:Fg7} {x dx C f:Addr} {mA:Str->Option Value} {name:Str} {v:Value}
theorem get_map{expr:Bool}{Q:Value->Shared->Prop}(X:K.In s.heap)(I:xS s.heap x dx C mA)(hg:PySem.W.plainGet K C name=true)(hh:PySem.W.hasDictIn K C=true)
  (ha:PySem.W.findIn K (.ref C) name=some none)(hv:mA name=some v)(hv':PySem.W.handedIn v=true)(h:Q v {s with toks:=s.toks+1}):
  wpAny (model prog w) A (getAttr (.ref x) name expr) Q E s:=by
 obtain⟨od,J,hl⟩:=I.look
 exact PySem.W.get_value X J (PySem.W.plainGet_of hg).1 (PySem.W.findObj_own hh ha rfl (by rw[hl,hv])) hv' h
theorem DW{pl:Sem Bool}{Q:Value×List Value->Shared->Prop}(X:K.In s.heap)(I:xS s.heap x dx C mA)(hg:PySem.W.plainGet K C name=true)
  (hf:PySem.W.findIn K (.ref C) name=some (some (.ref f)))(ht:PySem.W.isFn K (.ref f)=true)(hv:mA name=none)(h:Q (.ref f,[.ref x]) s):
  wpAny (model prog w) A (getMethod (.ref x) name pl) Q E s:=by
 obtain⟨od,J,hl⟩:=I.look
 exact PySem.W.method_fn X J (PySem.W.plainGet_of hg).1 (PySem.W.plainGet_of hg).2 hf (beq_iff_eq.mp ht) (by show(PySem.W.lookIn name od).map (·.isSome)=some false;rw[hl,hv];rfl) h
theorem FJ{ns:List Str}{Q:Unit->Shared->Prop}(X:K.In s.heap)(I:xS s.heap x dx C mA)
  (hs:PySem.W.findIn K (.ref C) "__setattr__"=some (some (.builtin "object.__setattr__")))(hp:PySem.W.plainOver K C=true)(ht:PySem.W.takerIn K C name=some none)(hh:PySem.W.hasDictIn K C=true)
  (hw:PySem.Within mA ns)(hsz:ns.length<=sizeLine)
  (h:∀h',xS h' x dx C (λy=>if y=name then some v else mA y)->Heap.SameBut dx s.heap h'->Q () {s with heap:=h',toks:=s.toks+2}):
  wpAny (model prog w) A (setAttr (.ref x) name v) Q E s:=by
 obtain⟨od,J,hl⟩:=I.look
 refine PySem.W.set_plain X J hs (PySem.W.osa_open (s:={s with toks:=s.toks+1}) (r:=none) X J hp ht λb=>?_)
 obtain⟨cd,hc,hd'⟩:=PySem.W.any_some hh
 have hx:s.heap.get? x=some ⟨.ref C,some dx,.plain,#[]⟩:=I.obj
 refine wpAny_bind (wpAny_pure (wpAny_bind (wpAny_bind (wpAny_loadPart hx (wpAny_bind (PySem.W.Looks.here (s:={s with toks:=s.toks+1}) (PySem.W.looks_clsIn X hc) ?_))))))
 rw[hd']
 refine wpAny_pure (a:=some dx) (wpAny_bind (wpAny_pure (wpAny_bind ?_)))
 refine wpAny_nsSet1 (s:={s with toks:=s.toks+1}) I.ns λh' hn2 hs2=>?_
 obtain⟨oD,esD,epD,hoD,hdD,hcD⟩:=hn2.count (PySem.Within.cons name v hw)
 refine wpAny_bind (wpAny_lookBehind hoD (by rw[hdD];exact pastItsLine_dict (Nat.le_trans hcD (by rw[List.length_cons];lia))) ?_)
 exact wpAny_pure (h _ ⟨(hs2.2 _ (Ne.symm I.ne)).trans I.obj,hn2,I.ne⟩ hs2)
theorem Dj{R:Result->Shared->Prop}{vs:List Value}{kw:List (Str×Value)}(X:K.In s.heap)(hm:PySem.W.makesIn K C=true)
  (hi:PySem.W.findIn K (.ref C) "__init__"=some (some (.ref f)))(hf:PySem.W.typeIn K (.ref f)=some (.type "function"))
  (h:codeAny (model prog w) (A.under (.builtin "type.__call__" ⟨.ref C::vs,kw⟩)) (.call (.ref f) ⟨.ref (s.heap.objs.size+1)::vs,kw⟩) (PySem.W.InitBack (s.heap.objs.size+1) R)
   {s with heap:=(s.heap.push PySem.W.emptyDict).push (PySem.W.instObj C s.heap.objs.size)}):
  codeAny (model prog w) A (.call (.ref C) ⟨vs,kw⟩) R s:=by
 obtain⟨hh,g,d,t,os⟩:=s
 exact PySem.W.make_core (PySem.W.makes_of X hm) (PySem.W.looks_findIn X hi) (λself=>PySem.W.bind_fn X self hf) (.inl rfl) h
end
def fH(f:Str)(v:V):List (Str×V)->List (Str×V)
 |[]=>[(f,v)]
 |(g,x)::r=>if g=f then(g,v)::r else(g,x)::fH f v r
theorem nU(f g:Str)(v:V):∀fs:List (Str×V),(fH f v fs).lookup g=if g=f then some v else fs.lookup g
 |[]=>by
  show List.lookup g [(f,v)]=_
  by_cases h:g=f
  ·have hb:(g==f)=true:=beq_iff_eq.mpr h
   simp only[List.lookup,hb,if_pos h]
  ·have hb:(g==f)=false:=beq_eq_false_iff_ne.mpr h
   simp only[List.lookup,hb,if_neg h]
 |(k,x)::r=>by
  have ih:=nU f g v r
  rw[show fH f v ((k,x)::r)=(if k=f then(k,v)::r else(k,x)::fH f v r)from rfl]
  by_cases hk:k=f
  ·rw[if_pos hk]
   by_cases h:g=k
   ·have hb:(g==k)=true:=beq_iff_eq.mpr h
    simp only[List.lookup,hb,if_pos (h.trans hk)]
   ·have hb:(g==k)=false:=beq_eq_false_iff_ne.mpr h
    simp only[List.lookup,hb,if_neg (λe:g=f=>h (e.trans hk.symm))]
  ·rw[if_neg hk]
   by_cases h:g=k
   ·have hb:(g==k)=true:=beq_iff_eq.mpr h
    simp only[List.lookup,hb,if_neg (λe:g=f=>hk (h.symm.trans e))]
   ·have hb:(g==k)=false:=beq_eq_false_iff_ne.mpr h
    simp only[List.lookup,hb]
    exact ih
theorem m_(f:Str)(v:V):∀fs:List (Str×V),f∈(fH f v fs).map (·.1)/\∀g,g∈fs.map (·.1)->g∈(fH f v fs).map (·.1)
 |[]=>⟨by simp[fH],λg h=>by simp at h⟩
 |(k,x)::r=>by
  obtain⟨i1,i2⟩:=m_ f v r
  rw[show fH f v ((k,x)::r)=(if k=f then(k,v)::r else(k,x)::fH f v r)from rfl]
  by_cases hk:k=f
  ·rw[if_pos hk]
   subst hk
   exact⟨by simp,λg h=>by simpa using h⟩
  ·rw[if_neg hk]
   refine⟨?_,λg h=>?_⟩
   ·rw[List.map_cons]
    exact List.mem_cons_of_mem _ i1
   ·rw[List.map_cons]at h ⊢
    rcases List.mem_cons.mp h with e|e
    ·exact List.mem_cons.mpr (.inl e)
    ·exact List.mem_cons_of_mem _ (i2 g e)
theorem nX(f:Str)(v:V):∀fs:List (Str×V),(fH f v fs).length<=fs.length+1
 |[]=>by simp[fH]
 |(k,x)::r=>by
  have ih:=nX f v r
  rw[show fH f v ((k,x)::r)=(if k=f then(k,v)::r else(k,x)::fH f v r)from rfl]
  by_cases hk:k=f
  ·rw[if_pos hk,List.length_cons,List.length_cons];lia
  ·rw[if_neg hk,List.length_cons,List.length_cons];lia
theorem iw.some_of{v:V}{o:Option Value}(r:iw (some v) o):∃u,o=some u/\RelV v u:=by
 cases o with
 |none=>exact(show False from r).elim
 |some u=>exact⟨u,rfl,r⟩
theorem iw.none_of{o:Option Value}(r:iw none o):o=none:=by
 cases o with
 |none=>rfl
 |some u=>exact(show False from r).elim
theorem Az{v:V}{u:Value}(r:RelV v u):PySem.W.handedIn u=true:=by
 cases v with
 |dI=>cases(show u=Value.none from r);rfl
 |bl b=>cases(show u=Value.bool b from r);rfl
 |int i=>obtain⟨t,e⟩:=(show∃t,u=Value.int i t from r);cases e;rfl
 |str x=>obtain⟨t,e⟩:=(show∃t,u=Value.str x t from r);cases e;rfl
 |Bk b=>obtain⟨t,e⟩:=(show∃t,u=Value.bytes b t from r);cases e;rfl
 |Me b=>obtain⟨t,e⟩:=(show∃t,u=Value.float b t from r);cases e;rfl
 |ref a=>cases(show u=Value.ref a from r);rfl
 |ty n=>cases(show u=Value.type n from r);rfl
section
variable {P:Program} {w:World} {H H':Hp} {h h':Heap} {a C dx:Addr} {fs fs':List (Str×V)}
theorem pq(hok:kB P w H h)(e:H a=some (.ins C dx fs)):∃mA,xS h a dx C mA/\(∀f,iw (fs.lookup f) (mA f))/\PySem.Within mA (fs.map (·.1))/\fs.length<=1000/\H dx=some (.own a):=by
 obtain⟨d,z,ne,ob,mA,n,r,q⟩:=(show ck P w H h a (.ins C dx fs)from hok a _ e)
 exact⟨mA,⟨ob,n,ne⟩,r,q,z,d⟩
end
structure EM(K:Fg7)(C:Addr):Prop where
 pg:PySem.W.plainGet K C Str.empty=true
 hd:PySem.W.hasDictIn K C=true
 po:PySem.W.plainOver K C=true
 sa:PySem.W.findIn K (.ref C) "__setattr__"=some (some (.builtin "object.__setattr__"))
theorem EM.get{K:Fg7}{C:Addr}(c:EM K C)(f:Str):PySem.W.plainGet K C f=true:=c.pg
def eB(K:Fg7)(C:Addr)(f:Str):Prop:=PySem.W.findIn K (.ref C) f=some none
theorem eB.NK{K:Fg7}{C:Addr}{f:Str}(n:eB K C f):PySem.W.takerIn K C f=some none:=by
 unfold PySem.W.takerIn
 rw[show PySem.W.findIn K (.ref C) f=some none from n]
 rfl
structure Meth(K:Fg7)(C:Addr)(m:Str)(f:Addr):Prop where
 at_:PySem.W.findIn K (.ref C) m=some (some (.ref f))
 fn:PySem.W.isFn K (.ref f)=true
 kp:PySem.W.keepIn K (.ref f)=true
section
variable {X:Cx} {pins:List (Addr×Obj)} {σ:St} {H:Hp} {s:Shared} {a C dx:Addr} {fs:List (Str×V)} {f:Str} {v:V} {A:Around} {E:Value->Shared->Prop}
theorem xA{b:Bool}{Q:Value->Shared->Prop}(I:Inv X pins σ H s)(e:H a=some (.ins C dx fs))(c:EM X.K C)(n:eB X.K C f)(l:fs.lookup f=some v)
  (h:∀u s',Inv X pins σ H s'->RelV v u->Q u s'):wpAny (model X.prog X.w) A (getAttr (.ref a) f b) Q E s:=by
 obtain⟨mA,O,r,_,_,_⟩:=pq I.hok e
 obtain⟨u,hu,ru⟩:=iw.some_of (v:=v) (o:=mA f) (by rw[←l];exact r f)
 exact get_map I.lU O (c.get f) c.hd n hu (Az ru) (h u _ (I.tok _) ru)
theorem xy{m:Str}{g:Addr}{pl:Sem Bool}{Q:Value×List Value->Shared->Prop}(I:Inv X pins σ H s)(e:H a=some (.ins C dx fs))(c:EM X.K C)(k:Meth X.K C m g)(l:fs.lookup m=none)
  (h:Q (.ref g,[.ref a]) s):wpAny (model X.prog X.w) A (getMethod (.ref a) m pl) Q E s:=by
 obtain⟨mA,O,r,_,_,_⟩:=pq I.hok e
 have hn:mA m=none:=iw.none_of (by rw[←l];exact r m)
 exact DW I.lU O (c.get m) k.at_ k.fn hn h
theorem wz{y:V}{u:Value}{Q:Unit->Shared->Prop}(I:Inv X pins σ H s)(e:H a=some (.ins C dx fs))(c:EM X.K C)(n:eB X.K C f)(hl:fs.length<1000)(ry:RelV y u)
  (h:∀s',Inv X pins σ (upd H a (.ins C dx (fH f y fs))) s'->Q () s'):wpAny (model X.prog X.w) A (setAttr (.ref a) f u) Q E s:=by
 obtain⟨mA,O,r,wi,_,ho⟩:=pq I.hok e
 have hz:(fs.map (·.1)).length<=sizeLine:=by rw[List.length_map,sizeLine_eq];lia
 refine FJ I.lU O c.sa c.po n.NK c.hd wi hz λh' O' sb=>h _ ?_
 have hd:∃o,h'.get? dx=some o:=let⟨o,_,_,e',_⟩:=O'.ns;⟨o,e'⟩
 refine I.write (x:=a) (e:=dx) (by rw[e];exact True.intro) (.inr ho) (λb q hb z=>(sb.2 b hb).trans z) hd ?_
 refine⟨by rw[ai O.ne];exact ho,?_,O.ne,O'.obj,_,O'.ns,λg=>?_,λg hg=>?_⟩
 ·have:=nX f y fs;lia
 ·show iw ((fH f y fs).lookup g) (if g=f then some u else mA g)
  rw[nU]
  by_cases q:g=f
  ·rw[if_pos q,if_pos q];exact ry
  ·rw[if_neg q,if_neg q];exact r g
 ·by_cases q:g=f
  ·rw[q];exact(m_ f y fs).1
  ·refine(m_ f y fs).2 g (wi g λz=>hg ?_)
   show(if g=f then some u else mA g)=none
   rw[if_neg q];exact z
theorem Inv.made(I:Inv X pins σ H s):Inv X pins σ (upd (upd H s.heap.objs.size (.own (s.heap.objs.size+1))) (s.heap.objs.size+1) (.ins C s.heap.objs.size []))
  {s with heap:=(s.heap.push PySem.W.emptyDict).push (PySem.W.instObj C s.heap.objs.size)}:=by
 have e1:(s.heap.push PySem.W.emptyDict).get? s.heap.objs.size=some PySem.W.emptyDict:=Heap.get?_push_size s.heap rfl
 have e2:((s.heap.push PySem.W.emptyDict).push (PySem.W.instObj C s.heap.objs.size)).get? (s.heap.objs.size+1)=some (PySem.W.instObj C s.heap.objs.size):=by
  have:=Heap.get?_push_size (s.heap.push PySem.W.emptyDict) (o:=PySem.W.instObj C s.heap.objs.size) rfl
  rwa [Heap.size_push]at this
 have e3:(s.heap.push PySem.W.emptyDict).Ns s.heap.objs.size (λ_=>none):=⟨PySem.W.emptyDict,#[],_,e1,rfl,(λe he=>absurd he (by simp)),λ_=>rfl⟩
 have I1:=I.laid (a:=s.heap.objs.size) (o:=.own (s.heap.objs.size+1)) (h':=s.heap.push PySem.W.emptyDict) (t':=s.toks) (λb u q=>Heap.get?_push_of_some _ q) (Nat.le_refl _) ⟨_,e1⟩
 refine I1.laid (a:=s.heap.objs.size+1) (o:=.ins C s.heap.objs.size []) (t':=s.toks) (λb u q=>Heap.get?_push_of_some _ q) (Nat.le_of_eq (Heap.size_push _ _)) ?_
 have ne:s.heap.objs.size≠s.heap.objs.size+1:=Nat.ne_of_lt (Nat.lt_succ_self _)
 refine⟨by rw[ai ne,af],Nat.zero_le _,ne,e2,λ_=>none,(Heap.Ns1.of_empty e3).at λo q=>Heap.get?_push_of_some _ q,λ_=>True.intro,λy hy=>absurd rfl hy⟩
theorem HB{prog:Program}{w:World}{env:Env}{e:Expr}{f:Str}{pos:Pos}{s:Shared}{Q:Value->Shared->Prop}(hb:attributeBase e f env (eval e env)=eval e env)
  (h:wpAny (model prog w) A (eval e env) (λo s₁=>wpAny (model prog w) A (getAttr o f true) Q E s₁) E s):wpAny (model prog w) A (eval (.Attribute e f pos) env) Q E s:=
 Attribute_any_ h (by rw[arm_eval_Attribute,hb])
end
inductive HX(K:Fg7)(f:Str)(Q:VK)(x:V)(H1:Hp):Prop
 |mk(a:_)(C:_)(dx:_)(fs:_)(v:_):(x=.ref a)->(H1 a=some (.ins C dx fs))->(EM K C)->(eB K C f)->(fs.lookup f=some v)->(Q v H1)->HX K f Q x H1
def Fx(K:Fg7)(ta:TE)(f:Str):TE:=λσ H Q=>ta σ H λx H1=>HX K f Q x H1
inductive Io(K:Fg7)(f:Str)(D:Ends)(σ:St)(y:V)(x:V)(H2:Hp):Prop
 |mk(a:_)(C:_)(dx:_)(fs:_):(x=.ref a)->(H2 a=some (.ins C dx fs))->(EM K C)->(eB K C f)->(fs.length<1000)->(D.nx σ (upd H2 a (.ins C dx (fH f y fs))))->Io K f D σ y x H2
def Ut(K:Fg7)(ta tv:TE)(f:Str):TS:=λD σ H=>tv σ H λy H1=>ta σ H1 λx H2=>Io K f D σ y x H2
section
variable {X:Cx} {o e value:Expr} {f:Str} {pos pos' tpos:Pos} {ta tv:TE}
theorem dO(he:PE X e ta)(hb:attributeBase e f X.env (eval e X.env)=eval e X.env):PE X (.Attribute e f pos) (Fx X.K ta f):=by
 intro pins s σ H Q I h
 refine HB hb (cW (he pins s σ H _ I h) λu s1 ⟨x,H1,I1,rx,a,C,dx,fs,v,ex,ea,c,n,l,q⟩=>?_)
 subst ex
 obtain rfl:u=Value.ref a:=rx
 exact xA I1 ea c n l λu' s2 I2 ru=>⟨v,H1,I2,ru,q⟩
theorem pR(ha:PE X o ta)(hv:PE X value tv)(hs:swapsWith value (some (.Attribute o f pos')) pos.line X.env=pure false):PS X (.Assign [.Attribute o f pos'] value pos) (Ut X.K ta tv f):=by
 intro pins s σ H D I h
 refine plainObj_wpAny_Assign_Attribute (cW (hv pins s σ H _ I h) λu s1 ⟨y,H1,I1,ry,q⟩=>cW (ha pins s1 σ H1 _ I1 q) λov s2 ⟨x,H2,I2,rx,a,C,dx,fs,ex,ea,c,n,l,q2⟩=>?_) hs
 subst ex
 obtain rfl:ov=Value.ref a:=rx
 exact wz I2 ea c n l ry λs3 I3=>⟨σ,_,I3,q2⟩
end
section
variable {X:Cx} {pins:List (Addr×Obj)} {σ:St} {H:Hp} {s:Shared} {A:Around} {E:Value->Shared->Prop} {Q:Value->Shared->Prop} {c:Value} {b:Bool}
inductive nA(K:Fg7)(H:Hp):V->Value->Prop where
 |dI:nA K H .dI (.type "NoneType")
 |bl(x:Bool):nA K H (.bl x) (.type "bool")
 |int(i:Int):nA K H (.int i) (.type "int")
 |str(x:Str):nA K H (.str x) (.type "str")
 |Me(x:UInt64):nA K H (.Me x) (.type "float")
 |lst{a:Addr}{xs:List V}(e:H a=some (.lst xs)):nA K H (.ref a) (.type "list")
 |ef{a:Addr}{o:Obj}{xs:List V}(e:H a=some (.ef o (.lst xs))):nA K H (.ref a) (.type "list")
 |tup{a:Addr}{xs:List V}(e:H a=some (.tup xs)):nA K H (.ref a) (.type "tuple")
 |dK{a:Addr}{kvs:List (Key×V)}(e:H a=some (.dK kvs)):nA K H (.ref a) (.type "dict")
 |dT{a:Addr}{kvs:List (List Key×V)}(e:H a=some (.dT kvs)):nA K H (.ref a) (.type "dict")
 |ins{a C dx:Addr}{fs:List (Str×V)}(e:H a=some (.ins C dx fs))(cl:EM K C)(ha:PySem.W.findIn K (.ref C) "__class__"=some (some (.builtin "object.__class__")))
   (hn:PySem.W.specialIn K (.builtin "object.__class__") "__get__"=some (some (.builtin "getset_descriptor.__get__")))(htk:PySem.W.takesIn K (.builtin "object.__class__")=some true)
   (hm:PySem.W.mroIn K C (.type "object")=some true):nA K H (.ref a) (.ref C)
theorem Av{x:V}{u t:Value}(I:Inv X pins σ H s)(rx:RelV x u)(ty:nA X.K H x t)(e:PySem.W.kitOne X.K t c=some b)(h:∀tk,Q (.bool b) {s with toks:=tk}):
  wpAny (model X.prog X.w) A (call (.builtin "isinstance") [u,c]) Q E s:=by
 cases ty with
 |dI=>cases(show u=Value.none from rx);exact PySem.W.kia_one PySem.W.kitx_none I.lU True.intro e (λz=>nomatch z) h
 |bl y=>cases(show u=Value.bool y from rx);exact PySem.W.kia_one PySem.W.kitx_bool I.lU True.intro e (λz=>nomatch z) h
 |int i=>obtain⟨t,q⟩:=(show∃t,u=Value.int i t from rx);cases q;exact PySem.W.kia_one PySem.W.kitx_int I.lU True.intro e (λz=>nomatch z) h
 |str y=>obtain⟨t,q⟩:=(show∃t,u=Value.str y t from rx);cases q;exact PySem.W.kia_one PySem.W.kitx_str I.lU True.intro e (λz=>nomatch z) h
 |Me y=>obtain⟨t,q⟩:=(show∃t,u=Value.float y t from rx);cases q;exact PySem.W.kia_one PySem.W.kitx_float I.lU True.intro e (λz=>nomatch z) h
 | @lst a xs ea=>
  cases(show u=Value.ref a from rx)
  obtain⟨_,_,n,_,h1⟩:=(show ck X.prog X.w H s.heap a (.lst xs)from I.hok a _ ea)
  exact PySem.W.kia_one PySem.W.kitx_list I.lU ⟨_,h1,rfl⟩ e (λz=>nomatch z) h
 | @ef a ob xs ea=>
  cases(show u=Value.ref a from rx)
  obtain⟨_,_,_,n,_,h1⟩:=(show ck X.prog X.w H s.heap a (.ef ob (.lst xs))from I.hok a _ ea)
  exact PySem.W.kia_one PySem.W.kitx_list I.lU ⟨_,h1,rfl⟩ e (λz=>nomatch z) h
 | @tup a xs ea=>
  cases(show u=Value.ref a from rx)
  obtain⟨_,_,_,p⟩:=(show ck X.prog X.w H s.heap a (.tup xs)from I.hok a _ ea)
  obtain⟨o,h1,h2,_⟩:=p
  exact PySem.W.kia_one PySem.W.kitx_tuple I.lU ⟨o,h1,h2⟩ e (λz=>nomatch z) h
 | @dK a kvs ea=>
  cases(show u=Value.ref a from rx)
  obtain⟨_,_,vs,_,p⟩:=(show ck X.prog X.w H s.heap a (.dK kvs)from I.hok a _ ea)
  obtain⟨o,es,ep,h1,h2,_⟩:=p
  exact PySem.W.kia_one PySem.W.kitx_dict I.lU ⟨o,h1,h2.1⟩ e (λz=>nomatch z) h
 | @dT a kvs ea=>
  cases(show u=Value.ref a from rx)
  obtain⟨_,_,xs,_,o,es,ep,h1,h2,_⟩:=(show ck X.prog X.w H s.heap a (.dT kvs)from I.hok a _ ea)
  exact PySem.W.kia_one PySem.W.kitx_dict I.lU ⟨o,h1,h2.1⟩ e (λz=>nomatch z) h
 | @ins a C dx fs ea cl ha hn htk hm=>
  cases(show u=Value.ref a from rx)
  obtain⟨mA,O,_⟩:=pq I.hok ea
  obtain⟨od,J,_⟩:=O.look
  exact PySem.W.kia_one (PySem.W.kitx_own (cl.get _) cl.hd ha hn htk hm) I.lU J e (λz=>nomatch z) h
end
structure dj(k:Nat)(A:Around):Prop where
 hd:A.handled=none
 dp:A.depth+3*k+5<recursionLimit
 un:A.units+16*k+200<cLine
theorem dj.mono{j k:Nat}{A:Around}(r:dj k A)(h:j<=k):dj j A:=⟨r.hd,by have:=r.dp;lia,by have:=r.un;lia⟩
theorem dj.deeper{k:Nat}{A:Around}(r:dj (k+1) A)(env:Env):dj k (A.deeper env):=
 ⟨r.hd,by have:=r.dp;show A.depth+1+3*k+5<_;lia,by have:=r.un;show A.units+3+16*k+200<_;lia⟩
theorem dj.in1{k:Nat}{A:Around}(r:dj (k+1) A):dj k A.in1:=
 ⟨r.hd,by have:=r.dp;show A.depth+3*k+5<_;lia,by have:=r.un;show A.units+1+16*k+200<_;lia⟩
theorem w_{A:Around}{C:Addr}{us:List Value}{kw:List (Str×Value)}:(A.under (.builtin "type.__call__" ⟨.ref C::us,kw⟩)).depth=A.depth+1:=by
 first|rfl|simp[Around.under,Code.weight,Code.isCreation,Code.isGuard,Code.isCaller,Code.frames,Code.isFrame,guardIds]
theorem wZ{A:Around}{C:Addr}{us:List Value}{kw:List (Str×Value)}:(A.under (.builtin "type.__call__" ⟨.ref C::us,kw⟩)).units=A.units+1:=by
 first|rfl|simp[Around.under,Code.cUnits,Code.frames,Code.isFrame]
theorem dj.make{k:Nat}{A:Around}(r:dj (k+1) A)(C:Addr)(us:List Value)(kw:List (Str×Value)):dj k (A.under (.builtin "type.__call__" ⟨.ref C::us,kw⟩)):=
 ⟨r.hd,by have:=r.dp;rw[w_];lia,by have:=r.un;rw[wZ];lia⟩
theorem dj.depth{k:Nat}{A:Around}(r:dj k A):A.depth<recursionLimit:=by have:=r.dp;lia
theorem dj.units{k:Nat}{A:Around}(r:dj k A):A.units+64<cLine:=by have:=r.un;lia
def Ue:TA:=λ_ H Q=>Q [] H
def HZ(ta:TE)(tr:TA):TA:=λσ H Q=>ta σ H λx H1=>tr σ H1 λxs H2=>Q (x::xs) H2
section
variable {X:Cx} {e:Expr} {es:List Expr} {te:TE} {t:TA} {pos:Pos}
theorem aj:PA X [] Ue:=λ_ _ _ _ H Q I h=>Calls.spliced_nil ⟨[],H,I,.nil,h⟩
theorem Gq(ha:PE X e te)(hr:PA X es t)(hs:starEach (e::es) X.env=(false,eval e X.env)::starEach es X.env:=by rfl):PA X (e::es) (HZ te t):=by
 intro pos pins s σ H Q I h
 rw[hs]
 show wpAny _ _ (spliced ((false,eval e X.env)::backTo pos (starEach es X.env))) _ _ s
 refine Calls.spliced_cons (cW (ha pins s σ H _ I h) λu s1 ⟨x,H1,I1,r1,q1⟩=>?_)
 exact cW (hr pos pins s1 σ H1 _ I1 q1) λus s2 ⟨xs,H2,I2,r2,q2⟩=>⟨x::xs,H2,I2,.cons r1 r2,q2⟩
def Ua(t:TA):TE:=λσ H Q=>t σ H λxs H1=>xs.length<=sizeLine/\∀p,H1 p=none->Q (.ref p) (upd H1 p (.tup xs))
def Ug(t:TA):TE:=λσ H Q=>t σ H λxs H1=>xs.length<=sizeLine/\∀p,H1 p=none->Q (.ref p) (upd H1 p (.lst xs))
theorem bD{x1}(h:PA X es t):PE X (.Tuple es x1 pos) (Ua t):=by
 intro pins s σ H Q I hq
 refine wpAny_Tuple_spliced (cW (h pos pins s σ H _ I hq) λus s1 ⟨xs,H1,I1,r,z,q⟩=>⟨by rw[←r.length];exact z,?_⟩)
 have hf:H1 s1.heap.objs.size=none:=I1.hok.fresh (Nat.le_refl _)
 refine⟨.ref s1.heap.objs.size,upd H1 s1.heap.objs.size (.tup xs),I1.laid (t':=s1.toks) (λb u e=>Heap.get?_push_of_some _ e) (Nat.le_refl _) ?_,rfl,q _ hf⟩
 exact⟨z,us,r,⟨_,Heap.get?_push_size _ rfl,rfl,_,rfl⟩⟩
theorem cy(h:PA X es t):PE X (.List es pos) (Ug t):=by
 intro pins s σ H Q I hq
 refine wpAny_List_spliced (cW (h pos pins s σ H _ I hq) λus s1 ⟨xs,H1,I1,r,z,q⟩=>⟨by rw[←r.length];exact z,?_⟩)
 have hf:H1 s1.heap.objs.size=none:=I1.hok.fresh (Nat.le_refl _)
 refine⟨.ref s1.heap.objs.size,upd H1 s1.heap.objs.size (.lst xs),I1.laid (t':=s1.toks) (λb u e=>Heap.get?_push_of_some _ e) (Nat.le_refl _) ?_,rfl,q _ hf⟩
 exact⟨z,us,0,r,Heap.get?_push_size _ rfl⟩
end
abbrev Sp:=List V->Hp->VK->XK->Prop
abbrev Bd:=List Env->Hp->Shared->XK->Value->Shared->Prop
structure vV(P:Program)(w:World)(K:Fg7)(mg:Str->Option Value)(base:Heap)(A:Around)(outer:List Env)(s:Shared)(H:Hp):Prop where
 frames:A.frames=some outer
 mod:Mod K mg base
 bs:∀b o,base.get? b=some o->s.heap.get? b=some o/\H b=none
 Es:base.objs.size<=s.heap.objs.size
 ni:s.heap.FunFrames base outer
 JJ:∀b∈frs outer,H b=none
 hok:kB P w H s.heap
 bare:AllBare s.gens
inductive CE(outer:List Env)(P:Program)(w:World)(H:Hp)(s:Shared)(Q:VK)(u:Value)(s':Shared):Prop
 |mk(v:_)(H':_):(s'.os=s.os)->(AllBare s'.gens)->(Un (frs outer) [] H H' s.heap s'.heap)->(kB P w H' s'.heap)->(RelV v u)->(Q v H')->CE outer P w H s Q u s'
def CR(CX:Bd)(outer:List Env)(P:Program)(w:World)(H:Hp)(s:Shared)(Q:VK)(E:XK)(r:Result)(s':Shared):Prop:=
 match r with
 |.ok (.ret u)=>CE outer P w H s Q u s'
 |.ok _=>False
 |.error e=>CX outer H s E e s'
structure nF(P:Program)(w:World)(K:Fg7)(mg:Str->Option Value)(base:Heap)(CX:Bd)(k:Nat)(f:Addr)(fd:FuncData)(ps:List Str)(sp:Sp):Prop where
 len:∀vs H Q E,sp vs H Q E->vs.length=ps.length
 run:∀(A:Around)(outer:List Env)(s:Shared)(H:Hp)(args:Args)(us:List Value)(vs:List V)(Q:VK)(E:XK),dj k A->vV P w K mg base A outer s H->BindsTo s fd args (ps.zip us)->Vals vs us->sp vs H Q E->
  codeAny (model P w) A (.call (.ref f) args) (CR CX outer P w H s Q E) s
theorem nF.imp{P:Program}{w:World}{K:Fg7}{mg:Str->Option Value}{base:Heap}{CX:Bd}{k:Nat}{f:Addr}{fd:FuncData}{ps:List Str}{sp ue:Sp}(F:nF P w K mg base CX k f fd ps sp)
  (h:∀vs H Q E,ue vs H Q E->sp vs H Q E):nF P w K mg base CX k f fd ps ue:=
 ⟨λvs H Q E q=>F.len vs H Q E (h _ _ _ _ q),λA outer s H args us vs Q E hr he hb hv hs=>F.run A outer s H args us vs Q E hr he hb hv (h _ _ _ _ hs)⟩
theorem vV.make{P:Program}{w:World}{K:Fg7}{mg:Str->Option Value}{base:Heap}{A:Around}{outer:List Env}{s:Shared}{H:Hp}(e:vV P w K mg base A outer s H)(C:Addr)(us:List Value)(kw:List (Str×Value)):
  vV P w K mg base (A.under (.builtin "type.__call__" ⟨.ref C::us,kw⟩)) outer s H:=⟨by first|exact e.frames|(simpa [Around.under,Code.envs,Code.isFrame,pushEnvs]using e.frames),e.mod,e.bs,e.Es,e.ni,e.JJ,e.hok,e.bare⟩
section
variable {X:Cx} {pins:List (Addr×Obj)} {σ:St} {H:Hp} {s s':Shared}
theorem Inv.RA(I:Inv X pins σ H s):vV X.prog X.w X.K X.mg X.base X.A X.stack s H:=
 ⟨I.ok.frames,I.ok.mod,I.bs,Nat.le_trans I.ok.Es I.sz,I.stack,I.se,I.hok,I.bare⟩
theorem Inv.after{Q:VK}{u:Value}(I:Inv X pins σ H s)(h:CE X.stack X.prog X.w H s Q u s'):EP X pins σ Q u s':=by
 obtain⟨v,H',os,bare,un,hok,r,q⟩:=h
 obtain⟨hh,g,d,t,os'⟩:=s'
 obtain rfl:os'=s.os:=os
 exact⟨v,H',I.call (h':=hh) (g':=g) (d':=d) (t':=t) (ch:=[]) un hok bare (λb z=>absurd z (by simp)),r,q⟩
end
def BL(sp:Sp)(qE:List V)(E:XK)(t:TA):TE:=λσ H Q=>t σ H λvs H1=>sp (vs++qE) H1 Q E
inductive BI(C:Addr)(m:Str)(sp:Sp)(qE:List V)(E:XK)(t:TA)(σ:St)(Q:VK)(x:V)(H1:Hp):Prop
 |mk(a:_)(dx:_)(fs:_):(x=.ref a)->(H1 a=some (.ins C dx fs))->(fs.lookup m=none)->(t σ H1 λvs H2=>sp (x::(vs++qE)) H2 Q E)->BI C m sp qE E t σ Q x H1
def HV(C:Addr)(m:Str)(sp:Sp)(qE:List V)(E:XK)(ta:TE)(t:TA):TE:=λσ H Q=>ta σ H λx H1=>BI C m sp qE E t σ Q x H1
def HW(C:Addr)(sp:Sp)(qE:List V)(E:XK)(t:TA):TE:=λσ H Q=>t σ H λvs H1=>∀x dx,H1 x=none->H1 dx=none->dx≠x->
 sp (.ref x::(vs++qE)) (upd (upd H1 dx (.own x)) x (.ins C dx [])) (λv H2=>v=.dI/\Q (.ref x) H2) E
def Binds(K:Fg7)(fd:FuncData)(ps:List Str)(ds:List Value):Prop:=
 ∀(s:Shared)(us:List Value),K.In s.heap->(us++ds).length=ps.length->BindsTo s fd ⟨us,[]⟩ (ps.zip (us++ds))
theorem Binds.all{K:Fg7}{fd:FuncData}{ps:List Str}(h:∀us:List Value,us.length=ps.length->bindArgs fd ⟨us,[]⟩=pure (ps.zip us)):Binds K fd ps []:=λs us _ hl=>by
 rw[List.append_nil]at hl ⊢
 exact .of_eq (h us hl)
def Passes(CX:Bd)(X:Cx)(E:XK):Prop:=∀(pins:List (Addr×Obj))(σ:St)(H:Hp)(s:Shared)(e:Value)(s':Shared),Inv X pins σ H s->CX X.stack H s E e s'->X.xe e s'
section
variable {X:Cx} {CX:Bd} {k:Nat} {f C:Addr} {fd:FuncData} {ps:List Str} {sp:Sp} {qE:List V} {ds:List Value} {E:XK} {x m:Str} {p pos apos:Pos} {e o:Expr} {es:List Expr} {ta:TE} {t:TA}
theorem Cw{pins:List (Addr×Obj)}{σ:St}{H:Hp}{s:Shared}{Q:VK}{us:List Value}{vs:List V}(F:nF X.prog X.w X.K X.mg X.base CX k f fd ps sp)(hr:dj k X.A)(hb:Binds X.K fd ps ds)(hd:Vals qE ds)(hx:Passes CX X E)
  (I:Inv X pins σ H s)(r:Vals vs us)(h:sp (vs++qE) H Q E):wpAny (model X.prog X.w) X.A (call (.ref f) us) (EP X pins σ Q) X.xe s:=by
 have r2:Vals (vs++qE) (us++ds):=r.append hd
 have hl:(us++ds).length=ps.length:=by rw[←r2.length];exact F.len _ _ _ _ h
 refine wpAny_call (codeAny_mono (F.run X.A X.stack s H ⟨us,[]⟩ (us++ds) (vs++qE) Q E hr I.RA (hb s us I.lU hl) r2 h) λr s' hq=>?_)
 cases r with
 |error e=>exact hx pins σ H s e s' I hq
 |ok fl=>
  cases fl with
  |ret u=>exact I.after hq
  |next=>exact False.elim hq
  |brk=>exact False.elim hq
  |cont=>exact False.elim hq
theorem Gn(F:nF X.prog X.w X.K X.mg X.base CX k f fd ps sp)(hr:dj k X.A)(hg:Gl X x)(hm:X.mg x=some (.ref f))(hk:PySem.W.keepIn X.K (.ref f)=true)(hb:Binds X.K fd ps ds)(hd:Vals qE ds)(hx:Passes CX X E)
  (ha:PA X (e::es) t)(hdb:(x==("__debug__":Str))=false:=by decide)(he:starEach (e::es) X.env=(false,eval e X.env)::starEach es X.env:=by rfl)(hpl:(backTo pos (starEach es X.env)).any (·.1)=false:=by rfl):
  PE X (.Call (.Name x p) (e::es) [] pos) (BL sp qE E t):=by
 intro pins s σ H Q I h
 refine wpAny_Call_Name_kw (sY I hg hm ?_ hdb)
 refine PySem.W.callWith_K (h₀:=X.base) I.ok.mod.Py hk (cW (ha pos pins s σ H _ I h) λus s1 ⟨vs,H1,I1,r,q⟩=>⟨I1.lU,?_⟩) he hpl
 exact Cw F hr hb hd hx I1 r q
theorem Gg{pl:Sem Bool}(he:PE X o ta)(c:EM X.K C)(hm:Meth X.K C m f)(F:nF X.prog X.w X.K X.mg X.base CX k f fd ps sp)(hr:dj k X.A)(hb:Binds X.K fd ps ds)(hd:Vals qE ds)(hx:Passes CX X E)(ha:PA X (e::es) t)
  (hst:starEach (e::es) X.env=(false,eval e X.env)::starEach es X.env:=by rfl)(hpl:(backTo pos (starEach es X.env)).any (·.1)=false:=by rfl)
  (ht:eval (.Call (.Attribute o m apos) (e::es) [] pos) X.env=(do
   let ov ←eval o X.env
   standAt apos.atName
   let(f,first) ←holding [ov] (getMethod ov m pl)
   callWith pos f first (backTo pos (starEach (e::es) X.env)) (backToKw pos (keywordEach [] X.env))):=by rfl):
  PE X (.Call (.Attribute o m apos) (e::es) [] pos) (HV C m sp qE E ta t):=by
 intro pins s σ H Q I h
 refine PySem.W.methodCall_KW (pl:=pl) (cW (he pins s σ H _ I h) λu s1 ⟨x,H1,I1,rx,a,dx,fs,ex,ea,l,q⟩=>?_) ht
 subst ex
 obtain rfl:u=Value.ref a:=rx
 refine xy I1 ea c hm l ?_
 refine PySem.W.callWith_K (first:=[.ref a]) (h₀:=X.base) I.ok.mod.Py hm.kp (cW (ha pos pins s1 σ H1 _ I1 q) λus s2 ⟨vs,H2,I2,r,q2⟩=>⟨I2.lU,?_⟩) hst hpl
 exact Cw (us:=.ref a::us) (vs:=.ref a::vs) F hr hb hd hx I2 (.cons rfl r) q2
structure Mk(K:Fg7)(C f:Addr):Prop where
 makes:PySem.W.makesIn K C=true
 init:PySem.W.findIn K (.ref C) "__init__"=some (some (.ref f))
 fn:PySem.W.isFn K (.ref f)=true
 kp:PySem.W.keepIn K (.ref C)=true
theorem Cv{pins:List (Addr×Obj)}{σ:St}{H:Hp}{s:Shared}{Q:VK}{us:List Value}{vs:List V}(M:Mk X.K C f)(F:nF X.prog X.w X.K X.mg X.base CX k f fd ps sp)(hr:dj (k+1) X.A)(hb:Binds X.K fd ps ds)(hd:Vals qE ds)
  (hx:Passes CX X E)(I:Inv X pins σ H s)(r:Vals vs us)
  (h:∀x dx,H x=none->H dx=none->dx≠x->sp (.ref x::(vs++qE)) (upd (upd H dx (.own x)) x (.ins C dx [])) (λv H2=>v=.dI/\Q (.ref x) H2) E):
  wpAny (model X.prog X.w) X.A (call (.ref C) us) (EP X pins σ Q) X.xe s:=by
 have hq:=h (s.heap.objs.size+1) s.heap.objs.size (I.hok.fresh (Nat.le_succ _)) (I.hok.fresh (Nat.le_refl _)) (Nat.ne_of_lt (Nat.lt_succ_self _))
 have I2:=Inv.made (C:=C) I
 have r2:Vals (V.ref (s.heap.objs.size+1)::(vs++qE)) (Value.ref (s.heap.objs.size+1)::(us++ds)):=.cons rfl (r.append hd)
 have hl:(Value.ref (s.heap.objs.size+1)::us++ds).length=ps.length:=by
  have e:=r2.length
  rw[F.len _ _ _ _ hq]at e
  exact e.symm
 refine wpAny_call (Dj (f:=f) I.lU M.makes M.init (beq_iff_eq.mp M.fn) (codeAny_mono (F.run _ X.stack _ _ ⟨Value.ref (s.heap.objs.size+1)::us,[]⟩ (Value.ref (s.heap.objs.size+1)::(us++ds)) _ _ E (hr.make C us [])
  (I2.RA.make C us []) (hb _ (Value.ref (s.heap.objs.size+1)::us) I2.lU hl) r2 hq) λr s' hq'=>?_))
 cases r with
 |error e=>exact hx pins σ _ _ e s' I2 hq'
 |ok fl=>
  cases fl with
  |ret u=>
   obtain⟨v,H',I3,rv,ev,q3⟩:=I2.after hq'
   subst ev
   exact⟨rv,⟨V.ref (s.heap.objs.size+1),H',I3,rfl,q3⟩⟩
  |next=>exact False.elim hq'
  |brk=>exact False.elim hq'
  |cont=>exact False.elim hq'
theorem Gh(M:Mk X.K C f)(F:nF X.prog X.w X.K X.mg X.base CX k f fd ps sp)(hr:dj (k+1) X.A)(hg:Gl X x)(hm:X.mg x=some (.ref C))(hb:Binds X.K fd ps ds)(hd:Vals qE ds)(hx:Passes CX X E)
  (ha:PA X (e::es) t)(hdb:(x==("__debug__":Str))=false:=by decide)(he:starEach (e::es) X.env=(false,eval e X.env)::starEach es X.env:=by rfl)(hpl:(backTo pos (starEach es X.env)).any (·.1)=false:=by rfl):
  PE X (.Call (.Name x p) (e::es) [] pos) (HW C sp qE E t):=by
 intro pins s σ H Q I h
 refine wpAny_Call_Name_kw (sY I hg hm ?_ hdb)
 refine PySem.W.callWith_K (h₀:=X.base) I.ok.mod.Py M.kp (cW (ha pos pins s σ H _ I h) λus s1 ⟨vs,H1,I1,r,q⟩=>⟨I1.lU,?_⟩) he hpl
 exact Cv M F hr hb hd hx I1 r q
end
section
variable {X:Cx} {CX:Bd} {k:Nat} {f C:Addr} {fd:FuncData} {ps ks:List Str} {sp:Sp} {E:XK} {x m:Str} {p pos apos kpos:Pos} {e o:Expr} {es:List Expr} {kws:List Keyword} {te ta:TE} {t tk:TA} {nm:Option Str}
variable {g:List Value->List Value->List Value} {gV:List V->List V->List V}
end
structure aS(N P:List Str)(sc:Scope):Prop where
 kind:sc.kind=.function
 co:sc.isCoroutine=false
 gen:sc.isGenerator=false
 nd:N.Nodup
 pre:N.take P.length=P
 par:∀x∈P,sc.names.lookup x=some .local\/sc.names.lookup x=some .cell
 KR:∀y∈sc.names,y.2≠.free
theorem rQ{kindOf:Str->Option NameKind}{x:Str}:∀{binds:List (Str×Value)}{m:Str->Option Value},(∀v,(x,v)∉binds)->bindL kindOf binds m x=m x
 |[],_,_=>rfl
 |(n,v)::r,m,h=>by
  unfold bindL
  rw[rQ λw hw=>h w (List.mem_cons_of_mem _ hw)]
  split
  ·have:x≠n:=by rintro rfl;exact h v List.mem_cons_self
   simp[this]
  ·rfl
theorem rS{kindOf:Str->Option NameKind}{x:Str}:∀{binds:List (Str×Value)}{m:Str->Option Value},(∀v,(x,v)∉binds)->bindC kindOf binds m x=m x
 |[],_,_=>rfl
 |(n,v)::r,m,h=>by
  unfold bindC
  rw[rS λw hw=>h w (List.mem_cons_of_mem _ hw)]
  split
  ·rfl
  ·have:x≠n:=by rintro rfl;exact h v List.mem_cons_self
   simp[this]
theorem rR{kindOf:Str->Option NameKind}{x:Str}{v:Value}:∀{P:List Str}{vs:List Value}{i:Nat}{m:Str->Option Value},P.Nodup->P[i]? = some x->vs[i]? = some v->kindOf x=some .local->
  bindL kindOf (P.zip vs) m x=some v
 |[],_,_,_,_,h,_,_=>by simp at h
 |_::_,[],_,_,_,_,h,_=>by simp at h
 |p::P,w::vs,0,m,nd,h1,h2,hk=>by
  simp at h1 h2;subst h1;subst h2
  show bindL kindOf ((p,w)::P.zip vs) m p=_
  unfold bindL
  rw[rQ λv hv=>(List.nodup_cons.mp nd).1 (List.of_mem_zip hv).1,if_pos hk]
  simp
 |p::P,w::vs,i+1,m,nd,h1,h2,hk=>by
  show bindL kindOf ((p,w)::P.zip vs) m x=_
  unfold bindL
  exact rR (i:=i) (List.nodup_cons.mp nd).2 (by simpa using h1) (by simpa using h2) hk
theorem rT{kindOf:Str->Option NameKind}{x:Str}{v:Value}:∀{P:List Str}{vs:List Value}{i:Nat}{m:Str->Option Value},P.Nodup->P[i]? = some x->vs[i]? = some v->kindOf x≠some .local->
  bindC kindOf (P.zip vs) m x=some v
 |[],_,_,_,_,h,_,_=>by simp at h
 |_::_,[],_,_,_,_,h,_=>by simp at h
 |p::P,w::vs,0,m,nd,h1,h2,hk=>by
  simp at h1 h2;subst h1;subst h2
  show bindC kindOf ((p,w)::P.zip vs) m p=_
  unfold bindC
  rw[rS λv hv=>(List.nodup_cons.mp nd).1 (List.of_mem_zip hv).1,if_neg hk]
  simp
 |p::P,w::vs,i+1,m,nd,h1,h2,hk=>by
  show bindC kindOf ((p,w)::P.zip vs) m x=_
  unfold bindC
  exact rT (i:=i) (List.nodup_cons.mp nd).2 (by simpa using h1) (by simpa using h2) hk
def start(N:List Str)(vs:List V):St:=vs.map some++List.replicate (N.length-vs.length) none
def oG(CX:Bd)(P:Program)(w:World)(K:Fg7)(mg:Str->Option Value)(base:Heap)(N:List Str)(qual:Str)(scope:Scope)(f:Addr)(cd:Value)(A:Around)(outer:List Env)(s:Shared)(H:Hp)(E:XK):Cx where
 prog:=P
 w:=w
 K:=K
 mg:=mg
 base:=base
 A:=A.deeper (envOfC qual scope s.heap.objs.size f cd)
 N:=N
 s₀:=s
 H₀:=H
 env:=envOfC qual scope s.heap.objs.size f cd
 outer:=outer
 stack:=envOfC qual scope s.heap.objs.size f cd::outer
 ex:=[]
 calm:=true
 fn:=λ_=>true
 pn:=[]
 xe:=λe s'=>wpAny (model P w) (A.deeper (envOfC qual scope s.heap.objs.size f cd)) (leaving (envOfC qual scope s.heap.objs.size f cd) e) (λ_ s''=>CX outer H s E e s'') (λe' s''=>CX outer H s E e' s'') s'
theorem vK{sc:Scope}{n:Nat}{x:Str}(h:sc.names.lookup x=some .cell):∃c,(cellsFrom n sc.names []).lookup x=some c:=by
 have q:=PySem.W.cellsFrom_some sc.names n [] (.inl h)
 exact Option.isSome_iff_exists.mp q
theorem rE{CX:Bd}{P:Program}{w:World}{K:Fg7}{mg:Str->Option Value}{base:Heap}{N ps:List Str}{qual:Str}{scope:Scope}{f:Addr}{cd:Value}{A:Around}{outer:List Env}{s s1:Shared}{H:Hp}{E:XK}{us:List Value}{vs:List V}
  (S:aS N ps scope)(hd:A.handled=none)(e0:vV P w K mg base A outer s H)(hl:vs.length=ps.length)(r:Vals vs us)
  (x:InCallC s s.heap.objs.size (bindL (envOfC qual scope s.heap.objs.size f cd).kindOf (ps.zip us) λ_=>none) (cellsFrom (s.heap.objs.size+1) scope.names []) (bindC (envOfC qual scope s.heap.objs.size f cd).kindOf (ps.zip us) λ_=>none) s1):
  Inv (oG CX P w K mg base N qual scope f cd A outer s H E) [] (start N vs) H s1:=by
 have hpl:ps.length<=N.length:=by have:=congrArg List.length S.pre;rw[List.length_take]at this;lia
 obtain⟨h1,tk,rfl,hk⟩:=x.done
 have OH:∀b:Addr,b∉(oG CX P w K mg base N qual scope f cd A outer s H E).ex:=λb z=>absurd (show b∈([]:List Addr)from z) (by simp)
 refine⟨⟨e0.mod,S.kind,rfl,rfl,Nat.le_refl _,λy z c h1 h2=>?_,λy hy=>?_,λy c _ h=>?_,λ_=>hd,Around.frames_deeper e0.frames,.inr ⟨rfl,rfl⟩,λb z=>absurd z (OH b),e0.bs,e0.Es,λb _ _=>OH b,λb z=>absurd z (OH b),e0.ni,e0.JJ⟩,
  rfl,e0.bare,Un.kept hk,⟨_,x.toInCall.ns,λi y v h1 h2 h3=>?_⟩,λy c h=>⟨_,x.cell y c h⟩,e0.hok.fresh (Nat.le_refl _),λy c h=>?_,λp hp=>absurd (show p∈([]:List (Addr×Obj))from hp) (by simp),e0.hok.kept hk,?_⟩
 ·exact name_of_addr x.apart (PySem.mem_of_lookup h1) (PySem.mem_of_lookup h2)
 ·have hy:scope.names.lookup y=some .cell\/scope.names.lookup y=some .free:=hy
  rcases hy with hy|hy
  ·exact vK hy
  ·exact absurd rfl (S.KR _ (PySem.mem_of_lookup hy))
 ·exact Nat.le_of_lt (x.above y c (PySem.mem_of_lookup h))
 ·have hi:i<vs.length:=by
   unfold start at h2
   by_cases hi:i<vs.length
   ·exact hi
   ·rw[List.getElem?_append_right (by simpa using hi)]at h2
    rw[List.getElem?_replicate]at h2
    split at h2<;>cases h2
  have ha:vs[i]? = some v:=by
   unfold start at h2
   rw[List.getElem?_append_left (by simpa using hi),List.getElem?_map]at h2
   cases e:vs[i]? with
   |none=>rw[e]at h2;cases h2
   |some a=>rw[e]at h2;cases h2;rfl
  obtain⟨u,hu,rv⟩:=r.get ha
  have hp:ps[i]? = some y:=by
   rw[←S.pre,List.getElem?_take_of_lt LI];exact h1
  have XA:ps.Nodup:=by rw[←S.pre];exact S.nd.sublist (List.take_sublist _ _)
  refine⟨u,rv,?_⟩
  rcases S.par y (List.mem_of_getElem? hp)with k|k
  ·exact .inl ⟨k,rR XA hp hu k⟩
  ·obtain⟨c,e⟩:=vK (n:=s.heap.objs.size+1) k
   refine .inr ⟨.inl k,c,e,?_⟩
   have q:=x.cell y c e
   rw[rT XA hp hu (by show scope.names.lookup y≠_;rw[k];decide)]at q
   exact q
 ·exact e0.hok.fresh (Nat.le_of_lt (x.above y c (PySem.mem_of_lookup h)))
 ·unfold start
  show _=N.length
  rw[List.length_append,List.length_map,List.length_replicate]
  lia
theorem JK{CX:Bd}{P:Program}{w:World}{K:Fg7}{mg:Str->Option Value}{base:Heap}{k:Nat}{f:Addr}{name qual:Str}{params:Arguments}{body:List Stmt}{scope:Scope}{dV kV doc pm cdv ct oc:Value}{an od:Option Addr}
  {osl:Array (Option Value)}{N ps:List Str}{sp:Sp}(lk:K.lookup f=some ⟨oc,od,.func (PySem.W.fnOf name qual params body scope dV kV doc pm an cdv ct),osl⟩)(hcd:PySem.W.codeIn K cdv qual=true)(S:aS N ps scope)
  (len:∀vs H Q E,sp vs H Q E->vs.length=ps.length)
  (hbody:∀(A:Around)(outer:List Env)(s:Shared)(H:Hp)(vs:List V)(Q:VK)(E:XK),dj k (A.deeper (envOfC qual scope s.heap.objs.size f cdv))->sp vs H Q E->
   ∃t,ug (oG CX P w K mg base N qual scope f cdv A outer s H E) body t/\t {nx:=λ_ H'=>Q .dI H',rt:=Q} (start N vs) H):
  nF P w K mg base CX (k+1) f (PySem.W.fnOf name qual params body scope dV kV doc pm an cdv ct) ps sp:=by
 refine⟨len,λA outer s H args us vs Q E hr e0 hb r uf=>?_⟩
 have hl:=len _ _ _ _ uf
 have KX:K.In s.heap:=e0.mod.Py.keeps λb o e=>(e0.bs b o e).1
 have lim:s.heap.NoLimit:=e0.mod.nolimit.keeps λb o e=>(e0.bs b o e).1
 have hkind:∀y∈ps.zip us,scope.names.lookup y.1=some .local\/(scope.names.lookup y.1=some .cell/\((cellsFrom (s.heap.objs.size+1) scope.names []).lookup y.1).isSome=true):=λ⟨n,v⟩ hy=>by
  rcases S.par n (List.of_mem_zip hy).1 with q|q
  ·exact .inl q
  ·exact .inr ⟨q,PySem.W.cellsFrom_some _ _ _ (.inl q)⟩
 refine codeAny_call_function hr.depth (KX _ _ lk) rfl S.co S.gen rfl (PySem.W.codeRec_of KX hcd) (hb _ _ _ _ ?_)
 refine wpAny_newFunctionEnv_cells S.kind hkind λenv he s1 x=>?_
 subst he
 refine⟨lim.keeps x.toInCall.keep,codeAny_func ?_⟩
 obtain⟨t,ht,hq⟩:=hbody A outer s H vs Q E (hr.deeper _) uf
 have I:Inv (oG CX P w K mg base N qual scope f cdv A outer s H E) [] (start N vs) H s1:=rE S hr.hd e0 hl r x
 refine wpAny_mono (ht [] s1 (start N vs) H _ I hq) (λfl s' hs=>?_) λe s' hs=>hs
 have fin:∀{σ':St}{H':Hp}{v:V}{u:Value},Inv (oG CX P w K mg base N qual scope f cdv A outer s H E) [] σ' H' s'->RelV v u->Q v H'->CE outer P w H s Q u s':=
  λ{σ' H' v u} J rv q=>⟨v,H',J.os,J.bare,J.base,J.hok,rv,q⟩
 cases fl with
 |ret u=>
  obtain⟨v,σ',H',J,rv,q⟩:=hs
  exact fin J rv q
 |next=>
  obtain⟨σ',H',J,q⟩:=hs
  exact fin (v:=V.dI) (u:=Value.none) J rfl q
 |brk=>
  obtain⟨_,_,_,q⟩:=hs
  exact False.elim q
 |cont=>
  obtain⟨_,_,_,q⟩:=hs
  exact False.elim q
section
variable {X:Cx} {x:Str} {p pos:Pos} {e:Expr} {es:List Expr} {t:TA} {id T:String} {r:List V->Hp->VK->Prop}
def Sk(r:List V->Hp->VK->Prop)(t:TA):TE:=λσ H Q=>t σ H λvs H1=>r vs H1 Q
theorem CS(hc:gZ X (.builtin id) r)(hg:Gl X x)(hm:X.mg x=none)(hv:bootBuiltins x=some (.builtin id))(ha:PA X (e::es) t)(hn:x≠"__name__":=by decide)(hdb:(x==("__debug__":Str))=false:=by decide)
  (he:starEach (e::es) X.env=(false,eval e X.env)::starEach es X.env:=by rfl)(hpl:(backTo pos (starEach es X.env)).any (·.1)=false:=by rfl):PE X (.Call (.Name x p) (e::es) [] pos) (Sk r t):=by
 intro pins s σ H Q I h
 refine wpAny_Call_Name_kw (ie I hg hm hv ?_ hn hdb)
 exact PyProof.Rows.callWith_builtin1 (cW (ha pos pins s σ H _ I h) λus s1 ⟨vs,H1,I1,r1,q1⟩=>hc pins s1 σ H1 vs us Q I1 r1 q1) he hpl
theorem zW(hc:gZ X (.type T) r)(hg:Gl X x)(hm:X.mg x=none)(hv:bootBuiltins x=some (.type T))(ha:PA X (e::es) t)(hn:x≠"__name__":=by decide)(hdb:(x==("__debug__":Str))=false:=by decide)
  (he:starEach (e::es) X.env=(false,eval e X.env)::starEach es X.env:=by rfl)(hpl:(backTo pos (starEach es X.env)).any (·.1)=false:=by rfl):PE X (.Call (.Name x p) (e::es) [] pos) (Sk r t):=by
 intro pins s σ H Q I h
 refine wpAny_Call_Name_kw (ie I hg hm hv ?_ hn hdb)
 exact PyProof.Rows.callWith_type1 (cW (ha pos pins s σ H _ I h) λus s1 ⟨vs,H1,I1,r1,q1⟩=>hc pins s1 σ H1 vs us Q I1 r1 q1) he hpl
end
end L2
namespace HT
open PySem PyProof.Rows
theorem CC(A:Around)(s:Shared)(a:Int)(t:Tok)(c:Int)(u:Tok)(prog:Program)(w:World)(E:Value->Shared->Prop)(Q:Value->Shared->Prop)(h:Q (.bool (decide (a<c))) s):
  wpAny (model prog w) A (richCompare .Lt (.int a t) (.int c u)) Q E s:=
 (PyProof.Rows.lt_int h:wpAny (model prog w) A (compareOp .Lt (.int a t) (.int c u)) Q E s)
section
open PySem.SeqAt
open PySem.AutoSeq1 (wpAny_loadPart')
open PySem.MeetsSeq PySem.MeetsSeq2 PySem.MeetsSeq3
end
section
variable {prog:Program} {w:World} {A:Around} {E:Value->Shared->Prop} {s:Shared}
theorem Hw{t b:Addr}{vs ws:List Value}{Q:Value->Shared->Prop}(ht:IsTup s.heap t vs.toArray)(hb:IsTup s.heap b ws.toArray)(hv:vs≠[])
  (h1:ws=[]->Q (.ref t) s)(h2:ws≠[]->Q (.ref s.heap.objs.size) {s with heap:=s.heap.push {cls:=.type "tuple",data:=.seq (vs++ws).toArray} })
  (hsz:vs.length+ws.length<=sizeLine):wpAny (model prog w) A (binaryOp .Add (.ref t) (.ref b)) Q E s:=by
 obtain⟨⟨cls,dd,data,sl⟩,ho,hc,n,hd⟩:=id ht
 obtain⟨⟨Ww,dd2,data2,sl2⟩,ho2,hc2,n2,hd2⟩:=id hb
 simp only at hc hd hc2 hd2
 subst hc hd hc2 hd2
 have e:vs.toArray++ws.toArray=(vs++ws).toArray:=by simp
 by_cases hw:ws=[]
 ·exact concat_meets ⟨_,ho,rfl⟩ ⟨_,ho2,rfl⟩ noFill_tuple_add seq_tuple_add PySem.F.slot_tuple_add PySem.F.entry_tuple_add (PySem.F.args_tuple_add_2 _ _)
   (tuple_addW1 t b vs.toArray ws.toArray n n2 dd dd2 sl sl2 (by simpa using hv) (by simp[hw])) ⟨ho,ho2,h1 hw⟩
 ·refine concat_meets ⟨_,ho,rfl⟩ ⟨_,ho2,rfl⟩ noFill_tuple_add seq_tuple_add PySem.F.slot_tuple_add PySem.F.entry_tuple_add (PySem.F.args_tuple_add_2 _ _)
   (tuple_addW2 t b vs.toArray ws.toArray n n2 dd dd2 sl sl2 (by simpa using hv) (by simpa using hw) (by rw[List.size_toArray,List.size_toArray];exact hsz)) ⟨ho,ho2,?_⟩
  rw[e]
  exact h2 hw
def eX(n d:Nat):Option Int->Nat
 |none=>d
 |some v=>if v<0 then(v+(n:Int)).toNat else min v.toNat n
theorem Cs(n d:Nat):eX n d none=d:=rfl
theorem yG(n d k:Nat):eX n d (some (k:Int))=min k n:=by
 show(if(k:Int)<0 then((k:Int)+(n:Int)).toNat else min (k:Int).toNat n)=min k n
 rw[if_neg LI,Int.toNat_natCast]
theorem Kh(n d:Nat)(hd:d<=n)(o:Option Int):eX n d o<=n:=by
 cases o with
 |none=>exact hd
 |some v=>
  show(if v<0 then(v+(n:Int)).toNat else min v.toNat n)<=n
  by_cases hv:v<0
  ·rw[if_pos hv];lia
  ·rw[if_neg hv];exact Nat.min_le_right _ _
theorem zl(v:Int)(n d:Nat):(if v<0 then max (v+(n:Int)) 0 else min v (n:Int))=((eX n d (some v):Nat):Int):=by
 show(if v<0 then max (v+(n:Int)) 0 else min v (n:Int))=(((if v<0 then(v+(n:Int)).toNat else min v.toNat n):Nat):Int)
 by_cases hv:v<0
 ·simp only[if_pos hv];lia
 ·simp only[if_neg hv];lia
theorem xR(lo hi:Option Int)(n:Nat):Builtin.Slice.sliceAdjust lo hi 1 (n:Int)=(((eX n 0 lo:Nat):Int),((eX n n hi:Nat):Int)):=by
 have h1:¬((1:Int)<0):=by lia
 unfold Builtin.Slice.sliceAdjust
 simp only[h1,if_false]
 refine Prod.ext ?_ ?_
 ·cases lo with
  |none=>rfl
  |some v=>exact zl v n 0
 ·cases hi with
  |none=>rfl
  |some v=>exact zl v n n
theorem wL(i j:Nat):Builtin.Slice.slicePlaces (i:Int) (j:Int) 1=j-i:=by
 unfold Builtin.Slice.slicePlaces
 have h1:(1:Int)>0:=by lia
 simp only[h1,if_true,Int.ediv_one]
 split<;>lia
theorem pN{v:Value}{o:Option Int}{Q:Option Int->Shared->Prop}(p:IsPart v o)(h:Q o s):wpAny (model prog w) A (Builtin.Slice.slicePartIndex v) Q E s:=by
 cases p with
 |none=>exact slicePart_none h
 |int i t=>exact slicePart_int h
theorem lX{sl:Addr}{vl vu:Value}{lo hi:Option Int}{n:Nat}{Q:Int×Int×Nat->Shared->Prop}(hs:s.heap.IsSliceOf sl vl vu .none)(pl:IsPart vl lo)(pu:IsPart vu hi)
  (h:Q (((eX n 0 lo:Nat):Int),1,eX n n hi-eX n 0 lo) s):wpAny (model prog w) A (Builtin.Slice.sliceApplied (.ref sl) (pure (n:Int))) Q E s:=by
 obtain⟨os,hos,hcs,hds⟩:=id hs
 unfold Builtin.Slice.sliceApplied Builtin.Slice.sliceFields
 refine wpAny_bind (wpAny_bind (wpAny_field hos hds (x:=vl) rfl (wpAny_bind (wpAny_field hos hds (x:=vu) rfl (wpAny_bind (wpAny_field hos hds (x:=.none) rfl (wpAny_pure ?_)))))))
 refine wpAny_bind (slicePart_none ?_)
 show wpAny _ _ (if((1:Int)==0)=true then _ else _) _ _ s
 rw[if_neg (by decide)]
 refine wpAny_bind (pN pl (wpAny_bind (pN pu (wpAny_bind (wpAny_pure ?_)))))
 show wpAny _ _ (match Builtin.Slice.sliceAdjust lo hi 1 (n:Int)with|(lo,hi)=>pure (lo,(1:Int),Builtin.Slice.slicePlaces lo hi 1)) _ _ s
 rw[xR lo hi n]
 show wpAny _ _ (pure (((eX n 0 lo:Nat):Int),(1:Int),Builtin.Slice.slicePlaces ((eX n 0 lo:Nat):Int) ((eX n n hi:Nat):Int) 1)) _ _ s
 rw[wL]
 exact wpAny_pure h
theorem CK(xs:Array Value)(i k:Nat):((List.range k).filterMap λ(m:Nat)=>xs[((i:Int)+(m:Int)*1).toNat]?).toArray=((xs.toList.drop i).take k).toArray:=by
 have e:(λ(m:Nat)=>xs[((i:Int)+(m:Int)*1).toNat]?)=λm=>xs[i+m]? :=by
  funext m
  have:((i:Int)+(m:Int)*1).toNat=i+m:=by lia
  rw[this]
 rw[e]
 have:=pick_run xs i k
 rw[List.filterMap_map]at this
 have e2:((λx=>xs[x]?)∘λx=>i+x)=λm=>xs[i+m]? :=rfl
 rw[e2]at this
 rw[this]
theorem lE{t sl:Addr}{items:Array Value}{vl vu:Value}{lo hi:Option Int}{Q:Value->Shared->Prop}(ht:IsTup s.heap t items)(hs:s.heap.IsSliceOf sl vl vu .none)(pl:IsPart vl lo)(pu:IsPart vu hi)
  (hw:¬(eX items.size 0 lo=0/\eX items.size items.size hi=items.size))
  (h:Q (.ref s.heap.objs.size) {s with heap:=s.heap.push {cls:=.type "tuple",data:=.seq ((items.toList.drop (eX items.size 0 lo)).take (eX items.size items.size hi-eX items.size 0 lo)).toArray} })
  (hsz:items.size<=sizeLine):wpAny (model prog w) A (getItem (.ref t) (.ref sl)) Q E s:=by
 have yY:sizeOk (.seq ((items.toList.drop (eX items.size 0 lo)).take (eX items.size items.size hi-eX items.size 0 lo)).toArray):=by
  show((items.toList.drop (eX items.size 0 lo)).take (eX items.size items.size hi-eX items.size 0 lo)).toArray.size<=sizeLine
  rw[List.size_toArray,List.length_take,List.length_drop,Array.length_toList]
  lia
 have hj:eX items.size items.size hi<=items.size:=Kh _ _ (Nat.le_refl _) hi
 obtain⟨os,hos,hcs,hds⟩:=id hs
 have hTs:s.TypeIs (.ref sl) "slice":=⟨os,hos,hcs⟩
 unfold getItem
 try with_reducible refine wpAny_holding ?_
 first|refine wpAny_bind (wpAny_pure ?_)|skip
 refine wpAny_bind (wpAny_sequenceKey ht.typeIs (by decide) ?_)
 refine wpAny_bind (wpAny_callSpecial?_slot (name:=Str.ofString "__getitem__") ht.typeIs PyProof.Rows.slot_tuple_getitem
  (wpAny_call_entry PyProof.Rows.slot_tuple_getitem ht.typeIs entry_tuple_getitem ?_ (args_tuple_getitem _ _)))
 show wpAny _ _ (Builtin.Tuple.tupleItemsOf (.ref t) >>= _) _ _ s
 refine wpAny_bind (tupleItemsOf_ ht ?_)
 refine wpAny_bind (wpAny_typeOf hTs ?_)
 rw[if_pos (by decide)]
 refine wpAny_bind (lX hs pl pu ?_)
 have hno:¬((((eX items.size 0 lo:Nat):Int)==0&&(1:Int)==1&&(eX items.size items.size hi-eX items.size 0 lo)==items.size)=true):=by
  intro q
  rw[Bool.and_eq_true,Bool.and_eq_true]at q
  have q1:((eX items.size 0 lo:Nat):Int)=0:=eq_of_beq q.1.1
  have q2:eX items.size items.size hi-eX items.size 0 lo=items.size:=eq_of_beq q.2
  exact hw ⟨by lia,by lia⟩
 show wpAny _ _ (if(((eX items.size 0 lo:Nat):Int)==0&&(1:Int)==1&&(eX items.size items.size hi-eX items.size 0 lo)==items.size)=true then _ else _) _ _ s
 rw[if_neg hno,CK]
 first
  |exact wpAny_bind (m:=Builtin.Tuple.tupleExact _) (wpAny_newObj_type (wpAny_pure ⟨_,rfl,wpAny_pure h⟩) yY)
  |exact wpAny_bind (m:=Builtin.Tuple.tupleExact _) (wpAny_newObj_type (wpAny_bind (wpAny_pure (wpAny_pure ⟨_,rfl,wpAny_pure h⟩))) yY)
  |exact wpAny_bind (wpAny_bind (m:=Builtin.Tuple.tupleExact _) (wpAny_newObj_type (wpAny_pure (wpAny_pure ⟨_,rfl,wpAny_pure h⟩)) yY))
  |exact wpAny_bind (wpAny_bind (m:=Builtin.Tuple.tupleExact _) (wpAny_newObj_type (wpAny_pure ⟨_,rfl,wpAny_pure h⟩) yY))
end
end HT
namespace L2
open PySem PySem.Spec PyProof.Rows
abbrev TO:=St->Hp->(Option Int->Hp->Prop)->Prop
def PO(X:Cx)(e:Option Expr)(t:TO):Prop:=
 ∀(pins:List (Addr×Obj))(s:Shared)(σ:St)(H:Hp)(Q:Option Int->Hp->Prop),Inv X pins σ H s->t σ H Q->
  wpAny (model X.prog X.w) X.A (evalPart e X.env) (λu s'=>∃o H',Inv X pins σ H' s'/\IsPart u o/\Q o H') X.xe s
def Fv:TO:=λ_ H Q=>Q none H
inductive BG(Q:Option Int->Hp->Prop)(x:V)(H1:Hp):Prop
 |mk(i:_):(x=.int i)->(Q (some i) H1)->BG Q x H1
def NP(t:TE):TO:=λσ H Q=>t σ H λx H1=>BG Q x H1
theorem intsAre_of{ns:List Int}:∀{us:List Value},Vals (ns.map V.int) us->IntsAre us ns:=by
 induction ns with
 |nil=>intro us r;rw[List.map_nil]at r;cases r;exact .nil
 |cons n ns ih=>
  intro us r
  rw[List.map_cons]at r
  cases r with
  |cons r1 r2=>
   obtain⟨t,e⟩:=r1
   subst e
   exact .cons n t (ih r2)
section
variable {X:Cx} {e:Expr} {te:TE} {lo hi:Option Expr} {tl th:TO} {pos p2:Pos}
theorem kW:PO X none Fv:=by
 intro pins s σ H Q I h
 rw[evalPart_none]
 exact wpAny_pure ⟨none,H,I,.none,h⟩
theorem kU(h:PE X e te):PO X (some e) (NP te):=by
 intro pins s σ H Q I hw
 rw[evalPart_some]
 refine cW (h pins s σ H _ I hw) λu s1 ⟨x,H1,I1,r1,q1⟩=>?_
 obtain⟨i,rfl,q⟩:=q1
 obtain⟨t,rfl⟩:=r1
 exact⟨some i,H1,I1,.int i t,q⟩
def RT(X:Cx)(r:V->Option Int->Option Int->Hp->VK->Prop):Prop:=
 ∀(pins:List (Addr×Obj))(s:Shared)(σ:St)(H:Hp)(x:V)(v vl vu:Value)(lo hi:Option Int)(sl:Addr)(Q:VK),Inv X pins σ H s->RelV x v->s.heap.IsSliceOf sl vl vu .none->IsPart vl lo->IsPart vu hi->r x lo hi H Q->
  ∃T id,typeLookup (.type T) "__getitem__"=pure (some (.builtin id))/\s.TypeIs v T/\wpAny (model X.prog X.w) X.A (getItem v (.ref sl)) (EP X pins σ Q) X.xe s
def Zo(r:V->Option Int->Option Int->Hp->VK->Prop)(te:TE)(tl th:TO):TE:=λσ H Q=>te σ H λx H1=>tl σ H1 λl H2=>th σ H2 λu H3=>r x l u H3 Q
theorem iL{r:V->Option Int->Option Int->Hp->VK->Prop}(hr:RT X r)(he:PE X e te)(hl:PO X lo tl)(hu:PO X hi th):PE X (.Subscript e (.Slice lo hi none p2) pos) (Zo r te tl th):=by
 intro pins s σ H Q I h
 refine Subscript_ (cW (he pins s σ H _ I h) λv s1 ⟨x,H1,I1,r1,q1⟩=>?_)
 refine wpAny_Slice (cW (hl pins s1 σ H1 _ I1 q1) λvl s2 ⟨l,H2,I2,pl,q2⟩=>cW (hu pins s2 σ H2 _ I2 q2) λvu s3 ⟨u,H3,I3,pu,q3⟩=>?_)
 rw[evalPart_none]
 refine wpAny_pure ?_
 have I4:Inv X pins σ H3 {s3 with heap:=s3.heap.push {cls:=.type "slice",data:=.fields #[vl,vu,.none]} }:=I3.kept (t':=s3.toks) λb ob q=>Heap.get?_push_of_some _ q
 obtain⟨T,id,hT,ht,hg⟩:=hr pins {s3 with heap:=s3.heap.push {cls:=.type "slice",data:=.fields #[vl,vu,.none]} } σ H3 x v vl vu l u s3.heap.objs.size Q I4 r1 (Heap.IsSliceOf.new ..) pl pu q3
 show wpAny (model X.prog X.w) X.A (subscriptTail e (.Slice lo hi none p2) v (.ref s3.heap.objs.size)) (EP X pins σ Q) X.xe {s3 with heap:=s3.heap.push {cls:=.type "slice",data:=.fields #[vl,vu,.none]} }
 exact tail_any (ops:=[.ref s3.heap.objs.size,v]) ht hT hg (by with_unfolding_all rfl)
def kh(xs:List V)(lo hi:Option Int):List V:=(xs.drop (HT.eX xs.length 0 lo)).take (HT.eX xs.length xs.length hi-HT.eX xs.length 0 lo)
theorem n_(xs:List V)(lo hi:Option Int):(kh xs lo hi).length<=xs.length:=by
 unfold kh
 rw[List.length_take,List.length_drop]
 lia
inductive Iw(K:Fg7)(x:V)(lo:Option Int)(hi:Option Int)(H:Hp)(Q:VK):Prop
 |mk(a:_)(xs:_):(x=.ref a)->(bg K H a xs)->(¬(HT.eX xs.length 0 lo=0/\HT.eX xs.length xs.length hi=xs.length))->(∀p,H p=none->Q (.ref p) (upd H p (.tup (kh xs lo hi))))->Iw K x lo hi H Q
def Oh(K:Fg7):V->Option Int->Option Int->Hp->VK->Prop:=λx lo hi H Q=>Iw K x lo hi H Q
theorem sF:RT X (Oh X.K):=by
 intro pins s σ H x v vl vu lo hi sl Q I rx hs pl pu h
 obtain⟨a,xs,rfl,hx,hw,q⟩:=h
 cases rx
 obtain⟨its,r,ht,hz⟩:=I.tuple hx
 have hlen:its.toArray.size=xs.length:=by rw[List.size_toArray];exact r.length.symm
 refine⟨"tuple",_,PyProof.Rows.slot_tuple_getitem.lookup,ht.typeIs,?_⟩
 refine HT.lE ht hs pl pu (by rw[hlen];exact hw) ?_ (by rw[hlen];exact hz)
 rw[hlen]
 refine⟨.ref s.heap.objs.size,_,I.laid (t':=s.toks) (o:=.tup (kh xs lo hi)) (λb ob q=>Heap.get?_push_of_some _ q) (Nat.le_refl _) ?_,rfl,q _ (I.hok.fresh (Nat.le_refl _))⟩
 exact⟨Nat.le_trans (n_ xs lo hi) hz,_,(r.drop (HT.eX xs.length 0 lo)).take (HT.eX xs.length xs.length hi-HT.eX xs.length 0 lo),IsTup.new _ _⟩
inductive CH(K:Fg7)(x:V)(y:V)(H:Hp)(Q:VK):Prop
 |mk(a:_)(b:_)(xs:_)(ys:_):(x=.ref a)->(y=.ref b)->(bg K H a xs)->(bg K H b ys)->(xs≠[])->(xs.length+ys.length<=sizeLine)->((ys=[]->Q (.ref a) H))->((ys≠[]->∀p,H p=none->Q (.ref p) (upd H p (.tup (xs++ys)))))->CH K x y H Q
def IG(K:Fg7):R2:=λx y H Q=>CH K x y H Q
theorem Vals.sV{xs:List V}{us:List Value}(r:Vals xs us):us=[]↔xs=[]:=by
 cases r with
 |nil=>simp
 |cons _ _=>simp
theorem sR:iy X (binaryOp .Add) (IG X.K):=by
 intro pins s σ H x y v u Q I rx ry h
 obtain⟨a,b,xs,ys,rfl,rfl,ha,hb,hx,hz,q1,q2⟩:=h
 cases rx
 cases ry
 obtain⟨its,r1,p1,_⟩:=I.tuple ha
 obtain⟨its2,r2,p2,_⟩:=I.tuple hb
 refine HT.Hw p1 p2 (λz=>hx (r1.sV.mp z)) (λz=>⟨.ref a,H,I,rfl,q1 (r2.sV.mp z)⟩) (λz=>?_) (by rw[←r1.length,←r2.length];exact hz)
 refine⟨.ref s.heap.objs.size,_,I.laid (t':=s.toks) (o:=.tup (xs++ys)) (λb ob q=>Heap.get?_push_of_some _ q) (Nat.le_refl _) ?_,rfl,q2 (λw=>z (r2.sV.mpr w)) _ (I.hok.fresh (Nat.le_refl _))⟩
 exact⟨by rw[List.length_append];exact hz,_,r1.append r2,IsTup.new _ _⟩
end
def DB(n:Nat)(i:Int):Option Nat:=if 0<=i then(if i<n then some i.toNat else none)else if -(n:Int)<=i then some (i+n).toNat else none
def vY{α:Type}(xs:List α)(i:Int):Option α:=(DB xs.length i).bind λj=>xs[j]?
theorem yV{n:Nat}{i:Int}{j:Nat}(h:DB n i=some j):seqIndex? i n=some j/\j<n/\-(n:Int)<=i/\i<n:=by
 unfold DB at h
 by_cases h0:0<=i
 ·rw[if_pos h0]at h
  by_cases h1:i<n
  ·rw[if_pos h1]at h
   have e:i.toNat=j:=Option.some.inj h
   exact⟨by rw[seqIndex_of h0 h1,e],by lia,by lia,h1⟩
  ·rw[if_neg h1]at h;cases h
 ·rw[if_neg h0]at h
  by_cases h1: -(n:Int)<=i
  ·rw[if_pos h1]at h
   have e:(i+n).toNat=j:=Option.some.inj h
   exact⟨by rw[seqIndex_neg LI h1,e],by lia,h1,by lia⟩
  ·rw[if_neg h1]at h;cases h
theorem tT{α:Type}{xs:List α}{i:Int}{v:α}(h:vY xs i=some v):∃j,seqIndex? i xs.length=some j/\xs[j]? = some v/\j<xs.length/\-(xs.length:Int)<=i/\i<xs.length:=by
 unfold vY at h
 cases e:DB xs.length i with
 |none=>rw[e]at h;cases h
 |some j=>
  rw[e]at h
  obtain⟨h1,h2,h3,h4⟩:=yV e
  exact⟨j,h1,h,h2,h3,h4⟩
theorem fV{α:Type}{xs:List α}{j:Nat}{v:α}(h:xs[j]? = some v):vY xs (j:Int)=some v:=by
 have hj:j<xs.length:=(List.getElem?_eq_some_iff.mp h).1
 have e:DB xs.length (j:Int)=some j:=by
  unfold DB
  rw[if_pos LI,if_pos LI];simp
 unfold vY;rw[e];exact h
theorem vO{α:Type}(xs:List α)(v:α):vY (xs++[v]) (-1)=some v:=by
 have hl:(xs++[v]).length=xs.length+1:=by simp
 have e:DB (xs++[v]).length (-1)=some xs.length:=by
  unfold DB
  rw[hl,if_neg (by decide),if_pos LI]
  congr 1
  lia
 unfold vY
 rw[e]
 show(xs++[v])[xs.length]? = some v
 simp
def HD(b:Expr):Prop:=∀o i,subscripted b false o i=operate [o,i] (getItem o i)
def ED(X:Cx)(r:R2):Prop:=
 ∀(value slice:Expr)(pins:List (Addr×Obj))(s:Shared)(σ:St)(H:Hp)(x y:V)(v u:Value)(Q:VK),Inv X pins σ H s->RelV x v->RelV y u->r x y H Q->
  subscripted slice false v u=operate [v,u] (getItem v u)->wpAny (model X.prog X.w) X.A (subscriptTail value slice v u) (EP X pins σ Q) X.xe s
def WG(X:Cx)(id:String)(r:V->List V->Hp->VK->Prop):Prop:=
 ∀(pins:List (Addr×Obj))(s:Shared)(σ:St)(H:Hp)(x:V)(xs:List V)(v:Value)(us:List Value)(Q:VK),Inv X pins σ H s->RelV x v->Vals xs us->r x xs H Q->
  wpAny (model X.prog X.w) X.A (call (.builtin id) (v::us)) (EP X pins σ Q) X.xe s
section
variable {X:Cx} {a b:Expr} {ta tb:TE} {pos:Pos}
theorem ED.or{r r':R2}(h:ED X r)(h':ED X r'):ED X (λx y H Q=>r x y H Q\/r' x y H Q):=by
 intro value slice pins s σ H x y v u Q I rx ry q hs
 rcases q with q|q
 ·exact h value slice pins s σ H x y v u Q I rx ry q hs
 ·exact h' value slice pins s σ H x y v u Q I rx ry q hs
theorem aF{r:R2}(hr:ED X r)(ha:PE X a ta)(hb:PE X b tb)(hs:HD b):PE X (.Subscript a b pos) (MP r ta tb):=by
 intro pins s σ H Q I h
 exact Subscript_ (MF ha hb I h λv u s2 x y H2 I2 rx ry q=>hr a b pins s2 σ H2 x y v u Q I2 rx ry q (hs _ _))
inductive IE(K:Fg7)(x:V)(y:V)(H:Hp)(Q:VK):Prop
 |mk(p:_)(xs:_)(i:_)(v:_):(x=.ref p)->(y=.int i)->(bB K H p xs)->(vY xs i=some v)->(Q v H)->IE K x y H Q
def Ol(K:Fg7):R2:=λx y H Q=>IE K x y H Q
inductive IC(K:Fg7)(x:V)(y:V)(H:Hp)(Q:VK):Prop
 |mk(p:_)(xs:_)(i:_)(v:_):(x=.ref p)->(y=.int i)->(bg K H p xs)->(vY xs i=some v)->(Q v H)->IC K x y H Q
def Ko(K:Fg7):R2:=λx y H Q=>IC K x y H Q
inductive ID(x:V)(y:V)(H:Hp)(Q:VK):Prop
 |mk(z:_)(i:_)(c:_):(x=.str z)->(y=.int i)->(z.length<=sizeLine)->(vY z.cps.toList i=some c)->(Q (.str ⟨#[c]⟩) H)->ID x y H Q
def Oj:R2:=λx y H Q=>ID x y H Q
theorem cR:ED X (Ol X.K):=by
 intro value slice pins s σ H x y v u Q I rx ry h hs
 obtain⟨p,xs,i,z,rfl,rfl,hq,he,q⟩:=h
 cases rx
 obtain⟨t,rfl⟩:=ry
 obtain⟨its,r,pl,hz⟩:=I.list hq
 obtain⟨j,h1,h2,h3,h4,h5⟩:=tT he
 obtain⟨w,ew,rw'⟩:=r.get h2
 have hl:=r.length
 have hn:=qc
 have fin:EP X pins σ Q w s:=⟨z,H,I,rw',q⟩
 by_cases h0:0<=i
 ·have hj:i.toNat=j:=by
   rw[seqIndex_of h0 h5]at h1
   exact Option.some.inj h1
  exact item_listR pl.isList h0 LI (by rw[hj];simpa using ew) fin hs
 ·have hj:(i+(its.toArray.size:Int)).toNat=j:=by
   rw[seqIndex_neg LI h4]at h1
   rw[List.size_toArray,←hl]
   exact Option.some.inj h1
  exact subscriptTail_builtinR (x:=w) pl.isList.typeIs slot_list_getitem.lookup
   (wpAny_getItem_list_neg (Q:=λr s'=>r=w/\EP X pins σ Q r s') pl.isList LI (by rw[List.size_toArray]<;>lia) LI (by rw[hj];simpa using ew) ⟨rfl,fin⟩) hs
theorem aY:ED X (Ko X.K):=by
 intro value slice pins s σ H x y v u Q I rx ry h hs
 obtain⟨p,xs,i,z,rfl,rfl,hq,he,q⟩:=h
 cases rx
 obtain⟨t,rfl⟩:=ry
 obtain⟨its,r,pl,hz⟩:=I.tuple hq
 obtain⟨j,h1,h2,h3,h4,h5⟩:=tT he
 obtain⟨w,ew,rw'⟩:=r.get h2
 have hl:=r.length
 have hn:=qc
 have fin:EP X pins σ Q w s:=⟨z,H,I,rw',q⟩
 exact subscriptTail_builtinR (x:=w) pl.typeIs slot_tuple_getitem.lookup
  (getItem_tuple (j:=j) (Q:=λr s'=>r=w/\EP X pins σ Q r s') pl LI LI (by rw[List.size_toArray,←hl];exact h1) (by simpa using ew) ⟨rfl,fin⟩) hs
theorem LC:ED X Oj:=by
 intro value slice pins s σ H x y v u Q I rx ry h hs
 obtain⟨z,i,c,rfl,rfl,hz,he,q⟩:=h
 obtain⟨t,rfl⟩:=rx
 obtain⟨t',rfl⟩:=ry
 obtain⟨j,h1,h2,h3,h4,h5⟩:=tT he
 have hl:z.cps.toList.length=z.length:=by simp[Str.length]
 rw[hl]at h1 h4 h5
 have hn:=qc
 exact tail_any (typeIs_str s z t) slot_str_getitem.lookup (getItem_str (c:=c) (by
  have e1:decide (i < -(2^63:Int))=false:=decide_eq_false LI
  have e2:decide (i≥2^63)=false:=decide_eq_false LI
  rw[e1,e2,Bool.or_false]) (by rw[h1];simpa using h2) ⟨.str ⟨#[c]⟩,H,I.tok _,⟨_,rfl⟩,q⟩) hs
def ZH(K:Fg7):R2:=λx y H Q=>Ol K x y H Q\/Ko K x y H Q\/Oj x y H Q
theorem Dy:ED X (ZH X.K):=cR.or (aY.or LC)
theorem wY(its:List Value)(n j:Nat)(u:Value):Obj.mapSeq (·.setIfInBounds j u) {cls:=.type "list",data:=.seq its.toArray n}={cls:=.type "list",data:=.seq (its.set j u).toArray n}:=by
 simp[Obj.mapSeq]
theorem Inv.lst{pins:List (Addr×Obj)}{σ:St}{H:Hp}{s:Shared}{p:Addr}{xs:List V}(I:Inv X pins σ H s)(h:H p=some (.lst xs)):
  ∃(its:List Value) (n:Nat),Vals xs its/\s.heap.get? p=some {cls:=.type "list",data:=.seq its.toArray n}/\xs.length<=sizeLine:=by
 obtain⟨z,its,n,r,e⟩:=I.hok p _ h
 exact⟨its,n,r,e,z⟩
theorem Inv.KY{pins:List (Addr×Obj)}{σ:St}{H:Hp}{s:Shared}{p:Addr}{xs ys:List V}{its its':List Value}{n n':Nat}{f:Obj->Obj}(I:Inv X pins σ H s)(h:H p=some (.lst xs))
  (ho:s.heap.get? p=some {cls:=.type "list",data:=.seq its.toArray n})(hf:f {cls:=.type "list",data:=.seq its.toArray n}={cls:=.type "list",data:=.seq its'.toArray n'})(r:Vals ys its')(hz:ys.length<=sizeLine)(t:Nat):
  Inv X pins σ (upd H p (.lst ys)) {s with heap:=s.heap.update p f,toks:=t}:=by
 have e:(s.heap.update p f).get? p=some {cls:=.type "list",data:=.seq its'.toArray n'}:=by
  rw[Heap.get?_update_self f ho (by rw[hf]<;>rfl),hf]
 refine I.write (x:=p) (e:=p) (by rw[h];trivial) (.inl rfl) (λb u hb q=>(Heap.get?_update_other _ _ (Ne.symm hb)).trans q) ⟨_,e⟩ ?_
 exact⟨hz,its',n',r,e⟩
inductive CG(o:V)(i:V)(v:V)(H:Hp)(Q:(Hp->Prop)):Prop
 |mk(p:_)(xs:_)(k:_)(j:_):(o=.ref p)->(i=.int k)->(H p=some (.lst xs))->(DB xs.length k=some j)->(Q (upd H p (.lst (xs.set j v))))->CG o i v H Q
def Oi:V->V->V->Hp->(Hp->Prop)->Prop:=λo i v H Q=>CG o i v H Q
theorem set_list:MM X Oi:=by
 intro pins s σ H o i v ov iv u Q I ro ri rv h
 obtain⟨p,xs,k,j,rfl,rfl,hp,hj,q⟩:=h
 cases ro
 obtain⟨t,rfl⟩:=ri
 obtain⟨its,n,r,ho,hz⟩:=I.lst hp
 obtain⟨h1,h2,h3,h4⟩:=yV hj
 have hl:=r.length
 have hn:=qc
 have I':Inv X pins σ (upd H p (.lst (xs.set j v))) {s with heap:=s.heap.update p (Obj.mapSeq (·.setIfInBounds j u))}:=
  I.KY hp ho (wY its n j u) (r.set rv j) (by rw[List.length_set];exact hz) s.toks
 by_cases h0:0<=k
 ·have hk:k.toNat=j:=by
   rw[seqIndex_of h0 h4]at h1
   exact Option.some.inj h1
  exact PySem.W.ki_setAt ho h0 LI (by rw[List.size_toArray,←hl];exact h4) (by rw[hk];exact⟨_,I',q⟩)
 ·have hk:(k+(its.toArray.size:Int)).toNat=j:=by
   rw[seqIndex_neg LI h3]at h1
   rw[List.size_toArray,←hl]
   exact Option.some.inj h1
  exact PySem.W.ki_setBack ho LI (by rw[List.size_toArray,←hl];exact h3) LI (by rw[hk];exact⟨_,I',q⟩)
theorem sE(lo hi:Option Int)(n:Nat):(sliceBounds lo hi none n).1=((HT.eX n 0 lo:Nat):Int)/\(sliceBounds lo hi none n).2.1=((HT.eX n n hi:Nat):Int)/\(sliceBounds lo hi none n).2.2=1:=by
 refine⟨?_,?_,rfl⟩
 ·cases lo with
  |none=>simp[sliceBounds,HT.eX]
  |some i=>
   simp only[sliceBounds,HT.eX,Option.getD_none,show(1:Int)>0 by decide,if_true]
   by_cases h:i<0
   ·simp only[h,if_true]<;>lia
   ·simp only[h,if_false]<;>lia
 ·cases hi with
  |none=>simp[sliceBounds,HT.eX]
  |some i=>
   simp only[sliceBounds,HT.eX,Option.getD_none,show(1:Int)>0 by decide,if_true]
   by_cases h:i<0
   ·simp only[h,if_true]<;>lia
   ·simp only[h,if_false]<;>lia
theorem qF(its:List Value)(lo hi:Option Int):slicePick its.toArray lo hi none=((its.drop (HT.eX its.length 0 lo)).take (HT.eX its.length its.length hi-HT.eX its.length 0 lo)).toArray:=by
 obtain⟨h1,h2,h3⟩:=sE lo hi its.toArray.size
 unfold slicePick
 rw[h1,h2,h3]
 simp only[sliceRange_one,pick_run,List.size_toArray]<;>rfl
inductive Iz(K:Fg7)(x:V)(lo:Option Int)(hi:Option Int)(H:Hp)(Q:VK):Prop
 |mk(a:_)(xs:_):(x=.ref a)->(bB K H a xs)->(∀p,H p=none->Q (.ref p) (upd H p (.lst (kh xs lo hi))))->Iz K x lo hi H Q
def Uz(K:Fg7):V->Option Int->Option Int->Hp->VK->Prop:=λx lo hi H Q=>Iz K x lo hi H Q
theorem FH:RT X (Uz X.K):=by
 intro pins s σ H x v vl vu lo hi sl Q I rx hs pl pu h
 obtain⟨a,xs,rfl,hx,q⟩:=h
 cases rx
 obtain⟨its,r,ht,hz⟩:=I.list hx
 have hlen:=r.length
 refine⟨"list",_,slot_list_getitem.lookup,ht.isList.typeIs,?_⟩
 refine wpAny_getItem_list_slice ht.isList hs pl pu .none (by simp) ?_ (by rw[List.size_toArray]<;>lia)
 rw[qF,←hlen]
 refine⟨.ref s.heap.objs.size,_,I.laid (t':=s.toks) (o:=.lst (kh xs lo hi)) (λb ob q=>Heap.get?_push_of_some _ q) (Nat.le_refl _) ?_,rfl,q _ (I.hok.fresh (Nat.le_refl _))⟩
 exact⟨Nat.le_trans (n_ xs lo hi) hz,_,0,(r.drop (HT.eX xs.length 0 lo)).take (HT.eX xs.length xs.length hi-HT.eX xs.length 0 lo),Heap.get?_push_size _ rfl⟩
theorem bV:gZ X (.builtin "len") (λxs H Q=>∃p ys,xs=[.ref p]/\(bB X.K H p ys\/bg X.K H p ys)/\Q (.int ys.length) H):=by
 intro pins s σ H xs us Q I r h
 obtain⟨p,ys,rfl,hq,q⟩:=h
 obtain⟨u,rfl,rx⟩:=vals1 r
 cases rx
 have hn:=qc
 rcases hq with hq|hq
 ·obtain⟨its,r',pl,hz⟩:=I.list hq
  have hlen:=r'.length
  exact Calls.call_len_list pl.isList (by simp only[List.size_toArray]<;>lia) ⟨.int ys.length,H,I.tok _,⟨s.toks+1,by rw[List.size_toArray,hlen]⟩,q⟩
 ·obtain⟨its,r',pl,hz⟩:=I.tuple hq
  have hlen:=r'.length
  exact len_tuple pl (by simp only[List.size_toArray]<;>lia) ⟨.int ys.length,H,I.tok _,⟨s.toks+1,by rw[List.size_toArray,hlen]⟩,q⟩
def TN(K:Fg7)(T:String)(x:V)(H:Hp):Prop:=match x with
 |.str _=>T="str"
 |.int _=>T="int"
 |.ref p=>(T="list"/\∃xs,bB K H p xs)\/(T="tuple"/\∃o,K.lookup p=some o/\o.cls=.type "tuple"/\o.dict=none)\/
   (T="dict"/\((∃kvs,H p=some (.dK kvs))\/∃kvs,H p=some (.dT kvs)))\/(T="set"/\∃S n,H p=some (.set S n))
 |_=>False
theorem Bw{pins:List (Addr×Obj)}{σ:St}{H:Hp}{s:Shared}{T:String}{x:V}{v:Value}(I:Inv X pins σ H s)(r:RelV x v)(ty:TN X.K T x H):
  s.TypeIs v T/\∀a,v=.ref a->∃ob,s.heap.get? a=some ob/\ob.dict=none:=by
 cases x with
 |str z=>
  obtain⟨t,rfl⟩:=r
  cases(show T="str" from ty)
  exact⟨typeIs_str s z t,λ_ e=>nomatch e⟩
 |int i=>
  obtain⟨t,rfl⟩:=r
  cases(show T="int" from ty)
  exact⟨typeIs_int s i t,λ_ e=>nomatch e⟩
 |ref p=>
  cases r
  rcases ty with⟨rfl,xs,hq⟩|⟨rfl,o,hk,hc,hd⟩|⟨rfl,hk⟩|⟨rfl,S,n,hk⟩
  ·obtain⟨its,_,pl,_⟩:=I.list hq
   refine⟨pl.isList.typeIs,λa e=>?_⟩
   cases e
   obtain⟨o,n,e,c,hd,_⟩:=pl
   exact⟨o,e,hd⟩
  ·refine⟨⟨o,I.lU p o hk,hc⟩,λa e=>?_⟩
   cases e
   exact⟨o,I.lU _ o hk,hd⟩
  ·have z:∃o,s.heap.get? p=some o/\o.ExactDict:=by
    rcases hk with⟨kvs,hk⟩|⟨kvs,hk⟩
    ·obtain⟨_,_,_,_,o,_,_,e,ex,_⟩:=I.hok p _ hk
     exact⟨o,e,ex⟩
    ·obtain⟨_,_,_,_,o,_,_,e,ex,_⟩:=I.hok p _ hk
     exact⟨o,e,ex⟩
   obtain⟨o,e,ex⟩:=z
   refine⟨⟨o,e,ex.1⟩,λa e2=>?_⟩
   cases e2
   exact⟨o,e,ex.2.1⟩
  ·obtain⟨o,_,_,_,e,ex,_⟩:=I.hok p _ hk
   refine⟨⟨o,e,ex.1⟩,λa e2=>?_⟩
   cases e2
   exact⟨o,e,ex.2.1⟩
 |_=>exact False.elim ty
def Uj(K:Fg7)(T:String)(r:V->List V->Hp->VK->Prop)(to:TE):TE:=λσ H Q=>to σ H λx H1=>TN K T x H1/\r x [] H1 Q
def Zq(K:Fg7)(T:String)(r:V->List V->Hp->VK->Prop)(to:TE)(t:TA):TE:=λσ H Q=>to σ H λx H1=>TN K T x H1/\t σ H1 λxs H2=>r x xs H2 Q
variable {o e:Expr} {es:List Expr} {to:TE} {t:TA} {name:Str} {apos cpos:Pos} {T id:String} {r:V->List V->Hp->VK->Prop}
theorem KH(pa:PlainAttrs T)(slot:Slot T name id)(hty:typeOf (.builtin id)=pure (.type "method_descriptor"))(hm:WG X id r)(ho:PE X o to)
  (hbase:attributeBase o name X.env (eval o X.env)=eval o X.env:=by rfl)(hline:(apos.endLine==cpos.line)=true:=by rfl):PE X (.Call (.Attribute o name apos) [] [] cpos) (Uj X.K T r to):=by
 intro pins s σ H Q I h
 refine wpAny_Call_method0_late hbase hline (cW (ho pins s σ H _ I h) λv s1 ⟨x,H1,I1,r1,ty,q1⟩=>?_)
 obtain⟨h1,h2⟩:=Bw I1 r1 ty
 exact⟨T,id,pa,slot,hty,h1,h2,Calls.callWith_builtin rfl (PySem.evalArgs_none (hm pins s1 σ H1 x [] v [] Q I1 r1 .nil q1))⟩
theorem pT(pa:PlainAttrs T)(slot:Slot T name id)(hty:typeOf (.builtin id)=pure (.type "method_descriptor"))(hm:WG X id r)(ho:PE X o to)(ha:PA X (e::es) t)
  (hbase:attributeBase o name X.env (eval o X.env)=eval o X.env:=by rfl)
  (hfew:((backTo cpos (starEach (e::es) X.env)).all (λx=> !x.1)&&(backToKw cpos (keywordEach [] X.env)).all (λx=>x.1.isSome)
   && decide ((e::es).length+([]:List Keyword).length+(if([]:List Keyword).isEmpty then 0 else 1)<30))=true:=by rfl)
  (hline:(apos.endLine==cpos.line)=true:=by rfl)(hs:starEach (e::es) X.env=(false,eval e X.env)::starEach es X.env:=by rfl)(hplain:(backTo cpos (starEach es X.env)).any (·.1)=false:=by rfl):
  PE X (.Call (.Attribute o name apos) (e::es) [] cpos) (Zq X.K T r to t):=by
 intro pins s σ H Q I h
 refine wpAny_Call_method_late hbase hfew hline rfl (cW (ho pins s σ H _ I h) λv s1 ⟨x,H1,I1,r1,ty,q1⟩=>?_)
 obtain⟨h1,h2⟩:=Bw I1 r1 ty
 refine⟨T,id,pa,slot,hty,h1,h2,?_⟩
 have hA:=ha cpos pins s1 σ H1 _ I1 q1
 rw[hs]at hA ⊢
 refine Calls.callWith_builtin (by show(false||(backTo cpos (starEach es X.env)).any (·.1))=false;rw[hplain]<;>rfl) (Calls.evalArgs_plain ?_)
 exact cW hA λus s2 ⟨vs,H2,I2,r2,q2⟩=>hm pins s2 σ H2 x vs v us Q I2 r1 r2 q2
/- xs.append(e),list.index on a OR tuple .. are WG facts of 06m -/
end
def YV(X:Cx)(id:String)(r:V->List V->Hp->VK->Prop):Prop:=
 ∀(pins:List (Addr×Obj))(s:Shared)(σ:St)(H:Hp)(x:V)(xs:List V)(v:Value)(us:List Value)(Q:VK),Inv X pins σ H s->RelV x v->Vals xs us->r x xs H Q->
  wpAny (model X.prog X.w) X.A (call (.builtin id) (v::us)) (EP X pins σ Q) X.xe s
theorem Vals.one:∀{x:V}{us:List Value},Vals [x] us->∃u,us=[u]/\RelV x u
 |_,_,.cons r .nil=>⟨_,rfl,r⟩
section
variable {X:Cx} {pins:List (Addr×Obj)} {σ:St} {H:Hp} {s:Shared} {l b:Addr} {xs ys zs:List V}
theorem Inv.Vb{its its':List Value}{n:Nat}{f:Array Value->Array Value}{t':Nat}(I:Inv X pins σ H s)(hH:H l=some (.lst xs))
  (e:s.heap.get? l=some {cls:=.type "list",data:=.seq its.toArray n})(hf:f its.toArray=its'.toArray)(hv:Vals ys its')(hz:ys.length<=sizeLine):
  Inv X pins σ (upd H l (.lst ys)) {s with heap:=s.heap.update l (Obj.mapSeq f),toks:=t'}:=by
 have q:=PySem.IsL.update e f
 rw[hf]at q
 refine I.write (x:=l) (e:=l) (by rw[hH];exact trivial) (.inl rfl) (λb' u hb hu=>(Heap.get?_update_other s.heap (Obj.mapSeq f) (Ne.symm hb)).trans hu) ⟨_,q⟩ ?_
 exact⟨hz,its',_,hv,q⟩
theorem Inv.OY{its:List Value}{t':Nat}(I:Inv X pins σ H s)(hv:Vals ys its)(hz:ys.length<=sizeLine):
  Inv X pins σ (upd H s.heap.objs.size (.lst ys)) {s with heap:=s.heap.push {cls:=.type "list",data:=.seq its.toArray},toks:=t'}:=
 I.laid (λ_ _ q=>Heap.get?_push_of_some _ q) (Nat.le_refl _) ⟨hz,its,0,hv,Heap.get?_push_size _ rfl⟩
theorem Inv.fresh(I:Inv X pins σ H s):H s.heap.objs.size=none:=I.hok.fresh (Nat.le_refl _)
theorem Inv.KZ(I:Inv X pins σ H s)(hH:H l=some (.lst xs)):xs.length<=sizeLine/\∃(its:List Value) (n:Nat),Vals xs its/\xs.length=its.length/\s.heap.get? l=some {cls:=.type "list",data:=.seq its.toArray n}:=by
 obtain⟨z,its,n,r,e⟩:=I.hok l _ hH
 exact⟨z,its,n,r,r.length,e⟩
end
section
variable {X:Cx}
inductive uT(x:V)(vs:List V)(H:Hp)(Q:VK):Prop
 |mk(l:_)(xs:_)(y:_):(x=.ref l)->(vs=[y])->(H l=some (.lst xs))->(xs.length<sizeLine)->(Q .dI (upd H l (.lst (xs++[y]))))->uT x vs H Q
def FY:V->List V->Hp->VK->Prop:=λx vs H Q=>uT x vs H Q
theorem eL:YV X "list.append" FY:=by
 intro pins s σ H x vs v us Q I rx rv h
 obtain⟨l,xs,y,rfl,rfl,hH,hz,q⟩:=h
 cases rx
 obtain⟨u,rfl,ru⟩:=rv.one
 obtain⟨z,its,n,r,hl,e⟩:=I.KZ hH
 refine call_meets F.slot_list_append ⟨_,e,rfl⟩ F.entry_list_append (F.args_list_append_2 _ _) (PySem.list_append l its.toArray n u (by rw[List.size_toArray];lia)) ⟨e,?_⟩
 refine⟨.dI,_,I.Vb (its':=its++[u]) hH e (by simp) (r.append (.cons ru .nil)) ?_,rfl,q⟩
 rw[List.length_append,List.length_singleton]
 lia
inductive II(x:V)(y:V)(H:Hp)(Q:VK):Prop
 |mk(l:_)(b:_)(xs:_)(zs:_):(x=.ref l)->(y=.ref b)->(H l=some (.lst xs))->(H b=some (.lst zs))->(xs.length+zs.length<=sizeLine)->(∀p,H p=none->Q (.ref p) (upd H p (.lst (xs++zs))))->II x y H Q
def UC:R2:=λx y H Q=>II x y H Q
theorem sS:iy X (binaryOp .Add) UC:=by
 intro pins s σ H x y v u Q I rx ry h
 obtain⟨l,b,xs,zs,rfl,rfl,hH,hB,hz,q⟩:=h
 cases rx
 cases ry
 obtain⟨z,its,n,r,hl,e⟩:=I.KZ hH
 obtain⟨z2,its2,n2,r2,hl2,e2⟩:=I.KZ hB
 refine PySem.P.add_list e e2 ?_ (by rw[List.size_toArray,List.size_toArray];lia)
 have ea:its.toArray++its2.toArray=(its++its2).toArray:=by simp
 rw[ea]
 exact⟨.ref _,_,I.OY (t':=s.toks) (r.append r2) (by rw[List.length_append];lia),rfl,q _ I.fresh⟩
end
section
variable {prog:Program} {w:World} {A:Around} {E:Value->Shared->Prop} {s:Shared}
end
section
variable {X:Cx}
end
end L2
namespace Ze
open PySem PySem.W PySem.Calls PyProof.Rows
theorem oE{P:Params}{h:Heap}:∀(ns:List Int)(vs:List Value),WellAll P h vs (ns.map WData.int)->IntsAre vs ns:=by
 intro ns
 induction ns with
 |nil=>
  intro vs w
  rw[List.map_nil]at w
  cases w
  exact .nil
 |cons n ns ih=>
  intro vs w
  rw[List.map_cons]at w
  cases w with
  |cons a b=>
   cases a
   exact .cons _ _ (ih _ b)
theorem zL{l:OpenLaw}{n:Nat}(hn:l.most=some n){P:Params}{h:Heap}{args:List WData}{vals:List Value}
  (hpre:l.row.toRowW.claim.pre args=true)(hwl:WellAll P h vals args):
  ∃a vs ns,vals=[Value.ref a]/\args=[WData.list (ns.map WData.int)]/\h.get? a=some {cls:=.type "list",data:=.seq vs.toArray}/\IntsAre vs ns/\ns.length<=n:=by
 have hsh:WShape.hasAll [] args [.list .int]=true:=(pre_splitW hpre).1
 have hc:l.pre.holds [] {args:=args}=true:=(pre_splitW hpre).2
 obtain⟨d,r,rfl,h1,h2⟩:=hasAllW_cons hsh
 obtain rfl:=hasAllW_nil h2
 obtain⟨xs,rfl,h3⟩:=hasW_list h1
 obtain⟨ns,rfl⟩:=items_int h3
 have hlen:ns.length<=n:=by
  unfold OpenLaw.pre at hc
  have h4:(WTm.not (.lt (.lit (.int (n:Int))) (.len (.arg 0)))).holds [] {args:=[.list (ns.map .int)]}=true:=by
   have h4:=(holds_andW hc).1
   rw[hn]at h4
   exact h4
  have h5:=condW_of h4 (w_not (w_lt w_lit (w_len_list (w_arg rfl))))
  rw[List.length_map]at h5
  refine Nat.le_of_not_lt λq=>?_
  have q':(n:Int)<((ns.length:Nat):Int):=by lia
  first
   |(rw[decide_eq_true q']at h5;exact absurd h5 (by decide))
   |(simp at h5;lia)
 cases hwl with
 |cons w1 w2=>
  cases w2
  cases w1 with
  |list ho hall=>exact⟨_,_,ns,rfl,rfl,ho,oE ns _ hall,hlen⟩
theorem zT(l:OpenLaw)(args:List WData):l.row.toRowW.claim.post args (.bool true) args=true:=
 postW_of (r:=l.row.toRowW) (X:=(true==true))
  (show WShape.has [] (.bool true) .bool=true by first|rfl|decide|simp[WShape.has,WShape.arms,WShape.armsAll])
  (show(WTm.eq .res (.lit (.bool true))).value [] {args:=args,res:=some (.bool true),after:=args}=some (.bool (true==true))from w_eq_bool (w_res rfl) w_lit) rfl
theorem vN{l:OpenLaw}{n:Nat}{q:Program}{loose:List Str}{XP:(Str->Option Value)->Heap->Prop}{YP:World->Heap->Prop}{d:DefRec}
  (hn:l.most=some n)(hdf:d.params.defaults=[])
  (call:∀(w:World)(s₀ s₁:Shared)(mg mb:Str->Option Value)(fa:Addr)(o:Obj)(pm cd doc:Value)(a:Addr)(vs:List Value)(ns:List Int),
   Ground q loose [] XP w s₀ mg mb s₁.heap->YP w s₁.heap->
   s₁.heap.get? fa=some o->o.data=.func (docDef d.name d.params d.body d.scope pm cd doc)->s₁.heap.CodeRec cd d.name->mg d.name=some (.ref fa)->
   s₁.heap.get? a=some {cls:=.type "list",data:=.seq vs.toArray}->IntsAre vs ns->ns.length<=n->s₁.gens= #[]->
   codeAny (model l.prog w) callerA (.call (.ref fa) ⟨[.ref a],[]⟩) (λr s'=>r=.ok (.ret (.bool true))/\OldK s₁.heap s'.heap/\s'.os=s₁.os/\AllBare s'.gens) s₁):
  WalkO q loose XP YP l.row.toRowW d [] (λf vs=>PySem.call f vs):=by
 intro w s₀ s₁ mg mb G Y fa o pm cd doc dV kV ho hd hcd hD hmg hg args vals as hpre hlay hrd hwl hlo
 obtain rfl:dV=.none:=Dflts.none hD hdf
 obtain rfl:kV=.none:=Dflts.noKw hD
 obtain⟨a,vs,ns,rfl,rfl,hobj,hints,hlen⟩:=zL hn hpre hwl
 refine enter_call (codeAny_mono (call w s₀ s₁ mg mb fa o pm cd doc a vs ns G Y ho (fd_plain hd) hcd hmg hobj hints hlen hg) λr s' hq=>?_)
 obtain⟨rfl,h2,h3,h4⟩:=hq
 exact⟨.inl ⟨.bool true,.bool true,[],rfl,λ_=>rfl,.bool true,zT l _,λ_=>⟨List.Pairwise.nil,λ_ hm=>(nomatch hm)⟩⟩,h2,h3,h4⟩
section
variable {prog:Program} {w:World} {A:Around} {E:Value->Shared->Prop} {s:Shared} {K:Frag}
end
end Ze
namespace L2
open PySem PySem.Spec PyProof.Rows
theorem qQ:∀{vs:List Value}{ns:List Int},IntsAre vs ns->Vals (ns.map V.int) vs
 |_,_,.nil=>.nil
 |_,_,.cons n t h=>.cons ⟨t,rfl⟩ (qQ h)
def inClass(s:Stmt)(j:Nat):Stmt:=match s with
 |.ClassDef _ _ _ body _ _ _ _ _ _ _=>body.getD j (.Pass ⟨0,0,0,0⟩)
 |_=>.Pass ⟨0,0,0,0⟩
def aJ(s:Stmt):Arguments:=match s with
 |.FunctionDef _ a _ _ _ _ _ _ _ _=>a
 |_=>{posonlyargs:=[],args:=[],vararg:=none,kwonlyargs:=[],kw_defaults:=[],kwarg:=none,defaults:=[]}
def aG(s:Stmt):List Stmt:=match s with
 |.FunctionDef _ _ b _ _ _ _ _ _ _=>b
 |_=>[]
def aq(s:Stmt):Scope:=match s with
 |.FunctionDef _ _ _ _ _ _ sc _ _ _=>sc
 |_=>{kind:=.function,names:=[],isGenerator:=false,isCoroutine:=false}
abbrev jj:Bd:=λ_ _ _ _ _ _=>False
abbrev E0:XK:=λ_ _ _=>False
theorem gM{X:Cx}:Passes jj X E0:=λ_ _ _ _ _ _ _ h=>h.elim
structure Sd(K:Fg7)(x qual:Str)(st:Stmt)(f:Addr)(fd:FuncData):Prop where
 ex:∃(oc:Value) (od:Option Addr) (kV doc pm:Value) (an:Option Addr) (cdv ct:Value) (osl:Array (Option Value)),
  fd=PySem.W.fnOf x qual (aJ st) (aG st) (aq st) .none kV doc pm an cdv ct/\K.lookup f=some ⟨oc,od,.func fd,osl⟩/\PySem.W.codeIn K cdv qual=true
 kp:PySem.W.keepIn K (.ref f)=true
section
variable {P:Program} {w:World} {K:Fg7} {mg:Str->Option Value} {base:Heap}
theorem Sd.ok{x qual:Str}{st:Stmt}{f:Addr}{fd:FuncData}{N ps:List Str}{k:Nat}{sp:Sp}(F:Sd K x qual st f fd)(S:aS N ps (aq st))(len:∀vs H Q E,sp vs H Q E->vs.length=ps.length)
  (hbody:∀(cdv:Value)(A:Around)(outer:List Env)(s:Shared)(H:Hp)(vs:List V)(Q:VK)(E:XK),dj k (A.deeper (envOfC qual (aq st) s.heap.objs.size f cdv))->sp vs H Q E->
   ∃t,ug (oG jj P w K mg base N qual (aq st) f cdv A outer s H E).ER (aG st) t/\t {nx:=λ_ H'=>Q .dI H',rt:=Q} (start N vs) H):nF P w K mg base jj (k+1) f fd ps sp:=by
 obtain⟨oc,od,kV,doc,pm,an,cdv,ct,osl,rfl,lk,hcd⟩:=F.ex
 refine JK lk hcd S len λA outer s H vs Q E hr uf=>?_
 obtain⟨t,h,q⟩:=hbody cdv A outer s H vs Q E hr uf
 exact⟨t,h.ER,q⟩
theorem DY{x qual:Str}{st:Stmt}{f:Addr}{oc:Value}{od an:Option Addr}{osl:Array (Option Value)}{kV doc pm cdv ct:Value}(l:K.lookup f=some ⟨oc,od,.func (PySem.W.fnOf x qual (aJ st) (aG st) (aq st) .none kV doc pm an cdv ct),osl⟩)
  (c:PySem.W.codeIn K cdv qual=true)(k:PySem.W.keepIn K (.ref f)=true):Sd K x qual st f (PySem.W.fnOf x qual (aJ st) (aG st) (aq st) .none kV doc pm an cdv ct):=⟨⟨oc,od,kV,doc,pm,an,cdv,ct,osl,rfl,l,c⟩,k⟩
end
theorem vB{A:Around}{k:Nat}(hr:dj k A):A.units+1<cLine:=Nat.lt_of_le_of_lt (Nat.add_le_add_left (by decide:1<=64) _) hr.units
theorem zJ{n:Nat}(h:n<=1000):n<sizeLine:=Nat.lt_of_le_of_lt h (by decide)
section
variable {X:Cx}
theorem pv(i:Nat){x:Str}{pos:Pos}(hN:X.N[i]? = some x:=by rfl)(hv:Ti X.env.scope x:=by first|exact Or.inl rfl|exact Or.inr (Or.inl rfl)|exact Or.inr (Or.inr rfl))(hd:(x==("__debug__":Str))=false:=by decide)
  (hcd:(x==("__classdict__":Str))=false:=by decide):PE X (.Name x pos) (BB i):=KG hN hv hd hcd
end
theorem DC{A B:Prop}(h:B):if false=true then A else B:=by
 rw[if_neg Bool.false_ne_true]
 exact h
theorem LF{A B:Prop}(h:A):if true=true then A else B:=by
 rw[if_pos rfl]
 exact h
theorem aT{c A B:Prop}[Decidable c](h1:c->A)(h2:¬c->B):if c then A else B:=by
 by_cases h:c
 ·rw[if_pos h]
  exact h1 h
 ·rw[if_neg h]
  exact h2 h
def av(H H':Hp):Prop:=∀b o,H b=some o->H' b=some o
theorem av.refl(H:Hp):av H H:=λ_ _ h=>h
theorem av.trans{H H1 H2:Hp}(a:av H H1)(b:av H1 H2):av H H2:=λc o h=>b c o (a c o h)
theorem av.free{H H':Hp}(e:av H H'){l:Addr}(h:H' l=Option.none):H l=Option.none:=by
 cases q:H l with
 |none=>rfl
 |some o=>
  rw[e l o q]at h
  cases h
theorem av.seq{K:Fg7}{H H':Hp}{a:Addr}{xs:List V}(e:av H H')(h:bB K H a xs):bB K H' a xs:=by
 rcases h with(h|⟨o,h⟩)|h
 ·exact .inl (.inl (e _ _ h))
 ·exact .inl (.inr ⟨o,e _ _ h⟩)
 ·exact .inr h
theorem aH:bootBuiltins "isinstance"=some (.builtin "isinstance"):=DK
theorem gG:bootBuiltins "len"=some (.builtin "len"):=DK
theorem ME:bootBuiltins "max"=some (.builtin "max"):=DK
theorem MD:bootBuiltins "min"=some (.builtin "min"):=DK
theorem f_:bootBuiltins "sorted"=some (.builtin "sorted"):=DK
theorem MB:bootBuiltins "sum"=some (.builtin "sum"):=DK
theorem pD:bootBuiltins "bool"=some (.type "bool"):=DK
theorem Hy:bootBuiltins "dict"=some (.type "dict"):=DK
theorem xJ:bootBuiltins "int"=some (.type "int"):=DK
theorem jh:bootBuiltins "list"=some (.type "list"):=DK
theorem MC:bootBuiltins "set"=some (.type "set"):=DK
theorem tP:bootBuiltins "str"=some (.type "str"):=DK
theorem lI:bootBuiltins "tuple"=some (.type "tuple"):=DK
theorem yR{n k:Nat}(hk:0<k)(h:n<2^k):n.log2<k:=by
 rcases Nat.eq_zero_or_pos n with e|e
 ·subst e
  have:Nat.log2 0=0:=by decide
  lia
 ·exact(Nat.log2_lt (Nat.ne_of_gt e)).mpr h
def xU(i:Int):Prop:= -(10^100)<i/\i<10^100
set_option exponentiation.threshold 500 in
theorem xU.nat{i:Int}(h:xU i):i.natAbs<2^400:=by
 have h1: -(10^100:Int)<i:=h.1
 have h2:i<(10^100:Int):=h.2
 have e:(10:Int)^100<2^400:=by decide
 lia
theorem xU.bits{i:Int}(h:xU i):Builtin.Int.intBits i<=2^20:=by
 unfold Builtin.Int.intBits
 split
 ·exact Nat.zero_le _
 ·have:=yR (by decide) h.nat
  lia
theorem xU.OG{i j:Int}(h:xU j):Builtin.divisionGoesByPylong i j=false:=
 PyProof.noPylong_of_log2 (Nat.lt_trans (yR (by decide) h.nat) (by decide))
section
variable {X:Cx}
theorem Gs:iy X (binaryOp .Mult) (rI (λi j=>xU i/\xU j) λi j=>.int (i*j)):=Sw λ_ _ _ _ _ _ _ hc q=>mul_int q (.of_bits hc.1.bits hc.2.bits)
theorem CU:iy X (binaryOp .FloorDiv) (rI (λ_ j=>0<j/\xU j) λi j=>.int (i/j)):=Sw λi j _ _ _ _ _ hc q=>by
 have h1:(0:Int)<j:=hc.1
 exact floordiv_int LI (by rw[Int.fdiv_eq_ediv_of_nonneg i LI];exact q) (.inl hc.2.OG)
end
def EE(lo st:Int)(n:Nat):It:=⟨λi _=>i<n,λi H x H'=>H'=H/\x=.int (lo+i*st),λi _=>n<=i⟩
theorem ur{P:Program}{w:World}{K:Fg7}{tg:Expr}(it:Addr)(lo st:Int)(n:Nat):Turn P w K tg (EE lo st n) [it] it (λi h=>IsRangeIter h it (lo+(i:Nat)*st) ((n:Int)-(i:Nat)) st)where
 mem:=by simp
 obj:=λi h st b hb=>by
  have e:b=it:=by simpa using hb
  subst e
  exact⟨_,st,λv z=>by
   have z':Data.fields _=Data.cell v:=z
   cases z'⟩
 keep:=λi h h' st k=>k it (by simp) _ st
 item:=by
  intro X hP hw hK hc i pins s σ H E I hf st' hg
  subst hP hw hK
  obtain⟨f0,f1,f2,f3,f4,f5⟩:=hf it (by simp)
  have W:=Walks.range (prog:=X.prog) (w:=X.w) (I.ok.hd hc) it lo st n
  refine W.item i s _ _ hg st' λv h' tk hv st'' kk=>?_
  obtain⟨t,rfl⟩:=hv
  have I1:Inv X pins σ H {s with heap:=h',toks:=tk}:=I.turned (λb o hb e=>kk b o (by simpa using hb) e) f0 f1 f3 f4 f5
  exact⟨_,rfl,rG (s:={s with heap:=h',toks:=tk}) (n:="range_iterator") st'' rfl rfl (by decide) ⟨.int (lo+i*st),H,I1,⟨t,rfl⟩,⟨rfl,rfl⟩,st'',λb hb=>(hf b hb).1⟩⟩
 done:=by
  intro X hP hw hK hc i pins s σ H E I hf st' hg
  subst hP hw hK
  obtain⟨f0,f1,f2,f3,f4,f5⟩:=hf it (by simp)
  exact wpAny_pyNext_range_end (I.ok.hd hc) st' (by have:n<=i:=hg;lia) λh' eb=>⟨rfl,I.turned (t':=s.toks) (λb o hb e=>eb b o hb e) f0 f1 f3 f4 f5⟩
 self:=λ_ _ _ _ _ st' h=>wpAny_pyIter_rangeiter st' h
theorem zB{P:Program}{w:World}{K:Fg7}{tg:Expr}(it:Addr)(lo st:Int)(n:Nat):Turn P w K tg (EE lo st n) [it] it (λi h=>IsLongIter h it (lo+(i:Nat)*st) ((n:Int)-(i:Nat)) st)where
 mem:=by simp
 obj:=λi h st b hb=>by
  have e:b=it:=by simpa using hb
  subst e
  exact⟨_,st,λv z=>by
   have z':Data.fields _=Data.cell v:=z
   cases z'⟩
 keep:=λi h h' st k=>k it (by simp) _ st
 item:=by
  intro X hP hw hK hc i pins s σ H E I hf st' hg
  subst hP hw hK
  obtain⟨f0,f1,f2,f3,f4,f5⟩:=hf it (by simp)
  have W:=Walks.longrange (prog:=X.prog) (w:=X.w) (I.ok.hd hc) it lo st n
  refine W.item i s _ _ hg st' λv h' tk hv st'' kk=>?_
  obtain⟨t,rfl⟩:=hv
  have I1:Inv X pins σ H {s with heap:=h',toks:=tk}:=I.turned (λb o hb e=>kk b o (by simpa using hb) e) f0 f1 f3 f4 f5
  exact⟨_,rfl,rG (s:={s with heap:=h',toks:=tk}) (n:="longrange_iterator") st'' rfl rfl (by decide) ⟨.int (lo+i*st),H,I1,⟨t,rfl⟩,⟨rfl,rfl⟩,st'',λb hb=>(hf b hb).1⟩⟩
 done:=by
  intro X hP hw hK hc i pins s σ H E I hf st' hg
  subst hP hw hK
  obtain⟨f0,f1,f2,f3,f4,f5⟩:=hf it (by simp)
  exact wpAny_pyNext_long_end (I.ok.hd hc) st' (by have:n<=i:=hg;lia) λh' eb=>⟨rfl,I.turned (t':=s.toks) (λb o hb e=>eb b o hb e) f0 f1 f3 f4 f5⟩
 self:=λ_ _ _ _ _ st' h=>wpAny_pyIter_longiter st' h
theorem sI(a b c:Int):0<=Builtin.Range.rangeSize a b c:=by
 unfold Builtin.Range.rangeSize
 split<;>split<;>first|lia|(have:=Int.ediv_nonneg (a:=b-a-1) (b:=c) LI LI;lia)|(have:=Int.ediv_nonneg (a:=a-b-1) (b:= -c) LI LI;lia)
def kT(lo hi st:Int):Nat:=(Builtin.Range.rangeSize lo hi st).toNat
theorem CA(lo hi:Int):kT lo hi 1=(hi-lo).toNat:=by
 unfold kT
 rw[rangeSize_one]
 split<;>lia
section
variable {X:Cx} {tg:Expr}
theorem rj{pins:List (Addr×Obj)}{σ:St}{H:Hp}{s:Shared}{R:It->Hp->Prop}{E:Value->Shared->Prop}{lo hi st:Int}{t u v:Tok}{tk:Nat}(I:Inv X pins σ H s)
  (q:R (EE lo st (kT lo hi st)) H):wpAny (model X.prog X.w) X.A (pyIter (.ref s.heap.objs.size)) (Tj X pins σ tg R) E {s with heap:=s.heap.push {cls:=.type "range",data:=.fields #[.int lo t,.int hi u,.int st v]},toks:=tk}:=by
 have I1:Inv X pins σ H {s with heap:=s.heap.push {cls:=.type "range",data:=.fields #[.int lo t,.int hi u,.int st v]},toks:=tk}:=I.kept λb o e=>Heap.get?_push_of_some _ e
 have e1:lo+((0:Nat):Int)*st=lo:=by simp
 have e2:((kT lo hi st:Nat):Int)-((0:Nat):Int)=Builtin.Range.rangeSize lo hi st:=by
  have:=sI lo hi st
  unfold kT
  lia
 have YB:∀b∈[(s.heap.push {cls:=.type "range",data:=.fields #[.int lo t,.int hi u,.int st v]}).objs.size],fq X pins H b:=λb hb=>by
  have e:b=(s.heap.push {cls:=.type "range",data:=.fields #[.int lo t,.int hi u,.int st v]}).objs.size:=by simpa using hb
  subst e
  exact I1.qf (Nat.le_refl _) (I1.hok.fresh (Nat.le_refl _))
 cases hsm:Builtin.Range.small lo hi st with
 |true=>
  refine wpAny_pyIter_range (IsRange.new ..) hsm ?_
  refine⟨(s.heap.push {cls:=.type "range",data:=.fields #[.int lo t,.int hi u,.int st v]}).objs.size,[(s.heap.push {cls:=.type "range",data:=.fields #[.int lo t,.int hi u,.int st v]}).objs.size],_,_,H,rfl,
   I1.kept (t':=tk) λb o e=>Heap.get?_push_of_some _ e,ur _ lo st (kT lo hi st),?_,YB,q⟩
  show IsRangeIter _ _ (lo+((0:Nat):Int)*st) (((kT lo hi st:Nat):Int)-((0:Nat):Int)) st
  rw[e1,e2]
  exact Heap.get?_push_size _ rfl
 |false=>
  refine wpAny_pyIter_longrange (IsRange.new ..) hsm ?_
  refine⟨(s.heap.push {cls:=.type "range",data:=.fields #[.int lo t,.int hi u,.int st v]}).objs.size,[(s.heap.push {cls:=.type "range",data:=.fields #[.int lo t,.int hi u,.int st v]}).objs.size],_,_,H,rfl,
   I1.kept (t':=tk) λb o e=>Heap.get?_push_of_some _ e,zB _ lo st (kT lo hi st),?_,YB,q⟩
  show IsLongIter _ _ (lo+((0:Nat):Int)*st) (((kT lo hi st:Nat):Int)-((0:Nat):Int)) st
  rw[e1,e2]
  exact Heap.get?_push_size _ rfl
inductive yX(R:It->Hp->Prop)(vs:List V)(H1:Hp):Prop
 |mk(i j:Int):(vs=[.int i,.int j])->(R (EE i 1 (kT i j 1)) H1)->yX R vs H1
def LK(ta:TA):TI:=λσ H R=>ta σ H λvs H1=>yX R vs H1
inductive yW(R:It->Hp->Prop)(vs:List V)(H1:Hp):Prop
 |mk(i j k:Int):(vs=[.int i,.int j,.int k])->((0<k/\xU k))->(R (EE i k (kT i j k)) H1)->yW R vs H1
def LJ(ta:TA):TI:=λσ H R=>ta σ H λvs H1=>yW R vs H1
theorem wN{a b:Expr}{ta:TA}{p pos:Pos}(hg:Gl X "range")(hm:X.mg "range"=none)(ha:PA X [a,b] ta)(hs:starEach [a,b] X.env=[(false,eval a X.env),(false,eval b X.env)]:=by rfl)(hs2:starEach [b] X.env=[(false,eval b X.env)]:=by rfl):
  PI X tg (.Call (.Name "range" p) [a,b] [] pos) (LK ta):=by
 intro pins s σ H R I h
 refine Call_ (ie I hg hm boot_range (PyProof.Rows.callWith_type1 (cW (ha pos pins s σ H _ I h) λus s1 ⟨vs,H1,I1,r1,q1⟩=>?_) (by rw[hs,hs2]) (by rw[hs2];rfl)))
 obtain⟨i,j,e,q⟩:=q1
 subst e
 cases r1 with
 |cons r rr=>
  cases rr with
  |cons r' rr=>
   cases rr
   obtain⟨t,rfl⟩:=r
   obtain⟨t',rfl⟩:=r'
   exact call_range_2 (rj I1 q)
theorem wM{a b c:Expr}{ta:TA}{p pos:Pos}(hg:Gl X "range")(hm:X.mg "range"=none)(ha:PA X [a,b,c] ta)(hs:starEach [a,b,c] X.env=(false,eval a X.env)::starEach [b,c] X.env:=by rfl)
  (hs2:starEach [b,c] X.env=[(false,eval b X.env),(false,eval c X.env)]:=by rfl):
  PI X tg (.Call (.Name "range" p) [a,b,c] [] pos) (LJ ta):=by
 intro pins s σ H R I h
 refine Call_ (ie I hg hm boot_range (PyProof.Rows.callWith_type1 (cW (ha pos pins s σ H _ I h) λus s1 ⟨vs,H1,I1,r1,q1⟩=>?_) hs (by rw[hs2];rfl)))
 obtain⟨i,j,k,e,⟨hk,hf⟩,q⟩:=q1
 subst e
 cases r1 with
 |cons r rr=>
  cases rr with
  |cons r' rr=>
   cases rr with
   |cons r'' rr=>
    cases rr
    obtain⟨t,rfl⟩:=r
    obtain⟨t',rfl⟩:=r'
    obtain⟨t'',rfl⟩:=r''
    exact call_range_3 LI (rj (tk:=s1.toks) I1 q) (.inl hf.OG)
end
theorem xC{lo st:Int}{n:Nat}{g:TG}{tb:TS}{D:Ends}{σ:St}{H:Hp}(Pv:Nat->St->Hp->Prop)(h0:Pv 0 σ H)
  (hs:∀i σ H,i<n->Pv i σ H->g (.int (lo+i*st)) σ H λσ2 H2=>tb {D with nx:=Pv (i+1),ct:=Pv (i+1),bk:=D.nx} σ2 H2)(hd:∀σ H,Pv n σ H->D.nx σ H):
  ∃W:Nat->Nat->St->Hp->Prop,(∃m,W 0 m σ H)/\∀i m σ H,W i m σ H->
   ((EE lo st n).stop i H/\D.nx σ H)\/((EE lo st n).go i H/\∃N:St->Hp->Prop,(∀σ' H',N σ' H'->∃m',m'<m/\W (i+1) m' σ' H')/\∀x H',(EE lo st n).Bp i H x H'->g x σ H' λσ2 H2=>tb {D with nx:=N,ct:=N,bk:=D.nx} σ2 H2):=by
 refine⟨λi m σ H=>m=n-i/\i<=n/\Pv i σ H,⟨n,by simp,Nat.zero_le _,h0⟩,?_⟩
 rintro i m σ H ⟨rfl,hi,p⟩
 by_cases hlt:i<n
 ·refine .inr ⟨hlt,Pv (i+1),λσ' H' p'=>⟨n-(i+1),by lia,rfl,hlt,p'⟩,λx H' y=>?_⟩
  obtain⟨e,y⟩:=y
  subst e y
  exact hs i σ _ hlt p
 ·have e:i=n:=by lia
  subst e
  exact .inl ⟨Nat.le_refl _,hd σ H p⟩
theorem iU{prog:Program}{w:World}{A:Around}{R:Result->Shared->Prop}{s:Shared}{elt target iter:Expr}{ifs:List Expr}{scope:Scope}{pos:Pos}{it acc:Value}{env:Env}(I:Nat->Shared->Prop)
  (turn:∀n s,I n s->wpAny (model prog w) A (pyNext it) (λr s₁=>match r with
   |none=>R (.ok .next) s₁
   |some v=>wpAny (model prog w) A (letOwnedTupleGo target it v) (λ_ s₁'=>wpAny (model prog w) A (assign target env v) (λ_ s₂=>
     wpAny (model prog w) A (forIn ifs true λc r=>if r=true then do let ok ←isTrue c env (eval c env);pure (ForInStep.yield ok)else pure (ForInStep.yield r)) (λok s₃=>
      if ok=true then wpAny (model prog w) A (eval elt env) (λx s₄=>
       wpAny (model prog w) A (call (.builtin "list.append") [acc,x]) (λ_ s₅=>∃m,m<n/\I m s₅) (notedBy (model prog w) A env λe s'=>R (.error e) s') s₄) (notedBy (model prog w) A env λe s'=>R (.error e) s') s₃
      else∃m,m<n/\I m s₃) (notedBy (model prog w) A env λe s'=>R (.error e) s') s₂) (notedBy (model prog w) A env λe s'=>R (.error e) s') s₁') (notedBy (model prog w) A env λe s'=>R (.error e) s') s₁)
   (notedBy (model prog w) A env λe s'=>R (.error e) s') s)
  (n:Nat)(h:I n s):
  codeAny (model prog w) A (.compLoop (.ListComp elt [⟨target,iter,ifs,0⟩] scope pos) 0 it acc env) R s:=by
 refine codeAny_loop rfl I (λn s hI=>?_) n h
 show wpAny _ A ((compTurn (.ListComp elt [⟨target,iter,ifs,0⟩] scope pos) 0 it acc env).onRaise (λx=>do noteFrame x env;theTreesLotGoes x)) _ _ s
 refine wpAny_noted ?_
 rw[compTurn_list]
 refine wpAny_bind (wpAny_standAt (wpAny_bind (wpAny_mono (turn n s hI) (λr s₁ h₁=>?_) λ_ _ h'=>h')))
 cases r with
 |none=>exact wpAny_pure h₁
 |some v=>
  refine wpAny_bind (wpAny_mono h₁ (λ_ s₁' h₁'=>?_) λ_ _ h'=>h')
  refine wpAny_bind (wpAny_mono h₁' (λ_ s₂ h₂=>wpAny_bind (wpAny_mono h₂ (λok s₃ h₃=>?_) λ_ _ h'=>h')) λ_ _ h'=>h')
  cases ok with
  |false=>exact wpAny_pure ⟨rfl,h₃⟩
  |true=>
   exact wpAny_bind (wpAny_bind (wpAny_mono h₃ (λx s₄ h₄=>wpAny_bind (wpAny_mono h₄ (λ_ s₅ h₅=>wpAny_pure (wpAny_pure ⟨rfl,h₅⟩)) λ_ _ h'=>h')) λ_ _ h'=>h'))
def AS(X:Cx)(ifs:List Expr)(t:TT):Prop:=
 ∀(pins:List (Addr×Obj))(s:Shared)(σ:St)(H:Hp)(Q:Bool->Hp->Prop),Inv X pins σ H s->t σ H Q->
  wpAny (model X.prog X.w) X.A (forIn ifs true λc r=>if r=true then do let ok ←isTrue c X.env (eval c X.env);pure (ForInStep.yield ok)else pure (ForInStep.yield r)) (TP X pins σ Q) X.xe s
def T_:TT:=λ_ H Q=>Q true H
theorem dU{X:Cx}:AS X [] T_:=λ_ _ _ H _ I h=>by
 rw[List.forIn_nil]
 exact wpAny_pure ⟨H,I,h⟩
theorem ic{X:Cx}{c:Expr}{t:TT}(h:PT X c t):AS X [c] t:=λpins s σ H Q I hw=>wpAny_tests_one (h pins s σ H Q I hw)
def c_(js:List (Option Nat))(σ:St):St:=js.map λo=>o.bind λj=>(σ[j]?).join
def vQ(σ' σ:St):Prop:=σ'.length=σ.length/\∀(i:Nat) v,σ'[i]? = some (some v)->σ[i]? = some (some v)
def BK(wi:TI)(g:TG)(tc:TT)(te:TE)(js:List (Option Nat)):TE:=λσ H Q=>wi σ H λJ H1=>∀D,H1 D=none->∃W:Nat->Nat->List V->Hp->Prop,(∃m,W 0 m [] (upd H1 D (.lst [])))/\
 ∀i m xs H,W i m xs H->H D=some (.lst xs)/\((J.stop i H/\Q (.ref D) H)\/(J.go i H/\∃N:List V->Hp->Prop,(∀ys H',N ys H'->∃m',m'<m/\W (i+1) m' ys H')/\∀x H',J.Bp i H x H'->g x (c_ js σ) H' λσ2 H2=>vQ (c_ js σ) σ2/\tc σ2 H2 λb H3=>
  if b=true then te σ2 H3 λv H4=>∃ys,H4 D=some (.lst ys)/\ys.length<sizeLine/\N (ys++[v]) (upd H4 D (.lst (ys++[v])))
  else∃ys,N ys H3))
def cZ(X:Cx)(pins:List (Addr×Obj))(NY:List Str)(scope:Scope)(cl:List (Str×Addr))(fp:List Addr)(C:Addr)(s:Shared)(H:Hp):Cx:=
 {X with N:=NY,s₀:=s,H₀:=H,env:=compEnvC scope cl C X.env,outer:=X.stack,stack:=X.stack,ex:=fp,fn:=λ_=>false,pn:=X.pn++pins,xe:=λ_ _=>False}
def bY(cells:List (Str×Addr)):List (Str×Addr)->Prop
 |[]=>True
 |p::r=>cells.lookup p.1=some p.2/\bY cells r
theorem bY.get{cells:List (Str×Addr)}:∀{cl:List (Str×Addr)}{y:Str}{c:Addr},bY cells cl->cl.lookup y=some c->cells.lookup y=some c
 |[],_,_,_,h=>by simp at h
 |(n,a)::r,y,c,⟨h1,h2⟩,h=>by
  rw[List.lookup_cons]at h
  cases e:y==n with
  |true=>
   rw[e]at h
   cases h
   rw[beq_iff_eq]at e
   rw[e]
   exact h1
  |false=>
   rw[e]at h
   exact bY.get h2 h
def gw(X:Cx)(scope:Scope):List (Option Nat)->List Str->Prop
 |[],[]=>True
 |none::js,_::N=>gw X scope js N
 |some j::js,x::N=>(X.N[j]? = some x/\scope.names.lookup x=some .free/\X.env.kindOf x≠some .local/\(X.env.kindOf x=some .cell\/X.env.kindOf x=some .free))/\gw X scope js N
 |_,_=>False
theorem gw.len{X:Cx}{scope:Scope}:∀{js:List (Option Nat)}{N:List Str},gw X scope js N->js.length=N.length
 |[],[],_=>rfl
 |none::js,_::N,h=>by
  have h':gw X scope js N:=h
  rw[List.length_cons,List.length_cons,h'.len]
 |some j::js,x::N,h=>by
  have h':gw X scope js N:=h.2
  rw[List.length_cons,List.length_cons,h'.len]
 |[],_::_,h=>h.elim
 |none::_,[],h=>h.elim
 |some _::_,[],h=>h.elim
theorem gw.get{X:Cx}{scope:Scope}:∀{js:List (Option Nat)}{N:List Str}{i j:Nat}{x:Str},gw X scope js N->js[i]? = some (some j)->N[i]? = some x->
  X.N[j]? = some x/\scope.names.lookup x=some .free/\X.env.kindOf x≠some .local/\(X.env.kindOf x=some .cell\/X.env.kindOf x=some .free)
 |[],[],_,_,_,_,e,_=>by simp at e
 |none::js,y::N,0,_,_,_,e,_=>by simp at e
 |none::js,y::N,i+1,_,_,h,e,e'=>gw.get (js:=js) (N:=N) (i:=i) h (by simpa using e) (by simpa using e')
 |some j'::js,y::N,0,_,_,h,e,e'=>by
  simp at e e'
  subst e e'
  exact h.1
 |some j'::js,y::N,i+1,_,_,h,e,e'=>gw.get (js:=js) (N:=N) (i:=i) h.2 (by simpa using e) (by simpa using e')
 |[],_::_,_,_,_,h,_,_=>h.elim
 |none::_,[],_,_,_,h,_,_=>h.elim
 |some _::_,[],_,_,_,h,_,_=>h.elim
theorem fN{env:Env}:∀{names:List (Str×NameKind)}{x:Str},names.lookup x=some .free->
    ((names.map λ(n,k)=>if(k==NameKind.free&&env.scope.kind == .function&&env.kindOf n==some .cell)then(n,NameKind.cell)else(n,k)).lookup x=some .cell\/
     (names.map λ(n,k)=>if(k==NameKind.free&&env.scope.kind == .function&&env.kindOf n==some .cell)then(n,NameKind.cell)else(n,k)).lookup x=some .free)
  |[],_,h=>by simp at h
  |(n,k)::r,x,h=>by
    have ih:= @fN env r x
    simp only[List.map_cons]
    cases hx:x==n with
    |true=>
      simp only[List.lookup_cons,hx]at h
      cases h
      by_cases hc:(NameKind.free==NameKind.free&&env.scope.kind == .function&&env.kindOf n==some .cell)=true
      · rw[if_pos hc];simp only[List.lookup_cons,hx];simp
      · rw[if_neg hc];simp only[List.lookup_cons,hx];simp
    |false=>
      simp only[List.lookup_cons,hx]at h
      by_cases hc:(k==NameKind.free&&env.scope.kind == .function&&env.kindOf n==some .cell)=true
      · rw[if_pos hc];simp only[List.lookup_cons,hx];exact ih h
      · rw[if_neg hc];simp only[List.lookup_cons,hx];exact ih h
theorem uS{env:Env}{scope:Scope}{x:Str}{k:NameKind}(hcell:∀y∈scope.names,y.2≠.cell)(h:(relabel scope env).names.lookup x=some k)(hk:k=.cell\/k=.free):∃y∈scope.names,y.1=x/\y.2=.free:=by
 have hm:=PySem.mem_of_lookup h
 have hm':(x,k)∈scope.names.map λ(n,k)=>if(k==NameKind.free&&env.scope.kind == .function&&env.kindOf n==some .cell)then(n,NameKind.cell)else(n,k):=hm
 obtain⟨⟨n,k'⟩,hy,e⟩:=List.mem_map.mp hm'
 by_cases hc:(k'==NameKind.free&&env.scope.kind == .function&&env.kindOf n==some .cell)=true
 ·have e':(n,NameKind.cell)=(x,k):=by rw[←e];exact(if_pos hc).symm
  injection e' with e1 e2
  have hc2:k'=NameKind.free:=by
   rw[Bool.and_eq_true,Bool.and_eq_true]at hc
   simpa using hc.1.1
  exact⟨(n,k'),hy,e1,hc2⟩
 ·have e':(n,k')=(x,k):=by rw[←e];exact(if_neg hc).symm
  injection e' with e1 e2
  rcases hk with hk|hk
  ·exact absurd (e2.trans hk) (hcell _ hy)
  ·exact⟨(n,k'),hy,e1,e2.trans hk⟩
section
variable {X:Cx}
theorem Hu{pins:List (Addr×Obj)}{σ:St}{H:Hp}{s:Shared}{NY:List Str}{scope:Scope}{cl:List (Str×Addr)}{fp:List Addr}(I:Inv X pins σ H s)(hkind:scope.kind=.function)
  (hcell:∀y∈scope.names,y.2≠.cell)(hcl:bY X.env.cells cl)(hfr:∀y∈scope.names,y.2=.free->(cl.lookup y.1).isSome=true)(hf:∀b∈fp,fq X pins H b)(ho:∀b∈fp,∃o,s.heap.get? b=some o):
  (cZ X pins NY scope cl fp s.heap.objs.size s H).Ok where
 mod:=I.ok.mod
 kind:=hkind
 glob:=I.ok.glob
 blt:=I.ok.blt
 above:=Nat.le_refl _
 inj:=λx y c h1 h2=>I.ok.inj x y c (hcl.get h1) (hcl.get h2)
 has:=λx hx=>by
  have h:∃k,(relabel scope X.env).names.lookup x=some k/\(k=.cell\/k=.free):=by
   rcases hx with hx|hx
   ·exact⟨_,hx,.inl rfl⟩
   ·exact⟨_,hx,.inr rfl⟩
  obtain⟨k,h1,h2⟩:=h
  obtain⟨y,hy,e1,e2⟩:=uS hcell h1 h2
  have:=hfr y hy e2
  rw[e1]at this
  exact Option.isSome_iff_exists.mp this
 Nq:=λx c h=>absurd h Bool.false_ne_true
 hd:=I.ok.hd
 frames:=I.ok.frames
 stk:=.inl rfl
 Te:=λb hb=>by
  obtain⟨f0,f1,f2,f3,f4,f5⟩:=hf b hb
  obtain⟨o,e⟩:=ho b hb
  exact⟨Nat.ne_of_lt (Heap.lt_size e),λx c h=>f4 x c (hcl.get h)⟩
 bs:=I.bs
 Es:=Nat.le_trans I.ok.Es I.sz
 z_:=λb o e hb=>by
  obtain⟨f0,f1,f2,f3,f4,f5⟩:=hf b hb
  rcases f3 with z|z
  ·exact I.ok.z_ b o e z
  ·exact absurd (Nat.lt_of_lt_of_le (Heap.lt_size e) (Nat.le_trans I.ok.Es z)) (Nat.lt_irrefl _)
 AF:=λb hb hfs=>by
  obtain⟨f0,f1,f2,f3,f4,f5⟩:=hf b hb
  rcases List.mem_cons.mp (I.r_ b hfs)with z|z
  ·exact f1 z
  ·exact f2 z
 ni:=I.stack
 JJ:=I.se
theorem qV{js:List (Option Nat)}{σ:St}{i:Nat}{v:V}(h:(c_ js σ)[i]? = some (some v)):∃j,js[i]? = some (some j)/\σ[j]? = some (some v):=by
 unfold c_ at h
 rw[List.getElem?_map]at h
 cases e:js[i]? with
 |none=>rw[e]at h;cases h
 |some o=>
  rw[e]at h
  have h':(o.bind λj=>(σ[j]?).join)=some v:=Option.some.inj h
  cases o with
  |none=>cases h'
  |some j=>
   have h'':(σ[j]?).join=some v:=h'
   refine⟨j,rfl,?_⟩
   cases e2:σ[j]? with
   |none=>rw[e2]at h'';cases h''
   |some w=>
    rw[e2]at h''
    cases w with
    |none=>cases h''
    |some u=>
     have:u=v:=Option.some.inj h''
     rw[this]
theorem En{pins:List (Addr×Obj)}{σ:St}{H:Hp}{s:Shared}{h':Heap}{NY:List Str}{js:List (Option Nat)}{scope:Scope}{cl:List (Str×Addr)}{fp:List Addr}{t':Nat}{m':Str->Option Value}(I:Inv X pins σ H s)(hkind:scope.kind=.function)
  (hcell:∀y∈scope.names,y.2≠.cell)(hcl:bY X.env.cells cl)(hfr:∀y∈scope.names,y.2=.free->(cl.lookup y.1).isSome=true)(Ju:gw X scope js NY)(hf:∀b∈fp,fq X pins H b)(ho:∀b∈fp,∃o,s.heap.get? b=some o)
  (hk:∀b o,s.heap.get? b=some o->h'.get? b=some o)(hn:h'.Ns s.heap.objs.size m'):
  Inv (cZ X pins NY scope cl fp s.heap.objs.size s H) [] (c_ js σ) H {s with heap:=h',toks:=t'}where
 ok:=Hu I hkind hcell hcl hfr hf ho
 os:=rfl
 bare:=I.bare
 base:=Un.kept hk
 loc:=by
  obtain⟨m,hnX,hl⟩:=I.loc
  refine⟨m',hn,λi x v e1 e2 e3=>?_⟩
  obtain⟨j,ej,ev⟩:=qV e2
  obtain⟨a1,a2,a3,a4⟩:=Ju.get ej e1
  have vis:Ti X.env.scope x:=by
   rcases a4 with a4|a4
   ·exact .inr (.inl a4)
   ·exact .inr (.inr a4)
  obtain⟨u,ru,lk⟩:=hl j x v a1 ev vis
  refine⟨u,ru,?_⟩
  rcases lk with⟨k,_⟩|⟨_,c,ec,hc⟩
  ·exact absurd k a3
  ·have h1:∃c',cl.lookup x=some c':=by
    have:=hfr (x,.free) (PySem.mem_of_lookup a2) rfl
    exact Option.isSome_iff_exists.mp this
   obtain⟨c',YK⟩:=h1
   have e4:=hcl.get YK
   rw[ec]at e4
   cases e4
   refine .inr ⟨?_,c,YK,?_⟩
   ·exact fN a2
   ·obtain⟨o,h1,h2⟩:=hc
    exact⟨o,hk _ _ h1,h2⟩
 cell:=λx c e=>by
  obtain⟨v,o,h1,h2⟩:=I.cell x c (hcl.get e)
  exact⟨v,o,hk _ _ h1,h2⟩
 free:=I.hok.fresh (Nat.le_refl _)
 fO:=λx c e=>I.fO x c (hcl.get e)
 pin:=λp hp=>by
  have s_:p∈(X.pn++pins)++[]:=hp
  rw[List.append_nil]at s_
  obtain⟨a1,a2,a3,a4,a5⟩:=I.pin p s_
  refine⟨hk _ _ a1,a2,Nat.ne_of_lt (Heap.lt_size a1),λz=>?_,a5⟩
  rcases List.mem_cons.mp (I.r_ p.1 z)with z|z
  ·exact a3 z
  ·exact a4 z
 hok:=I.hok.kept hk
 len:=by
  show(js.map _).length=NY.length
  rw[List.length_map]
  exact Ju.len
theorem vJ{use:Option (Value->Sem Unit)}{R:Value->Shared->Prop}{Q:VK}{pins:List (Addr×Obj)}{s:Shared}{σ:St}{H:Hp}{elt tgt iter:Expr}{ifs:List Expr}{scope:Scope}{cl:List (Str×Addr)}{pos cpos:Pos}{wi:TI}{g:TG}{tc:TT}{te:TE}{NY:List Str}{js:List (Option Nat)}(hc:X.calm=true)(hkind:scope.kind=.function)(hclos:closureFor scope X.env=pure cl)(hcl:bY X.env.cells cl)(Ju:gw X scope js NY)(hi:PI X tgt iter wi)
  (hb:∀pins fp C s H,PG (cZ X pins NY scope cl fp C s H) tgt g/\AS (cZ X pins NY scope cl fp C s H) ifs tc/\PE (cZ X pins NY scope cl fp C s H) elt te)
  (hcell:∀y∈scope.names,y.2≠.cell)(hnames:∀y∈scope.names,y.2=.local->scope.names.lookup y.1=some .local)(DQ:(scope.names.all λy=> !(y.2 == .free)||(cl.lookup y.1).isSome)=true)(hs:∀x,foldedSetIterable iter X.env x=pure x)
  (fin:∀(D C:Addr)(s6:Shared)(H5:Hp),Inv X pins σ H5 s6->fq X pins H5 C->(∃m,s6.heap.Ns C m)->Q (.ref D) H5->compPost (model X.prog X.w) X.A X.xe use R (.ref D) C (.ok .next) s6)
  (I:Inv X pins σ H s)(h:BK wi g tc te js σ H Q):wpAny (model X.prog X.w) X.A (comprehension (.ListComp elt [⟨tgt,iter,ifs,0⟩] scope pos) scope X.env cpos (newList []) false (eval iter X.env) use) R X.xe s:=by
 have hfr:∀y∈scope.names,y.2=.free->(cl.lookup y.1).isSome=true:=λy hy e=>by
  have z:=List.all_eq_true.mp DQ y hy
  rw[e]at z
  simpa using z
 refine wpAny_comprehension_free (use:=use) (g:=⟨tgt,iter,ifs,0⟩) (gs:=[]) rfl hs hclos hkind hnames (cW (hi pins s σ H _ I h) λv s1 h1=>cW h1 λitv s2 h2=>?_)
 obtain⟨it,fp,tn,J,H2,e,I2,T,st2,f2,q2⟩:=h2
 subst e
 refine wpAny_newObj_type ?_ (by show 0<=sizeLine;exact Nat.zero_le _)
 have nD:H2 s2.heap.objs.size=none:=I2.hok.fresh (Nat.le_refl _)
 obtain⟨W,⟨m0,w0⟩,turn⟩:=q2 s2.heap.objs.size nD
 have I3:Inv X pins σ (upd H2 s2.heap.objs.size (.lst [])) {s2 with heap:=s2.heap.push {cls:=.type "list",data:=.seq ([]:List Value).toArray} }:=I2.OY (t':=s2.toks) .nil (Nat.zero_le _)
 have SJ:∀b o,s2.heap.get? b=some o->(s2.heap.push {cls:=.type "list",data:=.seq ([]:List Value).toArray}).get? b=some o:=λb o e=>Heap.get?_push_of_some _ e
 have Xn:∀b∈fp,∃o,s2.heap.get? b=some o:=λb hb=>let⟨o,e,_⟩:=T.obj _ _ st2 b hb;⟨o,e⟩
 have f3:∀b∈fp,fq X pins (upd H2 s2.heap.objs.size (.lst [])) b:=λb hb=>by
  obtain⟨f0,fr⟩:=f2 b hb
  obtain⟨o,e⟩:=Xn b hb
  exact⟨by rw[ai (Nat.ne_of_lt (Heap.lt_size e))];exact f0,fr⟩
 generalize hs3:({s2 with heap:=s2.heap.push {cls:=.type "list",data:=.seq ([]:List Value).toArray} }:Shared)=s3 at I3
 have Qe:s3.heap=s2.heap.push {cls:=.type "list",data:=.seq ([]:List Value).toArray}:=by rw[←hs3]
 have st3:tn 0 s3.heap:=T.keep _ _ _ st2 λb hb o e=>by rw[Qe];exact SJ b o e
 have ZP:∀b∈fp,∃o,s3.heap.get? b=some o:=λb hb=>by
  obtain⟨o,e⟩:=Xn b hb
  exact⟨o,by rw[Qe];exact SJ b o e⟩
 refine wpAny_newFunctionEnv hcell (by intro y hy;simp at hy) (λh1 hns SQ=>?_) hkind
 have Na:∀b o,s3.heap.get? b=some o->h1.get? b=some o:=λb o e=>SQ.extBut b o (Nat.ne_of_lt (Heap.lt_size e)) (Heap.get?_push_of_some _ e)
 have IY:=En (X:=X) (NY:=NY) (js:=js) (scope:=scope) (cl:=cl) (fp:=fp) (t':=s3.toks+([]:List (Str×Value)).length) I3 hkind hcell hcl hfr Ju f3 ZP Na hns
 have WS:tn 0 h1:=T.keep _ _ _ st3 λb _ o e=>Na b o e
 have wu:∀{pl:List (Addr×Obj)}{H':Hp},(∀b∈fp,H' b=none)->(∀p∈pl,p.1∉fp)->∀b∈fp,fq (cZ X pins NY scope cl fp s3.heap.objs.size s3 (upd H2 s2.heap.objs.size (.lst []))) pl H' b:=λ{pl H'} hn hp b hb=>by
  obtain⟨g1,g2⟩:=IY.ok.Te b hb
  refine⟨hn b hb,g1,IY.ok.AF b hb,.inl hb,g2,λp s_=>?_⟩
  rcases List.mem_append.mp s_ with z|z
  ·exact(f3 b hb).2.2.2.2.2 p z
  ·intro e
   exact hp p z (e▸hb)
 have loop:∀s4:Shared,s4={s3 with heap:=h1,toks:=s3.toks+([]:List (Str×Value)).length}->
   codeAny (model X.prog X.w) X.A (.compLoop (.ListComp elt [⟨tgt,iter,ifs,0⟩] scope pos) 0 (.ref it) (.ref s2.heap.objs.size) (compEnvC scope cl s3.heap.objs.size X.env))
    (compPost (model X.prog X.w) X.A X.xe use R (.ref s2.heap.objs.size) s3.heap.objs.size) s4:=by
  rintro s4 rfl
  refine iU (λn s'=>∃i xs H',Inv (cZ X pins NY scope cl fp s3.heap.objs.size s3 (upd H2 s2.heap.objs.size (.lst []))) [] (c_ js σ) H' s'/\tn i s'.heap/\(∀b∈fp,H' b=none)/\W i n xs H') ?_ m0
   ⟨0,[],_,IY,WS,λb hb=>(f3 b hb).1,w0⟩
  rintro n s5 ⟨i,xs,H5,I5,MR,Td,w5⟩
  obtain⟨hD5,alt⟩:=turn i n xs H5 w5
  obtain⟨bG,bI,bE⟩:=hb pins fp s3.heap.objs.size s3 (upd H2 s2.heap.objs.size (.lst []))
  rcases alt with⟨stop,qn⟩|⟨go,N,hN,step⟩
  ·refine wpAny_mono (T.done (cZ X pins NY scope cl fp s3.heap.objs.size s3 (upd H2 s2.heap.objs.size (.lst []))) rfl rfl rfl hc i [] s5 (c_ js σ) H5 (λ_ _=>False) I5 (wu Td (by simp)) MR stop) (λr s6 hr=>?_) λ_ _ z=>z.elim
   obtain⟨hr,I6⟩:=hr
   subst hr
   have I7:Inv X pins σ H5 s6:=I3.RI I6.os I6.base I6.hok I6.bare λb hb=>let⟨_,g1,_,g3,g4,g5⟩:=f3 b hb;⟨g3,g1,g4,g5⟩
   obtain⟨m6,VG,_⟩:=I6.loc
   exact fin _ _ s6 H5 I7 (I3.qf (b:=s3.heap.objs.size) (Nat.le_refl _) (show H5 s3.heap.objs.size=none from I6.free)) ⟨m6,VG⟩ qn
  ·refine wpAny_mono (T.item (cZ X pins NY scope cl fp s3.heap.objs.size s3 (upd H2 s2.heap.objs.size (.lst []))) rfl rfl rfl hc i [] s5 (c_ js σ) H5 (λ_ _=>False) I5 (wu Td (by simp)) MR go) (λr s6 hr=>?_) λ_ _ z=>z.elim
   obtain⟨u,hr,h6⟩:=hr
   subst hr
   refine wpAny_mono h6 (λ_ s7 h7=>?_) λ_ _ z=>z.elim
   obtain⟨x,H7,I7,r7,y7,Um,fr7⟩:=h7
   have I7':=I7.pinned (wu fr7 (by simp)) (T.obj _ _ Um)
   have back:∀{σ8:St}{H8:Hp}{s8:Shared},Inv (cZ X pins NY scope cl fp s3.heap.objs.size s3 (upd H2 s2.heap.objs.size (.lst []))) ([]++jJ fp s7.heap) σ8 H8 s8->tn (i+1) s8.heap/\(∀b∈fp,H8 b=none):=λ{σ8 H8 s8} I8=>by
    refine⟨T.keep _ _ _ Um λb hb o e=>(I8.pin (b,o) (List.mem_append_right _ (List.mem_append_right _ (fj hb e)))).1,λb hb=>?_⟩
    obtain⟨o,e,_⟩:=T.obj _ _ Um b hb
    exact(I8.pin (b,o) (List.mem_append_right _ (List.mem_append_right _ (fj hb e)))).2.1
   refine wpAny_mono (bG _ s7 (c_ js σ) H7 x u _ I7' r7 (step x H7 y7)) (λ_ s8 h8=>?_) λ_ _ z=>z.elim
   obtain⟨σ8,H8,I8,wk,q8⟩:=h8
   have forget:∀{H8:Hp}{s8:Shared},Inv (cZ X pins NY scope cl fp s3.heap.objs.size s3 (upd H2 s2.heap.objs.size (.lst []))) ([]++jJ fp s7.heap) σ8 H8 s8->Inv (cZ X pins NY scope cl fp s3.heap.objs.size s3 (upd H2 s2.heap.objs.size (.lst []))) [] (c_ js σ) H8 s8:=λI8=>I8.gJ.weak wk.1 wk.2
   refine wpAny_mono (bI _ s8 σ8 H8 _ I8 q8) (λok s9 h9=>?_) λ_ _ z=>z.elim
   obtain⟨H9,I9,q9⟩:=h9
   cases ok with
   |false=>
    rw[if_neg Bool.false_ne_true]at q9 ⊢
    obtain⟨ys,n9⟩:=q9
    obtain⟨m',hm,w9⟩:=hN _ _ n9
    exact⟨m',hm,i+1,ys,H9,forget I9,(back I9).1,(back I9).2,w9⟩
   |true=>
    rw[if_pos rfl]at q9 ⊢
    refine wpAny_mono (bE _ s9 σ8 H9 _ I9 q9) (λxv wI h10=>?_) λ_ _ z=>z.elim
    obtain⟨v,EF,I10,ZJ,ys,hD,hz,MW⟩:=h10
    obtain⟨m',hm,Zj⟩:=hN _ _ MW
    refine wpAny_mono (eL (X:=cZ X pins NY scope cl fp s3.heap.objs.size s3 (upd H2 s2.heap.objs.size (.lst []))) _ wI σ8 EF (.ref s2.heap.objs.size) [v] _ [xv] (λ_ WK=>WK=upd EF s2.heap.objs.size (.lst (ys++[v]))) I10 rfl (.cons ZJ .nil) ⟨_,ys,v,rfl,rfl,hD,hz,rfl⟩) (λ_ Cu h11=>?_) λ_ _ z=>z.elim
    obtain⟨_,WK,WH,_,e11⟩:=h11
    subst e11
    exact⟨m',hm,i+1,_,_,forget WH,(back WH).1,(back WH).2,Zj⟩
 exact codeAny_compStart_list (loop _ rfl) (T.self _ 0 _ _ _ WS (loop _ rfl))
theorem eT{elt tgt iter:Expr}{ifs:List Expr}{scope:Scope}{cl:List (Str×Addr)}{pos:Pos}{wi:TI}{g:TG}{tc:TT}{te:TE}{NY:List Str}{js:List (Option Nat)}(hc:X.calm=true)
  (hkind:scope.kind=.function)(hclos:closureFor scope X.env=pure cl)(hcl:bY X.env.cells cl)(Ju:gw X scope js NY)
  (hi:PI X tgt iter wi)
  (hb:∀pins fp C s H,PG (cZ X pins NY scope cl fp C s H) tgt g/\AS (cZ X pins NY scope cl fp C s H) ifs tc/\PE (cZ X pins NY scope cl fp C s H) elt te)
  (hcell:∀y∈scope.names,y.2≠.cell:=by decide)(hnames:∀y∈scope.names,y.2=.local->scope.names.lookup y.1=some .local:=by decide)
  (DQ:(scope.names.all λy=> !(y.2 == .free)||(cl.lookup y.1).isSome)=true:=by first|rfl|with_unfolding_all rfl)(hs:∀x,foldedSetIterable iter X.env x=pure x:=by intro _;rfl):
  PE X (.ListComp elt [⟨tgt,iter,ifs,0⟩] scope pos) (BK wi g tc te js):=by
 intro pins s σ H Q I h
 rw[eval_ListComp]
 refine vJ hc hkind hclos hcl Ju hi hb hcell hnames DQ hs (λD C s6 H5 I7 fC hn q=>?_) I h
 obtain⟨m6,VG⟩:=hn
 obtain⟨c0,c1,c2,c3,c4,c5⟩:=fC
 exact⟨m6,VG,λh7 Us=>⟨.ref D,H5,I7.turned (t':=s6.toks) (λb o hb e=>Us.extBut b o hb e) c0 c1 c3 c4 c5,rfl,q⟩⟩
end
theorem bQ{js:List (Option Nat)}{σ:St}{i:Nat}{v:V}(h:js[i]? = some none):vQ (c_ js σ) ((c_ js σ).set i (some v)):=by
 refine⟨by rw[List.length_set],λk u e=>?_⟩
 by_cases hk:k=i
 ·subst hk
  obtain⟨j,ej,_⟩:=qV e
  rw[h]at ej
  cases ej
 ·rw[List.getElem?_set_ne (Ne.symm hk)]
  exact e
theorem Em{lo st:Int}{n:Nat}{g:TG}{tc:TT}{te:TE}{js:List (Option Nat)}{σ:St}{H1:Hp}{D:Addr}{Q:VK}(Pv:Nat->List V->Hp->Prop)(h0:Pv 0 [] (upd H1 D (.lst [])))(hD:∀i ys H,Pv i ys H->H D=some (.lst ys))
  (hs:∀i ys H,i<n->Pv i ys H->g (.int (lo+i*st)) (c_ js σ) H λσ2 H2=>vQ (c_ js σ) σ2/\tc σ2 H2 λb H3=>
   if b=true then te σ2 H3 λv H4=>∃zs,H4 D=some (.lst zs)/\zs.length<sizeLine/\Pv (i+1) (zs++[v]) (upd H4 D (.lst (zs++[v])))else∃zs,Pv (i+1) zs H3)
  (hd:∀ys H,Pv n ys H->Q (.ref D) H):
  ∃W:Nat->Nat->List V->Hp->Prop,(∃m,W 0 m [] (upd H1 D (.lst [])))/\
   ∀i m xs H,W i m xs H->H D=some (.lst xs)/\(((EE lo st n).stop i H/\Q (.ref D) H)\/((EE lo st n).go i H/\∃N:List V->Hp->Prop,(∀ys H',N ys H'->∃m',m'<m/\W (i+1) m' ys H')/\∀x H',(EE lo st n).Bp i H x H'->g x (c_ js σ) H' λσ2 H2=>vQ (c_ js σ) σ2/\tc σ2 H2 λb H3=>
    if b=true then te σ2 H3 λv H4=>∃ys,H4 D=some (.lst ys)/\ys.length<sizeLine/\N (ys++[v]) (upd H4 D (.lst (ys++[v])))
    else∃ys,N ys H3)):=by
 refine⟨λi m ys H=>m=n-i/\i<=n/\Pv i ys H,⟨n,by simp,Nat.zero_le _,h0⟩,?_⟩
 rintro i m ys H ⟨rfl,hi,p⟩
 refine⟨hD i ys H p,?_⟩
 by_cases hlt:i<n
 ·refine .inr ⟨hlt,Pv (i+1),λzs H' p'=>⟨n-(i+1),by lia,rfl,hlt,p'⟩,λx H' y=>?_⟩
  obtain⟨e,y⟩:=y
  subst e y
  exact hs i ys _ hlt p
 ·have e:i=n:=by lia
  subst e
  exact .inl ⟨Nat.le_refl _,hd ys H p⟩
inductive Dv where
 |dI|bl(b:Bool)|int(i:Int)|str(x:Str)|tup(l:List Dv)|lst(l:List Dv)
mutual
inductive Dn(K:Fg7)(H:Hp):V->Dv->Prop
 |dI:Dn K H .dI .dI
 |bl(b:Bool):Dn K H (.bl b) (.bl b)
 |int(i:Int):Dn K H (.int i) (.int i)
 |str(x:Str):Dn K H (.str x) (.str x)
 |tup{a:Addr}{xs:List V}{ds:List Dv}:bg K H a xs->fy K H xs ds->Dn K H (.ref a) (.tup ds)
 |lst{a:Addr}{xs:List V}{ds:List Dv}:bB K H a xs->fy K H xs ds->Dn K H (.ref a) (.lst ds)
inductive fy(K:Fg7)(H:Hp):List V->List Dv->Prop
 |nil:fy K H [] []
 |cons{x:V}{xs:List V}{d:Dv}{ds:List Dv}:Dn K H x d->fy K H xs ds->fy K H (x::xs) (d::ds)
end
mutual
def Dv.dep:Dv->Nat
 |.tup l=>Dv.deps l+1
 |.lst l=>Dv.deps l+1
 |_=>0
def Dv.deps:List Dv->Nat
 |[]=>0
 |d::r=>max (Dv.dep d) (Dv.deps r)
end
/- no bool meets an int -/
mutual
def gQ:Dv->Dv->Bool
 |.bl _,.int _=>false
 |.int _,.bl _=>false
 |.tup l,.tup r=>gF l r
 |.lst l,.lst r=>gF l r
 |_,_=>true
def gF:List Dv->List Dv->Bool
 |d::l,e::r=>gQ d e&&gF l r
 |_,_=>true
end
theorem Paired.app{α β:Type}{F:α->β->Prop}{xs ys:List α}{ks ls:List β}(h:Paired F xs ks)(h':Paired F ys ls):Paired F (xs++ys) (ks++ls):=by
 induction h with
 |nil=>exact h'
 |cons r _ ih=>exact .cons r ih
theorem Paired.getL{α β:Type}{F:α->β->Prop}{xs:List α}{ks:List β}(h:Paired F xs ks):∀{i:Nat}{x:α},xs[i]? = some x->∃k,ks[i]? = some k/\F x k:=by
 induction h with
 |nil=>intro i x e;simp at e
 |cons r _ ih=>
  intro i x e
  cases i with
  |zero=>simp at e;subst e;exact⟨_,rfl,r⟩
  |succ i=>exact ih e
theorem Paired.Wd{α β:Type}{F:α->β->Prop}{xs:List α}{ks:List β}(h:Paired F xs ks):∀{i:Nat}{k:β},ks[i]? = some k->∃x,xs[i]? = some x/\F x k:=by
 induction h with
 |nil=>intro i x e;simp at e
 |cons r _ ih=>
  intro i x e
  cases i with
  |zero=>simp at e;subst e;exact⟨_,rfl,r⟩
  |succ i=>exact ih e
theorem fy.pair{K:Fg7}{H:Hp}{ds:List Dv}:∀{xs:List V},fy K H xs ds->Paired (Dn K H) xs ds:=by
 induction ds with
 |nil=>intro xs h;cases h;exact .nil
 |cons d ds ih=>intro xs h;cases h with|cons r t=>exact .cons r (ih t)
theorem fy.of{K:Fg7}{H:Hp}{xs:List V}{ds:List Dv}(h:Paired (Dn K H) xs ds):fy K H xs ds:=by
 induction h with
 |nil=>exact .nil
 |cons r _ ih=>exact .cons r ih
theorem fy.length{K:Fg7}{H:Hp}{xs:List V}{ds:List Dv}(h:fy K H xs ds):xs.length=ds.length:=Paired.length h.pair
theorem fy.get{K:Fg7}{H:Hp}{xs:List V}{ds:List Dv}{i:Nat}{d:Dv}(h:fy K H xs ds)(e:ds[i]? = some d):∃x,xs[i]? = some x/\Dn K H x d:=Paired.Wd h.pair e
theorem fy.get'{K:Fg7}{H:Hp}{xs:List V}{ds:List Dv}{i:Nat}{x:V}(h:fy K H xs ds)(e:xs[i]? = some x):∃d,ds[i]? = some d/\Dn K H x d:=Paired.getL h.pair e
theorem fy.snoc{K:Fg7}{H:Hp}{xs:List V}{ds:List Dv}{x:V}{d:Dv}(h:fy K H xs ds)(r:Dn K H x d):fy K H (xs++[x]) (ds++[d]):=fy.of (Paired.snoc h.pair r)
structure Ez(K:Fg7)(H H':Hp):Prop where
 t:∀a xs,bg K H a xs->bg K H' a xs
 l:∀a xs,bB K H a xs->bB K H' a xs
mutual
theorem Dn.stay{K:Fg7}{H H':Hp}(e:Ez K H H'):∀{v:V}{d:Dv},Dn K H v d->Dn K H' v d
 |_,_,.dI=>.dI
 |_,_,.bl b=>.bl b
 |_,_,.int i=>.int i
 |_,_,.str x=>.str x
 |_,_,.tup h t=>.tup (e.t _ _ h) (fy.stay e t)
 |_,_,.lst h t=>.lst (e.l _ _ h) (fy.stay e t)
theorem fy.stay{K:Fg7}{H H':Hp}(e:Ez K H H'):∀{vs:List V}{ds:List Dv},fy K H vs ds->fy K H' vs ds
 |_,_,.nil=>.nil
 |_,_,.cons r t=>.cons (Dn.stay e r) (fy.stay e t)
end
theorem av.jG{K:Fg7}{H H':Hp}{a:Addr}{xs:List V}(e:av H H')(h:bg K H a xs):bg K H' a xs:=by
 rcases h with(h|⟨o,h⟩)|h
 ·exact .inl (.inl (e _ _ h))
 ·exact .inl (.inr ⟨o,e _ _ h⟩)
 ·exact .inr h
theorem av.stays{K:Fg7}{H H':Hp}(e:av H H'):Ez K H H':=⟨λ_ _ h=>e.jG h,λ_ _ h=>e.seq h⟩
theorem av.new{H:Hp}{a:Addr}{o:HO}(h:H a=none):av H (upd H a o):=λb u e=>by
 rw[ai (au e h)]
 exact e
theorem in1_units(A:Around):A.in1.units=A.units+1:=by
 first|rfl|simp[Around.in1]
section
variable {X:Cx} {pins:List (Addr×Obj)} {σ:St} {H:Hp} {s:Shared}
theorem vG{A:Around}{its its2:List Value}{ds es:List Dv}(he:∀(j:Nat) u w d e,its[j]? = some u->its2[j]? = some w->ds[j]? = some d->es[j]? = some e->∃b,SeqAt.EqAt A s u w b/\(b=true↔d=e))
  (l1:its.length=ds.length)(l2:its2.length=es.length):
  ∃f:Nat->Bool,(∀j(h1:j<its.toArray.size)(h2:j<its2.toArray.size),SeqAt.EqAt A s its.toArray[j] its2.toArray[j] (f j))/\
   (((List.range (min its.length its2.length)).all f&&its.length==its2.length)=true↔ds=es):=by
 have key:∀j:Nat,∃b:Bool,(∀(h1:j<its.length)(h2:j<its2.length),SeqAt.EqAt A s its[j] its2[j] b/\(b=true↔ds[j]? = es[j]?)):=λj=>by
  by_cases h1:j<its.length
  ·by_cases h2:j<its2.length
   ·obtain⟨b,hb,hi⟩:=he j its[j] its2[j] (ds[j]' LI) (es[j]' LI) (by simp[h1]) (by simp[h2]) (by simp) (by simp)
    refine⟨b,λ_ _=>⟨hb,?_⟩⟩
    rw[hi]
    simp[show j<ds.length by lia,show j<es.length by lia]
   ·exact⟨true,λ_ z=>absurd z h2⟩
  ·exact⟨true,λz=>absurd z h1⟩
 refine⟨λj=>Classical.choose (key j),λj h1 h2=>?_,?_⟩
 ·have JH:j<its.length:=by simpa using h1
  have h2':j<its2.length:=by simpa using h2
  have:=(Classical.choose_spec (key j) JH h2').1
  simpa using this
 ·rw[Bool.and_eq_true,List.all_eq_true,beq_iff_eq]
  constructor
  ·rintro⟨ha,hl⟩
   apply List.ext_getElem?
   intro j
   by_cases hj:j<its.length
   ·have hj2:j<its2.length:=by lia
    exact((Classical.choose_spec (key j) hj hj2).2).mp (ha j (List.mem_range.mpr LI))
   ·rw[List.getElem?_eq_none LI,List.getElem?_eq_none LI]
  ·rintro rfl
   refine⟨λj hj=>?_,by lia⟩
   have hj':=List.mem_range.mp hj
   exact((Classical.choose_spec (key j) LI LI).2).mpr rfl
theorem jM:∀{ds es:List Dv}{j:Nat}{d e:Dv},gF ds es=true->ds[j]? = some d->es[j]? = some e->gQ d e=true
 |[],_,_,_,_,_,h,_=>by simp at h
 |_::_,[],_,_,_,_,_,h=>by simp at h
 |a::l,b::r,0,d,e,h,h1,h2=>by
  simp at h1 h2
  subst h1 h2
  simp only[gF,Bool.and_eq_true]at h
  exact h.1
 |a::l,b::r,j+1,d,e,h,h1,h2=>by
  simp only[gF,Bool.and_eq_true]at h
  exact jM (j:=j) h.2 (by simpa using h1) (by simpa using h2)
theorem iT:∀{ds:List Dv}{j:Nat}{d:Dv},ds[j]? = some d->d.dep<=Dv.deps ds
 |[],_,_,h=>by simp at h
 |a::l,0,d,h=>by
  simp at h
  subst h
  simp only[Dv.deps]
  exact Nat.le_max_left _ _
 |a::l,j+1,d,h=>by
  have:=iT (ds:=l) (j:=j) (d:=d) (by simpa using h)
  simp only[Dv.deps]
  exact Nat.le_trans this (Nat.le_max_right _ _)
theorem FU{A:Around}{a b:Addr}{xs ys:List V}{ds es:List Dv}(I:Inv X pins σ H s)(ha:bg X.K H a xs)(hb:bg X.K H b ys)(da:fy X.K H xs ds)(db:fy X.K H ys es)(hu:A.units<cLine)
  (he:∀(j:Nat) x y u w d e,xs[j]? = some x->ys[j]? = some y->ds[j]? = some d->es[j]? = some e->Dn X.K H x d->Dn X.K H y e->RelV x u->RelV y w->∃b,SeqAt.EqAt A.in1 s u w b/\(b=true↔d=e)):
  ∃k,SeqAt.RcAt A s (.ref a) (.ref b) k/\SeqAt.RcNeAt A s (.ref a) (.ref b) (!k)/\(k=true↔ds=es):=by
 obtain⟨its,r1,p1,_⟩:=I.tuple ha
 obtain⟨its2,r2,p2,_⟩:=I.tuple hb
 obtain⟨f,h1,h2⟩:=vG (A:=A.in1) (s:=s) (its:=its) (its2:=its2) (ds:=ds) (es:=es) (λj u w d e e1 e2 e3 e4=>by
  obtain⟨x,ex,dx⟩:=da.get e3
  obtain⟨y,ey,dy⟩:=db.get e4
  obtain⟨u',eu,ru⟩:=r1.get ex
  obtain⟨w',ew,rw'⟩:=r2.get ey
  rw[e1]at eu;cases eu
  rw[e2]at ew;cases ew
  exact he j x y u w d e ex ey e3 e4 dx dy ru rw') (by rw[←r1.length];exact da.length) (by rw[←r2.length];exact db.length)
 have q1:=SeqAt.RcAt.tuples (A:=A) (s:=s) (l:=a) (b:=b) (items:=its.toArray) (items2:=its2.toArray) (e:=f) p1 p2 hu h1
 have q2:=SeqAt.RcNeAt.tuples (A:=A) (s:=s) (l:=a) (b:=b) (items:=its.toArray) (items2:=its2.toArray) (e:=f) p1 p2 hu h1
 rw[List.size_toArray,List.size_toArray]at q1 q2
 exact⟨_,q1,q2,h2⟩
theorem FW{A:Around}{a b:Addr}{xs ys:List V}{ds es:List Dv}(I:Inv X pins σ H s)(ha:bB X.K H a xs)(hb:bB X.K H b ys)(da:fy X.K H xs ds)(db:fy X.K H ys es)(hu:A.units<cLine)
  (he:∀(j:Nat) x y u w d e,xs[j]? = some x->ys[j]? = some y->ds[j]? = some d->es[j]? = some e->Dn X.K H x d->Dn X.K H y e->RelV x u->RelV y w->∃b,SeqAt.EqAt A.in1 s u w b/\(b=true↔d=e)):
  ∃k,SeqAt.RcAt A s (.ref a) (.ref b) k/\SeqAt.RcNeAt A s (.ref a) (.ref b) (!k)/\(k=true↔ds=es):=by
 obtain⟨its,r1,p1,_⟩:=I.list ha
 obtain⟨its2,r2,p2,_⟩:=I.list hb
 obtain⟨f,h1,h2⟩:=vG (A:=A.in1) (s:=s) (its:=its) (its2:=its2) (ds:=ds) (es:=es) (λj u w d e e1 e2 e3 e4=>by
  obtain⟨x,ex,dx⟩:=da.get e3
  obtain⟨y,ey,dy⟩:=db.get e4
  obtain⟨u',eu,ru⟩:=r1.get ex
  obtain⟨w',ew,rw'⟩:=r2.get ey
  rw[e1]at eu;cases eu
  rw[e2]at ew;cases ew
  exact he j x y u w d e ex ey e3 e4 dx dy ru rw') (by rw[←r1.length];exact da.length) (by rw[←r2.length];exact db.length)
 have l1:its.length=ds.length:=by rw[←r1.length];exact da.length
 have l2:its2.length=es.length:=by rw[←r2.length];exact db.length
 by_cases hl:its.length=its2.length
 ·have hsz:its.toArray.size=its2.toArray.size:=by rw[List.size_toArray,List.size_toArray];exact hl
  have q1:=SeqAt.RcAt.lists (A:=A) (s:=s) (l:=a) (b:=b) (items:=its.toArray) (items2:=its2.toArray) (e:=f) p1.isList p2.isList hsz hu h1
  have q2:=SeqAt.RcNeAt.lists (A:=A) (s:=s) (l:=a) (b:=b) (items:=its.toArray) (items2:=its2.toArray) (e:=f) p1.isList p2.isList hsz hu h1
  rw[List.size_toArray]at q1 q2
  refine⟨_,q1,q2,?_⟩
  rw[←h2,hl,Nat.min_self]
  simp
 ·have hsz:(its.toArray.size != its2.toArray.size)=true:=by
   rw[List.size_toArray,List.size_toArray]
   simpa using hl
  refine⟨false,SeqAt.RcAt.lists_lengths p1.isList p2.isList hsz hu,SeqAt.RcNeAt.lists_lengths p1.isList p2.isList hsz hu,?_⟩
  constructor
  ·intro z;cases z
  ·rintro rfl
   exact absurd (l1.trans l2.symm) hl
mutual
theorem Dn.inj(I:Inv X pins σ H s):∀{x:V}{d e:Dv},Dn X.K H x d->Dn X.K H x e->d=e
 |_,_,_,.dI,.dI=>rfl
 |_,_,_,.bl _,.bl _=>rfl
 |_,_,_,.int _,.int _=>rfl
 |_,_,_,.str _,.str _=>rfl
 |_,_,_,.tup (a:=a) h t,.tup h' t'=>by
  have e:=I.qR h h'
  subst e
  rw[fy.inj I t t']
 |_,_,_,.lst (a:=a) h t,.lst h' t'=>by
  have e:=I.vq h h'
  subst e
  rw[fy.inj I t t']
 |_,_,_,.tup (a:=a) h t,.lst h' t'=>by
  obtain⟨its,_,p1,_⟩:=I.tuple h
  obtain⟨its2,_,p2,_⟩:=I.list h'
  exact absurd rfl (SeqAt.ne_of_list_tuple p2.isList p1)
 |_,_,_,.lst (a:=a) h t,.tup h' t'=>by
  obtain⟨its,_,p1,_⟩:=I.tuple h'
  obtain⟨its2,_,p2,_⟩:=I.list h
  exact absurd rfl (SeqAt.ne_of_list_tuple p2.isList p1)
theorem fy.inj(I:Inv X pins σ H s):∀{xs:List V}{ds es:List Dv},fy X.K H xs ds->fy X.K H xs es->ds=es
 |_,_,_,.nil,.nil=>rfl
 |_,_,_,.cons r t,.cons r' t'=>by rw[Dn.inj I r r',fy.inj I t t']
end
theorem bO{d e:Dv}(h:d≠e):(false=true↔d=e):=⟨λz=>(nomatch z),λz=>absurd z h⟩
theorem rO(I:Inv X pins σ H s){n:Nat}{A:Around}{d e:Dv}{x y:V}{u w:Value}(hd:d.dep<=n)(hu:A.units<cLine)(hm:gQ d e=true)(dx:Dn X.K H x d)(dy:Dn X.K H y e)(rx:RelV x u)(ry:RelV y w)
  (ih:∀{d' e':Dv}{x' y':V}{u' w':Value},d'.dep+1<=n->gQ d' e'=true->Dn X.K H x' d'->Dn X.K H y' e'->RelV x' u'->RelV y' w'->∃b,SeqAt.EqAt A.in1 s u' w' b/\(b=true↔d'=e')):
  ∃b,SeqAt.EqAt A s u w b/\(b=true↔d=e):=by
 cases dx with
 |dI=>
  cases rx
  cases dy with
  |dI=>cases ry;exact⟨true,SeqAt.EqAt.same _,by simp⟩
  |bl b=>cases ry;exact⟨false,SeqAt.EqAt.none_bool b,bO (by simp)⟩
  |int i=>obtain⟨t,rfl⟩:=ry;exact⟨false,SeqAt.EqAt.none_int i t,bO (by simp)⟩
  |str z=>obtain⟨t,rfl⟩:=ry;exact⟨false,SeqAt.EqAt.none_str z t,bO (by simp)⟩
  |tup h _=>cases ry;obtain⟨its,_,p,_⟩:=I.tuple h;exact⟨false,SeqAt.EqAt.none_tuple p hu,bO (by simp)⟩
  |lst h _=>cases ry;obtain⟨its,_,p,_⟩:=I.list h;exact⟨false,SeqAt.EqAt.none_list p.isList hu,bO (by simp)⟩
 |bl a=>
  cases rx
  cases dy with
  |dI=>cases ry;exact⟨false,SeqAt.EqAt.bool_none a,bO (by simp)⟩
  |bl b=>cases ry;exact⟨_,SeqAt.EqAt.bool_bool a b,by simp⟩
  |int i=>exact absurd hm (by simp[gQ])
  |str z=>obtain⟨t,rfl⟩:=ry;exact⟨false,SeqAt.EqAt.bool_str a z t,bO (by simp)⟩
  |tup h _=>cases ry;obtain⟨its,_,p,_⟩:=I.tuple h;exact⟨false,SeqAt.EqAt.bool_tuple a p hu,bO (by simp)⟩
  |lst h _=>cases ry;obtain⟨its,_,p,_⟩:=I.list h;exact⟨false,SeqAt.EqAt.bool_list a p.isList hu,bO (by simp)⟩
 |int a=>
  obtain⟨ta,rfl⟩:=rx
  cases dy with
  |dI=>cases ry;exact⟨false,SeqAt.EqAt.int_none a ta,bO (by simp)⟩
  |bl b=>exact absurd hm (by simp[gQ])
  |int i=>obtain⟨t,rfl⟩:=ry;exact⟨_,SeqAt.EqAt.int_int a ta i t,by simp⟩
  |str z=>obtain⟨t,rfl⟩:=ry;exact⟨false,SeqAt.EqAt.int_str a ta z t,bO (by simp)⟩
  |tup h _=>cases ry;obtain⟨its,_,p,_⟩:=I.tuple h;exact⟨false,SeqAt.EqAt.int_tuple a ta p hu,bO (by simp)⟩
  |lst h _=>cases ry;obtain⟨its,_,p,_⟩:=I.list h;exact⟨false,SeqAt.EqAt.int_list a ta p.isList hu,bO (by simp)⟩
 |str a=>
  obtain⟨ta,rfl⟩:=rx
  cases dy with
  |dI=>cases ry;exact⟨false,SeqAt.EqAt.str_none a ta,bO (by simp)⟩
  |bl b=>cases ry;exact⟨false,SeqAt.EqAt.str_bool a ta b,bO (by simp)⟩
  |int i=>obtain⟨t,rfl⟩:=ry;exact⟨false,SeqAt.EqAt.str_int a ta i t,bO (by simp)⟩
  |str z=>obtain⟨t,rfl⟩:=ry;exact⟨_,SeqAt.EqAt.str_str a ta z t,by simp⟩
  |tup h _=>cases ry;obtain⟨its,_,p,_⟩:=I.tuple h;exact⟨false,SeqAt.EqAt.str_tuple a ta p hu,bO (by simp)⟩
  |lst h _=>cases ry;obtain⟨its,_,p,_⟩:=I.list h;exact⟨false,SeqAt.EqAt.str_list a ta p.isList hu,bO (by simp)⟩
 | @tup a xs ds ha da=>
  cases rx
  obtain⟨its,_,p,_⟩:=I.tuple ha
  cases dy with
  |dI=>cases ry;exact⟨false,SeqAt.EqAt.tuple_none p hu,bO (by simp)⟩
  |bl b=>cases ry;exact⟨false,SeqAt.EqAt.tuple_bool b p hu,bO (by simp)⟩
  |int i=>obtain⟨t,rfl⟩:=ry;exact⟨false,SeqAt.EqAt.tuple_int i t p hu,bO (by simp)⟩
  |str z=>obtain⟨t,rfl⟩:=ry;exact⟨false,SeqAt.EqAt.tuple_str z t p hu,bO (by simp)⟩
  |lst h _=>cases ry;obtain⟨its2,_,p2,_⟩:=I.list h;exact⟨false,SeqAt.EqAt.tuple_list p p2.isList hu,bO (by simp)⟩
  | @tup b ys es hb db=>
   cases ry
   by_cases hab:a=b
   ·subst hab
    exact⟨true,SeqAt.EqAt.same _,by rw[Dn.inj I (.tup ha da) (.tup hb db)];simp⟩
   ·have hm':gF ds es=true:=by simpa only[gQ]using hm
    have hd':Dv.deps ds+1<=n:=by simpa only[Dv.dep]using hd
    obtain⟨k,q1,_,q3⟩:=FU I ha hb da db hu (λj x' y' u' w' d' e' _ _ e3 e4 RC RB Of Oe=>ih (by have:=iT e3;lia) (jM hm' e3 e4) RC RB Of Oe)
    refine⟨k,SeqAt.EqAt.of_refs hab q1,?_⟩
    rw[q3]
    simp
 | @lst a xs ds ha da=>
  cases rx
  obtain⟨its,_,p,_⟩:=I.list ha
  cases dy with
  |dI=>cases ry;exact⟨false,SeqAt.EqAt.list_none p.isList hu,bO (by simp)⟩
  |bl b=>cases ry;exact⟨false,SeqAt.EqAt.list_bool b p.isList hu,bO (by simp)⟩
  |int i=>obtain⟨t,rfl⟩:=ry;exact⟨false,SeqAt.EqAt.list_int i t p.isList hu,bO (by simp)⟩
  |str z=>obtain⟨t,rfl⟩:=ry;exact⟨false,SeqAt.EqAt.list_str z t p.isList hu,bO (by simp)⟩
  |tup h _=>cases ry;obtain⟨its2,_,p2,_⟩:=I.tuple h;exact⟨false,SeqAt.EqAt.list_tuple p.isList p2 hu,bO (by simp)⟩
  | @lst b ys es hb db=>
   cases ry
   by_cases hab:a=b
   ·subst hab
    exact⟨true,SeqAt.EqAt.same _,by rw[Dn.inj I (.lst ha da) (.lst hb db)];simp⟩
   ·have hm':gF ds es=true:=by simpa only[gQ]using hm
    have hd':Dv.deps ds+1<=n:=by simpa only[Dv.dep]using hd
    obtain⟨k,q1,_,q3⟩:=FW I ha hb da db hu (λj x' y' u' w' d' e' _ _ e3 e4 RC RB Of Oe=>ih (by have:=iT e3;lia) (jM hm' e3 e4) RC RB Of Oe)
    refine⟨k,SeqAt.EqAt.of_refs hab q1,?_⟩
    rw[q3]
    simp
theorem lH(I:Inv X pins σ H s):∀(n:Nat){A:Around}{d e:Dv}{x y:V}{u w:Value},d.dep<=n->A.units+n<cLine->gQ d e=true->Dn X.K H x d->Dn X.K H y e->RelV x u->RelV y w->∃b,SeqAt.EqAt A s u w b/\(b=true↔d=e)
 |0,A,d,e,x,y,u,w,hd,hu,hm,dx,dy,rx,ry=>rO I hd LI hm dx dy rx ry λh=>absurd h LI
 |n+1,A,d,e,x,y,u,w,hd,hu,hm,dx,dy,rx,ry=>rO I hd LI hm dx dy rx ry λh hm' RC RB Of Oe=>lH I n LI (by rw[in1_units];lia) hm' RC RB Of Oe
end
theorem aR{X:Cx}:gZ X (.builtin "isinstance") (λxs H Q=>∃x T t b,xs=[x,.ty T]/\nA X.K H x t/\PySem.W.kitOne X.K t (.type T)=some b/\Q (.bl b) H):=by
 intro pins s σ H xs us Q I r h
 obtain⟨x,T,t,b,rfl,ty,e,q⟩:=h
 obtain⟨u,w',rfl,rx,ry⟩:=vals2 r
 cases ry
 exact Av I rx ty e λtk=>⟨.bl b,H,I.tok _,rfl,q⟩
structure aO(K:Fg7)(x:Str)(st:Stmt):Prop where
 ex:∃(f:Addr) (oc:Value) (od:Option Addr) (kV doc pm:Value) (an:Option Addr) (cdv ct:Value) (osl:Array (Option Value)),
  PySem.W.nsIn K mainGlobals x=some (some (.ref f))/\K.lookup f=some ⟨oc,od,.func (PySem.W.fnOf x x (aJ st) (aG st) (aq st) .none kV doc pm an cdv ct),osl⟩/\PySem.W.codeIn K cdv x=true/\PySem.W.keepIn K (.ref f)=true
theorem aO.mk'{K:Fg7}{x:Str}{st:Stmt}{f:Addr}{oc:Value}{od:Option Addr}{kV doc pm:Value}{an:Option Addr}{cdv ct:Value}{osl:Array (Option Value)}
  (a:PySem.W.nsIn K mainGlobals x=some (some (.ref f)))(l:K.lookup f=some ⟨oc,od,.func (PySem.W.fnOf x x (aJ st) (aG st) (aq st) .none kV doc pm an cdv ct),osl⟩)
  (c:PySem.W.codeIn K cdv x=true)(k:PySem.W.keepIn K (.ref f)=true):aO K x st:=⟨⟨f,oc,od,kV,doc,pm,an,cdv,ct,osl,a,l,c,k⟩⟩
structure MG(K:Fg7)(mg:Str->Option Value):Prop where
 is:∀x v,PySem.W.nsIn K mainGlobals x=some (some v)->mg x=some v
 no:∀x,PySem.W.nsIn K mainGlobals x=some none->mg x=none
def fQ(P:Program)(w:World)(K:Fg7)(mg:Str->Option Value)(x:Str)(ps:List Str)(k:Nat)(sp:Sp):Prop:=
 ∃(f:Addr) (fd:FuncData),mg x=some (.ref f)/\PySem.W.keepIn K (.ref f)=true/\(∀us:List Value,us.length=ps.length->bindArgs fd ⟨us,[]⟩=pure (ps.zip us))/\∀base,nF P w K mg base jj k f fd ps sp
theorem fQ.imp{P:Program}{w:World}{K:Fg7}{mg:Str->Option Value}{x:Str}{ps:List Str}{k:Nat}{sp ue:Sp}(F:fQ P w K mg x ps k sp)(h:∀vs H Q E,ue vs H Q E->sp vs H Q E):fQ P w K mg x ps k ue:=by
 obtain⟨f,fd,h1,h2,h3,h4⟩:=F
 exact⟨f,fd,h1,h2,h3,λbase=>(h4 base).imp h⟩
theorem aO.fn{P:Program}{w:World}{K:Fg7}{mg:Str->Option Value}{x:Str}{st:Stmt}{N ps:List Str}{k:Nat}{sp:Sp}(D:aO K x st)(M:MG K mg)(S:aS N ps (aq st))
  (hb:∀(kV doc pm:Value)(an:Option Addr)(cdv ct:Value)(us:List Value),us.length=ps.length->bindArgs (PySem.W.fnOf x x (aJ st) (aG st) (aq st) .none kV doc pm an cdv ct) ⟨us,[]⟩=pure (ps.zip us))
  (len:∀vs H Q E,sp vs H Q E->vs.length=ps.length)
  (hbody:∀(f:Addr)(base:Heap)(cdv:Value)(A:Around)(outer:List Env)(s:Shared)(H:Hp)(vs:List V)(Q:VK)(E:XK),dj k (A.deeper (envOfC x (aq st) s.heap.objs.size f cdv))->sp vs H Q E->
   ∃t,ug (oG jj P w K mg base N x (aq st) f cdv A outer s H E).ER (aG st) t/\t {nx:=λ_ H'=>Q .dI H',rt:=Q} (start N vs) H):fQ P w K mg x ps (k+1) sp:=by
 obtain⟨f,oc,od,kV,doc,pm,an,cdv,ct,osl,a,l,c,kp⟩:=D.ex
 have F:Sd K x x st f (PySem.W.fnOf x x (aJ st) (aG st) (aq st) .none kV doc pm an cdv ct):=DY l c kp
 exact⟨f,_,M.is _ _ a,kp,hb kV doc pm an cdv ct,λbase=>F.ok S len (hbody f base)⟩
section
variable {X:Cx} {k:Nat} {ps:List Str} {sp:Sp} {x:Str} {p pos:Pos} {e:Expr} {es:List Expr} {t:TA}
theorem CQ(F:fQ X.prog X.w X.K X.mg x ps k sp)(hr:dj k X.A)(hg:Gl X x)(ha:PA X (e::es) t)
  (hdb:(x==("__debug__":Str))=false:=by decide)(he:starEach (e::es) X.env=(false,eval e X.env)::starEach es X.env:=by rfl)(hpl:(backTo pos (starEach es X.env)).any (·.1)=false:=by rfl):
  PE X (.Call (.Name x p) (e::es) [] pos) (BL sp [] E0 t):=by
 obtain⟨f,fd,h1,h2,h3,h4⟩:=F
 exact Gn (h4 X.base) hr hg h1 h2 (.all h3) .nil gM ha hdb he hpl
def dm(K:Fg7)(x:Str)(v:V):Prop:=∃u,PySem.W.nsIn K mainGlobals x=some (some u)/\RelV v u
theorem iN{v:V}(G:dm X.K x v)(M:MG X.K X.mg)(hg:Gl X x)(hd:(x==("__debug__":Str))=false:=by decide):PE X (.Name x p) (tC v):=by
 obtain⟨u,h1,h2⟩:=G
 exact Gi hg (M.is _ _ h1) h2 hd
end
inductive BF(t:TS)(u:TS)(D:Ends)(σ:St)(H:Hp):Prop
 |mk(G:St->Hp->Prop):(t {D with nx:=G} σ H)->(∀σ' H',G σ' H'->u D σ' H')->BF t u D σ H
def NN(t u:TS):TS:=λD σ H=>BF t u D σ H
theorem mh{X:Cx}{st:Stmt}{rest:List Stmt}{t u:TS}(h1:PS X st t)(h2:ug X rest u):ug X (st::rest) (NN t u):=by
 intro pins s σ H D I h
 obtain⟨G,q1,q2⟩:=h
 refine wpAny_execs_cons (cW (h1 pins s σ H {D with nx:=G} I q1) λf s1 q=>?_)
 cases f with
 |next=>
  obtain⟨σ',H',I',q⟩:=q
  exact h2 pins s1 σ' H' D I' (q2 σ' H' q)
 |ret v=>exact q
 |brk=>exact q
 |cont=>exact q
theorem gw.nil{X:Cx}{scope:Scope}:gw X scope [] []:=trivial
theorem gw.own{X:Cx}{scope:Scope}{js:List (Option Nat)}{x:Str}{N:List Str}(h:gw X scope js N):gw X scope (none::js) (x::N):=h
theorem gw.out{X:Cx}{scope:Scope}{j:Nat}{js:List (Option Nat)}{x:Str}{N:List Str}(h1:X.N[j]? = some x)(h2:scope.names.lookup x=some .free)(h3:X.env.kindOf x=some .cell\/X.env.kindOf x=some .free)(h:gw X scope js N):gw X scope (some j::js) (x::N):=by
 refine⟨⟨h1,h2,?_,h3⟩,h⟩
 rcases h3 with e|e<;>rw[e]<;>intro z<;>cases z
theorem bY.nil{cells:List (Str×Addr)}:bY cells []:=trivial
theorem bY.cons{cells:List (Str×Addr)}{p:Str×Addr}{r:List (Str×Addr)}(h1:cells.lookup p.1=some p.2)(h2:bY cells r):bY cells (p::r):=⟨h1,h2⟩
abbrev br{K:Fg7}{mg:PySem.Str->Option PySem.Value}(_:MG K mg):Fg7:=K
def mj:Expr->Bool
 |.Starred .. =>false
 |_=>true
theorem gf{e:Expr}{es:List Expr}{env:Env}(h:mj e=true):starEach (e::es) env=(false,eval e env)::starEach es env:=by
 cases e<;>first|rfl|exact absurd h Bool.false_ne_true
def jc:List Expr->Bool
 |[]=>true
 |e::r=>mj e&&jc r
theorem ir{pos:Pos}{env:Env}:∀{es:List Expr},jc es=true->(backTo pos (starEach es env)).any (·.1)=false
 |[],_=>rfl
 |e::r,h=>by
  simp only[jc,Bool.and_eq_true]at h
  rw[gf h.1]
  show(false||(backTo pos (starEach r env)).any (·.1))=false
  rw[ir h.2]
  rfl
def wV:Expr->Bool
 |.ListComp .. =>false
 |.SetComp .. =>false
 |.DictComp .. =>false
 |_=>true
theorem nO{e:Expr}{t:Option Expr}{l:Nat}{env:Env}(h:wV e=true):swapsWith e t l env=pure false:=by
 cases e<;>first|rfl|exact absurd h Bool.false_ne_true
section
variable {X:Cx} {e:Expr} {es:List Expr} {te ta tb:TE} {t:TA} {pos p:Pos} {x:Str} {k:Nat} {ps:List Str} {sp:Sp}
theorem pc(ha:PE X e te)(hr:PA X es t)(h:mj e=true:=by rfl):PA X (e::es) (HZ te t):=Gq ha hr (gf h)
theorem dc{i:Nat}{pos':Pos}(hN:X.N.Nodup)(hi:X.N[i]? = some x)(hx:Loc X.env.scope x)(he:PE X e te)(h:wV e=true:=by rfl)(hf:X.fn x=true\/X.env.scope.names.lookup x=some .local:=by first|exact .inl rfl|exact .inr rfl|assumption):
  PS X (.Assign [.Name x pos'] e pos) (BN te (cO i)):=CJ hN hi hx he (nO h) hf
theorem iJ(he:PE X e te)(h:wV e=true:=by rfl):PS X (.Expr e pos) (HY te):=Ga he (nO h)
theorem a_(F:fQ X.prog X.w X.K X.mg x ps k sp)(hr:dj k X.A)(hg:Gl X x)(ha:PA X (e::es) t)(hdb:(x==("__debug__":Str))=false:=by decide)(h1:mj e=true:=by rfl)(h2:jc es=true:=by rfl):
  PE X (.Call (.Name x p) (e::es) [] pos) (BL sp [] E0 t):=CQ F hr hg ha hdb (gf h1) (ir h2)
variable {id T:String} {r:List V->Hp->VK->Prop}
theorem aZ(hc:gZ X (.builtin id) r)(hg:Gl X x)(hm:X.mg x=none)(hv:bootBuiltins x=some (.builtin id))(ha:PA X (e::es) t)(hn:x≠"__name__":=by decide)(hdb:(x==("__debug__":Str))=false:=by decide)
  (h1:mj e=true:=by rfl)(h2:jc es=true:=by rfl):PE X (.Call (.Name x p) (e::es) [] pos) (Sk r t):=CS hc hg hm hv ha hn hdb (gf h1) (ir h2)
theorem Gp(hc:gZ X (.type T) r)(hg:Gl X x)(hm:X.mg x=none)(hv:bootBuiltins x=some (.type T))(ha:PA X (e::es) t)(hn:x≠"__name__":=by decide)(hdb:(x==("__debug__":Str))=false:=by decide)
  (h1:mj e=true:=by rfl)(h2:jc es=true:=by rfl):PE X (.Call (.Name x p) (e::es) [] pos) (Sk r t):=zW hc hg hm hv ha hn hdb (gf h1) (ir h2)
end
inductive HN(x:V)(y:V)(H:Hp)(Q:VK):Prop
 |mk(i:_)(j:_):(x=.int i)->(y=.int j)->(Q (.int (i+j)) H)->HN x y H Q
def TH:R2:=λx y H Q=>HN x y H Q
inductive HJ(x:V)(y:V)(H:Hp)(Q:VK):Prop
 |mk(i:_)(j:_):(x=.int i)->(y=.int j)->(Q (.int (i-j)) H)->HJ x y H Q
def Tv:R2:=λx y H Q=>HJ x y H Q
inductive HL(x:V)(y:V)(H:Hp)(Q:VK):Prop
 |mk(i:_)(j:_):(x=.int i)->(y=.int j)->(HG i j)->(Q (.int (i*j)) H)->HL x y H Q
def Tz:R2:=λx y H Q=>HL x y H Q
inductive Bm(x:V)(y:V)(H:Hp)(Q:VK):Prop
 |mk(i:_)(j:_):(x=.int i)->(y=.int j)->((xU i/\xU j))->(Q (.int (i*j)) H)->Bm x y H Q
def Nx:R2:=λx y H Q=>Bm x y H Q
inductive Bo(x:V)(y:V)(H:Hp)(Q:VK):Prop
 |mk(i:_)(j:_):(x=.int i)->(y=.int j)->((0<j/\xU j))->(Q (.int (i/j)) H)->Bo x y H Q
def NC:R2:=λx y H Q=>Bo x y H Q
inductive HM(x:V)(y:V)(H:Hp)(Q:VK):Prop
 |mk(i:_)(j:_):(x=.int i)->(y=.int j)->(0<j)->(Q (.int (i%j)) H)->HM x y H Q
def TF:R2:=λx y H Q=>HM x y H Q
inductive Ny(x:V)(y:V)(H:Hp)(Q:VK):Prop
 |mk(i:_)(j:_):(x=.int i)->(y=.int j)->(Q (.bl (decide (i<j))) H)->Ny x y H Q
def Zf:R2:=λx y H Q=>Ny x y H Q
inductive Nz(x:V)(y:V)(H:Hp)(Q:VK):Prop
 |mk(i:_)(j:_):(x=.int i)->(y=.int j)->(Q (.bl (decide (i<=j))) H)->Nz x y H Q
def WL:R2:=λx y H Q=>Nz x y H Q
inductive NB(x:V)(y:V)(H:Hp)(Q:VK):Prop
 |mk(i:_)(j:_):(x=.int i)->(y=.int j)->(Q (.bl (decide (j<i))) H)->NB x y H Q
def Zg:R2:=λx y H Q=>NB x y H Q
inductive HK(x:V)(H:Hp)(Q:VK):Prop
 |mk(i:_):(x=.int i)->(Q (.int (-i)) H)->HK x H Q
def Tw:V->Hp->VK->Prop:=λx H Q=>HK x H Q
section
variable {X:Cx}
theorem iy.of{f:Value->Value->Sem Value}{r r':R2}(h:iy X f r)(k:∀x y H Q,r' x y H Q->r x y H Q):iy X f r':=λpins s σ H x y v u Q I a b z=>h pins s σ H x y v u Q I a b (k x y H Q z)
theorem JS.of{f:Value->Sem Value}{r r':V->Hp->VK->Prop}(h:JS X f r)(k:∀x H Q,r' x H Q->r x H Q):JS X f r':=λpins s σ H x v Q I a z=>h pins s σ H x v Q I a (k x H Q z)
theorem gP:iy X (binaryOp .Add) TH:=KP.of λ_ _ _ _ ⟨i,j,a,b,q⟩=>⟨i,j,a,b,q⟩
theorem pV:iy X (binaryOp .Sub) Tv:=KL.of λ_ _ _ _ ⟨i,j,a,b,q⟩=>⟨i,j,a,b,q⟩
theorem gO:iy X (binaryOp .Mult) Tz:=KN.of λ_ _ _ _ ⟨i,j,a,b,c,q⟩=>⟨i,j,a,b,c,q⟩
theorem CV:iy X (binaryOp .Mult) Nx:=Gs.of λ_ _ _ _ ⟨i,j,a,b,c,q⟩=>⟨i,j,a,b,c,q⟩
theorem uY:iy X (binaryOp .FloorDiv) NC:=CU.of λ_ _ _ _ ⟨i,j,a,b,c,q⟩=>⟨i,j,a,b,c,q⟩
theorem oMod:iy X (binaryOp .Mod) TF:=KO.of λ_ _ _ _ ⟨i,j,a,b,c,q⟩=>⟨i,j,a,b,c,q⟩
theorem oLt:iy X (compareOp .Lt) Zf:=Ox.of λ_ _ _ _ ⟨i,j,a,b,q⟩=>⟨i,j,a,b,q⟩
theorem oLe:iy X (compareOp .LtE) WL:=Oz.of λ_ _ _ _ ⟨i,j,a,b,q⟩=>⟨i,j,a,b,q⟩
theorem Xo:iy X (compareOp .Gt) Zg:=OA.of λ_ _ _ _ ⟨i,j,a,b,q⟩=>⟨i,j,a,b,q⟩
theorem uq:JS X (unaryOp .USub) Tw:=JW.of λ_ _ _ ⟨i,a,q⟩=>⟨i,a,q⟩
end
theorem dm.ofStr{K:Fg7}{x z:Str}{t:Tok}(a:PySem.W.nsIn K mainGlobals x=some (some (.str z t))):dm K x (.str z):=⟨_,a,⟨t,rfl⟩⟩
theorem dm.ofInt{K:Fg7}{x:Str}{i:Int}{t:Tok}(a:PySem.W.nsIn K mainGlobals x=some (some (.int i t))):dm K x (.int i):=⟨_,a,⟨t,rfl⟩⟩
section
variable {κ:Type} [DecidableEq κ]
def jk(kvs:List (κ×V))(k:κ):Option V:=(kvs.find? λkv=>decide (kv.1=k)).map (·.2)
def putK(kvs:List (κ×V))(k:κ)(v:V):List (κ×V):=
 if(kvs.any λkv=>decide (kv.1=k))=true then kvs.map (λkv=>if kv.1=k then(kv.1,v)else kv)else kvs++[(k,v)]
def iS(kvs:List (κ×V))(k:κ):List (κ×V):=kvs.filter λkv=>decide (kv.1≠k)
theorem kJ{p:κ×V}{r:List (κ×V)}{k:κ}(e:p.1=k):jk (p::r) k=some p.2:=by simp[jk,List.find?_cons,e]
theorem kK{p:κ×V}{r:List (κ×V)}{k:κ}(e:¬p.1=k):jk (p::r) k=jk r k:=by simp[jk,List.find?_cons,e]
theorem uo(k:κ):∀kvs:List (κ×V),(kvs.any λkv=>decide (kv.1=k))=(jk kvs k).isSome
 |[]=>rfl
 |p::r=>by
  rw[List.any_cons]
  by_cases e:p.1=k
  ·simp only[kJ e,decide_eq_true e,Bool.true_or,Option.isSome_some]
  ·rw[kK e,decide_eq_false e,Bool.false_or];exact uo k r
theorem nV(kvs:List (κ×V))(k:κ)(v:V):(putK kvs k v).length<=kvs.length+1:=by
 unfold putK
 split
 ·rw[List.length_map];lia
 ·rw[List.length_append,List.length_cons,List.length_nil];lia
theorem iw.Aw{o:Option V}{u:Option Value}(r:iw o u):o.isSome=u.isSome:=by
 cases o with
 |none=>cases u with
  |none=>rfl
  |some _=>exact(show False from r).elim
 |some _=>cases u with
  |none=>exact(show False from r).elim
  |some _=>rfl
theorem iw.getD{o:Option V}{u:Option Value}{d:V}{d':Value}(r:iw o u)(rd:RelV d d'):RelV (o.getD d) (u.getD d'):=by
 cases o with
 |none=>cases u with
  |none=>exact rd
  |some _=>exact(show False from r).elim
 |some _=>cases u with
  |none=>exact(show False from r).elim
  |some _=>exact r
theorem KV.val{kvs:List (κ×V)}{vs:List (κ×Value)}(r:KV kvs vs)(k:κ):iw (jk kvs k) (valueAt vs k):=by
 unfold KV at r
 induction r with
 |nil=>exact True.intro
 | @cons p q ps qs h t ih=>
  obtain⟨h1,h2⟩:=h
  by_cases e:p.1=k
  ·have e':q.1=k:=h1.symm.trans e
   have b:valueAt (q::qs) k=some q.2:=by simp[valueAt,List.find?_cons,e']
   rw[kJ e,b];exact h2
  ·have e':¬q.1=k:=λz=>e (h1.trans z)
   have b:valueAt (q::qs) k=valueAt qs k:=by simp[valueAt,List.find?_cons,e']
   rw[kK e,b];exact ih
theorem KV.any{kvs:List (κ×V)}{vs:List (κ×Value)}(r:KV kvs vs)(k:κ):(kvs.any λkv=>decide (kv.1=k))=vs.any λkv=>decide (kv.1=k):=by
 unfold KV at r
 induction r with
 |nil=>rfl
 |cons h t ih=>rw[List.any_cons,List.any_cons,ih,h.1]
theorem KV.repl{kvs:List (κ×V)}{vs:List (κ×Value)}(r:KV kvs vs)(k:κ){y:V}{u:Value}(ry:RelV y u):
  KV (kvs.map λkv=>if kv.1=k then(kv.1,y)else kv) (vs.map λkv=>if kv.1=k then(kv.1,u)else kv):=by
 unfold KV at r ⊢
 induction r with
 |nil=>exact .nil
 | @cons p q ps qs h t ih=>
  rw[List.map_cons,List.map_cons]
  refine .cons ?_ ih
  obtain⟨h1,h2⟩:=h
  by_cases e:p.1=k
  ·rw[if_pos e,if_pos (h1.symm.trans e)];exact⟨h1,ry⟩
  ·rw[if_neg e,if_neg (λz=>e (h1.trans z))];exact⟨h1,h2⟩
theorem KV.put{kvs:List (κ×V)}{vs:List (κ×Value)}(r:KV kvs vs)(k:κ){y:V}{u:Value}(ry:RelV y u):KV (putK kvs k y) (stored vs k u):=by
 unfold putK stored
 rw[r.any k]
 by_cases e:(vs.any λkv=>decide (kv.1=k))=true
 ·rw[if_pos e,if_pos e];exact r.repl k ry
 ·rw[if_neg e,if_neg e];exact Paired.snoc r ⟨rfl,ry⟩
theorem KV.length{kvs:List (κ×V)}{vs:List (κ×Value)}(r:KV kvs vs):kvs.length=vs.length:=Paired.length r
theorem Eg(kvs:List (κ×V))(k:κ):(iS kvs k).length<=kvs.length:=List.length_filter_le _ _
end
theorem yU{P:Program}{w:World}{k:Key}{u:Value}(r:RelV (kV k) u):(bH P w).is k u=true:=by
 cases k with
 |inl i=>obtain⟨t,e⟩:=(show∃t,u=Value.int i t from r);subst e;exact vh P w i t
 |inr x=>obtain⟨t,e⟩:=(show∃t,u=Value.str x t from r);subst e;exact vf P w x t
theorem rD{P:Program}{w:World}:∀{ks:List Key}{us:List Value},Vals (ks.map kV) us->ItemsAre (bH P w) ks us
 |[],_,r=>by rw[List.map_nil]at r;cases r;exact .nil
 |k::ks,_,r=>by
  rw[List.map_cons]at r
  cases r with
  |cons h t=>exact .cons (yU h) (rD t)
abbrev KT(H:Hp):List (List Key×V)->List (List Key×Addr×Value)->Prop:=Paired λp q=>p.1=q.1/\H q.2.1=some (.tup (p.1.map kV))/\RelV p.2 q.2.2
theorem KT.val{H:Hp}{kvs:List (List Key×V)}{xs:List (List Key×Addr×Value)}(r:KT H kvs xs)(k:List Key):iw (jk kvs k) ((atKey xs k).map (·.2)):=by
 induction r with
 |nil=>exact True.intro
 | @cons p q ps qs h t ih=>
  obtain⟨h1,_,h2⟩:=h
  by_cases e:p.1=k
  ·have e':q.1=k:=h1.symm.trans e
   have b:atKey (q::qs) k=some q.2:=by simp[atKey,List.find?_cons,e']
   rw[kJ e,b];exact h2
  ·have e':¬q.1=k:=λz=>e (h1.trans z)
   have b:atKey (q::qs) k=atKey qs k:=by simp[atKey,List.find?_cons,e']
   rw[kK e,b];exact ih
theorem KT.repl{H:Hp}{kvs:List (List Key×V)}{xs:List (List Key×Addr×Value)}(r:KT H kvs xs)(k:List Key){y:V}{u:Value}(ry:RelV y u):
  KT H (kvs.map λkv=>if kv.1=k then(kv.1,y)else kv) (xs.map (putAt k u)):=by
 induction r with
 |nil=>exact .nil
 | @cons p q ps qs h t ih=>
  rw[List.map_cons,List.map_cons]
  refine .cons ?_ ih
  obtain⟨h1,h2,h3⟩:=h
  unfold putAt
  by_cases e:p.1=k
  ·rw[if_pos e,if_pos (h1.symm.trans e)];exact⟨h1,h2,ry⟩
  ·rw[if_neg e,if_neg (λz=>e (h1.trans z))];exact⟨h1,h2,h3⟩
theorem KT.put{H:Hp}{kvs:List (List Key×V)}{xs:List (List Key×Addr×Value)}(r:KT H kvs xs)(k:List Key){b:Addr}{y:V}{u:Value}(hb:H b=some (.tup (k.map kV)))(ry:RelV y u):
  KT H (putK kvs k y) (storedH xs k b u):=by
 have e:(kvs.any λkv=>decide (kv.1=k))=(atKey xs k).isSome:=by
  rw[uo,(r.val k).Aw,Option.isSome_map]
 unfold putK storedH
 rw[e]
 by_cases q:(atKey xs k).isSome=true
 ·rw[if_pos q,if_pos q];exact r.repl k ry
 ·rw[if_neg q,if_neg q];exact Paired.snoc r ⟨rfl,hb,ry⟩
theorem KT.keeps{H H':Hp}{kvs:List (List Key×V)}{xs:List (List Key×Addr×Value)}(r:KT H kvs xs)(ht:∀b ys,H b=some (.tup ys)->H' b=some (.tup ys)):KT H' kvs xs:=
 Paired.Di r λ_ _ z=>⟨z.1,ht _ _ z.2.1,z.2.2⟩
section
variable {P:Program} {w:World} {H:Hp} {h:Heap} {a:Addr}
theorem Iu{u:HO}(ok:kB P w H h)(e:Rd H a u):ck P w H h a u:=e.ok ok
theorem rN{kvs:List (Key×V)}(ok:kB P w H h)(e:Rd H a (.dK kvs)):kvs.length<=sizeLine/\(a==sysModules)=false/\∃vs,KV kvs vs/\h.DictOf (bH P w) a vs:=
 show ck P w H h a (.dK kvs)from Iu ok e
theorem RE{kvs:List (Key×V)}(ok:kB P w H h)(e:H a=some (.dK kvs)):kvs.length<=sizeLine/\(a==sysModules)=false/\∃vs,KV kvs vs/\h.DictOf (bH P w) a vs:=rN ok (.inl e)
theorem qd{ks:List Key}(ok:kB P w H h)(e:H a=some (.tup (ks.map kV))):(tupleKind (bH P w)).is h ks a:=by
 obtain⟨_,its,r,o,h1,h2,n,h3⟩:=(show ck P w H h a (.tup (ks.map kV))from ok a _ e)
 exact⟨o,its.toArray,n,h1,h2,h3,by simpa using rD r⟩
theorem rL{kvs:List (List Key×V)}(ok:kB P w H h)(e:Rd H a (.dT kvs)):kvs.length<=sizeLine/\(a==sysModules)=false/\
  ∃xs,KT H kvs xs/\h.DictOfH (tupleKind (bH P w)) a xs:=by
 obtain⟨z,y,xs,r,o,es,ep,h1,h2,h3,h4,h5⟩:=(show ck P w H h a (.dT kvs)from Iu ok e)
 refine⟨z,y,xs,r,o,es,ep,h1,h2,h3,h4,λx hx=>?_,h5⟩
 have all:∀{l:List (List Key×V)}{m:List (List Key×Addr×Value)},KT H l m->∀x∈m,(tupleKind (bH P w)).is h x.1 x.2.1:=by
  intro l m q
  induction q with
  |nil=>intro x hx;exact nomatch hx
  | @cons p q ps qs hq t ih=>
   intro x hx
   rcases List.mem_cons.mp hx with e|hx
   ·subst e
    exact qd ok (by rw[←hq.1];exact hq.2.1)
   ·exact ih x hx
 exact all r x hx
theorem JN{kvs:List (List Key×V)}(ok:kB P w H h)(e:H a=some (.dT kvs)):kvs.length<=sizeLine/\(a==sysModules)=false/\
  ∃xs,KT H kvs xs/\h.DictOfH (tupleKind (bH P w)) a xs:=rL ok (.inl e)
end
def ua(H:Hp)(a:Addr)(y:V)(r:Option V):Prop:=
 (∃kvs k,Rd H a (.dK kvs)/\y=kV k/\r=jk kvs k)\/∃kvs k b,Rd H a (.dT kvs)/\y=.ref b/\H b=some (.tup (k.map kV))/\r=jk kvs k
def Bc(H:Hp)(a:Addr)(y v:V)(H':Hp):Prop:=
 (∃kvs k,H a=some (.dK kvs)/\y=kV k/\kvs.length<sizeLine/\H'=upd H a (.dK (putK kvs k v)))\/
 ∃kvs k b,H a=some (.dT kvs)/\y=.ref b/\H b=some (.tup (k.map kV))/\kvs.length<sizeLine/\H'=upd H a (.dT (putK kvs k v))
theorem ua.t{H:Hp}{a b:Addr}{kvs:List (List Key×V)}{k:List Key}(e:H a=some (.dT kvs))(eb:H b=some (.tup (k.map kV))):ua H a (.ref b) (jk kvs k):=.inr ⟨kvs,k,b,.inl e,rfl,eb,rfl⟩
theorem Bc.t{H:Hp}{a b:Addr}{kvs:List (List Key×V)}{k:List Key}{v:V}(e:H a=some (.dT kvs))(eb:H b=some (.tup (k.map kV)))(hl:kvs.length<sizeLine):
  Bc H a (.ref b) v (upd H a (.dT (putK kvs k v))):=.inr ⟨kvs,k,b,e,rfl,eb,hl,rfl⟩
section
variable {X:Cx} {pins:List (Addr×Obj)} {σ:St} {H:Hp} {s:Shared} {a:Addr} {y v:V} {u r:Value} {o:Option V} {A:Around} {E:Value->Shared->Prop}
theorem Inv.big(I:Inv X pins σ H s):sysModules<s.heap.objs.size:=by
 have h:mainGlobals<s.heap.objs.size:=(I.mod.glob.keeps I.bk).lt
 exact Nat.lt_trans (by decide) h
theorem AI{Q:Value->Shared->Prop}(hu:A.units+1<cLine)(I:Inv X pins σ H s)(g:ua H a y (some v))(ry:RelV y u)(h:∀w' s',Inv X pins σ H s'->RelV v w'->Q w' s'):
  wpAny (model X.prog X.w) A (getItem (.ref a) u) Q E s:=by
 rcases g with⟨kvs,k,e,ey,l⟩|⟨kvs,k,b,e,ey,eb,l⟩
 ·subst ey
  obtain⟨z,hd,vs,rel,dd⟩:=rN I.hok e
  obtain⟨w',hw,rw'⟩:=iw.some_of (v:=v) (o:=valueAt vs k) (by rw[l];exact rel.val k)
  exact wpAny_getItem_of (yU ry) dd.mapOf hw (h w' _ (I.tok _) rw')
 ·subst ey
  cases(show u=Value.ref b from ry)
  obtain⟨z,hd,xs,rel,dd⟩:=rL I.hok e
  obtain⟨w',hw,rw'⟩:=iw.some_of (v:=v) (o:=(atKey xs k).map (·.2)) (by rw[l];exact rel.val k)
  obtain⟨p,hp,hp2⟩:=Option.map_eq_some_iff.mp hw
  refine wpAny_getItem_heap (tupleKind_room_in1 hu) (qd I.hok eb) dd hp ?_
  rw[hp2]
  exact h w' _ (I.tok _) rw'
theorem tL{h':Heap}{t':Nat}{ob:HO}(I:Inv X pins σ H s)(mu:RV (H a))(hs:Heap.SameBut a s.heap h')(he:∃q,h'.get? a=some q)(new:ck X.prog X.w (upd H a ob) h' a ob):
  Inv X pins σ (upd H a ob) {s with heap:=h',toks:=t'}:=
 I.write (x:=a) (e:=a) mu (.inl rfl) (λb q hb z=>(hs.2 b hb).trans z) he new
theorem Ms{P:Program}{w:World}{H':Hp}{h':Heap}{kvs:List (Key×V)}{vs:List (Key×Value)}(z:kvs.length<=sizeLine)(hd:(a==sysModules)=false)(rel:KV kvs vs)(dd:h'.DictOf (bH P w) a vs):
  ck P w H' h' a (.dK kvs):=⟨z,hd,vs,rel,dd⟩
theorem AH{H':Hp}{Q:Unit->Shared->Prop}(hu:A.units+1<cLine)(I:Inv X pins σ H s)(g:Bc H a y v H')(ry:RelV y u)(rv:RelV v r)(h:∀s',Inv X pins σ H' s'->Q () s'):
  wpAny (model X.prog X.w) A (setItem (.ref a) u r) Q E s:=by
 rcases g with⟨kvs,k,e,ey,l,eH⟩|⟨kvs,k,b,e,ey,eb,l,eH⟩
 ·subst ey eH
  obtain⟨z,hd,vs,rel,dd⟩:=RE I.hok e
  have hz:vs.length<=sizeLine:=by rw[←rel.length];exact z
  have hl:(putK kvs k v).length<=sizeLine:=by have:=nV kvs k v;lia
  refine wpAny_setItem_pairs (hsz:=hz) (yU ry) dd λh' JQ hs=>h _ ?_
  have he:∃q,h'.get? a=some q:=let⟨q,_,_,hq,_⟩:=JQ;⟨q,hq⟩
  exact tL I (by rw[e];exact True.intro) hs he (Ms hl hd (rel.put k rv) JQ)
 ·subst ey eH
  cases(show u=Value.ref b from ry)
  obtain⟨z,hd,xs,rel,dd⟩:=JN I.hok e
  have hz:xs.length<=sizeLine:=by rw[←Paired.length rel];exact z
  have hl:(putK kvs k v).length<=sizeLine:=by have:=nV kvs k v;lia
  refine wpAny_setItem_heap (hsz:=hz) (tupleKind_room_in1 hu) (qd I.hok eb) dd λh' JQ hs=>h _ ?_
  obtain⟨q,es,ep,hq,h2,h3,h4,_,h5⟩:=JQ
  refine tL I (by rw[e];exact True.intro) hs ⟨q,hq⟩ ⟨hl,hd,_,(rel.put k eb rv).keeps λc ys ec=>?_,q,es,ep,hq,h2,h3,h4,h5⟩
  rw[ai (aI ec e (λz=>nomatch z))]
  exact ec
end
section
variable {X:Cx} {pins:List (Addr×Obj)} {σ:St} {H:Hp} {s:Shared} {a:Addr} {kvs:List (Key×V)} {k:Key} {u:Value} {A:Around} {E:Value->Shared->Prop}
end
def RU(i:Expr):Prop:=∀ov iv,subscripted i false ov iv=operate [ov,iv] (getItem ov iv)
theorem Fy{prog:Program}{w:World}{A:Around}{E:Value->Shared->Prop}{s:Shared}{env:Env}{value slice:Expr}{pos:Pos}{T id:String}{Q:Value->Shared->Prop}
  (hl:typeLookup (.type T) "__getitem__"=pure (some (.builtin id)))(hs:RU slice)
  (h:wpAny (model prog w) A (eval value env) (λo s₁=>wpAny (model prog w) A (eval slice env) (λi s₂=>s₂.TypeIs o T/\wpAny (model prog w) A (getItem o i) Q E s₂) E s₁) E s):
  wpAny (model prog w) A (eval (.Subscript value slice pos) env) Q E s:=by
 refine Subscript_ (wpAny_mono h (λo s₁ h₁=>wpAny_mono h₁ (λi s₂ h₂=>?_) λ_ _ x=>x) λ_ _ x=>x)
 obtain⟨hT,h₂⟩:=h₂
 unfold subscriptTail
 refine wpAny_bind ?_
 rw[getitemInPython_of_ne hT.not_modules]
 refine wpAny_bind (wpAny_specialOf hT hl ?_)
 have fin:wpAny (model prog w) A (subscripted slice false o i) (λr s₃=>wpAny (model prog w) A (letTemporaryGo value o r >>= λ_=>pure r) Q E s₃) E s₂:=by
  rw[hs o i]
  exact wpAny_operating (wpAny_mono h₂ (λr s₃ h₃=>wpAny_bind (wpAny_letTemporaryGo (wpAny_pure h₃))) λ_ _ x=>x)
 first
  |exact wpAny_pure (wpAny_bind fin)
  |exact wpAny_bind (wpAny_pure (wpAny_bind fin))
  |exact wpAny_bind fin
theorem vI{X:Cx}{pins:List (Addr×Obj)}{σ:St}{H:Hp}{s:Shared}{a:Addr}{y:V}{o:Option V}(I:Inv X pins σ H s)(g:ua H a y o):s.TypeIs (.ref a) "dict":=by
 rcases g with⟨kvs,k,e,_,_⟩|⟨kvs,k,b,e,_,_,_⟩
 ·obtain⟨_,_,vs,_,dd⟩:=rN I.hok e
  exact dd.typeIs
 ·obtain⟨_,_,xs,_,dd⟩:=rL I.hok e
  exact dd.typeIs
inductive BJ(Q:VK)(x:V)(y:V)(H2:Hp):Prop
 |mk(a:_)(v:_):(x=.ref a)->(ua H2 a y (some v))->(Q v H2)->BJ Q x y H2
def NR(td ty:TE):TE:=λσ H Q=>td σ H λx H1=>ty σ H1 λy H2=>BJ Q x y H2
inductive Ct(D:Ends)(σ:St)(v:V)(x:V)(y:V)(H3:Hp):Prop
 |mk(a:_)(H4:_):(x=.ref a)->(Bc H3 a y v H4)->(D.nx σ H4)->Ct D σ v x y H3
def Oc(td ty tv:TE):TS:=λD σ H=>tv σ H λv H1=>td σ H1 λx H2=>ty σ H2 λy H3=>Ct D σ v x y H3
section
variable {X:Cx} {o i e value:Expr} {pos pos' tpos:Pos} {td ty tv:TE}
theorem Gk(hu:X.A.units+1<cLine)(ho:PE X o td)(hi:PE X i ty)(hs:RU i):PE X (.Subscript o i pos) (NR td ty):=by
 intro pins s σ H Q I h
 refine Fy PySem.F.slot_dict_getitem.lookup hs (cW (ho pins s σ H _ I h) λu s1 ⟨x,H1,I1,rx,q1⟩=>cW (hi pins s1 σ H1 _ I1 q1) λiv s2 ⟨y,H2,I2,ry,a,v,ex,g,q2⟩=>?_)
 subst ex
 obtain rfl:u=Value.ref a:=rx
 exact⟨vI I2 g,AI hu I2 g ry λw' s3 I3 rw'=>⟨v,H2,I3,rw',q2⟩⟩
theorem yK(hu:X.A.units+1<cLine)(ho:PE X o td)(hi:PE X i ty)(hv:PE X value tv)(hs:swapsWith value (some (.Subscript o i pos')) pos.line X.env=pure false):
  PS X (.Assign [.Subscript o i pos'] value pos) (Oc td ty tv):=by
 intro pins s σ H D I h
 refine wpAny_Assign_Subscript (cW (hv pins s σ H _ I h) λr s1 ⟨v,H1,I1,rv,q1⟩=>cW (ho pins s1 σ H1 _ I1 q1) λu s2 ⟨x,H2,I2,rx,q2⟩=>cW (hi pins s2 σ H2 _ I2 q2) λiv s3 ⟨y,H3,I3,ry,a,H4,ex,g,q3⟩=>?_) hs
 subst ex
 obtain rfl:u=Value.ref a:=rx
 exact AH hu I3 g ry rv λs4 I4=>⟨σ,H4,I4,q3⟩
end
theorem Ed{P:Program}{w:World}{H:Hp}(h:Heap)(hb:sysModules<h.objs.size):ck P w H (h.push {cls:=.type "dict",data:=.dict #[]}) h.objs.size (.dT []):=
 ⟨Nat.zero_le _,beq_eq_false_iff_ne.mpr (Ne.symm (Nat.ne_of_lt hb)),[],.nil,_,#[],0,Heap.get?_push_size _ rfl,⟨rfl,rfl,rfl⟩,rfl,rfl,List.nodup_nil⟩
def J_:TE:=λ_ H Q=>∀p,H p=none->Q (.ref p) (upd H p (.dT []))
section
variable {X:Cx} {pos:Pos}
theorem uW:PE X (.Dict [] [] pos) J_:=λpins s σ H Q I h=>
 wpAny_Dict_empty ⟨.ref s.heap.objs.size,_,I.laid (a:=s.heap.objs.size) (o:=.dT []) (t':=s.toks) (λ_ _ q=>Heap.get?_push_of_some _ q) (Nat.le_refl _) (Ed s.heap I.big),rfl,h _ (I.hok.fresh (Nat.le_refl _))⟩
end
structure M1(X:Cx)(o:Expr)(m:Str)(apos:Pos)(e:Expr)(cpos:Pos):Prop where
 base:attributeBase o m X.env (eval o X.env)=eval o X.env
 few:((backTo cpos (starEach [e] X.env)).all (λx=> !x.1)&&(backToKw cpos (keywordEach [] X.env)).all (λx=>x.1.isSome)
  && decide (([e]:List Expr).length+([]:List Keyword).length+(if([]:List Keyword).isEmpty then 0 else 1)<30))=true
 line:(apos.endLine==cpos.line)=true
 trees:backTo cpos (starEach [e] X.env)=[(false,eval e X.env)]
structure M2(X:Cx)(o:Expr)(m:Str)(apos:Pos)(e f:Expr)(cpos:Pos):Prop where
 base:attributeBase o m X.env (eval o X.env)=eval o X.env
 few:((backTo cpos (starEach [e,f] X.env)).all (λx=> !x.1)&&(backToKw cpos (keywordEach [] X.env)).all (λx=>x.1.isSome)
  && decide (([e,f]:List Expr).length+([]:List Keyword).length+(if([]:List Keyword).isEmpty then 0 else 1)<30))=true
 line:(apos.endLine==cpos.line)=true
 trees:backTo cpos (starEach [e,f] X.env)=[(false,eval e X.env),(false,eval f X.env)]
def Tp(H:Hp)(a:Addr):Prop:=(∃kvs,Rd H a (.dK kvs))\/∃kvs,Rd H a (.dT kvs)
theorem DE{X:Cx}{pins:List (Addr×Obj)}{σ:St}{H:Hp}{s:Shared}{a:Addr}(I:Inv X pins σ H s)(d:Tp H a):
  s.TypeIs (.ref a) "dict"/\(∀b,Value.ref a=.ref b->∃ob,s.heap.get? b=some ob/\ob.dict=none)/\(a==sysModules)=false:=by
 rcases d with⟨kvs,e⟩|⟨kvs,e⟩
 ·obtain⟨_,hd,vs,_,dd⟩:=rN I.hok e
  refine⟨dd.typeIs,λb q=>?_,hd⟩
  cases q
  obtain⟨ob,_,_,h1,h2,_⟩:=dd
  exact⟨ob,h1,h2.2.1⟩
 ·obtain⟨_,hd,xs,_,dd⟩:=rL I.hok e
  refine⟨dd.typeIs,λb q=>?_,hd⟩
  cases q
  obtain⟨ob,_,_,h1,h2,_⟩:=dd
  exact⟨ob,h1,h2.2.1⟩
section
variable {X:Cx} {pins:List (Addr×Obj)} {σ:St} {H:Hp} {s:Shared} {a:Addr} {y d:V} {u r:Value} {o:Option V} {A:Around} {E:Value->Shared->Prop}
theorem Mw{Q:Value->Shared->Prop}(hu:A.units+1<cLine)(I:Inv X pins σ H s)(g:ua H a y o)(ry:RelV y u)(rd:RelV d r)(h:∀w' s',Inv X pins σ H s'->RelV (o.getD d) w'->Q w' s'):
  wpAny (model X.prog X.w) A (call (.builtin "dict.get") [.ref a,u,r]) Q E s:=by
 rcases g with⟨kvs,k,e,ey,l⟩|⟨kvs,k,b,e,ey,eb,l⟩
 ·subst ey
  obtain⟨z,hd,vs,rel,dd⟩:=rN I.hok e
  refine call_meetsIn PySem.F.slot_dict_get dd.typeIs PySem.F.entry_dict_get (PySem.F.args_dict_get_3 _ _ _) (meets_dict_get_default (bH X.prog X.w) a (yU ry) hd r) ⟨_,dd.mapOf,h _ _ (I.tok _) ?_⟩
  rw[l]
  exact(rel.val k).getD rd
 ·subst ey
  cases(show u=Value.ref b from ry)
  obtain⟨z,hd,xs,rel,dd⟩:=rL I.hok e
  refine call_meetsIn PySem.F.slot_dict_get dd.typeIs PySem.F.entry_dict_get (PySem.F.args_dict_get_3 _ _ _) (meetsH_dict_get_default (tupleKind (bH X.prog X.w)) a b hd r) ⟨tupleKind_room_in1 hu,k,xs,qd I.hok eb,dd,h _ _ (I.tok _) ?_⟩
  rw[l]
  exact(rel.val k).getD rd
end
inductive yj(ty:TE)(tx:TE)(σ:St)(Q:VK)(x:V)(H1:Hp):Prop
 |mk(a:_):(x=.ref a)->(Tp H1 a)->(ty σ H1 λy H2=>tx σ H2 λz H3=>∃o,ua H3 a y o/\Q (o.getD z) H3)->yj ty tx σ Q x H1
def Ka(td ty tx:TE):TE:=λσ H Q=>td σ H λx H1=>yj ty tx σ Q x H1
section
variable {X:Cx} {o e f:Expr} {apos cpos:Pos} {td ty tx:TE}
theorem CP(hu:X.A.units+1<cLine)(ho:PE X o td)(he:PE X e ty)(hf:PE X f tx)(m:M2 X o "get" apos e f cpos):PE X (.Call (.Attribute o "get" apos) [e,f] [] cpos) (Ka td ty tx):=by
 intro pins s σ H Q I h
 refine wpAny_Call_method m.base m.few m.line PySem.F.plainAttrs_dict PySem.F.slot_dict_get PySem.F.type_dict_get (cW (ho pins s σ H _ I h) λu s1 ⟨x,H1,I1,rx,a,ex,d,q1⟩=>?_)
 subst ex
 obtain rfl:u=Value.ref a:=rx
 obtain⟨t1,t2,_⟩:=DE I1 d
 refine⟨t1,t2,?_⟩
 rw[m.trees]
 refine Calls.callWith_builtin rfl (Calls.evalArgs_plain (Calls.spliced_cons (cW (he pins s1 σ H1 _ I1 q1) λiv s2 ⟨y,H2,I2,ry,q2⟩=>
  Calls.spliced_cons (cW (hf pins s2 σ H2 _ I2 q2) λfv s3 ⟨z,H3,I3,rz,ov,g,q3⟩=>Calls.spliced_nil ?_))))
 exact Mw hu I3 g ry rz λw' s4 I4 rw'=>⟨_,H3,I4,rw',q3⟩
end
section
variable {X:Cx} {pins:List (Addr×Obj)} {σ:St} {H:Hp} {s:Shared} {a:Addr} {kvs:List (Key×V)} {A:Around} {E:Value->Shared->Prop}
end
section
variable {X:Cx} {pins:List (Addr×Obj)} {σ:St} {H:Hp} {s:Shared} {a:Addr} {y:V} {u:Value} {A:Around} {E:Value->Shared->Prop}
end
section
variable {X:Cx}
end
section
variable {κ:Type} [DecidableEq κ]
end
end L2
namespace TS
open PySem PyProof.Rows
abbrev SM:=StateT SortSt Sem
def tF:Bool->Keyed->Array Keyed->Nat->Nat->Nat->SM (Option Nat):=sortPriv% PySem.Builtin.gallop
def YR(left:Bool)(key:Keyed)(arr:Array Keyed)(base i:Nat):SM (Option Bool):=elem' arr (base+i) >>= λx=>if left=true then lt' x key else lt' key x >>= λr=>pure (r.map λb=> !b)
def bin(p:Nat->SM (Option Bool))(n lo hi:Nat):SM (Option Nat):=
 (forIn [:n] ((none,lo,hi):Option (Option Nat)×Nat×Nat) λ_ c=>
  if c.2.1≥c.2.2 then pure (.done (none,c.2.1,c.2.2))else p (c.2.1+(c.2.2-c.2.1)/2) >>= λx=>match x with
   |some z=>if z=true then pure (.yield (none,c.2.1+(c.2.2-c.2.1)/2+1,c.2.2))else pure (.yield (none,c.2.1,c.2.1+(c.2.2-c.2.1)/2))
   |_=>pure (.done (some none,c.2.1,c.2.2))) >>= λc=>match c.1 with
  |some r=>pure r
  |none=>pure (some c.2.2)
def Zk(p:Nat->SM (Option Bool))(n hint m:Nat):SM (Option (Option Nat)×Nat×Nat):=
 forIn [:n] ((none,0,1):Option (Option Nat)×Nat×Nat) λ_ c=>
  if c.2.2≥m then pure (.done (none,c.2.1,c.2.2))else p (hint+c.2.2) >>= λx=>match x with
   |some z=>if(!z)=true then pure (.done (none,c.2.1,c.2.2))else pure (.yield (none,c.2.2,2*c.2.2+1))
   |_=>pure (.done (some none,c.2.1,c.2.2))
def dnw(p:Nat->SM (Option Bool))(n hint m:Nat):SM (Option (Option Nat)×Nat×Nat):=
 forIn [:n] ((none,0,1):Option (Option Nat)×Nat×Nat) λ_ c=>
  if c.2.2≥m then pure (.done (none,c.2.1,c.2.2))else p (hint-c.2.2) >>= λx=>match x with
   |some z=>if z=true then pure (.done (none,c.2.1,c.2.2))else pure (.yield (none,c.2.2,2*c.2.2+1))
   |_=>pure (.done (some none,c.2.1,c.2.2))
def We(p:Nat->SM (Option Bool))(n hint:Nat):SM (Option Nat):=p hint >>= λx=>match x with
  |some z=>if z=true then Zk p n hint (n-hint) >>= λc=>(match c.1 with
       |some r=>pure r
       |none=>bin p n (hint+c.2.1+1) (hint+min c.2.2 (n-hint)))
      else dnw p n hint (hint+1) >>= λc=>(match c.1 with
        |some r=>pure r
        |none=>bin p n (hint+1-min c.2.2 (hint+1)) (hint-c.2.1))
  |_=>pure none
theorem bnd{α β:Type}(m:SM α){f g:α->SM β}(h:∀x,f x=g x):(m >>= f)=(m >>= g):=by rw[funext h]
theorem lop{β:Type}(n:Nat)(c:β){f g:Nat->β->SM (ForInStep β)}(h:∀i x,f i x=g i x):(forIn [:n] c f)=(forIn [:n] c g):=by rw[funext λi=>funext (h i)]
theorem Hz{α β:Type}{m m':SM α}{f g:α->SM β}(h0:m=m')(h:∀x,f x=g x):(m >>= f)=(m' >>= g):=by rw[h0,funext h]
theorem xB(left:Bool)(key:Keyed)(arr:Array Keyed)(base n hint:Nat):tF left key arr base n hint=We (YR left key arr base) n hint:=by
 unfold tF We
 refine bnd _ λx=>?_
 cases x with
 |none=>rfl
 |some z=>
  cases z with
  |true=>
   refine Hz (lop _ _ λi c=>?_) λc=>?_
   ·obtain⟨r,l,o⟩:=c
    refine ite_congr rfl (λ_=>rfl) (λ_=>bnd _ λx=>?_)
    cases x<;>rfl
   ·obtain⟨r,l,o⟩:=c
    cases r with
    |some r=>rfl
    |none=>
     refine Hz (lop _ _ λi c=>?_) λc=>?_
     ·obtain⟨r,l,o⟩:=c
      refine ite_congr rfl (λ_=>rfl) (λ_=>bnd _ λx=>?_)
      cases x<;>rfl
     ·obtain⟨r,l,o⟩:=c
      cases r<;>rfl
  |false=>
   refine Hz (lop _ _ λi c=>?_) λc=>?_
   ·obtain⟨r,l,o⟩:=c
    refine ite_congr rfl (λ_=>rfl) (λ_=>bnd _ λx=>?_)
    cases x<;>rfl
   ·obtain⟨r,l,o⟩:=c
    cases r with
    |some r=>rfl
    |none=>
     refine Hz (lop _ _ λi c=>?_) λc=>?_
     ·obtain⟨r,l,o⟩:=c
      refine ite_congr rfl (λ_=>rfl) (λ_=>bnd _ λx=>?_)
      cases x<;>rfl
     ·obtain⟨r,l,o⟩:=c
      cases r<;>rfl
structure Ord(S:Keyed->Prop)(blt:Keyed->Keyed->Bool):Prop where
 DF:∀x,S x->blt x x=false
 xQ:∀x y,S x->S y->blt x y=true->blt y x=false
 tr:∀x y z,S x->S y->S z->blt y x=false->blt z y=false->blt z x=false
def zp(prog:Program)(w:World)(A:Around)(E:Value->Shared->Prop)(s:Shared)(κ:SortKind)(S:Keyed->Prop)(blt:Keyed->Keyed->Bool):Prop:=
 ∀(x y:Keyed)(st:SortSt)(Q:Option Bool->SortSt->Prop),S x->S y->kindOf st=κ->Q (some (blt x y)) st->wpS (model prog w) A E s (lt' x y) Q st
section
variable {prog:Program} {w:World} {A:Around} {E:Value->Shared->Prop} {s:Shared} {κ:SortKind} {S:Keyed->Prop} {blt:Keyed->Keyed->Bool}
theorem cI{arr:Array Keyed}{i:Nat}{p:Keyed}{Q:Keyed->SortSt->Prop}{st:SortSt}(h:arr[i]? = some p)(hq:Q p st):wpS (model prog w) A E s (elem' arr i) Q st:=by
 rw[elem'_eq,h]
 exact wpS_pure hq
theorem NI(C:zp prog w A E s κ S blt){left:Bool}{key x:Keyed}{arr:Array Keyed}{base i:Nat}{st:SortSt}{Q:Option Bool->SortSt->Prop}(hk:kindOf st=κ)(hx:arr[base+i]? = some x)(sx:S x)(sk:S key)
  (hq:Q (some (if left=true then blt x key else !blt key x)) st):wpS (model prog w) A E s (YR left key arr base i) Q st:=by
 refine wpS_bind (cI hx ?_)
 cases left with
 |true=>exact C x key st _ sx sk hk hq
 |false=>exact wpS_bind (C key x st _ sk sx hk (wpS_pure hq))
def YT(prog:Program)(w:World)(A:Around)(E:Value->Shared->Prop)(s:Shared)(p:Nat->SM (Option Bool))(P:Nat->Bool)(n:Nat)(st:SortSt):Prop:=
 ∀(i:Nat)(Q:Option Bool->SortSt->Prop),i<n->Q (some (P i)) st->wpS (model prog w) A E s (p i) Q st
theorem qP{p:Nat->SM (Option Bool)}{P:Nat->Bool}{n lo hi:Nat}{st:SortSt}{Q:Option Nat->SortSt->Prop}(T:YT prog w A E s p P n st)(mono:∀i j,i<=j->j<n->P j=true->P i=true)(hlh:lo<=hi)(hhn:hi<=n)
  (h1:∀i,i<lo->P i=true)(h2:∀i,hi<=i->i<n->P i=false)(hq:∀k,k<=n->(∀i,i<k->P i=true)->(∀i,k<=i->i<n->P i=false)->Q (some k) st):wpS (model prog w) A E s (bin p n lo hi) Q st:=by
 refine wpS_bind (wpS_forRange (λi c st'=>st'=st/\c.1=none/\c.2.1<=c.2.2/\c.2.2<=n/\c.2.2-c.2.1+i<=n/\(∀i,i<c.2.1->P i=true)/\∀i,c.2.2<=i->i<n->P i=false) ?_ ?_ ⟨rfl,rfl,hlh,hhn,by simp only;lia,h1,h2⟩)
 ·rintro i ⟨r,l,h⟩ st' _ hi ⟨rfl,rfl,a1,a2,a3,a4,a5⟩
  simp only at a1 a2 a3 a4 a5 ⊢
  by_cases hc:l≥h
  ·rw[if_pos hc]
   refine wpS_pure ?_
   have e:l=h:=by lia
   subst e
   exact wpS_pure (hq l a2 a4 a5)
  ·rw[if_neg hc]
   have hm:l+(h-l)/2<n:=by lia
   refine wpS_bind (T _ _ hm ?_)
   cases z:P (l+(h-l)/2)with
   |true=>
    refine wpS_pure ⟨rfl,rfl,?_,a2,?_,λj hj=>?_,a5⟩
    ·simp only;lia
    ·simp only;lia
    ·simp only at hj
     exact mono j _ LI hm z
   |false=>
    refine wpS_pure ⟨rfl,rfl,?_,?_,?_,a4,λj hj hjn=>?_⟩
    ·simp only;lia
    ·simp only;lia
    ·simp only;lia
    ·simp only at hj
     cases y:P j with
     |false=>rfl
     |true=>
      have:=mono _ j hj hjn y
      rw[z]at this
      cases this
 ·rintro⟨r,l,h⟩ st' ⟨rfl,rfl,a1,a2,a3,a4,a5⟩
  simp only at a1 a2 a3 a4 a5 ⊢
  have e:l=h:=by lia
  subst e
  exact wpS_pure (hq l a2 a4 a5)
theorem NH{p:Nat->SM (Option Bool)}{P:Nat->Bool}{n hint:Nat}{st:SortSt}{Q:Option Nat->SortSt->Prop}(T:YT prog w A E s p P n st)(mono:∀i j,i<=j->j<n->P j=true->P i=true)(hh:hint<n)
  (hq:∀k,k<=n->(∀i,i<k->P i=true)->(∀i,k<=i->i<n->P i=false)->Q (some k) st):wpS (model prog w) A E s (We p n hint) Q st:=by
 have dn:∀i j,i<=j->j<n->P i=false->P j=false:=λi j hij hj z=>by
  cases y:P j with
  |false=>rfl
  |true=>
   have:=mono i j hij hj y
   rw[z]at this
   cases this
 refine wpS_bind (T _ _ hh ?_)
 cases z:P hint with
 |true=>
  refine wpS_bind (wpS_forRange (λi c st'=>st'=st/\c.1=none/\i<c.2.2/\c.2.1<c.2.2/\hint+c.2.1<n/\P (hint+c.2.1)=true) ?_ ?_ ⟨rfl,rfl,by simp,by simp,by simpa using hh,by simpa using z⟩)
  ·rintro i ⟨r,l,o⟩ st' _ hi ⟨rfl,rfl,a1,a2,a3,a4⟩
   simp only at a1 a2 a3 a4 ⊢
   by_cases hc:o≥n-hint
   ·rw[if_pos hc]
    refine wpS_pure ?_
    refine qP T mono (by simp only;lia) (by simp only;lia) (λj hj=>mono j _ (by simp only at hj;lia) a3 a4) (λj hj hjn=>?_) hq
    simp only at hj
    lia
   ·rw[if_neg hc]
    refine wpS_bind (T _ _ LI ?_)
    cases y:P (hint+o)with
    |true=>exact wpS_pure ⟨rfl,rfl,by simp only;lia,by simp only;lia,by simp only;lia,y⟩
    |false=>
     refine wpS_pure ?_
     refine qP T mono (by simp only;lia) (by simp only;lia) (λj hj=>mono j _ (by simp only at hj;lia) a3 a4) (λj hj hjn=>dn _ j ?_ hjn y) hq
     simp only at hj
     lia
  ·rintro⟨r,l,o⟩ st' ⟨rfl,rfl,a1,a2,a3,a4⟩
   simp only at a1 a2 a3 a4 ⊢
   refine qP T mono LI LI (λj hj=>mono j _ LI a3 a4) (λj hj hjn=>?_) hq
   lia
 |false=>
  refine wpS_bind (wpS_forRange (λi c st'=>st'=st/\c.1=none/\i<c.2.2/\c.2.1<c.2.2/\c.2.1<=hint/\P (hint-c.2.1)=false) ?_ ?_ ⟨rfl,rfl,by simp,by simp,by simp,by simpa using z⟩)
  ·rintro i ⟨r,l,o⟩ st' _ hi ⟨rfl,rfl,a1,a2,a3,a4⟩
   simp only at a1 a2 a3 a4 ⊢
   by_cases hc:o≥hint+1
   ·rw[if_pos hc]
    refine wpS_pure ?_
    refine qP T mono (by simp only;lia) (by simp only;lia) (λj hj=>?_) (λj hj hjn=>dn _ j (by simp only at hj;lia) hjn a4) hq
    simp only at hj
    lia
   ·rw[if_neg hc]
    refine wpS_bind (T _ _ LI ?_)
    cases y:P (hint-o)with
    |false=>exact wpS_pure ⟨rfl,rfl,by simp only;lia,by simp only;lia,by simp only;lia,y⟩
    |true=>
     refine wpS_pure ?_
     refine qP T mono (by simp only;lia) (by simp only;lia) (λj hj=>mono j _ ?_ LI y) (λj hj hjn=>dn _ j (by simp only at hj;lia) hjn a4) hq
     simp only at hj
     lia
  ·rintro⟨r,l,o⟩ st' ⟨rfl,rfl,a1,a2,a3,a4⟩
   simp only at a1 a2 a3 a4 ⊢
   refine qP T mono LI LI (λj hj=>?_) (λj hj hjn=>dn _ j LI hjn a4) hq
   lia
theorem gI(O:Ord S blt)(C:zp prog w A E s κ S blt){left:Bool}{key:Keyed}{arr:Array Keyed}{base n hint:Nat}{X:Nat->Keyed}{st:SortSt}{Q:Option Nat->SortSt->Prop}(hk:kindOf st=κ)
  (hX:∀i,i<n->arr[base+i]? = some (X i))(hS:∀i,i<n->S (X i))(sk:S key)(Ia:∀i j,i<=j->j<n->blt (X j) (X i)=false)(hh:hint<n)
  (hq:∀k,k<=n->(∀i,i<k->(if left=true then blt (X i) key else !blt key (X i))=true)->(∀i,k<=i->i<n->(if left=true then blt (X i) key else !blt key (X i))=false)->Q (some k) st):
  wpS (model prog w) A E s (tF left key arr base n hint) Q st:=by
 rw[xB]
 refine NH (P:=λi=>if left=true then blt (X i) key else !blt key (X i)) (λi Q' hi hQ'=>NI C hk (hX i hi) (hS i hi) sk hQ') (λi j hij hj z=>?_) hh hq
 have l1:=Ia i j hij hj
 cases left with
 |true=>
  simp only[if_true]at z ⊢
  cases y:blt (X i) key with
  |true=>rfl
  |false=>
   have:=O.tr key (X i) (X j) sk (hS i LI) (hS j hj) y l1
   rw[z]at this
   cases this
 |false=>
  simp only[Bool.false_eq_true,if_false,Bool.not_eq_true']at z ⊢
  exact O.tr (X i) (X j) key (hS i LI) (hS j hj) sk l1 z
end
abbrev qy(blt:Keyed->Keyed->Bool)(l:List Keyed):Prop:=l.Pairwise λx y=>blt y x=false
structure Lo(blt:Keyed->Keyed->Bool)(T o ra rb:List Keyed):Prop where
 perm:(o++(ra++rb)).Perm T
 so:qy blt o
 sa:qy blt ra
 sb:qy blt rb
 low:∀x∈o,∀y∈ra++rb,blt y x=false
structure Good(blt:Keyed->Keyed->Bool)(T:List Keyed)(r:Array Keyed):Prop where
 perm:r.toList.Perm T
 Ia:qy blt r.toList
theorem Lo.kM{blt:Keyed->Keyed->Bool}{T o p ra rb:List Keyed}(h:Lo blt T o (p++ra) rb)(hx:∀x∈p,∀y∈rb,blt y x=false):Lo blt T (o++p) ra rb:=by
 obtain⟨h1,h2,h3,h4,h5⟩:=h
 have h3':=List.pairwise_append.mp h3
 refine⟨?_,?_,h3'.2.1,h4,λx hx' y hy=>?_⟩
 ·have e:o++p++(ra++rb)=o++(p++ra++rb):=by simp
  rw[e]
  exact h1
 ·exact List.pairwise_append.mpr ⟨h2,h3'.1,λx hx' y hy=>h5 x hx' y (by simp[hy])⟩
 ·rcases List.mem_append.mp hx' with z|z
  ·exact h5 x z y (by rcases List.mem_append.mp hy with q|q<;>simp[q])
  ·rcases List.mem_append.mp hy with q|q
   ·exact h3'.2.2 x z y q
   ·exact hx x z y q
theorem Lo.nL{blt:Keyed->Keyed->Bool}{T o p ra rb:List Keyed}(h:Lo blt T o ra (p++rb))(hx:∀x∈p,∀y∈ra,blt y x=false):Lo blt T (o++p) ra rb:=by
 obtain⟨h1,h2,h3,h4,h5⟩:=h
 have Mc:=List.pairwise_append.mp h4
 refine⟨?_,?_,h3,Mc.2.1,λx hx' y hy=>?_⟩
 ·refine List.Perm.trans ?_ h1
  rw[List.append_assoc]
  refine List.Perm.append_left o ?_
  rw[←List.append_assoc,←List.append_assoc]
  exact List.Perm.append_right rb List.perm_append_comm
 ·exact List.pairwise_append.mpr ⟨h2,Mc.1,λx hx' y hy=>h5 x hx' y (by simp[hy])⟩
 ·rcases List.mem_append.mp hx' with z|z
  ·exact h5 x z y (by rcases List.mem_append.mp hy with q|q<;>simp[q])
  ·rcases List.mem_append.mp hy with q|q
   ·exact hx x z y q
   ·exact Mc.2.2 x z y q
theorem Lo.end{blt:Keyed->Keyed->Bool}{T o:List Keyed}(h:Lo blt T o [] []):o.Perm T/\qy blt o:=⟨by simpa using h.perm,h.so⟩
theorem Lo.Hq{blt:Keyed->Keyed->Bool}{T o ra:List Keyed}(h:Lo blt T o ra []):(o++ra).Perm T/\qy blt (o++ra):=by
 have h':Lo blt T o (ra++[]) []:=by rw[List.append_nil];exact h
 exact(h'.kM λ_ _ _ z=>by cases z).end
theorem Lo.Ho{blt:Keyed->Keyed->Bool}{T o rb:List Keyed}(h:Lo blt T o [] rb):(o++rb).Perm T/\qy blt (o++rb):=by
 have h':Lo blt T o [] (rb++[]):=by rw[List.append_nil];exact h
 exact(h'.nL λ_ _ _ z=>by cases z).end
theorem drop_cons{l:List Keyed}{i:Nat}{x:Keyed}(h:l[i]? = some x):l.drop i=x::l.drop (i+1):=by
 obtain⟨hi,e⟩:=List.getElem?_eq_some_iff.mp h
 rw[List.drop_eq_getElem_cons hi,e]
theorem qj(l:List Keyed)(i k:Nat):l.drop i=(l.drop i).take k++l.drop (i+k):=by
 rw[←List.drop_drop,List.take_append_drop]
theorem aD{a:Array Keyed}{i:Nat}{x:Keyed}(h:a[i]? = some x):a.toList[i]? = some x:=by simpa using h
theorem aB{a:Array Keyed}{i:Nat}(h:i<a.size):a[i]? = some a[i]:=by simp[h]
theorem ext_toList(a:Array Keyed)(i j:Nat):(a.extract i j).toList=(a.toList.drop i).take (j-i):=by simp
theorem pC(a:Array Keyed)(i:Nat):(a.extract i a.size).toList=a.toList.drop i:=by
 rw[ext_toList]
 exact List.take_of_length_le (by simp)
theorem jE{blt:Keyed->Keyed->Bool}{S:Keyed->Prop}(O:Ord S blt){l:List Keyed}(hs:qy blt l)(hS:∀x∈l,S x){i j:Nat}{x y:Keyed}(hx:l[i]? = some x)(hy:l[j]? = some y)(hij:i<=j):blt y x=false:=by
 obtain⟨hi,rfl⟩:=List.getElem?_eq_some_iff.mp hx
 obtain⟨hj,rfl⟩:=List.getElem?_eq_some_iff.mp hy
 by_cases e:i=j
 ·subst e
  exact O.DF _ (hS _ (List.getElem_mem hi))
 ·exact List.pairwise_iff_getElem.mp hs i j hi hj LI
theorem iH{blt:Keyed->Keyed->Bool}{S:Keyed->Prop}(O:Ord S blt){l:List Keyed}(hs:qy blt l)(hS:∀x∈l,S x){i:Nat}{x y:Keyed}(hx:l[i]? = some x)(hy:y∈l.drop i):blt y x=false:=by
 obtain⟨k,hk,rfl⟩:=List.mem_iff_getElem.mp hy
 have hk':k<l.length-i:=by simpa using hk
 have e:l[i+k]? = some (l.drop i)[k]:=by
  rw[List.getElem_drop]
  exact List.getElem?_eq_getElem LI
 exact jE O hs hS hx e LI
abbrev setG(st:SortSt)(g:Nat):SortSt:=SortSt.mk' (kindOf st) (arrOf st) (pendingOf st) g (failedOf st)
theorem iZ(st:SortSt):setG st (gallopOf st)=st:=rfl
def Df:Array Keyed->Array Keyed->SM (Array Keyed):=sortPriv% PySem.Builtin.mergeLo
section
variable {prog:Program} {w:World} {A:Around} {E:Value->Shared->Prop} {s:Shared} {κ:SortKind} {S:Keyed->Prop} {blt:Keyed->Keyed->Bool}
theorem lV{x:String}{Q:Unit->SortSt->Prop}{st:SortSt}(h:Q () st):wpS (model prog w) A E s (liftM (rule x):SM Unit) Q st:=wpS_lift (wpAny_rule ⟨rfl,h⟩)
theorem YH{st st':SortSt}{c1:Prop}{R:Nat->Prop}{G:SortSt->Prop}(h:∃g,st'=setG st g/\c1/\∃rem,R rem)(k:∀g rem,R rem->G (setG st g)):G st':=let⟨g,e,_,rem,r⟩:=h;e▸k g rem r
theorem YI{st st':SortSt}{c1 P:Prop}{G:SortSt->Prop}(h:∃g,st'=setG st g/\c1/\P)(k:∀g,P->G (setG st g)):G st':=let⟨g,e,_,r⟩:=h;e▸k g r
theorem Tg{st st':SortSt}{P:Prop}{G:SortSt->Prop}(h:st'=st/\P)(k:P->G st):G st':=let⟨e,r⟩:=h;e▸k r
theorem xY{α β γ:Type}{m:SM γ}{R:γ->SortSt->Prop}{st:SortSt}(jp:α->β->SM γ)(P:α->β->SortSt->Prop)(h1:∀x y st,P x y st->wpS (model prog w) A E s (jp x y) R st)
  (h2:(∀x y st,P x y st->wpS (model prog w) A E s (jp x y) R st)->wpS (model prog w) A E s m R st):wpS (model prog w) A E s m R st:=h2 h1
theorem oW{α β δ γ:Type}{m:SM γ}{R:γ->SortSt->Prop}{st:SortSt}(jp:α->β->δ->SM γ)(P:α->β->δ->SortSt->Prop)(h1:∀x y z st,P x y z st->wpS (model prog w) A E s (jp x y z) R st)
  (h2:(∀x y z st,P x y z st->wpS (model prog w) A E s (jp x y z) R st)->wpS (model prog w) A E s m R st):wpS (model prog w) A E s m R st:=h2 h1
theorem w_ite{α:Type}{c:Prop}[Decidable c]{m n:SM α}{Q:α->SortSt->Prop}{st:SortSt}(h1:c->wpS (model prog w) A E s m Q st)(h2:¬c->wpS (model prog w) A E s n Q st):wpS (model prog w) A E s (if c then m else n) Q st:=by
 by_cases h:c
 ·rw[if_pos h]
  exact h1 h
 ·rw[if_neg h]
  exact h2 h
structure At(blt:Keyed->Keyed->Bool)(a b:Array Keyed)(rem:Nat)(out:Array Keyed)(ia ib:Nat):Prop where
 lo:Lo blt (a.toList++b.toList) out.toList (a.toList.drop ia) (b.toList.drop ib)
 ha:ia+1<a.size
 hb:ib<b.size
 hr:(a.size-ia)+(b.size-ib)<=rem
theorem zu(O:Ord S blt)(C:zp prog w A E s κ S blt){a b:Array Keyed}{st:SortSt}{Q:Array Keyed->SortSt->Prop}(hk:kindOf st=κ)(Sa:∀x∈a.toList,S x)(Sb:∀x∈b.toList,S x)(sa:qy blt a.toList)(sb:qy blt b.toList)
  {a0 b0 al:Keyed}(ea:a[0]? = some a0)(eb:b[0]? = some b0)(el:a[a.size-1]? = some al)(h0:blt b0 a0=true)(hl:∀y∈b.toList,blt al y=false)
  (hQ:∀m g,Good blt (a.toList++b.toList) m->Q m (setG st g)):wpS (model prog w) A E s (Df a b) Q st:=by
 have na:0<a.size:=by
  rcases Nat.eq_zero_or_pos a.size with z|z
  ·rw[Array.getElem?_eq_none LI]at ea
   cases ea
  ·exact z
 have nb:0<b.size:=by
  rcases Nat.eq_zero_or_pos b.size with z|z
  ·rw[Array.getElem?_eq_none LI]at eb
   cases eb
  ·exact z
 have ZA:=Sa a0 (List.mem_of_getElem? (aD ea))
 have Zz:=Sb b0 (List.mem_of_getElem? (aD eb))
 have SA:∀{i x},a[i]? = some x->S x:=λh=>Sa _ (List.mem_of_getElem? (aD h))
 have SB:∀{i x},b[i]? = some x->S x:=λh=>Sb _ (List.mem_of_getElem? (aD h))
 have JP:∀{i y},y∈a.toList.drop i->S y:=λh=>Sa _ (List.mem_of_mem_drop h)
 have JO:∀{i y},y∈b.toList.drop i->S y:=λh=>Sb _ (List.mem_of_mem_drop h)
 have fin:∀(out:Array Keyed)(ia ib:Nat),Lo blt (a.toList++b.toList) out.toList (a.toList.drop ia) (b.toList.drop ib)->(ib=b.size\/ia=a.size)->Good blt (a.toList++b.toList) (out++a.extract ia a.size++b.extract ib b.size):=by
  intro out ia ib h hz
  have e:(out++a.extract ia a.size++b.extract ib b.size).toList=out.toList++a.toList.drop ia++b.toList.drop ib:=by
   rw[Array.toList_append,Array.toList_append,pC,pC]
  rcases hz with z|z
  ·have zb:b.toList.drop ib=[]:=List.drop_of_length_le (by simp[z])
   rw[zb]at h
   have:=h.Hq
   exact⟨by rw[e,zb,List.append_nil];exact this.1,by rw[e,zb,List.append_nil];exact this.2⟩
  ·have za:a.toList.drop ia=[]:=List.drop_of_length_le (by simp[z])
   rw[za]at h
   have:=h.Ho
   exact⟨by rw[e,za,List.append_nil];exact this.1,by rw[e,za,List.append_nil];exact this.2⟩
 have last:∀(out:Array Keyed)(ia ib:Nat),Lo blt (a.toList++b.toList) out.toList (a.toList.drop ia) (b.toList.drop ib)->ia+1=a.size->Good blt (a.toList++b.toList) (out++b.extract ib b.size++a.extract ia a.size):=by
  intro out ia ib h hz
  have e:(out++b.extract ib b.size++a.extract ia a.size).toList=out.toList++b.toList.drop ib++a.toList.drop ia:=by
   rw[Array.toList_append,Array.toList_append,pC,pC]
  have ed:a.toList.drop ia=[al]:=by
   have e1:a.toList[ia]? = some al:=aD (by rw[show ia=a.size-1 by lia];exact el)
   rw[drop_cons e1,List.drop_of_length_le (by simp;lia)]
  have h':Lo blt (a.toList++b.toList) out.toList (a.toList.drop ia) (b.toList.drop ib++[]):=by rw[List.append_nil];exact h
  have h2:=(h'.nL λx hx y hy=>by
   rw[ed]at hy
   rw[List.mem_singleton.mp hy]
   exact hl x (List.mem_of_mem_drop hx)).Hq
  exact⟨by rw[e];exact h2.1,by rw[e];exact h2.2⟩
 have qW:∀{out ia ib x y},Lo blt (a.toList++b.toList) (out:Array Keyed).toList (a.toList.drop ia) (b.toList.drop ib)->b[ib]? = some x->a[ia]? = some y->blt y x=false->Lo blt (a.toList++b.toList) (out.push x).toList (a.toList.drop ia) (b.toList.drop (ib+1)):=by
  intro out ia ib x y h hx hy hlt
  rw[drop_cons (aD hx)]at h
  rw[Array.toList_push]
  refine h.nL (p:=[x]) λz hz y' hy'=>?_
  rw[List.mem_singleton.mp hz]
  exact O.tr x y y' (SB hx) (SA hy) (JP hy') hlt (iH O sa Sa (aD hy) hy')
 have uG:∀{out ia ib x y},Lo blt (a.toList++b.toList) (out:Array Keyed).toList (a.toList.drop ia) (b.toList.drop ib)->a[ia]? = some x->b[ib]? = some y->blt y x=false->Lo blt (a.toList++b.toList) (out.push x).toList (a.toList.drop (ia+1)) (b.toList.drop ib):=by
  intro out ia ib x y h hx hy hlt
  rw[drop_cons (aD hx)]at h
  rw[Array.toList_push]
  refine h.kM (p:=[x]) λz hz y' hy'=>?_
  rw[List.mem_singleton.mp hz]
  exact O.tr x y y' (SA hx) (SB hy) (JO hy') hlt (iH O sb Sb (aD hy) hy')
 have start:Lo blt (a.toList++b.toList) (#[b0]:Array Keyed).toList (a.toList.drop 0) (b.toList.drop 1):=by
  have h:Lo blt (a.toList++b.toList) (#[]:Array Keyed).toList (a.toList.drop 0) (b.toList.drop 0):=⟨by simp,by simp,by simpa using sa,by simpa using sb,by simp⟩
  exact qW h eb ea (O.xQ b0 a0 Zz ZA h0)
 refine wpS_bind (lV ?_)
 refine wpS_bind (cI eb ?_)
 extract_lets -merge -underBinder o1
 refine w_ite (λc1=>?_) (λc1=>?_)
 ·exact wpS_pure (iZ st▸hQ _ (gallopOf st) (fin _ 0 1 start (.inl (beq_iff_eq.mp c1))))
 refine w_ite (λc2=>?_) (λc2=>?_)
 ·exact wpS_pure (iZ st▸hQ _ (gallopOf st) (last _ 0 1 start (beq_iff_eq.mp c2)))
 have n1:1<b.size:=by
  have:¬1=b.size:=λz=>c1 (beq_iff_eq.mpr z)
  lia
 have n2:0+1<a.size:=by
  have:¬0+1=a.size:=λz=>c2 (beq_iff_eq.mpr z)
  lia
 refine wpS_bind (wpS_get ?_)
 refine wpS_bind (wpS_forRange (λi c st'=>∃g,st'=setG st g/\c.1=none/\∃rem,rem+i<a.size+b.size/\At blt a b rem c.2.1 c.2.2.1 c.2.2.2.1) ?_ ?_ ⟨gallopOf st,rfl,rfl,a.size+b.size-1,by lia,start,n2,n1,by simp only;lia⟩)
 rotate_left
 ·rintro⟨r,out,ia,ib,mg⟩ st' ⟨g,rfl,rfl,rem,h1,h2⟩
  have h3:=h2.hr
  have h4:=h2.ha
  simp only at h3 h4
  exact absurd h1 LI
 clear_value o1
 intro i c st' _ hi hI
 refine YH hI λg rem h=>?_
 clear hI
 extract_lets -merge -underBinder s0 o s1 ja s2 jb mg ac bc
 have h1:=h.1
 have h2:At blt a b rem o ja jb:=h.2
 clear h
 clear_value o ja jb mg ac bc
 clear s2 s1 s0
 refine wpS_bind (wpS_mono (Q:=λ(c:Option (Array Keyed)×Array Keyed×Nat×Nat×Nat×Nat) st'=>st'=setG st g/\((∃r,c.1=some r/\Good blt (a.toList++b.toList) r)\/(c.1=none/\At blt a b rem c.2.1 c.2.2.1 c.2.2.2.1)))
  (wpS_forRange (λ_ (c:Option (Array Keyed)×Array Keyed×Nat×Nat×Nat×Nat) st'=>st'=setG st g/\c.1=none/\At blt a b rem c.2.1 c.2.2.1 c.2.2.2.1) ?_ (λc st' h=>⟨h.1,.inr ⟨h.2.1,h.2.2⟩⟩) ⟨rfl,rfl,h2⟩) ?_)
 ·clear h2
  intro j c st' _ hj hI
  refine Tg hI λh=>?_
  clear hI
  extract_lets -merge -underBinder s0 o s1 ja s2 jb s3 ca cb
  have h2:At blt a b rem o ja jb:=h.2
  clear h
  clear_value o ja jb ca cb
  clear s3 s2 s1 s0
  obtain⟨lo,ha,hb,hr⟩:=h2
  obtain⟨bk,ex⟩:∃x,b[jb]? = some x:=⟨_,aB hb⟩
  obtain⟨ak,ey⟩:∃x,a[ja]? = some x:=⟨_,aB (show ja<a.size by lia)⟩
  refine wpS_bind (cI ex (wpS_bind (cI ey (wpS_bind (C _ _ _ _ (SB ex) (SA ey) hk ?_)))))
  cases z:blt bk ak with
  |true=>
   dsimp only
   refine w_ite (λ_=>wpS_bind (cI ex ?_)) λz=>absurd rfl z
   have lo':=qW lo ex ey (O.xQ _ _ (SB ex) (SA ey) z)
   refine w_ite (λd1=>?_) (λd1=>?_)
   ·exact wpS_pure ⟨rfl,.inl ⟨_,rfl,fin _ _ _ lo' (.inl (beq_iff_eq.mp d1))⟩⟩
   have Mx:¬jb+1=b.size:=λz=>d1 (beq_iff_eq.mpr z)
   have at':At blt a b rem (o.push bk) ja (jb+1):=⟨lo',ha,by lia,by lia⟩
   exact w_ite (λ_=>wpS_pure ⟨rfl,.inr ⟨rfl,at'⟩⟩) λ_=>wpS_pure ⟨rfl,rfl,at'⟩
  |false=>
   dsimp only
   refine w_ite (λz=>absurd z Bool.false_ne_true) λ_=>wpS_bind (cI ey ?_)
   have lo':=uG lo ey ex z
   refine w_ite (λd1=>?_) (λd1=>?_)
   ·exact wpS_pure ⟨rfl,.inl ⟨_,rfl,last _ _ _ lo' (beq_iff_eq.mp d1)⟩⟩
   have Mx:¬ja+1+1=a.size:=λz=>d1 (beq_iff_eq.mpr z)
   have at':At blt a b rem (o.push ak) (ja+1) jb:=⟨lo',by lia,hb,by lia⟩
   exact w_ite (λ_=>wpS_pure ⟨rfl,.inr ⟨rfl,at'⟩⟩) λ_=>wpS_pure ⟨rfl,rfl,at'⟩
 clear h2
 intro c st' hI
 refine Tg hI λh=>?_
 clear hI
 dsimp(zeta:=false) only
 extract_lets -merge -underBinder r' s1 o s2 ja s3 jb s4 ca cb
 have h':(∃r,r'=some r/\Good blt (a.toList++b.toList) r)\/(r'=none/\At blt a b rem o ja jb):=h
 clear h
 clear_value r' o ja jb ca cb
 clear s4 s3 s2 s1
 cases r' with
 |some r=>
  refine wpS_pure (wpS_pure (hQ _ g ?_))
  rcases h' with⟨r1,e,gd⟩|⟨e,_⟩
  ·rw[Option.some.inj e];exact gd
  ·cases e
 |none=>
 have h:At blt a b rem o ja jb:=by
  rcases h' with⟨r1,e,_⟩|h
  ·cases e
  ·exact h.2
 clear h'
 refine wpS_bind (lV ?_)
 extract_lets -merge -underBinder UX
 clear_value UX
 refine wpS_bind (wpS_mono (Q:=λ(c:Option (Array Keyed)×Array Keyed×Nat×Nat×Nat×Nat×Nat) st'=>∃g',st'=setG st g'/\((∃r,c.1=some r/\Good blt (a.toList++b.toList) r)\/(c.1=none/\At blt a b (rem-1) c.2.1 c.2.2.1 c.2.2.2.1)))
  (wpS_forRange (λj (c:Option (Array Keyed)×Array Keyed×Nat×Nat×Nat×Nat×Nat) st'=>∃g',st'=setG st g'/\c.1=none/\At blt a b (if j=0 then rem else rem-1) c.2.1 c.2.2.1 c.2.2.2.1) ?_ (λc st' ⟨g',h1,h2,h3⟩=>⟨g',h1,.inr ⟨h2,by rw[if_neg LI]at h3;exact h3⟩⟩) ⟨g,rfl,rfl,by simpa using h⟩) ?_)
 ·clear h
  intro j c st' _ hj hI
  refine YI hI λg' h=>?_
  clear hI
  extract_lets -merge -underBinder s0 o s1 ja s2 jb s3 UY s4 WD Wz GI UW
  have h2:At blt a b (if j=0 then rem else rem-1) o ja jb:=h
  clear h
  clear_value o ja jb UY WD Wz UW
  clear s4 s3 s2 s1 s0
  have lo:=h2.lo
  have ha:=h2.ha
  have hb:=h2.hb
  have hr':(a.size-ja)+(b.size-jb)<=rem:=by
   have hr:=h2.hr
   split at hr<;>lia
  clear h2
  have ex:=aB hb
  generalize b[jb]=bk at ex
  have ja0:ja<a.size:=by lia
  refine xY GI (λ_ _ st'=>∃g,st'=setG st g) ?_ λJ=>?_
  rotate_left
  ·clear_value GI
   exact w_ite (λ_=>J _ _ _ ⟨_,rfl⟩) λ_=>J _ _ _ ⟨_,rfl⟩
  rintro _ mg3 st' ⟨g3,rfl⟩
  unfold GI
  clear GI
  refine wpS_bind (wpS_modify ?_)
  refine wpS_bind (cI (p:=bk) ex (wpS_bind (gI (left:=false) (X:=λi=>(a[ja+i]?).getD b0) O C hk (λi hi=>?_) (λi hi=>?_) (SB ex) (λi l hil hl'=>?_) LI λk hk1 p1 p2=>?_)))
  ·rw[aB (show ja+i<a.size by lia)];rfl
  ·rw[aB (show ja+i<a.size by lia)];exact SA (aB (show ja+i<a.size by lia))
  ·rw[aB (show ja+i<a.size by lia),aB (show ja+l<a.size by lia)]
   exact jE O sa Sa (aD (aB (show ja+i<a.size by lia))) (aD (aB (show ja+l<a.size by lia))) LI
  have Bg:∀y,a[ja+k]? = some y->blt bk y=true:=λy e=>by
   have hq:ja+k<a.size:=(Array.getElem?_eq_some_iff.mp e).1
   have:=p2 k (Nat.le_refl _) LI
   rw[e]at this
   simpa using this
  dsimp(zeta:=false) only
  extract_lets -merge -underBinder WC GH jL vX
  obtain⟨eo,en⟩:jL=o++a.extract ja (ja+k)/\vX=ja+k:=⟨rfl,rfl⟩
  clear_value WC jL vX
  refine oW GH (λ_ jL i2 st'=>(∃g,st'=setG st g)/\ja<=i2/\i2+1<a.size/\Lo blt (a.toList++b.toList) jL.toList (a.toList.drop i2) (b.toList.drop jb)/\∀y,a[i2]? = some y->blt bk y=true) ?_ λJ=>?_
  rotate_left
  ·clear_value GH
   refine w_ite (λk0=>?_) (λk0=>?_)
   ·have lo2:Lo blt (a.toList++b.toList) jL.toList (a.toList.drop vX) (b.toList.drop jb):=by
     rw[eo,en,Array.toList_append,ext_toList]
     rw[qj a.toList ja k]at lo
     rw[show ja+k-ja=k by lia]
     refine lo.kM λx hx y hy=>?_
     obtain⟨q,hq,rfl⟩:=List.mem_iff_getElem.mp hx
     have hq2:q<k:=by simp only[List.length_take]at hq;lia
     have e1:=p1 q hq2
     rw[aB (show ja+q<a.size by lia)]at e1
     simp only[Bool.false_eq_true,if_false,Option.getD_some,Bool.not_eq_true']at e1
     have e2:((a.toList.drop ja).take k)[q]=a[ja+q]' LI:=by simp
     rw[e2]
     have sx:=SA (aB (show ja+q<a.size by lia))
     exact O.tr _ _ _ sx (SB ex) (JO hy) e1 (iH O sb Sb (aD ex) hy)
    refine w_ite (λd1=>?_) (λd1=>?_)
    ·exact wpS_pure ⟨_,rfl,.inl ⟨_,rfl,last _ _ _ lo2 (beq_iff_eq.mp d1)⟩⟩
    have Mx:¬vX+1=a.size:=λz=>d1 (beq_iff_eq.mpr z)
    refine w_ite (λd2=>?_) (λd2=>?_)
    ·exact wpS_pure ⟨_,rfl,.inl ⟨_,rfl,fin _ _ _ lo2 (.inr (beq_iff_eq.mp d2))⟩⟩
    have d2':¬vX=a.size:=λz=>d2 (beq_iff_eq.mpr z)
    exact J _ _ _ _ ⟨⟨_,rfl⟩,by lia,by lia,lo2,λy e=>Bg y (by rw[←en];exact e)⟩
   ·exact J _ _ _ _ ⟨⟨_,rfl⟩,Nat.le_refl _,ha,lo,λy e=>Bg y (by rw[show ja+k=ja by lia];exact e)⟩
  clear eo en p1 p2 Bg lo
  rintro _ jL i2 st' ⟨⟨g4,rfl⟩,i2j,i2a,lo2,Bg⟩
  unfold GH
  clear GH
  obtain⟨ak,rJ⟩:∃x,a[i2]? = some x:=⟨_,aB (show i2<a.size by lia)⟩
  refine wpS_bind (cI (p:=bk) ex ?_)
  extract_lets -merge -underBinder sP XU
  obtain⟨Rz,eb3⟩:jL.push bk=sP/\XU=jb+1:=⟨rfl,rfl⟩
  clear_value sP XU
  subst eb3
  have MY:Lo blt (a.toList++b.toList) sP.toList (a.toList.drop i2) (b.toList.drop (jb+1)):=Rz▸qW lo2 ex rJ (O.xQ _ _ (SB ex) (SA rJ) (Bg _ rJ))
  refine w_ite (λd3=>?_) (λd3=>?_)
  ·exact wpS_pure ⟨_,rfl,.inl ⟨_,rfl,fin _ _ _ MY (.inl (beq_iff_eq.mp d3))⟩⟩
  have Wu:¬jb+1=b.size:=λz=>d3 (beq_iff_eq.mpr z)
  refine wpS_bind (cI (p:=ak) rJ (wpS_bind (gI (left:=true) (X:=λi=>(b[jb+1+i]?).getD b0) O C hk (λi hi=>?_) (λi hi=>?_) (SA rJ) (λi l hil hl'=>?_) LI λk2 hk2 p1 p2=>?_)))
  ·rw[aB (show jb+1+i<b.size by lia)];rfl
  ·rw[aB (show jb+1+i<b.size by lia)];exact SB (aB (show jb+1+i<b.size by lia))
  ·rw[aB (show jb+1+i<b.size by lia),aB (show jb+1+l<b.size by lia)]
   exact jE O sb Sb (aD (aB (show jb+1+i<b.size by lia))) (aD (aB (show jb+1+l<b.size by lia))) LI
  have Le:∀y,b[jb+1+k2]? = some y->blt y ak=false:=λy e=>by
   have hq:jb+1+k2<b.size:=(Array.getElem?_eq_some_iff.mp e).1
   have:=p2 k2 (Nat.le_refl _) LI
   rw[e]at this
   simpa using this
  dsimp(zeta:=false) only
  extract_lets -merge -underBinder Wy GG jK SK
  obtain⟨eo,en⟩:jK=sP++b.extract (jb+1) (jb+1+k2)/\SK=jb+1+k2:=⟨rfl,rfl⟩
  clear_value Wy jK SK
  refine oW GG (λ_ jK i4 st'=>(∃g,st'=setG st g)/\jb+1<=i4/\i4<b.size/\Lo blt (a.toList++b.toList) jK.toList (a.toList.drop i2) (b.toList.drop i4)/\∀y,b[i4]? = some y->blt y ak=false) ?_ λJ=>?_
  rotate_left
  ·clear_value GG
   refine w_ite (λVm=>?_) (λVm=>?_)
   ·have SE:Lo blt (a.toList++b.toList) jK.toList (a.toList.drop i2) (b.toList.drop SK):=by
     rw[eo,en,Array.toList_append,ext_toList]
     rw[qj b.toList (jb+1) k2]at MY
     rw[show jb+1+k2-(jb+1)=k2 by lia]
     refine MY.nL λx hx y hy=>?_
     obtain⟨q,hq,rfl⟩:=List.mem_iff_getElem.mp hx
     have hq2:q<k2:=by simp only[List.length_take]at hq;lia
     have e1:=p1 q hq2
     rw[aB (show jb+1+q<b.size by lia)]at e1
     simp only[if_true,Option.getD_some]at e1
     have e2:((b.toList.drop (jb+1)).take k2)[q]=b[jb+1+q]' LI:=by simp
     rw[e2]
     have sx:=SB (aB (show jb+1+q<b.size by lia))
     exact O.tr _ _ _ sx (SA rJ) (JP hy) (O.xQ _ _ sx (SA rJ) e1) (iH O sa Sa (aD rJ) hy)
    refine w_ite (λd4=>?_) (λd4=>?_)
    ·exact wpS_pure ⟨_,rfl,.inl ⟨_,rfl,fin _ _ _ SE (.inl (beq_iff_eq.mp d4))⟩⟩
    have Wt:¬SK=b.size:=λz=>d4 (beq_iff_eq.mpr z)
    exact J _ _ _ _ ⟨⟨_,rfl⟩,by lia,by lia,SE,λy e=>Le y (by rw[←en];exact e)⟩
   ·exact J _ _ _ _ ⟨⟨_,rfl⟩,Nat.le_refl _,by lia,MY,λy e=>Le y (by rw[show jb+1+k2=jb+1 by lia];exact e)⟩
  clear eo en p1 p2 Le MY lo2
  rintro _ jK i4 st' ⟨⟨g5,rfl⟩,i4j,Vp,SE,Le⟩
  unfold GG
  clear GG
  refine wpS_bind (cI (p:=ak) rJ ?_)
  extract_lets -merge -underBinder sO XW
  obtain⟨Wl,Wq⟩:jK.push ak=sO/\XW=i2+1:=⟨rfl,rfl⟩
  clear_value sO XW
  subst Wq
  have XJ:Lo blt (a.toList++b.toList) sO.toList (a.toList.drop (i2+1)) (b.toList.drop i4):=Wl▸uG SE rJ (aB Vp) (Le _ (aB Vp))
  refine w_ite (λd5=>?_) (λd5=>?_)
  ·exact wpS_pure ⟨_,rfl,.inl ⟨_,rfl,last _ _ _ XJ (beq_iff_eq.mp d5)⟩⟩
  have d5':¬i2+1+1=a.size:=λz=>d5 (beq_iff_eq.mpr z)
  have RP:At blt a b (rem-1) sO (i2+1) i4:=⟨XJ,by lia,Vp,by lia⟩
  refine w_ite (λ_=>?_) (λ_=>?_)
  ·exact wpS_pure ⟨_,rfl,.inr ⟨rfl,RP⟩⟩
  ·exact wpS_pure ⟨_,rfl,rfl,by rw[if_neg LI];exact RP⟩
 clear h
 rintro⟨r,o,ja,jb,mg',ca,cb⟩ st' ⟨g',rfl,h⟩
 rcases h with⟨r',e,gd⟩|⟨e,h⟩
 ·simp only at e
  subst e
  refine wpS_pure ?_
  exact wpS_pure (hQ _ g' gd)
 simp only at e h
 subst e
 dsimp only
 refine wpS_bind (wpS_modify ?_)
 refine wpS_pure ?_
 refine⟨_,rfl,rfl,rem-1,?_,h⟩
 have:=h.hr
 have:=h.ha
 lia
end
structure Hg(blt:Keyed->Keyed->Bool)(T ra rb o:List Keyed):Prop where
 perm:((ra++rb)++o).Perm T
 so:qy blt o
 sa:qy blt ra
 sb:qy blt rb
 hgh:∀x∈ra++rb,∀y∈o,blt y x=false
theorem Hg.nL{blt:Keyed->Keyed->Bool}{T o p ra rb:List Keyed}(h:Hg blt T ra (rb++p) o)(hx:∀x∈p,∀y∈ra,blt x y=false):Hg blt T ra rb (p++o):=by
 obtain⟨h1,h2,h3,h4,h5⟩:=h
 have Mc:=List.pairwise_append.mp h4
 refine⟨?_,?_,h3,Mc.1,λx hx' y hy=>?_⟩
 ·have e:ra++rb++(p++o)=ra++(rb++p)++o:=by simp
  rw[e]
  exact h1
 ·exact List.pairwise_append.mpr ⟨Mc.2.1,h2,λx hx' y hy=>h5 x (by simp[hx']) y hy⟩
 ·rcases List.mem_append.mp hy with z|z
  ·rcases List.mem_append.mp hx' with q|q
   ·exact hx y z x q
   ·exact Mc.2.2 x q y z
  ·exact h5 x (by rcases List.mem_append.mp hx' with q|q<;>simp[q]) y z
theorem Hg.kM{blt:Keyed->Keyed->Bool}{T o p ra rb:List Keyed}(h:Hg blt T (ra++p) rb o)(hx:∀x∈p,∀y∈rb,blt x y=false):Hg blt T ra rb (p++o):=by
 obtain⟨h1,h2,h3,h4,h5⟩:=h
 have h3':=List.pairwise_append.mp h3
 refine⟨?_,?_,h3'.1,h4,λx hx' y hy=>?_⟩
 ·refine List.Perm.trans ?_ h1
  rw[←List.append_assoc]
  refine List.Perm.append_right o ?_
  rw[List.append_assoc,List.append_assoc]
  exact List.Perm.append_left ra List.perm_append_comm
 ·exact List.pairwise_append.mpr ⟨h3'.2.1,h2,λx hx' y hy=>h5 x (by simp[hx']) y hy⟩
 ·rcases List.mem_append.mp hy with z|z
  ·rcases List.mem_append.mp hx' with q|q
   ·exact h3'.2.2 x q y z
   ·exact hx y z x q
  ·exact h5 x (by rcases List.mem_append.mp hx' with q|q<;>simp[q]) y z
theorem Hg.end{blt:Keyed->Keyed->Bool}{T o:List Keyed}(h:Hg blt T [] [] o):o.Perm T/\qy blt o:=⟨by simpa using h.perm,h.so⟩
theorem Hg.Hq{blt:Keyed->Keyed->Bool}{T o ra:List Keyed}(h:Hg blt T ra [] o):(ra++o).Perm T/\qy blt (ra++o):=by
 have h':Hg blt T ([]++ra) [] o:=h
 exact(h'.kM λ_ _ _ z=>by cases z).end
theorem Hg.Ho{blt:Keyed->Keyed->Bool}{T o rb:List Keyed}(h:Hg blt T [] rb o):(rb++o).Perm T/\qy blt (rb++o):=by
 have h':Hg blt T [] ([]++rb) o:=h
 exact(h'.nL λ_ _ _ z=>by cases z).end
theorem take_snoc{l:List Keyed}{i:Nat}{x:Keyed}(h:l[i]? = some x):l.take (i+1)=l.take i++[x]:=by
 obtain⟨hi,e⟩:=List.getElem?_eq_some_iff.mp h
 rw[List.take_succ,h]
 rfl
theorem g_(l:List Keyed){i n:Nat}(h:i<=n):l.take n=l.take i++(l.drop i).take (n-i):=by
 rw[←List.take_append_drop i (l.take n),List.take_take,Nat.min_eq_left h,List.drop_take]
theorem jf(a:Array Keyed)(n:Nat):(a.extract 0 n).toList=a.toList.take n:=by simp
theorem kO{blt:Keyed->Keyed->Bool}{S:Keyed->Prop}(O:Ord S blt){l:List Keyed}(hs:qy blt l)(hS:∀x∈l,S x){i:Nat}{x y:Keyed}(hx:l[i]? = some x)(hy:y∈l.take (i+1)):blt x y=false:=by
 obtain⟨k,hk,rfl⟩:=List.mem_iff_getElem.mp hy
 have hk':k<i+1/\k<l.length:=by simpa [List.length_take,Nat.lt_min]using hk
 have e:l[k]? = some (l.take (i+1))[k]:=by
  rw[List.getElem_take]
  exact List.getElem?_eq_getElem hk'.2
 exact jE O hs hS e hx LI
def Dg:Array Keyed->Array Keyed->SM (Array Keyed):=sortPriv% PySem.Builtin.mergeHi
section
variable {prog:Program} {w:World} {A:Around} {E:Value->Shared->Prop} {s:Shared} {κ:SortKind} {S:Keyed->Prop} {blt:Keyed->Keyed->Bool}
structure Ah(blt:Keyed->Keyed->Bool)(a b:Array Keyed)(rem na nb:Nat)(out:Array Keyed):Prop where
 hg:Hg blt (a.toList++b.toList) (a.toList.take na) (b.toList.take nb) out.toList.reverse
 a1:1<=na
 a2:na<=a.size
 b1:2<=nb
 b2:nb<=b.size
 hr:na+nb<=rem
theorem zv(O:Ord S blt)(C:zp prog w A E s κ S blt){a b:Array Keyed}{st:SortSt}{Q:Array Keyed->SortSt->Prop}(hk:kindOf st=κ)(Sa:∀x∈a.toList,S x)(Sb:∀x∈b.toList,S x)(sa:qy blt a.toList)(sb:qy blt b.toList)
  {a0 b0 al:Keyed}(ea:a[0]? = some a0)(eb:b[0]? = some b0)(el:a[a.size-1]? = some al)(h0:blt b0 a0=true)(hl:∀y∈b.toList,blt al y=false)
  (hQ:∀m g,Good blt (a.toList++b.toList) m->Q m (setG st g)):wpS (model prog w) A E s (Dg a b) Q st:=by
 have na:0<a.size:=by
  rcases Nat.eq_zero_or_pos a.size with z|z
  ·rw[Array.getElem?_eq_none LI]at ea
   cases ea
  ·exact z
 have nb:0<b.size:=by
  rcases Nat.eq_zero_or_pos b.size with z|z
  ·rw[Array.getElem?_eq_none LI]at eb
   cases eb
  ·exact z
 have SA:∀{i x},a[i]? = some x->S x:=λh=>Sa _ (List.mem_of_getElem? (aD h))
 have SB:∀{i x},b[i]? = some x->S x:=λh=>Sb _ (List.mem_of_getElem? (aD h))
 have TR:∀{i y},y∈a.toList.take i->S y:=λh=>Sa _ (List.mem_of_mem_take h)
 have tkB:∀{i y},y∈b.toList.take i->S y:=λh=>Sb _ (List.mem_of_mem_take h)
 have fin:∀(out:Array Keyed)(i j:Nat),Hg blt (a.toList++b.toList) (a.toList.take i) (b.toList.take j) out.toList.reverse->(j=0\/i=0)->Good blt (a.toList++b.toList) (a.extract 0 i++b.extract 0 j++out.reverse):=by
  intro out i j h hz
  have e:(a.extract 0 i++b.extract 0 j++out.reverse).toList=a.toList.take i++b.toList.take j++out.toList.reverse:=by
   rw[Array.toList_append,Array.toList_append,jf,jf,Array.toList_reverse]
  rcases hz with z|z
  ·subst z
   rw[List.take_zero]at h e
   have:=h.Hq
   exact⟨by rw[e,List.append_nil];exact this.1,by rw[e,List.append_nil];exact this.2⟩
  ·subst z
   rw[List.take_zero]at h e
   have:=h.Ho
   exact⟨by rw[e,List.nil_append];exact this.1,by rw[e,List.nil_append];exact this.2⟩
 have GX:∀(out:Array Keyed)(i:Nat),Hg blt (a.toList++b.toList) (a.toList.take i) (b.toList.take 1) out.toList.reverse->Good blt (a.toList++b.toList) (b.extract 0 1++a.extract 0 i++out.reverse):=by
  intro out i h
  have e:(b.extract 0 1++a.extract 0 i++out.reverse).toList=b.toList.take 1++(a.toList.take i++out.toList.reverse):=by
   rw[Array.toList_append,Array.toList_append,jf,jf,Array.toList_reverse,List.append_assoc]
  have eb1:b.toList.take 1=[b0]:=by
   have:=take_snoc (aD eb)
   simpa using this
  have h':Hg blt (a.toList++b.toList) ([]++a.toList.take i) (b.toList.take 1) out.toList.reverse:=h
  have h2:=(h'.kM λx hx y hy=>by
   rw[eb1]at hy
   rw[List.mem_singleton.mp hy]
   have sx:=TR hx
   have lx:blt x a0=false:=iH O sa Sa (aD ea) (by rw[List.drop_zero];exact List.mem_of_mem_take hx)
   exact O.tr _ _ _ (SB eb) (SA ea) sx (O.xQ _ _ (SB eb) (SA ea) h0) lx).Ho
  exact⟨by rw[e];exact h2.1,by rw[e];exact h2.2⟩
 have uG:∀{out i j x y},Hg blt (a.toList++b.toList) (a.toList.take (i+1)) (b.toList.take (j+1)) (out:Array Keyed).toList.reverse->a[i]? = some x->b[j]? = some y->blt x y=false->Hg blt (a.toList++b.toList) (a.toList.take i) (b.toList.take (j+1)) (out.push x).toList.reverse:=by
  intro out i j x y h hx hy hlt
  rw[take_snoc (aD hx)]at h
  rw[Array.toList_push,List.reverse_append]
  refine h.kM (p:=[x]) λz hz y' hy'=>?_
  rw[List.mem_singleton.mp hz]
  exact O.tr y' y x (tkB hy') (SB hy) (SA hx) (kO O sb Sb (aD hy) hy') hlt
 have qW:∀{out i j x y},Hg blt (a.toList++b.toList) (a.toList.take (i+1)) (b.toList.take (j+1)) (out:Array Keyed).toList.reverse->b[j]? = some x->a[i]? = some y->blt x y=false->Hg blt (a.toList++b.toList) (a.toList.take (i+1)) (b.toList.take j) (out.push x).toList.reverse:=by
  intro out i j x y h hx hy hlt
  rw[take_snoc (aD hx)]at h
  rw[Array.toList_push,List.reverse_append]
  refine h.nL (p:=[x]) λz hz y' hy'=>?_
  rw[List.mem_singleton.mp hz]
  exact O.tr y' y x (TR hy') (SA hy) (SB hx) (kO O sa Sa (aD hy) hy') hlt
 have start:Hg blt (a.toList++b.toList) (a.toList.take (a.size-1)) (b.toList.take b.size) (#[al]:Array Keyed).toList.reverse:=by
  have h:Hg blt (a.toList++b.toList) (a.toList.take (a.size-1+1)) (b.toList.take b.size) (#[]:Array Keyed).toList.reverse:=by
   rw[List.take_of_length_le (by simp;lia),List.take_of_length_le (by simp)]
   exact⟨by simp,by simp,sa,sb,by simp⟩
  rw[take_snoc (aD el)]at h
  refine h.kM (p:=[al]) λz hz y' hy'=>?_
  rw[List.mem_singleton.mp hz]
  exact hl y' (List.mem_of_mem_take hy')
 refine wpS_bind (lV ?_)
 refine wpS_bind (cI el ?_)
 extract_lets -merge -underBinder o1
 refine w_ite (λc1=>?_) (λc1=>?_)
 ·exact wpS_pure (iZ st▸hQ _ (gallopOf st) (fin _ _ _ start (.inr (beq_iff_eq.mp c1))))
 refine w_ite (λc2=>?_) (λc2=>?_)
 ·have Wx:b.size=1:=beq_iff_eq.mp c2
  refine wpS_pure (iZ st▸hQ _ (gallopOf st) ?_)
  rw[Wx]
  exact GX _ _ (by rw[Wx]at start;exact start)
 have n1:¬a.size-1=0:=λz=>c1 (beq_iff_eq.mpr z)
 have n2:¬b.size=1:=λz=>c2 (beq_iff_eq.mpr z)
 refine wpS_bind (wpS_get ?_)
 refine wpS_bind (wpS_forRange (λi c st'=>∃g,st'=setG st g/\c.1=none/\∃rem,rem+i<a.size+b.size/\Ah blt a b rem c.2.1 c.2.2.1 c.2.2.2.1) ?_ ?_ ⟨gallopOf st,rfl,rfl,a.size+b.size-1,by lia,start,by simp only;lia,by simp only;lia,by simp only;lia,by simp only;lia,by simp only;lia⟩)
 rotate_left
 ·rintro⟨r,ja,jb,o,mg⟩ st' ⟨g,rfl,rfl,rem,h1,h2⟩
  have h3:=h2.hr
  have h4:=h2.a1
  simp only at h3 h4
  exact absurd h1 LI
 clear_value o1
 intro i c st' _ hi hI
 refine YH hI λg rem h=>?_
 clear hI
 extract_lets -merge -underBinder s0 ja s1 jb s2 o mg ac bc
 have h1:=h.1
 have h2:Ah blt a b rem ja jb o:=h.2
 clear h
 clear_value o ja jb mg ac bc
 clear s2 s1 s0
 refine wpS_bind (wpS_mono (Q:=λ(c:Option (Array Keyed)×Nat×Nat×Array Keyed×Nat×Nat) st'=>st'=setG st g/\((∃r,c.1=some r/\Good blt (a.toList++b.toList) r)\/(c.1=none/\Ah blt a b rem c.2.1 c.2.2.1 c.2.2.2.1)))
  (wpS_forRange (λ_ (c:Option (Array Keyed)×Nat×Nat×Array Keyed×Nat×Nat) st'=>st'=setG st g/\c.1=none/\Ah blt a b rem c.2.1 c.2.2.1 c.2.2.2.1) ?_ (λc st' h=>⟨h.1,.inr ⟨h.2.1,h.2.2⟩⟩) ⟨rfl,rfl,h2⟩) ?_)
 ·clear h2
  intro j c st' _ hj hI
  refine Tg hI λh=>?_
  clear hI
  extract_lets -merge -underBinder s0 ka s1 kb s2 o s3 ca cb
  have h2:Ah blt a b rem ka kb o:=h.2
  clear h
  clear_value o ka kb ca cb
  clear s3 s2 s1 s0
  obtain⟨hg,a1,a2,b1,b2,hr⟩:=h2
  obtain⟨ka,rfl⟩:∃k,ka=k+1:=⟨ka-1,by lia⟩
  obtain⟨kb,rfl⟩:∃k,kb=k+1:=⟨kb-1,by lia⟩
  obtain⟨bk,ex⟩:∃x,b[kb]? = some x:=⟨_,aB (show kb<b.size by lia)⟩
  obtain⟨ak,ey⟩:∃x,a[ka]? = some x:=⟨_,aB (show ka<a.size by lia)⟩
  refine wpS_bind (cI (p:=bk) ex (wpS_bind (cI (p:=ak) ey (wpS_bind (C _ _ _ _ (SB ex) (SA ey) hk ?_)))))
  dsimp only
  rw[Nat.add_sub_cancel,Nat.add_sub_cancel]
  cases z:blt bk ak with
  |true=>
   refine w_ite (λ_=>wpS_bind (cI ey ?_)) λz=>absurd rfl z
   have hg':=uG hg ey ex (O.xQ _ _ (SB ex) (SA ey) z)
   refine w_ite (λd1=>?_) (λd1=>?_)
   ·exact wpS_pure ⟨rfl,.inl ⟨_,rfl,fin _ _ _ hg' (.inr (beq_iff_eq.mp d1))⟩⟩
   have Mx:¬ka=0:=λz=>d1 (beq_iff_eq.mpr z)
   have at':Ah blt a b rem ka (kb+1) (o.push ak):=⟨hg',by lia,by lia,b1,b2,by lia⟩
   exact w_ite (λ_=>wpS_pure ⟨rfl,.inr ⟨rfl,at'⟩⟩) λ_=>wpS_pure ⟨rfl,rfl,at'⟩
  |false=>
   refine w_ite (λz=>absurd z Bool.false_ne_true) λ_=>wpS_bind (cI ex ?_)
   have hg':=qW hg ex ey z
   refine w_ite (λd1=>?_) (λd1=>?_)
   ·have Mx:kb=1:=beq_iff_eq.mp d1
    subst Mx
    exact wpS_pure ⟨rfl,.inl ⟨_,rfl,GX _ _ hg'⟩⟩
   have Mx:¬kb=1:=λz=>d1 (beq_iff_eq.mpr z)
   have at':Ah blt a b rem (ka+1) kb (o.push bk):=⟨hg',by lia,by lia,by lia,by lia,by lia⟩
   exact w_ite (λ_=>wpS_pure ⟨rfl,.inr ⟨rfl,at'⟩⟩) λ_=>wpS_pure ⟨rfl,rfl,at'⟩
 clear h2
 intro c st' hI
 refine Tg hI λh=>?_
 clear hI
 dsimp(zeta:=false) only
 extract_lets -merge -underBinder r' s1 ka s2 kb s3 o s4 ca cb
 have h':(∃r,r'=some r/\Good blt (a.toList++b.toList) r)\/(r'=none/\Ah blt a b rem ka kb o):=h
 clear h
 clear_value r' o ka kb ca cb
 clear s4 s3 s2 s1
 cases r' with
 |some r=>
  refine wpS_pure (wpS_pure (hQ _ g ?_))
  rcases h' with⟨r1,e,gd⟩|⟨e,_⟩
  ·rw[Option.some.inj e];exact gd
  ·cases e
 |none=>
 have h:Ah blt a b rem ka kb o:=by
  rcases h' with⟨r1,e,_⟩|h
  ·cases e
  ·exact h.2
 clear h'
 refine wpS_bind (lV ?_)
 extract_lets -merge -underBinder UX
 clear_value UX
 refine wpS_bind (wpS_mono (Q:=λ(c:Option (Array Keyed)×Nat×Nat×Array Keyed×Nat×Nat×Nat) st'=>∃g',st'=setG st g'/\((∃r,c.1=some r/\Good blt (a.toList++b.toList) r)\/(c.1=none/\Ah blt a b (rem-1) c.2.1 c.2.2.1 c.2.2.2.1)))
  (wpS_forRange (λj (c:Option (Array Keyed)×Nat×Nat×Array Keyed×Nat×Nat×Nat) st'=>∃g',st'=setG st g'/\c.1=none/\Ah blt a b (if j=0 then rem else rem-1) c.2.1 c.2.2.1 c.2.2.2.1) ?_ (λc st' ⟨g',h1,h2,h3⟩=>⟨g',h1,.inr ⟨h2,by rw[if_neg LI]at h3;exact h3⟩⟩) ⟨g,rfl,rfl,by simpa using h⟩) ?_)
 ·clear h
  intro j c st' _ hj hI
  refine YI hI λg' h=>?_
  clear hI
  extract_lets -merge -underBinder s0 ka s1 kb s2 o s3 UY s4 WD Wz GI UW
  have h2:Ah blt a b (if j=0 then rem else rem-1) ka kb o:=h
  clear h
  clear_value o ka kb UY WD Wz UW
  clear s4 s3 s2 s1 s0
  have hg:=h2.hg
  have a1:=h2.a1
  have a2:=h2.a2
  have b1:=h2.b1
  have b2:=h2.b2
  have hr':ka+kb<=rem:=by
   have hr:=h2.hr
   split at hr<;>lia
  clear h2
  obtain⟨kb,rfl⟩:∃k,kb=k+1:=⟨kb-1,by lia⟩
  have ex:=aB (show kb<b.size by lia)
  generalize b[kb]=bk at ex
  refine xY GI (λ_ _ st'=>∃g,st'=setG st g) ?_ λJ=>?_
  rotate_left
  ·clear_value GI
   exact w_ite (λ_=>J _ _ _ ⟨_,rfl⟩) λ_=>J _ _ _ ⟨_,rfl⟩
  rintro _ mg3 st' ⟨g3,rfl⟩
  unfold GI
  clear GI
  refine wpS_bind (wpS_modify ?_)
  refine wpS_bind (cI (p:=bk) ex (wpS_bind (gI (left:=false) (X:=λi=>(a[0+i]?).getD b0) O C hk (λi hi=>?_) (λi hi=>?_) (SB ex) (λi l hil hl'=>?_) LI λk hk1 p1 p2=>?_)))
  ·rw[aB (show 0+i<a.size by lia)];rfl
  ·rw[aB (show 0+i<a.size by lia)];exact SA (aB (show 0+i<a.size by lia))
  ·rw[aB (show 0+i<a.size by lia),aB (show 0+l<a.size by lia)]
   exact jE O sa Sa (aD (aB (show 0+i<a.size by lia))) (aD (aB (show 0+l<a.size by lia))) LI
  have la:∀q y,a[q]? = some y->q<k->blt bk y=false:=λq y e hq=>by
   have:=p1 q hq
   rw[Nat.zero_add,e]at this
   simpa using this
  dsimp(zeta:=false) only
  extract_lets -merge -underBinder kk WC GH jL Dc
  obtain⟨ekk,eo,en⟩:kk=ka-k/\jL=o++(a.extract k ka).reverse/\Dc=k:=⟨rfl,rfl,rfl⟩
  clear_value kk WC jL Dc
  refine oW GH (λ_ n2 jL st'=>(∃g,st'=setG st g)/\1<=n2/\n2<=ka/\Hg blt (a.toList++b.toList) (a.toList.take n2) (b.toList.take (kb+1)) jL.toList.reverse/\∀q y,a[q]? = some y->q<n2->blt bk y=false) ?_ λJ=>?_
  rotate_left
  ·clear_value GH
   subst en
   refine w_ite (λk0=>?_) (λk0=>?_)
   ·have LX:Hg blt (a.toList++b.toList) (a.toList.take Dc) (b.toList.take (kb+1)) jL.toList.reverse:=by
     rw[eo,Array.toList_append,Array.toList_reverse,List.reverse_append,List.reverse_reverse,ext_toList]
     rw[g_ a.toList hk1]at hg
     refine hg.kM λx hx y hy=>?_
     obtain⟨q,hq,rfl⟩:=List.mem_iff_getElem.mp hx
     have hq2:q<ka-Dc:=by simp only[List.length_take]at hq;lia
     have e1:=p2 (Dc+q) LI LI
     rw[Nat.zero_add,aB (show Dc+q<a.size by lia)]at e1
     simp only[Bool.false_eq_true,if_false,Option.getD_some,Bool.not_eq_false']at e1
     have e2:((a.toList.drop Dc).take (ka-Dc))[q]=a[Dc+q]' LI:=by simp
     rw[e2]
     have sx:=SA (aB (show Dc+q<a.size by lia))
     exact O.tr _ _ _ (tkB hy) (SB ex) sx (kO O sb Sb (aD ex) hy) (O.xQ _ _ (SB ex) sx e1)
    refine w_ite (λd1=>?_) (λd1=>?_)
    ·exact wpS_pure ⟨_,rfl,.inl ⟨_,rfl,fin _ _ _ LX (.inr (beq_iff_eq.mp d1))⟩⟩
    have Mx:¬Dc=0:=λz=>d1 (beq_iff_eq.mpr z)
    exact J _ _ _ _ ⟨⟨_,rfl⟩,by lia,hk1,LX,la⟩
   ·exact J _ _ _ _ ⟨⟨_,rfl⟩,a1,Nat.le_refl _,hg,λq y e hq=>la q y e LI⟩
  clear eo en p1 p2 la hg
  rintro _ n2 jL st' ⟨⟨g4,rfl⟩,n21,n2k,LX,Bg⟩
  unfold GH
  clear GH
  obtain⟨vX,rfl⟩:∃q,n2=q+1:=⟨n2-1,by lia⟩
  obtain⟨ak,rJ⟩:∃x,a[vX]? = some x:=⟨_,aB (show vX<a.size by lia)⟩
  extract_lets -merge -underBinder XC
  have eb2:kb=XC:=rfl
  clear_value XC
  subst eb2
  refine wpS_bind (cI (p:=bk) ex ?_)
  extract_lets -merge -underBinder sP
  have Rz:jL.push bk=sP:=rfl
  clear_value sP
  have QV:Hg blt (a.toList++b.toList) (a.toList.take (vX+1)) (b.toList.take kb) sP.toList.reverse:=Rz▸qW LX ex rJ (Bg vX ak rJ LI)
  refine w_ite (λd3=>?_) (λd3=>?_)
  ·have Wu:kb=1:=beq_iff_eq.mp d3
   subst Wu
   exact wpS_pure ⟨_,rfl,.inl ⟨_,rfl,GX _ _ QV⟩⟩
  have Wu:¬kb=1:=λz=>d3 (beq_iff_eq.mpr z)
  refine wpS_bind (cI (p:=ak) rJ (wpS_bind (gI (left:=true) (X:=λi=>(b[0+i]?).getD b0) O C hk (λi hi=>?_) (λi hi=>?_) (SA rJ) (λi l hil hl'=>?_) LI λk2 hk2 p1 p2=>?_)))
  ·rw[aB (show 0+i<b.size by lia)];rfl
  ·rw[aB (show 0+i<b.size by lia)];exact SB (aB (show 0+i<b.size by lia))
  ·rw[aB (show 0+i<b.size by lia),aB (show 0+l<b.size by lia)]
   exact jE O sb Sb (aD (aB (show 0+i<b.size by lia))) (aD (aB (show 0+l<b.size by lia))) LI
  have lb:∀q y,b[q]? = some y->q<k2->blt ak y=false:=λq y e hq=>by
   have:=p1 q hq
   rw[Nat.zero_add,e]at this
   exact O.xQ _ _ (SB e) (SA rJ) (by simpa using this)
  dsimp(zeta:=false) only
  extract_lets -merge -underBinder XQ Wy GG jK Aa
  obtain⟨abw,eo,en⟩:XQ=kb-k2/\jK=sP++(b.extract k2 kb).reverse/\Aa=k2:=⟨rfl,rfl,rfl⟩
  clear_value XQ Wy jK Aa
  refine oW GG (λ_ n4 jK st'=>(∃g,st'=setG st g)/\2<=n4/\n4<=kb/\Hg blt (a.toList++b.toList) (a.toList.take (vX+1)) (b.toList.take n4) jK.toList.reverse/\∀q y,b[q]? = some y->q<n4->blt ak y=false) ?_ λJ=>?_
  rotate_left
  ·clear_value GG
   subst en
   refine w_ite (λVm=>?_) (λVm=>?_)
   ·have QU:Hg blt (a.toList++b.toList) (a.toList.take (vX+1)) (b.toList.take Aa) jK.toList.reverse:=by
     rw[eo,Array.toList_append,Array.toList_reverse,List.reverse_append,List.reverse_reverse,ext_toList]
     rw[g_ b.toList hk2]at QV
     refine QV.nL λx hx y hy=>?_
     obtain⟨q,hq,rfl⟩:=List.mem_iff_getElem.mp hx
     have hq2:q<kb-Aa:=by simp only[List.length_take]at hq;lia
     have e1:=p2 (Aa+q) LI LI
     rw[Nat.zero_add,aB (show Aa+q<b.size by lia)]at e1
     simp only[if_true,Option.getD_some]at e1
     have e2:((b.toList.drop Aa).take (kb-Aa))[q]=b[Aa+q]' LI:=by simp
     rw[e2]
     have sx:=SB (aB (show Aa+q<b.size by lia))
     exact O.tr _ _ _ (TR hy) (SA rJ) sx (kO O sa Sa (aD rJ) hy) e1
    refine w_ite (λd4=>?_) (λd4=>?_)
    ·have Wt:Aa=1:=beq_iff_eq.mp d4
     subst Wt
     exact wpS_pure ⟨_,rfl,.inl ⟨_,rfl,GX _ _ QU⟩⟩
    have Wt:¬Aa=1:=λz=>d4 (beq_iff_eq.mpr z)
    refine w_ite (λd6=>?_) (λd6=>?_)
    ·exact wpS_pure ⟨_,rfl,.inl ⟨_,rfl,fin _ _ _ QU (.inl (beq_iff_eq.mp d6))⟩⟩
    have d6':¬Aa=0:=λz=>d6 (beq_iff_eq.mpr z)
    exact J _ _ _ _ ⟨⟨_,rfl⟩,by lia,hk2,QU,lb⟩
   ·exact J _ _ _ _ ⟨⟨_,rfl⟩,by lia,Nat.le_refl _,QV,λq y e hq=>lb q y e LI⟩
  clear eo en p1 p2 lb QV LX
  rintro _ n4 jK st' ⟨⟨g5,rfl⟩,n42,n4k,QU,Le⟩
  unfold GG
  clear GG
  obtain⟨PF,rfl⟩:∃q,n4=q+1:=⟨n4-1,by lia⟩
  extract_lets -merge -underBinder XE
  have Wq:vX=XE:=rfl
  clear_value XE
  subst Wq
  refine wpS_bind (cI (p:=ak) rJ ?_)
  extract_lets -merge -underBinder sO
  have Wl:jK.push ak=sO:=rfl
  clear_value sO
  have Yq:Hg blt (a.toList++b.toList) (a.toList.take vX) (b.toList.take (PF+1)) sO.toList.reverse:=Wl▸uG QU rJ (aB (show PF<b.size by lia)) (Le PF _ (aB (show PF<b.size by lia)) LI)
  refine w_ite (λd5=>?_) (λd5=>?_)
  ·exact wpS_pure ⟨_,rfl,.inl ⟨_,rfl,fin _ _ _ Yq (.inr (beq_iff_eq.mp d5))⟩⟩
  have d5':¬vX=0:=λz=>d5 (beq_iff_eq.mpr z)
  have RP:Ah blt a b (rem-1) vX (PF+1) sO:=⟨Yq,by lia,by lia,by lia,by lia,by lia⟩
  refine w_ite (λ_=>?_) (λ_=>?_)
  ·exact wpS_pure ⟨_,rfl,.inr ⟨rfl,RP⟩⟩
  ·exact wpS_pure ⟨_,rfl,rfl,by rw[if_neg LI];exact RP⟩
 clear h
 rintro⟨r,ka,kb,o,mg',ca,cb⟩ st' ⟨g',rfl,h⟩
 rcases h with⟨r',e,gd⟩|⟨e,h⟩
 ·simp only at e
  subst e
  refine wpS_pure ?_
  exact wpS_pure (hQ _ g' gd)
 simp only at e h
 subst e
 dsimp only
 refine wpS_bind (wpS_modify ?_)
 refine wpS_pure ?_
 refine⟨_,rfl,rfl,rem-1,?_,h⟩
 have:=h.hr
 have:=h.a1
 lia
end
structure bW(xs ys:Array Keyed)(lo hi:Nat):Prop where
 perm:ys.Perm xs
 out:∀k,(k<lo\/hi<=k)->ys[k]? = xs[k]?
theorem bW.size{xs ys:Array Keyed}{lo hi:Nat}(h:bW xs ys lo hi):ys.size=xs.size:=h.perm.size_eq
theorem bW.refl(xs:Array Keyed)(lo hi:Nat):bW xs xs lo hi:=⟨Array.Perm.refl _,λ_ _=>rfl⟩
theorem bW.trans{xs ys zs:Array Keyed}{lo hi:Nat}(h:bW xs ys lo hi)(h':bW ys zs lo hi):bW xs zs lo hi:=⟨h'.perm.trans h.perm,λk hk=>(h'.out k hk).trans (h.out k hk)⟩
theorem bW.mono{xs ys:Array Keyed}{lo hi lo' hi':Nat}(h:bW xs ys lo hi)(h1:lo'<=lo)(h2:hi<=hi'):bW xs ys lo' hi':=⟨h.perm,λk hk=>h.out k LI⟩
theorem gC{xs:Array Keyed}{i j:Nat}(hj:j<=xs.size):bW xs (mirror xs i j ((j-i)/2)) i j:=⟨mirror_perm _ _ _ _,λk hk=>by rw[getElem?_mirror_all hj,if_neg LI]⟩
theorem vz{xs:Array Keyed}{src d:Nat}(hs:src<xs.size)(hd:d<=src):bW xs (bubble xs src d) (src-d) (src+1):=⟨bubble_perm _ _ _,λk hk=>by rw[getElem?_bubble hs d hd,if_neg LI,if_neg LI]⟩
def gH(blt:Keyed->Keyed->Bool)(xs:Array Keyed)(lo n:Nat):Prop:=∀i j,i<=j->j<n->∀x y,xs[lo+i]? = some x->xs[lo+j]? = some y->blt y x=false
def oO(blt:Keyed->Keyed->Bool)(xs:Array Keyed)(lo n:Nat):Prop:=∀i j,i<=j->j<n->∀x y,xs[lo+i]? = some x->xs[lo+j]? = some y->blt x y=false
abbrev iF(S:Keyed->Prop)(xs:Array Keyed):Prop:=∀x∈xs.toList,S x
theorem iF.at{S:Keyed->Prop}{xs:Array Keyed}(h:iF S xs){i:Nat}{x:Keyed}(e:xs[i]? = some x):S x:=h x (List.mem_of_getElem? (aD e))
theorem iF.keep{S:Keyed->Prop}{xs ys:Array Keyed}{lo hi:Nat}(h:iF S xs)(k:bW xs ys lo hi):iF S ys:=λx hx=>h x ((Array.perm_iff_toList_perm.mp k.perm).mem_iff.mp hx)
section
variable {S:Keyed->Prop} {blt:Keyed->Keyed->Bool} (O:Ord S blt)
include O
theorem gH.one{xs:Array Keyed}{lo:Nat}(hS:iF S xs):gH blt xs lo 1:=λi j hij hj x y hx hy=>by
 have:i=j:=by lia
 subst this
 rw[hx]at hy;cases hy
 exact O.DF _ (hS.at hx)
theorem oO.one{xs:Array Keyed}{lo:Nat}(hS:iF S xs):oO blt xs lo 1:=λi j hij hj x y hx hy=>by
 have:i=j:=by lia
 subst this
 rw[hx]at hy;cases hy
 exact O.DF _ (hS.at hx)
theorem gH.snoc{xs:Array Keyed}{lo n:Nat}(hS:iF S xs)(h:gH blt xs lo n)(hn:1<=n){x y:Keyed}(hx:xs[lo+n]? = some x)(hy:xs[lo+n-1]? = some y)(hlt:blt x y=false):gH blt xs lo (n+1):=λi j hij hj u v hu hv=>by
 by_cases hjn:j<n
 ·exact h i j hij hjn u v hu hv
 ·have e:j=n:=by lia
  subst e
  rw[hx]at hv;cases hv
  by_cases hin:i<j
  ·have e2:lo+j-1=lo+(j-1):=by lia
   rw[e2]at hy
   exact O.tr u y x (hS.at hu) (hS.at hy) (hS.at hx) (h i (j-1) LI LI u y hu hy) hlt
  ·have:i=j:=by lia
   subst this
   rw[hx]at hu;cases hu
   exact O.DF _ (hS.at hx)
theorem oO.snoc{xs:Array Keyed}{lo n:Nat}(hS:iF S xs)(h:oO blt xs lo n)(hn:1<=n){x y:Keyed}(hx:xs[lo+n]? = some x)(hy:xs[lo+n-1]? = some y)(hlt:blt y x=false):oO blt xs lo (n+1):=λi j hij hj u v hu hv=>by
 by_cases hjn:j<n
 ·exact h i j hij hjn u v hu hv
 ·have e:j=n:=by lia
  subst e
  rw[hx]at hv;cases hv
  by_cases hin:i<j
  ·have e2:lo+j-1=lo+(j-1):=by lia
   rw[e2]at hy
   exact O.tr x y u (hS.at hx) (hS.at hy) (hS.at hu) hlt (h i (j-1) LI LI u y hu hy)
  ·have:i=j:=by lia
   subst this
   rw[hx]at hu;cases hu
   exact O.DF _ (hS.at hx)
omit O in
theorem oO.rev{xs:Array Keyed}{lo n:Nat}(h:oO blt xs lo n)(hz:lo+n<=xs.size):gH blt (mirror xs lo (lo+n) ((lo+n-lo)/2)) lo n:=λi j hij hj x y hx hy=>by
 rw[getElem?_mirror_all hz,if_pos LI]at hx hy
 have e1:lo+(lo+n)-1-(lo+i)=lo+(n-1-i):=by lia
 have e2:lo+(lo+n)-1-(lo+j)=lo+(n-1-j):=by lia
 rw[e1]at hx
 rw[e2]at hy
 exact h (n-1-j) (n-1-i) LI LI y x hy hx
def Se(blt:Keyed->Keyed->Bool)(xs:Array Keyed)(lo n q:Nat):Prop:=q<n/\∀i j,n-(q+1)<=i->i<n->n-(q+1)<=j->j<n->∀x y,xs[lo+i]? = some x->xs[lo+j]? = some y->blt x y=false
omit O in
theorem oO.flip{xs:Array Keyed}{lo n q:Nat}(h:oO blt xs lo n)(e:Se blt xs lo n q)(hz:lo+n<=xs.size):oO blt (mirror xs (lo+n-(q+1)) (lo+n) ((lo+n-(lo+n-(q+1)))/2)) lo n:=λi j hij hj x y hx hy=>by
 have hq:=e.1
 rw[getElem?_mirror_all hz]at hx hy
 by_cases c1:lo+n-(q+1)<=lo+i/\lo+i<lo+n
 ·rw[if_pos c1]at hx
  rw[if_pos LI]at hy
  have e1:lo+n-(q+1)+(lo+n)-1-(lo+i)=lo+(n-(q+1)+n-1-i):=by lia
  have e2:lo+n-(q+1)+(lo+n)-1-(lo+j)=lo+(n-(q+1)+n-1-j):=by lia
  rw[e1]at hx
  rw[e2]at hy
  exact e.2 _ _ LI LI LI LI x y hx hy
 ·rw[if_neg c1]at hx
  by_cases c2:lo+n-(q+1)<=lo+j/\lo+j<lo+n
  ·rw[if_pos c2]at hy
   have e2:lo+n-(q+1)+(lo+n)-1-(lo+j)=lo+(n-(q+1)+n-1-j):=by lia
   rw[e2]at hy
   exact h i _ LI LI x y hx hy
  ·rw[if_neg c2]at hy
   exact h i j hij hj x y hx hy
end
section
variable {prog:Program} {w:World} {A:Around} {E:Value->Shared->Prop} {s:Shared} {κ:SortKind} {S:Keyed->Prop} {blt:Keyed->Keyed->Bool}
theorem pI(C:zp prog w A E s κ S blt){st:SortSt}{i j:Nat}{x y:Keyed}{Q:Option Bool->SortSt->Prop}(hk:kindOf st=κ)(hS:iF S (arrOf st))(hx:(arrOf st)[i]? = some x)(hy:(arrOf st)[j]? = some y)(h:Q (some (blt x y)) st):
  wpS (model prog w) A E s (ltAt' i j) Q st:=by
 rw[ltAt'_eq]
 refine wpS_bind (wpS_get ?_)
 exact wpS_bind (cI hx (wpS_bind (cI hy (C x y st Q (hS.at hx) (hS.at hy) hk h))))
theorem w_rev{st:SortSt}{i j:Nat}{Q:Unit->SortSt->Prop}(h:Q () (setArr st (mirror (arrOf st) i j ((j-i)/2)))):wpS (model prog w) A E s (reverseSlice' i j) Q st:=by
 rw[reverseSlice'_eq]
 exact wpS_modify h
theorem HQ(O:Ord S blt)(C:zp prog w A E s κ S blt){st:SortSt}{lo n₀ nrem:Nat}{f:Nat->Option (Option Nat)×Nat->SM (ForInStep (Option (Option Nat)×Nat))}{Q:Option (Option Nat)×Nat->SortSt->Prop}(hk:kindOf st=κ)(hS:iF S (arrOf st))(hz:lo+nrem<=(arrOf st).size)(h1:1<=n₀)(hn:n₀<=nrem)(ha:gH blt (arrOf st) lo n₀)
  (hf:∀i n,f i (none,n)=ltAt' (lo+n) (lo+n-1) >>= λx=>match x with
   |some z=>if z=true then pure (.done (none,n))else pure (.yield (none,n+1))
   |_=>pure (.done (some none,n)))
  (hq:∀n,n₀<=n->n<=nrem->gH blt (arrOf st) lo n->(n<nrem->∀x y,(arrOf st)[lo+n]? = some x->(arrOf st)[lo+n-1]? = some y->blt x y=true)->Q (none,n) st):wpS (model prog w) A E s (forIn [n₀:nrem] (none,n₀) f) Q st:=by
 refine wpS_forRange (λi c st'=>st'=st/\c=(none,i)/\n₀<=i/\gH blt (arrOf st) lo i) ?_ ?_ ⟨rfl,rfl,Nat.le_refl _,ha⟩
 ·rintro i c st' JH h2' ⟨rfl,rfl,h3,h4⟩
  rw[hf]
  have ex:=aB (show lo+i<(arrOf st').size by lia)
  have ey:=aB (show lo+i-1<(arrOf st').size by lia)
  refine wpS_bind (pI C hk hS ex ey ?_)
  cases z:blt (arrOf st')[lo+i] (arrOf st')[lo+i-1]with
  |true=>
   refine wpS_pure (hq i h3 LI h4 λ_ x y hx hy=>?_)
   rw[ex]at hx;cases hx
   rw[ey]at hy;cases hy
   exact z
  |false=>exact wpS_pure ⟨rfl,rfl,by lia,gH.snoc O hS h4 LI ex ey z⟩
 ·rintro c st' ⟨rfl,rfl,h3,h4⟩
  have e:max n₀ nrem=nrem:=by lia
  rw[e]at h4 ⊢
  exact hq nrem hn (Nat.le_refl _) h4 λz=>absurd z (Nat.lt_irrefl _)
theorem nQ(st:SortSt):setArr st (arrOf st)=st:=rfl
theorem Si{G:Prop}{α:Sort _}{P:α->Prop}(R:α)(h1:P R->G)(h2:P R):G:=h1 h2
theorem we(O:Ord S blt)(C:zp prog w A E s κ S blt){st:SortSt}{lo nrem:Nat}{Q:Option Nat->SortSt->Prop}(hk:kindOf st=κ)(hS:iF S (arrOf st))(hz:lo+nrem<=(arrOf st).size)(h1:1<=nrem)
  (hq:∀n ys,1<=n->n<=nrem->bW (arrOf st) ys lo (lo+nrem)->gH blt ys lo n->Q (some n) (setArr st ys)):wpS (model prog w) A E s (countRun' lo nrem) Q st:=by
 refine wpS_bind (HQ O C hk hS hz (Nat.le_refl 1) h1 (gH.one O hS) (λi n=>bnd _ λx=>by cases x<;>rfl) λn n1 n2 asc ZQ=>?_)
 dsimp only
 refine w_ite (λc1=>?_) (λc1=>?_)
 ·exact wpS_pure (nQ st▸hq n _ n1 n2 (bW.refl _ _ _) asc)
 have hn:n<nrem:=by
  have:¬n=nrem:=λz=>c1 (beq_iff_eq.mpr z)
  lia
 have ex:=aB (show lo+n<(arrOf st).size by lia)
 have ey:=aB (show lo+n-1<(arrOf st).size by lia)
 have drop:=ZQ hn _ _ ex ey
 have e0:=aB (show lo<(arrOf st).size by lia)
 refine' Si (P:=λR:SM (Option Nat)=>∀xs,bW (arrOf st) xs lo (lo+nrem)->oO blt xs lo (n+1)->wpS (model prog w) A E s R Q (setArr st xs)) _ (λfin=>?main) ?fin
 case main=>
  refine w_ite (λhn1=>?_) (λhn1=>?_)
  ·refine wpS_bind (pI C hk hS e0 ey ?_)
   cases z:blt (arrOf st)[lo] (arrOf st)[lo+n-1]with
   |true=>exact wpS_pure (nQ st▸hq n _ n1 n2 (bW.refl _ _ _) asc)
   |false=>
    refine wpS_bind (w_rev ?_)
    have kx:=(gC (xs:=arrOf st) (i:=lo) (j:=lo+n) LI).mono (Nat.le_refl _) (show lo+n<=lo+nrem by lia)
    have eqv:∀i j,i<n->j<n->∀x y,(arrOf st)[lo+i]? = some x->(arrOf st)[lo+j]? = some y->blt x y=false:=λi j hi hj x y hx hy=>by
     have l1:=asc 0 j LI hj _ y (by rw[Nat.add_zero];exact e0) hy
     have l2:=asc i (n-1) LI LI x _ hx (by rw[show lo+(n-1)=lo+n-1 by lia];exact ey)
     exact O.tr y _ x (hS.at hy) (hS.at ey) (hS.at hx) (O.tr y _ _ (hS.at hy) (hS.at ey) (hS.at ey) (asc j (n-1) LI LI y _ hy (by rw[show lo+(n-1)=lo+n-1 by lia];exact ey)) (O.DF _ (hS.at ey))) (O.tr _ _ x (hS.at ey) (hS.at e0) (hS.at hx) z (asc 0 i LI hi _ x (by rw[Nat.add_zero];exact e0) hx))
    have RG:oO blt (mirror (arrOf st) lo (lo+n) ((lo+n-lo)/2)) lo (n+1):=by
     have V_:=hS.keep kx
     have d1:oO blt (mirror (arrOf st) lo (lo+n) ((lo+n-lo)/2)) lo n:=λi j hij hj x y hx hy=>by
      rw[getElem?_mirror_all (show lo+n<=(arrOf st).size by lia),if_pos LI]at hx hy
      rw[show lo+(lo+n)-1-(lo+i)=lo+(n-1-i) by lia]at hx
      rw[show lo+(lo+n)-1-(lo+j)=lo+(n-1-j) by lia]at hy
      exact eqv _ _ LI LI x y hx hy
     have e1:(mirror (arrOf st) lo (lo+n) ((lo+n-lo)/2))[lo+n]? = some (arrOf st)[lo+n]:=by
      rw[getElem?_mirror_all (show lo+n<=(arrOf st).size by lia),if_neg LI]
      exact ex
     have e2:(mirror (arrOf st) lo (lo+n) ((lo+n-lo)/2))[lo+n-1]? = some (arrOf st)[lo]:=by
      rw[getElem?_mirror_all (show lo+n<=(arrOf st).size by lia),if_pos LI,show lo+(lo+n)-1-(lo+n-1)=lo by lia]
      exact e0
     exact oO.snoc O V_ d1 LI e1 e2 (O.tr _ _ _ (hS.at ex) (hS.at ey) (hS.at e0) (O.xQ _ _ (hS.at ex) (hS.at ey) drop) (eqv 0 (n-1) LI LI _ _ (by rw[Nat.add_zero];exact e0) (by rw[show lo+(n-1)=lo+n-1 by lia];exact ey)))
    exact fin _ kx RG
  ·have e:n=1:=by lia
   have kx:=bW.refl (arrOf st) lo (lo+nrem)
   have RG:oO blt (arrOf st) lo (n+1):=by
    subst e
    exact oO.snoc O hS (oO.one O hS) (Nat.le_refl _) ex ey (O.xQ _ _ (hS.at ex) (hS.at ey) drop)
   exact fin _ kx RG
 case fin=>
  intro xs kx RG
  have V_:=hS.keep kx
  refine wpS_bind (lV ?_)
  refine wpS_bind (wpS_mono (Q:=λ(c:Option (Option Nat)×Nat×Nat) st'=>∃ys,st'=setArr st ys/\c.1=none/\n+1<=c.2.1/\c.2.1<=nrem/\bW (arrOf st) ys lo (lo+nrem)/\oO blt ys lo c.2.1/\Se blt ys lo c.2.1 c.2.2)
   (wpS_forRange (λi (c:Option (Option Nat)×Nat×Nat) st'=>∃ys,st'=setArr st ys/\c.1=none/\c.2.1=i/\n+1<=i/\bW (arrOf st) ys lo (lo+nrem)/\oO blt ys lo c.2.1/\Se blt ys lo c.2.1 c.2.2) ?_ ?_ ⟨xs,rfl,rfl,rfl,Nat.le_refl _,kx,RG,by simp only;lia,?_⟩) ?_)
  ·rintro i ⟨r,m,q⟩ st' i1 i2 ⟨ys,rfl,rfl,hi,hm,ky,dy,eq⟩
   simp only at hi
   subst hi
   simp only at ky dy eq
   dsimp only
   have nY:=hS.keep ky
   have zy:lo+nrem<=ys.size:=by rw[ky.size];exact hz
   have ex:=aB (show lo+m<ys.size by lia)
   have ey:=aB (show lo+m-1<ys.size by lia)
   refine wpS_bind (pI C (st:=setArr st ys) hk nY ex ey ?_)
   have hq1:=eq.1
   cases z:blt ys[lo+m] ys[lo+m-1]with
   |true=>
    dsimp only
    refine w_ite (λ_=>?_) (λz=>absurd rfl z)
    have key:∀zs,bW ys zs lo (lo+m)->oO blt zs lo m->(∀x,zs[lo+m-1]? = some x->blt x ys[lo+m]=false)->wpS (model prog w) A E s (pure (ForInStep.yield ((none,m+1,0):Option (Option Nat)×Nat×Nat)):SM _) (λr st'=>match r with
      |.done c=>∃ys,st'=setArr st ys/\c.1=none/\n+1<=c.2.1/\c.2.1<=nrem/\bW (arrOf st) ys lo (lo+nrem)/\oO blt ys lo c.2.1/\Se blt ys lo c.2.1 c.2.2
      |.yield c=>∃ys,st'=setArr st ys/\c.1=none/\c.2.1=m+1/\n+1<=m+1/\bW (arrOf st) ys lo (lo+nrem)/\oO blt ys lo c.2.1/\Se blt ys lo c.2.1 c.2.2) (setArr st zs):=by
     intro zs kz dz hlt
     have Pu:=ky.trans (kz.mono (Nat.le_refl _) (show lo+m<=lo+nrem by lia))
     have Yu:=hS.keep Pu
     have e1:zs[lo+m]? = some ys[lo+m]:=by rw[kz.out (lo+m) (.inr LI)];exact ex
     have zz:lo+m-1<zs.size:=by rw[kz.size];lia
     refine wpS_pure ⟨zs,rfl,rfl,rfl,by lia,Pu,oO.snoc O Yu dz LI e1 (aB zz) (hlt _ (aB zz)),by simp only;lia,λa b a1 a2 b1 b2 x y hx hy=>?_⟩
     simp only at a1 a2 b1 b2
     have e3:a=m:=by lia
     have e4:b=m:=by lia
     subst e3 e4
     rw[hx]at hy;cases hy
     exact O.DF _ (Yu.at hx)
    refine w_ite (λq0=>?_) (λq0=>?_)
    ·refine wpS_bind (w_rev ?_)
     have km:=gC (xs:=ys) (i:=lo+m-(q+1)) (j:=lo+m) LI
     refine key _ (km.mono (show lo<=lo+m-(q+1) by have:=eq.1;lia) (Nat.le_refl _)) (dy.flip eq LI) λx hx=>?_
     rw[getElem?_mirror_all (show lo+m<=ys.size by lia),if_pos LI]at hx
     have e1:lo+m-(q+1)+(lo+m)-1-(lo+m-1)=lo+(m-(q+1)):=by lia
     rw[e1]at hx
     have e2:ys[lo+(m-1)]? = some ys[lo+m-1]:=by rw[show lo+(m-1)=lo+m-1 by lia];exact ey
     have le1:=dy (m-(q+1)) (m-1) LI LI x _ hx e2
     exact O.tr _ _ _ (nY.at ex) (nY.at ey) (nY.at hx) (O.xQ _ _ (nY.at ex) (nY.at ey) z) le1
    ·refine key ys (bW.refl _ _ _) dy λx hx=>?_
     rw[ey]at hx;cases hx
     exact O.xQ _ _ (nY.at ex) (nY.at ey) z
   |false=>
    dsimp only
    refine w_ite (λz=>absurd z Bool.false_ne_true) (λ_=>?_)
    refine wpS_bind (pI C (st:=setArr st ys) hk nY ey ex ?_)
    cases z2:blt ys[lo+m-1] ys[lo+m]with
    |true=>
     dsimp only
     refine w_ite (λ_=>?_) (λz=>absurd rfl z)
     exact wpS_pure ⟨ys,rfl,rfl,hm,by simp only;lia,ky,dy,eq⟩
    |false=>
     dsimp only
     refine w_ite (λz=>absurd z Bool.false_ne_true) (λ_=>?_)
     refine wpS_pure ⟨ys,rfl,rfl,rfl,by lia,ky,oO.snoc O nY dy LI ex ey z2,by simp only;lia,λa b a1 a2 b1 b2 x y hx hy=>?_⟩
     simp only at a1 a2 b1 b2
     have e2:ys[lo+(m-1)]? = some ys[lo+m-1]:=by rw[show lo+(m-1)=lo+m-1 by lia];exact ey
     by_cases ha:a=m
     ·subst ha
      rw[ex]at hx;cases hx
      by_cases hb:b=a
      ·subst hb
       rw[ex]at hy;cases hy
       exact O.DF _ (nY.at ex)
      ·exact O.tr y ys[lo+a-1] _ (nY.at hy) (nY.at ey) (nY.at ex) (eq.2 (a-1) b LI LI LI LI _ y e2 hy) z
     ·by_cases hb:b=m
      ·subst hb
       rw[ex]at hy;cases hy
       exact O.tr _ ys[lo+b-1] x (nY.at ex) (nY.at ey) (nY.at hx) z2 (eq.2 a (b-1) LI LI LI LI x _ hx e2)
      ·exact eq.2 a b LI LI LI LI x y hx hy
  ·rintro⟨r,m,q⟩ st' ⟨ys,rfl,rfl,hi,hm,ky,dy,eq⟩
   simp only at hi
   subst hi
   simp only at ky dy eq
   exact⟨ys,rfl,rfl,by simp only;lia,by simp only;lia,ky,dy,eq⟩
  ·intro a b a1 a2 b1 b2 x y hx hy
   simp only at a1 a2 b1 b2
   have e3:a=n:=by lia
   have e4:b=n:=by lia
   subst e3 e4
   rw[hx]at hy;cases hy
   exact O.DF _ (V_.at hx)
  ·rintro⟨r,m,q⟩ st' ⟨ys,rfl,rfl,m1,m2,ky,dy,eq⟩
   simp only at ky dy eq m1 m2
   dsimp only
   have zy:lo+nrem<=ys.size:=by rw[ky.size];exact hz
   refine' Si (P:=λR:SM (Option Nat)=>∀zs,bW ys zs lo (lo+m)->oO blt zs lo m->wpS (model prog w) A E s R Q (setArr st zs)) _ (λRm=>w_ite (λq0=>?m1) (λq0=>?m2)) ?f2
   case m2=>exact Rm _ (bW.refl ys lo (lo+m)) dy
   case m1=>exact wpS_bind (w_rev (Rm _ ((gC (xs:=ys) (i:=lo+m-(q+1)) (j:=lo+m) LI).mono (show lo<=lo+m-(q+1) by have:=eq.1;lia) (Nat.le_refl _)) (dy.flip eq LI)))
   intro zs kz dz
   have Pu:=ky.trans (kz.mono (Nat.le_refl _) (show lo+m<=lo+nrem by lia))
   have zz:lo+nrem<=zs.size:=by rw[Pu.size];exact hz
   refine wpS_bind (w_rev ?_)
   have km:=gC (xs:=zs) (i:=lo) (j:=lo+m) LI
   have k3:=Pu.trans (km.mono (Nat.le_refl _) (show lo+m<=lo+nrem by lia))
   refine wpS_bind (HQ O C (st:=setArr st (mirror zs lo (lo+m) ((lo+m-lo)/2))) hk (hS.keep k3) (by rw[show arrOf (setArr st (mirror zs lo (lo+m) ((lo+m-lo)/2)))=mirror zs lo (lo+m) ((lo+m-lo)/2)from rfl,mirror_size];exact zz) LI m2 (dz.rev LI) (λi n=>bnd _ λx=>by cases x<;>rfl) λn' n1' n2' WB _=>?_)
   exact wpS_pure (hq n' _ LI n2' k3 WB)
end
section
variable {prog:Program} {w:World} {A:Around} {E:Value->Shared->Prop} {s:Shared} {κ:SortKind} {S:Keyed->Prop} {blt:Keyed->Keyed->Bool}
theorem JU{st:SortSt}{i j:Nat}{Q:Unit->SortSt->Prop}(h:Q () (setArr st (bubble (arrOf st) i (i-j)))):wpS (model prog w) A E s (moveDown' i j) Q st:=by
 rw[moveDown'_eq]
 exact wpS_modify h
theorem gH.put(O:Ord S blt){xs:Array Keyed}{lo k l:Nat}(hS:iF S xs)(h:gH blt xs lo k)(hl:l<=k)(hz:lo+k<xs.size){x:Keyed}(hx:xs[lo+k]? = some x)(h1:∀i,i<l->∀y,xs[lo+i]? = some y->blt x y=false)(h2:∀i,l<=i->i<k->∀y,xs[lo+i]? = some y->blt x y=true):
  gH blt (bubble xs (lo+k) (lo+k-(lo+l))) lo (k+1):=λi j hij hj u v hu hv=>by
 have e:∀m,m<=k->(bubble xs (lo+k) (lo+k-(lo+l)))[lo+m]? = if m=l then xs[lo+k]? else if l<m then xs[lo+(m-1)]? else xs[lo+m]? :=λm hm=>by
  rw[getElem?_bubble hz _ LI]
  by_cases c1:m=l
  ·rw[if_pos LI,if_pos c1]
  ·rw[if_neg LI,if_neg c1]
   by_cases c2:l<m
   ·rw[if_pos LI,if_pos c2,show lo+m-1=lo+(m-1) by lia]
   ·rw[if_neg LI,if_neg c2]
 rw[e i LI]at hu
 rw[e j LI]at hv
 by_cases c1:i=l
 ·rw[if_pos c1,hx]at hu
  cases hu
  by_cases c2:j=l
  ·rw[if_pos c2,hx]at hv
   cases hv
   exact O.DF _ (hS.at hx)
  ·rw[if_neg c2,if_pos LI]at hv
   exact O.xQ _ _ (hS.at hx) (hS.at hv) (h2 (j-1) LI LI v hv)
 ·rw[if_neg c1]at hu
  by_cases c3:l<i
  ·rw[if_pos c3]at hu
   rw[if_neg LI,if_pos LI]at hv
   exact h (i-1) (j-1) LI LI u v hu hv
  ·rw[if_neg c3]at hu
   by_cases c2:j=l
   ·rw[if_pos c2,hx]at hv
    cases hv
    exact h1 i LI u hu
   ·rw[if_neg c2]at hv
    by_cases c4:l<j
    ·rw[if_pos c4]at hv
     exact h i (j-1) LI LI u v hu hv
    ·rw[if_neg c4]at hv
     exact h i j hij LI u v hu hv
theorem Bv(O:Ord S blt)(C:zp prog w A E s κ S blt){st:SortSt}{lo n ok:Nat}{Q:Bool->SortSt->Prop}(hk:kindOf st=κ)(hS:iF S (arrOf st))(hz:lo+n<=(arrOf st).size)(h1:1<=ok)(hn:ok<=n)(ha:gH blt (arrOf st) lo ok)
  (hq:∀ys,bW (arrOf st) ys lo (lo+n)->gH blt ys lo n->Q true (setArr st ys)):wpS (model prog w) A E s (binarySort' lo n ok) Q st:=by
 have em:max ok 1=ok:=by lia
 refine wpS_bind (wpS_mono (Q:=λ(c:Option Bool×Unit) st'=>∃ys,st'=setArr st ys/\c.1=none/\bW (arrOf st) ys lo (lo+n)/\gH blt ys lo n)
  (wpS_forRange (λk (c:Option Bool×Unit) st'=>∃ys,st'=setArr st ys/\c.1=none/\bW (arrOf st) ys lo (lo+n)/\gH blt ys lo k) ?_ ?_ ⟨arrOf st,rfl,rfl,bW.refl _ _ _,by rw[em];exact ha⟩) ?_)
 ·rintro k ⟨r,u⟩ st' k1 k2 ⟨ys,rfl,rfl,ky,ay⟩
  rw[em]at k1
  have nY:=hS.keep ky
  have zy:lo+n<=ys.size:=by rw[ky.size];exact hz
  have ex:=aB (show lo+k<ys.size by lia)
  refine wpS_bind (wpS_mono (Q:=λ(c:Option Bool×Nat×Nat) st'=>st'=setArr st ys/\c.1=none/\c.2.1<=k/\(∀i,i<c.2.1->∀y,ys[lo+i]? = some y->blt ys[lo+k] y=false)/\∀i,c.2.1<=i->i<k->∀y,ys[lo+i]? = some y->blt ys[lo+k] y=true)
   (wpS_forRange (λi (c:Option Bool×Nat×Nat) st'=>st'=setArr st ys/\c.1=none/\c.2.1<=c.2.2/\c.2.2<=k/\c.2.2-c.2.1+i<=k/\(∀i,i<c.2.1->∀y,ys[lo+i]? = some y->blt ys[lo+k] y=false)/\∀i,c.2.2<=i->i<k->∀y,ys[lo+i]? = some y->blt ys[lo+k] y=true) ?_ ?_
    ⟨rfl,rfl,by simp only;lia,by simp only;lia,by simp only;lia,λi hi=>absurd hi (Nat.not_lt_zero _),λi hi hi'=>by simp only at hi;lia⟩) ?_)
  ·rintro i ⟨r,l,h⟩ st' _ hi ⟨rfl,rfl,a1,a2,a3,a4,a5⟩
   simp only at a1 a2 a3 a4 a5
   dsimp only
   refine w_ite (λc1=>?_) (λc1=>?_)
   ·have e:l=h:=by lia
    subst e
    exact wpS_pure ⟨rfl,rfl,a2,a4,a5⟩
   have Mp:=aB (show lo+(l+h)/2<ys.size by lia)
   refine wpS_bind (pI C (st:=setArr st ys) hk nY ex Mp ?_)
   cases z:blt ys[lo+k] ys[lo+(l+h)/2]with
   |true=>
    refine wpS_pure ⟨rfl,rfl,by simp only;lia,by simp only;lia,by simp only;lia,a4,λq hq1 hq2 y hy=>?_⟩
    simp only at hq1
    have le:=ay ((l+h)/2) q hq1 hq2 _ y Mp hy
    cases z2:blt ys[lo+k] y with
    |true=>rfl
    |false=>
     have:=O.tr _ _ _ (nY.at Mp) (nY.at hy) (nY.at ex) le z2
     rw[z]at this
     cases this
   |false=>
    refine wpS_pure ⟨rfl,rfl,by simp only;lia,by simp only;lia,by simp only;lia,λq hq1 y hy=>?_,a5⟩
    simp only at hq1
    have le:=ay q ((l+h)/2) LI LI y _ hy Mp
    exact O.tr _ _ _ (nY.at hy) (nY.at Mp) (nY.at ex) le z
  ·rintro⟨r,l,h⟩ st' ⟨rfl,rfl,a1,a2,a3,a4,a5⟩
   simp only at a1 a2 a3 a4 a5
   have e:l=h:=by lia
   subst e
   exact⟨rfl,rfl,a2,a4,a5⟩
  ·rintro⟨r,l,h⟩ st' ⟨rfl,e,a2,a4,a5⟩
   simp only at e a2 a4 a5
   subst e
   refine wpS_bind (JU ?_)
   refine wpS_pure ⟨_,rfl,rfl,ky.trans ((vz (xs:=ys) (src:=lo+k) (d:=lo+k-(lo+l)) LI LI).mono (show lo<=lo+k-(lo+k-(lo+l)) by lia) (show lo+k+1<=lo+n by lia)),gH.put O nY ay a2 (show lo+k<ys.size by lia) ex a4 a5⟩
 ·rintro⟨r,u⟩ st' ⟨ys,rfl,rfl,ky,ay⟩
  rw[show max (max ok 1) n=n by lia]at ay
  exact⟨ys,rfl,rfl,ky,ay⟩
 ·rintro⟨r,u⟩ st' ⟨ys,rfl,e,ky,ay⟩
  simp only at e
  subst e
  exact wpS_pure (hq ys ky ay)
theorem Br(o:Nat):∀(l:List Keyed)(t:Nat)(xs:Array Keyed),o+t+l.length<=xs.size->∀k,
  ((l.zipIdx t).foldl (λ(a:Array Keyed) (x:Keyed×Nat)=>match x with|(p,j)=>a.setIfInBounds (o+j) p) xs)[k]? = if o+t<=k/\k<o+t+l.length then l[k-(o+t)]? else xs[k]?
 |[],t,xs,_,k=>by
  rw[if_neg (by simp)]
  rfl
 |x::r,t,xs,h,k=>by
  rw[List.length_cons]at h
  have ih:=Br o r (t+1) (xs.setIfInBounds (o+t) x) (by rw[Array.size_setIfInBounds];lia) k
  rw[List.zipIdx_cons,List.foldl_cons]
  show(List.foldl _ (xs.setIfInBounds (o+t) x) (r.zipIdx (t+1)))[k]? = _
  rw[ih,List.length_cons]
  by_cases c1:o+(t+1)<=k/\k<o+(t+1)+r.length
  ·rw[if_pos c1,if_pos LI,show k-(o+t)=k-(o+(t+1))+1 by lia,List.getElem?_cons_succ]
  ·rw[if_neg c1]
   by_cases c2:k=o+t
   ·subst c2
    rw[if_pos LI,Nat.sub_self]
    simp[show o+t<xs.size by lia]
   ·rw[if_neg LI]
    rw[Array.getElem?_setIfInBounds_ne LI]
def wb(xs m:Array Keyed)(o:Nat):Array Keyed:=(m.toList.zipIdx).foldl (λ(a:Array Keyed) (x:Keyed×Nat)=>match x with|(p,j)=>a.setIfInBounds (o+j) p) xs
theorem Bs{xs m:Array Keyed}{o:Nat}(h:o+m.size<=xs.size)(k:Nat):(wb xs m o)[k]? = if o<=k/\k<o+m.size then m[k-o]? else xs[k]? :=by
 have:=Br o m.toList 0 xs (by simpa using h) k
 unfold wb
 rw[this]
 simp
theorem Fo{xs m:Array Keyed}{o:Nat}(h:o+m.size<=xs.size)(hp:m.toList.Perm (xs.extract o (o+m.size)).toList):bW xs (wb xs m o) o (o+m.size):=by
 refine⟨?_,λk hk=>by rw[Bs h,if_neg LI]⟩
 rw[Array.perm_iff_toList_perm]
 have e1:(wb xs m o).toList=xs.toList.take o++m.toList++xs.toList.drop (o+m.size):=by
  apply List.ext_getElem?
  intro k
  have e:(wb xs m o).toList[k]? = (wb xs m o)[k]? :=by simp
  rw[e,Bs h]
  have lt:(xs.toList.take o).length=o:=by simp;lia
  by_cases c1:k<o
  ·rw[if_neg LI,List.append_assoc,List.getElem?_append_left LI,List.getElem?_take_of_lt c1]
   simp
  ·by_cases c2:k<o+m.size
   ·rw[if_pos LI,List.append_assoc,List.getElem?_append_right LI,lt,List.getElem?_append_left (by simp;lia)]
    simp
   ·rw[if_neg LI,List.getElem?_append_right (by rw[List.length_append,lt];simp;lia),List.getElem?_drop,List.length_append,lt]
    rw[show o+m.size+(k-(o+m.toList.length))=k by simp;lia]
    simp
 have e2:xs.toList=xs.toList.take o++(xs.extract o (o+m.size)).toList++xs.toList.drop (o+m.size):=by
  rw[ext_toList,Nat.add_sub_cancel_left]
  have:=g_ xs.toList (i:=o) (n:=o+m.size) LI
  rw[Nat.add_sub_cancel_left]at this
  rw[←this,List.take_append_drop]
 rw[e1]
 refine List.Perm.trans ?_ (List.Perm.of_eq e2.symm)
 exact List.Perm.append_right _ (List.Perm.append_left _ hp)
theorem ext_get{xs:Array Keyed}{i j k:Nat}(hj:j<=xs.size)(h:k<j-i):(xs.extract i j)[k]? = xs[i+k]? :=by
 rw[Array.getElem?_extract]
 rw[if_pos LI]
theorem fE{xs:Array Keyed}{i j:Nat}(hj:j<=xs.size):(xs.extract i j).size=j-i:=by
 rw[Array.size_extract]
 lia
theorem gH.Ia{xs:Array Keyed}{lo n i j:Nat}(h:gH blt xs lo n)(h1:lo<=i)(h2:j<=lo+n)(hz:j<=xs.size):qy blt (xs.extract i j).toList:=by
 refine List.pairwise_iff_getElem.mpr λp q hp hq hpq=>?_
 have s_:p<j-i:=by
  have z:=hp
  rw[Array.length_toList,fE hz]at z
  exact z
 have hq':q<j-i:=by
  have z:=hq
  rw[Array.length_toList,fE hz]at z
  exact z
 have e1:xs[lo+(i-lo+p)]? = some (xs.extract i j).toList[p]:=by
  rw[show lo+(i-lo+p)=i+p by lia,←ext_get hz s_]
  simp[fE hz,s_]
 have e2:xs[lo+(i-lo+q)]? = some (xs.extract i j).toList[q]:=by
  rw[show lo+(i-lo+q)=i+q by lia,←ext_get hz hq']
  simp[fE hz,hq']
 exact h _ _ LI LI _ _ e1 e2
theorem lu{xs:Array Keyed}{i j:Nat}{y:Keyed}(hz:j<=xs.size)(h:y∈(xs.extract i j).toList):∃q,q<j-i/\xs[i+q]? = some y:=by
 obtain⟨q,hq,rfl⟩:=List.mem_iff_getElem.mp h
 have hq':q<j-i:=by
  have z:=hq
  rw[Array.length_toList,fE hz]at z
  exact z
 refine⟨q,hq',?_⟩
 rw[←ext_get hz hq']
 simp[fE hz,hq']
abbrev fT(st:SortSt)(xs:Array Keyed)(p:Array (Nat×Nat×Nat))(g:Nat):SortSt:=SortSt.mk' (kindOf st) xs p g (failedOf st)
theorem zw(O:Ord S blt)(C:zp prog w A E s κ S blt){st:SortSt}{i sa na pw nb Xe:Nat}{Q:Bool->SortSt->Prop}(hk:kindOf st=κ)(hf:failedOf st=none)(hS:iF S (arrOf st))(e1:(pendingOf st)[i]? = some (sa,na,pw))(e2:(pendingOf st)[i+1]? = some (sa+na,nb,Xe))
  (na1:1<=na)(nb1:1<=nb)(hz:sa+na+nb<=(arrOf st).size)(aa:gH blt (arrOf st) sa na)(ab:gH blt (arrOf st) (sa+na) nb)
  (hq:∀ys g,bW (arrOf st) ys sa (sa+na+nb)->gH blt ys sa (na+nb)->Q true (fT st ys (((pendingOf st).setIfInBounds i (sa,na+nb,pw)).eraseIdxIfInBounds (i+1)) g)):wpS (model prog w) A E s (mergeAt' i) Q st:=by
 refine wpS_bind (wpS_get ?_)
 rw[e1,e2]
 dsimp only
 refine wpS_bind (wpS_modify (f:=λ_=>fT st (arrOf st) (((pendingOf st).setIfInBounds i (sa,na+nb,pw)).eraseIdxIfInBounds (i+1)) (gallopOf st)) ?_)
 generalize ((pendingOf st).setIfInBounds i (sa,na+nb,pw)).eraseIdxIfInBounds (i+1)=P at *
 have eb:=aB (show sa+na<(arrOf st).size by lia)
 refine wpS_bind (cI eb (wpS_bind (gI (left:=false) (X:=λq=>((arrOf st)[sa+q]?).getD (arrOf st)[sa+na]) O C hk (λq hq=>?_) (λq hq=>?_) (hS.at eb) (λp q hpq hq=>?_) LI λk k1 p1 p2=>?_)))
 ·rw[aB (show sa+q<(arrOf st).size by lia)];rfl
 ·rw[aB (show sa+q<(arrOf st).size by lia)];exact hS.at (aB (show sa+q<(arrOf st).size by lia))
 ·rw[aB (show sa+p<(arrOf st).size by lia),aB (show sa+q<(arrOf st).size by lia)]
  exact aa p q hpq hq _ _ (aB (show sa+p<(arrOf st).size by lia)) (aB (show sa+q<(arrOf st).size by lia))
 have below:∀q,q<k->∀y,(arrOf st)[sa+q]? = some y->blt (arrOf st)[sa+na] y=false:=λq hq y hy=>by
  have:=p1 q hq
  rw[hy]at this
  simpa using this
 have above:∀q,k<=q->q<na->∀y,(arrOf st)[sa+q]? = some y->blt (arrOf st)[sa+na] y=true:=λq hq hq2 y hy=>by
  have:=p2 q hq hq2
  rw[hy]at this
  simpa using this
 have joined:(∀q,q<na->∀y,(arrOf st)[sa+q]? = some y->∀r,r<nb->∀z,(arrOf st)[sa+na+r]? = some z->blt z y=false)->gH blt (arrOf st) sa (na+nb):=λh p q hpq hq x y hx hy=>by
  by_cases c1:q<na
  ·exact aa p q hpq c1 x y hx hy
  ·by_cases c2:p<na
   ·exact h p c2 x hx (q-na) LI y (by rw[show sa+na+(q-na)=sa+q by lia];exact hy)
   ·exact ab (p-na) (q-na) LI LI x y (by rw[show sa+na+(p-na)=sa+p by lia];exact hx) (by rw[show sa+na+(q-na)=sa+q by lia];exact hy)
 have qh:∀r,r<nb->∀z,(arrOf st)[sa+na+r]? = some z->blt z (arrOf st)[sa+na]=false:=λr hr z hz'=>ab 0 r (Nat.zero_le _) hr _ z (by rw[Nat.add_zero];exact eb) hz'
 dsimp only
 refine w_ite (λc1=>?_) (λc1=>?_)
 ·have c1':k=na:=by
   have:=beq_iff_eq.mp c1
   lia
  refine wpS_pure (hq _ _ (bW.refl _ _ _) (joined λq hq y hy r hr z hz'=>?_))
  exact O.tr _ _ _ (hS.at hy) (hS.at eb) (hS.at hz') (below q LI y hy) (qh r hr z hz')
 have kn:k<na:=by
  have:¬na-k=0:=λz=>c1 (beq_iff_eq.mpr z)
  lia
 have el:=aB (show sa+k+(na-k)-1<(arrOf st).size by lia)
 have yS:∀q,q<na->∀y,(arrOf st)[sa+q]? = some y->blt (arrOf st)[sa+k+(na-k)-1] y=false:=λq hq y hy=>aa q (na-1) LI LI y _ hy (by rw[show sa+(na-1)=sa+k+(na-k)-1 by lia];exact el)
 refine wpS_bind (cI el (wpS_bind (gI (left:=true) (X:=λq=>((arrOf st)[sa+na+q]?).getD (arrOf st)[sa+na]) O C hk (λq hq=>?_) (λq hq=>?_) (hS.at el) (λp q hpq hq=>?_) LI λk2 k21 q1 q2=>?_)))
 ·rw[aB (show sa+na+q<(arrOf st).size by lia)];rfl
 ·rw[aB (show sa+na+q<(arrOf st).size by lia)];exact hS.at (aB (show sa+na+q<(arrOf st).size by lia))
 ·rw[aB (show sa+na+p<(arrOf st).size by lia),aB (show sa+na+q<(arrOf st).size by lia)]
  exact ab p q hpq hq _ _ (aB (show sa+na+p<(arrOf st).size by lia)) (aB (show sa+na+q<(arrOf st).size by lia))
 have under:∀r,r<k2->∀z,(arrOf st)[sa+na+r]? = some z->blt z (arrOf st)[sa+k+(na-k)-1]=true:=λr hr z hz'=>by
  have:=q1 r hr
  rw[hz']at this
  simpa using this
 have over:∀r,k2<=r->r<nb->∀z,(arrOf st)[sa+na+r]? = some z->blt z (arrOf st)[sa+k+(na-k)-1]=false:=λr hr hr2 z hz'=>by
  have:=q2 r hr hr2
  rw[hz']at this
  simpa using this
 dsimp only
 refine w_ite (λc2=>?_) (λc2=>?_)
 ·have Wx:k2=0:=beq_iff_eq.mp c2
  refine wpS_pure (hq _ _ (bW.refl _ _ _) (joined λq hq y hy r hr z hz'=>?_))
  exact O.tr _ _ _ (hS.at hy) (hS.at el) (hS.at hz') (yS q hq y hy) (over r LI hr z hz')
 have k2n:1<=k2:=by
  have:¬k2=0:=λz=>c2 (beq_iff_eq.mpr z)
  lia
 have zx:sa+na<=(arrOf st).size:=by lia
 have zy:sa+na+k2<=(arrOf st).size:=by lia
 have sx:(((arrOf st).extract (sa+k) (sa+na))).size=na-k:=by rw[fE zx];lia
 have sy:(((arrOf st).extract (sa+na) (sa+na+k2))).size=k2:=by rw[fE zy];lia
 have Sx:∀x∈((arrOf st).extract (sa+k) (sa+na)).toList,S x:=λx hx=>let⟨q,_,e⟩:=lu zx hx;hS.at e
 have Sy:∀x∈((arrOf st).extract (sa+na) (sa+na+k2)).toList,S x:=λx hx=>let⟨q,_,e⟩:=lu zy hx;hS.at e
 have WU:qy blt ((arrOf st).extract (sa+k) (sa+na)).toList:=aa.Ia LI LI zx
 have WT:qy blt ((arrOf st).extract (sa+na) (sa+na+k2)).toList:=ab.Ia LI LI zy
 have YN:((arrOf st).extract (sa+k) (sa+na))[0]? = some (arrOf st)[sa+k]:=by rw[ext_get zx LI,Nat.add_zero];exact aB _
 have YL:((arrOf st).extract (sa+na) (sa+na+k2))[0]? = some (arrOf st)[sa+na]:=by rw[ext_get zy LI,Nat.add_zero];exact eb
 have YM:((arrOf st).extract (sa+k) (sa+na))[((arrOf st).extract (sa+k) (sa+na)).size-1]? = some (arrOf st)[sa+k+(na-k)-1]:=by rw[sx,ext_get zx LI,show sa+k+(na-k-1)=sa+k+(na-k)-1 by lia];exact el
 have h0:blt (arrOf st)[sa+na] (arrOf st)[sa+k]=true:=above k (Nat.le_refl _) kn _ (aB _)
 have hl:∀y∈((arrOf st).extract (sa+na) (sa+na+k2)).toList,blt (arrOf st)[sa+k+(na-k)-1] y=false:=λy hy=>by
  obtain⟨q,hq1,e⟩:=lu zy hy
  exact O.xQ _ _ (hS.at e) (hS.at el) (under q LI y e)
 have done:∀m g,Good blt (((arrOf st).extract (sa+k) (sa+na)).toList++((arrOf st).extract (sa+na) (sa+na+k2)).toList) m->Q true (fT st (wb (arrOf st) m (sa+k)) P g):=by
  intro m g gd
  have ms:m.size=na-k+k2:=by
   have:=gd.perm.length_eq
   rw[List.length_append,Array.length_toList,Array.length_toList,Array.length_toList,sx,sy]at this
   exact this
  have XX:sa+k+m.size<=(arrOf st).size:=by lia
  have ej:((arrOf st).extract (sa+k) (sa+k+m.size)).toList=((arrOf st).extract (sa+k) (sa+na)).toList++((arrOf st).extract (sa+na) (sa+na+k2)).toList:=by
   rw[ext_toList,ext_toList,ext_toList,ms]
   rw[show sa+k+(na-k+k2)-(sa+k)=na-k+k2 by lia,show sa+na-(sa+k)=na-k by lia,Nat.add_sub_cancel_left]
   have:=g_ ((arrOf st).toList.drop (sa+k)) (i:=na-k) (n:=na-k+k2) LI
   rw[this,List.drop_drop,Nat.add_sub_cancel_left,show sa+k+(na-k)=sa+na by lia]
  have kp:=Fo (xs:=arrOf st) (m:=m) (o:=sa+k) XX (by rw[ej];exact gd.perm)
  refine hq _ g (kp.mono (show sa<=sa+k by lia) (show sa+k+m.size<=sa+na+nb by lia)) λp q hpq hq' x y hx hy=>?_
  have mm:∀t u,m[t]? = some u->(∃r,k<=r/\r<na/\(arrOf st)[sa+r]? = some u)\/∃r,r<k2/\(arrOf st)[sa+na+r]? = some u:=λt u hu=>by
   have h1:=gd.perm.mem_iff.mp (List.mem_of_getElem? (aD hu))
   rcases List.mem_append.mp h1 with h1|h1
   ·obtain⟨r,hr,e⟩:=lu zx h1
    exact .inl ⟨k+r,by lia,by lia,by rw[show sa+(k+r)=sa+k+r by lia];exact e⟩
   ·obtain⟨r,hr,e⟩:=lu zy h1
    exact .inr ⟨r,by lia,e⟩
  rw[Bs XX]at hx hy
  by_cases c3:sa+k<=sa+p/\sa+p<sa+k+m.size
  ·rw[if_pos c3]at hx
   by_cases c4:sa+k<=sa+q/\sa+q<sa+k+m.size
   ·rw[if_pos c4]at hy
    have sm:∀z∈m.toList,S z:=λz hz'=>by
     have:=gd.perm.mem_iff.mp hz'
     rcases List.mem_append.mp this with h1|h1
     ·exact Sx z h1
     ·exact Sy z h1
    exact jE O gd.Ia sm (aD hx) (aD hy) LI
   ·rw[if_neg c4]at hy
    have PR:(arrOf st)[sa+na+(q-na)]? = some y:=by rw[show sa+na+(q-na)=sa+q by lia];exact hy
    rcases mm _ x hx with⟨r,r1,r2,er⟩|⟨r,r1,er⟩
    ·exact O.tr _ _ _ (hS.at er) (hS.at el) (hS.at hy) (yS r r2 x er) (over (q-na) LI LI y PR)
    ·exact ab r (q-na) LI LI x y er PR
  ·rw[if_neg c3]at hx
   by_cases c4:sa+k<=sa+q/\sa+q<sa+k+m.size
   ·rw[if_pos c4]at hy
    rcases mm _ y hy with⟨r,r1,r2,er⟩|⟨r,r1,er⟩
    ·exact aa p r LI r2 x y hx er
    ·exact O.tr _ _ _ (hS.at hx) (hS.at eb) (hS.at er) (below p LI x hx) (qh r LI y er)
   ·rw[if_neg c4]at hy
    by_cases c5:q<k
    ·exact aa p q hpq LI x y hx hy
    ·have PR:(arrOf st)[sa+na+(q-na)]? = some y:=by rw[show sa+na+(q-na)=sa+q by lia];exact hy
     by_cases c6:p<k
     ·exact O.tr _ _ _ (hS.at hx) (hS.at eb) (hS.at hy) (below p c6 x hx) (qh (q-na) LI y PR)
     ·exact ab (p-na) (q-na) LI LI x y (by rw[show sa+na+(p-na)=sa+p by lia];exact hx) PR
 have XR:(failedOf st).isNone=true:=by rw[hf];rfl
 refine w_ite (λ_=>?_) (λ_=>?_)
 ·refine wpS_bind (zu O C (st:=fT st (arrOf st) P (gallopOf st)) hk Sx Sy WU WT YN YL YM h0 hl λm g gd=>?_)
  refine wpS_bind (wpS_modify (wpS_bind (wpS_get (wpS_pure ?_))))
  show Q (failedOf st).isNone _
  rw[XR]
  exact done m g gd
 ·refine wpS_bind (zv O C (st:=fT st (arrOf st) P (gallopOf st)) hk Sx Sy WU WT YN YL YM h0 hl λm g gd=>?_)
  refine wpS_bind (wpS_modify (wpS_bind (wpS_get (wpS_pure ?_))))
  show Q (failedOf st).isNone _
  rw[XR]
  exact done m g gd
end
def iA(blt:Keyed->Keyed->Bool)(xs:Array Keyed):Nat->List (Nat×Nat)->Nat->Prop
 |k,[],lo=>k=lo
 |k,e::r,lo=>e.1=k/\1<=e.2/\gH blt xs k e.2/\iA blt xs (k+e.2) r lo
def pS(e:Nat×Nat×Nat):Nat×Nat:=(e.1,e.2.1)
theorem gH.lD{blt:Keyed->Keyed->Bool}{xs ys:Array Keyed}{lo hi k n:Nat}(h:gH blt xs k n)(kp:bW xs ys lo hi)(ho:k+n<=lo\/hi<=k):gH blt ys k n:=λi j hij hj x y hx hy=>by
 rw[kp.out (k+i) LI]at hx
 rw[kp.out (k+j) LI]at hy
 exact h i j hij hj x y hx hy
theorem iA.len{blt:Keyed->Keyed->Bool}{xs:Array Keyed}:∀{l:List (Nat×Nat)}{k lo:Nat},iA blt xs k l lo->k+l.length<=lo
 |[],k,lo,h=>by
  have:k=lo:=h
  simp[this]
 |e::r,k,lo,⟨_,h2,_,h4⟩=>by
  have:=iA.len h4
  rw[List.length_cons]
  lia
theorem iA.snoc{blt:Keyed->Keyed->Bool}{xs:Array Keyed}{n:Nat}(hn:1<=n):∀{l:List (Nat×Nat)}{k lo:Nat},iA blt xs k l lo->gH blt xs lo n->iA blt xs k (l++[(lo,n)]) (lo+n)
 |[],k,lo,h,a=>by
  have e:k=lo:=h
  subst e
  exact⟨rfl,hn,a,rfl⟩
 |e::r,k,lo,⟨h1,h2,h3,h4⟩,a=>⟨h1,h2,h3,iA.snoc hn h4 a⟩
theorem iA.beyond{blt:Keyed->Keyed->Bool}{xs ys:Array Keyed}{a b:Nat}(kp:bW xs ys a b):∀{l:List (Nat×Nat)}{k lo:Nat},iA blt xs k l lo->lo<=a->iA blt ys k l lo
 |[],k,lo,h,_=>h
 |e::r,k,lo,⟨h1,h2,h3,h4⟩,ha=>by
  have:=iA.len h4
  exact⟨h1,h2,h3.lD kp (.inl LI),iA.beyond kp h4 ha⟩
theorem iA.behind{blt:Keyed->Keyed->Bool}{xs ys:Array Keyed}{a b:Nat}(kp:bW xs ys a b):∀{l:List (Nat×Nat)}{k lo:Nat},iA blt xs k l lo->b<=k->iA blt ys k l lo
 |[],k,lo,h,_=>h
 |e::r,k,lo,⟨h1,h2,h3,h4⟩,ha=>⟨h1,h2,h3.lD kp (.inr ha),iA.behind kp h4 LI⟩
theorem iA.two{blt:Keyed->Keyed->Bool}{xs:Array Keyed}{a b:Nat×Nat}{l2:List (Nat×Nat)}:∀{l1:List (Nat×Nat)}{k lo:Nat},iA blt xs k (l1++a::b::l2) lo->
  b.1=a.1+a.2/\1<=a.2/\1<=b.2/\gH blt xs a.1 a.2/\gH blt xs b.1 b.2/\a.1+a.2+b.2<=lo/\
  ∀ys,bW xs ys a.1 (a.1+a.2+b.2)->gH blt ys a.1 (a.2+b.2)->iA blt ys k (l1++(a.1,a.2+b.2)::l2) lo
 |[],k,lo,⟨h1,h2,h3,h4,h5,h6,h7⟩=>by
  have hl:=iA.len h7
  subst h1
  refine⟨h4,h2,h5,h3,by rw[h4];exact h6,by lia,λys kp as=>⟨rfl,by simp only;lia,as,?_⟩⟩
  have e:a.1+(a.2+b.2)=a.1+a.2+b.2:=by lia
  show iA blt ys (a.1+(a.2+b.2)) l2 lo
  rw[e]
  exact h7.behind kp (Nat.le_refl _)
 |e::r,k,lo,⟨h1,h2,h3,h4⟩=>by
  obtain⟨g1,g2,g3,g4,g5,g6,g7⟩:=iA.two (l1:=r) h4
  refine⟨g1,g2,g3,g4,g5,g6,λys kp as=>⟨h1,h2,h3.lD kp (.inl ?_),g7 ys kp as⟩⟩
  have:∀{r:List (Nat×Nat)}{k lo:Nat},iA blt xs k (r++a::b::l2) lo->k<=a.1:=by
   intro r
   induction r with
   |nil=>intro k lo h;exact Nat.le_of_eq h.1.symm
   |cons x r ih=>intro k lo h;have:=ih h.2.2.2;lia
  exact this h4
theorem HC{p:Array (Nat×Nat×Nat)}{i:Nat}(h:i+1<p.size):∃l1 a b l2,p.toList=l1++a::b::l2/\l1.length=i/\p[i]? = some a/\p[i+1]? = some b:=by
 refine⟨p.toList.take i,p[i],p[i+1],p.toList.drop (i+2),?_,by rw[List.length_take,Array.length_toList];lia,by rw[Array.getElem?_eq_getElem],by rw[Array.getElem?_eq_getElem]⟩
 have e1:p.toList.drop i=p[i]::p.toList.drop (i+1):=by
  rw[List.drop_eq_getElem_cons (by simp;lia)]
  simp
 have e2:p.toList.drop (i+1)=p[i+1]::p.toList.drop (i+2):=by
  rw[List.drop_eq_getElem_cons (by simp;lia)]
  simp
 rw[←e2,←e1,List.take_append_drop]
theorem qu{p:Array (Nat×Nat×Nat)}{i:Nat}{l1 l2:List (Nat×Nat×Nat)}{a b e:Nat×Nat×Nat}(h:p.toList=l1++a::b::l2)(hl:l1.length=i):((p.setIfInBounds i e).eraseIdxIfInBounds (i+1)).toList=l1++e::l2:=by
 obtain⟨p⟩:=p
 have h':p=l1++a::b::l2:=h
 subst h' hl
 simp[List.eraseIdx_append_of_length_le]
theorem qt{p:Array (Nat×Nat×Nat)}{i:Nat}{f:Nat×Nat×Nat->Nat×Nat×Nat}(hf:∀x,pS (f x)=pS x):(p.modify i f).toList.map pS=p.toList.map pS:=by
 apply List.ext_getElem?
 intro k
 rw[List.getElem?_map,List.getElem?_map]
 have e:(p.modify i f).toList[k]? = (p.modify i f)[k]? :=Array.getElem?_toList
 have e2:p.toList[k]? = p[k]? :=Array.getElem?_toList
 rw[e,e2,Array.getElem?_modify]
 split
 ·cases p[k]? with
  |none=>rfl
  |some x=>simp[hf]
 ·rfl
section
variable {prog:Program} {w:World} {A:Around} {E:Value->Shared->Prop} {s:Shared} {κ:SortKind} {S:Keyed->Prop} {blt:Keyed->Keyed->Bool}
theorem wc(O:Ord S blt)(C:zp prog w A E s κ S blt){st:SortSt}{i lo:Nat}{Q:Bool->SortSt->Prop}(hk:kindOf st=κ)(hf:failedOf st=none)(hS:iF S (arrOf st))(hi:i+1<(pendingOf st).size)(hz:lo<=(arrOf st).size)(cv:iA blt (arrOf st) 0 ((pendingOf st).toList.map pS) lo)
  (hq:∀ys P g,bW (arrOf st) ys 0 lo->iA blt ys 0 (P.toList.map pS) lo->P.size+1=(pendingOf st).size->Q true (fT st ys P g)):wpS (model prog w) A E s (mergeAt' i) Q st:=by
 obtain⟨l1,a,b,l2,e,hl,ea,eb⟩:=HC hi
 rw[e,List.map_append,List.map_cons,List.map_cons]at cv
 obtain⟨g1,g2,g3,g4,g5,g6,g7⟩:=cv.two
 obtain⟨sa,na,pw⟩:=a
 obtain⟨sb,nb,Xe⟩:=b
 simp only[pS]at g1 g2 g3 g4 g5 g6 g7
 subst g1
 refine zw O C hk hf hS ea eb g2 g3 LI g4 g5 λys g kp as=>?_
 refine hq ys _ g (kp.mono (Nat.zero_le _) LI) ?_ ?_
 ·rw[qu e hl,List.map_append,List.map_cons]
  exact g7 ys kp as
 ·have h1:=congrArg List.length (qu (e:=(sa,na+nb,pw)) e hl)
  have h2:=congrArg List.length e
  simp only[List.length_append,List.length_cons,Array.length_toList]at h1 h2
  lia
theorem v_(O:Ord S blt)(C:zp prog w A E s κ S blt){st:SortSt}{Q:Unit->SortSt->Prop}(hk:kindOf st=κ)(hf:failedOf st=none)(hp:pendingOf st= #[])(hS:iF S (arrOf st))
  (hq:∀ys P g,bW (arrOf st) ys 0 (arrOf st).size->gH blt ys 0 (arrOf st).size->Q () (fT st ys P g)):wpS (model prog w) A E s sortRuns' Q st:=by
 refine wpS_bind (wpS_get ?_)
 refine wpS_bind (wpS_mono (Q:=λ(c:Option Unit×Nat) st'=>∃ys P g,st'=fT st ys P g/\c.1=none/\bW (arrOf st) ys 0 (arrOf st).size/\iA blt ys 0 (P.toList.map pS) (arrOf st).size)
  (wpS_forRange (λi (c:Option Unit×Nat) st'=>∃ys P g,st'=fT st ys P g/\c.1=none/\i<=c.2/\c.2<=(arrOf st).size/\bW (arrOf st) ys 0 (arrOf st).size/\iA blt ys 0 (P.toList.map pS) c.2) ?_ ?_ ⟨arrOf st,pendingOf st,gallopOf st,rfl,rfl,Nat.le_refl _,Nat.zero_le _,bW.refl _ _ _,by rw[hp];rfl⟩) ?_)
 ·rintro i ⟨r,lo⟩ st' _ hi ⟨ys,P,g,rfl,rfl,h1,h2,ky,cv⟩
  simp only at h1 h2 cv
  have hi:i<(arrOf st).size:=hi
  refine w_ite (λc1=>?_) (λc1=>?_)
  ·have e:lo=(arrOf st).size:=by
    have:lo≥(arrOf st).size:=c1
    lia
   subst e
   exact wpS_pure ⟨ys,P,g,rfl,rfl,ky,cv⟩
  have hlo:lo<(arrOf st).size:=Nat.lt_of_not_le c1
  have sy:=ky.size
  refine wpS_bind (we O C (st:=fT st ys P g) hk (hS.keep ky) (show lo+((arrOf st).size-lo)<=ys.size by lia) LI λn Fb n1 n2 SH as=>?_)
  have n2:n<=(arrOf st).size-lo:=n2
  have el:lo+((arrOf st).size-lo)=(arrOf st).size:=by lia
  change bW ys Fb lo (lo+((arrOf st).size-lo))at SH
  rw[el]at SH
  have YQ:=cv.beyond SH (Nat.le_refl _)
  have SG:=ky.trans (SH.mono (Nat.zero_le _) (Nat.le_refl _))
  have sy2:=SG.size
  refine w_ite (λc2=>?_) (λc2=>?_)
  ·refine wpS_bind (lV ?_)
   have hmin:n<=min ((arrOf st).size-lo) (minRun' (arrOf st).size (arrOf st).size 0):=by
    have:n<minRun' (arrOf st).size (arrOf st).size 0:=c2
    lia
   refine wpS_bind (Bv O C (st:=fT st Fb P g) (n:=min ((arrOf st).size-lo) (minRun' (arrOf st).size (arrOf st).size 0)) hk (hS.keep SG) (show lo+min ((arrOf st).size-lo) (minRun' (arrOf st).size (arrOf st).size 0)<=Fb.size by lia) n1 hmin as λBe Vh RQ=>?_)
   change bW Fb Be lo _ at Vh
   have Pw:=SG.trans (Vh.mono (Nat.zero_le _) (show lo+min ((arrOf st).size-lo) (minRun' (arrOf st).size (arrOf st).size 0)<=(arrOf st).size by lia))
   have RH:=YQ.beyond Vh (Nat.le_refl _)
   refine w_ite (λz=>by cases z) (λ_=>?_)
   have OQ:1<=min ((arrOf st).size-lo) (minRun' (arrOf st).size (arrOf st).size 0):=by lia
   show wpS _ _ _ _ _ _ (fT st Be P g)
   refine wpS_bind (wpS_get ?_)
   split
   ·rename_i s1 n1 UD _
    dsimp only
    refine wpS_bind (wpS_mono (Q:=λ(c:Option Unit×Unit) st'=>∃zs P2 g2,st'=fT st zs P2 g2/\c.1=none/\bW (arrOf st) zs 0 (arrOf st).size/\iA blt zs 0 (P2.toList.map pS) lo/\gH blt zs lo (min ((arrOf st).size-lo) (minRun' (arrOf st).size (arrOf st).size 0)))
     (wpS_forRange (λ_ (c:Option Unit×Unit) st'=>∃zs P2 g2,st'=fT st zs P2 g2/\c.1=none/\bW (arrOf st) zs 0 (arrOf st).size/\iA blt zs 0 (P2.toList.map pS) lo/\gH blt zs lo (min ((arrOf st).size-lo) (minRun' (arrOf st).size (arrOf st).size 0))) ?_ (λc st' h=>h) ⟨Be,P,g,rfl,rfl,Pw,RH,RQ⟩) ?_)
    ·rintro j ⟨r,u⟩ st' _ hj ⟨zs,P2,g2,rfl,rfl,kz,cz,az⟩
     refine wpS_bind (wpS_get ?_)
     dsimp only
     by_cases c2:P2.size>1
     ·rw[if_pos c2]
      obtain⟨⟨y1,y2,older⟩,ey⟩:∃y,P2[P2.size-2]? = some y:=⟨P2[P2.size-2],by rw[Array.getElem?_eq_getElem]⟩
      rw[ey]
      dsimp only
      refine w_ite (λ_=>?_) (λ_=>?_)
      ·exact wpS_pure ⟨zs,P2,g2,rfl,rfl,kz,cz,az⟩
      refine wpS_bind (wc O C (st:=fT st zs P2 g2) (lo:=lo) hk hf (hS.keep kz) (show P2.size-2+1<P2.size by lia) (show lo<=zs.size by rw[kz.size];lia) cz λus P3 g3 ku cu su=>?_)
      refine w_ite (λz=>by cases z) (λ_=>?_)
      exact wpS_pure ⟨us,P3,g3,rfl,rfl,kz.trans (ku.mono (Nat.le_refl _) (show lo<=(arrOf st).size by lia)),cu,az.lD ku (.inr (Nat.le_refl _))⟩
     ·rw[if_neg c2]
      exact wpS_pure ⟨zs,P2,g2,rfl,rfl,kz,cz,az⟩
    rintro⟨r,u⟩ st' ⟨zs,P2,g2,rfl,e,kz,cz,az⟩
    simp only at e
    subst e
    dsimp only
    refine wpS_bind (wpS_modify ?_)
    have Wv:∀f:Nat×Nat×Nat->Nat×Nat×Nat,(∀x,pS (f x)=pS x)->iA blt zs 0 ((P2.modify (P2.size-1) f).toList.map pS) lo:=λf hf=>by
     rw[qt hf]
     exact cz
    refine wpS_bind (wpS_modify ?_)
    refine wpS_pure ⟨zs,_,g2,rfl,rfl,(show i+1<=lo+(min ((arrOf st).size-lo) (minRun' (arrOf st).size (arrOf st).size 0)) by lia),(show lo+(min ((arrOf st).size-lo) (minRun' (arrOf st).size (arrOf st).size 0))<=(arrOf st).size by lia),kz,?_⟩
    rw[Array.toList_push,List.map_append]
    refine iA.snoc OQ (Wv _ ?_) az
    exact λ_=>rfl
   ·refine wpS_bind (wpS_modify ?_)
    refine wpS_pure ⟨Be,_,g,rfl,rfl,(show i+1<=lo+(min ((arrOf st).size-lo) (minRun' (arrOf st).size (arrOf st).size 0)) by lia),(show lo+(min ((arrOf st).size-lo) (minRun' (arrOf st).size (arrOf st).size 0))<=(arrOf st).size by lia),Pw,?_⟩
    rw[Array.toList_push,List.map_append]
    exact RH.snoc OQ RQ
  ·skip
   obtain⟨Be,hxs⟩:∃Be,Be=Fb:=⟨_,rfl⟩
   obtain⟨n3,Ym⟩:∃n3,n3=n:=⟨_,rfl⟩
   have Pw:bW (arrOf st) Be 0 (arrOf st).size:=by rw[hxs];exact SG
   have RH:iA blt Be 0 (P.toList.map pS) lo:=by rw[hxs];exact YQ
   have RQ:gH blt Be lo n3:=by rw[hxs,Ym];exact as
   have OQ:1<=n3:=by lia
   have n32:lo+n3<=(arrOf st).size:=by lia
   show wpS _ _ _ _ _ _ (fT st Fb P g)
   rw[←hxs,←Ym]
   refine wpS_bind (wpS_get ?_)
   split
   ·rename_i s1 n1 UD _
    dsimp only
    refine wpS_bind (wpS_mono (Q:=λ(c:Option Unit×Unit) st'=>∃zs P2 g2,st'=fT st zs P2 g2/\c.1=none/\bW (arrOf st) zs 0 (arrOf st).size/\iA blt zs 0 (P2.toList.map pS) lo/\gH blt zs lo n3)
     (wpS_forRange (λ_ (c:Option Unit×Unit) st'=>∃zs P2 g2,st'=fT st zs P2 g2/\c.1=none/\bW (arrOf st) zs 0 (arrOf st).size/\iA blt zs 0 (P2.toList.map pS) lo/\gH blt zs lo n3) ?_ (λc st' h=>h) ⟨Be,P,g,rfl,rfl,Pw,RH,RQ⟩) ?_)
    ·rintro j ⟨r,u⟩ st' _ hj ⟨zs,P2,g2,rfl,rfl,kz,cz,az⟩
     refine wpS_bind (wpS_get ?_)
     dsimp only
     by_cases c2:P2.size>1
     ·rw[if_pos c2]
      obtain⟨⟨y1,y2,older⟩,ey⟩:∃y,P2[P2.size-2]? = some y:=⟨P2[P2.size-2],by rw[Array.getElem?_eq_getElem]⟩
      rw[ey]
      dsimp only
      refine w_ite (λ_=>?_) (λ_=>?_)
      ·exact wpS_pure ⟨zs,P2,g2,rfl,rfl,kz,cz,az⟩
      refine wpS_bind (wc O C (st:=fT st zs P2 g2) (lo:=lo) hk hf (hS.keep kz) (show P2.size-2+1<P2.size by lia) (show lo<=zs.size by rw[kz.size];lia) cz λus P3 g3 ku cu su=>?_)
      refine w_ite (λz=>by cases z) (λ_=>?_)
      exact wpS_pure ⟨us,P3,g3,rfl,rfl,kz.trans (ku.mono (Nat.le_refl _) (show lo<=(arrOf st).size by lia)),cu,az.lD ku (.inr (Nat.le_refl _))⟩
     ·rw[if_neg c2]
      exact wpS_pure ⟨zs,P2,g2,rfl,rfl,kz,cz,az⟩
    rintro⟨r,u⟩ st' ⟨zs,P2,g2,rfl,e,kz,cz,az⟩
    simp only at e
    subst e
    dsimp only
    refine wpS_bind (wpS_modify ?_)
    have Wv:∀f:Nat×Nat×Nat->Nat×Nat×Nat,(∀x,pS (f x)=pS x)->iA blt zs 0 ((P2.modify (P2.size-1) f).toList.map pS) lo:=λf hf=>by
     rw[qt hf]
     exact cz
    refine wpS_bind (wpS_modify ?_)
    refine wpS_pure ⟨zs,_,g2,rfl,rfl,(show i+1<=lo+n3 by lia),(show lo+n3<=(arrOf st).size by lia),kz,?_⟩
    rw[Array.toList_push,List.map_append]
    refine iA.snoc OQ (Wv _ ?_) az
    exact λ_=>rfl
   ·refine wpS_bind (wpS_modify ?_)
    refine wpS_pure ⟨Be,_,g,rfl,rfl,(show i+1<=lo+n3 by lia),(show lo+n3<=(arrOf st).size by lia),Pw,?_⟩
    rw[Array.toList_push,List.map_append]
    exact RH.snoc OQ RQ
 ·rintro⟨r,lo⟩ st' ⟨ys,P,g,rfl,rfl,h1,h2,ky,cv⟩
  simp only at h2 cv
  have h1:max 0 (arrOf st).size<=lo:=h1
  have e:lo=(arrOf st).size:=by lia
  subst e
  exact⟨ys,P,g,rfl,rfl,ky,cv⟩
 ·rintro⟨r,lo⟩ st' ⟨ys,P,g,rfl,e,ky,cv⟩
  simp only at e
  subst e
  have hlen:=cv.len
  rw[List.length_map,Array.length_toList]at hlen
  refine wpS_bind (wpS_mono (Q:=λ(c:Option Unit×Unit) st'=>∃ys P g,st'=fT st ys P g/\c.1=none/\bW (arrOf st) ys 0 (arrOf st).size/\iA blt ys 0 (P.toList.map pS) (arrOf st).size/\P.size<=1)
   (wpS_forRange (λi (c:Option Unit×Unit) st'=>∃ys P g,st'=fT st ys P g/\c.1=none/\bW (arrOf st) ys 0 (arrOf st).size/\iA blt ys 0 (P.toList.map pS) (arrOf st).size/\P.size+i<=(arrOf st).size) ?_ ?_ ⟨ys,P,g,rfl,rfl,ky,cv,by lia⟩) ?_)
  ·rintro i ⟨r,u⟩ st' _ hi ⟨ys,P,g,rfl,rfl,ky,cv,hs⟩
   have hi:i<(arrOf st).size:=hi
   refine wpS_bind (wpS_get ?_)
   refine w_ite (λc1=>?_) (λc1=>?_)
   ·exact wpS_pure ⟨ys,P,g,rfl,rfl,ky,cv,c1⟩
   have c1':2<=P.size:=by
    have:¬P.size<=1:=c1
    lia
   refine wpS_bind (wc O C (st:=fT st ys P g) (lo:=(arrOf st).size) hk hf (hS.keep ky) ?_ (Nat.le_of_eq ky.size.symm) cv λzs P2 g2 kz cz sz=>?_)
   ·have key:∀(o:Option Bool),(if o=some true then P.size-2-1 else P.size-2)+1<P.size:=λo=>by split<;>lia
    have Vl:∀(c:Bool),(if c=true then P.size-2-1 else P.size-2)+1<P.size:=λc=>by split<;>lia
    exact Vl _
   ·change P2.size+1=P.size at sz
    refine w_ite (λz=>by cases z) (λ_=>?_)
    exact wpS_pure ⟨zs,P2,g2,rfl,rfl,ky.trans kz,cz,by lia⟩
  ·rintro⟨r,u⟩ st' ⟨ys,P,g,rfl,rfl,ky,cv,hs⟩
   have hs:P.size+max 0 (arrOf st).size<=(arrOf st).size:=hs
   exact⟨ys,P,g,rfl,rfl,ky,cv,by lia⟩
  ·rintro⟨r,u⟩ st' ⟨ys,P,g,rfl,e,ky,cv,hs⟩
   simp only at e
   subst e
   refine wpS_pure (hq ys P g ky ?_)
   cases hP:P.toList with
   |nil=>
    rw[hP]at cv
    have e:0=(arrOf st).size:=cv
    rw[←e]
    exact λi j _ hj=>absurd hj (Nat.not_lt_zero _)
   |cons a r=>
    have hr:r=[]:=by
     have:=congrArg List.length hP
     rw[Array.length_toList,List.length_cons]at this
     exact List.length_eq_zero_iff.mp LI
    subst hr
    rw[hP]at cv
    obtain⟨_,_,h3,h4⟩:=cv
    have e:0+(pS a).2=(arrOf st).size:=h4
    rw[←e,Nat.zero_add]
    exact h3
end
def MX:Nat:=10000001
section
variable {prog:Program} {w:World} {A:Around} {E:Value->Shared->Prop} {s:Shared} {κ:SortKind} {S:Keyed->Prop} {blt:Keyed->Keyed->Bool}
theorem um(O:Ord S blt)(C:zp prog w A E s κ S blt){st:SortSt}{Q:Unit->SortSt->Prop}(hk:kindOf st=κ)(hf:failedOf st=none)(hp:pendingOf st= #[])(hS:iF S (arrOf st))(_:1<=(arrOf st).size/\(arrOf st).size<MX)
  (hq:∀ys P g,bW (arrOf st) ys 0 (arrOf st).size->gH blt ys 0 (arrOf st).size->Q () (fT st ys P g)):wpS (model prog w) A E s sortRuns' Q st:=v_ O C hk hf hp hS hq
end
def Fits(n:Nat):Prop:=n<=10000000/\n<MX
def Kept(h h':Heap)(a:Addr):Prop:=∀b o,b≠a->h.get? b=some o->h'.get? b=some o
section
variable {prog:Program} {w:World} {A:Around} {E:Value->Shared->Prop} {s:Shared} {κ:SortKind} {S:Keyed->Prop} {blt:Keyed->Keyed->Bool}
theorem Er(h:∀(x y:Keyed)(Q:Bool->Shared->Prop),S x->S y->Q (blt x y) s->wpAny (model prog w) A (keyLt' κ x.1 y.1) Q (λ_ _=>False) s):zp prog w A E s κ S blt:=λx y st Q sx sy hk hq=>by
 rw[lt'_eq];refine wpS_bind (wpS_get ?_);rw[hk]
 exact wpS_bind (wpS_lift (wpAny_attempt (wpAny_mono (h x y (λb s'=>b=blt x y/\s'=s) sx sy ⟨rfl,rfl⟩) (λb s' e=>by obtain⟨rfl,rfl⟩:=e;exact⟨rfl,wpS_pure hq⟩) λ_ _ f=>f.elim)))
theorem Oq{ys:Array Keyed}{n:Nat}(hn:ys.size=n)(h:gH blt ys 0 n):ys.toList.Pairwise λx y=>blt y x=false:=by
 rw[List.pairwise_iff_getElem];intro i j hi hj hij
 have hi':i<ys.size:=by simpa using hi
 have hj':j<ys.size:=by simpa using hj
 refine h i j (Nat.le_of_lt hij) LI _ _ ?_ ?_<;>simp[hi',hj']
theorem HP(O:Ord S blt){ps:List Keyed}{Q:SortSt->Shared->Prop}(C:zp prog w A E s κ S blt)(hS:∀p∈ps,S p)(hx:1<=ps.length/\ps.length<MX)
  (hq:∀(out:List Keyed)(st:SortSt),arrOf st=out.toArray->failedOf st=none->out.Perm ps->out.Pairwise (λx y=>blt y x=false)->Q st s):
  wpAny (model prog w) A ((sortRuns').run (SortSt.mk' κ ps.toArray #[] 7 none)) (λr s'=>Q r.2 s') E s:=by
 have key:wpS (model prog w) A E s sortRuns' (λ_ st=>Q st s) (SortSt.mk' κ ps.toArray #[] 7 none):=by
  refine um O C rfl rfl rfl (λp hp=>hS p (by simpa using hp)) (by show 1<=ps.toArray.size/\ps.toArray.size<MX;rw[List.size_toArray];exact hx) λys P g kp as=>?_
  refine hq ys.toList _ (by simp[fT]) rfl ?_ (Oq kp.size as)
  have:=kp.perm.toList
  simpa using this
 exact wpAny_mono key (λr s' e=>by obtain⟨rfl,e⟩:=e;exact e) λ_ _ e=>e
theorem Gr{vs:List Value}{out:List Keyed}(hp:out.Perm (vs.zip vs))(hw:out.Pairwise λx y=>blt y x=false):(out.map (·.2)).Perm vs/\(out.map (·.2)).Pairwise λx y=>blt (y,y) (x,x)=false:=by
 have e2:(vs.zip vs).map (·.2)=vs:=List.map_snd_zip (Nat.le_refl _)
 refine⟨by have:=hp.map (·.2);rwa [e2]at this,?_⟩
 rw[List.pairwise_map]
 refine hw.imp_of_mem λ{x y} hx hy h=>?_
 have dx:=mem_zip_self (hp.mem_iff.mp hx)
 have dy:=mem_zip_self (hp.mem_iff.mp hy)
 have ex:x=(x.2,x.2):=Prod.ext dx.1 rfl
 have ey:y=(y.2,y.2):=Prod.ext dy.1 rfl
 rw[ex,ey]at h;exact h
theorem pJ(O:Ord S blt){a:Addr}{vs:List Value}{n:Nat}{P:PySem.Fin->Shared->Prop}(ho:s.heap.get? a=some (seqObj "list" vs.toArray n))(Bj:Fits vs.length)(hS:∀v∈vs,S (v,v))
  (hk:2<=vs.length->∀h',Kept s.heap h' a->∀Q:SortKind->Shared->Prop,Q κ {s with heap:=h'}->wpAny (model prog w) A (keyKind' vs.toArray) Q (λ_ _=>False) {s with heap:=h'})
  (hc:2<=vs.length->∀h',Kept s.heap h' a->∀(x y:Keyed)(Q:Bool->Shared->Prop),S x->S y->Q (blt x y) {s with heap:=h'}->wpAny (model prog w) A (keyLt' κ x.1 y.1) Q (λ_ _=>False) {s with heap:=h'})
  (h:∀out:List Value,out.Perm vs->out.Pairwise (λx y=>blt (y,y) (x,x)=false)->P (.done (.ret .none)) {s with heap:=sortedHeap s.heap a vs out.toArray}):
  wpAny (model prog w) A (Builtin.«list.sort» ⟨[.ref a],[]⟩) P E s:=by
 obtain⟨hz,hx⟩:=Bj
 have hl:vs.toArray.size<=sizeLine:=by rw[sizeLine_eq,List.size_toArray];lia
 have ha:=Heap.lt_size ho
 obtain⟨e1,Jt⟩:∃e1,(s.heap.update a (Obj.mapSeq λ_=>(#[]:Array Value))).get? a=some (seqObj "list" #[] e1):=⟨_,get?_update_seq ho λ_=> #[]⟩
 rw[list_sort_plain];refine wpAny_bind (listItems_at ho rfl (wpAny_bind (listUpdate_at ho rfl ?_ hl (Nat.zero_le _))))
 refine wpAny_bind (seqEpoch_at Jt rfl (wpAny_bind (wpAny_newTuple ?_ (by show vs.length<=_;simpa using hl))))
 refine wpAny_bind (wpAny_newList (wpAny_holding ?_) (Nat.zero_le _))
 show wpAny (model prog w) A _ P E {s with heap:=((s.heap.update a (Obj.mapSeq λ_=>(#[]:Array Value))).push (seqObj "tuple" vs.toArray 0)).push (seqObj "list" #[] 0)}
 have ho6:(((s.heap.update a (Obj.mapSeq λ_=>(#[]:Array Value))).push (seqObj "tuple" vs.toArray 0)).push (seqObj "list" #[] 0)).get? a=some (seqObj "list" #[] e1):=Heap.get?_push_of_some _ (Heap.get?_push_of_some _ Jt)
 have kp:Kept s.heap (((s.heap.update a (Obj.mapSeq λ_=>(#[]:Array Value))).push (seqObj "tuple" vs.toArray 0)).push (seqObj "list" #[] 0)) a:=λb o hb e=>Heap.get?_push_of_some _ (Heap.get?_push_of_some _ (by rw[Heap.get?_update_ne _ _ _ _ hb];exact e))
 dsimp only
 have ez:vs.toArray.zip vs.toArray=(vs.zip vs).toArray:=by simp
 by_cases h2:vs.toArray.size<2
 ·rw[if_pos h2,if_pos h2];refine wpAny_bind (wpAny_pure ?_)
  rw[StateT.run_pure];refine wpAny_bind (wpAny_pure ?_);dsimp only
  refine wpAny_bind (seqEpoch_at ho6 rfl (wpAny_bind (listUpdate_at ho6 rfl ?_ (Nat.zero_le _) (hsz2:=by show((vs.toArray.zip vs.toArray).map (·.2)).size<=_;rw[sizeLine_eq];simp;simp at h2;lia))))
  simp only[bne_self_eq_false,Bool.false_eq_true,if_false]
  have hw:vs.Pairwise λx y=>blt (y,y) (x,x)=false:=by
   match vs,h2 with
   |[],_=>exact .nil
   |[_],_=>exact List.pairwise_singleton _ _
   |_::_::_,h2=>simp at h2;lia
  have fin:=h vs (List.Perm.refl _) hw
  have eo:(vs.toArray.zip vs.toArray).map (·.2)=vs.toArray:=by rw[ez,List.map_toArray,List.map_snd_zip (Nat.le_refl _)]
  refine wpAny_pure ?_
  rw[←eo]at fin;exact fin
 ·have h2':2<=vs.length:=by simpa using h2
  rw[if_neg h2,if_neg h2];refine wpAny_bind (wpAny_mono (hk h2' _ kp (λk s'=>k=κ/\s'=_) ⟨rfl,rfl⟩) ?_ λ_ _ f=>f.elim)
  rintro k s' ⟨rfl,rfl⟩
  rw[ez];refine wpAny_bind (wpAny_mono (HP (E:=E) (Q:=λst s'=>s'=_/\failedOf st=none/\∃out:List Keyed,arrOf st=out.toArray/\out.Perm (vs.zip vs)/\out.Pairwise (λx y=>blt y x=false)) O (Er (hc h2' _ kp)) (λp hp=>?_) (by rw[List.length_zip,Nat.min_self];exact⟨by lia,hx⟩) λout st a1 a2 a3 a4=>⟨rfl,a2,out,a1,a3,a4⟩) ?_ λ_ _ e=>e)
  ·have:=mem_zip_self hp
   have e:p=(p.1,p.1):=Prod.ext rfl this.1.symm
   rw[e];exact hS _ this.2
  rintro⟨⟨⟩,st⟩ s' ⟨rfl,hf,out,ea,hp,hw⟩
  have⟨p1,p2⟩:=Gr hp hw
  have eo:(arrOf st).map (·.2)=(out.map (·.2)).toArray:=by rw[ea,List.map_toArray]
  have lo:(out.map (·.2)).length=vs.length:=p1.length_eq
  dsimp only;refine wpAny_bind (seqEpoch_at ho6 rfl (wpAny_bind (listUpdate_at ho6 rfl ?_ (Nat.zero_le _) (hsz2:=by rw[eo,sizeLine_eq,List.size_toArray,lo];lia))))
  rw[hf];simp only[bne_self_eq_false,Bool.false_eq_true,if_false]
  refine wpAny_pure ?_
  have fin:=h _ p1 p2
  rw[←eo]at fin;exact fin
theorem Bu(O:Ord S blt){l:Addr}{vs:List Value}{Q:Value->Shared->Prop}(hl:s.heap.IsList l vs.toArray)(Bj:Fits vs.length)(hS:∀v∈vs,S (v,v))
  (hk:2<=vs.length->∀h':Heap,(∀b o,s.heap.get? b=some o->h'.get? b=some o)->∀Q:SortKind->Shared->Prop,Q κ {s with heap:=h'}->wpAny (model prog w) A.in1.in1 (keyKind' vs.toArray) Q (λ_ _=>False) {s with heap:=h'})
  (hc:2<=vs.length->∀h':Heap,(∀b o,s.heap.get? b=some o->h'.get? b=some o)->∀(x y:Keyed)(Q:Bool->Shared->Prop),S x->S y->Q (blt x y) {s with heap:=h'}->wpAny (model prog w) A.in1.in1 (keyLt' κ x.1 y.1) Q (λ_ _=>False) {s with heap:=h'})
  (h:∀out:List Value,out.Perm vs->out.Pairwise (λx y=>blt (y,y) (x,x)=false)->Q (.ref (s.heap.objs.size+1)) {s with heap:=sortedAll s.heap vs out.toArray}):
  wpAny (model prog w) A (call (.builtin "sorted") [.ref l]) Q E s:=by
 have oF:vs.length<=sizeLine:=by have:=Bj.1;rw[sizeLine_eq];lia
 refine Calls.call_function_entry kind_sorted plain_sorted entry_sorted (args_sorted1 _) ?_
 unfold Builtin.«sorted»;refine wpAny_bind (m:=checkCount "sorted" 1 1 _) (wpAny_pure (wpAny_bind (collect_list hl (wpAny_bind (wpAny_newList ?_ oF)) oF)))
 have sz:((s.heap.push (seqObj "list" #[] 0)).update s.heap.objs.size (Obj.mapSeq (· ++ vs.toArray))).objs.size=s.heap.objs.size+1:=by rw[Heap.size_update,size_push']
 have DN:(((s.heap.push (seqObj "list" #[] 0)).update s.heap.objs.size (Obj.mapSeq (· ++ vs.toArray))).push (seqObj "list" vs.toArray 0)).get? (s.heap.objs.size+1)=some (seqObj "list" vs.toArray 0):=by rw[←sz];exact Heap.get?_push_size _ rfl
 have keep:∀b o,s.heap.get? b=some o->b≠s.heap.objs.size+1/\(((s.heap.push (seqObj "list" #[] 0)).update s.heap.objs.size (Obj.mapSeq (· ++ vs.toArray))).push (seqObj "list" vs.toArray 0)).get? b=some o:=λb o q=>by
  have lt:b<s.heap.objs.size:=Heap.lt_size q
  refine⟨Nat.ne_of_lt (Nat.lt_succ_of_lt lt),Heap.get?_push_of_some _ ?_⟩
  rw[Heap.get?_update_ne _ _ _ _ (Nat.ne_of_lt lt)];exact Heap.get?_push_of_some _ q
 show wpAny _ _ _ _ _ {s with heap:=((s.heap.push (seqObj "list" #[] 0)).update s.heap.objs.size (Obj.mapSeq (· ++ vs.toArray))).push (seqObj "list" vs.toArray 0)}
 rw[sz];refine wpAny_bind (wpAny_holding (wpAny_call_entry slot_list_sort ⟨_,DN,rfl⟩ entry_list_sort ?body (args_list_sort _)))
 case body=>
  refine pJ O DN Bj hS (λh2 h' kp=>hk h2 h' λb o e=>kp b o (keep b o e).1 (keep b o e).2) (λh2 h' kp=>hc h2 h' λb o e=>kp b o (keep b o e).1 (keep b o e).2) λout p1 p2=>⟨_,rfl,wpAny_pure ⟨_,rfl,?_⟩⟩
  exact h out p1 p2
end
end TS
namespace L2
open PySem PySem.Spec PyProof.Rows
inductive Sh where
 |int|str|tup(l:List Sh)
mutual
def Dv.isA:Sh->Dv->Bool
 |.int,.int _=>true
 |.str,.str _=>true
 |.tup l,.tup r=>Dv.fX l r
 |_,_=>false
def Dv.fX:List Sh->List Dv->Bool
 |[],[]=>true
 |s::l,d::r=>Dv.isA s d&&Dv.fX l r
 |_,_=>false
end
mutual
def aK:Dv->Dv->Ordering
 |.int i,.int j=>if i=j then .eq else if i<j then .lt else .gt
 |.str x,.str y=>if x=y then .eq else if x.cps.toList<y.cps.toList then .lt else .gt
 |.tup l,.tup r=>bT l r
 |_,_=>.eq
def bT:List Dv->List Dv->Ordering
 |[],[]=>.eq
 |[],_::_=>.lt
 |_::_,[]=>.gt
 |d::l,e::r=>(aK d e).then (bT l r)
end
theorem cj{d:Dv}(h:Dv.isA .int d=true):∃i,d=.int i:=by
 cases d with
 |int i=>exact⟨i,rfl⟩
 |_=>simp[Dv.isA]at h
theorem cg{d:Dv}(h:Dv.isA .str d=true):∃i,d=.str i:=by
 cases d with
 |str i=>exact⟨i,rfl⟩
 |_=>simp[Dv.isA]at h
theorem cT{l:List Sh}{d:Dv}(h:Dv.isA (.tup l) d=true):∃r,d=.tup r/\Dv.fX l r=true:=by
 cases d with
 |tup r=>exact⟨r,rfl,by simpa [Dv.isA]using h⟩
 |_=>simp[Dv.isA]at h
theorem cS{r:List Dv}(h:Dv.fX [] r=true):r=[]:=by
 cases r with
 |nil=>rfl
 |cons _ _=>simp[Dv.fX]at h
theorem bx{s:Sh}{l:List Sh}{r:List Dv}(h:Dv.fX (s::l) r=true):∃d r',r=d::r'/\Dv.isA s d=true/\Dv.fX l r'=true:=by
 cases r with
 |nil=>simp[Dv.fX]at h
 |cons d r'=>
  simp only[Dv.fX,Bool.and_eq_true]at h
  exact⟨d,r',rfl,h⟩
theorem FA{x y:Str}(h:x.cps.toList=y.cps.toList):x=y:=by
 cases x;cases y
 simp only[Str.mk.injEq]
 exact Array.toList_inj.mp h
theorem ym{x y:Str}(h:x≠y)(h1:¬x.cps.toList<y.cps.toList):y.cps.toList<x.cps.toList:=by
 by_cases h2:y.cps.toList<x.cps.toList
 ·exact h2
 ·exact absurd (FA (List.le_antisymm (List.not_lt.mp h2) (List.not_lt.mp h1))) h
theorem FD{x y:Str}(h:x.cps.toList<y.cps.toList):¬y.cps.toList<x.cps.toList:=λh'=>List.lt_irrefl _ (List.lt_trans h h')
mutual
theorem iV:∀{sh:Sh}{d e:Dv},Dv.isA sh d=true->Dv.isA sh e=true->(aK d e=.eq↔d=e)
 |.int,d,e,hd,he=>by
  obtain⟨i,rfl⟩:=cj hd
  obtain⟨j,rfl⟩:=cj he
  simp only[aK,Dv.int.injEq]
  split
  ·simp[*]
  ·split<;>simp[*]
 |.str,d,e,hd,he=>by
  obtain⟨i,rfl⟩:=cg hd
  obtain⟨j,rfl⟩:=cg he
  simp only[aK,Dv.str.injEq]
  split
  ·simp[*]
  ·split<;>simp[*]
 |.tup l,d,e,hd,he=>by
  obtain⟨r,rfl,hr⟩:=cT hd
  obtain⟨q,rfl,hq⟩:=cT he
  simp only[aK,Dv.tup.injEq]
  exact zk hr hq
theorem zk:∀{l:List Sh}{r q:List Dv},Dv.fX l r=true->Dv.fX l q=true->(bT r q=.eq↔r=q)
 |[],r,q,hr,hq=>by
  rw[cS hr,cS hq]
  simp[bT]
 |s::l,r,q,hr,hq=>by
  obtain⟨d,r',rfl,h1,h2⟩:=bx hr
  obtain⟨e,q',rfl,h3,h4⟩:=bx hq
  have a:=iV h1 h3
  have b:=zk h2 h4
  simp only[bT,List.cons.injEq]
  cases hc:aK d e with
  |eq=>
   rw[hc]at a
   simp only[Ordering.then,true_iff]at a ⊢
   rw[b]
   simp[a]
  |lt=>
   rw[hc]at a
   simp only[Ordering.then,reduceCtorEq,false_iff]at a ⊢
   simp[a]
  |gt=>
   rw[hc]at a
   simp only[Ordering.then,reduceCtorEq,false_iff]at a ⊢
   simp[a]
end
mutual
theorem cmp_swap:∀{sh:Sh}{d e:Dv},Dv.isA sh d=true->Dv.isA sh e=true->aK e d=(aK d e).swap
 |.int,d,e,hd,he=>by
  obtain⟨i,rfl⟩:=cj hd
  obtain⟨j,rfl⟩:=cj he
  simp only[aK]
  by_cases h:i=j
  ·subst h;simp
  ·rw[if_neg h,if_neg (λz=>h z.symm)]
   by_cases h1:i<j
   ·rw[if_pos h1,if_neg LI];rfl
   ·rw[if_neg h1,if_pos LI];rfl
 |.str,d,e,hd,he=>by
  obtain⟨i,rfl⟩:=cg hd
  obtain⟨j,rfl⟩:=cg he
  simp only[aK]
  by_cases h:i=j
  ·subst h;simp
  ·rw[if_neg h,if_neg (λz=>h z.symm)]
   by_cases h1:i.cps.toList<j.cps.toList
   ·rw[if_pos h1,if_neg (FD h1)];rfl
   ·rw[if_neg h1,if_pos (ym h h1)];rfl
 |.tup l,d,e,hd,he=>by
  obtain⟨r,rfl,hr⟩:=cT hd
  obtain⟨q,rfl,hq⟩:=cT he
  simp only[aK]
  exact rP hr hq
theorem rP:∀{l:List Sh}{r q:List Dv},Dv.fX l r=true->Dv.fX l q=true->bT q r=(bT r q).swap
 |[],r,q,hr,hq=>by
  rw[cS hr,cS hq]
  rfl
 |s::l,r,q,hr,hq=>by
  obtain⟨d,r',rfl,h1,h2⟩:=bx hr
  obtain⟨e,q',rfl,h3,h4⟩:=bx hq
  simp only[bT]
  rw[cmp_swap h1 h3,rP h2 h4]
  cases aK d e<;>rfl
end
mutual
theorem Ep:∀{sh:Sh}{d e f:Dv},Dv.isA sh d=true->Dv.isA sh e=true->Dv.isA sh f=true->aK d e≠.gt->aK e f≠.gt->aK d f≠.gt
 |.int,d,e,f,hd,he,hf,h1,h2=>by
  obtain⟨i,rfl⟩:=cj hd
  obtain⟨j,rfl⟩:=cj he
  obtain⟨k,rfl⟩:=cj hf
  simp only[aK]at h1 h2 ⊢
  by_cases a:i=k
  ·simp[a]
  ·rw[if_neg a]
   by_cases b:i<k
   ·simp[b]
   ·exfalso
    have JH:i<=j:=by
     by_cases c:i<=j
     ·exact c
     ·rw[if_neg LI,if_neg LI]at h1;exact absurd rfl h1
    have h2':j<=k:=by
     by_cases c:j<=k
     ·exact c
     ·rw[if_neg LI,if_neg LI]at h2;exact absurd rfl h2
    lia
 |.str,d,e,f,hd,he,hf,h1,h2=>by
  obtain⟨i,rfl⟩:=cg hd
  obtain⟨j,rfl⟩:=cg he
  obtain⟨k,rfl⟩:=cg hf
  simp only[aK]at h1 h2 ⊢
  by_cases a:i=k
  ·simp[a]
  ·rw[if_neg a]
   by_cases b:i.cps.toList<k.cps.toList
   ·simp[b]
   ·exfalso
    have ki:=ym a b
    by_cases p:i=j
    ·subst p
     rw[if_neg a,if_neg b]at h2
     exact absurd rfl h2
    ·by_cases q:j=k
     ·subst q
      rw[if_neg p,if_neg b]at h1
      exact absurd rfl h1
     ·rw[if_neg p]at h1
      rw[if_neg q]at h2
      by_cases p1:i.cps.toList<j.cps.toList
      ·by_cases q1:j.cps.toList<k.cps.toList
       ·exact b (List.lt_trans p1 q1)
       ·rw[if_neg q1]at h2;exact absurd rfl h2
      ·rw[if_neg p1]at h1;exact absurd rfl h1
 |.tup l,d,e,f,hd,he,hf,h1,h2=>by
  obtain⟨r,rfl,hr⟩:=cT hd
  obtain⟨q,rfl,hq⟩:=cT he
  obtain⟨p,rfl,hp⟩:=cT hf
  simp only[aK]at h1 h2 ⊢
  exact zj hr hq hp h1 h2
theorem zj:∀{l:List Sh}{r q p:List Dv},Dv.fX l r=true->Dv.fX l q=true->Dv.fX l p=true->bT r q≠.gt->bT q p≠.gt->bT r p≠.gt
 |[],r,q,p,hr,hq,hp,_,_=>by
  rw[cS hr,cS hp]
  simp[bT]
 |s::l,r,q,p,hr,hq,hp,h1,h2=>by
  obtain⟨d,r',rfl,a1,a2⟩:=bx hr
  obtain⟨e,q',rfl,b1,b2⟩:=bx hq
  obtain⟨f,p',rfl,c1,c2⟩:=bx hp
  simp only[bT]at h1 h2 ⊢
  have n1:aK d e≠.gt:=λz=>by rw[z]at h1;exact h1 rfl
  have n2:aK e f≠.gt:=λz=>by rw[z]at h2;exact h2 rfl
  have n3:=Ep a1 b1 c1 n1 n2
  cases hc:aK d f with
  |lt=>simp[Ordering.then]
  |gt=>exact absurd hc n3
  |eq=>
   have e3:=(iV a1 c1).mp hc
   subst e3
   have e1:aK d e=.eq:=by
    have sw:=cmp_swap a1 b1
    cases hx:aK d e with
    |eq=>rfl
    |gt=>exact absurd hx n1
    |lt=>rw[hx]at sw;exact absurd sw n2
   have e2:=(iV a1 b1).mp e1
   subst e2
   rw[hc]at h1 h2
   simp only[Ordering.then]at h1 h2 ⊢
   exact zj a2 b2 c2 h1 h2
end
def HE(A:Around)(s:Shared)(y x:Value)(b:Bool):Prop:=
 ∀(prog:Program)(w:World)(E:Value->Shared->Prop)(Q:Value->Shared->Prop),Q (.bool b) s->wpAny (model prog w) A (richCompare .Lt y x) Q E s
inductive EZ(A:Around)(s:Shared):List Value->List Value->Bool->Prop
 |nn:EZ A s [] [] false
 |nc{y:Value}{ys:List Value}:EZ A s [] (y::ys) true
 |cn{x:Value}{xs:List Value}:EZ A s (x::xs) [] false
 |eq{x y:Value}{xs ys:List Value}{b:Bool}:SeqAt.EqAt A s x y true->EZ A s xs ys b->EZ A s (x::xs) (y::ys) b
 |ne{x y:Value}{xs ys:List Value}{b:Bool}:SeqAt.EqAt A s x y false->HE A s x y b->EZ A s (x::xs) (y::ys) b
end L2
namespace HT
open PySem PyProof.Rows
section
open PySem.SeqAt
open PySem.AutoSeq1 (wpAny_loadPart')
open PySem.MeetsSeq PySem.MeetsSeq2 PySem.MeetsSeq3
theorem rZ(l b:Addr)(items items2:Array Value)(n n2:Nat)(dd dd2:Option Addr)(sl sl2:Array (Option Value))(k:Bool):
  Meets (Builtin.«tuple.__lt__» ⟨[.ref l,.ref b],[]⟩)
   (λA R s=>L2.EZ A.in1 s items.toList items2.toList k/\s.heap.get? l=some {cls:=.type "tuple",dict:=dd,data:=.seq items n,slots:=sl}/\s.heap.get? b=some {cls:=.type "tuple",dict:=dd2,data:=.seq items2 n2,slots:=sl2}/\
    R (.ok (.ret (.bool k))) s):=.of_wp λprog w A R s h=>by
 obtain⟨hp,g,d,tk,os⟩:=s;obtain⟨hL,hl,hb,h⟩:=h
 have f2:=AutoSeq1.sub_tuple_tuple
 wp_walk using wpAny_loadPart' hl,wpAny_loadPart' hb,wpAny_forIn_list _ (λrest b s'=>b.1=none/\s'=⟨hp,g,d,tk,os⟩/\∃(vs ws:List Value),rest=vs.zip ws/\L2.EZ A.in1 ⟨hp,g,d,tk,os⟩ vs ws k/\vs.length+items2.size=ws.length+items.size) _
 case turn=>
  rintro⟨y,x⟩ rest b s' ⟨hb',rfl,vs,ws,hz,hv,hlen⟩
  cases hv with
  |nn=>rw[List.zip_nil_left]at hz;cases hz
  |nc=>rw[List.zip_nil_left]at hz;cases hz
  |cn=>rw[List.zip_nil_right]at hz;cases hz
  |eq he hr=>
   rw[List.zip_cons_cons]at hz;injection hz with hyx hrest;injection hyx with hy hx;subst hy hx
   simp only[List.length_cons]at hlen
   refine wpAny_bind (he prog w _ _ ?_);wp_walk;exact⟨rfl,rfl,_,_,hrest,hr,by lia⟩
  |ne he hr=>
   rw[List.zip_cons_cons]at hz;injection hz with hyx hrest;injection hyx with hy hx;subst hy hx
   refine wpAny_bind (he prog w _ _ ?_);have hri:=hr prog w;wp_walk using hri;exact⟨_,rfl,by simpa using h⟩
 case fin=>
  rintro⟨b1,b2⟩ s' ⟨hb',rfl,vs,ws,hz,hv,hlen⟩
  simp only at hb';subst hb'
  have hk:k=decide (items.size<items2.size):=by
   cases hv with
   |nn=>simp only[List.length_nil]at hlen;exact(decide_eq_false LI).symm
   |nc=>simp only[List.length_nil,List.length_cons]at hlen;exact(decide_eq_true LI).symm
   |cn=>simp only[List.length_nil,List.length_cons]at hlen;exact(decide_eq_false LI).symm
   |eq _ _=>rw[List.zip_cons_cons]at hz;cases hz
   |ne _ _=>rw[List.zip_cons_cons]at hz;cases hz
  rw[hk]at h;wp_walk;exact⟨_,rfl,by simpa [Builtin.Tuple.tupleCompareSizes]using h⟩
 case h=>exact⟨rfl,rfl,items.toList,items2.toList,rfl,hL,by simp only[Array.length_toList];lia⟩
end
theorem Ak{A:Around}{s:Shared}{l b:Addr}{items items2:Array Value}{k:Bool}(hl:IsTup s.heap l items)(hb:IsTup s.heap b items2)(hL:L2.EZ A.in1 s items.toList items2.toList k)(hu:A.units<cLine):L2.HE A s (.ref l) (.ref b) k:=λprog w E Q h=>by
 obtain⟨⟨cls,dd,data,sl⟩,ho,hc,n,hd⟩:=id hl
 obtain⟨⟨Ww,dd2,data2,sl2⟩,ho2,hc2,n2,hd2⟩:=id hb
 simp only at hc hd hc2 hd2;subst hc hd hc2 hd2
 exact richCompare_meets_room (op:=.Lt) ⟨_,ho,rfl⟩ ⟨_,ho2,rfl⟩ PySem.F.slot_tuple_lt PySem.F.entry_tuple_lt (PySem.F.args_tuple_lt_2 _ _) (rZ l b items items2 n n2 dd dd2 sl sl2 k) ⟨hL,ho,ho2,show Value.bool k≠Value.notImplemented/\Q (.bool k) s from⟨(λx=>nomatch x),h⟩⟩ hu
end HT
namespace L2
open PySem PySem.Spec PyProof.Rows
section
variable {X:Cx} {pins:List (Addr×Obj)} {σ:St} {H:Hp} {s:Shared}
mutual
theorem jd:∀{sh:Sh}{d e:Dv},Dv.isA sh d=true->Dv.isA sh e=true->gQ d e=true
 |.int,d,e,hd,he=>by
  obtain⟨i,rfl⟩:=cj hd
  obtain⟨j,rfl⟩:=cj he
  rfl
 |.str,d,e,hd,he=>by
  obtain⟨i,rfl⟩:=cg hd
  obtain⟨j,rfl⟩:=cg he
  rfl
 |.tup l,d,e,hd,he=>by
  obtain⟨r,rfl,hr⟩:=cT hd
  obtain⟨q,rfl,hq⟩:=cT he
  simp only[gQ]
  exact qv hr hq
theorem qv:∀{l:List Sh}{r q:List Dv},Dv.fX l r=true->Dv.fX l q=true->gF r q=true
 |[],r,q,hr,hq=>by rw[cS hr,cS hq];rfl
 |s::l,r,q,hr,hq=>by
  obtain⟨d,r',rfl,h1,h2⟩:=bx hr
  obtain⟨e,q',rfl,h3,h4⟩:=bx hq
  simp only[gF,Bool.and_eq_true]
  exact⟨jd h1 h3,qv h2 h4⟩
end
def isLt:Ordering->Bool
 |.lt=>true
 |_=>false
theorem Dk(I:Inv X pins σ H s){n:Nat}{A:Around}(hu:A.units+n<cLine)
  (hl:∀{sh:Sh}{d e:Dv}{x y:V}{u w:Value},d.dep<=n->Dv.isA sh d=true->Dv.isA sh e=true->Dn X.K H x d->Dn X.K H y e->RelV x u->RelV y w->HE A s u w (isLt (aK d e))):
  ∀{l:List Sh}{ds es:List Dv}{xs ys:List V}{us ws:List Value},Dv.deps ds<=n->Dv.fX l ds=true->Dv.fX l es=true->fy X.K H xs ds->fy X.K H ys es->Vals xs us->Vals ys ws->EZ A s us ws (isLt (bT ds es))
 |[],ds,es,xs,ys,us,ws,hd,a1,a2,d1,d2,r1,r2=>by
  rw[cS a1]at d1 ⊢
  rw[cS a2]at d2 ⊢
  cases d1;cases d2;cases r1;cases r2
  exact .nn
 |sh::l,ds,es,xs,ys,us,ws,hd,a1,a2,d1,d2,r1,r2=>by
  obtain⟨d,ds',rfl,h1,h2⟩:=bx a1
  obtain⟨e,es',rfl,h3,h4⟩:=bx a2
  cases d1 with
  |cons dx AG=>cases d2 with
   |cons dy EX=>cases r1 with
    |cons rx zO=>cases r2 with
     |cons ry Ir=>
      simp only[Dv.deps]at hd
      obtain⟨b,he,hb⟩:=lH I n (A:=A) (Nat.le_trans (Nat.le_max_left _ _) hd) hu (jd h1 h3) dx dy rx ry
      have hc:=iV h1 h3
      cases b with
      |true=>
       have z:aK d e=.eq:=hc.mpr (hb.mp rfl)
       have rest:=Dk I hu hl (Nat.le_trans (Nat.le_max_right _ _) hd) h2 h4 AG EX zO Ir
       have:bT (d::ds') (e::es')=bT ds' es':=by simp only[bT,z,Ordering.then]
       rw[this]
       exact .eq he rest
      |false=>
       have z:aK d e≠.eq:=λq=>by have:=hb.mpr (hc.mp q);cases this
       have:bT (d::ds') (e::es')=aK d e:=by
        simp only[bT]
        cases q:aK d e with
        |eq=>exact absurd q z
        |lt=>rfl
        |gt=>rfl
       rw[this]
       exact .ne he (hl (Nat.le_trans (Nat.le_max_left _ _) hd) h1 h3 dx dy rx ry)
theorem Ht(I:Inv X pins σ H s):∀(n:Nat){A:Around}{sh:Sh}{d e:Dv}{x y:V}{u w:Value},d.dep<=n->A.units+n<cLine->Dv.isA sh d=true->Dv.isA sh e=true->Dn X.K H x d->Dn X.K H y e->RelV x u->RelV y w->
  HE A s u w (isLt (aK d e)):=by
 intro n
 induction n with
 |zero=>
  intro A sh d e x y u w hd hu a1 a2 dx dy rx ry
  cases sh with
  |int=>
   obtain⟨i,rfl⟩:=cj a1
   obtain⟨j,rfl⟩:=cj a2
   cases dx;cases dy
   obtain⟨t,rfl⟩:=rx
   obtain⟨t',rfl⟩:=ry
   intro prog w' E Q hq
   refine HT.CC A s i t j t' prog w' E Q ?_
   have:isLt (aK (.int i) (.int j))=decide (i<j):=by
    simp only[aK]
    by_cases h:i=j
    ·subst h;simp[isLt]
    ·rw[if_neg h];by_cases h1:i<j<;>simp[h1,isLt]
   rw[this]at hq;exact hq
  |str=>
   obtain⟨i,rfl⟩:=cg a1
   obtain⟨j,rfl⟩:=cg a2
   cases dx;cases dy
   obtain⟨t,rfl⟩:=rx
   obtain⟨t',rfl⟩:=ry
   intro prog w' E Q hq
   refine(lt_str ?_:wpAny (model prog w') A (compareOp .Lt (.str i t) (.str j t')) Q E s)
   have:isLt (aK (.str i) (.str j))=decide (i.cps.toList<j.cps.toList):=by
    simp only[aK]
    by_cases h:i=j
    ·subst h;simp[isLt,List.lt_irrefl]
    ·rw[if_neg h];by_cases h1:i.cps.toList<j.cps.toList<;>simp[h1,isLt]
   rw[this]at hq;exact hq
  |tup l=>
   obtain⟨r,rfl,hr⟩:=cT a1
   simp[Dv.dep]at hd
 |succ n ih=>
  intro A sh d e x y u w hd hu a1 a2 dx dy rx ry
  cases sh with
  |int=>
   obtain⟨i,rfl⟩:=cj a1
   obtain⟨j,rfl⟩:=cj a2
   exact(ih (A:=A) (sh:=.int) (Nat.zero_le _) LI a1 a2 dx dy rx ry)
  |str=>
   obtain⟨i,rfl⟩:=cg a1
   obtain⟨j,rfl⟩:=cg a2
   exact(ih (A:=A) (sh:=.str) (Nat.zero_le _) LI a1 a2 dx dy rx ry)
  |tup l=>
   obtain⟨r,rfl,hr⟩:=cT a1
   obtain⟨q,rfl,hq⟩:=cT a2
   cases dx with
   |tup ha da=>cases dy with
    |tup hb db=>
     cases rx;cases ry
     obtain⟨its,r1,p1,_⟩:=I.tuple ha
     obtain⟨its2,r2,p2,_⟩:=I.tuple hb
     simp only[Dv.dep]at hd
     simp only[aK]
     refine HT.Ak p1 p2 ?_ LI
     exact Dk I (n:=n) (A:=A.in1) (by rw[in1_units];lia) (λh1 h2 h3 h4 h5 h6 h7=>ih h1 (by rw[in1_units];lia) h2 h3 h4 h5 h6 h7) LI hr hq da db r1 r2
end
def Den(K:Fg7)(H:Hp)(u:Value)(d:Dv):Prop:=∃v,RelV v u/\Dn K H v d
open Classical in
noncomputable def qI(K:Fg7)(H:Hp)(x y:Keyed):Bool:=decide (∃d e,Den K H x.1 d/\Den K H y.1 e/\aK d e=.lt)
def EC(K:Fg7)(H:Hp)(sh:Sh)(x:Keyed):Prop:=∃d,Den K H x.1 d/\Dv.isA sh d=true
def Sh.key:Sh->Bool
 |.int=>true
 |.str=>true
 |.tup (.int::_)=>true
 |.tup (.str::_)=>true
 |_=>false
def Sh.kind:Sh->SortKind
 |.tup _=>tuples' true
 |_=>oneType'
mutual
def Sh.dep:Sh->Nat
 |.tup l=>Sh.deps l+1
 |_=>0
def Sh.deps:List Sh->Nat
 |[]=>0
 |d::r=>max (Sh.dep d) (Sh.deps r)
end
mutual
theorem pe:∀{sh:Sh}{d:Dv},Dv.isA sh d=true->d.dep=sh.dep
 |.int,d,h=>by obtain⟨i,rfl⟩:=cj h;rfl
 |.str,d,h=>by obtain⟨i,rfl⟩:=cg h;rfl
 |.tup l,d,h=>by
  obtain⟨r,rfl,hr⟩:=cT h
  simp only[Dv.dep,Sh.dep]
  rw[rV hr]
theorem rV:∀{l:List Sh}{r:List Dv},Dv.fX l r=true->Dv.deps r=Sh.deps l
 |[],r,h=>by rw[cS h];rfl
 |s::l,r,h=>by
  obtain⟨d,r',rfl,h1,h2⟩:=bx h
  simp only[Dv.deps,Sh.deps]
  rw[pe h1,rV h2]
end
section
variable {X:Cx} {pins:List (Addr×Obj)} {σ:St} {H:Hp} {s:Shared}
theorem CB{K:Fg7}{x y:V}{u:Value}{d e:Dv}(dx:Dn K H x d)(dy:Dn K H y e)(rx:RelV x u)(ry:RelV y u):x=y:=by
 cases dx<;>cases dy<;>first
  |rfl
  |(obtain⟨t,rfl⟩:=rx;obtain⟨t',h⟩:=ry;cases h;done)
  |(obtain⟨t,rfl⟩:=rx;obtain⟨t',h⟩:=ry;cases h;rfl)
  |(obtain⟨t,rfl⟩:=rx;cases ry;done)
  |(obtain⟨t,rfl⟩:=ry;cases rx;done)
  |(cases rx;cases ry;done)
  |(cases rx;cases ry;rfl)
theorem tK(I:Inv X pins σ H s){u:Value}{d e:Dv}(h:Den X.K H u d)(h':Den X.K H u e):d=e:=by
 obtain⟨v,r,n⟩:=h
 obtain⟨v',r',n'⟩:=h'
 have:=CB n n' r r'
 subst this
 exact Dn.inj I n n'
open Classical in
theorem ig(I:Inv X pins σ H s){x y:Keyed}{d e:Dv}(hx:Den X.K H x.1 d)(hy:Den X.K H y.1 e):qI X.K H x y=isLt (aK d e):=by
 unfold qI
 by_cases h:aK d e=.lt
 ·rw[h]
  exact decide_eq_true ⟨d,e,hx,hy,h⟩
 ·have:isLt (aK d e)=false:=by
   cases q:aK d e with
   |lt=>exact absurd q h
   |eq=>rfl
   |gt=>rfl
  rw[this]
  refine decide_eq_false λ⟨d',e',hx',hy',h'⟩=>?_
  rw[tK I hx hx',tK I hy hy']at h
  exact h h'
theorem GL{o:Ordering}(h:isLt o=false):o≠.lt:=λz=>by rw[z]at h;cases h
theorem pU(I:Inv X pins σ H s)(sh:Sh):TS.Ord (EC X.K H sh) (qI X.K H)where
 DF:=λx ⟨d,hd,a⟩=>by
  rw[ig I hd hd,(iV a a).mpr rfl];rfl
 xQ:=λx y ⟨d,hd,a⟩ ⟨e,he,b⟩ h=>by
  rw[ig I hd he]at h
  rw[ig I he hd,cmp_swap a b]
  cases q:aK d e with
  |lt=>rfl
  |eq=>rfl
  |gt=>rw[q]at h;cases h
 tr:=λx y z ⟨d,hd,a⟩ ⟨e,he,b⟩ ⟨f,hf,c⟩ h1 h2=>by
  rw[ig I he hd]at h1
  rw[ig I hf he]at h2
  rw[ig I hf hd]
  have n1:aK d e≠.gt:=λq=>by rw[cmp_swap a b,q]at h1;cases h1
  have n2:aK e f≠.gt:=λq=>by rw[cmp_swap b c,q]at h2;cases h2
  have n3:=Ep a b c n1 n2
  rw[cmp_swap a c]
  cases q:aK d f with
  |lt=>rfl
  |eq=>rfl
  |gt=>exact absurd q n3
theorem qk{prog:Program}{w:World}{A:Around}(I:Inv X pins σ H s){sh:Sh}(hk:sh.key=true)(hu:A.units+sh.dep<cLine){x y:Keyed}{Q:Bool->Shared->Prop}(hx:EC X.K H sh x)(hy:EC X.K H sh y)(hq:Q (qI X.K H x y) s):
  wpAny (model prog w) A (keyLt' sh.kind x.1 y.1) Q (λ_ _=>False) s:=by
 obtain⟨d,hd,a⟩:=hx
 obtain⟨e,he,b⟩:=hy
 rw[ig I hd he]at hq
 obtain⟨v,rv,nv⟩:=hd
 obtain⟨v',Og,UG⟩:=he
 cases sh with
 |int=>
  obtain⟨i,rfl⟩:=cj a
  obtain⟨j,rfl⟩:=cj b
  cases nv;cases UG
  obtain⟨t,et⟩:=rv
  obtain⟨t',et'⟩:=Og
  show wpAny (model prog w) A (keyLt' oneType' x.1 y.1) Q _ s
  rw[et,et']
  refine PySem.W.kat_lt_int ?_
  have:isLt (aK (.int i) (.int j))=decide (i<j):=by
   simp only[aK]
   by_cases h:i=j
   ·subst h;simp[isLt]
   ·rw[if_neg h];by_cases h1:i<j<;>simp[h1,isLt]
  rw[this]at hq;exact hq
 |str=>
  obtain⟨i,rfl⟩:=cg a
  obtain⟨j,rfl⟩:=cg b
  cases nv;cases UG
  obtain⟨t,et⟩:=rv
  obtain⟨t',et'⟩:=Og
  show wpAny (model prog w) A (keyLt' oneType' x.1 y.1) Q _ s
  rw[et,et']
  refine PySem.W.kas_lt_str ?_
  have:isLt (aK (.str i) (.str j))=decide (i.cps.toList<j.cps.toList):=by
   simp only[aK]
   by_cases h:i=j
   ·subst h;simp[isLt,List.lt_irrefl]
   ·rw[if_neg h];by_cases h1:i.cps.toList<j.cps.toList<;>simp[h1,isLt]
  rw[this]at hq;exact hq
 |tup l=>
  obtain⟨r,rfl,hr⟩:=cT a
  obtain⟨q,rfl,hq'⟩:=cT b
  cases nv with
  |tup ha da=>cases UG with
   |tup hb db=>
    have rv:x.1=Value.ref _:=rv
    have Og:y.1=Value.ref _:=Og
    show wpAny (model prog w) A (keyLt' (tuples' true) x.1 y.1) Q _ s
    rw[rv,Og]
    obtain⟨its,r1,p1,_⟩:=I.tuple ha
    obtain⟨its2,r2,p2,_⟩:=I.tuple hb
    obtain⟨o1,g1,c1,n1,e1⟩:=p1
    obtain⟨o2,g2,c2,n2,e2⟩:=p2
    refine PySem.W.kat_lt g1 e1 g2 e2 ?_
    have hlen:its.length=its2.length:=by
     have z1:=r1.length;have z2:=r2.length;have z3:=da.length;have z4:=db.length
     have z5:∀{l:List Sh}{r:List Dv},Dv.fX l r=true->r.length=l.length:=by
      intro l
      induction l with
      |nil=>intro r h;rw[cS h];rfl
      |cons s l ih=>intro r h;obtain⟨d,r',rfl,_,h2⟩:=bx h;simp[ih h2]
     have:=z5 hr;have:=z5 hq';lia
    simp only[aK]at hq
    simp only[Sh.dep]at hu
    have fin:(decide (its.toArray.size<its2.toArray.size))=false:=decide_eq_false (by simp only[List.size_toArray];lia)
    rw[fin]
    show PySem.W.KatLex prog w A true false Q (its.zip its2) 0 s
    have rest:∀{l:List Sh}{ds es:List Dv}{xs ys:List V}{us ws:List Value}{i:Nat},(0<i)->Sh.deps l+A.units<cLine->Dv.fX l ds=true->Dv.fX l es=true->fy X.K H xs ds->fy X.K H ys es->Vals xs us->Vals ys ws->Q (isLt (bT ds es)) s->
      PySem.W.KatLex prog w A true false Q (us.zip ws) i s:=by
     intro l
     induction l with
     |nil=>
      intro ds es xs ys us ws i _ _ a1 a2 d1 d2 r1 r2 q
      rw[cS a1]at d1 q
      rw[cS a2]at d2 q
      cases d1;cases d2;cases r1;cases r2
      exact PySem.W.kat_nil q
     |cons sh l ih=>
      intro ds es xs ys us ws i hi hu a1 a2 d1 d2 r1 r2 q
      obtain⟨d,ds',rfl,h1,h2⟩:=bx a1
      obtain⟨e,es',rfl,h3,h4⟩:=bx a2
      simp only[Sh.deps]at hu
      have hu1:A.units+Sh.dep sh<cLine:=by have:=Nat.le_max_left (Sh.dep sh) (Sh.deps l);lia
      have Vx:Sh.deps l+A.units<cLine:=by have:=Nat.le_max_right (Sh.dep sh) (Sh.deps l);lia
      cases d1 with
      |cons dx AG=>cases d2 with
       |cons dy EX=>cases r1 with
        |cons rx zO=>cases r2 with
         |cons ry Ir=>
          obtain⟨b,he,hb⟩:=lH I (Sh.dep sh) (A:=A) (Nat.le_of_eq (pe h1)) hu1 (jd h1 h3) dx dy rx ry
          have hc:=iV h1 h3
          rw[List.zip_cons_cons]
          refine PySem.W.kat_cons (he prog w _ _ ?_)
          cases b with
          |true=>
           have z:aK d e=.eq:=hc.mpr (hb.mp rfl)
           refine PySem.W.kat_yes (ih (Nat.succ_pos _) Vx h2 h4 AG EX zO Ir ?_)
           simp only[bT,z,Ordering.then]at q;exact q
          |false=>
           have z:aK d e≠.eq:=λq=>by have:=hb.mpr (hc.mp q);cases this
           have zz:bT (d::ds') (e::es')=aK d e:=by
            simp only[bT]
            cases q:aK d e with
            |eq=>exact absurd q z
            |lt=>rfl
            |gt=>rfl
           rw[zz]at q
           refine PySem.W.kat_no ?_
           have e0:(true&&i==0)=false:=by simp;lia
           rw[e0]
           refine PySem.W.kat_one _ _ ?_
           exact Ht I (Sh.dep sh) (A:=A) (Nat.le_of_eq (pe h1)) hu1 h1 h3 dx dy rx ry prog w _ _ q
    cases l with
    |nil=>simp[Sh.key]at hk
    |cons sh l=>
     obtain⟨d,ds',rfl,h1,h2⟩:=bx hr
     obtain⟨e,es',rfl,h3,h4⟩:=bx hq'
     simp only[Sh.deps]at hu
     have hu1:A.units+Sh.dep sh<cLine:=by have:=Nat.le_max_left (Sh.dep sh) (Sh.deps l);lia
     have Vx:Sh.deps l+A.units<cLine:=by have:=Nat.le_max_right (Sh.dep sh) (Sh.deps l);lia
     cases da with
     |cons dx AG=>cases db with
      |cons dy EX=>cases r1 with
       |cons rx zO=>cases r2 with
        |cons ry Ir=>
         obtain⟨b,he,hb⟩:=lH I (Sh.dep sh) (A:=A) (Nat.le_of_eq (pe h1)) hu1 (jd h1 h3) dx dy rx ry
         have hc:=iV h1 h3
         rw[List.zip_cons_cons]
         refine PySem.W.kat_cons (he prog w _ _ ?_)
         cases b with
         |true=>
          have z:aK d e=.eq:=hc.mpr (hb.mp rfl)
          refine PySem.W.kat_yes (rest (Nat.succ_pos _) Vx h2 h4 AG EX zO Ir ?_)
          simp only[bT,z,Ordering.then]at hq;exact hq
         |false=>
          have z:aK d e≠.eq:=λq=>by have:=hb.mpr (hc.mp q);cases this
          have zz:bT (d::ds') (e::es')=aK d e:=by
           simp only[bT]
           cases q:aK d e with
           |eq=>exact absurd q z
           |lt=>rfl
           |gt=>rfl
          rw[zz]at hq
          refine PySem.W.kat_no ?_
          show wpAny (model prog w) A (oneLt' true _ _) Q _ s
          cases sh with
          |tup _=>simp[Sh.key]at hk
          |int=>
           obtain⟨i,rfl⟩:=cj h1
           obtain⟨j,rfl⟩:=cj h3
           cases dx;cases dy
           obtain⟨t,rfl⟩:=rx
           obtain⟨t',rfl⟩:=ry
           refine oneLt_int ?_
           have:isLt (aK (.int i) (.int j))=decide (i<j):=by
            simp only[aK]
            by_cases h:i=j
            ·subst h;simp[isLt]
            ·rw[if_neg h];by_cases h1:i<j<;>simp[h1,isLt]
           rw[this]at hq;exact hq
          |str=>
           obtain⟨i,rfl⟩:=cg h1
           obtain⟨j,rfl⟩:=cg h3
           cases dx;cases dy
           obtain⟨t,rfl⟩:=rx
           obtain⟨t',rfl⟩:=ry
           have:isLt (aK (.str i) (.str j))=decide (i.cps.toList<j.cps.toList):=by
            simp only[aK]
            by_cases h:i=j
            ·subst h;simp[isLt,List.lt_irrefl]
            ·rw[if_neg h];by_cases h1:i.cps.toList<j.cps.toList<;>simp[h1,isLt]
           rw[this]at hq
           have:=PySem.W.kas_lt_str (prog:=prog) (w:=w) (A:=A) (E:=λ_ _=>False) (t:=t) (u:=t') (s:=s) (Q:=Q) hq
           rw[keyLt'_oneType]at this;exact this
theorem mZ{prog:Program}{w:World}{A:Around}(I:Inv X pins σ H s){sh:Sh}(hk:sh.key=true){vs:List Value}(h2:2<=vs.length)(hv:∀v∈vs,∃d,Den X.K H v d/\Dv.isA sh d=true){Q:SortKind->Shared->Prop}(hq:Q sh.kind s):
  wpAny (model prog w) A (keyKind' vs.toArray) Q (λ_ _=>False) s:=by
 cases sh with
 |int=>
  refine PySem.W.kas_kind (T:=.type "int") h2 (λv m=>?_) (by decide) (by decide) hq
  obtain⟨d,⟨x,r,n⟩,a⟩:=hv v m
  obtain⟨i,rfl⟩:=cj a
  cases n
  obtain⟨t,rfl⟩:=r
  exact .now
 |str=>
  refine PySem.W.kas_kind (T:=.type "str") h2 (λv m=>?_) (by decide) (by decide) hq
  obtain⟨d,⟨x,r,n⟩,a⟩:=hv v m
  obtain⟨i,rfl⟩:=cg a
  cases n
  obtain⟨t,rfl⟩:=r
  exact .now
 |tup l=>
  cases l with
  |nil=>simp[Sh.key]at hk
  |cons sh l=>
   have T:∃T,(sh=.int/\T=Value.type "int")\/(sh=.str/\T=Value.type "str"):=by
    cases sh with
    |int=>exact⟨_,.inl ⟨rfl,rfl⟩⟩
    |str=>exact⟨_,.inr ⟨rfl,rfl⟩⟩
    |tup _=>simp[Sh.key]at hk
   obtain⟨T,hT⟩:=T
   have key:∀vs:List Value,(∀v∈vs,∃d,Den X.K H v d/\Dv.isA (.tup (sh::l)) d=true)->∃fs,fs.length=vs.length/\PySem.W.KatTups s.heap vs fs/\∀f∈fs,PySem.W.Looks (model prog w) s.heap (typeOf f) T:=by
    intro vs
    induction vs with
    |nil=>exact λ_=>⟨[],rfl,trivial,λf m=>nomatch m⟩
    |cons v vs ih=>
     intro hv
     obtain⟨fs,h1,h2,h3⟩:=ih λu m=>hv u (.tail _ m)
     obtain⟨d,⟨x,r,n⟩,a⟩:=hv v (.head _)
     obtain⟨ds,rfl,hr⟩:=cT a
     obtain⟨d0,ds',rfl,a1,_⟩:=bx hr
     cases n with
     |tup ha da=>
      obtain⟨its,r1,p1,_⟩:=I.tuple ha
      obtain⟨o,g,c,k,e⟩:=p1
      have rv:v=Value.ref _:=r
      subst rv
      cases da with
      |cons dx AG=>cases r1 with
       | @cons _ u _ us rx zO=>
        refine⟨u::fs,by simp[h1],PySem.W.KatTups.cons g c e (by simp) h2,λf m=>?_⟩
        rcases List.mem_cons.mp m with rfl|m
        ·rcases hT with⟨rfl,rfl⟩|⟨rfl,rfl⟩
         ·obtain⟨i,rfl⟩:=cj a1
          cases dx
          obtain⟨t,rfl⟩:=rx
          exact .now
         ·obtain⟨i,rfl⟩:=cg a1
          cases dx
          obtain⟨t,rfl⟩:=rx
          exact .now
        ·exact h3 f m
   obtain⟨fs,h1,h3,h4⟩:=key vs hv
   refine PySem.W.kat_kind h3 LI h4 ?_ ?_
   ·rcases hT with⟨_,rfl⟩|⟨_,rfl⟩<;>decide
   ·have:(T != Value.type "tuple")=true:=by rcases hT with⟨_,rfl⟩|⟨_,rfl⟩<;>decide
    rw[this];exact hq
theorem sL(I:Inv X pins σ H s){sh:Sh}:∀{out:List Value}{zs:List V}{es:List Dv},Vals zs out->fy X.K H zs es->(∀d∈es,Dv.isA sh d=true)->out.Pairwise (λx y=>qI X.K H (y,y) (x,x)=false)->es.Pairwise λd e=>aK d e≠.gt
 |[],_,_,r,d,_,_=>by cases r;cases d;exact .nil
 |u::out,_,_,r,d,a,h=>by
  cases r with
  |cons rx zO=>cases d with
   | @cons x xs d0 ds dx AG=>
    obtain⟨h1,h2⟩:=List.pairwise_cons.mp h
    refine List.pairwise_cons.mpr ⟨λe m=>?_,sL I zO AG (λd m=>a d (.tail _ m)) h2⟩
    obtain⟨i,hi⟩:=List.mem_iff_getElem?.mp m
    obtain⟨y,ey,dy⟩:=AG.get hi
    obtain⟨w,ew,ry⟩:=Vals.get zO ey
    have q:=h1 w (List.mem_of_getElem? ew)
    rw[ig I (x:=(w,w)) (y:=(u,u)) ⟨y,ry,dy⟩ ⟨_,rx,dx⟩]at q
    have a1:=a d0 (.head _)
    have a2:=a e (.tail _ m)
    rw[cmp_swap a1 a2]at q
    intro z
    rw[z]at q
    cases q
end
end L2
namespace RD
open PySem PyProof.Rows
def Raw(h:Heap)(d:Addr)(es:Array DictEntry)(ep:Nat):Prop:=∃o,h.get? d=some o/\o.ExactDict/\o.data=.dict es ep
section
variable {prog:Program} {w:World} {A:Around} {E:Value->Shared->Prop} {s:Shared} {d it:Addr} {es:Array DictEntry} {ep i:Nat}
theorem Raw.lt{h:Heap}(x:Raw h d es ep):d<h.objs.size:=let⟨_,ho,_⟩:=x;Heap.lt_size ho
theorem Raw.at{h h':Heap}(x:Raw h d es ep)(k:∀o,h.get? d=some o->h'.get? d=some o):Raw h' d es ep:=let⟨o,ho,r⟩:=x;⟨o,k o ho,r⟩
theorem Raw.type(x:Raw s.heap d es ep):s.TypeIs (.ref d) "dict":=let⟨o,ho,hc,_⟩:=x;⟨o,ho,hc.1⟩
theorem iter{Q:Value->Shared->Prop}(hd:(d==sysModules)=false)(x:Raw s.heap d es ep)
  (hQ:Q (.ref s.heap.objs.size) {s with heap:=s.heap.push {cls:=.type "dict_keyiterator",data:=.fields #[.ref d,.int 0 0,.int es.size 0,.int ep 0]} }):wpAny (model prog w) A (pyIter (.ref d)) Q E s:=by
 have hT:=x.type;obtain⟨o,ho,hc,hdat⟩:=x
 refine wpAny_pyIter_slot hT F.slot_dict_iter (wpAny_call_entry F.slot_dict_iter hT F.entry_dict_iter ?_ (F.args_dict_iter_1 _))
 unfold Builtin.«dict.__iter__»;refine wpAny_bind ?_
 unfold Builtin.Dict.dictSlotNone;refine wpAny_bind (wpAny_notOrdered_dict hT ?_)
 show wpAny _ _ (pure (Value.ref d)) _ _ s
 refine wpAny_pure ?_;show wpAny _ _ (Builtin.Dict.showsAll d >>= _) _ _ s
 unfold Builtin.Dict.showsAll;rw[if_neg (by rw[hd];exact Bool.false_ne_true)]
 refine wpAny_bind (wpAny_pure (wpAny_bind (wpAny_dictEntries ho hdat (wpAny_bind (wpAny_dictEpoch ho hdat ?_)))))
 refine wpAny_bind (wpAny_newObj_type (wpAny_pure ⟨_,rfl,"dict_keyiterator",_,⟨_,Heap.get?_push_size _ rfl,rfl⟩,F.slot_dict_keyiterator_next.lookup,?_⟩));simpa [rawInt]using hQ
theorem next{Q:Option Value->Shared->Prop}(hit:s.heap.IsKeyIter it d i es.size ep)(x:Raw s.heap d es ep)(hi:i<es.size)
  (hQ:∀h',h'.IsKeyIter it d (i+1) es.size ep->Heap.SameBut it s.heap h'->Q (some es[i].key) {s with heap:=h'}):wpAny (model prog w) A (pyNext (.ref it)) Q E s:=by
 obtain⟨o,ho,hc,hd⟩:=id hit;obtain⟨od,hod,hcd,zc⟩:=x
 unfold pyNext;refine wpAny_bind (wpAny_attempt (wpAny_callSpecial?_slot (name:=Str.ofString "__next__") hit.typeIs F.slot_dict_keyiterator_next (wpAny_call_entry F.slot_dict_keyiterator_next hit.typeIs F.entry_dict_keyiterator_next ?_ (F.args_dict_keyiterator_next_1 _))))
 refine wpAny_bind (wpAny_pure (wpAny_bind (wpAny_bind ?_)))
 first|exact wpAny_bind (wpAny_typeNameOfWhole_keyiter hit.typeIs (wpAny_pure ?_))|refine wpAny_bind (wpAny_typeNameOfWhole_keyiter hit.typeIs (wpAny_pure ?_));skip
 refine wpAny_bind (wpAny_fieldsOf ho hd ?_);have hown:Builtin.Dict_items.ownsTuple "dict_keyiterator"=false:=by decide
 simp only[hown,Bool.false_eq_true,if_false];show wpAny _ _ (if(Value.ref d==Value.none)=true then _ else _) _ _ s
 rw[if_neg (show¬((Value.ref d==Value.none)=true)from Bool.false_ne_true)];refine wpAny_bind (wpAny_pure (wpAny_bind (wpAny_dictEntries hod zc ?_)))
 rw[if_neg (by simp)];refine wpAny_bind (wpAny_pure (wpAny_bind (wpAny_dictEpoch hod zc ?_)))
 rw[if_neg (by simp)];refine wpAny_pure ?_
 simp only[show¬((i:Int)<0)from by lia,if_false,Int.toNat_natCast,Array.getElem?_eq_getElem hi];refine wpAny_bind ?_
 refine wpAny_bind (wpAny_typeNameOfWhole_keyiter hit.typeIs (wpAny_pure ?_));refine wpAny_bind (wpAny_isOneOf_keyiter hit.typeIs ?_)
 show wpAny _ _ (setField (.ref it) 1 (rawInt ((i:Int)+1)) >>= _) _ _ s;refine wpAny_bind (wpAny_setField ho hd (by simp) ?_)
 have GS:(s.heap.update it (Obj.mapFields (·.setIfInBounds 1 (rawInt ((i:Int)+1))))).IsKeyIter it d (i+1) es.size ep:=⟨_,Heap.get?_update_self _ ho (Obj.isFreed_of_fields (Obj.data_mapFields hd _)),(Obj.cls_mapFields ..).trans hc,by rw[Obj.data_mapFields hd];simp[rawInt]⟩
 refine wpAny_bind (wpAny_holding ?_);refine wpAny_bind (wpAny_isOneOf_keyiter (s:={s with heap:=s.heap.update it (Obj.mapFields (·.setIfInBounds 1 (rawInt ((i:Int)+1))))}) GS.typeIs ?_)
 show wpAny _ _ (pure es[i].key) _ _ _;exact wpAny_pure (wpAny_pure ⟨_,rfl,wpAny_pure (hQ _ GS (Heap.SameBut.update ..))⟩)
theorem fin{Q:Option Value->Shared->Prop}(hh:A.handled=none)(hit:s.heap.IsKeyIter it d es.size es.size ep)(x:Raw s.heap d es ep)(hQ:∀h',Heap.ExtBut it s.heap h'->Q none {s with heap:=h'}):wpAny (model prog w) A (pyNext (.ref it)) Q E s:=by
 obtain⟨o,ho,hc,hd⟩:=id hit;obtain⟨od,hod,hcd,zc⟩:=x
 unfold pyNext;refine wpAny_bind (wpAny_attempt (wpAny_callSpecial?_slot (name:=Str.ofString "__next__") hit.typeIs F.slot_dict_keyiterator_next (wpAny_call_entry F.slot_dict_keyiterator_next hit.typeIs F.entry_dict_keyiterator_next ?_ (F.args_dict_keyiterator_next_1 _))))
 refine wpAny_bind (wpAny_pure (wpAny_bind (wpAny_bind ?_)))
 refine wpAny_bind (wpAny_typeNameOfWhole_keyiter hit.typeIs (wpAny_pure ?_));skip
 refine wpAny_bind (wpAny_fieldsOf ho hd ?_);have hown:Builtin.Dict_items.ownsTuple "dict_keyiterator"=false:=by decide
 simp only[hown,Bool.false_eq_true,if_false];show wpAny _ _ (if(Value.ref d==Value.none)=true then _ else _) _ _ s
 rw[if_neg (show¬((Value.ref d==Value.none)=true)from Bool.false_ne_true)];refine wpAny_bind (wpAny_pure (wpAny_bind (wpAny_dictEntries hod zc ?_)))
 rw[if_neg (by simp)];refine wpAny_bind (wpAny_pure (wpAny_bind (wpAny_dictEpoch hod zc ?_)))
 rw[if_neg (by simp)];refine wpAny_pure ?_
 simp only[show¬((es.size:Int)<0)from by lia,if_false,Int.toNat_natCast,Array.getElem?_eq_none (Nat.le_refl _)];refine wpAny_bind ?_
 refine wpAny_bind (wpAny_typeNameOfWhole_keyiter hit.typeIs (wpAny_pure ?_));show wpAny _ _ (setField (.ref it) 0 .none >>= _) _ _ s
 refine wpAny_bind (wpAny_setField ho hd (by simp) ?_);show wpAny _ _ (newExc (.type "StopIteration") [] >>= _) _ _ _
 refine wpAny_bind ?_;simp only[newExc,newTuple]
 refine wpAny_bind (wpAny_newObj_type ?_ (by size_fits));refine wpAny_bind (m:=firstArgMember _ _) (wpAny_of_eq (a:=Value.none) (by first|rfl|(simp only[firstArgMember];rfl)) ?_)
 refine wpAny_newObj_type ?_ (by size_fits);simp only[raiseNew]
 refine wpAny_bind (wpAny_handled ?_);rw[show A.in1.handled=none from hh]
 refine wpAny_bind (wpAny_pure (wpAny_throw ?_));refine wpAny_bind (wpAny_isInstance (T:="StopIteration") (b:=true) ⟨_,Heap.get?_push_size _ rfl,rfl⟩ isSubtype_stop ?_)
 exact wpAny_pure (hQ _ (((Heap.SameBut.update ..).extBut.push _).push _))
theorem walks(hh:A.handled=none)(I d:Addr)(hne:d≠I)(es:Array DictEntry)(ep:Nat):Walks prog w A I [I,d] [I] es.size (λi v=>∃e,es[i]? = some e/\v=e.key) (λi h=>h.IsKeyIter I d i es.size ep/\Raw h d es ep)where
 sub:=λb hb=>by simp at hb;simp[hb]
 frame:=λ_ _ _ st hk=>⟨st.1.at λo e=>hk I (by simp) o e,st.2.at λo e=>hk d (by simp) o e⟩
 item:=λi s Q E hi st hQ=>next st.1 st.2 hi λh' GS hs'=>hQ _ h' s.toks ⟨es[i],by simp[hi],rfl⟩ ⟨GS,st.2.at λo e=>hs'.extBut d o hne e⟩ λb o hb e=>hs'.extBut b o (λh=>hb (by simp[h])) e
 done:=λs Q E st hQ=>fin hh st.1 st.2 λh' he'=>hQ h' s.toks λb o hb e=>he' b o (λh=>hb (by simp[h])) e
 self:=λ_ _ _ _ st hQ=>wpAny_pyIter_keyiter st.1 hQ
theorem src(lo:(d==sysModules)=false):PySem.W.KdlSrc prog w "dict" d d es.size (λi v=>∃e,es[i]? = some e/\v=e.key) (λh=>Raw h d es ep)where
 type:=λ_ hm=>hm.type
 there:=λ_ hm=>⟨hm.lt,hm.lt⟩
 keep:=λ_ _ hm hk=>hm.at λo e=>hk d (.inl rfl) o e
 notList:=by decide
 notTuple:=by decide
 hint:=λ_ _ _ _ hm hq=>PySem.W.kdl_hint_dict hm.type hq
 iter:=λ_ _ hh hm=>⟨_,_,(λ_ _ hq=>iter lo hm hq),walks hh _ d (Nat.ne_of_lt hm.lt) es ep,⟨⟨_,Heap.get?_push_size _ rfl,rfl,rfl⟩,hm.at λo e=>Heap.get?_push_of_some _ e⟩⟩
theorem qi{K:Type}[DecidableEq K]{k:K}:∀{xs:List (K×Addr×Value)}{j:Nat}{p:Addr×Value},(xs.map (·.1)).Nodup->xs[j]? = some (k,p)->xs.eraseIdx j=xs.filter λx=>decide (x.1≠k)
 |[],j,p,_,h=>by simp at h
 |x::r,0,p,hn,h=>by
  simp at h
  subst h
  rw[List.map_cons,List.nodup_cons]at hn
  have:r.filter (λx=>decide (x.1≠k))=r:=List.filter_eq_self.mpr λy hy=>decide_eq_true λe=>hn.1 (e▸List.mem_map.mpr ⟨y,hy,rfl⟩)
  rw[List.eraseIdx_zero,List.tail_cons,List.filter_cons,if_neg (by simp),this]
 |x::r,j+1,p,hn,h=>by
  rw[List.map_cons,List.nodup_cons]at hn
  have h':r[j]? = some (k,p):=by simpa using h
  have ne:x.1≠k:=λe=>hn.1 (e▸List.mem_map.mpr ⟨_,List.mem_of_getElem? h',rfl⟩)
  rw[List.eraseIdx_cons_succ,List.filter_cons,if_pos (by simp[ne]),qi hn.2 h']
theorem rA{α β:Type}(f:α->β):∀(l:List α)(j:Nat),(l.map f).eraseIdx j=(l.eraseIdx j).map f
 |[],_=>rfl
 |_::_,0=>rfl
 |x::l,j+1=>by simp only[List.map_cons,List.eraseIdx_cons_succ,rA f l j]
theorem takeOut{K:Type}[DecidableEq K]{knd:HeapKind prog w K}{a:Addr}{xs:List (K×Addr×Value)}{k:K}{p:Addr×Value}{Q:Option DictEntry->Shared->Prop}(hu:knd.room A)(hkey:knd.is s.heap k a)(hm:s.heap.DictOfH knd d xs)
  (hz:xs.length<=sizeLine)(hp:atKey xs k=some p)(hQ:∀h',h'.DictOfH knd d (xs.filter λx=>decide (x.1≠k))->Heap.SameBut d s.heap h'->Q (some ⟨knd.hash k,.ref p.1,p.2⟩) {s with heap:=h',toks:=s.toks+knd.draws k}):
  wpAny (model prog w) A (Builtin.Dict.takeOut d (.ref a)) Q E s:=by
 obtain⟨o,es,ep,ho,hc,hd,he,his,hn⟩:=hm
 unfold Builtin.Dict.takeOut;try with_reducible refine wpAny_holding ?_
 refine wpAny_bind (knd.pyHash hu hkey (wpAny_bind (wpAny_dictFind_heap (s:={s with toks:=s.toks+knd.draws k}) hu hkey ho hd he his hn ?_ ?_)))
 ·intro hno;rw[atKey_none_of_get hno]at hp;cases hp
 ·intro j q hj
  have eq:=atKey_of_get hn hj;rw[hp]at eq;cases eq
  have hs:es.size=xs.length:=size_of_entries he
  refine wpAny_bind (wpAny_dictEntries (s:={s with toks:=s.toks+knd.draws k}) ho hd ?_)
  rw[entry_at he j,hj]
  refine wpAny_bind (wpAny_updateDictKeys (hz:=by lia) (hf:=Nat.le_succ_of_le (size_eraseIdxIfInBounds_le _ _)) (s:={s with toks:=s.toks+knd.draws k}) ho hd (wpAny_pure (hQ _ ⟨_,_,ep+1,Heap.get?_update_self _ ho (Obj.isFreed_of_dict (Obj.data_mapDictKeys hd _)),hc.mapDictKeys _,Obj.data_mapDictKeys hd _,?_,?_,?_⟩ (Heap.SameBut.update ..))))
  ·rw[←qi hn hj]
   obtain⟨l⟩:=es
   simp only at he
   simp only[List.eraseIdxIfInBounds_toArray,he]
   exact rA _ _ _
  ·intro x hx
   exact knd.keeps (his x (List.mem_filter.mp hx).1) ho hd (Heap.SameBut.update ..)
  ·exact hn.sublist (List.filter_sublist.map _)
end
end RD
namespace L2
open PySem PySem.Spec PyProof.Rows
theorem KT.drop{H:Hp}{kvs:List (List Key×V)}{xs:List (List Key×Addr×Value)}(r:KT H kvs xs)(k:List Key):KT H (iS kvs k) (xs.filter λx=>decide (x.1≠k)):=by
 unfold iS
 induction r with
 |nil=>exact .nil
 | @cons p q ps qs h t ih=>
  rw[List.filter_cons,List.filter_cons]
  by_cases e:p.1=k
  ·rw[if_neg (by simp[e]),if_neg (by simp[h.1.symm.trans e])];exact ih
  ·rw[if_pos (by simp[e]),if_pos (by simp[show¬q.1=k from λz=>e (h.1.trans z)])];exact .cons h ih
section
variable {X:Cx} {pins:List (Addr×Obj)} {σ:St} {H:Hp} {s:Shared} {a b:Addr} {kvs:List (List Key×V)} {k:List Key} {A:Around} {E:Value->Shared->Prop}
theorem El{h':Heap}{t':Nat}{xs:List (List Key×Addr×Value)}{kvs':List (List Key×V)}(I:Inv X pins σ H s)(e:H a=some (.dT kvs))(hz:kvs'.length<=sizeLine)(hd:(a==sysModules)=false)(rel:KT H kvs' xs)
  (dd:h'.DictOfH (tupleKind (bH X.prog X.w)) a xs)(hs:Heap.SameBut a s.heap h'):Inv X pins σ (upd H a (.dT kvs')) {s with heap:=h',toks:=t'}:=by
 obtain⟨q,es,ep,hq,h2,h3,h4,_,h5⟩:=dd
 refine tL I (by rw[e];exact True.intro) hs ⟨q,hq⟩ ⟨hz,hd,_,rel.keeps λc ys ec=>?_,q,es,ep,hq,h2,h3,h4,h5⟩
 rw[ai (aI ec e (λz=>nomatch z))];exact ec
theorem Mv{v:V}{Q:Value->Shared->Prop}(hu:A.units+1<cLine)(I:Inv X pins σ H s)(e:H a=some (.dT kvs))(eb:H b=some (.tup (k.map kV)))(l:jk kvs k=some v)
  (h:∀w' s',Inv X pins σ (upd H a (.dT (iS kvs k))) s'->RelV v w'->Q w' s'):wpAny (model X.prog X.w) A (call (.builtin "dict.pop") [.ref a,.ref b]) Q E s:=by
 obtain⟨z,hd,xs,rel,dd⟩:=JN I.hok e
 obtain⟨w',hw,rw'⟩:=iw.some_of (v:=v) (o:=(atKey xs k).map (·.2)) (by rw[←l];exact rel.val k)
 obtain⟨p,hp,hp2⟩:=Option.map_eq_some_iff.mp hw
 have hz':xs.length<=sizeLine:=by rw[←Paired.length rel];exact z
 have ne:xs≠[]:=λq=>by subst q;simp[atKey]at hp
 refine call_meetsIn (S:=λA R s=>(tupleKind (bH X.prog X.w)).room A.in1/\(tupleKind (bH X.prog X.w)).is s.heap k b/\s.heap.DictOfH (tupleKind (bH X.prog X.w)) a xs/\∀h' tk,h'.DictOfH (tupleKind (bH X.prog X.w)) a (xs.filter λx=>decide (x.1≠k))->Heap.SameBut a s.heap h'->R (.ok (.ret p.2)) {s with heap:=h',toks:=tk})
  PySem.F.slot_dict_pop dd.typeIs PySem.F.entry_dict_pop (PySem.F.args_dict_pop_2 _ _) ?_ ⟨tupleKind_room_in1 hu,qd I.hok eb,dd,λh' tk JQ hs=>?_⟩
 ·refine .of_wp λA R s ⟨hu,hk,hm,h⟩=>?_
  have hm0:=hm
  obtain⟨o,es,ep,ho,hc,hdat,he,_⟩:=hm
  unfold Builtin.«dict.pop»;refine wpAny_bind ?_
  unfold Builtin.Dict.keyAndDefault;refine wpAny_bind (wpAny_notOrdered_dict hm0.typeIs ?_)
  show wpAny _ _ (pure (a,Value.ref b,none)) _ _ s
  refine wpAny_pure ?_
  have kp:(keyPart (Value.ref b)).isSome=false:=rfl
  simp only[kp,Bool.false_eq_true,if_false]
  refine wpAny_bind (wpAny_dictEntries ho hdat (wpAny_bind (wpAny_pure ?_)))
  have hne:es.isEmpty=false:=by
   have:=size_of_entries he
   cases xs with
   |nil=>exact absurd rfl ne
   |cons _ _=>rw[List.length_cons]at this;rw[Array.isEmpty_eq_false_iff];intro z;rw[z]at this;simp at this
  simp only[hne,Bool.false_eq_true,if_false]
  refine wpAny_bind (RD.takeOut hu hk hm0 hz' hp λh' hm' hs'=>?_)
  simp only[Option.isNone_some,Bool.false_eq_true,if_false]
  exact wpAny_bind (wpAny_letGo (wpAny_pure ⟨p.2,rfl,h h' _ hm' hs'⟩))
 ·rw[hp2]
  exact h w' _ (El I e (Nat.le_trans (Eg kvs k) z) hd (rel.drop k) JQ hs) rw'
end
inductive yi(ty:TE)(σ:St)(Q:VK)(x:V)(H1:Hp):Prop
 |mk(a:_):(x=.ref a)->(Tp H1 a)->(ty σ H1 λy H2=>∃kvs k b v,H2 a=some (.dT kvs)/\y=.ref b/\H2 b=some (.tup (k.map kV))/\jk kvs k=some v/\Q v (upd H2 a (.dT (iS kvs k))))->yi ty σ Q x H1
def JZ(td ty:TE):TE:=λσ H Q=>td σ H λx H1=>yi ty σ Q x H1
section
variable {X:Cx} {o e i:Expr} {apos cpos tpos pos:Pos} {td ty:TE}
theorem CO(hu:X.A.units+1<cLine)(ho:PE X o td)(he:PE X e ty)(m:M1 X o "pop" apos e cpos):PE X (.Call (.Attribute o "pop" apos) [e] [] cpos) (JZ td ty):=by
 intro pins s σ H Q I h
 refine wpAny_Call_method m.base m.few m.line PySem.F.plainAttrs_dict PySem.F.slot_dict_pop PySem.F.type_dict_pop (cW (ho pins s σ H _ I h) λu s1 ⟨x,H1,I1,rx,a,ex,d,q1⟩=>?_)
 subst ex;obtain rfl:u=Value.ref a:=rx
 obtain⟨t1,t2,_⟩:=DE I1 d
 refine⟨t1,t2,?_⟩
 rw[m.trees];refine Calls.callWith_builtin rfl (Calls.evalArgs_plain (Calls.spliced_cons (cW (he pins s1 σ H1 _ I1 q1) λiv s2 ⟨y,H2,I2,ry,kvs,k,b,v,ea,ey,eb,l,q2⟩=>Calls.spliced_nil ?_)))
 subst ey;obtain rfl:iv=Value.ref b:=ry
 exact Mv hu I2 ea eb l λw' s3 I3 rw'=>⟨v,_,I3,rw',q2⟩
end
theorem PB{P:Program}{w:World}{k:Key}{u:Value}(h:(bH P w).is k u=true):RelV (kV k) u:=by
 rw[wX]at h
 rcases cC h with⟨i,t,rfl,rfl⟩|⟨x,t,rfl,rfl⟩
 ·exact⟨t,rfl⟩
 ·exact⟨t,rfl⟩
def RW(H:Hp)(a:Addr)(ys:List V):Prop:=(∃kvs,Rd H a (.dK kvs)/\ys=kvs.map λp=>kV p.1)\/∃kvs,Rd H a (.dT kvs)/\Paired (λ(y:V) (p:List Key×V)=>∃b,y=.ref b/\H b=some (.tup (p.1.map kV))) ys kvs
theorem qm{X:Cx}(hc:X.calm=true):gZ X (.type "list") (λxs H Q=>∃a,xs=[.ref a]/\Tp H a/\∀l ys,H l=none->RW H a ys->Q (.ref l) (upd H l (.lst ys))):=by
 intro pins s σ H xs us Q I r h
 obtain⟨a,rfl,hd,q⟩:=h
 obtain⟨u,rfl,rx⟩:=vals1 r
 cases rx
 rcases hd with⟨kvs,e⟩|⟨kvs,e⟩
 ·obtain⟨z,hd,vs,rel,dd⟩:=rN I.hok e
  obtain⟨ep,da⟩:=dd.dictAt
  refine PySem.W.kdl_call (PySem.W.kdl_dict hd) (I.ok.hd hc) da (by rw[←rel.length];exact z) λh' tk acc c kp hl it=>?_
  have rv:Vals (kvs.map λp=>kV p.1) acc.toList:=by
   have key:∀{kvs:List (Key×V)}{vs:List (Key×Value)}{acc:List Value},KV kvs vs->acc.length=vs.length->(∀(j:Nat) v,acc[j]? = some v->∃k x,vs[j]? = some (k,x)/\(bH X.prog X.w).is k v=true)->Vals (kvs.map λp=>kV p.1) acc:=by
    intro kvs vs acc r
    unfold KV at r
    induction r generalizing acc with
    |nil=>intro hl _;cases acc with
     |nil=>exact .nil
     |cons _ _=>simp at hl
    | @cons p q ps qs h t ih=>
     intro hl hv
     cases acc with
     |nil=>simp at hl
     |cons u acc=>
      refine .cons ?_ (ih (by simpa using hl) λj v e=>by have:=hv (j+1) v (by simpa using e);simpa using this)
      obtain⟨k,x,e1,e2⟩:=hv 0 u rfl
      simp at e1
      subst e1
      show RelV (kV p.1) u
      rw[h.1]
      exact PB e2
   exact key rel (by have:=it.1;simp only[Array.length_toList];lia) λj v e=>it.2 j v (by rw[←Array.getElem?_toList];exact e)
  refine⟨.ref s.heap.objs.size,_,I.laid (t':=tk) kp (Nat.le_refl _) (show ck X.prog X.w _ h' _ (.lst (kvs.map λp=>kV p.1))from⟨by rw[List.length_map];exact z,acc.toList,c,rv,by rw[Array.toArray_toList];exact hl⟩),rfl,q _ _ (I.hok.fresh (Nat.le_refl _)) (.inl ⟨kvs,e,rfl⟩)⟩
 ·obtain⟨z,hd,xs,rel,dd⟩:=rL I.hok e
  obtain⟨o,es,ep,ho,hcd,hdat,he,_,_⟩:=id dd
  have hs:=size_of_entries he
  have lr:=Paired.length rel
  refine PySem.W.kdl_call (RD.src (es:=es) (ep:=ep) hd) (I.ok.hd hc) ⟨o,ho,hcd,hdat⟩ LI λh' tk acc c kp hl it=>?_
  have rv:∃ys,Vals ys acc.toList/\Paired (λ(y:V) (p:List Key×V)=>∃b,y=.ref b/\H b=some (.tup (p.1.map kV))) ys kvs:=by
   have key:∀{kvs:List (List Key×V)}{xs:List (List Key×Addr×Value)}{acc:List Value},KT H kvs xs->acc.length=xs.length->(∀(j:Nat) v,acc[j]? = some v->∃x,xs[j]? = some x/\v=.ref x.2.1)->∃ys,Vals ys acc/\Paired (λ(y:V) (p:List Key×V)=>∃b,y=.ref b/\H b=some (.tup (p.1.map kV))) ys kvs:=by
    intro kvs xs acc r
    induction r generalizing acc with
    |nil=>intro hl _;cases acc with
     |nil=>exact⟨[],.nil,.nil⟩
     |cons _ _=>simp at hl
    | @cons p q ps qs h t ih=>
     intro hl hv
     cases acc with
     |nil=>simp at hl
     |cons u acc=>
      obtain⟨ys,r1,r2⟩:=ih (acc:=acc) (by simpa using hl) λj v e=>by have:=hv (j+1) v (by simpa using e);simpa using this
      obtain⟨x,e1,e2⟩:=hv 0 u rfl
      simp at e1
      subst e1
      exact⟨.ref q.2.1::ys,.cons e2 r1,.cons ⟨_,rfl,h.2.1⟩ r2⟩
   refine key rel (by have:=it.1;simp only[Array.length_toList];lia) λj v e'=>?_
   obtain⟨en,h1,h2⟩:=it.2 j v (by rw[←Array.getElem?_toList];exact e')
   rw[entry_at he j]at h1
   obtain⟨x,hx,Jb⟩:=Option.map_eq_some_iff.mp h1
   exact⟨x,hx,by rw[h2,←Jb];rfl⟩
  obtain⟨ys,r1,r2⟩:=rv
  have ly:=Paired.length r2
  refine⟨.ref s.heap.objs.size,_,I.laid (t':=tk) kp (Nat.le_refl _) (show ck X.prog X.w _ h' _ (.lst ys)from⟨by lia,acc.toList,c,r1,by rw[Array.toArray_toList];exact hl⟩),rfl,q _ _ (I.hok.fresh (Nat.le_refl _)) (.inr ⟨kvs,e,r2⟩)⟩
section
variable {P:Program} {w:World} {H H':Hp} {h:Heap} {a:Addr} {o:HO}
end
section
variable {X:Cx} {pins:List (Addr×Obj)} {σ:St} {H H':Hp} {s s':Shared} {a:Addr} {C:Value} {B h2:Heap}
end
section
variable {P:Program} {w:World} {K:Fg7} {mg:Str->Option Value} {base:Heap} {N:List Str} {qual:Str} {scope:Scope} {f:Addr} {cd:Value} {A:Around} {outer:List Env} {s:Shared} {H:Hp} {E:XK}
end
section
variable {X:Cx} {E:XK} {x:Str} {C:Addr} {bmB:List Value} {newId B initId:String} {e₀:Expr} {es:List Expr} {t:TA} {np cpos pos:Pos}
end
section
variable {X:Cx} {pins gh:List (Addr×Obj)} {σ:St} {H:Hp} {s:Shared} {E:XK} {a:Addr}
end
section
variable {X:Cx} {body suite:List Stmt} {b₀:Stmt} {h₀:ExceptHandler} {hs:List ExceptHandler} {tb th:TS} {tE:XK->TS} {x n:Str} {C':Addr} {np pos hpos:Pos} {i:Nat}
end
section
variable {X:Cx} {pins:List (Addr×Obj)} {σ:St} {H:Hp} {s:Shared}
end
section
variable {X:Cx} {body suite:List Stmt} {b₀:Stmt} {th:TS} {tE:XK->TS} {x n:Str} {C':Addr} {np pos hpos:Pos} {i:Nat}
end
end L2
namespace RD
open PySem PyProof.Rows
section
variable {prog:Program} {w:World} {A:Around} {E:Value->Shared->Prop} {s:Shared} {d it v:Addr} {es:Array DictEntry} {ep i:Nat} {ok ov:Value}
theorem Pz{Q:Value->Shared->Prop}(hd:(d==sysModules)=false)(x:Raw s.heap d es ep)(hQ:Q (.ref s.heap.objs.size) {s with heap:=s.heap.push {cls:=.type "dict_items",data:=.fields #[.ref d]} }):
  wpAny (model prog w) A (call (.builtin "dict.items") [.ref d]) Q E s:=by
 have hT:=x.type
 refine call_meetsIn (S:=λ_ R s=>(∃es ep,Raw s.heap d es ep)/\R (.ok (.ret (.ref s.heap.objs.size))) {s with heap:=s.heap.push {cls:=.type "dict_items",data:=.fields #[.ref d]} }) PySem.F.slot_dict_items hT PySem.F.entry_dict_items (PySem.F.args_dict_items_1 _) ?_ ⟨⟨_,_,x⟩,hQ⟩
 refine .of_wp λA R s ⟨⟨es,ep,hm⟩,h⟩=>?_
 unfold Builtin.«dict.items»;refine wpAny_bind ?_
 unfold Builtin.Dict.noArgs;refine wpAny_bind (wpAny_notOrdered_dict hm.type ?_)
 show wpAny _ _ (pure d) _ _ s;refine wpAny_pure ?_
 show wpAny _ _ (Builtin.Dict.showsAll d >>= _) _ _ s;unfold Builtin.Dict.showsAll
 rw[if_neg (by rw[hd];exact Bool.false_ne_true)];refine wpAny_bind (wpAny_pure (wpAny_bind (wpAny_newObj_type (wpAny_pure ⟨_,rfl,h⟩))))
theorem PD{Q:Value->Shared->Prop}(hv:s.heap.IsItemsView v d)(x:Raw s.heap d es ep)
  (hQ:Q (.ref s.heap.objs.size) {s with heap:=s.heap.push {cls:=.type "dict_itemiterator",data:=.fields #[.none,.bool false,.ref d,.int 0 0,.int es.size 0,.int ep 0,.none,.none]} }):
  wpAny (model prog w) A (pyIter (.ref v)) Q E s:=by
 obtain⟨o',hov,hcv,hdv⟩:=id hv;obtain⟨o,ho,hc,hdat⟩:=x
 refine wpAny_pyIter_slot hv.typeIs F.slot_dict_items_iter (wpAny_call_entry F.slot_dict_items_iter hv.typeIs F.entry_dict_items_iter ?_ (F.args_dict_items_iter_1 _))
 unfold Builtin.«dict_items.__iter__»;refine wpAny_bind (wpAny_pure (wpAny_bind ?_))
 unfold Builtin.Dict_items.dictOf;refine wpAny_bind (wpAny_field hov hdv (x:=.ref d) rfl (wpAny_pure (wpAny_bind ?_)))
 unfold Builtin.Dict_items.newIterator;refine wpAny_bind (wpAny_dictEntries ho hdat (wpAny_bind (wpAny_dictEpoch ho hdat ?_)))
 have hown:Builtin.Dict_items.ownsTuple "dict_itemiterator"=true:=by decide
 simp only[hown,if_true];refine wpAny_newObj_type (wpAny_pure ⟨_,rfl,"dict_itemiterator",_,⟨_,Heap.get?_push_size _ rfl,rfl⟩,F.slot_dict_itemiterator_next.lookup,?_⟩) (by simp only[sizeOk,Builtin.Dict_items.ownedTupleFields,List.size_toArray,List.length_append,List.length_cons,List.length_nil,sizeLine_eq];lia)
 simpa [rawInt,Builtin.Dict_items.ownedTupleFields]using hQ
theorem PC{Q:Option Value->Shared->Prop}(hit:IsItemIter s.heap it d i es.size ep ok ov)(x:Raw s.heap d es ep)(hi:i<es.size)
    (hQ:∀h',IsItemIterOut h' it d (i+1) es.size ep es[i].key es[i].val s.heap.objs.size->h'.get? s.heap.objs.size=some {cls:=.type "tuple",data:=.seq #[es[i].key,es[i].val]}->h'.objs.size=s.heap.objs.size+1->
      (∀b o,b≠it->s.heap.get? b=some o->h'.get? b=some o)->Q (some (.ref s.heap.objs.size)) {s with heap:=h'}):wpAny (model prog w) A (pyNext (.ref it)) Q E s:=by
  obtain⟨hp,g,dr,tk,os⟩:=s;obtain⟨od,hod,hcd,zc⟩:=x
  have hT:Shared.TypeIs ⟨hp,g,dr,tk,os⟩ (.ref it) "dict_itemiterator":=⟨_,hit,rfl⟩
  unfold pyNext;refine wpAny_bind (wpAny_attempt (wpAny_callSpecial?_slot (name:=Str.ofString "__next__") hT F.slot_dict_itemiterator_next (wpAny_call_entry F.slot_dict_itemiterator_next hT F.entry_dict_itemiterator_next ?_ (F.args_dict_itemiterator_next_1 _))))
  refine wpAny_bind (wpAny_pure (wpAny_bind (wpAny_bind ?_)))
  refine wpAny_bind (wpAny_typeNameOfWhole_itemiter hT (wpAny_pure ?_));refine wpAny_bind (wpAny_fieldsOf hit rfl ?_)
  have hown:Builtin.Dict_items.ownsTuple "dict_itemiterator"=true:=by decide
  simp only[hown,if_true];show wpAny _ _ (if(Value.ref d==Value.none)=true then _ else _) _ _ _
  rw[if_neg (show¬((Value.ref d==Value.none)=true)from Bool.false_ne_true)];refine wpAny_bind (wpAny_pure (wpAny_bind (wpAny_dictEntries hod zc ?_)))
  rw[if_neg (by simp)];refine wpAny_bind (wpAny_pure (wpAny_bind (wpAny_dictEpoch hod zc ?_)))
  rw[if_neg (by simp)];refine wpAny_pure ?_
  simp only[show¬((i:Int)<0)from by lia,if_false,Int.toNat_natCast,Array.getElem?_eq_getElem hi];refine wpAny_bind ?_
  refine wpAny_bind (wpAny_typeNameOfWhole_itemiter hT (wpAny_pure ?_));refine wpAny_bind (wpAny_isOneOf_itemiter hT ?_)
  show wpAny _ _ (setField (.ref it) 3 (rawInt ((i:Int)+1)) >>= _) _ _ ⟨hp,g,dr,tk,os⟩;refine wpAny_bind (wpAny_setField_rec hit (by simp) λh₁ QX hs₁=>?_)
  replace hs₁:Heap.SameBut it hp h₁:=hs₁
  replace QX:IsItemIter h₁ it d (i+1) es.size ep ok ov:=by have e:((i+1:Nat):Int)=(i:Int)+1:=by lia
                                                           unfold IsItemIter;rw[e];simpa [rawInt]using QX
  have hT₁:Shared.TypeIs ⟨h₁,g,dr,tk,os⟩ (.ref it) "dict_itemiterator":=⟨_,QX,rfl⟩
  refine wpAny_bind (wpAny_holding ?_);refine wpAny_bind (wpAny_isOneOf_itemiter hT₁ ?_);refine wpAny_bind (wpAny_isOneOf_itemiter hT₁ ?_)
  show wpAny _ _ (Builtin.Dict_items.pairFromOwner (.ref it) 6 es[i].key es[i].val) _ _ ⟨h₁,g,dr,tk,os⟩;unfold Builtin.Dict_items.pairFromOwner
  refine wpAny_bind (wpAny_newTuple ?_)
  have QW:IsItemIter (h₁.push {cls:=.type "tuple",data:=.seq #[es[i].key,es[i].val]}) it d (i+1) es.size ep ok ov:=Heap.get?_push_of_some _ QX
  generalize SX:h₁.push {cls:=.type "tuple",data:=.seq #[es[i].key,es[i].val]}=h₂ at QW
  have SN:h₁.objs.size=hp.objs.size:=hs₁.1;have hil:it<hp.objs.size:=Heap.lt_size hit
  have ht₂:h₂.get? hp.objs.size=some {cls:=.type "tuple",data:=.seq #[es[i].key,es[i].val]}:=by rw[←SX,←SN];exact Heap.get?_push_size _ rfl
  have hz₂:h₂.objs.size=hp.objs.size+1:=by rw[←SX,Heap.size_push,SN]
  have hk₂:∀b o,b≠it->hp.get? b=some o->h₂.get? b=some o:=λb o hb e=>by rw[←SX];exact Heap.get?_push_of_some _ (hs₁.extBut b o hb e)
  show wpAny _ _ (Builtin.Dict_items.ownedTupleIsFree (.ref it) >>= _) _ _ ⟨h₂,g,dr,tk,os⟩;rw[SN]
  clear SX QX hs₁ hT₁ SN h₁;refine wpAny_bind ?_
  unfold Builtin.Dict_items.ownedTupleIsFree;refine wpAny_bind (wpAny_field QW rfl (x:=.none) rfl (wpAny_pure ?_))
  simp only[if_true];refine wpAny_bind (wpAny_field QW rfl (x:=ok) rfl (wpAny_bind (wpAny_field QW rfl (x:=ov) rfl ?_)))
  refine wpAny_bind (wpAny_setField_rec QW (by simp) λh₃ VS Qd=>?_);replace Qd:Heap.SameBut it h₂ h₃:=Qd
  replace VS:IsItemIter h₃ it d (i+1) es.size ep es[i].key ov:=VS;refine wpAny_bind (wpAny_setField_rec VS (by simp) λh₄ VR Qc=>?_)
  replace Qc:Heap.SameBut it h₃ h₄:=Qc;replace VR:IsItemIter h₄ it d (i+1) es.size ep es[i].key es[i].val:=VR
  refine wpAny_bind (wpAny_setField_rec VR (by simp) λh₅ VQ Qa=>?_);replace Qa:Heap.SameBut it h₄ h₅:=Qa
  replace VQ:IsItemIterOut h₅ it d (i+1) es.size ep es[i].key es[i].val hp.objs.size:=VQ;refine wpAny_bind (wpAny_setField_rec VQ (by simp) λh₆ VP P_=>?_)
  replace P_:Heap.SameBut it h₅ h₆:=P_;replace VP:IsItemIterOut h₆ it d (i+1) es.size ep es[i].key es[i].val hp.objs.size:=VP
  refine wpAny_bind (wpAny_letGo (wpAny_pure (wpAny_pure ⟨_,rfl,wpAny_pure (hQ h₆ VP ?_ ?_ ?_)⟩)))
  · exact P_.extBut _ _ (Nat.ne_of_gt hil) (Qa.extBut _ _ (Nat.ne_of_gt hil) (Qc.extBut _ _ (Nat.ne_of_gt hil) (Qd.extBut _ _ (Nat.ne_of_gt hil) ht₂)))
  · show h₆.objs.size=hp.objs.size+1;rw[P_.1,Qa.1,Qc.1,Qd.1,hz₂]
  · exact λb o hb e=>P_.extBut b o hb (Qa.extBut b o hb (Qc.extBut b o hb (Qd.extBut b o hb (hk₂ b o hb e))))
theorem Vn{Q:Option Value->Shared->Prop}(hh:A.handled=none)(hit:IsItemIter s.heap it d i es.size ep ok ov)(x:Raw s.heap d es ep)(hi:es.size<=i)(hQ:∀h',Heap.ExtBut it s.heap h'->Q none {s with heap:=h'}):wpAny (model prog w) A (pyNext (.ref it)) Q E s:=by
 obtain⟨od,hod,hcd,zc⟩:=x;have hT:s.TypeIs (.ref it) "dict_itemiterator":=⟨_,hit,rfl⟩
 unfold pyNext;refine wpAny_bind (wpAny_attempt (wpAny_callSpecial?_slot (name:=Str.ofString "__next__") hT F.slot_dict_itemiterator_next (wpAny_call_entry F.slot_dict_itemiterator_next hT F.entry_dict_itemiterator_next ?_ (F.args_dict_itemiterator_next_1 _))))
 refine wpAny_bind (wpAny_pure (wpAny_bind (wpAny_bind ?_)))
 refine wpAny_bind (wpAny_typeNameOfWhole_itemiter hT (wpAny_pure ?_));refine wpAny_bind (wpAny_fieldsOf hit rfl ?_)
 have hown:Builtin.Dict_items.ownsTuple "dict_itemiterator"=true:=by decide
 simp only[hown,if_true];show wpAny _ _ (if(Value.ref d==Value.none)=true then _ else _) _ _ s
 rw[if_neg (show¬((Value.ref d==Value.none)=true)from Bool.false_ne_true)];refine wpAny_bind (wpAny_pure (wpAny_bind (wpAny_dictEntries hod zc ?_)))
 rw[if_neg (by simp)];refine wpAny_bind (wpAny_pure (wpAny_bind (wpAny_dictEpoch hod zc ?_)))
 rw[if_neg (by simp)];refine wpAny_pure ?_
 simp only[show¬((i:Int)<0)from by lia,if_false,Int.toNat_natCast,Array.getElem?_eq_none hi];refine wpAny_bind ?_
 refine wpAny_bind (wpAny_typeNameOfWhole_itemiter hT (wpAny_pure ?_));show wpAny _ _ (setField (.ref it) 2 .none >>= _) _ _ s
 refine wpAny_bind (wpAny_setField hit rfl (by simp) ?_);show wpAny _ _ (newExc (.type "StopIteration") [] >>= _) _ _ _
 refine wpAny_bind ?_;simp only[newExc,newTuple]
 refine wpAny_bind (wpAny_newObj_type ?_ (by size_fits));refine wpAny_bind (m:=firstArgMember _ _) (wpAny_of_eq (a:=Value.none) (by first|rfl|(simp only[firstArgMember];rfl)) ?_)
 refine wpAny_newObj_type ?_ (by size_fits);simp only[raiseNew]
 refine wpAny_bind (wpAny_handled ?_);rw[show A.in1.handled=none from hh]
 refine wpAny_bind (wpAny_pure (wpAny_throw ?_));refine wpAny_bind (wpAny_isInstance (T:="StopIteration") (b:=true) ⟨_,Heap.get?_push_size _ rfl,rfl⟩ isSubtype_stop ?_)
 exact wpAny_pure (hQ _ (((Heap.SameBut.update ..).extBut.push _).push _))
end
end RD
namespace L2
open PySem PySem.Spec PyProof.Rows
section
variable {X:Cx} {pins:List (Addr×Obj)} {σ:St} {H:Hp} {s:Shared} {d:Addr} {o:Obj} {u:HO} {kvs:List (List Key×V)}
theorem Inv.NJ(I:Inv X pins σ H s)(e:H d=some (.ef o u))(h0:∀o' u',X.H₀ d≠some (.ef o' u')):Inv X pins σ (upd H d u) s:=by
 have ne:∀{b:Addr},H b=none->b≠d:=λz q=>by rw[q,e]at z;cases z
 refine⟨I.ok,I.os,I.bare,⟨I.base.keep,I.base.slot,λb ob q n hx=>?_,I.base.there,λb xs q=>?_,λb ob v q=>?_,λb ps q=>?_⟩,I.loc,I.cell,by rw[ai (ne I.free)];exact I.free,λx c q=>by rw[ai (ne (I.fO x c q))];exact I.fO x c q,λp hp=>?_,λb ob q=>?_,I.len⟩
 ·have z:=I.base.free b ob q n hx
  rw[ai (ne z)];exact z
 ·have z:=I.base.tups b xs q
  rw[ai (aI z e (by intro y;cases y))];exact z
 ·have z:=I.base.lG b ob v q
  rw[ai (λy=>h0 ob v (by rw[←y];exact q))];exact z
 ·obtain⟨m,z⟩:=I.base.pK b ps q
  exact⟨m,by rw[ai (aI z e (by intro y;cases y))];exact z⟩
 ·obtain⟨q,n,r⟩:=I.pin p hp
  exact⟨q,by rw[ai (ne n)];exact n,r⟩
 ·have ow:∀{c a:Addr},H c=some (.own a)->upd H d u c=some (.own a):=λz=>by rw[ai (aI z e (by intro y;cases y))];exact z
  have tp:∀{c:Addr}{xs:List V},H c=some (.tup xs)->upd H d u c=some (.tup xs):=λz=>by rw[ai (aI z e (by intro y;cases y))];exact z
  by_cases hb:b=d
  ·subst hb
   rw[af]at q;cases q
   obtain⟨_,z⟩:=(show ck X.prog X.w H s.heap b (.ef o u)from I.hok b _ e)
   exact z.stay (λ_ _ _ y=>y) (λ_ y=>ow y) λ_ _ y=>tp y
  ·rw[ai hb]at q
   exact(I.hok b ob q).stay (λ_ _ _ y=>y) (λ_ y=>ow y) λ_ _ y=>tp y
def CY:HO->Prop
 |.ef _ _=>False
 |_=>True
inductive BC(t:TE)(σ:St)(H:Hp)(Q:VK):Prop
 |mk(d:_)(u:_):(H d=some u)->(CY u)->(t σ H λv H'=>∃o,H' d=some (.ef o u)/\Q v (upd H' d u))->BC t σ H Q
def NL(t:TE):TE:=λσ H Q=>BC t σ H Q
theorem Gf{e:Expr}{t:TE}(h:PE X e t):PE X e (NL t):=by
 intro pins s σ H Q I hq
 obtain⟨d,u,hd,hn,q⟩:=hq
 refine cW (h pins s σ H _ I q) λv s1 ⟨x,H1,I1,r,o,e1,q1⟩=>⟨x,_,I1.NJ e1 λo' u' z=>?_,r,q1⟩
 have:=I.base.lG d o' u' z
 rw[hd]at this;cases this
 exact hn
theorem pB{P:Program}{w:World}{H:Hp}{h:Heap}{es:Array DictEntry}{ep:Nat}(ok:kB P w H h)(e:H d=some (.ef o (.dT kvs)))(ho:o.data=.dict es ep):
  ∃xs,KT H kvs xs/\RD.Raw h d es ep/\es.toList=xs.map (entryOfKey (tupleKind (bH P w)))/\es.size=kvs.length/\(d==sysModules)=false:=by
 obtain⟨h1,_,hd,xs,rel,o',es',Np,h2,h3,h4,h5,_⟩:=(show ck P w H h d (.ef o (.dT kvs))from ok d _ e)
 rw[h1]at h2;cases h2
 rw[ho]at h4;cases h4
 exact⟨xs,rel,⟨o,h1,h3,ho⟩,h5,by have:=congrArg List.length h5;rw[List.length_map,←Paired.length rel]at this;simpa using this,hd⟩
theorem KT.at{xs:List (List Key×Addr×Value)}(r:KT H kvs xs){i:Nat}(hi:i<kvs.length):∃k v x,kvs[i]? = some (k,v)/\xs[i]? = some x/\H x.2.1=some (.tup (k.map kV))/\RelV v x.2.2:=by
 induction r generalizing i with
 |nil=>exact absurd hi (by simp)
 | @cons p q ps qs h t ih=>
  cases i with
  |zero=>exact⟨p.1,p.2,q,rfl,rfl,h.2.1,h.2.2⟩
  |succ i=>
   obtain⟨k,v,x,h1,h2,h3⟩:=ih (i:=i) (by simpa using hi)
   exact⟨k,v,x,by simpa using h1,by simpa using h2,h3⟩
def RY(d:Addr)(o:Obj):It:=⟨λi H=>∃kvs,H d=some (.ef o (.dT kvs))/\i<kvs.length,λi H x H'=>H'=H/\∀kvs,H d=some (.ef o (.dT kvs))->∃k v b,kvs[i]? = some (k,v)/\x=.ref b/\H b=some (.tup (k.map kV)),λi H=>∃kvs,H d=some (.ef o (.dT kvs))/\kvs.length=i⟩
def RZ(d:Addr)(o:Obj):It:=⟨λi H=>∃kvs,H d=some (.ef o (.dT kvs))/\i<kvs.length,λi H x H'=>∀kvs,H d=some (.ef o (.dT kvs))->∃k v b t,kvs[i]? = some (k,v)/\x=.ref t/\H t=none/\H b=some (.tup (k.map kV))/\H'=upd H t (.tup [.ref b,v]),λi H=>∃kvs,H d=some (.ef o (.dT kvs))/\kvs.length<=i⟩
theorem wm{P:Program}{w:World}{K:Fg7}{tg:Expr}{es:Array DictEntry}{ep:Nat}(it:Addr)(ho:o.data=.dict es ep):Turn P w K tg (RY d o) [it] it (λi h=>h.IsKeyIter it d i es.size ep)where
 mem:=by simp
 obj:=λi h st b hb=>by
  have e:b=it:=by simpa using hb
  subst e
  obtain⟨o',e,c,dd⟩:=st
  exact⟨o',e,λv z=>by rw[dd]at z;cases z⟩
 keep:=λi h h' st k=>st.at λo e=>k it (by simp) o e
 item:=by
  intro X hP hw hK hc i pins s σ H E I hf st hg
  subst hP hw hK
  obtain⟨kvs,hk,hi⟩:=hg
  obtain⟨xs,rel,raw,he,hz,hd⟩:=pB I.hok hk ho
  obtain⟨k,v,x,h1,h2,h3,h4⟩:=rel.at hi
  obtain⟨f0,f1,f2,f3,f4,f5⟩:=hf it (by simp)
  have QT:i<es.size:=by lia
  refine RD.next st raw QT λh' st' sb=>?_
  have I1:Inv X pins σ H {s with heap:=h'}:=I.turned (t':=s.toks) (λb ob hb e=>(sb.2 b hb).trans e) f0 f1 f3 f4 f5
  obtain⟨o',e',c',JQ⟩:=id st'
  have ek:es[i].key=.ref x.2.1:=by
   have z:=entry_at he i
   rw[h2,Array.getElem?_eq_getElem QT]at z
   have z':=Option.some.inj z
   rw[z'];rfl
  refine⟨_,rfl,rG (s:={s with heap:=h'}) e' c' JQ (by decide) ⟨.ref x.2.1,H,I1,by rw[ek];rfl,⟨rfl,λkvs' hk'=>?_⟩,st',λb hb=>(hf b hb).1⟩⟩
  rw[hk]at hk';cases hk'
  exact⟨k,v,x.2.1,h1,rfl,h3⟩
 done:=by
  intro X hP hw hK hc i pins s σ H E I hf st hg
  subst hP hw hK
  obtain⟨kvs,hk,hi⟩:=hg
  obtain⟨xs,rel,raw,he,hz,hd⟩:=pB I.hok hk ho
  obtain⟨f0,f1,f2,f3,f4,f5⟩:=hf it (by simp)
  obtain rfl:i=es.size:=by lia
  exact RD.fin (I.ok.hd hc) st raw λh' eb=>⟨rfl,I.turned (t':=s.toks) (λb ob hb e=>eb b ob hb e) f0 f1 f3 f4 f5⟩
 self:=λ_ _ _ _ _ st h=>wpAny_pyIter_keyiter st h
theorem uu{P:Program}{w:World}{K:Fg7}{elts:List Expr}{x1}{tpos:Pos}{es:Array DictEntry}{ep:Nat}(it:Addr)(ho:o.data=.dict es ep):Turn P w K (.Tuple elts x1 tpos) (RZ d o) [it] it (λi h=>∃ok ov,IsItemIter h it d i es.size ep ok ov)where
 mem:=by simp
 obj:=λi h ⟨ok,ov,st⟩ b hb=>by
  have e:b=it:=by simpa using hb
  subst e
  exact⟨_,st,λv z=>by
   have z':Data.fields _=Data.cell v:=z
   cases z'⟩
 keep:=λi h h' ⟨ok,ov,st⟩ k=>⟨ok,ov,k it (by simp) _ st⟩
 item:=by
  intro X hP hw hK hc i pins s σ H E I hf st hg
  subst hP hw hK
  obtain⟨ok,ov,st⟩:=st
  obtain⟨kvs,hk,hi⟩:=hg
  obtain⟨xs,rel,raw,he,hz,hd⟩:=pB I.hok hk ho
  obtain⟨k,v,x,h1,h2,h3,h4⟩:=rel.at hi
  obtain⟨f0,f1,f2,f3,f4,f5⟩:=hf it (by simp)
  have QT:i<es.size:=by lia
  have ee:es[i].key=.ref x.2.1/\es[i].val=x.2.2:=by
   have z:=entry_at he i
   rw[h2,Array.getElem?_eq_getElem QT]at z
   have z':=Option.some.inj z
   rw[z'];exact⟨rfl,rfl⟩
  refine RD.PC st raw QT λh' st' ht' hsz' kp'=>⟨_,rfl,?_⟩
  rw[ee.1,ee.2]at st' ht'
  refine wpAny_letOwnedTupleGo_items (s:={s with heap:=h'}) st' λh2' st2 sb=>?_
  have XT:it<s.heap.objs.size:=Heap.lt_size st
  have kp:∀b ob,b≠it->s.heap.get? b=some ob->h2'.get? b=some ob:=λb ob hb e=>sb.extBut b ob hb (kp' b ob hb e)
  have htn:h2'.get? s.heap.objs.size=some {cls:=.type "tuple",data:=.seq #[.ref x.2.1,x.2.2]}:=sb.extBut _ _ (Nat.ne_of_gt XT) ht'
  have I1:Inv X pins σ H {s with heap:=s.heap}:=I
  have fr:H s.heap.objs.size=none:=I.hok.fresh (Nat.le_refl _)
  have I2:Inv X pins σ (upd H s.heap.objs.size (.tup [.ref x.2.1,v])) {s with heap:=h2'}:=by
   have OJ:∀{b:Addr}{ob:HO},H b=some ob->b≠it:=λe z=>by rw[z,f0]at e;cases e
   refine I.step (g':=s.gens) (d':=s.drawn) (t':=s.toks) (ch:=[it]) (λb hb=>?_) (λb ob _ _ hc' e _=>kp b ob (λz=>hc' (by simp[z])) e) (λb ob _ _ hc' e _=>⟨ob.slots,kp b ob (λz=>hc' (by simp[z])) e⟩)
    (λb ob _ e n=>by rw[ai (Nat.ne_of_lt (Heap.lt_size e))];exact n) (λb ob hc' e=>⟨ob,kp b ob (λz=>hc' (by simp[z])) e⟩)
    (λb ys e=>by rw[ai (au e fr)];exact e) (λb ob w' e=>by rw[ai (au e fr)];exact e) (λb ps e=>⟨#[],by rw[ai (au e fr),e];simp⟩) (λm hm=>?_) (λb ob e=>?_) I.bare
   ·have e:b=it:=by simpa using hb
    subst e
    exact⟨f3,f1,f4,f5⟩
   ·obtain⟨ob,es',Np,hob,r⟩:=hm
    exact⟨ob,es',Np,kp _ _ (Ne.symm f1) hob,r⟩
   ·by_cases hb:b=s.heap.objs.size
    ·subst hb
     rw[af]at e;cases e
     exact⟨by show 2<=sizeLine;decide,[.ref x.2.1,x.2.2],.cons rfl (.cons h4 .nil),⟨_,htn,rfl,_,rfl⟩⟩
    ·rw[ai hb]at e
     refine(I.hok b ob e).stay (λc u hc' q=>kp c u ?_ q) (λc q=>by rw[ai (au q fr)];exact q) λc ys q=>by rw[ai (au q fr)];exact q
     rcases hc' with z|z
     ·rw[z];exact OJ e
     ·exact OJ z
  refine⟨.ref s.heap.objs.size,_,I2,rfl,λkvs' hk'=>?_,⟨_,_,st2⟩,λb hb=>?_⟩
  ·rw[hk]at hk';cases hk'
   exact⟨k,v,x.2.1,_,h1,rfl,fr,h3,rfl⟩
  ·have e:b=it:=by simpa using hb
   subst e
   rw[ai (Nat.ne_of_lt XT)];exact f0
 done:=by
  intro X hP hw hK hc i pins s σ H E I hf st hg
  subst hP hw hK
  obtain⟨ok,ov,st⟩:=st
  obtain⟨kvs,hk,hi⟩:=hg
  obtain⟨xs,rel,raw,he,hz,hd⟩:=pB I.hok hk ho
  obtain⟨f0,f1,f2,f3,f4,f5⟩:=hf it (by simp)
  exact RD.Vn (I.ok.hd hc) st raw LI λh' eb=>⟨rfl,I.turned (t':=s.toks) (λb ob hb e=>eb b ob hb e) f0 f1 f3 f4 f5⟩
 self:=λ_ _ _ _ _ ⟨_,_,st⟩ h=>PySem.W.kcp_self st h
end
def sZ(v d:Addr):Heap->Prop:=λh=>h.IsItemsView v d
inductive yI(x:V)(xs:List V)(H:Hp)(Q:VK):Prop
 |mk(d:_)(kvs:_):(x=.ref d)->(xs=[])->(H d=some (.dT kvs))->(∀v,H v=none->Q (.ref v) (upd H v (.ext (sZ v d))))->yI x xs H Q
def Kp:V->List V->Hp->VK->Prop:=λx xs H Q=>yI x xs H Q
inductive PM(R:It->Hp->Prop)(x:V)(H1:Hp):Prop
 |mk(d:_)(kvs:_):(x=.ref d)->(H1 d=some (.dT kvs))->(∀o,R (RY d o) (upd H1 d (.ef o (.dT kvs))))->PM R x H1
def iDK(te:TE):TI:=λσ H R=>te σ H λx H1=>PM R x H1
inductive PN(R:It->Hp->Prop)(x:V)(H1:Hp):Prop
 |mk(v:_)(d:_)(kvs:_):(x=.ref v)->(H1 v=some (.ext (sZ v d)))->(H1 d=some (.dT kvs))->(∀o,R (RZ d o) (upd H1 d (.ef o (.dT kvs))))->PN R x H1
def iDI(te:TE):TI:=λσ H R=>te σ H λx H1=>PN R x H1
section
variable {X:Cx} {pins:List (Addr×Obj)} {σ:St} {H:Hp} {s:Shared} {d:Addr} {kvs:List (List Key×V)}
theorem Inv.freeze(I:Inv X pins σ H s)(e:H d=some (.dT kvs)):∃o es ep,o.data=.dict es ep/\RD.Raw s.heap d es ep/\es.size=kvs.length/\(d==sysModules)=false/\Inv X pins σ (upd H d (.ef o (.dT kvs))) s:=by
 obtain⟨z,hd,xs,rel,o,es,ep,h1,h2,h3,h4,h5⟩:=(show ck X.prog X.w H s.heap d (.dT kvs)from I.hok d _ e)
 have hsz:es.size=kvs.length:=by have:=congrArg List.length h4;rw[List.length_map,←Paired.length rel]at this;simpa using this
 refine⟨o,es,ep,h3,⟨o,h1,h2,h3⟩,hsz,hd,I.write (t':=s.toks) (x:=d) (e:=d) (h':=s.heap) (by rw[e];exact True.intro) (.inl rfl) (λ_ _ _ q=>q) ⟨o,h1⟩ ⟨h1,z,hd,xs,?_,o,es,ep,h1,h2,h3,h4,h5⟩⟩
 exact Paired.Di rel λp q r=>⟨r.1,by rw[ai (aI r.2.1 e (by intro y;cases y))];exact r.2.1,r.2.2⟩
theorem De:YV X "dict.items" Kp:=by
 intro pins s σ H x xs v us Q I r rv h
 obtain⟨d,kvs,rfl,rfl,hk,q⟩:=h
 cases r
 cases rv
 obtain⟨o,es,ep,_,raw,_,hd,_⟩:=I.freeze hk
 refine RD.Pz hd raw ⟨.ref s.heap.objs.size,_,I.laid (t':=s.toks) (λb u e=>Heap.get?_push_of_some _ e) (Nat.le_refl _) (o:=.ext (sZ s.heap.objs.size d)) ?_,rfl,q _ (I.hok.fresh (Nat.le_refl _))⟩
 exact⟨⟨_,Heap.get?_push_size _ rfl,rfl,rfl⟩,⟨_,Heap.get?_push_size _ rfl⟩,λh1 h2 ⟨o',e',c⟩ k=>⟨o',k o' e',c⟩⟩
theorem CL{tg e:Expr}{te:TE}(he:PE X e te):PI X tg e (iDK te):=by
 intro pins s σ H R I h
 refine cW (he pins s σ H _ I h) λv s1 ⟨x,H1,I1,r1,d,kvs,ex,hk,q⟩=>?_
 subst ex
 cases r1
 obtain⟨o,es,ep,ho,raw,hz,hd,I2⟩:=I1.freeze hk
 refine RD.iter hd raw ?_
 refine⟨s1.heap.objs.size,[s1.heap.objs.size],_,_,_,rfl,I2.kept (t':=s1.toks) λb ob e=>Heap.get?_push_of_some _ e,wm _ ho,⟨_,Heap.get?_push_size _ rfl,rfl,rfl⟩,λb hb=>?_,q o⟩
 have e:b=s1.heap.objs.size:=by simpa using hb
 subst e
 exact I2.qf (Nat.le_refl _) (I2.hok.fresh (Nat.le_refl _))
theorem zV{elts:List Expr}{x1}{tpos:Pos}{e:Expr}{te:TE}(he:PE X e te):PI X (.Tuple elts x1 tpos) e (iDI te):=by
 intro pins s σ H R I h
 refine cW (he pins s σ H _ I h) λv s1 ⟨x,H1,I1,r1,vw,d,kvs,ex,hv,hk,q⟩=>?_
 subst ex
 cases r1
 obtain⟨o,es,ep,ho,raw,hz,hd,I2⟩:=I1.freeze hk
 obtain⟨view,_⟩:=(show ck X.prog X.w H1 s1.heap vw (.ext (sZ vw d))from I1.hok vw _ hv)
 refine RD.PD view raw ?_
 refine⟨s1.heap.objs.size,[s1.heap.objs.size],_,_,_,rfl,I2.kept (t':=s1.toks) λb ob e=>Heap.get?_push_of_some _ e,uu _ ho,⟨_,_,Heap.get?_push_size _ rfl⟩,λb hb=>?_,q o⟩
 have e:b=s1.heap.objs.size:=by simpa using hb
 subst e
 exact I2.qf (Nat.le_refl _) (I2.hok.fresh (Nat.le_refl _))
end
theorem tN{J:It}{n:Nat}{g:TG}{tc:TT}{te:TE}{js:List (Option Nat)}{σ:St}{H1:Hp}{D:Addr}{R:Hp->Prop}(Pv:Nat->List V->Hp->Prop)(h0:Pv 0 [] (upd H1 D (.lst [])))(hD:∀i ys H,Pv i ys H->H D=some (.lst ys))
  (hg:∀i ys H,i<n->Pv i ys H->J.go i H)(he:∀ys H,Pv n ys H->J.stop n H)
  (hs:∀i x ys H H',i<n->Pv i ys H->J.Bp i H x H'->g x (c_ js σ) H' λσ2 H2=>vQ (c_ js σ) σ2/\tc σ2 H2 λb H3=>
   if b=true then te σ2 H3 λv H4=>∃zs,H4 D=some (.lst zs)/\zs.length<sizeLine/\Pv (i+1) (zs++[v]) (upd H4 D (.lst (zs++[v])))else∃zs,Pv (i+1) zs H3)
  (hd:∀ys H,Pv n ys H->R H):
  ∃W:Nat->Nat->List V->Hp->Prop,(∃m,W 0 m [] (upd H1 D (.lst [])))/\
   ∀i m xs H,W i m xs H->H D=some (.lst xs)/\((J.stop i H/\R H)\/(J.go i H/\∃N:List V->Hp->Prop,(∀ys H',N ys H'->∃m',m'<m/\W (i+1) m' ys H')/\∀x H',J.Bp i H x H'->g x (c_ js σ) H' λσ2 H2=>vQ (c_ js σ) σ2/\tc σ2 H2 λb H3=>
    if b=true then te σ2 H3 λv H4=>∃ys,H4 D=some (.lst ys)/\ys.length<sizeLine/\N (ys++[v]) (upd H4 D (.lst (ys++[v])))
    else∃ys,N ys H3)):=by
 refine⟨λi m ys H=>m=n-i/\i<=n/\Pv i ys H,⟨n,by simp,Nat.zero_le _,h0⟩,?_⟩
 rintro i m ys H ⟨rfl,hi,p⟩
 refine⟨hD i ys H p,?_⟩
 by_cases hlt:i<n
 ·exact .inr ⟨hg i ys H hlt p,Pv (i+1),λzs H' p'=>⟨n-(i+1),by lia,rfl,hlt,p'⟩,λx H' y=>hs i x ys H H' hlt p y⟩
 ·have e:i=n:=by lia
  subst e
  exact .inl ⟨he ys H p,hd ys H p⟩
theorem cU{K:Fg7}{a:Addr}{xs:List V}{g:TG}{tc:TT}{te:TE}{js:List (Option Nat)}{σ:St}{H1:Hp}{D:Addr}{R:Hp->Prop}(Pv:Nat->List V->Hp->Prop)(h0:Pv 0 [] (upd H1 D (.lst [])))(hD:∀i ys H,Pv i ys H->H D=some (.lst ys))
  (hl:∀i ys H,i<=xs.length->Pv i ys H->bB K H a xs)
  (hs:∀i x ys H,xs[i]? = some x->Pv i ys H->g x (c_ js σ) H λσ2 H2=>vQ (c_ js σ) σ2/\tc σ2 H2 λb H3=>
   if b=true then te σ2 H3 λv H4=>∃zs,H4 D=some (.lst zs)/\zs.length<sizeLine/\Pv (i+1) (zs++[v]) (upd H4 D (.lst (zs++[v])))else∃zs,Pv (i+1) zs H3)
  (hd:∀ys H,Pv xs.length ys H->R H):
  ∃W:Nat->Nat->List V->Hp->Prop,(∃m,W 0 m [] (upd H1 D (.lst [])))/\
   ∀i m xs H,W i m xs H->H D=some (.lst xs)/\(((HF K a).stop i H/\R H)\/((HF K a).go i H/\∃N:List V->Hp->Prop,(∀ys H',N ys H'->∃m',m'<m/\W (i+1) m' ys H')/\∀x H',(HF K a).Bp i H x H'->g x (c_ js σ) H' λσ2 H2=>vQ (c_ js σ) σ2/\tc σ2 H2 λb H3=>
    if b=true then te σ2 H3 λv H4=>∃ys,H4 D=some (.lst ys)/\ys.length<sizeLine/\N (ys++[v]) (upd H4 D (.lst (ys++[v])))
    else∃ys,N ys H3)):=
 tN (J:=HF K a) (n:=xs.length) Pv h0 hD (λi ys H hi p=>⟨xs,xs[i],hl i ys H (Nat.le_of_lt hi) p,by simp[hi]⟩) (λys H p=>⟨xs,hl _ ys H (Nat.le_refl _) p,Nat.le_refl _⟩)
  (λi x ys H H' hi p y=>by
   obtain⟨e,y⟩:=y
   subst e
   exact hs i x ys _ (y xs (hl i ys _ (Nat.le_of_lt hi) p)) p) hd
structure bA(K:Fg7)(C:Addr)(m qual:Str)(st:Stmt):Prop where
 ex:∃(f:Addr) (oc:Value) (od:Option Addr) (kV doc pm:Value) (an:Option Addr) (cdv ct:Value) (osl:Array (Option Value)),
  PySem.W.findIn K (.ref C) m=some (some (.ref f))/\PySem.W.isFn K (.ref f)=true/\K.lookup f=some ⟨oc,od,.func (PySem.W.fnOf m qual (aJ st) (aG st) (aq st) .none kV doc pm an cdv ct),osl⟩/\PySem.W.codeIn K cdv qual=true/\PySem.W.keepIn K (.ref f)=true
theorem bA.mk'{K:Fg7}{C:Addr}{m qual:Str}{st:Stmt}{f:Addr}{oc:Value}{od:Option Addr}{kV doc pm:Value}{an:Option Addr}{cdv ct:Value}{osl:Array (Option Value)}(a:PySem.W.findIn K (.ref C) m=some (some (.ref f)))(i:PySem.W.isFn K (.ref f)=true)
  (l:K.lookup f=some ⟨oc,od,.func (PySem.W.fnOf m qual (aJ st) (aG st) (aq st) .none kV doc pm an cdv ct),osl⟩)(c:PySem.W.codeIn K cdv qual=true)(k:PySem.W.keepIn K (.ref f)=true):bA K C m qual st:=⟨⟨f,oc,od,kV,doc,pm,an,cdv,ct,osl,a,i,l,c,k⟩⟩
structure uc(K:Fg7)(x:Str)(C:Addr):Prop where
 at_:PySem.W.nsIn K mainGlobals x=some (some (.ref C))
 cl:EM K C
 makes:PySem.W.makesIn K C=true
 kp:PySem.W.keepIn K (.ref C)=true
def dF(P:Program)(w:World)(K:Fg7)(mg:Str->Option Value)(CX:Bd)(C:Addr)(m:Str)(ps:List Str)(k:Nat)(sp:Sp):Prop:=
 ∃(f:Addr) (fd:FuncData),Meth K C m f/\(∀us:List Value,us.length=ps.length->bindArgs fd ⟨us,[]⟩=pure (ps.zip us))/\∀base,nF P w K mg base CX k f fd ps sp
section
variable {P:Program} {w:World} {K:Fg7} {mg:Str->Option Value} {CX:Bd} {C:Addr} {m:Str} {ps:List Str} {j k:Nat} {sp ue:Sp}
theorem bA.fn{qual:Str}{st:Stmt}{N:List Str}(D:bA K C m qual st)(S:aS N ps (aq st))
  (hb:∀(kV doc pm:Value)(an:Option Addr)(cdv ct:Value)(us:List Value),us.length=ps.length->bindArgs (PySem.W.fnOf m qual (aJ st) (aG st) (aq st) .none kV doc pm an cdv ct) ⟨us,[]⟩=pure (ps.zip us))
  (len:∀vs H Q E,sp vs H Q E->vs.length=ps.length)
  (hbody:∀(f:Addr)(base:Heap)(cdv:Value)(A:Around)(outer:List Env)(s:Shared)(H:Hp)(vs:List V)(Q:VK)(E:XK),dj k (A.deeper (envOfC qual (aq st) s.heap.objs.size f cdv))->sp vs H Q E->
   ∃t,ug (oG jj P w K mg base N qual (aq st) f cdv A outer s H E).ER (aG st) t/\t {nx:=λ_ H'=>Q .dI H',rt:=Q} (start N vs) H):dF P w K mg jj C m ps (k+1) sp:=by
 obtain⟨f,oc,od,kV,doc,pm,an,cdv,ct,osl,a,i,l,c,kp⟩:=D.ex
 have F:Sd K m qual st f (PySem.W.fnOf m qual (aJ st) (aG st) (aq st) .none kV doc pm an cdv ct):=DY l c kp
 exact⟨f,_,⟨a,i,kp⟩,hb kV doc pm an cdv ct,λbase=>F.ok S len (hbody f base)⟩
end
section
variable {X:Cx} {CX:Bd} {k:Nat} {C:Addr} {ps:List Str} {sp:Sp} {E:XK} {x m:Str} {p pos apos:Pos} {e o:Expr} {es:List Expr} {ta:TE} {t:TA}
theorem dH{pl:Sem Bool}(he:PE X o ta)(c:EM X.K C)(F:dF X.prog X.w X.K X.mg CX C m ps k sp)(hx:Passes CX X E)(hr:dj k X.A)(ha:PA X (e::es) t)
  (hst:starEach (e::es) X.env=(false,eval e X.env)::starEach es X.env:=by rfl)(hpl:(backTo pos (starEach es X.env)).any (·.1)=false:=by rfl)
  (ht:eval (.Call (.Attribute o m apos) (e::es) [] pos) X.env=(do let ov ←eval o X.env;standAt apos.atName;let(f,first) ←holding [ov] (getMethod ov m pl);callWith pos f first (backTo pos (starEach (e::es) X.env)) (backToKw pos (keywordEach [] X.env))):=by rfl):
  PE X (.Call (.Attribute o m apos) (e::es) [] pos) (HV C m sp [] E ta t):=by
 obtain⟨f,fd,h1,h2,h3⟩:=F
 exact Gg he c h1 (h3 X.base) hr (.all h2) .nil hx ha hst hpl ht
theorem CN(c:uc X.K x C)(M:MG X.K X.mg)(F:dF X.prog X.w X.K X.mg CX C "__init__" ps k sp)(hx:Passes CX X E)(hr:dj (k+1) X.A)(hg:Gl X x)(ha:PA X (e::es) t)
  (hdb:(x==("__debug__":Str))=false:=by decide)(he:starEach (e::es) X.env=(false,eval e X.env)::starEach es X.env:=by rfl)(hpl:(backTo pos (starEach es X.env)).any (·.1)=false:=by rfl):
  PE X (.Call (.Name x p) (e::es) [] pos) (HW C sp [] E t):=by
 obtain⟨f,fd,h1,h2,h3⟩:=F
 exact Gh ⟨c.makes,h1.at_,h1.fn,c.kp⟩ (h3 X.base) hr hg (M.is _ _ c.at_) (.all h2) .nil hx ha hdb he hpl
end
section
variable {prog:Program} {w:World} {A:Around} {E:Value->Shared->Prop} {h:Heap} {g:Array GenState} {d:Drawn} {t:Nat} {os:OsState} {a C:Addr} {o:Obj} {K:Fg7} {x:Str}
end
section
variable {X:Cx}
end
section
variable {X:Cx} {K:Fg7}
theorem bh(e:X.K=K):ED X (Ko K):=by subst e;exact aY
theorem FI(e:X.K=K):RT X (Oh K):=by subst e;exact sF
theorem gj(e:X.K=K):iy X (binaryOp .Add) (IG K):=by subst e;exact sR
theorem Ge{es:List Expr}{k:Nat}{t:EY}{n:Nat}{pos:Pos}(e:X.K=K)(hc:X.calm=true)(h:Nu X es t)(hn:(assignEach es X.env).length=n:=by rfl)(hst:(assignEach es X.env).findIdx? (·.1)=none:=by rfl):PG X (.Tuple es k pos) (Rj K n t):=by
 subst e;exact KA hc h hn hst
theorem Gj{o:Expr}{ta:TE}{f:Str}{pos:Pos}(e:X.K=K)(he:PE X o ta)(hb:attributeBase o f X.env (eval o X.env)=eval o X.env:=by rfl):PE X (.Attribute o f pos) (Fx K ta f):=by
 subst e;exact dO he hb
variable {o e:Expr} {es:List Expr} {to:TE} {t:TA} {name:Str} {apos cpos:Pos} {T id:String} {r:V->List V->Hp->VK->Prop}
end
section
variable {X:Cx} {K:Fg7}
theorem j_{its:List Value}{ns:List Int}(hi:IntsAre its ns):∃xs:Array (Int×Tok),its.toArray=intItems xs/\ns=xs.toList.map (·.1):=by
 obtain⟨xs,e⟩:=hi.allInts.items
 exact⟨xs,e,by rw[←hi.numsOf,←nums_intItems,←e]⟩
inductive IA(K:Fg7)(xs:List V)(H:Hp)(Q:VK):Prop
 |mk(p:Addr)(ns:List Int):(xs=[.ref p])->(bB K H p (ns.map V.int))->(0<ns.length)->(∀M,M∈ns->(∀a∈ns,M<=a)->Q (.int M) H)->IA K xs H Q
def UA(K:Fg7):List V->Hp->VK->Prop:=λxs H Q=>IA K xs H Q
inductive IB(K:Fg7)(xs:List V)(H:Hp)(Q:VK):Prop
 |mk(p:Addr)(ns:List Int):(xs=[.ref p])->(bB K H p (ns.map V.int))->(0<ns.length)->(∀M,M∈ns->(∀a∈ns,a<=M)->Q (.int M) H)->IB K xs H Q
def UB(K:Fg7):List V->Hp->VK->Prop:=λxs H Q=>IB K xs H Q
inductive Iv(K:Fg7)(xs:List V)(H:Hp)(Q:VK):Prop
 |mk(p:Addr)(ns:List Int):(xs=[.ref p])->(bB K H p (ns.map V.int))->(Q (.int ns.sum) H)->Iv K xs H Q
def Uy(K:Fg7):List V->Hp->VK->Prop:=λxs H Q=>Iv K xs H Q
theorem AL(hc:X.calm=true):gZ X (.builtin "min") (UA X.K):=by
 intro pins s σ H xs us Q I r h
 obtain⟨p,ns,rfl,hp,hz,q⟩:=h
 obtain⟨u,rfl,rx⟩:=vals1 r
 cases rx
 obtain⟨its,r',pl,hz'⟩:=I.list hp
 obtain⟨ys,e,hns⟩:=j_ (intsAre_of r')
 have hl:=pl.isList
 rw[e]at hl
 have hsz:0<ys.size:=by rw[hns,List.length_map,Array.length_toList]at hz;exact hz
 refine min_intList (I.ok.hd hc) hl hsz λv h' tk hv hk=>?_
 obtain⟨t,rfl⟩:=intItems_at hv
 obtain⟨h1,h2⟩:=argBest_lt (numAt ys) (ys.size-1)
 refine⟨.int _,H,I.kept (t':=tk) hk,⟨t,rfl⟩,q _ ?_ λa ha=>?_⟩
 ·rw[hns,numAt_eq];exact getD_mem (by rw[List.length_map,Array.length_toList];lia)
 ·rw[hns]at ha
  obtain⟨j,hj,rfl⟩:=mem_getD ha;rw[List.length_map,Array.length_toList]at hj;rw[←numAt_eq];exact h2 j LI
theorem AM(hc:X.calm=true):gZ X (.builtin "max") (UB X.K):=by
 intro pins s σ H xs us Q I r h
 obtain⟨p,ns,rfl,hp,hz,q⟩:=h
 obtain⟨u,rfl,rx⟩:=vals1 r
 cases rx
 obtain⟨its,r',pl,hz'⟩:=I.list hp
 obtain⟨ys,e,hns⟩:=j_ (intsAre_of r')
 have hl:=pl.isList
 rw[e]at hl
 have hsz:0<ys.size:=by rw[hns,List.length_map,Array.length_toList]at hz;exact hz
 refine max_intList (I.ok.hd hc) hl hsz λv h' tk hv hk=>?_
 obtain⟨t,rfl⟩:=intItems_at hv
 obtain⟨h1,h2⟩:=argBest_gt (numAt ys) (ys.size-1)
 refine⟨.int _,H,I.kept (t':=tk) hk,⟨t,rfl⟩,q _ ?_ λa ha=>?_⟩
 ·rw[hns,numAt_eq];exact getD_mem (by rw[List.length_map,Array.length_toList];lia)
 ·rw[hns]at ha
  obtain⟨j,hj,rfl⟩:=mem_getD ha;rw[List.length_map,Array.length_toList]at hj;rw[←numAt_eq];exact h2 j LI
theorem AK(hc:X.calm=true):gZ X (.builtin "sum") (Uy X.K):=by
 intro pins s σ H xs us Q I r h
 obtain⟨p,ns,rfl,hp,q⟩:=h
 obtain⟨u,rfl,rx⟩:=vals1 r
 cases rx
 obtain⟨its,r',pl,hz'⟩:=I.list hp
 obtain⟨ys,e,hns⟩:=j_ (intsAre_of r')
 have hl:=pl.isList
 rw[e]at hl
 refine sum_intListG (I.ok.hd hc) hl λh' tk t' hk=>?_
 have e2:preSum (numAt ys) ys.size=ns.sum:=by rw[preSum_eq,List.take_of_length_le (by simp),hns]
 rw[e2]
 exact⟨.int _,H,I.kept (t':=tk) hk,⟨t',rfl⟩,q⟩
open Classical in
noncomputable def Nn(K:Fg7)(H:Hp)(d:Dv)(u:Value):Bool:=decide (Den K H u d)
inductive IF(K:Fg7)(neg:Bool)(x:V)(y:V)(H:Hp)(Q:VK):Prop
 |mk(p:_)(ys:_)(d:_)(ds:_):(y=.ref p)->(bB K H p ys)->(Dn K H x d)->(fy K H ys ds)->((∀e∈ds,gQ e d=true/\e.dep<=30))->(∀b:Bool,(b=true↔d∈ds)->Q (.bl (if neg then !b else b)) H)->IF K neg x y H Q
def Om(K:Fg7)(neg:Bool):R2:=λx y H Q=>IF K neg x y H Q
theorem rF{pins:List (Addr×Obj)}{σ:St}{H:Hp}{s:Shared}{A:Around}(I:Inv X pins σ H s)(hu:A.units+60<cLine){x:V}{v:Value}{d:Dv}(rx:RelV x v)(dx:Dn X.K H x d):∀{its:List Value}{ys:List V}{ds:List Dv},Vals ys its->fy X.K H ys ds->
  (∀e∈ds,gQ e d=true/\e.dep<=30)->(∀u∈its,SeqAt.EqAt A s u v (Nn X.K H d u))/\(its.any (Nn X.K H d)=true↔d∈ds)
 |[],_,_,r,dn,hm=>by
  cases r
  cases dn
  exact⟨λu hu=>(nomatch hu),by simp⟩
 |u::us,_,_,r,dn,hm=>by
  cases r with
  | @cons y _ ys _ ru ZE=>
   cases dn with
   | @cons _ _ e es dy EX=>
    obtain⟨h1,h2⟩:=rF I hu rx dx ZE EX λe' m=>hm e' (.tail _ m)
    obtain⟨m1,m2⟩:=hm e (.head _)
    obtain⟨b,q,hb⟩:=lH I 30 (A:=A) m2 LI m1 dy dx ru rx
    have eb:Nn X.K H d u=b:=by
     rw[Bool.eq_iff_iff,hb]
     unfold Nn
     rw[@decide_eq_true_iff]
     constructor
     ·intro z;exact tK I ⟨y,ru,dy⟩ z
     ·intro z;exact z▸⟨y,ru,dy⟩
    refine⟨λu' m=>?_,?_⟩
    ·rcases List.mem_cons.mp m with rfl|m
     ·rw[eb];exact q
     ·exact h1 u' m
    ·rw[List.any_cons,Bool.or_eq_true,h2,eb,hb,List.mem_cons]
     constructor
     ·rintro(z|z)
      ·exact .inl z.symm
      ·exact .inr z
     ·rintro(z|z)
      ·exact .inl z.symm
      ·exact .inr z
theorem rq(hu:X.A.units+64<cLine):iy X (compareOp .NotIn) (Om X.K true):=by
 intro pins s σ H x y v u Q I rx ry h
 obtain⟨p,ys,d,ds,rfl,hp,dx,dn,hm,q⟩:=h
 cases ry
 obtain⟨its,r,pl,hz⟩:=I.list hp
 obtain⟨h1,h2⟩:=rF I (A:=X.A.in1) (by rw[in1_units];lia) rx dx r dn hm
 refine SeqAt.notIn_listAt (Nn X.K H d) pl.isList (λw hw=>h1 w (by simpa using hw)) ⟨.bl (!its.toArray.any (Nn X.K H d)),H,I,rfl,q _ ?_⟩
 rw[←h2];simp
theorem wU(e:X.K=K)(hu:X.A.units+64<cLine):iy X (compareOp .NotIn) (Om K true):=by subst e;exact rq hu
end
section
variable {X:Cx} {H:Hp}
theorem wO{K:Fg7}{its out:List Value}(p:its.Perm out):∀{ys:List V}{ds:List Dv},Vals ys its->fy K H ys ds->∃ps:List (V×Dv),ps.Perm (ys.zip ds)/\Vals (ps.map (·.1)) out/\fy K H (ps.map (·.1)) (ps.map (·.2)):=by
 have base:∀{its:List Value}{ys:List V}{ds:List Dv},Vals ys its->fy K H ys ds->(ys.zip ds).map (·.1)=ys/\(ys.zip ds).map (·.2)=ds:=λ{its ys ds} _ d=>by
  have hl:=d.length
  exact⟨List.map_fst_zip LI,List.map_snd_zip LI⟩
 induction p with
 |nil=>intro ys ds r d;exact⟨ys.zip ds,.refl _,by rw[(base r d).1];exact r,by rw[(base r d).1,(base r d).2];exact d⟩
 |cons x p ih=>
  intro ys ds r d
  cases r with
  |cons rx zO=>cases d with
   |cons dx AG=>
    obtain⟨ps,h1,h2,h3⟩:=ih zO AG
    exact⟨(_,_)::ps,h1.cons _,.cons rx h2,.cons dx h3⟩
 |swap x y l=>
  intro ys ds r d
  cases r with
  |cons rx zO=>cases zO with
   |cons ry Ir=>cases d with
    |cons dx AG=>cases AG with
     |cons dy EX=>
      have e:=base Ir EX
      refine⟨(_,_)::(_,_)::List.zip _ _,List.Perm.swap _ _ _,.cons ry (.cons rx ?_),.cons dy (.cons dx ?_)⟩
      ·show Vals (List.map _ _) _;rw[e.1];exact Ir
      ·show fy K H (List.map _ _) (List.map _ _);rw[e.1,e.2];exact EX
 |trans p1 p2 ih1 ih2=>
  intro ys ds r d
  obtain⟨ps,h1,h2,h3⟩:=ih1 r d
  obtain⟨ps',JH,h2',h3'⟩:=ih2 h2 h3
  refine⟨ps',JH.trans ?_,h2',h3'⟩
  have e:(ps.map (·.1)).zip (ps.map (·.2))=ps:=by
   clear h1 h2 h3 JH h2' h3'
   induction ps with
   |nil=>rfl
   |cons a l ih=>rw[List.map_cons,List.map_cons,List.zip_cons_cons,ih]
  rw[e]
  exact h1
inductive rm(K:Fg7)(xs:List V)(H:Hp)(Q:VK):Prop
 |mk(p:_)(ys:_)(ds:_)(sh:_):(xs=[.ref p])->(bB K H p ys)->(fy K H ys ds)->((∀d∈ds,Dv.isA sh d=true))->(sh.key=true)->(sh.dep<=30)->(TS.Fits ys.length)->(∀(l:Addr)(ps:List (V×Dv)),H l=none->ps.Perm (ys.zip ds)->(ps.map (·.2)).Pairwise (λd e=>aK d e≠.gt)->Q (.ref l) (upd H l (.lst (ps.map (·.1)))))->rm K xs H Q
def CF(K:Fg7):List V->Hp->VK->Prop:=λxs H Q=>rm K xs H Q
theorem fU(hu:X.A.units+64<cLine):gZ X (.builtin "sorted") (CF X.K):=by
 intro pins s σ H xs us Q I r h
 obtain⟨p,ys,ds,sh,rfl,hp,dn,ha,hk,hd,hz,q⟩:=h
 obtain⟨u,rfl,rx⟩:=vals1 r
 cases rx
 obtain⟨its,r',pl,hz'⟩:=I.list hp
 have hlen:=r'.length
 have den:∀v∈its,∃d,Den X.K H v d/\Dv.isA sh d=true:=λv m=>by
  obtain⟨i,hi⟩:=List.mem_iff_getElem?.mp m
  have hy:i<ys.length:=by have:=(List.getElem?_eq_some_iff.mp hi).1;lia
  obtain⟨u,eu,ru⟩:=r'.get (List.getElem?_eq_getElem hy)
  rw[hi]at eu;cases eu
  obtain⟨d,ed,dd⟩:=dn.get' (List.getElem?_eq_getElem hy)
  exact⟨d,⟨_,ru,dd⟩,ha d (List.mem_of_getElem? ed)⟩
 refine TS.Bu (κ:=sh.kind) (S:=EC X.K H sh) (blt:=qI X.K H) (pU I sh) pl.isList (by rw[show its.length=ys.length by lia];exact hz) (λv m=>den v m) (λh2 h' kp Q' q'=>?_) (λh2 h' kp x y Q' hx hy q'=>?_) λout p1 p2=>?_
 ·exact mZ (I.kept (t':=s.toks) kp:Inv X pins σ H {s with heap:=h'}) hk h2 den q'
 ·exact qk (I.kept (t':=s.toks) kp:Inv X pins σ H {s with heap:=h'}) hk (by rw[in1_units,in1_units];lia) hx hy q'
 ·obtain⟨ps,h3,h1,h2⟩:=wO (K:=X.K) (H:=H) p1.symm r' dn
  have hl':=dn.length
  have pw:=sL I h1 h2 (λd m=>by
   obtain⟨x,hx,rfl⟩:=List.mem_map.mp m
   exact ha _ (List.of_mem_zip (h3.mem_iff.mp hx)).2) p2
  have hl:(ps.map (·.1)).length=ys.length:=by rw[h1.length,p1.length_eq,hlen]
  obtain⟨e,he⟩:=sortedAll_at s.heap its out.toArray
  refine⟨.ref (s.heap.objs.size+1),_,I.laid (t':=s.toks) (a:=s.heap.objs.size+1) (o:=.lst (ps.map (·.1))) (λb o q=>sortedAll_old q) (Nat.le_succ _) ?_,rfl,q _ ps (I.hok.fresh (Nat.le_succ _)) h3 pw⟩
  exact⟨by lia,out,e,h1,he⟩
end
section
variable {X:Cx}
theorem gB{k:Nat}{x:Str}{px spos:Pos}{elt tgt iter:Expr}{ifs:List Expr}{scope:Scope}{cl:List (Str×Addr)}{pos:Pos}{wi:TI}{g:TG}{tc:TT}{te:TE}{NY:List Str}{js:List (Option Nat)}(hc:X.calm=true)(hN:X.N.Nodup)(hk:X.N[k]? = some x)(hx:X.env.scope.names.lookup x=some .local)
  (hkind:scope.kind=.function)(hclos:closureFor scope X.env=pure cl)(hcl:bY X.env.cells cl)(Ju:gw X scope js NY)
  (hi:PI X tgt iter wi)
  (hb:∀pins fp C s H,PG (cZ X pins NY scope cl fp C s H) tgt g/\AS (cZ X pins NY scope cl fp C s H) ifs tc/\PE (cZ X pins NY scope cl fp C s H) elt te)
  (hcell:∀y∈scope.names,y.2≠.cell:=by decide)(hnames:∀y∈scope.names,y.2=.local->scope.names.lookup y.1=some .local:=by decide)
  (DQ:(scope.names.all λy=> !(y.2 == .free)||(cl.lookup y.1).isSome)=true:=by first|rfl|with_unfolding_all rfl)(hs:∀x,foldedSetIterable iter X.env x=pure x:=by intro _;rfl)
  (hsw:swapsWith (.ListComp elt [⟨tgt,iter,ifs,0⟩] scope pos) (some (.Name x px)) spos.line X.env=pure true:=by with_unfolding_all rfl):
  PS X (.Assign [.Name x px] (.ListComp elt [⟨tgt,iter,ifs,0⟩] scope pos) spos) (BN (BK wi g tc te js) (cO k)):=by
 intro pins s σ H DD I h
 rw[exec_Assign_Name_used _ _ _ _ hsw]
 refine wpAny_bind (wpAny_standAt (wpAny_bind ?_))
 show wpAny _ X.A (do let _ ←comprehension (.ListComp elt [⟨tgt,iter,ifs,0⟩] scope pos) scope X.env _ (newList []) false (eval iter X.env) (some (assign (.Name x px) X.env))) _ _ s
 refine wpAny_bind (wpAny_mono (vJ (R:=λ_ s'=>∃σ' H',Inv X pins σ' H' s'/\DD.nx σ' H') hc hkind hclos hcl Ju hi hb hcell hnames DQ hs (λD C s6 H5 I7 fC hn qn=>?_) I h) (λ_ s' hq=>wpAny_pure (wpAny_pure hq)) λ_ _ e=>e)
 obtain⟨m6,oC,es6,ep6,Yj,rC⟩:=hn
 have dC:∀v,oC.data≠.cell v:=λv e=>by
  rw[rC.1]at e
  cases e
 have I8:=I7.pinned (fp:=[C]) (λb hb=>by rw[List.mem_singleton.mp hb];exact fC) (λb hb=>by rw[List.mem_singleton.mp hb];exact⟨oC,Yj,dC⟩)
 show wpAny _ X.A (assign (.Name x px) X.env (.ref D)) _ _ _
 refine wpAny_mono (aU hN hk (.inl hx) (.inr hx) (pins++jJ [C] s6.heap) s6 σ H5 (.ref D) (.ref D) _ I8 rfl qn) (λ_ s9 h9=>?_) λ_ _ z=>z
 obtain⟨σ9,H9,I9,q9⟩:=h9
 obtain⟨p1,p2,p3,p4,p5⟩:=I9.pin (C,oC) (List.mem_append_right _ (List.mem_append_right _ (fj (by simp) Yj)))
 refine⟨m6,⟨oC,es6,ep6,p1,rC⟩,λh7 Us=>?_⟩
 obtain⟨c0,c1,c2,c3,c4,c5⟩:=fC
 exact⟨σ9,H9,I9.gJ.turned (t':=s9.toks) (λb o hb e=>Us.extBut b o hb e) p2 c1 c3 c4 c5,q9⟩
end
section
variable {X:Cx} {pins:List (Addr×Obj)} {σ:St} {H:Hp} {s:Shared}
theorem GA{A:Around}{k:Nat}{F c':Addr}{nm qual x:Str}{params:Arguments}{body:Expr}{scope:Scope}{pm ctv u:Value}{v:V}{Q:VK}{te:TE}{E:Value->Shared->Prop}(I:Inv X pins σ H s)(hA:A.frames=X.A.frames)(hr:dj (k+1) A)
  (ho:s.heap.get? F=some (PySem.W.kla_obj nm qual params body scope [] pm c' ctv))(hc:s.heap.CodeRec (.ref c') qual)(hb:bindArgs (PySem.W.kla_fn nm qual params body scope [] pm (.ref c') ctv) ⟨[u],[]⟩=pure [(x,u)])
  (S:aS [x] [x] scope)(r:RelV v u)
  (hbody:∀(A:Around)(outer:List Env)(s:Shared)(H:Hp),dj k (A.deeper (envOfC qual scope s.heap.objs.size F (.ref c')))->PE (oG jj X.prog X.w X.K X.mg X.base [x] qual scope F (.ref c') A outer s H E0).ER body te)
  (h:te (start [x] [v]) H Q):wpAny (model X.prog X.w) A (call (.ref F) [u]) (EP X pins σ Q) E s:=by
 have e0:vV X.prog X.w X.K X.mg X.base A X.stack s H:=⟨hA.trans I.ok.frames,I.ok.mod,I.bs,Nat.le_trans I.ok.Es I.sz,I.stack,I.se,I.hok,I.bare⟩
 have run:codeAny (model X.prog X.w) A (.call (.ref F) ⟨[u],[]⟩) (CR jj X.stack X.prog X.w H s Q E0) s:=by
  have hkind:∀y∈[x].zip [u],scope.names.lookup y.1=some .local\/(scope.names.lookup y.1=some .cell/\((cellsFrom (s.heap.objs.size+1) scope.names []).lookup y.1).isSome=true):=λ⟨n,v⟩ hy=>by
   rcases S.par n (List.of_mem_zip hy).1 with q|q
   ·exact .inl q
   ·exact .inr ⟨q,PySem.W.cellsFrom_some _ _ _ (.inl q)⟩
  refine PySem.W.kla_callFunE hr.depth ho rfl S.co S.gen rfl hc ?_
  rw[hb]
  refine wpAny_pure (wpAny_newFunctionEnv_cells S.kind hkind λenv he s1 x=>?_)
  subst he
  refine⟨I.nolimit.keeps x.toInCall.keep,PySem.W.kla_codeExpr ?_⟩
  have J:Inv (oG jj X.prog X.w X.K X.mg X.base [_] qual scope F (.ref c') A X.stack s H E0) [] (start [_] [v]) H s1:=rE S hr.hd e0 rfl (.cons r .nil) x
  refine wpAny_mono (hbody A X.stack s H (hr.deeper _) [] s1 _ H Q (J.pH _) h) (λu' s' hs=>?_) λe s' hs=>False.elim hs
  obtain⟨v',H',J',r',q'⟩:=hs
  exact⟨v',H',J'.os,J'.bare,J'.base,J'.hok,r',q'⟩
 refine wpAny_call (codeAny_mono run λr s' hq=>?_)
 cases r with
 |error e=>exact False.elim hq
 |ok fl=>
  cases fl with
  |ret u=>exact I.after hq
  |next=>exact False.elim hq
  |brk=>exact False.elim hq
  |cont=>exact False.elim hq
end
section
variable {α β:Type} {R:α->β->Prop}
theorem nT{l out:List α}(p:l.Perm out):∀{m:List β},Paired R l m->∃m':List β,m'.Perm m/\Paired R out m':=by
 induction p with
 |nil=>intro m h;cases h;exact⟨[],.refl _,.nil⟩
 |cons x p ih=>
  intro m h
  cases h with
  |cons r t=>
   obtain⟨m',p',t'⟩:=ih t
   exact⟨_::m',p'.cons _,.cons r t'⟩
 |swap x y l=>
  intro m h
  cases h with
  |cons r t=>cases t with
   |cons r' t'=>exact⟨_,List.Perm.swap _ _ _,.cons r' (.cons r t')⟩
 |trans p1 p2 ih1 ih2=>
  intro m h
  obtain⟨m1,q1,h1⟩:=ih1 h
  obtain⟨m2,q2,h2⟩:=ih2 h1
  exact⟨m2,q2.trans q1,h2⟩
theorem wR{l:List α}{m:List β}(h:Paired R l m){b:β}(hb:b∈m):∃a∈l,R a b:=by
 induction h with
 |nil=>cases hb
 |cons r t ih=>
  rcases List.mem_cons.mp hb with rfl|hb
  ·exact⟨_,.head _,r⟩
  ·obtain⟨a,h1,h2⟩:=ih hb
   exact⟨a,.tail _ h1,h2⟩
theorem zX{S:α->α->Prop}{T:β->β->Prop}(f:∀a b a' b',R a b->R a' b'->S a a'->T b b'){l:List α}{m:List β}(h:Paired R l m)(p:l.Pairwise S):m.Pairwise T:=by
 induction h with
 |nil=>exact .nil
 |cons r t ih=>
  obtain⟨p1,p2⟩:=List.pairwise_cons.mp p
  refine List.pairwise_cons.mpr ⟨λb hb=>?_,ih p2⟩
  obtain⟨a,h1,h2⟩:=wR t hb
  exact f _ _ _ _ r h2 (p1 a h1)
end
section
variable {X:Cx} {pins:List (Addr×Obj)} {σ:St} {H:Hp} {s:Shared}
theorem Inv.scratch{b:Addr}{h':Heap}(I:Inv X pins σ H s)(f:fq X pins H b)(hs:Heap.SameBut b s.heap h'):Inv X pins σ H {s with heap:=h'}:=by
 obtain⟨c0,c1,c2,c3,c4,c5⟩:=f
 exact I.turned (t':=s.toks) (λb o hb e=>hs.extBut b o hb e) c0 c1 c3 c4 c5
theorem FQ{A:Around}{m:Sem Value}{Q:VK}{fp:List Addr}(I:Inv X pins σ H s)(hf:∀b∈fp,fq X pins H b)(ho:∀b∈fp,∃o,s.heap.get? b=some o/\∀v,o.data≠.cell v)
  (run:∀gh,Inv X gh σ H s->wpAny (model X.prog X.w) A m (EP X gh σ Q) (λ_ _=>False) s):
  wpAny (model X.prog X.w) A m (λu s'=>∃v H',Inv X pins σ H' s'/\RelV v u/\Q v H'/\∀b∈fp,s'.heap.get? b=s.heap.get? b/\fq X pins H' b) (λ_ _=>False) s:=by
 refine wpAny_mono (run _ (I.pinned hf ho)) (λu s' h=>?_) λ_ _ z=>z
 obtain⟨v,H',I',r,q⟩:=h
 refine⟨v,H',I'.gJ,r,q,λb hb=>?_⟩
 obtain⟨o,e,_⟩:=ho b hb
 obtain⟨p1,p2,_⟩:=I'.pin (b,o) (List.mem_append_right _ (List.mem_append_right _ (fj hb e)))
 exact⟨p1.trans e.symm,p2,(hf b hb).2⟩
end
section
variable {X:Cx} {pins:List (Addr×Obj)} {σ:St} {H:Hp} {s:Shared} {A:Around} {a F:Addr} {fo:Obj} {vs:List Value} {ys:List V} {ds:List Dv} {sh:Sh} {n:Nat} {P:PySem.Fin->Shared->Prop} {E:Value->Shared->Prop}
def YW(K:Fg7)(H:Hp)(p:Keyed)(q:V×Dv):Prop:=Den K H p.1 q.2/\RelV q.1 p.2
theorem LB{K:Fg7}{kv:List V}{kl:List Value}(r:Vals kv kl):∀{ds:List Dv}{ys:List V}{vs:List Value},fy K H kv ds->Vals ys vs->kl.length=vs.length->Paired (YW K H) (kl.zip vs) (ys.zip ds):=by
 induction r with
 |nil=>intro ds ys vs d r' h;cases r' with|nil=>exact .nil|cons _ _=>simp at h
 |cons r t ih=>
  intro ds ys vs d r' h
  cases d with
  |cons d t'=>cases r' with
   |nil=>simp at h
   |cons r' t''=>exact .cons ⟨⟨_,r,d⟩,r'⟩ (ih t' t'' (by simpa using h))
theorem GF{K:Fg7}{out:List Keyed}{ps:List (V×Dv)}(h:Paired (YW K H) out ps):Vals (ps.map (·.1)) (out.map (·.2)):=by
 induction h with
 |nil=>exact .nil
 |cons r _ ih=>exact .cons r.2 ih
theorem Du{kS:Addr}{e1 c:Nat}{kl:List Value}{kv:List V}{st:SortSt}{out:List Keyed}(I:Inv X pins σ H s)(fa:fq X pins H a)(fk:fq X pins H kS)(hne:kS≠a)(ha:s.heap.get? a=some (seqObj "list" #[] e1))(hk:s.heap.get? kS=some (seqObj "list" kl.toArray c))
  (rk:Vals kv kl)(dk:fy X.K H kv ds)(rv:Vals ys vs)(hlen:kl.length=vs.length)(hz:vs.length<=10000000)(hsh:∀d∈ds,Dv.isA sh d=true)
  (ea:arrOf st=out.toArray)(hf:failedOf st=none)(hp:out.Perm (kl.zip vs))(hw:out.Pairwise λx y=>qI X.K H y x=false)
  (fin:∀(ps:List (V×Dv))(out:List Value)(s':Shared)(c:Nat),Inv X pins σ H s'->s'.heap.get? a=some (seqObj "list" out.toArray c)->ps.Perm (ys.zip ds)->Vals (ps.map (·.1)) out->(ps.map (·.2)).Pairwise (λd e=>aK d e≠.gt)->P (.done (.ret .none)) s'):
  wpAny (model X.prog X.w) A (ksk_tail a false e1 (.ref kS) st) P E s:=by
 obtain⟨ps,pp,pr⟩:=nT hp.symm (LB rk dk rv hlen)
 have lo:(out.map (·.2)).length=vs.length:=by rw[List.length_map,hp.length_eq,List.length_zip,hlen,Nat.min_self]
 have s1:=Heap.SameBut.update s.heap kS (Obj.mapSeq λ_=>(#[]:Array Value))
 have ha1:(s.heap.update kS (Obj.mapSeq λ_=>(#[]:Array Value))).get? a=some (seqObj "list" #[] e1):=(s1.2 a hne.symm).trans ha
 have s2:=Heap.SameBut.update (s.heap.update kS (Obj.mapSeq λ_=>(#[]:Array Value))) a (Obj.mapSeq λ_=>(out.map (·.2)).toArray)
 have eo:(arrOf st).map (·.2)=(out.map (·.2)).toArray:=by rw[ea,List.map_toArray]
 unfold ksk_tail
 dsimp only
 refine wpAny_bind (listUpdate_at hk rfl ?_ (by rw[List.size_toArray,sizeLine_eq];lia) (Nat.zero_le _))
 refine wpAny_bind (wpAny_letGo ?_)
 refine wpAny_bind (seqEpoch_at ha1 rfl ?_)
 simp only[Bool.false_eq_true,if_false]
 rw[eo]
 refine wpAny_bind (listUpdate_at ha1 rfl ?_ (Nat.zero_le _) (by rw[List.size_toArray,lo,sizeLine_eq];lia))
 rw[hf]
 simp only[bne_self_eq_false,Bool.false_eq_true,if_false]
 refine wpAny_pure (fin ps (out.map (·.2)) _ _ ((I.scratch fk s1).scratch fa s2) (get?_update_seq ha1 λ_=>(out.map (·.2)).toArray) pp (GF pr) ?_)
 rw[List.pairwise_map]
 have hin:∀q∈ps,Dv.isA sh q.2=true:=λq hq=>hsh _ (List.of_mem_zip (pp.mem_iff.mp hq)).2
 refine(zX (T:=λ(p q:V×Dv)=>aK q.2 p.2≠.lt) (λx p y q hx hy h=>?_) pr hw).imp_of_mem λ{p q} hp hq h=>?_
 ·rw[ig I hy.1 hx.1]at h
  exact GL h
 ·rw[cmp_swap (hin p hp) (hin q hq)]at h
  intro z
  rw[z]at h
  exact h rfl
theorem Dw(I:Inv X pins σ H s)(ho:s.heap.get? a=some (seqObj "list" vs.toArray n))(fa:fq X pins H a)(hF:s.heap.get? F=some fo)(fF:fq X pins H F)(Wb:∀v,fo.data≠.cell v)(haF:a≠F)
  (rv:Vals ys vs)(Bj:TS.Fits vs.length)(hd:ds.length=vs.length)(hsh:∀d∈ds,Dv.isA sh d=true)(hk:sh.key=true)(GV:sh.dep<=30)(hu:A.units+64<cLine)
  (turn:∀(i:Nat)(y:V)(u:Value)(d:Dv),ys[i]? = some y->RelV y u->ds[i]? = some d->∀(gh:List (Addr×Obj))(H':Hp)(s':Shared),Inv X gh σ H' s'->av H H'->s'.heap.get? F=some fo->
   wpAny (model X.prog X.w) A (call (.ref F) [u]) (EP X gh σ λk E_=>av H' E_/\Dn X.K E_ k d) (λ_ _=>False) s')
  (fin:∀(ps:List (V×Dv))(out:List Value)(H':Hp)(s':Shared)(c:Nat),Inv X pins σ H' s'->av H H'->fq X pins H' a->s'.heap.get? a=some (seqObj "list" out.toArray c)->ps.Perm (ys.zip ds)->Vals (ps.map (·.1)) out->(ps.map (·.2)).Pairwise (λd e=>aK d e≠.gt)->P (.done (.ret .none)) s'):
  wpAny (model X.prog X.w) A (ksk_tree a (.ref F) false) P E s:=by
 obtain⟨hz,hx⟩:=Bj
 have hl:vs.toArray.size<=sizeLine:=by rw[sizeLine_eq,List.size_toArray];lia
 have la:a<s.heap.objs.size:=Heap.lt_size ho
 have lF:F<s.heap.objs.size:=Heap.lt_size hF
 have XF:=rv.length
 have s1:=Heap.SameBut.update s.heap a (Obj.mapSeq λ_=>(#[]:Array Value))
 obtain⟨e1,Jt⟩:∃e1,(s.heap.update a (Obj.mapSeq λ_=>(#[]:Array Value))).get? a=some (seqObj "list" #[] e1):=⟨_,get?_update_seq ho λ_=> #[]⟩
 have hF1:(s.heap.update a (Obj.mapSeq λ_=>(#[]:Array Value))).get? F=some fo:=(s1.2 F haF.symm).trans hF
 have I1:=I.scratch fa s1
 have Zr:(s.heap.update a (Obj.mapSeq λ_=>(#[]:Array Value))).objs.size=s.heap.objs.size:=Heap.size_update ..
 unfold ksk_tree
 refine wpAny_bind (listItems_at ho rfl (wpAny_bind (listUpdate_at ho rfl ?_ hl (Nat.zero_le _))))
 refine wpAny_bind (seqEpoch_at Jt rfl (wpAny_bind (wpAny_newTuple ?_ (by show vs.length<=_;simpa using hl))))
 refine wpAny_bind (wpAny_newList (wpAny_holding ?_) (Nat.zero_le _))
 have I2:Inv X pins σ H {s with heap:=(s.heap.update a (Obj.mapSeq λ_=>(#[]:Array Value))).push (seqObj "tuple" vs.toArray 0)}:=I1.kept (t':=s.toks) λb u e=>Heap.get?_push_of_some _ e
 have fk:fq X pins H ((s.heap.update a (Obj.mapSeq λ_=>(#[]:Array Value))).push (seqObj "tuple" vs.toArray 0)).objs.size:=I2.qf (Nat.le_refl _) (I2.hok.fresh (Nat.le_refl _))
 have I3:Inv X pins σ H {s with heap:=((s.heap.update a (Obj.mapSeq λ_=>(#[]:Array Value))).push (seqObj "tuple" vs.toArray 0)).push (seqObj "list" #[] 0)}:=I2.kept (t':=s.toks) λb u e=>Heap.get?_push_of_some _ e
 have QN:(((s.heap.update a (Obj.mapSeq λ_=>(#[]:Array Value))).push (seqObj "tuple" vs.toArray 0)).push (seqObj "list" #[] 0)).get? ((s.heap.update a (Obj.mapSeq λ_=>(#[]:Array Value))).push (seqObj "tuple" vs.toArray 0)).objs.size=some (seqObj "list" #[] 0):=Heap.get?_push_size _ rfl
 have Rf:=Heap.get?_push_of_some (seqObj "list" #[] 0) (Heap.get?_push_of_some (seqObj "tuple" vs.toArray 0) Jt)
 have hF3:=Heap.get?_push_of_some (seqObj "list" #[] 0) (Heap.get?_push_of_some (seqObj "tuple" vs.toArray 0) hF1)
 have WV:((s.heap.update a (Obj.mapSeq λ_=>(#[]:Array Value))).push (seqObj "tuple" vs.toArray 0)).objs.size=s.heap.objs.size+1:=by rw[size_push',Zr]
 show wpAny (model X.prog X.w) A (ksk_rest a (.ref F) false vs.toArray e1 (.ref ((s.heap.update a (Obj.mapSeq λ_=>(#[]:Array Value))).push (seqObj "tuple" vs.toArray 0)).objs.size)) P E {s with heap:=((s.heap.update a (Obj.mapSeq λ_=>(#[]:Array Value))).push (seqObj "tuple" vs.toArray 0)).push (seqObj "list" #[] 0)}
 generalize ((s.heap.update a (Obj.mapSeq λ_=>(#[]:Array Value))).push (seqObj "tuple" vs.toArray 0)).push (seqObj "list" #[] 0)=h3 at *
 generalize ((s.heap.update a (Obj.mapSeq λ_=>(#[]:Array Value))).push (seqObj "tuple" vs.toArray 0)).objs.size=kS at *
 have Xy:kS≠a:=by rw[WV];exact Nat.ne_of_gt (Nat.lt_succ_of_lt la)
 have ZZ:kS≠F:=by rw[WV];exact Nat.ne_of_gt (Nat.lt_succ_of_lt lF)
 unfold ksk_rest
 refine wpAny_bind (wpAny_rule ?_)
 rw[List.forIn_toArray]
 refine wpAny_bind (ksk_fold (λi s'=>∃(H':Hp) (kl:List Value) (e:Nat) (kv:List V),Inv X pins σ H' s'/\av H H'/\(∀b∈[a,kS,F],fq X pins H' b)/\s'.heap.get? a=some (seqObj "list" #[] e1)/\s'.heap.get? kS=some (seqObj "list" kl.toArray e)/\s'.heap.get? F=some fo/\Vals kv kl/\fy X.K H' kv (ds.take i)) vs 0 _
  ⟨H,[],0,[],I3,av.refl _,λb hb=>?_,Rf,QN,hF3,.nil,.nil⟩ ?step ?done)
 ·rcases List.mem_cons.mp hb with rfl|hb
  ·exact fa
  ·rcases List.mem_cons.mp hb with rfl|hb
   ·exact fk
   ·rw[List.mem_singleton.mp hb];exact fF
 case step=>
  rintro j u s' XZ ⟨H',kl,e,kv,I',sm,fp,ha',hk',Nm,rk,dk⟩
  simp only[Nat.zero_add]at dk ⊢
  have hj:j<vs.length:=(List.getElem?_eq_some_iff.mp XZ).1
  have hy:ys[j]? = some (ys[j]' LI):=List.getElem?_eq_getElem LI
  obtain⟨u',eu,ru⟩:=Vals.get rv hy
  rw[XZ]at eu
  cases eu
  have Yr:ds[j]? = some (ds[j]' LI):=List.getElem?_eq_getElem LI
  refine wpAny_bind (wpAny_attempt (wpAny_mono (FQ (fp:=[a,kS,F]) I' fp (λb hb=>?_) λgh J=>turn j _ u _ hy ru Yr gh H' s' J sm Nm) (λk s'' h=>?_) λ_ _ z=>z.elim))
  ·rcases List.mem_cons.mp hb with rfl|hb
   ·exact⟨_,ha',λv z=>nomatch z⟩
   ·rcases List.mem_cons.mp hb with rfl|hb
    ·exact⟨_,hk',λv z=>nomatch z⟩
    ·rw[List.mem_singleton.mp hb];exact⟨_,Nm,Wb⟩
  obtain⟨kx,E_,I'',rx,⟨NX,Wr⟩,own⟩:=h
  have QO:=(own kS (by simp)).1.trans hk'
  have VM:kl.length=j:=by
   have:=rk.length
   have:=dk.length
   rw[List.length_take]at this
   lia
  have s4:=Heap.SameBut.update s''.heap kS (Obj.mapSeq (·.push k))
  dsimp only
  refine wpAny_bind (listUpdate_at QO rfl ?_ (by rw[List.size_toArray,sizeLine_eq];lia) (Nat.le_trans (Nat.le_of_eq (Array.size_push ..)) (by rw[List.size_toArray,sizeLine_eq];lia)))
  refine wpAny_pure ⟨rfl,E_,kl++[k],_,kv++[kx],I''.scratch (own kS (by simp)).2 s4,sm.trans NX,λb hb=>(own b hb).2,(s4.2 a Xy.symm).trans ((own a (by simp)).1.trans ha'),(get?_update_seq QO (·.push k)).trans (by rw[List.push_toArray]),(s4.2 F ZZ.symm).trans ((own F (by simp)).1.trans Nm),rk.append (.cons rx .nil),?_⟩
  rw[List.take_add_one,Yr]
  exact(dk.stay NX.stays).snoc Wr
 case done=>
  rintro s' ⟨H',kl,e,kv,I',sm,fp,ha',hk',Nm,rk,dk⟩
  have e3:ds.take (0+vs.length)=ds:=List.take_of_length_le LI
  rw[e3]at dk
  have Vd:kl.length=vs.length:=by
   have:=rk.length
   have:=dk.length
   lia
  have YC:=fp a (by simp)
  have fk':=fp kS (by simp)
  have den:∀v∈kl,∃d,Den X.K H' v d/\Dv.isA sh d=true:=λv m=>by
   obtain⟨i,hi⟩:=List.mem_iff_getElem?.mp m
   have hy:i<kv.length:=by
    have:=(List.getElem?_eq_some_iff.mp hi).1
    have:=rk.length
    lia
   obtain⟨u,eu,ru⟩:=rk.get (List.getElem?_eq_getElem hy)
   rw[hi]at eu;cases eu
   obtain⟨d,ed,dd⟩:=dk.get' (List.getElem?_eq_getElem hy)
   exact⟨d,⟨_,ru,dd⟩,hsh d (List.mem_of_getElem? ed)⟩
  have ez:kl.toArray.zip vs.toArray=(kl.zip vs).toArray:=by simp
  refine wpAny_bind (listItems_at hk' rfl ?_)
  unfold ksk_end
  dsimp only
  simp only[Bool.false_eq_true,if_false]
  rw[ez]
  have tail:∀(st:SortSt)(out:List Keyed),arrOf st=out.toArray->failedOf st=none->out.Perm (kl.zip vs)->out.Pairwise (λx y=>qI X.K H' y x=false)->wpAny (model X.prog X.w) A (ksk_tail a false e1 (.ref kS) st) P E s':=λst out a1 a2 a3 a4=>
   Du I' YC fk' Xy ha' hk' rk dk rv Vd hz hsh a1 a2 a3 a4 λps out s'' c J g p1 p2 p3=>fin ps out H' s'' c J sm YC g p1 p2 p3
  by_cases h2:vs.toArray.size<2
  ·rw[if_pos h2,if_pos h2]
   refine wpAny_bind (wpAny_pure ?_)
   rw[StateT.run_pure]
   refine wpAny_bind (wpAny_pure ?_)
   dsimp only
   refine tail (SortSt.mk' general' (kl.zip vs).toArray #[] 7 none) (kl.zip vs) rfl rfl (.refl _) ?_
   have:(kl.zip vs).length<2:=by rw[List.length_zip,Vd,Nat.min_self];simpa using h2
   match kl.zip vs,this with
   |[],_=>exact .nil
   |[_],_=>exact List.pairwise_singleton _ _
   |_::_::_,h=>simp at h;lia
  ·rw[if_neg h2,if_neg h2]
   have h2':2<=vs.length:=by simpa using h2
   refine wpAny_bind (wpAny_mono (mZ (Q:=λk s''=>k=sh.kind/\s''=s') I' hk LI den ⟨rfl,rfl⟩) ?_ λ_ _ f=>f.elim)
   rintro k s'' ⟨rfl,rfl⟩
   refine wpAny_bind (wpAny_mono (TS.HP (E:=E) (Q:=λst s3=>s3=s''/\failedOf st=none/\∃out:List Keyed,arrOf st=out.toArray/\out.Perm (kl.zip vs)/\out.Pairwise (λx y=>qI X.K H' y x=false)) (pU I' sh)
    (TS.Er λx y Q hx hy q=>qk I' hk LI hx hy q) (λp hp=>den _ (List.of_mem_zip hp).1) (by rw[List.length_zip,Vd,Nat.min_self];exact⟨by lia,hx⟩) λout st a1 a2 a3 a4=>⟨rfl,a2,out,a1,a3,a4⟩) ?_ λ_ _ e=>e)
   rintro⟨⟨⟩,st⟩ s3 ⟨rfl,hf,out,ea,hp,hw⟩
   dsimp only
   exact tail st out ea hf hp hw
end
section
variable {X:Cx} {pins:List (Addr×Obj)} {σ:St} {H:Hp} {s:Shared}
theorem Inv.adopt{a:Addr}{o:HO}(I:Inv X pins σ H s)(h0:X.s₀.heap.objs.size<=a)(f:fq X pins H a)(new:ck X.prog X.w (upd H a o) s.heap a o):Inv X pins σ (upd H a o) s:=by
 obtain⟨hn,hL,_,_,hc,hp⟩:=f
 have ne:∀{b:Addr}{u:HO},H b=some u->b≠a:=λe=>au e hn
 have old:∀{b:Addr}{u:Obj},X.s₀.heap.get? b=some u->b≠a:=λe=>Nat.ne_of_lt (Nat.lt_of_lt_of_le (Heap.lt_size e) h0)
 refine⟨I.ok,I.os,I.bare,⟨I.base.keep,I.base.slot,λb u e n hx=>?_,I.base.there,λb xs q=>?_,λb u v q=>?_,λb ps q=>?_⟩,I.loc,I.cell,by rw[ai hL.symm];exact I.free,λx c e=>by rw[ai (hc x c e)];exact I.fO x c e,λq hq=>?_,λb u e=>?_,I.len⟩
 ·rw[ai (old e)];exact I.base.free b u e n hx
 ·have:=I.base.tups b xs q
  rw[ai (ne this)];exact this
 ·have:=I.base.lG b u v q
  rw[ai (ne this)];exact this
 ·obtain⟨m,e⟩:=I.base.pK b ps q
  exact⟨m,by rw[ai (ne e)];exact e⟩
 ·obtain⟨e,n,r⟩:=I.pin q hq
  exact⟨e,by rw[ai (hp q hq)];exact n,r⟩
 ·by_cases hb:b=a
  ·subst hb
   rw[af]at e;cases e
   exact new
  ·rw[ai hb]at e
   exact(I.hok b u e).stay (λc v _ q=>q) (λc q=>by rw[ai (ne q)];exact q) λc xs q=>by rw[ai (ne q)];exact q
theorem xo{l F:Addr}{fo:Obj}{ys:List V}{ds:List Dv}{sh:Sh}{Q:VK}{E:Value->Shared->Prop}(I:Inv X pins σ H s)(hl:bB X.K H l ys)(hF:s.heap.get? F=some fo)(fF:fq X pins H F)(Wb:∀v,fo.data≠.cell v)
  (Bj:TS.Fits ys.length)(hd:ds.length=ys.length)(hsh:∀d∈ds,Dv.isA sh d=true)(hk:sh.key=true)(GV:sh.dep<=30)(hu:X.A.units+70<cLine)
  (turn:∀(i:Nat)(y:V)(u:Value)(d:Dv),ys[i]? = some y->RelV y u->ds[i]? = some d->∀(gh:List (Addr×Obj))(H':Hp)(s':Shared),Inv X gh σ H' s'->av H H'->s'.heap.get? F=some fo->
   wpAny (model X.prog X.w) X.A.in1.in1 (call (.ref F) [u]) (EP X gh σ λk E_=>av H' E_/\Dn X.K E_ k d) (λ_ _=>False) s')
  (q:∀(L:Addr)(ps:List (V×Dv))(H':Hp),av H H'->H L=none->H' L=some (.lst (ps.map (·.1)))->ps.Perm (ys.zip ds)->(ps.map (·.2)).Pairwise (λd e=>aK d e≠.gt)->Q (.ref L) H'):
  wpAny (model X.prog X.w) X.A (call (.builtin "sorted") [.ref l] [(Str.ofString "key",.ref F)]) (EP X pins σ Q) E s:=by
 obtain⟨vs,rv,pl,hz'⟩:=I.list hl
 have XF:=rv.length
 have hz:=Bj.1
 have oF:vs.length<=sizeLine:=by rw[sizeLine_eq];lia
 refine call_function_entry_kw kind_sorted plain_sorted entry_sorted (ksk_s1 _ _) ?_
 unfold Builtin.«sorted»
 refine wpAny_bind (m:=checkCount "sorted" 1 1 _) (wpAny_pure (wpAny_bind (collect_list pl.isList (wpAny_bind (wpAny_newList ?_ oF)) oF)))
 have sz:((s.heap.push (seqObj "list" #[] 0)).update s.heap.objs.size (Obj.mapSeq (· ++ vs.toArray))).objs.size=s.heap.objs.size+1:=by rw[Heap.size_update,size_push']
 have DN:(((s.heap.push (seqObj "list" #[] 0)).update s.heap.objs.size (Obj.mapSeq (· ++ vs.toArray))).push (seqObj "list" vs.toArray 0)).get? (s.heap.objs.size+1)=some (seqObj "list" vs.toArray 0):=by rw[←sz];exact Heap.get?_push_size _ rfl
 have keep:∀b o,s.heap.get? b=some o->(((s.heap.push (seqObj "list" #[] 0)).update s.heap.objs.size (Obj.mapSeq (· ++ vs.toArray))).push (seqObj "list" vs.toArray 0)).get? b=some o:=λb o q=>by
  have lt:b<s.heap.objs.size:=Heap.lt_size q
  refine Heap.get?_push_of_some _ ?_
  rw[Heap.get?_update_ne _ _ _ _ (Nat.ne_of_lt lt)];exact Heap.get?_push_of_some _ q
 show wpAny _ _ _ _ _ {s with heap:=((s.heap.push (seqObj "list" #[] 0)).update s.heap.objs.size (Obj.mapSeq (· ++ vs.toArray))).push (seqObj "list" vs.toArray 0)}
 rw[sz]
 have I1:Inv X pins σ H {s with heap:=((s.heap.push (seqObj "list" #[] 0)).update s.heap.objs.size (Obj.mapSeq (· ++ vs.toArray))).push (seqObj "list" vs.toArray 0)}:=I.kept (t':=s.toks) keep
 have fL:fq X pins H (s.heap.objs.size+1):=I.qf (Nat.le_succ _) (I.hok.fresh (Nat.le_succ _))
 have lF:F<s.heap.objs.size:=Heap.lt_size hF
 refine wpAny_bind (wpAny_holding (wpAny_call_entry_kw slot_list_sort ⟨_,DN,rfl⟩ entry_list_sort ?body (ksk_l1 _ _)))
 case body=>
  show wpAny (model X.prog X.w) X.A.in1.in1 (Builtin.«list.sort» ⟨[.ref (s.heap.objs.size+1)],[(Str.ofString "key",.ref F)]⟩) _ _ _
  rw[ksk_t1]
  refine Dw I1 DN fL (keep _ _ hF) fF Wb (Nat.ne_of_gt (Nat.lt_succ_of_lt lF)) rv (by rw[←XF];exact Bj) LI hsh hk GV (by rw[in1_units,in1_units];lia) turn λps out H' s' c J sm f g p1 p2 p3=>⟨_,rfl,wpAny_pure ⟨_,rfl,?_⟩⟩
  refine⟨.ref (s.heap.objs.size+1),upd H' (s.heap.objs.size+1) (.lst (ps.map (·.1))),J.adopt (Nat.le_trans I.sz (Nat.le_succ _)) f ?_,rfl,q _ ps _ (sm.trans (av.new f.1)) fL.1 af p1 p3⟩
  refine⟨?_,out,c,p2,g⟩
  rw[List.length_map,p1.length_eq,List.length_zip,sizeLine_eq]
  lia
def dJ(H:Hp)(P:Addr)(pos:Pos)(qual:Str):Prop:=H P=some (.oj #[])\/∃(c':Addr) (oc:Obj) (vs:Array Value) (t:Tok),H P=some (.oj #[rawInt pos.line,rawInt pos.col,.ref c'])/\H c'=some (.ef oc (.ext λ_=>True))/\oc.data=.fields vs/\vs[1]? = some (.str qual t)
def gD(K:Fg7)(mg:Str->Option Value)(H:Hp):Prop:=∃(bm:Addr) (ob:Obj),mg "__builtins__"=some (.ref bm)/\bm≠builtinsNs/\(K.lookup bm=some ob\/H bm=some (.ef ob (.ext λ_=>True)))/\ob.cls=.type "module"/\ob.dict=some builtinsNs/\ob.data=.plain
def iD(H H':Hp)(P:Addr):Prop:=∀b o,H b=some o->b≠P->H' b=some o
theorem Dp{params:Arguments}{body:Expr}{scope:Scope}{pos:Pos}{qual:Str}{fl:Nat}{c P:Addr}{Q:Value->Shared->Prop}{E:Value->Shared->Prop}(I:Inv X pins σ H s)(hcl:closureFor scope X.env=pure [])(hge:X.env.globals=mainGlobals)(hcode:X.env.code=.ref c)(hd:PySem.W.codeHdIn X.K c P=true)
  (hb:gD X.K X.mg H)(T:dJ H P pos qual)
  (h:∀(F c':Addr)(oc:Obj)(vs:Array Value)(t:Tok)(pm ctv:Value)(H':Hp)(s':Shared),Inv X pins σ H' s'->iD H H' P->H' P=some (.oj #[rawInt pos.line,rawInt pos.col,.ref c'])->H' c'=some (.ef oc (.ext λ_=>True))->oc.data=.fields vs->vs[1]? = some (.str qual t)->
   s'.heap.get? F=some (PySem.W.kla_obj "<lambda>" qual params body scope [] pm c' ctv)->fq X pins H' F->Q (.ref F) s'):
  wpAny (model X.prog X.w) X.A (makeFunction "<lambda>" qual params (.expr body) scope X.env [] [] [] pos fl) Q E s:=by
 have hg:s.heap.Ns mainGlobals X.mg:=I.mod.glob.keeps I.bk
 have hC:PySem.W.CodeHd s.heap c P:=PySem.W.codeHd_of_K I.lU hd
 obtain⟨bm,ob,b1,b2,b3,b4,b5,b6⟩:=hb
 have RO:s.heap.get? bm=some ob:=by
  rcases b3 with z|z
  ·exact I.lU _ _ z
  ·exact(I.hok _ _ z).1
 have HR:∀{ps:Array Value},s.heap.get? P=some (PySem.W.tabObj ps)->mainGlobals≠P/\s.heap.BuiltinsAt X.mg P:=λ{ps} hP=>by
  refine⟨λq=>?_,bm,ob,b1,b2,λq=>?_,λq=>?_,RO,b4,b5,b6⟩
  ·obtain⟨o,es,ep,e,hd,_⟩:=hg
   rw[q,hP]at e;cases e;cases hd
  ·obtain⟨o,es,ep,e,hd,_⟩:=hg
   rw[q,e]at RO;cases RO;rw[hd]at b6;cases b6
  ·rw[q,hP]at RO;cases RO;cases b4
 rcases T with hP|⟨c',oc,vs,t,hP,hc',hv,hv1⟩
 ·have Rg:s.heap.get? P=some (PySem.W.tabObj #[]):=I.hok _ _ hP
  obtain⟨n1,n2⟩:=HR Rg
  refine PySem.W.kla_makeFunction (mg:=X.mg) hcl hge hg hcode hC Rg trivial rfl n1 n2 λc' ctv h' tk hx GU hlt hrec htb=>?_
  obtain⟨c₂,oc,vs,t,e2,hoc,hv,hv1⟩:=hrec
  cases e2
  have hf':H c'=none:=I.hok.fresh GU
  have Ys:c'≠P:=λz=>by rw[z,hP]at hf';cases hf'
  have nP:∀{b:Addr},H b=none->b≠P:=λe z=>by rw[z,hP]at e;cases e
  have nC:∀{b:Addr}{u:HO},H b=some u->b≠c':=λe z=>by rw[z,hf']at e;cases e
  have lC:∀{b:Addr}{o:Obj},s.heap.get? b=some o->b≠c':=λe=>Nat.ne_of_lt (Nat.lt_of_lt_of_le (Heap.lt_size e) GU)
  have fF:fq X pins H h'.objs.size:=I.qf (Nat.le_of_lt (Nat.lt_of_le_of_lt GU hlt)) (I.hok.fresh (Nat.le_of_lt (Nat.lt_of_le_of_lt GU hlt)))
  have nFP:h'.objs.size≠P:=nP fF.1
  have J:Inv X pins σ (upd (upd H P (.oj #[rawInt pos.line,rawInt pos.col,.ref c'])) c' (.ef oc (.ext λ_=>True))) {s with heap:=h'.push (PySem.W.kla_obj "<lambda>" qual params body scope [] ((X.mg "__name__").getD .none) c' ctv),toks:=tk}:=by
   refine I.step (g':=s.gens) (d':=s.drawn) (ch:=[]) (λb hb=>by cases hb) (λb o _ _ _ e n=>Heap.get?_push_of_some _ (hx b o (nP n) e)) (λb o _ _ _ e n=>⟨o.slots,Heap.get?_push_of_some _ (hx b o (nP n) e)⟩) (λb o _ e n=>by rw[ai (lC e),ai (nP n)];exact n)
    (λb o _ e=>?_) (λb xs e=>?_) (λb o u e=>?_) (λb ps e=>?_) (λm hm=>?_) (λb u e=>?_) I.bare
   ·by_cases hb:b=P
    ·subst hb;exact⟨_,Heap.get?_push_of_some _ htb⟩
    ·exact⟨o,Heap.get?_push_of_some _ (hx b o hb e)⟩
   ·rw[ai (nC e),ai (λz=>by rw[z,hP]at e;cases e)];exact e
   ·rw[ai (nC e),ai (λz=>by rw[z,hP]at e;cases e)];exact e
   ·by_cases hb:b=P
    ·subst hb
     rw[hP]at e;cases e
     exact⟨#[rawInt pos.line,rawInt pos.col,.ref c'],by rw[ai Ys.symm,af];simp⟩
    ·exact⟨#[],by rw[ai (nC e),ai hb,e];simp⟩
   ·exact(hm.extBut hx (nP I.free)).push _
   ·by_cases hb:b=c'
    ·subst hb
     rw[af]at e;cases e
     exact⟨Heap.get?_push_of_some _ hoc,trivial,⟨_,Heap.get?_push_of_some _ hoc⟩,λ_ _ _ _=>trivial⟩
    ·rw[ai hb]at e
     by_cases hb':b=P
     ·subst hb'
      rw[af]at e;cases e
      exact Heap.get?_push_of_some _ htb
     ·rw[ai hb']at e
      refine(I.hok b u e).stay (λd v hw q=>Heap.get?_push_of_some _ (hx d v (λzP=>by subst zP;rcases hw with z|z;exact hb' z.symm;rw[hP]at z;cases z) q)) (λd q=>?_) λd xs q=>?_
      ·rw[ai (nC q),ai (λz=>by rw[z,hP]at q;cases q)];exact q
      ·rw[ai (nC q),ai (λz=>by rw[z,hP]at q;cases q)];exact q
  refine h h'.objs.size c' oc vs t _ ctv _ _ J (λb o e n=>?_) ?_ af hv hv1 (Heap.get?_push_size _ rfl) ⟨?_,fF.2⟩
  ·rw[ai (nC e),ai n];exact e
  ·rw[ai Ys.symm,af]
  ·rw[ai (Nat.ne_of_gt hlt),ai nFP];exact fF.1
 ·have Rg:s.heap.get? P=some (PySem.W.tabObj #[rawInt pos.line,rawInt pos.col,.ref c']):=I.hok _ _ hP
  obtain⟨n1,n2⟩:=HR Rg
  refine PySem.W.kla_makeFunctionHit (mg:=X.mg) (cv:=.ref c') hcl hge hg hcode hC Rg ?_ ?_ n2 λctv h' tk hk hsz=>?_
  ·exact trivial
  ·show codeAmong pos [.int pos.line 0,.int pos.col 0,.ref c']=_
   simp[codeAmong]
  ·have J:Inv X pins σ H {s with heap:=h'.push (PySem.W.kla_obj "<lambda>" qual params body scope [] ((X.mg "__name__").getD .none) c' ctv),toks:=tk}:=I.kept (t':=tk) λb u e=>Heap.get?_push_of_some _ (hk b u e)
   exact h h'.objs.size c' oc vs t _ ctv H _ J (λ_ _ e _=>e) hP hc' hv hv1 (Heap.get?_push_size _ rfl) (I.qf hsz (I.hok.fresh hsz))
end
section
variable {X:Cx}
theorem iD.seq{K:Fg7}{H H':Hp}{P p:Addr}{ps:Array Value}{xs:List V}(k:iD H H' P)(hP:H P=some (.oj ps))(h:bB K H p xs):bB K H' p xs:=by
 have ne:∀{u:HO},H p=some u->(∀ps,u≠.oj ps)->p≠P:=λe n z=>by rw[z,hP]at e;exact n _ (Option.some.inj e).symm
 rcases h with(h|⟨o,h⟩)|h
 ·exact .inl (.inl (k _ _ h (ne h λ_ z=>nomatch z)))
 ·exact .inl (.inr ⟨o,k _ _ h (ne h λ_ z=>nomatch z)⟩)
 ·exact .inr h
theorem iD.trans{H H1 H2:Hp}{P:Addr}(a:iD H H1 P)(b:iD H1 H2 P):iD H H2 P:=λc o e n=>b c o (a c o e n) n
theorem av.I_{H H':Hp}{P:Addr}(s:av H H'):iD H H' P:=λb o e _=>s b o e
inductive nN(K:Fg7)(mg:Str->Option Value)(P:Addr)(vp:Pos)(qual:Str)(x:Str)(te:TE)(Q:VK)(v:V)(H1:Hp):Prop
 |mk(p:Addr)(ys:List V)(ds:List Dv)(sh:Sh):(v=.ref p)->(bB K H1 p ys)->(dJ H1 P vp qual)->(gD K mg H1)->(TS.Fits ys.length)->(ds.length=ys.length)->((∀d∈ds,Dv.isA sh d=true))->(sh.key=true)->(sh.dep<=30)->((∀(i:Nat)(y:V)(d:Dv)(H':Hp),ys[i]? = some y->ds[i]? = some d->iD H1 H' P->te (start [x] [y]) H' λk E_=>av H' E_/\Dn K E_ k d))->(∀(L:Addr)(ps:List (V×Dv))(H':Hp),iD H1 H' P->dJ H' P vp qual->H1 L=none->H' L=some (.lst (ps.map (·.1)))->ps.Perm (ys.zip ds)->(ps.map (·.2)).Pairwise (λd e=>aK d e≠.gt)->Q (.ref L) H')->nN K mg P vp qual x te Q v H1
def wo(K:Fg7)(mg:Str->Option Value)(P:Addr)(vp:Pos)(qual x:Str)(te tl:TE):TE:=λσ H Q=>tl σ H λv H1=>nN K mg P vp qual x te Q v H1
theorem sN{c P:Addr}{x:Str}{e:Expr}{params:Arguments}{body:Expr}{scope:Scope}{vp p pos kpos:Pos}{te tl:TE}(hu:X.A.units+70<cLine)(hr:dj 3 X.A)(hg:Gl X "sorted")(hm:X.mg "sorted"=none)(he:PE X e tl)
  (hcl:closureFor scope X.env=pure [])(hge:X.env.globals=mainGlobals)(hcode:X.env.code=.ref c)(hd:PySem.W.codeHdIn X.K c P=true)(hdef:defaultsOf params X.env=([],[]))
  (hbind:∀(pm ctv u:Value)(c':Addr),bindArgs (PySem.W.kla_fn "<lambda>" (X.env.qual++"<lambda>") params body scope [] pm (.ref c') ctv) ⟨[u],[]⟩=pure [(x,u)])(S:aS [x] [x] scope)
  (hbody:∀(F c':Addr)(A:Around)(outer:List Env)(s:Shared)(H:Hp),PE (oG jj X.prog X.w X.K X.mg X.base [x] (X.env.qual++"<lambda>") scope F (.ref c') A outer s H E0).ER body te)
  (hs:starEach [e] X.env=[(false,eval e X.env)]:=by rfl):
  PE X (.Call (.Name "sorted" p) [e] [⟨some (Str.ofString "key"),.Lambda params body scope vp,kpos⟩] pos) (wo X.K X.mg P vp (X.env.qual++"<lambda>") x te tl):=by
 intro pins s σ H Q I h
 refine wpAny_Call_Name_kw (ie I hg hm f_ ?_ (by decide) (by decide))
 refine callWith_kw ?_ (by rw[hs];rfl) (by rw[hs];rfl) rfl rfl
 rw[hs]
 show wpAny _ _ (spliced ((false,eval e X.env)::backTo pos [])) _ _ s
 refine Calls.spliced_cons (cW (he pins s σ H _ I h) λu s1 ⟨v,H1,I1,r1,q1⟩=>Calls.spliced_nil ?_)
 obtain⟨l,ys,ds,sh,rfl,hl,hT,hB,hz,hdl,hsh,hkey,GV,turn,q⟩:=q1
 cases r1
 refine evalAll_cons (wpAny_bind (PySem.W.kla_eval hdef (Dp I1 hcl hge hcode hd hB hT λF c' oc vs tq pm ctv H2 s2 I2 k2 Nl hc2 hv hv1 hF fF=>wpAny_bind (wpAny_standAt (wpAny_pure (wpAny_pure ?_))))))
 show wpAny _ _ (call (.builtin "sorted") [.ref l] [(Str.ofString "key",.ref F)]) _ _ s2
 obtain⟨Xg,hP1⟩:∃Xg,H1 P=some (.oj Xg):=by
  rcases hT with z|⟨_,_,_,_,z,_⟩
  ·exact⟨_,z⟩
  ·exact⟨_,z⟩
 refine xo I2 (k2.seq hP1 hl) hF fF (λ_ z=>nomatch z) hz hdl hsh hkey GV hu (λi y u d hy ry hdi gh H' s' J sm Nm=>?_) λL ps H' sm hL hL' p1 p2=>?_
 ·have hcr:s'.heap.CodeRec (.ref c') (X.env.qual++"<lambda>"):=⟨c',oc,vs,tq,rfl,(J.hok _ _ (sm _ _ hc2)).1,hv,hv1⟩
  exact GA (k:=0) J rfl hr.in1.in1 Nm hcr (hbind _ _ _ _) S ry (λA outer s H _=>hbody F c' A outer s H) (turn i y d H' hy hdi (k2.trans sm.I_))
 ·refine q L ps H' (k2.trans sm.I_) (.inr ⟨c',oc,vs,tq,sm _ _ Nl,sm _ _ hc2,hv,hv1⟩) ?_ hL' p1 p2
  cases e1:H1 L with
  |none=>rfl
  |some o=>
   by_cases Yx:L=P
   ·rw[Yx,Nl]at hL;cases hL
   ·rw[k2 L o e1 Yx]at hL;cases hL
end
section
variable {X:Cx}
inductive Cr(t:TS)(D:Ends)(σ:St)(H:Hp):Prop
 |mk(d:_)(u:_):(H d=some u)->(CY u)->(t {D with nx:=λσ' H'=>∃o,H' d=some (.ef o u)/\D.nx σ' (upd H' d u)} σ H)->Cr t D σ H
def Ob(t:TS):TS:=λD σ H=>Cr t D σ H
theorem F_{st:Stmt}{t:TS}(h:PS X st t):PS X st (Ob t):=by
 intro pins s σ H D I hq
 obtain⟨d,u,hd,hn,q⟩:=hq
 refine wpAny_mono (h pins s σ H _ I q) (λf s1 hs=>?_) λ_ _ z=>z
 cases f with
 |next=>
  obtain⟨σ',H',I',o,e1,q1⟩:=hs
  refine⟨σ',_,I'.NJ e1 λo' u' z=>?_,q1⟩
  have:=I.base.lG d o' u' z
  rw[hd]at this;cases this
  exact hn
 |brk=>exact hs
 |cont=>exact hs
 |ret v=>exact hs
end
structure fY(K:Fg7)(C:Addr)(m qual:Str)(st:Stmt)(Pt:Addr):Prop where
 ex:∃(f:Addr) (oc:Value) (od:Option Addr) (kV doc pm:Value) (an:Option Addr) (c:Addr) (ct:Value) (osl:Array (Option Value)),
  PySem.W.findIn K (.ref C) m=some (some (.ref f))/\PySem.W.isFn K (.ref f)=true/\K.lookup f=some ⟨oc,od,.func (PySem.W.fnOf m qual (aJ st) (aG st) (aq st) .none kV doc pm an (.ref c) ct),osl⟩/\PySem.W.codeIn K (.ref c) qual=true/\PySem.W.keepIn K (.ref f)=true/\PySem.W.codeHdIn K c Pt=true
theorem fY.mk'{K:Fg7}{C Pt:Addr}{m qual:Str}{st:Stmt}{f:Addr}{oc:Value}{od:Option Addr}{kV doc pm:Value}{an:Option Addr}{c:Addr}{ct:Value}{osl:Array (Option Value)}(a:PySem.W.findIn K (.ref C) m=some (some (.ref f)))(i:PySem.W.isFn K (.ref f)=true)
  (l:K.lookup f=some ⟨oc,od,.func (PySem.W.fnOf m qual (aJ st) (aG st) (aq st) .none kV doc pm an (.ref c) ct),osl⟩)(c':PySem.W.codeIn K (.ref c) qual=true)(k:PySem.W.keepIn K (.ref f)=true)(t:PySem.W.codeHdIn K c Pt=true):fY K C m qual st Pt:=⟨⟨f,oc,od,kV,doc,pm,an,c,ct,osl,a,i,l,c',k,t⟩⟩
theorem fY.code{K:Fg7}{C Pt:Addr}{m qual:Str}{st:Stmt}(D:fY K C m qual st Pt):∃c,PySem.W.codeHdIn K c Pt=true:=by
 obtain⟨f,oc,od,kV,doc,pm,an,c,ct,osl,a,i,l,c',kp,t⟩:=D.ex
 exact⟨c,t⟩
section
variable {P:Program} {w:World} {K:Fg7} {mg:Str->Option Value} {C Pt:Addr} {m:Str} {ps:List Str} {k:Nat} {sp:Sp}
theorem fY.fn{qual:Str}{st:Stmt}{N:List Str}(D:fY K C m qual st Pt)(S:aS N ps (aq st))
  (hb:∀(kV doc pm:Value)(an:Option Addr)(cdv ct:Value)(us:List Value),us.length=ps.length->bindArgs (PySem.W.fnOf m qual (aJ st) (aG st) (aq st) .none kV doc pm an cdv ct) ⟨us,[]⟩=pure (ps.zip us))
  (len:∀vs H Q E,sp vs H Q E->vs.length=ps.length)
  (hbody:∀(f c:Addr)(base:Heap)(A:Around)(outer:List Env)(s:Shared)(H:Hp)(vs:List V)(Q:VK)(E:XK),PySem.W.codeHdIn K c Pt=true->dj k (A.deeper (envOfC qual (aq st) s.heap.objs.size f (.ref c)))->sp vs H Q E->
   ∃t,ug (oG jj P w K mg base N qual (aq st) f (.ref c) A outer s H E).ER (aG st) t/\t {nx:=λ_ H'=>Q .dI H',rt:=Q} (start N vs) H):dF P w K mg jj C m ps (k+1) sp:=by
 obtain⟨f,oc,od,kV,doc,pm,an,c,ct,osl,a,i,l,c',kp,t⟩:=D.ex
 refine⟨f,_,⟨a,i,kp⟩,hb kV doc pm an (.ref c) ct,λbase=>JK l c' S len λA outer s H vs Q E hr uf=>?_⟩
 obtain⟨t',h,q⟩:=hbody f c base A outer s H vs Q E t hr uf
 exact⟨t',h.ER,q⟩
end
theorem An{P:Program}{w:World}{K:Fg7}{mg mb:Str->Option Value}{k:Nat}{fa a Pt c:Addr}{fd:FuncData}{x:Str}{sp:Sp}{s₁:Shared}{vs:List Value}{ns:List Int}
  (KX:K.In s₁.heap)(hns:s₁.heap.Ns mainGlobals mg)(hb:s₁.heap.Ns builtinsNs mb)(S_:∀x:Str,x≠"__name__"->mb x=bootBuiltins x)(hlim:s₁.heap.NoLimit)(hg:s₁.gens= #[])
  (hbm:∃bm ob,mg "__builtins__"=some (.ref bm)/\bm≠builtinsNs/\s₁.heap.get? bm=some ob/\ob.cls=.type "module"/\ob.dict=some builtinsNs/\ob.data=.plain)
  (hT:s₁.heap.get? Pt=some (PySem.W.tabObj #[]))(KT:K.lookup Pt=none)(hcd:PySem.W.codeHdIn K c Pt=true)
  (ha:s₁.heap.get? a=some {cls:=.type "list",data:=.seq vs.toArray})(hi:IntsAre vs ns)(hl:ns.length<=sizeLine)(hr:dj k callerA)
  (F:∀base:Heap,nF P w K mg base jj k fa fd [x] sp)(hbind:∀(s:Shared)(u:Value),BindsTo s fd ⟨[u],[]⟩ [(x,u)])
  (uf:∀H:Hp,bB K H a (ns.map V.int)->H Pt=some (.oj #[])->gD K mg H->sp [.ref a] H (λv _=>v=.bl true) λ_ _ _=>False):
  codeAny (model P w) callerA (.call (.ref fa) ⟨[.ref a],[]⟩) (λr s'=>r=.ok (.ret (.bool true))/\OldK s₁.heap s'.heap/\s'.os=s₁.os/\AllBare s'.gens) s₁:=by
 have rv:=qQ hi
 have Ve:=hi.length
 obtain⟨bm,ob,b1,b2,b3,b4,b5,b6⟩:=hbm
 have naP:a≠Pt:=λz=>by rw[z,hT]at ha;cases ha
 have nab:a≠bm:=λz=>by rw[z,b3]at ha;cases ha;cases b6
 have nbP:bm≠Pt:=λz=>by rw[z,hT]at b3;cases b3;cases b6
 obtain⟨H,hH,hS,hP,hB⟩:∃H:Hp,(∀b u,H b=some u->K.lookup b=none/\((b=a/\u=.ef {cls:=.type "list",data:=.seq vs.toArray} (.lst (ns.map V.int)))\/(b=Pt/\u=.oj #[])\/(b=bm/\u=.ef ob (.ext λ_=>True))))/\bB K H a (ns.map V.int)/\H Pt=some (.oj #[])/\gD K mg H:=by
  refine⟨λb=>if b=Pt then some (.oj #[])else if b=a then(match K.lookup a with|none=>some (.ef {cls:=.type "list",data:=.seq vs.toArray} (.lst (ns.map V.int)))|some _=>none)else if b=bm then(match K.lookup bm with|none=>some (.ef ob (.ext λ_=>True))|some _=>none)else none,λb u e=>?_,?_,if_pos rfl,bm,ob,b1,b2,?_,b4,b5,b6⟩
  ·dsimp only at e
   split at e
   ·rename_i hb;subst hb;cases e;exact⟨KT,.inr (.inl ⟨rfl,rfl⟩)⟩
   ·split at e
    ·rename_i hb;subst hb
     split at e
     ·rename_i hk;cases e;exact⟨hk,.inl ⟨rfl,rfl⟩⟩
     ·cases e
    ·split at e
     ·rename_i hb;subst hb
      split at e
      ·rename_i hk;cases e;exact⟨hk,.inr (.inr ⟨rfl,rfl⟩)⟩
      ·cases e
     ·cases e
  ·cases hk:K.lookup a with
   |some o=>
    have e:=KX a o hk
    rw[ha]at e
    cases e
    exact .inr ⟨_,vs.toArray,_,hk,rfl,rfl,rfl,by rw[List.size_toArray,Ve];exact hl,by simpa using rv⟩
   |none=>
    refine .inl (.inr ⟨{cls:=.type "list",data:=.seq vs.toArray},?_⟩)
    dsimp only
    rw[if_neg naP,if_pos rfl]
  ·cases hk:K.lookup bm with
   |some o=>
    have e:=KX bm o hk
    rw[b3]at e
    cases e
    exact .inl rfl
   |none=>
    refine .inr ?_
    dsimp only
    rw[if_neg nbP,if_neg nab.symm,if_pos rfl]
 have hok:kB P w H s₁.heap:=λb u e=>by
  obtain⟨_,h⟩:=hH b u e
  rcases h with⟨rfl,rfl⟩|⟨rfl,rfl⟩|⟨rfl,rfl⟩
  ·exact⟨ha,by rw[List.length_map];exact hl,vs,_,rv,ha⟩
  ·exact hT
  ·exact⟨b3,trivial,⟨_,b3⟩,λ_ _ _ _=>trivial⟩
 have zm:∀{b:Addr}{o:Obj},s₁.heap.get? b=some o->H b=none->(tD s₁.heap H).get? b=some o:=λe n=>DP e n
 have OH:∀{b:Addr}{o:Obj}{es:Array DictEntry}{ep:Nat},s₁.heap.get? b=some o->o.data=.dict es ep->H b=none:=λ{b o es ep} e d=>by
  cases q:H b with
  |none=>rfl
  |some u=>
   obtain⟨_,h⟩:=hH b u q
   rcases h with⟨rfl,rfl⟩|⟨rfl,rfl⟩|⟨rfl,rfl⟩
   ·rw[ha]at e;cases e;cases d
   ·rw[hT]at e;cases e;cases d
   ·rw[b3]at e;cases e;rw[b6]at d;cases d
 have UI:∀{b:Addr}{m:Str->Option Value},s₁.heap.Ns b m->(tD s₁.heap H).Ns b m:=λ{b m} ⟨o,es,ep,e,d,r⟩=>⟨o,es,ep,zm e (OH e d),d,r⟩
 have hKb:K.In (tD s₁.heap H):=λb o e=>zm (KX b o e) (by
  cases q:H b with
  |none=>rfl
  |some u=>
   have z:=(hH b u q).1
   have e':K.lookup b=some o:=e
   rw[z]at e';cases e')
 have hM:Mod K mg (tD s₁.heap H):=⟨hKb,UI hns,⟨mb,UI hb,S_⟩,let⟨mc,h1,h2⟩:=hlim;⟨mc,UI h1,h2⟩⟩
 have e0:vV P w K mg (tD s₁.heap H) callerA [] s₁ H:=⟨rfl,hM,λb o e=>Gu e,Nat.le_of_eq (Ay _ _),trivial,λb hb=>absurd (show b∈([]:List Addr)from hb) (by simp),hok,.of_eq hg⟩
 refine codeAny_mono ((F _).run callerA [] s₁ H ⟨[.ref a],[]⟩ [.ref a] [.ref a] _ _ hr e0 (hbind s₁ (.ref a)) (.cons rfl .nil) (uf H hS hP hB)) λr s' h=>?_
 cases r with
 |error e=>exact False.elim h
 |ok fl=>
  cases fl with
  |next=>exact False.elim h
  |brk=>exact False.elim h
  |cont=>exact False.elim h
  |ret u=>
   obtain⟨v,H',os,bare,un,LO,r',q⟩:=h
   have q':v=.bl true:=q
   subst q'
   obtain rfl:u=Value.bool true:=r'
   have isT:isCodeTable s₁.heap Pt:=by
    obtain⟨o,vs,_,_,_,_,_,_,_,h1,h2,h3,h4,_⟩:=PySem.W.codeHd_of_K KX hcd
    exact⟨c,o,vs,h1,h2,h3,h4⟩
   refine⟨rfl,⟨λb o e=>?_,λb o e=>un.there b o e (by simp)⟩,os,bare⟩
   cases q:H b with
   |none=>exact .inl (un.keep b o e q (by intro z;exact absurd (show b∈([]:List Addr)from z) (by simp)) (by simp))
   |some u=>
    obtain⟨_,z⟩:=hH b u q
    rcases z with⟨rfl,rfl⟩|⟨rfl,rfl⟩|⟨rfl,rfl⟩
    ·have e2:=(LO _ _ (un.lG _ _ _ q)).1
     rw[ha]at e;cases e
     exact .inl e2
    ·obtain⟨more,e2⟩:=un.pK _ _ q
     have e3:s'.heap.get? b=some {cls:=.none,data:=.fields (#[]++more)}:=LO _ _ e2
     rw[hT]at e;cases e
     exact .inr (.inl ⟨isT,rfl,#[],more,rfl,e3⟩)
    ·have e2:=(LO _ _ (un.lG _ _ _ q)).1
     rw[b3]at e;cases e
     exact .inl e2
theorem NG{l:PySem.W.OpenLaw}{q:Program}{loose:List Str}{XP:(Str->Option Value)->Heap->Prop}{YP:World->Heap->Prop}{d:DefRec}{K:Params->Fg7}{x:Str}(k:Nat)(Pt:Addr)(hk:dj k callerA)
  (hn:l.most=some 63)(hdf:d.params.defaults=[])
  (hY:∀(w:World)(h:Heap),YP w h->(K w.params).In h/\h.get? Pt=some (PySem.W.tabObj #[]))
  (sp:Fg7->(Str->Option Value)->Sp)(uf:∀(K:Fg7)(mg:Str->Option Value)(H:Hp)(a:Addr)(ns:List Int),ns.length<=63->bB K H a (ns.map V.int)->H Pt=some (.oj #[])->gD K mg H->sp K mg [.ref a] H (λv _=>v=.bl true) λ_ _ _=>False)
  (F:∀(w:World)(mg:Str->Option Value),MG (K w.params) mg->(K w.params).lookup Pt=none/\(∃c,PySem.W.codeHdIn (K w.params) c Pt=true)/\fQ l.prog w (K w.params) mg d.name [x] k (sp (K w.params) mg)):
  PySem.W.WalkO q loose XP YP l.row.toRowW d [] (λf vs=>PySem.call f vs):=by
 refine Ze.vN hn hdf λw s₀ s₁ mg mb fa o pm cd doc a vs ns G Y ho hd hcd hmg hobj hints hlen hg=>?_
 obtain⟨KX,hT⟩:=hY w _ Y
 have M:MG (K w.params) mg:=⟨λy v e=>PySem.W.mg_of KX G.T.g e,λy e=>PySem.W.mg_none_of KX G.T.g e⟩
 obtain⟨KT,⟨c,hc⟩,f,fd,h1,h2,h3,h4⟩:=F w mg M
 have e:=hmg.symm.trans h1
 cases e
 exact An KX G.T.g G.T.b G.T.builtins G.T.nolimit hg G.T.bmain hT KT hc hobj hints (Nat.le_trans hlen (by decide)) hk h4 (λs u=>.of_eq (h3 [u] rfl)) λH hS hP hB=>uf (K w.params) mg H a ns hlen hS hP hB
theorem jZ{us:List Value}(h:us.length=1):∃a,us=[a]:=by
 cases us with
 |nil=>cases h
 |cons a r=>cases r with
  |nil=>exact⟨a,rfl⟩
  |cons b r=>cases h
theorem Lb{us:List Value}{n:Nat}(h:us.length=n+1):∃a r,us=a::r/\r.length=n:=by
 cases us with
 |nil=>cases h
 |cons a r=>exact⟨a,r,rfl,Nat.succ.inj h⟩
theorem jY{us:List Value}(h:us.length=2):∃a b,us=[a,b]:=by
 obtain⟨a,r,rfl,g⟩:=Lb h
 obtain⟨b,rfl⟩:=jZ g
 exact⟨a,b,rfl⟩
theorem Lc{us:List Value}(h:us.length=3):∃a b c,us=[a,b,c]:=by
 obtain⟨a,r,rfl,g⟩:=Lb h
 obtain⟨b,c,rfl⟩:=jY g
 exact⟨a,b,c,rfl⟩
theorem Vf{us:List Value}(h:us.length=4):∃a b c d,us=[a,b,c,d]:=by
 obtain⟨a,r,rfl,g⟩:=Lb h
 obtain⟨b,c,d,rfl⟩:=Lc g
 exact⟨a,b,c,d,rfl⟩
theorem aX{a b:TS}{D:Ends}{σ:St}{H:Hp}(h:∀B:TS,B=b->a {D with nx:=λσ' H'=>B D σ' H'} σ H):NO a b D σ H:=h b rfl
section
variable {X:Cx}
end
end L2
namespace HT
open PySem PyProof.Rows
section
open PySem.SeqAt
open PySem.AutoSeq1 (wpAny_loadPart')
open PySem.MeetsSeq PySem.MeetsSeq2 PySem.MeetsSeq3
end
end HT
namespace L2
open PySem PySem.Spec PyProof.Rows
section
variable {X:Cx} {pins:List (Addr×Obj)} {σ:St} {H:Hp} {s:Shared}
end
open PySem PySem.Spec PyProof.Rows PySem.Builtin PySem.Builtin.Str
section
variable {X:Cx}
theorem zA:∀l:List (Str×Tok),Vals ((l.map (·.1)).map V.str) (strValues l):=by
 intro l
 induction l with
 |nil=>exact .nil
 |cons p l ih=>exact .cons ⟨p.2,rfl⟩ ih
end
section
variable {X:Cx} {tg:Expr}
end
section
variable {X:Cx} {body s1 s2:List Stmt} {b1 b2:Stmt} {th1 th2:TS} {tE:XK->TS} {x1 x2:Str} {C1 C2:Addr} {np1 np2 pos hp1 hp2:Pos}
end
section
variable {X:Cx} {pins:List (Addr×Obj)} {σ:St} {H H':Hp} {s:Shared} {a:Addr} {C:Value} {B h6:Heap}
end
section
variable {P:Program} {w:World} {K:Fg7} {mg:Str->Option Value} {base:Heap} {N:List Str} {qual:Str} {scope:Scope} {f:Addr} {cd:Value} {A:Around} {outer:List Env} {s:Shared} {H:Hp} {E:XK}
end
section
variable {M:Model} {A:Around} {E:Value->Shared->Prop} {s:Shared} {env:Env}
end
section
variable {X:Cx} {pins Xj:List (Addr×Obj)} {σ σ1:St} {H3 H1 H':Hp} {s3 t1 wI:Shared} {a:Addr} {Cc:Value} {fp:List Addr} {NY:List Str} {scope:Scope} {cl:List (Str×Addr)} {E:XK} {Q:Value->Shared->Prop} {acc:Value}
end
section
variable {X:Cx}
end
section
variable {X:Cx} {o e:Expr} {apos cpos:Pos} {td ty:TE} {a:Addr}
end
end L2
namespace TX
open PySem PyProof.Rows
section
variable {prog:Program} {w:World} {A:Around} {E:Value->Shared->Prop} {s:Shared}
def ent(w:World)(p:Str×Tok):Int×Value:=(hashStr w p.1,.str p.1 p.2)
def jy(ts:List Str)(z:Str):List Str:=if z∈ts then ts else ts++[z]
def gT(w:World)(h:Heap)(a:Addr)(ts:List Str)(b:Bool):Prop:=
 ∃(o:Obj) (es:Array (Int×Value)) (ep:Nat) (t:SetTable) (l:List (Str×Tok)),h.get? a=some o/\o.ExactSet/\o.data=.set es ep t/\es.toList.Perm (l.map (ent w))/\l.map (·.1)=ts/\
  ts.length<scanBound/\t.fits es.size=true/\t.led=b/\(0<ts.length->t.plain=false)
theorem gT.move{h h':Heap}{a:Addr}{ts:List Str}{b:Bool}(x:gT w h a ts b)(k:∀o,h.get? a=some o->h'.get? a=some o):gT w h' a ts b:=
 let⟨o,es,ep,t,l,ho,r⟩:=x;⟨o,es,ep,t,l,k o ho,r⟩
theorem Ec{es:Array (Int×Value)}{l:List (Str×Tok)}(p:es.toList.Perm (l.map (ent w))):ElemsOf (strKind prog w) es.toList:=λe he=>by
 obtain⟨q,_,rfl⟩:=List.mem_map.mp (p.mem_iff.mp he)
 exact⟨⟨q.1,strKind_is prog w q.1 q.2,rfl⟩,rfl⟩
theorem mem_of{es:Array (Int×Value)}{l:List (Str×Tok)}(p:es.toList.Perm (l.map (ent w)))(z:Str):(∃e∈es.toList,(strKind prog w).is z e.2=true)↔z∈l.map (·.1):=by
 constructor
 ·rintro⟨e,he,hz⟩
  obtain⟨q,hq,rfl⟩:=List.mem_map.mp (p.mem_iff.mp he)
  obtain rfl:z=q.1:=(strKind prog w).inj _ z q.1 hz (strKind_is prog w q.1 q.2)
  exact List.mem_map.mpr ⟨q,hq,rfl⟩
 ·intro hz
  obtain⟨q,hq,rfl⟩:=List.mem_map.mp hz
  exact⟨_,p.mem_iff.mpr (List.mem_map.mpr ⟨q,hq,rfl⟩),strKind_is prog w q.1 q.2⟩
theorem size_of{es:Array (Int×Value)}{l:List (Str×Tok)}(p:es.toList.Perm (l.map (ent w))):es.size=l.length:=by
 rw[←Array.length_toList,p.length_eq,List.length_map]
theorem KJ(t:SetTable)(n:Nat):(t.orStandIn n).led=t.led/\(t.plain=false->(t.orStandIn n).plain=false):=by
 unfold SetTable.orStandIn
 split
 ·exact⟨rfl,id⟩
 ·exact⟨rfl,λ_=>rfl⟩
theorem Gz(t:SetTable)(es:Array (Int×Value))(h:Int)(x:Value):(layNew t es h x).2.1.led=t.led:=by
 unfold layNew
 split
 ·exact(KJ _ _).1
 ·rfl
theorem zR(t:SetTable)(es:Array (Int×Value))(n:Nat):(relayAll t es n).2.1.led=t.led/\(t.plain=false->(relayAll t es n).2.1.plain=false):=by
 unfold relayAll
 split
 ·rename_i t' order q
  have e:t'.led=t.led/\t'.plain=t.plain:=by
   unfold SetTable.relaid SetTable.laid at q
   cases hL:SetTable.layClean (SetTable.sizeAbove n-1) (es.map (·.1))with
   |none=>rw[hL]at q;cases q
   |some ow=>
    rw[hL]at q
    have q':=(Prod.mk.inj (Option.some.inj q)).1
    rw[←q']
    exact⟨rfl,rfl⟩
  dsimp only
  split
  ·exact⟨e.1,λz=>e.2.trans z⟩
  ·exact⟨rfl,λ_=>rfl⟩
 ·exact⟨rfl,λ_=>rfl⟩
theorem CI{h:Heap}{a:Addr}{o:Obj}{es fs:Array (Int×Value)}{ep:Nat}{t u:SetTable}(ho:h.get? a=some o)(hd:o.data=.set es ep t):
  (h.update a (Obj.putSet fs u)).get? a=some {o with data:=.set fs (ep+1) u}:=by
 have e:=putSet_of fs u hd
 rw[Heap.get?_update_self (Obj.putSet fs u) ho (by rw[e];rfl),e]
theorem By{g:Bool->Sem Unit}(hg:∀(b:Bool)(s':Shared)(R:Unit->Shared->Prop),R () s'->wpAny (model prog w) A (g b) R E s'){a:Addr}{o:Obj}{es fs:Array (Int×Value)}{ep:Nat}{t u:SetTable}{l:List (Str×Tok)}{ts:List Str}{b wd:Bool}
  (ho:s.heap.get? a=some o)(hex:o.ExactSet)(hd:o.data=.set es ep t)(hp:fs.toList.Perm (l.map (ent w)))(hts:l.map (·.1)=ts)(hb:ts.length<scanBound)(hf:u.fits fs.size=true)(hl:u.led=b)(hpl:u.plain=false)
  {R:Option Bool->Shared->Prop}(h:∀h',Heap.SameBut a s.heap h'->gT w h' a ts b->R (some true) {s with heap:=h'}):
  wpAny (model prog w) A (do
    storeSet a fs u
    if(!wd&&u.tooFull)=true then do
      g (relayAll u fs (SetTable.grown fs.size)).2.2
      storeSet a (relayAll u fs (SetTable.grown fs.size)).1 (relayAll u fs (SetTable.grown fs.size)).2.1
      pure (some true)
     else pure (some true)) R E s:=by
 have hz:=size_of hp
 have hz':fs.size<scanBound:=by rw[hz,←List.length_map (as:=l) (·.1),hts];exact hb
 refine wpAny_bind (wpAny_storeSet_of ho hd ?_ (fits_of_scanBound hz'))
 have h1:=CI (fs:=fs) (u:=u) ho hd
 have s1:=Heap.SameBut.update s.heap a (Obj.putSet fs u)
 split
 ·have q1:=relayAll_perm u fs (SetTable.grown fs.size)
  have q2:=relayAll_fits u fs (SetTable.grown fs.size)
  obtain⟨q3,q4⟩:=zR u fs (SetTable.grown fs.size)
  generalize relayAll u fs (SetTable.grown fs.size)=rl at q1 q2 q3 q4 ⊢
  obtain⟨gs,v,gv⟩:=rl
  dsimp only at q1 q2 q3 q4 ⊢
  have hz2:gs.size=fs.size:=by rw[←Array.length_toList,q1.length_eq,Array.length_toList]
  refine wpAny_bind (hg _ _ _ (wpAny_bind (wpAny_storeSet_of h1 rfl ?_ (fits_of_scanBound (by rw[hz2];exact hz')))))
  exact wpAny_pure (h _ (s1.trans (Heap.SameBut.update _ a _)) ⟨_,gs,_,v,l,CI h1 rfl,hex,rfl,q1.trans hp,hts,hb,q2,q3.trans hl,λ_=>q4 hpl⟩)
 ·exact wpAny_pure (h _ s1 ⟨_,fs,_,u,l,h1,hex,rfl,hp,hts,hb,hf,hl,λ_=>hpl⟩)
theorem ML{a:Addr}{ts:List Str}{b:Bool}{z:Str}{tk:Tok}{Q:Bool->Shared->Prop}(hS:gT w s.heap a ts b)(hr:ts.length+1<scanBound)
  (h:∀h' r,Heap.SameBut a s.heap h'->gT w h' a (jy ts z) b->Q r {s with heap:=h'}):wpAny (model prog w) A (setAddHashed a (.str z tk) (hashStr w z)) Q E s:=by
 obtain⟨o,es,ep,t,l,ho,hex,hd,hp,hts,hb,hf,hl,hpl⟩:=hS
 have hz:=size_of hp
 have hlt:l.length=ts.length:=by rw[←hts,List.length_map]
 have hel:ElemsOf (strKind prog w) es.toList:=Ec hp
 have hk:=strKind_is prog w z tk
 unfold setAddHashed setAddHashedIn
 refine wpAny_holding (wpAny_bind (wpAny_setState_of ho hd hf ?_))
 dsimp only
 rw[byScan_of (knd:=strKind prog w) rfl LI hel]
 simp only[↓reduceIte]
 unfold setAddByScan
 refine wpAny_bind (wpAny_bind (wpAny_rule (wpAny_bind (wpAny_setScan_of (knd:=strKind prog w) (k:=z) hk ho hd hf hel ?_))))
 cases hq:List.findIdx? (λe=>(strKind prog w).is z e.2) es.toList with
 |some j=>
  dsimp only
  obtain⟨hj,hpj,_⟩:=List.findIdx?_eq_some_iff_getElem.mp hq
  have hm:z∈ts:=by rw[←hts];exact(mem_of (prog:=prog) hp z).mp ⟨es.toList[j],List.getElem_mem hj,hpj⟩
  refine wpAny_pure (wpAny_pure ?_)
  have:=h s.heap false (Heap.SameBut.refl a s.heap)
  rw[show jy ts z=ts from if_pos hm]at this
  exact this ⟨o,es,ep,t,l,ho,hex,hd,hp,hts,hb,hf,hl,hpl⟩
 |none=>
  dsimp only
  have hm:z∉ts:=λhm=>by
   rw[←hts]at hm
   obtain⟨e,he,s_⟩:=(mem_of (prog:=prog) hp z).mpr hm
   have:=List.findIdx?_eq_none_iff.mp hq e he
   rw[s_]at this;cases this
  have q1:=layNew_perm t es (hashStr w z) (.str z tk)
  have q2:=layNew_fits t es (hashStr w z) (.str z tk)
  have q3:=Gz t es (hashStr w z) (.str z tk)
  generalize layNew t es (hashStr w z) (.str z tk)=lw at q1 q2 q3 ⊢
  obtain⟨fs,u,wd,gv⟩:=lw
  dsimp only at q1 q2 q3 ⊢
  rw[Array.toList_push]at q1
  have hp2:fs.toList.Perm ((l++[(z,tk)]).map (ent w)):=by
   rw[List.map_append]
   exact q1.trans (hp.append_right _)
  have X_:(l++[(z,tk)]).map (·.1)=jy ts z:=by
   rw[List.map_append,hts]
   exact(if_neg hm).symm
  have hb2:(jy ts z).length<scanBound:=by
   rw[show jy ts z=ts++[z]from if_neg hm,List.length_append]
   simpa using hr
  have hgw:∀(b:Bool)(s':Shared)(R:Unit->Shared->Prop),R () s'->wpAny (model prog w) A (match b with|true=>rule "set.scan.the-table-gave-way"|false=>pure ()) R E s':=
   λb s' R q=>by cases b<;>first|exact wpAny_pure q|exact wpAny_rule q
  refine wpAny_bind (hgw _ _ _ ?_)
  split
  ·refine wpAny_bind ?_
   rw[hashByValue_scannable 8 rfl]
   refine wpAny_pure ?_
   simp only[plainKind,Bool.false_eq_true,if_false]
   refine By ?_ ho hex hd hp2 X_ hb2 (SetTable.fits_plain_off q2) (q3.trans hl) rfl ?_
   ·intro b s' R q;cases b<;>first|exact wpAny_pure q|exact wpAny_rule q
   ·intro h' sb hS';exact wpAny_pure (h h' true sb hS')
  ·rename_i hpu
   refine wpAny_bind (wpAny_pure ?_)
   simp only[↓reduceIte]
   refine By ?_ ho hex hd hp2 X_ hb2 q2 (q3.trans hl) (by simpa using hpu) ?_
   ·intro b s' R q;cases b<;>first|exact wpAny_pure q|exact wpAny_rule q
   ·intro h' sb hS';exact wpAny_pure (h h' true sb hS')
end
section
variable {prog:Program} {w:World} {A:Around} {E:Value->Shared->Prop} {s:Shared}
def jl(w:World):Bool:= !(w.params.followText "set-order")
abbrev sD(b:Bool):Obj:={cls:=.type "set",dict:=none,data:=.set #[] 0 (.fresh 0 0 b)}
theorem OL(v:Value){R:Value->Shared->Prop}(h:R (.ref s.heap.objs.size) {s with heap:=s.heap.push (sD (jl w))}):
  codeAny (model prog w) A (.call (.builtin "set.__new__") ⟨[.type "set",v],[]⟩) (wants R E) s:=by
 refine codeAny_of_tree (show wpAny _ A.in1 (do checkBuiltinCall "set.__new__" ⟨[.type "set",v],[]⟩;again (.builtin "set.__new__" ⟨[.type "set",v],[]⟩)) _ _ s from ?_)
 refine wpAny_bind (wpAny_of_eq (F.newCall_set_1 v) (wpAny_pure ⟨plainId_quiet F.plain_set_new _,codeAny_builtin F.entry_set_new ?_⟩));rw[Around.under_plainId F.plain_set_new _]
 unfold Builtin.«set.__new__» Builtin.Frozenset.newClass;have hsub:=sub_set_self
 obtain⟨hp,g,d,tk,os⟩:=s
 dsimp only;wp_walk;refine wpAny_askSetting (wpAny_pure ?_);dsimp only;simp only[newObj]
 exact wpAny_bind (wpAny_alloc (wpAny_pure (wpAny_pure h)))
def dP(zs:List Str):List Str:=zs.foldl jy []
theorem Ex(ts:List Str)(z:Str):(jy ts z).length<=ts.length+1:=by unfold jy;split<;>simp
theorem vF(zs:List Str)(z:Str):dP (zs++[z])=jy (dP zs) z:=by unfold dP;rw[List.foldl_append];rfl
theorem kc(zs:List Str):(dP zs).length<=zs.length:=by
 have:∀(zs ts:List Str),(zs.foldl jy ts).length<=ts.length+zs.length:=λzs=>by
  induction zs with
  |nil=>intro ts;simp
  |cons z zs ih=>
   intro ts
   have h1:=ih (jy ts z)
   have h2:=Ex ts z
   rw[List.foldl_cons,List.length_cons]
   lia
 simpa [dP]using this zs []
theorem xD{zs:List Str}{z:Str}:z∈dP zs↔z∈zs:=by
 have key:∀(zs ts:List Str),z∈zs.foldl jy ts↔z∈ts\/z∈zs:=λzs=>by
  induction zs with
  |nil=>intro ts;simp
  |cons y zs ih=>
   intro ts
   rw[List.foldl_cons,ih]
   have:z∈jy ts y↔z∈ts\/z=y:=by
    unfold jy
    split
    ·rename_i hy
     exact⟨.inl,λq=>q.elim id λe=>e▸hy⟩
    ·simp
   rw[this,List.mem_cons,or_assoc]
 simpa [dP]using key zs []
theorem tG(zs:List Str):(dP zs).Nodup:=by
 have key:∀(zs ts:List Str),ts.Nodup->(zs.foldl jy ts).Nodup:=λzs=>by
  induction zs with
  |nil=>intro ts h;exact h
  |cons y zs ih=>
   intro ts h
   refine ih _ ?_
   unfold jy
   split
   ·exact h
   ·rename_i hy
    refine List.nodup_append.mpr ⟨h,List.nodup_cons.mpr ⟨by simp,.nil⟩,λa ha b hb e=>hy ?_⟩
    rw[List.mem_singleton]at hb
    rw[←hb,←e];exact ha
 exact key zs [] .nil
section
variable {R:Result->Shared->Prop} {I:Addr} {fp wr:List Addr} {G:Array GenState->Array GenState->Prop} {n:Nat} {P:Nat->Value->Prop} {St:Nat->Shared->Prop}
theorem K_(W:WalksS prog w A.in1 I fp wr G n P St)(S:Addr)(hSf:S∉fp)(zs:List Str)(b:Bool)(hval:∀i v,P i v->∃z t,zs[i]? = some z/\v=.str z t)(Vq:zs.length=n)(hb:n+1<scanBound):
  ∀(k i:Nat)(s:Shared),n-i=k->i<=n->St i s->gT w s.heap S (dP (zs.take i)) b->(∀s',Moved (S::wr) G s s'->gT w s'.heap S (dP zs) b->R (.ok (.ret .none)) s')->
   codeAny (model prog w) A (.builtin "set.update.loop" ⟨[.ref S,.ref I],[]⟩) R s:=by
 have Yv:S∉wr:=λq=>hSf (W.sub _ q)
 have hsub:∀c∈wr,c∈S::wr:=λc q=>List.mem_cons_of_mem _ q
 intro k
 induction k with
 |zero=>
  intro i s hk hi hst hS hR
  obtain rfl:i=n:=by lia
  refine codeAny_builtin F.entry_set_update_loop ?_;rw[Around.under_plainId F.plain_set_update_loop _]
  refine(show wpAny _ A.in1 (pyNext (.ref I) >>= _) _ _ s from wpAny_bind (W.done s _ _ hst λs' hm=>?_))
  rw[←Vq,List.take_length]at hS
  exact(show wpAny _ A.in1 (ret Value.none) _ _ s' from wpAny_pure (hR s' (hm.mono hsub) (hS.move λo e=>hm.heap S _ Yv e)))
 |succ k ih=>
  intro i s hk hi hst hS hR
  have hlt:i<n:=by lia
  refine codeAny_builtin F.entry_set_update_loop ?_;rw[Around.under_plainId F.plain_set_update_loop _]
  refine(show wpAny _ A.in1 (pyNext (.ref I) >>= _) _ _ s from wpAny_bind (W.item i s _ _ hlt hst λv s' hP Vy hm=>?_))
  obtain⟨z,t,hz,rfl⟩:=hval i v hP
  have hS':gT w s'.heap S (dP (zs.take i)) b:=hS.move λo e=>hm.heap S _ Yv e
  refine(show wpAny _ A.in1 (holding [Value.str z t] (setAdd S (.str z t)) >>= _) _ _ s' from wpAny_bind (wpAny_holding ?_))
  unfold setAdd
  refine wpAny_holding (wpAny_bind ((strKind prog w).pyHash (k:=z) (strKind_is prog w z t) ?_))
  have hroom:(dP (zs.take i)).length+1<scanBound:=by
   have h1:=kc (zs.take i)
   have h2:(zs.take i).length<=i:=by rw[List.length_take];lia
   lia
  refine ML (s:={s' with toks:=s'.toks+1}) hS' hroom λh' r SQ Tc=>?_
  have hSi:gT w h' S (dP (zs.take (i+1))) b:=by
   rw[List.take_add_one,hz]
   show gT w h' S (dP (zs.take i++[z])) b
   rw[vF];exact Tc
  refine wpAny_pure ⟨plainId_quiet F.plain_set_update_loop _,ih (i+1) _ LI hlt (W.frame _ s' _ _ Vy (Nat.le_succ _) λc hc o e=>?_) hSi λs'' VI Wa=>hR s'' (Moved.trans W.gtrans ((hm.mono hsub).then_heap (Nat.le_succ _) λc o hc e=>?_) VI) Wa⟩
  ·rw[SQ.2 c (λq:c=S=>hSf (by rw[←q];exact hc))];exact e
  ·rw[SQ.2 c (λq:c=S=>hc (by rw[q];exact List.mem_cons_self))];exact e
end
set_option maxHeartbeats 3200000 in
theorem xH{l:Addr}{us:List Value}{zs:List Str}{Q:Value->Shared->Prop}(hh:A.handled=none)(hl:s.heap.IsList l us.toArray)(hi:∀(i:Nat)(v:Value),us[i]? = some v->∃z t,zs[i]? = some z/\v=.str z t)(Vq:zs.length=us.length)(hb:us.length+1<scanBound)
  (h:∀(h':Heap)(tk:Nat),gT w h' s.heap.objs.size (dP zs) (jl w)->(∀c o,c<s.heap.objs.size->s.heap.get? c=some o->h'.get? c=some o)->Q (.ref s.heap.objs.size) {s with heap:=h',toks:=tk}):
  wpAny (model prog w) A (call (.type "set") [.ref l]) Q E s:=by
 obtain⟨c,tl,aaV⟩:=F.called_set.mro
 have hmade:=F.called_set.made
 have hsub:=F.called_set.sub
 refine wpAny_call (codeAny_of_tree (show wpAny _ _ (callAny (.type "set") _) _ _ _ from ?_))
 refine wpAny_pure ⟨Code.quiet_builtin _ DK,codeAny_builtin F.entry_type_call ?_⟩;rw[Around.under_plain (weight_type_call_type "set" [.ref l] []) rfl]
 have h1:=F.called_set.notType
 have h2:=F.called_set.canCreate
 have hct:=F.typeCall_set_1 (.ref l)
 repeat (any_goals (first|assumption|wp_step))
 refine codeAny_mono (OL (.ref l) (E:=E) (R:=λob s₁=>ob=.ref s.heap.objs.size/\s₁={s with heap:=s.heap.push (sD (jl w))}) ⟨rfl,rfl⟩) λr s₁ hr=>?_
 cases r with
 |error e=>exact hr
 |ok fl=>
  cases fl with
  |ret ob=>
   obtain⟨rfl,rfl⟩:=hr
   have hS:(s.heap.push (sD (jl w))).get? s.heap.objs.size=some (sD (jl w)):=Heap.get?_push_size _ rfl
   have hT:Shared.TypeIs {s with heap:=s.heap.push (sD (jl w))} (.ref s.heap.objs.size) "set":=⟨_,hS,rfl⟩
   have hli:=F.called_set.init.lookup
   have hbi:=F.called_set.init.bind (.ref s.heap.objs.size)
   repeat (any_goals (first|assumption|wp_step))
   refine codeAny_mono (codeAny_call_builtin (R:=wants (λr s₂=>r=.none/\∃h' tk,s₂={s with heap:=h',toks:=tk}/\gT w h' s.heap.objs.size (dP zs) (jl w)/\(∀c o,c<s.heap.objs.size->s.heap.get? c=some o->h'.get? c=some o)) E) F.called_set.init.plain F.entry_set_init (check_set_init_1 hT ?_)) λr₂ s₂ Vz=>?_
   ·obtain⟨ol,GP,hcl,nl,hdl⟩:=hl
    obtain⟨ZO,OC,Xm,KI⟩:=ol
    simp only at hcl hdl;subst hcl;subst hdl
    have VC:(s.heap.push (sD (jl w))).get? l=some {cls:=.type "list",dict:=OC,data:=.seq us.toArray nl,slots:=KI}:=Heap.get?_push_of_some _ GP
    have aaM:=F.sub_list_set
    have aaN:=F.sub_list_frozenset
    have hne:(Value.type "list"==Value.type "dict")=false:=by decide
    have hl1:(s.heap.push (sD (jl w))).IsList l us.toArray:=⟨_,VC,rfl,nl,rfl⟩
    unfold Builtin.«set.__init__» noKeywords Builtin.Frozenset.updateFrom
    generalize hPI:pyIter=PI
    wp_walk
    subst hPI
    refine wpAny_pyIter_list hl1 (wpAny_bind (wpAny_runValue ?_))
    have hlS:l<s.heap.objs.size:=Heap.lt_size GP
    have hh3:A.in1.in1.in1.handled=none:=by simp[hh]
    have VF:l≠(s.heap.push (sD (jl w))).objs.size:=by rw[Heap.size_push];exact Nat.ne_of_lt (Nat.lt_succ_of_lt hlS)
    have hSf:s.heap.objs.size∉[(s.heap.push (sD (jl w))).objs.size,l]:=by
     rw[Heap.size_push]
     intro q
     simp only[List.mem_cons,List.not_mem_nil,or_false]at q
     have VL:l<s.heap.objs.size:=hlS
     rcases q with q|q
     ·exact absurd q (Nat.ne_of_lt (Nat.lt_succ_self _))
     ·exact absurd q (Nat.ne_of_gt VL)
    have hus:us.toArray.size=us.length:=rfl
    refine K_ ((Walks.list hh3 _ l VF us.toArray).toS) s.heap.objs.size hSf zs (jl w) (λi v q=>hi i v (by simpa using q)) Vq LI us.toArray.size 0 _ LI (Nat.zero_le _) ⟨⟨_,Heap.get?_push_size _ rfl,rfl,rfl⟩,(hl1.push _)⟩ ?_ ?_
    ·exact⟨_,#[],0,_,[],Heap.get?_push_of_some _ hS,⟨rfl,rfl,rfl⟩,rfl,.nil,rfl,by show 0<scanBound;decide,by rfl,rfl,λq=>absurd q (Nat.lt_irrefl 0)⟩
    ·intro s' hm hS'
     obtain⟨h',g',d',tk',os'⟩:=s'
     obtain rfl:g'=s.gens:=hm.gens
     obtain rfl:d'=s.drawn:=hm.drawn
     obtain rfl:os'=s.os:=hm.os
     show wpAny _ _ _ _ _ _
     refine wpAny_pure (show wpAny _ _ (ret Value.none) _ _ _ from wpAny_pure ⟨rfl,h',tk',rfl,hS',λc o hc e=>?_⟩)
     refine hm.heap c o (λq=>?_) (Heap.get?_push_of_some _ (Heap.get?_push_of_some _ e))
     simp only[List.mem_cons,List.not_mem_nil,or_false]at q
     rw[Heap.size_push]at q
     rcases q with q|q
     ·exact absurd q (Nat.ne_of_lt hc)
     ·exact absurd q (Nat.ne_of_lt (Nat.lt_succ_of_lt hc))
   ·cases r₂ with
    |error e=>exact Vz
    |ok fl₂=>
     cases fl₂ with
     |ret r=>
      obtain⟨rfl,h',tk,rfl,hS',hk'⟩:=Vz
      repeat (any_goals (first|assumption|wp_step))
      exact h _ _ hS' hk'
     |_=>exact Vz.elim
  |_=>exact hr.elim
end
namespace SF
theorem iP:Slot "set_iterator" "__next__" "set_iterator.__next__":=.of (owner:="set_iterator") (n:="__next__") (by rw[typeLookup_type,builtinLookup_eq_fast];kernel_rfl) DK DK DK (.inl DK) (by rw[isSubtype_type];kernel_rfl)
theorem yQ:entryFor table "set_iterator.__next__"=some Builtin.«set_iterator.__next__» :=entryFor_of_tree (by kernel_rfl)
theorem GO:entryFor table "set.__iter__"=some Builtin.«frozenset.__iter__» :=entryFor_alias (id':="frozenset.__iter__") (by kernel_rfl) rfl DK (by kernel_rfl)
theorem Dd(a:Value):argsOk "set_iterator.__next__" ⟨[a],[]⟩:=by unfold argsOk;kernel_rfl
theorem Pr:typeLookup (.type "set") "__len__"=pure (some (.builtin "set.__len__")):=by rw[typeLookup_type,builtinLookup_eq_fast];kernel_rfl
end SF
section
variable {prog:Program} {w:World} {A:Around} {E:Value->Shared->Prop} {s:Shared}
def AR(h:Heap)(I:Addr)(first:Value)(i:Nat)(a:Addr)(n ep:Nat):Prop:=∃o:Obj,h.get? I=some o/\o.cls=.type "set_iterator"/\o.data=.fields #[first,rawInt i,.ref a,rawInt n,rawInt ep]
def Bl(h:Heap)(a:Addr)(es:Array (Int×Value))(ep:Nat)(t:SetTable):Prop:=∃o:Obj,h.get? a=some o/\o.data=.set es ep t/\t.fits es.size=true
theorem AR.typ{I a:Addr}{f:Value}{i n ep:Nat}(h:AR s.heap I f i a n ep):s.TypeIs (.ref I) "set_iterator":=let⟨o,e,c,_⟩:=h;⟨o,e,c⟩
theorem sU{I a:Addr}{slot i ep:Nat}{es:Array (Int×Value)}{t:SetTable}{r:Option (Value×Nat)}{Q:Option Value->Shared->Prop}(hh:A.handled=none)(hI:AR s.heap I (rawInt slot) i a es.size ep)(hS:Bl s.heap a es ep t)
  (hn:∀(B:Around)(F:Value->Shared->Prop)(R:Option (Value×Nat)->Shared->Prop),R r s->wpAny (model prog w) B (setNext a slot i ep) R F s)
  (h1:∀x nx h',r=some (x,nx)->AR h' I (rawInt nx) (i+1) a es.size ep->Heap.SameBut I s.heap h'->Q (some x) {s with heap:=h'})
  (h2:∀h',r=none->Heap.ExtBut I s.heap h'->Q none {s with heap:=h'}):wpAny (model prog w) A (pyNext (.ref I)) Q E s:=by
 obtain⟨o,ho,hc,hd⟩:=id hI
 obtain⟨oS,hoS,hdS,hf⟩:=id hS
 unfold pyNext
 refine wpAny_bind (wpAny_attempt (wpAny_callSpecial?_slot (name:=Str.ofString "__next__") hI.typ SF.iP (wpAny_call_entry SF.iP hI.typ SF.yQ ?_ (SF.Dd _))))
 unfold Builtin.«set_iterator.__next__»
 refine wpAny_bind (wpAny_pure ?_)
 refine wpAny_bind (wpAny_fieldsOf ho hd ?_)
 refine wpAny_bind (wpAny_setEntries_of hoS hdS hf ?_)
 rw[if_neg (by simp)]
 refine wpAny_bind (hn _ _ _ ?_)
 have e1:(s.heap.update I (Obj.mapFields (·.setIfInBounds 2 Value.none))).get? I=some _:=Heap.get?_update_self _ ho (Obj.isFreed_of_fields (Obj.data_mapFields hd _))
 cases r with
 |some p=>
  obtain⟨x,nx⟩:=p
  refine(show wpAny _ _ (setField (.ref I) 0 (rawInt nx) >>= _) _ _ s from wpAny_bind (wpAny_setField ho hd (by simp) ?_))
  have g1:(s.heap.update I (Obj.mapFields (·.setIfInBounds 0 (rawInt nx)))).get? I=some _:=Heap.get?_update_self _ ho (Obj.isFreed_of_fields (Obj.data_mapFields hd _))
  have d1:=Obj.data_mapFields hd (·.setIfInBounds 0 (rawInt nx))
  refine(show wpAny _ _ (setField (.ref I) 1 (rawInt ((i:Int)+1)) >>= _) _ _ _ from wpAny_bind (wpAny_setField g1 d1 (by simp) ?_))
  have g2:((s.heap.update I (Obj.mapFields (·.setIfInBounds 0 (rawInt nx)))).update I (Obj.mapFields (·.setIfInBounds 1 (rawInt ((i:Int)+1))))).get? I=some _:=Heap.get?_update_self _ g1 (Obj.isFreed_of_fields (Obj.data_mapFields d1 _))
  have d2:=Obj.data_mapFields d1 (·.setIfInBounds 1 (rawInt ((i:Int)+1)))
  exact wpAny_pure ⟨_,rfl,wpAny_pure (h1 x nx _ rfl ⟨_,g2,(Obj.cls_mapFields ..).trans ((Obj.cls_mapFields ..).trans hc),by rw[d2];simp[rawInt]⟩ ((Heap.SameBut.update ..).trans (Heap.SameBut.update ..)))⟩
 |none=>
  refine(show wpAny _ _ (setField (.ref I) 2 .none >>= _) _ _ s from wpAny_bind (wpAny_setField ho hd (by simp) ?_))
  refine(show wpAny _ _ (newExc (.type "StopIteration") [] >>= _) _ _ _ from wpAny_bind ?_)
  simp only[newExc,newTuple]
  refine wpAny_bind (wpAny_newObj_type (wpAny_bind (m:=firstArgMember _ _) (wpAny_of_eq (a:=Value.none) (by first|rfl|(simp only[firstArgMember];rfl)) (wpAny_newObj_type ?_ (by size_fits)))) (by size_fits))
  simp only[raiseNew]
  refine wpAny_bind (wpAny_handled ?_)
  rw[show A.in1.handled=none from hh]
  refine wpAny_bind (wpAny_pure (wpAny_throw ?_));refine wpAny_bind (wpAny_isInstance (T:="StopIteration") (b:=true) ⟨_,Heap.get?_push_size _ rfl,rfl⟩ isSubtype_stop ?_);refine wpAny_pure (h2 _ rfl ?_)
  exact((Heap.SameBut.update ..).extBut.push _).push _
theorem uZ{I a b:Addr}{i ep:Nat}{es:Array (Int×Value)}{t:SetTable}{ps:List Nat}{Q:Option Value->Shared->Prop}(hh:A.handled=none)(hI:AR s.heap I (.ref b) i a es.size ep)(hS:Bl s.heap a es ep t)
  (hb:∃o n,s.heap.get? b=some o/\o.data=.seq (ps.map λp=>rawInt (p:Nat)).toArray n)(hp:∀p∈ps,p<es.size)
  (h1:∀p e h',ps[i]? = some p->es[p]? = some e->AR h' I (.ref b) (i+1) a es.size ep->Heap.SameBut I s.heap h'->Q (some e.2) {s with heap:=h'})
  (h2:∀h',ps[i]? = none->Heap.ExtBut I s.heap h'->Q none {s with heap:=h'}):wpAny (model prog w) A (pyNext (.ref I)) Q E s:=by
 obtain⟨o,ho,hc,hd⟩:=id hI
 obtain⟨oS,hoS,hdS,hf⟩:=id hS
 obtain⟨ob,nb,hob,hdb⟩:=hb
 unfold pyNext
 refine wpAny_bind (wpAny_attempt (wpAny_callSpecial?_slot (name:=Str.ofString "__next__") hI.typ SF.iP (wpAny_call_entry SF.iP hI.typ SF.yQ ?_ (SF.Dd _))))
 unfold Builtin.«set_iterator.__next__»
 refine wpAny_bind (wpAny_pure ?_)
 refine wpAny_bind (wpAny_fieldsOf ho hd ?_)
 refine wpAny_bind (wpAny_setEntries_of hoS hdS hf ?_)
 rw[if_neg (by simp)]
 have sq:∀(B:Around)(F:Value->Shared->Prop)(R:Option (Array Value)->Shared->Prop),R (some (ps.map λp=>rawInt (p:Nat)).toArray) s->wpAny (model prog w) B (seqItems? (.ref b)) R F s:=λB F R q=>by
  unfold seqItems?
  refine wpAny_bind (wpAny_load hob ?_)
  rw[hdb]
  exact wpAny_pure q
 refine(show wpAny _ _ (seqItems? (.ref b) >>= _) _ _ s from wpAny_bind (sq _ _ _ ?_))
 dsimp only
 rw[Int.toNat_natCast,List.getElem?_toArray,List.getElem?_map]
 cases hq:ps[i]? with
 |some p=>
  have hlt:=hp p (List.mem_of_getElem? hq)
  have he:es[p]? = some es[p]:=Array.getElem?_eq_getElem hlt
  refine(show wpAny _ _ (setNextDrawn a (p:Int).toNat (ep:Int).toNat >>= _) _ _ s from wpAny_bind ?_)
  unfold setNextDrawn
  refine wpAny_bind (wpAny_setState_of hoS hdS hf ?_)
  dsimp only
  rw[if_neg (by simp),Int.toNat_natCast,he]
  refine wpAny_pure (show wpAny _ _ (setField (.ref I) 1 (rawInt ((i:Int)+1)) >>= _) _ _ s from wpAny_bind (wpAny_setField ho hd (by simp) ?_))
  have g1:(s.heap.update I (Obj.mapFields (·.setIfInBounds 1 (rawInt ((i:Int)+1))))).get? I=some _:=Heap.get?_update_self _ ho (Obj.isFreed_of_fields (Obj.data_mapFields hd _))
  have d1:=Obj.data_mapFields hd (·.setIfInBounds 1 (rawInt ((i:Int)+1)))
  exact wpAny_pure ⟨_,rfl,wpAny_pure (h1 p _ _ hq he ⟨_,g1,(Obj.cls_mapFields ..).trans hc,by rw[d1];simp[rawInt]⟩ (Heap.SameBut.update ..))⟩
 |none=>
  refine(show wpAny _ _ (setField (.ref I) 0 (rawInt 0) >>= _) _ _ s from wpAny_bind (wpAny_setField ho hd (by simp) ?_))
  have g1:(s.heap.update I (Obj.mapFields (·.setIfInBounds 0 (rawInt 0)))).get? I=some _:=Heap.get?_update_self _ ho (Obj.isFreed_of_fields (Obj.data_mapFields hd _))
  have d1:=Obj.data_mapFields hd (·.setIfInBounds 0 (rawInt 0))
  refine(show wpAny _ _ (setField (.ref I) 2 .none >>= _) _ _ _ from wpAny_bind (wpAny_setField g1 d1 (by simp) ?_))
  refine(show wpAny _ _ (newExc (.type "StopIteration") [] >>= _) _ _ _ from wpAny_bind ?_)
  simp only[newExc,newTuple]
  refine wpAny_bind (wpAny_newObj_type (wpAny_bind (m:=firstArgMember _ _) (wpAny_of_eq (a:=Value.none) (by first|rfl|(simp only[firstArgMember];rfl)) (wpAny_newObj_type ?_ (by size_fits)))) (by size_fits))
  simp only[raiseNew]
  refine wpAny_bind (wpAny_handled ?_)
  rw[show A.in1.handled=none from hh]
  refine wpAny_bind (wpAny_pure (wpAny_throw ?_));refine wpAny_bind (wpAny_isInstance (T:="StopIteration") (b:=true) ⟨_,Heap.get?_push_size _ rfl,rfl⟩ isSubtype_stop ?_);refine wpAny_pure (h2 _ hq ?_)
  exact(((Heap.SameBut.update ..).trans (Heap.SameBut.update ..)).extBut.push _).push _
end
open PySem PyProof.Rows
section
variable {prog:Program} {w:World} {A:Around} {E:Value->Shared->Prop} {s:Shared}
theorem Zi{n:Nat}{Q:Nat->Shared->Prop}(hn:n≠0)(h:∀i d,i<n->Q i {s with drawn:=d}):wpAny (model prog w) A (choose .order n) Q E s:=λΓ p hΓ=>by
 have:=Sem.wp_choose (M:=model prog w) (Γ:=Γ) (Q:=λa _ s'=>Q a s') (E:=λe _ s'=>E e s') (p:=p) (s:=s) .order n pure
 exact this▸⟨hn,h _ _ (Nat.mod_lt _ (Nat.pos_of_ne_zero hn))⟩
theorem Eb{α:Type}:∀{l:List α}{i:Nat}(h:i<l.length),(l[i]::l.eraseIdx i).Perm l
 |x::l,0,_=>.refl _
 |x::l,i+1,h=>(List.Perm.swap x _ _).trans ((Eb (l:=l) (i:=i) (by simpa using h)).cons x)
theorem Ei{α:Type}:∀(n:Nat)(xs:List α)(s:Shared){Q:List α->Shared->Prop},xs.length<=n->(∀ys d,ys.Perm xs->Q ys {s with drawn:=d})->wpAny (model prog w) A (drawOrder n xs) Q E s
 |0,[],s,Q,_,h=>by unfold drawOrder;exact wpAny_pure (h [] s.drawn .nil)
 |n+1,[],s,Q,_,h=>by unfold drawOrder;exact wpAny_pure (h [] s.drawn .nil)
 |n+1,x::xs,s,Q,hl,h=>by
  unfold drawOrder
  refine wpAny_bind (Zi (by simp) λi d hi=>?_)
  rw[List.getElem?_eq_getElem hi]
  refine wpAny_bind (Ei n _ _ ?_ λys d' p=>wpAny_pure (h _ d' ?_))
  ·rw[List.length_eraseIdx_of_lt hi];simp at hl ⊢;lia
  ·exact(p.cons _).trans (Eb hi)
theorem Kw{α:Type}(f:Nat->Nat)(xs:Array α):(pickOrder f xs).toList.Perm xs.toList:=by
 have key:∀(n k:Nat)(l:List α)(out:Array α),l.length<=n->(pickOrder.go f n k l out).toList.Perm (out.toList++l):=by
  intro n
  induction n with
  |zero=>
   intro k l out hl
   obtain rfl:l=[]:=List.eq_nil_of_length_eq_zero LI
   unfold pickOrder.go
   simp
  |succ n ih=>
   intro k l out hl
   unfold pickOrder.go
   cases l with
   |nil=>simp
   |cons x l=>
    have hi:f k%(x::l).length<(x::l).length:=Nat.mod_lt _ (by simp)
    rw[List.getElem?_eq_getElem hi]
    dsimp only
    refine(ih _ _ _ (by rw[List.length_eraseIdx_of_lt hi];simp at hl ⊢;lia)).trans ?_
    rw[Array.toList_push,List.append_assoc]
    exact List.Perm.append_left _ (Eb hi)
 unfold pickOrder
 exact(key _ _ _ _ (by simp)).trans (by simp)
theorem yP(a:Addr)(slot given ep:Nat):setNext a slot given ep=(do
  let(es,e,t) ←setState a
  if←setsByText then
   if e != ep then unsupported "set_iterator.__next__:elements-changed"
   return ((←setWalk a)[given]?).map λx=>(x.2,slot)
  if(!t.plain&&decide (es.size>1))=true then unsupported "set_iterator.__next__:the-table-is-plain-no-more"
  let _ ←(if(!t.led && !es.isEmpty)=true then unsupported "set:maker-not-led" else pure ():Sem Unit)
  return match es[SetTable.below t.place slot]?,t.place[SetTable.below t.place slot]? with
   |some (_,x),some j=>some (x,j+1)
   |_,_=>none):=rfl
theorem Eh(a:Addr):setDrawn a=(do
  let(es,_,t) ←setState a
  let b ←setsByText
  return !b&&(!t.plain&&decide (es.size>1))):=rfl
theorem Fp(a:Addr):setWalk a=(do
  let(es,e,t) ←setState a
  if←setsByText then return pickOrder ((←ask).params.setOrder a e) es
  if(!t.plain&&decide (es.size>1))=true then return (←drawOrder es.size es.toList).toArray
  let _ ←(if(!t.led&&decide (es.size>1))=true then unsupported "set:maker-not-led" else pure ():Sem Unit)
  return es):=rfl
theorem Hx{Q:Bool->Shared->Prop}(h:Q (w.params.followText "set-order") s):wpAny (model prog w) A setsByText Q E s:=by
 unfold setsByText
 exact wpAny_bind (wpAny_askSetting (wpAny_pure h))
theorem FG{a:Addr}{es:Array (Int×Value)}{ep:Nat}{t:SetTable}{Q:(Array (Int×Value)×Nat×SetTable)->Shared->Prop}(hS:Bl s.heap a es ep t)(h:Q (es,ep,t) s):wpAny (model prog w) A (setState a) Q E s:=
 let⟨_,ho,hd,hf⟩:=hS;wpAny_setState_of ho hd hf h
theorem yO{a:Addr}{es:Array (Int×Value)}{ep slot i:Nat}{t:SetTable}{Q:Option (Value×Nat)->Shared->Prop}(hS:Bl s.heap a es ep t)(hb:w.params.followText "set-order"=true)
  (h:Q (((pickOrder (w.params.setOrder a ep) es)[i]?).map λx=>(x.2,slot)) s):wpAny (model prog w) A (setNext a slot i ep) Q E s:=by
 rw[yP]
 refine wpAny_bind (FG hS (wpAny_bind (Hx ?_)))
 rw[hb,if_pos rfl,if_neg (by simp),Fp]
 refine wpAny_bind (wpAny_bind (FG hS (wpAny_bind (Hx ?_))))
 rw[hb,if_pos rfl]
 exact wpAny_bind (wpAny_askSetting (wpAny_pure (wpAny_pure h)))
theorem CW{a:Addr}{es:Array (Int×Value)}{ep slot i:Nat}{t:SetTable}{Q:Option (Value×Nat)->Shared->Prop}(hS:Bl s.heap a es ep t)(hb:w.params.followText "set-order"=false)(hz:es.size<=1)(hl:t.led=true)
  (h:Q (match es[SetTable.below t.place slot]?,t.place[SetTable.below t.place slot]? with
   |some (_,x),some j=>some (x,j+1)
   |_,_=>none) s):wpAny (model prog w) A (setNext a slot i ep) Q E s:=by
 rw[yP]
 refine wpAny_bind (FG hS (wpAny_bind (Hx ?_)))
 have e1:decide (es.size>1)=false:=by simp;lia
 dsimp only
 rw[hb,e1,hl]
 simp only[Bool.and_false,Bool.not_true,Bool.false_and,Bool.false_eq_true,if_false]
 exact wpAny_pure h
theorem Et(j k:Nat):SetTable.below #[j] k=if j<k then 1 else 0:=by
 unfold SetTable.below
 show SetTable.below.go #[j] k 1 0 1=_
 unfold SetTable.below.go
 simp only[Nat.zero_lt_one,if_true]
 show(if(#[j].getD ((0+1)/2) k<k)then SetTable.below.go #[j] k 0 ((0+1)/2+1) 1 else SetTable.below.go #[j] k 0 0 ((0+1)/2))=_
 have: #[j].getD ((0+1)/2) k=j:=rfl
 rw[this]
 split<;>rfl
end
namespace SF
theorem Cq:Slot "set_iterator" "__iter__" "set_iterator.__iter__":=.of (owner:="set_iterator") (n:="__iter__") (by rw[typeLookup_type,builtinLookup_eq_fast];kernel_rfl) DK DK DK (.inl DK) (by rw[isSubtype_type];kernel_rfl)
theorem FN:entryFor table "set_iterator.__iter__"=some Builtin.«dict_keyiterator.__iter__» :=entryFor_alias (id':="dict_keyiterator.__iter__") (by kernel_rfl) rfl DK (by kernel_rfl)
theorem Kg(a:Value):argsOk "set_iterator.__iter__" ⟨[a],[]⟩:=by unfold argsOk;kernel_rfl
end SF
section
variable {prog:Program} {w:World} {A:Around} {E:Value->Shared->Prop} {s:Shared}
theorem wB{I a:Addr}{f:Value}{i n ep:Nat}{Q:Value->Shared->Prop}(h:AR s.heap I f i a n ep)(q:Q (.ref I) s):wpAny (model prog w) A (pyIter (.ref I)) Q E s:=by
 refine wpAny_pyIter_slot h.typ SF.Cq (wpAny_call_entry SF.Cq h.typ SF.FN (show wpAny _ _ (ret (.ref I)) _ _ s from ?_) (SF.Kg _))
 exact wpAny_pure ⟨_,rfl,"set_iterator",_,h.typ,SF.iP.lookup,q⟩
def tv(p:Str×Tok):Value:=.str p.1 p.2
abbrev PL(l:List (Str×Tok)):Nat->Value->Prop:=λi v=>∃p,l[i]? = some p/\v=tv p
theorem AR.at{h h':Heap}{I a:Addr}{f:Value}{i n ep:Nat}(x:AR h I f i a n ep)(k:∀o,h.get? I=some o->h'.get? I=some o):AR h' I f i a n ep:=let⟨o,e,r⟩:=x;⟨o,k o e,r⟩
theorem Bl.at{h h':Heap}{a:Addr}{es:Array (Int×Value)}{ep:Nat}{t:SetTable}(x:Bl h a es ep t)(k:∀o,h.get? a=some o->h'.get? a=some o):Bl h' a es ep t:=let⟨o,e,r⟩:=x;⟨o,k o e,r⟩
theorem xE{es:List (Int×Value)}{l:List (Str×Tok)}(h:es=l.map (ent w)){i:Nat}{e:Int×Value}(he:es[i]? = some e):∃p,l[i]? = some p/\e.2=tv p:=by
 subst h
 rw[List.getElem?_map]at he
 cases hp:l[i]? with
 |none=>rw[hp]at he;cases he
 |some p=>rw[hp]at he;cases he;exact⟨p,rfl,rfl⟩
theorem IK{xs:Array Nat}(h:xs.size=1):∃j,xs= #[j]:=by
 obtain⟨l⟩:=xs
 match l,h with
 |[j],_=>exact⟨j,rfl⟩
theorem zq{B:Around}(hh:B.handled=none){I a:Addr}(hne:a≠I){es:Array (Int×Value)}{ep:Nat}{t:SetTable}{l:List (Str×Tok)}(hb:w.params.followText "set-order"=true)(hp:(pickOrder (w.params.setOrder a ep) es).toList=l.map (ent w)):
  Walks prog w B I [I,a] [I] l.length (PL l) (λi h=>AR h I (rawInt 0) i a es.size ep/\Bl h a es ep t)where
 sub:=λb hb=>by simp at hb;simp[hb]
 frame:=λ_ _ _ st hk=>⟨st.1.at λo e=>hk I (by simp) o e,st.2.at λo e=>hk a (by simp) o e⟩
 item:=λi s Q E hi st hQ=>by
  refine sU (slot:=0) hh st.1 st.2 (λB' F' R q=>yO st.2 hb q) (λx nx h' hr hit sb=>?_) (λh' hr _=>?_)
  ·rw[←Array.getElem?_toList,Option.map_eq_some_iff]at hr
   obtain⟨e,he,q⟩:=hr
   obtain⟨p,h1,h2⟩:=xE hp he
   cases q
   exact hQ _ h' s.toks ⟨p,h1,h2⟩ ⟨hit,st.2.at λo e=>(sb.2 a hne).trans e⟩ λb o hb e=>(sb.2 b (λz=>hb (by simp[z]))).trans e
  ·rw[←Array.getElem?_toList,hp,List.getElem?_map,List.getElem?_eq_getElem hi]at hr
   cases hr
 done:=λs Q E st hQ=>by
  refine sU (slot:=0) hh st.1 st.2 (λB' F' R q=>yO st.2 hb q) (λx nx h' hr _ _=>?_) (λh' hr eb=>hQ h' s.toks λb o hb e=>eb b o (λz=>hb (by simp[z])) e)
  rw[←Array.getElem?_toList,hp,List.getElem?_map,List.getElem?_eq_none (Nat.le_refl _)]at hr
  cases hr
 self:=λ_ _ _ _ st hQ=>wB st.1 hQ
theorem Bt{B:Around}(hh:B.handled=none){I a:Addr}(hne:a≠I){es:Array (Int×Value)}{ep:Nat}{t:SetTable}{l:List (Str×Tok)}(hb:w.params.followText "set-order"=false)(hz:es.size<=1)(hl:t.led=true)(hp:es.toList=l.map (ent w)):
  Walks prog w B I [I,a] [I] l.length (PL l) (λi h=>(∃sl:Nat,AR h I (rawInt sl) i a es.size ep/\(i=0->sl=0)/\(0<i->sl=t.place.getD 0 0+1))/\Bl h a es ep t)where
 sub:=λb hb=>by simp at hb;simp[hb]
 frame:=λ_ _ _ ⟨⟨sl,st,r⟩,st2⟩ hk=>⟨⟨sl,st.at λo e=>hk I (by simp) o e,r⟩,st2.at λo e=>hk a (by simp) o e⟩
 item:=λi s Q E hi st hQ=>by
  obtain⟨⟨sl,st1,r0,r1⟩,st2⟩:=st
  have hlz:l.length=es.size:=by rw[←Array.length_toList,hp,List.length_map]
  obtain rfl:i=0:=by lia
  obtain rfl:=r0 rfl
  obtain⟨oS,hoS,hdS,hf⟩:=id st2
  have hpl:t.place.size=es.size:=by
   simp only[SetTable.fits,Bool.and_eq_true,beq_iff_eq]at hf
   exact hf.1
  obtain⟨j,hj⟩:∃j,t.place= #[j]:=by
   exact IK LI
  have e0:SetTable.below t.place 0=0:=by rw[hj,Et,if_neg LI]
  have e1:t.place[0]? = some j:=by rw[hj];rfl
  have h0:es[0]? = some es[0]:=Array.getElem?_eq_getElem LI
  obtain⟨p,h1,h2⟩:=xE hp (i:=0) (e:=es[0]) (by rw[Array.getElem?_toList];exact h0)
  refine sU (slot:=0) hh st1 st2 (λB' F' R q=>CW st2 hb hz hl q) (λx nx h' hr hit sb=>?_) (λh' hr _=>?_)
  ·rw[e0,h0,e1]at hr
   cases hr
   refine hQ _ h' s.toks ⟨p,h1,h2⟩ ⟨⟨j+1,hit,λz=>absurd z LI,λ_=>by rw[hj];rfl⟩,st2.at λo e=>(sb.2 a hne).trans e⟩ λb o hb e=>(sb.2 b (λz=>hb (by simp[z]))).trans e
  ·rw[e0,h0,e1]at hr
   cases hr
 done:=λs Q E st hQ=>by
  obtain⟨⟨sl,st1,r0,r1⟩,st2⟩:=st
  have hlz:l.length=es.size:=by rw[←Array.length_toList,hp,List.length_map]
  obtain⟨oS,hoS,hdS,hf⟩:=id st2
  have hpl:t.place.size=es.size:=by
   simp only[SetTable.fits,Bool.and_eq_true,beq_iff_eq]at hf
   exact hf.1
  have hnone:es[SetTable.below t.place sl]? = none:=by
   by_cases z:l.length=0
   ·exact Array.getElem?_eq_none LI
   ·obtain⟨j,hj⟩:∃j,t.place= #[j]:=by
     exact IK LI
    have hs:sl=j+1:=by rw[r1 LI,hj];rfl
    rw[hj,Et,if_pos LI]
    exact Array.getElem?_eq_none LI
  refine sU (slot:=sl) hh st1 st2 (λB' F' R q=>CW st2 hb hz hl q) (λx nx h' hr _ _=>?_) (λh' hr eb=>hQ h' s.toks λb o hb e=>eb b o (λz=>hb (by simp[z])) e)
  rw[hnone]at hr
  cases hr
 self:=λ_ _ _ _ ⟨⟨_,st,_⟩,_⟩ hQ=>wB st hQ
theorem vZ{B:Around}(hh:B.handled=none){I a b:Addr}(hne:a≠I)(hnb:b≠I){es:Array (Int×Value)}{ep:Nat}{t:SetTable}{ps:List Nat}{l:List (Str×Tok)}(hps:∀p∈ps,p<es.size)(hlen:ps.length=l.length)
  (hp:∀(i p:Nat)(e:Int×Value),ps[i]? = some p->es[p]? = some e->∃q,l[i]? = some q/\e.2=tv q):
  Walks prog w B I [I,a,b] [I] l.length (PL l) (λi h=>AR h I (.ref b) i a es.size ep/\Bl h a es ep t/\∃o n,h.get? b=some o/\o.data=.seq (ps.map λp=>rawInt (p:Nat)).toArray n)where
 sub:=λb hb=>by simp at hb;simp[hb]
 frame:=λ_ _ _ ⟨s1,s2,o,n,s3,s4⟩ hk=>⟨s1.at λo e=>hk I (by simp) o e,s2.at λo e=>hk a (by simp) o e,o,n,hk b (by simp) o s3,s4⟩
 item:=λi s Q E hi st hQ=>by
  obtain⟨s1,s2,s3⟩:=st
  refine uZ hh s1 s2 s3 hps (λp e h' h1 h2 hit sb=>?_) (λh' hr _=>?_)
  ·obtain⟨q,h3,h4⟩:=hp i p e h1 h2
   obtain⟨o,n,e1,e2⟩:=s3
   exact hQ _ h' s.toks ⟨q,h3,h4⟩ ⟨hit,s2.at λo e=>(sb.2 a hne).trans e,o,n,(sb.2 b hnb).trans e1,e2⟩ λc o hc e=>(sb.2 c (λz=>hc (by simp[z]))).trans e
  ·rw[List.getElem?_eq_getElem LI]at hr
   cases hr
 done:=λs Q E st hQ=>by
  obtain⟨s1,s2,s3⟩:=st
  refine uZ hh s1 s2 s3 hps (λp e h' h1 h2 hit sb=>?_) (λh' hr eb=>hQ h' s.toks λb o hb e=>eb b o (λz=>hb (by simp[z])) e)
  rw[List.getElem?_eq_none LI]at h1
  cases h1
 self:=λ_ _ _ _ st hQ=>wB st.1 hQ
end
open PySem PyProof.Rows
section
variable {prog:Program} {w:World} {A:Around} {E:Value->Shared->Prop} {s:Shared}
theorem iK{α β:Type}{f:α->β}{xs ys:List β}(p:xs.Perm ys):∀{l:List α},ys=l.map f->∃l':List α,l'.Perm l/\xs=l'.map f:=by
 induction p with
 |nil=>intro l h;exact⟨[],by rw[List.map_eq_nil_iff.mp h.symm],rfl⟩
 |cons x _ ih=>
  intro l h
  cases l with
  |nil=>cases h
  |cons y l=>
   cases h
   obtain⟨l',h1,h2⟩:=ih rfl
   exact⟨y::l',h1.cons y,by rw[h2];rfl⟩
 |swap x y zs=>
  intro l h
  cases l with
  |nil=>cases h
  |cons a l=>
   cases l with
   |nil=>cases h
   |cons b l=>cases h;exact⟨b::a::l,List.Perm.swap _ _ _,rfl⟩
 |trans _ _ ih1 ih2=>
  intro l h
  obtain⟨l2,h1,h2⟩:=ih2 h
  obtain⟨l3,h3,h4⟩:=ih1 h2
  exact⟨l3,h3.trans h1,h4⟩
theorem zS(l:List (Str×Tok))(d:Str×Tok):(List.range l.length).map (λp=>(l[p]?).getD d)=l:=by
 refine List.ext_getElem (by simp) λi h1 h2=>?_
 simp[h2]
theorem LD{a:Addr}{ts:List Str}{Q:Value->Shared->Prop}(hS:gT w s.heap a ts (jl w))
  (h:∀(h':Heap)(d:Drawn)(I:Addr)(fp:List Addr)(l:List (Str×Tok))(St:Nat->Heap->Prop),(∀b o,s.heap.get? b=some o->h'.get? b=some o)->s.heap.objs.size<=I->I∈fp->(∀b∈fp,b=a\/s.heap.objs.size<=b)->
   (l.map (·.1)).Perm ts->St 0 h'->(∀B:Around,B.handled=none->Walks prog w B I fp [I] l.length (PL l) St)->Q (.ref I) {s with heap:=h',drawn:=d}):
  wpAny (model prog w) A (pyIter (.ref a)) Q E s:=by
 obtain⟨o,es,ep,t,l,ho,hex,hd,hp,hts,hb,hf,hl,hpl⟩:=hS
 have hT:s.TypeIs (.ref a) "set":=⟨o,ho,hex.1⟩
 have hz:=size_of hp
 have hlt:a<s.heap.objs.size:=Heap.lt_size ho
 have aaX:l.length=ts.length:=by rw[←hts,List.length_map]
 refine wpAny_pyIter_slot hT F.slot_set_iter (wpAny_call_entry F.slot_set_iter hT SF.GO ?_ (F.args_set_iter_1 _))
 unfold Builtin.«frozenset.__iter__» Builtin.Frozenset.slot0 slotArgs
 simp only[List.isEmpty_nil,Bool.not_true,Bool.false_eq_true,↓reduceIte,bind_assoc,List.length_nil,bne_self_eq_false]
 unfold Builtin.Frozenset.addrOf Builtin.Frozenset.sizeOf
 refine wpAny_bind (wpAny_pure ?_);try dsimp only
 refine wpAny_bind (wpAny_pure (wpAny_bind (wpAny_bind (wpAny_setEntries_of ho hd hf (wpAny_pure ?_)))))
 have sat:∀{h':Heap},(∀b o,s.heap.get? b=some o->h'.get? b=some o)->Bl h' a es ep t:=λk=>⟨o,k a o ho,hd,hf⟩
 rw[Eh]
 refine wpAny_bind (wpAny_bind (FG ⟨o,ho,hd,hf⟩ (wpAny_bind (Hx (wpAny_pure ?_)))))
 by_cases hb':w.params.followText "set-order"=true
 ·rw[hb',if_neg (by simp)]
  refine wpAny_bind (wpAny_pure (wpAny_bind (wpAny_setEpoch_of ho hd hf (wpAny_bind (wpAny_newObj_type (wpAny_pure ⟨_,rfl,"set_iterator",_,⟨_,Heap.get?_push_size _ rfl,rfl⟩,SF.iP.lookup,?_⟩))))))
  obtain⟨l',q1,q2⟩:=iK ((Kw (w.params.setOrder a ep) es).trans hp) rfl
  refine h _ s.drawn _ [s.heap.objs.size,a] l' _ (λb o e=>Heap.get?_push_of_some _ e) (Nat.le_refl _) (by simp) (λb q=>?_) (by rw[←hts];exact q1.map _) ⟨⟨_,Heap.get?_push_size _ rfl,rfl,rfl⟩,sat λb o e=>Heap.get?_push_of_some _ e⟩ λB hB=>zq hB (Nat.ne_of_lt hlt) hb' q2
  simp only[List.mem_cons,List.not_mem_nil,or_false]at q
  exact q.elim (λz=>.inr (Nat.le_of_eq z.symm)) .inl
 ·have hb2:w.params.followText "set-order"=false:=by simpa using hb'
  have VJ:t.led=true:=by rw[hl];unfold jl;rw[hb2];rfl
  by_cases hz1:es.size<=1
  ·have e1:decide (es.size>1)=false:=by simp;lia
   rw[hb2,e1,if_neg (by simp)]
   refine wpAny_bind (wpAny_pure (wpAny_bind (wpAny_setEpoch_of ho hd hf (wpAny_bind (wpAny_newObj_type (wpAny_pure ⟨_,rfl,"set_iterator",_,⟨_,Heap.get?_push_size _ rfl,rfl⟩,SF.iP.lookup,?_⟩))))))
   obtain⟨l',q1,q2⟩:=iK hp rfl
   refine h _ s.drawn _ [s.heap.objs.size,a] l' _ (λb o e=>Heap.get?_push_of_some _ e) (Nat.le_refl _) (by simp) (λb q=>?_) (by rw[←hts];exact q1.map _) ⟨⟨0,⟨_,Heap.get?_push_size _ rfl,rfl,rfl⟩,λ_=>rfl,λz=>absurd z (Nat.lt_irrefl 0)⟩,sat λb o e=>Heap.get?_push_of_some _ e⟩ λB hB=>Bt hB (Nat.ne_of_lt hlt) hb2 hz1 VJ q2
   simp only[List.mem_cons,List.not_mem_nil,or_false]at q
   exact q.elim (λz=>.inr (Nat.le_of_eq z.symm)) .inl
  ·have e1:decide (es.size>1)=true:=by simp;lia
   rw[hb2,e1,hpl LI,if_pos (by simp)]
   refine wpAny_bind (Ei es.size (List.range es.size) s (by simp) λps d pp=>?_)
   have hps:∀p∈ps,p<es.size:=λp m=>by simpa using pp.mem_iff.mp m
   have hlen:ps.length=es.size:=by rw[pp.length_eq,List.length_range]
   refine wpAny_bind (wpAny_newTuple ?_ (by rw[List.length_map,hlen];exact fits_of_scanBound LI))
   refine wpAny_bind (wpAny_setEpoch_of (s:={s with heap:=_,drawn:=d}) (Heap.get?_push_of_some _ ho) hd hf (wpAny_bind (wpAny_newObj_type (wpAny_pure ⟨_,rfl,"set_iterator",_,⟨_,Heap.get?_push_size _ rfl,rfl⟩,SF.iP.lookup,?_⟩))))
   obtain⟨l0,q1,q2⟩:=iK hp rfl
   have oF:l0.length=es.size:=by rw[hz,q1.length_eq]
   have k2:∀b o,s.heap.get? b=some o->((s.heap.push (seqObj "tuple" (ps.map λp=>rawInt (p:Nat)).toArray 0)).push {cls:=.type "set_iterator",data:=.fields #[.ref s.heap.objs.size,rawInt 0,.ref a,rawInt es.size,rawInt ep]}).get? b=some o:=λb o e=>Heap.get?_push_of_some _ (Heap.get?_push_of_some _ e)
   refine h _ d _ [(s.heap.push (seqObj "tuple" (ps.map λp=>rawInt (p:Nat)).toArray 0)).objs.size,a,s.heap.objs.size] (ps.map λp=>(l0[p]?).getD ("",0)) _ k2 (by rw[Heap.size_push];exact Nat.le_succ _) (by simp) (λb q=>?_) ?_ ⟨⟨_,Heap.get?_push_size _ rfl,rfl,rfl⟩,sat k2,_,0,Heap.get?_push_of_some _ (Heap.get?_push_size _ rfl),rfl⟩ λB hB=>vZ hB (by rw[Heap.size_push];exact Nat.ne_of_lt (Nat.lt_succ_of_lt hlt)) (by rw[Heap.size_push];exact Nat.ne_of_lt (Nat.lt_succ_self _)) hps (by simp) λi p e h1 h2=>?_
   ·simp only[List.mem_cons,List.not_mem_nil,or_false]at q
    rw[Heap.size_push]at q
    rcases q with q|q|q
    ·exact .inr (by rw[q];exact Nat.le_succ _)
    ·exact .inl q
    ·exact .inr (Nat.le_of_eq q.symm)
   ·have:=pp.map λp=>(l0[p]?).getD (("":Str),(0:Tok))
    rw[←oF,zS]at this
    rw[←hts]
    exact(this.trans q1).map _
   ·obtain⟨q,h3,h4⟩:=xE q2 (i:=p) (e:=e) (by rw[Array.getElem?_toList];exact h2)
    exact⟨q,by rw[List.getElem?_map,h1];simp[h3],h4⟩
end
section
variable {prog:Program} {w:World} {A:Around} {E:Value->Shared->Prop} {s:Shared}
theorem GK{l:List (Str×Tok)}{acc:Array Value}(h:ItemsOf (PL l) acc l.length):acc.toList=l.map tv:=by
 refine List.ext_getElem (by rw[Array.length_toList,h.1,List.length_map]) λi h1 h2=>?_
 obtain⟨p,e1,e2⟩:=h.2 i acc.toList[i] (by rw[←Array.getElem?_toList];exact List.getElem?_eq_getElem h1)
 rw[e2,List.getElem_map]
 have h3:i<l.length:=by simpa using h2
 rw[List.getElem?_eq_getElem h3]at e1
 cases e1
 rfl
theorem AJ{a:Addr}{ts:List Str}{Q:List Value->Shared->Prop}(hh:A.handled=none)(hS:gT w s.heap a ts (jl w))
  (h:∀(s':Shared)(l:List (Str×Tok)),s'.os=s.os->s'.gens=s.gens->(∀b o,s.heap.get? b=some o->s'.heap.get? b=some o)->(l.map (·.1)).Perm ts->Q (l.map tv) s'):wpAny (model prog w) A (collect (.ref a)) Q E s:=by
 have⟨o,es,ep,t,l0,ho,hex,_,_,_,hb,_⟩:=hS
 have hlt:a<s.heap.objs.size:=Heap.lt_size ho
 unfold collect
 refine wpAny_bind (wpAny_runValue (codeAny_builtin F.entry_proto_collect ?_));rw[Around.under_plainId F.plain_proto_collect _]
 refine(show wpAny _ A.in1 (newList [] >>= λl=>again (.builtin "list.__iadd__" ⟨[l,.ref a],[]⟩)) _ _ s from wpAny_bind (wpAny_newObj_type ?_))
 refine wpAny_pure ⟨plainId_quiet F.plain_list_iadd _,codeAny_builtin F.entry_list_iadd ?_⟩;rw[Around.under_plainId F.plain_list_iadd _]
 have k0:∀b u,s.heap.get? b=some u->(s.heap.push {cls:=.type "list",data:=.seq ([]:List Value).toArray}).get? b=some u:=λb u e=>Heap.get?_push_of_some _ e
 have hS0:(s.heap.push {cls:=.type "list",data:=.seq ([]:List Value).toArray}).get? s.heap.objs.size=some {cls:=.type "list",data:=.seq ([]:List Value).toArray}:=Heap.get?_push_size _ rfl
 have hT0:Shared.TypeIs {s with heap:=s.heap.push {cls:=.type "list",data:=.seq ([]:List Value).toArray} } (.ref a) "set":=⟨o,k0 a o ho,hex.1⟩
 refine(show wpAny _ A.in1 (Builtin.List.listExtendWith (.ref s.heap.objs.size) (.ref a) (.ref s.heap.objs.size)) _ _ _ from ?_)
 unfold Builtin.List.listExtendWith
 refine wpAny_bind (wpAny_typeOf hT0 ?_)
 have q1:Builtin.List.listSameRef (.ref s.heap.objs.size) (.ref a)=false:=by simp[Builtin.List.listSameRef];exact Nat.ne_of_gt hlt
 have q2:(Value.type "set"==Value.type "list")=false:=by decide
 have q3:(Value.type "set"==Value.type "tuple")=false:=by decide
 simp only[q1,q2,q3,Bool.or_false,Bool.false_eq_true,if_false]
 refine wpAny_bind (LD (hS.move λu e=>k0 a u e) λh' d I fp l St k1 hI hIf hfp Ji st W=>?_)
 have hTI:Shared.TypeIs {s with heap:=h',drawn:=d} (.ref a) "set":=⟨o,k1 a o (k0 a o ho),hex.1⟩
 refine wpAny_bind (wpAny_holding ?_)
 unfold Builtin.List.listLengthHint
 refine wpAny_bind (wpAny_specialOf hTI SF.Pr ?_)
 generalize hid:("set.__len__":String)=id0;wp_delta;rw[show splitId id0=some ("set","__len__")from by subst hid;decide +kernel];subst hid
 refine wpAny_bind (wpAny_isInstance (b:=true) hTI (by rw[isSubtype_type];kernel_rfl) ?_)
 refine(show wpAny _ A.in1 (typeOf (.ref a) >>= _) _ _ _ from wpAny_bind (wpAny_typeOf hTI (wpAny_pure ?_)))
 refine(show wpAny _ A.in1 (rule "list.extend.makes-room" >>= λ_=>Builtin.List.listTouch (.ref s.heap.objs.size) >>= λ_=>again (.builtin "list.extend.loop" ⟨[.ref s.heap.objs.size,.ref I,.ref s.heap.objs.size],[]⟩)) _ _ _ from wpAny_bind (wpAny_rule ?_))
 have Yw:=k1 _ _ hS0
 refine wpAny_bind (show wpAny _ A.in1 (updateSeq s.heap.objs.size (·.push .none) >>= λ_=>updateSeq s.heap.objs.size (·.pop)) _ _ _ from wpAny_bind (wpAny_updateSeq Yw rfl ?_))
 have Tc:=Heap.get?_update_self (Obj.mapSeq (·.push Value.none)) Yw rfl
 refine wpAny_updateSeq Tc rfl ?_
 have hS3:=Heap.get?_update_self (Obj.mapSeq (·.pop)) Tc rfl
 have Xk:∀b u,b≠s.heap.objs.size->h'.get? b=some u->((h'.update s.heap.objs.size (Obj.mapSeq (·.push Value.none))).update s.heap.objs.size (Obj.mapSeq (·.pop))).get? b=some u:=
  λb u hb e=>(Heap.get?_update_other _ _ (Ne.symm hb)).trans ((Heap.get?_update_other _ _ (Ne.symm hb)).trans e)
 have hSf:s.heap.objs.size∉fp:=λm=>by
  rcases hfp _ m with z|z
  ·exact Nat.ne_of_gt hlt z
  ·rw[Heap.size_push]at z;exact Nat.not_succ_le_self _ z
 have hn:l.length<=sizeLine:=by
  rw[←List.length_map (as:=l) (·.1),Ji.length_eq]
  exact fits_of_scanBound hb
 have hIs:s.heap.objs.size<=I:=by rw[Heap.size_push]at hI;lia
 refine wpAny_pure ⟨plainId_quiet F.plain_extend_loop _,codeAny_extend_loopS (W _ (by simpa using hh)).toS hn _ hSf _ l.length 0 _ _ _ rfl (Nat.zero_le _) ((W _ (by simpa using hh)).frame 0 h' _ st λb hm u e=>Xk b u (λz=>hSf (z▸hm)) e) hS3 (ItemsOf.nil _) λs' acc c hm hS' hacc=>?_⟩
 refine(show wpAny _ A (load s.heap.objs.size >>= _) _ _ s' from wpAny_bind (wpAny_load hS' (wpAny_pure ?_)))
 rw[GK hacc]
 refine h s' l hm.os hm.gens (λb u e=>?_) Ji
 have Nk:=Heap.lt_size e
 refine hm.heap b u (λz=>?_) (Xk b u (Nat.ne_of_lt Nk) (k1 b u (k0 b u e)))
 simp only[List.mem_cons,List.not_mem_nil,or_false]at z
 rcases z with z|z
 ·exact Nat.ne_of_lt Nk z
 ·exact Nat.ne_of_lt (Nat.lt_of_lt_of_le Nk hIs) z
end
end TX
namespace L2
open PySem PySem.Spec PyProof.Rows
section
variable {X:Cx} {pins:List (Addr×Obj)} {σ:St} {H:Hp} {s:Shared}
theorem Inv.drw{s':Shared}(I:Inv X pins σ H s)(ho:s'.os=s.os)(hg:s'.gens=s.gens)(k:∀b u,s.heap.get? b=some u->s'.heap.get? b=some u):Inv X pins σ H s':=by
 have J:=I.kept (h':=s'.heap) (t':=s'.toks) k
 exact⟨J.ok,ho.trans J.os,by rw[hg];exact J.bare,J.base,J.loc,J.cell,J.free,J.fO,J.pin,J.hok,J.len⟩
theorem Fz{K:Fg7}(z:Str)(t:Tok):Den K H (.str z t) (.str z):=⟨.str z,⟨t,rfl⟩,.str z⟩
inductive qT(K:Fg7)(Q:VK)(x:V)(H1:Hp):Prop
 |mk(p:Addr)(zs:List Str):(x=.ref p)->(bB K H1 p (zs.map V.str))->(zs.length+1<scanBound)->(TS.Fits zs.length)->(∀(l:Addr)(ts:List Str),H1 l=none->ts.Nodup->(∀z,z∈ts↔z∈zs)->(ts.map Dv.str).Pairwise (λd e=>aK d e≠.gt)->Q (.ref l) (upd H1 l (.lst (ts.map V.str))))->qT K Q x H1
def BE(K:Fg7)(te:TE):TE:=λσ H Q=>te σ H λx H1=>qT K Q x H1
theorem Ke(hc:X.calm=true)(hu:X.A.units+64<cLine){a:Addr}{ts:List Str}{Q:VK}(I:Inv X pins σ H s)(hS:TX.gT X.w s.heap a ts (TX.jl X.w))(hz:TS.Fits ts.length)
  (q:∀(l:Addr)(rs:List Str),H l=none->rs.Perm ts->(rs.map Dv.str).Pairwise (λd e=>aK d e≠.gt)->Q (.ref l) (upd H l (.lst (rs.map V.str)))):
  wpAny (model X.prog X.w) X.A (call (.builtin "sorted") [.ref a]) (EP X pins σ Q) X.xe s:=by
 refine Calls.call_function_entry kind_sorted plain_sorted entry_sorted (args_sorted1 _) ?_
 unfold Builtin.«sorted»;refine wpAny_bind (m:=checkCount "sorted" 1 1 _) (wpAny_pure (wpAny_bind (TX.AJ (by first|exact I.ok.hd hc|simpa using I.ok.hd hc) hS λs1 l ho hg k1 hp=>?_)))
 have I1:Inv X pins σ H s1:=I.drw ho hg k1
 have hlen:(l.map TX.tv).length=ts.length:=by rw[List.length_map,←List.length_map (as:=l) (·.1),hp.length_eq]
 have oF:(l.map TX.tv).length<=sizeLine:=by rw[hlen];have:=hz.1;rw[sizeLine_eq];lia
 refine wpAny_bind (wpAny_newList ?_ oF)
 have DN:(s1.heap.push (seqObj "list" (l.map TX.tv).toArray 0)).get? s1.heap.objs.size=some (seqObj "list" (l.map TX.tv).toArray 0):=Heap.get?_push_size _ rfl
 have keep:∀b o,s1.heap.get? b=some o->b≠s1.heap.objs.size/\(s1.heap.push (seqObj "list" (l.map TX.tv).toArray 0)).get? b=some o:=λb o e=>⟨Nat.ne_of_lt (Heap.lt_size e),Heap.get?_push_of_some _ e⟩
 have den:∀v∈l.map TX.tv,∃d,Den X.K H v d/\Dv.isA .str d=true:=λv m=>by
  obtain⟨p,_,rfl⟩:=List.mem_map.mp m
  exact⟨_,Fz _ _,rfl⟩
 refine wpAny_bind (wpAny_holding (wpAny_call_entry slot_list_sort ⟨_,DN,rfl⟩ entry_list_sort ?_ (args_list_sort _)))
 refine TS.pJ (κ:=Sh.kind .str) (S:=EC X.K H .str) (blt:=qI X.K H) (pU I1 .str) DN (by rw[hlen];exact hz) (λv m=>den v m) (λh2 h' kp Q' q'=>?_) (λh2 h' kp x y Q' hx hy q'=>?_) λout p1 p2=>⟨_,rfl,wpAny_pure ⟨_,rfl,?_⟩⟩
 ·exact mZ (s:={s1 with heap:=h'}) (I1.kept (t':=s1.toks) λb o e=>kp b o (keep b o e).1 (keep b o e).2) rfl h2 den q'
 ·exact qk (s:={s1 with heap:=h'}) (I1.kept (t':=s1.toks) λb o e=>kp b o (keep b o e).1 (keep b o e).2) rfl (by simp only[in1_units];show _+1<_;lia) hx hy q'
 ·obtain⟨l',r1,rfl⟩:=TX.iK p1 rfl
  have hv:Vals ((l'.map (·.1)).map V.str) (l'.map TX.tv):=zA l'
  have hd:fy X.K H ((l'.map (·.1)).map V.str) ((l'.map (·.1)).map Dv.str):=by
   clear hv r1 p1 p2
   induction l' with
   |nil=>exact .nil
   |cons p l' ih=>exact .cons (.str _) ih
  have pw:=sL I1 hv hd (sh:=.str) (λd m=>by obtain⟨z,_,rfl⟩:=List.mem_map.mp m;rfl) p2
  have VO:∃n,(sortedHeap (s1.heap.push (seqObj "list" (l.map TX.tv).toArray 0)) s1.heap.objs.size (l.map TX.tv) (l'.map TX.tv).toArray).get? s1.heap.objs.size=some (seqObj "list" (l'.map TX.tv).toArray n):=by
   unfold sortedHeap
   exact⟨_,get?_update_seq (Heap.get?_push_of_some _ (Heap.get?_push_of_some _ (get?_update_seq DN λ_=> #[]))) λ_=>(l'.map TX.tv).toArray⟩
  have hold:∀b o,s1.heap.get? b=some o->(sortedHeap (s1.heap.push (seqObj "list" (l.map TX.tv).toArray 0)) s1.heap.objs.size (l.map TX.tv) (l'.map TX.tv).toArray).get? b=some o:=λb o e=>by
   have ne:=(keep b o e).1
   unfold sortedHeap
   rw[Heap.get?_update_ne _ _ _ _ ne]
   refine Heap.get?_push_of_some _ (Heap.get?_push_of_some _ ?_)
   rw[Heap.get?_update_ne _ _ _ _ ne]
   exact(keep b o e).2
  refine⟨.ref s1.heap.objs.size,_,I1.laid (t':=s1.toks) (a:=s1.heap.objs.size) (o:=.lst ((l'.map (·.1)).map V.str)) hold (Nat.le_refl _) ?_,rfl,q _ (l'.map (·.1)) (I1.hok.fresh (Nat.le_refl _)) ((r1.map _).trans hp) pw⟩
  obtain⟨n,hn⟩:=VO
  refine⟨by rw[hv.length,List.length_map,←List.length_map (f:=TX.tv),p1.length_eq];exact oF,l'.map TX.tv,n,hv,hn⟩
theorem wQ{e:Expr}{te:TE}{p1 p2 c1 c2:Pos}(hc:X.calm=true)(hu:X.A.units+64<cLine)(hg1:Gl X "sorted")(hm1:X.mg "sorted"=none)(LX:Gl X "set")(hm2:X.mg "set"=none)(he:PE X e te)
  (hs1:starEach [.Call (.Name "set" p2) [e] [] c2] X.env=[(false,eval (.Call (.Name "set" p2) [e] [] c2) X.env)]:=by rfl)(hs2:starEach [e] X.env=[(false,eval e X.env)]:=by rfl):
  PE X (.Call (.Name "sorted" p1) [.Call (.Name "set" p2) [e] [] c2] [] c1) (BE X.K te):=by
 intro pins s σ H Q I h
 refine wpAny_Call_Name_kw (ie I hg1 hm1 f_ ?_ (by decide) (by decide))
 refine PyProof.Rows.callWith_builtin1 ?_ hs1 rfl
 rw[hs1]
 show wpAny _ _ (spliced ((false,eval (.Call (.Name "set" p2) [e] [] c2) X.env)::backTo c1 [])) _ _ s
 refine Calls.spliced_cons ?_
 refine wpAny_Call_Name_kw (ie I LX hm2 MC ?_ (by decide) (by decide))
 refine PyProof.Rows.callWith_type1 ?_ hs2 rfl
 rw[hs2]
 show wpAny _ _ (spliced ((false,eval e X.env)::backTo c2 [])) _ _ s
 refine Calls.spliced_cons (cW (he pins s σ H _ I h) λu s1 ⟨v,H1,I1,r1,p,zs,ev,hp,hz,hf,q⟩=>Calls.spliced_nil ?_)
 subst ev
 cases r1
 obtain⟨its,r',pl,_⟩:=I1.list hp
 have hlen:its.length=zs.length:=by rw[←r'.length,List.length_map]
 refine TX.xH (zs:=zs) (I1.ok.hd hc) pl.isList (λi v e=>?_) hlen.symm (by rw[hlen];exact hz) λh' tk hS k=>Calls.spliced_nil ?_
 ·have hi:=(List.getElem?_eq_some_iff.mp e).1
  have hi':i<zs.length:=by lia
  obtain⟨u,eu,t,ru⟩:=r'.get (x:=.str zs[i]) (i:=i) (by simp[hi'])
  rw[e]at eu;cases eu
  exact⟨zs[i],t,List.getElem?_eq_getElem hi',ru⟩
 ·refine Ke (s:={s1 with heap:=h',toks:=tk}) hc hu (I1.kept (t':=tk) λb u e=>k b u (Heap.lt_size e) e) hS ⟨Nat.le_trans (TX.kc zs) hf.1,Nat.lt_of_le_of_lt (TX.kc zs) hf.2⟩ λl rs hl hp pw=>q l rs hl ?_ (λz=>?_) pw
  ·exact hp.nodup_iff.mpr (TX.tG zs)
  ·rw[hp.mem_iff,TX.xD]
end
theorem xZ:∀{Ts:List String}{us:List Value},Vals (Ts.map V.ty) us->us=Ts.map Value.type
 |[],_,.nil=>rfl
 |T::Ts,_,.cons h t=>by
  cases(show _=Value.type T from h)
  rw[xZ t];rfl
theorem tO{X:Cx}:gZ X (.builtin "isinstance") (λxs H Q=>∃(a tp:Addr) (ys:List V) (Ts:List String) (t:Value) (b:Bool),xs=[.ref a,.ref tp]/\((H a=some (.lst ys)/\t=.type "list")\/(H a=some (.tup ys)/\t=.type "tuple"))/\H tp=some (.tup (Ts.map V.ty))/\PySem.W.kitAny X.K t (Ts.map Value.type)=some b/\Q (.bl b) H):=by
 intro pins s σ H xs us Q I r h
 obtain⟨a,tp,ys,Ts,t,b,rfl,ha,hp,e,q⟩:=h
 obtain⟨u,w',rfl,rx,ry⟩:=vals2 r
 cases ry
 cases rx
 obtain⟨its,rv,⟨⟨c0,d0,da,sl⟩,e0,hc,n,hs⟩,_⟩:=I.tuple (bg.of (K:=X.K) hp)
 have ev:=xZ rv
 subst ev
 cases hc
 cases hs
 rcases ha with⟨ha,rfl⟩|⟨ha,rfl⟩
 ·obtain⟨_,_,n,_,h1⟩:=(show ck X.prog X.w H s.heap a (.lst ys)from I.hok a _ ha)
  exact PySem.W.kia_tup PySem.W.kitx_list I.lU ⟨_,h1,rfl⟩ e0 e (λz=>nomatch z) λtk=>⟨.bl b,H,I.tok _,rfl,q⟩
 ·obtain⟨_,_,_,p⟩:=(show ck X.prog X.w H s.heap a (.tup ys)from I.hok a _ ha)
  obtain⟨o,h1,h2,_⟩:=p
  exact PySem.W.kia_tup PySem.W.kitx_tuple I.lU ⟨o,h1,h2⟩ e0 e (λz=>nomatch z) λtk=>⟨.bl b,H,I.tok _,rfl,q⟩
end L2
seal L2.PE L2.PT L2.PW L2.PA L2.PS L2.ug L2.PG L2.Nu L2.PI L2.MM L2.AS L2.iy L2.JS L2.gZ L2.ED L2.RT L2.PO
namespace K1
theorem Mu{a s:Int}(hs:1<=s)(ha:a<0):a<=a/s:=by
 have h1:a<(a/s+1)*s:=Int.lt_ediv_add_one_mul_self a LI
 refine Int.not_lt.mp λh=>?_
 have h2:(a/s+1)*s<=(a/s+1)*1:=Int.mul_le_mul_of_nonpos_left LI hs
 rw[Int.mul_one]at h2
 lia
theorem Mt{a s:Int}(hs:1<=s)(ha:0<=a):0<=a/s/\a/s<=a:=⟨Int.ediv_nonneg ha LI,Int.ediv_le_self _ ha⟩
theorem Hs{a s:Int}(hs:1<=s)(ha:a<0):a/s<0:=Int.ediv_neg_of_neg_of_pos ha LI
theorem xG{a s b:Int}(hs:1<=s)(h1: -b<a)(h2:a<b): -b<a/s/\a/s<b:=by
 by_cases h:a<0
 ·have:=Mu hs h
  have:=Hs hs h
  lia
 ·have:=Mt hs (Int.not_lt.mp h)
  lia
def Km(a b c:Int):Int:=if c>0 then(if a<b then(b-a-1)/c+1 else 0)else(if a>b then(a-b-1)/(-c)+1 else 0)
theorem DZ{t l s:Int}(hs:1<=s):t-l<((t-l)/s+1)*s:=Int.lt_ediv_add_one_mul_self _ LI
theorem Kl{t l s:Int}(hs:1<=s)(hl:l<=100*s):Km (((t-l)/s+1)*s) (t+1) s<=100:=by
 unfold Km
 rw[if_pos LI]
 split
 ·have h:=DZ (t:=t) (l:=l) hs
  have h2:(t+1-((t-l)/s+1)*s-1)/s<100:=Int.ediv_lt_of_lt_mul LI LI
  lia
 ·lia
theorem Ld{a s q:Int}(hs:1<=s):q*s<=a↔q<=a/s:=(Int.le_ediv_iff_mul_le LI).symm
open PySem PySem.Spec PyProof.Rows L2
def top(i:Nat):Stmt:=PySem.Challenge.pw_weirgauge_k04_one_late_event.main.body.getD i (.Pass ⟨0,0,0,0⟩)
abbrev BR:Stmt:=top 0
abbrev eZ:Stmt:=top 8
theorem wD:aS ["plan"] ["plan"] (aq eZ):=⟨rfl,rfl,rfl,DK,rfl,DK,DK⟩
theorem xM(kV doc pm:Value)(an:Option Addr)(cdv ct:Value)(us:List Value)(hl:us.length=[("plan":Str)].length):bindArgs (PySem.W.fnOf "kind_of" "kind_of" (aJ eZ) (aG eZ) (aq eZ) .none kV doc pm an cdv ct) ⟨us,[]⟩=pure ((["plan"]:List Str).zip us):=by
 obtain⟨_,rfl⟩:=jZ hl
 rfl
abbrev dM:Stmt:=top 9
theorem sG:aS ["plan"] ["plan"] (aq dM):=⟨rfl,rfl,rfl,DK,rfl,DK,DK⟩
theorem tQ(kV doc pm:Value)(an:Option Addr)(cdv ct:Value)(us:List Value)(hl:us.length=[("plan":Str)].length):bindArgs (PySem.W.fnOf "length_of" "length_of" (aJ dM) (aG dM) (aq dM) .none kV doc pm an cdv ct) ⟨us,[]⟩=pure ((["plan"]:List Str).zip us):=by
 obtain⟨_,rfl⟩:=jZ hl
 rfl
abbrev eY:Stmt:=top 10
theorem wC:aS ["plan"] ["plan"] (aq eY):=⟨rfl,rfl,rfl,DK,rfl,DK,DK⟩
theorem xK(kV doc pm:Value)(an:Option Addr)(cdv ct:Value)(us:List Value)(hl:us.length=[("plan":Str)].length):bindArgs (PySem.W.fnOf "step_of" "step_of" (aJ eY) (aG eY) (aq eY) .none kV doc pm an cdv ct) ⟨us,[]⟩=pure ((["plan"]:List Str).zip us):=by
 obtain⟨_,rfl⟩:=jZ hl
 rfl
abbrev eK:Stmt:=top 11
theorem uQ:aS ["plan"] ["plan"] (aq eK):=⟨rfl,rfl,rfl,DK,rfl,DK,DK⟩
theorem vM(kV doc pm:Value)(an:Option Addr)(cdv ct:Value)(us:List Value)(hl:us.length=[("plan":Str)].length):bindArgs (PySem.W.fnOf "grace_of" "grace_of" (aJ eK) (aG eK) (aq eK) .none kV doc pm an cdv ct) ⟨us,[]⟩=pure ((["plan"]:List Str).zip us):=by
 obtain⟨_,rfl⟩:=jZ hl
 rfl
abbrev dg:Stmt:=top 14
theorem gE:aS ["plan","length","step"] ["plan"] (aq dg):=⟨rfl,rfl,rfl,DK,rfl,DK,DK⟩
theorem qJ(kV doc pm:Value)(an:Option Addr)(cdv ct:Value)(us:List Value)(hl:us.length=[("plan":Str)].length):bindArgs (PySem.W.fnOf "check_plan" "check_plan" (aJ dg) (aG dg) (aq dg) .none kV doc pm an cdv ct) ⟨us,[]⟩=pure ((["plan"]:List Str).zip us):=by
 obtain⟨_,rfl⟩:=jZ hl
 rfl
abbrev eF:Stmt:=top 15
theorem gy:aS ["plan","time","length","step","first"] ["plan","time"] (aq eF):=⟨rfl,rfl,rfl,DK,rfl,DK,DK⟩
theorem vL(kV doc pm:Value)(an:Option Addr)(cdv ct:Value)(us:List Value)(hl:us.length=[("plan":Str),("time":Str)].length):bindArgs (PySem.W.fnOf "spans_at" "spans_at" (aJ eF) (aG eF) (aq eF) .none kV doc pm an cdv ct) ⟨us,[]⟩=pure ((["plan","time"]:List Str).zip us):=by
 obtain⟨_,_,rfl⟩:=jY hl
 rfl
abbrev fZ:Stmt:=top 18
theorem zM:aS ["keys"] ["keys"] (aq fZ):=⟨rfl,rfl,rfl,DK,rfl,DK,DK⟩
theorem AN(kV doc pm:Value)(an:Option Addr)(cdv ct:Value)(us:List Value)(hl:us.length=[("keys":Str)].length):bindArgs (PySem.W.fnOf "joined" "joined" (aJ fZ) (aG fZ) (aq fZ) .none kV doc pm an cdv ct) ⟨us,[]⟩=pure ((["keys"]:List Str).zip us):=by
 obtain⟨_,rfl⟩:=jZ hl
 rfl
abbrev e_:Stmt:=top 20
theorem pO:aS ["plan","deeds","desk"] ["plan","deeds"] (aq e_):=⟨rfl,rfl,rfl,DK,rfl,DK,DK⟩
theorem xN(kV doc pm:Value)(an:Option Addr)(cdv ct:Value)(us:List Value)(hl:us.length=[("plan":Str),("deeds":Str)].length):bindArgs (PySem.W.fnOf "answers" "answers" (aJ e_) (aG e_) (aq e_) .none kV doc pm an cdv ct) ⟨us,[]⟩=pure ((["plan","deeds"]:List Str).zip us):=by
 obtain⟨_,_,rfl⟩:=jY hl
 rfl
abbrev dX:Stmt:=top 22
theorem jH:aS ["_law_found","_law_meant","_law_k"] ["_law_found","_law_meant"] (aq dX):=⟨rfl,rfl,rfl,DK,rfl,DK,DK⟩
theorem qo(kV doc pm:Value)(an:Option Addr)(cdv ct:Value)(us:List Value)(hl:us.length=[("_law_found":Str),("_law_meant":Str)].length):bindArgs (PySem.W.fnOf "_law_so" "_law_so" (aJ dX) (aG dX) (aq dX) .none kV doc pm an cdv ct) ⟨us,[]⟩=pure ((["_law_found","_law_meant"]:List Str).zip us):=by
 obtain⟨_,_,rfl⟩:=jY hl
 rfl
abbrev dh:Stmt:=top 23
theorem qG:aS ["_law_found"] ["_law_found"] (aq dh):=⟨rfl,rfl,rfl,DK,rfl,DK,DK⟩
theorem qK(kV doc pm:Value)(an:Option Addr)(cdv ct:Value)(us:List Value)(hl:us.length=[("_law_found":Str)].length):bindArgs (PySem.W.fnOf "_law_whole" "_law_whole" (aJ dh) (aG dh) (aq dh) .none kV doc pm an cdv ct) ⟨us,[]⟩=pure ((["_law_found"]:List Str).zip us):=by
 obtain⟨_,rfl⟩:=jZ hl
 rfl
abbrev fc:Stmt:=top 24
theorem wF:aS ["_law_script","_law_k"] ["_law_script","_law_k"] (aq fc):=⟨rfl,rfl,rfl,DK,rfl,DK,DK⟩
theorem xO(kV doc pm:Value)(an:Option Addr)(cdv ct:Value)(us:List Value)(hl:us.length=[("_law_script":Str),("_law_k":Str)].length):bindArgs (PySem.W.fnOf "_law_at" "_law_at" (aJ fc) (aG fc) (aq fc) .none kV doc pm an cdv ct) ⟨us,[]⟩=pure ((["_law_script","_law_k"]:List Str).zip us):=by
 obtain⟨_,_,rfl⟩:=jY hl
 rfl
abbrev cP:Stmt:=top 25
theorem bM:aS ["_law_one","_law_two","_law_spot","_law_large","_law_wide","_law_length","_law_grace","_law_steps"] ["_law_one","_law_two"] (aq cP):=⟨rfl,rfl,rfl,DK,rfl,DK,DK⟩
theorem oH(kV doc pm:Value)(an:Option Addr)(cdv ct:Value)(us:List Value)(hl:us.length=[("_law_one":Str),("_law_two":Str)].length):bindArgs (PySem.W.fnOf "_law_plan_of" "_law_plan_of" (aJ cP) (aG cP) (aq cP) .none kV doc pm an cdv ct) ⟨us,[]⟩=pure ((["_law_one","_law_two"]:List Str).zip us):=by
 obtain⟨_,_,rfl⟩:=jY hl
 rfl
abbrev cQ:Stmt:=top 26
theorem iB:aS ["_law_found","_law_number"] ["_law_found"] (aq cQ):=⟨rfl,rfl,rfl,DK,rfl,DK,DK⟩
theorem oJ(kV doc pm:Value)(an:Option Addr)(cdv ct:Value)(us:List Value)(hl:us.length=[("_law_found":Str)].length):bindArgs (PySem.W.fnOf "_law_is_said" "_law_is_said" (aJ cQ) (aG cQ) (aq cQ) .none kV doc pm an cdv ct) ⟨us,[]⟩=pure ((["_law_found"]:List Str).zip us):=by
 obtain⟨_,rfl⟩:=jZ hl
 rfl
abbrev cE:Stmt:=top 27
theorem gK:aS ["_law_found","_law_one"] ["_law_found"] (aq cE):=⟨rfl,rfl,rfl,DK,rfl,DK,DK⟩
theorem nt(kV doc pm:Value)(an:Option Addr)(cdv ct:Value)(us:List Value)(hl:us.length=[("_law_found":Str)].length):bindArgs (PySem.W.fnOf "_law_are_said" "_law_are_said" (aJ cE) (aG cE) (aq cE) .none kV doc pm an cdv ct) ⟨us,[]⟩=pure ((["_law_found"]:List Str).zip us):=by
 obtain⟨_,rfl⟩:=jZ hl
 rfl
abbrev cJ:Stmt:=top 28
theorem gg:aS ["_law_times","_law_gap","_law_spans","_law_time"] ["_law_times","_law_gap"] (aq cJ):=⟨rfl,rfl,rfl,DK,rfl,DK,DK⟩
theorem qp(kV doc pm:Value)(an:Option Addr)(cdv ct:Value)(us:List Value)(hl:us.length=[("_law_times":Str),("_law_gap":Str)].length):bindArgs (PySem.W.fnOf "_law_pauses" "_law_pauses" (aJ cJ) (aG cJ) (aq cJ) .none kV doc pm an cdv ct) ⟨us,[]⟩=pure ((["_law_times","_law_gap"]:List Str).zip us):=by
 obtain⟨_,_,rfl⟩:=jY hl
 rfl
abbrev cD:Stmt:=top 29
theorem cH:aS ["_law_plan","_law_times","_law_step","_law_spans","_law_time","_law_k"] ["_law_plan","_law_times"] (aq cD):=⟨rfl,rfl,rfl,DK,rfl,DK,DK⟩
theorem nk(kV doc pm:Value)(an:Option Addr)(cdv ct:Value)(us:List Value)(hl:us.length=[("_law_plan":Str),("_law_times":Str)].length):bindArgs (PySem.W.fnOf "_law_spans_of" "_law_spans_of" (aJ cD) (aG cD) (aq cD) .none kV doc pm an cdv ct) ⟨us,[]⟩=pure ((["_law_plan","_law_times"]:List Str).zip us):=by
 obtain⟨_,_,rfl⟩:=jY hl
 rfl
abbrev bS:Stmt:=top 30
theorem cG:aS ["_law_plan","_law_events","_law_rows","_law_name","_law_mine","_law_span","_law_inside"] ["_law_plan","_law_events"] (aq bS):=⟨rfl,rfl,rfl,DK,rfl,DK,DK⟩
theorem nj(kV doc pm:Value)(an:Option Addr)(cdv ct:Value)(us:List Value)(hl:us.length=[("_law_plan":Str),("_law_events":Str)].length):bindArgs (PySem.W.fnOf "_law_table_of" "_law_table_of" (aJ bS) (aG bS) (aq bS) .none kV doc pm an cdv ct) ⟨us,[]⟩=pure ((["_law_plan","_law_events"]:List Str).zip us):=by
 obtain⟨_,_,rfl⟩:=jY hl
 rfl
abbrev jD:Stmt:=top 31
theorem cK:aS ["_law_script","_law_plan","_law_far","_law_bases","_law_base","_law_time","_law_late","_law_cell","_law_marks","_law_mark","_law_one","_law_two","_law_told","_law_said","_law_first","_law_closed","_law_by_end","_law_due","_law_after","_law_spans","_law_row"] ["_law_script"] (aq jD):=⟨rfl,rfl,rfl,DK,rfl,DK,DK⟩
theorem MH(kV doc pm:Value)(an:Option Addr)(cdv ct:Value)(us:List Value)(hl:us.length=[("_law_script":Str)].length):bindArgs (PySem.W.fnOf "law" "law" (aJ jD) (aG jD) (aq jD) .none kV doc pm an cdv ct) ⟨us,[]⟩=pure ((["_law_script"]:List Str).zip us):=by
 obtain⟨_,rfl⟩:=jZ hl
 rfl
abbrev cF:Stmt:=inClass (top 17) 0
theorem lY:aS ["self","plan"] ["self","plan"] (aq cF):=⟨rfl,rfl,rfl,DK,rfl,DK,DK⟩
theorem nu(kV doc pm:Value)(an:Option Addr)(cdv ct:Value)(us:List Value)(hl:us.length=[("self":Str),("plan":Str)].length):bindArgs (PySem.W.fnOf "__init__" "Desk.__init__" (aJ cF) (aG cF) (aq cF) .none kV doc pm an cdv ct) ⟨us,[]⟩=pure ((["self","plan"]:List Str).zip us):=by
 obtain⟨_,_,rfl⟩:=jY hl
 rfl
abbrev sf:Stmt:=inClass (top 17) 1
abbrev bZ:Stmt:=inClass (top 17) 2
theorem kQ:aS ["self","end"] ["self","end"] (aq bZ):=⟨rfl,rfl,rfl,DK,rfl,DK,DK⟩
theorem lK(kV doc pm:Value)(an:Option Addr)(cdv ct:Value)(us:List Value)(hl:us.length=[("self":Str),("end":Str)].length):bindArgs (PySem.W.fnOf "is_closed" "Desk.is_closed" (aJ bZ) (aG bZ) (aq bZ) .none kV doc pm an cdv ct) ⟨us,[]⟩=pure ((["self","end"]:List Str).zip us):=by
 obtain⟨_,_,rfl⟩:=jY hl
 rfl
abbrev om:Stmt:=inClass (top 17) 3
abbrev bL:Stmt:=inClass (top 17) 4
theorem jo:aS ["self","time"] ["self","time"] (aq bL):=⟨rfl,rfl,rfl,DK,rfl,DK,DK⟩
theorem jx(kV doc pm:Value)(an:Option Addr)(cdv ct:Value)(us:List Value)(hl:us.length=[("self":Str),("time":Str)].length):bindArgs (PySem.W.fnOf "is_too_late" "Desk.is_too_late" (aJ bL) (aG bL) (aq bL) .none kV doc pm an cdv ct) ⟨us,[]⟩=pure ((["self","time"]:List Str).zip us):=by
 obtain⟨_,_,rfl⟩:=jY hl
 rfl
abbrev ff:Stmt:=inClass (top 17) 5
theorem wG:aS ["self","deed"] ["self","deed"] (aq ff):=⟨rfl,rfl,rfl,DK,rfl,DK,DK⟩
theorem xP(kV doc pm:Value)(an:Option Addr)(cdv ct:Value)(us:List Value)(hl:us.length=[("self":Str),("deed":Str)].length):bindArgs (PySem.W.fnOf "do" "Desk.do" (aJ ff) (aG ff) (aq ff) .none kV doc pm an cdv ct) ⟨us,[]⟩=pure ((["self","deed"]:List Str).zip us):=by
 obtain⟨_,_,rfl⟩:=jY hl
 rfl
abbrev aW:Stmt:=inClass (top 17) 6
theorem gz:aS ["self","time","told"] ["self","time"] (aq aW):=⟨rfl,rfl,rfl,DK,rfl,DK,DK⟩
theorem lJ(kV doc pm:Value)(an:Option Addr)(cdv ct:Value)(us:List Value)(hl:us.length=[("self":Str),("time":Str)].length):bindArgs (PySem.W.fnOf "take_mark" "Desk.take_mark" (aJ aW) (aG aW) (aq aW) .none kV doc pm an cdv ct) ⟨us,[]⟩=pure ((["self","time"]:List Str).zip us):=by
 obtain⟨_,_,rfl⟩:=jY hl
 rfl
abbrev bC:Stmt:=inClass (top 17) 7
theorem bf:aS ["self","name","time","amount","keys","met","key","gone","told"] ["self","name","time","amount"] (aq bC):=⟨rfl,rfl,rfl,DK,rfl,DK,DK⟩
theorem kj(kV doc pm:Value)(an:Option Addr)(cdv ct:Value)(us:List Value)(hl:us.length=[("self":Str),("name":Str),("time":Str),("amount":Str)].length):bindArgs (PySem.W.fnOf "take_event" "Desk.take_event" (aJ bC) (aG bC) (aq bC) .none kV doc pm an cdv ct) ⟨us,[]⟩=pure ((["self","name","time","amount"]:List Str).zip us):=by
 obtain⟨_,_,_,_,rfl⟩:=Vf hl
 rfl
abbrev bu:Stmt:=inClass (top 17) 8
theorem jn:aS ["self","alone"] ["self","alone"] (aq bu):=⟨rfl,rfl,rfl,DK,rfl,DK,DK⟩
theorem jw(kV doc pm:Value)(an:Option Addr)(cdv ct:Value)(us:List Value)(hl:us.length=[("self":Str),("alone":Str)].length):bindArgs (PySem.W.fnOf "keys_met_by" "Desk.keys_met_by" (aJ bu) (aG bu) (aq bu) .none kV doc pm an cdv ct) ⟨us,[]⟩=pure ((["self","alone"]:List Str).zip us):=by
 obtain⟨_,_,rfl⟩:=jY hl
 rfl
abbrev bF:Stmt:=inClass (top 17) 9
theorem fB:aS ["self","keys","target","key"] ["self","keys","target"] (aq bF):=⟨rfl,rfl,rfl,DK,rfl,DK,DK⟩
theorem iW(kV doc pm:Value)(an:Option Addr)(cdv ct:Value)(us:List Value)(hl:us.length=[("self":Str),("keys":Str),("target":Str)].length):bindArgs (PySem.W.fnOf "move_tallies" "Desk.move_tallies" (aJ bF) (aG bF) (aq bF) .none kV doc pm an cdv ct) ⟨us,[]⟩=pure ((["self","keys","target"]:List Str).zip us):=by
 obtain⟨_,_,_,rfl⟩:=Lc hl
 rfl
abbrev b_:Stmt:=inClass (top 17) 10
theorem gA:aS ["self","key","tally","ahead"] ["self","key","tally"] (aq b_):=⟨rfl,rfl,rfl,DK,rfl,DK,DK⟩
theorem lN(kV doc pm:Value)(an:Option Addr)(cdv ct:Value)(us:List Value)(hl:us.length=[("self":Str),("key":Str),("tally":Str)].length):bindArgs (PySem.W.fnOf "add_tally" "Desk.add_tally" (aJ b_) (aG b_) (aq b_) .none kV doc pm an cdv ct) ⟨us,[]⟩=pure ((["self","key","tally"]:List Str).zip us):=by
 obtain⟨_,_,_,rfl⟩:=Lc hl
 rfl
inductive Pl where
 |fixed(l g:Int)|sliding(l s g:Int)|pauses(l g:Int)
def Pl.row:Pl->List V
 |.fixed l g=>[.str "fixed",.int l,.int g]
 |.sliding l s g=>[.str "sliding",.int l,.int s,.int g]
 |.pauses l g=>[.str "pauses",.int l,.int g]
def Pl.kind:Pl->Str
 |.fixed _ _=>"fixed"
 |.sliding _ _ _=>"sliding"
 |.pauses _ _=>"pauses"
def Pl.len:Pl->Int
 |.fixed l _=>l
 |.sliding l _ _=>l
 |.pauses l _=>l
def Pl.stp:Pl->Int
 |.fixed l _=>l
 |.sliding _ s _=>s
 |.pauses l _=>l
structure Pl.ok(p:Pl):Prop where
 l1:1<=p.len
 l2:p.len<10^45
 s1:1<=p.stp
 s2:p.stp<10^45
 ls:p.len<=100*p.stp
theorem OO:¬(("fixed":Str)="sliding"):=DK
theorem UT:¬(("pauses":Str)="sliding"):=DK
theorem OP:¬(("fixed":Str)="pauses"):=DK
theorem ON:¬(("sliding":Str)="pauses"):=DK
theorem Ef{a b:Str}(h:decide (V.str a=V.str b)=true):a=b:=by
 have h':=of_decide_eq_true h
 injection h'
theorem Cz(p:Pl):vY p.row 0=some (.str p.kind):=by cases p<;>rfl
theorem pQ(p:Pl):vY p.row 1=some (.int p.len):=by cases p<;>rfl
def dZ(p:Pl)(t:Int):Int:=((t-p.len)/p.stp+1)*p.stp
def cnt(p:Pl)(t:Int):Nat:=kT (dZ p t) (t+1) p.stp
def win(p:Pl)(t:Int)(i:Nat):List V:=[.int (dZ p t+i*p.stp),.int (dZ p t+i*p.stp+p.len)]
def Fd(p:Pl)(t:Int):List (List V):=match p with
 |.pauses l _=>[[.int t,.int (t+l)]]
 |p=>(List.range (cnt p t)).map (win p t)
def qx(H:Hp):List V->List (List V)->Prop:=Paired λx row=>∃a,x=.ref a/\H a=some (.tup row)
theorem qx.keep{H H':Hp}{xs:List V}{rows:List (List V)}(h:qx H xs rows)(k:∀a row,H a=some (.tup row)->H' a=some (.tup row)):qx H' xs rows:=
 Paired.imp' (λ_ _ ⟨a,e,h⟩=>⟨a,e,k a _ h⟩) h
theorem qx.snoc{H:Hp}{xs:List V}{rows:List (List V)}{a:Addr}{row:List V}(h:qx H xs rows)(e:H a=some (.tup row)):qx H (xs++[.ref a]) (rows++[row]):=Paired.snoc h ⟨_,rfl,e⟩
theorem qx.len{H:Hp}{xs:List V}{rows:List (List V)}(h:qx H xs rows):xs.length=rows.length:=Paired.length h
theorem Eo{p:Pl}{t:Int}(h:p.ok):cnt p t<=100:=by
 have:=Kl (t:=t) h.s1 h.ls
 unfold cnt kT dZ
 show(Km _ _ _).toNat<=100
 lia
inductive yC(K:Fg7)(vs:List V)(H:Hp)(Q:VK):Prop
 |mk(p:Addr)(pl:Pl):(vs=[.ref p])->(bg K H p pl.row)->(Q (.str pl.kind) H)->yC K vs H Q
def sj(K:Fg7):Sp:=λvs H Q d_=>yC K vs H Q
inductive BZ(K:Fg7)(vs:List V)(H:Hp)(Q:VK):Prop
 |mk(p:Addr)(pl:Pl):(vs=[.ref p])->(bg K H p pl.row)->(Q (.int pl.len) H)->BZ K vs H Q
def yy(K:Fg7):Sp:=λvs H Q d_=>BZ K vs H Q
inductive BS(K:Fg7)(vs:List V)(H:Hp)(Q:VK):Prop
 |mk(p:Addr)(pl:Pl):(vs=[.ref p])->(bg K H p pl.row)->(Q (.int pl.stp) H)->BS K vs H Q
def BU(K:Fg7):Sp:=λvs H Q d_=>BS K vs H Q
inductive uJ(K:Fg7)(vs:List V)(H:Hp)(Q:VK):Prop
 |mk(p:Addr)(pl:Pl)(t:Int):(vs=[.ref p,.int t])->(bg K H p pl.row)->(pl.ok)->((-(10^45)<t/\t<10^45))->(∀(l:Addr)(xs:List V)(H':Hp),av H H'->H l=none->H' l=some (.lst xs)->qx H' xs (Fd pl t)->Q (.ref l) H')->uJ K vs H Q
def yr(K:Fg7):Sp:=λvs H Q d_=>uJ K vs H Q
structure Bi(K:Fg7):Prop where
 tS:PySem.W.nsIn K mainGlobals "bool"=some none
 MJ:PySem.W.nsIn K mainGlobals "dict"=some none
 Eu:PySem.W.nsIn K mainGlobals "int"=some none
 aL:PySem.W.nsIn K mainGlobals "isinstance"=some none
 jC:PySem.W.nsIn K mainGlobals "len"=some none
 ny:PySem.W.nsIn K mainGlobals "list"=some none
 RM:PySem.W.nsIn K mainGlobals "max"=some none
 RL:PySem.W.nsIn K mainGlobals "min"=some none
 tR:PySem.W.nsIn K mainGlobals "range"=some none
 RK:PySem.W.nsIn K mainGlobals "set"=some none
 gS:PySem.W.nsIn K mainGlobals "sorted"=some none
 zo:PySem.W.nsIn K mainGlobals "str"=some none
 RJ:PySem.W.nsIn K mainGlobals "sum"=some none
 pF:PySem.W.nsIn K mainGlobals "tuple"=some none
section
variable {P:Program} {w:World} {K:Fg7} {mg:Str->Option Value}
theorem Mj(D:aO K "kind_of" eZ)(M:MG K mg):fQ P w K mg "kind_of" ["plan"] 1 (sj K):=by
 refine D.fn M wD xM (λvs H Q E h=>?_) (λf base cdv A outer s H vs Q E hr h=>?_)
 ·obtain⟨p,pl,rfl,_⟩:=h
  rfl
 ·obtain⟨p,pl,rfl,hp,k⟩:=h
  refine⟨_,(aA (aM (aF aY (pv 0) ah (λ_ _=>rfl)))),?_⟩
  exact⟨_,rfl,p,_,0,_,rfl,rfl,hp,Cz pl,k⟩
theorem Rr(D:aO K "length_of" dM)(M:MG K mg):fQ P w K mg "length_of" ["plan"] 1 (yy K):=by
 refine D.fn M sG tQ (λvs H Q E h=>?_) (λf base cdv A outer s H vs Q E hr h=>?_)
 ·obtain⟨p,pl,rfl,_⟩:=h
  rfl
 ·obtain⟨p,pl,rfl,hp,k⟩:=h
  refine⟨_,(aA (aM (aF aY (pv 0) ah (λ_ _=>rfl)))),?_⟩
  exact⟨_,rfl,p,_,1,_,rfl,rfl,hp,pQ pl,k⟩
theorem Rn(D:aO K "step_of" eY)(M:MG K mg)(nE:dm K "SLIDING" (.str "sliding"))(gW:fQ P w K mg "kind_of" ["plan"] 1 (sj K))(fG:fQ P w K mg "length_of" ["plan"] 1 (yy K)):
  fQ P w K mg "step_of" ["plan"] 2 (BU K):=by
 refine D.fn M wC xK (λvs H Q E h=>?_) (λf base cdv A outer s H vs Q E hr h=>?_)
 ·obtain⟨p,pl,rfl,_⟩:=h
  rfl
 ·obtain⟨p,pl,rfl,hp,k⟩:=h
  refine⟨_,(ao (bN (aQ eU (a_ gW (hr.mono (by decide)) rfl (pc (pv 0) aj)) (iN nE M rfl) (aP _)) (aA (aM (aF aY (pv 0) ah (λ_ _=>rfl)))) aN)
   (aA (aM (a_ fG (hr.mono (by decide)) rfl (pc (pv 0) aj))))),?_⟩
  refine⟨_,rfl,p,pl,rfl,hp,rfl,_,rfl,?_⟩
  refine aT (λh=>?_) (λh=>?_)
  ·have e:=Ef h
   cases pl with
   |fixed l g=>exact absurd e OO
   |pauses l g=>exact absurd e UT
   |sliding l s g=>exact⟨_,rfl,p,_,2,_,rfl,rfl,hp,rfl,k⟩
  ·refine⟨_,rfl,p,pl,rfl,hp,?_⟩
   cases pl with
   |fixed l g=>exact k
   |pauses l g=>exact k
   |sliding l s g=>exact absurd (decide_eq_true rfl) h
end
theorem qq(ls:List Int){i:Int}(h0:0<=i)(h1:i<ls.length):vY (ls.map V.int) i=some (.int (ls.getD i.toNat 0)):=by
 obtain⟨n,rfl⟩:∃n:Nat,i=n:=⟨i.toNat,by lia⟩
 have hn:n<ls.length:=by lia
 refine fV ?_
 simp[List.getD,hn]
theorem pX(a b:Int)(h:0<b):0<=a%b/\a%b<b:=⟨Int.emod_nonneg _ LI,Int.emod_lt_of_pos _ h⟩
inductive Cf(K:Fg7)(vs:List V)(H:Hp)(Q:VK):Prop
 |mk(a:Addr)(ns:List Int)(k:Int):(vs=[.ref a,.int k])->(bB K H a (ns.map V.int))->(0<=k)->(∀v:Int,Q (.int v) H)->Cf K vs H Q
def Ii(K:Fg7):Sp:=λvs H Q d_=>Cf K vs H Q
section
variable {P:Program} {w:World} {K:Fg7} {mg:Str->Option Value}
theorem Rv(D:aO K "_law_at" fc)(M:MG K mg)(B:Bi K):fQ P w K mg "_law_at" ["_law_script","_law_k"] 1 (Ii K):=by
 refine D.fn M wF xO (λvs H Q E h=>?_) (λf base cdv A outer s H vs Q E hr h=>?_)
 ·obtain⟨a,ns,i,rfl,_⟩:=h
  rfl
 ·obtain⟨a,ns,i,rfl,ha,h0,k⟩:=h
  refine⟨_,(ao (bN (aQ oLt (pv 1) (aZ bV rfl (M.no _ B.jC) gG (pc (pv 0) aj)) (aP _)) (aA (aM (aF cR (pv 0) (pv 1) (λ_ _=>rfl)))) aN)
   (aA (aM ah))),?_⟩
  refine⟨_,rfl,_,rfl,a,_,rfl,.inl ha,_,_,rfl,rfl,_,rfl,?_⟩
  refine aT (λh=>?_) (λh=>?_)
  ·have h':=of_decide_eq_true h
   rw[List.length_map]at h'
   exact⟨_,rfl,_,rfl,a,_,_,_,rfl,rfl,ha,qq ns h0 h',k _⟩
  ·exact k 0
end
end K1
namespace K2
open PySem PySem.Spec PyProof.Rows L2 K1
def fD:Pl->Int
 |.fixed _ g=>g
 |.sliding _ _ g=>g
 |.pauses _ g=>g
def bad(p:Pl):Bool:=decide (p.len<1)||decide (p.stp<1)||decide (fD p<0)||decide (100*p.stp<p.len)
theorem wJ(p:Pl):vY p.row (-1)=some (.int (fD p)):=by cases p<;>rfl
theorem MI{p:Pl}(h:bad p=false):¬p.len<1/\¬p.stp<1/\¬fD p<0/\¬100*p.stp<p.len:=by
 unfold bad at h
 simp only[Bool.or_eq_false_iff,decide_eq_false_iff_not]at h
 exact⟨h.1.1.1,h.1.1.2,h.1.2,h.2⟩
def eS(p:Addr)(mk:V)(d m:Addr):List (Str×V):=[("plan",.ref p),("mark",mk),("windows",.ref d),("missed",.ref m)]
structure fK(K:Fg7)(C:Addr):Prop where
 cl:uc K "Desk" C
 nP:eB K C "plan"
 nM:eB K C "mark"
 nW:eB K C "windows"
 nS:eB K C "missed"
theorem CZ:¬(("plan":Str)="mark"):=DK
theorem IM:¬(("plan":Str)="windows"):=DK
theorem IP:¬(("plan":Str)="missed"):=DK
theorem IQ:¬(("mark":Str)="windows"):=DK
theorem IS:¬(("mark":Str)="missed"):=DK
theorem IL:¬(("windows":Str)="missed"):=DK
theorem Ks(p:Addr):fH "plan" (.ref p) []=([("plan",V.ref p)]:List (Str×V)):=rfl
theorem Kr(p:Addr)(v:V):fH "mark" v [("plan",V.ref p)]=([("plan",V.ref p),("mark",v)]:List (Str×V)):=by
 simp only[fH,if_neg CZ]
theorem put2(p d:Addr)(v:V):fH "windows" (.ref d) [("plan",V.ref p),("mark",v)]=([("plan",V.ref p),("mark",v),("windows",V.ref d)]:List (Str×V)):=by
 simp only[fH,if_neg IM,if_neg IQ]
theorem put3(p d m:Addr)(v:V):fH "missed" (.ref m) [("plan",V.ref p),("mark",v),("windows",V.ref d)]=eS p v d m:=by
 simp only[fH,if_neg IP,if_neg IS,if_neg IL,eS]
theorem UE(p d m:Addr)(v u:V):fH "mark" u (eS p v d m)=eS p u d m:=by
 simp only[fH,if_neg CZ,eS,if_true]
theorem iR(p d m:Addr)(v:V)(k:Str):(eS p v d m).lookup k=if k="plan" then some (.ref p)else if k="mark" then some v else if k="windows" then some (.ref d)else if k="missed" then some (.ref m)else none:=by
 unfold eS
 simp only[List.lookup]
 repeat' split
 all_goals simp_all
theorem fP(p d m:Addr)(v:V):(eS p v d m).lookup ("plan":Str)=some (.ref p):=by rw[iR,if_pos rfl]
theorem fM(p d m:Addr)(v:V):(eS p v d m).lookup ("mark":Str)=some v:=by rw[iR,if_neg (Ne.symm CZ),if_pos rfl]
theorem fW(p d m:Addr)(v:V):(eS p v d m).lookup ("windows":Str)=some (.ref d):=by rw[iR,if_neg (Ne.symm IM),if_neg (Ne.symm IQ),if_pos rfl]
theorem fS(p d m:Addr)(v:V):(eS p v d m).lookup ("missed":Str)=some (.ref m):=by rw[iR,if_neg (Ne.symm IP),if_neg (Ne.symm IS),if_neg (Ne.symm IL),if_pos rfl]
theorem EW(p d m:Addr)(v:V){k:Str}(h1:¬k="plan")(h2:¬k="mark")(h3:¬k="windows")(h4:¬k="missed"):(eS p v d m).lookup k=none:=by rw[iR,if_neg h1,if_neg h2,if_neg h3,if_neg h4]
inductive uO(K:Fg7)(vs:List V)(H:Hp)(Q:VK):Prop
 |mk(p:Addr)(pl:Pl):(vs=[.ref p])->(bg K H p pl.row)->(Q (.int (fD pl)) H)->uO K vs H Q
def sC(K:Fg7):Sp:=λvs H Q d_=>uO K vs H Q
inductive Ce(K:Fg7)(vs:List V)(H:Hp)(Q:VK):Prop
 |mk(p:Addr)(pl:Pl):(vs=[.ref p])->(bg K H p pl.row)->(bad pl=false)->(Q .dI H)->Ce K vs H Q
def Ih(K:Fg7):Sp:=λvs H Q d_=>Ce K vs H Q
inductive yE(K:Fg7)(C:Addr)(vs:List V)(H:Hp)(Q:VK):Prop
 |mk(x dx p:Addr)(pl:Pl):(vs=[.ref x,.ref p])->(H x=some (.ins C dx []))->(bg K H p pl.row)->(bad pl=false)->(∀(d m:Addr)(H':Hp),H d=none->H m=none->H' x=some (.ins C dx (eS p .dI d m))->H' d=some (.dT [])->H' m=some (.lst [])->(∀b o,H b=some o->b≠x->H' b=some o)->Q .dI H')->yE K C vs H Q
def Cd(K:Fg7)(C:Addr):Sp:=λvs H Q d_=>yE K C vs H Q
section
variable {P:Program} {w:World} {K:Fg7} {mg:Str->Option Value} {C B:Addr}
theorem Hi(D:aO K "grace_of" eK)(M:MG K mg):fQ P w K mg "grace_of" ["plan"] 1 (sC K):=by
 refine D.fn M uQ vM (λvs H Q E h=>?_) (λf base cdv A outer s H vs Q E hr h=>?_)
 ·obtain⟨p,pl,rfl,_⟩:=h
  rfl
 ·obtain⟨p,pl,rfl,hp,k⟩:=h
  refine⟨_,(aA (aM (aF aY (pv 0) (nR uq ah) (λ_ _=>rfl)))),?_⟩
  exact⟨_,rfl,_,rfl,p,_,-1,_,rfl,rfl,hp,wJ pl,k⟩
theorem Ru(D:aO K "check_plan" dg)(M:MG K mg)(iz:dm K "MOST_STEPS" (.int 100))(fG:fQ P w K mg "length_of" ["plan"] 1 (yy K))(nG:fQ P w K mg "step_of" ["plan"] 2 (BU K))
  (kD:fQ P w K mg "grace_of" ["plan"] 1 (sC K)):fQ P w K mg "check_plan" ["plan"] 3 (Ih K):=by
 refine D.fn M gE qJ (λvs H Q E h=>?_) (λf base cdv A outer s H vs Q E hr h=>?_)
 ·obtain⟨p,pl,rfl,_⟩:=h
  rfl
 ·obtain⟨p,pl,rfl,hp,hb,k⟩:=h
  obtain⟨b1,b2,b3,b4⟩:=MI hb
  refine⟨_,(ao (dc (i:=1) gE.nd rfl (Or.inl rfl) (a_ fG (hr.mono (by decide)) rfl (pc (pv 0) aj)))
   (ao (dc (i:=2) gE.nd rfl (Or.inl rfl) (a_ nG (hr.mono (by decide)) rfl (pc (pv 0) aj)))
   (ao (bN (aQ oLt (pv 1) ah (aP _)) (aA iI) aN)
   (ao (bN (aQ oLt (pv 2) ah (aP _)) (aA iI) aN)
   (ao (bN (aQ oLt (a_ kD (hr.mono (by decide)) rfl (pc (pv 0) aj)) ah (aP _)) (aA iI) aN)
   (aA (bN (aQ Xo (pv 1) (aC gO (iN iz M rfl) (pv 2)) (aP _)) (aA iI) aN))))))),?_⟩
  refine⟨_,rfl,p,pl,rfl,hp,_,rfl,p,pl,rfl,hp,?_⟩
  refine⟨_,rfl,_,_,rfl,rfl,_,rfl,?_⟩
  refine aT (λh=>absurd (of_decide_eq_true h) b1) (λ_=>?_)
  refine⟨_,rfl,_,_,rfl,rfl,_,rfl,?_⟩
  refine aT (λh=>absurd (of_decide_eq_true h) b2) (λ_=>?_)
  refine⟨_,rfl,p,pl,rfl,hp,_,_,rfl,rfl,_,rfl,?_⟩
  refine aT (λh=>absurd (of_decide_eq_true h) b3) (λ_=>?_)
  refine⟨_,rfl,_,rfl,_,_,rfl,rfl,.inl ⟨by decide,by decide⟩,_,_,rfl,rfl,_,rfl,?_⟩
  exact aT (λh=>absurd (of_decide_eq_true h) b4) (λ_=>k)
theorem Mm(D:bA K C "__init__" "Desk.__init__" cF)(T:fK K C)(tX:fQ P w K mg "check_plan" ["plan"] 3 (Ih K)):dF P w K mg jj C "__init__" ["self","plan"] 4 (Cd K C):=by
 refine D.fn lY nu (λvs H Q E h=>?_) (λf base cdv A outer s H vs Q E hr h=>?_)
 ·obtain⟨x,dx,p,pl,rfl,_⟩:=h
  rfl
 ·obtain⟨x,dx,p,pl,rfl,hx,hp,hb,k⟩:=h
  refine⟨_,(ao (iJ (a_ tX (hr.mono (by decide)) rfl (pc (pv 1) aj)))
   (ao (pR (pv 0) (pv 1) rfl)
   (ao (pR (pv 0) mC rfl)
   (ao (pR (pv 0) uW rfl)
   (aA (pR (pv 0) (cy aj) rfl)))))),?_⟩
  refine⟨_,rfl,p,pl,rfl,hp,hb,?_⟩
  refine⟨_,rfl,_,rfl,x,C,dx,[],rfl,hx,T.cl.cl,T.nP,(by show 0<1000;decide),?_⟩
  refine⟨_,rfl,x,C,dx,_,rfl,af,T.cl.cl,T.nM,(by show 1<1000;decide),?_⟩
  intro d hd
  have nd:x≠d:=au af hd
  have hd0:H d=none:=by rw[ai nd.symm,ai nd.symm]at hd;exact hd
  refine⟨_,rfl,x,C,dx,_,rfl,(by rw[ai nd];exact af),T.cl.cl,T.nW,(by rw[Ks,Kr];show 2<1000;decide),?_⟩
  refine⟨(by show 0<=sizeLine;decide),λm hm=>?_⟩
  have nm:x≠m:=au af hm
  have UQ:d≠m:=by
   intro z;subst z
   rw[ai nd.symm,af]at hm;cases hm
  have hm0:H m=none:=by rw[ai nm.symm,ai UQ.symm,ai nm.symm,ai nm.symm]at hm;exact hm
  refine⟨_,rfl,x,C,dx,_,rfl,(by rw[ai nm];exact af),T.cl.cl,T.nS,(by rw[Ks,Kr,put2];show 3<1000;decide),?_⟩
  refine k d m _ hd0 hm0 (by rw[Ks,Kr,put2,put3];exact af) (by rw[ai nd.symm,ai UQ,ai nd.symm,af]) (by rw[ai nm.symm,af]) λb o e hb=>?_
  rw[ai hb,ai (au e hm0),ai hb,ai (au e hd0),ai hb,ai hb]
  exact e
end
structure Wn where
 n:Str
 s:Int
 e:Int
 c:Int
 t:Int
def mY(n:Str)(s e:Int):List Key:=[.inr n,.inl s,.inl e]
def Wn.ky(w:Wn):List Key:=mY w.n w.s w.e
def Vg(n:Str)(s e:Int):List V:=[.str n,.int s,.int e]
def Ey(H:Hp)(v:V)(w:Wn):Prop:=∃a,v=.ref a/\H a=some (.tup [.int w.c,.int w.t])
def bR(H:Hp):List (List Key×V)->List Wn->Prop:=Paired λp w=>p.1=w.ky/\Ey H p.2 w
theorem bR.keep{H H':Hp}{kvs:List (List Key×V)}{ws:List Wn}(h:bR H kvs ws)(k:∀a row,H a=some (.tup row)->H' a=some (.tup row)):bR H' kvs ws:=
 Paired.imp' (λ_ _ ⟨e,a,e2,z⟩=>⟨e,a,e2,k a _ z⟩) h
theorem bR.len{H:Hp}{kvs:List (List Key×V)}{ws:List Wn}(h:bR H kvs ws):kvs.length=ws.length:=Paired.length h
theorem bR.at{H:Hp}{kvs:List (List Key×V)}{ws:List Wn}(h:bR H kvs ws){i:Nat}{k:List Key}{v:V}(e:kvs[i]? = some (k,v)):∃w,ws[i]? = some w/\k=w.ky/\Ey H v w:=by
 induction h generalizing i with
 |nil=>simp at e
 | @cons p w ps ws r _ ih=>
  cases i with
  |zero=>simp at e;subst e;exact⟨w,rfl,r.1,r.2⟩
  |succ i=>obtain⟨w',h1,h2⟩:=ih (i:=i) (by simpa using e);exact⟨w',by simpa using h1,h2⟩
def IT:Option Int->V
 |none=>.dI
 |some m=>.int m
def closed(mk:Option Int)(e:Int):Bool:=match mk with
 |none=>false
 |some m=>decide (e<=m)
def late(mk:Option Int)(g t:Int):Bool:=match mk with
 |none=>false
 |some m=>decide (t<m-g)
inductive qZ(C:Addr)(vs:List V)(H:Hp)(Q:VK):Prop
 |mk(x dx p d m:Addr)(mk:Option Int)(e:Int):(vs=[.ref x,.int e])->(H x=some (.ins C dx (eS p (IT mk) d m)))->(Q (.bl (closed mk e)) H)->qZ C vs H Q
def pM(C:Addr):Sp:=λvs H Q d_=>qZ C vs H Q
inductive yz(K:Fg7)(C:Addr)(vs:List V)(H:Hp)(Q:VK):Prop
 |mk(x dx p d m:Addr)(mk:Option Int)(pl:Pl)(t:Int):(vs=[.ref x,.int t])->(H x=some (.ins C dx (eS p (IT mk) d m)))->(bg K H p pl.row)->(Q (.bl (late mk (fD pl) t)) H)->yz K C vs H Q
def Ca(K:Fg7)(C:Addr):Sp:=λvs H Q d_=>yz K C vs H Q
section
variable {P:Program} {w:World} {K:Fg7} {mg:Str->Option Value} {C:Addr}
theorem Ea(D:bA K C "is_closed" "Desk.is_closed" bZ)(T:fK K C):dF P w K mg jj C "is_closed" ["self","end"] 1 (pM C):=by
 refine D.fn kQ lK (λvs H Q E h=>?_) (λf base cdv A outer s H vs Q E hr h=>?_)
 ·obtain⟨x,dx,p,d,m,mk,e,rfl,_⟩:=h
  rfl
 ·obtain⟨x,dx,p,d,m,mk,e,rfl,hx,k⟩:=h
  refine⟨_,(aA (aM (iO (dW sQ (dO (pv 0) rfl) mC (aP _)) (iM (dW oLe (pv 1) (dO (pv 0) rfl) (aP _)))))),?_⟩
  refine⟨_,rfl,x,C,dx,_,_,rfl,hx,T.cl.cl,T.nM,fM p d m _,rfl,_,rfl,?_⟩
  cases mk with
  |none=>exact DC k
  |some mm=>exact LF ⟨_,rfl,_,rfl,x,C,dx,_,_,rfl,hx,T.cl.cl,T.nM,fM p d m _,_,_,rfl,rfl,k⟩
theorem Mi(D:bA K C "is_too_late" "Desk.is_too_late" bL)(M:MG K mg)(T:fK K C)(kD:fQ P w K mg "grace_of" ["plan"] 1 (sC K)):dF P w K mg jj C "is_too_late" ["self","time"] 2 (Ca K C):=by
 refine D.fn jo jx (λvs H Q E h=>?_) (λf base cdv A outer s H vs Q E hr h=>?_)
 ·obtain⟨x,dx,p,d,m,mk,pl,t,rfl,_⟩:=h
  rfl
 ·obtain⟨x,dx,p,d,m,mk,pl,t,rfl,hx,hp,k⟩:=h
  refine⟨_,(aA (aM (iO (dW sQ (dO (pv 0) rfl) mC (aP _)) (iM (dW oLt (pv 1) (aC pV (dO (pv 0) rfl) (a_ kD (hr.mono (by decide)) rfl (pc (dO (pv 0) rfl) aj))) (aP _)))))),?_⟩
  refine⟨_,rfl,x,C,dx,_,_,rfl,hx,T.cl.cl,T.nM,fM p d m _,rfl,_,rfl,?_⟩
  cases mk with
  |none=>exact DC k
  |some mm=>exact LF ⟨_,rfl,_,rfl,x,C,dx,_,_,rfl,hx,T.cl.cl,T.nM,fM p d m _,_,rfl,x,C,dx,_,_,rfl,hx,T.cl.cl,T.nP,fP p d m _,p,pl,rfl,hp,_,_,rfl,rfl,_,_,rfl,rfl,k⟩
end
def cA(ws:List Wn)(k:List Key):Option Wn:=ws.find? λw=>decide (w.ky=k)
def jF(ws:List Wn)(n:Str)(s e c t:Int):List Wn:=if(ws.any λw=>decide (w.ky=mY n s e))=true then ws.map (λw=>if w.ky=mY n s e then {w with c:=c,t:=t}else w)else ws++[⟨n,s,e,c,t⟩]
def addW(ws:List Wn)(n:Str)(s e c t:Int):List Wn:=match cA ws (mY n s e)with
 |some w=>jF ws n s e (w.c+c) (w.t+t)
 |none=>jF ws n s e (0+c) (0+t)
def cM(ws:List Wn)(k:List Key):List Wn:=ws.filter λw=>decide (w.ky≠k)
section
variable {H:Hp} {kvs:List (List Key×V)} {ws:List Wn}
theorem bR.get(h:bR H kvs ws)(k:List Key):(jk kvs k=none/\cA ws k=none)\/∃v w,jk kvs k=some v/\cA ws k=some w/\w.ky=k/\Ey H v w:=by
 induction h with
 |nil=>exact .inl ⟨rfl,rfl⟩
 | @cons p w ps ws r _ ih=>
  by_cases e:p.1=k
  ·exact .inr ⟨p.2,w,kJ e,by simp[cA,List.find?_cons,←r.1,e],r.1.symm.trans e,r.2⟩
  ·rw[kK e]
   have:cA (w::ws) k=cA ws k:=by simp[cA,List.find?_cons,←r.1,e]
   rw[this]
   exact ih
theorem bR.any(h:bR H kvs ws)(k:List Key):(kvs.any λkv=>decide (kv.1=k))=ws.any λw=>decide (w.ky=k):=by
 induction h with
 |nil=>rfl
 |cons r _ ih=>rw[List.any_cons,List.any_cons,r.1,ih]
theorem bR.append{kvs':List (List Key×V)}{cN:List Wn}(h:bR H kvs ws)(h':bR H kvs' cN):bR H (kvs++kvs') (ws++cN):=by
 induction h with
 |nil=>exact h'
 |cons r _ ih=>exact .cons r ih
theorem bR.put(h:bR H kvs ws){a:Addr}{n:Str}{s e c t:Int}(ha:H a=some (.tup [.int c,.int t])):bR H (putK kvs (mY n s e) (.ref a)) (jF ws n s e c t):=by
 have key:bR H (kvs.map λkv=>if kv.1=mY n s e then(kv.1,.ref a)else kv) (ws.map λw=>if w.ky=mY n s e then {w with c:=c,t:=t}else w):=by
  induction h with
  |nil=>exact .nil
  | @cons p w ps ws r _ ih=>
   refine .cons ?_ ih
   dsimp only
   by_cases q:p.1=mY n s e
   ·rw[if_pos q,if_pos (r.1▸q)]
    exact⟨r.1,a,rfl,ha⟩
   ·rw[if_neg q,if_neg (r.1▸q)]
    exact r
 unfold putK jF
 rw[h.any]
 split
 ·exact key
 ·exact h.append (.cons ⟨rfl,a,rfl,ha⟩ .nil)
theorem bR.drop(h:bR H kvs ws)(k:List Key):bR H (iS kvs k) (cM ws k):=by
 unfold iS cM
 induction h with
 |nil=>exact .nil
 | @cons p w ps ws r _ ih=>
  rw[List.filter_cons,List.filter_cons]
  by_cases e:p.1=k
  ·rw[if_neg (by simp[e]),if_neg (by simp[←r.1,e])];exact ih
  ·rw[if_pos (by simp[e]),if_pos (by simp[←r.1,e])];exact .cons r ih
end
def Kept(H H':Hp)(d:Addr):Prop:=∀b o,H b=some o->b≠d->H' b=some o
theorem Kept.tups{H H':Hp}{d:Addr}(k:Kept H H' d){kvs:List (List Key×V)}(hd:H d=some (.dT kvs)):∀a row,H a=some (.tup row)->H' a=some (.tup row):=λa row e=>k a _ e (aI e hd (by intro z;cases z))
theorem Kept.trans{H H1 H2:Hp}{d:Addr}(a:Kept H H1 d)(b:Kept H1 H2 d):Kept H H2 d:=λc o e n=>b c o (a c o e n) n
theorem av.kept{H H':Hp}{d:Addr}(s:av H H'):Kept H H' d:=λb o e _=>s b o e
inductive Cj(C:Addr)(vs:List V)(H:Hp)(Q:VK):Prop
 |mk(x dx p d m kb tb:Addr)(mk:V)(n:Str)(s e c t:Int)(kvs:List (List Key×V))(ws:List Wn):(vs=[.ref x,.ref kb,.ref tb])->(H x=some (.ins C dx (eS p mk d m)))->(H kb=some (.tup (Vg n s e)))->(H tb=some (.tup [.int c,.int t]))->(H d=some (.dT kvs))->(bR H kvs ws)->(kvs.length<sizeLine)->(∀(H':Hp)(kvs':List (List Key×V)),Kept H H' d->H' d=some (.dT kvs')->bR H' kvs' (addW ws n s e c t)->Q .dI H')->Cj C vs H Q
def Ck(C:Addr):Sp:=λvs H Q d_=>Cj C vs H Q
section
variable {P:Program} {w:World} {K:Fg7} {mg:Str->Option Value} {C:Addr}
theorem Ry(D:bA K C "add_tally" "Desk.add_tally" b_)(T:fK K C):dF P w K mg jj C "add_tally" ["self","key","tally"] 1 (Ck C):=by
 refine D.fn gA lN (λvs H Q E h=>?_) (λf base cdv A outer s H vs Q E hr h=>?_)
 ·obtain⟨x,dx,p,d,m,kb,tb,mk,n,s,e,c,t,kvs,ws,rfl,_⟩:=h
  rfl
 ·obtain⟨x,dx,p,d,m,kb,tb,mk,n,s,e,c,t,kvs,ws,rfl,hx,hk,ht,hd,hw,hl,k⟩:=h
  have hu1:=vB hr
  refine⟨_,(ao (dc (i:=3) gA.nd rfl (Or.inl rfl) (CP hu1 (dO (pv 0) rfl) (pv 1) (bD (pc ah (pc ah aj))) ⟨rfl,rfl,rfl,rfl⟩))
   (aA (yK hu1 (dO (pv 0) rfl) (pv 1) (bD (pc (aC gP (aF aY (pv 3) ah (λ_ _=>rfl)) (aF aY (pv 2) ah (λ_ _=>rfl))) (pc (aC gP (aF aY (pv 3) ah (λ_ _=>rfl)) (aF aY (pv 2) ah (λ_ _=>rfl))) aj))) rfl))),?_⟩
  refine⟨_,rfl,x,C,dx,_,_,rfl,hx,T.cl.cl,T.nW,fW p d m mk,d,rfl,.inr ⟨kvs,.inl hd⟩,_,rfl,(by show 2<=sizeLine;decide),λz hz=>?_⟩
  have s1:=av.new (o:=.tup [.int 0,.int 0]) hz
  refine⟨_,ua.t (k:=mY n s e) (s1 _ _ hd) (s1 _ _ hk),?_⟩
  obtain⟨a0,c0,t0,e0,h0,ea⟩:∃(a0:Addr) (c0 t0:Int),(jk kvs (mY n s e)).getD (.ref z)=.ref a0/\upd H z (.tup [.int 0,.int 0]) a0=some (.tup [.int c0,.int t0])/\addW ws n s e c t=jF ws n s e (c0+c) (t0+t):=by
   rcases hw.get (mY n s e)with⟨h1,h2⟩|⟨v,w,h1,h2,_,a,rfl,ha⟩
   ·exact⟨z,0,0,by rw[h1];rfl,af,by unfold addW;rw[h2]⟩
   ·exact⟨a,w.c,w.t,by rw[h1];rfl,s1 _ _ ha,by unfold addW;rw[h2]⟩
  rw[e0]
  refine⟨_,rfl,a0,_,0,_,rfl,rfl,bg.of h0,rfl,_,rfl,tb,_,0,_,rfl,rfl,bg.of (s1 _ _ ht),rfl,_,_,rfl,rfl,?_⟩
  refine⟨_,rfl,a0,_,1,_,rfl,rfl,bg.of h0,rfl,_,rfl,tb,_,1,_,rfl,rfl,bg.of (s1 _ _ ht),rfl,_,_,rfl,rfl,(by show 2<=sizeLine;decide),λr hr'=>?_⟩
  have s2:=s1.trans (av.new (o:=.tup [.int (c0+c),.int (t0+t)]) hr')
  refine⟨_,rfl,x,C,dx,_,_,rfl,s2 _ _ hx,T.cl.cl,T.nW,fW p d m mk,_,rfl,d,_,rfl,Bc.t (k:=mY n s e) (s2 _ _ hd) (s2 _ _ hk) hl,?_⟩
  refine k _ _ (λb o eb nb=>by rw[ai nb];exact s2 _ _ eb) af ?_
  rw[ea]
  have nr:r≠d:=λq=>by
   rw[q]at hr'
   rw[s1 _ _ hd]at hr'
   cases hr'
  refine bR.keep (H:=upd (upd H z (.tup [.int 0,.int 0])) r (.tup [.int (c0+c),.int (t0+t)])) (bR.put (hw.keep λa row q=>s2 _ _ q) af) λa row q=>?_
  rw[ai (aI q (s2 _ _ hd) (by intro y;cases y))]
  exact q
end
def kyD(n:Str)(s e:Int):Dv:=.tup [.str n,.int s,.int e]
structure Ky where
 n:Str
 s:Int
 e:Int
def Ky.l(k:Ky):List Key:=mY k.n k.s k.e
def Ky.v(k:Ky):List V:=Vg k.n k.s k.e
def Ky.d(k:Ky):Dv:=kyD k.n k.s k.e
def Wn.k(w:Wn):Ky:=⟨w.n,w.s,w.e⟩
theorem gn{a b:Ky}(h:a.l=b.l):a=b:=by
 obtain⟨n,s,e⟩:=a
 obtain⟨n',s',e'⟩:=b
 injection h with h1 h2
 injection h1 with h1
 injection h2 with h2 h3
 injection h2 with h2
 injection h3 with h3 _
 injection h3 with h3
 subst h1 h2 h3
 rfl
theorem oZ{a b:Ky}(h:a.d=b.d):a=b:=by
 obtain⟨n,s,e⟩:=a
 obtain⟨n',s',e'⟩:=b
 injection h with h
 injection h with h1 h2
 injection h1 with h1
 injection h2 with h2 h3
 injection h2 with h2
 injection h3 with h3 _
 injection h3 with h3
 subst h1 h2 h3
 rfl
theorem Wn.Aq(w:Wn):w.ky=w.k.l:=rfl
def bK(H:Hp):List V->List Ky->Prop:=Paired λx k=>∃a,x=.ref a/\H a=some (.tup k.v)
theorem bK.keep{H H':Hp}{xs:List V}{ks:List Ky}(h:bK H xs ks)(k:∀a row,H a=some (.tup row)->H' a=some (.tup row)):bK H' xs ks:=Paired.imp' (λ_ _ ⟨a,e,h⟩=>⟨a,e,k a _ h⟩) h
theorem bK.len{H:Hp}{xs:List V}{ks:List Ky}(h:bK H xs ks):xs.length=ks.length:=Paired.length h
theorem bK.snoc{H:Hp}{xs:List V}{ks:List Ky}{a:Addr}{k:Ky}(h:bK H xs ks)(e:H a=some (.tup k.v)):bK H (xs++[.ref a]) (ks++[k]):=Paired.snoc h ⟨_,rfl,e⟩
theorem bK.get{H:Hp}{xs:List V}{ks:List Ky}{i:Nat}{x:V}(h:bK H xs ks)(e:xs[i]? = some x):∃k a,ks[i]? = some k/\x=.ref a/\H a=some (.tup k.v):=by
 obtain⟨k,ek,a,r⟩:=Paired.getL h e
 exact⟨k,a,ek,r⟩
theorem xq{K:Fg7}{H:Hp}{a:Addr}{k:Ky}(h:H a=some (.tup k.v)):Dn K H (.ref a) k.d:=.tup (bg.of h) (.cons (.str _) (.cons (.int _) (.cons (.int _) .nil)))
theorem bK.Mr{K:Fg7}{H:Hp}{xs:List V}{ks:List Ky}(h:bK H xs ks):fy K H xs (ks.map Ky.d):=by
 induction h with
 |nil=>exact .nil
 |cons r _ ih=>
  obtain⟨a,rfl,h⟩:=r
  exact .cons (xq h) ih
def meet(a:Ky)(w:Wn):Bool:=decide (w.n=a.n)&&(decide (w.s<a.e)&&decide (a.s<w.e))
def Ur:Sh:=.tup [.str,.int,.int]
theorem Cn(k:Ky):Dv.isA Ur k.d=true:=rfl
theorem keys_perm{H:Hp}{ys:List V}{ks:List Ky}{ps:List (V×Dv)}(h:bK H ys ks)(p:ps.Perm (ys.zip (ks.map Ky.d))):∃ks',ks'.Perm ks/\bK H (ps.map (·.1)) ks'/\ps.map (·.2)=ks'.map Ky.d:=by
 have h0:∀{ys:List V}{ks:List Ky},bK H ys ks->∀q∈ys.zip (ks.map Ky.d),∃k:Ky,q.2=k.d/\∃a,q.1=.ref a/\H a=some (.tup k.v):=by
  intro ys ks h
  induction h with
  |nil=>intro q hq;simp at hq
  | @cons x k xs ks r _ ih=>
   intro q hq
   rw[List.map_cons,List.zip_cons_cons]at hq
   rcases List.mem_cons.mp hq with rfl|hq
   ·exact⟨k,rfl,r⟩
   ·exact ih q hq
 have h1:∀ps:List (V×Dv),(∀q∈ps,∃k:Ky,q.2=k.d/\∃a,q.1=.ref a/\H a=some (.tup k.v))->∃ks',bK H (ps.map (·.1)) ks'/\ps.map (·.2)=ks'.map Ky.d:=by
  intro ps
  induction ps with
  |nil=>intro _;exact⟨[],.nil,rfl⟩
  |cons q ps ih=>
   intro hp
   obtain⟨k,e,r⟩:=hp q (.head _)
   obtain⟨ks',a1,a2⟩:=ih λq' m=>hp q' (.tail _ m)
   exact⟨k::ks',.cons r a1,by rw[List.map_cons,List.map_cons,e,a2]⟩
 obtain⟨ks',a1,a2⟩:=h1 ps λq m=>h0 h q (p.mem_iff.mp m)
 refine⟨ks',?_,a1,a2⟩
 have e:(ks'.map Ky.d).Perm (ks.map Ky.d):=by
  rw[←a2]
  have:=p.map (·.2)
  rw[List.map_snd_zip (by rw[List.length_map,h.len];exact Nat.le_refl _)]at this
  exact this
 have inj:∀(l r:List Ky),(l.map Ky.d).Perm (r.map Ky.d)->l.Perm r:=by
  intro l
  induction l with
  |nil=>intro r hp;have:=List.Perm.eq_nil hp.symm;rw[List.map_eq_nil_iff]at this;rw[this]
  |cons a l ih=>
   intro r hp
   have hm:a.d∈r.map Ky.d:=hp.mem_iff.mp (by simp)
   obtain⟨b,hb,eb⟩:=List.mem_map.mp hm
   have:=oZ eb
   subst this
   obtain⟨r1,r2,rfl⟩:=List.append_of_mem hb
   have hp2:((b::l).map Ky.d).Perm ((b::(r1++r2)).map Ky.d):=hp.trans ((List.perm_middle).map _)
   rw[List.map_cons,List.map_cons]at hp2
   exact((ih _ hp2.cons_inv).cons b).trans List.perm_middle.symm
 exact inj _ _ e
inductive BX(C:Addr)(vs:List V)(H:Hp)(Q:VK):Prop
 |mk(x dx p d m ab:Addr)(mk:V)(a:Ky)(kvs:List (List Key×V))(ws:List Wn):(vs=[.ref x,.ref ab])->(H x=some (.ins C dx (eS p mk d m)))->(H ab=some (.tup a.v))->(H d=some (.dT kvs))->(bR H kvs ws)->(TS.Fits ws.length)->(∀(l:Addr)(zs:List V)(ks:List Ky)(H':Hp),av H H'->H l=none->H' l=some (.lst zs)->bK H' zs ks->ks.Perm ((ws.filter (meet a)).map Wn.k)->(ks.map Ky.d).Pairwise (λd e=>aK d e≠.gt)->Q (.ref l) H')->BX C vs H Q
def Ic(C:Addr):Sp:=λvs H Q d_=>BX C vs H Q
section
variable {P:Program} {w:World} {K:Fg7} {mg:Str->Option Value} {C:Addr}
theorem Rq(D:bA K C "keys_met_by" "Desk.keys_met_by" bu)(M:MG K mg)(B:Bi K)(T:fK K C):dF P w K mg jj C "keys_met_by" ["self","alone"] 1 (Ic C):=by
 refine D.fn jn jw (λvs H Q E h=>?_) (λf base cdv A outer s H vs Q E hr h=>?_)
 ·obtain⟨x,dx,p,d,m,ab,mk,a,kvs,ws,rfl,_⟩:=h
  rfl
 ·obtain⟨x,dx,p,d,m,ab,mk,a,kvs,ws,rfl,hx,hab,hd,hw,Bj,k⟩:=h
  have hz:=Bj.1
  have hu:(A.deeper (envOfC "Desk.keys_met_by" (aq bu) s.heap.objs.size f cdv)).units+64<cLine:=hr.units
  refine⟨_,(aA (aM (aZ (fU hu) rfl (M.no _ B.gS) f_ (pc (Gf (eT (NY:=["key","alone"]) (js:=[none,some 1]) rfl rfl (by with_unfolding_all rfl) (by repeat first|exact bY.nil|refine bY.cons rfl ?_) (.own (.out rfl rfl (.inl rfl) .nil)) (CL (dO (pv 0) rfl)) (λ_ _ _ _ _=>⟨(aU (i:=0) (show(["key","alone"]:List Str).Nodup from by decide +kernel) rfl (Or.inl rfl)),(ic (PW.pt (jI (aQ eU (aF (bh (K:=K) rfl) (pv 0) ah (λ_ _=>rfl)) (aF (bh (K:=K) rfl) (pv 1) ah (λ_ _=>rfl)) (aP _)) (jI (aQ oLt (aF (bh (K:=K) rfl) (pv 0) ah (λ_ _=>rfl)) (aF (bh (K:=K) rfl) (pv 1) ah (λ_ _=>rfl)) (aP _)) (i_ (aQ oLt (aF (bh (K:=K) rfl) (pv 1) ah (λ_ _=>rfl)) (aF (bh (K:=K) rfl) (pv 0) ah (λ_ _=>rfl)) (aP _))))))),(pv 0)⟩))) aj)))),?_⟩
  refine⟨d,.dT kvs,hd,True.intro,_,rfl,x,C,dx,_,_,rfl,hx,T.cl.cl,T.nW,fW p d m mk,d,kvs,rfl,hd,λo=>?_⟩
  intro l hl
  have C_:d≠l:=au af hl
  have oF:H l=none:=by rw[ai C_.symm]at hl;exact hl
  have hlen:=hw.len
  have TQ:∀{ys:List V}{b:Addr}{row:List V},upd (upd H d (.ef o (.dT kvs))) l (.lst ys) b=some (.tup row)->H b=some (.tup row):=λ{ys b row} e=>by
   have n1:b≠l:=by rintro rfl;rw[af]at e;cases e
   rw[ai n1]at e
   have n2:b≠d:=by rintro rfl;rw[af]at e;cases e
   rw[ai n2]at e
   exact e
  have zD:∀{ys:List V}{b:Addr}{row:List V},H b=some (.tup row)->upd (upd H d (.ef o (.dT kvs))) l (.lst ys) b=some (.tup row):=λ{ys b row} e=>by
   rw[ai (au e oF),ai (aI e hd (by intro z;cases z))]
   exact e
  refine tN (n:=kvs.length) (λi ys H'=>H'=upd (upd H d (.ef o (.dT kvs))) l (.lst ys)/\bK H ys (((ws.take i).filter (meet a)).map Wn.k)) ⟨rfl,.nil⟩ ?_ ?_ ?_ ?_ ?_
  ·rintro i ys H' ⟨rfl,_⟩
   exact af
  ·rintro i ys H' hi ⟨rfl,_⟩
   exact⟨kvs,by rw[ai C_,af],hi⟩
  ·rintro ys H' ⟨rfl,_⟩
   exact⟨kvs,by rw[ai C_,af],rfl⟩
  ·rintro i y ys H1 H2 hi ⟨rfl,hk⟩ ⟨e2,yl⟩
   subst e2
   obtain⟨kk,v,b,ek,rfl,hb⟩:=yl kvs (by rw[ai C_,af])
   obtain⟨w,ew,rfl,_⟩:=hw.at ek
   have hb0:H b=some (.tup w.k.v):=TQ hb
   have htk:ws.take (i+1)=ws.take i++[w]:=by rw[List.take_add_one,ew];rfl
   have hyl:=hk.len
   have Vr:ys.length<sizeLine:=by
    rw[hyl,List.length_map,sizeLine_eq]
    have:=List.length_filter_le (meet a) (ws.take i)
    have:=List.length_take_le i ws
    lia
   refine⟨bQ rfl,?_⟩
   refine⟨_,rfl,b,_,0,_,rfl,rfl,bg.of (zD hb0),rfl,_,rfl,ab,_,0,_,rfl,rfl,bg.of (zD hab),rfl,rfl,_,rfl,?_⟩
   have out:meet a w=false->∃zs,upd (upd H d (.ef o (.dT kvs))) l (.lst ys)=upd (upd H d (.ef o (.dT kvs))) l (.lst zs)/\bK H zs (((ws.take (i+1)).filter (meet a)).map Wn.k):=λz=>by
    refine⟨ys,rfl,?_⟩
    rw[htk,List.filter_append,List.filter_cons,if_neg (by rw[z];exact Bool.false_ne_true),List.filter_nil,List.append_nil]
    exact hk
   refine aT (λc1=>?_) (λc1=>DC (out ?_))
   ·have e1:w.n=a.n:=by
     have:=of_decide_eq_true c1
     injection this
    refine⟨_,rfl,b,_,1,_,rfl,rfl,bg.of (zD hb0),rfl,_,rfl,ab,_,2,_,rfl,rfl,bg.of (zD hab),rfl,_,_,rfl,rfl,_,rfl,?_⟩
    refine aT (λc2=>?_) (λc2=>DC (out ?_))
    ·refine⟨_,rfl,ab,_,1,_,rfl,rfl,bg.of (zD hab),rfl,_,rfl,b,_,2,_,rfl,rfl,bg.of (zD hb0),rfl,_,_,rfl,rfl,_,rfl,?_⟩
     refine aT (λc3=>?_) (λc3=>out ?_)
     ·refine⟨_,rfl,ys,af,Vr,by rw[fR],?_⟩
      have mt:meet a w=true:=by
       unfold meet
       rw[e1,decide_eq_true rfl]
       show(decide (w.s<a.e)&&decide (a.s<w.e))=true
       rw[show decide (w.s<a.e)=true from c2,show decide (a.s<w.e)=true from c3]
       rfl
      rw[htk,List.filter_append,List.filter_cons,if_pos mt,List.filter_nil,List.map_append]
      exact hk.snoc hb0
     ·unfold meet
      rw[show decide (a.s<w.e)=false from Bool.eq_false_iff.mpr c3]
      simp
    ·unfold meet
     rw[show decide (w.s<a.e)=false from Bool.eq_false_iff.mpr c2]
     simp
   ·unfold meet
    have:¬w.n=a.n:=λq=>c1 (by
     show decide (V.str w.n=V.str a.n)=true
     rw[q];simp)
    simp[this]
  ·rintro ys H' ⟨rfl,hk⟩
   rw[hlen,List.take_length]at hk
   have hth:upd (upd (upd H d (.ef o (.dT kvs))) l (.lst ys)) d (.dT kvs)=upd H l (.lst ys):=by
    funext b
    by_cases e1:b=d
    ·subst e1
     rw[af,ai C_];exact hd.symm
    ·rw[ai e1]
     by_cases e2:b=l
     ·subst e2
      rw[af,af]
     ·rw[ai e2,ai e1,ai e2]
   refine⟨o,by rw[ai C_,af],?_⟩
   rw[hth]
   have sl:=av.new (o:=.lst ys) oF
   have hk1:bK (upd H l (.lst ys)) ys ((ws.filter (meet a)).map Wn.k):=hk.keep λa row e=>sl _ _ e
   refine⟨l,ys,_,Ur,rfl,bB.of af,hk1.Mr,(λd hd=>?_),rfl,(by decide),?_,λl2 ps hl2 pm pw=>?_⟩
   ·obtain⟨q,_,rfl⟩:=List.mem_map.mp hd
    exact Cn q
   ·rw[hk1.len,List.length_map]
    have:=List.length_filter_le (meet a) ws
    exact⟨by lia,Nat.lt_of_le_of_lt this Bj.2⟩
   ·obtain⟨ks,a1,a2,a3⟩:=keys_perm hk1 pm
    have s2:=sl.trans (av.new (o:=.lst (ps.map (·.1))) hl2)
    refine k l2 _ ks _ s2 (sl.free hl2) af (a2.keep λa row e=>(av.new hl2) _ _ e) a1 (by rw[←a3];exact pw)
end
inductive yD(K:Fg7)(vs:List V)(H:Hp)(Q:VK):Prop
 |mk(l:Addr)(xs:List V)(ks:List Ky)(k0:Ky):(vs=[.ref l])->(bB K H l xs)->(bK H xs ks)->(ks[0]? = some k0)->(ks.length<=1000001)->(∀(r:Addr)(s e:Int)(H':Hp),av H H'->H r=none->(∃k∈ks,k.s=s)->(∀k∈ks,s<=k.s)->(∃k∈ks,k.e=e)->(∀k∈ks,k.e<=e)->H' r=some (.tup (Vg k0.n s e))->Q (.ref r) H')->yD K vs H Q
def Cb(K:Fg7):Sp:=λvs H Q d_=>yD K vs H Q
def bX(ws:List Wn)(ks:List Ky)(g:Ky):List Wn:=ks.foldl (λws k=>match cA ws k.l with
 |some w=>addW (cM ws k.l) g.n g.s g.e w.c w.t
 |none=>ws) ws
inductive yw(C:Addr)(vs:List V)(H:Hp)(Q:VK):Prop
 |mk(x dx p d m l gb:Addr)(mk:V)(g:Ky)(xs:List V)(ks:List Ky)(kvs:List (List Key×V))(ws:List Wn):(vs=[.ref x,.ref l,.ref gb])->(H x=some (.ins C dx (eS p mk d m)))->(H gb=some (.tup g.v))->(H l=some (.lst xs))->(bK H xs ks)->(H d=some (.dT kvs))->(bR H kvs ws)->(ws.length<1000000)->(ks.Nodup)->((∀k∈ks,k∈ws.map Wn.k))->(∀(H':Hp)(kvs':List (List Key×V)),Kept H H' d->H' d=some (.dT kvs')->bR H' kvs' (bX ws ks g)->Q .dI H')->yw C vs H Q
def BW(K:Fg7)(C:Addr):Sp:=λvs H Q d_=>yw C vs H Q
theorem wW(ws:List Wn)(ks:List Ky)(k g:Ky):bX ws (ks++[k]) g=match cA (bX ws ks g) k.l with
  |some w=>addW (cM (bX ws ks g) k.l) g.n g.s g.e w.c w.t
  |none=>bX ws ks g:=by
 unfold bX
 rw[List.foldl_append]
 rfl
theorem nh{ws:List Wn}{k:Ky}(h:k∈ws.map Wn.k):∃w,cA ws k.l=some w/\w.k=k:=by
 cases e:cA ws k.l with
 |none=>
  obtain⟨w,hw,rfl⟩:=List.mem_map.mp h
  have:=List.find?_eq_none.mp e w hw
  simp[Wn.Aq]at this
 |some w=>
  have:=List.find?_some e
  exact⟨w,rfl,gn (of_decide_eq_true this)⟩
theorem zK(ws:List Wn)(n:Str)(s e c t:Int)(k:Ky):k∈(jF ws n s e c t).map Wn.k↔k∈ws.map Wn.k\/k=⟨n,s,e⟩:=by
 unfold jF
 split
 ·rename_i h
  have e:(ws.map λw=>if w.ky=mY n s e then {w with c:=c,t:=t}else w).map Wn.k=ws.map Wn.k:=by
   rw[List.map_map]
   refine List.map_congr_left λw _=>?_
   show(if w.ky=mY n s e then {w with c:=c,t:=t}else w).k=w.k
   split<;>rfl
  rw[e]
  refine⟨.inl,λq=>q.elim id λq=>?_⟩
  obtain⟨w,hw,ew⟩:=List.any_eq_true.mp h
  have:w.k=⟨n,s,_⟩:=gn (a:=w.k) (b:=⟨n,s,_⟩) (of_decide_eq_true ew)
  rw[q,←this]
  exact List.mem_map.mpr ⟨w,hw,rfl⟩
 ·rw[List.map_append,List.mem_append]
  simp[Wn.k]
theorem rW(ws:List Wn)(n:Str)(s e c t:Int)(k:Ky):k∈(addW ws n s e c t).map Wn.k↔k∈ws.map Wn.k\/k=⟨n,s,e⟩:=by
 unfold addW
 split<;>exact zK ..
theorem xF(ws:List Wn)(g k:Ky):k∈(cM ws g.l).map Wn.k↔k∈ws.map Wn.k/\k≠g:=by
 unfold cM
 simp only[List.mem_map,List.mem_filter,decide_eq_true_eq]
 constructor
 ·rintro⟨w,⟨h1,h2⟩,rfl⟩
  exact⟨⟨w,h1,rfl⟩,λq=>h2 (by rw[Wn.Aq,q])⟩
 ·rintro⟨⟨w,h1,rfl⟩,h2⟩
  exact⟨w,⟨h1,λq=>h2 (gn (by rw[←Wn.Aq];exact q))⟩,rfl⟩
theorem Cp(ws:List Wn)(n:Str)(s e c t:Int):(jF ws n s e c t).length<=ws.length+1:=by
 unfold jF
 split
 ·rw[List.length_map];lia
 ·rw[List.length_append];simp
theorem lO(ws:List Wn)(n:Str)(s e c t:Int):(addW ws n s e c t).length<=ws.length+1:=by
 unfold addW
 split<;>exact Cp ..
theorem rM{ws:List Wn}{k:Ky}(h:k∈ws.map Wn.k):(cM ws k.l).length<ws.length:=by
 obtain⟨w,hw,rfl⟩:=List.mem_map.mp h
 exact List.length_filter_lt_length_iff_exists.mpr ⟨w,hw,by simp[Wn.Aq]⟩
section
variable {P:Program} {w:World} {K:Fg7} {mg:Str->Option Value} {C:Addr}
theorem Ml(D:aO K "joined" fZ)(M:MG K mg)(B:Bi K):fQ P w K mg "joined" ["keys"] 1 (Cb K):=by
 refine D.fn M zM AN (λvs H Q E h=>?_) (λf base cdv A outer s H vs Q E hr h=>?_)
 ·obtain⟨l,xs,ks,k0,rfl,_⟩:=h
  rfl
 ·obtain⟨l,xs,ks,k0,rfl,hl,hk,h0,hz1,k⟩:=h
  have hz:0<ks.length:=(List.getElem?_eq_some_iff.mp h0).1
  have SO:=hk.len
  obtain⟨x0,YD⟩:∃x0,xs[0]? = some x0:=⟨xs[0],by simp⟩
  obtain⟨k0',b0,e1,rfl,hb0⟩:=hk.get YD
  rw[h0]at e1
  cases e1
  refine⟨_,(aA (aM (bD (pc (aF aY (aF cR (pv 0) ah (λ_ _=>rfl)) ah (λ_ _=>rfl)) (pc (aZ (AL rfl) rfl (M.no _ B.RL) MD (pc (eT (NY:=["key"]) (js:=[none]) rfl rfl (by with_unfolding_all rfl) (by repeat first|exact bY.nil|refine bY.cons rfl ?_) (.own .nil) (bw (pv 0)) (λ_ _ _ _ _=>⟨(aU (i:=0) (show(["key"]:List Str).Nodup from by decide +kernel) rfl (Or.inl rfl)),dU,(aF (bh (K:=K) rfl) (pv 0) ah (λ_ _=>rfl))⟩)) aj)) (pc (aZ (AM rfl) rfl (M.no _ B.RM) ME (pc (eT (NY:=["key"]) (js:=[none]) rfl rfl (by with_unfolding_all rfl) (by repeat first|exact bY.nil|refine bY.cons rfl ?_) (.own .nil) (bw (pv 0)) (λ_ _ _ _ _=>⟨(aU (i:=0) (show(["key"]:List Str).Nodup from by decide +kernel) rfl (Or.inl rfl)),dU,(aF (bh (K:=K) rfl) (pv 0) ah (λ_ _=>rfl))⟩)) aj)) aj)))))),?_⟩
  refine⟨_,rfl,l,xs,0,_,rfl,rfl,hl,fV YD,b0,_,0,_,rfl,rfl,bg.of hb0,rfl,?_⟩
  refine⟨_,rfl,l,rfl,⟨_,hl⟩,λl1 h1=>?_⟩
  refine cU (K:=K) (a:=l) (xs:=xs) (λi ys H'=>ys=((ks.take i).map λk=>V.int k.s)/\H'=upd H l1 (.lst ys)) ⟨rfl,rfl⟩ (by rintro i ys H' ⟨_,rfl⟩;exact af) (λi ys H' _ ⟨_,e⟩=>by rw[e];exact(av.new h1).seq hl) ?_ ?_
  ·rintro i y ys H' hi ⟨hys,rfl⟩
   obtain⟨kk,b,ek,rfl,hb⟩:=hk.get hi
   have hil:=(List.getElem?_eq_some_iff.mp ek).1
   refine⟨bQ rfl,?_⟩
   refine⟨_,rfl,b,_,1,_,rfl,rfl,bg.of ((av.new h1) _ _ hb),rfl,ys,af,?_,?_,by rw[fR]⟩
   ·rw[hys,List.length_map,List.length_take]
    have:=sizeLine_eq
    lia
   ·rw[hys,List.take_add_one,ek]
    simp
  ·rintro ys H' ⟨hys,rfl⟩
   rw[SO,List.take_length]at hys
   have em:ys=(ks.map Ky.s).map V.int:=by rw[hys,List.map_map];rfl
   refine⟨l1,ks.map Ky.s,rfl,bB.of (by rw[af,em]),by rw[List.length_map];exact hz,λs hs1 hs2=>?_⟩
   have sA:=av.new (o:=.lst ys) h1
   generalize upd H l1 (.lst ys)=H1 at *
   refine⟨_,rfl,l,rfl,⟨_,sA.seq hl⟩,λl2 h2=>?_⟩
   refine cU (K:=K) (a:=l) (xs:=xs) (λi ys H'=>ys=((ks.take i).map λk=>V.int k.e)/\H'=upd H1 l2 (.lst ys)) ⟨rfl,rfl⟩ (by rintro i ys H' ⟨_,rfl⟩;exact af) (λi ys H' _ ⟨_,e⟩=>by rw[e];exact(av.new h2).seq (sA.seq hl)) ?_ ?_
   ·rintro i y ys H' hi ⟨hys,rfl⟩
    obtain⟨kk,b,ek,rfl,hb⟩:=hk.get hi
    have hil:=(List.getElem?_eq_some_iff.mp ek).1
    refine⟨bQ rfl,?_⟩
    refine⟨_,rfl,b,_,2,_,rfl,rfl,bg.of ((av.new h2) _ _ (sA _ _ hb)),rfl,ys,af,?_,?_,by rw[fR]⟩
    ·rw[hys,List.length_map,List.length_take]
     have:=sizeLine_eq
     lia
    ·rw[hys,List.take_add_one,ek]
     simp
   ·rintro Fb H' ⟨PU,rfl⟩
    rw[SO,List.take_length]at PU
    have Mp:Fb=(ks.map Ky.e).map V.int:=by rw[PU,List.map_map];rfl
    refine⟨l2,ks.map Ky.e,rfl,bB.of (by rw[af,Mp]),by rw[List.length_map];exact hz,λe Nj SY=>?_⟩
    have sB:=sA.trans (av.new (o:=.lst Fb) h2)
    refine⟨(by show 3<=sizeLine;decide),λr hr'=>?_⟩
    obtain⟨ka,ma,ea⟩:=List.mem_map.mp hs1
    obtain⟨kb,mb,eb⟩:=List.mem_map.mp Nj
    exact k r s e _ (sB.trans (av.new hr')) (sB.free hr') ⟨ka,ma,ea⟩ (λq m=>hs2 _ (List.mem_map.mpr ⟨q,m,rfl⟩)) ⟨kb,mb,eb⟩ (λq m=>SY _ (List.mem_map.mpr ⟨q,m,rfl⟩)) af
theorem Mg(D:bA K C "move_tallies" "Desk.move_tallies" bF)(T:fK K C)(fu:dF P w K mg jj C "add_tally" ["self","key","tally"] 1 (Ck C)):dF P w K mg jj C "move_tallies" ["self","keys","target"] 2 (BW K C):=by
 have cV:=T.cl
 refine D.fn fB iW (λvs H Q E h=>?_) (λf base cdv A outer s H vs Q E hr h=>?_)
 ·obtain⟨x,dx,p,d,m,l,gb,mk,g,xs,ks,kvs,ws,rfl,_⟩:=h
  rfl
 ·obtain⟨x,dx,p,d,m,l,gb,mk,g,xs,ks,kvs,ws,rfl,hx,hg,hl,hk,hd,hw,hz,nd,hin,k⟩:=h
  have hu1:=vB hr
  have SO:=hk.len
  have yN:x≠d:=aI hx hd (by intro z;cases z)
  have UN:l≠d:=aI hl hd (by intro z;cases z)
  refine⟨_,(aA (fh PassesOwn.never rfl (bw (pv 1)) (aU (i:=3) fB.nd rfl (Or.inl rfl))
   (aA (iJ (dH (pv 0) cV.cl fu gM (hr.mono (by decide)) (pc (pv 2) (pc (CO hu1 (dO (pv 0) rfl) (pv 3) ⟨rfl,rfl,rfl,rfl⟩) aj))))))),?_⟩
  refine⟨_,rfl,l,rfl,⟨_,bB.of hl⟩,dQ (K:=K) (a:=l) (xs:=xs) (λi σ H'=>∃(v:Option V) (kvs':List (List Key×V)) (cN:List Wn),σ=[some (.ref x),some (.ref l),some (.ref gb),v]/\Kept H H' d/\H' d=some (.dT kvs')/\bR H' kvs' cN/\cN=bX ws (ks.take i) g/\cN.length<1000000/\∀k∈ks.drop i,k∈cN.map Wn.k)
   ⟨_,kvs,ws,rfl,λb o e _=>e,hd,hw,rfl,hz,by simpa using hin⟩ (λi σ H' _ ⟨v,kvs',cN,_,kp,_⟩=>bB.of (kp _ _ hl UN)) ?_ ?_⟩
  ·rintro i y σ H1 hi ⟨v,vt,EN,rfl,Dr,hd1,hw1,Tf,hz1,QS⟩
   obtain⟨kk,b,ek,rfl,hb⟩:=hk.get hi
   have hil:=(List.getElem?_eq_some_iff.mp ek).1
   have hb1:H1 b=some (.tup kk.v):=Dr.tups hd _ _ hb
   have hdr:ks.drop i=kk::ks.drop (i+1):=by rw[List.drop_eq_getElem_cons hil];congr 1;exact(List.getElem?_eq_some_iff.mp ek).2
   have QM:kk∈EN.map Wn.k:=QS kk (by rw[hdr];exact .head _)
   obtain⟨w0,eg,ew0⟩:=nh QM
   rcases hw1.get kk.l with⟨_,z⟩|⟨v0,w0',h1,h2,_,a0,rfl,ha0⟩
   ·rw[eg]at z;cases z
   rw[eg]at h2
   cases h2
   refine⟨_,rfl,x,dx,_,rfl,Dr _ _ hx yN,EW p d m mk DK DK DK DK,_,rfl,_,rfl,x,C,dx,_,_,rfl,Dr _ _ hx yN,T.cl.cl,T.nW,fW p d m mk,d,rfl,.inr ⟨vt,.inl hd1⟩,_,rfl,vt,kk.l,b,_,hd1,rfl,hb1,h1,?_⟩
   have GC:Kept H1 (upd H1 d (.dT (iS vt kk.l))) d:=λb o e n=>by rw[ai n];exact e
   have JX:=GC.tups hd1
   have Vu:bR (upd H1 d (.dT (iS vt kk.l))) (iS vt kk.l) (cM EN kk.l):=(hw1.drop kk.l).keep JX
   have hl2:=Vu.len
   have hl3:=rM QM
   refine⟨x,dx,p,d,m,gb,a0,mk,g.n,g.s,g.e,w0.c,w0.t,iS vt kk.l,cM EN kk.l,rfl,GC _ _ (Dr _ _ hx yN) yN,JX _ _ (Dr.tups hd _ _ hg),JX _ _ ha0,af,Vu,by have:=sizeLine_eq;lia,λH3 Vj SJ Jy PZ=>?_⟩
   have hl4:=lO (cM EN kk.l) g.n g.s g.e w0.c w0.t
   refine⟨_,Vj,_,rfl,Dr.trans (GC.trans SJ),Jy,PZ,?_,by lia,λq mq=>?_⟩
   ·rw[List.take_add_one,ek]
    show _=bX ws (ks.take i++[kk]) g
    rw[wW,←Tf,eg]
   ·rw[rW,xF]
    refine .inl ⟨QS q (by rw[hdr];exact .tail _ mq),λz=>?_⟩
    have:=(List.drop_sublist i ks).nodup nd
    rw[hdr,List.nodup_cons]at this
    exact this.1 (z▸mq)
  ·rintro σ H1 ⟨v,vt,EN,rfl,Dr,hd1,hw1,Tf,_,_⟩
   rw[SO,List.take_length]at Tf
   subst Tf
   exact k H1 vt Dr hd1 hw1
end
def Wn.v(w:Wn):List V:=[.str w.n,.int w.s,.int w.e,.int w.c,.int w.t]
def Wn.d(w:Wn):Dv:=.tup [.str w.n,.int w.s,.int w.e,.int w.c,.int w.t]
def Sq:Sh:=.tup [.str,.int,.int,.int,.int]
theorem Cm(w:Wn):Dv.isA Sq w.d=true:=rfl
theorem Wn.JR{a b:Wn}(h:a.d=b.d):a=b:=by
 obtain⟨n,s,e,c,t⟩:=a
 obtain⟨n',s',e',c',t'⟩:=b
 injection h with h
 injection h with h1 h
 injection h1 with h1
 injection h with h2 h
 injection h2 with h2
 injection h with h3 h
 injection h3 with h3
 injection h with h4 h
 injection h4 with h4
 injection h with h5 h
 injection h5 with h5
 subst h1 h2 h3 h4 h5
 rfl
def aE{α:Type}(f:α->List V)(H:Hp):List V->List α->Prop:=Paired λx w=>∃a,x=.ref a/\H a=some (.tup (f w))
section
variable {α:Type} {f:α->List V} {H H':Hp}
theorem aE.keep{xs:List V}{ws:List α}(h:aE f H xs ws)(k:∀a row,H a=some (.tup row)->H' a=some (.tup row)):aE f H' xs ws:=Paired.imp' (λ_ _ ⟨a,e,h⟩=>⟨a,e,k a _ h⟩) h
theorem aE.len{xs:List V}{ws:List α}(h:aE f H xs ws):xs.length=ws.length:=Paired.length h
theorem aE.snoc{xs:List V}{ws:List α}{a:Addr}{w:α}(h:aE f H xs ws)(e:H a=some (.tup (f w))):aE f H (xs++[.ref a]) (ws++[w]):=Paired.snoc h ⟨_,rfl,e⟩
theorem aE.app{xs ys:List V}{ws us:List α}(h:aE f H xs ws)(h':aE f H ys us):aE f H (xs++ys) (ws++us):=Paired.app h h'
theorem aE.get{xs:List V}{ws:List α}{i:Nat}{x:V}(h:aE f H xs ws)(e:xs[i]? = some x):∃w a,ws[i]? = some w/\x=.ref a/\H a=some (.tup (f w)):=by
 obtain⟨k,ek,a,r⟩:=Paired.getL h e
 exact⟨k,a,ek,r⟩
theorem aE.Mr{K:Fg7}{g:α->Dv}(hd:∀a w,H a=some (.tup (f w))->Dn K H (.ref a) (g w)){xs:List V}{ws:List α}(h:aE f H xs ws):fy K H xs (ws.map g):=by
 induction h with
 |nil=>exact .nil
 |cons r _ ih=>
  obtain⟨a,rfl,h⟩:=r
  exact .cons (hd _ _ h) ih
theorem Am{g:α->Dv}(inj:∀a b,g a=g b->a=b){ys:List V}{ws:List α}{ps:List (V×Dv)}(h:aE f H ys ws)(p:ps.Perm (ys.zip (ws.map g))):∃rs,rs.Perm ws/\aE f H (ps.map (·.1)) rs/\ps.map (·.2)=rs.map g:=by
 have h0:∀{ys:List V}{ws:List α},aE f H ys ws->∀q∈ys.zip (ws.map g),∃w:α,q.2=g w/\∃a,q.1=.ref a/\H a=some (.tup (f w)):=by
  intro ys ws h
  induction h with
  |nil=>intro q hq;simp at hq
  | @cons x k xs ks r _ ih=>
   intro q hq
   rw[List.map_cons,List.zip_cons_cons]at hq
   rcases List.mem_cons.mp hq with rfl|hq
   ·exact⟨k,rfl,r⟩
   ·exact ih q hq
 have h1:∀ps:List (V×Dv),(∀q∈ps,∃w:α,q.2=g w/\∃a,q.1=.ref a/\H a=some (.tup (f w)))->∃rs,aE f H (ps.map (·.1)) rs/\ps.map (·.2)=rs.map g:=by
  intro ps
  induction ps with
  |nil=>intro _;exact⟨[],.nil,rfl⟩
  |cons q ps ih=>
   intro hp
   obtain⟨k,e,r⟩:=hp q (.head _)
   obtain⟨ks',a1,a2⟩:=ih λq' m=>hp q' (.tail _ m)
   exact⟨k::ks',.cons r a1,by rw[List.map_cons,List.map_cons,e,a2]⟩
 obtain⟨rs,a1,a2⟩:=h1 ps λq m=>h0 h q (p.mem_iff.mp m)
 refine⟨rs,?_,a1,a2⟩
 have e:(rs.map g).Perm (ws.map g):=by
  rw[←a2]
  have:=p.map (·.2)
  rw[List.map_snd_zip (by rw[List.length_map,h.len];exact Nat.le_refl _)]at this
  exact this
 have key:∀(l r:List α),(l.map g).Perm (r.map g)->l.Perm r:=by
  intro l
  induction l with
  |nil=>intro r hp;have:=List.Perm.eq_nil hp.symm;rw[List.map_eq_nil_iff]at this;rw[this]
  |cons a l ih=>
   intro r hp
   have hm:g a∈r.map g:=hp.mem_iff.mp (by simp)
   obtain⟨b,hb,eb⟩:=List.mem_map.mp hm
   have:=inj _ _ eb
   subst this
   obtain⟨r1,r2,rfl⟩:=List.append_of_mem hb
   have hp2:((b::l).map g).Perm ((b::(r1++r2)).map g):=hp.trans ((List.perm_middle).map _)
   rw[List.map_cons,List.map_cons]at hp2
   exact((ih _ hp2.cons_inv).cons b).trans List.perm_middle.symm
 exact key _ _ e
end
theorem Cy{K:Fg7}{H:Hp}{a:Addr}{w:Wn}(h:H a=some (.tup w.v)):Dn K H (.ref a) w.d:=.tup (bg.of h) (.cons (.str _) (.cons (.int _) (.cons (.int _) (.cons (.int _) (.cons (.int _) .nil)))))
def EO(pl:Pl)(t:Int):List (Int×Int):=match pl with
 |.pauses l _=>[(t,t+l)]
 |pl=>(List.range (cnt pl t)).map λ(i:Nat)=>(dZ pl t+(i:Int)*pl.stp,dZ pl t+(i:Int)*pl.stp+pl.len)
theorem uh(pl:Pl)(t:Int):Fd pl t=(EO pl t).map λq=>[.int q.1,.int q.2]:=by
 cases pl with
 |fixed l g=>show(List.range _).map _=((List.range _).map _).map _;rw[List.map_map];rfl
 |sliding l s g=>show(List.range _).map _=((List.range _).map _).map _;rw[List.map_map];rfl
 |pauses l g=>rfl
theorem sr{pl:Pl}(ok:pl.ok)(t:Int):(EO pl t).length<=100:=by
 have:=Eo (t:=t) ok
 cases pl with
 |fixed l g=>show((List.range _).map _).length<=100;rw[List.length_map,List.length_range];exact this
 |sliding l s g=>show((List.range _).map _).length<=100;rw[List.length_map,List.length_range];exact this
 |pauses l g=>show 1<=100;decide
def bJ(pl:Pl)(n:Str)(t:Int):List Ky:=(EO pl t).map λq=>⟨n,q.1,q.2⟩
def o_:Pl->Bool
 |.pauses _ _=>true
 |_=>false
inductive dS where
 |told(w:Wn)|gone(k:Ky)|missed(n:Str)(t a:Int)
def dS.v:dS->List V
 |.told w=>[.str "told",.str w.n,.int w.s,.int w.e,.int w.c,.int w.t]
 |.gone k=>[.str "gone",.str k.n,.int k.s,.int k.e]
 |.missed n t a=>[.str "missed",.str n,.int t,.int a]
def iY(pl:Pl)(n:Str)(t a:Int)(ws:List Wn)(ms ks:List Ky)(cN:List Wn):Prop:=
 (o_ pl=false/\ms=[]/\ks=bJ pl n t/\cN=ks.foldl (λu k=>addW u k.n k.s k.e 1 a) ws)\/
 (o_ pl=true/\ms.Perm ((ws.filter (meet ⟨n,t,t+pl.len⟩)).map Wn.k)/\(ms.map Ky.d).Pairwise (λd e=>aK d e≠.gt)/\∃s e:Int,(s=t\/∃k∈ms,k.s=s)/\s<=t/\(∀k∈ms,s<=k.s)/\(e=t+pl.len\/∃k∈ms,k.e=e)/\t+pl.len<=e/\(∀k∈ms,k.e<=e)/\
  ks=[⟨n,s,e⟩]/\cN=addW (bX ws ms ⟨n,s,e⟩) n s e 1 a)
def dG(mk:Option Int)(ws:List Wn)(ks:List Ky):List dS:=(ks.filter λk=>closed mk k.e).filterMap λk=>(cA ws k.l).map dS.told
open Classical in
noncomputable def dB(mk:Option Int)(ms ks:List Ky):List dS:=(ms.filter λk=>decide (k∉ks)&&closed mk k.e).map dS.gone
structure gu(K:Fg7)(C:Addr)(H:Hp)(x p d m:Addr)(pl:Pl)(mk:Option Int)(ws:List Wn)(ms:List (Str×Int×Int)):Prop where
 ob:∃dx,H x=some (.ins C dx (eS p (IT mk) d m))
 pl:bg K H p pl.row
 wd:∃kvs,H d=some (.dT kvs)/\bR H kvs ws
 ml:∃xs,H m=some (.lst xs)/\aE (λq:Str×Int×Int=>[.str q.1,.int q.2.1,.int q.2.2]) H xs ms
 nd:(ws.map Wn.k).Nodup
inductive uP(K:Fg7)(C:Addr)(vs:List V)(H:Hp)(Q:VK):Prop
 |mk(x p d m:Addr)(pl:Pl)(mk:Option Int)(ws:List Wn)(ms:List (Str×Int×Int))(n:Str)(t a:Int):(vs=[.ref x,.str n,.int t,.int a])->(gu K C H x p d m pl mk ws ms)->(pl.ok)->((-(10^45)<t/\t<10^45))->((ws.length+200<1000000/\ws.length<TS.MX))->(ms.length<1000000)->((late mk (fD pl) t=true->∀(l:Addr)(zs:List V)(H':Hp),(∀b o,H b=some o->b≠m->H' b=some o)->H l=none->H' l=some (.lst zs)->aE dS.v H' zs [.missed n t a]->gu K C H' x p d m pl mk ws (ms++[(n,t,a)])->Q (.ref l) H'))->((late mk (fD pl) t=false->∀(l:Addr)(zs:List V)(H':Hp)(mt ks:List Ky)(cN:List Wn),iY pl n t a ws mt ks cN->(∀b o,H b=some o->b≠d->H' b=some o)->H l=none->H' l=some (.lst zs)->aE dS.v H' zs (dB mk mt ks++dG mk cN ks)->gu K C H' x p d m pl mk cN ms->Q (.ref l) H'))->uP K C vs H Q
def yF(K:Fg7)(C:Addr):Sp:=λvs H Q d_=>uP K C vs H Q
theorem AB{ws:List Wn}{k:Ky}(h:k∉ws.map Wn.k):cA ws k.l=none:=by
 cases e:cA ws k.l with
 |none=>rfl
 |some w=>
  have h1:=List.find?_some e
  have h2:=List.mem_of_find?_eq_some e
  exact absurd (List.mem_map.mpr ⟨w,h2,gn (a:=w.k) (b:=k) (of_decide_eq_true h1)⟩) h
theorem wA{ws:List Wn}{n:Str}{s e c t:Int}(h:(ws.map Wn.k).Nodup):((jF ws n s e c t).map Wn.k).Nodup:=by
 unfold jF
 split
 ·have:(ws.map λw=>if w.ky=mY n s e then {w with c:=c,t:=t}else w).map Wn.k=ws.map Wn.k:=by
   rw[List.map_map]
   refine List.map_congr_left λw _=>?_
   show(if w.ky=mY n s e then {w with c:=c,t:=t}else w).k=w.k
   split<;>rfl
  rw[this]
  exact h
 ·rename_i hn
  rw[List.map_append]
  refine List.nodup_append.mpr ⟨h,by simp,λa ha b hb=>?_⟩
  simp at hb
  rintro rfl
  obtain⟨w,hw,ew⟩:=List.mem_map.mp ha
  refine hn (List.any_eq_true.mpr ⟨w,hw,decide_eq_true ?_⟩)
  rw[Wn.Aq,ew,hb]
  rfl
theorem ko{ws:List Wn}{n:Str}{s e c t:Int}(h:(ws.map Wn.k).Nodup):((addW ws n s e c t).map Wn.k).Nodup:=by
 unfold addW
 split<;>exact wA h
theorem vH{ws:List Wn}{k:List Key}(h:(ws.map Wn.k).Nodup):((cM ws k).map Wn.k).Nodup:=h.sublist ((List.filter_sublist).map _)
theorem iQ{g:Ky}:∀{ks:List Ky}{ws:List Wn},(ws.map Wn.k).Nodup->((bX ws ks g).map Wn.k).Nodup
 |[],_,h=>h
 |k::ks,ws,h=>by
  show((bX _ ks g).map Wn.k).Nodup
  refine iQ ?_
  dsimp only
  split
  ·exact ko (vH h)
  ·exact h
theorem mF{g:Ky}:∀{ks:List Ky}{ws:List Wn},(bX ws ks g).length<=ws.length
 |[],_=>Nat.le_refl _
 |k::ks,ws=>by
  show(bX _ ks g).length<=ws.length
  refine Nat.le_trans mF ?_
  dsimp only
  split
  ·rename_i w e
   have h1:=List.find?_some e
   have h2:=List.mem_of_find?_eq_some e
   have h3:=rM (k:=k) (ws:=ws) (List.mem_map.mpr ⟨w,h2,gn (a:=w.k) (b:=k) (of_decide_eq_true h1)⟩)
   have h4:=lO (cM ws k.l) g.n g.s g.e w.c w.t
   lia
  ·exact Nat.le_refl _
def bP(a:Int)(ws:List Wn)(ks:List Ky):List Wn:=ks.foldl (λu k=>addW u k.n k.s k.e 1 a) ws
theorem vP(a:Int)(ws:List Wn)(ks:List Ky)(k:Ky):bP a ws (ks++[k])=addW (bP a ws ks) k.n k.s k.e 1 a:=by
 unfold bP
 rw[List.foldl_append]
 rfl
theorem iu{a:Int}:∀{ks:List Ky}{ws:List Wn},(ws.map Wn.k).Nodup->((bP a ws ks).map Wn.k).Nodup
 |[],_,h=>h
 |_::ks,_,h=>iu (ks:=ks) (ko h)
theorem kr{a:Int}:∀{ks:List Ky}{ws:List Wn},(bP a ws ks).length<=ws.length+ks.length
 |[],_=>Nat.le_refl _
 |k::ks,ws=>by
  have h1:=kr (a:=a) (ks:=ks) (ws:=addW ws k.n k.s k.e 1 a)
  have h2:=lO ws k.n k.s k.e 1 a
  have h3:bP a ws (k::ks)=bP a (addW ws k.n k.s k.e 1 a) ks:=rfl
  rw[h3,List.length_cons]
  lia
theorem qw{a:Int}{q:Ky}:∀{ks:List Ky}{ws:List Wn},q∈ks\/q∈ws.map Wn.k->q∈(bP a ws ks).map Wn.k
 |[],_,h=>h.elim (λz=>nomatch z) id
 |k::ks,ws,h=>by
  have h3:bP a ws (k::ks)=bP a (addW ws k.n k.s k.e 1 a) ks:=rfl
  rw[h3]
  refine qw ?_
  rw[rW]
  rcases h with h|h
  ·rcases List.mem_cons.mp h with rfl|h
   ·exact .inr (.inr rfl)
   ·exact .inl h
  ·exact .inr (.inl h)
theorem Kept.tup{H H':Hp}{m:Addr}{z:HO}(k:Kept H H' m)(hm:H m=some z)(n1:∀r,z≠.tup r):∀a row,H a=some (.tup row)->H' a=some (.tup row):=λa row e=>k a _ e λq=>by
 rw[q,hm]at e
 exact n1 row (Option.some.inj e)
theorem Kept.jG{K:Fg7}{H H':Hp}{m p:Addr}{z:HO}{row:List V}(k:Kept H H' m)(hm:H m=some z)(n1:∀r,z≠.tup r)(n2:∀o u,z≠.ef o u)(h:bg K H p row):bg K H' p row:=by
 rcases h with(h|⟨o,h⟩)|h
 ·exact .inl (.inl (k.tup hm n1 _ _ h))
 ·refine .inl (.inr ⟨o,k _ _ h λq=>?_⟩)
  rw[q,hm]at h
  exact n2 _ _ (Option.some.inj h)
 ·exact .inr h
theorem Kept.refl(H:Hp)(d:Addr):Kept H H d:=λ_ _ e _=>e
theorem Kept.free{H H':Hp}{d l:Addr}(k:Kept H H' d)(hn:l≠d)(h:H' l=none):H l=none:=by
 cases e:H l with
 |none=>rfl
 |some o=>rw[k l o e hn]at h;cases h
def Mid(pl:Pl)(n:Str)(t:Int)(ws:List Wn)(ms ks:List Ky)(cN:List Wn):Prop:=
 (o_ pl=false/\ms=[]/\ks=bJ pl n t/\cN=ws)\/
 (o_ pl=true/\ms.Perm ((ws.filter (meet ⟨n,t,t+pl.len⟩)).map Wn.k)/\(ms.map Ky.d).Pairwise (λd e=>aK d e≠.gt)/\∃s e:Int,(s=t\/∃k∈ms,k.s=s)/\s<=t/\(∀k∈ms,s<=k.s)/\(e=t+pl.len\/∃k∈ms,k.e=e)/\t+pl.len<=e/\(∀k∈ms,k.e<=e)/\ks=[⟨n,s,e⟩]/\cN=bX ws ms ⟨n,s,e⟩)
theorem Mid.rel{pl:Pl}{n:Str}{t a:Int}{ws:List Wn}{ms ks:List Ky}{cN:List Wn}(h:Mid pl n t ws ms ks cN):iY pl n t a ws ms ks (bP a cN ks):=by
 rcases h with⟨h1,h2,h3,rfl⟩|⟨h1,h2,h3,s,e,h4,h5,h6,h7,h8,h9,rfl,rfl⟩
 ·exact .inl ⟨h1,h2,h3,rfl⟩
 ·exact .inr ⟨h1,h2,h3,s,e,h4,h5,h6,h7,h8,h9,rfl,rfl⟩
theorem qH(l g:Int)(n:Str)(t:Int):bJ (.pauses l g) n t=[⟨n,t,t+l⟩]:=rfl
theorem AA(mk:Option Int)(a b ks:List Ky):dB mk (a++b) ks=dB mk a ks++dB mk b ks:=by
 unfold dB
 rw[List.filter_append,List.map_append]
theorem ng(mk:Option Int)(ms ks:List Ky):(dB mk ms ks).length<=ms.length:=by
 unfold dB
 rw[List.length_map]
 exact List.length_filter_le _ _
theorem vC{mk:Option Int}{k:Ky}{ks:List Ky}(h1:k∉ks)(h2:closed mk k.e=true):dB mk [k] ks=[.gone k]:=by
 unfold dB
 simp[h1,h2]
open Classical in
theorem nZ{mk:Option Int}{k:Ky}{ks:List Ky}(h:¬(k∉ks/\closed mk k.e=true)):dB mk [k] ks=[]:=by
 unfold dB
 simp only[List.filter_cons,List.filter_nil]
 rw[if_neg]
 ·rfl
 ·intro z
  have z:=(Bool.and_eq_true _ _).mp z
  exact h ⟨of_decide_eq_true z.1,z.2⟩
theorem zE(mk:Option Int)(ws:List Wn)(a b:List Ky):dG mk ws (a++b)=dG mk ws a++dG mk ws b:=by
 unfold dG
 rw[List.filter_append,List.filterMap_append]
theorem lW(mk:Option Int)(ws:List Wn)(ks:List Ky):(dG mk ws ks).length<=ks.length:=by
 unfold dG
 exact Nat.le_trans (List.length_filterMap_le _ _) (List.length_filter_le _ _)
theorem uv{mk:Option Int}{ws:List Wn}{k:Ky}{w:Wn}(h:closed mk k.e=true)(hg:cA ws k.l=some w):dG mk ws [k]=[.told w]:=by
 unfold dG
 simp[h,hg]
theorem uw{mk:Option Int}{ws:List Wn}{k:Ky}(h:¬closed mk k.e=true):dG mk ws [k]=[]:=by
 unfold dG
 simp[h]
section
variable {P:Program} {w:World} {K:Fg7} {mg:Str->Option Value} {C:Addr}
theorem Hj(D:bA K C "take_event" "Desk.take_event" bC)(M:MG K mg)(T:fK K C)(gU:dm K "PAUSES" (.str "pauses"))(gW:fQ P w K mg "kind_of" ["plan"] 1 (sj K))(xV:fQ P w K mg "spans_at" ["plan","time"] 3 (yr K))
  (kF:dF P w K mg jj C "is_too_late" ["self","time"] 2 (Ca K C))(dN:dF P w K mg jj C "is_closed" ["self","end"] 1 (pM C))(kE:dF P w K mg jj C "keys_met_by" ["self","alone"] 1 (Ic C))
  (EJ:fQ P w K mg "joined" ["keys"] 1 (Cb K))(jz:dF P w K mg jj C "move_tallies" ["self","keys","target"] 2 (BW K C))(fu:dF P w K mg jj C "add_tally" ["self","key","tally"] 1 (Ck C)):
  dF P w K mg jj C "take_event" ["self","name","time","amount"] 4 (yF K C):=by
 have cV:=T.cl
 refine D.fn bf kj (λvs H Q E h=>?_) (λf base cdv A outer s H vs Q E hr h=>?_)
 ·obtain⟨x,p,d,m,pl,mk,ws,ms,n,t,a,rfl,_⟩:=h
  rfl
 ·obtain⟨x,p,d,m,pl,mk,ws,ms,n,t,a,rfl,DA,ok,ht,⟨hwl,hfx⟩,hml,kL,kN⟩:=h
  have hu1:=vB hr
  have hu:(A.deeper (envOfC "Desk.take_event" (aq bC) s.heap.objs.size f cdv)).units+64<cLine:=hr.units
  obtain⟨dx,hx⟩:=DA.ob
  obtain⟨kvs,hd,hw⟩:=DA.wd
  obtain⟨mx,hm,GQ⟩:=DA.ml
  have hp:=DA.pl
  have yN:x≠d:=aI hx hd (by intro z;cases z)
  have ZR:x≠m:=aI hx hm (by intro z;cases z)
  have Xv:m≠d:=aI hm hd (by intro z;cases z)
  refine⟨_,(ao (bN (cY (dH (pv 0) cV.cl kF gM (hr.mono (by decide)) (pc (pv 2) aj))) (ao (iJ (pT PySem.F.plainAttrs_list PySem.F.slot_list_append PySem.F.type_list_append eL (dO (pv 0) rfl) (pc (bD (pc (pv 1) (pc (pv 2) (pc (pv 3) aj)))) aj)))
   (aA (aM (cy (pc (bD (pc cL (pc (pv 1) (pc (pv 2) (pc (pv 3) aj))))) aj))))) aN)
   (ao (CJ (i:=4) bf.nd rfl (Or.inr rfl) (eT (NY:=["span","name"]) (js:=[none,some 1]) rfl rfl (by with_unfolding_all rfl) (by repeat first|exact bY.nil|refine bY.cons rfl ?_) (.own (.out rfl rfl (.inl rfl) .nil)) (bw (a_ xV (hr.mono (by decide)) rfl (pc (dO (pv 0) rfl) (pc (pv 2) aj)))) (λ_ _ _ _ _=>⟨(aU (i:=0) (show(["span","name"]:List Str).Nodup from by decide +kernel) rfl (Or.inl rfl)),dU,(aC (gj (K:=K) rfl) (bD (pc (pv 1) aj)) (pv 0))⟩)) (by with_unfolding_all rfl))
   (ao (dc (i:=5) bf.nd rfl (Or.inl rfl) (cy aj))
   (mh (bN (aQ eU (a_ gW (hr.mono (by decide)) rfl (pc (dO (pv 0) rfl) aj)) (iN gU M rfl) (aP _)) (ao (dc (i:=5) bf.nd rfl (Or.inl rfl) (dH (pv 0) cV.cl kE gM (hr.mono (by decide)) (pc (aF cR (pv 4) ah (λ_ _=>rfl)) aj)))
   (ao (dc (i:=4) bf.nd rfl (Or.inr rfl) (cy (pc (a_ EJ (hr.mono (by decide)) rfl (pc (aC sS (pv 5) (pv 4)) aj)) aj)))
   (aA (iJ (dH (pv 0) cV.cl jz gM (hr.mono (by decide)) (pc (pv 5) (pc (aF cR (pv 4) ah (λ_ _=>rfl)) aj))))))) aN)
   (ao (fh PassesOwn.never rfl (bw (pv 4)) (aU (i:=6) bf.nd rfl (Or.inl rfl))
   (aA (iJ (dH (pv 0) cV.cl fu gM (hr.mono (by decide)) (pc (pv 6) (pc (bD (pc ah (pc (pv 3) aj))) aj))))))
   (ao (gB (k:=7) (NY:=["key","keys","self"]) (js:=[none,some 4,some 0]) rfl bf.nd rfl rfl rfl (by with_unfolding_all rfl) (by repeat first|exact bY.nil|refine bY.cons rfl ?_) (.own (.out rfl rfl (.inl rfl) (.out rfl rfl (.inl rfl) .nil))) (bw (pv 5)) (λ_ _ _ _ _=>⟨(aU (i:=0) (show(["key","keys","self"]:List Str).Nodup from by decide +kernel) rfl (Or.inl rfl)),(ic (PW.pt (jI (aQ (wU (K:=K) rfl hu) (pv 0) (pv 1) (by with_unfolding_all rfl)) (i_ (cY (dH (pv 2) cV.cl dN gM (hr.mono (by decide)) (pc (aF (bh (K:=K) rfl) (pv 0) ah (λ_ _=>rfl)) aj))))))),(aC (gj (K:=K) rfl) (bD (pc cL aj)) (pv 0))⟩))
   (ao (gB (k:=8) (NY:=["key","self"]) (js:=[none,some 0]) rfl bf.nd rfl rfl rfl (by with_unfolding_all rfl) (by repeat first|exact bY.nil|refine bY.cons rfl ?_) (.own (.out rfl rfl (.inl rfl) .nil)) (bw (pv 4)) (λ_ _ _ _ _=>⟨(aU (i:=0) (show(["key","self"]:List Str).Nodup from by decide +kernel) rfl (Or.inl rfl)),(ic (cY (dH (pv 1) cV.cl dN gM (hr.mono (by decide)) (pc (aF (bh (K:=K) rfl) (pv 0) ah (λ_ _=>rfl)) aj)))),(aC (gj (K:=K) rfl) (aC (gj (K:=K) rfl) (bD (pc cL aj)) (pv 0)) (Gk hu1 (Gj (K:=K) rfl (pv 1)) (pv 0) (λ_ _=>rfl)))⟩))
   (aA (aM (aC sS (pv 7) (pv 8))))))))))),?_⟩
  refine aX λBq dY=>?_
  refine⟨_,rfl,x,dx,_,rfl,hx,EW p d m _ DK DK DK DK,_,rfl,x,dx,p,d,m,mk,pl,t,rfl,hx,hp,_,rfl,?_⟩
  refine aT (λhlt=>?_) (λhlt=>?_)
  ·-- too late
   refine⟨_,rfl,x,C,dx,_,_,rfl,hx,T.cl.cl,T.nS,fS p d m _,.inl ⟨rfl,_,bB.of hm⟩,_,rfl,_,rfl,_,rfl,(by show 3<=sizeLine;decide),λq hq=>?_⟩
   have s1:=av.new (o:=.tup [.str n,.int t,.int a]) hq
   refine⟨m,mx,.ref q,rfl,rfl,s1 _ _ hm,(by have:=sizeLine_eq;have:=GQ.len;lia),?_⟩
   have Dr:Kept H (upd (upd H q (.tup [.str n,.int t,.int a])) m (.lst (mx++[.ref q]))) m:=λb o e nb=>by rw[ai nb];exact s1 _ _ e
   have ZW:q≠m:=λz=>by rw[z,hm]at hq;cases hq
   have hq1:upd (upd H q (.tup [.str n,.int t,.int a])) m (.lst (mx++[.ref q])) q=some (.tup [.str n,.int t,.int a]):=by rw[ai ZW,af]
   have hm1:upd (upd H q (.tup [.str n,.int t,.int a])) m (.lst (mx++[.ref q])) m=some (.lst (mx++[.ref q])):=af
   generalize upd (upd H q (.tup [.str n,.int t,.int a])) m (.lst (mx++[.ref q]))=H1 at *
   refine⟨_,rfl,_,rfl,_,rfl,(by show 4<=sizeLine;decide),λr hr'=>⟨(by show 1<=sizeLine;decide),λl hl=>?_⟩⟩
   have s2:=(av.new (o:=.tup [.str "missed",.str n,.int t,.int a]) hr').trans (av.new (o:=.lst [.ref r]) hl)
   have UM:l≠m:=λz=>by rw[z,(av.new hr') _ _ hm1]at hl;cases hl
   have GC:Kept H (upd (upd H1 r (.tup [.str "missed",.str n,.int t,.int a])) l (.lst [.ref r])) m:=λb o e nb=>s2 _ _ (Dr b o e nb)
   have tp:=GC.tup hm (λr z=>nomatch z)
   have ZU:r≠l:=λz=>by rw[z,←z,af]at hl;cases hl
   refine kL hlt l [.ref r] _ GC (Dr.free UM ((av.new hr').free hl)) af (.cons ⟨r,rfl,by rw[ai ZU,af];rfl⟩ .nil) ⟨⟨dx,GC _ _ hx ZR⟩,GC.jG hm (λr z=>nomatch z) (λo u z=>nomatch z) hp,⟨kvs,GC _ _ hd Xv.symm,hw.keep tp⟩,⟨_,s2 _ _ hm1,(GQ.keep tp).snoc (s2 _ _ hq1)⟩,DA.nd⟩
  ·have hlt':late mk (fD pl) t=false:=Bool.eq_false_iff.mpr hlt
   subst dY
   dsimp only[pL]
   refine aX λBq dY=>?_
   refine⟨_,rfl,x,C,dx,_,_,rfl,hx,T.cl.cl,T.nP,fP p d m _,_,rfl,p,pl,t,rfl,hp,ok,ht,λOX TJ H1 s1 aaL uf T1=>⟨OX,rfl,⟨_,bB.of uf⟩,λkl VM=>?_⟩⟩
   have YU:aE id H1 TJ (Fd pl t):=T1
   have XI:=YU.len
   have OW:=sr ok t
   rw[uh,List.length_map]at XI
   refine cU (K:=K) (a:=OX) (xs:=TJ) (λi ys H'=>av H1 H'/\H' kl=some (.lst ys)/\bK H' ys ((bJ pl n t).take i)) ⟨av.new VM,af,.nil⟩ (λi ys H' h=>h.2.1) (λi ys H' _ h=>h.1.seq (bB.of uf)) ?_ ?_
   ·rintro i y ys H2 hi ⟨s2,hk2,K2⟩
    obtain⟨row,b,er,rfl,hb⟩:=YU.get hi
    rw[uh,List.getElem?_map]at er
    obtain⟨q,eq,rfl⟩:=Option.map_eq_some_iff.mp er
    have JM:(bJ pl n t).take (i+1)=(bJ pl n t).take i++[⟨n,q.1,q.2⟩]:=by
     rw[List.take_add_one]
     have:(bJ pl n t)[i]? = some ⟨n,q.1,q.2⟩:=by unfold bJ;rw[List.getElem?_map,eq];rfl
     rw[this];rfl
    refine⟨bQ rfl,?_⟩
    refine⟨_,rfl,(by show 1<=sizeLine;decide),λc hc=>?_⟩
    have s3:=av.new (o:=.tup [.str n]) hc
    refine⟨_,rfl,c,b,_,_,rfl,rfl,bg.of af,bg.of (s3 _ _ (s2 _ _ hb)),(by intro z;cases z),(by show 3<=sizeLine;decide),(λz=>nomatch z),λ_ r hr'=>?_⟩
    have s4:=s3.trans (av.new (o:=.tup ([.str n]++[.int q.1,.int q.2])) hr')
    have ZV:r≠kl:=λz=>by rw[z,s3 _ _ hk2]at hr';cases hr'
    refine⟨ys,s4 _ _ hk2,?_,?_⟩
    ·rw[K2.len,List.length_take]
     have:(bJ pl n t).length<=100:=by unfold bJ;rw[List.length_map];exact OW
     have:=sizeLine_eq
     lia
    ·refine⟨λb o e=>?_,af,?_⟩
     ·rw[ai (au e VM)]
      exact s4 _ _ (s2 _ _ e)
     ·rw[JM]
      refine bK.snoc (K2.keep λa row e=>?_) ?_
      ·rw[ai (aI e hk2 (by intro z;cases z))]
       exact s4 _ _ e
      ·rw[ai ZV,af];rfl
   ·rintro xk H2 ⟨s2,hk2,K2⟩
    have Wm:(bJ pl n t).length=TJ.length:=by unfold bJ;rw[List.length_map];exact XI.symm
    rw[←Wm,List.take_length]at K2
    have s12:=s1.trans s2
    subst dY
    dsimp only[cO]
    refine aX λBq dY=>?_
    refine⟨(by show 0<=sizeLine;decide),λml LU=>?_⟩
    have s3:=s12.trans (av.new (o:=.lst []) LU)
    have QN:upd H2 ml (.lst []) kl=some (.lst xk):=(av.new LU) _ _ hk2
    have K3:bK (upd H2 ml (.lst [])) xk (bJ pl n t):=K2.keep λa row e=>(av.new LU) _ _ e
    have VH:upd H2 ml (.lst []) ml=some (.lst []):=af
    generalize upd H2 ml (.lst [])=H3 at *
    subst dY
    dsimp only[cO]
    refine⟨λσ' H'=>∃(ET KU:Addr) (xk xm:List V) (ks mt:List Ky) (Dq:List (List Key×V)) (ud:List Wn),σ'=[some (.ref x),some (.str n),some (.int t),some (.int a),some (.ref ET),some (.ref KU),none,none,none]/\Kept H H' d/\H' ET=some (.lst xk)/\bK H' xk ks/\H' KU=some (.lst xm)/\bK H' xm mt/\
     H' d=some (.dT Dq)/\bR H' Dq ud/\ud.length+200<1000000/\(ud.map Wn.k).Nodup/\Mid pl n t ws mt ks ud/\ks.length<=100/\mt.length<=ws.length,?_,?_⟩
    ·have PX:=s3 _ _ hx
     have Jy:=s3 _ _ hd
     have PZ:bR H3 kvs ws:=hw.keep λa row e=>s3 _ _ e
     refine⟨_,rfl,x,C,dx,_,_,rfl,PX,T.cl.cl,T.nP,fP p d m _,p,pl,rfl,s3.jG hp,rfl,_,rfl,?_⟩
     refine aT (λhk=>?_) (λhk=>?_)
     ·have hk':pl.kind=("pauses":Str):=V.str.inj (of_decide_eq_true hk)
      obtain⟨L,g,rfl⟩:∃L g,pl=.pauses L g:=by
       cases pl with
       |fixed l g=>exact absurd hk' (show¬("fixed":Str)="pauses" by decide +kernel)
       |sliding l s g=>exact absurd hk' (show¬("sliding":Str)="pauses" by decide +kernel)
       |pauses l g=>exact⟨l,g,rfl⟩
      rw[qH]at K3
      obtain⟨ka,rfl,hka⟩:∃ka,xk=[.ref ka]/\H3 ka=some (.tup (Ky.v ⟨n,t,t+L⟩)):=by
       cases K3 with
       |cons r t=>
        obtain⟨ka,rfl,hka⟩:=r
        cases t
        exact⟨ka,rfl,hka⟩
      refine⟨_,rfl,x,dx,_,rfl,PX,EW p d m _ DK DK DK DK,_,rfl,kl,_,0,_,rfl,rfl,bB.of QN,rfl,x,dx,p,d,m,ka,IT mk,⟨n,t,t+L⟩,kvs,ws,rfl,PX,hka,Jy,PZ,⟨by lia,hfx⟩,λl1 zs Bh H4 s4 oF hl1 K4 pm pw=>?_⟩
      have Xi:∀k∈Bh,k.n=n/\k∈ws.map Wn.k:=λk hk=>by
       obtain⟨w,hw,rfl⟩:=List.mem_map.mp (pm.mem_iff.mp hk)
       obtain⟨h1,h2⟩:=List.mem_filter.mp hw
       unfold meet at h2
       simp only[Bool.and_eq_true,decide_eq_true_eq]at h2
       exact⟨h2.1,List.mem_map.mpr ⟨w,h1,rfl⟩⟩
      have ZM:Bh.length<=ws.length:=by
       rw[pm.length_eq,List.length_map]
       exact List.length_filter_le _ _
      have ZL:Bh.Nodup:=pm.nodup_iff.mpr (DA.nd.sublist ((List.filter_sublist).map _))
      have hk4:=s4 _ _ QN
      refine⟨_,rfl,_,rfl,l1,kl,zs,[.ref ka],rfl,rfl,hl1,hk4,?_,λc hc=>?_⟩
      ·have:=K4.len
       have:=sizeLine_eq
       simp only[List.length_singleton]
       lia
      have s5:=av.new (o:=.lst (zs++[.ref ka])) hc
      have hc5:upd H4 c (.lst (zs++[.ref ka])) c=some (.lst (zs++[.ref ka])):=af
      have K5:bK (upd H4 c (.lst (zs++[.ref ka]))) (zs++[.ref ka]) (Bh++[⟨n,t,t+L⟩]):=(K4.keep λa row e=>s5 _ _ e).snoc (s5 _ _ (s4 _ _ hka))
      generalize upd H4 c (.lst (zs++[.ref ka]))=H5 at *
      have hall:∀k∈Bh++[(⟨n,t,t+L⟩:Ky)],k.n=n:=λk hk=>by
       rcases List.mem_append.mp hk with h|h
       ·exact(Xi k h).1
       ·rw[List.mem_singleton.mp h]
      obtain⟨k0,YJ⟩:∃k0,(Bh++[(⟨n,t,t+L⟩:Ky)])[0]? = some k0:=⟨(Bh++[(⟨n,t,t+L⟩:Ky)])[0]'(by simp),by simp⟩
      have Wo:k0.n=n:=hall k0 (List.mem_of_getElem? YJ)
      refine⟨c,_,_,k0,rfl,bB.of hc5,K5,YJ,(by simp;lia),λr sM eM H6 s6 hr0 hs1 hs2 Nj SY Qf=>⟨(by show 1<=sizeLine;decide),λq hq=>?_⟩⟩
      rw[Wo]at Qf
      have WX:=(s4.trans s5).trans s6
      have s7:=av.new (o:=.lst [.ref r]) hq
      have MT:=WX.trans s7
      have Ye:upd H6 q (.lst [.ref r]) q=some (.lst [.ref r]):=af
      have Yb:upd H6 q (.lst [.ref r]) r=some (.tup (Ky.v ⟨n,sM,eM⟩)):=s7 _ _ Qf
      have Yo:upd H6 q (.lst [.ref r]) l1=some (.lst zs):=s7 _ _ (s6 _ _ (s5 _ _ hl1))
      have K7:bK (upd H6 q (.lst [.ref r])) zs Bh:=K4.keep λa row e=>s7 _ _ (s6 _ _ (s5 _ _ e))
      have Nf:q≠d:=λz=>by rw[z,WX _ _ Jy]at hq;cases hq
      have Ax:l1≠d:=λz=>by rw[z,Jy]at oF;cases oF
      generalize upd H6 q (.lst [.ref r])=H7 at *
      refine⟨_,rfl,x,dx,_,rfl,MT _ _ PX,EW p d m _ DK DK DK DK,_,rfl,_,rfl,q,[.ref r],0,_,rfl,rfl,bB.of Ye,rfl,x,dx,p,d,m,l1,r,IT mk,⟨n,sM,eM⟩,zs,Bh,kvs,ws,rfl,MT _ _ PX,Yb,Yo,K7,MT _ _ Jy,PZ.keep (λa row e=>MT _ _ e),by lia,ZL,λk hk=>(Xi k hk).2,λH8 Vi SI hd8 hw8=>?_⟩
      have WN:=SI.tups (MT _ _ Jy)
      have lM:=mF (g:=⟨n,sM,eM⟩) (ks:=Bh) (ws:=ws)
      refine⟨q,l1,[.ref r],zs,[⟨n,sM,eM⟩],Bh,Vi,bX ws Bh ⟨n,sM,eM⟩,rfl,(av.kept (s3.trans MT)).trans SI,SI _ _ Ye Nf,.cons ⟨r,rfl,WN _ _ Yb⟩ .nil,SI _ _ Yo Ax,K7.keep WN,hd8,hw8,by lia,iQ DA.nd,.inr ⟨rfl,pm,pw,sM,eM,?_,hs2 ⟨n,t,t+L⟩ (by simp),λk hk=>hs2 k (by simp[hk]),?_,SY ⟨n,t,t+L⟩ (by simp),λk hk=>SY k (by simp[hk]),rfl,rfl⟩,(by simp),ZM⟩
      ·obtain⟨k,hk,e⟩:=hs1
       rcases List.mem_append.mp hk with h|h
       ·exact .inr ⟨k,h,e⟩
       ·rw[List.mem_singleton.mp h]at e
        exact .inl e.symm
      ·obtain⟨k,hk,e⟩:=Nj
       rcases List.mem_append.mp hk with h|h
       ·exact .inr ⟨k,h,e⟩
       ·rw[List.mem_singleton.mp h]at e
        exact .inl e.symm
     ·have hk':o_ pl=false:=by
       cases pl with
       |fixed l g=>rfl
       |sliding l s g=>rfl
       |pauses l g=>exact absurd (decide_eq_true rfl) hk
      refine⟨kl,ml,xk,[],bJ pl n t,[],kvs,ws,rfl,av.kept s3,QN,K3,VH,.nil,Jy,PZ,by lia,DA.nd,.inl ⟨hk',rfl,rfl,rfl⟩,?_,Nat.zero_le _⟩
      unfold bJ
      rw[List.length_map]
      exact OW
    ·rintro σ' H4 ⟨ET,KU,TL,xm,ks,mt,Dq,ud,rfl,Na,GR,K4,xx,M4,Rb,hw4,aaE,Z_,mid,lks,lmt⟩
     have XY:=Na _ _ hx yN
     have Xx:ET≠d:=aI GR Rb (by intro z;cases z)
     have UL:KU≠d:=aI xx Rb (by intro z;cases z)
     refine aX λBq dY=>?_
     refine⟨_,rfl,ET,rfl,⟨_,bB.of GR⟩,?_⟩
     refine dQ (K:=K) (a:=ET) (xs:=TL) (λi σ H'=>∃(v:Option V) (xh:List (List Key×V)),σ=[some (.ref x),some (.str n),some (.int t),some (.int a),some (.ref ET),some (.ref KU),v,none,none]/\Kept H4 H' d/\H' d=some (.dT xh)/\bR H' xh (bP a ud (ks.take i)))
      ⟨none,Dq,rfl,Kept.refl _ _,Rb,hw4⟩ (λi σ H' _ ⟨_,_,_,kp,_⟩=>bB.of (kp _ _ GR Xx)) ?_ ?_
     ·rintro i y σ H5 hi ⟨v,xh,rfl,ES,Ra,Nd⟩
      obtain⟨kk,b,ek,rfl,hb⟩:=K4.get hi
      have Nc:=ES _ _ XY yN
      refine⟨_,rfl,x,dx,_,rfl,Nc,EW p d m _ DK DK DK DK,_,rfl,_,rfl,(by show 2<=sizeLine;decide),λq hq=>?_⟩
      have s6:=av.new (o:=.tup [.int 1,.int a]) hq
      have hl5:=kr (a:=a) (ks:=ks.take i) (ws:=ud)
      refine⟨x,dx,p,d,m,b,q,IT mk,kk.n,kk.s,kk.e,1,a,xh,_,rfl,s6 _ _ Nc,s6 _ _ (ES.tups Rb _ _ hb),af,s6 _ _ Ra,Nd.keep (λa row e=>s6 _ _ e),?_,λH6 Px kp6 VT Vt=>?_⟩
      ·rw[Nd.len]
       have:=List.length_take_le' i ks
       have:=sizeLine_eq
       lia
      ·refine⟨_,Px,rfl,(ES.trans (av.kept s6)).trans kp6,VT,?_⟩
       rw[List.take_add_one,ek]
       show bR H6 Px (bP a ud (ks.take i++[kk]))
       rw[vP]
       exact Vt
     ·rintro σ H5 ⟨v,xh,rfl,ES,Ra,Nd⟩
      rw[K4.len,List.take_length]at Nd
      have Nc:=ES _ _ XY yN
      have WO:=ES.tups Rb
      have QL:=ES _ _ GR Xx
      have xw:=ES _ _ xx UL
      have K5:=K4.keep WO
      have M5:=M4.keep WO
      subst dY
      try dsimp only[cO]
      refine aX λBq dY=>?_
      refine⟨_,rfl,KU,rfl,⟨_,bB.of xw⟩,λgl Ng=>?_⟩
      refine cU (K:=K) (a:=KU) (xs:=xm) (λi ys H'=>av H5 H'/\H' gl=some (.lst ys)/\aE dS.v H' ys (dB mk (mt.take i) ks)) ⟨av.new Ng,af,.nil⟩ (λi ys H' h=>h.2.1) (λi ys H' _ h=>h.1.seq (bB.of xw)) ?_ ?_
      ·rintro i y ys H6 hi ⟨s6,LW,G6⟩
       obtain⟨kk,b,ek,rfl,hb⟩:=M5.get hi
       refine⟨bQ rfl,?_⟩
       refine⟨_,rfl,_,rfl,ET,TL,kk.d,ks.map Ky.d,rfl,s6.seq (bB.of QL),xq (s6 _ _ hb),(K5.keep λa row e=>s6 _ _ e).Mr,?_,λbq VW=>⟨_,rfl,?_⟩⟩
       ·intro e he
        obtain⟨k',_,rfl⟩:=List.mem_map.mp he
        exact⟨rfl,Nat.le_of_ble_eq_true rfl⟩
       have JM:∀zs,dB mk (mt.take i) ks=zs->dB mk (mt.take (i+1)) ks=zs++dB mk [kk] ks:=λzs hz=>by
        rw[←hz,List.take_add_one,ek]
        exact AA ..
       have hin:bq=true↔kk∈ks:=by
        rw[VW]
        constructor
        ·intro h
         obtain⟨k',h1,h2⟩:=List.mem_map.mp h
         rw[←oZ h2]
         exact h1
        ·exact λh=>List.mem_map.mpr ⟨kk,h,rfl⟩
       refine aT (λh1=>?_) (λh1=>?_)
       ·have VE:kk∉ks:=λz=>by
         rw[hin.mpr z]at h1
         cases h1
        refine⟨_,rfl,x,dx,_,rfl,s6 _ _ Nc,EW p d m _ DK DK DK DK,_,rfl,b,_,2,_,rfl,rfl,bg.of (s6 _ _ hb),rfl,x,dx,p,d,m,mk,kk.e,rfl,s6 _ _ Nc,_,rfl,?_⟩
        refine aT (λh2=>?_) (λh2=>?_)
        ·refine⟨(by show 1<=sizeLine;decide),λc hc=>?_⟩
         have s7:=av.new (o:=.tup [.str "gone"]) hc
         refine⟨_,rfl,c,b,_,_,rfl,rfl,bg.of af,bg.of (s7 _ _ (s6 _ _ hb)),(by intro z;cases z),(by show 4<=sizeLine;decide),(λz=>nomatch z),λ_ r hr'=>?_⟩
         have s8:=s7.trans (av.new (o:=.tup ([.str "gone"]++kk.v)) hr')
         have OD:r≠gl:=λz=>by rw[z,s7 _ _ LW]at hr';cases hr'
         refine⟨ys,s8 _ _ LW,?_,λb o e=>?_,af,?_⟩
         ·rw[G6.len]
          have:=ng mk (mt.take i) ks
          have:=List.length_take_le' i mt
          have:=sizeLine_eq
          lia
         ·rw[ai (au e Ng)]
          exact s8 _ _ (s6 _ _ e)
         ·rw[JM _ rfl,vC VE h2]
          refine aE.snoc (G6.keep λa row e=>?_) ?_
          ·rw[ai (aI e LW (by intro z;cases z))]
           exact s8 _ _ e
          ·rw[ai OD,af];rfl
        ·refine⟨ys,s6,LW,?_⟩
         rw[JM _ rfl,nZ (λz=>h2 z.2),List.append_nil]
         exact G6
       ·have hiq:kk∈ks:=by
         refine hin.mp ?_
         cases bq with
         |true=>rfl
         |false=>exact absurd rfl h1
        refine⟨ys,s6,LW,?_⟩
        rw[JM _ rfl,nZ (λz=>z.1 hiq),List.append_nil]
        exact G6
      ·rintro yg H6 ⟨s6,LW,G6⟩
       rw[M5.len,List.take_length]at G6
       have Vs:=s6 _ _ Nc
       have K6:=K5.keep λa row e=>s6 _ _ e
       have QK:=s6 _ _ QL
       have VT:=s6 _ _ Ra
       have Vt:bR H6 xh (bP a ud ks):=Nd.keep λa row e=>s6 _ _ e
       subst dY
       try dsimp only[cO]
       refine aX λBq dY=>?_
       refine⟨_,rfl,ET,rfl,⟨_,bB.of QK⟩,λtl EU=>?_⟩
       refine cU (K:=K) (a:=ET) (xs:=TL) (λi ys H'=>av H6 H'/\H' tl=some (.lst ys)/\aE dS.v H' ys (dG mk (bP a ud ks) (ks.take i))) ⟨av.new EU,af,.nil⟩ (λi ys H' h=>h.2.1) (λi ys H' _ h=>h.1.seq (bB.of QK)) ?_ ?_
       ·rintro i y ys H7 hi ⟨s7,Nh,G7⟩
        obtain⟨kk,b,ek,rfl,hb⟩:=K6.get hi
        have JM:dG mk (bP a ud ks) (ks.take (i+1))=dG mk (bP a ud ks) (ks.take i)++dG mk (bP a ud ks) [kk]:=by
         rw[List.take_add_one,ek]
         exact zE ..
        refine⟨bQ rfl,?_⟩
        refine⟨_,rfl,x,dx,_,rfl,s7 _ _ Vs,EW p d m _ DK DK DK DK,_,rfl,b,_,2,_,rfl,rfl,bg.of (s7 _ _ hb),rfl,x,dx,p,d,m,mk,kk.e,rfl,s7 _ _ Vs,_,rfl,?_⟩
        refine aT (λh2=>?_) (λh2=>?_)
        ·refine⟨(by show 1<=sizeLine;decide),λc hc=>?_⟩
         have s8:=av.new (o:=.tup [.str "told"]) hc
         refine⟨_,rfl,c,b,_,_,rfl,rfl,bg.of af,bg.of (s8 _ _ (s7 _ _ hb)),(by intro z;cases z),(by show 4<=sizeLine;decide),(λz=>nomatch z),λ_ r hr'=>?_⟩
         have s9:=(av.new (o:=.tup [.str "told"]) hc).trans (av.new (o:=.tup ([.str "told"]++kk.v)) hr')
         have VA:upd (upd H7 c (.tup [.str "told"])) r (.tup ([.str "told"]++kk.v)) r=some (.tup ([.str "told"]++kk.v)):=af
         generalize upd (upd H7 c (.tup [.str "told"])) r (.tup ([.str "told"]++kk.v))=H9 at *
         have Ss:=s7.trans s9
         have hmem:kk∈(bP a ud ks).map Wn.k:=qw (.inl (List.mem_of_getElem? ek))
         rcases Vt.get kk.l with⟨_,h4⟩|⟨vv,ww,h3,h4,h5,va,rfl,h6⟩
         ·obtain⟨w,hw,ew⟩:=List.mem_map.mp hmem
          have:=List.find?_eq_none.mp h4 w hw
          exact absurd (decide_eq_true (show w.ky=kk.l by rw[Wn.Aq,ew])) this
         refine⟨_,rfl,x,C,dx,_,_,rfl,Ss _ _ Vs,T.cl.cl,T.nW,fW p d m _,_,rfl,d,.ref va,rfl,?_,?_⟩
         ·rw[←h3]
          exact ua.t (k:=kk.l) (Ss _ _ VT) (Ss _ _ hb)
         refine⟨r,va,_,_,rfl,rfl,bg.of VA,bg.of (Ss _ _ h6),(by intro z;cases z),(by show 6<=sizeLine;decide),(λz=>nomatch z),λ_ r2 hr2=>?_⟩
         have wI:=s9.trans (av.new (o:=.tup (([.str "told"]++kk.v)++[.int ww.c,.int ww.t])) hr2)
         have OD:r2≠tl:=λz=>by rw[z,s9 _ _ Nh]at hr2;cases hr2
         refine⟨ys,wI _ _ Nh,?_,λb o e=>?_,af,?_⟩
         ·rw[G7.len]
          have:=lW mk (bP a ud ks) (ks.take i)
          have:=List.length_take_le' i ks
          have:=sizeLine_eq
          lia
         ·rw[ai (au e EU)]
          exact wI _ _ (s7 _ _ e)
         ·rw[JM,uv h2 h4]
          refine aE.snoc (G7.keep λa row e=>?_) ?_
          ·rw[ai (aI e Nh (by intro z;cases z))]
           exact wI _ _ e
          ·rw[ai OD,af]
           have:kk=ww.k:=(gn (a:=ww.k) (b:=kk) h5).symm
           rw[this]
           rfl
        ·refine⟨ys,s7,Nh,?_⟩
         rw[JM,uw h2,List.append_nil]
         exact G7
       ·rintro yt H7 ⟨s7,ht7,G7⟩
        subst dY
        try dsimp only[cO]
        rw[K6.len,List.take_length]at G7
        have Nh:=s7 _ _ LW
        have lg:=ng mk mt ks
        have lt:=lW mk (bP a ud ks) ks
        have Uv:=s6.trans s7
        refine⟨_,rfl,_,rfl,gl,tl,yg,yt,rfl,rfl,Nh,ht7,?_,λl hl=>?_⟩
        ·rw[G6.len,G7.len]
         have:=sizeLine_eq
         lia
        have s8:=av.new (o:=.lst (yg++yt)) hl
        have Uu:=Uv.trans s8
        have kp:Kept H (upd H7 l (.lst (yg++yt))) d:=(Na.trans ES).trans (av.kept Uu)
        have Zm:=kp.tups hd
        have UN:l≠d:=λz=>by rw[z,Uv _ _ Ra]at hl;cases hl
        refine kN hlt' l _ _ mt ks _ mid.rel kp ((Na.trans ES).free UN (Uv.free hl)) af (((G6.keep λa row e=>s8 _ _ (s7 _ _ e))).app (G7.keep λa row e=>s8 _ _ e)) ⟨⟨dx,kp _ _ hx yN⟩,kp.jG hd (λr z=>nomatch z) (λo u z=>nomatch z) hp,⟨xh,Uu _ _ Ra,Nd.keep λa row e=>Uu _ _ e⟩,⟨mx,kp _ _ hm Xv,GQ.keep Zm⟩,iu Z_⟩
end
def stale(mk:Option Int)(t:Int):Bool:=match mk with
 |none=>false
 |some m=>decide (t<=m)
def fresh(mk:Option Int)(t:Int)(w:Wn):Bool:=decide (w.e<=t) && !closed mk w.e
def Wn.ed(w:Wn):Dv:=.tup [.int w.e,.int w.s,.str w.n]
def WW:Sh:=.tup [.int,.int,.str]
def nK(w:Wn):List V:=[.str "told",.str w.n,.int w.s,.int w.e,.int w.c,.int w.t]
def Lf(s:Stmt):Pos:=match(aG s).getLast? with
 |some (.Return (some (.Call _ _ [⟨_,.Lambda _ _ _ p,_⟩] _)) _)=>p
 |_=>⟨0,0,0,0⟩
abbrev lp:Pos:=Lf aW
abbrev lq:Str:=(envOfC "Desk.take_mark" (aq aW) 0 0 .none).qual++"<lambda>"
inductive yx(K:Fg7)(mg:Str->Option Value)(C:Addr)(Pt:Addr)(vs:List V)(H:Hp)(Q:VK):Prop
 |mk(x p d m:Addr)(pl:Pl)(mk:Option Int)(ws:List Wn)(ms:List (Str×Int×Int))(t:Int):(vs=[.ref x,.int t])->(gu K C H x p d m pl mk ws ms)->((ws.length+200<1000000/\ws.length<TS.MX))->(dJ H Pt lp lq)->(gD K mg H)->((stale mk t=true->∀(l:Addr)(H':Hp),av H H'->H l=none->H' l=some (.lst [])->Q (.ref l) H'))->((stale mk t=false->∀(l:Addr)(zs:List V)(rs:List Wn)(H':Hp),rs.Perm (ws.filter (fresh mk t))->(rs.map Wn.ed).Pairwise (λd e=>aK d e≠.gt)->(∀b o,H b=some o->b≠x->b≠Pt->H' b=some o)->H l=none->H' l=some (.lst zs)->aE nK H' zs rs->gu K C H' x p d m pl (some t) ws ms->dJ H' Pt lp lq->Q (.ref l) H'))->yx K mg C Pt vs H Q
def BY(K:Fg7)(mg:Str->Option Value)(C Pt:Addr):Sp:=λvs H Q d_=>yx K mg C Pt vs H Q
theorem BQ{K:Fg7}{C x dx p d m:Addr}{mk:Option Int}{t:Int}{H:Hp}{σ:L2.St}(T:fK K C)(hx:H x=some (.ins C dx (eS p (IT mk) d m)))(e0:σ[0]? = some (some (.ref x)))(e1:σ[1]? = some (some (.int t))){G:Bool->Hp->Prop}(h:G (stale mk t) H):
  NT (yh (MP (λx y H Q=>y=V.dI/\Q (V.bl !decide (x=V.dI)) H) (Fx K (BB 0) "mark") (tC V.dI))) (yh (MP WL (BB 1) (Fx K (BB 0) "mark"))) σ H G:=by
 refine⟨_,e0,x,C,dx,_,_,rfl,hx,T.cl.cl,T.nM,fM p d m _,rfl,_,rfl,?_⟩
 cases mk with
 |none=>exact DC h
 |some mm=>exact LF ⟨_,e1,_,e0,x,C,dx,_,_,rfl,hx,T.cl.cl,T.nM,fM p d m _,_,_,rfl,rfl,_,rfl,h⟩
theorem kP{K:Fg7}{H H':Hp}{p:Addr}{row:List V}(k1:∀a row,H a=some (.tup row)->H' a=some (.tup row))(k2:∀a o u,H a=some (.ef o u)->H' a=some (.ef o u))(h:bg K H p row):bg K H' p row:=by
 rcases h with(h|⟨o,h⟩)|h
 ·exact .inl (.inl (k1 _ _ h))
 ·exact .inl (.inr ⟨o,k2 _ _ _ h⟩)
 ·exact .inr h
theorem cX{H H':Hp}{Pt:Addr}{q:Pos}{z:Str}(h:dJ H Pt q z)(k1:∀ps,H Pt=some (.oj ps)->H' Pt=some (.oj ps))(k2:∀a o u,H a=some (.ef o u)->H' a=some (.ef o u)):dJ H' Pt q z:=by
 rcases h with h|⟨c',oc,vs,t,h1,h2,h3⟩
 ·exact .inl (k1 _ h)
 ·exact .inr ⟨c',oc,vs,t,k1 _ h1,k2 _ _ _ h2,h3⟩
theorem fm{K:Fg7}{mg:Str->Option Value}{H H':Hp}(h:gD K mg H)(k2:∀a o u,H a=some (.ef o u)->H' a=some (.ef o u)):gD K mg H':=by
 obtain⟨bm,ob,b1,b2,b3,b4⟩:=h
 exact⟨bm,ob,b1,b2,b3.elim .inl λz=>.inr (k2 _ _ _ z),b4⟩
theorem gm{H:Hp}{Pt:Addr}{q:Pos}{z:Str}(h:dJ H Pt q z):∃ps,H Pt=some (.oj ps):=by
 rcases h with h|⟨c',oc,vs,t,h1,h2,h3⟩
 ·exact⟨_,h⟩
 ·exact⟨_,h1⟩
theorem zF{H:Hp}{ys:List V}{ws:List Wn}{ps:List (V×Dv)}(h:aE nK H ys ws)(p:ps.Perm (ys.zip (ws.map Wn.ed))):∃rs,rs.Perm ws/\aE nK H (ps.map (·.1)) rs/\ps.map (·.2)=rs.map Wn.ed:=by
 have h1:Paired (λ(q:V×Dv) w=>q.2=w.ed/\∃a,q.1=.ref a/\H a=some (.tup (nK w))) (ys.zip (ws.map Wn.ed)) ws:=by
  clear p
  induction h with
  |nil=>exact .nil
  |cons r t ih=>exact .cons ⟨rfl,r⟩ ih
 obtain⟨rs,p1,p2⟩:=nT p.symm h1
 refine⟨rs,p1,?_,?_⟩
 ·clear p h1 p1
  induction p2 with
  |nil=>exact .nil
  |cons r t ih=>exact .cons r.2 ih
 ·clear p h1 p1
  induction p2 with
  |nil=>rfl
  |cons r t ih=>rw[List.map_cons,List.map_cons,ih,r.1]
section
variable {P:Program} {w:World} {K:Fg7} {mg:Str->Option Value} {C Pt:Addr}
theorem Mh(D:fY K C "take_mark" "Desk.take_mark" aW Pt)(M:MG K mg)(B:Bi K)(T:fK K C)(dN:dF P w K mg jj C "is_closed" ["self","end"] 1 (pM C)):dF P w K mg jj C "take_mark" ["self","time"] 4 (BY K mg C Pt):=by
 refine D.fn gz lJ (λvs H Q E h=>?_) (λf c base A outer s H vs Q E hcd hr h=>?_)
 ·obtain⟨x,p,d,m,pl,mk,ws,ms,t,rfl,_⟩:=h
  rfl
 ·obtain⟨x,p,d,m,pl,mk,ws,ms,t,rfl,DA,⟨hwl,hfx⟩,hT,hB,kS,kN⟩:=h
  have cV:=T.cl
  have hu1:=vB hr
  have hu:(A.deeper (envOfC "Desk.take_mark" (aq aW) s.heap.objs.size f (.ref c))).units+64<cLine:=hr.units
  have Vw:(A.deeper (envOfC "Desk.take_mark" (aq aW) s.heap.objs.size f (.ref c))).units+70<cLine:=by have:=hr.un;lia
  refine⟨_,(ao (bN (PW.pt (jI (aQ sQ (dO (pv 0) rfl) mC (aP _)) (i_ (aQ oLe (pv 1) (dO (pv 0) rfl) (aP _))))) (aA (aM (cy aj))) aN)
   (ao (F_ (gB (k:=2) (NY:=["key","tally","time","self"]) (js:=[none,none,some 1,some 0]) rfl gz.nd rfl rfl rfl (by with_unfolding_all rfl) (by repeat first|exact bY.nil|refine bY.cons rfl ?_) (.own (.own (.out rfl rfl (.inl rfl) (.out rfl rfl (.inl rfl) .nil)))) (zV (KH PySem.F.plainAttrs_dict PySem.F.slot_dict_items PySem.F.type_dict_items De (dO (pv 0) rfl))) (λ_ _ _ _ _=>⟨(Ge (n:=2) (K:=K) rfl rfl (uV (aU (i:=0) (show(["key","tally","time","self"]:List Str).Nodup from by decide +kernel) rfl (Or.inl rfl)) (uV (aU (i:=1) (show(["key","tally","time","self"]:List Str).Nodup from by decide +kernel) rfl (Or.inl rfl)) Gd))),(ic (PW.pt (jI (aQ oLe (aF (bh (K:=K) rfl) (pv 0) ah (λ_ _=>rfl)) (pv 2) (aP _)) (i_ (fJ (cY (dH (pv 3) cV.cl dN gM (hr.mono (by decide)) (pc (aF (bh (K:=K) rfl) (pv 0) ah (λ_ _=>rfl)) aj)))))))),(aC (gj (K:=K) rfl) (aC (gj (K:=K) rfl) (bD (pc cL aj)) (pv 0)) (pv 1))⟩)))
   (ao (pR (pv 0) (pv 1) rfl)
   (aA (aM (sN Vw (hr.mono (by decide)) rfl (M.no _ B.gS) (pv 2) (by with_unfolding_all rfl) (by rfl) (by rfl) hcd (by rfl) (by intros;rfl) (by exact⟨rfl,rfl,rfl,DK,rfl,DK,DK⟩) (λ_ _ _ _ _ _=>(bD (pc (aF (bh (K:=K) rfl) (pv 0) ah (λ_ _=>rfl)) (pc (aF (bh (K:=K) rfl) (pv 0) ah (λ_ _=>rfl)) (pc (aF (bh (K:=K) rfl) (pv 0) ah (λ_ _=>rfl)) aj))))))))))),?_⟩
  obtain⟨dx,hx⟩:=DA.ob
  obtain⟨kvs,hd,hw⟩:=DA.wd
  obtain⟨mx,hm,GQ⟩:=DA.ml
  have hp:=DA.pl
  refine BQ T hx rfl rfl ?_
  refine aT (λhs=>?_) (λhs=>?_)
  ·exact⟨(by show 0<=sizeLine;decide),λl hl=>kS hs l _ (av.new hl) hl af⟩
  ·have hs':stale mk t=false:=Bool.eq_false_iff.mpr hs
   refine⟨d,.dT kvs,hd,True.intro,_,rfl,x,C,dx,_,_,rfl,hx,T.cl.cl,T.nW,fW p d m _,.inr (.inr (.inl ⟨rfl,.inr ⟨kvs,hd⟩⟩)),d,kvs,rfl,rfl,hd,λv hv=>⟨v,d,kvs,rfl,af,(by rw[ai (au hd hv)];exact hd),λo=>?_⟩⟩
   intro l hl
   have ndv:d≠v:=au hd hv
   have C_:d≠l:=au af hl
   have oF:H l=none:=by
    rw[ai C_.symm]at hl
    exact(av.new hv).free hl
   have hlen:=hw.len
   have yN:x≠d:=aI hx hd (by intro z;cases z)
   refine tN (n:=kvs.length) (λi ys H'=>(∀c z,H c=some z->c≠d->H' c=some z)/\H' d=some (.ef o (.dT kvs))/\H' l=some (.lst ys)/\aE nK H' ys ((ws.take i).filter (fresh mk t))) ⟨λc z e n=>?_,?_,af,.nil⟩ ?_ ?_ ?_ ?_ ?_
   ·rw[ai (au e oF),ai n,ai (au e hv)]
    exact e
   ·rw[ai C_,af]
   ·rintro i ys H' ⟨_,_,h,_⟩
    exact h
   ·rintro i ys H' hi ⟨_,h,_⟩
    exact⟨kvs,h,hi⟩
   ·rintro ys H' ⟨_,h,_⟩
    exact⟨kvs,h,Nat.le_refl _⟩
   ·rintro i y ys H1 H2 hi ⟨kp,hfd,Ax,hk⟩ yl
    obtain⟨kk,v2,b,tq,ek,rfl,ht,hb,rfl⟩:=yl kvs hfd
    obtain⟨w,ew,rfl,a0,rfl,ha0⟩:=hw.at ek
    have st:=av.new (o:=.tup [.ref b,.ref a0]) ht
    have htk:(ws.take (i+1)).filter (fresh mk t)=(ws.take i).filter (fresh mk t)++[w].filter (fresh mk t):=by rw[List.take_add_one,ew,←List.filter_append];rfl
    have ha1:H1 a0=some (.tup [.int w.c,.int w.t]):=kp _ _ ha0 (aI ha0 hd (by intro z;cases z))
    have PY:=kp _ _ hx yN
    refine⟨tq,[.ref b,.ref a0],rfl,bg.of af,rfl,_,_,rfl,_,_,rfl,rfl,⟨rfl,λi v e=>?_⟩,?_⟩
    ·rcases i with _|_|_|_|i<;>simp[c_]at e ⊢ <;>first|exact e|skip
    refine⟨_,rfl,b,_,2,_,rfl,rfl,bg.of (st _ _ hb),rfl,_,rfl,_,_,rfl,rfl,_,rfl,?_⟩
    refine aT (λh1=>?_) (λh1=>?_)
    ·have JH:w.e<=t:=of_decide_eq_true h1
     refine⟨_,rfl,x,dx,_,rfl,st _ _ PY,EW p d m _ DK DK DK DK,_,rfl,b,_,2,_,rfl,rfl,bg.of (st _ _ hb),rfl,x,dx,p,d,m,mk,w.e,rfl,st _ _ PY,_,rfl,?_⟩
     refine aT (λh2=>?_) (λh2=>?_)
     ·have hf:[w].filter (fresh mk t)=[w]:=by
       have:fresh mk t w=true:=by unfold fresh;rw[h2,decide_eq_true JH];rfl
       simp[this]
      refine⟨(by show 1<=sizeLine;decide),λc hc=>?_⟩
      have s8:=st.trans (av.new (o:=.tup [.str "told"]) hc)
      refine⟨_,rfl,c,b,_,_,rfl,rfl,bg.of af,bg.of (s8 _ _ hb),(by intro z;cases z),(by show 4<=sizeLine;decide),(λz=>nomatch z),λ_ r hr'=>?_⟩
      have s9:=s8.trans (av.new (o:=.tup ([.str "told"]++w.ky.map kV)) hr')
      have VA:upd (upd (upd H1 tq (.tup [.ref b,.ref a0])) c (.tup [.str "told"])) r (.tup ([.str "told"]++w.ky.map kV)) r=some (.tup ([.str "told"]++w.ky.map kV)):=af
      generalize upd (upd (upd H1 tq (.tup [.ref b,.ref a0])) c (.tup [.str "told"])) r (.tup ([.str "told"]++w.ky.map kV))=H9 at *
      refine⟨_,rfl,r,a0,_,_,rfl,rfl,bg.of VA,bg.of (s9 _ _ ha1),(by intro z;cases z),(by show 6<=sizeLine;decide),(λz=>nomatch z),λ_ r2 hr2=>?_⟩
      have wI:=s9.trans (av.new (o:=.tup (([.str "told"]++w.ky.map kV)++[.int w.c,.int w.t])) hr2)
      have OD:r2≠l:=λz=>by rw[z,s9 _ _ Ax]at hr2;cases hr2
      refine⟨ys,wI _ _ Ax,?_,λc z e n=>?_,?_,af,?_⟩
      ·rw[hk.len]
       have:=List.length_filter_le (fresh mk t) (ws.take i)
       have:=List.length_take_le' i ws
       have:=sizeLine_eq
       lia
      ·rw[ai (au e oF)]
       exact wI _ _ (kp c z e n)
      ·rw[ai C_];exact wI _ _ hfd
      ·rw[htk,hf]
       refine aE.snoc (hk.keep λa row e=>?_) ?_
       ·rw[ai (aI e Ax (by intro z;cases z))]
        exact wI _ _ e
       ·rw[ai OD,af];rfl
     ·have hf:[w].filter (fresh mk t)=[]:=by
       have:¬fresh mk t w=true:=λz=>by unfold fresh at z;exact h2 ((Bool.and_eq_true _ _).mp z).2
       simp[this]
      refine⟨ys,λc z e n=>st _ _ (kp c z e n),st _ _ hfd,st _ _ Ax,?_⟩
      rw[htk,hf,List.append_nil]
      exact hk.keep λa row e=>st _ _ e
    ·have hf:[w].filter (fresh mk t)=[]:=by
      have:¬fresh mk t w=true:=λz=>by unfold fresh at z;exact h1 ((Bool.and_eq_true _ _).mp z).1
      simp[this]
     refine⟨ys,λc z e n=>st _ _ (kp c z e n),st _ _ hfd,st _ _ Ax,?_⟩
     rw[htk,hf,List.append_nil]
     exact hk.keep λa row e=>st _ _ e
   ·rintro ys H1 ⟨kp,hfd,Ax,hk⟩
    rw[hlen,List.take_length]at hk
    have PY:=kp _ _ hx yN
    have ZS:x≠l:=au hx oF
    obtain⟨Xf,JG⟩:=gm hT
    have UU:Pt≠x:=aI JG hx (by intro z;cases z)
    have nPd:Pt≠d:=aI JG hd (by intro z;cases z)
    refine⟨o,hfd,?_⟩
    refine⟨_,rfl,_,rfl,x,C,dx,_,rfl,(by rw[ai yN];exact PY),T.cl.cl,T.nM,(by show 4<1000;decide),?_⟩
    rw[UE]
    have k2:∀b z,H b=some z->b≠x->upd (upd H1 d (.dT kvs)) x (.ins C dx (eS p (.int t) d m)) b=some z:=λb z e n=>by
     rw[ai n]
     by_cases hbd:b=d
     ·subst hbd;rw[af];rw[hd]at e;exact e
     ·rw[ai hbd];exact kp b z e hbd
    have Jb:upd (upd H1 d (.dT kvs)) x (.ins C dx (eS p (.int t) d m)) x=some (.ins C dx (eS p (.int t) d m)):=af
    have hl2:upd (upd H1 d (.dT kvs)) x (.ins C dx (eS p (.int t) d m)) l=some (.lst ys):=by rw[ai ZS.symm,ai C_.symm];exact Ax
    have hk2:aE nK (upd (upd H1 d (.dT kvs)) x (.ins C dx (eS p (.int t) d m))) ys (ws.filter (fresh mk t)):=hk.keep λa row e=>by
     rw[ai (aI e PY (by intro z;cases z)),ai (aI e hfd (by intro z;cases z))];exact e
    have Rl:∀{b},upd (upd H1 d (.dT kvs)) x (.ins C dx (eS p (.int t) d m)) b=none->H b=none:=λ{b} e=>by
     cases q:H b with
     |none=>rfl
     |some z=>
      by_cases Yt:b=x
      ·rw[Yt,af]at e;cases e
      ·rw[k2 b z q Yt]at e;cases e
    generalize upd (upd H1 d (.dT kvs)) x (.ins C dx (eS p (.int t) d m))=H2 at *
    have JX:∀a row,H a=some (.tup row)->H2 a=some (.tup row):=λa row e=>k2 a _ e (aI e hx (by intro z;cases z))
    have Wi:∀a o u,H a=some (.ef o u)->H2 a=some (.ef o u):=λa o u e=>k2 a _ e (aI e hx (by intro z;cases z))
    have Mb:=k2 _ _ JG UU
    have hlk:=hk2.len
    refine⟨_,rfl,l,ys,(ws.filter (fresh mk t)).map Wn.ed,WW,rfl,bB.of hl2,cX hT (λps e=>k2 _ _ e UU) Wi,fm hB Wi,?_,(by rw[List.length_map,hlk]),?_,rfl,(by decide),?_,?_⟩
    ·rw[hlk]
     have:=List.length_filter_le (fresh mk t) ws
     exact⟨by lia,by lia⟩
    ·intro e he
     obtain⟨q,_,rfl⟩:=List.mem_map.mp he
     rfl
    ·intro i y dd H3 hy zc k3
     obtain⟨w,a,ew,rfl,ha⟩:=hk2.get hy
     rw[List.getElem?_map,ew]at zc
     cases zc
     have Rf:H3 a=some (.tup (nK w)):=k3 _ _ ha (aI ha Mb (by intro z;cases z))
     exact⟨_,rfl,a,_,3,_,rfl,rfl,bg.of Rf,rfl,_,rfl,a,_,2,_,rfl,rfl,bg.of Rf,rfl,_,rfl,a,_,1,_,rfl,rfl,bg.of Rf,rfl,(by show 3<=sizeLine;decide),λq hq=>⟨av.new hq,.tup (bg.of af) (.cons (.int _) (.cons (.int _) (.cons (.str _) .nil)))⟩⟩
    ·intro L ps H3 k3 U_ hL hL3 pm pw
     obtain⟨rs,a1,a2,a3⟩:=zF hk2 pm
     have MO:∀a row,H2 a=some (.tup row)->H3 a=some (.tup row):=λa row e=>k3 a _ e (aI e Mb (by intro z;cases z))
     have Wh:∀a o u,H2 a=some (.ef o u)->H3 a=some (.ef o u):=λa o u e=>k3 a _ e (aI e Mb (by intro z;cases z))
     have hd2:=k2 _ _ hd yN.symm
     have ZX:m≠x:=aI hm hx (by intro z;cases z)
     refine kN hs' L _ rs H3 a1 (by rw[←a3];exact pw) (λb z e n1 n2=>k3 b z (k2 b z e n1) n2) (Rl hL) hL3 (a2.keep MO) ⟨⟨dx,k3 _ _ Jb UU.symm⟩,kP MO Wh (kP JX Wi hp),⟨kvs,k3 _ _ hd2 nPd.symm,hw.keep λa row e=>MO _ _ (JX _ _ e)⟩,⟨mx,k3 _ _ (k2 _ _ hm ZX) (aI hm JG (by intro z;cases z)),GQ.keep λa row e=>MO _ _ (JX _ _ e)⟩,DA.nd⟩ U_
end
structure vR where
 make ::
 mk:Option Int
 ws:List Wn
 ms:List (Str×Int×Int)
inductive gx where
 |ev(n:Str)(t a:Int)|mk(t:Int)
def gx.v:gx->List V
 |.ev n t a=>[.str "event",.str n,.int t,.int a]
 |.mk t=>[.str "mark",.int t]
def gx.ok:gx->Prop
 |.ev _ t _=> -(10^45)<t/\t<10^45
 |.mk _=>True
def oi(pl:Pl)(st:vR):gx->List dS->vR->Prop
 |.ev n t a,out,st'=>(late st.mk (fD pl) t=true/\out=[.missed n t a]/\st'=⟨st.mk,st.ws,st.ms++[(n,t,a)]⟩)\/
   (late st.mk (fD pl) t=false/\∃mt ks cN,iY pl n t a st.ws mt ks cN/\out=dB st.mk mt ks++dG st.mk cN ks/\st'=⟨st.mk,cN,st.ms⟩)
 |.mk t,out,st'=>(stale st.mk t=true/\out=[]/\st'=st)\/
   (stale st.mk t=false/\∃rs:List Wn,rs.Perm (st.ws.filter (fresh st.mk t))/\(rs.map Wn.ed).Pairwise (λd e=>aK d e≠.gt)/\out=rs.map dS.told/\st'=⟨some t,st.ws,st.ms⟩)
inductive Runs(pl:Pl):vR->List gx->List (List dS)->vR->Prop
 |nil(st:vR):Runs pl st [] [] st
 |snoc{st st1 st2:vR}{jg:List gx}{outs:List (List dS)}{dd:gx}{out:List dS}:Runs pl st jg outs st1->oi pl st1 dd out st2->Runs pl st (jg++[dd]) (outs++[out]) st2
theorem iY.len{pl:Pl}{n:Str}{t a:Int}{ws cN:List Wn}{mt ks:List Ky}(ok:pl.ok)(h:iY pl n t a ws mt ks cN):cN.length<=ws.length+100:=by
 rcases h with⟨_,_,rfl,rfl⟩|⟨_,_,_,s,e,_,_,_,_,_,_,_,rfl⟩
 ·have h1:=kr (a:=a) (ks:=bJ pl n t) (ws:=ws)
  have h2:(bJ pl n t).length<=100:=by unfold bJ;rw[List.length_map];exact sr ok t
  show(bP a ws (bJ pl n t)).length<=_
  lia
 ·have h1:=lO (bX ws mt ⟨n,s,e⟩) n s e 1 a
  have h2:=mF (g:=⟨n,s,e⟩) (ks:=mt) (ws:=ws)
  lia
theorem oi.len{pl:Pl}{st st':vR}{dd:gx}{out:List dS}(ok:pl.ok)(h:oi pl st dd out st'):st'.ws.length<=st.ws.length+100/\st'.ms.length<=st.ms.length+1:=by
 cases dd with
 |ev n t a=>
  rcases h with⟨_,_,rfl⟩|⟨_,mt,ks,cN,h,_,rfl⟩
  ·exact⟨by show st.ws.length<=_;lia,by show(st.ms++[_]).length<=_;simp⟩
  ·exact⟨h.len ok,by show st.ms.length<=_;lia⟩
 |mk t=>
  rcases h with⟨_,_,rfl⟩|⟨_,rs,_,_,_,rfl⟩
  ·exact⟨by lia,by lia⟩
  ·exact⟨by show st.ws.length<=_;lia,by show st.ms.length<=_;lia⟩
theorem Runs.len{pl:Pl}{st st':vR}{jg:List gx}{outs:List (List dS)}(ok:pl.ok)(h:Runs pl st jg outs st'):st'.ws.length<=st.ws.length+100*jg.length/\st'.ms.length<=st.ms.length+jg.length/\outs.length=jg.length:=by
 induction h with
 |nil=>exact⟨by simp,by simp,rfl⟩
 |snoc r d ih=>
  obtain⟨h1,h2,h3⟩:=ih
  obtain⟨h4,h5⟩:=d.len ok
  simp only[List.length_append,List.length_singleton]
  lia
def rX(H H':Hp)(x d m Pt:Addr):Prop:=∀b o,H b=some o->b≠x->b≠d->b≠m->b≠Pt->H' b=some o
inductive Ig(K:Fg7)(mg:Str->Option Value)(C:Addr)(Pt:Addr)(vs:List V)(H:Hp)(Q:VK):Prop
 |mk(x p d m b:Addr)(pl:Pl)(st:vR)(dd:gx):(vs=[.ref x,.ref b])->(gu K C H x p d m pl st.mk st.ws st.ms)->(bg K H b dd.v)->(pl.ok)->(dd.ok)->((st.ws.length+200<1000000/\st.ws.length<TS.MX))->(st.ms.length<1000000)->(dJ H Pt lp lq)->(gD K mg H)->(∀(l:Addr)(zs:List V)(out:List dS)(st':vR)(H':Hp),oi pl st dd out st'->rX H H' x d m Pt->H l=none->H' l=some (.lst zs)->aE dS.v H' zs out->gu K C H' x p d m pl st'.mk st'.ws st'.ms->dJ H' Pt lp lq->Q (.ref l) H')->Ig K mg C Pt vs H Q
def NW(K:Fg7)(mg:Str->Option Value)(C Pt:Addr):Sp:=λvs H Q d_=>Ig K mg C Pt vs H Q
theorem Fq{H:Hp}{zs:List V}{rs:List Wn}(h:aE nK H zs rs):aE dS.v H zs (rs.map dS.told):=by
 induction h with
 |nil=>exact .nil
 |cons r _ ih=>exact .cons r ih
section
variable {P:Program} {w:World} {K:Fg7} {mg:Str->Option Value} {C Pt:Addr}
theorem Wj(D:bA K C "do" "Desk.do" ff)(M:MG K mg)(T:fK K C)(xT:dm K "MARK" (.str "mark"))(nH:dF P w K mg jj C "take_mark" ["self","time"] 4 (BY K mg C Pt))(lQ:dF P w K mg jj C "take_event" ["self","name","time","amount"] 4 (yF K C)):
  dF P w K mg jj C "do" ["self","deed"] 5 (NW K mg C Pt):=by
 have cV:=T.cl
 refine D.fn wG xP (λvs H Q E h=>?_) (λf base cdv A outer s H vs Q E hr h=>?_)
 ·obtain⟨x,p,d,m,b,pl,st,dd,rfl,_⟩:=h
  rfl
 ·obtain⟨x,p,d,m,b,pl,st,dd,rfl,DA,hb,ok,dok,hwl,hml,hT,hB,k⟩:=h
  obtain⟨dx,hx⟩:=DA.ob
  obtain⟨kvs,hd,hw⟩:=DA.wd
  obtain⟨mx,hm,GQ⟩:=DA.ml
  obtain⟨Xf,JG⟩:=gm hT
  have no:∀{k:Str},¬k="plan"->¬k="mark"->¬k="windows"->¬k="missed"->(eS p (IT st.mk) d m).lookup k=none:=λh1 h2 h3 h4=>EW p d m _ h1 h2 h3 h4
  refine⟨_,(ao (bN (aQ eU (aF aY (pv 1) ah (λ_ _=>rfl)) (iN xT M rfl) (aP _)) (aA (aM (dH (pv 0) cV.cl nH gM (hr.mono (by decide)) (pc (aF aY (pv 1) ah (λ_ _=>rfl)) aj)))) aN)
   (aA (aM (dH (pv 0) cV.cl lQ gM (hr.mono (by decide)) (pc (aF aY (pv 1) ah (λ_ _=>rfl)) (pc (aF aY (pv 1) ah (λ_ _=>rfl)) (pc (aF aY (pv 1) ah (λ_ _=>rfl)) aj))))))),?_⟩
  cases dd with
  |mk t=>
   refine⟨_,rfl,b,_,0,_,rfl,rfl,hb,rfl,rfl,_,rfl,?_⟩
   refine aT (λ_=>?_) (λz=>absurd (decide_eq_true rfl) z)
   refine⟨_,rfl,x,dx,_,rfl,hx,no DK DK DK DK,_,rfl,b,_,1,_,rfl,rfl,hb,rfl,x,p,d,m,pl,st.mk,st.ws,st.ms,t,rfl,DA,hwl,hT,hB,λhs l H' sm hl hl'=>?_,λhs l zs rs H' r1 r2 kp hl hl' la da lt=>?_⟩
   ·have tp:∀a row,H a=some (.tup row)->H' a=some (.tup row):=λa row e=>sm _ _ e
    exact k l _ [] st H' (.inl ⟨hs,rfl,rfl⟩) (λb o e _ _ _ _=>sm b o e) hl hl' .nil ⟨⟨dx,sm _ _ hx⟩,sm.jG DA.pl,⟨kvs,sm _ _ hd,hw.keep tp⟩,⟨mx,sm _ _ hm,GQ.keep tp⟩,DA.nd⟩ (cX hT (λps e=>sm _ _ e) λa o u e=>sm _ _ e)
   ·exact k l zs _ ⟨some t,st.ws,st.ms⟩ H' (.inr ⟨hs,rs,r1,r2,rfl,rfl⟩) (λb o e n1 _ _ n4=>kp b o e n1 n4) hl hl' (Fq la) da lt
  |ev n t a=>
   refine⟨_,rfl,b,_,0,_,rfl,rfl,hb,rfl,rfl,_,rfl,?_⟩
   refine aT (λz=>?_) (λ_=>?_)
   ·have:=V.str.inj (of_decide_eq_true z)
    exact absurd this DK
   refine⟨_,rfl,x,dx,_,rfl,hx,no DK DK DK DK,_,rfl,b,_,1,_,rfl,rfl,hb,rfl,_,rfl,b,_,2,_,rfl,rfl,hb,rfl,_,rfl,b,_,3,_,rfl,rfl,hb,rfl,x,p,d,m,pl,st.mk,st.ws,st.ms,n,t,a,rfl,DA,ok,dok,hwl,hml,λhs l zs H' kp hl hl' la da=>?_,λhs l zs H' mt ks cN er kp hl hl' la da=>?_⟩
   ·refine k l zs _ ⟨st.mk,st.ws,st.ms++[(n,t,a)]⟩ H' (.inl ⟨hs,rfl,rfl⟩) (λb o e _ _ n3 _=>kp b o e n3) hl hl' la da (cX hT (λps e=>kp _ _ e (aI e hm (by intro z;cases z))) λa o u e=>kp _ _ e (aI e hm (by intro z;cases z)))
   ·refine k l zs _ ⟨st.mk,cN,st.ms⟩ H' (.inr ⟨hs,mt,ks,cN,er,rfl,rfl⟩) (λb o e _ n2 _ _=>kp b o e n2) hl hl' la da (cX hT (λps e=>kp _ _ e (aI e hd (by intro z;cases z))) λa o u e=>kp _ _ e (aI e hd (by intro z;cases z)))
end
end K2
namespace K3
open PySem PySem.Spec PyProof.Rows L2 K1 K2
def Gm(ws:List Wn)(k:Ky):Option (Int×Int):=(cA ws k.l).map λw=>(w.c,w.t)
def Gb(o:Option (Int×Int))(c t:Int):Int×Int:=match o with
 |some p=>(p.1+c,p.2+t)
 |none=>(0+c,0+t)
theorem gR{ws:List Wn}{k:Ky}{w:Wn}(h:cA ws k.l=some w):w∈ws/\w.k=k:=by
 have h1:=List.find?_some h
 exact⟨List.mem_of_find?_eq_some h,gn (of_decide_eq_true h1)⟩
theorem eE{ws:List Wn}{k:Ky}:k∈ws.map Wn.k↔∃p,Gm ws k=some p:=by
 constructor
 ·intro h
  obtain⟨w,hw,_⟩:=nh h
  exact⟨(w.c,w.t),by unfold Gm;rw[hw];rfl⟩
 ·rintro⟨p,h⟩
  unfold Gm at h
  obtain⟨w,hw,_⟩:=Option.map_eq_some_iff.mp h
  obtain⟨h1,h2⟩:=gR hw
  exact h2▸List.mem_map_of_mem h1
theorem R_{ws:List Wn}{k:Ky}{w:Wn}(h:cA ws k.l=some w):Gm ws k=some (w.c,w.t):=by unfold Gm;rw[h];rfl
theorem tW{ws:List Wn}{k:Ky}{p:Int×Int}(h:Gm ws k=some p):∃w,cA ws k.l=some w/\w.k=k/\p=(w.c,w.t):=by
 unfold Gm at h
 obtain⟨w,hw,e⟩:=Option.map_eq_some_iff.mp h
 exact⟨w,hw,(gR hw).2,e.symm⟩
theorem pG{ws:List Wn}{k:Ky}:k∉ws.map Wn.k↔Gm ws k=none:=by
 rw[eE]
 cases Gm ws k<;>simp
theorem pA{w:Wn}:∀{ws:List Wn},(ws.map Wn.k).Nodup->w∈ws->cA ws w.k.l=some w:=by
 intro ws
 induction ws with
 |nil=>intro _ h;cases h
 |cons x xs ih=>
  intro nd h
  obtain⟨h1,h2⟩:=List.nodup_cons.mp nd
  by_cases e:x.ky=w.k.l
  ·have e':x.k=w.k:=gn e
   rcases List.mem_cons.mp h with rfl|h
   ·exact List.find?_cons_of_pos (decide_eq_true e)
   ·exact absurd (e'▸List.mem_map_of_mem h) h1
  ·rcases List.mem_cons.mp h with rfl|h
   ·exact absurd rfl e
   ·have:cA (x::xs) w.k.l=cA xs w.k.l:=List.find?_cons_of_neg (λz=>e (of_decide_eq_true z))
    rw[this]
    exact ih h2 h
theorem MN{ws:List Wn}{w:Wn}(nd:(ws.map Wn.k).Nodup)(h:w∈ws):Gm ws w.k=some (w.c,w.t):=R_ (pA nd h)
theorem IZ{k:Ky}{n:Str}{s e:Int}(h:k≠⟨n,s,e⟩):k.l≠mY n s e:=λz=>h (gn (a:=k) (b:=⟨n,s,e⟩) z)
theorem vE(a b:List Wn)(k:Ky):cA (a++b) k.l=(cA a k.l).or (cA b k.l):=List.find?_append
theorem vD(ws:List Wn)(f:Wn->Wn)(hf:∀w,(f w).ky=w.ky)(k:Ky):cA (ws.map f) k.l=(cA ws k.l).map f:=by
 unfold cA
 rw[List.find?_map]
 have:((λw:Wn=>decide (w.ky=k.l))∘f)=λw=>decide (w.ky=k.l):=by
  funext w
  show decide ((f w).ky=k.l)=_
  rw[hf]
 rw[this]
theorem oh(ws:List Wn)(n:Str)(s e c t:Int):Gm (jF ws n s e c t) ⟨n,s,e⟩=some (c,t):=by
 unfold Gm jF
 by_cases h:(ws.any λw=>decide (w.ky=mY n s e))=true
 ·rw[if_pos h,vD _ _ λw=>by split<;>rfl]
  obtain⟨w,hw,hk⟩:=List.any_eq_true.mp h
  have hm:(⟨n,s,e⟩:Ky)∈ws.map Wn.k:=by
   have:w.k=⟨n,s,e⟩:=gn (of_decide_eq_true hk)
   exact this▸List.mem_map_of_mem hw
  obtain⟨v,hv,hk2⟩:=nh hm
  rw[hv]
  have:v.ky=mY n s e:=by
   have:v.k.l=(⟨n,s,e⟩:Ky).l:=by rw[hk2]
   exact this
  simp only[Option.map_some,if_pos this]
 ·rw[if_neg h,vE,AB]
  ·show Option.map _ (cA [⟨n,s,e,c,t⟩] _)=_
   have:cA [⟨n,s,e,c,t⟩] (⟨n,s,e⟩:Ky).l=some ⟨n,s,e,c,t⟩:=List.find?_cons_of_pos (decide_eq_true rfl)
   rw[this]
   rfl
  ·intro hm
   obtain⟨w,hw,hk⟩:=List.mem_map.mp hm
   exact h (List.any_eq_true.mpr ⟨w,hw,decide_eq_true (show w.k.l=_ by rw[hk];rfl)⟩)
theorem rY{ws:List Wn}{n:Str}{s e c t:Int}{k:Ky}(hk:k≠⟨n,s,e⟩):Gm (jF ws n s e c t) k=Gm ws k:=by
 unfold Gm jF
 by_cases h:(ws.any λw=>decide (w.ky=mY n s e))=true
 ·rw[if_pos h,vD _ _ λw=>by split<;>rfl]
  cases hg:cA ws k.l with
  |none=>rfl
  |some v=>
   have hv:=(gR hg).2
   have:¬v.ky=mY n s e:=λz=>IZ hk (by rw[←hv];exact z)
   show some ((if v.ky=mY n s e then _ else v:Wn).c,(if v.ky=mY n s e then _ else v:Wn).t)=_
   rw[if_neg this]
   rfl
 ·rw[if_neg h,vE]
  have:cA [⟨n,s,e,c,t⟩] k.l=none:=List.find?_cons_of_neg (λz=>IZ hk (of_decide_eq_true z).symm)
  rw[this,Option.or_none]
theorem eN(ws:List Wn)(n:Str)(s e c t:Int):Gm (addW ws n s e c t) ⟨n,s,e⟩=some (Gb (Gm ws ⟨n,s,e⟩) c t):=by
 unfold addW
 have e1:Gm ws ⟨n,s,e⟩=(cA ws (mY n s e)).map λw=>(w.c,w.t):=rfl
 cases hg:cA ws (mY n s e)with
 |none=>rw[e1,hg];exact oh ..
 |some w=>rw[e1,hg];exact oh ..
theorem eO{ws:List Wn}{n:Str}{s e c t:Int}{k:Ky}(hk:k≠⟨n,s,e⟩):Gm (addW ws n s e c t) k=Gm ws k:=by
 unfold addW
 cases hg:cA ws (mY n s e)with
 |none=>exact rY hk
 |some w=>exact rY hk
theorem lP(ws:List Wn)(g:Ky):Gm (cM ws g.l) g=none:=by
 rw[←pG]
 intro h
 obtain⟨w,hw,hk⟩:=List.mem_map.mp h
 have:=of_decide_eq_true (List.mem_filter.mp hw).2
 exact this (show w.k.l=_ by rw[hk])
theorem AD{g k:Ky}(hk:k≠g):∀ws:List Wn,cA (cM ws g.l) k.l=cA ws k.l:=by
 intro ws
 induction ws with
 |nil=>rfl
 |cons w ws ih=>
  by_cases hw:w.ky=g.l
  ·have e1:cM (w::ws) g.l=cM ws g.l:=List.filter_cons_of_neg (λz=>(of_decide_eq_true z) hw)
   have e2:cA (w::ws) k.l=cA ws k.l:=List.find?_cons_of_neg (λz=>hk (gn ((of_decide_eq_true z).symm.trans hw)))
   rw[e1,e2,ih]
  ·have e1:cM (w::ws) g.l=w::cM ws g.l:=List.filter_cons_of_pos (decide_eq_true hw)
   rw[e1]
   unfold cA at ih ⊢
   rw[List.find?_cons,List.find?_cons,ih]
theorem kC{ws:List Wn}{g k:Ky}(hk:k≠g):Gm (cM ws g.l) k=Gm ws k:=by unfold Gm;rw[AD hk]
theorem EI{a:Int}{k:Ky}:∀{ks:List Ky}{ws:List Wn},ks.Nodup->(k∈ks->Gm (bP a ws ks) k=some (Gb (Gm ws k) 1 a))/\(k∉ks->Gm (bP a ws ks) k=Gm ws k):=by
 intro ks
 induction ks with
 |nil=>exact λ_=>⟨λh=>(nomatch h),λ_=>rfl⟩
 |cons q ks ih=>
  intro ws nd
  obtain⟨h1,h2⟩:=List.nodup_cons.mp nd
  obtain⟨i1,i2⟩:=ih (ws:=addW ws q.n q.s q.e 1 a) h2
  have e:bP a ws (q::ks)=bP a (addW ws q.n q.s q.e 1 a) ks:=rfl
  rw[e]
  refine⟨λh=>?_,λh=>?_⟩
  ·by_cases hq:k=q
   ·subst hq
    rw[i2 h1]
    exact eN ..
   ·rw[i1 ((List.mem_cons.mp h).resolve_left hq),eO hq]
  ·rw[i2 λz=>h (.tail _ z)]
   exact eO λz=>h (z▸.head _)
theorem tV{g k:Ky}(hk:k≠g):∀{mt:List Ky}{ws:List Wn},(k∈mt->Gm (bX ws mt g) k=none)/\(k∉mt->Gm (bX ws mt g) k=Gm ws k):=by
 intro mt
 induction mt with
 |nil=>exact⟨λh=>(nomatch h),λ_=>rfl⟩
 |cons q mt ih=>
  intro ws
  cases hg:cA ws q.l with
  |none=>
   have e:bX ws (q::mt) g=bX ws mt g:=by
    show bX (match cA ws q.l with|some w=>_|none=>ws) mt g=_
    rw[hg]
   rw[e]
   obtain⟨i1,i2⟩:=ih (ws:=ws)
   refine⟨λh=>?_,λh=>i2 λz=>h (.tail _ z)⟩
   by_cases hm:k∈mt
   ·exact i1 hm
   ·rw[i2 hm]
    have:k=q:=(List.mem_cons.mp h).resolve_right hm
    unfold Gm
    rw[this,hg]
    rfl
  |some w=>
   have e:bX ws (q::mt) g=bX (addW (cM ws q.l) g.n g.s g.e w.c w.t) mt g:=by
    show bX (match cA ws q.l with|some w=>addW (cM ws q.l) g.n g.s g.e w.c w.t|none=>ws) mt g=_
    rw[hg]
   rw[e]
   obtain⟨i1,i2⟩:=ih (ws:=addW (cM ws q.l) g.n g.s g.e w.c w.t)
   refine⟨λh=>?_,λh=>?_⟩
   ·by_cases hm:k∈mt
    ·exact i1 hm
    ·have:k=q:=(List.mem_cons.mp h).resolve_right hm
     subst this
     rw[i2 hm,eO hk,lP]
   ·rw[i2 λz=>h (.tail _ z),eO hk,kC (λz=>h (by rw[z];exact .head _))]
theorem EH{g:Ky}{ws:List Wn}{p:Int×Int}(h:Gm ws g=some p):Gm (bX ws [g] g) g=some p:=by
 obtain⟨w,hw,_,rfl⟩:=tW h
 have e:bX ws [g] g=addW (cM ws g.l) g.n g.s g.e w.c w.t:=by
  show(match cA ws g.l with|some w=>addW (cM ws g.l) g.n g.s g.e w.c w.t|none=>ws)=_
  rw[hw]
 rw[e,show Gm (addW (cM ws g.l) g.n g.s g.e w.c w.t) g=some (Gb (Gm (cM ws g.l) g) w.c w.t)from eN ..,lP]
 simp[Gb]
theorem Kd{pl:Pl}(ok:pl.ok)(np:o_ pl=false){t:Int}{q:Int×Int}(h:q∈EO pl t):q.1<=t/\t<q.2:=by
 obtain⟨l1,_,s1,_,_⟩:=ok
 have key:∀i:Nat,i<cnt pl t->dZ pl t+(i:Int)*pl.stp<=t/\t<dZ pl t+(i:Int)*pl.stp+pl.len:=by
  intro i hi
  unfold K1.cnt kT at hi
  have hi:i<(Km (dZ pl t) (t+1) pl.stp).toNat:=hi
  unfold Km at hi
  rw[if_pos LI]at hi
  by_cases hl:dZ pl t<t+1
  ·rw[if_pos hl]at hi
   have h1:(i:Int)<=(t+1-dZ pl t-1)/pl.stp:=by
    have:0<=(t+1-dZ pl t-1)/pl.stp:=Int.ediv_nonneg LI LI
    lia
   have h2:(i:Int)*pl.stp<=t+1-dZ pl t-1:=by
    have:=Int.mul_le_of_le_ediv (by lia:(0:Int)<pl.stp) h1
    exact this
   have h3:t-pl.len<dZ pl t:=by
    unfold dZ
    have:=Int.lt_ediv_add_one_mul_self (t-pl.len) (show 0<pl.stp by lia)
    exact this
   have h4:0<=(i:Int)*pl.stp:=Int.mul_nonneg LI LI
   lia
  ·rw[if_neg hl]at hi
   exact absurd hi (by simp)
 have go:q∈(List.range (cnt pl t)).map (λ(i:Nat)=>(dZ pl t+(i:Int)*pl.stp,dZ pl t+(i:Int)*pl.stp+pl.len))->q.1<=t/\t<q.2:=by
  intro h
  obtain⟨i,hi,rfl⟩:=List.mem_map.mp h
  exact key i (List.mem_range.mp hi)
 cases pl with
 |fixed l g=>exact go h
 |sliding l s g=>exact go h
 |pauses l g=>cases np
theorem rK{pl:Pl}(ok:pl.ok)(n:Str)(t:Int):(bJ pl n t).Nodup:=by
 have go:((List.range (cnt pl t)).map (λ(i:Nat)=>(⟨n,dZ pl t+(i:Int)*pl.stp,dZ pl t+(i:Int)*pl.stp+pl.len⟩:Ky))).Nodup:=by
  refine List.Pairwise.map _ (λi j (h:i≠j) e=>?_) List.nodup_range
  injection e with _ e _
  have e:(i:Int)*pl.stp=(j:Int)*pl.stp:=by lia
  have:=Int.eq_of_mul_eq_mul_right (by have:=ok.s1;lia) e
  exact h LI
 cases pl with
 |fixed l g=>unfold bJ EO;rw[List.map_map];exact go
 |sliding l s g=>unfold bJ EO;rw[List.map_map];exact go
 |pauses l g=>exact List.nodup_cons.mpr ⟨λh=>(nomatch h),List.Pairwise.nil⟩
structure Ev where
 n:Str
 t:Int
 a:Int
def je(k:Ky)(e:Ev):Bool:=decide (e.n=k.n)&&(decide (k.s<=e.t)&&decide (e.t<k.e))
theorem eV{k:Ky}{e:Ev}:je k e=true↔e.n=k.n/\k.s<=e.t/\e.t<k.e:=by
 unfold je
 simp only[Bool.and_eq_true,decide_eq_true_eq]
def cB(p q:Int×Int):Int×Int:=(p.1+q.1,p.2+q.2)
def uX(k:Ky)(e:Ev):Int×Int:=if je k e=true then(1,e.a)else(0,0)
def lT:List Ev->Ky->Int×Int
 |[],_=>(0,0)
 |e::aV,k=>cB (uX k e) (lT aV k)
theorem ji(p:Int×Int):cB p (0,0)=p:=by unfold cB;simp
theorem qO(p:Int×Int):cB (0,0) p=p:=by unfold cB;simp
theorem gp(p q r:Int×Int):cB (cB p q) r=cB p (cB q r):=by unfold cB;simp[Int.add_assoc]
theorem AQ(p q:Int×Int):cB p q=cB q p:=by unfold cB;rw[Int.add_comm p.1,Int.add_comm p.2]
theorem AO(p q r:Int×Int):cB p (cB q r)=cB q (cB p r):=by rw[←gp,AQ p q,gp]
theorem ye(k:Ky):∀(a b:List Ev),lT (a++b) k=cB (lT a k) (lT b k)
 |[],b=>(qO _).symm
 |e::a,b=>by
  show cB _ (lT (a++b) k)=cB (cB _ (lT a k)) _
  rw[ye k a b,gp]
theorem uy(aV:List Ev)(e:Ev)(k:Ky):lT (aV++[e]) k=cB (lT aV k) (uX k e):=by
 rw[ye]
 show cB _ (cB _ (0,0))=_
 rw[ji]
theorem ux{k:Ky}:∀{aV:List Ev},(∀e∈aV,je k e=false)->lT aV k=(0,0)
 |[],_=>rfl
 |e::aV,h=>by
  show cB (if je k e=true then _ else _) (lT aV k)=_
  rw[h e (.head _),if_neg Bool.false_ne_true,ux λx m=>h x (.tail _ m)]
  rfl
def sumK(f:Ky->Int×Int):List Ky->Int×Int
 |[]=>(0,0)
 |k::ks=>cB (f k) (sumK f ks)
theorem uB(f g:Ky->Int×Int):∀ks:List Ky,sumK (λk=>cB (f k) (g k)) ks=cB (sumK f ks) (sumK g ks)
 |[]=>rfl
 |k::ks=>by
  show cB (cB _ _) (sumK _ ks)=cB (cB _ _) (cB _ _)
  rw[uB f g ks,gp,gp,AO (g k)]
theorem qU:∀ks:List Ky,sumK (λ_=>(0,0)) ks=(0,0)
 |[]=>rfl
 |_::ks=>by
  show cB (0,0) (sumK _ ks)=_
  rw[qU ks]
  rfl
theorem uA{e:Ev}:∀{ks:List Ky},ks.Nodup->(∀k∈ks,∀q∈ks,je k e=true->je q e=true->k=q)->((∃k∈ks,je k e=true)->sumK (λk=>uX k e) ks=(1,e.a))/\((∀k∈ks,je k e=false)->sumK (λk=>uX k e) ks=(0,0))
 |[],_,_=>⟨λ⟨_,m,_⟩=>(nomatch m),λ_=>rfl⟩
 |k::ks,nd,u=>by
  obtain⟨n1,n2⟩:=List.nodup_cons.mp nd
  have ih:=uA (e:=e) n2 λk' h' q hq=>u k' (.tail _ h') q (.tail _ hq)
  refine⟨λhx=>?_,λh=>?_⟩
  ·show cB (if je k e=true then _ else _) (sumK _ ks)=_
   by_cases hk:je k e=true
   ·rw[if_pos hk,ih.2 λq hq=>?_]
    ·exact ji _
    ·cases z:je q e with
     |false=>rfl
     |true=>exact absurd (u k (.head _) q (.tail _ hq) hk z▸hq) n1
   ·rw[if_neg hk,ih.1 ?_]
    ·exact qO _
    ·obtain⟨q,hq,h⟩:=hx
     rcases List.mem_cons.mp hq with rfl|hq
     ·exact absurd h hk
     ·exact⟨q,hq,h⟩
  ·show cB (if je k e=true then _ else _) (sumK _ ks)=_
   rw[h k (.head _),if_neg Bool.false_ne_true,ih.2 λq hq=>h q (.tail _ hq)]
   rfl
theorem qS{g:Ky}{ks:List Ky}(nd:ks.Nodup):∀{aV:List Ev},(∀e∈aV,(je g e=true↔∃k∈ks,je k e=true)/\∀k∈ks,∀q∈ks,je k e=true->je q e=true->k=q)->lT aV g=sumK (lT aV) ks
 |[],_=>by
  show(0,0)=sumK (λ_=>(0,0)) ks
  exact(qU ks).symm
 |e::aV,h=>by
  show cB (uX g e) (lT aV g)=sumK (λk=>cB (uX k e) (lT aV k)) ks
  rw[uB,qS nd λx m=>h x (.tail _ m)]
  obtain⟨h1,h2⟩:=h e (.head _)
  obtain⟨s1,s2⟩:=uA (e:=e) nd h2
  by_cases hg:je g e=true
  ·rw[s1 (h1.mp hg)]
   show cB (if je g e=true then _ else _) _=_
   rw[if_pos hg]
  ·rw[s2 λk hk=>by
    cases z:je k e with
    |false=>rfl
    |true=>exact absurd (h1.mpr ⟨k,hk,z⟩) hg]
   show cB (if je g e=true then _ else _) _=_
   rw[if_neg hg]
structure dD(L:Int)(T:Int->Prop)(s e:Int):Prop where
 a:T s
 b:T (e-L)
 le:s<=e-L
 lo:∀u,T u->u<s->u<=s-L
 hi:∀u,T u->e-L<u->e<=u
 nx:∀u,T u->s<=u->u<e-L->∃v,T v/\u<v/\v<u+L/\v<=e-L
section
variable {L:Int} {T:Int->Prop} {s e s' e' u:Int}
theorem dD.lo_le(h:dD L T s e)(h':dD L T s' e')(u1:s<=u)(u3:s'<=u)(u2:u<=e-L):s'<=s:=by
 refine Int.not_lt.mp λz=>?_
 have key:∀(n:Nat)(w:Int),(s'-w).toNat<=n->T w->s<=w->w<s'->False:=by
  intro n
  induction n with
  |zero=>intro w hn _ _ hw;lia
  |succ n ih=>
   intro w hn tw sw hw
   obtain⟨v,tv,v1,v2,_⟩:=h.nx w tw sw LI
   have:=h'.lo w tw hw
   exact ih v LI tv LI LI
 exact key _ s (Nat.le_refl _) h.a (Int.le_refl _) z
theorem dD.Jv(h:dD L T s e)(h':dD L T s' e')(u3:s'<=u)(u2:u<=e-L):e'<=e:=by
 refine Int.not_lt.mp λz=>?_
 obtain⟨v,tv,v1,v2,_⟩:=h'.nx (e-L) h.b LI LI
 have:=h.hi v tv v1
 lia
theorem dD.uniq(h:dD L T s e)(h':dD L T s' e')(u1:s<=u)(u2:u<=e-L)(u3:s'<=u)(u4:u<=e'-L):s=s'/\e=e':=
 ⟨Int.le_antisymm (h'.lo_le h u3 u1 u4) (h.lo_le h' u1 u3 u2),Int.le_antisymm (h'.Jv h u1 u4) (h.Jv h' u3 u2)⟩
theorem dD.before(h:dD L T s e){t:Int}(h1:s<=t)(h2:t<e-L):∃v,T v/\t<v/\v<t+L/\v<=e-L:=by
 have key:∀(n:Nat)(w:Int),(t-w).toNat<=n->T w->s<=w->w<=t->∃v,T v/\t<v/\v<t+L/\v<=e-L:=by
  intro n
  induction n with
  |zero=>
   intro w hn tw sw wt
   obtain⟨v,tv,v1,v2,v3⟩:=h.nx w tw sw LI
   exact⟨v,tv,by lia,by lia,v3⟩
  |succ n ih=>
   intro w hn tw sw wt
   obtain⟨v,tv,v1,v2,v3⟩:=h.nx w tw sw LI
   by_cases z:v<=t
   ·exact ih v LI tv LI z
   ·exact⟨v,tv,by lia,by lia,v3⟩
 exact key _ s (Nat.le_refl _) h.a (Int.le_refl _) h1
end
def AU(pl:Pl)(s e:Int):Prop:=(∃q,s=q*pl.stp)/\e=s+pl.len
theorem oY{pl:Pl}(ok:pl.ok)(np:o_ pl=false){t:Int}{q:Int×Int}:q∈EO pl t↔AU pl q.1 q.2/\q.1<=t/\t<q.2:=by
 have hs:EO pl t=(List.range (cnt pl t)).map λ(i:Nat)=>(dZ pl t+(i:Int)*pl.stp,dZ pl t+(i:Int)*pl.stp+pl.len):=by
  cases pl with
  |fixed l g=>rfl
  |sliding l s g=>rfl
  |pauses l g=>cases np
 have s1:=ok.s1
 constructor
 ·intro h
  refine⟨?_,Kd ok np h⟩
  rw[hs]at h
  obtain⟨i,_,rfl⟩:=List.mem_map.mp h
  exact⟨⟨(t-pl.len)/pl.stp+1+i,by show dZ pl t+(i:Int)*pl.stp=_;unfold dZ;rw[Int.add_mul (_+1)]⟩,rfl⟩
 ·rintro⟨⟨⟨m,e1⟩,e2⟩,h1,h2⟩
  rw[hs]
  have hm:(t-pl.len)/pl.stp<m:=Int.ediv_lt_of_lt_mul LI LI
  have e3:dZ pl t+((m-((t-pl.len)/pl.stp+1)).toNat:Int)*pl.stp=q.1:=by
   have:((m-((t-pl.len)/pl.stp+1)).toNat:Int)=m-((t-pl.len)/pl.stp+1):=by lia
   rw[this]
   unfold dZ
   rw[e1,←Int.add_mul]
   congr 1
   lia
  refine List.mem_map.mpr ⟨(m-((t-pl.len)/pl.stp+1)).toNat,List.mem_range.mpr ?_,?_⟩
  ·generalize (m-((t-pl.len)/pl.stp+1)).toNat=i at e3
   have hnn:0<=(i:Int)*pl.stp:=Int.mul_nonneg LI LI
   have hi:(i:Int)<=(t+1-dZ pl t-1)/pl.stp:=(Ld s1).mp LI
   show i<(Km (dZ pl t) (t+1) pl.stp).toNat
   unfold Km
   rw[if_pos LI,if_pos LI]
   lia
  ·obtain⟨q1,q2⟩:=q
   simp only at e3 e2
   rw[e3,e2]
def eW(aV:List Ev)(n:Str)(u:Int):Prop:=∃e∈aV,e.n=n/\e.t=u
structure Tab(pl:Pl)(aV:List Ev)(ws:List Wn):Prop where
 nd:(ws.map Wn.k).Nodup
 val:∀k p,Gm ws k=some p->p=lT aV k
 gr:o_ pl=false->∀k∈ws.map Wn.k,AU pl k.s k.e/\∃e∈aV,je k e=true
 gc:o_ pl=false->∀e∈aV,∀k:Ky,AU pl k.s k.e->je k e=true->k∈ws.map Wn.k
 pr:o_ pl=true->∀k∈ws.map Wn.k,dD pl.len (eW aV k.n) k.s k.e
 pc:o_ pl=true->∀e∈aV,∃k∈ws.map Wn.k,k.n=e.n/\k.s<=e.t/\e.t<=k.e-pl.len
theorem Tab.nil(pl:Pl):Tab pl [] []:=⟨.nil,λ_ _ h=>(nomatch h),λ_ _ h=>(nomatch h),λ_ _ h=>(nomatch h),λ_ _ h=>(nomatch h),λ_ _ h=>(nomatch h)⟩
theorem oX{α:Type}:∀{l m:List α},l.Nodup->m.Nodup->(∀a,a∈l↔a∈m)->l.Perm m
 |[],m,_,_,h=>by
  cases m with
  |nil=>exact .nil
  |cons b m=>exact(nomatch (h b).mpr (.head _))
 |a::l,m,hl,hm,h=>by
  obtain⟨h1,h2⟩:=List.nodup_cons.mp hl
  obtain⟨m1,m2,rfl⟩:=List.append_of_mem ((h a).mp (.head _))
  have pm:(m1++a::m2).Perm (a::(m1++m2)):=List.perm_middle
  obtain⟨n1,n2⟩:=List.nodup_cons.mp (pm.nodup_iff.mp hm)
  refine .trans (.cons a (oX h2 n2 λb=>⟨λhb=>?_,λhb=>?_⟩)) pm.symm
  ·rcases List.mem_cons.mp (pm.mem_iff.mp ((h b).mp (.tail _ hb)))with z|z
   ·exact absurd (z▸hb) h1
   ·exact z
  ·rcases List.mem_cons.mp ((h b).mpr (pm.mem_iff.mpr (.tail _ hb)))with z|z
   ·exact absurd (z▸hb) n1
   ·exact z
theorem jN{ws:List Wn}(h:(ws.map Wn.k).Nodup):ws.Nodup:=by
 refine List.Pairwise.of_map Wn.k (λa b z e=>z (by rw[e])) h
theorem Tab.keys{pl:Pl}{aV:List Ev}{ws cN:List Wn}(h:Tab pl aV ws)(h':Tab pl aV cN){k:Ky}(m:k∈ws.map Wn.k):k∈cN.map Wn.k:=by
 cases ip:o_ pl with
 |false=>
  obtain⟨g,e,me,hi⟩:=h.gr ip k m
  exact h'.gc ip e me k g hi
 |true=>
  have p:=h.pr ip k m
  obtain⟨e,me,en,et⟩:=p.a
  obtain⟨k',m',kn,k1,k2⟩:=h'.pc ip e me
  have p':=h'.pr ip k' m'
  rw[kn,en]at p'
  rw[et]at k1 k2
  obtain⟨q1,q2⟩:=p.uniq p' (Int.le_refl _) p.le k1 k2
  have:k=k':=by
   obtain⟨a,b,c⟩:=k
   obtain⟨a',b',c'⟩:=k'
   simp only at q1 q2 kn en
   rw[q1,q2,kn,en]
  rw[this];exact m'
theorem Tab.uniq{pl:Pl}{aV:List Ev}{ws cN:List Wn}(h:Tab pl aV ws)(h':Tab pl aV cN):ws.Perm cN:=by
 have half:∀{ws cN:List Wn},Tab pl aV ws->Tab pl aV cN->∀w,w∈ws->w∈cN:=λ{ws cN} h h' w m=>by
  have mk:=h.keys h' (List.mem_map_of_mem (f:=Wn.k) m)
  obtain⟨p,hp⟩:=eE.mp mk
  obtain⟨w',Vv,ek,ep⟩:=tW hp
  have e1:=h.val _ _ (MN h.nd m)
  have e2:=h'.val _ _ hp
  rw[ep]at e2
  have:w=w':=by
   have e3:=e1.trans e2.symm
   obtain⟨a,b,c,d,f⟩:=w
   obtain⟨a',b',c',d',f'⟩:=w'
   injection ek with k1 k2 k3
   injection e3 with v1 v2
   simp only at v1 v2
   subst k1 k2 k3 v1 v2
   rfl
  rw[this]
  exact(gR Vv).1
 exact oX (jN h.nd) (jN h'.nd) λw=>⟨half h h' w,half h' h w⟩
theorem iX{a:Int}{ks:List Ky}{ws:List Wn}(nd:ks.Nodup)(k:Ky):k∈(bP a ws ks).map Wn.k↔k∈ks\/k∈ws.map Wn.k:=by
 obtain⟨g1,g2⟩:=EI (a:=a) (k:=k) (ws:=ws) nd
 rw[eE,eE]
 by_cases h:k∈ks
 ·exact⟨λ_=>.inl h,λ_=>⟨_,g1 h⟩⟩
 ·rw[g2 h]
  exact⟨.inr,λz=>z.resolve_left h⟩
theorem BA{pl:Pl}(ok:pl.ok)(np:o_ pl=false){aV:List Ev}{ws:List Wn}{n:Str}{t a:Int}(h:Tab pl aV ws):Tab pl (aV++[⟨n,t,a⟩]) (bP a ws (bJ pl n t)):=by
 have nd:=rK ok n t
 have mem:∀k:Ky,k∈bJ pl n t↔AU pl k.s k.e/\je k ⟨n,t,a⟩=true:=λk=>by
  rw[eV]
  unfold bJ
  constructor
  ·intro m
   obtain⟨q,hq,rfl⟩:=List.mem_map.mp m
   obtain⟨h1,h2,h3⟩:=(oY ok np).mp hq
   exact⟨h1,rfl,h2,h3⟩
  ·rintro⟨h1,h2,h3,h4⟩
   refine List.mem_map.mpr ⟨(k.s,k.e),(oY ok np).mpr ⟨h1,h3,h4⟩,?_⟩
   have:n=k.n:=h2
   rw[this]
 have no:o_ pl=true->False:=λz=>by rw[np]at z;cases z
 refine⟨iu h.nd,λk p g=>?_,λ_ k m=>?_,λ_ e m k gd hi=>?_,λz=>(no z).elim,λz=>(no z).elim⟩
 ·obtain⟨g1,g2⟩:=EI (a:=a) (k:=k) (ws:=ws) nd
  rw[uy]
  by_cases hk:k∈bJ pl n t
  ·rw[g1 hk]at g
   obtain⟨gd,hi⟩:=(mem k).mp hk
   show p=cB _ (if je k _=true then _ else _)
   rw[if_pos hi,←Option.some.inj g]
   cases hg:Gm ws k with
   |some q=>rw[h.val k q hg];rfl
   |none=>
    rw[ux λe me=>by
     cases z:je k e with
     |false=>rfl
     |true=>exact absurd (h.gc np e me k gd z) (pG.mpr hg)]
    rfl
  ·rw[g2 hk]at g
   show p=cB _ (if je k _=true then _ else _)
   rw[if_neg λz=>hk ((mem k).mpr ⟨(h.gr np k (eE.mpr ⟨_,g⟩)).1,z⟩),ji]
   exact h.val k p g
 ·rcases(iX nd k).mp m with z|z
  ·obtain⟨gd,hi⟩:=(mem k).mp z
   exact⟨gd,_,List.mem_append_right _ (.head _),hi⟩
  ·obtain⟨gd,e,me,hi⟩:=h.gr np k z
   exact⟨gd,e,List.mem_append_left _ me,hi⟩
 ·rw[iX nd]
  rcases List.mem_append.mp m with z|z
  ·exact .inr (h.gc np e z k gd hi)
  ·rw[List.mem_singleton]at z
   subst z
   exact .inl ((mem k).mpr ⟨gd,hi⟩)
section
variable {L t s0 e0:Int} {T:Int->Prop} {P:Int->Int->Prop}
theorem Au(hL:1<=L)(hP:∀s e,P s e->dD L T s e)(hc:∀u,T u->∃s e,P s e/\s<=u/\u<=e-L)(s1:s0=t\/∃e,P s0 e/\s0<t+L/\t<e)(s2:s0<=t)(s3:∀s e,P s e->s<t+L->t<e->s0<=s)
  (e1:e0=t+L\/∃s,P s e0/\s<t+L/\t<e0)(e2:t+L<=e0)(e3:∀s e,P s e->s<t+L->t<e->e<=e0):dD L (λu=>T u\/u=t) s0 e0 where
 a:=by
  rcases s1 with z|⟨e,p,_⟩
  ·exact .inr z
  ·exact .inl (hP _ _ p).a
 b:=by
  rcases e1 with z|⟨s,p,_⟩
  ·exact .inr LI
  ·exact .inl (hP _ _ p).b
 le:=by lia
 lo:=by
  rintro u (tu|rfl) hu
  ·obtain⟨s,e,p,h1,h2⟩:=hc u tu
   have hp:=hP _ _ p
   by_cases hm:s<t+L/\t<e
   ·have:=s3 s e p hm.1 hm.2
    lia
   ·rcases s1 with z|⟨e',p',_⟩
    ·lia
    ·exact(hP _ _ p').lo u tu hu
  ·lia
 hi:=by
  rintro u (tu|rfl) hu
  ·obtain⟨s,e,p,h1,h2⟩:=hc u tu
   have hp:=hP _ _ p
   by_cases hm:s<t+L/\t<e
   ·have:=e3 s e p hm.1 hm.2
    lia
   ·rcases e1 with z|⟨s',p',_⟩
    ·lia
    ·exact(hP _ _ p').hi u tu hu
  ·lia
 nx:=by
  have new:∀s e,P s e->s<t+L->t<e->t<e-L->∃v,(T v\/v=t)/\t<v/\v<t+L/\v<=e-L:=λs e p h1 h2 h3=>by
   have hp:=hP _ _ p
   by_cases hs:t<s
   ·exact⟨s,.inl hp.a,hs,h1,hp.le⟩
   ·obtain⟨v,tv,v1,v2,v3⟩:=hp.before LI h3
    exact⟨v,.inl tv,v1,v2,v3⟩
  rintro u (tu|rfl) h1 h2
  ·obtain⟨s,e,p,h3,h4⟩:=hc u tu
   have hp:=hP _ _ p
   by_cases hm:s<t+L/\t<e
   ·by_cases hl:u<e-L
    ·obtain⟨v,tv,v1,v2,v3⟩:=hp.nx u tu h3 hl
     have:=e3 s e p hm.1 hm.2
     exact⟨v,.inl tv,v1,v2,by lia⟩
    ·by_cases ht:u<t
     ·exact⟨t,.inr rfl,ht,by lia,by lia⟩
     ·rcases e1 with z|⟨s',p',h5,h6⟩
      ·lia
      ·have s_:=hP _ _ p'
       by_cases hs':s'<=u
       ·have:=(hp.uniq s_ h3 h4 hs' LI).2
        lia
       ·have:=hp.hi s' s_.a LI
        lia
   ·by_cases hq:e<=t
    ·rcases s1 with z|⟨e',p',h5,h6⟩
     ·lia
     ·have s_:=hP _ _ p'
      have:=hp.uniq s_ h3 h4 h1 LI
      lia
    ·rcases e1 with z|⟨s',p',h5,h6⟩
     ·lia
     ·have s_:=hP _ _ p'
      have:=hp.uniq s_ h3 h4 LI LI
      lia
  ·rcases e1 with z|⟨s',p',h5,h6⟩
   ·lia
   ·exact new s' e0 p' h5 h6 h2
theorem zI(hL:1<=L){s e:Int}(h:dD L T s e)(hm:¬(s<t+L/\t<e)):dD L (λu=>T u\/u=t) s e where
 a:=.inl h.a
 b:=.inl h.b
 le:=h.le
 lo:=by
  have:=h.le
  rintro u (tu|rfl) hu
  ·exact h.lo u tu hu
  ·lia
 hi:=by
  have:=h.le
  rintro u (tu|rfl) hu
  ·exact h.hi u tu hu
  ·lia
 nx:=by
  rintro u (tu|rfl) h1 h2
  ·obtain⟨v,tv,r⟩:=h.nx u tu h1 h2
   exact⟨v,.inl tv,r⟩
  ·lia
theorem GJ(hL:1<=L)(hP:∀s e,P s e->dD L T s e)(hc:∀u,T u->∃s e,P s e/\s<=u/\u<=e-L)(s1:s0=t\/∃e,P s0 e/\s0<t+L/\t<e)(s2:s0<=t)
  (e1:e0=t+L\/∃s,P s e0/\s<t+L/\t<e0)(e2:t+L<=e0){u:Int}(tu:T u)(h1:s0<=u)(h2:u<e0):∃s e,P s e/\s<t+L/\t<e/\s<=u/\u<e:=by
 obtain⟨s,e,p,h3,h4⟩:=hc u tu
 have hp:=hP _ _ p
 by_cases hm:s<t+L/\t<e
 ·exact⟨s,e,p,hm.1,hm.2,h3,by lia⟩
 ·exfalso
  by_cases hq:e<=t
  ·rcases s1 with z|⟨e',p',h5,h6⟩
   ·lia
   ·have:=hp.uniq (hP _ _ p') h3 h4 h1 LI
    lia
  ·rcases e1 with z|⟨s',p',h5,h6⟩
   ·lia
   ·have s_:=hP _ _ p'
    have hle:u<=e0-L:=Int.not_lt.mp λz=>by have:=s_.hi u tu z;lia
    have:=hp.uniq s_ h3 h4 LI hle
    lia
end
theorem EG{g:Ky}{f:Ky->Int×Int}:∀{mt:List Ky}{ws:List Wn},mt.Nodup->g∉mt->(∀k∈mt,Gm ws k=some (f k))->Gm (bX ws mt g) g=if mt=[]then Gm ws g else some (Gb (Gm ws g) (sumK f mt).1 (sumK f mt).2):=by
 intro mt
 induction mt with
 |nil=>intro ws _ _ _;rfl
 |cons q mt ih=>
  intro ws nd hg hv
  obtain⟨n1,n2⟩:=List.nodup_cons.mp nd
  obtain⟨w,hw,_,ew⟩:=tW (hv q (.head _))
  have e:bX ws (q::mt) g=bX (addW (cM ws q.l) g.n g.s g.e w.c w.t) mt g:=by
   show bX (match cA ws q.l with|some w=>addW (cM ws q.l) g.n g.s g.e w.c w.t|none=>ws) mt g=_
   rw[hw]
  have gq:g≠q:=λz=>hg (z▸.head _)
  have g1:Gm (addW (cM ws q.l) g.n g.s g.e w.c w.t) g=some (Gb (Gm ws g) w.c w.t):=by
   rw[show Gm (addW (cM ws q.l) g.n g.s g.e w.c w.t) g=some (Gb (Gm (cM ws q.l) g) w.c w.t)from eN ..,kC gq]
  rw[e,ih n2 (λz=>hg (.tail _ z)) λk hk=>by
   have kq:k≠q:=λz=>n1 (z▸hk)
   have kg:k≠g:=λz=>hg (z▸.tail _ hk)
   rw[eO (n:=g.n) (s:=g.s) (e:=g.e) kg,kC kq]
   exact hv k (.tail _ hk),g1,if_neg (show¬q::mt=[]from λz=>nomatch z)]
  have ec:sumK f (q::mt)=cB (w.c,w.t) (sumK f mt):=by show cB (f q) _=_;rw[ew]
  rw[ec]
  by_cases hn:mt=[]
  ·rw[if_pos hn,hn]
   show some (Gb (Gm ws g) w.c w.t)=some (Gb (Gm ws g) (w.c+0) (w.t+0))
   rw[Int.add_zero,Int.add_zero]
  ·rw[if_neg hn]
   cases Gm ws g with
   |none=>
    show some ((0+w.c+(sumK f mt).1,0+w.t+(sumK f mt).2):Int×Int)=some (0+(w.c+(sumK f mt).1),0+(w.t+(sumK f mt).2))
    simp only[Int.add_assoc]
   |some p=>
    show some ((p.1+w.c+(sumK f mt).1,p.2+w.t+(sumK f mt).2):Int×Int)=some (p.1+(w.c+(sumK f mt).1),p.2+(w.t+(sumK f mt).2))
    simp only[Int.add_assoc]
theorem zG{pl:Pl}(ok:pl.ok)(ip:o_ pl=true){aV:List Ev}{ws cN:List Wn}{n:Str}{t a s e:Int}{mt:List Ky}(h:Tab pl aV ws)(pm:mt.Perm ((ws.filter (meet ⟨n,t,t+pl.len⟩)).map Wn.k))
  (s1:s=t\/∃k∈mt,k.s=s)(s2:s<=t)(s3:∀k∈mt,s<=k.s)(e1:e=t+pl.len\/∃k∈mt,k.e=e)(e2:t+pl.len<=e)(e3:∀k∈mt,k.e<=e)(hw:cN=addW (bX ws mt ⟨n,s,e⟩) n s e 1 a):
  Tab pl (aV++[⟨n,t,a⟩]) cN:=by
 have hL:=ok.l1
 have nd:mt.Nodup:=pm.nodup_iff.mpr (h.nd.sublist ((List.filter_sublist).map _))
 have mem:∀k:Ky,k∈mt↔k∈ws.map Wn.k/\k.n=n/\k.s<t+pl.len/\t<k.e:=λk=>by
  rw[pm.mem_iff]
  constructor
  ·intro m
   obtain⟨w,hw,rfl⟩:=List.mem_map.mp m
   obtain⟨h1,h2⟩:=List.mem_filter.mp hw
   unfold meet at h2
   simp only[Bool.and_eq_true,decide_eq_true_eq]at h2
   exact⟨List.mem_map_of_mem h1,h2⟩
  ·rintro⟨h1,h2⟩
   obtain⟨w,hw,rfl⟩:=List.mem_map.mp h1
   refine List.mem_map_of_mem (List.mem_filter.mpr ⟨hw,?_⟩)
   unfold meet
   simp only[Bool.and_eq_true,decide_eq_true_eq]
   exact h2
 have ky:∀k:Ky,k.n=n->k=⟨n,k.s,k.e⟩:=λk z=>by rw[←z]
 have hP:∀s e,(⟨n,s,e⟩:Ky)∈ws.map Wn.k->dD pl.len (eW aV n) s e:=λs e m=>h.pr ip _ m
 have hc:∀u,eW aV n u->∃s e,(⟨n,s,e⟩:Ky)∈ws.map Wn.k/\s<=u/\u<=e-pl.len:=by
  rintro u ⟨x,mx,xn,rfl⟩
  obtain⟨k,mk,kn,k1,k2⟩:=h.pc ip x mx
  exact⟨k.s,k.e,ky k (kn.trans xn)▸mk,k1,k2⟩
 have s1':s=t\/∃e,(⟨n,s,e⟩:Ky)∈ws.map Wn.k/\s<t+pl.len/\t<e:=by
  rcases s1 with z|⟨k,mk,rfl⟩
  ·exact .inl z
  ·obtain⟨h1,h2,h3,h4⟩:=(mem k).mp mk
   exact .inr ⟨k.e,ky k h2▸h1,h3,h4⟩
 have YO:e=t+pl.len\/∃s,(⟨n,s,e⟩:Ky)∈ws.map Wn.k/\s<t+pl.len/\t<e:=by
  rcases e1 with z|⟨k,mk,rfl⟩
  ·exact .inl z
  ·obtain⟨h1,h2,h3,h4⟩:=(mem k).mp mk
   exact .inr ⟨k.s,ky k h2▸h1,h3,h4⟩
 have ZC:∀q r,(⟨n,q,r⟩:Ky)∈ws.map Wn.k->q<t+pl.len->t<r->s<=q:=λq r m h1 h2=>s3 _ ((mem ⟨n,q,r⟩).mpr ⟨m,rfl,h1,h2⟩)
 have e3':∀q r,(⟨n,q,r⟩:Ky)∈ws.map Wn.k->q<t+pl.len->t<r->r<=e:=λq r m h1 h2=>e3 _ ((mem ⟨n,q,r⟩).mpr ⟨m,rfl,h1,h2⟩)
 have J:=Au hL hP hc s1' s2 ZC YO e2 e3'
 have Tn:eW (aV++[⟨n,t,a⟩]) n=λu=>eW aV n u\/u=t:=funext λu=>propext ⟨λ⟨x,mx,xn,xt⟩=>by
   rcases List.mem_append.mp mx with z|z
   ·exact .inl ⟨x,z,xn,xt⟩
   ·rw[List.mem_singleton]at z
    subst z
    exact .inr xt.symm,λz=>by
   rcases z with⟨x,mx,r⟩|rfl
   ·exact⟨x,List.mem_append_left _ mx,r⟩
   ·exact⟨_,List.mem_append_right _ (.head _),rfl,rfl⟩⟩
 have To:∀m,m≠n->eW (aV++[⟨n,t,a⟩]) m=eW aV m:=λm hm=>funext λu=>propext ⟨λ⟨x,mx,xn,xt⟩=>by
   rcases List.mem_append.mp mx with z|z
   ·exact⟨x,z,xn,xt⟩
   ·rw[List.mem_singleton]at z
    subst z
    exact absurd xn.symm hm,λ⟨x,mx,r⟩=>⟨x,List.mem_append_left _ mx,r⟩⟩
 have gt:je ⟨n,s,e⟩ ⟨n,t,a⟩=true:=eV.mpr ⟨rfl,s2,by show t<e;lia⟩
 have parts:lT aV ⟨n,s,e⟩=sumK (lT aV) mt:=qS nd λx mx=>by
  have back:∀k∈mt,je k x=true->k.n=x.n/\k.s<=x.t/\x.t<=k.e-pl.len/\dD pl.len (eW aV n) k.s k.e:=λk mk hk=>by
   obtain⟨h1,h2,h3,h4⟩:=(mem k).mp mk
   obtain⟨i1,i2,i3⟩:=eV.mp hk
   have sp:=hP k.s k.e (ky k h2▸h1)
   refine⟨i1.symm,i2,Int.not_lt.mp λz=>?_,sp⟩
   have:=sp.hi x.t ⟨x,mx,i1.trans h2,rfl⟩ z
   lia
  refine⟨⟨λhx=>?_,λ⟨k,mk,hk⟩=>?_⟩,λk mk q mq hk hq=>?_⟩
  ·obtain⟨i1,i2,i3⟩:=eV.mp hx
   obtain⟨s',e',p,h1,h2,h3,h4⟩:=GJ hL hP hc s1' s2 YO e2 (u:=x.t) ⟨x,mx,i1,rfl⟩ i2 i3
   exact⟨⟨n,s',e'⟩,(mem _).mpr ⟨p,rfl,h1,h2⟩,eV.mpr ⟨i1,h3,h4⟩⟩
  ·obtain⟨h1,h2,h3,h4⟩:=(mem k).mp mk
   obtain⟨i1,i2,i3⟩:=eV.mp hk
   have a1:=s3 k mk
   have a2:=e3 k mk
   exact eV.mpr ⟨i1.trans h2,by show s<=x.t;lia,by show x.t<e;lia⟩
  ·obtain⟨a1,a2,a3,a4⟩:=back k mk hk
   obtain⟨b1,b2,b3,b4⟩:=back q mq hq
   obtain⟨q1,q2⟩:=a4.uniq b4 a2 a3 b2 b3
   rw[ky k ((mem k).mp mk).2.1,ky q ((mem q).mp mq).2.1,q1,q2]
 have vals:∀k∈mt,Gm ws k=some (lT aV k):=λk mk=>by
  obtain⟨p,hp⟩:=eE.mp ((mem k).mp mk).1
  rw[hp,h.val k p hp]
 have vg:Gm cN ⟨n,s,e⟩=some (cB (lT aV ⟨n,s,e⟩) (1,a)):=by
  rw[hw,eN]
  congr 1
  by_cases hg:(⟨n,s,e⟩:Ky)∈mt
  ·have all:∀k∈mt,k=⟨n,s,e⟩:=λk mk=>by
    obtain⟨h1,h2,h3,h4⟩:=(mem k).mp mk
    have p1:=hP k.s k.e (ky k h2▸h1)
    have p2:=hP s e ((mem _).mp hg).1
    have a1:=s3 k mk
    have a2:=e3 k mk
    have a3:=p1.le
    obtain⟨q1,q2⟩:=p1.uniq p2 (Int.le_refl _) p1.le a1 LI
    rw[ky k h2,q1,q2]
   have em:mt=[⟨n,s,e⟩]:=by
    cases mt with
    |nil=>exact(nomatch hg)
    |cons q r=>
     have z1:=all q (.head _)
     cases r with
     |nil=>rw[z1]
     |cons q2 r=>
      have z2:=all q2 (.tail _ (.head _))
      exact absurd (show q∈q2::r by rw[z1,z2];exact .head _) (List.nodup_cons.mp nd).1
   have g1:=vals _ hg
   rw[em,EH g1]
   rfl
  ·have gk:Gm ws ⟨n,s,e⟩=none:=pG.mp λz=>hg ((mem _).mpr ⟨z,rfl,by show s<_;lia,by show t<e;lia⟩)
   rw[EG (f:=lT aV) nd hg vals,gk,parts]
   by_cases hn:mt=[]
   ·rw[if_pos hn,hn]
    rfl
   ·rw[if_neg hn]
    show((0+(sumK (lT aV) mt).1+1,0+(sumK (lT aV) mt).2+a):Int×Int)=_
    rw[Int.zero_add,Int.zero_add]
    rfl
 have vo:∀k:Ky,k≠⟨n,s,e⟩->(k∈mt->Gm cN k=none)/\(k∉mt->Gm cN k=Gm ws k):=λk hk=>by
  rw[hw,eO hk]
  exact tV hk
 have keys:∀k:Ky,k∈cN.map Wn.k↔k=⟨n,s,e⟩\/(k∈ws.map Wn.k/\k∉mt):=λk=>by
  rw[eE]
  by_cases hk:k=⟨n,s,e⟩
  ·exact⟨λ_=>.inl hk,λ_=>⟨_,hk▸vg⟩⟩
  ·by_cases hm:k∈mt
   ·rw[(vo k hk).1 hm]
    exact⟨λ⟨_,z⟩=>(nomatch z),λz=>z.elim (λz=>absurd z hk) λz=>absurd hm z.2⟩
   ·rw[(vo k hk).2 hm,←eE]
    exact⟨λz=>.inr ⟨z,hm⟩,λz=>z.elim (λz=>absurd z hk) λz=>z.1⟩
 have no:o_ pl=false->False:=λz=>by rw[ip]at z;cases z
 refine⟨by rw[hw];exact ko (iQ h.nd),λk p g=>?_,λz=>(no z).elim,λz=>(no z).elim,λ_ k m=>?_,λ_ x mx=>?_⟩
 ·rw[uy]
  by_cases hk:k=⟨n,s,e⟩
  ·subst hk
   rw[vg]at g
   rw[←Option.some.inj g]
   show _=cB _ (if je _ _=true then _ else _)
   rw[if_pos gt]
  ·by_cases hm:k∈mt
   ·rw[(vo k hk).1 hm]at g
    cases g
   ·rw[(vo k hk).2 hm]at g
    show p=cB _ (if je k _=true then _ else _)
    rw[if_neg λz=>hm ?_,ji]
    ·exact h.val k p g
    ·obtain⟨i1,i2,i3⟩:=eV.mp z
     have i2':k.s<=t:=i2
     exact(mem k).mpr ⟨eE.mpr ⟨_,g⟩,i1.symm,by lia,i3⟩
 ·rcases(keys k).mp m with rfl|⟨m1,m2⟩
  ·show dD pl.len (eW _ n) s e
   rw[Tn]
   exact J
  ·by_cases kn:k.n=n
   ·have sp:=hP k.s k.e (ky k kn▸m1)
    have:=zI (t:=t) hL sp λz=>m2 ((mem k).mpr ⟨m1,kn,z⟩)
    rw[kn,Tn]
    exact this
   ·rw[To _ kn]
    exact h.pr ip k m1
 ·rcases List.mem_append.mp mx with z|z
  ·obtain⟨k,mk,kn,k1,k2⟩:=h.pc ip x z
   by_cases hm:k∈mt
   ·have a1:=s3 k hm
    have a2:=e3 k hm
    exact⟨_,(keys _).mpr (.inl rfl),((mem k).mp hm).2.1.symm.trans kn,by show s<=_;lia,by show _<=e-_;lia⟩
   ·exact⟨k,(keys k).mpr (.inr ⟨mk,hm⟩),kn,k1,k2⟩
  ·rw[List.mem_singleton]at z
   subst z
   exact⟨_,(keys _).mpr (.inl rfl),rfl,s2,by show t<=e-_;lia⟩
theorem Tab.step{pl:Pl}(ok:pl.ok){aV:List Ev}{ws cN:List Wn}{n:Str}{t a:Int}{mt ks:List Ky}(h:Tab pl aV ws)(r:iY pl n t a ws mt ks cN):Tab pl (aV++[⟨n,t,a⟩]) cN:=by
 rcases r with⟨np,_,rfl,rfl⟩|⟨ip,pm,_,s,e,h1,h2,h3,h4,h5,h6,_,hw⟩
 ·exact BA ok np h
 ·exact zG ok ip h pm h1 h2 h3 h4 h5 h6 hw
def dR(L:Int)(sp:List (Int×Int))(t:Int):List (Int×Int):=match sp.getLast? with
 |some p=>if t-p.2<L then sp.dropLast++[(p.1,t)]else sp++[(t,t)]
 |none=>[(t,t)]
structure Cl(L:Int)(ds:List Int)(sp:List (Int×Int)):Prop where
 ap:sp.Pairwise λp q=>p.2+L<=q.1
 el:∀p∈sp,p.1<=p.2/\p.1∈ds/\p.2∈ds/\∀u∈ds,p.1<=u->u<p.2->∃v∈ds,u<v/\v<u+L/\v<=p.2
 cv:∀u∈ds,∃p∈sp,p.1<=u/\u<=p.2
theorem Hv{L:Int}(hL:1<=L){ds:List Int}{sp:List (Int×Int)}{t:Int}(h:Cl L ds sp)(ht:∀u∈ds,u<=t):Cl L (ds++[t]) (dR L sp t):=by
 unfold dR
 have up:∀{u:Int},u∈ds->u∈ds++[t]:=λm=>List.mem_append_left _ m
 have tm:t∈ds++[t]:=List.mem_append_right _ (.head _)
 have old:∀p∈sp,p.1<=p.2/\p.1∈ds++[t]/\p.2∈ds++[t]/\∀u∈ds++[t],p.1<=u->u<p.2->∃v∈ds++[t],u<v/\v<u+L/\v<=p.2:=λp mp=>by
  obtain⟨h1,h2,h3,h4⟩:=h.el p mp
  refine⟨h1,up h2,up h3,λu mu u1 u2=>?_⟩
  rcases List.mem_append.mp mu with z|z
  ·obtain⟨v,mv,r⟩:=h4 u z u1 u2
   exact⟨v,up mv,r⟩
  ·rw[List.mem_singleton]at z
   have:=ht _ h3
   lia
 cases hg:sp.getLast? with
 |none=>
  have:sp=[]:=List.getLast?_eq_none_iff.mp hg
  subst this
  refine⟨List.pairwise_singleton _ _,λp mp=>?_,λu mu=>?_⟩
  ·rw[List.mem_singleton]at mp
   subst mp
   exact⟨Int.le_refl _,tm,tm,λu _ h1 h2=>absurd h1 (by simp only at h2 ⊢;lia)⟩
  ·rcases List.mem_append.mp mu with z|z
   ·obtain⟨p,mp,_⟩:=h.cv u z
    exact(nomatch mp)
   ·rw[List.mem_singleton]at z
    exact⟨(t,t),.head _,by simp only;lia,by simp only;lia⟩
 |some p=>
  obtain⟨l,rfl⟩:∃l,sp=l++[p]:=by
   obtain⟨ys,e⟩:=List.getLast?_eq_some_iff.mp hg
   exact⟨ys,e⟩
  obtain⟨a1,a2,a3⟩:=List.pairwise_append.mp h.ap
  have mp:p∈l++[p]:=List.mem_append_right _ (.head _)
  obtain⟨p1,p2,p3,p4⟩:=h.el p mp
  have pt:=ht _ p3
  have top:∀u∈ds,u<=p.2:=λu mu=>by
   obtain⟨q,mq,q1,q2⟩:=h.cv u mu
   rcases List.mem_append.mp mq with z|z
   ·have:=a3 q z p (.head _)
    lia
   ·rw[List.mem_singleton]at z
    subst z
    exact q2
  dsimp only
  by_cases hj:t-p.2<L
  ·rw[if_pos hj,List.dropLast_concat]
   refine⟨List.pairwise_append.mpr ⟨a1,List.pairwise_singleton _ _,λq mq r mr=>?_⟩,λq mq=>?_,λu mu=>?_⟩
   ·rw[List.mem_singleton]at mr
    subst mr
    exact a3 q mq p (.head _)
   ·rcases List.mem_append.mp mq with z|z
    ·exact old q (List.mem_append_left _ z)
    ·rw[List.mem_singleton]at z
     subst z
     refine⟨by show p.1<=t;lia,up p2,tm,λu mu u1 u2=>?_⟩
     simp only at u1 u2
     rcases List.mem_append.mp mu with z|z
     ·by_cases hu:u<p.2
      ·obtain⟨v,mv,v1,v2,v3⟩:=p4 u z u1 hu
       exact⟨v,up mv,v1,v2,by show v<=t;lia⟩
      ·have:=top u z
       exact⟨t,tm,by lia,by lia,Int.le_refl _⟩
     ·rw[List.mem_singleton]at z
      lia
   ·rcases List.mem_append.mp mu with z|z
    ·obtain⟨q,mq,q1,q2⟩:=h.cv u z
     rcases List.mem_append.mp mq with y|y
     ·exact⟨q,List.mem_append_left _ y,q1,q2⟩
     ·rw[List.mem_singleton]at y
      subst y
      exact⟨(q.1,t),List.mem_append_right _ (.head _),q1,by show u<=t;lia⟩
    ·rw[List.mem_singleton]at z
     exact⟨(p.1,t),List.mem_append_right _ (.head _),by show p.1<=u;lia,by show u<=t;lia⟩
  ·rw[if_neg hj]
   refine⟨List.pairwise_append.mpr ⟨h.ap,List.pairwise_singleton _ _,λq mq r mr=>?_⟩,λq mq=>?_,λu mu=>?_⟩
   ·rw[List.mem_singleton]at mr
    subst mr
    show q.2+L<=t
    rcases List.mem_append.mp mq with z|z
    ·have:=a3 q z p (.head _)
     lia
    ·rw[List.mem_singleton]at z
     subst z
     lia
   ·rcases List.mem_append.mp mq with z|z
    ·exact old q z
    ·rw[List.mem_singleton]at z
     subst z
     exact⟨Int.le_refl _,tm,tm,λu _ h1 h2=>absurd h1 (by simp only at h2 ⊢;lia)⟩
   ·rcases List.mem_append.mp mu with z|z
    ·obtain⟨q,mq,r⟩:=h.cv u z
     exact⟨q,List.mem_append_left _ mq,r⟩
    ·rw[List.mem_singleton]at z
     exact⟨(t,t),List.mem_append_right _ (.head _),by simp only;lia,by simp only;lia⟩
theorem MA{L:Int}(hL:1<=L):∀(ts:List Int),ts.Pairwise (· <=·)->Cl L ts (ts.foldl (dR L) []):=by
 have key:∀(ts ds:List Int)(sp:List (Int×Int)),Cl L ds sp->(ds++ts).Pairwise (· <=·)->Cl L (ds++ts) (ts.foldl (dR L) sp):=by
  intro ts
  induction ts with
  |nil=>intro ds sp h _;rw[List.append_nil];exact h
  |cons t ts ih=>
   intro ds sp h hs
   have e:ds++t::ts=(ds++[t])++ts:=by simp
   rw[e]at hs ⊢
   refine ih _ _ (Hv hL h λu mu=>?_) hs
   exact(List.pairwise_append.mp (List.pairwise_append.mp hs).1).2.2 u mu t (.head _)
 intro ts hs
 exact key ts [] [] ⟨.nil,λp h=>(nomatch h),λu h=>(nomatch h)⟩ hs
theorem Cl.span{L:Int}(hL:1<=L){ds:List Int}{sp:List (Int×Int)}(h:Cl L ds sp){T:Int->Prop}(hT:∀u,T u↔u∈ds){p:Int×Int}(mp:p∈sp):dD L T p.1 (p.2+L):=by
 obtain⟨p1,p2,p3,p4⟩:=h.el p mp
 have ord:∀q∈sp,q=p\/q.2+L<=p.1\/p.2+L<=q.1:=λq mq=>by
  obtain⟨i,hi,rfl⟩:=List.mem_iff_getElem.mp mq
  obtain⟨j,hj,rfl⟩:=List.mem_iff_getElem.mp mp
  rcases Nat.lt_trichotomy i j with z|z|z
  ·exact .inr (.inl (List.pairwise_iff_getElem.mp h.ap i j hi hj z))
  ·subst z;exact .inl rfl
  ·exact .inr (.inr (List.pairwise_iff_getElem.mp h.ap j i hj hi z))
 have e:p.2+L-L=p.2:=by lia
 refine⟨(hT _).mpr p2,e.symm▸(hT _).mpr p3,by lia,λu tu hu=>?_,λu tu hu=>?_,λu tu h1 h2=>?_⟩
 ·obtain⟨q,mq,q1,q2⟩:=h.cv u ((hT u).mp tu)
  rcases ord q mq with rfl|z|z
  ·lia
  ·lia
  ·have:=(h.el q mq).1
   lia
 ·obtain⟨q,mq,q1,q2⟩:=h.cv u ((hT u).mp tu)
  rcases ord q mq with rfl|z|z
  ·lia
  ·have:=(h.el q mq).1
   lia
  ·lia
 ·obtain⟨v,mv,v1,v2,v3⟩:=p4 u ((hT u).mp tu) h1 LI
  exact⟨v,(hT v).mpr mv,v1,v2,by lia⟩
inductive uH(vs:List V)(H:Hp)(Q:VK):Prop
 |mk(i:Int):(vs=[.int i])->(Q (.bl true) H)->uH vs H Q
def yp:Sp:=λvs H Q d_=>uH vs H Q
inductive yu(vs:List V)(H:Hp)(Q:VK):Prop
 |mk(a:Addr)(z:dS):(vs=[.ref a])->(H a=some (.tup z.v))->(∀H',av H H'->Q (.bl true) H')->yu vs H Q
def BV(K:Fg7):Sp:=λvs H Q d_=>yu vs H Q
inductive Cg(vs:List V)(H:Hp)(Q:VK):Prop
 |mk(l:Addr)(zs:List V)(out:List dS):(vs=[.ref l])->(H l=some (.lst zs))->(aE dS.v H zs out)->(∀H',av H H'->Q (.bl true) H')->Cg vs H Q
def Ij(K:Fg7):Sp:=λvs H Q d_=>Cg vs H Q
theorem Nr{x:V}{l:List V}:vY (x::l) 0=some x:=fV (show(x::l)[0]? = some x from rfl)
theorem MK{x y:V}{l:List V}:vY (x::y::l) 1=some y:=fV (show(x::y::l)[1]? = some y from rfl)
theorem Ws{a b:V}(h:a=b):V.bl (decide (a=b))=.bl true:=by rw[decide_eq_true h]
theorem Oa(z:dS):∃(tg nm:Str) (ns:List Int),z.v=.str tg :: .str nm::ns.map V.int/\2<=ns.length/\((tg="told"/\ns.length=4)\/(tg≠"told"/\(tg="gone"\/tg="missed")/\ns.length=2)):=by
 cases z with
 |told w=>exact⟨"told",w.n,[w.s,w.e,w.c,w.t],rfl,by simp,.inl ⟨rfl,rfl⟩⟩
 |gone k=>exact⟨"gone",k.n,[k.s,k.e],rfl,by simp,.inr ⟨by decide +kernel,.inl rfl,rfl⟩⟩
 |missed n t a=>exact⟨"missed",n,[t,a],rfl,by simp,.inr ⟨by decide +kernel,.inr rfl,rfl⟩⟩
section
variable {P:Program} {w:World} {K:Fg7} {mg:Str->Option Value}
theorem xj:PySem.W.kitOne K (.type "int") (.type "bool")=some false:=by with_unfolding_all rfl
theorem GZ(D:aO K "_law_whole" dh)(M:MG K mg)(B:Bi K):fQ P w K mg "_law_whole" ["_law_found"] 1 yp:=by
 refine D.fn M qG qK (λvs H Q E h=>?_) (λf base cdv A outer s H vs Q E hr h=>?_)
 ·obtain⟨i,rfl,_⟩:=h
  rfl
 ·obtain⟨i,rfl,k⟩:=h
  refine⟨_,(aA (aM (iO (aZ aR rfl (M.no _ B.aL) aH (pc (pv 0) (pc (bU (v:=.ty "int") rfl (M.no _ B.Eu) xJ rfl) aj))) (iM (CM (aZ aR rfl (M.no _ B.aL) aH (pc (pv 0) (pc (bU (v:=.ty "bool") rfl (M.no _ B.tS) pD rfl) aj)))))))),?_⟩
  exact⟨_,rfl,_,_,_,true,rfl,.int i,rfl,true,rfl,aT (λ_=>⟨_,rfl,_,_,_,false,rfl,.int i,xj,false,rfl,k⟩) (λh=>absurd rfl h)⟩
theorem Mf(D:aO K "_law_is_said" cQ)(M:MG K mg)(B:Bi K)(tY:fQ P w K mg "_law_whole" ["_law_found"] 1 yp):fQ P w K mg "_law_is_said" ["_law_found"] 2 (BV K):=by
 refine D.fn M iB oJ (λvs H Q E h=>?_) (λf base cdv A outer s H vs Q E hr h=>?_)
 ·obtain⟨a,z,rfl,_⟩:=h
  rfl
 ·obtain⟨a,z,rfl,ha,k⟩:=h
  refine⟨_,(ao (bN (PW.pt (yJ (fJ (cY (aZ aR rfl (M.no _ B.aL) aH (pc (pv 0) (pc (bU (v:=.ty "tuple") rfl (M.no _ B.pF) lI rfl) aj))))) (sJ (aQ oLt (aZ bV rfl (M.no _ B.jC) gG (pc (pv 0) aj)) ah (aP _))))) (aA (aM gi)) aN)
   (ao (bN (PW.pt (yJ (fJ (cY (aZ aR rfl (M.no _ B.aL) aH (pc (aF aY (pv 0) ah (λ_ _=>rfl)) (pc (bU (v:=.ty "str") rfl (M.no _ B.zo) tP rfl) aj))))) (sJ (fJ (cY (aZ aR rfl (M.no _ B.aL) aH (pc (aF aY (pv 0) ah (λ_ _=>rfl)) (pc (bU (v:=.ty "str") rfl (M.no _ B.zo) tP rfl) aj)))))))) (aA (aM gi)) aN)
   (ao (fh PassesOwn.never rfl (Kz (iL sF (pv 0) (kU ah) kW)) (aU (i:=1) iB.nd rfl (Or.inl rfl))
   (aA (bN (fJ (cY (a_ tY (hr.mono (by decide)) rfl (pc (pv 1) aj)))) (aA (aM gi)) aN)))
   (ao (bN (aQ eU (aF aY (pv 0) ah (λ_ _=>rfl)) cL (aP _)) (aA (aM (dW eU (aZ bV rfl (M.no _ B.jC) gG (pc (pv 0) aj)) ah (aP _)))) aN)
   (aA (aM (iO (Ou (dW eU (aF aY (pv 0) ah (λ_ _=>rfl)) cL (aP _)) (iM (dW eU (aF aY (pv 0) ah (λ_ _=>rfl)) cL (aP _)))) (iM (dW eU (aZ bV rfl (M.no _ B.jC) gG (pc (pv 0) aj)) ah (aP _)))))))))),?_⟩
  obtain⟨tg,nm,ns,hv,hlen,hlen'⟩:=Oa z
  rw[hv]at ha
  have no:∀{A:Prop},(!true)=true->A:=λh=>nomatch h
  refine⟨_,rfl,_,_,_,true,rfl,.tup ha,rfl,true,rfl,aT no λ_=>?_⟩
  refine⟨_,rfl,a,_,rfl,.inr (bg.of ha),_,_,rfl,rfl,_,rfl,aT (λh=>?_) λ_=>?_⟩
  ·have h':((V.str tg::V.str nm::ns.map V.int).length:Int)<4:=of_decide_eq_true h
   simp at h'
   lia
  refine⟨_,rfl,a,_,0,_,rfl,rfl,bg.of ha,Nr,_,_,_,true,rfl,.str _,rfl,true,rfl,aT no λ_=>?_⟩
  refine⟨_,rfl,a,_,1,_,rfl,rfl,bg.of ha,MK,_,_,_,true,rfl,.str _,rfl,true,rfl,aT no λ_=>?_⟩
  have hc:kh (V.str tg::V.str nm::ns.map V.int) (some 2) none=ns.map V.int:=by
   unfold kh
   rw[show HT.eX (V.str tg::V.str nm::ns.map V.int).length 0 (some 2)=2 from(HT.yG _ 0 2).trans (by simp),HT.Cs]
   show(ns.map V.int).take ((V.str tg::V.str nm::ns.map V.int).length-2)=_
   exact List.take_of_length_le (by simp)
  refine⟨_,rfl,_,rfl,a,_,rfl,bg.of ha,?_,λp hp=>?_⟩
  ·rw[show HT.eX (V.str tg::V.str nm::ns.map V.int).length 0 (some 2)=2 from(HT.yG _ 0 2).trans (by simp)]
   intro h
   cases h.1
  have s1:=av.new (o:=.tup (kh (V.str tg::V.str nm::ns.map V.int) (some 2) none)) hp
  have hp1:upd H p (.tup (kh (V.str tg::V.str nm::ns.map V.int) (some 2) none)) p=some (.tup (ns.map V.int)):=by rw[hc];exact af
  have ha1:=s1 _ _ ha
  generalize upd H p (.tup (kh (V.str tg::V.str nm::ns.map V.int) (some 2) none))=H1 at *
  refine⟨p,rfl,⟨_,bg.of hp1⟩,?_⟩
  refine GY (K:=K) (a:=p) (xs:=ns.map V.int) (λi σ H'=>(∃v,σ=[some (.ref a),v])/\H'=H1) ⟨⟨none,rfl⟩,rfl⟩ (λi σ H' _ ⟨_,e⟩=>by rw[e];exact bg.of hp1) ?_ ?_
  ·rintro i y σ H' hi ⟨⟨v,rfl⟩,rfl⟩
   rw[List.getElem?_map]at hi
   obtain⟨n,_,rfl⟩:=Option.map_eq_some_iff.mp hi
   exact⟨_,rfl,n,rfl,_,rfl,aT no λ_=>⟨⟨_,rfl⟩,rfl⟩⟩
  ·rintro σ H' ⟨⟨v,rfl⟩,rfl⟩
   refine⟨_,rfl,a,_,0,_,rfl,rfl,bg.of ha1,Nr,rfl,_,rfl,aT (λh=>?_) λh=>?_⟩
   ·have h':tg=("told":Str):=V.str.inj (of_decide_eq_true h)
    rcases hlen' with⟨_,hl⟩|⟨hn,_⟩
    ·refine⟨_,rfl,a,_,rfl,.inr (bg.of ha1),rfl,?_⟩
     have e:decide (V.int ((V.str tg::V.str nm::ns.map V.int).length:Int)=V.int 6)=true:=decide_eq_true (by simp[hl])
     rw[e]
     exact k _ s1
    ·exact absurd h' hn
   ·rcases hlen' with⟨ht,_⟩|⟨_,ho,hl⟩
    ·exact absurd (decide_eq_true (by rw[ht])) h
    ·have e:decide (V.int ((V.str tg::V.str nm::ns.map V.int).length:Int)=V.int 4)=true:=decide_eq_true (by simp[hl])
     have last:∀{G:V->Hp->Prop},G (.bl true) H'->G (.bl (decide (V.int ((V.str tg::V.str nm::ns.map V.int).length:Int)=V.int 4))) H':=λh=>by rw[e];exact h
     refine⟨_,rfl,a,_,0,_,rfl,rfl,bg.of ha1,Nr,rfl,_,rfl,aT (λ_=>?_) λhg=>?_⟩
     ·exact⟨true,rfl,aT (λ_=>⟨_,rfl,a,_,rfl,.inr (bg.of ha1),rfl,last (k _ s1)⟩) λz=>absurd rfl z⟩
     ·rcases ho with rfl|rfl
      ·exact absurd (decide_eq_true rfl) hg
      ·exact⟨_,rfl,a,_,0,_,rfl,rfl,bg.of ha1,Nr,rfl,true,Ws rfl,aT (λ_=>⟨_,rfl,a,_,rfl,.inr (bg.of ha1),rfl,last (k _ s1)⟩) λz=>absurd rfl z⟩
theorem Rw(D:aO K "_law_are_said" cE)(M:MG K mg)(B:Bi K)(qB:fQ P w K mg "_law_is_said" ["_law_found"] 2 (BV K)):fQ P w K mg "_law_are_said" ["_law_found"] 3 (Ij K):=by
 refine D.fn M gK nt (λvs H Q E h=>?_) (λf base cdv A outer s H vs Q E hr h=>?_)
 ·obtain⟨l,zs,out,rfl,_⟩:=h
  rfl
 ·obtain⟨l,zs,out,rfl,hl,la,k⟩:=h
  refine⟨_,(ao (bN (fJ (cY (aZ aR rfl (M.no _ B.aL) aH (pc (pv 0) (pc (bU (v:=.ty "list") rfl (M.no _ B.ny) jh rfl) aj))))) (aA (aM gi)) aN)
   (ao (fh PassesOwn.never rfl (bw (pv 0)) (aU (i:=1) gK.nd rfl (Or.inl rfl))
   (aA (bN (fJ (cY (a_ qB (hr.mono (by decide)) rfl (pc (pv 1) aj)))) (aA (aM gi)) aN)))
   (aA (aM gi)))),?_⟩
  have no:∀{A:Prop},(!true)=true->A:=λh=>nomatch h
  refine⟨_,rfl,_,_,_,true,rfl,.lst hl,rfl,true,rfl,aT no λ_=>?_⟩
  refine⟨_,rfl,l,rfl,⟨_,bB.of hl⟩,?_⟩
  refine dQ (K:=K) (a:=l) (xs:=zs) (λi σ H'=>(∃v,σ=[some (.ref l),v])/\av H H') ⟨⟨none,rfl⟩,av.refl _⟩ (λi σ H' _ ⟨_,sm⟩=>bB.of (sm _ _ hl)) ?_ ?_
  ·rintro i y σ H' hi ⟨⟨v,rfl⟩,sm⟩
   obtain⟨z,b,_,rfl,hb⟩:=la.get hi
   exact⟨_,rfl,b,z,rfl,sm _ _ hb,λH2 s2=>⟨_,rfl,aT no λ_=>⟨⟨_,rfl⟩,sm.trans s2⟩⟩⟩
  ·rintro σ H' ⟨⟨v,rfl⟩,sm⟩
   exact k _ sm
end
theorem Si{G:Prop}{α:Sort _}{P:α->Prop}(R:α)(h1:P R->G)(h2:P R):G:=h1 h2
theorem Ew{xs:List V}{i:Int}(h0:0<=i)(h1:i<xs.length):∃x,vY xs i=some x/\x∈xs:=by
 have hl:i.toNat<xs.length:=by lia
 refine⟨xs[i.toNat],?_,List.getElem_mem hl⟩
 have:=fV (xs:=xs) (j:=i.toNat) (v:=xs[i.toNat]) (List.getElem?_eq_getElem hl)
 rwa [Int.toNat_of_nonneg h0]at this
theorem mod2(a b c:Int)(h:0<c):0<=a%b%c/\a%b%c<c:=⟨Int.emod_nonneg _ LI,Int.emod_lt_of_pos _ h⟩
def lens(w:Int):List Int:=[1,2,5,10,12,7,1000000,4*1000000000000000000000000,w]
def uE(w:Int):List Int:=[1,5,2,5,4,3,300000,1000000000000000000000000]++[1+w/3]
def uD(w:Int):List Int:=[1,1,5,3,6,8,1000000,5*1000000000000000000000000]++[2*w]
theorem nine(j:Nat)(h:j<9):j=0\/j=1\/j=2\/j=3\/j=4\/j=5\/j=6\/j=7\/j=8:=by lia
theorem La{w:Int}(h1:1<=w)(h2:w<=10^30){j:Nat}(h:j<9):1<=(lens w).getD j 0/\(lens w).getD j 0<=10^30:=by
 rcases nine j h with rfl|rfl|rfl|rfl|rfl|rfl|rfl|rfl|rfl<;>simp[lens]<;>lia
theorem FF{w:Int}(h1:1<=w)(h2:w<=10^30){j:Nat}(h:j<9):1<=(uE w).getD j 0/\(uE w).getD j 0<=10^31/\(lens w).getD j 0<=100*(uE w).getD j 0:=by
 rcases nine j h with rfl|rfl|rfl|rfl|rfl|rfl|rfl|rfl|rfl<;>simp[lens,uE]<;>lia
theorem FE{w:Int}(h1:1<=w)(h2:w<=10^30){j:Nat}(h:j<9):1<=(uD w).getD j 0/\(uD w).getD j 0<=10^31/\(lens w).getD j 0<=100*(uD w).getD j 0:=by
 rcases nine j h with rfl|rfl|rfl|rfl|rfl|rfl|rfl|rfl|rfl<;>simp[lens,uD]<;>lia
theorem Ri{w:Int}(h1:0<=w){j:Nat}(h:j<7):0<=([0,1,3,10,1000,6,w]:List Int).getD j 0:=by
 rcases nine j LI with rfl|rfl|rfl|rfl|rfl|rfl|rfl|rfl|rfl<;>simp<;>lia
theorem HA{pl:Pl}(ok:pl.ok)(h:0<=fD pl):bad pl=false:=by
 obtain⟨l1,_,s1,_,ls⟩:=ok
 unfold bad
 rw[decide_eq_false LI,decide_eq_false LI,decide_eq_false LI,decide_eq_false LI]
 rfl
inductive uK(vs:List V)(H:Hp)(Q:VK):Prop
 |mk(a b:Int):(vs=[.int a,.int b])->(∀(p:Addr)(pl:Pl)(H':Hp),av H H'->H p=none->H' p=some (.tup pl.row)->pl.ok->bad pl=false->Q (.ref p) H')->uK vs H Q
def yv:Sp:=λvs H Q d_=>uK vs H Q
theorem e40:(10:Int)^40=10000000000000000000000000000000000000000:=by decide
theorem e45:(10:Int)^45=1000000000000000000000000000000000000000000000:=by decide
section
variable {P:Program} {w:World} {K:Fg7} {mg:Str->Option Value}
theorem Hh(D:aO K "_law_plan_of" cP)(M:MG K mg):fQ P w K mg "_law_plan_of" ["_law_one","_law_two"] 1 yv:=by
 refine D.fn M bM oH (λvs H Q E h=>?_) (λf base cdv A outer s H vs Q E hr h=>?_)
 ·obtain⟨a,b,rfl,_⟩:=h
  rfl
 ·obtain⟨a,b,rfl,k⟩:=h
  refine⟨_,(ao (dc (i:=2) bM.nd rfl (Or.inl rfl) (aC oMod (aC oMod (aC gO (pv 0) ah) ah) ah))
   (ao (dc (i:=3) bM.nd rfl (Or.inl rfl) ah)
   (ao (dc (i:=4) bM.nd rfl (Or.inl rfl) (aC gP ah (aC oMod (pv 0) (aC gO ah (pv 3)))))
   (ao (dc (i:=5) bM.nd rfl (Or.inl rfl) (aF cR (cy (pc ah (pc ah (pc ah (pc ah (pc ah (pc ah (pc ah (pc (aC gO ah (pv 3)) (pc (pv 4) aj)))))))))) (pv 2) (λ_ _=>rfl)))
   (ao (dc (i:=6) bM.nd rfl (Or.inl rfl) (aF cR (cy (pc ah (pc ah (pc ah (pc ah (pc ah (pc ah (pc (aC oMod (pv 1) (aC gO ah (pv 3))) aj)))))))) (aC oMod (aC oMod (aC gO (pv 1) ah) ah) ah) (λ_ _=>rfl)))
   (ao (bN (aQ eU (aC oMod (aC oMod (aC gO (pv 0) ah) ah) ah) ah (aP _)) (aA (aM (bD (pc cL (pc (pv 5) (pc (pv 6) aj)))))) aN)
   (ao (bN (aQ eU (aC oMod (aC oMod (aC gO (pv 0) ah) ah) ah) ah (aP _)) (ao (dc (i:=7) bM.nd rfl (Or.inl rfl) (cy (pc (cy (pc ah (pc ah (pc ah (pc ah (pc ah (pc ah (pc ah (pc (pv 3) aj))))))))) (pc (cy (pc ah (pc ah (pc ah (pc ah (pc ah (pc ah (pc ah (pc (aC gO ah (pv 3)) aj))))))))) aj))))
   (ao (dc (i:=7) bM.nd rfl (Or.inl rfl) (cy (pc (aC sS (aF cR (pv 7) ah (λ_ _=>rfl)) (cy (pc (aC gP ah (aC uY (pv 4) ah)) aj))) (pc (aC sS (aF cR (pv 7) ah (λ_ _=>rfl)) (cy (pc (aC gO ah (pv 4)) aj))) aj))))
   (aA (aM (bD (pc cL (pc (pv 5) (pc (aF cR (aF cR (pv 7) (aC oMod (aC oMod (aC gO (pv 1) ah) ah) ah) (λ_ _=>rfl)) (pv 2) (λ_ _=>rfl)) (pc (pv 6) aj))))))))) aN)
   (aA (aM (bD (pc cL (pc (pv 5) (pc (pv 6) aj))))))))))))),?_⟩
  refine⟨_,rfl,_,_,rfl,rfl,.inr ⟨by decide,by decide⟩,_,_,rfl,rfl,(by show(0:Int)<_;decide),_,_,rfl,rfl,(by show(0:Int)<_;decide),?_⟩
  refine⟨_,rfl,_,rfl,_,_,rfl,rfl,.inl ⟨by decide,by decide⟩,_,_,rfl,rfl,(by show(0:Int)<_;decide),_,_,rfl,rfl,?_⟩
  generalize uf:a*48271%1009%9=sp
  have Il:=pX (a*48271%1009) 9 (by decide)
  rw[uf]at Il
  have hsl:sp.toNat<9:=by lia
  have w0:=pX a (1000000*1000000000000000000000000) (by decide)
  generalize hw:1+a%(1000000*1000000000000000000000000)=wd
  have w1:1<=wd:=by lia
  have w2:wd<=10^30:=by lia
  clear hw w0 uf
  refine⟨_,rfl,_,_,rfl,rfl,.inl ⟨by decide,by decide⟩,_,rfl,(by show 9<=sizeLine;decide),λl1 e1=>?_⟩
  refine⟨_,rfl,l1,(lens wd).map V.int,sp,_,rfl,rfl,bB.of af,qq (lens wd) Il.1 (by show sp<9;lia),?_⟩
  have hL:=La w1 w2 hsl
  generalize hlen:(lens wd).getD sp.toNat 0=L at *
  have s1:=av.new (o:=.lst ((lens wd).map V.int)) e1
  refine⟨_,rfl,_,rfl,_,_,rfl,rfl,.inl ⟨by decide,by decide⟩,_,_,rfl,rfl,(by show(0:Int)<_;decide),(by show 7<=sizeLine;decide),λl2 e2=>?_⟩
  refine⟨_,rfl,_,_,rfl,rfl,.inr ⟨by decide,by decide⟩,_,_,rfl,rfl,(by show(0:Int)<_;decide),_,_,rfl,rfl,(by show(0:Int)<_;decide),?_⟩
  have g1:=pX (b*48271%1013) 7 (by decide)
  refine⟨l2,[0,1,3,10,1000,6,b%(1000000*1000000000000000000000000)].map V.int,_,_,rfl,rfl,bB.of af,qq _ g1.1 (by show _<7;lia),?_⟩
  have hg:0<=([0,1,3,10,1000,6,b%(1000000*1000000000000000000000000)]:List Int).getD (b*48271%1013%7).toNat 0:=Ri (pX b _ (by decide)).1 LI
  generalize ([0,1,3,10,1000,6,b%(1000000*1000000000000000000000000)]:List Int).getD (b*48271%1013%7).toNat 0=g at *
  have s2:=av.new (o:=.lst (([0,1,3,10,1000,6,b%(1000000*1000000000000000000000000)]:List Int).map V.int)) e2
  have Od:=s1.trans s2
  have fin:∀(p:Addr)(pl:Pl)(H':Hp),av H H'->H p=none->H' p=some (.tup pl.row)->pl.len=L->fD pl=g->1<=pl.stp->pl.stp<=10^31->L<=100*pl.stp->Q (.ref p) H':=λp pl H' q1 q2 q3 q4 q5 q6 q7 q8=>by
   have ok:pl.ok:=⟨by lia,by lia,q6,by lia,by lia⟩
   exact k p pl H' q1 q2 q3 ok (HA ok LI)
  refine⟨_,rfl,_,_,rfl,rfl,.inr ⟨by decide,by decide⟩,_,_,rfl,rfl,(by show(0:Int)<_;decide),_,_,rfl,rfl,(by show(0:Int)<_;decide),rfl,_,rfl,?_⟩
  refine aT (λ_=>?_) (λ_=>?_)
  ·refine⟨_,rfl,_,rfl,(by show 3<=sizeLine;decide),λp hp=>?_⟩
   exact fin p (.fixed L g) _ (Od.trans (av.new hp)) (Od.free hp) af rfl rfl hL.1 (by show L<=_;lia) (by show L<=100*L;lia)
  refine⟨_,rfl,_,_,rfl,rfl,.inr ⟨by decide,by decide⟩,_,_,rfl,rfl,(by show(0:Int)<_;decide),_,_,rfl,rfl,(by show(0:Int)<_;decide),rfl,_,rfl,?_⟩
  refine aT (λ_=>?_) (λ_=>?_)
  ·refine⟨_,rfl,(by show 8<=sizeLine;decide),λl3 e3=>?_⟩
   have s3:=av.new (o:=.lst (([1,5,2,5,4,3,300000,1000000000000000000000000]:List Int).map V.int)) e3
   refine⟨_,rfl,_,_,rfl,rfl,.inl ⟨by decide,by decide⟩,(by show 8<=sizeLine;decide),λl4 e4=>?_⟩
   have s4:=av.new (o:=.lst (([1,1,5,3,6,8,1000000,5*1000000000000000000000000]:List Int).map V.int)) e4
   refine⟨(by show 2<=sizeLine;decide),λl5 e5=>?_⟩
   have s5:=av.new (o:=.lst [.ref l3,.ref l4]) e5
   have a3:=s5 _ _ (s4 _ _ (af (o:=.lst (([1,5,2,5,4,3,300000,1000000000000000000000000]:List Int).map V.int))))
   have a4:=s5 _ _ (af (o:=.lst (([1,1,5,3,6,8,1000000,5*1000000000000000000000000]:List Int).map V.int)))
   have ZD:=Od.trans (s3.trans (s4.trans s5))
   refine⟨_,rfl,l5,_,0,_,rfl,rfl,bB.of af,rfl,_,rfl,_,_,rfl,rfl,⟨by decide,by decide,by decide⟩,_,_,rfl,rfl,(by show 1<=sizeLine;decide),λl6 e6=>?_⟩
   have s6:=av.new (o:=.lst (([1+wd/3]:List Int).map V.int)) e6
   refine⟨l3,l6,_,([1+wd/3]:List Int).map V.int,rfl,rfl,s6 _ _ a3,af,(by show 9<=sizeLine;decide),λl7 e7=>?_⟩
   have s7:=av.new (o:=.lst ((uE wd).map V.int)) e7
   refine⟨_,rfl,l5,_,1,_,rfl,rfl,bB.of (s7 _ _ (s6 _ _ af)),rfl,_,rfl,_,_,rfl,rfl,.inl ⟨by decide,by decide⟩,(by show 1<=sizeLine;decide),λl8 e8=>?_⟩
   have s8:=av.new (o:=.lst (([2*wd]:List Int).map V.int)) e8
   refine⟨l4,l8,_,([2*wd]:List Int).map V.int,rfl,rfl,s8 _ _ (s7 _ _ (s6 _ _ a4)),af,(by show 9<=sizeLine;decide),λl9 e9=>?_⟩
   have s9:=av.new (o:=.lst ((uD wd).map V.int)) e9
   refine⟨(by show 2<=sizeLine;decide),λXO e10=>?_⟩
   have wI:=av.new (o:=.lst [.ref l7,.ref l9]) e10
   have a7:=wI _ _ (s9 _ _ (s8 _ _ (af (a:=l7) (o:=.lst ((uE wd).map V.int)))))
   have a9:=wI _ _ (af (a:=l9) (o:=.lst ((uD wd).map V.int)))
   have FP:=ZD.trans (s6.trans (s7.trans (s8.trans (s9.trans wI))))
   have c1:=pX (b*48271%1021) 2 (by decide)
   refine⟨_,rfl,_,rfl,_,rfl,_,_,rfl,rfl,.inr ⟨by decide,by decide⟩,_,_,rfl,rfl,(by show(0:Int)<_;decide),_,_,rfl,rfl,(by show(0:Int)<_;decide),?_⟩
   have two:b*48271%1021%2=0\/b*48271%1021%2=1:=by lia
   rcases two with e|e
   ·refine⟨XO,[.ref l7,.ref l9],_,.ref l7,rfl,rfl,bB.of af,by rw[e];rfl,_,rfl,l7,_,sp,_,rfl,rfl,bB.of a7,qq (uE wd) Il.1 (by show sp<9;lia),_,rfl,(by show 4<=sizeLine;decide),λp hp=>?_⟩
    have hs:=FF w1 w2 hsl
    rw[hlen]at hs
    exact fin p (.sliding L ((uE wd).getD sp.toNat 0) g) _ (FP.trans (av.new hp)) (FP.free hp) af rfl rfl hs.1 hs.2.1 hs.2.2
   ·refine⟨XO,[.ref l7,.ref l9],_,.ref l9,rfl,rfl,bB.of af,by rw[e];rfl,_,rfl,l9,_,sp,_,rfl,rfl,bB.of a9,qq (uD wd) Il.1 (by show sp<9;lia),_,rfl,(by show 4<=sizeLine;decide),λp hp=>?_⟩
    have hs:=FE w1 w2 hsl
    rw[hlen]at hs
    exact fin p (.sliding L ((uD wd).getD sp.toNat 0) g) _ (FP.trans (av.new hp)) (FP.free hp) af rfl rfl hs.1 hs.2.1 hs.2.2
  ·refine⟨_,rfl,_,rfl,(by show 3<=sizeLine;decide),λp hp=>?_⟩
   exact fin p (.pauses L g) _ (Od.trans (av.new hp)) (Od.free hp) af rfl rfl hL.1 (by show L<=_;lia) (by show L<=100*L;lia)
end
def MU(p:Int×Int):List V:=[.int p.1,.int p.2]
inductive qX(vs:List V)(H:Hp)(Q:VK):Prop
 |mk(a:Addr)(ts:List Int)(L:Int):(vs=[.ref a,.int L])->(H a=some (.lst (ts.map V.int)))->(ts.length<=1000)->(∀(r:Addr)(ys:List V)(ps:List Int)(H':Hp),av H H'->H r=none->H' r=some (.lst ys)->ps.Perm ts->ps.Pairwise (· <=·)->aE MU H' ys ((ps.foldl (dR L) []).map λp=>(p.1,p.2+L))->Q (.ref r) H')->qX vs H Q
def uL(K:Fg7):Sp:=λvs H Q d_=>qX vs H Q
theorem vA{K:Fg7}{H:Hp}:∀(ts:List Int),fy K H (ts.map V.int) (ts.map Dv.int)
 |[]=>.nil
 |t::ts=>.cons (.int t) (vA ts)
theorem Hr{a b:Int}(h:aK (.int a) (.int b)≠.gt):a<=b:=by
 have e:aK (.int a) (.int b)=if a=b then .eq else if a<b then .lt else .gt:=by rw[aK]
 rw[e]at h
 by_cases h1:a=b
 ·lia
 ·rw[if_neg h1]at h
  by_cases h2:a<b
  ·lia
  ·rw[if_neg h2]at h
   exact absurd rfl h
theorem sorted_ints{ts:List Int}{ps:List (V×Dv)}(hp:ps.Perm ((ts.map V.int).zip (ts.map Dv.int)))(hs:(ps.map (·.2)).Pairwise (λd e=>aK d e≠.gt)):
  ∃qs:List Int,qs.Perm ts/\qs.Pairwise (· <=·)/\ps.map (·.1)=qs.map V.int:=by
 have e:(ts.map V.int).zip (ts.map Dv.int)=ts.map λt=>(V.int t,Dv.int t):=List.zip_map'
 rw[e]at hp
 have hm:∀p∈ps,∃t:Int,p=(V.int t,Dv.int t):=λp mp=>by
  obtain⟨t,_,rfl⟩:=List.mem_map.mp (hp.mem_iff.mp mp)
  exact⟨t,rfl⟩
 let f:V×Dv->Int:=λp=>match p.2 with
  |.int t=>t
  |_=>0
 have e2:(ts.map λt=>(V.int t,Dv.int t)).map f=ts:=by
  rw[List.map_map]
  exact(List.map_congr_left λt _=>rfl).trans (List.map_id _)
 refine⟨ps.map f,e2▸hp.map f,?_,?_⟩
 ·rw[List.pairwise_map]at hs ⊢
  refine hs.imp_of_mem λ{p q} mp mq h=>?_
  obtain⟨t,rfl⟩:=hm p mp
  obtain⟨u,rfl⟩:=hm q mq
  exact Hr h
 ·rw[List.map_map]
  refine List.map_congr_left λp mp=>?_
  obtain⟨t,rfl⟩:=hm p mp
  rfl
theorem q_{H H':Hp}{r:Addr}(s:av H H')(h:H' r=none):H r=none:=by
 cases e:H r with
 |none=>rfl
 |some u=>rw[s _ _ e]at h;cases h
theorem qg(L:Int):∀(ts:List Int)(sp:List (Int×Int)),(ts.foldl (dR L) sp).length<=sp.length+ts.length:=by
 intro ts
 induction ts with
 |nil=>intro sp;exact Nat.le_refl _
 |cons t ts ih=>
  intro sp
  have h:=ih (dR L sp t)
  have h2:(dR L sp t).length<=sp.length+1:=by
   unfold dR
   split
   ·split
    ·rw[List.length_append,List.length_dropLast,List.length_singleton];lia
    ·rw[List.length_append,List.length_singleton];lia
   ·rw[List.length_singleton];lia
  rw[List.foldl_cons,List.length_cons]
  lia
theorem Lg{α:Type}{f:α->List V}{H:Hp}{xs:List V}{y:V}{ws:List α}(h:aE f H (xs++[y]) ws):∃EN w a,y=.ref a/\ws=EN++[w]/\aE f H xs EN/\H a=some (.tup (f w)):=by
 induction xs generalizing ws with
 |nil=>
  cases h with
  |cons h1 h2=>
   cases h2
   obtain⟨a,rfl,ha⟩:=h1
   exact⟨[],_,a,rfl,rfl,.nil,ha⟩
 |cons x xs ih=>
  cases h with
  |cons h1 h2=>
   obtain⟨EN,w,a,e1,e2,l,ha⟩:=ih h2
   exact⟨_::EN,w,a,e1,by rw[e2];rfl,.cons h1 l,ha⟩
theorem Dz{xs:List V}{y:V}:DB (xs++[y]).length (-1)=some xs.length:=by
 unfold DB
 rw[List.length_append,List.length_singleton,if_neg (by decide),if_pos LI]
 congr 1
 lia
theorem Co{xs:List V}{y z:V}:(xs++[y]).set xs.length z=xs++[z]:=by simp
section
variable {P:Program} {w:World} {K:Fg7} {mg:Str->Option Value}
theorem D_(D:aO K "_law_pauses" cJ)(M:MG K mg)(B:Bi K):fQ P w K mg "_law_pauses" ["_law_times","_law_gap"] 1 (uL K):=by
 refine D.fn M gg qp (λvs H Q E h=>?_) (λf base cdv A outer s H vs Q E hr h=>?_)
 ·obtain⟨a,ts,L,rfl,_⟩:=h
  rfl
 ·obtain⟨a,ts,L,rfl,ha,hl,k⟩:=h
  have hu:(A.deeper (envOfC "_law_pauses" (aq cJ) s.heap.objs.size f cdv)).units+64<cLine:=hr.units
  refine⟨_,(ao (dc (i:=2) gg.nd rfl (Or.inl rfl) (cy aj))
   (ao (fh PassesOwn.never rfl (bw (aZ (fU hu) rfl (M.no _ B.gS) f_ (pc (pv 0) aj))) (aU (i:=3) gg.nd rfl (Or.inl rfl))
   (aA (bN (PW.pt (jI (aQ Xo (aZ bV rfl (M.no _ B.jC) gG (pc (pv 2) aj)) ah (aP _)) (i_ (aQ oLt (aC pV (pv 3) (aF aY (aF cR (pv 2) (nR uq ah) (λ_ _=>rfl)) ah (λ_ _=>rfl))) (pv 1) (aP _))))) (aA (Ku (bD (pc (aF aY (aF cR (pv 2) (nR uq ah) (λ_ _=>rfl)) ah (λ_ _=>rfl)) (pc (pv 3) aj))) (KC (pv 2) (nR uq ah) set_list))) (aA (iJ (pT PySem.F.plainAttrs_list PySem.F.slot_list_append PySem.F.type_list_append eL (pv 2) (pc (bD (pc (pv 3) (pc (pv 3) aj))) aj)))))))
   (aA (aM (eT (NY:=["_law_span","_law_gap"]) (js:=[none,some 1]) rfl rfl (by with_unfolding_all rfl) (by repeat first|exact bY.nil|refine bY.cons rfl ?_) (.own (.out rfl rfl (.inl rfl) .nil)) (bw (pv 2)) (λ_ _ _ _ _=>⟨(aU (i:=0) (show(["_law_span","_law_gap"]:List Str).Nodup from by decide +kernel) rfl (Or.inl rfl)),dU,(bD (pc (aF (bh (K:=K) rfl) (pv 0) ah (λ_ _=>rfl)) (pc (aC gP (aF (bh (K:=K) rfl) (pv 0) ah (λ_ _=>rfl)) (pv 1)) aj)))⟩)))))),?_⟩
  refine⟨(by show 0<=sizeLine;decide),λsl hsl=>?_⟩
  have hsa:upd H sl (.lst []) a=some (.lst (ts.map V.int)):=(av.new hsl) _ _ ha
  refine⟨_,rfl,a,_,ts.map Dv.int,.int,rfl,bB.of hsa,vA ts,λd md=>?_,rfl,by decide,?_,λl ps hl hp hs=>?_⟩
  ·obtain⟨t,_,rfl⟩:=List.mem_map.mp md
   rfl
  ·rw[List.length_map]
   exact⟨by lia,by show _<10000001;lia⟩
  obtain⟨qs,q1,q2,q3⟩:=sorted_ints hp hs
  rw[q3]
  have Sz:l≠sl:=λz=>by rw[z,af]at hl;cases hl
  refine⟨l,rfl,⟨_,bB.of af⟩,?_⟩
  refine dQ (K:=K) (a:=l) (xs:=qs.map V.int) (λi σ H'=>∃(v:Option V) (xs:List V),σ=[some (.ref a),some (.int L),some (.ref sl),v]/\(∀b u,b≠sl->upd (upd H sl (.lst [])) l (.lst (qs.map V.int)) b=some u->H' b=some u)/\H' sl=some (.lst xs)/\aE MU H' xs ((qs.take i).foldl (dR L) []))
   ⟨none,[],rfl,λ_ _ _ e=>e,by rw[ai Sz.symm];exact af,.nil⟩ (λi σ H' _ ⟨_,_,_,sm,_⟩=>bB.of (sm _ _ Sz af)) ?_ ?_
  ·rintro i x σ H' ex ⟨v,xs,rfl,sm,hx,la⟩
   rw[List.getElem?_map]at ex
   obtain⟨t,et,rfl⟩:=Option.map_eq_some_iff.mp ex
   have htk:(qs.take (i+1)).foldl (dR L) []=dR L ((qs.take i).foldl (dR L) []) t:=by rw[List.take_add_one,et];simp
   have hlen:=la.len
   have hfl:=qg L (qs.take i) []
   have hi:i<qs.length:=(List.getElem?_eq_some_iff.mp et).1
   have Nf:=q1.length_eq
   have EU:=List.length_take_le i qs
   rw[List.length_nil]at hfl
   rw[htk]
   generalize (qs.take i).foldl (dR L) []=sp at *
   have hsz:xs.length<sizeLine:=by rw[hlen,sizeLine_eq];lia
   refine' Si (P:=λR:Prop=>dR L sp t=sp++[(t,t)]->R) _ (λnew=>?main) ?new
   case main=>
    refine⟨_,rfl,sl,_,rfl,.inl (bB.of hx),_,_,rfl,rfl,_,rfl,aT (λhg=>?_) (λhg=>?_)⟩
    rotate_left
    ·refine' new ?_
     have:xs=[]:=by
      cases xs with
      |nil=>rfl
      |cons x xs=>exact absurd (decide_eq_true (show(0:Int)<((x::xs).length:Int) by rw[List.length_cons];lia)) hg
     subst this
     have:sp=[]:=List.eq_nil_of_length_eq_zero hlen.symm
     subst this
     rfl
    have hg':(0:Int)<(xs.length:Int):=of_decide_eq_true hg
    obtain⟨NF,y,rfl⟩:∃NF y,xs=NF++[y]:=by
     rcases List.eq_nil_or_concat xs with rfl|⟨a,b,e⟩
     ·exact absurd hg' (by decide)
     ·exact⟨a,b,by rw[e,List.concat_eq_append]⟩
    obtain⟨Il,p,q,rfl,rfl,la1,hq⟩:=Lg la
    have hst:dR L (Il++[p]) t=if t-p.2<L then Il++[(p.1,t)]else Il++[p]++[(t,t)]:=by
     unfold dR
     rw[List.getLast?_concat]
     dsimp only
     rw[List.dropLast_concat]
    refine⟨_,rfl,_,rfl,1,rfl,sl,_,-1,.ref q,rfl,rfl,bB.of hx,vO _ _,q,_,1,.int p.2,rfl,rfl,bg.of hq,MK,_,_,rfl,rfl,_,rfl,_,_,rfl,rfl,_,rfl,aT (λhj=>?_) (λhj=>?_)⟩
    rotate_left
    ·refine' new ?_
     rw[hst,if_neg λz=>hj (decide_eq_true z)]
    rw[hst,if_pos (of_decide_eq_true hj)]
    refine⟨_,rfl,1,rfl,sl,_,-1,.ref q,rfl,rfl,bB.of hx,vO _ _,q,_,0,.int p.1,rfl,rfl,bg.of hq,Nr,_,rfl,(by show 2<=sizeLine;decide),λc hc=>⟨_,rfl,1,rfl,?_⟩⟩
    have up:∀b row,H' b=some (.tup row)->upd (upd H' c (.tup [.int p.1,.int t])) sl (.lst (NF++[.ref c])) b=some (.tup row):=λb row e=>by
     rw[ai (aI e hx (by intro z;cases z))]
     exact(av.new hc) _ _ e
    have US:c≠sl:=λz=>by rw[z,hx]at hc;cases hc
    refine⟨sl,_,-1,NF.length,rfl,rfl,(av.new hc) _ _ hx,Dz,?_⟩
    rw[Co]
    refine⟨_,NF++[.ref c],rfl,λb u nb e=>?_,af,(la1.keep up).snoc (w:=(p.1,t)) (by rw[ai US];exact af)⟩
    rw[ai nb]
    exact(av.new hc) _ _ (sm b u nb e)
   case new=>
    intro hst
    rw[hst]
    refine⟨_,rfl,.inl ⟨rfl,_,bB.of hx⟩,_,rfl,_,rfl,(by show 2<=sizeLine;decide),λc hc=>⟨sl,_,.ref c,rfl,rfl,(av.new hc) _ _ hx,hsz,?_⟩⟩
    have up:∀b row,H' b=some (.tup row)->upd (upd H' c (.tup [.int t,.int t])) sl (.lst (xs++[.ref c])) b=some (.tup row):=λb row e=>by
     rw[ai (aI e hx (by intro z;cases z))]
     exact(av.new hc) _ _ e
    have US:c≠sl:=λz=>by rw[z,hx]at hc;cases hc
    refine⟨_,xs++[.ref c],rfl,λb u nb e=>?_,af,(la.keep up).snoc (w:=(t,t)) (by rw[ai US];exact af)⟩
    rw[ai nb]
    exact(av.new hc) _ _ (sm b u nb e)
  ·rintro σ H' ⟨v,xs,rfl,sm,hx,la⟩
   rw[List.length_map,List.take_length]at la
   have hlen:=la.len
   have hfl:=qg L qs []
   have Nf:=q1.length_eq
   rw[List.length_nil]at hfl
   have sH:av H H':=λb u e=>sm b u (au e hsl) ((av.new hl) _ _ ((av.new hsl) _ _ e))
   have key:∀(r:Addr)(ys:List V)(H2:Hp),av H H2->H r=none->H2 r=some (.lst ys)->aE MU H2 ys ((qs.foldl (dR L) []).map λp=>(p.1,p.2+L))->Q (.ref r) H2:=λr ys H2 s1 h0 h1 h2=>k r ys qs H2 s1 h0 h1 q1 q2 h2
   clear k sm
   generalize qs.foldl (dR L) []=sp at *
   refine⟨_,rfl,sl,rfl,⟨_,bB.of hx⟩,λr hr=>?_⟩
   refine cU (K:=K) (a:=sl) (xs:=xs) (λi ys H2=>av H' H2/\H2 r=some (.lst ys)/\aE MU H2 ys ((sp.take i).map λp=>(p.1,p.2+L))) ⟨av.new hr,af,.nil⟩ (λi ys H2 h=>h.2.1) (λi ys H2 _ h=>h.1.seq (bB.of hx)) ?_ ?_
   ·rintro i x ys H2 ex ⟨s2,h2,yT⟩
    obtain⟨p,q,ep,rfl,hq⟩:=la.get ex
    have hq2:=s2 _ _ hq
    refine⟨bQ rfl,?_⟩
    refine⟨_,rfl,q,_,0,_,rfl,rfl,bg.of hq2,Nr,_,rfl,q,_,1,_,rfl,rfl,bg.of hq2,MK,_,rfl,_,_,rfl,rfl,(by show 2<=sizeLine;decide),λc hc=>⟨ys,(av.new hc) _ _ h2,?_,?_⟩⟩
    ·have:=yT.len
     rw[List.length_map,List.length_take]at this
     rw[sizeLine_eq]
     lia
    have hi:=(List.getElem?_eq_some_iff.mp ep).1
    have htk:sp.take (i+1)=sp.take i++[p]:=by rw[List.take_add_one,ep];rfl
    have ncr:c≠r:=λz=>by rw[z,h2]at hc;cases hc
    rw[htk,List.map_append]
    refine⟨λb u e=>?_,af,(yT.keep λb row e=>?_).snoc (w:=(p.1,p.2+L)) (by rw[ai ncr];exact af)⟩
    ·rw[ai (au e hr)]
     exact(av.new hc) _ _ (s2 _ _ e)
    ·rw[ai (aI e h2 (by intro z;cases z))]
     exact(av.new hc) _ _ e
   ·rintro ys H2 ⟨s2,h2,yT⟩
    rw[hlen,List.take_length]at yT
    exact key r ys H2 (sH.trans s2) (q_ sH hr) h2 yT
end
structure EA(pl:Pl)(ts:List Int)(sp:List (Int×Int)):Prop where
 nd:sp.Nodup
 gr:o_ pl=false->∀q,q∈sp↔AU pl q.1 q.2/\∃t∈ts,q.1<=t/\t<q.2
 pr:o_ pl=true->∀q∈sp,dD pl.len (λu=>u∈ts) q.1 q.2
 pc:o_ pl=true->∀t∈ts,∃q∈sp,q.1<=t/\t<=q.2-pl.len
 len:sp.length<=100*ts.length
inductive qY(K:Fg7)(vs:List V)(H:Hp)(Q:VK):Prop
 |mk(p a:Addr)(pl:Pl)(ts:List Int):(vs=[.ref p,.ref a])->(bg K H p pl.row)->(pl.ok)->(H a=some (.lst (ts.map V.int)))->(ts.length<=1000)->((∀t∈ts,-(10^45)<t/\t<10^45))->(∀(r:Addr)(ys:List V)(sp:List (Int×Int))(H':Hp),av H H'->H r=none->H' r=some (.lst ys)->EA pl ts sp->aE MU H' ys sp->Q (.ref r) H')->qY K vs H Q
def uN(K:Fg7):Sp:=λvs H Q d_=>qY K vs H Q
def addQ(sp:List (Int×Int))(q:Int×Int):List (Int×Int):=if q∈sp then sp else sp++[q]
theorem Dh{sp:List (Int×Int)}{q x:Int×Int}:x∈addQ sp q↔x∈sp\/x=q:=by
 unfold addQ
 by_cases h:q∈sp
 ·rw[if_pos h]
  exact⟨.inl,λz=>z.elim id λe=>e▸h⟩
 ·rw[if_neg h,List.mem_append,List.mem_singleton]
theorem Gw{sp:List (Int×Int)}{q:Int×Int}(n:sp.Nodup):(addQ sp q).Nodup:=by
 unfold addQ
 by_cases h:q∈sp
 ·rw[if_pos h];exact n
 ·rw[if_neg h]
  exact List.nodup_append.mpr ⟨n,(List.pairwise_singleton _ _),λa ma b mb e=>h (by rw[List.mem_singleton]at mb;rw[←mb,←e];exact ma)⟩
theorem Dl(sp:List (Int×Int))(q:Int×Int):(addQ sp q).length<=sp.length+1:=by
 unfold addQ
 split
 ·lia
 ·rw[List.length_append,List.length_singleton];lia
def GB(sp:List (Int×Int)):List (List Key×V):=sp.map λq=>(([.inl q.1,.inl q.2]:List Key),V.bl true)
theorem FZ(sp:List (Int×Int))(a b:Int):putK (GB sp) [.inl a,.inl b] (.bl true)=GB (addQ sp (a,b)):=by
 have inj:∀q:Int×Int,(([.inl q.1,.inl q.2]:List Key)=[.inl a,.inl b])↔q=(a,b):=λq=>
  ⟨λe=>by
   obtain⟨e1,e2⟩:=List.cons.inj e
   have e3:=(List.cons.inj e2).1
   exact Prod.ext (Sum.inl.inj e1) (Sum.inl.inj e3),λe=>by rw[e]⟩
 unfold putK addQ
 by_cases h:(a,b)∈sp
 ·have hy:((GB sp).any λkv=>decide (kv.1=[.inl a,.inl b]))=true:=List.any_eq_true.mpr ⟨(([.inl a,.inl b]:List Key),V.bl true),List.mem_map.mpr ⟨(a,b),h,rfl⟩,decide_eq_true rfl⟩
  rw[if_pos h,if_pos hy]
  refine(List.map_congr_left λkv m=>?_).trans (List.map_id _)
  obtain⟨q,_,rfl⟩:=List.mem_map.mp m
  dsimp only
  split<;>rfl
 ·rw[if_neg h,if_neg λz=>?_]
  ·unfold GB
   rw[List.map_append]
   rfl
  ·obtain⟨kv,m,e⟩:=List.any_eq_true.mp z
   obtain⟨q,mq,rfl⟩:=List.mem_map.mp m
   have:=(inj q).mp (of_decide_eq_true e)
   exact h (this▸mq)
theorem GD{H:Hp}:∀{sp:List (Int×Int)}{ys:List V},Paired (λ(y:V) (p:List Key×V)=>∃b,y=.ref b/\H b=some (.tup (p.1.map kV))) ys (GB sp)->aE MU H ys sp:=by
 intro sp
 induction sp with
 |nil=>intro ys h;cases h;exact .nil
 |cons q sp ih=>
  intro ys h
  cases h with
  |cons h1 h2=>exact .cons h1 (ih h2)
theorem Fe{stp len t k:Int}(s1:1<=stp):((t-len)/stp+1<=k/\k<t/stp+1)↔(k*stp<=t/\t<k*stp+len):=by
 have e1:k<=t/stp↔k*stp<=t:=Int.le_ediv_iff_mul_le LI
 have e2:(t-len)/stp<k↔t-len<k*stp:=Int.ediv_lt_iff_lt_mul LI
 constructor
 ·rintro⟨h1,h2⟩
  have:=e1.mp LI
  have:=e2.mp LI
  lia
 ·rintro⟨h1,h2⟩
  have:=e1.mpr h1
  have:=e2.mpr LI
  lia
theorem Ff{stp len t:Int}(s1:1<=stp)(ls:len<=100*stp):t/stp-(t-len)/stp<=100:=by
 have e2:(t-len)/stp<t/stp-100↔t-len<(t/stp-100)*stp:=Int.ediv_lt_iff_lt_mul LI
 have e3:t/stp*stp<=t:=Int.ediv_mul_le _ LI
 have:¬(t-len)/stp<t/stp-100:=λh=>by
  have:=e2.mp h
  rw[Int.sub_mul]at this
  lia
 lia
theorem uM{pl:Pl}(ip:o_ pl=true)(ok:pl.ok){ts ps:List Int}(hp:ps.Perm ts)(hs:ps.Pairwise (· <=·)):EA pl ts ((ps.foldl (dR pl.len) []).map λp=>(p.1,p.2+pl.len)):=by
 have l1:=ok.l1
 have C:=MA l1 ps hs
 have hf:=qg pl.len ps []
 generalize ps.foldl (dR pl.len) []=sp at *
 refine⟨?_,λnp=>(by rw[ip]at np;cases np),λ_ q mq=>?_,λ_ t mt=>?_,?_⟩
 ·refine List.pairwise_map.mpr (C.ap.imp_of_mem λ{p q} mp mq h e=>?_)
  have:=(C.el p mp).1
  have:=congrArg Prod.fst e
  simp only at this
  lia
 ·obtain⟨p,mp,rfl⟩:=List.mem_map.mp mq
  exact C.span l1 (λu=>hp.mem_iff.symm) mp
 ·obtain⟨p,mp,h1,h2⟩:=C.cv t (hp.mem_iff.mpr mt)
  exact⟨(p.1,p.2+pl.len),List.mem_map.mpr ⟨p,mp,rfl⟩,h1,by simp only;lia⟩
 ·rw[List.length_map]
  have:=hp.length_eq
  rw[List.length_nil]at hf
  lia
section
variable {P:Program} {w:World} {K:Fg7} {mg:Str->Option Value}
theorem AE(D:aO K "_law_spans_of" cD)(M:MG K mg)(B:Bi K)(qM:fQ P w K mg "_law_pauses" ["_law_times","_law_gap"] 1 (uL K)):fQ P w K mg "_law_spans_of" ["_law_plan","_law_times"] 2 (uN K):=by
 refine D.fn M cH nk (λvs H Q E h=>?_) (λf base cdv A outer s H vs Q E hr h=>?_)
 ·obtain⟨p,a,pl,ts,rfl,_⟩:=h
  rfl
 ·obtain⟨p,a,pl,ts,rfl,hp,ok,ha,hl,hb,k⟩:=h
  have hu1:=vB hr
  refine⟨_,(ao (bN (aQ eU (aF aY (pv 0) ah (λ_ _=>rfl)) cL (aP _)) (aA (aM (a_ qM (hr.mono (by decide)) rfl (pc (pv 1) (pc (aF aY (pv 0) ah (λ_ _=>rfl)) aj))))) aN)
   (ao (dc (i:=2) cH.nd rfl (Or.inl rfl) (aF aY (pv 0) ah (λ_ _=>rfl)))
   (mh (bN (aQ eU (aF aY (pv 0) ah (λ_ _=>rfl)) cL (aP _)) (aA (dc (i:=2) cH.nd rfl (Or.inl rfl) (aF aY (pv 0) ah (λ_ _=>rfl)))) aN)
   (ao (dc (i:=3) cH.nd rfl (Or.inl rfl) uW)
   (ao (fh PassesOwn.never rfl (bw (pv 1)) (aU (i:=4) cH.nd rfl (Or.inl rfl))
   (aA (fh PassesOwn.never rfl (wN rfl (M.no _ B.tR) (pc (aC gP (aC uY (aC pV (pv 4) (aF aY (pv 0) ah (λ_ _=>rfl))) (pv 2)) ah) (pc (aC gP (aC uY (pv 4) (pv 2)) ah) aj))) (aU (i:=5) cH.nd rfl (Or.inl rfl))
   (aA (yK hu1 (pv 3) (bD (pc (aC CV (pv 5) (pv 2)) (pc (aC gP (aC CV (pv 5) (pv 2)) (aF aY (pv 0) ah (λ_ _=>rfl))) aj))) gi rfl)))))
   (aA (aM (Gp (qm rfl) rfl (M.no _ B.ny) jh (pc (pv 3) aj))))))))),?_⟩
  refine⟨_,rfl,p,_,0,_,rfl,rfl,hp,Cz pl,rfl,_,rfl,aT (λh=>?_) (λh=>?_)⟩
  ·have e:=Ef h
   have ip:o_ pl=true:=by
    cases pl with
    |fixed l g=>exact absurd e OP
    |sliding l s g=>exact absurd e ON
    |pauses l g=>rfl
   exact⟨_,rfl,_,rfl,p,_,1,_,rfl,rfl,hp,pQ pl,a,ts,pl.len,rfl,ha,hl,λr ys ps H' s1 h0 h1 q1 q2 la=>k r ys _ H' s1 h0 h1 (uM ip ok q1 q2) la⟩
  have np:o_ pl=false:=by
   cases pl with
   |fixed l g=>rfl
   |sliding l s g=>rfl
   |pauses l g=>exact absurd (decide_eq_true rfl) h
  have l1:=ok.l1
  have l2:=ok.l2
  have s1:=ok.s1
  have s2:=ok.s2
  refine⟨_,rfl,p,_,1,_,rfl,rfl,hp,pQ pl,?_⟩
  refine⟨λσ H'=>σ=[some (.ref p),some (.ref a),some (.int pl.stp),none,none,none]/\H'=H,?_,?_⟩
  ·refine⟨_,rfl,p,_,0,_,rfl,rfl,hp,Cz pl,rfl,_,rfl,aT (λh=>?_) (λh=>?_)⟩
   ·have e:=Ef h
    refine⟨_,rfl,p,_,2,.int pl.stp,rfl,rfl,hp,?_,rfl,rfl⟩
    cases pl with
    |fixed l g=>exact absurd e OO
    |sliding l s g=>rfl
    |pauses l g=>cases np
   ·refine⟨?_,rfl⟩
    cases pl with
    |fixed l g=>rfl
    |sliding l s g=>exact absurd (decide_eq_true rfl) h
    |pauses l g=>cases np
  rintro σ H' ⟨rfl,rfl⟩
  intro d hd
  have sd:=av.new (o:=.dT []) hd
  refine⟨_,rfl,a,rfl,⟨_,bB.of (sd _ _ ha)⟩,?_⟩
  refine dQ (K:=K) (a:=a) (xs:=ts.map V.int) (λi σ H2=>∃(v4 v5:Option V) (sp:List (Int×Int)),σ=[some (.ref p),some (.ref a),some (.int pl.stp),some (.ref d),v4,v5]/\av H' H2/\H2 d=some (.dT (GB sp))/\sp.Nodup/\sp.length<=100*i/\∀q,q∈sp↔AU pl q.1 q.2/\∃t∈ts.take i,q.1<=t/\t<q.2)
   ⟨none,none,[],rfl,sd,af,.nil,Nat.le_refl _,λq=>⟨λh=>(nomatch h),λ⟨_,t,mt,_⟩=>(nomatch mt)⟩⟩ (λi σ H2 _ ⟨_,_,_,_,sm,_⟩=>bB.of (sm _ _ ha)) ?_ ?_
  ·rintro i x σ H2 ex ⟨v4,v5,sp,rfl,sm,h2,nd,SW,hm⟩
   rw[List.getElem?_map]at ex
   obtain⟨t,et,rfl⟩:=Option.map_eq_some_iff.mp ex
   have hi:i<ts.length:=(List.getElem?_eq_some_iff.mp et).1
   obtain⟨t1,t2⟩:=hb t (List.mem_of_getElem? et)
   have dq:=xG (a:=t-pl.len) (b:=10^46) s1 LI LI
   have dt:=xG (a:=t) (b:=10^46) s1 LI LI
   have few:=Ff (t:=t) s1 ok.ls
   have wi:∀k,_↔_:=λk=>Fe (len:=pl.len) (t:=t) (k:=k) s1
   have mono:(t-pl.len)/pl.stp<=t/pl.stp:=Int.ediv_le_ediv LI LI
   refine⟨_,rfl,_,rfl,p,_,1,_,rfl,rfl,sm.jG hp,pQ pl,_,_,rfl,rfl,_,rfl,_,_,rfl,rfl,⟨by lia,⟨by lia,by lia⟩⟩,_,_,rfl,rfl,_,rfl,_,rfl,_,_,rfl,rfl,⟨by lia,⟨by lia,by lia⟩⟩,_,_,rfl,rfl,_,_,rfl,?_⟩
   rw[CA]
   generalize (t-pl.len)/pl.stp=lo at *
   generalize t/pl.stp=hi' at *
   refine xC (lo:=lo+1) (st:=1) (n:=(hi'+1-(lo+1)).toNat) (λj σ H3=>∃(v5:Option V) (ue:List (Int×Int)),σ=[some (.ref p),some (.ref a),some (.int pl.stp),some (.ref d),some (.int t),v5]/\av H' H3/\H3 d=some (.dT (GB ue))/\ue.Nodup/\ue.length<=100*i+j/\∀q,q∈ue↔q∈sp\/∃m:Nat,m<j/\q=((lo+1+m)*pl.stp,(lo+1+m)*pl.stp+pl.len))
    ⟨v5,sp,rfl,sm,h2,nd,SW,λq=>⟨.inl,λz=>z.elim id λ⟨m,z,_⟩=>absurd z (Nat.not_lt_zero _)⟩⟩ ?_ ?_
   ·rintro j σ H3 hj ⟨v5,ue,rfl,So,h3,UR,hl3,SV⟩
    have fk:xU (lo+1+(j:Int)*1):=⟨by lia,by lia⟩
    have fs:xU pl.stp:=⟨by lia,by lia⟩
    refine⟨_,rfl,_,rfl,_,rfl,_,_,rfl,rfl,⟨fk,fs⟩,_,rfl,_,rfl,_,_,rfl,rfl,⟨fk,fs⟩,_,rfl,p,_,1,_,rfl,rfl,So.jG hp,pQ pl,_,_,rfl,rfl,(by show 2<=sizeLine;decide),λc hc=>?_⟩
    rw[Int.mul_one]at *
    refine⟨d,_,rfl,Bc.t (k:=[.inl ((lo+1+(j:Int))*pl.stp),.inl ((lo+1+(j:Int))*pl.stp+pl.len)]) ((av.new hc) _ _ h3) af ?_,?_⟩
    ·unfold GB
     rw[List.length_map,sizeLine_eq]
     lia
    rw[FZ]
    refine⟨_,addQ ue ((lo+1+(j:Int))*pl.stp,(lo+1+(j:Int))*pl.stp+pl.len),rfl,λb u e=>?_,af,Gw UR,?_,λq=>?_⟩
    ·rw[ai (au e hd)]
     exact(av.new hc) _ _ (So _ _ e)
    ·exact Nat.le_trans (Dl ue _) (by clear SV hm wi;lia)
    ·rw[Dh,SV]
     constructor
     ·rintro((z|⟨m,z,e⟩)|z)
      ·exact .inl z
      ·exact .inr ⟨m,by lia,e⟩
      ·exact .inr ⟨j,by lia,z⟩
     ·rintro(z|⟨m,z,e⟩)
      ·exact .inl (.inl z)
      ·by_cases hj':m<j
       ·exact .inl (.inr ⟨m,hj',e⟩)
       ·have:m=j:=by lia
        subst this
        exact .inr e
   ·rintro σ H3 ⟨v5,ue,rfl,So,h3,UR,hl3,SV⟩
    have htk:ts.take (i+1)=ts.take i++[t]:=by rw[List.take_add_one,et];rfl
    refine⟨_,v5,ue,rfl,So,h3,UR,by lia,λq=>?_⟩
    rw[SV,hm,htk]
    constructor
    ·rintro(⟨g,u,mu,z⟩|⟨m,z,rfl⟩)
     ·exact⟨g,u,List.mem_append_left _ mu,z⟩
     ·exact⟨⟨⟨_,rfl⟩,rfl⟩,t,List.mem_append_right _ (.head _),(wi _).mp ⟨by lia,by lia⟩⟩
    ·rintro⟨g,u,mu,z⟩
     rcases List.mem_append.mp mu with mu|mu
     ·exact .inl ⟨g,u,mu,z⟩
     ·rw[List.mem_singleton]at mu
      subst mu
      obtain⟨⟨m,e1⟩,e2⟩:=g
      rw[e2,e1]at z
      obtain⟨z1,z2⟩:=(wi m).mpr z
      refine .inr ⟨(m-(lo+1)).toNat,by lia,?_⟩
      have:lo+1+((m-(lo+1)).toNat:Int)=m:=by lia
      rw[this,←e1,←e2]
  ·rintro σ H2 ⟨v4,v5,sp,rfl,sm,h2,nd,SW,hm⟩
   rw[List.length_map]at SW hm
   rw[List.take_length]at hm
   refine⟨_,rfl,d,rfl,.inr ⟨_,.inl h2⟩,λl ys hl' kv=>?_⟩
   refine k l ys sp _ (sm.trans (av.new hl')) (q_ sm hl') af ⟨nd,λ_=>hm,λip=>(by rw[np]at ip;cases ip),λip=>(by rw[np]at ip;cases ip),SW⟩ (aE.keep ?_ λb row e=>(av.new hl') _ _ e)
   rcases kv with⟨kvs,rd,_⟩|⟨kvs,rd,pr⟩
   ·rcases rd with e|⟨o,e⟩ <;> · rw[h2]at e;cases e
   ·have e:kvs=GB sp:=by
     rcases rd with e|⟨o,e⟩
     ·rw[h2]at e;cases e;rfl
     ·rw[h2]at e;cases e
    subst e
    exact GD pr
end
def Ev.d(e:Ev):gx:=.ev e.n e.t e.a
inductive uI(K:Fg7)(vs:List V)(H:Hp)(Q:VK):Prop
 |mk(p a:Addr)(pl:Pl)(xs:List V)(aV:List Ev):(vs=[.ref p,.ref a])->(bg K H p pl.row)->(pl.ok)->(H a=some (.lst xs))->(aE (λe:Ev=>e.d.v) H xs aV)->(aV.length<=200)->((∀e∈aV,-(10^45)<e.t/\e.t<10^45))->(∀(r:Addr)(ys:List V)(ws:List Wn)(H':Hp),av H H'->H r=none->H' r=some (.lst ys)->Tab pl aV ws->ws.length<=4000000->(ws.map Wn.d).Pairwise (λd e=>aK d e≠.gt)->aE Wn.v H' ys ws->Q (.ref r) H')->uI K vs H Q
def yq(K:Fg7):Sp:=λvs H Q d_=>uI K vs H Q
def mine(aV:List Ev)(n:Str):List Ev:=aV.filter λe=>decide (e.n=n)
def x_(aV:List Ev)(n:Str):List Int:=(mine aV n).map Ev.t
def ins(aV:List Ev)(n:Str)(s e:Int):List Ev:=(mine aV n).filter λx=>decide (s<=x.t)&&decide (x.t<e)
theorem k_{aV:List Ev}{n:Str}{u:Int}:u∈x_ aV n↔eW aV n u:=by
 unfold x_ mine
 constructor
 ·intro h
  obtain⟨e,m,rfl⟩:=List.mem_map.mp h
  obtain⟨m1,m2⟩:=List.mem_filter.mp m
  exact⟨e,m1,of_decide_eq_true m2,rfl⟩
 ·rintro⟨e,m,h1,h2⟩
  exact List.mem_map.mpr ⟨e,List.mem_filter.mpr ⟨m,decide_eq_true h1⟩,h2⟩
theorem Ft(n:Str)(s e:Int):∀aV:List Ev,lT aV ⟨n,s,e⟩=(((ins aV n s e).length:Int),((ins aV n s e).map Ev.a).sum):=by
 intro aV
 induction aV with
 |nil=>rfl
 |cons x aV ih=>
  have e1:lT (x::aV) ⟨n,s,e⟩=cB (uX ⟨n,s,e⟩ x) (lT aV ⟨n,s,e⟩):=rfl
  rw[e1,ih]
  have e2:ins (x::aV) n s e=if je ⟨n,s,e⟩ x=true then x::ins aV n s e else ins aV n s e:=by
   unfold ins mine je
   by_cases h:x.n=n
   ·rw[List.filter_cons,if_pos (decide_eq_true h),List.filter_cons,decide_eq_true h,Bool.true_and]
   ·rw[List.filter_cons,if_neg (λz=>h (of_decide_eq_true z)),decide_eq_false h,Bool.false_and,if_neg Bool.false_ne_true]
  rw[e2]
  unfold uX cB
  by_cases h:je ⟨n,s,e⟩ x=true
  ·rw[if_pos h,if_pos h,List.length_cons,List.map_cons,List.sum_cons]
   simp only[Prod.mk.injEq,and_true]
   lia
  ·rw[if_neg h,if_neg h]
   simp only[Int.zero_add]
def wK(aV:List Ev)(n:Str)(q:Int×Int):Wn:=⟨n,q.1,q.2,(lT aV ⟨n,q.1,q.2⟩).1,(lT aV ⟨n,q.1,q.2⟩).2⟩
structure Pt(pl:Pl)(aV:List Ev)(N:Str->Prop)(ws:List Wn):Prop where
 nd:(ws.map Wn.k).Nodup
 el:∀w∈ws,N w.n/\∃sp,EA pl (x_ aV w.n) sp/\(w.s,w.e)∈sp/\(w.c,w.t)=lT aV w.k
 al:∀n,N n->∃sp,EA pl (x_ aV n) sp/\∀q∈sp,(⟨n,q.1,q.2⟩:Ky)∈ws.map Wn.k
theorem Pt.add{pl:Pl}{aV:List Ev}{N N':Str->Prop}{ws:List Wn}{n:Str}{sp:List (Int×Int)}(h:Pt pl aV N ws)(hn:¬N n)(hN:∀m,N' m↔N m\/m=n)(hs:EA pl (x_ aV n) sp):Pt pl aV N' (ws++sp.map (wK aV n)):=by
 refine⟨?_,λw mw=>?_,λm hm=>?_⟩
 ·rw[List.map_append,List.map_map]
  refine List.nodup_append.mpr ⟨h.nd,List.pairwise_map.mpr (hs.nd.imp λ{p q} ne e=>ne (Prod.ext (congrArg Ky.s e) (congrArg Ky.e e))),λk1 m1 k2 m2 e=>?_⟩
  ·obtain⟨w,mw,rfl⟩:=List.mem_map.mp m1
   obtain⟨q,mq,rfl⟩:=List.mem_map.mp m2
   have e':w.n=n:=congrArg Ky.n e
   exact hn (e'▸(h.el w mw).1)
 ·rcases List.mem_append.mp mw with mw|mw
  ·obtain⟨h1,h2⟩:=h.el w mw
   exact⟨(hN _).mpr (.inl h1),h2⟩
  ·obtain⟨q,mq,rfl⟩:=List.mem_map.mp mw
   exact⟨(hN _).mpr (.inr rfl),sp,hs,mq,rfl⟩
 ·rcases(hN m).mp hm with hm|rfl
  ·obtain⟨ue,h1,h2⟩:=h.al m hm
   exact⟨ue,h1,λq mq=>by rw[List.map_append];exact List.mem_append_left _ (h2 q mq)⟩
  ·exact⟨sp,hs,λq mq=>by rw[List.map_append];exact List.mem_append_right _ (List.mem_map.mpr ⟨wK aV m q,List.mem_map.mpr ⟨q,mq,rfl⟩,rfl⟩)⟩
theorem Pt.Ot{pl:Pl}{aV:List Ev}{N:Str->Prop}{ws cN:List Wn}(h:Pt pl aV N ws)(p:ws.Perm cN):Pt pl aV N cN:=
 ⟨(p.map Wn.k).nodup_iff.mp h.nd,λw mw=>h.el w (p.mem_iff.mpr mw),λn hn=>by
  obtain⟨sp,h1,h2⟩:=h.al n hn
  exact⟨sp,h1,λq mq=>(p.map Wn.k).mem_iff.mp (h2 q mq)⟩⟩
theorem Pt.tab{pl:Pl}{aV:List Ev}{N:Str->Prop}{ws:List Wn}(h:Pt pl aV N ws)(hN:∀e∈aV,N e.n):Tab pl aV ws:=by
 refine⟨h.nd,λk p g=>?_,λnp k mk=>?_,λnp e me k g i=>?_,λip k mk=>?_,λip e me=>?_⟩
 ·obtain⟨w,g1,rfl,rfl⟩:=tW g
  obtain⟨_,sp,_,_,e⟩:=h.el w (gR g1).1
  exact e
 ·obtain⟨w,mw,rfl⟩:=List.mem_map.mp mk
  obtain⟨_,sp,h1,h2,_⟩:=h.el w mw
  obtain⟨g,t,mt,z1,z2⟩:=(h1.gr np _).mp h2
  obtain⟨e,me,e1,e2⟩:=k_.mp mt
  subst e2
  exact⟨g,e,me,eV.mpr ⟨e1,z1,z2⟩⟩
 ·obtain⟨i1,i2,i3⟩:=eV.mp i
  obtain⟨sp,h1,h2⟩:=h.al k.n (i1▸hN e me)
  exact h2 (k.s,k.e) ((h1.gr np _).mpr ⟨g,e.t,k_.mpr ⟨e,me,i1,rfl⟩,i2,i3⟩)
 ·obtain⟨w,mw,rfl⟩:=List.mem_map.mp mk
  obtain⟨_,sp,h1,h2,_⟩:=h.el w mw
  have z:=h1.pr ip _ h2
  have e:(λu=>u∈x_ aV w.n)=eW aV w.n:=funext λu=>propext k_
  rw[e]at z
  exact z
 ·obtain⟨sp,h1,h2⟩:=h.al e.n (hN e me)
  obtain⟨q,mq,z⟩:=h1.pc ip e.t (k_.mpr ⟨e,me,rfl,rfl⟩)
  exact⟨⟨e.n,q.1,q.2⟩,h2 q mq,rfl,z⟩
theorem KS:∀{l r:List Str},l.Nodup->(∀z∈l,z∈r)->l.length<=r.length:=by
 intro l
 induction l with
 |nil=>intro r _ _;exact Nat.zero_le _
 |cons a l ih=>
  intro r nd h
  obtain⟨n1,n2⟩:=List.nodup_cons.mp nd
  have ma:=h a (.head _)
  have:=ih (r:=r.erase a) n2 λz mz=>(List.mem_erase_of_ne (λe:z=a=>n1 (e▸mz))).mpr (h z (.tail _ mz))
  rw[List.length_erase_of_mem ma]at this
  have:=List.length_pos_of_mem ma
  rw[List.length_cons]
  lia
theorem Gv:∀{l:List Str}{i:Nat}{n:Str},l.Nodup->l[i]? = some n->n∉l.take i:=by
 intro l
 induction l with
 |nil=>intro i n _ h;cases h
 |cons a l ih=>
  intro i n nd h
  obtain⟨n1,n2⟩:=List.nodup_cons.mp nd
  cases i with
  |zero=>exact λz=>(nomatch z)
  |succ i=>
   rw[List.getElem?_cons_succ]at h
   rw[List.take_succ_cons]
   intro z
   rcases List.mem_cons.mp z with rfl|z
   ·exact n1 (List.mem_of_getElem? h)
   ·exact ih n2 h z
section
variable {P:Program} {w:World} {K:Fg7} {mg:Str->Option Value}
theorem G_(D:aO K "_law_table_of" bS)(M:MG K mg)(B:Bi K)(oK:fQ P w K mg "_law_spans_of" ["_law_plan","_law_times"] 2 (uN K)):fQ P w K mg "_law_table_of" ["_law_plan","_law_events"] 3 (yq K):=by
 refine D.fn M cG nj (λvs H Q E h=>?_) (λf base cdv A outer s H vs Q E hr h=>?_)
 ·obtain⟨p,a,pl,xs,aV,rfl,_⟩:=h
  rfl
 ·obtain⟨p,a,pl,xs,aV,rfl,hp,ok,ha,la,hl,hb,k⟩:=h
  have hu:(A.deeper (envOfC "_law_table_of" (aq bS) s.heap.objs.size f cdv)).units+64<cLine:=hr.units
  refine⟨_,(ao (dc (i:=2) cG.nd rfl (Or.inl rfl) (cy aj))
   (ao (fh PassesOwn.never rfl (bw (wQ rfl hu rfl (M.no _ B.gS) rfl (M.no _ B.RK) (eT (NY:=["_law_event"]) (js:=[none]) rfl rfl (by with_unfolding_all rfl) (by repeat first|exact bY.nil|refine bY.cons rfl ?_) (.own .nil) (bw (pv 1)) (λ_ _ _ _ _=>⟨(aU (i:=0) (show(["_law_event"]:List Str).Nodup from by decide +kernel) rfl (Or.inl rfl)),dU,(aF (bh (K:=K) rfl) (pv 0) ah (λ_ _=>rfl))⟩)))) (aU (i:=3) cG.nd rfl (Or.inr rfl))
   (ao (gB (k:=4) (NY:=["_law_event","_law_name"]) (js:=[none,some 3]) rfl cG.nd rfl rfl rfl (by with_unfolding_all rfl) (by repeat first|exact bY.nil|refine bY.cons rfl ?_) (.own (.out rfl rfl (.inl rfl) .nil)) (bw (pv 1)) (λ_ _ _ _ _=>⟨(aU (i:=0) (show(["_law_event","_law_name"]:List Str).Nodup from by decide +kernel) rfl (Or.inl rfl)),(ic (aQ eU (aF (bh (K:=K) rfl) (pv 0) ah (λ_ _=>rfl)) (pv 1) (aP _))),(pv 0)⟩))
   (aA (fh PassesOwn.never rfl (bw (a_ oK (hr.mono (by decide)) rfl (pc (pv 0) (pc (eT (NY:=["_law_event"]) (js:=[none]) rfl rfl (by with_unfolding_all rfl) (by repeat first|exact bY.nil|refine bY.cons rfl ?_) (.own .nil) (bw (pv 4)) (λ_ _ _ _ _=>⟨(aU (i:=0) (show(["_law_event"]:List Str).Nodup from by decide +kernel) rfl (Or.inl rfl)),dU,(aF (bh (K:=K) rfl) (pv 0) ah (λ_ _=>rfl))⟩)) aj)))) (aU (i:=5) cG.nd rfl (Or.inr rfl))
   (ao (gB (k:=6) (NY:=["_law_event","_law_span"]) (js:=[none,some 5]) rfl cG.nd rfl rfl rfl (by with_unfolding_all rfl) (by repeat first|exact bY.nil|refine bY.cons rfl ?_) (.own (.out rfl rfl (.inl rfl) .nil)) (bw (pv 4)) (λ_ _ _ _ _=>⟨(aU (i:=0) (show(["_law_event","_law_span"]:List Str).Nodup from by decide +kernel) rfl (Or.inl rfl)),(ic (uU oLe oLt (aF (bh (K:=K) rfl) (pv 1) ah (λ_ _=>rfl)) (aF (bh (K:=K) rfl) (pv 0) ah (λ_ _=>rfl)) (aF (bh (K:=K) rfl) (pv 1) ah (λ_ _=>rfl)))),(aF (bh (K:=K) rfl) (pv 0) ah (λ_ _=>rfl))⟩))
   (aA (iJ (pT PySem.F.plainAttrs_list PySem.F.slot_list_append PySem.F.type_list_append eL (pv 2) (pc (bD (pc (pv 3) (pc (aF aY (pv 5) ah (λ_ _=>rfl)) (pc (aF aY (pv 5) ah (λ_ _=>rfl)) (pc (aZ bV rfl (M.no _ B.jC) gG (pc (pv 6) aj)) (pc (aZ (AK rfl) rfl (M.no _ B.RJ) MB (pc (pv 6) aj)) aj)))))) aj)))))))))
   (aA (aM (aZ (fU hu) rfl (M.no _ B.gS) f_ (pc (pv 2) aj)))))),?_⟩
  refine⟨(by show 0<=sizeLine;decide),λsl hsl=>?_⟩
  have s1:=av.new (o:=.lst []) hsl
  have hs0:upd H sl (.lst []) sl=some (.lst []):=af
  obtain⟨H1,eH1⟩:∃H1,H1=upd H sl (.lst []):=⟨_,rfl⟩
  rw[←eH1]at s1 hs0 ⊢
  refine⟨_,rfl,a,rfl,⟨_,bB.of (s1 _ _ ha)⟩,λnl hnl=>?_⟩
  refine cU (K:=K) (a:=a) (xs:=xs) (λi ys H2=>H2=upd H1 nl (.lst ys)/\ys=(aV.take i).map λe=>V.str e.n) ⟨rfl,rfl⟩ (λi ys H2 h=>by rw[h.1];exact af) (λi ys H2 _ h=>by rw[h.1];exact bB.of ((av.new hnl) _ _ (s1 _ _ ha))) ?_ ?_
  ·rintro i x ys H2 ex ⟨rfl,rfl⟩
   obtain⟨e,b,ee,rfl,hb'⟩:=la.get ex
   refine⟨bQ rfl,?_⟩
   have htk:aV.take (i+1)=aV.take i++[e]:=by rw[List.take_add_one,ee];rfl
   refine⟨_,rfl,b,_,1,.str e.n,rfl,rfl,bg.of ((av.new hnl) _ _ (s1 _ _ hb')),MK,_,af,?_,?_,?_⟩
   ·rw[List.length_map,List.length_take,sizeLine_eq]
    lia
   ·rw[fR]
   ·rw[htk,List.map_append]
    rfl
  rintro ys H2 ⟨rfl,rfl⟩
  have lax:=la.len
  have en:(aV.take xs.length).map (λe=>V.str e.n)=(aV.map Ev.n).map V.str:=by
   rw[lax,List.take_length,List.map_map]
   rfl
  rw[en]
  refine⟨nl,aV.map Ev.n,rfl,bB.of af,(by rw[List.length_map];exact Nat.lt_of_le_of_lt (Nat.add_le_add_right hl 1) (by decide)),⟨by rw[List.length_map];lia,by rw[List.length_map];show _<10000001;lia⟩,λll ns Ax Xu OI _=>?_⟩
  have ZY:ns.length<=200:=by
   have:=KS Xu λz mz=>(OI z).mp mz
   rw[List.length_map]at this
   lia
  have Sz:nl≠sl:=λz=>by rw[z,hs0]at hnl;cases hnl
  have lls:ll≠sl:=λz=>by rw[z,ai Sz.symm,hs0]at Ax;cases Ax
  have s3:∀b u,H1 b=some u->upd (upd H1 nl (.lst ((aV.map Ev.n).map V.str))) ll (.lst (ns.map V.str)) b=some u:=λb u e=>(av.new Ax) _ _ ((av.new hnl) _ _ e)
  have Yz:upd (upd H1 nl (.lst ((aV.map Ev.n).map V.str))) ll (.lst (ns.map V.str)) ll=some (.lst (ns.map V.str)):=af
  generalize upd (upd H1 nl (.lst ((aV.map Ev.n).map V.str))) ll (.lst (ns.map V.str))=H3 at *
  have las:a≠sl:=au ha hsl
  refine⟨ll,rfl,⟨_,bB.of Yz⟩,?_⟩
  refine dQ (K:=K) (a:=ll) (xs:=ns.map V.str) (λi σ H'=>∃(v3 v4 v5 v6:Option V) (zs:List V) (ws:List Wn),σ=[some (.ref p),some (.ref a),some (.ref sl),v3,v4,v5,v6]/\(∀b u,b≠sl->H3 b=some u->H' b=some u)/\H' sl=some (.lst zs)/\aE Wn.v H' zs ws/\Pt pl aV (λm=>m∈ns.take i) ws/\ws.length<=20000*i)
   ⟨none,none,none,none,[],[],rfl,λ_ _ _ e=>e,s3 _ _ hs0,.nil,⟨.nil,λ_ h=>(nomatch h),λ_ h=>(nomatch h)⟩,Nat.le_refl _⟩ (λi σ H' _ ⟨_,_,_,_,_,_,_,sm,_⟩=>bB.of (sm _ _ lls Yz)) ?_ ?_
  ·rintro i x σ H' ex ⟨v3,v4,v5,v6,zs,ws,rfl,sm,hz,lw,pt,wl⟩
   rw[List.getElem?_map]at ex
   obtain⟨n,et,rfl⟩:=Option.map_eq_some_iff.mp ex
   have hi:i<ns.length:=(List.getElem?_eq_some_iff.mp et).1
   have htk:ns.take (i+1)=ns.take i++[n]:=by rw[List.take_add_one,et];rfl
   have sa:∀b u,H b=some u->H' b=some u:=λb u e=>sm b u (au e hsl) (s3 _ _ (s1 _ _ e))
   refine⟨_,rfl,a,rfl,⟨_,bB.of (sa _ _ ha)⟩,λml hml=>?_⟩
   refine cU (K:=K) (a:=a) (xs:=xs) (λi ys H2=>H2=upd H' ml (.lst ys)/\aE (λe:Ev=>e.d.v) H' ys (mine (aV.take i) n)) ⟨rfl,.nil⟩ (λi ys H2 h=>by rw[h.1];exact af) (λi ys H2 _ h=>by rw[h.1];exact bB.of ((av.new hml) _ _ (sa _ _ ha))) ?_ ?_
   ·rintro i x ys H2 ex ⟨rfl,yT⟩
    obtain⟨e,b,ee,rfl,hb'⟩:=la.get ex
    have htk:aV.take (i+1)=aV.take i++[e]:=by rw[List.take_add_one,ee];rfl
    have hb2:=(av.new (o:=.lst ys) hml) _ _ (sa _ _ hb')
    refine⟨bQ rfl,?_⟩
    refine⟨_,rfl,b,_,1,.str e.n,rfl,rfl,bg.of hb2,MK,_,rfl,rfl,_,rfl,aT (λh=>?_) (λh=>?_)⟩
    ·have hn:e.n=n:=Ef h
     refine⟨_,rfl,ys,af,?_,by rw[fR],?_⟩
     ·have:=yT.len
      have:=List.length_filter_le (λx:Ev=>decide (x.n=n)) (aV.take i)
      have:=List.length_take_le i aV
      have:(mine (aV.take i) n).length<=aV.length:=by
       refine Nat.le_trans (List.length_filter_le _ _) ?_
       rw[List.length_take]
       lia
      rw[sizeLine_eq]
      lia
     ·unfold mine
      rw[htk,List.filter_append,List.filter_cons,if_pos (decide_eq_true hn),List.filter_nil]
      exact yT.snoc (sa _ _ hb')
    ·have hn:¬e.n=n:=λz=>h (decide_eq_true (by rw[z]))
     refine⟨ys,rfl,?_⟩
     unfold mine
     rw[htk,List.filter_append,List.filter_cons,if_neg (λz=>hn (of_decide_eq_true z)),List.filter_nil,List.append_nil]
     exact yT
   rintro ms H2 ⟨rfl,lm⟩
   rw[lax,List.take_length]at lm
   have s4:∀b u,H' b=some u->upd H' ml (.lst ms) b=some u:=λb u e=>(av.new hml) _ _ e
   have Wc:upd H' ml (.lst ms) ml=some (.lst ms):=af
   generalize upd H' ml (.lst ms)=H4 at *
   have XN:=lm.keep λb row e=>s4 _ _ e
   have XM:=lm.len
   have lmn:(mine aV n).length<=200:=Nat.le_trans (List.length_filter_le _ _) hl
   have nms:ml≠sl:=λz=>by rw[z,hz]at hml;cases hml
   refine⟨_,rfl,_,rfl,ml,rfl,⟨_,bB.of Wc⟩,λtl EU=>?_⟩
   refine cU (K:=K) (a:=ml) (xs:=ms) (λi ys H2=>H2=upd H4 tl (.lst ys)/\ys=((mine aV n).take i).map λe=>V.int e.t) ⟨rfl,rfl⟩ (λi ys H2 h=>by rw[h.1];exact af) (λi ys H2 _ h=>by rw[h.1];exact bB.of ((av.new EU) _ _ Wc)) ?_ ?_
   ·rintro i x ys H2 ex ⟨rfl,rfl⟩
    obtain⟨e,b,ee,rfl,hb'⟩:=XN.get ex
    refine⟨bQ rfl,?_⟩
    have htk:(mine aV n).take (i+1)=(mine aV n).take i++[e]:=by rw[List.take_add_one,ee];rfl
    refine⟨_,rfl,b,_,2,.int e.t,rfl,rfl,bg.of ((av.new EU) _ _ hb'),rfl,_,af,?_,?_,?_⟩
    ·rw[List.length_map,List.length_take,sizeLine_eq]
     lia
    ·rw[fR]
    ·rw[htk,List.map_append]
     rfl
   rintro ys5 H5 ⟨rfl,rfl⟩
   have et5:((mine aV n).take ms.length).map (λe=>V.int e.t)=(x_ aV n).map V.int:=by
    unfold x_
    rw[XM,List.take_length,List.map_map]
    rfl
   rw[et5]
   have s5:∀b u,H4 b=some u->upd H4 tl (.lst ((x_ aV n).map V.int)) b=some u:=λb u e=>(av.new EU) _ _ e
   have tl1:(x_ aV n).length<=200:=by unfold x_;rw[List.length_map];exact lmn
   refine⟨p,tl,pl,x_ aV n,rfl,?_,ok,af,by lia,λt mt=>?_,λr ys sp H6 s6 Yc Qf so OX=>?_⟩
   ·exact(show av H (upd H4 tl (.lst ((x_ aV n).map V.int)))from λb u e=>s5 _ _ (s4 _ _ (sa _ _ e))).jG hp
   ·obtain⟨e,me,_,rfl⟩:=k_.mp mt
    exact hb e me
   generalize upd H4 tl (.lst ((x_ aV n).map V.int))=H5 at *
   have MS:∀b u,H4 b=some u->H6 b=some u:=λb u e=>s6 _ _ (s5 _ _ e)
   have spl:=so.len
   have Va:=OX.len
   refine⟨r,rfl,⟨_,bB.of Qf⟩,?_⟩
   have ZF:r≠sl:=λz=>by
    rw[z,s5 _ _ (s4 _ _ hz)]at Yc
    cases Yc
   refine dQ (K:=K) (a:=r) (xs:=ys) (λj σ H7=>∃(v5 v6:Option V) (zs':List V),σ=[some (.ref p),some (.ref a),some (.ref sl),some (.str n),some (.ref ml),v5,v6]/\(∀b u,b≠sl->H6 b=some u->H7 b=some u)/\H7 sl=some (.lst zs')/\aE Wn.v H7 zs' (ws++(sp.take j).map (wK aV n)))
    ⟨v5,v6,zs,rfl,λ_ _ _ e=>e,MS _ _ (s4 _ _ hz),?_⟩ (λj σ H7 _ ⟨_,_,_,_,Im,_⟩=>bB.of (Im _ _ ZF Qf)) ?_ ?_
   ·rw[List.take_zero,List.map_nil,List.append_nil]
    exact lw.keep λb row e=>MS _ _ (s4 _ _ e)
   ·rintro j x σ H7 ex ⟨v5,v6,zs',rfl,Im,Nb,OV⟩
    obtain⟨q,c,eq,rfl,hc⟩:=OX.get ex
    have hj:j<sp.length:=(List.getElem?_eq_some_iff.mp eq).1
    have csl:c≠sl:=aI hc (MS _ _ (s4 _ _ hz)) (by intro z;cases z)
    have VU:=Im _ _ csl hc
    have Yn:=Im _ _ nms (MS _ _ Wc)
    have lm7:aE (λe:Ev=>e.d.v) H7 ms (mine aV n):=XN.keep λb row e=>Im _ _ (aI e (s4 _ _ hz) (by intro z;cases z)) (MS _ _ e)
    refine⟨_,rfl,ml,rfl,⟨_,bB.of Yn⟩,λil hil=>?_⟩
    refine cU (K:=K) (a:=ml) (xs:=ms) (λi ys H2=>H2=upd H7 il (.lst ys)/\ys=((((mine aV n).take i).filter λx=>decide (q.1<=x.t)&&decide (x.t<q.2)).map Ev.a).map V.int) ⟨rfl,rfl⟩ (λi ys H2 h=>by rw[h.1];exact af) (λi ys H2 _ h=>by rw[h.1];exact bB.of ((av.new hil) _ _ Yn)) ?_ ?_
    ·rintro i x ys H2 ex ⟨rfl,rfl⟩
     obtain⟨e,b,ee,rfl,hb'⟩:=lm7.get ex
     have htk:(mine aV n).take (i+1)=(mine aV n).take i++[e]:=by rw[List.take_add_one,ee];rfl
     have hb2:=λo=>(av.new (o:=o) hil) _ _ hb'
     have hc2:=λo=>(av.new (o:=o) hil) _ _ VU
     refine⟨bQ rfl,?_⟩
     have out:(decide (q.1<=e.t)&&decide (e.t<q.2))≠true->∀zs,zs=((((mine aV n).take i).filter λx=>decide (q.1<=x.t)&&decide (x.t<q.2)).map Ev.a).map V.int->∃zs',upd H7 il (.lst zs)=upd H7 il (.lst zs')/\zs'=((((mine aV n).take (i+1)).filter λx=>decide (q.1<=x.t)&&decide (x.t<q.2)).map Ev.a).map V.int:=λh zs ez=>⟨zs,rfl,by
      rw[htk,List.filter_append,List.filter_cons,if_neg h,List.filter_nil,List.append_nil];exact ez⟩
     refine⟨_,rfl,c,_,0,.int q.1,rfl,rfl,bg.of (hc2 _),rfl,_,rfl,b,_,2,.int e.t,rfl,rfl,bg.of (hb2 _),rfl,_,_,rfl,rfl,_,rfl,aT (λh1=>⟨_,rfl,c,_,1,.int q.2,rfl,rfl,bg.of (hc2 _),rfl,_,_,rfl,rfl,_,rfl,aT (λh2=>?_) (λh2=>?_)⟩) (λh1=>⟨_,rfl,aT (λz=>absurd z Bool.false_ne_true) (λ_=>?_)⟩)⟩
     ·refine⟨_,rfl,b,_,3,.int e.a,rfl,rfl,bg.of (hb2 _),rfl,_,af,?_,by rw[fR],?_⟩
      ·rw[List.length_map,List.length_map,sizeLine_eq]
       have:=List.length_filter_le (λx:Ev=>decide (q.1<=x.t)&&decide (x.t<q.2)) ((mine aV n).take i)
       rw[List.length_take]at this
       lia
      ·rw[htk,List.filter_append,List.filter_cons,if_pos (by rw[h1,h2];rfl),List.filter_nil,List.map_append,List.map_append]
       rfl
     ·exact out (λz=>h2 ((Bool.and_eq_true _ _).mp z).2) _ rfl
     ·exact out (λz=>h1 ((Bool.and_eq_true _ _).mp z).1) _ rfl
    rintro ys8 H8 ⟨rfl,rfl⟩
    rw[XM,List.take_length]
    have e8:((mine aV n).filter λx=>decide (q.1<=x.t)&&decide (x.t<q.2))=ins aV n q.1 q.2:=rfl
    rw[e8]
    have s8:∀b u,H7 b=some u->upd H7 il (.lst (((ins aV n q.1 q.2).map Ev.a).map V.int)) b=some u:=λb u e=>(av.new hil) _ _ e
    have h8:upd H7 il (.lst (((ins aV n q.1 q.2).map Ev.a).map V.int)) il=some (.lst (((ins aV n q.1 q.2).map Ev.a).map V.int)):=af
    generalize upd H7 il (.lst (((ins aV n q.1 q.2).map Ev.a).map V.int))=H8 at *
    have htk:sp.take (j+1)=sp.take j++[q]:=by rw[List.take_add_one,eq];rfl
    have Wk:(wK aV n q).v=[.str n,.int q.1,.int q.2,.int ((((ins aV n q.1 q.2).map Ev.a).map V.int).length:Int),.int ((ins aV n q.1 q.2).map Ev.a).sum]:=by
     unfold wK
     rw[Ft,List.length_map,List.length_map]
     rfl
    refine⟨_,rfl,.inl ⟨rfl,_,bB.of (s8 _ _ Nb)⟩,_,rfl,_,rfl,c,_,0,.int q.1,rfl,rfl,bg.of (s8 _ _ VU),rfl,_,rfl,c,_,1,.int q.2,rfl,rfl,bg.of (s8 _ _ VU),rfl,_,rfl,il,_,rfl,.inl (bB.of h8),_,rfl,il,(ins aV n q.1 q.2).map Ev.a,rfl,bB.of h8,(by show 5<=sizeLine;decide),λrw' hrw=>⟨sl,_,.ref rw',rfl,rfl,(av.new hrw) _ _ (s8 _ _ Nb),?_,?_⟩⟩
    ·rw[OV.len,List.length_append,List.length_map,List.length_take,sizeLine_eq]
     lia
    ·rw[←Wk]
     have Uw:rw'≠sl:=λz=>by rw[z,s8 _ _ Nb]at hrw;cases hrw
     have up:∀b row,H7 b=some (.tup row)->upd (upd H8 rw' (.tup (wK aV n q).v)) sl (.lst (zs'++[.ref rw'])) b=some (.tup row):=λb row e=>by
      rw[ai (aI e Nb (by intro z;cases z))]
      exact(av.new hrw) _ _ (s8 _ _ e)
     refine⟨_,_,zs'++[.ref rw'],rfl,λb u nb e=>?_,af,?_⟩
     ·rw[ai nb]
      exact(av.new hrw) _ _ (s8 _ _ (Im b u nb e))
     ·rw[htk,List.map_append,←List.append_assoc]
      exact(OV.keep up).snoc (by rw[ai Uw];exact af)
   ·rintro σ H7 ⟨v5,v6,zs',rfl,Im,Nb,OV⟩
    rw[Va,List.take_length]at OV
    have Zw:∀b u,b≠sl->H3 b=some u->H7 b=some u:=λb u nb e=>Im b u nb (MS _ _ (s4 _ _ (sm b u nb e)))
    refine⟨_,_,v5,v6,zs',ws++sp.map (wK aV n),rfl,Zw,Nb,OV,pt.add (n:=n) (λz=>?_) (λm=>?_) so,?_⟩
    ·exact Gv Xu et z
    ·rw[htk,List.mem_append,List.mem_singleton]
    ·rw[List.length_append,List.length_map]
     lia
  ·rintro σ H' ⟨v3,v4,v5,v6,zs,ws,rfl,sm,hz,lw,pt,wl⟩
   rw[List.length_map]at wl pt
   rw[List.take_length]at pt
   have sH:av H H':=λb u e=>sm b u (au e hsl) (s3 _ _ (s1 _ _ e))
   refine⟨_,rfl,sl,zs,_,Sq,rfl,bB.of hz,lw.Mr (λa w h=>Cy h),(λd hd=>?_),rfl,(by decide),?_,λl2 ps hl2 pm pw=>?_⟩
   ·obtain⟨q,_,rfl⟩:=List.mem_map.mp hd
    exact Cm q
   ·rw[lw.len]
    exact⟨by lia,by show _<10000001;lia⟩
   ·obtain⟨rs,a1,a2,a3⟩:=Am (λ_ _=>Wn.JR) lw pm
    exact k l2 _ rs _ (sH.trans (av.new hl2)) (sH.free hl2) af ((pt.Ot a1.symm).tab λe me=>(OI e.n).mpr (List.mem_map.mpr ⟨e,me,rfl⟩)) (by rw[a1.length_eq];lia) (by rw[←a3];exact pw) (a2.keep λa row e=>(av.new hl2) _ _ e)
end
end K3
namespace K2
open PySem PySem.Spec PyProof.Rows L2 K1
def lR(K:Fg7)(H:Hp):List V->List gx->Prop:=Paired λx dd=>∃b,x=.ref b/\bg K H b dd.v
def EB(H:Hp):List V->List (List dS)->Prop:=Paired λx out=>∃l zs,x=.ref l/\H l=some (.lst zs)/\aE dS.v H zs out
def nB(H:Hp)(m r:Addr):List V->List (List dS)->Prop:=Paired λx out=>∃l zs,x=.ref l/\l≠m/\l≠r/\H l=some (.lst zs)/\aE dS.v H zs out
theorem lR.get{K:Fg7}{H:Hp}{xs:List V}{ds:List gx}{i:Nat}{x:V}(h:lR K H xs ds)(e:xs[i]? = some x):∃d b,ds[i]? = some d/\x=.ref b/\bg K H b d.v:=by
 obtain⟨k,ek,a,r⟩:=Paired.getL h e
 exact⟨k,a,ek,r⟩
theorem lR.len{K:Fg7}{H:Hp}{xs:List V}{ds:List gx}(h:lR K H xs ds):xs.length=ds.length:=Paired.length h
inductive Ci(K:Fg7)(mg:Str->Option Value)(Pt:Addr)(vs:List V)(H:Hp)(Q:VK):Prop
 |mk(p dl:Addr)(pl:Pl)(xs:List V)(jg:List gx):(vs=[.ref p,.ref dl])->(bg K H p pl.row)->(bad pl=false)->(pl.ok)->(bB K H dl xs)->(lR K H xs jg)->((∀dd∈jg,dd.ok))->(jg.length<=1000)->((∀i outs st,Runs pl ⟨none,[],[]⟩ (jg.take i) outs st->st.ws.length<TS.MX))->(dJ H Pt lp lq)->(gD K mg H)->(∀(l:Addr)(ys:List V)(outs:List (List dS))(st:vR)(H':Hp),Runs pl ⟨none,[],[]⟩ jg outs st->iD H H' Pt->H l=none->H' l=some (.lst ys)->EB H' ys outs->dJ H' Pt lp lq->Q (.ref l) H')->Ci K mg Pt vs H Q
def Ik(K:Fg7)(mg:Str->Option Value)(Pt:Addr):Sp:=λvs H Q d_=>Ci K mg Pt vs H Q
theorem rX.tup{H H':Hp}{C x dx p d m Pt:Addr}{mk:V}{kvs:List (List Key×V)}{mx:List V}{ps:Array Value}(k:rX H H' x d m Pt)(hx:H x=some (.ins C dx (eS p mk d m)))(hd:H d=some (.dT kvs))(hm:H m=some (.lst mx))(hP:H Pt=some (.oj ps)):∀a row,H a=some (.tup row)->H' a=some (.tup row):=
 λa row e=>k a _ e (aI e hx (by intro z;cases z)) (aI e hd (by intro z;cases z)) (aI e hm (by intro z;cases z)) (aI e hP (by intro z;cases z))
theorem rX.ef{H H':Hp}{C x dx p d m Pt:Addr}{mk:V}{kvs:List (List Key×V)}{mx:List V}{ps:Array Value}(k:rX H H' x d m Pt)(hx:H x=some (.ins C dx (eS p mk d m)))(hd:H d=some (.dT kvs))(hm:H m=some (.lst mx))(hP:H Pt=some (.oj ps)):∀a o u,H a=some (.ef o u)->H' a=some (.ef o u):=
 λa o u e=>k a _ e (aI e hx (by intro z;cases z)) (aI e hd (by intro z;cases z)) (aI e hm (by intro z;cases z)) (aI e hP (by intro z;cases z))
theorem gu.keep{K:Fg7}{C:Addr}{H H':Hp}{x p d m:Addr}{pl:Pl}{mk:Option Int}{ws:List Wn}{ms:List (Str×Int×Int)}(DA:gu K C H x p d m pl mk ws ms)(kx:∀o,H x=some o->H' x=some o)(kd:∀o,H d=some o->H' d=some o)(km:∀o,H m=some o->H' m=some o)
  (tp:∀a row,H a=some (.tup row)->H' a=some (.tup row))(fz:∀a o u,H a=some (.ef o u)->H' a=some (.ef o u)):gu K C H' x p d m pl mk ws ms:=by
 obtain⟨⟨dx,hx⟩,hp,⟨kvs,hd,hw⟩,⟨mx,hm,GQ⟩,nd⟩:=DA
 exact⟨⟨dx,kx _ hx⟩,kP tp fz hp,⟨kvs,kd _ hd,hw.keep tp⟩,⟨mx,km _ hm,GQ.keep tp⟩,nd⟩
theorem nB.keep{H H':Hp}{m r:Addr}{ys:List V}{outs:List (List dS)}(h:nB H m r ys outs)(kl:∀l zs,l≠m->l≠r->H l=some (.lst zs)->H' l=some (.lst zs))(tp:∀a row,H a=some (.tup row)->H' a=some (.tup row)):nB H' m r ys outs:=
 Paired.imp' (λ_ _ ⟨l,zs,e,n1,n2,h1,h2⟩=>⟨l,zs,e,n1,n2,kl l zs n1 n2 h1,h2.keep tp⟩) h
theorem nB.out{H:Hp}{m r:Addr}{ys:List V}{outs:List (List dS)}(h:nB H m r ys outs):EB H ys outs:=Paired.imp' (λ_ _ ⟨l,zs,e,_,_,h1,h2⟩=>⟨l,zs,e,h1,h2⟩) h
theorem zN{H:Hp}{x dx:Addr}{o u:HO}(nx:H x=none)(UO:H dx=none):av H (upd (upd H dx u) x o):=λb z e=>by rw[ai (au e nx),ai (au e UO)];exact e
section
variable {P:Program} {w:World} {K:Fg7} {mg:Str->Option Value} {C Pt:Addr}
theorem Rx(D:aO K "answers" e_)(M:MG K mg)(T:fK K C)(oN:dF P w K mg jj C "__init__" ["self","plan"] 4 (Cd K C))(AW:dF P w K mg jj C "do" ["self","deed"] 5 (NW K mg C Pt)):fQ P w K mg "answers" ["plan","deeds"] 6 (Ik K mg Pt):=by
 have cV:=T.cl
 refine D.fn M pO xN (λvs H Q E h=>?_) (λf base cdv A outer s H vs Q E hr h=>?_)
 ·obtain⟨p,dl,pl,xs,jg,rfl,_⟩:=h
  rfl
 ·obtain⟨p,dl,pl,xs,jg,rfl,hp,hb,ok,hl,hds,hok,hlen,hfx,hT,hB,k⟩:=h
  refine⟨_,(ao (dc (i:=2) pO.nd rfl (Or.inr rfl) (CN cV M oN gM (hr.mono (by decide)) rfl (pc (pv 0) aj)))
   (aA (aM (eT (NY:=["deed","desk"]) (js:=[none,some 2]) rfl rfl (by with_unfolding_all rfl) (by repeat first|exact bY.nil|refine bY.cons rfl ?_) (.own (.out rfl rfl (.inl rfl) .nil)) (bw (pv 1)) (λ_ _ _ _ _=>⟨(aU (i:=0) (show(["deed","desk"]:List Str).Nodup from by decide +kernel) rfl (Or.inl rfl)),dU,(dH (pv 1) cV.cl AW gM (hr.mono (by decide)) (pc (pv 0) aj))⟩))))),?_⟩
  refine⟨_,rfl,λx dx nx UO nex=>?_⟩
  have s0:=zN (o:=.ins C dx []) (u:=.own x) nx UO
  refine⟨x,dx,p,pl,rfl,af,s0.jG hp,hb,λd m H1 hd hm h1 h2 h3 kp=>⟨rfl,?_⟩⟩
  have s1:av H H1:=λb o e=>kp b o (s0 b o e) (au e nx)
  refine⟨_,rfl,dl,rfl,⟨_,s1.seq hl⟩,λr hr'=>?_⟩
  obtain⟨Xf,JG⟩:=gm hT
  have GW:=s1 _ _ JG
  have hT1:dJ H1 Pt lp lq:=cX hT (λps e=>s1 _ _ e) λa o u e=>s1 _ _ e
  have hB1:gD K mg H1:=fm hB λa o u e=>s1 _ _ e
  have OU:=hds.len
  have Xp:r≠x:=λz=>by rw[z,h1]at hr';cases hr'
  have OE:r≠d:=λz=>by rw[z,h2]at hr';cases hr'
  have Xq:r≠m:=λz=>by rw[z,h3]at hr';cases hr'
  have Xr:r≠Pt:=λz=>by rw[z,GW]at hr';cases hr'
  have UQ:d≠m:=aI h2 h3 (by intro z;cases z)
  refine cU (K:=K) (a:=dl) (xs:=xs) (λi ys H'=>∃(st:vR) (outs:List (List dS)),Runs pl ⟨none,[],[]⟩ (jg.take i) outs st/\rX H1 H' x d m Pt/\H' r=some (.lst ys)/\nB H' m r ys outs/\gu K C H' x p d m pl st.mk st.ws st.ms/\dJ H' Pt lp lq/\gD K mg H')
   ⟨⟨none,[],[]⟩,[],.nil _,λb o e _ _ _ _=>(av.new hr') b o e,af,.nil,?_,?_,?_⟩ (λi ys H' ⟨_,_,_,_,h,_⟩=>h) (λi ys H' _ ⟨_,_,_,kd,_⟩=>?_) ?_ ?_
  ·have s2:=av.new (o:=.lst []) hr'
   exact⟨⟨dx,s2 _ _ h1⟩,s2.jG (s1.jG hp),⟨[],s2 _ _ h2,.nil⟩,⟨[],s2 _ _ h3,.nil⟩,.nil⟩
  ·exact cX hT1 (λps e=>(av.new hr') _ _ e) λa o u e=>(av.new hr') _ _ e
  ·exact fm hB1 λa o u e=>(av.new hr') _ _ e
  ·have fz:=kd.ef h1 h2 h3 GW
   rcases hl with(h|⟨o,h⟩)|h
   ·refine .inl (.inl (kd _ _ (s1 _ _ h) (au h nx) (au h (s0.free hd)) (au h (s0.free hm)) (aI h JG (by intro z;cases z))))
   ·exact .inl (.inr ⟨o,fz _ _ _ (s1 _ _ h)⟩)
   ·exact .inr h
  ·rintro i y ys H2 hi ⟨st,outs,rn,kd,hr2,si,DA,Bg,hB2⟩
   obtain⟨dd,b,ed,rfl,hb1⟩:=hds.get hi
   have tp:=kd.tup h1 h2 h3 GW
   have fz:=kd.ef h1 h2 h3 GW
   have hb2:bg K H2 b dd.v:=kP tp fz (s1.jG hb1)
   obtain⟨dx2,Jb⟩:=DA.ob
   obtain⟨Dq,hd2,Vu⟩:=DA.wd
   obtain⟨mx2,hm2,aaU⟩:=DA.ml
   obtain⟨ps2,Nl⟩:=gm Bg
   have rl:=rn.len ok
   have hil:=(List.getElem?_eq_some_iff.mp ed).1
   have l1:(jg.take i).length=i:=by rw[List.length_take];lia
   rw[l1]at rl
   simp only[List.length_nil,Nat.zero_add]at rl
   refine⟨bQ rfl,?_⟩
   refine⟨_,rfl,x,dx2,_,rfl,Jb,EW p d m _ DK DK DK DK,_,rfl,x,p,d,m,b,pl,st,dd,rfl,DA,hb2,ok,hok dd (List.mem_of_getElem? ed),⟨by lia,hfx i outs st rn⟩,by lia,Bg,hB2,λl zs out st' H3 dr k3 oF hl3 MZ DA3 U_=>?_⟩
   have MO:=k3.tup Jb hd2 hm2 Nl
   have Wh:=k3.ef Jb hd2 hm2 Nl
   have UM:l≠m:=λz=>by rw[z,hm2]at oF;cases oF
   have Xw:l≠r:=λz=>by rw[z,hr2]at oF;cases oF
   have EV:=k3 _ _ hr2 Xp OE Xq Xr
   refine⟨ys,EV,?_,st',outs++[out],?_,λb o e n1 n2 n3 n4=>?_,af,?_,DA3.keep ?_ ?_ ?_ ?_ ?_,?_,?_⟩
   ·have:=Paired.length si
    have:=sizeLine_eq
    lia
   ·rw[List.take_add_one,ed]
    exact .snoc rn dr
   ·rw[ai (au e hr')]
    exact k3 b o (kd b o e n1 n2 n3 n4) n1 n2 n3 n4
   ·have up:∀{a:Addr}{z:HO},H3 a=some z->a≠r->upd H3 r (.lst (ys++[.ref l])) a=some z:=λe n=>by rw[ai n];exact e
    have WM:∀a row,H3 a=some (.tup row)->upd H3 r (.lst (ys++[.ref l])) a=some (.tup row):=λa row e=>up e (aI e EV (by intro z;cases z))
    refine Paired.snoc ((si.keep (λl' zs' n1 n2 e=>k3 _ _ e (aI e Jb (by intro z;cases z)) (aI e hd2 (by intro z;cases z)) n1 (aI e Nl (by intro z;cases z))) MO).keep (λl' zs' n1 n2 e=>up e n2) WM) ⟨l,zs,rfl,UM,Xw,up hl3 Xw,MZ.keep WM⟩
   ·exact λo e=>by rw[ai Xp.symm];exact e
   ·exact λo e=>by rw[ai OE.symm];exact e
   ·exact λo e=>by rw[ai Xq.symm];exact e
   ·exact λa row e=>by rw[ai (aI e EV (by intro z;cases z))];exact e
   ·exact λa o u e=>by rw[ai (aI e EV (by intro z;cases z))];exact e
   ·exact cX U_ (λps e=>by rw[ai Xr.symm];exact e) λa o u e=>by rw[ai (aI e EV (by intro z;cases z))];exact e
   ·exact fm (fm hB2 Wh) λa o u e=>by rw[ai (aI e EV (by intro z;cases z))];exact e
  ·rintro ys H2 ⟨st,outs,rn,kd,hr2,si,DA,Bg,hB2⟩
   rw[OU,List.take_length]at rn
   refine k r ys outs st H2 rn (λb o e n=>?_) (s1.free hr') hr2 si.out Bg
   have hxn:H x=none:=nx
   have hdn:b≠d:=λz=>by
    have:=s0.free (l:=d) hd
    rw[z,this]at e;cases e
   have hmn:b≠m:=λz=>by
    have:=s0.free (l:=m) hm
    rw[z,this]at e;cases e
   exact kd b o (s1 b o e) (au e nx) hdn hmn n
end
end K2
namespace K3
open PySem PySem.Spec PyProof.Rows L2 K1 K2
theorem h_{α:Type}(f:α->Dv)(sh:Sh):∀{l m:List α},(∀a∈l,Dv.isA sh (f a)=true)->(∀a∈l,∀b∈l,f a=f b->a=b)->l.Perm m->l.Pairwise (λa b=>aK (f a) (f b)≠.gt)->m.Pairwise (λa b=>aK (f a) (f b)≠.gt)->l=m
 |[],m,_,_,p,_,_=>(List.nil_perm.mp p).symm▸rfl
 |a::l,[],_,_,p,_,_=>by have:=p.length_eq;simp at this
 |a::l,b::m,hs,inj,p,h1,h2=>by
  obtain⟨p1,p2⟩:=List.pairwise_cons.mp h1
  obtain⟨q1,q2⟩:=List.pairwise_cons.mp h2
  have hbm:=p.mem_iff.mpr (List.mem_cons_self (a:=b) (l:=m))
  have e:a=b:=by
   have ha:=p.mem_iff.mp (List.mem_cons_self (a:=a) (l:=l))
   rcases List.mem_cons.mp ha with e|ha
   ·exact e
   ·rcases List.mem_cons.mp hbm with e|hb
    ·exact e.symm
    ·have n1:=q1 a ha
     have n2:=p1 b hb
     have sa:=hs a (.head _)
     have sb:=hs b hbm
     refine inj _ (.head _) _ hbm ((iV sa sb).mp ?_)
     have sw:=cmp_swap sa sb
     cases q:aK (f a) (f b)with
     |eq=>rfl
     |gt=>exact absurd q n2
     |lt=>rw[q]at sw;exact absurd sw n1
  subst e
  rw[h_ f sh (λa ha=>hs a (.tail _ ha)) (λa ha b hb=>inj a (.tail _ ha) b (.tail _ hb)) (List.Perm.cons_inv p) p2 q2]
open Classical in
theorem Ag{mk:Option Int}{ms ks:List Ky}{z:dS}:z∈dB mk ms ks↔∃k,k∈ms/\k∉ks/\closed mk k.e=true/\z=.gone k:=by
 unfold dB
 constructor
 ·intro h
  obtain⟨k,hk,rfl⟩:=List.mem_map.mp h
  obtain⟨h1,h2⟩:=List.mem_filter.mp hk
  have h2:=(Bool.and_eq_true _ _).mp h2
  exact⟨k,h1,of_decide_eq_true h2.1,h2.2,rfl⟩
 ·rintro⟨k,h1,h2,h3,rfl⟩
  exact List.mem_map_of_mem (List.mem_filter.mpr ⟨h1,(Bool.and_eq_true _ _).mpr ⟨decide_eq_true h2,h3⟩⟩)
def wH:dS->Dv
 |.told w=>.tup [.str "told",.str w.n,.int w.s,.int w.e,.int w.c,.int w.t]
 |.gone k=>.tup [.str "gone",.str k.n,.int k.s,.int k.e]
 |.missed n t a=>.tup [.str "missed",.str n,.int t,.int a]
theorem FL(z:dS):(wH z).dep<=1:=by cases z<;>exact Nat.le_of_ble_eq_true rfl
theorem LG{i j:Int}(h:i=j){A:Prop}:(!decide (V.int i=V.int j))=true->A:=λz=>by rw[decide_eq_true (by rw[h])]at z;cases z
theorem zQ{pl:Pl}{Uo st:vR}{jg:List gx}{outs:List (List dS)}(h:Runs pl Uo jg outs st):∃S:Nat->vR,S 0=Uo/\S jg.length=st/\outs.length=jg.length/\∀i dd out,jg[i]? = some dd->outs[i]? = some out->oi pl (S i) dd out (S (i+1)):=by
 induction h with
 |nil=>exact⟨λ_=>Uo,rfl,rfl,rfl,λi dd out h=>by simp at h⟩
 | @snoc st1 st2 jg outs dd out r d ih=>
  obtain⟨S,h0,h1,h2,h3⟩:=ih
  refine⟨λi=>if i<=jg.length then S i else st2,?_,?_,?_,?_⟩
  ·simp only[Nat.zero_le,if_true,h0]
  ·rw[List.length_append,List.length_singleton]
   exact if_neg LI
  ·rw[List.length_append,List.length_append,h2];rfl
  ·intro i d' o' e1 e2
   have hi:=(List.getElem?_eq_some_iff.mp e1).1
   rw[List.length_append,List.length_singleton]at hi
   by_cases hlt:i<jg.length
   ·rw[List.getElem?_append_left hlt]at e1
    rw[List.getElem?_append_left LI]at e2
    show oi pl (if i<=jg.length then S i else st2) d' o' (if i+1<=jg.length then S (i+1)else st2)
    rw[if_pos LI,if_pos LI]
    exact h3 i d' o' e1 e2
   ·have e:i=jg.length:=by lia
    subst e
    rw[List.getElem?_append_right (Nat.le_refl _),Nat.sub_self]at e1
    rw[List.getElem?_append_right LI,h2,Nat.sub_self]at e2
    cases e1;cases e2
    show oi pl (if jg.length<=jg.length then S jg.length else st2) dd out (if jg.length+1<=jg.length then S (jg.length+1)else st2)
    rw[if_pos (Nat.le_refl _),if_neg LI,h1]
    exact d
theorem Ej{pl:Pl}{st st':vR}{dd:gx}{out:List dS}(ok:pl.ok)(h:oi pl st dd out st'):out.length<=st.ws.length+100:=by
 cases dd with
 |ev n t a=>
  rcases h with⟨_,rfl,_⟩|⟨_,mt,ks,cN,er,rfl,_⟩
  ·exact Nat.le_trans (by decide:1<=100) (Nat.le_add_left _ _)
  ·have h1:=ng st.mk mt ks
   have h2:=lW st.mk cN ks
   have h3:mt.length<=st.ws.length/\ks.length<=100:=by
    rcases er with⟨_,rfl,rfl,_⟩|⟨_,pm,_,s,e,_,_,_,_,_,_,rfl,_⟩
    ·refine⟨Nat.zero_le _,?_⟩
     unfold bJ
     rw[List.length_map]
     exact sr ok t
    ·refine⟨?_,show 1<=100 by decide⟩
     rw[pm.length_eq,List.length_map]
     exact List.length_filter_le _ _
   rw[List.length_append]
   lia
 |mk t=>
  rcases h with⟨_,rfl,_⟩|⟨_,rs,p,_,rfl,_⟩
  ·exact Nat.zero_le _
  ·rw[List.length_map,p.length_eq]
   exact Nat.le_trans (List.length_filter_le _ _) (Nat.le_add_right _ _)
mutual
inductive Tk(H:Hp):V->Dv->Prop
 |dI:Tk H .dI .dI
 |bl(b:Bool):Tk H (.bl b) (.bl b)
 |int(i:Int):Tk H (.int i) (.int i)
 |str(x:Str):Tk H (.str x) (.str x)
 |tup{a:Addr}{xs:List V}{ds:List Dv}:H a=some (.tup xs)->xs.length<=10000000->Tks H xs ds->Tk H (.ref a) (.tup ds)
 |lst{a:Addr}{xs:List V}{ds:List Dv}:H a=some (.lst xs)->xs.length<=10000000->Tks H xs ds->Tk H (.ref a) (.lst ds)
inductive Tks(H:Hp):List V->List Dv->Prop
 |nil:Tks H [] []
 |cons{x:V}{xs:List V}{d:Dv}{ds:List Dv}:Tk H x d->Tks H xs ds->Tks H (x::xs) (d::ds)
end
mutual
theorem Tk.keep{H H':Hp}(s:av H H'):∀{x:V}{d:Dv},Tk H x d->Tk H' x d
 |_,_,.dI=>.dI
 |_,_,.bl b=>.bl b
 |_,_,.int i=>.int i
 |_,_,.str x=>.str x
 |_,_,.tup e l t=>.tup (s _ _ e) l (Tks.keep s t)
 |_,_,.lst e l t=>.lst (s _ _ e) l (Tks.keep s t)
theorem Tks.keep{H H':Hp}(s:av H H'):∀{xs:List V}{ds:List Dv},Tks H xs ds->Tks H' xs ds
 |_,_,.nil=>.nil
 |_,_,.cons h t=>.cons (Tk.keep s h) (Tks.keep s t)
end
theorem Tks.get{H:Hp}:∀{xs:List V}{ds:List Dv},Tks H xs ds->∀{i:Nat}{x:V},xs[i]? = some x->∃d,ds[i]? = some d/\Tk H x d
 |_,_,.cons h _,0,_,e=>⟨_,rfl,by cases e;exact h⟩
 |_,_,.cons _ t,_+1,_,e=>Tks.get t e
theorem Tks.len{H:Hp}:∀{xs:List V}{ds:List Dv},Tks H xs ds->xs.length=ds.length
 |_,_,.nil=>rfl
 |_,_,.cons _ t=>by rw[List.length_cons,List.length_cons,Tks.len t]
def Zs:Nat->Sp
 |0=>λ_ _ _ _=>False
 |n+1=>λvs H Q _=>∃(x y:V) (d:Dv),vs=[x,y]/\Tk H x d/\Tk H y d/\d.dep<=n/\∀H',av H H'->Q (.bl true) H'
section
variable {P:Program} {w:World} {K:Fg7} {mg:Str->Option Value}
theorem Ln:PySem.W.kitOne K (.type "str") (.type "bool")=some false:=by with_unfolding_all rfl
theorem Lm:PySem.W.kitOne K (.type "str") (.type "int")=some false:=by with_unfolding_all rfl
theorem Ls:PySem.W.kitOne K (.type "list") (.type "bool")=some false:=by with_unfolding_all rfl
theorem Lq:PySem.W.kitOne K (.type "list") (.type "int")=some false:=by with_unfolding_all rfl
theorem Lp:PySem.W.kitOne K (.type "list") (.type "str")=some false:=by with_unfolding_all rfl
theorem Lr:PySem.W.kitOne K (.type "list") (.type "dict")=some false:=by with_unfolding_all rfl
theorem Dt:PySem.W.kitOne K (.type "list") (.type "tuple")=some false:=by with_unfolding_all rfl
theorem Ll:PySem.W.kitOne K (.type "tuple") (.type "bool")=some false:=by with_unfolding_all rfl
theorem Lj:PySem.W.kitOne K (.type "tuple") (.type "int")=some false:=by with_unfolding_all rfl
theorem Li:PySem.W.kitOne K (.type "tuple") (.type "str")=some false:=by with_unfolding_all rfl
theorem Lk:PySem.W.kitOne K (.type "tuple") (.type "dict")=some false:=by with_unfolding_all rfl
theorem Ds:PySem.W.kitOne K (.type "tuple") (.type "list")=some false:=by with_unfolding_all rfl
theorem Lv:PySem.W.kitAny K (.type "list") (["list","tuple"].map Value.type)=some true:=by with_unfolding_all rfl
theorem Lu:PySem.W.kitAny K (.type "tuple") (["list","tuple"].map Value.type)=some true:=by with_unfolding_all rfl
theorem Rp(D:aO K "_law_so" dX)(M:MG K mg)(B:Bi K):∀n:Nat,fQ P w K mg "_law_so" ["_law_found","_law_meant"] (n+1) (Zs n)
 |0=>D.fn M jH qo (λvs H Q E h=>h.elim) (λf base cdv A outer s H vs Q E hr h=>h.elim)
 |n+1=>by
  have gX:=Rp D M B n
  refine D.fn M jH qo (λvs H Q E h=>?_) (λf base cdv A outer s H vs Q E hr h=>?_)
  ·obtain⟨x,y,d,rfl,_⟩:=h
   rfl
  ·obtain⟨x,y,d,rfl,hx,hy,hd,k⟩:=h
   refine⟨_,(ao (bN (aQ CT (pv 1) mC (aP _)) (aA (aM (dW CT (pv 0) mC (aP _)))) aN)
   (ao (bN (cY (aZ aR rfl (M.no _ B.aL) aH (pc (pv 1) (pc (bU (v:=.ty "bool") rfl (M.no _ B.tS) pD rfl) aj)))) (aA (aM (iO (aZ aR rfl (M.no _ B.aL) aH (pc (pv 0) (pc (bU (v:=.ty "bool") rfl (M.no _ B.tS) pD rfl) aj))) (iM (dW eU (pv 0) (pv 1) (aP _)))))) aN)
   (ao (bN (cY (aZ aR rfl (M.no _ B.aL) aH (pc (pv 1) (pc (bU (v:=.ty "int") rfl (M.no _ B.Eu) xJ rfl) aj)))) (aA (aM (iO (aZ aR rfl (M.no _ B.aL) aH (pc (pv 0) (pc (bU (v:=.ty "int") rfl (M.no _ B.Eu) xJ rfl) aj))) (iO (CM (aZ aR rfl (M.no _ B.aL) aH (pc (pv 0) (pc (bU (v:=.ty "bool") rfl (M.no _ B.tS) pD rfl) aj)))) (iM (dW eU (pv 0) (pv 1) (aP _))))))) aN)
   (ao (bN (cY (aZ aR rfl (M.no _ B.aL) aH (pc (pv 1) (pc (bU (v:=.ty "str") rfl (M.no _ B.zo) tP rfl) aj)))) (aA (aM (iO (aZ aR rfl (M.no _ B.aL) aH (pc (pv 0) (pc (bU (v:=.ty "str") rfl (M.no _ B.zo) tP rfl) aj))) (iM (dW eU (pv 0) (pv 1) (aP _)))))) aN)
   (ao (bN (cY (aZ aR rfl (M.no _ B.aL) aH (pc (pv 1) (pc (bU (v:=.ty "dict") rfl (M.no _ B.MJ) Hy rfl) aj)))) (aA iI) aN)
   (ao (bN (aQ yM (aZ aR rfl (M.no _ B.aL) aH (pc (pv 1) (pc (bU (v:=.ty "tuple") rfl (M.no _ B.pF) lI rfl) aj))) (aZ aR rfl (M.no _ B.aL) aH (pc (pv 0) (pc (bU (v:=.ty "tuple") rfl (M.no _ B.pF) lI rfl) aj))) (aP _)) (aA (aM gi)) aN)
   (ao (bN (PW.pt (yJ (aQ yM (aZ aR rfl (M.no _ B.aL) aH (pc (pv 1) (pc (bU (v:=.ty "list") rfl (M.no _ B.ny) jh rfl) aj))) (aZ aR rfl (M.no _ B.aL) aH (pc (pv 0) (pc (bU (v:=.ty "list") rfl (M.no _ B.ny) jh rfl) aj))) (aP _)) (sJ (fJ (cY (aZ tO rfl (M.no _ B.aL) aH (pc (pv 1) (pc (bD (pc (bU (v:=.ty "list") rfl (M.no _ B.ny) jh rfl) (pc (bU (v:=.ty "tuple") rfl (M.no _ B.pF) lI rfl) aj))) aj)))))))) (aA (aM gi)) aN)
   (ao (bN (aQ yM (aZ bV rfl (M.no _ B.jC) gG (pc (pv 0) aj)) (aZ bV rfl (M.no _ B.jC) gG (pc (pv 1) aj)) (aP _)) (aA (aM gi)) aN)
   (ao (fh PassesOwn.never rfl (zU rfl (M.no _ B.tR) (pc (aZ bV rfl (M.no _ B.jC) gG (pc (pv 1) aj)) aj)) (aU (i:=2) jH.nd rfl (Or.inl rfl))
   (aA (bN (fJ (cY (a_ gX (hr.mono (Nat.le_refl _)) rfl (pc (aF Dy (pv 0) (pv 2) (λ_ _=>rfl)) (pc (aF Dy (pv 1) (pv 2) (λ_ _=>rfl)) aj))))) (aA (aM gi)) aN)))
   (aA (aM gi))))))))))),?_⟩
   have nf:∀{A:Prop},false=true->A:=λz=>nomatch z
   have k0:=k _ (av.refl _)
   cases hx with
   |dI=>
    cases hy
    refine⟨_,rfl,rfl,_,rfl,aT (λ_=>⟨_,rfl,rfl,?_⟩) (λh=>absurd (decide_eq_true rfl) h)⟩
    rw[decide_eq_true rfl]
    exact k0
   |bl b=>
    cases hy
    refine⟨_,rfl,rfl,_,rfl,aT (λh=>nomatch of_decide_eq_true h) (λ_=>?_)⟩
    refine⟨_,rfl,_,_,_,true,rfl,.bl b,rfl,true,rfl,aT (λ_=>?_) (λh=>absurd rfl h)⟩
    refine⟨_,rfl,_,_,_,true,rfl,.bl b,rfl,true,rfl,aT (λ_=>⟨_,rfl,_,rfl,rfl,?_⟩) (λh=>absurd rfl h)⟩
    rw[decide_eq_true rfl]
    exact k0
   |int i=>
    cases hy
    refine⟨_,rfl,rfl,_,rfl,aT (λh=>nomatch of_decide_eq_true h) (λ_=>?_)⟩
    refine⟨_,rfl,_,_,_,false,rfl,.int i,xj,false,rfl,aT nf (λ_=>?_)⟩
    refine⟨_,rfl,_,_,_,true,rfl,.int i,rfl,true,rfl,aT (λ_=>?_) (λh=>absurd rfl h)⟩
    refine⟨_,rfl,_,_,_,true,rfl,.int i,rfl,true,rfl,aT (λ_=>?_) (λh=>absurd rfl h)⟩
    refine⟨_,rfl,_,_,_,false,rfl,.int i,xj,false,rfl,true,rfl,aT (λ_=>⟨_,rfl,_,rfl,rfl,?_⟩) (λh=>absurd rfl h)⟩
    rw[decide_eq_true rfl]
    exact k0
   |str z=>
    cases hy
    refine⟨_,rfl,rfl,_,rfl,aT (λh=>nomatch of_decide_eq_true h) (λ_=>?_)⟩
    refine⟨_,rfl,_,_,_,false,rfl,.str z,Ln,false,rfl,aT nf (λ_=>?_)⟩
    refine⟨_,rfl,_,_,_,false,rfl,.str z,Lm,false,rfl,aT nf (λ_=>?_)⟩
    refine⟨_,rfl,_,_,_,true,rfl,.str z,rfl,true,rfl,aT (λ_=>?_) (λh=>absurd rfl h)⟩
    refine⟨_,rfl,_,_,_,true,rfl,.str z,rfl,true,rfl,aT (λ_=>⟨_,rfl,_,rfl,rfl,?_⟩) (λh=>absurd rfl h)⟩
    rw[decide_eq_true rfl]
    exact k0
   | @tup a xs ds ha OU ta=>
    cases hy with
    | @tup b ys _ hb UZ tb=>
     refine⟨_,rfl,rfl,_,rfl,aT (λh=>nomatch of_decide_eq_true h) (λ_=>?_)⟩
     refine⟨_,rfl,_,_,_,false,rfl,.tup hb,Ll,false,rfl,aT nf (λ_=>?_)⟩
     refine⟨_,rfl,_,_,_,false,rfl,.tup hb,Lj,false,rfl,aT nf (λ_=>?_)⟩
     refine⟨_,rfl,_,_,_,false,rfl,.tup hb,Li,false,rfl,aT nf (λ_=>?_)⟩
     refine⟨_,rfl,_,_,_,false,rfl,.tup hb,Lk,false,rfl,aT nf (λ_=>?_)⟩
     refine⟨_,rfl,_,_,_,true,rfl,.tup hb,rfl,_,rfl,_,_,_,true,rfl,.tup ha,rfl,rfl,_,rfl,aT (λh=>by rw[decide_eq_true rfl]at h;cases h) (λ_=>?_)⟩
     refine⟨_,rfl,_,_,_,false,rfl,.tup hb,Ds,_,rfl,_,_,_,false,rfl,.tup ha,Ds,rfl,_,rfl,aT (λh=>by rw[decide_eq_true rfl]at h;cases h) (λ_=>?_)⟩
     refine⟨_,rfl,(by show 2<=sizeLine;decide),λtp htp=>⟨b,tp,ys,["list","tuple"],_,true,rfl,.inr ⟨(av.new htp) _ _ hb,rfl⟩,af,Lu,true,rfl,aT (λh=>nomatch h) (λ_=>?_)⟩⟩
     have s1:=av.new (o:=.tup [.ty "list",.ty "tuple"]) htp
     have ha1:=s1 _ _ ha
     have hb1:=s1 _ _ hb
     have TZ:=ta.keep s1
     have TV:=tb.keep s1
     have la:=ta.len
     have lb:=tb.len
     generalize upd H tp (.tup [.ty "list",.ty "tuple"])=H1 at *
     refine⟨_,rfl,a,_,rfl,.inr (bg.of ha1),_,rfl,b,_,rfl,.inr (bg.of hb1),rfl,_,rfl,aT (λh=>by rw[decide_eq_true (by rw[la,lb])]at h;cases h) (λ_=>?_)⟩
     have hd:Dv.deps ds+1<=n:=hd
     cases n with
     |zero=>exact absurd hd LI
     |succ n=>
      refine⟨_,rfl,b,_,rfl,.inr (bg.of hb1),_,rfl,LI,LI,?_⟩
      rw[Int.toNat_natCast]
      refine rH (lo:=0) (n:=ys.length) (λi σ H'=>∃v:Option V,σ=[some (.ref a),some (.ref b),v]/\av H1 H') ⟨none,rfl,av.refl _⟩ ?_ ?_
      ·rintro i σ H' hi ⟨v,rfl,sm⟩
       rw[Int.zero_add]
       have e1:xs[i]? = some (xs[i]' LI):=List.getElem?_eq_getElem LI
       have e2:ys[i]? = some (ys[i]'hi):=List.getElem?_eq_getElem hi
       obtain⟨d1,g1,t1⟩:=TZ.get e1
       obtain⟨d2,g2,t2⟩:=TV.get e2
       rw[g1]at g2
       cases g2
       have:=iT g1
       refine⟨_,rfl,_,rfl,.inr (.inl ⟨a,_,_,_,rfl,rfl,bg.of (sm _ _ ha1),fV e1,_,rfl,_,rfl,.inr (.inl ⟨b,_,_,_,rfl,rfl,bg.of (sm _ _ hb1),fV e2,_,_,d1,rfl,t1.keep sm,t2.keep sm,by lia,λH2 s2=>⟨true,rfl,aT (λh=>nomatch h) (λ_=>⟨_,rfl,sm.trans s2⟩)⟩⟩)⟩)⟩
      ·rintro σ H' ⟨v,rfl,sm⟩
       exact k _ (s1.trans sm)
   | @lst a xs ds ha OU ta=>
    cases hy with
    | @lst b ys _ hb UZ tb=>
     refine⟨_,rfl,rfl,_,rfl,aT (λh=>nomatch of_decide_eq_true h) (λ_=>?_)⟩
     refine⟨_,rfl,_,_,_,false,rfl,.lst hb,Ls,false,rfl,aT nf (λ_=>?_)⟩
     refine⟨_,rfl,_,_,_,false,rfl,.lst hb,Lq,false,rfl,aT nf (λ_=>?_)⟩
     refine⟨_,rfl,_,_,_,false,rfl,.lst hb,Lp,false,rfl,aT nf (λ_=>?_)⟩
     refine⟨_,rfl,_,_,_,false,rfl,.lst hb,Lr,false,rfl,aT nf (λ_=>?_)⟩
     refine⟨_,rfl,_,_,_,false,rfl,.lst hb,Dt,_,rfl,_,_,_,false,rfl,.lst ha,Dt,rfl,_,rfl,aT (λh=>by rw[decide_eq_true rfl]at h;cases h) (λ_=>?_)⟩
     refine⟨_,rfl,_,_,_,true,rfl,.lst hb,rfl,_,rfl,_,_,_,true,rfl,.lst ha,rfl,rfl,_,rfl,aT (λh=>by rw[decide_eq_true rfl]at h;cases h) (λ_=>?_)⟩
     refine⟨_,rfl,(by show 2<=sizeLine;decide),λtp htp=>⟨b,tp,ys,["list","tuple"],_,true,rfl,.inl ⟨(av.new htp) _ _ hb,rfl⟩,af,Lv,true,rfl,aT (λh=>nomatch h) (λ_=>?_)⟩⟩
     have s1:=av.new (o:=.tup [.ty "list",.ty "tuple"]) htp
     have ha1:=s1 _ _ ha
     have hb1:=s1 _ _ hb
     have TZ:=ta.keep s1
     have TV:=tb.keep s1
     have la:=ta.len
     have lb:=tb.len
     generalize upd H tp (.tup [.ty "list",.ty "tuple"])=H1 at *
     refine⟨_,rfl,a,_,rfl,.inl (bB.of ha1),_,rfl,b,_,rfl,.inl (bB.of hb1),rfl,_,rfl,aT (λh=>by rw[decide_eq_true (by rw[la,lb])]at h;cases h) (λ_=>?_)⟩
     have hd:Dv.deps ds+1<=n:=hd
     cases n with
     |zero=>exact absurd hd LI
     |succ n=>
      refine⟨_,rfl,b,_,rfl,.inl (bB.of hb1),_,rfl,LI,LI,?_⟩
      rw[Int.toNat_natCast]
      refine rH (lo:=0) (n:=ys.length) (λi σ H'=>∃v:Option V,σ=[some (.ref a),some (.ref b),v]/\av H1 H') ⟨none,rfl,av.refl _⟩ ?_ ?_
      ·rintro i σ H' hi ⟨v,rfl,sm⟩
       rw[Int.zero_add]
       have e1:xs[i]? = some (xs[i]' LI):=List.getElem?_eq_getElem LI
       have e2:ys[i]? = some (ys[i]'hi):=List.getElem?_eq_getElem hi
       obtain⟨d1,g1,t1⟩:=TZ.get e1
       obtain⟨d2,g2,t2⟩:=TV.get e2
       rw[g1]at g2
       cases g2
       have:=iT g1
       refine⟨_,rfl,_,rfl,.inl ⟨a,_,_,_,rfl,rfl,bB.of (sm _ _ ha1),fV e1,_,rfl,_,rfl,.inl ⟨b,_,_,_,rfl,rfl,bB.of (sm _ _ hb1),fV e2,_,_,d1,rfl,t1.keep sm,t2.keep sm,by lia,λH2 s2=>⟨true,rfl,aT (λh=>nomatch h) (λ_=>⟨_,rfl,sm.trans s2⟩)⟩⟩⟩⟩
      ·rintro σ H' ⟨v,rfl,sm⟩
       exact k _ (s1.trans sm)
end
inductive Ib(vs:List V)(H:Hp)(Q:VK):Prop
 |mk(x y:V)(d:Dv):(vs=[x,y])->(Tk H x d)->(Tk H y d)->(d.dep<=3)->(∀H',av H H'->Q (.bl true) H')->Ib vs H Q
def NV:Sp:=λvs H Q d_=>Ib vs H Q
theorem Ro{P:Program}{w:World}{K:Fg7}{mg:Str->Option Value}(D:aO K "_law_so" dX)(M:MG K mg)(B:Bi K):fQ P w K mg "_law_so" ["_law_found","_law_meant"] 5 NV:=fQ.imp (Rp D M B 4) λ_ _ _ _ h=>by
 obtain⟨x,y,d,e,h1,h2,h3,k⟩:=h
 exact⟨x,y,d,e,h1,h2,h3,k⟩
theorem Pf{α:Type}{f:α->List V}{g:α->Dv}{H:Hp}(h:∀a w,H a=some (.tup (f w))->Tk H (.ref a) (g w)):∀{xs:List V}{ws:List α},aE f H xs ws->Tks H xs (ws.map g):=by
 intro xs ws l
 induction l with
 |nil=>exact .nil
 |cons e _ ih=>
  obtain⟨a,rfl,e⟩:=e
  exact .cons (h _ _ e) ih
theorem rB{α:Type}{f:α->List V}{g:α->Dv}{H:Hp}{l:Addr}(h:∀a w,H a=some (.tup (f w))->Tk H (.ref a) (g w)){xs:List V}{ws:List α}(hl:H l=some (.lst xs))(n:xs.length<=10000000)(la:aE f H xs ws):Tk H (.ref l) (.lst (ws.map g)):=.lst hl n (Pf h la)
theorem tH{n:Nat}:∀{ds:List Dv},(∀d∈ds,d.dep<=n)->Dv.deps ds<=n
 |[],_=>Nat.zero_le _
 |d::ds,h=>Nat.max_le.mpr ⟨h d (.head _),tH λe he=>h e (.tail _ he)⟩
theorem Hl{pl:Pl}(ok:pl.ok){n:Str}{t a:Int}{ws cN:List Wn}{mt ks:List Ky}(nd:(ws.map Wn.k).Nodup)(r:iY pl n t a ws mt ks cN):mt.Nodup/\(mt.map Ky.d).Pairwise (λd e=>aK d e≠.gt)/\ks.Nodup/\(∀k∈mt,k∈ws.map Wn.k)/\(∀k∈ks,k∈cN.map Wn.k/\k.n=n)/\(∀k∈mt,k∉ks->k∉cN.map Wn.k)/\(∀k,k∉mt->k∉ks->(k∈cN.map Wn.k↔k∈ws.map Wn.k))/\(∀k∈ks,k∉mt->k∈ws.map Wn.k->k∈cN.map Wn.k):=by
 rcases r with⟨np,rfl,rfl,rfl⟩|⟨hp,pm,so,s,e,g1,h1,h2,g2,h3,h4,rfl,rfl⟩
 ·have kn:=rK ok n t
  have key:=λk=>iX (a:=a) (ws:=ws) kn k
  refine⟨.nil,.nil,kn,λ_ h=>(nomatch h),λk hk=>⟨(key k).mpr (.inl hk),?_⟩,λ_ h=>(nomatch h),λk _ hk=>⟨λh=>((key k).mp h).resolve_left hk,λh=>(key k).mpr (.inr h)⟩,λk hk _ _=>(key k).mpr (.inl hk)⟩
  obtain⟨q,_,rfl⟩:=List.mem_map.mp hk
  rfl
 ·have mn:mt.Nodup:=pm.nodup_iff.mpr (nd.sublist (List.filter_sublist.map _))
  have f1:∀k∈mt,k∉[(⟨n,s,e⟩:Ky)]->Gm (addW (bX ws mt ⟨n,s,e⟩) n s e 1 a) k=none:=λk hk hn=>by
   have hn:k≠⟨n,s,e⟩:=λz=>hn (by rw[z];exact .head _)
   rw[eO hn,(tV hn).1 hk]
  have f2:∀k,k∉mt->k∉[(⟨n,s,e⟩:Ky)]->Gm (addW (bX ws mt ⟨n,s,e⟩) n s e 1 a) k=Gm ws k:=λk hk hn=>by
   have hn:k≠⟨n,s,e⟩:=λz=>hn (by rw[z];exact .head _)
   rw[eO hn,(tV hn).2 hk]
  have f3:∀k∈[(⟨n,s,e⟩:Ky)],k∈(addW (bX ws mt ⟨n,s,e⟩) n s e 1 a).map Wn.k/\k.n=n:=λk hk=>by
   rw[List.mem_singleton]at hk
   subst hk
   exact⟨eE.mpr ⟨_,eN ..⟩,rfl⟩
  refine⟨mn,so,List.nodup_cons.mpr ⟨λh=>(nomatch h),List.Pairwise.nil⟩,λk hk=>?_,f3,λk h1 h2=>pG.mpr (f1 k h1 h2),λk h1 h2=>?_,λk hk _ _=>(f3 k hk).1⟩
  ·obtain⟨w,hw,rfl⟩:=List.mem_map.mp (pm.mem_iff.mp hk)
   exact List.mem_map_of_mem (List.mem_filter.mp hw).1
  ·have:=f2 k h1 h2
   constructor
   ·intro h
    obtain⟨p,hp⟩:=eE.mp h
    exact eE.mpr ⟨p,by rw[←this];exact hp⟩
   ·intro h
    obtain⟨p,hp⟩:=eE.mp h
    exact eE.mpr ⟨p,by rw[←hp];exact this⟩
theorem Mq{a b:Wn}(h:a.ed=b.ed):a.k=b.k:=by
 unfold Wn.ed at h
 injection h with e
 injection e with e1 e
 injection e with e2 e
 injection e with e3 _
 injection e1 with e1
 injection e2 with e2
 injection e3 with e3
 unfold Wn.k
 rw[e1,e2,e3]
theorem LA{ws:List Wn}(nd:(ws.map Wn.k).Nodup){a b:Wn}(ha:a∈ws)(hb:b∈ws)(h:a.k=b.k):a=b:=by
 have h1:=pA nd ha
 have h2:=pA nd hb
 rw[h,h2]at h1
 exact(Option.some.inj h1).symm
theorem uz{pl:Pl}{aV:List Ev}{ws:List Wn}(t:Tab pl aV ws){w:Wn}(m:w∈ws):∃e∈aV,e.n=w.n:=by
 have mk:w.k∈ws.map Wn.k:=List.mem_map_of_mem m
 cases ip:o_ pl with
 |false=>
  obtain⟨_,e,me,hi⟩:=t.gr ip _ mk
  exact⟨e,me,(eV.mp hi).1⟩
 |true=>
  obtain⟨e,me,en,_⟩:=(t.pr ip _ mk).b
  exact⟨e,me,en⟩
theorem FT{a b:Wn}(h:aK a.d b.d≠.gt):aK a.k.d b.k.d≠.gt:=by
 intro z
 refine h ?_
 have z:bT [.str a.n,.int a.s,.int a.e] [.str b.n,.int b.s,.int b.e]=.gt:=z
 show bT [.str a.n,.int a.s,.int a.e,.int a.c,.int a.t] [.str b.n,.int b.s,.int b.e,.int b.c,.int b.t]=.gt
 simp only[bT]at z ⊢
 cases h1:aK (.str a.n) (.str b.n)with
 |lt=>rw[h1]at z;cases z
 |gt=>rfl
 |eq=>
  rw[h1]at z
  cases h2:aK (.int a.s) (.int b.s)with
  |lt=>rw[h2]at z;cases z
  |gt=>rfl
  |eq=>
   rw[h2]at z
   cases h3:aK (.int a.e) (.int b.e)with
   |lt=>rw[h3]at z;cases z
   |gt=>rfl
   |eq=>rw[h3]at z;cases z
def Ow(w:Wn):Dv:=.tup [.int w.e,w.d]
def Zy:Sh:=.tup [.int,Sq]
theorem GN{i j:Int}:(aK (.int i) (.int j)=.lt↔i<j)/\(aK (.int i) (.int j)=.eq↔i=j):=by
 have e:aK (.int i) (.int j)=if i=j then .eq else if i<j then .lt else .gt:=rfl
 rw[e]
 constructor
 ·constructor
  ·intro h
   split at h
   ·cases h
   ·split at h
    ·assumption
    ·cases h
  ·intro h
   rw[if_neg LI,if_pos h]
 ·constructor
  ·intro h
   split at h
   ·assumption
   ·split at h<;>cases h
  ·intro h
   rw[if_pos h]
theorem uC(x:Str):aK (.str x) (.str x)=.eq:=by
 show(if x=x then Ordering.eq else _)=_
 rw[if_pos rfl]
theorem Ov{a b:Wn}(hn:a.n=b.n)(h:aK (Ow a) (Ow b)≠.gt):aK a.ed b.ed≠.gt:=by
 intro z
 refine h ?_
 have z:bT [.int a.e,.int a.s,.str a.n] [.int b.e,.int b.s,.str b.n]=.gt:=z
 show bT [.int a.e,a.d] [.int b.e,b.d]=.gt
 simp only[bT]at z ⊢
 cases h1:aK (.int a.e) (.int b.e)with
 |lt=>rw[h1]at z;cases z
 |gt=>rfl
 |eq=>
  rw[h1]at z
  have hd:aK a.d b.d=.gt:=by
   show bT [.str a.n,.int a.s,.int a.e,.int a.c,.int a.t] [.str b.n,.int b.s,.int b.e,.int b.c,.int b.t]=.gt
   simp only[bT]
   rw[hn,uC]at z ⊢
   cases h2:aK (.int a.s) (.int b.s)with
   |lt=>rw[h2]at z;cases z
   |gt=>rfl
   |eq=>rw[h2]at z;cases z
  rw[hd]
  rfl
theorem Kn{a b:Wn}(hn:a.n=b.n)(hs:a.s<b.s):aK a.d b.d≠.gt:=by
 show bT [.str a.n,.int a.s,.int a.e,.int a.c,.int a.t] [.str b.n,.int b.s,.int b.e,.int b.c,.int b.t]≠.gt
 simp only[bT]
 rw[hn,uC,GN.1.mpr hs]
 exact λz=>nomatch z
theorem Mn{pl:Pl}(ok:pl.ok)(np:o_ pl=false)(n:Str)(t:Int):(bJ pl n t).Pairwise (λa b=>a.s<b.s):=by
 have go:((List.range (cnt pl t)).map (λ(i:Nat)=>(⟨n,dZ pl t+(i:Int)*pl.stp,dZ pl t+(i:Int)*pl.stp+pl.len⟩:Ky))).Pairwise (λa b=>a.s<b.s):=by
  refine List.Pairwise.map _ (λi j (h:i<j)=>?_) List.pairwise_lt_range
  show dZ pl t+(i:Int)*pl.stp<dZ pl t+(j:Int)*pl.stp
  have:=Int.mul_lt_mul_of_pos_right (show(i:Int)<(j:Int) by lia) (show 0<pl.stp by have:=ok.s1;lia)
  lia
 cases pl with
 |fixed l g=>unfold bJ EO;rw[List.map_map];exact go
 |sliding l s g=>unfold bJ EO;rw[List.map_map];exact go
 |pauses l g=>cases np
theorem JL{pl:Pl}(ok:pl.ok){n:Str}{t a:Int}{aV:List Ev}{ws cN:List Wn}{mt ks:List Ky}(r:iY pl n t a ws mt ks cN)(tb:Tab pl (aV++[⟨n,t,a⟩]) cN){w:Wn}(hw:w∈cN)(hn:w.n=n):w.k∈ks↔w.s<=t/\t<w.e:=by
 have mk:w.k∈cN.map Wn.k:=List.mem_map_of_mem hw
 rcases r with⟨np,rfl,rfl,rfl⟩|⟨hp,pm,so,s,e,g1,h1,h2,g2,h3,h4,rfl,rfl⟩
 ·constructor
  ·intro h
   obtain⟨q,hq,e⟩:=List.mem_map.mp h
   have h1:=(oY ok np).mp hq
   have e1:q.1=w.s:=congrArg Ky.s e
   have e2:q.2=w.e:=congrArg Ky.e e
   rw[←e1,←e2]
   exact h1.2
  ·intro h
   have g:=(tb.gr np _ mk).1
   exact List.mem_map.mpr ⟨(w.s,w.e),(oY ok np).mpr ⟨g,h⟩,by unfold Wn.k;rw[hn]⟩
 ·have l1:=ok.l1
  constructor
  ·intro h
   rw[List.mem_singleton]at h
   have e1:w.s=s:=congrArg Ky.s h
   have e2:w.e=e:=congrArg Ky.e h
   lia
  ·rintro⟨u1,u2⟩
   have jm:(⟨n,s,e⟩:Ky)∈(addW (bX ws mt ⟨n,s,e⟩) n s e 1 a).map Wn.k:=eE.mpr ⟨_,eN ..⟩
   have pw:dD pl.len (eW (aV++[⟨n,t,a⟩]) n) w.s w.e:=by
    have:=tb.pr hp _ mk
    rw[show w.k.n=n from hn]at this
    exact this
   have pj:dD pl.len (eW (aV++[⟨n,t,a⟩]) n) s e:=tb.pr hp _ jm
   have tt:eW (aV++[⟨n,t,a⟩]) n t:=⟨⟨n,t,a⟩,List.mem_append_right _ (.head _),rfl,rfl⟩
   have u3:t<=w.e-pl.len:=Int.not_lt.mp λz=>by
    have:=pw.hi t tt z
    lia
   obtain⟨q1,q2⟩:=pw.uniq pj u1 u3 h1 LI
   rw[List.mem_singleton]
   unfold Wn.k
   rw[hn,q1,q2]
open Classical in
theorem Dm{pl:Pl}(ok:pl.ok){n:Str}{t a m:Int}{aV:List Ev}{ws cN wt kI:List Wn}{mt ks:List Ky}(WQ:Tab pl aV ws)(tb:Tab pl (aV++[⟨n,t,a⟩]) cN)(r:iY pl n t a ws mt ks cN)(hn:∀e∈aV,e.n=n)
  (p0:wt.Perm ws)(s0:wt.Pairwise (λa b=>aK a.d b.d≠.gt))(p1:kI.Perm cN)(s1:kI.Pairwise (λa b=>aK a.d b.d≠.gt))(sp:List Ky)(uf:sp=kI.map Wn.k)(C:Wn->Bool)(hC:∀w,C w=(decide (w.s<=t)&&decide (t<w.e)&&closed (some m) w.e))(D:Wn->Bool)(hD:∀w,D w=true↔w.k∉sp):
  dB (some m) mt ks++dG (some m) cN ks=((wt.filter λw=>closed (some m) w.e).filter D).map (λw=>dS.gone w.k)++(kI.filter C).map dS.told:=by
 obtain⟨k1,k2,k3,k4,k5,k6,k7,k8⟩:=Hl ok WQ.nd r
 have M_:∀k,k∈sp↔k∈cN.map Wn.k:=λk=>by rw[uf];exact(p1.map Wn.k).mem_iff
 have nm:∀w∈cN,w.n=n:=λw hw=>by
  obtain⟨e,me,en⟩:=uz tb hw
  rcases List.mem_append.mp me with me|me
  ·exact en.symm.trans (hn e me)
  ·rw[List.mem_singleton.mp me]at en
   exact en.symm
 congr 1
 ·-- gone
  have e1:(mt.filter λk=>decide (k∉ks)&&closed (some m) k.e)=((wt.filter λw=>closed (some m) w.e).filter D).map Wn.k:=by
   have UP:(wt.map Wn.k).Nodup:=((p0.map Wn.k).nodup_iff).mpr WQ.nd
   refine h_ Ky.d Ur (λk _=>Cn k) (λ_ _ _ _ h=>oZ h) (oX (k1.sublist List.filter_sublist) (UP.sublist ((List.filter_sublist.trans List.filter_sublist).map _)) λk=>?_) ((List.pairwise_map.mp k2).filter _) (List.pairwise_map.mpr (((s0.filter _).filter _).imp λh=>FT h))
   rw[List.mem_filter,List.mem_map]
   constructor
   ·rintro⟨h1,h2⟩
    obtain⟨h2,h3⟩:=(Bool.and_eq_true _ _).mp h2
    obtain⟨w,hw,rfl⟩:=List.mem_map.mp (k4 k h1)
    refine⟨w,List.mem_filter.mpr ⟨List.mem_filter.mpr ⟨p0.mem_iff.mpr hw,h3⟩,(hD w).mpr λz=>?_⟩,rfl⟩
    exact k6 _ h1 (of_decide_eq_true h2) ((M_ _).mp z)
   ·rintro⟨w,hw,rfl⟩
    obtain⟨hw,h2⟩:=List.mem_filter.mp hw
    obtain⟨hw,h3⟩:=List.mem_filter.mp hw
    have Vv:w.k∈ws.map Wn.k:=List.mem_map_of_mem (p0.mem_iff.mp hw)
    have h4:w.k∉cN.map Wn.k:=λz=>(hD w).mp h2 ((M_ _).mpr z)
    have h5:w.k∉ks:=λz=>h4 (k5 _ z).1
    have h6:w.k∈mt:=Classical.byContradiction λz=>h4 ((k7 _ z h5).mpr Vv)
    exact⟨h6,(Bool.and_eq_true _ _).mpr ⟨decide_eq_true h5,h3⟩⟩
  unfold dB
  rw[e1,List.map_map]
  rfl
 ·-- told
  have e1:(ks.filter λk=>closed (some m) k.e).filterMap (λk=>cA cN k.l)=kI.filter C:=by
   have UP:(kI.map Wn.k).Nodup:=((p1.map Wn.k).nodup_iff).mpr tb.nd
   have gk:∀{k:Ky}{w:Wn},cA cN k.l=some w->w∈cN/\w.k=k:=λh=>gR h
   have so:((ks.filter λk=>closed (some m) k.e).filterMap (λk=>cA cN k.l)).Pairwise (λa b=>a.s<b.s):=by
    refine List.pairwise_filterMap.mpr (List.Pairwise.imp (λ{x y} h b hb b' hb'=>?_) ((show ks.Pairwise (λa b=>a.s<b.s)from ?_).filter _))
    ·rw[←(gk hb).2,←(gk hb').2]at h
     exact h
    ·rcases r with⟨np,_,rfl,_⟩|⟨_,_,_,s,e,_,_,_,_,_,_,rfl,_⟩
     ·exact Mn ok np n t
     ·exact List.pairwise_cons.mpr ⟨λ_ h=>(nomatch h),.nil⟩
   have mem:∀w,w∈(ks.filter λk=>closed (some m) k.e).filterMap (λk=>cA cN k.l)↔w∈kI.filter C:=λw=>by
    rw[List.mem_filterMap,List.mem_filter,p1.mem_iff,hC]
    constructor
    ·rintro⟨k,hk,hg⟩
     obtain⟨hk,hc⟩:=List.mem_filter.mp hk
     obtain⟨hw,rfl⟩:=gk hg
     obtain⟨u1,u2⟩:=(JL ok r tb hw (nm w hw)).mp hk
     exact⟨hw,by rw[decide_eq_true u1,decide_eq_true u2];exact hc⟩
    ·rintro⟨hw,hc⟩
     obtain⟨h1,h2⟩:=(Bool.and_eq_true _ _).mp hc
     obtain⟨h3,h4⟩:=(Bool.and_eq_true _ _).mp h1
     exact⟨w.k,List.mem_filter.mpr ⟨(JL ok r tb hw (nm w hw)).mpr ⟨of_decide_eq_true h3,of_decide_eq_true h4⟩,h2⟩,pA tb.nd hw⟩
   have nd1:((ks.filter λk=>closed (some m) k.e).filterMap (λk=>cA cN k.l)).Nodup:=so.imp λ{x y} h e=>by rw[e]at h;lia
   have in1:∀w∈(ks.filter λk=>closed (some m) k.e).filterMap (λk=>cA cN k.l),w.n=n:=λw hw=>nm w (p1.mem_iff.mp (List.mem_filter.mp ((mem w).mp hw)).1)
   refine h_ Wn.d Sq (λa _=>Cm a) (λa _ b _ h=>Wn.JR h) (oX nd1 ((jN UP).sublist List.filter_sublist) mem) ?_ (s1.filter _)
   exact List.Pairwise.imp_of_mem (λ{x y} hx hy h=>Kn ((in1 x hx).trans (in1 y hy).symm) h) so
  unfold dG
  rw[←e1,List.map_filterMap]
theorem three{pl:Pl}(ok:pl.ok){n:Str}{t1 a1 m t2 a2:Int}{outs:List (List dS)}{st:vR}(h:Runs pl ⟨none,[],[]⟩ [.ev n t1 a1,.mk m,.ev n t2 a2] outs st):
  ∃(ws rs:List Wn) (o3:List dS),outs=[[],rs.map dS.told,o3]/\Tab pl [⟨n,t1,a1⟩] ws/\rs.Perm (ws.filter λw=>closed (some m) w.e)/\(rs.map Wn.ed).Pairwise (λd e=>aK d e≠.gt)/\ws.length<=100/\o3.length<=200/\
   ((late (some m) (fD pl) t2=true/\o3=[.missed n t2 a2])\/(late (some m) (fD pl) t2=false/\∃(mt ks:List Ky) (cN:List Wn),iY pl n t2 a2 ws mt ks cN/\Tab pl ([⟨n,t1,a1⟩]++[⟨n,t2,a2⟩]) cN/\o3=dB (some m) mt ks++dG (some m) cN ks)):=by
 obtain⟨S,S0,_,lo,hS⟩:=zQ h
 obtain⟨o1,o2,o3,rfl⟩:∃o1 o2 o3,outs=[o1,o2,o3]:=by
  match outs,lo with
  |[o1,o2,o3],_=>exact⟨o1,o2,o3,rfl⟩
 have d1:=hS 0 _ _ rfl rfl
 have d2:=hS 1 _ _ rfl rfl
 have d3:=hS 2 _ _ rfl rfl
 have l1:=Ej ok d1
 have l3:=Ej ok d3
 have jZ:=d1.len ok
 rw[S0]at d1 l1 jZ
 rcases d1 with⟨z,_⟩|⟨_,mt,ks,ws,r1,e1,s1⟩
 ·cases z
 have T1:Tab pl [⟨n,t1,a1⟩] ws:=(Tab.nil pl).step ok r1
 rw[s1]at d2
 rcases d2 with⟨z,_⟩|⟨_,rs,p2,Zt,e2,s2⟩
 ·cases z
 have ew:(S 1).ws=ws:=by rw[s1]
 rw[s2]at d3 l3
 have lw:ws.length<=100:=by
  rw[ew]at jZ
  simpa using jZ.1
 refine⟨ws,rs,o3,?_,T1,?_,Zt,lw,?_,?_⟩
 ·rw[e1,e2]
  have g1:dB none mt ks=[]:=List.eq_nil_iff_forall_not_mem.mpr λz hz=>by
   obtain⟨k,_,_,h,_⟩:=Ag.mp hz
   cases h
  have g2:dG none ws ks=[]:=by
   unfold dG
   rw[show(ks.filter λk=>closed none k.e)=[]from List.filter_eq_nil_iff.mpr λk _ z=>nomatch z]
   rfl
  show [dB none mt ks++dG none ws ks,_,_]=_
  rw[g1,g2]
  rfl
 ·have:(ws.filter (fresh none m))=ws.filter λw=>closed (some m) w.e:=List.filter_congr λw _=>by
   show(decide (w.e<=m) && !false)=decide (w.e<=m)
   rw[Bool.not_false,Bool.and_true]
  rw[←this]
  exact p2
 ·have:(⟨some m,ws,[]⟩:vR).ws.length<=100:=lw
  have l3':o3.length<=ws.length+100:=l3
  lia
 ·rcases d3 with⟨z,e3,_⟩|⟨z,mt2,ks2,ud,r2,e3,_⟩
  ·exact .inl ⟨z,e3⟩
  ·exact .inr ⟨z,mt2,ks2,ud,r2,T1.step ok r2,e3⟩
inductive B_(Pt:Addr)(K:Fg7)(mg:Str->Option Value)(vs:List V)(H:Hp)(Q:VK):Prop
 |mk(a:Addr)(ns:List Int):(vs=[.ref a])->(bB K H a (ns.map V.int))->(ns.length<=63)->(dJ H Pt lp lq)->(gD K mg H)->(∀H',Q (.bl true) H')->B_ Pt K mg vs H Q
def Ie(Pt:Addr)(K:Fg7)(mg:Str->Option Value):Sp:=λvs H Q d_=>B_ Pt K mg vs H Q
def Nt(H H':Hp):Prop:=∀c o,H c=some o->(∀ps,o≠.oj ps)->H' c=some o
theorem Nt.kp{H H':Hp}{Pt:Addr}(lt:dJ H Pt lp lq)(k:iD H H' Pt):Nt H H':=λc o e n=>by
 obtain⟨ps,hp⟩:=gm lt
 exact k c o e (aI e hp (n ps))
theorem Nt.tup{H H':Hp}(s:Nt H H')(c:Addr)(xs:List V)(e:H c=some (.tup xs)):H' c=some (.tup xs):=s _ _ e λ_ z=>nomatch z
theorem l_{H:Hp}{a:Addr}{z:dS}(h:H a=some (.tup z.v)):Tk H (.ref a) (wH z):=by
 cases z with
 |told w=>exact .tup h (by show 6<=10000000;decide) (.cons (.str _) (.cons (.str _) (.cons (.int _) (.cons (.int _) (.cons (.int _) (.cons (.int _) .nil))))))
 |gone k=>exact .tup h (by show 4<=10000000;decide) (.cons (.str _) (.cons (.str _) (.cons (.int _) (.cons (.int _) .nil))))
 |missed n t a=>exact .tup h (by show 4<=10000000;decide) (.cons (.str _) (.cons (.str _) (.cons (.int _) (.cons (.int _) .nil))))
theorem lZ(o:List dS):(Dv.lst (o.map wH)).dep<=2:=Nat.succ_le_succ (tH λd hd=>by obtain⟨z,_,rfl⟩:=List.mem_map.mp hd;exact FL z)
def tU(H:Hp):List V->List Wn->Prop:=Paired λx w=>∃c b,x=.ref c/\H c=some (.tup [.int w.e,.ref b])/\H b=some (.tup w.v)
theorem tU.keep{H H':Hp}{xs:List V}{ws:List Wn}(h:tU H xs ws)(k:∀a row,H a=some (.tup row)->H' a=some (.tup row)):tU H' xs ws:=Paired.imp' (λ_ _ ⟨c,b,e,h1,h2⟩=>⟨c,b,e,k _ _ h1,k _ _ h2⟩) h
theorem tU.Mr{K:Fg7}{H:Hp}{xs:List V}{ws:List Wn}(h:tU H xs ws):fy K H xs (ws.map Ow):=by
 unfold tU at h
 induction h with
 |nil=>exact .nil
 |cons e _ ih=>
  obtain⟨c,b,rfl,h1,h2⟩:=e
  exact .cons (.tup (bg.of h1) (.cons (.int _) (.cons (Cy h2) .nil))) ih
theorem zY{α:Type}{F:V->α->Prop}{g:α->Dv}{ys:List V}{ws:List α}{ps:List (V×Dv)}(h:Paired F ys ws)(p:ps.Perm (ys.zip (ws.map g))):∃rs,rs.Perm ws/\Paired F (ps.map (·.1)) rs/\ps.map (·.2)=rs.map g:=by
 have e:ys.zip (ws.map g)=(ys.zip ws).map (λq=>(q.1,g q.2)):=by rw[List.zip_map_right];rfl
 obtain⟨zs,p1,rfl⟩:=TX.iK p e
 have hF:∀q∈ys.zip ws,F q.1 q.2:=by
  clear p p1 e
  induction h with
  |nil=>intro q hq;cases hq
  |cons e _ ih=>
   intro q hq
   rw[List.zip_cons_cons]at hq
   rcases List.mem_cons.mp hq with rfl|hq
   ·exact e
   ·exact ih q hq
 refine⟨zs.map (·.2),?_,?_,?_⟩
 ·have:=p1.map (·.2)
  rw[List.map_snd_zip (Nat.le_of_eq (Paired.length h).symm)]at this
  exact this
 ·rw[List.map_map]
  have hz:∀q∈zs,F q.1 q.2:=λq hq=>hF q (p1.mem_iff.mp hq)
  clear p1 p e
  induction zs with
  |nil=>exact .nil
  |cons q zs ih=>exact .cons (hz q (.head _)) (ih λr hr=>hz r (.tail _ hr))
 ·rw[List.map_map,List.map_map]
  rfl
theorem My(w:Wn):kh w.v none (some 3)=w.k.v:=rfl
theorem tM(w:Wn):¬(HT.eX w.v.length 0 none=0/\HT.eX w.v.length w.v.length (some 3)=w.v.length):=λh=>absurd h.2 (show¬(3:Nat)=5 by decide)
theorem NZ:(Pl.sliding 100 1 3).ok:=⟨by decide,by decide,by decide,by decide,by decide⟩
open Classical in
noncomputable def pW(sp:List Ky)(w:Wn):Bool:=decide (w.k∉sp)
open Classical in
theorem mD(sp:List Ky)(w:Wn):pW sp w=true↔w.k∉sp:=⟨λh=>of_decide_eq_true h,λh=>decide_eq_true h⟩
def LH(t m:Int)(w:Wn):Bool:=decide (w.s<=t)&&decide (t<w.e)&&closed (some m) w.e
section
variable {P:Program} {w:World} {K:Fg7} {mg:Str->Option Value} {Pt:Addr}
theorem Rt(D:aO K "law" jD)(M:MG K mg)(B:Bi K)(di:fQ P w K mg "_law_at" ["_law_script","_law_k"] 1 (Ii K))(qA:fQ P w K mg "_law_plan_of" ["_law_one","_law_two"] 1 yv)
  (AV:fQ P w K mg "answers" ["plan","deeds"] 6 (Ik K mg Pt))(oM:fQ P w K mg "_law_are_said" ["_law_found"] 3 (Ij K))(iE:fQ P w K mg "_law_table_of" ["_law_plan","_law_events"] 3 (yq K))(gX:fQ P w K mg "_law_so" ["_law_found","_law_meant"] 5 NV):
  fQ P w K mg "law" ["_law_script"] 8 (Ie Pt K mg):=by
 refine D.fn M cK MH (λvs H Q E h=>?_) (λf base cdv A outer s H vs Q E hr h=>?_)
 ·obtain⟨a,ns,rfl,_⟩:=h
  rfl
 ·obtain⟨a,ns,rfl,ha,hlen,hT,hB,k⟩:=h
  have hu:(A.deeper (envOfC "law" (aq jD) s.heap.objs.size f cdv)).units+64<cLine:=hr.units
  refine⟨_,(ao (dc (i:=1) cK.nd rfl (Or.inl rfl) (a_ qA (hr.mono (by decide)) rfl (pc (a_ di (hr.mono (by decide)) rfl (pc (pv 0) (pc ah aj))) (pc (a_ di (hr.mono (by decide)) rfl (pc (pv 0) (pc ah aj))) aj))))
   (mh (bN (aQ eU (aC oMod (aC oMod (aC gO (a_ di (hr.mono (by decide)) rfl (pc (pv 0) (pc ah aj))) ah) ah) ah) ah (aP _)) (aA (dc (i:=1) cK.nd rfl (Or.inl rfl) (bD (pc cL (pc ah (pc ah (pc ah aj))))))) aN)
   (ao (dc (i:=2) cK.nd rfl (Or.inl rfl) ah)
   (ao (dc (i:=3) cK.nd rfl (Or.inl rfl) (cy (pc ah (pc (nR uq ah) (pc ah (pc (nR uq ah) (pc (pv 2) (pc (aC pV ah (pv 2)) aj))))))))
   (ao (dc (i:=4) cK.nd rfl (Or.inl rfl) (aF cR (pv 3) (aC oMod (aC oMod (aC gO (a_ di (hr.mono (by decide)) rfl (pc (pv 0) (pc ah aj))) ah) ah) ah) (λ_ _=>rfl)))
   (ao (dc (i:=5) cK.nd rfl (Or.inl rfl) (aC gP (pv 4) (aC oMod (aC oMod (aC gO (a_ di (hr.mono (by decide)) rfl (pc (pv 0) (pc ah aj))) ah) ah) ah)))
   (ao (dc (i:=6) cK.nd rfl (Or.inl rfl) (aC pV (aC gP (pv 5) (aC oMod (aC oMod (aC gO (a_ di (hr.mono (by decide)) rfl (pc (pv 0) (pc ah aj))) ah) ah) ah)) ah))
   (ao (dc (i:=7) cK.nd rfl (Or.inl rfl) (aC uY (a_ di (hr.mono (by decide)) rfl (pc (pv 0) (pc ah aj))) ah))
   (ao (dc (i:=8) cK.nd rfl (Or.inl rfl) (cy (pc (aC gP (pv 5) (aC oMod (pv 7) (aC gP ah (aF aY (pv 1) ah (λ_ _=>rfl))))) aj)))
   (ao (iJ (pT PySem.F.plainAttrs_list PySem.F.slot_list_append PySem.F.type_list_append eL (pv 8) (pc (aC pV (aC gP (aC gP (pv 5) (aF aY (pv 1) ah (λ_ _=>rfl))) (aC oMod (aC oMod (aC gO (pv 7) ah) ah) ah)) ah) aj)))
   (ao (iJ (pT PySem.F.plainAttrs_list PySem.F.slot_list_append PySem.F.type_list_append eL (pv 8) (pc (aC pV (aC gP (aC gP (pv 6) (aF aY (pv 1) (nR uq ah) (λ_ _=>rfl))) (aC oMod (aC oMod (aC gO (pv 7) ah) ah) ah)) ah) aj)))
   (ao (dc (i:=9) cK.nd rfl (Or.inr rfl) (aF cR (pv 8) (aC oMod (aC oMod (aC gO (a_ di (hr.mono (by decide)) rfl (pc (pv 0) (pc ah aj))) ah) ah) ah) (λ_ _=>rfl)))
   (ao (dc (i:=10) cK.nd rfl (Or.inl rfl) (bD (pc cL (pc cL (pc (pv 5) (pc (aC pV (aC oMod (aC oMod (aC gO (a_ di (hr.mono (by decide)) rfl (pc (pv 0) (pc ah aj))) ah) ah) ah) ah) aj))))))
   (ao (dc (i:=11) cK.nd rfl (Or.inl rfl) (bD (pc cL (pc cL (pc (pv 6) (pc (aC pV (aC oMod (aC oMod (aC gO (a_ di (hr.mono (by decide)) rfl (pc (pv 0) (pc ah aj))) ah) ah) ah) ah) aj))))))
   (ao (dc (i:=12) cK.nd rfl (Or.inl rfl) (a_ AV (hr.mono (by decide)) rfl (pc (pv 1) (pc (cy (pc (pv 10) (pc (bD (pc cL (pc (pv 9) aj))) (pc (pv 11) aj)))) aj))))
   (ao (bN (PW.pt (yJ (fJ (cY (aZ aR rfl (M.no _ B.aL) aH (pc (pv 12) (pc (bU (v:=.ty "list") rfl (M.no _ B.ny) jh rfl) aj))))) (sJ (aQ yM (aZ bV rfl (M.no _ B.jC) gG (pc (pv 12) aj)) ah (aP _))))) (aA (aM gi)) aN)
   (ao (fh PassesOwn.never rfl (bw (pv 12)) (aU (i:=13) cK.nd rfl (Or.inl rfl))
   (aA (bN (fJ (cY (a_ oM (hr.mono (by decide)) rfl (pc (pv 13) aj)))) (aA (aM gi)) aN)))
   (ao (dc (i:=14) cK.nd rfl (Or.inl rfl) (a_ iE (hr.mono (by decide)) rfl (pc (pv 1) (pc (cy (pc (pv 10) aj)) aj))))
   (ao (gB (k:=15) (NY:=["_law_row","_law_mark"]) (js:=[none,some 9]) rfl cK.nd rfl rfl rfl (by with_unfolding_all rfl) (by repeat first|exact bY.nil|refine bY.cons rfl ?_) (.own (.out rfl rfl (.inl rfl) .nil)) (bw (pv 14)) (λ_ _ _ _ _=>⟨(aU (i:=0) (show(["_law_row","_law_mark"]:List Str).Nodup from by decide +kernel) rfl (Or.inl rfl)),(ic (aQ oLe (aF (bh (K:=K) rfl) (pv 0) ah (λ_ _=>rfl)) (pv 1) (aP _))),(pv 0)⟩))
   (ao (dc (i:=16) cK.nd rfl (Or.inl rfl) (aZ (fU hu) rfl (M.no _ B.gS) f_ (pc (eT (NY:=["_law_row"]) (js:=[none]) rfl rfl (by with_unfolding_all rfl) (by repeat first|exact bY.nil|refine bY.cons rfl ?_) (.own .nil) (bw (pv 15)) (λ_ _ _ _ _=>⟨(aU (i:=0) (show(["_law_row"]:List Str).Nodup from by decide +kernel) rfl (Or.inl rfl)),dU,(bD (pc (aF (bh (K:=K) rfl) (pv 0) ah (λ_ _=>rfl)) (pc (pv 0) aj)))⟩)) aj)))
   (ao (bN (fJ (cY (a_ gX (hr.mono (by decide)) rfl (pc (iL FH (pv 12) kW (kU ah)) (pc (cy (pc (cy aj) (pc (eT (NY:=["_law_pair"]) (js:=[none]) rfl rfl (by with_unfolding_all rfl) (by repeat first|exact bY.nil|refine bY.cons rfl ?_) (.own .nil) (bw (pv 16)) (λ_ _ _ _ _=>⟨(aU (i:=0) (show(["_law_pair"]:List Str).Nodup from by decide +kernel) rfl (Or.inl rfl)),dU,(aC (gj (K:=K) rfl) (bD (pc cL aj)) (aF (bh (K:=K) rfl) (pv 0) ah (λ_ _=>rfl)))⟩)) aj))) aj))))) (aA (aM gi)) aN)
   (ao (bN (aQ oLt (pv 6) (aC pV (pv 9) (aF aY (pv 1) (nR uq ah) (λ_ _=>rfl))) (aP _)) (aA (aM (a_ gX (hr.mono (by decide)) rfl (pc (aF cR (pv 12) ah (λ_ _=>rfl)) (pc (cy (pc (bD (pc cL (pc cL (pc (pv 6) (pc (aF aY (pv 11) ah (λ_ _=>rfl)) aj))))) aj)) aj))))) aN)
   (ao (dc (i:=17) cK.nd rfl (Or.inl rfl) (cy aj))
   (ao (gB (k:=18) (NY:=["_law_row"]) (js:=[none]) rfl cK.nd rfl rfl rfl (by with_unfolding_all rfl) (by repeat first|exact bY.nil|refine bY.cons rfl ?_) (.own .nil) (bw (a_ iE (hr.mono (by decide)) rfl (pc (pv 1) (pc (cy (pc (pv 10) (pc (pv 11) aj))) aj)))) (λ_ _ _ _ _=>⟨(aU (i:=0) (show(["_law_row"]:List Str).Nodup from by decide +kernel) rfl (Or.inl rfl)),dU,(pv 0)⟩))
   (ao (gB (k:=19) (NY:=["_law_row"]) (js:=[none]) rfl cK.nd rfl rfl rfl (by with_unfolding_all rfl) (by repeat first|exact bY.nil|refine bY.cons rfl ?_) (.own .nil) (bw (pv 18)) (λ_ _ _ _ _=>⟨(aU (i:=0) (show(["_law_row"]:List Str).Nodup from by decide +kernel) rfl (Or.inl rfl)),dU,(iL (FI (K:=K) rfl) (pv 0) kW (kU ah))⟩))
   (ao (fh PassesOwn.never rfl (bw (pv 15)) (aU (i:=20) cK.nd rfl (Or.inl rfl))
   (aA (bN (aQ (rq hu) (iL sF (pv 20) kW (kU ah)) (pv 19) (by with_unfolding_all rfl)) (aA (iJ (pT PySem.F.plainAttrs_list PySem.F.slot_list_append PySem.F.type_list_append eL (pv 17) (pc (aC sR (bD (pc cL aj)) (iL sF (pv 20) kW (kU ah))) aj)))) aN)))
   (ao (fh PassesOwn.never rfl (bw (pv 18)) (aU (i:=20) cK.nd rfl (Or.inl rfl))
   (aA (bN (PW.pt (jI (uU oLe oLt (aF aY (pv 20) ah (λ_ _=>rfl)) (pv 6) (aF aY (pv 20) ah (λ_ _=>rfl))) (i_ (aQ oLe (aF aY (pv 20) ah (λ_ _=>rfl)) (pv 9) (aP _))))) (aA (iJ (pT PySem.F.plainAttrs_list PySem.F.slot_list_append PySem.F.type_list_append eL (pv 17) (pc (aC sR (bD (pc cL aj)) (pv 20)) aj)))) aN)))
   (aA (aM (a_ gX (hr.mono (by decide)) rfl (pc (aF cR (pv 12) ah (λ_ _=>rfl)) (pc (pv 17) aj)))))))))))))))))))))))))))))))),?_⟩
  clear hu
  have no:∀{A:Prop},(!true)=true->A:=λh=>nomatch h
  have sz:=sizeLine_eq
  refine aX λBq dY=>?_
  refine⟨_,rfl,a,ns,0,rfl,ha,(by decide),λv0=>⟨_,rfl,a,ns,1,rfl,ha,(by decide),λv1=>⟨v0,v1,rfl,λp0 ZN H1 s1 hp0 hp Xl YS=>?_⟩⟩⟩
  subst dY
  try dsimp only[cO]
  refine⟨λσ H2=>∃(p:Addr) (pl:Pl),σ=[some (.ref a),some (.ref p),none,none,none,none,none,none,none,none,none,none,none,none,none,none,none,none,none,none,none]/\av H H2/\H2 p=some (.tup pl.row)/\pl.ok/\bad pl=false,?_,?_⟩
  ·refine⟨_,rfl,a,ns,1,rfl,s1.seq ha,(by decide),λv2=>⟨_,_,rfl,rfl,.inr ⟨by decide,by decide⟩,_,_,rfl,rfl,(by show(0:Int)<_;decide),_,_,rfl,rfl,(by show(0:Int)<_;decide),rfl,_,rfl,aT (λ_=>?_) (λ_=>⟨p0,ZN,rfl,s1,hp,Xl,YS⟩)⟩⟩
   exact⟨(by show 4<=sizeLine;decide),λq hq=>⟨q,.sliding 100 1 3,rfl,s1.trans (av.new hq),af,NZ,by decide⟩⟩
  rintro σ H2 ⟨p,pl,rfl,s2,hp2,ok,bd⟩
  clear hp0 hp Xl YS s1
  have l1:=ok.l1
  have l2:=ok.l2
  refine aX λBq dY=>?_
  subst dY
  dsimp only[BN,tC,cO]
  refine aX λBq dY=>?_
  refine⟨7,rfl,1000000,rfl,_,rfl,_,rfl,_,_,rfl,rfl,(by show 6<=sizeLine;decide),λbl Nk=>?_⟩
  have t3:=av.new (o:=.lst [V.int 0,V.int (-7),V.int 1000000000000,V.int (-1000000),V.int 10000000000000000000000000000000000000000,V.int (0-10000000000000000000000000000000000000000)]) Nk
  have Rc:upd H2 bl (.lst [V.int 0,V.int (-7),V.int 1000000000000,V.int (-1000000),V.int 10000000000000000000000000000000000000000,V.int (0-10000000000000000000000000000000000000000)]) bl=some (.lst [V.int 0,V.int (-7),V.int 1000000000000,V.int (-1000000),V.int 10000000000000000000000000000000000000000,V.int (0-10000000000000000000000000000000000000000)]):=af
  have s3:=s2.trans t3
  have hp3:=t3 _ _ hp2
  generalize upd H2 bl (.lst [V.int 0,V.int (-7),V.int 1000000000000,V.int (-1000000),V.int 10000000000000000000000000000000000000000,V.int (0-10000000000000000000000000000000000000000)])=H3 at *
  clear hp2 s2 t3
  subst dY
  try dsimp only[cO]
  refine aX λBq dY=>?_
  refine⟨_,rfl,_,rfl,a,ns,2,rfl,s3.seq ha,(by decide),λv2=>⟨_,_,rfl,rfl,.inr ⟨by decide,by decide⟩,_,_,rfl,rfl,(by show(0:Int)<_;decide),_,_,rfl,rfl,(by show(0:Int)<_;decide),?_⟩⟩
  have m1:=mod2 (v2*48271) 1031 6 (by decide)
  obtain⟨bv,ab,mb⟩:=Ew (xs:=[V.int 0,V.int (-7),V.int 1000000000000,V.int (-1000000),V.int 10000000000000000000000000000000000000000,V.int (0-10000000000000000000000000000000000000000)]) (i:=v2*48271%1031%6) m1.1 m1.2
  obtain⟨b,rfl,hb1,hb2⟩:∃b:Int,bv=.int b/\-(10^40)<=b/\b<=10^40:=by
   simp only[List.mem_cons,List.not_mem_nil,or_false]at mb
   rcases mb with rfl|rfl|rfl|rfl|rfl|rfl<;>exact⟨_,rfl,by decide,by decide⟩
  refine⟨bl,_,_,_,rfl,rfl,bB.of Rc,ab,?_⟩
  rw[e40]at hb1 hb2
  clear ab mb m1
  subst dY
  try dsimp only[cO]
  refine aX λBq dY=>?_
  refine⟨_,rfl,_,rfl,a,ns,3,rfl,s3.seq ha,(by decide),λv3=>⟨_,_,rfl,rfl,.inr ⟨by decide,by decide⟩,_,_,rfl,rfl,(by show(0:Int)<_;decide),_,_,rfl,rfl,(by show(0:Int)<_;decide),_,_,rfl,rfl,?_⟩⟩
  have m2:=mod2 (v3*48271) 1033 30 (by decide)
  obtain⟨t1,YF,t1a,t1b⟩:∃t1,b+v3*48271%1033%30=t1/\-20000000000000000000000000000000000000000<=t1/\t1<=20000000000000000000000000000000000000000:=⟨_,rfl,by lia,by lia⟩
  rw[YF]
  clear YF m2 hb1 hb2
  subst dY
  try dsimp only[cO]
  refine aX λBq dY=>?_
  refine⟨_,rfl,_,rfl,a,ns,4,rfl,s3.seq ha,(by decide),λv4=>⟨_,_,rfl,rfl,.inr ⟨by decide,by decide⟩,_,_,rfl,rfl,(by show(0:Int)<_;decide),_,_,rfl,rfl,(by show(0:Int)<_;decide),_,_,rfl,rfl,_,_,rfl,rfl,?_⟩⟩
  have m3:=mod2 (v4*48271) 1049 25 (by decide)
  obtain⟨t2,YE,t2a,t2b⟩:∃t2,t1+v4*48271%1049%25-12=t2/\-30000000000000000000000000000000000000000<=t2/\t2<=30000000000000000000000000000000000000000:=⟨_,rfl,by lia,by lia⟩
  rw[YE]
  clear YE m3
  subst dY
  try dsimp only[cO]
  refine aX λBq dY=>?_
  refine⟨_,rfl,a,ns,5,rfl,s3.seq ha,(by decide),λv5=>⟨_,_,rfl,rfl,⟨by decide,by decide,by decide⟩,?_⟩⟩
  generalize v5/3=c
  subst dY
  try dsimp only[cO]
  refine aX λBq dY=>?_
  refine⟨_,rfl,_,rfl,_,rfl,p,_,1,_,rfl,rfl,bg.of hp3,pQ pl,_,_,rfl,rfl,_,_,rfl,rfl,(by show(0:Int)<40+pl.len;lia),_,_,rfl,rfl,(by show 1<=sizeLine;decide),λml hml=>?_⟩
  generalize t1+c%(40+pl.len)=x1
  have t4:=av.new (o:=.lst [V.int x1]) hml
  have xx:upd H3 ml (.lst [V.int x1]) ml=some (.lst [V.int x1]):=af
  have SS:=t4 _ _ hp3
  have s4:=s3.trans t4
  have hm0:H ml=none:=s3.free hml
  generalize upd H3 ml (.lst [V.int x1])=H4 at *
  clear hp3 Rc t4 hml s3 Nk
  subst dY
  try dsimp only[cO]
  refine aX λBq dY=>?_
  refine⟨_,rfl,.inl ⟨rfl,_,bB.of xx⟩,_,rfl,_,rfl,p,_,1,_,rfl,rfl,bg.of SS,pQ pl,_,_,rfl,rfl,_,rfl,_,_,rfl,rfl,.inr ⟨by decide,by decide⟩,_,_,rfl,rfl,(by show(0:Int)<_;decide),_,_,rfl,rfl,(by show(0:Int)<_;decide),_,_,rfl,rfl,_,_,rfl,rfl,ml,_,_,rfl,rfl,xx,(by show 1<sizeLine;decide),?_⟩
  generalize t1+pl.len+c*48271%1063%5-2=x2
  have xw:upd H4 ml (.lst ([V.int x1]++[V.int x2])) ml=some (.lst [V.int x1,V.int x2]):=af
  have SR:upd H4 ml (.lst ([V.int x1]++[V.int x2])) p=some (.tup pl.row):=by rw[ai (aI SS xx (by intro z;cases z))];exact SS
  have s5:av H (upd H4 ml (.lst ([V.int x1]++[V.int x2]))):=λd u e=>by rw[ai (au e hm0)];exact s4 _ _ e
  generalize upd H4 ml (.lst ([V.int x1]++[V.int x2]))=H5 at *
  clear SS xx s4
  subst dY
  try dsimp only[pL]
  refine aX λBq dY=>?_
  refine⟨_,rfl,.inl ⟨rfl,_,bB.of xw⟩,_,rfl,_,rfl,1,rfl,p,_,-1,_,rfl,rfl,bg.of SR,wJ pl,_,_,rfl,rfl,_,rfl,_,_,rfl,rfl,.inr ⟨by decide,by decide⟩,_,_,rfl,rfl,(by show(0:Int)<_;decide),_,_,rfl,rfl,(by show(0:Int)<_;decide),_,_,rfl,rfl,_,_,rfl,rfl,ml,_,_,rfl,rfl,xw,(by show 2<sizeLine;decide),?_⟩
  generalize t2+fD pl+c*48271%1069%3-1=x3
  have QJ:upd H5 ml (.lst ([V.int x1,V.int x2]++[V.int x3])) ml=some (.lst [V.int x1,V.int x2,V.int x3]):=af
  have Yi:upd H5 ml (.lst ([V.int x1,V.int x2]++[V.int x3])) p=some (.tup pl.row):=by rw[ai (aI SR xw (by intro z;cases z))];exact SR
  have s6:av H (upd H5 ml (.lst ([V.int x1,V.int x2]++[V.int x3]))):=λd u e=>by rw[ai (au e hm0)];exact s5 _ _ e
  generalize upd H5 ml (.lst ([V.int x1,V.int x2]++[V.int x3]))=H6 at *
  clear SR xw s5
  subst dY
  try dsimp only[pL]
  refine aX λBq dY=>?_
  refine⟨_,rfl,_,rfl,a,ns,5,rfl,s6.seq ha,(by decide),λv6=>⟨_,_,rfl,rfl,.inr ⟨by decide,by decide⟩,_,_,rfl,rfl,(by show(0:Int)<_;decide),_,_,rfl,rfl,(by show(0:Int)<_;decide),?_⟩⟩
  have m4:=mod2 (v6*48271) 1039 3 (by decide)
  obtain⟨mv,am,mm⟩:=Ew (xs:=[V.int x1,V.int x2,V.int x3]) (i:=v6*48271%1039%3) m4.1 m4.2
  obtain⟨m,rfl⟩:∃m:Int,mv=.int m:=by
   simp only[List.mem_cons,List.not_mem_nil,or_false]at mm
   rcases mm with rfl|rfl|rfl<;>exact⟨_,rfl⟩
  refine⟨ml,_,_,_,rfl,rfl,bB.of QJ,am,?_⟩
  clear am mm m4 QJ hm0
  subst dY
  try dsimp only[cO]
  refine aX λBq dY=>?_
  refine⟨_,rfl,_,rfl,a,ns,6,rfl,s6.seq ha,(by decide),λv7=>⟨_,_,rfl,rfl,.inr ⟨by decide,by decide⟩,_,_,rfl,rfl,(by show(0:Int)<_;decide),_,_,rfl,rfl,(by show(0:Int)<_;decide),_,_,rfl,rfl,(by show 4<=sizeLine;decide),λo1 Jt=>?_⟩⟩
  generalize v7*48271%1051%9-4=a1
  have t7:=av.new (o:=.tup [.str "event",.str "a",.int t1,.int a1]) Jt
  have Yl:upd H6 o1 (.tup [.str "event",.str "a",.int t1,.int a1]) o1=some (.tup (gx.ev "a" t1 a1).v):=af
  have Yh:=t7 _ _ Yi
  have s7:=s6.trans t7
  generalize upd H6 o1 (.tup [.str "event",.str "a",.int t1,.int a1])=H7 at *
  clear Yi s6 t7 Jt
  subst dY
  try dsimp only[cO]
  refine aX λBq dY=>?_
  refine⟨_,rfl,_,rfl,a,ns,7,rfl,s7.seq ha,(by decide),λv8=>⟨_,_,rfl,rfl,.inr ⟨by decide,by decide⟩,_,_,rfl,rfl,(by show(0:Int)<_;decide),_,_,rfl,rfl,(by show(0:Int)<_;decide),_,_,rfl,rfl,(by show 4<=sizeLine;decide),λo2 ho2=>?_⟩⟩
  generalize v8*48271%1061%9-4=a2
  have t8:=av.new (o:=.tup [.str "event",.str "a",.int t2,.int a2]) ho2
  have Yk:upd H7 o2 (.tup [.str "event",.str "a",.int t2,.int a2]) o2=some (.tup (gx.ev "a" t2 a2).v):=af
  have QE:=t8 _ _ Yl
  have Yg:=t8 _ _ Yh
  have s8:=s7.trans t8
  generalize upd H7 o2 (.tup [.str "event",.str "a",.int t2,.int a2])=H8 at *
  clear Yh s7 t8 ho2 Yl
  subst dY
  try dsimp only[cO]
  refine aX λBq dY=>?_
  refine⟨_,rfl,_,rfl,_,rfl,(by show 2<=sizeLine;decide),λq1 hq1=>⟨_,rfl,(by show 3<=sizeLine;decide),λdl hdl=>?_⟩⟩
  have t9:=(av.new (o:=.tup [.str "mark",.int m]) hq1).trans (av.new (o:=.lst [.ref o1,.ref q1,.ref o2]) hdl)
  have Q_:upd (upd H8 q1 (.tup [.str "mark",.int m])) dl (.lst [.ref o1,.ref q1,.ref o2]) dl=some (.lst [.ref o1,.ref q1,.ref o2]):=af
  have Yd:upd (upd H8 q1 (.tup [.str "mark",.int m])) dl (.lst [.ref o1,.ref q1,.ref o2]) q1=some (.tup (gx.mk m).v):=(av.new hdl) _ _ af
  have LR:=t9 _ _ QE
  have LP:=t9 _ _ Yk
  have VB:=t9 _ _ Yg
  have s9:=s8.trans t9
  generalize upd (upd H8 q1 (.tup [.str "mark",.int m])) dl (.lst [.ref o1,.ref q1,.ref o2])=H9 at *
  clear QE Yk Yg s8 t9 hq1 hdl
  have VZ:dJ H9 Pt lp lq:=cX hT (λps e=>s9 _ _ e) λa o u e=>s9 _ _ e
  have Yy:gD K mg H9:=fm hB λa o u e=>s9 _ _ e
  have RN:(-(10^45)<t1/\t1<10^45)/\(-(10^45)<t2/\t2<10^45):=by rw[e45];lia
  refine⟨p,dl,pl,_,[.ev "a" t1 a1,.mk m,.ev "a" t2 a2],rfl,bg.of VB,bd,ok,bB.of Q_,.cons ⟨o1,rfl,bg.of LR⟩ (.cons ⟨q1,rfl,bg.of Yd⟩ (.cons ⟨o2,rfl,bg.of LP⟩ .nil)),(λdd hd=>?_),(by show 3<=1000;decide),(λi outs st rn=>?_),VZ,Yy,λol yo outs st EF rn kp _ GP sa _=>?_⟩
  ·simp only[List.mem_cons,List.not_mem_nil,or_false]at hd
   rcases hd with rfl|rfl|rfl
   ·exact RN.1
   ·trivial
   ·exact RN.2
  ·have h1:=(rn.len ok).1
   have h2:(([.ev "a" t1 a1,.mk m,.ev "a" t2 a2]:List gx).take i).length<=3:=by rw[List.length_take];exact Nat.min_le_right _ _
   show st.ws.length<10000001
   simp only[List.length_nil]at h1
   lia
  have MW:=Nt.kp VZ kp
  have QI:=MW.tup _ _ LR
  have QD:=MW.tup _ _ LP
  have Qy:=MW.tup _ _ VB
  obtain⟨ws,rs,o3,rfl,T1,pm,so,lw,MY,alt⟩:=three ok rn
  have lrs:rs.length<=100:=by rw[pm.length_eq];exact Nat.le_trans (List.length_filter_le _ _) lw
  obtain⟨r1,r2,r3,rfl,z2,z3,hr1,hr2,EV,yT,MZ⟩:∃(r1 r2 r3:Addr),yo=[.ref r1,.ref r2,.ref r3]/\∃(z2 z3:List V),EF r1=some (.lst [])/\EF r2=some (.lst z2)/\EF r3=some (.lst z3)/\aE dS.v EF z2 (rs.map dS.told)/\aE dS.v EF z3 o3:=by
   cases sa with
   |cons e1 sa=>
    cases sa with
    |cons e2 sa=>
     cases sa with
     |cons e3 sa=>
      cases sa
      obtain⟨r1,z1,rfl,h1,l1⟩:=e1
      obtain⟨r2,z2,rfl,h2,l2⟩:=e2
      obtain⟨r3,z3,rfl,h3,l3⟩:=e3
      cases l1
      exact⟨r1,r2,r3,rfl,z2,z3,h1,h2,h3,l2,l3⟩
  clear MW LR LP VB Q_ Yd VZ Yy kp sa rn hT hB s9
  have lz2:=yT.len
  rw[List.length_map]at lz2
  have lz3:=MZ.len
  subst dY
  try dsimp only[cO]
  refine aX λBq dY=>?_
  refine⟨_,rfl,_,_,_,true,rfl,.lst GP,rfl,true,rfl,aT no λ_=>?_⟩
  refine⟨_,rfl,ol,_,rfl,.inl (bB.of GP),rfl,_,rfl,aT (LG rfl) λ_=>?_⟩
  subst dY
  try dsimp only[pL]
  refine aX λBq dY=>?_
  refine⟨_,rfl,ol,rfl,⟨_,bB.of GP⟩,?_⟩
  refine dQ (K:=K) (a:=ol) (xs:=[.ref r1,.ref r2,.ref r3]) (λi σ H'=>∃JV,σ=[some (.ref a),some (.ref p),some (.int 10000000000000000000000000000000000000000),some (.ref bl),some (.int b),some (.int t1),some (.int t2),some (.int c),some (.ref ml),some (.int m),some (.ref o1),some (.ref o2),some (.ref ol),JV,none,none,none,none,none,none,none]/\av EF H') ⟨none,rfl,av.refl _⟩ (λi σ H' _ ⟨_,_,sm⟩=>bB.of (sm _ _ GP)) ?_ ?_
  ·rintro i y σ H' ey ⟨JV,rfl,sm⟩
   obtain⟨r,z,out,rfl,hz,lz⟩:∃(r:Addr) (z:List V) (out:List dS),y=.ref r/\EF r=some (.lst z)/\aE dS.v EF z out:=by
    rcases i with _|_|_|i
    ·cases ey
     exact⟨r1,[],[],rfl,hr1,.nil⟩
    ·cases ey
     exact⟨r2,z2,_,rfl,hr2,yT⟩
    ·cases ey
     exact⟨r3,z3,_,rfl,EV,MZ⟩
    ·cases ey
   exact⟨_,rfl,r,z,out,rfl,sm _ _ hz,lz.keep λa row e=>sm _ _ e,λH4 s4=>⟨_,rfl,aT no λ_=>⟨_,rfl,sm.trans s4⟩⟩⟩
  rintro σ WK ⟨JV,rfl,Cu⟩
  have Jq:=Cu _ _ GP
  have LN:=Cu _ _ Qy
  have LS:=Cu _ _ QI
  have DO:=Cu _ _ QD
  have Qs:=Cu _ _ hr1
  have Qn:=Cu _ _ hr2
  have xu:=Cu _ _ EV
  have Pq:=yT.keep λa row e=>Cu _ _ e
  have Ao:=MZ.keep λa row e=>Cu _ _ e
  clear GP Qy QI QD hr1 hr2 EV yT MZ Cu
  subst dY
  try dsimp only[cO]
  refine aX λBq dY=>?_
  refine⟨_,rfl,_,rfl,(by show 1<=sizeLine;decide),λfl hfl=>?_⟩
  have Sn:=av.new (o:=.lst [.ref o1]) hfl
  refine⟨p,fl,pl,[.ref o1],[⟨"a",t1,a1⟩],rfl,bg.of (Sn _ _ LN),ok,af,.cons ⟨o1,rfl,Sn _ _ LS⟩ .nil,(by show 1<=200;decide),(λe me=>by rw[List.mem_singleton.mp me];exact RN.1),λft yf wt Tt Xa _ VN tab wl Ia lf=>?_⟩
  have jB:=Sn.trans Xa
  have Jp:=jB _ _ Jq
  have Qx:=jB _ _ LN
  have QH:=jB _ _ LS
  have QC:=jB _ _ DO
  have Qq:=jB _ _ Qs
  have Qm:=jB _ _ Qn
  have Qi:=jB _ _ xu
  have Pp:=Pq.keep λa row e=>jB _ _ e
  have Pj:=Ao.keep λa row e=>jB _ _ e
  clear Jq LN LS DO Qs Qn xu Pq Ao jB Sn Xa hfl
  have Sv:wt.Perm ws:=tab.uniq T1
  have Zv:wt.Pairwise (λa b=>aK a.d b.d≠.gt):=List.pairwise_map.mp Ia
  have lwt:wt.length<=100:=by rw[Sv.length_eq];exact lw
  subst dY
  try dsimp only[cO]
  refine aX λBq dY=>?_
  refine⟨_,rfl,ft,rfl,⟨_,bB.of VN⟩,λcl hcl=>?_⟩
  refine cU (K:=K) (a:=ft) (xs:=yf) (λi ys H2=>H2=upd Tt cl (.lst ys)/\aE Wn.v Tt ys ((wt.take i).filter λw=>closed (some m) w.e)) ⟨rfl,.nil⟩ (λi ys H2 h=>by rw[h.1];exact af) (λi ys H2 _ h=>by rw[h.1];exact bB.of ((av.new hcl) _ _ VN)) ?_ ?_
  ·rintro i x ys H2 ex ⟨rfl,xg⟩
   obtain⟨w,b',ew,rfl,hb'⟩:=lf.get ex
   have htk:wt.take (i+1)=wt.take i++[w]:=by rw[List.take_add_one,ew];rfl
   have hb2:=(av.new (o:=.lst ys) hcl) _ _ hb'
   refine⟨bQ rfl,?_⟩
   refine⟨_,rfl,b',_,2,.int w.e,rfl,rfl,bg.of hb2,rfl,_,rfl,_,_,rfl,rfl,_,rfl,aT (λh=>?_) (λh=>?_)⟩
   ·refine⟨_,rfl,ys,af,?_,by rw[fR],?_⟩
    ·rw[xg.len]
     have:=List.length_filter_le (λw:Wn=>closed (some m) w.e) (wt.take i)
     rw[List.length_take]at this
     lia
    ·rw[htk,List.filter_append,List.filter_cons,if_pos (show closed (some m) w.e=true from h),List.filter_nil]
     exact xg.snoc hb'
   ·refine⟨ys,rfl,?_⟩
    rw[htk,List.filter_append,List.filter_cons,if_neg (show¬closed (some m) w.e=true from h),List.filter_nil,List.append_nil]
    exact xg
  rintro yc Zb ⟨rfl,lc⟩
  rw[lf.len,List.take_length]at lc
  have BP:=av.new (o:=.lst yc) hcl
  have zd:upd Tt cl (.lst yc) cl=some (.lst yc):=af
  have Gy:=lc.keep λa row e=>BP _ _ e
  have Jo:=BP _ _ Jp
  have Qw:=BP _ _ Qx
  have QG:=BP _ _ QH
  have QB:=BP _ _ QC
  have Qp:=BP _ _ Qq
  have Ql:=BP _ _ Qm
  have Qh:=BP _ _ Qi
  have Po:=Pp.keep λa row e=>BP _ _ e
  have Ph:=Pj.keep λa row e=>BP _ _ e
  generalize upd Tt cl (.lst yc)=Zb at *
  clear Jp Qx QH QC Qq Qm Qi Pp Pj BP hcl lc lf VN
  generalize eC:(wt.filter λw=>closed (some m) w.e)=cw at *
  have lcw:cw.length<=100:=by rw[←eC];exact Nat.le_trans (List.length_filter_le _ _) lwt
  have XH:=Gy.len
  subst dY
  try dsimp only[cO]
  refine aX λBq dY=>?_
  refine⟨_,rfl,cl,rfl,⟨_,bB.of zd⟩,λTh LZ=>?_⟩
  refine cU (K:=K) (a:=cl) (xs:=yc) (λi ys H2=>av Zb H2/\H2 Th=some (.lst ys)/\tU H2 ys (cw.take i)) ⟨av.new LZ,af,.nil⟩ (λi ys H2 h=>h.2.1) (λi ys H2 _ h=>bB.of (h.1 _ _ zd)) ?_ ?_
  ·rintro i x ys H2 ex ⟨sm,L_,xg⟩
   obtain⟨w,b',ew,rfl,hb'⟩:=Gy.get ex
   have htk:cw.take (i+1)=cw.take i++[w]:=by rw[List.take_add_one,ew];rfl
   have hb2:=sm _ _ hb'
   refine⟨bQ rfl,?_⟩
   refine⟨_,rfl,b',_,2,.int w.e,rfl,rfl,bg.of hb2,rfl,_,rfl,(by show 2<=sizeLine;decide),λq hq=>?_⟩
   have tq:=av.new (o:=.tup [.int w.e,.ref b']) hq
   have nq:q≠Th:=λz=>by rw[z,L_]at hq;cases hq
   have up:∀d row,upd H2 q (.tup [.int w.e,.ref b']) d=some (.tup row)->upd (upd H2 q (.tup [.int w.e,.ref b'])) Th (.lst (ys++[.ref q])) d=some (.tup row):=λd row e=>by rw[ai (aI e (tq _ _ L_) (by intro z;cases z))];exact e
   have UZ:ys.length=_:=Paired.length xg
   refine⟨ys,tq _ _ L_,?_,λd u e=>?_,af,?_⟩
   ·rw[UZ,List.length_take]
    lia
   ·rw[ai (au e LZ)]
    exact tq _ _ (sm _ _ e)
   ·rw[htk]
    exact Paired.snoc (xg.keep λd row e=>up _ _ (tq _ _ e)) ⟨q,b',rfl,up _ _ af,up _ _ (tq _ _ hb2)⟩
  rintro yb WJ ⟨W_,JD,lb⟩
  rw[XH,List.take_length]at lb
  have lyb:yb.length=cw.length:=Paired.length lb
  refine⟨Th,yb,_,Zy,rfl,bB.of JD,lb.Mr,(λd hd=>?_),rfl,(by decide),⟨by lia,by show _<10000001;lia⟩,λsl ps hsl Xh Xd=>?_⟩
  ·obtain⟨q,_,rfl⟩:=List.mem_map.mp hd
   rfl
  obtain⟨bs,b1,b2,b3⟩:=zY lb Xh
  have Ul:=av.new (o:=.lst (ps.map (·.1))) hsl
  have DJ:upd WJ sl (.lst (ps.map (·.1))) sl=some (.lst (ps.map (·.1))):=af
  have WA:tU (upd WJ sl (.lst (ps.map (·.1)))) (ps.map (·.1)) bs:=tU.keep b2 λd row e=>Ul _ _ e
  have ers:rs=bs:=by
   have nm:∀w∈ws,w.n="a":=λw hw=>by
    obtain⟨e,me,en⟩:=uz T1 hw
    rw[List.mem_singleton.mp me]at en
    exact en.symm
   have XS:∀w∈bs,w∈ws:=λw hw=>by
    have:=b1.mem_iff.mp hw
    rw[←eC]at this
    exact Sv.mem_iff.mp (List.mem_filter.mp this).1
   have inr:∀w∈rs,w∈ws:=λw hw=>(List.mem_filter.mp (pm.mem_iff.mp hw)).1
   have ZK:bs.Pairwise (λa b=>aK (Ow a) (Ow b)≠.gt):=List.pairwise_map.mp (by rw[←b3];exact Xd)
   refine h_ Wn.ed WW (λ_ _=>rfl) (λx hx y hy h=>LA T1.nd (inr x hx) (inr y hy) (Mq h)) (pm.trans ?_) (List.pairwise_map.mp so) (List.Pairwise.imp_of_mem (λ{x y} hx hy h=>Ov ((nm x (XS x hx)).trans (nm y (XS y hy)).symm) h) ZK)
   refine List.Perm.trans ?_ b1.symm
   rw[←eC]
   exact(Sv.filter _).symm
  subst ers
  have iC:=W_.trans Ul
  have JC:=iC _ _ zd
  have Pe:=Gy.keep λa row e=>iC _ _ e
  have DM:=iC _ _ Jo
  have Qv:=iC _ _ Qw
  have QF:=iC _ _ QG
  have QA:=iC _ _ QB
  have Qo:=iC _ _ Qp
  have Qk:=iC _ _ Ql
  have Qg:=iC _ _ Qh
  have Pn:=Po.keep λa row e=>iC _ _ e
  have Pg:=Ph.keep λa row e=>iC _ _ e
  generalize upd WJ sl (.lst (ps.map (·.1)))=Za at *
  generalize ps.map (·.1)=ND at *
  clear zd Gy Jo Qw QG QB Qp Ql Qh Po Ph iC Ul W_ JD lb hsl Xh Xd b3 b2 LZ
  have OU:ND.length=rs.length:=Paired.length WA
  subst dY
  try dsimp only[cO]
  refine aX λBq dY=>?_
  refine⟨_,rfl,_,rfl,ol,_,rfl,bB.of DM,λtl EU=>?_⟩
  have Uk:=av.new (o:=.lst (kh [V.ref r1,.ref r2,.ref r3] none (some 2))) EU
  have Jc:upd Za tl (.lst (kh [V.ref r1,.ref r2,.ref r3] none (some 2))) tl=some (.lst [.ref r1,.ref r2]):=af
  generalize upd Za tl (.lst (kh [V.ref r1,.ref r2,.ref r3] none (some 2)))=Y_ at *
  refine⟨(by show 0<=sizeLine;decide),λe1 Nj=>?_⟩
  have Sm:=av.new (o:=.lst []) Nj
  have QY:upd Y_ e1 (.lst []) e1=some (.lst []):=af
  generalize upd Y_ e1 (.lst [])=H18 at *
  refine⟨_,rfl,sl,rfl,⟨_,bB.of (Sm _ _ (Uk _ _ DJ))⟩,λgl Ng=>?_⟩
  have yH:=Uk.trans Sm
  refine cU (K:=K) (a:=sl) (xs:=ND) (λi ys H2=>av H18 H2/\H2 gl=some (.lst ys)/\aE dS.v H2 ys ((rs.take i).map dS.told)) ⟨av.new Ng,af,.nil⟩ (λi ys H2 h=>h.2.1) (λi ys H2 _ h=>bB.of (h.1 _ _ (yH _ _ DJ))) ?_ ?_
  ·rintro i x ys H2 ex ⟨sm,LV,xg⟩
   obtain⟨w,ew,q,b',rfl,hq',hb'⟩:=Paired.getL WA ex
   have htk:rs.take (i+1)=rs.take i++[w]:=by rw[List.take_add_one,ew];rfl
   have s2:=yH.trans sm
   have hi:i<rs.length:=(List.getElem?_eq_some_iff.mp ew).1
   refine⟨bQ rfl,?_⟩
   refine⟨(by show 1<=sizeLine;decide),λc1 hc1=>?_⟩
   have tc:=av.new (o:=.tup [.str "told"]) hc1
   have DV:upd H2 c1 (.tup [.str "told"]) c1=some (.tup [.str "told"]):=af
   have hb2:bg K (upd H2 c1 (.tup [.str "told"])) b' [.str w.n,.int w.s,.int w.e,.int w.c,.int w.t]:=bg.of (tc _ _ (s2 _ _ hb'))
   refine⟨_,rfl,q,_,1,.ref b',rfl,rfl,bg.of (tc _ _ (s2 _ _ hq')),MK,c1,b',_,_,rfl,rfl,bg.of DV,hb2,(by intro z;cases z),(by show 6<=sizeLine;decide),(λz=>nomatch z),λ_ c2 hc2=>?_⟩
   have Bx:=tc.trans (av.new (o:=.tup ([.str "told"]++[.str w.n,.int w.s,.int w.e,.int w.c,.int w.t])) hc2)
   have nq:c2≠gl:=λz=>by rw[z,tc _ _ LV]at hc2;cases hc2
   refine⟨ys,Bx _ _ LV,?_,λd u e=>?_,af,?_⟩
   ·rw[xg.len,List.length_map,List.length_take]
    lia
   ·rw[ai (au e Ng)]
    exact Bx _ _ (sm _ _ e)
   ·rw[htk,List.map_append]
    refine(xg.keep λd row e=>?_).snoc ?_
    ·rw[ai (aI e LV (by intro z;cases z))]
     exact Bx _ _ e
    ·rw[ai nq]
     exact af
  rintro yg H19 ⟨Su,Jw,lg⟩
  rw[OU,List.take_length]at lg
  have lyg:=lg.len
  rw[List.length_map]at lyg
  refine⟨(by show 2<=sizeLine;decide),λpl2 Qt=>?_⟩
  have MQ:=av.new (o:=.lst [.ref e1,.ref gl]) Qt
  have uR:=yH.trans (Su.trans MQ)
  have Iq:=Sm.trans (Su.trans MQ)
  have Ip:=Su.trans MQ
  have two:(Dv.lst [.lst [],.lst ((rs.map dS.told).map wH)]).dep<=3:=Nat.succ_le_succ (tH λd hd=>by
   simp only[List.mem_cons,List.not_mem_nil,or_false]at hd
   rcases hd with rfl|rfl
   ·exact(by decide:(1:Nat)<=2)
   ·exact lZ _)
  refine⟨_,_,.lst [.lst [],.lst ((rs.map dS.told).map wH)],rfl,.lst (Iq _ _ Jc) (by show 2<=10000000;decide) (.cons (.lst (uR _ _ Qo) (by decide) .nil) (.cons (rB (λ_ _ h=>l_ h) (uR _ _ Qk) LI (Pn.keep λa row e=>uR _ _ e)) .nil)),.lst af (by show 2<=10000000;decide) (.cons (.lst (Ip _ _ QY) (by decide) .nil) (.cons (rB (λ_ _ h=>l_ h) (MQ _ _ Jw) LI (lg.keep λa row e=>MQ _ _ e)) .nil)),two,λYZ WZ=>⟨_,rfl,aT no λ_=>?_⟩⟩
  have kR:=uR.trans WZ
  have DU:=kR _ _ JC
  have Pd:=Pe.keep λa row e=>kR _ _ e
  have yZ:=kR _ _ DM
  have LM:=kR _ _ Qv
  have DO:=kR _ _ QF
  have LQ:=kR _ _ QA
  have xu:=kR _ _ Qg
  have Ao:=Pg.keep λa row e=>kR _ _ e
  clear JC Pe DM Qv QF QA Qo Qk Qg Pn Pg kR uR Iq Ip yH Uk Sm MQ Su WZ EU Jc Nj QY Ng Jw lg Qt DJ WA two
  subst dY
  try dsimp only[pL]
  refine aX λBq dY=>?_
  refine⟨_,rfl,_,rfl,_,rfl,1,rfl,p,_,-1,_,rfl,rfl,bg.of LM,wJ pl,_,_,rfl,rfl,_,_,rfl,rfl,_,rfl,aT (λh=>?_) (λh=>?_)⟩
  ·rcases alt with⟨_,rfl⟩|⟨z,_⟩
   rotate_left
   ·exact absurd (show late (some m) (fD pl) t2=true from h) (by rw[z];exact Bool.false_ne_true)
   refine⟨_,rfl,ol,_,2,.ref r3,rfl,rfl,bB.of yZ,rfl,_,rfl,_,rfl,o2,_,3,.int a2,rfl,rfl,bg.of LQ,rfl,(by show 4<=sizeLine;decide),λq hq=>⟨(by show 1<=sizeLine;decide),λql Nf=>?_⟩⟩
   have Bf:=(av.new (o:=.tup [.str "missed",.str "a",.int t2,.int a2]) hq).trans (av.new (o:=.lst [.ref q]) Nf)
   exact⟨_,_,.lst ([dS.missed "a" t2 a2].map wH),rfl,rB (λ_ _ h=>l_ h) (Bf _ _ xu) (by rw[lz3];show 1<=10000000;decide) (Ao.keep λa row e=>Bf _ _ e),rB (ws:=[dS.missed "a" t2 a2]) (λ_ _ h=>l_ h) af (by show 1<=10000000;decide) (.cons ⟨q,rfl,(av.new Nf) _ _ af⟩ .nil),Nat.le_succ_of_le (lZ _),λH' _=>k _⟩
  obtain⟨mt,ks,cN,er,T2,Rz⟩:∃(mt ks:List Ky) (cN:List Wn),iY pl "a" t2 a2 ws mt ks cN/\Tab pl ([⟨"a",t1,a1⟩]++[⟨"a",t2,a2⟩]) cN/\o3=dB (some m) mt ks++dG (some m) cN ks:=by
   rcases alt with⟨z,_⟩|⟨_,h⟩
   ·exact absurd (show decide (t2<m-fD pl)=true from z) h
   ·exact h
  clear alt
  subst dY
  try dsimp only[pL]
  refine aX λBq dY=>?_
  refine⟨(by show 0<=sizeLine;decide),λdu QZ=>?_⟩
  have Bf:=av.new (o:=.lst []) QZ
  have Jx:upd YZ du (.lst []) du=some (.lst []):=af
  have JB:=Bf _ _ DU
  have Pc:=Pd.keep λa row e=>Bf _ _ e
  have Jm:=Bf _ _ yZ
  have Qu:=Bf _ _ LM
  have Js:=Bf _ _ DO
  have Jr:=Bf _ _ LQ
  have Jh:=Bf _ _ xu
  have IX:=Ao.keep λa row e=>Bf _ _ e
  generalize upd YZ du (.lst [])=YY at *
  have ncd:cl≠du:=au DU QZ
  have Xs:ol≠du:=au yZ QZ
  have OE:r3≠du:=au xu QZ
  clear DU Pd yZ LM DO LQ xu Ao Bf QZ
  subst dY
  try dsimp only[cO]
  refine aX λBq dY=>?_
  refine⟨_,rfl,_,rfl,_,rfl,(by show 2<=sizeLine;decide),λil hil=>?_⟩
  have NU:=av.new (o:=.lst [.ref o1,.ref o2]) hil
  have lev:aE (λe:Ev=>e.d.v) (upd YY il (.lst [.ref o1,.ref o2])) [.ref o1,.ref o2] ([⟨"a",t1,a1⟩]++[⟨"a",t2,a2⟩]):=show aE (λe:Ev=>e.d.v) (upd YY il (.lst [.ref o1,.ref o2])) [.ref o1,.ref o2] [⟨"a",t1,a1⟩,⟨"a",t2,a2⟩]from .cons ⟨o1,rfl,NU _ _ Js⟩ (.cons ⟨o2,rfl,NU _ _ Jr⟩ .nil)
  refine⟨p,il,pl,[.ref o1,.ref o2],[⟨"a",t1,a1⟩]++[⟨"a",t2,a2⟩],rfl,bg.of (NU _ _ Qu),ok,af,lev,(by show 2<=200;decide),(λe me=>?_),λat' ya kI Tr WY VY hat TY wl' Up lat=>?_⟩
  ·rcases List.mem_append.mp me with me|me
   ·rw[List.mem_singleton.mp me];exact RN.1
   ·rw[List.mem_singleton.mp me];exact RN.2
  have UD:kI.Perm cN:=TY.uniq T2
  have Zu:kI.Pairwise (λa b=>aK a.d b.d≠.gt):=List.pairwise_map.mp Up
  have pP:=NU.trans WY
  have DS:=pP _ _ Jx
  have JA:=pP _ _ JB
  have Pb:=Pc.keep λa row e=>pP _ _ e
  have Jl:=pP _ _ Jm
  have Jg:=pP _ _ Jh
  have IW:=IX.keep λa row e=>pP _ _ e
  clear Jx JB Pc Jm Qu Js Jr Jh IX pP NU WY hil VY
  refine⟨at',rfl,⟨_,bB.of hat⟩,λal hal=>?_⟩
  refine cU (K:=K) (a:=at') (xs:=ya) (λi ys H2=>H2=upd Tr al (.lst ys)/\aE Wn.v Tr ys (kI.take i)) ⟨rfl,.nil⟩ (λi ys H2 h=>by rw[h.1];exact af) (λi ys H2 _ h=>by rw[h.1];exact bB.of ((av.new hal) _ _ hat)) ?_ ?_
  ·rintro i x ys H2 ex ⟨rfl,xg⟩
   obtain⟨w,b',ew,rfl,hb'⟩:=lat.get ex
   have htk:kI.take (i+1)=kI.take i++[w]:=by rw[List.take_add_one,ew];rfl
   refine⟨bQ rfl,?_⟩
   refine⟨_,rfl,ys,af,?_,by rw[fR],?_⟩
   ·rw[xg.len,List.length_take]
    lia
   ·rw[htk]
    exact xg.snoc hb'
  rintro yl YX ⟨rfl,ll⟩
  rw[lat.len,List.take_length]at ll
  have H_:=av.new (o:=.lst yl) hal
  have ze:upd Tr al (.lst yl) al=some (.lst yl):=af
  have Gx:=ll.keep λa row e=>H_ _ _ e
  have DR:=H_ _ _ DS
  have Jz:=H_ _ _ JA
  have Pa:=Pb.keep λa row e=>H_ _ _ e
  have Jk:=H_ _ _ Jl
  have Jf:=H_ _ _ Jg
  have IV:=IW.keep λa row e=>H_ _ _ e
  generalize upd Tr al (.lst yl)=YX at *
  have XD:al≠du:=λz=>by rw[z,DS]at hal;cases hal
  clear DS JA Pb Jl Jg IW H_ hal ll lat hat
  have XG:=Gx.len
  subst dY
  try dsimp only[cO]
  refine aX λBq dY=>?_
  refine⟨_,rfl,al,rfl,⟨_,bB.of ze⟩,λIJ DL=>?_⟩
  refine cU (K:=K) (a:=al) (xs:=yl) (λi ys H2=>av YX H2/\H2 IJ=some (.lst ys)/\bK H2 ys ((kI.take i).map Wn.k)) ⟨av.new DL,af,.nil⟩ (λi ys H2 h=>h.2.1) (λi ys H2 _ h=>bB.of (h.1 _ _ ze)) ?_ ?_
  ·rintro i x ys H2 ex ⟨sm,LL,xg⟩
   obtain⟨w,b',ew,rfl,hb'⟩:=Gx.get ex
   have htk:kI.take (i+1)=kI.take i++[w]:=by rw[List.take_add_one,ew];rfl
   refine⟨bQ rfl,?_⟩
   refine⟨_,rfl,_,rfl,b',_,rfl,bg.of (sm _ _ hb'),tM w,λq hq=>?_⟩
   rw[My]
   have tq:=av.new (o:=.tup w.k.v) hq
   have nq:q≠IJ:=λz=>by rw[z,LL]at hq;cases hq
   refine⟨ys,tq _ _ LL,?_,λd u e=>?_,af,?_⟩
   ·rw[xg.len,List.length_map,List.length_take]
    lia
   ·rw[ai (au e DL)]
    exact tq _ _ (sm _ _ e)
   ·rw[htk,List.map_append]
    refine(xg.keep λd row e=>?_).snoc ?_
    ·rw[ai (aI e LL (by intro z;cases z))]
     exact tq _ _ e
    ·rw[ai nq]
     exact af
  rintro Zh Tq ⟨FO,Jd,M_⟩
  rw[XG,List.take_length]at M_
  have JF:=FO _ _ ze
  have OZ:=Gx.keep λa row e=>FO _ _ e
  have y_:=FO _ _ DR
  have DT:=FO _ _ Jz
  have O_:=Pa.keep λa row e=>FO _ _ e
  have Jj:=FO _ _ Jk
  have Je:=FO _ _ Jf
  have IU:=IV.keep λa row e=>FO _ _ e
  have ZT:IJ≠du:=λz=>by rw[z,DR]at DL;cases DL
  clear DR Jz Pa Jk Jf IV FO ze Gx DL
  have YG:=Dm ok T1 T2 er (λe me=>by rw[List.mem_singleton.mp me]) Sv Zv UD Zu (kI.map Wn.k) rfl (LH t2 m) (λ_=>rfl) (pW (kI.map Wn.k)) (mD _)
  rw[←Rz,eC]at YG
  subst dY
  try dsimp only[cO]
  refine aX λBq dY=>?_
  refine⟨_,rfl,cl,rfl,⟨_,bB.of DT⟩,?_⟩
  refine dQ (K:=K) (a:=cl) (xs:=yc) (λi σ H'=>∃(v20:Option V) (yd:List V),σ=[some (.ref a),some (.ref p),some (.int 10000000000000000000000000000000000000000),some (.ref bl),some (.int b),some (.int t1),some (.int t2),some (.int c),some (.ref ml),some (.int m),some (.ref o1),some (.ref o2),some (.ref ol),JV,some (.ref ft),some (.ref cl),some (.ref sl),some (.ref du),some (.ref al),some (.ref IJ),v20]/\(∀d u,d≠du->Tq d=some u->H' d=some u)/\H' du=some (.lst yd)/\aE dS.v H' yd (((cw.take i).filter (pW (kI.map Wn.k))).map λw=>dS.gone w.k))
   ⟨none,[],rfl,λ_ _ _ e=>e,y_,.nil⟩ (λi σ H' _ ⟨_,_,_,sm,_⟩=>bB.of (sm _ _ ncd DT)) ?_ ?_
  ·rintro i x σ H' ex ⟨v20,yd,rfl,sm,PV,OT⟩
   obtain⟨w,b',ew,rfl,hb0⟩:=O_.get ex
   have MV:∀d row,Tq d=some (.tup row)->H' d=some (.tup row):=λd row e=>sm _ _ (aI e y_ (by intro z;cases z)) e
   have hb:=MV _ _ hb0
   have htk:cw.take (i+1)=cw.take i++[w]:=by rw[List.take_add_one,ew];rfl
   have sX:yd.length<sizeLine:=by
    rw[OT.len,List.length_map]
    have:=List.length_filter_le (pW (kI.map Wn.k)) (cw.take i)
    rw[List.length_take]at this
    lia
   refine⟨_,rfl,_,rfl,b',_,rfl,bg.of hb,tM w,λq hq=>?_⟩
   rw[My]
   have tq:=av.new (o:=.tup w.k.v) hq
   have hq2:upd H' q (.tup w.k.v) q=some (.tup w.k.v):=af
   have DI:=tq _ _ PV
   have OS:=OT.keep λa row e=>tq _ _ e
   have hb2:=tq _ _ hb
   have Uq:∀d u,d≠du->Tq d=some u->upd H' q (.tup w.k.v) d=some u:=λd u n e=>tq _ _ (sm _ _ n e)
   generalize upd H' q (.tup w.k.v)=H2 at *
   refine⟨_,rfl,IJ,Zh,w.k.d,(kI.map Wn.k).map Ky.d,rfl,bB.of (Uq _ _ ZT Jd),xq hq2,(M_.keep λd row e=>tq _ _ (MV _ _ e)).Mr,(λe he=>?_),λbb S_=>⟨_,rfl,aT (λh=>?_) (λh=>?_)⟩⟩
   ·obtain⟨k',_,rfl⟩:=List.mem_map.mp he
    exact⟨rfl,by show 1<=30;decide⟩
   ·have hnot:pW (kI.map Wn.k) w=true:=(mD _ _).mpr λz=>by
     have:bb=true:=S_.mpr (List.mem_map_of_mem z)
     rw[this]at h
     cases h
    have VX:bg K H2 b' w.v:=bg.of hb2
    refine⟨_,rfl,.inl ⟨rfl,_,bB.of DI⟩,(by show 1<=sizeLine;decide),λc1 hc1=>?_⟩
    have tc:=av.new (o:=.tup [.str "gone"]) hc1
    have DV:upd H2 c1 (.tup [.str "gone"]) c1=some (.tup [.str "gone"]):=af
    generalize upd H2 c1 (.tup [.str "gone"])=H3 at *
    refine⟨_,rfl,_,rfl,b',_,rfl,tc.jG VX,tM w,λc2 hc2=>?_⟩
    rw[My]
    have Bx:=av.new (o:=.tup w.k.v) hc2
    have VV:bg K (upd H3 c2 (.tup w.k.v)) c2 [.str w.n,.int w.s,.int w.e]:=bg.of af
    refine⟨c1,c2,_,_,rfl,rfl,bg.of (Bx _ _ DV),VV,(by intro z;cases z),(by show 4<=sizeLine;decide),(λz=>nomatch z),λ_ c3 hc3=>?_⟩
    have TU:=tc.trans (Bx.trans (av.new (o:=.tup ([.str "gone"]++[.str w.n,.int w.s,.int w.e])) hc3))
    have nq:c3≠du:=λz=>by rw[z,Bx _ _ (tc _ _ DI)]at hc3;cases hc3
    refine⟨du,_,.ref c3,rfl,rfl,TU _ _ DI,sX,_,yd++[.ref c3],rfl,λd u n e=>?_,af,?_⟩
    ·rw[ai n]
     exact TU _ _ (Uq _ _ n e)
    ·rw[htk,List.filter_append,List.filter_cons_of_pos hnot,List.map_append]
     refine(OS.keep λd row e=>?_).snoc (w:=dS.gone w.k) ?_
     ·rw[ai (aI e DI (by intro z;cases z))]
      exact TU _ _ e
     ·rw[ai nq]
      exact af
   ·have hnot:¬pW (kI.map Wn.k) w=true:=λz=>h (by
     have hb:bb=false:=by
      cases VW:bb with
      |false=>rfl
      |true=>
       obtain⟨k',hk',ek⟩:=List.mem_map.mp (S_.mp VW)
       exact absurd (oZ ek▸hk') ((mD _ _).mp z)
     rw[hb]
     rfl)
    refine⟨_,yd,rfl,Uq,DI,?_⟩
    rw[htk,List.filter_append,List.filter_cons_of_neg hnot,List.map_append]
    exact(List.append_nil _).symm▸OS
  rintro σ WI ⟨v20,yd,rfl,sm,PV,OT⟩
  rw[XH,List.take_length]at OT
  have MV:∀d row,Tq d=some (.tup row)->WI d=some (.tup row):=λd row e=>sm _ _ (aI e y_ (by intro z;cases z)) e
  have JE:=sm _ _ XD JF
  have Vc:=OZ.keep MV
  have Qz:=sm _ _ Xs Jj
  have Qj:=sm _ _ OE Je
  have Pk:=IU.keep MV
  clear sm MV JF OZ Jj Je IU y_ DT O_ Jd M_
  generalize eG:((cw.filter (pW (kI.map Wn.k))).map λw=>dS.gone w.k)=go at *
  have lgo:go.length<=100:=by rw[←eG,List.length_map];exact Nat.le_trans (List.length_filter_le _ _) lcw
  subst dY
  try dsimp only[cO]
  refine aX λBq dY=>?_
  refine⟨_,rfl,al,rfl,⟨_,bB.of JE⟩,?_⟩
  refine dQ (K:=K) (a:=al) (xs:=yl) (λi σ H'=>∃(v20:Option V) (yd:List V),σ=[some (.ref a),some (.ref p),some (.int 10000000000000000000000000000000000000000),some (.ref bl),some (.int b),some (.int t1),some (.int t2),some (.int c),some (.ref ml),some (.int m),some (.ref o1),some (.ref o2),some (.ref ol),JV,some (.ref ft),some (.ref cl),some (.ref sl),some (.ref du),some (.ref al),some (.ref IJ),v20]/\(∀d u,d≠du->WI d=some u->H' d=some u)/\H' du=some (.lst yd)/\aE dS.v H' yd (go++((kI.take i).filter (LH t2 m)).map dS.told))
   ⟨v20,yd,rfl,λ_ _ _ e=>e,PV,(by rw[List.take_zero,List.filter_nil,List.map_nil,List.append_nil];exact OT)⟩ (λi σ H' _ ⟨_,_,_,sm,_⟩=>bB.of (sm _ _ XD JE)) ?_ ?_
  ·rintro i x σ H' ex ⟨TM,Sg,rfl,sm,xr,sX⟩
   obtain⟨w,b',ew,rfl,hb0⟩:=Vc.get ex
   have hb:=sm _ _ (aI hb0 PV (by intro z;cases z)) hb0
   have htk:kI.take (i+1)=kI.take i++[w]:=by rw[List.take_add_one,ew];rfl
   have lyn:Sg.length<sizeLine:=by
    rw[sX.len,List.length_append,List.length_map]
    have:=List.length_filter_le (LH t2 m) (kI.take i)
    rw[List.length_take]at this
    lia
   have skip:¬LH t2 m w=true->∃(v20:Option V) (yd:List V),([some (.ref a),some (.ref p),some (.int 10000000000000000000000000000000000000000),some (.ref bl),some (.int b),some (.int t1),some (.int t2),some (.int c),some (.ref ml),some (.int m),some (.ref o1),some (.ref o2),some (.ref ol),JV,some (.ref ft),some (.ref cl),some (.ref sl),some (.ref du),some (.ref al),some (.ref IJ),some (.ref b')]:L2.St)=[some (.ref a),some (.ref p),some (.int 10000000000000000000000000000000000000000),some (.ref bl),some (.int b),some (.int t1),some (.int t2),some (.int c),some (.ref ml),some (.int m),some (.ref o1),some (.ref o2),some (.ref ol),JV,some (.ref ft),some (.ref cl),some (.ref sl),some (.ref du),some (.ref al),some (.ref IJ),v20]/\(∀d u,d≠du->WI d=some u->H' d=some u)/\H' du=some (.lst yd)/\aE dS.v H' yd (go++((kI.take (i+1)).filter (LH t2 m)).map dS.told):=λhz=>by
    refine⟨_,Sg,rfl,sm,xr,?_⟩
    rw[htk,List.filter_append,List.filter_cons_of_neg hz,List.filter_nil,List.append_nil]
    exact sX
   refine⟨_,rfl,b',_,1,.int w.s,rfl,rfl,bg.of hb,MK,_,rfl,_,_,rfl,rfl,_,rfl,aT (λh1=>⟨_,rfl,b',_,2,.int w.e,rfl,rfl,bg.of hb,rfl,_,_,rfl,rfl,_,rfl,aT (λh2=>?_) (λh2=>?_)⟩) (λh1=>⟨_,rfl,aT (λz=>absurd z Bool.false_ne_true) (λ_=>?_)⟩)⟩
   ·refine⟨_,rfl,b',_,2,.int w.e,rfl,rfl,bg.of hb,rfl,_,rfl,_,_,rfl,rfl,_,rfl,aT (λh3=>?_) (λh3=>?_)⟩
    ·have hin:LH t2 m w=true:=by
      unfold LH
      rw[show decide (w.s<=t2)=true from h1,show decide (t2<w.e)=true from h2]
      exact h3
     have VX:bg K H' b' [.str w.n,.int w.s,.int w.e,.int w.c,.int w.t]:=bg.of hb
     refine⟨_,rfl,.inl ⟨rfl,_,bB.of xr⟩,(by show 1<=sizeLine;decide),λc1 hc1=>?_⟩
     have tc:=av.new (o:=.tup [.str "told"]) hc1
     have DV:upd H' c1 (.tup [.str "told"]) c1=some (.tup [.str "told"]):=af
     refine⟨_,rfl,c1,b',_,_,rfl,rfl,bg.of DV,tc.jG VX,(by intro z;cases z),(by show 6<=sizeLine;decide),(λz=>nomatch z),λ_ c2 hc2=>?_⟩
     have Bx:=tc.trans (av.new (o:=.tup ([.str "told"]++[.str w.n,.int w.s,.int w.e,.int w.c,.int w.t])) hc2)
     have nq:c2≠du:=λz=>by rw[z,tc _ _ xr]at hc2;cases hc2
     refine⟨du,_,.ref c2,rfl,rfl,Bx _ _ xr,lyn,_,Sg++[.ref c2],rfl,λd u n e=>?_,af,?_⟩
     ·rw[ai n]
      exact Bx _ _ (sm _ _ n e)
     ·rw[htk,List.filter_append,List.filter_cons_of_pos hin,List.map_append,←List.append_assoc]
      refine(sX.keep λd row e=>?_).snoc (w:=dS.told w) ?_
      ·rw[ai (aI e xr (by intro z;cases z))]
       exact Bx _ _ e
      ·rw[ai nq]
       exact af
    ·exact skip λz=>h3 ((Bool.and_eq_true _ _).mp z).2
   ·exact skip λz=>h2 ((Bool.and_eq_true _ _).mp ((Bool.and_eq_true _ _).mp z).1).2
   ·exact skip λz=>h1 ((Bool.and_eq_true _ _).mp ((Bool.and_eq_true _ _).mp z).1).1
  rintro σ H28 ⟨TM,Sg,rfl,sm,xr,sX⟩
  rw[XG,List.take_length,←YG]at sX
  have ldl:=sX.len
  subst dY
  try dsimp only[cO]
  exact⟨_,rfl,ol,_,2,.ref r3,rfl,rfl,bB.of (sm _ _ Xs Qz),rfl,_,rfl,_,_,.lst (o3.map wH),rfl,rB (λ_ _ h=>l_ h) (sm _ _ OE Qj) LI (Pk.keep λd row e=>sm _ _ (aI e PV (by intro z;cases z)) e),rB (λ_ _ h=>l_ h) xr LI sX,Nat.le_succ_of_le (lZ _),λH' _=>k _⟩
end
end K3
namespace K1
open PySem PySem.Spec PyProof.Rows L2
section
variable {P:Program} {w:World} {K:Fg7} {mg:Str->Option Value}
theorem Hf(D:aO K "spans_at" eF)(M:MG K mg)(B:Bi K)(gU:dm K "PAUSES" (.str "pauses"))(gW:fQ P w K mg "kind_of" ["plan"] 1 (sj K))(fG:fQ P w K mg "length_of" ["plan"] 1 (yy K))
  (nG:fQ P w K mg "step_of" ["plan"] 2 (BU K)):fQ P w K mg "spans_at" ["plan","time"] 3 (yr K):=by
 refine D.fn M gy vL (λvs H Q E h=>?_) (λf base cdv A outer s H vs Q E hr h=>?_)
 ·obtain⟨p,pl,t,rfl,_⟩:=h
  rfl
 ·obtain⟨p,pl,t,rfl,hp,ok,⟨t1,t2⟩,k⟩:=h
  refine⟨_,(ao (dc (i:=2) gy.nd rfl (Or.inr rfl) (a_ fG (hr.mono (by decide)) rfl (pc (pv 0) aj)))
   (ao (bN (aQ eU (a_ gW (hr.mono (by decide)) rfl (pc (pv 0) aj)) (iN gU M rfl) (aP _)) (aA (aM (cy (pc (bD (pc (pv 1) (pc (aC gP (pv 1) (pv 2)) aj))) aj)))) aN)
   (ao (dc (i:=3) gy.nd rfl (Or.inl rfl) (a_ nG (hr.mono (by decide)) rfl (pc (pv 0) aj)))
   (ao (dc (i:=4) gy.nd rfl (Or.inl rfl) (aC CV (aC gP (aC uY (aC pV (pv 1) (pv 2)) (pv 3)) ah) (pv 3)))
   (aA (aM (eT (NY:=["start","length"]) (js:=[none,some 2]) rfl rfl (by with_unfolding_all rfl) (by repeat first|exact bY.nil|refine bY.cons rfl ?_) (.own (.out rfl rfl (.inl rfl) .nil)) (wM rfl (M.no _ B.tR) (pc (pv 4) (pc (aC gP (pv 1) ah) (pc (pv 3) aj)))) (λ_ _ _ _ _=>⟨(aU (i:=0) (show(["start","length"]:List Str).Nodup from by decide +kernel) rfl (Or.inl rfl)),dU,(bD (pc (pv 0) (pc (aC gP (pv 0) (pv 1)) aj)))⟩)))))))),?_⟩
  refine⟨_,rfl,p,pl,rfl,hp,?_⟩
  refine⟨_,rfl,p,pl,rfl,hp,rfl,_,rfl,?_⟩
  refine aT (λh=>?_) (λh=>?_)
  ·-- pauses:[(time,time+length)]
   have e:=Ef h
   cases pl with
   |fixed l g=>exact absurd e OP
   |sliding l s g=>exact absurd e ON
   |pauses l g=>
    refine⟨_,rfl,_,rfl,_,rfl,_,_,rfl,rfl,(by show 2<=sizeLine;decide),λa ha=>⟨(by show 1<=sizeLine;decide),λb hb=>?_⟩⟩
    have nb:a≠b:=au af hb
    have hb0:H b=none:=by
     rw[ai nb.symm]at hb
     exact hb
    refine k b [.ref a] _ ((av.new ha).trans (av.new hb)) hb0 af (.cons ⟨a,rfl,?_⟩ .nil)
    rw[ai nb,af]
    rfl
  ·have np:∀l g,pl≠.pauses l g:=λl g e=>by
    subst e
    exact h (decide_eq_true rfl)
   have ew:Fd pl t=(List.range (cnt pl t)).map (win pl t):=by
    cases pl with
    |fixed l g=>rfl
    |sliding l s g=>rfl
    |pauses l g=>exact absurd rfl (np l g)
   have l1:=ok.l1
   have l2:=ok.l2
   have s1:=ok.s1
   have s2:=ok.s2
   have dq:=xG (a:=t-pl.len) (b:=10^46) s1 LI LI
   refine⟨_,rfl,p,pl,rfl,hp,?_⟩
   refine⟨_,rfl,_,rfl,_,_,rfl,rfl,_,rfl,_,_,rfl,rfl,⟨by lia,⟨by lia,by lia⟩⟩,_,_,rfl,rfl,_,rfl,_,_,rfl,rfl,⟨⟨by lia,by lia⟩,⟨by lia,by lia⟩⟩,?_⟩
   refine⟨_,rfl,_,rfl,_,_,rfl,rfl,_,rfl,_,_,_,rfl,⟨by lia,⟨by lia,by lia⟩⟩,?_⟩
   intro D hD
   have hc:=Eo (t:=t) ok
   refine Em (λi ys Hc=>av H Hc/\Hc D=some (.lst ys)/\qx Hc ys ((List.range i).map (win pl t))) ⟨av.new hD,af,.nil⟩ (λi ys Hc h=>h.2.1) ?_ ?_
   ·rintro i ys Hc hi ⟨s1',Rh,hT⟩
    refine⟨bQ rfl,?_⟩
    refine⟨_,rfl,_,rfl,_,rfl,_,_,rfl,rfl,(by show 2<=sizeLine;decide),λa ha=>?_⟩
    have nD:D≠a:=au Rh ha
    have hl:=hT.len
    rw[List.length_map,List.length_range]at hl
    refine⟨ys,(by rw[ai nD];exact Rh),zJ (by have:i<cnt pl t:=hi;lia),?_⟩
    refine⟨λb o e=>?_,af,?_⟩
    ·have e1:=s1' b o e
     rw[ai (au e hD),ai (au e1 ha)]
     exact e1
    ·rw[List.range_succ,List.map_append]
     refine qx.snoc (hT.keep λb row e=>?_) ?_
     ·rw[ai (aI e Rh (by intro z;cases z)),ai (au e ha)]
      exact e
     ·rw[ai nD.symm,af]
      rfl
   ·rintro ys Hc ⟨s1',Rh,hT⟩
    exact k D ys Hc s1' hD Rh (by rw[ew];exact hT)
end
end K1
open PySem PySem.W PyProof.Rows
noncomputable def PySem.W.Fast.tw4237952995870786428 : Unit := ()
noncomputable def PySem.W.Fast.tw15133342079483668243 : Unit := ()
noncomputable def PySem.W.Fast.tw7459452554864124314 : Unit := ()
noncomputable def PySem.W.Fast.tw16760567363251490689 : Unit := ()
noncomputable def PySem.W.Fast.tw2631950759000862721 : Unit := ()
noncomputable def PySem.W.Fast.tw17847723626778897460 : Unit := ()
noncomputable def PySem.W.Fast.tw15279711960918523703 : Unit := ()
noncomputable def PySem.W.Fast.tw14660452288191879464 : Unit := ()
set_option maxRecDepth 100000 in
set_option maxHeartbeats 0 in
theorem PySem.Challenge.cw_weirgauge_k04_one_late_event_holds : PySem.Challenge.rw_weirgauge_k04_one_late_event.Holds := by
 w_on;o_law;k_head;(case hw=>w_witness2)
 k_fill
 refine L2.NG (l:=PySem.Challenge.rw_weirgauge_k04_one_late_event) (x:="_law_script") 8 _ ⟨rfl,by decide,by decide⟩ rfl rfl (λw h Y=>⟨PySem.W.km_in_of Y,PySem.W.km_tabs_of Y _ (List.mem_cons_self ..)⟩) (K3.Ie _) (λK mg H a ns hl hS hP hB=>⟨a,ns,rfl,hS,hl,.inl hP,hB,λ_=>rfl⟩) ?F
 case F=>
  intro w mg M
  have Tu:L2.aO (L2.br M) "_wall" K1.BR:=by
   dsimp only[L2.br]
   refine' L2.aO.mk' ?a ?l ?c ?k
   (case a=>k_is);(case l=>k_is);(case c=>k_is);(case k=>k_is)
  have AY:L2.aO (L2.br M) "kind_of" K1.eZ:=by
   dsimp only[L2.br]
   refine' L2.aO.mk' ?a ?l ?c ?k
   (case a=>k_is);(case l=>k_is);(case c=>k_is);(case k=>k_is)
  have vW:L2.aO (L2.br M) "length_of" K1.dM:=by
   dsimp only[L2.br]
   refine' L2.aO.mk' ?a ?l ?c ?k
   (case a=>k_is);(case l=>k_is);(case c=>k_is);(case k=>k_is)
  have AX:L2.aO (L2.br M) "step_of" K1.eY:=by
   dsimp only[L2.br]
   refine' L2.aO.mk' ?a ?l ?c ?k
   (case a=>k_is);(case l=>k_is);(case c=>k_is);(case k=>k_is)
  have xX:L2.aO (L2.br M) "grace_of" K1.eK:=by
   dsimp only[L2.br]
   refine' L2.aO.mk' ?a ?l ?c ?k
   (case a=>k_is);(case l=>k_is);(case c=>k_is);(case k=>k_is)
  have tZ:L2.aO (L2.br M) "check_plan" K1.dg:=by
   dsimp only[L2.br]
   refine' L2.aO.mk' ?a ?l ?c ?k
   (case a=>k_is);(case l=>k_is);(case c=>k_is);(case k=>k_is)
  have xW:L2.aO (L2.br M) "spans_at" K1.eF:=by
   dsimp only[L2.br]
   refine' L2.aO.mk' ?a ?l ?c ?k
   (case a=>k_is);(case l=>k_is);(case c=>k_is);(case k=>k_is)
  have EK:L2.aO (L2.br M) "joined" K1.fZ:=by
   dsimp only[L2.br]
   refine' L2.aO.mk' ?a ?l ?c ?k
   (case a=>k_is);(case l=>k_is);(case c=>k_is);(case k=>k_is)
  have AZ:L2.aO (L2.br M) "answers" K1.e_:=by
   dsimp only[L2.br]
   refine' L2.aO.mk' ?a ?l ?c ?k
   (case a=>k_is);(case l=>k_is);(case c=>k_is);(case k=>k_is)
  have A_:L2.aO (L2.br M) "_law_so" K1.dX:=by
   dsimp only[L2.br]
   refine' L2.aO.mk' ?a ?l ?c ?k
   (case a=>k_is);(case l=>k_is);(case c=>k_is);(case k=>k_is)
  have t_:L2.aO (L2.br M) "_law_whole" K1.dh:=by
   dsimp only[L2.br]
   refine' L2.aO.mk' ?a ?l ?c ?k
   (case a=>k_is);(case l=>k_is);(case c=>k_is);(case k=>k_is)
  have Ba:L2.aO (L2.br M) "_law_at" K1.fc:=by
   dsimp only[L2.br]
   refine' L2.aO.mk' ?a ?l ?c ?k
   (case a=>k_is);(case l=>k_is);(case c=>k_is);(case k=>k_is)
  have qC:L2.aO (L2.br M) "_law_plan_of" K1.cP:=by
   dsimp only[L2.br]
   refine' L2.aO.mk' ?a ?l ?c ?k
   (case a=>k_is);(case l=>k_is);(case c=>k_is);(case k=>k_is)
  have qD:L2.aO (L2.br M) "_law_is_said" K1.cQ:=by
   dsimp only[L2.br]
   refine' L2.aO.mk' ?a ?l ?c ?k
   (case a=>k_is);(case l=>k_is);(case c=>k_is);(case k=>k_is)
  have oU:L2.aO (L2.br M) "_law_are_said" K1.cE:=by
   dsimp only[L2.br]
   refine' L2.aO.mk' ?a ?l ?c ?k
   (case a=>k_is);(case l=>k_is);(case c=>k_is);(case k=>k_is)
  have qN:L2.aO (L2.br M) "_law_pauses" K1.cJ:=by
   dsimp only[L2.br]
   refine' L2.aO.mk' ?a ?l ?c ?k
   (case a=>k_is);(case l=>k_is);(case c=>k_is);(case k=>k_is)
  have oR:L2.aO (L2.br M) "_law_spans_of" K1.cD:=by
   dsimp only[L2.br]
   refine' L2.aO.mk' ?a ?l ?c ?k
   (case a=>k_is);(case l=>k_is);(case c=>k_is);(case k=>k_is)
  have oQ:L2.aO (L2.br M) "_law_table_of" K1.bS:=by
   dsimp only[L2.br]
   refine' L2.aO.mk' ?a ?l ?c ?k
   (case a=>k_is);(case l=>k_is);(case c=>k_is);(case k=>k_is)
  have Sf:L2.aO (L2.br M) "law" K1.jD:=by
   dsimp only[L2.br]
   refine' L2.aO.mk' ?a ?l ?c ?k
   (case a=>k_is);(case l=>k_is);(case c=>k_is);(case k=>k_is)
  have xT:L2.dm (L2.br M) "MARK" (.str "mark"):=by
   dsimp only[L2.br]
   refine' L2.dm.ofStr ?a
   (case a=>k_is)
  have iz:L2.dm (L2.br M) "MOST_STEPS" (.int 100):=by
   dsimp only[L2.br]
   refine' L2.dm.ofInt ?a
   (case a=>k_is)
  have gU:L2.dm (L2.br M) "PAUSES" (.str "pauses"):=by
   dsimp only[L2.br]
   refine' L2.dm.ofStr ?a
   (case a=>k_is)
  have nE:L2.dm (L2.br M) "SLIDING" (.str "sliding"):=by
   dsimp only[L2.br]
   refine' L2.dm.ofStr ?a
   (case a=>k_is)
  obtain⟨dw,HH,vS,vU,qz,qL,oV,JT,nI,EL,kH,Bb,gY,lS,kG,jA,nJ⟩:∃dw:PySem.Addr,L2.uc (L2.br M) "Desk" dw/\L2.eB (L2.br M) dw "plan"/\L2.eB (L2.br M) dw "mark"/\L2.eB (L2.br M) dw "windows"/\L2.eB (L2.br M) dw "missed"/\L2.bA (L2.br M) dw "__init__" "Desk.__init__" K1.cF/\L2.bA (L2.br M) dw "rows" "Desk.rows" K1.sf/\L2.bA (L2.br M) dw "is_closed" "Desk.is_closed" K1.bZ/\L2.bA (L2.br M) dw "is_kept" "Desk.is_kept" K1.om/\L2.bA (L2.br M) dw "is_too_late" "Desk.is_too_late" K1.bL/\L2.bA (L2.br M) dw "do" "Desk.do" K1.ff/\L2.fY (L2.br M) dw "take_mark" "Desk.take_mark" K1.aW 137/\L2.bA (L2.br M) dw "take_event" "Desk.take_event" K1.bC/\L2.bA (L2.br M) dw "keys_met_by" "Desk.keys_met_by" K1.bu/\L2.bA (L2.br M) dw "move_tallies" "Desk.move_tallies" K1.bF/\L2.bA (L2.br M) dw "add_tally" "Desk.add_tally" K1.b_:=by
   dsimp only[L2.br,L2.eB]
   refine'⟨_,⟨?RS,⟨?KD,?LY,?Kv,?Kf⟩,?KW,?Lh⟩,?Ab,?Ac,?sW,?vc,L2.bA.mk' ?oB ?oz ?oq ?oA ?ou,L2.bA.mk' ?vn ?vj ?vd ?vm ?ve,L2.bA.mk' ?mW ?mQ ?mH ?mT ?mL,L2.bA.mk' ?qb ?p_ ?pY ?qa ?pZ,L2.bA.mk' ?jX ?jT ?jP ?jV ?jR,L2.bA.mk' ?Aj ?Af ?Ad ?Ai ?Ae,L2.fY.mk' ?mV ?mP ?mG ?mS ?mK ?mE,L2.bA.mk' ?lB ?kZ ?kX ?lA ?kY,L2.bA.mk' ?jW ?jS ?jO ?jU ?jQ,L2.bA.mk' ?jv ?jt ?jq ?ju ?jr,L2.bA.mk' ?mX ?mR ?mJ ?mU ?mO⟩
   (case RS=>k_is)
   (case KD=>k_is)
   (case LY=>k_is)
   (case Kv=>k_is)
   (case Kf=>k_is)
   (case KW=>k_is)
   (case Lh=>k_is)
   (case Ab=>k_is)
   (case Ac=>k_is)
   (case sW=>k_is)
   (case vc=>k_is)
   (case oB=>k_is)
   (case oz=>k_is)
   (case oq=>k_is)
   (case oA=>k_is)
   (case ou=>k_is)
   (case vn=>k_is)
   (case vj=>k_is)
   (case vd=>k_is)
   (case vm=>k_is)
   (case ve=>k_is)
   (case mW=>k_is)
   (case mQ=>k_is)
   (case mH=>k_is)
   (case mT=>k_is)
   (case mL=>k_is)
   (case qb=>k_is)
   (case p_=>k_is)
   (case pY=>k_is)
   (case qa=>k_is)
   (case pZ=>k_is)
   (case jX=>k_is)
   (case jT=>k_is)
   (case jP=>k_is)
   (case jV=>k_is)
   (case jR=>k_is)
   (case Aj=>k_is)
   (case Af=>k_is)
   (case Ad=>k_is)
   (case Ai=>k_is)
   (case Ae=>k_is)
   (case mV=>k_is)
   (case mP=>k_is)
   (case mG=>k_is)
   (case mS=>k_is)
   (case mK=>k_is)
   (case mE=>kernel_rfl)
   (case lB=>k_is)
   (case kZ=>k_is)
   (case kX=>k_is)
   (case lA=>k_is)
   (case kY=>k_is)
   (case jW=>k_is)
   (case jS=>k_is)
   (case jO=>k_is)
   (case jU=>k_is)
   (case jQ=>k_is)
   (case jv=>k_is)
   (case jt=>k_is)
   (case jq=>k_is)
   (case ju=>k_is)
   (case jr=>k_is)
   (case mX=>k_is)
   (case mR=>k_is)
   (case mJ=>k_is)
   (case mU=>k_is)
   (case mO=>k_is)
  have B:K1.Bi (L2.br M):=by
   dsimp only[L2.br]
   refine'⟨?b0,?b1,?b2,?b3,?b4,?b5,?b6,?b7,?b8,?b9,?b10,?b11,?b12,?b13⟩
   (case b0=>k_is);(case b1=>k_is);(case b2=>k_is);(case b3=>k_is);(case b4=>k_is);(case b5=>k_is);(case b6=>k_is);(case b7=>k_is);(case b8=>k_is);(case b9=>k_is);(case b10=>k_is);(case b11=>k_is);(case b12=>k_is);(case b13=>k_is)
  have KT:(L2.br M).lookup 137=none:=by dsimp only[L2.br];first|k_is|kernel_rfl
  have T:K2.fK (L2.br M) dw:=⟨HH,vS,vU,qz,qL⟩
  have Fk:=K1.Mj (P:=PySem.Challenge.rw_weirgauge_k04_one_late_event.prog) (w:=w) AY M
  have Fl:=K1.Rr (P:=PySem.Challenge.rw_weirgauge_k04_one_late_event.prog) (w:=w) vW M
  have Fs:=K1.Rn AX M nE Fk Fl
  have Fg:=K2.Hi (P:=PySem.Challenge.rw_weirgauge_k04_one_late_event.prog) (w:=w) xX M
  have Fc:=K2.Ru tZ M iz Fl Fs Fg
  have Fi:=K2.Mm oV T Fc
  have Fsp:=K1.Hf xW M B gU Fk Fl Fs
  have Zc:=K2.Ea (P:=PySem.Challenge.rw_weirgauge_k04_one_late_event.prog) (w:=w) (mg:=mg) nI T
  have Flt:=K2.Mi kH M T Fg
  have Fme:=K2.Rq (P:=PySem.Challenge.rw_weirgauge_k04_one_late_event.prog) (w:=w) kG M B T
  have Fj:=K2.Ml (P:=PySem.Challenge.rw_weirgauge_k04_one_late_event.prog) (w:=w) EK M B
  have Zd:=K2.Ry (P:=PySem.Challenge.rw_weirgauge_k04_one_late_event.prog) (w:=w) (mg:=mg) nJ T
  have Fmv:=K2.Mg jA T Zd
  have Fev:=K2.Hj lS M T gU Fk Fsp Flt Zc Fme Fj Fmv Zd
  have Fmk:=K2.Mh gY M B T Zc
  have Fdo:=K2.Wj Bb M T xT Fmk Fev
  have Fan:=K2.Rx AZ M T Fi Fdo
  have Fw:=K3.GZ (P:=PySem.Challenge.rw_weirgauge_k04_one_late_event.prog) (w:=w) t_ M B
  have Fso:=K3.Ro (P:=PySem.Challenge.rw_weirgauge_k04_one_late_event.prog) (w:=w) A_ M B
  have Ftb:=K3.G_ oQ M B (K3.AE oR M B (K3.D_ (P:=PySem.Challenge.rw_weirgauge_k04_one_late_event.prog) (w:=w) qN M B))
  exact⟨KT,gY.code,K3.Rt Sf M B (K1.Rv Ba M B) (K3.Hh qC M) Fan (K3.Rw oU M B (K3.Mf qD M B Fw)) Ftb Fso⟩
