import PyProof.Rows.All
import Wide.All
import OpenK.AllK
import Wide.FinOn
import PyProof.EqAt
import PyProof.EqKinds
import PyProof.TupleCall
import KE.BitLaws
import Open.SpecLaws
import KE.OsHead
import KE.OsGo
import LsWale
import PySem.Challenge.RW_waletexts_s03_same
section
set_option Elab.async false
set_option linter.all false
set_option maxRecDepth 100000
namespace L2
open PySem PySem.Spec PyProof.Rows
abbrev Key:=Sum Int Str
def nq:Key->Value->Bool
 | .inl k,v=>Value.isInt k v
 | .inr x,v=>Value.isStrOf x v
def dy(w:World):Key->Int
 | .inl k=>hashInt k
 | .inr x=>hashStr w x
theorem jt:∀{k:Key}{v:Value},nq k v=true->(∃i t,k=Sum.inl i/\v=Value.int i t)\/(∃x t,k=Sum.inr x/\v=Value.str x t)
 | .inl i,v,h=>by
  obtain⟨t,e⟩:=Value.isInt_shape (k:=i) (v:=v) h
  exact .inl ⟨i,t,rfl,e⟩
 | .inr x,v,h=>by
  obtain⟨t,e⟩:=Value.isStrOf_shape (x:=x) (v:=v) h
  exact .inr ⟨x,t,rfl,e⟩
theorem HX(i:Int)(t:Tok):nq (.inl i) (.int i t)=true:=by simp[nq,Value.isInt]
theorem MQ(x:Str)(t:Tok):nq (.inr x) (.str x t)=true:=by simp[nq,Value.isStrOf]
theorem IB(a b:Int):decide ((Sum.inl a:Key)=Sum.inl b)=(a==b):=by
 by_cases e:a=b
 ·subst e;simp
 ·have h:¬(Sum.inl a:Key)=Sum.inl b:=fun q=>e (Sum.inl.inj q)
  rw[decide_eq_false h]
  exact(beq_eq_false_iff_ne.mpr e).symm
theorem M7(a b:Str):decide ((Sum.inr a:Key)=Sum.inr b)=decide (a=b):=by
 by_cases e:a=b
 ·subst e;simp
 ·have h:¬(Sum.inr a:Key)=Sum.inr b:=fun q=>e (Sum.inr.inj q)
  rw[decide_eq_false h,decide_eq_false e]
theorem PU(a:Int)(b:Str):decide ((Sum.inl a:Key)=Sum.inr b)=false:=decide_eq_false (fun q=>nomatch q)
theorem Nk(a:Str)(b:Int):decide ((Sum.inr a:Key)=Sum.inl b)=false:=decide_eq_false (fun q=>nomatch q)
def eT(prog:Program)(w:World):PySem.KeyKind prog w Key where
 is:=nq
 hash:=dy w
 inj:=fun v a b ha hb=>by
  rcases jt ha with ⟨i,t,rfl,rfl⟩|⟨x,t,rfl,rfl⟩
  ·rcases jt hb with ⟨j,u,rfl,e⟩|⟨y,u,rfl,e⟩
   ·injection e with e1 _;rw[e1]
   ·exact nomatch e
  ·rcases jt hb with ⟨j,u,rfl,e⟩|⟨y,u,rfl,e⟩
   ·exact nomatch e
   ·injection e with e1 _;rw[e1]
 byValue:=fun k v h=>by
  rcases jt h with ⟨i,t,rfl,rfl⟩|⟨x,t,rfl,rfl⟩<;>rfl
 pyHash:=fun hv h=>by
  rcases jt hv with ⟨i,t,rfl,rfl⟩|⟨x,t,rfl,rfl⟩
  ·exact wpAny_pyHash_int h
  ·exact wpAny_pyHash_str h
 eqBool:=fun hu hv h=>by
  rcases jt hu with ⟨i,t,rfl,rfl⟩|⟨x,t,rfl,rfl⟩
  ·rcases jt hv with ⟨j,u,rfl,rfl⟩|⟨y,u,rfl,rfl⟩
   ·rw[IB]at h;exact wpAny_eqBool_int h
   ·rw[PU]at h;exact SeqAt.EqAt.int_str i t y u _ _ _ _ h
  ·rcases jt hv with ⟨j,u,rfl,rfl⟩|⟨y,u,rfl,rfl⟩
   ·rw[Nk]at h;exact SeqAt.EqAt.str_int x t j u _ _ _ _ h
   ·rw[M7]at h;exact wpAny_eqBool_str h
 «strs»:=fun k x t v h=>by
  rcases jt h with ⟨i,u,rfl,e⟩|⟨y,u,rfl,e⟩
  ·exact nomatch e
  ·injection e with e1 _
   subst e1
   cases v<;>rfl
theorem MV(prog:Program)(w:World)(i:Int)(t:Tok):(eT prog w).is (.inl i) (.int i t)=true:=HX i t
theorem KN(prog:Program)(w:World)(x:Str)(t:Tok):(eT prog w).is (.inr x) (.str x t)=true:=MQ x t
end L2
namespace L2
open PySem PySem.Spec PyProof.Rows
inductive V where
 |ay|bl (b:Bool)|int (i:Int)|str (x:Str)|eJ (b:Array UInt8)|lZ (b:UInt64)|ref (a:Addr)|ty (n:String)
 deriving DecidableEq
def RelV:V->Value->Prop
 | .ay,u=>u=Value.none
 | .bl b,u=>u=Value.bool b
 | .int i,u=>∃t,u=Value.int i t
 | .str x,u=>∃t,u=Value.str x t
 | .eJ b,u=>∃t,u=Value.bytes b t
 | .lZ b,u=>∃t,u=Value.float b t
 | .ref a,u=>u=Value.ref a
 | .ty n,u=>u=Value.type n
abbrev aW:List V->List Value->Prop:=Paired RelV
theorem aW.length{xs:List V}{us:List Value}(r:aW xs us):xs.length=us.length:=Paired.length r
theorem aW.get:∀{xs:List V}{us:List Value}{i:Nat}{x:V},aW xs us->xs[i]? =some x->∃u,us[i]? =some u/\RelV x u
 |_,_,_,_,.nil,e=>by simp at e
 |_,_,0,_,.cons r _,e=>by simp at e;subst e;exact⟨_,rfl,r⟩
 |_,_,i+1,x,.cons _ t,e=>by
  obtain⟨u,h1,h2⟩:=aW.get (i:=i) (x:=x) t (by simpa using e)
  exact⟨u,by simpa using h1,h2⟩
theorem aW.append:∀{xs ys:List V}{us ws:List Value},aW xs us->aW ys ws->aW (xs++ys) (us++ws)
 |_,_,_,_,.nil,s=>s
 |_,_,_,_,.cons r t,s=>.cons r (aW.append t s)
theorem aW.take:∀{xs:List V}{us:List Value}(n:Nat),aW xs us->aW (xs.take n) (us.take n)
 |_,_,0,_=>.nil
 |_,_,_+1,.nil=>.nil
 |_,_,n+1,.cons r t=>.cons r (aW.take n t)
theorem aW.drop:∀{xs:List V}{us:List Value}(n:Nat),aW xs us->aW (xs.drop n) (us.drop n)
 |_,_,0,r=>r
 |_,_,_+1,.nil=>.nil
 |_,_,n+1,.cons _ t=>aW.drop n t
def dq:Option V->Option Value->Prop
 |some v,some u=>RelV v u
 |none,none=>True
 |_,_=>False
def KV{κ:Type}:List (κ×V)->List (κ×Value)->Prop:=Paired fun(p:κ×V)(q:κ×Value)=>p.1=q.1/\RelV p.2 q.2
def kV:Key->V
 | .inl i=>.int i
 | .inr x=>.str x
inductive HO where
 |lst (xs:List V)
 |tup (xs:List V)
 |dK (kvs:List (Key×V))|dT (kvs:List (List Key×V))
 |set (S:Int->Bool) (n:Nat)
 |ins (C dx:Addr) (fs:List (Str×V))
 |own (x:Addr)
 |xd (fs:List (Str×V))
 |met (f x:Addr)
 |zG (lo hi:Int)
 |df (o:Obj) (u:HO)
 |kI (ps:Array Value)
 |ext (φ:Heap->Prop)
abbrev Hp:=Addr->Option HO
def upd(H:Hp)(a:Addr)(o:HO):Hp:=fun b=>if b=a then some o else H b
theorem aB{H:Hp}{a:Addr}{o:HO}:upd H a o a=some o:=by unfold upd;rw[if_pos rfl]
theorem ao{H:Hp}{a b:Addr}{o:HO}(h:b≠a):upd H a o b=H b:=by unfold upd;rw[if_neg h]
theorem bX{H:Hp}{a b:Addr}{o u:HO}(h:H a=some o)(h':H b=some u)(d:o≠u):a≠b:=by
 intro e;subst e;rw[h]at h';exact d (Option.some.inj h')
theorem dI{H:Hp}{a b:Addr}{o:HO}(h:H a=some o)(h':H b=none):a≠b:=by
 intro e;subst e;rw[h]at h';cases h'
section
variable (P:Program)(w:World)
def cg(H:Hp)(h:Heap)(a:Addr):HO->Prop
 | .lst xs=>xs.length<=sizeLine/\∃(its:List Value)(n:Nat),aW xs its/\h.get? a=some {cls:=.type "list",data:=.seq its.toArray n}
 | .tup xs=>xs.length<=sizeLine/\∃its:List Value,aW xs its/\IsTup h a its.toArray
 | .dK kvs=>kvs.length<=sizeLine/\(a==sysModules)=false/\∃vs,KV kvs vs/\h.DictOf (eT P w) a vs
 | .dT kvs=>kvs.length<=sizeLine/\(a==sysModules)=false/\∃xs:List (List Key×Addr×Value),
   Paired (fun(p:List Key×V)(q:List Key×Addr×Value)=>p.1=q.1/\H q.2.1=some (.tup (p.1.map kV))/\RelV p.2 q.2.2) kvs xs/\
   ∃o es ep,h.get? a=some o/\o.ExactDict/\o.data=.dict es ep/\es.toList=xs.map (entryOfKey (tupleKind (eT P w)))/\(xs.map (·.1)).Nodup
 | .set S n=>h.SetOf (intKind P w) a S n
 | .ins C dx fs=>H dx=some (.own a)/\fs.length<=1000/\dx≠a/\h.get? a=some (PySem.W.instObj C dx)/\
   ∃mA,h.Ns1 dx mA/\(∀f,dq (fs.lookup f) (mA f))/\PySem.Within mA (fs.map (·.1))
 | .own _=>∃o,h.get? a=some o
 | .xd fs=>∃mA,h.Ns1 a mA/\∀f,dq (fs.lookup f) (mA f)
 | .zG lo hi=>∃t u v,h.get? a=some {cls:=.type "range",data:=.fields #[.int lo t,.int hi u,.int 1 v]}
 | .df o u=>h.get? a=some o/\cg H h a u
 | .kI ps=>h.get? a=some {cls:=.none,data:=.fields ps}
 | .met f x=>h.get? a=some (PySem.W.methodObj (.ref f) (.ref x))
 | .ext φ=>φ h/\(∃o,h.get? a=some o)/\∀h1 h2:Heap,φ h1->(∀o,h1.get? a=some o->h2.get? a=some o)->φ h2
def bG(H:Hp)(h:Heap):Prop:=∀a o,H a=some o->cg P w H h a o
end
section
variable {P:Program}{w:World}{H H':Hp}{h h':Heap}{a:Addr}{o:HO}
theorem cg.lt(x:cg P w H h a o):a<h.objs.size:=by
 cases o with
 |lst xs=>obtain⟨_,_,_,_,e⟩:=x;exact Heap.lt_size e
 |tup xs=>obtain⟨_,_,_,p⟩:=x;exact p.lt
 |dK kvs=>obtain⟨_,_,_,_,o,_,_,e,_⟩:=x;exact Heap.lt_size e
 |dT kvs=>obtain⟨_,_,_,_,o,_,_,e,_⟩:=x;exact Heap.lt_size e
 |set S n=>obtain⟨o,_,_,_,e,_⟩:=x;exact Heap.lt_size e
 |ins C dx fs=>obtain⟨_,_,_,e,_⟩:=x;exact Heap.lt_size e
 |own y=>obtain⟨_,e⟩:=x;exact Heap.lt_size e
 |xd fs=>obtain⟨_,⟨_,_,_,e,_⟩,_⟩:=x;exact Heap.lt_size e
 |zG lo hi=>obtain⟨_,_,_,e⟩:=x;exact Heap.lt_size e
 |df ob u=>obtain⟨e,_⟩:=x;exact Heap.lt_size e
 |kI ps=>exact Heap.lt_size (show h.get? a=some _ from x)
 |met f y=>exact Heap.lt_size (show h.get? a=some _ from x)
 |ext φ=>obtain⟨_,⟨_,e⟩,_⟩:=x;exact Heap.lt_size e
theorem Paired.zU{α β:Type}{F G:α->β->Prop}:∀{l₁:List α}{l₂:List β},Paired F l₁ l₂->(∀a b,F a b->G a b)->Paired G l₁ l₂
 |_,_,.nil,_=>.nil
 |_,_,.cons r t,f=>.cons (f _ _ r) (Paired.zU t f)
theorem cg.ie(x:cg P w H h a o)(k:∀b u,(b=a\/H b=some (.own a))->h.get? b=some u->h'.get? b=some u)
  (ho:∀b,H b=some (.own a)->H' b=some (.own a)) (ht:∀b xs,H b=some (.tup xs)->H' b=some (.tup xs)):cg P w H' h' a o:=by
 induction o with
 |lst xs=>obtain⟨z,its,n,r,e⟩:=x;exact⟨z,its,n,r,k _ _ (.inl rfl) e⟩
 |tup xs=>obtain⟨z,its,r,ob,e,c⟩:=x;exact⟨z,its,r,ob,k _ _ (.inl rfl) e,c⟩
 |dK kvs=>obtain⟨z,y,vs,r,ob,es,ep,e,c⟩:=x;exact⟨z,y,vs,r,ob,es,ep,k _ _ (.inl rfl) e,c⟩
 |dT kvs=>
  obtain⟨z,y,xs,r,ob,es,ep,e,c⟩:=x
  exact⟨z,y,xs,Paired.zU r fun p q z=>⟨z.1,ht _ _ z.2.1,z.2.2⟩,ob,es,ep,k _ _ (.inl rfl) e,c⟩
 |set S n=>obtain⟨ob,es,ep,t,e,c⟩:=x;exact⟨ob,es,ep,t,k _ _ (.inl rfl) e,c⟩
 |ins C dx fs=>
  obtain⟨d,z,ne,e,mA,⟨od,es,ep,e2,c⟩,r⟩:=x
  exact⟨ho _ d,z,ne,k _ _ (.inl rfl) e,mA,⟨od,es,ep,k _ _ (.inr d) e2,c⟩,r⟩
 |own y=>obtain⟨ob,e⟩:=x;exact⟨ob,k _ _ (.inl rfl) e⟩
 |xd fs=>obtain⟨mA,⟨od,es,ep,e,c⟩,r⟩:=x;exact⟨mA,⟨od,es,ep,k _ _ (.inl rfl) e,c⟩,r⟩
 |zG lo hi=>obtain⟨t,u,v,e⟩:=x;exact⟨t,u,v,k _ _ (.inl rfl) e⟩
 |df ob u ih=>obtain⟨e,q⟩:=x;exact⟨k _ _ (.inl rfl) e,ih q⟩
 |kI ps=>
  have e:h.get? a=some {cls:=.none,data:=.fields ps}:=x
  show h'.get? a=some {cls:=.none,data:=.fields ps}
  exact k a _ (.inl rfl) e
 |met f y=>
  have e:h.get? a=some (PySem.W.methodObj (.ref f) (.ref y)):=x
  show h'.get? a=some (PySem.W.methodObj (.ref f) (.ref y))
  exact k a _ (.inl rfl) e
 |ext φ=>obtain⟨p,⟨o,e⟩,st⟩:=x;exact⟨st _ _ p fun o q=>k _ _ (.inl rfl) q,⟨o,k _ _ (.inl rfl) e⟩,st⟩
theorem bG.lt(x:bG P w H h)(e:H a=some o):a<h.objs.size:=(x a o e).lt
theorem bG.fresh(x:bG P w H h)(e:h.objs.size<=a):H a=none:=by
 cases q:H a with
 |none=>rfl
 |some u=>exact absurd (Nat.lt_of_lt_of_le (x.lt q) e) (Nat.lt_irrefl _)
theorem bG.kept(x:bG P w H h)(k:∀b u,h.get? b=some u->h'.get? b=some u):bG P w H h':=fun a o e=>
 (x a o e).ie (fun b u _ q=>k b u q) (fun _ q=>q) fun _ _ q=>q
theorem bG.laid(x:bG P w H h)(k:∀b u,h.get? b=some u->h'.get? b=some u)(hp:h.objs.size<=a)(new:cg P w (upd H a o) h' a o):bG P w (upd H a o) h':=fun b u e=>by
 have hn:=x.fresh hp
 by_cases hb:b=a
 ·subst hb;rw[aB]at e;cases e;exact new
 ·rw[ao hb]at e
  exact(x b u e).ie (fun c v _ q=>k c v q) (fun c q=>by rw[ao (dI q hn)];exact q) fun c xs q=>by rw[ao (dI q hn)];exact q
end
def Rd(H:Hp)(a:Addr)(u:HO):Prop:=H a=some u\/∃o,H a=some (.df o u)
theorem Rd.ok{P:Program}{w:World}{H:Hp}{h:Heap}{a:Addr}{u:HO}(r:Rd H a u)(x:bG P w H h):cg P w H h a u:=by
 rcases r with r|⟨o,r⟩
 ·exact x a u r
 ·obtain⟨_,q⟩:=x a _ r
  exact q
def pS:Option HO->Prop
 |some (.lst _)=>True
 |some (.dK _)=>True
 |some (.dT _)=>True
 |some (.set _ _)=>True
 |some (.ins _ _ _)=>True
 |some (.ext _)=>True
 |_=>False
section
variable {P:Program}{w:World}{H:Hp}{h h':Heap}{x e:Addr}{o':HO}
theorem bG.write(ok:bG P w H h)(mu:pS (H x))(he:e=x\/H e=some (.own x))(k:∀b u,b≠e->h.get? b=some u->h'.get? b=some u)(heo:∃u,h'.get? e=some u)
  (new:cg P w (upd H x o') h' x o'):bG P w (upd H x o') h':=fun b u q=>by
 have nown:∀c y,H c=some (.own y)->c≠x:=fun c y r z=>by subst z;rw[r]at mu;exact mu
 have ntup:∀c xs,H c=some (.tup xs)->c≠x:=fun c xs r z=>by subst z;rw[r]at mu;exact mu
 by_cases hb:b=x
 ·subst hb;rw[aB]at q;cases q;exact new
 ·rw[ao hb]at q
  by_cases hbe:b=e
  ·have q':H b=some (.own x):=by
    rcases he with z|z
    ·exact absurd (hbe.trans z) hb
    ·rw[hbe];exact z
   rw[q]at q';cases q'
   obtain⟨v,hv⟩:=heo
   exact⟨v,by rw[hbe];exact hv⟩
  ·refine(ok b u q).ie (fun c v hc r=>k c v ?_ r) (fun c r=>by rw[ao (nown c b r)];exact r) fun c xs r=>by rw[ao (ntup c xs r)];exact r
   rcases hc with rfl|hc
   ·exact hbe
   ·rintro rfl
    rcases he with z|z
    ·exact nown c b hc z
    ·rw[hc]at z;cases z;exact hb rfl
end
structure Un(fs ex:List Addr)(H H':Hp)(h h':Heap):Prop where
 keep:∀b o,h.get? b=some o->H b=none->b∉fs->b∉ex->h'.get? b=some o
 slot:∀b o,h.get? b=some o->H b=none->b∈fs->b∉ex->∃sl,h'.get? b=some {o with slots:=sl}
 free:∀b o,h.get? b=some o->H b=none->b∉ex->H' b=none
 there:∀b o,h.get? b=some o->b∉ex->∃o',h'.get? b=some o'
 hZ:∀b xs,H b=some (.tup xs)->H' b=some (.tup xs)
 gx:∀b o u,H b=some (.df o u)->H' b=some (.df o u)
 hX:∀b ps,H b=some (.kI ps)->∃more,H' b=some (.kI (ps++more))
section
variable {fs fs' ex ex':List Addr}{H H1 H2:Hp}{h h1 h2 h':Heap}{a x e:Addr}{o:HO}
theorem Un.any(u:Un fs ex H H1 h h1){b:Addr}{ob:Obj}(q:h.get? b=some ob)(n:H b=none)(hx:b∉ex):∃sl,h1.get? b=some {ob with slots:=sl}:=by
 by_cases hb:b∈fs
 ·exact u.slot b ob q n hb hx
 ·exact⟨ob.slots,u.keep b ob q n hb hx⟩
theorem Un.kept(k:∀b u,h.get? b=some u->h'.get? b=some u):Un fs ex H H h h':=
 ⟨fun b ob q _ _ _=>k b ob q,fun b ob q _ _ _=>⟨ob.slots,k b ob q⟩,fun _ _ _ n _=>n,fun b ob q _=>⟨ob,k b ob q⟩,fun _ _ q=>q,fun _ _ _ q=>q,fun _ ps q=>⟨#[],by rw[q];simp⟩⟩
theorem Un.refl:Un fs ex H H h h:=Un.kept fun _ _ q=>q
theorem Un.laid(k:∀b u,h.get? b=some u->h'.get? b=some u)(hp:h.objs.size<=a)(hn:H a=none):Un fs ex H (upd H a o) h h' where
 keep:=fun b u q _ _ _=>k b u q
 slot:=fun b u q _ _ _=>⟨u.slots,k b u q⟩
 free:=fun b u q n _=>by rw[ao (Nat.ne_of_lt (Nat.lt_of_lt_of_le (Heap.lt_size q) hp))];exact n
 there:=fun b u q _=>⟨u,k b u q⟩
 hZ:=fun b xs q=>by rw[ao (dI q hn)];exact q
 gx:=fun b u xs q=>by rw[ao (dI q hn)];exact q
 hX:=fun b ps q=>⟨#[],by rw[ao (dI q hn),q];simp⟩
theorem Un.write(mu:pS (H x))(he:e=x\/H e=some (.own x))(k:∀b u,b≠e->h.get? b=some u->h'.get? b=some u)(heo:∃u,h'.get? e=some u):Un fs ex H (upd H x o) h h':=by
 have hx:∀b,H b=none->b≠x:=fun b n z=>by subst z;rw[n]at mu;exact mu
 have hb:∀b,H b=none->b≠e:=fun b n z=>by
  subst z
  rcases he with r|r
  ·exact hx b n r
  ·rw[n]at r;cases r
 have hm:∀b u,H b=some u->¬pS (some u)->b≠x:=fun b u q nm z=>by subst z;rw[q]at mu;exact nm mu
 refine⟨fun b u q n _ _=>k b u (hb b n) q,fun b u q n _ _=>⟨u.slots,k b u (hb b n) q⟩,fun b u q n _=>by rw[ao (hx b n)];exact n,fun b u q _=>?_,
  fun b xs q=>by rw[ao (hm b _ q fun z=>z)];exact q,fun b u xs q=>by rw[ao (hm b _ q fun z=>z)];exact q,fun b ps q=>⟨#[],by rw[ao (hm b _ q fun z=>z),q];simp⟩⟩
 by_cases hbe:b=e
 ·subst hbe;exact heo
 ·exact⟨u,k b u hbe q⟩
end
def ua(h:Heap)(H:Hp):List Addr:=(List.range h.objs.size).filter fun a=>(H a).isSome
def jo(h:Heap)(H:Hp):Heap:=PySem.W.hideAll h (ua h H)
theorem Jl(h:Heap)(H:Hp):(jo h H).objs.size=h.objs.size:=PySem.W.hideAll_size _ _
theorem Nf{h:Heap}{H:Hp}{b:Addr}{o:Obj}(e:h.get? b=some o)(n:H b=none):(jo h H).get? b=some o:=
 PySem.W.hideAll_get _ e fun hm=>by
  have q:(H b).isSome=true:=(List.mem_filter.mp hm).2
  rw[n]at q;simp at q
theorem JV{h:Heap}{H:Hp}{b:Addr}{o:Obj}(e:(jo h H).get? b=some o):h.get? b=some o/\H b=none:=by
 have e':h.get? b=some o:=PySem.W.of_hideAll (ua h H) e
 refine⟨e',?_⟩
 cases q:H b with
 |none=>rfl
 |some x=>
  have hm:b∈ua h H:=List.mem_filter.mpr ⟨List.mem_range.mpr (Heap.lt_size e'),by simp[q]⟩
  have z:(jo h H).get? b=none:=PySem.W.hideAll_none (ua h H) hm
  rw[z]at e;cases e
end L2
namespace L2
open PySem PySem.Spec PyProof.Rows
structure Mod(K:PySem.W.Frag)(mg:Str->Option Value)(base:Heap):Prop where
 iA:K.In base
 glob:base.Ns mainGlobals mg
 blt:∃mb,base.Ns builtinsNs mb/\∀x:Str,x≠"__name__"->mb x=bootBuiltins x
 nolimit:base.NoLimit
structure Cx where
 prog:Program
 w:World
 K:PySem.W.Frag
 mg:Str->Option Value
 base:Heap
 A:Around
 N:List Str
 cn:Shared
 mN:Hp
 env:Env
 outer:List Env
 stack:List Env
 ex:List Addr
 fn:Str->Bool
 calm:Bool
 pn:List (Addr×Obj)
 xe:Value->Shared->Prop
def cD(l:List Env):List Addr:=l.filterMap (·.frame)
abbrev Cx.fs(X:Cx):List Addr:=cD X.outer
def kT(sc:Scope)(x:Str):Prop:=sc.names.lookup x=some .local\/sc.names.lookup x=some .cell\/sc.names.lookup x=some .free
def Loc(sc:Scope)(x:Str):Prop:=sc.names.lookup x=some .local\/sc.names.lookup x=some .cell
def Look(env:Env)(h:Heap)(m:Str->Option Value)(x:Str)(u:Value):Prop:=
 (env.kindOf x=some .local/\m x=some u)\/((env.kindOf x=some .cell\/env.kindOf x=some .free)/\∃c,env.cells.lookup x=some c/\h.IsCell c (some u))
structure Cx.Ok(X:Cx):Prop where
 mod:Mod X.K X.mg X.base
 kind:X.env.scope.kind=.function
 glob:X.env.globals=mainGlobals
 blt:X.env.builtins=builtinsNs
 above:X.cn.heap.objs.size<=X.env.locals
 inj:∀x y c,X.env.cells.lookup x=some c->X.env.cells.lookup y=some c->x=y
 has:∀x,(X.env.kindOf x=some .cell\/X.env.kindOf x=some .free)->∃c,X.env.cells.lookup x=some c
 i6:∀x c,X.fn x=true->X.env.cells.lookup x=some c->X.cn.heap.objs.size<=c
 hd:X.calm=true->X.A.handled=none
 frames:X.A.frames=some X.stack
 i3:X.stack=X.outer\/(X.stack=X.env::X.outer/\X.env.frame=some X.env.locals)
 kl:∀b∈X.ex,b≠X.env.locals/\∀x c,X.env.cells.lookup x=some c->c≠b
 bs:∀b o,X.base.get? b=some o->X.cn.heap.get? b=some o/\X.mN b=none
 fF:X.base.objs.size<=X.cn.heap.objs.size
 iV:∀b o,X.base.get? b=some o->b∉X.ex
 jj:∀b∈X.ex,b∉X.fs
 d8:X.cn.heap.FunFrames X.base X.outer
 gA:∀b∈X.fs,X.mN b=none
structure Inv(X:Cx)(pins:List (Addr×Obj))(σ:List (Option V))(H:Hp)(s:Shared):Prop where
 ok:X.Ok
 os:s.os=X.cn.os
 bare:AllBare s.gens
 base:Un X.fs X.ex X.mN H X.cn.heap s.heap
 loc:∃m,s.heap.Ns X.env.locals m/\∀(i:Nat)(x:Str)(v:V),X.N[i]? =some x->σ[i]? =some (some v)->kT X.env.scope x->∃u,RelV v u/\Look X.env s.heap m x u
 cell:∀x c,X.env.cells.lookup x=some c->∃v,s.heap.IsCell c v
 free:H X.env.locals=none
 d5:∀x c,X.env.cells.lookup x=some c->H c=none
 pin:∀p∈X.pn++pins,s.heap.get? p.1=some p.2/\H p.1=none/\p.1≠X.env.locals/\p.1∉X.fs/\∀v,p.2.data≠ .cell v
 az:bG X.prog X.w H s.heap
 len:σ.length=X.N.length
section
variable {X:Cx}{pins:List (Addr×Obj)}{σ:List (Option V)}{H H':Hp}{s:Shared}{h':Heap}
theorem Cx.Ok.Jq(ok:X.Ok){b:Addr}{o:Obj}(e:X.base.get? b=some o):b∉X.fs:=fun hb=>by
 have:=(ok.d8.mem hb).1
 rw[e]at this;cases this
theorem Inv.bs(I:Inv X pins σ H s):∀b o,X.base.get? b=some o->s.heap.get? b=some o/\H b=none:=fun b o e=>
 ⟨I.base.keep b o (I.ok.bs b o e).1 (I.ok.bs b o e).2 (I.ok.Jq e) (I.ok.iV b o e),I.base.free b o (I.ok.bs b o e).1 (I.ok.bs b o e).2 (I.ok.iV b o e)⟩
theorem Inv.bk(I:Inv X pins σ H s):∀b o,X.base.get? b=some o->s.heap.get? b=some o:=fun b o e=>(I.bs b o e).1
theorem Inv.mod(I:Inv X pins σ H s):Mod X.K X.mg X.base:=I.ok.mod
theorem Inv.bo(I:Inv X pins σ H s):X.K.In s.heap:=I.ok.mod.iA.keeps I.bk
theorem Inv.lt(I:Inv X pins σ H s):X.env.locals<s.heap.objs.size:=let⟨_,hn,_⟩:=I.loc;hn.lt
theorem Inv.sz(I:Inv X pins σ H s):X.cn.heap.objs.size<=s.heap.objs.size:=Nat.le_trans I.ok.above (Nat.le_of_lt I.lt)
theorem Inv.Kq(I:Inv X pins σ H s){a:Addr}(h:s.heap.objs.size<=a):a∉X.fs:=fun hb=>by
 obtain⟨_,o,ho,_⟩:=I.ok.d8.mem hb
 exact absurd (Nat.lt_of_lt_of_le (Heap.lt_size ho) (Nat.le_trans I.sz h)) (Nat.lt_irrefl _)
theorem Inv.jU(I:Inv X pins σ H s):∀x c,X.env.cells.lookup x=some c->c≠X.env.locals:=fun x c e z=>by
 obtain⟨v,o,ho,hd⟩:=I.cell x c e
 obtain⟨m,⟨o',es,ep,ho',hd',_⟩,_⟩:=I.loc
 rw[z,ho']at ho;cases ho;rw[hd']at hd;cases hd
theorem Inv.d8(I:Inv X pins σ H s):s.heap.FunFrames X.base X.outer:=by
 have all:∀(l:List Env),(∀b∈cD l,b∈X.fs)->X.cn.heap.FunFrames X.base l->s.heap.FunFrames X.base l:=by
  intro l
  induction l with
  |nil=>intro _ _;trivial
  |cons env r ih=>
   intro hs hl
   obtain⟨hk,⟨L,o,hf,hn,ho,hd⟩,hr⟩:=hl
   have hL:L∈X.fs:=hs L (by unfold cD;rw[List.filterMap_cons,hf];exact List.mem_cons_self)
   obtain⟨sl,e⟩:=I.base.slot L o ho (I.ok.gA L hL) hL fun z=>I.ok.jj L z hL
   exact⟨hk,⟨L,_,hf,hn,e,hd⟩,ih (fun b hb=>hs b (by unfold cD;rw[List.filterMap_cons,hf];exact List.mem_cons_of_mem _ hb)) hr⟩
 exact all X.outer (fun _ hb=>hb) I.ok.d8
theorem Inv.stack(I:Inv X pins σ H s):s.heap.FunFrames X.base X.stack:=by
 rcases I.ok.i3 with e|⟨e,hf⟩
 ·rw[e];exact I.d8
 ·rw[e]
  obtain⟨m,hn,_⟩:=I.loc
  refine .cons (by rw[I.ok.kind];decide) hf hn ?_ I.d8
  exact Heap.get?_none_of_le (Nat.le_trans I.ok.fF I.ok.above)
theorem Inv.A8(I:Inv X pins σ H s):∀b∈cD X.stack,b∈X.env.locals::X.fs:=fun b hb=>by
 rcases I.ok.i3 with e|⟨e,hf⟩
 ·rw[e]at hb;exact List.mem_cons_of_mem _ hb
 ·rw[e]at hb
  unfold cD at hb
  rw[List.filterMap_cons,hf]at hb
  exact hb
theorem Inv.u6(I:Inv X pins σ H s):∀b∈cD X.stack,H b=none:=fun b hb=>by
 rcases List.mem_cons.mp (I.A8 b hb)with e|hb
 ·rw[e];exact I.free
 ·obtain⟨_,o,ho,_⟩:=I.ok.d8.mem hb
  exact I.base.free b o ho (I.ok.gA b hb) fun z=>I.ok.jj b z hb
theorem Inv.step{g':Array GenState}{t':Nat}{d':Drawn}{ch:List Addr}(I:Inv X pins σ H s)
  (hch:∀b∈ch,(b∈X.ex\/X.cn.heap.objs.size<=b)/\b≠X.env.locals/\(∀x c,X.env.cells.lookup x=some c->c≠b)/\∀p∈X.pn++pins,p.1≠b)
  (keep:∀b o,b≠X.env.locals->b∉X.fs->b∉ch->s.heap.get? b=some o->H b=none->h'.get? b=some o)
  (slot:∀b o,b≠X.env.locals->b∈X.fs->b∉ch->s.heap.get? b=some o->H b=none->∃sl,h'.get? b=some {o with slots:=sl}) (free:∀b o,b∉ch->s.heap.get? b=some o->H b=none->H' b=none)
  (there:∀b o,b∉ch->s.heap.get? b=some o->∃o',h'.get? b=some o')
  (hZ:∀b xs,H b=some (.tup xs)->H' b=some (.tup xs)) (gx:∀b o u,H b=some (.df o u)->H' b=some (.df o u)) (hX:∀b ps,H b=some (.kI ps)->∃more,H' b=some (.kI (ps++more)))
  (ns:∀m,s.heap.Ns X.env.locals m->h'.Ns X.env.locals m) (az:bG X.prog X.w H' h') (hg:AllBare g'):
  Inv X pins σ H' {s with heap:=h',gens:=g',drawn:=d',toks:=t'}:=by
 have neL:∀b o,X.cn.heap.get? b=some o->b≠X.env.locals:=fun b o e=>Nat.ne_of_lt (Nat.lt_of_lt_of_le (Heap.lt_size e) I.ok.above)
 have neC:∀b o,X.cn.heap.get? b=some o->b∉X.ex->b∉ch:=fun b o e hx hb=>by
  rcases(hch b hb).1 with z|z
  ·exact hx z
  ·exact absurd (Nat.lt_of_lt_of_le (Heap.lt_size e) z) (Nat.lt_irrefl _)
 have cellK:∀x c,X.env.cells.lookup x=some c->∀v,s.heap.IsCell c v->h'.IsCell c v:=fun x c e v⟨o,ho,hd⟩=>by
  have nch:c∉ch:=fun z=>(hch c z).2.2.1 x c e rfl
  by_cases hc:c∈X.fs
  ·obtain⟨sl,q⟩:=slot c o (I.jU x c e) hc nch ho (I.d5 x c e)
   exact⟨_,q,hd⟩
  ·exact⟨o,keep c o (I.jU x c e) hc nch ho (I.d5 x c e),hd⟩
 refine⟨I.ok,I.os,hg,⟨fun b o e n hb hx=>?_,fun b o e n hb hx=>?_,fun b o e n hx=>?_,fun b o e hx=>?_,fun b xs e=>hZ b xs (I.base.hZ b xs e),fun b o xs e=>gx b o xs (I.base.gx b o xs e),fun b ps e=>?_⟩,?_,fun x c e=>?_,?_,fun x c e=>?_,fun p hp=>?_,az,I.len⟩
 ·exact keep b o (neL b o e) hb (neC b o e hx) (I.base.keep b o e n hb hx) (I.base.free b o e n hx)
 ·obtain⟨sl,e1⟩:=I.base.slot b o e n hb hx
  obtain⟨sl',e2⟩:=slot b _ (neL b o e) hb (neC b o e hx) e1 (I.base.free b o e n hx)
  exact⟨sl',e2⟩
 ·obtain⟨o',e1⟩:=I.base.there b o e hx
  exact free b o' (neC b o e hx) e1 (I.base.free b o e n hx)
 ·obtain⟨o',e1⟩:=I.base.there b o e hx
  exact there b o' (neC b o e hx) e1
 ·obtain⟨m1,e1⟩:=I.base.hX b ps e
  obtain⟨m2,e2⟩:=hX b _ e1
  exact⟨m1++m2,by rw[e2,Array.append_assoc]⟩
 ·obtain⟨m,hn,hl⟩:=I.loc
  refine⟨m,ns m hn,fun i x v e1 e2 e3=>?_⟩
  obtain⟨u,r,l⟩:=hl i x v e1 e2 e3
  refine⟨u,r,?_⟩
  rcases l with l|⟨k,c,e,z⟩
  ·exact .inl l
  ·exact .inr ⟨k,c,e,cellK x c e _ z⟩
 ·obtain⟨v,z⟩:=I.cell x c e
  exact⟨v,cellK x c e v z⟩
 ·obtain⟨m,⟨o,_,_,ho,_⟩,_⟩:=I.loc
  exact free _ o (fun z=>(hch _ z).2.1 rfl) ho I.free
 ·obtain⟨v,o,ho,hd⟩:=I.cell x c e
  exact free c o (fun z=>(hch c z).2.2.1 x c e rfl) ho (I.d5 x c e)
 ·obtain⟨e,n,ne,nf,d⟩:=I.pin p hp
  have nch:p.1∉ch:=fun z=>(hch p.1 z).2.2.2 p hp rfl
  exact⟨keep p.1 p.2 ne nf nch e n,free p.1 p.2 nch e n,ne,nf,d⟩
theorem Inv.un{t':Nat}(I:Inv X pins σ H s)(u:Un X.fs [] H H' s.heap h')(az:bG X.prog X.w H' h'):Inv X pins σ H' {s with heap:=h',toks:=t'}:=by
 obtain⟨m,⟨o,es,ep,ho,r⟩,_⟩:=id I.loc
 obtain⟨sl,hL⟩:=u.any ho I.free (by simp)
 exact I.step (g':=s.gens) (d':=s.drawn) (ch:=[]) (fun _ z=>nomatch z) (fun b o _ hb _ e n=>u.keep b o e n hb (by simp)) (fun b o _ hb _ e n=>u.slot b o e n hb (by simp)) (fun b o _ e n=>u.free b o e n (by simp)) (fun b o _ e=>u.there b o e (by simp)) u.hZ u.gx u.hX (fun m' hm=>by
  obtain⟨o',es',ep',ho',r'⟩:=hm
  rw[ho]at ho';cases ho'
  exact⟨_,es',ep',hL,r'⟩) az I.bare
theorem Inv.call{g':Array GenState}{t':Nat}{d':Drawn}{ch:List Addr}(I:Inv X pins σ H s)(u:Un (cD X.stack) ch H H' s.heap h')(az:bG X.prog X.w H' h')(hg:AllBare g')
  (hch:∀b∈ch,(b∈X.ex\/X.cn.heap.objs.size<=b)/\b≠X.env.locals/\(∀x c,X.env.cells.lookup x=some c->c≠b)/\∀p∈X.pn++pins,p.1≠b):
  Inv X pins σ H' {s with heap:=h',gens:=g',drawn:=d',toks:=t'}:=by
 obtain⟨m,⟨o,es,ep,ho,r⟩,_⟩:=id I.loc
 obtain⟨sl,hL⟩:=u.any ho I.free fun z=>(hch _ z).2.1 rfl
 exact I.step (ch:=ch) hch (fun b o hL hb hc e n=>u.keep b o e n (fun z=>(List.mem_cons.mp (I.A8 b z)).elim hL hb) hc) (fun b o _ _ hc e n=>u.any e n hc) (fun b o hc e n=>u.free b o e n hc) (fun b o hc e=>u.there b o e hc) u.hZ u.gx u.hX (fun m' hm=>by
  obtain⟨o',es',ep',ho',r'⟩:=hm
  rw[ho]at ho';cases ho'
  exact⟨_,es',ep',hL,r'⟩) az hg
theorem Inv.turned{t':Nat}{it:Addr}(I:Inv X pins σ H s)(k:∀b o,b≠it->s.heap.get? b=some o->h'.get? b=some o)(hn:H it=none)(hL:it≠X.env.locals)
  (h1:it∈X.ex\/X.cn.heap.objs.size<=it) (h2:∀x c,X.env.cells.lookup x=some c->c≠it) (h3:∀p∈X.pn++pins,p.1≠it):Inv X pins σ H {s with heap:=h',toks:=t'}:=by
 have nit:∀b u,H b=some u->b≠it:=fun b u e z=>by rw[z,hn]at e;cases e
 refine I.step (g':=s.gens) (d':=s.drawn) (ch:=[it]) (fun b hb=>?_) (fun b o _ _ hc e _=>k b o (fun z=>hc (by simp[z])) e) (fun b o _ _ hc e _=>⟨o.slots,k b o (fun z=>hc (by simp[z])) e⟩) (fun _ _ _ _ n=>n)
  (fun b o hc e=>⟨o,k b o (fun z=>hc (by simp[z])) e⟩) (fun _ _ e=>e) (fun _ _ _ e=>e) (fun b ps e=>⟨#[],by rw[e];simp⟩) (fun m hm=>?_) (fun b u e=>?_) I.bare
 ·have e:b=it:=by simpa using hb
  subst e
  exact⟨h1,hL,h2,h3⟩
 ·obtain⟨o,es,ep,ho,r⟩:=hm
  exact⟨o,es,ep,k _ o (Ne.symm hL) ho,r⟩
 ·refine(I.az b u e).ie (fun c v hc q=>k c v ?_ q) (fun _ q=>q) fun _ _ q=>q
  rcases hc with z|z
  ·rw[z];exact nit b u e
  ·exact nit c _ z
theorem Inv.tok(I:Inv X pins σ H s)(t:Nat):Inv X pins σ H {s with toks:=t}:=I.un (h':=s.heap) (t':=t) Un.refl I.az
theorem Inv.kept{t':Nat}(I:Inv X pins σ H s)(k:∀b u,s.heap.get? b=some u->h'.get? b=some u):Inv X pins σ H {s with heap:=h',toks:=t'}:=I.un (Un.kept k) (I.az.kept k)
theorem Inv.laid{a:Addr}{o:HO}{t':Nat}(I:Inv X pins σ H s)(k:∀b u,s.heap.get? b=some u->h'.get? b=some u)(hp:s.heap.objs.size<=a)(new:cg X.prog X.w (upd H a o) h' a o):
  Inv X pins σ (upd H a o) {s with heap:=h',toks:=t'}:=I.un (Un.laid k hp (I.az.fresh hp)) (I.az.laid k hp new)
theorem Inv.write{x e:Addr}{o:HO}{t':Nat}(I:Inv X pins σ H s)(mu:pS (H x))(he:e=x\/H e=some (.own x))(k:∀b u,b≠e->s.heap.get? b=some u->h'.get? b=some u)(heo:∃u,h'.get? e=some u)
  (new:cg X.prog X.w (upd H x o) h' x o):Inv X pins σ (upd H x o) {s with heap:=h',toks:=t'}:=I.un (Un.write mu he k heo) (I.az.write mu he k heo new)
theorem Inv.weak{σ':List (Option V)}(I:Inv X pins σ H s)(hl:σ'.length=σ.length)(w:∀(i:Nat)v,σ'[i]? =some (some v)->σ[i]? =some (some v)):Inv X pins σ' H s:=
 ⟨I.ok,I.os,I.bare,I.base,let⟨m,hn,hl'⟩:=I.loc;⟨m,hn,fun i x v e1 e2 e3=>hl' i x v e1 (w i v e2) e3⟩,I.cell,I.free,I.d5,I.pin,I.az,hl.trans I.len⟩
theorem Inv.He{pins':List (Addr×Obj)}(I:Inv X pins σ H s)(h:∀p∈pins',s.heap.get? p.1=some p.2/\H p.1=none/\p.1≠X.env.locals/\p.1∉X.fs/\∀v,p.2.data≠ .cell v):Inv X pins' σ H s:=
 ⟨I.ok,I.os,I.bare,I.base,I.loc,I.cell,I.free,I.d5,fun p hp=>(List.mem_append.mp hp).elim (fun z=>I.pin p (List.mem_append_left _ z)) (h p),I.az,I.len⟩
theorem wX{N:List Str}(hN:N.Nodup){i j:Nat}{x:Str}(a:N[i]? =some x)(b:N[j]? =some x):i=j:=by
 obtain⟨h1,e1⟩:=List.getElem?_eq_some_iff.mp a
 obtain⟨h2,e2⟩:=List.getElem?_eq_some_iff.mp b
 exact(List.getElem_inj hN).mp (e1.trans e2.symm)
theorem Nt{M:Model}{A:Around}{E:Value->Shared->Prop}{i:Nat}{x:Str}{v:V}{u:Value}{Q:Unit->Shared->Prop}(I:Inv X pins σ H s)(hN:X.N.Nodup)(hi:X.N[i]? =some x)(hx:Loc X.env.scope x)(r:RelV v u)
  (h:∀s',Inv X pins (σ.set i (some v)) H s'->(∃a,Heap.SameBut a s.heap s'.heap/\(a=X.env.locals\/X.env.cells.lookup x=some a))->Q () s') (hf:X.fn x=true\/X.env.scope.names.lookup x=some .local:=by first|exact .inl rfl|exact .inr rfl|assumption):wpAny M A (storeName X.env x u) Q E s:=by
 obtain⟨m,hn,hl⟩:=id I.loc
 have hcls:(X.env.scope.kind== .class||(X.env.scope.kind== .module&&X.env.locals !=X.env.globals))=false:=by rw[I.ok.kind];rfl
 have hiσ:i<σ.length:=by rw[I.len];exact(List.getElem?_eq_some_iff.mp hi).1
 have jU:=I.jU
 have tracked:∀{a:Addr}{h':Heap},(∃o,s.heap.get? a=some o/\H a=none)->Heap.SameBut a s.heap h'->bG X.prog X.w H h':=fun{a h'}ha hs b ob e=>by
  obtain⟨_,_,hfree⟩:=ha
  refine(I.az b ob e).ie (fun c w' hc q=>(hs.2 c ?_).trans q) (fun _ q=>q) fun _ _ q=>q
  rintro rfl
  rcases hc with rfl|hc
  ·rw[hfree]at e;cases e
  ·rw[hfree]at hc;cases hc
 rcases hx with hk|hk
 ·refine wpAny_storeName_local hk hn (fun h' hn' hs=>?_) hcls
  obtain⟨oL,_,_,hoL,_⟩:=id hn
  refine h _ ⟨I.ok,I.os,I.bare,⟨fun b o e n hb hx=>?_,fun b o e n hb hx=>?_,I.base.free,fun b o e hx=>?_,I.base.hZ,I.base.gx,I.base.hX⟩,⟨_,hn',fun j y v' e1 e2 e3=>?_⟩,fun y c e=>?_,I.free,I.d5,fun p hp=>?_,tracked ⟨oL,hoL,I.free⟩ hs,by simpa using I.len⟩ ⟨_,hs,.inl rfl⟩
  ·exact(hs.2 b (Nat.ne_of_lt (Nat.lt_of_lt_of_le (Heap.lt_size e) I.ok.above))).trans (I.base.keep b o e n hb hx)
  ·obtain⟨sl,e1⟩:=I.base.slot b o e n hb hx
   exact⟨sl,(hs.2 b (Nat.ne_of_lt (Nat.lt_of_lt_of_le (Heap.lt_size e) I.ok.above))).trans e1⟩
  ·obtain⟨o',e1⟩:=I.base.there b o e hx
   exact⟨o',(hs.2 b (Nat.ne_of_lt (Nat.lt_of_lt_of_le (Heap.lt_size e) I.ok.above))).trans e1⟩
  ·by_cases hj:j=i
   ·subst hj
    rw[hi]at e1;cases e1
    rw[List.getElem?_set_self hiσ]at e2
    cases e2
    exact⟨u,r,.inl ⟨hk,by simp⟩⟩
   ·rw[List.getElem?_set_ne (Ne.symm hj)]at e2
    obtain⟨u',r',q⟩:=hl j y v' e1 e2 e3
    refine⟨u',r',?_⟩
    rcases q with ⟨k,e⟩|⟨k,c,e,z⟩
    ·refine .inl ⟨k,?_⟩
     have:y≠x:=fun e=>hj (wX hN e1 (e▸hi))
     simp[this,e]
    ·exact .inr ⟨k,c,e,z.sameBut hs (jU y c e)⟩
  ·obtain⟨w',z⟩:=I.cell y c e
   exact⟨w',z.sameBut hs (jU y c e)⟩
  ·obtain⟨e,n,ne,nf,d⟩:=I.pin p hp
   exact⟨(hs.2 p.1 ne).trans e,n,ne,nf,d⟩
 ·have hfn:X.fn x=true:=by
   rcases hf with z|z
   ·exact z
   ·rw[z]at hk;cases hk
  obtain⟨c,hc⟩:=I.ok.has x (.inl hk)
  obtain⟨w',z⟩:=I.cell x c hc
  refine wpAny_storeName_cell I.ok.kind hk hc z (fun h' hc' hs=>?_)
  obtain⟨oc,hoc,hocd⟩:=id z
  refine h {s with heap:=h'} ⟨I.ok,I.os,I.bare,⟨fun b o e n hb hx=>?_,fun b o e n hb hx=>?_,I.base.free,fun b o e hx=>?_,I.base.hZ,I.base.gx,I.base.hX⟩,⟨m,hn.sameBut hs (Ne.symm (jU x c hc)),fun j y v' e1 e2 e3=>?_⟩,fun y c' e=>?_,I.free,I.d5,fun p hp=>?_,tracked ⟨oc,hoc,I.d5 x c hc⟩ hs,by simpa using I.len⟩ ⟨c,hs,.inr hc⟩
  ·exact(hs.2 b (Nat.ne_of_lt (Nat.lt_of_lt_of_le (Heap.lt_size e) (I.ok.i6 x c hfn hc)))).trans (I.base.keep b o e n hb hx)
  ·obtain⟨sl,e1⟩:=I.base.slot b o e n hb hx
   exact⟨sl,(hs.2 b (Nat.ne_of_lt (Nat.lt_of_lt_of_le (Heap.lt_size e) (I.ok.i6 x c hfn hc)))).trans e1⟩
  ·obtain⟨o',e1⟩:=I.base.there b o e hx
   exact⟨o',(hs.2 b (Nat.ne_of_lt (Nat.lt_of_lt_of_le (Heap.lt_size e) (I.ok.i6 x c hfn hc)))).trans e1⟩
  ·by_cases hj:j=i
   ·subst hj
    rw[hi]at e1;cases e1
    rw[List.getElem?_set_self hiσ]at e2
    cases e2
    exact⟨u,r,.inr ⟨.inl hk,c,hc,hc'⟩⟩
   ·rw[List.getElem?_set_ne (Ne.symm hj)]at e2
    obtain⟨u',r',q⟩:=hl j y v' e1 e2 e3
    refine⟨u',r',?_⟩
    rcases q with q|⟨k,c',e,z'⟩
    ·exact .inl q
    ·refine .inr ⟨k,c',e,z'.sameBut hs ?_⟩
     rintro rfl
     exact hj (wX hN e1 (I.ok.inj _ _ _ e hc▸hi))
  ·by_cases hcc:c'=c
   ·subst hcc;exact⟨_,hc'⟩
   ·obtain⟨w2,z2⟩:=I.cell y c' e
    exact⟨w2,z2.sameBut hs hcc⟩
  ·obtain⟨e,n,ne,nf,d⟩:=I.pin p hp
   refine⟨(hs.2 p.1 ?_).trans e,n,ne,nf,d⟩
   intro q
   rw[q,hoc]at e
   have q':oc=p.2:=Option.some.inj e
   exact d w' (by rw[<-q'];exact hocd)
theorem uq{M:Model}{A:Around}{E:Value->Shared->Prop}{i:Nat}{x:Str}{v:V}{u:Value}{Q:Unit->Shared->Prop}(I:Inv X pins σ H s)(hN:X.N.Nodup)(hi:X.N[i]? =some x)(hx:Loc X.env.scope x)(r:RelV v u)
  (h:∀s',Inv X pins (σ.set i (some v)) H s'->Q () s') (hf:X.fn x=true\/X.env.scope.names.lookup x=some .local:=by first|exact .inl rfl|exact .inr rfl|assumption):wpAny M A (storeName X.env x u) Q E s:=
 Nt I hN hi hx r (fun s' I' _=>h s' I') hf
theorem Inv.IZ{s':Shared}{ch:List Addr}(I:Inv X pins σ H s)(ho:s'.os=s.os)(u:Un (cD X.stack) ch H H' s.heap s'.heap)(az:bG X.prog X.w H' s'.heap)(hg:AllBare s'.gens)
  (hch:∀b∈ch,(b∈X.ex\/X.cn.heap.objs.size<=b)/\b≠X.env.locals/\(∀x c,X.env.cells.lookup x=some c->c≠b)/\∀p∈X.pn++pins,p.1≠b):Inv X pins σ H' s':=by
 obtain⟨h',g',d',t',o'⟩:=s'
 have e:o'=s.os:=ho
 subst e
 exact I.call (g':=g') (t':=t') (d':=d') u az hg hch
end
abbrev XK:=Value->Option Addr->Hp->Prop
abbrev St:=List (Option V)
abbrev VK:=V->Hp->Prop
abbrev TE:=St->Hp->VK->Prop
abbrev TT:=St->Hp->(Bool->Hp->Prop)->Prop
abbrev TA:=St->Hp->(List V->Hp->Prop)->Prop
structure Ends where
 nx:St->Hp->Prop
 rt:VK
 bk:St->Hp->Prop:=fun _ _=>False
 ct:St->Hp->Prop:=fun _ _=>False
abbrev TS:=Ends->St->Hp->Prop
def EP(X:Cx)(pins:List (Addr×Obj))(σ:St)(Q:VK)(u:Value)(s':Shared):Prop:=∃v H',Inv X pins σ H' s'/\RelV v u/\Q v H'
def TP(X:Cx)(pins:List (Addr×Obj))(σ:St)(Q:Bool->Hp->Prop)(b:Bool)(s':Shared):Prop:=∃H',Inv X pins σ H' s'/\Q b H'
def AP(X:Cx)(pins:List (Addr×Obj))(σ:St)(Q:List V->Hp->Prop)(us:List Value)(s':Shared):Prop:=∃vs H',Inv X pins σ H' s'/\aW vs us/\Q vs H'
def SP(X:Cx)(pins:List (Addr×Obj))(D:Ends)(f:Flow)(s':Shared):Prop:=
 match f with
 | .next=>∃σ' H',Inv X pins σ' H' s'/\D.nx σ' H'
 | .brk=>∃σ' H',Inv X pins σ' H' s'/\D.bk σ' H'
 | .cont=>∃σ' H',Inv X pins σ' H' s'/\D.ct σ' H'
 | .ret u=>∃v σ' H',Inv X pins σ' H' s'/\RelV v u/\D.rt v H'
def PE(X:Cx)(e:Expr)(t:TE):Prop:=
 ∀(pins:List (Addr×Obj))(s:Shared)(σ:St)(H:Hp)(Q:VK),Inv X pins σ H s->t σ H Q->wpAny (model X.prog X.w) X.A (eval e X.env) (EP X pins σ Q) X.xe s
def PT(X:Cx)(e:Expr)(t:TT):Prop:=
 ∀(pins:List (Addr×Obj))(s:Shared)(σ:St)(H:Hp)(Q:Bool->Hp->Prop),Inv X pins σ H s->t σ H Q->wpAny (model X.prog X.w) X.A (isTrue e X.env (eval e X.env)) (TP X pins σ Q) X.xe s
def PW(X:Cx)(e:Expr)(t:TT):Prop:=
 ∀(whole:Sem Value)(pins:List (Addr×Obj))(s:Shared)(σ:St)(H:Hp)(Q:Bool->Hp->Prop),Inv X pins σ H s->t σ H Q->wpAny (model X.prog X.w) X.A (isTrue e X.env whole) (TP X pins σ Q) X.xe s
theorem PW.pt{X:Cx}{e:Expr}{t:TT}(h:PW X e t):PT X e t:=h _
def PA(X:Cx)(es:List Expr)(t:TA):Prop:=
 ∀(pos:Pos)(pins:List (Addr×Obj))(s:Shared)(σ:St)(H:Hp)(Q:List V->Hp->Prop),Inv X pins σ H s->t σ H Q->wpAny (model X.prog X.w) X.A (spliced (backTo pos (starEach es X.env))) (AP X pins σ Q) X.xe s
def PS(X:Cx)(st:Stmt)(t:TS):Prop:=
 ∀(pins:List (Addr×Obj))(s:Shared)(σ:St)(H:Hp)(D:Ends),Inv X pins σ H s->t D σ H->wpAny (model X.prog X.w) X.A (exec st X.env) (SP X pins D) X.xe s
def d9(X:Cx)(st:List Stmt)(t:TS):Prop:=
 ∀(pins:List (Addr×Obj))(s:Shared)(σ:St)(H:Hp)(D:Ends),Inv X pins σ H s->t D σ H->wpAny (model X.prog X.w) X.A (execs st X.env) (SP X pins D) X.xe s
theorem aH{α:Type}{t:Sem α}{Q Q':α->Shared->Prop}{M:Model}{A:Around}{E:Value->Shared->Prop}{s:Shared}(h:wpAny M A t Q E s)(hQ:∀a s,Q a s->Q' a s):wpAny M A t Q' E s:=wpAny_mono h hQ fun _ _ x=>x
end L2
namespace L2
open PySem PySem.Spec PyProof.Rows
section
variable {X:Cx}
def bI(i:Nat):TE:=fun σ H Q=>∃v,σ[i]? =some (some v)/\Q v H
def tC(v:V):TE:=fun _ H Q=>Q v H
theorem FZ{i:Nat}{x:Str}{pos:Pos}(hN:X.N[i]? =some x)(hv:kT X.env.scope x)(hd:(x==("__debug__":Str))=false:=by decide)(hcd:(x==("__classdict__":Str))=false:=by decide):PE X (.Name x pos) (bI i):=by
 intro pins s σ H Q I h
 obtain⟨v,e,h⟩:=h
 obtain⟨m,hn,hl⟩:=I.loc
 obtain⟨u,r,l⟩:=hl i x v hN e hv
 have fin:EP X pins σ Q u s:=⟨v,H,I,r,h⟩
 rcases l with ⟨hk,hm⟩|⟨hk,c,hc,hcell⟩
 ·exact wpAny_Name (wpAny_loadName_local I.ok.kind hk hn hm fin) hd
 ·rcases hk with hk|hk
  ·exact wpAny_Name (wpAny_loadName_cell I.ok.kind hk hc hcell fin) hd
  ·exact wpAny_Name (wpAny_loadName_free I.ok.kind hk hc hcell fin hcd) hd
theorem bF{i j pos}:PE X (.Constant (.int i) j pos) (tC (.int i)):=fun _ _ _ H _ I h=>wpAny_Constant_int ⟨.int i,H,I.tok _,⟨_,rfl⟩,h⟩
theorem ue{b j pos}:PE X (.Constant (.bool b) j pos) (tC (.bl b)):=fun _ _ _ H _ I h=>Constant_bool ⟨.bl b,H,I,rfl,h⟩
theorem fO{j pos}:PE X (.Constant .none j pos) (tC .ay):=fun _ _ _ H _ I h=>Constant_none ⟨.ay,H,I,rfl,h⟩
theorem aT{x j pos}:PE X (.Constant (.str x) j pos) (tC (.str x)):=fun _ _ _ H _ I h=>Calls.Constant_str ⟨.str x,H,I.tok _,⟨_,rfl⟩,h⟩
def Gl(X:Cx)(x:Str):Prop:=X.env.kindOf x=some .globalImplicit
theorem i5{E:Value->Shared->Prop}{pins:List (Addr×Obj)}{s:Shared}{σ:St}{H:Hp}{x:Str}{u:Value}{pos:Pos}{Q:Value->Shared->Prop}(I:Inv X pins σ H s)(hg:Gl X x)(hm:X.mg x=some u)(h:Q u s)
  (hd:(x==("__debug__":Str))=false:=by decide):wpAny (model X.prog X.w) X.A (eval (.Name x pos) X.env) Q E s:=
 Calls.Name_function_global I.ok.kind hg (Calls.loadGlobal_global (by rw[I.ok.glob];exact I.mod.glob.keeps I.bk) hm h) hd
theorem Aw{E:Value->Shared->Prop}{pins:List (Addr×Obj)}{s:Shared}{σ:St}{H:Hp}{x:Str}{u:Value}{pos:Pos}{Q:Value->Shared->Prop}(I:Inv X pins σ H s)(hg:Gl X x)(hm:X.mg x=none)(hv:bootBuiltins x=some u)(h:Q u s)
  (hn:x≠"__name__":=by decide) (hd:(x==("__debug__":Str))=false:=by decide):wpAny (model X.prog X.w) X.A (eval (.Name x pos) X.env) Q E s:=by
 obtain⟨mb,h1,h2⟩:=I.mod.blt
 exact Calls.Name_function_global I.ok.kind hg (Calls.loadGlobal_builtin (by rw[I.ok.glob];exact I.mod.glob.keeps I.bk) hm (by rw[I.ok.blt];exact h1.keeps I.bk) ((h2 x hn).trans hv) h) hd
theorem js{x:Str}{v:V}{u:Value}{pos:Pos}(hg:Gl X x)(hm:X.mg x=some u)(r:RelV v u)(hd:(x==("__debug__":Str))=false:=by decide):PE X (.Name x pos) (tC v):=
 fun _ _ _ H _ I h=>i5 I hg hm ⟨v,H,I,r,h⟩ hd
variable {a b:Expr}{ta tb:TE}{pos:Pos}
def PC(X:Cx)(op:CmpOp)(a b:Expr)(t:TE):Prop:=
 ∀(pins:List (Addr×Obj))(s:Shared)(σ:St)(H:Hp)(Q:VK),Inv X pins σ H s->t σ H Q->
  wpAny (model X.prog X.w) X.A (eval a X.env) (fun v s₁=>wpAny (model X.prog X.w) X.A (eval b X.env) (fun u s₂=>wpAny (model X.prog X.w) X.A (compareOp op v u) (EP X pins σ Q) X.xe s₂) X.xe s₁) X.xe s
def tB(t:TE):TT:=fun σ H Q=>t σ H fun x H1=>∃c,x=.bl c/\Q c H1
theorem Di{op:CmpOp}{t:TE}(h:PC X op a b t)(h1:behindInMarks op b=false:=by first|exact nobehind _ (by decide) (by decide)|rfl):PT X (.Compare a [op] [b] pos) (tB t):=by
 intro pins s σ H Q I hw
 refine wpAny_isTrue_Compare1 (aH (h pins s σ H _ I hw) fun v s1 h1=>aH h1 fun u s2 h2=>aH h2 fun c s3 hh1=>?_) h1
 obtain⟨x,H1,I1,r1,q1⟩:=hh1
 obtain⟨d,rfl,q⟩:=q1
 cases r1
 exact wpAny_truthy_bool ⟨H1,I1,q⟩
theorem cY{e:Expr}{t:TE}(h:PE X e t)(he:∀whole,isTrue e X.env whole=(do let v <-whole;standAt e.pos;holding [v] (truthy v)):=by intro _;rfl):PT X e (tB t):=by
 intro pins s σ H Q I hw
 refine isTrue_plain (aH (h pins s σ H _ I hw) fun v s1 hh2=>?_) (he _)
 obtain⟨x,H1,I1,r1,q1⟩:=hh2
 obtain⟨d,rfl,q⟩:=q1
 cases r1
 exact wpAny_truthy_bool ⟨H1,I1,q⟩
variable {tA tB':TT}{rest:List Expr}
def Li(t u:TT):TT:=fun σ H Q=>t σ H fun c H1=>if c=true then u σ H1 Q else Q false H1
def vZ(t u:TT):TT:=fun σ H Q=>t σ H fun c H1=>if c=true then Q true H1 else u σ H1 Q
def LY(t:TT):TT:=fun σ H Q=>t σ H fun c H1=>Q (!c) H1
theorem rp(ha:PT X a tA):PW X (.BoolOp .And [a] pos) tA:=by
 intro wh pins s σ H Q I h
 refine isTrue_and (aH (ha pins s σ H Q I h) fun c s1 e=>?_)
 cases c with
 |true=>exact isTrue_and_nil e
 |false=>exact e
theorem iK(ha:PT X a tA):PW X (.BoolOp .Or [a] pos) tA:=by
 intro wh pins s σ H Q I h
 refine isTrue_or (aH (ha pins s σ H Q I h) fun c s1 e=>?_)
 cases c with
 |false=>exact isTrue_or_nil e
 |true=>exact e
theorem ng(ha:PT X a tA)(hb:PW X (.BoolOp .And (b::rest) pos) tB'):PW X (.BoolOp .And (a::b::rest) pos) (Li tA tB'):=by
 intro wh pins s σ H Q I h
 refine isTrue_and (aH (ha pins s σ H _ I h) fun c s1 hh3=>?_)
 obtain⟨H1,I1,q1⟩:=hh3
 cases c with
 |true=>exact hb wh pins s1 σ H1 Q I1 q1
 |false=>exact⟨H1,I1,q1⟩
theorem iM(ha:PT X a tA)(hb:PW X (.BoolOp .Or (b::rest) pos) tB'):PW X (.BoolOp .Or (a::b::rest) pos) (vZ tA tB'):=by
 intro wh pins s σ H Q I h
 refine isTrue_or (aH (ha pins s σ H _ I h) fun c s1 hh4=>?_)
 obtain⟨H1,I1,q1⟩:=hh4
 cases c with
 |true=>exact⟨H1,I1,q1⟩
 |false=>exact hb wh pins s1 σ H1 Q I1 q1
theorem Cs(ha:PT X a tA):PT X (.UnaryOp .Not a pos) (LY tA):=by
 intro pins s σ H Q I h
 exact isTrue_not (ha pins s σ H (fun c H1=>Q (!c) H1) I h)
def Hj(ta tb:TE):TE:=fun σ H Q=>ta σ H fun x H1=>∃c,x=.bl c/\if c=true then tb σ H1 Q else Q (.bl false) H1
def Ma(ta tb:TE):TE:=fun σ H Q=>ta σ H fun x H1=>∃c,x=.bl c/\if c=true then Q (.bl true) H1 else tb σ H1 Q
theorem gY{op}{t:TE}(h:PE X a t):PE X (.BoolOp op [a] pos) t:=fun pins s σ H Q I hw=>BoolOp_one (h pins s σ H Q I hw)
theorem i9(ha:PE X a ta)(hb:PE X (.BoolOp .And (b::rest) pos) tb):PE X (.BoolOp .And (a::b::rest) pos) (Hj ta tb):=by
 intro pins s σ H Q I h
 refine BoolOp_and (aH (ha pins s σ H _ I h) fun v s1 hh5=>?_)
 obtain⟨x,H1,I1,r1,q1⟩:=hh5
 obtain⟨c,rfl,q1⟩:=q1
 cases r1
 refine wpAny_truthy_bool ?_
 cases c with
 |true=>exact hb pins s1 σ H1 Q I1 q1
 |false=>exact⟨.bl false,H1,I1,rfl,q1⟩
theorem va(ha:PE X a ta)(hb:PE X (.BoolOp .Or (b::rest) pos) tb):PE X (.BoolOp .Or (a::b::rest) pos) (Ma ta tb):=by
 intro pins s σ H Q I h
 refine BoolOp_or (aH (ha pins s σ H _ I h) fun v s1 hh6=>?_)
 obtain⟨x,H1,I1,r1,q1⟩:=hh6
 obtain⟨c,rfl,q1⟩:=q1
 cases r1
 refine wpAny_truthy_bool ?_
 cases c with
 |false=>exact hb pins s1 σ H1 Q I1 q1
 |true=>exact⟨.bl true,H1,I1,rfl,q1⟩
def BR(t:TT)(ta tb:TE):TE:=fun σ H Q=>t σ H fun c H1=>if c=true then ta σ H1 Q else tb σ H1 Q
theorem Bs{c:Expr}(hc:PT X c tA)(ha:PE X a ta)(hb:PE X b tb):PE X (.IfExp c a b pos) (BR tA ta tb):=by
 intro pins s σ H Q I h
 refine wpAny_IfExp (aH (hc pins s σ H _ I h) fun d s1 hh7=>?_)
 obtain⟨H1,I1,q1⟩:=hh7
 cases d with
 |true=>exact ha pins s1 σ H1 Q I1 q1
 |false=>exact hb pins s1 σ H1 Q I1 q1
end
end L2
namespace L2
open PySem PySem.Spec PyProof.Rows
def aM(K:PySem.W.Frag)(H:Hp)(a:Addr)(xs:List V):Prop:=
 Rd H a (.lst xs)\/
  ∃(o:Obj)(its:Array Value)(n:Nat),K.lookup a=some o/\o.cls=.type "list"/\o.dict=none/\o.data=.seq its n/\its.size<=sizeLine/\aW xs its.toList
def dZ(K:PySem.W.Frag)(H:Hp)(a:Addr)(xs:List V):Prop:=
 Rd H a (.tup xs)\/
  ∃(o:Obj)(its:Array Value)(n:Nat),K.lookup a=some o/\o.cls=.type "tuple"/\o.data=.seq its n/\its.size<=sizeLine/\aW xs its.toList
def OL:Value->Option V
 | .none=>some .ay
 | .bool b=>some (.bl b)
 | .int i _=>some (.int i)
 | .str x _=>some (.str x)
 | .bytes b _=>some (.eJ b)
 | .float b _=>some (.lZ b)
 | .ref a=>some (.ref a)
 | .type n=>some (.ty n)
 |_=>none
theorem RelV.abs{x:V}{u:Value}(r:RelV x u):OL u=some x:=by
 cases x with
 |ay=>cases r;rfl
 |bl _=>cases r;rfl
 |int _=>obtain⟨t,rfl⟩:=r;rfl
 |str _=>obtain⟨t,rfl⟩:=r;rfl
 |eJ _=>obtain⟨t,rfl⟩:=r;rfl
 |lZ _=>obtain⟨t,rfl⟩:=r;rfl
 |ref _=>cases r;rfl
 |ty _=>cases r;rfl
theorem RelV.inj{x y:V}{u:Value}(r:RelV x u)(q:RelV y u):x=y:=Option.some.inj (r.abs.symm.trans q.abs)
theorem aW.inj:∀{xs ys:List V}{us:List Value},aW xs us->aW ys us->xs=ys
 |_,_,_,.nil,.nil=>rfl
 |_,_,_,.cons r t,.cons r' t'=>by rw[r.inj r',aW.inj t t']
section
variable {X:Cx}{pins:List (Addr×Obj)}{σ:St}{H:Hp}{s:Shared}{a:Addr}{xs ys:List V}
theorem aM.of{K:PySem.W.Frag}(h:H a=some (.lst xs)):aM K H a xs:=.inl (.inl h)
theorem dZ.of{K:PySem.W.Frag}(h:H a=some (.tup xs)):dZ K H a xs:=.inl (.inl h)
theorem Inv.list(I:Inv X pins σ H s)(h:aM X.K H a xs):∃its:List Value,aW xs its/\PlainL s.heap a its.toArray/\xs.length<=sizeLine:=by
 rcases h with h|⟨o,its,n,hk,hc,hd,hs,hz,r⟩
 ·obtain⟨z,its,n,r,e⟩:=h.ok I.az
  exact⟨its,r,⟨_,n,e,rfl,rfl,rfl⟩,z⟩
 ·refine⟨its.toList,r,⟨o,n,I.bo a o hk,hc,hd,by simpa using hs⟩,?_⟩
  have e:=r.length
  simp only[Array.length_toList]at e
  lia
theorem Inv.tuple(I:Inv X pins σ H s)(h:dZ X.K H a xs):∃its:List Value,aW xs its/\IsTup s.heap a its.toArray/\xs.length<=sizeLine:=by
 rcases h with h|⟨o,its,n,hk,hc,hs,hz,r⟩
 ·obtain⟨z,its,r,p⟩:=h.ok I.az
  exact⟨its,r,p,z⟩
 ·refine⟨its.toList,r,⟨o,I.bo a o hk,hc,n,by simpa using hs⟩,?_⟩
  have e:=r.length
  simp only[Array.length_toList]at e
  lia
theorem Inv.Bw(I:Inv X pins σ H s)(h:aM X.K H a xs)(h':aM X.K H a ys):xs=ys:=by
 obtain⟨its,r,⟨o,n,e,_,_,d⟩,_⟩:=I.list h
 obtain⟨its',r',⟨o',n',e',_,_,d'⟩,_⟩:=I.list h'
 rw[e]at e';cases e'
 rw[d]at d'
 injection d' with d1 _
 have:its=its':=by simpa using congrArg Array.toList d1
 subst this
 exact r.inj r'
end
abbrev Cx.ip(X:Cx)(E:Value->Shared->Prop):Cx:={X with xe:=E}
abbrev Cx.vG(X:Cx):Cx:=X.ip fun _ _=>False
theorem Cx.Ok.ip{X:Cx}(ok:X.Ok)(E:Value->Shared->Prop):(X.ip E).Ok:=
 ⟨ok.mod,ok.kind,ok.glob,ok.blt,ok.above,ok.inj,ok.has,ok.i6,ok.hd,ok.frames,ok.i3,ok.kl,ok.bs,ok.fF,ok.iV,ok.jj,ok.d8,ok.gA⟩
theorem Cx.Ok.jZ{X:Cx}{E:Value->Shared->Prop}(ok:(X.ip E).Ok):X.Ok:=
 ⟨ok.mod,ok.kind,ok.glob,ok.blt,ok.above,ok.inj,ok.has,ok.i6,ok.hd,ok.frames,ok.i3,ok.kl,ok.bs,ok.fF,ok.iV,ok.jj,ok.d8,ok.gA⟩
section
variable {X:Cx}{pins:List (Addr×Obj)}{σ:St}{H:Hp}{s:Shared}{E:Value->Shared->Prop}
theorem Inv.ip(I:Inv X pins σ H s)(E:Value->Shared->Prop):Inv (X.ip E) pins σ H s:=⟨I.ok.ip E,I.os,I.bare,I.base,I.loc,I.cell,I.free,I.d5,I.pin,I.az,I.len⟩
theorem Inv.jZ(I:Inv (X.ip E) pins σ H s):Inv X pins σ H s:=⟨I.ok.jZ,I.os,I.bare,I.base,I.loc,I.cell,I.free,I.d5,I.pin,I.az,I.len⟩
theorem SP.jZ{D:Ends}{f:Flow}{s':Shared}(h:SP (X.ip E) pins D f s'):SP X pins D f s':=by
 cases f with
 |next=>obtain⟨σ',H',I,q⟩:=h;exact⟨σ',H',I.jZ,q⟩
 |brk=>obtain⟨σ',H',I,q⟩:=h;exact⟨σ',H',I.jZ,q⟩
 |cont=>obtain⟨σ',H',I,q⟩:=h;exact⟨σ',H',I.jZ,q⟩
 |ret u=>obtain⟨v,σ',H',I,r,q⟩:=h;exact⟨v,σ',H',I.jZ,r,q⟩
theorem d9.vG{st:List Stmt}{t:TS}(h:d9 X.vG st t):d9 X st t:=fun pins s σ H D I hw=>
 wpAny_mono (h pins s σ H D (I.ip _) hw) (fun _ _ q=>q.jZ) fun _ _ z=>False.elim z
end
section
variable {X:Cx}{st:Stmt}{rest:List Stmt}{t u:TS}{e:Expr}{te:TE}{pos:Pos}
def tS:TS:=fun D σ H=>D.nx σ H
def ky(t u:TS):TS:=fun D σ H=>t {D with nx:=u D} σ H
theorem ba:d9 X [] tS:=fun _ _ σ H _ I h=>wpAny_execs_nil ⟨σ,H,I,h⟩
theorem aj(h1:PS X st t)(h2:d9 X rest u):d9 X (st::rest) (ky t u):=by
 intro pins s σ H D I h
 refine wpAny_execs_cons (aH (h1 pins s σ H {D with nx:=u D} I h) fun f s1 q=>?_)
 cases f with
 |next=>
  obtain⟨σ',H',I',q⟩:=q
  exact h2 pins s1 σ' H' D I' q
 |ret v=>exact q
 |brk=>exact q
 |cont=>exact q
theorem ak(h1:PS X st t):d9 X [st] t:=by
 intro pins s σ H D I h
 refine wpAny_execs_cons (aH (h1 pins s σ H D I h) fun f s1 q=>?_)
 cases f with
 |next=>exact wpAny_execs_nil q
 |ret v=>exact q
 |brk=>exact q
 |cont=>exact q
theorem Inv.quiet{pins:List (Addr×Obj)}{σ:St}{H:Hp}{s:Shared}(I:Inv X pins σ H s):interactive X.env=false:=by simp[interactive,I.ok.kind]
def Ir(te:TE):TS:=fun D σ H=>te σ H fun _ H1=>D.nx σ H1
theorem a9(he:PE X e te)(hs:swapsWith e none pos.line X.env=pure false:=by rfl):PS X (.Expr e pos) (Ir te):=by
 intro pins s σ H D I h
 exact wpAny_Expr_any (aH (he pins s σ H _ I h) fun v s1⟨x,H1,I1,r1,q1⟩=>⟨σ,H1,I1,q1⟩) I.quiet hs
def o9(te:TE):TS:=fun D σ H=>te σ H D.rt
theorem aF(he:PE X e te):PS X (.Return (some e) pos) (o9 te):=by
 intro pins s σ H D I h
 exact wpAny_Return_some (aH (he pins s σ H _ I h) fun v s1⟨x,H1,I1,r1,q1⟩=>⟨x,σ,H1,I1,r1,q1⟩)
def NP:TS:=fun D _ H=>D.rt .ay H
theorem Oj:PS X (.Return none pos) NP:=fun _ _ σ H _ I h=>wpAny_Return_none ⟨.ay,σ,H,I,rfl,h⟩
def vU(c:TT)(t u:TS):TS:=fun D σ H=>c σ H fun b H1=>if b=true then t D σ H1 else u D σ H1
theorem a4{c:Expr}{a b:List Stmt}{tc:TT}(hc:PT X c tc)(ha:d9 X a t)(hb:d9 X b u):PS X (.If c a b pos) (vU tc t u):=by
 intro pins s σ H D I h
 refine wpAny_If (aH (hc pins s σ H _ I h) fun d s1 hh8=>?_)
 obtain⟨H1,I1,q1⟩:=hh8
 cases d with
 |true=>exact ha pins s1 σ H1 D I1 q1
 |false=>exact hb pins s1 σ H1 D I1 q1
end
abbrev TG:=V->St->Hp->(St->Hp->Prop)->Prop
abbrev ma:=List V->St->Hp->(St->Hp->Prop)->Prop
def PG(X:Cx)(target:Expr)(t:TG):Prop:=
 ∀(pins:List (Addr×Obj))(s:Shared)(σ:St)(H:Hp)(v:V)(u:Value)(Q:St->Hp->Prop),Inv X pins σ H s->RelV v u->t v σ H Q->
  wpAny (model X.prog X.w) X.A (assign target X.env u) (fun _ s'=>∃σ' H',Inv X pins σ' H' s'/\Q σ' H') X.xe s
def vA(X:Cx)(ts:List Expr)(t:ma):Prop:=
 ∀(pins:List (Addr×Obj))(s:Shared)(σ:St)(H:Hp)(vs:List V)(us:List Value)(Q:St->Hp->Prop),Inv X pins σ H s->aW vs us->t vs σ H Q->
  wpAny (model X.prog X.w) X.A (assignInOrder ((assignEach ts X.env).map (·.2)) us) (fun _ s'=>∃σ' H',Inv X pins σ' H' s'/\Q σ' H') X.xe s
abbrev tQ:=V->V->Hp->VK->Prop
def Es(X:Cx)(op:Operator)(t:tQ):Prop:=
 ∀(pins:List (Addr×Obj))(s:Shared)(σ:St)(H:Hp)(x y:V)(v u:Value)(Q:VK),Inv X pins σ H s->RelV x v->RelV y u->t x y H Q->
  wpAny (model X.prog X.w) X.A (inplaceOp op v u) (EP X pins σ Q) X.xe s
section
variable {X:Cx}{pos:Pos}
def tM(i:Nat):TG:=fun v σ H Q=>Q (σ.set i (some v)) H
theorem BK{i:Nat}{x:Str}(hN:X.N.Nodup)(hi:X.N[i]? =some x)(hx:Loc X.env.scope x)(hf:X.fn x=true\/X.env.scope.names.lookup x=some .local:=by first|exact .inl rfl|exact .inr rfl|assumption):PG X (.Name x pos) (tM i):=by
 intro pins s σ H v u Q I r h
 exact wpAny_assign_Name (uq I hN hi hx r (fun s' I'=>⟨_,H,I',h⟩) hf)
def Ra:ma:=fun vs σ H Q=>vs=[]/\Q σ H
def HS(t:TG)(u:ma):ma:=fun vs σ H Q=>∃v r,vs=v::r/\t v σ H fun σ' H'=>u r σ' H' Q
theorem Ox:vA X [] Ra:=by
 intro pins s σ H vs us Q I r h
 obtain⟨e,h⟩:=h
 subst e
 cases r
 exact assignInOrder_nil ⟨σ,H,I,h⟩
theorem D6{e:Expr}{es:List Expr}{t:TG}{u:ma}(h1:PG X e t)(h2:vA X es u)
  (hs:(assignEach (e::es) X.env).map (·.2)=assign e X.env::(assignEach es X.env).map (·.2):=by rfl):vA X (e::es) (HS t u):=by
 intro pins s σ H vs us Q I r h
 obtain⟨v,vr,e1,h⟩:=h
 subst e1
 cases r with
 |cons r rr=>
  rw[hs]
  refine assignInOrder_cons (aH (h1 pins s σ H _ _ _ I r h) fun _ s1 hh9=>?_)
  obtain⟨σ1,H1,I1,q1⟩:=hh9
  exact h2 pins s1 σ1 H1 _ _ Q I1 rr q1
def Ol(K:PySem.W.Frag)(n:Nat)(t:ma):TG:=fun v σ H Q=>∃a xs,v=.ref a/\dZ K H a xs/\xs.length=n/\t xs σ H Q
theorem Iq{es:List Expr}{k:Nat}{t:ma}{n:Nat}(hc:X.calm=true)(h:vA X es t)
  (hn:(assignEach es X.env).length=n:=by rfl) (hst:(assignEach es X.env).findIdx? (·.1)=none:=by rfl):PG X (.Tuple es k pos) (Ol X.K n t):=by
 intro pins s σ H v u Q I r hw
 obtain⟨a,xs,e1,hq,hl,hw⟩:=hw
 subst e1
 cases r
 obtain⟨its,rv,ht,hz⟩:=I.tuple hq
 refine assign_Tuple_tuple (I.ok.hd hc) ht (by simp[hn,<-hl,rv.length]) hst fun h' hx=>?_
 have I1:Inv X pins σ H {s with heap:=h'}:=I.kept (t':=s.toks) fun b o e=>hx b o (Nat.ne_of_lt (Heap.lt_size e)) e
 exact h pins _ σ H xs _ Q I1 (by simpa using rv) hw
def vo(te:TE)(g:TG):TS:=fun D σ H=>te σ H fun x H1=>g x σ H1 D.nx
theorem a3{i:Nat}{x:Str}{e:Expr}{te:TE}{pos':Pos}(hN:X.N.Nodup)(hi:X.N[i]? =some x)(hx:Loc X.env.scope x)(he:PE X e te)(hs:swapsWith e (some (.Name x pos')) pos.line X.env=pure false:=by rfl)(hf:X.fn x=true\/X.env.scope.names.lookup x=some .local:=by first|exact .inl rfl|exact .inr rfl|assumption):
  PS X (.Assign [.Name x pos'] e pos) (vo te (tM i)):=by
 intro pins s σ H D I h
 refine wpAny_Assign_Name (aH (he pins s σ H _ I h) fun v s1 hh10=>?_) hs
 obtain⟨y,H1,I1,r1,q1⟩:=hh10
 exact uq I1 hN hi hx r1 (fun s2 I2=>⟨_,H1,I2,q1⟩) hf
def Lj(i:Nat)(te:TE)(ti:tQ):TS:=fun D σ H=>∃x,σ[i]? =some (some x)/\te σ H fun y H1=>ti x y H1 fun z H2=>D.nx (σ.set i (some z)) H2
theorem pQ{i:Nat}{x:Str}{e:Expr}{te:TE}{op:Operator}{ti:tQ}{pos':Pos}(hN:X.N.Nodup)(hi:X.N[i]? =some x)(hx:Loc X.env.scope x)(he:PE X e te)(ho:Es X op ti)(hf:X.fn x=true\/X.env.scope.names.lookup x=some .local:=by first|exact .inl rfl|exact .inr rfl|assumption):
  PS X (.AugAssign (.Name x pos') op e pos) (Lj i te ti):=by
 intro pins s σ H D I h
 obtain⟨v,e1,h⟩:=h
 obtain⟨m,hn,hl⟩:=I.loc
 have vis:kT X.env.scope x:=by rcases hx with k|k;exact .inl k;exact .inr (.inl k)
 obtain⟨u,r,l⟩:=hl i x v hi e1 vis
 refine wpAny_AugAssign_Name ?_
 have go:wpAny (model X.prog X.w) X.A (eval e X.env) (fun w s₂=>wpAny (model X.prog X.w) X.A (inplaceOp op u w) (fun r s₃=>wpAny (model X.prog X.w) X.A (storeName X.env x r) (fun _=>SP X pins D .next) X.xe s₃) X.xe s₂) X.xe s:=by
  refine aH (he pins s σ H _ I h) fun w s1 hh11=>?_
  obtain⟨y,H1,I1,r1,q1⟩:=hh11
  refine aH (ho pins s1 σ H1 v y u w _ I1 r r1 q1) fun z s2 hh12=>?_
  obtain⟨zv,H2,I2,r2,q2⟩:=hh12
  exact uq I2 hN hi hx r2 (fun s3 I3=>⟨_,H2,I3,q2⟩) hf
 rcases l with ⟨hk,hm⟩|⟨hk,c,hc,hcell⟩
 ·exact wpAny_loadName_local I.ok.kind hk hn hm go
 ·rcases hk with hk|hk
  ·exact wpAny_loadName_cell I.ok.kind hk hc hcell go
  ·rcases hx with k|k
   ·have:X.env.scope.names.lookup x=some .free:=hk
    rw[k]at this;cases this
   ·have:X.env.scope.names.lookup x=some .free:=hk
    rw[k]at this;cases this
def Qw(f:Int->Int->Int):tQ:=fun x y H Q=>∃i j,x=.int i/\y=.int j/\Q (.int (f i j)) H
theorem qH:Es X .Add (Qw fun i j=>i+j):=by
 intro pins s σ H x y v u Q I r1 r2 h
 obtain⟨i,j,e1,e2,q⟩:=h
 subst e1;subst e2
 obtain⟨t,rfl⟩:=r1
 obtain⟨t',rfl⟩:=r2
 exact iadd_int ⟨.int _,H,I.tok _,⟨_,rfl⟩,q⟩
end
section
variable {X:Cx}{pos:Pos}
def HA(c:TT)(tb:TS):TS:=fun D σ H=>∃W:Nat->St->Hp->Prop,(∃m,W m σ H)/\∀m σ H,W m σ H->
 c σ H fun b H1=>if b=true then ∃N:St->Hp->Prop,(∀σ' H',N σ' H'->∃m',m'<m/\W m' σ' H')/\tb {D with nx:=N,ct:=N,bk:=D.nx} σ H1 else D.nx σ H1
theorem gN{c:Expr}{body:List Stmt}{tc:TT}{tb:TS}(hp:PassesOwn (model X.prog X.w) X.A X.env X.xe)(hc:PT X c tc)(hb:d9 X body tb):PS X (.While c body [] pos) (HA tc tb):=by
 intro pins s σ H D I h
 obtain⟨W,⟨m0,w0⟩,turn⟩:=h
 refine wpAny_While (codeAny_whileLoop (fun n s'=>∃σ' H',Inv X pins σ' H' s'/\W n σ' H') ?_ m0 ⟨σ,H,I,w0⟩)
 rintro n s1 ⟨σ1,H1,I1,w1⟩
 refine wpAny_passesOwn hp (aH (hc pins s1 σ1 H1 _ I1 (turn n σ1 H1 w1)) fun b s2 hh13=>?_)
 obtain⟨H2,I2,q2⟩:=hh13
 cases b with
 |true=>
  obtain⟨N,hN,q2⟩:=q2
  rw[if_pos rfl]
  refine wpAny_passesOwn hp (aH (hb pins s2 σ1 H2 _ I2 q2) fun f s3 q3=>?_)
  cases f with
  |next=>
   obtain⟨σ3,H3,I3,n3⟩:=q3
   obtain⟨m',hm,w3⟩:=hN σ3 H3 n3
   exact⟨m',hm,σ3,H3,I3,w3⟩
  |cont=>
   obtain⟨σ3,H3,I3,n3⟩:=q3
   obtain⟨m',hm,w3⟩:=hN σ3 H3 n3
   exact⟨m',hm,σ3,H3,I3,w3⟩
  |brk=>exact q3
  |ret v=>exact q3
 |false=>
  rw[if_neg Bool.false_ne_true]
  exact wpAny_execs_nil ⟨σ1,H2,I2,q2⟩
end
structure It where
 go:Nat->Hp->Prop
 sh:Nat->Hp->V->Hp->Prop
 stop:Nat->Hp->Prop
def gy(X:Cx)(pins:List (Addr×Obj))(H:Hp)(b:Addr):Prop:=
 H b=none/\b≠X.env.locals/\b∉X.fs/\(b∈X.ex\/X.cn.heap.objs.size<=b)/\(∀x c,X.env.cells.lookup x=some c->c≠b)/\∀p∈X.pn++pins,p.1≠b
theorem Inv.zE{X:Cx}{pins:List (Addr×Obj)}{σ:St}{H H':Hp}{s:Shared}{b:Addr}(I:Inv X pins σ H s)(hb:s.heap.objs.size<=b)(hn:H' b=none):gy X pins H' b:=by
 refine⟨hn,Nat.ne_of_gt (Nat.lt_of_lt_of_le I.lt hb),I.Kq hb,.inr (Nat.le_trans I.sz hb),fun x c e z=>?_,fun p hp z=>?_⟩
 ·obtain⟨v,q⟩:=I.cell x c e
  exact absurd (Nat.lt_of_lt_of_le q.lt (by rw[z];exact hb)) (Nat.lt_irrefl _)
 ·exact absurd (Nat.lt_of_lt_of_le (Heap.lt_size (I.pin p hp).1) (by rw[z];exact hb)) (Nat.lt_irrefl _)
structure Turn(P:Program)(w:World)(K:PySem.W.Frag)(tg:Expr)(J:It)(fp:List Addr)(it:Addr)(tn:Nat->Heap->Prop):Prop where
 mem:it∈fp
 obj:∀i h,tn i h->∀b∈fp,∃o,h.get? b=some o/\∀v,o.data≠ .cell v
 keep:∀i h h',tn i h->(∀b∈fp,∀o,h.get? b=some o->h'.get? b=some o)->tn i h'
 item:∀(X:Cx),X.prog=P->X.w=w->X.K=K->X.calm=true->∀(i:Nat)(pins:List (Addr×Obj))(s:Shared)(σ:St)(H:Hp)(E:Value->Shared->Prop),Inv X pins σ H s->(∀b∈fp,gy X pins H b)->tn i s.heap->J.go i H->
  wpAny (model P w) X.A (pyNext (.ref it)) (fun r s1=>∃u,r=some u/\
   wpAny (model P w) X.A (letOwnedTupleGo tg (.ref it) u) (fun _ s2=>∃x H',Inv X pins σ H' s2/\RelV x u/\J.sh i H x H'/\tn (i+1) s2.heap/\∀b∈fp,H' b=none) E s1) E s
 done:∀(X:Cx),X.prog=P->X.w=w->X.K=K->X.calm=true->∀(i:Nat)(pins:List (Addr×Obj))(s:Shared)(σ:St)(H:Hp)(E:Value->Shared->Prop),Inv X pins σ H s->(∀b∈fp,gy X pins H b)->tn i s.heap->J.stop i H->
  wpAny (model P w) X.A (pyNext (.ref it)) (fun r s1=>r=none/\Inv X pins σ H s1) E s
 self:∀(A:Around)(i:Nat)(s:Shared)(Q:Value->Shared->Prop)(E:Value->Shared->Prop),tn i s.heap->Q (.ref it) s->wpAny (model P w) A (pyIter (.ref it)) Q E s
abbrev TI:=St->Hp->(It->Hp->Prop)->Prop
def Lg(X:Cx)(pins:List (Addr×Obj))(σ:St)(tg:Expr)(R:It->Hp->Prop)(itv:Value)(s2:Shared):Prop:=
 ∃(it:Addr)(fp:List Addr)(tn:Nat->Heap->Prop)(J:It)(H':Hp),itv=.ref it/\Inv X pins σ H' s2/\Turn X.prog X.w X.K tg J fp it tn/\tn 0 s2.heap/\(∀b∈fp,gy X pins H' b)/\R J H'
def PI(X:Cx)(tg iter:Expr)(wi:TI):Prop:=
 ∀(pins:List (Addr×Obj))(s:Shared)(σ:St)(H:Hp)(R:It->Hp->Prop),Inv X pins σ H s->wi σ H R->
  wpAny (model X.prog X.w) X.A (eval iter X.env) (fun v s1=>wpAny (model X.prog X.w) X.A (pyIter v) (Lg X pins σ tg R) X.xe s1) X.xe s
theorem MW{M:Model}{A:Around}{E:Value->Shared->Prop}{s:Shared}{tg:Expr}{it:Addr}{u:Value}{o:Obj}{n:String}{vs:Array Value}{Q:Unit->Shared->Prop}(ho:s.heap.get? it=some o)(hc:o.cls=.type n)(hd:o.data=.fields vs)
  (hn:["enumerate","zip","dict_itemiterator","dict_reverseitemiterator","odict_iterator","itertools.zip_longest","itertools.pairwise"].contains n=false) (hQ:Q () s):wpAny M A (letOwnedTupleGo tg (.ref it) u) Q E s:=by
 unfold letOwnedTupleGo
 cases tg<;>first
  |exact wpAny_pure hQ
  |(cases u<;>first
    |exact wpAny_pure hQ
    |(refine wpAny_bind (wpAny_load ho ?_)
      rw[hc,hd]
      show wpAny M A (if(["enumerate","zip","dict_itemiterator","dict_reverseitemiterator","odict_iterator","itertools.zip_longest","itertools.pairwise"].contains n&&vs[0]? ==some (rawInt _))=true then _ else _) Q E s
      rw[if_neg (by intro h;rw[hn,Bool.false_and]at h;cases h)]
      exact wpAny_pure hQ))
def r8(K:PySem.W.Frag)(a:Addr):It:=
 ⟨fun i H=>∃xs x,aM K H a xs/\xs[i]? =some x,fun i H x H'=>H'=H/\∀xs,aM K H a xs->xs[i]? =some x,fun i H=>∃xs,aM K H a xs/\xs.length<=i⟩
theorem Mz{P:Program}{w:World}{K:PySem.W.Frag}{tg:Expr}(a it:Addr):Turn P w K tg (r8 K a) [it] it (fun i h=>h.IsListIter it a i) where
 mem:=by simp
 obj:=fun i h st b hb=>by
  have e:b=it:=by simpa using hb
  subst e
  obtain⟨o,e,c,d⟩:=st
  exact⟨o,e,fun v z=>by rw[d]at z;cases z⟩
 keep:=fun i h h' st k=>st.at fun o e=>k it (by simp) o e
 item:=by
  intro X hP hw hK hc i pins s σ H E I hf st hg
  subst hP hw hK
  obtain⟨xs,x,hq,hx⟩:=hg
  obtain⟨its,rv,p,hz⟩:=I.list hq
  obtain⟨u,hu,ru⟩:=rv.get hx
  obtain⟨f0,f1,f2,f3,f4,f5⟩:=hf it (by simp)
  refine wpAny_pyNext_list_item st p.isList (x:=u) (by simpa using hu) fun h' st' sb=>?_
  have I1:Inv X pins σ H {s with heap:=h'}:=I.turned (t':=s.toks) (fun b o hb e=>(sb.2 b hb).trans e) f0 f1 f3 f4 f5
  obtain⟨o,e,c,d⟩:=id st'
  exact⟨u,rfl,MW (s:={s with heap:=h'}) e c d (by decide) ⟨x,H,I1,ru,⟨rfl,fun ys hy=>by rw[I.Bw hy hq];exact hx⟩,st',fun b hb=>(hf b hb).1⟩⟩
 done:=by
  intro X hP hw hK hc i pins s σ H E I hf st hg
  subst hP hw hK
  obtain⟨xs,hq,hx⟩:=hg
  obtain⟨its,rv,p,hz⟩:=I.list hq
  obtain⟨f0,f1,f2,f3,f4,f5⟩:=hf it (by simp)
  have hl:=rv.length
  exact wpAny_pyNext_list_end (I.ok.hd hc) st p.isList (by simp;lia) fun h' eb=>⟨rfl,I.turned (t':=s.toks) (fun b o hb e=>eb b o hb e) f0 f1 f3 f4 f5⟩
 self:=fun _ _ _ _ _ st h=>wpAny_pyIter_listiter st h
end L2
namespace L2
open PySem PySem.Spec PyProof.Rows
section
variable {X:Cx}{tg:Expr}
def MZ(K:PySem.W.Frag)(tl:TE):TI:=fun σ H R=>tl σ H fun x H1=>∃a,x=.ref a/\(∃xs,aM K H1 a xs)/\R (r8 K a) H1
theorem MN{l:Expr}{tl:TE}(hl:PE X l tl):PI X tg l (MZ X.K tl):=by
 intro pins s σ H R I h
 refine aH (hl pins s σ H _ I h) fun v s1 hh14=>?_
 obtain⟨x,H1,I1,r1,q1⟩:=hh14
 obtain⟨a,e,⟨xs,hq⟩,q⟩:=q1
 subst e
 cases r1
 obtain⟨its,rv,p,hz⟩:=I1.list hq
 refine wpAny_pyIter_list p.isList ?_
 refine⟨s1.heap.objs.size,[s1.heap.objs.size],_,_,H1,rfl,I1.kept (t':=s1.toks) fun b o e=>Heap.get?_push_of_some _ e,Mz a _,⟨_,Heap.get?_push_size _ rfl,rfl,rfl⟩,fun b hb=>?_,q⟩
 have e:b=s1.heap.objs.size:=by simpa using hb
 subst e
 exact I1.zE (Nat.le_refl _) (I1.az.fresh (Nat.le_refl _))
def OC(wi:TI)(g:TG)(tb:TS):TS:=fun D σ H=>wi σ H fun J H1=>∃W:Nat->Nat->St->Hp->Prop,(∃m,W 0 m σ H1)/\∀i m σ H,W i m σ H->
 (J.stop i H/\D.nx σ H)\/(J.go i H/\∃N:St->Hp->Prop,(∀σ' H',N σ' H'->∃m',m'<m/\W (i+1) m' σ' H')/\∀x H',J.sh i H x H'->g x σ H' fun σ2 H2=>tb {D with nx:=N,ct:=N,bk:=D.nx} σ2 H2)
def qF(fp:List Addr)(h:Heap):List (Addr×Obj):=fp.filterMap fun b=>(h.get? b).map fun o=>(b,o)
theorem Ab{fp:List Addr}{h:Heap}{b:Addr}{o:Obj}(hb:b∈fp)(e:h.get? b=some o):(b,o)∈qF fp h:=List.mem_filterMap.mpr ⟨b,hb,by rw[e];rfl⟩
theorem J9{fp:List Addr}{h:Heap}{p:Addr×Obj}(hp:p∈qF fp h):p.1∈fp/\h.get? p.1=some p.2:=by
 obtain⟨b,hb,e⟩:=List.mem_filterMap.mp hp
 cases q:h.get? b with
 |none=>rw[q]at e;cases e
 |some o=>
  rw[q]at e
  have e':(b,o)=p:=Option.some.inj e
  subst e'
  exact⟨hb,q⟩
theorem Inv.pinned{pins:List (Addr×Obj)}{σ:St}{H:Hp}{s:Shared}{fp:List Addr}(I:Inv X pins σ H s)(hf:∀b∈fp,gy X pins H b)(ho:∀b∈fp,∃o,s.heap.get? b=some o/\∀v,o.data≠ .cell v):Inv X (pins++qF fp s.heap) σ H s:=
 I.He fun p hp=>(List.mem_append.mp hp).elim (fun z=>I.pin p (List.mem_append_right _ z)) fun z=>by
  obtain⟨hb,e⟩:=J9 z
  obtain⟨f0,f1,f2,_⟩:=hf p.1 hb
  obtain⟨o,e',d⟩:=ho p.1 hb
  rw[e]at e';cases e'
  exact⟨e,f0,f1,f2,d⟩
theorem Inv.tT{pins pl:List (Addr×Obj)}{σ:St}{H:Hp}{s:Shared}(I:Inv X (pins++pl) σ H s):Inv X pins σ H s:=I.He fun p hp=>I.pin p (List.mem_append_right _ (List.mem_append_left _ hp))
theorem KP{iter:Expr}{body:List Stmt}{wi:TI}{g:TG}{tb:TS}{pos:Pos}(hp:PassesOwn (model X.prog X.w) X.A X.env X.xe)(hc:X.calm=true)(hi:PI X tg iter wi)(hg:PG X tg g)(hb:d9 X body tb)
  (hs:∀x,foldedSetIterable iter X.env x=pure x:=by intro _;rfl):PS X (.For tg iter body [] pos) (OC wi g tb):=by
 intro pins s σ H D I h
 refine wpAny_For (aH (hi pins s σ H _ I h) fun v s1 h1=>aH h1 fun itv s2 h2=>?_) hs
 obtain⟨it,fp,tn,J,H2,e,I2,T,st2,f2,W,⟨m0,w0⟩,turn⟩:=h2
 subst e
 -- what stays true of the iterator's objects through the loop
 have stat:∀{H':Hp},(∀b∈fp,H' b=none)->∀b∈fp,gy X pins H' b:=fun hn b hb=>⟨hn b hb,(f2 b hb).2⟩
 refine codeAny_forLoop_any (fun n s'=>∃i σ' H',Inv X pins σ' H' s'/\tn i s'.heap/\(∀b∈fp,H' b=none)/\W i n σ' H') ?_ m0 ⟨0,σ,H2,I2,st2,fun b hb=>(f2 b hb).1,w0⟩
 rintro n s3 ⟨i,σ3,H3,I3,st3,fr3,w3⟩
 rcases turn i n σ3 H3 w3 with ⟨stop,qn⟩|⟨go,N,hN,step⟩
 ·refine wpAny_passesOwn hp (aH (T.done X rfl rfl rfl hc i pins s3 σ3 H3 X.xe I3 (stat fr3) st3 stop) fun r s4 hh15=>?_)
  obtain⟨hr,I4⟩:=hh15
  subst hr
  exact wpAny_execs_nil ⟨σ3,H3,I4,qn⟩
 ·refine wpAny_passesOwn hp (aH (T.item X rfl rfl rfl hc i pins s3 σ3 H3 X.xe I3 (stat fr3) st3 go) fun r s4 hh16=>?_)
  obtain⟨u,hr,h4⟩:=hh16
  subst hr
  refine wpAny_passesOwn hp (aH h4 fun _ s5 hh17=>?_)
  obtain⟨x,H5,I5,r5,y5,st5,fr5⟩:=hh17
  have I5':=I5.pinned (stat fr5) (T.obj _ _ st5)
  refine wpAny_passesOwn hp (aH (hg _ s5 σ3 H5 x u _ I5' r5 (step x H5 y5)) fun _ s6 hh18=>?_)
  obtain⟨σ6,H6,I6,q6⟩:=hh18
  refine wpAny_passesOwn hp (aH (hb _ s6 σ6 H6 _ I6 q6) fun f s7 q7=>?_)
  have again:∀{σ7:St}{H7:Hp},Inv X (pins++qF fp s5.heap) σ7 H7 s7->N σ7 H7->∃m,m<n/\∃i σ' H',Inv X pins σ' H' s7/\tn i s7.heap/\(∀b∈fp,H' b=none)/\W i m σ' H':=fun{σ7 H7}I7 n7=>by
   obtain⟨m',hm,w7⟩:=hN σ7 H7 n7
   refine⟨m',hm,i+1,σ7,H7,I7.tT,T.keep _ _ _ st5 fun b hb o e=>(I7.pin (b,o) (List.mem_append_right _ (List.mem_append_right _ (Ab hb e)))).1,fun b hb=>?_,w7⟩
   obtain⟨o,e,d⟩:=T.obj _ _ st5 b hb
   exact(I7.pin (b,o) (List.mem_append_right _ (List.mem_append_right _ (Ab hb e)))).2.1
  cases f with
  |next=>obtain⟨σ7,H7,I7,n7⟩:=q7;exact again I7 n7
  |cont=>obtain⟨σ7,H7,I7,n7⟩:=q7;exact again I7 n7
  |brk=>obtain⟨σ7,H7,I7,q7⟩:=q7;exact⟨σ7,H7,I7.tT,q7⟩
  |ret v=>obtain⟨x7,σ7,H7,I7,r7,q7⟩:=q7;exact⟨x7,σ7,H7,I7.tT,r7,q7⟩
end
end L2
namespace L2
open PySem PySem.Spec PyProof.Rows
abbrev R2:=V->V->Hp->VK->Prop
def dH(X:Cx)(f:Value->Value->Sem Value)(r:R2):Prop:=
 ∀(pins:List (Addr×Obj))(s:Shared)(σ:St)(H:Hp)(x y:V)(v u:Value)(Q:VK),Inv X pins σ H s->RelV x v->RelV y u->r x y H Q->
  wpAny (model X.prog X.w) X.A (f v u) (EP X pins σ Q) X.xe s
def AA(X:Cx)(f:Value->Sem Value)(r:V->Hp->VK->Prop):Prop:=
 ∀(pins:List (Addr×Obj))(s:Shared)(σ:St)(H:Hp)(x:V)(v:Value)(Q:VK),Inv X pins σ H s->RelV x v->r x H Q->
  wpAny (model X.prog X.w) X.A (f v) (EP X pins σ Q) X.xe s
def kN(X:Cx)(f:Value)(r:List V->Hp->VK->Prop):Prop:=
 ∀(pins:List (Addr×Obj))(s:Shared)(σ:St)(H:Hp)(xs:List V)(us:List Value)(Q:VK),Inv X pins σ H s->aW xs us->r xs H Q->
  wpAny (model X.prog X.w) X.A (call f us) (EP X pins σ Q) X.xe s
def eF(r:R2)(ta tb:TE):TE:=fun σ H Q=>ta σ H fun x H1=>tb σ H1 fun y H2=>r x y H2 Q
def N3(r:V->Hp->VK->Prop)(ta:TE):TE:=fun σ H Q=>ta σ H fun x H1=>r x H1 Q
def rI(C:Int->Int->Prop)(g:Int->Int->V):R2:=fun x y H Q=>∃i j,x=.int i/\y=.int j/\C i j/\Q (g i j) H
def ib(g:Int->Int->V):R2:=fun x y H Q=>∃i j,x=.int i/\y=.int j/\Q (g i j) H
def rU(g:Int->V):V->Hp->VK->Prop:=fun x H Q=>∃i,x=.int i/\Q (g i) H
section
variable {X:Cx}{a b c:Expr}{ta tb tc:TE}{pos:Pos}
theorem A5(ha:PE X a ta)(hb:PE X b tb){pins:List (Addr×Obj)}{s:Shared}{σ:St}{H:Hp}{R:V->V->Hp->Prop}(I:Inv X pins σ H s)
  (h:ta σ H fun x H1=>tb σ H1 fun y H2=>R x y H2) {Q:Value->Shared->Prop} {f:Value->Value->Sem Value}
  (hf:∀v u s2 x y H2,Inv X pins σ H2 s2->RelV x v->RelV y u->R x y H2->wpAny (model X.prog X.w) X.A (f v u) Q X.xe s2):
  wpAny (model X.prog X.w) X.A (eval a X.env) (fun v s₁=>wpAny (model X.prog X.w) X.A (eval b X.env) (fun u s₂=>wpAny (model X.prog X.w) X.A (f v u) Q X.xe s₂) X.xe s₁) X.xe s:=by
 refine aH (ha pins s σ H _ I h) fun v s1 hh19=>?_
 obtain⟨x,H1,I1,r1,q1⟩:=hh19
 refine aH (hb pins s1 σ H1 _ I1 q1) fun u s2 hh20=>?_
 obtain⟨y,H2,I2,r2,q2⟩:=hh20
 exact hf v u s2 x y H2 I2 r1 r2 q2
theorem gM{op:Operator}{r:R2}(ho:dH X (binaryOp op) r)(ha:PE X a ta)(hb:PE X b tb):PE X (.BinOp a op b pos) (eF r ta tb):=by
 intro pins s σ H Q I h
 exact wpAny_BinOp (A5 ha hb I h fun v u s2 x y H2 I2 rx ry q=>ho pins s2 σ H2 x y v u Q I2 rx ry q)
theorem QI{op:UnaryOp}{r:V->Hp->VK->Prop}(ho:AA X (unaryOp op) r)(ha:PE X a ta):PE X (.UnaryOp op a pos) (N3 r ta):=by
 intro pins s σ H Q I h
 exact UnaryOp_ (aH (ha pins s σ H _ I h) fun v s1⟨x,H1,I1,r1,q1⟩=>ho pins s1 σ H1 x v Q I1 r1 q1)
theorem Lv{f:Value->Value->Sem Value}{C:Int->Int->Prop}{g:Int->Int->Int}
  (rule:∀(i j:Int)(t u:Tok)(s:Shared)(Q:Value->Shared->Prop)(E:Value->Shared->Prop),C i j->Q (.int (g i j) s.toks) {s with toks:=s.toks+1}->wpAny (model X.prog X.w) X.A (f (.int i t) (.int j u)) Q E s):
  dH X f (rI C fun i j=>.int (g i j)):=by
 intro pins s σ H x y v u Q I rx ry h
 obtain⟨i,j,rfl,rfl,hc,q⟩:=h
 obtain⟨t,rfl⟩:=rx
 obtain⟨t',rfl⟩:=ry
 exact rule i j t t' s _ _ hc ⟨.int (g i j),H,I.tok _,⟨_,rfl⟩,q⟩
theorem HJ{f:Value->Value->Sem Value}{g:Int->Int->Int}
  (rule:∀(i j:Int)(t u:Tok)(s:Shared)(Q:Value->Shared->Prop)(E:Value->Shared->Prop),Q (.int (g i j) s.toks) {s with toks:=s.toks+1}->wpAny (model X.prog X.w) X.A (f (.int i t) (.int j u)) Q E s):
  dH X f (ib fun i j=>.int (g i j)):=by
 intro pins s σ H x y v u Q I rx ry h
 obtain⟨i,j,rfl,rfl,q⟩:=h
 obtain⟨t,rfl⟩:=rx
 obtain⟨t',rfl⟩:=ry
 exact rule i j t t' s _ _ ⟨.int (g i j),H,I.tok _,⟨_,rfl⟩,q⟩
theorem xK{f:Value->Value->Sem Value}{g:Int->Int->Bool}
  (rule:∀(i j:Int)(t u:Tok)(s:Shared)(Q:Value->Shared->Prop)(E:Value->Shared->Prop),Q (.bool (g i j)) s->wpAny (model X.prog X.w) X.A (f (.int i t) (.int j u)) Q E s):
  dH X f (ib fun i j=>.bl (g i j)):=by
 intro pins s σ H x y v u Q I rx ry h
 obtain⟨i,j,rfl,rfl,q⟩:=h
 obtain⟨t,rfl⟩:=rx
 obtain⟨t',rfl⟩:=ry
 exact rule i j t t' s _ _ ⟨.bl (g i j),H,I,rfl,q⟩
def zm(i j:Int):Prop:=(-(2^64)<i/\i<2^64)\/(-(2^64)<j/\j<2^64)
theorem zm.ok{i j:Int}(h:zm i j):IntMulOk i j:=by
 rcases h with ⟨h1,h2⟩|⟨h1,h2⟩
 ·exact .of_left (intBits_le_64 h1 h2)
 ·exact .of_right (intBits_le_64 h1 h2)
theorem jF:dH X (binaryOp .Add) (ib fun i j=>.int (i+j)):=HJ fun _ _ _ _ _ _ _ q=>add_int q
theorem AK:dH X (binaryOp .Sub) (ib fun i j=>.int (i-j)):=HJ fun _ _ _ _ _ _ _ q=>sub_int q
theorem Nw:dH X (binaryOp .Mult) (rI zm fun i j=>.int (i*j)):=Lv fun _ _ _ _ _ _ _ hc q=>mul_int q hc.ok
theorem LS{f:Value->Sem Value}{g:Int->Int}
  (rule:∀(i:Int)(t:Tok)(s:Shared)(Q:Value->Shared->Prop)(E:Value->Shared->Prop),Q (.int (g i) s.toks) {s with toks:=s.toks+1}->wpAny (model X.prog X.w) X.A (f (.int i t)) Q E s):
  AA X f (rU fun i=>.int (g i)):=by
 intro pins s σ H x v Q I rx h
 obtain⟨i,rfl,q⟩:=h
 obtain⟨t,rfl⟩:=rx
 exact rule i t s _ _ ⟨.int (g i),H,I.tok _,⟨_,rfl⟩,q⟩
theorem La:AA X (unaryOp .USub) (rU fun i=>.int (-i)):=LS fun _ _ _ _ _ q=>neg_int q
end
def Fj:V->V->Bool
 | .ay,.ay=>true| .ay,.int _=>true| .int _,.ay=>true| .ay,.bl _=>true| .bl _,.ay=>true| .ay,.str _=>true| .str _,.ay=>true
 | .int _,.int _=>true| .bl _,.bl _=>true| .str _,.str _=>true| .eJ _,.eJ _=>true
 | .int _,.str _=>true| .str _,.int _=>true| .bl _,.str _=>true| .str _,.bl _=>true
 |_,_=>false
def Af:R2:=fun x y H Q=>Fj x y=true/\Q (.bl (decide (x=y))) H
def Lb:R2:=fun x y H Q=>Fj x y=true/\Q (.bl (!decide (x=y))) H
theorem B1{i j:Int}:decide (V.int i=V.int j)=(i==j):=by
 rw[Bool.eq_iff_iff]
 simp
theorem G6{i j:Bool}:decide (V.bl i=V.bl j)=(i==j):=by
 rw[Bool.eq_iff_iff]
 simp
theorem lJ{i j:Str}:decide (V.str i=V.str j)=(i==j):=by
 rw[Bool.eq_iff_iff]
 simp
theorem C2{i j:Array UInt8}:decide (V.eJ i=V.eJ j)=(i.toList==j.toList):=by
 rw[Bool.eq_iff_iff]
 cases i
 cases j
 simp
section
variable {X:Cx}{a b c:Expr}{ta tb tc:TE}{pos:Pos}
theorem cq{pins:List (Addr×Obj)}{σ:St}{H:Hp}{s:Shared}{Q:VK}{k k':Bool}(I:Inv X pins σ H s)(q:Q (.bl k) H)(e:k=k'):EP X pins σ Q (.bool k') s:=by
 subst e
 exact⟨.bl k,H,I,rfl,q⟩
theorem cp:dH X (compareOp .Eq) Af:=by
 intro pins s σ H x y v u Q I rx ry h
 obtain⟨hs,q⟩:=h
 cases x with
 |ay=>
  cases rx
  cases y with
  |ay=>cases ry;exact PySem.EqNone.eq_none_none (cq I q (by simp))
  |bl j=>cases ry;exact PySem.EqNone.eq_none_bool (cq I q (by simp))
  |int j=>obtain⟨t',rfl⟩:=ry;exact PySem.EqNone.eq_none_int (cq I q (by simp))
  |str j=>obtain⟨t',rfl⟩:=ry;exact PySem.EqNone.eq_none_str (cq I q (by simp))
  |_=>exact absurd (show false=true from hs) Bool.false_ne_true
 |bl i=>
  cases rx
  cases y with
  |ay=>cases ry;exact PySem.EqNone.eq_bool_none (cq I q (by simp))
  |bl j=>cases ry;exact eq_bool (cq I q G6)
  |str j=>obtain⟨t',rfl⟩:=ry;exact PySem.EqMixed.eq_bool_str (cq I q (by simp))
  |_=>exact absurd (show false=true from hs) Bool.false_ne_true
 |int i=>
  obtain⟨t,rfl⟩:=rx
  cases y with
  |ay=>cases ry;exact PySem.EqNone.eq_int_none (cq I q (by simp))
  |int j=>obtain⟨t',rfl⟩:=ry;exact eq_int (cq I q B1)
  |str j=>obtain⟨t',rfl⟩:=ry;exact PySem.EqMixed.eq_int_str (cq I q (by simp))
  |_=>exact absurd (show false=true from hs) Bool.false_ne_true
 |str i=>
  obtain⟨t,rfl⟩:=rx
  cases y with
  |ay=>cases ry;exact PySem.EqNone.eq_str_none (cq I q (by simp))
  |bl j=>cases ry;exact PySem.EqMixed.eq_str_bool (cq I q (by simp))
  |int j=>obtain⟨t',rfl⟩:=ry;exact PySem.EqMixed.eq_str_int (cq I q (by simp))
  |str j=>obtain⟨t',rfl⟩:=ry;exact eq_str (cq I q lJ)
  |_=>exact absurd (show false=true from hs) Bool.false_ne_true
 |eJ i=>
  obtain⟨t,rfl⟩:=rx
  cases y with
  |eJ j=>obtain⟨t',rfl⟩:=ry;exact PySem.W.eq_bytes (cq I q C2)
  |_=>exact absurd (show false=true from hs) Bool.false_ne_true
 |_=>cases y<;>exact absurd (show false=true from hs) Bool.false_ne_true
theorem j4:dH X (compareOp .NotEq) Lb:=by
 intro pins s σ H x y v u Q I rx ry h
 obtain⟨hs,q⟩:=h
 cases x with
 |ay=>
  cases rx
  cases y with
  |ay=>cases ry;exact PySem.EqNone.ne_none_none (cq I q (by simp))
  |bl j=>cases ry;exact PySem.EqNone.ne_none_bool (cq I q (by simp))
  |int j=>obtain⟨t',rfl⟩:=ry;exact PySem.EqNone.ne_none_int (cq I q (by simp))
  |str j=>obtain⟨t',rfl⟩:=ry;exact PySem.EqNone.ne_none_str (cq I q (by simp))
  |_=>exact absurd (show false=true from hs) Bool.false_ne_true
 |bl i=>
  cases rx
  cases y with
  |ay=>cases ry;exact PySem.EqNone.ne_bool_none (cq I q (by simp))
  |bl j=>cases ry;exact ne_bool (cq I q (congrArg not G6))
  |str j=>obtain⟨t',rfl⟩:=ry;exact PySem.EqMixed.ne_bool_str (cq I q (by simp))
  |_=>exact absurd (show false=true from hs) Bool.false_ne_true
 |int i=>
  obtain⟨t,rfl⟩:=rx
  cases y with
  |ay=>cases ry;exact PySem.EqNone.ne_int_none (cq I q (by simp))
  |int j=>obtain⟨t',rfl⟩:=ry;exact ne_int (cq I q (congrArg not B1))
  |str j=>obtain⟨t',rfl⟩:=ry;exact PySem.EqMixed.ne_int_str (cq I q (by simp))
  |_=>exact absurd (show false=true from hs) Bool.false_ne_true
 |str i=>
  obtain⟨t,rfl⟩:=rx
  cases y with
  |ay=>cases ry;exact PySem.EqNone.ne_str_none (cq I q (by simp))
  |bl j=>cases ry;exact PySem.EqMixed.ne_str_bool (cq I q (by simp))
  |int j=>obtain⟨t',rfl⟩:=ry;exact PySem.EqMixed.ne_str_int (cq I q (by simp))
  |str j=>obtain⟨t',rfl⟩:=ry;exact ne_str (cq I q (congrArg not lJ))
  |_=>exact absurd (show false=true from hs) Bool.false_ne_true
 |eJ i=>
  obtain⟨t,rfl⟩:=rx
  cases y with
  |eJ j=>obtain⟨t',rfl⟩:=ry;exact PySem.W.ne_bytes (cq I q (congrArg not C2))
  |_=>exact absurd (show false=true from hs) Bool.false_ne_true
 |_=>cases y<;>exact absurd (show false=true from hs) Bool.false_ne_true
theorem lp:dH X (compareOp .Lt) (ib fun i j=>.bl (decide (i<j))):=xK fun _ _ _ _ _ _ _ q=>lt_int q
theorem rm:dH X (compareOp .LtE) (ib fun i j=>.bl (decide (i<=j))):=xK fun _ _ _ _ _ _ _ q=>le_int q
theorem jO:dH X (compareOp .Gt) (ib fun i j=>.bl (decide (j<i))):=xK fun _ _ _ _ _ _ _ q=>gt_int q
theorem rf:dH X (compareOp .Is) (fun x y H Q=>y=.ay/\Q (.bl (decide (x=.ay))) H):=by
 intro pins s σ H x y v u Q I rx ry h
 obtain⟨rfl,q⟩:=h
 cases ry
 refine is_none_gen (cq I q ?_)
 cases x<;>first
  |(cases rx;rfl)
  |(obtain⟨t,rfl⟩:=rx;rfl)
theorem aZ(b:Expr){op:CmpOp}(h:op≠ .In:=by decide)(h2:op≠ .NotIn:=by decide):behindInMarks op b=false:=by
 have e1:(op==CmpOp.In)=false:=by cases op<;>first|rfl|exact absurd rfl h
 have e2:(op==CmpOp.NotIn)=false:=by cases op<;>first|rfl|exact absurd rfl h2
 cases b<;>simp[behindInMarks,e1,e2]
theorem gO{op:CmpOp}{r:R2}(ho:dH X (compareOp op) r)(ha:PE X a ta)(hb:PE X b tb)(hm:behindInMarks op b=false):PE X (.Compare a [op] [b] pos) (eF r ta tb):=by
 intro pins s σ H Q I h
 exact wpAny_Compare1 (A5 ha hb I h fun v u s2 x y H2 I2 rx ry q=>ho pins s2 σ H2 x y v u Q I2 rx ry q) hm
def iF(t:TE):TT:=fun σ H Q=>t σ H fun x H'=>∃k,x=.bl k/\Q k H'
theorem a5{op:CmpOp}{r:R2}(ho:dH X (compareOp op) r)(ha:PE X a ta)(hb:PE X b tb)(hm:behindInMarks op b=false):PT X (.Compare a [op] [b] pos) (iF (eF r ta tb)):=by
 intro pins s σ H Q I h
 refine wpAny_isTrue_Compare1 (aH (ha pins s σ H _ I h) fun v s1⟨x,H1,I1,r1,q1⟩=>aH (hb pins s1 σ H1 _ I1 q1) fun u s2⟨y,H2,I2,r2,q2⟩=>
  aH (ho pins s2 σ H2 x y v u _ I2 r1 r2 q2) fun c s3⟨z,H3,I3,r3,k,e,q3⟩=>?_) hm
 subst e
 cases r3
 exact wpAny_truthy_bool ⟨H3,I3,q3⟩
def Po(r r':R2)(ta tb tc:TE):TE:=fun σ H Q=>ta σ H fun x H1=>tb σ H1 fun y H2=>r x y H2 fun z H3=>∃k,z=.bl k/\
 (if k=true then tc σ H3 fun w' H4=>r' y w' H4 Q else Q (.bl false) H3)
theorem DW{op op':CmpOp}{r r':R2}(ho:dH X (compareOp op) r)(ho':dH X (compareOp op') r')(ha:PE X a ta)(hb:PE X b tb)(hc:PE X c tc)
  (hm:lastMarks [op,op'] [b,c]=false:=by with_unfolding_all rfl):PE X (.Compare a [op,op'] [b,c] pos) (Po r r' ta tb tc):=by
 intro pins s σ H Q I h
 refine Compare_chain (aH (ha pins s σ H _ I h) fun v s1⟨x,H1,I1,r1,q1⟩=>chain_link (aH (hb pins s1 σ H1 _ I1 q1) fun u s2⟨y,H2,I2,r2,q2⟩=>
  aH (ho pins s2 σ H2 x y v u _ I2 r1 r2 q2) fun d s3⟨z,H3,I3,r3,k,e,q3⟩=>?_)) hm
 subst e
 cases r3
 refine wpAny_truthy_bool ?_
 cases k with
 |false=>exact ite_ff ⟨.bl false,H3,I3,rfl,q3⟩
 |true=>exact ite_tt (chain_last (aH (hc pins s3 σ H3 _ I3 q3) fun w' s4⟨z',H4,I4,r4,q4⟩=>ho' pins s4 σ H4 y z' u w' Q I4 r2 r4 q4))
theorem rJ:(sizeLine:Nat)<2^63:=by rw[sizeLine_eq];decide
theorem vals1{x:V}{us:List Value}(r:aW [x] us):∃u,us=[u]/\RelV x u:=by
 cases r with
 |cons r1 r2=>cases r2;exact⟨_,rfl,r1⟩
theorem vals2{x y:V}{us:List Value}(r:aW [x,y] us):∃u w',us=[u,w']/\RelV x u/\RelV y w':=by
 cases r with
 |cons r1 r2=>
  cases r2 with
  |cons r3 r4=>cases r4;exact⟨_,_,rfl,r1,r3⟩
theorem KL(hc:X.calm=true):kN X (.builtin "min") (fun xs H Q=>∃i j,xs=[.int i,.int j]/\Q (.int (if j<i then j else i)) H):=by
 intro pins s σ H xs us Q I r h
 obtain⟨i,j,rfl,q⟩:=h
 obtain⟨u,w',rfl,⟨t,rfl⟩,⟨t',rfl⟩⟩:=vals2 r
 refine min_two_ints (I.ok.hd hc) fun h' tk k=>⟨_,H,I.kept k,?_,q⟩
 by_cases hj:j<i
 ·rw[if_pos hj,if_pos hj];exact⟨_,rfl⟩
 ·rw[if_neg hj,if_neg hj];exact⟨_,rfl⟩
theorem J4:kN X (.type "str") (fun xs H Q=>∃i,xs=[.int i]/\i.natAbs.log2<1920/\Q (.str (toString i)) H):=by
 intro pins s σ H xs us Q I r h
 obtain⟨i,rfl,hz,q⟩:=h
 obtain⟨u,rfl,t,rfl⟩:=vals1 r
 exact PySem.P.str_of_int hz ⟨.str _,H,I.tok _,⟨_,rfl⟩,q⟩
end
end L2
namespace L2
open PySem PySem.Spec PyProof.Rows
structure lW(h:Heap)(x dx C:Addr)(mA:Str->Option Value):Prop where
 obj:h.get? x=some (PySem.W.instObj C dx)
 ns:h.Ns1 dx mA
 ne:dx≠x
theorem C0{h:Heap}{dx:Addr}{mA:Str->Option Value}(n:h.Ns1 dx mA):∃od,h.get? dx=some od/\∀name,PySem.W.lookIn name od=some (mA name):=by
 obtain⟨o,es,ep,ho,hd,hk,_,hm⟩:=n
 refine⟨o,ho,fun name=>?_⟩
 have e:=hm name
 unfold nsFind findBy at e
 rw[<-Array.find?_toList]at e
 unfold PySem.W.lookIn
 rw[hd]
 dsimp only
 split
 ·rename_i y q
  rw[q]at e
  exact congrArg some e
 ·rename_i q
  rw[q]at e
  have a:es.toList.any (·.refKey)=false:=by
   rw[List.any_eq_false]
   intro y hy
   obtain⟨z,t,hkey⟩:=hk y (Array.mem_toList_iff.mp hy)
   simp[DictEntry.refKey,hkey]
  have a':¬es.toList.any (·.refKey)=true:=by rw[a];exact Bool.false_ne_true
  rw[if_neg a']
  exact congrArg some e
theorem lW.look{h:Heap}{x dx C:Addr}{mA:Str->Option Value}(I:lW h x dx C mA):∃od,PySem.W.InstAt h x (PySem.W.instObj C dx) C (some od)/\∀name,PySem.W.lookIn name od=some (mA name):=
 let⟨od,ho,hl⟩:=C0 I.ns
 ⟨od,⟨I.obj,rfl,rfl,ho⟩,hl⟩
section
variable {prog:Program}{w:World}{A:Around}{E:Value->Shared->Prop}{s:Shared}{K:PySem.W.Frag}{x dx C f:Addr}{mA:Str->Option Value}{name:Str}{v:Value}
theorem get_map{expr:Bool}{Q:Value->Shared->Prop}(X:K.In s.heap)(I:lW s.heap x dx C mA)(hg:PySem.W.plainGet K C name=true)(hh:PySem.W.hasDictIn K C=true)
  (ha:PySem.W.findIn K (.ref C) name=some none) (hv:mA name=some v) (hv':PySem.W.handedIn v=true) (h:Q v {s with toks:=s.toks+1}):
  wpAny (model prog w) A (getAttr (.ref x) name expr) Q E s:=by
 obtain⟨od,J,hl⟩:=I.look
 exact PySem.W.get_value X J (PySem.W.plainGet_of hg).1 (PySem.W.findObj_own hh ha rfl (by rw[hl,hv])) hv' h
theorem IQ{pl:Sem Bool}{Q:Value×List Value->Shared->Prop}(X:K.In s.heap)(I:lW s.heap x dx C mA)(hg:PySem.W.plainGet K C name=true)
  (hf:PySem.W.findIn K (.ref C) name=some (some (.ref f))) (ht:PySem.W.isFn K (.ref f)=true) (hv:mA name=none) (h:Q (.ref f,[.ref x]) s):
  wpAny (model prog w) A (getMethod (.ref x) name pl) Q E s:=by
 obtain⟨od,J,hl⟩:=I.look
 exact PySem.W.method_fn X J (PySem.W.plainGet_of hg).1 (PySem.W.plainGet_of hg).2 hf (beq_iff_eq.mp ht) (by show(PySem.W.lookIn name od).map (·.isSome)=some false;rw[hl,hv];rfl) h
theorem PN{ns:List Str}{Q:Unit->Shared->Prop}(X:K.In s.heap)(I:lW s.heap x dx C mA)
  (hs:PySem.W.findIn K (.ref C) "__setattr__"=some (some (.builtin "object.__setattr__"))) (hp:PySem.W.plainOver K C=true) (ht:PySem.W.takerIn K C name=some none) (hh:PySem.W.hasDictIn K C=true)
  (hw:PySem.Within mA ns) (hsz:ns.length<=sizeLine)
  (h:∀h',lW h' x dx C (fun y=>if y=name then some v else mA y)->Heap.SameBut dx s.heap h'->Q () {s with heap:=h',toks:=s.toks+2}):
  wpAny (model prog w) A (setAttr (.ref x) name v) Q E s:=by
 obtain⟨od,J,hl⟩:=I.look
 refine PySem.W.set_plain X J hs (PySem.W.osa_open (s:={s with toks:=s.toks+1}) (r:=none) X J hp ht fun b=>?_)
 obtain⟨cd,hc,hd'⟩:=PySem.W.any_some hh
 have hx:s.heap.get? x=some ⟨.ref C,some dx,.plain,#[]⟩:=I.obj
 refine wpAny_bind (wpAny_pure (wpAny_bind (wpAny_bind (wpAny_loadPart hx (wpAny_bind (PySem.W.Looks.here (s:={s with toks:=s.toks+1}) (PySem.W.looks_clsIn X hc) ?_))))))
 rw[hd']
 refine wpAny_pure (a:=some dx) (wpAny_bind (wpAny_pure (wpAny_bind ?_)))
 refine wpAny_nsSet1 (s:={s with toks:=s.toks+1}) I.ns fun h' hn2 hs2=>?_
 obtain⟨oD,esD,epD,hoD,hdD,hcD⟩:=hn2.count (PySem.Within.cons name v hw)
 refine wpAny_bind (wpAny_lookBehind hoD (by rw[hdD];exact pastItsLine_dict (Nat.le_trans hcD (by rw[List.length_cons];lia))) ?_)
 exact wpAny_pure (h _ ⟨(hs2.2 _ (Ne.symm I.ne)).trans I.obj,hn2,I.ne⟩ hs2)
theorem Jr{R:Result->Shared->Prop}{vs:List Value}{kw:List (Str×Value)}(X:K.In s.heap)(hm:PySem.W.makesIn K C=true)
  (hi:PySem.W.findIn K (.ref C) "__init__"=some (some (.ref f))) (hf:PySem.W.typeIn K (.ref f)=some (.type "function"))
  (h:codeAny (model prog w) (A.under (.builtin "type.__call__" ⟨.ref C::vs,kw⟩)) (.call (.ref f) ⟨.ref (s.heap.objs.size+1)::vs,kw⟩) (PySem.W.InitBack (s.heap.objs.size+1) R)
   {s with heap:=(s.heap.push PySem.W.emptyDict).push (PySem.W.instObj C s.heap.objs.size)}):
  codeAny (model prog w) A (.call (.ref C) ⟨vs,kw⟩) R s:=by
 obtain⟨hh,g,d,t,os⟩:=s
 exact PySem.W.make_core (PySem.W.makes_of X hm) (PySem.W.looks_findIn X hi) (fun self=>PySem.W.bind_fn X self hf) (.inl rfl) h
end
def cG(f:Str)(v:V):List (Str×V)->List (Str×V)
 |[]=>[(f,v)]
 |(g,x)::r=>if g=f then(g,v)::r else(g,x)::cG f v r
theorem qp(f g:Str)(v:V):∀fs:List (Str×V),(cG f v fs).lookup g=if g=f then some v else fs.lookup g
 |[]=>by
  show List.lookup g [(f,v)]=_
  by_cases h:g=f
  ·have hb:(g==f)=true:=beq_iff_eq.mpr h
   simp only[List.lookup,hb,if_pos h]
  ·have hb:(g==f)=false:=beq_eq_false_iff_ne.mpr h
   simp only[List.lookup,hb,if_neg h]
 |(k,x)::r=>by
  have ih:=qp f g v r
  rw[show cG f v ((k,x)::r)=(if k=f then(k,v)::r else(k,x)::cG f v r)from rfl]
  by_cases hk:k=f
  ·rw[if_pos hk]
   by_cases h:g=k
   ·have hb:(g==k)=true:=beq_iff_eq.mpr h
    simp only[List.lookup,hb,if_pos (h.trans hk)]
   ·have hb:(g==k)=false:=beq_eq_false_iff_ne.mpr h
    simp only[List.lookup,hb,if_neg (fun e:g=f=>h (e.trans hk.symm))]
  ·rw[if_neg hk]
   by_cases h:g=k
   ·have hb:(g==k)=true:=beq_iff_eq.mpr h
    simp only[List.lookup,hb,if_neg (fun e:g=f=>hk (h.symm.trans e))]
   ·have hb:(g==k)=false:=beq_eq_false_iff_ne.mpr h
    simp only[List.lookup,hb]
    exact ih
theorem tE(f:Str)(v:V):∀fs:List (Str×V),f∈(cG f v fs).map (·.1)/\∀g,g∈fs.map (·.1)->g∈(cG f v fs).map (·.1)
 |[]=>⟨by simp[cG],fun g h=>by simp at h⟩
 |(k,x)::r=>by
  obtain⟨i1,i2⟩:=tE f v r
  rw[show cG f v ((k,x)::r)=(if k=f then(k,v)::r else(k,x)::cG f v r)from rfl]
  by_cases hk:k=f
  ·rw[if_pos hk]
   subst hk
   exact⟨by simp,fun g h=>by simpa using h⟩
  ·rw[if_neg hk]
   refine⟨?_,fun g h=>?_⟩
   ·rw[List.map_cons]
    exact List.mem_cons_of_mem _ i1
   ·rw[List.map_cons]at h ⊢
    rcases List.mem_cons.mp h with e|e
    ·exact List.mem_cons.mpr (.inl e)
    ·exact List.mem_cons_of_mem _ (i2 g e)
theorem Bb(f:Str)(v:V):∀fs:List (Str×V),(cG f v fs).length<=fs.length+1
 |[]=>by simp[cG]
 |(k,x)::r=>by
  have ih:=Bb f v r
  rw[show cG f v ((k,x)::r)=(if k=f then(k,v)::r else(k,x)::cG f v r)from rfl]
  by_cases hk:k=f
  ·rw[if_pos hk,List.length_cons,List.length_cons];lia
  ·rw[if_neg hk,List.length_cons,List.length_cons];lia
theorem dq.some_of{v:V}{o:Option Value}(r:dq (some v) o):∃u,o=some u/\RelV v u:=by
 cases o with
 |none=>exact(show False from r).elim
 |some u=>exact⟨u,rfl,r⟩
theorem dq.none_of{o:Option Value}(r:dq none o):o=none:=by
 cases o with
 |none=>rfl
 |some u=>exact(show False from r).elim
theorem Fn{v:V}{u:Value}(r:RelV v u):PySem.W.handedIn u=true:=by
 cases v with
 |ay=>cases (show u=Value.none from r);rfl
 |bl b=>cases (show u=Value.bool b from r);rfl
 |int i=>obtain⟨t,e⟩:=(show ∃t,u=Value.int i t from r);cases e;rfl
 |str x=>obtain⟨t,e⟩:=(show ∃t,u=Value.str x t from r);cases e;rfl
 |eJ b=>obtain⟨t,e⟩:=(show ∃t,u=Value.bytes b t from r);cases e;rfl
 |lZ b=>obtain⟨t,e⟩:=(show ∃t,u=Value.float b t from r);cases e;rfl
 |ref a=>cases (show u=Value.ref a from r);rfl
 |ty n=>cases (show u=Value.type n from r);rfl
section
variable {P:Program}{w:World}{H H':Hp}{h h':Heap}{a C dx:Addr}{fs fs':List (Str×V)}
theorem uB(az:bG P w H h)(e:H a=some (.ins C dx fs)):∃mA,lW h a dx C mA/\(∀f,dq (fs.lookup f) (mA f))/\PySem.Within mA (fs.map (·.1))/\fs.length<=1000/\H dx=some (.own a):=by
 obtain⟨d,z,ne,ob,mA,n,r,q⟩:=(show cg P w H h a (.ins C dx fs)from az a _ e)
 exact⟨mA,⟨ob,n,ne⟩,r,q,z,d⟩
end
structure eL(K:PySem.W.Frag)(C:Addr):Prop where
 pg:PySem.W.plainGet K C Str.empty=true
 hd:PySem.W.hasDictIn K C=true
 po:PySem.W.plainOver K C=true
 sa:PySem.W.findIn K (.ref C) "__setattr__"=some (some (.builtin "object.__setattr__"))
theorem eL.get{K:PySem.W.Frag}{C:Addr}(c:eL K C)(f:Str):PySem.W.plainGet K C f=true:=c.pg
def bw(K:PySem.W.Frag)(C:Addr)(f:Str):Prop:=PySem.W.findIn K (.ref C) f=some none
theorem bw.QG{K:PySem.W.Frag}{C:Addr}{f:Str}(n:bw K C f):PySem.W.takerIn K C f=some none:=by
 unfold PySem.W.takerIn
 rw[show PySem.W.findIn K (.ref C) f=some none from n]
 rfl
structure wq(K:PySem.W.Frag)(C:Addr)(m:Str)(f:Addr):Prop where
 at_:PySem.W.findIn K (.ref C) m=some (some (.ref f))
 fn:PySem.W.isFn K (.ref f)=true
 kp:PySem.W.keepIn K (.ref f)=true
section
variable {X:Cx}{pins:List (Addr×Obj)}{σ:St}{H:Hp}{s:Shared}{a C dx:Addr}{fs:List (Str×V)}{f:Str}{v:V}{A:Around}{E:Value->Shared->Prop}
theorem D1{b:Bool}{Q:Value->Shared->Prop}(I:Inv X pins σ H s)(e:H a=some (.ins C dx fs))(c:eL X.K C)(n:bw X.K C f)(l:fs.lookup f=some v)
  (h:∀u s',Inv X pins σ H s'->RelV v u->Q u s'):wpAny (model X.prog X.w) A (getAttr (.ref a) f b) Q E s:=by
 obtain⟨mA,O,r,_,_,_⟩:=uB I.az e
 obtain⟨u,hu,ru⟩:=dq.some_of (v:=v) (o:=mA f) (by rw[<-l];exact r f)
 exact get_map I.bo O (c.get f) c.hd n hu (Fn ru) (h u _ (I.tok _) ru)
theorem E2{m:Str}{g:Addr}{pl:Sem Bool}{Q:Value×List Value->Shared->Prop}(I:Inv X pins σ H s)(e:H a=some (.ins C dx fs))(c:eL X.K C)(k:wq X.K C m g)(l:fs.lookup m=none)
  (h:Q (.ref g,[.ref a]) s):wpAny (model X.prog X.w) A (getMethod (.ref a) m pl) Q E s:=by
 obtain⟨mA,O,r,_,_,_⟩:=uB I.az e
 have hn:mA m=none:=dq.none_of (by rw[<-l];exact r m)
 exact IQ I.bo O (c.get m) k.at_ k.fn hn h
theorem CD{y:V}{u:Value}{Q:Unit->Shared->Prop}(I:Inv X pins σ H s)(e:H a=some (.ins C dx fs))(c:eL X.K C)(n:bw X.K C f)(hl:fs.length<1000)(ry:RelV y u)
  (h:∀s',Inv X pins σ (upd H a (.ins C dx (cG f y fs))) s'->Q () s'):wpAny (model X.prog X.w) A (setAttr (.ref a) f u) Q E s:=by
 obtain⟨mA,O,r,wi,_,ho⟩:=uB I.az e
 have hz:(fs.map (·.1)).length<=sizeLine:=by rw[List.length_map,sizeLine_eq];lia
 refine PN I.bo O c.sa c.po n.QG c.hd wi hz fun h' O' sb=>h _ ?_
 have hd:∃o,h'.get? dx=some o:=let⟨o,_,_,e',_⟩:=O'.ns;⟨o,e'⟩
 refine I.write (x:=a) (e:=dx) (by rw[e];exact True.intro) (.inr ho) (fun b q hb z=>(sb.2 b hb).trans z) hd ?_
 refine⟨by rw[ao O.ne];exact ho,?_,O.ne,O'.obj,_,O'.ns,fun g=>?_,fun g hg=>?_⟩
 ·have:=Bb f y fs;lia
 ·show dq ((cG f y fs).lookup g) (if g=f then some u else mA g)
  rw[qp]
  by_cases q:g=f
  ·rw[if_pos q,if_pos q];exact ry
  ·rw[if_neg q,if_neg q];exact r g
 ·by_cases q:g=f
  ·rw[q];exact(tE f y fs).1
  ·refine(tE f y fs).2 g (wi g fun z=>hg ?_)
   show(if g=f then some u else mA g)=none
   rw[if_neg q];exact z
theorem Inv.made(I:Inv X pins σ H s):Inv X pins σ (upd (upd H s.heap.objs.size (.own (s.heap.objs.size+1))) (s.heap.objs.size+1) (.ins C s.heap.objs.size []))
  {s with heap:=(s.heap.push PySem.W.emptyDict).push (PySem.W.instObj C s.heap.objs.size)}:=by
 have e1:(s.heap.push PySem.W.emptyDict).get? s.heap.objs.size=some PySem.W.emptyDict:=Heap.get?_push_size s.heap rfl
 have e2:((s.heap.push PySem.W.emptyDict).push (PySem.W.instObj C s.heap.objs.size)).get? (s.heap.objs.size+1)=some (PySem.W.instObj C s.heap.objs.size):=by
  have:=Heap.get?_push_size (s.heap.push PySem.W.emptyDict) (o:=PySem.W.instObj C s.heap.objs.size) rfl
  rwa [Heap.size_push]at this
 have e3:(s.heap.push PySem.W.emptyDict).Ns s.heap.objs.size (fun _=>none):=⟨PySem.W.emptyDict,#[],_,e1,rfl,(fun e he=>absurd he (by simp)),fun _=>rfl⟩
 have I1:=I.laid (a:=s.heap.objs.size) (o:=.own (s.heap.objs.size+1)) (h':=s.heap.push PySem.W.emptyDict) (t':=s.toks) (fun b u q=>Heap.get?_push_of_some _ q) (Nat.le_refl _) ⟨_,e1⟩
 refine I1.laid (a:=s.heap.objs.size+1) (o:=.ins C s.heap.objs.size []) (t':=s.toks) (fun b u q=>Heap.get?_push_of_some _ q) (Nat.le_of_eq (Heap.size_push _ _)) ?_
 have ne:s.heap.objs.size≠s.heap.objs.size+1:=Nat.ne_of_lt (Nat.lt_succ_self _)
 refine⟨by rw[ao ne,aB],Nat.zero_le _,ne,e2,fun _=>none,(Heap.Ns1.of_empty e3).at fun o q=>Heap.get?_push_of_some _ q,fun _=>True.intro,fun y hy=>absurd rfl hy⟩
theorem Gw{prog:Program}{w:World}{env:Env}{e:Expr}{f:Str}{pos:Pos}{s:Shared}{Q:Value->Shared->Prop}(hb:attributeBase e f env (eval e env)=eval e env)
  (h:wpAny (model prog w) A (eval e env) (fun o s₁=>wpAny (model prog w) A (getAttr o f true) Q E s₁) E s):wpAny (model prog w) A (eval (.Attribute e f pos) env) Q E s:=
 Attribute_any_ h (by rw[arm_eval_Attribute,hb])
end
def mP(K:PySem.W.Frag)(ta:TE)(f:Str):TE:=fun σ H Q=>ta σ H fun x H1=>∃a C dx fs v,x=.ref a/\H1 a=some (.ins C dx fs)/\eL K C/\bw K C f/\fs.lookup f=some v/\Q v H1
def Qz(K:PySem.W.Frag)(ta tv:TE)(f:Str):TS:=fun D σ H=>tv σ H fun y H1=>ta σ H1 fun x H2=>∃a C dx fs,x=.ref a/\H2 a=some (.ins C dx fs)/\eL K C/\bw K C f/\fs.length<1000/\
 D.nx σ (upd H2 a (.ins C dx (cG f y fs)))
def Bx(X:Cx)(op:Operator)(rd:V->V->Hp->VK->Prop):Prop:=
 ∀(pins:List (Addr×Obj))(s:Shared)(σ:St)(H:Hp)(x y:V)(u v:Value)(Q:VK),Inv X pins σ H s->RelV x u->RelV y v->rd x y H Q->wpAny (model X.prog X.w) X.A (inplaceOp op u v) (EP X pins σ Q) X.xe s
def OS(K:PySem.W.Frag)(ta tv:TE)(rd:V->V->Hp->VK->Prop)(f:Str):TS:=fun D σ H=>ta σ H fun x H1=>∃a C dx fs v,x=.ref a/\H1 a=some (.ins C dx fs)/\eL K C/\bw K C f/\fs.lookup f=some v/\
 tv σ H1 fun y H2=>rd v y H2 fun z H3=>∃dx' fs',H3 a=some (.ins C dx' fs')/\fs'.length<1000/\D.nx σ (upd H3 a (.ins C dx' (cG f z fs')))
section
variable {X:Cx}{o e value:Expr}{f:Str}{pos pos' tpos:Pos}{ta tv:TE}
theorem aE(he:PE X e ta)(hb:attributeBase e f X.env (eval e X.env)=eval e X.env):PE X (.Attribute e f pos) (mP X.K ta f):=by
 intro pins s σ H Q I h
 refine Gw hb (aH (he pins s σ H _ I h) fun u s1 hh21=>?_)
 obtain⟨x,H1,I1,rx,a,C,dx,fs,v,ex,ea,c,n,l,q⟩:=hh21
 subst ex
 obtain rfl:u=Value.ref a:=rx
 exact D1 I1 ea c n l fun u' s2 I2 ru=>⟨v,H1,I2,ru,q⟩
theorem dg(ha:PE X o ta)(hv:PE X value tv)(hs:swapsWith value (some (.Attribute o f pos')) pos.line X.env=pure false):PS X (.Assign [.Attribute o f pos'] value pos) (Qz X.K ta tv f):=by
 intro pins s σ H D I h
 refine plainObj_wpAny_Assign_Attribute (aH (hv pins s σ H _ I h) fun u s1⟨y,H1,I1,ry,q⟩=>aH (ha pins s1 σ H1 _ I1 q) fun ov s2 hh22=>?_) hs
 obtain⟨x,H2,I2,rx,a,C,dx,fs,ex,ea,c,n,l,q2⟩:=hh22
 subst ex
 obtain rfl:ov=Value.ref a:=rx
 exact CD I2 ea c n l ry fun s3 I3=>⟨σ,_,I3,q2⟩
theorem BZ{op:Operator}{rd:V->V->Hp->VK->Prop}(ha:PE X o ta)(hv:PE X value tv)(hop:Bx X op rd):PS X (.AugAssign (.Attribute o f tpos) op value pos) (OS X.K ta tv rd f):=by
 intro pins s σ H D I h
 refine wpAny_AugAssign_AttributeAny (aH (ha pins s σ H _ I h) fun ov s1 hh23=>?_)
 obtain⟨x,H1,I1,rx,a,C,dx,fs,v,ex,ea,c,n,l,q⟩:=hh23
 subst ex
 obtain rfl:ov=Value.ref a:=rx
 refine D1 I1 ea c n l fun u s2 I2 ru=>aH (hv pins s2 σ H1 _ I2 q) fun w3 s3⟨y,H2,I3,ry,q3⟩=>aH (hop pins s3 σ H2 v y u w3 _ I3 ru ry q3) fun w4 s4 hh24=>?_
 obtain⟨z,H3,I4,rz,dx',fs',ea',l',q4⟩:=hh24
 exact CD I4 ea' c n l' rz fun s5 I5=>⟨σ,_,I5,q4⟩
def OF:V->V->Hp->VK->Prop:=fun x y H Q=>∃i j,x=.int i/\y=.int j/\Q (.int (i+j)) H
def M5:V->V->Hp->VK->Prop:=fun x y H Q=>∃i j,x=.int i/\y=.int j/\Q (.int (i-j)) H
theorem JB:Bx X .Add OF:=by
 rintro pins s σ H x y u v Q I rx ry ⟨i,j,rfl,rfl,q⟩
 obtain⟨t,rfl⟩:=(show ∃t,u=Value.int i t from rx)
 obtain⟨t',rfl⟩:=(show ∃t',v=Value.int j t' from ry)
 exact PyProof.Rows.iadd_int ⟨.int (i+j),H,I.tok _,⟨_,rfl⟩,q⟩
theorem NR:Bx X .Sub M5:=by
 rintro pins s σ H x y u v Q I rx ry ⟨i,j,rfl,rfl,q⟩
 obtain⟨t,rfl⟩:=(show ∃t,u=Value.int i t from rx)
 obtain⟨t',rfl⟩:=(show ∃t',v=Value.int j t' from ry)
 exact PyProof.Rows.isub_int ⟨.int (i-j),H,I.tok _,⟨_,rfl⟩,q⟩
end
section
variable {X:Cx}{pins:List (Addr×Obj)}{σ:St}{H:Hp}{s:Shared}{A:Around}{E:Value->Shared->Prop}{Q:Value->Shared->Prop}{c:Value}{b:Bool}
inductive eG(K:PySem.W.Frag)(H:Hp):V->Value->Prop where
 |ay:eG K H .ay (.type "NoneType")
 |bl (x:Bool):eG K H (.bl x) (.type "bool")
 |int (i:Int):eG K H (.int i) (.type "int")
 |str (x:Str):eG K H (.str x) (.type "str")
 |lZ (x:UInt64):eG K H (.lZ x) (.type "float")
 |lst {a:Addr} {xs:List V} (e:H a=some (.lst xs)):eG K H (.ref a) (.type "list")
 |df {a:Addr} {o:Obj} {xs:List V} (e:H a=some (.df o (.lst xs))):eG K H (.ref a) (.type "list")
 |tup {a:Addr} {xs:List V} (e:H a=some (.tup xs)):eG K H (.ref a) (.type "tuple")
 |dK {a:Addr} {kvs:List (Key×V)} (e:H a=some (.dK kvs)):eG K H (.ref a) (.type "dict")
 |dT {a:Addr} {kvs:List (List Key×V)} (e:H a=some (.dT kvs)):eG K H (.ref a) (.type "dict")
 |ins {a C dx:Addr} {fs:List (Str×V)} (e:H a=some (.ins C dx fs)) (cl:eL K C) (ha:PySem.W.findIn K (.ref C) "__class__"=some (some (.builtin "object.__class__")))
   (hn:PySem.W.specialIn K (.builtin "object.__class__") "__get__"=some (some (.builtin "getset_descriptor.__get__"))) (htk:PySem.W.takesIn K (.builtin "object.__class__")=some true)
   (hm:PySem.W.mroIn K C (.type "object")=some true):eG K H (.ref a) (.ref C)
theorem PX{x:V}{u t:Value}(I:Inv X pins σ H s)(rx:RelV x u)(ty:eG X.K H x t)(e:PySem.W.kitOne X.K t c=some b)(h:∀tk,Q (.bool b) {s with toks:=tk}):
  wpAny (model X.prog X.w) A (call (.builtin "isinstance") [u,c]) Q E s:=by
 cases ty with
 |ay=>cases (show u=Value.none from rx);exact PySem.W.kia_one PySem.W.kitx_none I.bo True.intro e (fun z=>nomatch z) h
 |bl y=>cases (show u=Value.bool y from rx);exact PySem.W.kia_one PySem.W.kitx_bool I.bo True.intro e (fun z=>nomatch z) h
 |int i=>obtain⟨t,q⟩:=(show ∃t,u=Value.int i t from rx);cases q;exact PySem.W.kia_one PySem.W.kitx_int I.bo True.intro e (fun z=>nomatch z) h
 |str y=>obtain⟨t,q⟩:=(show ∃t,u=Value.str y t from rx);cases q;exact PySem.W.kia_one PySem.W.kitx_str I.bo True.intro e (fun z=>nomatch z) h
 |lZ y=>obtain⟨t,q⟩:=(show ∃t,u=Value.float y t from rx);cases q;exact PySem.W.kia_one PySem.W.kitx_float I.bo True.intro e (fun z=>nomatch z) h
 | @lst a xs ea=>
  cases (show u=Value.ref a from rx)
  obtain⟨_,_,n,_,h1⟩:=(show cg X.prog X.w H s.heap a (.lst xs)from I.az a _ ea)
  exact PySem.W.kia_one PySem.W.kitx_list I.bo ⟨_,h1,rfl⟩ e (fun z=>nomatch z) h
 | @df a ob xs ea=>
  cases (show u=Value.ref a from rx)
  obtain⟨_,_,_,n,_,h1⟩:=(show cg X.prog X.w H s.heap a (.df ob (.lst xs))from I.az a _ ea)
  exact PySem.W.kia_one PySem.W.kitx_list I.bo ⟨_,h1,rfl⟩ e (fun z=>nomatch z) h
 | @tup a xs ea=>
  cases (show u=Value.ref a from rx)
  obtain⟨_,_,_,p⟩:=(show cg X.prog X.w H s.heap a (.tup xs)from I.az a _ ea)
  obtain⟨o,h1,h2,_⟩:=p
  exact PySem.W.kia_one PySem.W.kitx_tuple I.bo ⟨o,h1,h2⟩ e (fun z=>nomatch z) h
 | @dK a kvs ea=>
  cases (show u=Value.ref a from rx)
  obtain⟨_,_,vs,_,p⟩:=(show cg X.prog X.w H s.heap a (.dK kvs)from I.az a _ ea)
  obtain⟨o,es,ep,h1,h2,_⟩:=p
  exact PySem.W.kia_one PySem.W.kitx_dict I.bo ⟨o,h1,h2.1⟩ e (fun z=>nomatch z) h
 | @dT a kvs ea=>
  cases (show u=Value.ref a from rx)
  obtain⟨_,_,xs,_,o,es,ep,h1,h2,_⟩:=(show cg X.prog X.w H s.heap a (.dT kvs)from I.az a _ ea)
  exact PySem.W.kia_one PySem.W.kitx_dict I.bo ⟨o,h1,h2.1⟩ e (fun z=>nomatch z) h
 | @ins a C dx fs ea cl ha hn htk hm=>
  cases (show u=Value.ref a from rx)
  obtain⟨mA,O,_⟩:=uB I.az ea
  obtain⟨od,J,_⟩:=O.look
  exact PySem.W.kia_one (PySem.W.kitx_own (cl.get _) cl.hd ha hn htk hm) I.bo J e (fun z=>nomatch z) h
end
end L2
namespace L2
open PySem PySem.Spec PyProof.Rows
structure bC(k:Nat)(A:Around):Prop where
 hd:A.handled=none
 dp:A.depth+3*k+5<recursionLimit
 un:A.units+16*k+200<cLine
theorem bC.mono{j k:Nat}{A:Around}(r:bC k A)(h:j<=k):bC j A:=⟨r.hd,by have:=r.dp;lia,by have:=r.un;lia⟩
theorem bC.deeper{k:Nat}{A:Around}(r:bC (k+1) A)(env:Env):bC k (A.deeper env):=
 ⟨r.hd,by have:=r.dp;show A.depth+1+3*k+5<_;lia,by have:=r.un;show A.units+3+16*k+200<_;lia⟩
theorem Qu{A:Around}{C:Addr}{us:List Value}{kw:List (Str×Value)}:(A.under (.builtin "type.__call__" ⟨.ref C::us,kw⟩)).depth=A.depth+1:=by
 first|rfl|simp[Around.under,Code.weight,Code.isCreation,Code.isGuard,Code.isCaller,Code.frames,Code.isFrame,guardIds]
theorem Ia{A:Around}{C:Addr}{us:List Value}{kw:List (Str×Value)}:(A.under (.builtin "type.__call__" ⟨.ref C::us,kw⟩)).units=A.units+1:=by
 first|rfl|simp[Around.under,Code.cUnits,Code.frames,Code.isFrame]
theorem bC.make{k:Nat}{A:Around}(r:bC (k+1) A)(C:Addr)(us:List Value)(kw:List (Str×Value)):bC k (A.under (.builtin "type.__call__" ⟨.ref C::us,kw⟩)):=
 ⟨r.hd,by have:=r.dp;rw[Qu];lia,by have:=r.un;rw[Ia];lia⟩
theorem bC.depth{k:Nat}{A:Around}(r:bC k A):A.depth<recursionLimit:=by have:=r.dp;lia
theorem bC.units{k:Nat}{A:Around}(r:bC k A):A.units+64<cLine:=by have:=r.un;lia
def eI:TA:=fun _ H Q=>Q [] H
def b7(ta:TE)(tr:TA):TA:=fun σ H Q=>ta σ H fun x H1=>tr σ H1 fun xs H2=>Q (x::xs) H2
section
variable {X:Cx}{e:Expr}{es:List Expr}{te:TE}{t:TA}{pos:Pos}
theorem ag:PA X [] eI:=fun _ _ _ _ H Q I h=>Calls.spliced_nil ⟨[],H,I,.nil,h⟩
theorem aa(ha:PE X e te)(hr:PA X es t)(hs:starEach (e::es) X.env=(false,eval e X.env)::starEach es X.env:=by rfl):PA X (e::es) (b7 te t):=by
 intro pos pins s σ H Q I h
 rw[hs]
 show wpAny _ _ (spliced ((false,eval e X.env)::backTo pos (starEach es X.env))) _ _ s
 refine Calls.spliced_cons (aH (ha pins s σ H _ I h) fun u s1 hh25=>?_)
 obtain⟨x,H1,I1,r1,q1⟩:=hh25
 exact aH (hr pos pins s1 σ H1 _ I1 q1) fun us s2⟨xs,H2,I2,r2,q2⟩=>⟨x::xs,H2,I2,.cons r1 r2,q2⟩
def G0(t:TA):TE:=fun σ H Q=>t σ H fun xs H1=>xs.length<=sizeLine/\∀p,H1 p=none->Q (.ref p) (upd H1 p (.tup xs))
def N9(t:TA):TE:=fun σ H Q=>t σ H fun xs H1=>xs.length<=sizeLine/\∀p,H1 p=none->Q (.ref p) (upd H1 p (.lst xs))
theorem kH{x1}(h:PA X es t):PE X (.Tuple es x1 pos) (G0 t):=by
 intro pins s σ H Q I hq
 refine wpAny_Tuple_spliced (aH (h pos pins s σ H _ I hq) fun us s1⟨xs,H1,I1,r,z,q⟩=>⟨by rw[<-r.length];exact z,?_⟩)
 have hf:H1 s1.heap.objs.size=none:=I1.az.fresh (Nat.le_refl _)
 refine⟨.ref s1.heap.objs.size,upd H1 s1.heap.objs.size (.tup xs),I1.laid (t':=s1.toks) (fun b u e=>Heap.get?_push_of_some _ e) (Nat.le_refl _) ?_,rfl,q _ hf⟩
 exact⟨z,us,r,⟨_,Heap.get?_push_size _ rfl,rfl,_,rfl⟩⟩
theorem bT(h:PA X es t):PE X (.List es pos) (N9 t):=by
 intro pins s σ H Q I hq
 refine wpAny_List_spliced (aH (h pos pins s σ H _ I hq) fun us s1⟨xs,H1,I1,r,z,q⟩=>⟨by rw[<-r.length];exact z,?_⟩)
 have hf:H1 s1.heap.objs.size=none:=I1.az.fresh (Nat.le_refl _)
 refine⟨.ref s1.heap.objs.size,upd H1 s1.heap.objs.size (.lst xs),I1.laid (t':=s1.toks) (fun b u e=>Heap.get?_push_of_some _ e) (Nat.le_refl _) ?_,rfl,q _ hf⟩
 exact⟨z,us,0,r,Heap.get?_push_size _ rfl⟩
end
abbrev Sp:=List V->Hp->VK->XK->Prop
abbrev eC:=List Env->Hp->Shared->XK->Value->Shared->Prop
structure iy(P:Program)(w:World)(K:PySem.W.Frag)(mg:Str->Option Value)(base:Heap)(A:Around)(outer:List Env)(s:Shared)(H:Hp):Prop where
 frames:A.frames=some outer
 mod:Mod K mg base
 bs:∀b o,base.get? b=some o->s.heap.get? b=some o/\H b=none
 fF:base.objs.size<=s.heap.objs.size
 d8:s.heap.FunFrames base outer
 gA:∀b∈cD outer,H b=none
 az:bG P w H s.heap
 bare:AllBare s.gens
def CE(outer:List Env)(P:Program)(w:World)(H:Hp)(s:Shared)(Q:VK)(u:Value)(s':Shared):Prop:=
 ∃v H',s'.os=s.os/\AllBare s'.gens/\Un (cD outer) [] H H' s.heap s'.heap/\bG P w H' s'.heap/\RelV v u/\Q v H'
def CR(CX:eC)(outer:List Env)(P:Program)(w:World)(H:Hp)(s:Shared)(Q:VK)(E:XK)(r:Result)(s':Shared):Prop:=
 match r with
 | .ok (.ret u)=>CE outer P w H s Q u s'
 | .ok _=>False
 | .error e=>CX outer H s E e s'
structure ax(P:Program)(w:World)(K:PySem.W.Frag)(mg:Str->Option Value)(base:Heap)(CX:eC)(k:Nat)(f:Addr)(fd:FuncData)(ps:List Str)(sp:Sp):Prop where
 len:∀vs H Q E,sp vs H Q E->vs.length=ps.length
 run:∀(A:Around)(outer:List Env)(s:Shared)(H:Hp)(args:Args)(us:List Value)(vs:List V)(Q:VK)(E:XK),bC k A->iy P w K mg base A outer s H->BindsTo s fd args (ps.zip us)->aW vs us->sp vs H Q E->
  codeAny (model P w) A (.call (.ref f) args) (CR CX outer P w H s Q E) s
theorem iy.make{P:Program}{w:World}{K:PySem.W.Frag}{mg:Str->Option Value}{base:Heap}{A:Around}{outer:List Env}{s:Shared}{H:Hp}(e:iy P w K mg base A outer s H)(C:Addr)(us:List Value)(kw:List (Str×Value)):
  iy P w K mg base (A.under (.builtin "type.__call__" ⟨.ref C::us,kw⟩)) outer s H:=⟨by first|exact e.frames|(simpa [Around.under,Code.envs,Code.isFrame,pushEnvs]using e.frames),e.mod,e.bs,e.fF,e.d8,e.gA,e.az,e.bare⟩
section
variable {X:Cx}{pins:List (Addr×Obj)}{σ:St}{H:Hp}{s s':Shared}
theorem Inv.tO(I:Inv X pins σ H s):iy X.prog X.w X.K X.mg X.base X.A X.stack s H:=
 ⟨I.ok.frames,I.ok.mod,I.bs,Nat.le_trans I.ok.fF I.sz,I.stack,I.u6,I.az,I.bare⟩
theorem Inv.after{Q:VK}{u:Value}(I:Inv X pins σ H s)(h:CE X.stack X.prog X.w H s Q u s'):EP X pins σ Q u s':=by
 obtain⟨v,H',os,bare,un,az,r,q⟩:=h
 obtain⟨hh,g,d,t,os'⟩:=s'
 obtain rfl:os'=s.os:=os
 exact⟨v,H',I.call (h':=hh) (g':=g) (d':=d) (t':=t) (ch:=[]) un az bare (fun b z=>absurd z (by simp)),r,q⟩
end
def qG(sp:Sp)(dvs:List V)(E:XK)(t:TA):TE:=fun σ H Q=>t σ H fun vs H1=>sp (vs++dvs) H1 Q E
def wj(C:Addr)(m:Str)(sp:Sp)(dvs:List V)(E:XK)(ta:TE)(t:TA):TE:=fun σ H Q=>ta σ H fun x H1=>∃a dx fs,x=.ref a/\H1 a=some (.ins C dx fs)/\fs.lookup m=none/\
 t σ H1 fun vs H2=>sp (x::(vs++dvs)) H2 Q E
def k7(C:Addr)(sp:Sp)(dvs:List V)(E:XK)(t:TA):TE:=fun σ H Q=>t σ H fun vs H1=>∀x dx,H1 x=none->H1 dx=none->dx≠x->
 sp (.ref x::(vs++dvs)) (upd (upd H1 dx (.own x)) x (.ins C dx [])) (fun v H2=>v=.ay/\Q (.ref x) H2) E
def Binds(K:PySem.W.Frag)(fd:FuncData)(ps:List Str)(ds:List Value):Prop:=
 ∀(s:Shared)(us:List Value),K.In s.heap->(us++ds).length=ps.length->BindsTo s fd ⟨us,[]⟩ (ps.zip (us++ds))
theorem Binds.all{K:PySem.W.Frag}{fd:FuncData}{ps:List Str}(h:∀us:List Value,us.length=ps.length->bindArgs fd ⟨us,[]⟩=pure (ps.zip us)):Binds K fd ps []:=fun s us _ hl=>by
 rw[List.append_nil]at hl ⊢
 exact .of_eq (h us hl)
def Passes(CX:eC)(X:Cx)(E:XK):Prop:=∀(pins:List (Addr×Obj))(σ:St)(H:Hp)(s:Shared)(e:Value)(s':Shared),Inv X pins σ H s->CX X.stack H s E e s'->X.xe e s'
section
variable {X:Cx}{CX:eC}{k:Nat}{f C:Addr}{fd:FuncData}{ps:List Str}{sp:Sp}{dvs:List V}{ds:List Value}{E:XK}{x m:Str}{p pos apos:Pos}{e o:Expr}{es:List Expr}{ta:TE}{t:TA}
theorem se{pins:List (Addr×Obj)}{σ:St}{H:Hp}{s:Shared}{Q:VK}{us:List Value}{vs:List V}(F:ax X.prog X.w X.K X.mg X.base CX k f fd ps sp)(hr:bC k X.A)(hb:Binds X.K fd ps ds)(hd:aW dvs ds)(hx:Passes CX X E)
  (I:Inv X pins σ H s) (r:aW vs us) (h:sp (vs++dvs) H Q E):wpAny (model X.prog X.w) X.A (call (.ref f) us) (EP X pins σ Q) X.xe s:=by
 have r2:aW (vs++dvs) (us++ds):=r.append hd
 have hl:(us++ds).length=ps.length:=by rw[<-r2.length];exact F.len _ _ _ _ h
 refine wpAny_call (codeAny_mono (F.run X.A X.stack s H ⟨us,[]⟩ (us++ds) (vs++dvs) Q E hr I.tO (hb s us I.bo hl) r2 h) fun r s' hq=>?_)
 cases r with
 |error e=>exact hx pins σ H s e s' I hq
 |ok fl=>
  cases fl with
  |ret u=>exact I.after hq
  |next=>exact False.elim hq
  |brk=>exact False.elim hq
  |cont=>exact False.elim hq
theorem Lp(F:ax X.prog X.w X.K X.mg X.base CX k f fd ps sp)(hr:bC k X.A)(hg:Gl X x)(hm:X.mg x=some (.ref f))(hk:PySem.W.keepIn X.K (.ref f)=true)(hb:Binds X.K fd ps ds)(hd:aW dvs ds)(hx:Passes CX X E)
  (ha:PA X (e::es) t) (hdb:(x==("__debug__":Str))=false:=by decide) (he:starEach (e::es) X.env=(false,eval e X.env)::starEach es X.env:=by rfl) (hpl:(backTo pos (starEach es X.env)).any (·.1)=false:=by rfl):
  PE X (.Call (.Name x p) (e::es) [] pos) (qG sp dvs E t):=by
 intro pins s σ H Q I h
 refine wpAny_Call_Name_kw (i5 I hg hm ?_ hdb)
 refine PySem.W.callWith_K (h₀:=X.base) I.ok.mod.iA hk (aH (ha pos pins s σ H _ I h) fun us s1⟨vs,H1,I1,r,q⟩=>⟨I1.bo,?_⟩) he hpl
 exact se F hr hb hd hx I1 r q
theorem a0{pl:Sem Bool}(he:PE X o ta)(c:eL X.K C)(hm:wq X.K C m f)(F:ax X.prog X.w X.K X.mg X.base CX k f fd ps sp)(hr:bC k X.A)(hb:Binds X.K fd ps ds)(hd:aW dvs ds)(hx:Passes CX X E)(ha:PA X (e::es) t)
  (hst:starEach (e::es) X.env=(false,eval e X.env)::starEach es X.env:=by rfl) (hpl:(backTo pos (starEach es X.env)).any (·.1)=false:=by rfl)
  (ht:eval (.Call (.Attribute o m apos) (e::es) [] pos) X.env=(do
   let ov <-eval o X.env
   standAt apos.atName
   let(f,first) <-holding [ov] (getMethod ov m pl)
   callWith pos f first (backTo pos (starEach (e::es) X.env)) (backToKw pos (keywordEach [] X.env))):=by rfl):
  PE X (.Call (.Attribute o m apos) (e::es) [] pos) (wj C m sp dvs E ta t):=by
 intro pins s σ H Q I h
 refine PySem.W.methodCall_KW (pl:=pl) (aH (he pins s σ H _ I h) fun u s1 hh26=>?_) ht
 obtain⟨x,H1,I1,rx,a,dx,fs,ex,ea,l,q⟩:=hh26
 subst ex
 obtain rfl:u=Value.ref a:=rx
 refine E2 I1 ea c hm l ?_
 refine PySem.W.callWith_K (first:=[.ref a]) (h₀:=X.base) I.ok.mod.iA hm.kp (aH (ha pos pins s1 σ H1 _ I1 q) fun us s2⟨vs,H2,I2,r,q2⟩=>⟨I2.bo,?_⟩) hst hpl
 exact se (us:=.ref a::us) (vs:=.ref a::vs) F hr hb hd hx I2 (.cons rfl r) q2
theorem cH{pl:Sem Bool}(he:PE X o ta)(c:eL X.K C)(hm:wq X.K C m f)(F:ax X.prog X.w X.K X.mg X.base CX k f fd ps sp)(hr:bC k X.A)(hb:Binds X.K fd ps ds)(hd:aW dvs ds)(hx:Passes CX X E)
  (ht:eval (.Call (.Attribute o m apos) [] [] pos) X.env=(do
   let ov <-eval o X.env
   standAt apos.atName
   let(f,first) <-holding [ov] (getMethod ov m pl)
   callWith pos f first (backTo pos (starEach [] X.env)) (backToKw pos (keywordEach [] X.env))):=by rfl):
  PE X (.Call (.Attribute o m apos) [] [] pos) (wj C m sp dvs E ta eI):=by
 intro pins s σ H Q I h
 refine PySem.W.methodCall_KW (pl:=pl) (aH (he pins s σ H _ I h) fun u s1 hh27=>?_) ht
 obtain⟨x,H1,I1,rx,a,dx,fs,ex,ea,l,q⟩:=hh27
 subst ex
 obtain rfl:u=Value.ref a:=rx
 refine E2 I1 ea c hm l ?_
 exact PySem.W.callWith_K0 (first:=[.ref a]) I1.bo hm.kp (se (us:=[.ref a]) (vs:=[.ref a]) F hr hb hd hx I1 (.cons rfl .nil) q)
structure Mk(K:PySem.W.Frag)(C f:Addr):Prop where
 makes:PySem.W.makesIn K C=true
 init:PySem.W.findIn K (.ref C) "__init__"=some (some (.ref f))
 fn:PySem.W.isFn K (.ref f)=true
 kp:PySem.W.keepIn K (.ref C)=true
theorem FU{pins:List (Addr×Obj)}{σ:St}{H:Hp}{s:Shared}{Q:VK}{us:List Value}{vs:List V}(M:Mk X.K C f)(F:ax X.prog X.w X.K X.mg X.base CX k f fd ps sp)(hr:bC (k+1) X.A)(hb:Binds X.K fd ps ds)(hd:aW dvs ds)
  (hx:Passes CX X E) (I:Inv X pins σ H s) (r:aW vs us)
  (h:∀x dx,H x=none->H dx=none->dx≠x->sp (.ref x::(vs++dvs)) (upd (upd H dx (.own x)) x (.ins C dx [])) (fun v H2=>v=.ay/\Q (.ref x) H2) E):
  wpAny (model X.prog X.w) X.A (call (.ref C) us) (EP X pins σ Q) X.xe s:=by
 have hq:=h (s.heap.objs.size+1) s.heap.objs.size (I.az.fresh (Nat.le_succ _)) (I.az.fresh (Nat.le_refl _)) (Nat.ne_of_lt (Nat.lt_succ_self _))
 have I2:=Inv.made (C:=C) I
 have r2:aW (V.ref (s.heap.objs.size+1)::(vs++dvs)) (Value.ref (s.heap.objs.size+1)::(us++ds)):=.cons rfl (r.append hd)
 have hl:(Value.ref (s.heap.objs.size+1)::us++ds).length=ps.length:=by
  have e:=r2.length
  rw[F.len _ _ _ _ hq]at e
  exact e.symm
 refine wpAny_call (Jr (f:=f) I.bo M.makes M.init (beq_iff_eq.mp M.fn) (codeAny_mono (F.run _ X.stack _ _ ⟨Value.ref (s.heap.objs.size+1)::us,[]⟩ (Value.ref (s.heap.objs.size+1)::(us++ds)) _ _ E (hr.make C us [])
  (I2.tO.make C us []) (hb _ (Value.ref (s.heap.objs.size+1)::us) I2.bo hl) r2 hq) fun r s' hq'=>?_))
 cases r with
 |error e=>exact hx pins σ _ _ e s' I2 hq'
 |ok fl=>
  cases fl with
  |ret u=>
   obtain⟨v,H',I3,rv,ev,q3⟩:=I2.after hq'
   subst ev
   exact⟨rv,⟨V.ref (s.heap.objs.size+1),H',I3,rfl,q3⟩⟩
  |next=>exact False.elim hq'
  |brk=>exact False.elim hq'
  |cont=>exact False.elim hq'
theorem eU(M:Mk X.K C f)(F:ax X.prog X.w X.K X.mg X.base CX k f fd ps sp)(hr:bC (k+1) X.A)(hg:Gl X x)(hm:X.mg x=some (.ref C))(hb:Binds X.K fd ps ds)(hd:aW dvs ds)(hx:Passes CX X E)
  (ha:PA X (e::es) t) (hdb:(x==("__debug__":Str))=false:=by decide) (he:starEach (e::es) X.env=(false,eval e X.env)::starEach es X.env:=by rfl) (hpl:(backTo pos (starEach es X.env)).any (·.1)=false:=by rfl):
  PE X (.Call (.Name x p) (e::es) [] pos) (k7 C sp dvs E t):=by
 intro pins s σ H Q I h
 refine wpAny_Call_Name_kw (i5 I hg hm ?_ hdb)
 refine PySem.W.callWith_K (h₀:=X.base) I.ok.mod.iA M.kp (aH (ha pos pins s σ H _ I h) fun us s1⟨vs,H1,I1,r,q⟩=>⟨I1.bo,?_⟩) he hpl
 exact FU M F hr hb hd hx I1 r q
theorem Kx(M:Mk X.K C f)(F:ax X.prog X.w X.K X.mg X.base CX k f fd ps sp)(hr:bC (k+1) X.A)(hg:Gl X x)(hm:X.mg x=some (.ref C))(hb:Binds X.K fd ps ds)(hd:aW dvs ds)(hx:Passes CX X E)
  (hdb:(x==("__debug__":Str))=false:=by decide):PE X (.Call (.Name x p) [] [] pos) (k7 C sp dvs E eI):=by
 intro pins s σ H Q I h
 refine wpAny_Call_Name_kw (i5 I hg hm ?_ hdb)
 exact PySem.W.callWith_K0 I.bo M.kp (FU (us:=[]) M F hr hb hd hx I .nil h)
end
section
variable {X:Cx}{CX:eC}{k:Nat}{f C:Addr}{fd:FuncData}{ps ks:List Str}{sp:Sp}{E:XK}{x m:Str}{p pos apos kpos:Pos}{e o:Expr}{es:List Expr}{kws:List Keyword}{te ta:TE}{t tk:TA}{nm:Option Str}
variable {g:List Value->List Value->List Value}{gV:List V->List V->List V}
end
structure aI(N P:List Str)(sc:Scope):Prop where
 kind:sc.kind=.function
 co:sc.isCoroutine=false
 gen:sc.isGenerator=false
 nd:N.Nodup
 pre:N.take P.length=P
 par:∀x∈P,sc.names.lookup x=some .local\/sc.names.lookup x=some .cell
 Ng:∀y∈sc.names,y.2≠ .free
theorem FH{kindOf:Str->Option NameKind}{x:Str}:∀{binds:List (Str×Value)}{m:Str->Option Value},(∀v,(x,v)∉binds)->bindL kindOf binds m x=m x
 |[],_,_=>rfl
 |(n,v)::r,m,h=>by
  unfold bindL
  rw[FH fun w hw=>h w (List.mem_cons_of_mem _ hw)]
  split
  ·have:x≠n:=by rintro rfl;exact h v List.mem_cons_self
   simp[this]
  ·rfl
theorem D7{kindOf:Str->Option NameKind}{x:Str}:∀{binds:List (Str×Value)}{m:Str->Option Value},(∀v,(x,v)∉binds)->bindC kindOf binds m x=m x
 |[],_,_=>rfl
 |(n,v)::r,m,h=>by
  unfold bindC
  rw[D7 fun w hw=>h w (List.mem_cons_of_mem _ hw)]
  split
  ·rfl
  ·have:x≠n:=by rintro rfl;exact h v List.mem_cons_self
   simp[this]
theorem ER{kindOf:Str->Option NameKind}{x:Str}{v:Value}:∀{P:List Str}{vs:List Value}{i:Nat}{m:Str->Option Value},P.Nodup->P[i]? =some x->vs[i]? =some v->kindOf x=some .local->
  bindL kindOf (P.zip vs) m x=some v
 |[],_,_,_,_,h,_,_=>by simp at h
 |_::_,[],_,_,_,_,h,_=>by simp at h
 |p::P,w::vs,0,m,nd,h1,h2,hk=>by
  simp at h1 h2;subst h1;subst h2
  show bindL kindOf ((p,w)::P.zip vs) m p=_
  unfold bindL
  rw[FH fun v hv=>(List.nodup_cons.mp nd).1 (List.of_mem_zip hv).1,if_pos hk]
  simp
 |p::P,w::vs,i+1,m,nd,h1,h2,hk=>by
  show bindL kindOf ((p,w)::P.zip vs) m x=_
  unfold bindL
  exact ER (i:=i) (List.nodup_cons.mp nd).2 (by simpa using h1) (by simpa using h2) hk
theorem DH{kindOf:Str->Option NameKind}{x:Str}{v:Value}:∀{P:List Str}{vs:List Value}{i:Nat}{m:Str->Option Value},P.Nodup->P[i]? =some x->vs[i]? =some v->kindOf x≠some .local->
  bindC kindOf (P.zip vs) m x=some v
 |[],_,_,_,_,h,_,_=>by simp at h
 |_::_,[],_,_,_,_,h,_=>by simp at h
 |p::P,w::vs,0,m,nd,h1,h2,hk=>by
  simp at h1 h2;subst h1;subst h2
  show bindC kindOf ((p,w)::P.zip vs) m p=_
  unfold bindC
  rw[D7 fun v hv=>(List.nodup_cons.mp nd).1 (List.of_mem_zip hv).1,if_neg hk]
  simp
 |p::P,w::vs,i+1,m,nd,h1,h2,hk=>by
  show bindC kindOf ((p,w)::P.zip vs) m x=_
  unfold bindC
  exact DH (i:=i) (List.nodup_cons.mp nd).2 (by simpa using h1) (by simpa using h2) hk
def start(N:List Str)(vs:List V):St:=vs.map some++List.replicate (N.length-vs.length) none
def fU(CX:eC)(P:Program)(w:World)(K:PySem.W.Frag)(mg:Str->Option Value)(base:Heap)(N:List Str)(qual:Str)(scope:Scope)(f:Addr)(cd:Value)(A:Around)(outer:List Env)(s:Shared)(H:Hp)(E:XK):Cx where
 prog:=P
 w:=w
 K:=K
 mg:=mg
 base:=base
 A:=A.deeper (envOfC qual scope s.heap.objs.size f cd)
 N:=N
 cn:=s
 mN:=H
 env:=envOfC qual scope s.heap.objs.size f cd
 outer:=outer
 stack:=envOfC qual scope s.heap.objs.size f cd::outer
 ex:=[]
 calm:=true
 fn:=fun _=>true
 pn:=[]
 xe:=fun e s'=>wpAny (model P w) (A.deeper (envOfC qual scope s.heap.objs.size f cd)) (leaving (envOfC qual scope s.heap.objs.size f cd) e) (fun _ s''=>CX outer H s E e s'') (fun e' s''=>CX outer H s E e' s'') s'
theorem Fq{sc:Scope}{n:Nat}{x:Str}(h:sc.names.lookup x=some .cell):∃c,(cellsFrom n sc.names []).lookup x=some c:=by
 have q:=PySem.W.cellsFrom_some sc.names n [] (.inl h)
 exact Option.isSome_iff_exists.mp q
theorem Hq{CX:eC}{P:Program}{w:World}{K:PySem.W.Frag}{mg:Str->Option Value}{base:Heap}{N ps:List Str}{qual:Str}{scope:Scope}{f:Addr}{cd:Value}{A:Around}{outer:List Env}{s s1:Shared}{H:Hp}{E:XK}{us:List Value}{vs:List V}
  (S:aI N ps scope) (hd:A.handled=none) (e0:iy P w K mg base A outer s H) (hl:vs.length=ps.length) (r:aW vs us)
  (x:InCallC s s.heap.objs.size (bindL (envOfC qual scope s.heap.objs.size f cd).kindOf (ps.zip us) fun _=>none) (cellsFrom (s.heap.objs.size+1) scope.names []) (bindC (envOfC qual scope s.heap.objs.size f cd).kindOf (ps.zip us) fun _=>none) s1):
  Inv (fU CX P w K mg base N qual scope f cd A outer s H E) [] (start N vs) H s1:=by
 have hpl:ps.length<=N.length:=by have:=congrArg List.length S.pre;rw[List.length_take]at this;lia
 obtain⟨h1,tk,rfl,hk⟩:=x.done
 have noA:∀b:Addr,b∉(fU CX P w K mg base N qual scope f cd A outer s H E).ex:=fun b z=>absurd (show b∈([]:List Addr)from z) (by simp)
 refine⟨⟨e0.mod,S.kind,rfl,rfl,Nat.le_refl _,fun y z c h1 h2=>?_,fun y hy=>?_,fun y c _ h=>?_,fun _=>hd,Around.frames_deeper e0.frames,.inr ⟨rfl,rfl⟩,fun b z=>absurd z (noA b),e0.bs,e0.fF,fun b _ _=>noA b,fun b z=>absurd z (noA b),e0.d8,e0.gA⟩,
  rfl,e0.bare,Un.kept hk,⟨_,x.toInCall.ns,fun i y v h1 h2 h3=>?_⟩,fun y c h=>⟨_,x.cell y c h⟩,e0.az.fresh (Nat.le_refl _),fun y c h=>?_,fun p hp=>absurd (show p∈([]:List (Addr×Obj))from hp) (by simp),e0.az.kept hk,?_⟩
 ·exact name_of_addr x.apart (PySem.mem_of_lookup h1) (PySem.mem_of_lookup h2)
 ·have hy:scope.names.lookup y=some .cell\/scope.names.lookup y=some .free:=hy
  rcases hy with hy|hy
  ·exact Fq hy
  ·exact absurd rfl (S.Ng _ (PySem.mem_of_lookup hy))
 ·exact Nat.le_of_lt (x.above y c (PySem.mem_of_lookup h))
 ·have hi:i<vs.length:=by
   unfold start at h2
   by_cases hi:i<vs.length
   ·exact hi
   ·rw[List.getElem?_append_right (by simpa using hi)]at h2
    rw[List.getElem?_replicate]at h2
    split at h2<;>cases h2
  have ha:vs[i]? =some v:=by
   unfold start at h2
   rw[List.getElem?_append_left (by simpa using hi),List.getElem?_map]at h2
   cases e:vs[i]? with
   |none=>rw[e]at h2;cases h2
   |some a=>rw[e]at h2;cases h2;rfl
  obtain⟨u,hu,rv⟩:=r.get ha
  have hp:ps[i]? =some y:=by
   rw[<-S.pre,List.getElem?_take_of_lt (by lia)];exact h1
  have ndP:ps.Nodup:=by rw[<-S.pre];exact S.nd.sublist (List.take_sublist _ _)
  refine⟨u,rv,?_⟩
  rcases S.par y (List.mem_of_getElem? hp)with k|k
  ·exact .inl ⟨k,ER ndP hp hu k⟩
  ·obtain⟨c,e⟩:=Fq (n:=s.heap.objs.size+1) k
   refine .inr ⟨.inl k,c,e,?_⟩
   have q:=x.cell y c e
   rw[DH ndP hp hu (by show scope.names.lookup y≠_;rw[k];decide)]at q
   exact q
 ·exact e0.az.fresh (Nat.le_of_lt (x.above y c (PySem.mem_of_lookup h)))
 ·unfold start
  show _=N.length
  rw[List.length_append,List.length_map,List.length_replicate]
  lia
theorem CJ{CX:eC}{P:Program}{w:World}{K:PySem.W.Frag}{mg:Str->Option Value}{base:Heap}{k:Nat}{f:Addr}{name qual:Str}{params:Arguments}{body:List Stmt}{scope:Scope}{dV kV doc pm cdv ct oc:Value}{an od:Option Addr}
  {osl:Array (Option Value)} {N ps:List Str} {sp:Sp} (lk:K.lookup f=some ⟨oc,od,.func (PySem.W.fnOf name qual params body scope dV kV doc pm an cdv ct),osl⟩) (hcd:PySem.W.codeIn K cdv qual=true) (S:aI N ps scope)
  (len:∀vs H Q E,sp vs H Q E->vs.length=ps.length)
  (hbody:∀(A:Around)(outer:List Env)(s:Shared)(H:Hp)(vs:List V)(Q:VK)(E:XK),bC k (A.deeper (envOfC qual scope s.heap.objs.size f cdv))->sp vs H Q E->
   ∃t,d9 (fU CX P w K mg base N qual scope f cdv A outer s H E) body t/\t {nx:=fun _ H'=>Q .ay H',rt:=Q} (start N vs) H):
  ax P w K mg base CX (k+1) f (PySem.W.fnOf name qual params body scope dV kV doc pm an cdv ct) ps sp:=by
 refine⟨len,fun A outer s H args us vs Q E hr e0 hb r hsp=>?_⟩
 have hl:=len _ _ _ _ hsp
 have KX:K.In s.heap:=e0.mod.iA.keeps fun b o e=>(e0.bs b o e).1
 have lim:s.heap.NoLimit:=e0.mod.nolimit.keeps fun b o e=>(e0.bs b o e).1
 have hkind:∀y∈ps.zip us,scope.names.lookup y.1=some .local\/(scope.names.lookup y.1=some .cell/\((cellsFrom (s.heap.objs.size+1) scope.names []).lookup y.1).isSome=true):=fun⟨n,v⟩hy=>by
  rcases S.par n (List.of_mem_zip hy).1 with q|q
  ·exact .inl q
  ·exact .inr ⟨q,PySem.W.cellsFrom_some _ _ _ (.inl q)⟩
 refine codeAny_call_function hr.depth (KX _ _ lk) rfl S.co S.gen rfl (PySem.W.codeRec_of KX hcd) (hb _ _ _ _ ?_)
 refine wpAny_newFunctionEnv_cells S.kind hkind fun env he s1 x=>?_
 subst he
 refine⟨lim.keeps x.toInCall.keep,codeAny_func ?_⟩
 obtain⟨t,ht,hq⟩:=hbody A outer s H vs Q E (hr.deeper _) hsp
 have I:Inv (fU CX P w K mg base N qual scope f cdv A outer s H E) [] (start N vs) H s1:=Hq S hr.hd e0 hl r x
 refine wpAny_mono (ht [] s1 (start N vs) H _ I hq) (fun fl s' hs=>?_) fun e s' hs=>hs
 have fin:∀{σ':St}{H':Hp}{v:V}{u:Value},Inv (fU CX P w K mg base N qual scope f cdv A outer s H E) [] σ' H' s'->RelV v u->Q v H'->CE outer P w H s Q u s':=
  fun{σ' H' v u}J rv q=>⟨v,H',J.os,J.bare,J.base,J.az,rv,q⟩
 cases fl with
 |ret u=>
  obtain⟨v,σ',H',J,rv,q⟩:=hs
  exact fin J rv q
 |next=>
  obtain⟨σ',H',J,q⟩:=hs
  exact fin (v:=V.ay) (u:=Value.none) J rfl q
 |brk=>
  obtain⟨_,_,_,q⟩:=hs
  exact False.elim q
 |cont=>
  obtain⟨_,_,_,q⟩:=hs
  exact False.elim q
end L2
namespace L2
open PySem PySem.Spec PyProof.Rows
section
variable {X:Cx}{x:Str}{p pos:Pos}{e:Expr}{es:List Expr}{t:TA}{id T:String}{r:List V->Hp->VK->Prop}
def sv(r:List V->Hp->VK->Prop)(t:TA):TE:=fun σ H Q=>t σ H fun vs H1=>r vs H1 Q
theorem pq(hc:kN X (.builtin id) r)(hg:Gl X x)(hm:X.mg x=none)(hv:bootBuiltins x=some (.builtin id))(ha:PA X (e::es) t)(hn:x≠"__name__":=by decide)(hdb:(x==("__debug__":Str))=false:=by decide)
  (he:starEach (e::es) X.env=(false,eval e X.env)::starEach es X.env:=by rfl) (hpl:(backTo pos (starEach es X.env)).any (·.1)=false:=by rfl):PE X (.Call (.Name x p) (e::es) [] pos) (sv r t):=by
 intro pins s σ H Q I h
 refine wpAny_Call_Name_kw (Aw I hg hm hv ?_ hn hdb)
 exact PyProof.Rows.callWith_builtin1 (aH (ha pos pins s σ H _ I h) fun us s1⟨vs,H1,I1,r1,q1⟩=>hc pins s1 σ H1 vs us Q I1 r1 q1) he hpl
theorem Jy(hc:kN X (.type T) r)(hg:Gl X x)(hm:X.mg x=none)(hv:bootBuiltins x=some (.type T))(ha:PA X (e::es) t)(hn:x≠"__name__":=by decide)(hdb:(x==("__debug__":Str))=false:=by decide)
  (he:starEach (e::es) X.env=(false,eval e X.env)::starEach es X.env:=by rfl) (hpl:(backTo pos (starEach es X.env)).any (·.1)=false:=by rfl):PE X (.Call (.Name x p) (e::es) [] pos) (sv r t):=by
 intro pins s σ H Q I h
 refine wpAny_Call_Name_kw (Aw I hg hm hv ?_ hn hdb)
 exact PyProof.Rows.callWith_type1 (aH (ha pos pins s σ H _ I h) fun us s1⟨vs,H1,I1,r1,q1⟩=>hc pins s1 σ H1 vs us Q I1 r1 q1) he hpl
end
end L2
namespace HT
open PySem PyProof.Rows
section
open PySem.SeqAt
open PySem.AutoSeq1 (wpAny_loadPart')
open PySem.MeetsSeq PySem.MeetsSeq2 PySem.MeetsSeq3
end
section
variable {prog:Program}{w:World}{A:Around}{E:Value->Shared->Prop}{s:Shared}
def eO(n d:Nat):Option Int->Nat
 |none=>d
 |some v=>if v<0 then(v+(n:Int)).toNat else min v.toNat n
theorem D0(n d k:Nat):eO n d (some (k:Int))=min k n:=by
 show(if(k:Int)<0 then((k:Int)+(n:Int)).toNat else min (k:Int).toNat n)=min k n
 rw[if_neg (by lia),Int.toNat_natCast]
end
end HT
namespace L2
open PySem PySem.Spec PyProof.Rows
abbrev TO:=St->Hp->(Option Int->Hp->Prop)->Prop
def PO(X:Cx)(e:Option Expr)(t:TO):Prop:=
 ∀(pins:List (Addr×Obj))(s:Shared)(σ:St)(H:Hp)(Q:Option Int->Hp->Prop),Inv X pins σ H s->t σ H Q->
  wpAny (model X.prog X.w) X.A (evalPart e X.env) (fun u s'=>∃o H',Inv X pins σ H' s'/\IsPart u o/\Q o H') X.xe s
def sj(t:TE):TO:=fun σ H Q=>t σ H fun x H1=>∃i,x=.int i/\Q (some i) H1
section
variable {X:Cx}{e:Expr}{te:TE}{lo hi:Option Expr}{tl th:TO}{pos p2:Pos}
theorem vk(h:PE X e te):PO X (some e) (sj te):=by
 intro pins s σ H Q I hw
 rw[evalPart_some]
 refine aH (h pins s σ H _ I hw) fun u s1 hh28=>?_
 obtain⟨x,H1,I1,r1,q1⟩:=hh28
 obtain⟨i,rfl,q⟩:=q1
 obtain⟨t,rfl⟩:=r1
 exact⟨some i,H1,I1,.int i t,q⟩
def GH(X:Cx)(r:V->Option Int->Option Int->Hp->VK->Prop):Prop:=
 ∀(pins:List (Addr×Obj))(s:Shared)(σ:St)(H:Hp)(x:V)(v vl vu:Value)(lo hi:Option Int)(sl:Addr)(Q:VK),Inv X pins σ H s->RelV x v->s.heap.IsSliceOf sl vl vu .none->IsPart vl lo->IsPart vu hi->r x lo hi H Q->
  ∃T id,typeLookup (.type T) "__getitem__"=pure (some (.builtin id))/\s.TypeIs v T/\wpAny (model X.prog X.w) X.A (getItem v (.ref sl)) (EP X pins σ Q) X.xe s
def AR(r:V->Option Int->Option Int->Hp->VK->Prop)(te:TE)(tl th:TO):TE:=fun σ H Q=>te σ H fun x H1=>tl σ H1 fun l H2=>th σ H2 fun u H3=>r x l u H3 Q
theorem Df{r:V->Option Int->Option Int->Hp->VK->Prop}(hr:GH X r)(he:PE X e te)(hl:PO X lo tl)(hu:PO X hi th):PE X (.Subscript e (.Slice lo hi none p2) pos) (AR r te tl th):=by
 intro pins s σ H Q I h
 refine Subscript_ (aH (he pins s σ H _ I h) fun v s1 hh29=>?_)
 obtain⟨x,H1,I1,r1,q1⟩:=hh29
 refine wpAny_Slice (aH (hl pins s1 σ H1 _ I1 q1) fun vl s2⟨l,H2,I2,pl,q2⟩=>aH (hu pins s2 σ H2 _ I2 q2) fun vu s3 hh30=>?_)
 obtain⟨u,H3,I3,pu,q3⟩:=hh30
 rw[evalPart_none]
 refine wpAny_pure ?_
 have I4:Inv X pins σ H3 {s3 with heap:=s3.heap.push {cls:=.type "slice",data:=.fields #[vl,vu,.none]}}:=I3.kept (t':=s3.toks) fun b ob q=>Heap.get?_push_of_some _ q
 obtain⟨T,id,hT,ht,hg⟩:=hr pins {s3 with heap:=s3.heap.push {cls:=.type "slice",data:=.fields #[vl,vu,.none]}} σ H3 x v vl vu l u s3.heap.objs.size Q I4 r1 (Heap.IsSliceOf.new ..) pl pu q3
 show wpAny (model X.prog X.w) X.A (subscriptTail e (.Slice lo hi none p2) v (.ref s3.heap.objs.size)) (EP X pins σ Q) X.xe {s3 with heap:=s3.heap.push {cls:=.type "slice",data:=.fields #[vl,vu,.none]}}
 exact tail_any (ops:=[.ref s3.heap.objs.size,v]) ht hT hg (by with_unfolding_all rfl)
def j1(xs:List V)(lo hi:Option Int):List V:=(xs.drop (HT.eO xs.length 0 lo)).take (HT.eO xs.length xs.length hi-HT.eO xs.length 0 lo)
theorem Mi(xs:List V)(lo hi:Option Int):(j1 xs lo hi).length<=xs.length:=by
 unfold j1
 rw[List.length_take,List.length_drop]
 lia
end
end L2
namespace L2
open PySem PySem.Spec PyProof.Rows
def oC(n:Nat)(i:Int):Option Nat:=if 0<=i then(if i<n then some i.toNat else none)else if -(n:Int)<=i then some (i+n).toNat else none
def jE{α:Type}(xs:List α)(i:Int):Option α:=(oC xs.length i).bind fun j=>xs[j]?
theorem Nj{n:Nat}{i:Int}{j:Nat}(h:oC n i=some j):seqIndex? i n=some j/\j<n∧-(n:Int)<=i/\i<n:=by
 unfold oC at h
 by_cases h0:0<=i
 ·rw[if_pos h0]at h
  by_cases h1:i<n
  ·rw[if_pos h1]at h
   have e:i.toNat=j:=Option.some.inj h
   exact⟨by rw[seqIndex_of h0 h1,e],by lia,by lia,h1⟩
  ·rw[if_neg h1]at h;cases h
 ·rw[if_neg h0]at h
  by_cases h1: -(n:Int)<=i
  ·rw[if_pos h1]at h
   have e:(i+n).toNat=j:=Option.some.inj h
   exact⟨by rw[seqIndex_neg (by lia) h1,e],by lia,h1,by lia⟩
  ·rw[if_neg h1]at h;cases h
theorem BB{α:Type}{xs:List α}{i:Int}{v:α}(h:jE xs i=some v):∃j,seqIndex? i xs.length=some j/\xs[j]? =some v/\j<xs.length∧-(xs.length:Int)<=i/\i<xs.length:=by
 unfold jE at h
 cases e:oC xs.length i with
 |none=>rw[e]at h;cases h
 |some j=>
  rw[e]at h
  obtain⟨h1,h2,h3,h4⟩:=Nj e
  exact⟨j,h1,h,h2,h3,h4⟩
theorem lM{α:Type}{xs:List α}{j:Nat}{v:α}(h:xs[j]? =some v):jE xs (j:Int)=some v:=by
 have hj:j<xs.length:=(List.getElem?_eq_some_iff.mp h).1
 have e:oC xs.length (j:Int)=some j:=by
  unfold oC
  rw[if_pos (by lia),if_pos (by lia)];simp
 unfold jE;rw[e];exact h
def J0(b:Expr):Prop:=∀o i,subscripted b false o i=operate [o,i] (getItem o i)
def vL(X:Cx)(r:R2):Prop:=
 ∀(value slice:Expr)(pins:List (Addr×Obj))(s:Shared)(σ:St)(H:Hp)(x y:V)(v u:Value)(Q:VK),Inv X pins σ H s->RelV x v->RelV y u->r x y H Q->
  subscripted slice false v u=operate [v,u] (getItem v u)->wpAny (model X.prog X.w) X.A (subscriptTail value slice v u) (EP X pins σ Q) X.xe s
def zJ(X:Cx)(id:String)(r:V->List V->Hp->VK->Prop):Prop:=
 ∀(pins:List (Addr×Obj))(s:Shared)(σ:St)(H:Hp)(x:V)(xs:List V)(v:Value)(us:List Value)(Q:VK),Inv X pins σ H s->RelV x v->aW xs us->r x xs H Q->
  wpAny (model X.prog X.w) X.A (call (.builtin id) (v::us)) (EP X pins σ Q) X.xe s
section
variable {X:Cx}{a b:Expr}{ta tb:TE}{pos:Pos}
theorem dU{r:R2}(hr:vL X r)(ha:PE X a ta)(hb:PE X b tb)(hs:J0 b):PE X (.Subscript a b pos) (eF r ta tb):=by
 intro pins s σ H Q I h
 exact Subscript_ (A5 ha hb I h fun v u s2 x y H2 I2 rx ry q=>hr a b pins s2 σ H2 x y v u Q I2 rx ry q (hs _ _))
def HH(K:PySem.W.Frag):R2:=fun x y H Q=>∃p xs i v,x=.ref p/\y=.int i/\aM K H p xs/\jE xs i=some v/\Q v H
def Jj(K:PySem.W.Frag):R2:=fun x y H Q=>∃p xs i v,x=.ref p/\y=.int i/\dZ K H p xs/\jE xs i=some v/\Q v H
def OU:R2:=fun x y H Q=>∃z i c,x=.str z/\y=.int i/\z.length<=sizeLine/\jE z.cps.toList i=some c/\Q (.str ⟨#[c]⟩) H
theorem f6:vL X (HH X.K):=by
 intro value slice pins s σ H x y v u Q I rx ry h hs
 obtain⟨p,xs,i,z,rfl,rfl,hq,he,q⟩:=h
 cases rx
 obtain⟨t,rfl⟩:=ry
 obtain⟨its,r,pl,hz⟩:=I.list hq
 obtain⟨j,h1,h2,h3,h4,h5⟩:=BB he
 obtain⟨w,ew,rw'⟩:=r.get h2
 have hl:=r.length
 have hn:=rJ
 have fin:EP X pins σ Q w s:=⟨z,H,I,rw',q⟩
 by_cases h0:0<=i
 ·have hj:i.toNat=j:=by
   rw[seqIndex_of h0 h5]at h1
   exact Option.some.inj h1
  exact item_listR pl.isList h0 (by lia) (by rw[hj];simpa using ew) fin hs
 ·have hj:(i+(its.toArray.size:Int)).toNat=j:=by
   rw[seqIndex_neg (by lia) h4]at h1
   rw[List.size_toArray,<-hl]
   exact Option.some.inj h1
  exact subscriptTail_builtinR (x:=w) pl.isList.typeIs slot_list_getitem.lookup
   (wpAny_getItem_list_neg (Q:=fun r s'=>r=w/\EP X pins σ Q r s') pl.isList (by lia) (by rw[List.size_toArray]<;>lia) (by lia) (by rw[hj];simpa using ew) ⟨rfl,fin⟩) hs
theorem uk:vL X (Jj X.K):=by
 intro value slice pins s σ H x y v u Q I rx ry h hs
 obtain⟨p,xs,i,z,rfl,rfl,hq,he,q⟩:=h
 cases rx
 obtain⟨t,rfl⟩:=ry
 obtain⟨its,r,pl,hz⟩:=I.tuple hq
 obtain⟨j,h1,h2,h3,h4,h5⟩:=BB he
 obtain⟨w,ew,rw'⟩:=r.get h2
 have hl:=r.length
 have hn:=rJ
 have fin:EP X pins σ Q w s:=⟨z,H,I,rw',q⟩
 exact subscriptTail_builtinR (x:=w) pl.typeIs slot_tuple_getitem.lookup
  (getItem_tuple (j:=j) (Q:=fun r s'=>r=w/\EP X pins σ Q r s') pl (by lia) (by lia) (by rw[List.size_toArray,<-hl];exact h1) (by simpa using ew) ⟨rfl,fin⟩) hs
theorem GY:vL X OU:=by
 intro value slice pins s σ H x y v u Q I rx ry h hs
 obtain⟨z,i,c,rfl,rfl,hz,he,q⟩:=h
 obtain⟨t,rfl⟩:=rx
 obtain⟨t',rfl⟩:=ry
 obtain⟨j,h1,h2,h3,h4,h5⟩:=BB he
 have hl:z.cps.toList.length=z.length:=by simp[Str.length]
 rw[hl]at h1 h4 h5
 have hn:=rJ
 exact tail_any (typeIs_str s z t) slot_str_getitem.lookup (getItem_str (c:=c) (by
  have e1:decide (i< -(2^63:Int))=false:=decide_eq_false (by lia)
  have e2:decide (i>=2^63)=false:=decide_eq_false (by lia)
  rw[e1,e2,Bool.or_false]) (by rw[h1];simpa using h2) ⟨.str ⟨#[c]⟩,H,I.tok _,⟨_,rfl⟩,q⟩) hs
theorem Mj(lo hi:Option Int)(n:Nat):(sliceBounds lo hi none n).1=((HT.eO n 0 lo:Nat):Int)/\(sliceBounds lo hi none n).2.1=((HT.eO n n hi:Nat):Int)/\(sliceBounds lo hi none n).2.2=1:=by
 refine⟨?_,?_,rfl⟩
 ·cases lo with
  |none=>simp[sliceBounds,HT.eO]
  |some i=>
   simp only[sliceBounds,HT.eO,Option.getD_none,show(1:Int)>0 by decide,if_true]
   by_cases h:i<0
   ·simp only[h,if_true]<;>lia
   ·simp only[h,if_false]<;>lia
 ·cases hi with
  |none=>simp[sliceBounds,HT.eO]
  |some i=>
   simp only[sliceBounds,HT.eO,Option.getD_none,show(1:Int)>0 by decide,if_true]
   by_cases h:i<0
   ·simp only[h,if_true]<;>lia
   ·simp only[h,if_false]<;>lia
theorem Jb(its:List Value)(lo hi:Option Int):slicePick its.toArray lo hi none=((its.drop (HT.eO its.length 0 lo)).take (HT.eO its.length its.length hi-HT.eO its.length 0 lo)).toArray:=by
 obtain⟨h1,h2,h3⟩:=Mj lo hi its.toArray.size
 unfold slicePick
 rw[h1,h2,h3]
 simp only[sliceRange_one,pick_run,List.size_toArray]<;>rfl
def zo(K:PySem.W.Frag):V->Option Int->Option Int->Hp->VK->Prop:=fun x lo hi H Q=>∃a xs,x=.ref a/\aM K H a xs/\∀p,H p=none->Q (.ref p) (upd H p (.lst (j1 xs lo hi)))
theorem CC:GH X (zo X.K):=by
 intro pins s σ H x v vl vu lo hi sl Q I rx hs pl pu h
 obtain⟨a,xs,rfl,hx,q⟩:=h
 cases rx
 obtain⟨its,r,ht,hz⟩:=I.list hx
 have hlen:=r.length
 refine⟨"list",_,slot_list_getitem.lookup,ht.isList.typeIs,?_⟩
 refine wpAny_getItem_list_slice ht.isList hs pl pu .none (by simp) ?_ (by rw[List.size_toArray]<;>lia)
 rw[Jb,<-hlen]
 refine⟨.ref s.heap.objs.size,_,I.laid (t':=s.toks) (o:=.lst (j1 xs lo hi)) (fun b ob q=>Heap.get?_push_of_some _ q) (Nat.le_refl _) ?_,rfl,q _ (I.az.fresh (Nat.le_refl _))⟩
 exact⟨Nat.le_trans (Mi xs lo hi) hz,_,0,(r.drop (HT.eO xs.length 0 lo)).take (HT.eO xs.length xs.length hi-HT.eO xs.length 0 lo),Heap.get?_push_size _ rfl⟩
def iX:V->Bool
 | .ay=>true
 | .bl _=>true
 | .int _=>true
 | .str _=>true
 |_=>false
def jI:V->V->Bool
 | .ay,.ay=>true
 | .bl a,.bl b=>a==b
 | .bl a,.int b=>(if a then 1 else 0)==b
 | .int a,.bl b=>a==(if b then 1 else 0)
 | .int a,.int b=>a==b
 | .str a,.str b=>a==b
 |_,_=>false
theorem IF{A:Around}{s:Shared}{y x:V}{u v:Value}(ry:RelV y u)(rx:RelV x v)(fy:iX y=true)(fx:iX x=true):SeqAt.EqAt A s u v (jI y x):=by
 cases y with
 |ay=>
  cases ry
  cases x with
  |ay=>cases rx;exact SeqAt.EqAt.same _
  |bl b=>cases rx;exact SeqAt.EqAt.none_bool b
  |int b=>obtain⟨t,rfl⟩:=rx;exact SeqAt.EqAt.none_int b t
  |str b=>obtain⟨t,rfl⟩:=rx;exact SeqAt.EqAt.none_str b t
  |_=>exact absurd (show false=true from fx) Bool.false_ne_true
 |bl a=>
  cases ry
  cases x with
  |ay=>cases rx;exact SeqAt.EqAt.bool_none a
  |bl b=>cases rx;exact SeqAt.EqAt.bool_bool a b
  |int b=>obtain⟨t,rfl⟩:=rx;exact SeqAt.EqAt.bool_int a b t
  |str b=>obtain⟨t,rfl⟩:=rx;exact SeqAt.EqAt.bool_str a b t
  |_=>exact absurd (show false=true from fx) Bool.false_ne_true
 |int a=>
  obtain⟨t',rfl⟩:=ry
  cases x with
  |ay=>cases rx;exact SeqAt.EqAt.int_none a t'
  |bl b=>cases rx;exact SeqAt.EqAt.int_bool a t' b
  |int b=>obtain⟨t,rfl⟩:=rx;exact SeqAt.EqAt.int_int a t' b t
  |str b=>obtain⟨t,rfl⟩:=rx;exact SeqAt.EqAt.int_str a t' b t
  |_=>exact absurd (show false=true from fx) Bool.false_ne_true
 |str a=>
  obtain⟨t',rfl⟩:=ry
  cases x with
  |ay=>cases rx;exact SeqAt.EqAt.str_none a t'
  |bl b=>cases rx;exact SeqAt.EqAt.str_bool a t' b
  |int b=>obtain⟨t,rfl⟩:=rx;exact SeqAt.EqAt.str_int a t' b t
  |str b=>obtain⟨t,rfl⟩:=rx;exact SeqAt.EqAt.str_str a t' b t
  |_=>exact absurd (show false=true from fx) Bool.false_ne_true
 |_=>exact absurd (show false=true from fy) Bool.false_ne_true
def jn(x:V)(u:Value):Bool:=match u with
 | .none=>jI .ay x
 | .bool b=>jI (.bl b) x
 | .int i _=>jI (.int i) x
 | .str z _=>jI (.str z) x
 |_=>false
theorem E4{x y:V}{u:Value}(r:RelV y u)(f:iX y=true):jn x u=jI y x:=by
 cases y with
 |ay=>cases r;rfl
 |bl b=>cases r;rfl
 |int i=>obtain⟨t,rfl⟩:=r;rfl
 |str z=>obtain⟨t,rfl⟩:=r;rfl
 |_=>exact absurd (show false=true from f) Bool.false_ne_true
theorem yf{x:V}:∀{xs:List V}{us:List Value},aW xs us->xs.all iX=true->us.any (jn x)=xs.any fun y=>jI y x
 |_,_,.nil,_=>rfl
 |y::xs,u::us,.cons r t,f=>by
  rw[List.all_cons,Bool.and_eq_true]at f
  rw[List.any_cons,List.any_cons,E4 r f.1,yf t f.2]
theorem AB{A:Around}{s:Shared}{x:V}{v:Value}(rx:RelV x v)(fx:iX x=true):∀{xs:List V}{us:List Value},aW xs us->xs.all iX=true->∀u∈us,SeqAt.EqAt A s u v (jn x u)
 |_,_,.nil,_=>fun u hu=>by cases hu
 |y::xs,u::us,.cons r t,f=>fun u' hu=>by
  rw[List.all_cons,Bool.and_eq_true]at f
  rcases List.mem_cons.mp hu with rfl|hu
  ·rw[E4 r f.1];exact IF r rx f.1 fx
  ·exact AB rx fx t f.2 u' hu
def ee(x:V)(xs:List V):Bool:=xs.any fun y=>jI y x
def BX(K:PySem.W.Frag)(neg:Bool):R2:=fun x y H Q=>∃p xs,y=.ref p/\(aM K H p xs\/dZ K H p xs)/\iX x=true/\xs.all iX=true/\Q (.bl (if neg then !ee x xs else ee x xs)) H
theorem rn:dH X (compareOp .In) (BX X.K false):=by
 intro pins s σ H x y v u Q I rx ry h
 obtain⟨p,xs,rfl,hq,fx,fs,q⟩:=h
 cases ry
 rcases hq with hq|hq
 ·obtain⟨its,r,pl,hz⟩:=I.list hq
  refine SeqAt.in_listAt (jn x) pl.isList (fun w hw=>AB rx fx r fs w (by simpa using hw)) ⟨.bl _,H,I,rfl,?_⟩
  rw[show its.toArray.any (jn x)=its.any (jn x) by simp,yf r fs]
  exact q
 ·obtain⟨its,r,pl,hz⟩:=I.tuple hq
  refine SeqAt.in_tupleAt (jn x) pl (fun w hw=>AB rx fx r fs w (by simpa using hw)) ⟨.bl _,H,I,rfl,?_⟩
  rw[show its.toArray.any (jn x)=its.any (jn x) by simp,yf r fs]
  exact q
theorem zY:kN X (.builtin "len") (fun xs H Q=>∃p ys,xs=[.ref p]/\(aM X.K H p ys\/dZ X.K H p ys)/\Q (.int ys.length) H):=by
 intro pins s σ H xs us Q I r h
 obtain⟨p,ys,rfl,hq,q⟩:=h
 obtain⟨u,rfl,rx⟩:=vals1 r
 cases rx
 have hn:=rJ
 rcases hq with hq|hq
 ·obtain⟨its,r',pl,hz⟩:=I.list hq
  have hlen:=r'.length
  exact Calls.call_len_list pl.isList (by simp only[List.size_toArray]<;>lia) ⟨.int ys.length,H,I.tok _,⟨s.toks+1,by rw[List.size_toArray,hlen]⟩,q⟩
 ·obtain⟨its,r',pl,hz⟩:=I.tuple hq
  have hlen:=r'.length
  exact len_tuple pl (by simp only[List.size_toArray]<;>lia) ⟨.int ys.length,H,I.tok _,⟨s.toks+1,by rw[List.size_toArray,hlen]⟩,q⟩
theorem HW:kN X (.builtin "len") (fun xs H Q=>∃z,xs=[.str z]/\z.length<=sizeLine/\Q (.int z.length) H):=by
 intro pins s σ H xs us Q I r h
 obtain⟨z,rfl,hz,q⟩:=h
 obtain⟨u,rfl,t,rfl⟩:=vals1 r
 have hn:=rJ
 exact len_str (by lia) ⟨.int z.length,H,I.tok _,⟨_,rfl⟩,q⟩
def DL(K:PySem.W.Frag)(T:String)(x:V)(H:Hp):Prop:=match x with
 | .str _=>T="str"
 | .int _=>T="int"
 | .ref p=>(T="list"/\∃xs,aM K H p xs)\/(T="tuple"/\∃o,K.lookup p=some o/\o.cls=.type "tuple"/\o.dict=none)\/
   (T="dict"/\((∃kvs,H p=some (.dK kvs))\/∃kvs,H p=some (.dT kvs)))\/(T="set"/\∃S n,H p=some (.set S n))
 |_=>False
theorem Oq{pins:List (Addr×Obj)}{σ:St}{H:Hp}{s:Shared}{T:String}{x:V}{v:Value}(I:Inv X pins σ H s)(r:RelV x v)(ty:DL X.K T x H):
  s.TypeIs v T/\∀a,v=.ref a->∃ob,s.heap.get? a=some ob/\ob.dict=none:=by
 cases x with
 |str z=>
  obtain⟨t,rfl⟩:=r
  cases (show T="str" from ty)
  exact⟨typeIs_str s z t,fun _ e=>nomatch e⟩
 |int i=>
  obtain⟨t,rfl⟩:=r
  cases (show T="int" from ty)
  exact⟨typeIs_int s i t,fun _ e=>nomatch e⟩
 |ref p=>
  cases r
  rcases ty with ⟨rfl,xs,hq⟩|⟨rfl,o,hk,hc,hd⟩|⟨rfl,hk⟩|⟨rfl,S,n,hk⟩
  ·obtain⟨its,_,pl,_⟩:=I.list hq
   refine⟨pl.isList.typeIs,fun a e=>?_⟩
   cases e
   obtain⟨o,n,e,c,hd,_⟩:=pl
   exact⟨o,e,hd⟩
  ·refine⟨⟨o,I.bo p o hk,hc⟩,fun a e=>?_⟩
   cases e
   exact⟨o,I.bo _ o hk,hd⟩
  ·have z:∃o,s.heap.get? p=some o/\o.ExactDict:=by
    rcases hk with ⟨kvs,hk⟩|⟨kvs,hk⟩
    ·obtain⟨_,_,_,_,o,_,_,e,ex,_⟩:=I.az p _ hk
     exact⟨o,e,ex⟩
    ·obtain⟨_,_,_,_,o,_,_,e,ex,_⟩:=I.az p _ hk
     exact⟨o,e,ex⟩
   obtain⟨o,e,ex⟩:=z
   refine⟨⟨o,e,ex.1⟩,fun a e2=>?_⟩
   cases e2
   exact⟨o,e,ex.2.1⟩
  ·obtain⟨o,_,_,_,e,ex,_⟩:=I.az p _ hk
   refine⟨⟨o,e,ex.1⟩,fun a e2=>?_⟩
   cases e2
   exact⟨o,e,ex.2.1⟩
 |_=>exact False.elim ty
def QV(K:PySem.W.Frag)(T:String)(r:V->List V->Hp->VK->Prop)(to:TE)(t:TA):TE:=fun σ H Q=>to σ H fun x H1=>DL K T x H1/\t σ H1 fun xs H2=>r x xs H2 Q
variable {o e:Expr}{es:List Expr}{to:TE}{t:TA}{name:Str}{apos cpos:Pos}{T id:String}{r:V->List V->Hp->VK->Prop}
theorem eh(pa:PlainAttrs T)(slot:Slot T name id)(hty:typeOf (.builtin id)=pure (.type "method_descriptor"))(hm:zJ X id r)(ho:PE X o to)(ha:PA X (e::es) t)
  (hbase:attributeBase o name X.env (eval o X.env)=eval o X.env:=by rfl)
  (hfew:((backTo cpos (starEach (e::es) X.env)).all (fun x=> !x.1)&&(backToKw cpos (keywordEach [] X.env)).all (fun x=>x.1.isSome)
   &&decide ((e::es).length+([]:List Keyword).length+(if([]:List Keyword).isEmpty then 0 else 1)<30))=true:=by rfl)
  (hline:(apos.endLine==cpos.line)=true:=by rfl) (hs:starEach (e::es) X.env=(false,eval e X.env)::starEach es X.env:=by rfl) (hplain:(backTo cpos (starEach es X.env)).any (·.1)=false:=by rfl):
  PE X (.Call (.Attribute o name apos) (e::es) [] cpos) (QV X.K T r to t):=by
 intro pins s σ H Q I h
 refine wpAny_Call_method_late hbase hfew hline rfl (aH (ho pins s σ H _ I h) fun v s1 hh31=>?_)
 obtain⟨x,H1,I1,r1,ty,q1⟩:=hh31
 obtain⟨h1,h2⟩:=Oq I1 r1 ty
 refine⟨T,id,pa,slot,hty,h1,h2,?_⟩
 have hA:=ha cpos pins s1 σ H1 _ I1 q1
 rw[hs]at hA ⊢
 refine Calls.callWith_builtin (by show(false||(backTo cpos (starEach es X.env)).any (·.1))=false;rw[hplain]<;>rfl) (Calls.evalArgs_plain ?_)
 exact aH hA fun us s2⟨vs,H2,I2,r2,q2⟩=>hm pins s2 σ H2 x vs v us Q I2 r1 r2 q2
end
end L2
namespace L2
open PySem PySem.Spec PyProof.Rows
def DX(X:Cx)(id:String)(r:V->List V->Hp->VK->Prop):Prop:=
 ∀(pins:List (Addr×Obj))(s:Shared)(σ:St)(H:Hp)(x:V)(xs:List V)(v:Value)(us:List Value)(Q:VK),Inv X pins σ H s->RelV x v->aW xs us->r x xs H Q->
  wpAny (model X.prog X.w) X.A (call (.builtin id) (v::us)) (EP X pins σ Q) X.xe s
theorem aW.one:∀{x:V}{us:List Value},aW [x] us->∃u,us=[u]/\RelV x u
 |_,_,.cons r .nil=>⟨_,rfl,r⟩
section
variable {X:Cx}{pins:List (Addr×Obj)}{σ:St}{H:Hp}{s:Shared}{l b:Addr}{xs ys zs:List V}
theorem Inv.CS{its its':List Value}{n:Nat}{f:Array Value->Array Value}{t':Nat}(I:Inv X pins σ H s)(hH:H l=some (.lst xs))
  (e:s.heap.get? l=some {cls:=.type "list",data:=.seq its.toArray n}) (hf:f its.toArray=its'.toArray) (hv:aW ys its') (hz:ys.length<=sizeLine):
  Inv X pins σ (upd H l (.lst ys)) {s with heap:=s.heap.update l (Obj.mapSeq f),toks:=t'}:=by
 have q:=PySem.IsL.update e f
 rw[hf]at q
 refine I.write (x:=l) (e:=l) (by rw[hH];exact trivial) (.inl rfl) (fun b' u hb hu=>(Heap.get?_update_other s.heap (Obj.mapSeq f) (Ne.symm hb)).trans hu) ⟨_,q⟩ ?_
 exact⟨hz,its',_,hv,q⟩
theorem Inv.Ah(I:Inv X pins σ H s)(hH:H l=some (.lst xs)):xs.length<=sizeLine/\∃(its:List Value)(n:Nat),aW xs its/\xs.length=its.length/\s.heap.get? l=some {cls:=.type "list",data:=.seq its.toArray n}:=by
 obtain⟨z,its,n,r,e⟩:=I.az l _ hH
 exact⟨z,its,n,r,r.length,e⟩
theorem Lk{n:Nat}(h:n<=sizeLine):Builtin.List.listTooLong n=false:=by
 unfold Builtin.List.listTooLong
 exact decide_eq_false (by lia)
end
section
variable {X:Cx}
def LW:V->List V->Hp->VK->Prop:=fun x vs H Q=>∃l xs y,x=.ref l/\vs=[y]/\H l=some (.lst xs)/\xs.length<sizeLine/\Q .ay (upd H l (.lst (xs++[y])))
theorem gJ:DX X "list.append" LW:=by
 intro pins s σ H x vs v us Q I rx rv h
 obtain⟨l,xs,y,rfl,rfl,hH,hz,q⟩:=h
 cases rx
 obtain⟨u,rfl,ru⟩:=rv.one
 obtain⟨z,its,n,r,hl,e⟩:=I.Ah hH
 refine call_meets F.slot_list_append ⟨_,e,rfl⟩ F.entry_list_append (F.args_list_append_2 _ _) (PySem.list_append l its.toArray n u (by rw[List.size_toArray];lia)) ⟨e,?_⟩
 refine⟨.ay,_,I.CS (its':=its++[u]) hH e (by simp) (r.append (.cons ru .nil)) ?_,rfl,q⟩
 rw[List.length_append,List.length_singleton]
 lia
def Ky:V->List V->Hp->VK->Prop:=fun x vs H Q=>∃l b xs zs,x=.ref l/\vs=[.ref b]/\H l=some (.lst xs)/\H b=some (.lst zs)/\xs.length+zs.length<=sizeLine/\Q .ay (upd H l (.lst (xs++zs)))
theorem rj:DX X "list.extend" Ky:=by
 intro pins s σ H x vs v us Q I rx rv h
 obtain⟨l,b,xs,zs,rfl,rfl,hH,hB,hz,q⟩:=h
 cases rx
 obtain⟨u,rfl,ru⟩:=rv.one
 cases ru
 obtain⟨z,its,n,r,hl,e⟩:=I.Ah hH
 obtain⟨z2,its2,n2,r2,hl2,e2⟩:=I.Ah hB
 have hsz:its.toArray.size+its2.toArray.size<=sizeLine:=by rw[List.size_toArray,List.size_toArray];lia
 have hlong:¬(!its.toArray.isEmpty&&Builtin.List.listTooLong (its.toArray.size+its2.toArray.size))=true:=by
  rw[Lk hsz,Bool.and_false]
  exact Bool.false_ne_true
 refine call_meets F.slot_list_extend ⟨_,e,rfl⟩ F.entry_list_extend (F.args_list_extend_2 _ _)
  (AutoSeq1.list_extend_list_list_0 l its.toArray n b its2.toArray n2 hlong (by rw[List.size_toArray];lia) (by lia)) ⟨e,e2,?_⟩
 refine⟨.ay,_,I.CS (its':=its++its2) hH e (by simp) (r.append r2) ?_,rfl,q⟩
 rw[List.length_append]
 lia
end
section
variable {prog:Program}{w:World}{A:Around}{E:Value->Shared->Prop}{s:Shared}
set_option maxRecDepth 100000 in
end
section
variable {X:Cx}
end
end L2
namespace L2
open PySem PySem.Spec PyProof.Rows
section
variable {prog:Program}{w:World}{A:Around}{E:Value->Shared->Prop}{s:Shared}{l:Addr}{its:List Value}{ns:List Int}{Q:Value->Shared->Prop}
end
section
variable {X:Cx}
end
section
variable {X:Cx}
end
section
variable {X:Cx}
end
section
variable {X:Cx}
end
section
variable {X:Cx}{pins:List (Addr×Obj)}{σ:St}{H:Hp}{s:Shared}
end
section
variable {X:Cx}
end
end L2
namespace L2
open PySem PySem.Spec PyProof.Rows
abbrev Gy(h:Heap)(c:Addr)(v:Option Value):Prop:=h.IsCell c v
def Lc(scope sc:Scope):Scope:=
 {scope with names:=scope.names.map fun(n,k)=>if(k== .free&&sc.kind== .function&&sc.names.lookup n==some .cell)then(n,.cell)else(n,k)}
def dD(cells:List (Str×Addr)):List (Str×NameKind)->List (Str×Addr)->List (Str×Addr)
 |[],acc=>acc
 |(n,k)::r,acc=>if k== .free then dD cells r ((n,(cells.lookup n).getD 0)::acc)else dD cells r acc
theorem BU(env:Env)(f:Str×NameKind->List (Str×Addr)->Sem (ForInStep (List (Str×Addr))))
  (hf:∀n k c,f (n,k) c=if k== .free then(do let a <-cellOf env n;pure (.yield ((n,a)::c)))else pure (.yield c)):
  ∀(names:List (Str×NameKind))(acc:List (Str×Addr)),(∀y∈names,y.2=.free->∃c,env.cells.lookup y.1=some c)->forIn names acc f=pure (dD env.cells names acc)
 |[],acc,_=>by rw[List.forIn_nil];rfl
 |(n,k)::r,acc,h=>by
  rw[List.forIn_cons,hf]
  have ih:=fun acc=>BU env f hf r acc fun y hy=>h y (List.mem_cons_of_mem _ hy)
  unfold dD
  by_cases hk:(k==NameKind.free)=true
  ·rw[if_pos hk,if_pos hk]
   obtain⟨c,hc⟩:=h (n,k) List.mem_cons_self (by simpa using hk)
   have e:cellOf env n=pure c:=by unfold cellOf;rw[hc]
   rw[e]
   have e2:(env.cells.lookup n).getD 0=c:=by rw[hc];rfl
   rw[e2]
   exact ih _
  ·rw[if_neg hk,if_neg hk]
   exact ih _
theorem IX{scope:Scope}{env:Env}(h:∀y∈scope.names,y.2=.free->∃c,env.cells.lookup y.1=some c):closureFor scope env=pure (dD env.cells scope.names []):=by
 simp only[closureFor]
 rw[BU env _ (fun n k c=>rfl) scope.names [] h]
 rfl
theorem mem_lookup{α:Type}:∀{l:List (Str×α)}{n:Str}{c:α},(n,c)∈l->∃c',l.lookup n=some c'
 |(k,v)::r,n,c,h=>by
  rw[List.lookup_cons]
  cases hb:n==k with
  |true=>exact⟨_,rfl⟩
  |false=>
   rcases List.mem_cons.mp h with e|h
   ·cases e;simp at hb
   ·exact mem_lookup h
theorem tX{cells:List (Str×Addr)}:∀{names:List (Str×NameKind)}{acc:List (Str×Addr)}{n:Str}{c:Addr},(n,c)∈dD cells names acc->(n,c)∈acc\/((n,.free)∈names/\c=(cells.lookup n).getD 0)
 |[],_,_,_,h=>.inl h
 |(m,k)::r,acc,n,c,h=>by
  unfold dD at h
  split at h
  ·rename_i hk
   have hk:k=.free:=by simpa using hk
   rcases tX h with h|⟨h1,h2⟩
   ·rcases List.mem_cons.mp h with e|h
    ·cases e;exact .inr ⟨hk▸List.mem_cons_self,rfl⟩
    ·exact .inl h
   ·exact .inr ⟨List.mem_cons_of_mem _ h1,h2⟩
  ·rcases tX h with h|⟨h1,h2⟩
   ·exact .inl h
   ·exact .inr ⟨List.mem_cons_of_mem _ h1,h2⟩
theorem xO{cells:List (Str×Addr)}:∀{names:List (Str×NameKind)}{acc:List (Str×Addr)}{p:Str×Addr},p∈acc->p∈dD cells names acc
 |[],_,_,h=>h
 |(m,k)::r,acc,p,h=>by
  unfold dD
  split
  ·exact xO (List.mem_cons_of_mem _ h)
  ·exact xO h
theorem yR{cells:List (Str×Addr)}:∀{names:List (Str×NameKind)}{acc:List (Str×Addr)}{n:Str},(n,.free)∈names->(n,(cells.lookup n).getD 0)∈dD cells names acc
 |(m,k)::r,acc,n,h=>by
  unfold dD
  rcases List.mem_cons.mp h with e|h
  ·cases e
   exact xO List.mem_cons_self
  ·split
   ·exact yR h
   ·exact yR h
theorem qM:∀{names:List (Str×NameKind)}{h:Heap}{acc:List (Str×Addr)}{x:Str}{c:Addr},(x,c)∈cellsFrom h.objs.size names acc->
  (x,c)∈acc\/((x,.cell)∈names/\h.objs.size<=c/\Gy (pushCells h names) c none)
 |[],_,_,_,_,h=>.inl h
 |(n,k)::r,h,acc,x,c,hm=>by
  unfold cellsFrom at hm
  unfold pushCells
  split at hm
  ·rename_i hk
   rw[if_pos hk]
   have hk:k=.cell:=by simpa using hk
   rw[<-Heap.size_push h {cls:=.type "cell",data:=.cell none}]at hm
   rcases qM hm with hm|⟨h1,h2,h3⟩
   ·rcases List.mem_cons.mp hm with e|hm
    ·cases e
     exact .inr ⟨hk▸List.mem_cons_self,Nat.le_refl _,_,pushCells_keeps r _ _ _ (Heap.get?_push_size _ rfl),rfl⟩
    ·exact .inl hm
   ·rw[Heap.size_push]at h2
    exact .inr ⟨List.mem_cons_of_mem _ h1,Nat.le_of_succ_le h2,h3⟩
  ·rename_i hk
   rw[if_neg hk]
   rcases qM hm with hm|⟨h1,h2,h3⟩
   ·exact .inl hm
   ·exact .inr ⟨List.mem_cons_of_mem _ h1,h2,h3⟩
theorem tZ:∀{names:List (Str×NameKind)}{n:Nat}{acc:List (Str×Addr)}{p:Str×Addr},p∈acc->p∈cellsFrom n names acc
 |[],_,_,_,h=>h
 |(m,k)::r,n,acc,p,h=>by
  unfold cellsFrom
  split
  ·exact tZ (List.mem_cons_of_mem _ h)
  ·exact tZ h
theorem y1:∀{names:List (Str×NameKind)}{n:Nat}{acc:List (Str×Addr)}{x:Str},(x,.cell)∈names->∃c,(x,c)∈cellsFrom n names acc
 |(m,k)::r,n,acc,x,h=>by
  unfold cellsFrom
  rcases List.mem_cons.mp h with e|h
  ·cases e
   exact⟨n,tZ List.mem_cons_self⟩
  ·split
   ·exact y1 h
   ·exact y1 h
theorem A1:∀{names:List (Str×NameKind)}{h:Heap}{acc:List (Str×Addr)}{x y:Str}{c:Addr},(∀p∈acc,p.2<h.objs.size)->(∀x y c,(x,c)∈acc->(y,c)∈acc->x=y)->
  (x,c)∈cellsFrom h.objs.size names acc->(y,c)∈cellsFrom h.objs.size names acc->x=y
 |[],_,_,_,_,_,_,hi,h1,h2=>hi _ _ _ h1 h2
 |(n,k)::r,h,acc,x,y,c,hl,hi,h1,h2=>by
  unfold cellsFrom at h1 h2
  split at h1
  ·rename_i hk
   rw[if_pos hk]at h2
   rw[<-Heap.size_push h {cls:=.type "cell",data:=.cell none}]at h1 h2
   refine A1 (h:=h.push _) (fun p hp=>?_) (fun x y c a b=>?_) h1 h2
   ·rw[Heap.size_push]
    rcases List.mem_cons.mp hp with rfl|hp
    ·exact Nat.lt_succ_self _
    ·exact Nat.lt_succ_of_lt (hl p hp)
   ·rcases List.mem_cons.mp a with e|a<;>rcases List.mem_cons.mp b with e'|b
    ·cases e;cases e';rfl
    ·cases e;exact absurd (hl _ b) (Nat.lt_irrefl _)
    ·cases e';exact absurd (hl _ a) (Nat.lt_irrefl _)
    ·exact hi _ _ _ a b
  ·rename_i hk
   rw[if_neg hk]at h2
   exact A1 hl hi h1 h2
theorem Rp{M:Model}{A:Around}{E:Value->Shared->Prop}{s:Shared}{scope:Scope}{globals:Addr}{closure:List (Str×Addr)}{qual:Str}{func:Option Addr}{code:Value}{around:Env}{builtins:Addr}{Q:Env->Shared->Prop}
  (h:Q (newEnv scope s.heap.objs.size globals (cellsFrom (s.heap.objs.size+1) scope.names closure) qual func code (some around) builtins)
   {s with heap:=pushCells (s.heap.push {cls:=.type "dict",data:=.dict #[]}) scope.names}):
  wpAny M A (newFunctionEnv scope globals closure [] qual func code (some around) builtins) Q E s:=by
 simp only[newFunctionEnv,Option.isSome_some,if_true]
 refine wpAny_bind (wpAny_alloc ?_)
 refine wpAny_bind (wpAny_layCells _ (fun n k c=>rfl) scope.names closure _ _ ?_)
 rw[show({s with heap:=s.heap.push {cls:=.type "dict",data:=.dict #[]}}:Shared).heap.objs.size=s.heap.objs.size+1 from Heap.size_push ..]
 rw[List.forIn_nil]
 exact wpAny_bind (wpAny_pure (wpAny_pure h))
theorem yd{sc:Scope}:∀{names:List (Str×NameKind)}{x:Str}{k:NameKind},
  (names.map fun(n,k)=>if(k==NameKind.free&&sc.kind== .function&&sc.names.lookup n==some .cell)then(n,NameKind.cell)else(n,k)).lookup x=some k->
  ∃k',names.lookup x=some k'/\(k=k'\/(k'=.free/\k=.cell))
 |[],_,_,h=>by simp at h
 |(n,k₀)::r,x,k,h=>by
  have ih:= @yd sc r x k
  have h':List.lookup x ((if(k₀==NameKind.free&&sc.kind== .function&&sc.names.lookup n==some .cell)=true then(n,NameKind.cell)else(n,k₀))::(r.map _))=some k:=h
  cases hx:x==n with
  |true=>
   simp only[List.lookup_cons,hx]
   by_cases hc:(k₀==NameKind.free&&sc.kind== .function&&sc.names.lookup n==some .cell)=true
   ·rw[if_pos hc]at h'
    simp only[List.lookup_cons,hx]at h'
    cases h'
    simp only[Bool.and_eq_true,beq_iff_eq]at hc
    exact⟨k₀,rfl,.inr ⟨hc.1.1,rfl⟩⟩
   ·rw[if_neg hc]at h'
    simp only[List.lookup_cons,hx]at h'
    cases h'
    exact⟨_,rfl,.inl rfl⟩
  |false=>
   simp only[List.lookup_cons,hx]
   by_cases hc:(k₀==NameKind.free&&sc.kind== .function&&sc.names.lookup n==some .cell)=true
   ·rw[if_pos hc]at h'
    simp only[List.lookup_cons,hx]at h'
    exact ih h'
   ·rw[if_neg hc]at h'
    simp only[List.lookup_cons,hx]at h'
    exact ih h'
structure tq(N:List Str)(sc scope:Scope)(own:List (Str×Nat)):Prop where
 kind:scope.kind=.function
 uniq:∀y∈scope.names,scope.names.lookup y.1=some y.2
 ix:∀p∈own,N[p.2]? =some p.1
 free:∀y∈scope.names,y.2=.free->sc.names.lookup y.1=some .cell\/sc.names.lookup y.1=some .free
 own:∀y∈scope.names,y.2=.local\/y.2=.cell->y.1∈own.map (·.1)\/y.1∉N
def wipe(σ:St):List Nat->St
 |[]=>σ
 |v::vs=>(wipe σ vs).set v none
theorem yA(σ:St):∀vs:List Nat,(wipe σ vs).length=σ.length
 |[]=>rfl
 |v::vs=>by unfold wipe;rw[List.length_set,yA σ vs]
theorem yI{σ:St}{i:Nat}{x:V}:∀{vs:List Nat},(wipe σ vs)[i]? =some (some x)->σ[i]? =some (some x)/\i∉vs
 |[],h=>⟨h,by simp⟩
 |v::vs,h=>by
  unfold wipe at h
  by_cases hi:v=i
  ·subst hi
   by_cases hv:v<(wipe σ vs).length
   ·rw[List.getElem?_set_self hv]at h;cases h
   ·rw[List.getElem?_eq_none (by simpa using hv)]at h;cases h
  ·rw[List.getElem?_set_ne hi]at h
   obtain⟨h1,h2⟩:=yI h
   exact⟨h1,by simp only[List.mem_cons,not_or];exact⟨fun e=>hi e.symm,h2⟩⟩
abbrev Cx.eP(X:Cx)(s:Shared)(H:Hp)(scope:Scope)(cenv:Env)(fp:List Addr):Cx:={X with cn:=s,mN:=H,env:=cenv,outer:=X.stack,ex:=fp,fn:=fun x=>scope.names.lookup x==some .cell,pn:=[],xe:=fun _ _=>False}
section
variable {X:Cx}{pins:List (Addr×Obj)}{σ:St}{H:Hp}{s:Shared}
theorem My{scope:Scope}{own:List (Str×Nat)}{fp:List Addr}(I:Inv X pins σ H s)(ok:tq X.N X.env.scope scope own)(hN:X.N.Nodup)(hfp:∀b∈fp,gy X pins H b/\b<s.heap.objs.size):
  Inv (X.eP s H scope (compEnvC scope (cellsFrom (s.heap.objs.size+1) scope.names (dD X.env.cells scope.names [])) s.heap.objs.size X.env) fp) [] (wipe σ (own.map (·.2))) H {s with heap:=pushCells (s.heap.push {cls:=.type "dict",data:=.dict #[]}) scope.names}:=by
 have hfree:∀y∈scope.names,y.2=.free->∃c,X.env.cells.lookup y.1=some c:=fun y hy e=>by
  rcases ok.free y hy e with k|k
  ·exact I.ok.has _ (.inl k)
  ·exact I.ok.has _ (.inr k)
 generalize hcenv:compEnvC scope (cellsFrom (s.heap.objs.size+1) scope.names (dD X.env.cells scope.names [])) s.heap.objs.size X.env=cenv
 have kp:∀b o,s.heap.get? b=some o->(pushCells (s.heap.push {cls:=.type "dict",data:=.dict #[]}) scope.names).get? b=some o:=fun b o e=>pushCells_keeps _ _ _ _ (Heap.get?_push_of_some _ e)
 have hL:cenv.locals=s.heap.objs.size:=by rw[<-hcenv];rfl
 have hcl:cenv.cells=cellsFrom (s.heap.objs.size+1) scope.names (dD X.env.cells scope.names []):=by rw[<-hcenv];rfl
 have hsc:cenv.scope=Lc scope X.env.scope:=by rw[<-hcenv];rfl
 rw[<-Heap.size_push s.heap {cls:=.type "dict",data:=.dict #[]}]at hcl
 have cm:∀{y c},(y,c)∈dD X.env.cells scope.names []->X.env.cells.lookup y=some c/\c<s.heap.objs.size:=fun{y c}hm=>by
  rcases tX hm with hm|⟨h1,rfl⟩
  ·cases hm
  ·obtain⟨c,hc⟩:=hfree _ h1 rfl
   rw[hc]
   obtain⟨w,z⟩:=I.cell _ _ hc
   exact⟨rfl,z.lt⟩
 have mem:∀{y c},cenv.cells.lookup y=some c->(X.env.cells.lookup y=some c/\c<s.heap.objs.size)\/(s.heap.objs.size+1<=c/\Gy (pushCells (s.heap.push {cls:=.type "dict",data:=.dict #[]}) scope.names) c none):=fun{y c}e=>by
  rw[hcl]at e
  rcases qM (PySem.mem_of_lookup e)with hm|⟨_,h2,h3⟩
  ·exact .inl (cm hm)
  ·rw[Heap.size_push]at h2;exact .inr ⟨h2,h3⟩
 have look:∀{y},scope.names.lookup y=some .free->∃c,cenv.cells.lookup y=some c/\X.env.cells.lookup y=some c:=fun{y}hl=>by
  have hy:(y,NameKind.free)∈scope.names:=PySem.mem_of_lookup hl
  obtain⟨c',e'⟩:=mem_lookup (tZ (names:=scope.names) (n:=(s.heap.push {cls:=.type "dict",data:=.dict #[]}).objs.size) (yR (cells:=X.env.cells) (acc:=[]) hy))
  rw[<-hcl]at e'
  refine⟨c',e',?_⟩
  rw[hcl]at e'
  rcases qM (PySem.mem_of_lookup e')with hm|⟨h1,_,_⟩
  ·exact(cm hm).1
  ·have:=ok.uniq _ h1
   rw[hl]at this;cases this
 have okB:(X.eP s H scope cenv fp).Ok:=by
  refine⟨I.ok.mod,by show cenv.scope.kind=_;rw[hsc];exact ok.kind,by show cenv.globals=_;rw[<-hcenv];exact I.ok.glob,by show cenv.builtins=_;rw[<-hcenv];exact I.ok.blt,by show s.heap.objs.size<=cenv.locals;rw[hL];exact Nat.le_refl _,
   fun y z c e1 e2=>?_,fun y hy=>?_,fun y c z e=>?_,I.ok.hd,I.ok.frames,.inl rfl,fun b hb=>⟨?_,fun y c e z=>?_⟩,I.bs,Nat.le_trans I.ok.fF I.sz,fun b o e hb=>?_,fun b hb z=>?_,I.stack,I.u6⟩
  ·have e1:cenv.cells.lookup y=some c:=e1
   have e2:cenv.cells.lookup z=some c:=e2
   rw[hcl]at e1 e2
   refine A1 (fun p hp=>?_) (fun y z c a b=>I.ok.inj y z c (cm a).1 (cm b).1) (PySem.mem_of_lookup e1) (PySem.mem_of_lookup e2)
   rw[Heap.size_push]
   exact Nat.lt_succ_of_lt (cm (y:=p.1) (c:=p.2) hp).2
  ·show ∃c,cenv.cells.lookup y=some c
   have key:∀k,cenv.kindOf y=some k->(k=.cell\/k=.free)->∃c,cenv.cells.lookup y=some c:=fun k hk hk'=>by
    unfold Env.kindOf at hk
    rw[hsc]at hk
    obtain⟨k',e,r⟩:=yd hk
    have:k'=.cell\/k'=.free:=by
     rcases r with rfl|⟨rfl,_⟩
     ·exact hk'
     ·exact .inr rfl
    rcases this with rfl|rfl
    ·obtain⟨c,hm⟩:=y1 (n:=(s.heap.push {cls:=.type "dict",data:=.dict #[]}).objs.size) (acc:=dD X.env.cells scope.names []) (PySem.mem_of_lookup e)
     obtain⟨c',e'⟩:=mem_lookup hm
     exact⟨c',by rw[hcl];exact e'⟩
    ·obtain⟨c,h1,_⟩:=look e
     exact⟨c,h1⟩
   rcases hy with hy|hy
   ·exact key _ hy (.inl rfl)
   ·exact key _ hy (.inr rfl)
  ·have z:(scope.names.lookup y==some NameKind.cell)=true:=z
   have z:scope.names.lookup y=some .cell:=by simpa using z
   have e:cenv.cells.lookup y=some c:=e
   rw[hcl]at e
   rcases qM (PySem.mem_of_lookup e)with hm|⟨_,h2,_⟩
   ·rcases tX hm with hm|⟨h1,_⟩
    ·cases hm
    ·have q:=ok.uniq _ h1
     rw[z]at q;cases q
   ·rw[Heap.size_push]at h2
    exact Nat.le_of_succ_le h2
  ·show b≠cenv.locals
   rw[hL];exact Nat.ne_of_lt (hfp b hb).2
  ·have e:cenv.cells.lookup y=some c:=e
   rcases mem e with ⟨h1,_⟩|⟨h1,_⟩
   ·exact(hfp b hb).1.2.2.2.2.1 y c h1 z
   ·have h2:s.heap.objs.size+1<=b:=by rw[<-z];exact h1
    exact absurd (Nat.lt_of_lt_of_le (hfp b hb).2 (Nat.le_of_succ_le h2)) (Nat.lt_irrefl _)
  ·rcases(hfp b hb).1.2.2.2.1 with z|z
   ·exact I.ok.iV b o e z
   ·exact absurd (Nat.lt_of_lt_of_le (Heap.lt_size e) (Nat.le_trans I.ok.fF z)) (Nat.lt_irrefl _)
  ·rcases List.mem_cons.mp (I.A8 b z)with z|z
   ·exact(hfp b hb).1.2.1 z
   ·exact(hfp b hb).1.2.2.1 z
 refine⟨okB,rfl,I.bare,Un.kept kp,⟨fun _=>none,?_,fun i y av e1 e2 e3=>?_⟩,fun y c e=>?_,?_,fun y c e=>?_,fun p hp=>?_,I.az.kept kp,by rw[yA];exact I.len⟩
 ·show Heap.Ns _ cenv.locals _
  rw[hL]
  exact Heap.Ns.keeps (Heap.Ns.new ..) fun b o e=>pushCells_keeps _ _ _ _ e
 ·obtain⟨e2,hne⟩:=yI e2
  have hfr:scope.names.lookup y=some .free/\(cenv.kindOf y=some .cell\/cenv.kindOf y=some .free):=by
   have key:∀k,cenv.scope.names.lookup y=some k->k=.local\/k=.cell\/k=.free->scope.names.lookup y=some .free/\(cenv.kindOf y=some .cell\/cenv.kindOf y=some .free):=fun k hk hk'=>by
    have hk0:=hk
    rw[hsc]at hk
    obtain⟨k',e,r⟩:=yd hk
    have no:¬(k'=.local\/k'=.cell):=fun hh=>by
     rcases ok.own _ (PySem.mem_of_lookup e) hh with e'|e'
     ·obtain⟨p,hp,hpy⟩:=List.mem_map.mp e'
      have e3:=ok.ix p hp
      have:p.1=y:=hpy
      rw[this]at e3
      exact hne (List.mem_map.mpr ⟨p,hp,wX hN e3 e1⟩)
     ·exact e' (List.mem_of_getElem? e1)
    rcases r with rfl|⟨rfl,rfl⟩
    ·rcases hk' with rfl|rfl|rfl
     ·exact absurd (.inl rfl) no
     ·exact absurd (.inr rfl) no
     ·exact⟨e,.inr hk0⟩
    ·exact⟨e,.inl hk0⟩
   have e3:kT cenv.scope y:=e3
   rcases e3 with e3|e3|e3
   ·exact key _ e3 (.inl rfl)
   ·exact key _ e3 (.inr (.inl rfl))
   ·exact key _ e3 (.inr (.inr rfl))
  obtain⟨m,hn,hl⟩:=I.loc
  have hvis:kT X.env.scope y:=(ok.free _ (PySem.mem_of_lookup hfr.1) rfl).elim (fun k=>.inr (.inl k)) (fun k=>.inr (.inr k))
  obtain⟨w,r,q⟩:=hl i y av e1 e2 hvis
  refine⟨w,r,.inr ⟨hfr.2,?_⟩⟩
  obtain⟨c,h1,h2⟩:=look hfr.1
  rcases q with ⟨k,_⟩|⟨_,c',e',z⟩
  ·have k:X.env.scope.names.lookup y=some .local:=k
   rcases ok.free _ (PySem.mem_of_lookup hfr.1) rfl with k'|k'<;>rw[show X.env.scope.names.lookup y=_ from k']at k<;>cases k
  ·rw[h2]at e';cases e'
   exact⟨c,h1,z.keeps kp⟩
 ·have e:cenv.cells.lookup y=some c:=e
  rcases mem e with ⟨h1,_⟩|⟨_,z⟩
  ·obtain⟨w,z⟩:=I.cell y c h1
   exact⟨w,z.keeps kp⟩
  ·exact⟨_,z⟩
 ·show H cenv.locals=none
  rw[hL];exact I.az.fresh (Nat.le_refl _)
 ·have e:cenv.cells.lookup y=some c:=e
  rcases mem e with ⟨h1,_⟩|⟨h1,_⟩
  ·exact I.d5 y c h1
  ·exact I.az.fresh (Nat.le_of_succ_le h1)
 ·exact absurd (show p∈([]:List (Addr×Obj))++[]from hp) (by simp)
theorem Rj{E:Value->Shared->Prop}{D:Addr}{xs:List V}{y:V}{v:Value}{Q:Value->Shared->Prop}(I:Inv X pins σ H s)(hD:H D=some (.lst xs))(hz:xs.length<sizeLine)(r:RelV y v)
  (h:∀s',Inv X pins σ (upd H D (.lst (xs++[y]))) s'->Q .none s'):wpAny (model X.prog X.w) X.A (call (.builtin "list.append") [.ref D,v]) Q E s:=by
 obtain⟨hz',its,n,ri,e⟩:=I.az D _ hD
 have hl:=ri.length
 refine append_at (hsz:=by rw[List.size_toArray];lia) e fun h' sb ho'=>?_
 refine h {s with heap:=h'} (I.write (t':=s.toks) (by rw[hD];trivial) (.inl rfl) (fun b u hb q=>(sb.2 b hb).trans q) ⟨_,ho'⟩ ⟨by rw[List.length_append];exact hz,its++[v],n+1,ri.append (.cons r .nil),?_⟩)
 rw[ho']
 simp
def Bp(X:Cx)(ifs:List Expr)(t:TT):Prop:=
 ∀(pins:List (Addr×Obj))(s:Shared)(σ:St)(H:Hp)(Q:Bool->Hp->Prop),Inv X pins σ H s->t σ H Q->
  wpAny (model X.prog X.w) X.A (forIn ifs true fun c r=>if r=true then do let ok <-isTrue c X.env (eval c X.env);pure (ForInStep.yield ok)else pure (ForInStep.yield r)) (TP X pins σ Q) X.xe s
def PB:TT:=fun _ H Q=>Q true H
theorem Qg:Bp X [] PB:=fun _ _ _ H _ I h=>wpAny_tests_nil ⟨H,I,h⟩
end
theorem oH{α:Type}{t:Sem α}{Q Q':α->Shared->Prop}{M:Model}{A:Around}{E:Value->Shared->Prop}{s:Shared}(h:wpAny M A t Q (fun _ _=>False) s)(hQ:∀a s,Q a s->Q' a s):wpAny M A t Q' E s:=wpAny_mono h hQ fun _ _ z=>False.elim z
theorem JX{prog:Program}{w:World}{A:Around}{R:Result->Shared->Prop}{s:Shared}{elt target iter:Expr}{ifs:List Expr}{scope:Scope}{pos:Pos}{it acc:Value}{env:Env}(I:Nat->Shared->Prop)
  (turn:∀n s,I n s->wpAny (model prog w) A (pyNext it) (fun r s₁=>match r with
   |none=>R (.ok .next) s₁
   |some v=>wpAny (model prog w) A (letOwnedTupleGo target it v) (fun _ s₁'=>wpAny (model prog w) A (assign target env v) (fun _ s₂=>
     wpAny (model prog w) A (forIn ifs true fun c r=>if r=true then do let ok <-isTrue c env (eval c env);pure (ForInStep.yield ok)else pure (ForInStep.yield r)) (fun ok s₃=>
      if ok=true then wpAny (model prog w) A (eval elt env) (fun x s₄=>
       wpAny (model prog w) A (call (.builtin "list.append") [acc,x]) (fun _ s₅=>∃m,m<n/\I m s₅) (notedBy (model prog w) A env fun e s'=>R (.error e) s') s₄) (notedBy (model prog w) A env fun e s'=>R (.error e) s') s₃
      else ∃m,m<n/\I m s₃) (notedBy (model prog w) A env fun e s'=>R (.error e) s') s₂) (notedBy (model prog w) A env fun e s'=>R (.error e) s') s₁') (notedBy (model prog w) A env fun e s'=>R (.error e) s') s₁) (notedBy (model prog w) A env fun e s'=>R (.error e) s') s)
  (n:Nat) (h:I n s):
  codeAny (model prog w) A (.compLoop (.ListComp elt [⟨target,iter,ifs,0⟩] scope pos) 0 it acc env) R s:=by
 refine codeAny_loop rfl I (fun n s hI=>?_) n h
 show wpAny _ A ((compTurn (.ListComp elt [⟨target,iter,ifs,0⟩] scope pos) 0 it acc env).onRaise (fun x=>do noteFrame x env;theTreesLotGoes x)) _ _ s
 refine wpAny_noted ?_
 rw[compTurn_list]
 refine wpAny_bind (wpAny_standAt (wpAny_bind (wpAny_mono (turn n s hI) (fun r s₁ h₁=>?_) fun _ _ h'=>h')))
 cases r with
 |none=>exact wpAny_pure h₁
 |some v=>
  refine wpAny_bind (wpAny_mono h₁ (fun _ s₁' h₁'=>?_) fun _ _ h'=>h')
  refine wpAny_bind (wpAny_mono h₁' (fun _ s₂ h₂=>wpAny_bind (wpAny_mono h₂ (fun ok s₃ h₃=>?_) fun _ _ h'=>h')) fun _ _ h'=>h')
  cases ok with
  |false=>exact wpAny_pure ⟨rfl,h₃⟩
  |true=>
   exact wpAny_bind (wpAny_bind (wpAny_mono h₃ (fun x s₄ h₄=>wpAny_bind (wpAny_mono h₄ (fun _ s₅ h₅=>wpAny_pure (wpAny_pure ⟨rfl,h₅⟩)) fun _ _ h'=>h')) fun _ _ h'=>h'))
section
variable {X:Cx}
def Ew(wi:TI)(g:TG)(tt:TT)(te:TE)(vs:List Nat):TE:=fun σ H Q=>wi σ H fun J H1=>∀D,H1 D=none->∃W:Nat->Nat->Hp->Prop,(∃m,W 0 m (upd H1 D (.lst [])))/\∀i m H,W i m H->
 (J.stop i H/\Q (.ref D) H)\/(J.go i H/\∃Nx:Hp->Prop,(∀H',Nx H'->∃m',m'<m/\W (i+1) m' H')/\∀x H',J.sh i H x H'->g x (wipe σ vs) H' fun σ2 H2=>wipe σ2 vs=wipe σ vs/\tt σ2 H2 fun b H3=>
  if b=true then te σ2 H3 fun y H4=>∃acc,H4 D=some (.lst acc)/\acc.length<sizeLine/\Nx (upd H4 D (.lst (acc++[y])))else Nx H3)
theorem J7{pins:List (Addr×Obj)}{s:Shared}{σ:St}{H:Hp}{Q:VK}{elt tg iter:Expr}{ifs:List Expr}{scope:Scope}{own:List (Str×Nat)}{pos pos':Pos}{wi:TI}{g:TG}{tt:TT}{te:TE}{use:Option (Value->Sem Unit)}{Qf:Value->Shared->Prop}
  (hc:X.calm=true) (hN:X.N.Nodup) (I:Inv X pins σ H s) (hi:PI X tg iter wi) (ok:tq X.N X.env.scope scope own)
  (hg:∀(s:Shared)(H:Hp)(C:Addr)(cl:List (Str×Addr))(fp:List Addr),PG (X.eP s H scope (compEnvC scope cl C X.env) fp) tg g) (ht:∀(s:Shared)(H:Hp)(C:Addr)(cl:List (Str×Addr))(fp:List Addr),Bp (X.eP s H scope (compEnvC scope cl C X.env) fp) ifs tt)
  (he:∀(s:Shared)(H:Hp)(C:Addr)(cl:List (Str×Addr))(fp:List Addr),PE (X.eP s H scope (compEnvC scope cl C X.env) fp) elt te) (hs:∀x,foldedSetIterable iter X.env x=pure x)
  (h:Ew wi g tt te (own.map (·.2)) σ H Q)
  (hRR:∀D C s' m H',Inv X pins σ H' s'->Q (.ref D) H'->s'.heap.Ns C m->gy X pins H' C->compPost (model X.prog X.w) X.A X.xe use Qf (.ref D) C (.ok .next) s'):
  wpAny (model X.prog X.w) X.A (comprehension (.ListComp elt [⟨tg,iter,ifs,0⟩] scope pos) scope X.env pos' (newList []) false (eval iter X.env) use) Qf X.xe s:=by
 have hfree:∀y∈scope.names,y.2=.free->∃c,X.env.cells.lookup y.1=some c:=fun y hy e=>by
  rcases ok.free y hy e with k|k
  ·exact I.ok.has _ (.inl k)
  ·exact I.ok.has _ (.inr k)
 refine wpAny_comprehension_free (use:=use) rfl hs (IX hfree) ok.kind (fun y hy e=>by rw[ok.uniq y hy,e])
  (aH (hi pins s σ H _ I h) fun xv s1 hx=>aH hx fun itv s2 h2=>?_)
 obtain⟨it,fp,tn,J,H2,e,I2,T,st2,f2,q⟩:=h2
 subst e
 refine wpAny_newObj_type (Rp ?_) (by show 0<=sizeLine;decide)
 generalize hD:s2.heap.objs.size=D
 have hDn:H2 D=none:=I2.az.fresh (Nat.le_of_eq hD)
 obtain⟨W,⟨m0,w0⟩,turn⟩:=q D hDn
 -- the new list
 generalize hs3:({s2 with heap:=s2.heap.push {cls:=.type "list",data:=.seq ([]:List Value).toArray}}:Shared)=s3
 have I3:Inv X pins σ (upd H2 D (.lst [])) s3:=by
  rw[<-hs3]
  refine I2.laid (t':=s2.toks) (fun b o e=>Heap.get?_push_of_some _ e) (Nat.le_of_eq hD) ⟨Nat.zero_le _,[],0,.nil,?_⟩
  rw[<-hD]
  exact Heap.get?_push_size _ rfl
 have h3:s3.heap=s2.heap.push {cls:=.type "list",data:=.seq ([]:List Value).toArray}:=by rw[<-hs3]
 have sz:∀b∈fp,b<s2.heap.objs.size:=fun b hb=>by
  obtain⟨o,e,_⟩:=T.obj _ _ st2 b hb
  exact Heap.lt_size e
 have f3:∀b∈fp,gy X pins (upd H2 D (.lst [])) b/\b<s3.heap.objs.size:=fun b hb=>by
  have hlt:=sz b hb
  refine⟨⟨?_,(f2 b hb).2⟩,by rw[h3,Heap.size_push];exact Nat.lt_succ_of_lt hlt⟩
  rw[ao (by rw[<-hD];exact Nat.ne_of_lt hlt)]
  exact(f2 b hb).1
 have st3:tn 0 s3.heap:=T.keep _ _ _ st2 fun b _ o e=>by rw[h3];exact Heap.get?_push_of_some _ e
 have I4:=My I3 ok hN f3
 have pg:=hg s3 (upd H2 D (.lst [])) s3.heap.objs.size (cellsFrom (s3.heap.objs.size+1) scope.names (dD X.env.cells scope.names [])) fp
 have pt:=ht s3 (upd H2 D (.lst [])) s3.heap.objs.size (cellsFrom (s3.heap.objs.size+1) scope.names (dD X.env.cells scope.names [])) fp
 have pe:=he s3 (upd H2 D (.lst [])) s3.heap.objs.size (cellsFrom (s3.heap.objs.size+1) scope.names (dD X.env.cells scope.names [])) fp
 show codeAny _ _ (.compStart (.ListComp elt [⟨tg,iter,ifs,0⟩] scope pos) 0 (.ref it) (.ref D) (compEnvC scope (cellsFrom (s3.heap.objs.size+1) scope.names (dD X.env.cells scope.names [])) s3.heap.objs.size X.env)) (compPost (model X.prog X.w) X.A X.xe use Qf (.ref D) s3.heap.objs.size) {s3 with heap:=pushCells (s3.heap.push {cls:=.type "dict",data:=.dict #[]}) scope.names}
 have nfp:∀b∈fp,(upd H2 D (.lst [])) b=none:=fun b hb=>(f3 b hb).1.1
 generalize hce:compEnvC scope (cellsFrom (s3.heap.objs.size+1) scope.names (dD X.env.cells scope.names [])) s3.heap.objs.size X.env=ce at I4 pg pt pe ⊢
 have cL:ce.locals=s3.heap.objs.size:=by subst hce;rfl
 generalize hH3:upd H2 D (.lst [])=H3 at I3 I4 pg pt pe w0 nfp f3
 generalize hs4:({s3 with heap:=pushCells (s3.heap.push {cls:=.type "dict",data:=.dict #[]}) scope.names}:Shared)=s4 at I4 ⊢
 have st4:tn 0 s4.heap:=T.keep _ _ _ st3 fun b _ o e=>by rw[<-hs4];exact pushCells_keeps _ _ _ _ (Heap.get?_push_of_some _ e)
 have stat:∀{σ':St}{H':Hp}{s':Shared},Inv (X.eP s3 H3 scope ce fp) [] σ' H' s'->(∀b∈fp,H' b=none)->∀b∈fp,gy (X.eP s3 H3 scope ce fp) [] H' b:=fun{σ' H' s'}I' hn b hb=>
  ⟨hn b hb,(I'.ok.kl b hb).1,I'.ok.jj b hb,.inl hb,fun x c e=>(I'.ok.kl b hb).2 x c e,fun p hp=>absurd (show p∈([]:List (Addr×Obj))++[]from hp) (by simp)⟩
 have loop:codeAny (model X.prog X.w) X.A (.compLoop (.ListComp elt [⟨tg,iter,ifs,0⟩] scope pos) 0 (.ref it) (.ref D) ce) (compPost (model X.prog X.w) X.A X.xe use Qf (.ref D) s3.heap.objs.size) s4:=by
  refine JX (fun n s'=>∃i H',Inv (X.eP s3 H3 scope ce fp) [] (wipe σ (own.map (·.2))) H' s'/\tn i s'.heap/\(∀b∈fp,H' b=none)/\W i n H') ?_ m0 ⟨0,H3,I4,st4,nfp,w0⟩
  rintro n s5 ⟨i,H5,I5,st5,n5,w5⟩
  rcases turn i n H5 w5 with ⟨stop,qq⟩|⟨go,Nx,hNx,step⟩
  ·have td:=T.done (X.eP s3 H3 scope ce fp) rfl rfl rfl hc i [] s5 _ H5 (fun _ _=>False) I5 (stat I5 n5) st5 stop
   refine oH td fun r s6 hh32=>?_
   obtain⟨hr,I6⟩:=hh32
   subst hr
   -- back in the def's context
   have I7:Inv X pins σ H5 s6:=I3.IZ (ch:=fp) I6.os I6.base I6.az I6.bare fun b hb=>⟨(f3 b hb).1.2.2.2.1,(f3 b hb).1.2.1,(f3 b hb).1.2.2.2.2.1,(f3 b hb).1.2.2.2.2.2⟩
   have nC:H5 s3.heap.objs.size=none:=by
    have z:H5 ce.locals=none:=I6.free
    rw[cL]at z
    exact z
   obtain⟨m,hn,_⟩:=I6.loc
   have hn:s6.heap.Ns ce.locals m:=hn
   rw[cL]at hn
   exact hRR D s3.heap.objs.size s6 m H5 I7 qq hn (I3.zE (Nat.le_refl _) nC)
  ·have ti:=T.item (X.eP s3 H3 scope ce fp) rfl rfl rfl hc i [] s5 _ H5 (fun _ _=>False) I5 (stat I5 n5) st5 go
   refine oH ti fun r s6 hh33=>?_
   obtain⟨u,hr,h6⟩:=hh33
   subst hr
   refine oH h6 fun _ s7 hh34=>?_
   obtain⟨x,H7,I7,r7,y7,st7,n7⟩:=hh34
   have I7':=I7.pinned (stat I7 n7) (T.obj _ _ st7)
   refine oH (pg _ s7 _ H7 x u _ I7' r7 (step x H7 y7)) fun _ s8 hh35=>?_
   obtain⟨σ8,H8,I8,hw8,q8⟩:=hh35
   refine oH (pt _ s8 σ8 H8 _ I8 q8) fun b s9 hh36=>?_
   obtain⟨H9,I9,q9⟩:=hh36
   -- the turn's end
   have fin:∀{s':Shared}{H':Hp},Inv (X.eP s3 H3 scope ce fp) ([]++qF fp s7.heap) σ8 H' s'->Nx H'->∃m,m<n/\∃i H',Inv (X.eP s3 H3 scope ce fp) [] (wipe σ (own.map (·.2))) H' s'/\tn i s'.heap/\(∀b∈fp,H' b=none)/\W i m H':=fun{s' H'}I' nx=>by
    obtain⟨m',hm,w'⟩:=hNx H' nx
    have pin':∀b∈fp,∀o,s7.heap.get? b=some o->s'.heap.get? b=some o/\H' b=none:=fun b hb o e=>
     let z:=I'.pin (b,o) (List.mem_append_right _ (List.mem_append_right _ (Ab hb e)))
     ⟨z.1,z.2.1⟩
    have hl:(wipe σ (own.map (·.2))).length=σ8.length:=by rw[<-hw8,yA]
    refine⟨m',hm,i+1,H',(I'.tT (pins:=[])).weak hl (fun j v e=>?_),T.keep _ _ _ st7 fun b hb o e=>(pin' b hb o e).1,fun b hb=>?_,w'⟩
    ·rw[<-hw8]at e
     exact(yI e).1
    ·obtain⟨o,e,_⟩:=T.obj _ _ st7 b hb
     exact(pin' b hb o e).2
   cases b with
   |false=>
    simp only[Bool.false_eq_true,if_false]at q9 ⊢
    exact fin I9 q9
   |true=>
    simp only[if_true]at q9 ⊢
    refine oH (pe _ s9 σ8 H9 _ I9 q9) fun z s10 hh37=>?_
    obtain⟨yv,H10,I10,r10,acc,hD10,hz10,nx⟩:=hh37
    exact Rj (X:=X.eP s3 H3 scope ce fp) I10 hD10 hz10 r10 fun s11 I11=>fin I11 nx
 exact codeAny_compStart_list loop (T.self X.A 0 _ _ _ st4 loop)
theorem JS{elt tg iter:Expr}{ifs:List Expr}{scope:Scope}{own:List (Str×Nat)}{pos:Pos}{wi:TI}{g:TG}{tt:TT}{te:TE}(hc:X.calm=true)(hN:X.N.Nodup)(hi:PI X tg iter wi)(ok:tq X.N X.env.scope scope own)
  (hg:∀(s:Shared)(H:Hp)(C:Addr)(cl:List (Str×Addr))(fp:List Addr),PG (X.eP s H scope (compEnvC scope cl C X.env) fp) tg g) (ht:∀(s:Shared)(H:Hp)(C:Addr)(cl:List (Str×Addr))(fp:List Addr),Bp (X.eP s H scope (compEnvC scope cl C X.env) fp) ifs tt)
  (he:∀(s:Shared)(H:Hp)(C:Addr)(cl:List (Str×Addr))(fp:List Addr),PE (X.eP s H scope (compEnvC scope cl C X.env) fp) elt te) (hs:∀x,foldedSetIterable iter X.env x=pure x:=by intro _;rfl):
  PE X (.ListComp elt [⟨tg,iter,ifs,0⟩] scope pos) (Ew wi g tt te (own.map (·.2))):=by
 intro pins s σ H Q I h
 rw[eval_ListComp]
 refine J7 hc hN I hi ok hg ht he hs h fun D C s' m H' I' q hn f=>⟨m,hn,fun h'' sb=>?_⟩
 obtain⟨f0,f1,f2,f3,f4,f5⟩:=f
 exact⟨.ref D,H',I'.turned (t':=s'.toks) (fun b o hb e=>(sb.2 b hb).trans e) f0 f1 f3 f4 f5,rfl,q⟩
end
theorem PY{K:PySem.W.Frag}{a:Addr}{xs:List V}{g:TG}{tt:TT}{te:TE}{vs:List Nat}{σ:St}{H1:Hp}{D:Addr}{Qd:Hp->Prop}(Pv:Nat->Hp->Prop)(h0:Pv 0 (upd H1 D (.lst [])))(hl:∀i H,i<=xs.length->Pv i H->aM K H a xs)
  (hs:∀i x H,xs[i]? =some x->Pv i H->g x (wipe σ vs) H fun σ2 H2=>wipe σ2 vs=wipe σ vs/\tt σ2 H2 fun b H3=>
   if b=true then te σ2 H3 fun y H4=>∃acc,H4 D=some (.lst acc)/\acc.length<sizeLine/\Pv (i+1) (upd H4 D (.lst (acc++[y])))else Pv (i+1) H3) (hd:∀H,Pv xs.length H->Qd H):
  ∃W:Nat->Nat->Hp->Prop,(∃m,W 0 m (upd H1 D (.lst [])))/\∀i m H,W i m H->
   ((r8 K a).stop i H/\Qd H)\/((r8 K a).go i H/\∃Nx:Hp->Prop,(∀H',Nx H'->∃m',m'<m/\W (i+1) m' H')/\∀x H',(r8 K a).sh i H x H'->g x (wipe σ vs) H' fun σ2 H2=>wipe σ2 vs=wipe σ vs/\tt σ2 H2 fun b H3=>
    if b=true then te σ2 H3 fun y H4=>∃acc,H4 D=some (.lst acc)/\acc.length<sizeLine/\Nx (upd H4 D (.lst (acc++[y])))else Nx H3):=by
 refine⟨fun i m H=>m=xs.length-i/\i<=xs.length/\Pv i H,⟨xs.length,by simp,Nat.zero_le _,h0⟩,?_⟩
 rintro i m H ⟨rfl,hi,p⟩
 have q:=hl i H hi p
 by_cases hlt:i<xs.length
 ·refine .inr ⟨⟨xs,xs[i],q,by simp[hlt]⟩,Pv (i+1),fun H' p'=>⟨xs.length-(i+1),by lia,rfl,hlt,p'⟩,fun x H' y=>?_⟩
  obtain⟨e,y⟩:=y
  subst e
  exact hs i x _ (y xs q) p
 ·have e:i=xs.length:=by lia
  subst e
  exact .inl ⟨⟨xs,q,Nat.le_refl _⟩,hd H p⟩
def CL(N:List Str)(sc scope:Scope)(own:List (Str×Nat)):Bool:=
 (match scope.kind with| .function=>true|_=>false)&&(scope.names.all fun y=>decide (scope.names.lookup y.1=some y.2))&&(own.all fun p=>decide (N[p.2]? =some p.1))&&
  (scope.names.all fun y=>match y.2 with
   | .free=>(match sc.names.lookup y.1 with|some .cell=>true|some .free=>true|_=>false)
   | .local=>decide (y.1∈own.map (·.1))||decide (y.1∉N)
   | .cell=>decide (y.1∈own.map (·.1))||decide (y.1∉N)
   |_=>true)
theorem Jz{N:List Str}{sc scope:Scope}{own:List (Str×Nat)}(h:CL N sc scope own=true):tq N sc scope own:=by
 unfold CL at h
 simp only[Bool.and_eq_true,List.all_eq_true,decide_eq_true_eq]at h
 obtain⟨⟨⟨h1,h2⟩,h3⟩,h4⟩:=h
 refine⟨?_,h2,h3,fun y hy e=>?_,fun y hy e=>?_⟩
 ·split at h1
  ·assumption
  ·cases h1
 ·have q:=h4 y hy
  simp only[e]at q
  split at q<;>first|exact .inl (by assumption)|exact .inr (by assumption)|cases q
 ·have q:=h4 y hy
  rcases e with e|e<;>(simp only[e,Bool.or_eq_true,decide_eq_true_eq]at q;exact q)
end L2
namespace L2
open PySem PySem.Spec PyProof.Rows
section
variable {prog:Program}{w:World}{A:Around}{R:Result->Shared->Prop}{s:Shared}{elt t0 i0 t1 i1:Expr}{ifs0 ifs1:List Expr}{scope:Scope}{pos:Pos}{it acc:Value}{env:Env}
end
section
variable {X:Cx}
end
end L2
namespace L2
open PySem PySem.Spec PyProof.Rows
section
variable {κ:Type}[DecidableEq κ]
def bU(kvs:List (κ×V))(k:κ):Option V:=(kvs.find? fun kv=>decide (kv.1=k)).map (·.2)
def putK(kvs:List (κ×V))(k:κ)(v:V):List (κ×V):=
 if(kvs.any fun kv=>decide (kv.1=k))=true then kvs.map (fun kv=>if kv.1=k then(kv.1,v)else kv)else kvs++[(k,v)]
theorem FQ{k:κ}:bU ([]:List (κ×V)) k=none:=rfl
theorem ij{p:κ×V}{r:List (κ×V)}{k:κ}(e:p.1=k):bU (p::r) k=some p.2:=by simp[bU,List.find?_cons,e]
theorem ia{p:κ×V}{r:List (κ×V)}{k:κ}(e:¬p.1=k):bU (p::r) k=bU r k:=by simp[bU,List.find?_cons,e]
theorem vO(k:κ):∀kvs:List (κ×V),(kvs.any fun kv=>decide (kv.1=k))=(bU kvs k).isSome
 |[]=>rfl
 |p::r=>by
  rw[List.any_cons]
  by_cases e:p.1=k
  ·simp only[ij e,decide_eq_true e,Bool.true_or,Option.isSome_some]
  ·rw[ia e,decide_eq_false e,Bool.false_or];exact vO k r
theorem CG(k j:κ)(y:V):∀kvs:List (κ×V),bU (kvs.map fun kv=>if kv.1=k then(kv.1,y)else kv) j=(bU kvs j).map fun x=>if j=k then y else x
 |[]=>rfl
 |p::r=>by
  have ih:=CG k j y r
  rw[List.map_cons]
  by_cases h:p.1=k
  ·rw[if_pos h]
   by_cases e:p.1=j
   ·rw[ij (p:=(p.1,y)) e,ij e,Option.map_some,if_pos (e.symm.trans h)]
   ·rw[ia (p:=(p.1,y)) e,ia e,ih]
  ·rw[if_neg h]
   by_cases e:p.1=j
   ·rw[ij (p:=p) e,ij e,Option.map_some,if_neg (fun z=>h (e.trans z))]
   ·rw[ia (p:=p) e,ia e,ih]
theorem DE(k j:κ)(y:V):∀kvs:List (κ×V),bU kvs k=none->bU (kvs++[(k,y)]) j=if j=k then some y else bU kvs j
 |[],_=>by
  by_cases e:k=j
  ·rw[if_pos e.symm];exact ij (p:=(k,y)) e
  ·rw[if_neg (fun z=>e z.symm)];exact ia (p:=(k,y)) e
 |p::r,hn=>by
  rw[List.cons_append]
  have hk:¬p.1=k:=fun z=>by rw[ij z]at hn;cases hn
  rw[ia hk]at hn
  have ih:=DE k j y r hn
  by_cases e:p.1=j
  ·rw[ij e,ij e,if_neg (fun z=>hk (e.trans z))]
  ·rw[ia e,ia e,ih]
theorem yz(kvs:List (κ×V))(k j:κ)(y:V):bU (putK kvs k y) j=if j=k then some y else bU kvs j:=by
 unfold putK
 by_cases a:(kvs.any fun kv=>decide (kv.1=k))=true
 ·rw[if_pos a,CG]
  rw[vO]at a
  by_cases e:j=k
  ·obtain⟨x,hx⟩:=Option.isSome_iff_exists.mp a
   rw[if_pos e,e,hx,Option.map_some,if_pos rfl]
  ·rw[if_neg e]
   cases bU kvs j with
   |none=>rfl
   |some x=>rw[Option.map_some,if_neg e]
 ·rw[if_neg a]
  refine DE k j y kvs ?_
  rw[vO]at a
  cases q:bU kvs k with
  |none=>rfl
  |some x=>rw[q]at a;exact(a rfl).elim
theorem mR(kvs:List (κ×V))(k:κ)(v:V):(putK kvs k v).length<=kvs.length+1:=by
 unfold putK
 split
 ·rw[List.length_map];lia
 ·rw[List.length_append,List.length_cons,List.length_nil];lia
theorem dq.uZ{o:Option V}{u:Option Value}(r:dq o u):o.isSome=u.isSome:=by
 cases o with
 |none=>cases u with
  |none=>rfl
  |some _=>exact(show False from r).elim
 |some _=>cases u with
  |none=>exact(show False from r).elim
  |some _=>rfl
theorem dq.getD{o:Option V}{u:Option Value}{d:V}{d':Value}(r:dq o u)(rd:RelV d d'):RelV (o.getD d) (u.getD d'):=by
 cases o with
 |none=>cases u with
  |none=>exact rd
  |some _=>exact(show False from r).elim
 |some _=>cases u with
  |none=>exact(show False from r).elim
  |some _=>exact r
theorem KV.val{kvs:List (κ×V)}{vs:List (κ×Value)}(r:KV kvs vs)(k:κ):dq (bU kvs k) (valueAt vs k):=by
 unfold KV at r
 induction r with
 |nil=>exact True.intro
 | @cons p q ps qs h t ih=>
  obtain⟨h1,h2⟩:=h
  by_cases e:p.1=k
  ·have e':q.1=k:=h1.symm.trans e
   have b:valueAt (q::qs) k=some q.2:=by simp[valueAt,List.find?_cons,e']
   rw[ij e,b];exact h2
  ·have e':¬q.1=k:=fun z=>e (h1.trans z)
   have b:valueAt (q::qs) k=valueAt qs k:=by simp[valueAt,List.find?_cons,e']
   rw[ia e,b];exact ih
theorem KV.any{kvs:List (κ×V)}{vs:List (κ×Value)}(r:KV kvs vs)(k:κ):(kvs.any fun kv=>decide (kv.1=k))=vs.any fun kv=>decide (kv.1=k):=by
 unfold KV at r
 induction r with
 |nil=>rfl
 |cons h t ih=>rw[List.any_cons,List.any_cons,ih,h.1]
theorem KV.xu{kvs:List (κ×V)}{vs:List (κ×Value)}(r:KV kvs vs)(k:κ){y:V}{u:Value}(ry:RelV y u):
  KV (kvs.map fun kv=>if kv.1=k then(kv.1,y)else kv) (vs.map fun kv=>if kv.1=k then(kv.1,u)else kv):=by
 unfold KV at r ⊢
 induction r with
 |nil=>exact .nil
 | @cons p q ps qs h t ih=>
  rw[List.map_cons,List.map_cons]
  refine .cons ?_ ih
  obtain⟨h1,h2⟩:=h
  by_cases e:p.1=k
  ·rw[if_pos e,if_pos (h1.symm.trans e)];exact⟨h1,ry⟩
  ·rw[if_neg e,if_neg (fun z=>e (h1.trans z))];exact⟨h1,h2⟩
theorem KV.put{kvs:List (κ×V)}{vs:List (κ×Value)}(r:KV kvs vs)(k:κ){y:V}{u:Value}(ry:RelV y u):KV (putK kvs k y) (stored vs k u):=by
 unfold putK stored
 rw[r.any k]
 by_cases e:(vs.any fun kv=>decide (kv.1=k))=true
 ·rw[if_pos e,if_pos e];exact r.xu k ry
 ·rw[if_neg e,if_neg e];exact Paired.snoc r ⟨rfl,ry⟩
theorem KV.length{kvs:List (κ×V)}{vs:List (κ×Value)}(r:KV kvs vs):kvs.length=vs.length:=Paired.length r
end
theorem pz{P:Program}{w:World}{k:Key}{u:Value}(r:RelV (kV k) u):(eT P w).is k u=true:=by
 cases k with
 |inl i=>obtain⟨t,e⟩:=(show ∃t,u=Value.int i t from r);subst e;exact MV P w i t
 |inr x=>obtain⟨t,e⟩:=(show ∃t,u=Value.str x t from r);subst e;exact KN P w x t
theorem GF{P:Program}{w:World}:∀{ks:List Key}{us:List Value},aW (ks.map kV) us->ItemsAre (eT P w) ks us
 |[],_,r=>by rw[List.map_nil]at r;cases r;exact .nil
 |k::ks,_,r=>by
  rw[List.map_cons]at r
  cases r with
  |cons h t=>exact .cons (pz h) (GF t)
abbrev KT(H:Hp):List (List Key×V)->List (List Key×Addr×Value)->Prop:=Paired fun p q=>p.1=q.1/\H q.2.1=some (.tup (p.1.map kV))/\RelV p.2 q.2.2
theorem KT.val{H:Hp}{kvs:List (List Key×V)}{xs:List (List Key×Addr×Value)}(r:KT H kvs xs)(k:List Key):dq (bU kvs k) ((atKey xs k).map (·.2)):=by
 induction r with
 |nil=>exact True.intro
 | @cons p q ps qs h t ih=>
  obtain⟨h1,_,h2⟩:=h
  by_cases e:p.1=k
  ·have e':q.1=k:=h1.symm.trans e
   have b:atKey (q::qs) k=some q.2:=by simp[atKey,List.find?_cons,e']
   rw[ij e,b];exact h2
  ·have e':¬q.1=k:=fun z=>e (h1.trans z)
   have b:atKey (q::qs) k=atKey qs k:=by simp[atKey,List.find?_cons,e']
   rw[ia e,b];exact ih
theorem KT.xu{H:Hp}{kvs:List (List Key×V)}{xs:List (List Key×Addr×Value)}(r:KT H kvs xs)(k:List Key){y:V}{u:Value}(ry:RelV y u):
  KT H (kvs.map fun kv=>if kv.1=k then(kv.1,y)else kv) (xs.map (putAt k u)):=by
 induction r with
 |nil=>exact .nil
 | @cons p q ps qs h t ih=>
  rw[List.map_cons,List.map_cons]
  refine .cons ?_ ih
  obtain⟨h1,h2,h3⟩:=h
  unfold putAt
  by_cases e:p.1=k
  ·rw[if_pos e,if_pos (h1.symm.trans e)];exact⟨h1,h2,ry⟩
  ·rw[if_neg e,if_neg (fun z=>e (h1.trans z))];exact⟨h1,h2,h3⟩
theorem KT.put{H:Hp}{kvs:List (List Key×V)}{xs:List (List Key×Addr×Value)}(r:KT H kvs xs)(k:List Key){b:Addr}{y:V}{u:Value}(hb:H b=some (.tup (k.map kV)))(ry:RelV y u):
  KT H (putK kvs k y) (storedH xs k b u):=by
 have e:(kvs.any fun kv=>decide (kv.1=k))=(atKey xs k).isSome:=by
  rw[vO,(r.val k).uZ,Option.isSome_map]
 unfold putK storedH
 rw[e]
 by_cases q:(atKey xs k).isSome=true
 ·rw[if_pos q,if_pos q];exact r.xu k ry
 ·rw[if_neg q,if_neg q];exact Paired.snoc r ⟨rfl,hb,ry⟩
theorem KT.keeps{H H':Hp}{kvs:List (List Key×V)}{xs:List (List Key×Addr×Value)}(r:KT H kvs xs)(ht:∀b ys,H b=some (.tup ys)->H' b=some (.tup ys)):KT H' kvs xs:=
 Paired.zU r fun _ _ z=>⟨z.1,ht _ _ z.2.1,z.2.2⟩
section
variable {P:Program}{w:World}{H:Hp}{h:Heap}{a:Addr}
theorem F8{u:HO}(ok:bG P w H h)(e:Rd H a u):cg P w H h a u:=e.ok ok
theorem vf{kvs:List (Key×V)}(ok:bG P w H h)(e:Rd H a (.dK kvs)):kvs.length<=sizeLine/\(a==sysModules)=false/\∃vs,KV kvs vs/\h.DictOf (eT P w) a vs:=
 show cg P w H h a (.dK kvs)from F8 ok e
theorem OE{kvs:List (Key×V)}(ok:bG P w H h)(e:H a=some (.dK kvs)):kvs.length<=sizeLine/\(a==sysModules)=false/\∃vs,KV kvs vs/\h.DictOf (eT P w) a vs:=vf ok (.inl e)
theorem t7{ks:List Key}(ok:bG P w H h)(e:H a=some (.tup (ks.map kV))):(tupleKind (eT P w)).is h ks a:=by
 obtain⟨_,its,r,o,h1,h2,n,h3⟩:=(show cg P w H h a (.tup (ks.map kV))from ok a _ e)
 exact⟨o,its.toArray,n,h1,h2,h3,by simpa using GF r⟩
theorem vz{kvs:List (List Key×V)}(ok:bG P w H h)(e:Rd H a (.dT kvs)):kvs.length<=sizeLine/\(a==sysModules)=false/\
  ∃xs,KT H kvs xs/\h.DictOfH (tupleKind (eT P w)) a xs:=by
 obtain⟨z,y,xs,r,o,es,ep,h1,h2,h3,h4,h5⟩:=(show cg P w H h a (.dT kvs)from F8 ok e)
 refine⟨z,y,xs,r,o,es,ep,h1,h2,h3,h4,fun x hx=>?_,h5⟩
 have all:∀{l:List (List Key×V)}{m:List (List Key×Addr×Value)},KT H l m->∀x∈m,(tupleKind (eT P w)).is h x.1 x.2.1:=by
  intro l m q
  induction q with
  |nil=>intro x hx;exact nomatch hx
  | @cons p q ps qs hq t ih=>
   intro x hx
   rcases List.mem_cons.mp hx with e|hx
   ·subst e
    exact t7 ok (by rw[<-hq.1];exact hq.2.1)
   ·exact ih x hx
 exact all r x hx
theorem NF{kvs:List (List Key×V)}(ok:bG P w H h)(e:H a=some (.dT kvs)):kvs.length<=sizeLine/\(a==sysModules)=false/\
  ∃xs,KT H kvs xs/\h.DictOfH (tupleKind (eT P w)) a xs:=vz ok (.inl e)
end
def gd(H:Hp)(a:Addr)(y:V)(r:Option V):Prop:=
 (∃kvs k,Rd H a (.dK kvs)/\y=kV k/\r=bU kvs k)\/∃kvs k b,Rd H a (.dT kvs)/\y=.ref b/\H b=some (.tup (k.map kV))/\r=bU kvs k
def iP(H:Hp)(a:Addr)(y v:V)(H':Hp):Prop:=
 (∃kvs k,H a=some (.dK kvs)/\y=kV k/\kvs.length<sizeLine/\H'=upd H a (.dK (putK kvs k v)))\/
 ∃kvs k b,H a=some (.dT kvs)/\y=.ref b/\H b=some (.tup (k.map kV))/\kvs.length<sizeLine/\H'=upd H a (.dT (putK kvs k v))
theorem gd.k{H:Hp}{a:Addr}{kvs:List (Key×V)}{k:Key}(e:H a=some (.dK kvs)):gd H a (kV k) (bU kvs k):=.inl ⟨kvs,k,.inl e,rfl,rfl⟩
theorem gd.t{H:Hp}{a b:Addr}{kvs:List (List Key×V)}{k:List Key}(e:H a=some (.dT kvs))(eb:H b=some (.tup (k.map kV))):gd H a (.ref b) (bU kvs k):=.inr ⟨kvs,k,b,.inl e,rfl,eb,rfl⟩
theorem iP.k{H:Hp}{a:Addr}{kvs:List (Key×V)}{k:Key}{v:V}(e:H a=some (.dK kvs))(hl:kvs.length<sizeLine):iP H a (kV k) v (upd H a (.dK (putK kvs k v))):=.inl ⟨kvs,k,e,rfl,hl,rfl⟩
theorem iP.t{H:Hp}{a b:Addr}{kvs:List (List Key×V)}{k:List Key}{v:V}(e:H a=some (.dT kvs))(eb:H b=some (.tup (k.map kV)))(hl:kvs.length<sizeLine):
  iP H a (.ref b) v (upd H a (.dT (putK kvs k v))):=.inr ⟨kvs,k,b,e,rfl,eb,hl,rfl⟩
section
variable {X:Cx}{pins:List (Addr×Obj)}{σ:St}{H:Hp}{s:Shared}{a:Addr}{y v:V}{u r:Value}{o:Option V}{A:Around}{E:Value->Shared->Prop}
theorem Inv.big(I:Inv X pins σ H s):sysModules<s.heap.objs.size:=by
 have h:mainGlobals<s.heap.objs.size:=(I.mod.glob.keeps I.bk).lt
 exact Nat.lt_trans (by decide) h
theorem Kr{Q:Value->Shared->Prop}(hu:A.units+1<cLine)(I:Inv X pins σ H s)(g:gd H a y o)(ry:RelV y u)(h:∀s',Inv X pins σ H s'->Q (.bool o.isSome) s'):
  wpAny (model X.prog X.w) A (compareOp .In u (.ref a)) Q E s:=by
 rcases g with ⟨kvs,k,e,ey,l⟩|⟨kvs,k,b,e,ey,eb,l⟩
 ·subst ey
  obtain⟨z,hd,vs,rel,dd⟩:=vf I.az e
  refine wpAny_in_of (pz ry) hd dd.mapOf ?_
  rw[<-(rel.val k).uZ,<-l]
  exact h _ (I.tok _)
 ·subst ey
  cases (show u=Value.ref b from ry)
  obtain⟨z,hd,xs,rel,dd⟩:=vz I.az e
  refine wpAny_in_heap (tupleKind_room_in1 hu) (t7 I.az eb) hd dd ?_
  have q:=(rel.val k).uZ
  rw[Option.isSome_map]at q
  rw[<-q,<-l]
  exact h _ (I.tok _)
theorem EG{h':Heap}{t':Nat}{ob:HO}(I:Inv X pins σ H s)(mu:pS (H a))(hs:Heap.SameBut a s.heap h')(he:∃q,h'.get? a=some q)(new:cg X.prog X.w (upd H a ob) h' a ob):
  Inv X pins σ (upd H a ob) {s with heap:=h',toks:=t'}:=
 I.write (x:=a) (e:=a) mu (.inl rfl) (fun b q hb z=>(hs.2 b hb).trans z) he new
theorem NC{P:Program}{w:World}{H':Hp}{h':Heap}{kvs:List (Key×V)}{vs:List (Key×Value)}(z:kvs.length<=sizeLine)(hd:(a==sysModules)=false)(rel:KV kvs vs)(dd:h'.DictOf (eT P w) a vs):
  cg P w H' h' a (.dK kvs):=⟨z,hd,vs,rel,dd⟩
theorem LQ{H':Hp}{Q:Unit->Shared->Prop}(hu:A.units+1<cLine)(I:Inv X pins σ H s)(g:iP H a y v H')(ry:RelV y u)(rv:RelV v r)(h:∀s',Inv X pins σ H' s'->Q () s'):
  wpAny (model X.prog X.w) A (setItem (.ref a) u r) Q E s:=by
 rcases g with ⟨kvs,k,e,ey,l,eH⟩|⟨kvs,k,b,e,ey,eb,l,eH⟩
 ·subst ey eH
  obtain⟨z,hd,vs,rel,dd⟩:=OE I.az e
  have hz:vs.length<=sizeLine:=by rw[<-rel.length];exact z
  have hl:(putK kvs k v).length<=sizeLine:=by have:=mR kvs k v;lia
  refine wpAny_setItem_pairs (hsz:=hz) (pz ry) dd fun h' dd' hs=>h _ ?_
  have he:∃q,h'.get? a=some q:=let⟨q,_,_,hq,_⟩:=dd';⟨q,hq⟩
  exact EG I (by rw[e];exact True.intro) hs he (NC hl hd (rel.put k rv) dd')
 ·subst ey eH
  cases (show u=Value.ref b from ry)
  obtain⟨z,hd,xs,rel,dd⟩:=NF I.az e
  have hz:xs.length<=sizeLine:=by rw[<-Paired.length rel];exact z
  have hl:(putK kvs k v).length<=sizeLine:=by have:=mR kvs k v;lia
  refine wpAny_setItem_heap (hsz:=hz) (tupleKind_room_in1 hu) (t7 I.az eb) dd fun h' dd' hs=>h _ ?_
  obtain⟨q,es,ep,hq,h2,h3,h4,_,h5⟩:=dd'
  refine EG I (by rw[e];exact True.intro) hs ⟨q,hq⟩ ⟨hl,hd,_,(rel.put k eb rv).keeps fun c ys ec=>?_,q,es,ep,hq,h2,h3,h4,h5⟩
  rw[ao (bX ec e (fun z=>nomatch z))]
  exact ec
end
section
variable {X:Cx}{pins:List (Addr×Obj)}{σ:St}{H:Hp}{s:Shared}{a:Addr}{kvs:List (Key×V)}{k:Key}{u:Value}{A:Around}{E:Value->Shared->Prop}
end
def B0(i:Expr):Prop:=∀ov iv,subscripted i false ov iv=operate [ov,iv] (getItem ov iv)
theorem IW{prog:Program}{w:World}{A:Around}{E:Value->Shared->Prop}{s:Shared}{env:Env}{value slice:Expr}{pos:Pos}{T id:String}{Q:Value->Shared->Prop}
  (hl:typeLookup (.type T) "__getitem__"=pure (some (.builtin id))) (hs:B0 slice)
  (h:wpAny (model prog w) A (eval value env) (fun o s₁=>wpAny (model prog w) A (eval slice env) (fun i s₂=>s₂.TypeIs o T/\wpAny (model prog w) A (getItem o i) Q E s₂) E s₁) E s):
  wpAny (model prog w) A (eval (.Subscript value slice pos) env) Q E s:=by
 refine Subscript_ (wpAny_mono h (fun o s₁ h₁=>wpAny_mono h₁ (fun i s₂ h₂=>?_) fun _ _ x=>x) fun _ _ x=>x)
 obtain⟨hT,h₂⟩:=h₂
 unfold subscriptTail
 refine wpAny_bind ?_
 rw[getitemInPython_of_ne hT.not_modules]
 refine wpAny_bind (wpAny_specialOf hT hl ?_)
 have fin:wpAny (model prog w) A (subscripted slice false o i) (fun r s₃=>wpAny (model prog w) A (letTemporaryGo value o r>>=fun _=>pure r) Q E s₃) E s₂:=by
  rw[hs o i]
  exact wpAny_operating (wpAny_mono h₂ (fun r s₃ h₃=>wpAny_bind (wpAny_letTemporaryGo (wpAny_pure h₃))) fun _ _ x=>x)
 first
  |exact wpAny_pure (wpAny_bind fin)
  |exact wpAny_bind (wpAny_pure (wpAny_bind fin))
  |exact wpAny_bind fin
def LK(ty td:TE):TE:=fun σ H Q=>ty σ H fun y H1=>td σ H1 fun x H2=>∃a o,x=.ref a/\gd H2 a y o/\Q (.bl o.isSome) H2
def Iw(td ty tv:TE):TS:=fun D σ H=>tv σ H fun v H1=>td σ H1 fun x H2=>ty σ H2 fun y H3=>∃a H4,x=.ref a/\iP H3 a y v H4/\D.nx σ H4
section
variable {X:Cx}{o i e value:Expr}{pos pos' tpos:Pos}{td ty tv:TE}
theorem En(hu:X.A.units+1<cLine)(hi:PE X i ty)(ho:PE X o td):PC X .In i o (LK ty td):=by
 intro pins s σ H Q I h
 refine aH (hi pins s σ H _ I h) fun iv s1⟨y,H1,I1,ry,q1⟩=>aH (ho pins s1 σ H1 _ I1 q1) fun u s2 hh38=>?_
 obtain⟨x,H2,I2,rx,a,ov,ex,g,q2⟩:=hh38
 subst ex
 obtain rfl:u=Value.ref a:=rx
 exact Kr hu I2 g ry fun s3 I3=>⟨.bl ov.isSome,H2,I3,rfl,q2⟩
theorem wm(hu:X.A.units+1<cLine)(ho:PE X o td)(hi:PE X i ty)(hv:PE X value tv)(hs:swapsWith value (some (.Subscript o i pos')) pos.line X.env=pure false):
  PS X (.Assign [.Subscript o i pos'] value pos) (Iw td ty tv):=by
 intro pins s σ H D I h
 refine wpAny_Assign_Subscript (aH (hv pins s σ H _ I h) fun r s1⟨v,H1,I1,rv,q1⟩=>aH (ho pins s1 σ H1 _ I1 q1) fun u s2⟨x,H2,I2,rx,q2⟩=>aH (hi pins s2 σ H2 _ I2 q2) fun iv s3 hh39=>?_) hs
 obtain⟨y,H3,I3,ry,a,H4,ex,g,q3⟩:=hh39
 subst ex
 obtain rfl:u=Value.ref a:=rx
 exact LQ hu I3 g ry rv fun s4 I4=>⟨σ,H4,I4,q3⟩
end
theorem MY{P:Program}{w:World}{H:Hp}(h:Heap)(hb:sysModules<h.objs.size):cg P w H (h.push {cls:=.type "dict",data:=.dict #[]}) h.objs.size (.dK []):=
 ⟨Nat.zero_le _,beq_eq_false_iff_ne.mpr (Ne.symm (Nat.ne_of_lt hb)),[],.nil,Heap.DictOf.new h⟩
theorem MK{P:Program}{w:World}{H:Hp}(h:Heap)(hb:sysModules<h.objs.size):cg P w H (h.push {cls:=.type "dict",data:=.dict #[]}) h.objs.size (.dT []):=
 ⟨Nat.zero_le _,beq_eq_false_iff_ne.mpr (Ne.symm (Nat.ne_of_lt hb)),[],.nil,_,#[],0,Heap.get?_push_size _ rfl,⟨rfl,rfl,rfl⟩,rfl,rfl,List.nodup_nil⟩
def Rf:TE:=fun _ H Q=>∀p,H p=none->Q (.ref p) (upd H p (.dK []))
def Jc:TE:=fun _ H Q=>∀p,H p=none->Q (.ref p) (upd H p (.dT []))
section
variable {X:Cx}{pos:Pos}
theorem Gu:PE X (.Dict [] [] pos) Rf:=fun pins s σ H Q I h=>
 wpAny_Dict_empty ⟨.ref s.heap.objs.size,_,I.laid (a:=s.heap.objs.size) (o:=.dK []) (t':=s.toks) (fun _ _ q=>Heap.get?_push_of_some _ q) (Nat.le_refl _) (MY s.heap I.big),rfl,h _ (I.az.fresh (Nat.le_refl _))⟩
theorem Iv:PE X (.Dict [] [] pos) Jc:=fun pins s σ H Q I h=>
 wpAny_Dict_empty ⟨.ref s.heap.objs.size,_,I.laid (a:=s.heap.objs.size) (o:=.dT []) (t':=s.toks) (fun _ _ q=>Heap.get?_push_of_some _ q) (Nat.le_refl _) (MK s.heap I.big),rfl,h _ (I.az.fresh (Nat.le_refl _))⟩
end
structure M2(X:Cx)(o:Expr)(m:Str)(apos:Pos)(e f:Expr)(cpos:Pos):Prop where
 base:attributeBase o m X.env (eval o X.env)=eval o X.env
 IA:((backTo cpos (starEach [e,f] X.env)).all (fun x=> !x.1)&&(backToKw cpos (keywordEach [] X.env)).all (fun x=>x.1.isSome)
  &&decide (([e,f]:List Expr).length+([]:List Keyword).length+(if([]:List Keyword).isEmpty then 0 else 1)<30))=true
 line:(apos.endLine==cpos.line)=true
 trees:backTo cpos (starEach [e,f] X.env)=[(false,eval e X.env),(false,eval f X.env)]
def CT(H:Hp)(a:Addr):Prop:=(∃kvs,Rd H a (.dK kvs))\/∃kvs,Rd H a (.dT kvs)
theorem Pb{X:Cx}{pins:List (Addr×Obj)}{σ:St}{H:Hp}{s:Shared}{a:Addr}(I:Inv X pins σ H s)(d:CT H a):
  s.TypeIs (.ref a) "dict"/\(∀b,Value.ref a=.ref b->∃ob,s.heap.get? b=some ob/\ob.dict=none)/\(a==sysModules)=false:=by
 rcases d with ⟨kvs,e⟩|⟨kvs,e⟩
 ·obtain⟨_,hd,vs,_,dd⟩:=vf I.az e
  refine⟨dd.typeIs,fun b q=>?_,hd⟩
  cases q
  obtain⟨ob,_,_,h1,h2,_⟩:=dd
  exact⟨ob,h1,h2.2.1⟩
 ·obtain⟨_,hd,xs,_,dd⟩:=vz I.az e
  refine⟨dd.typeIs,fun b q=>?_,hd⟩
  cases q
  obtain⟨ob,_,_,h1,h2,_⟩:=dd
  exact⟨ob,h1,h2.2.1⟩
section
variable {X:Cx}{pins:List (Addr×Obj)}{σ:St}{H:Hp}{s:Shared}{a:Addr}{y d:V}{u r:Value}{o:Option V}{A:Around}{E:Value->Shared->Prop}
theorem Je{Q:Value->Shared->Prop}(hu:A.units+1<cLine)(I:Inv X pins σ H s)(g:gd H a y o)(ry:RelV y u)(rd:RelV d r)(h:∀w' s',Inv X pins σ H s'->RelV (o.getD d) w'->Q w' s'):
  wpAny (model X.prog X.w) A (call (.builtin "dict.get") [.ref a,u,r]) Q E s:=by
 rcases g with ⟨kvs,k,e,ey,l⟩|⟨kvs,k,b,e,ey,eb,l⟩
 ·subst ey
  obtain⟨z,hd,vs,rel,dd⟩:=vf I.az e
  refine call_meetsIn PySem.F.slot_dict_get dd.typeIs PySem.F.entry_dict_get (PySem.F.args_dict_get_3 _ _ _) (meets_dict_get_default (eT X.prog X.w) a (pz ry) hd r) ⟨_,dd.mapOf,h _ _ (I.tok _) ?_⟩
  rw[l]
  exact(rel.val k).getD rd
 ·subst ey
  cases (show u=Value.ref b from ry)
  obtain⟨z,hd,xs,rel,dd⟩:=vz I.az e
  refine call_meetsIn PySem.F.slot_dict_get dd.typeIs PySem.F.entry_dict_get (PySem.F.args_dict_get_3 _ _ _) (meetsH_dict_get_default (tupleKind (eT X.prog X.w)) a b hd r) ⟨tupleKind_room_in1 hu,k,xs,t7 I.az eb,dd,h _ _ (I.tok _) ?_⟩
  rw[l]
  exact(rel.val k).getD rd
end
def M8(td ty tx:TE):TE:=fun σ H Q=>td σ H fun x H1=>∃a,x=.ref a/\CT H1 a/\ty σ H1 fun y H2=>tx σ H2 fun z H3=>∃o,gd H3 a y o/\Q (o.getD z) H3
section
variable {X:Cx}{o e f:Expr}{apos cpos:Pos}{td ty tx:TE}
theorem B7(hu:X.A.units+1<cLine)(ho:PE X o td)(he:PE X e ty)(hf:PE X f tx)(m:M2 X o "get" apos e f cpos):PE X (.Call (.Attribute o "get" apos) [e,f] [] cpos) (M8 td ty tx):=by
 intro pins s σ H Q I h
 refine wpAny_Call_method m.base m.IA m.line PySem.F.plainAttrs_dict PySem.F.slot_dict_get PySem.F.type_dict_get (aH (ho pins s σ H _ I h) fun u s1 hh40=>?_)
 obtain⟨x,H1,I1,rx,a,ex,d,q1⟩:=hh40
 subst ex
 obtain rfl:u=Value.ref a:=rx
 obtain⟨t1,t2,_⟩:=Pb I1 d
 refine⟨t1,t2,?_⟩
 rw[m.trees]
 refine Calls.callWith_builtin rfl (Calls.evalArgs_plain (Calls.spliced_cons (aH (he pins s1 σ H1 _ I1 q1) fun iv s2⟨y,H2,I2,ry,q2⟩=>
  Calls.spliced_cons (aH (hf pins s2 σ H2 _ I2 q2) fun fv s3⟨z,H3,I3,rz,ov,g,q3⟩=>Calls.spliced_nil ?_))))
 exact Je hu I3 g ry rz fun w' s4 I4 rw'=>⟨_,H3,I4,rw',q3⟩
end
section
variable {X:Cx}{pins:List (Addr×Obj)}{σ:St}{H:Hp}{s:Shared}{a:Addr}{kvs:List (Key×V)}{A:Around}{E:Value->Shared->Prop}
end
section
variable {X:Cx}{pins:List (Addr×Obj)}{σ:St}{H:Hp}{s:Shared}{a:Addr}{y:V}{u:Value}{A:Around}{E:Value->Shared->Prop}
end
end L2
namespace L2
open PySem PySem.Spec PyProof.Rows
section
variable {prog:Program}{w:World}{A:Around}{E:Value->Shared->Prop}
end
section
variable {X:Cx}
end
end L2
namespace L2
open PySem PySem.Spec PyProof.Rows
section
variable {X:Cx}{pins:List (Addr×Obj)}{σ:St}{H:Hp}{s:Shared}{h':Heap}
theorem Inv.Ja{t':Nat}{ch:List Addr}(I:Inv X pins σ H s)(k:∀b o,b∉ch->s.heap.get? b=some o->h'.get? b=some o)(hf:∀b∈ch,gy X pins H b):Inv X pins σ H {s with heap:=h',toks:=t'}:=by
 have nit:∀b u,H b=some u->b∉ch:=fun b u e z=>by
  have q:=(hf b z).1
  rw[q]at e;cases e
 refine I.step (g':=s.gens) (d':=s.drawn) (ch:=ch) (fun b hb=>⟨(hf b hb).2.2.2.1,(hf b hb).2.1,(hf b hb).2.2.2.2.1,(hf b hb).2.2.2.2.2⟩) (fun b o _ _ hc e _=>k b o hc e) (fun b o _ _ hc e _=>⟨o.slots,k b o hc e⟩)
  (fun _ _ _ _ n=>n) (fun b o hc e=>⟨o,k b o hc e⟩) (fun _ _ e=>e) (fun _ _ _ e=>e) (fun b ps e=>⟨#[],by rw[e];simp⟩) (fun m hm=>?_) (fun b u e=>?_) I.bare
 ·obtain⟨o,es,ep,ho,r⟩:=hm
  exact⟨o,es,ep,k _ o (fun z=>(hf _ z).2.1 rfl) ho,r⟩
 ·refine(I.az b u e).ie (fun c v hc q=>k c v ?_ q) (fun _ q=>q) fun _ _ q=>q
  rcases hc with z|z
  ·rw[z];exact nit b u e
  ·exact nit c _ z
theorem Inv.QM{t':Nat}{ch:List Addr}{T:Addr}{ob:HO}(I:Inv X pins σ H s)(k:∀b o,b∉ch->s.heap.get? b=some o->h'.get? b=some o)(hf:∀b∈ch,gy X pins H b)(hT:s.heap.objs.size<=T)
  (new:cg X.prog X.w (upd H T ob) h' T ob):Inv X pins σ (upd H T ob) {s with heap:=h',toks:=t'}:=by
 have hn:H T=none:=I.az.fresh hT
 have nit:∀b u,H b=some u->b∉ch:=fun b u e z=>by
  have q:=(hf b z).1
  rw[q]at e;cases e
 refine I.step (g':=s.gens) (d':=s.drawn) (ch:=ch) (fun b hb=>⟨(hf b hb).2.2.2.1,(hf b hb).2.1,(hf b hb).2.2.2.2.1,(hf b hb).2.2.2.2.2⟩) (fun b o _ _ hc e _=>k b o hc e) (fun b o _ _ hc e _=>⟨o.slots,k b o hc e⟩)
  (fun b o _ e n=>?_) (fun b o hc e=>⟨o,k b o hc e⟩) (fun b xs e=>?_) (fun b o u e=>?_) (fun b ps e=>⟨#[],?_⟩) (fun m hm=>?_) (fun b u e=>?_) I.bare
 ·rw[ao (Nat.ne_of_lt (Nat.lt_of_lt_of_le (Heap.lt_size e) hT))];exact n
 ·rw[ao (dI e hn)];exact e
 ·rw[ao (dI e hn)];exact e
 ·rw[ao (dI e hn),e];simp
 ·obtain⟨o,es,ep,ho,r⟩:=hm
  exact⟨o,es,ep,k _ o (fun z=>(hf _ z).2.1 rfl) ho,r⟩
 ·by_cases hb:b=T
  ·subst hb
   rw[aB]at e
   cases e
   exact new
  ·rw[ao hb]at e
   refine(I.az b u e).ie (fun c v hc q=>k c v ?_ q) (fun c q=>by rw[ao (dI q hn)];exact q) fun c xs q=>by rw[ao (dI q hn)];exact q
   rcases hc with z|z
   ·rw[z];exact nit b u e
   ·exact nit c _ z
end
section
variable {X:Cx}
end
section
variable {X:Cx}{tg:Expr}
end
section
variable {X:Cx}{tg:Expr}
end
section
variable {prog:Program}{w:World}{A:Around}{E:Value->Shared->Prop}{s:Shared}
end
section
variable {X:Cx}{pins:List (Addr×Obj)}{σ:St}{H:Hp}{s:Shared}{d:Addr}{o:Obj}
end
section
variable {P:Program}{w:World}{K:PySem.W.Frag}{tg:Expr}{d:Addr}{o:Obj}{es:Array DictEntry}{ep:Nat}
end
section
variable {X:Cx}{tg e:Expr}{td:TE}{apos cpos:Pos}
end
theorem J2:bootBuiltins "zip"=some (.type "zip"):=by decide +kernel
def sO(K:PySem.W.Frag)(a b:Addr):It:=
 ⟨fun i H=>∃(xs ys:List V)(x y:V),aM K H a xs/\aM K H b ys/\xs[i]? =some x/\ys[i]? =some y,
  fun i H v H'=>∃T x y,v=.ref T/\H T=none/\H'=upd H T (.tup [x,y])/\(∀xs,aM K H a xs->xs[i]? =some x)/\∀ys,aM K H b ys->ys[i]? =some y,
  fun i H=>∃xs ys:List V,aM K H a xs/\aM K H b ys/\(xs.length<=i\/ys.length<=i)⟩
theorem OT{P:Program}{w:World}{K:PySem.W.Frag}{elts:List Expr}{kk:Nat}{tpos:Pos}{a b z TI TO i1 i2:Addr}(D:ZipApart z TI TO i1 i2 a b):
  Turn P w K (.Tuple elts kk tpos) (sO K a b) [z,TI,TO,i1,i2] z (fun i h=>IsZip h z TI TO .none/\IsPair h TI (.ref i1) (.ref i2)/\(∃x y,IsPair h TO x y)/\h.IsListIter i1 a i/\h.IsListIter i2 b i) where
 mem:=by simp
 obj:=fun i h st c hc=>by
  obtain⟨hz,hTI,⟨x,y,hTO⟩,⟨o1,e1,_,d1⟩,⟨o2,e2,_,d2⟩⟩:=st
  have e':c=z\/c=TI\/c=TO\/c=i1\/c=i2:=by simpa using hc
  rcases e' with q|q|q|q|q
  ·rw[q];exact⟨_,hz,fun v q=>nomatch q⟩
  ·rw[q];exact⟨_,hTI,fun v q=>nomatch q⟩
  ·rw[q];exact⟨_,hTO,fun v q=>nomatch q⟩
  ·rw[q];exact⟨o1,e1,fun v q=>by rw[d1]at q;cases q⟩
  ·rw[q];exact⟨o2,e2,fun v q=>by rw[d2]at q;cases q⟩
 keep:=fun i h h' st k=>by
  obtain⟨hz,hTI,⟨x,y,hTO⟩,h1,h2⟩:=st
  exact⟨k z (by simp) _ hz,k TI (by simp) _ hTI,⟨x,y,k TO (by simp) _ hTO⟩,h1.at fun o q=>k i1 (by simp) o q,h2.at fun o q=>k i2 (by simp) o q⟩
 item:=by
  intro X hP hw hK hc i pins s σ H E I hf st hg
  subst hP hw hK
  obtain⟨hz,hTI,⟨x0,y0,hTO⟩,h1,h2⟩:=st
  obtain⟨xs,ys,x,y,hqx,hqy,hx,hy⟩:=hg
  obtain⟨its,rv,p,_⟩:=I.list hqx
  obtain⟨its2,rv2,p2,_⟩:=I.list hqy
  obtain⟨u,hu,ru⟩:=rv.get hx
  obtain⟨u2,hu2,ru2⟩:=rv2.get hy
  have hzl:z<s.heap.objs.size:=Heap.lt_size hz
  refine wpAny_pyNext_zip_item D hz hTI hTO h1 h2 p.isList p2.isList (x:=u) (y:=u2) (by simpa using hu) (by simpa using hu2) fun h' z' TO' h1' h2' hT hsz hk=>?_
  refine⟨_,rfl,wpAny_letOwnedTupleGo_zip (s:={s with heap:=h'}) z' fun h'' z'' sb=>?_⟩
  have hT2:h''.get? s.heap.objs.size=some {cls:=.type "tuple",data:=.seq #[u,u2]}:=(sb.2 _ (Nat.ne_of_gt hzl)).trans hT
  have new:cg X.prog X.w (upd H s.heap.objs.size (.tup [x,y])) h'' s.heap.objs.size (.tup [x,y]):=
   ⟨by show 2<=sizeLine;decide,[u,u2],.cons ru (.cons ru2 .nil),⟨_,hT2,rfl,_,rfl⟩⟩
  have I1:Inv X pins σ (upd H s.heap.objs.size (.tup [x,y])) {s with heap:=h''}:=
   I.QM (t':=s.toks) (ch:=[z,TI,TO,i1,i2]) (fun c o hb q=>(sb.2 c (fun q'=>hb (by simp[q']))).trans (hk c o (fun q'=>hb (by simp[q'])) (fun q'=>hb (by simp[q'])) (fun q'=>hb (by simp[q'])) (fun q'=>hb (by simp[q'])) q)) hf (Nat.le_refl _) new
  refine⟨.ref s.heap.objs.size,_,I1,rfl,⟨_,x,y,rfl,I.az.fresh (Nat.le_refl _),rfl,fun l hl=>by rw[I.Bw hl hqx];exact hx,fun l hl=>by rw[I.Bw hl hqy];exact hy⟩,⟨z'',?_,⟨u,u2,?_⟩,?_,?_⟩,fun c hcm=>?_⟩
  ·exact(sb.2 _ D.TIz).trans (hk _ _ D.TIz D.TITO D.TIi1 D.TIi2 hTI)
  ·exact(sb.2 _ D.TOz).trans TO'
  ·exact h1'.at fun o q=>(sb.2 _ D.i1z).trans q
  ·exact h2'.at fun o q=>(sb.2 _ D.i2z).trans q
  ·have hlt:c<s.heap.objs.size:=by
    have e':c=z\/c=TI\/c=TO\/c=i1\/c=i2:=by simpa using hcm
    rcases e' with q|q|q|q|q
    ·rw[q];exact hzl
    ·rw[q];exact Heap.lt_size hTI
    ·rw[q];exact Heap.lt_size hTO
    ·rw[q];obtain⟨_,e1,_⟩:=h1;exact Heap.lt_size e1
    ·rw[q];obtain⟨_,e2,_⟩:=h2;exact Heap.lt_size e2
   rw[ao (Nat.ne_of_lt hlt)]
   exact(hf c hcm).1
 done:=by
  intro X hP hw hK hc i pins s σ H E I hf st hg
  subst hP hw hK
  obtain⟨hz,hTI,⟨x0,y0,hTO⟩,h1,h2⟩:=st
  obtain⟨xs,ys,hqx,hqy,hend⟩:=hg
  obtain⟨its,rv,p,_⟩:=I.list hqx
  obtain⟨its2,rv2,p2,_⟩:=I.list hqy
  have l1:=rv.length
  have l2:=rv2.length
  have he:its.toArray[i]? =none\/its2.toArray[i]? =none:=by
   rcases hend with q|q
   ·exact .inl (by simp;lia)
   ·exact .inr (by simp;lia)
  exact wpAny_pyNext_zip_end (I.ok.hd hc) D hz hTI hTO h1 h2 p.isList p2.isList he fun h' hk=>⟨rfl,I.Ja (t':=s.toks) (ch:=[z,TI,TO,i1,i2]) (fun c o hb q=>
   hk c o (fun q'=>hb (by simp[q'])) (fun q'=>hb (by simp[q'])) (fun q'=>hb (by simp[q'])) (fun q'=>hb (by simp[q'])) q) hf⟩
 self:=fun A i s Q E st h=>wpAny_pyIter_zip st.1 h
def LF(K:PySem.W.Frag)(ta:TA):TI:=fun σ H R=>ta σ H fun vs H1=>∃a b xs ys,vs=[.ref a,.ref b]/\aM K H1 a xs/\aM K H1 b ys/\R (sO K a b) H1
theorem Qe{X:Cx}{e e2:Expr}{ta:TA}{p pos tpos:Pos}{elts:List Expr}{kk:Nat}(hg:Gl X "zip")(hm:X.mg "zip"=none)(ha:PA X [e,e2] ta)
  (hs:starEach [e,e2] X.env=(false,eval e X.env)::starEach [e2] X.env:=by rfl) (hpl:(backTo pos (starEach [e2] X.env)).any (·.1)=false:=by rfl):
  PI X (.Tuple elts kk tpos) (.Call (.Name "zip" p) [e,e2] [] pos) (LF X.K ta):=by
 intro pins s σ H R I h
 refine Call_ (Aw I hg hm J2 (PyProof.Rows.callWith_type1 (aH (ha pos pins s σ H _ I h) fun us s1 hh41=>?_) hs hpl))
 obtain⟨vs,H1,I1,r1,q1⟩:=hh41
 obtain⟨a,b,xs,ys,ex,hqx,hqy,q⟩:=q1
 subst ex
 cases r1 with
 |cons r rr=>
  cases rr with
  |cons r' rr=>
   cases rr
   cases r
   cases r'
   obtain⟨its,rv,p1,_⟩:=I1.list hqx
   obtain⟨its2,rv2,p2,_⟩:=I1.list hqy
   have la:a<s1.heap.objs.size:=p1.lt
   have lb:b<s1.heap.objs.size:=p2.lt
   refine call_zip_2 p1.isList p2.isList fun h' hz hTI hTO h1 h2 hsz hk=>wpAny_pyIter_zip hz ?_
   have I2:Inv X pins σ H1 {s1 with heap:=h'}:=I1.kept (t':=s1.toks) hk
   refine⟨s1.heap.objs.size+4,[s1.heap.objs.size+4,s1.heap.objs.size+2,s1.heap.objs.size+3,s1.heap.objs.size,s1.heap.objs.size+1],_,_,H1,rfl,I2,OT (PySem.W.ktu_apart s1.heap.objs.size a b la lb),⟨hz,hTI,⟨_,_,hTO⟩,h1,h2⟩,fun c hcm=>?_,q⟩
   have e':c=s1.heap.objs.size+4\/c=s1.heap.objs.size+2\/c=s1.heap.objs.size+3\/c=s1.heap.objs.size\/c=s1.heap.objs.size+1:=by simpa using hcm
   have hle:s1.heap.objs.size<=c:=by
    rcases e' with z|z|z|z|z
    ·rw[z];exact Nat.le_add_right _ _
    ·rw[z];exact Nat.le_add_right _ _
    ·rw[z];exact Nat.le_add_right _ _
    ·rw[z];exact Nat.le_refl _
    ·rw[z];exact Nat.le_add_right _ _
   exact I1.zE hle (I1.az.fresh hle)
end L2
section
namespace Bits
open PySem PyProof.Rows
end Bits
end
section
namespace TL
open PySem PySem.Builtin PySem.Builtin.Str PySem.StrLaws
abbrev tl(x:Str):List Nat:=x.cps.toList
theorem Fw(x y:Str):tl (x++y)=tl x++tl y:=by
 show(x++y).cps.toList=_
 rw[Str.cps_append,Array.toList_append]
def mH(S:List Nat):List (List Nat)->List Nat
 |[]=>[]
 |[p]=>p
 |p::q::r=>p++(S++mH S (q::r))
theorem HN(y:Str):∀parts:List Str,tl (Str.join y parts)=mH (tl y) (parts.map tl)
 |[]=>rfl
 |[_]=>rfl
 |x::z::r=>by
  show tl (x++y++Str.join y (z::r))=tl x++(tl y++mH (tl y) ((z::r).map tl))
  rw[Fw,Fw,HN y (z::r),List.append_assoc]
theorem join_eq(y:Str)(parts:List Str):Txt.join y parts=Str.join y parts:=glued_eq_join y parts
end TL
end
namespace L2
open PySem PySem.Spec PyProof.Rows
theorem Ae:∀{ys:List Str}{us:List Value},aW (ys.map V.str) us->StrsAre us ys
 |[],_,.nil=>.nil
 |y::ys,_,.cons r t=>by
  obtain⟨k,rfl⟩:=r
  exact .cons y k (Ae t)
section
variable {X:Cx}{pins:List (Addr×Obj)}{σ:St}{H:Hp}{s:Shared}{Q:VK}
end
section
variable {X:Cx}
theorem M3:zJ X "str.join" (fun x xs H Q=>∃a p,∃ys:List Str,x=.str a/\xs=[.ref p]/\(aM X.K H p (ys.map V.str)\/dZ X.K H p (ys.map V.str))/\
  (ys.map (·.length)).sum+ys.length*a.length<=16777216/\Q (.str (Txt.join a ys)) H):=by
 intro pins s σ H x xs v us Q I rx rs h
 obtain⟨a,p,ys,rfl,rfl,hp,hz,h⟩:=h
 obtain⟨t,rfl⟩:=rx
 cases rs with
 |cons r1 rs=>
  cases rs
  cases r1
  rcases hp with hp|hp
  ·obtain⟨its,r,⟨o,n,ho,hc,_,hd⟩,_⟩:=I.list hp
   exact PyProof.Rows.join_list (items:=its.toArray) ⟨o,ho,hc,n,hd⟩ (by rw[List.toList_toArray];exact Ae r) hz fun t' k=>⟨.str _,H,I.tok k,⟨t',rfl⟩,h⟩
  ·obtain⟨its,r,ht,_⟩:=I.tuple hp
   exact PyProof.Rows.join_tuple (items:=its.toArray) ht (by rw[List.toList_toArray];exact Ae r) hz fun t' k=>⟨.str _,H,I.tok k,⟨t',rfl⟩,h⟩
end
section
variable {X:Cx}{o e:Expr}{to te:TE}
def Fs(r:V->List V->Hp->VK->Prop)(to te:TE):TE:=fun σ H Q=>to σ H fun x H1=>(∃a,x=.str a)/\te σ H1 fun y H2=>r x [y] H2 Q
theorem Qc{id:String}{name:Str}{apos pos:Pos}{r:V->List V->Hp->VK->Prop}(slot:Slot "str" name id)(ty:typeOf (.builtin id)=pure (.type "method_descriptor"))(rule:zJ X id r)(ho:PE X o to)(he:PE X e te)
  (hs:starEach [e] X.env=[(false,eval e X.env)]:=by rfl) (hbase:attributeBase o name X.env (eval o X.env)=eval o X.env:=by rfl) (hline:(apos.endLine==pos.line)=true:=by rfl):
  PE X (.Call (.Attribute o name apos) [e] [] pos) (Fs r to te):=by
 intro pins s σ H Q I h
 refine PySem.Call_method1 hbase hs hline (aH (ho pins s σ H _ I h) fun v s1 hh42=>?_)
 obtain⟨x,H1,I1,r1,q1⟩:=hh42
 obtain⟨⟨a,rfl⟩,q1⟩:=q1
 obtain⟨t,rfl⟩:=_root_.id r1
 refine⟨"str",_,F.plainAttrs_str,slot,ty,typeIs_str _ _ _,(fun _ e=>nomatch e),Calls.callWith_builtin rfl (Calls.evalArgs_plain (Calls.spliced_cons ?_))⟩
 exact aH (he pins s1 σ H1 _ I1 q1) fun u s2⟨y,H2,I2,r2,q2⟩=>Calls.spliced_nil (rule pins s2 σ H2 _ [y] _ [u] Q I2 r1 (.cons r2 .nil) q2)
theorem IT{apos pos:Pos}(ho:PE X o to)(he:PE X e te)(hs:starEach [e] X.env=[(false,eval e X.env)]:=by rfl)(hbase:attributeBase o "join" X.env (eval o X.env)=eval o X.env:=by rfl)(hline:(apos.endLine==pos.line)=true:=by rfl):
  PE X (.Call (.Attribute o "join" apos) [e] [] pos) (Fs (fun x xs H Q=>∃a p,∃ys:List Str,x=.str a/\xs=[.ref p]/\(aM X.K H p (ys.map V.str)\/dZ X.K H p (ys.map V.str))/\
   (ys.map (·.length)).sum+ys.length*a.length<=16777216/\Q (.str (Txt.join a ys)) H) to te):=
 Qc F.slot_str_join F.type_str_join M3 ho he hs hbase hline
end
end L2
namespace L2
open PySem PySem.Spec PyProof.Rows
section
variable {X:Cx}
end
end L2
namespace Att
open PySem PySem.W PySem.Calls PyProof.Rows
section
variable {prog:Program}{w:World}{A:Around}{E:Value->Shared->Prop}{s:Shared}{K:Frag}
end
end Att
namespace L2
open PySem PySem.Spec PyProof.Rows
end L2
namespace L2
open PySem PySem.Spec PyProof.Rows
end L2
namespace L2
open PySem PySem.Spec PyProof.Rows
def inClass(s:Stmt)(j:Nat):Stmt:=match s with
 | .ClassDef _ _ _ body _ _ _ _ _ _ _=>body.getD j (.Pass ⟨0,0,0,0⟩)
 |_=>.Pass ⟨0,0,0,0⟩
def mh(s:Stmt):Arguments:=match s with
 | .FunctionDef _ a _ _ _ _ _ _ _ _=>a
 |_=>{posonlyargs:=[],args:=[],vararg:=none,kwonlyargs:=[],kw_defaults:=[],kwarg:=none,defaults:=[]}
def iB(s:Stmt):List Stmt:=match s with
 | .FunctionDef _ _ b _ _ _ _ _ _ _=>b
 |_=>[]
def aC(s:Stmt):Scope:=match s with
 | .FunctionDef _ _ _ _ _ _ sc _ _ _=>sc
 |_=>{kind:=.function,names:=[],isGenerator:=false,isCoroutine:=false}
abbrev aV:eC:=fun _ _ _ _ _ _=>False
abbrev E0:XK:=fun _ _ _=>False
theorem aU{X:Cx}:Passes aV X E0:=fun _ _ _ _ _ _ _ h=>h.elim
structure aG(K:PySem.W.Frag)(x qual:Str)(st:Stmt)(f:Addr)(fd:FuncData):Prop where
 ex:∃(oc:Value)(od:Option Addr)(kV doc pm:Value)(an:Option Addr)(cdv ct:Value)(osl:Array (Option Value)),
  fd=PySem.W.fnOf x qual (mh st) (iB st) (aC st) .none kV doc pm an cdv ct/\K.lookup f=some ⟨oc,od,.func fd,osl⟩/\PySem.W.codeIn K cdv qual=true
 kp:PySem.W.keepIn K (.ref f)=true
section
variable {P:Program}{w:World}{K:PySem.W.Frag}{mg:Str->Option Value}{base:Heap}
theorem aG.ok{x qual:Str}{st:Stmt}{f:Addr}{fd:FuncData}{N ps:List Str}{k:Nat}{sp:Sp}(F:aG K x qual st f fd)(S:aI N ps (aC st))(len:∀vs H Q E,sp vs H Q E->vs.length=ps.length)
  (hbody:∀(cdv:Value)(A:Around)(outer:List Env)(s:Shared)(H:Hp)(vs:List V)(Q:VK)(E:XK),bC k (A.deeper (envOfC qual (aC st) s.heap.objs.size f cdv))->sp vs H Q E->
   ∃t,d9 (fU aV P w K mg base N qual (aC st) f cdv A outer s H E).vG (iB st) t/\t {nx:=fun _ H'=>Q .ay H',rt:=Q} (start N vs) H):ax P w K mg base aV (k+1) f fd ps sp:=by
 obtain⟨oc,od,kV,doc,pm,an,cdv,ct,osl,rfl,lk,hcd⟩:=F.ex
 refine CJ lk hcd S len fun A outer s H vs Q E hr hsp=>?_
 obtain⟨t,h,q⟩:=hbody cdv A outer s H vs Q E hr hsp
 exact⟨t,h.vG,q⟩
theorem aG.binds{x qual:Str}{st:Stmt}{f:Addr}{fd:FuncData}{ps:List Str}(F:aG K x qual st f fd)
  (h:∀(kV doc pm:Value)(an:Option Addr)(cdv ct:Value)(us:List Value),us.length=ps.length->bindArgs (PySem.W.fnOf x qual (mh st) (iB st) (aC st) .none kV doc pm an cdv ct) ⟨us,[]⟩=pure (ps.zip us)):Binds K fd ps []:=by
 obtain⟨oc,od,kV,doc,pm,an,cdv,ct,osl,rfl,lk,hcd⟩:=F.ex
 exact .all (h kV doc pm an cdv ct)
end
theorem kz{A:Around}{k:Nat}(hr:bC k A):A.units+1<cLine:=Nat.lt_of_le_of_lt (Nat.add_le_add_left (by decide:1<=64) _) hr.units
theorem KW{n:Nat}(h:n<=1000):n<sizeLine:=Nat.lt_of_le_of_lt h (by decide)
section
variable {X:Cx}
theorem pv(i:Nat){x:Str}{pos:Pos}(hN:X.N[i]? =some x:=by rfl)(hv:kT X.env.scope x:=by first|exact Or.inl rfl|exact Or.inr (Or.inl rfl)|exact Or.inr (Or.inr rfl))(hd:(x==("__debug__":Str))=false:=by decide)
  (hcd:(x==("__classdict__":Str))=false:=by decide):PE X (.Name x pos) (bI i):=FZ hN hv hd hcd
end
theorem bD{A B:Prop}(h:B):if false=true then A else B:=by
 rw[if_neg Bool.false_ne_true]
 exact h
theorem bu{A B:Prop}(h:A):if true=true then A else B:=by
 rw[if_pos rfl]
 exact h
theorem aX{c A B:Prop}[Decidable c](h1:c->A)(h2:¬c->B):if c then A else B:=by
 by_cases h:c
 ·rw[if_pos h]
  exact h1 h
 ·rw[if_neg h]
  exact h2 h
theorem pw{c A B:Prop}[Decidable c](hc:c)(h:B):if(!decide c)=true then A else B:=by
 rw[decide_eq_true hc]
 exact bD h
def aO(H H':Hp):Prop:=∀b o,H b=some o->H' b=some o
theorem aO.refl(H:Hp):aO H H:=fun _ _ h=>h
theorem aO.trans{H H1 H2:Hp}(a:aO H H1)(b:aO H1 H2):aO H H2:=fun c o h=>b c o (a c o h)
theorem aO.free{H H':Hp}(e:aO H H'){l:Addr}(h:H' l=Option.none):H l=Option.none:=by
 cases q:H l with
 |none=>rfl
 |some o=>
  rw[e l o q]at h
  cases h
theorem aO.seq{K:PySem.W.Frag}{H H':Hp}{a:Addr}{xs:List V}(e:aO H H')(h:aM K H a xs):aM K H' a xs:=by
 rcases h with (h|⟨o,h⟩)|h
 ·exact .inl (.inl (e _ _ h))
 ·exact .inl (.inr ⟨o,e _ _ h⟩)
 ·exact .inr h
section
variable {κ:Type}[DecidableEq κ]
end
theorem aO.made{H H1:Hp}{x dx C:Addr}(nx:H x=Option.none)(nd:H dx=Option.none)(k:∀b o,(upd (upd H dx (.own x)) x (.ins C dx [])) b=some o->b≠x->H1 b=some o):aO H H1:=fun b o e=>
 k b o (by rw[ao (dI e nx),ao (dI e nd)];exact e) (dI e nx)
end L2
end
section
set_option Elab.async false
set_option linter.all false
namespace L2
open PySem PySem.Spec PyProof.Rows
theorem eX{α β:Type}{x:β}{f:α->β}{P:α->Prop}(k:α)(e:x=f k)(h:P k):∃k,x=f k/\P k:=⟨k,e,h⟩
theorem rM{s:Option (Option V)}{p C dx:Addr}{H:Hp}{fs:List (Str×V)}{m:Str}{P:V->Prop}(h1:s=some (some (.ref p)))(h2:H p=some (.ins C dx fs))(h3:fs.lookup m=none)(h:P (.ref p)):
  ∃x,s=some (some x)/\∃a dx fs,x=.ref a/\H a=some (.ins C dx fs)/\fs.lookup m=none/\P x:=⟨_,h1,_,_,_,rfl,h2,h3,h⟩
theorem rN{x:V}{p C dx:Addr}{H:Hp}{fs:List (Str×V)}{m:Str}{P:Prop}(h1:x=.ref p)(h2:H p=some (.ins C dx fs))(h3:fs.lookup m=none)(h:P):
  ∃a dx fs,x=.ref a/\H a=some (.ins C dx fs)/\fs.lookup m=none/\P:=⟨_,_,_,h1,h2,h3,h⟩
theorem rF{K:PySem.W.Frag}{s:Option (Option V)}{p C dx:Addr}{H:Hp}{fs:List (Str×V)}{f:Str}{v:V}{P:V->Prop}(h1:s=some (some (.ref p)))(h2:H p=some (.ins C dx fs))(c:eL K C)(n:bw K C f)(l:fs.lookup f=some v)(h:P v):
  ∃x,s=some (some x)/\∃a C dx fs v,x=.ref a/\H a=some (.ins C dx fs)/\eL K C/\bw K C f/\fs.lookup f=some v/\P v:=⟨_,h1,_,_,_,_,_,rfl,h2,c,n,l,h⟩
theorem rG{K:PySem.W.Frag}{x:V}{p C dx:Addr}{H:Hp}{fs:List (Str×V)}{f:Str}{v:V}{P:V->Prop}(h1:x=.ref p)(h2:H p=some (.ins C dx fs))(c:eL K C)(n:bw K C f)(l:fs.lookup f=some v)(h:P v):
  ∃a C dx fs v,x=.ref a/\H a=some (.ins C dx fs)/\eL K C/\bw K C f/\fs.lookup f=some v/\P v:=⟨_,_,_,_,_,h1,h2,c,n,l,h⟩
theorem dN{K:PySem.W.Frag}{s:Option (Option V)}{v:V}{C:Addr}{H:Hp}{t:Value}{b:Bool}{P:Bool->Prop}(h1:s=some (some v))(ty:eG K H v t)(k:PySem.W.kitOne K t (.ref C)=some b)(h:P b):
  ∃v,s=some (some v)/\∃(x:V)(D:Addr)(t:Value)(b:Bool),[v,.ref C]=[x,.ref D]/\eG K H x t/\PySem.W.kitOne K t (.ref D)=some b/\∃k,V.bl b=.bl k/\P k:=⟨_,h1,_,_,_,_,rfl,ty,k,_,rfl,h⟩
theorem sH{t u:TS}{D:Ends}{σ:St}{H:Hp}(h:∀R:St->Hp->Prop,(∀σ H,u D σ H->R σ H)->t {D with nx:=R} σ H):ky t u D σ H:=h (u D) fun _ _ z=>z
end L2
end
section
set_option Elab.async false
set_option linter.all false
set_option maxRecDepth 100000
set_option maxHeartbeats 4000000
namespace L2
open PySem PySem.Spec PyProof.Rows
open PySem.W (Looks)
section
variable {prog:Program}{w:World}{A:Around}{E:Value->Shared->Prop}{R:Result->Shared->Prop}{h:Heap}{g:Array GenState}{d:Drawn}{t:Nat}{os:OsState}
variable {nm q:Str}{C N:Addr}{bs bm:List Value}{hdct:Bool}{sn:List Str}{sub:List Value}{ab:Bool}{col:Option Bool}{dd:Option Addr}{k0 k1 k2 k3 k5:Option Value}
theorem PZ{M:Model}{rest:List Value}{Q:Unit->Shared->Prop}(hC:h.get? C=some (excClassObj nm q C N bs bm hdct sn sub ab col dd k0 k1 k2 k3 k5 "Exception.__new__"))
  (hB:bm.contains (.type "Exception")=true) (hq:Q () ⟨h,g,d,t,os⟩):wpAny M A (checkBuiltinCall "Exception.__new__" ⟨.ref C::rest,[]⟩) Q E ⟨h,g,d,t,os⟩:=by
 have F:=PySem.F.excBase_Exception
 have c1:(Value.ref C::bm).contains (.type "Exception")=true:=by rw[List.contains_cons,hB,Bool.or_true]
 have hstar:=F.noStar
 simp only[checkBuiltinCall,F.newKind,F.newSplit,F.newRow]
 repeat (first|refine wpAny_loadPart_at hC ?_|(refine wpAny_isSubtype_exc hC ?_;rw[c1])|refine wpAny_staticBase_exc hC ?_|refine wpAny_madeBy_exc hC ?_|simp only[bne_self_eq_false,Bool.false_eq_true,if_false]|wp_step)
 exact hq
theorem LR{rest:List Value}(hC:h.get? C=some (excClassObj nm q C N bs bm hdct sn sub ab col dd k0 k1 k2 k3 k5 "Exception.__new__"))
  (hB:bm.contains (.type "Exception")=true) (hA:bm.contains (.type "AttributeError")=false) (hN:bm.contains (.type "NameError")=false) (hrest:rest.length<=sizeLine)
  (hq:R (.ok (.ret (.ref (h.objs.size+1)))) ⟨(h.push {cls:=.type "tuple",data:=.seq rest.toArray}).push
   {cls:=.ref C,data:=.fields #[.ref h.objs.size,.none,.none,.none,.bool false,.none]},g,d,t,os⟩):
  codeAny (model prog w) A (.builtin "Exception.__new__" ⟨.ref C::rest,[]⟩) R ⟨h,g,d,t,os⟩:=by
 have F:=PySem.F.excBase_Exception
 have hends:=F.ends
 have c1:(Value.ref C::bm).contains (.type "Exception")=true:=by rw[List.contains_cons,hB,Bool.or_true]
 have c2:(Value.ref C::bm).contains (.type "AttributeError")=false:=by rw[List.contains_cons,hA];rfl
 have c3:(Value.ref C::bm).contains (.type "NameError")=false:=by rw[List.contains_cons,hN];rfl
 refine codeAny_builtinAt F.entry ?_
 unfold Builtin.«BaseException.__new__»;refine PySem.wpAt_bind ?_
 show PySem.wpAt _ _ _ (stack>>=_) _ _ _
 refine PySem.wpAt_bind (PySem.wpAt_stack fun p below=>PySem.wpAt_of_wpAny ?_);wp_walk
 refine PySem.wpAt_of_wpAny ?_;rw[F.owner]
 repeat (first|with_reducible refine wpAny_madeHere_exc F.canon hC ?_|with_reducible refine wpAny_loadPart_at hC ?_|(with_reducible refine wpAny_isSubtype_exc hC ?_;first|rw[c1]|rw[c2]|rw[c3])|wp_step)
 show R _ _
 rw[Heap.size_push];exact hq
theorem K7{rest:List Value}{fI:Addr}{Q:Fin->Shared->Prop}(hC:h.get? C=some (excClassObj nm q C N bs bm hdct sn sub ab col dd k0 k1 k2 k3 k5 "Exception.__new__"))
  (hB:bm.contains (.type "Exception")=true) (hA:bm.contains (.type "AttributeError")=false) (hN:bm.contains (.type "NameError")=false) (hrest:rest.length<=sizeLine)
  (hi:Looks (model prog w) h (typeLookup (.ref C) "__init__") (some (.ref fI))) (hb:∀self,Looks (model prog w) h (bindSpecial (.ref fI) self) (.ref fI,[self]))
  (hq:∀h' e,Heap.MadeExcOf h h' e (.ref C) rest->h.objs.size<=e->
   wpAny (model prog w) A (call (.ref fI) (.ref e::rest)) (fun r s'=>r=.none/\Q (.done (.ret (.ref e))) s') E ⟨h',g,d,t,os⟩):
  wpAny (model prog w) A (Builtin.«type.__call__» ⟨.ref C::rest,[]⟩) Q E ⟨h,g,d,t,os⟩:=by
 have F:=PySem.F.excBase_Exception
 repeat (first|with_reducible refine wpAny_loadPart_at hC ?_|with_reducible refine wpAny_madeBy_exc hC ?_|wp_step)
 refine codeAny_call_builtin_code (Code.quiet_builtin _ F.quiet) (PZ hC hB ?_)
 refine LR hC hB hA hN hrest ?_
 show wpAny _ _ _ _ _ _
 have kp:∀b o,h.get? b=some o->((h.push {cls:=.type "tuple",data:=.seq rest.toArray}).push {cls:=.ref C,data:=.fields #[.ref h.objs.size,.none,.none,.none,.bool false,.none]}).get? b=some o:=
  fun b o e=>Heap.get?_push_of_some _ (Heap.get?_push_of_some _ e)
 have hC1:=kp _ _ hC
 have hi1:=hi.keeps kp
 have hb1:=fun self=>(hb self).keeps kp
 have hget:((h.push {cls:=.type "tuple",data:=.seq rest.toArray}).push {cls:=.ref C,data:=.fields #[.ref h.objs.size,.none,.none,.none,.bool false,.none]}).get? (h.objs.size+1)=
   some {cls:=.ref C,data:=.fields #[.ref h.objs.size,.none,.none,.none,.bool false,.none]}:=by heap_get
 have cC:(Value.ref C::bm).contains (.ref C)=true:=by simp
 unfold isInstance
 repeat (first|with_reducible refine wpAny_loadPart_at hget ?_|(with_reducible refine wpAny_isSubtype_exc hC1 ?_;rw[cC])|wp_step)
 show wpAny _ _ (typeLookup (.ref C) _) _ _ _
 refine hi1.at ?_
 refine wpAny_holding (wpAny_bind ((hb1 _).at ?_))
 refine wpAny_bind (wpAny_mono (hq _ (h.objs.size+1) ⟨kp,Heap.get?_none_of_le (Nat.le_succ _),h.objs.size,hget,Heap.get?_none_of_le (Nat.le_refl _),?_⟩ (Nat.le_succ _)) (fun r s' hr=>?_) fun _ _ x=>x)
 ·exact Heap.get?_push_of_some _ (Heap.get?_push_at rfl rfl)
 ·obtain⟨rfl,hQ⟩:=hr
  wp_walk
  exact hQ
theorem x_call{rest:List Value}{fI:Addr}{Q:Value->Shared->Prop}(hC:h.get? C=some (excClassObj nm q C N bs bm hdct sn sub ab col dd k0 k1 k2 k3 k5 "Exception.__new__"))
  (hB:bm.contains (.type "Exception")=true) (hA:bm.contains (.type "AttributeError")=false) (hN:bm.contains (.type "NameError")=false) (hrest:rest.length<=sizeLine)
  (hi:Looks (model prog w) h (typeLookup (.ref C) "__init__") (some (.ref fI))) (hb:∀self,Looks (model prog w) h (bindSpecial (.ref fI) self) (.ref fI,[self]))
  (hq:∀h' e,Heap.MadeExcOf h h' e (.ref C) rest->h.objs.size<=e->
   wpAny (model prog w) (A.under (.builtin "type.__call__" ⟨.ref C::rest,[]⟩)) (call (.ref fI) (.ref e::rest)) (fun r s'=>r=.none/\Q (.ref e) s') E ⟨h',g,d,t,os⟩):
  wpAny (model prog w) A (call (.ref C) rest) Q E ⟨h,g,d,t,os⟩:=by
 have f1:=tc_lookup
 have f2:=tc_bind (.ref C)
 have hT:(⟨h,g,d,t,os⟩:Shared).TypeIs (.ref C) "type":=⟨_,hC,rfl⟩
 refine wpAny_call (codeAny_of_tree ?_)
 show wpAny _ _ (callAny (.ref C) _) _ _ _
 repeat (any_goals (first|assumption|with_reducible refine wpAny_loadPart_at hC ?_|wp_step))
 exact⟨rfl,codeAny_call_builtin_at (Code.quiet_builtin _ (by decide +kernel)) entry_typeCall (wpAny_check_type_call_sub hC (K7 hC hB hA hN hrest hi hb fun h' e hm he=>hq h' e hm he))⟩
end
end L2
end
section
set_option Elab.async false
set_option linter.all false
set_option maxRecDepth 100000
set_option maxHeartbeats 4000000
namespace L2
open PySem PySem.Spec PyProof.Rows
open PySem.W (Looks)
def kF(h:Heap)(e:Addr)(cls:Value)(dx:Option Addr)(tb:Value):Prop:=∃oe vs,h.get? e=some oe/\oe.cls=cls/\oe.dict=dx/\oe.data=.fields vs/\vs[1]? =some tb
def Rest(h:Heap)(T:Addr):Prop:=∃oT ts,h.get? T=some oT/\oT.data=.fields ts/\ts[3]? =some .none
structure uH(fs ex:List Addr)(h h':Heap):Prop where
 keep:∀b o,h.get? b=some o->b∉ex->b∉fs->h'.get? b=some o
 slot:∀b o,h.get? b=some o->b∉ex->b∈fs->∃sl,h'.get? b=some {o with slots:=sl}
 more:h.objs.size<=h'.objs.size
section
variable {M:Model}{A:Around}{E:Value->Shared->Prop}{s:Shared}{base:Heap}{env:Env}{outer:List Env}{L e:Addr}{Q:Unit->Shared->Prop}
theorem B6{oe:Obj}{vs:Array Value}{head:Value}{hadNext:Bool}(hfr:A.frames=some (env::outer))(hl:s.heap.FunFrames base (env::outer))(hf:env.frame=some L)
  (he:s.heap.get? e=some oe) (hd:oe.data=.fields vs) (hsz:1<vs.size)
  (hQ:∀h' T,uH (cD (env::outer)) [e] s.heap h'->s.heap.objs.size<=T->kF h' e oe.cls oe.dict (.ref T)->Rest h' T->T≠e->Q () {s with heap:=h'}):
  wpAny M A (do let a <-frameOf env;let pl <-entryPlaceOf L hadNext;let b <-EntryCells.newEntry head a .none (rawInt L) .none pl;setField (.ref e) 1 b) (fun _ s'=>wpAny M A (setFlight (.ref e) none) Q E s') E s:=by
 have enf:e∉cD (env::outer):=fun hm=>by
  obtain⟨_,o,ho,hn⟩:=hl.mem hm
  rw[he]at ho;cases ho;exact hn vs hd
 refine wpAny_bind (wpAny_frameOf_fun hfr hl hf fun h1 z1=>wpAny_bind (wpAny_entryPlaceOf fun pl hpl=>?_))
 unfold EntryCells.newEntry newFields;refine wpAny_bind (wpAny_newObj_type ?_ (hpl.sizeOk5 _ _ _ _ _))
 have e1:h1.get? e=some oe:=(z1.2.1 e enf).trans he
 generalize ho:({cls:=.type "traceback",dict:=none,data:=.fields ([head,.ref L,.none,rawInt L,.none]++(if pl.isEmpty then List.replicate 6 Value.none else pl)).toArray}:Obj)=ot
 have dt:ot.data=.fields ([head,.ref L,.none,rawInt L,.none]++(if pl.isEmpty then List.replicate 6 Value.none else pl)).toArray:=by rw[<-ho]
 have ft:ot.isFreed=false:=by rw[<-ho];rfl
 clear ho
 have e2:(h1.push ot).get? e=some oe:=Heap.get?_push_of_some _ e1
 have t2:(h1.push ot).get? h1.objs.size=some ot:=Heap.get?_push_size h1 ft
 have ne:h1.objs.size≠e:=Nat.ne_of_gt (Heap.lt_size e1)
 refine wpAny_setField e2 hd hsz ?_
 have d3:=Obj.data_mapFields hd (·.setIfInBounds 1 (Value.ref h1.objs.size))
 have e3:=Heap.get?_update_self (Obj.mapFields (·.setIfInBounds 1 (Value.ref h1.objs.size))) e2 (Obj.isFreed_of_fields d3)
 have t3:((h1.push ot).update e (Obj.mapFields (·.setIfInBounds 1 (Value.ref h1.objs.size)))).get? h1.objs.size=some ot:=(Heap.get?_update_other _ _ (Ne.symm ne)).trans t2
 unfold setFlight
 refine wpAny_bind (wpAny_field e3 d3 (x:=.ref h1.objs.size) (by simp[hsz]) ?_)
 rw[if_pos (show(Value.ref h1.objs.size !=Value.none)=true from by simp)]
 have z3:3<([head,.ref L,.none,rawInt L,.none]++(if pl.isEmpty then List.replicate 6 Value.none else pl)).toArray.size:=by
  simp only[List.size_toArray,List.length_append,List.length_cons,List.length_nil];lia
 refine wpAny_setField t3 dt z3 ?_
 have d4:=Obj.data_mapFields dt (·.setIfInBounds 3 ((none:Option Addr).elim Value.none fun f=>rawInt f))
 have t4:=Heap.get?_update_self (Obj.mapFields (·.setIfInBounds 3 ((none:Option Addr).elim Value.none fun f=>rawInt f))) t3 (Obj.isFreed_of_fields d4)
 have kp:∀b o,b≠e->h1.get? b=some o->(((h1.push ot).update e (Obj.mapFields (·.setIfInBounds 1 (Value.ref h1.objs.size)))).update h1.objs.size
   (Obj.mapFields (·.setIfInBounds 3 ((none:Option Addr).elim Value.none fun f=>rawInt f)))).get? b=some o:=fun b o nb q=>by
  rw[Heap.get?_update_other _ _ (Nat.ne_of_gt (Heap.lt_size q)),Heap.get?_update_other _ _ (Ne.symm nb)]
  exact Heap.get?_push_of_some _ q
 refine hQ _ h1.objs.size ⟨fun b o q nb nf=>kp b o (fun z=>nb (by rw[z];exact List.Mem.head _)) ((z1.2.1 b nf).trans q),fun b o q nb nf=>?_,?_⟩ (Nat.le_of_eq z1.1.symm) ?_ ?_ ne
 ·obtain⟨sl,hs⟩:=z1.2.2 b o q
  exact⟨sl,kp b _ (fun z=>nb (by rw[z];exact List.Mem.head _)) hs⟩
 ·rw[Heap.size_after_update,Heap.size_after_update,Heap.size_push,z1.1]
  exact Nat.le_succ _
 ·refine⟨_,_,(Heap.get?_update_other _ _ ne).trans e3,Obj.cls_mapFields _ _,?_,d3,by simp[hsz]⟩
  obtain⟨c0,dd0,dt0,sl0⟩:=oe
  cases dt0<;>rfl
 ·refine⟨_,_,t4,d4,?_⟩
  rw[Array.getElem?_setIfInBounds_self]
  rw[if_pos z3]
  rfl
theorem Kk{cls:Value}{dx:Option Addr}(hfr:A.frames=some (env::outer))(hl:s.heap.FunFrames base (env::outer))(hf:env.frame=some L)(he:kF s.heap e cls dx .none)
  (hQ:∀h' T,uH (cD (env::outer)) [e] s.heap h'->s.heap.objs.size<=T->kF h' e cls dx (.ref T)->Rest h' T->T≠e->Q () {s with heap:=h'}):
  wpAny M A (noteFrame (.ref e) env) (fun _ s2=>wpAny M A (setFlight (.ref e) none) Q E s2) E s:=by
 obtain⟨oe,vs,h0,rfl,rfl,hd,h1⟩:=he
 unfold noteFrame
 simp only[hf]
 refine wpAny_bind (wpAny_field h0 hd h1 ?_)
 rw[if_neg (by decide)]
 exact B6 hfr hl hf h0 hd (Array.getElem?_eq_some_iff.mp h1).1 hQ
theorem Ea{cls:Value}{dx:Option Addr}{T0:Addr}(hfr:A.frames=some (env::outer))(hl:s.heap.FunFrames base (env::outer))(hf:env.frame=some L)(he:kF s.heap e cls dx (.ref T0))(hT:Rest s.heap T0)(hne:T0≠e)
  (hQ:∀h' T,uH (cD (env::outer)) [e,T0] s.heap h'->s.heap.objs.size<=T->kF h' e cls dx (.ref T)->Rest h' T->T≠e->(∃o,h'.get? T0=some o)->Q () {s with heap:=h'}):
  wpAny M A (noteFrame (.ref e) env) (fun _ s2=>wpAny M A (setFlight (.ref e) none) Q E s2) E s:=by
 obtain⟨oe,vs,h0,rfl,rfl,hd,h1⟩:=he
 obtain⟨oT,ts,t0,dT,t3⟩:=hT
 unfold noteFrame
 simp only[hf]
 refine wpAny_bind (wpAny_field h0 hd h1 ?_)
 rw[if_pos (show(Value.ref T0 !=Value.none)=true from by simp)]
 refine wpAny_bind (wpAny_field t0 dT t3 ?_)
 rw[if_neg (show ¬((Value.none==rawInt L)=true)from by simp[rawInt])]
 refine wpAny_bind (wpAny_setField t0 dT (Array.getElem?_eq_some_iff.mp t3).1 ?_)
 have oth:∀b,b≠T0->(s.heap.update T0 (Obj.mapFields (·.setIfInBounds 3 Value.none))).get? b=s.heap.get? b:=fun b hb=>Heap.get?_update_other _ _ (Ne.symm hb)
 have nrec:∀b o,s.heap.get? b=some o->(∀us,o.data≠ .fields us)->b≠T0:=fun b o q nf z=>by
  rw[z,t0]at q;cases q;exact nf ts dT
 refine B6 (s:={s with heap:=s.heap.update T0 (Obj.mapFields (·.setIfInBounds 3 Value.none))}) hfr (hl.of_keeps fun b o q nf=>⟨o,(oth b (nrec b o q nf)).trans q,rfl⟩) hf ((oth e (Ne.symm hne)).trans h0) hd
  (Array.getElem?_eq_some_iff.mp h1).1 fun h' T F a b c d=>hQ h' T ⟨fun x o q nx nf=>?_,fun x o q nx nf=>?_,?_⟩ ?_ b c d ?_
 ·have n2:x≠T0:=fun z=>nx (by rw[z];exact List.Mem.tail _ (List.Mem.head _))
  exact F.keep x o ((oth x n2).trans q) (fun z=>nx (by rw[List.mem_singleton.mp z];exact List.Mem.head _)) nf
 ·have n2:x≠T0:=fun z=>nx (by rw[z];exact List.Mem.tail _ (List.Mem.head _))
  exact F.slot x o ((oth x n2).trans q) (fun z=>nx (by rw[List.mem_singleton.mp z];exact List.Mem.head _)) nf
 ·have:=F.more
  rw[Heap.size_after_update]at this
  exact this
 ·have:=a
  rw[Heap.size_after_update]at this
  exact this
 ·have q:=Heap.get?_update_self (Obj.mapFields (·.setIfInBounds 3 Value.none)) t0 (Obj.isFreed_of_fields (Obj.data_mapFields dT _))
  refine⟨_,F.keep T0 _ q (fun z=>hne (List.mem_singleton.mp z)) fun z=>?_⟩
  obtain⟨_,o,ho,hn⟩:=hl.mem z
  rw[t0]at ho;cases ho;exact hn ts dT
end
end L2
end
section
set_option Elab.async false
set_option linter.all false
set_option maxRecDepth 100000
set_option maxHeartbeats 4000000
namespace L2
open PySem PySem.Spec PyProof.Rows
open PySem.W (Looks)
def bj(P:Program)(w:World):eC:=fun outer H s E e s'=>∃(ea:Addr)(cls:Value)(dx T:Addr)(H':Hp),e=.ref ea/\s'.os=s.os/\AllBare s'.gens/\Un (cD outer) [] H H' s.heap s'.heap/\bG P w H' s'.heap/\
 kF s'.heap ea cls (some dx) (.ref T)/\Rest s'.heap T/\T≠ea/\s.heap.objs.size<=ea/\s.heap.objs.size<=T/\H' ea=none/\H' T=none/\E cls (some dx) H'
section
variable {X:Cx}{pins:List (Addr×Obj)}{σ:St}{H:Hp}{s:Shared}
theorem Gv{env:Env}{outer:List Env}{L:Addr}(hf:env.frame=some L):cD (env::outer)=L::cD outer:=by
 unfold cD;rw[List.filterMap_cons,hf]
theorem Inv.GC{ex:List Addr}{h':Heap}{env:Env}{outer:List Env}(I:Inv X pins σ H s)(hs:X.stack=env::outer)(ho:X.outer=outer)(hf:env.frame=some X.env.locals)(hx:X.ex=[])(F:uH (cD (env::outer)) ex s.heap h')
  (hz:∀b∈ex,X.cn.heap.objs.size<=b/\H b=none):Un (cD outer) [] X.mN H X.cn.heap h'/\bG X.prog X.w H h':=by
 have B:=I.base
 rw[hx,show X.fs=cD outer by unfold Cx.fs;rw[ho]]at B
 have nex:∀b o,X.cn.heap.get? b=some o->b∉ex:=fun b o q z=>Nat.lt_irrefl _ (Nat.lt_of_lt_of_le (Heap.lt_size q) (hz b z).1)
 have nl:∀b o,X.cn.heap.get? b=some o->b≠X.env.locals:=fun b o q z=>by
  have:=I.ok.above
  rw[<-z]at this
  exact Nat.lt_irrefl _ (Nat.lt_of_lt_of_le (Heap.lt_size q) this)
 refine⟨⟨fun b o q n nf _=>F.keep b o (B.keep b o q n nf (by simp)) (nex b o q) ?_,fun b o q n hm _=>?_,fun b o q n _=>B.free b o q n (by simp),fun b o q _=>?_,B.hZ,B.gx,B.hX⟩,fun a o q=>?_⟩
 ·rw[Gv hf]
  intro z
  rcases List.mem_cons.mp z with z|z
  ·exact nl b o q z
  ·exact nf z
 ·obtain⟨sl,e1⟩:=B.slot b o q n hm (by simp)
  obtain⟨sl2,e2⟩:=F.slot b _ e1 (nex b o q) (by rw[Gv hf];exact List.mem_cons_of_mem _ hm)
  exact⟨sl2,e2⟩
 ·obtain⟨o',e1⟩:=B.there b o q (by simp)
  by_cases hm:b∈cD (env::outer)
  ·obtain⟨sl2,e2⟩:=F.slot b _ e1 (nex b o q) hm
   exact⟨_,e2⟩
  ·exact⟨_,F.keep b _ e1 (nex b o q) hm⟩
 ·have nf:∀b u,H b=some u->b∉cD (env::outer):=fun b u r z=>by
   have:=I.u6 b (by rw[hs];exact z)
   rw[r]at this;cases this
  have ne:∀b u,H b=some u->b∉ex:=fun b u r z=>by
   have:=(hz b z).2
   rw[r]at this;cases this
  refine(I.az a o q).ie (fun b u hb r=>?_) (fun b r=>r) (fun b xs r=>r)
  rcases hb with rfl|hb
  ·exact F.keep b u r (ne _ _ q) (nf _ _ q)
  ·exact F.keep b u r (ne _ _ hb) (nf _ _ hb)
def As(X:Cx)(E:XK):Prop:=∀(pins:List (Addr×Obj))(σ:St)(H:Hp)(s:Shared)(ea:Addr)(cls:Value)(dx:Addr),Inv X pins σ H s->kF s.heap ea cls (some dx) .none->X.cn.heap.objs.size<=ea->H ea=none->E cls (some dx) H->X.xe (.ref ea) s
end
section
variable {P:Program}{w:World}{K:PySem.W.Frag}{mg:Str->Option Value}{base:Heap}{N:List Str}{qual:Str}{scope:Scope}{f:Addr}{cd:Value}{A:Around}{outer:List Env}{s:Shared}{H:Hp}{E:XK}
theorem fD:As (fU (bj P w) P w K mg base N qual scope f cd A outer s H E) E:=by
 intro pins σ H1 s1 ea cls dx I he hz hn hE
 have hst:=I.stack
 have hfr:=I.ok.frames
 show wpAny _ _ (leaving _ (.ref ea)) _ _ _
 unfold leaving
 refine wpAny_bind (Kk hfr hst rfl he fun h' T F a b c d=>?_)
 obtain⟨u,ok⟩:=I.GC (ex:=[ea]) rfl rfl rfl rfl F (fun b hb=>by rw[List.mem_singleton.mp hb];exact⟨hz,hn⟩)
 exact⟨ea,cls,dx,T,H1,rfl,I.os,I.bare,u,ok,b,c,d,hz,Nat.le_trans I.sz a,hn,I.az.fresh a,hE⟩
theorem aw:Passes (bj P w) (fU (bj P w) P w K mg base N qual scope f cd A outer s H E) E:=by
 intro pins σ H1 s1 e s2 I hx
 obtain⟨ea,cls,dx,T,H',rfl,os,bare,un,ok,er,re,ne,z1,z2,n1,n2,hE⟩:=hx
 obtain⟨hh,g,d,t,os'⟩:=s2
 obtain rfl:os'=s1.os:=os
 have I2:=I.call (h':=hh) (g':=g) (d':=d) (t':=t) (ch:=[]) un ok bare (fun b z=>absurd z (by simp))
 have hst:=I2.stack
 have hfr:=I2.ok.frames
 show wpAny _ _ (leaving _ (.ref ea)) _ _ _
 unfold leaving
 refine wpAny_bind (Ea hfr hst rfl er re ne fun h' T' F a b c d _=>?_)
 have s0:=I.sz
 obtain⟨u,ok2⟩:=I2.GC (ex:=[ea,T]) rfl rfl rfl rfl F (fun b hb=>by
  rcases List.mem_cons.mp hb with rfl|hb
  ·exact⟨Nat.le_trans s0 z1,n1⟩
  ·rw[List.mem_singleton.mp hb];exact⟨Nat.le_trans s0 z2,n2⟩)
 exact⟨ea,cls,dx,T',H',rfl,I2.os,I2.bare,u,ok2,b,c,d,Nat.le_trans s0 z1,Nat.le_trans I2.sz a,n1,I2.az.fresh a,hE⟩
theorem iD:PassesOwn (model P w) (fU (bj P w) P w K mg base N qual scope f cd A outer s H E).A (fU (bj P w) P w K mg base N qual scope f cd A outer s H E).env (fU (bj P w) P w K mg base N qual scope f cd A outer s H E).xe:=PassesOwn.leaving
end
theorem aG.bz{P:Program}{w:World}{K:PySem.W.Frag}{mg:Str->Option Value}{base:Heap}{x qual:Str}{st:Stmt}{f:Addr}{fd:FuncData}{N ps:List Str}{k:Nat}{sp:Sp}(F:aG K x qual st f fd)(S:aI N ps (aC st))(len:∀vs H Q E,sp vs H Q E->vs.length=ps.length)
  (hbody:∀(cdv:Value)(A:Around)(outer:List Env)(s:Shared)(H:Hp)(vs:List V)(Q:VK)(E:XK),bC k (A.deeper (envOfC qual (aC st) s.heap.objs.size f cdv))->sp vs H Q E->
   ∃t,d9 (fU (bj P w) P w K mg base N qual (aC st) f cdv A outer s H E) (iB st) t/\t {nx:=fun _ H'=>Q .ay H',rt:=Q} (start N vs) H):ax P w K mg base (bj P w) (k+1) f fd ps sp:=by
 obtain⟨oc,od,kV,doc,pm,an,cdv,ct,osl,rfl,lk,hcd⟩:=F.ex
 exact CJ lk hcd S len fun A outer s H vs Q E hr hsp=>hbody cdv A outer s H vs Q E hr hsp
end L2
end
section
set_option Elab.async false
set_option linter.all false
set_option maxRecDepth 100000
set_option maxHeartbeats 4000000
namespace L2
open PySem PySem.Spec PyProof.Rows
open PySem.W (Looks)
def iz:List Value->Bool
 |[.type a,.type b,.type c]=>a=="Exception"&&b=="BaseException"&&c=="object"
 | .ref _::r=>iz r
 |_=>false
theorem DF:∀{l:List Value},iz l=true->l=[.type "Exception",.type "BaseException",.type "object"]\/∃c r,l=.ref c::r/\iz r=true
 |[.type a,.type b,.type c],h=>by
  simp only[iz,Bool.and_eq_true,beq_iff_eq]at h
  obtain⟨⟨rfl,rfl⟩,rfl⟩:=h
  exact .inl rfl
 | .ref c::r,h=>.inr ⟨c,r,rfl,by cases r<;>first|exact h|cases h⟩
theorem j5{T:String}{b:Bool}(hb:([.type "Exception",.type "BaseException",.type "object"]:List Value).contains (.type T)=b):∀(l:List Value),iz l=true->l.contains (.type T)=b
 |[],h=>by cases h
 |v::r,h=>by
  rcases DF h with e|⟨c,r',e,h'⟩
  ·rw[e];exact hb
  ·cases e
   rw[List.contains_cons,j5 hb r h']
   rfl
theorem G9(self:Value):∀(l:List Value),iz l=true->refuseLoop self "__setattr__" l=pure ()
 |[],h=>by cases h
 |v::r,h=>by
  rcases DF h with e|⟨c,r',e,h'⟩
  ·rw[e];exact PySem.F.store_Exception.passes self
  ·cases e
   rw[refuseLoop_ref];exact G9 self r h'
def eN(K:PySem.W.Frag)(C:Addr):Bool:=match K.lookup C with
 |some ⟨.type "type",_,.cls cd,sl⟩=>(match cd.mro,sl.toList with
  | .ref C'::bm,[_,_,_,_,some (.builtin n),_]=>C'==C&&n=="Exception.__new__"&& !cd.hasDel&&cd.hasDict&&iz bm
  |_,_=>false)
 |_=>false
theorem lh{K:PySem.W.Frag}{C:Addr}(e:eN K C=true):∃nm q N bs bm sn sub ab col dd k0 k1 k2 k3 k5,K.lookup C=some (excClassObj nm q C N bs bm true sn sub ab col dd k0 k1 k2 k3 k5 "Exception.__new__")/\iz bm=true:=by
 unfold eN at e
 split at e
 ·rename_i dd cd sl ho
  split at e
  ·rename_i C' bm k0 k1 k2 k3 n k5 hm hs
   simp only[Bool.and_eq_true,beq_iff_eq,Bool.not_eq_true']at e
   obtain⟨⟨⟨⟨rfl,rfl⟩,h1⟩,h2⟩,h3⟩:=e
   obtain⟨nm,bs,mro,ns,qn,hd,sn,sub,ab,col,del⟩:=cd
   dsimp only at hm h1 h2
   subst hm h1 h2
   obtain⟨l⟩:=sl
   dsimp only at hs
   subst hs
   exact⟨nm,qn,ns,bs,bm,sn,sub,ab,col,dd,k0,k1,k2,k3,k5,ho,h3⟩
  ·cases e
 ·cases e
structure g4(K:PySem.W.Frag)(C fI:Addr):Prop where
 is:eN K C=true
 init:PySem.W.findIn K (.ref C) "__init__"=some (some (.ref fI))
 fn:PySem.W.isFn K (.ref fI)=true
 kp:PySem.W.keepIn K (.ref C)=true
 sa:PySem.W.findIn K (.ref C) "__setattr__"=some (some (.builtin "object.__setattr__"))
def c6(lo:Nat)(a C:Addr)(dx:Option Addr):HO:=.ext fun h=>lo<=a/\∃t,h.get? a=some {cls:=.ref C,dict:=dx,data:=.fields #[.ref t,.none,.none,.none,.bool false,.none]}
def dF(a:Addr)(fs:List (Str×V)):HO:=.ext fun h=>∃mA,h.Ns1 a mA/\(∀f,dq (fs.lookup f) (mA f))/\PySem.Within mA (fs.map (·.1))
section
variable {P:Program}{w:World}{H:Hp}{h:Heap}{a C:Addr}{dx:Option Addr}{fs:List (Str×V)}
theorem GR{lo:Nat}{t:Addr}(z:lo<=a)(e:h.get? a=some {cls:=.ref C,dict:=dx,data:=.fields #[.ref t,.none,.none,.none,.bool false,.none]}):cg P w H h a (c6 lo a C dx):=
 ⟨⟨z,t,e⟩,⟨_,e⟩,fun _ _⟨z,t,q⟩k=>⟨z,t,k _ q⟩⟩
theorem BF{mA:Str->Option Value}(e:h.Ns1 a mA)(r:∀f,dq (fs.lookup f) (mA f))(z:PySem.Within mA (fs.map (·.1))):cg P w H h a (dF a fs):=
 ⟨⟨mA,e,r,z⟩,(by obtain⟨o,_,_,q,_⟩:=e;exact⟨o,q⟩),fun _ _⟨m,q,r⟩k=>⟨m,q.at k,r⟩⟩
theorem AS{lo:Nat}(ok:bG P w H h)(e:H a=some (c6 lo a C dx)):lo<=a/\∃t,h.get? a=some {cls:=.ref C,dict:=dx,data:=.fields #[.ref t,.none,.none,.none,.bool false,.none]}:=(ok a _ e).1
theorem EF(ok:bG P w H h)(e:H a=some (dF a fs)):∃mA,h.Ns1 a mA/\(∀f,dq (fs.lookup f) (mA f))/\PySem.Within mA (fs.map (·.1)):=(ok a _ e).1
end
section
variable {prog:Program}{w:World}{A:Around}{E:Value->Shared->Prop}{s:Shared}{K:PySem.W.Frag}{x C:Addr}{f:Str}{v:Value}
theorem CQ{ox:Obj}{od:Option Obj}{R:Result->Shared->Prop}{tk:Tok}(X:K.In s.heap)(J:PySem.W.InstAt s.heap x ox C od)(hc:eN K C=true)(hn:PySem.W.findIn K (.ref C) f=some none)
  (h:wpAny (model prog w) A.in1 (Builtin.ObjectAttr.storeInOwnDict (.ref x) (.ref C) (.str f tk) f v false)
   (fun fin s'=>match fin with| .done z=>R (.ok z) s'| .again c'=>c'.quiet=true/\codeAny (model prog w) A c' R s') (fun e s'=>R (.error e) s') s):
  codeAny (model prog w) A (.call (.builtin "object.__setattr__") ⟨[.ref x,.str f tk,v],[]⟩) R s:=by
 obtain⟨nm,q,N,bs,bm,sn,sub,ab,col,dd,k0,k1,k2,k3,k5,ho,ht⟩:=lh hc
 have SF:=PySem.F.store_object
 have hcl:PySem.W.clsIn K C=some {name:=nm,bases:=bs,mro:=.ref C::bm,ns:=N,qualname:=q,hasDict:=true,slotNames:=sn,subclasses:=sub,abstract:=ab,collection:=col,hasDel:=false}:=by
  unfold PySem.W.clsIn;rw[ho]
 have hob:(Value.ref C::bm).contains (.type "object")=true:=by rw[List.contains_cons,j5 (b:=true) (by decide +kernel) bm ht];rfl
 have sb:Looks (model prog w) s.heap (isInstance (.ref x) (.type "object")) true:=J.type.andThen (PySem.W.looks_mroIn X (by unfold PySem.W.mroIn;rw[hcl,Option.bind_some,if_neg (by simp),hob]))
 refine codeAny_call_builtin SF.slot.plain SF.entry (@PySem.W.check_slot (model prog w) _ _ s "object.__setattr__" "object" "__setattr__" (.ref x) [.str f tk,v] [] _ SF.kind SF.split sb (SF.args (.ref x) (.str f tk) v) ?_)
 have hm:Looks (model prog w) s.heap (mroOf (.ref C)) (.ref C::bm):=(PySem.W.looks_clsIn X hcl).andThen .now
 rw[PySem.W.osa_eq,refuse_eq];refine wpAny_bind (wpAny_bind (J.type.here (wpAny_bind (hm.here ?_))))
 rw[refuseLoop_ref,G9 _ bm ht];refine wpAny_pure (wpAny_bind (J.type.here (wpAny_bind ((PySem.W.looks_findIn X hn).here ?_))))
 refine wpAny_bind (Looks.here (r:=none) .now ?_)
 exact h
end
section
variable {X:Cx}{pins:List (Addr×Obj)}{σ:St}{H:Hp}{s:Shared}{A:Around}{E:Value->Shared->Prop}{a C fI:Addr}{f:Str}{y:V}{u:Value}{Q:Unit->Shared->Prop}
theorem Ar{mA:Str->Option Value}(h:∀n,mA n=none):PySem.Within mA []:=fun n hn=>absurd (h n) hn
theorem Ig{lo:Nat}(I:Inv X pins σ H s)(e:H a=some (c6 lo a C none))(c:g4 X.K C fI)(n:bw X.K C f)(ry:RelV y u)
  (h:∀(s':Shared)(dx:Addr),H dx=none->dx≠a->Inv X pins σ (upd (upd H dx (dF dx [(f,y)])) a (c6 lo a C (some dx))) s'->Q () s'):wpAny (model X.prog X.w) A (setAttr (.ref a) f u) Q E s:=by
 obtain⟨zl,t,hx⟩:=AS I.az e
 have J:PySem.W.InstAt s.heap a _ C none:=⟨hx,rfl,rfl,trivial⟩
 refine PySem.W.set_plain I.bo J c.sa (CQ (s:={s with toks:=s.toks+1}) I.bo J c.is n ?_)
 have xs:a≠s.heap.objs.size:=Nat.ne_of_lt (Heap.lt_size hx)
 have hn0:H s.heap.objs.size=none:=I.az.fresh (Nat.le_refl _)
 have hx1:(s.heap.push PySem.W.emptyDict).get? a=some {cls:=.ref C,dict:=none,data:=.fields #[.ref t,.none,.none,.none,.bool false,.none]}:=Heap.get?_push_of_some _ hx
 refine wpAny_bind (wpAny_pure (wpAny_bind ?_))
 obtain⟨nm,q,N,bs,bm,sn,sub,ab,col,dd,k0,k1,k2,k3,k5,ho,ht⟩:=lh c.is
 have hcl:PySem.W.clsIn X.K C=some {name:=nm,bases:=bs,mro:=.ref C::bm,ns:=N,qualname:=q,hasDict:=true,slotNames:=sn,subclasses:=sub,abstract:=ab,collection:=col,hasDel:=false}:=by
  unfold PySem.W.clsIn;rw[ho]
 refine wpAny_bind (wpAny_loadPart (s:={s with toks:=s.toks+1}) hx (wpAny_bind (Looks.here (s:={s with toks:=s.toks+1}) (PySem.W.looks_clsIn I.bo hcl) ?_)))
 refine wpAny_bind (wpAny_alloc (wpAny_bind (wpAny_update hx1 ?_)))
 have hgd:((s.heap.push PySem.W.emptyDict).update a fun o=>{o with dict:=some s.heap.objs.size}).get? s.heap.objs.size=some PySem.W.emptyDict:=(Heap.get?_update_ne _ _ _ _ xs.symm).trans (Heap.get?_push_at rfl rfl)
 have hnd:((s.heap.push PySem.W.emptyDict).update a fun o=>{o with dict:=some s.heap.objs.size}).Ns s.heap.objs.size (fun _=>none):=⟨_,#[],_,hgd,rfl,fun e he=>absurd he (by simp),fun _=>rfl⟩
 have hxa:((s.heap.push PySem.W.emptyDict).update a fun o=>{o with dict:=some s.heap.objs.size}).get? a=some {cls:=.ref C,dict:=some s.heap.objs.size,data:=.fields #[.ref t,.none,.none,.none,.bool false,.none]}:=
  Heap.get?_update_self _ hx1 rfl
 refine wpAny_pure (a:=some s.heap.objs.size) ?_
 show wpAny _ _ (Builtin.ObjectAttr.storeInDict s.heap.objs.size (.str f s.toks) f u) _ _ _
 unfold Builtin.ObjectAttr.storeInDict Builtin.ObjectAttr.newKeyGuard
 refine wpAny_bind (wpAny_pure (wpAny_bind (wpAny_nsSet1 (Heap.Ns1.of_empty hnd) fun h' hn' hs=>?_)))
 obtain⟨oD,esD,epD,hoD,hdD,hcD⟩:=hn'.count (PySem.Within.cons f u (Ar fun _=>rfl))
 refine wpAny_bind (wpAny_lookBehind hoD (by rw[hdD];exact pastItsLine_dict (Nat.le_trans hcD (by rw[List.length_cons,List.length_nil,sizeLine_eq];lia))) ?_)
 have I1:=I.laid (a:=s.heap.objs.size) (o:=dF s.heap.objs.size []) (h':=s.heap.push PySem.W.emptyDict) (t':=s.toks) (fun b u q=>Heap.get?_push_of_some _ q) (Nat.le_refl _)
  (BF (mA:=fun _=>none) (Heap.Ns1.of_empty ⟨_,#[],_,Heap.get?_push_size s.heap rfl,rfl,fun e he=>absurd he (by simp),fun _=>rfl⟩) (fun _=>trivial) (Ar fun _=>rfl))
 have m1:upd H s.heap.objs.size (dF s.heap.objs.size []) a=some (c6 lo a C none):=by rw[ao xs];exact e
 have I2:=I1.write (x:=a) (e:=a) (o:=c6 lo a C (some s.heap.objs.size)) (h':=(s.heap.push PySem.W.emptyDict).update a fun o=>{o with dict:=some s.heap.objs.size}) (t':=s.toks)
  (by rw[m1];exact True.intro) (.inl rfl) (fun b u nb q=>(Heap.get?_update_other _ _ (Ne.symm nb)).trans q) ⟨_,hxa⟩ (GR zl hxa)
 have m2:upd (upd H s.heap.objs.size (dF s.heap.objs.size [])) a (c6 lo a C (some s.heap.objs.size)) s.heap.objs.size=some (dF s.heap.objs.size []):=by rw[ao (Ne.symm xs),aB]
 have I3:=I2.write (x:=s.heap.objs.size) (e:=s.heap.objs.size) (o:=dF s.heap.objs.size [(f,y)]) (h':=h') (t':=s.toks+1+1)
  (by rw[m2];exact True.intro) (.inl rfl) (fun b u nb q=>(hs.2 b nb).trans q) (by obtain⟨o,_,_,q,_⟩:=hn';exact⟨o,q⟩)
  (BF hn' (fun g=>by
   show dq (List.lookup g [(f,y)]) (if g=f then some u else none)
   by_cases q:g=f
   ·rw[if_pos q,q]
    simp only[List.lookup,beq_self_eq_true]
    exact ry
   ·rw[if_neg q]
    have:(g==f)=false:=beq_eq_false_iff_ne.mpr q
    simp only[List.lookup,this]
    trivial) (PySem.Within.cons f u (Ar fun _=>rfl)))
 have e3:upd (upd (upd H s.heap.objs.size (dF s.heap.objs.size [])) a (c6 lo a C (some s.heap.objs.size))) s.heap.objs.size (dF s.heap.objs.size [(f,y)])=
   upd (upd H s.heap.objs.size (dF s.heap.objs.size [(f,y)])) a (c6 lo a C (some s.heap.objs.size)):=by
  funext b
  by_cases q1:b=s.heap.objs.size
  ·rw[q1,aB,ao (Ne.symm xs),aB]
  ·rw[ao q1]
   by_cases q2:b=a
   ·rw[q2,aB,aB]
   ·rw[ao q2,ao q2,ao q1,ao q1]
 rw[e3]at I3
 exact wpAny_pure (h _ s.heap.objs.size hn0 (Ne.symm xs) I3)
theorem M9{lo:Nat}{dx:Addr}{fs:List (Str×V)}(I:Inv X pins σ H s)(e:H a=some (c6 lo a C (some dx)))(ed:H dx=some (dF dx fs))(hne:dx≠a)(c:g4 X.K C fI)(n:bw X.K C f)(hl:fs.length<1000)(ry:RelV y u)
  (h:∀(s':Shared),Inv X pins σ (upd H dx (dF dx (cG f y fs))) s'->Q () s'):wpAny (model X.prog X.w) A (setAttr (.ref a) f u) Q E s:=by
 obtain⟨zl,t,hx⟩:=AS I.az e
 obtain⟨mA,hn,r,wi⟩:=EF I.az ed
 obtain⟨od,es,ep,hod,_⟩:=id hn
 have J:PySem.W.InstAt s.heap a _ C (some od):=⟨hx,rfl,rfl,hod⟩
 refine PySem.W.set_plain I.bo J c.sa (CQ (s:={s with toks:=s.toks+1}) I.bo J c.is n ?_)
 refine wpAny_bind (wpAny_pure (wpAny_bind ?_))
 obtain⟨nm,q,N,bs,bm,sn,sub,ab,col,dd,k0,k1,k2,k3,k5,ho,ht⟩:=lh c.is
 have hcl:PySem.W.clsIn X.K C=some {name:=nm,bases:=bs,mro:=.ref C::bm,ns:=N,qualname:=q,hasDict:=true,slotNames:=sn,subclasses:=sub,abstract:=ab,collection:=col,hasDel:=false}:=by
  unfold PySem.W.clsIn;rw[ho]
 refine wpAny_bind (wpAny_loadPart (s:={s with toks:=s.toks+1}) hx (wpAny_bind (Looks.here (s:={s with toks:=s.toks+1}) (PySem.W.looks_clsIn I.bo hcl) ?_)))
 refine wpAny_pure (a:=some dx) ?_
 show wpAny _ _ (Builtin.ObjectAttr.storeInDict dx (.str f s.toks) f u) _ _ _
 unfold Builtin.ObjectAttr.storeInDict Builtin.ObjectAttr.newKeyGuard
 refine wpAny_bind (wpAny_pure (wpAny_bind (wpAny_nsSet1 (s:={s with toks:=s.toks+1}) hn fun h' hn' hs=>?_)))
 obtain⟨oD,esD,epD,hoD,hdD,hcD⟩:=hn'.count (PySem.Within.cons f u wi)
 refine wpAny_bind (wpAny_lookBehind hoD (by rw[hdD];exact pastItsLine_dict (Nat.le_trans hcD (by rw[List.length_cons,List.length_map,sizeLine_eq];lia))) ?_)
 refine wpAny_pure (h _ ?_)
 refine I.write (x:=dx) (e:=dx) (by rw[ed];exact True.intro) (.inl rfl) (fun b u nb q=>(hs.2 b nb).trans q) (by obtain⟨o,_,_,q,_⟩:=hn';exact⟨o,q⟩) (BF hn' (fun g=>?_) fun g hg=>?_)
 ·show dq ((cG f y fs).lookup g) (if g=f then some u else mA g)
  rw[qp]
  by_cases q:g=f
  ·rw[if_pos q,if_pos q];exact ry
  ·rw[if_neg q,if_neg q];exact r g
 ·by_cases q:g=f
  ·rw[q];exact(tE f y fs).1
  ·refine(tE f y fs).2 g (wi g fun z=>hg ?_)
   show(if g=f then some u else mA g)=none
   rw[if_neg q];exact z
end
end L2
end
section
set_option Elab.async false
set_option linter.all false
set_option maxRecDepth 100000
set_option maxHeartbeats 4000000
namespace L2
open PySem PySem.Spec PyProof.Rows
open PySem.W (Looks)
section
variable {X:Cx}{o value:Expr}{f:Str}{pos pos':Pos}{ta tv:TE}
def Q2(K:PySem.W.Frag)(ta tv:TE)(f:Str):TS:=fun D σ H=>tv σ H fun y H1=>ta σ H1 fun x H2=>∃lo a C fI,x=.ref a/\H2 a=some (c6 lo a C none)/\g4 K C fI/\bw K C f/\
 ∀dx,H2 dx=none->dx≠a->D.nx σ (upd (upd H2 dx (dF dx [(f,y)])) a (c6 lo a C (some dx)))
theorem OG(ha:PE X o ta)(hv:PE X value tv)(hs:swapsWith value (some (.Attribute o f pos')) pos.line X.env=pure false):PS X (.Assign [.Attribute o f pos'] value pos) (Q2 X.K ta tv f):=by
 intro pins s σ H D I h
 refine plainObj_wpAny_Assign_Attribute (aH (hv pins s σ H _ I h) fun u s1⟨y,H1,I1,ry,q⟩=>aH (ha pins s1 σ H1 _ I1 q) fun ov s2 hh1=>?_) hs
 obtain⟨x,H2,I2,rx,lo,a,C,fI,ex,ea,c,n,q2⟩:=hh1
 subst ex
 obtain rfl:ov=Value.ref a:=rx
 exact Ig I2 ea c n ry fun s3 dx hn ne I3=>⟨σ,_,I3,q2 dx hn ne⟩
def JI(K:PySem.W.Frag)(ta tv:TE)(f:Str):TS:=fun D σ H=>tv σ H fun y H1=>ta σ H1 fun x H2=>∃lo a C fI dx fs,x=.ref a/\H2 a=some (c6 lo a C (some dx))/\H2 dx=some (dF dx fs)/\dx≠a/\g4 K C fI/\bw K C f/\
 fs.length<1000/\D.nx σ (upd H2 dx (dF dx (cG f y fs)))
theorem Q8(ha:PE X o ta)(hv:PE X value tv)(hs:swapsWith value (some (.Attribute o f pos')) pos.line X.env=pure false):PS X (.Assign [.Attribute o f pos'] value pos) (JI X.K ta tv f):=by
 intro pins s σ H D I h
 refine plainObj_wpAny_Assign_Attribute (aH (hv pins s σ H _ I h) fun u s1⟨y,H1,I1,ry,q⟩=>aH (ha pins s1 σ H1 _ I1 q) fun ov s2 hh2=>?_) hs
 obtain⟨x,H2,I2,rx,lo,a,C,fI,dx,fs,ex,ea,ed,ne,c,n,l,q2⟩:=hh2
 subst ex
 obtain rfl:ov=Value.ref a:=rx
 exact M9 I2 ea ed ne c n l ry fun s3 I3=>⟨σ,_,I3,q2⟩
end
structure zW(K:PySem.W.Frag)(C:Addr)(m:Str)(f:Addr):Prop where
 rd:PySem.W.readsIn K C (.type "type")=true
 sp:PySem.W.specialIn K (.ref C) "__getattribute__"=some (some (.builtin "type.__getattribute__"))
 at_:PySem.W.findCls K (.ref C) (.type "type") m=some (.val (.ref f))
 kp:PySem.W.keepIn K (.ref f)=true
section
variable {X:Cx}{CX:eC}{k:Nat}{f C:Addr}{fd:FuncData}{ps:List Str}{sp:Sp}{dvs:List V}{ds:List Value}{E:XK}{x m:Str}{p pos apos:Pos}{e:Expr}{es:List Expr}{t:TA}
theorem kG{pl:Sem Bool}(hg:Gl X x)(hm:X.mg x=some (.ref C))(c:zW X.K C m f)(F:ax X.prog X.w X.K X.mg X.base CX k f fd ps sp)(hr:bC k X.A)(hb:Binds X.K fd ps ds)(hd:aW dvs ds)(hx:Passes CX X E)(ha:PA X (e::es) t)
  (hdb:(x==("__debug__":Str))=false:=by decide) (hst:starEach (e::es) X.env=(false,eval e X.env)::starEach es X.env:=by rfl) (hpl:(backTo pos (starEach es X.env)).any (·.1)=false:=by rfl)
  (ht:eval (.Call (.Attribute (.Name x p) m apos) (e::es) [] pos) X.env=(do
   let ov <-eval (.Name x p) X.env
   standAt apos.atName
   let(f,first) <-holding [ov] (getMethod ov m pl)
   callWith pos f first (backTo pos (starEach (e::es) X.env)) (backToKw pos (keywordEach [] X.env))):=by rfl):
  PE X (.Call (.Attribute (.Name x p) m apos) (e::es) [] pos) (qG sp dvs E t):=by
 intro pins s σ H Q I h
 refine PySem.W.methodCall_KW (pl:=pl) (i5 I hg hm ?_ hdb) ht
 refine PySem.W.method_cls I.bo c.sp (PySem.W.cls_value I.bo c.rd c.at_ rfl ?_)
 have I1:=I.tok (s.toks+1)
 refine PySem.W.callWith_K (first:=[]) (h₀:=X.base) I.ok.mod.iA c.kp (aH (ha pos pins _ σ H _ I1 h) fun us s1⟨vs,H1,I2,r,q⟩=>⟨I2.bo,?_⟩) hst hpl
 exact se F hr hb hd hx I2 r q
end
def Jf(lo:Nat)(C:Addr)(sp:Sp)(t:TA):TE:=fun σ H Q=>t σ H fun vs H1=>vs.length<=sizeLine/\∀x,H1 x=none->sp (.ref x::vs) (upd H1 x (c6 lo x C none)) (fun v H2=>v=.ay/\Q (.ref x) H2) E0
section
variable {X:Cx}{k:Nat}{f C:Addr}{fd:FuncData}{ps:List Str}{sp:Sp}{x m:Str}{p pos apos:Pos}{e:Expr}{es:List Expr}{t:TA}
theorem Qp{pins:List (Addr×Obj)}{σ:St}{H:Hp}{s:Shared}{Q:VK}{us:List Value}{vs:List V}(M:g4 X.K C f)(F:ax X.prog X.w X.K X.mg X.base aV k f fd ps sp)(hr:bC (k+1) X.A)(hb:Binds X.K fd ps [])
  (I:Inv X pins σ H s) (r:aW vs us) (hl:vs.length<=sizeLine) (h:∀x,H x=none->sp (.ref x::vs) (upd H x (c6 X.cn.heap.objs.size x C none)) (fun v H2=>v=.ay/\Q (.ref x) H2) E0):
  wpAny (model X.prog X.w) X.A (call (.ref C) us) (EP X pins σ Q) X.xe s:=by
 obtain⟨nm,q,N,bs,bm,sn,sub,ab,col,dd,k0,k1,k2,k3,k5,ho,ht⟩:=lh M.is
 obtain⟨hh,g,d,tk,os⟩:=s
 refine x_call (I.bo _ _ ho) (j5 (b:=true) (by decide +kernel) bm ht) (j5 (b:=false) (by decide +kernel) bm ht) (j5 (b:=false) (by decide +kernel) bm ht) (by rw[<-r.length];exact hl)
  (PySem.W.looks_findIn I.bo M.init) (fun self=>PySem.W.bind_fn I.bo self (beq_iff_eq.mp M.fn)) fun h' ea hm hz=>?_
 have hn:H ea=none:=I.az.fresh hz
 obtain⟨tt,ht1,_,_⟩:=hm.there
 have I2:=I.laid (a:=ea) (o:=c6 X.cn.heap.objs.size ea C none) (h':=h') (t':=tk) (fun b u q=>hm.keeps b u q) hz (GR (Nat.le_trans I.sz hz) ht1)
 have hq:=h ea hn
 have r2:aW (V.ref ea::vs) (Value.ref ea::us):=.cons rfl r
 have hlen:(Value.ref ea::us++[]).length=ps.length:=by
  have e:=r2.length
  rw[F.len _ _ _ _ hq]at e
  rw[List.append_nil]
  exact e.symm
 have bb:=hb _ (Value.ref ea::us) I2.bo hlen
 rw[List.append_nil]at bb
 refine wpAny_call (codeAny_mono (F.run _ X.stack _ _ ⟨Value.ref ea::us,[]⟩ (Value.ref ea::us) _ _ E0 (hr.make C us []) (I2.tO.make C us []) bb r2 hq) fun r s' hq'=>?_)
 cases r with
 |error e=>exact False.elim hq'
 |ok fl=>
  cases fl with
  |ret u=>
   obtain⟨v,H',I3,rv,ev,q3⟩:=I2.after hq'
   subst ev
   exact⟨rv,⟨V.ref ea,H',I3,rfl,q3⟩⟩
  |next=>exact False.elim hq'
  |brk=>exact False.elim hq'
  |cont=>exact False.elim hq'
theorem IL(M:g4 X.K C f)(F:ax X.prog X.w X.K X.mg X.base aV k f fd ps sp)(hr:bC (k+1) X.A)(hg:Gl X x)(hm:X.mg x=some (.ref C))(hb:Binds X.K fd ps [])(ha:PA X (e::es) t)
  (hdb:(x==("__debug__":Str))=false:=by decide) (he:starEach (e::es) X.env=(false,eval e X.env)::starEach es X.env:=by rfl) (hpl:(backTo pos (starEach es X.env)).any (·.1)=false:=by rfl):
  PE X (.Call (.Name x p) (e::es) [] pos) (Jf X.cn.heap.objs.size C sp t):=by
 intro pins s σ H Q I h
 refine wpAny_Call_Name_kw (i5 I hg hm ?_ hdb)
 refine PySem.W.callWith_K (h₀:=X.base) I.ok.mod.iA M.kp (aH (ha pos pins s σ H _ I h) fun us s1⟨vs,H1,I1,r,hl,q⟩=>⟨I1.bo,?_⟩) he hpl
 exact Qp M F hr hb I1 r hl q
end
def gT(H:Hp)(a:Addr):Hp:=fun b=>if b=a then none else H b
theorem Ek{H:Hp}{a:Addr}:gT H a a=none:=by unfold gT;rw[if_pos rfl]
theorem mm{H:Hp}{a b:Addr}(h:b≠a):gT H a b=H b:=by unfold gT;rw[if_neg h]
theorem Inv.forget{lo:Nat}{X:Cx}{pins:List (Addr×Obj)}{σ:St}{H:Hp}{s:Shared}{a C:Addr}{dx:Option Addr}(I:Inv X pins σ H s)(e:H a=some (c6 lo a C dx)):Inv X pins σ (gT H a) s:=by
 have nn:∀b,H b=none->gT H a b=none:=fun b h=>by
  unfold gT;split
  ·rfl
  ·exact h
 have B:=I.base
 have nx:∀b o,H b=some o->o≠c6 lo a C dx->b≠a:=fun b o h hn z=>by rw[z,e]at h;exact hn (Option.some.inj h).symm
 refine⟨I.ok,I.os,I.bare,⟨B.keep,B.slot,fun b o q n hx=>nn b (B.free b o q n hx),B.there,fun b xs q=>?_,fun b o u q=>?_,fun b ps q=>?_⟩,I.loc,I.cell,nn _ I.free,fun x c q=>nn _ (I.d5 x c q),fun p hp=>?_,fun b o q=>?_,I.len⟩
 ·have h:=B.hZ b xs q
  rw[mm (nx b _ h (by intro z;cases z))];exact h
 ·have h:=B.gx b o u q
  rw[mm (nx b _ h (by intro z;cases z))];exact h
 ·obtain⟨more,h⟩:=B.hX b ps q
  exact⟨more,by rw[mm (nx b _ h (by intro z;cases z))];exact h⟩
 ·obtain⟨p1,p2,p3,p4,p5⟩:=I.pin p hp
  exact⟨p1,nn _ p2,p3,p4,p5⟩
 ·have hb:b≠a:=fun z=>by rw[z,Ek]at q;cases q
  rw[mm hb]at q
  refine(I.az b o q).ie (fun c v _ r=>r) (fun c r=>?_) (fun c xs r=>?_)
  ·rw[mm (nx c _ r (by intro z;cases z))];exact r
  ·rw[mm (nx c _ r (by intro z;cases z))];exact r
section
variable {M:Model}{A:Around}{E:Value->Shared->Prop}{env:Env}{nm q:Str}{C N:Addr}{bs bm:List Value}{hdct:Bool}{sn:List Str}{sub:List Value}{ab:Bool}{col:Option Bool}{dd:Option Addr}{k0 k1 k2 k3 k5:Option Value}{newId:String}
theorem x_raise{s:Shared}{x:Sem Value}{Q:Flow->Shared->Prop}(hbase:bm.contains (.type "BaseException")=true)(hh:A.handled=none)
  (h:wpAny M A x (fun v s1=>∃e t dx,v=.ref e/\s1.heap.get? C=some (excClassObj nm q C N bs bm hdct sn sub ab col dd k0 k1 k2 k3 k5 newId)/\
   s1.heap.get? e=some {cls:=.ref C,dict:=some dx,data:=.fields #[.ref t,.none,.none,.none,.bool false,.none]}/\E (.ref e) s1) E s):
  wpAny M A (raiseStmt env (some x) none) Q E s:=by
 have hcB:(Value.ref C::bm).contains (.type "BaseException")=true:=by rw[List.contains_cons,hbase,Bool.or_true]
 unfold raiseStmt
 refine wpAny_bind (wpAny_mono h (fun v s1 h1=>?_) fun _ _ x=>x)
 obtain⟨e,t,dx,rfl,hC,he,hE⟩:=h1
 obtain⟨hp,g,d,tk,os⟩:=s1
 repeat (first|with_reducible refine wpAny_loadPart_at he ?_|with_reducible refine wpAny_loadPart_at hC ?_|(with_reducible refine wpAny_isSubtype_exc hC ?_;rw[hcB])|wp_step)
 exact wpAny_raiseNew_none hh hE
end
section
variable {X:Cx}{E:XK}{e:Expr}{te:TE}{pos:Pos}
def Mo(lo:Nat)(K:PySem.W.Frag)(C:Addr)(E:XK)(te:TE):TS:=fun D σ H=>te σ H fun x H1=>∃a fI dx,x=.ref a/\H1 a=some (c6 lo a C (some dx))/\g4 K C fI/\E (.ref C) (some dx) (gT H1 a)
theorem Lu{C:Addr}(hc:X.calm=true)(hx:As X E)(he:PE X e te)(hk:eN X.K C=true):PS X (.Raise (some e) none pos) (Mo X.cn.heap.objs.size X.K C E te):=by
 intro pins s σ H D I h
 obtain⟨nm,q,N,bs,bm,sn,sub,ab,col,dd,k0,k1,k2,k3,k5,ho,ht⟩:=lh hk
 rw[arm_exec_Raise]
 show wpAny _ _ (do standAt pos;raiseStmt X.env (some (do let v <-eval e X.env;standAt pos;pure v)) none) _ _ _
 refine wpAny_bind (wpAny_standAt (x_raise (C:=C) (nm:=nm) (q:=q) (N:=N) (bs:=bs) (bm:=bm) (hdct:=true) (sn:=sn) (sub:=sub) (ab:=ab) (col:=col) (dd:=dd) (k0:=k0) (k1:=k1) (k2:=k2) (k3:=k3) (k5:=k5) (newId:="Exception.__new__")
  (j5 (b:=true) (by decide +kernel) bm ht) (I.ok.hd hc) (wpAny_bind (aH (he pins s σ H _ I h) fun u s1⟨x,H1,I1,rx,a,fI,dx,ex,ea,c,hE⟩=>wpAny_bind (wpAny_standAt (wpAny_pure ?_))))))
 subst ex
 obtain rfl:u=Value.ref a:=rx
 obtain⟨zl,t,hx1⟩:=AS I1.az ea
 refine⟨a,t,dx,rfl,I1.bo _ _ ho,hx1,?_⟩
 refine hx pins σ (gT H1 a) s1 a (.ref C) dx (I1.forget ea) ⟨_,_,hx1,rfl,rfl,rfl,rfl⟩ zl Ek hE
end
end L2
end
section
set_option Elab.async false
set_option linter.all false
set_option maxRecDepth 100000
set_option maxHeartbeats 4000000
namespace L2
open PySem PySem.Spec PyProof.Rows
open PySem.W (Looks)
structure rR(K:PySem.W.Frag)(C:Addr):Prop where
 is:eN K C=true
 ga:PySem.W.findIn K (.ref C) "__getattribute__"=some (some (.builtin "BaseException.__getattribute__"))
 gh:PySem.W.findIn K (.ref C) "__getattr__"=some none
section
variable {prog:Program}{w:World}{A:Around}{E:Value->Shared->Prop}{s:Shared}{K:PySem.W.Frag}{x C:Addr}{ox od:Obj}{f:Str}{v:Value}{expr:Bool}{Q:Value->Shared->Prop}
theorem JW(X:K.In s.heap)(c:rR K C)(J:PySem.W.InstAt s.heap x ox C (some od))(hn:PySem.W.findIn K (.ref C) f=some none)(hl:PySem.W.lookIn f od=some (some v))(hv:PySem.W.handedIn v=true)
  (h:Q v {s with toks:=s.toks+1}):wpAny (model prog w) A (getAttr (.ref x) f expr) Q E s:=by
 obtain⟨nm,q,N,bs,bm,sn,sub,ab,col,dd,k0,k1,k2,k3,k5,ho,ht⟩:=lh c.is
 have hcl:PySem.W.clsIn K C=some {name:=nm,bases:=bs,mro:=.ref C::bm,ns:=N,qualname:=q,hasDict:=true,slotNames:=sn,subclasses:=sub,abstract:=ab,collection:=col,hasDel:=false}:=by
  unfold PySem.W.clsIn;rw[ho]
 have hB:(Value.ref C::bm).contains (.type "BaseException")=true:=by rw[List.contains_cons,j5 (b:=true) (by decide +kernel) bm ht];rfl
 have FB:=PySem.F.attrBase_Exception
 have hfo:PySem.W.findObj K C (some od) f=some (.value v):=PySem.W.findObj_own (by unfold PySem.W.hasDictIn;rw[hcl];rfl) hn rfl hl
 obtain⟨hh,g,d,t,os⟩:=s
 have L0:=J.type (M:=model prog w)
 have L1:=PySem.W.looks_findIn (M:=model prog w) X c.ga
 have L2:=PySem.W.looks_findIn (M:=model prog w) X c.gh
 have L3:=PySem.W.looks_find (M:=model prog w) X J hfo
 have L4:Looks (model prog w) hh (isInstance (.ref x) (.type "BaseException")) true:=L0.andThen (PySem.W.looks_mroIn X (by unfold PySem.W.mroIn;rw[hcl,Option.bind_some,if_neg (by simp),hB]))
 unfold getAttr getAttrBy
 refine wpAny_bind (wpAny_mkText (wpAny_holding (wpAny_bind (L0.at (wpAny_bind (L1.at ?_))))))
 dsimp only
 rw[show(onTheHeap (Value.ref C)&&Value.builtin "BaseException.__getattribute__"==Value.builtin "object.__getattribute__")=false from by rw[show(Value.builtin "BaseException.__getattribute__"==Value.builtin "object.__getattribute__")=false from by decide +kernel,Bool.and_false],if_neg (by decide)]
 have hk:Looks (model prog w) hh (hookBefore (.ref C)) none:=L2
 refine wpAny_bind (hk.at (wpAny_bind (wpAny_attempt (wpAny_holding ?_))))
 unfold callGetattribute
 rw[show(expr&&onTheHeap (Value.builtin "BaseException.__getattribute__"))=false from Bool.and_false _,if_neg (by decide)]
 unfold boundAndCalled
 rw[FB.ga.bind]
 refine wpAny_bind (wpAny_pure ?_)
 show wpAny _ _ (call (.builtin "BaseException.__getattribute__") [.ref x,.str f t]) _ _ _
 refine wpAny_call (codeAny_call_builtin FB.ga.plain PySem.F.entry_bexc_ga (@PySem.W.check_slot (model prog w) _ _ _ "BaseException.__getattribute__" "BaseException" "__getattribute__" (.ref x) [.str f t] [] _ (by decide +kernel) (by decide +kernel) L4 (PySem.F.args_bexc_ga _ _) ?_))
 refine wpAny_bind (wpAny_pure (a:=(Value.ref x,[Value.str f t])) ?_)
 show wpAny _ _ (typeOf (.ref x)>>=fun tp=>Builtin.ObjectAttr.find (.ref x) tp f>>=_) _ _ _
 refine wpAny_bind (L0.at (wpAny_bind (L3.at ?_)))
 refine wpAny_pure ?_
 show wpAny _ _ (handedOut v) _ _ _
 rw[PySem.W.handedOut_of hv];exact wpAny_pure h
end
section
variable {X:Cx}{ta:TE}{f:Str}{e:Expr}{pos:Pos}
def Q9(X:Cx)(ta:TE)(f:Str):TE:=fun σ H Q=>ta σ H fun x H1=>∃(ea:Addr)(oe:Obj)(C d:Addr)(fs:List (Str×V))(v:V)(vs:Array Value),x=.ref ea/\(ea,oe)∈X.pn/\oe.cls=.ref C/\oe.dict=some d/\oe.data=.fields vs/\H1 d=some (dF d fs)/\
 rR X.K C/\bw X.K C f/\fs.lookup f=some v/\Q v H1
theorem Cg(he:PE X e ta)(hb:attributeBase e f X.env (eval e X.env)=eval e X.env):PE X (.Attribute e f pos) (Q9 X ta f):=by
 intro pins s σ H Q I h
 refine Gw hb (aH (he pins s σ H _ I h) fun u s1 hh1=>?_)
 obtain⟨x,H1,I1,rx,ea,oe,C,d,fs,v,vs,ex,hp,hc,hd,hv,ed,c,n,l,q⟩:=hh1
 subst ex
 obtain rfl:u=Value.ref ea:=rx
 have pe:=(I1.pin (ea,oe) (List.mem_append_left _ hp)).1
 obtain⟨mA,hn,r,wi⟩:=EF I1.az ed
 obtain⟨od,hod,hlk⟩:=C0 hn
 have J:PySem.W.InstAt s1.heap ea oe C (some od):=⟨pe,hc,by unfold PySem.W.notCls;rw[hv],by rw[hd];exact hod⟩
 have rl:=r f
 rw[l]at rl
 obtain⟨y,ey,ry⟩:=rl.some_of
 refine JW I1.bo c J n (by rw[hlk,ey]) (Fn ry) ?_
 exact⟨v,H1,I1.tok _,ry,q⟩
end
end L2
end
section
set_option Elab.async false
set_option linter.all false
set_option maxRecDepth 100000
set_option maxHeartbeats 4000000
namespace L2
open PySem PySem.Spec PyProof.Rows
open PySem.W (Looks)
section
variable {M:Model}{A:Around}{E:Value->Shared->Prop}{h:Heap}{g:Array GenState}{d:Drawn}{t:Nat}{os:OsState}{e C F:Addr}{oe:Obj}{Q:Bool->Shared->Prop}
theorem Qs{K:PySem.W.Frag}(X:K.In h)(hC:eN K C=true)(hF:eN K F=true)(hs:PySem.W.mroIn K C (.ref F)=some true)(he:h.get? e=some oe)(hcls:oe.cls=.ref C)
  (hq:Q true ⟨h,g,d,t,os⟩):wpAny M A (excMatches (.ref e) (.ref F)) Q E ⟨h,g,d,t,os⟩:=by
 obtain⟨nm,q,N,bs,bm,sn,sub,ab,col,dd,k0,k1,k2,k3,k5,ho,ht⟩:=lh hF
 have oF:=X _ _ ho
 have cB:(Value.ref F::bm).contains (.type "BaseException")=true:=by rw[List.contains_cons,j5 (b:=true) (by decide +kernel) bm ht];rfl
 have L1:Looks M h (isSubtype (.ref C) (.ref F)) true:=PySem.W.looks_mroIn X hs
 have f:=tc_notTuple
 unfold excMatches
 repeat (first|(with_reducible refine wpAny_loadPart_at he ?_;rw[hcls])|with_reducible refine wpAny_loadPart_at oF ?_|(with_reducible refine wpAny_isSubtype_exc oF ?_;rw[cB])|(with_reducible refine L1.at ?_)|wp_step)
 exact hq
end
section
variable {X:Cx}{pins:List (Addr×Obj)}{σ:St}{H:Hp}{s:Shared}
def blind(X:Cx):St:=List.replicate X.N.length none
theorem Ha{i:Nat}{v:V}(h:(blind X)[i]? =some (some v)):False:=by
 unfold blind at h
 rw[List.getElem?_replicate]at h
 split at h<;>cases h
theorem Inv.II(I:Inv X pins σ H s):Inv X pins (blind X) H s:=I.weak (by unfold blind;rw[List.length_replicate,I.len]) fun i v e=>(Ha e).elim
theorem Inv.KA{h':Heap}{m':Str->Option Value}{t':Nat}(I:Inv X pins σ H s)(hn:h'.Ns X.env.locals m')(hs:Heap.SameBut X.env.locals s.heap h'):Inv X pins (blind X) H {s with heap:=h',toks:=t'}:=by
 have B:=I.base
 have kp:∀b o,b≠X.env.locals->s.heap.get? b=some o->h'.get? b=some o:=fun b o nb q=>(hs.2 b nb).trans q
 have nl:∀b o,X.cn.heap.get? b=some o->b≠X.env.locals:=fun b o q=>Nat.ne_of_lt (Nat.lt_of_lt_of_le (Heap.lt_size q) I.ok.above)
 refine⟨I.ok,I.os,I.bare,⟨fun b o q n nf nx=>kp b o (nl b o q) (B.keep b o q n nf nx),fun b o q n nf nx=>?_,B.free,fun b o q nx=>?_,B.hZ,B.gx,B.hX⟩,⟨m',hn,fun i x v _ e _=>(Ha e).elim⟩,fun x c e=>?_,I.free,I.d5,fun p hp=>?_,fun b o q=>?_,
  by unfold blind;rw[List.length_replicate]⟩
 ·obtain⟨sl,q'⟩:=B.slot b o q n nf nx
  exact⟨sl,kp b _ (nl b o q) q'⟩
 ·obtain⟨o',q'⟩:=B.there b o q nx
  exact⟨o',kp b _ (nl b o q) q'⟩
 ·obtain⟨v,o,ho,hd⟩:=I.cell x c e
  exact⟨v,o,kp c o (I.jU x c e) ho,hd⟩
 ·obtain⟨p1,p2,p3,p4,p5⟩:=I.pin p hp
  exact⟨kp p.1 p.2 p3 p1,p2,p3,p4,p5⟩
 ·have nb:∀c u,H c=some u->c≠X.env.locals:=fun c u r z=>by rw[z,I.free]at r;cases r
  refine(I.az b o q).ie (fun c u hc r=>?_) (fun _ r=>r) fun _ _ r=>r
  rcases hc with rfl|hc
  ·exact kp c u (nb c _ q) r
  ·exact kp c u (nb c _ hc) r
end
abbrev Cx.tr(X:Cx)(E:Value->Shared->Prop)(pn:List (Addr×Obj)):Cx:={X with xe:=E,pn:=pn}
abbrev Cx.gF(X:Cx)(ea:Addr)(pn:List (Addr×Obj)):Cx:={X with A:=X.A.mark (some (.ref ea)),calm:=false,pn:=pn,xe:=fun _ _=>False}
section
variable {X:Cx}{pins pins':List (Addr×Obj)}{σ:St}{H:Hp}{s:Shared}{E:Value->Shared->Prop}{pn:List (Addr×Obj)}
theorem Cx.Ok.tr(ok:X.Ok):(X.tr E pn).Ok:=⟨ok.mod,ok.kind,ok.glob,ok.blt,ok.above,ok.inj,ok.has,ok.i6,ok.hd,ok.frames,ok.i3,ok.kl,ok.bs,ok.fF,ok.iV,ok.jj,ok.d8,ok.gA⟩
theorem Cx.Ok.kQ(ok:(X.tr E pn).Ok):X.Ok:=⟨ok.mod,ok.kind,ok.glob,ok.blt,ok.above,ok.inj,ok.has,ok.i6,ok.hd,ok.frames,ok.i3,ok.kl,ok.bs,ok.fF,ok.iV,ok.jj,ok.d8,ok.gA⟩
theorem Cx.Ok.gF{ea:Addr}(ok:X.Ok):(X.gF ea pn).Ok:=⟨ok.mod,ok.kind,ok.glob,ok.blt,ok.above,ok.inj,ok.has,ok.i6,(fun z=>by cases z),ok.frames,ok.i3,ok.kl,ok.bs,ok.fF,ok.iV,ok.jj,ok.d8,ok.gA⟩
theorem Inv.tr(I:Inv X pins σ H s)(h:∀p∈pn++pins',p∈X.pn++pins):Inv (X.tr E pn) pins' σ H s:=⟨I.ok.tr,I.os,I.bare,I.base,I.loc,I.cell,I.free,I.d5,fun p hp=>I.pin p (h p hp),I.az,I.len⟩
theorem Inv.kQ(I:Inv (X.tr E pn) pins σ H s)(h:∀p∈X.pn++pins',p∈pn++pins):Inv X pins' σ H s:=⟨I.ok.kQ,I.os,I.bare,I.base,I.loc,I.cell,I.free,I.d5,fun p hp=>I.pin p (h p hp),I.az,I.len⟩
theorem Inv.gF{ea:Addr}(I:Inv X pins σ H s)(h:∀p∈pn++pins',s.heap.get? p.1=some p.2/\H p.1=none/\p.1≠X.env.locals/\p.1∉X.fs/\∀v,p.2.data≠ .cell v):Inv (X.gF ea pn) pins' σ H s:=
 ⟨I.ok.gF,I.os,I.bare,I.base,I.loc,I.cell,I.free,I.d5,h,I.az,I.len⟩
theorem Inv.Mf{ea:Addr}(ok:X.Ok)(I:Inv (X.gF ea pn) pins σ H s)(h:∀p∈X.pn++pins',p∈pn++pins):Inv X pins' σ H s:=
 ⟨ok,I.os,I.bare,I.base,I.loc,I.cell,I.free,I.d5,fun p hp=>I.pin p (h p hp),I.az,I.len⟩
end
section
variable {X:Cx}{F:Addr}{x n:Str}{i:Nat}{body suite:List Stmt}{b0:Stmt}{np hpos pos:Pos}{tb:XK->TS}{th:Addr->List (Addr×Obj)->TS}
def Gf(X:Cx)(F:Addr)(i:Nat)(th:Addr->List (Addr×Obj)->TS)(D:Ends):XK:=fun cls dx H'=>∃C d,cls=.ref C/\dx=some d/\eN X.K C=true/\PySem.W.mroIn X.K C (.ref F)=some true/\
 ∀(ea:Addr)(oe:Obj)(vs:Array Value)(pn:List (Addr×Obj)),(ea,oe)∈pn->oe.cls=.ref C->oe.dict=some d->oe.data=.fields vs->
  th ea pn {nx:=fun _ H2=>D.nx (blind X) H2,rt:=D.rt} ((blind X).set i (some (.ref ea))) H'
def Qt(X:Cx)(F:Addr)(i:Nat)(tb:XK->TS)(th:Addr->List (Addr×Obj)->TS):TS:=fun D σ H=>tb (Gf X F i th D) D σ H
theorem Iz(hN:X.N.Nodup)(hi:X.N[i]? =some n)(hl:X.env.scope.names.lookup n=some .local)(hg:Gl X x)(hm:X.mg x=some (.ref F))(hF:eN X.K F=true)(hst:X.stack=X.env::X.outer)(hfr:X.env.frame=some X.env.locals)(hex:X.ex=[])
  (hb:∀(E:Value->Shared->Prop)(pn:List (Addr×Obj))(Ec:XK),Passes (bj X.prog X.w) (X.tr E pn) Ec->d9 (X.tr E pn) body (tb Ec)) (hs:∀(ea:Addr)(pn:List (Addr×Obj)),d9 (X.gF ea pn) (b0::suite) (th ea pn))
  (hd:(x==("__debug__":Str))=false:=by decide) (hfn:X.fn n=true:=by rfl):
  PS X (.Try body [.ExceptHandler (some (.Name x np)) (some n) (b0::suite) hpos] [] [] pos) (Qt X F i tb th):=by
 intro pins s σ H D I h
 refine wpAny_Try_except ?_
 generalize hE:(fun e s1=>wpAny (model X.prog X.w) X.A (noteFrame e X.env) (fun _ s2=>wpAny (model X.prog X.w) X.A (setFlight e none) (fun _ s3=>wpAny (model X.prog X.w) X.A
  (handleBy e X.env [.ExceptHandler (some (.Name x np)) (some n) (b0::suite) hpos]) (SP X pins D) X.xe s3) X.xe s2) X.xe s1:Value->Shared->Prop)=E1
 have I':Inv (X.tr E1 (X.pn++pins)) [] σ H s:=I.tr (by simp)
 have hp:Passes (bj X.prog X.w) (X.tr E1 (X.pn++pins)) (Gf X F i th D):=by
  intro pins1 σ1 H1 s1 e s2 J hx
  obtain⟨ea,cls,dx,T,H',rfl,os,bare,un,ok,er,re,ne,z1,z2,n1,n2,C,d0,rfl,hdx,hC,hsub,hth⟩:=hx
  cases hdx
  obtain⟨hh,g,d,t,os'⟩:=s2
  obtain rfl:os'=s1.os:=os
  have I2:=J.call (h':=hh) (g':=g) (d':=d) (t':=t) (ch:=[]) un ok bare (fun b z=>absurd z (by simp))
  show E1 (.ref ea) _
  rw[<-hE]
  have hst2:=I2.stack
  have hfr2:=I2.ok.frames
  have e1:(X.tr E1 (X.pn++pins)).stack=X.env::X.outer:=hst
  rw[e1]at hst2 hfr2
  refine Ea hfr2 hst2 hfr er re ne fun h' T' Fe a b c dn oldT=>?_
  have s0:X.cn.heap.objs.size<=s1.heap.objs.size:=J.sz
  have lt:∀b o,s1.heap.get? b=some o->b≠ea/\b≠T:=fun b o q=>⟨Nat.ne_of_lt (Nat.lt_of_lt_of_le (Heap.lt_size q) z1),Nat.ne_of_lt (Nat.lt_of_lt_of_le (Heap.lt_size q) z2)⟩
  have chk:∀b,b=ea\/b=T->(b∈X.ex\/X.cn.heap.objs.size<=b)/\b≠X.env.locals/\(∀x c,X.env.cells.lookup x=some c->c≠b)/\∀p∈(X.pn++pins)++pins1,p.1≠b:=fun b hb=>by
   have zb:s1.heap.objs.size<=b:=by
    rcases hb with rfl|rfl
    ·exact z1
    ·exact z2
   refine⟨.inr (Nat.le_trans s0 zb),Ne.symm (Nat.ne_of_lt (Nat.lt_of_lt_of_le J.lt zb)),fun y c ey q=>?_,fun p hp q=>?_⟩
   ·obtain⟨v,o,ho,_⟩:=J.cell y c ey
    rw[q]at ho
    exact Nat.lt_irrefl _ (Nat.lt_of_lt_of_le (Heap.lt_size ho) zb)
   ·have:=(J.pin p hp).1
    rw[q]at this
    exact Nat.lt_irrefl _ (Nat.lt_of_lt_of_le (Heap.lt_size this) zb)
  have okh:bG X.prog X.w H' h':=fun b u q=>by
   have nf:∀c v,H' c=some v->c∉cD (X.env::X.outer):=fun c v r z=>by
    have:=I2.u6 c (by rw[e1];exact z)
    rw[r]at this;cases this
   have nx:∀c v,H' c=some v->c∉[ea,T]:=fun c v r z=>by
    rcases List.mem_cons.mp z with rfl|z
    ·rw[n1]at r;cases r
    ·rw[List.mem_singleton.mp z,n2]at r;cases r
   refine(I2.az b u q).ie (fun c v hc r=>?_) (fun _ r=>r) fun _ _ r=>r
   rcases hc with rfl|hc
   ·exact Fe.keep c v r (nx _ _ q) (nf _ _ q)
   ·exact Fe.keep c v r (nx _ _ hc) (nf _ _ hc)
  have un2:Un (cD (X.tr E1 (X.pn++pins)).stack) [ea,T] H' H' hh h':=by
   rw[e1]
   refine⟨fun b o q n nf nx=>Fe.keep b o q nx nf,fun b o q n nf nx=>Fe.slot b o q nx nf,fun _ _ _ n _=>n,fun b o q nx=>?_,fun _ _ q=>q,fun _ _ _ q=>q,fun b ps q=>⟨#[],by rw[q];simp⟩⟩
   by_cases hm:b∈cD (X.env::X.outer)
   ·obtain⟨sl,q'⟩:=Fe.slot b o q nx hm
    exact⟨_,q'⟩
   ·exact⟨_,Fe.keep b o q nx hm⟩
  have I3:=I2.call (h':=h') (g':=g) (d':=d) (t':=t) (ch:=[ea,T]) un2 okh bare (fun b hb=>chk b (by
   rcases List.mem_cons.mp hb with z|z
   ·exact .inl z
   ·exact .inr (List.mem_singleton.mp z)))
  obtain⟨oe,vs,qe,hcls,hdict,hdat,hv1⟩:=id b
  obtain⟨oT,ts,qT,hdT,hT3⟩:=id c
  have I4:Inv X pins (blind X) H' ⟨h',g,d,t,s1.os⟩:=I3.II.kQ (by
   intro p hp
   exact List.mem_append_left _ hp)
  have hpin:∀p∈(X.pn++pins++[(ea,oe)])++[],(⟨h',g,d,t,s1.os⟩:Shared).heap.get? p.1=some p.2/\H' p.1=none/\p.1≠X.env.locals/\p.1∉X.fs/\∀v,p.2.data≠ .cell v:=fun p hp=>by
   rw[List.append_nil]at hp
   rcases List.mem_append.mp hp with hp|hp
   ·exact I4.pin p hp
   ·rw[List.mem_singleton.mp hp]
    refine⟨qe,n1,(chk ea (.inl rfl)).2.1,fun z=>?_,fun v z=>by rw[hdat]at z;cases z⟩
    obtain⟨_,o,ho,_⟩:=J.ok.d8.mem z
    exact absurd (Nat.lt_of_lt_of_le (Heap.lt_size ho) (Nat.le_trans s0 z1)) (Nat.lt_irrefl _)
  have I5:Inv (X.gF ea (X.pn++pins++[(ea,oe)])) [] (blind X) H' ⟨h',g,d,t,s1.os⟩:=I4.gF hpin
  refine wpAny_handleBy_cons (codeAny_handlers_test ?_) (by intro q;cases q)
  refine i5 (X:=X.gF ea (X.pn++pins++[(ea,oe)])) I5 hg hm ?_ hd
  refine Qs I5.bo hC hF hsub qe hcls ?_
  dsimp only
  refine codeAny_handlers_suite_as (wpAny_setFlight_none qe hdat hv1 qT hdT (Array.getElem?_eq_some_iff.mp hT3).1 ?_)
  rw[Heap.update_setField_same h' T' oT ts 3 .none qT hdT hT3]
  refine uq (X:=X.gF ea (X.pn++pins++[(ea,oe)])) I5 hN hi (.inl hl) (show RelV (.ref ea) (.ref ea)from rfl) (fun s6 I6=>?_) (.inl hfn)
  refine wpAny_mono (hs ea (X.pn++pins++[(ea,oe)]) [] s6 _ H' _ I6 (hth ea oe vs _ (List.mem_append_right _ (List.mem_singleton.mpr rfl)) hcls hdict hdat)) (fun fl s7 q7=>?_) fun _ _ z=>False.elim z
  have ho:X.Ok:=I.ok
  have fin:∀(σ':St)(H2:Hp),Inv (X.gF ea (X.pn++pins++[(ea,oe)])) [] σ' H2 s7->∀(Q7:Unit->Shared->Prop)(E7:Value->Shared->Prop),(∀s8,Inv X pins (blind X) H2 s8->Q7 () s8)->
    wpAny (model X.prog X.w) X.A (do bindName X.env n .none;unbindBehindTheSuite X.env n hpos) Q7 E7 s7:=fun σ' H2 I7 Q7 E7 k=>by
   obtain⟨m,hnm,_⟩:=I7.loc
   have I8:Inv X pins σ' H2 s7:=I7.Mf ho (fun p hp=>List.mem_append_left _ (List.mem_append_left _ hp))
   refine wpAny_nameGoes hl hnm (by rw[ho.kind];rfl) fun h9 m9 hn9 hs9=>k _ (I8.KA hn9 hs9)
  cases fl with
  |next=>
   obtain⟨σ',H2,I7,q⟩:=q7
   exact fin σ' H2 I7 _ _ fun s8 I8=>⟨_,H2,I8,q⟩
  |ret u=>
   obtain⟨v,σ',H2,I7,r,q⟩:=q7
   exact fin σ' H2 I7 _ _ fun s8 I8=>⟨v,_,H2,I8,r,q⟩
  |brk=>obtain⟨_,_,_,q⟩:=q7;exact q.elim
  |cont=>obtain⟨_,_,_,q⟩:=q7;exact q.elim
 refine wpAny_mono (hb E1 (X.pn++pins) _ hp [] s σ H D I' h) (fun fl s1 q=>?_) fun e s1 q=>?_
 ·cases fl with
  |next=>
   obtain⟨σ',H',J,q⟩:=q
   exact wpAny_execs_nil ⟨σ',H',J.kQ (fun p hp=>List.mem_append_left _ hp),q⟩
  |ret u=>
   obtain⟨v,σ',H',J,r,q⟩:=q
   exact⟨v,σ',H',J.kQ (fun p hp=>List.mem_append_left _ hp),r,q⟩
  |brk=>
   obtain⟨σ',H',J,q⟩:=q
   exact⟨σ',H',J.kQ (fun p hp=>List.mem_append_left _ hp),q⟩
  |cont=>
   obtain⟨σ',H',J,q⟩:=q
   exact⟨σ',H',J.kQ (fun p hp=>List.mem_append_left _ hp),q⟩
 ·exact q
end
end L2
end
section
set_option Elab.async false
set_option linter.all false
set_option maxRecDepth 100000
set_option maxHeartbeats 2000000
namespace L2
open PySem PySem.Spec PyProof.Rows
structure jc(K:PySem.W.Frag)(C:Addr):Prop where
 eq:PySem.W.findIn K (.ref C) "__eq__"=some (some (.builtin "object.__eq__"))
 ob:PySem.W.mroIn K C (.type "object")=some true
 st:PySem.W.subIn K (.ref C) (.type "str")=some false
section
variable {K:PySem.W.Frag}{A:Around}{E:Value->Shared->Prop}{s:Shared}{x C dx:Addr}{prog:Program}{w:World}
theorem zO{M:Model}(e:s.heap.get? x=some (PySem.W.instObj C dx)):PySem.W.Looks M s.heap (typeOf (.ref x)) (.ref C):=by
 intro A Q E s' k q
 exact wpAny_bind (wpAny_loadPart (k _ _ e) (wpAny_pure q))
theorem Pl{M:Model}{name:Str}{B id:String}{args:List Value}{Q:Option Value->Shared->Prop}(X:K.In s.heap)(e:s.heap.get? x=some (PySem.W.instObj C dx))(hs:PySem.W.findIn K (.ref C) name=some (some (.builtin id)))(S:Slot B name id)
  (h:wpAny M A (call (.builtin id) (.ref x::args)) (fun v=>Q (some v)) E s):wpAny M A (callSpecialIfBound? (.ref x) name args) Q E s:=by
 simp only[callSpecialIfBound?,bindSpecialIfBound?]
 refine wpAny_holding (wpAny_bind (wpAny_bind (wpAny_bind ((zO e).here ((PySem.W.looks_findIn X hs).here ?_)))))
 simp only[S.bind]
 refine wpAny_bind (wpAny_askSetting (wpAny_ite ?_))
 have fin:wpAny M A (call (.builtin id) ([.ref x]++args)>>=fun v=>pure (some v)) Q E s:=
  wpAny_bind (wpAny_mono h (fun v s' h'=>wpAny_pure h') fun _ _ h'=>h')
 split
 ·exact wpAny_bind (wpAny_pure (wpAny_pure fin))
 ·exact wpAny_tryCatch (wpAny_bind (wpAny_pure (wpAny_pure fin)))
theorem KC{M:Model}{id owner n:String}{rest:List Value}{Q:Unit->Shared->Prop}(hk:builtinKind id=some .slot)(hs:splitId id=some (owner,n))(ha:argsOk id ⟨.ref x::rest,[]⟩)
  (X:K.In s.heap) (e:s.heap.get? x=some (PySem.W.instObj C dx)) (hm:PySem.W.mroIn K C (.type owner)=some true) (hq:Q () s):wpAny M A (checkBuiltinCall id ⟨.ref x::rest,[]⟩) Q E s:=by
 simp only[checkBuiltinCall,hk,hs]
 have lk:PySem.W.Looks M s.heap (isInstance (.ref x) (.type owner)) true:=(zO e).andThen (PySem.W.looks_mroIn X hm)
 refine wpAny_bind (lk.here ?_)
 simp only[Bool.not_true,Bool.false_eq_true,if_false]
 cases hsig:Manifest.signature? id with
 |none=>exact wpAny_pure hq
 |some sig=>
  simp only[argsOk,hsig]at ha
  have h2:Bind.checkArgs id sig ⟨.ref x::rest,[]⟩=pure ():=ha
  show wpAny M A (Bind.checkArgs id sig ⟨.ref x::rest,[]⟩) Q E _
  rw[h2];exact wpAny_pure hq
theorem JD{M:Model}{y:Str}{t:Tok}{Q:Fin->Shared->Prop}(hq:Q (.done (.ret .notImplemented)) s):wpAny M A (Builtin.«object.__eq__» ⟨[.ref x,.str y t],[]⟩) Q E s:=by
 unfold Builtin.«object.__eq__»
 repeat (first|with_reducible refine wpAny_of_eq (rfl:isSame (.ref x) (.str y t)=pure false) ?_|wp_step)
 exact hq
theorem PH(b:Str)(u:Tok)(l:Addr)(C dx:Addr):
  Meets (Builtin.«str.__eq__» ⟨[.str b u,.ref l],[]⟩) (fun _ R s=>s.heap.get? l=some (PySem.W.instObj C dx)/\R (.ok (.ret .notImplemented)) s):=
 .of_wp fun prog w A R s h=>by obtain⟨hp,g,d,tk,os⟩:=s;obtain⟨hl,h⟩:=h;wp_walk using wpAny_loadPart' hl,wpAny_load hl;exact⟨_,rfl,h⟩
theorem JF{y:Str}{t:Tok}{Q:Value->Shared->Prop}(hu:A.units<cLine)(X:K.In s.heap)(e:s.heap.get? x=some (PySem.W.instObj C dx))(k:jc K C)(h:Q (.bool false) s):
  wpAny (model prog w) A (compareOp .Eq (.str y t) (.ref x)) Q E s:=by
 show wpAny (model prog w) A (richCompare .Eq (.str y t) (.ref x)) Q E s
 have ha:s.TypeIs (.str y t) "str":=typeIs_str s y t
 simp only[richCompare,cmpInfo_Eq,ha.oneThing_none]
 try with_reducible refine wpAny_holding ?_
 refine wpAny_bind (wpAny_cRoomFor hu ?_)
 refine wpAny_bind (wpAny_typeOf ha (wpAny_bind ((zO e).here ?_)))
 rw[if_pos (by first|rfl|simp)]
 refine wpAny_bind ((PySem.W.looks_subIn X k.st).here ?_)
 simp only[Bool.false_eq_true,if_false,Bool.not_false,if_true]
 refine wpAny_bind (m:=tryCompare (.str y t) _ (.ref x)) (wpAny_tryCompare_declines ha PySem.F.slot_str_eq (call_meets PySem.F.slot_str_eq ha PySem.F.entry_str_eq (PySem.F.args_str_eq_2 _ _) (PH y t x C dx) ⟨e,rfl,?_⟩))
 refine wpAny_bind (m:=tryCompare (.ref x) _ (.str y t)) ?_
 simp only[tryCompare]
 refine wpAny_bind (Pl X e k.eq PySem.F.cmp_object.eq (wpAny_call (codeAny_call_builtin PySem.F.cmp_object.eq.plain PySem.F.cmpEntry_eq (KC PySem.F.cmpKind_eq PySem.F.cmpSplit_eq (PySem.F.cmpArgs_eq _ _) X e k.ob (JD ?_)))))
 exact wpAny_pure (wpAny_bind (wpAny_rule (wpAny_bind (wpAny_of_eq (rfl:isSame (.str y t) (.ref x)=pure false) (wpAny_pure h)))))
end
section
variable {X:Cx}
def Il(K:PySem.W.Frag):R2:=fun x y H Q=>Af x y H Q\/∃(z:Str)(p C dx:Addr)(fs:List (Str×V)),x=.str z/\y=.ref p/\H p=some (.ins C dx fs)/\jc K C/\Q (.bl false) H
theorem Pn(hu:X.A.units<cLine):dH X (compareOp .Eq) (Il X.K):=by
 intro pins s σ H x y v u Q I rx ry h
 rcases h with h|⟨z,p,C,dx,fs,rfl,rfl,e,k,q⟩
 ·exact cp pins s σ H x y v u Q I rx ry h
 ·obtain⟨t,rfl⟩:=rx
  cases (show u=Value.ref p from ry)
  obtain⟨_,_,_,ob,_⟩:=(show cg X.prog X.w H s.heap p (.ins C dx fs)from I.az p _ e)
  exact JF hu I.bo ob k ⟨.bl false,H,I,rfl,q⟩
end
section
variable {X:Cx}{k:Nat}{f:Addr}{fd:FuncData}{ps:List Str}{sp:Sp}{x:Str}{p pos:Pos}{e:Expr}{es:List Expr}{t:TA}{CX:eC}{E:XK}
def Lf(i:Nat)(f:Addr)(sp:Sp)(E:XK)(t:TA):TE:=fun σ H Q=>σ[i]? =some (some (.ref f))/\t σ H fun vs H1=>sp vs H1 Q E
theorem Ip(i:Nat)(F:ax X.prog X.w X.K X.mg X.base CX k f fd ps sp)(hr:bC k X.A)(hk:PySem.W.keepIn X.K (.ref f)=true)(hb:Binds X.K fd ps [])(hx:Passes CX X E)
  (ha:PA X (e::es) t) (hN:X.N[i]? =some x:=by rfl) (hv:kT X.env.scope x:=by first|exact Or.inl rfl|exact Or.inr (Or.inl rfl)|exact Or.inr (Or.inr rfl)) (hd:(x==("__debug__":Str))=false:=by decide) (hcd:(x==("__classdict__":Str))=false:=by decide)
  (he:starEach (e::es) X.env=(false,eval e X.env)::starEach es X.env:=by rfl) (hpl:(backTo pos (starEach es X.env)).any (·.1)=false:=by rfl):
  PE X (.Call (.Name x p) (e::es) [] pos) (Lf i f sp E t):=by
 intro pins s σ H Q I h
 obtain⟨e0,h⟩:=h
 refine wpAny_Call_Name_kw (aH (FZ (X:=X) (i:=i) (pos:=p) hN hv hd hcd pins s σ H (fun v H1=>v=.ref f/\t σ H1 fun vs H2=>sp vs H2 Q E) I ⟨.ref f,e0,rfl,h⟩) fun u s1 hh1=>?_)
 obtain⟨v,H1,I1,r,ev,q⟩:=hh1
 subst ev
 cases (show u=Value.ref f from r)
 refine PySem.W.callWith_K (h₀:=X.base) I.ok.mod.iA hk (aH (ha pos pins s1 σ H1 _ I1 q) fun us s2⟨vs,H2,I2,r2,q2⟩=>⟨I2.bo,?_⟩) he hpl
 refine se (dvs:=[]) F hr hb .nil hx I2 r2 ?_
 rw[List.append_nil];exact q2
end
theorem Rh{K:PySem.W.Frag}{a b:Addr}{xs ys:List V}{g:TG}{tb:TS}{D:Ends}{σ:St}{H:Hp}(Pv:Nat->St->Hp->Prop)(hn:xs.length=ys.length)(h0:Pv 0 σ H)(hl:∀i σ H,i<=xs.length->Pv i σ H->aM K H a xs/\aM K H b ys)
  (hs:∀i x y σ H T,xs[i]? =some x->ys[i]? =some y->Pv i σ H->H T=none->g (.ref T) σ (upd H T (.tup [x,y])) fun σ2 H2=>tb {D with nx:=Pv (i+1),ct:=Pv (i+1),bk:=D.nx} σ2 H2) (hd:∀σ H,Pv xs.length σ H->D.nx σ H):
  ∃W:Nat->Nat->St->Hp->Prop,(∃m,W 0 m σ H)/\∀i m σ H,W i m σ H->
   ((sO K a b).stop i H/\D.nx σ H)\/((sO K a b).go i H/\∃N:St->Hp->Prop,(∀σ' H',N σ' H'->∃m',m'<m/\W (i+1) m' σ' H')/\∀x H',(sO K a b).sh i H x H'->g x σ H' fun σ2 H2=>tb {D with nx:=N,ct:=N,bk:=D.nx} σ2 H2):=by
 refine⟨fun i m σ H=>m=xs.length-i/\i<=xs.length/\Pv i σ H,⟨xs.length,by simp,Nat.zero_le _,h0⟩,?_⟩
 rintro i m σ H ⟨rfl,hi,p⟩
 obtain⟨q,q'⟩:=hl i σ H hi p
 by_cases hlt:i<xs.length
 ·have hlt':i<ys.length:=by lia
  refine .inr ⟨⟨xs,ys,xs[i],ys[i],q,q',by simp[hlt],by simp[hlt']⟩,Pv (i+1),fun σ' H' p'=>⟨xs.length-(i+1),by lia,rfl,hlt,p'⟩,fun v H' y=>?_⟩
  obtain⟨T,x,y,rfl,hT,rfl,hx,hy⟩:=y
  exact hs i x y σ H T (hx xs q) (hy ys q') p hT
 ·have e:i=xs.length:=by lia
  subst e
  exact .inl ⟨⟨xs,ys,q,q',.inl (Nat.le_refl _)⟩,hd σ H p⟩
end L2
end
section
section
set_option Elab.async false
set_option linter.all false
set_option maxRecDepth 100000
set_option maxHeartbeats 2000000
namespace L2
open PySem PySem.Spec PyProof.Rows
open PySem.W (WData Codec OpenSpec Well WellAll ReadsW ReadsAllW)
mutual
inductive Dw(K:PySem.W.Frag)(H:Hp):V->WData->Prop
 |ay:Dw K H .ay .none
 |bl (b:Bool):Dw K H (.bl b) (.bool b)
 |int (i:Int):Dw K H (.int i) (.int i)
 |str (x:Str):Dw K H (.str x) (.str x)
 |eJ (b:Array UInt8):Dw K H (.eJ b) (.bytes b.toList)
 |lst {a:Addr} {xs:List V} {ds:List WData}:aM K H a xs->fz K H xs ds->Dw K H (.ref a) (.list ds)
 |tup {a:Addr} {xs:List V} {ds:List WData}:dZ K H a xs->fz K H xs ds->Dw K H (.ref a) (.tuple ds)
inductive fz(K:PySem.W.Frag)(H:Hp):List V->List WData->Prop
 |nil:fz K H [] []
 |cons {v:V} {vs:List V} {d:WData} {ds:List WData}:Dw K H v d->fz K H vs ds->fz K H (v::vs) (d::ds)
end
theorem B8{K:PySem.W.Frag}{H:Hp}:∀ns:List Int,fz K H (ns.map V.int) (ns.map WData.int)
 |[]=>.nil
 |n::r=>.cons (.int n) (B8 r)
theorem yi{K:PySem.W.Frag}{H:Hp}:∀(ns:List Int)(xs:List V),fz K H xs (ns.map WData.int)->xs=ns.map V.int
 |[],xs,h=>by
  cases h
  rfl
 |n::r,xs,h=>by
  cases h with
  |cons h1 h2=>
   cases h1
   rw[yi r _ h2]<;>rfl
section
variable {P:Program}{w:World}{K:PySem.W.Frag}{H:Hp}{h:Heap}{R:PySem.W.WRecords}{cl:Str->Option Addr}
theorem Kn{a:Addr}{xs:List V}(az:bG P w H h)(KX:K.In h)(q:aM K H a xs):∃(its:List Value)(o:Obj)(n:Nat),aW xs its/\h.get? a=some o/\o.cls=.type "list"/\o.data=.seq its.toArray n:=by
 rcases q with q|⟨o,its,n,e,hc,_,hd,_,hv⟩
 ·obtain⟨_,its,n,hv,e⟩:=(show cg P w H h a (.lst xs)from q.ok az)
  exact⟨its,_,n,hv,e,rfl,rfl⟩
 ·exact⟨its.toList,o,n,hv,KX _ _ e,hc,by simp[hd]⟩
theorem Pj{a:Addr}{xs:List V}(az:bG P w H h)(KX:K.In h)(q:dZ K H a xs):∃(its:List Value)(o:Obj)(n:Nat),aW xs its/\h.get? a=some o/\o.cls=.type "tuple"/\o.data=.seq its.toArray n:=by
 rcases q with q|⟨o,its,n,e,hc,hd,_,hv⟩
 ·obtain⟨_,its,hv,o,e,hc,n,hd⟩:=(show cg P w H h a (.tup xs)from q.ok az)
  exact⟨its,o,n,hv,e,hc,hd⟩
 ·exact⟨its.toList,o,n,hv,KX _ _ e,hc,by simp[hd]⟩
mutual
theorem Dw.reads(az:bG P w H h)(KX:K.In h):∀(d:WData)(v:V)(u:Value),Dw K H v d->RelV v u->∃as,ReadsW R cl h u d as
 | .none,_,_,x,r=>by
  cases x
  cases r
  exact⟨_,ReadsW.none⟩
 | .bool b,_,_,x,r=>by
  cases x
  cases r
  exact⟨_,ReadsW.bool b⟩
 | .int i,_,_,x,r=>by
  cases x
  obtain⟨t,rfl⟩:=r
  exact⟨_,ReadsW.int i t⟩
 | .str s,_,_,x,r=>by
  cases x
  obtain⟨t,rfl⟩:=r
  exact⟨_,ReadsW.str s t⟩
 | .bytes b,_,_,x,r=>by
  cases x
  obtain⟨t,rfl⟩:=r
  exact⟨_,ReadsW.bytes _ t⟩
 | .list ds,_,_,x,r=>by
  cases x with
  |lst hs ha=>
   cases r
   obtain⟨its,o,n,rv,ho,hc,hd⟩:=Kn az KX hs
   obtain⟨as,hr⟩:=Dw.readsAll az KX ds _ its ha rv
   exact⟨_,ReadsW.list ho hc hd hr⟩
 | .tuple ds,_,_,x,r=>by
  cases x with
  |tup hs ha=>
   cases r
   obtain⟨its,o,n,rv,ho,hc,hd⟩:=Pj az KX hs
   obtain⟨as,hr⟩:=Dw.readsAll az KX ds _ its ha rv
   exact⟨_,ReadsW.tuple ho hc hd hr⟩
 | .float _,_,_,x,_=>by cases x
 | .dict _,_,_,x,_=>by cases x
 | .bytearray _,_,_,x,_=>by cases x
 | .set _,_,_,x,_=>by cases x
 | .frozenset _,_,_,x,_=>by cases x
 | .obj _ _,_,_,x,_=>by cases x
theorem Dw.readsAll(az:bG P w H h)(KX:K.In h):∀(ds:List WData)(vs:List V)(us:List Value),fz K H vs ds->aW vs us->∃as,ReadsAllW R cl h us ds as
 |[],_,_,x,r=>by
  cases x
  cases r
  exact⟨_,ReadsAllW.nil⟩
 |d::ds,_,_,x,r=>by
  cases x with
  |cons h1 h2=>
   cases r with
   |cons r1 r2=>
    obtain⟨as,q1⟩:=Dw.reads az KX d _ _ h1 r1
    obtain⟨bs,q2⟩:=Dw.readsAll az KX ds _ _ h2 r2
    exact⟨_,ReadsAllW.cons q1 q2⟩
end
end
mutual
def fC:WData->Bool
 | .none=>true
 | .bool _=>true
 | .int _=>true
 | .str _=>true
 | .bytes _=>true
 | .list xs=>gv xs
 | .tuple xs=>gv xs
 |_=>false
def gv:List WData->Bool
 |[]=>true
 |x::r=>fC x&&gv r
end
theorem GJ{α:Type}{f:α->WData}(h:∀a,fC (f a)=true):∀l:List α,gv (l.map f)=true
 |[]=>rfl
 |x::r=>by
  show(fC (f x)&&gv (r.map f))=true
  rw[h x,GJ h r]<;>rfl
theorem jN:∀(c:Codec)(a:c.denote),fC (c.enc a)=true
 | .unit,_=>rfl
 | .bool,_=>rfl
 | .int _ _,_=>rfl
 | .nat _ _,_=>rfl
 | .u8,_=>rfl
 | .bytes _ _,_=>rfl
 | .text _ _ _ _,_=>rfl
 | .list _ _ c,a=>GJ (fun x=>jN c x) a
 | .pair c d,a=>by
  show(fC (c.enc a.1)&&(fC (d.enc a.2)&&true))=true
  rw[jN c a.1,jN d a.2]<;>rfl
 | .triple c d e,a=>by
  show(fC (c.enc a.1)&&(fC (d.enc a.2.1)&&(fC (e.enc a.2.2)&&true)))=true
  rw[jN c a.1,jN d a.2.1,jN e a.2.2]<;>rfl
 | .option c,none=>rfl
 | .option c,some x=>jN c x
theorem EN:∀(cs:List Codec)(a:Codec.denoteAll cs),gv (Codec.encAll cs a)=true
 |[],_=>rfl
 |c::cs,a=>by
  show(fC (c.enc a.1)&&gv (Codec.encAll cs a.2))=true
  rw[jN c a.1,EN cs a.2]<;>rfl
theorem BL:∀{xs:List WData}{d:WData},d∈xs->d.weight<=WData.weightAll xs
 |[],d,h=>absurd h (by simp)
 |x::r,d,h=>by
  show d.weight<=x.weight+1+WData.weightAll r
  rcases List.mem_cons.mp h with e|m
  ·rw[e]
   lia
  ·have z:=BL m
   lia
def toV:Value->V
 | .none=>.ay
 | .bool b=>.bl b
 | .int i _=>.int i
 | .str x _=>.str x
 | .bytes b _=>.eJ b
 | .ref a=>.ref a
 |_=>.ay
def f9(A:List Addr):Value->Prop
 | .none=>True
 | .bool _=>True
 | .int _ _=>True
 | .str _ _=>True
 | .bytes _ _=>True
 | .ref a=>a∈A
 |_=>False
theorem f9.mono{A B:List Addr}(h:∀a∈A,a∈B):∀{u:Value},f9 A u->f9 B u:=fun{u}x=>by
 cases u with
 |ref a=>exact h a x
 |none=>trivial
 |bool b=>trivial
 |int i t=>trivial
 |str s t=>trivial
 |bytes b t=>trivial
 |_=>exact False.elim x
theorem Pf{A:List Addr}{u:Value}(x:f9 A u):RelV (toV u) u:=by
 cases u with
 |ref a=>rfl
 |none=>rfl
 |bool b=>rfl
 |int i t=>exact⟨t,rfl⟩
 |str s t=>exact⟨t,rfl⟩
 |bytes b t=>exact⟨t,rfl⟩
 |_=>exact False.elim x
theorem mU{A:List Addr}:∀{vs:List Value},(∀u∈vs,f9 A u)->aW (vs.map toV) vs
 |[],_=>.nil
 |u::r,h=>.cons (Pf (h u (List.mem_cons_self ..))) (mU fun x hx=>h x (List.mem_cons_of_mem _ hx))
def gI(h:Heap)(A:List Addr)(a:Addr):Prop:=∃vs:List Value,vs.length<=sizeLine/\(∀u∈vs,f9 A u)/\
 (h.get? a=some {cls:=.type "list",data:=.seq vs.toArray}\/h.get? a=some {cls:=.type "tuple",data:=.seq vs.toArray})
theorem gI.mono{h:Heap}{A B:List Addr}{a:Addr}(k:∀a∈A,a∈B)(x:gI h A a):gI h B a:=by
 obtain⟨vs,h1,h2,h3⟩:=x
 exact⟨vs,h1,fun u hu=>(h2 u hu).mono k,h3⟩
theorem wc{P:Params}{h:Heap}:∀{vs:List Value}{ds:List WData},WellAll P h vs ds->vs.length=ds.length
 |_,_,.nil=>rfl
 |_,_,.cons _ b=>by
  show _+1=_+1
  rw[wc b]
theorem Em{P:Params}{h:Heap}{v:Value}{ds:List WData}(x:Well P h v (.list ds)):∃(a:Addr)(vs:List Value),v=.ref a/\h.get? a=some {cls:=.type "list",data:=.seq vs.toArray}/\WellAll P h vs ds:=by
 cases x with
 |list ho hall=>exact⟨_,_,rfl,ho,hall⟩
theorem Et{P:Params}{h:Heap}{v:Value}{ds:List WData}(x:Well P h v (.tuple ds)):∃(a:Addr)(vs:List Value),v=.ref a/\h.get? a=some {cls:=.type "tuple",data:=.seq vs.toArray}/\WellAll P h vs ds:=by
 cases x with
 |tuple ho hall=>exact⟨_,_,rfl,ho,hall⟩
theorem Cv{P:Params}{h:Heap}{us:List Value}{d:WData}{ds:List WData}(x:WellAll P h us (d::ds)):∃(v:Value)(vs:List Value),us=v::vs/\Well P h v d/\WellAll P h vs ds:=by
 cases x with
 |cons a b=>exact⟨_,_,rfl,a,b⟩
theorem Ht{n:Nat}(h:n<=1048576):n<=sizeLine:=Nat.le_trans h (by decide)
section
variable {P:Params}{h:Heap}
mutual
theorem K6:∀(d:WData)(v:Value),Well P h v d->fC d=true->d.weight<=1048576->∃A:List Addr,f9 A v/\∀a∈A,gI h A a
 | .none,_,x,_,_=>by
  cases x
  exact⟨[],trivial,fun a m=>absurd m (by simp)⟩
 | .bool b,_,x,_,_=>by
  cases x
  exact⟨[],trivial,fun a m=>absurd m (by simp)⟩
 | .int i,_,x,_,_=>by
  cases x
  exact⟨[],trivial,fun a m=>absurd m (by simp)⟩
 | .str s,_,x,_,_=>by
  cases x
  exact⟨[],trivial,fun a m=>absurd m (by simp)⟩
 | .bytes b,_,x,_,_=>by
  cases x
  exact⟨[],trivial,fun a m=>absurd m (by simp)⟩
 | .list ds,_,x,p,z=>by
  obtain⟨a,vs,rfl,ho,hall⟩:=Em x
  have z2:WData.weightAll ds<=1048576:=z
  obtain⟨A,h1,h2⟩:=vI ds _ hall p fun d hd=>Nat.le_trans (BL hd) z2
  have k:∀b∈A,b∈a::A:=fun b hb=>List.mem_cons_of_mem _ hb
  refine⟨a::A,List.mem_cons_self ..,fun b hb=>?_⟩
  rcases List.mem_cons.mp hb with e|m
  ·rw[e]
   exact⟨vs,Ht (by rw[wc hall];exact Nat.le_trans (PySem.W.length_le_weightAllW ds) z2),fun u hu=>(h1 u hu).mono k,.inl ho⟩
  ·exact(h2 b m).mono k
 | .tuple ds,_,x,p,z=>by
  obtain⟨a,vs,rfl,ho,hall⟩:=Et x
  have z2:WData.weightAll ds<=1048576:=z
  obtain⟨A,h1,h2⟩:=vI ds _ hall p fun d hd=>Nat.le_trans (BL hd) z2
  have k:∀b∈A,b∈a::A:=fun b hb=>List.mem_cons_of_mem _ hb
  refine⟨a::A,List.mem_cons_self ..,fun b hb=>?_⟩
  rcases List.mem_cons.mp hb with e|m
  ·rw[e]
   exact⟨vs,Ht (by rw[wc hall];exact Nat.le_trans (PySem.W.length_le_weightAllW ds) z2),fun u hu=>(h1 u hu).mono k,.inr ho⟩
  ·exact(h2 b m).mono k
 | .float _,_,_,p,_=>Bool.noConfusion (show false=true from p)
 | .dict _,_,_,p,_=>Bool.noConfusion (show false=true from p)
 | .bytearray _,_,_,p,_=>Bool.noConfusion (show false=true from p)
 | .set _,_,_,p,_=>Bool.noConfusion (show false=true from p)
 | .frozenset _,_,_,p,_=>Bool.noConfusion (show false=true from p)
 | .obj _ _,_,_,p,_=>Bool.noConfusion (show false=true from p)
theorem vI:∀(ds:List WData)(vs:List Value),WellAll P h vs ds->gv ds=true->(∀d∈ds,d.weight<=1048576)->∃A:List Addr,(∀u∈vs,f9 A u)/\∀a∈A,gI h A a
 |[],_,x,_,_=>by
  cases x
  exact⟨[],fun u m=>absurd m (by simp),fun a m=>absurd m (by simp)⟩
 |d::ds,_,x,p,z=>by
  obtain⟨v,vs,rfl,x1,x2⟩:=Cv x
  have q:fC d=true/\gv ds=true:=Bool.and_eq_true_iff.mp p
  obtain⟨A,a1,a2⟩:=K6 d v x1 q.1 (z d (List.mem_cons_self ..))
  obtain⟨B,b1,b2⟩:=vI ds vs x2 q.2 fun e he=>z e (List.mem_cons_of_mem _ he)
  have kA:∀b∈A,b∈A++B:=fun b hb=>List.mem_append.mpr (.inl hb)
  have kB:∀b∈B,b∈A++B:=fun b hb=>List.mem_append.mpr (.inr hb)
  refine⟨A++B,fun u hu=>?_,fun b hb=>?_⟩
  ·rcases List.mem_cons.mp hu with e|m
   ·rw[e]
    exact a1.mono kA
   ·exact(b1 u m).mono kB
  ·rcases List.mem_append.mp hb with m|m
   ·exact(a2 b m).mono kA
   ·exact(b2 b m).mono kB
end
end
def uQ(o:Obj):Option HO:=match o.data with
 | .seq vs _=>if(o.cls==Value.type "list")=true then some (.df o (.lst (vs.toList.map toV)))else some (.df o (.tup (vs.toList.map toV)))
 |_=>none
def dW(K:PySem.W.Frag)(h:Heap)(A:List Addr):Hp:=fun b=>if b∈A then(if(K.lookup b).isNone=true then(h.get? b).bind uQ else none)else none
def om(H:Hp):Prop:=∀b,H b=none\/∃o u,H b=some (.df o u)
theorem C8(vs:List Value):uQ {cls:=.type "list",data:=.seq vs.toArray}=some (.df {cls:=.type "list",data:=.seq vs.toArray} (.lst (vs.map toV))):=by
 show(if(Value.type "list"==Value.type "list")=true then some (HO.df {cls:=.type "list",data:=.seq vs.toArray} (.lst (vs.toArray.toList.map toV)))else some (HO.df {cls:=.type "list",data:=.seq vs.toArray} (.tup (vs.toArray.toList.map toV))))=_
 rw[if_pos (beq_self_eq_true _)]
theorem EM(vs:List Value):uQ {cls:=.type "tuple",data:=.seq vs.toArray}=some (.df {cls:=.type "tuple",data:=.seq vs.toArray} (.tup (vs.map toV))):=by
 show(if(Value.type "tuple"==Value.type "list")=true then some (HO.df {cls:=.type "tuple",data:=.seq vs.toArray} (.lst (vs.toArray.toList.map toV)))else some (HO.df {cls:=.type "tuple",data:=.seq vs.toArray} (.tup (vs.toArray.toList.map toV))))=_
 rw[if_neg (by decide)]
section
variable {P:Program}{w:World}{K:PySem.W.Frag}{h:Heap}{A:List Addr}
theorem uK{b:Addr}{o:Obj}(hb:b∈A)(hk:K.lookup b=none)(e:h.get? b=some o):dW K h A b=uQ o:=by
 unfold dW
 rw[if_pos hb,hk,if_pos (show(none:Option Obj).isNone=true from rfl),e]<;>rfl
theorem PF{b:Addr}{u:HO}(q:dW K h A b=some u):b∈A/\K.lookup b=none:=by
 unfold dW at q
 by_cases hb:b∈A
 ·rw[if_pos hb]at q
  cases hk:K.lookup b with
  |none=>exact⟨hb,rfl⟩
  |some o=>
   rw[hk,if_neg (by simp)]at q
   cases q
 ·rw[if_neg hb]at q
  cases q
theorem vc(ar:∀a∈A,gI h A a){b:Addr}{u:HO}(q:dW K h A b=some u):K.lookup b=none/\∃vs:List Value,vs.length<=sizeLine/\(∀u∈vs,f9 A u)/\
  ((h.get? b=some {cls:=.type "list",data:=.seq vs.toArray}/\u=.df {cls:=.type "list",data:=.seq vs.toArray} (.lst (vs.map toV)))\/
   (h.get? b=some {cls:=.type "tuple",data:=.seq vs.toArray}/\u=.df {cls:=.type "tuple",data:=.seq vs.toArray} (.tup (vs.map toV)))):=by
 obtain⟨hb,hk⟩:=PF q
 obtain⟨vs,h1,h2,h3⟩:=ar b hb
 refine⟨hk,vs,h1,h2,?_⟩
 rcases h3 with e|e
 ·rw[uK hb hk e,C8]at q
  exact .inl ⟨e,(Option.some.inj q).symm⟩
 ·rw[uK hb hk e,EM]at q
  exact .inr ⟨e,(Option.some.inj q).symm⟩
theorem Kj(ar:∀a∈A,gI h A a):om (dW K h A):=fun b=>by
 cases q:dW K h A b with
 |none=>exact .inl rfl
 |some u=>
  obtain⟨_,vs,_,_,⟨_,e⟩|⟨_,e⟩⟩:=vc ar q
  ·exact .inr ⟨_,_,by rw[e]⟩
  ·exact .inr ⟨_,_,by rw[e]⟩
theorem ML(ar:∀a∈A,gI h A a):bG P w (dW K h A) h:=fun b u q=>by
 obtain⟨_,vs,h1,h2,⟨e,rfl⟩|⟨e,rfl⟩⟩:=vc ar q
 ·exact⟨e,by rw[List.length_map];exact h1,vs,_,mU h2,e⟩
 ·exact⟨e,by rw[List.length_map];exact h1,vs,mU h2,_,e,rfl,_,rfl⟩
theorem wK{c c':Value}{vs us:List Value}(e:(some {cls:=c,data:=.seq vs.toArray}:Option Obj)=some {cls:=c',data:=.seq us.toArray}):c=c'/\vs=us:=by
 have e1:=Option.some.inj e
 have e2:c=c':=congrArg Obj.cls e1
 have e3:Data.seq vs.toArray=Data.seq us.toArray:=congrArg Obj.data e1
 injection e3 with e4
 refine⟨e2,?_⟩
 have e5:=congrArg Array.toList e4
 simpa using e5
theorem QE(KX:K.In h)(ar:∀a∈A,gI h A a){a:Addr}{vs:List Value}(ha:a∈A)(e:h.get? a=some {cls:=.type "list",data:=.seq vs.toArray}):(∀u∈vs,f9 A u)/\aM K (dW K h A) a (vs.map toV):=by
 obtain⟨us,h1,h2,h3⟩:=ar a ha
 have hu:us=vs:=by
  rcases h3 with q|q
  ·rw[e]at q
   exact(wK q).2.symm
  ·rw[e]at q
   exact absurd (Value.type.inj (wK q).1) (by decide)
 subst hu
 refine⟨h2,?_⟩
 cases hk:K.lookup a with
 |none=>exact .inl (.inr ⟨_,by rw[uK ha hk e,C8]⟩)
 |some o=>
  have e2:=KX a o hk
  rw[e]at e2
  obtain rfl:=Option.some.inj e2
  exact .inr ⟨_,us.toArray,_,hk,rfl,rfl,rfl,by rw[List.size_toArray];exact h1,by simpa using mU h2⟩
theorem J3(KX:K.In h)(ar:∀a∈A,gI h A a){a:Addr}{vs:List Value}(ha:a∈A)(e:h.get? a=some {cls:=.type "tuple",data:=.seq vs.toArray}):(∀u∈vs,f9 A u)/\dZ K (dW K h A) a (vs.map toV):=by
 obtain⟨us,h1,h2,h3⟩:=ar a ha
 have hu:us=vs:=by
  rcases h3 with q|q
  ·rw[e]at q
   exact absurd (Value.type.inj (wK q).1) (by decide)
  ·rw[e]at q
   exact(wK q).2.symm
 subst hu
 refine⟨h2,?_⟩
 cases hk:K.lookup a with
 |none=>exact .inl (.inr ⟨_,by rw[uK ha hk e,EM]⟩)
 |some o=>
  have e2:=KX a o hk
  rw[e]at e2
  obtain rfl:=Option.some.inj e2
  exact .inr ⟨_,us.toArray,_,hk,rfl,rfl,by rw[List.size_toArray];exact h1,by simpa using mU h2⟩
mutual
theorem O7{Pm:Params}(KX:K.In h)(ar:∀a∈A,gI h A a):∀(d:WData)(v:Value),Well Pm h v d->fC d=true->f9 A v->Dw K (dW K h A) (toV v) d
 | .none,_,x,_,_=>by
  cases x
  exact .ay
 | .bool b,_,x,_,_=>by
  cases x
  exact .bl b
 | .int i,_,x,_,_=>by
  cases x
  exact .int i
 | .str s,_,x,_,_=>by
  cases x
  exact .str s
 | .bytes b,_,x,_,_=>by
  cases x
  have z:=Dw.eJ (K:=K) (H:=dW K h A) b.toArray
  exact z
 | .list ds,_,x,p,hu=>by
  obtain⟨a,vs,rfl,ho,hall⟩:=Em x
  obtain⟨h2,hs⟩:=QE KX ar hu ho
  exact .lst hs (g8 KX ar ds _ hall p h2)
 | .tuple ds,_,x,p,hu=>by
  obtain⟨a,vs,rfl,ho,hall⟩:=Et x
  obtain⟨h2,hs⟩:=J3 KX ar hu ho
  exact .tup hs (g8 KX ar ds _ hall p h2)
 | .float _,_,_,p,_=>Bool.noConfusion (show false=true from p)
 | .dict _,_,_,p,_=>Bool.noConfusion (show false=true from p)
 | .bytearray _,_,_,p,_=>Bool.noConfusion (show false=true from p)
 | .set _,_,_,p,_=>Bool.noConfusion (show false=true from p)
 | .frozenset _,_,_,p,_=>Bool.noConfusion (show false=true from p)
 | .obj _ _,_,_,p,_=>Bool.noConfusion (show false=true from p)
theorem g8{Pm:Params}(KX:K.In h)(ar:∀a∈A,gI h A a):∀(ds:List WData)(vs:List Value),WellAll Pm h vs ds->gv ds=true->(∀u∈vs,f9 A u)->fz K (dW K h A) (vs.map toV) ds
 |[],_,x,_,_=>by
  cases x
  exact .nil
 |d::ds,_,x,p,hu=>by
  obtain⟨v,vs,rfl,x1,x2⟩:=Cv x
  have q:fC d=true/\gv ds=true:=Bool.and_eq_true_iff.mp p
  exact .cons (O7 KX ar d v x1 q.1 (hu _ (List.mem_cons_self ..))) (g8 KX ar ds vs x2 q.2 fun u m=>hu u (List.mem_cons_of_mem _ m))
end
end
theorem Ou{P:Program}{w:World}{K:PySem.W.Frag}{mg mb:Str->Option Value}{CX:eC}{k:Nat}{fa:Addr}{fd:FuncData}{ps:List Str}{sp:Sp}{s₁:Shared}{vals:List Value}{ds:List WData}{R:PySem.W.WRecords}{cl:Str->Option Addr}{d0:WData}
  (KX:K.In s₁.heap) (hns:s₁.heap.Ns mainGlobals mg) (hb:s₁.heap.Ns builtinsNs mb) (hbb:∀x:Str,x≠"__name__"->mb x=bootBuiltins x) (hlim:s₁.heap.NoLimit) (hg:s₁.gens=#[])
  (hwl:WellAll w.params s₁.heap vals ds) (hpl:gv ds=true) (hwt:∀d∈ds,d.weight<=1048576) (hr:bC k callerA)
  (F:∀base:Heap,K.In base->base.Ns mainGlobals mg->ax P w K mg base CX k fa fd ps sp) (hbind:∀(s:Shared)(us:List Value),us.length=ps.length->BindsTo s fd ⟨us,[]⟩ (ps.zip us)) (hlen:ds.length=ps.length)
  (hsp:∀(H:Hp)(xs:List V),om H->fz K H xs ds->sp xs H (fun v H'=>Dw K H' v d0) fun _ _ _=>False)
  (hCX:∀H e s',CX [] H s₁ (fun _ _ _=>False) e s'->False):
  codeAny (model P w) callerA (.call (.ref fa) ⟨vals,[]⟩) (fun r s'=>∃u as,r=.ok (.ret u)/\ReadsW R cl s'.heap u d0 as/\OldK s₁.heap s'.heap/\s'.os=s₁.os/\AllBare s'.gens) s₁:=by
 obtain⟨A,ho,ar⟩:=vI ds vals hwl hpl hwt
 have hO:om (dW K s₁.heap A):=Kj ar
 have az:bG P w (dW K s₁.heap A) s₁.heap:=ML ar
 have hS:=g8 KX ar ds vals hwl hpl ho
 have hV:=mU ho
 have hK:∀b u,dW K s₁.heap A b=some u->K.lookup b=none:=fun b u q=>(vc ar q).1
 have noA:∀{b:Addr}{o:Obj}{es:Array DictEntry}{ep:Nat},s₁.heap.get? b=some o->o.data=.dict es ep->dW K s₁.heap A b=none:=fun{b o es ep}e d=>by
  cases q:dW K s₁.heap A b with
  |none=>rfl
  |some u=>
   obtain⟨_,vs,_,_,⟨e2,_⟩|⟨e2,_⟩⟩:=vc ar q
   ·rw[e2]at e
    cases e
    have d':Data.seq vs.toArray _=Data.dict es ep:=d
    cases d'
   ·rw[e2]at e
    cases e
    have d':Data.seq vs.toArray _=Data.dict es ep:=d
    cases d'
 generalize dW K s₁.heap A=H at hO az hS hK noA
 have base_of:∀{b:Addr}{o:Obj},s₁.heap.get? b=some o->H b=none->(jo s₁.heap H).get? b=some o:=fun e n=>Nf e n
 have nsK:∀{b:Addr}{m:Str->Option Value},s₁.heap.Ns b m->(jo s₁.heap H).Ns b m:=fun{b m}⟨o,es,ep,e,d,r⟩=>⟨o,es,ep,base_of e (noA e d),d,r⟩
 have nK:∀b o,K.lookup b=some o->H b=none:=fun b o e=>by
  cases q:H b with
  |none=>rfl
  |some u=>
   rw[hK b u q]at e
   cases e
 have hKb:K.In (jo s₁.heap H):=fun b o e=>base_of (KX b o e) (nK b o e)
 have hM:Mod K mg (jo s₁.heap H):=⟨hKb,nsK hns,⟨mb,nsK hb,hbb⟩,let⟨mc,h1,h2⟩:=hlim;⟨mc,nsK h1,h2⟩⟩
 have e0:iy P w K mg (jo s₁.heap H) callerA [] s₁ H:=⟨rfl,hM,fun b o e=>JV e,Nat.le_of_eq (Jl _ _),trivial,fun b hb=>absurd (show b∈([]:List Addr)from hb) (by simp),az,.of_eq hg⟩
 have hl:vals.length=ps.length:=by rw[wc hwl];exact hlen
 refine codeAny_mono ((F _ hKb (nsK hns)).run callerA [] s₁ H ⟨vals,[]⟩ vals (vals.map toV) _ _ hr e0 (hbind s₁ vals hl) hV (hsp H _ hO hS)) fun r s' x=>?_
 cases r with
 |error e=>exact(hCX H e s' x).elim
 |ok fl=>
  cases fl with
  |next=>exact False.elim x
  |brk=>exact False.elim x
  |cont=>exact False.elim x
  |ret u=>
   obtain⟨v,H',os,bare,un,hok',r',q⟩:=x
   have kept:∀b o,s₁.heap.get? b=some o->s'.heap.get? b=some o:=fun b o e=>by
    cases q2:H b with
    |none=>exact un.keep b o e q2 (by intro z;exact absurd (show b∈([]:List Addr)from z) (by simp)) (by simp)
    |some u2=>
     rcases hO b with z|⟨ob,u3,z⟩
     ·rw[q2]at z
      cases z
     ·have z2:=un.gx b ob _ z
      obtain⟨e1,_⟩:=az b _ z
      obtain⟨e2,_⟩:=hok' b _ z2
      rw[e]at e1
      cases e1
      exact e2
   have KX':K.In s'.heap:=fun b o e=>kept b o (KX b o e)
   obtain⟨as,hrd⟩:=Dw.reads (R:=R) (cl:=cl) hok' KX' d0 v u q r'
   exact⟨u,as,rfl,hrd,OldK.of_keep kept,os,bare⟩
theorem NV{ds:List WData}(h:WData.layableAll ds=true):∀d∈ds,d.weight<=1048576:=fun d hd=>
 (PySem.W.layableW_iff.mp (List.all_eq_true.mp h d hd)).2.2
theorem Hy:∀(cs:List Codec)(a:Codec.denoteAll cs),(Codec.encAll cs a).length=cs.length
 |[],_=>rfl
 |c::cs,a=>by
  show(Codec.encAll cs a.2).length+1=cs.length+1
  rw[Hy cs a.2]
theorem PK{r:OpenSpec}{k:Nat}{q:Program}{loose:List Str}{XP:(Str->Option Value)->Heap->Prop}{YP:World->Heap->Prop}{d:DefRec}{K:Params->PySem.W.Frag}{CX:World->eC}{ps:List Str}{sp:World->Sp}
  (hwell:r.wellSaid=true) (hdf:d.params.defaults=[]) (hlen:r.args.length=ps.length) (hr:bC k callerA)
  (hY:∀(w:World)(h:Heap),YP w h->(K w.params).In h)
  (F:∀(w:World)(mg:Str->Option Value)(fa:Addr)(h:Heap),YP w h->(K w.params).In h->h.Ns mainGlobals mg->mg d.name=some (.ref fa)->
   ∃fd:FuncData,(∀(s:Shared)(us:List Value),us.length=ps.length->BindsTo s fd ⟨us,[]⟩ (ps.zip us))/\
    ∀base:Heap,(K w.params).In base->base.Ns mainGlobals mg->ax r.prog w (K w.params) mg base (CX w) k fa fd ps (sp w))
  (hsp:∀(w:World)(H:Hp)(xs:List V)(a:Codec.denoteAll r.args),om H->Codec.withinAll r.args a=true->Codec.app r.args r.asked a=true->fz (K w.params) H xs (Codec.encAll r.args a)->
   sp w xs H (fun v H'=>Dw (K w.params) H' v (r.ret.enc (Codec.app r.args r.f a))) fun _ _ _=>False)
  (hCX:∀(w:World)(H:Hp)(s:Shared)(e:Value)(s':Shared),CX w [] H s (fun _ _ _=>False) e s'->False):
  PySem.W.WalkOS q loose XP YP r d [] (fun f vs=>PySem.call f vs):=by
 intro w cn s₁ mg mb G Y fa o pm cd doc dV kV ho hd hcd hD hmg hg args vals as hpre hlay hrd hwl hlo
 obtain⟨a,e1,e2⟩:=PySem.W.os_pre_some hpre
 obtain⟨e3,hwi⟩:=Codec.encAll_of_decAll r.args args a e1
 subst e3
 have KX:=hY w _ Y
 obtain⟨fd,hb,hF⟩:=F w mg fa _ Y KX G.T.g hmg
 refine PySem.W.enter_call (codeAny_mono (Ou (R:=[]) (cl:=classAt cn.heap) (d0:=r.ret.enc (Codec.app r.args r.f a)) KX G.T.g G.T.b G.T.builtins G.T.nolimit hg hwl (EN _ _) (NV hlay) hr hF hb (by rw[Hy];exact hlen)
  (fun H xs hO hS=>hsp w H xs a hO hwi e2 hS) fun H e s'=>hCX w H s₁ e s') fun r' s' hq=>?_)
 obtain⟨u,as',rfl,h1,h2,h3,h4⟩:=hq
 exact⟨.inl ⟨u,_,as',rfl,fun _=>rfl,h1,(OpenSpec.post_iff hwell hwi _ _).mpr rfl,fun z=>Bool.noConfusion (show false=true from z)⟩,h2,h3,h4⟩
theorem L9{r:OpenSpec}{k:Nat}{q:Program}{loose:List Str}{XP:(Str->Option Value)->Heap->Prop}{YP:World->Heap->Prop}{d:DefRec}{K:Params->PySem.W.Frag}{CX:eC}{ps:List Str}{sp:PySem.W.Frag->Sp}
  (hwell:r.wellSaid=true) (hdf:d.params.defaults=[]) (hlen:r.args.length=ps.length) (hr:bC k callerA)
  (hY:∀(w:World)(h:Heap),YP w h->(K w.params).In h)
  (F:∀(w:World)(mg:Str->Option Value)(fa:Addr)(h:Heap),YP w h->(K w.params).In h->h.Ns mainGlobals mg->mg d.name=some (.ref fa)->
   ∃fd:FuncData,(∀(s:Shared)(us:List Value),us.length=ps.length->BindsTo s fd ⟨us,[]⟩ (ps.zip us))/\
    ∀base:Heap,(K w.params).In base->base.Ns mainGlobals mg->ax r.prog w (K w.params) mg base CX k fa fd ps (sp (K w.params)))
  (hsp:∀(K:PySem.W.Frag)(H:Hp)(xs:List V)(a:Codec.denoteAll r.args),om H->Codec.withinAll r.args a=true->Codec.app r.args r.asked a=true->fz K H xs (Codec.encAll r.args a)->
   sp K xs H (fun v H'=>Dw K H' v (r.ret.enc (Codec.app r.args r.f a))) fun _ _ _=>False)
  (hCX:∀(H:Hp)(s:Shared)(e:Value)(s':Shared),CX [] H s (fun _ _ _=>False) e s'->False):
  PySem.W.WalkOS q loose XP YP r d [] (fun f vs=>PySem.call f vs):=
 PK (K:=K) (CX:=fun _=>CX) (sp:=fun w=>sp (K w.params)) hwell hdf hlen hr hY F (fun w H xs a h1 h2 h3 h4=>hsp (K w.params) H xs a h1 h2 h3 h4) fun _ H s e s'=>hCX H s e s'
end L2
end
section
set_option Elab.async false
set_option linter.all false
set_option maxRecDepth 100000
set_option maxHeartbeats 2000000
namespace Wale
open PySem PySem.Spec PyProof.Rows L2
def top(i:Nat):Stmt:=PySem.Challenge.pw_waletexts_s03_same.main.body.getD i (.Pass ⟨0,0,0,0⟩)
abbrev zI:Stmt:=top 7
abbrev zj:Stmt:=top 8
abbrev xm:Stmt:=top 10
abbrev xQ:Stmt:=top 11
abbrev yK:Stmt:=top 12
abbrev xw:Stmt:=top 13
abbrev Bn:Stmt:=top 14
abbrev xC:Stmt:=top 15
abbrev BH:Stmt:=top 16
abbrev zF:Stmt:=top 17
abbrev Bv:Stmt:=top 18
abbrev yl:Stmt:=top 19
abbrev Bu:Stmt:=top 63
abbrev wQ:Stmt:=top 64
abbrev Ba:Stmt:=top 65
abbrev Ao:Stmt:=top 66
abbrev zg:Stmt:=top 67
abbrev Ag:Stmt:=top 68
abbrev uS:Stmt:=top 69
abbrev y8:Stmt:=top 70
abbrev xG:Stmt:=top 71
abbrev Br:Stmt:=top 72
abbrev xB:Stmt:=top 73
abbrev xJ:Stmt:=top 75
abbrev xZ:Stmt:=top 76
abbrev yM:Stmt:=top 77
abbrev yL:Stmt:=top 78
abbrev ye:Stmt:=top 84
abbrev Az:Stmt:=top 85
abbrev zC:Stmt:=top 86
abbrev BI:Stmt:=top 87
abbrev xj:Stmt:=top 88
abbrev yT:Stmt:=top 89
abbrev yX:Stmt:=top 90
abbrev Bt:Stmt:=top 91
abbrev AY:Stmt:=top 92
abbrev wR:Stmt:=top 93
abbrev wN:Stmt:=top 94
abbrev wL:Stmt:=top 95
abbrev xS:Stmt:=top 96
abbrev yB:Stmt:=top 97
abbrev xi:Stmt:=top 98
abbrev A9:Stmt:=top 99
abbrev Aj:Stmt:=top 100
abbrev xn:Stmt:=top 101
abbrev x4:Stmt:=top 102
abbrev BJ:Stmt:=top 103
abbrev Bf:Stmt:=top 104
abbrev Ai:Stmt:=top 105
abbrev s_same:Stmt:=top 111
abbrev yW:Stmt:=top 112
abbrev BD:Stmt:=top 113
abbrev AN:Stmt:=inClass (top 3) 0
abbrev yC:Stmt:=inClass (top 4) 0
abbrev BC:Stmt:=inClass (top 5) 0
abbrev yh:Stmt:=inClass (top 6) 0
abbrev AX:Stmt:=inClass (top 21) 0
abbrev Bz:Stmt:=inClass (top 22) 0
abbrev zw:Stmt:=inClass (top 23) 0
abbrev zA:Stmt:=inClass (top 24) 0
abbrev yw:Stmt:=inClass (top 25) 0
abbrev xf:Stmt:=inClass (top 26) 0
abbrev zi:Stmt:=inClass (top 27) 0
abbrev zP:Stmt:=inClass (top 28) 0
abbrev zR:Stmt:=inClass (top 38) 0
abbrev zZ:Stmt:=inClass (top 38) 1
abbrev A7:Stmt:=inClass (top 38) 2
abbrev yk:Stmt:=inClass (top 38) 3
abbrev Bm:Stmt:=inClass (top 38) 4
abbrev xq:Stmt:=inClass (top 38) 5
abbrev AU:Stmt:=inClass (top 38) 6
abbrev yc:Stmt:=inClass (top 62) 0
abbrev AW:Stmt:=inClass (top 108) 0
abbrev zK:Stmt:=inClass (top 108) 1
abbrev Ac:Stmt:=inClass (top 108) 2
abbrev yp:Stmt:=inClass (top 108) 3
abbrev AI:Stmt:=inClass (top 108) 4
abbrev ym:Stmt:=inClass (top 108) 5
abbrev zQ:Stmt:=inClass (top 108) 6
abbrev yx:Stmt:=inClass (top 108) 7
abbrev yO:Stmt:=inClass (top 108) 8
abbrev Av:Stmt:=inClass (top 108) 9
abbrev yH:Stmt:=inClass (top 108) 10
structure a6(K:PySem.W.Frag)(mg:Str->Option Value)(x:Str)(st:Stmt)(ps:List Str)(f:Addr)(fd:FuncData):Prop where
 fn:aG K x x st f fd
 bd:Binds K fd ps []
 at_:mg x=some (.ref f)
structure eM(K:PySem.W.Frag)(C:Addr)(x qual:Str)(st:Stmt)(ps:List Str)(f:Addr)(fd:FuncData):Prop where
 fn:aG K x qual st f fd
 bd:Binds K fd ps []
 mt:wq K C x f
structure iw(K:PySem.W.Frag)(mg:Str->Option Value)(x:Str)(C F f:Addr):Prop where
 at_:mg x=some (.ref C)
 xc:g4 K C f
 xg:rR K C
 sub:PySem.W.mroIn K C (.ref F)=some true
 nk:bw K C "kind"
 np:bw K C "place"
structure OwnCls(K:PySem.W.Frag)(mg:Str->Option Value)(x:Str)(C f:Addr):Prop where
 at_:mg x=some (.ref C)
 cl:eL K C
 eS:Mk K C f
def iY(K:PySem.W.Frag)(mg:Str->Option Value)(x:Str)(l:List Str)(d:Addr):Prop:=mg x=some (.ref d)/\∀H:Hp,dZ K H d (l.map V.str)
def dR(mg:Str->Option Value)(x:Str)(n:Int):Prop:=∃t,mg x=some (.int n t)
def eZ(mg:Str->Option Value)(x:Str)(n:Str):Prop:=∃t,mg x=some (.str n t)
structure mf(P:Program)(w:World)(K:PySem.W.Frag)(a:Addr)(kvs:List (Key×V)):Prop where
 ok:∀h:Heap,K.In h->∃vs,KV kvs vs/\h.DictOf (eT P w) a vs
 ns:(a==sysModules)=false
structure jW(K:PySem.W.Frag)(C:Addr):Prop where
 ha:PySem.W.findIn K (.ref C) "__class__"=some (some (.builtin "object.__class__"))
 hm:PySem.W.mroIn K C (.type "object")=some true
set_option genInjectivity false
set_option genSizeOf false
structure Ad where
 rQ:Addr
 sX:FuncData
 si:Addr
 qi:FuncData
 oA:Addr
 pG:FuncData
 i4:Addr
 kY:FuncData
 oY:Addr
 nG:FuncData
 jP:Addr
 nP:FuncData
 jb:Addr
 kC:FuncData
 nD:Addr
 ou:FuncData
 jS:Addr
 kr:FuncData
 px:Addr
 nc:FuncData
 kW:Addr
 sG:FuncData
 rL:Addr
 rK:FuncData
 rq:Addr
 qR:FuncData
 r0:Addr
 sM:FuncData
 qN:Addr
 rZ:FuncData
 su:Addr
 rC:FuncData
 pX:Addr
 tf:FuncData
 sZ:Addr
 rT:FuncData
 qb:Addr
 qJ:FuncData
 q5:Addr
 rD:FuncData
 pO:Addr
 sf:FuncData
 r9:Addr
 sQ:FuncData
 qc:Addr
 sE:FuncData
 sA:Addr
 qj:FuncData
 lL:Addr
 lj:FuncData
 oE:Addr
 oi:FuncData
 o4:Addr
 o7:FuncData
 sP:Addr
 tF:FuncData
 pK:Addr
 p8:FuncData
 sU:Addr
 qQ:FuncData
 pP:Addr
 qA:FuncData
 qr:Addr
 qk:FuncData
 tK:Addr
 tj:FuncData
 rW:Addr
 sJ:FuncData
 rX:Addr
 rE:FuncData
 pJ:Addr
 rb:FuncData
 nT:Addr
 oG:FuncData
 kL:Addr
 l9:FuncData
 oV:Addr
 oM:FuncData
 sk:Addr
 tD:FuncData
 sW:Addr
 pY:FuncData
 rS:Addr
 tu:FuncData
 lI:Addr
 lK:FuncData
 nj:Addr
 m8:FuncData
 qa:Addr
 rg:FuncData
 mT:Addr
 nU:FuncData
 pT:Addr
 rA:FuncData
 rO:Addr
 pR:FuncData
 pM:Addr
 tH:FuncData
 lX:Addr
 nM:FuncData
 rB:Addr
 qh:FuncData
 qB:Addr
 qI:FuncData
 lN:Addr
 oN:FuncData
 kK:Addr
 mF:FuncData
 lx:Addr
 nO:FuncData
 lz:Addr
 nW:FuncData
 lU:Addr
 o5:FuncData
 kD:Addr
 o6:FuncData
 ly:Addr
 mW:FuncData
 lV:Addr
 mZ:FuncData
 kZ:Addr
 m4:FuncData
 kP:Addr
 oj:FuncData
 lQ:Addr
 pb:FuncData
 kU:Addr
 nH:FuncData
 mv:Addr
 pf:FuncData
 pE:Addr
 mX:FuncData
 pN:Addr
 tJ:FuncData
 sI:Addr
 qV:FuncData
 oO:Addr
 mI:FuncData
 so:Addr
 qZ:FuncData
 rV:Addr
 qu:FuncData
 lg:Addr
 oh:FuncData
 kM:Addr
 n0:FuncData
 pF:Addr
 nE:FuncData
 mK:Addr
 oo:FuncData
 pj:Addr
 pC:FuncData
 nV:Addr
 m5:FuncData
 oB:Addr
 oQ:FuncData
 oP:Addr
 pd:FuncData
 oX:Addr
 pI:FuncData
 mS:Addr
 pD:FuncData
 m3:Addr
 mV:FuncData
 oK:Addr
 mD:FuncData
 dP:Addr
 cy:Addr
 cA:Addr
 cu:Addr
 de:Addr
 sV:Addr
 kS:Addr
 sF:Addr
 oW:Addr
 nJ:Addr
 mG:Addr
 sN:Addr
 ck:Addr
 bQ:Addr
 bh:Addr
 kj:Addr
 o3:Addr
 oa:Addr
 oS:Addr
 j6:Addr
 uG:Addr
 uV:Addr
 t9:Addr
structure Tx(P:Program)(w:World)(K:PySem.W.Frag)(mg:Str->Option Value)(a:Ad):Prop where
 zh:a6 K mg "chained" zI ["level","left","sign","right"] a.rQ a.sX
 Cq:a6 K mg "has_level" zj ["node","level"] a.si a.qi
 xH:a6 K mg "same_stats" xm ["stats","others"] a.oA a.pG
 vE:a6 K mg "same_stat" xQ ["stat","other"] a.i4 a.kY
 HC:a6 K mg "same_body" yK ["body","other"] a.oY a.nG
 r6:a6 K mg "same_phrase" xw ["phrase","other"] a.jP a.nP
 uP:a6 K mg "same_part" Bn ["part","other"] a.jb a.kC
 xh:a6 K mg "same_listed" xC ["listed","other"] a.nD a.ou
 vX:a6 K mg "same_sum" BH ["node","other"] a.jS a.kr
 Hd:a6 K mg "same_chain" zF ["chain","other"] a.px a.nc
 ur:a6 K mg "same_pair" Bv ["pair","other"] a.kW a.sG
 qd:a6 K mg "all_same" yl ["ones","others","same_one"] a.rL a.rK
 GV:a6 K mg "token_at" Bu ["t","start"] a.rq a.qR
 B2:a6 K mg "skip_blanks" wQ ["t","start"] a.r0 a.sM
 CZ:a6 K mg "skip_comment" Ba ["t","start"] a.qN a.rZ
 CM:a6 K mg "word_token" Ao ["t","place"] a.su a.rC
 Ed:a6 K mg "digit_word_at" zg ["t","place"] a.pX a.tf
 Ck:a6 K mg "number_token" Ag ["t","place"] a.sZ a.rT
 spelled:a6 K mg "spelled" uS ["codes"] a.qb a.qJ
 sign_of:a6 K mg "sign_of" y8 ["byte"] a.q5 a.rD
 qE:a6 K mg "is_letter" xG ["byte"] a.pO a.sf
 qL:a6 K mg "is_digit" Br ["byte"] a.r9 a.sQ
 E8:a6 K mg "is_letter_digit_or_underscore" xB ["byte"] a.qc a.sE
 yZ:a6 K mg "begins_sum" xJ ["token"] a.sA a.qj
 jz:a6 K mg "read_sum" xZ ["reader"] a.lL a.lj
 xU:a6 K mg "read_product" yM ["reader"] a.oE a.oi
 xY:a6 K mg "read_factor" yL ["reader"] a.o4 a.o7
 GI:a6 K mg "read_pattern" ye ["reader"] a.sP a.tF
 Cb:a6 K mg "read_head" Az ["reader"] a.pK a.p8
 Ez:a6 K mg "read_sizes" zC ["reader","token"] a.sU a.qQ
 CK:a6 K mg "read_yarns" BI ["reader","token"] a.pP a.qA
 zX:a6 K mg "read_new_names" xj ["reader","kind"] a.qr a.qk
 y3:a6 K mg "read_new_name" yT ["reader","kind"] a.tK a.tj
 HF:a6 K mg "read_let" yX ["reader"] a.rW a.sJ
 Dm:a6 K mg "read_word" Bt ["reader"] a.rX a.rE
 Cu:a6 K mg "read_block" AY ["reader"] a.pJ a.rb
 yn:a6 K mg "read_braces" wR ["reader"] a.nT a.oG
 xp:a6 K mg "read_stats" wN ["reader"] a.kL a.l9
 Ef:a6 K mg "read_stat" wL ["reader"] a.oV a.oM
 Er:a6 K mg "read_on" xS ["reader"] a.sk a.tD
 FF:a6 K mg "read_row" yB ["reader"] a.sW a.pY
 FE:a6 K mg "read_work" xi ["reader"] a.rS a.tu
 uL:a6 K mg "read_row_items" A9 ["reader"] a.lI a.lK
 yb:a6 K mg "read_row_item" Aj ["reader"] a.nj a.m8
 Cz:a6 K mg "read_goal" xn ["reader"] a.qa a.rg
 DB:a6 K mg "read_unit" x4 ["reader"] a.mT a.nU
 C1:a6 K mg "read_crossing" BJ ["reader"] a.pT a.rA
 zy:a6 K mg "read_crossing_number" Bf ["reader"] a.rO a.pR
 EW:a6 K mg "read_lone" Ai ["reader"] a.pM a.tH
 same:a6 K mg "same" s_same ["t","u"] a.lX a.nM
 yY:a6 K mg "read_text" yW ["t"] a.rB a.qh
 refusal:a6 K mg "refusal" BD ["fault"] a.qB a.qI
 je:aG K "__init__" "Stat.__init__" AN a.lN a.oN/\Binds K a.oN ["self","phrase","body"] []
 wa:aG K "__init__" "Listed.__init__" yC a.kK a.mF/\Binds K a.mF ["self","phrases"] []
 Hv:aG K "__init__" "Bracketed.__init__" BC a.lx a.nO/\Binds K a.nO ["self","listed"] []
 Cy:aG K "__init__" "Chain.__init__" yh a.lz a.nW/\Binds K a.nW ["self","level","first"] []
 j7:aG K "__init__" "Fault.__init__" AX a.lU a.o5/\Binds K a.o5 ["self","kind","place"] []
 zV:aG K "__init__" "ByteFault.__init__" Bz a.kD a.o6/\Binds K a.o6 ["self","place"] []
 Cd:aG K "__init__" "NumberFault.__init__" zw a.ly a.mW/\Binds K a.mW ["self","place"] []
 yt:aG K "__init__" "WantFault.__init__" zA a.lV a.mZ/\Binds K a.mZ ["self","place"] []
 BP:aG K "__init__" "UntoldFault.__init__" yw a.kZ a.m4/\Binds K a.m4 ["self","place"] []
 vq:aG K "__init__" "AgainFault.__init__" xf a.kP a.oj/\Binds K a.oj ["self","place"] []
 ra:aG K "__init__" "BoundFault.__init__" zi a.lQ a.pb/\Binds K a.pb ["self","place"] []
 DK:aG K "__init__" "SumsFault.__init__" zP a.kU a.nH/\Binds K a.nH ["self","place"] []
 Gm:aG K "__init__" "Names.__init__" zR a.mv a.pf/\Binds K a.pf ["self"] []
 fi:eM K a.ck "amount" "Names.amount" zZ ["self","kind"] a.pE a.mX
 AO:eM K a.ck "check_new" "Names.check_new" A7 ["self","token","kind"] a.pN a.tJ
 qz:eM K a.ck "check_room" "Names.check_room" yk ["self","token","kind"] a.sI a.qV
 jx:eM K a.ck "tell" "Names.tell" Bm ["self","token","kind"] a.oO a.mI
 AQ:eM K a.ck "check_told" "Names.check_told" xq ["self","token","kind"] a.so a.qZ
 zt:eM K a.ck "stand" "Names.stand" AU ["self","token","kind"] a.rV a.qu
 Dz:aG K "__init__" "Token.__init__" yc a.lg a.oh/\Binds K a.oh ["self","kind","text","number","place","after"] []
 DV:aG K "__init__" "Reader.__init__" AW a.kM a.n0/\Binds K a.n0 ["self","t"] []
 cj:eM K a.bh "peek" "Reader.peek" zK ["self"] a.pF a.nE
 cW:eM K a.bh "step" "Reader.step" Ac ["self"] a.mK a.oo
 eB:eM K a.bh "skip" "Reader.skip" yp ["self","text"] a.pj a.pC
 cX:eM K a.bh "want" "Reader.want" AI ["self","text"] a.nV a.m5
 f7:eM K a.bh "want_kind" "Reader.want_kind" ym ["self","kind"] a.oB a.oQ
 lY:eM K a.bh "enter" "Reader.enter" zQ ["self","text"] a.oP a.pd
 lB:eM K a.bh "leave" "Reader.leave" yx ["self","text"] a.oX a.pI
 ji:eM K a.bh "want_new_name" "Reader.want_new_name" yO ["self","kind"] a.mS a.pD
 jk:eM K a.bh "want_told_name" "Reader.want_told_name" Av ["self","kind"] a.m3 a.mV
 iW:eM K a.bh "want_standing_name" "Reader.want_standing_name" yH ["self","kind"] a.oK a.mD
 eQ:mg "Fault"=some (.ref a.de)/\zW K a.de "__init__" a.lU/\eN K a.de=true
 qx:iw K mg "ByteFault" a.sV a.de a.kD
 yE:iw K mg "NumberFault" a.kS a.de a.ly
 vR:iw K mg "WantFault" a.sF a.de a.lV
 Gj:iw K mg "UntoldFault" a.oW a.de a.kZ
 mE:iw K mg "AgainFault" a.nJ a.de a.kP
 jY:iw K mg "BoundFault" a.mG a.de a.lQ
 GA:iw K mg "SumsFault" a.sN a.de a.kU
 dY:OwnCls K mg "Stat" a.dP a.lN
 A0:bw K a.dP "phrase"
 yS:bw K a.dP "body"
 fg:OwnCls K mg "Listed" a.cy a.kK
 xa:bw K a.cy "phrases"
 gH:OwnCls K mg "Bracketed" a.cA a.lx
 wZ:bw K a.cA "listed"
 fo:OwnCls K mg "Chain" a.cu a.lz
 Ds:bw K a.cu "level"
 zB:bw K a.cu "first"
 qD:bw K a.cu "pairs"
 cJ:OwnCls K mg "Names" a.ck a.mv
 tY:bw K a.ck "told"
 Ap:bw K a.ck "standing"
 ux:bw K a.ck "amounts"
 bx:OwnCls K mg "Token" a.bQ a.lg
 kE:bw K a.bQ "kind"
 cf:bw K a.bQ "text"
 qt:bw K a.bQ "number"
 ig:bw K a.bQ "place"
 BQ:bw K a.bQ "after"
 bL:OwnCls K mg "Reader" a.bh a.kM
 CY:bw K a.bh "source"
 oy:bw K a.bh "ahead"
 xN:bw K a.bh "after"
 uo:bw K a.bh "depth"
 fP:bw K a.bh "names"
 Mh:dR mg "SUM_LEVEL" 1
 Pa:dR mg "PRODUCT_LEVEL" 2
 AZ:eZ mg "SIZES" "sizes"
 zS:eZ mg "YARNS" "yarns"
 uN:eZ mg "NUMBERS" "numbers"
 xT:eZ mg "WORDS" "words"
 xM:eZ mg "BLOCKS" "blocks"
 EH:eZ mg "MARKERS" "markers"
 Fm:eZ mg "HOLDERS" "holders"
 Qm:mg "BOUNDS"=some (.ref a.kj)/\mf P w K a.kj [(.inr "sizes",.int 16),(.inr "yarns",.int 16),(.inr "numbers",.int 256),(.inr "words",.int 64),(.inr "blocks",.int 64),(.inr "markers",.int 64),(.inr "holders",.int 16)]
 Fu:eZ mg "END" "end"
 ke:eZ mg "NAME" "name"
 uA:eZ mg "NUMBER" "number"
 xX:eZ mg "FIXED" "fixed"
 OW:iY K mg "DIGIT_WORDS" ["k2tog","k3tog","p2tog","m1l","m1r"] a.o3
 PL:dR mg "LONGEST_DIGIT_WORD" 5
 G2:iY K mg "PLAIN" ["k","p","ktbl","ptbl","yo","k2tog","k3tog","ssk","sssk","p2tog","ssp","cdd","kfb","pfb","kp","m1l","m1r","sl","slf","pso","even","co","bo"] a.oa
 MO:iY K mg "OTHER_WORDS" ["pattern","sizes","yarns","let","word","block","on","round","row","rs","ws","repeat","until","work","off","to","end","last","mark","cl","cr","hold","take","yarn","pass","clear","turn","fasten"] a.oS
 Dl:mg "SIGNS"=some (.ref a.j6)/\mf P w K a.j6 [(.inl 40,.str "("),(.inl 41,.str ")"),(.inl 42,.str "*"),(.inl 43,.str "+"),(.inl 44,.str ","),(.inl 45,.str "-"),(.inl 47,.str "/"),(.inl 59,.str ";"),(.inl 61,.str "="),(.inl 91,.str "["),(.inl 93,.str "]"),(.inl 123,.str "{"),(.inl 125,.str "}")]
 Ml:eZ mg "LETTERS" "abcdefghijklmnopqrstuvwxyz"
 Jk:eZ mg "DIGITS" "0123456789"
 FG:dR mg "LINE_END" 10
 Nz:dR mg "BLANK" 32
 MB:dR mg "HASH" 35
 vY:dR mg "ZERO" 48
 Qr:dR mg "NINE" 57
 GZ:dR mg "UNDERSCORE" 95
 GQ:dR mg "LOWER_A" 97
 J1:dR mg "LOWER_Z" 122
 O0:dR mg "FIRST_BYTE" 32
 Mw:dR mg "LAST_BYTE" 126
 G4:dR mg "LARGEST_NUMBER" 1048576
 QA:iY K mg "HEADS" ["sizes","yarns","let","word","block"] a.uG
 HY:iY K mg "STATS" ["on","row","repeat","until","work","off"] a.uV
 JO:iY K mg "LONES" ["take","yarn","mark","pass","clear","turn","fasten"] a.t9
 LI:dR mg "LARGEST_CROSSING" 16
 OR:dR mg "DEEPEST" 8
 DU:dR mg "LONGEST_TEXT" 16384
 Pc:PySem.W.specialIn K (.builtin "object.__class__") "__get__"=some (some (.builtin "getset_descriptor.__get__"))
 P7:PySem.W.takesIn K (.builtin "object.__class__")=some true
 qg:jW K a.cA
 Of:PySem.W.kitOne K (.type "str") (.ref a.cA)=some false
 B5:PySem.W.kitOne K (.ref a.cA) (.ref a.cA)=some true
 OD:PySem.W.kitOne K (.ref a.cA) (.ref a.cu)=some false
 Fy:PySem.W.kitOne K (.ref a.cA) (.ref a.cy)=some false
 Pu:jc K a.cA
 ub:jW K a.cu
 zc:PySem.W.kitOne K (.type "str") (.ref a.cu)=some false
 OM:PySem.W.kitOne K (.ref a.cu) (.ref a.cA)=some false
 x5:PySem.W.kitOne K (.ref a.cu) (.ref a.cu)=some true
 J5:PySem.W.kitOne K (.ref a.cu) (.ref a.cy)=some false
 QH:jc K a.cu
 uv:jW K a.cy
 MR:PySem.W.kitOne K (.type "str") (.ref a.cy)=some false
 Kb:PySem.W.kitOne K (.ref a.cy) (.ref a.cA)=some false
 P1:PySem.W.kitOne K (.ref a.cy) (.ref a.cu)=some false
 Cj:PySem.W.kitOne K (.ref a.cy) (.ref a.cy)=some true
 NY:jc K a.cy
 gL:mg "len"=none
 MT:mg "min"=none
 lG:mg "isinstance"=none
 Oe:mg "str"=none
 OI:mg "zip"=none
end Wale
end
section
set_option Elab.async false
set_option linter.all false
set_option maxRecDepth 100000
set_option maxHeartbeats 2000000
namespace Wale
open PySem PySem.Spec PyProof.Rows L2
section
variable {X:Cx}{x:Str}{pos p:Pos}
theorem cT{n:Int}(h:dR X.mg x n)(hg:Gl X x:=by rfl)(hd:(x==("__debug__":Str))=false:=by decide):PE X (.Name x pos) (tC (.int n)):=by
 obtain⟨t,e⟩:=h
 exact js hg e ⟨t,rfl⟩ hd
theorem bH{n:Str}(h:eZ X.mg x n)(hg:Gl X x:=by rfl)(hd:(x==("__debug__":Str))=false:=by decide):PE X (.Name x pos) (tC (.str n)):=by
 obtain⟨t,e⟩:=h
 exact js hg e ⟨t,rfl⟩ hd
theorem aN{CX:eC}{k:Nat}{st:Stmt}{ps:List Str}{f:Addr}{fd:FuncData}{sp:Sp}{E:XK}{e:Expr}{es:List Expr}{t:TA}(D:a6 X.K X.mg x st ps f fd)(G:ax X.prog X.w X.K X.mg X.base CX k f fd ps sp)(hr:bC k X.A)(hx:Passes CX X E)(ha:PA X (e::es) t)
  (hg:Gl X x:=by rfl) (hdb:(x==("__debug__":Str))=false:=by decide) (he:starEach (e::es) X.env=(false,eval e X.env)::starEach es X.env:=by rfl) (hpl:(backTo pos (starEach es X.env)).any (·.1)=false:=by rfl):
  PE X (.Call (.Name x p) (e::es) [] pos) (qG sp [] E t):=Lp G hr hg D.at_ D.fn.kp D.bd .nil hx ha hdb he hpl
end
variable {P:Program}{w:World}{K:PySem.W.Frag}{mg:Str->Option Value}{base:Heap}{a:Ad}
def L5(K:PySem.W.Frag)(a:Ad)(C:Addr):Prop:=eN K C=true/\rR K C/\PySem.W.mroIn K C (.ref a.de)=some true/\bw K C "kind"/\bw K C "place"
def Told(K:PySem.W.Frag)(a:Ad)(E:XK)(k n:Int):Prop:=∀(C d:Addr)(H':Hp),L5 K a C->H' d=some (dF d [("kind",.int k),("place",.int n)])->E (.ref C) (some d) H'
def QR(K:PySem.W.Frag):Sp:=fun vs H Q _=>∃(lo:Nat)(x C fI:Addr)(k n:Int),vs=[.ref x,.int k,.int n]/\H x=some (c6 lo x C none)/\g4 K C fI/\bw K C "kind"/\bw K C "place"/\
 ∀(H':Hp)(d:Addr),H' x=some (c6 lo x C (some d))->H' d=some (dF d [("kind",.int k),("place",.int n)])->d≠x->Q .ay H'
def ju(K:PySem.W.Frag)(C:Addr)(k:Int):Sp:=fun vs H Q _=>∃(lo:Nat)(x fI:Addr)(n:Int),vs=[.ref x,.int n]/\H x=some (c6 lo x C none)/\g4 K C fI/\bw K C "kind"/\bw K C "place"/\
 ∀(H':Hp)(d:Addr),H' x=some (c6 lo x C (some d))->H' d=some (dF d [("kind",.int k),("place",.int n)])->d≠x->Q .ay H'
theorem Q3:aI ["self","kind","place"] ["self","kind","place"] (aC AX):=⟨rfl,rfl,rfl,by decide +kernel,rfl,by decide +kernel,by decide +kernel⟩
theorem lH(T:Tx P w K mg a):ax P w K mg base aV 1 a.lU a.o5 ["self","kind","place"] (QR K):=by
 refine T.j7.1.ok Q3 (fun vs H Q E h=>?_) (fun cdv A outer s H vs Q E hr h=>?_)
 ·obtain⟨_,_,_,_,_,_,rfl,_⟩:=h;rfl
 obtain⟨lo,x,C,fI,k,n,rfl,hx,xc,nk,np,q⟩:=h
 refine⟨_,aj (OG (pv 0) (pv 1) rfl) (ak (Q8 (pv 0) (pv 2) rfl)),?_⟩
 refine(eX _ rfl (eX _ rfl ⟨lo,x,C,fI,rfl,hx,xc,nk,fun d hd hne=>?_⟩))
 refine(eX _ rfl (eX _ rfl ⟨lo,x,C,fI,d,eX _ rfl ⟨aB,(by rw[ao hne];exact aB),hne,xc,np,(by show 1<1000;decide),?_⟩⟩))
 exact q _ d (by rw[ao (Ne.symm hne)];exact aB) aB hne
theorem IY:aI ["self","place"] ["self","place"] (aC Bz):=⟨rfl,rfl,rfl,by decide +kernel,rfl,by decide +kernel,by decide +kernel⟩
theorem FD(T:Tx P w K mg a):ax P w K mg base aV 2 a.kD a.o6 ["self","place"] (ju K a.sV 1):=by
 refine T.zV.1.ok IY (fun vs H Q E h=>?_) (fun cdv A outer s H vs Q E hr h=>?_)
 ·obtain⟨_,_,_,_,rfl,_⟩:=h;rfl
 obtain⟨lo,x,fI,n,rfl,hx,xc,nk,np,q⟩:=h
 refine⟨_,ak (a9 (kG rfl T.eQ.1 T.eQ.2.1 (lH T) hr T.j7.2 .nil aU (aa (pv 0) (aa bF (aa (pv 1) ag))))),?_⟩
 exact(eX _ rfl (eX _ rfl ⟨lo,x,_,fI,1,n,rfl,hx,xc,nk,np,fun H' d h1 h2 h3=>q H' d h1 h2 h3⟩))
theorem Oy:aI ["self","place"] ["self","place"] (aC zw):=⟨rfl,rfl,rfl,by decide +kernel,rfl,by decide +kernel,by decide +kernel⟩
theorem LJ(T:Tx P w K mg a):ax P w K mg base aV 2 a.ly a.mW ["self","place"] (ju K a.kS 2):=by
 refine T.Cd.1.ok Oy (fun vs H Q E h=>?_) (fun cdv A outer s H vs Q E hr h=>?_)
 ·obtain⟨_,_,_,_,rfl,_⟩:=h;rfl
 obtain⟨lo,x,fI,n,rfl,hx,xc,nk,np,q⟩:=h
 refine⟨_,ak (a9 (kG rfl T.eQ.1 T.eQ.2.1 (lH T) hr T.j7.2 .nil aU (aa (pv 0) (aa bF (aa (pv 1) ag))))),?_⟩
 exact(eX _ rfl (eX _ rfl ⟨lo,x,_,fI,2,n,rfl,hx,xc,nk,np,fun H' d h1 h2 h3=>q H' d h1 h2 h3⟩))
theorem Ln:aI ["self","place"] ["self","place"] (aC zA):=⟨rfl,rfl,rfl,by decide +kernel,rfl,by decide +kernel,by decide +kernel⟩
theorem Fx(T:Tx P w K mg a):ax P w K mg base aV 2 a.lV a.mZ ["self","place"] (ju K a.sF 3):=by
 refine T.yt.1.ok Ln (fun vs H Q E h=>?_) (fun cdv A outer s H vs Q E hr h=>?_)
 ·obtain⟨_,_,_,_,rfl,_⟩:=h;rfl
 obtain⟨lo,x,fI,n,rfl,hx,xc,nk,np,q⟩:=h
 refine⟨_,ak (a9 (kG rfl T.eQ.1 T.eQ.2.1 (lH T) hr T.j7.2 .nil aU (aa (pv 0) (aa bF (aa (pv 1) ag))))),?_⟩
 exact(eX _ rfl (eX _ rfl ⟨lo,x,_,fI,3,n,rfl,hx,xc,nk,np,fun H' d h1 h2 h3=>q H' d h1 h2 h3⟩))
theorem KD:aI ["self","place"] ["self","place"] (aC yw):=⟨rfl,rfl,rfl,by decide +kernel,rfl,by decide +kernel,by decide +kernel⟩
theorem Jd(T:Tx P w K mg a):ax P w K mg base aV 2 a.kZ a.m4 ["self","place"] (ju K a.oW 4):=by
 refine T.BP.1.ok KD (fun vs H Q E h=>?_) (fun cdv A outer s H vs Q E hr h=>?_)
 ·obtain⟨_,_,_,_,rfl,_⟩:=h;rfl
 obtain⟨lo,x,fI,n,rfl,hx,xc,nk,np,q⟩:=h
 refine⟨_,ak (a9 (kG rfl T.eQ.1 T.eQ.2.1 (lH T) hr T.j7.2 .nil aU (aa (pv 0) (aa bF (aa (pv 1) ag))))),?_⟩
 exact(eX _ rfl (eX _ rfl ⟨lo,x,_,fI,4,n,rfl,hx,xc,nk,np,fun H' d h1 h2 h3=>q H' d h1 h2 h3⟩))
theorem Kt:aI ["self","place"] ["self","place"] (aC xf):=⟨rfl,rfl,rfl,by decide +kernel,rfl,by decide +kernel,by decide +kernel⟩
theorem ya(T:Tx P w K mg a):ax P w K mg base aV 2 a.kP a.oj ["self","place"] (ju K a.nJ 5):=by
 refine T.vq.1.ok Kt (fun vs H Q E h=>?_) (fun cdv A outer s H vs Q E hr h=>?_)
 ·obtain⟨_,_,_,_,rfl,_⟩:=h;rfl
 obtain⟨lo,x,fI,n,rfl,hx,xc,nk,np,q⟩:=h
 refine⟨_,ak (a9 (kG rfl T.eQ.1 T.eQ.2.1 (lH T) hr T.j7.2 .nil aU (aa (pv 0) (aa bF (aa (pv 1) ag))))),?_⟩
 exact(eX _ rfl (eX _ rfl ⟨lo,x,_,fI,5,n,rfl,hx,xc,nk,np,fun H' d h1 h2 h3=>q H' d h1 h2 h3⟩))
theorem Ld:aI ["self","place"] ["self","place"] (aC zi):=⟨rfl,rfl,rfl,by decide +kernel,rfl,by decide +kernel,by decide +kernel⟩
theorem v9(T:Tx P w K mg a):ax P w K mg base aV 2 a.lQ a.pb ["self","place"] (ju K a.mG 6):=by
 refine T.ra.1.ok Ld (fun vs H Q E h=>?_) (fun cdv A outer s H vs Q E hr h=>?_)
 ·obtain⟨_,_,_,_,rfl,_⟩:=h;rfl
 obtain⟨lo,x,fI,n,rfl,hx,xc,nk,np,q⟩:=h
 refine⟨_,ak (a9 (kG rfl T.eQ.1 T.eQ.2.1 (lH T) hr T.j7.2 .nil aU (aa (pv 0) (aa bF (aa (pv 1) ag))))),?_⟩
 exact(eX _ rfl (eX _ rfl ⟨lo,x,_,fI,6,n,rfl,hx,xc,nk,np,fun H' d h1 h2 h3=>q H' d h1 h2 h3⟩))
theorem OV:aI ["self","place"] ["self","place"] (aC zP):=⟨rfl,rfl,rfl,by decide +kernel,rfl,by decide +kernel,by decide +kernel⟩
theorem Qn(T:Tx P w K mg a):ax P w K mg base aV 2 a.kU a.nH ["self","place"] (ju K a.sN 7):=by
 refine T.DK.1.ok OV (fun vs H Q E h=>?_) (fun cdv A outer s H vs Q E hr h=>?_)
 ·obtain⟨_,_,_,_,rfl,_⟩:=h;rfl
 obtain⟨lo,x,fI,n,rfl,hx,xc,nk,np,q⟩:=h
 refine⟨_,ak (a9 (kG rfl T.eQ.1 T.eQ.2.1 (lH T) hr T.j7.2 .nil aU (aa (pv 0) (aa bF (aa (pv 1) ag))))),?_⟩
 exact(eX _ rfl (eX _ rfl ⟨lo,x,_,fI,7,n,rfl,hx,xc,nk,np,fun H' d h1 h2 h3=>q H' d h1 h2 h3⟩))
section
variable {X:Cx}{E:XK}{x:Str}{e:Expr}{te:TE}{p pos pos':Pos}{C f:Addr}{fd:FuncData}{k:Int}
theorem Q1{H:Hp}{x d:Addr}{o:HO}(h:H d=some o)(hne:d≠x):gT H x d=some o:=by rw[mm hne];exact h
def Flt(lo:Nat)(K:PySem.W.Frag)(C:Addr)(E:XK)(k:Int):List V->Hp->Prop:=fun vs H1=>vs.length<=sizeLine/\∀x,H1 x=none->ju K C k (.ref x::vs) (upd H1 x (c6 lo x C none))
 (fun v H2=>v=.ay/\∃a fI dx,V.ref x=.ref a/\H2 a=some (c6 lo a C (some dx))/\g4 K C fI/\E (.ref C) (some dx) (gT H2 a)) E0
def nN(lo:Nat)(K:PySem.W.Frag)(C:Addr)(E:XK)(k:Int)(te:TE):TS:=fun _ σ H=>te σ H fun v H1=>Flt lo K C E k [v] H1
theorem fB(hc:X.calm=true)(hx:As X E)(D:iw X.K X.mg x C a.de f)(G:ax X.prog X.w X.K X.mg X.base aV 2 f fd ["self","place"] (ju X.K C k))(hb:Binds X.K fd ["self","place"] [])(hr:bC 3 X.A)(he:PE X e te)
  (hg:Gl X x:=by rfl) (hdb:(x==("__debug__":Str))=false:=by decide) (hst:starEach [e] X.env=[(false,eval e X.env)]:=by rfl):
  PS X (.Raise (some (.Call (.Name x p) [e] [] pos)) none pos') (nN X.cn.heap.objs.size X.K C E k te):=fun pins s σ H Dn I h=>
 Lu (C:=C) hc hx (IL D.xc G hr hg D.at_ hb (aa he ag hst) hdb hst rfl) D.xc.is pins s σ H Dn I h
theorem eR{lo:Nat}{H1:Hp}{n:Int}(D:iw K mg x C a.de f)(h:Told K a E k n):Flt lo K C E k [.int n] H1:=
 ⟨by show 1<=sizeLine;decide,fun y hy=>⟨lo,y,f,n,rfl,aB,D.xc,D.nk,D.np,fun H' d h1 h2 h3=>⟨rfl,y,f,d,rfl,h1,D.xc,h C d _ ⟨D.xc.is,D.xg,D.sub,D.nk,D.np⟩ (Q1 h2 h3)⟩⟩⟩
end
end Wale
end
section
set_option linter.all false
namespace Wm
open LsWale
theorem Kh{c:UInt8}{r:Bytes}(h:isLetter c=true):1<=(wordAt (c::r)).length:=by
 unfold wordAt
 split
 ·rename_i w hw
  have hm:=List.mem_of_find?_eq_some hw
  simp only[DIGITWORDS,List.map_cons,List.map_nil,List.mem_cons,List.not_mem_nil,or_false]at hm
  rcases hm with rfl|rfl|rfl|rfl|rfl<;>decide
 ·simp[h]
theorem Jo{b w:Bytes}(h:b.take w.length=w):w.length<=b.length:=by
 have:=congrArg List.length h
 rw[List.length_take]at this
 lia
theorem KQ(b:Bytes):(wordAt b).length<=b.length:=by
 unfold wordAt
 split
 ·rename_i w hw
  have hp:=List.find?_some hw
  simp only[Bool.and_eq_true,beq_iff_eq]at hp
  exact Jo hp.1
 ·cases b with
  |nil=>simp
  |cons c r=>
   dsimp only
   split
   ·have:=(List.takeWhile_sublist (l:=r) isTail).length_le
    simp only[List.length_cons]
    lia
   ·simp
theorem zk(b:Bytes):(oneToken b).2<=b.length:=by
 unfold oneToken
 split
 ·simp
 ·rename_i c r
  split
  ·exact KQ _
  ·split
   ·split
    ·exact(List.takeWhile_sublist _).length_le
    ·simp
   ·split<;>simp
def c7:Tok->Bool
 | .done=>false
 | .bad _=>false
 |_=>true
theorem one_pos{b:Bytes}(h:c7 (oneToken b).1=true):1<=(oneToken b).2:=by
 cases b with
 |nil=>simp[oneToken,c7]at h
 |cons c r=>
  unfold oneToken at h ⊢
  dsimp only at h ⊢
  by_cases hl:isLetter c=true
  ·rw[if_pos hl]
   exact Kh hl
  ·rw[if_neg hl]at h ⊢
   by_cases hd:isDigit c=true
   ·rw[if_pos hd]at h ⊢
    by_cases hn:isNumber ((c::r).takeWhile isDigit)=true
    ·rw[if_pos hn]
     simp[List.takeWhile_cons,hd]
    ·rw[if_neg hn]at h
     simp[c7]at h
   ·rw[if_neg hd]at h ⊢
    by_cases hs:SIGNS.contains c=true
    ·rw[if_pos hs]
     exact Nat.le_refl _
    ·rw[if_neg hs]at h
     simp[c7]at h
theorem pA:∀(f:Bool)(b:Bytes),blanks f b<=b.length
 |f,[]=>by cases f<;>simp[blanks]
 |false,c::r=>by
  have h1:=pA false r
  have h2:=pA true r
  simp only[blanks,List.length_cons]
  split
  ·lia
  ·split<;>lia
 |true,c::r=>by
  have h1:=pA false r
  have h2:=pA true r
  simp only[blanks,List.length_cons]
  split
  ·lia
  ·split<;>lia
def behind(t:Tok)(l:List Token):List Token:=match t with
 | .done=>[]
 | .bad _=>[]
 |_=>l
theorem xW(f p:Nat)(b:Bytes):tokensFrom (f+1) p b=⟨p+blanks false b,(oneToken (b.drop (blanks false b))).1⟩::
  behind (oneToken (b.drop (blanks false b))).1 (tokensFrom f (p+blanks false b+(oneToken (b.drop (blanks false b))).2) (b.drop (blanks false b+(oneToken (b.drop (blanks false b))).2))):=by
 rw[tokensFrom]
 cases (oneToken (b.drop (blanks false b))).1<;>rfl
theorem mz{t:Tok}{l:List Token}(h:c7 t=true):behind t l=l:=by cases t<;>first|rfl|cases h
theorem nI{t:Tok}{l:List Token}(h:c7 t=false):behind t l=[]:=by cases t<;>first|rfl|cases h
theorem Ci:∀(f g p:Nat)(b:Bytes),b.length+1<=f->b.length+1<=g->tokensFrom f p b=tokensFrom g p b
 |0,g,p,b,h,_=>by lia
 |f+1,0,p,b,_,h=>by lia
 |f+1,g+1,p,b,h1,h2=>by
  rw[xW,xW]
  congr 1
  cases ht:c7 (oneToken (b.drop (blanks false b))).1 with
  |false=>rw[nI ht,nI ht]
  |true=>
   rw[mz ht,mz ht]
   have hp:=one_pos ht
   have hl:=zk (b.drop (blanks false b))
   have hb:=pA false b
   rw[List.length_drop]at hl
   exact Ci f g _ _ (by rw[List.length_drop];lia) (by rw[List.length_drop];lia)
def toks(b:Bytes)(p:Nat):List Token:=tokensFrom ((b.drop p).length+1) p (b.drop p)
def aP(b:Bytes)(p:Nat):Nat:=p+blanks false (b.drop p)
def aq(b:Bytes)(p:Nat):Tok:=(oneToken (b.drop (aP b p))).1
def aA(b:Bytes)(p:Nat):Nat:=aP b p+(oneToken (b.drop (aP b p))).2
theorem Qv(b:Bytes):tokensOf b=toks b 0:=rfl
theorem wo(b:Bytes)(p:Nat):toks b p=⟨aP b p,aq b p⟩::behind (aq b p) (toks b (aA b p)):=by
 unfold toks
 rw[xW]
 have e:(b.drop p).drop (blanks false (b.drop p))=b.drop (aP b p):=by rw[List.drop_drop];rfl
 have e2:(b.drop p).drop (blanks false (b.drop p)+(oneToken (b.drop (aP b p))).2)=b.drop (aA b p):=by
  rw[List.drop_drop];unfold aA aP;rw[Nat.add_assoc]
 rw[e,e2]
 show _::behind (aq b p) _=_
 congr 1
 cases ht:c7 (aq b p)with
 |false=>rw[nI ht,nI ht]
 |true=>
  rw[mz ht,mz ht]
  have hp:1<=(oneToken (b.drop (aP b p))).2:=one_pos ht
  have hl:=zk (b.drop (aP b p))
  rw[List.length_drop]at hl
  refine Ci _ _ _ _ ?_ (Nat.le_refl _)
  rw[List.length_drop,List.length_drop]
  unfold aA aP at *
  lia
theorem Lm(b:Bytes)(p:Nat):p<=aP b p:=Nat.le_add_right _ _
theorem Hu{b:Bytes}{p:Nat}(h:p<=b.length):aP b p<=b.length:=by
 have:=pA false (b.drop p)
 rw[List.length_drop]at this
 unfold aP
 lia
theorem zd{b:Bytes}{p:Nat}(h:p<=b.length):aA b p<=b.length:=by
 have h1:=Hu h
 have h2:=zk (b.drop (aP b p))
 rw[List.length_drop]at h2
 unfold aA
 lia
theorem Fh{b:Bytes}{p:Nat}(h:c7 (aq b p)=true):p<aA b p:=by
 have h1:=Lm b p
 have h2:1<=(oneToken (b.drop (aP b p))).2:=one_pos h
 unfold aA
 lia
end Wm
end
section
set_option linter.all false
namespace Wm
open LsWale
def Lt{α:Type}(n:Nat)(r:Except Fault (α×St)):Prop:=∀x s,r=.ok (x,s)->s.ts.length<n
def Le{α:Type}(n:Nat)(r:Except Fault (α×St)):Prop:=∀x s,r=.ok (x,s)->s.ts.length<=n
theorem gB{α:Type}{n:Nat}{e:Fault}:Lt n (.error e:Except Fault (α×St)):=fun _ _ h=>by cases h
theorem Rg{α:Type}{n:Nat}{e:Fault}:Le n (.error e:Except Fault (α×St)):=fun _ _ h=>by cases h
theorem Lt.le{α:Type}{n:Nat}{r:Except Fault (α×St)}(h:Lt n r):Le n r:=fun x s e=>Nat.le_of_lt (h x s e)
theorem fX{α:Type}(s:St):∃e,(wanted s:Except Fault α)=.error e:=by
 unfold wanted
 split<;>exact⟨_,rfl⟩
theorem iL{α:Type}{n:Nat}{s:St}:Lt n (wanted s:Except Fault (α×St)):=by
 obtain⟨e,h⟩:=fX (α:=α×St) s
 rw[h];exact gB
theorem dw{ε α β:Type}(a:α)(f:α->Except ε β):(Except.ok a>>=f)=f a:=rfl
theorem Lt.bind{α β:Type}{n:Nat}{r:Except Fault (α×St)}{f:α×St->Except Fault (β×St)}(h:∀x s,r=.ok (x,s)->Lt n (f (x,s))):Lt n (r>>=f):=by
 cases r with
 |error e=>exact gB
 |ok p=>obtain⟨x,s⟩:=p;exact h x s rfl
theorem Le.bind{α β:Type}{n:Nat}{r:Except Fault (α×St)}{f:α×St->Except Fault (β×St)}(h:∀x s,r=.ok (x,s)->Le n (f (x,s))):Le n (r>>=f):=by
 cases r with
 |error e=>exact Rg
 |ok p=>obtain⟨x,s⟩:=p;exact h x s rfl
theorem a8{α β:Type}{r r':Except Fault (α×St)}{f g:α×St->Except Fault (β×St)}(h1:r=r')(h2:∀x s,r'=.ok (x,s)->f (x,s)=g (x,s)):(r>>=f)=(r'>>=g):=by
 subst h1
 cases r with
 |error e=>rfl
 |ok p=>obtain⟨x,s⟩:=p;exact h2 x s rfl
theorem Gz(s:St):s.next.ts.length=s.ts.length-1:=by simp[St.next]
theorem aY{s:St}(h:s.ts≠[]):s.next.ts.length<s.ts.length:=by
 rw[Gz]
 have:s.ts.length≠0:=fun q=>h (List.length_eq_zero_iff.mp q)
 lia
theorem bO{s:St}{w:String}(h:s.isWord w=true):s.ts≠[]:=by
 intro q;rw[St.isWord,q]at h;cases h
theorem fM{s:St}{c:Char}(h:s.isSign c=true):s.ts≠[]:=by
 intro q;rw[St.isSign,q]at h;cases h
def cS(n:Nat)(r:Except Fault St):Prop:=∀s,r=.ok s->s.ts.length<n
theorem dB{c:Char}{s:St}:cS s.ts.length (eatSign c s):=by
 intro t h
 unfold eatSign at h
 split at h
 ·rename_i hs;cases h;exact aY (fM hs)
 ·obtain⟨e,q⟩:=fX (α:=St) s;rw[q]at h;cases h
theorem Hh{c:String}{s:St}:cS s.ts.length (eatWord c s):=by
 intro t h
 unfold eatWord at h
 split at h
 ·rename_i hs;cases h;exact aY (bO hs)
 ·obtain⟨e,q⟩:=fX (α:=St) s;rw[q]at h;cases h
theorem iR{c:Char}{d:Nat}{s:St}:cS s.ts.length (eatOpen c d s):=by
 intro t h
 unfold eatOpen at h
 split at h
 ·obtain⟨e,q⟩:=fX (α:=St) s;rw[q]at h;cases h
 ·rename_i hs
  split at h
  ·cases h
  ·cases h;exact aY (fM (by simpa using hs))
theorem qC{s:St}:Lt s.ts.length (anyName s):=by
 unfold anyName
 split
 ·rename_i h
  split
  ·intro x t e;cases e;exact aY (by rw[h];simp)
  ·exact iL
 ·exact iL
theorem oI{l:List Bytes}{s:St}:Lt s.ts.length (oldName l s):=by
 unfold oldName
 refine Lt.bind fun x t e=>?_
 have:=qC x t e
 dsimp only
 split
 ·exact gB
 ·intro y u h;cases h;exact this
theorem jy{k m:Nat}{s:St}{l:List Bytes}:Lt s.ts.length (newName k m s l):=by
 unfold newName
 refine Lt.bind fun x t e=>?_
 have:=qC x t e
 dsimp only
 split
 ·exact gB
 ·split
  ·exact gB
  ·intro y u h;cases h;exact this
theorem uC{s:St}:Lt s.ts.length (markName s):=by
 unfold markName
 refine Lt.bind fun x t e=>?_
 have:=qC x t e
 dsimp only
 split
 ·intro y u h;cases h;exact this
 ·split
  ·exact gB
  ·intro y u h;cases h;exact this
theorem Gh{s:St}:Lt s.ts.length (holdName s):=by
 unfold holdName
 refine Lt.bind fun x t e=>?_
 have:=qC x t e
 dsimp only
 split
 ·intro y u h;cases h;exact this
 ·split
  ·exact gB
  ·intro y u h;cases h;exact this
end Wm
end
section
set_option linter.all false
namespace Wm
open LsWale
def O8:Level->Bool
 | .sumRest _=>true
 | .prodRest _=>true
 |_=>false
def Left(lv:Level)(n:Nat){α:Type}(r:Except Fault (α×St)):Prop:=if O8 lv=true then Le n r else Lt n r
theorem Lt.left{α:Type}{lv:Level}{n:Nat}{r:Except Fault (α×St)}(h:Lt n r):Left lv n r:=by
 unfold Left
 split
 ·exact h.le
 ·exact h
theorem Le.mono{α:Type}{m n:Nat}{r:Except Fault (α×St)}(h:Le m r)(l:m<=n):Le n r:=fun x s e=>Nat.le_trans (h x s e) l
theorem Le.lt{α:Type}{m n:Nat}{r:Except Fault (α×St)}(h:Le m r)(l:m<n):Lt n r:=fun x s e=>Nat.lt_of_le_of_lt (h x s e) l
theorem Lt.mono{α:Type}{m n:Nat}{r:Except Fault (α×St)}(h:Lt m r)(l:m<=n):Lt n r:=fun x s e=>Nat.lt_of_lt_of_le (h x s e) l
theorem cS.bind{β:Type}{n:Nat}{r:Except Fault St}{f:St->Except Fault (β×St)}(h:∀s,r=.ok s->Lt n (f s)):Lt n (r>>=f):=by
 cases r with
 |error e=>exact gB
 |ok s=>exact h s rfl
theorem il{α:Type}{n:Nat}{x:α}{s:St}(h:s.ts.length<=n):Le n (.ok (x,s)):=fun y t e=>by cases e;exact h
theorem cZ{α:Type}{n:Nat}{x:α}{s:St}(h:s.ts.length<n):Lt n (.ok (x,s)):=fun y t e=>by cases e;exact h
theorem j3{s:St}{c c':Char}(h:(s.isSign c||s.isSign c')=true):s.ts≠[]:=by
 rcases Bool.or_eq_true_iff.mp h with q|q
 ·exact fM q
 ·exact fM q
theorem gw:∀(f:Nat)(lv:Level)(d:Nat)(s:St),Left lv s.ts.length (sumAt f lv d s)
 |0,lv,d,s=>by rw[sumAt];exact iL.left
 |f+1,.sum,d,s=>by
  rw[sumAt]
  refine Lt.left (Lt.bind fun x t e=>?_)
  have h1:Lt s.ts.length (sumAt f .prod d s):=gw f .prod d s
  have h2:Le t.ts.length (sumAt f (.sumRest x) d t):=gw f (.sumRest x) d t
  exact h2.lt (h1 x t e)
 |f+1,.prod,d,s=>by
  rw[sumAt]
  refine Lt.left (Lt.bind fun x t e=>?_)
  have h1:Lt s.ts.length (sumAt f .fact d s):=gw f .fact d s
  have h2:Le t.ts.length (sumAt f (.prodRest x) d t):=gw f (.prodRest x) d t
  exact h2.lt (h1 x t e)
 |f+1,.sumRest a,d,s=>by
  rw[sumAt]
  show Le _ _
  split
  ·rename_i h
   refine Le.bind fun x t e=>?_
   have h0:=aY (j3 h)
   have h1:Lt s.next.ts.length (sumAt f .prod d s.next):=gw f .prod d s.next
   refine Le.mono (gw f (.sumRest _) d t) ?_
   have:=h1 x t e
   show t.ts.length<=_
   lia
  ·exact il (Nat.le_refl _)
 |f+1,.prodRest a,d,s=>by
  rw[sumAt]
  show Le _ _
  split
  ·rename_i h
   refine Le.bind fun x t e=>?_
   have h0:=aY (j3 h)
   have h1:Lt s.next.ts.length (sumAt f .fact d s.next):=gw f .fact d s.next
   refine Le.mono (gw f (.prodRest _) d t) ?_
   have:=h1 x t e
   show t.ts.length<=_
   lia
  ·exact il (Nat.le_refl _)
 |f+1,.fact,d,s=>by
  rw[sumAt]
  show Lt _ _
  split
  ·rename_i h;exact cZ (aY (by rw[h];simp))
  ·rename_i h
   refine Lt.bind fun x t e=>?_
   exact cZ (oI x t e)
  ·refine cS.bind fun t e=>?_
   have h0:=iR t e
   refine Lt.bind fun x u e1=>?_
   have h1:Lt t.ts.length (sumAt f .sum (d+1) t):=gw f .sum (d+1) t
   have h1:=h1 x u e1
   refine cS.bind fun v e2=>?_
   have h2:=dB v e2
   refine cZ ?_
   dsimp only at h2 ⊢
   lia
theorem iI(f d:Nat)(s:St):Lt s.ts.length (sumAt f .sum d s):=gw f .sum d s
theorem wJ(f d:Nat)(s:St):Lt s.ts.length (sumAt f .prod d s):=gw f .prod d s
theorem uh(f d:Nat)(s:St):Lt s.ts.length (sumAt f .fact d s):=gw f .fact d s
def bg:Level->Nat->Nat
 | .sum,n=>3*n+3
 | .prod,n=>3*n+2
 |_,n=>3*n+1
theorem gm{β:Type}{r:Except Fault St}{f g:St->Except Fault (β×St)}(h:∀s,r=.ok s->f s=g s):(r>>=f)=(r>>=g):=by
 cases r with
 |error e=>rfl
 |ok s=>exact h s rfl
theorem fA:∀(f g:Nat)(lv:Level)(d:Nat)(s:St),bg lv s.ts.length<=f->bg lv s.ts.length<=g->sumAt f lv d s=sumAt g lv d s
 |0,_,lv,d,s,h,_=>by cases lv<;>simp[bg]at h
 |f+1,0,lv,d,s,_,h=>by cases lv<;>simp[bg]at h
 |f+1,g+1,.sum,d,s,h1,h2=>by
  rw[sumAt,sumAt]
  simp only[bg]at h1 h2
  refine a8 (fA f g .prod d s (by simp only[bg];lia) (by simp only[bg];lia)) fun x t e=>?_
  have:=wJ g d s x t e
  exact fA f g _ d t (by simp only[bg];lia) (by simp only[bg];lia)
 |f+1,g+1,.prod,d,s,h1,h2=>by
  rw[sumAt,sumAt]
  simp only[bg]at h1 h2
  refine a8 (fA f g .fact d s (by simp only[bg];lia) (by simp only[bg];lia)) fun x t e=>?_
  have:=uh g d s x t e
  exact fA f g _ d t (by simp only[bg];lia) (by simp only[bg];lia)
 |f+1,g+1,.sumRest a,d,s,h1,h2=>by
  rw[sumAt,sumAt]
  simp only[bg]at h1 h2
  split
  ·rename_i h
   have h0:=aY (j3 h)
   refine a8 (fA f g .prod d s.next (by simp only[bg];lia) (by simp only[bg];lia)) fun x t e=>?_
   have:=wJ g d s.next x t e
   exact fA f g _ d t (by simp only[bg];lia) (by simp only[bg];lia)
  ·rfl
 |f+1,g+1,.prodRest a,d,s,h1,h2=>by
  rw[sumAt,sumAt]
  simp only[bg]at h1 h2
  split
  ·rename_i h
   have h0:=aY (j3 h)
   refine a8 (fA f g .fact d s.next (by simp only[bg];lia) (by simp only[bg];lia)) fun x t e=>?_
   have:=uh g d s.next x t e
   exact fA f g _ d t (by simp only[bg];lia) (by simp only[bg];lia)
  ·rfl
 |f+1,g+1,.fact,d,s,h1,h2=>by
  rw[sumAt,sumAt]
  simp only[bg]at h1 h2
  split
  ·rfl
  ·rfl
  ·refine gm fun t e=>?_
   have h0:=iR t e
   exact a8 (fA f g .sum (d+1) t (by simp only[bg];lia) (by simp only[bg];lia)) fun x u e1=>rfl
def bc(lv:Level)(d:Nat)(s:St):Except Fault (Sum×St):=sumAt (3*s.ts.length+3) lv d s
theorem M6(lv:Level)(n:Nat):bg lv n<=3*n+3:=by cases lv<;>simp[bg]
theorem fS{f d:Nat}{lv:Level}{s:St}(h:bg lv s.ts.length<=f):sumAt f lv d s=bc lv d s:=fA _ _ _ _ _ h (M6 _ _)
theorem Ax(d:Nat)(s:St):Lt s.ts.length (bc .sum d s):=iI _ d s
theorem Ic(d:Nat)(s:St):bc .sum d s=bc .prod d s>>=fun x=>bc (.sumRest x.1) d x.2:=by
 show sumAt (3*s.ts.length+3) .sum d s=_
 rw[sumAt]
 refine a8 (fS (by simp only[bg];lia)) fun x t e=>?_
 have:=wJ _ d s x t e
 exact fS (by simp only[bg];lia)
theorem Ik(d:Nat)(s:St):bc .prod d s=bc .fact d s>>=fun x=>bc (.prodRest x.1) d x.2:=by
 show sumAt (3*s.ts.length+3) .prod d s=_
 rw[sumAt]
 refine a8 (fS (by simp only[bg];lia)) fun x t e=>?_
 have:=uh _ d s x t e
 exact fS (by simp only[bg];lia)
theorem EZ(a:Sum)(d:Nat)(s:St):bc (.sumRest a) d s=if(s.isSign '+'||s.isSign '-')=true then
  (bc .prod d s.next>>=fun x=>bc (.sumRest (.op (if s.isSign '+'=true then 43 else 45) s.place a x.1)) d x.2)else .ok (a,s):=by
 show sumAt (3*s.ts.length+3) (.sumRest a) d s=_
 rw[sumAt]
 split
 ·rename_i h
  have h0:=aY (j3 h)
  refine a8 (fS (by simp only[bg];lia)) fun x t e=>?_
  have:=wJ _ d s.next x t e
  exact fS (by simp only[bg];lia)
 ·rfl
theorem Hm(a:Sum)(d:Nat)(s:St):bc (.prodRest a) d s=if(s.isSign '*'||s.isSign '/')=true then
  (bc .fact d s.next>>=fun x=>bc (.prodRest (.op (if s.isSign '*'=true then 42 else 47) s.place a x.1)) d x.2)else .ok (a,s):=by
 show sumAt (3*s.ts.length+3) (.prodRest a) d s=_
 rw[sumAt]
 split
 ·rename_i h
  have h0:=aY (j3 h)
  refine a8 (fS (by simp only[bg];lia)) fun x t e=>?_
  have:=uh _ d s.next x t e
  exact fS (by simp only[bg];lia)
 ·rfl
theorem Pz{d p n:Nat}{s:St}{r:List Token}(h:s.ts=⟨p,.num n⟩::r):bc .fact d s=.ok (.num n,s.next):=by
 show sumAt (3*s.ts.length+3) .fact d s=_
 rw[sumAt]
 split
 ·rename_i q;rw[h]at q;cases q;rfl
 ·rename_i q;rw[h]at q;cases q
 ·rename_i q _;exact absurd h (q p n r)
theorem HL{d p:Nat}{w:Bytes}{s:St}{r:List Token}(h:s.ts=⟨p,.word w⟩::r):bc .fact d s=oldName s.env.lets s>>=fun x=>.ok (.name p x.1,x.2):=by
 show sumAt (3*s.ts.length+3) .fact d s=_
 rw[sumAt]
 split
 ·rename_i q;rw[h]at q;cases q
 ·rename_i q;rw[h]at q;cases q;rfl
 ·rename_i q;exact absurd h (q p w r)
theorem EV{d:Nat}{s:St}(h1:∀p n r,s.ts≠⟨p,.num n⟩::r)(h2:∀p w r,s.ts≠⟨p,.word w⟩::r):
  bc .fact d s=eatOpen '(' d s>>=fun t=>bc .sum (d+1) t>>=fun x=>eatSign ')' x.2>>=fun u=>.ok (x.1,u):=by
 show sumAt (3*s.ts.length+3) .fact d s=_
 rw[sumAt]
 split
 ·rename_i q;exact absurd q (h1 _ _ _)
 ·rename_i q;exact absurd q (h2 _ _ _)
 ·refine gm fun t e=>?_
  have h0:=iR t e
  exact a8 (fS (by simp only[bg];lia)) fun x u e1=>rfl
end Wm
end
section
set_option linter.all false
namespace Wm
open LsWale
theorem GW{α β:Type}{r:Except Fault α}{f:α->β}{y:β}(h:r.map f=.ok y):∃x,r=.ok x/\f x=y:=by
 cases r with
 |error e=>cases h
 |ok x=>cases h;exact⟨x,rfl,rfl⟩
theorem Lt.map{α β:Type}{n:Nat}{r:Except Fault (α×St)}{f:α×St->β×St}(h:Lt n r)(hf:∀x s,(f (x,s)).2=s):Lt n (r.map f):=by
 intro y t e
 obtain⟨⟨x,s⟩,e1,e2⟩:=GW e
 have:=h x s e1
 have q:=hf x s
 rw[e2]at q
 simp only at q
 rw[q];exact this
theorem BG(f d:Nat)(s:St):Le s.ts.length (reachAt f d s):=by
 unfold reachAt
 split
 ·rename_i h
  have h0:=aY (bO h)
  split
  ·rename_i h1
   have h2:=aY (bO h1)
   exact il (by lia)
  ·split
   ·rename_i h1
    have h2:=aY (bO h1)
    refine Le.bind fun x t e=>il ?_
    have:=iI f d _ x t e
    dsimp only;lia
   ·refine(cS.bind (n:=s.ts.length) fun t e=>?_).le
    have h1:=Hh t e
    refine Lt.bind fun x u e2=>cZ ?_
    have:=uC x u e2
    dsimp only;lia
 ·split
  ·refine Le.bind fun x t e=>il ?_
   have:=iI f d _ x t e
   dsimp only;lia
  ·exact il (Nat.le_refl _)
theorem Dj{f g d:Nat}{s:St}(h1:3*s.ts.length+3<=f)(h2:3*s.ts.length+3<=g):reachAt f d s=reachAt g d s:=by
 unfold reachAt
 split
 ·rename_i h
  have h0:=aY (bO h)
  split
  ·rfl
  ·split
   ·rename_i h3
    have h4:=aY (bO h3)
    exact a8 (fA _ _ _ _ _ (by simp only[bg];lia) (by simp only[bg];lia)) fun _ _ _=>rfl
   ·rfl
 ·split
  ·exact a8 (fA _ _ _ _ _ (by simp only[bg];lia) (by simp only[bg];lia)) fun _ _ _=>rfl
  ·rfl
def jV(d:Nat)(s:St):Except Fault (Reach×St):=reachAt (3*s.ts.length+3) d s
theorem Og{f d:Nat}{s:St}(h:3*s.ts.length+3<=f):reachAt f d s=jV d s:=Dj h (Nat.le_refl _)
theorem we(d:Nat)(s:St):jV d s=if s.isWord "to"=true then(
  if s.next.isWord "end"=true then .ok (.to_ .row,s.next.next)
  else if s.next.isWord "last"=true then(bc .sum d s.next.next>>=fun x=>.ok (.to_ (.last x.1),x.2))
  else(eatWord "mark" s.next>>=fun t=>markName t>>=fun x=>.ok (.to_ (.mark x.1),x.2)))
 else if s.sums=true then(bc .sum d s>>=fun x=>.ok (.times x.1,x.2))
 else .ok (.once,s):=by
 unfold jV reachAt
 split
 ·rename_i h
  have h0:=aY (bO h)
  split
  ·rfl
  ·split
   ·rename_i h3
    have h4:=aY (bO h3)
    exact a8 (fS (by simp only[bg];lia)) fun _ _ _=>rfl
   ·rfl
 ·split
  ·exact a8 (fS (by simp only[bg];lia)) fun _ _ _=>rfl
  ·rfl
theorem Cp{s:St}:Lt s.ts.length (wideAt s):=by
 unfold wideAt
 split
 ·rename_i h
  split
  ·exact cZ (aY (by rw[h];simp))
  ·exact gB
 ·exact iL
theorem Dy(s:St):Lt s.ts.length (unitAt s):=by
 unfold unitAt
 split
 ·rename_i h
  have h0:s.next.ts.length<s.ts.length:=aY (by rw[h];simp)
  split
  ·exact cZ h0
  ·split
   ·refine Lt.bind fun n t e=>?_
    have h1:=Cp n t e
    refine cS.bind fun u e1=>?_
    have h2:=dB u e1
    refine Lt.bind fun m v e2=>cZ ?_
    have h3:=Cp m v e2
    dsimp only at h2 ⊢
    lia
   ·split
    ·refine Lt.bind fun x t e=>cZ ?_
     have:=Gh x t e
     dsimp only;lia
    ·refine Lt.bind fun x t e=>cZ ?_
     exact oI x t e
 ·exact iL
theorem ID{s:St}{g:Except Fault (Lone×St)}(h:loneAt s=some g):Lt s.ts.length g:=by
 unfold loneAt at h
 split at h
 ·rename_i w;have h0:=aY (bO w)
  cases h;exact(Gh.mono (Nat.le_of_lt h0)).map fun _ _=>rfl
 ·split at h
  ·rename_i w;have h0:=aY (bO w)
   cases h;exact(oI.mono (Nat.le_of_lt h0)).map fun _ _=>rfl
  ·split at h
   ·rename_i w;have h0:=aY (bO w)
    cases h;exact(uC.mono (Nat.le_of_lt h0)).map fun _ _=>rfl
   ·split at h
    ·rename_i w;have h0:=aY (bO w)
     cases h;exact(uC.mono (Nat.le_of_lt h0)).map fun _ _=>rfl
    ·split at h
     ·rename_i w;have h0:=aY (bO w)
      cases h;exact(uC.mono (Nat.le_of_lt h0)).map fun _ _=>rfl
     ·split at h
      ·rename_i w;have h0:=aY (bO w)
       cases h;exact cZ h0
      ·split at h
       ·rename_i w;have h0:=aY (bO w)
        cases h;exact cZ h0
       ·cases h
def gG(I:Nat->St->Except Fault (Items×St))(R:Nat->St->Except Fault (Reach×St))(d:Nat)(s:St):Except Fault ((Items->Items)×St):=
 match loneAt s with
 |some g=>g.map fun(y:Lone×St)=>(Items.lone s.place y.1,y.2)
 |none=>if s.isSign '('=true then
   (eatOpen '(' d s>>=fun t=>I (d+1) t>>=fun l=>eatSign ')' l.2>>=fun u=>R d u>>=fun r=>.ok (Items.group s.place l.1 r.1,r.2))
  else(unitAt s>>=fun u=>R d u.2>>=fun r=>.ok (Items.one s.place u.1 r.1,r.2))
def BO(T:Nat->St->Except Fault ((Items->Items)×St))(I:Nat->St->Except Fault (Items×St))(d:Nat)(s:St):Except Fault (Items×St):=
 T d s>>=fun x=>if x.2.isSign ','=true then(I d x.2.next>>=fun l=>.ok (x.1 l.1,l.2))else .ok (x.1 .nil,x.2)
theorem qw(f d:Nat)(s:St):itemsAt (f+1) d s=BO (gG (itemsAt f) (reachAt f)) (itemsAt f) d s:=by
 rw[itemsAt];rfl
theorem yg{I:Nat->St->Except Fault (Items×St)}{R:Nat->St->Except Fault (Reach×St)}(hI:∀d s,Le s.ts.length (I d s))(hR:∀d s,Le s.ts.length (R d s))(d:Nat)(s:St):Lt s.ts.length (gG I R d s):=by
 unfold gG
 split
 ·rename_i g h;exact(ID h).map fun _ _=>rfl
 ·split
  ·refine cS.bind fun t e=>?_
   have h1:=iR t e
   refine Lt.bind fun l u e1=>?_
   have h2:=hI _ t l u e1
   refine cS.bind fun v e2=>?_
   have h3:=dB v e2
   refine Lt.bind fun r z e3=>cZ ?_
   have h4:=hR _ v r z e3
   dsimp only at h3 ⊢
   lia
  ·refine Lt.bind fun u t e=>?_
   have h1:=Dy s u t e
   refine Lt.bind fun r z e3=>cZ ?_
   have h4:=hR _ t r z e3
   dsimp only
   lia
theorem ja:∀(f d:Nat)(s:St),Lt s.ts.length (itemsAt f d s)
 |0,d,s=>by rw[itemsAt];exact iL
 |f+1,d,s=>by
  rw[qw]
  refine Lt.bind fun x t e=>?_
  have h1:=yg (fun d s=>(ja f d s).le) (fun d s=>BG f d s) d s x t e
  dsimp only
  split
  ·rename_i h
   have h0:=aY (fM h)
   refine Lt.bind fun l u e1=>cZ ?_
   have:=ja f d _ l u e1
   dsimp only at this ⊢;lia
  ·exact cZ h1
theorem DY{I I':Nat->St->Except Fault (Items×St)}{R R':Nat->St->Except Fault (Reach×St)}{d:Nat}{s:St}
  (hI:∀d t,t.ts.length<s.ts.length->I d t=I' d t) (hL:∀d t,Le t.ts.length (I' d t)) (hR:∀d t,t.ts.length<s.ts.length->R d t=R' d t):gG I R d s=gG I' R' d s:=by
 unfold gG
 split
 ·rfl
 ·split
  ·refine gm fun t e=>?_
   have h1:=iR t e
   refine a8 (hI _ _ h1) fun l u e1=>?_
   have h2:=hL _ t l u e1
   refine gm fun v e2=>?_
   have h3:=dB v e2
   dsimp only at h3
   exact a8 (hR _ _ (by lia)) fun _ _ _=>rfl
  ·refine a8 rfl fun u t e=>?_
   exact a8 (hR _ _ (Dy s u t e)) fun _ _ _=>rfl
theorem ql:∀(f g d:Nat)(s:St),3*s.ts.length+1<=f->3*s.ts.length+1<=g->itemsAt f d s=itemsAt g d s
 |0,_,_,_,h,_=>by lia
 |_+1,0,_,_,_,h=>by lia
 |f+1,g+1,d,s,h1,h2=>by
  rw[qw,qw]
  unfold BO
  refine a8 (DY (fun d t ht=>ql f g d t (by lia) (by lia)) (fun d t=>(ja g d t).le) fun d t ht=>Dj (by lia) (by lia)) fun x t e=>?_
  have h3:=yg (fun d s=>(ja g d s).le) (fun d s=>BG g d s) d s x t e
  dsimp only
  split
  ·rename_i h
   have h0:=aY (fM h)
   exact a8 (ql f g d _ (by lia) (by lia)) fun _ _ _=>rfl
  ·rfl
def cR(d:Nat)(s:St):Except Fault (Items×St):=itemsAt (3*s.ts.length+1) d s
theorem vi{f d:Nat}{s:St}(h:3*s.ts.length+1<=f):itemsAt f d s=cR d s:=ql _ _ _ _ h (Nat.le_refl _)
theorem vN(d:Nat)(s:St):Lt s.ts.length (cR d s):=ja _ d s
def fN(d:Nat)(s:St):Except Fault ((Items->Items)×St):=gG cR jV d s
theorem y4(d:Nat)(s:St):Lt s.ts.length (fN d s):=yg (fun d s=>(vN d s).le) (fun d s=>BG _ d s) d s
theorem Bk(d:Nat)(s:St):cR d s=fN d s>>=fun x=>if x.2.isSign ','=true then(cR d x.2.next>>=fun l=>.ok (x.1 l.1,l.2))else .ok (x.1 .nil,x.2):=by
 show itemsAt (3*s.ts.length+1) d s=_
 rw[qw]
 unfold BO
 refine a8 (DY (fun d t ht=>vi (by lia)) (fun d t=>(vN d t).le) fun d t ht=>Og (by lia)) fun x t e=>?_
 have h3:=y4 d s x t e
 dsimp only
 split
 ·rename_i h
  have h0:=aY (fM h)
  exact a8 (vi (by lia)) fun _ _ _=>rfl
 ·rfl
end Wm
end
section
set_option linter.all false
namespace Wm
open LsWale
def m7(s:St):Option Bool:=if s.next.isWord "rs"=true then some true else if s.next.isWord "ws"=true then some false else none
def rowAt(s:St):St:=if(m7 s).isSome=true then s.next.next else s.next
theorem DP(s:St):(rowAt s).ts.length<=s.next.ts.length:=by
 unfold rowAt
 split
 ·rw[Gz s.next];lia
 ·exact Nat.le_refl _
def fw(S:Nat->St->Except Fault (Sum×St))(I:Nat->St->Except Fault (Items×St))(T:Nat->St->Except Fault (Stats×St))(d:Nat)(s:St):Option (Except Fault ((Stats->Stats)×St)):=
 if s.isWord "on"=true then some
  (S d s.next>>=fun x=>eatSign ';' (if x.2.isWord "round"=true then x.2.next else x.2)>>=fun t=>.ok (.on s.place x.1 (x.2.isWord "round"),t))
 else if s.isWord "row"=true then some
  (I d (rowAt s)>>=fun x=>eatSign ';' x.2>>=fun t=>.ok (.row s.place (m7 s) x.1,t))
 else if(s.isWord "repeat"||s.isWord "until")=true then some
  (S d s.next>>=fun x=>eatOpen '{' d x.2>>=fun t=>T (d+1) t>>=fun i=>eatSign '}' i.2>>=fun u=>
   .ok (fun r=>if s.isWord "repeat"=true then .again s.place x.1 i.1 r else .until_ s.place x.1 i.1 r,u))
 else if s.isWord "work"=true then some
  (oldName s.env.blocks s.next>>=fun x=>if x.2.sums=true then(S d x.2>>=fun y=>eatSign ';' y.2>>=fun t=>.ok (.work s.place x.1 (some y.1),t))
   else(eatSign ';' x.2>>=fun t=>.ok (.work s.place x.1 none,t)))
 else if s.isWord "off"=true then some (eatSign ';' s.next>>=fun t=>.ok (.off s.place,t))
 else none
def og(U:Nat->St->Option (Except Fault ((Stats->Stats)×St)))(T:Nat->St->Except Fault (Stats×St))(d:Nat)(s:St):Except Fault (Stats×St):=
 match U d s with
 |some g=>g>>=fun x=>T d x.2>>=fun r=>.ok (x.1 r.1,r.2)
 |none=>.ok (.nil,s)
theorem bW{α β γ:Type}(r:Except Fault α)(f:α->Except Fault β)(g:β->Except Fault γ):(r>>=f)>>=g=r>>=fun x=>f x>>=g:=by
 cases r<;>rfl
theorem tL(f d:Nat)(s:St):statsAt (f+1) d s=og (fw (sumAt f .sum) (itemsAt f) (statsAt f)) (statsAt f) d s:=by
 rw[statsAt]
 unfold og fw
 dsimp only
 split
 ·simp only[bW,dw];rfl
 ·split
  ·simp only[bW,dw];rfl
  ·split
   ·simp only[bW,dw]
    refine a8 rfl fun x t e=>?_
    refine gm fun u e=>?_
    refine a8 rfl fun y t e=>?_
    refine gm fun v e=>?_
    refine a8 rfl fun z t e=>?_
    split<;>rfl
   ·split
    ·simp only[bW,dw]
     refine a8 rfl fun x t e=>?_
     dsimp only
     split
     ·simp only[bW,dw];rfl
     ·simp only[bW,dw];rfl
    ·split
     ·simp only[bW,dw];rfl
     ·rfl
theorem A3{S:Nat->St->Except Fault (Sum×St)}{I:Nat->St->Except Fault (Items×St)}{T:Nat->St->Except Fault (Stats×St)}(hS:∀d s,Le s.ts.length (S d s))(hI:∀d s,Le s.ts.length (I d s))
  (hT:∀d s,Le s.ts.length (T d s)) {d:Nat} {s:St} {g:Except Fault ((Stats->Stats)×St)} (h:fw S I T d s=some g):Lt s.ts.length g:=by
 unfold fw at h
 split at h
 ·rename_i w;have h0:=aY (bO w)
  cases h
  refine Lt.bind fun x t e=>cS.bind fun u e2=>cZ ?_
  have h1:=hS _ _ x t e
  have h2:=dB u e2
  dsimp only at h2
  split at h2
  ·rename_i q;have:=aY (bO q);lia
  ·lia
 ·split at h
  ·rename_i w;have h0:=aY (bO w)
   cases h
   refine Lt.bind fun x t e=>cS.bind fun u e2=>cZ ?_
   have h1:=hI _ _ x t e
   have h2:=dB u e2
   dsimp only at h2
   have h3:=DP s
   lia
  ·split at h
   ·rename_i w
    have h0:s.next.ts.length<s.ts.length:=by
     rcases Bool.or_eq_true_iff.mp w with q|q
     ·exact aY (bO q)
     ·exact aY (bO q)
    cases h
    refine Lt.bind fun x t e=>cS.bind fun u e2=>Lt.bind fun i v e3=>cS.bind fun z e4=>cZ ?_
    have h1:=hS _ _ x t e
    have h2:=iR u e2
    have h3:=hT _ _ i v e3
    have h4:=dB z e4
    dsimp only at h2 h4
    lia
   ·split at h
    ·rename_i w;have h0:=aY (bO w)
     cases h
     refine Lt.bind fun x t e=>?_
     have h1:=oI x t e
     dsimp only
     split
     ·refine Lt.bind fun y u e2=>cS.bind fun v e3=>cZ ?_
      have h2:=hS _ _ y u e2
      have h3:=dB v e3
      dsimp only at h3
      lia
     ·refine cS.bind fun v e3=>cZ ?_
      have h3:=dB v e3
      lia
    ·split at h
     ·rename_i w;have h0:=aY (bO w)
      cases h
      refine cS.bind fun v e3=>cZ ?_
      have h3:=dB v e3
      lia
     ·cases h
theorem nF:∀(f d:Nat)(s:St),Le s.ts.length (statsAt f d s)
 |0,d,s=>by rw[statsAt];exact iL.le
 |f+1,d,s=>by
  rw[tL]
  unfold og
  split
  ·rename_i g h
   refine Le.bind fun x t e=>Le.bind fun r u e2=>il ?_
   have h1:=A3 (fun d s=>(iI f d s).le) (fun d s=>(ja f d s).le) (fun d s=>nF f d s) h x t e
   have h2:=nF f d t r u e2
   dsimp only
   lia
  ·exact il (Nat.le_refl _)
theorem Dx{S S':Nat->St->Except Fault (Sum×St)}{I I':Nat->St->Except Fault (Items×St)}{T T':Nat->St->Except Fault (Stats×St)}{d:Nat}{s:St}
  (hS:∀d t,t.ts.length<s.ts.length->S d t=S' d t) (hI:∀d t,t.ts.length<s.ts.length->I d t=I' d t) (hT:∀d t,t.ts.length<s.ts.length->T d t=T' d t)
  (lS:∀d s,Le s.ts.length (S' d s)):fw S I T d s=fw S' I' T' d s:=by
 unfold fw
 split
 ·rename_i w;have h0:=aY (bO w)
  rw[hS _ _ h0]
 ·split
  ·rename_i w;have h0:=aY (bO w)
   have h3:=DP s
   rw[hI _ _ (by lia)]
  ·split
   ·rename_i w
    have h0:s.next.ts.length<s.ts.length:=by
     rcases Bool.or_eq_true_iff.mp w with q|q
     ·exact aY (bO q)
     ·exact aY (bO q)
    refine congrArg some (a8 (hS _ _ h0) fun x t e=>gm fun u e2=>?_)
    have h1:=lS _ _ x t e
    have h2:=iR u e2
    dsimp only at h2
    exact a8 (hT _ _ (by lia)) fun _ _ _=>rfl
   ·split
    ·rename_i w;have h0:=aY (bO w)
     refine congrArg some (a8 rfl fun x t e=>?_)
     have h1:=oI x t e
     dsimp only
     split
     ·exact a8 (hS _ _ (by lia)) fun _ _ _=>rfl
     ·rfl
    ·rfl
theorem uM:∀(f g d:Nat)(s:St),3*s.ts.length+1<=f->3*s.ts.length+1<=g->statsAt f d s=statsAt g d s
 |0,_,_,_,h,_=>by lia
 |_+1,0,_,_,_,h=>by lia
 |f+1,g+1,d,s,h1,h2=>by
  rw[tL,tL]
  unfold og
  rw[Dx (S':=sumAt g .sum) (I':=itemsAt g) (T':=statsAt g) (fun d t ht=>fA f g _ d t (by simp only[bg];lia) (by simp only[bg];lia)) (fun d t ht=>ql f g d t (by lia) (by lia))
   (fun d t ht=>uM f g d t (by lia) (by lia)) fun d s=>(iI g d s).le]
  split
  ·rename_i q h
   refine a8 rfl fun x t e=>?_
   have h3:=A3 (fun d s=>(iI g d s).le) (fun d s=>(ja g d s).le) (fun d s=>nF g d s) h x t e
   exact a8 (uM f g d t (by lia) (by lia)) fun _ _ _=>rfl
  ·rfl
def cU(d:Nat)(s:St):Except Fault (Stats×St):=statsAt (3*s.ts.length+1) d s
theorem vV{f d:Nat}{s:St}(h:3*s.ts.length+1<=f):statsAt f d s=cU d s:=uM _ _ _ _ h (Nat.le_refl _)
theorem Hk(d:Nat)(s:St):Le s.ts.length (cU d s):=nF _ d s
def eK(d:Nat)(s:St):Option (Except Fault ((Stats->Stats)×St)):=fw (bc .sum) cR cU d s
theorem Ho{d:Nat}{s:St}{g:Except Fault ((Stats->Stats)×St)}(h:eK d s=some g):Lt s.ts.length g:=
 A3 (fun d s=>(Ax d s).le) (fun d s=>(vN d s).le) (fun d s=>Hk d s) h
theorem Au(d:Nat)(s:St):cU d s=match eK d s with
  |some g=>g>>=fun x=>cU d x.2>>=fun r=>.ok (x.1 r.1,r.2)
  |none=>.ok (.nil,s):=by
 show statsAt (3*s.ts.length+1) d s=_
 rw[tL]
 unfold og
 rw[Dx (S':=bc .sum) (I':=cR) (T':=cU) (fun d t ht=>fS (by simp only[bg];lia)) (fun d t ht=>vi (by lia)) (fun d t ht=>vV (by lia)) fun d s=>(Ax d s).le]
 show(match eK d s with|some g=>_|none=>_)=_
 cases h:eK d s with
 |none=>rfl
 |some g=>
  dsimp only
  refine a8 rfl fun x t e=>?_
  have h3:=Ho h x t e
  exact a8 (vV (by dsimp only;lia)) fun _ _ _=>rfl
end Wm
end
section
set_option linter.all false
namespace Wm
open LsWale
theorem wI:∀(f m:Nat)(l:List Bytes)(s:St),Lt s.ts.length (namesAt f m l s)
 |0,m,l,s=>by rw[namesAt];exact iL
 |f+1,m,l,s=>by
  rw[namesAt]
  refine Lt.bind fun x t e=>?_
  have h1:=jy x t e
  dsimp only
  split
  ·rename_i h
   have h0:=aY (fM h)
   exact(wI f m _ t.next).mono (by lia)
  ·exact cZ h1
theorem BE:∀(f g m:Nat)(l:List Bytes)(s:St),s.ts.length+1<=f->s.ts.length+1<=g->namesAt f m l s=namesAt g m l s
 |0,_,_,_,_,h,_=>by lia
 |_+1,0,_,_,_,_,h=>by lia
 |f+1,g+1,m,l,s,h1,h2=>by
  rw[namesAt,namesAt]
  refine a8 rfl fun x t e=>?_
  have h3:=jy x t e
  dsimp only
  split
  ·rename_i h
   have h0:=aY (fM h)
   exact BE f g m _ t.next (by lia) (by lia)
  ·rfl
def jQ(m:Nat)(l:List Bytes)(s:St):Except Fault (List Bytes×St):=namesAt (s.ts.length+1) m l s
theorem G5{f m:Nat}{l:List Bytes}{s:St}(h:s.ts.length+1<=f):namesAt f m l s=jQ m l s:=BE _ _ _ _ _ h (Nat.le_refl _)
theorem Lh(m:Nat)(l:List Bytes)(s:St):jQ m l s=newName l.length m s l>>=fun x=>if x.2.isSign ','=true then jQ m (l++[x.1]) x.2.next else .ok (l++[x.1],x.2):=by
 show namesAt (s.ts.length+1) m l s=_
 rw[namesAt]
 refine a8 rfl fun x t e=>?_
 have h3:=jy x t e
 dsimp only
 split
 ·rename_i h
  have h0:=aY (fM h)
  exact G5 (by lia)
 ·rfl
theorem vH:∀(f:Nat)(s:St),Lt s.ts.length (sumsAt f s)
 |0,s=>by rw[sumsAt];exact iL
 |f+1,s=>by
  rw[sumsAt]
  refine Lt.bind fun x t e=>?_
  have h1:=iI f 0 s x t e
  dsimp only
  split
  ·rename_i h
   have h0:=aY (fM h)
   refine Lt.bind fun l u e2=>cZ ?_
   have h2:=vH f t.next l u e2
   dsimp only
   lia
  ·exact cZ h1
theorem wU:∀(f g:Nat)(s:St),3*s.ts.length+4<=f->3*s.ts.length+4<=g->sumsAt f s=sumsAt g s
 |0,_,_,h,_=>by lia
 |_+1,0,_,_,h=>by lia
 |f+1,g+1,s,h1,h2=>by
  rw[sumsAt,sumsAt]
  refine a8 (fA f g _ _ _ (by simp only[bg];lia) (by simp only[bg];lia)) fun x t e=>?_
  have h3:=iI g 0 s x t e
  dsimp only
  split
  ·rename_i h
   have h0:=aY (fM h)
   exact a8 (wU f g t.next (by lia) (by lia)) fun _ _ _=>rfl
  ·rfl
def j2(s:St):Except Fault (List Sum×St):=sumsAt (3*s.ts.length+4) s
theorem HQ{f:Nat}{s:St}(h:3*s.ts.length+4<=f):sumsAt f s=j2 s:=wU _ _ _ h (Nat.le_refl _)
theorem Gr(s:St):j2 s=bc .sum 0 s>>=fun x=>if x.2.isSign ','=true then(j2 x.2.next>>=fun l=>.ok (x.1::l.1,l.2))else .ok ([x.1],x.2):=by
 show sumsAt (3*s.ts.length+4) s=_
 rw[sumsAt]
 refine a8 (fS (by simp only[bg];lia)) fun x t e=>?_
 have h3:=Ax 0 s x t e
 dsimp only
 split
 ·rename_i h
  have h0:=aY (fM h)
  exact a8 (HQ (by lia)) fun _ _ _=>rfl
 ·rfl
def gP(N:Nat->List Bytes->St->Except Fault (List Bytes×St))(S:St->Except Fault (List Sum×St))(I:Nat->St->Except Fault (Items×St))(T:Nat->St->Except Fault (Stats×St))(s:St):Option (Except Fault (Head×St)):=
 if s.isWord "sizes"=true then some
  (if s.env.sizes.isSome=true\/s.env.lets≠[]then .error ⟨5,s.place⟩else
   N SIZES [] s.next>>=fun x=>eatSign ';' x.2>>=fun t=>.ok (.sizes x.1,{t with env:={t.env with sizes:=some x.1}}))
 else if s.isWord "yarns"=true then some
  (if s.env.yarns.isSome=true then .error ⟨5,s.place⟩else
   N YARNS [] s.next>>=fun x=>eatSign ';' x.2>>=fun t=>.ok (.yarns x.1,{t with env:={t.env with yarns:=some x.1}}))
 else if s.isWord "let"=true then some
  (newName s.env.lets.length LETS s.next []>>=fun n=>eatSign '=' n.2>>=fun t=>S t>>=fun x=>eatSign ';' x.2>>=fun u=>
   if x.1.length≠1/\x.1.length≠s.env.many then .error ⟨7,s.next.place⟩else .ok (.let_ n.1 x.1,{u with env:={u.env with lets:=u.env.lets++[n.1]}}))
 else if s.isWord "word"=true then some
  (newName s.env.words.length WORDS s.next []>>=fun n=>eatSign '=' n.2>>=fun t=>I 0 t>>=fun x=>eatSign ';' x.2>>=fun u=>
   .ok (.word n.1 x.1,{u with env:={u.env with words:=u.env.words++[n.1]}}))
 else if s.isWord "block"=true then some
  (newName s.env.blocks.length BLOCKS s.next []>>=fun n=>eatOpen '{' 0 n.2>>=fun t=>T 1 t>>=fun x=>eatSign '}' x.2>>=fun u=>
   .ok (.block n.1 x.1,{u with env:={u.env with blocks:=u.env.blocks++[n.1]}}))
 else none
def qo(U:St->Option (Except Fault (Head×St)))(T:St->Except Fault (List Head×St))(s:St):Except Fault (List Head×St):=
 match U s with
 |some g=>g>>=fun x=>T x.2>>=fun r=>.ok (x.1::r.1,r.2)
 |none=>.ok ([],s)
theorem tP(f:Nat)(s:St):headsAt (f+1) s=qo (gP (namesAt f) (sumsAt f) (itemsAt f) (statsAt f)) (headsAt f) s:=by
 rw[headsAt]
 unfold qo gP
 dsimp only
 split
 ·dsimp only
  by_cases h:s.env.sizes.isSome=true\/s.env.lets≠[]
  ·rw[if_pos h,if_pos h];rfl
  ·rw[if_neg h,if_neg h];simp only[bW,dw];rfl
 ·split
  ·dsimp only
   by_cases h:s.env.yarns.isSome=true
   ·rw[if_pos h,if_pos h];rfl
   ·rw[if_neg h,if_neg h];simp only[bW,dw];rfl
  ·split
   ·simp only[bW]
    refine a8 rfl fun n t e=>gm fun u e=>a8 rfl fun x t e=>gm fun v e=>?_
    dsimp only
    split<;>rfl
   ·split
    ·simp only[bW,dw];rfl
    ·split
     ·simp only[bW,dw];rfl
     ·rfl
theorem p9{α:Type}{n:Nat}{s:St}{x:α}{e:Env}(h:s.ts.length<n):Lt n (.ok (x,({s with env:=e}:St))):=cZ h
theorem xA{N:Nat->List Bytes->St->Except Fault (List Bytes×St)}{S:St->Except Fault (List Sum×St)}{I:Nat->St->Except Fault (Items×St)}{T:Nat->St->Except Fault (Stats×St)}
  (hN:∀m l s,Le s.ts.length (N m l s)) (hS:∀s,Le s.ts.length (S s)) (hI:∀d s,Le s.ts.length (I d s)) (hT:∀d s,Le s.ts.length (T d s)) {s:St} {g:Except Fault (Head×St)} (h:gP N S I T s=some g):Lt s.ts.length g:=by
 unfold gP at h
 split at h
 ·rename_i w;have h0:=aY (bO w)
  cases h
  split
  ·exact gB
  ·refine Lt.bind fun x t e=>cS.bind fun u e2=>p9 ?_
   have h1:=hN _ _ _ x t e
   have h2:=dB u e2
   dsimp only at h2
   lia
 ·split at h
  ·rename_i w;have h0:=aY (bO w)
   cases h
   split
   ·exact gB
   ·refine Lt.bind fun x t e=>cS.bind fun u e2=>p9 ?_
    have h1:=hN _ _ _ x t e
    have h2:=dB u e2
    dsimp only at h2
    lia
  ·split at h
   ·rename_i w;have h0:=aY (bO w)
    cases h
    refine Lt.bind fun n t e=>cS.bind fun u e2=>Lt.bind fun x v e3=>cS.bind fun z e4=>?_
    split
    ·exact gB
    ·refine p9 ?_
     have h1:=jy n t e
     have h2:=dB u e2
     have h3:=hS _ x v e3
     have h4:=dB z e4
     dsimp only at h2 h4
     lia
   ·split at h
    ·rename_i w;have h0:=aY (bO w)
     cases h
     refine Lt.bind fun n t e=>cS.bind fun u e2=>Lt.bind fun x v e3=>cS.bind fun z e4=>p9 ?_
     have h1:=jy n t e
     have h2:=dB u e2
     have h3:=hI _ _ x v e3
     have h4:=dB z e4
     dsimp only at h2 h4
     lia
    ·split at h
     ·rename_i w;have h0:=aY (bO w)
      cases h
      refine Lt.bind fun n t e=>cS.bind fun u e2=>Lt.bind fun x v e3=>cS.bind fun z e4=>p9 ?_
      have h1:=jy n t e
      have h2:=iR u e2
      have h3:=hT _ _ x v e3
      have h4:=dB z e4
      dsimp only at h2 h4
      lia
     ·cases h
theorem Gc{N N':Nat->List Bytes->St->Except Fault (List Bytes×St)}{S S':St->Except Fault (List Sum×St)}{I I':Nat->St->Except Fault (Items×St)}{T T':Nat->St->Except Fault (Stats×St)}{s:St}
  (hN:∀m l t,t.ts.length<s.ts.length->N m l t=N' m l t) (hS:∀t,t.ts.length+2<s.ts.length->S t=S' t) (hI:∀d t,t.ts.length<s.ts.length->I d t=I' d t) (hT:∀d t,t.ts.length<s.ts.length->T d t=T' d t):
  gP N S I T s=gP N' S' I' T' s:=by
 unfold gP
 split
 ·rename_i w;have h0:=aY (bO w)
  rw[hN _ _ _ h0]
 ·split
  ·rename_i w;have h0:=aY (bO w)
   rw[hN _ _ _ h0]
  ·split
   ·rename_i w;have h0:=aY (bO w)
    refine congrArg some (a8 rfl fun n t e=>gm fun u e2=>?_)
    have h1:=jy n t e
    have h2:=dB u e2
    rw[hS _ (by dsimp only at h2;lia)]
   ·split
    ·rename_i w;have h0:=aY (bO w)
     refine congrArg some (a8 rfl fun n t e=>gm fun u e2=>?_)
     have h1:=jy n t e
     have h2:=dB u e2
     rw[hI _ _ (by dsimp only at h2;lia)]
    ·split
     ·rename_i w;have h0:=aY (bO w)
      refine congrArg some (a8 rfl fun n t e=>gm fun u e2=>?_)
      have h1:=jy n t e
      have h2:=iR u e2
      rw[hT _ _ (by dsimp only at h2;lia)]
     ·rfl
theorem DR:∀(f g:Nat)(s:St),3*s.ts.length+1<=f->3*s.ts.length+1<=g->headsAt f s=headsAt g s
 |0,_,_,h,_=>by lia
 |_+1,0,_,_,h=>by lia
 |f+1,g+1,s,h1,h2=>by
  rw[tP,tP]
  unfold qo
  rw[Gc (N':=namesAt g) (S':=sumsAt g) (I':=itemsAt g) (T':=statsAt g) (fun m l t ht=>BE f g m l t (by lia) (by lia)) (fun t ht=>wU f g t (by lia) (by lia))
   (fun d t ht=>ql f g d t (by lia) (by lia)) fun d t ht=>uM f g d t (by lia) (by lia)]
  split
  ·rename_i q h
   refine a8 rfl fun x t e=>?_
   have h3:=xA (fun m l s=>(wI g m l s).le) (fun s=>(vH g s).le) (fun d s=>(ja g d s).le) (fun d s=>nF g d s) h x t e
   exact a8 (DR f g t (by lia) (by lia)) fun _ _ _=>rfl
  ·rfl
def kx(s:St):Except Fault (List Head×St):=headsAt (3*s.ts.length+1) s
theorem EA{f:Nat}{s:St}(h:3*s.ts.length+1<=f):headsAt f s=kx s:=DR _ _ _ h (Nat.le_refl _)
def eE(s:St):Option (Except Fault (Head×St)):=gP jQ j2 cR cU s
theorem F9{s:St}{g:Except Fault (Head×St)}(h:eE s=some g):Lt s.ts.length g:=
 xA (fun m l s=>(wI _ m l s).le) (fun s=>(vH _ s).le) (fun d s=>(vN d s).le) (fun d s=>Hk d s) h
theorem AG(s:St):kx s=match eE s with
  |some g=>g>>=fun x=>kx x.2>>=fun r=>.ok (x.1::r.1,r.2)
  |none=>.ok ([],s):=by
 show headsAt (3*s.ts.length+1) s=_
 rw[tP]
 unfold qo
 rw[Gc (N':=jQ) (S':=j2) (I':=cR) (T':=cU) (fun m l t ht=>G5 (by lia)) (fun t ht=>HQ (by lia)) (fun d t ht=>vi (by lia)) fun d t ht=>vV (by lia)]
 show(match eE s with|some g=>_|none=>_)=_
 cases h:eE s with
 |none=>rfl
 |some g=>
  dsimp only
  refine a8 rfl fun x t e=>?_
  have h3:=F9 h x t e
  exact a8 (EA (by dsimp only;lia)) fun _ _ _=>rfl
theorem GB:∀(f:Nat)(s:St),Le s.ts.length (headsAt f s)
 |0,s=>by rw[headsAt];exact iL.le
 |f+1,s=>by
  rw[tP]
  unfold qo
  split
  ·rename_i g h
   refine Le.bind fun x t e=>Le.bind fun r u e2=>il ?_
   have h1:=xA (fun m l s=>(wI f m l s).le) (fun s=>(vH f s).le) (fun d s=>(ja f d s).le) (fun d s=>nF f d s) h x t e
   have h2:=GB f t r u e2
   dsimp only
   lia
  ·exact il (Nat.le_refl _)
theorem G3(b:Bytes):∀(n p:Nat),b.length-p<=n->p<=b.length->(toks b p).length<=b.length-p+1
 |0,p,h,hp=>by
  rw[wo]
  cases ht:c7 (aq b p)with
  |false=>rw[nI ht];simp
  |true=>
   have h1:=Fh ht
   have h2:=zd hp
   lia
 |n+1,p,h,hp=>by
  rw[wo]
  cases ht:c7 (aq b p)with
  |false=>rw[nI ht];simp
  |true=>
   have h1:=Fh ht
   have h2:=zd hp
   rw[mz ht]
   have:=G3 b n (aA b p) (by lia) h2
   simp only[List.length_cons]
   lia
def uj(s:St):Except Fault (Pattern×Env):=
 eatWord "pattern" s>>=fun s=>anyName s>>=fun n=>eatSign ';' n.2>>=fun t=>kx t>>=fun h=>cU 0 h.2>>=fun x=>
  match x.2.ts with
  |⟨_,.done⟩::_=>.ok (⟨n.1,h.1,x.1⟩,x.2.env)
  |_=>wanted x.2
theorem Eb{b:Bytes}(h:b.length<=MOST):readAll b=uj ⟨toks b 0,.none_⟩:=by
 unfold readAll
 rw[if_neg (by lia)]
 show(eatWord "pattern" ⟨tokensOf b,.none_⟩>>=_)=_
 rw[Qv]
 unfold uj
 have hl:(toks b 0).length<=b.length+1:=G3 b b.length 0 (by lia) (by lia)
 have bS:∀{β:Type}{r:Except Fault St}{f g:St->Except Fault β},(∀s,r=.ok s->f s=g s)->(r>>=f)=(r>>=g):=by
  intro β r f g hh
  cases r with
  |error e=>rfl
  |ok s=>exact hh s rfl
 have bP:∀{α β:Type}{r r':Except Fault (α×St)}{f g:α×St->Except Fault β},r=r'->(∀x s,r'=.ok (x,s)->f (x,s)=g (x,s))->(r>>=f)=(r'>>=g):=by
  intro α β r r' f g e hh
  subst e
  cases r with
  |error e=>rfl
  |ok p=>obtain⟨x,s⟩:=p;exact hh x s rfl
 refine bS fun s e=>bP rfl fun n t e1=>bS fun u e2=>?_
 have h1:=Hh s e
 have h2:=qC n t e1
 have h3:=dB u e2
 dsimp only at h1 h2 h3
 refine bP (EA (by lia)) fun hd v e3=>?_
 have h4:=GB _ u hd v e3
 exact bP (vV (by dsimp only;lia)) fun x w e4=>rfl
end Wm
end
section
set_option Elab.async false
set_option linter.all false
set_option maxRecDepth 100000
set_option maxHeartbeats 2000000
namespace Wale
open PySem PySem.Spec PyProof.Rows L2
variable {P:Program}{w:World}{K:PySem.W.Frag}{mg:Str->Option Value}{base:Heap}{a:Ad}
theorem gp{ι:Type}{c:TT}{tb:TS}{D:Ends}{σ:L2.St}{H:Hp}(I:ι->L2.St->Hp->Prop)(μ:ι->Nat)(i0:ι)(h0:I i0 σ H)
  (hs:∀i σ H,I i σ H->c σ H fun b H1=>if b=true then ∃N:L2.St->Hp->Prop,(∀σ' H',N σ' H'->∃m',m'<μ i/\∃j,m'=μ j/\I j σ' H')/\tb {D with nx:=N,ct:=N,bk:=D.nx} σ H1 else D.nx σ H1):HA c tb D σ H:=
 ⟨fun m σ H=>∃i,m=μ i/\I i σ H,⟨_,i0,rfl,h0⟩,fun m σ H⟨i,e,q⟩=>by subst e;exact hs i σ H q⟩
theorem fZ{ι:Type}{tb:TS}{D:Ends}{σ:L2.St}{H:Hp}{I:ι->L2.St->Hp->Prop}{μ:ι->Nat}{i:ι}
  (h:tb {D with nx:=fun σ' H'=>∃j,μ j<μ i/\I j σ' H',ct:=fun σ' H'=>∃j,μ j<μ i/\I j σ' H',bk:=D.nx} σ H):
  ∃N:L2.St->Hp->Prop,(∀σ' H',N σ' H'->∃m',m'<μ i/\∃j,m'=μ j/\I j σ' H')/\tb {D with nx:=N,ct:=N,bk:=D.nx} σ H:=
 ⟨_,fun σ' H'⟨j,l,q⟩=>⟨_,l,j,rfl,q⟩,h⟩
abbrev Bytes:=LsWale.Bytes
def nums(b:Bytes):List V:=b.map fun c=>V.int (c.toNat:Int)
def strOf(b:Bytes):Str:=⟨(b.map UInt8.toNat).toArray⟩
theorem fH(b:Bytes):(nums b).length=b.length:=by unfold nums;rw[List.length_map]
theorem fT{b:Bytes}{i:Nat}{c:UInt8}(h:b[i]? =some c):jE (nums b) (i:Int)=some (.int c.toNat):=by
 refine lM ?_
 unfold nums
 rw[List.getElem?_map,h]
 rfl
def AL(g:Int->Bool):Sp:=fun vs H Q _=>∃n:Int,vs=[.int n]/\Q (.bl (g n)) H
def kg(n:Int):Bool:=decide (97<=n)&&decide (n<=122)
def digit(n:Int):Bool:=decide (48<=n)&&decide (n<=57)
def mn(n:Int):Bool:=kg n||(digit n||decide (n=95))
theorem Py:aI ["byte"] ["byte"] (aC xG):=⟨rfl,rfl,rfl,by decide +kernel,rfl,by decide +kernel,by decide +kernel⟩
theorem uJ(T:Tx P w K mg a):ax P w K mg base aV 1 a.pO a.sf ["byte"] (AL kg):=by
 refine T.qE.fn.ok Py (fun vs H Q E h=>?_) (fun cdv A outer s H vs Q E hr h=>?_)
 ·obtain⟨n,rfl,_⟩:=h;rfl
 obtain⟨n,rfl,k⟩:=h
 refine⟨_,ak (aF (DW rm rm (cT T.GQ) (pv 0) (cT T.J1))),?_⟩
 refine(eX _ rfl ⟨_,eX _ rfl ⟨rfl,eX _ rfl ?_⟩⟩)
 unfold kg at k
 refine aX (fun c=>?_) (fun c=>?_)
 ·rw[c,Bool.true_and]at k
  exact⟨_,eX _ rfl ⟨rfl,k⟩⟩
 ·rw[Bool.eq_false_iff.mpr c,Bool.false_and]at k
  exact k
theorem MG:aI ["byte"] ["byte"] (aC Br):=⟨rfl,rfl,rfl,by decide +kernel,rfl,by decide +kernel,by decide +kernel⟩
theorem vj(T:Tx P w K mg a):ax P w K mg base aV 1 a.r9 a.sQ ["byte"] (AL digit):=by
 refine T.qL.fn.ok MG (fun vs H Q E h=>?_) (fun cdv A outer s H vs Q E hr h=>?_)
 ·obtain⟨n,rfl,_⟩:=h;rfl
 obtain⟨n,rfl,k⟩:=h
 refine⟨_,ak (aF (DW rm rm (cT T.vY) (pv 0) (cT T.Qr))),?_⟩
 refine(eX _ rfl ⟨_,eX _ rfl ⟨rfl,eX _ rfl ?_⟩⟩)
 unfold digit at k
 refine aX (fun c=>?_) (fun c=>?_)
 ·rw[c,Bool.true_and]at k
  exact⟨_,eX _ rfl ⟨rfl,k⟩⟩
 ·rw[Bool.eq_false_iff.mpr c,Bool.false_and]at k
  exact k
theorem Q5:aI ["byte"] ["byte"] (aC xB):=⟨rfl,rfl,rfl,by decide +kernel,rfl,by decide +kernel,by decide +kernel⟩
theorem K3(T:Tx P w K mg a):ax P w K mg base aV 2 a.qc a.sE ["byte"] (AL mn):=by
 refine T.E8.fn.ok Q5 (fun vs H Q E h=>?_) (fun cdv A outer s H vs Q E hr h=>?_)
 ·obtain⟨n,rfl,_⟩:=h;rfl
 obtain⟨n,rfl,k⟩:=h
 refine⟨_,ak (aF (va (aN T.qE (uJ T) hr aU (aa (pv 0) ag)) (va (aN T.qL (vj T) hr aU (aa (pv 0) ag)) (gY (gO cp (pv 0) (cT T.GZ) (aZ _)))))),?_⟩
 refine(eX _ rfl ⟨n,rfl,eX _ rfl ?_⟩)
 unfold mn at k
 refine aX (fun c=>?_) (fun c=>?_)
 ·rw[c,Bool.true_or]at k;exact k
 rw[Bool.eq_false_iff.mpr c,Bool.false_or]at k
 refine(eX _ rfl ⟨n,rfl,eX _ rfl ?_⟩)
 refine aX (fun c=>?_) (fun c=>?_)
 ·rw[c,Bool.true_or]at k;exact k
 rw[Bool.eq_false_iff.mpr c,Bool.false_or]at k
 refine(eX _ rfl ⟨rfl,?_⟩)
 rw[show decide (V.int n=V.int 95)=decide (n=95) by by_cases h:n=95<;>simp[h]]
 exact k
theorem MS:∀k:Nat,k<26->("abcdefghijklmnopqrstuvwxyz":Str).cps.toList[k]? =some (97+k):=by decide +kernel
theorem Oh:∀k:Nat,k<10->("0123456789":Str).cps.toList[k]? =some (48+k):=by decide +kernel
def Mb:Sp:=fun vs H Q _=>∃n:Int,vs=[.int n]/\mn n=true/\Q (.str ⟨#[n.toNat]⟩) H
theorem Lw:aI ["byte"] ["byte"] (aC y8):=⟨rfl,rfl,rfl,by decide +kernel,rfl,by decide +kernel,by decide +kernel⟩
theorem Ib(T:Tx P w K mg a):ax P w K mg base aV 2 a.q5 a.rD ["byte"] Mb:=by
 refine T.sign_of.fn.ok Lw (fun vs H Q E h=>?_) (fun cdv A outer s H vs Q E hr h=>?_)
 ·obtain⟨n,rfl,_⟩:=h;rfl
 obtain⟨n,rfl,ht,k⟩:=h
 refine⟨_,aj (a4 (cY (aN T.qE (uJ T) hr aU (aa (pv 0) ag))) (ak (aF (dU GY (bH T.Ml) (gM AK (pv 0) (cT T.GQ)) (fun _ _=>rfl)))) ba)
  (aj (a4 (cY (aN T.qL (vj T) hr aU (aa (pv 0) ag))) (ak (aF (dU GY (bH T.Jk) (gM AK (pv 0) (cT T.vY)) (fun _ _=>rfl)))) ba)
  (ak (aF aT))),?_⟩
 refine(eX _ rfl ⟨n,rfl,eX _ rfl ?_⟩)
 refine aX (fun c=>?_) (fun c=>?_)
 ·simp only[kg,Bool.and_eq_true,decide_eq_true_eq]at c
  refine(eX _ rfl ⟨_,eX _ rfl ⟨rfl,_,_,n.toNat,rfl,rfl,by decide,?_,k⟩⟩)
  have e:n-97=((n.toNat-97:Nat):Int):=by lia
  rw[e]
  refine lM ?_
  rw[MS _ (by lia)]
  congr 1;lia
 refine(eX _ rfl ⟨n,rfl,eX _ rfl ?_⟩)
 refine aX (fun c2=>?_) (fun c2=>?_)
 ·simp only[digit,Bool.and_eq_true,decide_eq_true_eq]at c2
  refine(eX _ rfl ⟨_,eX _ rfl ⟨rfl,_,_,n.toNat,rfl,rfl,by decide,?_,k⟩⟩)
  have e:n-48=((n.toNat-48:Nat):Int):=by lia
  rw[e]
  refine lM ?_
  rw[Oh _ (by lia)]
  congr 1;lia
 ·have h95:n=95:=by
   simp only[mn,Bool.eq_false_iff.mpr c,Bool.eq_false_iff.mpr c2,Bool.false_or,decide_eq_true_eq]at ht
   exact ht
  subst h95
  exact k
def AM(K:PySem.W.Frag):Sp:=fun vs H Q _=>∃(p:Addr)(b:Bytes),vs=[.ref p]/\aM K H p (nums b)/\(∀c∈b,mn (c.toNat:Int)=true)/\b.length<=20000/\∀H',aO H H'->Q (.str (strOf b)) H'
theorem zN:aI ["codes","byte"] ["codes"] (aC uS):=⟨rfl,rfl,rfl,by decide +kernel,rfl,by decide +kernel,by decide +kernel⟩
theorem join_one(b:Bytes):Txt.join "" (b.map fun c=>(⟨#[c.toNat]⟩:Str))=strOf b:=by
 rw[TL.join_eq]
 have e:∀l:List (List Nat),TL.mH [] l=l.flatten:=by
  intro l
  induction l with
  |nil=>rfl
  |cons p r ih=>
   cases r with
   |nil=>simp[TL.mH]
   |cons q r=>rw[TL.mH,ih];simp
 have h:=TL.HN "" (b.map fun c=>(⟨#[c.toNat]⟩:Str))
 rw[show TL.tl ("":Str)=[]from by decide +kernel,e,List.map_map]at h
 have h2:(List.map (TL.tl∘fun c=>(⟨#[UInt8.toNat c]⟩:Str)) b).flatten=b.map UInt8.toNat:=by
  clear h
  induction b with
  |nil=>rfl
  |cons c r ih=>rw[List.map_cons,List.flatten_cons,ih];rfl
 rw[h2]at h
 unfold strOf
 generalize Str.join "" (b.map fun c=>(⟨#[c.toNat]⟩:Str))=z at h
 obtain⟨⟨l⟩⟩:=z
 have h3:l=b.map UInt8.toNat:=h
 rw[h3]
theorem Pp:tq ["codes","byte"] (aC uS) {kind:=.function,names:=[(".0",.local),("byte",.local),("sign_of",.globalImplicit)],isGenerator:=false,isCoroutine:=false} [("byte",1)]:=Jz (by decide +kernel)
theorem GD(T:Tx P w K mg a):ax P w K mg base aV 3 a.qb a.qJ ["codes"] (AM K):=by
 refine T.spelled.fn.ok zN (fun vs H Q E h=>?_) (fun cdv A outer s H vs Q E hr h=>?_)
 ·obtain⟨_,_,rfl,_⟩:=h;rfl
 obtain⟨p,b,rfl,hS,ht,hl,k⟩:=h
 refine⟨_,ak (aF (IT aT (JS (own:=[("byte",1)]) rfl zN.nd (MN (pv 0)) Pp (fun _ _ _ _ _=>BK (i:=1) zN.nd rfl (Or.inl rfl)) (fun _ _ _ _ _=>Qg)
  (fun _ _ _ _ _=>aN T.sign_of (Ib T) hr aU (aa (pv 1) ag))))),?_⟩
 refine⟨⟨_,rfl⟩,eX _ rfl ⟨p,rfl,⟨_,hS⟩,fun D hD=>?_⟩⟩
 have s0:aO H (upd H D (.lst [])):=fun x o e=>by rw[ao (dI e hD)];exact e
 refine PY (K:=K) (a:=p) (xs:=nums b) (fun i H'=>aO H H'/\H' D=some (.lst ((b.take i).map fun c=>V.str ⟨#[c.toNat]⟩))) ⟨s0,aB⟩ (fun i H' _ q=>q.1.seq hS) (fun i x H' hi q=>?_) (fun H' q=>?_)
 ·obtain⟨sm,hd⟩:=q
  unfold nums at hi
  rw[List.getElem?_map]at hi
  obtain⟨c,hc,rfl⟩:=Option.map_eq_some_iff.mp hi
  have hi2:i<b.length:=(List.getElem?_eq_some_iff.mp hc).1
  refine⟨rfl,⟨_,rfl,_,rfl,ht c (List.mem_of_getElem? hc),_,hd,?_,?_,?_⟩⟩
  ·rw[List.length_map,List.length_take,sizeLine_eq];lia
  ·exact fun x o e=>by
    rw[ao (dI e hD)]
    exact sm x o e
  ·rw[aB,List.take_add_one,hc]
   simp
 ·obtain⟨sm,hd⟩:=q
  rw[fH,List.take_length]at hd
  refine⟨_,D,b.map fun c=>(⟨#[c.toNat]⟩:Str),rfl,rfl,.inl (aM.of (by rw[hd,List.map_map];rfl)),?_,?_⟩
  ·have:((b.map fun c=>(⟨#[c.toNat]⟩:Str)).map (·.length)).sum=b.length:=by
    rw[List.map_map]
    clear hd sm s0 hD k hl ht hS
    induction b with
    |nil=>rfl
    |cons c r ih=>rw[List.map_cons,List.sum_cons,ih,List.length_cons];show 1+_=_;lia
   rw[this]
   show _+_*0<=_
   lia
  ·rw[join_one]
   exact k H' sm
end Wale
end
section
set_option linter.all false
namespace Wm
open LsWale
theorem drop_cons{b:Bytes}{q:Nat}{c:UInt8}(h:b[q]? =some c):b.drop q=c::b.drop (q+1):=by
 obtain⟨hl,rfl⟩:=List.getElem?_eq_some_iff.mp h
 exact List.drop_eq_getElem_cons hl
theorem wD{b:Bytes}{q:Nat}(h:b.length<=q):b.drop q=[]:=List.drop_eq_nil_of_le h
theorem nh(c:UInt8):isByte c=true↔c.toNat=10\/(32<=c.toNat/\c.toNat<=126):=by
 unfold isByte
 rw[Bool.or_eq_true,Bool.and_eq_true,decide_eq_true_eq,decide_eq_true_eq,beq_iff_eq,UInt8.le_iff_toNat_le,UInt8.le_iff_toNat_le,<-UInt8.toNat_inj]
 rfl
theorem vb(c:UInt8):isLetter c=true↔97<=c.toNat/\c.toNat<=122:=by
 unfold isLetter
 rw[Bool.and_eq_true,decide_eq_true_eq,decide_eq_true_eq,UInt8.le_iff_toNat_le,UInt8.le_iff_toNat_le]
 rfl
theorem uz(c:UInt8):isDigit c=true↔48<=c.toNat/\c.toNat<=57:=by
 unfold isDigit
 rw[Bool.and_eq_true,decide_eq_true_eq,decide_eq_true_eq,UInt8.le_iff_toNat_le,UInt8.le_iff_toNat_le]
 rfl
theorem Fv(c:UInt8):isTail c=true↔(97<=c.toNat/\c.toNat<=122)\/c.toNat=95:=by
 unfold isTail
 rw[Bool.or_eq_true,vb,beq_iff_eq,<-UInt8.toNat_inj]
 rfl
theorem xD{b:Bytes}{q:Nat}{c:UInt8}(h:b[q]? =some c):blanks false (b.drop q)=
  if c.toNat=10\/c.toNat=32 then 1+blanks false (b.drop (q+1))else if c.toNat=35 then 1+blanks true (b.drop (q+1))else 0:=by
 rw[drop_cons h,blanks]
 have e1:(c=10\/c=32)↔(c.toNat=10\/c.toNat=32):=by rw[<-UInt8.toNat_inj,<-UInt8.toNat_inj];rfl
 have e2:c=35↔c.toNat=35:=by rw[<-UInt8.toNat_inj];rfl
 simp only[e1,e2]
theorem vK{b:Bytes}{q:Nat}{c:UInt8}(h:b[q]? =some c):blanks true (b.drop q)=
  if c.toNat=10 then 1+blanks false (b.drop (q+1))else if isByte c=true then 1+blanks true (b.drop (q+1))else 0:=by
 rw[drop_cons h,blanks]
 have e2:c=10↔c.toNat=10:=by rw[<-UInt8.toNat_inj];rfl
 simp only[e2]
theorem Bo{f:Bool}{b:Bytes}{q:Nat}(h:b.length<=q):blanks f (b.drop q)=0:=by
 rw[wD h];cases f<;>rfl
theorem KI(d:Bytes)(c:UInt8):valueOf (d++[c])=10*valueOf d+(c.toNat-48):=by
 unfold valueOf;rw[List.foldl_append];rfl
theorem Im(v d:Nat):min (min v 1048577*10+d) 1048577=min (10*v+d) 1048577:=by lia
def run(f:UInt8->Bool)(b:Bytes)(p:Nat):Nat:=((b.drop p).takeWhile f).length
theorem Bq{f:UInt8->Bool}{b:Bytes}{p:Nat}{c:UInt8}(h:b[p]? =some c):run f b p=if f c=true then 1+run f b (p+1)else 0:=by
 unfold run
 rw[drop_cons h,List.takeWhile_cons]
 split
 ·rw[List.length_cons];lia
 ·rfl
theorem yq{f:UInt8->Bool}{b:Bytes}{p:Nat}(h:b.length<=p):run f b p=0:=by
 unfold run;rw[wD h];rfl
theorem vd(f:UInt8->Bool)(l:Bytes):l.take (l.takeWhile f).length=l.takeWhile f:=by
 induction l with
 |nil=>rfl
 |cons c r ih=>
  rw[List.takeWhile_cons]
  split
  ·rw[List.length_cons,List.take_succ_cons,ih]
  ·rfl
theorem D4{f:UInt8->Bool}{l:Bytes}:∀c∈l.takeWhile f,f c=true:=by
 intro c hc
 induction l with
 |nil=>cases hc
 |cons d r ih=>
  rw[List.takeWhile_cons]at hc
  split at hc
  ·rename_i q
   rcases List.mem_cons.mp hc with rfl|hc
   ·exact q
   ·exact ih hc
  ·cases hc
theorem take_snoc{l:Bytes}{i:Nat}{c:UInt8}(h:l[i]? =some c):l.take (i+1)=l.take i++[c]:=by
 rw[List.take_add_one,h];rfl
def d7(c:UInt8):Bool:=isTail c||isDigit c
theorem g8:∀w∈DIGITWORDS,(∀c∈w,d7 c=true)/\w.length<=5/\1<=w.length:=by decide +kernel
theorem FO{f:UInt8->Bool}{b w:Bytes}(h1:b.take w.length=w)(h2:∀c∈w,f c=true)(h3:((b.drop w.length).take 1).any f=false):b.takeWhile f=w:=by
 have e:b=w++b.drop w.length:=by
  have:=List.take_append_drop w.length b
  rw[h1]at this
  exact this.symm
 rw[e,List.takeWhile_append_of_pos h2]
 cases hd:b.drop w.length with
 |nil=>simp
 |cons c r=>
  rw[hd]at h3
  simp only[List.take_succ_cons,List.take_zero,List.any_cons,List.any_nil,Bool.or_false]at h3
  rw[List.takeWhile_cons,h3]
  simp
theorem Pq{f:UInt8->Bool}{b w:Bytes}(h:b.takeWhile f=w):b.take w.length=w/\((b.drop w.length).take 1).any f=false:=by
 subst h
 refine⟨vd f b,?_⟩
 induction b with
 |nil=>rfl
 |cons c r ih=>
  rw[List.takeWhile_cons]
  split
  ·rw[List.length_cons,List.drop_succ_cons];exact ih
  ·rename_i q
   simp only[List.length_nil,List.drop_zero,List.take_succ_cons,List.take_zero,List.any_cons,List.any_nil,Bool.or_false]
   simpa using q
def dk(b:Bytes):Bytes:=(b.takeWhile d7).take 6
theorem Nq{b w:Bytes}(h:dk b=w)(hl:w.length<=5):b.takeWhile d7=w:=by
 unfold dk at h
 have h1:min 6 (b.takeWhile d7).length=w.length:=by rw[<-h,List.length_take]
 rw[<-h,List.take_of_length_le (by lia)]
theorem FC{b:Bytes}(h:dk b∈DIGITWORDS):wordAt b=dk b:=by
 obtain⟨h1,h2,h3⟩:=g8 _ h
 have e:=Nq rfl h2
 have⟨t1,t2⟩:=Pq e
 unfold wordAt
 have:DIGITWORDS.find? (fun(w:Bytes)=>b.take w.length==w&& !((b.drop w.length).take 1).any fun(c:UInt8)=>isTail c||isDigit c)=some (dk b):=by
  cases hf:DIGITWORDS.find? (fun(w:Bytes)=>b.take w.length==w&& !((b.drop w.length).take 1).any fun(c:UInt8)=>isTail c||isDigit c)with
  |none=>
   exfalso
   have:=List.find?_eq_none.mp hf _ h
   simp only[t1,beq_self_eq_true,Bool.true_and]at this
   exact this (by rw[show(((b.drop (dk b).length).take 1).any fun(c:UInt8)=>isTail c||isDigit c)=false from t2];rfl)
  |some w=>
   have hm:=List.mem_of_find?_eq_some hf
   have hp:=List.find?_some hf
   simp only[Bool.and_eq_true,beq_iff_eq,Bool.not_eq_true']at hp
   have:=FO hp.1 (g8 w hm).1 hp.2
   rw[e]at this
   rw[this]
 rw[this]
theorem C3{c:UInt8}{r:Bytes}(h:dk (c::r)∉DIGITWORDS)(hc:isLetter c=true):wordAt (c::r)=(c::r).takeWhile isTail:=by
 unfold wordAt
 have:DIGITWORDS.find? (fun(w:Bytes)=>(c::r).take w.length==w&& !(((c::r).drop w.length).take 1).any fun(c:UInt8)=>isTail c||isDigit c)=none:=by
  refine List.find?_eq_none.mpr fun w hm hp=>h ?_
  simp only[Bool.and_eq_true,beq_iff_eq,Bool.not_eq_true']at hp
  have e:=FO hp.1 (g8 w hm).1 hp.2
  have e2:dk (c::r)=w:=by
   have e':(c::r).takeWhile d7=w:=e
   unfold dk
   rw[e',List.take_of_length_le (by have:=(g8 w hm).2.1;lia)]
  rw[e2];exact hm
 rw[this]
 have ht:isTail c=true:=by unfold isTail;rw[hc];rfl
 simp only[hc,if_true]
 rw[List.takeWhile_cons,if_pos ht]
end Wm
end
section
set_option Elab.async false
set_option linter.all false
set_option maxRecDepth 100000
set_option maxHeartbeats 2000000
namespace Wale
open PySem PySem.Spec PyProof.Rows L2
open Wm (xD vK Bo nh aP aq aA)
open LsWale (blanks isByte)
variable {P:Program}{w:World}{K:PySem.W.Frag}{mg:Str->Option Value}{base:Heap}{a:Ad}
theorem jA{X:Cx}{e:Expr}{te:TE}{p pos:Pos}(hm:X.mg "len"=none)(he:PE X e te)(hg:Gl X "len":=by rfl)(hst:starEach [e] X.env=[(false,eval e X.env)]:=by rfl):
  PE X (.Call (.Name "len" p) [e] [] pos) (sv (fun xs H Q=>∃p ys,xs=[.ref p]/\(aM X.K H p ys\/dZ X.K H p ys)/\Q (.int ys.length) H) (b7 te eI)):=
 pq zY hg hm PySem.boot_len (aa he ag hst) (by decide) (by decide) hst rfl
theorem gn{i j:Int}:decide (V.int i=V.int j)=decide (i=j):=by by_cases h:i=j<;>simp[h]
def MC(K:PySem.W.Frag)(a:Ad):Sp:=fun vs H Q E=>∃(t:Addr)(b:Bytes)(p:Nat),vs=[.ref t,.int p]/\aM K H t (nums b)/\(∃c,b[p]? =some c/\c.toNat=35)/\
 (∀q:Nat,p<q->q<=b.length->q+blanks false (b.drop q)=p+blanks true (b.drop p)->Q (.int q) H)/\
 ∀c,b[p+blanks true (b.drop p)]? =some c->isByte c=false->Told K a E 1 (p+blanks true (b.drop p):Nat)
theorem Aa:aI ["t","start","place"] ["t","start"] (aC Ba):=⟨rfl,rfl,rfl,by decide +kernel,rfl,by decide +kernel,by decide +kernel⟩
theorem Rk(T:Tx P w K mg a):ax P w K mg base (bj P w) 4 a.qN a.rZ ["t","start"] (MC K a):=by
 refine T.CZ.fn.bz Aa (fun vs H Q E h=>?_) (fun cdv A outer s H vs Q E hr h=>?_)
 ·obtain⟨_,_,_,rfl,_⟩:=h;rfl
 obtain⟨t,b,p,rfl,hS,⟨c0,hc0,h35⟩,k1,k2⟩:=h
 refine⟨_,aj (a3 (i:=2) Aa.nd rfl (Or.inl rfl) (pv 1)) (aj (gN iD
   (PW.pt (ng (a5 lp (pv 2) (jA T.gL (pv 0)) (aZ _)) (rp (a5 j4 (dU f6 (pv 0) (pv 2) (fun _ _=>rfl)) (cT T.FG) (aZ _)))))
   (aj (a4 (PW.pt (iM (a5 lp (dU f6 (pv 0) (pv 2) (fun _ _=>rfl)) (cT T.O0) (aZ _)) (iK (a5 jO (dU f6 (pv 0) (pv 2) (fun _ _=>rfl)) (cT T.Mw) (aZ _)))))
     (ak (fB rfl fD T.qx (FD T) T.zV.2 (hr.mono (by decide)) (pv 2))) ba)
    (ak (pQ (i:=2) Aa.nd rfl (Or.inl rfl) bF qH))))
  (ak (aF (pv 2)))),?_⟩
 refine(eX _ rfl ?_)
 refine gp (fun(q:Nat)σ H'=>H'=H/\σ=[some (.ref t),some (.int p),some (.int q)]/\p<=q/\q<=b.length/\q+blanks true (b.drop q)=p+blanks true (b.drop p)) (fun q=>b.length-q) p
  ⟨rfl,rfl,Nat.le_refl _,Nat.le_of_lt (List.getElem?_eq_some_iff.mp hc0).1,rfl⟩ ?_
 rintro q σ H' ⟨rfl,rfl,l1,l2,e⟩
 refine(eX _ rfl (eX _ rfl ⟨t,eX _ rfl ⟨.inl hS,_,eX _ rfl ⟨rfl,eX _ rfl ?_⟩⟩⟩))
 refine aX (fun c=>?_) (fun c=>?_)
 ·rw[fH]at c
  have lt:q<b.length:=by have:=of_decide_eq_true c;lia
  obtain⟨cb,hcb⟩:∃c,b[q]? =some c:=⟨_,List.getElem?_eq_getElem lt⟩
  refine(eX _ rfl (eX _ rfl ⟨t,_,_,eX _ rfl ⟨rfl,hS,fT hcb,rfl,eX _ rfl ?_⟩⟩))
  rw[gn]
  refine aX (fun c2=>?_) (fun c2=>?_)
  ·have n10:cb.toNat≠10:=fun z=>by rw[z]at c2;exact absurd c2 (by decide)
   refine fZ ?_
   refine(eX _ rfl (eX _ rfl ⟨t,_,_,eX _ rfl ⟨rfl,hS,fT hcb,_,eX _ rfl ⟨rfl,eX _ rfl ?_⟩⟩⟩))
   have bt:=vK hcb
   rw[if_neg n10]at bt
   refine aX (fun c3=>?_) (fun c3=>?_)
   ·have hb:isByte cb=false:=Bool.eq_false_iff.mpr fun z=>by
     have:=of_decide_eq_true c3
     rcases(nh cb).mp z with z|z<;>lia
    rw[if_neg (by rw[hb];decide)]at bt
    refine(eX _ rfl (eR T.qx ?_))
    have eq:q=p+blanks true (b.drop p):=by lia
    rw[eq]
    exact k2 cb (by rw[<-eq];exact hcb) hb
   ·refine(eX _ rfl (eX _ rfl ⟨t,_,_,eX _ rfl ⟨rfl,hS,fT hcb,_,eX _ rfl ⟨rfl,eX _ rfl ?_⟩⟩⟩))
    refine aX (fun c4=>?_) (fun c4=>?_)
    ·have hb:isByte cb=false:=Bool.eq_false_iff.mpr fun z=>by
      have:=of_decide_eq_true c4
      rcases(nh cb).mp z with z|z<;>lia
     rw[if_neg (by rw[hb];decide)]at bt
     refine(eX _ rfl (eR T.qx ?_))
     have eq:q=p+blanks true (b.drop p):=by lia
     rw[eq]
     exact k2 cb (by rw[<-eq];exact hcb) hb
    ·have h3:¬((cb.toNat:Int)<32):=fun z=>c3 (decide_eq_true z)
     have h4:¬((126:Int)<cb.toNat):=fun z=>c4 (decide_eq_true z)
     have hb:isByte cb=true:=(nh cb).mpr (.inr ⟨by lia,by lia⟩)
     rw[if_pos hb]at bt
     refine(eX _ rfl ⟨_,eX _ rfl ⟨rfl,q+1,by lia,rfl,?_,by lia,lt,by lia⟩⟩)
     rfl
  ·have n10:cb.toNat=10:=by
    have:=Bool.eq_false_iff.mpr c2
    simp only[Bool.not_eq_false',decide_eq_true_eq]at this
    lia
   have bt:=vK hcb
   have bf:=xD hcb
   rw[if_pos n10]at bt
   rw[if_pos (.inl n10)]at bf
   refine(eX _ rfl (k1 q ?_ l2 (by lia)))
   refine Nat.lt_of_le_of_ne l1 fun z=>?_
   rw[<-z,hc0]at hcb
   cases hcb
   lia
 ·rw[fH]at c
  have ge:b.length<=q:=by
   have:¬((q:Int)<b.length):=fun z=>c (decide_eq_true z)
   lia
  refine(eX _ rfl (k1 q ?_ l2 (by rw[Bo ge]at e ⊢;exact e)))
  have:=(List.getElem?_eq_some_iff.mp hc0).1
  lia
def Np(K:PySem.W.Frag)(a:Ad):Sp:=fun vs H Q E=>∃(t:Addr)(b:Bytes)(p:Nat),vs=[.ref t,.int p]/\aM K H t (nums b)/\p<=b.length/\Q (.int (aP b p:Nat)) H/\
 ∀c,b[aP b p]? =some c->isByte c=false->Told K a E 1 (aP b p:Nat)
theorem wt:aI ["t","start","place"] ["t","start"] (aC wQ):=⟨rfl,rfl,rfl,by decide +kernel,rfl,by decide +kernel,by decide +kernel⟩
theorem LM(T:Tx P w K mg a):ax P w K mg base (bj P w) 5 a.r0 a.sM ["t","start"] (Np K a):=by
 refine T.B2.fn.bz wt (fun vs H Q E h=>?_) (fun cdv A outer s H vs Q E hr h=>?_)
 ·obtain⟨_,_,_,rfl,_⟩:=h;rfl
 obtain⟨t,b,p,rfl,hS,hp,k1,k2⟩:=h
 refine⟨_,aj (a3 (i:=2) wt.nd rfl (Or.inl rfl) (pv 1)) (aj (gN iD (a5 lp (pv 2) (jA T.gL (pv 0)) (aZ _))
   (ak (a4 (a5 cp (dU f6 (pv 0) (pv 2) (fun _ _=>rfl)) (cT T.MB) (aZ _))
    (ak (a3 (i:=2) wt.nd rfl (Or.inl rfl) (aN T.CZ (Rk T) hr aw (aa (pv 0) (aa (pv 2) ag)))))
    (ak (a4 (PW.pt (iM (a5 cp (dU f6 (pv 0) (pv 2) (fun _ _=>rfl)) (cT T.FG) (aZ _)) (iK (a5 cp (dU f6 (pv 0) (pv 2) (fun _ _=>rfl)) (cT T.Nz) (aZ _)))))
     (ak (pQ (i:=2) wt.nd rfl (Or.inl rfl) bF qH)) (ak (aF (pv 2))))))))
  (ak (aF (pv 2)))),?_⟩
 refine(eX _ rfl ?_)
 refine gp (fun(q:Nat)σ H'=>H'=H/\σ=[some (.ref t),some (.int p),some (.int q)]/\q<=b.length/\q+blanks false (b.drop q)=aP b p) (fun q=>b.length-q) p ⟨rfl,rfl,hp,rfl⟩ ?_
 rintro q σ H' ⟨rfl,rfl,l2,e⟩
 refine(eX _ rfl (eX _ rfl ⟨t,eX _ rfl ⟨.inl hS,_,eX _ rfl ⟨rfl,eX _ rfl ?_⟩⟩⟩))
 refine aX (fun c=>?_) (fun c=>?_)
 ·rw[fH]at c
  have lt:q<b.length:=by have:=of_decide_eq_true c;lia
  obtain⟨cb,hcb⟩:∃c,b[q]? =some c:=⟨_,List.getElem?_eq_getElem lt⟩
  have bf:=xD hcb
  refine fZ ?_
  refine(eX _ rfl (eX _ rfl ⟨t,_,_,eX _ rfl ⟨rfl,hS,fT hcb,rfl,eX _ rfl ?_⟩⟩))
  rw[gn]
  refine aX (fun c2=>?_) (fun c2=>?_)
  ·have h35:cb.toNat=35:=by have:=of_decide_eq_true c2;lia
   rw[if_neg (by lia),if_pos h35]at bf
   have bt:=vK hcb
   rw[if_neg (by lia),if_pos ((nh cb).mpr (.inr ⟨by lia,by lia⟩))]at bt
   have eq:q+blanks true (b.drop q)=aP b p:=by lia
   refine(eX _ rfl (eX _ rfl ⟨t,b,q,rfl,hS,⟨cb,hcb,h35⟩,fun r r1 r2 r3=>?_,fun c hc hb=>?_⟩))
   ·exact⟨r,by lia,rfl,rfl,r2,by lia⟩
   ·rw[eq]at hc ⊢
    exact k2 c hc hb
  ·have h35:cb.toNat≠35:=fun z=>c2 (decide_eq_true (by lia))
   refine(eX _ rfl (eX _ rfl ⟨t,_,_,eX _ rfl ⟨rfl,hS,fT hcb,rfl,eX _ rfl ?_⟩⟩))
   rw[gn]
   have go:(cb.toNat=10\/cb.toNat=32)->q+1+blanks false (b.drop (q+1))=aP b p:=fun z=>by
    rw[if_pos z]at bf;lia
   refine aX (fun c3=>?_) (fun c3=>?_)
   ·have z:cb.toNat=10:=by have:=of_decide_eq_true c3;lia
    refine(eX _ rfl ⟨_,eX _ rfl ⟨rfl,q+1,by lia,rfl,rfl,lt,go (.inl z)⟩⟩)
   ·have n10:cb.toNat≠10:=fun z=>c3 (decide_eq_true (by lia))
    refine(eX _ rfl (eX _ rfl ⟨t,_,_,eX _ rfl ⟨rfl,hS,fT hcb,rfl,eX _ rfl ?_⟩⟩))
    rw[gn]
    refine aX (fun c4=>?_) (fun c4=>?_)
    ·have z:cb.toNat=32:=by have:=of_decide_eq_true c4;lia
     exact(eX _ rfl ⟨_,eX _ rfl ⟨rfl,q+1,by lia,rfl,rfl,lt,go (.inr z)⟩⟩)
    ·have n32:cb.toNat≠32:=fun z=>c4 (decide_eq_true (by lia))
     rw[if_neg (by lia),if_neg h35]at bf
     refine(eX _ rfl ?_)
     rw[show(q:Int)=(aP b p:Nat) by lia]
     exact k1
 ·rw[fH]at c
  have ge:b.length<=q:=by
   have:¬((q:Int)<b.length):=fun z=>c (decide_eq_true z)
   lia
  refine(eX _ rfl ?_)
  rw[Bo ge]at e
  rw[show(q:Int)=(aP b p:Nat) by lia]
  exact k1
end Wale
end
section
set_option Elab.async false
set_option linter.all false
set_option maxRecDepth 100000
set_option maxHeartbeats 2000000
namespace Wale
open PySem PySem.Spec PyProof.Rows L2
open Wm
open LsWale (blanks isByte isLetter isDigit isTail valueOf isNumber DIGITWORDS wordAt oneToken KEYWORDS PLAINS isName)
variable {P:Program}{w:World}{K:PySem.W.Frag}{mg:Str->Option Value}{base:Heap}{a:Ad}
def b9(C:Addr)(H:Hp)(x:Addr)(kd tx:Str)(n pl af:Int):Prop:=∃dx fs,H x=some (.ins C dx fs)/\fs.lookup ("kind":Str)=some (.str kd)/\fs.lookup ("text":Str)=some (.str tx)/\fs.lookup ("number":Str)=some (.int n)/\
 fs.lookup ("place":Str)=some (.int pl)/\fs.lookup ("after":Str)=some (.int af)
def me(C:Addr):Sp:=fun vs H Q _=>∃(x dx:Addr)(kd tx:Str)(n pl af:Int),vs=[.ref x,.str kd,.str tx,.int n,.int pl,.int af]/\H x=some (.ins C dx [])/\
 ∀H':Hp,b9 C H' x kd tx n pl af->(∀b o,H b=some o->b≠x->H' b=some o)->Q .ay H'
theorem KG:aI ["self","kind","text","number","place","after"] ["self","kind","text","number","place","after"] (aC yc):=⟨rfl,rfl,rfl,by decide +kernel,rfl,by decide +kernel,by decide +kernel⟩
theorem vg(f:Str)(v:V)(fs:List (Str×V))(n:Nat)(h:fs.length<=n):(cG f v fs).length<=n+1:=Nat.le_trans (Bb f v fs) (Nat.succ_le_succ h)
theorem q0{f:Str}{v:V}{fs:List (Str×V)}:(cG f v fs).lookup f=some v:=by rw[qp,if_pos rfl]
theorem iC{f g:Str}{v:V}{fs:List (Str×V)}(h:g≠f):(cG f v fs).lookup g=fs.lookup g:=by rw[qp,if_neg h]
theorem K2(T:Tx P w K mg a):ax P w K mg base aV 1 a.lg a.oh ["self","kind","text","number","place","after"] (me a.bQ):=by
 refine T.Dz.1.ok KG (fun vs H Q E h=>?_) (fun cdv A outer s H vs Q E hr h=>?_)
 ·obtain⟨_,_,_,_,_,_,_,rfl,_⟩:=h;rfl
 obtain⟨x,dx,kd,tx,n,pl,af,rfl,hx,k⟩:=h
 refine⟨_,aj (dg (pv 0) (pv 1) rfl) (aj (dg (pv 0) (pv 2) rfl) (aj (dg (pv 0) (pv 3) rfl) (aj (dg (pv 0) (pv 4) rfl) (ak (dg (pv 0) (pv 5) rfl))))),?_⟩
 have C:=T.bx.cl
 refine(eX _ rfl (eX _ rfl ⟨x,_,dx,eX _ rfl ⟨hx,C,T.kE,(by show 0<1000;decide),?_⟩⟩))
 have l1:=vg "kind" (.str kd) [] 0 (Nat.le_refl _)
 have l2:=vg "text" (.str tx) _ 1 l1
 have l3:=vg "number" (.int n) _ 2 l2
 have l4:=vg "place" (.int pl) _ 3 l3
 refine(eX _ rfl (eX _ rfl ⟨x,_,dx,eX _ rfl ⟨aB,C,T.cf,(by lia),?_⟩⟩))
 refine(eX _ rfl (eX _ rfl ⟨x,_,dx,eX _ rfl ⟨aB,C,T.qt,(by lia),?_⟩⟩))
 refine(eX _ rfl (eX _ rfl ⟨x,_,dx,eX _ rfl ⟨aB,C,T.ig,(by lia),?_⟩⟩))
 refine(eX _ rfl (eX _ rfl ⟨x,_,dx,eX _ rfl ⟨aB,C,T.BQ,(by lia),?_⟩⟩))
 refine k _ ⟨dx,_,aB,?_,?_,?_,?_,?_⟩ fun b o e hb=>by rw[ao hb,ao hb,ao hb,ao hb,ao hb];exact e
 ·rw[iC (by decide +kernel),iC (by decide +kernel),iC (by decide +kernel),iC (by decide +kernel),q0]
 ·rw[iC (by decide +kernel),iC (by decide +kernel),iC (by decide +kernel),q0]
 ·rw[iC (by decide +kernel),iC (by decide +kernel),q0]
 ·rw[iC (by decide +kernel),q0]
 ·rw[q0]
theorem nu{X:Cx}{e1 e2 e3 e4 e5:Expr}{t1 t2 t3 t4 t5:TE}{p pos:Pos}(T:Tx X.prog X.w X.K X.mg a)(hr:bC 2 X.A)(h1:PE X e1 t1)(h2:PE X e2 t2)(h3:PE X e3 t3)(h4:PE X e4 t4)(h5:PE X e5 t5)(hg:Gl X "Token":=by rfl)
  (s1:starEach [e1,e2,e3,e4,e5] X.env=[(false,eval e1 X.env),(false,eval e2 X.env),(false,eval e3 X.env),(false,eval e4 X.env),(false,eval e5 X.env)]:=by rfl)
  (s2:starEach [e2,e3,e4,e5] X.env=[(false,eval e2 X.env),(false,eval e3 X.env),(false,eval e4 X.env),(false,eval e5 X.env)]:=by rfl) (s3:starEach [e3,e4,e5] X.env=[(false,eval e3 X.env),(false,eval e4 X.env),(false,eval e5 X.env)]:=by rfl)
  (s4:starEach [e4,e5] X.env=[(false,eval e4 X.env),(false,eval e5 X.env)]:=by rfl) (s5:starEach [e5] X.env=[(false,eval e5 X.env)]:=by rfl):
  PE X (.Call (.Name "Token" p) [e1,e2,e3,e4,e5] [] pos) (k7 a.bQ (me a.bQ) [] E0 (b7 t1 (b7 t2 (b7 t3 (b7 t4 (b7 t5 eI)))))):=
 eU T.bx.eS (K2 T) hr hg T.bx.at_ T.Dz.2 .nil aU
  (aa h1 (aa h2 (aa h3 (aa h4 (aa h5 ag s5) (by rw[s4,s5])) (by rw[s3,s4])) (by rw[s2,s3])) (by rw[s1,s2])) (by decide) (by rw[s1,s2]) (by rw[s2];rfl)
def Made(a:Ad)(H:Hp)(Q:VK)(kd tx:Str)(n pl af:Int):Prop:=∀(x:Addr)(H':Hp),aO H H'->H x=none->b9 a.bQ H' x kd tx n pl af->Q (.ref x) H'
theorem lF{H H1:Hp}{Q:VK}{kd tx:Str}{n pl af:Int}(h:Made a H Q kd tx n pl af)(hs:aO H H1):∀x dx,H1 x=none->H1 dx=none->dx≠x->
  me a.bQ (.ref x::([.str kd,.str tx,.int n,.int pl,.int af]++[])) (upd (upd H1 dx (.own x)) x (.ins a.bQ dx [])) (fun v H2=>v=.ay/\Q (.ref x) H2) E0:=
 fun x dx n1 n2 ne=>⟨x,dx,kd,tx,n,pl,af,rfl,aB,fun H' tk kp=>⟨rfl,h x H' (hs.trans (aO.made n1 n2 kp)) (hs.free n1) tk⟩⟩
end Wale
end
section
set_option Elab.async false
set_option linter.all false
set_option maxRecDepth 100000
set_option maxHeartbeats 2000000
namespace Wale
open PySem PySem.Spec PyProof.Rows L2
open Wm
open LsWale (blanks isByte isLetter isDigit isTail valueOf isNumber DIGITWORDS wordAt oneToken KEYWORDS PLAINS isName)
variable {P:Program}{w:World}{K:PySem.W.Frag}{mg:Str->Option Value}{base:Heap}{a:Ad}
theorem GG(c:UInt8):digit (c.toNat:Int)=isDigit c:=by
 rw[Bool.eq_iff_iff,uz]
 simp only[digit,Bool.and_eq_true,decide_eq_true_eq]
 lia
theorem Gq(c:UInt8):kg (c.toNat:Int)=isLetter c:=by
 rw[Bool.eq_iff_iff,vb]
 simp only[kg,Bool.and_eq_true,decide_eq_true_eq]
 lia
theorem Bi(c:UInt8):mn (c.toNat:Int)=d7 c:=by
 rw[Bool.eq_iff_iff]
 unfold d7
 rw[Bool.or_eq_true,Fv,uz]
 simp only[mn,kg,digit,Bool.or_eq_true,Bool.and_eq_true,decide_eq_true_eq]
 lia
def cP(b:Bytes)(p:Nat):Bytes:=(b.drop p).takeWhile isDigit
def JZ(K:PySem.W.Frag)(a:Ad):Sp:=fun vs H Q E=>∃(t:Addr)(b:Bytes)(p:Nat),vs=[.ref t,.int p]/\aM K H t (nums b)/\(∃c,b[p]? =some c/\isDigit c=true)/\
 (isNumber (cP b p)=true->Made a H Q "number" "" (valueOf (cP b p)) p (p+(cP b p).length:Nat))/\(isNumber (cP b p)=false->Told K a E 2 p)
theorem oR:aI ["t","place","after","number","begun_with_zero"] ["t","place"] (aC Ag):=⟨rfl,rfl,rfl,by decide +kernel,rfl,by decide +kernel,by decide +kernel⟩
theorem N0:bootBuiltins "min"=some (.builtin "min"):=by kernel_rfl
theorem Mv{b:Bytes}{p:Nat}{c:UInt8}(hc:b[p]? =some c)(hd:isDigit c=true):isNumber (cP b p)=true↔¬(c.toNat=48/\1<(cP b p).length)/\valueOf (cP b p)<=1048576:=by
 have h1:(cP b p).head?=some c:=by unfold cP;rw[drop_cons hc,List.takeWhile_cons,if_pos hd];rfl
 have h2:1<=(cP b p).length:=by unfold cP;rw[drop_cons hc,List.takeWhile_cons,if_pos hd,List.length_cons];lia
 unfold isNumber
 rw[h1,Bool.and_eq_true,Bool.or_eq_true,decide_eq_true_eq,beq_iff_eq,bne_iff_ne]
 have e:(some c≠some (48:UInt8))↔c.toNat≠48:=by
  rw[Ne,Option.some_inj,<-UInt8.toNat_inj];rfl
 rw[e]
 show(_/\valueOf (cP b p)<=1048576)↔_
 lia
theorem Jt(T:Tx P w K mg a):ax P w K mg base (bj P w) 4 a.sZ a.rT ["t","place"] (JZ K a):=by
 refine T.Ck.fn.bz oR (fun vs H Q E h=>?_) (fun cdv A outer s H vs Q E hr h=>?_)
 ·obtain⟨_,_,_,rfl,_⟩:=h;rfl
 obtain⟨t,b,p,rfl,hS,⟨c0,hc0,hd0⟩,k1,k2⟩:=h
 have hr1:bC 1 _:=hr.mono (by decide)
 refine⟨_,aj (a3 (i:=2) oR.nd rfl (Or.inl rfl) (pv 1)) (aj (a3 (i:=3) oR.nd rfl (Or.inl rfl) bF) (aj (gN iD
   (PW.pt (ng (a5 lp (pv 2) (jA T.gL (pv 0)) (aZ _)) (rp (cY (aN T.qL (vj T) hr1 aU (aa (dU f6 (pv 0) (pv 2) (fun _ _=>rfl)) ag))))))
   (aj (a3 (i:=3) oR.nd rfl (Or.inl rfl) (pq (KL rfl) rfl T.MT N0 (aa (gM AK (gM jF (gM Nw (pv 3) bF) (dU f6 (pv 0) (pv 2) (fun _ _=>rfl))) (cT T.vY)) (aa (gM jF (cT T.G4) bF) ag))))
    (ak (pQ (i:=2) oR.nd rfl (Or.inl rfl) bF qH))))
  (aj (a3 (i:=4) oR.nd rfl (Or.inl rfl) (i9 (gO cp (dU f6 (pv 0) (pv 1) (fun _ _=>rfl)) (cT T.vY) (aZ _)) (gY (gO jO (pv 2) (gM jF (pv 1) bF) (aZ _)))))
  (aj (a4 (PW.pt (iM (cY (pv 4)) (iK (a5 jO (pv 3) (cT T.G4) (aZ _)))))
    (ak (fB rfl fD T.yE (LJ T) T.Cd.2 (hr.mono (by decide)) (pv 1))) ba)
  (ak (aF (nu T (hr.mono (by decide)) (bH T.uA) aT (pv 3) (pv 1) (pv 2)))))))),?_⟩
 refine(eX _ rfl ?_)
 refine gp (fun(i:Nat)σ H'=>H'=H/\σ=[some (.ref t),some (.int p),some (.int (p+i:Nat)),some (.int (min (valueOf ((b.drop p).take i)) 1048577:Nat)),none]/\p+i<=b.length/\i+run isDigit b (p+i)=run isDigit b p)
  (fun i=>b.length-i) 0 ⟨rfl,rfl,Nat.le_of_lt (List.getElem?_eq_some_iff.mp hc0).1,by simp⟩ ?_
 rintro i σ H' ⟨rfl,rfl,l2,e⟩
 -- behind the loop
 have fin:i=run isDigit b p->ky (vo (Hj (eF Af (eF (HH K) (bI 0) (bI 1)) (tC (.int 48))) (eF (ib fun i j=>.bl (decide (j<i))) (bI 2) (eF (ib fun i j=>.int (i+j)) (bI 1) (tC (.int 1))))) (tM 4))
   (ky (vU (vZ (tB (bI 4)) (iF (eF (ib fun i j=>.bl (decide (j<i))) (bI 3) (tC (.int 1048576))))) (nN s.heap.objs.size K a.kS E 2 (bI 1)) tS)
    (o9 (k7 a.bQ (me a.bQ) [] E0 (b7 (tC (.str "number")) (b7 (tC (.str "")) (b7 (bI 3) (b7 (bI 1) (b7 (bI 2) eI)))))))) {nx:=fun x H'=>Q .ay H',rt:=Q}
   [some (.ref t),some (.int p),some (.int (p+i:Nat)),some (.int (min (valueOf ((b.drop p).take i)) 1048577:Nat)),none] H':=fun hi=>by
  have hds:(b.drop p).take i=cP b p:=by rw[hi];exact vd isDigit _
  have hlen:(cP b p).length=i:=hi.symm
  rw[hds]
  have hnum:=Mv hc0 hd0
  refine(eX _ rfl (eX _ rfl ⟨t,_,_,eX _ rfl ⟨rfl,hS,fT hc0,rfl,eX _ rfl ?_⟩⟩))
  rw[gn]
  -- the two ways end alike
  have done:∀z:Bool,(z=true↔(c0.toNat=48/\1<i))->ky (vU (vZ (tB (bI 4)) (iF (eF (ib fun i j=>.bl (decide (j<i))) (bI 3) (tC (.int 1048576))))) (nN s.heap.objs.size K a.kS E 2 (bI 1)) tS)
    (o9 (k7 a.bQ (me a.bQ) [] E0 (b7 (tC (.str "number")) (b7 (tC (.str "")) (b7 (bI 3) (b7 (bI 1) (b7 (bI 2) eI))))))) {nx:=fun x H'=>Q .ay H',rt:=Q}
    [some (.ref t),some (.int p),some (.int (p+i:Nat)),some (.int (min (valueOf (cP b p)) 1048577:Nat)),some (.bl z)] H':=fun z hz=>by
   refine(eX _ rfl (eX _ rfl ?_))
   refine aX (fun c=>?_) (fun c=>?_)
   ·refine(eX _ rfl (eR T.yE (k2 (Bool.eq_false_iff.mpr fun y=>?_))))
    rw[hnum,hlen]at y
    exact y.1 (hz.mp c)
   ·refine(eX _ rfl ⟨_,eX _ rfl ⟨rfl,eX _ rfl ?_⟩⟩)
    refine aX (fun c2=>?_) (fun c2=>?_)
    ·refine(eX _ rfl (eR T.yE (k2 (Bool.eq_false_iff.mpr fun y=>?_))))
     rw[hnum]at y
     have:=of_decide_eq_true c2
     lia
    ·have h2:¬((1048576:Int)<(min (valueOf (cP b p)) 1048577:Nat)):=fun y=>c2 (decide_eq_true y)
     have hv:valueOf (cP b p)<=1048576:=by lia
     have hm:min (valueOf (cP b p)) 1048577=valueOf (cP b p):=by lia
     rw[hm]
     refine(eX _ rfl (eX _ rfl (eX _ rfl ?_)))
     have km:=k1 (hnum.mpr ⟨fun y=>c (hz.mpr (by rw[hlen]at y;exact y)),hv⟩)
     rw[hlen]at km
     exact lF km (aO.refl _)
  refine aX (fun c=>?_) (fun c=>?_)
  ·refine(eX _ rfl (eX _ rfl ⟨_,eX _ rfl ⟨rfl,_,eX _ rfl ⟨rfl,?_⟩⟩⟩))
   refine done _ ?_
   have:=of_decide_eq_true c
   rw[decide_eq_true_eq]
   lia
  ·refine done _ ?_
   have:¬((c0.toNat:Int)=48):=fun z=>c (decide_eq_true z)
   simp
   lia
 refine(eX _ rfl (eX _ rfl ⟨t,eX _ rfl ⟨.inl hS,_,eX _ rfl ⟨rfl,eX _ rfl ?_⟩⟩⟩))
 refine aX (fun c=>?_) (fun c=>?_)
 ·rw[fH]at c
  have lt:p+i<b.length:=by have:=of_decide_eq_true c;lia
  obtain⟨cb,hcb⟩:∃c,b[p+i]? =some c:=⟨_,List.getElem?_eq_getElem lt⟩
  have rc:=Bq (f:=isDigit) hcb
  refine(eX _ rfl (eX _ rfl ⟨t,_,_,eX _ rfl ⟨rfl,hS,fT hcb,eX _ rfl (eX _ rfl ?_)⟩⟩))
  rw[GG]
  refine aX (fun c2=>?_) (fun c2=>?_)
  ·rw[if_pos c2]at rc
   refine fZ ?_
   refine(eX _ rfl ⟨_,eX _ rfl ⟨rfl,.inl ⟨by lia,by lia⟩,eX _ rfl (eX _ rfl ⟨t,_,_,eX _ rfl ⟨rfl,hS,fT hcb,_,eX _ rfl ⟨rfl,_,eX _ rfl ⟨rfl,_,eX _ rfl ⟨rfl,_,eX _ rfl ?_⟩⟩⟩⟩⟩)⟩⟩)
   refine(eX _ rfl ⟨_,eX _ rfl ⟨rfl,i+1,by lia,rfl,?_,by lia,by rw[<-Nat.add_assoc];lia⟩⟩)
   have h48:=(uz cb).mp c2
   have hdr:(b.drop p)[i]? =some cb:=by rw[List.getElem?_drop];exact hcb
   rw[take_snoc hdr,KI]
   have cs:=Im (valueOf ((b.drop p).take i)) (cb.toNat-48)
   have e1:(if(1048576:Int)+1<(min (valueOf ((b.drop p).take i)) 1048577:Nat)*10+(cb.toNat:Int)-48 then(1048576:Int)+1 else(min (valueOf ((b.drop p).take i)) 1048577:Nat)*10+(cb.toNat:Int)-48)=
     ((min (10*valueOf ((b.drop p).take i)+(cb.toNat-48)) 1048577:Nat):Int):=by
    rw[<-cs]
    split<;>lia
   have e2:((p+i:Nat):Int)+1=((p+(i+1):Nat):Int):=by lia
   show[some (V.ref t),some (V.int p),some (V.int (((p+i:Nat):Int)+1)),_,none]=_
   rw[e2]
   exact congrArg (fun z=>[some (V.ref t),some (V.int p),some (V.int ((p+(i+1):Nat):Int)),some (V.int z),none]) e1
  ·rw[if_neg c2]at rc
   exact fin (by lia)
 ·rw[fH]at c
  have ge:b.length<=p+i:=by
   have:¬(((p+i:Nat):Int)<b.length):=fun z=>c (decide_eq_true z)
   lia
  have rc:=yq (f:=isDigit) ge
  exact fin (by lia)
end Wale
end
section
set_option Elab.async false
set_option linter.all false
set_option maxRecDepth 100000
set_option maxHeartbeats 2000000
namespace Wale
open PySem PySem.Spec PyProof.Rows L2
open Wm
open LsWale (blanks isByte isLetter isDigit isTail valueOf isNumber DIGITWORDS wordAt oneToken KEYWORDS PLAINS isName)
variable {P:Program}{w:World}{K:PySem.W.Frag}{mg:Str->Option Value}{base:Heap}{a:Ad}
theorem Hl:∀{x y:Bytes},x.map UInt8.toNat=y.map UInt8.toNat->x=y
 |[],[],_=>rfl
 |[],_::_,h=>by cases h
 |_::_,[],h=>by cases h
 |c::r,d::s,h=>by
  rw[List.map_cons,List.map_cons]at h
  obtain⟨h1,h2⟩:=List.cons.inj h
  rw[UInt8.toNat_inj.mp h1,Hl h2]
theorem mw{x y:Bytes}(h:strOf x=strOf y):x=y:=by
 unfold strOf at h
 have h1:=congrArg (fun z:Str=>z.cps.toList) h
 exact Hl h1
theorem EC(x:Bytes):(strOf x).length=x.length:=by
 show((x.map UInt8.toNat).toArray).size=_
 rw[List.size_toArray,List.length_map]
theorem oz(x:Bytes)(l:List Bytes):ee (.str (strOf x)) ((l.map strOf).map V.str)=l.contains x:=by
 unfold ee
 induction l with
 |nil=>rfl
 |cons y r ih=>
  rw[List.map_cons,List.map_cons,List.any_cons,ih,List.contains_cons]
  congr 1
  show decide (strOf y=strOf x)=(x==y)
  rw[Bool.eq_iff_iff,decide_eq_true_eq,beq_iff_eq]
  exact⟨fun h=>(mw h).symm,fun h=>by rw[h]⟩
theorem Cm:∀(l:List Str),(l.map V.str).all iX=true
 |[]=>rfl
 |_::r=>by rw[List.map_cons,List.all_cons,Cm r];rfl
def nv(l:List Str)(d:Addr):R2:=fun x y H Q=>y=.ref d/\∃z,x=.str z/\Q (.bl (ee (.str z) (l.map V.str))) H
theorem J8{X:Cx}{x:Str}{l:List Str}{d:Addr}(h:iY X.K X.mg x l d):dH X (compareOp .In) (nv l d):=by
 intro pins s σ H x y u v Q I rx ry ⟨e1,z,e2,q⟩
 exact rn pins s σ H x y u v Q I rx ry ⟨d,l.map V.str,e1,.inr (h.2 H),by rw[e2];rfl,Cm l,by rw[e2];exact q⟩
theorem k8{X:Cx}{e:Expr}{te:TE}{x:Str}{l:List Str}{d:Addr}{p pos:Pos}(h:iY X.K X.mg x l d)(he:PE X e te)(hg:Gl X x:=by rfl)(hd:(x==("__debug__":Str))=false:=by decide)(hm:behindInMarks .In (.Name x p)=false:=by with_unfolding_all rfl):
  PT X (.Compare e [.In] [.Name x p] pos) (iF (eF (nv l d) te (tC (.ref d)))):=a5 (J8 h) he (js hg h.1 (show RelV (.ref d) (.ref d)from rfl) hd) hm
theorem DS:(["k","p","ktbl","ptbl","yo","k2tog","k3tog","ssk","sssk","p2tog","ssp","cdd","kfb","pfb","kp","m1l","m1r","sl","slf","pso","even","co","bo"]:List Str)=PLAINS.map strOf:=by decide +kernel
theorem Rl:(["pattern","sizes","yarns","let","word","block","on","round","row","rs","ws","repeat","until","work","off","to","end","last","mark","cl","cr","hold","take","yarn","pass","clear","turn","fasten"]:List Str)=
  (KEYWORDS.take 28).map strOf:=by decide +kernel
theorem JA:(["k2tog","k3tog","p2tog","m1l","m1r"]:List Str)=DIGITWORDS.map strOf:=by decide +kernel
theorem NO:KEYWORDS=KEYWORDS.take 28++PLAINS:=by decide +kernel
theorem Mx(x:Bytes):(PLAINS.contains x||(KEYWORDS.take 28).contains x)=KEYWORDS.contains x:=by
 conv=>rhs;rw[NO]
 rw[Bool.eq_iff_iff]
 simp only[Bool.or_eq_true,List.contains_iff_mem,List.mem_append]
 exact⟨fun h=>h.symm,fun h=>h.symm⟩
theorem O6:∀x∈DIGITWORDS,KEYWORDS.contains x=true:=by decide +kernel
theorem El:strOf []=("":Str):=by decide +kernel
def IE(K:PySem.W.Frag):Sp:=fun vs H Q _=>∃(t:Addr)(b:Bytes)(p:Nat),vs=[.ref t,.int p]/\aM K H t (nums b)/\p<=b.length/\b.length<=20000/\
 ∀H',aO H H'->Q (.str (if dk (b.drop p)∈DIGITWORDS then strOf (dk (b.drop p))else "")) H'
theorem vm:aI ["t","place","after","text"] ["t","place"] (aC zg):=⟨rfl,rfl,rfl,by decide +kernel,rfl,by decide +kernel,by decide +kernel⟩
theorem Ge{b:Bytes}{p q:Nat}(h1:p<=q)(h2:q<=b.length):j1 (nums b) (some (p:Int)) (some (q:Int))=nums ((b.drop p).take (q-p)):=by
 unfold j1
 rw[fH,HT.D0,HT.D0,show min p b.length=p by lia,show min q b.length=q by lia]
 unfold nums
 rw[List.map_take,List.map_drop]
theorem Nn(T:Tx P w K mg a):ax P w K mg base aV 4 a.pX a.tf ["t","place"] (IE K):=by
 refine T.Ed.fn.ok vm (fun vs H Q E h=>?_) (fun cdv A outer s H vs Q E hr h=>?_)
 ·obtain⟨_,_,_,rfl,_⟩:=h;rfl
 obtain⟨t,b,p,rfl,hS,hp,hl,k⟩:=h
 refine⟨_,aj (a3 (i:=2) vm.nd rfl (Or.inl rfl) (pv 1)) (aj (gN PassesOwn.never
   (PW.pt (ng (a5 lp (pv 2) (jA T.gL (pv 0)) (aZ _)) (ng (a5 rm (pv 2) (gM jF (pv 1) (cT T.PL)) (aZ _))
    (rp (cY (aN T.E8 (K3 T) (hr.mono (by decide)) aU (aa (dU f6 (pv 0) (pv 2) (fun _ _=>rfl)) ag)))))))
   (ak (pQ (i:=2) vm.nd rfl (Or.inl rfl) bF qH)))
  (aj (a3 (i:=3) vm.nd rfl (Or.inl rfl) (aN T.spelled (GD T) hr aU (aa (Df CC (pv 0) (vk (pv 1)) (vk (pv 2))) ag)))
  (ak (aF (Bs (k8 T.OW (pv 3)) (pv 3) aT))))),?_⟩
 refine(eX _ rfl ?_)
 refine gp (fun(i:Nat)σ H'=>H'=H/\σ=[some (.ref t),some (.int p),some (.int (p+i:Nat)),none]/\p+i<=b.length/\i<=6/\i+run d7 b (p+i)=run d7 b p) (fun i=>b.length-i) 0 ⟨rfl,rfl,hp,by lia,by simp⟩ ?_
 rintro i σ H' ⟨rfl,rfl,l2,l6,e⟩
 have fin:i=min 6 (run d7 b p)->ky (vo (qG (AM K) [] E0 (b7 (AR (zo K) (bI 0) (sj (bI 1)) (sj (bI 2))) eI)) (tM 3))
   (o9 (BR (iF (eF (nv ["k2tog","k3tog","p2tog","m1l","m1r"] a.o3) (bI 3) (tC (.ref a.o3)))) (bI 3) (tC (.str "")))) {nx:=fun x H'=>Q .ay H',rt:=Q}
   [some (.ref t),some (.int p),some (.int (p+i:Nat)),none] H':=fun hi=>by
  have ei:(b.drop p).take i=dk (b.drop p):=by
   unfold dk
   rw[hi,<-vd d7 (b.drop p),List.take_take]
   congr 1
  refine(eX _ rfl (eX _ rfl (eX _ rfl (eX _ rfl (eX _ rfl ⟨t,eX _ rfl ⟨hS,fun q hq=>?_⟩⟩)))))
  have sq:aO H' (upd H' q (.lst (j1 (nums b) (some (p:Int)) (some ((p+i:Nat):Int))))):=fun x o e=>by rw[ao (dI e hq)];exact e
  refine⟨q,dk (b.drop p),rfl,aM.of ?_,fun c hc=>?_,?_,fun H2 s2=>?_⟩
  ·rw[aB,Ge (by lia) l2,Nat.add_sub_cancel_left,ei]
  ·rw[Bi]
   exact D4 c (List.mem_of_mem_take hc)
  ·unfold dk
   rw[List.length_take];lia
  ·refine(eX _ rfl ⟨rfl,eX _ rfl (eX _ rfl ?_)⟩)
   rw[JA,oz]
   have kk:=k H2 (sq.trans s2)
   refine aX (fun c=>?_) (fun c=>?_)
   ·rw[if_pos (List.contains_iff_mem.mp c)]at kk
    exact(eX _ rfl kk)
   ·rw[if_neg (fun z=>c (List.contains_iff_mem.mpr z))]at kk
    exact kk
 refine(eX _ rfl (eX _ rfl ⟨t,eX _ rfl ⟨.inl hS,_,eX _ rfl ⟨rfl,eX _ rfl ?_⟩⟩⟩))
 refine aX (fun c=>?_) (fun c=>?_)
 ·rw[fH]at c
  have lt:p+i<b.length:=by have:=of_decide_eq_true c;lia
  obtain⟨cb,hcb⟩:∃c,b[p+i]? =some c:=⟨_,List.getElem?_eq_getElem lt⟩
  have rc:=Bq (f:=d7) hcb
  refine(eX _ rfl (eX _ rfl ⟨_,eX _ rfl ⟨rfl,_,eX _ rfl ⟨rfl,eX _ rfl ?_⟩⟩⟩))
  refine aX (fun c2=>?_) (fun c2=>?_)
  ·have l5:i<=5:=by have:=of_decide_eq_true c2;lia
   refine(eX _ rfl (eX _ rfl ⟨t,_,_,eX _ rfl ⟨rfl,hS,fT hcb,eX _ rfl (eX _ rfl ?_)⟩⟩))
   rw[Bi]
   refine aX (fun c3=>?_) (fun c3=>?_)
   ·rw[if_pos c3]at rc
    refine fZ ?_
    refine(eX _ rfl ⟨_,eX _ rfl ⟨rfl,i+1,by lia,rfl,?_,by lia,by lia,by rw[<-Nat.add_assoc];lia⟩⟩)
    have e2:((p+i:Nat):Int)+1=((p+(i+1):Nat):Int):=by lia
    exact congrArg (fun z=>[some (V.ref t),some (V.int p),some (V.int z),none]) e2
   ·rw[if_neg c3]at rc
    exact fin (by lia)
  ·have l5:¬(((p+i:Nat):Int)<=p+5):=fun z=>c2 (decide_eq_true z)
   have l1:1<=run d7 b (p+i)\/run d7 b (p+i)=0:=by lia
   exact fin (by lia)
 ·rw[fH]at c
  have ge:b.length<=p+i:=by
   have:¬(((p+i:Nat):Int)<b.length):=fun z=>c (decide_eq_true z)
   lia
  have rc:=yq (f:=d7) ge
  exact fin (by lia)
end Wale
end
section
set_option Elab.async false
set_option linter.all false
set_option maxRecDepth 100000
set_option maxHeartbeats 2000000
namespace Wale
open PySem PySem.Spec PyProof.Rows L2
open Wm
open LsWale (blanks isByte isLetter isDigit isTail valueOf isNumber DIGITWORDS wordAt oneToken KEYWORDS PLAINS isName)
variable {P:Program}{w:World}{K:PySem.W.Frag}{mg:Str->Option Value}{base:Heap}{a:Ad}
def dQ(x:Bytes):Str:=if isName x=true then "name" else "fixed"
def Oz(K:PySem.W.Frag)(a:Ad):Sp:=fun vs H Q _=>∃(t:Addr)(b:Bytes)(p:Nat),vs=[.ref t,.int p]/\aM K H t (nums b)/\(∃c,b[p]? =some c/\isLetter c=true)/\b.length<=20000/\
 Made a H Q (dQ (wordAt (b.drop p))) (strOf (wordAt (b.drop p))) 0 p (p+(wordAt (b.drop p)).length:Nat)
theorem qO:aI ["t","place","digit_word","after","text"] ["t","place"] (aC Ao):=⟨rfl,rfl,rfl,by decide +kernel,rfl,by decide +kernel,by decide +kernel⟩
theorem cN{x y:Str}:decide (V.str x=V.str y)=decide (x=y):=by by_cases h:x=y<;>simp[h]
theorem C6{H H1:Hp}{Q:VK}{kd tx:Str}{n pl af:Int}(h:Made a H Q kd tx n pl af)(hs:aO H H1):Made a H1 Q kd tx n pl af:=fun x H' s1 n1 tk=>h x H' (hs.trans s1) (hs.free n1) tk
theorem len_str{X:Cx}{e:Expr}{te:TE}{p pos:Pos}(hm:X.mg "len"=none)(he:PE X e te)(hg:Gl X "len":=by rfl)(hst:starEach [e] X.env=[(false,eval e X.env)]:=by rfl):
  PE X (.Call (.Name "len" p) [e] [] pos) (sv (fun xs H Q=>∃z,xs=[.str z]/\z.length<=sizeLine/\Q (.int z.length) H) (b7 te eI)):=
 pq HW hg hm PySem.boot_len (aa he ag hst) (by decide) (by decide) hst rfl
theorem Kg(c:UInt8):(kg (c.toNat:Int)||decide ((c.toNat:Int)=95))=isTail c:=by
 rw[Gq,Bool.eq_iff_iff,Bool.or_eq_true,Fv,vb,decide_eq_true_eq]
 lia
theorem L6(T:Tx P w K mg a):ax P w K mg base aV 5 a.su a.rC ["t","place"] (Oz K a):=by
 refine T.CM.fn.ok qO (fun vs H Q E h=>?_) (fun cdv A outer s H vs Q E hr h=>?_)
 ·obtain⟨_,_,_,rfl,_⟩:=h;rfl
 obtain⟨t,b,p,rfl,hS,⟨c0,hc0,hl0⟩,hl,k⟩:=h
 have hp:p<b.length:=(List.getElem?_eq_some_iff.mp hc0).1
 have hr1:bC 1 _:=hr.mono (by decide)
 refine⟨_,aj (a3 (i:=2) qO.nd rfl (Or.inl rfl) (aN T.Ed (Nn T) hr aU (aa (pv 0) (aa (pv 1) ag))))
  (aj (a4 (a5 j4 (pv 2) aT (aZ _)) (ak (aF (nu T (hr.mono (by decide)) (bH T.xX) (pv 2) bF (pv 1) (gM jF (pv 1) (len_str T.gL (pv 2)))))) ba)
  (aj (a3 (i:=3) qO.nd rfl (Or.inl rfl) (pv 1))
  (aj (gN PassesOwn.never (PW.pt (ng (a5 lp (pv 3) (jA T.gL (pv 0)) (aZ _))
    (rp (PW.pt (iM (cY (aN T.qE (uJ T) hr1 aU (aa (dU f6 (pv 0) (pv 3) (fun _ _=>rfl)) ag))) (iK (a5 cp (dU f6 (pv 0) (pv 3) (fun _ _=>rfl)) (cT T.GZ) (aZ _))))))))
   (ak (pQ (i:=3) qO.nd rfl (Or.inl rfl) bF qH)))
  (aj (a3 (i:=4) qO.nd rfl (Or.inl rfl) (aN T.spelled (GD T) (hr.mono (by decide)) aU (aa (Df CC (pv 0) (vk (pv 1)) (vk (pv 3))) ag)))
  (aj (a4 (PW.pt (iM (k8 T.G2 (pv 4)) (iK (k8 T.MO (pv 4))))) (ak (aF (nu T (hr.mono (by decide)) (bH T.xX) (pv 4) bF (pv 1) (pv 3)))) ba)
  (ak (aF (nu T (hr.mono (by decide)) (bH T.ke) (pv 4) bF (pv 1) (pv 3))))))))),?_⟩
 refine(eX _ rfl (eX _ rfl ⟨t,b,p,rfl,hS,Nat.le_of_lt hp,hl,fun H1 s1=>?_⟩))
 have k1:=C6 k s1
 have hS1:=s1.seq hS
 refine(eX _ rfl ⟨rfl,eX _ rfl ?_⟩)
 rw[cN]
 have dc:=drop_cons hc0
 by_cases hd:dk (b.drop p)∈DIGITWORDS
 ·rw[if_pos hd]
  have hw:=FC hd
  rw[hw]at k1
  have ne:¬strOf (dk (b.drop p))="":=fun z=>by
   rw[<-El]at z
   have z1:=mw z
   have:=(g8 _ hd).2.2
   rw[z1]at this
   simp at this
  refine aX (fun c=>?_) (fun c=>?_)
  ·have kf:dQ (dk (b.drop p))="fixed":=by
    unfold dQ isName
    rw[O6 _ hd];rfl
   rw[kf]at k1
   have l5:=(g8 _ hd).2.1
   refine(eX _ rfl (eX _ rfl (eX _ rfl (eX _ rfl (eX _ rfl ⟨by rw[EC,sizeLine_eq];lia,_,eX _ rfl ⟨rfl,?_⟩⟩)))))
   rw[show((p+(dk (b.drop p)).length:Nat):Int)=(p:Int)+((strOf (dk (b.drop p))).length:Nat) by rw[EC];lia]at k1
   exact lF k1 (aO.refl _)
  ·exact absurd (by simpa using c) ne
 rw[if_neg hd]
 refine aX (fun c=>absurd c (by decide)) (fun c=>?_)
 have hw:wordAt (b.drop p)=(b.drop p).takeWhile isTail:=by
  rw[dc]at hd ⊢
  exact C3 hd hl0
 rw[hw]at k1
 refine(eX _ rfl ?_)
 refine gp (fun(i:Nat)σ H'=>H'=H1/\σ=[some (.ref t),some (.int p),some (.str ""),some (.int (p+i:Nat)),none]/\p+i<=b.length/\i+run isTail b (p+i)=run isTail b p) (fun i=>b.length-i) 0
  ⟨rfl,rfl,Nat.le_of_lt hp,by simp⟩ ?_
 rintro i σ H' ⟨rfl,rfl,l2,e⟩
 have fin:i=run isTail b p->ky (vo (qG (AM K) [] E0 (b7 (AR (zo K) (bI 0) (sj (bI 1)) (sj (bI 3))) eI)) (tM 4))
   (ky (vU (vZ (iF (eF (nv ["k","p","ktbl","ptbl","yo","k2tog","k3tog","ssk","sssk","p2tog","ssp","cdd","kfb","pfb","kp","m1l","m1r","sl","slf","pso","even","co","bo"] a.oa) (bI 4) (tC (.ref a.oa))))
     (iF (eF (nv ["pattern","sizes","yarns","let","word","block","on","round","row","rs","ws","repeat","until","work","off","to","end","last","mark","cl","cr","hold","take","yarn","pass","clear","turn","fasten"] a.oS) (bI 4) (tC (.ref a.oS)))))
    (o9 (k7 a.bQ (me a.bQ) [] E0 (b7 (tC (.str "fixed")) (b7 (bI 4) (b7 (tC (.int 0)) (b7 (bI 1) (b7 (bI 3) eI))))))) tS)
    (o9 (k7 a.bQ (me a.bQ) [] E0 (b7 (tC (.str "name")) (b7 (bI 4) (b7 (tC (.int 0)) (b7 (bI 1) (b7 (bI 3) eI)))))))) {nx:=fun x H'=>Q .ay H',rt:=Q}
   [some (.ref t),some (.int p),some (.str ""),some (.int (p+i:Nat)),none] H':=fun hi=>by
  have ei:(b.drop p).take i=(b.drop p).takeWhile isTail:=by rw[hi];exact vd isTail _
  have ln:((b.drop p).takeWhile isTail).length=i:=hi.symm
  refine(eX _ rfl (eX _ rfl (eX _ rfl (eX _ rfl (eX _ rfl ⟨t,eX _ rfl ⟨hS1,fun q hq=>?_⟩⟩)))))
  have sq:aO H' (upd H' q (.lst (j1 (nums b) (some (p:Int)) (some ((p+i:Nat):Int))))):=fun x o e=>by rw[ao (dI e hq)];exact e
  refine⟨q,(b.drop p).takeWhile isTail,rfl,aM.of ?_,fun c hc=>?_,?_,fun H2 s2=>?_⟩
  ·rw[aB,Ge (by lia) l2,Nat.add_sub_cancel_left,ei]
  ·rw[Bi]
   unfold d7
   rw[D4 c hc];rfl
  ·rw[ln];lia
  ·have k2:=C6 k1 (sq.trans s2)
   rw[ln]at k2
   refine(eX _ rfl ⟨rfl,eX _ rfl (eX _ rfl ?_)⟩)
   rw[DS,oz]
   have ko:=Mx ((b.drop p).takeWhile isTail)
   refine aX (fun c=>?_) (fun c=>?_)
   ·rw[c,Bool.true_or]at ko
    have kf:dQ ((b.drop p).takeWhile isTail)="fixed":=by unfold dQ isName;rw[<-ko];rfl
    rw[kf]at k2
    exact(eX _ rfl (eX _ rfl (eX _ rfl (lF k2 (aO.refl _)))))
   ·rw[Bool.eq_false_iff.mpr c,Bool.false_or]at ko
    refine(eX _ rfl ⟨rfl,eX _ rfl (eX _ rfl ?_)⟩)
    rw[Rl,oz]
    refine aX (fun c2=>?_) (fun c2=>?_)
    ·rw[c2]at ko
     have kf:dQ ((b.drop p).takeWhile isTail)="fixed":=by unfold dQ isName;rw[<-ko];rfl
     rw[kf]at k2
     exact(eX _ rfl (eX _ rfl (eX _ rfl (lF k2 (aO.refl _)))))
    ·rw[Bool.eq_false_iff.mpr c2]at ko
     have kf:dQ ((b.drop p).takeWhile isTail)="name":=by unfold dQ isName;rw[<-ko];rfl
     rw[kf]at k2
     exact(eX _ rfl (eX _ rfl (eX _ rfl (lF k2 (aO.refl _)))))
 refine(eX _ rfl (eX _ rfl ⟨t,eX _ rfl ⟨.inl hS1,_,eX _ rfl ⟨rfl,eX _ rfl ?_⟩⟩⟩))
 refine aX (fun c=>?_) (fun c=>?_)
 ·rw[fH]at c
  have lt:p+i<b.length:=by have:=of_decide_eq_true c;lia
  obtain⟨cb,hcb⟩:∃c,b[p+i]? =some c:=⟨_,List.getElem?_eq_getElem lt⟩
  have rc:=Bq (f:=isTail) hcb
  have lt2:=Kg cb
  have nxt:isTail cb=true->∃j,b.length-j<b.length-i/\(H'=H'/\[some (V.ref t),some (V.int p),some (.str ""),some (V.int (((p+i:Nat):Int)+1)),none]=[some (.ref t),some (.int p),some (.str ""),some (.int (p+j:Nat)),none]/\p+j<=b.length/\j+run isTail b (p+j)=run isTail b p):=fun ht=>by
   rw[if_pos ht]at rc
   refine⟨i+1,by lia,rfl,?_,by lia,by rw[<-Nat.add_assoc];lia⟩
   have e2:((p+i:Nat):Int)+1=((p+(i+1):Nat):Int):=by lia
   exact congrArg (fun z=>[some (V.ref t),some (V.int p),some (.str ""),some (V.int z),none]) e2
  refine(eX _ rfl (eX _ rfl ⟨t,_,_,eX _ rfl ⟨rfl,hS1,fT hcb,eX _ rfl (eX _ rfl ?_)⟩⟩))
  refine aX (fun c2=>?_) (fun c2=>?_)
  ·rw[c2,Bool.true_or]at lt2
   exact fZ ⟨_,rfl,_,_,rfl,rfl,nxt lt2.symm⟩
  ·rw[Bool.eq_false_iff.mpr c2,Bool.false_or]at lt2
   refine(eX _ rfl (eX _ rfl ⟨t,_,_,eX _ rfl ⟨rfl,hS1,fT hcb,rfl,eX _ rfl ?_⟩⟩))
   rw[gn,lt2]
   refine aX (fun c3=>fZ ⟨_,rfl,_,_,rfl,rfl,nxt c3⟩) (fun c3=>?_)
   rw[if_neg c3]at rc
   exact fin (by lia)
 ·rw[fH]at c
  have ge:b.length<=p+i:=by
   have:¬(((p+i:Nat):Int)<b.length):=fun z=>c (decide_eq_true z)
   lia
  have rc:=yq (f:=isTail) ge
  exact fin (by lia)
end Wale
end
section
set_option Elab.async false
set_option linter.all false
set_option maxRecDepth 100000
set_option maxHeartbeats 2000000
namespace Wale
open PySem PySem.Spec PyProof.Rows L2
open Wm
open LsWale (blanks isByte isLetter isDigit isTail valueOf isNumber DIGITWORDS wordAt oneToken KEYWORDS PLAINS isName)
variable {P:Program}{w:World}{K:PySem.W.Frag}{mg:Str->Option Value}{base:Heap}{a:Ad}
def CH(kvs:List (Key×V))(d:Addr):R2:=fun x y H Q=>y=.ref d/\∃k:Key,x=kV k/\Q (.bl (bU kvs k).isSome) H
theorem OA{X:Cx}{kvs:List (Key×V)}{d:Addr}(h:mf X.prog X.w X.K d kvs):dH X (compareOp .In) (CH kvs d):=by
 intro pins s σ H x y u v Q I rx ry ⟨e1,k,e2,q⟩
 subst e1 e2
 obtain rfl:v=Value.ref d:=ry
 obtain⟨vs,rel,dd⟩:=h.ok s.heap I.bo
 refine wpAny_in_of (pz rx) h.ns dd.mapOf ?_
 rw[<-(rel.val k).uZ]
 exact⟨.bl (bU kvs k).isSome,H,I.tok _,rfl,q⟩
theorem Iy{X:Cx}{e:Expr}{te:TE}{x:Str}{kvs:List (Key×V)}{d:Addr}{p pos:Pos}(h:X.mg x=some (.ref d)/\mf X.prog X.w X.K d kvs)(he:PE X e te)(hg:Gl X x:=by rfl)(hd:(x==("__debug__":Str))=false:=by decide)(hm:behindInMarks .In (.Name x p)=false:=by with_unfolding_all rfl):
  PT X (.Compare e [.In] [.Name x p] pos) (iF (eF (CH kvs d) te (tC (.ref d)))):=a5 (OA h.2) he (js hg h.1 (show RelV (.ref d) (.ref d)from rfl) hd) hm
def Ql(kvs:List (Key×V))(ti:TE):TE:=fun σ H Q=>ti σ H fun y H1=>∃k v,y=kV k/\bU kvs k=some v/\Q v H1
theorem C4{X:Cx}{i:Expr}{ti:TE}{x:Str}{kvs:List (Key×V)}{d:Addr}{p pos:Pos}(h:X.mg x=some (.ref d)/\mf X.prog X.w X.K d kvs)(hi:PE X i ti)(hs:B0 i)(hg:Gl X x:=by rfl)(hd:(x==("__debug__":Str))=false:=by decide):
  PE X (.Subscript (.Name x p) i pos) (Ql kvs ti):=by
 intro pins s σ H Q I hh
 refine IW PySem.F.slot_dict_getitem.lookup hs (i5 I hg h.1 (aH (hi pins s σ H _ I hh) fun iv s2 hh1=>?_) hd)
 obtain⟨y,H2,I2,ry,k,v,ey,ev,q⟩:=hh1
 subst ey
 obtain⟨vs,rel,dd⟩:=h.2.ok s2.heap I2.bo
 obtain⟨w',hw,rw'⟩:=dq.some_of (v:=v) (o:=valueAt vs k) (by rw[<-ev];exact rel.val k)
 refine⟨?_,wpAny_getItem_of (pz ry) dd.mapOf hw ⟨v,H2,I2.tok _,rw',q⟩⟩
 obtain⟨ob,_,_,h1,h2,_⟩:=dd
 exact⟨ob,h1,h2.1⟩
def fE:LsWale.Tok->Str
 | .word x=>dQ x
 | .num _=>"number"
 | .sign _=>"fixed"
 | .bad _=>""
 | .done=>"end"
def bq:LsWale.Tok->Str
 | .word x=>strOf x
 | .sign c=>strOf [c]
 |_=>""
def yy:LsWale.Tok->Nat
 | .num n=>n
 |_=>0
def PQ(K:PySem.W.Frag)(a:Ad):Sp:=fun vs H Q E=>∃(t:Addr)(b:Bytes)(p:Nat),vs=[.ref t,.int p]/\aM K H t (nums b)/\p<=b.length/\b.length<=20000/\
 ((∀k,aq b p≠ .bad k)->Made a H Q (fE (aq b p)) (bq (aq b p)) (yy (aq b p)) (aP b p:Nat) (aA b p:Nat))/\∀k,aq b p=.bad k->Told K a E k (aP b p:Nat)
theorem BM:aI ["t","start","place","byte"] ["t","start"] (aC Bu):=⟨rfl,rfl,rfl,by decide +kernel,rfl,by decide +kernel,by decide +kernel⟩
abbrev HG:List (Key×V):=[(.inl 40,.str "("),(.inl 41,.str ")"),(.inl 42,.str "*"),(.inl 43,.str "+"),(.inl 44,.str ","),(.inl 45,.str "-"),(.inl 47,.str "/"),(.inl 59,.str ";"),(.inl 61,.str "="),(.inl 91,.str "["),(.inl 93,.str "]"),(.inl 123,.str "{"),(.inl 125,.str "}")]
theorem Mp:∀n:Nat,n<256->bU HG (.inl (n:Int))=if LsWale.SIGNS.contains (UInt8.ofNat n)=true then some (.str (strOf [UInt8.ofNat n]))else none:=by decide +kernel
theorem signs_at(c:UInt8):bU HG (.inl (c.toNat:Int))=if LsWale.SIGNS.contains c=true then some (.str (strOf [c]))else none:=by
 have:=Mp c.toNat c.toNat_lt
 rw[UInt8.ofNat_toNat]at this
 exact this
theorem OQ(T:Tx P w K mg a):ax P w K mg base (bj P w) 6 a.rq a.qR ["t","start"] (PQ K a):=by
 refine T.GV.fn.bz BM (fun vs H Q E h=>?_) (fun cdv A outer s H vs Q E hr h=>?_)
 ·obtain⟨_,_,_,rfl,_⟩:=h;rfl
 obtain⟨t,b,p,rfl,hS,hp,hl,k1,k2⟩:=h
 have hr1:bC 1 _:=hr.mono (by decide)
 refine⟨_,aj (a3 (i:=2) BM.nd rfl (Or.inl rfl) (aN T.B2 (LM T) hr aw (aa (pv 0) (aa (pv 1) ag))))
  (aj (a4 (a5 cp (pv 2) (jA T.gL (pv 0)) (aZ _)) (ak (aF (nu T (hr.mono (by decide)) (bH T.Fu) aT bF (pv 2) (pv 2)))) ba)
  (aj (a3 (i:=3) BM.nd rfl (Or.inl rfl) (dU f6 (pv 0) (pv 2) (fun _ _=>rfl)))
  (aj (a4 (cY (aN T.qE (uJ T) hr1 aU (aa (pv 3) ag))) (ak (aF (aN T.CM (L6 T) hr aU (aa (pv 0) (aa (pv 2) ag))))) ba)
  (aj (a4 (cY (aN T.qL (vj T) hr1 aU (aa (pv 3) ag))) (ak (aF (aN T.Ck (Jt T) (hr.mono (by decide)) aw (aa (pv 0) (aa (pv 2) ag))))) ba)
  (aj (a4 (Iy T.Dl (pv 3)) (ak (aF (nu T (hr.mono (by decide)) (bH T.xX) (C4 T.Dl (pv 3) (fun _ _=>rfl)) bF (pv 2) (gM jF (pv 2) bF)))) ba)
  (ak (fB rfl fD T.qx (FD T) T.zV.2 (hr.mono (by decide)) (pv 2)))))))),?_⟩
 refine(eX _ rfl (eX _ rfl ⟨t,b,p,rfl,hS,hp,?_,fun c hc hb=>?_⟩))
 rotate_left
 ·refine k2 1 ?_
  unfold aq
  rw[drop_cons hc]
  have hnb:¬(c.toNat=10\/(32<=c.toNat/\c.toNat<=126)):=fun z=>by rw[(nh c).mpr z]at hb;cases hb
  unfold oneToken
  have nl:¬isLetter c=true:=fun z=>hnb (.inr (by have:=(vb c).mp z;lia))
  have nd:¬isDigit c=true:=fun z=>hnb (.inr (by have:=(uz c).mp z;lia))
  have ns:¬LsWale.SIGNS.contains c=true:=fun z=>by
   have:∀n:Nat,n<256->LsWale.SIGNS.contains (UInt8.ofNat n)=true->32<=n/\n<=126:=by decide +kernel
   have:=this c.toNat c.toNat_lt
   rw[UInt8.ofNat_toNat]at this
   exact hnb (.inr (this z))
  dsimp only
  rw[if_neg nl,if_neg nd,if_neg ns]
 have le:=Hu hp
 refine(eX _ rfl (eX _ rfl ⟨t,eX _ rfl ⟨.inl hS,rfl,eX _ rfl ?_⟩⟩))
 rw[gn,fH]
 refine aX (fun c=>?_) (fun c=>?_)
 ·have ge:b.length<=aP b p:=by have:=of_decide_eq_true c;lia
  have e1:aq b p=.done:=by unfold aq;rw[wD ge];rfl
  have e2:aA b p=aP b p:=by unfold aA;rw[wD ge];rfl
  have km:=k1 (fun k z=>by rw[e1]at z;cases z)
  rw[e1,e2]at km
  exact(eX _ rfl (eX _ rfl (lF km (aO.refl _))))
 ·have lt:aP b p<b.length:=by
   have:¬(((aP b p:Nat):Int)=b.length):=fun z=>c (decide_eq_true z)
   lia
  obtain⟨cb,hcb⟩:∃c,b[aP b p]? =some c:=⟨_,List.getElem?_eq_getElem lt⟩
  have dc:=drop_cons hcb
  have eo:oneToken (b.drop (aP b p))=if isLetter cb=true then(.word (wordAt (b.drop (aP b p))),(wordAt (b.drop (aP b p))).length)else if isDigit cb=true then(if isNumber (cP b (aP b p))=true then(.num (valueOf (cP b (aP b p))),(cP b (aP b p)).length)else(.bad 2,0))
    else if LsWale.SIGNS.contains cb=true then(.sign cb,1)else(.bad 1,0):=by
   unfold cP
   rw[dc];rfl
  refine(eX _ rfl (eX _ rfl ⟨t,_,_,eX _ rfl ⟨rfl,hS,fT hcb,?_⟩⟩))
  refine(eX _ rfl (eX _ rfl (eX _ rfl ?_)))
  rw[Gq]
  refine aX (fun c1=>?_) (fun c1=>?_)
  ·rw[if_pos c1]at eo
   have e1:aq b p=.word (wordAt (b.drop (aP b p))):=by unfold aq;rw[eo]
   have e2:aA b p=aP b p+(wordAt (b.drop (aP b p))).length:=by unfold aA;rw[eo]
   have km:=k1 (fun k z=>by rw[e1]at z;cases z)
   rw[e1,e2]at km
   exact(eX _ rfl (eX _ rfl ⟨t,b,aP b p,rfl,hS,⟨cb,hcb,c1⟩,hl,km⟩))
  rw[if_neg c1]at eo
  refine(eX _ rfl (eX _ rfl (eX _ rfl ?_)))
  rw[GG]
  refine aX (fun c2=>?_) (fun c2=>?_)
  ·rw[if_pos c2]at eo
   refine(eX _ rfl (eX _ rfl ⟨t,b,aP b p,rfl,hS,⟨cb,hcb,c2⟩,fun hn=>?_,fun hn=>?_⟩))
   ·rw[if_pos hn]at eo
    have e1:aq b p=.num (valueOf (cP b (aP b p))):=by unfold aq;rw[eo]
    have e2:aA b p=aP b p+(cP b (aP b p)).length:=by unfold aA;rw[eo]
    have km:=k1 (fun k z=>by rw[e1]at z;cases z)
    rw[e1,e2]at km
    exact km
   ·rw[if_neg (by rw[hn];decide)]at eo
    exact k2 2 (by unfold aq;rw[eo])
  rw[if_neg c2]at eo
  refine(eX _ rfl ⟨rfl,.inl (cb.toNat:Int),rfl,eX _ rfl ?_⟩)
  rw[signs_at]
  by_cases hs:LsWale.SIGNS.contains cb=true
  ·rw[if_pos hs]
   rw[if_pos hs]at eo
   have e1:aq b p=.sign cb:=by unfold aq;rw[eo]
   have e2:aA b p=aP b p+1:=by unfold aA;rw[eo]
   have km:=k1 (fun k z=>by rw[e1]at z;cases z)
   rw[e1,e2]at km
   refine(eX _ rfl ⟨.inl (cb.toNat:Int),.str (strOf [cb]),rfl,(by rw[signs_at,if_pos hs]),eX _ rfl (eX _ rfl ⟨_,eX _ rfl ⟨rfl,?_⟩⟩)⟩)
   exact lF km (aO.refl _)
  ·rw[if_neg hs]
   rw[if_neg hs]at eo
   exact(eX _ rfl (eR T.qx (k2 1 (by unfold aq;rw[eo]))))
end Wale
end
section
set_option linter.all false
namespace Wm
open LsWale
abbrev ae(b:Bytes)(p:Nat)(e:Env):St:=⟨toks b p,e⟩
theorem eg(b:Bytes)(p:Nat)(e:Env):(ae b p e).ts=⟨aP b p,aq b p⟩::behind (aq b p) (toks b (aA b p)):=wo b p
theorem ku(b:Bytes)(p:Nat)(e:Env):(ae b p e).place=aP b p:=by unfold St.place;rw[eg]
theorem cV{b:Bytes}{p:Nat}{e:Env}(h:c7 (aq b p)=true):(ae b p e).next=ae b (aA b p) e:=by
 unfold St.next
 rw[eg,mz h]
 rfl
theorem Ee{α:Type}[BEq α][LawfulBEq α][DecidableEq α](x y:α):(x==y)=decide (x=y):=by
 rw[Bool.eq_iff_iff,beq_iff_eq,decide_eq_true_eq]
theorem mQ(b:Bytes)(p:Nat)(e:Env)(w:String):(ae b p e).isWord w=decide (aq b p=.word (ascii w)):=by
 unfold St.isWord
 rw[eg]
 cases aq b p<;>simp[Ee]
theorem gg(b:Bytes)(p:Nat)(e:Env)(c:Char):(ae b p e).isSign c=decide (aq b p=.sign (UInt8.ofNat c.toNat)):=by
 unfold St.isSign
 rw[eg]
 cases aq b p<;>simp[Ee]
theorem uy(b:Bytes)(p:Nat)(e:Env):(ae b p e).sums=match aq b p with
  | .num _=>true
  | .word x=>isName x
  |t=>decide (t=.sign 40):=by
 unfold St.sums
 rw[eg]
 have hs:=gg b p e '('
 cases h:aq b p<;>simp only[]<;>rw[hs,h]<;>rfl
theorem QQ{α:Type}(b:Bytes)(p:Nat)(e:Env):(wanted (ae b p e):Except Fault α)=.error ⟨match aq b p with| .bad k=>k|_=>3,aP b p⟩:=by
 unfold wanted
 rw[eg]
 cases aq b p<;>rfl
theorem fK{α:Type}{b:Bytes}{p:Nat}{e:Env}(h:∀k,aq b p≠ .bad k):(wanted (ae b p e):Except Fault α)=.error ⟨3,aP b p⟩:=by
 rw[QQ]
 cases q:aq b p with
 |bad k=>exact absurd q (h k)
 |_=>rfl
def HB(s:St)(k pl:Nat):Prop:=∃r,s.ts=⟨pl,.bad k⟩::r
theorem QT{b:Bytes}{p k:Nat}{e:Env}(h:aq b p=.bad k):HB (ae b p e) k (aP b p):=⟨_,by rw[eg,h]⟩
def bN{α:Type}(r:Except Fault (α×St))(k pl:Nat):Prop:=r=.error ⟨k,pl⟩\/∃x s,r=.ok (x,s)/\HB s k pl
def DJ(r:Except Fault St)(k pl:Nat):Prop:=r=.error ⟨k,pl⟩\/∃s,r=.ok s/\HB s k pl
theorem dE{α:Type}{x:α}{s:St}{k pl:Nat}(h:HB s k pl):bN (.ok (x,s)) k pl:=.inr ⟨x,s,rfl,h⟩
theorem bN.bind{α β:Type}{r:Except Fault (α×St)}{f:α×St->Except Fault (β×St)}{k pl:Nat}(h:bN r k pl)(hf:∀x s,HB s k pl->bN (f (x,s)) k pl):bN (r>>=f) k pl:=by
 rcases h with h|⟨x,s,h,hb⟩
 ·rw[h];exact .inl rfl
 ·rw[h];exact hf x s hb
theorem DJ.bind{β:Type}{r:Except Fault St}{f:St->Except Fault (β×St)}{k pl:Nat}(h:DJ r k pl)(hf:∀s,HB s k pl->bN (f s) k pl):bN (r>>=f) k pl:=by
 rcases h with h|⟨s,h,hb⟩
 ·rw[h];exact .inl rfl
 ·rw[h];exact hf s hb
theorem bN.map{α β:Type}{r:Except Fault (α×St)}{f:α×St->β×St}{k pl:Nat}(h:bN r k pl)(hf:∀x s,(f (x,s)).2=s):bN (r.map f) k pl:=by
 rcases h with h|⟨x,s,h,hb⟩
 ·rw[h];exact .inl rfl
 ·rw[h]
  refine .inr ⟨(f (x,s)).1,s,?_,hb⟩
  show Except.ok (f (x,s))=_
  exact congrArg Except.ok (Prod.ext rfl (hf x s))
section
variable {s:St}{k pl:Nat}
theorem k6{α:Type}(h:HB s k pl):(wanted s:Except Fault α)=.error ⟨k,pl⟩:=by
 obtain⟨r,h⟩:=h
 unfold wanted;rw[h]
theorem gZ(h:HB s k pl)(w:String):s.isWord w=false:=by obtain⟨r,h⟩:=h;unfold St.isWord;rw[h]
theorem gq(h:HB s k pl)(c:Char):s.isSign c=false:=by obtain⟨r,h⟩:=h;unfold St.isSign;rw[h]
theorem Gx(h:HB s k pl):s.sums=false:=by
 have q:=gq h '('
 obtain⟨r,h⟩:=h
 unfold St.sums;rw[h];exact q
theorem wB(h:HB s k pl)(c:Char):eatSign c s=.error ⟨k,pl⟩:=by unfold eatSign;rw[if_neg (by rw[gq h];decide),k6 h]
theorem Ga(h:HB s k pl)(w:String):eatWord w s=.error ⟨k,pl⟩:=by unfold eatWord;rw[if_neg (by rw[gZ h];decide),k6 h]
theorem zM(h:HB s k pl)(c:Char)(d:Nat):eatOpen c d s=.error ⟨k,pl⟩:=by unfold eatOpen;rw[if_pos (gq h c),k6 h]
theorem tI(h:HB s k pl):anyName s=.error ⟨k,pl⟩:=by
 unfold anyName
 have q:=k6 (α:=Bytes×St) h
 obtain⟨r,h⟩:=h
 rw[h];exact q
theorem PV(h:HB s k pl)(l:List Bytes):oldName l s=.error ⟨k,pl⟩:=by unfold oldName;rw[tI h];rfl
theorem Me(h:HB s k pl)(m n:Nat)(l:List Bytes):newName m n s l=.error ⟨k,pl⟩:=by unfold newName;rw[tI h];rfl
theorem Kp(h:HB s k pl):markName s=.error ⟨k,pl⟩:=by unfold markName;rw[tI h];rfl
theorem QB(h:HB s k pl):holdName s=.error ⟨k,pl⟩:=by unfold holdName;rw[tI h];rfl
theorem NN(h:HB s k pl):wideAt s=.error ⟨k,pl⟩:=by
 unfold wideAt
 have q:=k6 (α:=Nat×St) h
 obtain⟨r,h⟩:=h
 rw[h];exact q
theorem LB(h:HB s k pl)(d:Nat):bc .fact d s=.error ⟨k,pl⟩:=by
 have q:=zM h '(' d
 obtain⟨r,h⟩:=h
 rw[EV (by intro p n r' z;rw[h]at z;cases z) (by intro p n r' z;rw[h]at z;cases z),q];rfl
theorem xo(h:HB s k pl)(a:Sum)(d:Nat):bc (.sumRest a) d s=.ok (a,s):=by rw[EZ,gq h,gq h];rfl
theorem Bc(h:HB s k pl)(a:Sum)(d:Nat):bc (.prodRest a) d s=.ok (a,s):=by rw[Hm,gq h,gq h];rfl
theorem Jg(h:HB s k pl)(d:Nat):jV d s=.ok (.once,s):=by rw[we,gZ h,Gx h];rfl
theorem HM(h:HB s k pl):unitAt s=.error ⟨k,pl⟩:=by
 unfold unitAt
 have q:=k6 (α:=Unit_×St) h
 obtain⟨r,h⟩:=h
 rw[h];exact q
theorem M1(h:HB s k pl):loneAt s=none:=by unfold loneAt;simp only[gZ h];rfl
theorem Co(h:HB s k pl)(d:Nat):fN d s=.error ⟨k,pl⟩:=by
 unfold fN gG
 rw[M1 h,gq h,HM h];rfl
theorem Jw(h:HB s k pl)(d:Nat):cR d s=.error ⟨k,pl⟩:=by rw[Bk,Co h];rfl
theorem Io(h:HB s k pl)(d:Nat):eK d s=none:=by unfold eK fw;simp only[gZ h];rfl
theorem CO(h:HB s k pl)(d:Nat):cU d s=.ok (.nil,s):=by rw[Au,Io h]
theorem Nu(h:HB s k pl):eE s=none:=by unfold eE gP;simp only[gZ h];rfl
theorem L8(h:HB s k pl):kx s=.ok ([],s):=by rw[AG,Nu h]
end
def wf:Tok->Bool
 | .word x=>(match x with|c::_=>isLetter c|[]=>false)
 | .sign c=>SIGNS.contains c
 |_=>true
theorem JL{c:UInt8}{r:Bytes}(h:isLetter c=true):∃r',wordAt (c::r)=c::r':=by
 by_cases hd:dk (c::r)∈DIGITWORDS
 ·rw[FC hd]
  unfold dk
  have ht:d7 c=true:=by unfold d7 isTail;rw[h];rfl
  rw[List.takeWhile_cons,if_pos ht,List.take_succ_cons]
  exact⟨_,rfl⟩
 ·rw[C3 hd h]
  have ht:isTail c=true:=by unfold isTail;rw[h];rfl
  rw[List.takeWhile_cons,if_pos ht]
  exact⟨_,rfl⟩
theorem Oa(b:Bytes):wf (oneToken b).1=true:=by
 cases b with
 |nil=>rfl
 |cons c r=>
  unfold oneToken
  dsimp only
  by_cases hl:isLetter c=true
  ·rw[if_pos hl]
   obtain⟨r',e⟩:=JL (r:=r) hl
   show wf (.word (wordAt (c::r)))=true
   rw[e];exact hl
  ·rw[if_neg hl]
   by_cases hd:isDigit c=true
   ·rw[if_pos hd];split<;>rfl
   ·rw[if_neg hd]
    by_cases hs:SIGNS.contains c=true
    ·rw[if_pos hs];exact hs
    ·rw[if_neg hs];rfl
theorem BN(b:Bytes)(p:Nat):wf (aq b p)=true:=Oa _
end Wm
end
section
set_option linter.all false
namespace Wm
open LsWale
def c9(e e':Env):Prop:=e'.sizes=e.sizes/\e'.yarns=e.yarns/\e'.lets=e.lets/\e'.words=e.words/\e'.blocks=e.blocks
theorem c9.refl(e:Env):c9 e e:=⟨rfl,rfl,rfl,rfl,rfl⟩
theorem c9.trans{a b c:Env}(h:c9 a b)(g:c9 b c):c9 a c:=
 ⟨g.1.trans h.1,g.2.1.trans h.2.1,g.2.2.1.trans h.2.2.1,g.2.2.2.1.trans h.2.2.2.1,g.2.2.2.2.trans h.2.2.2.2⟩
def Ke{α:Type}(e:Env)(r:Except Fault (α×St)):Prop:=∀x s,r=.ok (x,s)->c9 e s.env
def dX(e:Env)(r:Except Fault St):Prop:=∀s,r=.ok s->c9 e s.env
theorem lE{α:Type}{e:Env}{f:Fault}:Ke e (.error f:Except Fault (α×St)):=fun _ _ h=>by cases h
theorem bR{α:Type}{e:Env}{x:α}{s:St}(h:c9 e s.env):Ke e (.ok (x,s)):=fun _ _ q=>by cases q;exact h
theorem lO{α:Type}{e:Env}{s:St}:Ke e (wanted s:Except Fault (α×St)):=by
 obtain⟨f,h⟩:=fX (α:=α×St) s
 rw[h];exact lE
theorem Ke.bind{α β:Type}{e:Env}{r:Except Fault (α×St)}{f:α×St->Except Fault (β×St)}(h:∀x s,r=.ok (x,s)->Ke e (f (x,s))):Ke e (r>>=f):=by
 cases r with
 |error e=>exact lE
 |ok p=>obtain⟨x,s⟩:=p;exact h x s rfl
theorem dX.bind{β:Type}{e:Env}{r:Except Fault St}{f:St->Except Fault (β×St)}(h:∀s,r=.ok s->Ke e (f s)):Ke e (r>>=f):=by
 cases r with
 |error e=>exact lE
 |ok s=>exact h s rfl
theorem Ke.mono{α:Type}{e e':Env}{r:Except Fault (α×St)}(h:Ke e' r)(g:c9 e e'):Ke e r:=fun x s q=>g.trans (h x s q)
theorem iH{c:Char}{s:St}:dX s.env (eatSign c s):=by
 intro t h
 unfold eatSign at h
 split at h
 ·cases h;exact .refl _
 ·obtain⟨e,q⟩:=fX (α:=St) s;rw[q]at h;cases h
theorem Ms{c:String}{s:St}:dX s.env (eatWord c s):=by
 intro t h
 unfold eatWord at h
 split at h
 ·cases h;exact .refl _
 ·obtain⟨e,q⟩:=fX (α:=St) s;rw[q]at h;cases h
theorem tV{c:Char}{d:Nat}{s:St}:dX s.env (eatOpen c d s):=by
 intro t h
 unfold eatOpen at h
 split at h
 ·obtain⟨e,q⟩:=fX (α:=St) s;rw[q]at h;cases h
 ·split at h
  ·cases h
  ·cases h;exact .refl _
theorem wY{s:St}:Ke s.env (anyName s):=by
 unfold anyName
 split
 ·split
  ·exact bR (.refl _)
  ·exact lO
 ·exact lO
theorem vw{l:List Bytes}{s:St}:Ke s.env (oldName l s):=by
 unfold oldName
 refine Ke.bind fun x t e=>?_
 have:=wY x t e
 dsimp only
 split
 ·exact lE
 ·exact bR this
theorem vW{s:St}:Ke s.env (markName s):=by
 unfold markName
 refine Ke.bind fun x t e=>?_
 have:=wY x t e
 dsimp only
 split
 ·exact bR this
 ·split
  ·exact lE
  ·exact bR this
theorem Hf{s:St}:Ke s.env (holdName s):=by
 unfold holdName
 refine Ke.bind fun x t e=>?_
 have:=wY x t e
 dsimp only
 split
 ·exact bR this
 ·split
  ·exact lE
  ·exact bR this
theorem fW:∀(f:Nat)(lv:Level)(d:Nat)(s:St),Ke s.env (sumAt f lv d s)
 |0,lv,d,s=>by rw[sumAt];exact lO
 |f+1,.sum,d,s=>by
  rw[sumAt]
  exact Ke.bind fun x t e=>(fW f _ d t).mono (fW f .prod d s x t e)
 |f+1,.prod,d,s=>by
  rw[sumAt]
  exact Ke.bind fun x t e=>(fW f _ d t).mono (fW f .fact d s x t e)
 |f+1,.sumRest a,d,s=>by
  rw[sumAt]
  split
  ·exact Ke.bind fun x t e=>(fW f _ d t).mono (fW f .prod d s.next x t e)
  ·exact bR (.refl _)
 |f+1,.prodRest a,d,s=>by
  rw[sumAt]
  split
  ·exact Ke.bind fun x t e=>(fW f _ d t).mono (fW f .fact d s.next x t e)
  ·exact bR (.refl _)
 |f+1,.fact,d,s=>by
  rw[sumAt]
  split
  ·exact bR (.refl _)
  ·exact Ke.bind fun x t e=>bR (vw x t e)
  ·refine dX.bind fun t e=>Ke.bind fun x u e1=>dX.bind fun v e2=>bR ?_
   exact((tV t e).trans (fW f .sum (d+1) t x u e1)).trans (iH v e2)
theorem C9(lv:Level)(d:Nat)(s:St):Ke s.env (bc lv d s):=fW _ lv d s
theorem LL(f d:Nat)(s:St):Ke s.env (reachAt f d s):=by
 unfold reachAt
 split
 ·split
  ·exact bR (.refl _)
  ·split
   ·exact Ke.bind fun x t e=>bR (fW f .sum d s.next.next x t e)
   ·exact dX.bind fun t e=>Ke.bind fun x u e2=>bR ((Ms t e).trans (vW x u e2))
 ·split
  ·exact Ke.bind fun x t e=>bR (fW f .sum d s x t e)
  ·exact bR (.refl _)
theorem GK{s:St}:Ke s.env (wideAt s):=by
 unfold wideAt
 split
 ·split
  ·exact bR (.refl _)
  ·exact lE
 ·exact lO
theorem HZ(s:St):Ke s.env (unitAt s):=by
 unfold unitAt
 split
 ·split
  ·exact bR (.refl _)
  ·split
   ·exact Ke.bind fun n t e=>dX.bind fun u e1=>Ke.bind fun m v e2=>bR (((show c9 s.env t.env from GK (s:=s.next) n t e).trans (iH u e1)).trans (GK m v e2))
   ·split
    ·exact Ke.bind fun x t e=>bR (show c9 s.env t.env from Hf (s:=s.next) x t e)
    ·exact Ke.bind fun x t e=>bR (vw x t e)
 ·exact lO
theorem Ke.map{α β:Type}{e:Env}{r:Except Fault (α×St)}{f:α×St->β×St}(h:Ke e r)(hf:∀x s,(f (x,s)).2=s):Ke e (r.map f):=by
 intro y t q
 obtain⟨⟨x,s⟩,e1,e2⟩:=GW q
 have:=h x s e1
 have q:=hf x s
 rw[e2]at q
 simp only at q
 rw[q];exact this
theorem Rm{s:St}{g:Except Fault (Lone×St)}(h:loneAt s=some g):Ke s.env g:=by
 unfold loneAt at h
 split at h
 ·cases h;exact(show Ke s.env (holdName s.next)from Hf).map fun _ _=>rfl
 ·split at h
  ·cases h;exact(show Ke s.env (oldName _ s.next)from vw).map fun _ _=>rfl
  ·split at h
   ·cases h;exact(show Ke s.env (markName s.next)from vW).map fun _ _=>rfl
   ·split at h
    ·cases h;exact(show Ke s.env (markName s.next)from vW).map fun _ _=>rfl
    ·split at h
     ·cases h;exact(show Ke s.env (markName s.next)from vW).map fun _ _=>rfl
     ·split at h
      ·cases h;exact bR (.refl _)
      ·split at h
       ·cases h;exact bR (.refl _)
       ·cases h
theorem Pe{I:Nat->St->Except Fault (Items×St)}{R:Nat->St->Except Fault (Reach×St)}(hI:∀d s,Ke s.env (I d s))(hR:∀d s,Ke s.env (R d s))(d:Nat)(s:St):Ke s.env (gG I R d s):=by
 unfold gG
 split
 ·rename_i g h;exact(Rm h).map fun _ _=>rfl
 ·split
  ·exact dX.bind fun t e=>Ke.bind fun l u e1=>dX.bind fun v e2=>Ke.bind fun r z e3=>bR ((((tV t e).trans (hI _ t l u e1)).trans (iH v e2)).trans (hR _ v r z e3))
  ·exact Ke.bind fun u t e=>Ke.bind fun r z e3=>bR ((HZ s u t e).trans (hR _ t r z e3))
theorem ve:∀(f d:Nat)(s:St),Ke s.env (itemsAt f d s)
 |0,d,s=>by rw[itemsAt];exact lO
 |f+1,d,s=>by
  rw[qw]
  refine Ke.bind fun x t e=>?_
  have h1:=Pe (fun d s=>ve f d s) (fun d s=>LL f d s) d s x t e
  dsimp only
  split
  ·exact Ke.bind fun l u e1=>bR (h1.trans (ve f d t.next l u e1))
  ·exact bR h1
theorem Mc(d:Nat)(s:St):Ke s.env (cR d s):=ve _ d s
theorem IM{S:Nat->St->Except Fault (Sum×St)}{I:Nat->St->Except Fault (Items×St)}{T:Nat->St->Except Fault (Stats×St)}(hS:∀d s,Ke s.env (S d s))(hI:∀d s,Ke s.env (I d s))(hT:∀d s,Ke s.env (T d s))
  {d:Nat} {s:St} {g:Except Fault ((Stats->Stats)×St)} (h:fw S I T d s=some g):Ke s.env g:=by
 have rw_:c9 s.env (rowAt s).env:=by unfold rowAt;split<;>exact .refl _
 unfold fw at h
 split at h
 ·cases h
  refine Ke.bind fun x t e=>dX.bind fun u e2=>bR ?_
  have h1:c9 s.env t.env:=hS d s.next x t e
  have h2:=iH u e2
  dsimp only at h2
  split at h2
  ·exact h1.trans h2
  ·exact h1.trans h2
 ·split at h
  ·cases h
   exact Ke.bind fun x t e=>dX.bind fun u e2=>bR ((rw_.trans (hI _ _ x t e)).trans (iH u e2))
  ·split at h
   ·cases h
    exact Ke.bind fun x t e=>dX.bind fun u e2=>Ke.bind fun i v e3=>dX.bind fun z e4=>bR ((((show c9 s.env t.env from hS d s.next x t e).trans (tV u e2)).trans (hT _ _ i v e3)).trans (iH z e4))
   ·split at h
    ·cases h
     refine Ke.bind fun x t e=>?_
     have h1:c9 s.env t.env:=vw (s:=s.next) x t e
     dsimp only
     split
     ·exact Ke.bind fun y u e2=>dX.bind fun v e3=>bR ((h1.trans (hS _ _ y u e2)).trans (iH v e3))
     ·exact dX.bind fun v e3=>bR (h1.trans (iH v e3))
    ·split at h
     ·cases h
      exact dX.bind fun v e3=>bR (show c9 s.env v.env from iH (s:=s.next) v e3)
     ·cases h
theorem wO:∀(f d:Nat)(s:St),Ke s.env (statsAt f d s)
 |0,d,s=>by rw[statsAt];exact lO
 |f+1,d,s=>by
  rw[tL]
  unfold og
  split
  ·rename_i g h
   exact Ke.bind fun x t e=>Ke.bind fun r u e2=>bR ((IM (fun d s=>fW f .sum d s) (fun d s=>ve f d s) (fun d s=>wO f d s) h x t e).trans (wO f d t r u e2))
  ·exact bR (.refl _)
theorem OH(d:Nat)(s:St):Ke s.env (cU d s):=wO _ d s
end Wm
end
section
set_option Elab.async false
set_option linter.all false
set_option maxRecDepth 100000
set_option maxHeartbeats 2000000
namespace Wale
open PySem PySem.Spec PyProof.Rows L2
open Wm
variable {P:Program}{w:World}{K:PySem.W.Frag}{mg:Str->Option Value}{base:Heap}{a:Ad}
inductive Kd where
 |sizes
 |yarns
 |fb
 |words
 |blocks
 |markers
 |holders
 deriving DecidableEq
def a7:Kd->Str
 | .sizes=>"sizes"
 | .yarns=>"yarns"
 | .fb=>"numbers"
 | .words=>"words"
 | .blocks=>"blocks"
 | .markers=>"markers"
 | .holders=>"holders"
def bK:Kd->Nat
 | .sizes=>16
 | .yarns=>16
 | .fb=>256
 | .words=>64
 | .blocks=>64
 | .markers=>64
 | .holders=>16
def dm:Kd->Bool
 | .markers=>false
 | .holders=>false
 |_=>true
theorem vT{j k:Kd}(h:a7 j=a7 k):j=k:=by
 revert h
 cases j<;>cases k<;>first|exact fun _=>rfl|exact fun h=>absurd h (by decide +kernel)
theorem MM(k:Kd):a7 k≠("":Str):=by cases k<;>decide +kernel
abbrev NL:=Kd->List Bytes
def dz(L:NL)(k:Kd)(x:Bytes):NL:=fun j=>if j=k then L j++[x]else L j
def i8(L:NL):Nat:=(L .sizes).length+(L .yarns).length+(L .fb).length+(L .words).length+(L .blocks).length+(L .markers).length+(L .holders).length
theorem add_same{L:NL}{k:Kd}{x:Bytes}:dz L k x k=L k++[x]:=if_pos rfl
theorem mr{L:NL}{j k:Kd}{x:Bytes}(h:j≠k):dz L k x j=L j:=if_neg h
theorem oZ(L:NL)(k:Kd)(x:Bytes):i8 (dz L k x)=i8 L+1:=by
 cases k<;>simp[i8,dz]<;>lia
theorem Rn{L:NL}(h:∀k,(L k).length<=bK k):i8 L<=496:=by
 have h1:=h .sizes
 have h2:=h .yarns
 have h3:=h .fb
 have h4:=h .words
 have h5:=h .blocks
 have h6:=h .markers
 have h7:=h .holders
 simp only[bK]at h1 h2 h3 h4 h5 h6 h7
 unfold i8
 lia
def mj(kvs:List (Key×V))(L:NL):Prop:=∀x v,bU kvs (.inr (strOf x))=some v↔∃k,dm k=true/\v=.str (a7 k)/\x∈L k
def lP(kvs:List (List Key×V))(L:NL):Prop:=∀k x,dm k=false->((bU kvs [.inr (a7 k),.inr (strOf x)]).isSome=true↔x∈L k)
def um(kvs:List (Key×V))(L:NL):Prop:=∀k,(bU kvs (.inr (a7 k))).getD (.int 0)=.int (L k).length
def ug(td sd ad:Addr):List (Str×V):=[("told",.ref td),("standing",.ref sd),("amounts",.ref ad)]
structure NA where
 n:Addr
 td:Addr
 sd:Addr
 ad:Addr
structure gc(a:Ad)(R:NA)(L:NL)(H:Hp):Prop where
 obj:∃dx,H R.n=some (.ins a.ck dx (ug R.td R.sd R.ad))
 gu:∃kvs,H R.td=some (.dK kvs)/\mj kvs L/\kvs.length<=i8 L
 iG:∃kvs,H R.sd=some (.dT kvs)/\lP kvs L/\kvs.length<=i8 L
 gC:∃kvs,H R.ad=some (.dK kvs)/\um kvs L/\kvs.length<=i8 L
 ne:R.td≠R.ad
 bd:∀k,(L k).length<=bK k
def ik(R:NA)(H H':Hp):Prop:=∀b o,H b=some o->b≠R.td->b≠R.sd->b≠R.ad->H' b=some o
theorem Fb{R:NA}{H H':Hp}(h:aO H H'):ik R H H':=fun b o e _ _ _=>h b o e
theorem ik.trans{R:NA}{H H1 H2:Hp}(h:ik R H H1)(g:ik R H1 H2):ik R H H2:=fun b o e n1 n2 n3=>g b o (h b o e n1 n2 n3) n1 n2 n3
theorem aS{H:Hp}{p:Addr}{o:HO}(h:H p=none):aO H (upd H p o):=fun b ob e=>by
 rw[ao (fun z=>by rw[z,h]at e;cases e)]
 exact e
theorem gc.same{R:NA}{L:NL}{H H':Hp}(h:gc a R L H)(s:aO H H'):gc a R L H':=by
 obtain⟨⟨dx,e0⟩,⟨k1,e1,t1⟩,⟨k2,e2,t2⟩,⟨k3,e3,t3⟩,ne,bd⟩:=h
 exact⟨⟨dx,s _ _ e0⟩,⟨k1,s _ _ e1,t1⟩,⟨k2,s _ _ e2,t2⟩,⟨k3,s _ _ e3,t3⟩,ne,bd⟩
theorem b9.same{C:Addr}{H H':Hp}{x:Addr}{kd tx:Str}{n pl af:Int}(h:b9 C H x kd tx n pl af)(s:aO H H'):b9 C H' x kd tx n pl af:=by
 obtain⟨dx,fs,e,r⟩:=h
 exact⟨dx,fs,s _ _ e,r⟩
def BS(a:Ad):Sp:=fun vs H Q _=>∃(R:NA)(dx:Addr)(kvs:List (Key×V))(k:Str)(m:Int),vs=[.ref R.n,.str k]/\H R.n=some (.ins a.ck dx (ug R.td R.sd R.ad))/\H R.ad=some (.dK kvs)/\
 (bU kvs (.inr k)).getD (.int 0)=.int m/\Q (.int m) H
theorem Na:aI ["self","kind"] ["self","kind"] (aC zZ):=⟨rfl,rfl,rfl,by decide +kernel,rfl,by decide +kernel,by decide +kernel⟩
theorem vn(T:Tx P w K mg a):ax P w K mg base aV 1 a.pE a.mX ["self","kind"] (BS a):=by
 refine T.fi.fn.ok Na (fun vs H Q E h=>?_) (fun cdv A outer s H vs Q E hr h=>?_)
 ·obtain⟨_,_,_,_,_,rfl,_⟩:=h;rfl
 obtain⟨R,dx,kvs,k,m,rfl,e0,e1,em,q⟩:=h
 refine⟨_,ak (aF (B7 (kz hr) (aE (pv 0) rfl) (pv 1) bF ⟨rfl,rfl,rfl,rfl⟩)),?_⟩
 refine(rF rfl e0 T.cJ.cl T.ux rfl ⟨R.ad,rfl,.inl ⟨kvs,.inl e1⟩,eX _ rfl ⟨_,gd.k (k:=.inr k) e1,?_⟩⟩)
 rw[em]
 exact q
def KS(K:PySem.W.Frag)(a:Ad):Sp:=fun vs H Q E=>∃(R:NA)(L:NL)(k:Kd)(x:Addr)(kd tx:Str)(n pl af:Int),vs=[.ref R.n,.ref x,.str (a7 k)]/\gc a R L H/\b9 a.bQ H x kd tx n pl af/\
 ((L k).length≠bK k->Q .ay H)/\((L k).length=bK k->Told K a E 6 pl)
theorem IG:aI ["self","token","kind"] ["self","token","kind"] (aC yk):=⟨rfl,rfl,rfl,by decide +kernel,rfl,by decide +kernel,by decide +kernel⟩
theorem PM(k:Kd):bU ([(.inr "sizes",.int 16),(.inr "yarns",.int 16),(.inr "numbers",.int 256),(.inr "words",.int 64),(.inr "blocks",.int 64),(.inr "markers",.int 64),(.inr "holders",.int 16)]:List (Key×V)) (.inr (a7 k))=some (.int (bK k:Nat)):=by
 cases k<;>decide +kernel
theorem Fl(T:Tx P w K mg a):ax P w K mg base (bj P w) 4 a.sI a.qV ["self","token","kind"] (KS K a):=by
 refine T.qz.fn.bz IG (fun vs H Q E h=>?_) (fun cdv A outer s H vs Q E hr h=>?_)
 ·obtain⟨_,_,_,_,_,_,_,_,_,rfl,_⟩:=h;rfl
 obtain⟨R,L,k,x,kd,tx,n,pl,af,rfl,N,tk,q1,q2⟩:=h
 refine⟨_,ak (a4 (a5 cp (a0 (pv 0) T.cJ.cl T.fi.mt (vn T) (hr.mono (by decide)) T.fi.bd .nil aU (aa (pv 2) ag)) (C4 T.Qm (pv 2) (fun _ _=>rfl)) (aZ _))
  (ak (fB rfl fD T.jY (v9 T) T.ra.2 (hr.mono (by decide)) (aE (pv 1) rfl))) ba),?_⟩
 obtain⟨dx,e0⟩:=N.obj
 obtain⟨kva,ea,ha,-⟩:=N.gC
 refine(eX _ rfl ⟨R.n,dx,eX _ rfl ⟨e0,rfl,eX _ rfl ⟨R,dx,kva,a7 k,eX _ rfl ⟨e0,ea,ha k,?_⟩⟩⟩⟩)
 refine(eX _ rfl ⟨.inr (a7 k),eX _ rfl ⟨PM k,rfl,eX _ rfl ?_⟩⟩)
 rw[gn]
 refine aX (fun c=>?_) (fun c=>?_)
 ·obtain⟨dx1,fs,e,l1,l2,l3,l4,l5⟩:=tk
  exact(rF rfl e T.bx.cl T.ig l4 (eR T.jY (q2 (by have:=of_decide_eq_true c;lia))))
 ·exact q1 fun z=>c (decide_eq_true (by rw[z]))
def dJ(L:NL)(x:Bytes):Prop:=∀j,dm j=true->x∉L j
def Pk(K:PySem.W.Frag)(a:Ad):Sp:=fun vs H Q E=>∃(R:NA)(L:NL)(k:Kd)(x:Addr)(xb:Bytes)(kd:Str)(n pl af:Int),vs=[.ref R.n,.ref x,.str (a7 k)]/\gc a R L H/\b9 a.bQ H x kd (strOf xb) n pl af/\
 (¬dJ L xb->Told K a E 5 pl)/\(dJ L xb->(L k).length=bK k->Told K a E 6 pl)/\(dJ L xb->(L k).length≠bK k->Q .ay H)
theorem Mr:aI ["self","token","kind"] ["self","token","kind"] (aC A7):=⟨rfl,rfl,rfl,by decide +kernel,rfl,by decide +kernel,by decide +kernel⟩
theorem JN(T:Tx P w K mg a):ax P w K mg base (bj P w) 5 a.pN a.tJ ["self","token","kind"] (Pk K a):=by
 refine T.AO.fn.bz Mr (fun vs H Q E h=>?_) (fun cdv A outer s H vs Q E hr h=>?_)
 ·obtain⟨_,_,_,_,_,_,_,_,_,rfl,_⟩:=h;rfl
 obtain⟨R,L,k,x,xb,kd,n,pl,af,rfl,N,tk,q1,q2,q3⟩:=h
 refine⟨_,aj (a4 (Di (En (kz hr) (aE (pv 1) rfl) (aE (pv 0) rfl)) (by rfl))
  (ak (fB rfl fD T.mE (ya T) T.vq.2 (hr.mono (by decide)) (aE (pv 1) rfl))) ba)
  (ak (a9 (a0 (pv 0) T.cJ.cl T.qz.mt (Fl T) hr T.qz.bd .nil aw (aa (pv 1) (aa (pv 2) ag))))),?_⟩
 obtain⟨dx,e0⟩:=N.obj
 obtain⟨kvs,e1,h1,-⟩:=N.gu
 have tk':=tk
 obtain⟨dx1,fs,e,l1,l2,l3,l4,l5⟩:=tk
 refine(rF rfl e T.bx.cl T.cf l2 (rF rfl e0 T.cJ.cl T.tY rfl ⟨R.td,eX _ rfl ⟨gd.k (k:=.inr (strOf xb)) e1,eX _ rfl ?_⟩⟩))
 cases hv:bU kvs (.inr (strOf xb))with
 |some v=>
  obtain⟨j,hj,-,hm⟩:=(h1 xb v).mp hv
  exact bu (rF rfl e T.bx.cl T.ig l4 (eR T.mE (q1 fun z=>z j hj hm)))
 |none=>
  have un:dJ L xb:=fun j hj hm=>by
   have:=(h1 xb _).mpr ⟨j,hj,rfl,hm⟩
   rw[hv]at this
   cases this
  exact bD (eX _ rfl ⟨R.n,dx,eX _ rfl ⟨e0,rfl,eX _ rfl (eX _ rfl ⟨R,L,k,x,kd,_,n,pl,af,rfl,N,tk',fun z=>q3 un z,fun z=>q2 un z⟩)⟩⟩)
def NW(K:PySem.W.Frag)(a:Ad):Sp:=fun vs H Q E=>∃(R:NA)(L:NL)(k:Kd)(x:Addr)(xb:Bytes)(kd:Str)(n pl af:Int),vs=[.ref R.n,.ref x,.str (a7 k)]/\gc a R L H/\b9 a.bQ H x kd (strOf xb) n pl af/\dm k=true/\
 (xb∈L k->Q .ay H)/\(xb∉L k->Told K a E 4 pl)
theorem N8:aI ["self","token","kind"] ["self","token","kind"] (aC xq):=⟨rfl,rfl,rfl,by decide +kernel,rfl,by decide +kernel,by decide +kernel⟩
theorem I0(T:Tx P w K mg a):ax P w K mg base (bj P w) 4 a.so a.qZ ["self","token","kind"] (NW K a):=by
 refine T.AQ.fn.bz N8 (fun vs H Q E h=>?_) (fun cdv A outer s H vs Q E hr h=>?_)
 ·obtain⟨_,_,_,_,_,_,_,_,_,rfl,_⟩:=h;rfl
 obtain⟨R,L,k,x,xb,kd,n,pl,af,rfl,N,tk,ht,q1,q2⟩:=h
 refine⟨_,ak (a4 (a5 j4 (B7 (kz hr) (aE (pv 0) rfl) (aE (pv 1) rfl) aT ⟨rfl,rfl,rfl,rfl⟩) (pv 2) (aZ _))
  (ak (fB rfl fD T.Gj (Jd T) T.BP.2 (hr.mono (by decide)) (aE (pv 1) rfl))) ba),?_⟩
 obtain⟨dx,e0⟩:=N.obj
 obtain⟨kvs,e1,h1,-⟩:=N.gu
 obtain⟨dx1,fs,e,l1,l2,l3,l4,l5⟩:=tk
 refine(rF rfl e0 T.cJ.cl T.tY rfl ⟨R.td,rfl,.inl ⟨kvs,.inl e1⟩,rF rfl e T.bx.cl T.cf l2 ⟨_,gd.k (k:=.inr (strOf xb)) e1,?_⟩⟩)
 have bad:∀lo,xb∉L k->nN lo K a.oW E 4 (mP K (bI 1) "place") {nx:=fun _ H'=>Q .ay H',rt:=Q} (L2.start ["self","token","kind"] [.ref R.n,.ref x,.str (a7 k)]) H:=fun lo hm=>
  (rF rfl e T.bx.cl T.ig l4 (eR T.Gj (q2 hm)))
 cases hv:bU kvs (.inr (strOf xb))with
 |some v=>
  obtain⟨j,hj,ev,hm⟩:=(h1 xb v).mp hv
  subst ev
  refine(eX _ rfl ⟨rfl,eX _ rfl ?_⟩)
  show if(!decide (V.str (a7 j)=V.str (a7 k)))=true then _ else _
  rw[cN]
  by_cases hjk:j=k
  ·subst hjk
   exact pw rfl (q1 hm)
  ·rw[decide_eq_false fun z=>hjk (vT z)]
   refine bu (bad _ fun hm'=>hjk ?_)
   have:=(h1 xb _).mpr ⟨k,ht,rfl,hm'⟩
   rw[hv]at this
   exact vT (V.str.inj (Option.some.inj this))
 |none=>
  refine(eX _ rfl ⟨rfl,eX _ rfl ?_⟩)
  show if(!decide (V.str ""=V.str (a7 k)))=true then _ else _
  rw[cN,decide_eq_false fun z=>MM k z.symm]
  refine bu (bad _ fun hm'=>?_)
  have:=(h1 xb _).mpr ⟨k,ht,rfl,hm'⟩
  rw[hv]at this
  cases this
end Wale
end
section
set_option Elab.async false
set_option linter.all false
set_option maxRecDepth 100000
set_option maxHeartbeats 2000000
namespace Wale
open PySem PySem.Spec PyProof.Rows L2
open Wm
variable {P:Program}{w:World}{K:PySem.W.Frag}{mg:Str->Option Value}{base:Heap}{a:Ad}
theorem DG{x y:Str}(h:x≠y):(Sum.inr x:Key)≠ .inr y:=fun z=>h (Sum.inr.inj z)
theorem mj.put{kvs:List (Key×V)}{L:NL}{k:Kd}{x:Bytes}(h:mj kvs L)(hk:dm k=true)(hu:dJ L x):mj (putK kvs (.inr (strOf x)) (.str (a7 k))) (dz L k x):=by
 intro y v
 rw[yz]
 by_cases e:y=x
 ·subst e
  rw[if_pos rfl]
  constructor
  ·intro z
   cases z
   exact⟨k,hk,rfl,by rw[add_same];simp⟩
  ·rintro⟨j,hj,rfl,hm⟩
   by_cases ej:j=k
   ·rw[ej]
   ·rw[mr ej]at hm
    exact absurd hm (hu j hj)
 ·rw[if_neg (DG fun z=>e (mw z)),h y v]
  refine exists_congr fun j=>and_congr_right fun hj=>and_congr_right fun ev=>?_
  by_cases ej:j=k
  ·rw[ej,add_same]
   simp[e]
  ·rw[mr ej]
theorem um.put{kvs:List (Key×V)}{L:NL}{k:Kd}{x:Bytes}(h:um kvs L):um (putK kvs (.inr (a7 k)) (.int ((L k).length+1))) (dz L k x):=by
 intro j
 rw[yz]
 by_cases e:j=k
 ·subst e
  rw[if_pos rfl,add_same]
  simp
 ·rw[if_neg (DG fun z=>e (vT z)),mr e]
  exact h j
theorem lP.put{kvs:List (List Key×V)}{L:NL}{k:Kd}{x:Bytes}(h:lP kvs L)(hk:dm k=false):lP (putK kvs [.inr (a7 k),.inr (strOf x)] (.bl true)) (dz L k x):=by
 intro j y hj
 rw[yz]
 by_cases e:j=k
 ·subst e
  rw[add_same]
  by_cases ey:y=x
  ·subst ey
   rw[if_pos rfl]
   simp
  ·rw[if_neg (fun z=>by simp at z;exact ey (mw z)),h j y hj]
   simp[ey]
 ·rw[if_neg (fun z=>by simp at z;exact e (vT z.1)),mr e]
  exact h j y hj
theorem mj.add{kvs:List (Key×V)}{L:NL}{k:Kd}{x:Bytes}(h:mj kvs L)(hk:dm k=false):mj kvs (dz L k x):=by
 intro y v
 rw[h y v]
 refine exists_congr fun j=>and_congr_right fun hj=>and_congr_right fun ev=>?_
 rw[mr (fun z=>by rw[z,hk]at hj;cases hj)]
theorem lP.add{kvs:List (List Key×V)}{L:NL}{k:Kd}{x:Bytes}(h:lP kvs L)(hk:dm k=true):lP kvs (dz L k x):=by
 intro j y hj
 rw[h j y hj,mr (fun z=>by rw[z,hk]at hj;cases hj)]
theorem EL{L:NL}{k:Kd}{x:Bytes}(h:∀k,(L k).length<=bK k)(hl:(L k).length≠bK k)(j:Kd):(dz L k x j).length<=bK j:=by
 have:=h j
 by_cases e:j=k
 ·subst e
  rw[add_same,List.length_append,List.length_singleton]
  lia
 ·rw[mr e];exact this
theorem small{n:Nat}{L:NL}(h:n<=i8 L)(b:∀k,(L k).length<=bK k):n<sizeLine:=KW (by have:=Rn b;lia)
def DZ(a:Ad):Sp:=fun vs H Q _=>∃(R:NA)(L:NL)(k:Kd)(x:Addr)(xb:Bytes)(kd:Str)(n pl af:Int),vs=[.ref R.n,.ref x,.str (a7 k)]/\gc a R L H/\b9 a.bQ H x kd (strOf xb) n pl af/\dm k=true/\dJ L xb/\
 (L k).length≠bK k/\∀H',gc a R (dz L k xb) H'->ik R H H'->Q .ay H'
theorem Jp:aI ["self","token","kind"] ["self","token","kind"] (aC Bm):=⟨rfl,rfl,rfl,by decide +kernel,rfl,by decide +kernel,by decide +kernel⟩
theorem E5(T:Tx P w K mg a):ax P w K mg base aV 2 a.oO a.mI ["self","token","kind"] (DZ a):=by
 refine T.jx.fn.ok Jp (fun vs H Q E h=>?_) (fun cdv A outer s H vs Q E hr h=>?_)
 ·obtain⟨_,_,_,_,_,_,_,_,_,rfl,_⟩:=h;rfl
 obtain⟨R,L,k,x,xb,kd,n,pl,af,rfl,N,tk,hk,hu,hl,q⟩:=h
 refine⟨_,aj (wm (kz hr) (aE (pv 0) rfl) (aE (pv 1) rfl) (pv 2) rfl)
  (ak (wm (kz hr) (aE (pv 0) rfl) (pv 2) (gM jF (a0 (pv 0) T.cJ.cl T.fi.mt (vn T) hr T.fi.bd .nil aU (aa (pv 2) ag)) bF) rfl)),?_⟩
 obtain⟨dx,e0⟩:=N.obj
 obtain⟨kt,et,ht,lt⟩:=N.gu
 obtain⟨ks,es,hs,ls⟩:=N.iG
 obtain⟨ka,ea,ha,la⟩:=N.gC
 obtain⟨dx1,fs,e,l1,l2,l3,l4,l5⟩:=tk
 have nt:R.n≠R.td:=bX e0 et (fun z=>nomatch z)
 have na:R.n≠R.ad:=bX e0 ea (fun z=>nomatch z)
 have st:R.sd≠R.td:=bX es et (fun z=>nomatch z)
 have sa:R.sd≠R.ad:=bX es ea (fun z=>nomatch z)
 refine(eX _ rfl (rF rfl e0 T.cJ.cl T.tY rfl (rF rfl e T.bx.cl T.cf l2 ⟨R.td,eX _ rfl ⟨iP.k (k:=.inr (strOf xb)) et (small lt N.bd),?_⟩⟩)))
 have e0':(upd H R.td (.dK (putK kt (.inr (strOf xb)) (.str (a7 k))))) R.n=some (.ins a.ck dx (ug R.td R.sd R.ad)):=by rw[ao nt];exact e0
 have ea':(upd H R.td (.dK (putK kt (.inr (strOf xb)) (.str (a7 k))))) R.ad=some (.dK ka):=by rw[ao N.ne.symm];exact ea
 refine(eX _ rfl ⟨R.n,dx,eX _ rfl ⟨e0',rfl,eX _ rfl ⟨R,dx,ka,a7 k,eX _ rfl ⟨e0',ea',ha k,_,eX _ rfl ⟨rfl,?_⟩⟩⟩⟩⟩)
 refine(rF rfl e0' T.cJ.cl T.ux rfl (eX _ rfl ⟨R.ad,eX _ rfl ⟨iP.k (k:=.inr (a7 k)) ea' (small la N.bd),?_⟩⟩))
 refine q _ ⟨⟨dx,?_⟩,⟨_,?_,ht.put hk hu,?_⟩,⟨ks,?_,hs.add hk,?_⟩,⟨_,aB,ha.put,?_⟩,N.ne,EL N.bd hl⟩ fun b o eb n1 n2 n3=>?_
 ·rw[ao na];exact e0'
 ·rw[ao N.ne];exact aB
 ·have:=mR kt (.inr (strOf xb)) (.str (a7 k));rw[oZ];lia
 ·rw[ao sa,ao st];exact es
 ·rw[oZ];lia
 ·rw[oZ];exact Nat.le_trans (mR ka (.inr (a7 k)) _) (Nat.succ_le_succ la)
 ·rw[ao n3,ao n1];exact eb
def jR(L:NL)(k:Kd)(x:Bytes):NL:=if x∈L k then L else dz L k x
def P4(K:PySem.W.Frag)(a:Ad):Sp:=fun vs H Q E=>∃(R:NA)(L:NL)(k:Kd)(x:Addr)(xb:Bytes)(kd:Str)(n pl af:Int),vs=[.ref R.n,.ref x,.str (a7 k)]/\gc a R L H/\b9 a.bQ H x kd (strOf xb) n pl af/\dm k=false/\
 (xb∉L k->(L k).length=bK k->Told K a E 6 pl)/\((xb∈L k\/(L k).length≠bK k)->∀H',gc a R (jR L k xb) H'->ik R H H'->Q .ay H')
theorem Pr:aI ["self","token","kind"] ["self","token","kind"] (aC AU):=⟨rfl,rfl,rfl,by decide +kernel,rfl,by decide +kernel,by decide +kernel⟩
theorem ON(T:Tx P w K mg a):ax P w K mg base (bj P w) 5 a.rV a.qu ["self","token","kind"] (P4 K a):=by
 refine T.zt.fn.bz Pr (fun vs H Q E h=>?_) (fun cdv A outer s H vs Q E hr h=>?_)
 ·obtain⟨_,_,_,_,_,_,_,_,_,rfl,_⟩:=h;rfl
 obtain⟨R,L,k,x,xb,kd,n,pl,af,rfl,N,tk,hk,q1,q2⟩:=h
 refine⟨_,aj (a4 (Di (En (kz hr) (kH (aa (pv 2) (aa (aE (pv 1) rfl) ag))) (aE (pv 0) rfl)) (by rfl)) (ak Oj) ba)
  (aj (a9 (a0 (pv 0) T.cJ.cl T.qz.mt (Fl T) hr T.qz.bd .nil aw (aa (pv 1) (aa (pv 2) ag))))
  (aj (wm (kz hr) (aE (pv 0) rfl) (kH (aa (pv 2) (aa (aE (pv 1) rfl) ag))) ue rfl)
  (ak (wm (kz hr) (aE (pv 0) rfl) (pv 2) (gM jF (a0 (pv 0) T.cJ.cl T.fi.mt (vn T) (hr.mono (by decide)) T.fi.bd .nil aU (aa (pv 2) ag)) bF) rfl)))),?_⟩
 have tk0:=tk
 obtain⟨dx,e0⟩:=N.obj
 obtain⟨kt,et,ht,lt⟩:=N.gu
 obtain⟨ks,es,hs,ls⟩:=N.iG
 obtain⟨ka,ea,ha,la⟩:=N.gC
 obtain⟨dx1,fs,e,l1,l2,l3,l4,l5⟩:=tk
 have nt:R.n≠R.td:=bX e0 et (fun z=>nomatch z)
 have na:R.n≠R.ad:=bX e0 ea (fun z=>nomatch z)
 have ns:R.n≠R.sd:=bX e0 es (fun z=>nomatch z)
 have st:R.sd≠R.td:=bX es et (fun z=>nomatch z)
 have sa:R.sd≠R.ad:=bX es ea (fun z=>nomatch z)
 refine(eX _ rfl (rF rfl e T.bx.cl T.cf l2 ⟨(by show 2<=sizeLine;decide),fun p hp=>?_⟩))
 have s1:aO H (upd H p (.tup [.str (a7 k),.str (strOf xb)])):=aS hp
 refine(rF rfl (s1 _ _ e0) T.cJ.cl T.Ap rfl ⟨R.sd,eX _ rfl ⟨gd.t (k:=[.inr (a7 k),.inr (strOf xb)]) (s1 _ _ es) aB,eX _ rfl ?_⟩⟩)
 have hin:=hs k xb hk
 by_cases hm:xb∈L k
 ·rw[hin.mpr hm]
  refine bu (q2 (.inl hm) _ ?_ (Fb s1))
  unfold jR
  rw[if_pos hm]
  exact N.same s1
 rw[show(bU ks [.inr (a7 k),.inr (strOf xb)]).isSome=false from Bool.eq_false_iff.mpr fun z=>hm (hin.mp z)]
 refine bD (eX _ rfl ⟨R.n,dx,eX _ rfl ⟨s1 _ _ e0,rfl,eX _ rfl (eX _ rfl ⟨R,L,k,x,kd,_,n,pl,af,rfl,N.same s1,tk0.same s1,fun hl=>?_,fun hl=>q1 hm hl⟩)⟩⟩)
 refine(rF rfl (s1 _ _ e0) T.cJ.cl T.Ap rfl (eX _ rfl (rF rfl (s1 _ _ e) T.bx.cl T.cf l2 ⟨(by show 2<=sizeLine;decide),fun p2 hp2=>?_⟩)))
 generalize hH1:upd H p (.tup [.str (a7 k),.str (strOf xb)])=H1 at s1 hp2
 have s2:aO H (upd H1 p2 (.tup [.str (a7 k),.str (strOf xb)])):=s1.trans (aS hp2)
 refine⟨R.sd,eX _ rfl ⟨iP.t (k:=[.inr (a7 k),.inr (strOf xb)]) (s2 _ _ es) aB (small ls N.bd),?_⟩⟩
 generalize hH2:upd H1 p2 (.tup [.str (a7 k),.str (strOf xb)])=H2 at s2
 have e0':(upd H2 R.sd (.dT (putK ks [.inr (a7 k),.inr (strOf xb)] (.bl true)))) R.n=some (.ins a.ck dx (ug R.td R.sd R.ad)):=by rw[ao ns];exact s2 _ _ e0
 have ea':(upd H2 R.sd (.dT (putK ks [.inr (a7 k),.inr (strOf xb)] (.bl true)))) R.ad=some (.dK ka):=by rw[ao sa.symm];exact s2 _ _ ea
 refine(eX _ rfl ⟨R.n,dx,eX _ rfl ⟨e0',rfl,eX _ rfl ⟨R,dx,ka,a7 k,eX _ rfl ⟨e0',ea',ha k,_,eX _ rfl ⟨rfl,?_⟩⟩⟩⟩⟩)
 refine(rF rfl e0' T.cJ.cl T.ux rfl (eX _ rfl ⟨R.ad,eX _ rfl ⟨iP.k (k:=.inr (a7 k)) ea' (small la N.bd),?_⟩⟩))
 refine q2 (.inr hl) _ ?_ fun b o eb n1 n2 n3=>?_
 ·unfold jR
  rw[if_neg hm]
  refine⟨⟨dx,?_⟩,⟨kt,?_,ht.add hk,?_⟩,⟨_,?_,hs.put hk,?_⟩,⟨_,aB,ha.put,?_⟩,N.ne,EL N.bd hl⟩
  ·rw[ao na];exact e0'
  ·rw[ao N.ne,ao st.symm];exact s2 _ _ et
  ·rw[oZ];lia
  ·rw[ao sa];exact aB
  ·have:=mR ks [.inr (a7 k),.inr (strOf xb)] (.bl true);rw[oZ];lia
  ·rw[oZ];exact Nat.le_trans (mR ka (.inr (a7 k)) _) (Nat.succ_le_succ la)
 ·rw[ao n3,ao n2];exact s2 _ _ eb
def EI:NL:=fun _=>[]
def Nh(a:Ad):Sp:=fun vs H Q _=>∃(x dx:Addr),vs=[.ref x]/\H x=some (.ins a.ck dx [])/\∀(H':Hp)(R:NA),R.n=x->gc a R EI H'->(∀b o,H b=some o->b≠x->H' b=some o)->(∀o,H R.td≠some o/\H R.sd≠some o/\H R.ad≠some o)->Q .ay H'
theorem Mg:aI ["self"] ["self"] (aC zR):=⟨rfl,rfl,rfl,by decide +kernel,rfl,by decide +kernel,by decide +kernel⟩
theorem Lz(T:Tx P w K mg a):ax P w K mg base aV 1 a.mv a.pf ["self"] (Nh a):=by
 refine T.Gm.1.ok Mg (fun vs H Q E h=>?_) (fun cdv A outer s H vs Q E hr h=>?_)
 ·obtain⟨_,_,rfl,_⟩:=h;rfl
 obtain⟨x,dx,rfl,hx,q⟩:=h
 refine⟨_,aj (dg (pv 0) Gu rfl) (aj (dg (pv 0) Iv rfl) (ak (dg (pv 0) Gu rfl))),?_⟩
 have C:=T.cJ.cl
 have nx {H:Hp} {p b:Addr} {o:HO} (h:H p=none) (e:H b=some o):b≠p:=fun z=>by rw[z,h]at e;cases e
 intro td htd
 have n1:x≠td:=nx htd hx
 refine(eX _ rfl ⟨x,_,dx,eX _ rfl ⟨(by rw[ao n1];exact hx),C,T.tY,(by show 0<1000;decide),?_⟩⟩)
 intro sd hsd
 have e1:(upd (upd H td (.dK [])) x (.ins a.ck dx (cG "told" (.ref td) []))) td=some (.dK []):=by rw[ao n1.symm];exact aB
 have n2:x≠sd:=nx hsd aB
 have n3:td≠sd:=nx hsd e1
 refine(eX _ rfl ⟨x,_,dx,eX _ rfl ⟨(by rw[ao n2];exact aB),C,T.Ap,(by show 1<1000;decide),?_⟩⟩)
 intro ad had
 have n4:x≠ad:=nx had aB
 have n5:sd≠ad:=nx had (by rw[ao n2.symm];exact aB)
 have n6:td≠ad:=nx had (by rw[ao n1.symm,ao n3];exact e1)
 refine(eX _ rfl ⟨x,_,dx,eX _ rfl ⟨(by rw[ao n4];exact aB),C,T.ux,(by show 2<1000;decide),?_⟩⟩)
 refine q _ ⟨x,td,sd,ad⟩ rfl ⟨⟨dx,aB⟩,⟨[],?_,fun y v=>?_,Nat.zero_le _⟩,⟨[],?_,fun k y _=>?_,Nat.zero_le _⟩,⟨[],?_,fun k=>rfl,Nat.zero_le _⟩,n6,fun k=>Nat.zero_le _⟩ (fun b o eb hb=>?_) fun o=>⟨fun z=>nx htd z rfl,fun z=>nx hsd (show upd (upd H td _) x _ sd=some o by rw[ao n2.symm,ao n3.symm];exact z) rfl,fun z=>nx had (show upd (upd (upd (upd H td _) x _) sd _) x _ ad=some o by rw[ao n4.symm,ao n5.symm,ao n4.symm,ao n6.symm];exact z) rfl⟩
 ·rw[ao n1.symm,ao n6,ao n1.symm,ao n3];exact e1
 ·rw[FQ]
  constructor
  ·intro z;cases z
  ·rintro⟨j,_,_,hm⟩;cases hm
 ·rw[ao n2.symm,ao n5,ao n2.symm];exact aB
 ·rw[FQ]
  constructor
  ·intro z;cases z
  ·intro hm;cases hm
 ·rw[ao n4.symm];exact aB
 ·have b1:b≠td:=nx htd eb
  have g1:(upd H td (.dK [])) b=some o:=by rw[ao b1];exact eb
  have g2:(upd (upd H td (.dK [])) x (.ins a.ck dx (cG "told" (.ref td) []))) b=some o:=by rw[ao hb];exact g1
  have b2:b≠sd:=nx hsd g2
  have g3:(upd (upd (upd (upd H td (.dK [])) x (.ins a.ck dx (cG "told" (.ref td) []))) sd (.dT [])) x (.ins a.ck dx (cG "standing" (.ref sd) (cG "told" (.ref td) [])))) b=some o:=by rw[ao hb,ao b2];exact g2
  rw[ao hb,ao (nx had g3)]
  exact g3
end Wale
end
section
set_option Elab.async false
set_option linter.all false
set_option maxRecDepth 100000
set_option maxHeartbeats 2000000
namespace Wale
open PySem PySem.Spec PyProof.Rows L2
open Wm
variable {P:Program}{w:World}{K:PySem.W.Frag}{mg:Str->Option Value}{base:Heap}{a:Ad}
structure RA where
 r:Addr
 t:Addr
 N:NA
def kO(t:Addr)(v:V)(p d:Nat)(n:Addr):List (Str×V):=[("source",.ref t),("ahead",v),("after",.int (p:Int)),("depth",.int (d:Int)),("names",.ref n)]
def cI(b:Bytes)(p:Nat):Prop:=∀k,aq b p≠ .bad k
def di(a:Ad)(b:Bytes)(p:Nat)(H:Hp)(x:Addr):Prop:=b9 a.bQ H x (fE (aq b p)) (bq (aq b p)) (yy (aq b p):Nat) (aP b p:Nat) (aA b p:Nat)
def Cf(a:Ad)(b:Bytes)(p:Nat)(H:Hp)(v:V):Prop:=v=.ay\/∃x,v=.ref x/\cI b p/\di a b p H x
structure au(a:Ad)(K:PySem.W.Frag)(b:Bytes)(R:RA)(p d:Nat)(L:NL)(H:Hp):Prop where
 obj:∃dx v,H R.r=some (.ins a.bh dx (kO R.t v p d R.N.n))/\Cf a b p H v
 src:aM K H R.t (nums b)
 nm:gc a R.N L H
 len:b.length<=20000
 pl:p<=b.length
def aJ(R:RA)(H H':Hp):Prop:=∀b o,H b=some o->b≠R.r->b≠R.N.td->b≠R.N.sd->b≠R.N.ad->H' b=some o
theorem aJ.refl(R:RA)(H:Hp):aJ R H H:=fun _ _ h _ _ _ _=>h
theorem bp{R:RA}{H H':Hp}(h:aO H H'):aJ R H H':=fun b o e _ _ _ _=>h b o e
theorem aJ.trans{R:RA}{H H1 H2:Hp}(h:aJ R H H1)(g:aJ R H1 H2):aJ R H H2:=fun b o e n1 n2 n3 n4=>g b o (h b o e n1 n2 n3 n4) n1 n2 n3 n4
theorem ik.keepR{R:RA}{H H':Hp}(h:ik R.N H H'):aJ R H H':=fun b o e _ n2 n3 n4=>h b o e n2 n3 n4
theorem jd{R:RA}{H:Hp}{o:HO}:aJ R H (upd H R.r o):=fun b ob e n1 _ _ _=>by rw[ao n1];exact e
theorem LV{H:Hp}{x r:Addr}{C C' dx:Addr}{kd tx:Str}{n pl af:Int}{fs:List (Str×V)}(h:b9 C H x kd tx n pl af)(e:H r=some (.ins C' dx fs))(l:fs.lookup ("kind":Str)=none):x≠r:=by
 obtain⟨dx1,fs1,e1,l1,-⟩:=h
 intro z
 rw[z,e]at e1
 cases e1
 rw[l]at l1
 cases l1
section
variable {b:Bytes}{R:RA}{p d:Nat}{L:NL}{H H':Hp}
theorem au.Hs(h:au a K b R p d L H):∃dx fs,H R.r=some (.ins a.bh dx fs)/\fs.lookup ("kind":Str)=none:=by
 obtain⟨dx,v,e,-⟩:=h.obj
 exact⟨dx,_,e,rfl⟩
theorem b9.keepR{C x:Addr}{kd tx:Str}{n pl af:Int}(h:b9 C H x kd tx n pl af)(N:au a K b R p d L H)(s:aJ R H H'):b9 C H' x kd tx n pl af:=by
 obtain⟨dr,fr,er,lr⟩:=N.Hs
 have nr:=LV h er lr
 obtain⟨dx,fs,e,r⟩:=h
 obtain⟨k1,e1,-⟩:=N.nm.gu
 obtain⟨k2,e2,-⟩:=N.nm.iG
 obtain⟨k3,e3,-⟩:=N.nm.gC
 exact⟨dx,fs,s _ _ e nr (bX e e1 (fun z=>nomatch z)) (bX e e2 (fun z=>nomatch z)) (bX e e3 (fun z=>nomatch z)),r⟩
theorem Rd.keepR{t:Addr}{xs:List V}(h:Rd H t (.lst xs))(N:au a K b R p d L H)(s:aJ R H H'):Rd H' t (.lst xs):=by
 obtain⟨dr,fr,er,lr⟩:=N.Hs
 obtain⟨k1,e1,-⟩:=N.nm.gu
 obtain⟨k2,e2,-⟩:=N.nm.iG
 obtain⟨k3,e3,-⟩:=N.nm.gC
 rcases h with e|⟨o,e⟩
 ·exact .inl (s _ _ e (bX e er (fun z=>nomatch z)) (bX e e1 (fun z=>nomatch z)) (bX e e2 (fun z=>nomatch z)) (bX e e3 (fun z=>nomatch z)))
 ·exact .inr ⟨o,s _ _ e (bX e er (fun z=>nomatch z)) (bX e e1 (fun z=>nomatch z)) (bX e e2 (fun z=>nomatch z)) (bX e e3 (fun z=>nomatch z))⟩
theorem aM.keepR{t:Addr}{xs:List V}(h:aM K H t xs)(N:au a K b R p d L H)(s:aJ R H H'):aM K H' t xs:=by
 rcases h with h|h
 ·exact .inl (Rd.keepR h N s)
 ·exact .inr h
theorem au.names{L':NL}(h:au a K b R p d L H)(k:ik R.N H H')(n:gc a R.N L' H'):au a K b R p d L' H':=by
 obtain⟨k1,e1,-⟩:=h.nm.gu
 obtain⟨k2,e2,-⟩:=h.nm.iG
 obtain⟨k3,e3,-⟩:=h.nm.gC
 obtain⟨dx,v,e,hv⟩:=h.obj
 refine⟨⟨dx,v,k _ _ e (bX e e1 (fun z=>nomatch z)) (bX e e2 (fun z=>nomatch z)) (bX e e3 (fun z=>nomatch z)),?_⟩,aM.keepR h.src h k.keepR,n,h.len,h.pl⟩
 rcases hv with hv|⟨x,ev,nb,tk⟩
 ·exact .inl hv
 ·exact .inr ⟨x,ev,nb,b9.keepR tk h k.keepR⟩
theorem au.same(h:au a K b R p d L H)(s:aO H H'):au a K b R p d L H':=h.names (Fb s) (h.nm.same s)
theorem au.put{dx:Addr}{v v':V}{p' d':Nat}(h:au a K b R p d L H)(e:H R.r=some (.ins a.bh dx (kO R.t v p d R.N.n)))(hv:Cf a b p' H v')(hp:p'<=b.length):
  au a K b R p' d' L (upd H R.r (.ins a.bh dx (kO R.t v' p' d' R.N.n))):=by
 have kp:aJ R H (upd H R.r (.ins a.bh dx (kO R.t v' p' d' R.N.n))):=jd
 obtain⟨k1,e1,t1⟩:=h.nm.gu
 obtain⟨k2,e2,t2⟩:=h.nm.iG
 obtain⟨k3,e3,t3⟩:=h.nm.gC
 obtain⟨dn,en⟩:=h.nm.obj
 have nr:R.N.n≠R.r:=bX en e (fun z=>by
  injection z with z1 z2 z3
  exact absurd (congrArg List.length z3) (show ¬(3=5) by decide))
 refine⟨⟨dx,v',aB,?_⟩,aM.keepR h.src h kp,⟨⟨dn,?_⟩,⟨k1,?_,t1⟩,⟨k2,?_,t2⟩,⟨k3,?_,t3⟩,h.nm.ne,h.nm.bd⟩,h.len,hp⟩
 ·rcases hv with hv|⟨x,ev,nb,tk⟩
  ·exact .inl hv
  ·exact .inr ⟨x,ev,nb,b9.keepR tk h kp⟩
 ·rw[ao nr];exact en
 ·rw[ao (bX e1 e (fun z=>nomatch z))];exact e1
 ·rw[ao (bX e2 e (fun z=>nomatch z))];exact e2
 ·rw[ao (bX e3 e (fun z=>nomatch z))];exact e3
end
def gS(K:PySem.W.Frag)(a:Ad)(b:Bytes)(p:Nat)(E:XK):Prop:=∀k:Nat,aq b p=.bad k->Told K a E k (aP b p:Nat)
def E3(K:PySem.W.Frag)(a:Ad):Sp:=fun vs H Q E=>∃(b:Bytes)(R:RA)(p d:Nat)(L:NL),vs=[.ref R.r]/\au a K b R p d L H/\gS K a b p E/\
 (cI b p->∀(H':Hp)(x:Addr),au a K b R p d L H'->aJ R H H'->di a b p H' x->Q (.ref x) H')
theorem Kc:aI ["self"] ["self"] (aC zK):=⟨rfl,rfl,rfl,by decide +kernel,rfl,by decide +kernel,by decide +kernel⟩
theorem kR(T:Tx P w K mg a):ax P w K mg base (bj P w) 7 a.pF a.nE ["self"] (E3 K a):=by
 refine T.cj.fn.bz Kc (fun vs H Q E h=>?_) (fun cdv A outer s H vs Q E hr h=>?_)
 ·obtain⟨_,_,_,_,_,rfl,_⟩:=h;rfl
 obtain⟨b,R,p,d,L,rfl,hR,kb,kq⟩:=h
 have C:=T.bL.cl
 refine⟨_,aj (a4 (a5 rf (aE (pv 0) rfl) fO (aZ _))
  (ak (dg (pv 0) (aN T.GV (OQ T) hr aw (aa (aE (pv 0) rfl) (aa (aE (pv 0) rfl) ag))) rfl)) ba) (ak (aF (aE (pv 0) rfl))),?_⟩
 obtain⟨dx,v,e,hv⟩:=hR.obj
 refine(rF rfl e C T.oy rfl ⟨rfl,eX _ rfl ?_⟩)
 rcases hv with rfl|⟨x,rfl,nb,tk⟩
 ·refine bu (rF rfl e C T.CY rfl (rF rfl e C T.xN rfl ⟨R.t,b,p,rfl,hR.src,hR.pl,hR.len,fun nb=>?_,kb⟩))
  intro x H' sm fr tk
  have e':=sm _ _ e
  refine(eX _ rfl ⟨R.r,_,dx,eX _ rfl ⟨e',C,T.oy,(by show 5<1000;decide),?_⟩⟩)
  have h2:=(hR.same sm).put (v':=.ref x) (p':=p) (d':=d) e' (.inr ⟨x,rfl,nb,tk⟩) hR.pl
  refine(rF rfl aB C T.oy rfl ?_)
  exact kq nb _ x h2 ((bp sm).trans jd) (b9.keepR tk (hR.same sm) jd)
 ·exact bD (rF rfl e C T.oy rfl (kq nb H x hR (aJ.refl _ _) tk))
def Dh(K:PySem.W.Frag)(a:Ad):Sp:=fun vs H Q E=>∃(b:Bytes)(R:RA)(p d:Nat)(L:NL),vs=[.ref R.r]/\au a K b R p d L H/\gS K a b p E/\
 (cI b p->∀(H':Hp)(x:Addr),au a K b R (aA b p) d L H'->aJ R H H'->di a b p H' x->Q (.ref x) H')
theorem Ft:aI ["self","token"] ["self"] (aC Ac):=⟨rfl,rfl,rfl,by decide +kernel,rfl,by decide +kernel,by decide +kernel⟩
theorem vh(T:Tx P w K mg a):ax P w K mg base (bj P w) 8 a.mK a.oo ["self"] (Dh K a):=by
 refine T.cW.fn.bz Ft (fun vs H Q E h=>?_) (fun cdv A outer s H vs Q E hr h=>?_)
 ·obtain⟨_,_,_,_,_,rfl,_⟩:=h;rfl
 obtain⟨b,R,p,d,L,rfl,hR,kb,kq⟩:=h
 have C:=T.bL.cl
 refine⟨_,aj (a3 (i:=1) Ft.nd rfl (Or.inl rfl) (cH (pv 0) C T.cj.mt (kR T) hr T.cj.bd .nil aw))
  (aj (dg (pv 0) fO rfl) (aj (dg (pv 0) (aE (pv 1) rfl) rfl) (ak (aF (pv 1))))),?_⟩
 obtain⟨dx,v,e,hv⟩:=hR.obj
 refine(eX _ rfl ⟨R.r,dx,eX _ rfl ⟨e,rfl,b,R,p,d,L,rfl,hR,kb,fun nb H1 x hR1 kp1 tk1=>?_⟩⟩)
 obtain⟨dx1,v1,e1,hv1⟩:=hR1.obj
 refine(eX _ rfl ⟨R.r,_,dx1,eX _ rfl ⟨e1,C,T.oy,(by show 5<1000;decide),?_⟩⟩)
 have hR2:=hR1.put (v':=.ay) (p':=p) (d':=d) e1 (.inl rfl) hR.pl
 have tk2:=b9.keepR tk1 hR1 (jd (o:=.ins a.bh dx1 (kO R.t .ay p d R.N.n)))
 obtain⟨dt,ft,et,lt1,lt2,lt3,lt4,lt5⟩:=tk2
 refine(rF rfl et T.bx.cl T.BQ lt5 (eX _ rfl ⟨R.r,_,dx1,eX _ rfl ⟨aB,C,T.xN,(by show 5<1000;decide),?_⟩⟩))
 have hR3:=hR2.put (v':=.ay) (p':=aA b p) (d':=d) aB (.inl rfl) (zd hR.pl)
 exact(eX _ rfl (kq nb _ x hR3 ((kp1.trans jd).trans jd) (b9.keepR ⟨dt,ft,et,lt1,lt2,lt3,lt4,lt5⟩ hR2 jd)))
end Wale
end
section
set_option Elab.async false
set_option linter.all false
set_option maxRecDepth 100000
set_option maxHeartbeats 2000000
namespace Wale
open PySem PySem.Spec PyProof.Rows L2
open Wm
variable {P:Program}{w:World}{K:PySem.W.Frag}{mg:Str->Option Value}{base:Heap}{a:Ad}
def Dd(K:PySem.W.Frag)(a:Ad):Sp:=fun vs H Q E=>∃(b:Bytes)(R:RA)(p d:Nat)(L:NL)(tx:Str),vs=[.ref R.r,.str tx]/\au a K b R p d L H/\gS K a b p E/\
 (cI b p->bq (aq b p)=tx->∀H':Hp,au a K b R (aA b p) d L H'->aJ R H H'->Q (.bl true) H')/\(cI b p->bq (aq b p)≠tx->∀H':Hp,au a K b R p d L H'->aJ R H H'->Q (.bl false) H')
theorem Ct:aI ["self","text","there"] ["self","text"] (aC yp):=⟨rfl,rfl,rfl,by decide +kernel,rfl,by decide +kernel,by decide +kernel⟩
theorem Od(T:Tx P w K mg a):ax P w K mg base (bj P w) 9 a.pj a.pC ["self","text"] (Dd K a):=by
 refine T.eB.fn.bz Ct (fun vs H Q E h=>?_) (fun cdv A outer s H vs Q E hr h=>?_)
 ·obtain⟨_,_,_,_,_,_,rfl,_⟩:=h;rfl
 obtain⟨b,R,p,d,L,tx,rfl,hR,kb,k1,k2⟩:=h
 have C:=T.bL.cl
 refine⟨_,aj (a3 (i:=2) Ct.nd rfl (Or.inl rfl) (gO cp (aE (cH (pv 0) C T.cj.mt (kR T) (hr.mono (by decide)) T.cj.bd .nil aw) rfl) (pv 1) (aZ _)))
  (aj (a4 (cY (pv 2)) (ak (a9 (cH (pv 0) C T.cW.mt (vh T) hr T.cW.bd .nil aw))) ba) (ak (aF (pv 2)))),?_⟩
 obtain⟨dx,v,e,hv⟩:=hR.obj
 refine(eX _ rfl ⟨R.r,dx,eX _ rfl ⟨e,rfl,b,R,p,d,L,rfl,hR,kb,fun nb H1 x hR1 kp1 tk1=>?_⟩⟩)
 obtain⟨dt,ft,et,lt1,lt2,lt3,lt4,lt5⟩:=tk1
 refine(rG rfl et T.bx.cl T.cf lt2 (eX _ rfl ⟨rfl,eX _ rfl (eX _ rfl ?_)⟩))
 rw[cN]
 obtain⟨dx1,v1,e1,hv1⟩:=hR1.obj
 by_cases ht:bq (aq b p)=tx
 ·rw[decide_eq_true ht]
  refine bu (eX _ rfl ⟨R.r,dx1,eX _ rfl ⟨e1,rfl,b,R,p,d,L,rfl,hR1,kb,fun _ H2 y hR2 kp2 tk2=>?_⟩⟩)
  exact(eX _ rfl (k1 nb ht H2 hR2 (kp1.trans kp2)))
 ·rw[decide_eq_false ht]
  exact bD (eX _ rfl (k2 nb ht H1 hR1 kp1))
def yN(K:PySem.W.Frag)(a:Ad)(f:LsWale.Tok->Str):Sp:=fun vs H Q E=>∃(b:Bytes)(R:RA)(p d:Nat)(L:NL)(tx:Str),vs=[.ref R.r,.str tx]/\au a K b R p d L H/\gS K a b p E/\
 (cI b p->f (aq b p)=tx->∀(H':Hp)(x:Addr),au a K b R (aA b p) d L H'->aJ R H H'->di a b p H' x->Q (.ref x) H')/\(cI b p->f (aq b p)≠tx->Told K a E 3 (aP b p:Nat))
theorem LO:aI ["self","text"] ["self","text"] (aC AI):=⟨rfl,rfl,rfl,by decide +kernel,rfl,by decide +kernel,by decide +kernel⟩
theorem Bj(T:Tx P w K mg a):ax P w K mg base (bj P w) 9 a.nV a.m5 ["self","text"] (yN K a bq):=by
 refine T.cX.fn.bz LO (fun vs H Q E h=>?_) (fun cdv A outer s H vs Q E hr h=>?_)
 ·obtain⟨_,_,_,_,_,_,rfl,_⟩:=h;rfl
 obtain⟨b,R,p,d,L,tx,rfl,hR,kb,k1,k2⟩:=h
 have C:=T.bL.cl
 have hr7:bC 7 _:=hr.mono (by decide)
 refine⟨_,aj (a4 (a5 j4 (aE (cH (pv 0) C T.cj.mt (kR T) hr7 T.cj.bd .nil aw) rfl) (pv 1) (aZ _))
  (ak (fB rfl fD T.vR (Fx T) T.yt.2 (hr.mono (by decide)) (aE (cH (pv 0) C T.cj.mt (kR T) hr7 T.cj.bd .nil aw) rfl))) ba)
  (ak (aF (cH (pv 0) C T.cW.mt (vh T) hr T.cW.bd .nil aw))),?_⟩
 obtain⟨dx,v,e,hv⟩:=hR.obj
 refine(eX _ rfl ⟨R.r,dx,eX _ rfl ⟨e,rfl,b,R,p,d,L,rfl,hR,kb,fun nb H1 x hR1 kp1 tk1=>?_⟩⟩)
 obtain⟨dt,ft,et,lt1,lt2,lt3,lt4,lt5⟩:=tk1
 refine(rG rfl et T.bx.cl T.cf lt2 (eX _ rfl ⟨rfl,eX _ rfl ?_⟩))
 rw[cN]
 obtain⟨dx1,v1,e1,hv1⟩:=hR1.obj
 by_cases ht:bq (aq b p)=tx
 ·refine pw ht ⟨_,rfl,R.r,dx1,_,rfl,e1,rfl,b,R,p,d,L,rfl,hR1,kb,fun _ H2 y hR2 kp2 tk2=>?_⟩
  exact k1 nb ht H2 y hR2 (kp1.trans kp2) tk2
 ·rw[decide_eq_false ht]
  refine bu (eX _ rfl ⟨R.r,dx1,eX _ rfl ⟨e1,rfl,b,R,p,d,L,rfl,hR1,kb,fun _ H2 y hR2 kp2 tk2=>?_⟩⟩)
  obtain⟨du,fu,eu,lu1,lu2,lu3,lu4,lu5⟩:=tk2
  exact(rG rfl eu T.bx.cl T.ig lu4 (eR T.vR (k2 nb ht)))
theorem P2:aI ["self","kind"] ["self","kind"] (aC ym):=⟨rfl,rfl,rfl,by decide +kernel,rfl,by decide +kernel,by decide +kernel⟩
theorem ui(T:Tx P w K mg a):ax P w K mg base (bj P w) 9 a.oB a.oQ ["self","kind"] (yN K a fE):=by
 refine T.f7.fn.bz P2 (fun vs H Q E h=>?_) (fun cdv A outer s H vs Q E hr h=>?_)
 ·obtain⟨_,_,_,_,_,_,rfl,_⟩:=h;rfl
 obtain⟨b,R,p,d,L,tx,rfl,hR,kb,k1,k2⟩:=h
 have C:=T.bL.cl
 have hr7:bC 7 _:=hr.mono (by decide)
 refine⟨_,aj (a4 (a5 j4 (aE (cH (pv 0) C T.cj.mt (kR T) hr7 T.cj.bd .nil aw) rfl) (pv 1) (aZ _))
  (ak (fB rfl fD T.vR (Fx T) T.yt.2 (hr.mono (by decide)) (aE (cH (pv 0) C T.cj.mt (kR T) hr7 T.cj.bd .nil aw) rfl))) ba)
  (ak (aF (cH (pv 0) C T.cW.mt (vh T) hr T.cW.bd .nil aw))),?_⟩
 obtain⟨dx,v,e,hv⟩:=hR.obj
 refine(eX _ rfl ⟨R.r,dx,eX _ rfl ⟨e,rfl,b,R,p,d,L,rfl,hR,kb,fun nb H1 x hR1 kp1 tk1=>?_⟩⟩)
 obtain⟨dt,ft,et,lt1,lt2,lt3,lt4,lt5⟩:=tk1
 refine(rG rfl et T.bx.cl T.kE lt1 (eX _ rfl ⟨rfl,eX _ rfl ?_⟩))
 rw[cN]
 obtain⟨dx1,v1,e1,hv1⟩:=hR1.obj
 by_cases ht:fE (aq b p)=tx
 ·refine pw ht ⟨_,rfl,R.r,dx1,_,rfl,e1,rfl,b,R,p,d,L,rfl,hR1,kb,fun _ H2 y hR2 kp2 tk2=>?_⟩
  exact k1 nb ht H2 y hR2 (kp1.trans kp2) tk2
 ·rw[decide_eq_false ht]
  refine bu (eX _ rfl ⟨R.r,dx1,eX _ rfl ⟨e1,rfl,b,R,p,d,L,rfl,hR1,kb,fun _ H2 y hR2 kp2 tk2=>?_⟩⟩)
  obtain⟨du,fu,eu,lu1,lu2,lu3,lu4,lu5⟩:=tk2
  exact(rG rfl eu T.bx.cl T.ig lu4 (eR T.vR (k2 nb ht)))
def Cn(K:PySem.W.Frag)(a:Ad):Sp:=fun vs H Q E=>∃(b:Bytes)(R:RA)(p d:Nat)(L:NL)(tx:Str),vs=[.ref R.r,.str tx]/\au a K b R p d L H/\gS K a b p E/\
 (cI b p->bq (aq b p)≠tx->Told K a E 3 (aP b p:Nat))/\(cI b p->bq (aq b p)=tx->d=8->Told K a E 6 (aP b p:Nat))/\
 (cI b p->bq (aq b p)=tx->d≠8->∀H':Hp,au a K b R (aA b p) (d+1) L H'->aJ R H H'->Q .ay H')
theorem BW:aI ["self","text","token"] ["self","text"] (aC zQ):=⟨rfl,rfl,rfl,by decide +kernel,rfl,by decide +kernel,by decide +kernel⟩
theorem ME(T:Tx P w K mg a):ax P w K mg base (bj P w) 10 a.oP a.pd ["self","text"] (Cn K a):=by
 refine T.lY.fn.bz BW (fun vs H Q E h=>?_) (fun cdv A outer s H vs Q E hr h=>?_)
 ·obtain⟨_,_,_,_,_,_,rfl,_⟩:=h;rfl
 obtain⟨b,R,p,d,L,tx,rfl,hR,kb,k1,k2,k3⟩:=h
 have C:=T.bL.cl
 refine⟨_,aj (a3 (i:=2) BW.nd rfl (Or.inl rfl) (a0 (pv 0) C T.cX.mt (Bj T) hr T.cX.bd .nil aw (aa (pv 1) ag)))
  (aj (a4 (a5 cp (aE (pv 0) rfl) (cT T.OR) (aZ _)) (ak (fB rfl fD T.jY (v9 T) T.ra.2 (hr.mono (by decide)) (aE (pv 2) rfl))) ba)
  (ak (BZ (pv 0) bF JB))),?_⟩
 obtain⟨dx,v,e,hv⟩:=hR.obj
 refine⟨_,rfl,R.r,dx,_,rfl,e,rfl,_,rfl,b,R,p,d,L,tx,rfl,hR,kb,fun nb ht H1 x hR1 kp1 tk1=>?_,k1⟩
 obtain⟨dx1,v1,e1,hv1⟩:=hR1.obj
 refine⟨_,rfl,R.r,_,dx1,_,_,rfl,e1,C,T.uo,rfl,rfl,_,rfl,?_⟩
 rw[gn]
 refine aX (fun c=>?_) (fun c=>?_)
 ·obtain⟨dt,ft,et,lt1,lt2,lt3,lt4,lt5⟩:=tk1
  exact⟨_,rfl,x,_,dt,ft,_,rfl,et,T.bx.cl,T.ig,lt4,eR T.jY (k2 nb ht (by have:=of_decide_eq_true c;lia))⟩
 ·refine⟨_,rfl,R.r,_,dx1,_,_,rfl,e1,C,T.uo,rfl,_,_,rfl,rfl,dx1,_,e1,(by show 5<1000;decide),?_⟩
  exact k3 nb ht (fun z=>c (decide_eq_true (by rw[z];rfl))) _ (hR1.put (v':=v1) (p':=aA b p) (d':=d+1) e1 hv1 hR1.pl) (kp1.trans jd)
def FV(K:PySem.W.Frag)(a:Ad):Sp:=fun vs H Q E=>∃(b:Bytes)(R:RA)(p d:Nat)(L:NL)(tx:Str),vs=[.ref R.r,.str tx]/\au a K b R p (d+1) L H/\gS K a b p E/\
 (cI b p->bq (aq b p)≠tx->Told K a E 3 (aP b p:Nat))/\(cI b p->bq (aq b p)=tx->∀H':Hp,au a K b R (aA b p) d L H'->aJ R H H'->Q .ay H')
theorem OY:aI ["self","text"] ["self","text"] (aC yx):=⟨rfl,rfl,rfl,by decide +kernel,rfl,by decide +kernel,by decide +kernel⟩
theorem OB(T:Tx P w K mg a):ax P w K mg base (bj P w) 10 a.oX a.pI ["self","text"] (FV K a):=by
 refine T.lB.fn.bz OY (fun vs H Q E h=>?_) (fun cdv A outer s H vs Q E hr h=>?_)
 ·obtain⟨_,_,_,_,_,_,rfl,_⟩:=h;rfl
 obtain⟨b,R,p,d,L,tx,rfl,hR,kb,k1,k2⟩:=h
 have C:=T.bL.cl
 refine⟨_,aj (a9 (a0 (pv 0) C T.cX.mt (Bj T) hr T.cX.bd .nil aw (aa (pv 1) ag))) (ak (BZ (pv 0) bF NR)),?_⟩
 obtain⟨dx,v,e,hv⟩:=hR.obj
 refine⟨_,rfl,R.r,dx,_,rfl,e,rfl,_,rfl,b,R,p,d+1,L,tx,rfl,hR,kb,fun nb ht H1 x hR1 kp1 tk1=>?_,k1⟩
 obtain⟨dx1,v1,e1,hv1⟩:=hR1.obj
 refine⟨_,rfl,R.r,_,dx1,_,_,rfl,e1,C,T.uo,rfl,_,_,rfl,rfl,dx1,_,e1,(by show 5<1000;decide),?_⟩
 have ed:((d+1:Nat):Int)-1=(d:Int):=by lia
 have h2:=hR1.put (v':=v1) (p':=aA b p) (d':=d) e1 hv1 hR1.pl
 have h3:aJ R H1 (upd H1 R.r (.ins a.bh dx1 (kO R.t v1 (aA b p) d R.N.n))):=jd
 show Q .ay (upd H1 R.r (.ins a.bh dx1 [("source",.ref R.t),("ahead",v1),("after",.int (aA b p:Nat)),("depth",.int (((d+1:Nat):Int)-1)),("names",.ref R.N.n)]))
 rw[ed]
 exact k2 nb ht _ h2 (kp1.trans h3)
def nameAt(b:Bytes)(p:Nat):Option Bytes:=match aq b p with
 | .word x=>if LsWale.isName x=true then some x else none
 |_=>none
theorem gf{b:Bytes}{p:Nat}:fE (aq b p)=("name":Str)↔∃x,nameAt b p=some x:=by
 unfold nameAt
 cases aq b p with
 |word x=>
  show dQ x=_↔_
  unfold dQ
  by_cases h:LsWale.isName x=true
  ·simp only[if_pos h];exact⟨fun _=>⟨x,rfl⟩,fun _=>True.intro⟩
  ·simp only[if_neg h];exact⟨fun z=>absurd z (by decide +kernel),fun⟨_,z⟩=>by cases z⟩
 |num n=>exact⟨fun z=>absurd z (by show ¬(("number":Str)="name");decide +kernel),fun⟨_,z⟩=>by cases z⟩
 |sign c=>exact⟨fun z=>absurd z (by show ¬(("fixed":Str)="name");decide +kernel),fun⟨_,z⟩=>by cases z⟩
 |bad k=>exact⟨fun z=>absurd z (by show ¬(("":Str)="name");decide +kernel),fun⟨_,z⟩=>by cases z⟩
 |done=>exact⟨fun z=>absurd z (by show ¬(("end":Str)="name");decide +kernel),fun⟨_,z⟩=>by cases z⟩
theorem uW{b:Bytes}{p:Nat}{x:Bytes}(h:nameAt b p=some x):aq b p=.word x/\LsWale.isName x=true:=by
 unfold nameAt at h
 cases q:aq b p with
 |word y=>
  rw[q]at h
  simp only at h
  by_cases hy:LsWale.isName y=true
  ·rw[if_pos hy]at h;cases h;exact⟨rfl,hy⟩
  ·rw[if_neg hy]at h;cases h
 |_=>rw[q]at h;cases h
theorem jK{b:Bytes}{p:Nat}{x:Bytes}(h:nameAt b p=some x):bq (aq b p)=strOf x:=by rw[(uW h).1];rfl
def CI(K:PySem.W.Frag)(a:Ad):Sp:=fun vs H Q E=>∃(b:Bytes)(R:RA)(p d:Nat)(L:NL)(k:Kd),vs=[.ref R.r,.str (a7 k)]/\au a K b R p d L H/\gS K a b p E/\
 (cI b p->nameAt b p=none->Told K a E 3 (aP b p:Nat))/\∀x,nameAt b p=some x->(¬dJ L x->Told K a E 5 (aP b p:Nat))/\(dJ L x->(L k).length=bK k->Told K a E 6 (aP b p:Nat))/\
  (dJ L x->(L k).length≠bK k->∀(H':Hp)(y:Addr),au a K b R (aA b p) d L H'->aJ R H H'->di a b p H' y->Q (.ref y) H')
theorem Gi:aI ["self","kind","token"] ["self","kind"] (aC yO):=⟨rfl,rfl,rfl,by decide +kernel,rfl,by decide +kernel,by decide +kernel⟩
theorem IS(T:Tx P w K mg a):ax P w K mg base (bj P w) 10 a.mS a.pD ["self","kind"] (CI K a):=by
 refine T.ji.fn.bz Gi (fun vs H Q E h=>?_) (fun cdv A outer s H vs Q E hr h=>?_)
 ·obtain⟨_,_,_,_,_,_,rfl,_⟩:=h;rfl
 obtain⟨b,R,p,d,L,k,rfl,hR,kb,k1,k2⟩:=h
 have C:=T.bL.cl
 refine⟨_,aj (a3 (i:=2) Gi.nd rfl (Or.inl rfl) (a0 (pv 0) C T.f7.mt (ui T) hr T.f7.bd .nil aw (aa (bH T.ke) ag)))
  (aj (a9 (a0 (aE (pv 0) rfl) T.cJ.cl T.AO.mt (JN T) (hr.mono (by decide)) T.AO.bd .nil aw (aa (pv 2) (aa (pv 1) ag)))) (ak (aF (pv 2)))),?_⟩
 obtain⟨dx,v,e,hv⟩:=hR.obj
 refine(eX _ rfl ⟨R.r,dx,eX _ rfl ⟨e,rfl,b,R,p,d,L,"name",rfl,hR,kb,fun nb hk H1 y hR1 kp1 tk1=>?_,fun nb hk=>k1 nb ?_⟩⟩)
 ·obtain⟨x,hx⟩:=gf.mp hk
  obtain⟨q1,q2,q3⟩:=k2 x hx
  obtain⟨dx1,v1,e1,hv1⟩:=hR1.obj
  obtain⟨dn,en⟩:=hR1.nm.obj
  have tk1':=tk1
  unfold di at tk1'
  rw[jK hx]at tk1'
  exact(rF rfl e1 C T.fP rfl (rN rfl en rfl (eX _ rfl (eX _ rfl ⟨R.N,L,k,y,x,_,_,_,eX _ rfl ⟨hR1.nm,tk1',q1,q2,fun u l=>(eX _ rfl (q3 u l H1 y hR1 kp1 tk1))⟩⟩))))
 ·cases hx:nameAt b p with
  |none=>rfl
  |some x=>exact absurd (gf.mpr ⟨x,hx⟩) hk
def DQ(K:PySem.W.Frag)(a:Ad):Sp:=fun vs H Q E=>∃(b:Bytes)(R:RA)(p d:Nat)(L:NL)(k:Kd),vs=[.ref R.r,.str (a7 k)]/\au a K b R p d L H/\dm k=true/\gS K a b p E/\
 (cI b p->nameAt b p=none->Told K a E 3 (aP b p:Nat))/\∀x,nameAt b p=some x->(x∉L k->Told K a E 4 (aP b p:Nat))/\(x∈L k->∀H':Hp,au a K b R (aA b p) d L H'->aJ R H H'->Q (.str (strOf x)) H')
theorem Eu:aI ["self","kind","token"] ["self","kind"] (aC Av):=⟨rfl,rfl,rfl,by decide +kernel,rfl,by decide +kernel,by decide +kernel⟩
theorem NZ(T:Tx P w K mg a):ax P w K mg base (bj P w) 10 a.m3 a.mV ["self","kind"] (DQ K a):=by
 refine T.jk.fn.bz Eu (fun vs H Q E h=>?_) (fun cdv A outer s H vs Q E hr h=>?_)
 ·obtain⟨_,_,_,_,_,_,rfl,_⟩:=h;rfl
 obtain⟨b,R,p,d,L,k,rfl,hR,ht,kb,k1,k2⟩:=h
 have C:=T.bL.cl
 refine⟨_,aj (a3 (i:=2) Eu.nd rfl (Or.inl rfl) (a0 (pv 0) C T.f7.mt (ui T) hr T.f7.bd .nil aw (aa (bH T.ke) ag)))
  (aj (a9 (a0 (aE (pv 0) rfl) T.cJ.cl T.AQ.mt (I0 T) (hr.mono (by decide)) T.AQ.bd .nil aw (aa (pv 2) (aa (pv 1) ag)))) (ak (aF (aE (pv 2) rfl)))),?_⟩
 obtain⟨dx,v,e,hv⟩:=hR.obj
 refine(eX _ rfl ⟨R.r,dx,eX _ rfl ⟨e,rfl,b,R,p,d,L,"name",rfl,hR,kb,fun nb hk H1 y hR1 kp1 tk1=>?_,fun nb hk=>k1 nb ?_⟩⟩)
 ·obtain⟨x,hx⟩:=gf.mp hk
  obtain⟨q1,q2⟩:=k2 x hx
  obtain⟨dx1,v1,e1,hv1⟩:=hR1.obj
  obtain⟨dn,en⟩:=hR1.nm.obj
  unfold di at tk1
  rw[jK hx]at tk1
  have tk1':=tk1
  obtain⟨dt,ft,et,lt1,lt2,lt3,lt4,lt5⟩:=tk1'
  exact⟨_,rfl,R.r,_,dx1,_,_,rfl,e1,C,T.fP,rfl,R.N.n,dn,_,rfl,en,rfl,_,rfl,_,rfl,R.N,L,k,y,x,_,_,_,_,rfl,hR1.nm,tk1,ht,
   fun m=>(rF rfl et T.bx.cl T.cf lt2 (q2 m H1 hR1 kp1)),q1⟩
 ·cases hx:nameAt b p with
  |none=>rfl
  |some x=>exact absurd (gf.mpr ⟨x,hx⟩) hk
def DA(K:PySem.W.Frag)(a:Ad):Sp:=fun vs H Q E=>∃(b:Bytes)(R:RA)(p d:Nat)(L:NL)(k:Kd),vs=[.ref R.r,.str (a7 k)]/\au a K b R p d L H/\dm k=false/\gS K a b p E/\
 (cI b p->nameAt b p=none->Told K a E 3 (aP b p:Nat))/\∀x,nameAt b p=some x->(x∉L k->(L k).length=bK k->Told K a E 6 (aP b p:Nat))/\
  ((x∈L k\/(L k).length≠bK k)->∀H':Hp,au a K b R (aA b p) d (jR L k x) H'->aJ R H H'->Q (.str (strOf x)) H')
theorem Fg:aI ["self","kind","token"] ["self","kind"] (aC yH):=⟨rfl,rfl,rfl,by decide +kernel,rfl,by decide +kernel,by decide +kernel⟩
theorem Js(T:Tx P w K mg a):ax P w K mg base (bj P w) 10 a.oK a.mD ["self","kind"] (DA K a):=by
 refine T.iW.fn.bz Fg (fun vs H Q E h=>?_) (fun cdv A outer s H vs Q E hr h=>?_)
 ·obtain⟨_,_,_,_,_,_,rfl,_⟩:=h;rfl
 obtain⟨b,R,p,d,L,k,rfl,hR,ht,kb,k1,k2⟩:=h
 have C:=T.bL.cl
 refine⟨_,aj (a3 (i:=2) Fg.nd rfl (Or.inl rfl) (a0 (pv 0) C T.f7.mt (ui T) hr T.f7.bd .nil aw (aa (bH T.ke) ag)))
  (aj (a9 (a0 (aE (pv 0) rfl) T.cJ.cl T.zt.mt (ON T) (hr.mono (by decide)) T.zt.bd .nil aw (aa (pv 2) (aa (pv 1) ag)))) (ak (aF (aE (pv 2) rfl)))),?_⟩
 obtain⟨dx,v,e,hv⟩:=hR.obj
 refine(eX _ rfl ⟨R.r,dx,eX _ rfl ⟨e,rfl,b,R,p,d,L,"name",rfl,hR,kb,fun nb hk H1 y hR1 kp1 tk1=>?_,fun nb hk=>k1 nb ?_⟩⟩)
 ·obtain⟨x,hx⟩:=gf.mp hk
  obtain⟨q1,q2⟩:=k2 x hx
  obtain⟨dx1,v1,e1,hv1⟩:=hR1.obj
  obtain⟨dn,en⟩:=hR1.nm.obj
  unfold di at tk1
  rw[jK hx]at tk1
  refine(rF rfl e1 C T.fP rfl (rN rfl en rfl (eX _ rfl (eX _ rfl ⟨R.N,L,k,y,x,_,_,_,eX _ rfl ⟨hR1.nm,tk1,ht,q1,fun c H2 n2 kn=>?_⟩⟩))))
  obtain⟨dt,ft,et,lt1,lt2,lt3,lt4,lt5⟩:=b9.keepR tk1 hR1 kn.keepR
  exact(rF rfl et T.bx.cl T.cf lt2 (q2 c H2 (hR1.names kn n2) (kp1.trans kn.keepR)))
 ·cases hx:nameAt b p with
  |none=>rfl
  |some x=>exact absurd (gf.mpr ⟨x,hx⟩) hk
end Wale
end
section
set_option Elab.async false
set_option linter.all false
set_option maxRecDepth 100000
set_option maxHeartbeats 2000000
namespace Wale
open PySem PySem.Spec PyProof.Rows L2
open Wm
variable {P:Program}{w:World}{K:PySem.W.Frag}{mg:Str->Option Value}{base:Heap}{a:Ad}
abbrev Fp:=Addr->Prop
abbrev Rep(α:Type):=Hp->Fp->V->α->Prop
structure Good{α:Type}(r:Rep α):Prop where
 frame:∀{H H':Hp}{F:Fp}{v:V}{x:α},r H F v x->(∀b,F b->H' b=H b)->r H' F v x
 mono:∀{H:Hp}{F F':Fp}{v:V}{x:α},r H F v x->(∀b,F b->F' b)->r H F' v x
def cM(H0 H:Hp)(F:Fp):Prop:=∀b,F b->H0 b=none/\∃o,H b=some o
def cz(H H':Hp):Prop:=∀b,H b≠none->H' b≠none
def Md{α:Type}(r:Rep α)(H0 H:Hp)(v:V)(x:α):Prop:=∃F,r H F v x/\cM H0 H F
theorem cz.refl(H:Hp):cz H H:=fun _ h=>h
theorem cz.trans{H H1 H2:Hp}(h:cz H H1)(g:cz H1 H2):cz H H2:=fun b z=>g b (h b z)
theorem EX{H H':Hp}(h:aO H H'):cz H H':=fun b z=>by
 cases e:H b with
 |none=>exact absurd e z
 |some o=>rw[h b o e];exact fun q=>nomatch q
theorem sr{H:Hp}{p:Addr}{o:HO}:cz H (upd H p o):=fun b z=>by
 by_cases h:b=p
 ·rw[h,aB];exact fun q=>nomatch q
 ·rw[ao h];exact z
theorem cz.none{H H':Hp}(h:cz H H'){b:Addr}(e:H' b=none):H b=none:=by
 cases q:H b with
 |none=>rfl
 |some o=>exact absurd e (h b (by rw[q];exact fun z=>nomatch z))
section
variable {b:Bytes}{R:RA}{p d:Nat}{L:NL}{H0 H H' H1:Hp}
structure nY(R:RA)(H:Hp):Prop where
 r:H R.r≠none
 td:H R.N.td≠none
 sd:H R.N.sd≠none
 ad:H R.N.ad≠none
theorem au.cells(h:au a K b R p d L H):nY R H:=by
 obtain⟨dx,v,e,-⟩:=h.obj
 obtain⟨k1,e1,-⟩:=h.nm.gu
 obtain⟨k2,e2,-⟩:=h.nm.iG
 obtain⟨k3,e3,-⟩:=h.nm.gC
 exact⟨(by rw[e];exact fun z=>nomatch z),(by rw[e1];exact fun z=>nomatch z),(by rw[e2];exact fun z=>nomatch z),(by rw[e3];exact fun z=>nomatch z)⟩
theorem aJ.grow(k:aJ R H H')(c:nY R H'):cz H H':=fun b z=>by
 by_cases h1:b=R.r
 ·rw[h1];exact c.r
 by_cases h2:b=R.N.td
 ·rw[h2];exact c.td
 by_cases h3:b=R.N.sd
 ·rw[h3];exact c.sd
 by_cases h4:b=R.N.ad
 ·rw[h4];exact c.ad
 cases e:H b with
 |none=>exact absurd e z
 |some o=>rw[k b o e h1 h2 h3 h4];exact fun q=>nomatch q
theorem cM.eq{F:Fp}(s:cM H0 H F)(c:nY R H0)(k:aJ R H H'):∀b,F b->H' b=H b:=fun b hb=>by
 obtain⟨n,o,e⟩:=s b hb
 rw[e]
 exact k b o e (fun z=>c.r (by rw[<-z];exact n)) (fun z=>c.td (by rw[<-z];exact n)) (fun z=>c.sd (by rw[<-z];exact n)) (fun z=>c.ad (by rw[<-z];exact n))
theorem cM.keep{F:Fp}(s:cM H0 H F)(c:nY R H0)(k:aJ R H H'):cM H0 H' F:=fun b hb=>⟨(s b hb).1,by rw[s.eq c k b hb];exact(s b hb).2⟩
theorem cM.old{F:Fp}(s:cM H1 H F)(g:cz H0 H1):cM H0 H F:=fun b hb=>⟨g.none (s b hb).1,(s b hb).2⟩
theorem cM.same{F:Fp}(s:cM H0 H F)(k:aO H H'):cM H0 H' F:=fun b hb=>by
 obtain⟨n,o,e⟩:=s b hb
 exact⟨n,o,k b o e⟩
theorem cM.zu{F:Fp}(s:cM H0 H F)(k:aO H H'):∀b,F b->H' b=H b:=fun b hb=>by
 obtain⟨n,o,e⟩:=s b hb
 rw[e];exact k b o e
theorem cM.or{F F':Fp}(s:cM H0 H F)(s':cM H0 H F'):cM H0 H (fun b=>F b\/F' b):=fun b hb=>hb.elim (s b) (s' b)
theorem cM.put{F:Fp}{l:Addr}{o:HO}(s:cM H0 H F):cM H0 (upd H l o) F:=fun b hb=>by
 obtain⟨n,q,e⟩:=s b hb
 refine⟨n,?_⟩
 by_cases z:b=l
 ·rw[z,aB];exact⟨_,rfl⟩
 ·rw[ao z];exact⟨q,e⟩
variable {α:Type}{r:Rep α}{v:V}{x:α}
theorem Md.keep(m:Md r H0 H v x)(G:Good r)(c:nY R H0)(k:aJ R H H'):Md r H0 H' v x:=by
 obtain⟨F,h,s⟩:=m
 exact⟨F,G.frame h (s.eq c k),s.keep c k⟩
theorem Md.old(m:Md r H1 H v x)(g:cz H0 H1):Md r H0 H v x:=by
 obtain⟨F,h,s⟩:=m
 exact⟨F,h,s.old g⟩
theorem Md.same(m:Md r H0 H v x)(G:Good r)(k:aO H H'):Md r H0 H' v x:=by
 obtain⟨F,h,s⟩:=m
 exact⟨F,G.frame h (s.zu k),s.same k⟩
theorem Md.put{l:Addr}{o:HO}(m:Md r H0 H v x)(G:Good r)(hl:H0 l≠none):Md r H0 (upd H l o) v x:=by
 obtain⟨F,h,s⟩:=m
 exact⟨F,G.frame h (fun b hb=>ao (fun z=>hl (by rw[<-z];exact(s b hb).1))),s.put⟩
theorem Md.map{β:Type}{r':Rep β}{y:β}(m:Md r H0 H v x)(h:∀F,r H F v x->r' H F v y):Md r' H0 H v y:=by
 obtain⟨F,q,s⟩:=m
 exact⟨F,h F q,s⟩
end
inductive dh{α β:Type}(r:α->β->Prop):List α->List β->Prop where
 |nil:dh r [] []
 |cons {x:α} {y:β} {xs:List α} {ys:List β}:r x y->dh r xs ys->dh r (x::xs) (y::ys)
theorem dh.imp{α β:Type}{r r':α->β->Prop}(h:∀x y,r x y->r' x y){xs:List α}{ys:List β}(q:dh r xs ys):dh r' xs ys:=by
 induction q with
 |nil=>exact .nil
 |cons a _ ih=>exact .cons (h _ _ a) ih
theorem dh.len{α β:Type}{r:α->β->Prop}{xs:List α}{ys:List β}(q:dh r xs ys):xs.length=ys.length:=by
 induction q with
 |nil=>rfl
 |cons a _ ih=>rw[List.length_cons,List.length_cons,ih]
theorem dh.app{α β:Type}{r:α->β->Prop}{xs xs':List α}{ys ys':List β}(q:dh r xs ys)(q':dh r xs' ys'):dh r (xs++xs') (ys++ys'):=by
 induction q with
 |nil=>exact q'
 |cons a _ ih=>exact .cons a ih
def bM{α:Type}(r:Rep α):Rep (List α):=fun H F v xs=>∃(l:Addr)(vs:List V)(F':Fp),v=.ref l/\F l/\¬F' l/\(∀b,F' b->F b)/\H l=some (.lst vs)/\dh (r H F') vs xs
theorem bJ{α:Type}{r:Rep α}(G:Good r):Good (bM r) where
 frame:=by
  rintro H H' F v x ⟨l,vs,F',rfl,h1,h2,h3,h4,h5⟩ e
  exact⟨l,vs,F',rfl,h1,h2,h3,by rw[e l h1];exact h4,h5.imp fun v x q=>G.frame q fun b hb=>e b (h3 b hb)⟩
 mono:=by
  rintro H F F2 v x ⟨l,vs,F',rfl,h1,h2,h3,h4,h5⟩ m
  exact⟨l,vs,F',rfl,m l h1,h2,fun b hb=>m b (h3 b hb),h4,h5⟩
section
variable {α:Type}{r:Rep α}{H0 H H' H1:Hp}{v:V}{x:α}{vs:List V}{xs:List α}
def aK(r:Rep α)(H0 H:Hp)(vs:List V)(xs:List α):Prop:=∃F,dh (r H F) vs xs/\cM H0 H F
theorem aK.nil:aK r H0 H [] []:=⟨fun _=>False,.nil,fun _ h=>h.elim⟩
theorem aK.cons(G:Good r)(m:Md r H0 H v x)(ms:aK r H0 H vs xs):aK r H0 H (v::vs) (x::xs):=by
 obtain⟨F,h,s⟩:=m
 obtain⟨F',h',s'⟩:=ms
 exact⟨_,.cons (G.mono h fun b hb=>.inl hb) (h'.imp fun _ _ q=>G.mono q fun b hb=>.inr hb),s.or s'⟩
theorem aK.list{l:Addr}(G:Good r)(ms:aK r H0 H vs xs)(hl:H l=none)(g:cz H0 H):Md (bM r) H0 (upd H l (.lst vs)) (.ref l) xs:=by
 obtain⟨F,h,s⟩:=ms
 have nl:¬F l:=fun z=>by obtain⟨_,o,e⟩:=s l z;rw[hl]at e;cases e
 refine⟨fun b=>b=l\/F b,⟨l,vs,F,rfl,.inl rfl,nl,fun b hb=>.inr hb,aB,h.imp fun _ _ q=>G.frame q fun b hb=>ao fun z=>nl (by rw[<-z];exact hb)⟩,fun b hb=>?_⟩
 rcases hb with rfl|hb
 ·exact⟨g.none hl,_,aB⟩
 ·exact s.put b hb
theorem Md.cell{l:Addr}(m:Md (bM r) H0 H (.ref l) xs):H0 l=none/\∃vs,H l=some (.lst vs)/\vs.length=xs.length:=by
 obtain⟨F,⟨l',vs,F',e,h1,h2,h3,h4,h5⟩,s⟩:=m
 cases e
 exact⟨(s _ h1).1,vs,h4,h5.len⟩
theorem Md.ref{v:V}(m:Md (bM r) H0 H v xs):∃l,v=.ref l:=by
 obtain⟨F,⟨l',vs,F',e,-⟩,s⟩:=m
 exact⟨l',e⟩
theorem Md.append{l:Addr}{vs:List V}(G:Good r)(m:Md (bM r) H0 H (.ref l) xs)(e:H l=some (.lst vs))(n:Md r H1 H v x)(hl:H1 l≠none)(g:cz H0 H1):Md (bM r) H0 (upd H l (.lst (vs++[v]))) (.ref l) (xs++[x]):=by
 obtain⟨F,⟨l',vs',F',z,h1,h2,h3,h4,h5⟩,s⟩:=m
 cases z
 rw[e]at h4
 cases h4
 obtain⟨F2,q,s2⟩:=n
 have n2:¬F2 l:=fun z=>hl (s2 l z).1
 refine⟨fun b=>F b\/F2 b,⟨l,_,fun b=>F' b\/F2 b,rfl,.inl h1,fun z=>z.elim h2 n2,fun b hb=>hb.elim (fun z=>.inl (h3 b z)) .inr,aB,?_⟩,(s.or (s2.old g)).put⟩
 refine dh.app (h5.imp fun _ _ z=>?_) (.cons ?_ .nil)
 ·exact G.mono (G.frame z fun b hb=>ao fun y=>h2 (by rw[<-y];exact hb)) fun b hb=>.inl hb
 ·exact G.mono (G.frame q fun b hb=>ao fun y=>n2 (by rw[<-y];exact hb)) fun b hb=>.inr hb
theorem Md.extend{l l2:Addr}{vs ws:List V}{ys:List α}(G:Good r)(m:Md (bM r) H0 H (.ref l) xs)(e:H l=some (.lst vs))(n:Md (bM r) H1 H (.ref l2) ys)(e2:H l2=some (.lst ws))(hl:H1 l≠none)(g:cz H0 H1):Md (bM r) H0 (upd H l (.lst (vs++ws))) (.ref l) (xs++ys):=by
 obtain⟨F,⟨l',vs',F',z,h1,h2,h3,h4,h5⟩,s⟩:=m
 cases z
 rw[e]at h4
 cases h4
 obtain⟨F2,⟨l',ws',F2',z,k1,k2,k3,k4,k5⟩,s2⟩:=n
 cases z
 rw[e2]at k4
 cases k4
 have n2:¬F2 l:=fun z=>hl (s2 l z).1
 have n2':¬F2' l:=fun z=>n2 (k3 l z)
 refine⟨fun b=>F b\/F2 b,⟨l,_,fun b=>F' b\/F2' b,rfl,.inl h1,fun z=>z.elim h2 n2',fun b hb=>hb.elim (fun z=>.inl (h3 b z)) fun z=>.inr (k3 b z),aB,?_⟩,(s.or (s2.old g)).put⟩
 refine dh.app (h5.imp fun _ _ z=>?_) (k5.imp fun _ _ z=>?_)
 ·exact G.mono (G.frame z fun b hb=>ao fun y=>h2 (by rw[<-y];exact hb)) fun b hb=>.inl hb
 ·exact G.mono (G.frame z fun b hb=>ao fun y=>n2' (by rw[<-y];exact hb)) fun b hb=>.inr hb
end
section
variable {b:Bytes}{R:RA}{p d p0 d0:Nat}{L L0:NL}{H0 H H' H1:Hp}
theorem au.list{l:Addr}{vs ws:List V}(h:au a K b R p d L H)(h0:au a K b R p0 d0 L0 H0)(hl:H0 l=none)(e:H l=some (.lst vs)):au a K b R p d L (upd H l (.lst ws)):=by
 obtain⟨dx,v,er,hv⟩:=h.obj
 obtain⟨k1,e1,t1⟩:=h.nm.gu
 obtain⟨k2,e2,t2⟩:=h.nm.iG
 obtain⟨k3,e3,t3⟩:=h.nm.gC
 obtain⟨dn,en⟩:=h.nm.obj
 have nn:∀{q:Addr}{o:HO},H q=some o->(∀ws,o≠ .lst ws)->upd H l (.lst ws) q=some o:=fun{q o}eq no=>by
  rw[ao (fun z=>by rw[z,e]at eq;cases eq;exact no _ rfl)];exact eq
 refine⟨⟨dx,v,nn er (fun _ z=>nomatch z),?_⟩,?_,⟨⟨dn,nn en (fun _ z=>nomatch z)⟩,⟨k1,nn e1 (fun _ z=>nomatch z),t1⟩,⟨k2,nn e2 (fun _ z=>nomatch z),t2⟩,⟨k3,nn e3 (fun _ z=>nomatch z),t3⟩,h.nm.ne,h.nm.bd⟩,h.len,h.pl⟩
 ·rcases hv with hv|⟨x,ev,nb,dt,ft,et,rest⟩
  ·exact .inl hv
  ·exact .inr ⟨x,ev,nb,dt,ft,nn et (fun _ z=>nomatch z),rest⟩
 ·have nt:aM K H0 R.t (nums b)->aM K H R.t (nums b)->aM K (upd H l (.lst ws)) R.t (nums b):=fun s0 s=>by
   rcases s0 with s0|s0
   ·have ne:R.t≠l:=fun z=>by
     rcases s0 with q|⟨o,q⟩
     ·rw[z,hl]at q;cases q
     ·rw[z,hl]at q;cases q
    rcases s with s|s
    ·rcases s with q|⟨o,q⟩
     ·exact .inl (.inl (by rw[ao ne];exact q))
     ·exact .inl (.inr ⟨o,by rw[ao ne];exact q⟩)
    ·exact .inr s
   ·exact .inr s0
  exact nt h0.src h.src
end
end Wale
end
section
set_option Elab.async false
set_option linter.all false
set_option maxRecDepth 100000
set_option maxHeartbeats 2000000
namespace Wale
open PySem PySem.Spec PyProof.Rows L2
open Wm
open LsWale (ascii Fault eatSign eatWord eatOpen anyName newName oldName markName holdName wanted isName)
abbrev ah:=LsWale.St
abbrev aD:=LsWale.Env
variable {P:Program}{w:World}{K:PySem.W.Frag}{mg:Str->Option Value}{base:Heap}{a:Ad}
@[irreducible] def gK(K:PySem.W.Frag)(a:Ad)(f:LsWale.Tok->Str):Sp:=yN K a f
@[irreducible] def oq(K:PySem.W.Frag)(a:Ad):Sp:=Dd K a
@[irreducible] def wF(K:PySem.W.Frag)(a:Ad):Sp:=Cn K a
@[irreducible] def ud(K:PySem.W.Frag)(a:Ad):Sp:=FV K a
@[irreducible] def oJ(K:PySem.W.Frag)(a:Ad):Sp:=E3 K a
@[irreducible] def vt(K:PySem.W.Frag)(a:Ad):Sp:=Dh K a
@[irreducible] def jH(K:PySem.W.Frag)(a:Ad):Sp:=CI K a
@[irreducible] def uR(K:PySem.W.Frag)(a:Ad):Sp:=DQ K a
@[irreducible] def oU(K:PySem.W.Frag)(a:Ad):Sp:=DA K a
theorem iE(T:Tx P w K mg a):ax P w K mg base (bj P w) 7 a.pF a.nE ["self"] (oJ K a):=by unfold oJ;exact kR T
theorem jv(T:Tx P w K mg a):ax P w K mg base (bj P w) 8 a.mK a.oo ["self"] (vt K a):=by unfold vt;exact vh T
theorem j0(T:Tx P w K mg a):ax P w K mg base (bj P w) 9 a.pj a.pC ["self","text"] (oq K a):=by unfold oq;exact Od T
theorem iT(T:Tx P w K mg a):ax P w K mg base (bj P w) 9 a.nV a.m5 ["self","text"] (gK K a bq):=by unfold gK;exact Bj T
theorem yJ(T:Tx P w K mg a):ax P w K mg base (bj P w) 9 a.oB a.oQ ["self","kind"] (gK K a fE):=by unfold gK;exact ui T
theorem AE(T:Tx P w K mg a):ax P w K mg base (bj P w) 10 a.oP a.pd ["self","text"] (wF K a):=by unfold wF;exact ME T
theorem xI(T:Tx P w K mg a):ax P w K mg base (bj P w) 10 a.oX a.pI ["self","text"] (ud K a):=by unfold ud;exact OB T
theorem u9(T:Tx P w K mg a):ax P w K mg base (bj P w) 10 a.mS a.pD ["self","kind"] (jH K a):=by unfold jH;exact IS T
theorem wH(T:Tx P w K mg a):ax P w K mg base (bj P w) 10 a.m3 a.mV ["self","kind"] (uR K a):=by unfold uR;exact NZ T
theorem uX(T:Tx P w K mg a):ax P w K mg base (bj P w) 10 a.oK a.mD ["self","kind"] (oU K a):=by unfold oU;exact Js T
def hU:LsWale.Tok->Bytes
 | .word x=>x
 | .sign c=>[c]
 |_=>[]
theorem nR(t:LsWale.Tok):bq t=strOf (hU t):=by
 cases t<;>first|rfl|exact El.symm
theorem CB{t:LsWale.Tok}{x:Bytes}{c:UInt8}{r:Bytes}(hx:x=c::r)(hc:LsWale.isLetter c=true)(h:wf t=true):hU t=x↔t=.word x:=by
 subst hx
 cases t with
 |word y=>exact⟨fun z=>by rw[show y=_ from z],fun z=>by cases z;rfl⟩
 |sign y=>
  refine⟨fun z=>?_,fun z=>by cases z⟩
  cases z
  exfalso
  have hs:LsWale.SIGNS.contains c=true:=h
  have:∀n:Nat,n<256->LsWale.SIGNS.contains (UInt8.ofNat n)=true->LsWale.isLetter (UInt8.ofNat n)=false:=by decide +kernel
  have:=this c.toNat c.toNat_lt
  rw[UInt8.ofNat_toNat]at this
  rw[this hs]at hc
  cases hc
 |num n=>exact⟨fun z=>(by cases z),fun z=>by cases z⟩
 |bad n=>exact⟨fun z=>(by cases z),fun z=>by cases z⟩
 |done=>exact⟨fun z=>(by cases z),fun z=>by cases z⟩
theorem JU{t:LsWale.Tok}{c:UInt8}(hc:LsWale.isLetter c=false)(h:wf t=true):hU t=[c]↔t=.sign c:=by
 cases t with
 |word y=>
  refine⟨fun z=>?_,fun z=>by cases z⟩
  have z:y=[c]:=z
  subst z
  exact absurd (show LsWale.isLetter c=true from h) (by rw[hc];decide)
 |sign y=>exact⟨fun z=>by cases z;rfl,fun z=>by cases z;rfl⟩
 |num n=>exact⟨fun z=>(by cases z),fun z=>by cases z⟩
 |bad n=>exact⟨fun z=>(by cases z),fun z=>by cases z⟩
 |done=>exact⟨fun z=>(by cases z),fun z=>by cases z⟩
def jh(x:String):Bool:=match ascii x with
 |c::_=>LsWale.isLetter c
 |[]=>false
theorem lC(b:Bytes)(p:Nat)(e:aD){x:String}(h:jh x=true):hU (aq b p)=ascii x↔(ae b p e).isWord x=true:=by
 rw[mQ,decide_eq_true_eq]
 unfold jh at h
 cases q:ascii x with
 |nil=>rw[q]at h;cases h
 |cons c r=>rw[q]at h;exact CB rfl h (BN b p)
theorem g9(b:Bytes)(p:Nat)(e:aD){c:Char}(h:LsWale.isLetter (UInt8.ofNat c.toNat)=false):hU (aq b p)=[UInt8.ofNat c.toNat]↔(ae b p e).isSign c=true:=by
 rw[gg,decide_eq_true_eq]
 exact JU h (BN b p)
theorem fj{t:LsWale.Tok}{z:Str}{y:Bytes}(h:z=strOf y):bq t=z↔hU t=y:=by
 rw[nR,h]
 exact⟨mw,fun q=>by rw[q]⟩
theorem ki{b:Bytes}{p:Nat}{e:aD}{x:String}(h:(ae b p e).isWord x=true):c7 (aq b p)=true:=by
 rw[mQ,decide_eq_true_eq]at h
 rw[h];rfl
theorem g0{b:Bytes}{p:Nat}{e:aD}{c:Char}(h:(ae b p e).isSign c=true):c7 (aq b p)=true:=by
 rw[gg,decide_eq_true_eq]at h
 rw[h];rfl
theorem vP{b:Bytes}{p:Nat}(h:c7 (aq b p)=true):cI b p:=fun k z=>by rw[z]at h;cases h
def lst(e:aD):NL
 | .sizes=>e.sizes.getD []
 | .yarns=>e.yarns.getD []
 | .fb=>e.lets
 | .words=>e.words
 | .blocks=>e.blocks
 | .markers=>e.marks
 | .holders=>e.holders
theorem Gb(b:Bytes)(p:Nat)(e:aD):anyName (ae b p e)=match nameAt b p with
  |some x=>.ok (x,ae b (aA b p) e)
  |none=>wanted (ae b p e):=by
 unfold anyName nameAt
 rw[eg]
 cases q:aq b p with
 |word x=>
  dsimp only
  by_cases h:isName x=true
  ·rw[if_pos h,if_pos h]
   dsimp only
   rw[cV (by rw[q];rfl)]
  ·rw[if_neg h,if_neg h]
 |_=>rfl
theorem any_some{b:Bytes}{p:Nat}{e:aD}{x:Bytes}(h:nameAt b p=some x):anyName (ae b p e)=.ok (x,ae b (aA b p) e):=by rw[Gb,h]
theorem any_none{b:Bytes}{p:Nat}{e:aD}(h:nameAt b p=none):anyName (ae b p e)=wanted (ae b p e):=by rw[Gb,h]
section
variable {α β:Type}{b:Bytes}{R:RA}{p d:Nat}{L:NL}{e:aD}{H:Hp}{Q:VK}{E:XK}{r:Except Fault (α×ah)}
def Tl(K:PySem.W.Frag)(a:Ad)(E:XK)(r:Except Fault (α×ah)):Prop:=∀k pl:Nat,bN r k pl->Told K a E k pl
theorem Tl.bt(h:Tl K a E r)(hb:∀k pl,HB (ae b p e) k pl->bN r k pl):gS K a b p E:=fun k hk=>h k _ (hb k _ (QT hk))
theorem Tl.err{k pl:Nat}(h:Tl K a E r)(hr:r=.error ⟨k,pl⟩):Told K a E k pl:=h k pl (.inl hr)
theorem Tl.want{f:β->Except Fault (α×ah)}(h:Tl K a E r)(nb:cI b p)(hr:r=(wanted (ae b p e):Except Fault β)>>=f):Told K a E 3 (aP b p:Nat):=
 h.err (by rw[hr,fK nb];rfl)
theorem gU{c:Char}{tx:Str}{f:ah->Except Fault (α×ah)}(hR:au a K b R p d L H)(hT:Tl K a E r)(hr:r=eatSign c (ae b p e)>>=f)(htx:tx=strOf [UInt8.ofNat c.toNat]:=by decide +kernel)
  (hc:LsWale.isLetter (UInt8.ofNat c.toNat)=false:=by decide +kernel)
  (k:r=f (ae b (aA b p) e)->∀(H':Hp)(x:Addr),au a K b R (aA b p) d L H'->aJ R H H'->di a b p H' x->Q (.ref x) H'):gK K a bq [.ref R.r,.str tx] H Q E:=by
 unfold gK
 refine⟨b,R,p,d,L,tx,rfl,hR,hT.bt (e:=e) fun k pl h=>?_,fun nb ht=>?_,fun nb ht=>?_⟩
 ·rw[hr,wB h];exact .inl rfl
 ·have h1:=(g9 b p e hc).mp ((fj htx).mp ht)
  refine k ?_
  rw[hr];unfold eatSign;rw[if_pos h1,cV (g0 h1)];rfl
 ·have h1:¬(ae b p e).isSign c=true:=fun z=>ht ((fj htx).mpr ((g9 b p e hc).mpr z))
  refine hT.want (f:=f) (e:=e) nb ?_
  rw[hr];unfold eatSign;rw[if_neg h1]
theorem Fo{c:String}{tx:Str}{f:ah->Except Fault (α×ah)}(hR:au a K b R p d L H)(hT:Tl K a E r)(hr:r=eatWord c (ae b p e)>>=f)(htx:tx=strOf (ascii c):=by decide +kernel)
  (hc:jh c=true:=by decide +kernel)
  (k:r=f (ae b (aA b p) e)->∀(H':Hp)(x:Addr),au a K b R (aA b p) d L H'->aJ R H H'->di a b p H' x->Q (.ref x) H'):gK K a bq [.ref R.r,.str tx] H Q E:=by
 unfold gK
 refine⟨b,R,p,d,L,tx,rfl,hR,hT.bt (e:=e) fun k pl h=>?_,fun nb ht=>?_,fun nb ht=>?_⟩
 ·rw[hr,Ga h];exact .inl rfl
 ·have h1:=(lC b p e hc).mp ((fj htx).mp ht)
  refine k ?_
  rw[hr];unfold eatWord;rw[if_pos h1,cV (ki h1)];rfl
 ·have h1:¬(ae b p e).isWord c=true:=fun z=>ht ((fj htx).mpr ((lC b p e hc).mpr z))
  refine hT.want (f:=f) (e:=e) nb ?_
  rw[hr];unfold eatWord;rw[if_neg h1]
theorem yr{c:Char}{tx:Str}(hR:au a K b R p d L H)(hT:Tl K a E r)(hb:∀k pl,HB (ae b p e) k pl->bN r k pl)
  (k1:(ae b p e).isSign c=true->∀H':Hp,au a K b R (aA b p) d L H'->aJ R H H'->Q (.bl true) H')
  (k2:(ae b p e).isSign c=false->cI b p->∀H':Hp,au a K b R p d L H'->aJ R H H'->Q (.bl false) H') (htx:tx=strOf [UInt8.ofNat c.toNat]:=by decide +kernel)
  (hc:LsWale.isLetter (UInt8.ofNat c.toNat)=false:=by decide +kernel):oq K a [.ref R.r,.str tx] H Q E:=by
 unfold oq
 exact⟨b,R,p,d,L,tx,rfl,hR,hT.bt hb,fun nb ht=>k1 ((g9 b p e hc).mp ((fj htx).mp ht)),fun nb ht=>k2 (Bool.eq_false_iff.mpr fun z=>ht ((fj htx).mpr ((g9 b p e hc).mpr z))) nb⟩
theorem pU{c:String}{tx:Str}(hR:au a K b R p d L H)(hT:Tl K a E r)(hb:∀k pl,HB (ae b p e) k pl->bN r k pl)
  (k1:(ae b p e).isWord c=true->∀H':Hp,au a K b R (aA b p) d L H'->aJ R H H'->Q (.bl true) H')
  (k2:(ae b p e).isWord c=false->cI b p->∀H':Hp,au a K b R p d L H'->aJ R H H'->Q (.bl false) H') (htx:tx=strOf (ascii c):=by decide +kernel)
  (hc:jh c=true:=by decide +kernel):oq K a [.ref R.r,.str tx] H Q E:=by
 unfold oq
 exact⟨b,R,p,d,L,tx,rfl,hR,hT.bt hb,fun nb ht=>k1 ((lC b p e hc).mp ((fj htx).mp ht)),fun nb ht=>k2 (Bool.eq_false_iff.mpr fun z=>ht ((fj htx).mpr ((lC b p e hc).mpr z))) nb⟩
theorem yU{c:Char}{tx:Str}{f:ah->Except Fault (α×ah)}(hR:au a K b R p d L H)(hd:d<=8)(hT:Tl K a E r)(hr:r=eatOpen c d (ae b p e)>>=f)
  (k:r=f (ae b (aA b p) e)->d<8->(ae b p e).isSign c=true->∀H':Hp,au a K b R (aA b p) (d+1) L H'->aJ R H H'->Q .ay H') (htx:tx=strOf [UInt8.ofNat c.toNat]:=by decide +kernel)
  (hc:LsWale.isLetter (UInt8.ofNat c.toNat)=false:=by decide +kernel):wF K a [.ref R.r,.str tx] H Q E:=by
 unfold wF
 refine⟨b,R,p,d,L,tx,rfl,hR,hT.bt (e:=e) fun k pl h=>?_,fun nb ht=>?_,fun nb ht h8=>?_,fun nb ht h8=>?_⟩
 ·rw[hr,zM h];exact .inl rfl
 ·have h1:¬(ae b p e).isSign c=true:=fun z=>ht ((fj htx).mpr ((g9 b p e hc).mpr z))
  refine hT.want (f:=f) (e:=e) nb ?_
  rw[hr];unfold eatOpen;rw[if_pos (Bool.eq_false_iff.mpr h1)]
 ·have h1:=(g9 b p e hc).mp ((fj htx).mp ht)
  refine hT.err ?_
  rw[hr];unfold eatOpen;rw[if_neg (by rw[h1];decide),if_pos (by rw[h8];decide),ku];rfl
 ·have h1:=(g9 b p e hc).mp ((fj htx).mp ht)
  refine k ?_ (by lia) h1
  rw[hr];unfold eatOpen;rw[if_neg (by rw[h1];decide),if_neg (by show ¬8<=d;lia),cV (g0 h1)];rfl
theorem yD{c:Char}{tx:Str}{f:ah->Except Fault (α×ah)}(hR:au a K b R p (d+1) L H)(hT:Tl K a E r)(hr:r=eatSign c (ae b p e)>>=f)
  (k:r=f (ae b (aA b p) e)->∀H':Hp,au a K b R (aA b p) d L H'->aJ R H H'->Q .ay H') (htx:tx=strOf [UInt8.ofNat c.toNat]:=by decide +kernel)
  (hc:LsWale.isLetter (UInt8.ofNat c.toNat)=false:=by decide +kernel):ud K a [.ref R.r,.str tx] H Q E:=by
 unfold ud
 refine⟨b,R,p,d,L,tx,rfl,hR,hT.bt (e:=e) fun k pl h=>?_,fun nb ht=>?_,fun nb ht=>?_⟩
 ·rw[hr,wB h];exact .inl rfl
 ·have h1:¬(ae b p e).isSign c=true:=fun z=>ht ((fj htx).mpr ((g9 b p e hc).mpr z))
  refine hT.want (f:=f) (e:=e) nb ?_
  rw[hr];unfold eatSign;rw[if_neg h1]
 ·have h1:=(g9 b p e hc).mp ((fj htx).mp ht)
  refine k ?_
  rw[hr];unfold eatSign;rw[if_pos h1,cV (g0 h1)];rfl
theorem nz(hR:au a K b R p d L H)(hT:Tl K a E r)(hb:∀k pl,HB (ae b p e) k pl->bN r k pl)
  (k:cI b p->∀(H':Hp)(x:Addr),au a K b R p d L H'->aJ R H H'->di a b p H' x->Q (.ref x) H'):oJ K a [.ref R.r] H Q E:=by
 unfold oJ
 exact⟨b,R,p,d,L,rfl,hR,hT.bt hb,k⟩
theorem jB(hR:au a K b R p d L H)(nb:cI b p)(k:∀(H':Hp)(x:Addr),au a K b R (aA b p) d L H'->aJ R H H'->di a b p H' x->Q (.ref x) H'):vt K a [.ref R.r] H Q E:=by
 unfold vt
 exact⟨b,R,p,d,L,rfl,hR,fun k hk=>absurd hk (nb k),fun _=>k⟩
theorem wb{k:Kd}{f:Bytes×ah->Except Fault (α×ah)}{m most:Nat}{also:List Bytes}(hR:au a K b R p d L H)(hT:Tl K a E r)(hr:r=newName m most (ae b p e) also>>=f)(hm:m=(L k).length)(hmost:most=bK k)
  (hu:∀x,(e.told x=true\/also.contains x=true)↔¬dJ L x)
  (kk:∀x,nameAt b p=some x->dJ L x->(L k).length≠bK k->r=f (x,ae b (aA b p) e)->∀(H':Hp)(y:Addr),au a K b R (aA b p) d L H'->aJ R H H'->di a b p H' y->Q (.ref y) H'):jH K a [.ref R.r,.str (a7 k)] H Q E:=by
 subst hm hmost
 unfold jH
 refine⟨b,R,p,d,L,k,rfl,hR,hT.bt (e:=e) fun k pl h=>?_,fun nb hn=>?_,fun x hx=>?_⟩
 ·rw[hr,Me h];exact .inl rfl
 ·refine hT.err ?_
  rw[hr];unfold newName;rw[any_none hn,fK nb];rfl
 have h0:r=(newName (L k).length (bK k) (ae b p e) also>>=f):=hr
 have bd:=hR.nm.bd k
 refine⟨fun hn=>hT.err ?_,fun hn hl=>hT.err ?_,fun hn hl=>kk x hx hn hl ?_⟩
 ·rw[h0];unfold newName;rw[any_some hx]
  show((if e.told x=true\/also.contains x=true then _ else _)>>=f)=_
  rw[if_pos ((hu x).mpr hn),ku];rfl
 ·rw[h0];unfold newName;rw[any_some hx]
  show((if e.told x=true\/also.contains x=true then _ else _)>>=f)=_
  rw[if_neg (fun z=>(hu x).mp z hn)]
  show((if bK k<=(L k).length then _ else _)>>=f)=_
  rw[if_pos (by lia),ku];rfl
 ·rw[h0];unfold newName;rw[any_some hx]
  show((if e.told x=true\/also.contains x=true then _ else _)>>=f)=_
  rw[if_neg (fun z=>(hu x).mp z hn)]
  show((if bK k<=(L k).length then _ else _)>>=f)=_
  rw[if_neg (by lia)];rfl
theorem vD{k:Kd}{f:Bytes×ah->Except Fault (α×ah)}{l:List Bytes}(hR:au a K b R p d L H)(hk:dm k=true)(hT:Tl K a E r)(hr:r=oldName l (ae b p e)>>=f)(hl:l=L k)
  (kk:∀x,r=f (x,ae b (aA b p) e)->∀H':Hp,au a K b R (aA b p) d L H'->aJ R H H'->Q (.str (strOf x)) H'):uR K a [.ref R.r,.str (a7 k)] H Q E:=by
 subst hl
 unfold uR
 refine⟨b,R,p,d,L,k,rfl,hR,hk,hT.bt (e:=e) fun k pl h=>?_,fun nb hn=>?_,fun x hx=>⟨fun hm=>hT.err ?_,fun hm=>kk x ?_⟩⟩
 ·rw[hr,PV h];exact .inl rfl
 ·refine hT.err ?_
  rw[hr];unfold oldName;rw[any_none hn,fK nb];rfl
 ·rw[hr];unfold oldName;rw[any_some hx]
  show((if(L k).contains x=false then _ else _)>>=f)=_
  rw[if_pos (by rw[Bool.eq_false_iff];exact fun z=>hm (by simpa using z)),ku];rfl
 ·rw[hr];unfold oldName;rw[any_some hx]
  show((if(L k).contains x=false then _ else _)>>=f)=_
  rw[if_neg (by rw[show(L k).contains x=true by simpa using hm];decide)];rfl
def sS(e:aD)(x:Bytes):aD:=if e.marks.contains x=true then e else{e with marks:=e.marks++[x]}
def qY(e:aD)(x:Bytes):aD:=if e.holders.contains x=true then e else{e with holders:=e.holders++[x]}
theorem P8(e:aD)(x:Bytes):jR (lst e) .markers x=lst (sS e x):=by
 unfold jR sS
 by_cases h:x∈e.marks
 ·rw[if_pos (show x∈lst e .markers from h),if_pos (by simpa using h)]
 ·rw[if_neg (show x∉lst e .markers from h),if_neg (by simpa using h)]
  funext j
  cases j<;>rfl
theorem QN(e:aD)(x:Bytes):jR (lst e) .holders x=lst (qY e x):=by
 unfold jR qY
 by_cases h:x∈e.holders
 ·rw[if_pos (show x∈lst e .holders from h),if_pos (by simpa using h)]
 ·rw[if_neg (show x∉lst e .holders from h),if_neg (by simpa using h)]
  funext j
  cases j<;>rfl
theorem uD{f:Bytes×ah->Except Fault (α×ah)}(hR:au a K b R p d (lst e) H)(hT:Tl K a E r)(hr:r=markName (ae b p e)>>=f)
  (kk:∀x,r=f (x,ae b (aA b p) (sS e x))->∀H':Hp,au a K b R (aA b p) d (lst (sS e x)) H'->aJ R H H'->Q (.str (strOf x)) H'):oU K a [.ref R.r,.str "markers"] H Q E:=by
 unfold oU
 refine⟨b,R,p,d,lst e,.markers,rfl,hR,rfl,hT.bt (e:=e) fun k pl h=>?_,fun nb hn=>?_,fun x hx=>⟨fun hm hl=>hT.err ?_,fun hc H' hR' kp=>kk x ?_ H' (by rw[<-P8];exact hR') kp⟩⟩
 ·rw[hr,Kp h];exact .inl rfl
 ·refine hT.err ?_
  rw[hr];unfold markName;rw[any_none hn,fK nb];rfl
 ·rw[hr];unfold markName;rw[any_some hx]
  show((if e.marks.contains x=true then _ else _)>>=f)=_
  have hm':x∉e.marks:=hm
  have hl':LsWale.MARKS<=e.marks.length:=Nat.le_of_eq (Eq.symm hl)
  rw[if_neg (by simpa using hm')]
  show((if LsWale.MARKS<=e.marks.length then _ else _)>>=f)=_
  rw[if_pos hl',ku];rfl
 ·rw[hr];unfold markName;rw[any_some hx]
  show((if e.marks.contains x=true then _ else _)>>=f)=_
  unfold sS
  by_cases h:e.marks.contains x=true
  ·rw[if_pos h,if_pos h];rfl
  ·rw[if_neg h,if_neg h]
   show((if LsWale.MARKS<=e.marks.length then _ else _)>>=f)=_
   have h0:x∉e.marks:=by simpa using h
   have h1:e.marks.length≠64:=hc.resolve_left h0
   have h2:e.marks.length<=64:=hR.nm.bd .markers
   rw[if_neg (by show ¬64<=_;lia)];rfl
theorem Ex{f:Bytes×ah->Except Fault (α×ah)}(hR:au a K b R p d (lst e) H)(hT:Tl K a E r)(hr:r=holdName (ae b p e)>>=f)
  (kk:∀x,r=f (x,ae b (aA b p) (qY e x))->∀H':Hp,au a K b R (aA b p) d (lst (qY e x)) H'->aJ R H H'->Q (.str (strOf x)) H'):oU K a [.ref R.r,.str "holders"] H Q E:=by
 unfold oU
 refine⟨b,R,p,d,lst e,.holders,rfl,hR,rfl,hT.bt (e:=e) fun k pl h=>?_,fun nb hn=>?_,fun x hx=>⟨fun hm hl=>hT.err ?_,fun hc H' hR' kp=>kk x ?_ H' (by rw[<-QN];exact hR') kp⟩⟩
 ·rw[hr,QB h];exact .inl rfl
 ·refine hT.err ?_
  rw[hr];unfold holdName;rw[any_none hn,fK nb];rfl
 ·rw[hr];unfold holdName;rw[any_some hx]
  show((if e.holders.contains x=true then _ else _)>>=f)=_
  have hm':x∉e.holders:=hm
  have hl':LsWale.HOLDERS<=e.holders.length:=Nat.le_of_eq (Eq.symm hl)
  rw[if_neg (by simpa using hm')]
  show((if LsWale.HOLDERS<=e.holders.length then _ else _)>>=f)=_
  rw[if_pos hl',ku];rfl
 ·rw[hr];unfold holdName;rw[any_some hx]
  show((if e.holders.contains x=true then _ else _)>>=f)=_
  unfold qY
  by_cases h:e.holders.contains x=true
  ·rw[if_pos h,if_pos h];rfl
  ·rw[if_neg h,if_neg h]
   show((if LsWale.HOLDERS<=e.holders.length then _ else _)>>=f)=_
   have h0:x∉e.holders:=by simpa using h
   have h1:e.holders.length≠16:=hc.resolve_left h0
   have h2:e.holders.length<=16:=hR.nm.bd .holders
   rw[if_neg (by show ¬16<=_;lia)];rfl
end
end Wale
end
section
set_option Elab.async false
set_option linter.all false
set_option maxRecDepth 100000
set_option maxHeartbeats 2000000
namespace Wale
open PySem PySem.Spec PyProof.Rows L2
open Wm
variable {P:Program}{w:World}{K:PySem.W.Frag}{mg:Str->Option Value}{base:Heap}{a:Ad}
structure dC(H0 H H':Hp)(l:Addr):Prop where
 keep:∀b o,H b=some o->b≠l->H' b=some o
 new:H0 l=none
 lst:(∃vs,H l=some (.lst vs))\/H l=none
 grow:cz H H'
section
variable {b:Bytes}{R:RA}{p d p0 d0:Nat}{L L0:NL}{H0 H H' H1:Hp}{l:Addr}
theorem aJ.bV(k:aJ R H0 H)(c:dC H0 H H' l):aJ R H0 H':=fun b o e n1 n2 n3 n4=>c.keep b o (k b o e n1 n2 n3 n4) (fun z=>by rw[z,c.new]at e;cases e)
theorem au.bV(h:au a K b R p d L H)(h0:au a K b R p0 d0 L0 H0)(c:dC H0 H H' l):au a K b R p d L H':=by
 obtain⟨dx,v,er,hv⟩:=h.obj
 obtain⟨k1,e1,t1⟩:=h.nm.gu
 obtain⟨k2,e2,t2⟩:=h.nm.iG
 obtain⟨k3,e3,t3⟩:=h.nm.gC
 obtain⟨dn,en⟩:=h.nm.obj
 have nn:∀{q:Addr}{o:HO},H q=some o->(∀ws,o≠ .lst ws)->H' q=some o:=fun{q o}eq no=>c.keep q o eq fun z=>by
  rcases c.lst with ⟨vs,e⟩|e
  ·rw[z,e]at eq;cases eq;exact no _ rfl
  ·rw[z,e]at eq;cases eq
 refine⟨⟨dx,v,nn er (fun _ z=>nomatch z),?_⟩,?_,⟨⟨dn,nn en (fun _ z=>nomatch z)⟩,⟨k1,nn e1 (fun _ z=>nomatch z),t1⟩,⟨k2,nn e2 (fun _ z=>nomatch z),t2⟩,⟨k3,nn e3 (fun _ z=>nomatch z),t3⟩,h.nm.ne,h.nm.bd⟩,h.len,h.pl⟩
 ·rcases hv with hv|⟨x,ev,nb,dt,ft,et,rest⟩
  ·exact .inl hv
  ·exact .inr ⟨x,ev,nb,dt,ft,nn et (fun _ z=>nomatch z),rest⟩
 ·rcases h0.src with s0|s0
  ·have ne:R.t≠l:=fun z=>by
    rcases s0 with q|⟨o,q⟩
    ·rw[z,c.new]at q;cases q
    ·rw[z,c.new]at q;cases q
   rcases h.src with s|s
   ·rcases s with q|⟨o,q⟩
    ·exact .inl (.inl (c.keep _ _ q ne))
    ·exact .inl (.inr ⟨o,c.keep _ _ q ne⟩)
   ·exact .inr s
  ·exact .inr s0
end
def GU(K:PySem.W.Frag):List V->Hp->VK->Prop:=fun xs H Q=>∃(x:V)(C:Addr)(t:Value)(b:Bool),xs=[x,.ref C]/\eG K H x t/\PySem.W.kitOne K t (.ref C)=some b/\Q (.bl b) H
theorem Kz{X:Cx}:kN X (.builtin "isinstance") (GU X.K):=by
 intro pins s σ H xs us Q I r h
 obtain⟨x,C,t,b,rfl,ty,e,q⟩:=h
 cases r with
 |cons r1 r2=>
  cases r2 with
  |cons r3 r4=>
   cases r4
   cases (show _=Value.ref C from r3)
   exact PX I r1 ty e fun tk=>⟨.bl b,H,I.tok _,rfl,q⟩
theorem gb(T:Tx P w K mg a){H:Hp}{x C dx f:Addr}{fs:List (Str×V)}{n:Str}(e:H x=some (.ins C dx fs))(co:OwnCls K mg n C f)(io:jW K C):eG K H (.ref x) (.ref C):=
 .ins e co.cl io.ha T.Pc T.P7 io.hm
theorem lT{X:Cx}{e:Expr}{te:TE}{C f:Addr}{n:Str}{p1 p2 pos:Pos}(hb:X.mg "isinstance"=none)(co:OwnCls X.K X.mg n C f)(he:PE X e te)(hg:Gl X "isinstance":=by rfl)(hg2:Gl X n:=by rfl)(hd:(n==("__debug__":Str))=false:=by decide)
  (s1:starEach [e,.Name n p2] X.env=[(false,eval e X.env),(false,eval (.Name n p2) X.env)]:=by rfl) (s2:starEach [.Name n p2] X.env=[(false,eval (.Name n p2) X.env)]:=by rfl):
  PE X (.Call (.Name "isinstance" p1) [e,.Name n p2] [] pos) (sv (GU X.K) (b7 te (b7 (tC (.ref C)) eI))):=
 pq Kz hg hb rfl (aa he (aa (js hg2 co.at_ (show RelV (.ref C) (.ref C)from rfl) hd) ag s2) (by rw[s1,s2])) (by decide) (by decide) (by rw[s1,s2]) (by rw[s2];rfl)
abbrev aQ:=LsWale.Sum
def eA(c:UInt8):Nat:=if c=43\/c=45 then 1 else 2
def d6:aQ->Nat
 | .op c _ _ _=>eA c
 |_=>0
def dv:aQ->Nat
 | .op _ _ x y=>dv x+dv y+1
 |_=>0
theorem B4(c:UInt8):eA c=1\/eA c=2:=by
 unfold eA
 split
 ·exact .inl rfl
 ·exact .inr rfl
inductive fG(f:aQ):List (UInt8×aQ)->aQ->Prop where
 |nil:fG f [] f
 |snoc {l:List (UInt8×aQ)} {y z:aQ} {c:UInt8} {p:Nat}:fG f l y->fG f (l++[(c,z)]) (.op c p y z)
theorem fG.len{f x:aQ}{l:List (UInt8×aQ)}(h:fG f l x):l.length<=dv x:=by
 induction h with
 |nil=>exact Nat.zero_le _
 |snoc _ ih=>
  rw[List.length_append]
  show _+1<=_+_+1
  lia
theorem fG.lv{f x:aQ}{l:List (UInt8×aQ)}{n:Nat}(h:fG f l x)(hl:∀pr∈l,eA pr.1=n)(hn:l≠[]):d6 x=n:=by
 cases h with
 |nil=>exact absurd rfl hn
 |snoc _=>exact hl _ (List.mem_append_right _ (List.mem_cons_self ..))
def uF:Rep aQ:=fun _ _ v x=>d6 x=0/\v=.str (strOf (LsWale.sumText x))
def rh(r:Rep aQ):Rep (UInt8×aQ):=fun H F v x=>∃(t:Addr)(xv:V),v=.ref t/\F t/\H t=some (.tup [.str (strOf [x.1]),xv])/\r H F xv x.2
def ED(l:Nat)(fv:V)(pl:Addr):List (Str×V):=[("level",.int (l:Int)),("first",fv),("pairs",.ref pl)]
structure M4(a:Ad)(r:Rep aQ)(H:Hp)(F:Fp)(x:aQ)(c dx pl:Addr)(fv:V)(f:aQ)(F':Fp)(vs:List V)(prs:List (UInt8×aQ))(l:Nat):Prop where
 fc:F c
 fp:F pl
 np:¬F' pl
 sub:∀b,F' b->F b
 obj:H c=some (.ins a.cu dx (ED l fv pl))
 lst:H pl=some (.lst vs)
 fst:r H F' fv f
 mY:d6 f≠l
 all:dh (rh r H F') vs prs
 ne:prs≠[]
 lu:l=1\/l=2
 jL:∀pr∈prs,eA pr.1=l
 blt:fG f prs x
def pZ(a:Ad)(r:Rep aQ):Rep aQ:=fun H F v x=>∃c dx pl fv f F' vs prs l,v=.ref c/\M4 a r H F x c dx pl fv f F' vs prs l
def b5(a:Ad):Nat->Rep aQ
 |0=>uF
 |n+1=>fun H F v x=>uF H F v x\/pZ a (b5 a n) H F v x
theorem yQ:Good uF:=⟨fun h _=>h,fun h _=>h⟩
theorem sY{r:Rep aQ}(G:Good r):Good (rh r) where
 frame:=by
  rintro H H' F v x ⟨t,xv,rfl,h1,h2,h3⟩ e
  exact⟨t,xv,rfl,h1,by rw[e t h1];exact h2,G.frame h3 e⟩
 mono:=by
  rintro H F F' v x ⟨t,xv,rfl,h1,h2,h3⟩ m
  exact⟨t,xv,rfl,m t h1,h2,G.mono h3 m⟩
theorem FK{r:Rep aQ}(G:Good r):Good (pZ a r) where
 frame:=by
  rintro H H' F v x ⟨c,dx,pl,fv,f,F',vs,prs,l,rfl,h⟩ e
  have e':∀b,F' b->H' b=H b:=fun b hb=>e b (h.sub b hb)
  exact⟨c,dx,pl,fv,f,F',vs,prs,l,rfl,h.fc,h.fp,h.np,h.sub,by rw[e _ h.fc];exact h.obj,by rw[e _ h.fp];exact h.lst,G.frame h.fst e',h.mY,h.all.imp fun _ _ q=>(sY G).frame q e',h.ne,h.lu,h.jL,h.blt⟩
 mono:=by
  rintro H F F2 v x ⟨c,dx,pl,fv,f,F',vs,prs,l,rfl,h⟩ m
  exact⟨c,dx,pl,fv,f,F',vs,prs,l,rfl,m _ h.fc,m _ h.fp,h.np,fun b hb=>m b (h.sub b hb),h.obj,h.lst,h.fst,h.mY,h.all,h.ne,h.lu,h.jL,h.blt⟩
theorem dA(a:Ad):∀n,Good (b5 a n)
 |0=>yQ
 |n+1=>⟨fun h e=>h.elim (fun z=>.inl (yQ.frame z e)) fun z=>.inr ((FK (dA a n)).frame z e),fun h m=>h.elim (fun z=>.inl (yQ.mono z m)) fun z=>.inr ((FK (dA a n)).mono z m)⟩
theorem Q4{r r':Rep aQ}{H:Hp}{F:Fp}(h:∀v x,r H F v x->r' H F v x){v:V}{x:UInt8×aQ}(q:rh r H F v x):rh r' H F v x:=by
 obtain⟨t,xv,e,h1,h2,h3⟩:=q
 exact⟨t,xv,e,h1,h2,h _ _ h3⟩
theorem rY(a:Ad):∀(n:Nat){H:Hp}{F:Fp}{v:V}{x:aQ},b5 a n H F v x->b5 a (n+1) H F v x
 |0,_,_,_,_,h=>.inl h
 |n+1,_,_,_,_,h=>h.elim .inl fun⟨c,dx,pl,fv,f,F',vs,prs,l,e,q⟩=>
  .inr ⟨c,dx,pl,fv,f,F',vs,prs,l,e,q.fc,q.fp,q.np,q.sub,q.obj,q.lst,rY a n q.fst,q.mY,q.all.imp fun _ _ z=>Q4 (fun _ _ y=>rY a n y) z,q.ne,q.lu,q.jL,q.blt⟩
theorem Ov(a:Ad){m n:Nat}(h:m<=n){H:Hp}{F:Fp}{v:V}{x:aQ}(q:b5 a m H F v x):b5 a n H F v x:=by
 induction h with
 |refl=>exact q
 |step _ ih=>exact rY a _ ih
theorem FT(a:Ad)(n:Nat){H:Hp}{F:Fp}{v:V}{x:aQ}(h:uF H F v x):b5 a n H F v x:=Ov a (Nat.zero_le n) h
theorem mO{n:Nat}{H:Hp}{F:Fp}{v:V}{x:aQ}(h:b5 a n H F v x):(d6 x=0/\v=.str (strOf (LsWale.sumText x)))\/∃m,n=m+1/\pZ a (b5 a m) H F v x:=by
 cases n with
 |zero=>exact .inl h
 |succ m=>exact h.elim .inl fun z=>.inr ⟨m,rfl,z⟩
def K8(a:Ad):Sp:=fun vs H Q _=>∃(v:V)(l n:Nat)(F:Fp)(x:aQ),vs=[v,.int (l:Int)]/\l≠0/\b5 a n H F v x/\Q (.bl (decide (d6 x=l))) H
theorem Ks:aI ["node","level"] ["node","level"] (aC zj):=⟨rfl,rfl,rfl,by decide +kernel,rfl,by decide +kernel,by decide +kernel⟩
theorem Nd(T:Tx P w K mg a):ax P w K mg base aV 1 a.si a.qi ["node","level"] (K8 a):=by
 refine T.Cq.fn.ok Ks (fun vs H Q E h=>?_) (fun cdv A outer s H vs Q E hr h=>?_)
 ·obtain⟨_,_,_,_,_,rfl,_⟩:=h;rfl
 obtain⟨v,l,n,F,x,rfl,hl,hs,q⟩:=h
 refine⟨_,ak (aF (i9 (lT T.lG T.fo (pv 0)) (gY (gO cp (aE (pv 0) rfl) (pv 1) (aZ _))))),?_⟩
 rcases mO hs with ⟨h0,rfl⟩|⟨m,rfl,c,dx,pl,fv,f,F',vs,prs,l',rfl,h⟩
 ·refine(dN rfl (.str _) T.zc ?_)
  rw[h0,decide_eq_false (fun z=>hl z.symm)]at q
  exact bD q
 ·refine(dN rfl (gb T h.obj T.fo T.ub) T.x5 ?_)
  refine bu (rF rfl h.obj T.fo.cl T.Ds rfl (eX _ rfl ⟨rfl,?_⟩))
  rw[gn]
  rw[h.blt.lv h.jL h.ne]at q
  rw[show decide ((l':Int)=(l:Int))=decide (l'=l)from decide_eq_decide.mpr (by lia)]
  exact q
end Wale
end
section
set_option Elab.async false
set_option linter.all false
set_option maxRecDepth 100000
set_option maxHeartbeats 2000000
namespace Wale
open PySem PySem.Spec PyProof.Rows L2
open Wm
variable {P:Program}{w:World}{K:PySem.W.Frag}{mg:Str->Option Value}{base:Heap}{a:Ad}
def LD(a:Ad):Sp:=fun vs H Q _=>∃(x dx:Addr)(l:Nat)(fv:V),vs=[.ref x,.int (l:Int),fv]/\H x=some (.ins a.cu dx [])/\
 ∀(H':Hp)(pl:Addr),H pl=none->H' x=some (.ins a.cu dx (ED l fv pl))->H' pl=some (.lst [])->(∀b o,H b=some o->b≠x->H' b=some o)->Q .ay H'
theorem Qb:aI ["self","level","first"] ["self","level","first"] (aC yh):=⟨rfl,rfl,rfl,by decide +kernel,rfl,by decide +kernel,by decide +kernel⟩
theorem KO(T:Tx P w K mg a):ax P w K mg base aV 1 a.lz a.nW ["self","level","first"] (LD a):=by
 refine T.Cy.1.ok Qb (fun vs H Q E h=>?_) (fun cdv A outer s H vs Q E hr h=>?_)
 ·obtain⟨_,_,_,_,rfl,_⟩:=h;rfl
 obtain⟨x,dx,l,fv,rfl,hx,q⟩:=h
 refine⟨_,aj (dg (pv 0) (pv 1) rfl) (aj (dg (pv 0) (pv 2) rfl) (ak (dg (pv 0) (bT ag) rfl))),?_⟩
 have C:=T.fo.cl
 refine(eX _ rfl (eX _ rfl ⟨x,_,dx,eX _ rfl ⟨hx,C,T.Ds,(by show 0<1000;decide),?_⟩⟩))
 refine(eX _ rfl (eX _ rfl ⟨x,_,dx,eX _ rfl ⟨aB,C,T.zB,(by show 1<1000;decide),?_⟩⟩))
 refine⟨(by show 0<=sizeLine;decide),fun pl hp=>?_⟩
 have nx:x≠pl:=fun z=>by rw[<-z,aB]at hp;cases hp
 have hp0:H pl=none:=by rw[ao (fun z=>nx z.symm),ao (fun z=>nx z.symm)]at hp;exact hp
 refine(eX _ rfl ⟨x,_,dx,eX _ rfl ⟨by rw[ao nx];exact aB,C,T.qD,(by show 2<1000;decide),?_⟩⟩)
 refine q _ pl hp0 aB ?_ fun b o e hb=>?_
 ·rw[ao (fun z=>nx z.symm)];exact aB
 ·rw[ao hb,ao (fun z=>by rw[z,hp0]at e;cases e),ao hb,ao hb];exact e
def HI(a:Ad)(n:Nat):Sp:=fun vs H Q _=>∃(l:Nat)(c:UInt8)(lv rv:V)(xl xr:aQ)(H0:Hp)(FL FR:Fp)(p:Nat),vs=[.int (l:Int),lv,.str (strOf [c]),rv]/\eA c=l/\
 ((d6 xl=l/\b5 a (n+1) H FL lv xl)\/(d6 xl≠l/\b5 a n H FL lv xl))/\b5 a n H FR rv xr/\cM H0 H FL/\cM H0 H FR/\(∀b,FL b->¬FR b)/\cz H0 H/\dv xl<sizeLine/\
 ∀(H':Hp)(v:V)(q:Addr),dC H0 H H' q->Md (b5 a (n+1)) H0 H' v (.op c p xl xr)->Q v H'
theorem Du:aI ["level","left","sign","right","chain"] ["level","left","sign","right"] (aC zI):=⟨rfl,rfl,rfl,by decide +kernel,rfl,by decide +kernel,by decide +kernel⟩
theorem FA(T:Tx P w K mg a)(n:Nat):ax P w K mg base aV 3 a.rQ a.sX ["level","left","sign","right"] (HI a n):=by
 refine aG.ok (k:=2) T.zh.fn Du (fun vs H Q E h=>?_) (fun cdv A outer s H vs Q E hr h=>?_)
 ·obtain⟨_,_,_,_,_,_,_,_,_,_,rfl,_⟩:=h;rfl
 obtain⟨l,c,lv,rv,xl,xr,H0,FL,FR,p,rfl,hc,hL,hR,sL,sR,dj,gr,hz,q⟩:=h
 have lu:=B4 c
 rw[hc]at lu
 have l0:l≠0:=by lia
 refine⟨_,aj (a3 (i:=4) Du.nd rfl (Or.inl rfl) (Bs (cY (aN T.Cq (Nd T) (hr.mono (by decide)) aU (aa (pv 1) (aa (pv 0) ag))))
   (pv 1) (eU T.fo.eS (KO T) hr rfl T.fo.at_ T.Cy.2 .nil aU (aa (pv 0) (aa (pv 1) ag)))))
  (aj (a9 (eh PySem.F.plainAttrs_list PySem.F.slot_list_append PySem.F.type_list_append gJ (aE (pv 4) rfl) (aa (kH (aa (pv 2) (aa (pv 3) ag))) ag)))
  (ak (aF (pv 4)))),?_⟩
 have aL:∀b,FL b->H b≠none:=fun b hb=>by obtain⟨_,o,e⟩:=sL b hb;rw[e];exact fun z=>nomatch z
 have aR:∀b,FR b->H b≠none:=fun b hb=>by obtain⟨_,o,e⟩:=sR b hb;rw[e];exact fun z=>nomatch z
 rcases hL with ⟨hlv,hL⟩|⟨hlv,hL⟩
 ·refine(eX _ rfl (eX _ rfl ⟨lv,l,n+1,FL,xl,rfl,l0,hL,eX _ rfl ?_⟩))
  rw[decide_eq_true hlv]
  refine bu (eX _ rfl ?_)
  rcases mO hL with ⟨h0,-⟩|⟨m,em,co,dx,pl,fv,f,F',vs,prs,l',rfl,h⟩
  ·exact absurd (h0.symm.trans hlv) (fun z=>l0 z.symm)
  cases em
  have el:l'=l:=(h.blt.lv h.jL h.ne).symm.trans hlv
  subst el
  refine(rF rfl h.obj T.fo.cl T.qD rfl ⟨.inl ⟨rfl,_,aM.of h.lst⟩,eX _ rfl (eX _ rfl ⟨(by show 2<=sizeLine;decide),fun t ht=>?_⟩)⟩)
  have npt:pl≠t:=fun z=>by rw[<-z,h.lst]at ht;cases ht
  have nco:co≠pl:=bX h.obj h.lst (fun z=>nomatch z)
  have nct:co≠t:=fun z=>by rw[<-z,h.obj]at ht;cases ht
  refine⟨pl,vs,.ref t,rfl,rfl,by rw[ao npt];exact h.lst,by have:=h.blt.len;have:=h.all.len;lia,?_⟩
  have eqF:∀b,FL b->b≠pl->upd (upd H t (.tup [.str (strOf [c]),rv])) pl (.lst (vs++[.ref t])) b=H b:=fun b hb hn=>by
   rw[ao hn,ao (fun z=>aL b hb (by rw[z];exact ht))]
  have eqR:∀b,FR b->upd (upd H t (.tup [.str (strOf [c]),rv])) pl (.lst (vs++[.ref t])) b=H b:=fun b hb=>by
   rw[ao (fun z=>dj pl h.fp (by rw[<-z];exact hb)),ao (fun z=>aR b hb (by rw[z];exact ht))]
  refine(eX _ rfl (q _ _ pl ⟨fun b o e hb=>?_,(sL _ h.fp).1,.inl ⟨vs,h.lst⟩,sr.trans sr⟩ ⟨fun b=>FL b\/FR b\/b=t,.inr ⟨co,dx,pl,fv,f,fun b=>F' b\/FR b\/b=t,vs++[.ref t],prs++[(c,xr)],l',rfl,?_⟩,?_⟩))
  ·rw[ao hb,ao (fun z=>by rw[z,ht]at e;cases e)];exact e
  ·refine⟨.inl h.fc,.inl h.fp,fun z=>z.elim h.np fun z=>z.elim (dj _ h.fp) npt,fun b hb=>hb.elim (fun z=>.inl (h.sub b z)) .inr,?_,aB,?_,h.mY,?_,by simp,h.lu,?_,h.blt.snoc⟩
   ·rw[ao nco,ao nct];exact h.obj
   ·exact(dA a n).mono ((dA a n).frame h.fst fun b hb=>eqF b (h.sub b hb) fun z=>h.np (by rw[<-z];exact hb)) fun b hb=>.inl hb
   ·refine dh.app (h.all.imp fun _ _ z=>?_) (.cons ⟨t,rv,rfl,.inr (.inr rfl),?_,?_⟩ .nil)
    ·exact(sY (dA a n)).mono ((sY (dA a n)).frame z fun b hb=>eqF b (h.sub b hb) fun z=>h.np (by rw[<-z];exact hb)) fun b hb=>.inl hb
    ·rw[ao (fun z=>npt z.symm)];exact aB
    ·exact(dA a n).mono ((dA a n).frame hR eqR) fun b hb=>.inr (.inl hb)
   ·intro pr hp
    rcases List.mem_append.mp hp with z|z
    ·exact h.jL pr z
    ·rw[List.mem_singleton.mp z];exact hc
  ·intro b hb
   rcases hb with hb|hb|rfl
   ·exact sL.put.put b hb
   ·exact sR.put.put b hb
   ·refine⟨gr.none ht,?_⟩
    rw[ao (fun z=>npt z.symm),aB];exact⟨_,rfl⟩
 ·refine(eX _ rfl (eX _ rfl ⟨lv,l,n,FL,xl,rfl,l0,hL,eX _ rfl ?_⟩))
  rw[decide_eq_false hlv]
  refine bD (eX _ rfl (eX _ rfl (fun x dx nx nd ne=>?_)))
  refine⟨x,dx,l,lv,rfl,aB,fun H1 pl hp ex ep kp=>⟨rfl,?_⟩⟩
  have sm:aO H H1:=aO.made nx nd kp
  have hp0:H pl=none:=by
   cases e:H pl with
   |none=>rfl
   |some o=>
    have n1:pl≠x:=fun z=>by rw[z,nx]at e;cases e
    have n2:pl≠dx:=fun z=>by rw[z,nd]at e;cases e
    rw[ao n1,ao n2,e]at hp;cases hp
  refine(rF rfl ex T.fo.cl T.qD rfl ⟨.inl ⟨rfl,_,aM.of ep⟩,eX _ rfl (eX _ rfl ⟨(by show 2<=sizeLine;decide),fun t ht=>?_⟩)⟩)
  have npt:pl≠t:=fun z=>by rw[<-z,ep]at ht;cases ht
  have nxp:x≠pl:=bX ex ep (fun z=>nomatch z)
  have nxt:x≠t:=fun z=>by rw[<-z,ex]at ht;cases ht
  refine⟨pl,[],.ref t,rfl,rfl,by rw[ao npt];exact ep,by show 0<sizeLine;decide,?_⟩
  have ht0:H t=none:=by
   cases e:H t with
   |none=>rfl
   |some o=>rw[sm _ _ e]at ht;cases ht
  have keep:∀b o,H b=some o->upd (upd H1 t (.tup [.str (strOf [c]),rv])) pl (.lst ([]++[.ref t])) b=some o:=fun b o e=>by
   rw[ao (fun z=>by rw[z,hp0]at e;cases e),ao (fun z=>by rw[z,ht0]at e;cases e)];exact sm b o e
  have sm':aO H (upd (upd H1 t (.tup [.str (strOf [c]),rv])) pl (.lst ([]++[.ref t]))):=keep
  refine(eX _ rfl (q _ _ pl ⟨fun b o e _=>keep b o e,gr.none hp0,.inr hp0,EX sm'⟩ ⟨fun b=>b=x\/b=pl\/FL b\/FR b\/b=t,.inr ⟨x,dx,pl,lv,xl,fun b=>FL b\/FR b\/b=t,[]++[.ref t],[]++[(c,xr)],l,rfl,?_⟩,?_⟩))
  ·refine⟨.inl rfl,.inr (.inl rfl),fun z=>?_,fun b hb=>.inr (.inr hb),?_,aB,?_,hlv,?_,by simp,lu,?_,fG.nil.snoc⟩
   ·rcases z with z|z|z
    ·exact aL _ z hp0
    ·exact aR _ z hp0
    ·exact npt z
   ·rw[ao nxp,ao nxt];exact ex
   ·exact(dA a n).mono ((dA a n).frame hL (sL.zu sm')) fun b hb=>.inl hb
   ·refine .cons ⟨t,rv,rfl,.inr (.inr rfl),?_,?_⟩ .nil
    ·rw[ao (fun z=>npt z.symm)];exact aB
    ·exact(dA a n).mono ((dA a n).frame hR (sR.zu sm')) fun b hb=>.inr (.inl hb)
   ·intro pr hp
    rw[List.mem_singleton.mp hp];exact hc
  ·intro b hb
   rcases hb with rfl|rfl|hb|hb|rfl
   ·refine⟨gr.none nx,?_⟩
    rw[ao nxp,ao nxt];exact⟨_,ex⟩
   ·exact⟨gr.none hp0,_,aB⟩
   ·exact sL.same sm' b hb
   ·exact sR.same sm' b hb
   ·refine⟨gr.none ht0,?_⟩
    rw[ao (fun z=>npt z.symm),aB];exact⟨_,rfl⟩
end Wale
end
section
set_option Elab.async false
set_option linter.all false
set_option maxRecDepth 100000
set_option maxHeartbeats 2000000
namespace Wale
open PySem PySem.Spec PyProof.Rows L2
open Wm
open LsWale (ascii Fault eatSign eatWord eatOpen anyName newName oldName markName holdName wanted isName)
variable {P:Program}{w:World}{K:PySem.W.Frag}{mg:Str->Option Value}{base:Heap}{a:Ad}
theorem lJ(n:Nat):Str.ofString (toString (n:Int))=strOf (LsWale.decimal n):=by
 have h:=PySem.W.KIN.signs_num n
 have e:(LsWale.decimal n).map UInt8.toNat=(Nat.toDigits 10 n).map Char.toNat:=by
  unfold LsWale.decimal
  rw[List.map_map]
  refine List.map_congr_left fun c hc=>?_
  have hd:=Nat.isDigit_of_mem_toDigits (by decide) (by decide) hc
  show(UInt8.ofNat c.toNat).toNat=c.toNat
  rw[UInt8.toNat_ofNat']
  have:c.toNat<=57:=by
   unfold Char.isDigit at hd
   rw[Bool.and_eq_true,decide_eq_true_eq,decide_eq_true_eq]at hd
   exact hd.2
  lia
 unfold strOf
 rw[e,<-h]
theorem JC{b:Bytes}{p n:Nat}(h:aq b p=.num n):n<=1048576:=by
 unfold aq at h
 generalize b.drop (aP b p)=z at h
 unfold LsWale.oneToken at h
 split at h
 ·cases h
 ·split at h
  ·cases h
  ·split at h
   ·split at h
    ·rename_i hn
     cases h
     unfold LsWale.isNumber at hn
     rw[Bool.and_eq_true,decide_eq_true_eq]at hn
     exact hn.2
    ·cases h
   ·split at h<;>cases h
theorem yV{n:Nat}(h:n<=1048576):(n:Int).natAbs.log2<1920:=by
 rw[Int.natAbs_natCast]
 have h2:n.log2<=n:=Nat.log2_le_self n
 by_cases z:n=0
 ·rw[z];decide
 ·have:n.log2<21:=(Nat.log2_lt z).mpr (by lia)
  lia
theorem Eh{H0 H:Hp}{n:Nat}{x:aQ}(h:d6 x=0):Md (b5 a n) H0 H (.str (strOf (LsWale.sumText x))) x:=⟨fun _=>False,FT a n ⟨h,rfl⟩,fun _ z=>z.elim⟩
theorem Ca{b:Bytes}{R:RA}{p d:Nat}{L:NL}{H:Hp}{Q:VK}{E:XK}{kd:Str}(hR:au a K b R p d L H)(hb:gS K a b p E)(k1:cI b p->fE (aq b p)=kd->∀(H':Hp)(x:Addr),au a K b R (aA b p) d L H'->aJ R H H'->di a b p H' x->Q (.ref x) H')
  (k2:cI b p->fE (aq b p)≠kd->Told K a E 3 (aP b p:Nat)):gK K a fE [.ref R.r,.str kd] H Q E:=by
 unfold gK
 exact⟨b,R,p,d,L,kd,rfl,hR,hb,k1,k2⟩
theorem au.ins{b:Bytes}{R:RA}{p d:Nat}{L:NL}{H:Hp}(h:au a K b R p d L H):H R.r=some (.ins a.bh h.obj.choose (kO R.t h.obj.choose_spec.choose p d R.N.n)):=h.obj.choose_spec.choose_spec.1
@[irreducible] def i7{α:Type}(K:PySem.W.Frag)(a:Ad)(m:Nat)(ρ:Rep α)(S:Nat->ah->Except Fault (α×ah)):Sp:=fun vs H Q E=>∃(b:Bytes)(R:RA)(p d:Nat)(e:aD),vs=[.ref R.r]/\au a K b R p d (lst e) H/\d<=8/\8<d+m/\Tl K a E (S d (ae b p e))/\
 ∀x p' e',S d (ae b p e)=.ok (x,ae b p' e')->∀(H':Hp)(v:V),au a K b R p' d (lst e') H'->aJ R H H'->Md ρ H H' v x->Q v H'
theorem fJ{α:Type}{m:Nat}{ρ:Rep α}{S:Nat->ah->Except Fault (α×ah)}(vs:List V)(H:Hp)(Q:VK)(E:XK)(h:i7 K a m ρ S vs H Q E):vs.length=1:=by
 unfold i7 at h
 obtain⟨_,_,_,_,_,rfl,_⟩:=h;rfl
theorem xF{α:Type}{ρ:Rep α}{S:Nat->ah->Except Fault (α×ah)}{k:Nat}{f:Addr}{fd:FuncData}{CX:eC}:ax P w K mg base CX k f fd ["reader"] (i7 K a 0 ρ S):=
 ⟨fJ,fun A outer s H args us vs Q E hr he hb hv hs=>by unfold i7 at hs;obtain⟨_,_,_,_,_,_,_,h1,h2,_⟩:=hs;lia⟩
section
variable {α β:Type}{b:Bytes}{R:RA}{p d m:Nat}{L:NL}{e:aD}{H:Hp}{Q:VK}{E:XK}{r:Except Fault (α×ah)}
theorem cv{ρ:Rep β}{S:Nat->ah->Except Fault (β×ah)}{f:β×ah->Except Fault (α×ah)}(hR:au a K b R p d (lst e) H)(hd:d<=8)(hm:8<d+m)(hT:Tl K a E r)(hr:r=S d (ae b p e)>>=f)(hB:∀x s k pl,HB s k pl->bN (f (x,s)) k pl)
  (kk:∀x p' e',S d (ae b p e)=.ok (x,ae b p' e')->r=f (x,ae b p' e')->∀(H':Hp)(v:V),au a K b R p' d (lst e') H'->aJ R H H'->Md ρ H H' v x->Q v H'):i7 K a m ρ S [.ref R.r] H Q E:=by
 unfold i7
 exact⟨b,R,p,d,e,rfl,hR,hd,hm,fun k pl h=>hT k pl (by rw[hr];exact h.bind fun x s hb=>hB x s k pl hb),fun x p' e' hS=>kk x p' e' hS (by rw[hr,hS];rfl)⟩
end
theorem fV{α:Type}{m:Nat}{ρ:Rep α}{S:Nat->ah->Except Fault (α×ah)}{vs:List V}{H:Hp}{Q:VK}{E:XK}(h:i7 K a m ρ S vs H Q E):∃(b:Bytes)(R:RA)(p d:Nat)(e:aD),vs=[.ref R.r]/\au a K b R p d (lst e) H/\d<=8/\8<d+m/\Tl K a E (S d (ae b p e))/\
 ∀x p' e',S d (ae b p e)=.ok (x,ae b p' e')->∀(H':Hp)(v:V),au a K b R p' d (lst e') H'->aJ R H H'->Md ρ H H' v x->Q v H':=by unfold i7 at h;exact h
theorem uU{b:Bytes}{p:Nat}:fE (aq b p)=("number":Str)↔∃n,aq b p=.num n:=by
 cases aq b p with
 |word x=>
  refine⟨fun z=>?_,fun⟨_,z⟩=>by cases z⟩
  have z:dQ x="number":=z
  unfold dQ at z
  split at z<;>exact absurd z (by decide +kernel)
 |num n=>exact⟨fun _=>⟨n,rfl⟩,fun _=>rfl⟩
 |sign c=>exact⟨fun z=>absurd z (by show ¬(("fixed":Str)="number");decide +kernel),fun⟨_,z⟩=>by cases z⟩
 |bad k=>exact⟨fun z=>absurd z (by show ¬(("":Str)="number");decide +kernel),fun⟨_,z⟩=>by cases z⟩
 |done=>exact⟨fun z=>absurd z (by show ¬(("end":Str)="number");decide +kernel),fun⟨_,z⟩=>by cases z⟩
theorem MI{b:Bytes}{p d n:Nat}{e:aD}(h:aq b p=.num n):bc .fact d (ae b p e)=.ok (.num n,ae b (aA b p) e):=by
 rw[Pz (by rw[eg,h]),cV (by rw[h];rfl)]
theorem O3{b:Bytes}{p d:Nat}{e:aD}{x:Bytes}(h:nameAt b p=some x):bc .fact d (ae b p e)=oldName e.lets (ae b p e)>>=fun x=>.ok (.name (aP b p) x.1,x.2):=
 HL (by rw[eg,(uW h).1])
theorem K0{b:Bytes}{p d:Nat}{e:aD}(nb:cI b p)(h1:∀n,aq b p≠ .num n)(h2:nameAt b p=none):
  bc .fact d (ae b p e)=eatOpen '(' d (ae b p e)>>=fun t=>bc .sum (d+1) t>>=fun x=>eatSign ')' x.2>>=fun u=>.ok (x.1,u):=by
 by_cases hw:∃x,aq b p=.word x
 ·obtain⟨x,hx⟩:=hw
  rw[HL (by rw[eg,hx])]
  unfold oldName eatOpen
  rw[any_none h2,if_pos (by rw[gg,hx];rfl),fK nb,fK nb]
  rfl
 ·exact EV (fun p' n r z=>by rw[eg]at z;exact h1 n (congrArg LsWale.Token.tok (List.cons.inj z).1)) (fun p' x r z=>by rw[eg]at z;exact hw ⟨x,congrArg LsWale.Token.tok (List.cons.inj z).1⟩)
abbrev da{α:Type}(P:Program)(w:World)(K:PySem.W.Frag)(mg:Str->Option Value)(base:Heap)(a:Ad)(k:Nat)(f:Addr)(fd:FuncData)(m:Nat)(ρ:Rep α)(S:Nat->ah->Except Fault (α×ah)):Prop:=ax P w K mg base (bj P w) k f fd ["reader"] (i7 K a m ρ S)
theorem yu:aI ["reader","token","node"] ["reader"] (aC yL):=⟨rfl,rfl,rfl,by decide +kernel,rfl,by decide +kernel,by decide +kernel⟩
theorem xt{α:Type}{x:α}{s:ah}{c:Char}{k pl:Nat}(h:HB s k pl):bN (eatSign c s>>=fun u=>(.ok (x,u):Except Fault (α×ah))) k pl:=by rw[wB h];exact .inl rfl
theorem QS(T:Tx P w K mg a){m n:Nat}(F:da P w K mg base a (10+3*m) a.lL a.lj m (b5 a n) (bc .sum)):da P w K mg base a (10+3*m+1) a.o4 a.o7 (m+1) (b5 a n) (bc .fact):=by
 refine aG.bz (k:=10+3*m) T.xY.fn yu fJ (fun cdv A outer s H vs Q E hr h=>?_)
 obtain⟨b,R,p,d,e,rfl,hR,hd,hm,hT,kk⟩:=fV h
 have C:=T.bL.cl
 refine⟨_,aj (a3 (i:=1) yu.nd rfl (Or.inl rfl) (cH (pv 0) C T.cj.mt (iE T) (hr.mono (by first|decide|lia)) T.cj.bd .nil aw))
  (aj (a4 (a5 cp (aE (pv 1) rfl) (bH T.uA) (aZ _)) (ak (aF (Jy J4 rfl T.Oe rfl (aa (aE (cH (pv 0) C T.cW.mt (jv T) (hr.mono (by first|decide|lia)) T.cW.bd .nil aw) rfl) ag)))) ba)
  (aj (a4 (a5 cp (aE (pv 1) rfl) (bH T.ke) (aZ _)) (ak (aF ((a0 (pv 0) C T.jk.mt (wH T) (hr.mono (by first|decide|lia)) T.jk.bd .nil aw (aa (bH T.uN) ag))))) ba)
  (aj (a9 (a0 (pv 0) C T.lY.mt (AE T) (hr.mono (by first|decide|lia)) T.lY.bd .nil aw (aa aT ag))) (aj (a3 (i:=2) yu.nd rfl (Or.inl rfl) (aN T.jz F (hr.mono (by first|decide|lia)) aw (aa (pv 0) ag))) (aj (a9 (a0 (pv 0) C T.lB.mt (xI T) (hr.mono (by first|decide|lia)) T.lB.bd .nil aw (aa aT ag))) (ak (aF (pv 2)))))))),?_⟩
 refine(rM rfl hR.ins rfl ?_)
 refine nz (e:=e) hR hT (fun k pl hb=>.inl (LB hb d)) fun nb H1 x hR1 kp1 tk1=>?_
 obtain⟨dt,ft,et,lt1,lt2,lt3,lt4,lt5⟩:=tk1
 refine(rF rfl et T.bx.cl T.kE lt1 ⟨rfl,eX _ rfl ?_⟩)
 rw[cN]
 refine aX (fun c=>?_) (fun c=>?_)
 ·obtain⟨n,hn⟩:=uU.mp (of_decide_eq_true c)
  refine(rM rfl hR1.ins rfl ?_)
  refine jB hR1 nb fun H2 y hR2 kp2 tk2=>?_
  obtain⟨dt,ft,et,lt1,lt2,lt3,lt4,lt5⟩:=tk2
  rw[hn]at lt3
  refine(rG rfl et T.bx.cl T.qt lt3 (eX _ rfl ⟨yV (JC hn),?_⟩))
  refine kk _ _ _ (MI hn) H2 _ hR2 (kp1.trans kp2) ?_
  rw[show(Str.ofString (toString ((yy (.num n):Nat):Int)):Str)=strOf (LsWale.decimal n)from lJ n]
  exact Eh (x:=.num n) rfl
 have h1:∀n,aq b p≠ .num n:=fun n z=>c (decide_eq_true (uU.mpr ⟨n,z⟩))
 refine(rF rfl et T.bx.cl T.kE lt1 ⟨rfl,eX _ rfl ?_⟩)
 rw[cN]
 refine aX (fun c2=>?_) (fun c2=>?_)
 ·obtain⟨z,hz⟩:=gf.mp (of_decide_eq_true c2)
  refine(rM rfl hR1.ins rfl ?_)
  exact vD (k:=.fb) hR1 rfl hT (O3 hz) rfl fun y hy H2 hR2 kp2=>kk _ _ _ hy H2 _ hR2 (kp1.trans kp2) (Eh (x:=.name (aP b p) y) rfl)
 have h2:nameAt b p=none:=by
  cases hx:nameAt b p with
  |none=>rfl
  |some x=>exact absurd (decide_eq_true (gf.mpr ⟨x,hx⟩)) c2
 refine(rM rfl hR1.ins rfl ?_)
 refine yU hR1 hd hT (K0 nb h1 h2) fun e1 l8 hs H2 hR2 kp2=>?_
 refine(eX _ rfl ?_)
 refine cv (m:=m) hR2 (by lia) (by lia) hT e1 (fun x s k pl hb=>xt hb) fun y p' e' hS e2 H3 v hR3 kp3 md3=>?_
 refine(rM rfl hR3.ins rfl ?_)
 refine yD hR3 hT e2 fun e3 H4 hR4 kp4=>(eX _ rfl ?_)
 exact kk _ _ _ e3 H4 v hR4 (((kp1.trans kp2).trans kp3).trans kp4) ((md3.keep (dA a n) hR2.cells kp4).old ((kp1.trans kp2).grow hR2.cells))
end Wale
end
section
set_option Elab.async false
set_option linter.all false
set_option maxRecDepth 100000
set_option maxHeartbeats 2000000
namespace Wale
open PySem PySem.Spec PyProof.Rows L2
open Wm
open LsWale (Level sumAt eatSign eatOpen oldName wanted Fault)
theorem gz{α β:Type}{r:Except Fault α}{f:α->Except Fault β}{y:β}(q:(r>>=f)=.ok y):∃z,r=.ok z/\f z=.ok y:=by
 cases r with
 |error f=>cases q
 |ok z=>exact⟨z,rfl,q⟩
def iJ:Level->Nat
 | .sumRest x=>dv x
 | .prodRest x=>dv x
 |_=>0
def one:Level->Nat
 | .sumRest _=>0
 | .prodRest _=>0
 |_=>1
theorem hJ:∀(f:Nat)(lv:Level)(d:Nat)(s:ah)(x:aQ)(t:ah),sumAt f lv d s=.ok (x,t)->dv x+t.ts.length+one lv<=s.ts.length+iJ lv
 |0,lv,d,s,x,t,h=>by rw[sumAt]at h;exact absurd h (by unfold wanted;split<;>exact fun z=>nomatch z)
 |f+1,.sum,d,s,x,t,h=>by
  rw[sumAt]at h
  obtain⟨⟨y,u⟩,h1,h2⟩:=gz h
  have i1:=hJ f .prod d s y u h1
  have i2:=hJ f (.sumRest y) d u x t h2
  simp only[iJ,one]at *
  lia
 |f+1,.prod,d,s,x,t,h=>by
  rw[sumAt]at h
  obtain⟨⟨y,u⟩,h1,h2⟩:=gz h
  have i1:=hJ f .fact d s y u h1
  have i2:=hJ f (.prodRest y) d u x t h2
  simp only[iJ,one]at *
  lia
 |f+1,.sumRest z,d,s,x,t,h=>by
  rw[sumAt]at h
  split at h
  ·rename_i c
   obtain⟨⟨y,u⟩,h1,h2⟩:=gz h
   have i0:=aY (j3 c)
   have i1:=hJ f .prod d s.next y u h1
   have i2:=hJ f (.sumRest _) d u x t h2
   simp only[iJ,one,dv]at *
   lia
  ·cases h
   simp only[iJ,one]
   lia
 |f+1,.prodRest z,d,s,x,t,h=>by
  rw[sumAt]at h
  split at h
  ·rename_i c
   obtain⟨⟨y,u⟩,h1,h2⟩:=gz h
   have i0:=aY (j3 c)
   have i1:=hJ f .fact d s.next y u h1
   have i2:=hJ f (.prodRest _) d u x t h2
   simp only[iJ,one,dv]at *
   lia
  ·cases h
   simp only[iJ,one]
   lia
 |f+1,.fact,d,s,x,t,h=>by
  rw[sumAt]at h
  split at h
  ·rename_i q
   cases h
   have:=aY (s:=s) (by rw[q];simp)
   simp only[iJ,one,dv]
   lia
  ·obtain⟨y,h1,h2⟩:=gz h
   cases h2
   have:=oI y.1 y.2 h1
   simp only[iJ,one,dv]
   lia
  ·obtain⟨u,h1,h2⟩:=gz h
   obtain⟨⟨y,v⟩,h3,h4⟩:=gz h2
   obtain⟨z,h5,h6⟩:=gz h4
   cases h6
   have i0:=iR _ h1
   have i1:=hJ f .sum (d+1) u y v h3
   have i2:=dB _ h5
   simp only[iJ,one]at *
   lia
theorem DM{d:Nat}{s t:ah}{x:aQ}(h:bc .fact d s=.ok (x,t)):dv x+t.ts.length<s.ts.length:=hJ _ .fact d s x t h
theorem E6{d:Nat}{s t:ah}{x:aQ}(h:bc .prod d s=.ok (x,t)):dv x+t.ts.length<s.ts.length:=hJ _ .prod d s x t h
theorem toks_le(b:Bytes)(p:Nat):(toks b p).length<=b.length+1:=by
 have:∀(f p:Nat)(b:Bytes),(LsWale.tokensFrom f p b).length<=f:=fun f=>by
  induction f with
  |zero=>intro p b;exact Nat.zero_le _
  |succ f ih=>
   intro p b
   rw[LsWale.tokensFrom]
   rw[List.length_cons]
   have:=ih
   split
   ·exact Nat.succ_le_succ (Nat.zero_le _)
   ·exact Nat.succ_le_succ (Nat.zero_le _)
   ·exact Nat.succ_le_succ (ih _ _)
 have h:=this ((b.drop p).length+1) p (b.drop p)
 unfold toks
 rw[List.length_drop]at h ⊢
 lia
theorem qv{b:Bytes}(h:b.length<=20000)(p:Nat):(toks b p).length<sizeLine:=by
 have:=toks_le b p
 have:sizeLine=16777216:=by decide
 lia
end Wale
end
section
set_option Elab.async false
set_option linter.all false
set_option maxRecDepth 100000
set_option maxHeartbeats 2000000
namespace Wale
open PySem PySem.Spec PyProof.Rows L2
open Wm
open LsWale (ascii Fault eatSign eatWord eatOpen anyName newName oldName markName holdName wanted isName)
variable {P:Program}{w:World}{K:PySem.W.Frag}{mg:Str->Option Value}{base:Heap}{a:Ad}
theorem CN{b:Bytes}{p:Nat}{e:aD}(cs:List Char){l:List Str}(hl:l=cs.map fun c=>strOf [UInt8.ofNat c.toNat])(hc:∀c∈cs,LsWale.isLetter (UInt8.ofNat c.toNat)=false):
  ee (.str (bq (aq b p))) (l.map V.str)=cs.any fun c=>(ae b p e).isSign c:=by
 subst hl
 have h1:(cs.map fun c=>strOf [UInt8.ofNat c.toNat])=(cs.map fun c=>[UInt8.ofNat c.toNat]).map strOf:=by rw[List.map_map];rfl
 rw[nR,h1,oz]
 induction cs with
 |nil=>rfl
 |cons c r ih=>
  rw[List.map_cons,List.contains_cons,List.any_cons,ih (fun c h=>hc c (List.mem_cons_of_mem _ h)) (by rw[List.map_map];rfl)]
  congr 1
  rw[Bool.eq_iff_iff,beq_iff_eq]
  exact g9 b p e (hc c (List.mem_cons_self ..))
theorem in_words{b:Bytes}{p:Nat}{e:aD}(ws:List String){l:List Str}(hl:l=ws.map fun c=>strOf (ascii c))(hc:∀c∈ws,jh c=true):
  ee (.str (bq (aq b p))) (l.map V.str)=ws.any fun c=>(ae b p e).isWord c:=by
 subst hl
 have h1:(ws.map fun c=>strOf (ascii c))=(ws.map fun c=>ascii c).map strOf:=by rw[List.map_map];rfl
 rw[nR,h1,oz]
 induction ws with
 |nil=>rfl
 |cons c r ih=>
  rw[List.map_cons,List.contains_cons,List.any_cons,ih (fun c h=>hc c (List.mem_cons_of_mem _ h)) (by rw[List.map_map];rfl)]
  congr 1
  rw[Bool.eq_iff_iff,beq_iff_eq]
  exact lC b p e (hc c (List.mem_cons_self ..))
section
variable {α β:Type}{b:Bytes}{R:RA}{p d m:Nat}{L:NL}{e:aD}{H:Hp}{E:XK}{r:Except Fault (α×ah)}{σ:L2.St}{Q:Bool->Hp->Prop}
theorem zr{z1 z2:Str}(T:Tx P w K mg a)(h0:σ[0]? =some (some (.ref R.r)))(hR:au a K b R p d L H)(hT:Tl K a E r)(hb:∀k pl,HB (ae b p e) k pl->bN r k pl)
  (k:cI b p->∀H':Hp,au a K b R p d L H'->aJ R H H'->Q (ee (.str (bq (aq b p))) [.str z1,.str z2]) H'):
  iF (eF (BX K false) (mP K (wj a.bh "peek" (oJ K a) [] E (bI 0) eI) "text") (G0 (b7 (tC (.str z1)) (b7 (tC (.str z2)) eI)))) σ H Q:=by
 refine⟨_,h0,R.r,_,eX _ rfl ⟨hR.ins,rfl,nz hR hT hb fun nb H1 x hR1 kp1 tk1=>?_⟩⟩
 obtain⟨dt,ft,et,lt1,lt2,lt3,lt4,lt5⟩:=tk1
 refine(rG rfl et T.bx.cl T.cf lt2 ⟨(by show 2<=sizeLine;decide),fun q hq=>?_⟩)
 refine⟨q,eX _ rfl ⟨.inr (.inl (.inl aB)),rfl,rfl,eX _ rfl ?_⟩⟩
 rw[if_neg Bool.false_ne_true]
 exact k nb _ (hR1.same (aS hq)) (kp1.trans (bp (aS hq)))
theorem AV{l:List Str}{dd:Addr}(T:Tx P w K mg a)(h0:σ[0]? =some (some (.ref R.r)))(hR:au a K b R p d L H)(hT:Tl K a E r)(hb:∀k pl,HB (ae b p e) k pl->bN r k pl)
  (k:cI b p->∀H':Hp,au a K b R p d L H'->aJ R H H'->Q (ee (.str (bq (aq b p))) (l.map V.str)) H'):
  iF (eF (nv l dd) (mP K (wj a.bh "peek" (oJ K a) [] E (bI 0) eI) "text") (tC (.ref dd))) σ H Q:=by
 refine⟨_,h0,R.r,_,eX _ rfl ⟨hR.ins,rfl,nz hR hT hb fun nb H1 x hR1 kp1 tk1=>?_⟩⟩
 obtain⟨dt,ft,et,lt1,lt2,lt3,lt4,lt5⟩:=tk1
 exact(rG rfl et T.bx.cl T.cf lt2 ⟨rfl,eX _ rfl (eX _ rfl (k nb H1 hR1 kp1))⟩)
end
theorem o8{α:Type}{r:Except Fault (α×ah)}{x:α}{s:ah}{k pl:Nat}(h:r=.ok (x,s))(hb:HB s k pl):bN r k pl:=.inr ⟨x,s,h,hb⟩
theorem tU:aI ["reader","node","sign"] ["reader"] (aC yM):=⟨rfl,rfl,rfl,by decide +kernel,rfl,by decide +kernel,by decide +kernel⟩
theorem nA{α:Type}{b:Bytes}{p p':Nat}{e e':aD}{x:α}{g:Except Fault (α×ah)}(h:Lt (ae b p e).ts.length g)(hS:g=.ok (x,ae b p' e')):(toks b p').length<(toks b p).length:=h _ _ hS
theorem pB{b:Bytes}{p:Nat}(h:c7 (aq b p)=true):(toks b (aA b p)).length<(toks b p).length:=by
 have h1:=aY (s:=ae b p .none_) (by rw[eg];exact List.cons_ne_nil _ _)
 rw[cV h]at h1
 exact h1
theorem Qk{b:Bytes}{p:Nat}{e:aD}:ee (.str (bq (aq b p))) [.str "*",.str "/"]=((ae b p e).isSign '*'||(ae b p e).isSign '/'):=by
 have h:=CN (b:=b) (p:=p) (e:=e) ['*','/'] (l:=["*","/"]) (by decide +kernel) (by decide +kernel)
 rw[show(['*','/'].any fun c=>(ae b p e).isSign c)=((ae b p e).isSign '*'||((ae b p e).isSign '/'||false))from rfl,Bool.or_false]at h
 exact h
theorem LU{b:Bytes}{p:Nat}{e:aD}:ee (.str (bq (aq b p))) [.str "+",.str "-"]=((ae b p e).isSign '+'||(ae b p e).isSign '-'):=by
 have h:=CN (b:=b) (p:=p) (e:=e) ['+','-'] (l:=["+","-"]) (by decide +kernel) (by decide +kernel)
 rw[show(['+','-'].any fun c=>(ae b p e).isSign c)=((ae b p e).isSign '+'||((ae b p e).isSign '-'||false))from rfl,Bool.or_false]at h
 exact h
theorem uO{b:Bytes}{p:Nat}{e:aD}{c c':Char}(h:((ae b p e).isSign c||(ae b p e).isSign c')=true):c7 (aq b p)=true:=by
 rcases(Bool.or_eq_true _ _).mp h with h|h
 ·exact g0 h
 ·exact g0 h
theorem JK{b:Bytes}{p:Nat}{e:aD}(h:((ae b p e).isSign '*'||(ae b p e).isSign '/')=true):bq (aq b p)=strOf [if(ae b p e).isSign '*'=true then 42 else 47]:=by
 by_cases c:(ae b p e).isSign '*'=true
 ·rw[if_pos c]
  rw[gg,decide_eq_true_eq]at c
  rw[c];rfl
 ·rw[if_neg c]
  have h:(ae b p e).isSign '/'=true:=((Bool.or_eq_true _ _).mp h).resolve_left c
  rw[gg,decide_eq_true_eq]at h
  rw[h];rfl
theorem JG{b:Bytes}{p:Nat}{e:aD}(h:((ae b p e).isSign '+'||(ae b p e).isSign '-')=true):bq (aq b p)=strOf [if(ae b p e).isSign '+'=true then 43 else 45]:=by
 by_cases c:(ae b p e).isSign '+'=true
 ·rw[if_pos c]
  rw[gg,decide_eq_true_eq]at c
  rw[c];rfl
 ·rw[if_neg c]
  have h:(ae b p e).isSign '-'=true:=((Bool.or_eq_true _ _).mp h).resolve_left c
  rw[gg,decide_eq_true_eq]at h
  rw[h];rfl
theorem Pt{c:Bool}:eA (if c=true then 42 else 47)=2:=by cases c<;>decide
theorem Ot{c:Bool}:eA (if c=true then 43 else 45)=1:=by cases c<;>decide
def Node(a:Ad)(n l:Nat)(H0 H:Hp)(v:V)(x:aQ):Prop:=Md (b5 a n) H0 H v x\/(d6 x=l/\Md (b5 a (n+1)) H0 H v x)
theorem Node.up{n l:Nat}{H0 H:Hp}{v:V}{x:aQ}(h:Node a n l H0 H v x):Md (b5 a (n+1)) H0 H v x:=h.elim (fun m=>m.map fun F q=>rY a n q) fun m=>m.2
theorem Node.keep{b:Bytes}{R:RA}{n l:Nat}{H0 H H':Hp}{v:V}{x:aQ}(h:Node a n l H0 H v x)(c:nY R H0)(k:aJ R H H'):Node a n l H0 H' v x:=
 h.elim (fun m=>.inl (m.keep (dA a n) c k)) fun m=>.inr ⟨m.1,m.2.keep (dA a (n+1)) c k⟩
theorem FJ{n l:Nat}{c:UInt8}{lv rv:V}{xl xr:aQ}{H0 H1 H:Hp}{p:Nat}{Q:VK}{b:Bytes}{R:RA}{p0 d0:Nat}{L0:NL}(hc:eA c=l)(hL:Node a n l H0 H1 lv xl)(hR0:au a K b R p0 d0 L0 H0)(g1:cz H0 H1)(k:aJ R H1 H)(gk:cz H1 H)(hR:Md (b5 a n) H1 H rv xr)(hz:dv xl<sizeLine)
  (kk:∀(H':Hp)(v:V)(q:Addr),dC H0 H H' q->Node a n l H0 H' v (.op c p xl xr)->Q v H'):HI a n [.int (l:Int),lv,.str (strOf [c]),rv] H Q E0:=by
 obtain⟨FR,q,sR⟩:=hR
 have kk':∀(H':Hp)(v:V)(q:Addr),dC H0 H H' q->Md (b5 a (n+1)) H0 H' v (.op c p xl xr)->Q v H':=fun H' v q lc md=>kk H' v q lc (.inr ⟨hc,md⟩)
 rcases hL with ⟨FL,z,sL⟩|⟨hl,FL,z,sL⟩
 ·have dj:∀b,FL b->¬FR b:=fun b h1 h2=>by obtain⟨_,o,e⟩:=sL b h1;rw[(sR b h2).1]at e;cases e
  have z':=(dA a n).frame z (sL.eq hR0.cells k)
  by_cases hl:d6 xl=l
  ·exact⟨l,c,lv,rv,xl,xr,H0,FL,FR,p,rfl,hc,.inl ⟨hl,rY a n z'⟩,q,sL.keep hR0.cells k,sR.old g1,dj,g1.trans gk,hz,kk'⟩
  ·exact⟨l,c,lv,rv,xl,xr,H0,FL,FR,p,rfl,hc,.inr ⟨hl,z'⟩,q,sL.keep hR0.cells k,sR.old g1,dj,g1.trans gk,hz,kk'⟩
 ·have dj:∀b,FL b->¬FR b:=fun b h1 h2=>by obtain⟨_,o,e⟩:=sL b h1;rw[(sR b h2).1]at e;cases e
  exact⟨l,c,lv,rv,xl,xr,H0,FL,FR,p,rfl,hc,.inl ⟨hl,(dA a (n+1)).frame z (sL.eq hR0.cells k)⟩,q,sL.keep hR0.cells k,sR.old g1,dj,g1.trans gk,hz,kk'⟩
theorem NJ(T:Tx P w K mg a){k m n:Nat}(hk:9<=k)(F:da P w K mg base a k a.o4 a.o7 m (b5 a n) (bc .fact)):da P w K mg base a (k+1) a.oE a.oi m (b5 a (n+1)) (bc .prod):=by
 refine aG.bz (k:=k) T.xU.fn tU fJ (fun cdv A outer s H vs Q E hr h=>?_)
 obtain⟨b,R,p,d,e,rfl,hR,hd,hm,hT,kk⟩:=fV h
 have C:=T.bL.cl
 refine⟨_,aj (a3 (i:=1) tU.nd rfl (Or.inl rfl) (aN T.xY F hr aw (aa (pv 0) ag)))
  (aj (gN iD (a5 rn (aE (cH (pv 0) C T.cj.mt (iE T) (hr.mono (by first|decide|lia)) T.cj.bd .nil aw) rfl) (kH (aa aT (aa aT ag))) (by rfl)) (aj (a3 (i:=2) tU.nd rfl (Or.inl rfl) (aE (cH (pv 0) C T.cW.mt (jv T) (hr.mono (by first|decide|lia)) T.cW.bd .nil aw) rfl))
   (ak (a3 (i:=1) tU.nd rfl (Or.inl rfl) (aN T.zh (FA T n) (hr.mono (by first|decide|lia)) aU (aa (cT T.Pa) (aa (pv 1) (aa (pv 2) (aa (aN T.xY F hr aw (aa (pv 0) ag)) ag)))))))))
  (ak (aF (pv 1)))),?_⟩
 refine(eX _ rfl ?_)
 refine cv hR hd hm hT (Ik d _) (fun x s k pl hb=>o8 (Bc hb x d) hb) fun x p1 e1 hS h1 H1 v hR1 kp1 md1=>?_
 let I:aQ×Nat×aD->L2.St->Hp->Prop:=fun i σ H'=>∃v sg,σ=[some (.ref R.r),some v,sg]/\au a K b R i.2.1 d (lst i.2.2) H'/\aJ R H H'/\bc .prod d (ae b p e)=bc (.prodRest i.1) d (ae b i.2.1 i.2.2)/\dv i.1+(toks b i.2.1).length<(toks b p).length/\Node a n 2 H H' v i.1
 let μ:aQ×Nat×aD->Nat:=fun i=>(toks b i.2.1).length
 refine gp I μ (x,p1,e1) ⟨v,none,rfl,hR1,kp1,h1,DM hS,.inl md1⟩ ?_
 rintro⟨x,p1,e1⟩ σ H2 ⟨v,sg,rfl,hR2,kp2,h2,ho,nd⟩
 dsimp only at hR2 h2 ho nd
 refine zr (e:=e1) T rfl hR2 hT (fun k pl hb=>by rw[h2];exact o8 (Bc hb x d) hb) fun nb H3 hR3 kp3=>?_
 rw[Qk (e:=e1)]
 rw[Hm]at h2
 have nd3:=nd.keep (b:=b) hR.cells kp3
 refine aX (fun c=>?_) (fun c=>?_)
 ·rw[if_pos c,cV (uO c)]at h2
  refine fZ (I:=I) (μ:=μ) (i:=(x,p1,e1)) ?_
  refine(rM rfl hR3.ins rfl ?_)
  refine jB hR3 nb fun H4 y hR4 kp4 tk4=>?_
  obtain⟨dt,ft,et,lt1,lt2,lt3,lt4,lt5⟩:=tk4
  rw[JK c]at lt2
  refine(rG rfl et T.bx.cl T.cf lt2 (eX _ rfl (eX _ rfl (eX _ rfl ?_))))
  refine cv hR4 hd hm hT h2 (fun x s k pl hb=>o8 (Bc hb _ d) hb) fun x' p2 e2 hS2 h3 H5 w5 hR5 kp5 md5=>?_
  have kp04:=(kp2.trans kp3).trans kp4
  have l1:=DM hS2
  have l2:=pB (uO c)
  have l1:dv x'+(toks b p2).length<(toks b (aA b p1)).length:=l1
  have sz:=qv hR.len p
  refine FJ (p:=(ae b p1 e1).place) Pt (nd3.keep (b:=b) hR.cells kp4) hR (kp04.grow hR4.cells) kp5 (kp5.grow hR5.cells) md5 (by lia) fun H6 v6 q6 lc nd6=>?_
  refine⟨(_,p2,e2),?_,v6,eX _ rfl ⟨hR5.bV hR lc,(kp04.trans kp5).bV lc,h3,?_,nd6⟩⟩
  ·show(toks b p2).length<(toks b p1).length
   lia
  ·show dv x+dv x'+1+(toks b p2).length<(toks b p).length
   lia
 ·rw[if_neg c]at h2
  exact(eX _ rfl (kk _ _ _ h2 H3 v hR3 (kp2.trans kp3) nd3.up))
end Wale
end
section
set_option Elab.async false
set_option linter.all false
set_option maxRecDepth 100000
set_option maxHeartbeats 2000000
namespace Wale
open PySem PySem.Spec PyProof.Rows L2
open Wm
open LsWale (ascii Fault eatSign eatWord eatOpen anyName newName oldName markName holdName wanted isName)
variable {P:Program}{w:World}{K:PySem.W.Frag}{mg:Str->Option Value}{base:Heap}{a:Ad}
theorem uY:aI ["reader","node","sign"] ["reader"] (aC xZ):=⟨rfl,rfl,rfl,by decide +kernel,rfl,by decide +kernel,by decide +kernel⟩
theorem Km(T:Tx P w K mg a){k m n:Nat}(hk:9<=k)(F:da P w K mg base a k a.oE a.oi m (b5 a n) (bc .prod)):da P w K mg base a (k+1) a.lL a.lj m (b5 a (n+1)) (bc .sum):=by
 refine aG.bz (k:=k) T.jz.fn uY fJ (fun cdv A outer s H vs Q E hr h=>?_)
 obtain⟨b,R,p,d,e,rfl,hR,hd,hm,hT,kk⟩:=fV h
 have C:=T.bL.cl
 refine⟨_,aj (a3 (i:=1) uY.nd rfl (Or.inl rfl) (aN T.xU F hr aw (aa (pv 0) ag)))
  (aj (gN iD (a5 rn (aE (cH (pv 0) C T.cj.mt (iE T) (hr.mono (by first|decide|lia)) T.cj.bd .nil aw) rfl) (kH (aa aT (aa aT ag))) (by rfl)) (aj (a3 (i:=2) uY.nd rfl (Or.inl rfl) (aE (cH (pv 0) C T.cW.mt (jv T) (hr.mono (by first|decide|lia)) T.cW.bd .nil aw) rfl))
   (ak (a3 (i:=1) uY.nd rfl (Or.inl rfl) (aN T.zh (FA T n) (hr.mono (by first|decide|lia)) aU (aa (cT T.Mh) (aa (pv 1) (aa (pv 2) (aa (aN T.xU F hr aw (aa (pv 0) ag)) ag)))))))))
  (ak (aF (pv 1)))),?_⟩
 refine(eX _ rfl ?_)
 refine cv hR hd hm hT (Ic d _) (fun x s k pl hb=>o8 (xo hb x d) hb) fun x p1 e1 hS h1 H1 v hR1 kp1 md1=>?_
 let I:aQ×Nat×aD->L2.St->Hp->Prop:=fun i σ H'=>∃v sg,σ=[some (.ref R.r),some v,sg]/\au a K b R i.2.1 d (lst i.2.2) H'/\aJ R H H'/\bc .sum d (ae b p e)=bc (.sumRest i.1) d (ae b i.2.1 i.2.2)/\dv i.1+(toks b i.2.1).length<(toks b p).length/\Node a n 1 H H' v i.1
 let μ:aQ×Nat×aD->Nat:=fun i=>(toks b i.2.1).length
 refine gp I μ (x,p1,e1) ⟨v,none,rfl,hR1,kp1,h1,E6 hS,.inl md1⟩ ?_
 rintro⟨x,p1,e1⟩ σ H2 ⟨v,sg,rfl,hR2,kp2,h2,ho,nd⟩
 dsimp only at hR2 h2 ho nd
 refine zr (e:=e1) T rfl hR2 hT (fun k pl hb=>by rw[h2];exact o8 (xo hb x d) hb) fun nb H3 hR3 kp3=>?_
 rw[LU (e:=e1)]
 rw[EZ]at h2
 have nd3:=nd.keep (b:=b) hR.cells kp3
 refine aX (fun c=>?_) (fun c=>?_)
 ·rw[if_pos c,cV (uO c)]at h2
  refine fZ (I:=I) (μ:=μ) (i:=(x,p1,e1)) ?_
  refine(rM rfl hR3.ins rfl ?_)
  refine jB hR3 nb fun H4 y hR4 kp4 tk4=>?_
  obtain⟨dt,ft,et,lt1,lt2,lt3,lt4,lt5⟩:=tk4
  rw[JG c]at lt2
  refine(rG rfl et T.bx.cl T.cf lt2 (eX _ rfl (eX _ rfl (eX _ rfl ?_))))
  refine cv hR4 hd hm hT h2 (fun x s k pl hb=>o8 (xo hb _ d) hb) fun x' p2 e2 hS2 h3 H5 w5 hR5 kp5 md5=>?_
  have kp04:=(kp2.trans kp3).trans kp4
  have l1:=E6 hS2
  have l2:=pB (uO c)
  have l1:dv x'+(toks b p2).length<(toks b (aA b p1)).length:=l1
  have sz:=qv hR.len p
  refine FJ (p:=(ae b p1 e1).place) Ot (nd3.keep (b:=b) hR.cells kp4) hR (kp04.grow hR4.cells) kp5 (kp5.grow hR5.cells) md5 (by lia) fun H6 v6 q6 lc nd6=>?_
  refine⟨(_,p2,e2),?_,v6,eX _ rfl ⟨hR5.bV hR lc,(kp04.trans kp5).bV lc,h3,?_,nd6⟩⟩
  ·show(toks b p2).length<(toks b p1).length
   lia
  ·show dv x+dv x'+1+(toks b p2).length<(toks b p).length
   lia
 ·rw[if_neg c]at h2
  exact(eX _ rfl (kk _ _ _ h2 H3 v hR3 (kp2.trans kp3) nd3.up))
theorem j8(T:Tx P w K mg a):∀m,da P w K mg base a (10+3*m) a.lL a.lj m (b5 a (2*m)) (bc .sum)
 |0=>xF
 |m+1=>Km T (k:=10+3*m+1+1) (by lia) (NJ T (by lia) (QS T (j8 T m)))
def Q0(a:Ad):Sp:=fun vs H Q _=>∃(b:Bytes)(p:Nat)(x:Addr),vs=[.ref x]/\di a b p H x/\cI b p/\Q (.bl (ae b p .none_).sums) H
theorem QX:aI ["token"] ["token"] (aC xJ):=⟨rfl,rfl,rfl,by decide +kernel,rfl,by decide +kernel,by decide +kernel⟩
theorem Cw(b:Bytes)(p:Nat)(e e':aD):(ae b p e).sums=(ae b p e').sums:=by rw[uy,uy]
theorem HU{b:Bytes}{p:Nat}(nb:cI b p):(ae b p .none_).sums=(decide (fE (aq b p)=("number":Str))||(decide (fE (aq b p)=("name":Str))||decide (bq (aq b p)=("(":Str)))):=by
 have h1:decide (bq (aq b p)=("(":Str))=(ae b p .none_).isSign '(':=by
  rw[Bool.eq_iff_iff,decide_eq_true_eq]
  exact(fj (by decide +kernel)).trans (g9 b p .none_ (c:='(') (by decide +kernel))
 rw[h1,uy]
 cases q:aq b p with
 |bad k=>exact absurd q (nb k)
 |num n=>rfl
 |word x=>
  rw[gg,q]
  show isName x=(decide (dQ x=("number":Str))||(decide (dQ x=("name":Str))||false))
  unfold dQ
  by_cases h:isName x=true
  ·rw[if_pos h,h];decide +kernel
  ·rw[if_neg h,Bool.eq_false_iff.mpr h];decide +kernel
 |sign c=>
  rw[gg,q]
  show _=(decide (("fixed":Str)="number")||(decide (("fixed":Str)="name")||_))
  rw[show decide (("fixed":Str)="number")=false by decide +kernel,show decide (("fixed":Str)="name")=false by decide +kernel]
  rfl
 |done=>
  rw[gg,q]
  show _=(decide (("end":Str)="number")||(decide (("end":Str)="name")||_))
  rw[show decide (("end":Str)="number")=false by decide +kernel,show decide (("end":Str)="name")=false by decide +kernel]
  rfl
theorem Fk(T:Tx P w K mg a):ax P w K mg base aV 1 a.sA a.qj ["token"] (Q0 a):=by
 refine T.yZ.fn.ok QX (fun vs H Q E h=>?_) (fun cdv A outer s H vs Q E hr h=>?_)
 ·obtain⟨_,_,_,rfl,_⟩:=h;rfl
 obtain⟨b,p,x,rfl,tk,nb,q⟩:=h
 refine⟨_,ak (aF (va (gO cp (aE (pv 0) rfl) (bH T.uA) (aZ _)) (va (gO cp (aE (pv 0) rfl) (bH T.ke) (aZ _)) (gY (gO cp (aE (pv 0) rfl) aT (aZ _)))))),?_⟩
 obtain⟨dt,ft,et,lt1,lt2,lt3,lt4,lt5⟩:=tk
 rw[HU nb]at q
 have cl:=T.bx.cl
 refine(rF rfl et cl T.kE lt1 ⟨rfl,eX _ rfl ?_⟩)
 rw[cN]
 refine aX (fun c=>?_) (fun c=>?_)
 ·rw[c]at q;exact q
 rw[Bool.eq_false_iff.mpr c,Bool.false_or]at q
 refine(rF rfl et cl T.kE lt1 ⟨rfl,eX _ rfl ?_⟩)
 rw[cN]
 refine aX (fun c=>?_) (fun c=>?_)
 ·rw[c]at q;exact q
 rw[Bool.eq_false_iff.mpr c,Bool.false_or]at q
 refine(rF rfl et cl T.cf lt2 ⟨rfl,?_⟩)
 rw[cN]
 exact q
section
variable {α β:Type}{b:Bytes}{R:RA}{p d m:Nat}{L:NL}{e:aD}{H:Hp}{Q:VK}{E:XK}{r:Except Fault (α×ah)}
theorem EU(b:Bytes)(p:Nat)(e:aD):LsWale.wideAt (ae b p e)=match aq b p with
  | .num n=>if 1<=n/\n<=16 then .ok (n,ae b (aA b p) e)else .error ⟨6,aP b p⟩
  |_=>wanted (ae b p e):=by
 unfold LsWale.wideAt
 rw[eg]
 cases q:aq b p with
 |num n=>
  dsimp only
  rw[cV (by rw[q];rfl)];rfl
 |_=>rfl
end
def OJ:Rep Nat:=fun _ _ v n=>v=.int (n:Int)
theorem Cc:aI ["reader","token"] ["reader"] (aC Bf):=⟨rfl,rfl,rfl,by decide +kernel,rfl,by decide +kernel,by decide +kernel⟩
theorem E9(T:Tx P w K mg a):da P w K mg base a 10 a.rO a.pR 9 OJ (fun _=>LsWale.wideAt):=by
 refine aG.bz (k:=9) T.zy.fn Cc fJ (fun cdv A outer s H vs Q E hr h=>?_)
 obtain⟨b,R,p,d,e,rfl,hR,hd,hm,hT,kk⟩:=fV h
 have C:=T.bL.cl
 refine⟨_,aj (a3 (i:=1) Cc.nd rfl (Or.inl rfl) ((a0 (pv 0) C T.f7.mt (yJ T) (hr.mono (by first|decide|lia)) T.f7.bd .nil aw (aa (bH T.uA) ag))))
  (aj (a4 (PW.pt (iM (a5 lp (aE (pv 1) rfl) bF (aZ _)) (iK (a5 jO (aE (pv 1) rfl) (cT T.LI) (aZ _)))))
   (ak (fB rfl fD T.jY (v9 T) T.ra.2 (hr.mono (by first|decide|lia)) (aE (pv 1) rfl))) ba) (ak (aF (aE (pv 1) rfl)))),?_⟩
 refine(rM rfl hR.ins rfl ?_)
 refine Ca hR (hT.bt (e:=e) fun k pl hb=>.inl (NN hb)) (fun nb hk H1 x hR1 kp1 tk1=>?_) (fun nb hk=>?_)
 ·obtain⟨n,hn⟩:=uU.mp hk
  have hw:=EU b p e
  rw[hn]at hw
  dsimp only at hw
  obtain⟨dt,ft,et,lt1,lt2,lt3,lt4,lt5⟩:=tk1
  have cl:=T.bx.cl
  have lt3':ft.lookup ("number":Str)=some (V.int (n:Int)):=by rw[lt3,hn];rfl
  have bad:∀lo,¬(1<=n/\n<=16)->nN lo K a.mG E 6 (mP K (bI 1) "place") {nx:=fun _ H'=>Q .ay H',rt:=Q} [some (.ref R.r),some (.ref x)] H1:=fun lo hn2=>by
   rw[if_neg hn2]at hw
   exact(rF rfl et cl T.ig lt4 (eR T.jY (hT.err hw)))
  refine(rF rfl et cl T.qt lt3' ⟨_,eX _ rfl ⟨rfl,eX _ rfl ?_⟩⟩)
  refine aX (fun c=>?_) (fun c=>?_)
  ·exact bu (bad _ fun z=>by have:=of_decide_eq_true c;lia)
  ·refine(rF rfl et cl T.qt lt3' ⟨_,eX _ rfl ⟨rfl,eX _ rfl ?_⟩⟩)
   refine aX (fun c2=>?_) (fun c2=>?_)
   ·exact bad _ fun z=>by have:=of_decide_eq_true c2;lia
   ·rw[if_pos (by
     have h1:¬((n:Int)<1):=fun z=>c (decide_eq_true z)
     have h2:¬((16:Int)<n):=fun z=>c2 (decide_eq_true z)
     lia)]at hw
    exact(rF rfl et cl T.qt lt3' (kk _ _ _ hw H1 _ hR1 kp1 ⟨fun _=>False,rfl,fun _ z=>z.elim⟩))
 ·refine hT.err ?_
  rw[EU]
  cases q:aq b p with
  |num n=>exact absurd (uU.mpr ⟨n,q⟩) hk
  |bad k=>exact absurd q (nb k)
  |_=>exact fK nb
end Wale
end
section
set_option linter.all false
namespace Wm
open LsWale
def jg:Bytes->Bool
 |c::_=>isLetter c
 |[]=>false
def A2:Tok->Prop
 | .word b=>jg b=true
 |_=>True
def cw(s:St):Prop:=∀t∈s.ts,A2 t.tok
def Nm(n:Bytes):Prop:=isName n=true/\jg n=true
def bZ{α:Type}(Q:α->Prop)(r:Except Fault (α×St)):Prop:=∀x s,r=.ok (x,s)->Q x/\cw s
def tG(r:Except Fault St):Prop:=∀s,r=.ok s->cw s
section
variable {α β:Type}{Q:α->Prop}{Q':β->Prop}{s:St}
theorem fL{e:Fault}:bZ Q (.error e:Except Fault (α×St)):=fun _ _ h=>by cases h
theorem gR:bZ Q (wanted s:Except Fault (α×St)):=by
 obtain⟨e,h⟩:=fX (α:=α×St) s
 rw[h];exact fL
theorem bB{x:α}(h:Q x)(a:cw s):bZ Q (.ok (x,s):Except Fault (α×St)):=fun _ _ e=>by cases e;exact⟨h,a⟩
theorem bZ.bind{r:Except Fault (α×St)}{f:α×St->Except Fault (β×St)}(h:bZ Q r)(k:∀x s,Q x->cw s->bZ Q' (f (x,s))):bZ Q' (r>>=f):=by
 cases r with
 |error e=>exact fL
 |ok p=>obtain⟨x,s⟩:=p;exact k x s (h x s rfl).1 (h x s rfl).2
theorem tG.bind{r:Except Fault St}{f:St->Except Fault (β×St)}(h:tG r)(k:∀s,cw s->bZ Q' (f s)):bZ Q' (r>>=f):=by
 cases r with
 |error e=>exact fL
 |ok s=>exact k s (h s rfl)
theorem cF{c:Prop}[Decidable c]{x y:Except Fault (α×St)}(h1:c->bZ Q x)(h2:¬c->bZ Q y):bZ Q (if c then x else y):=by
 by_cases h:c
 ·rw[if_pos h];exact h1 h
 ·rw[if_neg h];exact h2 h
theorem c8(a:cw s):cw s.next:=fun t h=>a t (List.mem_of_mem_drop h)
theorem ez(a:cw s)(c:Char):tG (eatSign c s):=fun t h=>by
 unfold eatSign at h
 by_cases q:s.isSign c=true
 ·rw[if_pos q]at h;cases h;exact c8 a
 ·rw[if_neg q]at h
  obtain⟨e,z⟩:=fX (α:=St) s
  rw[z]at h;cases h
theorem C7(a:cw s)(c:String):tG (eatWord c s):=fun t h=>by
 unfold eatWord at h
 by_cases q:s.isWord c=true
 ·rw[if_pos q]at h;cases h;exact c8 a
 ·rw[if_neg q]at h
  obtain⟨e,z⟩:=fX (α:=St) s
  rw[z]at h;cases h
theorem v5(a:cw s)(c:Char)(d:Nat):tG (eatOpen c d s):=fun t h=>by
 unfold eatOpen at h
 obtain⟨e,z⟩:=fX (α:=St) s
 rw[z]at h
 split at h
 ·cases h
 ·split at h
  ·cases h
  ·cases h;exact c8 a
theorem tN(a:cw s):bZ Nm (anyName s):=by
 unfold anyName
 split
 ·rename_i p b r e
  refine cF (fun h=>bB ⟨h,?_⟩ (c8 a)) fun _=>gR
  exact a ⟨p,.word b⟩ (by rw[e];exact List.mem_cons_self ..)
 ·exact gR
theorem wk(a:cw s)(k m:Nat)(l:List Bytes):bZ Nm (newName k m s l):=by
 unfold newName
 refine(tN a).bind fun x t hx ht=>?_
 dsimp only
 split
 ·exact fL
 ·refine cF (fun _=>fL) fun _=>bB hx ht
theorem vB(a:cw s)(l:List Bytes):bZ Nm (oldName l s):=by
 unfold oldName
 refine(tN a).bind fun x t hx ht=>?_
 dsimp only
 split
 ·exact fL
 ·exact bB hx ht
theorem t8(a:cw s):bZ Nm (markName s):=by
 unfold markName
 refine(tN a).bind fun x t hx ht=>?_
 dsimp only
 split
 ·exact bB hx ht
 ·split
  ·exact fL
  ·exact bB hx ht
theorem Gd(a:cw s):bZ Nm (holdName s):=by
 unfold holdName
 refine(tN a).bind fun x t hx ht=>?_
 dsimp only
 split
 ·exact bB hx ht
 ·split
  ·exact fL
  ·exact bB hx ht
end
def dS:Sum->Prop
 | .num _=>True
 | .name _ n=>Nm n
 | .op _ _ x y=>dS x/\dS y
def JJ:Level->Prop
 | .sumRest x=>dS x
 | .prodRest x=>dS x
 |_=>True
theorem fh:∀(f:Nat)(lv:Level)(d:Nat)(s:St),cw s->JJ lv->bZ dS (sumAt f lv d s)
 |0,_,_,s,a,_=>by rw[sumAt];exact gR
 |f+1,.sum,d,s,a,_=>by
  rw[sumAt]
  exact(fh f .prod d s a trivial).bind fun x t hx ht=>fh f (.sumRest x) d t ht hx
 |f+1,.sumRest x,d,s,a,h=>by
  rw[sumAt]
  exact cF (fun _=>(fh f .prod d s.next (c8 a) trivial).bind fun y t hy ht=>fh f _ d t ht ⟨h,hy⟩) fun _=>bB h a
 |f+1,.prod,d,s,a,_=>by
  rw[sumAt]
  exact(fh f .fact d s a trivial).bind fun x t hx ht=>fh f (.prodRest x) d t ht hx
 |f+1,.prodRest x,d,s,a,h=>by
  rw[sumAt]
  exact cF (fun _=>(fh f .fact d s.next (c8 a) trivial).bind fun y t hy ht=>fh f _ d t ht ⟨h,hy⟩) fun _=>bB h a
 |f+1,.fact,d,s,a,_=>by
  rw[sumAt]
  split
  ·exact bB trivial (c8 a)
  ·exact(vB a _).bind fun x t hx ht=>bB hx ht
  ·exact(v5 a _ _).bind fun t ht=>(fh f .sum (d+1) t ht trivial).bind fun x u hx hu=>(ez hu _).bind fun v hv=>bB hx hv
def qy:Reach->Prop
 | .times s=>dS s
 | .to_ (.last s)=>dS s
 |_=>True
theorem DT{f d:Nat}{s:St}(a:cw s):bZ qy (reachAt f d s):=by
 unfold reachAt
 refine cF (fun _=>?_) fun _=>?_
 ·refine cF (fun _=>bB trivial (c8 (c8 a))) fun _=>cF (fun _=>?_) fun _=>?_
  ·exact(fh f .sum d _ (c8 (c8 a)) trivial).bind fun x t hx ht=>bB hx ht
  ·exact(C7 (c8 a) _).bind fun t ht=>(t8 ht).bind fun x u hx hu=>bB trivial hu
 ·exact cF (fun _=>(fh f .sum d s a trivial).bind fun x t hx ht=>bB hx ht) fun _=>bB trivial a
def qm:Unit_->Prop
 | .plain w=>w<23
 | .cable _ n m=>n<=16/\m<=16
 | .hold _=>True
 | .word n=>Nm n
theorem FI{s:St}(a:cw s):bZ (fun n=>n<=16) (wideAt s):=by
 unfold wideAt
 split
 ·exact cF (fun h=>bB h.2 (c8 a)) fun _=>fL
 ·exact gR
theorem MF{s:St}(a:cw s):bZ qm (unitAt s):=by
 unfold unitAt
 split
 ·split
  ·rename_i k hk
   refine bB ?_ (c8 a)
   obtain⟨hl,_⟩:=List.findIdx?_eq_some_iff_getElem.mp hk
   exact hl
  ·refine cF (fun _=>?_) fun _=>cF (fun _=>?_) fun _=>?_
   ·exact(FI (c8 a)).bind fun n t hn ht=>(ez ht _).bind fun u hu=>(FI hu).bind fun m v hm hv=>bB ⟨hn,hm⟩ hv
   ·exact(Gd (c8 a)).bind fun n t hn ht=>bB trivial ht
   ·exact(vB a _).bind fun n t hn ht=>bB hn ht
 ·exact gR
theorem ny{α β:Type}{Q:α->Prop}{Q':β->Prop}{r:Except Fault (α×St)}{g:α->β}(h:bZ Q r)(k:∀x,Q x->Q' (g x)):bZ Q' (r.map fun y=>(g y.1,y.2)):=by
 cases r with
 |error e=>exact fL
 |ok p=>obtain⟨x,s⟩:=p;exact bB (k x (h x s rfl).1) (h x s rfl).2
theorem Q6{s:St}{g:Except Fault (Lone×St)}(a:cw s)(h:loneAt s=some g):bZ (fun _=>True) g:=by
 have a1:=c8 a
 unfold loneAt at h
 split at h
 ·cases h;exact ny (Gd a1) fun _ _=>trivial
 split at h
 ·cases h;exact ny (vB a1 _) fun _ _=>trivial
 split at h
 ·cases h;exact ny (t8 a1) fun _ _=>trivial
 split at h
 ·cases h;exact ny (t8 a1) fun _ _=>trivial
 split at h
 ·cases h;exact ny (t8 a1) fun _ _=>trivial
 split at h
 ·cases h;exact bB trivial a1
 split at h
 ·cases h;exact bB trivial a1
 cases h
def gQ:Items->Prop
 | .nil=>True
 | .one _ u r rest=>qm u/\qy r/\gQ rest
 | .group _ i r rest=>gQ i/\qy r/\gQ rest
 | .lone _ _ rest=>gQ rest
theorem wA:∀(f d:Nat)(s:St),cw s->bZ gQ (itemsAt f d s)
 |0,_,s,a=>by rw[itemsAt];exact gR
 |f+1,d,s,a=>by
  rw[itemsAt]
  refine bZ.bind (Q:=fun k=>∀rest,gQ rest->gQ (k rest)) ?_ fun k t hk ht=>?_
  ·split
   ·rename_i g hg
    exact ny (Q6 a hg) fun x _ rest hr=>hr
   ·refine cF (fun _=>?_) fun _=>?_
    ·exact(v5 a _ _).bind fun t ht=>(wA f (d+1) t ht).bind fun l u hl hu=>(ez hu _).bind fun v hv=>(DT hv).bind fun r w hr hw=>bB (fun rest h=>⟨hl,hr,h⟩) hw
    ·exact(MF a).bind fun u t hu ht=>(DT ht).bind fun r w hr hw=>bB (fun rest h=>⟨hu,hr,h⟩) hw
  ·exact cF (fun _=>(wA f d t.next (c8 ht)).bind fun l u hl hu=>bB (hk l hl) hu) fun _=>bB (hk .nil trivial) ht
def By:Option Sum->Prop
 |some s=>dS s
 |none=>True
def eV:Stats->Prop
 | .nil=>True
 | .on _ s _ r=>dS s/\eV r
 | .row _ _ l r=>gQ l/\eV r
 | .again _ s i r=>dS s/\eV i/\eV r
 | .until_ _ s i r=>dS s/\eV i/\eV r
 | .work _ _ s r=>By s/\eV r
 | .off _ r=>eV r
theorem jw:∀(f d:Nat)(s:St),cw s->bZ eV (statsAt f d s)
 |0,_,s,a=>by rw[statsAt];exact gR
 |f+1,d,s,a=>by
  have a1:=c8 a
  have ai:∀{c:Prop}[Decidable c]{x y:St},cw x->cw y->cw (if c then x else y):=fun{c _ x y}hx hy=>by
   by_cases h:c
   ·rw[if_pos h];exact hx
   ·rw[if_neg h];exact hy
  rw[statsAt]
  dsimp only
  refine cF (fun _=>?_) fun _=>cF (fun _=>?_) fun _=>cF (fun _=>?_) fun _=>cF (fun _=>?_) fun _=>cF (fun _=>?_) fun _=>bB trivial a
  ·exact(fh f .sum d _ a1 trivial).bind fun x t hx ht=>(ez (ai (c8 ht) ht) _).bind fun u hu=>(jw f d u hu).bind fun r v hr hv=>bB ⟨hx,hr⟩ hv
  ·exact(wA f d _ (ai (c8 a1) a1)).bind fun x t hx ht=>(ez ht _).bind fun u hu=>(jw f d u hu).bind fun r v hr hv=>bB ⟨hx,hr⟩ hv
  ·refine(fh f .sum d _ a1 trivial).bind fun x t hx ht=>(v5 ht _ _).bind fun u hu=>(jw f (d+1) u hu).bind fun i v hi hv=>(ez hv _).bind fun w hw=>(jw f d w hw).bind fun r z hr hz=>bB ?_ hz
   by_cases h:s.isWord "repeat"=true
   ·rw[if_pos h];exact⟨hx,hi,hr⟩
   ·rw[if_neg h];exact⟨hx,hi,hr⟩
  ·refine(vB a1 _).bind fun x t hx ht=>cF (fun _=>?_) fun _=>?_
   ·exact(fh f .sum d t ht trivial).bind fun y u hy hu=>(ez hu _).bind fun v hv=>(jw f d v hv).bind fun r w hr hw=>bB ⟨hy,hr⟩ hw
   ·exact(ez ht _).bind fun v hv=>(jw f d v hv).bind fun r w hr hw=>bB ⟨trivial,hr⟩ hw
  ·exact(ez a1 _).bind fun v hv=>(jw f d v hv).bind fun r w hr hw=>bB hr hw
theorem wV:∀(f m:Nat)(l:List Bytes)(s:St),cw s->bZ (fun _=>True) (namesAt f m l s)
 |0,_,_,s,a=>by rw[namesAt];exact gR
 |f+1,m,l,s,a=>by
  rw[namesAt]
  exact(wk a _ _ _).bind fun x t hx ht=>cF (fun _=>wV f m _ _ (c8 ht)) fun _=>bB trivial ht
theorem Gs:∀(f:Nat)(s:St),cw s->bZ (fun l=>∀x∈l,dS x) (sumsAt f s)
 |0,s,a=>by rw[sumsAt];exact gR
 |f+1,s,a=>by
  rw[sumsAt]
  refine(fh f .sum 0 s a trivial).bind fun x t hx ht=>cF (fun _=>(Gs f _ (c8 ht)).bind fun l u hl hu=>bB (fun y hy=>?_) hu) fun _=>bB (fun y hy=>?_) ht
  ·rcases List.mem_cons.mp hy with rfl|hy
   ·exact hx
   ·exact hl y hy
  ·rw[List.mem_singleton.mp hy];exact hx
def gi:Head->Prop
 | .let_ _ l=>∀x∈l,dS x
 | .word _ l=>gQ l
 | .block _ l=>eV l
 |_=>True
theorem Ki{h:Head}{l:List Head}(h1:gi h)(h2:∀x∈l,gi x):∀x∈h::l,gi x:=fun x hx=>by
 rcases List.mem_cons.mp hx with rfl|hx
 ·exact h1
 ·exact h2 x hx
theorem pW{f:Nat}{s:St}(e:Env){h:Head}(a:cw s)(ih:∀s,cw s->bZ (fun l=>∀x∈l,gi x) (headsAt f s))(wh:gi h):bZ (fun l=>∀x∈l,gi x) (headsAt f ⟨s.ts,e⟩>>=fun r=>.ok (h::r.1,r.2)):=
 bZ.bind (ih ⟨s.ts,e⟩ a) fun r v hr hv=>bB (Ki wh hr) hv
theorem mM:∀(f:Nat)(s:St),cw s->bZ (fun l=>∀x∈l,gi x) (headsAt f s)
 |0,s,a=>by rw[headsAt];exact gR
 |f+1,s,a=>by
  have a1:=c8 a
  rw[headsAt]
  refine cF (fun _=>?_) fun _=>cF (fun _=>?_) fun _=>cF (fun _=>?_) fun _=>cF (fun _=>?_) fun _=>cF (fun _=>?_) fun _=>bB (fun x hx=>by cases hx) a
  ·refine cF (fun _=>fL) fun _=>?_
   exact(wV f _ _ _ a1).bind fun x t _ ht=>(ez ht _).bind fun u hu=>pW (h:=.sizes x) _ hu (mM f) trivial
  ·refine cF (fun _=>fL) fun _=>?_
   exact(wV f _ _ _ a1).bind fun x t _ ht=>(ez ht _).bind fun u hu=>pW (h:=.yarns x) _ hu (mM f) trivial
  ·refine(wk a1 _ _ _).bind fun n t _ ht=>(ez ht _).bind fun u hu=>(Gs f _ hu).bind fun x v hx hv=>(ez hv _).bind fun w hw=>?_
   refine cF (fun _=>fL) fun _=>?_
   exact pW (h:=.let_ n x) _ hw (mM f) hx
  ·exact(wk a1 _ _ _).bind fun n t _ ht=>(ez ht _).bind fun u hu=>(wA f _ _ hu).bind fun x v hx hv=>(ez hv _).bind fun w hw=>pW (h:=.word n x) _ hw (mM f) hx
  ·exact(wk a1 _ _ _).bind fun n t _ ht=>(v5 ht _ _).bind fun u hu=>(jw f _ _ hu).bind fun x v hx hv=>(ez hv _).bind fun w hw=>pW (h:=.block n x) _ hw (mM f) hx
structure wC(p:Pattern):Prop where
 heads:∀h∈p.heads,gi h
 stats:eV p.stats
theorem Qj{c:UInt8}{r:Bytes}(h:isLetter c=true):jg (wordAt (c::r))=true:=by
 unfold wordAt
 split
 ·rename_i w hw
  have:=List.mem_of_find?_eq_some hw
  have q:DIGITWORDS.all jg=true:=by decide +kernel
  exact List.all_eq_true.mp q w this
 ·show jg (if isLetter c=true then c::List.takeWhile isTail r else[])=true
  rw[if_pos h];exact h
theorem Gk:∀(f p:Nat)(b:Bytes),∀t∈tokensFrom f p b,A2 t.tok
 |0,_,_,t,h=>by rw[tokensFrom]at h;cases h
 |f+1,p,b,t,h=>by
  rw[tokensFrom]at h
  rcases List.mem_cons.mp h with rfl|h
  ·show A2 (oneToken (b.drop (blanks false b))).1
   unfold oneToken
   split
   ·trivial
   ·rename_i c r e
    split
    ·rename_i hc
     show jg (wordAt (b.drop (blanks false b)))=true
     rw[e];exact Qj hc
    ·split
     ·split<;>trivial
     ·split<;>trivial
  ·split at h
   ·cases h
   ·cases h
   ·exact Gk f _ _ t h
theorem Ey{b:Bytes}{x:Pattern×Env}(h:readAll b=.ok x):wC x.1:=by
 unfold readAll at h
 split at h
 ·cases h
 have a:cw ⟨tokensOf b,.none_⟩:=Gk _ _ _
 have key:bZ wC (eatWord "pattern" ⟨tokensOf b,.none_⟩>>=fun s=>anyName s>>=fun n=>eatSign ';' n.2>>=fun t=>headsAt (8*b.length+64) t>>=fun h=>statsAt (8*b.length+64) 0 h.2>>=fun x=>match x.2.ts with
   |⟨_,.done⟩::_=>.ok (⟨n.1,h.1,x.1⟩,x.2)
   |_=>wanted x.2):=by
  refine(C7 a _).bind fun s hs=>(tN hs).bind fun n t hn ht=>(ez ht _).bind fun u hu=>(mM _ _ hu).bind fun l v hl hv=>(jw _ _ _ hv).bind fun z w hz hw=>?_
  split
  ·exact bB ⟨hl,hz⟩ hw
  ·exact gR
 have step:∀{α β:Type}{r:Except Fault α}{f:α->Except Fault β}{y:β},(r>>=f)=.ok y->∃z,r=.ok z/\f z=.ok y:=fun{α β r f y}q=>by
  cases r with
  |error f=>cases q
  |ok z=>exact⟨z,rfl,q⟩
 dsimp only at h
 obtain⟨s1,h1,h⟩:=step h
 obtain⟨n,h2,h⟩:=step h
 obtain⟨t,h3,h⟩:=step h
 obtain⟨hs,h4,h⟩:=step h
 obtain⟨y,h5,h⟩:=step h
 rw[h1,dw,h2,dw,h3,dw,h4,dw,h5,dw]at key
 split at h
 ·rename_i q
  cases h
  rw[q]at key
  exact(key _ _ rfl).1
 ·obtain⟨e,z⟩:=fX (α:=Pattern×Env) y.2
  rw[z]at h;cases h
end Wm
end
section
set_option linter.all false
namespace Wale
open Wm
open LsWale (ascii Bytes)
def norm:LsWale.Sum->LsWale.Sum
 | .num n=>.name 0 (LsWale.decimal n)
 | .name _ n=>.name 0 n
 | .op c _ x y=>.op c 0 (norm x) (norm y)
inductive PT where
 |tx (x:LsWale.Sum)
 |li (ps:List (List PT))
 |br (ps:List (List PT))
def tw(s:Bytes):PT:=.tx (.name 0 s)
def ts(s:Bytes)(x:LsWale.Sum):List PT:=[tw s,.tx (norm x)]
def t1(s:Bytes):List PT:=[tw s]
def t2(s t:Bytes):List PT:=[tw s,tw t]
def fq:LsWale.Reach->List PT
 | .once=>[]
 | .times s=>[.tx (norm s)]
 | .to_ .row=>t2 (ascii "to") (ascii "end")
 | .to_ (.last s)=>tw (ascii "to")::ts (ascii "last") s
 | .to_ (.mark n)=>tw (ascii "to")::t2 (ascii "mark") n
def lD:LsWale.Unit_->List PT
 | .plain w=>t1 (LsWale.PLAINS.getD w [])
 | .cable r n m=>t2 (ascii (if r=true then "cr" else "cl")) (LsWale.decimal n++47::LsWale.decimal m)
 | .hold n=>t2 (ascii "hold") n
 | .word n=>t1 n
def hW:LsWale.Lone->List PT
 | .take n=>t2 (ascii "take") n
 | .yarn n=>t2 (ascii "yarn") n
 | .mark n=>t2 (ascii "mark") n
 | .pass n=>t2 (ascii "pass") n
 | .clear n=>t2 (ascii "clear") n
 | .turn=>t1 (ascii "turn")
 | .fasten=>t1 (ascii "fasten")
def bY:LsWale.Items->List (List PT)
 | .nil=>[]
 | .one _ u r rest=>(lD u++fq r)::bY rest
 | .group _ i r rest=>(.br (bY i)::fq r)::bY rest
 | .lone _ x rest=>hW x::bY rest
inductive ST where
 |mk (ph:List PT) (body:Option (List ST))
def nQ:Option Bool->List PT
 |some true=>t1 (ascii "rs")
 |some false=>t1 (ascii "ws")
 |none=>[]
def sD(b:Bool):List PT:=if b=true then t1 (ascii "round")else[]
def lA:Option LsWale.Sum->List PT
 |some x=>[.tx (norm x)]
 |none=>[]
def bA:LsWale.Stats->List ST
 | .nil=>[]
 | .on _ s rd r=>.mk (ts (ascii "on") s++sD rd) none::bA r
 | .row _ sd l r=>.mk (tw (ascii "row")::(nQ sd++[.li (bY l)])) none::bA r
 | .again _ s i r=>.mk (ts (ascii "repeat") s) (some (bA i))::bA r
 | .until_ _ s i r=>.mk (ts (ascii "until") s) (some (bA i))::bA r
 | .work _ n s r=>.mk (t2 (ascii "work") n++lA s) none::bA r
 | .off _ r=>.mk (t1 (ascii "off")) none::bA r
def dO:LsWale.Head->ST
 | .sizes l=>.mk [tw (ascii "sizes"),.li (l.map t1)] none
 | .yarns l=>.mk [tw (ascii "yarns"),.li (l.map t1)] none
 | .let_ n l=>.mk [tw (ascii "let"),tw n,tw (ascii "="),.li (l.map fun x=>[.tx (norm x)])] none
 | .word n l=>.mk [tw (ascii "word"),tw n,tw (ascii "="),.li (bY l)] none
 | .block n l=>.mk (t2 (ascii "block") n) (some (bA l))
def jf(p:LsWale.Pattern):List ST:=.mk (t2 (ascii "pattern") p.name) none::(p.heads.map dO++bA p.stats)
end Wale
end
section
set_option Elab.async false
set_option linter.all false
set_option maxRecDepth 100000
set_option maxHeartbeats 2000000
namespace Wale
open PySem PySem.Spec PyProof.Rows L2
open Wm
open LsWale (ascii)
variable {P:Program}{w:World}{K:PySem.W.Frag}{mg:Str->Option Value}{base:Heap}{a:Ad}
theorem nX(x y:Bytes):strOf x++strOf y=strOf (x++y):=by
 show Str.mk ((x.map UInt8.toNat).toArray++(y.map UInt8.toNat).toArray)=Str.mk ((x++y).map UInt8.toNat).toArray
 rw[List.map_append]
 simp
theorem str_len(x:Bytes):(strOf x).length=x.length:=by
 show((x.map UInt8.toNat).toArray).size=_
 simp
theorem empty_app(x:Bytes):Str.empty++strOf x=strOf x:=by
 have:Str.empty=strOf []:=rfl
 rw[this,nX];rfl
def Jv(t1:TE)(z:Str)(t2:TE):TE:=fun σ H Q=>t1 σ H fun v1 H1=>∃n1:Int,v1=.int n1/\n1.natAbs.log2<1920/\(Str.empty++Str.ofString (toString n1)).length<=sizeLine/\((Str.empty++Str.ofString (toString n1))++z).length<=sizeLine/\
 t2 σ H1 fun v2 H2=>∃n2:Int,v2=.int n2/\n2.natAbs.log2<1920/\(((Str.empty++Str.ofString (toString n1))++z)++Str.ofString (toString n2)).length<=sizeLine/\Q (.str (((Str.empty++Str.ofString (toString n1))++z)++Str.ofString (toString n2))) H2
theorem Mm{X:Cx}{e1 e2:Expr}{t1 t2:TE}{z:Str}{k:Nat}{p1 p2 p3 pos:Pos}(h1:PE X e1 t1)(h2:PE X e2 t2):
  PE X (.JoinedStr [.FormattedValue e1 (-1) none p1,.Constant (.str z) k p2,.FormattedValue e2 (-1) none p3] pos) (Jv t1 z t2):=by
 intro pins s σ H Q I h
 refine wpAny_JoinedStr ?_
 show wpAny _ _ (eval (.FormattedValue e1 (-1) none p1) X.env) _ _ s
 refine wpAny_FormattedValue_plain (aH (h1 pins s σ H _ I h) fun u s1 hh1=>?_)
 obtain⟨v,H1,I1,r,n1,e,hd,l1,l2,q⟩:=hh1
 subst e
 obtain⟨t,rfl⟩:=r
 refine wpAny_formatField_int hd ⟨_,_,rfl,l1,?_⟩
 show wpAny _ _ (eval (.Constant (.str z) k p2) X.env) _ _ _
 refine Calls.Constant_str ⟨_,_,rfl,l2,?_⟩
 show wpAny _ _ (eval (.FormattedValue e2 (-1) none p3) X.env) _ _ _
 refine wpAny_FormattedValue_plain (aH (h2 pins _ σ H1 _ ((I1.tok _).tok _) q) fun u s2 hh2=>?_)
 obtain⟨v,H2,I2,r,n2,e,hd,l3,q⟩:=hh2
 subst e
 obtain⟨t,rfl⟩:=r
 refine wpAny_formatField_int hd ⟨_,_,rfl,l3,l3,⟨.str _,H2,(I2.tok _).tok _,⟨_,rfl⟩,q⟩⟩
def mJ(a:Ad):Rep aQ:=fun H F v y=>∃x,b5 a 18 H F v x/\y=norm x
def fQ(a:Ad)(r:Rep PT):Rep (List (List PT)):=fun H F v ps=>∃(c dx:Addr)(lv:V),v=.ref c/\F c/\H c=some (.ins a.cy dx [("phrases",lv)])/\bM (bM r) H F lv ps
def vM(a:Ad)(r:Rep PT):Rep (List (List PT)):=fun H F v ps=>∃(c dx:Addr)(lv:V),v=.ref c/\F c/\H c=some (.ins a.cA dx [("listed",lv)])/\fQ a r H F lv ps
def cO(a:Ad):Nat->Rep PT
 |0=>fun H F v s=>∃x,mJ a H F v x/\s=.tx x
 |n+1=>fun H F v s=>(∃x,mJ a H F v x/\s=.tx x)\/(∃ps,fQ a (cO a n) H F v ps/\s=.li ps)\/∃ps,vM a (cO a n) H F v ps/\s=.br ps
theorem uc(a:Ad):Good (mJ a):=⟨fun⟨x,h,e⟩q=>⟨x,(dA a 18).frame h q,e⟩,fun⟨x,h,e⟩m=>⟨x,(dA a 18).mono h m,e⟩⟩
theorem lq{r:Rep PT}(G:Good r):Good (fQ a r) where
 frame:=by
  rintro H H' F v x ⟨c,dx,lv,rfl,h1,h2,h3⟩ e
  exact⟨c,dx,lv,rfl,h1,by rw[e c h1];exact h2,(bJ (bJ G)).frame h3 e⟩
 mono:=by
  rintro H F F' v x ⟨c,dx,lv,rfl,h1,h2,h3⟩ m
  exact⟨c,dx,lv,rfl,m c h1,h2,(bJ (bJ G)).mono h3 m⟩
theorem EJ{r:Rep PT}(G:Good r):Good (vM a r) where
 frame:=by
  rintro H H' F v x ⟨c,dx,lv,rfl,h1,h2,h3⟩ e
  exact⟨c,dx,lv,rfl,h1,by rw[e c h1];exact h2,(lq G).frame h3 e⟩
 mono:=by
  rintro H F F' v x ⟨c,dx,lv,rfl,h1,h2,h3⟩ m
  exact⟨c,dx,lv,rfl,m c h1,h2,(lq G).mono h3 m⟩
theorem cE(a:Ad):∀n,Good (cO a n)
 |0=>⟨fun⟨x,z,q⟩e=>⟨x,(uc a).frame z e,q⟩,fun⟨x,z,q⟩m=>⟨x,(uc a).mono z m,q⟩⟩
 |n+1=>
  ⟨fun h e=>h.elim (fun⟨x,z,q⟩=>.inl ⟨x,(uc a).frame z e,q⟩) fun h=>.inr (h.elim (fun⟨ps,z,q⟩=>.inl ⟨ps,(lq (cE a n)).frame z e,q⟩) fun⟨ps,z,q⟩=>.inr ⟨ps,(EJ (cE a n)).frame z e,q⟩),
   fun h m=>h.elim (fun⟨x,z,q⟩=>.inl ⟨x,(uc a).mono z m,q⟩) fun h=>.inr (h.elim (fun⟨ps,z,q⟩=>.inl ⟨ps,(lq (cE a n)).mono z m,q⟩) fun⟨ps,z,q⟩=>.inr ⟨ps,(EJ (cE a n)).mono z m,q⟩)⟩
theorem Cr(n:Nat){H:Hp}{F:Fp}{v:V}{x:aQ}(h:mJ a H F v x):cO a n H F v (.tx x):=by
 cases n with
 |zero=>exact⟨x,h,rfl⟩
 |succ n=>exact .inl ⟨x,h,rfl⟩
def bE(a:Ad)(n:Nat):Rep (List PT):=bM (cO a n)
theorem cK(a:Ad)(n:Nat):Good (bE a n):=bJ (cE a n)
theorem b8{n:Nat}{H0 H:Hp}(s:Bytes):Md (cO a n) H0 H (.str (strOf s)) (tw s):=⟨fun _=>False,Cr n ⟨.name 0 s,FT a 18 ⟨rfl,rfl⟩,rfl⟩,fun _ z=>z.elim⟩
theorem jG{n:Nat}{H0 H:Hp}{v:V}{x:aQ}(m:Md (b5 a 18) H0 H v x):Md (cO a n) H0 H v (.tx (norm x)):=m.map fun F h=>Cr n ⟨x,h,rfl⟩
def Gn(C:Addr)(f:Str):Sp:=fun vs H Q _=>∃(x dx:Addr)(u:V),vs=[.ref x,u]/\H x=some (.ins C dx [])/\∀H':Hp,H' x=some (.ins C dx [(f,u)])->(∀b o,H b=some o->b≠x->H' b=some o)->Q .ay H'
def N5(C:Addr)(f g:Str):Sp:=fun vs H Q _=>∃(x dx:Addr)(u t:V),vs=[.ref x,u,t]/\H x=some (.ins C dx [])/\∀H':Hp,H' x=some (.ins C dx [(f,u),(g,t)])->(∀b o,H b=some o->b≠x->H' b=some o)->Q .ay H'
theorem QU:aI ["self","phrases"] ["self","phrases"] (aC yC):=⟨rfl,rfl,rfl,by decide +kernel,rfl,by decide +kernel,by decide +kernel⟩
theorem MX:aI ["self","listed"] ["self","listed"] (aC BC):=⟨rfl,rfl,rfl,by decide +kernel,rfl,by decide +kernel,by decide +kernel⟩
theorem P6:aI ["self","phrase","body"] ["self","phrase","body"] (aC AN):=⟨rfl,rfl,rfl,by decide +kernel,rfl,by decide +kernel,by decide +kernel⟩
theorem zq(T:Tx P w K mg a):ax P w K mg base aV 1 a.kK a.mF ["self","phrases"] (Gn a.cy "phrases"):=by
 refine T.wa.1.ok QU (fun vs H Q E h=>?_) (fun cdv A outer s H vs Q E hr h=>?_)
 ·obtain⟨_,_,_,rfl,_⟩:=h;rfl
 obtain⟨x,dx,u,rfl,hx,q⟩:=h
 refine⟨_,ak (dg (pv 0) (pv 1) rfl),?_⟩
 exact(eX _ rfl (eX _ rfl ⟨x,_,dx,eX _ rfl ⟨hx,T.fg.cl,T.xa,(by show 0<1000;decide),q _ aB fun b o e hb=>by rw[ao hb];exact e⟩⟩))
theorem LZ(T:Tx P w K mg a):ax P w K mg base aV 1 a.lx a.nO ["self","listed"] (Gn a.cA "listed"):=by
 refine T.Hv.1.ok MX (fun vs H Q E h=>?_) (fun cdv A outer s H vs Q E hr h=>?_)
 ·obtain⟨_,_,_,rfl,_⟩:=h;rfl
 obtain⟨x,dx,u,rfl,hx,q⟩:=h
 refine⟨_,ak (dg (pv 0) (pv 1) rfl),?_⟩
 exact(eX _ rfl (eX _ rfl ⟨x,_,dx,eX _ rfl ⟨hx,T.gH.cl,T.wZ,(by show 0<1000;decide),q _ aB fun b o e hb=>by rw[ao hb];exact e⟩⟩))
theorem kh(T:Tx P w K mg a):ax P w K mg base aV 1 a.lN a.oN ["self","phrase","body"] (N5 a.dP "phrase" "body"):=by
 refine T.je.1.ok P6 (fun vs H Q E h=>?_) (fun cdv A outer s H vs Q E hr h=>?_)
 ·obtain⟨_,_,_,_,rfl,_⟩:=h;rfl
 obtain⟨x,dx,u,t,rfl,hx,q⟩:=h
 refine⟨_,aj (dg (pv 0) (pv 1) rfl) (ak (dg (pv 0) (pv 2) rfl)),?_⟩
 exact(eX _ rfl (eX _ rfl ⟨x,_,dx,eX _ rfl ⟨hx,T.dY.cl,T.A0,(by show 0<1000;decide),eX _ rfl (eX _ rfl ⟨x,_,dx,eX _ rfl ⟨aB,T.dY.cl,T.yS,(by show 1<1000;decide),q _ aB fun b o e hb=>by rw[ao hb,ao hb];exact e⟩⟩)⟩⟩))
theorem Md.listed{r:Rep PT}(G:Good r){H0 H H':Hp}{u:V}{ps:List (List PT)}{x dx:Addr}(m:Md (bM (bM r)) H0 H u ps)(g:cz H0 H)(s:aO H H')(n:H x=none)(e:H' x=some (.ins a.cy dx [("phrases",u)])):Md (fQ a r) H0 H' (.ref x) ps:=by
 obtain⟨F,h,sn⟩:=m.same (bJ (bJ G)) s
 refine⟨fun b=>b=x\/F b,⟨x,dx,u,rfl,.inl rfl,e,(bJ (bJ G)).mono h fun b hb=>.inr hb⟩,fun b hb=>?_⟩
 rcases hb with rfl|hb
 ·exact⟨g.none n,_,e⟩
 ·exact sn b hb
theorem Md.br{r:Rep PT}(G:Good r){H0 H H':Hp}{u:V}{ps:List (List PT)}{x dx:Addr}(m:Md (fQ a r) H0 H u ps)(g:cz H0 H)(s:aO H H')(n:H x=none)(e:H' x=some (.ins a.cA dx [("listed",u)])):Md (vM a r) H0 H' (.ref x) ps:=by
 obtain⟨F,h,sn⟩:=m.same (lq G) s
 refine⟨fun b=>b=x\/F b,⟨x,dx,u,rfl,.inl rfl,e,(lq G).mono h fun b hb=>.inr hb⟩,fun b hb=>?_⟩
 rcases hb with rfl|hb
 ·exact⟨g.none n,_,e⟩
 ·exact sn b hb
end Wale
end
section
set_option Elab.async false
set_option linter.all false
set_option maxRecDepth 100000
set_option maxHeartbeats 2000000
namespace Wale
open PySem PySem.Spec PyProof.Rows L2
open Wm
open LsWale (ascii Fault eatSign eatWord eatOpen anyName newName oldName markName holdName wanted isName)
variable {P:Program}{w:World}{K:PySem.W.Frag}{mg:Str->Option Value}{base:Heap}{a:Ad}
@[irreducible] def kc{α:Type}(K:PySem.W.Frag)(a:Ad)(m:Nat)(ρ:Rep α)(S:Nat->ah->Option (Except Fault (α×ah))):Sp:=fun vs H Q E=>∃(b:Bytes)(R:RA)(p d:Nat)(e:aD)(g:Except Fault (α×ah)),vs=[.ref R.r]/\au a K b R p d (lst e) H/\d<=8/\8<d+m/\
 S d (ae b p e)=some g/\Tl K a E g/\∀x p' e',g=.ok (x,ae b p' e')->∀(H':Hp)(v:V),au a K b R p' d (lst e') H'->aJ R H H'->Md ρ H H' v x->Q v H'
theorem xy{α:Type}{m:Nat}{ρ:Rep α}{S:Nat->ah->Option (Except Fault (α×ah))}(vs:List V)(H:Hp)(Q:VK)(E:XK)(h:kc K a m ρ S vs H Q E):vs.length=1:=by
 unfold kc at h
 obtain⟨_,_,_,_,_,_,rfl,_⟩:=h;rfl
theorem wW{α:Type}{m:Nat}{ρ:Rep α}{S:Nat->ah->Option (Except Fault (α×ah))}{vs:List V}{H:Hp}{Q:VK}{E:XK}(h:kc K a m ρ S vs H Q E):∃(b:Bytes)(R:RA)(p d:Nat)(e:aD)(g:Except Fault (α×ah)),vs=[.ref R.r]/\au a K b R p d (lst e) H/\d<=8/\8<d+m/\
 S d (ae b p e)=some g/\Tl K a E g/\∀x p' e',g=.ok (x,ae b p' e')->∀(H':Hp)(v:V),au a K b R p' d (lst e') H'->aJ R H H'->Md ρ H H' v x->Q v H':=by unfold kc at h;exact h
abbrev wu{α:Type}(P:Program)(w:World)(K:PySem.W.Frag)(mg:Str->Option Value)(base:Heap)(a:Ad)(k:Nat)(f:Addr)(fd:FuncData)(m:Nat)(ρ:Rep α)(S:Nat->ah->Option (Except Fault (α×ah))):Prop:=ax P w K mg base (bj P w) k f fd ["reader"] (kc K a m ρ S)
section
variable {α β:Type}{b:Bytes}{R:RA}{p d m:Nat}{L:NL}{e:aD}{H:Hp}{Q:VK}{E:XK}{r:Except Fault (α×ah)}
theorem Am{ρ:Rep β}{S:Nat->ah->Option (Except Fault (β×ah))}{g:Except Fault (β×ah)}{f:β×ah->Except Fault (α×ah)}(hR:au a K b R p d (lst e) H)(hd:d<=8)(hm:8<d+m)(hg:S d (ae b p e)=some g)(hT:Tl K a E r)(hr:r=g>>=f)(hB:∀x s k pl,HB s k pl->bN (f (x,s)) k pl)
  (kk:∀x p' e',g=.ok (x,ae b p' e')->r=f (x,ae b p' e')->∀(H':Hp)(v:V),au a K b R p' d (lst e') H'->aJ R H H'->Md ρ H H' v x->Q v H'):kc K a m ρ S [.ref R.r] H Q E:=by
 unfold kc
 exact⟨b,R,p,d,e,g,rfl,hR,hd,hm,hg,fun k pl h=>hT k pl (by rw[hr];exact h.bind fun x s hb=>hB x s k pl hb),fun x p' e' hS=>kk x p' e' hS (by rw[hr,hS];rfl)⟩
end
theorem fY{b:Bytes}{p:Nat}{z:Str}{c:String}(e:aD)(hz:z=strOf (ascii c):=by decide +kernel)(hc:jh c=true:=by decide +kernel):decide (bq (aq b p)=z)=(ae b p e).isWord c:=by
 rw[Bool.eq_iff_iff,decide_eq_true_eq]
 exact(fj hz).trans (lC b p e hc)
theorem nB{s:ah}{x y:String}(h:s.isWord x=true)(n:ascii x≠ascii y):s.isWord y=false:=by
 unfold LsWale.St.isWord at h ⊢
 cases q:s.ts with
 |nil=>rfl
 |cons t r=>
  rw[q]at h
  obtain⟨pl,tk⟩:=t
  cases tk with
  |word z=>
   have h:(z==ascii x)=true:=h
   rw[beq_iff_eq]at h
   show(z==ascii y)=false
   rw[h]
   exact beq_eq_false_iff_ne.mpr n
  |_=>rfl
theorem xP{b:Bytes}{p:Nat}{e:aD}(h:¬c7 (aq b p)=true)(x:String):(ae b p e).isWord x=false:=Bool.eq_false_iff.mpr fun z=>h (ki z)
theorem map_bind{α β:Type}(r:Except Fault α)(f:α->β):r.map f=r>>=fun x=>.ok (f x):=by cases r<;>rfl
def hG{α β:Type}(r:Rep β)(f:α->β):Rep α:=fun H F v x=>r H F v (f x)
theorem Hg{α β:Type}{r:Rep β}{f:α->β}(G:Good r):Good (hG r f):=⟨fun h e=>G.frame h e,fun h m=>G.mono h m⟩
def eD(a:Ad)(n:Nat):Rep (List PT):=fun H F v ph=>bE a n H F v ph/\ph.length<=4
theorem qU{n:Nat}{H0 H:Hp}{l:Addr}{v:V}{s:PT}(m:Md (cO a n) H0 H v s)(hl:H l=none)(g:cz H0 H):Md (eD a n) H0 (upd H l (.lst [v])) (.ref l) [s]:=
 (aK.list (cE a n) (aK.cons (cE a n) m aK.nil) hl g).map fun F h=>⟨h,(by show 1<=4;decide)⟩
theorem kJ{n:Nat}{H0 H:Hp}{l:Addr}{v u:V}{s t:PT}(m:Md (cO a n) H0 H v s)(m':Md (cO a n) H0 H u t)(hl:H l=none)(g:cz H0 H):Md (eD a n) H0 (upd H l (.lst [v,u])) (.ref l) [s,t]:=
 (aK.list (cE a n) (aK.cons (cE a n) m (aK.cons (cE a n) m' aK.nil)) hl g).map fun F h=>⟨h,(by show 2<=4;decide)⟩
theorem gj{b:Bytes}{p:Nat}{e:aD}{c:String}(h:(ae b p e).isWord c=true)(hc:jh c=true:=by decide +kernel):bq (aq b p)=strOf (ascii c):=by rw[nR,(lC b p e hc).mpr h]
def pV(_:Nat)(s:ah):Option (Except Fault ((Bool×Nat×Nat)×ah)):=if(s.isWord "cl"||s.isWord "cr")=true then some (LsWale.wideAt s.next>>=fun n=>eatSign '/' n.2>>=fun t=>LsWale.wideAt t>>=fun m=>.ok ((s.isWord "cr",n.1,m.1),m.2))else none
def sT(x:Bool×Nat×Nat):List PT:=lD (.cable x.1 x.2.1 x.2.2)
theorem vJ:aI ["reader","word","left","right"] ["reader"] (aC BJ):=⟨rfl,rfl,rfl,by decide +kernel,rfl,by decide +kernel,by decide +kernel⟩
theorem kX{α:Type}{s:ah}{k pl:Nat}{c:Char}{f:ah->Except Fault (α×ah)}(h:HB s k pl):bN (eatSign c s>>=f) k pl:=by rw[wB h];exact .inl rfl
theorem u7{b:Bytes}{p:Nat}{e:aD}{x y:String}(h:((ae b p e).isWord x||(ae b p e).isWord y)=true):c7 (aq b p)=true:=by
 rcases(Bool.or_eq_true _ _).mp h with h|h
 ·exact ki h
 ·exact ki h
theorem Hi{s t:ah}{n:Nat}(h:LsWale.wideAt s=.ok (n,t)):n<=16:=by
 unfold LsWale.wideAt at h
 split at h
 ·split at h
  ·rename_i q
   cases h
   exact q.2
  ·cases h
 ·exact absurd h (by unfold wanted;split<;>exact fun z=>nomatch z)
theorem Dk:∀n,n<=16->(LsWale.decimal n).length<=2:=by decide +kernel
theorem Oo(T:Tx P w K mg a)(N:Nat):wu P w K mg base a 11 a.pT a.rA 9 (hG (eD a N) sT) pV:=by
 refine aG.bz (k:=10) T.C1.fn vJ xy (fun cdv A outer s H vs Q E hr h=>?_)
 obtain⟨b,R,p,d,e,g,rfl,hR,hd,hm,hg,hT,kk⟩:=wW h
 have C:=T.bL.cl
 refine⟨_,aj (a3 (i:=1) vJ.nd rfl (Or.inl rfl) (aE (cH (pv 0) C T.cW.mt (jv T) (hr.mono (by first|decide|lia)) T.cW.bd .nil aw) rfl)) (aj (a3 (i:=2) vJ.nd rfl (Or.inl rfl) (aN T.zy (E9 T) hr aw (aa (pv 0) ag)))
  (aj (a9 (a0 (pv 0) C T.cX.mt (iT T) (hr.mono (by first|decide|lia)) T.cX.bd .nil aw (aa aT ag))) (aj (a3 (i:=3) vJ.nd rfl (Or.inl rfl) (aN T.zy (E9 T) hr aw (aa (pv 0) ag)))
  (ak (aF (bT (aa (pv 1) (aa (Mm (pv 2) (pv 3)) ag)))))))),?_⟩
 unfold pV at hg
 by_cases c:((ae b p e).isWord "cl"||(ae b p e).isWord "cr")=true
 ·rw[if_pos c]at hg
  have e0:=(Option.some.inj hg).symm
  rw[cV (u7 c)]at e0
  have hw:bq (aq b p)=strOf (ascii (if(ae b p e).isWord "cr"=true then "cr" else "cl")):=by
   by_cases c2:(ae b p e).isWord "cr"=true
   ·rw[if_pos c2];exact gj c2
   ·rw[if_neg c2];exact gj (((Bool.or_eq_true _ _).mp c).resolve_right c2)
  refine(rM rfl hR.ins rfl ?_)
  refine jB hR (vP (u7 c)) fun H1 y hR1 kp1 tk1=>?_
  obtain⟨dt,ft,et,lt1,lt2,lt3,lt4,lt5⟩:=tk1
  rw[hw]at lt2
  refine(rG rfl et T.bx.cl T.cf lt2 (eX _ rfl ?_))
  refine cv (S:=fun _=>LsWale.wideAt) hR1 hd hm hT e0 (fun x s k pl hb=>kX hb) fun n p2 e2 hS e3 H2 v2 hR2 kp2 md2=>?_
  obtain⟨_,ev2,-⟩:=md2
  cases (show v2=.int (n:Int)from ev2)
  refine(rM rfl hR2.ins rfl ?_)
  refine gU hR2 hT e3 (k:=fun e4 H3 y hR3 kp3 tk3=>(eX _ rfl ?_))
  refine cv (S:=fun _=>LsWale.wideAt) hR3 hd hm hT e4 (fun x s k pl hb=>dE hb) fun n' p4 e5 hS' e6 H4 v4 hR4 kp4 md4=>?_
  obtain⟨_,ev4,-⟩:=md4
  cases (show v4=.int (n':Int)from ev4)
  have h16:=Hi hS
  have h16':=Hi hS'
  have d1:=Dk n h16
  have d2:=Dk n' h16'
  have sz:sizeLine=16777216:=by decide
  have es:(Str.empty++Str.ofString (toString (n:Int)))=strOf (LsWale.decimal n):=by rw[lJ,empty_app]
  have eslash:("/":Str)=strOf [47]:=by decide +kernel
  refine(eX _ rfl (eX _ rfl (eX _ rfl ⟨yV (by lia),?_,?_,eX _ rfl (eX _ rfl ⟨yV (by lia),?_,(by show 2<=sizeLine;decide),fun l hl=>?_⟩)⟩)))
  ·rw[es,str_len];lia
  ·rw[es,eslash,nX,str_len,List.length_append];simp only[List.length_cons,List.length_nil];lia
  ·rw[es,eslash,nX,lJ,nX,str_len];simp only[List.length_append,List.length_cons,List.length_nil];lia
  have kp:=((kp1.trans kp2).trans kp3).trans kp4
  refine kk _ _ _ e6 _ _ (hR4.same (aS hl)) (kp.trans (bp (aS hl))) ?_
  rw[es,eslash,nX,lJ,nX]
  have m:=kJ (n:=N) (b8 (a:=a) (H0:=H) (H:=H4) (ascii (if(ae b p e).isWord "cr"=true then "cr" else "cl"))) (b8 (LsWale.decimal n++[47]++LsWale.decimal n')) hl (kp.grow hR4.cells)
  refine m.map fun F q=>?_
  show eD a N _ F _ (sT ((ae b p e).isWord "cr",n,n'))
  have et:sT ((ae b p e).isWord "cr",n,n')=[tw (ascii (if(ae b p e).isWord "cr"=true then "cr" else "cl")),tw (LsWale.decimal n++[47]++LsWale.decimal n')]:=by
   show[tw _,tw (LsWale.decimal n++47::LsWale.decimal n')]=_
   rw[List.append_assoc (LsWale.decimal n)];rfl
  rw[et]
  exact q
 ·rw[if_neg c]at hg;cases hg
def y2(_:Nat)(s:ah):Option (Except Fault (LsWale.Lone×ah)):=LsWale.loneAt s
theorem O5{b:Bytes}{p:Nat}{e:aD}{g:Except Fault (LsWale.Lone×ah)}(h:LsWale.loneAt (ae b p e)=some g):c7 (aq b p)=true:=by
 by_cases c:c7 (aq b p)=true
 ·exact c
 ·unfold LsWale.loneAt at h
  simp only[xP c]at h
  cases h
theorem D8:aI ["reader","word"] ["reader"] (aC Ai):=⟨rfl,rfl,rfl,by decide +kernel,rfl,by decide +kernel,by decide +kernel⟩
theorem LA{b:Bytes}{p:Nat}(e:aD):ee (.str (bq (aq b p))) [.str "mark",.str "pass",.str "clear"]=((ae b p e).isWord "mark"||((ae b p e).isWord "pass"||((ae b p e).isWord "clear"||false))):=
 in_words (b:=b) (p:=p) (e:=e) ["mark","pass","clear"] (l:=["mark","pass","clear"]) (by decide +kernel) (by decide +kernel)
theorem Ny(T:Tx P w K mg a)(N:Nat):wu P w K mg base a 11 a.pM a.tH 9 (hG (eD a N) hW) y2:=by
 refine aG.bz (k:=10) T.EW.fn D8 xy (fun cdv A outer s H vs Q E hr h=>?_)
 obtain⟨b,R,p,d,e,g,rfl,hR,hd,hm,hg,hT,kk⟩:=wW h
 have C:=T.bL.cl
 refine⟨_,aj (a3 (i:=1) D8.nd rfl (Or.inl rfl) (aE (cH (pv 0) C T.cW.mt (jv T) (hr.mono (by first|decide|lia)) T.cW.bd .nil aw) rfl))
  (aj (a4 (a5 cp (pv 1) aT (aZ _)) (ak (aF (bT (aa (pv 1) (aa ((a0 (pv 0) C T.iW.mt (uX T) (hr.mono (by first|decide|lia)) T.iW.bd .nil aw (aa (bH T.Fm) ag))) ag))))) ba)
  (aj (a4 (a5 cp (pv 1) aT (aZ _)) (ak (aF (bT (aa (pv 1) (aa ((a0 (pv 0) C T.jk.mt (wH T) (hr.mono (by first|decide|lia)) T.jk.bd .nil aw (aa (bH T.zS) ag))) ag))))) ba)
  (aj (a4 (a5 rn (pv 1) (kH (aa aT (aa aT (aa aT ag)))) (by rfl)) (ak (aF (bT (aa (pv 1) (aa ((a0 (pv 0) C T.iW.mt (uX T) (hr.mono (by first|decide|lia)) T.iW.bd .nil aw (aa (bH T.EH) ag))) ag))))) ba)
  (ak (aF (bT (aa (pv 1) ag))))))),?_⟩
 have ht:=O5 hg
 refine(rM rfl hR.ins rfl ?_)
 refine jB hR (vP ht) fun H1 x hR1 kp1 tk1=>?_
 obtain⟨dt,ft,et,lt1,lt2,lt3,lt4,lt5⟩:=tk1
 refine(rG rfl et T.bx.cl T.cf lt2 (eX _ rfl ⟨rfl,eX _ rfl ?_⟩))
 unfold y2 LsWale.loneAt at hg
 rw[cN,fY (c:="take") e]
 rw[cV ht]at hg
 have fin2:∀{c:String}{y:Bytes}{z:LsWale.Lone}{H2:Hp}{p':Nat}{e':aD},(ae b p e).isWord c=true->jh c=true->g=.ok (z,ae b p' e')->hW z=t2 (ascii c) y->au a K b R p' d (lst e') H2->aJ R H H2->∀l,H2 l=none->
   Q (.ref l) (upd H2 l (.lst [.str (bq (aq b p)),.str (strOf y)])):=fun{c y z H2 p' e'}hc hw hgz ht hR2 kp2 l hl=>by
  refine kk _ _ _ hgz _ _ (hR2.same (aS hl)) (kp2.trans (bp (aS hl))) ?_
  rw[gj hc hw]
  refine(kJ (n:=N) (b8 (a:=a) (H0:=H) (H:=H2) (ascii c)) (b8 y) hl (kp2.grow hR2.cells)).map fun F q=>?_
  show eD a N _ F _ (hW z)
  rw[ht];exact q
 have fin1:∀{c:String}{z:LsWale.Lone}{H2:Hp}{p':Nat}{e':aD},(ae b p e).isWord c=true->jh c=true->g=.ok (z,ae b p' e')->hW z=t1 (ascii c)->au a K b R p' d (lst e') H2->aJ R H H2->∀l,H2 l=none->
   Q (.ref l) (upd H2 l (.lst [.str (bq (aq b p))])):=fun{c z H2 p' e'}hc hw hgz ht hR2 kp2 l hl=>by
  refine kk _ _ _ hgz _ _ (hR2.same (aS hl)) (kp2.trans (bp (aS hl))) ?_
  rw[gj hc hw]
  refine(qU (n:=N) (b8 (a:=a) (H0:=H) (H:=H2) (ascii c)) hl (kp2.grow hR2.cells)).map fun F q=>?_
  show eD a N _ F _ (hW z)
  rw[ht];exact q
 refine aX (fun c=>?_) (fun c=>?_)
 ·rw[if_pos c,map_bind]at hg
  refine(eX _ rfl (rM rfl hR1.ins rfl ?_))
  exact Ex hR1 hT (Option.some.inj hg).symm fun y hy H2 hR2 kp2=>⟨(by show 2<=sizeLine;decide),fin2 c (by decide +kernel) hy rfl hR2 (kp1.trans kp2)⟩
 rw[if_neg c]at hg
 refine(eX _ rfl ⟨rfl,eX _ rfl ?_⟩)
 rw[cN,fY (c:="yarn") e]
 refine aX (fun c=>?_) (fun c=>?_)
 ·rw[if_pos c,map_bind]at hg
  refine(eX _ rfl (rM rfl hR1.ins rfl ?_))
  exact vD (k:=.yarns) hR1 rfl hT (Option.some.inj hg).symm rfl fun y hy H2 hR2 kp2=>⟨(by show 2<=sizeLine;decide),fin2 c (by decide +kernel) hy rfl hR2 (kp1.trans kp2)⟩
 rw[if_neg c]at hg
 refine(eX _ rfl ⟨(by show 3<=sizeLine;decide),fun q hq=>?_⟩)
 refine⟨q,eX _ rfl ⟨.inr (.inl (.inl aB)),rfl,rfl,eX _ rfl ?_⟩⟩
 have hR2:=hR1.same (aS (o:=.tup [.str "mark",.str "pass",.str "clear"]) hq)
 have kp2:aJ R H (upd H1 q (.tup [.str "mark",.str "pass",.str "clear"])):=kp1.trans (bp (aS hq))
 rw[if_neg Bool.false_ne_true,LA e]
 by_cases c1:(ae b p e).isWord "mark"=true
 ·rw[if_pos c1,map_bind]at hg
  rw[c1]
  refine bu (eX _ rfl (rM rfl hR2.ins rfl ?_))
  exact uD hR2 hT (Option.some.inj hg).symm fun y hy H3 hR3 kp3=>⟨(by show 2<=sizeLine;decide),fin2 c1 (by decide +kernel) hy rfl hR3 (kp2.trans kp3)⟩
 rw[if_neg c1]at hg
 rw[Bool.eq_false_iff.mpr c1]
 by_cases c2:(ae b p e).isWord "pass"=true
 ·rw[if_pos c2,map_bind]at hg
  rw[c2]
  refine bu (eX _ rfl (rM rfl hR2.ins rfl ?_))
  exact uD hR2 hT (Option.some.inj hg).symm fun y hy H3 hR3 kp3=>⟨(by show 2<=sizeLine;decide),fin2 c2 (by decide +kernel) hy rfl hR3 (kp2.trans kp3)⟩
 rw[if_neg c2]at hg
 rw[Bool.eq_false_iff.mpr c2]
 by_cases c3:(ae b p e).isWord "clear"=true
 ·rw[if_pos c3,map_bind]at hg
  rw[c3]
  refine bu (eX _ rfl (rM rfl hR2.ins rfl ?_))
  exact uD hR2 hT (Option.some.inj hg).symm fun y hy H3 hR3 kp3=>⟨(by show 2<=sizeLine;decide),fin2 c3 (by decide +kernel) hy rfl hR3 (kp2.trans kp3)⟩
 rw[if_neg c3]at hg
 rw[Bool.eq_false_iff.mpr c3]
 refine bD ?_
 by_cases c4:(ae b p e).isWord "turn"=true
 ·rw[if_pos c4]at hg
  exact(eX _ rfl ⟨(by show 1<=sizeLine;decide),fin1 c4 (by decide +kernel) (Option.some.inj hg).symm rfl hR2 kp2⟩)
 rw[if_neg c4]at hg
 by_cases c5:(ae b p e).isWord "fasten"=true
 ·rw[if_pos c5]at hg
  exact(eX _ rfl ⟨(by show 1<=sizeLine;decide),fin1 c5 (by decide +kernel) (Option.some.inj hg).symm rfl hR2 kp2⟩)
 rw[if_neg c5]at hg
 cases hg
def gE(d:Nat)(s:ah):Except Fault (LsWale.Reach×ah):=
 if s.isWord "end"=true then .ok (.to_ .row,s.next)
 else if s.isWord "last"=true then(bc .sum d s.next>>=fun x=>.ok (.to_ (.last x.1),x.2))
 else(eatWord "mark" s>>=fun t=>markName t>>=fun x=>.ok (.to_ (.mark x.1),x.2))
theorem G1{s:ah}{k pl:Nat}(h:HB s k pl)(d:Nat):gE d s=.error ⟨k,pl⟩:=by
 unfold gE
 rw[if_neg (by rw[gZ h];decide),if_neg (by rw[gZ h];decide),Ga h];rfl
def yG:LsWale.Reach->List PT
 | .to_ .row=>t1 (ascii "end")
 | .to_ (.last x)=>ts (ascii "last") x
 | .to_ (.mark n)=>t2 (ascii "mark") n
 |_=>[]
theorem Rc:aI ["reader"] ["reader"] (aC xn):=⟨rfl,rfl,rfl,by decide +kernel,rfl,by decide +kernel,by decide +kernel⟩
theorem Ow:("end":Str)=strOf (ascii "end"):=by decide +kernel
theorem Lo:("last":Str)=strOf (ascii "last"):=by decide +kernel
theorem O1:("mark":Str)=strOf (ascii "mark"):=by decide +kernel
theorem QJ(T:Tx P w K mg a)(N:Nat):da P w K mg base a 38 a.qa a.rg 9 (hG (eD a N) yG) gE:=by
 refine aG.bz (k:=37) T.Cz.fn Rc fJ (fun cdv A outer s H vs Q E hr h=>?_)
 obtain⟨b,R,p,d,e,rfl,hR,hd,hm,hT,kk⟩:=fV h
 have C:=T.bL.cl
 refine⟨_,aj (a4 (cY (a0 (pv 0) C T.eB.mt (j0 T) (hr.mono (by first|decide|lia)) T.eB.bd .nil aw (aa aT ag))) (ak (aF (bT (aa aT (aa (aN T.jz (j8 T 9) hr aw (aa (pv 0) ag)) ag))))) ba)
  (aj (a4 (cY (a0 (pv 0) C T.eB.mt (j0 T) (hr.mono (by first|decide|lia)) T.eB.bd .nil aw (aa aT ag))) (ak (aF (bT (aa aT (aa ((a0 (pv 0) C T.iW.mt (uX T) (hr.mono (by first|decide|lia)) T.iW.bd .nil aw (aa (bH T.EH) ag))) ag))))) ba) (aj (a9 (a0 (pv 0) C T.cX.mt (iT T) (hr.mono (by first|decide|lia)) T.cX.bd .nil aw (aa aT ag))) (ak (aF (bT (aa aT ag)))))),?_⟩
 refine(rM rfl hR.ins rfl ?_)
 refine pU (c:="last") (e:=e) hR hT (fun k pl hb=>.inl (G1 hb d)) (fun c H1 hR1 kp1=>?_) (fun c nb H1 hR1 kp1=>?_)
 ·have e1:gE d (ae b p e)=(bc .sum d (ae b (aA b p) e)>>=fun x=>.ok (.to_ (.last x.1),x.2)):=by
   unfold gE
   rw[if_neg (by rw[nB c (y:="end") (by decide +kernel)];decide),if_pos c,cV (ki c)]
  refine(eX _ rfl (bu (eX _ rfl ?_)))
  refine cv hR1 hd hm hT e1 (fun x s k pl hb=>dE hb) fun x p2 e2 hS e3 H2 v2 hR2 kp2 md2=>⟨(by show 2<=sizeLine;decide),fun l hl=>?_⟩
  have kp:=kp1.trans kp2
  refine kk _ _ _ e3 _ _ (hR2.same (aS hl)) (kp.trans (bp (aS hl))) ?_
  rw[Lo]
  exact kJ (b8 _) (jG (md2.old (kp1.grow hR1.cells))) hl (kp.grow hR2.cells)
 refine(eX _ rfl (bD (rM rfl hR1.ins rfl ?_)))
 refine pU (c:="mark") (e:=e) hR1 hT (fun k pl hb=>.inl (G1 hb d)) (fun c2 H2 hR2 kp2=>?_) (fun c2 nb H2 hR2 kp2=>?_)
 ·have e1:gE d (ae b p e)=(markName (ae b (aA b p) e)>>=fun x=>.ok (.to_ (.mark x.1),x.2)):=by
   unfold gE eatWord
   rw[if_neg (by rw[nB c2 (y:="end") (by decide +kernel)];decide),if_neg (by rw[c];decide),if_pos c2,cV (ki c2)]
   rfl
  refine(eX _ rfl (bu (rM rfl hR2.ins rfl ?_)))
  refine uD hR2 hT e1 fun y hy H3 hR3 kp3=>⟨(by show 2<=sizeLine;decide),fun l hl=>?_⟩
  have kp:=(kp1.trans kp2).trans kp3
  refine kk _ _ _ hy _ _ (hR3.same (aS hl)) (kp.trans (bp (aS hl))) ?_
  rw[O1]
  exact kJ (b8 _) (b8 y) hl (kp.grow hR3.cells)
 have e1:gE d (ae b p e)=(eatWord "end" (ae b p e)>>=fun t=>.ok (.to_ .row,t)):=by
  unfold gE eatWord
  have c2':¬(ae b p e).isWord "mark"=true:=by rw[c2];decide
  rw[if_neg c2']
  by_cases c3:(ae b p e).isWord "end"=true
  ·rw[if_pos c3,if_pos c3];rfl
  ·rw[if_neg c3,if_neg c3,if_neg (by rw[c];decide),fK nb];rfl
 refine(eX _ rfl (bD (rM rfl hR2.ins rfl ?_)))
 refine Fo hR2 hT e1 (k:=fun e3 H3 x hR3 kp3 tk3=>⟨(by show 1<=sizeLine;decide),fun l hl=>?_⟩)
 have kp:=(kp1.trans kp2).trans kp3
 refine kk _ _ _ e3 _ _ (hR3.same (aS hl)) (kp.trans (bp (aS hl))) ?_
 rw[Ow]
 exact qU (b8 _) hl (kp.grow hR3.cells)
end Wale
end
section
set_option Elab.async false
set_option linter.all false
set_option maxRecDepth 100000
set_option maxHeartbeats 2000000
namespace Wale
open PySem PySem.Spec PyProof.Rows L2
open Wm
open LsWale (ascii Fault eatSign eatWord eatOpen anyName newName oldName markName holdName wanted isName PLAINS)
variable {P:Program}{w:World}{K:PySem.W.Frag}{mg:Str->Option Value}{base:Heap}{a:Ad}
def iu(d:Nat)(s:ah):Except Fault ((LsWale.Reach->LsWale.Items->LsWale.Items)×ah):=
 if s.isSign '('=true then(eatOpen '(' d s>>=fun t=>cR (d+1) t>>=fun l=>eatSign ')' l.2>>=fun u=>.ok (LsWale.Items.group s.place l.1,u))
 else(LsWale.unitAt s>>=fun u=>.ok (LsWale.Items.one s.place u.1,u.2))
theorem KJ{d:Nat}{s:ah}(h:LsWale.loneAt s=none):fN d s=iu d s>>=fun u=>jV d u.2>>=fun r=>.ok (u.1 r.1,r.2):=by
 unfold fN gG iu
 rw[h]
 dsimp only
 by_cases c:s.isSign '('=true
 ·rw[if_pos c,if_pos c];simp only[bW];rfl
 ·rw[if_neg c,if_neg c];simp only[bW];rfl
theorem B9{s:ah}{k pl:Nat}(h:HB s k pl)(d:Nat):iu d s=.error ⟨k,pl⟩:=by
 unfold iu
 rw[if_neg (by rw[gq h];decide),HM h];rfl
theorem Ku(b:Bytes)(p:Nat):ee (.str (bq (aq b p))) ((["k","p","ktbl","ptbl","yo","k2tog","k3tog","ssk","sssk","p2tog","ssp","cdd","kfb","pfb","kp","m1l","m1r","sl","slf","pso","even","co","bo"]:List Str).map V.str)=PLAINS.contains (hU (aq b p)):=by
 rw[DS,nR,oz]
theorem Qx:∀x∈PLAINS,∃c r,x=c::r/\LsWale.isLetter c=true:=by
 intro x hx
 have h:PLAINS.all (fun x=>match x with|c::_=>LsWale.isLetter c|[]=>false)=true:=by decide +kernel
 have:=List.all_eq_true.mp h x hx
 cases x with
 |nil=>cases this
 |cons c r=>exact⟨c,r,rfl,this⟩
theorem Kv{b:Bytes}{p:Nat}(h:PLAINS.contains (hU (aq b p))=true):aq b p=.word (hU (aq b p)):=by
 obtain⟨c,r,e,l⟩:=Qx _ (by simpa using h)
 exact(CB e l (BN b p)).mp rfl
theorem Fi(x:Bytes):(PLAINS.findIdx? fun z=>z==x).isSome=PLAINS.contains x:=by
 rw[List.findIdx?_isSome,Bool.eq_iff_iff]
 simp
theorem tm{b:Bytes}{p:Nat}{e:aD}{x:Bytes}(h:aq b p=.word x):LsWale.unitAt (ae b p e)=match PLAINS.findIdx? fun z=>z==x with
  |some k=>.ok (.plain k,ae b (aA b p) e)
  |none=>if((ae b p e).isWord "cl"||(ae b p e).isWord "cr")=true then(LsWale.wideAt (ae b (aA b p) e)>>=fun n=>eatSign '/' n.2>>=fun t=>LsWale.wideAt t>>=fun m=>.ok (.cable ((ae b p e).isWord "cr") n.1 m.1,m.2))
   else if(ae b p e).isWord "hold"=true then(holdName (ae b (aA b p) e)>>=fun x=>.ok (.hold x.1,x.2))
   else(oldName e.words (ae b p e)>>=fun x=>.ok (.word x.1,x.2)):=by
 have hn:=cV (b:=b) (p:=p) (e:=e) (by rw[h];rfl)
 unfold LsWale.unitAt
 rw[eg,h,hn]
 rfl
def Bd(a:Ad)(n:Nat):Rep (LsWale.Reach->LsWale.Items->LsWale.Items):=fun H F v k=>∃ph,eD a n H F v ph/\∀r rest,bY (k r rest)=(ph++fq r)::bY rest
def ro(a:Ad)(n:Nat):Rep LsWale.Items:=hG (fQ a (cO a n)) bY
theorem Ej(a:Ad)(n:Nat):Good (ro a n):=Hg (lq (cE a n))
theorem K5{y:Bytes}{j:Nat}(h:(PLAINS.findIdx? fun z=>z==y)=some j):PLAINS.getD j []=y:=by
 obtain⟨hl,h1,-⟩:=List.findIdx?_eq_some_iff_getElem.mp h
 rw[List.getD_eq_getElem?_getD,List.getElem?_eq_getElem hl]
 exact eq_of_beq h1
theorem Ls:("hold":Str)=strOf (ascii "hold"):=by decide +kernel
theorem Md.unit{n:Nat}{H0 H:Hp}{v:V}{s:List PT}{k:LsWale.Reach->LsWale.Items->LsWale.Items}(m:Md (eD a n) H0 H v s)(h:∀r rest,bY (k r rest)=(s++fq r)::bY rest):Md (Bd a n) H0 H v k:=m.map fun F q=>⟨s,q,h⟩
theorem yF:aI ["reader","token","listed"] ["reader"] (aC x4):=⟨rfl,rfl,rfl,by decide +kernel,rfl,by decide +kernel,by decide +kernel⟩
theorem K1(T:Tx P w K mg a){m n:Nat}(F:da P w K mg base a (40+3*m) a.lI a.lK m (ro a n) cR):da P w K mg base a (40+3*m+1) a.mT a.nU (m+1) (Bd a (n+1)) iu:=by
 refine aG.bz (k:=40+3*m) T.DB.fn yF fJ (fun cdv A outer s H vs Q E hr h=>?_)
 obtain⟨b,R,p,d,e,rfl,hR,hd,hm,hT,kk⟩:=fV h
 have C:=T.bL.cl
 refine⟨_,aj (a3 (i:=1) yF.nd rfl (Or.inl rfl) (cH (pv 0) C T.cj.mt (iE T) (hr.mono (by first|decide|lia)) T.cj.bd .nil aw))
  (aj (a4 (k8 T.G2 (aE (pv 1) rfl)) (ak (aF (bT (aa (aE (cH (pv 0) C T.cW.mt (jv T) (hr.mono (by first|decide|lia)) T.cW.bd .nil aw) rfl) ag)))) ba)
  (aj (a4 (PW.pt (iM (a5 cp (aE (pv 1) rfl) aT (aZ _)) (iK (a5 cp (aE (pv 1) rfl) aT (aZ _)))))
   (ak (aF (aN T.C1 (Oo T (n+1)) (hr.mono (by first|decide|lia)) aw (aa (pv 0) ag)))) ba)
  (aj (a4 (cY (a0 (pv 0) C T.eB.mt (j0 T) (hr.mono (by first|decide|lia)) T.eB.bd .nil aw (aa aT ag))) (ak (aF (bT (aa aT (aa ((a0 (pv 0) C T.iW.mt (uX T) (hr.mono (by first|decide|lia)) T.iW.bd .nil aw (aa (bH T.Fm) ag))) ag))))) ba)
  (aj (a4 (a5 cp (aE (pv 1) rfl) (bH T.ke) (aZ _)) (ak (aF (bT (aa ((a0 (pv 0) C T.jk.mt (wH T) (hr.mono (by first|decide|lia)) T.jk.bd .nil aw (aa (bH T.xT) ag))) ag)))) ba)
  (aj (a9 (a0 (pv 0) C T.lY.mt (AE T) (hr.mono (by first|decide|lia)) T.lY.bd .nil aw (aa aT ag))) (aj (a3 (i:=2) yF.nd rfl (Or.inl rfl) (aN T.uL F hr aw (aa (pv 0) ag))) (aj (a9 (a0 (pv 0) C T.lB.mt (xI T) (hr.mono (by first|decide|lia)) T.lB.bd .nil aw (aa aT ag)))
  (ak (aF (bT (aa (eU T.gH.eS (LZ T) (hr.mono (by first|decide|lia)) rfl T.gH.at_ T.Hv.2 .nil aU (aa (pv 2) ag)) ag))))))))))),?_⟩
 refine(rM rfl hR.ins rfl ?_)
 refine nz (e:=e) hR hT (fun k pl hb=>.inl (B9 hb d)) fun nb H1 x hR1 kp1 tk1=>?_
 have tk1':=tk1
 obtain⟨dt,ft,et,lt1,lt2,lt3,lt4,lt5⟩:=tk1
 have cl:=T.bx.cl
 refine(rF rfl et cl T.cf lt2 ⟨rfl,eX _ rfl (eX _ rfl ?_)⟩)
 rw[Ku]
 -- a word's unit
 have uw:∀y,aq b p=.word y->iu d (ae b p e)=(LsWale.unitAt (ae b p e)>>=fun u=>.ok (LsWale.Items.one (ae b p e).place u.1,u.2)):=fun y hy=>by
  unfold iu
  rw[if_neg (by rw[gg,hy];simp)]
 refine aX (fun c=>?_) (fun c=>?_)
 ·have hy:=Kv c
  have e1:=uw _ hy
  rw[tm hy]at e1
  have hf:=Fi (hU (aq b p))
  rw[c]at hf
  obtain⟨j,hj⟩:=Option.isSome_iff_exists.mp hf
  rw[hj]at e1
  refine(rM rfl hR1.ins rfl ?_)
  refine jB hR1 nb fun H2 y hR2 kp2 tk2=>?_
  obtain⟨du,fu,eu,lu1,lu2,lu3,lu4,lu5⟩:=tk2
  rw[nR]at lu2
  refine(rG rfl eu cl T.cf lu2 ⟨(by show 1<=sizeLine;decide),fun l hl=>?_⟩)
  have kp:=kp1.trans kp2
  refine kk _ _ _ e1 _ _ (hR2.same (aS hl)) (kp.trans (bp (aS hl))) ((qU (b8 _) hl (kp.grow hR2.cells)).unit fun r rest=>?_)
  show(t1 (PLAINS.getD j [])++_)::_=_
  rw[K5 hj];rfl
 have nf:∀y,aq b p=.word y->(PLAINS.findIdx? fun z=>z==y)=none:=fun y hy=>by
  have hf:=Fi y
  rw[show PLAINS.contains y=false by rw[show y=hU (aq b p) by rw[hy];rfl];exact Bool.eq_false_iff.mpr c]at hf
  exact Option.not_isSome_iff_eq_none.mp (by rw[hf];decide)
 have cross:((ae b p e).isWord "cl"||(ae b p e).isWord "cr")=true->kc K a 9 (hG (eD a (n+1)) sT) pV [.ref R.r] H1 Q E:=fun cc=>by
  obtain⟨y,hy⟩:∃y,aq b p=.word y:=by
   rcases(Bool.or_eq_true _ _).mp cc with z|z
   ·rw[mQ,decide_eq_true_eq]at z;exact⟨_,z⟩
   ·rw[mQ,decide_eq_true_eq]at z;exact⟨_,z⟩
  have e1:=uw _ hy
  rw[tm hy,nf y hy]at e1
  dsimp only at e1
  rw[if_pos cc]at e1
  have e2:pV d (ae b p e)=some (LsWale.wideAt (ae b (aA b p) e)>>=fun n=>eatSign '/' n.2>>=fun t=>LsWale.wideAt t>>=fun m=>.ok (((ae b p e).isWord "cr",n.1,m.1),m.2)):=by
   unfold pV
   rw[if_pos cc,cV (u7 cc)]
  refine Am hR1 hd (by lia) e2 hT (f:=fun x=>.ok (LsWale.Items.one (ae b p e).place (.cable x.1.1 x.1.2.1 x.1.2.2),x.2)) (by rw[e1];simp only[bW];rfl) (fun x s k pl hb=>dE hb) fun x p2 e3 hS e4 H2 v2 hR2 kp2 md2=>?_
  exact kk _ _ _ e4 H2 v2 hR2 (kp1.trans kp2) (Md.unit (s:=sT x) (md2.old (kp1.grow hR1.cells)) fun r rest=>rfl)
 refine(rF rfl et cl T.cf lt2 ⟨rfl,eX _ rfl ?_⟩)
 rw[cN,fY (c:="cl") e]
 refine aX (fun c1=>bu (eX _ rfl (cross (by rw[c1];rfl)))) (fun c1=>?_)
 refine(rF rfl et cl T.cf lt2 ⟨rfl,eX _ rfl ?_⟩)
 rw[cN,fY (c:="cr") e]
 refine aX (fun c2=>(eX _ rfl (cross (by rw[c2,Bool.or_true])))) (fun c2=>?_)
 have ncc:¬((ae b p e).isWord "cl"||(ae b p e).isWord "cr")=true:=by rw[Bool.eq_false_iff.mpr c1,Bool.eq_false_iff.mpr c2];decide
 refine(rM rfl hR1.ins rfl ?_)
 refine pU (c:="hold") (e:=e) hR1 hT (fun k pl hb=>.inl (B9 hb d)) (fun c3 H2 hR2 kp2=>?_) (fun c3 nb H2 hR2 kp2=>?_)
 ·have hy:aq b p=.word (ascii "hold"):=by rw[mQ,decide_eq_true_eq]at c3;exact c3
  have e1:=uw _ hy
  rw[tm hy,nf _ hy]at e1
  dsimp only at e1
  rw[if_neg ncc,if_pos c3,bW]at e1
  refine(eX _ rfl (bu (rM rfl hR2.ins rfl ?_)))
  refine Ex hR2 hT e1 fun y hy H3 hR3 kp3=>⟨(by show 2<=sizeLine;decide),fun l hl=>?_⟩
  have kp:=(kp1.trans kp2).trans kp3
  refine kk _ _ _ hy _ _ (hR3.same (aS hl)) (kp.trans (bp (aS hl))) ?_
  rw[Ls]
  exact(kJ (b8 _) (b8 y) hl (kp.grow hR3.cells)).unit fun r rest=>rfl
 have tk2:=b9.keepR tk1' hR1 kp2
 obtain⟨du,fu,eu,lu1,lu2,lu3,lu4,lu5⟩:=tk2
 refine(eX _ rfl (bD (rF rfl eu cl T.kE lu1 ⟨rfl,eX _ rfl ?_⟩)))
 have c3':¬(ae b p e).isWord "hold"=true:=by rw[c3];decide
 rw[cN]
 refine aX (fun c4=>?_) (fun c4=>?_)
 ·obtain⟨y,hy⟩:=gf.mp (of_decide_eq_true c4)
  have hy':=(uW hy).1
  have e1:=uw _ hy'
  rw[tm hy',nf _ hy']at e1
  dsimp only at e1
  rw[if_neg ncc,if_neg c3',bW]at e1
  refine(rM rfl hR2.ins rfl ?_)
  refine vD (k:=.words) hR2 rfl hT e1 rfl fun y hy H3 hR3 kp3=>⟨(by show 1<=sizeLine;decide),fun l hl=>?_⟩
  have kp:=(kp1.trans kp2).trans kp3
  exact kk _ _ _ hy _ _ (hR3.same (aS hl)) (kp.trans (bp (aS hl))) ((qU (b8 y) hl (kp.grow hR3.cells)).unit fun r rest=>rfl)
 have nn:nameAt b p=none:=by
  cases hx:nameAt b p with
  |none=>rfl
  |some x=>exact absurd (decide_eq_true (gf.mpr ⟨x,hx⟩)) c4
 have e1:iu d (ae b p e)=(eatOpen '(' d (ae b p e)>>=fun t=>cR (d+1) t>>=fun l=>eatSign ')' l.2>>=fun u=>.ok (LsWale.Items.group (ae b p e).place l.1,u)):=by
  unfold iu
  by_cases c5:(ae b p e).isSign '('=true
  ·rw[if_pos c5]
  ·rw[if_neg c5]
   have e3:LsWale.unitAt (ae b p e)=.error ⟨3,aP b p⟩:=by
    by_cases hw:∃y,aq b p=.word y
    ·obtain⟨y,hy⟩:=hw
     rw[tm hy,nf _ hy]
     dsimp only
     rw[if_neg ncc,if_neg c3']
     unfold oldName
     rw[any_none nn,fK nb];rfl
    ·unfold LsWale.unitAt
     rw[eg]
     cases q:aq b p with
     |word y=>exact absurd ⟨y,q⟩ hw
     |_=>
      dsimp only
      exact fK nb
   rw[e3]
   unfold eatOpen
   rw[if_pos (Bool.eq_false_iff.mpr c5),fK nb];rfl
 refine(rM rfl hR2.ins rfl ?_)
 refine yU hR2 hd hT e1 fun e2 l8 hs H3 hR3 kp3=>(eX _ rfl ?_)
 refine cv (m:=m) hR3 (by lia) (by lia) hT e2 (fun x s k pl hb=>xt hb) fun y p' e' hS e3 H4 v4 hR4 kp4 md4=>?_
 refine(rM rfl hR4.ins rfl ?_)
 refine yD hR4 hT e3 fun e4 H5 hR5 kp5=>(eX _ rfl (fun x6 dx6 n6 nd6 ne6=>⟨x6,dx6,v4,rfl,aB,fun H6 e6 kp6=>⟨rfl,(by show 1<=sizeLine;decide),fun l hl=>?_⟩⟩))
 have sm6:=aO.made n6 nd6 kp6
 have kp:=(((kp1.trans kp2).trans kp3).trans kp4).trans kp5
 have g5:=kp.grow hR5.cells
 have md5:=(md4.keep (Ej a n) hR3.cells kp5).old (((kp1.trans kp2).trans kp3).grow hR3.cells)
 have mbr:=Md.br (cE a n) (md5.map (r':=fQ a (cO a n)) (y:=bY y) fun F q=>q) g5 sm6 n6 e6
 have g6:cz H H6:=g5.trans (EX sm6)
 refine kk _ _ _ e4 _ _ ((hR5.same sm6).same (aS hl)) ((kp.trans (bp sm6)).trans (bp (aS hl))) ?_
 exact(qU (s:=.br (bY y)) (mbr.map (r':=cO a (n+1)) fun F q=>Or.inr (Or.inr ⟨_,q,rfl⟩)) hl g6).unit fun r rest=>rfl
end Wale
end
section
set_option Elab.async false
set_option linter.all false
set_option maxRecDepth 100000
set_option maxHeartbeats 2000000
namespace Wale
open PySem PySem.Spec PyProof.Rows L2
open Wm
open LsWale (ascii Fault eatSign eatWord eatOpen anyName newName oldName markName holdName wanted isName PLAINS)
variable {P:Program}{w:World}{K:PySem.W.Frag}{mg:Str->Option Value}{base:Heap}{a:Ad}
theorem IC{b:Bytes}{p:Nat}(e:aD):ee (.str (bq (aq b p))) ((["take","yarn","mark","pass","clear","turn","fasten"]:List Str).map V.str)=(LsWale.loneAt (ae b p e)).isSome:=by
 rw[in_words (e:=e) ["take","yarn","mark","pass","clear","turn","fasten"] (by decide +kernel) (by decide +kernel)]
 unfold LsWale.loneAt
 simp only[List.any_cons,List.any_nil,Bool.or_false]
 by_cases h1:(ae b p e).isWord "take"=true
 ·simp[h1]
 by_cases h2:(ae b p e).isWord "yarn"=true
 ·simp[h1,h2]
 by_cases h3:(ae b p e).isWord "mark"=true
 ·simp[h1,h2,h3]
 by_cases h4:(ae b p e).isWord "pass"=true
 ·simp[h1,h2,h3,h4]
 by_cases h5:(ae b p e).isWord "clear"=true
 ·simp[h1,h2,h3,h4,h5]
 by_cases h6:(ae b p e).isWord "turn"=true
 ·simp[h1,h2,h3,h4,h5,h6]
 by_cases h7:(ae b p e).isWord "fasten"=true
 ·simp[h1,h2,h3,h4,h5,h6,h7]
 ·simp[h1,h2,h3,h4,h5,h6,h7]
theorem N6{d:Nat}{b:Bytes}{p:Nat}{e:aD}(h:(ae b p e).isWord "to"=true):jV d (ae b p e)=gE d (ae b (aA b p) e):=by
 rw[we,if_pos h,cV (ki h)]
 rfl
theorem K9{b:Bytes}{p:Nat}{e:aD}(h:(ae b p e).isWord "to"=true):(ae b p e).sums=false:=by
 rw[mQ,decide_eq_true_eq]at h
 rw[uy,h]
 show isName (ascii "to")=false
 decide +kernel
theorem Mt{d:Nat}{s:ah}{g:Except Fault (LsWale.Lone×ah)}(h:LsWale.loneAt s=some g):fN d s=g>>=fun y=>.ok (LsWale.Items.lone s.place y.1,y.2):=by
 unfold fN gG
 rw[h]
 exact map_bind _ _
theorem BV{α:Type}{s:ah}{k pl d:Nat}{f:LsWale.Reach×ah->Except Fault (α×ah)}(h:HB s k pl)(hf:∀x,bN (f (x,s)) k pl):bN (jV d s>>=f) k pl:=by rw[Jg h];exact hf _
def zz(a:Ad)(n:Nat):Rep (LsWale.Items->LsWale.Items):=fun H F v k=>∃ph,bE a n H F v ph/\∀rest,bY (k rest)=ph::bY rest
theorem Md.item{n:Nat}{H0 H:Hp}{v:V}{ph:List PT}{k:LsWale.Items->LsWale.Items}(m:Md (bE a n) H0 H v ph)(h:∀rest,bY (k rest)=ph::bY rest):Md (zz a n) H0 H v k:=m.map fun F q=>⟨ph,q,h⟩
theorem eY{H0 H:Hp}{l:Addr}{vs:List V}{o:HO}(h0:H0 l=none)(e:H l=some (.lst vs)):dC H0 H (upd H l o) l:=⟨fun b ob eb hb=>by rw[ao hb];exact eb,h0,.inl ⟨vs,e⟩,sr⟩
theorem fk{H:Hp}{l:Addr}{o:HO}(e:H l=some o):H l≠none:=by rw[e];exact fun z=>nomatch z
theorem NG{d:Nat}{s t:ah}{x:LsWale.Reach}(h:gE d s=.ok (x,t)):fq x=tw (ascii "to")::yG x:=by
 unfold gE at h
 split at h
 ·cases h;rfl
 ·split at h
  ·obtain⟨y,_,h2⟩:=gz h
   cases h2;rfl
  ·obtain⟨y,_,h2⟩:=gz h
   obtain⟨z,_,h3⟩:=gz h2
   cases h3;rfl
theorem JM:("to":Str)=strOf (ascii "to"):=by decide +kernel
theorem CP:aI ["reader","phrase"] ["reader"] (aC Aj):=⟨rfl,rfl,rfl,by decide +kernel,rfl,by decide +kernel,by decide +kernel⟩
theorem QL(T:Tx P w K mg a){k m n:Nat}(hk:40<=k)(F:da P w K mg base a k a.mT a.nU m (Bd a n) iu):da P w K mg base a (k+1) a.nj a.m8 m (zz a n) fN:=by
 refine aG.bz (k:=k) T.yb.fn CP fJ (fun cdv A outer s H vs Q E hr h=>?_)
 obtain⟨b,R,p,d,e,rfl,hR,hd,hm,hT,kk⟩:=fV h
 have C:=T.bL.cl
 refine⟨_,aj (a4 (k8 T.JO (aE (cH (pv 0) C T.cj.mt (iE T) (hr.mono (by first|decide|lia)) T.cj.bd .nil aw) rfl)) (ak (aF (aN T.EW (Ny T n) (hr.mono (by first|decide|lia)) aw (aa (pv 0) ag)))) ba)
  (aj (a3 (i:=1) CP.nd rfl (Or.inl rfl) (aN T.DB F hr aw (aa (pv 0) ag)))
  (aj (a4 (cY (aN T.yZ (Fk T) (hr.mono (by first|decide|lia)) aU (aa (cH (pv 0) C T.cj.mt (iE T) (hr.mono (by first|decide|lia)) T.cj.bd .nil aw) ag)))
   (ak (a9 ((eh PySem.F.plainAttrs_list PySem.F.slot_list_append PySem.F.type_list_append gJ (pv 1) (aa (aN T.jz (j8 T 9) (hr.mono (by first|decide|lia)) aw (aa (pv 0) ag)) ag)))))
   (ak (a4 (cY (a0 (pv 0) C T.eB.mt (j0 T) (hr.mono (by first|decide|lia)) T.eB.bd .nil aw (aa aT ag))) (aj (a9 ((eh PySem.F.plainAttrs_list PySem.F.slot_list_append PySem.F.type_list_append gJ (pv 1) (aa aT ag)))) (ak (a9 ((eh PySem.F.plainAttrs_list PySem.F.slot_list_extend PySem.F.type_list_extend rj (pv 1) (aa (aN T.Cz (QJ T n) (hr.mono (by first|decide|lia)) aw (aa (pv 0) ag)) ag)))))) ba)))
  (ak (aF (pv 1))))),?_⟩
 have sz:sizeLine=16777216:=by decide
 refine AV (e:=e) T rfl hR hT (fun k pl hb=>.inl (Co hb d)) fun nb H1 hR1 kp1=>?_
 rw[IC e]
 cases hl:LsWale.loneAt (ae b p e)with
 |some g=>
  refine bu (eX _ rfl ?_)
  refine Am (S:=y2) hR1 hd (by lia) hl hT (Mt hl) (fun x s k pl hb=>dE hb) fun x p2 e2 hS e3 H2 v2 hR2 kp2 md2=>kk _ _ _ e3 H2 v2 hR2 (kp1.trans kp2) ?_
  obtain⟨F2,⟨hph,lph⟩,sn2⟩:=md2.old (kp1.grow hR1.cells)
  exact Md.item ⟨F2,hph,sn2⟩ fun rest=>rfl
 |none=>
  have e0:=KJ (d:=d) hl
  refine bD (eX _ rfl ?_)
  refine cv hR1 hd hm hT e0 (fun x s k pl hb=>BV hb fun _=>dE hb) fun u p2 e2 hS e3 H2 v2 hR2 kp2 md2=>?_
  obtain⟨F2,⟨ph,⟨hph,lph⟩,hs⟩,sn2⟩:=md2.old (kp1.grow hR1.cells)
  have mph:Md (bE a n) H H2 v2 ph:=⟨F2,hph,sn2⟩
  obtain⟨l,rfl⟩:=mph.ref
  have kp02:=kp1.trans kp2
  refine(rM rfl hR2.ins rfl ?_)
  have hb2:∀k pl,HB (ae b p2 e2) k pl->bN (fN d (ae b p e)) k pl:=fun k pl hb=>by rw[e3];exact BV hb fun _=>dE hb
  refine nz (e:=e2) hR2 hT hb2 fun nb2 H3 x hR3 kp3 tk3=>?_
  have kp03:=kp02.trans kp3
  have mph3:=mph.keep (cK a n) hR.cells kp3
  obtain⟨hn,vs3,el3,hlen3⟩:=mph3.cell
  refine⟨b,p2,x,rfl,tk3,nb2,eX _ rfl ?_⟩
  rw[Cw b p2 .none_ e2]
  by_cases cs:(ae b p2 e2).sums=true
  ·rw[cs]
   have nt:¬(ae b p2 e2).isWord "to"=true:=fun z=>by rw[K9 z]at cs;cases cs
   dsimp only at e3
   rw[we,if_neg nt,if_pos cs,bW]at e3
   refine bu (eX _ rfl ⟨.inl ⟨rfl,_,aM.of el3⟩,eX _ rfl ?_⟩)
   refine cv hR3 hd (by lia) hT e3 (fun x s k pl hb=>dE hb) fun x p3 e4 hS' e5 H4 v4 hR4 kp4 md4=>?_
   have mph4:=mph3.keep (cK a n) hR.cells kp4
   obtain⟨_,vs4,el4,hlen4⟩:=mph4.cell
   have lc:dC H H4 (upd H4 l (.lst (vs4++[v4]))) l:=eY hn el4
   refine⟨l,vs4,v4,rfl,rfl,el4,by lia,eX _ rfl ?_⟩
   refine kk _ _ _ e5 _ _ (hR4.bV hR lc) ((kp03.trans kp4).bV lc) ?_
   refine(mph4.append (cE a n) el4 (jG md4) (fk el3) (kp03.grow hR3.cells)).item fun rest=>hs _ rest
  ·rw[Bool.eq_false_iff.mpr cs]
   refine bD (rM rfl hR3.ins rfl ?_)
   refine pU (c:="to") (e:=e2) hR3 hT hb2 (fun c H4 hR4 kp4=>?_) (fun c nb H4 hR4 kp4=>?_)
   ·dsimp only at e3
    rw[N6 c]at e3
    have kp04:=kp03.trans kp4
    have mph4:=mph3.keep (cK a n) hR.cells kp4
    obtain⟨_,vs4,el4,hlen4⟩:=mph4.cell
    refine(eX _ rfl (bu (eX _ rfl ⟨.inl ⟨rfl,_,aM.of el4⟩,l,vs4,eX _ rfl ⟨rfl,el4,by lia,?_⟩⟩)))
    rw[JM]
    have lc:dC H H4 (upd H4 l (.lst (vs4++[.str (strOf (ascii "to"))]))) l:=eY hn el4
    have mph5:=mph4.append (v:=.str (strOf (ascii "to"))) (H1:=H4) (cE a n) el4 (b8 (ascii "to")) (fk el4) (kp04.grow hR4.cells)
    have hR5:=hR4.bV hR lc
    have kp05:=kp04.bV lc
    refine(eX _ rfl ⟨.inl ⟨rfl,_,aM.of aB⟩,eX _ rfl ?_⟩)
    refine cv hR5 hd (by lia) hT e3 (fun x s k pl hb=>dE hb) fun x p3 e4 hS' e5 H6 v6 hR6 kp6 md6=>?_
    have mph6:=mph5.keep (cK a n) hR.cells kp6
    obtain⟨_,vs6,el6,hlen6⟩:=mph6.cell
    obtain⟨F6,⟨hgp,lgp⟩,sn6⟩:=md6
    have mgp:Md (bE a n) _ H6 v6 (yG x):=⟨F6,hgp,sn6⟩
    obtain⟨l6,rfl⟩:=mgp.ref
    obtain⟨_,ws6,em6,hlem6⟩:=mgp.cell
    have lc6:dC H H6 (upd H6 l (.lst (vs6++ws6))) l:=eY hn el6
    refine⟨l,l6,vs6,ws6,rfl,rfl,el6,em6,by rw[hlen6,List.length_append,List.length_singleton];lia,eX _ rfl ?_⟩
    refine kk _ _ _ e5 _ _ (hR6.bV hR lc6) ((kp05.trans kp6).bV lc6) ?_
    refine(mph6.extend (cE a n) el6 mgp em6 (fk aB) (kp05.grow hR5.cells)).item fun rest=>?_
    rw[hs x rest,NG hS',List.append_assoc];rfl
   ·dsimp only at e3
    rw[we,if_neg (by rw[c];decide),if_neg cs]at e3
    refine(eX _ rfl (bD (eX _ rfl (kk _ _ _ e3 H4 _ hR4 (kp03.trans kp4) ?_))))
    exact(mph3.keep (cK a n) hR.cells kp4).item fun rest=>by
     rw[hs .once rest,show fq .once=[]from rfl,List.append_nil]
end Wale
end
section
set_option Elab.async false
set_option linter.all false
set_option maxRecDepth 100000
set_option maxHeartbeats 2000000
namespace Wale
open PySem PySem.Spec PyProof.Rows L2
open Wm
open LsWale (ascii Fault eatSign eatWord eatOpen anyName newName oldName markName holdName wanted isName PLAINS)
variable {P:Program}{w:World}{K:PySem.W.Frag}{mg:Str->Option Value}{base:Heap}{a:Ad}
theorem Hw:aI ["reader","phrases"] ["reader"] (aC A9):=⟨rfl,rfl,rfl,by decide +kernel,rfl,by decide +kernel,by decide +kernel⟩
def jD(d:Nat)(F:LsWale.Items->LsWale.Items)(s:ah):Except Fault (LsWale.Items×ah):=if s.isSign ','=true then(cR d s.next>>=fun l=>.ok (F l.1,l.2))else .ok (F .nil,s)
theorem Ay{s:ah}{k pl d:Nat}{F:LsWale.Items->LsWale.Items}(h:HB s k pl):bN (jD d F s) k pl:=by
 unfold jD
 rw[if_neg (by rw[gq h];decide)]
 exact dE h
theorem QF{b:Bytes}{p d:Nat}{e:aD}{F:LsWale.Items->LsWale.Items}(h:(ae b p e).isSign ','=true):jD d F (ae b p e)=fN d (ae b (aA b p) e)>>=fun x=>jD d (F∘x.1) x.2:=by
 unfold jD
 rw[if_pos h,cV (g0 h),Bk,bW]
 congr 1
 funext x
 by_cases c:x.2.isSign ','=true
 ·rw[if_pos c,if_pos c,bW];rfl
 ·rw[if_neg c,if_neg c];rfl
theorem K4(T:Tx P w K mg a){k m n:Nat}(hk:10<=k)(F:da P w K mg base a k a.nj a.m8 m (zz a n) fN):da P w K mg base a (k+1) a.lI a.lK m (ro a n) cR:=by
 refine aG.bz (k:=k) T.uL.fn Hw fJ (fun cdv A outer s H vs Q E hr h=>?_)
 obtain⟨b,R,p,d,e,rfl,hR,hd,hm,hT,kk⟩:=fV h
 have C:=T.bL.cl
 have G:=cK a n
 refine⟨_,aj (a3 (i:=1) Hw.nd rfl (Or.inl rfl) (bT (aa (aN T.yb F hr aw (aa (pv 0) ag)) ag)))
  (aj (gN iD (cY (a0 (pv 0) C T.eB.mt (j0 T) (hr.mono (by first|decide|lia)) T.eB.bd .nil aw (aa aT ag))) (ak (a9 ((eh PySem.F.plainAttrs_list PySem.F.slot_list_append PySem.F.type_list_append gJ (pv 1) (aa (aN T.yb F hr aw (aa (pv 0) ag)) ag))))))
  (ak (aF (eU T.fg.eS (zq T) (hr.mono (by first|decide|lia)) rfl T.fg.at_ T.wa.2 .nil aU (aa (pv 1) ag))))),?_⟩
 refine(eX _ rfl ?_)
 have e0:cR d (ae b p e)=fN d (ae b p e)>>=fun x=>jD d x.1 x.2:=Bk d _
 refine cv hR hd hm hT e0 (fun x s k pl hb=>Ay hb) fun x p1 e1 hS h1 H1 v1 hR1 kp1 md1=>⟨(by show 1<=sizeLine;decide),fun l hl=>?_⟩
 obtain⟨F1,⟨ph,hph,hs⟩,sn1⟩:=md1
 have ml:=aK.list G (aK.cons G ⟨F1,hph,sn1⟩ aK.nil) hl (kp1.grow hR1.cells)
 let I:(LsWale.Items->LsWale.Items)×Nat×aD->L2.St->Hp->Prop:=fun i σ H'=>σ=[some (.ref R.r),some (.ref l)]/\au a K b R i.2.1 d (lst i.2.2) H'/\aJ R H H'/\cR d (ae b p e)=jD d i.1 (ae b i.2.1 i.2.2)/\
  ∃pss,Md (bM (bE a n)) H H' (.ref l) pss/\(∀rest,bY (i.1 rest)=pss++bY rest)/\pss.length+(toks b i.2.1).length<=(toks b p).length
 let μ:(LsWale.Items->LsWale.Items)×Nat×aD->Nat:=fun i=>(toks b i.2.1).length
 have l1:=nA (y4 d _) hS
 refine gp I μ (x,p1,e1) ⟨rfl,hR1.same (aS hl),kp1.trans (bp (aS hl)),h1,[ph],ml,fun rest=>hs rest,?_⟩ ?_
 ·show 1+(toks b p1).length<=_
  lia
 rintro⟨x,p1,e1⟩ σ H2 ⟨rfl,hR2,kp2,h2,pss,ms,tx,ln⟩
 dsimp only at hR2 h2 tx ln
 refine(rM rfl hR2.ins rfl ?_)
 refine yr (c:=',') (e:=e1) hR2 hT (fun k pl hb=>by rw[h2];exact Ay hb) (fun c H3 hR3 kp3=>?_) (fun c nb H3 hR3 kp3=>?_)
 ·rw[QF c]at h2
  have ms3:=ms.keep (bJ G) hR.cells kp3
  obtain⟨hn,vs3,el3,hlen3⟩:=ms3.cell
  refine(eX _ rfl (bu ?_))
  refine fZ (I:=I) (μ:=μ) (i:=(x,p1,e1)) ?_
  refine(eX _ rfl ⟨.inl ⟨rfl,_,aM.of el3⟩,eX _ rfl ?_⟩)
  refine cv hR3 hd hm hT h2 (fun x s k pl hb=>Ay hb) fun x' p2 e2 hS2 h3 H4 v4 hR4 kp4 md4=>?_
  have ms4:=ms3.keep (bJ G) hR.cells kp4
  obtain⟨_,vs4,el4,hlen4⟩:=ms4.cell
  obtain⟨F4,⟨ph4,hph4,hs4⟩,sn4⟩:=md4
  have lc:dC H H4 (upd H4 l (.lst (vs4++[v4]))) l:=eY hn el4
  have sz:=qv hR.len p
  have l2:=nA (y4 d _) hS2
  have l3:=pB (g0 c)
  refine⟨l,vs4,v4,rfl,rfl,el4,by lia,(x∘x',p2,e2),?_,rfl,hR4.bV hR lc,((kp2.trans kp3).trans kp4).bV lc,h3,pss++[ph4],ms4.append G el4 ⟨F4,hph4,sn4⟩ (fk el3) ((kp2.trans kp3).grow hR3.cells),fun rest=>?_,?_⟩
  ·show(toks b p2).length<(toks b p1).length
   lia
  ·show bY (x (x' rest))=_
   rw[tx,hs4,List.append_assoc];rfl
  ·show(pss++[ph4]).length+(toks b p2).length<=_
   rw[List.length_append,List.length_singleton];lia
 ·have h2':cR d (ae b p e)=.ok (x .nil,ae b p1 e1):=by
   rw[h2];unfold jD;rw[if_neg (by rw[c];decide)]
  have ms3:=ms.keep (bJ G) hR.cells kp3
  refine(eX _ rfl (bD (eX _ rfl (fun x6 dx6 n6 nd6 ne6=>⟨x6,dx6,.ref l,rfl,aB,fun H6 e6 kp6=>⟨rfl,?_⟩⟩))))
  have sm6:=aO.made n6 nd6 kp6
  refine kk _ _ _ h2' H6 _ (hR3.same sm6) ((kp2.trans kp3).trans (bp sm6)) ?_
  refine(Md.listed (cE a n) ms3 ((kp2.trans kp3).grow hR3.cells) sm6 n6 e6).map fun F q=>?_
  show fQ a (cO a n) _ F _ (bY (x .nil))
  rw[tx .nil,show bY .nil=[]from rfl,List.append_nil];exact q
theorem w6(T:Tx P w K mg a):∀m,da P w K mg base a (40+3*m) a.lI a.lK m (ro a m) cR
 |0=>xF
 |m+1=>K4 T (k:=40+3*m+1+1) (by lia) (QL T (by lia) (K1 T (w6 T m)))
end Wale
end
section
set_option Elab.async false
set_option linter.all false
set_option maxRecDepth 100000
set_option maxHeartbeats 2000000
namespace Wale
open PySem PySem.Spec PyProof.Rows L2
open Wm
open LsWale (ascii Fault eatSign eatWord eatOpen anyName newName oldName markName holdName wanted isName PLAINS)
variable {P:Program}{w:World}{K:PySem.W.Frag}{mg:Str->Option Value}{base:Heap}{a:Ad}
def qW(a:Ad):Rep ST:=fun H F v f=>∃(c dx:Addr)(pv:V)(ph:List PT),v=.ref c/\F c/\H c=some (.ins a.dP dx [("phrase",pv),("body",.ay)])/\bE a 10 H F pv ph/\f=.mk ph none
def Dq(a:Ad)(r:Rep ST):Rep ST:=fun H F v f=>∃(c dx:Addr)(pv bv:V)(ph:List PT)(fs:List ST),v=.ref c/\F c/\H c=some (.ins a.dP dx [("phrase",pv),("body",bv)])/\bE a 10 H F pv ph/\bM r H F bv fs/\f=.mk ph (some fs)
def cQ(a:Ad):Nat->Rep ST
 |0=>qW a
 |n+1=>fun H F v f=>qW a H F v f\/Dq a (cQ a n) H F v f
theorem yP(a:Ad):Good (qW a) where
 frame:=by
  rintro H H' F v x ⟨c,dx,pv,ph,rfl,h1,h2,h3,h4⟩ e
  exact⟨c,dx,pv,ph,rfl,h1,by rw[e c h1];exact h2,(cK a 10).frame h3 e,h4⟩
 mono:=by
  rintro H F F' v x ⟨c,dx,pv,ph,rfl,h1,h2,h3,h4⟩ m
  exact⟨c,dx,pv,ph,rfl,m c h1,h2,(cK a 10).mono h3 m,h4⟩
theorem DC{r:Rep ST}(G:Good r):Good (Dq a r) where
 frame:=by
  rintro H H' F v x ⟨c,dx,pv,bv,ph,fs,rfl,h1,h2,h3,h4,h5⟩ e
  exact⟨c,dx,pv,bv,ph,fs,rfl,h1,by rw[e c h1];exact h2,(cK a 10).frame h3 e,(bJ G).frame h4 e,h5⟩
 mono:=by
  rintro H F F' v x ⟨c,dx,pv,bv,ph,fs,rfl,h1,h2,h3,h4,h5⟩ m
  exact⟨c,dx,pv,bv,ph,fs,rfl,m c h1,h2,(cK a 10).mono h3 m,(bJ G).mono h4 m,h5⟩
theorem gD(a:Ad):∀n,Good (cQ a n)
 |0=>yP a
 |n+1=>⟨fun h e=>h.elim (fun z=>.inl ((yP a).frame z e)) fun z=>.inr ((DC (gD a n)).frame z e),fun h m=>h.elim (fun z=>.inl ((yP a).mono z m)) fun z=>.inr ((DC (gD a n)).mono z m)⟩
theorem NX(n:Nat){H:Hp}{F:Fp}{v:V}{f:ST}(h:qW a H F v f):cQ a n H F v f:=by
 cases n with
 |zero=>exact h
 |succ n=>exact .inl h
def mq(a:Ad)(n:Nat):Rep LsWale.Stats:=fun H F v st=>bM (cQ a n) H F v (bA st)/\(bA st).length<=20001
def Eg(a:Ad)(n:Nat):Rep (LsWale.Stats->LsWale.Stats):=fun H F v k=>∃f,cQ a n H F v f/\∀r,bA (k r)=f::bA r
theorem zf(a:Ad)(n:Nat):Good (mq a n):=⟨fun⟨h,q⟩e=>⟨(bJ (gD a n)).frame h e,q⟩,fun⟨h,q⟩m=>⟨(bJ (gD a n)).mono h m,q⟩⟩
theorem Md.zx{n:Nat}{H0 H H':Hp}{u:V}{ph:List PT}{x dx:Addr}(m:Md (bE a 10) H0 H u ph)(g:cz H0 H)(s:aO H H')(nx:H x=none)(e:H' x=some (.ins a.dP dx [("phrase",u),("body",.ay)])):Md (cQ a n) H0 H' (.ref x) (.mk ph none):=by
 obtain⟨F,h,sn⟩:=m.same (cK a 10) s
 refine⟨fun b=>b=x\/F b,NX n ⟨x,dx,u,ph,rfl,.inl rfl,e,(cK a 10).mono h fun b hb=>.inr hb,rfl⟩,fun b hb=>?_⟩
 rcases hb with rfl|hb
 ·exact⟨g.none nx,_,e⟩
 ·exact sn b hb
theorem Md.CU{n:Nat}{H0 H H':Hp}{u t:V}{ph:List PT}{fs:List ST}{x dx:Addr}(m:Md (bE a 10) H0 H u ph)(mb:Md (bM (cQ a n)) H0 H t fs)(g:cz H0 H)(s:aO H H')(nx:H x=none)(e:H' x=some (.ins a.dP dx [("phrase",u),("body",t)])):
  Md (cQ a (n+1)) H0 H' (.ref x) (.mk ph (some fs)):=by
 obtain⟨F,h,sn⟩:=m.same (cK a 10) s
 obtain⟨F2,h2,sn2⟩:=mb.same (bJ (gD a n)) s
 refine⟨fun b=>b=x\/F b\/F2 b,Or.inr ⟨x,dx,u,t,ph,fs,rfl,.inl rfl,e,(cK a 10).mono h fun b hb=>.inr (.inl hb),(bJ (gD a n)).mono h2 fun b hb=>.inr (.inr hb),rfl⟩,fun b hb=>?_⟩
 rcases hb with rfl|hb|hb
 ·exact⟨g.none nx,_,e⟩
 ·exact sn b hb
 ·exact sn2 b hb
def xV(d:Nat)(s:ah):Except Fault ((aQ×Bool)×ah):=bc .sum d s>>=fun x=>.ok ((x.1,x.2.isWord "round"),if x.2.isWord "round"=true then x.2.next else x.2)
def KR(x:aQ×Bool):List PT:=.tx (norm x.1)::sD x.2
theorem Ju:("round":Str)=strOf (ascii "round"):=by decide +kernel
theorem D9:aI ["reader","phrase"] ["reader"] (aC xS):=⟨rfl,rfl,rfl,by decide +kernel,rfl,by decide +kernel,by decide +kernel⟩
theorem JR(T:Tx P w K mg a)(N:Nat):da P w K mg base a 38 a.sk a.tD 9 (hG (eD a N) KR) xV:=by
 refine aG.bz (k:=37) T.Er.fn D9 fJ (fun cdv A outer s H vs Q E hr h=>?_)
 obtain⟨b,R,p,d,e,rfl,hR,hd,hm,hT,kk⟩:=fV h
 have C:=T.bL.cl
 have G:=cE a N
 refine⟨_,aj (a3 (i:=1) D9.nd rfl (Or.inl rfl) (bT (aa (aN T.jz (j8 T 9) hr aw (aa (pv 0) ag)) ag)))
  (aj (a4 (cY (a0 (pv 0) C T.eB.mt (j0 T) (hr.mono (by first|decide|lia)) T.eB.bd .nil aw (aa aT ag))) (ak (a9 ((eh PySem.F.plainAttrs_list PySem.F.slot_list_append PySem.F.type_list_append gJ (pv 1) (aa aT ag))))) ba) (ak (aF (pv 1)))),?_⟩
 refine(eX _ rfl ?_)
 refine cv hR hd hm hT rfl (fun x s k pl hb=>by dsimp only;rw[if_neg (by rw[gZ hb];decide)];exact dE hb) fun x p1 e1 hS h1 H1 v1 hR1 kp1 md1=>⟨(by show 1<=sizeLine;decide),fun l hl=>?_⟩
 dsimp only at h1
 have ml:Md (bE a N) H _ (.ref l) [.tx (norm x)]:=aK.list G (aK.cons G (jG md1) aK.nil) hl (kp1.grow hR1.cells)
 have hR2:=hR1.same (aS (o:=.lst [v1]) hl)
 have kp2:=kp1.trans (bp (aS (o:=.lst [v1]) hl))
 refine(rM rfl hR2.ins rfl ?_)
 refine pU (c:="round") (e:=e1) hR2 hT (fun k pl hb=>by rw[h1,if_neg (by rw[gZ hb];decide)];exact dE hb) (fun c H3 hR3 kp3=>?_) (fun c nb H3 hR3 kp3=>?_)
 ·rw[if_pos c,cV (ki c),c]at h1
  have ml3:=ml.keep (cK a N) hR.cells kp3
  obtain⟨hn,vs3,el3,hlen3⟩:=ml3.cell
  have lc:dC H H3 (upd H3 l (.lst (vs3++[.str (strOf (ascii "round"))]))) l:=eY hn el3
  refine(eX _ rfl (bu (eX _ rfl ⟨.inl ⟨rfl,_,aM.of el3⟩,l,vs3,eX _ rfl ⟨rfl,el3,(by rw[hlen3];show 1<sizeLine;decide),?_⟩⟩)))
  rw[Ju]
  refine(eX _ rfl (kk _ _ _ h1 _ _ (hR3.bV hR lc) ((kp2.trans kp3).bV lc) ?_))
  refine(ml3.append G el3 (b8 (H0:=H3) (ascii "round")) (fk el3) ((kp2.trans kp3).grow hR3.cells)).map fun F q=>⟨q,(by show 2<=4;decide)⟩
 ·rw[if_neg (by rw[c];decide),c]at h1
  refine(eX _ rfl (bD (eX _ rfl (kk _ _ _ h1 H3 _ hR3 (kp2.trans kp3) ?_))))
  refine(ml.keep (cK a N) hR.cells kp3).map fun F q=>⟨q,(by show 1<=4;decide)⟩
def iQ(s:ah):Option Bool:=if s.isWord "rs"=true then some true else if s.isWord "ws"=true then some false else none
def ic(d:Nat)(s:ah):Except Fault ((Option Bool×LsWale.Items)×ah):=cR d (if(s.isWord "rs"||s.isWord "ws")=true then s.next else s)>>=fun x=>.ok ((iQ s,x.1),x.2)
def qS(x:Option Bool×LsWale.Items):List PT:=nQ x.1++[.li (bY x.2)]
theorem PJ{s:ah}{k pl:Nat}(h:HB s k pl)(d:Nat):ic d s=.error ⟨k,pl⟩:=by
 unfold ic
 rw[if_neg (by rw[gZ h,gZ h];decide),Jw h];rfl
theorem JQ(d:Nat)(s:ah){α:Type}(f:LsWale.Items×ah->Except Fault α):(cR d (rowAt s)>>=f)=ic d s.next>>=fun x=>f (x.1.2,x.2):=by
 unfold ic
 rw[bW]
 have:rowAt s=if(s.next.isWord "rs"||s.next.isWord "ws")=true then s.next.next else s.next:=by
  unfold rowAt m7
  by_cases h1:s.next.isWord "rs"=true
  ·rw[if_pos h1,h1];rfl
  ·rw[if_neg h1,Bool.eq_false_iff.mpr h1,Bool.false_or]
   by_cases h2:s.next.isWord "ws"=true
   ·rw[if_pos h2,if_pos h2];rfl
   ·rw[if_neg h2,if_neg h2];rfl
 rw[this];rfl
theorem Gg:aI ["reader","phrase"] ["reader"] (aC yB):=⟨rfl,rfl,rfl,by decide +kernel,rfl,by decide +kernel,by decide +kernel⟩
theorem Jh{b:Bytes}{p:Nat}(e:aD):ee (.str (bq (aq b p))) [.str "rs",.str "ws"]=((ae b p e).isWord "rs"||(ae b p e).isWord "ws"):=by
 have h:=in_words (b:=b) (p:=p) (e:=e) ["rs","ws"] (l:=["rs","ws"]) (by decide +kernel) (by decide +kernel)
 rw[show(["rs","ws"].any fun c=>(ae b p e).isWord c)=((ae b p e).isWord "rs"||((ae b p e).isWord "ws"||false))from rfl,Bool.or_false]at h
 exact h
theorem N7{α:Type}(r:Except Fault α):r=r>>=fun x=>.ok x:=by cases r<;>rfl
theorem Md.Be{n:Nat}{H0 H:Hp}{v:V}{x:LsWale.Items}(m:Md (ro a n) H0 H v x):Md (cO a (n+1)) H0 H v (.li (bY x)):=m.map fun F q=>Or.inr (Or.inl ⟨_,q,rfl⟩)
theorem IK(T:Tx P w K mg a):da P w K mg base a 68 a.sW a.pY 9 (hG (eD a 10) qS) ic:=by
 refine aG.bz (k:=67) T.FF.fn Gg fJ (fun cdv A outer s H vs Q E hr h=>?_)
 obtain⟨b,R,p,d,e,rfl,hR,hd,hm,hT,kk⟩:=fV h
 have C:=T.bL.cl
 have G:=cE a 10
 refine⟨_,aj (a3 (i:=1) Gg.nd rfl (Or.inl rfl) (bT ag))
  (aj (a4 (a5 rn (aE (cH (pv 0) C T.cj.mt (iE T) (hr.mono (by first|decide|lia)) T.cj.bd .nil aw) rfl) (kH (aa aT (aa aT ag))) (by rfl)) (ak (a9 ((eh PySem.F.plainAttrs_list PySem.F.slot_list_append PySem.F.type_list_append gJ (pv 1) (aa (aE (cH (pv 0) C T.cW.mt (jv T) (hr.mono (by first|decide|lia)) T.cW.bd .nil aw) rfl) ag))))) ba)
  (aj (a9 ((eh PySem.F.plainAttrs_list PySem.F.slot_list_append PySem.F.type_list_append gJ (pv 1) (aa (aN T.uL (w6 T 9) hr aw (aa (pv 0) ag)) ag)))) (ak (aF (pv 1))))),?_⟩
 refine⟨(by show 0<=sizeLine;decide),fun l hl=>?_⟩
 have ml:Md (bE a 10) H _ (.ref l) []:=aK.list G aK.nil hl (cz.refl _)
 have hR0:=hR.same (aS (o:=.lst []) hl)
 have kp0:aJ R H (upd H l (.lst [])):=bp (aS hl)
 refine zr (e:=e) T rfl hR0 hT (fun k pl hb=>.inl (PJ hb d)) fun nb H1 hR1 kp1=>?_
 have kp01:=kp0.trans kp1
 have ml1:=ml.keep (cK a 10) hR.cells kp1
 obtain⟨hn,vs1,el1,hlen1⟩:=ml1.cell
 cases vs1 with
 |cons _ _=>cases hlen1
 |nil=>
 rw[Jh e]
 refine aX (fun c=>?_) (fun c=>?_)
 ·have e1:ic d (ae b p e)=cR d (ae b (aA b p) e)>>=fun x=>.ok ((iQ (ae b p e),x.1),x.2):=by
   unfold ic
   rw[if_pos c,cV (u7 c)]
  refine(eX _ rfl ⟨.inl ⟨rfl,_,aM.of el1⟩,rM rfl hR1.ins rfl ?_⟩)
  refine jB hR1 nb fun H2 y hR2 kp2 tk2=>?_
  obtain⟨dt,ft,et,lt1,lt2,lt3,lt4,lt5⟩:=tk2
  have kp02:=kp01.trans kp2
  have ml2:=ml1.keep (cK a 10) hR.cells kp2
  obtain⟨_,vs2,el2,hlen2⟩:=ml2.cell
  have hw:∃wd:Bytes,bq (aq b p)=strOf wd/\nQ (iQ (ae b p e))=t1 wd:=by
   by_cases c1:(ae b p e).isWord "rs"=true
   ·exact⟨ascii "rs",gj c1,by unfold iQ;rw[if_pos c1];rfl⟩
   ·exact⟨ascii "ws",gj (((Bool.or_eq_true _ _).mp c).resolve_left c1),by unfold iQ;rw[if_neg c1,if_pos (((Bool.or_eq_true _ _).mp c).resolve_left c1)];rfl⟩
  obtain⟨wd,hwd,hrow⟩:=hw
  rw[hwd]at lt2
  refine(rG rfl et T.bx.cl T.cf lt2 ⟨l,vs2,eX _ rfl ⟨rfl,el2,(by rw[hlen2];show 0<sizeLine;decide),?_⟩⟩)
  have lc:dC H H2 (upd H2 l (.lst (vs2++[.str (strOf wd)]))) l:=eY hn el2
  have ml3:=ml2.append G el2 (b8 (H0:=H2) wd) (fk el2) (kp02.grow hR2.cells)
  have hR3:=hR2.bV hR lc
  have kp03:=kp02.bV lc
  refine(eX _ rfl ⟨.inl ⟨rfl,_,aM.of aB⟩,eX _ rfl ?_⟩)
  refine cv hR3 hd hm hT e1 (fun x s k pl hb=>dE hb) fun x p3 e3 hS e4 H4 v4 hR4 kp4 md4=>?_
  have ml4:=ml3.keep (cK a 10) hR.cells kp4
  obtain⟨_,vs4,el4,hlen4⟩:=ml4.cell
  have lc4:dC H H4 (upd H4 l (.lst (vs4++[v4]))) l:=eY hn el4
  refine⟨l,vs4,v4,rfl,rfl,el4,(by rw[hlen4];show 1<sizeLine;decide),eX _ rfl (kk _ _ _ e4 _ _ (hR4.bV hR lc4) ((kp03.trans kp4).bV lc4) ?_)⟩
  refine(ml4.append G el4 md4.Be (fk aB) (kp03.grow hR3.cells)).map fun F q=>?_
  show eD a 10 _ F _ (qS (iQ (ae b p e),x))
  unfold qS
  rw[hrow]
  exact⟨q,(by show 2<=4;decide)⟩
 ·have e1:ic d (ae b p e)=cR d (ae b p e)>>=fun x=>.ok ((iQ (ae b p e),x.1),x.2):=by
   unfold ic
   rw[if_neg c]
  have c':=Bool.eq_false_iff.mpr c
  rw[Bool.or_eq_false_iff]at c'
  refine(eX _ rfl ⟨.inl ⟨rfl,_,aM.of el1⟩,eX _ rfl ?_⟩)
  refine cv hR1 hd hm hT e1 (fun x s k pl hb=>dE hb) fun x p3 e3 hS e4 H4 v4 hR4 kp4 md4=>?_
  have ml4:=ml1.keep (cK a 10) hR.cells kp4
  obtain⟨_,vs4,el4,hlen4⟩:=ml4.cell
  have lc4:dC H H4 (upd H4 l (.lst (vs4++[v4]))) l:=eY hn el4
  refine⟨l,vs4,v4,rfl,rfl,el4,(by rw[hlen4];show 0<sizeLine;decide),eX _ rfl (kk _ _ _ e4 _ _ (hR4.bV hR lc4) ((kp01.trans kp4).bV lc4) ?_)⟩
  refine(ml4.append G el4 md4.Be (fk el1) (kp01.grow hR1.cells)).map fun F q=>?_
  show eD a 10 _ F _ (qS (iQ (ae b p e),x))
  unfold qS iQ
  rw[if_neg (by rw[c'.1];decide),if_neg (by rw[c'.2];decide)]
  exact⟨q,(by show 1<=4;decide)⟩
def vQ(d:Nat)(s:ah):Except Fault ((Bytes×Option LsWale.Sum)×ah):=oldName s.env.blocks s>>=fun x=>if x.2.sums=true then(bc .sum d x.2>>=fun y=>.ok ((x.1,some y.1),y.2))else .ok ((x.1,none),x.2)
def Oc(x:Bytes×Option LsWale.Sum):List PT:=tw x.1::lA x.2
theorem CW:aI ["reader","phrase"] ["reader"] (aC xi):=⟨rfl,rfl,rfl,by decide +kernel,rfl,by decide +kernel,by decide +kernel⟩
theorem Ly(T:Tx P w K mg a)(N:Nat):da P w K mg base a 38 a.rS a.tu 9 (hG (eD a N) Oc) vQ:=by
 refine aG.bz (k:=37) T.FE.fn CW fJ (fun cdv A outer s H vs Q E hr h=>?_)
 obtain⟨b,R,p,d,e,rfl,hR,hd,hm,hT,kk⟩:=fV h
 have C:=T.bL.cl
 have G:=cE a N
 refine⟨_,aj (a3 (i:=1) CW.nd rfl (Or.inl rfl) (bT (aa ((a0 (pv 0) C T.jk.mt (wH T) (hr.mono (by first|decide|lia)) T.jk.bd .nil aw (aa (bH T.xM) ag))) ag)))
  (aj (a4 (cY (aN T.yZ (Fk T) (hr.mono (by first|decide|lia)) aU (aa (cH (pv 0) C T.cj.mt (iE T) (hr.mono (by first|decide|lia)) T.cj.bd .nil aw) ag))) (ak (a9 ((eh PySem.F.plainAttrs_list PySem.F.slot_list_append PySem.F.type_list_append gJ (pv 1) (aa (aN T.jz (j8 T 9) (hr.mono (by first|decide|lia)) aw (aa (pv 0) ag)) ag))))) ba)
  (ak (aF (pv 1)))),?_⟩
 refine(rM rfl hR.ins rfl ?_)
 refine vD (k:=.blocks) hR rfl hT rfl rfl fun y hy H1 hR1 kp1=>⟨(by show 1<=sizeLine;decide),fun l hl=>?_⟩
 dsimp only at hy
 have ml:Md (bE a N) H _ (.ref l) [tw y]:=aK.list G (aK.cons G (b8 (H0:=H) (H:=H1) y) aK.nil) hl (kp1.grow hR1.cells)
 have hR1':=hR1.same (aS (o:=.lst [.str (strOf y)]) hl)
 have kp1':=kp1.trans (bp (aS (o:=.lst [.str (strOf y)]) hl))
 refine(rM rfl hR1'.ins rfl ?_)
 have hb1:∀k pl,HB (ae b (aA b p) e) k pl->bN (vQ d (ae b p e)) k pl:=fun k pl hb=>by
  rw[hy,if_neg (by rw[Gx hb];decide)]
  exact dE hb
 refine nz (e:=e) hR1' hT hb1 fun nb2 H2 x hR2 kp2 tk2=>?_
 have kp02:=kp1'.trans kp2
 have ml2:=ml.keep (cK a N) hR.cells kp2
 obtain⟨hn,vs2,el2,hlen2⟩:=ml2.cell
 refine⟨b,_,x,rfl,tk2,nb2,eX _ rfl ?_⟩
 rw[Cw b _ .none_ e]
 refine aX (fun c=>?_) (fun c=>?_)
 ·rw[if_pos c]at hy
  refine(eX _ rfl ⟨.inl ⟨rfl,_,aM.of el2⟩,eX _ rfl ?_⟩)
  refine cv hR2 hd hm hT hy (fun x s k pl hb=>dE hb) fun x p3 e3 hS e4 H3 v3 hR3 kp3 md3=>?_
  have ml3:=ml2.keep (cK a N) hR.cells kp3
  obtain⟨_,vs3,el3,hlen3⟩:=ml3.cell
  have lc:dC H H3 (upd H3 l (.lst (vs3++[v3]))) l:=eY hn el3
  refine⟨l,vs3,v3,rfl,rfl,el3,(by rw[hlen3];show 1<sizeLine;decide),eX _ rfl (kk _ _ _ e4 _ _ (hR3.bV hR lc) ((kp02.trans kp3).bV lc) ?_)⟩
  exact(ml3.append G el3 (jG md3) (fk el2) (kp02.grow hR2.cells)).map fun F q=>⟨q,(by show 2<=4;decide)⟩
 ·rw[if_neg c]at hy
  refine(eX _ rfl (kk _ _ _ hy H2 _ hR2 kp02 ?_))
  exact ml2.map fun F q=>⟨q,(by show 1<=4;decide)⟩
def iN(d:Nat)(s:ah):Except Fault (LsWale.Stats×ah):=eatOpen '{' d s>>=fun t=>cU (d+1) t>>=fun i=>eatSign '}' i.2>>=fun u=>.ok (i.1,u)
theorem Hz{s:ah}{k pl:Nat}(h:HB s k pl)(d:Nat):iN d s=.error ⟨k,pl⟩:=by
 unfold iN
 rw[zM h];rfl
theorem CA:aI ["reader","stats"] ["reader"] (aC wR):=⟨rfl,rfl,rfl,by decide +kernel,rfl,by decide +kernel,by decide +kernel⟩
theorem D2(T:Tx P w K mg a){k m n:Nat}(hk:10<=k)(F:da P w K mg base a k a.kL a.l9 m (mq a n) cU):da P w K mg base a (k+1) a.nT a.oG (m+1) (mq a n) iN:=by
 refine aG.bz (k:=k) T.yn.fn CA fJ (fun cdv A outer s H vs Q E hr h=>?_)
 obtain⟨b,R,p,d,e,rfl,hR,hd,hm,hT,kk⟩:=fV h
 have C:=T.bL.cl
 refine⟨_,aj (a9 (a0 (pv 0) C T.lY.mt (AE T) (hr.mono (by first|decide|lia)) T.lY.bd .nil aw (aa aT ag))) (aj (a3 (i:=1) CA.nd rfl (Or.inl rfl) (aN T.xp F hr aw (aa (pv 0) ag))) (aj (a9 (a0 (pv 0) C T.lB.mt (xI T) (hr.mono (by first|decide|lia)) T.lB.bd .nil aw (aa aT ag))) (ak (aF (pv 1))))),?_⟩
 refine(rM rfl hR.ins rfl ?_)
 refine yU hR hd hT rfl fun e2 l8 hs H3 hR3 kp3=>(eX _ rfl ?_)
 refine cv (m:=m) hR3 (by lia) (by lia) hT e2 (fun x s k pl hb=>xt hb) fun y p' e' hS e3 H4 v4 hR4 kp4 md4=>?_
 refine(rM rfl hR4.ins rfl ?_)
 exact yD hR4 hT e3 fun e4 H5 hR5 kp5=>(eX _ rfl (kk _ _ _ e4 H5 v4 hR5 ((kp3.trans kp4).trans kp5) ((md4.keep (zf a n) hR3.cells kp5).old (kp3.grow hR3.cells))))
end Wale
end
section
set_option Elab.async false
set_option linter.all false
set_option maxRecDepth 100000
set_option maxHeartbeats 2000000
namespace Wale
open PySem PySem.Spec PyProof.Rows L2
open Wm
open LsWale (ascii Fault eatSign eatWord eatOpen anyName newName oldName markName holdName wanted isName PLAINS)
variable {P:Program}{w:World}{K:PySem.W.Frag}{mg:Str->Option Value}{base:Heap}{a:Ad}
theorem QZ{b:Bytes}{p d:Nat}{e:aD}{g:Except Fault ((LsWale.Stats->LsWale.Stats)×ah)}(h:eK d (ae b p e)=some g):c7 (aq b p)=true:=by
 by_cases c:c7 (aq b p)=true
 ·exact c
 ·unfold eK fw at h
  simp only[xP c]at h
  cases h
theorem tR:aI ["reader","word","phrase"] ["reader"] (aC wL):=⟨rfl,rfl,rfl,by decide +kernel,rfl,by decide +kernel,by decide +kernel⟩
theorem Lr(T:Tx P w K mg a){k m n:Nat}(hk:68<=k)(F:da P w K mg base a k a.nT a.oG m (mq a n) iN):wu P w K mg base a (k+1) a.oV a.oM m (Eg a (n+1)) eK:=by
 refine aG.bz (k:=k) T.Ef.fn tR xy (fun cdv A outer s H vs Q E hr h=>?_)
 obtain⟨b,R,p,d,e,g,rfl,hR,hd,hm,hg,hT,kk⟩:=wW h
 have C:=T.bL.cl
 have G:=cE a 10
 have GP:=cK a 10
 have hr37:bC (10+3*9) _:=hr.mono (by first|decide|lia)
 refine⟨_,aj (a3 (i:=1) tR.nd rfl (Or.inl rfl) (aE (cH (pv 0) C T.cW.mt (jv T) (hr.mono (by first|decide|lia)) T.cW.bd .nil aw) rfl))
  (aj (a4 (PW.pt (iM (a5 cp (pv 1) aT (aZ _)) (iK (a5 cp (pv 1) aT (aZ _)))))
   (aj (a3 (i:=2) tR.nd rfl (Or.inl rfl) (bT (aa (pv 1) (aa (aN T.jz (j8 T 9) hr37 aw (aa (pv 0) ag)) ag))))
   (ak (aF (eU T.dY.eS (kh T) (hr.mono (by first|decide|lia)) rfl T.dY.at_ T.je.2 .nil aU (aa (pv 2) (aa (aN T.yn F hr aw (aa (pv 0) ag)) ag)))))) ba)
  (aj (a3 (i:=2) tR.nd rfl (Or.inl rfl) (bT (aa (pv 1) ag)))
  (aj (a4 (a5 cp (pv 1) aT (aZ _)) (ak (a9 ((eh PySem.F.plainAttrs_list PySem.F.slot_list_extend PySem.F.type_list_extend rj (pv 2) (aa (aN T.Er (JR T 10) (hr.mono (by first|decide|lia)) aw (aa (pv 0) ag)) ag)))))
   (ak (a4 (a5 cp (pv 1) aT (aZ _)) (ak (a9 ((eh PySem.F.plainAttrs_list PySem.F.slot_list_extend PySem.F.type_list_extend rj (pv 2) (aa (aN T.FF (IK T) (hr.mono (by first|decide|lia)) aw (aa (pv 0) ag)) ag)))))
    (ak (a4 (a5 cp (pv 1) aT (aZ _)) (ak (a9 ((eh PySem.F.plainAttrs_list PySem.F.slot_list_extend PySem.F.type_list_extend rj (pv 2) (aa (aN T.FE (Ly T 10) (hr.mono (by first|decide|lia)) aw (aa (pv 0) ag)) ag))))) ba)))))
  (aj (a9 (a0 (pv 0) C T.cX.mt (iT T) (hr.mono (by first|decide|lia)) T.cX.bd .nil aw (aa aT ag))) (ak (aF (eU T.dY.eS (kh T) (hr.mono (by first|decide|lia)) rfl T.dY.at_ T.je.2 .nil aU (aa (pv 2) (aa fO ag))))))))),?_⟩
 have ht:=QZ hg
 refine sH fun R1 r1=>?_
 refine(rM rfl hR.ins rfl ?_)
 refine jB hR (vP ht) fun H1 x hR1 kp1 tk1=>?_
 obtain⟨dt,ft,et,lt1,lt2,lt3,lt4,lt5⟩:=tk1
 refine(rG rfl et T.bx.cl T.cf lt2 (r1 _ _ (sH fun R2 r2=>(eX _ rfl ⟨rfl,eX _ rfl ?_⟩))))
 unfold eK fw at hg
 rw[JQ,cV ht]at hg
 have again:∀c:((ae b p e).isWord "repeat"||(ae b p e).isWord "until")=true,g=bc .sum d (ae b (aA b p) e)>>=fun x=>iN d x.2>>=fun i=>.ok (fun r=>if(ae b p e).isWord "repeat"=true then .again (ae b p e).place x.1 i.1 r else .until_ (ae b p e).place x.1 i.1 r,i.2):=fun c=>by
  have n1:¬(ae b p e).isWord "on"=true:=fun z=>by
   rw[nB z (y:="repeat") (by decide +kernel),nB z (y:="until") (by decide +kernel)]at c;cases c
  have n2:¬(ae b p e).isWord "row"=true:=fun z=>by
   rw[nB z (y:="repeat") (by decide +kernel),nB z (y:="until") (by decide +kernel)]at c;cases c
  rw[if_neg n1,if_neg n2,if_pos c]at hg
  rw[<-Option.some.inj hg]
  unfold iN
  simp only[bW]
  rfl
 -- the end of repeat and until
 have endB:∀{wd:Bytes}{x:aQ}{i:LsWale.Stats}{H4 H6:Hp}{l x6 dx6:Addr}{v4:V}{p4:Nat}{e4:aD},Md (bE a 10) H H4 (.ref l) [tw wd,.tx (norm x)]->Md (mq a n) H H4 v4 i->au a K b R p4 d (lst e4) H4->aJ R H H4->aO H4 H6->H4 x6=none->
   H6 x6=some (.ins a.dP dx6 [("phrase",.ref l),("body",v4)])->∀kf:LsWale.Stats->LsWale.Stats,g=.ok (kf,ae b p4 e4)->(∀r,bA (kf r)=.mk (ts wd x) (some (bA i))::bA r)->Q (.ref x6) H6:=
  fun{wd x i H4 H6 l x6 dx6 v4 p4 e4}mp mb hR4 kp4 sm6 n6 e6 kf hk tx=>by
  obtain⟨F4,⟨hfs,-⟩,s4⟩:=mb
  refine kk _ _ _ hk H6 _ (hR4.same sm6) (kp4.trans (bp sm6)) ?_
  exact(Md.CU mp ⟨F4,hfs,s4⟩ (kp4.grow hR4.cells) sm6 n6 e6).map fun F q=>⟨_,q,tx⟩
 -- the end of the others
 have end0:∀{ph:List PT}{H4 H6:Hp}{l x6 dx6:Addr}{p4:Nat}{e4:aD},Md (bE a 10) H H4 (.ref l) ph->au a K b R p4 d (lst e4) H4->aJ R H H4->aO H4 H6->H4 x6=none->
   H6 x6=some (.ins a.dP dx6 [("phrase",.ref l),("body",.ay)])->∀kf:LsWale.Stats->LsWale.Stats,g=.ok (kf,ae b p4 e4)->(∀r,bA (kf r)=.mk ph none::bA r)->Q (.ref x6) H6:=
  fun{ph H4 H6 l x6 dx6 p4 e4}mp hR4 kp4 sm6 n6 e6 kf hk tx=>by
  refine kk _ _ _ hk H6 _ (hR4.same sm6) (kp4.trans (bp sm6)) ?_
  exact(Md.zx (n:=n+1) mp (kp4.grow hR4.cells) sm6 n6 e6).map fun F q=>⟨_,q,tx⟩
 rw[cN,fY (c:="repeat") e]
 refine aX (fun c=>?_) (fun c=>?_)
 ·have cc:((ae b p e).isWord "repeat"||(ae b p e).isWord "until")=true:=by rw[c];rfl
  refine bu (eX _ rfl (eX _ rfl ?_))
  refine cv hR1 hd (by lia) hT (again cc) (fun x s k pl hb=>by rw[Hz hb];exact .inl rfl) fun x p2 e2 hS e3 H2 v2 hR2 kp2 md2=>⟨(by show 2<=sizeLine;decide),fun l hl=>?_⟩
  have kp02:=kp1.trans kp2
  rw[gj c]
  have mp:Md (bE a 10) H _ (.ref l) [tw (ascii "repeat"),.tx (norm x)]:=aK.list G (aK.cons G (b8 (H0:=H) (H:=H2) (ascii "repeat")) (aK.cons G (jG (md2.old (kp1.grow hR1.cells))) aK.nil)) hl (kp02.grow hR2.cells)
  have hR3:=hR2.same (aS (o:=.lst [.str (strOf (ascii "repeat")),v2]) hl)
  have kp03:=kp02.trans (bp (aS (o:=.lst [.str (strOf (ascii "repeat")),v2]) hl))
  refine(eX _ rfl (eX _ rfl ?_))
  refine cv hR3 hd hm hT e3 (fun x s k pl hb=>dE hb) fun i p4 e4 hS4 e5 H4 v4 hR4 kp4 md4=>fun x6 dx6 n6 nd6 ne6=>⟨x6,dx6,.ref l,v4,rfl,aB,fun H6 e6 kp6=>⟨rfl,?_⟩⟩
  refine endB (mp.keep GP hR.cells kp4) (md4.old (kp03.grow hR3.cells)) hR4 (kp03.trans kp4) (aO.made n6 nd6 kp6) n6 e6 _ e5 fun r=>?_
  dsimp only
  rw[if_pos c]
  rfl
 refine(eX _ rfl ⟨rfl,eX _ rfl ?_⟩)
 rw[cN,fY (c:="until") e]
 refine aX (fun c1=>?_) (fun c1=>?_)
 ·have cc:((ae b p e).isWord "repeat"||(ae b p e).isWord "until")=true:=by rw[c1,Bool.or_true]
  refine(eX _ rfl (eX _ rfl ?_))
  refine cv hR1 hd (by lia) hT (again cc) (fun x s k pl hb=>by rw[Hz hb];exact .inl rfl) fun x p2 e2 hS e3 H2 v2 hR2 kp2 md2=>⟨(by show 2<=sizeLine;decide),fun l hl=>?_⟩
  have kp02:=kp1.trans kp2
  rw[gj c1]
  have mp:Md (bE a 10) H _ (.ref l) [tw (ascii "until"),.tx (norm x)]:=aK.list G (aK.cons G (b8 (H0:=H) (H:=H2) (ascii "until")) (aK.cons G (jG (md2.old (kp1.grow hR1.cells))) aK.nil)) hl (kp02.grow hR2.cells)
  have hR3:=hR2.same (aS (o:=.lst [.str (strOf (ascii "until")),v2]) hl)
  have kp03:=kp02.trans (bp (aS (o:=.lst [.str (strOf (ascii "until")),v2]) hl))
  refine(eX _ rfl (eX _ rfl ?_))
  refine cv hR3 hd hm hT e3 (fun x s k pl hb=>dE hb) fun i p4 e4 hS4 e5 H4 v4 hR4 kp4 md4=>fun x6 dx6 n6 nd6 ne6=>⟨x6,dx6,.ref l,v4,rfl,aB,fun H6 e6 kp6=>⟨rfl,?_⟩⟩
  refine endB (mp.keep GP hR.cells kp4) (md4.old (kp03.grow hR3.cells)) hR4 (kp03.trans kp4) (aO.made n6 nd6 kp6) n6 e6 _ e5 fun r=>?_
  dsimp only
  rw[if_neg c]
  rfl
 have nru:¬((ae b p e).isWord "repeat"||(ae b p e).isWord "until")=true:=by rw[Bool.eq_false_iff.mpr c,Bool.eq_false_iff.mpr c1];decide
 refine r2 _ _ (sH fun R3 r3=>(eX _ rfl ⟨(by show 1<=sizeLine;decide),fun l hl=>?_⟩))
 have hR2:=hR1.same (aS (o:=.lst [.str (bq (aq b p))]) hl)
 have kp02:=kp1.trans (bp (aS (o:=.lst [.str (bq (aq b p))]) hl))
 have g02:=kp02.grow hR2.cells
 have mp:∀{wd:Bytes},bq (aq b p)=strOf wd->Md (bE a 10) H (upd H1 l (.lst [.str (bq (aq b p))])) (.ref l) [tw wd]:=fun{wd}hw=>by
  rw[hw]
  exact aK.list G (aK.cons G (b8 (H0:=H) (H:=H1) wd) aK.nil) hl (kp1.grow hR1.cells)
 have hl0:H l=none:=(kp1.grow hR1.cells).none hl
 -- extend,and what it makes
 have ext:∀{wd:Bytes}{H3:Hp}{v3:V}{t:List PT}{p3:Nat}{e3:aD},bq (aq b p)=strOf wd->au a K b R p3 d (lst e3) H3->aJ R (upd H1 l (.lst [.str (bq (aq b p))])) H3->Md (eD a 10) (upd H1 l (.lst [.str (bq (aq b p))])) H3 v3 t->
   ∃l3 vs3 ws3,v3=.ref l3/\H3 l=some (.lst vs3)/\H3 l3=some (.lst ws3)/\vs3.length+ws3.length<=sizeLine/\Md (bE a 10) H (upd H3 l (.lst (vs3++ws3))) (.ref l) (tw wd::t)/\au a K b R p3 d (lst e3) (upd H3 l (.lst (vs3++ws3)))/\aJ R H (upd H3 l (.lst (vs3++ws3))):=
  fun{wd H3 v3 t p3 e3}hw hR3 kp3 md3=>by
  obtain⟨F3,⟨hgp,lgp⟩,sn3⟩:=md3
  have mgp:Md (bE a 10) _ H3 v3 t:=⟨F3,hgp,sn3⟩
  obtain⟨l3,rfl⟩:=mgp.ref
  obtain⟨_,ws3,em3,hlem3⟩:=mgp.cell
  have mp3:=(mp hw).keep GP hR.cells kp3
  obtain⟨_,vs3,el3,hlen3⟩:=mp3.cell
  have lc:dC H H3 (upd H3 l (.lst (vs3++ws3))) l:=eY hl0 el3
  refine⟨l3,vs3,ws3,rfl,el3,em3,?_,mp3.extend G el3 mgp em3 (fk aB) g02,hR3.bV hR lc,(kp02.trans kp3).bV lc⟩
  have sz:sizeLine=16777216:=by decide
  rw[hlen3,hlem3]
  show 1+t.length<=_
  lia
 refine r3 _ _ (sH fun R4 r4=>(eX _ rfl ⟨rfl,eX _ rfl ?_⟩))
 rw[cN,fY (c:="on") e]
 refine aX (fun c2=>?_) (fun c2=>?_)
 ·rw[if_pos c2]at hg
  have e1:g=xV d (ae b (aA b p) e)>>=fun x=>eatSign ';' x.2>>=fun t=>.ok (.on (ae b p e).place x.1.1 x.1.2,t):=by
   rw[<-Option.some.inj hg]
   unfold xV
   rw[bW]
   rfl
  refine(eX _ rfl ⟨.inl ⟨rfl,_,aM.of aB⟩,eX _ rfl ?_⟩)
  refine cv hR2 hd (by lia) hT e1 (fun x s k pl hb=>kX hb) fun y p3 e3 hS e4 H3 v3 hR3 kp3 md3=>?_
  obtain⟨l3,vs3,ws3,rfl,el3,em3,hz,mp4,hR4,kp4⟩:=ext (gj c2) hR3 kp3 md3
  refine⟨l,l3,vs3,ws3,rfl,rfl,el3,em3,hz,r4 _ _ (sH fun R5 r5=>(rM rfl hR4.ins rfl ?_))⟩
  refine gU hR4 hT e4 (k:=fun e5 H5 y5 hR5 kp5 tk5=>r5 _ _ ⟨_,rfl,fun x6 dx6 n6 nd6 ne6=>⟨x6,dx6,.ref l,.ay,rfl,aB,fun H6 e6 kp6=>⟨rfl,?_⟩⟩⟩)
  refine end0 (mp4.keep GP hR.cells kp5) hR5 (kp4.trans kp5) (aO.made n6 nd6 kp6) n6 e6 _ e5 fun r=>rfl
 rw[if_neg c2]at hg
 refine(eX _ rfl ⟨rfl,eX _ rfl ?_⟩)
 rw[cN,fY (c:="row") e]
 refine aX (fun c3=>?_) (fun c3=>?_)
 ·rw[if_pos c3]at hg
  have e1:g=ic d (ae b (aA b p) e)>>=fun x=>eatSign ';' x.2>>=fun t=>.ok (.row (ae b p e).place (m7 (ae b p e)) x.1.2,t):=(Option.some.inj hg).symm
  refine(eX _ rfl ⟨.inl ⟨rfl,_,aM.of aB⟩,eX _ rfl ?_⟩)
  refine cv hR2 hd (by lia) hT e1 (fun x s k pl hb=>kX hb) fun y p3 e3 hS e4 H3 v3 hR3 kp3 md3=>?_
  obtain⟨l3,vs3,ws3,rfl,el3,em3,hz,mp4,hR4,kp4⟩:=ext (gj c3) hR3 kp3 md3
  refine⟨l,l3,vs3,ws3,rfl,rfl,el3,em3,hz,r4 _ _ (sH fun R5 r5=>(rM rfl hR4.ins rfl ?_))⟩
  refine gU hR4 hT e4 (k:=fun e5 H5 y5 hR5 kp5 tk5=>r5 _ _ ⟨_,rfl,fun x6 dx6 n6 nd6 ne6=>⟨x6,dx6,.ref l,.ay,rfl,aB,fun H6 e6 kp6=>⟨rfl,?_⟩⟩⟩)
  refine end0 (mp4.keep GP hR.cells kp5) hR5 (kp4.trans kp5) (aO.made n6 nd6 kp6) n6 e6 _ e5 fun r=>?_
  have hside:m7 (ae b p e)=y.1:=by
   unfold ic at hS
   obtain⟨z,_,hz2⟩:=gz hS
   have hz3:=(Prod.mk.inj (Except.ok.inj hz2)).1
   rw[<-hz3]
   unfold m7 iQ
   rw[cV ht]
  rw[hside];rfl
 rw[if_neg c3,if_neg nru]at hg
 refine(eX _ rfl ⟨rfl,eX _ rfl ?_⟩)
 rw[cN,fY (c:="work") e]
 refine aX (fun c4=>?_) (fun c4=>?_)
 ·rw[if_pos c4]at hg
  have e1:g=vQ d (ae b (aA b p) e)>>=fun x=>eatSign ';' x.2>>=fun t=>.ok (.work (ae b p e).place x.1.1 x.1.2,t):=by
   rw[<-Option.some.inj hg]
   unfold vQ
   rw[bW]
   refine a8 rfl fun x s hx=>?_
   dsimp only
   by_cases c5:s.sums=true
   ·rw[if_pos c5,if_pos c5,bW];rfl
   ·rw[if_neg c5,if_neg c5];rfl
  refine(eX _ rfl ⟨.inl ⟨rfl,_,aM.of aB⟩,eX _ rfl ?_⟩)
  refine cv hR2 hd (by lia) hT e1 (fun x s k pl hb=>kX hb) fun y p3 e3 hS e4 H3 v3 hR3 kp3 md3=>?_
  obtain⟨l3,vs3,ws3,rfl,el3,em3,hz,mp4,hR4,kp4⟩:=ext (gj c4) hR3 kp3 md3
  refine⟨l,l3,vs3,ws3,rfl,rfl,el3,em3,hz,r4 _ _ (sH fun R5 r5=>(rM rfl hR4.ins rfl ?_))⟩
  refine gU hR4 hT e4 (k:=fun e5 H5 y5 hR5 kp5 tk5=>r5 _ _ ⟨_,rfl,fun x6 dx6 n6 nd6 ne6=>⟨x6,dx6,.ref l,.ay,rfl,aB,fun H6 e6 kp6=>⟨rfl,?_⟩⟩⟩)
  refine end0 (mp4.keep GP hR.cells kp5) hR5 (kp4.trans kp5) (aO.made n6 nd6 kp6) n6 e6 _ e5 fun r=>rfl
 rw[if_neg c4]at hg
 by_cases c5:(ae b p e).isWord "off"=true
 ·rw[if_pos c5]at hg
  have e1:=(Option.some.inj hg).symm
  refine r4 _ _ (sH fun R5 r5=>(rM rfl hR2.ins rfl ?_))
  refine gU hR2 hT e1 (k:=fun e5 H5 y5 hR5 kp5 tk5=>r5 _ _ ⟨_,rfl,fun x6 dx6 n6 nd6 ne6=>⟨x6,dx6,.ref l,.ay,rfl,aB,fun H6 e6 kp6=>⟨rfl,?_⟩⟩⟩)
  exact end0 ((mp (gj c5)).keep GP hR.cells kp5) hR5 (kp02.trans kp5) (aO.made n6 nd6 kp6) n6 e6 _ e5 fun r=>rfl
 ·rw[if_neg c5]at hg
  cases hg
end Wale
end
section
set_option Elab.async false
set_option linter.all false
set_option maxRecDepth 100000
set_option maxHeartbeats 2000000
namespace Wale
open PySem PySem.Spec PyProof.Rows L2
open Wm
open LsWale (ascii Fault eatSign eatWord eatOpen anyName newName oldName markName holdName wanted isName PLAINS)
variable {P:Program}{w:World}{K:PySem.W.Frag}{mg:Str->Option Value}{base:Heap}{a:Ad}
theorem Pg{b:Bytes}{p:Nat}(d:Nat)(e:aD):ee (.str (bq (aq b p))) ((["on","row","repeat","until","work","off"]:List Str).map V.str)=(eK d (ae b p e)).isSome:=by
 rw[in_words (e:=e) ["on","row","repeat","until","work","off"] (by decide +kernel) (by decide +kernel)]
 unfold eK fw
 simp only[List.any_cons,List.any_nil,Bool.or_false]
 by_cases h1:(ae b p e).isWord "on"=true
 ·simp[h1]
 by_cases h2:(ae b p e).isWord "row"=true
 ·simp[h1,h2]
 by_cases h3:(ae b p e).isWord "repeat"=true
 ·simp[h1,h2,h3]
 by_cases h4:(ae b p e).isWord "until"=true
 ·simp[h1,h2,h3,h4]
 by_cases h5:(ae b p e).isWord "work"=true
 ·simp[h1,h2,h3,h4,h5]
 by_cases h6:(ae b p e).isWord "off"=true
 ·simp[h1,h2,h3,h4,h5,h6]
 ·simp[h1,h2,h3,h4,h5,h6]
theorem HK:aI ["reader","stats"] ["reader"] (aC wN):=⟨rfl,rfl,rfl,by decide +kernel,rfl,by decide +kernel,by decide +kernel⟩
def iZ(d:Nat)(F:LsWale.Stats->LsWale.Stats)(s:ah):Except Fault (LsWale.Stats×ah):=cU d s>>=fun r=>.ok (F r.1,r.2)
theorem DN{s:ah}{k pl d:Nat}{F:LsWale.Stats->LsWale.Stats}(h:HB s k pl):bN (iZ d F s) k pl:=by
 unfold iZ
 rw[CO h]
 exact dE h
theorem KH{d:Nat}{F:LsWale.Stats->LsWale.Stats}{s:ah}{g:Except Fault ((LsWale.Stats->LsWale.Stats)×ah)}(h:eK d s=some g):iZ d F s=g>>=fun x=>iZ d (F∘x.1) x.2:=by
 unfold iZ
 rw[Au,h]
 dsimp only
 simp only[bW]
 rfl
theorem QD{d:Nat}{F:LsWale.Stats->LsWale.Stats}{s:ah}(h:eK d s=none):iZ d F s=.ok (F .nil,s):=by
 unfold iZ
 rw[Au,h]
 rfl
theorem MA(T:Tx P w K mg a){k m n:Nat}(hk:10<=k)(F:wu P w K mg base a k a.oV a.oM m (Eg a n) eK):da P w K mg base a (k+1) a.kL a.l9 m (mq a n) cU:=by
 refine aG.bz (k:=k) T.xp.fn HK fJ (fun cdv A outer s H vs Q E hr h=>?_)
 obtain⟨b,R,p,d,e,rfl,hR,hd,hm,hT,kk⟩:=fV h
 have C:=T.bL.cl
 have G:=gD a n
 refine⟨_,aj (a3 (i:=1) HK.nd rfl (Or.inl rfl) (bT ag)) (aj (gN iD (k8 T.HY (aE (cH (pv 0) C T.cj.mt (iE T) (hr.mono (by first|decide|lia)) T.cj.bd .nil aw) rfl)) (ak (a9 ((eh PySem.F.plainAttrs_list PySem.F.slot_list_append PySem.F.type_list_append gJ (pv 1) (aa (aN T.Ef F hr aw (aa (pv 0) ag)) ag)))))) (ak (aF (pv 1)))),?_⟩
 refine⟨(by show 0<=sizeLine;decide),fun l hl=>?_⟩
 have ml:Md (bM (cQ a n)) H _ (.ref l) []:=aK.list G aK.nil hl (cz.refl _)
 let I:(LsWale.Stats->LsWale.Stats)×Nat×aD->L2.St->Hp->Prop:=fun i σ H'=>σ=[some (.ref R.r),some (.ref l)]/\au a K b R i.2.1 d (lst i.2.2) H'/\aJ R H H'/\cU d (ae b p e)=iZ d i.1 (ae b i.2.1 i.2.2)/\
  ∃fs,Md (bM (cQ a n)) H H' (.ref l) fs/\(∀r,bA (i.1 r)=fs++bA r)/\fs.length+(toks b i.2.1).length<=(toks b p).length
 let μ:(LsWale.Stats->LsWale.Stats)×Nat×aD->Nat:=fun i=>(toks b i.2.1).length
 refine gp I μ (id,p,e) ⟨rfl,hR.same (aS hl),bp (aS hl),(by unfold iZ;exact N7 _),[],ml,fun r=>rfl,?_⟩ ?_
 ·show 0+(toks b p).length<=(toks b p).length
  lia
 rintro⟨x,p1,e1⟩ σ H2 ⟨rfl,hR2,kp2,h2,fs,ms,tx,ln⟩
 dsimp only at hR2 h2 tx ln
 refine AV (e:=e1) T rfl hR2 hT (fun k pl hb=>by rw[h2];exact DN hb) fun nb H3 hR3 kp3=>?_
 have ms3:=ms.keep (bJ G) hR.cells kp3
 rw[Pg d e1]
 cases hs:eK d (ae b p1 e1)with
 |some g=>
  rw[KH hs]at h2
  obtain⟨hn,vs3,el3,hlen3⟩:=ms3.cell
  refine bu ?_
  refine fZ (I:=I) (μ:=μ) (i:=(x,p1,e1)) ?_
  refine(eX _ rfl ⟨.inl ⟨rfl,_,aM.of el3⟩,eX _ rfl ?_⟩)
  refine Am hR3 hd hm hs hT h2 (fun x s k pl hb=>DN hb) fun x' p2 e2 hS2 h3 H4 v4 hR4 kp4 md4=>?_
  have ms4:=ms3.keep (bJ G) hR.cells kp4
  obtain⟨_,vs4,el4,hlen4⟩:=ms4.cell
  obtain⟨F4,⟨f4,hf4,ef4⟩,sn4⟩:=md4
  have lc:dC H H4 (upd H4 l (.lst (vs4++[v4]))) l:=eY hn el4
  have sz:=qv hR.len p
  have l1:=nA (Ho hs) hS2
  refine⟨l,vs4,v4,rfl,rfl,el4,by lia,(x∘x',p2,e2),l1,rfl,hR4.bV hR lc,((kp2.trans kp3).trans kp4).bV lc,h3,fs++[f4],ms4.append G el4 ⟨F4,hf4,sn4⟩ (fk el3) ((kp2.trans kp3).grow hR3.cells),fun r=>?_,?_⟩
  ·show bA (x (x' r))=_
   rw[tx,ef4,List.append_assoc];rfl
  ·show(fs++[f4]).length+(toks b p2).length<=_
   rw[List.length_append,List.length_singleton];lia
 |none=>
  rw[QD hs]at h2
  refine bD (eX _ rfl (kk _ _ _ h2 H3 _ hR3 (kp2.trans kp3) ?_))
  refine ms3.map fun F q=>?_
  show bM (cQ a n) H3 F (.ref l) (bA (x .nil))/\(bA (x .nil)).length<=20001
  rw[tx,show bA .nil=[]from rfl,List.append_nil]
  refine⟨q,?_⟩
  have:=toks_le b p
  have:=hR.len
  lia
theorem AJ(T:Tx P w K mg a):∀m,da P w K mg base a (70+3*m) a.kL a.l9 m (mq a m) cU
 |0=>xF
 |m+1=>MA T (k:=70+3*m+1+1) (by lia) (Lr T (by lia) (D2 T (by lia) (AJ T m)))
def ff(L:NL)(k:Kd)(l:List Bytes):NL:=fun j=>if j=k then l else L j
theorem Ce{L:NL}{k:Kd}{l:List Bytes}{x:Bytes}:dz (ff L k l) k x=ff L k (l++[x]):=by
 funext j
 unfold dz ff
 by_cases h:j=k
 ·rw[if_pos h,if_pos h,if_pos h]
 ·rw[if_neg h,if_neg h,if_neg h]
theorem wg{L:NL}{k:Kd}{l:List Bytes}:ff L k l k=l:=if_pos rfl
theorem MH{L:NL}{k:Kd}:ff L k (L k)=L:=by
 funext j
 unfold ff
 by_cases h:j=k
 ·rw[if_pos h,h]
 ·rw[if_neg h]
theorem G8(e:aD)(x:Bytes):e.told x=true↔∃j,dm j=true/\x∈lst e j:=by
 unfold LsWale.Env.told
 simp only[Bool.or_eq_true,List.contains_iff_mem]
 constructor
 ·rintro(h|h|h|h|h)
  ·exact⟨.sizes,rfl,h⟩
  ·exact⟨.yarns,rfl,h⟩
  ·exact⟨.fb,rfl,h⟩
  ·exact⟨.words,rfl,h⟩
  ·exact⟨.blocks,rfl,h⟩
 ·rintro⟨j,hj,h⟩
  cases j with
  |sizes=>exact .inl h
  |yarns=>exact .inr (.inl h)
  |fb=>exact .inr (.inr (.inl h))
  |words=>exact .inr (.inr (.inr (.inl h)))
  |blocks=>exact .inr (.inr (.inr (.inr h)))
  |markers=>cases hj
  |holders=>cases hj
theorem Fc{L:NL}{x:Bytes}:¬dJ L x↔∃j,dm j=true/\x∈L j:=by
 unfold dJ
 constructor
 ·intro h
  apply Classical.byContradiction
  intro h2
  exact h fun j hj hx=>h2 ⟨j,hj,hx⟩
 ·rintro⟨j,hj,hx⟩ h
  exact h j hj hx
theorem zL(e:aD)(x:Bytes):(e.told x=true\/([]:List Bytes).contains x=true)↔¬dJ (lst e) x:=by
 rw[Fc,G8]
 simp
theorem EO{e:aD}{k:Kd}{l:List Bytes}(hk:dm k=true)(h0:lst e k=[])(x:Bytes):(e.told x=true\/l.contains x=true)↔¬dJ (ff (lst e) k l) x:=by
 rw[Fc,G8,List.contains_iff_mem]
 constructor
 ·rintro(⟨j,hj,hx⟩|h)
  ·refine⟨j,hj,?_⟩
   unfold ff
   rw[if_neg (fun z=>by rw[z,h0]at hx;cases hx)]
   exact hx
  ·exact⟨k,hk,by rw[wg];exact h⟩
 ·rintro⟨j,hj,hx⟩
  unfold ff at hx
  by_cases h:j=k
  ·rw[if_pos h]at hx;exact .inr hx
  ·rw[if_neg h]at hx;exact .inl ⟨j,hj,hx⟩
def iO(m:Nat)(l:List Bytes)(s:ah):Except Fault (List Bytes×ah):=(if s.isSign ','=true then jQ m l s.next else .ok (l,s))>>=fun x=>eatSign ';' x.2>>=fun t=>.ok (x.1,t)
def gW(m:Nat)(s:ah):Except Fault (List Bytes×ah):=jQ m [] s>>=fun x=>eatSign ';' x.2>>=fun t=>.ok (x.1,t)
theorem Oi{s:ah}{k pl m:Nat}{l:List Bytes}(h:HB s k pl):bN (iO m l s) k pl:=by
 unfold iO
 rw[if_neg (by rw[gq h];decide)]
 exact kX h
theorem DO(m:Nat)(l:List Bytes)(s:ah):(jQ m l s>>=fun x=>eatSign ';' x.2>>=fun t=>(.ok (x.1,t):Except Fault (List Bytes×ah)))=newName l.length m s l>>=fun x=>iO m (l++[x.1]) x.2:=by
 rw[Lh,bW]
 rfl
theorem N4{b:Bytes}{p m:Nat}{e:aD}{l:List Bytes}(h:(ae b p e).isSign ','=true):iO m l (ae b p e)=newName l.length m (ae b (aA b p) e) l>>=fun x=>iO m (l++[x.1]) x.2:=by
 rw[<-DO]
 unfold iO
 rw[if_pos h,cV (g0 h)]
theorem O2{s:ah}{m:Nat}{l:List Bytes}(h:s.isSign ','=false):iO m l s=eatSign ';' s>>=fun t=>.ok (l,t):=by
 unfold iO
 rw[if_neg (by rw[h];decide)]
 rfl
theorem Kw{vs:List V}{H:Hp}{Q Q':VK}{E:XK}(h:jH K a vs H Q E)(m:∀v H',Q v H'->Q' v H'):jH K a vs H Q' E:=by
 unfold jH at h ⊢
 obtain⟨b,R,p,d,L,k,e,hR,kb,k1,k2⟩:=h
 exact⟨b,R,p,d,L,k,e,hR,kb,k1,fun x hx=>⟨(k2 x hx).1,(k2 x hx).2.1,fun u l H' y hR' kp tk=>m _ _ ((k2 x hx).2.2 u l H' y hR' kp tk)⟩⟩
@[irreducible] def qP(K:PySem.W.Frag)(a:Ad):Sp:=fun vs H Q E=>∃(b0:Bytes)(R:RA)(p0 d0:Nat)(L0:NL)(k:Kd),vs=[.ref R.r,.str (a7 k)]/\au a K b0 R p0 d0 L0 H/\dm k=true/\
 jH K a [.ref R.r,.str (a7 k)] H (fun v H1=>∃(b:Bytes)(p d:Nat)(L:NL)(y:Addr)(x:Bytes)(kd:Str)(n pl af:Int),v=.ref y/\au a K b R p d L H1/\b9 a.bQ H1 y kd (strOf x) n pl af/\dJ L x/\(L k).length≠bK k/\
  ∀H',au a K b R p d (dz L k x) H'->aJ R H1 H'->Q (.str (strOf x)) H') E
theorem DI:aI ["reader","kind","name"] ["reader","kind"] (aC yT):=⟨rfl,rfl,rfl,by decide +kernel,rfl,by decide +kernel,by decide +kernel⟩
theorem Hc(T:Tx P w K mg a):ax P w K mg base (bj P w) 11 a.tK a.tj ["reader","kind"] (qP K a):=by
 refine aG.bz (k:=10) T.y3.fn DI (fun vs H Q E h=>?_) (fun cdv A outer s H vs Q E hr h=>?_)
 ·unfold qP at h;obtain⟨_,_,_,_,_,_,rfl,_⟩:=h;rfl
 unfold qP at h
 obtain⟨b0,R,p0,d0,L0,k,rfl,hR,hk,hw⟩:=h
 have C:=T.bL.cl
 refine⟨_,aj (a3 (i:=2) DI.nd rfl (Or.inl rfl) ((a0 (pv 0) C T.ji.mt (u9 T) (hr.mono (by first|decide|lia)) T.ji.bd .nil aw (aa (pv 1) ag))))
  (aj (a9 (a0 (aE (pv 0) rfl) T.cJ.cl T.jx.mt (E5 T) (hr.mono (by first|decide|lia)) T.jx.bd .nil aU (aa (pv 2) (aa (pv 1) ag)))) (ak (aF (aE (pv 2) rfl)))),?_⟩
 refine(rM rfl hR.ins rfl (eX _ rfl ?_))
 refine Kw hw ?_
 rintro v H1 ⟨b,p,d,L,y,x,kd,n,pl,af,rfl,hR1,tk1,un,hl,q⟩
 obtain⟨dn,en⟩:=hR1.nm.obj
 refine(rF rfl hR1.ins C T.fP rfl (rN rfl en rfl (eX _ rfl (eX _ rfl ⟨R.N,_,k,y,x,_,_,_,eX _ rfl ⟨hR1.nm,tk1,hk,un,hl,fun H2 nm2 kn2=>?_⟩⟩))))
 obtain⟨dt,ft,et,lt1,lt2,lt3,lt4,lt5⟩:=b9.keepR tk1 hR1 kn2.keepR
 exact(rF rfl et T.bx.cl T.cf lt2 (q H2 (hR1.names kn2 nm2) kn2.keepR))
theorem Dr{α:Type}{b:Bytes}{R:RA}{p d:Nat}{L:NL}{e:aD}{H:Hp}{Q:VK}{E:XK}{r:Except Fault (α×ah)}{k:Kd}{f:Bytes×ah->Except Fault (α×ah)}{m most:Nat}{also:List Bytes}(hR:au a K b R p d L H)(hT:Tl K a E r)(hr:r=newName m most (ae b p e) also>>=f)(hm:m=(L k).length)(hmost:most=bK k)
  (hu:∀x,(e.told x=true\/also.contains x=true)↔¬dJ L x) (hk:dm k=true)
  (kk:∀x,nameAt b p=some x->r=f (x,ae b (aA b p) e)->∀H':Hp,au a K b R (aA b p) d (dz L k x) H'->aJ R H H'->Q (.str (strOf x)) H'):qP K a [.ref R.r,.str (a7 k)] H Q E:=by
 unfold qP
 refine⟨b,R,p,d,L,k,rfl,hR,hk,wb hR hT hr hm hmost hu fun x hx un hl e1 H1 y hR1 kp1 tk1=>?_⟩
 unfold di at tk1
 rw[jK hx]at tk1
 exact⟨b,_,d,L,y,x,_,_,_,eX _ rfl ⟨hR1,tk1,un,hl,fun H' hR' kp'=>kk x hx e1 H' hR' (kp1.trans kp')⟩⟩
@[irreducible] def qK(K:PySem.W.Frag)(a:Ad):Sp:=fun vs H Q E=>∃(b:Bytes)(R:RA)(p d:Nat)(e:aD)(k:Kd),vs=[.ref R.r,.str (a7 k)]/\au a K b R p d (lst e) H/\dm k=true/\lst e k=[]/\Tl K a E (gW (bK k) (ae b p e))/\
 ∀l p',l≠[]->gW (bK k) (ae b p e)=.ok (l,ae b p' e)->∀(H':Hp)(v:V),au a K b R p' d (ff (lst e) k l) H'->aJ R H H'->Md (fQ a (cO a 9)) H H' v (l.map t1)->Q v H'
theorem D3:aI ["reader","kind","phrases"] ["reader","kind"] (aC xj):=⟨rfl,rfl,rfl,by decide +kernel,rfl,by decide +kernel,by decide +kernel⟩
theorem Dg(T:Tx P w K mg a):ax P w K mg base (bj P w) 12 a.qr a.qk ["reader","kind"] (qK K a):=by
 refine aG.bz (k:=11) T.zX.fn D3 (fun vs H Q E h=>?_) (fun cdv A outer s H vs Q E hr h=>?_)
 ·unfold qK at h;obtain⟨_,_,_,_,_,_,rfl,_⟩:=h;rfl
 unfold qK at h
 obtain⟨b,R,p,d,e,k,rfl,hR,hk,h0,hT,kk⟩:=h
 have C:=T.bL.cl
 have G:=cE a 9
 have GP:=cK a 9
 refine⟨_,aj (a3 (i:=2) D3.nd rfl (Or.inl rfl) (bT (aa (bT (aa (aN T.y3 (Hc T) hr aw (aa (pv 0) (aa (pv 1) ag))) ag)) ag)))
  (aj (gN iD (cY (a0 (pv 0) C T.eB.mt (j0 T) (hr.mono (by first|decide|lia)) T.eB.bd .nil aw (aa aT ag))) (ak (a9 ((eh PySem.F.plainAttrs_list PySem.F.slot_list_append PySem.F.type_list_append gJ (pv 2) (aa (bT (aa (aN T.y3 (Hc T) hr aw (aa (pv 0) (aa (pv 1) ag))) ag)) ag))))))
  (aj (a9 (a0 (pv 0) C T.cX.mt (iT T) (hr.mono (by first|decide|lia)) T.cX.bd .nil aw (aa aT ag))) (ak (aF (eU T.fg.eS (zq T) (hr.mono (by first|decide|lia)) rfl T.fg.at_ T.wa.2 .nil aU (aa (pv 2) ag)))))),?_⟩
 have e0:gW (bK k) (ae b p e)=newName ([]:List Bytes).length (bK k) (ae b p e) []>>=fun x=>iO (bK k) ([]++[x.1]) x.2:=DO _ _ _
 have hR0:au a K b R p d (ff (lst e) k []) H:=by rw[<-h0,MH];exact hR
 refine(eX _ rfl (eX _ rfl ?_))
 refine Dr (k:=k) hR0 hT e0 (by rw[wg]) rfl (EO hk h0) hk fun x hx e1 H2 hR2 kp2=>⟨(by show 1<=sizeLine;decide),fun l1 hl1=>⟨(by show 1<=sizeLine;decide),fun l hl=>?_⟩⟩
 rw[Ce]at hR2
 have g2:=kp2.grow hR2.cells
 have m1:Md (bE a 9) H (upd H2 l1 (.lst [.str (strOf x)])) (.ref l1) (t1 x):=aK.list G (aK.cons G (b8 (H0:=H) (H:=H2) x) aK.nil) hl1 g2
 have ml:=aK.list GP (aK.cons GP m1 aK.nil) hl (g2.trans sr)
 let I:List Bytes×Nat->L2.St->Hp->Prop:=fun i σ H'=>σ=[some (.ref R.r),some (.str (a7 k)),some (.ref l)]/\i.1≠[]/\au a K b R i.2 d (ff (lst e) k i.1) H'/\aJ R H H'/\gW (bK k) (ae b p e)=iO (bK k) i.1 (ae b i.2 e)/\Md (bM (bE a 9)) H H' (.ref l) (i.1.map t1)
 let μ:List Bytes×Nat->Nat:=fun i=>(toks b i.2).length
 refine gp I μ ([]++[x],aA b p) ⟨rfl,(by simp),(hR2.same (aS hl1)).same (aS hl),(kp2.trans (bp (aS hl1))).trans (bp (aS hl)),e1,ml⟩ ?_
 rintro⟨nl,p1⟩ σ H3 ⟨rfl,hne,hR3,kp3,h3,ms⟩
 dsimp only at hR3 h3 hne ms
 refine(rM rfl hR3.ins rfl ?_)
 refine yr (c:=',') (e:=e) hR3 hT (fun k pl hb=>by rw[h3];exact Oi hb) (fun c H4 hR4 kp4=>?_) (fun c nb H4 hR4 kp4=>?_)
 ·rw[N4 c]at h3
  have ms4:=ms.keep (bJ GP) hR.cells kp4
  obtain⟨hn,vs4,el4,hlen4⟩:=ms4.cell
  refine(eX _ rfl (bu ?_))
  refine fZ (I:=I) (μ:=μ) (i:=(nl,p1)) ?_
  refine(eX _ rfl ⟨.inl ⟨rfl,_,aM.of el4⟩,eX _ rfl (eX _ rfl ?_)⟩)
  refine Dr (k:=k) hR4 hT h3 (by rw[wg]) rfl (EO hk h0) hk fun x' hx' e4 H6 hR6 kp6=>⟨(by show 1<=sizeLine;decide),fun l6 hl6=>?_⟩
  rw[Ce]at hR6
  have kp04:=kp3.trans kp4
  have g46:=kp6.grow hR6.cells
  have m6:Md (bE a 9) H4 (upd H6 l6 (.lst [.str (strOf x')])) (.ref l6) (t1 x'):=aK.list G (aK.cons G (b8 (H0:=H4) (H:=H6) x') aK.nil) hl6 g46
  have ms6:=(ms4.keep (bJ GP) hR.cells kp6).same (bJ GP) (aS (o:=.lst [.str (strOf x')]) hl6)
  obtain⟨_,vs6,el6,hlen6⟩:=ms6.cell
  have hR7:=hR6.same (aS (o:=.lst [.str (strOf x')]) hl6)
  have kp07:=(kp04.trans kp6).trans (bp (aS (o:=.lst [.str (strOf x')]) hl6))
  have lc:dC H (upd H6 l6 (.lst [.str (strOf x')])) (upd (upd H6 l6 (.lst [.str (strOf x')])) l (.lst (vs6++[.ref l6]))) l:=eY hn el6
  have bd:=hR3.nm.bd k
  rw[wg]at bd
  have hb:bK k<=256:=by cases k<;>decide
  have sz:sizeLine=16777216:=by decide
  rw[List.length_map]at hlen6
  refine⟨l,vs6,.ref l6,rfl,rfl,el6,by lia,(nl++[x'],aA b (aA b p1)),?_,rfl,(by simp),hR7.bV hR lc,kp07.bV lc,e4,?_⟩
  ·have l1:=pB (g0 c)
   have l2:=pB (b:=b) (p:=aA b p1) (by rw[(uW hx').1];rfl)
   show(toks b (aA b (aA b p1))).length<(toks b p1).length
   lia
  ·show Md _ _ _ _ ((nl++[x']).map t1)
   rw[List.map_append]
   exact ms6.append GP el6 m6 (fk el4) (kp04.grow hR4.cells)
 ·rw[O2 c]at h3
  refine(eX _ rfl (bD (rM rfl hR4.ins rfl ?_)))
  refine gU hR4 hT h3 (k:=fun e5 H5 y5 hR5 kp5 tk5=>(eX _ rfl (fun x6 dx6 n6 nd6 ne6=>⟨x6,dx6,.ref l,rfl,aB,fun H6 e6 kp6=>⟨rfl,?_⟩⟩)))
  have sm6:=aO.made n6 nd6 kp6
  have kp05:=(kp3.trans kp4).trans kp5
  exact kk nl _ hne e5 H6 _ (hR5.same sm6) (kp05.trans (bp sm6)) (Md.listed G (ms.keep (bJ GP) hR.cells (kp4.trans kp5)) (kp05.grow hR5.cells) sm6 n6 e6)
end Wale
end
section
set_option Elab.async false
set_option linter.all false
set_option maxRecDepth 100000
set_option maxHeartbeats 2000000
namespace Wale
open PySem PySem.Spec PyProof.Rows L2
open Wm
open LsWale (ascii Fault eatSign eatWord eatOpen anyName newName oldName markName holdName wanted isName PLAINS)
variable {P:Program}{w:World}{K:PySem.W.Frag}{mg:Str->Option Value}{base:Heap}{a:Ad}
@[irreducible] def wz(a:Ad):Sp:=BS a
@[irreducible] def vv(a:Ad):Sp:=DZ a
theorem v8(T:Tx P w K mg a):ax P w K mg base aV 1 a.pE a.mX ["self","kind"] (wz a):=by unfold wz;exact vn T
theorem Bl(T:Tx P w K mg a):ax P w K mg base aV 2 a.oO a.mI ["self","token","kind"] (vv a):=by unfold vv;exact E5 T
theorem uE{b:Bytes}{R:RA}{p d:Nat}{L:NL}{H:Hp}{Q:VK}(hR:au a K b R p d L H)(k:Kd)(q:Q (.int (L k).length) H):wz a [.ref R.N.n,.str (a7 k)] H Q E0:=by
 obtain⟨dx,e0⟩:=hR.nm.obj
 obtain⟨kvs,e1,h1,-⟩:=hR.nm.gC
 unfold wz
 exact⟨R.N,dx,kvs,a7 k,eX _ rfl ⟨e0,e1,h1 k,q⟩⟩
theorem tW{b:Bytes}{R:RA}{p d:Nat}{L:NL}{H:Hp}{Q:VK}{y:Addr}{x:Bytes}{kd:Str}{n pl af:Int}(hR:au a K b R p d L H)(k:Kd)(tk:b9 a.bQ H y kd (strOf x) n pl af)(hk:dm k=true)(un:dJ L x)(hl:(L k).length≠bK k)
  (kk:∀H':Hp,au a K b R p d (dz L k x) H'->aJ R H H'->Q .ay H'):vv a [.ref R.N.n,.ref y,.str (a7 k)] H Q E0:=by
 unfold vv
 exact⟨R.N,L,k,y,x,kd,n,pl,af,rfl,hR.nm,tk,hk,un,hl,fun H' nm kn=>kk H' (hR.names kn nm) kn.keepR⟩
theorem Hr{α:Type}{b:Bytes}{R:RA}{p d:Nat}{e:aD}{H:Hp}{Q:VK}{E:XK}{r:Except Fault (α×ah)}{f:List Bytes×ah->Except Fault (α×ah)}(hR:au a K b R p d (lst e) H)(k:Kd)(hk:dm k=true)(h0:lst e k=[])(hT:Tl K a E r)(hr:r=gW (bK k) (ae b p e)>>=f)(hB:∀x s k pl,HB s k pl->bN (f (x,s)) k pl)
  (kk:∀l p',l≠[]->r=f (l,ae b p' e)->∀(H':Hp)(v:V),au a K b R p' d (ff (lst e) k l) H'->aJ R H H'->Md (fQ a (cO a 9)) H H' v (l.map t1)->Q v H'):qK K a [.ref R.r,.str (a7 k)] H Q E:=by
 unfold qK
 exact⟨b,R,p,d,e,k,rfl,hR,hk,h0,fun k pl h=>hT k pl (by rw[hr];exact h.bind fun x s hb=>hB x s k pl hb),fun l p' hl hS=>kk l p' hl (by rw[hr,hS];rfl)⟩
def jq(a:Ad):Rep LsWale.Head:=hG (cQ a 9) dO
theorem Md.vS{H0 H H':Hp}{u:V}{ph:List PT}{x dx:Addr}{h:LsWale.Head}(m:Md (bE a 10) H0 H u ph)(g:cz H0 H)(s:aO H H')(nx:H x=none)(e:H' x=some (.ins a.dP dx [("phrase",u),("body",.ay)]))(tx:dO h=.mk ph none):Md (jq a) H0 H' (.ref x) h:=
 (Md.zx (n:=9) m g s nx e).map fun F q=>by
  show cQ a 9 H' F (.ref x) (dO h)
  rw[tx];exact q
theorem Md.y6{n:Nat}{H0 H:Hp}{v:V}{ps:List (List PT)}(m:Md (fQ a (cO a n)) H0 H v ps):Md (cO a (n+1)) H0 H v (.li ps):=m.map fun F q=>Or.inr (Or.inl ⟨ps,q,rfl⟩)
theorem IP:("sizes":Str)=strOf (ascii "sizes"):=by decide +kernel
theorem LH:("yarns":Str)=strOf (ascii "yarns"):=by decide +kernel
theorem QP:("let":Str)=strOf (ascii "let"):=by decide +kernel
theorem Px:("word":Str)=strOf (ascii "word"):=by decide +kernel
theorem Pd:("block":Str)=strOf (ascii "block"):=by decide +kernel
theorem Dt:("=":Str)=strOf (ascii "="):=by decide +kernel
def Ev(e:aD):Prop:=e.sizes≠some []/\e.yarns≠some []
theorem A4{s:ah}{k pl:Nat}{e:aD}(h:HB s k pl):HB ({s with env:=e}:ah) k pl:=h
theorem NB(e:aD)(l:List Bytes):ff (lst e) .sizes l=lst {e with sizes:=some l}:=by funext j;cases j<;>rfl
theorem P5(e:aD)(l:List Bytes):ff (lst e) .yarns l=lst {e with yarns:=some l}:=by funext j;cases j<;>rfl
theorem uu{o:Option (List Bytes)}(h:o≠some []):(0<(o.getD []).length)↔o.isSome=true:=by
 cases o with
 |none=>simp
 |some l=>
  cases l with
  |nil=>exact absurd rfl h
  |cons c r=>simp
def rH(pl:Nat)(s:ah):Except Fault (LsWale.Head×ah):=if s.env.sizes.isSome=true\/s.env.lets≠[]then .error ⟨5,pl⟩else gW 16 s>>=fun x=>.ok (.sizes x.1,{x.2 with env:={x.2.env with sizes:=some x.1}})
def pL(pl:Nat)(s:ah):Except Fault (LsWale.Head×ah):=if s.env.yarns.isSome=true then .error ⟨5,pl⟩else gW 16 s>>=fun x=>.ok (.yarns x.1,{x.2 with env:={x.2.env with yarns:=some x.1}})
@[irreducible] def jX(K:PySem.W.Frag)(a:Ad)(S:Nat->ah->Except Fault (LsWale.Head×ah)):Sp:=fun vs H Q E=>∃(b:Bytes)(R:RA)(p:Nat)(e:aD)(x:Addr),vs=[.ref R.r,.ref x]/\au a K b R (aA b p) 0 (lst e) H/\di a b p H x/\Ev e/\
 Tl K a E (S (aP b p) (ae b (aA b p) e))/\∀x p' e',Ev e'->S (aP b p) (ae b (aA b p) e)=.ok (x,ae b p' e')->∀(H':Hp)(v:V),au a K b R p' 0 (lst e') H'->aJ R H H'->Md (jq a) H H' v x->Q v H'
theorem GO{S:Nat->ah->Except Fault (LsWale.Head×ah)}(vs:List V)(H:Hp)(Q:VK)(E:XK)(h:jX K a S vs H Q E):vs.length=2:=by
 unfold jX at h
 obtain⟨_,_,_,_,_,rfl,_⟩:=h;rfl
theorem Iu:aI ["reader","token"] ["reader","token"] (aC zC):=⟨rfl,rfl,rfl,by decide +kernel,rfl,by decide +kernel,by decide +kernel⟩
theorem P9:aI ["reader","token"] ["reader","token"] (aC BI):=⟨rfl,rfl,rfl,by decide +kernel,rfl,by decide +kernel,by decide +kernel⟩
theorem KZ(T:Tx P w K mg a):ax P w K mg base (bj P w) 13 a.sU a.qQ ["reader","token"] (jX K a rH):=by
 refine aG.bz (k:=12) T.Ez.fn Iu GO (fun cdv A outer s H vs Q E hr h=>?_)
 unfold jX at h
 obtain⟨b,R,p,e,x,rfl,hR,tk,ev,hT,kk⟩:=h
 have C:=T.bL.cl
 refine⟨_,aj (a4 (PW.pt (iM (a5 jO ((a0 (aE (pv 0) rfl) T.cJ.cl T.fi.mt (v8 T) (hr.mono (by first|decide|lia)) T.fi.bd .nil aU (aa (bH T.AZ) ag))) bF (aZ _)) (iK (a5 jO ((a0 (aE (pv 0) rfl) T.cJ.cl T.fi.mt (v8 T) (hr.mono (by first|decide|lia)) T.fi.bd .nil aU (aa (bH T.uN) ag))) bF (aZ _)))))
   (ak (fB rfl fD T.mE (ya T) T.vq.2 (hr.mono (by first|decide|lia)) (aE (pv 1) rfl))) ba)
  (ak (aF (eU T.dY.eS (kh T) (hr.mono (by first|decide|lia)) rfl T.dY.at_ T.je.2 .nil aU (aa (bT (aa aT (aa (aN T.zX (Dg T) hr aw (aa (pv 0) (aa (bH T.AZ) ag))) ag))) (aa fO ag))))),?_⟩
 obtain⟨dn,en⟩:=hR.nm.obj
 obtain⟨dt,ft,et,lt1,lt2,lt3,lt4,lt5⟩:=tk
 have bad:∀lo,(e.sizes.isSome=true\/e.lets≠[])->nN lo K a.nJ E 5 (mP K (bI 1) "place") {nx:=fun _ H'=>Q .ay H',rt:=Q} [some (.ref R.r),some (.ref x)] H:=fun lo hc=>
  (rF rfl et T.bx.cl T.ig lt4 (eR T.mE (hT.err (by unfold rH;rw[if_pos hc]))))
 refine(rF rfl hR.ins C T.fP rfl (rN rfl en rfl ?_))
 refine uE hR .sizes ⟨_,_,rfl,rfl,_,rfl,?_⟩
 refine aX (fun c=>?_) (fun c=>?_)
 ·have c':0<(e.sizes.getD []).length:=by have:=of_decide_eq_true c;have h:(0:Int)<((e.sizes.getD []).length:Int):=this;lia
  exact bu (bad _ (.inl ((uu ev.1).mp c')))
 have n1:¬e.sizes.isSome=true:=fun z=>c (decide_eq_true (by
  have:=(uu ev.1).mpr z
  show(0:Int)<((e.sizes.getD []).length:Int)
  lia))
 refine(rF rfl hR.ins C T.fP rfl (rN rfl en rfl ?_))
 refine uE hR .fb ⟨_,_,rfl,rfl,_,rfl,?_⟩
 refine aX (fun c=>?_) (fun c=>?_)
 ·refine bad _ (.inr fun z=>?_)
  have:=of_decide_eq_true c
  have h:(0:Int)<((e.lets).length:Int):=this
  rw[z]at h
  simp at h
 have n2:e.lets=[]:=by
  have h:¬(0:Int)<((e.lets).length:Int):=fun z=>c (decide_eq_true z)
  exact List.length_eq_zero_iff.mp (by lia)
 have e1:rH (aP b p) (ae b (aA b p) e)=gW (bK .sizes) (ae b (aA b p) e)>>=fun x=>.ok (.sizes x.1,{x.2 with env:={x.2.env with sizes:=some x.1}}):=by
  unfold rH
  rw[if_neg (fun z=>z.elim n1 fun z=>z n2)]
  rfl
 refine(eX _ rfl ?_)
 refine Hr hR .sizes rfl ?_ hT e1 (fun x s k pl hb=>dE (A4 hb)) fun l p' hl e2 H' v' hR' kp md'=>⟨(by show 2<=sizeLine;decide),fun q hq=>fun x6 dx6 n6 nd6 ne6=>⟨x6,dx6,.ref q,.ay,rfl,aB,fun H6 e6 kp6=>⟨rfl,?_⟩⟩⟩
 ·show e.sizes.getD []=[]
  cases q:e.sizes with
  |none=>rfl
  |some l=>rw[q]at n1;exact absurd rfl n1
 ·rw[NB]at hR'
  have G:=cE a 10
  have sm6:=aO.made n6 nd6 kp6
  have hR5:=hR'.same (aS (o:=.lst [.str "sizes",v']) hq)
  have kp5:=kp.trans (bp (aS (o:=.lst [.str "sizes",v']) hq))
  have mp:Md (bE a 10) H (upd H' q (.lst [.str "sizes",v'])) (.ref q) [tw (ascii "sizes"),.li (l.map t1)]:=by
   rw[IP]
   exact aK.list G (aK.cons G (b8 (H0:=H) (H:=H') (ascii "sizes")) (aK.cons G md'.y6 aK.nil)) hq (kp.grow hR'.cells)
  exact kk _ _ {e with sizes:=some l} ⟨fun z=>hl (Option.some.inj z),ev.2⟩ e2 H6 _ (hR5.same sm6) (kp5.trans (bp sm6)) (Md.vS mp (kp5.grow hR5.cells) sm6 n6 e6 rfl)
theorem NH(T:Tx P w K mg a):ax P w K mg base (bj P w) 13 a.pP a.qA ["reader","token"] (jX K a pL):=by
 refine aG.bz (k:=12) T.CK.fn P9 GO (fun cdv A outer s H vs Q E hr h=>?_)
 unfold jX at h
 obtain⟨b,R,p,e,x,rfl,hR,tk,ev,hT,kk⟩:=h
 have C:=T.bL.cl
 refine⟨_,aj (a4 (a5 jO ((a0 (aE (pv 0) rfl) T.cJ.cl T.fi.mt (v8 T) (hr.mono (by first|decide|lia)) T.fi.bd .nil aU (aa (bH T.zS) ag))) bF (aZ _))
   (ak (fB rfl fD T.mE (ya T) T.vq.2 (hr.mono (by first|decide|lia)) (aE (pv 1) rfl))) ba)
  (ak (aF (eU T.dY.eS (kh T) (hr.mono (by first|decide|lia)) rfl T.dY.at_ T.je.2 .nil aU (aa (bT (aa aT (aa (aN T.zX (Dg T) hr aw (aa (pv 0) (aa (bH T.zS) ag))) ag))) (aa fO ag))))),?_⟩
 obtain⟨dn,en⟩:=hR.nm.obj
 obtain⟨dt,ft,et,lt1,lt2,lt3,lt4,lt5⟩:=tk
 refine(rF rfl hR.ins C T.fP rfl (rN rfl en rfl ?_))
 refine uE hR .yarns ⟨_,_,rfl,rfl,_,rfl,?_⟩
 refine aX (fun c=>?_) (fun c=>?_)
 ·have c':0<(e.yarns.getD []).length:=by have:=of_decide_eq_true c;have h:(0:Int)<((e.yarns.getD []).length:Int):=this;lia
  exact(rF rfl et T.bx.cl T.ig lt4 (eR T.mE (hT.err (by unfold pL;rw[if_pos ((uu ev.2).mp c')]))))
 have n1:¬e.yarns.isSome=true:=fun z=>c (decide_eq_true (by
  have:=(uu ev.2).mpr z
  show(0:Int)<((e.yarns.getD []).length:Int)
  lia))
 have e1:pL (aP b p) (ae b (aA b p) e)=gW (bK .yarns) (ae b (aA b p) e)>>=fun x=>.ok (.yarns x.1,{x.2 with env:={x.2.env with yarns:=some x.1}}):=by
  unfold pL
  rw[if_neg n1]
  rfl
 refine(eX _ rfl ?_)
 refine Hr hR .yarns rfl ?_ hT e1 (fun x s k pl hb=>dE (A4 hb)) fun l p' hl e2 H' v' hR' kp md'=>⟨(by show 2<=sizeLine;decide),fun q hq=>fun x6 dx6 n6 nd6 ne6=>⟨x6,dx6,.ref q,.ay,rfl,aB,fun H6 e6 kp6=>⟨rfl,?_⟩⟩⟩
 ·show e.yarns.getD []=[]
  cases q:e.yarns with
  |none=>rfl
  |some l=>rw[q]at n1;exact absurd rfl n1
 ·rw[P5]at hR'
  have G:=cE a 10
  have sm6:=aO.made n6 nd6 kp6
  have hR5:=hR'.same (aS (o:=.lst [.str "yarns",v']) hq)
  have kp5:=kp.trans (bp (aS (o:=.lst [.str "yarns",v']) hq))
  have mp:Md (bE a 10) H (upd H' q (.lst [.str "yarns",v'])) (.ref q) [tw (ascii "yarns"),.li (l.map t1)]:=by
   rw[LH]
   exact aK.list G (aK.cons G (b8 (H0:=H) (H:=H') (ascii "yarns")) (aK.cons G md'.y6 aK.nil)) hq (kp.grow hR'.cells)
  exact kk _ _ {e with yarns:=some l} ⟨ev.1,fun z=>hl (Option.some.inj z)⟩ e2 H6 _ (hR5.same sm6) (kp5.trans (bp sm6)) (Md.vS mp (kp5.grow hR5.cells) sm6 n6 e6 rfl)
@[irreducible] def iS(K:PySem.W.Frag)(a:Ad)(S:ah->Except Fault (LsWale.Head×ah)):Sp:=fun vs H Q E=>∃(b:Bytes)(R:RA)(p:Nat)(e:aD),vs=[.ref R.r]/\au a K b R p 0 (lst e) H/\Ev e/\
 Tl K a E (S (ae b p e))/\∀x p' e',Ev e'->S (ae b p e)=.ok (x,ae b p' e')->∀(H':Hp)(v:V),au a K b R p' 0 (lst e') H'->aJ R H H'->Md (jq a) H H' v x->Q v H'
theorem Ak{S:ah->Except Fault (LsWale.Head×ah)}(vs:List V)(H:Hp)(Q:VK)(E:XK)(h:iS K a S vs H Q E):vs.length=1:=by
 unfold iS at h
 obtain⟨_,_,_,_,rfl,_⟩:=h;rfl
theorem pH{e e':aD}(h:c9 e e'){j:Kd}(hj:dm j=true):lst e' j=lst e j:=by
 obtain⟨h1,h2,h3,h4,h5⟩:=h
 cases j with
 |sizes=>show e'.sizes.getD []=e.sizes.getD [];rw[h1]
 |yarns=>show e'.yarns.getD []=e.yarns.getD [];rw[h2]
 |fb=>exact h3
 |words=>exact h4
 |blocks=>exact h5
 |markers=>cases hj
 |holders=>cases hj
theorem xE{e e':aD}(h:c9 e e')(ev:Ev e):Ev e':=⟨by rw[h.1];exact ev.1,by rw[h.2.1];exact ev.2⟩
theorem uT{e e':aD}(h:c9 e e'){x:Bytes}(u:dJ (lst e) x):dJ (lst e') x:=fun j hj=>by rw[pH h hj];exact u j hj
def FP(s:ah):Except Fault (LsWale.Head×ah):=newName s.env.blocks.length 64 s []>>=fun n=>iN 0 n.2>>=fun x=>.ok (.block n.1 x.1,{x.2 with env:={x.2.env with blocks:=x.2.env.blocks++[n.1]}})
def Ni(s:ah):Except Fault (LsWale.Head×ah):=newName s.env.words.length 64 s []>>=fun n=>eatSign '=' n.2>>=fun t=>cR 0 t>>=fun x=>eatSign ';' x.2>>=fun u=>.ok (.word n.1 x.1,{u with env:={u.env with words:=u.env.words++[n.1]}})
def A6(s:ah):Except Fault (LsWale.Head×ah):=newName s.env.lets.length 256 s []>>=fun n=>eatSign '=' n.2>>=fun t=>j2 t>>=fun x=>eatSign ';' x.2>>=fun u=>
 if x.1.length≠1/\x.1.length≠s.env.many then .error ⟨7,s.place⟩else .ok (.let_ n.1 x.1,{u with env:={u.env with lets:=u.env.lets++[n.1]}})
theorem PR(e:aD)(x:Bytes):dz (lst e) .blocks x=lst {e with blocks:=e.blocks++[x]}:=by funext j;cases j<;>rfl
theorem NQ(e:aD)(x:Bytes):dz (lst e) .words x=lst {e with words:=e.words++[x]}:=by funext j;cases j<;>rfl
theorem Ph(e:aD)(x:Bytes):dz (lst e) .fb x=lst {e with lets:=e.lets++[x]}:=by funext j;cases j<;>rfl
theorem IU(d:Nat)(s:ah):Ke s.env (iN d s):=by
 unfold iN
 exact dX.bind fun t h1=>Ke.bind fun i u h2=>dX.bind fun v h3=>bR (((tV t h1).trans (OH _ _ i u h2)).trans (iH v h3))
theorem Aq:aI ["reader","name","body"] ["reader"] (aC AY):=⟨rfl,rfl,rfl,by decide +kernel,rfl,by decide +kernel,by decide +kernel⟩
theorem OO(T:Tx P w K mg a):ax P w K mg base (bj P w) 96 a.pJ a.rb ["reader"] (iS K a FP):=by
 refine aG.bz (k:=95) T.Cu.fn Aq Ak (fun cdv A outer s H vs Q E hr h=>?_)
 unfold iS at h
 obtain⟨b,R,p,e,rfl,hR,ev,hT,kk⟩:=h
 have C:=T.bL.cl
 have G:=cE a 10
 refine⟨_,aj (a3 (i:=1) Aq.nd rfl (Or.inl rfl) ((a0 (pv 0) C T.ji.mt (u9 T) (hr.mono (by first|decide|lia)) T.ji.bd .nil aw (aa (bH T.xM) ag))))
  (aj (a3 (i:=2) Aq.nd rfl (Or.inl rfl) (aN T.yn (D2 T (by lia) (AJ T 8)) hr aw (aa (pv 0) ag))) (aj (a9 ((a0 (aE (pv 0) rfl) T.cJ.cl T.jx.mt (Bl T) (hr.mono (by first|decide|lia)) T.jx.bd .nil aU (aa (pv 1) (aa (bH T.xM) ag)))))
  (ak (aF (eU T.dY.eS (kh T) (hr.mono (by first|decide|lia)) rfl T.dY.at_ T.je.2 .nil aU (aa (bT (aa aT (aa (aE (pv 1) rfl) ag))) (aa (pv 2) ag))))))),?_⟩
 refine(rM rfl hR.ins rfl ?_)
 refine wb (k:=.blocks) hR hT rfl rfl rfl (zL e) fun x hx un hl e1 H1 y hR1 kp1 tk1=>?_
 unfold di at tk1
 rw[jK hx]at tk1
 refine(eX _ rfl ?_)
 refine cv (m:=9) hR1 (by lia) (by lia) hT e1 (fun x s k pl hb=>dE (A4 hb)) fun x2 p2 e2 hS e3 H2 v2 hR2 kp2 md2=>?_
 have sm:c9 e e2:=IU 0 _ _ _ hS
 have tk2:=b9.keepR tk1 hR1 kp2
 obtain⟨dn,en⟩:=hR2.nm.obj
 refine(rF rfl hR2.ins C T.fP rfl (rN rfl en rfl (eX _ rfl ?_)))
 refine tW hR2 .blocks tk2 rfl (uT sm un) (by rw[pH sm rfl];exact hl) fun H3 hR3 kp3=>?_
 obtain⟨dt,ft,et,lt1,lt2,lt3,lt4,lt5⟩:=b9.keepR tk2 hR2 kp3
 have kp03:=(kp1.trans kp2).trans kp3
 refine(rF rfl et T.bx.cl T.cf lt2 ⟨(by show 2<=sizeLine;decide),fun q hq=>(eX _ rfl (fun x6 dx6 n6 nd6 ne6=>⟨x6,dx6,.ref q,v2,rfl,aB,fun H6 e6 kp6=>⟨rfl,?_⟩⟩))⟩)
 rw[PR]at hR3
 have sm6:=aO.made n6 nd6 kp6
 have hR5:=hR3.same (aS (o:=.lst [.str "block",.str (strOf x)]) hq)
 have kp5:=kp03.trans (bp (aS (o:=.lst [.str "block",.str (strOf x)]) hq))
 have mp:Md (bE a 10) H (upd H3 q (.lst [.str "block",.str (strOf x)])) (.ref q) (t2 (ascii "block") x):=by
  rw[Pd]
  exact aK.list G (aK.cons G (b8 (H0:=H) (H:=H3) (ascii "block")) (aK.cons G (b8 x) aK.nil)) hq (kp03.grow hR3.cells)
 have md5:=((md2.keep (zf a 8) hR1.cells kp3).same (zf a 8) (aS (o:=.lst [.str "block",.str (strOf x)]) hq)).old (kp1.grow hR1.cells)
 obtain⟨F5,⟨hfs,-⟩,s5⟩:=md5
 refine kk _ _ {e2 with blocks:=e2.blocks++[x]} (show Ev e2 from xE sm ev) e3 H6 _ (hR5.same sm6) (kp5.trans (bp sm6)) ?_
 exact(Md.CU mp ⟨F5,hfs,s5⟩ (kp5.grow hR5.cells) sm6 n6 e6).map fun F q=>q
theorem wM:aI ["reader","name","listed"] ["reader"] (aC Bt):=⟨rfl,rfl,rfl,by decide +kernel,rfl,by decide +kernel,by decide +kernel⟩
theorem Qa(T:Tx P w K mg a):ax P w K mg base (bj P w) 68 a.rX a.rE ["reader"] (iS K a Ni):=by
 refine aG.bz (k:=67) T.Dm.fn wM Ak (fun cdv A outer s H vs Q E hr h=>?_)
 unfold iS at h
 obtain⟨b,R,p,e,rfl,hR,ev,hT,kk⟩:=h
 have C:=T.bL.cl
 have G:=cE a 10
 refine⟨_,aj (a3 (i:=1) wM.nd rfl (Or.inl rfl) ((a0 (pv 0) C T.ji.mt (u9 T) (hr.mono (by first|decide|lia)) T.ji.bd .nil aw (aa (bH T.xT) ag))))
  (aj (a9 (a0 (pv 0) C T.cX.mt (iT T) (hr.mono (by first|decide|lia)) T.cX.bd .nil aw (aa aT ag))) (aj (a3 (i:=2) wM.nd rfl (Or.inl rfl) (aN T.uL (w6 T 9) hr aw (aa (pv 0) ag))) (aj (a9 (a0 (pv 0) C T.cX.mt (iT T) (hr.mono (by first|decide|lia)) T.cX.bd .nil aw (aa aT ag))) (aj (a9 ((a0 (aE (pv 0) rfl) T.cJ.cl T.jx.mt (Bl T) (hr.mono (by first|decide|lia)) T.jx.bd .nil aU (aa (pv 1) (aa (bH T.xT) ag)))))
  (ak (aF (eU T.dY.eS (kh T) (hr.mono (by first|decide|lia)) rfl T.dY.at_ T.je.2 .nil aU (aa (bT (aa aT (aa (aE (pv 1) rfl) (aa aT (aa (pv 2) ag))))) (aa fO ag))))))))),?_⟩
 refine(rM rfl hR.ins rfl ?_)
 refine wb (k:=.words) hR hT rfl rfl rfl (zL e) fun x hx un hl e1 H1 y hR1 kp1 tk1=>?_
 unfold di at tk1
 rw[jK hx]at tk1
 refine(rM rfl hR1.ins rfl ?_)
 refine gU hR1 hT e1 (k:=fun e2 H2 z hR2 kp2 _=>(eX _ rfl ?_))
 refine cv (m:=9) hR2 (by lia) (by lia) hT e2 (fun x s k pl hb=>kX hb) fun x2 p2 e3 hS e4 H3 v3 hR3 kp3 md3=>?_
 have sm:c9 e e3:=Mc 0 _ _ _ hS
 refine(rM rfl hR3.ins rfl ?_)
 refine gU hR3 hT e4 (k:=fun e5 H4 z hR4 kp4 _=>?_)
 have tk4:=b9.keepR tk1 hR1 ((kp2.trans kp3).trans kp4)
 obtain⟨dn,en⟩:=hR4.nm.obj
 refine(rF rfl hR4.ins C T.fP rfl (rN rfl en rfl (eX _ rfl ?_)))
 refine tW hR4 .words tk4 rfl (uT sm un) (by rw[pH sm rfl];exact hl) fun H5 hR5 kp5=>?_
 obtain⟨dt,ft,et,lt1,lt2,lt3,lt4,lt5⟩:=b9.keepR tk4 hR4 kp5
 have kp05:=(((kp1.trans kp2).trans kp3).trans kp4).trans kp5
 refine(rF rfl et T.bx.cl T.cf lt2 (eX _ rfl ⟨(by show 4<=sizeLine;decide),fun q hq=>fun x6 dx6 n6 nd6 ne6=>⟨x6,dx6,.ref q,.ay,rfl,aB,fun H6 e6 kp6=>⟨rfl,?_⟩⟩⟩))
 rw[NQ]at hR5
 have sm6:=aO.made n6 nd6 kp6
 have hR7:=hR5.same (aS (o:=.lst [.str "word",.str (strOf x),.str "=",v3]) hq)
 have kp7:=kp05.trans (bp (aS (o:=.lst [.str "word",.str (strOf x),.str "=",v3]) hq))
 have md5:=((md3.keep (Ej a 9) hR2.cells (kp4.trans kp5)).old ((kp1.trans kp2).grow hR2.cells)).Be
 have mp:Md (bE a 10) H (upd H5 q (.lst [.str "word",.str (strOf x),.str "=",v3])) (.ref q) [tw (ascii "word"),tw x,tw (ascii "="),.li (bY x2)]:=by
  rw[Px,Dt]
  exact aK.list G (aK.cons G (b8 (H0:=H) (H:=H5) (ascii "word")) (aK.cons G (b8 x) (aK.cons G (b8 (ascii "=")) (aK.cons G md5 aK.nil)))) hq (kp05.grow hR5.cells)
 exact kk _ _ {e3 with words:=e3.words++[x]} (show Ev e3 from xE sm ev) e5 H6 _ (hR7.same sm6) (kp7.trans (bp sm6)) (Md.vS mp (kp7.grow hR7.cells) sm6 n6 e6 rfl)
end Wale
end
section
set_option Elab.async false
set_option linter.all false
set_option maxRecDepth 100000
set_option maxHeartbeats 2000000
namespace Wale
open PySem PySem.Spec PyProof.Rows L2
open Wm
open LsWale (ascii Fault eatSign eatWord eatOpen anyName newName oldName markName holdName wanted isName PLAINS)
variable {P:Program}{w:World}{K:PySem.W.Frag}{mg:Str->Option Value}{base:Heap}{a:Ad}
def j9(acc:List LsWale.Sum)(s:ah):Except Fault (List LsWale.Sum×ah):=if s.isSign ','=true then(j2 s.next>>=fun l=>.ok (acc++l.1,l.2))else .ok (acc,s)
theorem Lx{b:Bytes}{p:Nat}{e:aD}{acc:List LsWale.Sum}(h:(ae b p e).isSign ','=true):j9 acc (ae b p e)=bc .sum 0 (ae b (aA b p) e)>>=fun x=>j9 (acc++[x.1]) x.2:=by
 unfold j9
 rw[if_pos h,cV (g0 h),Gr,bW]
 refine a8 rfl fun x s hx=>?_
 dsimp only
 by_cases c:s.isSign ','=true
 ·rw[if_pos c,if_pos c,bW]
  refine a8 rfl fun y t hy=>?_
  show Except.ok (acc++x::y,t)=Except.ok (acc++[x]++y,t)
  rw[List.append_assoc];rfl
 ·rw[if_neg c,if_neg c];rfl
theorem NU(s:ah):j2 s=bc .sum 0 s>>=fun x=>j9 [x.1] x.2:=by
 rw[Gr]
 rfl
theorem Bh{α:Type}{s:ah}{k pl:Nat}{acc:List LsWale.Sum}{f:List LsWale.Sum×ah->Except Fault (α×ah)}(h:HB s k pl)(hf:∀x,bN (f (x,s)) k pl):bN (j9 acc s>>=f) k pl:=by
 unfold j9
 rw[if_neg (by rw[gq h];decide)]
 exact hf _
theorem Rb{e:aD}{n:Nat}(h:1<=n)(ev:Ev e):(n≠1/\n≠e.many)↔(n≠1/\n≠(e.sizes.getD []).length):=by
 unfold LsWale.Env.many
 cases e.sizes with
 |none=>simp;lia
 |some l=>rfl
theorem zp:aI ["reader","name","phrases"] ["reader"] (aC yX):=⟨rfl,rfl,rfl,by decide +kernel,rfl,by decide +kernel,by decide +kernel⟩
theorem ND(T:Tx P w K mg a):ax P w K mg base (bj P w) 38 a.rW a.sJ ["reader"] (iS K a A6):=by
 refine aG.bz (k:=37) T.HF.fn zp Ak (fun cdv A outer s H vs Q E hr h=>?_)
 unfold iS at h
 obtain⟨b,R,p,e,rfl,hR,ev,hT,kk⟩:=h
 have C:=T.bL.cl
 have G:=cE a 9
 have GP:=cK a 9
 have G10:=cE a 10
 refine⟨_,aj (a3 (i:=1) zp.nd rfl (Or.inl rfl) ((a0 (pv 0) C T.ji.mt (u9 T) (hr.mono (by first|decide|lia)) T.ji.bd .nil aw (aa (bH T.uN) ag))))
  (aj (a9 (a0 (pv 0) C T.cX.mt (iT T) (hr.mono (by first|decide|lia)) T.cX.bd .nil aw (aa aT ag))) (aj (a3 (i:=2) zp.nd rfl (Or.inl rfl) (bT (aa (bT (aa (aN T.jz (j8 T 9) hr aw (aa (pv 0) ag)) ag)) ag)))
  (aj (gN iD (cY (a0 (pv 0) C T.eB.mt (j0 T) (hr.mono (by first|decide|lia)) T.eB.bd .nil aw (aa aT ag))) (ak (a9 ((eh PySem.F.plainAttrs_list PySem.F.slot_list_append PySem.F.type_list_append gJ (pv 2) (aa (bT (aa (aN T.jz (j8 T 9) hr aw (aa (pv 0) ag)) ag)) ag))))))
  (aj (a9 (a0 (pv 0) C T.cX.mt (iT T) (hr.mono (by first|decide|lia)) T.cX.bd .nil aw (aa aT ag)))
  (aj (a4 (PW.pt (ng (a5 j4 (pq zY (by rfl) T.gL PySem.boot_len (aa (pv 2) ag)) bF (aZ _)) (rp (a5 j4 (pq zY (by rfl) T.gL PySem.boot_len (aa (pv 2) ag)) ((a0 (aE (pv 0) rfl) T.cJ.cl T.fi.mt (v8 T) (hr.mono (by first|decide|lia)) T.fi.bd .nil aU (aa (bH T.AZ) ag))) (aZ _)))))
   (ak (fB rfl fD T.GA (Qn T) T.DK.2 (hr.mono (by first|decide|lia)) (aE (pv 1) rfl))) ba)
  (aj (a9 ((a0 (aE (pv 0) rfl) T.cJ.cl T.jx.mt (Bl T) (hr.mono (by first|decide|lia)) T.jx.bd .nil aU (aa (pv 1) (aa (bH T.uN) ag)))))
  (ak (aF (eU T.dY.eS (kh T) (hr.mono (by first|decide|lia)) rfl T.dY.at_ T.je.2 .nil aU (aa (bT (aa aT (aa (aE (pv 1) rfl) (aa aT (aa (eU T.fg.eS (zq T) (hr.mono (by first|decide|lia)) rfl T.fg.at_ T.wa.2 .nil aU (aa (pv 2) ag)) ag))))) (aa fO ag))))))))))),?_⟩
 refine(rM rfl hR.ins rfl ?_)
 refine wb (k:=.fb) hR hT rfl rfl rfl (zL e) fun x hx un hl e1 H1 y hR1 kp1 tk1=>?_
 unfold di at tk1
 rw[jK hx]at tk1
 refine(rM rfl hR1.ins rfl ?_)
 refine gU hR1 hT e1 (k:=fun e2 H2 z hR2 kp2 _=>(eX _ rfl ?_))
 rw[NU,bW]at e2
 have hbf:∀(x1:List LsWale.Sum)(s:ah)(k pl:Nat),HB s k pl->bN (eatSign ';' s>>=fun u=>(if x1.length≠1/\x1.length≠e.many then .error ⟨7,(ae b p e).place⟩else .ok (.let_ x x1,{u with env:={u.env with lets:=u.env.lets++[x]}}):Except Fault (LsWale.Head×ah))) k pl:=fun x1 s k pl hb=>kX hb
 refine cv (m:=9) hR2 (by lia) (by lia) hT e2 (fun x s k pl hb=>Bh hb fun x1=>hbf x1 s k pl hb) fun x2 p2 e3 hS e4 H3 v3 hR3 kp3 md3=>⟨(by show 1<=sizeLine;decide),fun l1 hl1=>⟨(by show 1<=sizeLine;decide),fun l hl2=>?_⟩⟩
 have sm3:c9 e e3:=C9 .sum 0 _ _ _ hS
 have kp02:=kp1.trans kp2
 have kp03:=kp02.trans kp3
 have g3:=kp03.grow hR3.cells
 have m1:Md (bE a 9) H (upd H3 l1 (.lst [v3])) (.ref l1) [.tx (norm x2)]:=aK.list G (aK.cons G (jG (md3.old (kp02.grow hR2.cells))) aK.nil) hl1 g3
 have ml:=aK.list GP (aK.cons GP m1 aK.nil) hl2 (g3.trans sr)
 let I:List LsWale.Sum×Nat×aD->L2.St->Hp->Prop:=fun i σ H'=>σ=[some (.ref R.r),some (.ref y),some (.ref l)]/\1<=i.1.length/\au a K b R i.2.1 0 (lst i.2.2) H'/\aJ R H1 H'/\c9 e i.2.2/\
  A6 (ae b p e)=(j9 i.1 (ae b i.2.1 i.2.2)>>=fun x1=>eatSign ';' x1.2>>=fun u=>if x1.1.length≠1/\x1.1.length≠e.many then .error ⟨7,(ae b p e).place⟩else .ok (.let_ x x1.1,{u with env:={u.env with lets:=u.env.lets++[x]}}))/\
  Md (bM (bE a 9)) H H' (.ref l) (i.1.map fun x=>[.tx (norm x)])/\i.1.length+(toks b i.2.1).length<=(toks b (aA b (aA b p))).length
 let μ:List LsWale.Sum×Nat×aD->Nat:=fun i=>(toks b i.2.1).length
 have l0:=nA (iI _ 0 _) hS
 refine gp I μ ([x2],p2,e3) ⟨rfl,Nat.le_refl _,(hR3.same (aS hl1)).same (aS hl2),((kp2.trans kp3).trans (bp (aS hl1))).trans (bp (aS hl2)),sm3,e4,ml,?_⟩ ?_
 ·show 1+(toks b p2).length<=_
  lia
 rintro⟨acc,p4,e5⟩ σ H4 ⟨rfl,hn,hR4,kp4,sm4,h4,ms,ln⟩
 dsimp only at hn hR4 h4 sm4 ms ln
 have sz:=qv hR.len (aA b (aA b p))
 refine(rM rfl hR4.ins rfl ?_)
 refine yr (c:=',') (e:=e5) hR4 hT (fun k pl hb=>by rw[h4];exact Bh hb fun x1=>hbf x1 _ k pl hb) (fun c H5 hR5 kp5=>?_) (fun c nb H5 hR5 kp5=>?_)
 ·rw[Lx c,bW]at h4
  have ms5:=ms.keep (bJ GP) hR.cells kp5
  obtain⟨hnl,vs5,el5,hlen5⟩:=ms5.cell
  refine(eX _ rfl (bu ?_))
  refine fZ (I:=I) (μ:=μ) (i:=(acc,p4,e5)) ?_
  refine(eX _ rfl ⟨.inl ⟨rfl,_,aM.of el5⟩,eX _ rfl ?_⟩)
  refine cv (m:=9) hR5 (by lia) (by lia) hT h4 (fun x s k pl hb=>Bh hb fun x1=>hbf x1 s k pl hb) fun x6 p6 e6 hS6 h6 H6 v6 hR6 kp6 md6=>⟨(by show 1<=sizeLine;decide),fun l6 hl6=>?_⟩
  have kp05:=(kp1.trans kp4).trans kp5
  have m6:Md (bE a 9) H5 (upd H6 l6 (.lst [v6])) (.ref l6) [.tx (norm x6)]:=aK.list G (aK.cons G (jG md6) aK.nil) hl6 (kp6.grow hR6.cells)
  have ms6:=(ms5.keep (bJ GP) hR.cells kp6).same (bJ GP) (aS (o:=.lst [v6]) hl6)
  obtain⟨_,vs6,el6,hlen6⟩:=ms6.cell
  have hR7:=hR6.same (aS (o:=.lst [v6]) hl6)
  have kp17:=((kp4.trans kp5).trans kp6).trans (bp (aS (o:=.lst [v6]) hl6))
  have lc:dC H (upd H6 l6 (.lst [v6])) (upd (upd H6 l6 (.lst [v6])) l (.lst (vs6++[.ref l6]))) l:=eY hnl el6
  have l1:=nA (iI _ 0 _) hS6
  have l2:=pB (g0 c)
  rw[List.length_map]at hlen6
  have h1l:H1 l=none:=by
   cases q:H1 l with
   |none=>rfl
   |some o=>
    have:=((((kp2.trans kp3).trans (bp (aS (o:=.lst [v3]) hl1))).grow (hR3.same (aS hl1)).cells).none hl2)
    rw[this]at q;cases q
  refine⟨l,vs6,.ref l6,rfl,rfl,el6,by lia,(acc++[x6],p6,e6),?_,rfl,?_,hR7.bV hR lc,kp17.bV ⟨lc.keep,h1l,lc.lst,lc.grow⟩,sm4.trans (C9 .sum 0 _ _ _ hS6),h6,?_,?_⟩
  ·show(toks b p6).length<(toks b p4).length
   lia
  ·show 1<=(acc++[x6]).length
   rw[List.length_append];lia
  ·show Md _ _ _ _ ((acc++[x6]).map fun x=>[PT.tx (norm x)])
   rw[List.map_append]
   exact ms6.append GP el6 m6 (fk el5) (kp05.grow hR5.cells)
  ·show(acc++[x6]).length+(toks b p6).length<=_
   rw[List.length_append,List.length_singleton];lia
 have e6:A6 (ae b p e)=eatSign ';' (ae b p4 e5)>>=fun u=>if acc.length≠1/\acc.length≠e.many then .error ⟨7,(ae b p e).place⟩else .ok (.let_ x acc,{u with env:={u.env with lets:=u.env.lets++[x]}}):=by
  rw[h4]
  unfold j9
  rw[if_neg (by rw[c];decide)]
  rfl
 refine(eX _ rfl (bD (rM rfl hR5.ins rfl ?_)))
 refine gU hR5 hT e6 (k:=fun e7 H6 z hR6 kp6 _=>?_)
 have tk6:=b9.keepR tk1 hR1 ((kp4.trans kp5).trans kp6)
 have hz:lst e5 .sizes=lst e .sizes:=pH sm4 rfl
 have mi:=Rb (e:=e) hn ev
 have ms6:=ms.keep (bJ GP) hR.cells (kp5.trans kp6)
 obtain⟨_,vs6,el6,hlen6⟩:=ms6.cell
 rw[List.length_map]at hlen6
 have kp06:=kp1.trans ((kp4.trans kp5).trans kp6)
 have fin:¬(acc.length≠1/\acc.length≠e.many)->∀(H7 H8 H9:Hp)(q x8 dx8 x9 dx9:Addr),au a K b R (aA b p4) 0 (dz (lst e5) .fb x) H7->aJ R H6 H7->aO H7 H8->H7 x8=none->H8 x8=some (.ins a.cy dx8 [("phrases",.ref l)])->H8 q=none->
   aO (upd H8 q (.lst [.str "let",.str (strOf x),.str "=",.ref x8])) H9->upd H8 q (.lst [.str "let",.str (strOf x),.str "=",.ref x8]) x9=none->H9 x9=some (.ins a.dP dx9 [("phrase",.ref q),("body",.ay)])->Q (.ref x9) H9:=fun hc H7 H8 H9 q x8 dx8 x9 dx9 hR7 kp7 sm8 n8 e8 hq sm9 n9 e9=>by
  rw[if_neg hc]at e7
  rw[Ph]at hR7
  have kp07:=kp06.trans kp7
  have g7:=kp07.grow hR7.cells
  have mL:=(Md.listed G (ms6.keep (bJ GP) hR.cells kp7) g7 sm8 n8 e8).y6
  have hR8:=hR7.same sm8
  have kp08:=kp07.trans (bp sm8)
  have mp:Md (bE a 10) H (upd H8 q (.lst [.str "let",.str (strOf x),.str "=",.ref x8])) (.ref q) [tw (ascii "let"),tw x,tw (ascii "="),.li (acc.map fun x=>[.tx (norm x)])]:=by
   rw[QP,Dt]
   exact aK.list G10 (aK.cons G10 (b8 (H0:=H) (H:=H8) (ascii "let")) (aK.cons G10 (b8 x) (aK.cons G10 (b8 (ascii "=")) (aK.cons G10 mL aK.nil)))) hq (kp08.grow hR8.cells)
  have hR8':=hR8.same (aS (o:=.lst [.str "let",.str (strOf x),.str "=",.ref x8]) hq)
  have kp8':=kp08.trans (bp (aS (o:=.lst [.str "let",.str (strOf x),.str "=",.ref x8]) hq))
  exact kk _ _ {e5 with lets:=e5.lets++[x]} (show Ev e5 from xE sm4 ev) e7 H9 _ (hR8'.same sm9) (kp8'.trans (bp sm9)) (Md.vS mp (kp8'.grow hR8'.cells) sm9 n9 e9 rfl)
 obtain⟨dn,en⟩:=hR6.nm.obj
 refine(eX _ rfl ⟨l,eX _ rfl ⟨.inl (aM.of el6),rfl,eX _ rfl ?_⟩⟩)
 rw[gn,hlen6]
 by_cases c1:acc.length=1
 ·refine pw (by rw[c1];rfl) ?_
  refine bD ?_
  refine(rF rfl hR6.ins C T.fP rfl (rN rfl en rfl (eX _ rfl ?_)))
  refine tW hR6 .fb tk6 rfl (uT sm4 un) (by rw[pH sm4 rfl];exact hl) fun H7 hR7 kp7=>?_
  obtain⟨dt,ft,et,lt1,lt2,lt3,lt4,lt5⟩:=b9.keepR tk6 hR6 kp7
  refine(rF rfl et T.bx.cl T.cf lt2 (eX _ rfl (fun x8 dx8 n8 nd8 ne8=>⟨x8,dx8,.ref l,rfl,aB,fun H8 e8 kp8=>⟨rfl,(by show 4<=sizeLine;decide),fun q hq=>fun x9 dx9 n9 nd9 ne9=>⟨x9,dx9,.ref q,.ay,rfl,aB,fun H9 e9 kp9=>⟨rfl,?_⟩⟩⟩⟩)))
  exact fin (fun z=>z.1 c1) H7 H8 H9 q x8 dx8 x9 dx9 hR7 kp7 (aO.made n8 nd8 kp8) n8 e8 hq (aO.made n9 nd9 kp9) n9 e9
 ·rw[decide_eq_false (fun z=>c1 (by have z:((acc.length:Nat):Int)=1:=z;lia))]
  refine bu (eX _ rfl ⟨l,eX _ rfl ⟨.inl (aM.of el6),rF rfl hR6.ins C T.fP rfl (rN rfl en rfl ?_)⟩⟩)
  refine uE hR6 .sizes ⟨rfl,_,rfl,?_⟩
  rw[gn,hz,hlen6]
  by_cases c2:acc.length=(lst e .sizes).length
  ·refine pw (by rw[c2]) ?_
   refine(rF rfl hR6.ins C T.fP rfl (rN rfl en rfl (eX _ rfl ?_)))
   refine tW hR6 .fb tk6 rfl (uT sm4 un) (by rw[pH sm4 rfl];exact hl) fun H7 hR7 kp7=>?_
   obtain⟨dt,ft,et,lt1,lt2,lt3,lt4,lt5⟩:=b9.keepR tk6 hR6 kp7
   refine(rF rfl et T.bx.cl T.cf lt2 (eX _ rfl (fun x8 dx8 n8 nd8 ne8=>⟨x8,dx8,.ref l,rfl,aB,fun H8 e8 kp8=>⟨rfl,(by show 4<=sizeLine;decide),fun q hq=>fun x9 dx9 n9 nd9 ne9=>⟨x9,dx9,.ref q,.ay,rfl,aB,fun H9 e9 kp9=>⟨rfl,?_⟩⟩⟩⟩)))
   exact fin (fun z=>(mi.mp z).2 c2) H7 H8 H9 q x8 dx8 x9 dx9 hR7 kp7 (aO.made n8 nd8 kp8) n8 e8 hq (aO.made n9 nd9 kp9) n9 e9
  ·rw[decide_eq_false (fun(z:((acc.length:Nat):Int)=((lst e .sizes).length:Nat))=>c2 (by lia))]
   rw[if_pos (mi.mpr ⟨c1,c2⟩)]at e7
   obtain⟨dt,ft,et,lt1,lt2,lt3,lt4,lt5⟩:=tk6
   refine bu (rF rfl et T.bx.cl T.ig lt4 (eR T.GA (hT.err ?_)))
   rw[e7,ku]
end Wale
end
section
set_option Elab.async false
set_option linter.all false
set_option maxRecDepth 100000
set_option maxHeartbeats 2000000
namespace Wale
open PySem PySem.Spec PyProof.Rows L2
open Wm
open LsWale (ascii Fault eatSign eatWord eatOpen anyName newName oldName markName holdName wanted isName PLAINS)
variable {P:Program}{w:World}{K:PySem.W.Frag}{mg:Str->Option Value}{base:Heap}{a:Ad}
section
variable {α:Type}{b:Bytes}{R:RA}{p:Nat}{e:aD}{H:Hp}{Q:VK}{E:XK}{g:Except Fault (LsWale.Head×ah)}
theorem EB{S:Nat->ah->Except Fault (LsWale.Head×ah)}{x:Addr}(hR:au a K b R (aA b p) 0 (lst e) H)(tk:di a b p H x)(ev:Ev e)(hT:Tl K a E g)(hg:g=S (aP b p) (ae b (aA b p) e))
  (kk:∀x p' e',Ev e'->g=.ok (x,ae b p' e')->∀(H':Hp)(v:V),au a K b R p' 0 (lst e') H'->aJ R H H'->Md (jq a) H H' v x->Q v H'):jX K a S [.ref R.r,.ref x] H Q E:=by
 subst hg
 unfold jX
 exact⟨b,R,p,e,x,rfl,hR,tk,ev,hT,kk⟩
theorem w9{S:ah->Except Fault (LsWale.Head×ah)}(hR:au a K b R p 0 (lst e) H)(ev:Ev e)(hT:Tl K a E g)(hg:g=S (ae b p e))
  (kk:∀x p' e',Ev e'->g=.ok (x,ae b p' e')->∀(H':Hp)(v:V),au a K b R p' 0 (lst e') H'->aJ R H H'->Md (jq a) H H' v x->Q v H'):iS K a S [.ref R.r] H Q E:=by
 subst hg
 unfold iS
 exact⟨b,R,p,e,rfl,hR,ev,hT,kk⟩
end
@[irreducible] def ll(K:PySem.W.Frag)(a:Ad):Sp:=fun vs H Q E=>∃(b:Bytes)(R:RA)(p:Nat)(e:aD)(g:Except Fault (LsWale.Head×ah)),vs=[.ref R.r]/\au a K b R p 0 (lst e) H/\Ev e/\eE (ae b p e)=some g/\
 Tl K a E g/\∀x p' e',Ev e'->g=.ok (x,ae b p' e')->∀(H':Hp)(v:V),au a K b R p' 0 (lst e') H'->aJ R H H'->Md (jq a) H H' v x->Q v H'
theorem Qi{α:Type}{b:Bytes}{R:RA}{p:Nat}{e:aD}{H:Hp}{Q:VK}{E:XK}{g:Except Fault (LsWale.Head×ah)}{r:Except Fault (α×ah)}{f:LsWale.Head×ah->Except Fault (α×ah)}(hR:au a K b R p 0 (lst e) H)(ev:Ev e)(hg:eE (ae b p e)=some g)(hT:Tl K a E r)(hr:r=g>>=f)(hB:∀x s k pl,HB s k pl->bN (f (x,s)) k pl)
  (kk:∀x p' e',Ev e'->g=.ok (x,ae b p' e')->r=f (x,ae b p' e')->∀(H':Hp)(v:V),au a K b R p' 0 (lst e') H'->aJ R H H'->Md (jq a) H H' v x->Q v H'):ll K a [.ref R.r] H Q E:=by
 unfold ll
 exact⟨b,R,p,e,g,rfl,hR,ev,hg,fun k pl h=>hT k pl (by rw[hr];exact h.bind fun x s hb=>hB x s k pl hb),fun x p' e' ev' hS=>kk x p' e' ev' hS (by rw[hr,hS];rfl)⟩
theorem QY(vs:List V)(H:Hp)(Q:VK)(E:XK)(h:ll K a vs H Q E):vs.length=1:=by
 unfold ll at h
 obtain⟨_,_,_,_,_,rfl,_⟩:=h;rfl
theorem OZ{vs:List V}{H:Hp}{Q:VK}{E:XK}(h:ll K a vs H Q E):∃(b:Bytes)(R:RA)(p:Nat)(e:aD)(g:Except Fault (LsWale.Head×ah)),vs=[.ref R.r]/\au a K b R p 0 (lst e) H/\Ev e/\eE (ae b p e)=some g/\
 Tl K a E g/\∀x p' e',Ev e'->g=.ok (x,ae b p' e')->∀(H':Hp)(v:V),au a K b R p' 0 (lst e') H'->aJ R H H'->Md (jq a) H H' v x->Q v H':=by unfold ll at h;exact h
theorem N2{b:Bytes}{p:Nat}{e:aD}{g:Except Fault (LsWale.Head×ah)}(h:eE (ae b p e)=some g):c7 (aq b p)=true:=by
 by_cases c:c7 (aq b p)=true
 ·exact c
 ·unfold eE gP at h
  simp only[xP c]at h
  cases h
theorem Eo:aI ["reader","token"] ["reader"] (aC Az):=⟨rfl,rfl,rfl,by decide +kernel,rfl,by decide +kernel,by decide +kernel⟩
theorem QC(T:Tx P w K mg a):ax P w K mg base (bj P w) 97 a.pK a.p8 ["reader"] (ll K a):=by
 refine aG.bz (k:=96) T.Cb.fn Eo QY (fun cdv A outer s H vs Q E hr h=>?_)
 obtain⟨b,R,p,e,g,rfl,hR,ev,hg,hT,kk⟩:=OZ h
 have C:=T.bL.cl
 refine⟨_,aj (a3 (i:=1) Eo.nd rfl (Or.inl rfl) (cH (pv 0) C T.cW.mt (jv T) (hr.mono (by first|decide|lia)) T.cW.bd .nil aw))
  (aj (a4 (a5 cp (aE (pv 1) rfl) aT (aZ _)) (ak (aF (aN T.Ez (KZ T) (hr.mono (by first|decide|lia)) aw (aa (pv 0) (aa (pv 1) ag))))) ba)
  (aj (a4 (a5 cp (aE (pv 1) rfl) aT (aZ _)) (ak (aF (aN T.CK (NH T) (hr.mono (by first|decide|lia)) aw (aa (pv 0) (aa (pv 1) ag))))) ba)
  (aj (a4 (a5 cp (aE (pv 1) rfl) aT (aZ _)) (ak (aF (aN T.HF (ND T) (hr.mono (by first|decide|lia)) aw (aa (pv 0) ag)))) ba)
  (aj (a4 (a5 cp (aE (pv 1) rfl) aT (aZ _)) (ak (aF (aN T.Dm (Qa T) (hr.mono (by first|decide|lia)) aw (aa (pv 0) ag)))) ba)
  (ak (aF (aN T.Cu (OO T) hr aw (aa (pv 0) ag)))))))),?_⟩
 have ht:=N2 hg
 have nx:=cV (e:=e) ht
 refine(rM rfl hR.ins rfl ?_)
 refine jB hR (vP ht) fun H1 x hR1 kp1 tk1=>?_
 have tk1':=tk1
 obtain⟨dt,ft,et,lt1,lt2,lt3,lt4,lt5⟩:=tk1
 have cl:=T.bx.cl
 have kk':∀x p' e',Ev e'->g=.ok (x,ae b p' e')->∀(H':Hp)(v:V),au a K b R p' 0 (lst e') H'->aJ R H1 H'->Md (jq a) H1 H' v x->Q v H':=fun x p' e' ev' hS H' v hR' kp' md'=>kk x p' e' ev' hS H' v hR' (kp1.trans kp') (md'.old (kp1.grow hR1.cells))
 unfold eE gP at hg
 rw[nx,ku]at hg
 refine(rF rfl et cl T.cf lt2 ⟨rfl,eX _ rfl ?_⟩)
 rw[cN,fY (c:="sizes") e]
 refine aX (fun c=>?_) (fun c=>?_)
 ·rw[if_pos c]at hg
  refine(eX _ rfl (eX _ rfl ?_))
  refine EB hR1 tk1' ev hT ?_ kk'
  rw[<-Option.some.inj hg]
  unfold rH gW
  dsimp only
  by_cases c2:e.sizes.isSome=true\/e.lets≠[]
  ·rw[if_pos c2,if_pos c2]
  ·rw[if_neg c2,if_neg c2];simp only[bW];rfl
 rw[if_neg c]at hg
 refine(rF rfl et cl T.cf lt2 ⟨rfl,eX _ rfl ?_⟩)
 rw[cN,fY (c:="yarns") e]
 refine aX (fun c=>?_) (fun c=>?_)
 ·rw[if_pos c]at hg
  refine(eX _ rfl (eX _ rfl ?_))
  refine EB hR1 tk1' ev hT ?_ kk'
  rw[<-Option.some.inj hg]
  unfold pL gW
  dsimp only
  by_cases c2:e.yarns.isSome=true
  ·rw[if_pos c2,if_pos c2]
  ·rw[if_neg c2,if_neg c2];simp only[bW];rfl
 rw[if_neg c]at hg
 refine(rF rfl et cl T.cf lt2 ⟨rfl,eX _ rfl ?_⟩)
 rw[cN,fY (c:="let") e]
 refine aX (fun c=>?_) (fun c=>?_)
 ·rw[if_pos c]at hg
  refine(eX _ rfl ?_)
  refine w9 hR1 ev hT ?_ kk'
  rw[<-Option.some.inj hg]
  rfl
 rw[if_neg c]at hg
 refine(rF rfl et cl T.cf lt2 ⟨rfl,eX _ rfl ?_⟩)
 rw[cN,fY (c:="word") e]
 refine aX (fun c=>?_) (fun c=>?_)
 ·rw[if_pos c]at hg
  refine(eX _ rfl ?_)
  refine w9 hR1 ev hT ?_ kk'
  rw[<-Option.some.inj hg]
  rfl
 rw[if_neg c]at hg
 by_cases c2:(ae b p e).isWord "block"=true
 ·rw[if_pos c2]at hg
  refine(eX _ rfl ?_)
  refine w9 hR1 ev hT ?_ kk'
  rw[<-Option.some.inj hg]
  unfold FP iN
  simp only[bW]
  rfl
 ·rw[if_neg c2]at hg
  cases hg
theorem Om{b:Bytes}{p:Nat}(e:aD):ee (.str (bq (aq b p))) ((["sizes","yarns","let","word","block"]:List Str).map V.str)=(eE (ae b p e)).isSome:=by
 rw[in_words (e:=e) ["sizes","yarns","let","word","block"] (by decide +kernel) (by decide +kernel)]
 unfold eE gP
 simp only[List.any_cons,List.any_nil,Bool.or_false]
 by_cases h1:(ae b p e).isWord "sizes"=true
 ·simp[h1]
 by_cases h2:(ae b p e).isWord "yarns"=true
 ·simp[h1,h2]
 by_cases h3:(ae b p e).isWord "let"=true
 ·simp[h1,h2,h3]
 by_cases h4:(ae b p e).isWord "word"=true
 ·simp[h1,h2,h3,h4]
 by_cases h5:(ae b p e).isWord "block"=true
 ·simp[h1,h2,h3,h4,h5]
 ·simp[h1,h2,h3,h4,h5]
def gX(n:Bytes)(hs:List LsWale.Head)(x:LsWale.Stats×ah):Except Fault (LsWale.Pattern×ah):=match x.2.ts with
 |⟨_,.done⟩::_=>.ok (⟨n,hs,x.1⟩,x.2)
 |_=>wanted x.2
def jM(s:ah):Except Fault (LsWale.Pattern×ah):=eatWord "pattern" s>>=fun s=>anyName s>>=fun n=>eatSign ';' n.2>>=fun t=>kx t>>=fun h=>cU 0 h.2>>=fun x=>gX n.1 h.1 x
theorem D5(s:ah):uj s=(jM s).map fun x=>(x.1,x.2.env):=by
 unfold uj jM
 cases eatWord "pattern" s with
 |error f=>rfl
 |ok s1=>
  simp only[dw]
  cases anyName s1 with
  |error f=>rfl
  |ok n=>
   simp only[dw]
   cases eatSign ';' n.2 with
   |error f=>rfl
   |ok t=>
    simp only[dw]
    cases kx t with
    |error f=>rfl
    |ok h=>
     simp only[dw]
     cases cU 0 h.2 with
     |error f=>rfl
     |ok x=>
      simp only[dw]
      obtain⟨xs,⟨ts,env⟩⟩:=x
      cases ts with
      |nil=>rfl
      |cons t r=>
       obtain⟨q,tk⟩:=t
       cases tk<;>rfl
theorem Fz(n:Bytes)(hs:List LsWale.Head)(x:LsWale.Stats)(b:Bytes)(p:Nat)(e:aD):gX n hs (x,ae b p e)=match aq b p with
  | .done=>.ok (⟨n,hs,x⟩,ae b p e)
  |_=>wanted (ae b p e):=by
 unfold gX
 dsimp only
 rw[wo]
 cases aq b p<;>rfl
theorem zH{n:Bytes}{hs:List LsWale.Head}{x:LsWale.Stats}{s:ah}{k pl:Nat}(h:HB s k pl):gX n hs (x,s)=.error ⟨k,pl⟩:=by
 unfold gX
 have q:=k6 (α:=LsWale.Pattern×ah) h
 obtain⟨r,h⟩:=h
 dsimp only
 rw[h]
 exact q
def jC(n:Bytes)(hs:List LsWale.Head)(s:ah):Except Fault (LsWale.Pattern×ah):=kx s>>=fun h=>cU 0 h.2>>=fun x=>gX n (hs++h.1) x
theorem GX{n:Bytes}{hs:List LsWale.Head}{s:ah}{k pl:Nat}(h:HB s k pl):bN (jC n hs s) k pl:=by
 unfold jC
 rw[L8 h]
 show bN (cU 0 s>>=_) k pl
 rw[CO h]
 exact .inl (zH h)
theorem Qq{n:Bytes}{hs:List LsWale.Head}{s:ah}{g:Except Fault (LsWale.Head×ah)}(h:eE s=some g):jC n hs s=g>>=fun x=>jC n (hs++[x.1]) x.2:=by
 unfold jC
 rw[AG,h]
 dsimp only
 simp only[bW]
 refine a8 rfl fun x t hx=>?_
 refine a8 rfl fun y u hy=>?_
 show(cU 0 u>>=fun x_1=>gX n (hs++x::y) x_1)=(cU 0 u>>=fun x_1=>gX n (hs++[x]++y) x_1)
 rw[List.append_assoc];rfl
theorem Ji{n:Bytes}{hs:List LsWale.Head}{s:ah}(h:eE s=none):jC n hs s=cU 0 s>>=fun x=>gX n hs x:=by
 unfold jC
 rw[AG,h]
 show(cU 0 s>>=fun x=>gX n (hs++[]) x)=_
 rw[List.append_nil]
def za(a:Ad):Rep LsWale.Pattern:=hG (bM (cQ a 9)) jf
theorem LX(a:Ad):Good (za a):=Hg (bJ (gD a 9))
theorem NK:("pattern":Str)=strOf (ascii "pattern"):=by decide +kernel
theorem IV{α:Type}{b:Bytes}{R:RA}{p d:Nat}{L:NL}{e:aD}{H:Hp}{Q:VK}{E:XK}{r:Except Fault (α×ah)}{f:Bytes×ah->Except Fault (α×ah)}(hR:au a K b R p d L H)(hT:Tl K a E r)(hr:r=anyName (ae b p e)>>=f)
  (k:∀x,nameAt b p=some x->r=f (x,ae b (aA b p) e)->∀(H':Hp)(y:Addr),au a K b R (aA b p) d L H'->aJ R H H'->di a b p H' y->Q (.ref y) H'):gK K a fE [.ref R.r,.str "name"] H Q E:=by
 unfold gK
 refine⟨b,R,p,d,L,eX _ rfl ⟨hR,hT.bt (e:=e) fun k pl h=>?_,fun nb ht=>?_,fun nb ht=>?_⟩⟩
 ·rw[hr,tI h];exact .inl rfl
 ·obtain⟨x,hx⟩:=gf.mp ht
  exact k x hx (by rw[hr,any_some hx];rfl)
 ·refine hT.want (f:=f) (e:=e) nb ?_
  rw[hr,any_none]
  cases hx:nameAt b p with
  |none=>rfl
  |some x=>exact absurd (gf.mpr ⟨x,hx⟩) ht
def Qo(K:PySem.W.Frag)(a:Ad):Sp:=fun vs H Q E=>∃(b:Bytes)(R:RA),vs=[.ref R.r]/\au a K b R 0 0 (lst .none_) H/\Tl K a E (jM (ae b 0 .none_))/\(∀x s',jM (ae b 0 .none_)=.ok (x,s')->∀(H':Hp)(v:V),aJ R H H'->Md (za a) H H' v x->Q v H')
theorem AH:aI ["reader","name","stats"] ["reader"] (aC ye):=⟨rfl,rfl,rfl,by decide +kernel,rfl,by decide +kernel,by decide +kernel⟩
theorem kd_end{b:Bytes}{p:Nat}:fE (aq b p)=("end":Str)↔aq b p=.done:=by
 cases aq b p with
 |word x=>
  refine⟨fun z=>?_,fun z=>by cases z⟩
  have z:dQ x="end":=z
  unfold dQ at z
  split at z<;>exact absurd z (by decide +kernel)
 |num n=>exact⟨fun z=>absurd z (by show ¬(("number":Str)="end");decide +kernel),fun z=>by cases z⟩
 |sign c=>exact⟨fun z=>absurd z (by show ¬(("fixed":Str)="end");decide +kernel),fun z=>by cases z⟩
 |bad k=>exact⟨fun z=>absurd z (by show ¬(("":Str)="end");decide +kernel),fun z=>by cases z⟩
 |done=>exact⟨fun _=>rfl,fun _=>rfl⟩
theorem Mu(T:Tx P w K mg a):ax P w K mg base (bj P w) 98 a.sP a.tF ["reader"] (Qo K a):=by
 refine aG.bz (k:=97) T.GI.fn AH (fun vs H Q E h=>?_) (fun cdv A outer s H vs Q E hr h=>?_)
 ·obtain⟨_,_,rfl,_⟩:=h;rfl
 obtain⟨b,R,rfl,hR,hT,kk⟩:=h
 have C:=T.bL.cl
 have G:=cE a 10
 have GS:=gD a 9
 refine⟨_,aj (a9 (a0 (pv 0) C T.cX.mt (iT T) (hr.mono (by first|decide|lia)) T.cX.bd .nil aw (aa aT ag))) (aj (a3 (i:=1) AH.nd rfl (Or.inl rfl) ((a0 (pv 0) C T.f7.mt (yJ T) (hr.mono (by first|decide|lia)) T.f7.bd .nil aw (aa (bH T.ke) ag)))) (aj (a9 (a0 (pv 0) C T.cX.mt (iT T) (hr.mono (by first|decide|lia)) T.cX.bd .nil aw (aa aT ag)))
  (aj (a3 (i:=2) AH.nd rfl (Or.inl rfl) (bT (aa (eU T.dY.eS (kh T) (hr.mono (by first|decide|lia)) rfl T.dY.at_ T.je.2 .nil aU (aa (bT (aa aT (aa (aE (pv 1) rfl) ag))) (aa fO ag))) ag)))
  (aj (gN iD (k8 T.QA (aE (cH (pv 0) C T.cj.mt (iE T) (hr.mono (by first|decide|lia)) T.cj.bd .nil aw) rfl)) (ak (a9 ((eh PySem.F.plainAttrs_list PySem.F.slot_list_append PySem.F.type_list_append gJ (pv 2) (aa (aN T.Cb (QC T) hr aw (aa (pv 0) ag)) ag))))))
  (aj (a9 ((eh PySem.F.plainAttrs_list PySem.F.slot_list_extend PySem.F.type_list_extend rj (pv 2) (aa (aN T.xp (AJ T 9) hr aw (aa (pv 0) ag)) ag)))) (aj (a9 ((a0 (pv 0) C T.f7.mt (yJ T) (hr.mono (by first|decide|lia)) T.f7.bd .nil aw (aa (bH T.Fu) ag)))) (ak (aF (pv 2))))))))),?_⟩
 refine(rM rfl hR.ins rfl ?_)
 refine Fo hR hT rfl (k:=fun e1 H1 x1 hR1 kp1 _=>?_)
 refine(rM rfl hR1.ins rfl ?_)
 refine IV hR1 hT e1 fun n hnm e2 H2 y hR2 kp2 tk2=>?_
 unfold di at tk2
 rw[jK hnm]at tk2
 refine(rM rfl hR2.ins rfl ?_)
 refine gU hR2 hT e2 (k:=fun e3 H3 x3 hR3 kp3 _=>?_)
 obtain⟨dt,ft,et,lt1,lt2,lt3,lt4,lt5⟩:=b9.keepR tk2 hR2 kp3
 have kp03:=(kp1.trans kp2).trans kp3
 refine(rF rfl et T.bx.cl T.cf lt2 ⟨(by show 2<=sizeLine;decide),fun q hq=>fun x6 dx6 n6 nd6 ne6=>⟨x6,dx6,.ref q,.ay,rfl,aB,fun H6 e6 kp6=>⟨rfl,(by show 1<=sizeLine;decide),fun l hl=>?_⟩⟩⟩)
 have sm6:=aO.made n6 nd6 kp6
 have hR5:=hR3.same (aS (o:=.lst [.str "pattern",.str (strOf n)]) hq)
 have kp5:=kp03.trans (bp (aS (o:=.lst [.str "pattern",.str (strOf n)]) hq))
 have mp:Md (bE a 10) H (upd H3 q (.lst [.str "pattern",.str (strOf n)])) (.ref q) (t2 (ascii "pattern") n):=by
  rw[NK]
  exact aK.list G (aK.cons G (b8 (H0:=H) (H:=H3) (ascii "pattern")) (aK.cons G (b8 n) aK.nil)) hq (kp03.grow hR3.cells)
 have m0:=Md.zx (n:=9) mp (kp5.grow hR5.cells) sm6 n6 e6
 have hR6:=hR5.same sm6
 have kp6':=kp5.trans (bp sm6)
 have ml:=aK.list GS (aK.cons GS m0 aK.nil) hl (kp6'.grow hR6.cells)
 let I:List LsWale.Head×Nat×aD->L2.St->Hp->Prop:=fun i σ H'=>σ=[some (.ref R.r),some (.ref y),some (.ref l)]/\au a K b R i.2.1 0 (lst i.2.2) H'/\aJ R H H'/\Ev i.2.2/\jM (ae b 0 .none_)=jC n i.1 (ae b i.2.1 i.2.2)/\
  ∃fs,Md (bM (cQ a 9)) H H' (.ref l) fs/\fs=.mk (t2 (ascii "pattern") n) none::i.1.map dO/\fs.length+(toks b i.2.1).length<=20002
 let μ:List LsWale.Head×Nat×aD->Nat:=fun i=>(toks b i.2.1).length
 have tl:=toks_le b
 have bl:=hR.len
 have sz:sizeLine=16777216:=by decide
 refine gp I μ ([],_,_) ⟨rfl,hR6.same (aS hl),kp6'.trans (bp (aS hl)),⟨(fun z=>by cases z),(fun z=>by cases z)⟩,e3,_,ml,rfl,?_⟩ ?_
 ·have:=tl (aA b (aA b (aA b 0)))
  show 1+(toks b (aA b (aA b (aA b 0)))).length<=20002
  lia
 rintro⟨hs,p4,e4⟩ σ H4 ⟨rfl,hR4,kp4,ev4,h4,fs,ms,tx,ln⟩
 dsimp only at hR4 h4 ev4 tx ln
 refine AV (e:=e4) T rfl hR4 hT (fun k pl hb=>by rw[h4];exact GX hb) fun nb H5 hR5 kp5=>?_
 have ms5:=ms.keep (bJ GS) hR.cells kp5
 obtain⟨hnl,vs5,el5,hlen5⟩:=ms5.cell
 have kp05:=kp4.trans kp5
 rw[Om e4]
 cases hh:eE (ae b p4 e4)with
 |some g=>
  rw[Qq hh]at h4
  refine bu ?_
  refine fZ (I:=I) (μ:=μ) (i:=(hs,p4,e4)) ?_
  refine(eX _ rfl ⟨.inl ⟨rfl,_,aM.of el5⟩,eX _ rfl ?_⟩)
  refine Qi hR5 ev4 hh hT h4 (fun x s k pl hb=>GX hb) fun x' p6 e6 ev6 hS6 h6 H6 v6 hR6 kp6 md6=>?_
  have ms6:=ms5.keep (bJ GS) hR.cells kp6
  obtain⟨_,vs6,el6,hlen6⟩:=ms6.cell
  obtain⟨F6,hf6,sn6⟩:=md6
  have lc:dC H H6 (upd H6 l (.lst (vs6++[v6]))) l:=eY hnl el6
  have l1:=nA (F9 hh) hS6
  refine⟨l,vs6,v6,rfl,rfl,el6,by lia,(hs++[x'],p6,e6),l1,rfl,hR6.bV hR lc,(kp05.trans kp6).bV lc,ev6,h6,fs++[dO x'],ms6.append GS el6 ⟨F6,hf6,sn6⟩ (fk el5) (kp05.grow hR5.cells),?_,?_⟩
  ·show fs++[dO x']=_::(hs++[x']).map dO
   rw[tx,List.map_append];rfl
  ·show(fs++[dO x']).length+(toks b p6).length<=_
   rw[List.length_append,List.length_singleton];lia
 |none=>
  rw[Ji hh]at h4
  refine bD (eX _ rfl ⟨.inl ⟨rfl,_,aM.of el5⟩,eX _ rfl ?_⟩)
  refine cv (m:=9) hR5 (by lia) (by lia) hT h4 (fun x s k pl hb=>.inl (zH hb)) fun x7 p7 e7 hS7 h7 H7 v7 hR7 kp7 md7=>?_
  have ms7:=ms5.keep (bJ GS) hR.cells kp7
  obtain⟨_,vs7,el7,hlen7⟩:=ms7.cell
  obtain⟨F7,⟨hgs,lgs⟩,sn7⟩:=md7
  have mgs:Md (bM (cQ a 9)) H5 H7 v7 (bA x7):=⟨F7,hgs,sn7⟩
  obtain⟨l7,rfl⟩:=mgs.ref
  obtain⟨_,ws7,em7,hlem7⟩:=mgs.cell
  have lc7:dC H H7 (upd H7 l (.lst (vs7++ws7))) l:=eY hnl el7
  have ms8:=ms7.extend GS el7 mgs em7 (fk el5) (kp05.grow hR5.cells)
  have hR8:=hR7.bV hR lc7
  have kp08:=(kp05.trans kp7).bV lc7
  refine⟨l,l7,vs7,ws7,rfl,rfl,el7,em7,by lia,rM rfl hR8.ins rfl ?_⟩
  refine Ca hR8 (hT.bt (e:=e7) fun k pl hb=>.inl (by rw[h7];exact zH hb)) (fun nb hk H9 y9 hR9 kp9 _=>?_) (fun nb hk=>?_)
  ·have hd:=kd_end.mp hk
   refine(eX _ rfl (kk ⟨n,hs,x7⟩ (ae b p7 e7) ?_ H9 _ (kp08.trans kp9) ?_))
   ·rw[h7,Fz,hd]
   ·refine(ms8.keep (bJ GS) hR.cells kp9).map fun F q=>?_
    rw[tx]at q
    exact q
  ·refine hT.err ?_
   rw[h7,Fz]
   have hnd:aq b p7≠ .done:=fun z=>hk (kd_end.mpr z)
   cases q:aq b p7 with
   |done=>exact absurd q hnd
   |bad k=>exact absurd q (nb k)
   |_=>exact fK nb
end Wale
end
section
set_option Elab.async false
set_option linter.all false
set_option maxRecDepth 100000
set_option maxHeartbeats 2000000
namespace Wale
open PySem PySem.Spec PyProof.Rows L2
open Wm
open LsWale (Fault)
variable {P:Program}{w:World}{K:PySem.W.Frag}{mg:Str->Option Value}{base:Heap}{a:Ad}
theorem Nb:lst .none_=EI:=by funext j;cases j<;>rfl
theorem Kf{K:PySem.W.Frag}{H H':Hp}{t x C dx:Addr}{fs:List (Str×V)}{xs:List V}(h:aM K H t xs)(e:H x=some (.ins C dx fs))(k:∀b o,H b=some o->b≠x->H' b=some o):aM K H' t xs:=by
 rcases h with (h|⟨o,h⟩)|h
 ·exact .inl (.inl (k _ _ h (bX h e (fun z=>nomatch z))))
 ·exact .inl (.inr ⟨o,k _ _ h (bX h e (fun z=>nomatch z))⟩)
 ·exact .inr h
def Ko(K:PySem.W.Frag)(a:Ad):Sp:=fun vs H Q _=>∃(x dx t:Addr)(b:Bytes),vs=[.ref x,.ref t]/\H x=some (.ins a.bh dx [])/\aM K H t (nums b)/\b.length<=20000/\
 ∀(H':Hp)(R:RA),R.r=x->au a K b R 0 0 (lst .none_) H'->(∀b o,H b=some o->b≠x->H' b=some o)->(∀o,H R.N.td≠some o/\H R.N.sd≠some o/\H R.N.ad≠some o)->Q .ay H'
theorem QW:aI ["self","t"] ["self","t"] (aC AW):=⟨rfl,rfl,rfl,by decide +kernel,rfl,by decide +kernel,by decide +kernel⟩
theorem MP(T:Tx P w K mg a):ax P w K mg base aV 3 a.kM a.n0 ["self","t"] (Ko K a):=by
 refine T.DV.1.ok QW (fun vs H Q E h=>?_) (fun cdv A outer s H vs Q E hr h=>?_)
 ·obtain⟨_,_,_,_,rfl,_⟩:=h;rfl
 obtain⟨x,dx,t,b,rfl,hx,hS,hl,q⟩:=h
 refine⟨_,aj (dg (pv 0) (pv 1) rfl) (aj (dg (pv 0) fO rfl) (aj (dg (pv 0) bF rfl) (aj (dg (pv 0) bF rfl)
  (ak (dg (pv 0) (Kx T.cJ.eS (Lz T) hr rfl T.cJ.at_ T.Gm.2 .nil aU) rfl))))),?_⟩
 have C:=T.bL.cl
 refine(eX _ rfl (eX _ rfl ⟨x,_,dx,eX _ rfl ⟨hx,C,T.CY,(by show 0<1000;decide),?_⟩⟩))
 refine(eX _ rfl ⟨x,_,dx,eX _ rfl ⟨aB,C,T.oy,(by show 1<1000;decide),?_⟩⟩)
 refine(eX _ rfl ⟨x,_,dx,eX _ rfl ⟨aB,C,T.xN,(by show 2<1000;decide),?_⟩⟩)
 refine(eX _ rfl ⟨x,_,dx,eX _ rfl ⟨aB,C,T.uo,(by show 3<1000;decide),?_⟩⟩)
 generalize hH4:upd (upd (upd (upd H x _) x _) x _) x _=H4
 have e4:H4 x=some (.ins a.bh dx [("source",.ref t),("ahead",.ay),("after",.int 0),("depth",.int 0)]):=by rw[<-hH4];exact aB
 have k4:∀b o,H b=some o->b≠x->H4 b=some o:=fun b o e hb=>by rw[<-hH4,ao hb,ao hb,ao hb,ao hb];exact e
 intro n dn nn nd ne
 refine⟨n,dn,rfl,aB,fun H5 N en nm k5 f5=>⟨rfl,?_⟩⟩
 have s5:aO H4 H5:=aO.made nn nd k5
 refine(eX _ rfl ⟨x,_,dx,eX _ rfl ⟨s5 _ _ e4,C,T.fP,(by show 4<1000;decide),?_⟩⟩)
 obtain⟨k1,e1,t1⟩:=nm.gu
 obtain⟨k2,e2,t2⟩:=nm.iG
 obtain⟨k3,e3,t3⟩:=nm.gC
 obtain⟨d0,e0⟩:=nm.obj
 have ex:=s5 _ _ e4
 have nx:N.n≠x:=by
  rw[en]
  exact fun z=>by rw[z,e4]at nn;cases nn
 subst en
 refine q _ ⟨x,t,N⟩ rfl ⟨⟨dx,.ay,aB,.inl rfl⟩,?_,?_,hl,Nat.zero_le _⟩ (fun c o ec hc=>?_) fun o=>?_
 ·exact Kf hS hx fun c o ec hc=>by rw[ao hc];exact s5 _ _ (k4 c o ec hc)
 ·rw[Nb]
  refine⟨⟨d0,?_⟩,⟨k1,?_,t1⟩,⟨k2,?_,t2⟩,⟨k3,?_,t3⟩,nm.ne,nm.bd⟩
  ·rw[ao nx];exact e0
  ·rw[ao (bX e1 ex (fun z=>nomatch z))];exact e1
  ·rw[ao (bX e2 ex (fun z=>nomatch z))];exact e2
  ·rw[ao (bX e3 ex (fun z=>nomatch z))];exact e3
 ·rw[ao hc];exact s5 _ _ (k4 c o ec hc)
 ·have kf:∀c,H c=some o->(upd (upd H4 dn (.own N.n)) N.n (.ins a.ck dn [])) c≠some o->c=x:=fun c hc hn=>by
   refine Classical.byContradiction fun hcx=>hn ?_
   have:=k4 c o hc hcx
   rw[ao (fun z=>by rw[z,nn]at this;cases this),ao (fun z=>by rw[z,nd]at this;cases this)];exact this
  have ex':H x=some (.ins a.bh dx []):=hx
  have no:∀c,(∀o',(upd (upd H4 dn (.own N.n)) N.n (.ins a.ck dn [])) c≠some o')->H c≠some o:=fun c hn hc=>by
   have hcx:=kf c hc (hn o)
   have e4':=e4
   rw[<-hcx]at e4'
   refine hn (.ins a.bh dx [("source",.ref t),("ahead",.ay),("after",.int 0),("depth",.int 0)]) ?_
   rw[ao (fun z=>by rw[z,nn]at e4';cases e4'),ao (fun z=>by rw[z,nd]at e4';cases e4')];exact e4'
  exact⟨no _ fun o'=>(f5 o').1,no _ fun o'=>(f5 o').2.1,no _ fun o'=>(f5 o').2.2⟩
def IJ(K:PySem.W.Frag)(a:Ad):Sp:=fun vs H Q E=>∃(t:Addr)(b:Bytes),vs=[.ref t]/\aM K H t (nums b)/\b.length<=20000/\(∀k pl:Nat,LsWale.readAll b=.error ⟨k,pl⟩->Told K a E k pl)/\(∀x e,LsWale.readAll b=.ok (x,e)->∀(H':Hp)(v:V)(H0:Hp),aO H H'->Md (za a) H0 H' v x->Q v H')
theorem Ih:aI ["t"] ["t"] (aC yW):=⟨rfl,rfl,rfl,by decide +kernel,rfl,by decide +kernel,by decide +kernel⟩
theorem LG{b:Bytes}{k pl:Nat}(h:bN (jM (ae b 0 .none_)) k pl):jM (ae b 0 .none_)=.error ⟨k,pl⟩:=by
 rcases h with h|⟨x,s,h,hb⟩
 ·exact h
 ·exfalso
  unfold jM at h
  have step:∀{α β:Type}{r:Except Fault α}{f:α->Except Fault β}{y:β},(r>>=f)=.ok y->∃z,r=.ok z/\f z=.ok y:=fun{α β r f y}q=>by
   cases r with
   |error f=>cases q
   |ok z=>exact⟨z,rfl,q⟩
  obtain⟨s1,_,h⟩:=step h
  obtain⟨n,_,h⟩:=step h
  obtain⟨t,_,h⟩:=step h
  obtain⟨hs,_,h⟩:=step h
  obtain⟨⟨x2,⟨ts,en⟩⟩,_,h⟩:=step h
  obtain⟨rr,hb⟩:=hb
  unfold gX at h
  cases ts with
  |nil=>cases h
  |cons tk r=>
   obtain⟨q,tt⟩:=tk
   cases tt with
   |done=>cases h;cases hb
   |_=>cases h
theorem C5(T:Tx P w K mg a):ax P w K mg base (bj P w) 99 a.rB a.qh ["t"] (IJ K a):=by
 refine aG.bz (k:=98) T.yY.fn Ih (fun vs H Q E h=>?_) (fun cdv A outer s H vs Q E hr h=>?_)
 ·obtain⟨_,_,rfl,_⟩:=h;rfl
 obtain⟨t,b,rfl,hS,hl,k1,k2⟩:=h
 refine⟨_,aj (a4 (a5 jO (jA T.gL (pv 0)) (cT T.DU) (aZ _)) (ak (fB rfl fD T.jY (v9 T) T.ra.2 (hr.mono (by first|decide|lia)) (cT T.DU))) ba)
  (ak (aF (aN T.GI (Mu T) hr aw (aa (eU T.bL.eS (MP T) (hr.mono (by first|decide|lia)) rfl T.bL.at_ T.DV.2 .nil aU (aa (pv 0) ag)) ag)))),?_⟩
 refine(eX _ rfl ⟨t,eX _ rfl ⟨.inl hS,_,eX _ rfl ⟨rfl,eX _ rfl ?_⟩⟩⟩)
 rw[fH]
 refine aX (fun c=>?_) (fun c=>?_)
 ·have c':LsWale.MOST<b.length:=by have:=of_decide_eq_true c;show 16384<b.length;lia
  exact eR T.jY (k1 6 16384 (by unfold LsWale.readAll;rw[if_pos c'];rfl))
 have c':b.length<=LsWale.MOST:=by
  have:¬((16384:Int)<b.length):=fun z=>c (decide_eq_true z)
  show b.length<=16384
  lia
 refine(eX _ rfl (fun x dx nx nd ne=>?_))
 have s1:aO H (upd (upd H dx (.own x)) x (.ins a.bh dx [])):=fun c o ec=>by rw[ao (dI ec nx),ao (dI ec nd)];exact ec
 refine⟨x,dx,t,b,rfl,aB,s1.seq hS,hl,fun H' R er hR kp fr=>⟨rfl,b,R,(by rw[er];rfl),hR,fun k pl hb=>k1 k pl ?_,fun p s' hx H2 v kp2 md=>k2 p s'.env ?_ H2 v H' ?_ md⟩⟩
 ·rw[Eb c',D5,LG hb];rfl
 ·rw[Eb c',D5,hx];rfl
 ·intro c o ec
  have e1:=s1 c o ec
  have cx:c≠x:=dI ec nx
  exact kp2 c o (kp c o e1 cx) (by rw[er];exact cx) (fun z=>(fr o).1 (by rw[<-z];exact e1)) (fun z=>(fr o).2.1 (by rw[<-z];exact e1)) (fun z=>(fr o).2.2 (by rw[<-z];exact e1))
end Wale
end
section
set_option Elab.async false
set_option linter.all false
set_option maxRecDepth 100000
set_option maxHeartbeats 2000000
namespace L2
open PySem PySem.Spec PyProof.Rows
structure xx(k:Nat)(A:Around):Prop where
 dp:A.depth+3*k+5<recursionLimit
 un:A.units+16*k+200<cLine
def w8(pn:List (Addr×Obj))(outer:List Env)(s:Shared)(H:Hp):Prop:=∀p∈pn,s.heap.get? p.1=some p.2/\H p.1=none/\p.1∉cD outer/\∀v,p.2.data≠ .cell v
structure t6(P:Program)(w:World)(K:PySem.W.Frag)(mg:Str->Option Value)(base:Heap)(k:Nat)(f:Addr)(fd:FuncData)(ps:List Str)(sp:List (Addr×Obj)->Sp):Prop where
 len:∀pn vs H Q E,sp pn vs H Q E->vs.length=ps.length
 run:∀(A:Around)(outer:List Env)(s:Shared)(H:Hp)(args:Args)(us:List Value)(vs:List V)(Q:VK)(pn:List (Addr×Obj)),xx k A->iy P w K mg base A outer s H->w8 pn outer s H->BindsTo s fd args (ps.zip us)->aW vs us->sp pn vs H Q E0->
  codeAny (model P w) A (.call (.ref f) args) (CR aV outer P w H s Q E0) s
abbrev qX(P:Program)(w:World)(K:PySem.W.Frag)(mg:Str->Option Value)(base:Heap)(N:List Str)(qual:Str)(scope:Scope)(f:Addr)(cd:Value)(A:Around)(outer:List Env)(s:Shared)(H:Hp)(pn:List (Addr×Obj)):Cx:=
 {fU aV P w K mg base N qual scope f cd A outer s H E0 with calm:=false,pn:=pn}
theorem NM{P:Program}{w:World}{K:PySem.W.Frag}{mg:Str->Option Value}{base:Heap}{N ps:List Str}{qual:Str}{scope:Scope}{f:Addr}{cd:Value}{A:Around}{outer:List Env}{s s1:Shared}{H:Hp}{us:List Value}{vs:List V}{pn:List (Addr×Obj)}
  (S:aI N ps scope) (e0:iy P w K mg base A outer s H) (hp:w8 pn outer s H) (hl:vs.length=ps.length) (r:aW vs us)
  (x:InCallC s s.heap.objs.size (bindL (envOfC qual scope s.heap.objs.size f cd).kindOf (ps.zip us) fun _=>none) (cellsFrom (s.heap.objs.size+1) scope.names []) (bindC (envOfC qual scope s.heap.objs.size f cd).kindOf (ps.zip us) fun _=>none) s1):
  Inv (qX P w K mg base N qual scope f cd A outer s H pn) [] (start N vs) H s1:=by
 have e1:iy P w K mg base {A with handled:=none} outer s H:=⟨e0.frames,e0.mod,e0.bs,e0.fF,e0.d8,e0.gA,e0.az,e0.bare⟩
 have I:=Hq (CX:=aV) (E:=E0) S (A:={A with handled:=none}) rfl e1 hl r x
 have hk:=x.toInCall.keep
 refine⟨⟨I.ok.mod,I.ok.kind,I.ok.glob,I.ok.blt,I.ok.above,I.ok.inj,I.ok.has,I.ok.i6,(fun z=>by cases z),Around.frames_deeper e0.frames,I.ok.i3,I.ok.kl,I.ok.bs,I.ok.fF,I.ok.iV,I.ok.jj,I.ok.d8,I.ok.gA⟩,
  I.os,I.bare,I.base,I.loc,I.cell,I.free,I.d5,fun p hpp=>?_,I.az,I.len⟩
 have hpn:p∈pn:=by
  have:p∈pn++[]:=hpp
  rwa [List.append_nil]at this
 obtain⟨h1,h2,h3,h4⟩:=hp p hpn
 exact⟨hk _ _ h1,h2,Nat.ne_of_lt (Heap.lt_size h1),h3,h4⟩
theorem Ob{P:Program}{w:World}{K:PySem.W.Frag}{mg:Str->Option Value}{base:Heap}{k:Nat}{f:Addr}{name qual:Str}{params:Arguments}{body:List Stmt}{scope:Scope}{dV kV doc pm cdv ct oc:Value}{an od:Option Addr}
  {osl:Array (Option Value)} {N ps:List Str} {sp:List (Addr×Obj)->Sp} (lk:K.lookup f=some ⟨oc,od,.func (PySem.W.fnOf name qual params body scope dV kV doc pm an cdv ct),osl⟩) (hcd:PySem.W.codeIn K cdv qual=true) (S:aI N ps scope)
  (len:∀pn vs H Q E,sp pn vs H Q E->vs.length=ps.length)
  (hbody:∀(A:Around)(outer:List Env)(s:Shared)(H:Hp)(vs:List V)(Q:VK)(pn:List (Addr×Obj)),sp pn vs H Q E0->
   ∃t,d9 (qX P w K mg base N qual scope f cdv A outer s H pn) body t/\t {nx:=fun _ H'=>Q .ay H',rt:=Q} (start N vs) H):
  t6 P w K mg base (k+1) f (PySem.W.fnOf name qual params body scope dV kV doc pm an cdv ct) ps sp:=by
 refine⟨len,fun A outer s H args us vs Q pn hr e0 hp hb r hsp=>?_⟩
 have hl:=len _ _ _ _ _ hsp
 have KX:K.In s.heap:=e0.mod.iA.keeps fun b o e=>(e0.bs b o e).1
 have lim:s.heap.NoLimit:=e0.mod.nolimit.keeps fun b o e=>(e0.bs b o e).1
 have hkind:∀y∈ps.zip us,scope.names.lookup y.1=some .local\/(scope.names.lookup y.1=some .cell/\((cellsFrom (s.heap.objs.size+1) scope.names []).lookup y.1).isSome=true):=fun⟨n,v⟩hy=>by
  rcases S.par n (List.of_mem_zip hy).1 with q|q
  ·exact .inl q
  ·exact .inr ⟨q,PySem.W.cellsFrom_some _ _ _ (.inl q)⟩
 refine codeAny_call_function (by have:=hr.dp;lia) (KX _ _ lk) rfl S.co S.gen rfl (PySem.W.codeRec_of KX hcd) (hb _ _ _ _ ?_)
 refine wpAny_newFunctionEnv_cells S.kind hkind fun env he s1 x=>?_
 subst he
 refine⟨lim.keeps x.toInCall.keep,codeAny_func ?_⟩
 obtain⟨t,ht,hq⟩:=hbody A outer s H vs Q pn hsp
 have I:Inv (qX P w K mg base N qual scope f cdv A outer s H pn) [] (start N vs) H s1:=NM S e0 hp hl r x
 refine wpAny_mono (ht [] s1 (start N vs) H _ I hq) (fun fl s' hs=>?_) fun e s' hs=>hs
 have fin:∀{σ':St}{H':Hp}{v:V}{u:Value},Inv (qX P w K mg base N qual scope f cdv A outer s H pn) [] σ' H' s'->RelV v u->Q v H'->CE outer P w H s Q u s':=
  fun{σ' H' v u}J rv q=>⟨v,H',J.os,J.bare,J.base,J.az,rv,q⟩
 cases fl with
 |ret u=>
  obtain⟨v,σ',H',J,rv,q⟩:=hs
  exact fin J rv q
 |next=>
  obtain⟨σ',H',J,q⟩:=hs
  exact fin (v:=V.ay) (u:=Value.none) J rfl q
 |brk=>
  obtain⟨_,_,_,q⟩:=hs
  exact False.elim q
 |cont=>
  obtain⟨_,_,_,q⟩:=hs
  exact False.elim q
theorem aG.PD{P:Program}{w:World}{K:PySem.W.Frag}{mg:Str->Option Value}{base:Heap}{x qual:Str}{st:Stmt}{f:Addr}{fd:FuncData}{N ps:List Str}{k:Nat}{sp:List (Addr×Obj)->Sp}(F:aG K x qual st f fd)(S:aI N ps (aC st))(len:∀pn vs H Q E,sp pn vs H Q E->vs.length=ps.length)
  (hbody:∀(cdv:Value)(A:Around)(outer:List Env)(s:Shared)(H:Hp)(vs:List V)(Q:VK)(pn:List (Addr×Obj)),sp pn vs H Q E0->
   ∃t,d9 (qX P w K mg base N qual (aC st) f cdv A outer s H pn) (iB st) t/\t {nx:=fun _ H'=>Q .ay H',rt:=Q} (start N vs) H):t6 P w K mg base (k+1) f fd ps sp:=by
 obtain⟨oc,od,kV,doc,pm,an,cdv,ct,osl,rfl,lk,hcd⟩:=F.ex
 exact Ob lk hcd S len fun A outer s H vs Q pn hsp=>hbody cdv A outer s H vs Q pn hsp
def JP(sp:List (Addr×Obj)->Sp)(pn:List (Addr×Obj))(t:TA):TE:=fun σ H Q=>t σ H fun vs H1=>sp pn vs H1 Q E0
theorem QO{X:Cx}{k:Nat}{f:Addr}{fd:FuncData}{ps:List Str}{sp:List (Addr×Obj)->Sp}{x:Str}{p pos:Pos}{e:Expr}{es:List Expr}{t:TA}(F:t6 X.prog X.w X.K X.mg X.base k f fd ps sp)(hr:xx k X.A)(hg:Gl X x)(hm:X.mg x=some (.ref f))(hk:PySem.W.keepIn X.K (.ref f)=true)(hb:Binds X.K fd ps [])
  (ha:PA X (e::es) t) (hdb:(x==("__debug__":Str))=false:=by decide) (he:starEach (e::es) X.env=(false,eval e X.env)::starEach es X.env:=by rfl) (hpl:(backTo pos (starEach es X.env)).any (·.1)=false:=by rfl):
  PE X (.Call (.Name x p) (e::es) [] pos) (JP sp X.pn t):=by
 intro pins s σ H Q I h
 refine wpAny_Call_Name_kw (i5 I hg hm ?_ hdb)
 refine PySem.W.callWith_K (h₀:=X.base) I.ok.mod.iA hk (aH (ha pos pins s σ H _ I h) fun us s1⟨vs,H1,I1,r,q⟩=>⟨I1.bo,?_⟩) he hpl
 have hl:us.length=ps.length:=by rw[<-r.length];exact F.len _ _ _ _ _ q
 have pk:w8 X.pn X.stack s1 H1:=fun pp hp=>by
  obtain⟨h1,h2,h3,h4,h5⟩:=I1.pin pp (List.mem_append_left _ hp)
  refine⟨h1,h2,fun z=>?_,h5⟩
  rcases I1.ok.i3 with e|⟨e,fe⟩
  ·rw[e]at z;exact h4 z
  ·rw[e]at z
   unfold cD at z
   rw[List.filterMap_cons,fe]at z
   rcases List.mem_cons.mp z with z|z
   ·exact h3 z
   ·exact h4 z
 have hb2:=hb s1 us I1.bo (by rw[List.append_nil];exact hl)
 rw[List.append_nil]at hb2
 refine wpAny_call (codeAny_mono (F.run X.A X.stack s1 H1 ⟨us,[]⟩ us vs Q X.pn hr I1.tO pk hb2 r q) fun rr s' hq=>?_)
 cases rr with
 |error e=>exact False.elim hq
 |ok fl=>
  cases fl with
  |ret u=>exact I1.after hq
  |next=>exact False.elim hq
  |brk=>exact False.elim hq
  |cont=>exact False.elim hq
end L2
end
section
set_option Elab.async false
set_option linter.all false
set_option maxRecDepth 100000
set_option maxHeartbeats 2000000
namespace Wale
open PySem PySem.Spec PyProof.Rows L2
open Wm
open LsWale (Fault)
variable {P:Program}{w:World}{K:PySem.W.Frag}{mg:Str->Option Value}{base:Heap}{a:Ad}
theorem Ij{A:Around}{v:Option Value}(hr:bC 99 A):xx 1 (A.mark v):=⟨by have:=hr.dp;show A.depth+3*1+5<recursionLimit;lia,by have:=hr.un;show A.units+16*1+200<cLine;lia⟩
def Ro(K:PySem.W.Frag):List (Addr×Obj)->Sp:=fun pn vs H Q _=>∃(ea:Addr)(oe:Obj)(C d:Addr)(k pl:Int)(us:Array Value),vs=[.ref ea]/\(ea,oe)∈pn/\oe.cls=.ref C/\oe.dict=some d/\oe.data=.fields us/\
 H d=some (dF d [("kind",.int k),("place",.int pl)])/\rR K C/\bw K C "kind"/\bw K C "place"/\∀(H':Hp)(p:Addr),H' p=some (.lst [.int (-k),.int pl])->Q (.ref p) H'
theorem LC:aI ["fault"] ["fault"] (aC BD):=⟨rfl,rfl,rfl,by decide +kernel,rfl,by decide +kernel,by decide +kernel⟩
theorem MU(T:Tx P w K mg a):t6 P w K mg base 1 a.qB a.qI ["fault"] (Ro K):=by
 refine aG.PD (k:=0) T.refusal.fn LC (fun pn vs H Q E h=>?_) (fun cdv A outer s H vs Q pn h=>?_)
 ·obtain⟨_,_,_,_,_,_,_,rfl,_⟩:=h;rfl
 obtain⟨ea,oe,C,d,k,pl,us,rfl,hp,hc,hdd,hv,hd,xg,nk,np,q⟩:=h
 refine⟨_,ak (aF (bT (aa (QI La (Cg (pv 0) rfl)) (aa (Cg (pv 0) rfl) ag)))),?_⟩
 exact(eX _ rfl ⟨ea,oe,C,d,_,_,us,rfl,hp,hc,hdd,hv,hd,xg,nk,rfl,eX _ rfl (eX _ rfl ⟨ea,oe,C,d,_,_,us,rfl,hp,hc,hdd,hv,hd,xg,np,rfl,(by show 2<=sizeLine;decide),fun p _=>q _ p aB⟩)⟩)
end Wale
end
section
set_option Elab.async false
set_option linter.all false
set_option maxRecDepth 100000
set_option maxHeartbeats 2000000
namespace Wale
open PySem PySem.Spec PyProof.Rows L2
open Wm
def jl(x:UInt8×aQ):UInt8×aQ:=(x.1,norm x.2)
def nZ(l:Nat):aQ->aQ×List (UInt8×aQ)
 | .op c p x y=>if eA c=l then((nZ l x).1,(nZ l x).2++[(c,y)])else(.op c p x y,[])
 |x=>(x,[])
theorem AF:∀x:aQ,d6 (norm x)=d6 x
 | .num _=>rfl
 | .name _ _=>rfl
 | .op _ _ _ _=>rfl
theorem O9{l:Nat}{f:aQ}(h:d6 f≠l):nZ l f=(f,[]):=by
 cases f with
 |num n=>rfl
 |name p n=>rfl
 |op c p x y=>exact if_neg h
theorem HR{f x:aQ}{prs:List (UInt8×aQ)}{l:Nat}(h:fG f prs x)(hl:∀pr∈prs,eA pr.1=l)(hf:d6 f≠l):nZ l (norm x)=(norm f,prs.map jl):=by
 induction h with
 |nil=>exact O9 (by rw[AF];exact hf)
 | @snoc prs y z c p h ih=>
  have hc:eA c=l:=hl (c,z) (List.mem_append_right _ (List.mem_cons_self ..))
  have e:=ih fun pr q=>hl pr (List.mem_append_left _ q)
  show(if eA c=l then((nZ l (norm y)).1,(nZ l (norm y)).2++[(c,norm z)])else _)=_
  rw[if_pos hc,e,List.map_append];rfl
def HE(f:aQ)(prs:List (UInt8×aQ)):aQ:=prs.foldl (fun y z=>.op z.1 0 y z.2) f
theorem Ff{f x:aQ}{prs:List (UInt8×aQ)}(h:fG f prs x):norm x=HE (norm f) (prs.map jl):=by
 induction h with
 |nil=>rfl
 | @snoc prs y z c p h ih=>
  show LsWale.Sum.op c 0 (norm y) (norm z)=_
  rw[ih]
  unfold HE
  rw[List.map_append,List.foldl_append];rfl
theorem Nv{f x f' x':aQ}{prs prs':List (UInt8×aQ)}{l l':Nat}(h:fG f prs x)(hl:∀pr∈prs,eA pr.1=l)(hf:d6 f≠l)(hn:prs≠[])(h':fG f' prs' x')(hl':∀pr∈prs',eA pr.1=l')(hf':d6 f'≠l')(hn':prs'≠[]):
  norm x=norm x'↔norm f=norm f'/\prs.map jl=prs'.map jl:=by
 constructor
 ·intro e
  have e1:=h.lv hl hn
  have e2:=h'.lv hl' hn'
  have el:l=l':=by rw[<-e1,<-e2,<-AF,e,AF]
  subst el
  have s1:=HR h hl hf
  have s2:=HR h' hl' hf'
  rw[e,s2]at s1
  have:=Prod.mk.inj s1
  exact⟨this.1.symm,this.2.symm⟩
 ·rintro⟨e1,e2⟩
  rw[Ff h,Ff h',e1,e2]
theorem yj{x:aQ}(h:d6 x=0):norm x=.name 0 (LsWale.sumText x):=by
 cases x with
 |num n=>rfl
 |name p n=>rfl
 |op c p y z=>have:=B4 c;have h:eA c=0:=h;lia
theorem Dc{x f y:aQ}{prs:List (UInt8×aQ)}(h:d6 x=0)(hb:fG f prs y)(hn:prs≠[]):norm x≠norm y:=by
 rw[yj h]
 cases hb with
 |nil=>exact absurd rfl hn
 |snoc _=>exact fun z=>by cases z
end Wale
end
section
set_option Elab.async false
set_option linter.all false
set_option maxRecDepth 100000
set_option maxHeartbeats 2000000
namespace Wale
open PySem PySem.Spec PyProof.Rows L2
open Wm
variable {P:Program}{w:World}{K:PySem.W.Frag}{mg:Str->Option Value}{base:Heap}{a:Ad}
theorem dh.get{α β:Type}{r:α->β->Prop}{xs:List α}{ys:List β}(q:dh r xs ys){i:Nat}{x:α}(h:xs[i]? =some x):∃y,ys[i]? =some y/\r x y:=by
 induction q generalizing i with
 |nil=>simp at h
 |cons z _ ih=>
  cases i with
  |zero=>
   rw[List.getElem?_cons_zero]at h
   cases h
   exact⟨_,List.getElem?_cons_zero,z⟩
  |succ i=>
   rw[List.getElem?_cons_succ]at h
   rw[List.getElem?_cons_succ]
   exact ih h
theorem dh.map{α β γ:Type}{r:α->β->Prop}{r':α->γ->Prop}{g:β->γ}(h:∀x y,r x y->r' x (g y)){xs:List α}{ys:List β}(q:dh r xs ys):dh r' xs (ys.map g):=by
 induction q with
 |nil=>exact .nil
 |cons a _ ih=>exact .cons (h _ _ a) ih
def eW{α:Type}(r:Rep α):Sp:=fun vs H Q _=>∃(v u:V)(x y:α)(H0 H1:Hp),vs=[v,u]/\Md r H0 H v x/\Md r H1 H u y/\∀(b:Bool)(H':Hp),(b=true↔x=y)->aO H H'->Q (.bl b) H'
def QK{α:Type}(f:Addr)(r:Rep α):Sp:=fun vs H Q _=>∃(l m:Addr)(xs ys:List α)(H0 H1:Hp),vs=[.ref l,.ref m,.ref f]/\Md (bM r) H0 H (.ref l) xs/\Md (bM r) H1 H (.ref m) ys/\∀(b:Bool)(H':Hp),(b=true↔xs=ys)->aO H H'->Q (.bl b) H'
theorem k9{α:Type}{r:Rep α}(vs:List V)(H:Hp)(Q:VK)(E:XK)(h:eW r vs H Q E):vs.length=2:=by
 obtain⟨_,_,_,_,_,_,rfl,_⟩:=h;rfl
theorem take_all{α:Type}{xs ys:List α}(h:xs.take xs.length=ys.take xs.length)(hn:xs.length=ys.length):xs=ys:=by
 rw[List.take_length]at h
 rw[hn,List.take_length]at h
 exact h
theorem xR:aI ["ones","others","same_one","one","other"] ["ones","others","same_one"] (aC yl):=⟨rfl,rfl,rfl,by decide +kernel,rfl,by decide +kernel,by decide +kernel⟩
theorem vp(T:Tx P w K mg a){α:Type}{r:Rep α}(G:Good r){k:Nat}{f:Addr}{fd:FuncData}{ps:List Str}(F:ax P w K mg base aV k f fd ps (eW r))(kp:PySem.W.keepIn K (.ref f)=true)(bd:Binds K fd ps []):
  ax P w K mg base aV (k+1) a.rL a.rK ["ones","others","same_one"] (QK f r):=by
 refine aG.ok (k:=k) T.qd.fn xR (fun vs H Q E h=>?_) (fun cdv A outer s H vs Q E hr h=>?_)
 ·obtain⟨_,_,_,_,_,_,rfl,_⟩:=h;rfl
 obtain⟨l,m,xs,ys,H0,H1,rfl,⟨FX,⟨l',vx,F1,ex,fl,nl,sub1,el,all1⟩,sn1⟩,⟨FY,⟨m',vy,F2,ey,fm,nm,sub2,em,all2⟩,sn2⟩,q⟩:=h
 cases ex
 cases ey
 refine⟨_,aj (a4 (a5 j4 (jA T.gL (pv 0)) (jA T.gL (pv 1)) (aZ _)) (ak (aF ue)) ba)
  (aj (KP PassesOwn.never rfl (Qe (by rfl) T.OI (aa (pv 0) (aa (pv 1) ag))) (Iq rfl (D6 (BK (i:=3) xR.nd rfl (Or.inl rfl)) (D6 (BK (i:=4) xR.nd rfl (Or.inl rfl)) Ox)))
   (ak (a4 (Cs (cY (Ip 2 F hr kp bd aU (aa (pv 3) (aa (pv 4) ag))))) (ak (aF ue)) ba)))
  (ak (aF ue))),?_⟩
 have L1:=all1.len
 have L2:=all2.len
 refine(eX _ rfl ⟨l,eX _ rfl ⟨.inl (aM.of el),eX _ rfl ⟨m,eX _ rfl ⟨.inl (aM.of em),rfl,eX _ rfl ?_⟩⟩⟩⟩)
 by_cases hn:vx.length=vy.length
 ·refine pw (by rw[hn]) ?_
  refine(eX _ rfl (eX _ rfl ⟨l,m,_,eX _ rfl ⟨aM.of el,aM.of em,?_⟩⟩))
  refine Rh (K:=K) (a:=l) (b:=m) (xs:=vx) (ys:=vy) (fun i σ H'=>aO H H'/\xs.take i=ys.take i/\∃o1 o2,σ=[some (.ref l),some (.ref m),some (.ref f),o1,o2]) hn
   ⟨fun _ _ z=>z,rfl,none,none,rfl⟩ (fun i σ H' _ q=>⟨aM.of (q.1 _ _ el),aM.of (q.1 _ _ em)⟩) ?_ ?_
  ·rintro i v u σ H' t hi hj ⟨sm,tk,o1,o2,rfl⟩ ht
   obtain⟨x,hx,rx⟩:=all1.get hi
   obtain⟨y,hy,ry⟩:=all2.get hj
   have sm':=sm.trans (aS (o:=.tup [v,u]) ht)
   have mx:Md r H0 (upd H' t (.tup [v,u])) v x:=(show Md r H0 H v x from⟨F1,rx,fun b hb=>sn1 b (sub1 b hb)⟩).same G sm'
   have my:Md r H1 (upd H' t (.tup [v,u])) u y:=(show Md r H1 H u y from⟨F2,ry,fun b hb=>sn2 b (sub2 b hb)⟩).same G sm'
   refine⟨t,eX _ rfl ⟨dZ.of aB,rfl,_,eX _ rfl ⟨_,eX _ rfl ⟨rfl,?_⟩⟩⟩⟩
   refine⟨rfl,eX _ rfl (eX _ rfl ⟨v,u,x,y,H0,H1,rfl,mx,my,fun b H2 hb s2=>(eX _ rfl ?_)⟩)⟩
   cases b with
   |true=>
    refine bD ⟨sm'.trans s2,?_,_,_,rfl⟩
    rw[List.take_add_one,List.take_add_one,tk,hx,hy,hb.mp rfl]
   |false=>
    refine bu (q false H2 ⟨fun z=>(by cases z),fun z=>?_⟩ (sm'.trans s2))
    have:x=y:=by rw[z,hy]at hx;exact(Option.some.inj hx).symm
    exact hb.mpr this
  ·rintro σ H' ⟨sm,tk,o1,o2,rfl⟩
   refine q true H' ⟨fun _=>take_all (by rw[<-L1];exact tk) (by lia),fun _=>rfl⟩ sm
 ·rw[decide_eq_false (fun z=>hn (by have z:=V.int.inj z;lia))]
  refine bu (q false H ⟨fun z=>(by cases z),fun z=>absurd (by rw[L1,L2,z]) hn⟩ fun _ _ z=>z)
end Wale
end
section
set_option Elab.async false
set_option linter.all false
set_option maxRecDepth 100000
set_option maxHeartbeats 2000000
namespace Wale
open PySem PySem.Spec PyProof.Rows L2
open Wm
open LsWale (sumText)
variable {P:Program}{w:World}{K:PySem.W.Frag}{mg:Str->Option Value}{base:Heap}{a:Ad}
def OP(a:Ad)(n:Nat):Rep (Option aQ):=fun H F v y=>(∃x,b5 a n H F v x/\y=some (norm x))\/(y=none/\∃(c C dx:Addr)(fs:List (Str×V)),v=.ref c/\F c/\H c=some (.ins C dx fs)/\(C=a.cy\/C=a.cA))
def uI(a:Ad)(n:Nat):Sp:=fun vs H Q _=>∃(v u:V)(x:aQ)(y:Option aQ)(H0 H1:Hp),vs=[v,u]/\Md (b5 a n) H0 H v x/\Md (OP a n) H1 H u y/\∀(b:Bool)(H':Hp),(b=true↔some (norm x)=y)->aO H H'->Q (.bl b) H'
def rP(a:Ad)(n:Nat):Rep (UInt8×aQ):=fun H F v x=>∃y,rh (b5 a n) H F v y/\x=jl y
theorem AD(a:Ad)(n:Nat):Good (rP a n):=⟨fun⟨y,h,e⟩q=>⟨y,(sY (dA a n)).frame h q,e⟩,fun⟨y,h,e⟩q=>⟨y,(sY (dA a n)).mono h q,e⟩⟩
theorem P0:aI ["pair","other"] ["pair","other"] (aC Bv):=⟨rfl,rfl,rfl,by decide +kernel,rfl,by decide +kernel,by decide +kernel⟩
theorem Ll:aI ["chain","other"] ["chain","other"] (aC zF):=⟨rfl,rfl,rfl,by decide +kernel,rfl,by decide +kernel,by decide +kernel⟩
theorem Qh:aI ["node","other"] ["node","other"] (aC BH):=⟨rfl,rfl,rfl,by decide +kernel,rfl,by decide +kernel,by decide +kernel⟩
theorem Ie(T:Tx P w K mg a){k n:Nat}(F:ax P w K mg base aV k a.jS a.kr ["node","other"] (uI a n)):ax P w K mg base aV (k+1) a.kW a.sG ["pair","other"] (eW (rP a n)):=by
 refine aG.ok (k:=k) T.ur.fn P0 k9 (fun cdv A outer s H vs Q E hr h=>?_)
 obtain⟨v,u,x,y,H0,H1,rfl,⟨F1,⟨p,⟨t,xv,rfl,ft,et,hx⟩,rfl⟩,sn1⟩,⟨F2,⟨p',⟨t',yv,rfl,ft',et',hy⟩,rfl⟩,sn2⟩,q⟩:=h
 refine⟨_,ak (aF (i9 (gO cp (dU uk (pv 0) bF (fun _ _=>rfl)) (dU uk (pv 1) bF (fun _ _=>rfl)) (aZ _)) (gY (aN T.vX F hr aU (aa (dU uk (pv 0) bF (fun _ _=>rfl)) (aa (dU uk (pv 1) bF (fun _ _=>rfl)) ag)))))),?_⟩
 refine(eX _ rfl ⟨t,_,_,eX _ rfl ⟨rfl,dZ.of et,lM (j:=0) rfl,eX _ rfl ⟨t',_,_,eX _ rfl ⟨rfl,dZ.of et',lM (j:=0) rfl,rfl,eX _ rfl ?_⟩⟩⟩⟩)
 rw[cN]
 by_cases hc:p.1=p'.1
 ·rw[decide_eq_true (by rw[hc])]
  refine bu (eX _ rfl ⟨t,_,_,eX _ rfl ⟨rfl,dZ.of et,lM (j:=1) rfl,eX _ rfl ⟨t',_,_,eX _ rfl ⟨rfl,dZ.of et',lM (j:=1) rfl,?_⟩⟩⟩⟩)
  refine⟨xv,yv,p.2,some (norm p'.2),H0,H1,rfl,⟨F1,hx,sn1⟩,⟨F2,.inl ⟨p'.2,hy,rfl⟩,sn2⟩,fun b H' hb s'=>q b H' (hb.trans ?_) s'⟩
  constructor
  ·intro z;show(p.1,norm p.2)=(p'.1,norm p'.2);rw[hc,Option.some.inj z]
  ·intro z;rw[(Prod.mk.inj z).2]
 ·rw[decide_eq_false (fun z=>hc (by have:=mw z;exact(List.cons.inj this).1))]
  exact bD (q false H ⟨fun z=>(by cases z),fun z=>absurd (Prod.mk.inj z).1 hc⟩ fun _ _ z=>z)
def EY(a:Ad)(n:Nat):Sp:=fun vs H Q _=>∃(v u:V)(x y:aQ)(H0 H1:Hp),vs=[v,u]/\Md (pZ a (b5 a n)) H0 H v x/\Md (pZ a (b5 a n)) H1 H u y/\∀(b:Bool)(H':Hp),(b=true↔norm x=norm y)->aO H H'->Q (.bl b) H'
theorem Mn(T:Tx P w K mg a){k n:Nat}(F:ax P w K mg base aV k a.jS a.kr ["node","other"] (uI a n)):ax P w K mg base aV (k+3) a.px a.nc ["chain","other"] (EY a n):=by
 refine aG.ok (k:=k+2) T.Hd.fn Ll (fun vs H Q E h=>?_) (fun cdv A outer s H vs Q E hr h=>?_)
 ·obtain⟨_,_,_,_,_,_,rfl,_⟩:=h;rfl
 obtain⟨v,u,x,y,H0,H1,rfl,⟨F1,⟨c,dx,pl,fv,f,F1',vs1,prs,l,rfl,h⟩,sn1⟩,⟨F2,⟨c',dx',pl',fv',f',F2',vs2,prs',l',rfl,h'⟩,sn2⟩,q⟩:=h
 refine⟨_,ak (aF (i9 (aN T.vX F (hr.mono (by first|decide|lia)) aU (aa (aE (pv 0) rfl) (aa (aE (pv 1) rfl) ag)))
  (gY (aN T.qd (vp T (AD a n) (Ie T F) T.ur.fn.kp T.ur.bd) hr aU (aa (aE (pv 0) rfl) (aa (aE (pv 1) rfl) (aa (js (by rfl) T.ur.at_ (show RelV (.ref a.kW) (.ref a.kW)from rfl)) ag))))))),?_⟩
 have cl:=T.fo.cl
 have iff:=Nv h.blt h.jL h.mY h.ne h'.blt h'.jL h'.mY h'.ne
 refine(rF rfl h.obj cl T.zB rfl (rF rfl h'.obj cl T.zB rfl ?_))
 have s1:cM H0 H F1':=fun b hb=>sn1 b (h.sub b hb)
 have s2:cM H1 H F2':=fun b hb=>sn2 b (h'.sub b hb)
 refine⟨fv,fv',f,some (norm f'),H0,H1,rfl,⟨F1',h.fst,s1⟩,⟨F2',.inl ⟨f',h'.fst,rfl⟩,s2⟩,fun b H2 hb sm=>(eX _ rfl ?_)⟩
 cases b with
 |false=>exact bD (q false H2 ⟨fun z=>(by cases z),fun z=>hb.mpr (by rw[(iff.mp z).1])⟩ sm)
 |true=>
  have ef:norm f=norm f':=Option.some.inj (hb.mp rfl)
  have m1:Md (bM (rP a n)) H0 H (.ref pl) (prs.map jl):=⟨F1,⟨pl,vs1,F1',rfl,h.fp,h.np,h.sub,h.lst,h.all.map fun v y z=>⟨y,z,rfl⟩⟩,sn1⟩
  have m2:Md (bM (rP a n)) H1 H (.ref pl') (prs'.map jl):=⟨F2,⟨pl',vs2,F2',rfl,h'.fp,h'.np,h'.sub,h'.lst,h'.all.map fun v y z=>⟨y,z,rfl⟩⟩,sn2⟩
  refine bu (rF rfl (sm _ _ h.obj) cl T.qD rfl (rF rfl (sm _ _ h'.obj) cl T.qD rfl ?_))
  refine⟨pl,pl',prs.map jl,prs'.map jl,H0,H1,rfl,m1.same (bJ (AD a n)) sm,m2.same (bJ (AD a n)) sm,fun b H3 hb3 sm3=>q b H3 (hb3.trans ⟨fun z=>iff.mpr ⟨ef,z⟩,fun z=>(iff.mp z).2⟩) (sm.trans sm3)⟩
def Gp(a:Ad):Nat->Sp
 |0=>fun _ _ _ _=>False
 |n+1=>EY a n
theorem JY{k:Nat}{f:Addr}{fd:FuncData}{ps:List Str}:ax P w K mg base aV k f fd ps (Gp a 0):=⟨fun _ _ _ _ h=>h.elim,fun _ _ _ _ _ _ _ _ _ _ _ _ _ h=>h.elim⟩
theorem Dp(T:Tx P w K mg a){k n:Nat}(F:ax P w K mg base aV k a.px a.nc ["chain","other"] (Gp a n)):ax P w K mg base aV (k+1) a.jS a.kr ["node","other"] (uI a n):=by
 refine aG.ok (k:=k) T.vX.fn Qh (fun vs H Q E h=>?_) (fun cdv A outer s H vs Q E hr h=>?_)
 ·obtain⟨_,_,_,_,_,_,rfl,_⟩:=h;rfl
 obtain⟨v,u,x,y,H0,H1,rfl,⟨F1,hx,sn1⟩,⟨F2,hy,sn2⟩,q⟩:=h
 refine⟨_,aj (a4 (Cs (cY (lT T.lG T.fo (pv 0)))) (ak (aF (gO (Pn (show _<cLine from Nat.lt_of_le_of_lt (Nat.le_trans (Nat.le_add_right _ _) (Nat.le_add_right _ _)) hr.un)) (pv 0) (pv 1) (aZ _)))) ba)
  (ak (aF (i9 (lT T.lG T.fo (pv 1)) (gY (aN T.Hd F hr aU (aa (pv 0) (aa (pv 1) ag))))))),?_⟩
 rcases mO hx with ⟨h0,rfl⟩|⟨m,rfl,c,dx,pl,fv,f,F1',vs1,prs,l,rfl,h⟩
 ·refine(dN rfl (.str _) T.zc ?_)
  refine bu (eX _ rfl (eX _ rfl ?_))
  rcases hy with ⟨z,hz,rfl⟩|⟨rfl,c,C,dx,fs,rfl,fc,ec,hC⟩
  ·rcases mO hz with ⟨h0',rfl⟩|⟨m,rfl,c,dx,pl,fv,f,F2',vs2,prs,l,rfl,h⟩
   ·refine .inl ⟨rfl,q _ H ?_ fun _ _ z=>z⟩
    rw[decide_eq_true_eq,yj h0,yj h0']
    constructor
    ·intro e;rw[mw (V.str.inj e)]
    ·intro e;rw[(LsWale.Sum.name.inj (Option.some.inj e)).2]
   ·exact .inr ⟨_,c,_,dx,_,rfl,rfl,h.obj,T.QH,q false H ⟨fun z=>(by cases z),fun z=>absurd (Option.some.inj z) (Dc h0 h.blt h.ne)⟩ fun _ _ z=>z⟩
  ·refine .inr ⟨_,c,C,dx,_,rfl,rfl,ec,?_,q false H ⟨fun z=>(by cases z),fun z=>(by cases z)⟩ fun _ _ z=>z⟩
   rcases hC with rfl|rfl
   ·exact T.NY
   ·exact T.Pu
 ·refine(dN rfl (gb T h.obj T.fo T.ub) T.x5 ?_)
  refine bD ?_
  rcases hy with ⟨z,hz,rfl⟩|⟨rfl,c2,C,dx2,fs,rfl,fc,ec,hC⟩
  ·rcases mO hz with ⟨h0',rfl⟩|⟨m',em,c2,dx2,pl2,fv2,f2,F2',vs2,prs2,l2,rfl,h2⟩
   ·refine(dN rfl (.str _) T.zc ?_)
    exact bD (q false H ⟨fun z=>(by cases z),fun z=>absurd (Option.some.inj z).symm (Dc h0' h.blt h.ne)⟩ fun _ _ z=>z)
   ·cases em
    refine(dN rfl (gb T h2.obj T.fo T.ub) T.x5 ?_)
    refine bu (eX _ rfl (eX _ rfl ⟨.ref c,.ref c2,x,z,H0,H1,rfl,⟨F1,⟨c,dx,pl,fv,f,F1',vs1,prs,l,rfl,h⟩,sn1⟩,⟨F2,⟨c2,dx2,pl2,fv2,f2,F2',vs2,prs2,l2,rfl,h2⟩,sn2⟩,fun b H' hb s'=>q b H' (hb.trans ⟨fun e=>by rw[e],fun e=>Option.some.inj e⟩) s'⟩))
  ·have fin:∀b:Bool,b=false->Q (.bl b) H:=fun b hb=>q b H ⟨fun z=>(by rw[hb]at z;cases z),fun z=>(by cases z)⟩ fun _ _ z=>z
   rcases hC with rfl|rfl
   ·refine(dN rfl (gb T ec T.fg T.uv) T.P1 ?_)
    exact bD (fin false rfl)
   ·refine(dN rfl (gb T ec T.gH T.qg) T.OD ?_)
    exact bD (fin false rfl)
theorem EE(T:Tx P w K mg a):∀n,ax P w K mg base aV (4*n+2) a.jS a.kr ["node","other"] (uI a n)
 |0=>Dp T (k:=1) JY
 |n+1=>Dp T (k:=4*n+2+3) (Mn T (EE T n))
end Wale
end
section
set_option Elab.async false
set_option linter.all false
set_option maxRecDepth 100000
set_option maxHeartbeats 2000000
namespace Wale
open PySem PySem.Spec PyProof.Rows L2
open Wm
variable {P:Program}{w:World}{K:PySem.W.Frag}{mg:Str->Option Value}{base:Heap}{a:Ad}
def Al(a:Ad):Nat->Sp
 |0=>fun _ _ _ _=>False
 |n+1=>eW (fQ a (cO a n))
theorem L7{k:Nat}{f:Addr}{fd:FuncData}{ps:List Str}:ax P w K mg base aV k f fd ps (Al a 0):=⟨fun _ _ _ _ h=>h.elim,fun _ _ _ _ _ _ _ _ _ _ _ _ _ h=>h.elim⟩
theorem uf{n:Nat}{H:Hp}{F:Fp}{v:V}{x:PT}(h:cO a n H F v x):(∃y,mJ a H F v y/\x=.tx y)\/∃m,n=m+1/\((∃ps,fQ a (cO a m) H F v ps/\x=.li ps)\/∃ps,vM a (cO a m) H F v ps/\x=.br ps):=by
 cases n with
 |zero=>exact .inl h
 |succ m=>exact h.elim .inl fun z=>.inr ⟨m,rfl,z⟩
theorem zD(T:Tx P w K mg a){H:Hp}{F:Fp}{v:V}{y:aQ}(h:mJ a H F v y):∃t,eG K H v t/\PySem.W.kitOne K t (.ref a.cy)=some false/\PySem.W.kitOne K t (.ref a.cA)=some false:=by
 obtain⟨x,hs,rfl⟩:=h
 rcases mO hs with ⟨h0,rfl⟩|⟨m,em,c,dx,pl,fv,f,F',vs,prs,lv,rfl,h⟩
 ·exact⟨_,.str _,T.MR,T.Of⟩
 ·exact⟨_,gb T h.obj T.fo T.ub,T.J5,T.OM⟩
theorem O4:aI ["part","other"] ["part","other"] (aC Bn):=⟨rfl,rfl,rfl,by decide +kernel,rfl,by decide +kernel,by decide +kernel⟩
theorem Qy:aI ["phrase","other"] ["phrase","other"] (aC xw):=⟨rfl,rfl,rfl,by decide +kernel,rfl,by decide +kernel,by decide +kernel⟩
theorem Lq:aI ["listed","other"] ["listed","other"] (aC xC):=⟨rfl,rfl,rfl,by decide +kernel,rfl,by decide +kernel,by decide +kernel⟩
theorem GL(T:Tx P w K mg a){k n:Nat}(hk:74<=k)(F:ax P w K mg base aV k a.nD a.ou ["listed","other"] (Al a n)):ax P w K mg base aV (k+1) a.jb a.kC ["part","other"] (eW (cO a n)):=by
 refine aG.ok (k:=k) T.uP.fn O4 k9 (fun cdv A outer s H vs Q E hr h=>?_)
 obtain⟨v,u,x,y,H0,H1,rfl,⟨F1,hx,sn1⟩,⟨F2,hy,sn2⟩,q⟩:=h
 refine⟨_,aj (a4 (cY (lT T.lG T.fg (pv 0))) (ak (aF (i9 (lT T.lG T.fg (pv 1)) (gY (aN T.xh F hr aU (aa (pv 0) (aa (pv 1) ag))))))) ba)
  (aj (a4 (cY (lT T.lG T.gH (pv 0))) (ak (aF (i9 (lT T.lG T.gH (pv 1)) (gY (aN T.xh F hr aU (aa (aE (pv 0) rfl) (aa (aE (pv 1) rfl) ag))))))) ba)
  (ak (aF (aN T.vX (EE T 18) (hr.mono (by first|decide|lia)) aU (aa (pv 0) (aa (pv 1) ag)))))),?_⟩
 have no:x≠y->Q (.bl false) H:=fun z=>q false H ⟨fun w=>(by cases w),fun w=>absurd w z⟩ fun _ _ z=>z
 rcases uf hx with ⟨sx,hsx,rfl⟩|⟨m,rfl,⟨ps,hl,rfl⟩|⟨ps,hb,rfl⟩⟩
 ·obtain⟨t,ty,k1,k2⟩:=zD T hsx
  refine(dN rfl ty k1 (bD ?_))
  refine(dN rfl ty k2 (bD (eX _ rfl (eX _ rfl ?_))))
  obtain⟨wx,hwx,rfl⟩:=hsx
  rcases uf hy with ⟨sy,⟨wy,hwy,rfl⟩,rfl⟩|⟨m,rfl,⟨qs,⟨c,dx,lv,rfl,fc,ec,hh⟩,rfl⟩|⟨qs,⟨c,dx,lv,rfl,fc,ec,hh⟩,rfl⟩⟩
  ·exact⟨v,u,wx,some (norm wy),H0,H1,rfl,⟨F1,hwx,sn1⟩,⟨F2,.inl ⟨wy,hwy,rfl⟩,sn2⟩,fun b H' hb s'=>q b H' (hb.trans ⟨fun e=>by rw[Option.some.inj e],fun e=>by rw[PT.tx.inj e]⟩) s'⟩
  ·exact⟨v,.ref c,wx,none,H0,H1,rfl,⟨F1,hwx,sn1⟩,⟨F2,.inr ⟨rfl,c,_,dx,_,rfl,fc,ec,.inl rfl⟩,sn2⟩,fun b H' hb s'=>q b H' (hb.trans ⟨fun e=>(by cases e),fun e=>(by cases e)⟩) s'⟩
  ·exact⟨v,.ref c,wx,none,H0,H1,rfl,⟨F1,hwx,sn1⟩,⟨F2,.inr ⟨rfl,c,_,dx,_,rfl,fc,ec,.inr rfl⟩,sn2⟩,fun b H' hb s'=>q b H' (hb.trans ⟨fun e=>(by cases e),fun e=>(by cases e)⟩) s'⟩
 ·have hl':=hl
  obtain⟨c,dx,lv,rfl,fc,ec,hh⟩:=hl
  refine(dN rfl (gb T ec T.fg T.uv) T.Cj (bu ?_))
  rcases uf hy with ⟨sy,hsy,rfl⟩|⟨m',em,⟨qs,hm,rfl⟩|⟨qs,⟨c2,dx2,lv2,rfl,fc2,ec2,hh2⟩,rfl⟩⟩
  ·obtain⟨t,ty,k1,k2⟩:=zD T hsy
   exact(dN rfl ty k1 (bD (no fun z=>by cases z)))
  ·cases em
   have hm':=hm
   obtain⟨c2,dx2,lv2,rfl,fc2,ec2,hh2⟩:=hm
   refine(dN rfl (gb T ec2 T.fg T.uv) T.Cj (bu (eX _ rfl (eX _ rfl ?_))))
   exact⟨.ref c,.ref c2,ps,qs,H0,H1,rfl,⟨F1,hl',sn1⟩,⟨F2,hm',sn2⟩,fun b H' hb s'=>q b H' (hb.trans ⟨fun e=>by rw[e],fun e=>PT.li.inj e⟩) s'⟩
  ·exact(dN rfl (gb T ec2 T.gH T.qg) T.Fy (bD (no fun z=>by cases z)))
 ·obtain⟨c,dx,lv,rfl,fc,ec,hl⟩:=hb
  refine(dN rfl (gb T ec T.gH T.qg) T.Fy (bD ?_))
  refine(dN rfl (gb T ec T.gH T.qg) T.B5 (bu ?_))
  rcases uf hy with ⟨sy,hsy,rfl⟩|⟨m',em,⟨qs,⟨c2,dx2,lv2,rfl,fc2,ec2,hh2⟩,rfl⟩|⟨qs,⟨c2,dx2,lv2,rfl,fc2,ec2,hm⟩,rfl⟩⟩
  ·obtain⟨t,ty,k1,k2⟩:=zD T hsy
   exact(dN rfl ty k2 (bD (no fun z=>by cases z)))
  ·exact(dN rfl (gb T ec2 T.fg T.uv) T.Kb (bD (no fun z=>by cases z)))
  ·cases em
   refine(dN rfl (gb T ec2 T.gH T.qg) T.B5 (bu ?_))
   refine(rF rfl ec T.gH.cl T.wZ rfl (rF rfl ec2 T.gH.cl T.wZ rfl ?_))
   exact⟨lv,lv2,ps,qs,H0,H1,rfl,⟨F1,hl,sn1⟩,⟨F2,hm,sn2⟩,fun b H' hb s'=>q b H' (hb.trans ⟨fun e=>by rw[e],fun e=>PT.br.inj e⟩) s'⟩
theorem F0(T:Tx P w K mg a){k n:Nat}(F:ax P w K mg base aV k a.jb a.kC ["part","other"] (eW (cO a n))):ax P w K mg base aV (k+2) a.jP a.nP ["phrase","other"] (eW (bE a n)):=by
 refine aG.ok (k:=k+1) T.r6.fn Qy k9 (fun cdv A outer s H vs Q E hr h=>?_)
 obtain⟨v,u,x,y,H0,H1,rfl,mx,my,q⟩:=h
 refine⟨_,ak (aF (aN T.qd (vp T (cE a n) F T.uP.fn.kp T.uP.bd) hr aU (aa (pv 0) (aa (pv 1) (aa (js (by rfl) T.uP.at_ (show RelV (.ref a.jb) (.ref a.jb)from rfl)) ag))))),?_⟩
 obtain⟨l,rfl⟩:=mx.ref
 obtain⟨m,rfl⟩:=my.ref
 exact(eX _ rfl (eX _ rfl ⟨l,m,x,y,H0,H1,rfl,mx,my,q⟩))
theorem N1(T:Tx P w K mg a){k n:Nat}(F:ax P w K mg base aV k a.jP a.nP ["phrase","other"] (eW (bE a n))):ax P w K mg base aV (k+2) a.nD a.ou ["listed","other"] (Al a (n+1)):=by
 refine aG.ok (k:=k+1) T.xh.fn Lq k9 (fun cdv A outer s H vs Q E hr h=>?_)
 obtain⟨v,u,x,y,H0,H1,rfl,⟨F1,⟨c,dx,lv,rfl,fc,ec,h1⟩,sn1⟩,⟨F2,⟨c2,dx2,lv2,rfl,fc2,ec2,h2⟩,sn2⟩,q⟩:=h
 refine⟨_,ak (aF (aN T.qd (vp T (cK a n) F T.r6.fn.kp T.r6.bd) hr aU (aa (aE (pv 0) rfl) (aa (aE (pv 1) rfl) (aa (js (by rfl) T.r6.at_ (show RelV (.ref a.jP) (.ref a.jP)from rfl)) ag))))),?_⟩
 have mx:Md (bM (bE a n)) H0 H lv x:=⟨F1,h1,sn1⟩
 have my:Md (bM (bE a n)) H1 H lv2 y:=⟨F2,h2,sn2⟩
 obtain⟨l,rfl⟩:=mx.ref
 obtain⟨m,rfl⟩:=my.ref
 exact(rF rfl ec T.fg.cl T.xa rfl (rF rfl ec2 T.fg.cl T.xa rfl ⟨l,m,x,y,H0,H1,rfl,mx,my,q⟩))
theorem GN(T:Tx P w K mg a):∀n,ax P w K mg base aV (75+5*n) a.jb a.kC ["part","other"] (eW (cO a n))
 |0=>GL T (k:=74) (by lia) L7
 |n+1=>GL T (k:=75+5*n+2+2) (by lia) (N1 T (F0 T (GN T n)))
end Wale
end
section
set_option Elab.async false
set_option linter.all false
set_option maxRecDepth 100000
set_option maxHeartbeats 2000000
namespace Wale
open PySem PySem.Spec PyProof.Rows L2
open Wm
variable {P:Program}{w:World}{K:PySem.W.Frag}{mg:Str->Option Value}{base:Heap}{a:Ad}
def jT(a:Ad):Nat->Rep (Option (List ST))
 |0=>fun _ _ v b=>v=.ay/\b=none
 |n+1=>fun H F v b=>(v=.ay/\b=none)\/∃fs,bM (cQ a n) H F v fs/\b=some fs
theorem Ei(a:Ad):∀n,Good (jT a n)
 |0=>⟨fun h _=>h,fun h _=>h⟩
 |n+1=>⟨fun h e=>h.elim .inl fun⟨fs,z,q⟩=>.inr ⟨fs,(bJ (gD a n)).frame z e,q⟩,fun h e=>h.elim .inl fun⟨fs,z,q⟩=>.inr ⟨fs,(bJ (gD a n)).mono z e,q⟩⟩
theorem CV{n:Nat}{H:Hp}{F:Fp}{v:V}{s:ST}(h:cQ a n H F v s):∃(c dx:Addr)(pv bv:V)(ph:List PT)(bd:Option (List ST)),v=.ref c/\F c/\H c=some (.ins a.dP dx [("phrase",pv),("body",bv)])/\bE a 10 H F pv ph/\jT a n H F bv bd/\s=.mk ph bd:=by
 have h0:qW a H F v s->∃(c dx:Addr)(pv bv:V)(ph:List PT)(bd:Option (List ST)),v=.ref c/\F c/\H c=some (.ins a.dP dx [("phrase",pv),("body",bv)])/\bE a 10 H F pv ph/\jT a n H F bv bd/\s=.mk ph bd:=by
  rintro⟨c,dx,pv,ph,rfl,h1,h2,h3,rfl⟩
  refine⟨c,dx,pv,.ay,ph,none,rfl,h1,h2,h3,?_,rfl⟩
  cases n with
  |zero=>exact⟨rfl,rfl⟩
  |succ n=>exact .inl ⟨rfl,rfl⟩
 cases n with
 |zero=>exact h0 h
 |succ n=>
  rcases h with h|⟨c,dx,pv,bv,ph,fs,rfl,h1,h2,h3,h4,rfl⟩
  ·exact h0 h
  ·exact⟨c,dx,pv,bv,ph,some fs,rfl,h1,h2,h3,.inr ⟨fs,h4,rfl⟩,rfl⟩
def BA(a:Ad):Nat->Sp
 |0=>fun _ _ _ _=>False
 |n+1=>eW (bM (cQ a n))
theorem Jn{k:Nat}{f:Addr}{fd:FuncData}{ps:List Str}:ax P w K mg base aV k f fd ps (BA a 0):=⟨fun _ _ _ _ h=>h.elim,fun _ _ _ _ _ _ _ _ _ _ _ _ _ h=>h.elim⟩
theorem LP:aI ["body","other"] ["body","other"] (aC yK):=⟨rfl,rfl,rfl,by decide +kernel,rfl,by decide +kernel,by decide +kernel⟩
theorem LN:aI ["stat","other"] ["stat","other"] (aC xQ):=⟨rfl,rfl,rfl,by decide +kernel,rfl,by decide +kernel,by decide +kernel⟩
theorem IH:aI ["stats","others"] ["stats","others"] (aC xm):=⟨rfl,rfl,rfl,by decide +kernel,rfl,by decide +kernel,by decide +kernel⟩
theorem zT{n:Nat}{H:Hp}{F:Fp}{v:V}{b:Option (List ST)}(h:jT a n H F v b):(v=.ay/\b=none)\/∃m l fs,n=m+1/\v=.ref l/\bM (cQ a m) H F v fs/\b=some fs:=by
 cases n with
 |zero=>exact .inl h
 |succ m=>
  rcases h with h|⟨fs,h,e⟩
  ·exact .inl h
  ·obtain⟨l,vs,F',ev,rest⟩:=h
   exact .inr ⟨m,l,fs,rfl,ev,⟨l,vs,F',ev,rest⟩,e⟩
theorem Hx(T:Tx P w K mg a){k n:Nat}(F:ax P w K mg base aV k a.oA a.pG ["stats","others"] (BA a n)):ax P w K mg base aV (k+1) a.oY a.nG ["body","other"] (eW (jT a n)):=by
 refine aG.ok (k:=k) T.HC.fn LP k9 (fun cdv A outer s H vs Q E hr h=>?_)
 obtain⟨v,u,x,y,H0,H1,rfl,⟨F1,hx,sn1⟩,⟨F2,hy,sn2⟩,q⟩:=h
 refine⟨_,aj (a4 (PW.pt (iM (a5 rf (pv 0) fO (aZ _)) (iK (a5 rf (pv 1) fO (aZ _)))))
   (ak (aF (i9 (gO rf (pv 0) fO (aZ _)) (gY (gO rf (pv 1) fO (aZ _)))))) ba)
  (ak (aF (aN T.xH F hr aU (aa (pv 0) (aa (pv 1) ag))))),?_⟩
 rcases zT hx with ⟨rfl,rfl⟩|⟨m,l,fs,rfl,rfl,h1,rfl⟩
 ·refine(eX _ rfl ⟨rfl,eX _ rfl (bu (bu ?_))⟩)
  refine(eX _ rfl ⟨rfl,eX _ rfl (bu (eX _ rfl ⟨rfl,?_⟩))⟩)
  rcases zT hy with ⟨rfl,rfl⟩|⟨m',l',gs,-,rfl,h2,rfl⟩
  ·exact q true H ⟨fun _=>rfl,fun _=>rfl⟩ fun _ _ z=>z
  ·exact q false H ⟨fun z=>(by cases z),fun z=>(by cases z)⟩ fun _ _ z=>z
 ·refine(eX _ rfl ⟨rfl,eX _ rfl (bD ?_)⟩)
  rcases zT hy with ⟨rfl,rfl⟩|⟨m',l',gs,em,rfl,h2,rfl⟩
  ·refine(eX _ rfl ⟨rfl,eX _ rfl (bu ?_)⟩)
   refine(eX _ rfl ⟨rfl,eX _ rfl (bD ?_)⟩)
   exact q false H ⟨fun z=>(by cases z),fun z=>(by cases z)⟩ fun _ _ z=>z
  ·cases em
   refine(eX _ rfl ⟨rfl,eX _ rfl (bD ?_)⟩)
   exact(eX _ rfl (eX _ rfl ⟨.ref l,.ref l',fs,gs,H0,H1,rfl,⟨F1,h1,sn1⟩,⟨F2,h2,sn2⟩,fun b H' hb s'=>q b H' (hb.trans ⟨fun e=>by rw[e],fun e=>Option.some.inj e⟩) s'⟩))
theorem Hb(T:Tx P w K mg a){k n:Nat}(hk:127<=k)(F:ax P w K mg base aV k a.oY a.nG ["body","other"] (eW (jT a n))):ax P w K mg base aV (k+1) a.i4 a.kY ["stat","other"] (eW (cQ a n)):=by
 refine aG.ok (k:=k) T.vE.fn LN k9 (fun cdv A outer s H vs Q E hr h=>?_)
 obtain⟨v,u,x,y,H0,H1,rfl,⟨F1,hx,sn1⟩,⟨F2,hy,sn2⟩,q⟩:=h
 obtain⟨c,dx,pv',bv,ph,bd,rfl,fc,ec,hp,hb,rfl⟩:=CV hx
 obtain⟨c2,dx2,pv2,bv2,kJ,bd2,rfl,fc2,ec2,hp2,hb2,rfl⟩:=CV hy
 refine⟨_,ak (aF (i9 (aN T.r6 (F0 T (GN T 10)) (hr.mono (by first|decide|lia)) aU (aa (aE (pv 0) rfl) (aa (aE (pv 1) rfl) ag)))
  (gY (aN T.HC F hr aU (aa (aE (pv 0) rfl) (aa (aE (pv 1) rfl) ag)))))),?_⟩
 have cl:=T.dY.cl
 refine(rF rfl ec cl T.A0 rfl (rF rfl ec2 cl T.A0 rfl ?_))
 refine⟨pv',pv2,ph,kJ,H0,H1,rfl,⟨F1,hp,sn1⟩,⟨F2,hp2,sn2⟩,fun b H2 hb2' sm=>(eX _ rfl ?_)⟩
 cases b with
 |false=>exact bD (q false H2 ⟨fun z=>(by cases z),fun z=>hb2'.mpr (ST.mk.inj z).1⟩ sm)
 |true=>
  have e1:=hb2'.mp rfl
  refine bu (rF rfl (sm _ _ ec) cl T.yS rfl (rF rfl (sm _ _ ec2) cl T.yS rfl ?_))
  exact⟨bv,bv2,bd,bd2,H0,H1,rfl,(show Md (jT a n) H0 H bv bd from⟨F1,hb,sn1⟩).same (Ei a n) sm,(show Md (jT a n) H1 H bv2 bd2 from⟨F2,hb2,sn2⟩).same (Ei a n) sm,fun b H3 hb3 sm3=>q b H3 (hb3.trans ⟨fun z=>by rw[e1,z],fun z=>(ST.mk.inj z).2⟩) (sm.trans sm3)⟩
theorem Ep(T:Tx P w K mg a){k n:Nat}(F:ax P w K mg base aV k a.i4 a.kY ["stat","other"] (eW (cQ a n))):ax P w K mg base aV (k+2) a.oA a.pG ["stats","others"] (BA a (n+1)):=by
 refine aG.ok (k:=k+1) T.xH.fn IH k9 (fun cdv A outer s H vs Q E hr h=>?_)
 obtain⟨v,u,x,y,H0,H1,rfl,mx,my,q⟩:=h
 refine⟨_,ak (aF (aN T.qd (vp T (gD a n) F T.vE.fn.kp T.vE.bd) hr aU (aa (pv 0) (aa (pv 1) (aa (js (by rfl) T.vE.at_ (show RelV (.ref a.i4) (.ref a.i4)from rfl)) ag))))),?_⟩
 obtain⟨l,rfl⟩:=mx.ref
 obtain⟨m,rfl⟩:=my.ref
 exact(eX _ rfl (eX _ rfl ⟨l,m,x,y,H0,H1,rfl,mx,my,q⟩))
theorem B3(T:Tx P w K mg a):∀n,ax P w K mg base aV (130+4*n) a.i4 a.kY ["stat","other"] (eW (cQ a n))
 |0=>Hb T (k:=129) (by lia) (Hx T (k:=128) Jn)
 |n+1=>Hb T (k:=130+4*n+2+1) (by lia) (Hx T (Ep T (B3 T n)))
end Wale
end
section
set_option linter.all false
namespace Wale
open Wm
open LsWale
theorem ET(n:Nat):(decimal n).map (fun b=>Char.ofNat b.toNat)=Nat.toDigits 10 n:=by
 unfold decimal
 rw[List.map_map]
 have h:∀c∈Nat.toDigits 10 n,((fun b:UInt8=>Char.ofNat b.toNat)∘fun c:Char=>UInt8.ofNat c.toNat) c=c:=fun c hc=>by
  have hd:=Nat.isDigit_of_mem_toDigits (by decide) (by decide) hc
  have h2:c.toNat<256:=by
   simp only[Char.isDigit,Bool.and_eq_true,decide_eq_true_eq]at hd
   have:=hd.2
   have:c.val.toNat<=57:=UInt32.le_iff_toNat_le.mp this
   show c.val.toNat<256
   lia
  show Char.ofNat (UInt8.ofNat c.toNat).toNat=c
  rw[UInt8.toNat_ofNat',Nat.mod_eq_of_lt h2,Char.ofNat_toNat]
 rw[List.map_congr_left h];simp
theorem Ka{n m:Nat}(h:decimal n=decimal m):n=m:=by
 have e:Nat.toDigits 10 n=Nat.toDigits 10 m:=by rw[<-ET,<-ET,h]
 rw[<-Nat.ofDigitChars_ten_toDigits (n:=n),e,Nat.ofDigitChars_ten_toDigits]
theorem ze(n:Nat):jg (decimal n)=false:=by
 have h:∀c∈Nat.toDigits 10 n,isLetter (UInt8.ofNat c.toNat)=false:=fun c hc=>by
  have hd:=Nat.isDigit_of_mem_toDigits (by decide) (by decide) hc
  simp only[Char.isDigit,Bool.and_eq_true,decide_eq_true_eq]at hd
  have h2:c.val.toNat<=57:=UInt32.le_iff_toNat_le.mp hd.2
  have h3:(UInt8.ofNat c.toNat).toNat<=57:=by
   rw[UInt8.toNat_ofNat']
   show c.val.toNat % 256<=57
   lia
  unfold isLetter
  rw[decide_eq_false (fun z=>?_)];rfl
  have:(97:UInt8).toNat<=(UInt8.ofNat c.toNat).toNat:=UInt8.le_iff_toNat_le.mp z
  have e:(97:UInt8).toNat=97:=rfl
  lia
 unfold decimal
 cases q:Nat.toDigits 10 n with
 |nil=>rfl
 |cons c r=>exact h c (by rw[q];exact List.mem_cons_self ..)
theorem jr:∀{x y:LsWale.Sum},dS x->dS y->norm x=norm y->x.bare=y.bare
 | .num n,.num m,_,_,h=>by
  have:=Ka (LsWale.Sum.name.inj h).2
  rw[this]
 | .num n,.name q m,_,hy,h=>by
  have e:=(LsWale.Sum.name.inj h).2
  have:=ze n
  rw[e,hy.2]at this;cases this
 | .num n,.op c q x y,_,_,h=>by cases h
 | .name p n,.num m,hx,_,h=>by
  have e:=(LsWale.Sum.name.inj h).2
  have:=ze m
  rw[<-e,hx.2]at this;cases this
 | .name p n,.name q m,_,_,h=>by
  have e:=(LsWale.Sum.name.inj h).2
  show LsWale.Sum.name 0 n=.name 0 m
  rw[e]
 | .name p n,.op c q x y,_,_,h=>by cases h
 | .op c p x y,.num m,_,_,h=>by cases h
 | .op c p x y,.name q m,_,_,h=>by cases h
 | .op c p x y,.op d q z w,hx,hy,h=>by
  obtain⟨e1,_,e2,e3⟩:=LsWale.Sum.op.inj h
  show LsWale.Sum.op c 0 x.bare y.bare=.op d 0 z.bare w.bare
  rw[e1,jr hx.1 hy.1 e2,jr hx.2 hy.2 e3]
theorem jm:∀x:LsWale.Sum,norm x.bare=norm x
 | .num n=>rfl
 | .name p n=>rfl
 | .op c p x y=>by
  show LsWale.Sum.op c 0 (norm x.bare) (norm y.bare)=_
  rw[jm x,jm y];rfl
theorem Kl:∀w,w<23->∀u,u<23->PLAINS.getD w []=PLAINS.getD u []->w=u:=by decide +kernel
theorem mB:∀w,w<23->isName (PLAINS.getD w [])=false/\PLAINS.getD w []≠ascii "cl"/\PLAINS.getD w []≠ascii "cr"/\PLAINS.getD w []≠ascii "hold":=by decide +kernel
def J6(l:Bytes):Nat×Nat:=(valueOf (l.takeWhile isDigit),valueOf ((l.dropWhile isDigit).drop 1))
theorem FW:∀n,n<17->∀m,m<17->J6 (decimal n++47::decimal m)=(n,m):=by decide +kernel
theorem jJ{n:Bytes}{k:Bytes}(h:Nm n)(hk:isName k=false):n≠k:=fun z=>by
 rw[<-z,h.1]at hk;cases hk
theorem dG{s t:Bytes}(h:tw s=tw t):s=t:=(LsWale.Sum.name.inj (PT.tx.inj h)).2
def Bg:Unit_->Bytes
 | .plain w=>PLAINS.getD w []
 | .cable r _ _=>ascii (if r=true then "cr" else "cl")
 | .hold _=>ascii "hold"
 | .word n=>n
theorem qf(u:Unit_)(x:List PT):∃y,lD u++x=tw (Bg u)::y:=by
 cases u<;>exact⟨_,rfl⟩
theorem JT{u v:Unit_}{x y:List PT}(hu:qm u)(hv:qm v)(h:lD u++x=lD v++y):u=v/\x=y:=by
 have e:Bg u=Bg v:=by
  obtain⟨a,ha⟩:=qf u x
  obtain⟨b,hb⟩:=qf v y
  rw[ha,hb]at h
  exact dG (List.cons.inj h).1
 have kcl:isName (ascii "cl")=false:=by decide +kernel
 have kcr:isName (ascii "cr")=false:=by decide +kernel
 have khold:isName (ascii "hold")=false:=by decide +kernel
 have cabk:∀r:Bool,isName (ascii (if r=true then "cr" else "cl"))=false:=fun r=>by cases r<;>assumption
 have cabne:∀r:Bool,ascii (if r=true then "cr" else "cl")≠ascii "hold":=by decide +kernel
 have cabi:∀r r':Bool,ascii (if r=true then "cr" else "cl")=ascii (if r'=true then "cr" else "cl")->r=r':=by decide +kernel
 cases u with
 |plain w=>
  cases v with
  |plain w'=>
   have:=Kl w hu w' hv e
   subst this
   exact⟨rfl,(List.cons.inj h).2⟩
  |cable r n m=>
   have:=mB w hu
   cases r with
   |true=>exact absurd e this.2.2.1
   |false=>exact absurd e this.2.1
  |hold n=>exact absurd e (mB w hu).2.2.2
  |word n=>exact absurd e.symm (jJ hv (mB w hu).1)
 |cable r n m=>
  cases v with
  |plain w=>
   have:=mB w hv
   cases r with
   |true=>exact absurd e.symm this.2.2.1
   |false=>exact absurd e.symm this.2.1
  |cable r' n' m'=>
   have er:=cabi r r' e
   subst er
   have h2:tw (decimal n++47::decimal m)::x=tw (decimal n'++47::decimal m')::y:=(List.cons.inj h).2
   have e2:=dG (List.cons.inj h2).1
   have c1:=FW n (Nat.lt_succ_of_le hu.1) m (Nat.lt_succ_of_le hu.2)
   have c2:=FW n' (Nat.lt_succ_of_le hv.1) m' (Nat.lt_succ_of_le hv.2)
   rw[e2,c2]at c1
   cases c1
   exact⟨rfl,(List.cons.inj h2).2⟩
  |hold n'=>exact absurd e (cabne r)
  |word n'=>exact absurd e.symm (jJ hv (cabk r))
 |hold n=>
  cases v with
  |plain w=>exact absurd e.symm (mB w hv).2.2.2
  |cable r n' m'=>exact absurd e.symm (cabne r)
  |hold n'=>
   have h2:tw n::x=tw n'::y:=(List.cons.inj h).2
   have e2:=dG (List.cons.inj h2).1
   subst e2
   exact⟨rfl,(List.cons.inj h2).2⟩
  |word n'=>exact absurd e.symm (jJ hv khold)
 |word n=>
  cases v with
  |plain w=>exact absurd e (jJ hu (mB w hv).1)
  |cable r n' m'=>exact absurd e (jJ hu (cabk r))
  |hold n'=>exact absurd e (jJ hu khold)
  |word n'=>
   have e2:n=n':=e
   subst e2
   exact⟨rfl,(List.cons.inj h).2⟩
theorem Pw{s:LsWale.Sum}{k:Bytes}(h:dS s)(hk:isName k=false)(hl:jg k=true):norm s≠ .name 0 k:=by
 cases s with
 |num n=>
  intro z
  have e:=(LsWale.Sum.name.inj z).2
  have:=ze n
  rw[e,hl]at this;cases this
 |name p n=>exact fun z=>jJ h hk (LsWale.Sum.name.inj z).2
 |op c p x y=>exact fun z=>by cases z
theorem MJ:isName (ascii "to")=false:=by decide +kernel
theorem Nc:jg (ascii "to")=true:=by decide +kernel
theorem CF{r q:Reach}(hr:qy r)(hq:qy q)(h:fq r=fq q):r.bare=q.bare:=by
 have hd:∀{s:LsWale.Sum}{x y:List PT},dS s->(PT.tx (norm s)::x)≠tw (ascii "to")::y:=fun{s x y}hs z=>Pw hs MJ Nc (PT.tx.inj (List.cons.inj z).1)
 have ne1:ascii "end"≠ascii "last":=by decide +kernel
 have ne2:ascii "end"≠ascii "mark":=by decide +kernel
 have ne3:ascii "last"≠ascii "mark":=by decide +kernel
 cases r with
 |once=>
  cases q with
  |once=>rfl
  |times s=>cases h
  |to_ g=>cases g<;>cases h
 |times s=>
  cases q with
  |once=>cases h
  |times t=>
   have e:=jr hr hq (PT.tx.inj (List.cons.inj h).1)
   show Reach.times s.bare=.times t.bare
   rw[e]
  |to_ g=>cases g<;>exact absurd h (hd hr)
 |to_ g=>
  cases q with
  |once=>cases g<;>cases h
  |times t=>cases g<;>exact absurd h.symm (hd hq)
  |to_ g'=>
   cases g with
   |row=>
    cases g' with
    |row=>rfl
    |last t=>exact absurd (dG (List.cons.inj (List.cons.inj h).2).1) ne1
    |mark n=>exact absurd (dG (List.cons.inj (List.cons.inj h).2).1) ne2
   |last s=>
    cases g' with
    |row=>exact absurd (dG (List.cons.inj (List.cons.inj h).2).1).symm ne1
    |last t=>
     have h2:=(List.cons.inj (List.cons.inj (List.cons.inj h).2).2).1
     have e:=jr hr hq (PT.tx.inj h2)
     show Reach.to_ (.last s.bare)=.to_ (.last t.bare)
     rw[e]
    |mark n=>exact absurd (dG (List.cons.inj (List.cons.inj h).2).1) ne3
   |mark n=>
    cases g' with
    |row=>exact absurd (dG (List.cons.inj (List.cons.inj h).2).1).symm ne2
    |last t=>exact absurd (dG (List.cons.inj (List.cons.inj h).2).1).symm ne3
    |mark m=>
     have h2:=dG (List.cons.inj (List.cons.inj (List.cons.inj h).2).2).1
     subst h2;rfl
theorem Hn(r:Reach):fq r.bare=fq r:=by
 cases r with
 |once=>rfl
 |times s=>show[PT.tx (norm s.bare)]=_;rw[jm];rfl
 |to_ g=>
  cases g with
  |row=>rfl
  |last s=>show[tw _,tw _,PT.tx (norm s.bare)]=_;rw[jm];rfl
  |mark n=>rfl
def iU:Lone->Bytes
 | .take _=>ascii "take"
 | .yarn _=>ascii "yarn"
 | .mark _=>ascii "mark"
 | .pass _=>ascii "pass"
 | .clear _=>ascii "clear"
 | .turn=>ascii "turn"
 | .fasten=>ascii "fasten"
theorem sC(x:Lone):∃y,hW x=tw (iU x)::y:=by cases x<;>exact⟨_,rfl⟩
theorem KY{x y:Lone}(h:hW x=hW y):x=y:=by
 have e:iU x=iU y:=by
  obtain⟨a,ha⟩:=sC x
  obtain⟨b,hb⟩:=sC y
  rw[ha,hb]at h
  exact dG (List.cons.inj h).1
 cases x<;>cases y<;>first
  |rfl
  |(dsimp only[iU]at e;exact absurd e (by decide +kernel))
  |(have h2:=dG (List.cons.inj (List.cons.inj h).2).1;subst h2;rfl)
theorem Nl(x:Lone):isName (iU x)=false/\iU x≠ascii "cl"/\iU x≠ascii "cr"/\iU x≠ascii "hold"/\∀w,w<23->PLAINS.getD w []≠iU x:=by
 cases x<;>dsimp only[iU]<;>decide +kernel
theorem BY{u:Unit_}{r:List PT}{x:Lone}(hu:qm u)(h:lD u++r=hW x):False:=by
 obtain⟨a,ha⟩:=qf u r
 obtain⟨b,hb⟩:=sC x
 rw[ha,hb]at h
 have e:=dG (List.cons.inj h).1
 have k:=Nl x
 cases u with
 |plain w=>exact k.2.2.2.2 w hu e
 |cable r n m=>
  cases r with
  |true=>exact k.2.2.1 e.symm
  |false=>exact k.2.1 e.symm
 |hold n=>exact k.2.2.2.1 e.symm
 |word n=>exact jJ hu k.1 e
theorem nL:∀{i j:Items},gQ i->gQ j->bY i=bY j->i.bare=j.bare
 | .nil,.nil,_,_,_=>rfl
 | .nil,.one ..,_,_,h=>by cases h
 | .nil,.group ..,_,_,h=>by cases h
 | .nil,.lone ..,_,_,h=>by cases h
 | .one ..,.nil,_,_,h=>by cases h
 | .one p u r a,.one q v s b,hi,hj,h=>by
  have h1:=List.cons.inj h
  obtain⟨e1,e2⟩:=JT hi.1 hj.1 h1.1
  show Items.one 0 u r.bare a.bare=.one 0 v s.bare b.bare
  rw[e1,CF hi.2.1 hj.2.1 e2,nL hi.2.2 hj.2.2 h1.2]
 | .one p u r a,.group q v s b,hi,hj,h=>by
  obtain⟨z,hz⟩:=qf u (fq r)
  have h1:=(List.cons.inj h).1
  rw[hz]at h1
  cases (List.cons.inj h1).1
 | .one p u r a,.lone q x b,hi,hj,h=>(BY hi.1 (List.cons.inj h).1).elim
 | .group ..,.nil,_,_,h=>by cases h
 | .group p v r a,.one q u s b,hi,hj,h=>by
  obtain⟨z,hz⟩:=qf u (fq s)
  have h1:=(List.cons.inj h).1
  rw[hz]at h1
  cases (List.cons.inj h1).1
 | .group p v r a,.group q w s b,hi,hj,h=>by
  have h1:=List.cons.inj h
  have h2:=List.cons.inj h1.1
  show Items.group 0 v.bare r.bare a.bare=.group 0 w.bare s.bare b.bare
  rw[nL hi.1 hj.1 (PT.br.inj h2.1),CF hi.2.1 hj.2.1 h2.2,nL hi.2.2 hj.2.2 h1.2]
 | .group p v r a,.lone q x b,hi,hj,h=>by
  obtain⟨z,hz⟩:=sC x
  have h1:=(List.cons.inj h).1
  rw[hz]at h1
  cases (List.cons.inj h1).1
 | .lone ..,.nil,_,_,h=>by cases h
 | .lone p x a,.one q u s b,hi,hj,h=>(BY hj.1 (List.cons.inj h).1.symm).elim
 | .lone p x a,.group q v s b,hi,hj,h=>by
  obtain⟨z,hz⟩:=sC x
  have h1:=(List.cons.inj h).1
  rw[hz]at h1
  cases (List.cons.inj h1).1
 | .lone p x a,.lone q y b,hi,hj,h=>by
  have h1:=List.cons.inj h
  show Items.lone 0 x a.bare=.lone 0 y b.bare
  rw[KY h1.1,nL (i:=a) (j:=b) hi hj h1.2]
theorem mC:∀i:Items,bY i.bare=bY i
 | .nil=>rfl
 | .one p u r a=>by
  show(lD u++fq r.bare)::bY a.bare=_
  rw[Hn,mC a];rfl
 | .group p v r a=>by
  show(PT.br (bY v.bare)::fq r.bare)::bY a.bare=_
  rw[Hn,mC a,mC v];rfl
 | .lone p x a=>by
  show hW x::bY a.bare=_
  rw[mC a];rfl
theorem Ri{a b:Option Bool}{x y:List (List PT)}(h:nQ a++[PT.li x]=nQ b++[PT.li y]):a=b/\x=y:=by
 have ne:ascii "rs"≠ascii "ws":=by decide +kernel
 cases a with
 |none=>
  cases b with
  |none=>exact⟨rfl,PT.li.inj (List.cons.inj h).1⟩
  |some t=>cases t<;>cases (List.cons.inj h).1
 |some s=>
  cases b with
  |none=>cases s<;>cases (List.cons.inj h).1
  |some t=>
   cases s<;>cases t
   ·exact⟨rfl,PT.li.inj (List.cons.inj (List.cons.inj h).2).1⟩
   ·exact absurd (dG (List.cons.inj h).1).symm ne
   ·exact absurd (dG (List.cons.inj h).1) ne
   ·exact⟨rfl,PT.li.inj (List.cons.inj (List.cons.inj h).2).1⟩
theorem JH{a b:Bool}(h:sD a=sD b):a=b:=by cases a<;>cases b<;>first|rfl|cases h
theorem Jx{a b:Option LsWale.Sum}(ha:By a)(hb:By b)(h:lA a=lA b):a.map LsWale.Sum.bare=b.map LsWale.Sum.bare:=by
 cases a with
 |none=>
  cases b with
  |none=>rfl
  |some y=>cases h
 |some x=>
  cases b with
  |none=>cases h
  |some y=>
   have e:=jr ha hb (PT.tx.inj (List.cons.inj h).1)
   show some x.bare=some y.bare
   rw[e]
theorem HV(a:Option LsWale.Sum):lA (a.map LsWale.Sum.bare)=lA a:=by
 cases a with
 |none=>rfl
 |some x=>show[PT.tx (norm x.bare)]=_;rw[jm];rfl
def fR:ST->Bytes
 | .mk (.tx (.name _ b)::_) _=>b
 |_=>[]
def ST.bd:ST->Option (List ST)| .mk _ b=>b
def ST.ph:ST->List PT| .mk p _=>p
theorem iq:∀{i j:Stats},eV i->eV j->bA i=bA j->i.bare=j.bare
 | .nil,j,_,_,h=>by
  cases j<;>first|rfl|cases h
 | .on p s rd a,j,hi,hj,h=>by
  cases j with
  |nil=>cases h
  |on q t rd' b=>
   have h1:=List.cons.inj h
   have h2:=List.cons.inj (ST.mk.inj h1.1).1
   have h3:=List.cons.inj h2.2
   show Stats.on 0 s.bare rd a.bare=.on 0 t.bare rd' b.bare
   rw[jr hi.1 hj.1 (PT.tx.inj h3.1),JH h3.2,iq hi.2 hj.2 h1.2]
  |_=>exact absurd (congrArg fR (List.cons.inj h).1) (by show ascii _≠ascii _;decide +kernel)
 | .row p sd l a,j,hi,hj,h=>by
  cases j with
  |nil=>cases h
  |row q sd' l' b=>
   have h1:=List.cons.inj h
   have h2:=List.cons.inj (ST.mk.inj h1.1).1
   obtain⟨e1,e2⟩:=Ri h2.2
   show Stats.row 0 sd l.bare a.bare=.row 0 sd' l'.bare b.bare
   rw[e1,nL hi.1 hj.1 e2,iq hi.2 hj.2 h1.2]
  |_=>exact absurd (congrArg fR (List.cons.inj h).1) (by show ascii _≠ascii _;decide +kernel)
 | .again p s i a,j,hi,hj,h=>by
  cases j with
  |nil=>cases h
  |again q t i' b=>
   have h1:=List.cons.inj h
   have h0:=ST.mk.inj h1.1
   have h3:=List.cons.inj (List.cons.inj h0.1).2
   show Stats.again 0 s.bare i.bare a.bare=.again 0 t.bare i'.bare b.bare
   rw[jr hi.1 hj.1 (PT.tx.inj h3.1),iq hi.2.1 hj.2.1 (Option.some.inj h0.2),iq hi.2.2 hj.2.2 h1.2]
  |_=>exact absurd (congrArg fR (List.cons.inj h).1) (by show ascii _≠ascii _;decide +kernel)
 | .until_ p s i a,j,hi,hj,h=>by
  cases j with
  |nil=>cases h
  |until_ q t i' b=>
   have h1:=List.cons.inj h
   have h0:=ST.mk.inj h1.1
   have h3:=List.cons.inj (List.cons.inj h0.1).2
   show Stats.until_ 0 s.bare i.bare a.bare=.until_ 0 t.bare i'.bare b.bare
   rw[jr hi.1 hj.1 (PT.tx.inj h3.1),iq hi.2.1 hj.2.1 (Option.some.inj h0.2),iq hi.2.2 hj.2.2 h1.2]
  |_=>exact absurd (congrArg fR (List.cons.inj h).1) (by show ascii _≠ascii _;decide +kernel)
 | .work p n s a,j,hi,hj,h=>by
  cases j with
  |nil=>cases h
  |work q m t b=>
   have h1:=List.cons.inj h
   have h2:=List.cons.inj (ST.mk.inj h1.1).1
   have h3:=List.cons.inj h2.2
   show Stats.work 0 n (s.map LsWale.Sum.bare) a.bare=.work 0 m (t.map LsWale.Sum.bare) b.bare
   rw[dG h3.1,Jx hi.1 hj.1 h3.2,iq hi.2 hj.2 h1.2]
  |_=>exact absurd (congrArg fR (List.cons.inj h).1) (by show ascii _≠ascii _;decide +kernel)
 | .off p a,j,hi,hj,h=>by
  cases j with
  |nil=>cases h
  |off q b=>
   have h1:=List.cons.inj h
   show Stats.off 0 a.bare=.off 0 b.bare
   rw[iq (i:=a) (j:=b) hi hj h1.2]
  |_=>exact absurd (congrArg fR (List.cons.inj h).1) (by show ascii _≠ascii _;decide +kernel)
theorem ir:∀i:Stats,bA i.bare=bA i
 | .nil=>rfl
 | .on p s rd a=>by
  show ST.mk (tw _::PT.tx (norm s.bare)::sD rd) none::bA a.bare=_
  rw[jm,ir a];rfl
 | .row p sd l a=>by
  show ST.mk (tw _::(nQ sd++[PT.li (bY l.bare)])) none::bA a.bare=_
  rw[mC,ir a];rfl
 | .again p s i a=>by
  show ST.mk [tw _,PT.tx (norm s.bare)] (some (bA i.bare))::bA a.bare=_
  rw[jm,ir a,ir i];rfl
 | .until_ p s i a=>by
  show ST.mk [tw _,PT.tx (norm s.bare)] (some (bA i.bare))::bA a.bare=_
  rw[jm,ir a,ir i];rfl
 | .work p n s a=>by
  show ST.mk (tw _::tw n::lA (s.map LsWale.Sum.bare)) none::bA a.bare=_
  rw[HV,ir a];rfl
 | .off p a=>by
  show _::bA a.bare=_
  rw[ir a];rfl
theorem An:∀{l m:List Bytes},l.map t1=m.map t1->l=m
 |[],[],_=>rfl
 |[],_::_,h=>by cases h
 |_::_,[],h=>by cases h
 |x::l,y::m,h=>by
  have h1:=List.cons.inj h
  rw[dG (List.cons.inj h1.1).1,An h1.2]
theorem DD:∀{l m:List LsWale.Sum},(∀x∈l,dS x)->(∀x∈m,dS x)->(l.map fun x=>[PT.tx (norm x)])=(m.map fun x=>[PT.tx (norm x)])->l.map LsWale.Sum.bare=m.map LsWale.Sum.bare
 |[],[],_,_,_=>rfl
 |[],_::_,_,_,h=>by cases h
 |_::_,[],_,_,h=>by cases h
 |x::l,y::m,hl,hm,h=>by
  have h1:=List.cons.inj h
  have e:=jr (hl x (List.mem_cons_self ..)) (hm y (List.mem_cons_self ..)) (PT.tx.inj (List.cons.inj h1.1).1)
  rw[List.map_cons,List.map_cons,e,DD (fun z hz=>hl z (List.mem_cons_of_mem _ hz)) (fun z hz=>hm z (List.mem_cons_of_mem _ hz)) h1.2]
theorem HD:∀l:List LsWale.Sum,((l.map LsWale.Sum.bare).map fun x=>[PT.tx (norm x)])=l.map fun x=>[PT.tx (norm x)]
 |[]=>rfl
 |x::l=>by
  rw[List.map_cons,List.map_cons,List.map_cons,jm,HD l]
theorem OX{x y:Head}(hx:gi x)(hy:gi y)(h:dO x=dO y):x.bare=y.bare:=by
 cases x with
 |sizes l=>
  cases y with
  |sizes m=>
   have e:=An (PT.li.inj (List.cons.inj (List.cons.inj (ST.mk.inj h).1).2).1)
   rw[e]
  |_=>exact absurd (congrArg fR h) (by show ascii _≠ascii _;decide +kernel)
 |yarns l=>
  cases y with
  |yarns m=>
   have e:=An (PT.li.inj (List.cons.inj (List.cons.inj (ST.mk.inj h).1).2).1)
   rw[e]
  |_=>exact absurd (congrArg fR h) (by show ascii _≠ascii _;decide +kernel)
 |let_ n l=>
  cases y with
  |let_ k m=>
   have h1:=List.cons.inj (List.cons.inj (ST.mk.inj h).1).2
   have h2:=PT.li.inj (List.cons.inj (List.cons.inj h1.2).2).1
   show Head.let_ n (l.map LsWale.Sum.bare)=.let_ k (m.map LsWale.Sum.bare)
   rw[dG h1.1,DD hx hy h2]
  |_=>exact absurd (congrArg fR h) (by show ascii _≠ascii _;decide +kernel)
 |word n l=>
  cases y with
  |word k m=>
   have h1:=List.cons.inj (List.cons.inj (ST.mk.inj h).1).2
   have h2:=PT.li.inj (List.cons.inj (List.cons.inj h1.2).2).1
   show Head.word n l.bare=.word k m.bare
   rw[dG h1.1,nL hx hy h2]
  |_=>exact absurd (congrArg fR h) (by show ascii _≠ascii _;decide +kernel)
 |block n l=>
  cases y with
  |block k m=>
   have h0:=ST.mk.inj h
   have h1:=List.cons.inj (List.cons.inj h0.1).2
   show Head.block n l.bare=.block k m.bare
   rw[dG h1.1,iq hx hy (Option.some.inj h0.2)]
  |_=>exact absurd (congrArg fR h) (by show ascii _≠ascii _;decide +kernel)
theorem JE(x:Head):dO x.bare=dO x:=by
 cases x with
 |sizes l=>rfl
 |yarns l=>rfl
 |let_ n l=>
  show ST.mk [tw _,tw n,tw _,PT.li ((l.map LsWale.Sum.bare).map fun x=>[PT.tx (norm x)])] none=_
  rw[HD];rfl
 |word n l=>
  show ST.mk [tw _,tw n,tw _,PT.li (bY l.bare)] none=_
  rw[mC];rfl
 |block n l=>
  show ST.mk _ (some (bA l.bare))=_
  rw[ir];rfl
def vC:List Bytes:=["sizes","yarns","let","word","block"].map ascii
theorem FN(x:Head):fR (dO x)∈vC:=by
 cases x<;>exact(by show ascii _∈vC;decide +kernel)
theorem Dv{i:Stats}{x:ST}{r:List ST}(h:bA i=x::r):fR x∉vC:=by
 cases i with
 |nil=>cases h
 |_=>
  rw[<-(List.cons.inj h).1]
  show ascii _∉vC
  decide +kernel
theorem HP:∀{l m:List Head}{i j:Stats},(∀h∈l,gi h)->(∀h∈m,gi h)->eV i->eV j->l.map dO++bA i=m.map dO++bA j->l.map Head.bare=m.map Head.bare/\i.bare=j.bare
 |[],[],i,j,_,_,hi,hj,h=>⟨rfl,iq hi hj h⟩
 |[],y::m,i,j,_,_,_,_,h=>absurd (FN y) (Dv (i:=i) h)
 |x::l,[],i,j,_,_,_,_,h=>absurd (FN x) (Dv (i:=j) h.symm)
 |x::l,y::m,i,j,hl,hm,hi,hj,h=>by
  have h1:=List.cons.inj h
  have e:=OX (hl x (List.mem_cons_self ..)) (hm y (List.mem_cons_self ..)) h1.1
  obtain⟨e1,e2⟩:=HP (fun z hz=>hl z (List.mem_cons_of_mem _ hz)) (fun z hz=>hm z (List.mem_cons_of_mem _ hz)) hi hj h1.2
  exact⟨by rw[List.map_cons,List.map_cons,e,e1],e2⟩
theorem Fd:∀l:List Head,(l.map Head.bare).map dO=l.map dO
 |[]=>rfl
 |x::l=>by rw[List.map_cons,List.map_cons,List.map_cons,JE,Fd l]
theorem De(p:Pattern):jf p.bare=jf p:=by
 show _::((p.heads.map Head.bare).map dO++bA p.stats.bare)=_
 rw[Fd,ir];rfl
theorem Mq{p q:Pattern}(hp:wC p)(hq:wC q):jf p=jf q↔p.bare=q.bare:=by
 constructor
 ·intro h
  have h1:=List.cons.inj h
  have e:=dG (List.cons.inj (List.cons.inj (ST.mk.inj h1.1).1).2).1
  obtain⟨e1,e2⟩:=HP hp.heads hq.heads hp.stats hq.stats h1.2
  show Pattern.mk p.name (p.heads.map Head.bare) p.stats.bare=⟨q.name,q.heads.map Head.bare,q.stats.bare⟩
  rw[e,e1,e2]
 ·intro h
  rw[<-De p,h,De]
end Wale
end
section
set_option Elab.async false
set_option linter.all false
set_option maxRecDepth 100000
set_option maxHeartbeats 2000000
namespace Wale
open PySem PySem.Spec PyProof.Rows L2
open Wm
open LsWale (Fault)
variable {P:Program}{w:World}{K:PySem.W.Frag}{mg:Str->Option Value}{base:Heap}{a:Ad}
def lR(b c:Bytes):List Int:=match LsWale.readAll b with
 | .error f=>[-(f.kind:Int),(f.place:Int)]
 | .ok x=>match LsWale.readAll c with
  | .error f=>[-(f.kind:Int),(f.place:Int)]
  | .ok y=>[if x.1.bare=y.1.bare then 1 else 0]
def wG(K:PySem.W.Frag):Sp:=fun vs H Q _=>∃(t u:Addr)(b c:Bytes),vs=[.ref t,.ref u]/\aM K H t (nums b)/\aM K H u (nums c)/\b.length<=20000/\c.length<=20000/\∀(H':Hp)(p:Addr),H' p=some (.lst ((lR b c).map V.int))->Q (.ref p) H'
theorem vF:aI ["t","u","one","other","fault"] ["t","u"] (aC s_same):=⟨rfl,rfl,rfl,by decide +kernel,rfl,by decide +kernel,by decide +kernel⟩
theorem Ii(T:Tx P w K mg a):ax P w K mg base aV 200 a.lX a.nM ["t","u"] (wG K):=by
 refine aG.ok (k:=199) T.same.fn vF (fun vs H Q E h=>?_) (fun cdv A outer s H vs Q E hr h=>?_)
 ·obtain⟨_,_,_,_,rfl,_⟩:=h;rfl
 obtain⟨t,u,b,c,rfl,hS,hS',hl,hl',q⟩:=h
 refine⟨_,aj (Iz (i:=4) (n:="fault") vF.nd rfl rfl rfl T.eQ.1 T.eQ.2.2 rfl rfl rfl
   (fun E pn Ec hp=>aj (a3 (i:=2) vF.nd rfl (Or.inl rfl) (aN T.yY (C5 T) (hr.mono (by first|decide|lia)) hp (aa (pv 0) ag))) (ak (a3 (i:=3) vF.nd rfl (Or.inl rfl) (aN T.yY (C5 T) (hr.mono (by first|decide|lia)) hp (aa (pv 1) ag)))))
   (fun ea pn=>ak (aF (QO (MU T) (Ij (hr.mono (by first|decide|lia))) rfl T.refusal.at_ T.refusal.fn.kp T.refusal.bd (aa (pv 4) ag)))))
  (ak (aF (bT (aa (Bs (cY (aN T.xH (Ep T (B3 T 9)) (hr.mono (by first|decide|lia)) aU (aa (pv 2) (aa (pv 3) ag)))) bF bF) ag)))),?_⟩
 refine(eX _ rfl ⟨t,b,rfl,hS,hl,fun k pl hk=>?_,fun x e hx H' v H0 sm md=>?_⟩)
 ·intro C d H' hE hd
  obtain⟨xc,xg,sub,nk,np⟩:=hE
  refine⟨C,d,rfl,rfl,xc,sub,fun ea oe vs pn hp hc hdd hv=>?_⟩
  refine(eX _ rfl ⟨ea,oe,C,d,_,_,vs,rfl,hp,hc,hdd,hv,hd,xg,nk,np,fun H2 p e2=>q H2 p ?_⟩)
  unfold lR
  rw[hk]
  exact e2
 refine(eX _ rfl ⟨u,c,rfl,sm.seq hS',hl',fun k pl hk=>?_,fun y e' hy H2 v2 H1 sm2 md2=>?_⟩)
 ·intro C d H' hE hd
  obtain⟨xc,xg,sub,nk,np⟩:=hE
  refine⟨C,d,rfl,rfl,xc,sub,fun ea oe vs pn hp hc hdd hv=>?_⟩
  refine(eX _ rfl ⟨ea,oe,C,d,_,_,vs,rfl,hp,hc,hdd,hv,hd,xg,nk,np,fun H2 p e2=>q H2 p ?_⟩)
  unfold lR
  rw[hx,hk]
  exact e2
 have iff:=Mq (Ey hx) (Ey hy)
 have m1:Md (bM (cQ a 9)) H0 H2 v (jf x):=(md.same (LX a) sm2).map fun F z=>z
 have m2:Md (bM (cQ a 9)) H1 H2 v2 (jf y):=md2.map fun F z=>z
 have ea:lR b c=[if x.bare=y.bare then 1 else 0]:=by
  unfold lR
  rw[hx,hy]
 rw[ea]at q
 refine(eX _ rfl (eX _ rfl ⟨v,v2,jf x,jf y,H0,H1,rfl,m1,m2,fun bb H3 hb s3=>(eX _ rfl ?_)⟩))
 cases bb with
 |true=>
  rw[if_pos (iff.mp (hb.mp rfl))]at q
  exact bu ⟨(by show 1<=sizeLine;decide),fun p hp=>q _ p aB⟩
 |false=>
  rw[if_neg (fun z=>by have:=hb.mpr (iff.mpr z);cases this)]at q
  exact bD ⟨(by show 1<=sizeLine;decide),fun p hp=>q _ p aB⟩
end Wale
end
section
set_option Elab.async false
set_option linter.all false
set_option maxRecDepth 100000
set_option maxHeartbeats 4000000
namespace L2
open PySem PySem.Spec PyProof.Rows
theorem KU{K:PySem.W.Frag}{C:Addr}{nm q:Str}{N:Addr}{bs bm:List Value}{sn sub ab col dd k0 k1 k2 k3 k5}(e:K.lookup C=some (excClassObj nm q C N bs bm true sn sub ab col dd k0 k1 k2 k3 k5 "Exception.__new__"))(h:iz bm=true):eN K C=true:=by
 unfold eN
 rw[e]
 unfold excClassObj
 simp[h]
section
variable {K:PySem.W.Frag}{x qual:Str}{st:Stmt}{f:Addr}{fd:FuncData}
theorem aG.b1{p0:Str}(F:aG K x qual st f fd)(e:∀(kV doc pm:Value)(an:Option Addr)(cdv ct:Value)(u0:Value),bindArgs (PySem.W.fnOf x qual (mh st) (iB st) (aC st) .none kV doc pm an cdv ct) ⟨[u0],[]⟩=pure (([p0]:List Str).zip [u0]):=by intros;rfl):Binds K fd [p0] []:=
 F.binds fun a b c d g h us hl=>match us,hl with|[u0],_=>e a b c d g h u0
theorem aG.b2{p0 p1:Str}(F:aG K x qual st f fd)(e:∀(kV doc pm:Value)(an:Option Addr)(cdv ct:Value)(u0 u1:Value),bindArgs (PySem.W.fnOf x qual (mh st) (iB st) (aC st) .none kV doc pm an cdv ct) ⟨[u0,u1],[]⟩=pure (([p0,p1]:List Str).zip [u0,u1]):=by intros;rfl):Binds K fd [p0,p1] []:=
 F.binds fun a b c d g h us hl=>match us,hl with|[u0,u1],_=>e a b c d g h u0 u1
theorem aG.b3{p0 p1 p2:Str}(F:aG K x qual st f fd)(e:∀(kV doc pm:Value)(an:Option Addr)(cdv ct:Value)(u0 u1 u2:Value),bindArgs (PySem.W.fnOf x qual (mh st) (iB st) (aC st) .none kV doc pm an cdv ct) ⟨[u0,u1,u2],[]⟩=pure (([p0,p1,p2]:List Str).zip [u0,u1,u2]):=by intros;rfl):Binds K fd [p0,p1,p2] []:=
 F.binds fun a b c d g h us hl=>match us,hl with|[u0,u1,u2],_=>e a b c d g h u0 u1 u2
theorem aG.b4{p0 p1 p2 p3:Str}(F:aG K x qual st f fd)(e:∀(kV doc pm:Value)(an:Option Addr)(cdv ct:Value)(u0 u1 u2 u3:Value),bindArgs (PySem.W.fnOf x qual (mh st) (iB st) (aC st) .none kV doc pm an cdv ct) ⟨[u0,u1,u2,u3],[]⟩=pure (([p0,p1,p2,p3]:List Str).zip [u0,u1,u2,u3]):=by intros;rfl):Binds K fd [p0,p1,p2,p3] []:=
 F.binds fun a b c d g h us hl=>match us,hl with|[u0,u1,u2,u3],_=>e a b c d g h u0 u1 u2 u3
theorem aG.b6{p0 p1 p2 p3 p4 p5:Str}(F:aG K x qual st f fd)(e:∀(kV doc pm:Value)(an:Option Addr)(cdv ct:Value)(u0 u1 u2 u3 u4 u5:Value),bindArgs (PySem.W.fnOf x qual (mh st) (iB st) (aC st) .none kV doc pm an cdv ct) ⟨[u0,u1,u2,u3,u4,u5],[]⟩=pure (([p0,p1,p2,p3,p4,p5]:List Str).zip [u0,u1,u2,u3,u4,u5]):=by intros;rfl):Binds K fd [p0,p1,p2,p3,p4,p5] []:=
 F.binds fun a b c d g h us hl=>match us,hl with|[u0,u1,u2,u3,u4,u5],_=>e a b c d g h u0 u1 u2 u3 u4 u5
end
end L2
namespace Wale
open PySem PySem.Spec PyProof.Rows L2
open PySem.W (nsIn findIn keepIn isFn)
section
variable (K:PySem.W.Frag)(x:Str)(c F f:Addr)
abbrev TD(st:Stmt)(f:Addr)(fd:FuncData):Prop:=nsIn K mainGlobals x=some (some (.ref f))/\aG K x x st f fd
abbrev MD(x qual:Str)(st:Stmt)(f:Addr)(fd:FuncData):Prop:=findIn K (.ref c) x=some (some (.ref f))/\isFn K (.ref f)=true/\aG K x qual st f fd
abbrev XK:Prop:=∃nm q N bs bm sn sub ab col dd k0 k1 k2 k3 k5,K.lookup c=some (excClassObj nm q c N bs bm true sn sub ab col dd k0 k1 k2 k3 k5 "Exception.__new__")/\iz bm=true
abbrev RK:Prop:=nsIn K mainGlobals x=some (some (.ref c))/\PySem.W.readsIn K c (.type "type")=true/\PySem.W.specialIn K (.ref c) "__getattribute__"=some (some (.builtin "type.__getattribute__"))/\PySem.W.findCls K (.ref c) (.type "type") "__init__"=some (.val (.ref f))/\XK K c
abbrev EK:Prop:=nsIn K mainGlobals x=some (some (.ref c))/\XK K c/\findIn K (.ref c) "__init__"=some (some (.ref f))/\isFn K (.ref f)=true/\keepIn K (.ref c)=true/\findIn K (.ref c) "__setattr__"=some (some (.builtin "object.__setattr__"))/\findIn K (.ref c) "__getattribute__"=some (some (.builtin "BaseException.__getattribute__"))/\findIn K (.ref c) "__getattr__"=some none/\PySem.W.mroIn K c (.ref F)=some true/\findIn K (.ref c) "kind"=some none/\findIn K (.ref c) "place"=some none
abbrev OK:Prop:=nsIn K mainGlobals x=some (some (.ref c))/\PySem.W.plainGet K c Str.empty=true/\PySem.W.hasDictIn K c=true/\PySem.W.plainOver K c=true/\findIn K (.ref c) "__setattr__"=some (some (.builtin "object.__setattr__"))/\PySem.W.makesIn K c=true/\findIn K (.ref c) "__init__"=some (some (.ref f))/\isFn K (.ref f)=true/\keepIn K (.ref c)=true
abbrev NI(n:Int):Prop:=∃t,nsIn K mainGlobals x=some (some (.int n t))
abbrev NS(s:Str):Prop:=∃t,nsIn K mainGlobals x=some (some (.str s t))
abbrev NT(l:List Str)(t:Addr):Prop:=nsIn K mainGlobals x=some (some (.ref t))/\∃oc vs n sl,K.lookup t=some ⟨.type "tuple",oc,.seq (List.toArray vs) n,sl⟩/\aW (l.map V.str) vs
end
section
variable {K:PySem.W.Frag}{h:Heap}{mg:Str->Option Value}{x:Str}{c F f t:Addr}{fd:FuncData}{st:Stmt}{ps:List Str}(X:K.In h)(G:h.Ns mainGlobals mg)
include X G
theorem td(e:TD K x st f fd)(b:Binds K fd ps []):a6 K mg x st ps f fd:=⟨e.2,b,PySem.W.mg_of X G e.1⟩
theorem xk(e:XK K c):eN K c=true:=by
 obtain⟨_,_,_,_,_,_,_,_,_,_,_,_,_,_,_,l,t⟩:=e
 exact KU l t
theorem rk(e:RK K x c f)(kp:keepIn K (.ref f)=true):mg x=some (.ref c)/\zW K c "__init__" f/\eN K c=true:=⟨PySem.W.mg_of X G e.1,⟨e.2.1,e.2.2.1,e.2.2.2.1,kp⟩,xk X G e.2.2.2.2⟩
theorem ek(e:EK K x c F f):iw K mg x c F f:=by
 obtain⟨a,k,b,d,g,i,j,l,m,n,o⟩:=e
 exact⟨PySem.W.mg_of X G a,⟨xk X G k,b,d,g,i⟩,⟨xk X G k,j,l⟩,m,n,o⟩
theorem ow(e:OK K x c f):OwnCls K mg x c f:=by
 obtain⟨a,k,b,d,g,i,j,l,m⟩:=e
 exact⟨PySem.W.mg_of X G a,⟨k,b,d,g⟩,⟨i,j,l,m⟩⟩
theorem ni{n:Int}(e:NI K x n):dR mg x n:=e.elim fun t z=>⟨t,PySem.W.mg_of X G z⟩
theorem nS{n:Str}(e:NS K x n):eZ mg x n:=e.elim fun t z=>⟨t,PySem.W.mg_of X G z⟩
theorem nt{l:List Str}(e:NT K x l t)(hl:l.length<=100):iY K mg x l t:=by
 obtain⟨a,oc,vs,n,sl,k,v⟩:=e
 refine⟨PySem.W.mg_of X G a,fun H=>.inr ⟨_,_,_,k,rfl,rfl,?_,v⟩⟩
 have:=v.length
 rw[List.length_map]at this
 rw[List.size_toArray,<-this]
 exact Nat.le_trans hl (by decide)
end
theorem all_mk{P:Program}{w:World}{K:PySem.W.Frag}{h:Heap}{mg:Str->Option Value}{lX:Addr}{rQ si oA i4 oY jP jb nD jS px kW rL rq r0 qN su pX sZ qb q5 pO r9 qc sA lL oE o4 sP pK sU pP qr tK rW rX pJ nT kL oV sk sW rS lI nj qa mT pT rO pM rB qB lN kK lx lz lU kD ly lV kZ kP lQ kU mv pE pN sI oO so rV lg kM pF mK pj nV oB oP oX mS m3 oK:Addr}{sX qi pG kY nG nP kC ou kr nc sG rK qR sM rZ rC tf rT qJ rD sf sQ sE qj lj oi o7 tF p8 qQ qA qk tj sJ rE rb oG l9 oM tD pY tu lK m8 rg nU rA pR tH nM qh qI oN mF nO nW o5 o6 mW mZ m4 oj pb nH pf mX tJ qV mI qZ qu oh n0 nE oo pC m5 oQ pd pI pD mV mD:FuncData}{dP cy cA cu de sV kS sF oW nJ mG sN ck bQ bh:Addr}{kj o3 oa oS j6 uG uV t9:Addr}{u0k0 u0k1 u0k2 u0k3 u0k4 u0k5 u0k6 u0v0 u0v1 u0v2 u0v3 u0v4 u0v5 u0v6 u1k0 u1k1 u1k2 u1k3 u1k4 u1k5 u1k6 u1k7 u1k8 u1k9 u1k10 u1k11 u1k12 u1v0 u1v1 u1v2 u1v3 u1v4 u1v5 u1v6 u1v7 u1v8 u1v9 u1v10 u1v11 u1v12:Tok}{u0x0 u0x1 u0x2 u0x3 u0x4 u0x5 u0x6 u1x0 u1x1 u1x2 u1x3 u1x4 u1x5 u1x6 u1x7 u1x8 u1x9 u1x10 u1x11 u1x12:Int}{u0e u1e:Nat}(X:K.In h)(G:h.Ns mainGlobals mg)(hfa:mg "same"=some (.ref lX))
  (h0:RK K "Fault" de lU)
  (h1:EK K "ByteFault" sV de kD)
  (h2:EK K "NumberFault" kS de ly)
  (h3:EK K "WantFault" sF de lV)
  (h4:EK K "UntoldFault" oW de kZ)
  (h5:EK K "AgainFault" nJ de kP)
  (h6:EK K "BoundFault" mG de lQ)
  (h7:EK K "SumsFault" sN de kU)
  (h8:OK K "Stat" dP lN)
  (h9:findIn K (.ref dP) "phrase"=some none)
  (h10:findIn K (.ref dP) "body"=some none)
  (h11:OK K "Listed" cy kK)
  (h12:findIn K (.ref cy) "phrases"=some none)
  (h13:OK K "Bracketed" cA lx)
  (h14:findIn K (.ref cA) "listed"=some none)
  (h15:OK K "Chain" cu lz)
  (h16:findIn K (.ref cu) "level"=some none)
  (h17:findIn K (.ref cu) "first"=some none)
  (h18:findIn K (.ref cu) "pairs"=some none)
  (h19:OK K "Names" ck mv)
  (h20:findIn K (.ref ck) "told"=some none)
  (h21:findIn K (.ref ck) "standing"=some none)
  (h22:findIn K (.ref ck) "amounts"=some none)
  (h23:OK K "Token" bQ lg)
  (h24:findIn K (.ref bQ) "kind"=some none)
  (h25:findIn K (.ref bQ) "text"=some none)
  (h26:findIn K (.ref bQ) "number"=some none)
  (h27:findIn K (.ref bQ) "place"=some none)
  (h28:findIn K (.ref bQ) "after"=some none)
  (h29:OK K "Reader" bh kM)
  (h30:findIn K (.ref bh) "source"=some none)
  (h31:findIn K (.ref bh) "ahead"=some none)
  (h32:findIn K (.ref bh) "after"=some none)
  (h33:findIn K (.ref bh) "depth"=some none)
  (h34:findIn K (.ref bh) "names"=some none)
  (h35:TD K "chained" zI rQ sX)
  (h36:TD K "has_level" zj si qi)
  (h37:TD K "same_stats" xm oA pG)
  (h38:TD K "same_stat" xQ i4 kY)
  (h39:TD K "same_body" yK oY nG)
  (h40:TD K "same_phrase" xw jP nP)
  (h41:TD K "same_part" Bn jb kC)
  (h42:TD K "same_listed" xC nD ou)
  (h43:TD K "same_sum" BH jS kr)
  (h44:TD K "same_chain" zF px nc)
  (h45:TD K "same_pair" Bv kW sG)
  (h46:TD K "all_same" yl rL rK)
  (h47:TD K "token_at" Bu rq qR)
  (h48:TD K "skip_blanks" wQ r0 sM)
  (h49:TD K "skip_comment" Ba qN rZ)
  (h50:TD K "word_token" Ao su rC)
  (h51:TD K "digit_word_at" zg pX tf)
  (h52:TD K "number_token" Ag sZ rT)
  (h53:TD K "spelled" uS qb qJ)
  (h54:TD K "sign_of" y8 q5 rD)
  (h55:TD K "is_letter" xG pO sf)
  (h56:TD K "is_digit" Br r9 sQ)
  (h57:TD K "is_letter_digit_or_underscore" xB qc sE)
  (h58:TD K "begins_sum" xJ sA qj)
  (h59:TD K "read_sum" xZ lL lj)
  (h60:TD K "read_product" yM oE oi)
  (h61:TD K "read_factor" yL o4 o7)
  (h62:TD K "read_pattern" ye sP tF)
  (h63:TD K "read_head" Az pK p8)
  (h64:TD K "read_sizes" zC sU qQ)
  (h65:TD K "read_yarns" BI pP qA)
  (h66:TD K "read_new_names" xj qr qk)
  (h67:TD K "read_new_name" yT tK tj)
  (h68:TD K "read_let" yX rW sJ)
  (h69:TD K "read_word" Bt rX rE)
  (h70:TD K "read_block" AY pJ rb)
  (h71:TD K "read_braces" wR nT oG)
  (h72:TD K "read_stats" wN kL l9)
  (h73:TD K "read_stat" wL oV oM)
  (h74:TD K "read_on" xS sk tD)
  (h75:TD K "read_row" yB sW pY)
  (h76:TD K "read_work" xi rS tu)
  (h77:TD K "read_row_items" A9 lI lK)
  (h78:TD K "read_row_item" Aj nj m8)
  (h79:TD K "read_goal" xn qa rg)
  (h80:TD K "read_unit" x4 mT nU)
  (h81:TD K "read_crossing" BJ pT rA)
  (h82:TD K "read_crossing_number" Bf rO pR)
  (h83:TD K "read_lone" Ai pM tH)
  (h84:TD K "same" s_same lX nM)
  (h85:TD K "read_text" yW rB qh)
  (h86:TD K "refusal" BD qB qI)
  (h87:aG K "__init__" "Stat.__init__" AN lN oN)
  (h88:aG K "__init__" "Listed.__init__" yC kK mF)
  (h89:aG K "__init__" "Bracketed.__init__" BC lx nO)
  (h90:aG K "__init__" "Chain.__init__" yh lz nW)
  (h91:aG K "__init__" "Fault.__init__" AX lU o5)
  (h92:aG K "__init__" "ByteFault.__init__" Bz kD o6)
  (h93:aG K "__init__" "NumberFault.__init__" zw ly mW)
  (h94:aG K "__init__" "WantFault.__init__" zA lV mZ)
  (h95:aG K "__init__" "UntoldFault.__init__" yw kZ m4)
  (h96:aG K "__init__" "AgainFault.__init__" xf kP oj)
  (h97:aG K "__init__" "BoundFault.__init__" zi lQ pb)
  (h98:aG K "__init__" "SumsFault.__init__" zP kU nH)
  (h99:aG K "__init__" "Names.__init__" zR mv pf)
  (h100:MD K ck "amount" "Names.amount" zZ pE mX)
  (h101:MD K ck "check_new" "Names.check_new" A7 pN tJ)
  (h102:MD K ck "check_room" "Names.check_room" yk sI qV)
  (h103:MD K ck "tell" "Names.tell" Bm oO mI)
  (h104:MD K ck "check_told" "Names.check_told" xq so qZ)
  (h105:MD K ck "stand" "Names.stand" AU rV qu)
  (h106:aG K "__init__" "Token.__init__" yc lg oh)
  (h107:aG K "__init__" "Reader.__init__" AW kM n0)
  (h108:MD K bh "peek" "Reader.peek" zK pF nE)
  (h109:MD K bh "step" "Reader.step" Ac mK oo)
  (h110:MD K bh "skip" "Reader.skip" yp pj pC)
  (h111:MD K bh "want" "Reader.want" AI nV m5)
  (h112:MD K bh "want_kind" "Reader.want_kind" ym oB oQ)
  (h113:MD K bh "enter" "Reader.enter" zQ oP pd)
  (h114:MD K bh "leave" "Reader.leave" yx oX pI)
  (h115:MD K bh "want_new_name" "Reader.want_new_name" yO mS pD)
  (h116:MD K bh "want_told_name" "Reader.want_told_name" Av m3 mV)
  (h117:MD K bh "want_standing_name" "Reader.want_standing_name" yH oK mD)
  (h118:NI K "SUM_LEVEL" 1)
  (h119:NI K "PRODUCT_LEVEL" 2)
  (h120:NS K "SIZES" "sizes")
  (h121:NS K "YARNS" "yarns")
  (h122:NS K "NUMBERS" "numbers")
  (h123:NS K "WORDS" "words")
  (h124:NS K "BLOCKS" "blocks")
  (h125:NS K "MARKERS" "markers")
  (h126:NS K "HOLDERS" "holders")
  (h127:nsIn K mainGlobals "BOUNDS"=some (some (.ref kj)))
  (h128:K.lookup kj=some ⟨.type "dict",none,.dict #[⟨u0x0,.str "sizes" u0k0,.int 16 u0v0⟩,⟨u0x1,.str "yarns" u0k1,.int 16 u0v1⟩,⟨u0x2,.str "numbers" u0k2,.int 256 u0v2⟩,⟨u0x3,.str "words" u0k3,.int 64 u0v3⟩,⟨u0x4,.str "blocks" u0k4,.int 64 u0v4⟩,⟨u0x5,.str "markers" u0k5,.int 64 u0v5⟩,⟨u0x6,.str "holders" u0k6,.int 16 u0v6⟩] u0e,#[]⟩)
  (h129:u0x0=dy w (.inr "sizes")/\u0x1=dy w (.inr "yarns")/\u0x2=dy w (.inr "numbers")/\u0x3=dy w (.inr "words")/\u0x4=dy w (.inr "blocks")/\u0x5=dy w (.inr "markers")/\u0x6=dy w (.inr "holders"))
  (h130:(kj==sysModules)=false)
  (h131:NS K "END" "end")
  (h132:NS K "NAME" "name")
  (h133:NS K "NUMBER" "number")
  (h134:NS K "FIXED" "fixed")
  (h135:NT K "DIGIT_WORDS" ["k2tog","k3tog","p2tog","m1l","m1r"] o3)
  (h136:NI K "LONGEST_DIGIT_WORD" 5)
  (h137:NT K "PLAIN" ["k","p","ktbl","ptbl","yo","k2tog","k3tog","ssk","sssk","p2tog","ssp","cdd","kfb","pfb","kp","m1l","m1r","sl","slf","pso","even","co","bo"] oa)
  (h138:NT K "OTHER_WORDS" ["pattern","sizes","yarns","let","word","block","on","round","row","rs","ws","repeat","until","work","off","to","end","last","mark","cl","cr","hold","take","yarn","pass","clear","turn","fasten"] oS)
  (h139:nsIn K mainGlobals "SIGNS"=some (some (.ref j6)))
  (h140:K.lookup j6=some ⟨.type "dict",none,.dict #[⟨u1x0,.int 40 u1k0,.str "(" u1v0⟩,⟨u1x1,.int 41 u1k1,.str ")" u1v1⟩,⟨u1x2,.int 42 u1k2,.str "*" u1v2⟩,⟨u1x3,.int 43 u1k3,.str "+" u1v3⟩,⟨u1x4,.int 44 u1k4,.str "," u1v4⟩,⟨u1x5,.int 45 u1k5,.str "-" u1v5⟩,⟨u1x6,.int 47 u1k6,.str "/" u1v6⟩,⟨u1x7,.int 59 u1k7,.str ";" u1v7⟩,⟨u1x8,.int 61 u1k8,.str "=" u1v8⟩,⟨u1x9,.int 91 u1k9,.str "[" u1v9⟩,⟨u1x10,.int 93 u1k10,.str "]" u1v10⟩,⟨u1x11,.int 123 u1k11,.str "{" u1v11⟩,⟨u1x12,.int 125 u1k12,.str "}" u1v12⟩] u1e,#[]⟩)
  (h141:u1x0=dy w (.inl 40)/\u1x1=dy w (.inl 41)/\u1x2=dy w (.inl 42)/\u1x3=dy w (.inl 43)/\u1x4=dy w (.inl 44)/\u1x5=dy w (.inl 45)/\u1x6=dy w (.inl 47)/\u1x7=dy w (.inl 59)/\u1x8=dy w (.inl 61)/\u1x9=dy w (.inl 91)/\u1x10=dy w (.inl 93)/\u1x11=dy w (.inl 123)/\u1x12=dy w (.inl 125))
  (h142:(j6==sysModules)=false)
  (h143:NS K "LETTERS" "abcdefghijklmnopqrstuvwxyz")
  (h144:NS K "DIGITS" "0123456789")
  (h145:NI K "LINE_END" 10)
  (h146:NI K "BLANK" 32)
  (h147:NI K "HASH" 35)
  (h148:NI K "ZERO" 48)
  (h149:NI K "NINE" 57)
  (h150:NI K "UNDERSCORE" 95)
  (h151:NI K "LOWER_A" 97)
  (h152:NI K "LOWER_Z" 122)
  (h153:NI K "FIRST_BYTE" 32)
  (h154:NI K "LAST_BYTE" 126)
  (h155:NI K "LARGEST_NUMBER" 1048576)
  (h156:NT K "HEADS" ["sizes","yarns","let","word","block"] uG)
  (h157:NT K "STATS" ["on","row","repeat","until","work","off"] uV)
  (h158:NT K "LONES" ["take","yarn","mark","pass","clear","turn","fasten"] t9)
  (h159:NI K "LARGEST_CROSSING" 16)
  (h160:NI K "DEEPEST" 8)
  (h161:NI K "LONGEST_TEXT" 16384)
  (h162:PySem.W.specialIn K (.builtin "object.__class__") "__get__"=some (some (.builtin "getset_descriptor.__get__")))
  (h163:PySem.W.takesIn K (.builtin "object.__class__")=some true)
  (h164:jW K cA)
  (h165:PySem.W.kitOne K (.type "str") (.ref cA)=some false)
  (h166:PySem.W.kitOne K (.ref cA) (.ref cA)=some true)
  (h167:PySem.W.kitOne K (.ref cA) (.ref cu)=some false)
  (h168:PySem.W.kitOne K (.ref cA) (.ref cy)=some false)
  (h169:jc K cA)
  (h170:jW K cu)
  (h171:PySem.W.kitOne K (.type "str") (.ref cu)=some false)
  (h172:PySem.W.kitOne K (.ref cu) (.ref cA)=some false)
  (h173:PySem.W.kitOne K (.ref cu) (.ref cu)=some true)
  (h174:PySem.W.kitOne K (.ref cu) (.ref cy)=some false)
  (h175:jc K cu)
  (h176:jW K cy)
  (h177:PySem.W.kitOne K (.type "str") (.ref cy)=some false)
  (h178:PySem.W.kitOne K (.ref cy) (.ref cA)=some false)
  (h179:PySem.W.kitOne K (.ref cy) (.ref cu)=some false)
  (h180:PySem.W.kitOne K (.ref cy) (.ref cy)=some true)
  (h181:jc K cy)
  (h182:PySem.W.nsIn K mainGlobals "len"=some none)
  (h183:PySem.W.nsIn K mainGlobals "min"=some none)
  (h184:PySem.W.nsIn K mainGlobals "isinstance"=some none)
  (h185:PySem.W.nsIn K mainGlobals "str"=some none)
  (h186:PySem.W.nsIn K mainGlobals "zip"=some none)
  :∃fd:FuncData,(∀(s:Shared)(us:List Value),us.length=(["t","u"]:List Str).length->BindsTo s fd ⟨us,[]⟩ ((["t","u"]:List Str).zip us))/\∀base:Heap,K.In base->base.Ns mainGlobals mg->ax P w K mg base aV 200 lX fd ["t","u"] (wG K):=by
 have M_BOUNDS:mf P w K kj [(.inr "sizes",.int 16),(.inr "yarns",.int 16),(.inr "numbers",.int 256),(.inr "words",.int 64),(.inr "blocks",.int 64),(.inr "markers",.int 64),(.inr "holders",.int 16)]:=by
  refine⟨fun hh XX=>⟨[(.inr "sizes",.int 16 u0v0),(.inr "yarns",.int 16 u0v1),(.inr "numbers",.int 256 u0v2),(.inr "words",.int 64 u0v3),(.inr "blocks",.int 64 u0v4),(.inr "markers",.int 64 u0v5),(.inr "holders",.int 16 u0v6)],(.cons ⟨rfl,⟨_,rfl⟩⟩ (.cons ⟨rfl,⟨_,rfl⟩⟩ (.cons ⟨rfl,⟨_,rfl⟩⟩ (.cons ⟨rfl,⟨_,rfl⟩⟩ (.cons ⟨rfl,⟨_,rfl⟩⟩ (.cons ⟨rfl,⟨_,rfl⟩⟩ (.cons ⟨rfl,⟨_,rfl⟩⟩ .nil))))))),_,_,_,XX _ _ h128,⟨rfl,rfl,rfl⟩,rfl,?_,(.cons rfl rfl (.cons rfl rfl (.cons rfl rfl (.cons rfl rfl (.cons rfl rfl (.cons rfl rfl (.cons rfl rfl .nil))))))),(show([.inr "sizes",.inr "yarns",.inr "numbers",.inr "words",.inr "blocks",.inr "markers",.inr "holders"]:List Key).Nodup by decide +kernel)⟩,h130⟩
  intro e he
  simp only[List.mem_toArray,List.mem_cons,List.not_mem_nil,or_false]at he
  obtain⟨z0,z1,z2,z3,z4,z5,z6⟩:=h129
  rcases he with rfl|rfl|rfl|rfl|rfl|rfl|rfl
  ·exact⟨.inr "sizes",rfl,z0⟩
  ·exact⟨.inr "yarns",rfl,z1⟩
  ·exact⟨.inr "numbers",rfl,z2⟩
  ·exact⟨.inr "words",rfl,z3⟩
  ·exact⟨.inr "blocks",rfl,z4⟩
  ·exact⟨.inr "markers",rfl,z5⟩
  ·exact⟨.inr "holders",rfl,z6⟩
 have M_SIGNS:mf P w K j6 [(.inl 40,.str "("),(.inl 41,.str ")"),(.inl 42,.str "*"),(.inl 43,.str "+"),(.inl 44,.str ","),(.inl 45,.str "-"),(.inl 47,.str "/"),(.inl 59,.str ";"),(.inl 61,.str "="),(.inl 91,.str "["),(.inl 93,.str "]"),(.inl 123,.str "{"),(.inl 125,.str "}")]:=by
  refine⟨fun hh XX=>⟨[(.inl 40,.str "(" u1v0),(.inl 41,.str ")" u1v1),(.inl 42,.str "*" u1v2),(.inl 43,.str "+" u1v3),(.inl 44,.str "," u1v4),(.inl 45,.str "-" u1v5),(.inl 47,.str "/" u1v6),(.inl 59,.str ";" u1v7),(.inl 61,.str "=" u1v8),(.inl 91,.str "[" u1v9),(.inl 93,.str "]" u1v10),(.inl 123,.str "{" u1v11),(.inl 125,.str "}" u1v12)],(.cons ⟨rfl,⟨_,rfl⟩⟩ (.cons ⟨rfl,⟨_,rfl⟩⟩ (.cons ⟨rfl,⟨_,rfl⟩⟩ (.cons ⟨rfl,⟨_,rfl⟩⟩ (.cons ⟨rfl,⟨_,rfl⟩⟩ (.cons ⟨rfl,⟨_,rfl⟩⟩ (.cons ⟨rfl,⟨_,rfl⟩⟩ (.cons ⟨rfl,⟨_,rfl⟩⟩ (.cons ⟨rfl,⟨_,rfl⟩⟩ (.cons ⟨rfl,⟨_,rfl⟩⟩ (.cons ⟨rfl,⟨_,rfl⟩⟩ (.cons ⟨rfl,⟨_,rfl⟩⟩ (.cons ⟨rfl,⟨_,rfl⟩⟩ .nil))))))))))))),_,_,_,XX _ _ h140,⟨rfl,rfl,rfl⟩,rfl,?_,(.cons rfl rfl (.cons rfl rfl (.cons rfl rfl (.cons rfl rfl (.cons rfl rfl (.cons rfl rfl (.cons rfl rfl (.cons rfl rfl (.cons rfl rfl (.cons rfl rfl (.cons rfl rfl (.cons rfl rfl (.cons rfl rfl .nil))))))))))))),(show([.inl 40,.inl 41,.inl 42,.inl 43,.inl 44,.inl 45,.inl 47,.inl 59,.inl 61,.inl 91,.inl 93,.inl 123,.inl 125]:List Key).Nodup by decide +kernel)⟩,h142⟩
  intro e he
  simp only[List.mem_toArray,List.mem_cons,List.not_mem_nil,or_false]at he
  obtain⟨z0,z1,z2,z3,z4,z5,z6,z7,z8,z9,z10,z11,z12⟩:=h141
  rcases he with rfl|rfl|rfl|rfl|rfl|rfl|rfl|rfl|rfl|rfl|rfl|rfl|rfl
  ·exact⟨.inl 40,rfl,z0⟩
  ·exact⟨.inl 41,rfl,z1⟩
  ·exact⟨.inl 42,rfl,z2⟩
  ·exact⟨.inl 43,rfl,z3⟩
  ·exact⟨.inl 44,rfl,z4⟩
  ·exact⟨.inl 45,rfl,z5⟩
  ·exact⟨.inl 47,rfl,z6⟩
  ·exact⟨.inl 59,rfl,z7⟩
  ·exact⟨.inl 61,rfl,z8⟩
  ·exact⟨.inl 91,rfl,z9⟩
  ·exact⟨.inl 93,rfl,z10⟩
  ·exact⟨.inl 123,rfl,z11⟩
  ·exact⟨.inl 125,rfl,z12⟩
 have T:Tx P w K mg ⟨rQ,sX,si,qi,oA,pG,i4,kY,oY,nG,jP,nP,jb,kC,nD,ou,jS,kr,px,nc,kW,sG,rL,rK,rq,qR,r0,sM,qN,rZ,su,rC,pX,tf,sZ,rT,qb,qJ,q5,rD,pO,sf,r9,sQ,qc,sE,sA,qj,lL,lj,oE,oi,o4,o7,sP,tF,pK,p8,sU,qQ,pP,qA,qr,qk,tK,tj,rW,sJ,rX,rE,pJ,rb,nT,oG,kL,l9,oV,oM,sk,tD,sW,pY,rS,tu,lI,lK,nj,m8,qa,rg,mT,nU,pT,rA,rO,pR,pM,tH,lX,nM,rB,qh,qB,qI,lN,oN,kK,mF,lx,nO,lz,nW,lU,o5,kD,o6,ly,mW,lV,mZ,kZ,m4,kP,oj,lQ,pb,kU,nH,mv,pf,pE,mX,pN,tJ,sI,qV,oO,mI,so,qZ,rV,qu,lg,oh,kM,n0,pF,nE,mK,oo,pj,pC,nV,m5,oB,oQ,oP,pd,oX,pI,mS,pD,m3,mV,oK,mD,dP,cy,cA,cu,de,sV,kS,sF,oW,nJ,mG,sN,ck,bQ,bh,kj,o3,oa,oS,j6,uG,uV,t9⟩:=⟨td X G h35 h35.2.b4,
  td X G h36 h36.2.b2,
  td X G h37 h37.2.b2,
  td X G h38 h38.2.b2,
  td X G h39 h39.2.b2,
  td X G h40 h40.2.b2,
  td X G h41 h41.2.b2,
  td X G h42 h42.2.b2,
  td X G h43 h43.2.b2,
  td X G h44 h44.2.b2,
  td X G h45 h45.2.b2,
  td X G h46 h46.2.b3,
  td X G h47 h47.2.b2,
  td X G h48 h48.2.b2,
  td X G h49 h49.2.b2,
  td X G h50 h50.2.b2,
  td X G h51 h51.2.b2,
  td X G h52 h52.2.b2,
  td X G h53 h53.2.b1,
  td X G h54 h54.2.b1,
  td X G h55 h55.2.b1,
  td X G h56 h56.2.b1,
  td X G h57 h57.2.b1,
  td X G h58 h58.2.b1,
  td X G h59 h59.2.b1,
  td X G h60 h60.2.b1,
  td X G h61 h61.2.b1,
  td X G h62 h62.2.b1,
  td X G h63 h63.2.b1,
  td X G h64 h64.2.b2,
  td X G h65 h65.2.b2,
  td X G h66 h66.2.b2,
  td X G h67 h67.2.b2,
  td X G h68 h68.2.b1,
  td X G h69 h69.2.b1,
  td X G h70 h70.2.b1,
  td X G h71 h71.2.b1,
  td X G h72 h72.2.b1,
  td X G h73 h73.2.b1,
  td X G h74 h74.2.b1,
  td X G h75 h75.2.b1,
  td X G h76 h76.2.b1,
  td X G h77 h77.2.b1,
  td X G h78 h78.2.b1,
  td X G h79 h79.2.b1,
  td X G h80 h80.2.b1,
  td X G h81 h81.2.b1,
  td X G h82 h82.2.b1,
  td X G h83 h83.2.b1,
  td X G h84 h84.2.b2,
  td X G h85 h85.2.b1,
  td X G h86 h86.2.b1,
  ⟨h87,h87.b3⟩,
  ⟨h88,h88.b2⟩,
  ⟨h89,h89.b2⟩,
  ⟨h90,h90.b3⟩,
  ⟨h91,h91.b3⟩,
  ⟨h92,h92.b2⟩,
  ⟨h93,h93.b2⟩,
  ⟨h94,h94.b2⟩,
  ⟨h95,h95.b2⟩,
  ⟨h96,h96.b2⟩,
  ⟨h97,h97.b2⟩,
  ⟨h98,h98.b2⟩,
  ⟨h99,h99.b1⟩,
  ⟨h100.2.2,h100.2.2.b2,⟨h100.1,h100.2.1,h100.2.2.kp⟩⟩,
  ⟨h101.2.2,h101.2.2.b3,⟨h101.1,h101.2.1,h101.2.2.kp⟩⟩,
  ⟨h102.2.2,h102.2.2.b3,⟨h102.1,h102.2.1,h102.2.2.kp⟩⟩,
  ⟨h103.2.2,h103.2.2.b3,⟨h103.1,h103.2.1,h103.2.2.kp⟩⟩,
  ⟨h104.2.2,h104.2.2.b3,⟨h104.1,h104.2.1,h104.2.2.kp⟩⟩,
  ⟨h105.2.2,h105.2.2.b3,⟨h105.1,h105.2.1,h105.2.2.kp⟩⟩,
  ⟨h106,h106.b6⟩,
  ⟨h107,h107.b2⟩,
  ⟨h108.2.2,h108.2.2.b1,⟨h108.1,h108.2.1,h108.2.2.kp⟩⟩,
  ⟨h109.2.2,h109.2.2.b1,⟨h109.1,h109.2.1,h109.2.2.kp⟩⟩,
  ⟨h110.2.2,h110.2.2.b2,⟨h110.1,h110.2.1,h110.2.2.kp⟩⟩,
  ⟨h111.2.2,h111.2.2.b2,⟨h111.1,h111.2.1,h111.2.2.kp⟩⟩,
  ⟨h112.2.2,h112.2.2.b2,⟨h112.1,h112.2.1,h112.2.2.kp⟩⟩,
  ⟨h113.2.2,h113.2.2.b2,⟨h113.1,h113.2.1,h113.2.2.kp⟩⟩,
  ⟨h114.2.2,h114.2.2.b2,⟨h114.1,h114.2.1,h114.2.2.kp⟩⟩,
  ⟨h115.2.2,h115.2.2.b2,⟨h115.1,h115.2.1,h115.2.2.kp⟩⟩,
  ⟨h116.2.2,h116.2.2.b2,⟨h116.1,h116.2.1,h116.2.2.kp⟩⟩,
  ⟨h117.2.2,h117.2.2.b2,⟨h117.1,h117.2.1,h117.2.2.kp⟩⟩,
  rk X G h0 h91.kp,
  ek X G h1,
  ek X G h2,
  ek X G h3,
  ek X G h4,
  ek X G h5,
  ek X G h6,
  ek X G h7,
  ow X G h8,
  h9,
  h10,
  ow X G h11,
  h12,
  ow X G h13,
  h14,
  ow X G h15,
  h16,
  h17,
  h18,
  ow X G h19,
  h20,
  h21,
  h22,
  ow X G h23,
  h24,
  h25,
  h26,
  h27,
  h28,
  ow X G h29,
  h30,
  h31,
  h32,
  h33,
  h34,
  ni X G h118,
  ni X G h119,
  nS X G h120,
  nS X G h121,
  nS X G h122,
  nS X G h123,
  nS X G h124,
  nS X G h125,
  nS X G h126,
  ⟨PySem.W.mg_of X G h127,M_BOUNDS⟩,
  nS X G h131,
  nS X G h132,
  nS X G h133,
  nS X G h134,
  nt X G h135 (by decide),
  ni X G h136,
  nt X G h137 (by decide),
  nt X G h138 (by decide),
  ⟨PySem.W.mg_of X G h139,M_SIGNS⟩,
  nS X G h143,
  nS X G h144,
  ni X G h145,
  ni X G h146,
  ni X G h147,
  ni X G h148,
  ni X G h149,
  ni X G h150,
  ni X G h151,
  ni X G h152,
  ni X G h153,
  ni X G h154,
  ni X G h155,
  nt X G h156 (by decide),
  nt X G h157 (by decide),
  nt X G h158 (by decide),
  ni X G h159,
  ni X G h160,
  ni X G h161,
  h162,
  h163,
  h164,
  h165,
  h166,
  h167,
  h168,
  h169,
  h170,
  h171,
  h172,
  h173,
  h174,
  h175,
  h176,
  h177,
  h178,
  h179,
  h180,
  h181,
  PySem.W.mg_none_of X G h182,
  PySem.W.mg_none_of X G h183,
  PySem.W.mg_none_of X G h184,
  PySem.W.mg_none_of X G h185,
  PySem.W.mg_none_of X G h186⟩
 obtain⟨oc,od,kV,doc,pm,an,cdv,ct,osl,e,l,c⟩:=h84.2.ex
 refine⟨_,fun s us hu=>match us,hu with|[u0,u1],_=>?_,fun base _ _=>Ii T⟩
 show BindsTo s nM _ _
 rw[e]
 exact .of_eq rfl
end Wale
end
section
set_option Elab.async false
set_option linter.all false
set_option maxRecDepth 100000
set_option maxHeartbeats 2000000
namespace Wale
open PySem PySem.Spec PyProof.Rows L2
open LsWale (Fault)
def dM(t:List Int):Bytes:=t.map fun(n:Int)=>UInt8.ofNat n.toNat
theorem ES(t:List Int):(dM t).length=t.length:=by simp[dM]
theorem yo:∀(t:List Int),NeutralIO.bytes t=true->nums (dM t)=t.map V.int
 |[],_=>rfl
 |n::r,h=>by
  unfold NeutralIO.bytes at h
  rw[List.all_cons,Bool.and_eq_true,Bool.and_eq_true,decide_eq_true_eq,decide_eq_true_eq]at h
  have hr:=yo r (by unfold NeutralIO.bytes;exact h.2)
  have e:(((UInt8.ofNat n.toNat).toNat:Nat):Int)=n:=by
   rw[UInt8.toNat_ofNat']
   have:=h.1.1;have:=h.1.2
   lia
  unfold nums dM at hr ⊢
  rw[List.map_cons,List.map_cons,List.map_cons,hr,e]
theorem Jm(t u:List Int)(h:NeutralIO.bytes t=true)(h':NeutralIO.bytes u=true):WaleNeutral.callOf [[3],t,u]=some (.same (dM t) (dM u)):=by
 show(WaleNeutral.text? t>>=fun x=>WaleNeutral.text? u>>=fun y=>some (LsWaleCalls.Call.same x y))=_
 unfold WaleNeutral.text?
 rw[if_pos h,if_pos h']
 rfl
theorem M0(t u:List Int)(h:NeutralIO.bytes t=true)(h':NeutralIO.bytes u=true):PyWqbabh.same t u=lR (dM t) (dM u):=by
 unfold PyWqbabh.same WaleNeutral.f
 rw[Jm t u h h']
 have e:LsWaleCalls.answer (.same (dM t) (dM u))=match LsWale.readAll (dM t)with
   | .error e=>LsWaleCalls.told e
   | .ok p=>match LsWale.readAll (dM u)with
    | .error e=>LsWaleCalls.told e
    | .ok q=>LsWaleCalls.says (if p.1.bare=q.1.bare then 1 else 0):=by
  show(match LsWale.read (dM t)with
   | .error e=>LsWaleCalls.told e
   | .ok p=>match LsWale.read (dM u)with
    | .error e=>LsWaleCalls.told e
    | .ok q=>LsWaleCalls.says (if p.bare=q.bare then 1 else 0))=_
  unfold LsWale.read
  cases LsWale.readAll (dM t)with
  |error f=>rfl
  |ok x=>cases LsWale.readAll (dM u)<;>rfl
 dsimp only
 rw[e]
 unfold lR
 cases LsWale.readAll (dM t)with
 |error f=>rfl
 |ok x=>cases LsWale.readAll (dM u)<;>rfl
theorem G7(t:List Int)(h:PySem.W.Codec.inList 0 20000 (PySem.W.Codec.inInt 0 255) t=true):NeutralIO.bytes t=true/\t.length<=20000:=by
 unfold PySem.W.Codec.inList PySem.W.Codec.inLen PySem.W.Codec.inNat at h
 rw[Bool.and_eq_true,Bool.and_eq_true,decide_eq_true_eq]at h
 exact⟨h.2,of_decide_eq_true h.1.2⟩
theorem Nr:∀(K:PySem.W.Frag)(H:Hp)(xs:List V)(a:PySem.W.Codec.denoteAll PySem.Challenge.rw_waletexts_s03_same.args),om H->PySem.W.Codec.withinAll PySem.Challenge.rw_waletexts_s03_same.args a=true->PySem.W.Codec.app PySem.Challenge.rw_waletexts_s03_same.args PySem.Challenge.rw_waletexts_s03_same.asked a=true->fz K H xs (PySem.W.Codec.encAll PySem.Challenge.rw_waletexts_s03_same.args a)->
   wG K xs H (fun v H'=>Dw K H' v (PySem.Challenge.rw_waletexts_s03_same.ret.enc (PySem.W.Codec.app PySem.Challenge.rw_waletexts_s03_same.args PySem.Challenge.rw_waletexts_s03_same.f a))) fun _ _ _=>False:=by
 intro K H xs a _ hw _ hx
 obtain⟨t,u,z⟩:=a
 change List Int at t
 change List Int at u
 have hw0:(PySem.W.Codec.inList 0 20000 (PySem.W.Codec.inInt 0 255) t&&(PySem.W.Codec.inList 0 20000 (PySem.W.Codec.inInt 0 255) u&&_))=true:=hw
 have hw1:=(Bool.and_eq_true_iff.mp hw0).1
 have hw2:=(Bool.and_eq_true_iff.mp (Bool.and_eq_true_iff.mp hw0).2).1
 have hb:=G7 t hw1
 have hb2:=G7 u hw2
 have hx':fz K H xs [.list (t.map PySem.W.WData.int),.list (u.map PySem.W.WData.int)]:=hx
 cases hx' with
 |cons h1 h2=>
  cases h2 with
  |cons h3 h4=>
   cases h4
   cases h1 with
   |lst hs hd=>
    cases h3 with
    |lst hs2 hd2=>
     rename_i ad ys ad2 ys2
     have ey:=yi t ys hd
     have ey2:=yi u ys2 hd2
     refine⟨ad,ad2,dM t,dM u,rfl,?_,?_,by rw[ES];exact hb.2,by rw[ES];exact hb2.2,fun H' p hp=>?_⟩
     ·rw[yo t hb.1,<-ey];exact hs
     ·rw[yo u hb2.1,<-ey2];exact hs2
     ·show Dw K H' (.ref p) (.list ((PyWqbabh.same t u).map PySem.W.WData.int))
      rw[M0 t u hb.1 hb2.1]
      exact .lst (aM.of hp) (B8 _)
end Wale
end
section
set_option Elab.async false
set_option maxRecDepth 100000
open PySem PySem.W PyProof.Rows
def PySem.W.Fast.tw17988650488089987923:=0
def PySem.W.Fast.tw2735619936131038002:=0
def PySem.W.Fast.tw15136716077440332336:=0
def PySem.W.Fast.tw5414877471581926115:=0
def PySem.W.Fast.tw3996895809737295030:=0
def PySem.W.Fast.tw2586059374581549021:=0
def PySem.W.Fast.tw16612251243034877161:=0
def PySem.W.Fast.tw13233979268892802049:=0
def PySem.W.Fast.tw7400024101725673274:=0
def PySem.W.Fast.tw7692400090716669204:=0
def PySem.W.Fast.tw14469170810868233629:=0
def PySem.W.Fast.tw14734312486223542597:=0
def PySem.W.Fast.tw13741459834900410133:=0
def PySem.W.Fast.tw817974584602221031:=0
def PySem.W.Fast.tw7498741315235468703:=0
def PySem.W.Fast.tw11040683562901236472:=0
def PySem.W.Fast.tw10302749040253217036:=0
def PySem.W.Fast.tw5415272143922809670:=0
def PySem.W.Fast.tw3877513931287505875:=0
def PySem.W.Fast.tw15837111282716874320:=0
def PySem.W.Fast.tw925232256948397655:=0
def PySem.W.Fast.tw9313062291575769300:=0
def PySem.W.Fast.tw16392885400036683877:=0
def PySem.W.Fast.tw10776609781388120128:=0
def PySem.W.Fast.tw7556452463503597432:=0
def PySem.W.Fast.tw16153996115232324146:=0
def PySem.W.Fast.tw17201274431602959538:=0
def PySem.W.Fast.tw263280809811665778:=0
def PySem.W.Fast.tw6655458440997536353:=0
def PySem.W.Fast.tw16513646218228596185:=0
def PySem.W.Fast.tw13644398131087505681:=0
def PySem.W.Fast.tw18065911294934344545:=0
def PySem.W.Fast.tw9500793132941672518:=0
def PySem.W.Fast.tw9232266502478371233:=0
def PySem.W.Fast.tw11949760505291879640:=0
def PySem.W.Fast.tw2442017037286523805:=0
def PySem.W.Fast.tw4896945661591189407:=0
def PySem.W.Fast.tw1599767737783914938:=0
def PySem.W.Fast.tw17372098715181211073:=0
def PySem.W.Fast.tw4948799098265718069:=0
def PySem.W.Fast.tw12121975996959325054:=0
def PySem.W.Fast.tw6747295039960200628:=0
def PySem.W.Fast.tw782818973113972323:=0
def PySem.W.Fast.tw15354674070331299158:=0
def PySem.W.Fast.tw18273260443729745816:=0
def PySem.W.Fast.tw7732297397307875005:=0
def PySem.W.Fast.tw8970972069795395477:=0
def PySem.W.Fast.tw1813941111059109104:=0
def PySem.W.Fast.tw1111209378372264386:=0
def PySem.W.Fast.tw16442359791068180162:=0
def PySem.W.Fast.tw3419533468221693910:=0
def PySem.W.Fast.tw3222886193427018786:=0
def PySem.W.Fast.tw8989675880990568018:=0
def PySem.W.Fast.tw7565837284215507668:=0
def PySem.W.Fast.tw12265918022774786879:=0
def PySem.W.Fast.tw8614948114143693859:=0
def PySem.W.Fast.tw13252132957362337349:=0
def PySem.W.Fast.tw16221394302665421779:=0
def PySem.W.Fast.tw18131794084963062009:=0
def PySem.W.Fast.tw2873408467140640167:=0
def PySem.W.Fast.tw4319264602069641309:=0
def PySem.W.Fast.tw13949038661931758437:=0
def PySem.W.Fast.tw1011246255628844990:=0
def PySem.W.Fast.tw13033054499906042879:=0
def PySem.W.Fast.tw14962626887631192794:=0
def PySem.W.Fast.tw2804464433370493437:=0
def PySem.W.Fast.tw4165026823267221621:=0
def PySem.W.Fast.tw8178669413287930418:=0
def PySem.W.Fast.tw14693897829270472328:=0
def PySem.W.Fast.tw6371946308247550330:=0
def PySem.W.Fast.tw14113875928957206725:=0
def PySem.W.Fast.tw13867098571837656228:=0
def PySem.W.Fast.tw169638603601018082:=0
def PySem.W.Fast.tw7435062498295036299:=0
def PySem.W.Fast.tw6373551845857621759:=0
def PySem.W.Fast.tw11041267222148373599:=0
def PySem.W.Fast.tw10462835232536964664:=0
def PySem.W.Fast.tw5005082501321521031:=0
def PySem.W.Fast.tw10216312441582719381:=0
def PySem.W.Fast.tw574240264010189223:=0
def PySem.W.Fast.tw3595439259685355409:=0
def PySem.W.Fast.tw16399577703944273195:=0
def PySem.W.Fast.tw9221407432049665526:=0
def PySem.W.Fast.tw5151777188031799761:=0
def PySem.W.Fast.tw13187618073667447844:=0
def PySem.W.Fast.tw4687576544174407379:=0
def PySem.W.Fast.tw9266664235671245015:=0
def PySem.W.Fast.tw11777693055792372034:=0
def PySem.W.Fast.tw17705114696177979325:=0
def PySem.W.Fast.tw16601782797332616949:=0
def PySem.W.Fast.tw10553487422008038435:=0
def PySem.W.Fast.tw16447946095123106370:=0
def PySem.W.Fast.tw210093199873558858:=0
def PySem.W.Fast.tw634440775486062637:=0
def PySem.W.Fast.tw3815224301402331888:=0
def PySem.W.Fast.tw10663645595057715535:=0
def PySem.W.Fast.tw3451047428781904902:=0
def PySem.W.Fast.tw18431069883861449317:=0
def PySem.W.Fast.tw11765290328917509415:=0
def PySem.W.Fast.tw13100164176315697896:=0
def PySem.W.Fast.tw3801877355505476714:=0
def PySem.W.Fast.tw11118099808776068791:=0
def PySem.W.Fast.tw4863343980841048323:=0
def PySem.W.Fast.tw7056113942350931614:=0
def PySem.W.Fast.tw3519695682821391671:=0
def PySem.W.Fast.tw6727439653198170636:=0
def PySem.W.Fast.tw10503763340677678252:=0
def PySem.W.Fast.tw7086481035483119871:=0
def PySem.W.Fast.tw6655841181032454998:=0
def PySem.W.Fast.tw13433496471775253348:=0
def PySem.W.Fast.tw11909459471750529390:=0
def PySem.W.Fast.tw14548057057250252300:=0
def PySem.W.Fast.tw15403639838161805536:=0
def PySem.W.Fast.tw7398825553624761371:=0
def PySem.W.Fast.tw5232755847427705361:=0
def PySem.W.Fast.tw14198668061984299885:=0
def PySem.W.Fast.tw18137907926369226802:=0
def PySem.W.Fast.tw3354549394014776416:=0
def PySem.W.Fast.tw1546601456547104743:=0
def PySem.W.Fast.tw15852147073235975911:=0
def PySem.W.Fast.tw7787527699886381730:=0
def PySem.W.Fast.tw16189663191901456470:=0
def PySem.W.Fast.tw18296345161510477141:=0
def PySem.W.Fast.tw3129436440915500264:=0
def PySem.W.Fast.tw3287616009940953696:=0
def PySem.W.Fast.tw1983507514073378657:=0
def PySem.W.Fast.tw9537605032913716173:=0
def PySem.W.Fast.tw16558252593917293775:=0
def PySem.W.Fast.tw11126809650154111873:=0
def PySem.W.Fast.tw12672591941237404483:=0
def PySem.W.Fast.tw837463746411694372:=0
def PySem.W.Fast.tw4812049809286992214:=0
def PySem.W.Fast.tw9548804260927761549:=0
def PySem.W.Fast.tw3606639949419776105:=0
def PySem.W.Fast.tw530696895931276217:=0
def PySem.W.Fast.tw2880351573062082729:=0
def PySem.W.Fast.tw15478217739189558287:=0
def PySem.W.Fast.tw12265039454426409726:=0
def PySem.W.Fast.tw8593027505926068859:=0
def PySem.W.Fast.tw3768068493462839731:=0
def PySem.W.Fast.tw12365155563296225318:=0
def PySem.W.Fast.tw17717781578371115569:=0
def PySem.W.Fast.tw14980738838292173021:=0
def PySem.W.Fast.tw17023415561834601938:=0
def PySem.W.Fast.tw16576238233152030499:=0
def PySem.W.Fast.tw14402635450490125127:=0
def PySem.W.Fast.tw8348609582595542268:=0
def PySem.W.Fast.tw4703879553584891172:=0
def PySem.W.Fast.tw17628371225981783573:=0
def PySem.W.Fast.tw11637490817788192676:=0
def PySem.W.Fast.tw9853144298672695768:=0
def PySem.W.Fast.tw9634299523599179369:=0
def PySem.W.Fast.tw7383612925730286623:=0
def PySem.W.Fast.tw6302399112181571540:=0
def PySem.W.Fast.tw9797640818514513213:=0
def PySem.W.Fast.tw4669899020528198847:=0
def PySem.W.Fast.tw13205046145455153808:=0
def PySem.W.Fast.tw3209059741324375198:=0
def PySem.W.Fast.tw2776255680759538456:=0
def PySem.W.Fast.tw7095969366257428327:=0
def PySem.W.Fast.tw10421204467175533622:=0
def PySem.W.Fast.tw16528288651687894796:=0
def PySem.W.Fast.tw16504248164236769574:=0
def PySem.W.Fast.tw3294511809476786528:=0
def PySem.W.Fast.tw16175756924420101777:=0
def PySem.W.Fast.tw6157204725317381389:=0
def PySem.W.Fast.tw7244418316334455909:=0
def PySem.W.Fast.tw13625555580681809354:=0
def PySem.W.Fast.tw16377418808919833714:=0
def PySem.W.Fast.tw15767804065847993989:=0
def PySem.W.Fast.tw3740208825186102460:=0
def PySem.W.Fast.tw8094092011181221473:=0
def PySem.W.Fast.tw7205394298243764857:=0
def PySem.W.Fast.tw9183617244503678917:=0
def PySem.W.Fast.tw2080260879174625556:=0
def PySem.W.Fast.tw15090369306112034227:=0
def PySem.W.Fast.tw15969720232089837458:=0
def PySem.W.Fast.tw16157097856356761559:=0
def PySem.W.Fast.tw12703974514635355532:=0
def PySem.W.Fast.tw10175783950389761027:=0
def PySem.W.Fast.tw7014989446240186972:=0
def PySem.W.Fast.tw2463753230894186436:=0
def PySem.W.Fast.tw8435530647116442186:=0
def PySem.W.Fast.tw9119574435707878343:=0
def PySem.W.Fast.tw16667434042918553746:=0
def PySem.W.Fast.tw14929809858150257649:=0
def PySem.W.Fast.tw12034814678212976969:=0
def PySem.W.Fast.tw2816437795536746917:=0
def PySem.W.Fast.tw5673677870375937782:=0
def PySem.W.Fast.tw2893221837247557480:=0
def PySem.W.Fast.tw2785415455521803398:=0
def PySem.W.Fast.tw11690078334289182833:=0
def PySem.W.Fast.tw4422966794379832652:=0
def PySem.W.Fast.tw10377357119196762434:=0
def PySem.W.Fast.tw5961194812189948830:=0
def PySem.W.Fast.tw12324770676228963183:=0
def PySem.W.Fast.tw1012999806844521546:=0
def PySem.W.Fast.tw8498211481465545167:=0
def PySem.W.Fast.tw9869531518756540742:=0
def PySem.W.Fast.tw17086858999022132374:=0
def PySem.W.Fast.tw16801884986357402587:=0
def PySem.W.Fast.tw4800705311026863393:=0
def PySem.W.Fast.tw9771814159360469114:=0
def PySem.W.Fast.tw1218592897203782851:=0
def PySem.W.Fast.tw16127563334630756202:=0
def PySem.W.Fast.tw16034042266706806938:=0
def PySem.W.Fast.tw13312388454559087523:=0
def PySem.W.Fast.tw6264014662620426983:=0
def PySem.W.Fast.tw16869199208602660665:=0
def PySem.W.Fast.tw14685441661603018101:=0
def PySem.W.Fast.tw13723065120080326812:=0
def PySem.W.Fast.tw10924250473538537845:=0
def PySem.W.Fast.tw4544881134945113228:=0
def PySem.W.Fast.tw10565195271075336135:=0
def PySem.W.Fast.tw700540158194470505:=0
def PySem.W.Fast.tw5121469829000029307:=0
def PySem.W.Fast.tw16753884031710448071:=0
def PySem.W.Fast.tw12557606194713604449:=0
def PySem.W.Fast.tw13796192095849298951:=0
def PySem.W.Fast.tw88065769492789573:=0
def PySem.W.Fast.tw15891502570001186672:=0
def PySem.W.Fast.tw11180519168429122230:=0
def PySem.W.Fast.tw7809907393255860743:=0
def PySem.W.Fast.tw7435592501174025414:=0
def PySem.W.Fast.tw16510241590910830640:=0
def PySem.W.Fast.tw16910363114204670994:=0
def PySem.W.Fast.tw5468832710468571783:=0
def PySem.W.Fast.tw15472182375649928022:=0
def PySem.W.Fast.tw2030719768084055670:=0
def PySem.W.Fast.tw7266190646081623965:=0
def PySem.W.Fast.tw15025380208666737514:=0
def PySem.W.Fast.tw2605622342864655858:=0
def PySem.W.Fast.tw13938660837427551575:=0
def PySem.W.Fast.tw16746586112227159051:=0
def PySem.W.Fast.tw16018713301028897783:=0
def PySem.W.Fast.tw6910532474735337756:=0
def PySem.W.Fast.tw14869619888580048633:=0
def PySem.W.Fast.tw267409225697090853:=0
def PySem.W.Fast.tw1605056044352514084:=0
def PySem.W.Fast.tw14071596554282494519:=0
def PySem.W.Fast.tw2493709568258296258:=0
def PySem.W.Fast.tw7036450735047313113:=0
def PySem.W.Fast.tw9545704098854247094:=0
def PySem.W.Fast.tw12706934718405433245:=0
def PySem.W.Fast.tw16771677441444256193:=0
def PySem.W.Fast.tw3303432977495659076:=0
def PySem.W.Fast.tw4530436562331041230:=0
def PySem.W.Fast.tw7005459748834121659:=0
def PySem.W.Fast.tw7565412274600717464:=0
def PySem.W.Fast.tw14721471877256533194:=0
def PySem.W.Fast.tw6147026230346049846:=0
def PySem.W.Fast.tw14583477824304226785:=0
def PySem.W.Fast.tw4802398443960262716:=0
def PySem.W.Fast.tw3716866789065798960:=0
def PySem.W.Fast.tw6923352780431003374:=0
def PySem.W.Fast.tw8674006322964389102:=0
def PySem.W.Fast.tw1881801919472269314:=0
def PySem.W.Fast.tw5680186295286786310:=0
def PySem.W.Fast.tw14194544629796700252:=0
def PySem.W.Fast.tw12941747830072903294:=0
def PySem.W.Fast.tw6543252010786997022:=0
def PySem.W.Fast.tw3791364559236760556:=0
def PySem.W.Fast.tw5181651194976876519:=0
def PySem.W.Fast.tw7491114711243884845:=0
def PySem.W.Fast.tw422625553043407228:=0
def PySem.W.Fast.tw5812737192053401329:=0
def PySem.W.Fast.tw12886189363168451372:=0
def PySem.W.Fast.tw17438909062376580056:=0
def PySem.W.Fast.tw5875670172340688435:=0
def PySem.W.Fast.tw13707429272129718473:=0
def PySem.W.Fast.tw8873404239562585086:=0
def PySem.W.Fast.tw13402553365744074553:=0
def PySem.W.Fast.tw9866311629069470439:=0
def PySem.W.Fast.tw10728744108057375875:=0
def PySem.W.Fast.tw7115045538416914446:=0
def PySem.W.Fast.tw10903410890152540508:=0
def PySem.W.Fast.tw18227514335857645963:=0
def PySem.W.Fast.tw14338761039210674031:=0
def PySem.W.Fast.tw3963769369814419011:=0
def PySem.W.Fast.tw8630351540077907412:=0
def PySem.W.Fast.tw10734640839834167566:=0
def PySem.W.Fast.tw16113587145141884692:=0
def PySem.W.Fast.tw2305722123950631388:=0
def PySem.W.Fast.tw8325422500039701476:=0
def PySem.W.Fast.tw3324944350635994006:=0
def PySem.W.Fast.tw15969694691563291468:=0
def PySem.W.Fast.tw10273293774537511276:=0
def PySem.W.Fast.tw17577292583371009391:=0
def PySem.W.Fast.tw4270880599185163092:=0
def PySem.W.Fast.tw17681643156347539454:=0
def PySem.W.Fast.tw5449378176083832278:=0
def PySem.W.Fast.tw18132206413908489734:=0
def PySem.W.Fast.tw1661722910077558421:=0
def PySem.W.Fast.tw6840273506299682988:=0
def PySem.W.Fast.tw17473448886060103193:=0
def PySem.W.Fast.tw16567703898054804964:=0
def PySem.W.Fast.tw14290369013238828808:=0
def PySem.W.Fast.tw3714108555019265204:=0
set_option maxHeartbeats 0 in
theorem PySem.Challenge.cw_waletexts_s03_same_holds : PySem.Challenge.rw_waletexts_s03_same.Holds := by
 w_on;k_headS;(case hw=>exact⟨[.list [],.list []],by decide +kernel,by decide +kernel⟩)
 k_fillS
 refine L2.L9 (r:=PySem.Challenge.rw_waletexts_s03_same) (k:=200) (CX:=L2.aV) (ps:=["t","u"]) (sp:=Wale.wG) (by decide +kernel) rfl rfl ⟨rfl,by decide,by decide⟩ (fun w h Y=>PySem.W.kIn_of Y) ?F ?S (fun _ _ _ _ z=>z)
 case F=>
  intro w mg fa h Y KX G hmg
  have e:=PySem.W.mg_of KX G (n:="same") (by k_is)
  cases hmg.symm.trans e
  refine' Wale.all_mk KX G hmg ?_ ?_ ?_ ?_ ?_ ?_ ?_ ?_ ?_ ?_ ?_ ?_ ?_ ?_ ?_ ?_ ?_ ?_ ?_ ?_ ?_ ?_ ?_ ?_ ?_ ?_ ?_ ?_ ?_ ?_ ?_ ?_ ?_ ?_ ?_ ?_ ?_ ?_ ?_ ?_ ?_ ?_ ?_ ?_ ?_ ?_ ?_ ?_ ?_ ?_ ?_ ?_ ?_ ?_ ?_ ?_ ?_ ?_ ?_ ?_ ?_ ?_ ?_ ?_ ?_ ?_ ?_ ?_ ?_ ?_ ?_ ?_ ?_ ?_ ?_ ?_ ?_ ?_ ?_ ?_ ?_ ?_ ?_ ?_ ?_ ?_ ?_ ?_ ?_ ?_ ?_ ?_ ?_ ?_ ?_ ?_ ?_ ?_ ?_ ?_ ?_ ?_ ?_ ?_ ?_ ?_ ?_ ?_ ?_ ?_ ?_ ?_ ?_ ?_ ?_ ?_ ?_ ?_ ?_ ?_ ?_ ?_ ?_ ?_ ?_ ?_ ?_ ?_ ?_ ?_ ?_ ?_ ?_ ?_ ?_ ?_ ?_ ?_ ?_ ?_ ?_ ?_ ?_ ?_ ?_ ?_ ?_ ?_ ?_ ?_ ?_ ?_ ?_ ?_ ?_ ?_ ?_ ?_ ?_ ?_ ?_ ?_ ?_ ?_ ?_ ?_ ?_ ?_ ?_ ?_ ?_ ?_ ?_ ?_ ?_ ?_ ?_ ?_ ?_ ?_ ?_ ?_ ?_ ?_ ?_ ?_ ?_
  all_goals repeat' first|refine And.intro ?_ ?_|apply Exists.intro|refine' L2.aG.mk ⟨_,_,_,_,_,_,_,_,_,rfl,?_,?_⟩ ?_|refine Wale.jW.mk ?_ ?_|refine L2.jc.mk ?_ ?_ ?_|k_is|kit_is|rfl|exact .nil|refine .cons ⟨_,rfl⟩ ?_|fail
 case S=>exact Wale.Nr
end
